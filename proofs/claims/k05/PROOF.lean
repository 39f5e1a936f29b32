import PyProof.Rows.All
import Wide.All
import OpenK.AllK
import Wide.FinOn
import Lean
import PyProof.EqAt
import PyProof.EqKinds
import PyProof.TupleCall
import PySem.Challenge.RW_tallysets_k05_sets_refused
open List renaming getElem?_eq_getElem → ju5, mem_cons_of_mem → ju6, mem_cons_self → ju7, mem_cons → ju8, size_toArray → ju9, getElem?_set → jva, getElem?_map → jvb, map_cons → jvc, getD_eq_getElem?_getD → jvd, length_map → jve, length_cons → jvf, mem_append_right → jvg, mem_of_getElem? → jvh, getElem?_append_right → jvi, length_append → jvj, filterMap_cons → jvk, getElem?_eq_none → jvl, getElem?_append_left → jvm, getElem?_set_ne → jvn, all_eq_true → jvo, getElem?_cons_zero → jvp, getElem?_cons_succ → jvq, length_nil → jvr, mem_append_left → jvs, length_set → jvt, append_nil → jvu, append_assoc → jvv, not_mem_nil → jvw
open PySem renaming wpAny_bind → jvx, wpAny_pure → jvy, wpAny_ite_false → jvz, wpAny_of_eq → jvA, wpAny_newObj_type → jvB, wpAny_holding → jvC, wpAny_field → jvD, wpAny_mono → jvE
open PySem.Heap renaming get?_push_of_some → jvF, lt_size → jvG, get?_push_size → jvH, get?_update_self → jvI, get?_update_other → jvJ
open Nat renaming le_refl → jvK, lt_of_lt_of_le → jvL, ne_of_lt → jvM, le_trans → jvN, lt_irrefl → jvO
open Bool renaming and_eq_true → jvP, false_eq_true → jvQ, false_ne_true → jvR
set_option linter.all false
set_option maxRecDepth 100000
set_option Elab.async false
set_option maxHeartbeats 4000000
set_option bootstrap.genMatcherCode false
set_option genSizeOfSpec false
set_option compiler.extract_closed false
local macro_rules | `(tactic| omega)=>`(tactic| first | lia | omega +splitDisjunctions)
namespace L2
open PySem PySem.Spec PyProof.Rows
noncomputable abbrev Key:=Sum Int Str
noncomputable def jqP:Key->Value->Bool
 |.inl k,v=>Value.isInt k v
 |.inr x,v=>Value.isStrOf x v
noncomputable def jus (w:World):Key->Int
 |.inl k=>hashInt k
 |.inr x=>hashStr w x
theorem jaA:∀{k:Key}{v:Value},jqP k v=true->(∃i t,k=Sum.inl i/\v=Value.int i t)\/(∃x t,k=Sum.inr x/\v=Value.str x t)
 |.inl i,v,h=>by
  obtain⟨t,e⟩:=Value.isInt_shape (k:=i) (v:=v) h;exact .inl ⟨i,t,rfl,e⟩
 |.inr x,v,h=>by
  obtain⟨t,e⟩:=Value.isStrOf_shape (x:=x) (v:=v) h;exact .inr ⟨x,t,rfl,e⟩
theorem jqQ (a b:Int):decide ((Sum.inl a:Key)=Sum.inl b)=(a == b):=by
 by_cases e:a=b
 ·subst e;simp
 ·have h:¬ (Sum.inl a:Key)=Sum.inl b:=fun q=>e (Sum.inl.inj q);rw[decide_eq_false h];exact(beq_eq_false_iff_ne.mpr e).symm
theorem jqR (a b:Str):decide ((Sum.inr a:Key)=Sum.inr b)=decide (a=b):=by
 by_cases e:a=b
 ·subst e;simp
 ·have h:¬ (Sum.inr a:Key)=Sum.inr b:=fun q=>e (Sum.inr.inj q);rw[decide_eq_false h,decide_eq_false e]
theorem jqS (a:Int)(b:Str):decide ((Sum.inl a:Key)=Sum.inr b)=false:=decide_eq_false (fun q=>nomatch q)
theorem jqT (a:Str)(b:Int):decide ((Sum.inr a:Key)=Sum.inl b)=false:=decide_eq_false (fun q=>nomatch q)
noncomputable def jgh (prog:Program)(w:World):PySem.KeyKind prog w Key where
 is:=jqP
 hash:=jus w
 inj:=fun v a b ha hb=>by
  rcases jaA ha with ⟨i,t,rfl,rfl⟩ | ⟨x,t,rfl,rfl⟩
  ·rcases jaA hb with ⟨j,u,rfl,e⟩ | ⟨y,u,rfl,e⟩
   ·injection e with e1 _;rw[e1]
   ·exact nomatch e
  ·rcases jaA hb with ⟨j,u,rfl,e⟩ | ⟨y,u,rfl,e⟩
   ·exact nomatch e
   ·injection e with e1 _;rw[e1]
 byValue:=fun k v h=>by
  rcases jaA h with ⟨i,t,rfl,rfl⟩ | ⟨x,t,rfl,rfl⟩ <;> rfl
 pyHash:=fun hv h=>by
  rcases jaA hv with ⟨i,t,rfl,rfl⟩ | ⟨x,t,rfl,rfl⟩
  ·exact wpAny_pyHash_int h
  ·exact wpAny_pyHash_str h
 eqBool:=fun hu hv h=>by
  rcases jaA hu with ⟨i,t,rfl,rfl⟩ | ⟨x,t,rfl,rfl⟩
  ·rcases jaA hv with ⟨j,u,rfl,rfl⟩ | ⟨y,u,rfl,rfl⟩
   ·rw[jqQ]at h;exact wpAny_eqBool_int h
   ·rw[jqS]at h;exact SeqAt.EqAt.int_str i t y u _ _ _ _ h
  ·rcases jaA hv with ⟨j,u,rfl,rfl⟩ | ⟨y,u,rfl,rfl⟩
   ·rw[jqT]at h;exact SeqAt.EqAt.str_int x t j u _ _ _ _ h
   ·rw[jqR]at h;exact wpAny_eqBool_str h
 «strs»:=fun k x t v h=>by
  rcases jaA h with ⟨i,u,rfl,e⟩ | ⟨y,u,rfl,e⟩
  ·exact nomatch e
  ·injection e with e1 _
   subst e1;cases v <;> rfl
end L2
namespace L2
open PySem PySem.Spec PyProof.Rows
inductive V where
 |non | bl (b:Bool) | int (i:Int) | str (x:Str) | byt (b:Array UInt8) | flt (b:UInt64) | ref (a:Addr) | ty (n:String)
 deriving DecidableEq
noncomputable def RelV:V->Value->Prop
 |.non,u=>u=Value.none
 |.bl b,u=>u=Value.bool b
 |.int i,u=>∃t,u=Value.int i t
 |.str x,u=>∃t,u=Value.str x t
 |.byt b,u=>∃t,u=Value.bytes b t
 |.flt b,u=>∃t,u=Value.float b t
 |.ref a,u=>u=Value.ref a
 |.ty n,u=>u=Value.type n
noncomputable abbrev Vals:List V->List Value->Prop:=Paired RelV
theorem Vals.length {xs:List V}{us:List Value}(r:Vals xs us):xs.length=us.length:=Paired.length r
theorem Vals.get:∀{xs:List V}{us:List Value}{i:Nat}{x:V},Vals xs us->xs[i]?=some x->∃u,us[i]?=some u/\RelV x u
 |_,_,_,_,.nil,e=>by simp at e
 |_,_,0,_,.cons r _,e=>by simp at e;subst e;exact⟨_,rfl,r⟩
 |_,_,i + 1,x,.cons _ t,e=>by
  obtain⟨u,h1,h2⟩:=Vals.get (i:=i) (x:=x) t (by simpa using e)
  exact⟨u,by simpa using h1,h2⟩
theorem Vals.set {x:V}{u:Value}(r:RelV x u):∀{xs:List V}{us:List Value} (i:Nat),Vals xs us->Vals (xs.set i x) (us.set i u)
 |_,_,_,.nil=>.nil
 |_,_,0,.cons _ t=>.cons r t
 |_,_,i + 1,.cons q t=>.cons q (Vals.set r i t)
theorem Vals.append {xs ys:List V}{us ws:List Value}(h:Vals xs us)(s:Vals ys ws):Vals (xs++ys) (us++ws):=by
 induction h with
 |nil=>exact s
 |cons r t ih=>exact .cons r ih
theorem Vals.take:∀{xs:List V}{us:List Value} (n:Nat),Vals xs us->Vals (xs.take n) (us.take n)
 |_,_,0,_=>.nil
 |_,_,_ + 1,.nil=>.nil
 |_,_,n + 1,.cons r t=>.cons r (Vals.take n t)
theorem Vals.drop:∀{xs:List V}{us:List Value} (n:Nat),Vals xs us->Vals (xs.drop n) (us.drop n)
 |_,_,0,r=>r
 |_,_,_ + 1,.nil=>.nil
 |_,_,n + 1,.cons _ t=>Vals.drop n t
noncomputable def jt4:Option V->Option Value->Prop
 |some v,some u=>RelV v u
 |none,none=>True
 |_,_=>False
noncomputable def KV {κ:Type}:List (κ×V)->List (κ×Value)->Prop:=Paired fun (p:κ×V) (q:κ×Value)=>p.1=q.1/\RelV p.2 q.2
noncomputable def kV:Key->V
 |.inl i=>.int i
 |.inr x=>.str x
inductive HO where
 |lst (xs:List V)
 |tup (xs:List V)
 |dK (kvs:List (Key×V)) | dT (kvs:List (List Key×V))
 |set (S:Int->Bool) (n:Nat)
 |ins (C dx:Addr) (fs:List (Str×V))
 |own (x:Addr)
 |xd (fs:List (Str×V))
 |met (f x:Addr)
 |rng (lo hi:Int)
 |frz (o:Obj) (u:HO)
 |tbl (ps:Array Value)
 |ext (φ:Heap->Prop)
noncomputable abbrev Hp:=Addr->Option HO
noncomputable def upd (H:Hp)(a:Addr)(o:HO):Hp:=fun b=>if b=a then some o else H b
theorem jan {H:Hp}{a:Addr}{o:HO}:upd H a o a=some o:=by unfold upd;rw[if_pos rfl]
theorem jaf {H:Hp}{a b:Addr}{o:HO}(h:b≠a):upd H a o b=H b:=by unfold upd;rw[if_neg h]
theorem jac {H:Hp}{a b:Addr}{o:HO}(h:H a=some o)(h':H b=none):a≠b:=by
 intro e;subst e;rw[h]at h';cases h'
section
variable (P:Program) (w:World)
noncomputable def ObjOk (H:Hp)(h:Heap)(a:Addr):HO->Prop
 |.lst xs=>xs.length<=sizeLine/\∃(its:List Value) (n:Nat),Vals xs its/\h.get? a=some { cls:=.type "list",data:=.seq its.toArray n }
 |.tup xs=>xs.length<=sizeLine/\∃its:List Value,Vals xs its/\IsTup h a its.toArray
 |.dK kvs=>kvs.length<=sizeLine/\(a == sysModules)=false/\∃vs,KV kvs vs/\h.DictOf (jgh P w) a vs
 |.dT kvs=>kvs.length<=sizeLine/\(a == sysModules)=false/\∃xs:List (List Key×Addr×Value),
   Paired (fun (p:List Key×V) (q:List Key×Addr×Value)=>p.1=q.1/\H q.2.1=some (.tup (p.1.map kV))/\RelV p.2 q.2.2) kvs xs /\
   ∃o es ep,h.get? a=some o/\o.ExactDict/\o.data=.dict es ep/\es.toList=xs.map (entryOfKey (tupleKind (jgh P w)))/\(xs.map (·.1)).Nodup
 |.set S n=>h.SetOf (intKind P w) a S n
 |.ins C dx fs=>H dx=some (.own a)/\fs.length<=1000/\dx≠a/\h.get? a=some (PySem.W.instObj C dx) /\
   ∃mA,h.Ns1 dx mA/\(∀f,jt4 (fs.lookup f) (mA f))/\PySem.Within mA (fs.map (·.1))
 |.own _=>∃o,h.get? a=some o
 |.xd fs=>∃mA,h.Ns1 a mA/\∀f,jt4 (fs.lookup f) (mA f)
 |.rng lo hi=>∃t u v,h.get? a=some { cls:=.type "range",data:=.fields #[.int lo t,.int hi u,.int 1 v] }
 |.frz o u=>h.get? a=some o/\ObjOk H h a u
 |.tbl ps=>h.get? a=some { cls:=.none,data:=.fields ps }
 |.met f x=>h.get? a=some (PySem.W.methodObj (.ref f) (.ref x))
 |.ext φ=>φ h/\(∃o,h.get? a=some o)/\∀h1 h2:Heap,φ h1->(∀o,h1.get? a=some o->h2.get? a=some o)->φ h2
noncomputable def HOk (H:Hp)(h:Heap):Prop:=∀a o,H a=some o->ObjOk P w H h a o
end
section
variable {P:Program}{w:World}{H H':Hp}{h h':Heap}{a:Addr}{o:HO}
theorem ObjOk.lt (x:ObjOk P w H h a o):a < h.objs.size:=by
 cases o with
 |lst xs=>obtain⟨_,_,_,_,e⟩:=x;exact jvG e
 |tup xs=>obtain⟨_,_,_,p⟩:=x;exact p.lt
 |dK kvs=>obtain⟨_,_,_,_,o,_,_,e,_⟩:=x;exact jvG e
 |dT kvs=>obtain⟨_,_,_,_,o,_,_,e,_⟩:=x;exact jvG e
 |set S n=>obtain⟨o,_,_,_,e,_⟩:=x;exact jvG e
 |ins C dx fs=>obtain⟨_,_,_,e,_⟩:=x;exact jvG e
 |own y=>obtain⟨_,e⟩:=x;exact jvG e
 |xd fs=>obtain⟨_,⟨_,_,_,e,_⟩,_⟩:=x;exact jvG e
 |rng lo hi=>obtain⟨_,_,_,e⟩:=x;exact jvG e
 |frz ob u=>obtain⟨e,_⟩:=x;exact jvG e
 |tbl ps=>exact jvG (show h.get? a=some _ from x)
 |met f y=>exact jvG (show h.get? a=some _ from x)
 |ext φ=>obtain⟨_,⟨_,e⟩,_⟩:=x;exact jvG e
theorem Paired.mapP {α β:Type}{F G:α->β->Prop}{l₁:List α}{l₂:List β}(h:Paired F l₁ l₂)(f:∀a b,F a b->G a b):Paired G l₁ l₂:=by
 induction h with
 |nil=>exact .nil
 |cons r t ih=>exact .cons (f _ _ r) ih
theorem ObjOk.stay (x:ObjOk P w H h a o)(k:∀b u,(b=a\/H b=some (.own a))->h.get? b=some u->h'.get? b=some u)
  (ho:∀b,H b=some (.own a)->H' b=some (.own a)) (ht:∀b xs,H b=some (.tup xs)->H' b=some (.tup xs)):ObjOk P w H' h' a o:=by
 induction o with
 |lst xs=>obtain⟨z,its,n,r,e⟩:=x;exact⟨z,its,n,r,k _ _ (.inl rfl) e⟩
 |tup xs=>obtain⟨z,its,r,ob,e,c⟩:=x;exact⟨z,its,r,ob,k _ _ (.inl rfl) e,c⟩
 |dK kvs=>obtain⟨z,y,vs,r,ob,es,ep,e,c⟩:=x;exact⟨z,y,vs,r,ob,es,ep,k _ _ (.inl rfl) e,c⟩
 |dT kvs=>
  obtain⟨z,y,xs,r,ob,es,ep,e,c⟩:=x;exact⟨z,y,xs,Paired.mapP r fun p q z=>⟨z.1,ht _ _ z.2.1,z.2.2⟩,ob,es,ep,k _ _ (.inl rfl) e,c⟩
 |set S n=>obtain⟨ob,es,ep,t,e,c⟩:=x;exact⟨ob,es,ep,t,k _ _ (.inl rfl) e,c⟩
 |ins C dx fs=>
  obtain⟨d,z,ne,e,mA,⟨od,es,ep,e2,c⟩,r⟩:=x;exact⟨ho _ d,z,ne,k _ _ (.inl rfl) e,mA,⟨od,es,ep,k _ _ (.inr d) e2,c⟩,r⟩
 |own y=>obtain⟨ob,e⟩:=x;exact⟨ob,k _ _ (.inl rfl) e⟩
 |xd fs=>obtain⟨mA,⟨od,es,ep,e,c⟩,r⟩:=x;exact⟨mA,⟨od,es,ep,k _ _ (.inl rfl) e,c⟩,r⟩
 |rng lo hi=>obtain⟨t,u,v,e⟩:=x;exact⟨t,u,v,k _ _ (.inl rfl) e⟩
 |frz ob u ih=>obtain⟨e,q⟩:=x;exact⟨k _ _ (.inl rfl) e,ih q⟩
 |tbl ps=>
  have e:h.get? a=some { cls:=.none,data:=.fields ps }:=x;show h'.get? a=some { cls:=.none,data:=.fields ps };exact k a _ (.inl rfl) e
 |met f y=>
  have e:h.get? a=some (PySem.W.methodObj (.ref f) (.ref y)):=x;show h'.get? a=some (PySem.W.methodObj (.ref f) (.ref y));exact k a _ (.inl rfl) e
 |ext φ=>obtain⟨p,⟨o,e⟩,st⟩:=x;exact⟨st _ _ p fun o q=>k _ _ (.inl rfl) q,⟨o,k _ _ (.inl rfl) e⟩,st⟩
theorem HOk.lt (x:HOk P w H h)(e:H a=some o):a < h.objs.size:=(x a o e).lt
theorem HOk.fresh (x:HOk P w H h)(e:h.objs.size<=a):H a=none:=by
 cases q:H a with
 |none=>rfl
 |some u=>exact absurd (jvL (x.lt q) e) (jvO _)
theorem HOk.kept (x:HOk P w H h)(k:∀b u,h.get? b=some u->h'.get? b=some u):HOk P w H h':=fun a o e=>
 (x a o e).stay (fun b u _ q=>k b u q) (fun _ q=>q) fun _ _ q=>q
theorem HOk.laid (x:HOk P w H h)(k:∀b u,h.get? b=some u->h'.get? b=some u)(hp:h.objs.size<=a)(new:ObjOk P w (upd H a o) h' a o):HOk P w (upd H a o) h':=fun b u e=>by
 have hn:=x.fresh hp;by_cases hb:b=a
 ·subst hb;rw[jan]at e;cases e;exact new
 ·rw[jaf hb]at e;exact(x b u e).stay (fun c v _ q=>k c v q) (fun c q=>by rw[jaf (jac q hn)];exact q) fun c xs q=>by rw[jaf (jac q hn)];exact q
end
noncomputable def Rd (H:Hp)(a:Addr)(u:HO):Prop:=H a=some u\/∃o,H a=some (.frz o u)
theorem Rd.ok {P:Program}{w:World}{H:Hp}{h:Heap}{a:Addr}{u:HO}(r:Rd H a u)(x:HOk P w H h):ObjOk P w H h a u:=by
 rcases r with r | ⟨o,r⟩
 ·exact x a u r
 ·obtain⟨_,q⟩:=x a _ r;exact q
noncomputable def Mut:Option HO->Prop
 |some (.lst _)=>True
 |some (.dK _)=>True
 |some (.dT _)=>True
 |some (.set _ _)=>True
 |some (.ins _ _ _)=>True
 |some (.ext _)=>True
 |_=>False
section
variable {P:Program}{w:World}{H:Hp}{h h':Heap}{x e:Addr}{o':HO}
theorem HOk.write (ok:HOk P w H h)(mu:Mut (H x))(he:e=x\/H e=some (.own x))(k:∀b u,b≠e->h.get? b=some u->h'.get? b=some u)(heo:∃u,h'.get? e=some u)
  (new:ObjOk P w (upd H x o') h' x o'):HOk P w (upd H x o') h':=fun b u q=>by
 have nown:∀c y,H c=some (.own y)->c≠x:=fun c y r z=>by subst z;rw[r]at mu;exact mu
 have ntup:∀c xs,H c=some (.tup xs)->c≠x:=fun c xs r z=>by subst z;rw[r]at mu;exact mu
 by_cases hb:b=x
 ·subst hb;rw[jan]at q;cases q;exact new
 ·rw[jaf hb]at q;by_cases hbe:b=e
  ·have q':H b=some (.own x):=by
    rcases he with z | z
    ·exact absurd (hbe.trans z) hb
    ·rw[hbe];exact z
   rw[q]at q';cases q';obtain⟨v,hv⟩:=heo;exact⟨v,by rw[hbe];exact hv⟩
  ·refine(ok b u q).stay (fun c v hc r=>k c v ?_ r) (fun c r=>by rw[jaf (nown c b r)];exact r) fun c xs r=>by rw[jaf (ntup c xs r)];exact r
   rcases hc with rfl | hc
   ·exact hbe
   ·rintro rfl;rcases he with z | z
    ·exact nown c b hc z
    ·rw[hc]at z;cases z;exact hb rfl
end
structure Un (fs ex:List Addr)(H H':Hp)(h h':Heap):Prop where
 keep:∀b o,h.get? b=some o->H b=none->b ∉ fs->b ∉ ex->h'.get? b=some o
 slot:∀b o,h.get? b=some o->H b=none->b∈fs->b ∉ ex->∃sl,h'.get? b=some { o with slots:=sl }
 free:∀b o,h.get? b=some o->H b=none->b ∉ ex->H' b=none
 there:∀b o,h.get? b=some o->b ∉ ex->∃o',h'.get? b=some o'
 tups:∀b xs,H b=some (.tup xs)->H' b=some (.tup xs)
 frzs:∀b o u,H b=some (.frz o u)->H' b=some (.frz o u)
 tbls:∀b ps,H b=some (.tbl ps)->∃more,H' b=some (.tbl (ps++more))
section
variable {fs fs' ex ex':List Addr}{H H1 H2:Hp}{h h1 h2 h':Heap}{a x e:Addr}{o:HO}
theorem Un.any (u:Un fs ex H H1 h h1){b:Addr}{ob:Obj}(q:h.get? b=some ob)(n:H b=none)(hx:b ∉ ex):∃sl,h1.get? b=some { ob with slots:=sl }:=by
 by_cases hb:b∈fs
 ·exact u.slot b ob q n hb hx
 ·exact⟨ob.slots,u.keep b ob q n hb hx⟩
theorem Un.kept (k:∀b u,h.get? b=some u->h'.get? b=some u):Un fs ex H H h h':=
 ⟨fun b ob q _ _ _=>k b ob q,fun b ob q _ _ _=>⟨ob.slots,k b ob q⟩,fun _ _ _ n _=>n,fun b ob q _=>⟨ob,k b ob q⟩,fun _ _ q=>q,fun _ _ _ q=>q,fun _ ps q=>⟨#[],by rw[q];simp⟩⟩
theorem Un.refl:Un fs ex H H h h:=Un.kept fun _ _ q=>q
theorem Un.laid (k:∀b u,h.get? b=some u->h'.get? b=some u)(hp:h.objs.size<=a)(hn:H a=none):Un fs ex H (upd H a o) h h' where
 keep:=fun b u q _ _ _=>k b u q
 slot:=fun b u q _ _ _=>⟨u.slots,k b u q⟩
 free:=fun b u q n _=>by rw[jaf (jvM (jvL (jvG q) hp))];exact n
 there:=fun b u q _=>⟨u,k b u q⟩
 tups:=fun b xs q=>by rw[jaf (jac q hn)];exact q
 frzs:=fun b u xs q=>by rw[jaf (jac q hn)];exact q
 tbls:=fun b ps q=>⟨#[],by rw[jaf (jac q hn),q];simp⟩
theorem Un.write (mu:Mut (H x))(he:e=x\/H e=some (.own x))(k:∀b u,b≠e->h.get? b=some u->h'.get? b=some u)(heo:∃u,h'.get? e=some u):Un fs ex H (upd H x o) h h':=by
 have hx:∀b,H b=none->b≠x:=fun b n z=>by subst z;rw[n]at mu;exact mu
 have hb:∀b,H b=none->b≠e:=fun b n z=>by
  subst z;rcases he with r | r
  ·exact hx b n r
  ·rw[n]at r;cases r
 have hm:∀b u,H b=some u->¬ Mut (some u)->b≠x:=fun b u q nm z=>by subst z;rw[q]at mu;exact nm mu
 refine⟨fun b u q n _ _=>k b u (hb b n) q,fun b u q n _ _=>⟨u.slots,k b u (hb b n) q⟩,fun b u q n _=>by rw[jaf (hx b n)];exact n,fun b u q _=>?_,
  fun b xs q=>by rw[jaf (hm b _ q fun z=>z)];exact q,fun b u xs q=>by rw[jaf (hm b _ q fun z=>z)];exact q,fun b ps q=>⟨#[],by rw[jaf (hm b _ q fun z=>z),q];simp⟩⟩
 by_cases hbe:b=e
 ·subst hbe;exact heo
 ·exact⟨u,k b u hbe q⟩
end
noncomputable def trk (h:Heap)(H:Hp):List Addr:=(List.range h.objs.size).filter fun a=>(H a).isSome
noncomputable def jlT (h:Heap)(H:Hp):Heap:=PySem.W.hideAll h (trk h H)
theorem jjt (h:Heap)(H:Hp):(jlT h H).objs.size=h.objs.size:=PySem.W.hideAll_size _ _
theorem jlU {h:Heap}{H:Hp}{b:Addr}{o:Obj}(e:h.get? b=some o)(n:H b=none):(jlT h H).get? b=some o:=
 PySem.W.hideAll_get _ e fun hm=>by
  have q:(H b).isSome=true:=(List.mem_filter.mp hm).2;rw[n]at q;simp at q
theorem joG {h:Heap}{H:Hp}{b:Addr}{o:Obj}(e:(jlT h H).get? b=some o):h.get? b=some o/\H b=none:=by
 have e':h.get? b=some o:=PySem.W.of_hideAll (trk h H) e;refine⟨e',?_⟩;cases q:H b with
 |none=>rfl
 |some x=>
  have hm:b∈trk h H:=List.mem_filter.mpr ⟨List.mem_range.mpr (jvG e'),by simp[q]⟩
  have z:(jlT h H).get? b=none:=PySem.W.hideAll_none (trk h H) hm;rw[z]at e;cases e
noncomputable def joH (g h:Heap)(L:Addr):List (Addr×Obj):=(List.range h.objs.size).filterMap fun a=>if a=L\/(g.get? a).isSome=true then none else (h.get? a).map fun o=>(a,o)
noncomputable def jdB (g h:Heap)(L d:Addr):List (Addr×Obj):=(joH g h L).filter fun p=>decide (p.1≠d)
end L2
namespace L2
open PySem PySem.Spec PyProof.Rows
structure Mod (K:PySem.W.Frag)(mg:Str->Option Value)(base:Heap):Prop where
 kin:K.In base
 glob:base.Ns mainGlobals mg
 blt:∃mb,base.Ns builtinsNs mb/\∀x:Str,x≠"__name__"->mb x=bootBuiltins x
 nolimit:base.NoLimit
structure Cx where
 prog:Program
 w:World
 K:PySem.W.Frag
 mg:Str->Option Value
 base:Heap
 A:Around
 N:List Str
 s₀:Shared
 H₀:Hp
 env:Env
 outer:List Env
 stack:List Env
 ex:List Addr
 fn:Str->Bool
 calm:Bool
 pn:List (Addr×Obj)
 xe:Value->Shared->Prop
noncomputable def frs (l:List Env):List Addr:=l.filterMap (·.frame)
noncomputable abbrev Cx.fs (X:Cx):List Addr:=frs X.outer
noncomputable def Vis (sc:Scope)(x:Str):Prop:=sc.names.lookup x=some .local\/sc.names.lookup x=some .cell\/sc.names.lookup x=some .free
noncomputable def Loc (sc:Scope)(x:Str):Prop:=sc.names.lookup x=some .local\/sc.names.lookup x=some .cell
noncomputable def Look (env:Env)(h:Heap)(m:Str->Option Value)(x:Str)(u:Value):Prop:=
 (env.kindOf x=some .local/\m x=some u)\/((env.kindOf x=some .cell\/env.kindOf x=some .free)/\∃c,env.cells.lookup x=some c/\h.IsCell c (some u))
structure Cx.Ok (X:Cx):Prop where
 mod:Mod X.K X.mg X.base
 kind:X.env.scope.kind=.function
 glob:X.env.globals=mainGlobals
 blt:X.env.builtins=builtinsNs
 above:X.s₀.heap.objs.size<=X.env.locals
 inj:∀x y c,X.env.cells.lookup x=some c->X.env.cells.lookup y=some c->x=y
 has:∀x,(X.env.kindOf x=some .cell\/X.env.kindOf x=some .free)->∃c,X.env.cells.lookup x=some c
 cab:∀x c,X.fn x=true->X.env.cells.lookup x=some c->X.s₀.heap.objs.size<=c
 hd:X.calm=true->X.A.handled=none
 frames:X.A.frames=some X.stack
 stk:X.stack=X.outer\/(X.stack=X.env::X.outer/\X.env.frame=some X.env.locals)
 exf:∀b∈X.ex,b≠X.env.locals/\∀x c,X.env.cells.lookup x=some c->c≠b
 bs:∀b o,X.base.get? b=some o->X.s₀.heap.get? b=some o/\X.H₀ b=none
 bsz:X.base.objs.size<=X.s₀.heap.objs.size
 noex:∀b o,X.base.get? b=some o->b ∉ X.ex
 exfs:∀b∈X.ex,b ∉ X.fs
 funs:X.s₀.heap.FunFrames X.base X.outer
 frf:∀b∈X.fs,X.H₀ b=none
structure Inv (X:Cx)(pins:List (Addr×Obj))(σ:List (Option V))(H:Hp)(s:Shared):Prop where
 ok:X.Ok
 os:s.os=X.s₀.os
 bare:AllBare s.gens
 base:Un X.fs X.ex X.H₀ H X.s₀.heap s.heap
 loc:∃m,s.heap.Ns X.env.locals m/\∀(i:Nat) (x:Str) (v:V),X.N[i]?=some x->σ[i]?=some (some v)->Vis X.env.scope x->∃u,RelV v u/\Look X.env s.heap m x u
 cell:∀x c,X.env.cells.lookup x=some c->∃v,s.heap.IsCell c v
 free:H X.env.locals=none
 freeC:∀x c,X.env.cells.lookup x=some c->H c=none
 pin:∀p∈X.pn++pins,s.heap.get? p.1=some p.2/\H p.1=none/\p.1≠X.env.locals/\p.1 ∉ X.fs/\∀v,p.2.data≠.cell v
 hok:HOk X.prog X.w H s.heap
 len:σ.length=X.N.length
section
variable {X:Cx}{pins:List (Addr×Obj)}{σ:List (Option V)}{H H':Hp}{s:Shared}{h':Heap}
theorem Cx.Ok.nofr (ok:X.Ok){b:Addr}{o:Obj}(e:X.base.get? b=some o):b ∉ X.fs:=fun hb=>by
 have:=(ok.funs.mem hb).1;rw[e]at this;cases this
theorem Inv.bs (I:Inv X pins σ H s):∀b o,X.base.get? b=some o->s.heap.get? b=some o/\H b=none:=fun b o e=>
 ⟨I.base.keep b o (I.ok.bs b o e).1 (I.ok.bs b o e).2 (I.ok.nofr e) (I.ok.noex b o e),I.base.free b o (I.ok.bs b o e).1 (I.ok.bs b o e).2 (I.ok.noex b o e)⟩
theorem Inv.bk (I:Inv X pins σ H s):∀b o,X.base.get? b=some o->s.heap.get? b=some o:=fun b o e=>(I.bs b o e).1
theorem Inv.mod (I:Inv X pins σ H s):Mod X.K X.mg X.base:=I.ok.mod
theorem Inv.kIn (I:Inv X pins σ H s):X.K.In s.heap:=I.ok.mod.kin.keeps I.bk
theorem Inv.lt (I:Inv X pins σ H s):X.env.locals < s.heap.objs.size:=let ⟨_,hn,_⟩:=I.loc;hn.lt
theorem Inv.sz (I:Inv X pins σ H s):X.s₀.heap.objs.size<=s.heap.objs.size:=jvN I.ok.above (Nat.le_of_lt I.lt)
theorem Inv.nofs (I:Inv X pins σ H s){a:Addr}(h:s.heap.objs.size<=a):a ∉ X.fs:=fun hb=>by
 obtain⟨_,o,ho,_⟩:=I.ok.funs.mem hb;exact absurd (jvL (jvG ho) (jvN I.sz h)) (jvO _)
theorem Inv.cne (I:Inv X pins σ H s):∀x c,X.env.cells.lookup x=some c->c≠X.env.locals:=fun x c e z=>by
 obtain⟨v,o,ho,hd⟩:=I.cell x c e;obtain⟨m,⟨o',es,ep,ho',hd',_⟩,_⟩:=I.loc;rw[z,ho']at ho;cases ho;rw[hd']at hd;cases hd
theorem Inv.funs (I:Inv X pins σ H s):s.heap.FunFrames X.base X.outer:=by
 have all:∀(l:List Env),(∀b∈frs l,b∈X.fs)->X.s₀.heap.FunFrames X.base l->s.heap.FunFrames X.base l:=by
  intro l;induction l with
  |nil=>intro _ _;trivial
  |cons env r ih=>
   intro hs hl;obtain⟨hk,⟨L,o,hf,hn,ho,hd⟩,hr⟩:=hl;have hL:L∈X.fs:=hs L (by unfold frs;rw[jvk,hf];exact ju7)
   obtain⟨sl,e⟩:=I.base.slot L o ho (I.ok.frf L hL) hL fun z=>I.ok.exfs L z hL;exact⟨hk,⟨L,_,hf,hn,e,hd⟩,ih (fun b hb=>hs b (by unfold frs;rw[jvk,hf];exact ju6 _ hb)) hr⟩
 exact all X.outer (fun _ hb=>hb) I.ok.funs
theorem Inv.stack (I:Inv X pins σ H s):s.heap.FunFrames X.base X.stack:=by
 rcases I.ok.stk with e | ⟨e,hf⟩
 ·rw[e];exact I.funs
 ·rw[e];obtain⟨m,hn,_⟩:=I.loc;refine .cons (by rw[I.ok.kind];decide) hf hn ?_ I.funs
  exact Heap.get?_none_of_le (jvN I.ok.bsz I.ok.above)
theorem Inv.stkSub (I:Inv X pins σ H s):∀b∈frs X.stack,b∈X.env.locals::X.fs:=fun b hb=>by
 rcases I.ok.stk with e | ⟨e,hf⟩
 ·rw[e]at hb;exact ju6 _ hb
 ·rw[e]at hb;unfold frs at hb;rw[jvk,hf]at hb;exact hb
theorem Inv.stkFree (I:Inv X pins σ H s):∀b∈frs X.stack,H b=none:=fun b hb=>by
 rcases List.mem_cons.mp (I.stkSub b hb)with e | hb
 ·rw[e];exact I.free
 ·obtain⟨_,o,ho,_⟩:=I.ok.funs.mem hb;exact I.base.free b o ho (I.ok.frf b hb) fun z=>I.ok.exfs b z hb
theorem Inv.step {g':Array GenState}{t':Nat}{d':Drawn}{ch:List Addr}(I:Inv X pins σ H s)
  (hch:∀b∈ch,(b∈X.ex\/X.s₀.heap.objs.size<=b)/\b≠X.env.locals/\(∀x c,X.env.cells.lookup x=some c->c≠b)/\∀p∈X.pn++pins,p.1≠b)
  (keep:∀b o,b≠X.env.locals->b ∉ X.fs->b ∉ ch->s.heap.get? b=some o->H b=none->h'.get? b=some o)
  (slot:∀b o,b≠X.env.locals->b∈X.fs->b ∉ ch->s.heap.get? b=some o->H b=none->∃sl,h'.get? b=some { o with slots:=sl }) (free:∀b o,b ∉ ch->s.heap.get? b=some o->H b=none->H' b=none)
  (there:∀b o,b ∉ ch->s.heap.get? b=some o->∃o',h'.get? b=some o')
  (tups:∀b xs,H b=some (.tup xs)->H' b=some (.tup xs)) (frzs:∀b o u,H b=some (.frz o u)->H' b=some (.frz o u)) (tbls:∀b ps,H b=some (.tbl ps)->∃more,H' b=some (.tbl (ps++more)))
  (ns:∀m,s.heap.Ns X.env.locals m->h'.Ns X.env.locals m) (hok:HOk X.prog X.w H' h') (hg:AllBare g') :
  Inv X pins σ H' { s with heap:=h',gens:=g',drawn:=d',toks:=t' }:=by
 have neL:∀b o,X.s₀.heap.get? b=some o->b≠X.env.locals:=fun b o e=>jvM (jvL (jvG e) I.ok.above);have neC:∀b o,X.s₀.heap.get? b=some o->b ∉ X.ex->b ∉ ch:=fun b o e hx hb=>by
  rcases (hch b hb).1 with z | z
  ·exact hx z
  ·exact absurd (jvL (jvG e) z) (jvO _)
 have cellK:∀x c,X.env.cells.lookup x=some c->∀v,s.heap.IsCell c v->h'.IsCell c v:=fun x c e v ⟨o,ho,hd⟩=>by
  have nch:c ∉ ch:=fun z=>(hch c z).2.2.1 x c e rfl;by_cases hc:c∈X.fs
  ·obtain⟨sl,q⟩:=slot c o (I.cne x c e) hc nch ho (I.freeC x c e);exact⟨_,q,hd⟩
  ·exact⟨o,keep c o (I.cne x c e) hc nch ho (I.freeC x c e),hd⟩
 refine⟨I.ok,I.os,hg,⟨fun b o e n hb hx=>?_,fun b o e n hb hx=>?_,fun b o e n hx=>?_,fun b o e hx=>?_,fun b xs e=>tups b xs (I.base.tups b xs e),fun b o xs e=>frzs b o xs (I.base.frzs b o xs e),fun b ps e=>?_⟩,?_,fun x c e=>?_,?_,fun x c e=>?_,fun p hp=>?_,hok,I.len⟩
 ·exact keep b o (neL b o e) hb (neC b o e hx) (I.base.keep b o e n hb hx) (I.base.free b o e n hx)
 ·obtain⟨sl,e1⟩:=I.base.slot b o e n hb hx;obtain⟨sl',e2⟩:=slot b _ (neL b o e) hb (neC b o e hx) e1 (I.base.free b o e n hx);exact⟨sl',e2⟩
 ·obtain⟨o',e1⟩:=I.base.there b o e hx;exact free b o' (neC b o e hx) e1 (I.base.free b o e n hx)
 ·obtain⟨o',e1⟩:=I.base.there b o e hx;exact there b o' (neC b o e hx) e1
 ·obtain⟨m1,e1⟩:=I.base.tbls b ps e;obtain⟨m2,e2⟩:=tbls b _ e1;exact⟨m1++m2,by rw[e2,Array.append_assoc]⟩
 ·obtain⟨m,hn,hl⟩:=I.loc;refine⟨m,ns m hn,fun i x v e1 e2 e3=>?_⟩;obtain⟨u,r,l⟩:=hl i x v e1 e2 e3;refine⟨u,r,?_⟩;rcases l with l | ⟨k,c,e,z⟩
  ·exact .inl l
  ·exact .inr ⟨k,c,e,cellK x c e _ z⟩
 ·obtain⟨v,z⟩:=I.cell x c e;exact⟨v,cellK x c e v z⟩
 ·obtain⟨m,⟨o,_,_,ho,_⟩,_⟩:=I.loc;exact free _ o (fun z=>(hch _ z).2.1 rfl) ho I.free
 ·obtain⟨v,o,ho,hd⟩:=I.cell x c e;exact free c o (fun z=>(hch c z).2.2.1 x c e rfl) ho (I.freeC x c e)
 ·obtain⟨e,n,ne,nf,d⟩:=I.pin p hp;have nch:p.1 ∉ ch:=fun z=>(hch p.1 z).2.2.2 p hp rfl;exact⟨keep p.1 p.2 ne nf nch e n,free p.1 p.2 nch e n,ne,nf,d⟩
theorem Inv.un {t':Nat}(I:Inv X pins σ H s)(u:Un X.fs [] H H' s.heap h')(hok:HOk X.prog X.w H' h'):Inv X pins σ H' { s with heap:=h',toks:=t' }:=by
 obtain⟨m,⟨o,es,ep,ho,r⟩,_⟩:=id I.loc;obtain⟨sl,hL⟩:=u.any ho I.free (by simp)
 exact I.step (g':=s.gens) (d':=s.drawn) (ch:=[]) (fun _ z=>nomatch z) (fun b o _ hb _ e n=>u.keep b o e n hb (by simp)) (fun b o _ hb _ e n=>u.slot b o e n hb (by simp)) (fun b o _ e n=>u.free b o e n (by simp)) (fun b o _ e=>u.there b o e (by simp)) u.tups u.frzs u.tbls (fun m' hm=>by
  obtain⟨o',es',ep',ho',r'⟩:=hm;rw[ho]at ho';cases ho';exact⟨_,es',ep',hL,r'⟩) hok I.bare
theorem Inv.call {g':Array GenState}{t':Nat}{d':Drawn}{ch:List Addr}(I:Inv X pins σ H s)(u:Un (frs X.stack) ch H H' s.heap h')(hok:HOk X.prog X.w H' h')(hg:AllBare g')
  (hch:∀b∈ch,(b∈X.ex\/X.s₀.heap.objs.size<=b)/\b≠X.env.locals/\(∀x c,X.env.cells.lookup x=some c->c≠b)/\∀p∈X.pn++pins,p.1≠b) :
  Inv X pins σ H' { s with heap:=h',gens:=g',drawn:=d',toks:=t' }:=by
 obtain⟨m,⟨o,es,ep,ho,r⟩,_⟩:=id I.loc;obtain⟨sl,hL⟩:=u.any ho I.free fun z=>(hch _ z).2.1 rfl;exact I.step (ch:=ch) hch (fun b o hL hb hc e n=>u.keep b o e n (fun z=>(List.mem_cons.mp (I.stkSub b z)).elim hL hb) hc) (fun b o _ _ hc e n=>u.any e n hc) (fun b o hc e n=>u.free b o e n hc) (fun b o hc e=>u.there b o e hc) u.tups u.frzs u.tbls (fun m' hm=>by
  obtain⟨o',es',ep',ho',r'⟩:=hm;rw[ho]at ho';cases ho';exact⟨_,es',ep',hL,r'⟩) hok hg
theorem Inv.turned {t':Nat}{it:Addr}(I:Inv X pins σ H s)(k:∀b o,b≠it->s.heap.get? b=some o->h'.get? b=some o)(hn:H it=none)(hL:it≠X.env.locals)
  (h1:it∈X.ex\/X.s₀.heap.objs.size<=it) (h2:∀x c,X.env.cells.lookup x=some c->c≠it) (h3:∀p∈X.pn++pins,p.1≠it):Inv X pins σ H { s with heap:=h',toks:=t' }:=by
 have nit:∀b u,H b=some u->b≠it:=fun b u e z=>by rw[z,hn]at e;cases e
 refine I.step (g':=s.gens) (d':=s.drawn) (ch:=[it]) (fun b hb=>?_) (fun b o _ _ hc e _=>k b o (fun z=>hc (by simp[z])) e) (fun b o _ _ hc e _=>⟨o.slots,k b o (fun z=>hc (by simp[z])) e⟩) (fun _ _ _ _ n=>n)
  (fun b o hc e=>⟨o,k b o (fun z=>hc (by simp[z])) e⟩) (fun _ _ e=>e) (fun _ _ _ e=>e) (fun b ps e=>⟨#[],by rw[e];simp⟩) (fun m hm=>?_) (fun b u e=>?_) I.bare
 ·have e:b=it:=by simpa using hb
  subst e;exact⟨h1,hL,h2,h3⟩
 ·obtain⟨o,es,ep,ho,r⟩:=hm;exact⟨o,es,ep,k _ o (Ne.symm hL) ho,r⟩
 ·refine(I.hok b u e).stay (fun c v hc q=>k c v ?_ q) (fun _ q=>q) fun _ _ q=>q;rcases hc with z | z
  ·rw[z];exact nit b u e
  ·exact nit c _ z
theorem Inv.tok (I:Inv X pins σ H s)(t:Nat):Inv X pins σ H { s with toks:=t }:=I.un (h':=s.heap) (t':=t) Un.refl I.hok
theorem Inv.kept {t':Nat}(I:Inv X pins σ H s)(k:∀b u,s.heap.get? b=some u->h'.get? b=some u):Inv X pins σ H { s with heap:=h',toks:=t' }:=I.un (Un.kept k) (I.hok.kept k)
theorem Inv.laid {a:Addr}{o:HO}{t':Nat}(I:Inv X pins σ H s)(k:∀b u,s.heap.get? b=some u->h'.get? b=some u)(hp:s.heap.objs.size<=a)(new:ObjOk X.prog X.w (upd H a o) h' a o) :
  Inv X pins σ (upd H a o) { s with heap:=h',toks:=t' }:=I.un (Un.laid k hp (I.hok.fresh hp)) (I.hok.laid k hp new)
theorem Inv.write {x e:Addr}{o:HO}{t':Nat}(I:Inv X pins σ H s)(mu:Mut (H x))(he:e=x\/H e=some (.own x))(k:∀b u,b≠e->s.heap.get? b=some u->h'.get? b=some u)(heo:∃u,h'.get? e=some u)
  (new:ObjOk X.prog X.w (upd H x o) h' x o):Inv X pins σ (upd H x o) { s with heap:=h',toks:=t' }:=I.un (Un.write mu he k heo) (I.hok.write mu he k heo new)
theorem Inv.pins_of {pins':List (Addr×Obj)}(I:Inv X pins σ H s)(h:∀p∈pins',s.heap.get? p.1=some p.2/\H p.1=none/\p.1≠X.env.locals/\p.1 ∉ X.fs/\∀v,p.2.data≠.cell v):Inv X pins' σ H s:=
 ⟨I.ok,I.os,I.bare,I.base,I.loc,I.cell,I.free,I.freeC,fun p hp=>(List.mem_append.mp hp).elim (fun z=>I.pin p (jvs _ z)) (h p),I.hok,I.len⟩
theorem jdr {N:List Str}(hN:N.Nodup){i j:Nat}{x:Str}(a:N[i]?=some x)(b:N[j]?=some x):i=j:=by
 obtain⟨h1,e1⟩:=List.getElem?_eq_some_iff.mp a;obtain⟨h2,e2⟩:=List.getElem?_eq_some_iff.mp b;exact(List.getElem_inj hN).mp (e1.trans e2.symm)
theorem jju {M:Model}{A:Around}{E:Value->Shared->Prop}{i:Nat}{x:Str}{v:V}{u:Value}{Q:Unit->Shared->Prop}(I:Inv X pins σ H s)(hN:X.N.Nodup)(hi:X.N[i]?=some x)(hx:Loc X.env.scope x)(r:RelV v u)
  (h:∀s',Inv X pins (σ.set i (some v)) H s'->(∃a,Heap.SameBut a s.heap s'.heap/\(a=X.env.locals\/X.env.cells.lookup x=some a))->Q () s') (hf:X.fn x=true\/X.env.scope.names.lookup x=some .local:=by first | exact .inl rfl | exact .inr rfl | assumption):wpAny M A (storeName X.env x u) Q E s:=by
 obtain⟨m,hn,hl⟩:=id I.loc;have hcls:(X.env.scope.kind == .class || (X.env.scope.kind == .module && X.env.locals != X.env.globals))=false:=by rw[I.ok.kind];rfl
 have hiσ:i < σ.length:=by rw[I.len];exact(List.getElem?_eq_some_iff.mp hi).1
 have cne:=I.cne;have tracked:∀{a:Addr}{h':Heap},(∃o,s.heap.get? a=some o/\H a=none)->Heap.SameBut a s.heap h'->HOk X.prog X.w H h':=fun {a h'} ha hs b ob e=>by
  obtain⟨_,_,hfree⟩:=ha;refine(I.hok b ob e).stay (fun c w' hc q=>(hs.2 c ?_).trans q) (fun _ q=>q) fun _ _ q=>q;rintro rfl;rcases hc with rfl | hc
  ·rw[hfree]at e;cases e
  ·rw[hfree]at hc;cases hc
 rcases hx with hk | hk
 ·refine wpAny_storeName_local hk hn (fun h' hn' hs=>?_) hcls;obtain⟨oL,_,_,hoL,_⟩:=id hn;refine h _ ⟨I.ok,I.os,I.bare,⟨fun b o e n hb hx=>?_,fun b o e n hb hx=>?_,I.base.free,fun b o e hx=>?_,I.base.tups,I.base.frzs,I.base.tbls⟩,⟨_,hn',fun j y v' e1 e2 e3=>?_⟩,fun y c e=>?_,I.free,I.freeC,fun p hp=>?_,tracked ⟨oL,hoL,I.free⟩ hs,by simpa using I.len⟩ ⟨_,hs,.inl rfl⟩
  ·exact(hs.2 b (jvM (jvL (jvG e) I.ok.above))).trans (I.base.keep b o e n hb hx)
  ·obtain⟨sl,e1⟩:=I.base.slot b o e n hb hx;exact⟨sl,(hs.2 b (jvM (jvL (jvG e) I.ok.above))).trans e1⟩
  ·obtain⟨o',e1⟩:=I.base.there b o e hx;exact⟨o',(hs.2 b (jvM (jvL (jvG e) I.ok.above))).trans e1⟩
  ·by_cases hj:j=i
   ·subst hj;rw[hi]at e1;cases e1;rw[List.getElem?_set_self hiσ]at e2;cases e2;exact⟨u,r,.inl ⟨hk,by simp⟩⟩
   ·rw[jvn (Ne.symm hj)]at e2;obtain⟨u',r',q⟩:=hl j y v' e1 e2 e3;refine⟨u',r',?_⟩;rcases q with ⟨k,e⟩ | ⟨k,c,e,z⟩
    ·refine .inl ⟨k,?_⟩;have:y≠x:=fun e=>hj (jdr hN e1 (e ▸ hi));simp[this,e]
    ·exact .inr ⟨k,c,e,z.sameBut hs (cne y c e)⟩
  ·obtain⟨w',z⟩:=I.cell y c e;exact⟨w',z.sameBut hs (cne y c e)⟩
  ·obtain⟨e,n,ne,nf,d⟩:=I.pin p hp;exact⟨(hs.2 p.1 ne).trans e,n,ne,nf,d⟩
 ·have hfn:X.fn x=true:=by
   rcases hf with z | z
   ·exact z
   ·rw[z]at hk;cases hk
  obtain⟨c,hc⟩:=I.ok.has x (.inl hk);obtain⟨w',z⟩:=I.cell x c hc;refine wpAny_storeName_cell I.ok.kind hk hc z (fun h' hc' hs=>?_);obtain⟨oc,hoc,hocd⟩:=id z;refine h { s with heap:=h' } ⟨I.ok,I.os,I.bare,⟨fun b o e n hb hx=>?_,fun b o e n hb hx=>?_,I.base.free,fun b o e hx=>?_,I.base.tups,I.base.frzs,I.base.tbls⟩,⟨m,hn.sameBut hs (Ne.symm (cne x c hc)),fun j y v' e1 e2 e3=>?_⟩,fun y c' e=>?_,I.free,I.freeC,fun p hp=>?_,tracked ⟨oc,hoc,I.freeC x c hc⟩ hs,by simpa using I.len⟩ ⟨c,hs,.inr hc⟩
  ·exact(hs.2 b (jvM (jvL (jvG e) (I.ok.cab x c hfn hc)))).trans (I.base.keep b o e n hb hx)
  ·obtain⟨sl,e1⟩:=I.base.slot b o e n hb hx;exact⟨sl,(hs.2 b (jvM (jvL (jvG e) (I.ok.cab x c hfn hc)))).trans e1⟩
  ·obtain⟨o',e1⟩:=I.base.there b o e hx;exact⟨o',(hs.2 b (jvM (jvL (jvG e) (I.ok.cab x c hfn hc)))).trans e1⟩
  ·by_cases hj:j=i
   ·subst hj;rw[hi]at e1;cases e1;rw[List.getElem?_set_self hiσ]at e2;cases e2;exact⟨u,r,.inr ⟨.inl hk,c,hc,hc'⟩⟩
   ·rw[jvn (Ne.symm hj)]at e2;obtain⟨u',r',q⟩:=hl j y v' e1 e2 e3;refine⟨u',r',?_⟩;rcases q with q | ⟨k,c',e,z'⟩
    ·exact .inl q
    ·refine .inr ⟨k,c',e,z'.sameBut hs ?_⟩;rintro rfl;exact hj (jdr hN e1 (I.ok.inj _ _ _ e hc ▸ hi))
  ·by_cases hcc:c'=c
   ·subst hcc;exact⟨_,hc'⟩
   ·obtain⟨w2,z2⟩:=I.cell y c' e;exact⟨w2,z2.sameBut hs hcc⟩
  ·obtain⟨e,n,ne,nf,d⟩:=I.pin p hp;refine⟨(hs.2 p.1 ?_).trans e,n,ne,nf,d⟩;intro q;rw[q,hoc]at e;have q':oc=p.2:=Option.some.inj e;exact d w' (by rw[<-q'];exact hocd)
theorem jds {M:Model}{A:Around}{E:Value->Shared->Prop}{i:Nat}{x:Str}{v:V}{u:Value}{Q:Unit->Shared->Prop}(I:Inv X pins σ H s)(hN:X.N.Nodup)(hi:X.N[i]?=some x)(hx:Loc X.env.scope x)(r:RelV v u)
  (h:∀s',Inv X pins (σ.set i (some v)) H s'->Q () s') (hf:X.fn x=true\/X.env.scope.names.lookup x=some .local:=by first | exact .inl rfl | exact .inr rfl | assumption):wpAny M A (storeName X.env x u) Q E s:=
 jju I hN hi hx r (fun s' I' _=>h s' I') hf
theorem Inv.call' {s':Shared}{ch:List Addr}(I:Inv X pins σ H s)(ho:s'.os=s.os)(u:Un (frs X.stack) ch H H' s.heap s'.heap)(hok:HOk X.prog X.w H' s'.heap)(hg:AllBare s'.gens)
  (hch:∀b∈ch,(b∈X.ex\/X.s₀.heap.objs.size<=b)/\b≠X.env.locals/\(∀x c,X.env.cells.lookup x=some c->c≠b)/\∀p∈X.pn++pins,p.1≠b):Inv X pins σ H' s':=by
 obtain⟨h',g',d',t',o'⟩:=s';have e:o'=s.os:=ho;subst e;exact I.call (g':=g') (t':=t') (d':=d') u hok hg hch
end
noncomputable abbrev XK:=Value->Option Addr->Hp->Prop
noncomputable abbrev St:=List (Option V)
noncomputable abbrev VK:=V->Hp->Prop
noncomputable abbrev TE:=St->Hp->VK->Prop
noncomputable abbrev TT:=St->Hp->(Bool->Hp->Prop)->Prop
noncomputable abbrev TA:=St->Hp->(List V->Hp->Prop)->Prop
structure Ends where
 nx:St->Hp->Prop
 rt:VK
 bk:St->Hp->Prop:=fun _ _=>False
 ct:St->Hp->Prop:=fun _ _=>False
noncomputable abbrev TS:=Ends->St->Hp->Prop
inductive EP (X:Cx) (pins:List (Addr×Obj)) (σ:St) (Q:VK) (u:Value) (s':Shared):Prop
 |mk (v:_) (H':_):(Inv X pins σ H' s')->(RelV v u)->(Q v H')->EP X pins σ Q u s'
noncomputable def TP (X:Cx)(pins:List (Addr×Obj))(σ:St)(Q:Bool->Hp->Prop)(b:Bool)(s':Shared):Prop:=∃H',Inv X pins σ H' s'/\Q b H'
inductive AP (X:Cx) (pins:List (Addr×Obj)) (σ:St) (Q:List V->Hp->Prop) (us:List Value) (s':Shared):Prop
 |mk (vs:_) (H':_):(Inv X pins σ H' s')->(Vals vs us)->(Q vs H')->AP X pins σ Q us s'
noncomputable def SP (X:Cx)(pins:List (Addr×Obj))(D:Ends)(f:Flow)(s':Shared):Prop:=
 match f with
 |.next=>∃σ' H',Inv X pins σ' H' s'/\D.nx σ' H'
 |.brk=>∃σ' H',Inv X pins σ' H' s'/\D.bk σ' H'
 |.cont=>∃σ' H',Inv X pins σ' H' s'/\D.ct σ' H'
 |.ret u=>∃v σ' H',Inv X pins σ' H' s'/\RelV v u/\D.rt v H'
noncomputable def PE (X:Cx)(e:Expr)(t:TE):Prop:=
 ∀(pins:List (Addr×Obj)) (s:Shared) (σ:St) (H:Hp) (Q:VK),Inv X pins σ H s->t σ H Q->wpAny (model X.prog X.w) X.A (eval e X.env) (EP X pins σ Q) X.xe s
noncomputable def PT (X:Cx)(e:Expr)(t:TT):Prop:=
 ∀(pins:List (Addr×Obj)) (s:Shared) (σ:St) (H:Hp) (Q:Bool->Hp->Prop),Inv X pins σ H s->t σ H Q->wpAny (model X.prog X.w) X.A (isTrue e X.env (eval e X.env)) (TP X pins σ Q) X.xe s
noncomputable def PW (X:Cx)(e:Expr)(t:TT):Prop:=
 ∀(whole:Sem Value) (pins:List (Addr×Obj)) (s:Shared) (σ:St) (H:Hp) (Q:Bool->Hp->Prop),Inv X pins σ H s->t σ H Q->wpAny (model X.prog X.w) X.A (isTrue e X.env whole) (TP X pins σ Q) X.xe s
theorem PW.pt {X:Cx}{e:Expr}{t:TT}(h:PW X e t):PT X e t:=h _
noncomputable def PA (X:Cx)(es:List Expr)(t:TA):Prop:=
 ∀(pos:Pos) (pins:List (Addr×Obj)) (s:Shared) (σ:St) (H:Hp) (Q:List V->Hp->Prop),Inv X pins σ H s->t σ H Q->wpAny (model X.prog X.w) X.A (spliced (backTo pos (starEach es X.env))) (AP X pins σ Q) X.xe s
noncomputable def PS (X:Cx)(st:Stmt)(t:TS):Prop:=
 ∀(pins:List (Addr×Obj)) (s:Shared) (σ:St) (H:Hp) (D:Ends),Inv X pins σ H s->t D σ H->wpAny (model X.prog X.w) X.A (exec st X.env) (SP X pins D) X.xe s
noncomputable def PSs (X:Cx)(st:List Stmt)(t:TS):Prop:=
 ∀(pins:List (Addr×Obj)) (s:Shared) (σ:St) (H:Hp) (D:Ends),Inv X pins σ H s->t D σ H->wpAny (model X.prog X.w) X.A (execs st X.env) (SP X pins D) X.xe s
theorem thn {α:Type}{t:Sem α}{Q Q':α->Shared->Prop}{M:Model}{A:Around}{E:Value->Shared->Prop}{s:Shared}(h:wpAny M A t Q E s)(hQ:∀a s,Q a s->Q' a s):wpAny M A t Q' E s:=jvE h hQ fun _ _ x=>x
end L2
namespace L2
open PySem PySem.Spec PyProof.Rows
section
variable {X:Cx}
noncomputable def jqU (i:Nat):TE:=fun σ H Q=>∃v,σ[i]?=some (some v)/\Q v H
noncomputable def tC (v:V):TE:=fun _ H Q=>Q v H
theorem jjv {i:Nat}{x:Str}{pos:Pos}(hN:X.N[i]?=some x)(hv:Vis X.env.scope x)(hd:(x == ("__debug__":Str))=false:=by decide)(hcd:(x == ("__classdict__":Str))=false:=by decide):PE X (.Name x pos) (jqU i):=by
 intro pins s σ H Q I h;obtain⟨v,e,h⟩:=h;obtain⟨m,hn,hl⟩:=I.loc;obtain⟨u,r,l⟩:=hl i x v hN e hv;have fin:EP X pins σ Q u s:=⟨v,H,I,r,h⟩;rcases l with ⟨hk,hm⟩ | ⟨hk,c,hc,hcell⟩
 ·exact wpAny_Name (wpAny_loadName_local I.ok.kind hk hn hm fin) hd
 ·rcases hk with hk | hk
  ·exact wpAny_Name (wpAny_loadName_cell I.ok.kind hk hc hcell fin) hd
  ·exact wpAny_Name (wpAny_loadName_free I.ok.kind hk hc hcell fin hcd) hd
theorem jqV {i j pos}:PE X (.Constant (.int i) j pos) (tC (.int i)):=fun _ _ _ H _ I h=>wpAny_Constant_int ⟨.int i,H,I.tok _,⟨_,rfl⟩,h⟩
theorem jsY {b j pos}:PE X (.Constant (.bool b) j pos) (tC (.bl b)):=fun _ _ _ H _ I h=>Constant_bool ⟨.bl b,H,I,rfl,h⟩
theorem jqW {j pos}:PE X (.Constant .none j pos) (tC .non):=fun _ _ _ H _ I h=>Constant_none ⟨.non,H,I,rfl,h⟩
theorem jqX {x j pos}:PE X (.Constant (.str x) j pos) (tC (.str x)):=fun _ _ _ H _ I h=>Calls.Constant_str ⟨.str x,H,I.tok _,⟨_,rfl⟩,h⟩
noncomputable def Gl (X:Cx)(x:Str):Prop:=X.env.kindOf x=some .globalImplicit
theorem jdC {E:Value->Shared->Prop}{pins:List (Addr×Obj)}{s:Shared}{σ:St}{H:Hp}{x:Str}{u:Value}{pos:Pos}{Q:Value->Shared->Prop}(I:Inv X pins σ H s)(hg:Gl X x)(hm:X.mg x=some u)(h:Q u s)
  (hd:(x == ("__debug__":Str))=false:=by decide):wpAny (model X.prog X.w) X.A (eval (.Name x pos) X.env) Q E s:=
 Calls.Name_function_global I.ok.kind hg (Calls.loadGlobal_global (by rw[I.ok.glob];exact I.mod.glob.keeps I.bk) hm h) hd
theorem jfj {E:Value->Shared->Prop}{pins:List (Addr×Obj)}{s:Shared}{σ:St}{H:Hp}{x:Str}{u:Value}{pos:Pos}{Q:Value->Shared->Prop}(I:Inv X pins σ H s)(hg:Gl X x)(hm:X.mg x=none)(hv:bootBuiltins x=some u)(h:Q u s)
  (hn:x≠"__name__":=by decide) (hd:(x == ("__debug__":Str))=false:=by decide):wpAny (model X.prog X.w) X.A (eval (.Name x pos) X.env) Q E s:=by
 obtain⟨mb,h1,h2⟩:=I.mod.blt;exact Calls.Name_function_global I.ok.kind hg (Calls.loadGlobal_builtin (by rw[I.ok.glob];exact I.mod.glob.keeps I.bk) hm (by rw[I.ok.blt];exact h1.keeps I.bk) ((h2 x hn).trans hv) h) hd
theorem jjw {x:Str}{v:V}{u:Value}{pos:Pos}(hg:Gl X x)(hm:X.mg x=some u)(r:RelV v u)(hd:(x == ("__debug__":Str))=false:=by decide):PE X (.Name x pos) (tC v):=
 fun _ _ _ H _ I h=>jdC I hg hm ⟨v,H,I,r,h⟩ hd
theorem joI {x:Str}{v:V}{u:Value}{pos:Pos}(hg:Gl X x)(hm:X.mg x=none)(hv:bootBuiltins x=some u)(r:RelV v u)(hn:x≠"__name__":=by decide)(hd:(x == ("__debug__":Str))=false:=by decide):PE X (.Name x pos) (tC v):=
 fun _ _ _ H _ I h=>jfj I hg hm hv ⟨v,H,I,r,h⟩ hn hd
variable {a b:Expr}{ta tb:TE}{pos:Pos}
noncomputable def tB (t:TE):TT:=fun σ H Q=>t σ H fun x H1=>∃c,x=.bl c/\Q c H1
variable {tA tB':TT}{jdB:List Expr}
noncomputable def jt5 (t u:TT):TT:=fun σ H Q=>t σ H fun c H1=>if c=true then u σ H1 Q else Q false H1
noncomputable def tOr (t u:TT):TT:=fun σ H Q=>t σ H fun c H1=>if c=true then Q true H1 else u σ H1 Q
noncomputable def jt6 (t:TT):TT:=fun σ H Q=>t σ H fun c H1=>Q (!c) H1
theorem joJ (ha:PT X a tA):PW X (.BoolOp .And [a] pos) tA:=by
 intro wh pins s σ H Q I h;refine isTrue_and (thn (ha pins s σ H Q I h) fun c s1 e=>?_);cases c with
 |true=>exact isTrue_and_nil e
 |false=>exact e
theorem jqY (ha:PT X a tA):PW X (.BoolOp .Or [a] pos) tA:=by
 intro wh pins s σ H Q I h;refine isTrue_or (thn (ha pins s σ H Q I h) fun c s1 e=>?_);cases c with
 |false=>exact isTrue_or_nil e
 |true=>exact e
theorem jqZ (ha:PT X a tA)(hb:PW X (.BoolOp .And (b::jdB) pos) tB'):PW X (.BoolOp .And (a::b::jdB) pos) (jt5 tA tB'):=by
 intro wh pins s σ H Q I h;refine isTrue_and (thn (ha pins s σ H _ I h) fun c s1 hzz=>?_);obtain⟨H1,I1,q1⟩:=hzz;cases c with
 |true=>exact hb wh pins s1 σ H1 Q I1 q1
 |false=>exact⟨H1,I1,q1⟩
theorem jsZ (ha:PT X a tA)(hb:PW X (.BoolOp .Or (b::jdB) pos) tB'):PW X (.BoolOp .Or (a::b::jdB) pos) (tOr tA tB'):=by
 intro wh pins s σ H Q I h;refine isTrue_or (thn (ha pins s σ H _ I h) fun c s1 hzz=>?_);obtain⟨H1,I1,q1⟩:=hzz;cases c with
 |true=>exact⟨H1,I1,q1⟩
 |false=>exact hb wh pins s1 σ H1 Q I1 q1
theorem jq0 (ha:PT X a tA):PT X (.UnaryOp .Not a pos) (jt6 tA):=by
 intro pins s σ H Q I h;exact isTrue_not (ha pins s σ H (fun c H1=>Q (!c) H1) I h)
noncomputable def jq1 (ta tb:TE):TE:=fun σ H Q=>ta σ H fun x H1=>∃c,x=.bl c/\if c=true then tb σ H1 Q else Q (.bl false) H1
noncomputable def jt7 (ta tb:TE):TE:=fun σ H Q=>ta σ H fun x H1=>∃c,x=.bl c/\if c=true then Q (.bl true) H1 else tb σ H1 Q
noncomputable def jq2 (ta:TE):TE:=fun σ H Q=>ta σ H fun x H1=>∃c,x=.bl c/\Q (.bl (!c)) H1
theorem jnT {op}{t:TE}(h:PE X a t):PE X (.BoolOp op [a] pos) t:=fun pins s σ H Q I hw=>BoolOp_one (h pins s σ H Q I hw)
theorem jq3 (ha:PE X a ta)(hb:PE X (.BoolOp .And (b::jdB) pos) tb):PE X (.BoolOp .And (a::b::jdB) pos) (jq1 ta tb):=by
 intro pins s σ H Q I h;refine BoolOp_and (thn (ha pins s σ H _ I h) fun v s1 hzz=>?_);obtain⟨x,H1,I1,r1,q1⟩:=hzz;obtain⟨c,rfl,q1⟩:=q1;cases r1;refine wpAny_truthy_bool ?_;cases c with
 |true=>exact hb pins s1 σ H1 Q I1 q1
 |false=>exact⟨.bl false,H1,I1,rfl,q1⟩
theorem js0 (ha:PE X a ta)(hb:PE X (.BoolOp .Or (b::jdB) pos) tb):PE X (.BoolOp .Or (a::b::jdB) pos) (jt7 ta tb):=by
 intro pins s σ H Q I h;refine BoolOp_or (thn (ha pins s σ H _ I h) fun v s1 hzz=>?_);obtain⟨x,H1,I1,r1,q1⟩:=hzz;obtain⟨c,rfl,q1⟩:=q1;cases r1;refine wpAny_truthy_bool ?_;cases c with
 |false=>exact hb pins s1 σ H1 Q I1 q1
 |true=>exact⟨.bl true,H1,I1,rfl,q1⟩
theorem jq4 (ha:PE X a ta):PE X (.UnaryOp .Not a pos) (jq2 ta):=by
 intro pins s σ H Q I h;refine UnaryOp_ (thn (ha pins s σ H _ I h) fun v s1 hzz=>?_);obtain⟨x,H1,I1,r1,q1⟩:=hzz;obtain⟨c,rfl,q1⟩:=q1;cases r1;exact not_of (wpAny_truthy_bool ⟨.bl (!c),H1,I1,rfl,q1⟩)
noncomputable def tIf (t:TT)(ta tb:TE):TE:=fun σ H Q=>t σ H fun c H1=>if c=true then ta σ H1 Q else tb σ H1 Q
theorem jlV {c:Expr}(hc:PT X c tA)(ha:PE X a ta)(hb:PE X b tb):PE X (.IfExp c a b pos) (tIf tA ta tb):=by
 intro pins s σ H Q I h;refine wpAny_IfExp (thn (hc pins s σ H _ I h) fun d s1 hzz=>?_);obtain⟨H1,I1,q1⟩:=hzz;cases d with
 |true=>exact ha pins s1 σ H1 Q I1 q1
 |false=>exact hb pins s1 σ H1 Q I1 q1
end
end L2
namespace L2
open PySem PySem.Spec PyProof.Rows
noncomputable def SqL (K:PySem.W.Frag)(H:Hp)(a:Addr)(xs:List V):Prop:=
 Rd H a (.lst xs) \/
  ∃(o:Obj) (its:Array Value) (n:Nat),K.lookup a=some o/\o.cls=.type "list"/\o.dict=none/\o.data=.seq its n/\its.size<=sizeLine/\Vals xs its.toList
noncomputable def SqT (K:PySem.W.Frag)(H:Hp)(a:Addr)(xs:List V):Prop:=
 Rd H a (.tup xs) \/
  ∃(o:Obj) (its:Array Value) (n:Nat),K.lookup a=some o/\o.cls=.type "tuple"/\o.data=.seq its n/\its.size<=sizeLine/\Vals xs its.toList
noncomputable def jut:Value->Option V
 |.none=>some .non
 |.bool b=>some (.bl b)
 |.int i _=>some (.int i)
 |.str x _=>some (.str x)
 |.bytes b _=>some (.byt b)
 |.float b _=>some (.flt b)
 |.ref a=>some (.ref a)
 |.type n=>some (.ty n)
 |_=>none
theorem RelV.abs {x:V}{u:Value}(r:RelV x u):jut u=some x:=by
 cases x with
 |non=>cases r;rfl
 |bl _=>cases r;rfl
 |int _=>obtain⟨t,rfl⟩:=r;rfl
 |str _=>obtain⟨t,rfl⟩:=r;rfl
 |byt _=>obtain⟨t,rfl⟩:=r;rfl
 |flt _=>obtain⟨t,rfl⟩:=r;rfl
 |ref _=>cases r;rfl
 |ty _=>cases r;rfl
theorem RelV.inj {x y:V}{u:Value}(r:RelV x u)(q:RelV y u):x=y:=Option.some.inj (r.abs.symm.trans q.abs)
theorem Vals.inj {xs ys:List V}{us:List Value}(h:Vals xs us)(h':Vals ys us):xs=ys:=by
 induction h generalizing ys with
 |nil=>cases h';rfl
 |cons r t ih=>
  cases h' with
  |cons r' t'=>rw[r.inj r',ih t']
section
variable {X:Cx}{pins:List (Addr×Obj)}{σ:St}{H:Hp}{s:Shared}{a:Addr}{xs ys:List V}
theorem SqL.of {K:PySem.W.Frag}(h:H a=some (.lst xs)):SqL K H a xs:=.inl (.inl h)
theorem Inv.list (I:Inv X pins σ H s)(h:SqL X.K H a xs):∃its:List Value,Vals xs its/\PlainL s.heap a its.toArray/\xs.length<=sizeLine:=by
 rcases h with h | ⟨o,its,n,hk,hc,hd,hs,hz,r⟩
 ·obtain⟨z,its,n,r,e⟩:=h.ok I.hok;exact⟨its,r,⟨_,n,e,rfl,rfl,rfl⟩,z⟩
 ·refine⟨its.toList,r,⟨o,n,I.kIn a o hk,hc,hd,by simpa using hs⟩,?_⟩
  have e:=r.length;simp only[Array.length_toList]at e;omega
theorem Inv.tuple (I:Inv X pins σ H s)(h:SqT X.K H a xs):∃its:List Value,Vals xs its/\IsTup s.heap a its.toArray/\xs.length<=sizeLine:=by
 rcases h with h | ⟨o,its,n,hk,hc,hs,hz,r⟩
 ·obtain⟨z,its,r,p⟩:=h.ok I.hok;exact⟨its,r,p,z⟩
 ·refine⟨its.toList,r,⟨o,I.kIn a o hk,hc,n,by simpa using hs⟩,?_⟩
  have e:=r.length;simp only[Array.length_toList]at e;omega
theorem Inv.list_inj (I:Inv X pins σ H s)(h:SqL X.K H a xs)(h':SqL X.K H a ys):xs=ys:=by
 obtain⟨its,r,⟨o,n,e,_,_,d⟩,_⟩:=I.list h;obtain⟨its',r',⟨o',n',e',_,_,d'⟩,_⟩:=I.list h';rw[e]at e';cases e';rw[d]at d';injection d' with d1 _
 have:its=its':=by simpa using congrArg Array.toList d1
 subst this;exact r.inj r'
theorem Inv.tuple_inj (I:Inv X pins σ H s)(h:SqT X.K H a xs)(h':SqT X.K H a ys):xs=ys:=by
 obtain⟨its,r,⟨o,e,_,n,d⟩,_⟩:=I.tuple h;obtain⟨its',r',⟨o',e',_,n',d'⟩,_⟩:=I.tuple h';rw[e]at e';cases e';rw[d]at d';injection d' with d1 _
 have:its=its':=by simpa using congrArg Array.toList d1
 subst this;exact r.inj r'
end
section
variable {X:Cx}{pins:List (Addr×Obj)}{σ:St}{H:Hp}{s:Shared}{E:Value->Shared->Prop}
end
section
variable {X:Cx}{st:Stmt}{jdB:List Stmt}{t u:TS}{e:Expr}{te:TE}{pos:Pos}
noncomputable def jq5:TS:=fun D σ H=>D.nx σ H
noncomputable def juu (t u:TS):TS:=fun D σ H=>t { D with nx:=u D } σ H
theorem jjx:PSs X [] jq5:=fun _ _ σ H _ I h=>wpAny_execs_nil ⟨σ,H,I,h⟩
theorem jhl (h1:PS X st t)(h2:PSs X jdB u):PSs X (st::jdB) (juu t u):=by
 intro pins s σ H D I h;refine wpAny_execs_cons (thn (h1 pins s σ H { D with nx:=u D } I h) fun f s1 q=>?_)
 cases f with
 |next=>
  obtain⟨σ',H',I',q⟩:=q;exact h2 pins s1 σ' H' D I' q
 |ret v=>exact q
 |brk=>exact q
 |cont=>exact q
noncomputable def jq6:TS:=fun D σ H=>D.bk σ H
noncomputable def js1:TS:=fun D σ H=>D.ct σ H
theorem joK:PS X (.Pass pos) jq5:=fun _ _ σ H _ I h=>wpAny_Pass ⟨σ,H,I,h⟩
theorem jlW:PS X (.Break pos) jq6:=fun _ _ σ H _ I h=>wpAny_Break ⟨σ,H,I,h⟩
theorem jgi:PS X (.Continue pos) js1:=fun _ _ σ H _ I h=>wpAny_Continue ⟨σ,H,I,h⟩
theorem Inv.quiet {pins:List (Addr×Obj)}{σ:St}{H:Hp}{s:Shared}(I:Inv X pins σ H s):interactive X.env=false:=by simp[interactive,I.ok.kind]
noncomputable def js2 (te:TE):TS:=fun D σ H=>te σ H fun _ H1=>D.nx σ H1
theorem jjy (he:PE X e te)(hs:swapsWith e none pos.line X.env=pure false:=by rfl):PS X (.Expr e pos) (js2 te):=by
 intro pins s σ H D I h;exact wpAny_Expr_any (thn (he pins s σ H _ I h) fun v s1 ⟨x,H1,I1,r1,q1⟩=>⟨σ,H1,I1,q1⟩) I.quiet hs
noncomputable def juv (te:TE):TS:=fun D σ H=>te σ H D.rt
theorem jq7 (he:PE X e te):PS X (.Return (some e) pos) (juv te):=by
 intro pins s σ H D I h;exact wpAny_Return_some (thn (he pins s σ H _ I h) fun v s1 ⟨x,H1,I1,r1,q1⟩=>⟨x,σ,H1,I1,r1,q1⟩)
noncomputable def js3:TS:=fun D _ H=>D.rt .non H
theorem joL:PS X (.Return none pos) js3:=fun _ _ σ H _ I h=>wpAny_Return_none ⟨.non,σ,H,I,rfl,h⟩
noncomputable def juw (c:TT)(t u:TS):TS:=fun D σ H=>c σ H fun b H1=>if b=true then t D σ H1 else u D σ H1
theorem js4 {c:Expr}{a b:List Stmt}{tc:TT}(hc:PT X c tc)(ha:PSs X a t)(hb:PSs X b u):PS X (.If c a b pos) (juw tc t u):=by
 intro pins s σ H D I h;refine wpAny_If (thn (hc pins s σ H _ I h) fun d s1 hzz=>?_);obtain⟨H1,I1,q1⟩:=hzz;cases d with
 |true=>exact ha pins s1 σ H1 D I1 q1
 |false=>exact hb pins s1 σ H1 D I1 q1
end
noncomputable abbrev TG:=V->St->Hp->(St->Hp->Prop)->Prop
noncomputable abbrev TGs:=List V->St->Hp->(St->Hp->Prop)->Prop
noncomputable def PG (X:Cx)(target:Expr)(t:TG):Prop:=
 ∀(pins:List (Addr×Obj)) (s:Shared) (σ:St) (H:Hp) (v:V) (u:Value) (Q:St->Hp->Prop),Inv X pins σ H s->RelV v u->t v σ H Q ->
  wpAny (model X.prog X.w) X.A (assign target X.env u) (fun _ s'=>∃σ' H',Inv X pins σ' H' s'/\Q σ' H') X.xe s
noncomputable def PGs (X:Cx)(ts:List Expr)(t:TGs):Prop:=
 ∀(pins:List (Addr×Obj)) (s:Shared) (σ:St) (H:Hp) (vs:List V) (us:List Value) (Q:St->Hp->Prop),Inv X pins σ H s->Vals vs us->t vs σ H Q ->
  wpAny (model X.prog X.w) X.A (assignInOrder ((assignEach ts X.env).map (·.2)) us) (fun _ s'=>∃σ' H',Inv X pins σ' H' s'/\Q σ' H') X.xe s
noncomputable abbrev js5:=V->V->V->Hp->(Hp->Prop)->Prop
noncomputable def jt8 (X:Cx)(t:js5):Prop:=
 ∀(pins:List (Addr×Obj)) (s:Shared) (σ:St) (H:Hp) (o i v:V) (ov iv u:Value) (Q:Hp->Prop),Inv X pins σ H s->RelV o ov->RelV i iv->RelV v u->t o i v H Q ->
  wpAny (model X.prog X.w) X.A (setItem ov iv u) (fun _ s'=>∃H',Inv X pins σ H' s'/\Q H') X.xe s
section
variable {X:Cx}{pos:Pos}
noncomputable def joM (i:Nat):TG:=fun v σ H Q=>Q (σ.set i (some v)) H
theorem jjz {i:Nat}{x:Str}(hN:X.N.Nodup)(hi:X.N[i]?=some x)(hx:Loc X.env.scope x)(hf:X.fn x=true\/X.env.scope.names.lookup x=some .local:=by first | exact .inl rfl | exact .inr rfl | assumption):PG X (.Name x pos) (joM i):=by
 intro pins s σ H v u Q I r h;exact wpAny_assign_Name (jds I hN hi hx r (fun s' I'=>⟨_,H,I',h⟩) hf)
noncomputable def jt9:TGs:=fun vs σ H Q=>vs=[]/\Q σ H
noncomputable def jq8 (t:TG)(u:TGs):TGs:=fun vs σ H Q=>∃v r,vs=v::r/\t v σ H fun σ' H'=>u r σ' H' Q
theorem joN:PGs X [] jt9:=by
 intro pins s σ H vs us Q I r h;obtain⟨e,h⟩:=h;subst e;cases r;exact assignInOrder_nil ⟨σ,H,I,h⟩
theorem jlX {e:Expr}{es:List Expr}{t:TG}{u:TGs}(h1:PG X e t)(h2:PGs X es u)
  (hs:(assignEach (e::es) X.env).map (·.2)=assign e X.env::(assignEach es X.env).map (·.2):=by rfl):PGs X (e::es) (jq8 t u):=by
 intro pins s σ H vs us Q I r h;obtain⟨v,vr,e1,h⟩:=h;subst e1;cases r with
 |cons r rr=>
  rw[hs];refine assignInOrder_cons (thn (h1 pins s σ H _ _ _ I r h) fun _ s1 hzz=>?_);obtain⟨σ1,H1,I1,q1⟩:=hzz;exact h2 pins s1 σ1 H1 _ _ Q I1 rr q1
noncomputable def jux (K:PySem.W.Frag)(n:Nat)(t:TGs):TG:=fun v σ H Q=>∃a xs,v=.ref a/\SqT K H a xs/\xs.length=n/\t xs σ H Q
theorem jnU {es:List Expr}{k:Nat}{t:TGs}{n:Nat}(hc:X.calm=true)(h:PGs X es t)
  (hn:(assignEach es X.env).length=n:=by rfl) (hst:(assignEach es X.env).findIdx? (·.1)=none:=by rfl):PG X (.Tuple es k pos) (jux X.K n t):=by
 intro pins s σ H v u Q I r hw;obtain⟨a,xs,e1,hq,hl,hw⟩:=hw;subst e1;cases r;obtain⟨its,rv,ht,hz⟩:=I.tuple hq;refine assign_Tuple_tuple (I.ok.hd hc) ht (by simp[hn,<-hl,rv.length]) hst fun h' hx=>?_
 have I1:Inv X pins σ H { s with heap:=h' }:=I.kept (t':=s.toks) fun b o e=>hx b o (jvM (jvG e)) e
 exact h pins _ σ H xs _ Q I1 (by simpa using rv) hw
noncomputable def juy (to ti:TE)(t:js5):TG:=fun v σ H Q=>to σ H fun o H1=>ti σ H1 fun i H2=>t o i v H2 fun H3=>Q σ H3
theorem jq9 {o i:Expr}{to ti:TE}{t:js5}(ho:PE X o to)(hi:PE X i ti)(hs:jt8 X t)
  (ha:∀v,assign (.Subscript o i pos) X.env v=(do
   let ov <-holding [v] (eval o X.env)
   let iv <-holding [v,ov] (eval i X.env)
   standAt pos
   holding [v,ov,iv] (setItem ov iv v)
   release [v,ov,iv] []):=by intro _;rfl):PG X (.Subscript o i pos) (juy to ti t):=by
 intro pins s σ H v u Q I r h;rw[ha];refine jvx (jvC (thn (ho pins s σ H _ I h) fun ov s1 hzz=>?_));obtain⟨x,H1,I1,r1,q1⟩:=hzz;refine jvx (jvC (thn (hi pins s1 σ H1 _ I1 q1) fun iv s2 hzz=>?_));obtain⟨y,H2,I2,r2,q2⟩:=hzz;refine jvx (wpAny_standAt (jvx (jvC (thn (hs pins s2 σ H2 x y v ov iv u _ I2 r1 r2 r q2) fun _ s3 hzz=>?_))));obtain⟨H3,I3,q3⟩:=hzz;exact wpAny_release ⟨σ,H3,I3,q3⟩
noncomputable def jua (te:TE)(g:TG):TS:=fun D σ H=>te σ H fun x H1=>g x σ H1 D.nx
theorem jnV {tg e:Expr}{te:TE}{g:TG}(he:PE X e te)(hg:PG X tg g)(hs:swapsWithSole [tg] e pos.line X.env=pure false:=by rfl)(hw:swappedStores [tg] e X.env=pure none:=by rfl)
  (h1:(assignEach [tg] X.env).map (·.2)=[assign tg X.env]:=by rfl):PS X (.Assign [tg] e pos) (jua te g):=by
 intro pins s σ H D I h;refine wpAny_Assign_stores (thn (he pins s σ H _ I h) fun v s1 hzz=>?_) hs hw;obtain⟨x,H1,I1,r1,q1⟩:=hzz;rw[h1];exact thn (hg pins s1 σ H1 x v _ I1 r1 q1) fun _ s2 q=>q
theorem jra {i:Nat}{x:Str}{e:Expr}{te:TE}{pos':Pos}(hN:X.N.Nodup)(hi:X.N[i]?=some x)(hx:Loc X.env.scope x)(he:PE X e te)(hs:swapsWith e (some (.Name x pos')) pos.line X.env=pure false:=by rfl)(hf:X.fn x=true\/X.env.scope.names.lookup x=some .local:=by first | exact .inl rfl | exact .inr rfl | assumption) :
  PS X (.Assign [.Name x pos'] e pos) (jua te (joM i)):=by
 intro pins s σ H D I h;refine wpAny_Assign_Name (thn (he pins s σ H _ I h) fun v s1 hzz=>?_) hs;obtain⟨y,H1,I1,r1,q1⟩:=hzz;exact jds I1 hN hi hx r1 (fun s2 I2=>⟨_,H1,I2,q1⟩) hf
end
section
variable {X:Cx}{pos:Pos}
end
structure It where
 go:Nat->Hp->Prop
 yld:Nat->Hp->V->Hp->Prop
 stop:Nat->Hp->Prop
noncomputable def FpOk (X:Cx)(pins:List (Addr×Obj))(H:Hp)(b:Addr):Prop:=
 H b=none/\b≠X.env.locals/\b ∉ X.fs/\(b∈X.ex\/X.s₀.heap.objs.size<=b)/\(∀x c,X.env.cells.lookup x=some c->c≠b)/\∀p∈X.pn++pins,p.1≠b
theorem Inv.fpOk {X:Cx}{pins:List (Addr×Obj)}{σ:St}{H H':Hp}{s:Shared}{b:Addr}(I:Inv X pins σ H s)(hb:s.heap.objs.size<=b)(hn:H' b=none):FpOk X pins H' b:=by
 refine⟨hn,Nat.ne_of_gt (jvL I.lt hb),I.nofs hb,.inr (jvN I.sz hb),fun x c e z=>?_,fun p hp z=>?_⟩
 ·obtain⟨v,q⟩:=I.cell x c e;exact absurd (jvL q.lt (by rw[z];exact hb)) (jvO _)
 ·exact absurd (jvL (jvG (I.pin p hp).1) (by rw[z];exact hb)) (jvO _)
structure Turn (P:Program)(w:World)(K:PySem.W.Frag)(tg:Expr)(J:It)(fp:List Addr)(it:Addr)(tn:Nat->Heap->Prop):Prop where
 mem:it∈fp
 obj:∀i h,tn i h->∀b∈fp,∃o,h.get? b=some o/\∀v,o.data≠.cell v
 keep:∀i h h',tn i h->(∀b∈fp,∀o,h.get? b=some o->h'.get? b=some o)->tn i h'
 item:∀(X:Cx),X.prog=P->X.w=w->X.K=K->X.calm=true->∀(i:Nat) (pins:List (Addr×Obj)) (s:Shared) (σ:St) (H:Hp) (E:Value->Shared->Prop),Inv X pins σ H s->(∀b∈fp,FpOk X pins H b)->tn i s.heap->J.go i H ->
  wpAny (model P w) X.A (pyNext (.ref it)) (fun r s1=>∃u,r=some u /\
   wpAny (model P w) X.A (letOwnedTupleGo tg (.ref it) u) (fun _ s2=>∃x H',Inv X pins σ H' s2/\RelV x u/\J.yld i H x H'/\tn (i + 1) s2.heap/\∀b∈fp,H' b=none) E s1) E s
 done:∀(X:Cx),X.prog=P->X.w=w->X.K=K->X.calm=true->∀(i:Nat) (pins:List (Addr×Obj)) (s:Shared) (σ:St) (H:Hp) (E:Value->Shared->Prop),Inv X pins σ H s->(∀b∈fp,FpOk X pins H b)->tn i s.heap->J.stop i H ->
  wpAny (model P w) X.A (pyNext (.ref it)) (fun r s1=>r=none/\Inv X pins σ H s1) E s
 self:∀(A:Around) (i:Nat) (s:Shared) (Q:Value->Shared->Prop) (E:Value->Shared->Prop),tn i s.heap->Q (.ref it) s->wpAny (model P w) A (pyIter (.ref it)) Q E s
noncomputable abbrev TI:=St->Hp->(It->Hp->Prop)->Prop
inductive PIE (X:Cx) (pins:List (Addr×Obj)) (σ:St) (tg:Expr) (R:It->Hp->Prop) (itv:Value) (s2:Shared):Prop
 |mk (it:Addr) (fp:List Addr) (tn:Nat->Heap->Prop) (J:It) (H':Hp):(itv=.ref it)->(Inv X pins σ H' s2)->(Turn X.prog X.w X.K tg J fp it tn)->(tn 0 s2.heap)->((∀b∈fp,FpOk X pins H' b))->(R J H')->PIE X pins σ tg R itv s2
noncomputable def PI (X:Cx)(tg iter:Expr)(wi:TI):Prop:=
 ∀(pins:List (Addr×Obj)) (s:Shared) (σ:St) (H:Hp) (R:It->Hp->Prop),Inv X pins σ H s->wi σ H R ->
  wpAny (model X.prog X.w) X.A (eval iter X.env) (fun v s1=>wpAny (model X.prog X.w) X.A (pyIter v) (PIE X pins σ tg R) X.xe s1) X.xe s
theorem jlY {M:Model}{A:Around}{E:Value->Shared->Prop}{s:Shared}{tg:Expr}{it:Addr}{u:Value}{o:Obj}{n:String}{vs:Array Value}{Q:Unit->Shared->Prop}(ho:s.heap.get? it=some o)(hc:o.cls=.type n)(hd:o.data=.fields vs)
  (hn:["enumerate","zip","dict_itemiterator","dict_reverseitemiterator","odict_iterator","itertools.zip_longest","itertools.pairwise"].contains n=false) (hQ:Q () s):wpAny M A (letOwnedTupleGo tg (.ref it) u) Q E s:=by
 unfold letOwnedTupleGo;cases tg <;> first
  |exact jvy hQ
  |(cases u <;> first
    |exact jvy hQ
    |(refine jvx (wpAny_load ho ?_)
      rw[hc,hd];show wpAny M A (if (["enumerate","zip","dict_itemiterator","dict_reverseitemiterator","odict_iterator","itertools.zip_longest","itertools.pairwise"].contains n && vs[0]? == some (rawInt _))=true then _ else _) Q E s;rw[if_neg (by intro h;rw[hn,Bool.false_and]at h;cases h)]
      exact jvy hQ))
noncomputable def Itl (K:PySem.W.Frag)(a:Addr):It:=
 ⟨fun i H=>∃xs x,SqL K H a xs/\xs[i]?=some x,fun i H x H'=>H'=H/\∀xs,SqL K H a xs->xs[i]?=some x,fun i H=>∃xs,SqL K H a xs/\xs.length<=i⟩
noncomputable def Itt (K:PySem.W.Frag)(a:Addr):It:=
 ⟨fun i H=>∃xs x,SqT K H a xs/\xs[i]?=some x,fun i H x H'=>H'=H/\∀xs,SqT K H a xs->xs[i]?=some x,fun i H=>∃xs,SqT K H a xs/\xs.length<=i⟩
noncomputable def Itr (lo:Int)(n:Nat):It:=⟨fun i _=>i < n,fun i H x H'=>H'=H/\x=.int (lo + i),fun i _=>n<=i⟩
theorem jjA {P:Program}{w:World}{K:PySem.W.Frag}{tg:Expr}(a it:Addr):Turn P w K tg (Itl K a) [it] it (fun i h=>h.IsListIter it a i) where
 mem:=by simp
 obj:=fun i h st b hb=>by
  have e:b=it:=by simpa using hb
  subst e;obtain⟨o,e,c,d⟩:=st;exact⟨o,e,fun v z=>by rw[d]at z;cases z⟩
 keep:=fun i h h' st k=>st.at fun o e=>k it (by simp) o e
 item:=by
  intro X hP hw hK hc i pins s σ H E I hf st hg;subst hP hw hK;obtain⟨xs,x,hq,hx⟩:=hg;obtain⟨its,rv,p,hz⟩:=I.list hq;obtain⟨u,hu,ru⟩:=rv.get hx;obtain⟨f0,f1,f2,f3,f4,f5⟩:=hf it (by simp)
  refine wpAny_pyNext_list_item st p.isList (x:=u) (by simpa using hu) fun h' st' sb=>?_
  have I1:Inv X pins σ H { s with heap:=h' }:=I.turned (t':=s.toks) (fun b o hb e=>(sb.2 b hb).trans e) f0 f1 f3 f4 f5
  obtain⟨o,e,c,d⟩:=id st';exact⟨u,rfl,jlY (s:={ s with heap:=h' }) e c d (by decide) ⟨x,H,I1,ru,⟨rfl,fun ys hy=>by rw[I.list_inj hy hq];exact hx⟩,st',fun b hb=>(hf b hb).1⟩⟩
 done:=by
  intro X hP hw hK hc i pins s σ H E I hf st hg;subst hP hw hK;obtain⟨xs,hq,hx⟩:=hg;obtain⟨its,rv,p,hz⟩:=I.list hq;obtain⟨f0,f1,f2,f3,f4,f5⟩:=hf it (by simp)
  have hl:=rv.length;exact wpAny_pyNext_list_end (I.ok.hd hc) st p.isList (by simp;omega) fun h' eb=>⟨rfl,I.turned (t':=s.toks) (fun b o hb e=>eb b o hb e) f0 f1 f3 f4 f5⟩
 self:=fun _ _ _ _ _ st h=>wpAny_pyIter_listiter st h
theorem jid {P:Program}{w:World}{K:PySem.W.Frag}{tg:Expr}(a it:Addr):Turn P w K tg (Itt K a) [it] it (fun i h=>h.IsTupleIter it a i) where
 mem:=by simp
 obj:=fun i h st b hb=>by
  have e:b=it:=by simpa using hb
  subst e;obtain⟨o,e,c,d⟩:=st;exact⟨o,e,fun v z=>by rw[d]at z;cases z⟩
 keep:=fun i h h' st k=>st.at fun o e=>k it (by simp) o e
 item:=by
  intro X hP hw hK hc i pins s σ H E I hf st hg;subst hP hw hK;obtain⟨xs,x,hq,hx⟩:=hg;obtain⟨its,rv,p,hz⟩:=I.tuple hq;obtain⟨u,hu,ru⟩:=rv.get hx;obtain⟨f0,f1,f2,f3,f4,f5⟩:=hf it (by simp)
  refine wpAny_pyNext_tuple_item st (show s.heap.IsTuple a its.toArray from p) (x:=u) (by simpa using hu) fun h' st' sb=>?_
  have I1:Inv X pins σ H { s with heap:=h' }:=I.turned (t':=s.toks) (fun b o hb e=>(sb.2 b hb).trans e) f0 f1 f3 f4 f5
  obtain⟨o,e,c,d⟩:=id st';exact⟨u,rfl,jlY (s:={ s with heap:=h' }) e c d (by decide) ⟨x,H,I1,ru,⟨rfl,fun ys hy=>by rw[I.tuple_inj hy hq];exact hx⟩,st',fun b hb=>(hf b hb).1⟩⟩
 done:=by
  intro X hP hw hK hc i pins s σ H E I hf st hg;subst hP hw hK;obtain⟨xs,hq,hx⟩:=hg;obtain⟨its,rv,p,hz⟩:=I.tuple hq;obtain⟨f0,f1,f2,f3,f4,f5⟩:=hf it (by simp)
  have hl:=rv.length;exact wpAny_pyNext_tuple_end (I.ok.hd hc) st (show s.heap.IsTuple a its.toArray from p) (by simp;omega) fun h' eb=>⟨rfl,I.turned (t':=s.toks) (fun b o hb e=>eb b o hb e) f0 f1 f3 f4 f5⟩
 self:=fun _ _ _ _ _ st h=>wpAny_pyIter_tupleiter st h
theorem jie {P:Program}{w:World}{K:PySem.W.Frag}{tg:Expr}(it:Addr)(lo:Int)(n:Nat):Turn P w K tg (Itr lo n) [it] it (fun i h=>IsRangeIter h it (lo + (i:Nat) * 1) ((n:Int) - (i:Nat)) 1) where
 mem:=by simp
 obj:=fun i h st b hb=>by
  have e:b=it:=by simpa using hb
  subst e;exact⟨_,st,fun v z=>by
   have z':Data.fields _=Data.cell v:=z;cases z'⟩
 keep:=fun i h h' st k=>k it (by simp) _ st
 item:=by
  intro X hP hw hK hc i pins s σ H E I hf st hg;subst hP hw hK;obtain⟨f0,f1,f2,f3,f4,f5⟩:=hf it (by simp)
  have W:=Walks.range (prog:=X.prog) (w:=X.w) (I.ok.hd hc) it lo 1 n;refine W.item i s _ _ hg st fun v h' tk hv st' kk=>?_;obtain⟨t,rfl⟩:=hv;have I1:Inv X pins σ H { s with heap:=h',toks:=tk }:=I.turned (fun b o hb e=>kk b o (by simpa using hb) e) f0 f1 f3 f4 f5
  refine⟨_,rfl,jlY (s:={ s with heap:=h',toks:=tk }) (n:="range_iterator") st' rfl rfl (by decide) ⟨.int (lo + i),H,I1,⟨t,?_⟩,⟨rfl,rfl⟩,st',fun b hb=>(hf b hb).1⟩⟩
  rw[Int.mul_one]
 done:=by
  intro X hP hw hK hc i pins s σ H E I hf st hg;subst hP hw hK;obtain⟨f0,f1,f2,f3,f4,f5⟩:=hf it (by simp)
  exact wpAny_pyNext_range_end (I.ok.hd hc) st (by have:n<=i:=hg;omega) fun h' eb=>⟨rfl,I.turned (t':=s.toks) (fun b o hb e=>eb b o hb e) f0 f1 f3 f4 f5⟩
 self:=fun _ _ _ _ _ st h=>wpAny_pyIter_rangeiter st h
end L2
namespace L2
open PySem PySem.Spec PyProof.Rows
section
variable {X:Cx}{tg:Expr}
theorem jlZ {pins:List (Addr×Obj)}{σ:St}{H:Hp}{s:Shared}{R:It->Hp->Prop}{E:Value->Shared->Prop}{lo hi:Int}{t u v:Tok}{tk:Nat}(I:Inv X pins σ H s)(h1:-(2 ^ 62)<=lo)(h2:lo < 2 ^ 62)(h3:-(2 ^ 62)<=hi)(h4:hi < 2 ^ 62)
  (q:R (Itr lo (hi - lo).toNat) H):wpAny (model X.prog X.w) X.A (pyIter (.ref s.heap.objs.size)) (PIE X pins σ tg R) E { s with heap:=s.heap.push { cls:=.type "range",data:=.fields #[.int lo t,.int hi u,.int 1 v] },toks:=tk }:=by
 refine wpAny_pyIter_range (IsRange.new ..) (small_one h1 h2 h3 h4) ?_;have I1:Inv X pins σ H { s with heap:=s.heap.push { cls:=.type "range",data:=.fields #[.int lo t,.int hi u,.int 1 v] },toks:=tk }:=I.kept fun b o e=>jvF _ e
 refine⟨(s.heap.push { cls:=.type "range",data:=.fields #[.int lo t,.int hi u,.int 1 v] }).objs.size,[(s.heap.push { cls:=.type "range",data:=.fields #[.int lo t,.int hi u,.int 1 v] }).objs.size],_,_,H,rfl,
  I1.kept (t':=tk) fun b o e=>jvF _ e,jie _ lo (hi - lo).toNat,?_,fun b hb=>?_,q⟩
 ·have e1:lo + ((0:Nat):Int) * 1=lo:=by simp
  have e2:(((hi - lo).toNat:Nat):Int) - ((0:Nat):Int)=Builtin.Range.rangeSize lo hi 1:=by rw[rangeSize_one];split <;> omega
  show IsRangeIter _ _ (lo + ((0:Nat):Int) * 1) ((((hi - lo).toNat:Nat):Int) - ((0:Nat):Int)) 1;rw[e1,e2];exact jvH _ rfl
 ·have e:b=(s.heap.push { cls:=.type "range",data:=.fields #[.int lo t,.int hi u,.int 1 v] }).objs.size:=by simpa using hb
  subst e;exact I1.fpOk (jvK _) (I1.hok.fresh (jvK _))
noncomputable def js6 (ta:TA):TI:=fun σ H R=>ta σ H fun vs H1=>∃j:Int,vs=[.int j]/\-(2 ^ 62)<=j/\j < 2 ^ 62/\R (Itr 0 j.toNat) H1
theorem jjB {a:Expr}{ta:TA}{p pos:Pos}(hg:Gl X "range")(hm:X.mg "range"=none)(ha:PA X [a] ta)(hs:starEach [a] X.env=[(false,eval a X.env)]:=by rfl):PI X tg (.Call (.Name "range" p) [a] [] pos) (js6 ta):=by
 intro pins s σ H R I h;refine Call_ (jfj I hg hm boot_range (PyProof.Rows.callWith_type1 (thn (ha pos pins s σ H _ I h) fun us s1 hzz=>?_) hs rfl));obtain⟨vs,H1,I1,r1,q1⟩:=hzz;obtain⟨j,e,q1,q2,q⟩:=q1;subst e;cases r1 with
 |cons r rr=>
  cases rr;obtain⟨t,rfl⟩:=r;exact call_range_1 (jlZ I1 (by omega) (by omega) q1 q2 (by simpa using q))
noncomputable def jcj (fp:List Addr)(h:Heap):List (Addr×Obj):=fp.filterMap fun b=>(h.get? b).map fun o=>(b,o)
theorem jbx {fp:List Addr}{h:Heap}{b:Addr}{o:Obj}(hb:b∈fp)(e:h.get? b=some o):(b,o)∈jcj fp h:=List.mem_filterMap.mpr ⟨b,hb,by rw[e];rfl⟩
theorem jjC {fp:List Addr}{h:Heap}{p:Addr×Obj}(hp:p∈jcj fp h):p.1∈fp/\h.get? p.1=some p.2:=by
 obtain⟨b,hb,e⟩:=List.mem_filterMap.mp hp;cases q:h.get? b with
 |none=>rw[q]at e;cases e
 |some o=>
  rw[q]at e;have e':(b,o)=p:=Option.some.inj e;subst e';exact⟨hb,q⟩
theorem Inv.pinned {pins:List (Addr×Obj)}{σ:St}{H:Hp}{s:Shared}{fp:List Addr}(I:Inv X pins σ H s)(hf:∀b∈fp,FpOk X pins H b)(ho:∀b∈fp,∃o,s.heap.get? b=some o/\∀v,o.data≠.cell v):Inv X (pins++jcj fp s.heap) σ H s:=
 I.pins_of fun p hp=>(List.mem_append.mp hp).elim (fun z=>I.pin p (jvg _ z)) fun z=>by
  obtain⟨hb,e⟩:=jjC z;obtain⟨f0,f1,f2,_⟩:=hf p.1 hb;obtain⟨o,e',d⟩:=ho p.1 hb;rw[e]at e';cases e';exact⟨e,f0,f1,f2,d⟩
theorem Inv.unpinned {pins pl:List (Addr×Obj)}{σ:St}{H:Hp}{s:Shared}(I:Inv X (pins++pl) σ H s):Inv X pins σ H s:=I.pins_of fun p hp=>I.pin p (jvg _ (jvs _ hp))
end
end L2
namespace L2
open PySem PySem.Spec PyProof.Rows
noncomputable abbrev R2:=V->V->Hp->VK->Prop
noncomputable def OpR (X:Cx)(f:Value->Value->Sem Value)(r:R2):Prop:=
 ∀(pins:List (Addr×Obj)) (s:Shared) (σ:St) (H:Hp) (x y:V) (v u:Value) (Q:VK),Inv X pins σ H s->RelV x v->RelV y u->r x y H Q ->
  wpAny (model X.prog X.w) X.A (f v u) (EP X pins σ Q) X.xe s
noncomputable def CallR (X:Cx)(f:Value)(r:List V->Hp->VK->Prop):Prop:=
 ∀(pins:List (Addr×Obj)) (s:Shared) (σ:St) (H:Hp) (xs:List V) (us:List Value) (Q:VK),Inv X pins σ H s->Vals xs us->r xs H Q ->
  wpAny (model X.prog X.w) X.A (call f us) (EP X pins σ Q) X.xe s
noncomputable def juz (X:Cx)(r:V->Hp->(Bool->Hp->Prop)->Prop):Prop:=
 ∀(pins:List (Addr×Obj)) (s:Shared) (σ:St) (H:Hp) (x:V) (v:Value) (Q:Bool->Hp->Prop),Inv X pins σ H s->RelV x v->r x H Q ->
  wpAny (model X.prog X.w) X.A (truthy v) (TP X pins σ Q) X.xe s
noncomputable def tOp (r:R2)(ta tb:TE):TE:=fun σ H Q=>ta σ H fun x H1=>tb σ H1 fun y H2=>r x y H2 Q
noncomputable def tUn (r:V->Hp->VK->Prop)(ta:TE):TE:=fun σ H Q=>ta σ H fun x H1=>r x H1 Q
noncomputable def rI (C:Int->Int->Prop)(g:Int->Int->V):R2:=fun x y H Q=>∃i j,x=.int i/\y=.int j/\C i j/\Q (g i j) H
noncomputable def rI0 (g:Int->Int->V):R2:=fun x y H Q=>∃i j,x=.int i/\y=.int j/\Q (g i j) H
section
variable {X:Cx}{a b c:Expr}{ta tb tc:TE}{pos:Pos}
theorem js7 (ha:PE X a ta)(hb:PE X b tb){pins:List (Addr×Obj)}{s:Shared}{σ:St}{H:Hp}{R:V->V->Hp->Prop}(I:Inv X pins σ H s)
  (h:ta σ H fun x H1=>tb σ H1 fun y H2=>R x y H2) {Q:Value->Shared->Prop}{f:Value->Value->Sem Value}
  (hf:∀v u s2 x y H2,Inv X pins σ H2 s2->RelV x v->RelV y u->R x y H2->wpAny (model X.prog X.w) X.A (f v u) Q X.xe s2) :
  wpAny (model X.prog X.w) X.A (eval a X.env) (fun v s₁=>wpAny (model X.prog X.w) X.A (eval b X.env) (fun u s₂=>wpAny (model X.prog X.w) X.A (f v u) Q X.xe s₂) X.xe s₁) X.xe s:=by
 refine thn (ha pins s σ H _ I h) fun v s1 hzz=>?_;obtain⟨x,H1,I1,r1,q1⟩:=hzz;refine thn (hb pins s1 σ H1 _ I1 q1) fun u s2 hzz=>?_;obtain⟨y,H2,I2,r2,q2⟩:=hzz;exact hf v u s2 x y H2 I2 r1 r2 q2
theorem js8 {op:Operator}{r:R2}(ho:OpR X (binaryOp op) r)(ha:PE X a ta)(hb:PE X b tb):PE X (.BinOp a op b pos) (tOp r ta tb):=by
 intro pins s σ H Q I h;exact wpAny_BinOp (js7 ha hb I h fun v u s2 x y H2 I2 rx ry q=>ho pins s2 σ H2 x y v u Q I2 rx ry q)
theorem opI {f:Value->Value->Sem Value}{C:Int->Int->Prop}{g:Int->Int->Int}
  (rule:∀(i j:Int) (t u:Tok) (s:Shared) (Q:Value->Shared->Prop) (E:Value->Shared->Prop),C i j->Q (.int (g i j) s.toks) { s with toks:=s.toks + 1 }->wpAny (model X.prog X.w) X.A (f (.int i t) (.int j u)) Q E s) :
  OpR X f (rI C fun i j=>.int (g i j)):=by
 intro pins s σ H x y v u Q I rx ry h;obtain⟨i,j,rfl,rfl,hc,q⟩:=h;obtain⟨t,rfl⟩:=rx;obtain⟨t',rfl⟩:=ry;exact rule i j t t' s _ _ hc ⟨.int (g i j),H,I.tok _,⟨_,rfl⟩,q⟩
theorem jub {f:Value->Value->Sem Value}{g:Int->Int->Int}
  (rule:∀(i j:Int) (t u:Tok) (s:Shared) (Q:Value->Shared->Prop) (E:Value->Shared->Prop),Q (.int (g i j) s.toks) { s with toks:=s.toks + 1 }->wpAny (model X.prog X.w) X.A (f (.int i t) (.int j u)) Q E s) :
  OpR X f (rI0 fun i j=>.int (g i j)):=by
 intro pins s σ H x y v u Q I rx ry h;obtain⟨i,j,rfl,rfl,q⟩:=h;obtain⟨t,rfl⟩:=rx;obtain⟨t',rfl⟩:=ry;exact rule i j t t' s _ _ ⟨.int (g i j),H,I.tok _,⟨_,rfl⟩,q⟩
theorem jsP {f:Value->Value->Sem Value}{g:Int->Int->Bool}
  (rule:∀(i j:Int) (t u:Tok) (s:Shared) (Q:Value->Shared->Prop) (E:Value->Shared->Prop),Q (.bool (g i j)) s->wpAny (model X.prog X.w) X.A (f (.int i t) (.int j u)) Q E s) :
  OpR X f (rI0 fun i j=>.bl (g i j)):=by
 intro pins s σ H x y v u Q I rx ry h;obtain⟨i,j,rfl,rfl,q⟩:=h;obtain⟨t,rfl⟩:=rx;obtain⟨t',rfl⟩:=ry;exact rule i j t t' s _ _ ⟨.bl (g i j),H,I,rfl,q⟩
noncomputable def juA (i j:Int):Prop:=0<=j/\j<=1000000/\i.natAbs < 2 ^ 64
noncomputable def CMul (i j:Int):Prop:=(-(2 ^ 64) < i/\i < 2 ^ 64)\/(-(2 ^ 64) < j/\j < 2 ^ 64)
theorem CMul.ok {i j:Int}(h:CMul i j):IntMulOk i j:=by
 rcases h with ⟨h1,h2⟩ | ⟨h1,h2⟩
 ·exact .of_left (intBits_le_64 h1 h2)
 ·exact .of_right (intBits_le_64 h1 h2)
theorem jrb:OpR X (binaryOp .Add) (rI0 fun i j=>.int (i + j)):=jub fun _ _ _ _ _ _ _ q=>add_int q
theorem jrc:OpR X (binaryOp .Sub) (rI0 fun i j=>.int (i - j)):=jub fun _ _ _ _ _ _ _ q=>sub_int q
theorem jrd:OpR X (binaryOp .Mult) (rI CMul fun i j=>.int (i * j)):=opI fun _ _ _ _ _ _ _ hc q=>mul_int q hc.ok
theorem jre:OpR X (binaryOp .Mod) (rI (fun _ j=>0 < j) fun i j=>.int (i % j)):=opI fun i j _ _ _ _ _ hc q=>by
 have h1:(0:Int) < j:=hc;exact mod_int' (by omega) (by rw[Int.fmod_eq_emod_of_nonneg i (by omega)];exact q)
theorem jrf:OpR X (binaryOp .Pow) (rI juA fun i j=>.int (i ^ j.toNat)):=opI fun _ _ _ _ _ _ _ hc q=>pow_int_small hc.1 hc.2.1 hc.2.2 q
end
section
variable {X:Cx}{a b c:Expr}{ta tb tc:TE}{pos:Pos}
theorem jnW {pins:List (Addr×Obj)}{σ:St}{H:Hp}{s:Shared}{Q:VK}{k k':Bool}(I:Inv X pins σ H s)(q:Q (.bl k) H)(e:k=k'):EP X pins σ Q (.bool k') s:=by
 subst e;exact⟨.bl k,H,I,rfl,q⟩
theorem js9:OpR X (compareOp .Lt) (rI0 fun i j=>.bl (decide (i < j))):=jsP fun _ _ _ _ _ _ _ q=>lt_int q
theorem jta:OpR X (compareOp .LtE) (rI0 fun i j=>.bl (decide (i<=j))):=jsP fun _ _ _ _ _ _ _ q=>le_int q
theorem jtb:OpR X (compareOp .Gt) (rI0 fun i j=>.bl (decide (j < i))):=jsP fun _ _ _ _ _ _ _ q=>gt_int q
theorem jtc:OpR X (compareOp .GtE) (rI0 fun i j=>.bl (decide (j<=i))):=jsP fun _ _ _ _ _ _ _ q=>ge_int q
theorem jrg:OpR X (compareOp .Is) (fun x y H Q=>y=.non/\Q (.bl (decide (x=.non))) H):=by
 intro pins s σ H x y v u Q I rx ry h;obtain⟨rfl,q⟩:=h;cases ry;refine is_none_gen (jnW I q ?_);cases x <;> first
  |(cases rx;rfl)
  |(obtain⟨t,rfl⟩:=rx;rfl)
theorem joO:OpR X (compareOp .IsNot) (fun x y H Q=>y=.non/\Q (.bl (!decide (x=.non))) H):=by
 intro pins s σ H x y v u Q I rx ry h;obtain⟨rfl,q⟩:=h;cases ry;refine isnot_none_gen (jnW I q ?_);cases x <;> first
  |(cases rx;rfl)
  |(obtain⟨t,rfl⟩:=rx;rfl)
theorem joP {op:CmpOp}{r:R2}(ho:OpR X (compareOp op) r)(ha:PE X a ta)(hb:PE X b tb)(hm:behindInMarks op b=false):PE X (.Compare a [op] [b] pos) (tOp r ta tb):=by
 intro pins s σ H Q I h;exact wpAny_Compare1 (js7 ha hb I h fun v u s2 x y H2 I2 rx ry q=>ho pins s2 σ H2 x y v u Q I2 rx ry q) hm
noncomputable def jtd (t:TE):TT:=fun σ H Q=>t σ H fun x H'=>∃k,x=.bl k/\Q k H'
theorem joQ {op:CmpOp}{r:R2}(ho:OpR X (compareOp op) r)(ha:PE X a ta)(hb:PE X b tb)(hm:behindInMarks op b=false):PT X (.Compare a [op] [b] pos) (jtd (tOp r ta tb)):=by
 intro pins s σ H Q I h;refine wpAny_isTrue_Compare1 (thn (ha pins s σ H _ I h) fun v s1 ⟨x,H1,I1,r1,q1⟩=>thn (hb pins s1 σ H1 _ I1 q1) fun u s2 ⟨y,H2,I2,r2,q2⟩=>
  thn (ho pins s2 σ H2 x y v u _ I2 r1 r2 q2) fun c s3 ⟨z,H3,I3,r3,k,e,q3⟩=>?_) hm
 subst e;cases r3;exact wpAny_truthy_bool ⟨H3,I3,q3⟩
noncomputable def jte (K:PySem.W.Frag)(x:V)(H:Hp)(k:Bool):Prop:=
 match x with
 |.non=>k=false
 |.bl b=>k=b
 |.int i=>k=(i != 0)
 |.str y=>y.length<=sizeLine/\k=((y.length:Int) != 0)
 |.byt y=>y.size<=sizeLine/\k=((y.size:Int) != 0)
 |.ref p=>(∃xs,SqL K H p xs/\k=!xs.isEmpty)\/(∃xs,SqT K H p xs/\k=!xs.isEmpty)\/∃kvs,H p=some (.dK kvs)/\k=!kvs.isEmpty
 |_=>False
theorem jif {κ:Type}{kvs:List (κ×V)}{vs:List (κ×Value)}(r:KV kvs vs):(!vs.isEmpty)=!kvs.isEmpty:=by
 cases r <;> rfl
theorem jec {xs:List V}{its:List Value}(r:Vals xs its):(!its.toArray.isEmpty)=!xs.isEmpty:=by
 cases r <;> simp
theorem jck:(sizeLine:Nat) < 2 ^ 63:=by rw[sizeLine_eq];decide
theorem jrh:juz X (fun x H Q=>∃k,jte X.K x H k/\Q k H):=by
 intro pins s σ H x v Q I rx h;obtain⟨k,e,q⟩:=h;have hl:=jck;have hs:sizeLine=16777216:=sizeLine_eq;cases x with
 |non=>
  cases rx;have e':k=false:=e;subst e';exact truthy_none ⟨H,I,q⟩
 |bl b=>
  cases rx;have e':k=b:=e;subst e';exact wpAny_truthy_bool ⟨H,I,q⟩
 |int i=>
  obtain⟨t,rfl⟩:=rx;have e':k=(i != 0):=e;subst e';exact PySem.P.truthy_int ⟨H,I,q⟩
 |str y=>
  obtain⟨t,rfl⟩:=rx;obtain⟨hy,e'⟩:y.length<=sizeLine/\k=((y.length:Int) != 0):=e;subst e';exact PySem.P.truthy_str (by omega) ⟨H,I.tok _,q⟩
 |byt y=>
  obtain⟨t,rfl⟩:=rx;obtain⟨hy,e'⟩:y.size<=sizeLine/\k=((y.size:Int) != 0):=e;subst e';exact PySem.W.truthy_bytes (by omega) ⟨H,I.tok _,q⟩
 |ref p=>
  cases rx;have e':(∃xs,SqL X.K H p xs/\k=!xs.isEmpty)\/(∃xs,SqT X.K H p xs/\k=!xs.isEmpty)\/∃kvs,H p=some (.dK kvs)/\k=!kvs.isEmpty:=e;rcases e' with ⟨xs,hx,e'⟩ | ⟨xs,hx,e'⟩ | ⟨kvs,hx,e'⟩
  ·subst e';obtain⟨its,r,pl,hz⟩:=I.list hx;have hlen:=r.length;exact wpAny_truthy_list pl.isList (by simp only[ju9];omega) ⟨H,I.tok _,by rw[jec r];exact q⟩
  ·subst e';obtain⟨its,r,pl,hz⟩:=I.tuple hx;have hlen:=r.length;exact truthy_tuple pl (by simp only[ju9];omega) ⟨H,I.tok _,by rw[jec r];exact q⟩
  ·subst e';obtain⟨hz,hS,vs,r,m⟩:kvs.length<=sizeLine/\(p == sysModules)=false/\∃vs,KV kvs vs/\s.heap.DictOf (jgh X.prog X.w) p vs:=I.hok p _ hx;have hlen:kvs.length=vs.length:=Paired.length r;exact wpAny_truthy_dict hS m (by omega) ⟨H,I.tok _,by rw[jif r];exact q⟩
 |_=>exact(show False from e).elim
theorem jl0 (ha:PE X a ta)(he:∀whole,isTrue a X.env whole=(do let v <-whole;standAt a.pos;holding [v] (truthy v))) :
  PT X a (fun σ H Q=>ta σ H fun x H'=>∃k,jte X.K x H' k/\Q k H'):=by
 intro pins s σ H Q I h;exact isTrue_plain (thn (ha pins s σ H _ I h) fun v s1 ⟨x,H1,I1,r1,q1⟩=>jrh pins s1 σ H1 x v Q I1 r1 q1) (he _)
theorem jig:OpR X (binaryOp .Add) (fun x y H Q=>∃i j,x=.str i/\y=.str j/\i.length + j.length<=sizeLine/\Q (.str (i++j)) H):=by
 intro pins s σ H x y v u Q I rx ry h;obtain⟨i,j,rfl,rfl,hz,q⟩:=h;obtain⟨t,rfl⟩:=rx;obtain⟨t',rfl⟩:=ry;exact add_str (fun t' tk=>⟨.str (i++j),H,I.tok _,⟨_,rfl⟩,q⟩) hz
theorem jbV {x:V}{us:List Value}(r:Vals [x] us):∃u,us=[u]/\RelV x u:=by
 cases r with
 |cons r1 r2=>cases r2;exact⟨_,rfl,r1⟩
theorem jtf {x y:V}{us:List Value}(r:Vals [x,y] us):∃u w',us=[u,w']/\RelV x u/\RelV y w':=by
 cases r with
 |cons r1 r2=>
  cases r2 with
  |cons r3 r4=>cases r4;exact⟨_,_,rfl,r1,r3⟩
theorem call_int1:CallR X (.type "int") (fun xs H Q=>(∃i,xs=[.int i]/\Q (.int i) H)\/∃k,xs=[.bl k]/\Q (.int (if k then 1 else 0)) H):=by
 intro pins s σ H xs us Q I r h;rcases h with ⟨i,rfl,q⟩ | ⟨k,rfl,q⟩
 ·obtain⟨u,rfl,t,rfl⟩:=jbV r;exact call_int_int ⟨.int i,H,I,⟨_,rfl⟩,q⟩
 ·obtain⟨u,rfl,r1⟩:=jbV r;cases r1;exact call_int_bool ⟨.int (if k then 1 else 0),H,I.tok _,⟨_,rfl⟩,q⟩
end
end L2
namespace L2
open PySem PySem.Spec PyProof.Rows
section
variable {prog:Program}{w:World}{A:Around}{E:Value->Shared->Prop}{s:Shared}{K:PySem.W.Frag}{x dx C f:Addr}{mA:Str->Option Value}{name:Str}{v:Value}
end
section
variable {P:Program}{w:World}{H H':Hp}{h h':Heap}{a C dx:Addr}{fs fs':List (Str×V)}
end
section
variable {X:Cx}{pins:List (Addr×Obj)}{σ:St}{H:Hp}{s:Shared}{a C dx:Addr}{fs:List (Str×V)}{f:Str}{v:V}{A:Around}{E:Value->Shared->Prop}
end
section
variable {X:Cx}{o e value:Expr}{f:Str}{pos pos' tpos:Pos}{ta tv:TE}
end
section
variable {X:Cx}{pins:List (Addr×Obj)}{σ:St}{H:Hp}{s:Shared}{A:Around}{E:Value->Shared->Prop}{Q:Value->Shared->Prop}{c:Value}{b:Bool}
end
end L2
namespace L2
open PySem PySem.Spec PyProof.Rows
structure Room (k:Nat)(A:Around):Prop where
 hd:A.handled=none
 dp:A.depth + 3 * k + 5 < recursionLimit
 un:A.units + 16 * k + 200 < cLine
theorem Room.deeper {k:Nat}{A:Around}(r:Room (k + 1) A)(env:Env):Room k (A.deeper env):=
 ⟨r.hd,by have:=r.dp;show A.depth + 1 + 3 * k + 5 < _;omega,by have:=r.un;show A.units + 3 + 16 * k + 200 < _;omega⟩
theorem Room.depth {k:Nat}{A:Around}(r:Room k A):A.depth < recursionLimit:=by have:=r.dp;omega
theorem Room.units {k:Nat}{A:Around}(r:Room k A):A.units + 64 < cLine:=by have:=r.un;omega
noncomputable def jqJ:TA:=fun _ H Q=>Q [] H
noncomputable def jjD (ta:TE)(tr:TA):TA:=fun σ H Q=>ta σ H fun x H1=>tr σ H1 fun xs H2=>Q (x::xs) H2
section
variable {X:Cx}{e:Expr}{es:List Expr}{te:TE}{t:TA}{pos:Pos}
theorem jby:PA X [] jqJ:=fun _ _ _ _ H Q I h=>Calls.spliced_nil ⟨[],H,I,.nil,h⟩
theorem jaK (ha:PE X e te)(hr:PA X es t)(hs:starEach (e::es) X.env=(false,eval e X.env)::starEach es X.env:=by rfl):PA X (e::es) (jjD te t):=by
 intro pos pins s σ H Q I h;rw[hs];show wpAny _ _ (spliced ((false,eval e X.env)::backTo pos (starEach es X.env))) _ _ s;refine Calls.spliced_cons (thn (ha pins s σ H _ I h) fun u s1 hzz=>?_);obtain⟨x,H1,I1,r1,q1⟩:=hzz;exact thn (hr pos pins s1 σ H1 _ I1 q1) fun us s2 ⟨xs,H2,I2,r2,q2⟩=>⟨x::xs,H2,I2,.cons r1 r2,q2⟩
noncomputable def juB (t:TA):TE:=fun σ H Q=>t σ H fun xs H1=>xs.length<=sizeLine/\∀p,H1 p=none->Q (.ref p) (upd H1 p (.tup xs))
noncomputable def juC (t:TA):TE:=fun σ H Q=>t σ H fun xs H1=>xs.length<=sizeLine/\∀p,H1 p=none->Q (.ref p) (upd H1 p (.lst xs))
theorem jnX {x1}(h:PA X es t):PE X (.Tuple es x1 pos) (juB t):=by
 intro pins s σ H Q I hq;refine wpAny_Tuple_spliced (thn (h pos pins s σ H _ I hq) fun us s1 ⟨xs,H1,I1,r,z,q⟩=>⟨by rw[<-r.length];exact z,?_⟩)
 have hf:H1 s1.heap.objs.size=none:=I1.hok.fresh (jvK _);refine⟨.ref s1.heap.objs.size,upd H1 s1.heap.objs.size (.tup xs),I1.laid (t':=s1.toks) (fun b u e=>jvF _ e) (jvK _) ?_,rfl,q _ hf⟩;exact⟨z,us,r,⟨_,jvH _ rfl,rfl,_,rfl⟩⟩
theorem jri (h:PA X es t):PE X (.List es pos) (juC t):=by
 intro pins s σ H Q I hq;refine wpAny_List_spliced (thn (h pos pins s σ H _ I hq) fun us s1 ⟨xs,H1,I1,r,z,q⟩=>⟨by rw[<-r.length];exact z,?_⟩)
 have hf:H1 s1.heap.objs.size=none:=I1.hok.fresh (jvK _);refine⟨.ref s1.heap.objs.size,upd H1 s1.heap.objs.size (.lst xs),I1.laid (t':=s1.toks) (fun b u e=>jvF _ e) (jvK _) ?_,rfl,q _ hf⟩;exact⟨z,us,0,r,jvH _ rfl⟩
end
noncomputable abbrev Sp:=List V->Hp->VK->XK->Prop
noncomputable abbrev CXT:=List Env->Hp->Shared->XK->Value->Shared->Prop
structure Env0 (P:Program)(w:World)(K:PySem.W.Frag)(mg:Str->Option Value)(base:Heap)(A:Around)(outer:List Env)(s:Shared)(H:Hp):Prop where
 frames:A.frames=some outer
 mod:Mod K mg base
 bs:∀b o,base.get? b=some o->s.heap.get? b=some o/\H b=none
 bsz:base.objs.size<=s.heap.objs.size
 funs:s.heap.FunFrames base outer
 frf:∀b∈frs outer,H b=none
 hok:HOk P w H s.heap
 bare:AllBare s.gens
inductive CE (outer:List Env) (P:Program) (w:World) (H:Hp) (s:Shared) (Q:VK) (u:Value) (s':Shared):Prop
 |mk (v:_) (H':_):(s'.os=s.os)->(AllBare s'.gens)->(Un (frs outer) [] H H' s.heap s'.heap)->(HOk P w H' s'.heap)->(RelV v u)->(Q v H')->CE outer P w H s Q u s'
noncomputable def CR (CX:CXT)(outer:List Env)(P:Program)(w:World)(H:Hp)(s:Shared)(Q:VK)(E:XK)(r:Result)(s':Shared):Prop:=
 match r with
 |.ok (.ret u)=>CE outer P w H s Q u s'
 |.ok _=>False
 |.error e=>CX outer H s E e s'
structure FnOk (P:Program)(w:World)(K:PySem.W.Frag)(mg:Str->Option Value)(base:Heap)(CX:CXT)(k:Nat)(f:Addr)(fd:FuncData)(ps:List Str)(sp:Sp):Prop where
 len:∀vs H Q E,sp vs H Q E->vs.length=ps.length
 run:∀(A:Around) (outer:List Env) (s:Shared) (H:Hp) (args:Args) (us:List Value) (vs:List V) (Q:VK) (E:XK),Room k A->Env0 P w K mg base A outer s H->BindsTo s fd args (ps.zip us)->Vals vs us->sp vs H Q E ->
  codeAny (model P w) A (.call (.ref f) args) (CR CX outer P w H s Q E) s
section
variable {X:Cx}{pins:List (Addr×Obj)}{σ:St}{H:Hp}{s s':Shared}
theorem Inv.env0 (I:Inv X pins σ H s):Env0 X.prog X.w X.K X.mg X.base X.A X.stack s H:=
 ⟨I.ok.frames,I.ok.mod,I.bs,jvN I.ok.bsz I.sz,I.stack,I.stkFree,I.hok,I.bare⟩
theorem Inv.after {Q:VK}{u:Value}(I:Inv X pins σ H s)(h:CE X.stack X.prog X.w H s Q u s'):EP X pins σ Q u s':=by
 obtain⟨v,H',os,bare,un,hok,r,q⟩:=h;obtain⟨hh,g,d,t,os'⟩:=s';obtain rfl:os'=s.os:=os;exact⟨v,H',I.call (h':=hh) (g':=g) (d':=d) (t':=t) (ch:=[]) un hok bare (fun b z=>absurd z (by simp)),r,q⟩
end
noncomputable def Binds (K:PySem.W.Frag)(fd:FuncData)(ps:List Str)(ds:List Value):Prop:=
 ∀(s:Shared) (us:List Value),K.In s.heap->(us++ds).length=ps.length->BindsTo s fd ⟨us,[]⟩ (ps.zip (us++ds))
theorem Binds.all {K:PySem.W.Frag}{fd:FuncData}{ps:List Str}(h:∀us:List Value,us.length=ps.length->bindArgs fd ⟨us,[]⟩=pure (ps.zip us)):Binds K fd ps []:=fun s us _ hl=>by
 rw[jvu]at hl ⊢;exact .of_eq (h us hl)
section
variable {X:Cx}{CX:CXT}{k:Nat}{f C:Addr}{fd:FuncData}{ps:List Str}{sp:Sp}{dvs:List V}{ds:List Value}{E:XK}{x m:Str}{p pos apos:Pos}{e o:Expr}{es:List Expr}{ta:TE}{t:TA}
end
section
variable {X:Cx}{CX:CXT}{k:Nat}{f C:Addr}{fd:FuncData}{ps ks:List Str}{sp:Sp}{E:XK}{x m:Str}{p pos apos kpos:Pos}{e o:Expr}{es:List Expr}{kws:List Keyword}{te ta:TE}{t tk:TA}{nm:Option Str}
variable {g:List Value->List Value->List Value}{gV:List V->List V->List V}
end
structure FnScope (N P:List Str)(sc:Scope):Prop where
 kind:sc.kind=.function
 co:sc.isCoroutine=false
 gen:sc.isGenerator=false
 nd:N.Nodup
 pre:N.take P.length=P
 par:∀x∈P,sc.names.lookup x=some .local\/sc.names.lookup x=some .cell
 nofree:∀y∈sc.names,y.2≠.free
theorem jfk {kindOf:Str->Option NameKind}{x:Str}:∀{binds:List (Str×Value)}{m:Str->Option Value},(∀v,(x,v) ∉ binds)->bindL kindOf binds m x=m x
 |[],_,_=>rfl
 |(n,v)::r,m,h=>by
  unfold bindL;rw[jfk fun w hw=>h w (ju6 _ hw)];split
  ·have:x≠n:=by rintro rfl;exact h v ju7
   simp[this]
  ·rfl
theorem jfl {kindOf:Str->Option NameKind}{x:Str}:∀{binds:List (Str×Value)}{m:Str->Option Value},(∀v,(x,v) ∉ binds)->bindC kindOf binds m x=m x
 |[],_,_=>rfl
 |(n,v)::r,m,h=>by
  unfold bindC;rw[jfl fun w hw=>h w (ju6 _ hw)];split
  ·rfl
  ·have:x≠n:=by rintro rfl;exact h v ju7
   simp[this]
theorem jfm {kindOf:Str->Option NameKind}{x:Str}{v:Value}:∀{P:List Str}{vs:List Value}{i:Nat}{m:Str->Option Value},P.Nodup->P[i]?=some x->vs[i]?=some v->kindOf x=some .local ->
  bindL kindOf (P.zip vs) m x=some v
 |[],_,_,_,_,h,_,_=>by simp at h
 |_::_,[],_,_,_,_,h,_=>by simp at h
 |p::P,w::vs,0,m,nd,h1,h2,hk=>by
  simp at h1 h2;subst h1;subst h2;show bindL kindOf ((p,w)::P.zip vs) m p=_;unfold bindL;rw[jfk fun v hv=>(List.nodup_cons.mp nd).1 (List.of_mem_zip hv).1,if_pos hk];simp
 |p::P,w::vs,i + 1,m,nd,h1,h2,hk=>by
  show bindL kindOf ((p,w)::P.zip vs) m x=_;unfold bindL;exact jfm (i:=i) (List.nodup_cons.mp nd).2 (by simpa using h1) (by simpa using h2) hk
theorem jfn {kindOf:Str->Option NameKind}{x:Str}{v:Value}:∀{P:List Str}{vs:List Value}{i:Nat}{m:Str->Option Value},P.Nodup->P[i]?=some x->vs[i]?=some v->kindOf x≠some .local ->
  bindC kindOf (P.zip vs) m x=some v
 |[],_,_,_,_,h,_,_=>by simp at h
 |_::_,[],_,_,_,_,h,_=>by simp at h
 |p::P,w::vs,0,m,nd,h1,h2,hk=>by
  simp at h1 h2;subst h1;subst h2;show bindC kindOf ((p,w)::P.zip vs) m p=_;unfold bindC;rw[jfl fun v hv=>(List.nodup_cons.mp nd).1 (List.of_mem_zip hv).1,if_neg hk];simp
 |p::P,w::vs,i + 1,m,nd,h1,h2,hk=>by
  show bindC kindOf ((p,w)::P.zip vs) m x=_;unfold bindC;exact jfn (i:=i) (List.nodup_cons.mp nd).2 (by simpa using h1) (by simpa using h2) hk
noncomputable def start (N:List Str)(vs:List V):St:=vs.map some++List.replicate (N.length - vs.length) none
noncomputable def jih (CX:CXT)(P:Program)(w:World)(K:PySem.W.Frag)(mg:Str->Option Value)(base:Heap)(N:List Str)(qual:Str)(scope:Scope)(f:Addr)(cd:Value)(A:Around)(outer:List Env)(s:Shared)(H:Hp)(E:XK):Cx where
 prog:=P
 w:=w
 K:=K
 mg:=mg
 base:=base
 A:=A.deeper (envOfC qual scope s.heap.objs.size f cd)
 N:=N
 s₀:=s
 H₀:=H
 env:=envOfC qual scope s.heap.objs.size f cd
 outer:=outer
 stack:=envOfC qual scope s.heap.objs.size f cd::outer
 ex:=[]
 calm:=true
 fn:=fun _=>true
 pn:=[]
 xe:=fun e s'=>wpAny (model P w) (A.deeper (envOfC qual scope s.heap.objs.size f cd)) (leaving (envOfC qual scope s.heap.objs.size f cd) e) (fun _ s''=>CX outer H s E e s'') (fun e' s''=>CX outer H s E e' s'') s'
theorem jhm {sc:Scope}{n:Nat}{x:Str}(h:sc.names.lookup x=some .cell):∃c,(cellsFrom n sc.names []).lookup x=some c:=by
 have q:=PySem.W.cellsFrom_some sc.names n [] (.inl h);exact Option.isSome_iff_exists.mp q
theorem jjE {CX:CXT}{P:Program}{w:World}{K:PySem.W.Frag}{mg:Str->Option Value}{base:Heap}{N ps:List Str}{qual:Str}{scope:Scope}{f:Addr}{cd:Value}{A:Around}{outer:List Env}{s s1:Shared}{H:Hp}{E:XK}{us:List Value}{vs:List V}
  (S:FnScope N ps scope) (hd:A.handled=none) (e0:Env0 P w K mg base A outer s H) (hl:vs.length=ps.length) (r:Vals vs us)
  (x:InCallC s s.heap.objs.size (bindL (envOfC qual scope s.heap.objs.size f cd).kindOf (ps.zip us) fun _=>none) (cellsFrom (s.heap.objs.size + 1) scope.names []) (bindC (envOfC qual scope s.heap.objs.size f cd).kindOf (ps.zip us) fun _=>none) s1) :
  Inv (jih CX P w K mg base N qual scope f cd A outer s H E) [] (start N vs) H s1:=by
 have hpl:ps.length<=N.length:=by have:=congrArg List.length S.pre;rw[List.length_take]at this;omega
 obtain⟨h1,tk,rfl,hk⟩:=x.done;have noA:∀b:Addr,b ∉ (jih CX P w K mg base N qual scope f cd A outer s H E).ex:=fun b z=>absurd (show b∈([]:List Addr)from z) (by simp)
 refine⟨⟨e0.mod,S.kind,rfl,rfl,jvK _,fun y z c h1 h2=>?_,fun y hy=>?_,fun y c _ h=>?_,fun _=>hd,Around.frames_deeper e0.frames,.inr ⟨rfl,rfl⟩,fun b z=>absurd z (noA b),e0.bs,e0.bsz,fun b _ _=>noA b,fun b z=>absurd z (noA b),e0.funs,e0.frf⟩,
  rfl,e0.bare,Un.kept hk,⟨_,x.toInCall.ns,fun i y v h1 h2 h3=>?_⟩,fun y c h=>⟨_,x.cell y c h⟩,e0.hok.fresh (jvK _),fun y c h=>?_,fun p hp=>absurd (show p∈([]:List (Addr×Obj))from hp) (by simp),e0.hok.kept hk,?_⟩
 ·exact name_of_addr x.apart (PySem.mem_of_lookup h1) (PySem.mem_of_lookup h2)
 ·have hy:scope.names.lookup y=some .cell\/scope.names.lookup y=some .free:=hy;rcases hy with hy | hy
  ·exact jhm hy
  ·exact absurd rfl (S.nofree _ (PySem.mem_of_lookup hy))
 ·exact Nat.le_of_lt (x.above y c (PySem.mem_of_lookup h))
 ·have hi:i < vs.length:=by
   unfold start at h2;by_cases hi:i < vs.length
   ·exact hi
   ·rw[jvi (by simpa using hi)]at h2
    rw[List.getElem?_replicate]at h2;split at h2 <;> cases h2
  have ha:vs[i]?=some v:=by
   unfold start at h2;rw[jvm (by simpa using hi),jvb]at h2
   cases e:vs[i]? with
   |none=>rw[e]at h2;cases h2
   |some a=>rw[e]at h2;cases h2;rfl
  obtain⟨u,hu,rv⟩:=r.get ha;have hp:ps[i]?=some y:=by
   rw[<-S.pre,List.getElem?_take_of_lt (by omega)];exact h1
  have ndP:ps.Nodup:=by rw[<-S.pre];exact S.nd.sublist (List.take_sublist _ _)
  refine⟨u,rv,?_⟩;rcases S.par y (jvh hp)with k | k
  ·exact .inl ⟨k,jfm ndP hp hu k⟩
  ·obtain⟨c,e⟩:=jhm (n:=s.heap.objs.size + 1) k;refine .inr ⟨.inl k,c,e,?_⟩;have q:=x.cell y c e;rw[jfn ndP hp hu (by show scope.names.lookup y≠_;rw[k];decide)]at q
   exact q
 ·exact e0.hok.fresh (Nat.le_of_lt (x.above y c (PySem.mem_of_lookup h)))
 ·unfold start;show _=N.length;rw[jvj,jve,List.length_replicate];omega
theorem jtg {CX:CXT}{P:Program}{w:World}{K:PySem.W.Frag}{mg:Str->Option Value}{base:Heap}{k:Nat}{f:Addr}{name qual:Str}{params:Arguments}{body:List Stmt}{scope:Scope}{dV kV doc pm cdv ct oc:Value}{an od:Option Addr}
  {osl:Array (Option Value)}{N ps:List Str}{sp:Sp} (lk:K.lookup f=some ⟨oc,od,.func (PySem.W.fnOf name qual params body scope dV kV doc pm an cdv ct),osl⟩) (hcd:PySem.W.codeIn K cdv qual=true) (S:FnScope N ps scope)
  (len:∀vs H Q E,sp vs H Q E->vs.length=ps.length)
  (hbody:∀(A:Around) (outer:List Env) (s:Shared) (H:Hp) (vs:List V) (Q:VK) (E:XK),Room k (A.deeper (envOfC qual scope s.heap.objs.size f cdv))->sp vs H Q E ->
   ∃t,PSs (jih CX P w K mg base N qual scope f cdv A outer s H E) body t/\t { nx:=fun _ H'=>Q .non H',rt:=Q } (start N vs) H) :
  FnOk P w K mg base CX (k + 1) f (PySem.W.fnOf name qual params body scope dV kV doc pm an cdv ct) ps sp:=by
 refine⟨len,fun A outer s H args us vs Q E hr e0 hb r hsp=>?_⟩;have hl:=len _ _ _ _ hsp;have KX:K.In s.heap:=e0.mod.kin.keeps fun b o e=>(e0.bs b o e).1;have lim:s.heap.NoLimit:=e0.mod.nolimit.keeps fun b o e=>(e0.bs b o e).1;have hkind:∀y∈ps.zip us,scope.names.lookup y.1=some .local\/(scope.names.lookup y.1=some .cell/\((cellsFrom (s.heap.objs.size + 1) scope.names []).lookup y.1).isSome=true):=fun ⟨n,v⟩ hy=>by
  rcases S.par n (List.of_mem_zip hy).1 with q | q
  ·exact .inl q
  ·exact .inr ⟨q,PySem.W.cellsFrom_some _ _ _ (.inl q)⟩
 refine codeAny_call_function hr.depth (KX _ _ lk) rfl S.co S.gen rfl (PySem.W.codeRec_of KX hcd) (hb _ _ _ _ ?_);refine wpAny_newFunctionEnv_cells S.kind hkind fun env he s1 x=>?_;subst he;refine⟨lim.keeps x.toInCall.keep,codeAny_func ?_⟩;obtain⟨t,ht,hq⟩:=hbody A outer s H vs Q E (hr.deeper _) hsp;have I:Inv (jih CX P w K mg base N qual scope f cdv A outer s H E) [] (start N vs) H s1:=jjE S hr.hd e0 hl r x;refine jvE (ht [] s1 (start N vs) H _ I hq) (fun fl s' hs=>?_) fun e s' hs=>hs;have fin:∀{σ':St}{H':Hp}{v:V}{u:Value},Inv (jih CX P w K mg base N qual scope f cdv A outer s H E) [] σ' H' s'->RelV v u->Q v H'->CE outer P w H s Q u s':=
  fun {σ' H' v u} J rv q=>⟨v,H',J.os,J.bare,J.base,J.hok,rv,q⟩
 cases fl with
 |ret u=>
  obtain⟨v,σ',H',J,rv,q⟩:=hs;exact fin J rv q
 |next=>
  obtain⟨σ',H',J,q⟩:=hs;exact fin (v:=V.non) (u:=Value.none) J rfl q
 |brk=>
  obtain⟨_,_,_,q⟩:=hs;exact False.elim q
 |cont=>
  obtain⟨_,_,_,q⟩:=hs;exact False.elim q
end L2
namespace L2
open PySem PySem.Spec PyProof.Rows
section
variable {X:Cx}{x:Str}{p pos:Pos}{e:Expr}{es:List Expr}{t:TA}{id T:String}{r:List V->Hp->VK->Prop}
noncomputable def tCB (r:List V->Hp->VK->Prop)(t:TA):TE:=fun σ H Q=>t σ H fun vs H1=>r vs H1 Q
theorem jb8 (hc:CallR X (.builtin id) r)(hg:Gl X x)(hm:X.mg x=none)(hv:bootBuiltins x=some (.builtin id))(ha:PA X (e::es) t)(hn:x≠"__name__":=by decide)(hdb:(x == ("__debug__":Str))=false:=by decide)
  (he:starEach (e::es) X.env=(false,eval e X.env)::starEach es X.env:=by rfl) (hpl:(backTo pos (starEach es X.env)).any (·.1)=false:=by rfl):PE X (.Call (.Name x p) (e::es) [] pos) (tCB r t):=by
 intro pins s σ H Q I h;refine wpAny_Call_Name_kw (jfj I hg hm hv ?_ hn hdb);exact PyProof.Rows.callWith_builtin1 (thn (ha pos pins s σ H _ I h) fun us s1 ⟨vs,H1,I1,r1,q1⟩=>hc pins s1 σ H1 vs us Q I1 r1 q1) he hpl
theorem jbi (hc:CallR X (.type T) r)(hg:Gl X x)(hm:X.mg x=none)(hv:bootBuiltins x=some (.type T))(ha:PA X (e::es) t)(hn:x≠"__name__":=by decide)(hdb:(x == ("__debug__":Str))=false:=by decide)
  (he:starEach (e::es) X.env=(false,eval e X.env)::starEach es X.env:=by rfl) (hpl:(backTo pos (starEach es X.env)).any (·.1)=false:=by rfl):PE X (.Call (.Name x p) (e::es) [] pos) (tCB r t):=by
 intro pins s σ H Q I h;refine wpAny_Call_Name_kw (jfj I hg hm hv ?_ hn hdb);exact PyProof.Rows.callWith_type1 (thn (ha pos pins s σ H _ I h) fun us s1 ⟨vs,H1,I1,r1,q1⟩=>hc pins s1 σ H1 vs us Q I1 r1 q1) he hpl
end
end L2
namespace HT
open PySem PyProof.Rows
noncomputable def lexLt:List Int->List Int->Bool
 |[],[]=>false
 |[],_::_=>true
 |_::_,[]=>false
 |x::xs,y::ys=>if x=y then lexLt xs ys else decide (x < y)
theorem jed (x y:Int)(xs ys:List Int):lexLt (x::xs) (y::ys)=if x=y then lexLt xs ys else decide (x < y):=rfl
theorem jes:lexLt [] []=false:=rfl
theorem jd4 (y:Int)(ys:List Int):lexLt [] (y::ys)=true:=rfl
theorem jd5 (x:Int)(xs:List Int):lexLt (x::xs) []=false:=rfl
theorem jl1 (A:Around)(s:Shared)(a:Int)(t:Tok)(c:Int)(u:Tok):∃e,SeqAt.EqAt A s (.int a t) (.int c u) e/\(e=true↔a=c):=
 ⟨(a == c),SeqAt.EqAt.int_int a t c u,by simp⟩
theorem jl2 (A:Around)(s:Shared)(a:Int)(t:Tok)(c:Int)(u:Tok)(prog:Program)(w:World)(E:Value->Shared->Prop)(Q:Value->Shared->Prop)(h:Q (.bool (decide (a < c))) s) :
  wpAny (model prog w) A (richCompare .Lt (.int a t) (.int c u)) Q E s:=
 (PyProof.Rows.lt_int h:wpAny (model prog w) A (compareOp .Lt (.int a t) (.int c u)) Q E s)
section
open PySem.SeqAt
open PySem.AutoSeq1 (wpAny_loadPart')
open PySem.MeetsSeq PySem.MeetsSeq2 PySem.MeetsSeq3
theorem jet (l b:Addr)(items items2:Array Value)(n n2:Nat)(dd dd2:Option Addr)(sl sl2:Array (Option Value))(ns ms:List Int)(hi:IntsAre items.toList ns)(hj:IntsAre items2.toList ms) :
  Meets (Builtin.«tuple.__lt__» ⟨[.ref l,.ref b],[]⟩)
   (fun _ R s=>s.heap.get? l=some { cls:=.type "tuple",dict:=dd,data:=.seq items n,slots:=sl }/\s.heap.get? b=some { cls:=.type "tuple",dict:=dd2,data:=.seq items2 n2,slots:=sl2 } /\
    R (.ok (.ret (.bool (lexLt ns ms)))) s):=
 .of_wp fun prog w A R s h=>by
  obtain⟨hp,g,d,tk,os⟩:=s;obtain⟨hl,hb,h⟩:=h;have f2:=AutoSeq1.sub_tuple_tuple;have z1:items.size=ns.length:=by rw[<-hi.length];simp
  have z2:items2.size=ms.length:=by rw[<-hj.length];simp
  wp_walk using wpAny_loadPart' hl,wpAny_loadPart' hb,wpAny_forIn_list _ (fun jdB b s'=>b.1=none/\s'=⟨hp,g,d,tk,os⟩/\∃(vs ws:List Value) (ns' ms':List Int),jdB=vs.zip ws /\
   IntsAre vs ns'/\IntsAre ws ms'/\ns'.length + items2.size=ms'.length + items.size/\R (.ok (.ret (.bool (lexLt ns' ms')))) ⟨hp,g,d,tk,os⟩) _
  case turn=>
   rintro⟨y,x⟩ jdB b s' ⟨hb',rfl,vs,ws,ns',ms',hz,hvi,hwi,hlen,hR⟩;cases hvi with
   |nil=>rw[List.zip_nil_left]at hz;cases hz
   |cons a t hvi'=>
    cases hwi with
    |nil=>rw[List.zip_nil_right]at hz;cases hz
    |cons c u hwi'=>
     rw[List.zip_cons_cons]at hz;injection hz with hyx hrest
     injection hyx with hy hx
     subst hy hx;rw[jed]at hR;simp only[jvf]at hlen;obtain⟨e,he,hiff⟩:=jl1 A.in1 ⟨hp,g,d,tk,os⟩ a t c u;refine jvx (he prog w _ _ ?_);cases e with
     |true=>
      rw[if_pos (hiff.mp rfl)]at hR;wp_walk;exact⟨rfl,rfl,_,_,_,_,hrest,hvi',hwi',by omega,hR⟩
     |false=>
      rw[if_neg (fun q=>absurd (hiff.mpr q) jvR)]at hR;have hri:=jl2 A.in1 ⟨hp,g,d,tk,os⟩ a t c u prog w;wp_walk using hri;exact⟨_,rfl,by simpa using hR⟩
  case fin=>
   rintro⟨b1,b2⟩ s' ⟨hb',rfl,vs,ws,ns',ms',hz,hvi,hwi,hlen,hR⟩;simp only at hb';subst hb';have hv:lexLt ns' ms'=decide (items.size < items2.size):=by
    cases hvi with
    |nil=>
     cases hwi with
     |nil=>
      simp only[jvr]at hlen;rw[jes];exact(decide_eq_false (by omega)).symm
     |cons c u hw=>
      simp only[jvr,jvf]at hlen;rw[jd4];exact(decide_eq_true (by omega)).symm
    |cons a t hv=>
     cases hwi with
     |nil=>
      simp only[jvr,jvf]at hlen;rw[jd5];exact(decide_eq_false (by omega)).symm
     |cons c u hw=>
      rw[List.zip_cons_cons]at hz;cases hz
   rw[hv]at hR;wp_walk;exact⟨_,rfl,by simpa[Builtin.Tuple.tupleCompareSizes] using hR⟩
  case h=>
   exact⟨rfl,rfl,items.toList,items2.toList,ns,ms,rfl,hi,hj,by omega,h⟩
end
section
variable {prog:Program}{w:World}{A:Around}{E:Value->Shared->Prop}{s:Shared}
theorem jii {l b:Addr}{items items2:Array Value}{ns ms:List Int}{Q:Value->Shared->Prop}(hl:IsTup s.heap l items)(hb:IsTup s.heap b items2)(hi:IntsAre items.toList ns)(hj:IntsAre items2.toList ms)
  (hu:A.units < cLine) (h:Q (.bool (lexLt ns ms)) s):wpAny (model prog w) A (compareOp .Lt (.ref l) (.ref b)) Q E s:=by
 obtain⟨⟨cls,dd,data,sl⟩,ho,hc,n,hd⟩:=id hl;obtain⟨⟨cls2,dd2,data2,sl2⟩,ho2,hc2,n2,hd2⟩:=id hb;simp only at hc hd hc2 hd2;subst hc hd hc2 hd2;exact richCompare_meets_room (op:=.Lt) ⟨_,ho,rfl⟩ ⟨_,ho2,rfl⟩ PySem.F.slot_tuple_lt PySem.F.entry_tuple_lt (PySem.F.args_tuple_lt_2 _ _) (jet l b items items2 n n2 dd dd2 sl sl2 ns ms hi hj)
  ⟨ho,ho2,show Value.bool (lexLt ns ms)≠Value.notImplemented/\Q (.bool (lexLt ns ms)) s from⟨(fun x=>nomatch x),h⟩⟩ hu
theorem joR {t b:Addr}{vs ws:List Value}{Q:Value->Shared->Prop}(ht:IsTup s.heap t vs.toArray)(hb:IsTup s.heap b ws.toArray)(hv:vs≠[])
  (h1:ws=[]->Q (.ref t) s) (h2:ws≠[]->Q (.ref s.heap.objs.size) { s with heap:=s.heap.push { cls:=.type "tuple",data:=.seq (vs++ws).toArray } })
  (hsz:vs.length + ws.length<=sizeLine):wpAny (model prog w) A (binaryOp .Add (.ref t) (.ref b)) Q E s:=by
 obtain⟨⟨cls,dd,data,sl⟩,ho,hc,n,hd⟩:=id ht;obtain⟨⟨cls2,dd2,data2,sl2⟩,ho2,hc2,n2,hd2⟩:=id hb;simp only at hc hd hc2 hd2;subst hc hd hc2 hd2;have e:vs.toArray++ws.toArray=(vs++ws).toArray:=by simp
 by_cases hw:ws=[]
 ·exact concat_meets ⟨_,ho,rfl⟩ ⟨_,ho2,rfl⟩ noFill_tuple_add seq_tuple_add PySem.F.slot_tuple_add PySem.F.entry_tuple_add (PySem.F.args_tuple_add_2 _ _)
   (tuple_addW1 t b vs.toArray ws.toArray n n2 dd dd2 sl sl2 (by simpa using hv) (by simp[hw])) ⟨ho,ho2,h1 hw⟩
 ·refine concat_meets ⟨_,ho,rfl⟩ ⟨_,ho2,rfl⟩ noFill_tuple_add seq_tuple_add PySem.F.slot_tuple_add PySem.F.entry_tuple_add (PySem.F.args_tuple_add_2 _ _)
   (tuple_addW2 t b vs.toArray ws.toArray n n2 dd dd2 sl sl2 (by simpa using hv) (by simpa using hw) (by rw[ju9,ju9];exact hsz)) ⟨ho,ho2,?_⟩
  rw[e];exact h2 hw
noncomputable def sIx (n d:Nat):Option Int->Nat
 |none=>d
 |some v=>if v < 0 then (v + (n:Int)).toNat else min v.toNat n
theorem jrj (n d:Nat)(hd:d<=n)(o:Option Int):sIx n d o<=n:=by
 cases o with
 |none=>exact hd
 |some v=>
  show (if v < 0 then (v + (n:Int)).toNat else min v.toNat n)<=n;by_cases hv:v < 0
  ·rw[if_pos hv];omega
  ·rw[if_neg hv];exact Nat.min_le_right _ _
theorem jjF (v:Int)(n d:Nat):(if v < 0 then max (v + (n:Int)) 0 else min v (n:Int))=((sIx n d (some v):Nat):Int):=by
 show (if v < 0 then max (v + (n:Int)) 0 else min v (n:Int))=(((if v < 0 then (v + (n:Int)).toNat else min v.toNat n):Nat):Int);by_cases hv:v < 0
 ·simp only[if_pos hv];omega
 ·simp only[if_neg hv];omega
theorem jij (lo hi:Option Int)(n:Nat):Builtin.Slice.sliceAdjust lo hi 1 (n:Int)=(((sIx n 0 lo:Nat):Int),((sIx n n hi:Nat):Int)):=by
 have h1:¬ ((1:Int) < 0):=by omega
 unfold Builtin.Slice.sliceAdjust;simp only[h1,if_false];refine Prod.ext ?_ ?_
 ·cases lo with
  |none=>rfl
  |some v=>exact jjF v n 0
 ·cases hi with
  |none=>rfl
  |some v=>exact jjF v n n
theorem jik (i j:Nat):Builtin.Slice.slicePlaces (i:Int) (j:Int) 1=j - i:=by
 unfold Builtin.Slice.slicePlaces;have h1:(1:Int) > 0:=by omega
 simp only[h1,if_true,Int.ediv_one];split <;> omega
theorem jee {v:Value}{o:Option Int}{Q:Option Int->Shared->Prop}(p:IsPart v o)(h:Q o s):wpAny (model prog w) A (Builtin.Slice.slicePartIndex v) Q E s:=by
 cases p with
 |none=>exact slicePart_none h
 |int i t=>exact slicePart_int h
theorem jbS {sl:Addr}{vl vu:Value}{lo hi:Option Int}{n:Nat}{Q:Int×Int×Nat->Shared->Prop}(hs:s.heap.IsSliceOf sl vl vu .none)(pl:IsPart vl lo)(pu:IsPart vu hi)
  (h:Q (((sIx n 0 lo:Nat):Int),1,sIx n n hi - sIx n 0 lo) s):wpAny (model prog w) A (Builtin.Slice.sliceApplied (.ref sl) (pure (n:Int))) Q E s:=by
 obtain⟨os,hos,hcs,hds⟩:=id hs;unfold Builtin.Slice.sliceApplied Builtin.Slice.sliceFields;refine jvx (jvx (jvD hos hds (x:=vl) rfl (jvx (jvD hos hds (x:=vu) rfl (jvx (jvD hos hds (x:=.none) rfl (jvy ?_)))))));refine jvx (slicePart_none ?_);show wpAny _ _ (if ((1:Int) == 0)=true then _ else _) _ _ s;rw[if_neg (by decide)]
 refine jvx (jee pl (jvx (jee pu (jvx (jvy ?_)))));show wpAny _ _ (match Builtin.Slice.sliceAdjust lo hi 1 (n:Int)with | (lo,hi)=>pure (lo,(1:Int),Builtin.Slice.slicePlaces lo hi 1)) _ _ s
 rw[jij lo hi n];show wpAny _ _ (pure (((sIx n 0 lo:Nat):Int),(1:Int),Builtin.Slice.slicePlaces ((sIx n 0 lo:Nat):Int) ((sIx n n hi:Nat):Int) 1)) _ _ s;rw[jik];exact jvy h
theorem jl3 (xs:Array Value)(i k:Nat):((List.range k).filterMap fun (m:Nat)=>xs[((i:Int) + (m:Int) * 1).toNat]?).toArray=((xs.toList.drop i).take k).toArray:=by
 have e:(fun (m:Nat)=>xs[((i:Int) + (m:Int) * 1).toNat]?)=fun m=>xs[i + m]?:=by
  funext m
  have:((i:Int) + (m:Int) * 1).toNat=i + m:=by omega
  rw[this]
 rw[e];have:=pick_run xs i k;rw[List.filterMap_map]at this;have e2:((fun x=>xs[x]?) ∘ fun x=>i + x)=fun m=>xs[i + m]?:=rfl;rw[e2]at this;rw[this]
theorem jcZ {t sl:Addr}{items:Array Value}{vl vu:Value}{lo hi:Option Int}{Q:Value->Shared->Prop}(ht:IsTup s.heap t items)(hs:s.heap.IsSliceOf sl vl vu .none)(pl:IsPart vl lo)(pu:IsPart vu hi)
  (hw:¬ (sIx items.size 0 lo=0/\sIx items.size items.size hi=items.size))
  (h:Q (.ref s.heap.objs.size) { s with heap:=s.heap.push { cls:=.type "tuple",data:=.seq ((items.toList.drop (sIx items.size 0 lo)).take (sIx items.size items.size hi - sIx items.size 0 lo)).toArray } })
  (hsz:items.size<=sizeLine):wpAny (model prog w) A (getItem (.ref t) (.ref sl)) Q E s:=by
 have htake:sizeOk (.seq ((items.toList.drop (sIx items.size 0 lo)).take (sIx items.size items.size hi - sIx items.size 0 lo)).toArray):=by
  show ((items.toList.drop (sIx items.size 0 lo)).take (sIx items.size items.size hi - sIx items.size 0 lo)).toArray.size<=sizeLine;rw[ju9,List.length_take,List.length_drop,Array.length_toList];exact jvN (Nat.min_le_right _ _) (jvN (Nat.sub_le _ _) hsz)
 have hj:sIx items.size items.size hi<=items.size:=jrj _ _ (jvK _) hi;obtain⟨os,hos,hcs,hds⟩:=id hs;have hTs:s.TypeIs (.ref sl) "slice":=⟨os,hos,hcs⟩;unfold getItem;try with_reducible refine jvC ?_
 first | refine jvx (jvy ?_) | skip
 refine jvx (wpAny_sequenceKey ht.typeIs (by decide) ?_)
 refine jvx (wpAny_callSpecial?_slot (name:=Str.ofString "__getitem__") ht.typeIs PyProof.Rows.slot_tuple_getitem
  (wpAny_call_entry PyProof.Rows.slot_tuple_getitem ht.typeIs entry_tuple_getitem ?_ (args_tuple_getitem _ _)))
 show wpAny _ _ (Builtin.Tuple.tupleItemsOf (.ref t) >>= _) _ _ s;refine jvx (tupleItemsOf_ ht ?_);refine jvx (wpAny_typeOf hTs ?_);rw[if_pos (by decide)]
 refine jvx (jbS hs pl pu ?_);have hno:¬ ((((sIx items.size 0 lo:Nat):Int) == 0 && (1:Int) == 1 && (sIx items.size items.size hi - sIx items.size 0 lo) == items.size)=true):=by
  intro q;rw[jvP,jvP]at q;have q1:((sIx items.size 0 lo:Nat):Int)=0:=eq_of_beq q.1.1;have q2:sIx items.size items.size hi - sIx items.size 0 lo=items.size:=eq_of_beq q.2;exact hw ⟨by omega,by omega⟩
 show wpAny _ _ (if (((sIx items.size 0 lo:Nat):Int) == 0 && (1:Int) == 1 && (sIx items.size items.size hi - sIx items.size 0 lo) == items.size)=true then _ else _) _ _ s;rw[if_neg hno,jl3];first
  |exact jvx (m:=Builtin.Tuple.tupleExact _) (jvB (jvy ⟨_,rfl,jvy h⟩) htake)
  |exact jvx (m:=Builtin.Tuple.tupleExact _) (jvB (jvx (jvy (jvy ⟨_,rfl,jvy h⟩))) htake)
  |exact jvx (jvx (m:=Builtin.Tuple.tupleExact _) (jvB (jvy (jvy ⟨_,rfl,jvy h⟩)) htake))
  |exact jvx (jvx (m:=Builtin.Tuple.tupleExact _) (jvB (jvy ⟨_,rfl,jvy h⟩) htake))
end
end HT
namespace L2
open PySem PySem.Spec PyProof.Rows
noncomputable abbrev TO:=St->Hp->(Option Int->Hp->Prop)->Prop
noncomputable def PO (X:Cx)(e:Option Expr)(t:TO):Prop:=
 ∀(pins:List (Addr×Obj)) (s:Shared) (σ:St) (H:Hp) (Q:Option Int->Hp->Prop),Inv X pins σ H s->t σ H Q ->
  wpAny (model X.prog X.w) X.A (evalPart e X.env) (fun u s'=>∃o H',Inv X pins σ H' s'/\IsPart u o/\Q o H') X.xe s
noncomputable def joS:TO:=fun _ H Q=>Q none H
noncomputable def jth (t:TE):TO:=fun σ H Q=>t σ H fun x H1=>∃i,x=.int i/\Q (some i) H1
theorem jef {ns:List Int}:∀{us:List Value},Vals (ns.map V.int) us->IntsAre us ns:=by
 induction ns with
 |nil=>intro us r;rw[List.map_nil]at r;cases r;exact .nil
 |cons n ns ih=>
  intro us r;rw[jvc]at r;cases r with
  |cons r1 r2=>
   obtain⟨t,e⟩:=r1;subst e;exact .cons n t (ih r2)
section
variable {X:Cx}{e:Expr}{te:TE}{lo hi:Option Expr}{tl th:TO}{pos p2:Pos}
theorem joT:PO X none joS:=by
 intro pins s σ H Q I h;rw[evalPart_none];exact jvy ⟨none,H,I,.none,h⟩
theorem joU (h:PE X e te):PO X (some e) (jth te):=by
 intro pins s σ H Q I hw;rw[evalPart_some];refine thn (h pins s σ H _ I hw) fun u s1 hzz=>?_;obtain⟨x,H1,I1,r1,q1⟩:=hzz;obtain⟨i,rfl,q⟩:=q1;obtain⟨t,rfl⟩:=r1;exact⟨some i,H1,I1,.int i t,q⟩
noncomputable def SlR (X:Cx)(r:V->Option Int->Option Int->Hp->VK->Prop):Prop:=
 ∀(pins:List (Addr×Obj)) (s:Shared) (σ:St) (H:Hp) (x:V) (v vl vu:Value) (lo hi:Option Int) (sl:Addr) (Q:VK),Inv X pins σ H s->RelV x v->s.heap.IsSliceOf sl vl vu .none->IsPart vl lo->IsPart vu hi->r x lo hi H Q ->
  ∃T id,typeLookup (.type T) "__getitem__"=pure (some (.builtin id))/\s.TypeIs v T/\wpAny (model X.prog X.w) X.A (getItem v (.ref sl)) (EP X pins σ Q) X.xe s
theorem SlR.or {r r':V->Option Int->Option Int->Hp->VK->Prop}(h:SlR X r)(h':SlR X r'):SlR X (fun x lo hi H Q=>r x lo hi H Q\/r' x lo hi H Q):=by
 intro pins s σ H x v vl vu lo hi sl Q I rx hs pl pu q;rcases q with q | q
 ·exact h pins s σ H x v vl vu lo hi sl Q I rx hs pl pu q
 ·exact h' pins s σ H x v vl vu lo hi sl Q I rx hs pl pu q
noncomputable def tSl (r:V->Option Int->Option Int->Hp->VK->Prop)(te:TE)(tl th:TO):TE:=fun σ H Q=>te σ H fun x H1=>tl σ H1 fun l H2=>th σ H2 fun u H3=>r x l u H3 Q
theorem jl4 {r:V->Option Int->Option Int->Hp->VK->Prop}(hr:SlR X r)(he:PE X e te)(hl:PO X lo tl)(hu:PO X hi th):PE X (.Subscript e (.Slice lo hi none p2) pos) (tSl r te tl th):=by
 intro pins s σ H Q I h;refine Subscript_ (thn (he pins s σ H _ I h) fun v s1 hzz=>?_);obtain⟨x,H1,I1,r1,q1⟩:=hzz;refine wpAny_Slice (thn (hl pins s1 σ H1 _ I1 q1) fun vl s2 ⟨l,H2,I2,pl,q2⟩=>thn (hu pins s2 σ H2 _ I2 q2) fun vu s3 hzz=>?_);obtain⟨u,H3,I3,pu,q3⟩:=hzz;rw[evalPart_none];refine jvy ?_;have I4:Inv X pins σ H3 { s3 with heap:=s3.heap.push { cls:=.type "slice",data:=.fields #[vl,vu,.none] } }:=I3.kept (t':=s3.toks) fun b ob q=>jvF _ q
 obtain⟨T,id,hT,ht,hg⟩:=hr pins { s3 with heap:=s3.heap.push { cls:=.type "slice",data:=.fields #[vl,vu,.none] } } σ H3 x v vl vu l u s3.heap.objs.size Q I4 r1 (Heap.IsSliceOf.new ..) pl pu q3
 show wpAny (model X.prog X.w) X.A (subscriptTail e (.Slice lo hi none p2) v (.ref s3.heap.objs.size)) (EP X pins σ Q) X.xe { s3 with heap:=s3.heap.push { cls:=.type "slice",data:=.fields #[vl,vu,.none] } }
 exact tail_any (ops:=[.ref s3.heap.objs.size,v]) ht hT hg (by with_unfolding_all rfl)
noncomputable def jnY (xs:List V)(lo hi:Option Int):List V:=(xs.drop (HT.sIx xs.length 0 lo)).take (HT.sIx xs.length xs.length hi - HT.sIx xs.length 0 lo)
theorem jdD (xs:List V)(lo hi:Option Int):(jnY xs lo hi).length<=xs.length:=by
 unfold jnY;rw[List.length_take,List.length_drop];exact jvN (Nat.min_le_right _ _) (Nat.sub_le _ _)
noncomputable def juD (K:PySem.W.Frag):V->Option Int->Option Int->Hp->VK->Prop:=fun x lo hi H Q=>∃a xs,x=.ref a/\SqT K H a xs /\
 ¬ (HT.sIx xs.length 0 lo=0/\HT.sIx xs.length xs.length hi=xs.length)/\∀p,H p=none->Q (.ref p) (upd H p (.tup (jnY xs lo hi)))
theorem sl_tup:SlR X (juD X.K):=by
 intro pins s σ H x v vl vu lo hi sl Q I rx hs pl pu h;obtain⟨a,xs,rfl,hx,hw,q⟩:=h;cases rx;obtain⟨its,r,ht,hz⟩:=I.tuple hx;have hlen:its.toArray.size=xs.length:=by rw[ju9];exact r.length.symm
 refine⟨"tuple",_,PyProof.Rows.slot_tuple_getitem.lookup,ht.typeIs,?_⟩;refine HT.jcZ ht hs pl pu (by rw[hlen];exact hw) ?_ (by rw[hlen];exact hz)
 rw[hlen];refine⟨.ref s.heap.objs.size,_,I.laid (t':=s.toks) (o:=.tup (jnY xs lo hi)) (fun b ob q=>jvF _ q) (jvK _) ?_,rfl,q _ (I.hok.fresh (jvK _))⟩;exact⟨jvN (jdD xs lo hi) hz,_,(r.drop (HT.sIx xs.length 0 lo)).take (HT.sIx xs.length xs.length hi - HT.sIx xs.length 0 lo),IsTup.new _ _⟩
noncomputable def juE (K:PySem.W.Frag):R2:=fun x y H Q=>∃a b ns ms,x=.ref a/\y=.ref b/\SqT K H a (ns.map V.int)/\SqT K H b (ms.map V.int)/\Q (.bl (HT.lexLt ns ms)) H
theorem jrk (hu:X.A.units < cLine):OpR X (compareOp .Lt) (juE X.K):=by
 intro pins s σ H x y v u Q I rx ry h;obtain⟨a,b,ns,ms,rfl,rfl,ha,hb,q⟩:=h;cases rx;cases ry;obtain⟨its,r1,p1,_⟩:=I.tuple ha;obtain⟨its2,r2,p2,_⟩:=I.tuple hb;have i1:IntsAre its.toArray.toList ns:=jef r1;have i2:IntsAre its2.toArray.toList ms:=jef r2;exact HT.jii p1 p2 i1 i2 hu ⟨.bl (HT.lexLt ns ms),H,I,rfl,q⟩
noncomputable def jti (K:PySem.W.Frag):R2:=fun x y H Q=>∃a b xs ys,x=.ref a/\y=.ref b/\SqT K H a xs/\SqT K H b ys/\xs≠[]/\xs.length + ys.length<=sizeLine /\
 (ys=[]->Q (.ref a) H)/\(ys≠[]->∀p,H p=none->Q (.ref p) (upd H p (.tup (xs++ys))))
theorem Vals.nil_iff {xs:List V}{us:List Value}(r:Vals xs us):us=[]↔xs=[]:=by
 cases r with
 |nil=>simp
 |cons _ _=>simp
theorem joV:OpR X (binaryOp .Add) (jti X.K):=by
 intro pins s σ H x y v u Q I rx ry h;obtain⟨a,b,xs,ys,rfl,rfl,ha,hb,hx,hz,q1,q2⟩:=h;cases rx;cases ry;obtain⟨its,r1,p1,_⟩:=I.tuple ha;obtain⟨its2,r2,p2,_⟩:=I.tuple hb;refine HT.joR p1 p2 (fun z=>hx (r1.nil_iff.mp z)) (fun z=>⟨.ref a,H,I,rfl,q1 (r2.nil_iff.mp z)⟩) (fun z=>?_) (by rw[<-r1.length,<-r2.length];exact hz)
 refine⟨.ref s.heap.objs.size,_,I.laid (t':=s.toks) (o:=.tup (xs++ys)) (fun b ob q=>jvF _ q) (jvK _) ?_,rfl,q2 (fun w=>z (r2.nil_iff.mpr w)) _ (I.hok.fresh (jvK _))⟩;exact⟨by rw[jvj];exact hz,_,r1.append r2,IsTup.new _ _⟩
end
end L2
namespace L2
open PySem PySem.Spec PyProof.Rows
noncomputable def ixN (n:Nat)(i:Int):Option Nat:=if 0<=i then (if i < n then some i.toNat else none)else if -(n:Int)<=i then some (i + n).toNat else none
noncomputable def atI {α:Type}(xs:List α)(i:Int):Option α:=(ixN xs.length i).bind fun j=>xs[j]?
theorem jjG {n:Nat}{i:Int}{j:Nat}(h:ixN n i=some j):seqIndex? i n=some j/\j < n/\-(n:Int)<=i/\i < n:=by
 unfold ixN at h;by_cases h0:0<=i
 ·rw[if_pos h0]at h;by_cases h1:i < n
  ·rw[if_pos h1]at h;have e:i.toNat=j:=Option.some.inj h;exact⟨by rw[seqIndex_of h0 h1,e],by omega,by omega,h1⟩
  ·rw[if_neg h1]at h;cases h
 ·rw[if_neg h0]at h;by_cases h1:-(n:Int)<=i
  ·rw[if_pos h1]at h;have e:(i + n).toNat=j:=Option.some.inj h;exact⟨by rw[seqIndex_neg (by omega) h1,e],by omega,h1,by omega⟩
  ·rw[if_neg h1]at h;cases h
theorem jgj {α:Type}{xs:List α}{i:Int}{v:α}(h:atI xs i=some v):∃j,seqIndex? i xs.length=some j/\xs[j]?=some v/\j < xs.length/\-(xs.length:Int)<=i/\i < xs.length:=by
 unfold atI at h;cases e:ixN xs.length i with
 |none=>rw[e]at h;cases h
 |some j=>
  rw[e]at h;obtain⟨h1,h2,h3,h4⟩:=jjG e;exact⟨j,h1,h,h2,h3,h4⟩
noncomputable def jjH (b:Expr):Prop:=∀o i,subscripted b false o i=operate [o,i] (getItem o i)
noncomputable def IxR (X:Cx)(r:R2):Prop:=
 ∀(value slice:Expr) (pins:List (Addr×Obj)) (s:Shared) (σ:St) (H:Hp) (x y:V) (v u:Value) (Q:VK),Inv X pins σ H s->RelV x v->RelV y u->r x y H Q ->
  subscripted slice false v u=operate [v,u] (getItem v u)->wpAny (model X.prog X.w) X.A (subscriptTail value slice v u) (EP X pins σ Q) X.xe s
noncomputable def MtR (X:Cx)(id:String)(r:V->List V->Hp->VK->Prop):Prop:=
 ∀(pins:List (Addr×Obj)) (s:Shared) (σ:St) (H:Hp) (x:V) (xs:List V) (v:Value) (us:List Value) (Q:VK),Inv X pins σ H s->RelV x v->Vals xs us->r x xs H Q ->
  wpAny (model X.prog X.w) X.A (call (.builtin id) (v::us)) (EP X pins σ Q) X.xe s
section
variable {X:Cx}{a b:Expr}{ta tb:TE}{pos:Pos}
theorem IxR.or {r r':R2}(h:IxR X r)(h':IxR X r'):IxR X (fun x y H Q=>r x y H Q\/r' x y H Q):=by
 intro value slice pins s σ H x y v u Q I rx ry q hs;rcases q with q | q
 ·exact h value slice pins s σ H x y v u Q I rx ry q hs
 ·exact h' value slice pins s σ H x y v u Q I rx ry q hs
theorem jtj {r:R2}(hr:IxR X r)(ha:PE X a ta)(hb:PE X b tb)(hs:jjH b):PE X (.Subscript a b pos) (tOp r ta tb):=by
 intro pins s σ H Q I h;exact Subscript_ (js7 ha hb I h fun v u s2 x y H2 I2 rx ry q=>hr a b pins s2 σ H2 x y v u Q I2 rx ry q (hs _ _))
noncomputable def juc (K:PySem.W.Frag):R2:=fun x y H Q=>∃p xs i v,x=.ref p/\y=.int i/\SqL K H p xs/\atI xs i=some v/\Q v H
noncomputable def jud (K:PySem.W.Frag):R2:=fun x y H Q=>∃p xs i v,x=.ref p/\y=.int i/\SqT K H p xs/\atI xs i=some v/\Q v H
noncomputable def jue:R2:=fun x y H Q=>∃z i c,x=.str z/\y=.int i/\z.length<=sizeLine/\atI z.cps.toList i=some c/\Q (.str ⟨#[c]⟩) H
theorem ix_list:IxR X (juc X.K):=by
 intro value slice pins s σ H x y v u Q I rx ry h hs;obtain⟨p,xs,i,z,rfl,rfl,hq,he,q⟩:=h;cases rx;obtain⟨t,rfl⟩:=ry;obtain⟨its,r,pl,hz⟩:=I.list hq;obtain⟨j,h1,h2,h3,h4,h5⟩:=jgj he;obtain⟨w,ew,rw'⟩:=r.get h2;have hl:=r.length;have hn:=jck;have fin:EP X pins σ Q w s:=⟨z,H,I,rw',q⟩;by_cases h0:0<=i
 ·have hj:i.toNat=j:=by
   rw[seqIndex_of h0 h5]at h1;exact Option.some.inj h1
  exact item_listR pl.isList h0 (by omega) (by rw[hj];simpa using ew) fin hs
 ·have hj:(i + (its.toArray.size:Int)).toNat=j:=by
   rw[seqIndex_neg (by omega) h4]at h1
   rw[ju9,<-hl];exact Option.some.inj h1
  exact subscriptTail_builtinR (x:=w) pl.isList.typeIs slot_list_getitem.lookup
   (wpAny_getItem_list_neg (Q:=fun r s'=>r=w/\EP X pins σ Q r s') pl.isList (by omega) (by rw[ju9] <;> omega) (by omega) (by rw[hj];simpa using ew) ⟨rfl,fin⟩) hs
theorem ix_tup:IxR X (jud X.K):=by
 intro value slice pins s σ H x y v u Q I rx ry h hs;obtain⟨p,xs,i,z,rfl,rfl,hq,he,q⟩:=h;cases rx;obtain⟨t,rfl⟩:=ry;obtain⟨its,r,pl,hz⟩:=I.tuple hq;obtain⟨j,h1,h2,h3,h4,h5⟩:=jgj he;obtain⟨w,ew,rw'⟩:=r.get h2;have hl:=r.length;have hn:=jck;have fin:EP X pins σ Q w s:=⟨z,H,I,rw',q⟩;exact subscriptTail_builtinR (x:=w) pl.typeIs slot_tuple_getitem.lookup
  (getItem_tuple (j:=j) (Q:=fun r s'=>r=w/\EP X pins σ Q r s') pl (by omega) (by omega) (by rw[ju9,<-hl];exact h1) (by simpa using ew) ⟨rfl,fin⟩) hs
theorem jrl:IxR X jue:=by
 intro value slice pins s σ H x y v u Q I rx ry h hs;obtain⟨z,i,c,rfl,rfl,hz,he,q⟩:=h;obtain⟨t,rfl⟩:=rx;obtain⟨t',rfl⟩:=ry;obtain⟨j,h1,h2,h3,h4,h5⟩:=jgj he;have hl:z.cps.toList.length=z.length:=by simp[Str.length]
 rw[hl]at h1 h4 h5;have hn:=jck;exact tail_any (typeIs_str s z t) slot_str_getitem.lookup (getItem_str (c:=c) (by
  have e1:decide (i < -(2 ^ 63:Int))=false:=decide_eq_false (by omega)
  have e2:decide (i>=2 ^ 63)=false:=decide_eq_false (by omega)
  rw[e1,e2,Bool.or_false]) (by rw[h1];simpa using h2) ⟨.str ⟨#[c]⟩,H,I.tok _,⟨_,rfl⟩,q⟩) hs
noncomputable def rIx (K:PySem.W.Frag):R2:=fun x y H Q=>juc K x y H Q\/jud K x y H Q\/jue x y H Q
theorem jrm:IxR X (rIx X.K):=ix_list.or (ix_tup.or jrl)
theorem jil (its:List Value)(n j:Nat)(u:Value):Obj.mapSeq (·.setIfInBounds j u) { cls:=.type "list",data:=.seq its.toArray n }={ cls:=.type "list",data:=.seq (its.set j u).toArray n }:=by
 simp[Obj.mapSeq]
theorem Inv.lst {pins:List (Addr×Obj)}{σ:St}{H:Hp}{s:Shared}{p:Addr}{xs:List V}(I:Inv X pins σ H s)(h:H p=some (.lst xs)) :
  ∃(its:List Value) (n:Nat),Vals xs its/\s.heap.get? p=some { cls:=.type "list",data:=.seq its.toArray n }/\xs.length<=sizeLine:=by
 obtain⟨z,its,n,r,e⟩:=I.hok p _ h;exact⟨its,n,r,e,z⟩
theorem Inv.lstUpd {pins:List (Addr×Obj)}{σ:St}{H:Hp}{s:Shared}{p:Addr}{xs ys:List V}{its its':List Value}{n n':Nat}{f:Obj->Obj}(I:Inv X pins σ H s)(h:H p=some (.lst xs))
  (ho:s.heap.get? p=some { cls:=.type "list",data:=.seq its.toArray n }) (hf:f { cls:=.type "list",data:=.seq its.toArray n }={ cls:=.type "list",data:=.seq its'.toArray n' }) (r:Vals ys its') (hz:ys.length<=sizeLine) (t:Nat) :
  Inv X pins σ (upd H p (.lst ys)) { s with heap:=s.heap.update p f,toks:=t }:=by
 have e:(s.heap.update p f).get? p=some { cls:=.type "list",data:=.seq its'.toArray n' }:=by
  rw[jvI f ho (by rw[hf] <;> rfl),hf]
 refine I.write (x:=p) (e:=p) (by rw[h];trivial) (.inl rfl) (fun b u hb q=>(jvJ _ _ (Ne.symm hb)).trans q) ⟨_,e⟩ ?_
 exact⟨hz,its',n',r,e⟩
noncomputable def jtk:V->V->V->Hp->(Hp->Prop)->Prop:=fun o i v H Q=>∃p xs k j,o=.ref p/\i=.int k/\H p=some (.lst xs)/\ixN xs.length k=some j/\Q (upd H p (.lst (xs.set j v)))
theorem jl5:jt8 X jtk:=by
 intro pins s σ H o i v ov iv u Q I ro ri rv h;obtain⟨p,xs,k,j,rfl,rfl,hp,hj,q⟩:=h;cases ro;obtain⟨t,rfl⟩:=ri;obtain⟨its,n,r,ho,hz⟩:=I.lst hp;obtain⟨h1,h2,h3,h4⟩:=jjG hj;have hl:=r.length;have hn:=jck;have I':Inv X pins σ (upd H p (.lst (xs.set j v))) { s with heap:=s.heap.update p (Obj.mapSeq (·.setIfInBounds j u)) }:=
  I.lstUpd hp ho (jil its n j u) (r.set rv j) (by rw[jvt];exact hz) s.toks
 by_cases h0:0<=k
 ·have hk:k.toNat=j:=by
   rw[seqIndex_of h0 h4]at h1;exact Option.some.inj h1
  exact PySem.W.ki_setAt ho h0 (by omega) (by rw[ju9,<-hl];exact h4) (by rw[hk];exact⟨_,I',q⟩)
 ·have hk:(k + (its.toArray.size:Int)).toNat=j:=by
   rw[seqIndex_neg (by omega) h3]at h1
   rw[ju9,<-hl];exact Option.some.inj h1
  exact PySem.W.ki_setBack ho (by omega) (by rw[ju9,<-hl];exact h3) (by omega) (by rw[hk];exact⟨_,I',q⟩)
theorem jfo (lo hi:Option Int)(n:Nat):(sliceBounds lo hi none n).1=((HT.sIx n 0 lo:Nat):Int)/\(sliceBounds lo hi none n).2.1=((HT.sIx n n hi:Nat):Int)/\(sliceBounds lo hi none n).2.2=1:=by
 refine⟨?_,?_,rfl⟩
 ·cases lo with
  |none=>simp[sliceBounds,HT.sIx]
  |some i=>
   simp only[sliceBounds,HT.sIx,Option.getD_none,show (1:Int) > 0 by decide,if_true]
   by_cases h:i < 0
   ·simp only[h,if_true] <;> omega
   ·simp only[h,if_false] <;> omega
 ·cases hi with
  |none=>simp[sliceBounds,HT.sIx]
  |some i=>
   simp only[sliceBounds,HT.sIx,Option.getD_none,show (1:Int) > 0 by decide,if_true]
   by_cases h:i < 0
   ·simp only[h,if_true] <;> omega
   ·simp only[h,if_false] <;> omega
theorem jeu (its:List Value)(lo hi:Option Int):slicePick its.toArray lo hi none=((its.drop (HT.sIx its.length 0 lo)).take (HT.sIx its.length its.length hi - HT.sIx its.length 0 lo)).toArray:=by
 obtain⟨h1,h2,h3⟩:=jfo lo hi its.toArray.size;unfold slicePick;rw[h1,h2,h3];simp only[sliceRange_one,pick_run,ju9] <;> rfl
noncomputable def juF (K:PySem.W.Frag):V->Option Int->Option Int->Hp->VK->Prop:=fun x lo hi H Q=>∃a xs,x=.ref a/\SqL K H a xs/\∀p,H p=none->Q (.ref p) (upd H p (.lst (jnY xs lo hi)))
theorem joW:SlR X (juF X.K):=by
 intro pins s σ H x v vl vu lo hi sl Q I rx hs pl pu h;obtain⟨a,xs,rfl,hx,q⟩:=h;cases rx;obtain⟨its,r,ht,hz⟩:=I.list hx;have hlen:=r.length;refine⟨"list",_,slot_list_getitem.lookup,ht.isList.typeIs,?_⟩;refine wpAny_getItem_list_slice ht.isList hs pl pu .none (by simp) ?_ (by rw[ju9] <;> omega)
 rw[jeu,<-hlen];refine⟨.ref s.heap.objs.size,_,I.laid (t':=s.toks) (o:=.lst (jnY xs lo hi)) (fun b ob q=>jvF _ q) (jvK _) ?_,rfl,q _ (I.hok.fresh (jvK _))⟩;exact⟨jvN (jdD xs lo hi) hz,_,0,(r.drop (HT.sIx xs.length 0 lo)).take (HT.sIx xs.length xs.length hi - HT.sIx xs.length 0 lo),jvH _ rfl⟩
theorem call_len_seq:CallR X (.builtin "len") (fun xs H Q=>∃p ys,xs=[.ref p]/\(SqL X.K H p ys\/SqT X.K H p ys)/\Q (.int ys.length) H):=by
 intro pins s σ H xs us Q I r h;obtain⟨p,ys,rfl,hq,q⟩:=h;obtain⟨u,rfl,rx⟩:=jbV r;cases rx;have hn:=jck;rcases hq with hq | hq
 ·obtain⟨its,r',pl,hz⟩:=I.list hq;have hlen:=r'.length;exact Calls.call_len_list pl.isList (by simp only[ju9] <;> omega) ⟨.int ys.length,H,I.tok _,⟨s.toks + 1,by rw[ju9,hlen]⟩,q⟩
 ·obtain⟨its,r',pl,hz⟩:=I.tuple hq;have hlen:=r'.length;exact len_tuple pl (by simp only[ju9] <;> omega) ⟨.int ys.length,H,I.tok _,⟨s.toks + 1,by rw[ju9,hlen]⟩,q⟩
theorem jfp:CallR X (.builtin "len") (fun xs H Q=>∃z,xs=[.str z]/\z.length<=sizeLine/\Q (.int z.length) H):=by
 intro pins s σ H xs us Q I r h;obtain⟨z,rfl,hz,q⟩:=h;obtain⟨u,rfl,t,rfl⟩:=jbV r;have hn:=jck;exact len_str (by omega) ⟨.int z.length,H,I.tok _,⟨_,rfl⟩,q⟩
theorem CallR.or {f:Value}{r r':List V->Hp->VK->Prop}(h:CallR X f r)(h':CallR X f r'):CallR X f (fun xs H Q=>r xs H Q\/r' xs H Q):=by
 intro pins s σ H xs us Q I rs q;rcases q with q | q
 ·exact h pins s σ H xs us Q I rs q
 ·exact h' pins s σ H xs us Q I rs q
theorem jev:CallR X (.type "tuple") (fun xs H Q=>∃p ys,xs=[.ref p]/\((SqL X.K H p ys/\∀l,H l=none->Q (.ref l) (upd H l (.tup ys)))\/(SqT X.K H p ys/\Q (.ref p) H))):=by
 intro pins s σ H xs us Q I r h;obtain⟨p,ys,rfl,h⟩:=h;obtain⟨u,rfl,rx⟩:=jbV r;cases rx;rcases h with ⟨hq,q⟩ | ⟨hq,q⟩
 ·obtain⟨its,r',pl,hz⟩:=I.list hq;have hlen:=r'.length;refine call_tuple_list pl.isList (fun h' kp=>?_) (by simp only[ju9] <;> omega)
  have I1:Inv X pins σ H { s with heap:=h' }:=I.kept (t':=s.toks) kp
  have I2:Inv X pins σ (upd H h'.objs.size (.tup ys)) { s with heap:=h'.push { cls:=.type "tuple",data:=.seq its.toArray } }:=
   I1.laid (t':=s.toks) (fun b o e=>jvF _ e) (jvK _) (show ObjOk X.prog X.w _ _ _ (.tup ys)from⟨hz,its,r',IsTup.new _ _⟩)
  exact⟨.ref h'.objs.size,_,I2,rfl,q _ (I1.hok.fresh (jvK _))⟩
 ·obtain⟨its,r',pl,hz⟩:=I.tuple hq;exact call_tuple_same pl ⟨.ref p,H,I,rfl,q⟩
noncomputable def tyV (K:PySem.W.Frag)(T:String)(x:V)(H:Hp):Prop:=match x with
 |.str _=>T="str"
 |.int _=>T="int"
 |.ref p=>(T="list"/\∃xs,SqL K H p xs)\/(T="tuple"/\∃o,K.lookup p=some o/\o.cls=.type "tuple"/\o.dict=none) \/
   (T="dict"/\((∃kvs,H p=some (.dK kvs))\/∃kvs,H p=some (.dT kvs)))\/(T="set"/\∃S n,H p=some (.set S n))
 |_=>False
theorem jrn {pins:List (Addr×Obj)}{σ:St}{H:Hp}{s:Shared}{T:String}{x:V}{v:Value}(I:Inv X pins σ H s)(r:RelV x v)(ty:tyV X.K T x H) :
  s.TypeIs v T/\∀a,v=.ref a->∃ob,s.heap.get? a=some ob/\ob.dict=none:=by
 cases x with
 |str z=>
  obtain⟨t,rfl⟩:=r;cases (show T="str" from ty);exact⟨typeIs_str s z t,fun _ e=>nomatch e⟩
 |int i=>
  obtain⟨t,rfl⟩:=r;cases (show T="int" from ty);exact⟨typeIs_int s i t,fun _ e=>nomatch e⟩
 |ref p=>
  cases r;rcases ty with ⟨rfl,xs,hq⟩ | ⟨rfl,o,hk,hc,hd⟩ | ⟨rfl,hk⟩ | ⟨rfl,S,n,hk⟩
  ·obtain⟨its,_,pl,_⟩:=I.list hq;refine⟨pl.isList.typeIs,fun a e=>?_⟩;cases e;obtain⟨o,n,e,c,hd,_⟩:=pl;exact⟨o,e,hd⟩
  ·refine⟨⟨o,I.kIn p o hk,hc⟩,fun a e=>?_⟩;cases e;exact⟨o,I.kIn _ o hk,hd⟩
  ·have z:∃o,s.heap.get? p=some o/\o.ExactDict:=by
    rcases hk with ⟨kvs,hk⟩ | ⟨kvs,hk⟩
    ·obtain⟨_,_,_,_,o,_,_,e,ex,_⟩:=I.hok p _ hk;exact⟨o,e,ex⟩
    ·obtain⟨_,_,_,_,o,_,_,e,ex,_⟩:=I.hok p _ hk;exact⟨o,e,ex⟩
   obtain⟨o,e,ex⟩:=z;refine⟨⟨o,e,ex.1⟩,fun a e2=>?_⟩;cases e2;exact⟨o,e,ex.2.1⟩
  ·obtain⟨o,_,_,_,e,ex,_⟩:=I.hok p _ hk;refine⟨⟨o,e,ex.1⟩,fun a e2=>?_⟩;cases e2;exact⟨o,e,ex.2.1⟩
 |_=>exact False.elim ty
noncomputable def tBM (K:PySem.W.Frag)(T:String)(r:V->List V->Hp->VK->Prop)(to:TE)(t:TA):TE:=fun σ H Q=>to σ H fun x H1=>tyV K T x H1/\t σ H1 fun xs H2=>r x xs H2 Q
variable {o e:Expr}{es:List Expr}{to:TE}{t:TA}{name:Str}{apos cpos:Pos}{T id:String}{r:V->List V->Hp->VK->Prop}
theorem jro (pa:PlainAttrs T)(slot:Slot T name id)(hty:typeOf (.builtin id)=pure (.type "method_descriptor"))(hm:MtR X id r)(ho:PE X o to)(ha:PA X (e::es) t)
  (hbase:attributeBase o name X.env (eval o X.env)=eval o X.env:=by rfl)
  (hfew:((backTo cpos (starEach (e::es) X.env)).all (fun x=>!x.1) && (backToKw cpos (keywordEach [] X.env)).all (fun x=>x.1.isSome)
   && decide ((e::es).length + ([]:List Keyword).length + (if ([]:List Keyword).isEmpty then 0 else 1) < 30))=true:=by rfl)
  (hline:(apos.endLine == cpos.line)=true:=by rfl) (hs:starEach (e::es) X.env=(false,eval e X.env)::starEach es X.env:=by rfl) (hplain:(backTo cpos (starEach es X.env)).any (·.1)=false:=by rfl) :
  PE X (.Call (.Attribute o name apos) (e::es) [] cpos) (tBM X.K T r to t):=by
 intro pins s σ H Q I h;refine wpAny_Call_method_late hbase hfew hline rfl (thn (ho pins s σ H _ I h) fun v s1 hzz=>?_);obtain⟨x,H1,I1,r1,ty,q1⟩:=hzz;obtain⟨h1,h2⟩:=jrn I1 r1 ty;refine⟨T,id,pa,slot,hty,h1,h2,?_⟩;have hA:=ha cpos pins s1 σ H1 _ I1 q1;rw[hs]at hA ⊢;refine Calls.callWith_builtin (by show (false || (backTo cpos (starEach es X.env)).any (·.1))=false;rw[hplain] <;> rfl) (Calls.evalArgs_plain ?_)
 exact thn hA fun us s2 ⟨vs,H2,I2,r2,q2⟩=>hm pins s2 σ H2 x vs v us Q I2 r1 r2 q2
end
end L2
namespace L2
open PySem PySem.Spec PyProof.Rows
noncomputable def MtM (X:Cx)(id:String)(r:V->List V->Hp->VK->Prop):Prop:=
 ∀(pins:List (Addr×Obj)) (s:Shared) (σ:St) (H:Hp) (x:V) (xs:List V) (v:Value) (us:List Value) (Q:VK),Inv X pins σ H s->RelV x v->Vals xs us->r x xs H Q ->
  wpAny (model X.prog X.w) X.A (call (.builtin id) (v::us)) (EP X pins σ Q) X.xe s
theorem Vals.one {x:V}{us:List Value}(h:Vals [x] us):∃u,us=[u]/\RelV x u:=by
 cases h with
 |cons r h=>cases h;exact⟨_,rfl,r⟩
theorem Vals.zero:∀{us:List Value},Vals [] us->us=[]
 |_,.nil=>rfl
theorem Vals.dropLast {xs:List V}{us:List Value}(h:Vals xs us):Vals xs.dropLast us.dropLast:=by
 induction h with
 |nil=>exact .nil
 |cons r t ih=>
  cases t with
  |nil=>exact .nil
  |cons q t'=>exact .cons r ih
theorem Vals.reverse {xs:List V}{us:List Value}(h:Vals xs us):Vals xs.reverse us.reverse:=by
 induction h with
 |nil=>exact .nil
 |cons r t ih=>rw[List.reverse_cons,List.reverse_cons];exact Vals.append ih (.cons r .nil)
theorem Vals.rep {xs:List V}{us:List Value}(h:Vals xs us):∀k:Nat,Vals (List.replicate k xs).flatten (List.replicate k us).flatten
 |0=>.nil
 |k + 1=>by
  rw[List.replicate_succ,List.replicate_succ,List.flatten_cons,List.flatten_cons];exact Vals.append h (Vals.rep h k)
theorem jfq (its:List Value):∀(k:Nat) (acc:List Value),
  List.foldl (fun x1 x2=>x1++x2) acc.toArray (List.replicate k its.toArray)=(acc++(List.replicate k its).flatten).toArray
 |0,acc=>by simp
 |k + 1,acc=>by
  have e:acc.toArray++its.toArray=(acc++its).toArray:=by simp
  have e2:(acc++its)++(List.replicate k its).flatten=acc++(List.replicate (k + 1) its).flatten:=by
   rw[List.replicate_succ,List.flatten_cons,jvv]
  rw[<-e2,<-jfq its k (acc++its),<-e,List.replicate_succ,List.foldl_cons]
section
variable {X:Cx}{pins:List (Addr×Obj)}{σ:St}{H:Hp}{s:Shared}{l b:Addr}{xs ys zs:List V}
theorem Inv.lset {its its':List Value}{n:Nat}{f:Array Value->Array Value}{t':Nat}(I:Inv X pins σ H s)(hH:H l=some (.lst xs))
  (e:s.heap.get? l=some { cls:=.type "list",data:=.seq its.toArray n }) (hf:f its.toArray=its'.toArray) (hv:Vals ys its') (hz:ys.length<=sizeLine) :
  Inv X pins σ (upd H l (.lst ys)) { s with heap:=s.heap.update l (Obj.mapSeq f),toks:=t' }:=by
 have q:=PySem.IsL.update e f;rw[hf]at q;refine I.write (x:=l) (e:=l) (by rw[hH];exact trivial) (.inl rfl) (fun b' u hb hu=>(jvJ s.heap (Obj.mapSeq f) (Ne.symm hb)).trans hu) ⟨_,q⟩ ?_
 exact⟨hz,its',_,hv,q⟩
theorem Inv.lnew {its:List Value}{t':Nat}(I:Inv X pins σ H s)(hv:Vals ys its)(hz:ys.length<=sizeLine) :
  Inv X pins σ (upd H s.heap.objs.size (.lst ys)) { s with heap:=s.heap.push { cls:=.type "list",data:=.seq its.toArray },toks:=t' }:=
 I.laid (fun _ _ q=>jvF _ q) (jvK _) ⟨hz,its,0,hv,jvH _ rfl⟩
theorem Inv.fresh (I:Inv X pins σ H s):H s.heap.objs.size=none:=I.hok.fresh (jvK _)
theorem Inv.lstM (I:Inv X pins σ H s)(hH:H l=some (.lst xs)):xs.length<=sizeLine/\∃(its:List Value) (n:Nat),Vals xs its/\xs.length=its.length/\s.heap.get? l=some { cls:=.type "list",data:=.seq its.toArray n }:=by
 obtain⟨z,its,n,r,e⟩:=I.hok l _ hH;exact⟨z,its,n,r,r.length,e⟩
theorem jl6 {n:Nat}(h:n<=sizeLine):Builtin.List.listTooLong n=false:=by
 unfold Builtin.List.listTooLong;exact decide_eq_false (by omega)
end
section
variable {X:Cx}
noncomputable def joX:V->List V->Hp->VK->Prop:=fun x vs H Q=>∃l xs y,x=.ref l/\vs=[y]/\H l=some (.lst xs)/\xs.length < sizeLine/\Q .non (upd H l (.lst (xs++[y])))
theorem jfr:MtM X "list.append" joX:=by
 intro pins s σ H x vs v us Q I rx rv h;obtain⟨l,xs,y,rfl,rfl,hH,hz,q⟩:=h;cases rx;obtain⟨u,rfl,ru⟩:=rv.one;obtain⟨z,its,n,r,hl,e⟩:=I.lstM hH;refine call_meets F.slot_list_append ⟨_,e,rfl⟩ F.entry_list_append (F.args_list_append_2 _ _) (PySem.list_append l its.toArray n u (by rw[ju9];omega)) ⟨e,?_⟩
 refine⟨.non,_,I.lset (its':=its++[u]) hH e (by simp) (r.append (.cons ru .nil)) ?_,rfl,q⟩
 rw[jvj,List.length_singleton];omega
theorem jjI {α:Type}(xs:List α)(k:Nat):(List.replicate k xs).flatten.length=k * xs.length:=by
 induction k with
 |zero=>simp
 |succ k ih=>rw[List.replicate_succ,List.flatten_cons,jvj,ih,Nat.succ_mul,Nat.add_comm]
end
section
variable {prog:Program}{w:World}{A:Around}{E:Value->Shared->Prop}{s:Shared}
set_option maxRecDepth 100000 in
end
section
variable {X:Cx}
end
end L2
namespace Att
open PySem PySem.W PySem.Calls PyProof.Rows
theorem jdE {P:Params}{h:Heap}:∀(ns:List Int) (vs:List Value),WellAll P h vs (ns.map WData.int)->IntsAre vs ns:=by
 intro ns;induction ns with
 |nil=>
  intro vs w;rw[List.map_nil]at w;cases w;exact .nil
 |cons n ns ih=>
  intro vs w;rw[jvc]at w;cases w with
  |cons a b=>
   cases a;exact .cons _ _ (ih _ b)
theorem jjJ {l:OpenLaw}{n:Nat}(hn:l.most=some n){P:Params}{h:Heap}{args:List WData}{vals:List Value}
  (hpre:l.row.toRowW.claim.pre args=true) (hwl:WellAll P h vals args) :
  ∃a vs ns,vals=[Value.ref a]/\args=[WData.list (ns.map WData.int)]/\h.get? a=some { cls:=.type "list",data:=.seq vs.toArray }/\IntsAre vs ns/\ns.length<=n:=by
 have hsh:WShape.hasAll [] args [.list .int]=true:=(pre_splitW hpre).1;have hc:l.pre.holds [] { args:=args }=true:=(pre_splitW hpre).2;obtain⟨d,r,rfl,h1,h2⟩:=hasAllW_cons hsh;obtain rfl:=hasAllW_nil h2;obtain⟨xs,rfl,h3⟩:=hasW_list h1;obtain⟨ns,rfl⟩:=items_int h3;have hlen:ns.length<=n:=by
  unfold OpenLaw.pre at hc;have h4:(WTm.not (.lt (.lit (.int (n:Int))) (.len (.arg 0)))).holds [] { args:=[.list (ns.map .int)] }=true:=by
   have h4:=(holds_andW hc).1;rw[hn]at h4;exact h4
  have h5:=condW_of h4 (w_not (w_lt w_lit (w_len_list (w_arg rfl))));rw[jve]at h5;refine Nat.le_of_not_lt fun q=>?_;have q':(n:Int) < ((ns.length:Nat):Int):=by omega
  first
   |(rw[decide_eq_true q']at h5;exact absurd h5 (by decide))
   |(simp at h5;omega)
 cases hwl with
 |cons w1 w2=>
  cases w2;cases w1 with
  |list ho hall=>exact⟨_,_,ns,rfl,rfl,ho,jdE ns _ hall,hlen⟩
theorem jjK (l:OpenLaw)(args:List WData):l.row.toRowW.claim.post args (.bool true) args=true:=
 postW_of (r:=l.row.toRowW) (X:=(true == true))
  (show WShape.has [] (.bool true) .bool=true by first | rfl | decide | simp[WShape.has,WShape.arms,WShape.armsAll])
  (show (WTm.eq .res (.lit (.bool true))).value [] { args:=args,res:=some (.bool true),after:=args }=some (.bool (true == true))from w_eq_bool (w_res rfl) w_lit) rfl
theorem jgk {l:OpenLaw}{n:Nat}{q:Program}{loose:List Str}{XP:(Str->Option Value)->Heap->Prop}{YP:World->Heap->Prop}{d:DefRec}
  (hn:l.most=some n) (hdf:d.params.defaults=[])
  (call:∀(w:World) (s₀ s₁:Shared) (mg mb:Str->Option Value) (fa:Addr) (o:Obj) (pm cd doc:Value) (a:Addr) (vs:List Value) (ns:List Int),
   Ground q loose [] XP w s₀ mg mb s₁.heap->YP w s₁.heap ->
   s₁.heap.get? fa=some o->o.data=.func (docDef d.name d.params d.body d.scope pm cd doc)->s₁.heap.CodeRec cd d.name->mg d.name=some (.ref fa) ->
   s₁.heap.get? a=some { cls:=.type "list",data:=.seq vs.toArray }->IntsAre vs ns->ns.length<=n->s₁.gens=#[] ->
   codeAny (model l.prog w) callerA (.call (.ref fa) ⟨[.ref a],[]⟩) (fun r s'=>r=.ok (.ret (.bool true))/\OldK s₁.heap s'.heap/\s'.os=s₁.os/\AllBare s'.gens) s₁) :
  WalkO q loose XP YP l.row.toRowW d [] (fun f vs=>PySem.call f vs):=by
 intro w s₀ s₁ mg mb G Y fa o pm cd doc dV kV ho hd hcd hD hmg hg args vals as hpre hlay hrd hwl hlo;obtain rfl:dV=.none:=Dflts.none hD hdf;obtain rfl:kV=.none:=Dflts.noKw hD;obtain⟨a,vs,ns,rfl,rfl,hobj,hints,hlen⟩:=jjJ hn hpre hwl;refine enter_call (codeAny_mono (call w s₀ s₁ mg mb fa o pm cd doc a vs ns G Y ho (fd_plain hd) hcd hmg hobj hints hlen hg) fun r s' hq=>?_);obtain⟨rfl,h2,h3,h4⟩:=hq;exact⟨.inl ⟨.bool true,.bool true,[],rfl,fun _=>rfl,.bool true,jjK l _,fun _=>⟨List.Pairwise.nil,fun _ hm=>(nomatch hm)⟩⟩,h2,h3,h4⟩
section
variable {prog:Program}{w:World}{A:Around}{E:Value->Shared->Prop}{s:Shared}{K:Frag}
end
end Att
namespace L2
open PySem PySem.Spec PyProof.Rows
theorem jjL {vs:List Value}{ns:List Int}(h:IntsAre vs ns):Vals (ns.map V.int) vs:=by
 induction h with
 |nil=>exact .nil
 |cons n t h ih=>exact .cons ⟨t,rfl⟩ ih
noncomputable def jtl (H:Hp):Prop:=∀b,H b=none\/∃o xs,H b=some (.frz o (.lst xs))
theorem jl7 {P:Program}{w:World}{K:PySem.W.Frag}{mg mb:Str->Option Value}{CX:CXT}{k:Nat}{fa a:Addr}{fd:FuncData}{x:Str}{sp:Sp}{s₁:Shared}{vs:List Value}{ns:List Int}
  (KX:K.In s₁.heap) (hns:s₁.heap.Ns mainGlobals mg) (hb:s₁.heap.Ns builtinsNs mb) (hbb:∀x:Str,x≠"__name__"->mb x=bootBuiltins x) (hlim:s₁.heap.NoLimit) (hg:s₁.gens=#[])
  (ha:s₁.heap.get? a=some { cls:=.type "list",data:=.seq vs.toArray }) (hi:IntsAre vs ns) (hl:ns.length<=sizeLine) (hr:Room k callerA)
  (F:∀base:Heap,K.In base->base.Ns mainGlobals mg->FnOk P w K mg base CX k fa fd [x] sp) (hbind:∀(s:Shared) (u:Value),BindsTo s fd ⟨[u],[]⟩ [(x,u)])
  (hsp:∀H:Hp,jtl H->SqL K H a (ns.map V.int)->sp [.ref a] H (fun v _=>v=.bl true) fun _ _ _=>False)
  (hCX:∀H e s',CX [] H s₁ (fun _ _ _=>False) e s'->False) :
  codeAny (model P w) callerA (.call (.ref fa) ⟨[.ref a],[]⟩) (fun r s'=>r=.ok (.ret (.bool true))/\OldK s₁.heap s'.heap/\s'.os=s₁.os/\AllBare s'.gens) s₁:=by
 have rv:=jjL hi;have lenV:=hi.length;have core:∀H:Hp,jtl H->SqL K H a (ns.map V.int)->HOk P w H s₁.heap->(∀b,H b≠none->b=a)->(H a≠none->K.lookup a=none) ->
   codeAny (model P w) callerA (.call (.ref fa) ⟨[.ref a],[]⟩) (fun r s'=>r=.ok (.ret (.bool true))/\OldK s₁.heap s'.heap/\s'.os=s₁.os/\AllBare s'.gens) s₁:=by
  intro H hO hS hok hA hK;have base_of:∀{b:Addr}{o:Obj},s₁.heap.get? b=some o->H b=none->(jlT s₁.heap H).get? b=some o:=fun e n=>jlU e n;have noA:∀{b:Addr}{o:Obj}{es:Array DictEntry}{ep:Nat},s₁.heap.get? b=some o->o.data=.dict es ep->H b=none:=fun {b o es ep} e d=>by
   cases q:H b with
   |none=>rfl
   |some u=>
    have e':b=a:=hA b (by rw[q];simp)
    subst e';rw[ha]at e;cases e;have d':Data.seq vs.toArray _=Data.dict es ep:=d;cases d'
  have nsK:∀{b:Addr}{m:Str->Option Value},s₁.heap.Ns b m->(jlT s₁.heap H).Ns b m:=fun {b m} ⟨o,es,ep,e,d,r⟩=>⟨o,es,ep,base_of e (noA e d),d,r⟩;have hKb:K.In (jlT s₁.heap H):=fun b o e=>base_of (KX b o e) (by
   cases q:H b with
   |none=>rfl
   |some u=>
    have e':b=a:=hA b (by rw[q];simp)
    subst e';rw[hK (by rw[q];simp)]at e;cases e)
  have hM:Mod K mg (jlT s₁.heap H):=⟨hKb,nsK hns,⟨mb,nsK hb,hbb⟩,let ⟨mc,h1,h2⟩:=hlim;⟨mc,nsK h1,h2⟩⟩;have e0:Env0 P w K mg (jlT s₁.heap H) callerA [] s₁ H:=⟨rfl,hM,fun b o e=>joG e,Nat.le_of_eq (jjt _ _),trivial,fun b hb=>absurd (show b∈([]:List Addr)from hb) (by simp),hok,.of_eq hg⟩
  refine codeAny_mono ((F _ hKb (nsK hns)).run callerA [] s₁ H ⟨[.ref a],[]⟩ [.ref a] [.ref a] _ _ hr e0 (hbind s₁ (.ref a)) (.cons rfl .nil) (hsp H hO hS)) fun r s' h=>?_;cases r with
  |error e=>exact(hCX H e s' h).elim
  |ok fl=>
   cases fl with
   |next=>exact False.elim h
   |brk=>exact False.elim h
   |cont=>exact False.elim h
   |ret u=>
    obtain⟨v,H',os,bare,un,hok',r',q⟩:=h;have q':v=.bl true:=q;subst q';obtain rfl:u=Value.bool true:=r';refine⟨rfl,OldK.of_keep fun b o e=>?_,os,bare⟩;cases q:H b with
    |none=>exact un.keep b o e q (by intro z;exact absurd (show b∈([]:List Addr)from z) (by simp)) (by simp)
    |some u=>
     rcases hO b with z | ⟨ob,xs,z⟩
     ·rw[q]at z;cases z
     ·have z2:=un.frzs b ob _ z;obtain⟨e1,_⟩:=hok b _ z;obtain⟨e2,_⟩:=hok' b _ z2;rw[e]at e1;cases e1;exact e2
 cases hk:K.lookup a with
 |some o=>
  have e:=KX a o hk;rw[ha]at e;cases e;refine core (fun _=>none) (fun _=>.inl rfl) (.inr ⟨_,vs.toArray,_,hk,rfl,rfl,rfl,by rw[ju9,lenV];exact hl,by simpa using rv⟩) (fun b u z=>by have z':(none:Option HO)=some u:=z;cases z') (fun b z=>absurd rfl z) fun z=>absurd rfl z
 |none=>
  refine core (fun b=>if b=a then some (.frz { cls:=.type "list",data:=.seq vs.toArray } (.lst (ns.map V.int)))else none) (fun b=>?_) (.inl (.inr ⟨{ cls:=.type "list",data:=.seq vs.toArray },if_pos rfl⟩)) (fun b u z=>?_) (fun b z=>?_) fun _=>hk
  ·by_cases hb:b=a
   ·exact .inr ⟨_,_,if_pos hb⟩
   ·exact .inl (if_neg hb)
  ·by_cases hb:b=a
   ·have z':=(if_pos hb).symm.trans z;cases z';subst hb;exact⟨ha,by rw[jve];exact hl,vs,_,rv,ha⟩
   ·have z':=(if_neg hb).symm.trans z;cases z'
  ·by_cases hb:b=a
   ·exact hb
   ·exact absurd (if_neg hb) z
end L2
namespace L2
open PySem PySem.Spec PyProof.Rows
theorem joY {l:PySem.W.OpenLaw}{n k:Nat}{q:Program}{loose:List Str}{XP:(Str->Option Value)->Heap->Prop}{YP:World->Heap->Prop}{d:DefRec}{K:Params->PySem.W.Frag}{CX:World->CXT}{sp:World->Sp}{x:Str}
  (hn:l.most=some n) (hn2:n<=sizeLine) (hdf:d.params.defaults=[]) (hr:Room k callerA)
  (hY:∀(w:World) (h:Heap),YP w h->(K w.params).In h)
  (F:∀(w:World) (mg:Str->Option Value) (fa:Addr) (h:Heap),(K w.params).In h->h.Ns mainGlobals mg->mg d.name=some (.ref fa) ->
   ∃fd:FuncData,(∀(s:Shared) (u:Value),BindsTo s fd ⟨[u],[]⟩ [(x,u)]) /\
    ∀base:Heap,(K w.params).In base->base.Ns mainGlobals mg->FnOk l.prog w (K w.params) mg base (CX w) k fa fd [x] (sp w))
  (hsp:∀(w:World) (H:Hp) (a:Addr) (ns:List Int),ns.length<=n->jtl H->SqL (K w.params) H a (ns.map V.int)->sp w [.ref a] H (fun v _=>v=.bl true) fun _ _ _=>False)
  (hCX:∀(w:World) (H:Hp) (s:Shared) (e:Value) (s':Shared),CX w [] H s (fun _ _ _=>False) e s'->False) :
  PySem.W.WalkO q loose XP YP l.row.toRowW d [] (fun f vs=>PySem.call f vs):=by
 refine Att.jgk hn hdf fun w s₀ s₁ mg mb fa o pm cd doc a vs ns G Y ho hd hcd hmg hobj hints hlen hg=>?_;have KX:=hY w _ Y;obtain⟨fd,hb,hF⟩:=F w mg fa _ KX G.T.g hmg;exact jl7 KX G.T.g G.T.b G.T.builtins G.T.nolimit hg hobj hints (jvN hlen hn2) hr hF hb (fun H hO hS=>hsp w H a ns hlen hO hS) fun H e s'=>hCX w H s₁ e s'
end L2
namespace L2
open PySem PySem.Spec PyProof.Rows
noncomputable def defArgs (s:Stmt):Arguments:=match s with
 |.FunctionDef _ a _ _ _ _ _ _ _ _=>a
 |_=>{ posonlyargs:=[],args:=[],vararg:=none,kwonlyargs:=[],kw_defaults:=[],kwarg:=none,defaults:=[] }
noncomputable def defBody (s:Stmt):List Stmt:=match s with
 |.FunctionDef _ _ b _ _ _ _ _ _ _=>b
 |_=>[]
noncomputable def defScope (s:Stmt):Scope:=match s with
 |.FunctionDef _ _ _ _ _ _ sc _ _ _=>sc
 |_=>{ kind:=.function,names:=[],isGenerator:=false,isCoroutine:=false }
structure Fun (K:PySem.W.Frag)(x qual:Str)(st:Stmt)(f:Addr)(fd:FuncData):Prop where
 ex:∃(oc:Value) (od:Option Addr) (kV doc pm:Value) (an:Option Addr) (cdv ct:Value) (osl:Array (Option Value)),
  fd=PySem.W.fnOf x qual (defArgs st) (defBody st) (defScope st) .none kV doc pm an cdv ct/\K.lookup f=some ⟨oc,od,.func fd,osl⟩/\PySem.W.codeIn K cdv qual=true
 kp:PySem.W.keepIn K (.ref f)=true
section
variable {P:Program}{w:World}{K:PySem.W.Frag}{mg:Str->Option Value}{base:Heap}
theorem Fun.binds {x qual:Str}{st:Stmt}{f:Addr}{fd:FuncData}{ps:List Str}(F:Fun K x qual st f fd)
  (h:∀(kV doc pm:Value) (an:Option Addr) (cdv ct:Value) (us:List Value),us.length=ps.length->bindArgs (PySem.W.fnOf x qual (defArgs st) (defBody st) (defScope st) .none kV doc pm an cdv ct) ⟨us,[]⟩=pure (ps.zip us)):Binds K fd ps []:=by
 obtain⟨oc,od,kV,doc,pm,an,cdv,ct,osl,rfl,lk,hcd⟩:=F.ex;exact .all (h kV doc pm an cdv ct)
theorem jrp {x qual:Str}{st:Stmt}{f:Addr}{oc:Value}{od an:Option Addr}{osl:Array (Option Value)}{kV doc pm cdv ct:Value}(l:K.lookup f=some ⟨oc,od,.func (PySem.W.fnOf x qual (defArgs st) (defBody st) (defScope st) .none kV doc pm an cdv ct),osl⟩)
  (c:PySem.W.codeIn K cdv qual=true) (k:PySem.W.keepIn K (.ref f)=true):Fun K x qual st f (PySem.W.fnOf x qual (defArgs st) (defBody st) (defScope st) .none kV doc pm an cdv ct):=⟨⟨oc,od,kV,doc,pm,an,cdv,ct,osl,rfl,l,c⟩,k⟩
end
section
variable {X:Cx}
end
noncomputable def Same (H H':Hp):Prop:=∀b o,H b=some o->H' b=some o
theorem Same.refl (H:Hp):Same H H:=fun _ _ h=>h
theorem Same.trans {H H1 H2:Hp}(a:Same H H1)(b:Same H1 H2):Same H H2:=fun c o h=>b c o (a c o h)
theorem Same.free {H H':Hp}(e:Same H H'){l:Addr}(h:H' l=Option.none):H l=Option.none:=by
 cases q:H l with
 |none=>rfl
 |some o=>
  rw[e l o q]at h;cases h
end L2
namespace TM
open PySem
theorem noFill_tuple_mul:fillsNumberSlot (.type "tuple") "mul"=pure false:=
 fillsNumberSlot_seq (id:="tuple.__mul__") (r:=some (.builtin "tuple.__rmul__")) PySem.F.slot_tuple_mul.lookup (by decide +kernel) PySem.F.slot_tuple_rmul.lookup (by decide +kernel)
theorem repeat_tuple:seqRepeat? (.type "tuple")=pure (some (.builtin "tuple.__mul__")):=by
 unfold seqRepeat?;rw[seqSlot_of (T:="tuple") (name:="__mul__") (id:="tuple.__mul__") PySem.F.slot_tuple_mul.lookup (by decide +kernel),seqSlot_of (T:="tuple") (name:="__rmul__") (id:="tuple.__rmul__") PySem.F.slot_tuple_rmul.lookup (by decide +kernel)]
 rfl
theorem int_rmul_tuple (a:Int)(t:Tok)(l:Addr)(items:Array Value)(n:Nat)(dd:Option Addr)(sl:Array (Option Value)) :
  Meets (Builtin.«int.__rmul__» ⟨[.int a t,.ref l],[]⟩) (fun _ R s=>s.heap.get? l=some { cls:=.type "tuple",dict:=dd,data:=.seq items n,slots:=sl }/\R (.ok (.ret Value.notImplemented)) s):=
 .of_wp fun prog w A R s h=>by obtain⟨hp,g,d,tk,os⟩:=s;obtain⟨hl,h⟩:=h;wp_walk;exact⟨_,rfl,h⟩
theorem tuple_mul_same (l:Addr)(items:Array Value)(n:Nat)(x:Int)(u:Tok)(dd:Option Addr)(sl:Array (Option Value))(hc0:¬(decide (x < -2 ^ 63) || decide (x>=2 ^ 63))=true)(hc1:(items.isEmpty || x == 1)=true) :
  Meets (Builtin.«tuple.__mul__» ⟨[.ref l,.int x u],[]⟩) (fun _ R s=>s.heap.get? l=some { cls:=.type "tuple",dict:=dd,data:=.seq items n,slots:=sl }/\R (.ok (.ret (Value.ref l))) s):=
 .of_wp fun prog w A R s h=>by
  obtain⟨hp,g,d,tk,os⟩:=s;obtain⟨hl,h⟩:=h;have f1:=AutoSeq1.idx_int;have f2:=AutoSeq1.sub_tuple_tuple;wp_walk using wpAny_loadPart' hl;rw[if_neg hc0];wp_walk using wpAny_loadPart' hl;exact⟨_,rfl,h⟩
theorem tuple_mul_new (l:Addr)(items:Array Value)(n:Nat)(x:Int)(u:Tok)(dd:Option Addr)(sl:Array (Option Value))(hc0:¬(decide (x < -2 ^ 63) || decide (x>=2 ^ 63))=true)(hc1:¬(items.isEmpty || x == 1)=true)
  (hc2:¬(decide (x<=0) || items.isEmpty)=true) (hc3:¬(↑items.size * x > (2 ^ 63 - 1) / 8)) (hc4:¬Builtin.Tuple.tupleTooMany (↑items.size * x)=true) (hsz:(List.foldl (fun x1 x2=>x1++x2) #[] (List.replicate x.toNat items)).size<=sizeLine) :
  Meets (Builtin.«tuple.__mul__» ⟨[.ref l,.int x u],[]⟩) (fun _ R s=>s.heap.get? l=some { cls:=.type "tuple",dict:=dd,data:=.seq items n,slots:=sl }/\R (.ok (.ret (Value.ref s.heap.objs.size))) { s with heap:=s.heap.push { cls:=Value.type "tuple",data:=Data.seq (List.foldl (fun x1 x2=>x1++x2) #[] (List.replicate x.toNat items)) },toks:=s.toks }):=
 .of_wp fun prog w A R s h=>by
  obtain⟨hp,g,d,tk,os⟩:=s;obtain⟨hl,h⟩:=h;have f1:=AutoSeq1.idx_int;have f2:=AutoSeq1.sub_tuple_tuple;wp_walk using wpAny_loadPart' hl;rw[if_neg hc0];wp_walk using wpAny_loadPart' hl;rw[if_neg hc3];wp_walk using wpAny_loadPart' hl;exact⟨_,rfl,h⟩
theorem tuple_mul_none (l:Addr)(items:Array Value)(n:Nat)(x:Int)(u:Tok)(dd:Option Addr)(sl:Array (Option Value))(hc0:¬(decide (x < -2 ^ 63) || decide (x>=2 ^ 63))=true)(hc1:¬(items.isEmpty || x == 1)=true)
  (hc2:(decide (x<=0) || items.isEmpty)=true) :
  Meets (Builtin.«tuple.__mul__» ⟨[.ref l,.int x u],[]⟩) (fun _ R s=>s.heap.get? l=some { cls:=.type "tuple",dict:=dd,data:=.seq items n,slots:=sl }/\R (.ok (.ret (Value.ref s.heap.objs.size))) { s with heap:=s.heap.push { cls:=Value.type "tuple",data:=Data.seq #[] },toks:=s.toks }):=
 .of_wp fun prog w A R s h=>by
  obtain⟨hp,g,d,tk,os⟩:=s;obtain⟨hl,h⟩:=h;have f1:=AutoSeq1.idx_int;have f2:=AutoSeq1.sub_tuple_tuple;wp_walk using wpAny_loadPart' hl;rw[if_neg hc0];wp_walk using wpAny_loadPart' hl;exact⟨_,rfl,h⟩
end TM
namespace L2
open PySem PySem.Spec PyProof.Rows
section
variable {X:Cx}
theorem jl8:OpR X (binaryOp .Add) (fun x y H Q=>∃a b ys,x=.ref a/\y=.ref b/\SqT X.K H a []/\SqT X.K H b ys/\Q (.ref b) H):=by
 intro pins s σ H x y v u Q I rx ry h;obtain⟨a,b,ys,rfl,rfl,ha,hb,q⟩:=h;cases rx;cases ry;obtain⟨its,r1,p1,_⟩:=I.tuple ha;obtain⟨its2,r2,p2,_⟩:=I.tuple hb;obtain rfl:its=[]:=r1.nil_iff.mpr rfl;obtain⟨⟨cls,dd,data,sl⟩,ho,hc,n,hd⟩:=id p1;obtain⟨⟨cls2,dd2,data2,sl2⟩,ho2,hc2,n2,hd2⟩:=id p2;simp only at hc hd hc2 hd2;subst hc hd hc2 hd2;exact concat_meets ⟨_,ho,rfl⟩ ⟨_,ho2,rfl⟩ noFill_tuple_add seq_tuple_add PySem.F.slot_tuple_add PySem.F.entry_tuple_add (PySem.F.args_tuple_add_2 _ _)
   (tuple_addW0 a b ([]:List Value).toArray its2.toArray n n2 dd dd2 sl sl2 rfl) ⟨ho,ho2,⟨.ref b,H,I,rfl,q⟩⟩
theorem joZ:OpR X (binaryOp .Add) (fun x y H Q=>∃a b xs ys,x=.ref a/\y=.ref b/\SqL X.K H a xs/\SqL X.K H b ys/\xs.length + ys.length<=sizeLine/\∀p,H p=none->Q (.ref p) (upd H p (.lst (xs++ys)))):=by
 intro pins s σ H x y v u Q I rx ry h;obtain⟨a,b,xs,ys,rfl,rfl,ha,hb,hz,q⟩:=h;cases rx;cases ry;obtain⟨its,r1,⟨⟨cls,dd,data,sl⟩,n,ho,hc,hdd,hd⟩,_⟩:=I.list ha;obtain⟨its2,r2,⟨⟨cls2,dd2,data2,sl2⟩,n2,ho2,hc2,hdd2,hd2⟩,_⟩:=I.list hb;simp only at hc hd hc2 hd2;subst hc hd hc2 hd2;refine concat_meets ⟨_,ho,rfl⟩ ⟨_,ho2,rfl⟩ noFill_list_add seq_list_add PySem.F.slot_list_add PySem.F.entry_list_add (PySem.F.args_list_add_2 _ _)
   (list_addW a b its.toArray its2.toArray n n2 dd dd2 sl sl2 (by rw[ju9,ju9,<-r1.length,<-r2.length];exact hz)) ⟨ho,ho2,?_⟩
 have e:its.toArray++its2.toArray=(its++its2).toArray:=by simp
 rw[e];exact⟨.ref _,_,I.lnew (t':=s.toks) (r1.append r2) (by rw[jvj];exact hz),rfl,q _ I.fresh⟩
theorem jo0:OpR X (binaryOp .Mult) (fun x y H Q=>∃a k xs,x=.ref a/\y=.int k/\SqT X.K H a xs/\0<=k/\k<=16777216/\xs.length * k.toNat<=sizeLine /\
  ((xs.isEmpty || k == 1)=true->Q (.ref a) H)/\((xs.isEmpty || k == 1)=false->∀p,H p=none->Q (.ref p) (upd H p (.tup (List.replicate k.toNat xs).flatten)))):=by
 intro pins s σ H x y v u Q I rx ry h;obtain⟨a,k,xs,rfl,rfl,ha,h0,h1,hz,q1,q2⟩:=h;cases rx;obtain⟨t,rfl⟩:=ry;obtain⟨its,r1,p1,_⟩:=I.tuple ha;have hlen:=r1.length;obtain⟨⟨cls,dd,data,sl⟩,ho,hc,n,hd⟩:=id p1;simp only at hc hd;subst hc hd;have hc0:¬(decide (k < -2 ^ 63) || decide (k>=2 ^ 63))=true:=by
  simp only[Bool.or_eq_true,decide_eq_true_eq];omega
 have hem:its.toArray.isEmpty=xs.isEmpty:=by cases r1 <;> simp
 refine wpAny_binaryOp_repeat_ref (T:="tuple") (U:="int") (by decide) ⟨_,ho,rfl⟩ (fun s'=>typeIs_int s' k t) TM.noFill_tuple_mul PySem.F.fills_int_mul PySem.F.slot_int_rmul TM.repeat_tuple PySem.F.slot_int_index.lookup
  (call_meets PySem.F.slot_int_rmul (typeIs_int s k t) PySem.F.entry_int_rmul (PySem.F.args_int_rmul_2 _ _) (TM.int_rmul_tuple k t a its.toArray n dd sl) ⟨ho,rfl,⟨_,ho,rfl⟩,?_⟩)
 cases hc:(xs.isEmpty || k == 1)with
 |true=>
  exact call_meets PySem.F.slot_tuple_mul ⟨_,ho,rfl⟩ PySem.F.entry_tuple_mul (PySem.F.args_tuple_mul_2 _ _) (TM.tuple_mul_same a its.toArray n k t dd sl hc0 (by rw[hem];exact hc)) ⟨ho,⟨.ref a,H,I,rfl,q1 hc⟩⟩
 |false=>
  have q:=q2 hc;have hxe:xs.isEmpty=false:=(Bool.or_eq_false_iff.mp hc).1;by_cases hk:k<=0
  ·have hk0:k.toNat=0:=by omega
   refine call_meets PySem.F.slot_tuple_mul ⟨_,ho,rfl⟩ PySem.F.entry_tuple_mul (PySem.F.args_tuple_mul_2 _ _) (TM.tuple_mul_none a its.toArray n k t dd sl hc0 (by rw[hem,hc];exact jvR) (by rw[hem,hxe];simp[hk])) ⟨ho,?_⟩
   refine⟨.ref s.heap.objs.size,_,I.laid (t':=s.toks) (o:=.tup (List.replicate k.toNat xs).flatten) (fun b ob q=>jvF _ q) (jvK _) ?_,rfl,q _ (I.hok.fresh (jvK _))⟩;rw[hk0];exact⟨Nat.zero_le _,[],.nil,IsTup.new _ _⟩
  ·have hn:(List.foldl (fun x1 x2=>x1++x2) #[] (List.replicate k.toNat its.toArray))=(List.replicate k.toNat its).flatten.toArray:=by
    have:=jfq its k.toNat [];rw[List.nil_append]at this;exact this
   have hl2:(List.replicate k.toNat xs).flatten.length<=sizeLine:=by rw[jjI,Nat.mul_comm];exact hz
   have hprod:(its.toArray.size:Int) * k<=sizeLine:=by
    rw[ju9,<-hlen];have:((xs.length * k.toNat:Nat):Int)<=sizeLine:=by exact_mod_cast hz
    rw[Int.natCast_mul,Int.toNat_of_nonneg h0]at this;exact this
   have hs24:(sizeLine:Int)=16777216:=by rw[sizeLine_eq];rfl
   refine call_meets PySem.F.slot_tuple_mul ⟨_,ho,rfl⟩ PySem.F.entry_tuple_mul (PySem.F.args_tuple_mul_2 _ _) (TM.tuple_mul_new a its.toArray n k t dd sl hc0 (by rw[hem,hc];exact jvR) (by rw[hem,hxe];simp;omega) (by omega)
    (by unfold Builtin.Tuple.tupleTooMany;simp only[decide_eq_true_eq];omega) (by rw[hn,ju9,jjI,<-hlen,Nat.mul_comm];exact hz)) ⟨ho,?_⟩
   rw[hn];refine⟨.ref s.heap.objs.size,_,I.laid (t':=s.toks) (o:=.tup (List.replicate k.toNat xs).flatten) (fun b ob q=>jvF _ q) (jvK _) ?_,rfl,q _ (I.hok.fresh (jvK _))⟩;exact⟨hl2,_,r1.rep k.toNat,IsTup.new _ _⟩
theorem jct {prog:Program}{w:World}{A:Around}{E:Value->Shared->Prop}{s:Shared}{t sl:Addr}{items:Array Value}{vl vu:Value}{lo hi:Option Int}{Q:Value->Shared->Prop}(ht:IsTup s.heap t items)(hs:s.heap.IsSliceOf sl vl vu .none)(pl:IsPart vl lo)(pu:IsPart vu hi)
  (hw:HT.sIx items.size 0 lo=0/\HT.sIx items.size items.size hi=items.size) (h:Q (.ref t) s):wpAny (model prog w) A (getItem (.ref t) (.ref sl)) Q E s:=by
 obtain⟨os,hos,hcs,hds⟩:=id hs;have hTs:s.TypeIs (.ref sl) "slice":=⟨os,hos,hcs⟩;unfold getItem;try with_reducible refine jvC ?_
 first | refine jvx (jvy ?_) | skip
 refine jvx (wpAny_sequenceKey ht.typeIs (by decide) ?_)
 refine jvx (wpAny_callSpecial?_slot (name:=Str.ofString "__getitem__") ht.typeIs PyProof.Rows.slot_tuple_getitem
  (wpAny_call_entry PyProof.Rows.slot_tuple_getitem ht.typeIs entry_tuple_getitem ?_ (args_tuple_getitem _ _)))
 show wpAny _ _ (Builtin.Tuple.tupleItemsOf (.ref t) >>= _) _ _ s;refine jvx (tupleItemsOf_ ht ?_);refine jvx (wpAny_typeOf hTs ?_);rw[if_pos (by decide)]
 refine jvx (HT.jbS hs pl pu ?_);have hyes:(((HT.sIx items.size 0 lo:Nat):Int) == 0 && (1:Int) == 1 && (HT.sIx items.size items.size hi - HT.sIx items.size 0 lo) == items.size)=true:=by
  rw[hw.1,hw.2];simp
 show wpAny _ _ (if (((HT.sIx items.size 0 lo:Nat):Int) == 0 && (1:Int) == 1 && (HT.sIx items.size items.size hi - HT.sIx items.size 0 lo) == items.size)=true then _ else _) _ _ s;rw[if_pos hyes];refine jvx (m:=Builtin.Tuple.tupleIsExact _) ?_;unfold Builtin.Tuple.tupleIsExact;refine jvx (wpAny_typeOf ht.typeIs ?_);refine jvy ?_;rw[if_pos (by rfl)]
 exact jvx (wpAny_rule (jvy ⟨_,rfl,jvy h⟩))
theorem sl_tupW:SlR X (fun x lo hi H Q=>∃a xs,x=.ref a/\SqT X.K H a xs/\(HT.sIx xs.length 0 lo=0/\HT.sIx xs.length xs.length hi=xs.length)/\Q (.ref a) H):=by
 intro pins s σ H x v vl vu lo hi sl Q I rx hs pl pu h;obtain⟨a,xs,rfl,hx,hw,q⟩:=h;cases rx;obtain⟨its,r,ht,hz⟩:=I.tuple hx;have hlen:its.toArray.size=xs.length:=by rw[ju9];exact r.length.symm
 refine⟨"tuple",_,PyProof.Rows.slot_tuple_getitem.lookup,ht.typeIs,?_⟩;exact jct ht hs pl pu (by rw[hlen];exact hw) ⟨.ref a,H,I,rfl,q⟩
noncomputable def trV:V->Option Bool
 |.bl b=>some b
 |.int i=>some (i != 0)
 |_=>none
theorem jjM {prog:Program}{w:World}{A:Around}{x:V}{v:Value}{b:Bool}(r:RelV x v)(h:trV x=some b){s:Shared}{Q:Bool->Shared->Prop}{E:Value->Shared->Prop}(q:Q b s):wpAny (model prog w) A (truthy v) Q E s:=by
 cases x with
 |bl c=>
  cases (show v=Value.bool c from r);cases h;exact wpAny_truthy_bool q
 |int i=>
  obtain⟨t,rfl⟩:=(show ∃t,v=Value.int i t from r);cases h;exact PySem.P.truthy_int q
 |_=>cases h
theorem jew {pins:List (Addr×Obj)}{σ:St}{H:Hp}{s:Shared}{p:Addr}{ys:List V}(hc:X.calm=true)(I:Inv X pins σ H s)(h:SqL X.K H p ys\/SqT X.K H p ys){A:Around}(hA:A.handled=none){Q:Value->Shared->Prop}{E:Value->Shared->Prop}
  (q:∀(its:List Value) (I':Addr) (fp wr:List Addr) (St:Nat->Heap->Prop) (h2:Heap),Vals ys its->Walks X.prog X.w A I' fp wr ys.length (fun i v=>its[i]?=some v) St->St 0 h2->(∀b∈fp,b < h2.objs.size) ->
   (∀h' tk,(∀b o,b ∉ wr->h2.get? b=some o->h'.get? b=some o)->Inv X pins σ H { s with heap:=h',toks:=tk })->Q (.ref I') { s with heap:=h2 }):wpAny (model X.prog X.w) A (pyIter (.ref p)) Q E s:=by
 have back:∀(o:Obj) (h':Heap) (tk:Nat),(∀b ob,b ∉ [s.heap.objs.size]->(s.heap.push o).get? b=some ob->h'.get? b=some ob)->Inv X pins σ H { s with heap:=h',toks:=tk }:=fun o h' tk kp=>
  I.kept fun b ob e=>kp b ob (by simpa using jvM (jvG e)) (jvF _ e)
 rcases h with h | h
 ·obtain⟨its,r,pl,hz⟩:=I.list h;have hlen:its.toArray.size=ys.length:=by rw[ju9];exact r.length.symm
  have hlt:p < s.heap.objs.size:=by obtain⟨o,n,e,_⟩:=pl;exact jvG e
  refine wpAny_pyIter_list pl.isList ?_;have W:=Walks.list (prog:=X.prog) (w:=X.w) hA s.heap.objs.size p (jvM hlt) its.toArray;rw[hlen]at W;refine q its s.heap.objs.size _ _ (fun i h=>h.IsListIter s.heap.objs.size p i/\h.IsList p its.toArray) _ r (by simpa using W) ⟨⟨_,jvH _ rfl,rfl,rfl⟩,pl.isList.push _⟩ (fun b hb=>?_) (fun h' tk kp=>back _ h' tk kp)
  rw[Heap.size_push];rcases List.mem_cons.mp hb with rfl | hb
  ·exact Nat.lt_succ_self _
  ·have:b=p:=by simpa using hb
   subst this;exact Nat.lt_succ_of_lt hlt
 ·obtain⟨its,r,pl,hz⟩:=I.tuple h;have hlen:its.toArray.size=ys.length:=by rw[ju9];exact r.length.symm
  have hlt:p < s.heap.objs.size:=pl.lt;have pl':s.heap.IsTuple p its.toArray:=pl;refine wpAny_pyIter_tuple pl' ?_;have W:=Walks.tuple (prog:=X.prog) (w:=X.w) hA s.heap.objs.size p (jvM hlt) its.toArray;rw[hlen]at W;refine q its s.heap.objs.size _ _ (fun i h=>h.IsTupleIter s.heap.objs.size p i/\h.IsTuple p its.toArray) _ r (by simpa using W) ⟨⟨_,jvH _ rfl,rfl,rfl⟩,?_⟩ (fun b hb=>?_) (fun h' tk kp=>back _ h' tk kp)
  ·obtain⟨o,e,c⟩:=pl';exact⟨o,jvF _ e,c⟩
  ·rw[Heap.size_push];rcases List.mem_cons.mp hb with rfl | hb
   ·exact Nat.lt_succ_self _
   ·have:b=p:=by simpa using hb
    subst this;exact Nat.lt_succ_of_lt hlt
theorem jfs {ys:List V}{bs:List Bool}(h:ys.map trV=bs.map some):(List.range ys.length).all (fun i=>((ys[i]?).bind trV).getD false)=bs.all id/\(List.range ys.length).any (fun i=>((ys[i]?).bind trV).getD false)=bs.any id:=by
 have hl:ys.length=bs.length:=by simpa using congrArg List.length h
 have hg:∀i:Nat,((ys[i]?).bind trV).getD false=(bs[i]?).getD false:=fun i=>by
  have e:(ys.map trV)[i]?=(bs.map some)[i]?:=by rw[h]
  rw[jvb,jvb]at e;cases q:ys[i]? with
  |none=>rw[q]at e;cases q2:bs[i]? with
   |none=>rfl
   |some b=>rw[q2]at e;cases e
  |some y=>rw[q]at e;cases q2:bs[i]? with
   |none=>rw[q2]at e;cases e
   |some b=>rw[q2]at e;simp at e;simp[e]
 have ea:(List.range ys.length).map (fun i=>((ys[i]?).bind trV).getD false)=bs:=by
  apply List.ext_getElem?;intro i;rw[jvb];by_cases hi:i < ys.length
  ·rw[List.getElem?_range hi];have hb:i < bs.length:=by omega
   rw[Option.map_some,hg i,ju5 hb];rfl
  ·rw[jvl (by simpa using hi),jvl (by omega)]
   rfl
 constructor
 ·conv=>rhs;rw[<-ea]
  rw[List.all_map];rfl
 ·conv=>rhs;rw[<-ea]
  rw[List.any_map];rfl
theorem jft (hc:X.calm=true)(all:Bool):CallR X (.builtin (if all then "all" else "any")) (fun xs H Q=>∃(p:Addr) (ys:List V) (bs:List Bool),xs=[.ref p]/\(SqL X.K H p ys\/SqT X.K H p ys)/\ys.map trV=bs.map some/\Q (.bl (if all then bs.all id else bs.any id)) H):=by
 intro pins s σ H xs us Q I r h;obtain⟨p,ys,bs,rfl,hq,hb,q⟩:=h;obtain⟨u,rfl,rx⟩:=jbV r;cases rx;have hA:X.A.in1.handled=none:=I.ok.hd hc;have tro:∀its:List Value,Vals ys its->TruthOf X.prog X.w X.A.in1 (fun i v=>its[i]?=some v) (fun i=>((ys[i]?).bind trV).getD false):=fun its rv i v s Q E hP hQ=>by
  have hlen:=rv.length;have hi:i < ys.length:=by rw[hlen];exact(List.getElem?_eq_some_iff.mp hP).1
  obtain⟨u,e1,e2⟩:=rv.get (ju5 hi);rw[hP]at e1;cases e1;have e:(ys.map trV)[i]?=(bs.map some)[i]?:=by rw[hb]
  rw[jvb,jvb,ju5 hi]at e;cases q2:bs[i]? with
  |none=>rw[q2]at e;cases e
  |some b=>
   rw[q2]at e;have e:trV ys[i]=some b:=by simpa using e
   refine jjM e2 e ?_;have:((ys[i]?).bind trV).getD false=b:=by rw[ju5 hi];simp[e]
   rw[<-this];exact hQ
 cases all with
 |true=>
  refine call_all_walk (jew hc I hq hA fun its I' fp wr St h2 rv W st hfp back=>⟨I',fp,wr,_,_,St,_,rfl,W,st,tro its rv,fun h' tk kp=>?_⟩);rw[(jfs hb).1];exact⟨.bl _,H,back h' tk kp,rfl,q⟩
 |false=>
  refine call_any_walk (jew hc I hq hA fun its I' fp wr St h2 rv W st hfp back=>⟨I',fp,wr,_,_,St,_,rfl,W,st,tro its rv,fun h' tk kp=>?_⟩);rw[(jfs hb).2];exact⟨.bl _,H,back h' tk kp,rfl,q⟩
end
end L2
namespace L2
open PySem PySem.Spec PyProof.Rows PySem.W PySem.Builtin PySem.Builtin.Getset_descriptor
structure ECls (K:Frag)(C:Addr):Prop where
 ga:findIn K (.ref C) "__getattribute__"=some (some (.builtin "BaseException.__getattribute__"))
 hk:findIn K (.ref C) "__getattr__"=some none
 ca:findIn K (.ref C) "__class__"=some (some (.builtin "object.__class__"))
 gs:specialIn K (.builtin "object.__class__") "__get__"=some (some (.builtin "getset_descriptor.__get__"))
 tk:takesIn K (.builtin "object.__class__")=some true
 mo:mroIn K C (.type "object")=some true
 mb:mroIn K C (.type "BaseException")=some true
 ms:mroIn K C (.ref C)=some true
 mv:mroIn K C (.type "ValueError")=some true
 cd:(clsIn K C).isSome=true
 ty:typeIn K (.ref C)=some (.type "type")
section
variable {prog:Program}{w:World}{A:Around}{E:Value->Shared->Prop}{s:Shared}{K:Frag}{x C:Addr}{ox:Obj}
inductive TyAt (h:Heap) (x C:Addr):Prop
 |mk (o:_):(h.get? x=some o)->(o.cls=.ref C)->TyAt h x C
theorem TyAt.looks {M:Model}{h:Heap}(t:TyAt h x C):Looks M h (typeOf (.ref x)) (.ref C):=by
 obtain⟨o,e,hc⟩:=t;have z:=(Looks.ld (M:=M) (part:=none) e).andThen (f:=fun o=>pure o.cls) Looks.now;rw[hc]at z;exact z
theorem jjN {M:Model}{nameV:Value}{Q:Unit->Shared->Prop}(X:K.In s.heap)(e:ECls K C)(I:TyAt s.heap x C)(hq:Q () s) :
  wpAny M A (checkBuiltinCall "BaseException.__getattribute__" ⟨[.ref x,nameV],[]⟩) Q E s:=by
 have k1:builtinKind "BaseException.__getattribute__"=some .slot:=by decide +kernel
 have k2:splitId "BaseException.__getattribute__"=some ("BaseException","__getattribute__"):=by decide +kernel
 have ha:=F.args_bexc_ga (.ref x) nameV;have L0:=I.looks (M:=M);have L1:=looks_mroIn (M:=M) X e.mb;simp only[checkBuiltinCall,k1,k2];refine jvx ?_;unfold isInstance;obtain⟨hh,g,d,t,os⟩:=s;refine jvx (L0.at (L1.at ?_));repeat (first | wp_step)
 exact hq
theorem jl9 {M:Model}{h:Heap}(X:K.In h)(e:ECls K C)(x:Addr):Looks M h (Builtin.ObjectAttr.find (.ref x) (.ref C) "__class__") (.bind (.builtin "getset_descriptor.__get__") (.builtin "object.__class__")):=by
 have a1:=looks_findIn (M:=M) X e.ca;have a2:=looks_specialIn (M:=M) X e.gs;have a3:=looks_takesIn (M:=M) X e.tk;refine a1.andThen (Looks.andThen (a:=some (Value.builtin "getset_descriptor.__get__")) (by unfold Builtin.ObjectAttr.getOf;exact a2) ?_)
 exact Looks.andThen (a:=some (.builtin "getset_descriptor.__get__",.builtin "object.__class__")) (a3.andThen Looks.now) (Looks.tag Looks.now)
theorem jo1 {R:Result->Shared->Prop}(X:K.In s.heap)(e:ECls K C)(I:TyAt s.heap x C)(h:R (.ok (.ret (.ref C))) s) :
  codeAny (model prog w) A (.call (.builtin "getset_descriptor.__get__") ⟨[.builtin "object.__class__",.ref x,.ref C],[]⟩) R s:=by
 have T0:=I.looks (M:=model prog w);have T1:=looks_mroIn (M:=model prog w) X e.mo;obtain⟨hp,ge,dr,tk,os⟩:=s;refine codeAny_call_builtin KF.slot_gs.plain KF.entry_gs ?_;refine KF.slot_gs.check _ _ _ _ _ _ _ _ KF.type_class (KF.args_gs _ _ _) ?_;unfold Builtin.«getset_descriptor.__get__»;unfold descrGet;rw[dga_obj];refine jvx (jvy ?_);unfold descrGetter;unfold descrCheckInstance;unfold descrNameAndClass;unfold isInstance;simp only[KF.owner_class];repeat lk
 refine⟨Code.quiet_builtin _ (by decide +kernel),codeAny_builtin KF.entry_class ?_⟩
 unfold Builtin.«object.__class__»;unfold shownTypeOf;repeat lk
 exact h
theorem jjO {Q:Option Value->Shared->Prop}(X:K.In s.heap)(e:ECls K C)(I:TyAt s.heap x C)(h:Q (some (.ref C)) { s with toks:=s.toks + 1 }):wpAny (model prog w) A (getAttr? (.ref x) "__class__") Q E s:=by
 obtain⟨hh,g,d,t,os⟩:=s;have L0:=I.looks (M:=model prog w);have L1:=looks_findIn (M:=model prog w) X e.ga;have L2':=looks_findIn (M:=model prog w) X e.hk;have L3:=jl9 (M:=model prog w) X e x;unfold getAttr? getAttrBy? getAttrBy;refine jvx (wpAny_mkText (jvx (wpAny_attempt ?_)));refine jvC (jvx (L0.at (jvx (L1.at ?_))));have hx2:(Value.builtin "BaseException.__getattribute__" == Value.builtin "object.__getattribute__")=false:=by decide +kernel
 simp only[hx2,Bool.and_false,jvQ,if_false];unfold getAttrByItsOwn hookBefore;simp only[onTheHeap,if_true];refine jvx (L2'.at (jvx (wpAny_attempt (jvC ?_))));unfold callGetattribute boundAndCalled;simp only[Bool.false_and,jvQ,if_false];rw[F.attr_ValueError.ga.bind];refine jvx (jvy ?_);refine wpAny_call (codeAny_call_builtin F.attr_ValueError.ga.plain F.entry_bexc_ga (jjN X e I ?_));unfold Builtin.«object.__getattribute__»;refine jvx (jvA (a:=(Value.ref x,[Value.str "__class__" t])) rfl ?_);dsimp only;refine jvx (jvA (a:=("__class__":Str)) rfl ?_);refine jvx (L0.at (jvx (L3.at ?_)));dsimp only;unfold Builtin.ObjectAttr.bindTo;dsimp only;refine jvx (jvC (wpAny_call (jo1 (s:=⟨hh,g,d,t + 1,os⟩) X e I ?_)));dsimp only;refine jvy ?_;dsimp only;exact jvy (jvy h)
theorem ECls.isTy {M:Model}{h:Heap}(e:ECls K C)(X:K.In h):Looks M h (isType (.ref C)) true:=by
 obtain⟨cd,hcd⟩:=Option.isSome_iff_exists.mp e.cd;unfold clsIn at hcd;split at hcd
 ·rename_i ho;intro A' Q' E' s' k q;unfold isType;unfold loadHead;exact jvx (wpAny_loadPart (k _ _ (X _ _ ho)) (jvy q))
 ·cases hcd
theorem jma (e:ECls K C):KitX K (.ref x) (.ref C) (fun h=>TyAt h x C) where
 ty:=fun _ _ _ I=>I.looks
 it:=fun _ _ X _=>e.isTy X
 ne:=fun h tp dd its n sl X htp=>by
  obtain⟨cd,hcd⟩:=Option.isSome_iff_exists.mp e.cd;refine Bool.eq_false_iff.mpr fun q=>?_;have z:C=tp:=Value.ref.inj (beq_iff_eq.mp q);subst z;unfold clsIn at hcd;split at hcd
  ·rename_i ho;cases (X _ _ ho).symm.trans htp
  ·cases hcd
 ca:=fun X I k=>jjO X e I k
theorem jgl {C':Addr}{b:Bool}{Q:Bool->Shared->Prop}(X:K.In s.heap)(e':ECls K C')(I:TyAt s.heap x C)(hs:subIn K (.ref C) (.ref C')=some b)(hq:Q b s):wpAny (model prog w) A (excMatches (.ref x) (.ref C')) Q E s:=by
 have L0:=I.looks (M:=model prog w);have L1:=looks_typeIn (M:=model prog w) X e'.ty;have L2':=looks_mroIn (M:=model prog w) X e'.mb;have L3:=looks_subIn (M:=model prog w) X hs;have f:=tc_notTuple;have L4:=e'.isTy (M:=model prog w) X;obtain⟨hh,g,d,t,os⟩:=s;unfold excMatches;unfold isInstance;refine jvx (jvx (L1.at (jvA f ?_)));simp only[jvQ,if_false];refine jvx (jvy ?_);simp only[List.forIn_cons,List.forIn_nil];unfold isExcClass;refine jvx (jvx (jvx (jvx (L4.at ?_))));simp only[if_true];refine L2'.at ?_;simp only[Bool.not_true,jvQ,if_false];refine jvy (jvy (jvx (L0.at ?_)));refine jvx (jvx (jvx (L3.at ?_)));cases b with
 |true=>exact jvy (jvy (jvy hq))
 |false=>exact jvy (jvy (jvy hq))
end
end L2
namespace L2
open PySem PySem.Spec PyProof.Rows PySem.Builtin.SmallTypes
noncomputable def Sit (b:Bool)(h:Heap)(it l:Addr)(k:Nat)(xs:Array Value):Prop:=(b=true/\h.IsListIter it l k/\h.IsList l xs)\/(b=false/\h.IsTupleIter it l k/\h.IsTuple l xs)
noncomputable def Sq (b:Bool)(h:Heap)(l:Addr)(xs:Array Value):Prop:=(b=true/\h.IsList l xs)\/(b=false/\h.IsTuple l xs)
theorem Sit.at {b:Bool}{h h':Heap}{it l:Addr}{k:Nat}{xs:Array Value}(S:Sit b h it l k xs)(h1:∀o,h.get? it=some o->h'.get? it=some o)(h2:∀o,h.get? l=some o->h'.get? l=some o):Sit b h' it l k xs:=by
 rcases S with ⟨e,⟨o,a,r⟩,⟨o',a',r'⟩⟩ | ⟨e,⟨o,a,r⟩,⟨o',a',r'⟩⟩
 ·exact .inl ⟨e,⟨o,h1 o a,r⟩,⟨o',h2 o' a',r'⟩⟩
 ·exact .inr ⟨e,⟨o,h1 o a,r⟩,⟨o',h2 o' a',r'⟩⟩
theorem Sit.obj {b:Bool}{h:Heap}{it l:Addr}{k:Nat}{xs:Array Value}(S:Sit b h it l k xs):(∃o,h.get? it=some o/\∀v,o.data≠.cell v)/\∃o,h.get? l=some o/\(o.cls=.type "list"\/o.cls=.type "tuple"):=by
 rcases S with ⟨_,⟨o,a,_,d⟩,⟨o',a',c,_⟩⟩ | ⟨_,⟨o,a,_,d⟩,⟨o',a',c,_⟩⟩
 ·exact⟨⟨o,a,fun v z=>by rw[d]at z;cases z⟩,⟨o',a',.inl c⟩⟩
 ·exact⟨⟨o,a,fun v z=>by rw[d]at z;cases z⟩,⟨o',a',.inr c⟩⟩
section
variable {prog:Program}{w:World}{A:Around}{E:Value->Shared->Prop}{s:Shared}
theorem jim {it t:Addr}{k:Nat}{xs:Array Value}{x:Value}{Q:Value->Shared->Prop}(I:s.heap.IsTupleIter it t k)(T:s.heap.IsTuple t xs)(hx:xs[k]?=some x)
  (go:∀h',h'.IsTupleIter it t (k + 1)->Heap.SameBut it s.heap h'->Q x { s with heap:=h' }):wpAny (model prog w) A (nextOf (.ref it)) Q E s:=by
 have ty:=I.typeIs;obtain⟨ob,e1,e2,e3⟩:=I;obtain⟨tb,f1,_,n,f3⟩:=T;unfold nextOf;refine jvx (wpAny_callSpecial?_slot (name:=Str.ofString "__next__") ty F.slot_tuple_iterator_next (wpAny_call_entry F.slot_tuple_iterator_next ty F.entry_tuple_iterator_next ?_ (F.args_tuple_iterator_next_1 _)));show wpAny (model prog w) _ (field (.ref it) 0 >>= _) _ _ s;refine jvx (jvD e1 e3 (x:=.ref t) rfl ?_);show wpAny (model prog w) _ (if (Value.ref t == Value.none)=true then _ else _) _ _ s;rw[if_neg (show ¬((Value.ref t == Value.none)=true)from jvR)];show wpAny (model prog w) _ (field (.ref it) 1 >>= _) _ _ s;refine jvx (jvD e1 e3 (x:=.int k 0) rfl ?_);show wpAny (model prog w) _ (seqItems? (.ref t) >>= _) _ _ s;refine jvx (wpAny_seqItems f1 f3 ?_);simp only[hx,Int.toNat_natCast];refine jvx (wpAny_setField e1 e3 (by simp) (jvy ⟨x,rfl,jvy (go _ ⟨_,jvI _ e1 (Obj.isFreed_of_fields (Obj.data_mapFields e3 _)),(Obj.cls_mapFields ..).trans e2,?_⟩ (Heap.SameBut.update ..))⟩))
 rw[Obj.data_mapFields e3];simp[rawInt]
theorem jin {it t:Addr}{k:Nat}{xs:Array Value}{Q:Value->Shared->Prop}(hh:A.handled=none)(I:s.heap.IsTupleIter it t k)(T:s.heap.IsTuple t xs)(hx:xs[k]?=none)
  (go:∀h' e,Heap.ExtBut it s.heap h'->(∃o,h'.get? e=some o/\o.cls=.type "StopIteration")->E (.ref e) { s with heap:=h' }):wpAny (model prog w) A (nextOf (.ref it)) Q E s:=by
 have ty:=I.typeIs;obtain⟨ob,e1,e2,e3⟩:=I;obtain⟨tb,f1,_,n,f3⟩:=T;unfold nextOf;refine jvx (wpAny_callSpecial?_slot (name:=Str.ofString "__next__") ty F.slot_tuple_iterator_next (wpAny_call_entry F.slot_tuple_iterator_next ty F.entry_tuple_iterator_next ?_ (F.args_tuple_iterator_next_1 _)));show wpAny (model prog w) _ (field (.ref it) 0 >>= _) _ _ s;refine jvx (jvD e1 e3 (x:=.ref t) rfl ?_);show wpAny (model prog w) _ (if (Value.ref t == Value.none)=true then _ else _) _ _ s;rw[if_neg (show ¬((Value.ref t == Value.none)=true)from jvR)];show wpAny (model prog w) _ (field (.ref it) 1 >>= _) _ _ s;refine jvx (jvD e1 e3 (x:=.int k 0) rfl ?_);show wpAny (model prog w) _ (seqItems? (.ref t) >>= _) _ _ s;refine jvx (wpAny_seqItems f1 f3 ?_);simp only[hx,Int.toNat_natCast];refine jvx (wpAny_rule (jvx (wpAny_setField e1 e3 (by simp) (show wpAny (model prog w) _ (newExc (.type "StopIteration") [] >>= _) _ _ _ from jvx ?_))))
 simp only[newTuple,newExc];refine jvx (jvB (jvx (m:=firstArgMember _ _) (jvA (a:=Value.none) (by first | rfl | (simp only[firstArgMember];rfl)) (jvB ?_ (by size_fits)))) (by size_fits))
 simp only[raiseNew];refine jvx (wpAny_handled (by
  first | rw[show A.in1.handled=none from hh] | rw[hh]
  exact jvx (jvy (wpAny_throw (go _ _ (((Heap.SameBut.update ..).extBut.push _).push _) ⟨_,jvH _ rfl,rfl⟩)))))
theorem jex {b:Bool}{it l:Addr}{k:Nat}{xs:Array Value}{x:Value}{Q:Value->Shared->Prop}(S:Sit b s.heap it l k xs)(ne:l≠it)(hx:xs[k]?=some x)
  (go:∀h',Sit b h' it l (k + 1) xs->Heap.SameBut it s.heap h'->Q x { s with heap:=h' }):wpAny (model prog w) A (nextOf (.ref it)) Q E s:=by
 rcases S with ⟨e,I,L⟩ | ⟨e,I,L⟩
 ·exact wpAny_nextOf_list_item I L hx fun h' I' sb=>go h' (.inl ⟨e,I',L.extBut sb.extBut ne⟩) sb
 ·exact jim I L hx fun h' I' sb=>go h' (.inr ⟨e,I',L.extBut sb.extBut ne⟩) sb
theorem jhn {b:Bool}{it l:Addr}{k:Nat}{xs:Array Value}{Q:Value->Shared->Prop}(hh:A.handled=none)(S:Sit b s.heap it l k xs)(hx:xs[k]?=none)
  (go:∀h' e,Heap.ExtBut it s.heap h'->(∃o,h'.get? e=some o/\o.cls=.type "StopIteration")->E (.ref e) { s with heap:=h' }):wpAny (model prog w) A (nextOf (.ref it)) Q E s:=by
 rcases S with ⟨_,I,L⟩ | ⟨_,I,L⟩
 ·exact wpAny_nextOf_list_end hh I L hx go
 ·exact jin hh I L hx go
structure Zs (b1 b2:Bool)(h:Heap)(z TI TO i1 i2 l1 l2:Addr)(k:Nat)(xs ys:Array Value)(f:Value):Prop where
 zi:IsZip h z TI TO f
 ti:IsPair h TI (.ref i1) (.ref i2)
 to_:∃a b,IsPair h TO a b
 s1:Sit b1 h i1 l1 k xs
 s2:Sit b2 h i2 l2 k ys
theorem jo2 {b1 b2:Bool}{z TI TO i1 i2 l1 l2:Addr}{k:Nat}{xs ys:Array Value}{x y:Value}{Q:Value->Shared->Prop}(D:ZipApart z TI TO i1 i2 l1 l2)(S:Zs b1 b2 s.heap z TI TO i1 i2 l1 l2 k xs ys .none)(hx:xs[k]?=some x)(hy:ys[k]?=some y)
  (go:∀h',Zs b1 b2 h' z TI TO i1 i2 l1 l2 (k + 1) xs ys (rawInt s.heap.objs.size)->IsPair h' s.heap.objs.size x y->(∀c o,c≠z->c≠TO->c≠i1->c≠i2->s.heap.get? c=some o->h'.get? c=some o)->Q (.ref s.heap.objs.size) { s with heap:=h' }) :
  wpAny (model prog w) A (Builtin.«zip.__next__» ⟨[.ref z],[]⟩) (fun fin s'=>∃v,fin=.done (.ret v)/\Q v s') E s:=by
 obtain⟨zi,ti,⟨a,b,to_⟩,s1,s2⟩:=S;show wpAny (model prog w) _ (field (.ref z) 2 >>= _) _ _ _;refine jvx (jvD zi rfl (x:=.bool false) rfl ?_);show wpAny (model prog w) _ (field (.ref z) 3 >>= _) _ _ _;refine jvx (jvD zi rfl (x:=.ref TI) rfl (jvx (wpAny_seqItems ti rfl ?_)));show wpAny (model prog w) _ (ownedTupleIsFree (.ref z) >>= _) _ _ _;refine jvx ?_;unfold ownedTupleIsFree;refine jvx (jvD zi rfl (x:=.none) rfl (jvy ?_));simp only[if_true];refine jvx (wpAny_rule (jvx (jvD zi rfl (x:=.ref TO) rfl (jvx (wpAny_setField_rec zi (by simp) fun g1 y1 u1=>?_)))))
 replace y1:IsZip g1 z TI TO .ellipsis:=y1;refine jvx ?_;simp only[List.forIn_cons,List.forIn_nil,List.zipIdx_cons,List.zipIdx_nil];refine jvx (jvx (wpAny_onRaise (show wpAny (model prog w) _ (nextOf (.ref i1) >>= _) _ _ _ from jvx ?_)));refine jex (s1.at (fun o e=>u1.extBut _ o D.i1z e) fun o e=>u1.extBut _ o D.l1z e) D.l1i1 hx fun g2 y2 u2=>jvy ?_;have t2:IsPair g2 TO a b:=u2.extBut _ _ D.TOi1 (u1.extBut _ _ D.TOz to_);refine jvx (wpAny_seqItems t2 rfl (jvx (wpAny_updateSeq_pair t2 fun g3 t3 u3=>jvx (wpAny_letGo (jvy ?_)))));replace t3:IsPair g3 TO x b:=t3;refine jvx (jvx (wpAny_onRaise (show wpAny (model prog w) _ (nextOf (.ref i2) >>= _) _ _ _ from jvx ?_)));refine jex (s2.at (fun o e=>u3.extBut _ o D.TOi2.symm (u2.extBut _ o D.i12.symm (u1.extBut _ o D.i2z e))) fun o e=>u3.extBut _ o D.l2TO (u2.extBut _ o D.l2i1 (u1.extBut _ o D.l2z e))) D.l2i2 hy fun g4 y4 u4=>jvy ?_;have t4:IsPair g4 TO x b:=u4.extBut _ _ D.TOi2 t3;refine jvx (wpAny_seqItems t4 rfl (jvx (wpAny_updateSeq_pair t4 fun g5 t5 u5=>jvx (wpAny_letGo (jvy (jvy ?_))))));replace t5:IsPair g5 TO x y:=t5;refine jvx (wpAny_seqItems t5 rfl (jvx (wpAny_newTuple ?_)));have sz:g5.objs.size=s.heap.objs.size:=by rw[u5.1,u4.1,u3.1,u2.1,u1.1]
 have z5:IsZip g5 z TI TO .ellipsis:=u5.extBut _ _ D.TOz.symm (u4.extBut _ _ D.i2z.symm (u3.extBut _ _ D.TOz.symm (u2.extBut _ _ D.i1z.symm y1)));have k5:∀c o,c≠z->c≠TO->c≠i1->c≠i2->s.heap.get? c=some o->g5.get? c=some o:=fun c o c1 c2 c3 c4 e=>u5.extBut c o c2 (u4.extBut c o c4 (u3.extBut c o c2 (u2.extBut c o c3 (u1.extBut c o c1 e))));have a5:Sit b1 g5 i1 l1 (k + 1) xs:=y2.at (fun o e=>u5.extBut _ o D.TOi1.symm (u4.extBut _ o D.i12 (u3.extBut _ o D.TOi1.symm e))) fun o e=>u5.extBut _ o D.l1TO (u4.extBut _ o D.l1i2 (u3.extBut _ o D.l1TO e));have b5:Sit b2 g5 i2 l2 (k + 1) ys:=y4.at (fun o e=>u5.extBut _ o D.TOi2.symm e) fun o e=>u5.extBut _ o D.l2TO e;have lz:z < g5.objs.size:=jvG z5;show wpAny (model prog w) _ (ownedTupleHandOut (.ref z) (.ref g5.objs.size) >>= _) _ _ _;refine jvx ?_;unfold ownedTupleHandOut;refine jvx (wpAny_setField_rec (show IsZip (g5.push { cls:=.type "tuple",data:=.seq #[x,y] }) z TI TO .ellipsis from jvF _ z5) (by simp) fun g7 z7 u7=>?_)
 replace z7:IsZip g7 z TI TO (rawInt g5.objs.size):=z7;refine wpAny_setField_rec z7 (by simp) fun g8 z8 u8=>?_
 replace z8:IsZip g8 z TI TO (rawInt g5.objs.size):=z8;have up:∀c o,c≠z->g5.get? c=some o->g8.get? c=some o:=fun c o c1 e=>u8.extBut c o c1 (u7.extBut c o c1 (jvF _ e));have p8:IsPair g8 g5.objs.size x y:=u8.extBut _ _ (Nat.ne_of_gt lz) (u7.extBut _ _ (Nat.ne_of_gt lz) (jvH _ rfl));rw[sz]at z8 p8;refine jvy ⟨.ref g5.objs.size,rfl,?_⟩;rw[sz];exact go g8 ⟨z8,up _ _ D.TIz (k5 _ _ D.TIz D.TITO D.TIi1 D.TIi2 ti),⟨x,y,up _ _ D.TOz t5⟩,a5.at (fun o e=>up _ o D.i1z e) (fun o e=>up _ o D.l1z e),b5.at (fun o e=>up _ o D.i2z e) (fun o e=>up _ o D.l2z e)⟩ p8 fun c o c1 c2 c3 c4 e=>up c o c1 (k5 c o c1 c2 c3 c4 e)
theorem jmb {b1 b2:Bool}{z TI TO i1 i2 l1 l2:Addr}{k:Nat}{xs ys:Array Value}{Q:Fin->Shared->Prop}(hh:A.handled=none)(D:ZipApart z TI TO i1 i2 l1 l2)(S:Zs b1 b2 s.heap z TI TO i1 i2 l1 l2 k xs ys .none)(he:xs[k]?=none\/ys[k]?=none)
  (go:∀h' e,(∀c o,c≠z->c≠TO->c≠i1->c≠i2->s.heap.get? c=some o->h'.get? c=some o)->(∃o,h'.get? e=some o/\o.cls=.type "StopIteration")->E (.ref e) { s with heap:=h' }) :
  wpAny (model prog w) A (Builtin.«zip.__next__» ⟨[.ref z],[]⟩) Q E s:=by
 obtain⟨zi,ti,⟨a,b,to_⟩,s1,s2⟩:=S;show wpAny (model prog w) _ (field (.ref z) 2 >>= _) _ _ _;refine jvx (jvD zi rfl (x:=.bool false) rfl ?_);show wpAny (model prog w) _ (field (.ref z) 3 >>= _) _ _ _;refine jvx (jvD zi rfl (x:=.ref TI) rfl (jvx (wpAny_seqItems ti rfl ?_)));show wpAny (model prog w) _ (ownedTupleIsFree (.ref z) >>= _) _ _ _;refine jvx ?_;unfold ownedTupleIsFree;refine jvx (jvD zi rfl (x:=.none) rfl (jvy ?_));simp only[if_true];refine jvx (wpAny_rule (jvx (jvD zi rfl (x:=.ref TO) rfl (jvx (wpAny_setField_rec zi (by simp) fun g1 y1 u1=>?_)))))
 replace y1:IsZip g1 z TI TO .ellipsis:=y1;refine jvx ?_;simp only[List.forIn_cons,List.forIn_nil,List.zipIdx_cons,List.zipIdx_nil];refine jvx (jvx (wpAny_onRaise (show wpAny (model prog w) _ (nextOf (.ref i1) >>= _) _ _ _ from jvx ?_)));have s1':=s1.at (h':=g1) (fun o e=>u1.extBut _ o D.i1z e) fun o e=>u1.extBut _ o D.l1z e;cases hx:xs[k]? with
 |none=>
  refine jhn hh s1' hx fun g2 ea u2 hzz=>?_;obtain⟨oe,q1,q2⟩:=hzz;have z2:IsZip g2 z TI TO .ellipsis:=u2 _ _ D.i1z.symm y1;have ne:ea≠z:=fun q=>by subst q;rw[z2]at q1;cases q1;simp at q2
  exact wpAny_setField_rec z2 (by simp) fun g3 _ u3=>go g3 ea (fun c o c1 _ c3 _ q=>u3.extBut _ _ c1 (u2 _ _ c3 (u1.extBut _ _ c1 q))) ⟨oe,u3.extBut _ _ ne q1,q2⟩
 |some x=>
  have hy:ys[k]?=none:=by
   rcases he with h | h
   ·rw[hx]at h;cases h
   ·exact h
  refine jex s1' D.l1i1 hx fun g2 y2 u2=>jvy ?_;have t2:IsPair g2 TO a b:=u2.extBut _ _ D.TOi1 (u1.extBut _ _ D.TOz to_);refine jvx (wpAny_seqItems t2 rfl (jvx (wpAny_updateSeq_pair t2 fun g3 t3 u3=>jvx (wpAny_letGo (jvy ?_)))));refine jvx (jvx (wpAny_onRaise (show wpAny (model prog w) _ (nextOf (.ref i2) >>= _) _ _ _ from jvx ?_)));refine jhn hh (s2.at (fun o e=>u3.extBut _ o D.TOi2.symm (u2.extBut _ o D.i12.symm (u1.extBut _ o D.i2z e))) fun o e=>u3.extBut _ o D.l2TO (u2.extBut _ o D.l2i1 (u1.extBut _ o D.l2z e))) hy fun g4 ea u4 hzz=>?_;obtain⟨oe,q1,q2⟩:=hzz;have z4:IsZip g4 z TI TO .ellipsis:=u4 _ _ D.i2z.symm (u3.extBut _ _ D.TOz.symm (u2.extBut _ _ D.i1z.symm y1));have ne:ea≠z:=fun q=>by subst q;rw[z4]at q1;cases q1;simp at q2
  exact wpAny_setField_rec z4 (by simp) fun g5 _ u5=>go g5 ea (fun c o c1 c2 c3 c4 q=>u5.extBut _ _ c1 (u4 _ _ c4 (u3.extBut _ _ c2 (u2.extBut _ _ c3 (u1.extBut _ _ c1 q))))) ⟨oe,u5.extBut _ _ ne q1,q2⟩
theorem jio {b1 b2:Bool}{z TI TO i1 i2 l1 l2:Addr}{k:Nat}{xs ys:Array Value}{x y:Value}{Q:Option Value->Shared->Prop}(D:ZipApart z TI TO i1 i2 l1 l2)(S:Zs b1 b2 s.heap z TI TO i1 i2 l1 l2 k xs ys .none)(hx:xs[k]?=some x)(hy:ys[k]?=some y)
  (go:∀h',Zs b1 b2 h' z TI TO i1 i2 l1 l2 (k + 1) xs ys (rawInt s.heap.objs.size)->IsPair h' s.heap.objs.size x y->(∀c o,c≠z->c≠TO->c≠i1->c≠i2->s.heap.get? c=some o->h'.get? c=some o)->Q (some (.ref s.heap.objs.size)) { s with heap:=h' }) :
  wpAny (model prog w) A (pyNext (.ref z)) Q E s:=by
 have ty:s.TypeIs (.ref z) "zip":=⟨_,S.zi,rfl⟩;unfold pyNext;exact jvx (wpAny_attempt (wpAny_callSpecial?_slot (name:=Str.ofString "__next__") ty F.slot_zip_next (wpAny_call_entry F.slot_zip_next ty F.entry_zip_next (jo2 D S hx hy fun h' q1 q2 q3=>jvy (go h' q1 q2 q3)) (F.args_zip_next_1 _))))
theorem jip {b1 b2:Bool}{z TI TO i1 i2 l1 l2:Addr}{k:Nat}{xs ys:Array Value}{Q:Option Value->Shared->Prop}(hh:A.handled=none)(D:ZipApart z TI TO i1 i2 l1 l2)(S:Zs b1 b2 s.heap z TI TO i1 i2 l1 l2 k xs ys .none)(he:xs[k]?=none\/ys[k]?=none)
  (go:∀h',(∀c o,c≠z->c≠TO->c≠i1->c≠i2->s.heap.get? c=some o->h'.get? c=some o)->Q none { s with heap:=h' }):wpAny (model prog w) A (pyNext (.ref z)) Q E s:=by
 have ty:s.TypeIs (.ref z) "zip":=⟨_,S.zi,rfl⟩;unfold pyNext;refine jvx (wpAny_attempt (wpAny_callSpecial?_slot (name:=Str.ofString "__next__") ty F.slot_zip_next (wpAny_call_entry F.slot_zip_next ty F.entry_zip_next (jmb hh D S he fun h' ea hk ⟨o,ho,hc⟩=>?_) (F.args_zip_next_1 _))));exact jvx (wpAny_isInstance (T:="StopIteration") (b:=true) ⟨o,ho,hc⟩ isSubtype_stop (jvy (go _ hk)))
end
end L2
namespace L2
open PySem PySem.Spec PyProof.Rows
noncomputable def itO (b:Bool)(l:Addr):Obj:=if b then { cls:=.type "list_iterator",data:=.fields #[.ref l,.int 0 0] } else { cls:=.type "tuple_iterator",data:=.fields #[.ref l,.int 0 0] }
theorem Sq.push {b:Bool}{h:Heap}{l:Addr}{xs:Array Value}(S:Sq b h l xs)(o:Obj):Sq b (h.push o) l xs:=by
 rcases S with ⟨e,L⟩ | ⟨e,L⟩
 ·exact .inl ⟨e,L.push o⟩
 ·exact .inr ⟨e,L.push o⟩
theorem jjP {prog:Program}{w:World}{A:Around}{E:Value->Shared->Prop}{s:Shared}{b:Bool}{l:Addr}{xs:Array Value}{Q:Value->Shared->Prop}(S:Sq b s.heap l xs)
  (go:Q (.ref s.heap.objs.size) { s with heap:=s.heap.push (itO b l) }):wpAny (model prog w) A (pyIter (.ref l)) Q E s:=by
 rcases S with ⟨e,L⟩ | ⟨e,L⟩
 ·subst e;exact wpAny_pyIter_list L go
 ·subst e;exact wpAny_pyIter_tuple L go
theorem Sit.new {b:Bool}{h h':Heap}{it l:Addr}{xs:Array Value}(S:Sq b h l xs)(e:h'.get? it=some (itO b l))(k:∀o,h.get? l=some o->h'.get? l=some o):Sit b h' it l 0 xs:=by
 rcases S with ⟨z,⟨o,a,r⟩⟩ | ⟨z,⟨o,a,r⟩⟩
 ·subst z;exact .inl ⟨rfl,⟨_,e,rfl,rfl⟩,⟨o,k o a,r⟩⟩
 ·subst z;exact .inr ⟨rfl,⟨_,e,rfl,rfl⟩,⟨o,k o a,r⟩⟩
noncomputable abbrev zA (h:Heap)(b1:Bool)(l1:Addr):Heap:=h.push (itO b1 l1)
noncomputable abbrev zB (h:Heap)(b1 b2:Bool)(l1 l2:Addr):Heap:=(zA h b1 l1).push (itO b2 l2)
noncomputable abbrev zC (h:Heap)(b1 b2:Bool)(l1 l2:Addr):Heap:=(zB h b1 b2 l1 l2).push { cls:=.type "tuple",data:=.seq #[.ref h.objs.size,.ref (zA h b1 l1).objs.size] }
noncomputable abbrev zD (h:Heap)(b1 b2:Bool)(l1 l2:Addr):Heap:=(zC h b1 b2 l1 l2).push { cls:=.type "tuple",data:=.seq #[.none,.none] }
noncomputable abbrev zE (h:Heap)(b1 b2:Bool)(l1 l2:Addr):Heap:=(zD h b1 b2 l1 l2).push { cls:=.type "zip",data:=.fields #[.none,.bool false,.bool false,.ref (zB h b1 b2 l1 l2).objs.size,.ref (zC h b1 b2 l1 l2).objs.size] }
theorem jo3 (b1 b2:Bool)(l1 l2:Addr)(xs ys:Array Value):Meets (Builtin.«zip.__new__» ⟨[.type "zip",.ref l1,.ref l2],[]⟩) (fun _ R s=>Sq b1 s.heap l1 xs/\Sq b2 s.heap l2 ys/\R (.ok (.ret (.ref (zD s.heap b1 b2 l1 l2).objs.size))) { s with heap:=zE s.heap b1 b2 l1 l2 }):=
 .of_wp fun prog w A R s h=>by
  obtain⟨hp,g,d,tk,os⟩:=s;obtain⟨S1,S2,h⟩:=h;have hsub:=sub_zip;have T1:Sq b1 (Shared.heap ⟨hp,g,d,tk,os⟩) l1 xs:=S1;have T2:Sq b2 (Shared.heap ⟨hp.push (itO b1 l1),g,d,tk,os⟩) l2 ys:=Sq.push S2 _;wp_walk using jjP T1,jjP T2;exact⟨_,rfl,h⟩
section
variable {prog:Program}{w:World}{A:Around}{E:Value->Shared->Prop}{s:Shared}
theorem jmc {b1 b2:Bool}{l1 l2:Addr}{xs ys:Array Value}{Q:Value->Shared->Prop}(S1:Sq b1 s.heap l1 xs)(S2:Sq b2 s.heap l2 ys)
  (go:∀h',Zs b1 b2 h' (s.heap.objs.size + 4) (s.heap.objs.size + 2) (s.heap.objs.size + 3) s.heap.objs.size (s.heap.objs.size + 1) l1 l2 0 xs ys .none->(∀c o,s.heap.get? c=some o->h'.get? c=some o)->Q (.ref (s.heap.objs.size + 4)) { s with heap:=h' }) :
  wpAny (model prog w) A (call (.type "zip") [.ref l1,.ref l2]) Q E s:=by
 refine callType_new F.called_zip (by decide) (F.typeCall_zip_2 _ _) (F.newCall_zip_2 _ _) (fun obj=>F.args_object_init_3 obj _ _) F.entry_zip_new (jo3 b1 b2 l1 l2 xs ys) ⟨S1,S2,?_⟩
 have n1:(zA s.heap b1 l1).objs.size=s.heap.objs.size + 1:=Heap.size_push ..;have n2:(zB s.heap b1 b2 l1 l2).objs.size=s.heap.objs.size + 2:=by rw[Heap.size_push,n1]
 have n3:(zC s.heap b1 b2 l1 l2).objs.size=s.heap.objs.size + 3:=by rw[Heap.size_push,n2]
 have n4:(zD s.heap b1 b2 l1 l2).objs.size=s.heap.objs.size + 4:=by rw[Heap.size_push,n3]
 have up:∀c o,s.heap.get? c=some o->(zE s.heap b1 b2 l1 l2).get? c=some o:=fun c o e=>jvF _ (jvF _ (jvF _ (jvF _ (jvF _ e))));have g5:(zE s.heap b1 b2 l1 l2).get? (zD s.heap b1 b2 l1 l2).objs.size=some _:=jvH _ rfl;have g4:(zE s.heap b1 b2 l1 l2).get? (zC s.heap b1 b2 l1 l2).objs.size=some _:=jvF _ (jvH _ rfl);have g3:(zE s.heap b1 b2 l1 l2).get? (zB s.heap b1 b2 l1 l2).objs.size=some _:=jvF _ (jvF _ (jvH _ rfl));have g2:(zE s.heap b1 b2 l1 l2).get? (zA s.heap b1 l1).objs.size=some (itO b2 l2):=jvF _ (jvF _ (jvF _ (jvH _ (by cases b2 <;> rfl))))
 have g1:(zE s.heap b1 b2 l1 l2).get? s.heap.objs.size=some (itO b1 l1):=jvF _ (jvF _ (jvF _ (jvF _ (jvH _ (by cases b1 <;> rfl)))))
 show _/\_;rw[n2,n3,n4]at g5;rw[n1,n2]at g3;rw[n3]at g4;rw[n1]at g2;rw[n4];exact⟨⟨_,g5,rfl⟩,go _ ⟨g5,g3,⟨_,_,g4⟩,Sit.new S1 g1 (up l1),Sit.new S2 g2 (up l2)⟩ up⟩
end
noncomputable def SqB (K:PySem.W.Frag)(b:Bool)(H:Hp)(a:Addr)(xs:List V):Prop:=(b=true/\SqL K H a xs)\/(b=false/\SqT K H a xs)
noncomputable def Itz (K:PySem.W.Frag)(b1 b2:Bool)(l1 l2:Addr):It where
 go i H:=∃xs ys x y,SqB K b1 H l1 xs/\SqB K b2 H l2 ys/\xs[i]?=some x/\ys[i]?=some y
 yld i H v H':=∃p x y,v=.ref p/\H p=none/\H'=upd H p (.tup [x,y])/\(∀xs,SqB K b1 H l1 xs->xs[i]?=some x)/\∀ys,SqB K b2 H l2 ys->ys[i]?=some y
 stop i H:=∃xs ys,SqB K b1 H l1 xs/\SqB K b2 H l2 ys/\(xs.length<=i\/ys.length<=i)
section
variable {X:Cx}{pins:List (Addr×Obj)}{σ:St}{H:Hp}{s:Shared}{b:Bool}{a:Addr}{xs ys:List V}
theorem Inv.sqb (I:Inv X pins σ H s)(h:SqB X.K b H a xs):∃its:List Value,Vals xs its/\Sq b s.heap a its.toArray/\xs.length<=sizeLine:=by
 rcases h with ⟨e,h⟩ | ⟨e,h⟩
 ·obtain⟨its,r,p,z⟩:=I.list h;exact⟨its,r,.inl ⟨e,p.isList⟩,z⟩
 ·obtain⟨its,r,p,z⟩:=I.tuple h;exact⟨its,r,.inr ⟨e,p⟩,z⟩
theorem Inv.sqb_inj (I:Inv X pins σ H s)(h:SqB X.K b H a xs)(h':SqB X.K b H a ys):xs=ys:=by
 rcases h with ⟨e,h⟩ | ⟨e,h⟩
 ·rcases h' with ⟨e',h'⟩ | ⟨e',h'⟩
  ·exact I.list_inj h h'
  ·rw[e]at e';cases e'
 ·rcases h' with ⟨e',h'⟩ | ⟨e',h'⟩
  ·rw[e]at e';cases e'
  ·exact I.tuple_inj h h'
theorem Inv.turnedN {h':Heap}{t':Nat}{fp:List Addr}(I:Inv X pins σ H s)(k:∀b o,b ∉ fp->s.heap.get? b=some o->h'.get? b=some o)(hf:∀b∈fp,FpOk X pins H b):Inv X pins σ H { s with heap:=h',toks:=t' }:=by
 have nit:∀b u,H b=some u->b ∉ fp:=fun b u e z=>by rw[(hf b z).1]at e;cases e
 refine I.call' (ch:=fp) rfl ⟨fun b o e _ _ hc=>k b o hc e,fun b o e _ _ hc=>⟨o.slots,k b o hc e⟩,fun _ _ _ n _=>n,fun b o e hc=>⟨o,k b o hc e⟩,fun _ _ e=>e,fun _ _ _ e=>e,fun b ps e=>⟨#[],by rw[e];simp⟩⟩ (fun b u e=>?_) I.bare fun b hb=>?_
 ·refine(I.hok b u e).stay (fun c v hc q=>k c v ?_ q) (fun _ q=>q) fun _ _ q=>q;rcases hc with z | z
  ·rw[z];exact nit b u e
  ·exact nit c _ z
 ·obtain⟨_,f1,_,f3,f4,f5⟩:=hf b hb;exact⟨f3,f1,f4,f5⟩
end
theorem Inv.turnedP {X:Cx}{pins:List (Addr×Obj)}{σ:St}{H:Hp}{s:Shared}{h':Heap}{t':Nat}{fp:List Addr}{x y:V}{u v:Value}(I:Inv X pins σ H s)(k:∀b o,b ∉ fp->s.heap.get? b=some o->h'.get? b=some o)(hf:∀b∈fp,FpOk X pins H b)
  (rx:RelV x u) (ry:RelV y v) (pr:IsPair h' s.heap.objs.size u v):Inv X pins σ (upd H s.heap.objs.size (.tup [x,y])) { s with heap:=h',toks:=t' }:=by
 have hn:H s.heap.objs.size=none:=I.hok.fresh (jvK _);have nit:∀b u,H b=some u->b ∉ fp:=fun b u e z=>by rw[(hf b z).1]at e;cases e
 refine I.call' (ch:=fp) rfl ⟨fun b o e _ _ hc=>k b o hc e,fun b o e _ _ hc=>⟨o.slots,k b o hc e⟩,fun b o e n _=>?_,fun b o e hc=>⟨o,k b o hc e⟩,fun b xs e=>?_,fun b o w e=>?_,fun b ps e=>⟨#[],?_⟩⟩ (fun b w e=>?_) I.bare fun b hb=>?_
 ·rw[jaf (jvM (jvG e))];exact n
 ·rw[jaf (jac e hn)];exact e
 ·rw[jaf (jac e hn)];exact e
 ·rw[jaf (jac e hn),e];simp
 ·by_cases hb:b=s.heap.objs.size
  ·subst hb;rw[jan]at e;cases e;exact⟨by rw[sizeLine_eq];show 2<=16777216;decide,[u,v],.cons rx (.cons ry .nil),_,pr,rfl,_,rfl⟩
  ·rw[jaf hb]at e;refine(I.hok b w e).stay (fun c v hc q=>k c v ?_ q) (fun c q=>?_) fun c ts q=>?_
   ·rcases hc with z | z
    ·rw[z];exact nit b w e
    ·exact nit c _ z
   ·rw[jaf (jac q hn)];exact q
   ·rw[jaf (jac q hn)];exact q
 ·obtain⟨_,f1,_,f3,f4,f5⟩:=hf b hb;exact⟨f3,f1,f4,f5⟩
structure Zi (b1 b2:Bool)(h:Heap)(z TI TO i1 i2 l1 l2:Addr)(k:Nat)(f:Value):Prop where
 zi:IsZip h z TI TO f
 ti:IsPair h TI (.ref i1) (.ref i2)
 to_:∃a b,IsPair h TO a b
 s1:(b1=true/\h.IsListIter i1 l1 k)\/(b1=false/\h.IsTupleIter i1 l1 k)
 s2:(b2=true/\h.IsListIter i2 l2 k)\/(b2=false/\h.IsTupleIter i2 l2 k)
section
variable {b1 b2:Bool}{h h':Heap}{z TI TO i1 i2 l1 l2:Addr}{k:Nat}{f:Value}{xs ys:Array Value}
theorem Zs.zi' (S:Zs b1 b2 h z TI TO i1 i2 l1 l2 k xs ys f):Zi b1 b2 h z TI TO i1 i2 l1 l2 k f:=⟨S.zi,S.ti,S.to_,S.s1.imp (fun q=>⟨q.1,q.2.1⟩) (fun q=>⟨q.1,q.2.1⟩),S.s2.imp (fun q=>⟨q.1,q.2.1⟩) (fun q=>⟨q.1,q.2.1⟩)⟩
theorem jnZ {b:Bool}{it l:Addr}(q:(b=true/\h.IsListIter it l k)\/(b=false/\h.IsTupleIter it l k))(S:Sq b h l xs):Sit b h it l k xs:=by
 rcases q with ⟨e,q⟩ | ⟨e,q⟩
 ·rcases S with ⟨e',S⟩ | ⟨e',S⟩
  ·exact .inl ⟨e,q,S⟩
  ·rw[e]at e';cases e'
 ·rcases S with ⟨e',S⟩ | ⟨e',S⟩
  ·rw[e]at e';cases e'
  ·exact .inr ⟨e,q,S⟩
theorem Zi.zs (S:Zi b1 b2 h z TI TO i1 i2 l1 l2 k f)(S1:Sq b1 h l1 xs)(S2:Sq b2 h l2 ys):Zs b1 b2 h z TI TO i1 i2 l1 l2 k xs ys f:=⟨S.zi,S.ti,S.to_,jnZ S.s1 S1,jnZ S.s2 S2⟩
theorem Zi.at (S:Zi b1 b2 h z TI TO i1 i2 l1 l2 k f)(q:∀b∈[z,TI,TO,i1,i2],∀o,h.get? b=some o->h'.get? b=some o):Zi b1 b2 h' z TI TO i1 i2 l1 l2 k f:=by
 obtain⟨zi,ti,⟨a,b,to_⟩,s1,s2⟩:=S;refine⟨q z (by simp) _ zi,q TI (by simp) _ ti,⟨a,b,q TO (by simp) _ to_⟩,?_,?_⟩
 ·rcases s1 with ⟨e,o,r1,r2⟩ | ⟨e,o,r1,r2⟩
  ·exact .inl ⟨e,o,q i1 (by simp) o r1,r2⟩
  ·exact .inr ⟨e,o,q i1 (by simp) o r1,r2⟩
 ·rcases s2 with ⟨e,o,r1,r2⟩ | ⟨e,o,r1,r2⟩
  ·exact .inl ⟨e,o,q i2 (by simp) o r1,r2⟩
  ·exact .inr ⟨e,o,q i2 (by simp) o r1,r2⟩
theorem jey {b:Bool}{it l:Addr}(q:(b=true/\h.IsListIter it l k)\/(b=false/\h.IsTupleIter it l k)):∃o,h.get? it=some o/\∀v,o.data≠.cell v:=by
 rcases q with ⟨_,o,r1,_,r2⟩ | ⟨_,o,r1,_,r2⟩ <;> exact⟨o,r1,fun v z=>by rw[r2]at z;cases z⟩
end
theorem jmd {P:Program}{w:World}{K:PySem.W.Frag}{es:List Expr}{n:Nat}{pos:Pos}{b1 b2:Bool}{z TI TO i1 i2 l1 l2:Addr}(D:ZipApart z TI TO i1 i2 l1 l2) :
  Turn P w K (.Tuple es n pos) (Itz K b1 b2 l1 l2) [z,TI,TO,i1,i2] z (fun i h=>Zi b1 b2 h z TI TO i1 i2 l1 l2 i .none) where
 mem:=by simp
 obj:=fun i h st b hb=>by
  obtain⟨zi,ti,⟨a,c,to_⟩,s1,s2⟩:=st;simp only[ju8,jvw,or_false]at hb;rcases hb with rfl | rfl | rfl | rfl | rfl
  ·exact⟨_,zi,fun v q=>by simp at q⟩
  ·exact⟨_,ti,fun v q=>by simp at q⟩
  ·exact⟨_,to_,fun v q=>by simp at q⟩
  ·exact jey s1
  ·exact jey s2
 keep:=fun i h h' st k=>st.at k
 item:=by
  intro X hP hw hK hc i pins s σ H E I hf st hg;subst hP hw hK;obtain⟨xs,ys,x,y,q1,q2,hx,hy⟩:=hg;obtain⟨as,r1,S1,_⟩:=I.sqb q1;obtain⟨bs,r2,S2,_⟩:=I.sqb q2;obtain⟨u1,hu1,ru1⟩:=r1.get hx;obtain⟨u2,hu2,ru2⟩:=r2.get hy;refine jio D (st.zs S1 S2) (x:=u1) (y:=u2) (by simpa using hu1) (by simpa using hu2) fun h1 st1 pr kp=>⟨_,rfl,?_⟩
  refine wpAny_letOwnedTupleGo_zip st1.zi fun h2 zi2 sb2=>?_;have zlt:z < s.heap.objs.size:=jvG st.zi;have kp2:∀b o,b ∉ [z,TI,TO,i1,i2]->s.heap.get? b=some o->h2.get? b=some o:=fun b o hb e=>by
   simp only[ju8,jvw,or_false,not_or]at hb;exact sb2.extBut b o hb.1 (kp b o hb.1 hb.2.2.1 hb.2.2.2.1 hb.2.2.2.2 e)
  have pr2:IsPair h2 s.heap.objs.size u1 u2:=sb2.extBut _ _ (Nat.ne_of_gt zlt) pr;have hn:H s.heap.objs.size=none:=I.hok.fresh (jvK _);have I3:Inv X pins σ (upd H s.heap.objs.size (.tup [x,y])) { s with heap:=h2 }:=I.turnedP (t':=s.toks) kp2 hf ru1 ru2 pr2
  have fin:∀b∈[z,TI,TO,i1,i2],b < s.heap.objs.size:=fun b hb=>by
   obtain⟨zi,ti,⟨a,c,to_⟩,s1,s2⟩:=st;simp only[ju8,jvw,or_false]at hb;rcases hb with rfl | rfl | rfl | rfl | rfl
   ·exact jvG zi
   ·exact jvG ti
   ·exact jvG to_
   ·obtain⟨o,e,_⟩:=jey s1;exact jvG e
   ·obtain⟨o,e,_⟩:=jey s2;exact jvG e
  have st2:Zi b1 b2 h2 z TI TO i1 i2 l1 l2 (i + 1) .none:=by
   obtain⟨_,ti,⟨a,c,to_⟩,s1,s2⟩:=st1.zi';refine⟨zi2,sb2.extBut _ _ D.TIz ti,⟨a,c,sb2.extBut _ _ D.TOz to_⟩,?_,?_⟩
   ·rcases s1 with ⟨e,o,r1,r2⟩ | ⟨e,o,r1,r2⟩
    ·exact .inl ⟨e,o,sb2.extBut _ _ D.i1z r1,r2⟩
    ·exact .inr ⟨e,o,sb2.extBut _ _ D.i1z r1,r2⟩
   ·rcases s2 with ⟨e,o,r1,r2⟩ | ⟨e,o,r1,r2⟩
    ·exact .inl ⟨e,o,sb2.extBut _ _ D.i2z r1,r2⟩
    ·exact .inr ⟨e,o,sb2.extBut _ _ D.i2z r1,r2⟩
  refine⟨.ref s.heap.objs.size,_,I3,rfl,⟨_,x,y,rfl,hn,rfl,fun xs' q=>?_,fun ys' q=>?_⟩,st2,fun b hb=>?_⟩
  ·rw[I.sqb_inj q q1];exact hx
  ·rw[I.sqb_inj q q2];exact hy
  ·rw[jaf (jvM (fin b hb))];exact(hf b hb).1
 done:=by
  intro X hP hw hK hc i pins s σ H E I hf st hg;subst hP hw hK;obtain⟨xs,ys,q1,q2,hl⟩:=hg;obtain⟨as,r1,S1,_⟩:=I.sqb q1;obtain⟨bs,r2,S2,_⟩:=I.sqb q2;have e1:=r1.length;have e2:=r2.length;refine jip (I.ok.hd hc) D (st.zs S1 S2) ?_ fun h' kp=>⟨rfl,I.turnedN (t':=s.toks) (fun b o hb e=>?_) hf⟩
  ·rcases hl with hl | hl
   ·exact .inl (by simp;omega)
   ·exact .inr (by simp;omega)
  ·simp only[ju8,jvw,or_false,not_or]at hb;exact kp b o hb.1 hb.2.2.1 hb.2.2.2.1 hb.2.2.2.2 e
 self:=fun _ _ _ _ _ st h=>wpAny_pyIter_zip st.zi h
noncomputable def juG (K:PySem.W.Frag)(ta:TA):TI:=fun σ H R=>ta σ H fun vs H1=>∃l1 l2 b1 b2 xs ys,vs=[.ref l1,.ref l2]/\SqB K b1 H1 l1 xs/\SqB K b2 H1 l2 ys/\(xs.length<=sizeLine->ys.length<=sizeLine->R (Itz K b1 b2 l1 l2) H1)
theorem jrq {X:Cx}{es:List Expr}{n:Nat}{pos':Pos}{a b:Expr}{ta:TA}{p pos:Pos}(hg:Gl X "zip")(hm:X.mg "zip"=none)(ha:PA X [a,b] ta)(hs:starEach [a,b] X.env=(false,eval a X.env)::starEach [b] X.env)(hs2:(backTo pos (starEach [b] X.env)).any (·.1)=false) :
  PI X (.Tuple es n pos') (.Call (.Name "zip" p) [a,b] [] pos) (juG X.K ta):=by
 intro pins s σ H R I h;have hv:bootBuiltins "zip"=some (.type "zip"):=by decide +kernel
 refine wpAny_Call_Name_kw (jfj I hg hm hv ?_ (by decide) (by decide))
 refine PyProof.Rows.callWith_type1 (thn (ha pos pins s σ H _ I h) fun us s1 ⟨vs,H1,I1,r1,q1⟩=>?_) hs hs2;obtain⟨l1,l2,b1,b2,xs,ys,rfl,q1,q2,q⟩:=q1;cases r1 with
 |cons r rr=>
  cases rr with
  |cons r' rr=>
   cases rr;cases r;cases r';obtain⟨as,v1,S1,z1⟩:=I1.sqb q1;obtain⟨bs,v2,S2,z2⟩:=I1.sqb q2;refine jmc S1 S2 fun h' st kp=>?_;refine wpAny_pyIter_zip st.zi ?_;have n1:l1 < s1.heap.objs.size:=by
    rcases S1 with ⟨_,o,e,_⟩ | ⟨_,o,e,_⟩ <;> exact jvG e
   have n2:l2 < s1.heap.objs.size:=by
    rcases S2 with ⟨_,o,e,_⟩ | ⟨_,o,e,_⟩ <;> exact jvG e
   refine⟨_,_,_,_,H1,rfl,I1.kept (t':=s1.toks) kp,jmd (zipApart_new n1 n2),st.zi',fun b hb=>?_,q z1 z2⟩;have hb':s1.heap.objs.size<=b:=by
    simp only[ju8,jvw,or_false]at hb;rcases hb with rfl | rfl | rfl | rfl | rfl
    ·exact Nat.le_add_right _ _
    ·exact Nat.le_add_right _ _
    ·exact Nat.le_add_right _ _
    ·exact jvK _
    ·exact Nat.le_add_right _ _
   exact I1.fpOk hb' (I1.hok.fresh hb')
end L2
namespace L2
open PySem PySem.Spec PyProof.Rows
noncomputable def FlyA (B:Heap)(l:List Env)(e:Addr)(cls a0:Value)(h:Heap):Prop:=∃fl,B.StaysIn h/\B.get? e=none/\h.FunFrames B l/\h.TracedAtW B e cls a0 fl
section
variable {B h:Heap}{l:List Env}{e:Addr}{cls a0:Value}
theorem FlyA.of (x:Heap.FlyingW B l e cls a0 h):FlyA B l e cls a0 h:=⟨.none,x⟩
theorem FlyA.held {L:Addr}(x:Heap.HeldW B l e cls a0 L h):FlyA B l e cls a0 h:=⟨_,x⟩
theorem FlyA.stays (x:FlyA B l e cls a0 h):B.StaysIn h:=let ⟨_,k,_⟩:=x;k
theorem FlyA.new (x:FlyA B l e cls a0 h):B.get? e=none:=let ⟨_,_,k,_⟩:=x;k
end
section
variable {M:Model}{A:Around}{E:Value->Shared->Prop}{s:Shared}{B:Heap}{e:Addr}{cls a0:Value}
theorem jho {env env':Env}{outer:List Env}{L:Addr}{Q:Unit->Shared->Prop}(hfr:A.frames=some (env::outer))(hf:env.frame=some L)(hf':env'.frame=some L)(x:FlyA B (env::outer) e cls a0 s.heap)
  (hQ:∀h',Heap.HeldW B (env::outer) e cls a0 L h'->s.heap.UpToSlots h'->Q () { s with heap:=h' }):wpAny M A (noteFrame (.ref e) env') Q E s:=by
 have ee:noteFrame (.ref e) env'=noteFrame (.ref e) env:=by
  unfold noteFrame PySem.frameOf;rw[hf,hf']
 rw[ee];obtain⟨fl,hb,hn,hl,ht⟩:=x;by_cases hfl:(fl == rawInt L)=true
 ·have hfl:fl=rawInt L:=by simpa using hfl
  subst hfl;exact wpAny_noteFrame_againW hf ht (hQ s.heap ⟨hb,hn,hl,ht⟩ (Heap.UpToSlots.refl _))
 ·obtain⟨oe,vs,T,oT,ts,he,⟨hcls,h0⟩,hd,h1,hnT,hTe,hT,hdT,h3⟩:=ht;subst hcls;unfold noteFrame;simp only[hf];refine jvx (jvD he hd h1 ?_);rw[if_pos (show (Value.ref T != Value.none)=true from by simp)]
  refine jvx (jvD hT hdT h3 ?_);rw[if_neg hfl];refine jvx (wpAny_setField hT hdT (Array.getElem?_eq_some_iff.mp h3).1 ?_);have other:∀b,b≠T->(s.heap.update T (Obj.mapFields (·.setIfInBounds 3 Value.none))).get? b=s.heap.get? b:=fun b hb=>jvJ _ _ (Ne.symm hb);have noRec:∀b o,s.heap.get? b=some o->(∀vs,o.data≠.fields vs)->b≠T:=fun b o hb hnf q=>by
   rw[q,hT]at hb;injection hb with hb;subst hb;exact hnf ts hdT
  exact wpAny_entryW hfr (hl.of_keeps fun b o hb hnf=>⟨o,(other b (noRec b o hb hnf)).trans hb,rfl⟩) hf ((other e (Ne.symm hTe)).trans he)
   (fun b o hbo=>(other b fun q=>by rw[q,hnT]at hbo;cases hbo).trans (hb b o hbo)) hn hd (Array.getElem?_eq_some_iff.mp h1).1 h0
   fun h' ⟨x1,x2,x3,x4⟩=>hQ h' ⟨x1,hn,x2,x3⟩ fun b o hb hnf=>x4 b o ((other b (noRec b o hb hnf)).trans hb) hnf
theorem jme {l:List Env}{w:String}{env':Env}{Q:Value->Shared->Prop}(x:FlyA B l e cls a0 s.heap)(hE:∀h',FlyA B l e cls a0 h'->s.heap.UpToSlots h'->E (.ref e) { s with heap:=h' }):wpAny M A (PySem.passOn w (.ref e) env':Sem Value) Q E s:=by
 obtain⟨fl,hb,hn,hl,oe,vs,T,oT,ts,he,hc,hd,h1,hnT,hTe,hT,hdT,h3⟩:=x;have hsz3:3 < ts.size:=(Array.getElem?_eq_some_iff.mp h3).1;have other:∀b,b≠T->(s.heap.update T (Obj.mapFields (·.setIfInBounds 3 (env'.frame.elim Value.none fun f=>rawInt f)))).get? b=s.heap.get? b:=
  fun b hb=>jvJ _ _ (Ne.symm hb)
 have noRec:∀b o,s.heap.get? b=some o->(∀vs,o.data≠.fields vs)->b≠T:=fun b o hb hnf q=>by
  rw[q,hT]at hb;injection hb with hb;subst hb;exact hnf ts hdT
 unfold PySem.passOn;refine jvx (jvD he hd h1 ?_);rw[if_neg (show ¬ ((Value.ref T == Value.none)=true)from by simp)]
 unfold setFlight;refine jvx (jvx (jvD he hd h1 ?_));rw[if_pos (show (Value.ref T != Value.none)=true from by simp)]
 refine wpAny_setField hT hdT hsz3 (wpAny_throw (hE _ ⟨env'.frame.elim Value.none fun f=>rawInt f,fun b o hbo=>(other b fun q=>by rw[q,hnT]at hbo;cases hbo).trans (hb b o hbo),hn,
  hl.of_keeps fun b o hb hnf=>⟨o,(other b (noRec b o hb hnf)).trans hb,rfl⟩,
  oe,vs,T,_,_,(other e (Ne.symm hTe)).trans he,hc,hd,h1,hnT,hTe,jvI _ hT (Obj.isFreed_of_fields (Obj.data_mapFields hdT _)),Obj.data_mapFields hdT _,by simp[hsz3]⟩
  fun b o hb hnf=>⟨o.slots,(other b (noRec b o hb hnf)).trans hb⟩))
theorem jhp {C:Addr}{h h':Heap}:∀{l:List Env},h.FunFrames B l->C ∉ l.filterMap (·.frame)->Heap.SameBut C h h'->h'.FunFrames B l
 |[],_,_,_=>trivial
 |env::r,⟨k,⟨L,o,hf,hB,ho,hd⟩,t⟩,hC,sb=>by
  rw[jvk,hf]at hC;exact⟨k,⟨L,o,hf,hB,(sb.2 L fun z=>hC (by simp[z])).trans ho,hd⟩,jhp t (fun z=>hC (ju6 _ z)) sb⟩
theorem FlyA.but {l:List Env}{C:Addr}{h h':Heap}{m:Str->Option Value}(x:FlyA B l e cls a0 h)(hn:h.Ns C m)(hB:B.get? C=none)(hC:C ∉ l.filterMap (·.frame))(sb:Heap.SameBut C h h'):FlyA B l e cls a0 h':=by
 obtain⟨fl,k1,k2,k3,oe,vs,T,oT,ts,he,hc,hd,h1,hnT,hTe,hT,hdT,h3⟩:=x;obtain⟨oC,es,ep,hoC,hdC,_⟩:=hn;have ne:∀{b:Addr}{o:Obj}{ws:Array Value},h.get? b=some o->o.data=.fields ws->b≠C:=fun {b o ws} q1 q2 z=>by
  rw[z,hoC]at q1;cases q1;rw[hdC]at q2;cases q2
 exact⟨fl,fun b o q=>(sb.2 b fun z=>by rw[z,hB]at q;cases q).trans (k1 b o q),k2,jhp k3 hC sb,oe,vs,T,oT,ts,(sb.2 e (ne he hd)).trans he,hc,hd,h1,hnT,hTe,(sb.2 T (ne hT hdT)).trans hT,hdT,h3⟩
end
end L2
namespace L2
open PySem PySem.Spec PyProof.Rows
open AutoSeq1 (wpAny_loadPart')
noncomputable abbrev eN (h:Heap)(b:Bool)(l:Addr):Heap:=(h.push (itO b l)).push { cls:=.type "enumerate",data:=.fields #[.none,.bool false,.ref h.objs.size,rawInt 0,.none,.none] }
structure Ei (b:Bool)(h:Heap)(e it l:Addr)(k:Nat):Prop where
 en:∃old,IsEnum h e it k old
 s1:(b=true/\h.IsListIter it l k)\/(b=false/\h.IsTupleIter it l k)
end L2
namespace L2
open PySem PySem.Spec PyProof.Rows
open Builtin
theorem jdo (l:Addr)(items:Array Value)(n:Nat)(d:Option Addr)(sl:Array (Option Value))(b:Bool)(hc2:¬Builtin.List.listTooLong (items.size * (if b=true then (1:Int)else 0).toNat)=true)(hc1:¬items.size * (if b=true then (1:Int)else 0).toNat > (2 ^ 63 - 1) / 8) :
  Meets (Builtin.«list.__mul__» ⟨[.ref l,.bool b],[]⟩) (fun _ R s=>s.heap.get? l=some { cls:=.type "list",dict:=d,data:=.seq items n,slots:=sl }/\R (.ok (.ret (Value.ref s.heap.objs.size))) { s with heap:=s.heap.push { cls:=Value.type "list",data:=Data.seq (List.foldl (fun x1 x2=>x1++x2) #[] (List.replicate (if items.isEmpty=true then 0 else (if b=true then (1:Int)else 0).toNat) items)) },toks:=s.toks }):=
 .of_wp fun prog w A R s h=>by
  obtain⟨hp,g,d,tk,os⟩:=s;obtain⟨hl,h⟩:=h;have hsz:=AutoListH.joined_fits hc2;have hc0:¬(!Builtin.List.listFitsIndex (if b=true then (1:Int)else 0))=true:=by cases b <;> decide
  wp_walk;refine jvz (decide_eq_false (Nat.not_lt.mpr hsz)) ?_;wp_walk;exact⟨_,rfl,h⟩
theorem jbW (b:Bool)(l:Addr)(items:Array Value)(n:Nat)(d:Option Addr)(sl:Array (Option Value)) :
  Meets (Builtin.«int.__rmul__» ⟨[.bool b,.ref l],[]⟩) (fun _ R s=>s.heap.get? l=some { cls:=.type "list",dict:=d,data:=.seq items n,slots:=sl }/\R (.ok (.ret Value.notImplemented)) s):=
 .of_wp fun prog w A R s h=>by obtain⟨hp,g,d,tk,os⟩:=s;obtain⟨hl,h⟩:=h;wp_walk;exact⟨_,rfl,h⟩
theorem jo4 {X:Cx}:OpR X (binaryOp .Mult) (fun x y H Q=>∃l b xs,x=.ref l/\y=.bl b/\SqL X.K H l xs/\xs.length<=sizeLine/\∀p,H p=none->Q (.ref p) (upd H p (.lst (if b then xs else [])))):=by
 intro pins s σ H x y v u Q I rx ry h;obtain⟨l,b,xs,rfl,rfl,hH,hz,q⟩:=h;cases rx;cases ry;obtain⟨its,r,⟨⟨cls,dd,data,sl⟩,n,e,hc,hdd,hd⟩,_⟩:=I.list hH;simp only at hc hd;subst hc hd;have hl:=r.length;have hlen:its.toArray.size * (if b=true then (1:Int)else 0).toNat<=sizeLine:=by
  rw[ju9,<-hl];cases b <;> simp <;> first | exact hz | skip
 have hcap:¬ its.toArray.size * (if b=true then (1:Int)else 0).toNat > (2 ^ 63 - 1) / 8:=by
  have:(sizeLine:Nat)<=(2 ^ 63 - 1) / 8:=by decide
  omega
 have hlong:¬ Builtin.List.listTooLong (its.toArray.size * (if b=true then (1:Int)else 0).toNat)=true:=by
  rw[jl6 hlen];exact jvR
 have hnew:List.foldl (fun x1 x2=>x1++x2) #[] (List.replicate (if its.toArray.isEmpty=true then 0 else (if b=true then (1:Int)else 0).toNat) its.toArray)=(if b then its else []).toArray:=by
  cases b with
  |false=>simp
  |true=>cases its with
   |nil=>simp
   |cons a r'=>simp
 refine wpAny_binaryOp_repeat_ref (T:="list") (U:="bool") (by decide) ⟨_,e,rfl⟩ (fun s'=>rfl) noFill_list_mul F.fills_bool_mul F.slot_bool_rmul repeat_list F.slot_bool_index.lookup
  (call_meets F.slot_bool_rmul rfl F.entry_int_rmul (F.args_int_rmul_2 _ _) (jbW b l its.toArray n dd sl)
   ⟨e,rfl,⟨_,e,rfl⟩,call_meets F.slot_list_mul ⟨_,e,rfl⟩ F.entry_list_mul (F.args_list_mul_2 _ _) (jdo l its.toArray n dd sl b hlong hcap) ⟨e,?_⟩⟩)
 rw[hnew];refine⟨.ref _,_,I.lnew (t':=s.toks) (ys:=if b then xs else []) ?_ ?_,rfl,q _ I.fresh⟩
 ·cases b <;> first | exact r | exact .nil
 ·cases b <;> first | exact hz | exact Nat.zero_le _
end L2
namespace L2
open PySem PySem.Spec PyProof.Rows
section
variable {X:Cx}
theorem jrr:SlR X (fun x lo hi H Q=>∃z,x=.str z/\z.length<=sizeLine/\Q (.str (Txt.slice z lo hi)) H):=by
 intro pins s σ H x v vl vu lo hi sl Q I rx hs pl pu h;obtain⟨z,rfl,hz,q⟩:=h;obtain⟨t,rfl⟩:=rx;have fin:∀t' k,EP X pins σ Q (.str (Txt.slice z lo hi) t') { s with toks:=k }:=fun t' k=>⟨.str _,H,I.tok k,⟨t',rfl⟩,q⟩
 refine⟨"str",_,F.slot_str_getitem.lookup,typeIs_str _ _ _,?_⟩;have le:=jvN (Txt.slice_le z lo hi) hz;cases pl with
 |none=>
  cases pu with
  |none=>exact wpAny_getItem_str_slice (l:=none) (u:=none) (st:=none) hs rfl (post_val_or_str ⟨le,fin⟩)
  |int j u=>exact wpAny_getItem_str_slice (l:=none) (u:=some (j,u)) (st:=none) hs rfl (post_val_or_str ⟨le,fin⟩)
 |int i r=>
  cases pu with
  |none=>exact wpAny_getItem_str_slice (l:=some (i,r)) (u:=none) (st:=none) hs rfl (post_val_or_str ⟨le,fin⟩)
  |int j u=>exact wpAny_getItem_str_slice (l:=some (i,r)) (u:=some (j,u)) (st:=none) hs rfl (post_val_or_str ⟨le,fin⟩)
end
noncomputable def Itx (z:Str):It:=⟨fun i _=>i < z.cps.size,fun i H x H'=>H'=H/\∃c,z.cps[i]?=some c/\x=.str ⟨#[c]⟩,fun i _=>i=z.cps.size⟩
theorem jfu {P:Program}{w:World}{K:PySem.W.Frag}{tg:Expr}{it:Addr}{z:Str}{t:Tok}{ty:String}
  (W:∀A':Around,A'.handled=none->Walks P w A' it [it] [it] z.cps.size (SignAt z) (fun i h=>h.IsStrIter it ty z t i))
  (hS:∀(A:Around) (i:Nat) (s:Shared) (Q:Value->Shared->Prop) (E:Value->Shared->Prop),s.heap.IsStrIter it ty z t i->Q (.ref it) s->wpAny (model P w) A (pyIter (.ref it)) Q E s)
  (hn:["enumerate","zip","dict_itemiterator","dict_reverseitemiterator","odict_iterator","itertools.zip_longest","itertools.pairwise"].contains ty=false) :
  Turn P w K tg (Itx z) [it] it (fun i h=>h.IsStrIter it ty z t i) where
 mem:=by simp
 obj:=fun i h st b hb=>by
  have e:b=it:=by simpa using hb
  subst e;obtain⟨o,e,c,d⟩:=st;exact⟨o,e,fun v z=>by rw[d]at z;cases z⟩
 keep:=fun i h h' st k=>let ⟨o,e,r⟩:=st;⟨o,k it (by simp) o e,r⟩
 item:=by
  intro X hP hw hK hc i pins s σ H E I hf st hg;subst hP hw hK;obtain⟨f0,f1,f2,f3,f4,f5⟩:=hf it (by simp)
  refine(W X.A (I.ok.hd hc)).item i s _ _ hg st fun v h' tk hv st' kk=>?_;obtain⟨c,u,hx,rfl⟩:=hv;have I1:Inv X pins σ H { s with heap:=h',toks:=tk }:=I.turned (fun b o hb e=>kk b o (by simpa using hb) e) f0 f1 f3 f4 f5
  obtain⟨o,e,oc,d⟩:=id st';exact⟨_,rfl,jlY (s:={ s with heap:=h',toks:=tk }) e oc d hn ⟨.str ⟨#[c]⟩,H,I1,⟨u,rfl⟩,⟨rfl,c,hx,rfl⟩,st',fun b hb=>(hf b hb).1⟩⟩
 done:=by
  intro X hP hw hK hc i pins s σ H E I hf st hg;subst hP hw hK;obtain⟨f0,f1,f2,f3,f4,f5⟩:=hf it (by simp)
  have hg:i=z.cps.size:=hg;subst hg;exact(W X.A (I.ok.hd hc)).done s _ _ st fun h' tk eb=>⟨rfl,I.turned (fun b o hb e=>eb b o (by simpa using hb) e) f0 f1 f3 f4 f5⟩
 self:=hS
section
variable {X:Cx}
theorem jmf:MtR X "str.count" (fun x xs H Q=>∃z y,x=.str z/\xs=[.str y]/\Q (.int (Txt.count z y)) H):=by
 intro pins s σ H x xs v us Q I rx rs h;obtain⟨z,y,rfl,rfl,q⟩:=h;obtain⟨t,rfl⟩:=rx;obtain⟨_,rfl,t',rfl⟩:=jbV rs;exact SC.count ⟨.int _,H,I.tok _,⟨_,rfl⟩,q⟩
theorem jfv:∀{l:List (Str×Tok)}{ys:List Str},l.map (·.1)=ys->Vals (ys.map V.str) (strValues l)
 |[],_,rfl=>.nil
 |(x,t)::l,_,rfl=>.cons ⟨t,rfl⟩ (jfv (l:=l) rfl)
theorem jjQ:∀{ys:List Str}{us:List Value},Vals (ys.map V.str) us->StrsAre us ys
 |[],us,r=>by cases r;exact .nil
 |y::ys,us,r=>by
  cases r with
  |cons r1 r2=>
   obtain⟨t,rfl⟩:=r1;exact .cons y t (jjQ r2)
open Builtin.Str in
theorem jmg:MtR X "str.split" (fun x xs H Q=>∃z y,x=.str z/\xs=[.str y]/\(y.length == 0)=false/\z.length<=sizeLine/\(Txt.split z y).length<=sizeLine/\∀p,H p=none->Q (.ref p) (upd H p (.lst ((Txt.split z y).map V.str)))):=by
 intro pins s σ H x xs v us Q I rx rs h;obtain⟨z,y,rfl,rfl,hy,hz,hl,q⟩:=h;obtain⟨t,rfl⟩:=rx;obtain⟨_,rfl,u,rfl⟩:=jbV rs;have fin:∀(l:List (Str×Tok)) (k:Nat),l.map (·.1)=Txt.split z y->EP X pins σ Q (.ref s.heap.objs.size) { s with heap:=s.heap.push { cls:=.type "list",data:=.seq (strValues l).toArray },toks:=k }:=fun l k e=>
  ⟨.ref _,_,I.lnew (t':=k) (jfv e) (by rw[jve];exact hl),rfl,q _ I.fresh⟩
 cases h1:(decide (z.length < y.length) || decide (strKind z < strKind y))
 ·cases hf:(occurrences z y 0 z.length (z.length + 1)).isEmpty
  ·have e:Txt.split z y=partsBetween z (occurrences z y 0 z.length (z.length + 1)) y.length:=(if_neg (ne_true_of_eq_false h1)).trans (if_neg (ne_true_of_eq_false hf));refine call_meets PySem.F.slot_str_split (typeIs_str _ _ _) PySem.F.entry_str_split (PySem.F.args_str_split_2 _ _) (meets_str_split_sep z y t u h1 hy hf hz (by rw[<-e];exact hl)) ?_
   show wants _ _ _ { s with toks:=_,heap:=s.heap.push { cls:=.type "list",data:=.seq (strsFrom s.toks (partsBetween z (occurrences z y 0 z.length (z.length + 1)) y.length)).toArray } }
   rw[strsFrom_eq];exact fin (numbered s.toks _) _ ((numbered_texts _ _).trans e.symm)
  ·exact call_meets PySem.F.slot_str_split (typeIs_str _ _ _) PySem.F.entry_str_split (PySem.F.args_str_split_2 _ _) (meets_str_split_not_found z y t u h1 hy hf)
    (fin [(z,t)] s.toks ((if_neg (ne_true_of_eq_false h1)).trans (if_pos hf)).symm)
 ·exact call_meets PySem.F.slot_str_split (typeIs_str _ _ _) PySem.F.entry_str_split (PySem.F.args_str_split_2 _ _) (meets_str_split_cannot_occur z y t u h1)
   (fin [(z,t)] s.toks (if_pos h1).symm)
theorem jo5:MtR X "str.join" (fun x xs H Q=>∃z p ys,x=.str z/\xs=[.ref p]/\SqL X.K H p (ys.map V.str)/\(ys.map (·.length)).sum + ys.length * z.length<=16777216/\Q (.str (Txt.join z ys)) H):=by
 intro pins s σ H x xs v us Q I rx rs h;obtain⟨z,p,ys,rfl,rfl,hq,hl,q⟩:=h;obtain⟨t,rfl⟩:=rx;obtain⟨_,rfl,rr⟩:=jbV rs;cases rr;obtain⟨its,r,pl,_⟩:=I.list hq;exact join_list pl.isList (jjQ (by simpa using r)) hl fun t' k=>⟨.str _,H,I.tok k,⟨t',rfl⟩,q⟩
theorem jjR:CallR X (.type "str") (fun xs H Q=>∃i,xs=[.int i]/\i.natAbs.log2 < 1920/\Q (.str (Str.ofString (toString i))) H):=by
 intro pins s σ H xs us Q I r h;obtain⟨i,rfl,hi,q⟩:=h;obtain⟨_,rfl,t,rfl⟩:=jbV r;exact PySem.P.str_of_int hi ⟨.str _,H,I.tok _,⟨_,rfl⟩,q⟩
noncomputable def jo6 (X:Cx):List V->Hp->VK->Prop:=fun xs H Q=>∃n:Int,xs=[.int n]/\∀I,H I=none->Q (.ref I) (upd H I (.rng 0 n))
noncomputable def jo7 (X:Cx):List V->Hp->VK->Prop:=fun xs H Q=>∃I n,xs=[.ref I]/\H I=some (.rng 0 n)/\0<=n/\n<=16777216/\∀l,H l=none->Q (.ref l) (upd H l (.lst ((List.range n.toNat).map fun (k:Nat)=>V.int k)))
theorem jjS:CallR X (.type "range") (jo6 X):=by
 intro pins s σ H xs us Q I r h;obtain⟨n,rfl,q⟩:=h;obtain⟨_,rfl,t,rfl⟩:=jbV r;exact call_range_1 ⟨.ref _,_,I.laid (o:=.rng 0 n) (fun b o e=>jvF _ e) (jvK _) ⟨_,_,_,jvH _ rfl⟩,rfl,q _ I.fresh⟩
theorem jdF:∀{xs:List V}{us:List Value},xs.length=us.length->(∀(i:Nat) x,xs[i]?=some x->∃u,us[i]?=some u/\RelV x u)->Vals xs us
 |[],[],_,_=>.nil
 |[],_::_,h,_=>by simp at h
 |_::_,[],h,_=>by simp at h
 |x::xs,u::us,h,k=>by
  obtain⟨u',e,r⟩:=k 0 x rfl;cases e;exact .cons r (jdF (by simpa using h) fun i y hy=>k (i + 1) y hy)
theorem jmh {n:Nat}{acc:Array Value}(h:ItemsOf (fun i v=>∃t,v=Value.int (0 + (i:Int) * 1) t) acc n):Vals ((List.range n).map fun (k:Nat)=>V.int k) acc.toList:=by
 obtain⟨h1,h2⟩:=h;refine jdF ?_ fun i x hx=>?_
 ·simp[h1]
 ·rw[jvb]at hx;cases e:(List.range n)[i]? with
  |none=>rw[e]at hx;cases hx
  |some k=>
   rw[e]at hx;obtain⟨a1,a2⟩:=List.getElem?_eq_some_iff.mp e;rw[List.getElem_range]at a2;subst a2;cases hx;have hi:i < acc.size:=by rw[h1];simpa using a1
   obtain⟨t,e2⟩:=h2 i acc[i] (by simp[hi])
   exact⟨acc[i],by simp[hi],t,by rw[e2];simp⟩
theorem jjT (hc:X.calm=true):CallR X (.type "list") (jo7 X):=by
 intro pins s σ H xs us Q I r h;obtain⟨J,n,rfl,hJ,h0,h1,q⟩:=h;obtain⟨_,rfl,rx⟩:=jbV r;cases rx;obtain⟨t,u,v,e⟩:=I.hok J _ hJ;have hn:Builtin.Range.rangeSize 0 n 1=(n.toNat:Nat):=by rw[rangeSize_one];split <;> omega
 refine call_list_range (n:=n.toNat) (I.ok.hd hc) e (small_one (by omega) (by omega) (by omega) (by omega)) hn (by omega) fun h' tk acc c' kp hS it=>?_
 have hv:=jmh it;refine⟨.ref _,_,I.laid (o:=.lst ((List.range n.toNat).map fun (k:Nat)=>V.int k)) (t':=tk) kp (jvK _) ⟨?_,acc.toList,c',hv,by rw[hS,Array.toArray_toList]⟩,rfl,q _ I.fresh⟩
 rw[jve,List.length_range,sizeLine_eq];omega
theorem jjU:CallR X (.type "int") (fun xs H Q=>∃z n,xs=[.str z]/\PySem.intText? z=some n/\z.length<=640/\Q (.int n) H):=by
 intro pins s σ H xs us Q I r h;obtain⟨z,n,rfl,h1,h2,q⟩:=h;obtain⟨_,rfl,t,rfl⟩:=jbV r;exact PySem.W.KIN.call_text h1 h2 ⟨.int _,H,I.tok _,⟨_,rfl⟩,q⟩
end
end L2
namespace Tx
open PySem
noncomputable def jl (c:Nat):List (List Nat)->List Nat
 |[]=>[]
 |x::r=>x++(match r with | []=>[] | y::r'=>c::jl c (y::r'))
theorem jo8 {a b:Str}(h:a.cps.toList=b.cps.toList):a=b:=congrArg Str.mk (Array.toList_inj.mp h)
theorem jjV (x:Str)(c:Nat):Txt.contains x ⟨#[c]⟩=decide (c∈x.cps.toList):=StrLaws.found_one x c
end Tx
namespace Tx
open PySem
noncomputable abbrev mk (l:List Nat):Str:=⟨l.toArray⟩
theorem jav (l:List Nat):(mk l).length=l.length:=ju9
theorem jjW (a b:List Nat):mk a++mk b=mk (a++b):=by
 show (⟨a.toArray++b.toArray⟩:Str)=_;rw[List.append_toArray]
theorem jc0 (l:List Nat)(k:Nat)(h:k<=l.length):Txt.slice (mk l) (some (k:Int)) none=mk (l.drop k):=by
 have:=StrLaws.sliceText_from (x:=mk l) (i:=(k:Int)) ⟨Int.natCast_nonneg k,by show (k:Int)<=(l.length:Int);omega⟩
 refine Eq.trans (this:StrLaws.sliceText (mk l) (some (k:Int)) none=_) ?_;show mk ((l.drop k).take ((l.length:Int) - k).toNat)=_;rw[List.take_of_length_le (by rw[List.length_drop];omega)]
theorem jmi (l:List Nat)(k:Nat)(h:k<=l.length):Txt.slice (mk l) none (some (k:Int))=mk (l.take k):=by
 have:=StrLaws.sliceText_to (x:=mk l) (j:=(k:Int)) ⟨Int.natCast_nonneg k,by show (k:Int)<=(l.length:Int);omega⟩
 refine Eq.trans (this:StrLaws.sliceText (mk l) none (some (k:Int))=_) ?_;show mk ((l.drop 0).take ((k:Int) - 0).toNat)=_;rw[List.drop_zero,show ((k:Int) - 0).toNat=k by omega]
end Tx
namespace L2
open PySem PySem.Spec PyProof.Rows
noncomputable def SubH (h h':Heap):Prop:=∀b o,h.get? b=some o->h'.get? b=some o
theorem SubH.refl {h:Heap}:SubH h h:=fun _ _ e=>e
theorem SubH.trans {h h1 h2:Heap}(a:SubH h h1)(b:SubH h1 h2):SubH h h2:=fun c o e=>b c o (a c o e)
theorem SubH.push {h:Heap}(o:Obj):SubH h (h.push o):=fun _ _ e=>jvF _ e
structure Itb (prog:Program)(w:World)(A:Around)(it:Value)(T:String)(h:Heap)(n:Nat)(P:Nat->Value->Prop)(wr0:List Addr):Prop where
 nl:T≠"list"
 nt:T≠"tuple"
 ty:∀s:Shared,SubH h s.heap->s.TypeIs it T
 ref:∀a,it=.ref a->a < h.objs.size
 iter:∀(s:Shared) (S:Addr) (Q E:Value->Shared->Prop),SubH h s.heap->h.objs.size<=S->S < s.heap.objs.size ->
  (∀(I:Addr) (fp wr:List Addr) (St:Nat->Heap->Prop) (h':Heap) (tk:Nat) (dr:Drawn),s.toks<=tk->SubH s.heap h'->Walks prog w A I fp wr n P St->St 0 h'->S ∉ fp->(∀b∈wr,b∈wr0\/s.heap.objs.size<=b)->Q (.ref I) { s with heap:=h',toks:=tk,drawn:=dr }) ->
  wpAny (model prog w) A (pyIter it) Q E s
 hint:∀(s:Shared) (Q:Bool->Shared->Prop) (E:Value->Shared->Prop),SubH h s.heap->(∀b tk,s.toks<=tk->Q b { s with toks:=tk })->wpAny (model prog w) A (Builtin.List.listLengthHint it) Q E s
structure Bhd (wr0:List Addr)(S:Addr)(s s':Shared):Prop where
 heap:∀b o,b≠S->b ∉ wr0->s.heap.get? b=some o->s'.heap.get? b=some o
 gens:s'.gens=s.gens
 os:s'.os=s.os
section
variable {prog:Program}{w:World}{A:Around}{it:Value}{T:String}{h:Heap}{n:Nat}{P:Nat->Value->Prop}{wr0:List Addr}
theorem jjX {s:Shared}{R:Result->Shared->Prop}(Y:Itb prog w A.in1 it T h n P wr0)(hh:SubH h s.heap)(hn:n<=sizeLine)(S:Addr)(res:Value)(c₀:Nat)(hS0:h.objs.size<=S)
  (hS:s.heap.get? S=some { cls:=Value.type "list",data:=Data.seq #[] c₀ })
  (hR:∀(s':Shared) (acc':Array Value) (c':Nat),Bhd wr0 S s s'->s'.heap.get? S=some { cls:=Value.type "list",data:=Data.seq acc' c' }->ItemsOf P acc' n->R (Except.ok (Flow.ret res)) s') :
  wpAny (model prog w) A.in1 (Builtin.List.listExtendWith (Value.ref S) it res)
   (fun fin s'=>match fin with
    |Fin.done f=>R (Except.ok f) s'
    |Fin.again c'=>c'.quiet=true/\codeAny (model prog w) A c' R s')
   (fun e s'=>R (Except.error e) s') s:=by
 have hsame:Builtin.List.listSameRef (Value.ref S) it=false:=by
  cases it <;> try rfl
  rename_i a;have:=Y.ref a rfl;simp only[Builtin.List.listSameRef];exact beq_eq_false_iff_ne.mpr (Nat.ne_of_gt (jvL this hS0))
 have htl:(Value.type T == Value.type "list")=false:=by
  rw[beq_eq_false_iff_ne];intro z;injection z with z;exact Y.nl z
 have htt:(Value.type T == Value.type "tuple")=false:=by
  rw[beq_eq_false_iff_ne];intro z;injection z with z;exact Y.nt z
 unfold Builtin.List.listExtendWith;refine jvx (wpAny_typeOf (Y.ty s hh) ?_);rw[hsame,htl,htt];refine jvz rfl ?_;refine jvx (Y.iter s S _ _ hh hS0 (jvG hS) fun I fp wr St h' tk dr htk hsub W hst hSf hwr=>?_);refine jvx (jvC (Y.hint _ _ _ (hh.trans hsub) fun b tk2 htk2=>?_));have hS1:h'.get? S=some { cls:=Value.type "list",data:=Data.seq #[] c₀ }:=hsub S _ hS;have fin:∀(s1:Shared) (c:Nat),s1.gens=s.gens->s1.os=s.os->(∀b o,b≠S->h'.get? b=some o->s1.heap.get? b=some o)->s1.heap.get? S=some { cls:=Value.type "list",data:=Data.seq #[] c } ->
   codeAny (model prog w) A (Code.builtin "list.extend.loop" { pos:=[Value.ref S,Value.ref I,res] }) R s1:=fun s1 c hg ho hk hS2=>by
  refine codeAny_extend_loopS W.toS hn S hSf res n 0 s1 #[] c rfl (Nat.zero_le _) (W.frame 0 h' s1.heap hst fun b hb o e=>hk b o (fun z=>hSf (z ▸ hb)) e) hS2 ⟨rfl,fun j v e=>by simp at e⟩ fun s' acc' c' hm hS' hit=>?_
  refine hR s' acc' c' ⟨fun b o hb hw e=>hm.heap b o ?_ (hk b o hb (hsub b o e)),hm.gens.trans hg,hm.os.trans ho⟩ hS' hit;intro z;rcases List.mem_cons.mp z with z | z
  ·exact hb z
  ·rcases hwr b z with z | z
   ·exact hw z
   ·exact absurd (jvG e) (Nat.not_lt.mpr z)
 have go:∀(s1:Shared) (c:Nat),s1.gens=s.gens->s1.os=s.os->(∀b o,b≠S->h'.get? b=some o->s1.heap.get? b=some o)->s1.heap.get? S=some { cls:=Value.type "list",data:=Data.seq #[] c } ->
   wpAny (model prog w) A.in1 (again (Code.builtin "list.extend.loop" { pos:=[Value.ref S,Value.ref I,res] }))
   (fun fin s'=>match fin with
    |Fin.done f=>R (Except.ok f) s'
    |Fin.again c'=>c'.quiet=true/\codeAny (model prog w) A c' R s')
   (fun e s'=>R (Except.error e) s') s1:=fun s1 c hg ho hk hS2=>jvy ⟨plainId_quiet F.plain_extend_loop _,fin s1 c hg ho hk hS2⟩
 split
 ·refine jvx (wpAny_rule ?_);refine jvx ?_;unfold Builtin.List.listTouch;refine jvx (listUpdate_at hS1 rfl ?_ (by simp[sizeLine_eq]) (by simp[sizeLine_eq]))
  have e1:=jvI (Obj.mapSeq fun x=>x.push Value.none) hS1 rfl;refine listUpdate_at e1 rfl ?_ (by simp[sizeLine_eq]) (by simp[sizeLine_eq])
  have e2:=jvI (Obj.mapSeq fun x=>x.pop) e1 rfl;refine go _ _ rfl rfl (fun b o hb e=>?_) e2;exact(jvJ _ _ (Ne.symm hb)).trans ((jvJ _ _ (Ne.symm hb)).trans e)
 ·exact go _ c₀ rfl rfl (fun b o _ e=>e) hS1
theorem jiq {s:Shared}{Q:List Value->Shared->Prop}{E:Value->Shared->Prop}(Y:Itb prog w A.in1 it T s.heap n P wr0)(hn:n<=sizeLine)
  (hQ:∀(s':Shared) (acc:Array Value),(∀b o,b ∉ wr0->s.heap.get? b=some o->s'.heap.get? b=some o)->s.heap.objs.size<=s'.heap.objs.size->s'.gens=s.gens->s'.os=s.os->ItemsOf P acc n->Q acc.toList s') :
  wpAny (model prog w) A (collect it) Q E s:=by
 unfold collect;refine jvx (wpAny_runValue (codeAny_builtin F.entry_proto_collect ?_));rw[Around.under_plainId F.plain_proto_collect];unfold Builtin.«proto.collect» newList;refine jvx (jvB (jvy ⟨plainId_quiet F.plain_list_iadd _,codeAny_builtin F.entry_list_iadd ?_⟩) (by simp[sizeOk]))
 rw[Around.under_plainId F.plain_list_iadd];unfold Builtin.«list.__iadd__»;show wpAny (model prog w) A.in1 (Builtin.List.listExtendWith (Value.ref s.heap.objs.size) it (Value.ref s.heap.objs.size)) _ _ _;have hS:=jvH s.heap (o:={ cls:=Value.type "list",data:=Data.seq #[] }) rfl;refine jjX (R:=fun r s'=>match r with
   |Except.ok (Flow.ret v)=>wpAny (model prog w) A (match v with
     |Value.ref a=>do
      let __do_lift <-load a
      match __do_lift.data with
       |Data.seq xs epoch=>pure xs.toList
       |x=>unsupported "internal:collect"
     |x=>unsupported "internal:collect") Q E s'
   |Except.ok _=>False
   |Except.error e=>E e s') Y (SubH.push _) hn _ _ _ (jvK _) hS fun s' acc' c' bh hS' hit=>?_
 refine jvx (wpAny_load hS' (jvy ?_));exact hQ s' acc' (fun b o hb e=>bh.heap b o (jvM (jvG e)) hb (jvF _ e)) (Nat.le_of_lt (jvG hS')) bh.gens bh.os hit
theorem jez {s:Shared}{Q E:Value->Shared->Prop}(Y:Itb prog w A.in1.in1.in1 it T s.heap n P wr0)(hn:n<=sizeLine)
  (hQ:∀(s':Shared) (acc:Array Value),(∀b o,b ∉ wr0->s.heap.get? b=some o->s'.heap.get? b=some o)->s.heap.objs.size<=s'.heap.objs.size->s'.gens=s.gens->s'.os=s.os->ItemsOf P acc n ->
   Q (.ref s'.heap.objs.size) { s' with heap:=s'.heap.push { cls:=Value.type "tuple",data:=Data.seq acc } }) :
  wpAny (model prog w) A (call (Value.type "tuple") [it]) Q E s:=by
 refine callType_codes (Q₁:=fun obj s₁=>s₁.TypeIs obj "tuple"/\Q obj s₁) F.called_tuple (F.typeCall_tuple_1 it) F.entry_object_init ?_ fun obj s₁ h₁=>⟨h₁.1,F.args_object_init_2 obj it,object_init_meets F.called_tuple.init.lookup F.called_tuple.made (by decide) prog w A.in1 (wants (fun r s₂=>r=Value.none/\Q obj s₂) E) s₁ ⟨h₁.1,rfl,h₁.2⟩⟩
 refine codeAny_of_tree ?_;refine jvx (jvA (F.newCall_tuple_1 it) (jvy ⟨plainId_quiet F.plain_tuple_new _,codeAny_builtin F.entry_tuple_new ?_⟩));rw[Around.under_plainId F.plain_tuple_new];unfold Builtin.«tuple.__new__»;refine jvx ?_;refine jvy ?_;refine jvz rfl ?_;refine jvx (jvA sub_tuple_self (jvz rfl ?_));refine jvz rfl ?_;refine jvx (jvA madeHere_tuple ?_);refine jvx (jvA init_tuple_lookup (wpAny_ite_true rfl ?_));refine jvx ?_;refine wpAny_ite_true rfl (jvy ?_);refine jvx ?_;unfold checkCount;refine jvz rfl ?_;refine jvz rfl ?_;refine jvy ?_;refine wpAny_ite_true rfl ?_;refine jvx ?_;unfold Builtin.Tuple.tupleIsExact;refine jvx (wpAny_typeOf (Y.ty s SubH.refl) (jvy ?_));refine jvz (by
  rw[decide_eq_false_iff_not];intro z;have z:=beq_iff_eq.mp z;injection z with z
  exact Y.nt z) ?_
 refine jvx (jiq Y hn fun s' acc hk hle hg ho hit=>?_);refine jvx (jvy ?_);refine jvx ?_;unfold Builtin.Tuple.tupleExact;rw[Array.toArray_toList];refine jvB (jvy ?_) (by show acc.size<=sizeLine;rw[hit.1];exact hn)
 exact⟨⟨_,jvH s'.heap rfl,rfl⟩,hQ s' acc hk hle hg ho hit⟩
end
end L2
namespace L2
open PySem PySem.Spec PyProof.Rows
noncomputable def del (H:Hp)(b:Addr):Hp:=fun a=>if a=b then none else H a
theorem jcl {H:Hp}{b a:Addr}(h:a≠b):del H b a=H a:=if_neg h
theorem jmj {H:Hp}{b:Addr}:del H b b=none:=if_pos rfl
theorem jo9 {H:Hp}{b:Addr}{o:HO}(h:H b=none):del (upd H b o) b=H:=by
 funext a
 unfold del upd;by_cases e:a=b
 ·simp[e,h]
 ·simp[e]
section
variable {X:Cx}{pins:List (Addr×Obj)}{σ:St}{H:Hp}{s:Shared}
theorem Inv.gone (I:Inv X pins σ H s){b:Addr}{φ:Heap->Prop}(hb:H b=some (.ext φ))(h0:X.s₀.heap.objs.size<=b){s':Shared}(k:∀c o,c≠b->s.heap.get? c=some o->s'.heap.get? c=some o)(hg:s'.gens=s.gens)(ho:s'.os=s.os):Inv X pins σ (del H b) s':=by
 have ne0:∀c o,X.s₀.heap.get? c=some o->c≠b:=fun c o e=>jvM (jvL (jvG e) h0);have neN:∀c,H c=none->c≠b:=fun c e z=>by rw[z,hb]at e;cases e
 refine⟨I.ok,ho.trans I.os,by rw[hg];exact I.bare,⟨fun c o e n h1 h2=>k c o (ne0 c o e) (I.base.keep c o e n h1 h2),fun c o e n h1 h2=>?_,fun c o e n h1=>?_,fun c o e h1=>?_,fun c xs e=>?_,fun c o u e=>?_,fun c ps e=>?_⟩,?_,fun x c e=>?_,?_,fun x c e=>?_,fun p hp=>?_,fun a o e=>?_,I.len⟩
 ·obtain⟨sl,q⟩:=I.base.slot c o e n h1 h2;exact⟨sl,k c _ (ne0 c o e) q⟩
 ·rw[jcl (ne0 c o e)];exact I.base.free c o e n h1
 ·obtain⟨o',q⟩:=I.base.there c o e h1;exact⟨o',k c _ (ne0 c o e) q⟩
 ·have q:=I.base.tups c xs e;rw[jcl (fun z=>by rw[z,hb]at q;cases q)];exact q
 ·have q:=I.base.frzs c o u e;rw[jcl (fun z=>by rw[z,hb]at q;cases q)];exact q
 ·obtain⟨m,q⟩:=I.base.tbls c ps e;exact⟨m,by rw[jcl (fun z=>by rw[z,hb]at q;cases q)];exact q⟩
 ·obtain⟨m,hn,hl⟩:=I.loc;obtain⟨o,es,ep,e1,e2,e3,e4⟩:=hn;refine⟨m,⟨o,es,ep,k _ _ (neN _ I.free) e1,e2,e3,e4⟩,fun i x v h1 h2 h3=>?_⟩;obtain⟨u,r,lk⟩:=hl i x v h1 h2 h3;refine⟨u,r,lk.imp id fun ⟨h4,c,h5,o,h6⟩=>⟨h4,c,h5,o,k _ _ (neN _ (I.freeC x c h5)) h6.1,h6.2⟩⟩
 ·obtain⟨v,o,h6⟩:=I.cell x c e;exact⟨v,o,k _ _ (neN _ (I.freeC x c e)) h6.1,h6.2⟩
 ·rw[jcl (neN _ I.free)];exact I.free
 ·rw[jcl (neN _ (I.freeC x c e))];exact I.freeC x c e
 ·obtain⟨h1,h2,h3⟩:=I.pin p hp;exact⟨k _ _ (neN _ h2) h1,by rw[jcl (neN _ h2)];exact h2,h3⟩
 ·have hne:a≠b:=fun z=>by rw[z,jmj]at e;cases e
  rw[jcl hne]at e;refine(I.hok a o e).stay (fun c u hc q=>k c u (fun z=>?_) q) (fun c hc=>?_) fun c xs hc=>?_
  ·rcases hc with hc | hc
   ·exact hne (hc.symm.trans z)
   ·rw[z,hb]at hc;cases hc
  ·rw[jcl (fun z=>by rw[z,hb]at hc;cases hc)];exact hc
  ·rw[jcl (fun z=>by rw[z,hb]at hc;cases hc)];exact hc
theorem Inv.track (I:Inv X pins σ H s){a:Addr}{o:HO}(hn:H a=none)(h0:X.s₀.heap.objs.size<=a)(hL:a≠X.env.locals)(hC:∀x c,X.env.cells.lookup x=some c->c≠a)(hP:∀p∈X.pn++pins,p.1≠a)(new:ObjOk X.prog X.w (upd H a o) s.heap a o):Inv X pins σ (upd H a o) s:=by
 have ne0:∀c o,X.s₀.heap.get? c=some o->c≠a:=fun c o e=>jvM (jvL (jvG e) h0);refine⟨I.ok,I.os,I.bare,⟨I.base.keep,I.base.slot,fun c u e n h1=>?_,I.base.there,fun c xs e=>?_,fun c u v e=>?_,fun c ps e=>?_⟩,I.loc,I.cell,?_,fun x c e=>?_,fun p hp=>?_,fun b u e=>?_,I.len⟩
 ·rw[jaf (ne0 c u e)];exact I.base.free c u e n h1
 ·have q:=I.base.tups c xs e;rw[jaf (jac q hn)];exact q
 ·have q:=I.base.frzs c u v e;rw[jaf (jac q hn)];exact q
 ·obtain⟨m,q⟩:=I.base.tbls c ps e;exact⟨m,by rw[jaf (jac q hn)];exact q⟩
 ·rw[jaf (Ne.symm hL)];exact I.free
 ·rw[jaf (hC x c e)];exact I.freeC x c e
 ·obtain⟨h1,h2,h3⟩:=I.pin p hp;exact⟨h1,by rw[jaf (hP p hp)];exact h2,h3⟩
 ·by_cases hb:b=a
  ·subst hb;rw[jan]at e;cases e;exact new
  ·rw[jaf hb]at e;exact(I.hok b u e).stay (fun c v _ q=>q) (fun c q=>by rw[jaf (jac q hn)];exact q) fun c xs q=>by rw[jaf (jac q hn)];exact q
theorem Inv.above (I:Inv X pins σ H s):X.s₀.heap.objs.size<=s.heap.objs.size:=by
 obtain⟨m,hn,_⟩:=I.loc;exact jvN I.ok.above (Nat.le_of_lt hn.lt)
theorem Inv.new (I:Inv X pins σ H s){a:Addr}(ha:s.heap.objs.size<=a):X.s₀.heap.objs.size<=a/\a≠X.env.locals/\(∀x c,X.env.cells.lookup x=some c->c≠a)/\(∀p∈X.pn++pins,p.1≠a)/\H a=none:=by
 refine⟨jvN I.above ha,fun z=>?_,fun x c e z=>?_,fun p hp z=>?_,I.hok.fresh ha⟩
 ·obtain⟨m,hn,_⟩:=I.loc;rw[z]at ha;exact jvO _ (jvL hn.lt ha)
 ·obtain⟨v,o,h6,_⟩:=I.cell x c e;rw[<-z]at ha;exact jvO _ (jvL (jvG h6) ha)
 ·have h6:=(I.pin p hp).1;rw[<-z]at ha;exact jvO _ (jvL (jvG h6) ha)
theorem Inv.goneLaid (I:Inv X pins σ H s){b a:Addr}{φ:Heap->Prop}{o:HO}(hb:H b=some (.ext φ))(h0:X.s₀.heap.objs.size<=b){s':Shared}(k:∀c o,c≠b->s.heap.get? c=some o->s'.heap.get? c=some o)(hg:s'.gens=s.gens)(ho:s'.os=s.os)(ha:s.heap.objs.size<=a)(new:ObjOk X.prog X.w (upd (del H b) a o) s'.heap a o):Inv X pins σ (upd (del H b) a o) s':=by
 obtain⟨n0,n1,n2,n3,n4⟩:=I.new ha;exact(I.gone hb h0 k hg ho).track (by unfold del;split <;> first | rfl | exact n4) n0 n1 n2 n3 new
theorem jjY {its:List Value}{acc:Array Value}(h:ItemsOf (fun i v=>its.toArray[its.toArray.size - 1 - i]?=some v) acc its.toArray.size):acc.toList=its.reverse:=by
 obtain⟨h1,h2⟩:=h;simp only[ju9]at h1 h2;apply List.ext_getElem?;intro i;by_cases hi:i < acc.size
 ·have:=h2 i acc[i] (by simp[hi])
  rw[List.getElem?_reverse (by omega)]
  rw[Array.getElem?_toList,Array.getElem?_eq_getElem hi];simpa using this.symm
 ·rw[jvl (by simp;omega),jvl]
  simp;omega
end
end L2
namespace L2
open PySem PySem.Spec PyProof.Rows
open Builtin Builtin.Str Builtin.Int
section
variable {X:Cx}
end
end L2
namespace RT
open PySem PySem.Spec PyProof.Rows L2
theorem jeA:Manifest.owners.lookup (String.ofList ['d','e','s','r','e','v','e','r'].reverse)=some Manifest.sig_reversed:=by kernel_rfl
theorem slot_next:Slot "reversed" "__next__" "reversed.__next__":=
 .of (owner:="reversed") (n:="__next__") (by rw[typeLookup_type,builtinLookup_eq_fast];kernel_rfl) (by decide +kernel) (by decide +kernel) (by decide +kernel)
  (by first | exact .inl (by decide +kernel) | exact .inr (by decide +kernel)) (by rw[isSubtype_type];kernel_rfl)
theorem jeg:entryFor table "reversed.__next__"=some Builtin.«reversed.__next__»:=entryFor_of_tree (by kernel_rfl)
theorem jfw (a:Value):argsOk "reversed.__next__" ⟨[a],[]⟩:=by
 unfold argsOk;rw[signature?_of (id:="reversed.__next__") (n:=['_','_','t','x','e','n','_','_']) (o:=['d','e','s','r','e','v','e','r']) (by kernel_rfl) jeA];kernel_rfl
theorem jfx:Slot "reversed" "__iter__" "reversed.__iter__":=
 .of (owner:="reversed") (n:="__iter__") (by rw[typeLookup_type,builtinLookup_eq_fast];kernel_rfl) (by decide +kernel) (by decide +kernel) (by decide +kernel)
  (by first | exact .inl (by decide +kernel) | exact .inr (by decide +kernel)) (by rw[isSubtype_type];kernel_rfl)
theorem jjZ (a:Value):argsOk "reversed.__iter__" ⟨[a],[]⟩:=by
 unfold argsOk;rw[signature?_of (id:="reversed.__iter__") (n:=['_','_','r','e','t','i','_','_']) (o:=['d','e','s','r','e','v','e','r']) (by kernel_rfl) jeA];kernel_rfl
theorem jir:entryFor table "reversed.__iter__"=some Builtin.«dict_keyiterator.__iter__»:=
 entryFor_alias (id':="dict_keyiterator.__iter__") (by kernel_rfl) (by first | rfl | decide +kernel | (unfold String.splitOn;simp +decide [String.splitOnAux])) (by decide +kernel) (by kernel_rfl)
theorem slot_hint:Slot "reversed" "__length_hint__" "reversed.__length_hint__":=
 .of (owner:="reversed") (n:="__length_hint__") (by rw[typeLookup_type,builtinLookup_eq_fast];kernel_rfl) (by decide +kernel) (by decide +kernel) (by decide +kernel)
  (by first | exact .inl (by decide +kernel) | exact .inr (by decide +kernel)) (by rw[isSubtype_type];kernel_rfl)
theorem jis:entryFor table "reversed.__length_hint__"=some Builtin.«reversed.__length_hint__»:=entryFor_of_tree (by kernel_rfl)
theorem jj0 (a:Value):argsOk "reversed.__length_hint__" ⟨[a],[]⟩:=by
 unfold argsOk;rw[signature?_of (id:="reversed.__length_hint__") (n:=['_','_','t','n','i','h','_','h','t','g','n','e','l','_','_']) (o:=['d','e','s','r','e','v','e','r']) (by kernel_rfl) jeA];kernel_rfl
theorem jrs:typeLookup (Value.type "tuple") (Str.ofString "__reversed__")=pure none:=by rfl
theorem jrt:typeLookup (Value.type "reversed") (Str.ofString "__len__")=pure none:=by rfl
theorem jmk:isSubtype (Value.type "tuple") (Value.type "dict")=pure false:=by rfl
theorem jru:isSubtype (.type "reversed") (.type "reversed")=pure true:=by rw[isSubtype_type];kernel_rfl
theorem jj1:Slot "reversed" "__init__" "object.__init__":=
 .of (owner:="object") (n:="__init__") (by rw[typeLookup_type,builtinLookup_eq_fast];kernel_rfl) (by decide +kernel) (by decide +kernel) (by decide +kernel)
  (by first | exact .inl (by decide +kernel) | exact .inr (by decide +kernel)) (by rw[isSubtype_type];kernel_rfl)
theorem called:TypeCalled "reversed" "reversed.__new__" "object.__init__":=
 ⟨by decide +kernel,by decide +kernel,⟨_,_,PySem.F.mro_reversed⟩,PySem.F.made_reversed,by decide +kernel,PySem.F.sub_reversed_self,jj1⟩
end RT
namespace RT
open PySem PySem.Spec PyProof.Rows L2
noncomputable def obj (l:Addr)(i:Int):Obj:={ cls:=.type "reversed",data:=.fields #[.ref l,rawInt i] }
noncomputable def IsRv (h:Heap)(a l:Addr)(i:Int):Prop:=∃o,h.get? a=some o/\o.cls=.type "reversed"/\o.data=.fields #[.ref l,rawInt i]
section
variable {prog:Program}{w:World}{A:Around}{E:Value->Shared->Prop}{s:Shared}
theorem IsRv.typeIs {a l:Addr}{i:Int}(x:IsRv s.heap a l i):s.TypeIs (.ref a) "reversed":=let ⟨o,ho,hc,_⟩:=x;⟨o,ho,hc⟩
theorem IsRv.at {h h':Heap}{a l:Addr}{i:Int}(x:IsRv h a l i)(e:∀o,h.get? a=some o->h'.get? a=some o):IsRv h' a l i:=let ⟨o,ho,r⟩:=x;⟨o,e _ ho,r⟩
theorem jml {l:Addr}{items:Array Value}{Q₁:Value->Shared->Prop}(hl:IsTup s.heap l items)(hz:(items.size:Int) < 2 ^ 63)
  (h:Q₁ (.ref s.heap.objs.size) { s with heap:=s.heap.push (obj l ((items.size:Int) - 1)),toks:=s.toks + 1 + 1 }) :
  codeAny (model prog w) A (.call (.builtin "reversed.__new__") ⟨[.type "reversed",.ref l],[]⟩) (wants Q₁ E) s:=by
 refine codeAny_of_tree ?_;show wpAny _ A.in1 (do checkBuiltinCall "reversed.__new__" ⟨[.type "reversed",.ref l],[]⟩;again (.builtin "reversed.__new__" ⟨[.type "reversed",.ref l],[]⟩)) _ _ s
 refine jvx (jvA (PySem.F.newCall_reversed_1 _) (jvy ⟨plainId_quiet PySem.F.plain_reversed_new _,codeAny_builtin PySem.F.entry_reversed_new ?_⟩));rw[Around.under_plainId PySem.F.plain_reversed_new _];unfold Builtin.«reversed.__new__»;refine jvx (jvA (newClass_reversed _) ?_);try dsimp only
 refine jvx (jvA (a:=()) (by first | rfl | kernel_rfl) ?_)
 refine jvx (jvA (a:=()) (by first | rfl | kernel_rfl) ?_)
 try dsimp only
 refine jvx (wpAny_specialOf hl.typeIs jrs ?_);try dsimp only
 refine jvx (jvx (wpAny_isInstance hl.typeIs jmk ?_));refine jvz rfl ?_;refine jvx (wpAny_specialOf hl.typeIs slot_tuple_getitem.lookup ?_);refine wpAny_ite_true rfl (jvy ?_);refine jvz rfl ?_;refine jvx (len_tuple hl hz ?_);refine jvx (jvA (a:=some (items.size:Int)) rfl ?_);try dsimp only
 exact jvx (show wpAny _ _ (newObj (Value.type "reversed") (.fields #[.ref l,rawInt ((items.size:Int) - 1)])) _ _ _ from jvB (jvy h))
theorem jmm {l:Addr}{items:Array Value}{Q:Value->Shared->Prop}(hl:IsTup s.heap l items)(hz:(items.size:Int) < 2 ^ 63)
  (h:Q (.ref s.heap.objs.size) { s with heap:=s.heap.push (obj l ((items.size:Int) - 1)),toks:=s.toks + 1 + 1 }):wpAny (model prog w) A (call (.type "reversed") [.ref l]) Q E s:=by
 refine callType_codes (Q₁:=fun obj' s₁=>obj'=.ref s.heap.objs.size/\s₁={ s with heap:=s.heap.push (obj l ((items.size:Int) - 1)),toks:=s.toks + 1 + 1 }) called (PySem.F.typeCall_reversed_1 _) F.entry_object_init (jml hl hz ⟨rfl,rfl⟩) fun obj' s₁ h₁=>?_
 obtain⟨rfl,rfl⟩:=h₁;have ty:Shared.TypeIs { s with heap:=s.heap.push (obj l ((items.size:Int) - 1)),toks:=s.toks + 1 + 1 } (.ref s.heap.objs.size) "reversed":=⟨_,jvH _ rfl,rfl⟩
 exact⟨ty,F.args_object_init_2 _ _,object_init_meets called.init.lookup called.made (by decide) prog w A.in1 (wants (fun r s₂=>r=Value.none/\Q _ s₂) E) _ ⟨ty,rfl,h⟩⟩
theorem jj2 {it l:Addr}{i:Nat}{items:Array Value}{x:Value}{Q:Option Value->Shared->Prop}(hit:IsRv s.heap it l (i:Int))(hl:IsTup s.heap l items)(hx:items[i]?=some x)(hz:(items.size:Int) < 2 ^ 63)(ne:l≠it)
  (hQ:∀h' tk,IsRv h' it l ((i:Int) - 1)->Heap.SameBut it s.heap h'->Q (some x) { s with heap:=h',toks:=tk }):wpAny (model prog w) A (pyNext (.ref it)) Q E s:=by
 obtain⟨o,ho,hc,hd⟩:=id hit;have hi:i < items.size:=(Array.getElem?_eq_some_iff.mp hx).1;unfold pyNext;refine jvx (wpAny_attempt (wpAny_callSpecial?_slot (name:=Str.ofString "__next__") hit.typeIs slot_next
  (wpAny_call_entry slot_next hit.typeIs jeg ?_ (jfw _))))
 unfold Builtin.«reversed.__next__»;refine jvx (jvA (a:=(Value.ref it,[])) rfl ?_);try dsimp only
 refine jvx (jvD ho hd (x:=.ref l) rfl ?_);refine jvx (jvD ho hd (x:=rawInt (i:Int)) rfl ?_);show wpAny _ _ (if (i:Int) < 0 then _ else _) _ _ s;rw[if_neg (by omega)]
 refine jvx (wpAny_specialOf hl.typeIs slot_tuple_getitem.lookup ?_);refine jvz rfl ?_;refine jvx (wpAny_mkInt ?_);refine jvx (wpAny_attempt (getItem_tuple (j:=i) hl (by omega) (by omega) ?_ hx ?_))
 ·exact(seqIndex_of (by omega) (by omega)).trans (by simp)
 try dsimp only
 refine jvx (jvD ho hd (x:=rawInt (i:Int)) rfl ?_);refine jvx (wpAny_setField ho hd (by simp) ?_)
 refine jvy ⟨x,rfl,jvy (hQ _ _ ?_ (Heap.SameBut.update ..))⟩;exact⟨_,jvI _ ho (Obj.isFreed_of_fields (Obj.data_mapFields hd _)),(Obj.cls_mapFields ..).trans hc,by
  rw[Obj.data_mapFields hd];simp⟩
theorem jmn {it l:Addr}{Q:Option Value->Shared->Prop}(hh:A.handled=none)(hit:IsRv s.heap it l (-1))
  (hQ:∀h',Heap.ExtBut it s.heap h'->Q none { s with heap:=h' }):wpAny (model prog w) A (pyNext (.ref it)) Q E s:=by
 obtain⟨o,ho,hc,hd⟩:=id hit;unfold pyNext;refine jvx (wpAny_attempt (wpAny_callSpecial?_slot (name:=Str.ofString "__next__") hit.typeIs slot_next
  (wpAny_call_entry slot_next hit.typeIs jeg ?_ (jfw _))))
 unfold Builtin.«reversed.__next__»;refine jvx (jvA (a:=(Value.ref it,[])) rfl ?_);try dsimp only
 refine jvx (jvD ho hd (x:=.ref l) rfl ?_);refine jvx (jvD ho hd (x:=rawInt (-1)) rfl ?_);show wpAny _ _ (if (-1:Int) < 0 then _ else _) _ _ s;rw[if_pos (by decide)]
 refine jvx (wpAny_rule ?_);refine jvx (jvx (wpAny_setField ho hd (by simp) ?_))
 have ho2:(s.heap.update it (Obj.mapFields fun x=>x.setIfInBounds 1 (rawInt (-1)))).get? it=some (Obj.mapFields (fun x=>x.setIfInBounds 1 (rawInt (-1))) o):=jvI _ ho (Obj.isFreed_of_fields (Obj.data_mapFields hd _));refine wpAny_setField ho2 (Obj.data_mapFields hd _) (by simp) ?_
 unfold Builtin.SmallTypes.stopIteration;refine jvx (jvx ?_);simp only[newExc,newTuple];refine jvx (jvB ?_ (by size_fits))
 refine jvx (m:=firstArgMember _ _) (jvA (a:=Value.none) (by first | rfl | (simp only[firstArgMember];rfl)) ?_)
 refine jvB ?_ (by size_fits)
 simp only[raiseNew];refine jvx (wpAny_handled ?_);first | rw[show A.in1.handled=none from hh] | rw[hh]
 refine jvx (jvy (wpAny_throw ?_));refine jvx (wpAny_isInstance (T:="StopIteration") (b:=true) ⟨_,jvH _ rfl,rfl⟩ isSubtype_stop ?_);refine jvy (hQ _ (Heap.ExtBut.push (Heap.ExtBut.push ?_ _) _));intro b o' hb e;exact(Heap.SameBut.update ..).2 b hb |>.trans ((Heap.SameBut.update ..).2 b hb |>.trans e)
theorem jj3 {it l:Addr}{i:Int}{Q:Value->Shared->Prop}(hit:IsRv s.heap it l i)(h:Q (.ref it) s):wpAny (model prog w) A (pyIter (.ref it)) Q E s:=by
 refine wpAny_pyIter_slot hit.typeIs jfx (wpAny_call_entry jfx hit.typeIs jir ?_ (jjZ _));show wpAny _ _ (ret (.ref it)) _ _ s;exact jvy ⟨_,rfl,"reversed",_,hit.typeIs,slot_next.lookup,h⟩
theorem jpa {it l:Addr}{i:Int}{items:Array Value}{Q:Bool->Shared->Prop}(hit:IsRv s.heap it l i)(hl:IsTup s.heap l items)(hi:i + 1=items.size)(hz:items.size<=sizeLine)(h:∀b tk,s.toks<=tk->Q b { s with toks:=tk }):wpAny (model prog w) A (Builtin.List.listLengthHint (.ref it)) Q E s:=by
 have hn:=jck;obtain⟨o,ho,hc,hd⟩:=id hit;unfold Builtin.List.listLengthHint;refine jvx (wpAny_specialOf hit.typeIs jrt ?_);refine jvz rfl ?_;refine jvz rfl ?_;refine jvx (wpAny_specialOf hit.typeIs slot_hint.lookup ?_);refine jvx (wpAny_isInstance hit.typeIs jru ?_);refine jvz rfl ?_;refine jvz rfl ?_;refine jvx (wpAny_rule ?_);refine jvx (jvA (slot_hint.bind _) ?_);refine jvx (wpAny_attempt (wpAny_call_entry slot_hint hit.typeIs jis ?_ (jj0 _)));unfold Builtin.«reversed.__length_hint__»;refine jvx (jvA (a:=Value.ref it) rfl ?_);refine jvx (jvD ho hd (x:=.ref l) rfl ?_);refine jvz rfl ?_;refine jvx (len_tuple hl (by omega) ?_)
 refine jvx (jvA (a:=some (items.size:Int)) rfl ?_);refine jvx (jvD ho hd (x:=rawInt i) rfl ?_);show wpAny _ _ (if (items.size:Int) < i + 1 then _ else _) _ _ _;rw[if_neg (by omega)]
 unfold retInt;refine jvx (wpAny_mkInt (jvy ⟨_,rfl,?_⟩));show wpAny _ _ (asInt? (.int (i + 1) _) >>= _) _ _ _;refine jvx (jvA (a:=some (i + 1)) rfl ?_);have f1:(!Builtin.List.listFitsIndex (i + 1))=false:=by rw[hi];simp[Builtin.List.listFitsIndex];omega
 have f2:Builtin.List.listTooLong (i + 1).toNat=false:=by rw[hi];simp[Builtin.List.listTooLong];omega
 dsimp only;rw[if_neg (by rw[f1];exact jvR),if_neg (by omega),if_neg (by rw[f2];exact jvR)]
 exact jvy (h _ _ (by omega))
theorem jtm (hh:A.handled=none)(I l:Addr)(hne:l≠I)(items:Array Value)(hz:(items.size:Int) < 2 ^ 63) :
  Walks prog w A I [I,l] [I] items.size (fun i v=>items[items.size - 1 - i]?=some v) (fun i h=>i<=items.size/\IsRv h I l ((items.size:Int) - 1 - (i:Int))/\IsTup h l items) where
 sub:=fun b hb=>by simp at hb;simp[hb]
 frame:=fun _ _ _ x hk=>⟨x.1,x.2.1.at fun o e=>hk I (by simp) o e,by obtain⟨o,e,r⟩:=x.2.2;exact⟨o,hk l (by simp) o e,r⟩⟩
 item:=fun i s Q E hi x hQ=>by
  have e:(items.size:Int) - 1 - (i:Int)=((items.size - 1 - i:Nat):Int):=by omega
  have hit:=x.2.1;rw[e]at hit;have hx:items[items.size - 1 - i]?=some (items[items.size - 1 - i]'(by omega)):=Array.getElem?_eq_getElem (by omega)
  refine jj2 hit x.2.2 hx hz hne fun h' tk hit' hs'=>?_;have e2:((items.size - 1 - i:Nat):Int) - 1=(items.size:Int) - 1 - ((i + 1:Nat):Int):=by omega
  rw[e2]at hit';exact hQ _ h' tk hx ⟨hi,hit',by obtain⟨o,eo,r⟩:=x.2.2;exact⟨o,(hs'.2 l hne).trans eo,r⟩⟩ fun b o hb eo=>hs'.extBut b o (fun h=>hb (by simp[h])) eo
 done:=fun s Q E x hQ=>by
  have e:(items.size:Int) - 1 - (items.size:Int)=-1:=by omega
  have hit:=x.2.1;rw[e]at hit;exact jmn hh hit fun h' he'=>hQ h' s.toks fun b o hb eo=>he' b o (fun h=>hb (by simp[h])) eo
 self:=fun _ _ _ _ x hQ=>jj3 x.2.1 hQ
theorem itb {I l:Addr}{items:Array Value}(hA:A.handled=none)(hI:IsRv s.heap I l ((items.size:Int) - 1))(hl:IsTup s.heap l items)(ne:l≠I)(hz:items.size<=sizeLine) :
  Itb prog w A (.ref I) "reversed" s.heap items.size (fun i v=>items[items.size - 1 - i]?=some v) [I] where
 nl:=by decide
 nt:=by decide
 ty:=fun s' k=>by
  obtain⟨o,e,c⟩:=hI.typeIs;exact⟨o,k _ _ e,c⟩
 ref:=fun a z=>by
  cases z;obtain⟨o,e,c⟩:=hI.typeIs;exact jvG e
 iter:=fun s' S Q E k h1 h2 q=>by
  have hn:=jck;have W:=jtm (prog:=prog) (w:=w) hA I l ne items (by omega)
  obtain⟨o1,e1,c1,d1⟩:=hI;obtain⟨o2,e2,c2⟩:=hl;have st:0<=items.size/\IsRv s'.heap I l ((items.size:Int) - 1 - (0:Nat))/\IsTup s'.heap l items:=⟨Nat.zero_le _,⟨o1,k _ _ e1,c1,by simpa using d1⟩,o2,k _ _ e2,c2⟩
  refine W.self 0 s' Q E st (q I _ _ _ s'.heap s'.toks s'.drawn (jvK _) SubH.refl W st (fun z=>?_) fun b hb=>.inl hb);rcases List.mem_cons.mp z with rfl | z
  ·exact absurd (jvG e1) (Nat.not_lt.mpr h1)
  ·have:S=l:=by simpa using z
   subst this;exact absurd (jvG e2) (Nat.not_lt.mpr h1)
 hint:=fun s' Q E k q=>by
  obtain⟨o1,e1,c1,d1⟩:=hI;obtain⟨o2,e2,c2⟩:=hl;exact jpa (l:=l) (i:=(items.size:Int) - 1) (items:=items) ⟨o1,k _ _ e1,c1,d1⟩ ⟨o2,k _ _ e2,c2⟩ (by omega) hz q
end
section
variable {X:Cx}{pins:List (Addr×Obj)}{σ:L2.St}{H:Hp}{s:Shared}
noncomputable def Phi (X:Cx)(I p:Addr)(n:Nat):Heap->Prop:=fun h=>IsRv h I p ((n:Int) - 1)/\X.s₀.heap.objs.size<=I/\p≠I
theorem jd6:CallR X (.type "reversed") (fun xs H Q=>∃p ys,xs=[.ref p]/\SqT X.K H p ys/\∀I,H I=none->Q (.ref I) (upd H I (.ext (Phi X I p ys.length)))):=by
 intro pins s σ H xs us Q I r h;obtain⟨p,ys,rfl,hq,q⟩:=h;obtain⟨u,rfl,rx⟩:=jbV r;cases rx;obtain⟨its,r',pl,hz⟩:=I.tuple hq;have hlen:=r'.length;have hn:=jck;refine jmm pl (by rw[ju9];omega) ?_
 have hp:p≠s.heap.objs.size:=by obtain⟨o,e,_⟩:=pl;exact jvM (jvG e)
 refine⟨.ref s.heap.objs.size,_,I.laid (t':=s.toks + 1 + 1) (o:=.ext (Phi X s.heap.objs.size p ys.length)) (fun b o e=>jvF _ e) (jvK _) ⟨⟨⟨_,jvH s.heap rfl,rfl,?_⟩,I.above,hp⟩,⟨_,jvH s.heap rfl⟩,?_⟩,rfl,q _ (I.hok.fresh (jvK _))⟩
 ·rw[ju9,<-hlen];rfl
 ·rintro h1 h2 ⟨⟨o,e,c⟩,z⟩ k;exact⟨⟨o,k _ e,c⟩,z⟩
theorem jeB (hc:X.calm=true):CallR X (.type "tuple") (fun xs H Q=>∃I p ys,xs=[.ref I]/\H I=some (.ext (Phi X I p ys.length))/\SqT X.K H p ys/\∀l,del H I l=none->Q (.ref l) (upd (del H I) l (.tup ys.reverse))):=by
 intro pins s σ H xs us Q I r h;obtain⟨J,p,ys,rfl,hJ,hq,q⟩:=h;obtain⟨u,rfl,rx⟩:=jbV r;cases rx;obtain⟨its,r',pl,hz⟩:=I.tuple hq;have hlen:=r'.length;obtain⟨⟨hr,h0,hne⟩,_,_⟩:=I.hok J _ hJ;have hA:X.A.in1.in1.in1.handled=none:=I.ok.hd hc;have hsz:its.toArray.size=ys.length:=by rw[ju9];exact hlen.symm
 refine jez (itb (items:=its.toArray) hA (by rw[hsz];exact hr) pl hne (by rw[hsz];exact hz)) (by rw[hsz];exact hz) fun s' acc kp hle hg ho it=>?_
 have ea:=jjY it;have ha:acc=its.reverse.toArray:=by rw[<-ea]
 refine⟨.ref s'.heap.objs.size,_,I.goneLaid (o:=.tup ys.reverse) (s':={ s' with heap:=s'.heap.push { cls:=Value.type "tuple",data:=Data.seq acc } }) hJ h0 (fun c o z e=>jvF _ (kp c o (by simpa using z) e)) hg ho hle ⟨by simpa using hz,its.reverse,r'.reverse,by rw[ha];exact IsTup.new _ _⟩,rfl,q _ ?_⟩
 unfold del;split
 ·rfl
 ·exact I.hok.fresh hle
end
end RT
namespace KS
open PySem PySem.W PyProof.Rows
noncomputable def jaH {α:Type}(lt:Nat->Nat->Bool):KasT α->α
 |.ret a=>a
 |.ask i j k=>jaH lt (k (lt i j))
theorem jbz {α β:Type}{lt:Nat->Nat->Bool}{f:α->KasT β}:∀(t:KasT α),jaH lt (t.bind f)=jaH lt (f (jaH lt t))
 |.ret a=>rfl
 |.ask i j k=>by
  show jaH lt ((k (lt i j)).bind f)=jaH lt (f (jaH lt (k (lt i j))));exact jbz (k (lt i j))
section
variable {lt:Nat->Nat->Bool}{p:Array Nat}
noncomputable def le (lt:Nat->Nat->Bool)(a b:Nat):Prop:=lt b a=false
structure Ord (lt:Nat->Nat->Bool):Prop where
 asym:∀a b,lt a b=true->lt b a=false
 trans:∀a b c,le lt a b->le lt b c->le lt a c
theorem Ord.refl (O:Ord lt)(a:Nat):le lt a a:=by
 unfold le;cases h:lt a a with
 |false=>rfl
 |true=>exact absurd (O.asym a a h) (by rw[h];decide)
noncomputable def at_ (p:Array Nat)(i:Nat):Nat:=p.getD i 0
noncomputable def Up (lt:Nat->Nat->Bool)(p:Array Nat)(k:Nat):Prop:=∀i j,i<=j->j < k->le lt (at_ p i) (at_ p j)
noncomputable def Dn (lt:Nat->Nat->Bool)(p:Array Nat)(k:Nat):Prop:=∀i j,i<=j->j < k->le lt (at_ p j) (at_ p i)
theorem jj4 {p q:Array Nat}{i j:Nat}(h:p[i]?=q[j]?):at_ p i=at_ q j:=by
 unfold at_;rw[Array.getD_eq_getD_getElem?,Array.getD_eq_getD_getElem?,h]
theorem Up.succ (O:Ord lt){n:Nat}(h1:1<=n)(h:Up lt p n)(hn:le lt (at_ p (n - 1)) (at_ p n)):Up lt p (n + 1):=fun i j hij hj=>by
 by_cases e:j=n
 ·subst e;by_cases e2:i=j
  ·subst e2;exact O.refl _
  ·exact O.trans _ _ _ (h i (j - 1) (by omega) (by omega)) hn
 ·exact h i j hij (by omega)
theorem Dn.succ (O:Ord lt){n:Nat}(h1:1<=n)(h:Dn lt p n)(hn:le lt (at_ p n) (at_ p (n - 1))):Dn lt p (n + 1):=fun i j hij hj=>by
 by_cases e:j=n
 ·subst e;by_cases e2:i=j
  ·subst e2;exact O.refl _
  ·exact O.trans _ _ _ hn (h i (j - 1) (by omega) (by omega))
 ·exact h i j hij (by omega)
theorem jj5 (O:Ord lt):∀(f n:Nat),1<=n->Up lt p n->n<=jaH lt (kas_asc p f n)/\jaH lt (kas_asc p f n)<=n + f/\Up lt p (jaH lt (kas_asc p f n))/\(jaH lt (kas_asc p f n) < n + f->lt (at_ p (jaH lt (kas_asc p f n))) (at_ p (jaH lt (kas_asc p f n) - 1))=true)
 |0,n,h1,h=>⟨jvK _,jvK _,h,fun z=>absurd z (jvO _)⟩
 |f + 1,n,h1,h=>by
  show n<=jaH lt (if lt (p.getD n 0) (p.getD (n - 1) 0)=true then .ret n else kas_asc p f (n + 1))/\jaH lt (if lt (p.getD n 0) (p.getD (n - 1) 0)=true then .ret n else kas_asc p f (n + 1))<=n + (f + 1)/\Up lt p (jaH lt (if lt (p.getD n 0) (p.getD (n - 1) 0)=true then .ret n else kas_asc p f (n + 1)))/\_;cases hc:lt (p.getD n 0) (p.getD (n - 1) 0)with
  |true=>
   have e:jaH lt (kas_asc p (f + 1) n)=n:=by
    show jaH lt (if lt (p.getD n 0) (p.getD (n - 1) 0)=true then .ret n else kas_asc p f (n + 1))=n;rw[hc];rfl
   rw[e];exact⟨jvK _,by show n<=_;omega,h,fun _=>hc⟩
  |false=>
   have e:jaH lt (kas_asc p (f + 1) n)=jaH lt (kas_asc p f (n + 1)):=by
    show jaH lt (if lt (p.getD n 0) (p.getD (n - 1) 0)=true then .ret n else kas_asc p f (n + 1))=_;rw[hc];rfl
   obtain⟨a1,a2,a3,a4⟩:=jj5 O f (n + 1) (by omega) (h.succ O h1 hc)
   rw[e];exact⟨by show n<=jaH lt (kas_asc p f (n + 1));omega,by show jaH lt (kas_asc p f (n + 1))<=_;omega,a3,fun z=>a4 (by omega)⟩
theorem jcA {i j k:Nat}(hj:j<=p.size):at_ (kas_rev p i j) k=if i<=k/\k < j then at_ p (i + j - 1 - k)else at_ p k:=by
 have:=getElem?_mirror_all (i:=i) hj k;unfold kas_rev;split
 ·rename_i h;rw[if_pos h]at this;exact jj4 this
 ·rename_i h;rw[if_neg h]at this;exact jj4 this
theorem ja8 {i j:Nat}:(kas_rev p i j).Perm p:=mirror_perm _ _ _ _
theorem jeC {i j:Nat}:(kas_rev p i j).size=p.size:=mirror_size _ _ _ _
theorem Dn.rev {n:Nat}(hn:n<=p.size)(h:Dn lt p n):Up lt (kas_rev p 0 n) n:=fun i j hij hj=>by
 rw[jcA hn,jcA hn,if_pos ⟨Nat.zero_le _,by omega⟩,if_pos ⟨Nat.zero_le _,hj⟩]
 exact h _ _ (Nat.sub_le_sub_left hij _) (by omega)
theorem jeD (O:Ord lt){k:Nat}(hs:Up lt p k):∀(f l r:Nat),r - l<=f->l<=r->r<=k->(∀i,i < l->le lt (at_ p i) (at_ p k))->(∀i,r<=i->i < k->lt (at_ p k) (at_ p i)=true) ->
  jaH lt (kas_place p k f l r)<=k/\(∀i,i < jaH lt (kas_place p k f l r)->le lt (at_ p i) (at_ p k))/\∀i,jaH lt (kas_place p k f l r)<=i->i < k->lt (at_ p k) (at_ p i)=true
 |0,l,r,hf,hlr,hrk,h1,h2=>by
  show l<=k/\(∀i,i < l->_)/\∀i,l<=i->_;exact⟨by omega,h1,fun i hi=>h2 i (by omega)⟩
 |f + 1,l,r,hf,hlr,hrk,h1,h2=>by
  by_cases hge:l>=r
  ·have e:jaH lt (kas_place p k (f + 1) l r)=l:=by
    show jaH lt (if l>=r then .ret l else _)=l;rw[if_pos hge];rfl
   rw[e];exact⟨by omega,h1,fun i hi=>h2 i (by omega)⟩
  ·have e:jaH lt (kas_place p k (f + 1) l r)=jaH lt (if lt (at_ p k) (at_ p ((l + r) / 2))=true then kas_place p k f l ((l + r) / 2)else kas_place p k f ((l + r) / 2 + 1) r):=by
    show jaH lt (if l>=r then .ret l else _)=_;rw[if_neg hge];rfl
   rw[e];have m1:l<=(l + r) / 2:=by omega
   have m2:(l + r) / 2 < r:=by omega
   generalize (l + r) / 2=m at m1 m2 ⊢;cases hc:lt (at_ p k) (at_ p m)with
   |true=>
    rw[if_pos rfl];refine jeD O hs f l m (Nat.le_of_lt_succ (jvL (Nat.sub_lt_sub_right m1 m2) hf)) m1 (by omega) h1 fun i hi hik=>?_
    cases hx:lt (at_ p k) (at_ p i)with
    |true=>rfl
    |false=>
     have:=O.trans _ _ _ (hs m i hi hik) hx;unfold le at this;rw[hc]at this;cases this
   |false=>
    rw[if_neg (by decide)]
    refine jeD O hs f (m + 1) r (Nat.le_of_lt_succ (jvL (Nat.sub_lt_sub_left (Nat.lt_of_le_of_lt m1 m2) (Nat.lt_succ_of_le m1)) hf)) m2 hrk (fun i hi=>?_) h2;exact O.trans _ _ _ (hs i m (by omega) (by omega)) hc
theorem jn0 {k d i:Nat}(hk:k < p.size)(hd:d<=k):at_ (bubble p k d) i=if i=k - d then at_ p k else if k - d < i/\i<=k then at_ p (i - 1)else at_ p i:=by
 have:=getElem?_bubble hk d hd i;split
 ·rename_i h;rw[if_pos h]at this;exact jj4 this
 ·rename_i h;rw[if_neg h]at this;split
  ·rename_i h2;rw[if_pos h2]at this;exact jj4 this
  ·rename_i h2;rw[if_neg h2]at this;exact jj4 this
theorem jn1 (O:Ord lt):∀(f:Nat) (p:Array Nat) (k:Nat),k + f<=p.size->Up lt p k->(jaH lt (kas_bin f p k)).Perm p/\Up lt (jaH lt (kas_bin f p k)) (k + f)
 |0,p,k,hk,h=>⟨Array.Perm.refl _,h⟩
 |f + 1,p,k,hk,h=>by
  have e:jaH lt (kas_bin (f + 1) p k)=jaH lt (kas_bin f (bubble p k (k - jaH lt (kas_place p k k 0 k))) (k + 1)):=by
   show jaH lt ((kas_place p k k 0 k).bind _)=_;rw[jbz]
  obtain⟨a1,a2,a3⟩:=jeD O h k 0 k (by omega) (by omega) (jvK _) (fun i hi=>absurd hi (by omega)) (fun i hi hik=>absurd hik (by omega))
  rw[e];generalize jaH lt (kas_place p k k 0 k)=l at a1 a2 a3;have hup:Up lt (bubble p k (k - l)) (k + 1):=fun i j hij hj=>by
   rw[jn0 (by omega) (by omega),jn0 (by omega) (by omega)]
   have hl:k - (k - l)=l:=Nat.sub_sub_self (by omega)
   rw[hl];clear hl e;by_cases hi:i=l
   ·rw[if_pos hi];by_cases hj':j=l
    ·rw[if_pos hj'];exact O.refl _
    ·rw[if_neg hj',if_pos ⟨by omega,by omega⟩]
     exact O.asym _ _ (a3 (j - 1) (by omega) (by omega))
   ·rw[if_neg hi];by_cases hil:l < i/\i<=k
    ·rw[if_pos hil,if_neg (by omega),if_pos ⟨by omega,by omega⟩]
     exact h (i - 1) (j - 1) (Nat.sub_le_sub_right hij 1) (by omega)
    ·rw[if_neg hil];by_cases hj':j=l
     ·rw[if_pos hj'];exact a2 i (by omega)
     ·rw[if_neg hj'];by_cases hjl:l < j/\j<=k
      ·rw[if_pos hjl];exact h i (j - 1) (Nat.le_sub_one_of_lt (by omega)) (by omega)
      ·rw[if_neg hjl];exact h i j hij (by omega)
  obtain⟨b1,b2⟩:=jn1 O f (bubble p k (k - l)) (k + 1) (by rw[bubble_size];omega) hup
  exact⟨b1.trans (bubble_perm _ _ _),by rw[show k + (f + 1)=k + 1 + f by omega];exact b2⟩
noncomputable def Eqs (lt:Nat->Nat->Bool)(p:Array Nat)(n q:Nat):Prop:=∀k,n - (q + 1)<=k->k < n->le lt (at_ p k) (at_ p (n - 1))/\le lt (at_ p (n - 1)) (at_ p k)
theorem Dn.revEq (O:Ord lt){n q:Nat}(hn:n<=p.size)(hq:q + 1<=n)(h:Dn lt p n)(he:Eqs lt p n q):Dn lt (kas_rev p (n - (q + 1)) n) n:=fun i j hij hj=>by
 have same:∀k,k < n->le lt (at_ (kas_rev p (n - (q + 1)) n) k) (at_ p k)/\le lt (at_ p k) (at_ (kas_rev p (n - (q + 1)) n) k):=fun k hk=>by
  rw[jcA hn];split
  ·rename_i hx;obtain⟨a1,a2⟩:=he k hx.1 hk;obtain⟨b1,b2⟩:=he (n - (q + 1) + n - 1 - k) (by omega) (by omega)
   exact⟨O.trans _ _ _ b1 a2,O.trans _ _ _ a1 b2⟩
  ·exact⟨O.refl _,O.refl _⟩
 exact O.trans _ _ _ (same j hj).1 (O.trans _ _ _ (h i j hij hj) (same i (by omega)).2)
theorem jeE (O:Ord lt):∀(f:Nat) (p:Array Nat) (n q:Nat),1<=n->q + 1<=n->n + f<=p.size->Dn lt p n->Eqs lt p n q ->
  ∃p' n' q',jaH lt (kas_desc f p n q)=(p',n',q')/\p'.Perm p/\n<=n'/\n'<=n + f/\q' + 1<=n'/\Dn lt p' n'/\Eqs lt p' n' q'
 |0,p,n,q,h1,hq,hf,h,he=>⟨p,n,q,rfl,Array.Perm.refl _,jvK _,jvK _,hq,h,he⟩
 |f + 1,p,n,q,h1,hq,hf,h,he=>by
  have e:jaH lt (kas_desc (f + 1) p n q)=jaH lt (if lt (at_ p n) (at_ p (n - 1))=true then (if q > 0 then kas_desc f (kas_rev p (n - (q + 1)) n) (n + 1) 0 else kas_desc f p (n + 1) 0)else if lt (at_ p (n - 1)) (at_ p n)=true then .ret (p,n,q)else kas_desc f p (n + 1) (q + 1)):=by
   show jaH lt (if lt (p.getD n 0) (p.getD (n - 1) 0)=true then _ else _)=_;unfold at_;cases lt (p.getD n 0) (p.getD (n - 1) 0) <;> rfl
  rw[e];have one:∀(p:Array Nat),Eqs lt p (n + 1) 0:=fun p k hk hk2=>by
   have:k=n:=by omega
   subst this;exact⟨O.refl _,O.refl _⟩
  cases hc:lt (at_ p n) (at_ p (n - 1))with
  |true=>
   rw[if_pos rfl];by_cases hq0:q > 0
   ·rw[if_pos hq0];have hd:=h.revEq O (by omega) hq he
    have hlast:le lt (at_ (kas_rev p (n - (q + 1)) n) n) (at_ (kas_rev p (n - (q + 1)) n) (n - 1)):=by
     rw[jcA (by omega),jcA (by omega),if_neg (by omega),if_pos ⟨by omega,by omega⟩]
     exact O.trans _ _ _ (O.asym _ _ hc) (he (n - (q + 1) + n - 1 - (n - 1)) (by rw[Nat.add_sub_assoc h1,Nat.add_sub_cancel];omega) (by rw[Nat.add_sub_assoc h1,Nat.add_sub_cancel];exact Nat.sub_lt h1 (Nat.succ_pos q))).2
    obtain⟨p',n',q',a1,a2,a3,a4,a5,a6,a7⟩:=jeE O f (kas_rev p (n - (q + 1)) n) (n + 1) 0 (by omega) (by omega) (by rw[jeC];omega) (hd.succ O h1 hlast) (one _)
    exact⟨p',n',q',a1,a2.trans ja8,by omega,by omega,a5,a6,a7⟩
   ·rw[if_neg hq0];obtain⟨p',n',q',a1,a2,a3,a4,a5,a6,a7⟩:=jeE O f p (n + 1) 0 (by omega) (by omega) (by omega) (h.succ O h1 (O.asym _ _ hc)) (one _)
    exact⟨p',n',q',a1,a2,by omega,by omega,a5,a6,a7⟩
  |false=>
   rw[if_neg (by decide)]
   cases hd:lt (at_ p (n - 1)) (at_ p n)with
   |true=>rw[if_pos rfl];exact⟨p,n,q,rfl,Array.Perm.refl _,jvK _,by omega,hq,h,he⟩
   |false=>
    rw[if_neg (by decide)]
    have he':Eqs lt p (n + 1) (q + 1):=fun k hk hk2=>by
     rw[Nat.add_sub_cancel];by_cases hkn:k=n
     ·subst hkn;exact⟨O.refl _,O.refl _⟩
     ·obtain⟨b1,b2⟩:=he k (by omega) (by omega)
      exact⟨O.trans _ _ _ b1 hc,O.trans _ _ _ hd b2⟩
    obtain⟨p',n',q',a1,a2,a3,a4,a5,a6,a7⟩:=jeE O f p (n + 1) (q + 1) (by omega) (by omega) (by omega) (h.succ O h1 hd) he'
    exact⟨p',n',q',a1,a2,by omega,by omega,a5,a6,a7⟩
theorem jj6 (O:Ord lt){n nrem:Nat}(h1:1<=n)(hn:n<=nrem)(hp:nrem<=p.size)(h:Dn lt p n):∃m p',jaH lt (kas_tail3 n nrem p)=(m,p')/\p'.Perm p/\1<=m/\m<=nrem/\Up lt p' m:=by
 have e:jaH lt (kas_tail3 n nrem p)=(jaH lt (kas_asc (kas_rev p 0 n) (nrem - n) n),kas_rev p 0 n):=by
  unfold kas_tail3;rw[jbz];rfl
 obtain⟨a1,a2,a3,_⟩:=jj5 (p:=kas_rev p 0 n) O (nrem - n) n h1 (h.rev (by omega))
 exact⟨_,_,e,ja8,by omega,by omega,a3⟩
theorem jdG (O:Ord lt){n nrem:Nat}(h1:1<=n)(hn:n + 1<=nrem)(hp:nrem<=p.size)(h:Dn lt p (n + 1)):∃m p',jaH lt (kas_descPart n nrem p)=(m,p')/\p'.Perm p/\1<=m/\m<=nrem/\Up lt p' m:=by
 obtain⟨p',n',q',a1,a2,a3,a4,a5,a6,a7⟩:=jeE O (nrem - (n + 1)) p (n + 1) 0 (by omega) (by omega) (by omega) h (fun k hk hk2=>by
  have:k=n:=by omega
  subst this;exact⟨O.refl _,O.refl _⟩)
 have hsz:p'.size=p.size:=a2.size_eq;have e:jaH lt (kas_descPart n nrem p)=jaH lt (if q' > 0 then kas_tail3 n' nrem (kas_rev p' (n' - (q' + 1)) n')else kas_tail3 n' nrem p'):=by
  unfold kas_descPart;rw[jbz,a1]
 rw[e];by_cases hq:q' > 0
 ·rw[if_pos hq];obtain⟨m,p2,b1,b2,b3,b4,b5⟩:=jj6 (p:=kas_rev p' (n' - (q' + 1)) n') O (by omega:1<=n') (by omega:n'<=nrem) (by rw[jeC];omega) (a6.revEq O (by omega) a5 a7)
  exact⟨m,p2,b1,(b2.trans ja8).trans a2,b3,b4,b5⟩
 ·rw[if_neg hq];obtain⟨m,p2,b1,b2,b3,b4,b5⟩:=jj6 (p:=p') O (by omega:1<=n') (by omega:n'<=nrem) (by omega) a6
  exact⟨m,p2,b1,b2.trans a2,b3,b4,b5⟩
theorem jmo (O:Ord lt){nrem:Nat}(h1:1<=nrem)(hp:nrem<=p.size):∃m p',jaH lt (kas_count nrem p)=(m,p')/\p'.Perm p/\1<=m/\m<=nrem/\Up lt p' m:=by
 have h01:Up lt p 1:=fun i j hij hj=>by
  have:i=j:=by omega
  subst this;exact O.refl _
 obtain⟨a1,a2,a3,a4⟩:=jj5 (p:=p) O (nrem - 1) 1 (by omega) h01
 have e:jaH lt (kas_count nrem p)=jaH lt (if (jaH lt (kas_asc p (nrem - 1) 1) == nrem)=true then .ret (jaH lt (kas_asc p (nrem - 1) 1),p)else if jaH lt (kas_asc p (nrem - 1) 1) > 1 then .ask (p.getD 0 0) (p.getD (jaH lt (kas_asc p (nrem - 1) 1) - 1) 0) (fun c=>if c=true then .ret (jaH lt (kas_asc p (nrem - 1) 1),p)else kas_descPart (jaH lt (kas_asc p (nrem - 1) 1)) nrem (kas_rev p 0 (jaH lt (kas_asc p (nrem - 1) 1))))else kas_descPart (jaH lt (kas_asc p (nrem - 1) 1)) nrem p):=by
  unfold kas_count;rw[jbz]
 rw[e];generalize jaH lt (kas_asc p (nrem - 1) 1)=n at a1 a2 a3 a4;by_cases hn:(n == nrem)=true
 ·rw[if_pos hn];exact⟨n,p,rfl,Array.Perm.refl _,by omega,by omega,a3⟩
 ·rw[if_neg hn];have hne:n≠nrem:=by simpa using hn
  have hlt:=a4 (by omega)
  by_cases hn1:n > 1
  ·rw[if_pos hn1];show ∃m p',jaH lt (if lt (p.getD 0 0) (p.getD (n - 1) 0)=true then .ret (n,p)else kas_descPart n nrem (kas_rev p 0 n))=_/\_;cases hc:lt (p.getD 0 0) (p.getD (n - 1) 0)with
   |true=>rw[if_pos rfl];exact⟨n,p,rfl,Array.Perm.refl _,by omega,by omega,a3⟩
   |false=>
    rw[if_neg (by decide)]
    have hc':le lt (at_ p (n - 1)) (at_ p 0):=hc;have alike:∀i j,i < n->j < n->le lt (at_ p i) (at_ p j):=fun i j hi hj=>O.trans _ _ _ (a3 i (n - 1) (by omega) (by omega)) (O.trans _ _ _ hc' (a3 0 j (by omega) hj))
    have hd:Dn lt (kas_rev p 0 n) (n + 1):=by
     refine Dn.succ O (by omega) (fun i j hij hj=>?_) ?_
     ·rw[jcA (by omega),jcA (by omega),if_pos ⟨by omega,hj⟩,if_pos ⟨by omega,by omega⟩]
      exact alike _ _ (by omega) (by omega)
     ·rw[jcA (by omega),jcA (by omega),if_neg (by omega),if_pos ⟨by omega,by omega⟩]
      exact O.trans _ _ _ (O.asym _ _ hlt) (alike _ _ (by omega) (by omega))
    obtain⟨m,p',b1,b2,b3,b4,b5⟩:=jdG O (by omega:1<=n) (by omega:n + 1<=nrem) (by rw[jeC];omega) hd
    exact⟨m,p',b1,b2.trans ja8,b3,b4,b5⟩
  ·rw[if_neg hn1];have hn':n=1:=by omega
   subst hn';have hd:Dn lt p 2:=Dn.succ O (by omega) (fun i j hij hj=>by
    have:i=j:=by omega
    subst this;exact O.refl _) (O.asym _ _ hlt)
   exact jdG O (by omega) (by omega) hp hd
theorem jpb (O:Ord lt){n:Nat}(h1:1<=n):(jaH lt (kas_sort n)).Perm (List.toArray (List.range n))/\Up lt (jaH lt (kas_sort n)) n:=by
 obtain⟨m,p',a1,a2,a3,a4,a5⟩:=jmo (p:=List.toArray (List.range n)) O h1 (by simp)
 have hsz:p'.size=n:=by rw[a2.size_eq];simp
 have e:jaH lt (kas_sort n)=jaH lt (if m < n then kas_bin (n - max m 1) p' (max m 1)else .ret p'):=by
  unfold kas_sort;rw[jbz,a1]
 rw[e];by_cases hm:m < n
 ·rw[if_pos hm];have hmax:max m 1=m:=by omega
  rw[hmax];obtain⟨b1,b2⟩:=jn1 O (n - m) p' m (by omega) a5
  exact⟨b1.trans a2,by have h:=b2;rwa [show m + (n - m)=n by omega]at h⟩
 ·rw[if_neg hm];have:m=n:=by omega
  subst this;exact⟨a2,a5⟩
end
end KS
namespace KS
open PySem PySem.W PyProof.Rows
inductive AllA {α:Type} (N:Nat) (R:α->Prop):KasT α->Prop where
 |ret {a:α} (h:R a):AllA N R (.ret a)
 |ask {i j:Nat}{k:Bool->KasT α} (hi:i < N) (hj:j < N) (h:∀b,AllA N R (k b)):AllA N R (.ask i j k)
theorem AllA.bind {α β:Type}{N:Nat}{R:α->Prop}{R':β->Prop}{f:α->KasT β}{t:KasT α}(h:AllA N R t)(hf:∀a,R a->AllA N R' (f a)):AllA N R' (t.bind f):=by
 induction h with
 |ret h=>exact hf _ h
 |ask hi hj _ ih=>exact .ask hi hj ih
noncomputable def LtN (N:Nat)(p:Array Nat):Prop:=0 < N/\∀x∈p,x < N
theorem LtN.get {N:Nat}{p:Array Nat}(h:LtN N p)(i:Nat):p.getD i 0 < N:=by
 by_cases hi:i < p.size
 ·simp only[Array.getD,hi,dite_true];exact h.2 _ (Array.getElem_mem hi)
 ·simp only[Array.getD,hi,dite_false];exact h.1
theorem LtN.perm {N:Nat}{p q:Array Nat}(h:LtN N p)(e:q.Perm p):LtN N q:=⟨h.1,fun x hx=>h.2 x (e.mem_iff.mp hx)⟩
theorem jpc {N:Nat}{p:Array Nat}(h:LtN N p):∀(f x:Nat),AllA N (fun _=>True) (kas_asc p f x)
 |0,x=>by rw[kas_asc.eq_1];exact .ret trivial
 |f + 1,x=>by
  rw[kas_asc.eq_2];exact .ask (h.get _) (h.get _) fun b=>by
   cases b with
   |true=>exact .ret trivial
   |false=>exact jpc h f (x + 1)
theorem jgm {N:Nat}{p:Array Nat}(h:LtN N p)(k:Nat):∀(f x y:Nat),AllA N (fun _=>True) (kas_place p k f x y)
 |0,x,y=>by rw[kas_place.eq_1];exact .ret trivial
 |f + 1,x,y=>by
  rw[kas_place.eq_2];split
  ·exact .ret trivial
  ·exact .ask (h.get _) (h.get _) fun b=>by
    cases b with
    |true=>exact jgm h k f _ _
    |false=>exact jgm h k f _ _
theorem jhq {N:Nat}:∀(f:Nat) (p:Array Nat) (x y:Nat),LtN N p->AllA N (fun r=>LtN N r.1) (kas_desc f p x y)
 |0,p,x,y,h=>by rw[kas_desc.eq_1];exact .ret h
 |f + 1,p,x,y,h=>by
  rw[kas_desc.eq_2];refine .ask (h.get _) (h.get _) fun b=>?_;cases b with
  |true=>
   rw[if_pos rfl];split
   ·exact jhq f _ _ _ (h.perm ja8)
   ·exact jhq f _ _ _ h
  |false=>
   rw[if_neg (by simp)]
   refine .ask (h.get _) (h.get _) fun d=>?_;cases d with
   |true=>exact .ret h
   |false=>exact jhq f _ _ _ h
theorem jn2 {N:Nat}{p:Array Nat}(h:LtN N p)(n nrem:Nat):AllA N (fun r=>LtN N r.2) (kas_tail3 n nrem p):=(jpc (h.perm ja8) _ _).bind fun m _=>.ret (h.perm ja8)
theorem jeh {N:Nat}{p:Array Nat}(h:LtN N p)(n nrem:Nat):AllA N (fun r=>LtN N r.2) (kas_descPart n nrem p):=(jhq _ _ _ _ h).bind fun r hr=>by
 split
 ·exact jn2 (hr.perm ja8) _ _
 ·exact jn2 hr _ _
theorem jpd {N:Nat}{p:Array Nat}(h:LtN N p)(nrem:Nat):AllA N (fun r=>LtN N r.2) (kas_count nrem p):=(jpc h _ _).bind fun n _=>by
 split
 ·exact .ret h
 ·split
  ·refine .ask (h.get _) (h.get _) fun b=>?_;cases b with
   |true=>exact .ret h
   |false=>exact jeh (h.perm ja8) _ _
  ·exact jeh h _ _
theorem jrv {N:Nat}:∀(f:Nat) (p:Array Nat) (k:Nat),LtN N p->AllA N (fun _=>True) (kas_bin f p k)
 |0,p,k,h=>by rw[kas_bin.eq_1];exact .ret trivial
 |f + 1,p,k,h=>by
  rw[kas_bin.eq_2];exact(jgm h _ _ _ _).bind fun l _=>jrv f _ _ (h.perm (bubble_perm _ _ _))
theorem jrw {n:Nat}(h1:1<=n):AllA n (fun _=>True) (kas_sort n):=by
 have h0:LtN n (List.range n).toArray:=⟨h1,fun x hx=>by simpa using hx⟩
 refine(jpd h0 n).bind fun r hr=>?_;split
 ·exact jrv _ _ _ hr
 ·exact .ret trivial
theorem jpe {α:Type}{lt:Nat->Nat->Bool}{N:Nat}{cmp:Nat->Nat->(Bool->Shared->Prop)->Shared->Prop}{s:Shared}{Q:α->Shared->Prop}(h:∀i j (C:Bool->Shared->Prop),i < N->j < N->C (lt i j) s->cmp i j C s){t:KasT α}(a:AllA N (fun _=>True) t)(q:Q (jaH lt t) s):t.kasWp cmp Q s:=by
 induction a with
 |ret _=>exact q
 |ask hi hj _ ih=>exact h _ _ _ hi hj (ih _ q)
end KS
namespace HS
open PySem
noncomputable def g:Nat->Nat->Nat
 |0,a=>a
 |n + 1,a=>5 * g n a + 1
noncomputable abbrev lp (mask i p:Nat):Nat×Nat:=SetTable.leap mask i p
noncomputable def run (mask i:Nat):List Nat:=(List.range (SetTable.runEnd mask i + 1 - i)).map (i + ·)
noncomputable def pth (mask:Nat):Nat->Nat->Nat->List Nat
 |0,_,_=>[]
 |N + 1,i,p=>run mask i++pth mask N (lp mask i p).1 (lp mask i p).2
noncomputable def it (mask:Nat):Nat->Nat×Nat->Nat×Nat
 |0,s=>s
 |n + 1,s=>it mask n (lp mask s.1 s.2)
end HS
namespace HS
open PySem
noncomputable def lst (mask:Nat)(p:SetTable.Probe)(N:Nat):List Nat:=(List.range (p.more + 1)).map (p.j + ·)++pth mask N (lp mask p.i p.perturb).1 (lp mask p.i p.perturb).2
end HS
namespace HS
open PySem
end HS
namespace HS
open PySem PySem.Spec PyProof.Rows L2
noncomputable def tkz (prog:Program)(w:World)(Z:List Int->Addr->Prop):HeapKind prog w (List Int) where
 is:=fun h k a=>(tupleKind (intKind prog w)).is h k a/\Z k a
 hash:=(tupleKind (intKind prog w)).hash
 draws:=(tupleKind (intKind prog w)).draws
 room:=(tupleKind (intKind prog w)).room
 inj:=fun h1 h2=>(tupleKind (intKind prog w)).inj h1.1 h2.1
 keeps:=fun h1 h2 h3 h4=>⟨(tupleKind (intKind prog w)).keeps h1.1 h2 h3 h4,h1.2⟩
 pyHash:=fun h1 h2 q=>(tupleKind (intKind prog w)).pyHash h1 h2.1 q
 eqBool:=fun h1 h2 h3 q=>(tupleKind (intKind prog w)).eqBool h1 h2.1 h3.1 q
 quiet:=fun h1 q=>(tupleKind (intKind prog w)).quiet h1.1 q
section
variable {prog:Program}{w:World}{Z:List Int->Addr->Prop}{A:Around}{E:Value->Shared->Prop}{s:Shared}
noncomputable def El (prog:Program)(w:World)(Z:List Int->Addr->Prop)(h:Heap)(k:List Int)(e:Int×Value):Prop:=∃b,e=((tkz prog w Z).hash k,.ref b)/\(tkz prog w Z).is h k b
end
end HS
namespace HS
open PySem PySem.Spec PyProof.Rows L2
section
variable {prog:Program}{w:World}{Z:List Int->Addr->Prop}{A:Around}{E:Value->Shared->Prop}{s:Shared}
theorem jb9 {α β:Type}{F:α->β->Prop}:∀{l₁:List α}{l₂:List β}{i:Nat}{b:β},Paired F l₁ l₂->l₂[i]?=some b->∃a,l₁[i]?=some a/\F a b
 |_,_,i,b,.nil,h=>by simp at h
 |_,_,0,b,.cons h _,e=>by simp at e;subst e;exact⟨_,rfl,h⟩
 |_,_,i + 1,b,.cons _ h,e=>by
  obtain⟨a,e1,e2⟩:=jb9 h (by simpa using e)
  exact⟨a,by simpa using e1,e2⟩
end
end HS
namespace HS
open PySem PySem.Spec PyProof.Rows L2
section
variable {prog:Program}{w:World}{Z:List Int->Addr->Prop}{A:Around}{E:Value->Shared->Prop}{s:Shared}
theorem jrx {h h':Heap}{k:List Int}{b:Addr}(hb:(tkz prog w Z).is h k b)(e:∀o,h.get? b=some o->h'.get? b=some o):(tkz prog w Z).is h' k b:=by
 obtain⟨⟨o,items,n,h1,h2⟩,z⟩:=hb;exact⟨⟨o,items,n,e o h1,h2⟩,z⟩
end
end HS
namespace HS
open PySem PySem.Spec PyProof.Rows L2
section
variable {prog:Program}{w:World}{Z:List Int->Addr->Prop}{A:Around}{E:Value->Shared->Prop}{s:Shared}
theorem items_int {ks:List Int}{vs:List Value}(h:PySem.ItemsAre (intKind prog w) ks vs):∀v∈vs,∃i t,v=Value.int i t:=by
 induction h with
 |nil=>intro v hv;cases hv
 |cons hk _ ih=>
  intro v hv;rcases List.mem_cons.mp hv with rfl | hv
  ·rename_i k _ _ _;have hk:Value.isInt k v=true:=hk;cases v <;> simp[Value.isInt]at hk
   exact⟨_,_,rfl⟩
  ·exact ih v hv
end
end HS
namespace HS
open PySem PySem.Spec PyProof.Rows L2
end HS
namespace HS
open PySem PySem.Spec PyProof.Rows L2
section
variable {prog:Program}{w:World}{Z:List Int->Addr->Prop}{A:Around}{E:Value->Shared->Prop}{s:Shared}
end
end HS
namespace HS
open PySem PySem.Spec PyProof.Rows L2
section
variable {prog:Program}{w:World}{Z:List Int->Addr->Prop}{A:Around}{E:Value->Shared->Prop}{s:Shared}
end
end HS
namespace HS
open PySem PySem.Spec PyProof.Rows L2
noncomputable def lx:List Int->List Int->Bool
 |[],[]=>false
 |[],_::_=>true
 |_::_,[]=>false
 |x::xs,y::ys=>if x=y then lx xs ys else decide (x < y)
theorem jgn:∀{a b:List Int},lx a b=true->lx b a=false
 |[],[],h=>by simp[lx]at h
 |[],_::_,_=>rfl
 |_::_,[],h=>by simp[lx]at h
 |x::xs,y::ys,h=>by
  simp only[lx]at h ⊢;by_cases e:x=y
  ·rw[if_pos e]at h;rw[if_pos e.symm];exact jgn h
  ·rw[if_neg e]at h;rw[if_neg (Ne.symm e)];simp at h ⊢;omega
theorem jj7:∀{a b:List Int},lx a b=false->lx b a=false->a=b
 |[],[],_,_=>rfl
 |[],_::_,h,_=>by simp[lx]at h
 |_::_,[],_,h=>by simp[lx]at h
 |x::xs,y::ys,h,h'=>by
  simp only[lx]at h h';by_cases e:x=y
  ·rw[if_pos e]at h;rw[if_pos e.symm]at h';rw[e,jj7 h h']
  ·rw[if_neg e]at h;rw[if_neg (Ne.symm e)]at h';simp at h h';omega
theorem jeF:∀{a b c:List Int},lx b a=false->lx c b=false->lx c a=false
 |[],_,[],_,_=>rfl
 |[],_,_::_,_,_=>rfl
 |_::_,[],_,h,_=>by simp[lx]at h
 |x::xs,y::ys,[],_,h'=>by simp[lx]at h'
 |x::xs,y::ys,z::zs,h,h'=>by
  simp only[lx]at h h' ⊢;by_cases e:y=x
  ·rw[if_pos e]at h;subst e;by_cases e2:z=y
   ·rw[if_pos e2]at h' ⊢;exact jeF h h'
   ·rw[if_neg e2]at h' ⊢;exact h'
  ·rw[if_neg e]at h;by_cases e2:z=y
   ·rw[if_pos e2]at h';subst e2;rw[if_neg e];exact h
   ·rw[if_neg e2]at h';simp at h h';rw[if_neg (by omega)];simp;omega
section
variable {prog:Program}{w:World}{Z:List Int->Addr->Prop}{A:Around}{E:Value->Shared->Prop}{s:Shared}
theorem jmp {fin:Bool}{Q:Bool->Shared->Prop}:∀{xs ys:List Int}{us vs:List Value} (i:Nat),PySem.ItemsAre (intKind prog w) xs us->PySem.ItemsAre (intKind prog w) ys vs->fin=decide (xs.length < ys.length)->Q (lx xs ys) s->W.KatLex prog w A true fin Q (us.zip vs) i s:=by
 intro xs ys us vs i hx;induction hx generalizing ys vs i with
 |nil=>
  intro hy hf q;cases hy with
  |nil=>exact W.kat_nil (by rw[hf];exact q)
  |cons _ _=>exact W.kat_nil (by rw[hf];exact q)
 |@cons x u xs us hu pu ih=>
  intro hy hf q;cases hy with
  |nil=>exact W.kat_nil (by rw[hf];exact q)
  |@cons y v ys vs hv pv=>
  have hu:Value.isInt x u=true:=hu;have hv:Value.isInt y v=true:=hv;obtain⟨t,rfl⟩:∃t,u=.int x t:=by cases u <;> simp[Value.isInt]at hu;rw[hu];exact⟨_,rfl⟩
  obtain⟨t',rfl⟩:∃t,v=.int y t:=by cases v <;> simp[Value.isInt]at hv;rw[hv];exact⟨_,rfl⟩
  rw[List.zip_cons_cons];refine W.kat_cons (wpAny_eqBool_int ?_);by_cases e:x=y
  ·have:(x == y)=true:=by simpa using e
   rw[this];refine W.kat_yes (ih (i + 1) pv (by rw[hf];simp) ?_)
   simp only[lx,if_pos e]at q;exact q
  ·have:(x == y)=false:=by simpa using e
   rw[this];simp only[lx,if_neg e]at q;refine W.kat_no ?_;by_cases hi:i=0
   ·subst hi;exact oneLt_int q
   ·have:(true && i == 0)=false:=by simp[hi]
    rw[this];exact W.kat_one _ _ (lt_int q)
noncomputable def jfy (h:Heap)(L D:Addr):List (Addr×Obj):=(List.range h.objs.size).filterMap fun b=>if b=L\/b=D then none else (h.get? b).map fun o=>(b,o)
theorem rest_mem {h:Heap}{L D:Addr}{p:Addr×Obj}:p∈jfy h L D↔h.get? p.1=some p.2/\p.1≠L/\p.1≠D:=by
 unfold jfy;rw[List.mem_filterMap];constructor
 ·rintro⟨b,hb,e⟩;split at e
  ·cases e
  ·rename_i hn;obtain⟨o,e1,rfl⟩:=Option.map_eq_some_iff.mp e;exact⟨e1,fun z=>hn (.inl z),fun z=>hn (.inr z)⟩
 ·rintro⟨e,h1,h2⟩;refine⟨p.1,List.mem_range.mpr (jvG e),?_⟩;rw[if_neg (fun z=>z.elim h1 h2),e];rfl
noncomputable def h0:Heap:={ objs:=#[] }
theorem jgo (b:Addr):h0.get? b=none:=by
 cases e:h0.get? b with
 |none=>rfl
 |some o=>exact absurd (jvG e) (Nat.not_lt_zero _)
theorem jry {b:Bool}{x y:Addr}{kx ky:List Int}{Q:Bool->Shared->Prop}(hx:(tkz prog w Z).is s.heap kx x)(hy:(tkz prog w Z).is s.heap ky y)(q:Q (lx kx ky) s):wpAny (model prog w) A (keyLt' (tuples' true) (.ref x) (.ref y)) Q E s:=by
 obtain⟨⟨ox,ix,nx,h1,h2,h3,h4⟩,_⟩:=hx;obtain⟨⟨oy,iy,ny,g1,g2,g3,g4⟩,_⟩:=hy;refine W.kat_lt h1 h3 g1 g3 (jmp 0 h4 g4 ?_ q);have l:∀{ks:List Int}{vs:List Value},PySem.ItemsAre (intKind prog w) ks vs->ks.length=vs.length:=fun {ks vs} h=>by
  induction h with
  |nil=>rfl
  |cons _ _ ih=>simp[ih]
 have:=l h4;have:=l g4;simp at *;rw[show ix.size=kx.length by omega,show iy.size=ky.length by omega]
theorem jmq {h:Heap}:∀{kss:List (List Int)}{vs:List Value},Paired (fun k v=>∃b,v=Value.ref b/\(tkz prog w Z).is h k b) kss vs->(∀k∈kss,k≠[])->∃fs,W.KatTups h vs fs/\fs.length=vs.length/\∀f∈fs,∃i t,f=Value.int i t:=by
 intro kss vs p;induction p with
 |nil=>intro _;exact⟨[],by rw[W.KatTups.eq_1];trivial,rfl,fun _ h=>by cases h⟩
 |@cons k _ kss vs hd p ih=>
  intro hk;obtain⟨b,e,⟨o,items,n,h1,h2,h3,h4⟩,_⟩:=hd;obtain⟨fs,g1,g2,g3⟩:=ih fun k' hk'=>hk k' (ju6 _ hk');have hne:=hk k ju7;cases k with
  |nil=>exact absurd rfl hne
  |cons a ks=>
   generalize hl:items.toList=l at h4;cases h4 with
   |cons hv hr=>
    rename_i v l;refine⟨v::fs,?_,by simp[g2],fun f hf=>?_⟩
    ·rw[W.KatTups.eq_2];exact⟨⟨b,o,items,n,e,h1,h2,h3,by rw[<-Array.getElem?_toList,hl];rfl⟩,g1⟩
    ·rcases List.mem_cons.mp hf with rfl | hf
     ·have hv:Value.isInt a f=true:=hv;cases f <;> simp[Value.isInt]at hv
      exact⟨_,_,rfl⟩
     ·exact g3 f hf
theorem jmr {L D:Addr}{m:Str->Option Value}{vs:List Value}{n:Nat}{kss:List (List Int)}{P:PySem.Fin->Shared->Prop}(hL:s.heap.Ns L m)(hD:s.heap.get? D=some (seqObj "list" vs.toArray n))(hne:D≠L)(h2:2<=vs.length)(h64:vs.length < 64)
  (hK:Paired (fun k v=>∃b,v=Value.ref b/\(tkz prog w Z).is s.heap k b) kss vs) (hk0:∀k∈kss,k≠[])
  (q:∀(h':Heap) (c:Nat) (p:Array Nat),p.Perm (List.range vs.length).toArray->KS.Up (fun i j=>lx (kss.getD i []) (kss.getD j [])) p vs.length->h'.get? D=some (W.listOf (p.toList.map fun i=>vs.getD i Value.none).toArray c)->h'.Ns L m->(∀b o,b≠L->b≠D->s.heap.get? b=some o->h'.get? b=some o)->P (Fin.done (Flow.ret Value.none)) { s with heap:=h' }) :
  wpAny (model prog w) A (Builtin.«list.sort» { pos:=[.ref D] }) P E s:=by
 have hkl:kss.length=vs.length:=Paired.length hK;have nL:∀{b:Addr}{k:List Int},(tkz prog w Z).is s.heap k b->b≠L/\b≠D:=fun {b k} ⟨⟨o,items,nn,h1,h2,h3,_⟩,_⟩=>by
  refine⟨fun z=>?_,fun z=>?_⟩
  ·obtain⟨o',es,ep,e1,e2,_⟩:=hL;rw[z,e1]at h1;cases h1;rw[e2]at h3;cases h3
  ·rw[z,hD]at h1;cases h1;exact absurd h2 (by intro z;injection z with z;exact absurd z (by decide))
 refine W.kat_list_sort (h₀:=h0) (L:=L) (m:=m) (news:=jfy s.heap L D) (n:=n) ⟨hL,fun b o e=>(by rw[jgo]at e;cases e),Nat.zero_le _⟩ (fun p hp=>?_) hD hne (jgo D) (fun p hp=>(rest_mem.mp hp).2.2) h2 h64 fun e1 h' F' N'=>?_
 ·obtain⟨h1,h2,_⟩:=rest_mem.mp hp;exact⟨h1,h2,jgo _⟩
 ·have kept:∀b o,b≠L->b≠D->s.heap.get? b=some o->h'.get? b=some o:=fun b o hb1 hb2 e=>(N' (b,o) (ju6 _ (rest_mem.mpr ⟨e,hb1,hb2⟩))).1;have hK':Paired (fun k v=>∃b,v=Value.ref b/\(tkz prog w Z).is h' k b) kss vs:=Paired.mapP hK fun k v ⟨b,e,hb⟩=>⟨b,e,jrx hb fun o z=>kept b o (nL hb).1 (nL hb).2 z⟩;obtain⟨fs,hfs,hfl,hfi⟩:=jmq hK' hk0;refine W.kat_kind (s:={ heap:=h',gens:=s.gens,drawn:=s.drawn,toks:=s.toks,os:=s.os }) (T:=.type "int") hfs (by omega) (fun v hv=>?_) (by decide) ?_
  ·obtain⟨i,t,rfl⟩:=hfi v hv;intro A' Q' E' s' _ qq;exact wpAny_typeOf (T:="int") rfl qq
  ·show W.KasT.kasWp (W.kas_ask prog w A (tuples' true) vs) _ _ _;have O:KS.Ord (fun i j=>lx (kss.getD i []) (kss.getD j [])):=⟨fun a b h=>jgn h,fun a b c h1 h2=>jeF h1 h2⟩;obtain⟨sp,su⟩:=KS.jpb O (n:=vs.length) (by omega)
   refine KS.jpe (lt:=fun i j=>lx (kss.getD i []) (kss.getD j [])) (N:=vs.length) (fun i j C hi hj hC=>?_) (KS.jrw (by omega)) ?_
   ·obtain⟨ki,ei,b,e2,e3⟩:=jb9 hK' (ju5 hi);obtain⟨kj,ej,b',e2',e3'⟩:=jb9 hK' (ju5 hj);show wpAny _ _ (keyLt' (tuples' true) (vs.getD i Value.none) (vs.getD j Value.none)) _ _ _;rw[jvd,jvd,ju5 hi,ju5 hj,Option.getD_some,Option.getD_some,e2,e2'];refine jry (b:=true) e3 e3' ?_;have:lx (kss.getD i []) (kss.getD j [])=lx ki kj:=by rw[jvd,jvd,ei,ej];rfl
    rw[<-this];exact hC
   ·refine⟨(D,seqObj "list" #[] e1)::jfy s.heap L D,fun o'=>(D,o')::jfy s.heap L D,F',N',.head fun p hp=>(rest_mem.mp hp).2.2,fun h2 c F2 N2=>?_⟩;refine q h2 c _ sp su (N2 (D,_) ju7).1 F2.ns fun b o hb1 hb2 e=>(N2 (b,o) (ju6 _ (rest_mem.mpr ⟨e,hb1,hb2⟩))).1
theorem jgp {D:Addr}{vs:List Value}{n:Nat}{P:PySem.Fin->Shared->Prop}(hD:s.heap.get? D=some (seqObj "list" vs.toArray n))(h2:vs.length < 2)
  (q:∀(h':Heap) (c:Nat),h'.get? D=some (W.listOf vs.toArray c)->(∀b o,b≠D->s.heap.get? b=some o->h'.get? b=some o)->P (Fin.done (Flow.ret Value.none)) { s with heap:=h' }) :
  wpAny (model prog w) A (Builtin.«list.sort» { pos:=[.ref D] }) P E s:=by
 have hsl:vs.toArray.size<=sizeLine:=by rw[sizeLine_eq];simp;omega
 rw[list_sort_plain];refine jvx ?_;unfold Builtin.List.listItems;refine jvx (wpAny_seqItems hD rfl (jvy ?_));refine jvx (listUpdate_at hD rfl ?_ hsl (by simp))
 have u1:=jvI (Obj.mapSeq fun _=>(#[]:Array Value)) hD rfl;refine jvx (seqEpoch_at u1 rfl ?_);refine jvx (wpAny_newTuple ?_ (by simpa using hsl))
 refine jvx (wpAny_newList ?_ (by simp))
 refine jvC ?_;have hlt:vs.toArray.size < 2:=by simpa using h2
 rw[if_pos hlt];refine jvx (jvy ?_);have hrun:((if vs.toArray.size < 2 then pure ()else sortRuns').run (SortSt.mk' general' (vs.toArray.zip vs.toArray) #[] 7 none):Sem _)=pure ((),SortSt.mk' general' (vs.toArray.zip vs.toArray) #[] 7 none):=by
  rw[if_pos hlt];rfl
 refine jvx (jvA hrun ?_);have hs1:arrOf (SortSt.mk' general' (vs.toArray.zip vs.toArray) #[] 7 none)=vs.toArray.zip vs.toArray:=rfl;have hs2:failedOf (SortSt.mk' general' (vs.toArray.zip vs.toArray) #[] 7 none)=none:=rfl;have hsz:Array.map (fun x=>x.snd) (vs.toArray.zip vs.toArray)=vs.toArray:=by
  apply Array.ext';simp;clear hs1 hrun hlt u1 hsl q h2 hD;induction vs with
  |nil=>rfl
  |cons x r ih=>simp[ih]
 simp only[hs1,hs2,hsz];have u2:=jvF { cls:=Value.type "list",data:=Data.seq ([]:List Value).toArray } (jvF { cls:=Value.type "tuple",data:=Data.seq vs.toArray.toList.toArray } u1);refine jvx (seqEpoch_at u2 rfl ?_);refine jvx (listUpdate_at u2 rfl ?_ (by simp[sizeLine_eq]) (by simp at hsl ⊢;omega))
 have u3:=jvI (Obj.mapSeq fun _=>vs.toArray) u2 rfl;refine jvz (by simp) (jvy ?_)
 refine q _ _ u3 fun b o hb e=>?_;exact(jvJ _ _ (Ne.symm hb)).trans (jvF _ (jvF _ ((jvJ _ _ (Ne.symm hb)).trans e)))
end
end HS
namespace HS
open PySem PySem.Spec PyProof.Rows L2
noncomputable def Rise (l:List (List Int)):Prop:=l.Pairwise fun a b=>lx b a=false
theorem jfz:∀{l l':List (List Int)},l.Perm l'->Rise l->Rise l'->l=l'
 |[],l',h,_,_=>(List.Perm.nil_eq h)
 |a::l,[],h,_,_=>by have:=h.length_eq;simp at this
 |a::l,b::l',h,h1,h2=>by
  have hab:a=b:=by
   have ha:a∈b::l':=h.mem_iff.mp ju7;have hb:b∈a::l:=h.mem_iff.mpr ju7;rcases List.mem_cons.mp ha with e | ha
   ·exact e
   ·rcases List.mem_cons.mp hb with e | hb
    ·exact e.symm
    ·exact jj7 ((List.pairwise_cons.mp h2).1 a ha) ((List.pairwise_cons.mp h1).1 b hb)
  subst hab;rw[jfz (List.Perm.cons_inv h) (List.pairwise_cons.mp h1).2 (List.pairwise_cons.mp h2).2]
theorem jit {α:Type}(d:α)(l:List α):(List.range l.length).map (fun i=>l.getD i d)=l:=by
 apply List.ext_getElem?;intro i;rw[jvb];by_cases h:i < l.length
 ·rw[List.getElem?_range h,ju5 h];simp[jvd,ju5 h]
 ·rw[jvl (by simp;omega),jvl (by omega)]
  rfl
theorem jpf {kss:List (List Int)}{p:Array Nat}{n:Nat}(hn:p.size=n)(h:KS.Up (fun i j=>lx (kss.getD i []) (kss.getD j [])) p n):Rise (p.toList.map fun i=>kss.getD i []):=by
 unfold Rise;rw[List.pairwise_iff_getElem];intro i j hi hj hij;rw[List.getElem_map,List.getElem_map];simp at hi hj;have:=h i j (Nat.le_of_lt hij) (by omega)
 unfold KS.le KS.at_ at this;simpa[Array.getD,hi,hj] using this
section
variable {prog:Program}{w:World}{Z:List Int->Addr->Prop}{A:Around}{E:Value->Shared->Prop}{s:Shared}
noncomputable abbrev Kys (prog:Program)(w:World)(Z:List Int->Addr->Prop)(h:Heap)(kss:List (List Int))(vs:List Value):Prop:=Paired (fun k v=>∃b,v=Value.ref b/\(tkz prog w Z).is h k b) kss vs
theorem jj8 {h:Heap}{kss:List (List Int)}{vs:List Value}(K:Kys prog w Z h kss vs):∀{p:List Nat},(∀i∈p,i < vs.length)->Kys prog w Z h (p.map fun i=>kss.getD i []) (p.map fun i=>vs.getD i Value.none)
 |[],_=>.nil
 |i::p,hp=>by
  have hi:=hp i ju7;obtain⟨k,e1,e2⟩:=jb9 K (ju5 hi);refine .cons ?_ (jj8 K fun j hj=>hp j (ju6 _ hj));simp only[jvd,e1,ju5 hi,Option.getD_some];exact e2
theorem jiu {x:Value}{L:Addr}{m:Str->Option Value}{vs:List Value}{kss:List (List Int)}{Q:Value->Shared->Prop}(hL:s.heap.Ns L m)(hK:Kys prog w Z s.heap kss vs)(hk0:∀k∈kss,k≠[])(h64:vs.length < 64)
  (hcol:∀{Q':List Value->Shared->Prop},(∀s1:Shared,SubH s.heap s1.heap->s.heap.objs.size<=s1.heap.objs.size->s1.gens=s.gens->s1.os=s.os->Q' vs s1)->wpAny (model prog w) A.in1 (collect x) Q' E s)
  (q:∀(s':Shared) (D:Addr) (c:Nat) (kss':List (List Int)) (vs':List Value),s.heap.objs.size<=D->kss'.Perm kss->Rise kss'->Kys prog w Z s.heap kss' vs'->s'.heap.get? D=some (W.listOf vs'.toArray c)->s'.heap.Ns L m->(∀b o,b≠L->s.heap.get? b=some o->s'.heap.get? b=some o)->s'.gens=s.gens->s'.os=s.os->Q (.ref D) s') :
  wpAny (model prog w) A (call (Value.builtin "sorted") [x]) Q E s:=by
 have hsl:vs.length<=sizeLine:=by rw[sizeLine_eq];omega
 refine Calls.call_function_entry kind_sorted plain_sorted entry_sorted (args_sorted1 x) ?_;unfold Builtin.sorted;refine jvx (jvy ?_);refine jvx (hcol fun s1 k1 kz g1 o1=>?_);refine jvx (wpAny_newList ?_ hsl);have hD:=jvH s1.heap (o:=seqObj "list" vs.toArray 0) rfl;have hK1:Kys prog w Z (s1.heap.push (seqObj "list" vs.toArray 0)) kss vs:=Paired.mapP hK fun k v ⟨b,e,hb⟩=>⟨b,e,jrx hb fun o z=>jvF _ (k1 b o z)⟩;have hL1:(s1.heap.push (seqObj "list" vs.toArray 0)).Ns L m:=by
  obtain⟨o,es,ep,e1,e2⟩:=hL;exact⟨o,es,ep,jvF _ (k1 _ _ e1),e2⟩
 have hLD:s1.heap.objs.size≠L:=by
  obtain⟨o,es,ep,e1,e2⟩:=hL;exact Nat.ne_of_gt (jvG (k1 _ _ e1))
 have hkl:kss.length=vs.length:=Paired.length hK;refine jvx (jvC (wpAny_call_entry slot_list_sort ⟨_,hD,rfl⟩ entry_list_sort ?_ (args_list_sort _)));by_cases h2:2<=vs.length
 ·refine jmr hL1 hD hLD h2 h64 hK1 hk0 fun h' c p hp hu e3 n3 k3=>⟨_,rfl,jvy ⟨_,rfl,?_⟩⟩;have hps:p.size=vs.length:=by have:=hp.toList.length_eq;simpa using this
  have hpl:p.toList.Perm (List.range vs.length):=by have:=hp.toList;simpa using this
  refine q { s1 with heap:=h' } s1.heap.objs.size c _ _ kz ?_ (jpf hps hu) (jj8 hK fun i hi=>List.mem_range.mp (hpl.mem_iff.mp hi)) e3 n3 (fun b o hb e=>?_) g1 o1
  ·have:=hpl.map fun i=>kss.getD i [];rwa [<-hkl,jit]at this
  ·exact k3 b o hb (jvM (jvL (jvG e) kz)) (jvF _ (k1 b o e))
 ·refine jgp hD (by omega) fun h' c e3 k3=>⟨_,rfl,jvy ⟨_,rfl,?_⟩⟩
  refine q { s1 with heap:=h' } s1.heap.objs.size c kss vs kz (.refl _) ?_ hK e3 ?_ (fun b o hb e=>?_) g1 o1
  ·match kss,hkl with
   |[],_=>exact List.Pairwise.nil
   |[a],_=>exact List.pairwise_singleton _ _
   |_::_::_,hkl=>simp at hkl;omega
  ·obtain⟨o,es,ep,e1,e2⟩:=hL1;exact⟨o,es,ep,k3 _ _ (Ne.symm hLD) e1,e2⟩
  ·exact k3 b o (jvM (jvL (jvG e) kz)) (jvF _ (k1 b o e))
end
end HS
namespace L2
open PySem PySem.Spec PyProof.Rows HS
section
variable {X:Cx}{pins:List (Addr×Obj)}{σ:St}{H:Hp}{s:Shared}
theorem Inv.keptL (I:Inv X pins σ H s){m:Str->Option Value}(hl:∀(i:Nat) (x:Str) (v:V),X.N[i]?=some x->σ[i]?=some (some v)->Vis X.env.scope x->∃u,RelV v u/\Look X.env s.heap m x u){s':Shared}(k:∀b o,b≠X.env.locals->s.heap.get? b=some o->s'.heap.get? b=some o)(hn:s'.heap.Ns X.env.locals m)(hg:s'.gens=s.gens)(ho:s'.os=s.os):Inv X pins σ H s':=by
 have ne0:∀c o,X.s₀.heap.get? c=some o->c≠X.env.locals:=fun c o e=>jvM (jvL (jvG e) I.ok.above);have neH:∀c u,H c=some u->c≠X.env.locals:=fun c u e z=>by rw[z,I.free]at e;cases e
 have neC:∀c v,s.heap.IsCell c v->c≠X.env.locals:=fun c v ⟨o,e1,e2⟩ z=>by
  obtain⟨m',⟨o',es,ep,h1,h2,_⟩,_⟩:=I.loc;rw[z,h1]at e1;cases e1;rw[h2]at e2;cases e2
 refine⟨I.ok,ho.trans I.os,by rw[hg];exact I.bare,⟨fun c o e n h1 h2=>k c o (ne0 c o e) (I.base.keep c o e n h1 h2),fun c o e n h1 h2=>?_,I.base.free,fun c o e h1=>?_,I.base.tups,I.base.frzs,I.base.tbls⟩,⟨m,hn,fun i x v h1 h2 h3=>?_⟩,fun x c e=>?_,I.free,I.freeC,fun p hp=>?_,fun a o e=>?_,I.len⟩
 ·obtain⟨sl,q⟩:=I.base.slot c o e n h1 h2;exact⟨sl,k c _ (ne0 c o e) q⟩
 ·obtain⟨o',q⟩:=I.base.there c o e h1;exact⟨o',k c _ (ne0 c o e) q⟩
 ·obtain⟨u,r,lk⟩:=hl i x v h1 h2 h3;exact⟨u,r,lk.imp id fun ⟨h4,c,h5,o,h6⟩=>⟨h4,c,h5,o,k _ _ (neC c _ ⟨o,h6⟩) h6.1,h6.2⟩⟩
 ·obtain⟨v,o,h6⟩:=I.cell x c e;exact⟨v,o,k _ _ (neC c _ ⟨o,h6⟩) h6.1,h6.2⟩
 ·obtain⟨h1,h2,h3,h4⟩:=I.pin p hp;exact⟨k _ _ h3 h1,h2,h3,h4⟩
 ·refine(I.hok a o e).stay (fun c u hc q=>k c u ?_ q) (fun c hc=>hc) fun c xs hc=>hc;rcases hc with rfl | hc
  ·exact neH _ _ e
  ·exact neH _ _ hc
theorem Inv.laidL (I:Inv X pins σ H s){m:Str->Option Value}(hl:∀(i:Nat) (x:Str) (v:V),X.N[i]?=some x->σ[i]?=some (some v)->Vis X.env.scope x->∃u,RelV v u/\Look X.env s.heap m x u){s':Shared}(k:∀b o,b≠X.env.locals->s.heap.get? b=some o->s'.heap.get? b=some o)(hn:s'.heap.Ns X.env.locals m)(hg:s'.gens=s.gens)(ho:s'.os=s.os)
  {a:Addr}{o:HO} (ha:s.heap.objs.size<=a) (new:ObjOk X.prog X.w (upd H a o) s'.heap a o):Inv X pins σ (upd H a o) s':=by
 obtain⟨n0,n1,n2,n3,n4⟩:=I.new ha;exact(I.keptL hl k hn hg ho).track n4 n0 n1 n2 n3 new
noncomputable def KysV (Z:List Int->Addr->Prop)(kss:List (List Int))(vs:List V):Prop:=Paired (fun k v=>∃b,v=V.ref b/\Z k b) kss vs
noncomputable def Zok (K:PySem.W.Frag)(H:Hp)(Z:List Int->Addr->Prop):Prop:=∀k b,Z k b->SqT K H b (k.map V.int)
theorem jj9 {P:Program}{w:World}{k:List Int}{us:List Value}(h:Vals (k.map V.int) us):PySem.ItemsAre (intKind P w) k us:=by
 induction k generalizing us with
 |nil=>cases h;exact .nil
 |cons i k ih=>
  cases h with
  |cons h p=>
   obtain⟨t,rfl⟩:=h;exact .cons (by show Value.isInt i (.int i t)=true;simp[Value.isInt]) (ih p)
theorem Inv.tkey (I:Inv X pins σ H s){Z:List Int->Addr->Prop}(hZ:Zok X.K H Z){k:List Int}{b:Addr}(h:Z k b):(tkz X.prog X.w Z).is s.heap k b:=by
 obtain⟨its,r,⟨o,e1,e2,n,e3⟩,hz⟩:=I.tuple (hZ k b h);exact⟨⟨o,its.toArray,n,e1,e2,e3,jj9 r⟩,h⟩
theorem Inv.kys (I:Inv X pins σ H s){Z:List Int->Addr->Prop}(hZ:Zok X.K H Z):∀{kss:List (List Int)}{vs:List V}{us:List Value},KysV Z kss vs->Vals vs us->Kys X.prog X.w Z s.heap kss us:=by
 intro kss vs us h;induction h generalizing us with
 |nil=>intro q;cases q;exact .nil
 |cons hd p ih=>
  intro q;cases q with
  |cons r q=>
   obtain⟨b,e,h⟩:=hd;subst e;cases r;exact .cons ⟨b,rfl,I.tkey hZ h⟩ (ih q)
theorem jms {P:Program}{w:World}{Z:List Int->Addr->Prop}{h:Heap}:∀{kss:List (List Int)}{us:List Value},Kys P w Z h kss us->∃ws,KysV Z kss ws/\Vals ws us:=by
 intro kss us p;induction p with
 |nil=>exact⟨[],.nil,.nil⟩
 |cons hd p ih=>
  obtain⟨b,e,h⟩:=hd;obtain⟨ws,h1,h2⟩:=ih;subst e;exact⟨V.ref b::ws,.cons ⟨b,rfl,h.2⟩ h1,.cons rfl h2⟩
inductive rSrtL_I (X:Cx) (xs:List V) (H:Hp) (Q:VK):Prop
 |mk (p:_) (vs:_) (kss:_) (Z:_):(xs=[.ref p])->(SqL X.K H p vs)->(Zok X.K H Z)->(KysV Z kss vs)->((∀k∈kss,k≠[]))->(vs.length < 64)->(∀kss' ws,kss'.Perm kss->Rise kss'->KysV Z kss' ws->∀l,H l=none->Q (.ref l) (upd H l (.lst ws)))->rSrtL_I X xs H Q
noncomputable def jrz (X:Cx):List V->Hp->VK->Prop:=fun xs H Q=>rSrtL_I X xs H Q
theorem jfA:CallR X (.builtin "sorted") (jrz X):=by
 intro pins s σ H xs us Q I r h;obtain⟨p,vs,kss,Z,rfl,hq,hZ,hK,hk0,h64,q⟩:=h;obtain⟨u,rfl,rx⟩:=jbV r;cases rx;obtain⟨its,r',pl,hz⟩:=I.list hq;have hlen:=r'.length;obtain⟨m,hns,hl⟩:=id I.loc;have hKs:=I.kys hZ hK r';refine jiu (Z:=Z) hns hKs hk0 (by omega) (fun {Q'} q'=>?_) fun s' D c kss' vs' hD hp hr hK' e n' k' g o=>?_
 ·refine collect_list pl.isList (q' _ (fun b o e=>?_) ?_ rfl rfl) (by omega)
  ·have hlt:=jvG e;rw[jvJ _ _ (Nat.ne_of_gt hlt)];exact jvF _ e
  ·rw[Heap.size_update,Heap.size_push];exact Nat.le_succ _
 ·obtain⟨ws,w1,w2⟩:=jms hK';have hwl:ws.length<=sizeLine:=by
   have h1:=w2.length;have h2:=Paired.length hK';have h3:=hp.length_eq;have h4:=Paired.length hK;rw[h1,<-h2,h3,h4];exact hz
  exact⟨.ref D,_,I.laidL (o:=.lst ws) hl k' n' g o hD ⟨hwl,vs',c,w2,e⟩,rfl,q kss' ws hp hr w1 D (I.hok.fresh hD)⟩
end
end L2
namespace DJ
open PySem
inductive D where
 |non | bl (b:Bool) | int (i:Int) | str (x:Str) | tup (xs:List D) | lst (xs:List D) | dct (ks vs:List D) | exc (c:Nat)
 deriving Inhabited
inductive R (α:Type) where
 |ok (a:α) | err (c:Nat) | stk
namespace R
noncomputable def bind {α β:Type}(x:R α)(f:α->R β):R β:=match x with
 |ok a=>f a
 |err c=>err c
 |stk=>stk
noncomputable def noErr {α:Type}:R α->R α
 |ok a=>ok a
 |_=>stk
noncomputable def pass {α:Type}(x:Bool)(r:R α):R α:=if x then r else r.noErr
end R
inductive Op where | add | sub | mul | fdiv | mod | pow
inductive Cm where | eq | ne | lt | le | gt | ge | isn | notn
 |isin | notin
inductive Bf where | len | tuple | list | all | any | sum | min | max | sorted | ssorted | abs | int | revl | revt
 |str
 |lrng
inductive Sm where | join | cnt | splt
inductive Ty where | int | bool | str | tuple | list | dict | exc (c:Nat) | verr
 deriving DecidableEq
mutual
inductive E where
 |lit (d:D)
 |var (i:Nat)
 |bin (o:Op) (a b:E)
 |cmp (o:Cm) (a b:E)
 |and (a b:E) | or (a b:E) | not (a:E) | ite (c a b:E)
 |tup (es:Es) | lst (es:Es)
 |idx (a b:E) | slc (a:E) (lo hi:Oe)
 |call (f:Nat) (fl:List Bool) (es:Es)
 |blt (f:Bf) (a:E)
 |sm (f:Sm) (a b:E)
 |isi (a:E) (ks:List Ty)
 |comp (elt:E) (tg:List Nat) (one:Bool) (n:Nat) (caps:List Nat) (it:It) (c:Oe) (x:Bool)
 |pop (i:Nat)
inductive Es where
 |nil | cons (e:E) (es:Es)
inductive Oe where
 |none | some (e:E)
inductive It where
 |seq (e:E) | rng1 (a:E)
 |zip (a b:E)
end
mutual
inductive S where
 |ret (e:E) | retN | expr (e:E) | asg (i:Nat) (e:E) | unp (is:List Nat) (e:E)
 |app (i:Nat) (e:E) | ext (i:Nat) (e:E)
 |sub (i:Nat) (k e:E)
 |ife (c:E) (a b:Ss) | loop (tg:List Nat) (one:Bool) (it:It) (b:Ss) | whl (c:E) (b:Ss)
 |brk | cnt | pas | rai (c:Nat) (e:E)
 |tryx (b:S) (c:Nat) (i:Option Nat) (h:Ss)
inductive Ss where
 |nil | cons (s:S) (ss:Ss)
end
inductive O where | l (xs:List D) | d (ks vs:List D)
noncomputable def O.toD:O->D
 |.l xs=>.lst xs
 |.d ks vs=>.dct ks vs
inductive Sl where | no | dat (d:D) | own (o:O) (lent lock:Bool)
noncomputable abbrev Rho:=List Sl
inductive Vl where | dat (d:D) | tmp (o:O) | slot (i:Nat)
inductive Fl where | nx (ρ:Rho) | rt (v:Vl) (ρ:Rho) | bk (ρ:Rho) | ct (ρ:Rho)
mutual
noncomputable def eqD:D->D->Bool
 |.non,y=>match y with
  |.non=>true
  |_=>false
 |.bl a,y=>match y with
  |.bl b=>a == b
  |.int b=>(if a then 1 else 0) == b
  |_=>false
 |.int a,y=>match y with
  |.bl b=>a == (if b then 1 else 0)
  |.int b=>a == b
  |_=>false
 |.str a,y=>match y with
  |.str b=>a == b
  |_=>false
 |.tup a,y=>match y with
  |.tup b=>eqDs a b
  |_=>false
 |.lst a,y=>match y with
  |.lst b=>eqDs a b
  |_=>false
 |.dct _ _,_=>false
 |.exc _,_=>false
noncomputable def eqDs:List D->List D->Bool
 |[],[]=>true
 |a::as,b::bs=>eqD a b && eqDs as bs
 |_,_=>false
end
mutual
noncomputable def jbw:D->Bool
 |.non=>true
 |.bl _=>true
 |.int _=>true
 |.str _=>true
 |.tup a=>cmpDs a
 |.lst a=>cmpDs a
 |_=>false
noncomputable def cmpDs:List D->Bool
 |[]=>true
 |a::as=>jbw a && cmpDs as
end
mutual
noncomputable def deep:D->Nat
 |.tup a=>deeps a + 1
 |.lst a=>deeps a + 1
 |_=>0
noncomputable def deeps:List D->Nat
 |[]=>0
 |a::as=>Nat.max (deep a) (deeps as)
end
noncomputable def ja6 (n:Nat):Bool:=n<=16777216
noncomputable def opZ (a b:Int):Op->R Vl
 |.add=>.ok (.dat (.int (a + b)))
 |.sub=>.ok (.dat (.int (a - b)))
 |.mul=>if (-(2 ^ 64) < a/\a < 2 ^ 64)\/(-(2 ^ 64) < b/\b < 2 ^ 64)then .ok (.dat (.int (a * b)))else .stk
 |.fdiv=>if 0 < b/\b < 2 ^ 64 then .ok (.dat (.int (a / b)))else .stk
 |.mod=>if 0 < b then .ok (.dat (.int (a % b)))else .stk
 |.pow=>if 0<=b/\b<=1000000/\a.natAbs < 2 ^ 64 then .ok (.dat (.int (a ^ b.toNat)))else .stk
noncomputable def opC (v:R Vl):Op->R Vl
 |.add=>v
 |_=>.stk
noncomputable def opM (v:R Vl):Op->R Vl
 |.mul=>v
 |_=>.stk
noncomputable def opD (o:Op)(x y:D):R Vl:=match x with
 |.int a=>match y with
  |.int b=>opZ a b o
  |_=>.stk
 |.tup a=>match y with
  |.tup b=>opC (if ja6 (a.length + b.length)then .ok (.dat (.tup (a++b)))else .stk) o
  |.int b=>opM (if 0<=b/\b<=16777216/\ja6 (a.length * b.toNat)then .ok (.dat (.tup (List.replicate b.toNat a).flatten))else .stk) o
  |_=>.stk
 |.lst a=>match y with
  |.lst b=>opC (if ja6 (a.length + b.length)then .ok (.tmp (.l (a++b)))else .stk) o
  |.bl b=>opM (if ja6 a.length then .ok (.tmp (.l (if b then a else [])))else .stk) o
  |_=>.stk
 |.str a=>match y with
  |.int b=>opM (if 0<=b/\b<=1000/\a.length<=1000 then .ok (.dat (.str (Txt.mul a b)))else .stk) o
  |.str b=>opC (if ja6 (a.length + b.length)then .ok (.dat (.str (a++b)))else .stk) o
  |_=>.stk
 |_=>.stk
noncomputable def jbT:D->R Bool
 |.non=>.ok false
 |.bl b=>.ok b
 |.int i=>.ok (i != 0)
 |.tup xs=>.ok (!xs.isEmpty)
 |.lst xs=>.ok (!xs.isEmpty)
 |_=>.stk
noncomputable def ja7:List D->Option (List Int)
 |[]=>some []
 |.int i::r=>(ja7 r).map (i::·)
 |_::_=>none
noncomputable def lexLt:List Int->List Int->Bool
 |[],[]=>false
 |[],_::_=>true
 |_::_,[]=>false
 |x::xs,y::ys=>if x=y then lexLt xs ys else decide (x < y)
noncomputable def ltD:D->D->R Bool
 |.int a,.int b=>.ok (decide (a < b))
 |.tup a,.tup b=>match ja7 a,ja7 b with
  |some x,some y=>.ok (lexLt x y)
  |_,_=>.stk
 |_,_=>.stk
noncomputable def ja5:D->R (List D)
 |.tup xs=>.ok xs
 |.lst xs=>.ok xs
 |_=>.stk
noncomputable def eqR (a b:D):R Bool:=if jbw a && jbw b && deep a<=12 && deep b<=12 then .ok (eqD a b)else .stk
noncomputable def inR (a b:D):R Bool:=(ja5 b).bind fun ys=>if jbw a && cmpDs ys && deep a<=12 && deeps ys<=12 then .ok (ys.any fun y=>eqD y a)else .stk
noncomputable def inX (a b:D):R Bool:=match b with
 |.str y=>(match a with
  |.str x=>.ok (Txt.contains y x)
  |_=>.stk)
 |b=>inR a b
noncomputable def jrA (f:Int->Int->Bool)(x y:D):R Bool:=match x with
 |.int a=>match y with
  |.int b=>.ok (f a b)
  |_=>.stk
 |_=>.stk
noncomputable def isN:D->Bool
 |.non=>true
 |_=>false
noncomputable def cmD (o:Cm)(a b:D):R Bool:=match o with
 |.eq=>eqR a b
 |.ne=>(eqR a b).bind fun c=>.ok (!c)
 |.lt=>ltD a b
 |.gt=>jrA (fun a b=>decide (b < a)) a b
 |.le=>jrA (fun a b=>decide (a<=b)) a b
 |.ge=>jrA (fun a b=>decide (b<=a)) a b
 |.isn=>if isN b then .ok (isN a)else .stk
 |.notn=>if isN b then .ok (!isN a)else .stk
 |.isin=>inX a b
 |.notin=>(inX a b).bind fun c=>.ok (!c)
noncomputable def atI (xs:List D)(i:Int):R D:=
 if 0<=i then (match xs[i.toNat]? with | some d=>.ok d | none=>.stk)
 else if 0<=i + xs.length then (match xs[(i + xs.length).toNat]? with | some d=>.ok d | none=>.stk)else .stk
noncomputable def atC (x:Str)(i:Int):R D:=
 if ja6 x.length then
  (match (if 0<=i then x.cps.toList[i.toNat]? else if 0<=i + x.length then x.cps.toList[(i + x.length).toNat]? else none)with | some c=>.ok (.str ⟨#[c]⟩) | none=>.stk)
 else .stk
noncomputable def jka:D->D->R D
 |.tup xs,.int i=>atI xs i
 |.lst xs,.int i=>atI xs i
 |.str x,.int i=>atC x i
 |_,_=>.stk
noncomputable def sIx (n d:Nat):Option Int->Nat
 |none=>d
 |some v=>if v < 0 then (v + n).toNat else min v.toNat n
noncomputable def cut {α:Type}(xs:List α)(lo hi:Option Int):List α:=(xs.drop (sIx xs.length 0 lo)).take (sIx xs.length xs.length hi - sIx xs.length 0 lo)
noncomputable def jiv:D->Option Int->Option Int->R Vl
 |.tup xs,lo,hi=>.ok (.dat (.tup (cut xs lo hi)))
 |.lst xs,lo,hi=>.ok (.tmp (.l (cut xs lo hi)))
 |.str x,lo,hi=>if ja6 x.length then .ok (.dat (.str (Txt.slice x lo hi)))else .stk
 |_,_,_=>.stk
noncomputable def jaD:List D->Option (List Bool)
 |[]=>some []
 |.bl b::r=>(jaD r).map (b::·)
 |.int i::r=>(jaD r).map ((i != 0)::·)
 |_::_=>none
noncomputable def juf:List Int->Int->Int
 |[],m=>m
 |x::r,m=>juf r (if x < m then x else m)
noncomputable def jug:List Int->Int->Int
 |[],m=>m
 |x::r,m=>jug r (if x > m then x else m)
noncomputable def jhr (x:List Int):List (List Int)->List (List Int)
 |[]=>[x]
 |y::r=>if lexLt y x then y::jhr x r else x::y::r
noncomputable def jbH:List (List Int)->List (List Int)
 |[]=>[]
 |x::r=>jhr x (jbH r)
noncomputable def jpg:List (List Int)->List (List Int)
 |[]=>[]
 |x::r=>if r.contains x then jpg r else x::jpg r
noncomputable def jbA:List D->Option (List (List Int))
 |[]=>some []
 |.tup xs::r=>match ja7 xs,jbA r with
  |some k,some ks=>some (k::ks)
  |_,_=>none
 |_::_=>none
noncomputable def jsQ (k:List Int):D:=.tup (k.map .int)
noncomputable def jeG (kss:List (List Int)):R Vl:=if kss.all (fun k=>!k.isEmpty) && kss.length < 64 then .ok (.tmp (.l ((jbH kss).map jsQ)))else .stk
noncomputable def jkb (a:Int)(n:Nat):List D:=(List.range n).map fun (k:Nat)=>D.int (a + (k:Int))
noncomputable def bfD (f:Bf)(d:D):R Vl:=match f with
 |.abs=>match d with
  |.int i=>.ok (.dat (.int (if i < 0 then -i else i)))
  |_=>.stk
 |.int=>match d with
  |.int i=>.ok (.dat (.int i))
  |.bl b=>.ok (.dat (.int (if b then 1 else 0)))
  |.str x=>if x.length<=640 then (match PySem.intText? x with | some n=>.ok (.dat (.int n)) | none=>.stk)else .stk
  |_=>.stk
 |.len=>match d with
  |.str x=>if ja6 x.length then .ok (.dat (.int x.length))else .stk
  |d=>(ja5 d).bind fun xs=>.ok (.dat (.int xs.length))
 |.tuple=>(ja5 d).bind fun xs=>.ok (.dat (.tup xs))
 |.list=>(ja5 d).bind fun xs=>.ok (.tmp (.l xs))
 |.all=>(ja5 d).bind fun xs=>match jaD xs with | some bs=>.ok (.dat (.bl (bs.all id))) | none=>.stk
 |.any=>(ja5 d).bind fun xs=>match jaD xs with | some bs=>.ok (.dat (.bl (bs.any id))) | none=>.stk
 |.sum=>(ja5 d).bind fun xs=>match ja7 xs with | some ns=>.ok (.dat (.int ns.sum)) | none=>.stk
 |.min=>(ja5 d).bind fun xs=>match ja7 xs with | some (n::ns)=>.ok (.dat (.int (juf ns n))) | _=>.stk
 |.max=>(ja5 d).bind fun xs=>match ja7 xs with | some (n::ns)=>.ok (.dat (.int (jug ns n))) | _=>.stk
 |.sorted=>match d with
  |.lst xs=>match jbA xs with | some kss=>jeG kss | none=>.stk
  |_=>.stk
 |.ssorted=>(ja5 d).bind fun xs=>match jbA xs with | some kss=>if kss.length < 4000 then jeG (jpg kss)else .stk | none=>.stk
 |.revl=>match d with
  |.lst xs=>.ok (.tmp (.l xs.reverse))
  |_=>.stk
 |.revt=>match d with
  |.tup xs=>.ok (.dat (.tup xs.reverse))
  |_=>.stk
 |.str=>match d with
  |.int i=>if i.natAbs.log2 < 1920 then .ok (.dat (.str (Str.ofString (toString i))))else .stk
  |_=>.stk
 |.lrng=>match d with
  |.int n=>if 0<=n/\n<=16777216 then .ok (.tmp (.l (jkb 0 n.toNat)))else .stk
  |_=>.stk
noncomputable def jcm:List D->Option (List Str)
 |[]=>some []
 |.str x::r=>(jcm r).map (x::·)
 |_::_=>none
noncomputable def smD (f:Sm)(x:Str)(d:D):R Vl:=match f with
 |.join=>match d with
  |.lst xs=>(match jcm xs with
   |some ys=>if (ys.map (·.length)).sum + ys.length * x.length<=16777216 then .ok (.dat (.str (Txt.join x ys)))else .stk
   |none=>.stk)
  |_=>.stk
 |.cnt=>match d with
  |.str y=>.ok (.dat (.int (Txt.count x y)))
  |_=>.stk
 |.splt=>match d with
  |.str y=>if y.length != 0 && ja6 x.length && ja6 (Txt.split x y).length then .ok (.tmp (.l ((Txt.split x y).map .str)))else .stk
  |_=>.stk
noncomputable def juh:Vl->R Str
 |.dat (.str x)=>.ok x
 |_=>.stk
noncomputable def tyB:D->Ty->Bool
 |.bl _,t=>t == .bool || t == .int
 |.int _,t=>t == .int
 |.str _,t=>t == .str
 |.tup _,t=>t == .tuple
 |.lst _,t=>t == .list
 |.dct _ _,t=>t == .dict
 |_,_=>false
noncomputable def tyP (d:D):Ty->R Bool
 |.exc _=>.stk
 |.verr=>.stk
 |t=>.ok (tyB d t)
section
variable (U:Nat->Nat->Bool)
noncomputable def jqK (d:D)(t:Ty):R Bool:=match d with
 |.exc c=>match t with
  |.exc k=>.ok (U c k)
  |.verr=>.ok true
  |_=>.stk
 |d=>tyP d t
noncomputable def jaq:D->List Ty->R Bool
 |_,[]=>.ok false
 |d,t::r=>(jqK U d t).bind fun b=>if b then .ok true else jaq d r
end
noncomputable def jfB:D->R (List D)
 |.int n=>if -16777216<=n/\n<=16777216 then .ok (jkb 0 n.toNat)else .stk
 |_=>.stk
noncomputable def jfC:List D->List D->List D
 |a::as,b::bs=>.tup [a,b]::jfC as bs
 |_,_=>[]
noncomputable def deref (v:Vl)(ρ:Rho):R D:=match v with
 |.dat d=>.ok d
 |.tmp o=>.ok o.toD
 |.slot i=>match ρ[i]? with | some (.own o _ _)=>.ok o.toD | _=>.stk
noncomputable def toD (v:Vl)(ρ:Rho):R (D×Rho):=match v with
 |.dat d=>.ok (d,ρ)
 |.tmp o=>.ok (o.toD,ρ)
 |.slot i=>match ρ[i]? with | some (.own o false false)=>.ok (o.toD,ρ.set i (.dat o.toD)) | _=>.stk
noncomputable def jhs (v:Vl)(ρ:Rho):R (Sl×Rho):=match v with
 |.tmp o=>.ok (.own o false false,ρ)
 |v=>(toD v ρ).bind fun p=>.ok (.dat p.1,p.2)
noncomputable def putT (tg:List Nat)(one:Bool)(d:D)(ρ:Rho):R Rho:=match one,tg,d with
 |true,[i],d=>.ok (ρ.set i (.dat d))
 |false,is,.tup xs=>if is.length=xs.length then .ok ((is.zip xs).foldl (fun r p=>r.set p.1 (.dat p.2)) ρ)else .stk
 |_,_,_=>.stk
noncomputable def jaL (v:Vl)(ρ:Rho):R (List D×List Nat×Rho):=match v with
 |.dat d=>(ja5 d).bind fun xs=>.ok (xs,[],ρ)
 |.tmp (.l xs)=>.ok (xs,[],ρ)
 |.slot i=>match ρ[i]? with
  |some (.own (.l xs) _ true)=>.ok (xs,[],ρ)
  |some (.own (.l xs) f false)=>.ok (xs,[i],ρ.set i (.own (.l xs) f true))
  |_=>.stk
 |_=>.stk
noncomputable def jbX (v:Vl)(ρ:Rho):R (List D×List Nat×Rho):=match v with
 |.dat (.str x)=>if ja6 x.length then .ok (x.cps.toList.map (fun c=>D.str ⟨#[c]⟩),[],ρ)else .stk
 |v=>jaL v ρ
noncomputable def unlk:List Nat->Rho->Rho
 |[],ρ=>ρ
 |i::r,ρ=>unlk r (match ρ[i]? with | some (.own o f _)=>ρ.set i (.own o f false) | _=>ρ)
noncomputable def jeH (ls:List Nat):Fl->Fl
 |.nx ρ=>.nx (unlk ls ρ)
 |.bk ρ=>.bk (unlk ls ρ)
 |.ct ρ=>.ct (unlk ls ρ)
 |.rt v ρ=>.rt v (unlk ls ρ)
noncomputable def compGo (f:D->Rho->R (Option D×Rho)):List D->Rho->R (List D×Rho)
 |[],ρ=>.ok ([],ρ)
 |x::xs,ρ=>(f x ρ).bind fun p=>(compGo f xs p.2).bind fun q=>.ok (match p.1 with | some d=>d::q.1 | none=>q.1,q.2)
noncomputable def jcn (ρ:Rho)(caps:List Nat):Rho:=caps.map fun i=>match ρ[i]? with | some s=>s | none=>.no
noncomputable def jd7 (nt:Nat)(caps:List Nat)(ρ:Rho):Rho:=List.replicate nt .no++jcn ρ caps
noncomputable def jaN:List Nat->Nat->Rho->Rho->Rho
 |[],_,_,ρ=>ρ
 |j::r,k,inn,ρ=>jaN r (k + 1) inn (match inn[k]? with | some s=>ρ.set j s | none=>ρ)
noncomputable def jiw (lend:Bool)(v:Vl)(ρ:Rho):R (Sl×Option (Nat×Bool×Bool)×Rho):=match lend,v with
 |true,.slot i=>match ρ[i]? with
  |some (.own o f k)=>.ok (.own o true k,some (i,f,k),ρ.set i .no)
  |_=>.stk
 |_,v=>(toD v ρ).bind fun p=>.ok (.dat p.1,none,p.2)
noncomputable def jaO:List Bool->List Vl->Rho->R (List Sl×List (Option (Nat×Bool×Bool))×Rho)
 |_,[],ρ=>.ok ([],[],ρ)
 |fl,v::vs,ρ=>(jiw (fl.headD false) v ρ).bind fun p=>(jaO fl.tail vs p.2.2).bind fun q=>.ok (p.1::q.1,p.2.1::q.2.1,q.2.2)
noncomputable def jbr:List (Option (Nat×Bool×Bool))->List Sl->Rho->Rho
 |[],_,ρ=>ρ
 |_,[],ρ=>ρ
 |none::r,_::fs,ρ=>jbr r fs ρ
 |some (i,f,k)::r,s::fs,ρ=>jbr r fs (match s with | .own o _ _=>ρ.set i (.own o f k) | _=>ρ)
noncomputable def juH:Sl->Sl
 |.own o true k=>.own o true k
 |_=>.no
noncomputable def jc1:Vl->R Bool
 |.dat (.bl b)=>.ok b
 |_=>.stk
noncomputable def jdH:Sl->Sl
 |.own _ _ _=>.no
 |s=>s
noncomputable abbrev Calls:=Nat->List Sl->R (Vl×List Sl)
section
variable (G:Calls) (U:Nat->Nat->Bool)
mutual
noncomputable def evE:E->Rho->R (Vl×Rho)
 |.lit d,ρ=>.ok (.dat d,ρ)
 |.var i,ρ=>match ρ[i]? with | some (.dat d)=>.ok (.dat d,ρ) | some (.own _ _ _)=>.ok (.slot i,ρ) | _=>.stk
 |.bin o a b,ρ=>(evE a ρ).bind fun p=>(evE b p.2).bind fun q=>(deref p.1 q.2).bind fun x=>(deref q.1 q.2).bind fun y=>(opD o x y).bind fun v=>.ok (v,q.2)
 |.cmp o a b,ρ=>(evE a ρ).bind fun p=>(evE b p.2).bind fun q=>(deref p.1 q.2).bind fun x=>(deref q.1 q.2).bind fun y=>(cmD o x y).bind fun c=>.ok (.dat (.bl c),q.2)
 |.and a b,ρ=>(evE a ρ).bind fun p=>(jc1 p.1).bind fun t=>if t then (evE b p.2).bind fun q=>(jc1 q.1).bind fun u=>.ok (.dat (.bl u),q.2)else .ok (.dat (.bl false),p.2)
 |.or a b,ρ=>(evE a ρ).bind fun p=>(jc1 p.1).bind fun t=>if t then .ok (.dat (.bl true),p.2)else (evE b p.2).bind fun q=>(jc1 q.1).bind fun u=>.ok (.dat (.bl u),q.2)
 |.not a,ρ=>(evE a ρ).bind fun p=>(jc1 p.1).bind fun t=>.ok (.dat (.bl (!t)),p.2)
 |.ite c a b,ρ=>(evT c ρ).bind fun t=>if t.1 then evE a t.2 else evE b t.2
 |.tup es,ρ=>(evEs es ρ).bind fun p=>if ja6 p.1.length then .ok (.dat (.tup p.1),p.2)else .stk
 |.lst es,ρ=>(evEs es ρ).bind fun p=>if ja6 p.1.length then .ok (.tmp (.l p.1),p.2)else .stk
 |.idx a b,ρ=>(evE a ρ).bind fun p=>(evE b p.2).bind fun q=>(deref p.1 q.2).bind fun x=>(deref q.1 q.2).bind fun y=>(jka x y).bind fun d=>.ok (.dat d,q.2)
 |.slc a lo hi,ρ=>(evE a ρ).bind fun p=>(evO lo p.2).bind fun l=>(evO hi l.2).bind fun h=>(deref p.1 h.2).bind fun x=>(jiv x l.1 h.1).bind fun v=>.ok (v,h.2)
 |.call f fl es,ρ=>(evAs es ρ).bind fun p=>(jaO fl p.1 p.2).bind fun q=>(G f q.1).bind fun r=>.ok (r.1,jbr q.2.1 r.2 q.2.2)
 |.blt f a,ρ=>(evE a ρ).bind fun p=>(deref p.1 p.2).bind fun x=>(bfD f x).bind fun v=>.ok (v,p.2)
 |.sm f a b,ρ=>(evE a ρ).bind fun p=>(juh p.1).bind fun x=>(evE b p.2).bind fun q=>(deref q.1 q.2).bind fun y=>(smD f x y).bind fun v=>.ok (v,q.2)
 |.isi a ks,ρ=>(evE a ρ).bind fun p=>(deref p.1 p.2).bind fun x=>(jaq U x ks).bind fun b=>.ok (.dat (.bl b),p.2)
 |.comp elt tg one n caps it c x,ρ=>(evI it ρ).bind fun t=>((compGo (fun x r=>(putT tg one x (jd7 n caps r)).bind fun r'=>
   match c with
   |.none=>(evE elt r').bind fun p=>(toD p.1 p.2).bind fun q=>.ok (some q.1,jaN caps n q.2 r)
   |.some k=>(evT k r').bind fun b=>if b.1 then (evE elt b.2).bind fun p=>(toD p.1 p.2).bind fun q=>.ok (some q.1,jaN caps n q.2 r)else .ok (none,jaN caps n b.2 r)) t.1 t.2.2).pass x).bind fun ys=>.ok (.tmp (.l ys.1),unlk t.2.1 ys.2)
 |.pop i,ρ=>match ρ[i]? with
  |some (.own (.l xs) f false)=>match xs.getLast? with
   |some d=>.ok (.dat d,ρ.set i (.own (.l xs.dropLast) f false))
   |none=>.stk
  |_=>.stk
noncomputable def evT:E->Rho->R (Bool×Rho)
 |.and a b,ρ=>(evT a ρ).bind fun p=>if p.1 then evT b p.2 else .ok (false,p.2)
 |.or a b,ρ=>(evT a ρ).bind fun p=>if p.1 then .ok (true,p.2)else evT b p.2
 |.not a,ρ=>(evT a ρ).bind fun p=>.ok (!p.1,p.2)
 |.cmp o a b,ρ=>(evE a ρ).bind fun p=>(evE b p.2).bind fun q=>(deref p.1 q.2).bind fun x=>(deref q.1 q.2).bind fun y=>(cmD o x y).bind fun c=>.ok (c,q.2)
 |.var i,ρ=>match ρ[i]? with | some (.dat d)=>(jbT d).bind fun b=>.ok (b,ρ) | some (.own o _ _)=>(jbT o.toD).bind fun b=>.ok (b,ρ) | _=>.stk
 |.isi a ks,ρ=>(evE a ρ).bind fun p=>(deref p.1 p.2).bind fun x=>(jaq U x ks).bind fun b=>.ok (b,p.2)
 |.call f fl es,ρ=>(evAs es ρ).bind fun p=>(jaO fl p.1 p.2).bind fun q=>(G f q.1).bind fun r=>(deref r.1 []).bind fun d=>(jbT d).bind fun b=>.ok (b,jbr q.2.1 r.2 q.2.2)
 |.blt f a,ρ=>(evE a ρ).bind fun p=>(deref p.1 p.2).bind fun x=>(bfD f x).bind fun v=>(deref v []).bind fun d=>(jbT d).bind fun b=>.ok (b,p.2)
 |.idx a b,ρ=>(evE a ρ).bind fun p=>(evE b p.2).bind fun q=>(deref p.1 q.2).bind fun x=>(deref q.1 q.2).bind fun y=>(jka x y).bind fun d=>(jbT d).bind fun t=>.ok (t,q.2)
 |.lit d,ρ=>(jbT d).bind fun b=>.ok (b,ρ)
 |.bin o a b,ρ=>(evE a ρ).bind fun p=>(evE b p.2).bind fun q=>(deref p.1 q.2).bind fun x=>(deref q.1 q.2).bind fun y=>(opD o x y).bind fun v=>(deref v []).bind fun d=>(jbT d).bind fun t=>.ok (t,q.2)
 |.slc a lo hi,ρ=>(evE a ρ).bind fun p=>(evO lo p.2).bind fun l=>(evO hi l.2).bind fun h=>(deref p.1 h.2).bind fun x=>(jiv x l.1 h.1).bind fun v=>(deref v []).bind fun d=>(jbT d).bind fun b=>.ok (b,h.2)
 |.ite _ _ _,_=>.stk
 |.tup _,_=>.stk
 |.lst _,_=>.stk
 |.sm _ _ _,_=>.stk
 |.comp _ _ _ _ _ _ _ _,_=>.stk
 |.pop _,_=>.stk
noncomputable def evEs:Es->Rho->R (List D×Rho)
 |.nil,ρ=>.ok ([],ρ)
 |.cons e es,ρ=>(evE e ρ).bind fun p=>(toD p.1 p.2).bind fun q=>(evEs es q.2).bind fun r=>.ok (q.1::r.1,r.2)
noncomputable def evAs:Es->Rho->R (List Vl×Rho)
 |.nil,ρ=>.ok ([],ρ)
 |.cons e es,ρ=>(evE e ρ).bind fun p=>(evAs es p.2).bind fun r=>.ok (p.1::r.1,r.2)
noncomputable def evO:Oe->Rho->R (Option Int×Rho)
 |.none,ρ=>.ok (none,ρ)
 |.some e,ρ=>(evE e ρ).bind fun p=>match p.1 with | .dat (.int i)=>.ok (some i,p.2) | _=>.stk
noncomputable def evI:It->Rho->R (List D×List Nat×Rho)
 |.seq e,ρ=>(evE e ρ).bind fun p=>jbX p.1 p.2
 |.rng1 a,ρ=>(evE a ρ).bind fun p=>(deref p.1 p.2).bind fun x=>(jfB x).bind fun xs=>.ok (xs,[],p.2)
 |.zip a b,ρ=>(evE a ρ).bind fun p=>(evE b p.2).bind fun q=>(jaL p.1 q.2).bind fun x=>(jaL q.1 x.2.2).bind fun y=>.ok (jfC x.1 y.1,x.2.1++y.2.1,y.2.2)
end
noncomputable def jph (g:Rho->R Fl):Fl->R Fl
 |.nx ρ=>g ρ
 |r=>.ok r
noncomputable def jaY (f:D->Rho->R Fl):List D->Rho->R Fl
 |[],ρ=>.ok (.nx ρ)
 |x::xs,ρ=>(f x ρ).bind fun r=>match r with
  |.nx ρ'=>jaY f xs ρ'
  |.ct ρ'=>jaY f xs ρ'
  |.bk ρ'=>.ok (.nx ρ')
  |.rt v ρ'=>.ok (.rt v ρ')
noncomputable def jkc (c:Rho->R (Bool×Rho))(f:Rho->R Fl):Nat->Rho->R Fl
 |0,_=>.stk
 |n + 1,ρ=>(c ρ).bind fun b=>if b.1 then (f b.2).bind fun r=>match r with
  |.nx ρ'=>jkc c f n ρ'
  |.ct ρ'=>jkc c f n ρ'
  |.bk ρ'=>.ok (.nx ρ')
  |.rt v ρ'=>.ok (.rt v ρ')else .ok (.nx b.2)
noncomputable def jmt (v:Vl)(ρ:Rho):R Fl:=match v with
 |.dat d=>.ok (.rt (.dat d) ρ)
 |.tmp o=>.ok (.rt (.tmp o) ρ)
 |.slot i=>match ρ[i]? with | some (.own o false false)=>.ok (.rt (.tmp o) (ρ.set i .no)) | _=>.stk
variable (W:Nat)
mutual
noncomputable def evS:S->Rho->R Fl
 |.ret e,ρ=>(evE G U e ρ).bind fun p=>jmt p.1 p.2
 |.retN,ρ=>.ok (.rt (.dat .non) ρ)
 |.expr e,ρ=>(evE G U e ρ).bind fun p=>.ok (.nx p.2)
 |.asg i e,ρ=>(evE G U e ρ).bind fun p=>(jhs p.1 p.2).bind fun q=>if i < q.2.length then .ok (.nx (q.2.set i q.1))else .stk
 |.unp is e,ρ=>(evE G U e ρ).bind fun p=>(deref p.1 p.2).bind fun d=>(putT is false d p.2).bind fun ρ'=>.ok (.nx ρ')
 |.app i e,ρ=>match ρ[i]? with
  |some (.own (.l _) _ _)=>(evE G U e ρ).bind fun p=>(toD p.1 p.2).bind fun q=>match q.2[i]? with
   |some (.own (.l xs) f false)=>if ja6 (xs.length + 1)then .ok (.nx (q.2.set i (.own (.l (xs++[q.1])) f false)))else .stk
   |_=>.stk
  |_=>.stk
 |.ext i e,ρ=>match ρ[i]? with
  |some (.own (.l _) _ _)=>(evE G U e ρ).bind fun p=>(deref p.1 p.2).bind fun x=>(ja5 x).bind fun ys=>match p.2[i]? with
   |some (.own (.l xs) f false)=>if ja6 (xs.length + ys.length)then .ok (.nx (p.2.set i (.own (.l (xs++ys)) f false)))else .stk
   |_=>.stk
  |_=>.stk
 |.sub i k e,ρ=>(evE G U e ρ).bind fun p=>(toD p.1 p.2).bind fun q=>match q.2[i]? with
  |some (.own (.l _) _ _)=>(evE G U k q.2).bind fun kd=>match kd.2[i]?,kd.1 with
   |some (.own (.l xs) f false),.dat (.int j)=>if 0<=j/\j < xs.length then .ok (.nx (kd.2.set i (.own (.l (xs.set j.toNat q.1)) f false)))else .stk
   |_,_=>.stk
  |_=>.stk
 |.ife c a b,ρ=>(evT G U c ρ).bind fun t=>if t.1 then evSs a t.2 else evSs b t.2
 |.loop tg one it b,ρ=>(evI G U it ρ).bind fun t=>(jaY (fun x r=>(putT tg one x r).bind fun r'=>evSs b r') t.1 t.2.2).bind fun r=>.ok (jeH t.2.1 r)
 |.whl c b,ρ=>jkc (fun r=>evT G U c r) (fun r=>evSs b r) W ρ
 |.brk,ρ=>.ok (.bk ρ)
 |.cnt,ρ=>.ok (.ct ρ)
 |.pas,ρ=>.ok (.nx ρ)
 |.rai c e,ρ=>(evE G U e ρ).bind fun _=>.err c
 |.tryx b c i h,ρ=>match evS b ρ with
  |.err c'=>if U c' c then (match i with
    |some k=>((evSs h ((ρ.map jdH).set k (.dat (.exc c')))).noErr).bind fun r=>match r with
     |.nx ρ'=>.ok (.nx (ρ'.set k .no))
     |_=>.stk
    |none=>.stk)
   else .stk
  |r=>r
noncomputable def evSs:Ss->Rho->R Fl
 |.nil,ρ=>.ok (.nx ρ)
 |.cons s ss,ρ=>(evS s ρ).bind (jph fun ρ'=>evSs ss ρ')
end
end
structure Def where
 ps:Nat
 n:Nat
 body:Ss
noncomputable def jix (k:Nat)(ρ:Rho):List Sl:=(List.range k).map fun j=>match ρ[j]? with | some s=>juH s | none=>.no
noncomputable def jbq (k:Nat):Fl->R (Vl×List Sl)
 |.rt v ρ=>.ok (v,jix k ρ)
 |.nx ρ=>.ok (.dat .non,jix k ρ)
 |_=>.stk
noncomputable def jaa (U:Nat->Nat->Bool)(W:Nat)(P:List Def):Nat->Calls
 |0=>fun _ _=>.stk
 |n + 1=>fun f xs=>match P[f]? with
  |none=>.stk
  |some d=>if xs.length=d.ps then (evSs (jaa U W P n) U W d.body (xs++List.replicate (d.n - d.ps) .no)).bind (jbq d.ps)else .stk
end DJ
namespace DJ
open PySem PySem.Spec PyProof.Rows L2
noncomputable abbrev Frag:=PySem.W.Frag
structure Kn where
 K:Frag
 cl:List Addr
noncomputable def KT (K:Frag)(a:Addr)(xs:List V):Prop:=∃(o:Obj) (its:Array Value) (n:Nat),K.lookup a=some o/\o.cls=.type "tuple"/\o.data=.seq its n/\its.size<=sizeLine/\Vals xs its.toList
noncomputable def KL (K:Frag)(a:Addr)(xs:List V):Prop:=∃(o:Obj) (its:Array Value) (n:Nat),K.lookup a=some o/\o.cls=.type "list"/\o.dict=none/\o.data=.seq its n/\its.size<=sizeLine/\Vals xs its.toList
noncomputable def FT (K:Frag)(F:Addr->Prop)(H:Hp)(a:Addr)(xs:List V):Prop:=(F a/\Rd H a (.tup xs))\/KT K a xs
noncomputable def FL (K:Frag)(F:Addr->Prop)(H:Hp)(a:Addr)(xs:List V):Prop:=(F a/\Rd H a (.lst xs))\/KL K a xs
theorem FT.sq {K:Frag}{F:Addr->Prop}{H:Hp}{a:Addr}{xs:List V}(h:FT K F H a xs):SqT K H a xs:=h.imp (·.2) id
theorem FL.sq {K:Frag}{F:Addr->Prop}{H:Hp}{a:Addr}{xs:List V}(h:FL K F H a xs):SqL K H a xs:=h.imp (·.2) id
noncomputable def jht (a C:Addr)(h:Heap):Prop:=∃o vs,h.get? a=some o/\o.cls=.ref C/\o.data=.fields vs
section
variable (Z:Kn) (F:Addr->Prop) (H:Hp)
mutual
noncomputable def Rep:D->V->Prop
 |.non,v=>v=.non
 |.bl b,v=>v=.bl b
 |.int i,v=>v=.int i
 |.str x,v=>v=.str x
 |.tup ds,v=>∃a vs,v=.ref a/\FT Z.K F H a vs/\Reps ds vs
 |.lst ds,v=>∃a vs,v=.ref a/\FL Z.K F H a vs/\Reps ds vs
 |.dct ks vs,v=>∃a,v=.ref a/\F a/\ks=[]/\vs=[]/\H a=some (.dK [])
 |.exc c,v=>∃a C,v=.ref a/\F a/\Z.cl[c]?=some C/\H a=some (.ext (jht a C))
noncomputable def Reps:List D->List V->Prop
 |[],vs=>vs=[]
 |d::ds,vs=>∃v r,vs=v::r/\Rep d v/\Reps ds r
end
noncomputable def HasO (l:Addr):O->Prop
 |.l xs=>∃vs,H l=some (.lst vs)/\Reps Z F H xs vs
 |.d ks vs=>ks=[]/\vs=[]/\H l=some (.dK [])
end
noncomputable def Keep (F F':Addr->Prop)(H H':Hp):Prop:=∀a,F a->F' a/\H' a=H a
theorem Keep.rd {F F':Addr->Prop}{H H':Hp}(k:Keep F F' H H'){a:Addr}{u:HO}(h:F a/\Rd H a u):F' a/\Rd H' a u:=by
 obtain⟨f,e⟩:=k a h.1;refine⟨f,?_⟩;unfold Rd;rw[e];exact h.2
theorem Keep.refl {F:Addr->Prop}{H:Hp}:Keep F F H H:=fun _ h=>⟨h,rfl⟩
theorem Keep.trans {F F1 F2:Addr->Prop}{H H1 H2:Hp}(a:Keep F F1 H H1)(b:Keep F1 F2 H1 H2):Keep F F2 H H2:=fun x h=>by
 obtain⟨f1,e1⟩:=a x h;obtain⟨f2,e2⟩:=b x f1;exact⟨f2,e2.trans e1⟩
section
variable {Z:Kn}{F F':Addr->Prop}{H H':Hp}
mutual
theorem Rep.mono (k:Keep F F' H H'):∀{d:D}{v:V},Rep Z F H d v->Rep Z F' H' d v
 |.non,_,h=>by simpa only[Rep] using h
 |.bl _,_,h=>by simpa only[Rep] using h
 |.int _,_,h=>by simpa only[Rep] using h
 |.str _,_,h=>by simpa only[Rep] using h
 |.tup ds,v,h=>by
  simp only[Rep]at h ⊢;obtain⟨a,vs,e,q,r⟩:=h;exact⟨a,vs,e,q.imp k.rd id,Reps.mono k r⟩
 |.lst ds,v,h=>by
  simp only[Rep]at h ⊢;obtain⟨a,vs,e,q,r⟩:=h;exact⟨a,vs,e,q.imp k.rd id,Reps.mono k r⟩
 |.dct ks vs,v,h=>by
  simp only[Rep]at h ⊢;obtain⟨a,e,q,h1,h2,r⟩:=h;obtain⟨f,e'⟩:=k a q;exact⟨a,e,f,h1,h2,e'.trans r⟩
 |.exc c,v,h=>by
  simp only[Rep]at h ⊢;obtain⟨a,C,e,q,h1,r⟩:=h;obtain⟨f,e'⟩:=k a q;exact⟨a,C,e,f,h1,e'.trans r⟩
theorem Reps.mono (k:Keep F F' H H'):∀{ds:List D}{vs:List V},Reps Z F H ds vs->Reps Z F' H' ds vs
 |[],_,h=>by simpa only[Reps] using h
 |d::ds,vs,h=>by
  simp only[Reps]at h ⊢;obtain⟨v,r,e,h1,h2⟩:=h;exact⟨v,r,e,Rep.mono k h1,Reps.mono k h2⟩
end
theorem HasO.mono (k:Keep F F' H H'){l:Addr}(e:H' l=H l):∀{o:O},HasO Z F H l o->HasO Z F' H' l o
 |.l xs,⟨vs,h1,h2⟩=>⟨vs,e.trans h1,h2.mono k⟩
 |.d ks vs,⟨h1,h2,h3⟩=>⟨h1,h2,e.trans h3⟩
theorem HasO.some {l:Addr}{o:O}(h:HasO Z F H l o):∃u,H l=Option.some u:=by
 cases o with
 |l xs=>obtain⟨vs,e,_⟩:=h;exact⟨_,e⟩
 |d ks vs=>exact⟨_,h.2.2⟩
theorem Reps.length:∀{ds:List D}{vs:List V},Reps Z F H ds vs->ds.length=vs.length
 |[],vs,h=>by simp only[Reps]at h;subst h;rfl
 |d::ds,vs,h=>by
  simp only[Reps]at h;obtain⟨v,r,rfl,_,h2⟩:=h;rw[jvf,jvf,Reps.length h2]
theorem Reps.get:∀{ds:List D}{vs:List V}{i:Nat}{d:D},Reps Z F H ds vs->ds[i]?=some d->∃v,vs[i]?=some v/\Rep Z F H d v
 |[],_,_,_,_,e=>by simp at e
 |x::ds,vs,0,d,h,e=>by
  simp only[Reps]at h;obtain⟨v,r,rfl,h1,_⟩:=h;simp at e;subst e;exact⟨v,rfl,h1⟩
 |x::ds,vs,i + 1,d,h,e=>by
  simp only[Reps]at h;obtain⟨v,r,rfl,_,h2⟩:=h;obtain⟨u,e1,e2⟩:=Reps.get (i:=i) h2 (by simpa using e)
  exact⟨u,by simpa using e1,e2⟩
theorem Reps.append:∀{ds es:List D}{vs us:List V},Reps Z F H ds vs->Reps Z F H es us->Reps Z F H (ds++es) (vs++us)
 |[],_,_,_,h,h'=>by simp only[Reps]at h;subst h;exact h'
 |d::ds,es,vs,us,h,h'=>by
  simp only[Reps]at h;obtain⟨v,r,rfl,h1,h2⟩:=h;show Reps Z F H (d::(ds++es)) (v::(r++us));simp only[Reps];exact⟨v,_,rfl,h1,Reps.append h2 h'⟩
theorem Reps.drop:∀{ds:List D}{vs:List V} (n:Nat),Reps Z F H ds vs->Reps Z F H (ds.drop n) (vs.drop n)
 |_,_,0,h=>h
 |[],vs,n + 1,h=>by simp only[Reps]at h;subst h;simp[Reps]
 |d::ds,vs,n + 1,h=>by
  simp only[Reps]at h;obtain⟨v,r,rfl,h1,h2⟩:=h;exact Reps.drop n h2
theorem Reps.take:∀{ds:List D}{vs:List V} (n:Nat),Reps Z F H ds vs->Reps Z F H (ds.take n) (vs.take n)
 |_,_,0,h=>by simp[Reps]
 |[],vs,n + 1,h=>by simp only[Reps]at h;subst h;simp[Reps]
 |d::ds,vs,n + 1,h=>by
  simp only[Reps]at h;obtain⟨v,r,rfl,h1,h2⟩:=h;simp only[List.take_succ_cons,Reps];exact⟨v,_,rfl,h1,Reps.take n h2⟩
theorem Reps.set {d:D}{v:V}(hd:Rep Z F H d v):∀{ds:List D}{vs:List V} (i:Nat),Reps Z F H ds vs->Reps Z F H (ds.set i d) (vs.set i v)
 |[],vs,i,h=>by simp only[Reps]at h;subst h;simp[Reps]
 |e::ds,vs,0,h=>by
  simp only[Reps]at h;obtain⟨u,r,rfl,h1,h2⟩:=h;simp only[List.set_cons_zero,Reps];exact⟨v,_,rfl,hd,h2⟩
 |e::ds,vs,i + 1,h=>by
  simp only[Reps]at h;obtain⟨u,r,rfl,h1,h2⟩:=h;simp only[List.set_cons_succ,Reps];exact⟨u,_,rfl,h1,Reps.set hd i h2⟩
theorem Reps.one {d:D}{v:V}(hd:Rep Z F H d v):Reps Z F H [d] [v]:=by simp only[Reps];exact⟨v,[],rfl,hd,rfl⟩
theorem Reps.nil:Reps Z F H [] []:=by simp only[Reps]
theorem Reps.cons {d:D}{v:V}{ds:List D}{vs:List V}(hd:Rep Z F H d v)(h:Reps Z F H ds vs):Reps Z F H (d::ds) (v::vs):=by simp only[Reps];exact⟨v,vs,rfl,hd,h⟩
theorem Reps.uncons {d:D}{ds:List D}{us:List V}(h:Reps Z F H (d::ds) us):∃v vs,us=v::vs/\Rep Z F H d v/\Reps Z F H ds vs:=by simpa only[Reps] using h
theorem Reps.reverse {ds:List D}{vs:List V}(h:Reps Z F H ds vs):Reps Z F H ds.reverse vs.reverse:=by
 induction ds generalizing vs with
 |nil=>simp only[Reps]at h;subst h;exact .nil
 |cons d ds ih=>
  simp only[Reps]at h;obtain⟨v,r,rfl,h1,h2⟩:=h;rw[List.reverse_cons,List.reverse_cons];exact(ih h2).append (.one h1)
theorem Reps.dropLast {ds:List D}{vs:List V}(h:Reps Z F H ds vs):Reps Z F H ds.dropLast vs.dropLast:=by
 rw[List.dropLast_eq_take,List.dropLast_eq_take,h.length];exact h.take _
theorem Reps.rep {ds:List D}{vs:List V}(h:Reps Z F H ds vs):∀k:Nat,Reps Z F H (List.replicate k ds).flatten (List.replicate k vs).flatten
 |0=>.nil
 |k + 1=>by
  rw[List.replicate_succ,List.replicate_succ,List.flatten_cons,List.flatten_cons];exact h.append (Reps.rep h k)
end
noncomputable def Dom (F:Addr->Prop)(H:Hp):Prop:=∀a,F a->∃o,H a=some o
structure Bs where
 hp:Hp
 lent:Nat->Option Addr
noncomputable def OwR (Z:Kn)(B:Bs)(F:Addr->Prop)(H:Hp)(i:Nat)(o:O)(f:Bool)(l:Addr):Prop:=¬F l/\HasO Z F H l o/\(f=true->B.lent i=some l)/\(f=false->B.hp l=none)
structure SR (Z:Kn)(B:Bs)(F:Addr->Prop)(H:Hp)(σ:L2.St)(ρ:Rho):Prop where
 dom:Dom F H
 len:ρ.length=σ.length
 dat:∀(i:Nat) (d:D),ρ[i]?=some (.dat d)->∃v,σ[i]?=some (some v)/\Rep Z F H d v
 own:∀(i:Nat) (o:O) (f k:Bool),ρ[i]?=some (.own o f k)->∃l,σ[i]?=some (some (.ref l))/\OwR Z B F H i o f l
 one:∀(i j:Nat) (o o':O) (f k f' k':Bool) (l:Addr),i≠j->ρ[i]?=some (.own o f k)->ρ[j]?=some (.own o' f' k')->σ[i]?=some (some (.ref l))->σ[j]?≠some (some (.ref l))
 base:∀b,H b=none->B.hp b=none
inductive Ow (σ:L2.St) (ρ:Rho) (b:Addr):Prop
 |mk (i:Nat) (o:O) (f:Bool) (k:Bool):(ρ[i]?=some (.own o f k))->(σ[i]?=some (some (.ref b)))->Ow σ ρ b
inductive Mb (σ:L2.St) (ρ:Rho) (b:Addr):Prop
 |mk (i:Nat) (o:O) (f:Bool):(ρ[i]?=some (.own o f false))->(σ[i]?=some (some (.ref b)))->Mb σ ρ b
theorem Mb.ow {σ:L2.St}{ρ:Rho}{b:Addr}(h:Mb σ ρ b):Ow σ ρ b:=let ⟨i,o,f,h1,h2⟩:=h;⟨i,o,f,false,h1,h2⟩
structure Go (σ:L2.St)(ρ:Rho)(F:Addr->Prop)(H:Hp)(σ':L2.St)(ρ':Rho)(F':Addr->Prop)(H':Hp):Prop where
 stay:∀b o,H b=some o->¬Mb σ ρ b->H' b=some o
 sub:∀a,F a->F' a
 new:∀a,F' a->F a\/H a=none\/Mb σ ρ a
 ow:∀(j:Nat) (o:O) (f k:Bool) (b:Addr),ρ'[j]?=some (.own o f k)->σ'[j]?=some (some (.ref b))->(∃o0 k0,ρ[j]?=some (.own o0 f k0)/\σ[j]?=some (some (.ref b))/\(k0=true->k=true))\/H b=none
 there:∀b o,H b=some o->∃o',H' b=some o'
section
variable {Z:Kn}{B:Bs}{F F1 F2:Addr->Prop}{H H1 H2:Hp}{σ σ1 σ2:L2.St}{ρ ρ1 ρ2:Rho}
theorem SR.noF (r:SR Z B F H σ ρ){b:Addr}(h:Ow σ ρ b):¬F b:=by
 obtain⟨i,o,f,k,h1,h2⟩:=h;obtain⟨l,e,w⟩:=r.own i o f k h1;rw[h2]at e;cases e;exact w.1
theorem SR.there (r:SR Z B F H σ ρ){b:Addr}(h:Ow σ ρ b):∃u,H b=some u:=by
 obtain⟨i,o,f,k,h1,h2⟩:=h;obtain⟨l,e,w⟩:=r.own i o f k h1;rw[h2]at e;cases e;exact w.2.1.some
theorem Go.mb (g:Go σ ρ F H σ1 ρ1 F1 H1){b:Addr}(h:Mb σ1 ρ1 b):Mb σ ρ b\/H b=none:=by
 obtain⟨i,o,f,h1,h2⟩:=h;rcases g.ow i o f false b h1 h2 with ⟨o0,k0,e1,e2,e3⟩ | z
 ·cases k0 with
  |false=>exact .inl ⟨i,o0,f,e1,e2⟩
  |true=>exact absurd (e3 rfl) (by decide)
 ·exact .inr z
theorem Go.owA (g:Go σ ρ F H σ1 ρ1 F1 H1){b:Addr}(h:Ow σ1 ρ1 b):Ow σ ρ b\/H b=none:=by
 obtain⟨i,o,f,k,h1,h2⟩:=h;rcases g.ow i o f k b h1 h2 with ⟨o0,k0,e1,e2,e3⟩ | z
 ·exact .inl ⟨i,o0,f,k0,e1,e2⟩
 ·exact .inr z
theorem Go.self {j:Nat}{o:O}{f k:Bool}{b:Addr}(h1:ρ[j]?=some (.own o f k))(h2:σ[j]?=some (some (.ref b))):(∃o0 k0,ρ[j]?=some (.own o0 f k0)/\σ[j]?=some (some (.ref b))/\(k0=true->k=true))\/H b=none:=.inl ⟨o,k,h1,h2,id⟩
theorem Go.refl:Go σ ρ F H σ ρ F H:=⟨fun _ _ h _=>h,fun _ h=>h,fun _ h=>.inl h,fun _ _ _ _ _ h1 h2=>Go.self h1 h2,fun _ o h=>⟨o,h⟩⟩
theorem Go.trans (a:Go σ ρ F H σ1 ρ1 F1 H1)(b:Go σ1 ρ1 F1 H1 σ2 ρ2 F2 H2):Go σ ρ F H σ2 ρ2 F2 H2:=by
 have back:∀{c:Addr},H1 c=none->H c=none:=fun {c} h1=>by
  cases q:H c with
  |none=>rfl
  |some o=>obtain⟨u,e⟩:=a.there c o q;rw[h1]at e;cases e
 refine⟨fun c o h n=>b.stay c o (a.stay c o h n) fun m=>?_,fun c h=>b.sub c (a.sub c h),fun c h=>?_,fun j o f k c h1 h2=>?_,fun c o h=>let ⟨o1,h1⟩:=a.there c o h;b.there c o1 h1⟩
 ·rcases a.mb m with z | z
  ·exact n z
  ·rw[h]at z;cases z
 ·rcases b.new c h with z | z | z
  ·exact a.new c z
  ·exact .inr (.inl (back z))
  ·exact .inr ((a.mb z).elim .inr .inl)
 ·rcases b.ow j o f k c h1 h2 with ⟨o0,k0,e1,e2,e3⟩ | z
  ·rcases a.ow j o0 f k0 c e1 e2 with ⟨o1,k1,q1,q2,q3⟩ | z
   ·exact .inl ⟨o1,k1,q1,q2,fun w=>e3 (q3 w)⟩
   ·exact .inr z
  ·exact .inr (back z)
theorem Go.free (g:Go σ ρ F H σ1 ρ1 F1 H1){l:Addr}(h:H1 l=none):H l=none:=by
 cases q:H l with
 |none=>rfl
 |some o=>obtain⟨u,e⟩:=g.there l o q;rw[h]at e;cases e
theorem Go.keep (g:Go σ ρ F H σ1 ρ1 F1 H1)(r:SR Z B F H σ ρ):Keep F F1 H H1:=fun a h=>by
 obtain⟨o,e⟩:=r.dom a h;exact⟨g.sub a h,(g.stay a o e fun m=>r.noF m.ow h).trans e.symm⟩
theorem Go.side (g:Go σ ρ F H σ1 ρ1 F1 H1){l:Addr}{o:HO}(h:H l=some o)(hF:¬F l)(hO:¬Ow σ ρ l):H1 l=some o/\¬F1 l/\¬Ow σ1 ρ1 l:=by
 refine⟨g.stay l o h fun m=>hO m.ow,fun z=>?_,fun z=>?_⟩
 ·rcases g.new l z with q | q | q
  ·exact hF q
  ·rw[h]at q;cases q
  ·exact hO q.ow
 ·rcases g.owA z with q | q
  ·exact hO q
  ·rw[h]at q;cases q
structure Ext (F:Addr->Prop)(H:Hp)(F':Addr->Prop)(H':Hp):Prop where
 sub:∀a,F a->F' a
 same:Same H H'
 new:∀a,F' a->F a\/H a=none
 dom:∀a,F' a->∃o,H' a=some o
theorem Ext.refl (d:Dom F H):Ext F H F H:=⟨fun _ h=>h,Same.refl _,fun _ h=>.inl h,d⟩
theorem Ext.trans (a:Ext F H F1 H1)(b:Ext F1 H1 F2 H2):Ext F H F2 H2:=
 ⟨fun x h=>b.sub x (a.sub x h),a.same.trans b.same,fun x h=>(b.new x h).elim (a.new x) fun n=>.inr (a.same.free n),b.dom⟩
theorem Ext.keep (a:Ext F H F1 H1)(d:Dom F H):Keep F F1 H H1:=fun x h=>by
 obtain⟨o,e⟩:=d x h;exact⟨a.sub x h,(a.same x o e).trans e.symm⟩
theorem Ext.newF {p:Addr}{o:HO}(d:Dom F H)(h:H p=none):Ext F H (fun a=>F a\/a=p) (upd H p o):=
 ⟨fun _ h=>.inl h,fun b u e=>by rw[jaf (jac e h)];exact e,fun a q=>q.imp id fun (e:a=p)=>by rw[e];exact h,fun a q=>by
  rcases q with q | rfl
  ·obtain⟨u,e⟩:=d a q;exact⟨u,by rw[jaf (jac e h)];exact e⟩
  ·exact⟨o,jan⟩⟩
theorem Ext.newO {p:Addr}{o:HO}(d:Dom F H)(h:H p=none):Ext F H F (upd H p o):=
 ⟨fun _ h=>h,fun b u e=>by rw[jaf (jac e h)];exact e,fun a q=>.inl q,fun a q=>by
  obtain⟨u,e⟩:=d a q;exact⟨u,by rw[jaf (jac e h)];exact e⟩⟩
theorem Ext.go (e:Ext F H F1 H1):Go σ ρ F H σ ρ F1 H1:=⟨fun b o h _=>e.same b o h,e.sub,fun a h=>(e.new a h).imp id .inl,fun _ _ _ _ _ h1 h2=>Go.self h1 h2,fun b o h=>⟨o,e.same b o h⟩⟩
theorem SR.ext (r:SR Z B F H σ ρ)(e:Ext F H F1 H1):SR Z B F1 H1 σ ρ where
 dom:=e.dom
 len:=r.len
 dat:=fun i d h=>let ⟨v,h1,h2⟩:=r.dat i d h;⟨v,h1,h2.mono (e.keep r.dom)⟩
 own:=fun i o f k h=>by
  obtain⟨l,h1,h2,h3,h4⟩:=r.own i o f k h;obtain⟨u,hu⟩:=h3.some;refine⟨l,h1,fun z=>?_,h3.mono (e.keep r.dom) ((e.same l u hu).trans hu.symm),h4⟩;rcases e.new l z with z | z
  ·exact h2 z
  ·rw[hu]at z;cases z
 one:=r.one
 base:=fun b h=>r.base b (e.same.free h)
theorem SR.put (r:SR Z B F H σ ρ){i:Nat}{d:D}{v:V}(h:Rep Z F H d v):SR Z B F H (σ.set i (some v)) (ρ.set i (.dat d)) where
 dom:=r.dom
 len:=by simp[r.len]
 dat:=fun j e hj=>by
  rw[jva]at hj ⊢;by_cases hij:i=j
  ·subst hij;rw[if_pos rfl]at hj ⊢;rw[<-r.len];split at hj
   ·rename_i hl;cases hj;exact⟨v,by rw[if_pos hl],h⟩
   ·cases hj
  ·rw[if_neg hij]at hj ⊢;exact r.dat j e hj
 own:=fun j o f k hj=>by
  rw[jva]at hj ⊢;by_cases hij:i=j
  ·subst hij;rw[if_pos rfl]at hj;split at hj <;> cases hj
  ·rw[if_neg hij]at hj ⊢;exact r.own j o f k hj
 one:=fun j k o o' f kk f' kk' l hjk hj hk=>by
  rw[jva]at hj hk;rw[jva,jva];by_cases h1:i=j
  ·rw[if_pos h1]at hj;split at hj <;> cases hj
  ·by_cases h2:i=k
   ·rw[if_pos h2]at hk;split at hk <;> cases hk
   ·rw[if_neg h1]at hj ⊢;rw[if_neg h2]at hk ⊢;exact r.one j k o o' f kk f' kk' l hjk hj hk
 base:=r.base
theorem Go.put {i:Nat}{d:D}{v:V}:Go σ ρ F H (σ.set i (some v)) (ρ.set i (.dat d)) F H:=by
 refine⟨fun _ _ h _=>h,fun _ h=>h,fun _ h=>.inl h,fun j o f k b h1 h2=>?_,fun _ o h=>⟨o,h⟩⟩;rw[jva]at h1 h2;by_cases hij:i=j
 ·rw[if_pos hij]at h1;split at h1 <;> cases h1
 ·rw[if_neg hij]at h1 h2;exact Go.self h1 h2
theorem SR.putOwn (r:SR Z B F H σ ρ){i:Nat}{o:O}{l:Addr}(hF:¬F l)(hO:¬Ow σ ρ l)(hb:B.hp l=none)(h:HasO Z F H l o):SR Z B F H (σ.set i (some (.ref l))) (ρ.set i (.own o false false)) where
 dom:=r.dom
 len:=by simp[r.len]
 dat:=fun j e hj=>by
  rw[jva]at hj ⊢;by_cases hij:i=j
  ·subst hij;rw[if_pos rfl]at hj;split at hj <;> cases hj
  ·rw[if_neg hij]at hj ⊢;exact r.dat j e hj
 own:=fun j o' f k hj=>by
  rw[jva]at hj ⊢;by_cases hij:i=j
  ·subst hij;rw[if_pos rfl]at hj ⊢;rw[<-r.len];split at hj
   ·rename_i hl';cases hj;exact⟨l,by rw[if_pos hl'],hF,h,(fun z=>by cases z),fun _=>hb⟩
   ·cases hj
  ·rw[if_neg hij]at hj ⊢;exact r.own j o' f k hj
 one:=fun j k o1 o2 f1 k1 f2 k2 m hjk hj hk=>by
  rw[jva]at hj hk;rw[jva,jva];by_cases h1:i=j
  ·subst h1;rw[if_neg hjk]at hk ⊢;rw[if_pos rfl];intro q z;split at q
   ·cases q;exact hO ⟨k,_,_,_,hk,z⟩
   ·cases q
  ·by_cases h2:i=k
   ·subst h2;rw[if_neg h1]at hj ⊢;rw[if_pos rfl];intro q z;split at z
    ·cases z;exact hO ⟨j,_,_,_,hj,q⟩
    ·cases z
   ·rw[if_neg h1]at hj ⊢;rw[if_neg h2]at hk ⊢;exact r.one j k _ _ _ _ _ _ m hjk hj hk
 base:=r.base
theorem Go.putOwn (g:Go σ ρ F H σ ρ1 F1 H1){i:Nat}{o:O}{l:Addr}(hn:H l=none):Go σ ρ F H (σ.set i (some (.ref l))) (ρ1.set i (.own o false false)) F1 H1:=by
 refine⟨g.stay,g.sub,g.new,fun j o' f k b h1 h2=>?_,g.there⟩;rw[jva]at h1 h2;by_cases hij:i=j
 ·rw[if_pos hij]at h2;split at h2
  ·cases h2;exact .inr hn
  ·cases h2
 ·rw[if_neg hij]at h1 h2;exact g.ow j o' f k b h1 h2
noncomputable def Le (ρ' ρ:Rho):Prop:=ρ'.length=ρ.length/\(∀(i:Nat) d,ρ'[i]?=some (.dat d)->ρ[i]?=some (.dat d))/\(∀(i:Nat) o f k,ρ'[i]?=some (.own o f k)->ρ[i]?=some (.own o f k))
theorem Le.no {i:Nat}:Le (ρ.set i .no) ρ:=by
 refine⟨by simp,fun j d h=>?_,fun j o f k h=>?_⟩
 ·rw[jva]at h;by_cases e:i=j
  ·rw[if_pos e]at h;split at h <;> cases h
  ·rw[if_neg e]at h;exact h
 ·rw[jva]at h;by_cases e:i=j
  ·rw[if_pos e]at h;split at h <;> cases h
  ·rw[if_neg e]at h;exact h
theorem SR.weak (r:SR Z B F H σ ρ)(h:Le ρ1 ρ):SR Z B F H σ ρ1:=
 ⟨r.dom,h.1.trans r.len,fun i d q=>r.dat i d (h.2.1 i d q),fun i o f k q=>r.own i o f k (h.2.2 i o f k q),fun i j o o' f k f' k' l hij h1 h2=>r.one i j o o' f k f' k' l hij (h.2.2 _ _ _ _ h1) (h.2.2 _ _ _ _ h2),r.base⟩
theorem Go.weak (h:Le ρ1 ρ):Go σ ρ F H σ ρ1 F H:=
 ⟨fun _ _ h _=>h,fun _ h=>h,fun _ h=>.inl h,fun i o f k b h1 h2=>Go.self (h.2.2 _ _ _ _ h1) h2,fun _ o h=>⟨o,h⟩⟩
theorem SR.frz (r:SR Z B F H σ ρ){i:Nat}{o:O}{f k:Bool}{l:Addr}(h:ρ[i]?=some (.own o f k))(hl:σ[i]?=some (some (.ref l))) :
  Keep F (fun a=>F a\/a=l) H H/\SR Z B (fun a=>F a\/a=l) H σ (ρ.set i (.dat o.toD))/\Rep Z (fun a=>F a\/a=l) H o.toD (.ref l):=by
 obtain⟨l',h1,h2,h3,h4⟩:=r.own i o f k h;rw[hl]at h1;cases h1;have kp:Keep F (fun a=>F a\/a=l) H H:=fun a q=>⟨.inl q,rfl⟩;have hi:i < ρ.length:=(List.getElem?_eq_some_iff.mp h).1;have rp:Rep Z (fun a=>F a\/a=l) H o.toD (.ref l):=by
  cases o with
  |l xs=>
   obtain⟨vs,e,q⟩:=h3;simp only[O.toD,Rep];exact⟨l,vs,rfl,.inl ⟨.inr rfl,.inl e⟩,q.mono kp⟩
  |d ks vs=>
   obtain⟨e1,e2,e3⟩:=h3;simp only[O.toD,Rep];exact⟨l,rfl,.inr rfl,e1,e2,e3⟩
 refine⟨kp,⟨fun a q=>q.elim (r.dom a) fun (e:a=l)=>by rw[e];exact h3.some,by simp[r.len],fun j d hj=>?_,fun j o' f' k' hj=>?_,fun j jj o1 o2 f1 k1 f2 k2 m hjk hj hk=>?_,r.base⟩,rp⟩
 ·rw[jva]at hj;by_cases hij:i=j
  ·subst hij;rw[if_pos rfl,if_pos hi]at hj;cases hj;exact⟨_,hl,rp⟩
  ·rw[if_neg hij]at hj;obtain⟨v,e1,e2⟩:=r.dat j d hj;exact⟨v,e1,e2.mono kp⟩
 ·rw[jva]at hj;by_cases hij:i=j
  ·subst hij;rw[if_pos rfl,if_pos hi]at hj;cases hj
  ·rw[if_neg hij]at hj;obtain⟨l',e1,e2,e3,e4⟩:=r.own j o' f' k' hj;refine⟨l',e1,fun z=>z.elim e2 fun z=>?_,e3.mono kp rfl,e4⟩;subst z;exact r.one i j _ _ _ _ _ _ l' hij h hj hl e1
 ·rw[jva]at hj hk;by_cases h1:i=j
  ·subst h1;rw[if_pos rfl,if_pos hi]at hj;cases hj
  ·by_cases h2:i=jj
   ·subst h2;rw[if_pos rfl,if_pos hi]at hk;cases hk
   ·rw[if_neg h1]at hj;rw[if_neg h2]at hk;exact r.one j jj _ _ _ _ _ _ m hjk hj hk
theorem Go.frz {i:Nat}{o:O}{f:Bool}{l:Addr}{d:D}(h:ρ[i]?=some (.own o f false))(hl:σ[i]?=some (some (.ref l))):Go σ ρ F H σ (ρ.set i (.dat d)) (fun a=>F a\/a=l) H:=by
 refine⟨fun _ _ h _=>h,fun _ h=>.inl h,fun a q=>q.imp id fun (e:a=l)=>.inr ⟨i,o,f,h,by rw[e];exact hl⟩,fun j o' f' k' b h1 h2=>?_,fun _ o h=>⟨o,h⟩⟩
 rw[jva]at h1;by_cases e:i=j
 ·rw[if_pos e]at h1;split at h1 <;> cases h1
 ·rw[if_neg e]at h1;exact Go.self h1 h2
theorem SR.wr (r:SR Z B F H σ ρ){i:Nat}{o o':O}{f k:Bool}{l:Addr}{u:HO}(h:ρ[i]?=some (.own o f k))(hi:σ[i]?=some (some (.ref l)))(q:Keep F F H (upd H l u)->HasO Z F (upd H l u) l o')(k':Bool) :
  Keep F F H (upd H l u)/\SR Z B F (upd H l u) σ (ρ.set i (.own o' f k')):=by
 obtain⟨l',h1,h2,h3,h4⟩:=r.own i o f k h;rw[hi]at h1;cases h1;have kp:Keep F F H (upd H l u):=fun a q=>⟨q,jaf fun z=>h2 (z ▸ q)⟩;have q:=q kp;have hlt:i < ρ.length:=(List.getElem?_eq_some_iff.mp h).1;refine⟨kp,fun a q=>?_,by simp[r.len],fun j d hj=>?_,fun j o1 f1 k1 hj=>?_,fun j jj o1 o2 f1 k1 f2 k2 m hjk hj hk=>?_,fun b hb=>r.base b (by
  unfold upd at hb;split at hb
  ·cases hb
  ·exact hb)⟩
 ·obtain⟨o,e⟩:=r.dom a q;exact⟨o,(kp a q).2.trans e⟩
 ·rw[jva]at hj;by_cases hij:i=j
  ·subst hij;rw[if_pos rfl,if_pos hlt]at hj;cases hj
  ·rw[if_neg hij]at hj;obtain⟨v,e1,e2⟩:=r.dat j d hj;exact⟨v,e1,e2.mono kp⟩
 ·rw[jva]at hj;by_cases hij:i=j
  ·subst hij;rw[if_pos rfl,if_pos hlt]at hj;cases hj;exact⟨l,hi,h2,q,h4⟩
  ·rw[if_neg hij]at hj;obtain⟨l',e1,e2,e3,e4⟩:=r.own j o1 f1 k1 hj;refine⟨l',e1,e2,e3.mono kp (jaf fun z=>?_),e4⟩;subst z;exact r.one i j _ _ _ _ _ _ l' hij h hj hi e1
 ·have back:∀{j:Nat}{o1:O}{f1 k1:Bool},(ρ.set i (.own o' f k'))[j]?=some (.own o1 f1 k1)->∃o2 f2 k2,ρ[j]?=some (.own o2 f2 k2):=fun {j o1 f1 k1} hj=>by
   rw[jva]at hj;by_cases hij:i=j
   ·subst hij;exact⟨_,_,_,h⟩
   ·rw[if_neg hij]at hj;exact⟨_,_,_,hj⟩
  obtain⟨_,_,_,hj'⟩:=back hj;obtain⟨_,_,_,hk'⟩:=back hk;exact r.one j jj _ _ _ _ _ _ m hjk hj' hk'
theorem Go.wr {i:Nat}{o o':O}{f:Bool}{l:Addr}{u:HO}(h:ρ[i]?=some (.own o f false))(hi:σ[i]?=some (some (.ref l))):Go σ ρ F H σ (ρ.set i (.own o' f false)) F (upd H l u):=by
 have hm:Mb σ ρ l:=⟨i,o,f,h,hi⟩;refine⟨fun b w e n=>by rw[jaf fun z=>n (by rw[z];exact hm)];exact e,fun _ h=>h,fun _ h=>.inl h,fun j o1 f1 k1 b h1 h2=>?_,fun b w e=>?_⟩
 ·rw[jva]at h1;by_cases e:i=j
  ·subst e;rw[if_pos rfl]at h1;split at h1
   ·cases h1;exact .inl ⟨o,false,h,h2,id⟩
   ·cases h1
  ·rw[if_neg e]at h1;exact Go.self h1 h2
 ·by_cases z:b=l
  ·exact⟨u,by rw[z];exact jan⟩
  ·exact⟨w,by rw[jaf z];exact e⟩
theorem Go.lock {i:Nat}{o:O}{f k:Bool}(h:ρ[i]?=some (.own o f k)):Go σ ρ F H σ (ρ.set i (.own o f true)) F H:=by
 refine⟨fun _ _ h _=>h,fun _ h=>h,fun _ h=>.inl h,fun j o1 f1 k1 b h1 h2=>?_,fun _ o h=>⟨o,h⟩⟩;rw[jva]at h1;by_cases e:i=j
 ·subst e;rw[if_pos rfl]at h1;split at h1
  ·cases h1;exact .inl ⟨o,k,h,h2,fun _=>rfl⟩
  ·cases h1
 ·rw[if_neg e]at h1;exact Go.self h1 h2
theorem SR.lock (r:SR Z B F H σ ρ){i:Nat}{o:O}{f k:Bool}(h:ρ[i]?=some (.own o f k))(k':Bool):SR Z B F H σ (ρ.set i (.own o f k')):=by
 have back:∀{j:Nat}{o1:O}{f1 k1:Bool},(ρ.set i (.own o f k'))[j]?=some (.own o1 f1 k1)->∃k2,ρ[j]?=some (.own o1 f1 k2):=fun {j o1 f1 k1} hj=>by
  rw[jva]at hj;by_cases hij:i=j
  ·subst hij;rw[if_pos rfl]at hj;split at hj
   ·cases hj;exact⟨k,h⟩
   ·cases hj
  ·rw[if_neg hij]at hj;exact⟨_,hj⟩
 refine⟨r.dom,by simp[r.len],fun j d hj=>?_,fun j o1 f1 k1 hj=>?_,fun j jj o1 o2 f1 k1 f2 k2 m hjk hj hk=>?_,r.base⟩
 ·rw[jva]at hj;by_cases hij:i=j
  ·rw[if_pos hij]at hj;split at hj <;> cases hj
  ·rw[if_neg hij]at hj;exact r.dat j d hj
 ·obtain⟨k2,e⟩:=back hj;exact r.own j o1 f1 k2 e
 ·obtain⟨_,e1⟩:=back hj;obtain⟨_,e2⟩:=back hk;exact r.one j jj _ _ _ _ _ _ m hjk e1 e2
theorem SR.oth (r:SR Z B F H σ ρ){p:Addr}{u:HO}(h1:¬F p)(h2:¬Ow σ ρ p):Keep F F H (upd H p u)/\SR Z B F (upd H p u) σ ρ:=by
 have kp:Keep F F H (upd H p u):=fun a q=>⟨q,jaf fun z=>h1 (z ▸ q)⟩;refine⟨kp,fun a q=>?_,r.len,fun j d hj=>?_,fun j o f k hj=>?_,r.one,fun b hb=>r.base b (by
  unfold upd at hb;split at hb
  ·cases hb
  ·exact hb)⟩
 ·obtain⟨u,e⟩:=r.dom a q;exact⟨u,(kp a q).2.trans e⟩
 ·obtain⟨v,e1,e2⟩:=r.dat j d hj;exact⟨v,e1,e2.mono kp⟩
 ·obtain⟨l',e1,e2,e3,e4⟩:=r.own j o f k hj;refine⟨l',e1,e2,e3.mono kp (jaf fun z=>?_),e4⟩;subst z;exact h2 ⟨j,o,f,k,hj,e1⟩
end
end DJ
namespace DJ
open PySem PySem.Spec PyProof.Rows L2
theorem R.bind_assoc {α β γ:Type}(r:R α)(f:α->R β)(g:β->R γ):(r.bind f).bind g=r.bind fun a=>(f a).bind g:=by cases r <;> rfl
theorem R.bind_ok' {α β:Type}(a:α)(f:α->R β):(R.ok a).bind f=f a:=rfl
theorem R.bind_ok {α β:Type}{r:R α}{f:α->R β}{b:β}(h:r.bind f=.ok b):∃a,r=.ok a/\f a=.ok b:=by
 cases r with
 |ok a=>exact⟨a,rfl,h⟩
 |err c=>cases h
 |stk=>cases h
noncomputable def Ok {α:Type}(W:Nat->Prop)(r:R α)(Q:α->Prop):Prop:=match r with
 |.ok d=>Q d
 |.err c=>W c
 |.stk=>False
theorem Ok.bind {α β:Type}{W:Nat->Prop}{r:R α}{f:α->R β}{Q:β->Prop}(h:Ok W (r.bind f) Q):Ok W r fun a=>Ok W (f a) Q:=by
 cases r with
 |ok a=>exact h
 |err c=>exact h
 |stk=>exact h
theorem Ok.imp {α:Type}{W W':Nat->Prop}{r:R α}{Q Q':α->Prop}(h:Ok W r Q)(w:∀c,W c->W' c)(k:∀a,Q a->Q' a):Ok W' r Q':=by
 cases r with
 |ok a=>exact k a h
 |err c=>exact w c h
 |stk=>exact h
theorem Ok.pure {α:Type}{W:Nat->Prop}{r:R α}{Q:α->Prop}(h:Ok W r Q)(hn:∀c,r≠.err c):∃a,r=.ok a/\Q a:=by
 cases r with
 |ok a=>exact⟨a,rfl,h⟩
 |err c=>exact absurd rfl (hn c)
 |stk=>exact h.elim
structure FlyC (X:Cx)(pins:List (Addr×Obj))(ea:Addr)(cls:Value)(H':Hp)(s':Shared):Prop where
 ex:∃a0 B,FlyA B X.stack ea cls a0 s'.heap/\(∀b o,X.s₀.heap.get? b=some o->b ∉ frs X.stack->b ∉ X.ex->∃o',B.get? b=some o')/\(∀x c,X.fn x=true->X.env.cells.lookup x=some c->∃o',B.get? c=some o') /\
  (∀p∈X.pn++pins,∃o',B.get? p.1=some o')/\(∀a o,H' a=some o->∃o',B.get? a=some o')
 free:H' ea=none
structure Stl (σ:L2.St)(ρ:Rho)(H H':Hp):Prop where
 stay:∀b o,H b=some o->¬Mb σ ρ b->H' b=some o
 there:∀b o,H b=some o->∃o',H' b=some o'
noncomputable def XW (Z:Kn)(X:Cx)(σ:L2.St)(ρ:Rho)(H:Hp)(c:Nat):Prop:=∀(pins:List (Addr×Obj)) (H':Hp) (s':Shared) (ea C:Addr),Z.cl[c]?=some C->Inv X pins σ H' s'->Stl σ ρ H H'->FlyC X pins ea (.ref C) H' s'->X.xe (.ref ea) s'
theorem Stl.go {σ σ1:L2.St}{ρ ρ1:Rho}{F F1:Addr->Prop}{H H1 H2:Hp}(g:Go σ ρ F H σ1 ρ1 F1 H1)(s:Stl σ1 ρ1 H1 H2):Stl σ ρ H H2 where
 stay b o e n:=s.stay b o (g.stay b o e n) fun m=>by
  rcases g.mb m with q | q
  ·exact n q
  ·rw[e]at q;cases q
 there b o e:=by
  obtain⟨o1,e1⟩:=g.there b o e;exact s.there b o1 e1
theorem XW.mono {Z:Kn}{X:Cx}{σ:L2.St}{ρ ρ1:Rho}{F F1:Addr->Prop}{H H1:Hp}{c:Nat}(h:XW Z X σ ρ H c)(g:Go σ ρ F H σ ρ1 F1 H1):XW Z X σ ρ1 H1 c:=
 fun pins H' s' ea C e I q y=>h pins H' s' ea C e I (q.go g) y
noncomputable def RV (Z:Kn)(F':Addr->Prop)(H0 H':Hp)(σ:L2.St)(ρ':Rho):Vl->V->Prop
 |.dat d,v=>Rep Z F' H' d v
 |.tmp o,v=>∃l,v=.ref l/\¬F' l/\¬Ow σ ρ' l/\H0 l=none/\HasO Z F' H' l o
 |.slot i,v=>σ[i]?=some (some v)
noncomputable def Post (Z:Kn)(B:Bs)(σ:L2.St)(ρ:Rho)(F:Addr->Prop)(H:Hp)(Q:VK)(p:Vl×Rho):Prop:=∀v F' H',Go σ ρ F H σ p.2 F' H'->SR Z B F' H' σ p.2->RV Z F' H H' σ p.2 p.1 v->Q v H'
inductive tE_I (Z:Kn) (X:Cx) (B:Bs) (f:Rho->R (Vl×Rho)) (σ:L2.St) (H:L2.Hp) (Q:L2.VK):Prop
 |mk (F:_) (ρ:_):(SR Z B F H σ ρ)->(Ok (XW Z X σ ρ H) (f ρ) (Post Z B σ ρ F H Q))->tE_I Z X B f σ H Q
noncomputable def tE (Z:Kn)(X:Cx)(B:Bs)(f:Rho->R (Vl×Rho)):TE:=fun σ H Q=>tE_I Z X B f σ H Q
inductive tT_I (Z:Kn) (X:Cx) (B:Bs) (f:Rho->R (Bool×Rho)) (σ:L2.St) (H:L2.Hp) (Q:(Bool->L2.Hp->Prop)):Prop
 |mk (F:_) (ρ:_):(SR Z B F H σ ρ)->(Ok (XW Z X σ ρ H) (f ρ) fun p=>∀F' H',Go σ ρ F H σ p.2 F' H'->SR Z B F' H' σ p.2->Q p.1 H')->tT_I Z X B f σ H Q
noncomputable def tT (Z:Kn)(X:Cx)(B:Bs)(f:Rho->R (Bool×Rho)):TT:=fun σ H Q=>tT_I Z X B f σ H Q
theorem PE.imp {X:Cx}{e:Expr}{t t':TE}(h:PE X e t)(k:∀σ H Q,t' σ H Q->t σ H Q):PE X e t':=fun pins s σ H Q I q=>h pins s σ H Q I (k σ H Q q)
theorem PT.imp {X:Cx}{e:Expr}{t t':TT}(h:PT X e t)(k:∀σ H Q,t' σ H Q->t σ H Q):PT X e t':=fun pins s σ H Q I q=>h pins s σ H Q I (k σ H Q q)
theorem PI.imp {X:Cx}{tg e:Expr}{t t':TI}(h:PI X tg e t)(k:∀σ H R,t' σ H R->t σ H R):PI X tg e t':=fun pins s σ H R I q=>h pins s σ H R I (k σ H R q)
theorem PO.imp {X:Cx}{e:Option Expr}{t t':TO}(h:PO X e t)(k:∀σ H Q,t' σ H Q->t σ H Q):PO X e t':=fun pins s σ H Q I q=>h pins s σ H Q I (k σ H Q q)
theorem PS.imp {X:Cx}{e:Stmt}{t t':TS}(h:PS X e t)(k:∀D σ H,t' D σ H->t D σ H):PS X e t':=fun pins s σ H D I q=>h pins s σ H D I (k D σ H q)
theorem PSs.imp {X:Cx}{e:List Stmt}{t t':TS}(h:PSs X e t)(k:∀D σ H,t' D σ H->t D σ H):PSs X e t':=fun pins s σ H D I q=>h pins s σ H D I (k D σ H q)
section
variable {Z:Kn}{X:Cx}{B:Bs}{σ:L2.St}{ρ ρ1:Rho}{F F1:Addr->Prop}{H H1:Hp}
theorem tE.congr {f g:Rho->R (Vl×Rho)}(h:∀ρ,f ρ=g ρ):tE Z X B f=tE Z X B g:=by rw[show f=g from funext h]
theorem tT.congr {f g:Rho->R (Bool×Rho)}(h:∀ρ,f ρ=g ρ):tT Z X B f=tT Z X B g:=by rw[show f=g from funext h]
theorem Post.ext {Q:VK}{p:Vl×Rho}(h:Post Z B σ ρ F H Q p)(g:Go σ ρ F H σ ρ1 F1 H1):Post Z B σ ρ1 F1 H1 Q p:=fun v F' H' g' r' q=>by
 refine h v F' H' (g.trans g') r' ?_;obtain⟨w,ρ'⟩:=p;cases w with
 |dat d=>exact q
 |tmp o=>obtain⟨l,e,h1,h2,h3,h4⟩:=q;exact⟨l,e,h1,h2,g.free h3,h4⟩
 |slot i=>exact q
end
end DJ
namespace DJ
open PySem PySem.Spec PyProof.Rows L2
inductive TgsOk (X:Cx):List Expr->List Nat->Prop where
 |nil:TgsOk X [] []
 |cons {x:Str}{pos:Pos}{i:Nat}{es:List Expr}{is:List Nat}:X.N[i]?=some x->Loc X.env.scope x->(X.fn x=true\/X.env.scope.names.lookup x=some .local)->TgsOk X es is->TgsOk X (.Name x pos::es) (i::is)
inductive TgOk (X:Cx):Expr->List Nat->Bool->Prop where
 |one {x:Str}{pos:Pos}{i:Nat}:X.N[i]?=some x->Loc X.env.scope x->(X.fn x=true\/X.env.scope.names.lookup x=some .local)->TgOk X (.Name x pos) [i] true
 |many {es:List Expr}{k:Nat}{pos:Pos}{is:List Nat}:TgsOk X es is->TgOk X (.Tuple es k pos) is false
noncomputable def gNs:List Nat->TGs
 |[]=>jt9
 |i::is=>jq8 (joM i) (gNs is)
noncomputable def jlR (is:List Nat)(vs:List V)(σ:L2.St):L2.St:=(is.zip vs).foldl (fun r p=>r.set p.1 (some p.2)) σ
theorem jkd:∀{is:List Nat}{vs:List V}{σ:L2.St}{H:Hp}{Q:L2.St->Hp->Prop},is.length=vs.length->Q (jlR is vs σ) H->gNs is vs σ H Q
 |[],[],_,_,_,_,q=>⟨rfl,q⟩
 |[],_::_,_,_,_,e,_=>by simp at e
 |_::_,[],_,_,_,e,_=>by simp at e
 |i::is,v::vs,σ,H,Q,e,q=>⟨v,vs,rfl,jkd (is:=is) (vs:=vs) (σ:=σ.set i (some v)) (H:=H) (Q:=Q) (by simpa using e) q⟩
theorem TgsOk.pgs {X:Cx}(nd:X.N.Nodup){es:List Expr}{is:List Nat}(h:TgsOk X es is):PGs X es (gNs is):=by
 induction h with
 |nil=>exact joN
 |cons h1 h2 h3 _ ih=>exact jlX (jjz nd h1 h2 h3) ih
theorem TgsOk.lens {X:Cx}{es:List Expr}{is:List Nat}(h:TgsOk X es is):(assignEach es X.env).length=is.length/\(assignEach es X.env).findIdx? (·.1)=none:=by
 induction h with
 |nil=>exact⟨rfl,rfl⟩
 |@cons x pos i es is _ _ _ _ ih=>
  have e:assignEach (Expr.Name x pos::es) X.env=(false,assign (.Name x pos) X.env)::assignEach es X.env:=rfl;rw[e];refine⟨by simp[ih.1],?_⟩
  rw[List.findIdx?_cons];simp[ih.2]
section
variable {Z:Kn}{B:Bs}{F:Addr->Prop}{H:Hp}
theorem SR.putN:∀{is:List Nat}{ds:List D}{vs:List V}{σ:L2.St}{ρ:Rho},SR Z B F H σ ρ->Reps Z F H ds vs ->
  SR Z B F H (jlR is vs σ) ((is.zip ds).foldl (fun r p=>r.set p.1 (.dat p.2)) ρ)/\Go σ ρ F H (jlR is vs σ) ((is.zip ds).foldl (fun r p=>r.set p.1 (.dat p.2)) ρ) F H
 |[],_,_,_,_,r,_=>by simpa[jlR] using⟨r,Go.refl⟩
 |_::_,[],vs,_,_,r,h=>by
  simp only[Reps]at h;subst h;simpa[jlR] using⟨r,Go.refl⟩
 |i::is,d::ds,vs,σ,ρ,r,h=>by
  simp only[Reps]at h;obtain⟨v,us,rfl,h1,h2⟩:=h;simp only[jlR,List.zip_cons_cons,List.foldl_cons];obtain⟨a,b⟩:=SR.putN (is:=is) (r.put (i:=i) h1) h2;exact⟨a,Go.put.trans b⟩
end
theorem jhu:∀{is:List Nat}{vs:List V}{σ:L2.St}{j:Nat},j ∉ is->(jlR is vs σ)[j]?=σ[j]?
 |[],_,_,_,_=>by simp[jlR]
 |_::_,[],_,_,_=>by simp[jlR]
 |i::is,v::vs,σ,j,h=>by
  simp only[ju8,not_or]at h;have:=jhu (is:=is) (vs:=vs) (σ:=σ.set i (some v)) h.2;simp only[jlR,List.zip_cons_cons,List.foldl_cons]at this ⊢;rw[this,jvn (Ne.symm h.1)]
theorem juI {Z:Kn}{X:Cx}{tg:Expr}{tgs:List Nat}{one:Bool}(hZ:X.K=Z.K)(hc:one=false->X.calm=true)(nd:X.N.Nodup)(T:TgOk X tg tgs one){pins:List (Addr×Obj)}{s:Shared}{σ:L2.St}{ρ ρ':Rho}{B:Bs}{F:Addr->Prop}{H:Hp}{d:D}{v:V}{u:Value}
  (I:Inv X pins σ H s) (r:SR Z B F H σ ρ) (rp:Rep Z F H d v) (rv:RelV v u) (hp:putT tgs one d ρ=.ok ρ') :
  wpAny (model X.prog X.w) X.A (assign tg X.env u) (fun _ s'=>∃σ',Inv X pins σ' H s'/\SR Z B F H σ' ρ'/\Go σ ρ F H σ' ρ' F H/\∀i:Nat,i ∉ tgs->σ'[i]?=σ[i]?) X.xe s:=by
 cases T with
 |@one x pos i h1 h2 h3=>
  simp only[putT]at hp;cases hp;refine thn (jjz nd h1 h2 h3 pins s σ H v u (fun σ' H'=>(SR Z B F H σ' (ρ.set i (.dat d))/\Go σ ρ F H σ' (ρ.set i (.dat d)) F H/\∀j:Nat,j ∉ [i]->σ'[j]?=σ[j]?)/\H'=H) I rv ⟨⟨r.put rp,Go.put,fun j hj=>jvn (fun z=>hj (by simp[z]))⟩,rfl⟩) fun _ s' ⟨σ',H',I',q,e⟩=>?_
  subst e;exact⟨σ',I',q⟩
 |many h=>
  cases d with
  |tup ds=>
   simp only[putT]at hp;split at hp
   ·rename_i hl;cases hp;simp only[Rep]at rp;obtain⟨a,vs,rfl,ft,rs⟩:=rp;have hvl:vs.length=tgs.length:=by rw[hl,rs.length]
    refine thn (jnU (n:=tgs.length) (hc rfl) (h.pgs nd) h.lens.1 h.lens.2 pins s σ H (.ref a) u (fun σ' H'=>(SR Z B F H σ' ((tgs.zip ds).foldl (fun r p=>r.set p.1 (.dat p.2)) ρ)/\Go σ ρ F H σ' ((tgs.zip ds).foldl (fun r p=>r.set p.1 (.dat p.2)) ρ) F H/\∀j:Nat,j ∉ tgs->σ'[j]?=σ[j]?)/\H'=H) I rv ⟨a,vs,rfl,(by rw[hZ];exact ft.sq),hvl,jkd hvl.symm ⟨⟨(r.putN rs).1,(r.putN rs).2,fun j hj=>jhu hj⟩,rfl⟩⟩) fun _ s' hzz=>?_
    obtain⟨σ',H',I',q,e⟩:=hzz;subst e;exact⟨σ',I',q⟩
   ·cases hp
  |_=>simp only[putT]at hp <;> cases hp
structure GK (F0:Addr->Prop)(H0:Hp)(ls:List Addr)(F:Addr->Prop)(H:Hp):Prop where
 keep:Keep F0 F H0 H
 ls:∀l∈ls,H l=H0 l
theorem GK.refl {F0:Addr->Prop}{H0:Hp}{ls:List Addr}:GK F0 H0 ls F0 H0:=⟨Keep.refl,fun _ _=>rfl⟩
theorem GK.ext {F0 F F1:Addr->Prop}{H0 H H1:Hp}{ls:List Addr}(g:GK F0 H0 ls F H)(d:Dom F H)(hl:∀l∈ls,∃o,H0 l=some o)(e:Ext F H F1 H1):GK F0 H0 ls F1 H1:=
 ⟨g.keep.trans (e.keep d),fun l h=>by
  obtain⟨o,q⟩:=hl l h;rw[e.same l o ((g.ls l h).trans q),q]⟩
theorem GK.go {Z:Kn}{B:Bs}{F0 F F1:Addr->Prop}{H0 H H1:Hp}{ls:List Addr}{σ σ1:L2.St}{ρ ρ1:Rho}(g:GK F0 H0 ls F H)(hl:∀l∈ls,∃o,H0 l=some o)(r:SR Z B F H σ ρ)(e:Go σ ρ F H σ1 ρ1 F1 H1)(hm:∀l∈ls,¬Mb σ ρ l):GK F0 H0 ls F1 H1:=
 ⟨g.keep.trans (e.keep r),fun l h=>by
  obtain⟨o,q⟩:=hl l h;rw[e.stay l o ((g.ls l h).trans q) (hm l h),q]⟩
noncomputable def ItmG (Z:Kn)(G:(Addr->Prop)->Hp->Prop)(J:L2.It)(xs:List D):Prop:=xs.length<=sizeLine/\∀F H,G F H->Dom F H ->
 (∀(i:Nat) (x:D),xs[i]?=some x->J.go i H/\∀v H2,J.yld i H v H2->∃F2,Ext F H F2 H2/\Rep Z F2 H2 x v)/\J.stop xs.length H
structure Wk (P:Program)(w:World)(Z:Kn)(tg:Expr)(F0:Addr->Prop)(H0:Hp)(ls:List Addr)(xs:List D)(fp:List Addr)(it:Addr)(tn:Nat->Heap->Prop):Prop where
 mem:it∈fp
 len:xs.length<=sizeLine
 lst:∀l∈ls,∃o,H0 l=some o
 obj:∀i h,tn i h->∀b∈fp,∃o,h.get? b=some o/\∀v,o.data≠.cell v
 keep:∀i h h',tn i h->(∀b∈fp,∀o,h.get? b=some o->h'.get? b=some o)->tn i h'
 self:∀(A:Around) (i:Nat) (s:Shared) (Q:Value->Shared->Prop) (E:Value->Shared->Prop),tn i s.heap->Q (.ref it) s->wpAny (model P w) A (pyIter (.ref it)) Q E s
 take:∀(X:Cx),X.prog=P->X.w=w->X.K=Z.K->X.calm=true->X.N.Nodup->∀tgs one,TgOk X tg tgs one ->
  ∀(i:Nat) (pins:List (Addr×Obj)) (s:Shared) (σ:L2.St) (ρ ρ':Rho) (B:Bs) (F:Addr->Prop) (H:Hp) (x:D),Inv X pins σ H s->SR Z B F H σ ρ->GK F0 H0 ls F H->(∀b∈fp,FpOk X pins H b)->tn i s.heap->xs[i]?=some x->putT tgs one x ρ=.ok ρ' ->
  wpAny (model P w) X.A (pyNext (.ref it)) (fun r s1=>∃u,r=some u/\wpAny (model P w) X.A (letOwnedTupleGo tg (.ref it) u) (fun _ s2=>wpAny (model P w) X.A (assign tg X.env u)
   (fun _ s3=>∃σ3 F3 H3,Inv X pins σ3 H3 s3/\SR Z B F3 H3 σ3 ρ'/\Go σ ρ F H σ3 ρ' F3 H3/\GK F0 H0 ls F3 H3/\tn (i + 1) s3.heap/\(∀b∈fp,H3 b=none)/\∀j:Nat,j ∉ tgs->σ3[j]?=σ[j]?) X.xe s2) X.xe s1) X.xe s
 done:∀(X:Cx),X.prog=P->X.w=w->X.K=Z.K->X.calm=true->∀(pins:List (Addr×Obj)) (s:Shared) (σ:L2.St) (F:Addr->Prop) (H:Hp),Inv X pins σ H s->Dom F H->GK F0 H0 ls F H->(∀b∈fp,FpOk X pins H b)->tn xs.length s.heap ->
  wpAny (model P w) X.A (pyNext (.ref it)) (fun r s1=>r=none/\Inv X pins σ H s1) X.xe s
theorem ItmG.wk {P:Program}{w:World}{Z:Kn}{K:Frag}{tg:Expr}{F0:Addr->Prop}{H0:Hp}{ls:List Addr}{J:L2.It}{xs:List D}{fp:List Addr}{it:Addr}{tn:Nat->Heap->Prop}(h:ItmG Z (GK F0 H0 ls) J xs)(hK:K=Z.K)(hl:∀l∈ls,∃o,H0 l=some o)(T:Turn P w K tg J fp it tn):Wk P w Z tg F0 H0 ls xs fp it tn where
 mem:=T.mem
 len:=h.1
 lst:=hl
 obj:=T.obj
 keep:=T.keep
 self:=T.self
 done:=fun X h1 h2 h3 hc pins s σ F H I dm g fo st=>T.done X h1 h2 (h3.trans hK.symm) hc _ pins s σ H X.xe I fo st (h.2 F H g dm).2
 take:=by
  intro X h1 h2 h3 hc nd tgs one tk i pins s σ ρ ρ' B F H x I r g fo st hx hp;obtain⟨g1,g2⟩:=(h.2 F H g r.dom).1 i x hx;refine thn (T.item X h1 h2 (h3.trans hK.symm) hc i pins s σ H X.xe I fo st g1) fun o s1 hz=>?_;obtain⟨u,ho,h⟩:=hz;refine⟨u,ho,thn h fun _ s2 hz=>?_⟩;obtain⟨v,H2,I2,rv,y,st2,fr2⟩:=hz;obtain⟨F2,ex,rp⟩:=g2 v H2 y;subst h1 h2;have fo2:∀b∈fp,FpOk X pins H2 b:=fun b hb=>⟨fr2 b hb,(fo b hb).2⟩;have I2':=I2.pinned fo2 (T.obj _ _ st2);refine thn (juI h3 (fun _=>hc) nd tk I2' (r.ext ex) rp rv hp) fun _ s3 hzz=>?_;obtain⟨σ3,I3,r3,g3,ho3⟩:=hzz;refine⟨σ3,F2,H2,I3.unpinned,r3,ex.go.trans g3,g.ext r.dom hl ex,T.keep _ _ _ st2 fun b hb o e=>(I3.pin (b,o) (jvg _ (jvg _ (jbx hb e)))).1,fr2,ho3⟩
section
variable {K:Frag}{F F':Addr->Prop}{H H':Hp}
theorem FL.keep {a:Addr}{xs:List V}(k:Keep F F' H H')(h:FL K F H a xs):FL K F' H' a xs:=h.imp k.rd id
theorem FT.keep {a:Addr}{xs:List V}(k:Keep F F' H H')(h:FT K F H a xs):FT K F' H' a xs:=h.imp k.rd id
end
theorem jmu {Z:Kn}{G:(Addr->Prop)->Hp->Prop}{xs:List D}{vs:List V}{a:Addr}(len:xs.length<=sizeLine)(hG:∀F H,G F H->Dom F H->SqL Z.K H a vs/\Reps Z F H xs vs):ItmG Z G (Itl Z.K a) xs:=
 ⟨len,fun F H g dm=>by
  obtain⟨q,r⟩:=hG F H g dm;refine⟨fun i x hx=>?_,⟨vs,q,by rw[r.length];exact jvK _⟩⟩
  obtain⟨v,e,rp⟩:=r.get hx;refine⟨⟨vs,v,q,e⟩,fun u H2 y=>?_⟩;obtain⟨rfl,y⟩:=y;have:=y vs q;rw[e]at this;cases this;exact⟨F,Ext.refl dm,rp⟩⟩
theorem jpi {Z:Kn}{G:(Addr->Prop)->Hp->Prop}{xs:List D}{vs:List V}{a:Addr}(len:xs.length<=sizeLine)(hG:∀F H,G F H->Dom F H->SqT Z.K H a vs/\Reps Z F H xs vs):ItmG Z G (Itt Z.K a) xs:=
 ⟨len,fun F H g dm=>by
  obtain⟨q,r⟩:=hG F H g dm;refine⟨fun i x hx=>?_,⟨vs,q,by rw[r.length];exact jvK _⟩⟩
  obtain⟨v,e,rp⟩:=r.get hx;refine⟨⟨vs,v,q,e⟩,fun u H2 y=>?_⟩;obtain⟨rfl,y⟩:=y;have:=y vs q;rw[e]at this;cases this;exact⟨F,Ext.refl dm,rp⟩⟩
theorem jpj (lo:Int)(n:Nat):(jkb lo n).length=n:=by unfold jkb;rw[jve,List.length_range]
theorem jpk {Z:Kn}{G:(Addr->Prop)->Hp->Prop}{lo:Int}{n:Nat}(hn:n<=sizeLine):ItmG Z G (Itr lo n) (jkb lo n):=by
 have hl:=jpj lo n;refine⟨by rw[hl];exact hn,fun F H g dm=>⟨fun i x hx=>?_,by rw[hl];exact jvK n⟩⟩
 unfold jkb at hx;rw[jvb]at hx;cases e:(List.range n)[i]? with
 |none=>rw[e]at hx;cases hx
 |some k=>
  rw[e]at hx;obtain⟨h1,h2⟩:=List.getElem?_eq_some_iff.mp e;rw[List.length_range]at h1;rw[List.getElem_range]at h2;subst h2;cases hx;refine⟨h1,fun u H2 y=>?_⟩;obtain⟨rfl,rfl⟩:=y;exact⟨F,Ext.refl dm,by simp only[Rep]⟩
end DJ
namespace DJ
open PySem PySem.Spec PyProof.Rows L2
noncomputable def RepB (Z:Kn)(F:Addr->Prop)(H:Hp)(d:D)(v:V):Prop:=Rep Z F H d v\/∃l o,v=.ref l/\d=o.toD/\HasO Z F H l o
section
variable {Z:Kn}{X:Cx}{B:Bs}{σ:L2.St}{ρ ρ1 ρ2:Rho}{F F1 F2:Addr->Prop}{H H0 H1 H2:Hp}{w:Vl}{v:V}
theorem RV.go (h:RV Z F1 H0 H1 σ ρ1 w v)(r:SR Z B F1 H1 σ ρ1)(g:Go σ ρ1 F1 H1 σ ρ2 F2 H2):RV Z F2 H0 H2 σ ρ2 w v:=by
 cases w with
 |dat d=>exact Rep.mono (g.keep r) h
 |tmp o=>
  obtain⟨l,e,h1,h2,h3,h4⟩:=h;obtain⟨u,hu⟩:=h4.some;obtain⟨a,b,c⟩:=g.side hu h1 h2;exact⟨l,e,b,c,h3,h4.mono (g.keep r) (a.trans hu.symm)⟩
 |slot i=>exact h
theorem RV.base (h:RV Z F1 H0 H1 σ ρ1 w v)(k:∀l,H0 l=none->H l=none):RV Z F1 H H1 σ ρ1 w v:=by
 cases w with
 |dat d=>exact h
 |tmp o=>obtain⟨l,e,h1,h2,h3,h4⟩:=h;exact⟨l,e,h1,h2,k l h3,h4⟩
 |slot i=>exact h
theorem ja9 {d:D}(h:RV Z F1 H0 H1 σ ρ1 w v)(r:SR Z B F1 H1 σ ρ1)(hd:deref w ρ1=.ok d):RepB Z F1 H1 d v:=by
 cases w with
 |dat d'=>cases hd;exact .inl h
 |tmp o=>cases hd;obtain⟨l,e,_,_,_,h4⟩:=h;exact .inr ⟨l,o,e,rfl,h4⟩
 |slot i=>
  simp only[deref]at hd;split at hd
  ·rename_i o f k e;cases hd;obtain⟨l,e1,_,e3,_⟩:=r.own i o f k e;have h:σ[i]?=some (some v):=h;rw[h]at e1;cases e1;exact .inr ⟨l,o,rfl,rfl,e3⟩
  ·cases hd
theorem jaP {c:Nat}:deref w ρ1≠.err c:=by
 cases w with
 |dat d=>intro z;cases z
 |tmp o=>intro z;cases z
 |slot i=>
  simp only[deref];split <;> (intro z;cases z)
theorem O.rep {l:Addr}{o:O}(h:HasO Z F H l o)(hF:F l):Rep Z F H o.toD (.ref l):=by
 cases o with
 |l xs=>
  obtain⟨vs,e,q⟩:=h;simp only[O.toD,Rep];exact⟨l,vs,rfl,.inl ⟨hF,.inl e⟩,q⟩
 |d ks vs=>
  obtain⟨e1,e2,e3⟩:=h;simp only[O.toD,Rep];exact⟨l,rfl,hF,e1,e2,e3⟩
theorem SR.frzT (r:SR Z B F1 H1 σ ρ1){l:Addr}{o:O}(hO:¬Ow σ ρ1 l)(h:HasO Z F1 H1 l o):SR Z B (fun a=>F1 a\/a=l) H1 σ ρ1/\Rep Z (fun a=>F1 a\/a=l) H1 o.toD (.ref l):=by
 have kp:Keep F1 (fun a=>F1 a\/a=l) H1 H1:=fun a q=>⟨.inl q,rfl⟩;refine⟨⟨fun a q=>q.elim (r.dom a) fun (e:a=l)=>by rw[e];exact h.some,r.len,fun i d e=>let ⟨v,e1,e2⟩:=r.dat i d e;⟨v,e1,e2.mono kp⟩,fun i o f k e=>?_,r.one,r.base⟩,O.rep (h.mono kp rfl) (.inr rfl)⟩
 obtain⟨l',e1,e2,e3,e4⟩:=r.own i o f k e;refine⟨l',e1,fun z=>z.elim e2 fun z=>?_,e3.mono kp rfl,e4⟩;subst z;exact hO ⟨i,o,f,k,e,e1⟩
theorem Go.frzT (g:Go σ ρ F H σ ρ1 F1 H1){l:Addr}(hn:H l=none):Go σ ρ F H σ ρ1 (fun a=>F1 a\/a=l) H1:=
 ⟨g.stay,fun a h=>.inl (g.sub a h),fun a h=>h.elim (g.new a) fun (e:a=l)=>.inr (.inl (by rw[e];exact hn)),g.ow,g.there⟩
theorem jfD {d:D}(h:RV Z F1 H H1 σ ρ1 w v)(r:SR Z B F1 H1 σ ρ1)(g:Go σ ρ F H σ ρ1 F1 H1)(hd:toD w ρ1=.ok (d,ρ2)):∃F2,Go σ ρ F H σ ρ2 F2 H1/\SR Z B F2 H1 σ ρ2/\Rep Z F2 H1 d v/\Keep F1 F2 H1 H1:=by
 cases w with
 |dat d'=>cases hd;exact⟨F1,g,r,h,Keep.refl⟩
 |tmp o=>
  cases hd;obtain⟨l,rfl,h1,h2,h3,h4⟩:=h;obtain⟨a,b⟩:=r.frzT h2 h4;exact⟨_,g.frzT h3,a,b,fun a q=>⟨.inl q,rfl⟩⟩
 |slot i=>
  have h:σ[i]?=some (some v):=h;simp only[toD]at hd;split at hd
  ·rename_i o e;cases hd;obtain⟨l,e1,_⟩:=r.own i o _ _ e;rw[h]at e1;cases e1;obtain⟨a,b,c⟩:=r.frz e h;exact⟨_,g.trans (Go.frz e h),b,c,a⟩
  ·cases hd
theorem jc2 {c:Nat}:toD w ρ1≠.err c:=by
 cases w with
 |dat d=>intro z;cases z
 |tmp o=>intro z;cases z
 |slot i=>
  simp only[toD];split <;> (intro z;cases z)
end
section
variable {Z:Kn}{F F1:Addr->Prop}{H H1:Hp}{x:V}
theorem RepB.flat {d:D}(h:RepB Z F H d x)(hd:∀o:O,d≠o.toD):Rep Z F H d x:=by
 rcases h with h | ⟨_,o,_,e,_⟩
 ·exact h
 ·exact absurd e (hd o)
theorem RepB.int {i:Int}(h:RepB Z F H (.int i) x):x=.int i:=by have:=h.flat (fun o z=>by cases o <;> cases z);simpa only[Rep] using this
theorem RepB.bl {b:Bool}(h:RepB Z F H (.bl b) x):x=.bl b:=by have:=h.flat (fun o z=>by cases o <;> cases z);simpa only[Rep] using this
theorem RepB.str {s:Str}(h:RepB Z F H (.str s) x):x=.str s:=by have:=h.flat (fun o z=>by cases o <;> cases z);simpa only[Rep] using this
theorem RepB.non (h:RepB Z F H .non x):x=.non:=by have:=h.flat (fun o z=>by cases o <;> cases z);simpa only[Rep] using this
theorem RepB.tup {ds:List D}(h:RepB Z F H (.tup ds) x):∃a vs,x=.ref a/\FT Z.K F H a vs/\Reps Z F H ds vs:=by have:=h.flat (fun o z=>by cases o <;> cases z);simpa only[Rep] using this
theorem RepB.lst {ds:List D}(h:RepB Z F H (.lst ds) x):∃a vs,x=.ref a/\SqL Z.K H a vs/\Reps Z F H ds vs:=by
 rcases h with h | ⟨l,o,e1,e2,e3⟩
 ·simp only[Rep]at h;obtain⟨a,vs,e,q,r⟩:=h;exact⟨a,vs,e,q.sq,r⟩
 ·cases o with
  |l xs=>
   cases e2;obtain⟨vs,e,q⟩:=e3;exact⟨l,vs,e1,SqL.of e,q⟩
  |d ks vs=>cases e2
theorem RepB.dct {ks vs:List D}(h:RepB Z F H (.dct ks vs) x):∃a,x=.ref a/\ks=[]/\vs=[]/\H a=some (.dK []):=by
 rcases h with h | ⟨l,o,e1,e2,e3⟩
 ·simp only[Rep]at h;obtain⟨a,e,_,h1,h2,h3⟩:=h;exact⟨a,e,h1,h2,h3⟩
 ·cases o with
  |l xs=>cases e2
  |d ks' vs'=>cases e2;exact⟨l,e1,e3⟩
theorem jdI {d:D}{xs:List D}(h:RepB Z F H d x)(hs:ja5 d=.ok xs):∃p vs,x=.ref p/\(SqL Z.K H p vs\/SqT Z.K H p vs)/\Reps Z F H xs vs:=by
 cases d with
 |tup ds=>cases hs;obtain⟨a,vs,e,ft,r⟩:=h.tup;exact⟨a,vs,e,.inr ft.sq,r⟩
 |lst ds=>cases hs;obtain⟨a,vs,e,ft,r⟩:=h.lst;exact⟨a,vs,e,.inl ft,r⟩
 |_=>cases hs
end
noncomputable def PostV (Z:Kn)(F:Addr->Prop)(H:Hp)(Q:VK)(w:Vl):Prop:=∀v F' H',Ext F H F' H'->(∀σ ρ B,SR Z B F H σ ρ->RV Z F' H H' σ ρ w v)->Q v H'
section
variable {Z:Kn}{B:Bs}{σ:L2.St}{ρ:Rho}{F:Addr->Prop}{H:Hp}{Q:VK}
theorem PostV.sc {d:D}{v:V}(h:PostV Z F H Q (.dat d))(dm:Dom F H)(r:Rep Z F H d v):Q v H:=h v F H (Ext.refl dm) fun _ _ _ _=>r
theorem PostV.int {i:Int}(h:PostV Z F H Q (.dat (.int i)))(dm:Dom F H):Q (.int i) H:=h.sc dm (by simp only[Rep])
theorem PostV.bl {i:Bool}(h:PostV Z F H Q (.dat (.bl i)))(dm:Dom F H):Q (.bl i) H:=h.sc dm (by simp only[Rep])
theorem PostV.tupOld {ds:List D}{a:Addr}{vs:List V}(h:PostV Z F H Q (.dat (.tup ds)))(dm:Dom F H)(f:FT Z.K F H a vs)(r:Reps Z F H ds vs):Q (.ref a) H:=h.sc dm (by simp only[Rep];exact⟨a,vs,rfl,f,r⟩)
theorem PostV.tup {ds:List D}{vs:List V}(h:PostV Z F H Q (.dat (.tup ds)))(dm:Dom F H)(r:Reps Z F H ds vs):∀p,H p=none->Q (.ref p) (upd H p (.tup vs)):=fun p hp=>by
 have ex:=Ext.newF (o:=.tup vs) dm hp;refine h _ _ _ ex fun _ _ _ _=>?_;show Rep _ _ _ _ _;simp only[Rep];exact⟨p,vs,rfl,.inl ⟨.inr rfl,.inl jan⟩,r.mono (ex.keep dm)⟩
theorem PostV.lst {ds:List D}{vs:List V}(h:PostV Z F H Q (.tmp (.l ds)))(dm:Dom F H)(r:Reps Z F H ds vs):∀p,H p=none->Q (.ref p) (upd H p (.lst vs)):=fun p hp=>by
 have ex:=Ext.newO (o:=.lst vs) dm hp;refine h _ _ _ ex fun σ ρ B sr=>⟨p,rfl,fun z=>?_,fun z=>?_,hp,vs,jan,r.mono (ex.keep dm)⟩
 ·obtain⟨o,e⟩:=dm p z;rw[hp]at e;cases e
 ·obtain⟨u,e⟩:=sr.there z;rw[hp]at e;cases e
end
theorem Post.toV {Z:Kn}{B:Bs}{σ:L2.St}{ρ ρ1:Rho}{F F1:Addr->Prop}{H H1:Hp}{Q:VK}{w:Vl}(h:Post Z B σ ρ F H Q (w,ρ1))(g:Go σ ρ F H σ ρ1 F1 H1)(r:SR Z B F1 H1 σ ρ1)(hw:∀i,w≠.slot i):PostV Z F1 H1 Q w:=fun v F' H' e q=>by
 refine h v F' H' (g.trans e.go) (r.ext e) ?_;exact(q σ ρ1 B r).base fun l z=>g.free z
inductive rD2_I (Z:Kn) (g:D->D->R Vl) (x:L2.V) (y:L2.V) (H:L2.Hp) (Q:L2.VK):Prop
 |mk (F:_) (dx:_) (dy:_) (w:_):(Dom F H)->(RepB Z F H dx x)->(RepB Z F H dy y)->(g dx dy=.ok w)->(PostV Z F H Q w)->rD2_I Z g x y H Q
noncomputable def rD2 (Z:Kn)(g:D->D->R Vl):R2:=fun x y H Q=>rD2_I Z g x y H Q
inductive rD1_I (Z:Kn) (g:D->R Vl) (x:V) (H:Hp) (Q:VK):Prop
 |mk (F:_) (dx:_) (w:_):(Dom F H)->(RepB Z F H dx x)->(g dx=.ok w)->(PostV Z F H Q w)->rD1_I Z g x H Q
noncomputable def rD1 (Z:Kn)(g:D->R Vl):V->Hp->VK->Prop:=fun x H Q=>rD1_I Z g x H Q
section
variable {Z:Kn}{X:Cx}{B:Bs}{σ:L2.St}{H:Hp}{Q:VK}
theorem tE.two {fa fb:Rho->R (Vl×Rho)}{g:D->D->R Vl}(hg:∀x y c,g x y≠.err c)(hs:∀x y i,g x y≠.ok (.slot i))
  (h:tE Z X B (fun ρ=>(fa ρ).bind fun p=>(fb p.2).bind fun q=>(deref p.1 q.2).bind fun x=>(deref q.1 q.2).bind fun y=>(g x y).bind fun v=>.ok (v,q.2)) σ H Q) :
  tOp (rD2 Z g) (tE Z X B fa) (tE Z X B fb) σ H Q:=by
 obtain⟨F,ρ,r,h⟩:=h;refine⟨F,ρ,r,h.bind.imp (fun _ w=>w) fun p h1 v F1 H1 g1 r1 q1=>⟨F1,p.2,r1,h1.bind.imp (fun c w=>w.mono g1) fun q h2 u F2 H2 g2 r2 q2=>?_⟩⟩;obtain⟨x,ex,h3⟩:=h2.bind.pure fun c=>jaP;obtain⟨y,ey,h4⟩:=h3.bind.pure fun c=>jaP;obtain⟨w,ew,h5⟩:=h4.bind.pure fun c=>hg x y c;have g12:=g1.trans g2;exact⟨F2,x,y,w,r2.dom,ja9 (q1.go r1 g2) r2 ex,ja9 q2 r2 ey,ew,Post.toV h5 g12 r2 fun i z=>hs x y i (by rw[ew,z])⟩
theorem tE.one {fa:Rho->R (Vl×Rho)}{g:D->R Vl}(hg:∀x c,g x≠.err c)(hs:∀x i,g x≠.ok (.slot i))(h:tE Z X B (fun ρ=>(fa ρ).bind fun p=>(deref p.1 p.2).bind fun x=>(g x).bind fun v=>.ok (v,p.2)) σ H Q):tUn (rD1 Z g) (tE Z X B fa) σ H Q:=by
 obtain⟨F,ρ,r,h⟩:=h;refine⟨F,ρ,r,h.bind.imp (fun _ w=>w) fun p h1 v F1 H1 g1 r1 q1=>?_⟩;obtain⟨x,ex,h3⟩:=h1.bind.pure fun c=>jaP;obtain⟨w,ew,h5⟩:=h3.bind.pure fun c=>hg x c;exact⟨F1,x,w,r1.dom,ja9 q1 r1 ex,ew,Post.toV h5 g1 r1 fun i z=>hs x i (by rw[ew,z])⟩
end
end DJ
namespace DJ
open PySem PySem.Spec PyProof.Rows L2
noncomputable def jiy (env:Env):List (Str×NameKind)->List (Str×Addr)->List (Str×Addr)
 |[],cs=>cs
 |(n,k)::r,cs=>jiy env r (if k == .free then (n,(env.cells.lookup n).getD 0)::cs else cs)
theorem jpl {env:Env}:∀(names:List (Str×NameKind)) (cs:List (Str×Addr)),(∀x∈names,x.2=.free->∃c,env.cells.lookup x.1=some c) ->
  (forIn names cs fun (x:Str×NameKind) (cs:List (Str×Addr))=>(match x with
   |(name,kind)=>if (kind == NameKind.free)=true then (do let a <-cellOf env name;pure (ForInStep.yield ((name,a)::cs)))else pure (ForInStep.yield cs):Sem (ForInStep (List (Str×Addr)))))=(pure (jiy env names cs):Sem _):=by
 intro names;induction names with
 |nil=>intro cs _;rfl
 |cons x r ih=>
  intro cs h;obtain⟨n,k⟩:=x;rw[List.forIn_cons];have ih':=fun cs=>ih cs fun x hx=>h x (ju6 _ hx);by_cases hk:(k == NameKind.free)=true
  ·obtain⟨c,hc⟩:=h (n,k) ju7 (by simpa using hk)
   have e1:cellOf env n=pure c:=by
    have hc:env.cells.lookup n=some c:=hc;unfold cellOf;rw[hc]
   simp only[hk,if_true,e1];have hc:env.cells.lookup n=some c:=hc;simp only[jiy,hk,if_true,hc,Option.getD_some];exact ih' _
  ·simp only[hk,jiy];exact ih' _
theorem jke {scope:Scope}{env:Env}(h:∀x∈scope.names,x.2=.free->∃c,env.cells.lookup x.1=some c):closureFor scope env=pure (jiy env scope.names []):=by
 have:=jpl scope.names [] h;unfold closureFor;simp only;rw[this];rfl
theorem jbI {env:Env}:∀(names:List (Str×NameKind)) (cs:List (Str×Addr)),(∀x∈names,x.2=.free->∃c,env.cells.lookup x.1=some c)->(∀n c,cs.lookup n=some c->env.cells.lookup n=some c) ->
  ∀n c,(jiy env names cs).lookup n=some c->env.cells.lookup n=some c
 |[],_,_,h2,n,c,e=>h2 n c e
 |(y,k)::r,cs,h1,h2,n,c,e=>by
  refine jbI r _ (fun x hx=>h1 x (ju6 _ hx)) (fun m b q=>?_) n c e;by_cases hk:(k == NameKind.free)=true
  ·rw[if_pos hk]at q;obtain⟨b',hb⟩:=h1 (y,k) ju7 (by simpa using hk)
   have hb:env.cells.lookup y=some b':=hb;rw[hb,List.lookup_cons]at q;by_cases e:m=y
   ·subst e;simp at q;subst q;exact hb
   ·have:(m == y)=false:=by simpa using e
    rw[this]at q;exact h2 m b q
  ·rw[if_neg hk]at q;exact h2 m b q
theorem jeI {env:Env}:∀(names:List (Str×NameKind)) (cs:List (Str×Addr)) (n:Str),(∃c,cs.lookup n=some c)\/(n,NameKind.free)∈names->∃c,(jiy env names cs).lookup n=some c
 |[],cs,n,h=>h.elim id fun h=>by simp at h
 |(y,k)::r,cs,n,h=>by
  refine jeI r _ n ?_;have keep:(∃c,cs.lookup n=some c)->∃c,(if k == NameKind.free then (y,(env.cells.lookup y).getD 0)::cs else cs).lookup n=some c:=fun ⟨c,e⟩=>by
   split
   ·rw[List.lookup_cons];split
    ·exact⟨_,rfl⟩
    ·exact⟨c,e⟩
   ·exact⟨c,e⟩
  rcases h with h | h
  ·exact .inl (keep h)
  ·rcases List.mem_cons.mp h with h | h
   ·cases h;refine .inl ⟨(env.cells.lookup y).getD 0,?_⟩;rw[if_pos (by rfl),List.lookup_cons]
    simp
   ·exact .inr h
theorem jbf {c:Str->NameKind->Bool}{x:Str}:∀(names:List (Str×NameKind)),(names.map fun (p:Str×NameKind)=>match p with | (n,k)=>if c n k=true then (n,NameKind.cell)else (n,k)).lookup x=(names.lookup x).map fun k=>if c x k=true then NameKind.cell else k
 |[]=>rfl
 |(n,k)::r=>by
  rw[jvc,List.lookup_cons];have ih:=jbf (c:=c) (x:=x) r;by_cases e:x=n
  ·subst e;by_cases hc:c x k=true
   ·simp[hc]
   ·simp[hc]
  ·have e':(x == n)=false:=by simpa using e
   by_cases hc:c n k=true
   ·simp only[hc,if_true,List.lookup_cons,e'];exact ih
   ·simp only[hc,jvQ,if_false,List.lookup_cons,e'];exact ih
section
variable {x:Str}{c:Addr}
theorem jcu (n:Nat)(y:Str)(k:NameKind)(r:List (Str×NameKind))(cs:List (Str×Addr)):cellsFrom n ((y,k)::r) cs=if k == .cell then cellsFrom (n + 1) r ((y,n)::cs)else cellsFrom n r cs:=rfl
theorem jkf (h:Heap)(y:Str)(k:NameKind)(r:List (Str×NameKind)):pushCells h ((y,k)::r)=if k == .cell then pushCells (h.push { cls:=.type "cell",data:=.cell none }) r else pushCells h r:=rfl
theorem jcv {y:Str}{n:Addr}{cs:List (Str×Addr)}(h:((y,n)::cs).lookup x=some c):(x=y/\c=n)\/(x≠y/\cs.lookup x=some c):=by
 rw[List.lookup_cons]at h;by_cases e:x=y
 ·subst e;simp at h;exact .inl ⟨rfl,h.symm⟩
 ·have:(x == y)=false:=by simpa using e
  rw[this]at h;exact .inr ⟨e,h⟩
theorem jdt:∀(names:List (Str×NameKind)) (n:Nat) (cs:List (Str×Addr)),(cellsFrom n names cs).lookup x=some c->n<=c\/cs.lookup x=some c
 |[],n,cs,h=>.inr h
 |(y,k)::r,n,cs,h=>by
  rw[jcu]at h;split at h
  ·rcases jdt r _ _ h with h | h
   ·exact .inl (by omega)
   ·rcases jcv h with ⟨_,e⟩ | ⟨_,h⟩
    ·exact .inl (e ▸ jvK _)
    ·exact .inr h
  ·exact jdt r _ _ h
theorem jkg:∀(names:List (Str×NameKind)) (n:Nat) (cs:List (Str×Addr)),(∀x c,cs.lookup x=some c->c < n)->(∀x y c,cs.lookup x=some c->cs.lookup y=some c->x=y)->∀x y c,(cellsFrom n names cs).lookup x=some c->(cellsFrom n names cs).lookup y=some c->x=y
 |[],n,cs,_,h=>h
 |(y,k)::r,n,cs,h1,h2=>by
  rw[jcu];split
  ·refine jkg r (n + 1) _ (fun a b q=>?_) fun a a' b q q'=>?_
   ·rcases jcv q with ⟨_,e⟩ | ⟨_,q⟩
    ·rw[e];exact Nat.lt_succ_self _
    ·exact Nat.lt_succ_of_lt (h1 a b q)
   ·rcases jcv q with ⟨e,e1⟩ | ⟨_,q⟩ <;> rcases jcv q' with ⟨e',e2⟩ | ⟨_,q'⟩
    ·rw[e,e']
    ·exact absurd (h1 a' b q') (by rw[e1];exact jvO _)
    ·exact absurd (h1 a b q) (by rw[e2];exact jvO _)
    ·exact h2 a a' b q q'
  ·exact jkg r n cs h1 h2
theorem jgq:∀(names:List (Str×NameKind)) (h:Heap) (cs:List (Str×Addr)),(∀x c,cs.lookup x=some c->∃v,h.IsCell c v)->∀x c,(cellsFrom h.objs.size names cs).lookup x=some c->∃v,(pushCells h names).IsCell c v
 |[],h,cs,k=>k
 |(y,k)::r,h,cs,q=>by
  rw[jcu,jkf];split
  ·have e:h.objs.size + 1=(h.push { cls:=.type "cell",data:=.cell none }).objs.size:=by rw[Heap.size_push]
   rw[e];refine jgq r _ _ fun a b z=>?_;rcases jcv z with ⟨_,e⟩ | ⟨_,z⟩
   ·subst e;exact⟨none,_,jvH _ rfl,rfl⟩
   ·obtain⟨v,z⟩:=q a b z;exact⟨v,z.keeps fun b o e=>jvF _ e⟩
  ·exact jgq r h cs q
theorem jkh:∀(names:List (Str×NameKind)) (n:Nat) (cs:List (Str×Addr)),(∀y∈names,y.1=x->y.2≠.cell)->(cellsFrom n names cs).lookup x=cs.lookup x
 |[],n,cs,_=>rfl
 |(y,k)::r,n,cs,h=>by
  rw[jcu];split
  ·rename_i hk;rw[jkh r _ _ fun z hz=>h z (ju6 _ hz),List.lookup_cons];have hne:x≠y:=fun e=>h (y,k) ju7 e.symm (by simpa using hk)
   have:(x == y)=false:=by simpa using hne
   rw[this]
  ·exact jkh r _ _ fun z hz=>h z (ju6 _ hz)
theorem jpm {n0:Nat}:∀(names:List (Str×NameKind)) (n:Nat) (cs:List (Str×Addr)),n0<=n->(∀c,cs.lookup x=some c->n0<=c)->(cellsFrom n names cs).lookup x=some c->n0<=c
 |[],n,cs,_,h,e=>h c e
 |(y,k)::r,n,cs,hn,h,e=>by
  rw[jcu]at e;split at e
  ·refine jpm r _ _ (by omega) (fun b z=>?_) e
   rcases jcv z with ⟨_,e⟩ | ⟨_,z⟩
   ·rw[e];exact hn
   ·exact h b z
  ·exact jpm r _ _ hn h e
theorem jki:∀(names:List (Str×NameKind)) (n:Nat) (cs:List (Str×Addr)),(x,NameKind.cell)∈names->(cellsFrom n names cs).lookup x=some c->n<=c
 |[],n,cs,h,_=>by cases h
 |(y,k)::r,n,cs,h,e=>by
  rw[jcu]at e;rcases List.mem_cons.mp h with h | h
  ·cases h;rw[if_pos (by rfl)]at e
   refine jpm r _ _ (Nat.le_succ _) (fun b z=>?_) e;rcases jcv z with ⟨_,e⟩ | ⟨z,_⟩
   ·rw[e];exact jvK _
   ·exact absurd rfl z
  ·split at e
   ·exact Nat.le_of_succ_le (jki r _ _ h e)
   ·exact jki r _ _ h e
theorem jdJ {M:Model}{A:Around}{E:Value->Shared->Prop}{Q:List (Str×Addr)->Shared->Prop}:∀(names:List (Str×NameKind)) (cs:List (Str×Addr)) (s:Shared),Q (cellsFrom s.heap.objs.size names cs) { s with heap:=pushCells s.heap names } ->
  wpAny M A (forIn names cs fun (x:Str×NameKind) (__s:List (Str×Addr))=>(match x with
    |(name,kind)=>if (kind == NameKind.cell)=true then (do let a <-alloc { cls:=.type "cell",data:=.cell none };pure (ForInStep.yield ((name,a)::__s)))else pure (ForInStep.yield __s):Sem (ForInStep (List (Str×Addr))))) Q E s
 |[],cs,s,h=>jvy h
 |(y,k)::r,cs,s,h=>by
  rw[jcu,jkf]at h;rw[List.forIn_cons];by_cases hk:(k == NameKind.cell)=true
  ·rw[if_pos hk,if_pos hk]at h;simp only[hk,if_true];refine jvx (jvx (wpAny_alloc (jvy ?_)));have:=jdJ (M:=M) (A:=A) (E:=E) (Q:=Q) r ((y,s.heap.objs.size)::cs) { s with heap:=s.heap.push { cls:=.type "cell",data:=.cell none } } (by rw[Heap.size_push];exact h)
   exact this
  ·rw[if_neg hk,if_neg hk]at h;simp only[hk];exact jvx (jvy (jdJ r cs s h))
theorem jiz {M:Model}{A:Around}{E:Value->Shared->Prop}{s:Shared}{scope:Scope}{g:Addr}{cl:List (Str×Addr)}{qual:Str}{env:Env}{Q:Env->Shared->Prop}
  (h:Q (newEnv scope s.heap.objs.size g (cellsFrom (s.heap.objs.size + 1) scope.names cl) qual none .none (some env) builtinsNs) { s with heap:=pushCells (s.heap.push { cls:=.type "dict",data:=.dict #[] }) scope.names }) :
  wpAny M A (newFunctionEnv scope g cl [] qual none .none (some env)) Q E s:=by
 unfold newFunctionEnv;refine jvx (wpAny_alloc ?_);refine jvx (jdJ scope.names cl _ ?_);refine jvx (jvy (jvy ?_));rw[Heap.size_push];exact h
end
noncomputable def cxComp (X:Cx)(N:List Str)(scope:Scope)(s:Shared)(H:Hp)(fp:List Addr)(xe:Value->Shared->Prop):Cx:=
 { X with N:=N,s₀:=s,H₀:=H,env:=compEnvC scope (cellsFrom (s.heap.objs.size + 1) scope.names (jiy X.env scope.names [])) s.heap.objs.size X.env,outer:=X.stack,ex:=fp,fn:=fun x=>scope.names.lookup x == some .cell,pn:=[],xe:=xe }
structure CompOk (X:Cx)(scope:Scope)(N cn:List Str)(nt:Nat)(caps:List Nat):Prop where
 kind:scope.kind=.function
 cell:∀y∈scope.names,y.2=.cell->scope.names.lookup y.1=some .cell
 names:∀y∈scope.names,y.2=.local->scope.names.lookup y.1=some .local
 free:∀y∈scope.names,y.2=.free->X.env.scope.names.lookup y.1=some .cell\/X.env.scope.names.lookup y.1=some .free
 nd:N.Nodup
 split:∃tn,N=tn++cn/\tn.length=nt
 clen:cn.length=caps.length
 at_:∀(k j:Nat) (x:Str),cn[k]?=some x->caps[k]?=some j->X.N[j]?=some x/\scope.names.lookup x=some .free
section
variable {X:Cx}{scope:Scope}{N cn:List Str}{nt:Nat}{caps:List Nat}{pins:List (Addr×Obj)}{σ:L2.St}{H:Hp}{s:Shared}{fp:List Addr}{E:Value->Shared->Prop}
noncomputable def jmv (nt:Nat)(caps:List Nat)(σ:L2.St):L2.St:=List.replicate nt none++caps.map fun j=>(σ[j]?).getD none
theorem CompOk.cells (C:CompOk X scope N cn nt caps)(I:Inv X pins σ H s):∀y∈scope.names,y.2=.free->∃c,X.env.cells.lookup y.1=some c:=fun y hy e=>I.ok.has y.1 (C.free y hy e)
theorem jkj (C:CompOk X scope N cn nt caps)(I:Inv X pins σ H s)(fo:∀b∈fp,FpOk X pins H b)(ft:∀b∈fp,b < s.heap.objs.size):(cxComp X N scope s H fp E).Ok where
 mod:=I.ok.mod
 kind:=C.kind
 glob:=I.ok.glob
 blt:=I.ok.blt
 above:=jvK _
 inj:=jkg _ _ _ (fun x c h=>by
  obtain⟨v,z⟩:=I.cell x c (jbI _ _ (C.cells I) (fun _ _ z=>by simp at z) _ _ h)
  obtain⟨o,e,_⟩:=z;exact Nat.lt_succ_of_lt (jvG e)) fun x y c h1 h2=>I.ok.inj x y c (jbI _ _ (C.cells I) (fun _ _ z=>by simp at z) _ _ h1) (jbI _ _ (C.cells I) (fun _ _ z=>by simp at z) _ _ h2)
 has:=fun x hx=>by
  have fin:(x,NameKind.free)∈scope.names\/scope.names.lookup x=some .cell->∃c,(cellsFrom (s.heap.objs.size + 1) scope.names (jiy X.env scope.names [])).lookup x=some c:=fun z=>by
   refine Option.isSome_iff_exists.mp (PySem.W.cellsFrom_some _ _ _ ?_);rcases z with z | z
   ·obtain⟨c,e⟩:=jeI (env:=X.env) scope.names [] x (.inr z);exact .inr (by rw[e];rfl)
   ·exact .inl z
  refine fin ?_;have hx':(relabel scope X.env).names.lookup x=some .cell\/(relabel scope X.env).names.lookup x=some .free:=hx;unfold relabel at hx';simp only at hx';rw[jbf (c:=fun n k=>k == .free && X.env.scope.kind == .function && X.env.kindOf n == some .cell)]at hx';cases e:scope.names.lookup x with
  |none=>rw[e]at hx';simp at hx'
  |some k=>
   have hm:=PySem.mem_of_lookup e;by_cases hk:k=.free
   ·subst hk;exact .inl hm
   ·rw[e]at hx';have hk':(k == NameKind.free)=false:=by simpa using hk
    simp only[hk',Bool.false_and,jvQ,if_false,Option.map_some,Option.some.injEq]at hx';rcases hx' with hx' | hx'
    ·subst hx';exact .inr rfl
    ·exact absurd hx' hk
 cab:=fun x c h hc=>by
  have h:(scope.names.lookup x == some .cell)=true:=h;exact Nat.le_of_succ_le (jki _ _ _ (PySem.mem_of_lookup (by simpa using h)) hc)
 hd:=I.ok.hd
 frames:=I.ok.frames
 stk:=.inl rfl
 exf:=fun b hb=>⟨jvM (ft b hb),fun x c h=>by
  rcases jdt _ _ _ h with h | h
  ·intro z;subst z;exact absurd (Nat.lt_trans (ft c hb) (Nat.lt_of_succ_le h)) (jvO _)
  ·exact(fo b hb).2.2.2.2.1 x c (jbI _ _ (C.cells I) (fun _ _ z=>by simp at z) _ _ h)⟩
 bs:=I.bs
 bsz:=jvN I.ok.bsz I.sz
 noex:=fun b o e hb=>by
  rcases (fo b hb).2.2.2.1 with z | z
  ·exact I.ok.noex b o e z
  ·exact absurd (jvL (jvG e) (jvN I.ok.bsz z)) (jvO _)
 exfs:=fun b hb hs=>by
  rcases List.mem_cons.mp (I.stkSub b hs)with z | z
  ·exact(fo b hb).2.1 z
  ·exact(fo b hb).2.2.1 z
 funs:=I.stack
 frf:=I.stkFree
theorem jmw (C:CompOk X scope N cn nt caps)(I:Inv X pins σ H s)(fo:∀b∈fp,FpOk X pins H b)(ft:∀b∈fp,b < s.heap.objs.size){h1:Heap}{m0:Str->Option Value}{tk:Nat}(hns:h1.Ns s.heap.objs.size m0)
  (kp:∀b o,s.heap.get? b=some o->h1.get? b=some o) (hcl:∀x c,(cellsFrom (s.heap.objs.size + 1) scope.names (jiy X.env scope.names [])).lookup x=some c->∃v,h1.IsCell c v):Inv (cxComp X N scope s H fp E) [] (jmv nt caps σ) H { s with heap:=h1,toks:=tk }:=by
 have sub:=jbI (env:=X.env) scope.names [] (C.cells I) (fun _ _ z=>by simp at z)
 refine⟨jkj C I fo ft,rfl,I.bare,Un.kept kp,⟨m0,hns,fun i x v h1' h2 h3=>?_⟩,fun x c e=>?_,I.hok.fresh (jvK _),fun x c e=>(jdt _ _ _ e).elim (fun z=>I.hok.fresh (Nat.le_of_succ_le z)) fun e=>I.freeC x c (sub x c e),fun p hp=>absurd (show p∈([]:List (Addr×Obj))from hp) (by simp),I.hok.kept kp,?_⟩
 ·obtain⟨tn,eN,hl⟩:=C.split;have h1':N[i]?=some x:=h1';have hi:nt<=i:=by
   refine Nat.le_of_not_lt fun hlt=>?_;unfold jmv at h2;rw[jvm (by simpa using hlt),List.getElem?_replicate,if_pos hlt]at h2
   cases h2
  unfold jmv at h2;rw[jvi (by simpa using hi),List.length_replicate,jvb]at h2
  rw[eN,jvi (by omega),hl]at h1'
  cases e:caps[i - nt]? with
  |none=>rw[e]at h2;cases h2
  |some j=>
   rw[e]at h2;obtain⟨hj,hf⟩:=C.at_ _ j x h1' e;have h2':(σ[j]?).getD none=some v:=Option.some.inj h2;have h2'':σ[j]?=some (some v):=by
    cases q:σ[j]? with
    |none=>rw[q]at h2';cases h2'
    |some o=>rw[q]at h2';simp at h2';rw[h2']
   have hm:=PySem.mem_of_lookup hf;have hk:=C.free _ hm rfl;obtain⟨m,hn,hl'⟩:=I.loc;obtain⟨u,r,lk⟩:=hl' j x v hj h2'' (.inr hk);refine⟨u,r,?_⟩;rcases lk with ⟨k1,_⟩ | ⟨_,c,hc,hcell⟩
   ·have k1:X.env.scope.names.lookup x=some .local:=k1;rw[k1]at hk;rcases hk with z | z <;> cases z
   ·obtain⟨c',hc'⟩:=jeI (env:=X.env) scope.names [] x (.inr hm);have hcc:=sub x c' hc';rw[hc]at hcc;cases hcc;refine .inr ⟨?_,c,(jkh _ _ _ fun y hy ey z=>?_).trans hc',?_⟩
    ·show (relabel scope X.env).names.lookup x=some .cell\/(relabel scope X.env).names.lookup x=some .free;unfold relabel;simp only;rw[jbf (c:=fun n k=>k == .free && X.env.scope.kind == .function && X.env.kindOf n == some .cell),hf];simp only[Option.map_some];split
     ·exact .inl rfl
     ·exact .inr rfl
    ·have:=C.cell y hy z;rw[ey,hf]at this;cases this
    ·exact hcell.keeps kp
 ·exact hcl x c e
 ·obtain⟨tn,eN,hl⟩:=C.split;show (jmv nt caps σ).length=N.length;unfold jmv;rw[eN,jvj,jvj,List.length_replicate,jve,hl,C.clen]
end
theorem jfE {prog:Program}{w:World}{A:Around}{R:Result->Shared->Prop}{s:Shared}{elt target iter:Expr}{ifs:List Expr}{scope:Scope}{pos:Pos}{it acc:Value}{env:Env}(I:Nat->Shared->Prop)
  (turn:∀n s,I n s->wpAny (model prog w) A (pyNext it) (fun r s₁=>match r with
   |none=>R (.ok .next) s₁
   |some v=>wpAny (model prog w) A (letOwnedTupleGo target it v) (fun _ s₁'=>wpAny (model prog w) A (assign target env v) (fun _ s₂=>
     wpAny (model prog w) A (forIn ifs true fun c r=>if r=true then do let ok <-isTrue c env (eval c env);pure (ForInStep.yield ok)else pure (ForInStep.yield r)) (fun ok s₃=>
      if ok=true then wpAny (model prog w) A (eval elt env) (fun x s₄=>
       wpAny (model prog w) A (call (.builtin "list.append") [acc,x]) (fun _ s₅=>∃m,m < n/\I m s₅) (notedBy (model prog w) A env fun e s'=>R (.error e) s') s₄) (notedBy (model prog w) A env fun e s'=>R (.error e) s') s₃
      else ∃m,m < n/\I m s₃) (notedBy (model prog w) A env fun e s'=>R (.error e) s') s₂) (notedBy (model prog w) A env fun e s'=>R (.error e) s') s₁') (notedBy (model prog w) A env fun e s'=>R (.error e) s') s₁) (notedBy (model prog w) A env fun e s'=>R (.error e) s') s)
  (n:Nat) (h:I n s) :
  codeAny (model prog w) A (.compLoop (.ListComp elt [⟨target,iter,ifs,0⟩] scope pos) 0 it acc env) R s:=by
 refine codeAny_loop rfl I (fun n s hI=>?_) n h;show wpAny _ A ((compTurn (.ListComp elt [⟨target,iter,ifs,0⟩] scope pos) 0 it acc env).onRaise (fun x=>do noteFrame x env;theTreesLotGoes x)) _ _ s
 refine wpAny_noted ?_;rw[compTurn_list];refine jvx (wpAny_standAt (jvx (jvE (turn n s hI) (fun r s₁ h₁=>?_) fun _ _ h'=>h')));cases r with
 |none=>exact jvy h₁
 |some v=>
  refine jvx (jvE h₁ (fun _ s₁' h₁'=>?_) fun _ _ h'=>h');refine jvx (jvE h₁' (fun _ s₂ h₂=>jvx (jvE h₂ (fun ok s₃ h₃=>?_) fun _ _ h'=>h')) fun _ _ h'=>h');cases ok with
  |false=>exact jvy ⟨rfl,h₃⟩
  |true=>
   exact jvx (jvx (jvE h₃ (fun x s₄ h₄=>jvx (jvE h₄ (fun _ s₅ h₅=>jvy (jvy ⟨rfl,h₅⟩)) fun _ _ h'=>h')) fun _ _ h'=>h'))
theorem jeJ {tgs:List Nat}{one:Bool}{x:D}{ρ:Rho}{c:Nat}:putT tgs one x ρ≠.err c:=by
 unfold putT;split
 ·intro z;cases z
 ·split <;> (intro z;cases z)
 ·intro z;cases z
theorem jmx {tgs:List Nat}{one:Bool}{x:D}{ρ ρ':Rho}(h:putT tgs one x ρ=.ok ρ'):ρ'.length=ρ.length/\∀i:Nat,i ∉ tgs->ρ'[i]?=ρ[i]?:=by
 have fold:∀(ps:List (Nat×D)) (ρ:Rho),(ps.foldl (fun r p=>r.set p.1 (.dat p.2)) ρ).length=ρ.length/\∀i:Nat,i ∉ ps.map (·.1)->(ps.foldl (fun r p=>r.set p.1 (Sl.dat p.2)) ρ)[i]?=ρ[i]?:=by
  intro ps;induction ps with
  |nil=>intro ρ;exact⟨rfl,fun _ _=>rfl⟩
  |cons p ps ih=>
   intro ρ;obtain⟨e1,e2⟩:=ih (ρ.set p.1 (.dat p.2));refine⟨by rw[List.foldl_cons,e1,jvt],fun i hi=>?_⟩
   rw[jvc,ju8,not_or]at hi;rw[List.foldl_cons,e2 i hi.2,jvn (Ne.symm hi.1)]
 unfold putT at h;split at h
 ·cases h;refine⟨jvt ..,fun i hi=>?_⟩;rw[jvn];intro z;exact hi (by simp[z])
 ·split at h
  ·cases h;rename_i hl;obtain⟨e1,e2⟩:=fold (tgs.zip _) ρ;refine⟨e1,fun i hi=>e2 i ?_⟩;rw[List.map_fst_zip (Nat.le_of_eq hl)];exact hi
  ·cases h
 ·cases h
theorem jhv {nt:Nat}{caps:List Nat}{ρ:Rho}{i:Nat}(h:i < nt):(jd7 nt caps ρ)[i]?=some .no:=by
 unfold jd7;rw[jvm (by simpa using h),List.getElem?_replicate,if_pos h]
theorem jfF {nt:Nat}{caps:List Nat}{ρ:Rho}{k j:Nat}(h:caps[k]?=some j):(jd7 nt caps ρ)[nt + k]?=some (match ρ[j]? with | some s=>s | none=>.no):=by
 unfold jd7 jcn;rw[jvi (by simp),List.length_replicate,Nat.add_sub_cancel_left,jvb,h]
 rfl
theorem jdu {nt:Nat}{caps:List Nat}{ρ:Rho}:(jd7 nt caps ρ).length=nt + caps.length:=by unfold jd7 jcn;simp
theorem jkk {nt:Nat}{caps:List Nat}{σ:L2.St}{k j:Nat}(h:caps[k]?=some j):(jmv nt caps σ)[nt + k]?=some ((σ[j]?).getD none):=by
 unfold jmv;rw[jvi (by simp),List.length_replicate,Nat.add_sub_cancel_left,jvb,h]
 rfl
theorem jaZ:∀{caps:List Nat}{k:Nat}{inn ρ:Rho}{j:Nat},j ∉ caps->(jaN caps k inn ρ)[j]?=ρ[j]?
 |[],_,_,_,_,_=>rfl
 |i::r,k,inn,ρ,j,h=>by
  rw[ju8,not_or]at h;simp only[jaN];rw[jaZ h.2];split
  ·rw[jvn (Ne.symm h.1)]
  ·rfl
theorem jfG:∀{caps:List Nat}{k:Nat}{inn ρ:Rho},(jaN caps k inn ρ).length=ρ.length
 |[],_,_,_=>rfl
 |i::r,k,inn,ρ=>by
  simp only[jaN];rw[jfG];split
  ·rw[jvt]
  ·rfl
theorem jhw:∀{caps:List Nat}{k m:Nat}{inn ρ:Rho}{j:Nat}{s:Sl},caps.Nodup->caps[m]?=some j->j < ρ.length->inn[k + m]?=some s->(jaN caps k inn ρ)[j]?=some s
 |[],_,_,_,_,_,_,_,h,_,_=>by simp at h
 |i::r,k,0,inn,ρ,j,s,nd,h,hj,hs=>by
  have e:i=j:=by simpa using h
  subst e;simp only[jaN];rw[jaZ (List.nodup_cons.mp nd).1];rw[Nat.add_zero]at hs;rw[hs];simp only;rw[List.getElem?_set_self hj]
 |i::r,k,m + 1,inn,ρ,j,s,nd,h,hj,hs=>by
  simp only[jaN];refine jhw (m:=m) (List.nodup_cons.mp nd).2 (by simpa using h) ?_ (by rw[show k + 1 + m=k + (m + 1)by omega];exact hs)
  split
  ·rw[jvt];exact hj
  ·exact hj
section
variable {X:Cx}{scope:Scope}{N cn:List Str}{nt:Nat}{caps:List Nat}{pins:List (Addr×Obj)}{Z:Kn}{σ σ':L2.St}{ρ:Rho}{B:Bs}{F:Addr->Prop}{H:Hp}{s:Shared}{fp:List Addr}
theorem CompOk.capsNd (C:CompOk X scope N cn nt caps):caps.Nodup:=by
 refine List.pairwise_iff_getElem.mpr fun i j hi hj hij z=>?_;have h1:caps[i]?=some caps[i]:=ju5 hi;have h2:caps[j]?=some caps[i]:=by rw[z];exact ju5 hj
 have li:i < cn.length:=by rw[C.clen];exact hi
 have lj:j < cn.length:=by rw[C.clen];exact hj
 have c1:cn[i]?=some cn[i]:=ju5 (by rw[C.clen];exact hi)
 have c2:cn[j]?=some cn[j]:=ju5 (by rw[C.clen];exact hj)
 have e1:=(C.at_ i _ _ c1 h1).1;have e2:=(C.at_ j _ _ c2 h2).1;rw[e1]at e2;have e3:cn[i]=cn[j]:=Option.some.inj e2;obtain⟨tn,eN,hl⟩:=C.split;have f1:N[tn.length + i]?=some cn[i]:=by rw[eN,jvi (by omega),Nat.add_sub_cancel_left];exact c1
 have f2:N[tn.length + j]?=some cn[i]:=by rw[eN,jvi (by omega),Nat.add_sub_cancel_left,e3];exact c2
 have:=jdr C.nd f1 f2;omega
noncomputable def jdK (nt:Nat)(caps:List Nat)(B:Bs):Bs:=⟨B.hp,fun k=>if nt<=k then (caps[k - nt]?).bind B.lent else none⟩
theorem jca {i:Nat}{o:O}{f k:Bool}(h:(jd7 nt caps ρ)[i]?=some (.own o f k)):∃m j,i=nt + m/\caps[m]?=some j/\ρ[j]?=some (.own o f k):=by
 have hn:nt<=i:=by
  refine Nat.le_of_not_lt fun hlt=>?_;rw[jhv hlt]at h;cases h
 obtain⟨m,rfl⟩:∃m,i=nt + m:=⟨i - nt,by omega⟩
 cases e:caps[m]? with
 |none=>
  have:=(List.getElem?_eq_some_iff.mp h).1;rw[jdu]at this;have:=List.getElem?_eq_none_iff.mp e;omega
 |some j=>
  rw[jfF e]at h;refine⟨m,j,rfl,e,?_⟩;cases q:ρ[j]? with
  |none=>rw[q]at h;cases h
  |some t=>rw[q]at h;cases h;rfl
theorem jmy {i:Nat}{d:D}(h:(jd7 nt caps ρ)[i]?=some (.dat d)):∃m j,i=nt + m/\caps[m]?=some j/\ρ[j]?=some (.dat d):=by
 have hn:nt<=i:=by
  refine Nat.le_of_not_lt fun hlt=>?_;rw[jhv hlt]at h;cases h
 obtain⟨m,rfl⟩:∃m,i=nt + m:=⟨i - nt,by omega⟩
 cases e:caps[m]? with
 |none=>
  have:=(List.getElem?_eq_some_iff.mp h).1;rw[jdu]at this;have:=List.getElem?_eq_none_iff.mp e;omega
 |some j=>
  rw[jfF e]at h;refine⟨m,j,rfl,e,?_⟩;cases q:ρ[j]? with
  |none=>rw[q]at h;cases h
  |some t=>rw[q]at h;cases h;rfl
noncomputable def Agr (nt:Nat)(caps:List Nat)(σ σ':L2.St):Prop:=σ'.length=nt + caps.length/\∀m j,caps[m]?=some j->σ'[nt + m]?=some ((σ[j]?).getD none)
theorem Agr.at (a:Agr nt caps σ σ'){m j:Nat}{v:V}(h:caps[m]?=some j):σ'[nt + m]?=some (some v)↔σ[j]?=some (some v):=by
 rw[a.2 m j h];constructor
 ·intro z;cases q:σ[j]? with
  |none=>rw[q]at z;cases z
  |some o=>rw[q]at z;simp at z;rw[z]
 ·intro z;rw[z];rfl
theorem jkl (nd:caps.Nodup)(a:Agr nt caps σ σ')(r:SR Z B F H σ ρ):SR Z (jdK nt caps B) F H σ' (jd7 nt caps ρ):=by
 refine⟨r.dom,by rw[jdu,a.1],fun i d h=>?_,fun i o f k h=>?_,fun i j o o' f k f' k' l hij h1 h2 q1 q2=>?_,r.base⟩
 ·obtain⟨m,j,rfl,hc,e⟩:=jmy h;obtain⟨v,e1,e2⟩:=r.dat j d e;exact⟨v,(a.at hc).mpr e1,e2⟩
 ·obtain⟨m,j,rfl,hc,e⟩:=jca h;obtain⟨l,e1,e2,e3,e4,e5⟩:=r.own j o f k e;refine⟨l,(a.at hc).mpr e1,e2,e3,fun z=>?_,e5⟩;simp only[jdK,if_pos (Nat.le_add_right nt m),Nat.add_sub_cancel_left,hc,Option.bind_some];exact e4 z
 ·obtain⟨m1,j1,rfl,c1,e1⟩:=jca h1;obtain⟨m2,j2,rfl,c2,e2⟩:=jca h2;refine r.one j1 j2 o o' f k f' k' l (fun z=>hij ?_) e1 e2 ((a.at c1).mp q1) ((a.at c2).mp q2);subst z;have h1:=(List.getElem?_eq_some_iff.mp c1).1;have:=(List.getElem?_inj h1 nd).mp (c1.trans c2.symm);omega
theorem jgr (a:Agr nt caps σ σ'){b:Addr}(h:Mb σ' (jd7 nt caps ρ) b):Mb σ ρ b:=by
 obtain⟨i,o,f,h1,h2⟩:=h;obtain⟨m,j,rfl,hc,e⟩:=jca h1;exact⟨j,o,f,e,(a.at hc).mp h2⟩
theorem jkm (nd:caps.Nodup){σ4:L2.St}{inn:Rho}{F4:Addr->Prop}{H4:Hp}(a:Agr nt caps σ σ')(a4:Agr nt caps σ σ4)(r:SR Z B F H σ ρ)(hc:∀j∈caps,j < ρ.length)
  (r4:SR Z (jdK nt caps B) F4 H4 σ4 inn) (g:Go σ' (jd7 nt caps ρ) F H σ4 inn F4 H4):SR Z B F4 H4 σ (jaN caps nt inn ρ)/\Go σ ρ F H σ (jaN caps nt inn ρ) F4 H4:=by
 have r0:=jkl nd a r;have kp:=g.keep r0;have hlen:inn.length=nt + caps.length:=by rw[r4.len,a4.1]
 have inB:∀{m j:Nat},caps[m]?=some j->∃s,inn[nt + m]?=some s/\(jaN caps nt inn ρ)[j]?=some s:=fun {m j} h=>by
  have hm:=(List.getElem?_eq_some_iff.mp h).1;have e:inn[nt + m]?=some inn[nt + m]:=ju5 (by omega)
  exact⟨_,e,jhw nd h (hc j (jvh h)) e⟩
 have side:∀{j:Nat}{o:O}{f k:Bool}{l:Addr},j ∉ caps->ρ[j]?=some (.own o f k)->σ[j]?=some (some (.ref l))->¬Ow σ' (jd7 nt caps ρ) l:=fun {j o f k l} hj h1 h2 z=>by
  obtain⟨i,o',f',k',q1,q2⟩:=z;obtain⟨m,j',rfl,hc',e⟩:=jca q1;refine r.one j j' _ _ _ _ _ _ l (fun z=>hj (by rw[z];exact jvh hc')) h1 e h2 ((a.at hc').mp q2)
 have ow:∀(j:Nat) (o:O) (f k:Bool) (b:Addr),(jaN caps nt inn ρ)[j]?=some (.own o f k)->σ[j]?=some (some (.ref b))->(∃o0 k0,ρ[j]?=some (.own o0 f k0)/\σ[j]?=some (some (.ref b))/\(k0=true->k=true))\/H b=none:=fun j o f k b h1 h2=>by
  by_cases hj:j∈caps
  ·obtain⟨m,hm⟩:=List.mem_iff_getElem?.mp hj;obtain⟨sl,e1,e2⟩:=inB hm;rw[h1]at e2;cases e2;rcases g.ow _ o f k b e1 ((a4.at hm).mpr h2)with ⟨o0,k0,q1,q2,q3⟩ | z
   ·obtain⟨m',j',e,hc',q⟩:=jca q1;have:m'=m:=by omega
    subst this;rw[hm]at hc';cases hc';exact .inl ⟨o0,k0,q,h2,q3⟩
   ·exact .inr z
  ·rw[jaZ hj]at h1;exact Go.self h1 h2
 refine⟨⟨r4.dom,by rw[jfG];exact r.len,fun j d h=>?_,fun j o f k h=>?_,fun i j o o' f k f' k' l hij h1 h2 q1 q2=>?_,r4.base⟩,⟨fun b o h n=>g.stay b o h fun m=>n (jgr a m),g.sub,fun b h=>(g.new b h).imp id fun z=>z.imp id (jgr a),ow,g.there⟩⟩
 ·by_cases hj:j∈caps
  ·obtain⟨m,hm⟩:=List.mem_iff_getElem?.mp hj;obtain⟨sl,e1,e2⟩:=inB hm;rw[h]at e2;cases e2;obtain⟨v,q1,q2⟩:=r4.dat _ d e1;exact⟨v,(a4.at hm).mp q1,q2⟩
  ·rw[jaZ hj]at h;obtain⟨v,q1,q2⟩:=r.dat j d h;exact⟨v,q1,q2.mono kp⟩
 ·by_cases hj:j∈caps
  ·obtain⟨m,hm⟩:=List.mem_iff_getElem?.mp hj;obtain⟨sl,e1,e2⟩:=inB hm;rw[h]at e2;cases e2;obtain⟨l,q1,q2,q3,q4,q5⟩:=r4.own _ o f k e1;refine⟨l,(a4.at hm).mp q1,q2,q3,fun z=>?_,q5⟩;have:=q4 z;simpa only[jdK,if_pos (Nat.le_add_right nt m),Nat.add_sub_cancel_left,hm,Option.bind_some] using this
  ·rw[jaZ hj]at h;obtain⟨l,q1,q2,q3,q4⟩:=r.own j o f k h;obtain⟨u,hu⟩:=q3.some;obtain⟨s1,s2,s3⟩:=g.side hu q2 (side hj h q1);exact⟨l,q1,s2,q3.mono kp (s1.trans hu.symm),q4⟩
 ·by_cases hi:i∈caps
  ·obtain⟨m,hm⟩:=List.mem_iff_getElem?.mp hi;obtain⟨sl,e1,e2⟩:=inB hm;rw[h1]at e2;cases e2;by_cases hj:j∈caps
   ·obtain⟨m',hm'⟩:=List.mem_iff_getElem?.mp hj;obtain⟨sl',e1',e2'⟩:=inB hm';rw[h2]at e2';cases e2';refine r4.one (nt + m) (nt + m') _ _ _ _ _ _ l (fun z=>hij ?_) e1 e1' ((a4.at hm).mpr q1) ((a4.at hm').mpr q2);have:m=m':=by omega
    subst this;rw[hm]at hm';cases hm';rfl
   ·rw[jaZ hj]at h2;rcases ow i o f k l (by rw[<-h1]) q1 with ⟨o0,k0,z1,z2,_⟩ | z
    ·exact r.one i j _ _ _ _ _ _ l hij z1 h2 z2 q2
    ·obtain⟨l',w1,_,w3,_⟩:=r.own j _ _ _ h2;rw[q2]at w1;cases w1;obtain⟨u,hu⟩:=w3.some;rw[hu]at z;cases z
  ·rw[jaZ hi]at h1;by_cases hj:j∈caps
   ·rcases ow j o' f' k' l h2 q2 with ⟨o0,k0,z1,z2,_⟩ | z
    ·exact r.one i j _ _ _ _ _ _ l hij h1 z1 q1 z2
    ·obtain⟨l',w1,_,w3,_⟩:=r.own i _ _ _ h1;rw[q1]at w1;cases w1;obtain⟨u,hu⟩:=w3.some;rw[hu]at z;cases z
   ·rw[jaZ hj]at h2;exact r.one i j _ _ _ _ _ _ l hij h1 h2 q1 q2
theorem jkn {E:Value->Shared->Prop}(C:CompOk X scope N cn nt caps)(I:Inv X pins σ H s)(fo:∀b∈fp,FpOk X pins H b)(ft:∀b∈fp,b < s.heap.objs.size){pins':List (Addr×Obj)}{H':Hp}(hp:∀b∈fp,∀p∈pins',p.1≠b)(hn:∀b∈fp,H' b=none) :
  ∀b∈fp,FpOk (cxComp X N scope s H fp E) pins' H' b:=fun b hb=>by
 have ok:=jkj (E:=E) C I fo ft;exact⟨hn b hb,(fun e=>(ok.exf b hb).1 e),fun z=>ok.exfs b hb z,.inl hb,fun x c h=>(ok.exf b hb).2 x c h,fun p h=>hp b hb p (by simpa[cxComp] using h)⟩
end
end DJ
namespace DJ
open PySem PySem.Spec PyProof.Rows L2
noncomputable def jdL (tgs:List Nat)(one:Bool)(nt:Nat)(caps:List Nat)(fc:Option (Rho->R (Bool×Rho)))(fe:Rho->R (Vl×Rho))(x:D)(r:Rho):R (Option D×Rho):=
 (putT tgs one x (jd7 nt caps r)).bind fun r'=>match fc with
  |none=>(fe r').bind fun p=>(toD p.1 p.2).bind fun q=>.ok (some q.1,jaN caps nt q.2 r)
  |some g=>(g r').bind fun b=>if b.1 then (fe b.2).bind fun p=>(toD p.1 p.2).bind fun q=>.ok (some q.1,jaN caps nt q.2 r)else .ok (none,jaN caps nt b.2 r)
section
variable {X:Cx}{scope:Scope}{N cn:List Str}{nt:Nat}{caps:List Nat}{pins:List (Addr×Obj)}{Z:Kn}{σ:L2.St}{ρ:Rho}{B:Bs}{F:Addr->Prop}{H:Hp}{s:Shared}{fp:List Addr}
inductive CompI (X:Cx) (N:List Str) (scope:Scope) (fp:List Addr) (nt:Nat) (caps:List Nat) (σ:L2.St) (Z:Kn) (B:Bs) (ρ:Rho) (F:Addr->Prop) (H:Hp) (ls:List Addr) (tn:Nat->Heap->Prop) (f:D->Rho->R (Option D×Rho)) (xs:List D) (rs:R (List D×Rho)) (s3:Shared) (H3:Hp) (E:Value->Shared->Prop) (l:Addr) (k:Nat) (s':Shared):Prop
 |mk (i:Nat) (σ':L2.St) (F':Addr->Prop) (H':Hp) (ρ1:Rho) (yi:List D) (vs:List V):k=xs.length + 1 - i->i<=xs.length->Inv (cxComp X N scope s3 H3 fp E) [] σ' H' s'->Agr nt caps σ σ'->SR Z B F' H' σ ρ1 ->
    Go σ ρ F H σ ρ1 F' H'->GK F H ls F' H'->tn i s'.heap->(∀b∈fp,H' b=none)->((compGo f (xs.drop i) ρ1).bind fun q=>.ok (yi++q.1,q.2))=rs->¬F' l->¬Ow σ ρ1 l->H' l=some (.lst vs)->Reps Z F' H' yi vs->yi.length<=i->CompI X N scope fp nt caps σ Z B ρ F H ls tn f xs rs s3 H3 E l k s'
theorem jhx {elt tg iter:Expr}{ks:List Expr}{pos:Pos}{tgs:List Nat}{one:Bool}{fc:Option (Rho->R (Bool×Rho))}{fe:Rho->R (Vl×Rho)}{xs:List D}{rs:R (List D×Rho)}{ls:List Addr}{it:Addr}{tn:Nat->Heap->Prop}{RR:Value->Addr->Result->Shared->Prop}
  (hZ:X.K=Z.K) (hc:X.calm=true) (C:CompOk X scope N cn nt caps) (I:Inv X pins σ H s) (r:SR Z B F H σ ρ) (W:Wk X.prog X.w Z tg F H ls xs fp it tn) (hls:∀l∈ls,¬Mb σ ρ l) (st0:tn 0 s.heap) (fo:∀b∈fp,FpOk X pins H b)
  (hT:∀s' H' E,TgOk (cxComp X N scope s' H' fp E) tg tgs one) (hlow:∀i∈tgs,i < nt) (hcap:∀j∈caps,j < ρ.length)
  (hE:∀s' H' E B',PE (cxComp X N scope s' H' fp E) elt (tE Z (cxComp X N scope s' H' fp E) B' fe))
  (hK:(ks=[]/\fc=none)\/∃k g,ks=[k]/\fc=some g/\∀s' H' E B',PT (cxComp X N scope s' H' fp E) k (tT Z (cxComp X N scope s' H' fp E) B' g))
  (hY:compGo (jdL tgs one nt caps fc fe) xs ρ=rs) (hk:rs≠.stk)
  (hRR:∀(ys:List D) (ρE:Rho) (E:Value->Shared->Prop) (s3:Shared) (l:Addr) (σ':L2.St) (F':Addr->Prop) (H':Hp) (s':Shared) (vs:List V),rs=.ok (ys,ρE)->H l=none->Inv X pins σ (upd H l (.lst [])) s3->Inv (cxComp X N scope s3 (upd H l (.lst [])) fp E) [] σ' H' s'->Go σ ρ F H σ ρE F' H'->SR Z B F' H' σ ρE->¬F' l->¬Ow σ ρE l->H' l=some (.lst vs)->Reps Z F' H' ys vs ->
   RR (.ref l) s3.heap.objs.size (.ok .next) s')
  (hRX:∀(c:Nat) (E:Value->Shared->Prop) (s3:Shared) (l:Addr) (σ':L2.St) (H':Hp) (s':Shared) (pins':List (Addr×Obj)) (ea Cc:Addr),rs=.err c->H l=none->Inv X pins σ (upd H l (.lst [])) s3->Z.cl[c]?=some Cc->Inv (cxComp X N scope s3 (upd H l (.lst [])) fp E) pins' σ' H' s'->Stl σ ρ H H'->FlyC (cxComp X N scope s3 (upd H l (.lst [])) fp E) pins' ea (.ref Cc) H' s' ->
   notedBy (model X.prog X.w) X.A (cxComp X N scope s3 (upd H l (.lst [])) fp E).env (fun e s''=>RR (.ref l) s3.heap.objs.size (.error e) s'') (.ref ea) s') {E:Value->Shared->Prop} :
  wpAny (model X.prog X.w) X.A (newList []) (fun acc s₃=>wpAny (model X.prog X.w) X.A (newFunctionEnv scope X.env.globals (jiy X.env scope.names []) [] X.env.qual none .none (some X.env)) (fun cenv s₄=>
   codeAny (model X.prog X.w) X.A (.compStart (.ListComp elt [⟨tg,iter,ks,0⟩] scope pos) 0 (.ref it) acc { cenv with scope:=relabel scope X.env }) (RR acc cenv.locals) s₄) E s₃) E s:=by
 have nd:=C.capsNd;refine jvB ?_;have ft:∀b∈fp,b < s.heap.objs.size:=fun b hb=>by
  obtain⟨o,e,_⟩:=W.obj _ _ st0 b hb;exact jvG e
 have hl:H s.heap.objs.size=none:=I.hok.fresh (jvK _);have I3:Inv X pins σ (upd H s.heap.objs.size (.lst [])) { s with heap:=s.heap.push { cls:=.type "list",dict:=none,data:=.seq ([]:List Value).toArray } }:=
  I.laid (t':=s.toks) (fun b u e=>jvF _ e) (jvK _) ⟨Nat.zero_le _,[],0,.nil,jvH _ rfl⟩
 have ex3:Ext F H F (upd H s.heap.objs.size (.lst [])):=Ext.newO r.dom hl;have r3:SR Z B F (upd H s.heap.objs.size (.lst [])) σ ρ:=r.ext ex3;have fo3:∀b∈fp,FpOk X pins (upd H s.heap.objs.size (.lst [])) b:=fun b hb=>⟨by rw[jaf (jvM (ft b hb))];exact(fo b hb).1,(fo b hb).2⟩
 have st3:tn 0 (s.heap.push { cls:=.type "list",dict:=none,data:=.seq ([]:List Value).toArray }):=W.keep _ _ _ st0 fun b hb o e=>jvF _ e;have nFl:¬F s.heap.objs.size:=fun z=>by
  obtain⟨o,e⟩:=r.dom _ z;rw[hl]at e;cases e
 have nOl:¬Ow σ ρ s.heap.objs.size:=fun z=>by
  obtain⟨o,e⟩:=r.there z;rw[hl]at e;cases e
 have ft3:∀b∈fp,b < (s.heap.push { cls:=.type "list",dict:=none,data:=.seq ([]:List Value).toArray }).objs.size:=fun b hb=>by
  rw[Heap.size_push];exact Nat.lt_succ_of_lt (ft b hb)
 revert I3 r3 ex3 fo3 st3 ft3
 generalize hs3:({ s with heap:=s.heap.push { cls:=.type "list",dict:=none,data:=.seq ([]:List Value).toArray } }:Shared)=s3
 have e3:s3.heap=s.heap.push { cls:=.type "list",dict:=none,data:=.seq ([]:List Value).toArray }:=by rw[<-hs3]
 rw[<-e3];generalize hl0:s.heap.objs.size=l at hl nFl nOl;generalize hH3:upd H l (.lst [])=H3;intro I3 ex3 r3 fo3 st3 ft3;have hl3:H3 l=some (.lst []):=by rw[<-hH3];exact jan
 refine jiz ?_;have hsb₁:∀b o,(s3.heap.push { cls:=.type "dict",data:=.dict #[] }).get? b=some o->(pushCells (s3.heap.push { cls:=.type "dict",data:=.dict #[] }) scope.names).get? b=some o:=pushCells_keeps _ _;have hcl:∀x c,(cellsFrom (s3.heap.objs.size + 1) scope.names (jiy X.env scope.names [])).lookup x=some c->∃v,(pushCells (s3.heap.push { cls:=.type "dict",data:=.dict #[] }) scope.names).IsCell c v:=by
  have:=jgq scope.names (s3.heap.push { cls:=.type "dict",data:=.dict #[] }) (jiy X.env scope.names []) fun x c e=>by
   obtain⟨v,z⟩:=I3.cell x c (jbI _ _ (C.cells I3) (fun _ _ z=>by simp at z) _ _ e)
   exact⟨v,z.keeps fun b o e=>jvF _ e⟩
  rwa [Heap.size_push]at this
 have hns₁:(pushCells (s3.heap.push { cls:=.type "dict",data:=.dict #[] }) scope.names).Ns s3.heap.objs.size fun _=>none:=Heap.Ns.keeps ⟨_,_,_,jvH _ rfl,rfl,(fun e he=>by simp at he),fun _=>rfl⟩ hsb₁
 revert hsb₁ hcl hns₁
 generalize hh1:pushCells (s3.heap.push { cls:=.type "dict",data:=.dict #[] }) scope.names=h₁;intro hsb₁ hcl hns₁;have kp:∀b o,s3.heap.get? b=some o->h₁.get? b=some o:=fun b o e=>hsb₁ b o (jvF _ e);let EE:Value->Shared->Prop:=notedBy (model X.prog X.w) X.A (cxComp X N scope s3 H3 fp (fun _ _=>False)).env (fun e s''=>RR (.ref l) s3.heap.objs.size (.error e) s'');have IY:=jmw (fp:=fp) (E:=EE) C I3 fo3 ft3 (tk:=s3.toks) hns₁ kp hcl;have aY:Agr nt caps σ (jmv nt caps σ):=⟨by unfold jmv;simp,fun m j h=>jkk h⟩
 have hrl:ρ.length=σ.length:=r.len;have loop:∀s₄:Shared,s₄={ s3 with heap:=h₁,toks:=s3.toks } ->
   codeAny (model X.prog X.w) X.A (.compLoop (.ListComp elt [⟨tg,iter,ks,0⟩] scope pos) 0 (.ref it) (.ref l) (cxComp X N scope s3 H3 fp EE).env) (RR (.ref l) s3.heap.objs.size) s₄:=by
  rintro s₄ rfl;let P:=CompI X N scope fp nt caps σ Z B ρ F H ls tn (jdL tgs one nt caps fc fe) xs rs s3 H3 EE l;refine jfE P ?_ (xs.length + 1)
   ⟨0,_,F,H3,ρ,[],[],rfl,Nat.zero_le _,IY,aY,r3,ex3.go,GK.refl.ext r.dom W.lst ex3,W.keep _ _ _ st3 (fun b _ o e=>kp b o e),fun b hb=>(fo3 b hb).1,(by rw[List.drop_zero,hY];cases rs with | ok q=>rfl | err c=>rfl | stk=>rfl),nFl,nOl,hl3,.nil,jvK _⟩
  rintro k s' ⟨i,σ',F',H',ρ1,yi,vs,rfl,hi,I',a',r',g',gk',st',fr',hZ',nF',nO',hl',rep',hyi⟩;have fo':=jkn (E:=EE) C I3 fo3 ft3 (pins':=[]) (H':=H') (fun b _ p h=>by simp at h) fr'
  by_cases hlt:i < xs.length
  ·have hx:xs[i]?=some xs[i]:=ju5 hlt;let jdB (p:Option D×Rho):R (List D×Rho):=(compGo (jdL tgs one nt caps fc fe) (xs.drop (i + 1)) p.2).bind fun q=>.ok (yi++(match p.1 with | some d=>d::q.1 | none=>q.1),q.2)
   have hZ2:(jdL tgs one nt caps fc fe xs[i] ρ1).bind jdB=rs:=by
    rw[<-hZ',List.drop_eq_getElem_cons hlt];simp only[compGo,R.bind_assoc,R.bind_ok',jdB] <;> rfl
   clear hZ';unfold jdL at hZ2;cases hp:putT tgs one xs[i] (jd7 nt caps ρ1)with
   |err c=>exact absurd hp jeJ
   |stk=>rw[hp]at hZ2;exact absurd hZ2.symm hk
   |ok ρ2=>
   rw[hp,R.bind_ok']at hZ2;have r0:=jkl nd a' r';refine jvE (W.take (cxComp X N scope s3 H3 fp EE) rfl rfl hZ hc C.nd tgs one (hT s3 H3 EE) i [] s' σ' _ ρ2 _ F' H' _ I' r0 gk' fo' st' hx hp) (fun q s1 hzz=>?_) fun _ _ z=>z;obtain⟨u,hq,h1⟩:=hzz;subst hq;refine jvE h1 (fun _ s2 h2=>jvE h2 (fun _ s4 hzz=>?_) fun _ _ z=>z) fun _ _ z=>z;obtain⟨σ4,F4,H4,I4,r4,g4,gk4,st4,fr4,ag4⟩:=hzz;have foY:∀b∈fp,FpOk (cxComp X N scope s3 H3 fp EE) [] H4 b:=jkn C I3 fo3 ft3 (pins':=[]) (H':=H4) (fun b _ p h=>by simp at h) fr4
   have I4p:=I4.pinned foY (W.obj _ _ st4);obtain⟨pl,pg⟩:=jmx hp;have a4:Agr nt caps σ σ4:=by
    refine⟨?_,fun m j h=>?_⟩
    ·rw[<-r4.len,pl,jdu]
    ·rw[ag4 (nt + m) fun z=>absurd (hlow _ z) (by omega)];exact a'.2 m j h
   have hc1:∀j∈caps,j < ρ1.length:=fun j hj=>by rw[r'.len,<-hrl];exact hcap j hj
   have hls1:∀l∈ls,¬Mb σ ρ1 l:=fun l hl z=>by
    rcases g'.mb z with z | z
    ·exact hls l hl z
    ·obtain⟨o,e⟩:=W.lst l hl;rw[e]at z;cases z
   have back:∀{inn:Rho}{F5:Addr->Prop}{H5:Hp},SR Z (jdK nt caps B) F5 H5 σ4 inn->Go σ4 ρ2 F4 H4 σ4 inn F5 H5->SR Z B F5 H5 σ (jaN caps nt inn ρ1)/\Go σ ρ1 F' H' σ (jaN caps nt inn ρ1) F5 H5:=fun {inn F5 H5} r5 g5=>jkm nd a' a4 r' hc1 r5 (g4.trans g5);have pinK:∀{s5:Shared}{H5:Hp},Inv (cxComp X N scope s3 H3 fp EE) ([]++jcj fp s4.heap) σ4 H5 s5->tn (i + 1) s5.heap/\∀b∈fp,H5 b=none:=fun {s5 H5} I5=>by
    refine⟨W.keep _ _ _ st4 fun b hb o e=>(I5.pin (b,o) (jvg _ (jvg _ (jbx hb e)))).1,fun b hb=>?_⟩;obtain⟨ob,e,_⟩:=W.obj _ _ st4 b hb;exact(I5.pin (b,ob) (jvg _ (jvg _ (jbx hb e)))).2.1
   have exc:∀{c:Nat}{ρ5:Rho}{F5:Addr->Prop}{H5:Hp},rs=.err c->Go σ4 ρ2 F4 H4 σ4 ρ5 F5 H5->XW Z (cxComp X N scope s3 H3 fp EE) σ4 ρ5 H5 c:=fun {c ρ5 F5 H5} e g5 pins' H6 s6 ea Cc hC I6 stl fly=>by
    have st2:Stl σ' (jd7 nt caps ρ1) H' H6:=Stl.go g4 (Stl.go g5 stl);have st1:Stl σ ρ1 H' H6:=⟨fun b o e n=>st2.stay b o e fun m=>n (jgr a' m),st2.there⟩;subst hH3;exact hRX c EE s3 l σ4 H6 s6 pins' ea Cc e hl I3 hC I6 (Stl.go g' st1) fly
   have skip:∀(s5:Shared) (inn:Rho) (F5:Addr->Prop) (H5:Hp),Inv (cxComp X N scope s3 H3 fp EE) ([]++jcj fp s4.heap) σ4 H5 s5->SR Z (jdK nt caps B) F5 H5 σ4 inn->Go σ4 ρ2 F4 H4 σ4 inn F5 H5->jdB (none,jaN caps nt inn ρ1)=rs->∃m,m < xs.length + 1 - i/\P m s5:=by
    intro s5 inn F5 H5 I5 r5 g5 eo;obtain⟨rB,gB⟩:=back r5 g5;obtain⟨st5,fr5⟩:=pinK I5;obtain⟨l1,l2,l3⟩:=gB.side hl' nF' nO';exact⟨xs.length + 1 - (i + 1),Nat.sub_lt_sub_left (Nat.lt_succ_of_lt hlt) (Nat.lt_succ_self i),i + 1,σ4,F5,H5,_,yi,vs,rfl,hlt,I5.unpinned,a4,rB,g'.trans gB,gk'.go W.lst r' gB hls1,st5,fr5,eo,l2,l3,l1,rep'.mono (gB.keep r'),by omega⟩
   have elt_:∀(s5:Shared) (ρ5:Rho) (F5:Addr->Prop) (H5:Hp),Inv (cxComp X N scope s3 H3 fp EE) ([]++jcj fp s4.heap) σ4 H5 s5->SR Z (jdK nt caps B) F5 H5 σ4 ρ5->Go σ4 ρ2 F4 H4 σ4 ρ5 F5 H5 ->
     ((fe ρ5).bind fun p=>(toD p.1 p.2).bind fun q=>(.ok (some q.1,jaN caps nt q.2 ρ1):R (Option D×Rho))).bind jdB=rs ->
     wpAny (model X.prog X.w) X.A (eval elt (cxComp X N scope s3 H3 fp EE).env) (fun x s₄=>wpAny (model X.prog X.w) X.A (call (.builtin "list.append") [.ref l,x]) (fun _ s₅=>∃m,m < xs.length + 1 - i/\P m s₅) EE s₄) EE s5:=by
    intro s5 ρ5 F5 H5 I5 r5 g5 ho;refine jvE (hE s3 H3 EE (jdK nt caps B) ([]++jcj fp s4.heap) s5 σ4 H5 (fun v H6=>∃(q:D×Rho) (F6:Addr->Prop),jdB (some q.1,jaN caps nt q.2 ρ1)=rs/\Go σ4 ρ2 F4 H4 σ4 q.2 F6 H6/\SR Z (jdK nt caps B) F6 H6 σ4 q.2/\Rep Z F6 H6 q.1 v) I5 ⟨F5,ρ5,r5,?_⟩) (fun u s6 hzz=>?_) fun _ _ z=>z
    ·cases hd:fe ρ5 with
     |stk=>rw[hd]at ho;exact absurd ho.symm hk
     |err c=>rw[hd]at ho;exact exc ho.symm g5
     |ok p=>
      rw[hd,R.bind_ok']at ho;intro v F6 H6 g6 r6 rv6;cases hq:toD p.1 p.2 with
      |stk=>rw[hq]at ho;exact absurd ho.symm hk
      |err c=>exact absurd hq jc2
      |ok q=>
       rw[hq,R.bind_ok',R.bind_ok']at ho;obtain⟨F7,g7,r7,rp,_⟩:=jfD (rv6.base fun l z=>g5.free z) r6 (g5.trans g6) hq;exact⟨q,F7,ho,g7,r7,rp⟩
    ·obtain⟨v,H6,I6,rv,q,F6,ho,g6,r6,rp6⟩:=hzz;obtain⟨rB,gB⟩:=back r6 g6;obtain⟨l1,l2,l3⟩:=gB.side hl' nF' nO';have hvl:vs.length < sizeLine:=by
      have:=rep'.length;have:=W.len;omega
     refine jvE (jfr (X:=cxComp X N scope s3 H3 fp EE) ([]++jcj fp s4.heap) s6 σ4 H6 (.ref l) [v] (.ref l) [u] (fun _ H7=>H7=upd H6 l (.lst (vs++[v]))) I6 rfl (.cons rv .nil) ⟨l,vs,v,rfl,rfl,l1,hvl,rfl⟩) (fun _ s7 hzz=>?_) fun _ _ z=>z;obtain⟨_,H7,I7,_,e7⟩:=hzz;subst e7;obtain⟨kp7,r7⟩:=rB.oth (u:=.lst (vs++[v])) l2 l3;obtain⟨st7,fr7⟩:=pinK I7;have gA:Go σ ρ F H σ (jaN caps nt q.2 ρ1) F6 (upd H6 l (.lst (vs++[v]))):=by
      have g0:=g'.trans gB;refine⟨fun b ob e n=>?_,g0.sub,g0.new,g0.ow,fun b ob e=>?_⟩
      ·rw[jaf (jac e hl)];exact g0.stay b ob e n
      ·rw[jaf (jac e hl)];exact g0.there b ob e
     have gkA:GK F H ls F6 (upd H6 l (.lst (vs++[v]))):=by
      have gk0:=gk'.go W.lst r' gB hls1;refine⟨gk0.keep.trans kp7,fun b hb=>?_⟩;obtain⟨ob,e⟩:=W.lst b hb;rw[jaf (jac e hl)];exact gk0.ls b hb
     refine⟨xs.length + 1 - (i + 1),Nat.sub_lt_sub_left (Nat.lt_succ_of_lt hlt) (Nat.lt_succ_self i),i + 1,σ4,F6,_,_,yi++[q.1],vs++[v],rfl,hlt,I7.unpinned,a4,r7,gA,gkA,st7,fr7,?_,l2,l3,jan,((rep'.mono (gB.keep r')).mono kp7).append (.one (rp6.mono kp7)),by rw[jvj,List.length_singleton];omega⟩
     rw[<-ho];simp only[jdB,jvv,List.cons_append,List.nil_append]
   rcases hK with ⟨rfl,rfl⟩ | ⟨k,g,rfl,rfl,hkc⟩
   ·refine wpAny_tests_nil ?_;rw[if_pos rfl];exact elt_ s4 ρ2 F4 H4 I4p r4 Go.refl hZ2
   ·refine wpAny_tests_one ?_;refine jvE (hkc s3 H3 EE (jdK nt caps B) ([]++jcj fp s4.heap) s4 σ4 H4 (fun b' H5=>∃(b:Bool×Rho) (F5:Addr->Prop),b'=b.1/\((if b.1 then (fe b.2).bind fun p=>(toD p.1 p.2).bind fun q=>.ok (some q.1,jaN caps nt q.2 ρ1)else .ok (none,jaN caps nt b.2 ρ1):R (Option D×Rho))).bind jdB=rs/\Go σ4 ρ2 F4 H4 σ4 b.2 F5 H5/\SR Z (jdK nt caps B) F5 H5 σ4 b.2) I4p ⟨F4,ρ2,r4,?_⟩) (fun b' s5 hzz=>?_) fun _ _ z=>z
    ·dsimp only at hZ2;cases hb:g ρ2 with
     |stk=>rw[hb]at hZ2;exact absurd hZ2.symm hk
     |err c=>rw[hb]at hZ2;exact exc hZ2.symm Go.refl
     |ok b=>
      rw[hb,R.bind_ok']at hZ2;exact fun F5 H5 g5 r5=>⟨b,F5,rfl,hZ2,g5,r5⟩
    ·obtain⟨H5,I5,b,F5,eb,ho,g5,r5⟩:=hzz;subst eb;cases hb1:b.1 with
     |true=>
      rw[if_pos rfl];rw[hb1,if_pos rfl]at ho;exact elt_ s5 b.2 F5 H5 I5 r5 g5 ho
     |false=>
      rw[if_neg (by decide)]
      rw[hb1,if_neg (by decide),R.bind_ok']at ho
      exact skip s5 b.2 F5 H5 I5 r5 g5 ho
  ·have hie:i=xs.length:=by omega
   subst hie;rw[List.drop_eq_nil_of_le (jvK _)]at hZ';have hZ':(.ok (yi++[],ρ1):R (List D×Rho))=rs:=hZ';rw[jvu]at hZ';refine jvE (W.done (cxComp X N scope s3 H3 fp EE) rfl rfl hZ hc [] s' σ' F' H' I' r'.dom gk' fo' st') (fun q s1 hzz=>?_) fun _ _ z=>z;obtain⟨hq,I1⟩:=hzz;subst hq;subst hH3;exact hRR yi ρ1 EE s3 l σ' F' H' s1 vs hZ'.symm hl I3 I1 g' r' nF' nO' hl' rep'
 exact codeAny_compStart_list (loop _ rfl) (W.self _ 0 _ _ _ (W.keep _ _ _ st3 fun b _ o e=>kp b o e) (loop _ rfl))
end
end DJ
namespace DJ
open PySem PySem.Spec PyProof.Rows L2
theorem jaQ {n:Nat}(h:ja6 n=true):n<=sizeLine:=by
 unfold ja6 at h;rw[sizeLine_eq];simpa using h
noncomputable def Op.py:Op->Operator
 |.add=>.Add | .sub=>.Sub | .mul=>.Mult | .fdiv=>.FloorDiv | .mod=>.Mod | .pow=>.Pow
noncomputable def jn3:R Vl->Prop
 |.ok (.slot _)=>False
 |.err _=>False
 |_=>True
theorem jbJ {c:Prop}[Decidable c]{r:R Vl}(h:jn3 r):jn3 (if c then r else .stk):=by
 split
 ·exact h
 ·trivial
theorem jmz {a b:Int}{o:Op}:jn3 (opZ a b o):=by
 cases o <;> first | trivial | exact jbJ trivial
theorem jeK {v:R Vl}{o:Op}(h:jn3 v):jn3 (opC v o):=by
 cases o <;> first | exact h | trivial
theorem jeL {v:R Vl}{o:Op}(h:jn3 v):jn3 (opM v o):=by
 cases o <;> first | exact h | trivial
theorem jhy {o:Op}{x y:D}:jn3 (opD o x y):=by
 cases x with
 |int a=>cases y with
  |int b=>exact jmz
  |_=>trivial
 |tup a=>cases y with
  |tup b=>exact jeK (jbJ trivial)
  |int b=>exact jeL (jbJ trivial)
  |_=>trivial
 |lst a=>cases y with
  |lst b=>exact jeK (jbJ trivial)
  |bl b=>exact jeL (jbJ trivial)
  |_=>trivial
 |str a=>cases y with
  |int b=>exact jeL (jbJ trivial)
  |str b=>exact jeK (jbJ trivial)
  |_=>trivial
 |_=>trivial
theorem jpn {o:Op}{x y:D}{c:Nat}:opD o x y≠.err c:=fun h=>by
 have:=jhy (o:=o) (x:=x) (y:=y);rw[h]at this;exact this
theorem jmA {o:Op}{x y:D}{i:Nat}:opD o x y≠.ok (.slot i):=fun h=>by
 have:=jhy (o:=o) (x:=x) (y:=y);rw[h]at this;exact this
theorem jdi {w:Vl}{p:Prop}(h:(.stk:R Vl)=.ok w):p:=nomatch h
theorem jbj {c:Prop}[Decidable c]{v w:Vl}(h:(if c then .ok v else .stk:R Vl)=.ok w):c/\v=w:=by
 split at h
 ·cases h;exact⟨‹_›,rfl⟩
 ·exact jdi h
theorem jko {v:R Vl}{w:Vl}{o:Op}(h:opC v o=.ok w):o=.add/\v=.ok w:=by
 cases o with
 |add=>exact⟨rfl,h⟩
 |_=>exact jdi h
theorem jkp {v:R Vl}{w:Vl}{o:Op}(h:opM v o=.ok w):o=.mul/\v=.ok w:=by
 cases o with
 |mul=>exact⟨rfl,h⟩
 |_=>exact jdi h
section
variable {Z:Kn}{X:Cx}
noncomputable def jtn (i j:Int):Prop:=0 < j/\j < 2 ^ 64
theorem jmB:OpR X (binaryOp .FloorDiv) (rI jtn fun i j=>.int (i / j)):=opI fun i j _ _ _ _ _ hc q=>by
 have h1:(0:Int) < j:=hc.1;have h2:j < 2 ^ 64:=hc.2;refine floordiv_int (by omega) (by rw[Int.fdiv_eq_ediv_of_nonneg i (by omega)];exact q) (.inl (PyProof.noPylong_of_log2 ?_))
 have h3:j.natAbs < 2 ^ 64:=by omega
 have h4:j.natAbs.log2 < 64:=(Nat.log2_lt (by omega)).mpr h3
 omega
theorem jto (hZ:X.K=Z.K)(o:Op):OpR X (binaryOp o.py) (rD2 Z (opD o)):=by
 intro pins s σ H x y v u Q I rx ry h;obtain⟨F,dx,dy,w,dm,bx,by_,hw,h⟩:=h;have sqT:∀{a:Addr}{vs:List V},FT Z.K F H a vs->SqT X.K H a vs:=fun q=>by rw[hZ];exact q.sq
 cases dx with
 |int i=>
  cases dy with
  |int j=>
   cases bx.int;cases by_.int;cases o with
   |add=>cases hw;exact jrb pins s σ H _ _ v u Q I rx ry ⟨_,_,rfl,rfl,h.int dm⟩
   |sub=>cases hw;exact jrc pins s σ H _ _ v u Q I rx ry ⟨_,_,rfl,rfl,h.int dm⟩
   |mul=>obtain⟨hf,rfl⟩:=jbj hw;exact jrd pins s σ H _ _ v u Q I rx ry ⟨_,_,rfl,rfl,hf,h.int dm⟩
   |fdiv=>obtain⟨hf,rfl⟩:=jbj hw;exact jmB pins s σ H _ _ v u Q I rx ry ⟨_,_,rfl,rfl,hf,h.int dm⟩
   |mod=>obtain⟨hf,rfl⟩:=jbj hw;exact jre pins s σ H _ _ v u Q I rx ry ⟨_,_,rfl,rfl,hf,h.int dm⟩
   |pow=>obtain⟨hf,rfl⟩:=jbj hw;exact jrf pins s σ H _ _ v u Q I rx ry ⟨_,_,rfl,rfl,hf,h.int dm⟩
  |_=>exact jdi hw
 |tup as=>
  cases dy with
  |tup bs=>
   obtain⟨rfl,hw⟩:=jko hw;obtain⟨hf,rfl⟩:=jbj hw;obtain⟨a,vs,rfl,ft,ra⟩:=bx.tup;obtain⟨b,us,rfl,fu,rb⟩:=by_.tup;have hl:vs.length + us.length<=sizeLine:=by rw[<-ra.length,<-rb.length];exact jaQ hf
   by_cases hv:vs=[]
   ·subst hv;have ea:as=[]:=List.eq_nil_of_length_eq_zero (by rw[ra.length];rfl)
    subst ea;exact jl8 pins s σ H _ _ v u Q I rx ry ⟨a,b,us,rfl,rfl,sqT ft,sqT fu,h.tupOld dm fu rb⟩
   ·refine joV pins s σ H _ _ v u Q I rx ry ⟨a,b,vs,us,rfl,rfl,sqT ft,sqT fu,hv,hl,fun e=>?_,fun _=>h.tup dm (ra.append rb)⟩;subst e;have eb:bs=[]:=List.eq_nil_of_length_eq_zero (by rw[rb.length];rfl)
    subst eb;rw[jvu]at h;exact h.tupOld dm ft ra
  |int k=>
   obtain⟨rfl,hw⟩:=jkp hw;obtain⟨hf,rfl⟩:=jbj hw;obtain⟨h0,h1,h2⟩:=hf;obtain⟨a,vs,rfl,ft,ra⟩:=bx.tup;cases by_.int;have hem:vs.isEmpty=as.isEmpty:=by
    have:=ra.length;cases vs <;> cases as <;> simp_all
   refine jo0 pins s σ H _ _ v u Q I rx ry ⟨a,k,vs,rfl,rfl,sqT ft,h0,h1,by rw[<-ra.length];exact jaQ h2,fun e=>?_,fun e=>h.tup dm (ra.rep k.toNat)⟩
   rw[hem]at e;have hsame:(List.replicate k.toNat as).flatten=as:=by
    rcases Bool.or_eq_true_iff.mp e with e | e
    ·have:as=[]:=by simpa using e
     subst this;simp
    ·have:k=1:=by simpa using e
     subst this;simp
   rw[hsame]at h;exact h.tupOld dm ft ra
  |_=>exact jdi hw
 |lst as=>
  cases dy with
  |lst bs=>
   obtain⟨rfl,hw⟩:=jko hw;obtain⟨hf,rfl⟩:=jbj hw;obtain⟨a,vs,rfl,ft,ra⟩:=bx.lst;obtain⟨b,us,rfl,fu,rb⟩:=by_.lst;have hl:vs.length + us.length<=sizeLine:=by rw[<-ra.length,<-rb.length];exact jaQ hf
   exact joZ pins s σ H _ _ v u Q I rx ry ⟨a,b,vs,us,rfl,rfl,(by rw[hZ];exact ft),(by rw[hZ];exact fu),hl,h.lst dm (ra.append rb)⟩
  |bl k=>
   obtain⟨rfl,hw⟩:=jkp hw;obtain⟨hf,rfl⟩:=jbj hw;obtain⟨a,vs,rfl,ft,ra⟩:=bx.lst;cases by_.bl;refine jo4 pins s σ H _ _ v u Q I rx ry ⟨a,k,vs,rfl,rfl,(by rw[hZ];exact ft),by rw[<-ra.length];exact jaQ hf,h.lst dm ?_⟩
   cases k with
   |true=>exact ra
   |false=>simp only[Reps,jvQ,if_false]
  |_=>exact jdi hw
 |str x=>
  cases dy with
  |int k=>
   obtain⟨rfl,hw⟩:=jkp hw;obtain⟨hf,rfl⟩:=jbj hw;obtain⟨h0,h1,h2⟩:=hf;cases bx.str;cases by_.int;obtain⟨t,rfl⟩:=rx;obtain⟨t',rfl⟩:=ry;refine SB.mul ⟨?_,fun hn _=>?_,fun hn _=>?_⟩ fun t' k'=>⟨.str _,H,I.tok k',⟨t',rfl⟩,h.sc dm (by simp only[Rep])⟩
   ·rw[decide_eq_false (by omega),decide_eq_false (by omega)];rfl
   ·have h3:(x.length:Int) * k<=1000 * 1000:=Int.mul_le_mul (by omega) h1 h0 (by omega)
    have h4:(x.length:Int)<=(2 ^ 63 - 1) / k:=Int.le_ediv_of_mul_le (by omega) (by omega)
    omega
   ·have h3:x.length * k.toNat<=1000 * 1000:=Nat.mul_le_mul h2 (by omega)
    exact decide_eq_false (by rw[sizeLine_eq];omega)
  |str y=>
   obtain⟨rfl,hw⟩:=jko hw;obtain⟨hf,rfl⟩:=jbj hw;cases bx.str;cases by_.str;exact jig pins s σ H _ _ v u Q I rx ry ⟨_,_,rfl,rfl,jaQ hf,h.sc dm (by simp only[Rep])⟩
  |_=>exact jdi hw
 |_=>exact jdi hw
end
section
variable {Z:Kn}{X:Cx}{pins:List (Addr×Obj)}{s:Shared}{σ:L2.St}{H:Hp}{F:Addr->Prop}
theorem RepB.isTup (hZ:X.K=Z.K)(I:Inv X pins σ H s){ds:List D}{v:V}{u:Value}(h:RepB Z F H (.tup ds) v)(r:RelV v u):∃a vs its,u=.ref a/\Reps Z F H ds vs/\Vals vs its/\s.heap.IsTuple a its.toArray:=by
 obtain⟨a,vs,rfl,ft,rr⟩:=h.tup;cases r;obtain⟨its,rv,p,_⟩:=I.tuple (show SqT X.K H a vs by rw[hZ];exact ft.sq)
 exact⟨a,vs,its,rfl,rr,rv,p⟩
theorem RepB.isLst (hZ:X.K=Z.K)(I:Inv X pins σ H s){ds:List D}{v:V}{u:Value}(h:RepB Z F H (.lst ds) v)(r:RelV v u):∃a vs its,u=.ref a/\Reps Z F H ds vs/\Vals vs its/\s.heap.IsList a its.toArray:=by
 obtain⟨a,vs,rfl,ft,rr⟩:=h.lst;cases r;obtain⟨its,rv,p,_⟩:=I.list (show SqL X.K H a vs by rw[hZ];exact ft)
 exact⟨a,vs,its,rfl,rr,rv,p.isList⟩
theorem jkq {h:Heap}{a:Addr}{x y:Array Value}(p:h.IsTuple a x)(q:h.IsTuple a y):x=y:=by
 obtain⟨o,e,_,n,d⟩:=p;obtain⟨o',e',_,n',d'⟩:=q;rw[e]at e';cases e';rw[d]at d';cases d';rfl
theorem jkr {h:Heap}{a:Addr}{x y:Array Value}(p:h.IsList a x)(q:h.IsList a y):x=y:=by
 obtain⟨o,e,_,n,d⟩:=p;obtain⟨o',e',_,n',d'⟩:=q;rw[e]at e';cases e';rw[d]at d';cases d';rfl
mutual
theorem jdv (hZ:X.K=Z.K)(I:Inv X pins σ H s):∀{d e:D}{v w:V}{u:Value},RepB Z F H d v->RepB Z F H e w->RelV v u->RelV w u->jbw d=true->jbw e=true->d=e
 |.non,e,v,w,u,hd,he,rv,rw',cd,ce=>by
  cases hd.non;cases rv;cases e with
  |non=>rfl
  |bl b=>cases he.bl;cases rw'
  |int i=>cases he.int;obtain⟨t,z⟩:=rw';cases z
  |str x=>cases he.str;obtain⟨t,z⟩:=rw';cases z
  |tup xs=>obtain⟨a,vs,its,z,_⟩:=he.isTup hZ I rw';cases z
  |lst xs=>obtain⟨a,vs,its,z,_⟩:=he.isLst hZ I rw';cases z
  |dct _ _=>cases ce
  |exc _=>cases ce
 |.bl b,e,v,w,u,hd,he,rv,rw',cd,ce=>by
  cases hd.bl;cases rv;cases e with
  |non=>cases he.non;cases rw'
  |bl b'=>cases he.bl;cases rw';rfl
  |int i=>cases he.int;obtain⟨t,z⟩:=rw';cases z
  |str x=>cases he.str;obtain⟨t,z⟩:=rw';cases z
  |tup xs=>obtain⟨a,vs,its,z,_⟩:=he.isTup hZ I rw';cases z
  |lst xs=>obtain⟨a,vs,its,z,_⟩:=he.isLst hZ I rw';cases z
  |dct _ _=>cases ce
  |exc _=>cases ce
 |.int i,e,v,w,u,hd,he,rv,rw',cd,ce=>by
  cases hd.int;obtain⟨t,rfl⟩:=rv;cases e with
  |non=>cases he.non;cases rw'
  |bl b'=>cases he.bl;cases rw'
  |int i=>cases he.int;obtain⟨t,z⟩:=rw';cases z;rfl
  |str x=>cases he.str;obtain⟨t,z⟩:=rw';cases z
  |tup xs=>obtain⟨a,vs,its,z,_⟩:=he.isTup hZ I rw';cases z
  |lst xs=>obtain⟨a,vs,its,z,_⟩:=he.isLst hZ I rw';cases z
  |dct _ _=>cases ce
  |exc _=>cases ce
 |.str i,e,v,w,u,hd,he,rv,rw',cd,ce=>by
  cases hd.str;obtain⟨t,rfl⟩:=rv;cases e with
  |non=>cases he.non;cases rw'
  |bl b'=>cases he.bl;cases rw'
  |int i=>cases he.int;obtain⟨t,z⟩:=rw';cases z
  |str x=>cases he.str;obtain⟨t,z⟩:=rw';cases z;rfl
  |tup xs=>obtain⟨a,vs,its,z,_⟩:=he.isTup hZ I rw';cases z
  |lst xs=>obtain⟨a,vs,its,z,_⟩:=he.isLst hZ I rw';cases z
  |dct _ _=>cases ce
  |exc _=>cases ce
 |.tup ds,e,v,w,u,hd,he,rv,rw',cd,ce=>by
  obtain⟨a,vs,its,rfl,rr,rs,p⟩:=hd.isTup hZ I rv;cases e with
  |non=>cases he.non;cases rw'
  |bl b'=>cases he.bl;cases rw'
  |int i=>cases he.int;obtain⟨t,z⟩:=rw';cases z
  |str x=>cases he.str;obtain⟨t,z⟩:=rw';cases z
  |tup xs=>
   obtain⟨b,vs',its',z,rr',rs',p'⟩:=he.isTup hZ I rw';cases z;have:=jkq p p';have:its=its':=by simpa using this
   subst this;simp only[jbw]at cd ce;rw[reps_same hZ I rr rr' rs rs' cd ce]
  |lst xs=>obtain⟨b,vs',its',z,rr',rs',p'⟩:=he.isLst hZ I rw';cases z;exact absurd rfl (SeqAt.ne_of_list_tuple p' p)
  |dct _ _=>cases ce
  |exc _=>cases ce
 |.lst ds,e,v,w,u,hd,he,rv,rw',cd,ce=>by
  obtain⟨a,vs,its,rfl,rr,rs,p⟩:=hd.isLst hZ I rv;cases e with
  |non=>cases he.non;cases rw'
  |bl b'=>cases he.bl;cases rw'
  |int i=>cases he.int;obtain⟨t,z⟩:=rw';cases z
  |str x=>cases he.str;obtain⟨t,z⟩:=rw';cases z
  |tup xs=>obtain⟨b,vs',its',z,rr',rs',p'⟩:=he.isTup hZ I rw';cases z;exact absurd rfl (SeqAt.ne_of_list_tuple p p')
  |lst xs=>
   obtain⟨b,vs',its',z,rr',rs',p'⟩:=he.isLst hZ I rw';cases z;have:=jkr p p';have:its=its':=by simpa using this
   subst this;simp only[jbw]at cd ce;rw[reps_same hZ I rr rr' rs rs' cd ce]
  |dct _ _=>cases ce
  |exc _=>cases ce
 |.dct _ _,_,_,_,_,_,_,_,_,cd,_=>by cases cd
 |.exc _,_,_,_,_,_,_,_,_,cd,_=>by cases cd
theorem reps_same (hZ:X.K=Z.K)(I:Inv X pins σ H s):∀{ds es:List D}{vs ws:List V}{us:List Value},Reps Z F H ds vs->Reps Z F H es ws->Vals vs us->Vals ws us->cmpDs ds=true->cmpDs es=true->ds=es
 |[],es,vs,ws,us,hd,he,rv,rw',cd,ce=>by
  simp only[Reps]at hd;subst hd;cases rv;cases rw';cases es with
  |nil=>rfl
  |cons e es=>obtain⟨_,_,z,_⟩:=he.uncons;cases z
 |d::ds,es,vs,ws,us,hd,he,rv,rw',cd,ce=>by
  obtain⟨v,vs',rfl,h1,h2⟩:=hd.uncons;cases rv with
  |cons r1 r2=>
   cases rw' with
   |cons q1 q2=>
    cases es with
    |nil=>simp only[Reps]at he;cases he
    |cons e es=>
     obtain⟨w,ws',z,g1,g2⟩:=he.uncons;cases z;simp only[cmpDs,jvP]at cd ce;rw[jdv hZ I (.inl h1) (.inl g1) r1 q1 cd.1 ce.1,reps_same hZ I h2 g2 r2 q2 cd.2 ce.2]
end
mutual
theorem jdw:∀{d:D},jbw d=true->eqD d d=true
 |.non,_=>rfl
 |.bl b,_=>by simp[eqD]
 |.int i,_=>by simp[eqD]
 |.str x,_=>by simp[eqD]
 |.tup xs,h=>by simp only[jbw]at h;simp only[eqD];exact eqDs_refl h
 |.lst xs,h=>by simp only[jbw]at h;simp only[eqD];exact eqDs_refl h
 |.dct _ _,h=>by cases h
 |.exc _,h=>by cases h
theorem eqDs_refl:∀{ds:List D},cmpDs ds=true->eqDs ds ds=true
 |[],_=>rfl
 |d::ds,h=>by
  simp only[cmpDs,jvP]at h;simp only[eqDs,jvP];exact⟨jdw h.1,eqDs_refl h.2⟩
end
theorem jbK:∀{ds es:List D},eqDs ds es=(decide (ds.length=es.length) && (List.range (min ds.length es.length)).all fun j=>eqD (ds.getD j .non) (es.getD j .non))
 |[],[]=>rfl
 |[],_::_=>by simp[eqDs]
 |_::_,[]=>by simp[eqDs]
 |d::ds,e::es=>by
  have ih:=jbK (ds:=ds) (es:=es);simp only[eqDs,ih,jvf,Nat.succ_min_succ,List.range_succ_eq_map,List.all_cons,List.getD_cons_zero,List.all_map,Function.comp_def,List.getD_cons_succ,Nat.add_right_cancel_iff];cases eqD d e <;> cases decide (ds.length=es.length) <;> simp
theorem Reps.vals {ds:List D}{vs:List V}{us:List Value}(h:Reps Z F H ds vs)(r:Vals vs us){j:Nat}(hj:j < us.length):∃v,Rep Z F H (ds.getD j .non) v/\RelV v us[j]/\ds.length=us.length:=by
 have l1:=h.length;have l2:=r.length;obtain⟨v,e1,e2⟩:=h.get (ju5 (show j < ds.length by omega))
 obtain⟨u,e3,e4⟩:=r.get e1;rw[ju5 hj]at e3;cases e3;refine⟨v,?_,e4,by omega⟩
 rw[jvd,ju5 (show j < ds.length by omega)]
 exact e2
theorem ja0:∀{ds:List D}{j:Nat},cmpDs ds=true->jbw (ds.getD j .non)=true
 |[],j,_=>by simp[jbw]
 |d::ds,0,h=>by simp only[cmpDs,jvP]at h;simpa using h.1
 |d::ds,j + 1,h=>by
  simp only[cmpDs,jvP]at h;rw[List.getD_cons_succ];exact ja0 h.2
theorem jbY:∀{ds:List D}{j:Nat},deep (ds.getD j .non)<=deeps ds
 |[],j=>by simp[deep]
 |d::ds,0=>by simp only[deeps,List.getD_cons_zero];exact Nat.le_max_left _ _
 |d::ds,j + 1=>by
  rw[List.getD_cons_succ];simp only[deeps];exact jvN jbY (Nat.le_max_right _ _)
open SeqAt in
theorem jgs (hZ:X.K=Z.K)(I:Inv X pins σ H s):∀(n:Nat) {A:Around}{d e:D}{v w:V}{u u':Value},deep d<=n->A.units + n < cLine->RepB Z F H d v->RepB Z F H e w->RelV v u->RelV w u'->jbw d=true->jbw e=true->RcAt A s u u' (eqD d e)/\EqAt A s u u' (eqD d e):=by
 intro n;induction n with
 |zero=>
  intro A d e v w u u' hn hu hd he rv rw' cd ce;have hu:A.units < cLine:=by omega
  cases d with
  |non=>
   cases hd.non;cases rv;cases e with
   |non=>cases he.non;cases rw';exact⟨RcAt.none_none,EqAt.same _⟩
   |bl b=>cases he.bl;cases rw';exact⟨RcAt.none_bool b,EqAt.none_bool b⟩
   |int i=>cases he.int;obtain⟨t,rfl⟩:=rw';exact⟨RcAt.none_int i t,EqAt.none_int i t⟩
   |str x=>cases he.str;obtain⟨t,rfl⟩:=rw';exact⟨RcAt.none_str x t,EqAt.none_str x t⟩
   |tup xs=>obtain⟨a,vs,its,rfl,_,_,p⟩:=he.isTup hZ I rw';exact⟨RcAt.none_tuple p hu,EqAt.none_tuple p hu⟩
   |lst xs=>obtain⟨a,vs,its,rfl,_,_,p⟩:=he.isLst hZ I rw';exact⟨RcAt.none_list p hu,EqAt.none_list p hu⟩
   |dct _ _=>cases ce
   |exc _=>cases ce
  |bl b0=>
   cases hd.bl;cases rv;cases e with
   |non=>cases he.non;cases rw';exact⟨RcAt.bool_none b0,EqAt.bool_none b0⟩
   |bl b=>cases he.bl;cases rw';exact⟨RcAt.bool_bool b0 b,EqAt.bool_bool b0 b⟩
   |int i=>cases he.int;obtain⟨t,rfl⟩:=rw';exact⟨RcAt.bool_int b0 i t,EqAt.bool_int b0 i t⟩
   |str x=>cases he.str;obtain⟨t,rfl⟩:=rw';exact⟨RcAt.bool_str b0 x t,EqAt.bool_str b0 x t⟩
   |tup xs=>obtain⟨a,vs,its,rfl,_,_,p⟩:=he.isTup hZ I rw';exact⟨RcAt.bool_tuple b0 p hu,EqAt.bool_tuple b0 p hu⟩
   |lst xs=>obtain⟨a,vs,its,rfl,_,_,p⟩:=he.isLst hZ I rw';exact⟨RcAt.bool_list b0 p hu,EqAt.bool_list b0 p hu⟩
   |dct _ _=>cases ce
   |exc _=>cases ce
  |int i0=>
   cases hd.int;obtain⟨t0,rfl⟩:=rv;cases e with
   |non=>cases he.non;cases rw';exact⟨RcAt.int_none i0 t0,EqAt.int_none i0 t0⟩
   |bl b=>cases he.bl;cases rw';exact⟨RcAt.int_bool i0 t0 b,EqAt.int_bool i0 t0 b⟩
   |int i=>cases he.int;obtain⟨t,rfl⟩:=rw';exact⟨RcAt.int_int i0 t0 i t,EqAt.int_int i0 t0 i t⟩
   |str x=>cases he.str;obtain⟨t,rfl⟩:=rw';exact⟨RcAt.int_str i0 t0 x t,EqAt.int_str i0 t0 x t⟩
   |tup xs=>obtain⟨a,vs,its,rfl,_,_,p⟩:=he.isTup hZ I rw';exact⟨RcAt.int_tuple i0 t0 p hu,EqAt.int_tuple i0 t0 p hu⟩
   |lst xs=>obtain⟨a,vs,its,rfl,_,_,p⟩:=he.isLst hZ I rw';exact⟨RcAt.int_list i0 t0 p hu,EqAt.int_list i0 t0 p hu⟩
   |dct _ _=>cases ce
   |exc _=>cases ce
  |str i0=>
   cases hd.str;obtain⟨t0,rfl⟩:=rv;cases e with
   |non=>cases he.non;cases rw';exact⟨RcAt.str_none i0 t0,EqAt.str_none i0 t0⟩
   |bl b=>cases he.bl;cases rw';exact⟨RcAt.str_bool i0 t0 b,EqAt.str_bool i0 t0 b⟩
   |int i=>cases he.int;obtain⟨t,rfl⟩:=rw';exact⟨RcAt.str_int i0 t0 i t,EqAt.str_int i0 t0 i t⟩
   |str x=>cases he.str;obtain⟨t,rfl⟩:=rw';exact⟨RcAt.str_str i0 t0 x t,EqAt.str_str i0 t0 x t⟩
   |tup xs=>obtain⟨a,vs,its,rfl,_,_,p⟩:=he.isTup hZ I rw';exact⟨RcAt.str_tuple i0 t0 p hu,EqAt.str_tuple i0 t0 p hu⟩
   |lst xs=>obtain⟨a,vs,its,rfl,_,_,p⟩:=he.isLst hZ I rw';exact⟨RcAt.str_list i0 t0 p hu,EqAt.str_list i0 t0 p hu⟩
   |dct _ _=>cases ce
   |exc _=>cases ce
  |tup _=>simp[deep]at hn
  |lst _=>simp[deep]at hn
  |dct _ _=>cases cd
  |exc _=>cases cd
 |succ n ih=>
  intro A d e v w u u' hn hu hd he rv rw' cd ce;have hu0:A.units < cLine:=by omega
  have hu1:A.in1.units + n < cLine:=by show A.units + 1 + n < cLine;omega
  have flat:deep d=0->RcAt A s u u' (eqD d e)/\EqAt A s u u' (eqD d e):=fun h0=>ih (by omega) (by omega) hd he rv rw' cd ce
  cases d with
  |non=>exact flat rfl
  |bl _=>exact flat rfl
  |int _=>exact flat rfl
  |str _=>exact flat rfl
  |dct _ _=>cases cd
  |exc _=>cases cd
  |tup ds=>
   obtain⟨a,vs,its,rfl,rr,rs,p⟩:=hd.isTup hZ I rv;cases e with
   |non=>cases he.non;cases rw';exact⟨RcAt.tuple_none p hu0,EqAt.tuple_none p hu0⟩
   |bl b=>cases he.bl;cases rw';exact⟨RcAt.tuple_bool b p hu0,EqAt.tuple_bool b p hu0⟩
   |int i=>cases he.int;obtain⟨t,rfl⟩:=rw';exact⟨RcAt.tuple_int i t p hu0,EqAt.tuple_int i t p hu0⟩
   |str x=>cases he.str;obtain⟨t,rfl⟩:=rw';exact⟨RcAt.tuple_str x t p hu0,EqAt.tuple_str x t p hu0⟩
   |lst xs=>obtain⟨b,vs',its',rfl,_,_,p'⟩:=he.isLst hZ I rw';exact⟨RcAt.tuple_list p p' hu0,EqAt.tuple_list p p' hu0⟩
   |dct _ _=>cases ce
   |exc _=>cases ce
   |tup es=>
    obtain⟨b,vs',its',rfl,rr',rs',p'⟩:=he.isTup hZ I rw';simp only[jbw]at cd ce;simp only[deep]at hn;have l1:ds.length=its.length:=by rw[rr.length,rs.length]
    have l2:es.length=its'.length:=by rw[rr'.length,rs'.length]
    have key:RcAt A s (.ref a) (.ref b) (eqD (.tup ds) (.tup es)):=by
     have:=RcAt.tuples (A:=A) (e:=fun j=>eqD (ds.getD j .non) (es.getD j .non)) p p' hu0 fun j h1 h2=>by
      obtain⟨v1,q1,q2,_⟩:=rr.vals rs (j:=j) (by simpa using h1)
      obtain⟨v2,q3,q4,_⟩:=rr'.vals rs' (j:=j) (by simpa using h2)
      exact(ih (jvN jbY (by omega)) hu1 (.inl q1) (.inl q3) (by simpa using q2) (by simpa using q4) (ja0 cd) (ja0 ce)).2
     simp only[eqD];rw[jbK,Bool.and_comm];simp only[ju9,<-l1,<-l2]at this;have e2:(ds.length == es.length)=decide (ds.length=es.length):=by rw[Bool.beq_eq_decide_eq]
     rw[<-e2];exact this
    refine⟨key,?_⟩;by_cases hab:a=b
    ·subst hab;rw[jdv hZ I hd he rv rw' (by simpa only[jbw] using cd) (by simpa only[jbw] using ce),jdw (by simpa only[jbw] using ce)]
     exact EqAt.same _
    ·exact EqAt.of_refs hab key
  |lst ds=>
   obtain⟨a,vs,its,rfl,rr,rs,p⟩:=hd.isLst hZ I rv;cases e with
   |non=>cases he.non;cases rw';exact⟨RcAt.list_none p hu0,EqAt.list_none p hu0⟩
   |bl b=>cases he.bl;cases rw';exact⟨RcAt.list_bool b p hu0,EqAt.list_bool b p hu0⟩
   |int i=>cases he.int;obtain⟨t,rfl⟩:=rw';exact⟨RcAt.list_int i t p hu0,EqAt.list_int i t p hu0⟩
   |str x=>cases he.str;obtain⟨t,rfl⟩:=rw';exact⟨RcAt.list_str x t p hu0,EqAt.list_str x t p hu0⟩
   |tup xs=>obtain⟨b,vs',its',rfl,_,_,p'⟩:=he.isTup hZ I rw';exact⟨RcAt.list_tuple p p' hu0,EqAt.list_tuple p p' hu0⟩
   |dct _ _=>cases ce
   |exc _=>cases ce
   |lst es=>
    obtain⟨b,vs',its',rfl,rr',rs',p'⟩:=he.isLst hZ I rw';simp only[jbw]at cd ce;simp only[deep]at hn;have l1:ds.length=its.length:=by rw[rr.length,rs.length]
    have l2:es.length=its'.length:=by rw[rr'.length,rs'.length]
    have key:RcAt A s (.ref a) (.ref b) (eqD (.lst ds) (.lst es)):=by
     by_cases hsz:its.length=its'.length
     ·have:=RcAt.lists (A:=A) (e:=fun j=>eqD (ds.getD j .non) (es.getD j .non)) p p' (by simpa using hsz) hu0 fun j h1 h2=>by
       obtain⟨v1,q1,q2,_⟩:=rr.vals rs (j:=j) (by simpa using h1)
       obtain⟨v2,q3,q4,_⟩:=rr'.vals rs' (j:=j) (by simpa using h2)
       exact(ih (jvN jbY (by omega)) hu1 (.inl q1) (.inl q3) (by simpa using q2) (by simpa using q4) (ja0 cd) (ja0 ce)).2
      simp only[eqD];have hl:ds.length=es.length:=by omega
      rw[jbK,decide_eq_true hl,Bool.true_and,<-hl,Nat.min_self];simp only[ju9,<-l1]at this;exact this
     ·have:=RcAt.lists_lengths (A:=A) p p' (by simpa using hsz) hu0
      simp only[eqD];rw[jbK,decide_eq_false (by omega),Bool.false_and]
      exact this
    refine⟨key,?_⟩;by_cases hab:a=b
    ·subst hab;rw[jdv hZ I hd he rv rw' (by simpa only[jbw] using cd) (by simpa only[jbw] using ce),jdw (by simpa only[jbw] using ce)]
     exact EqAt.same _
    ·exact EqAt.of_refs hab key
end
end DJ
namespace DJ
open PySem PySem.Spec PyProof.Rows L2
noncomputable def bD (g:D->D->R Bool):D->D->R Vl:=fun x y=>(g x y).bind fun c=>.ok (.dat (.bl c))
noncomputable def Cm.py:Cm->CmpOp
 |.eq=>.Eq | .ne=>.NotEq | .lt=>.Lt | .le=>.LtE | .gt=>.Gt | .ge=>.GtE | .isn=>.Is | .notn=>.IsNot
 |.isin=>.In | .notin=>.NotIn
theorem jhz:∀x y:List Int,lexLt x y=HT.lexLt x y
 |[],[]=>rfl
 |[],_::_=>rfl
 |_::_,[]=>rfl
 |x::xs,y::ys=>by
  rw[HT.jed];simp only[lexLt];rw[jhz xs ys]
theorem jcB {Z:Kn}{F:Addr->Prop}{H:Hp}:∀{ds:List D}{ns:List Int}{vs:List V},ja7 ds=some ns->Reps Z F H ds vs->vs=ns.map V.int
 |[],ns,vs,h,r=>by simp only[Reps]at r;cases h;exact r
 |d::ds,ns,vs,h,r=>by
  simp only[Reps]at r;obtain⟨v,us,rfl,r1,r2⟩:=r;cases d with
  |int i=>
   simp only[ja7]at h;cases q:ja7 ds with
   |none=>rw[q]at h;cases h
   |some ms=>
    rw[q]at h;cases h;simp only[Rep]at r1;rw[r1,jcB q r2];rfl
  |_=>cases h
theorem jks {d:D}{c:Nat}:ja5 d≠.err c:=by cases d <;> (intro z;cases z)
theorem jkt {x y:D}{c:Nat}:eqR x y≠.err c:=by unfold eqR;split <;> (intro z;cases z)
theorem jpo {x y:D}{c:Nat}:inR x y≠.err c:=by
 intro h;unfold inR at h;cases e:ja5 y with
 |ok ys=>rw[e,R.bind_ok']at h;split at h <;> cases h
 |err c=>exact jks e
 |stk=>rw[e]at h;cases h
theorem jku {x y:D}{c:Nat}:inX x y≠.err c:=by
 cases y with
 |str y=>cases x <;> (intro h;cases h)
 |_=>exact jpo
theorem jpp {x y:D}{c:Nat}:ltD x y≠.err c:=by
 intro h;unfold ltD at h;split at h <;> first | cases h | (split at h <;> cases h)
theorem jeM {f:Int->Int->Bool}{x y:D}{c:Nat}:jrA f x y≠.err c:=by
 intro h;cases x with
 |int a=>cases y with
  |int b=>cases h
  |_=>cases h
 |_=>cases h
theorem jgt {f:Int->Int->Bool}{x y:D}{c:Bool}(h:jrA f x y=.ok c):∃a b,x=.int a/\y=.int b/\c=f a b:=by
 cases x with
 |int a=>cases y with
  |int b=>cases h;exact⟨a,b,rfl,rfl,rfl⟩
  |_=>cases h
 |_=>cases h
theorem jkv {r:R Bool}{c:Nat}(hr:r≠.err c):(r.bind fun c=>(.ok (!c):R Bool))≠.err c:=by
 intro h;cases r with
 |ok b=>cases h
 |err c'=>cases h;exact hr rfl
 |stk=>cases h
theorem jn4 {x:D}(h:isN x=true):x=.non:=by
 cases x with
 |non=>rfl
 |_=>cases h
theorem jpq {o:Cm}{x y:D}{c:Nat}:cmD o x y≠.err c:=by
 cases o with
 |eq=>exact jkt
 |ne=>exact jkv jkt
 |lt=>exact jpp
 |gt=>exact jeM
 |le=>exact jeM
 |ge=>exact jeM
 |isn=>intro h;unfold cmD at h;dsimp only at h;split at h <;> cases h
 |notn=>intro h;unfold cmD at h;dsimp only at h;split at h <;> cases h
 |isin=>exact jku
 |notin=>exact jkv jku
section
variable {Z:Kn}{X:Cx}{pins:List (Addr×Obj)}{s:Shared}{σ:L2.St}{H:Hp}{F:Addr->Prop}
theorem jn5 {d e:D}{b:Bool}(h:eqR d e=.ok b):b=eqD d e/\jbw d=true/\jbw e=true/\deep d<=12/\deep e<=12:=by
 unfold eqR at h;split at h
 ·rename_i hc;simp only[jvP,decide_eq_true_eq]at hc;cases h;exact⟨rfl,hc.1.1.1,hc.1.1.2,hc.1.2,hc.2⟩
 ·cases h
theorem jrB (hZ:X.K=Z.K)(hu:X.A.units + 64 < cLine)(I:Inv X pins σ H s){d e:D}{x y:V}{u w:Value}{b:Bool}(hd:RepB Z F H d x)(he:RepB Z F H e y)(rx:RelV x u)(ry:RelV y w)(hb:eqR d e=.ok b){Q:Value->Shared->Prop}{E:Value->Shared->Prop}(q:Q (.bool b) s) :
  wpAny (model X.prog X.w) X.A (compareOp .Eq u w) Q E s:=by
 obtain⟨rfl,c1,c2,d1,d2⟩:=jn5 hb;exact(jgs hZ I 12 (A:=X.A) d1 (by omega) hd he rx ry c1 c2).1 X.prog X.w E Q q
theorem jrC (hZ:X.K=Z.K)(hu:X.A.units + 64 < cLine)(I:Inv X pins σ H s){d e:D}{x y:V}{u w:Value}{b:Bool}(hd:RepB Z F H d x)(he:RepB Z F H e y)(rx:RelV x u)(ry:RelV y w)(hb:inR d e=.ok b)(neg:Bool){Q:Value->Shared->Prop}{E:Value->Shared->Prop}(q:Q (.bool (if neg then !b else b)) s) :
  wpAny (model X.prog X.w) X.A (compareOp (if neg then .NotIn else .In) u w) Q E s:=by
 unfold inR at hb;obtain⟨ys,hs,hb⟩:=R.bind_ok hb;split at hb
 ·rename_i hc;simp only[jvP,decide_eq_true_eq]at hc;obtain⟨⟨⟨c1,c2⟩,d1⟩,d2⟩:=hc;cases hb;obtain⟨p,vs,rfl,hq,rr⟩:=jdI he hs;cases ry;have hj:∀(its:List Value),Vals vs its->∃ef:Value->Bool,(∀z,z∈its.toArray->SeqAt.EqAt X.A.in1 s z u (ef z))/\its.toArray.any ef=ys.any fun z=>eqD z d:=fun its rv=>by
   classical
   let Pz:Value->D->Prop:=fun z e0=>jbw e0=true/\deep e0<=12/\∃v0,Rep Z F H e0 v0/\RelV v0 z
   have uq:∀{z:Value}{e1 e2:D},Pz z e1->Pz z e2->e1=e2:=fun ⟨a1,_,v1,a3,a4⟩ ⟨b1,_,v2,b3,b4⟩=>jdv hZ I (.inl a3) (.inl b3) a4 b4 a1 b1;let ef:Value->Bool:=fun z=>if h:∃e0,Pz z e0 then eqD h.choose d else false;have efE:∀{z:Value}{e0:D},Pz z e0->ef z=eqD e0 d:=fun {z e0} h=>by
    have hx:∃e0,Pz z e0:=⟨e0,h⟩;simp only[ef,dif_pos hx];rw[uq hx.choose_spec h]
   have l1:ys.length=its.length:=by rw[rr.length,rv.length]
   have at_:∀j (hj:j < its.length),Pz its[j] (ys.getD j .non):=fun j hj=>by
    obtain⟨v1,q1,q2,_⟩:=rr.vals rv hj;exact⟨ja0 c2,jvN jbY d2,v1,q1,q2⟩
   refine⟨ef,fun z hz=>?_,?_⟩
   ·have hz:z∈its:=by simpa using hz
    obtain⟨j,hj,rfl⟩:=List.getElem_of_mem hz;have hp:=at_ j hj;rw[efE hp];obtain⟨a1,a2,v0,a3,a4⟩:=hp;exact(jgs hZ I 12 (A:=X.A.in1) a2 (by show X.A.units + 1 + 12 < cLine;omega) (.inl a3) hd a4 rx a1 c1).2
   ·rw[<-Array.any_toList];have hmap:its.map ef=ys.map fun z=>eqD z d:=by
     apply List.ext_getElem
     ·simp[l1]
     ·intro j h1 h2;rw[List.getElem_map,List.getElem_map];have h1:j < its.length:=by simpa using h1
      have:=efE (at_ j h1);rw[this,jvd,ju5 (by omega)]
      rfl
    have e1:its.any ef=(its.map ef).any id:=by rw[List.any_map];rfl
    have e2:(ys.any fun z=>eqD z d)=(ys.map fun z=>eqD z d).any id:=by rw[List.any_map];rfl
    rw[e2,<-hmap,<-e1]
  rcases hq with hq | hq
  ·obtain⟨its,rv,pl,_⟩:=I.list (show SqL X.K H p vs by rw[hZ];exact hq)
   obtain⟨ef,f1,f2⟩:=hj its rv;cases neg with
   |false=>exact SeqAt.in_listAt ef pl.isList f1 (by rw[f2];exact q)
   |true=>exact SeqAt.notIn_listAt ef pl.isList f1 (by rw[f2];exact q)
  ·obtain⟨its,rv,pl,_⟩:=I.tuple (show SqT X.K H p vs by rw[hZ];exact hq)
   obtain⟨ef,f1,f2⟩:=hj its rv;cases neg with
   |false=>exact SeqAt.in_tupleAt ef (show s.heap.IsTuple p its.toArray from pl) f1 (by rw[f2];exact q)
   |true=>exact SeqAt.notIn_tupleAt ef (show s.heap.IsTuple p its.toArray from pl) f1 (by rw[f2];exact q)
 ·cases hb
theorem jkw (hZ:X.K=Z.K)(hu:X.A.units + 64 < cLine)(I:Inv X pins σ H s){d e:D}{x y:V}{u w:Value}{b:Bool}(hd:RepB Z F H d x)(he:RepB Z F H e y)(rx:RelV x u)(ry:RelV y w)(hb:inX d e=.ok b)(neg:Bool){Q:Value->Shared->Prop}{E:Value->Shared->Prop}(q:Q (.bool (if neg then !b else b)) s) :
  wpAny (model X.prog X.w) X.A (compareOp (if neg then .NotIn else .In) u w) Q E s:=by
 cases e with
 |str y=>
  cases d with
  |str x=>
   cases hb;cases hd.str;cases he.str;obtain⟨t,rfl⟩:=rx;obtain⟨t',rfl⟩:=ry;cases neg with
   |false=>exact SB.contains q
   |true=>exact SB.notContains q
  |_=>cases hb
 |_=>exact jrC hZ hu I hd he rx ry hb neg q
open SeqAt in
theorem jtp (hZ:X.K=Z.K)(I:Inv X pins σ H s){A:Around}{d e:D}{v w:V}{u u':Value}(hn:deep d<=12)(hu:A.units + 13 < cLine)(hd:RepB Z F H d v)(he:RepB Z F H e w)(rv:RelV v u)(rw':RelV w u')(cd:jbw d=true)(ce:jbw e=true):RcNeAt A s u u' (!eqD d e):=by
 have hu0:A.units < cLine:=by omega
 have items:∀{ds es:List D}{vs vs':List V}{its its':List Value},Reps Z F H ds vs->Vals vs its->Reps Z F H es vs'->Vals vs' its'->deeps ds<=12->cmpDs ds=true->cmpDs es=true->∀j (h1:j < its.toArray.size) (h2:j < its'.toArray.size),EqAt A.in1 s its.toArray[j] its'.toArray[j] (eqD (ds.getD j .non) (es.getD j .non)):=fun rr rs rr' rs' hdp cds ces j h1 h2=>by
  obtain⟨v1,q1,q2,_⟩:=rr.vals rs (j:=j) (by simpa using h1)
  obtain⟨v2,q3,q4,_⟩:=rr'.vals rs' (j:=j) (by simpa using h2)
  exact(jgs hZ I 12 (jvN jbY hdp) (by show A.units + 1 + 12 < cLine;omega) (.inl q1) (.inl q3) (by simpa using q2) (by simpa using q4) (ja0 cds) (ja0 ces)).2
 cases d with
 |non=>
  cases hd.non;cases rv;cases e with
  |non=>
   cases he.non;cases rw';exact RcNeAt.none_none
  |bl y=>
   cases he.bl;cases rw';exact RcNeAt.none_bool y
  |int y=>
   cases he.int;obtain⟨t2,rfl⟩:=rw';exact RcNeAt.none_int y t2
  |str y=>
   cases he.str;obtain⟨t2,rfl⟩:=rw';exact RcNeAt.none_str y t2
  |tup y=>
   obtain⟨a2,vs2,its2,rfl,rr2,rs2,p2⟩:=he.isTup hZ I rw';exact RcNeAt.none_tuple p2 hu0
  |lst y=>
   obtain⟨a2,vs2,its2,rfl,rr2,rs2,p2⟩:=he.isLst hZ I rw';exact RcNeAt.none_list p2 hu0
  |dct _ _=>cases ce
  |exc _=>cases ce
 |bl x=>
  cases hd.bl;cases rv;cases e with
  |non=>
   cases he.non;cases rw';exact RcNeAt.bool_none x
  |bl y=>
   cases he.bl;cases rw';exact RcNeAt.bool_bool x y
  |int y=>
   cases he.int;obtain⟨t2,rfl⟩:=rw';exact RcNeAt.bool_int x y t2
  |str y=>
   cases he.str;obtain⟨t2,rfl⟩:=rw';exact RcNeAt.bool_str x y t2
  |tup y=>
   obtain⟨a2,vs2,its2,rfl,rr2,rs2,p2⟩:=he.isTup hZ I rw';exact RcNeAt.bool_tuple x p2 hu0
  |lst y=>
   obtain⟨a2,vs2,its2,rfl,rr2,rs2,p2⟩:=he.isLst hZ I rw';exact RcNeAt.bool_list x p2 hu0
  |dct _ _=>cases ce
  |exc _=>cases ce
 |int x=>
  cases hd.int;obtain⟨t1,rfl⟩:=rv;cases e with
  |non=>
   cases he.non;cases rw';exact RcNeAt.int_none x t1
  |bl y=>
   cases he.bl;cases rw';exact RcNeAt.int_bool x t1 y
  |int y=>
   cases he.int;obtain⟨t2,rfl⟩:=rw';exact RcNeAt.int_int x t1 y t2
  |str y=>
   cases he.str;obtain⟨t2,rfl⟩:=rw';exact RcNeAt.int_str x t1 y t2
  |tup y=>
   obtain⟨a2,vs2,its2,rfl,rr2,rs2,p2⟩:=he.isTup hZ I rw';exact RcNeAt.int_tuple x t1 p2 hu0
  |lst y=>
   obtain⟨a2,vs2,its2,rfl,rr2,rs2,p2⟩:=he.isLst hZ I rw';exact RcNeAt.int_list x t1 p2 hu0
  |dct _ _=>cases ce
  |exc _=>cases ce
 |str x=>
  cases hd.str;obtain⟨t1,rfl⟩:=rv;cases e with
  |non=>
   cases he.non;cases rw';exact RcNeAt.str_none x t1
  |bl y=>
   cases he.bl;cases rw';exact RcNeAt.str_bool x t1 y
  |int y=>
   cases he.int;obtain⟨t2,rfl⟩:=rw';exact RcNeAt.str_int x t1 y t2
  |str y=>
   cases he.str;obtain⟨t2,rfl⟩:=rw';exact RcNeAt.str_str x t1 y t2
  |tup y=>
   obtain⟨a2,vs2,its2,rfl,rr2,rs2,p2⟩:=he.isTup hZ I rw';exact RcNeAt.str_tuple x t1 p2 hu0
  |lst y=>
   obtain⟨a2,vs2,its2,rfl,rr2,rs2,p2⟩:=he.isLst hZ I rw';exact RcNeAt.str_list x t1 p2 hu0
  |dct _ _=>cases ce
  |exc _=>cases ce
 |tup x=>
  obtain⟨a1,vs1,its1,rfl,rr1,rs1,p1⟩:=hd.isTup hZ I rv;cases e with
  |non=>
   cases he.non;cases rw';exact RcNeAt.tuple_none p1 hu0
  |bl y=>
   cases he.bl;cases rw';exact RcNeAt.tuple_bool y p1 hu0
  |int y=>
   cases he.int;obtain⟨t2,rfl⟩:=rw';exact RcNeAt.tuple_int y t2 p1 hu0
  |str y=>
   cases he.str;obtain⟨t2,rfl⟩:=rw';exact RcNeAt.tuple_str y t2 p1 hu0
  |tup y=>
   obtain⟨a2,vs2,its2,rfl,rr2,rs2,p2⟩:=he.isTup hZ I rw';simp only[jbw]at cd ce;simp only[deep]at hn;have l1:x.length=its1.length:=by rw[rr1.length,rs1.length]
   have l2:y.length=its2.length:=by rw[rr2.length,rs2.length]
   have:=RcNeAt.tuples (A:=A) (e:=fun j=>eqD (x.getD j .non) (y.getD j .non)) p1 p2 hu0 (items rr1 rs1 rr2 rs2 (by omega) cd ce)
   simp only[eqD];rw[jbK,Bool.and_comm];simp only[ju9,<-l1,<-l2]at this;have e2:(x.length == y.length)=decide (x.length=y.length):=by rw[Bool.beq_eq_decide_eq]
   rw[<-e2];exact this
  |lst y=>
   obtain⟨a2,vs2,its2,rfl,rr2,rs2,p2⟩:=he.isLst hZ I rw';exact RcNeAt.tuple_list p1 p2 hu0
  |dct _ _=>cases ce
  |exc _=>cases ce
 |lst x=>
  obtain⟨a1,vs1,its1,rfl,rr1,rs1,p1⟩:=hd.isLst hZ I rv;cases e with
  |non=>
   cases he.non;cases rw';exact RcNeAt.list_none p1 hu0
  |bl y=>
   cases he.bl;cases rw';exact RcNeAt.list_bool y p1 hu0
  |int y=>
   cases he.int;obtain⟨t2,rfl⟩:=rw';exact RcNeAt.list_int y t2 p1 hu0
  |str y=>
   cases he.str;obtain⟨t2,rfl⟩:=rw';exact RcNeAt.list_str y t2 p1 hu0
  |tup y=>
   obtain⟨a2,vs2,its2,rfl,rr2,rs2,p2⟩:=he.isTup hZ I rw';exact RcNeAt.list_tuple p1 p2 hu0
  |lst y=>
   obtain⟨a2,vs2,its2,rfl,rr2,rs2,p2⟩:=he.isLst hZ I rw';simp only[jbw]at cd ce;simp only[deep]at hn;have l1:x.length=its1.length:=by rw[rr1.length,rs1.length]
   have l2:y.length=its2.length:=by rw[rr2.length,rs2.length]
   by_cases hsz:its1.length=its2.length
   ·have:=RcNeAt.lists (A:=A) (e:=fun j=>eqD (x.getD j .non) (y.getD j .non)) p1 p2 (by simpa using hsz) hu0 (items rr1 rs1 rr2 rs2 (by omega) cd ce)
    simp only[eqD];have hl:x.length=y.length:=by omega
    rw[jbK,decide_eq_true hl,Bool.true_and,<-hl,Nat.min_self];simp only[ju9,<-l1]at this;exact this
   ·have:=RcNeAt.lists_lengths (A:=A) p1 p2 (by simpa using hsz) hu0
    simp only[eqD];rw[jbK,decide_eq_false (by omega),Bool.false_and]
    exact this
  |dct _ _=>cases ce
  |exc _=>cases ce
 |dct _ _=>cases cd
 |exc _=>cases cd
theorem jrD (hZ:X.K=Z.K)(hu:X.A.units + 64 < cLine)(I:Inv X pins σ H s){d e:D}{x y:V}{u w:Value}{b:Bool}(hd:RepB Z F H d x)(he:RepB Z F H e y)(rx:RelV x u)(ry:RelV y w)(hb:eqR d e=.ok b){Q:Value->Shared->Prop}{E:Value->Shared->Prop}(q:Q (.bool (!b)) s) :
  wpAny (model X.prog X.w) X.A (compareOp .NotEq u w) Q E s:=by
 obtain⟨rfl,c1,c2,d1,d2⟩:=jn5 hb;exact jtp hZ I d1 (by omega) hd he rx ry c1 c2 X.prog X.w E Q q
theorem jtq (hZ:X.K=Z.K)(hu:X.A.units + 64 < cLine)(o:Cm):OpR X (compareOp o.py) (rD2 Z (bD (cmD o))):=by
 intro pins s σ H x y v u Q I rx ry h;obtain⟨F,dx,dy,w,dm,bx,by_,hw,h⟩:=h;unfold bD at hw;obtain⟨c,hc,hw⟩:=R.bind_ok hw;cases hw;have fin:∀k:Bool,k=c->EP X pins σ Q (.bool k) s:=fun k e=>by subst e;exact⟨.bl k,H,I,rfl,h.bl dm⟩
 have isn:isN dx=decide (x=.non):=by
  cases dx with
  |non=>cases bx.non;rfl
  |bl b=>cases bx.bl;rfl
  |int b=>cases bx.int;rfl
  |str b=>cases bx.str;rfl
  |tup b=>obtain⟨a,vs,rfl,_⟩:=bx.tup;rfl
  |lst b=>obtain⟨a,vs,rfl,_⟩:=bx.lst;rfl
  |dct ks vs=>obtain⟨a,rfl,_⟩:=bx.dct;rfl
  |exc b=>
   have:=bx.flat (fun o z=>by cases o <;> cases z)
   simp only[Rep]at this;obtain⟨a,C,rfl,_⟩:=this;rfl
 cases o with
 |eq=>exact jrB hZ hu I bx by_ rx ry hc (fin _ rfl)
 |ne=>
  obtain⟨b,hb,hc⟩:=R.bind_ok hc;cases hc;exact jrD hZ hu I bx by_ rx ry hb (fin _ rfl)
 |lt=>
  have hc:ltD dx dy=.ok c:=hc;unfold ltD at hc;split at hc
  ·cases hc;cases bx.int;cases by_.int;exact js9 pins s σ H _ _ v u Q I rx ry ⟨_,_,rfl,rfl,h.bl dm⟩
  ·split at hc
   ·rename_i as bs ns ms e1 e2;cases hc;obtain⟨a,vs,rfl,ft,ra⟩:=bx.tup;obtain⟨b,us,rfl,fu,rb⟩:=by_.tup;cases jcB e1 ra;cases jcB e2 rb;refine jrk (by omega) pins s σ H _ _ v u Q I rx ry ⟨a,b,ns,ms,rfl,rfl,(by rw[hZ];exact ft.sq),(by rw[hZ];exact fu.sq),?_⟩
    rw[<-jhz];exact h.bl dm
   ·cases hc
  ·cases hc
 |gt=>
  obtain⟨_,_,rfl,rfl,rfl⟩:=jgt hc;cases bx.int;cases by_.int;exact jtb pins s σ H _ _ v u Q I rx ry ⟨_,_,rfl,rfl,h.bl dm⟩
 |le=>
  obtain⟨_,_,rfl,rfl,rfl⟩:=jgt hc;cases bx.int;cases by_.int;exact jta pins s σ H _ _ v u Q I rx ry ⟨_,_,rfl,rfl,h.bl dm⟩
 |ge=>
  obtain⟨_,_,rfl,rfl,rfl⟩:=jgt hc;cases bx.int;cases by_.int;exact jtc pins s σ H _ _ v u Q I rx ry ⟨_,_,rfl,rfl,h.bl dm⟩
 |isn=>
  have hc:(if isN dy then .ok (isN dx)else .stk:R Bool)=.ok c:=hc;split at hc
  ·rename_i hn;cases jn4 hn;cases hc;cases by_.non;refine jrg pins s σ H _ _ v u Q I rx ry ⟨rfl,?_⟩;rw[<-isn];exact h.bl dm
  ·cases hc
 |notn=>
  have hc:(if isN dy then .ok (!isN dx)else .stk:R Bool)=.ok c:=hc;split at hc
  ·rename_i hn;cases jn4 hn;cases hc;cases by_.non;refine joO pins s σ H _ _ v u Q I rx ry ⟨rfl,?_⟩;rw[<-isn];exact h.bl dm
  ·cases hc
 |isin=>exact jkw hZ hu I bx by_ rx ry hc false (fin _ rfl)
 |notin=>
  obtain⟨b,hb,hc⟩:=R.bind_ok hc;cases hc;exact jkw hZ hu I bx by_ rx ry hb true (fin _ rfl)
end
end DJ
namespace L2
open PySem PySem.Spec PyProof.Rows
section
variable {X:Cx}
theorem jgu {ns:List Int}{its:List Value}(rv:Vals (ns.map V.int) its):∀i v,its[i]?=some v->∃t,v=Value.int (ns.getD i 0) t:=fun i v hP=>by
 have hlen:=rv.length;have hi:i < ns.length:=by have:=(List.getElem?_eq_some_iff.mp hP).1;rw[jve]at hlen;omega
 obtain⟨u,e1,e2⟩:=rv.get (i:=i) (x:=.int ns[i]) (by rw[jvb,ju5 hi];rfl)
 rw[hP]at e1;cases e1;obtain⟨t,e⟩:=e2;refine⟨t,?_⟩;rw[e,jvd,ju5 hi];rfl
theorem jdM (ns:List Int):∀k,k<=ns.length->preSum (fun i=>ns.getD i 0) k=(ns.take k).sum
 |0,_=>by simp[preSum]
 |k + 1,h=>by
  rw[preSum,jdM ns k (by omega),List.take_succ_eq_append_getElem (by omega),List.sum_append]
  simp[jvd,ju5 (show k < ns.length by omega)]
theorem jmC (hc:X.calm=true):CallR X (.builtin "sum") (fun xs H Q=>∃(p:Addr) (ns:List Int),xs=[.ref p]/\(SqL X.K H p (ns.map V.int)\/SqT X.K H p (ns.map V.int))/\Q (.int ns.sum) H):=by
 intro pins s σ H xs us Q I r h;obtain⟨p,ns,rfl,hq,q⟩:=h;obtain⟨u,rfl,rx⟩:=jbV r;cases rx;have hA:X.A.in1.handled=none:=I.ok.hd hc;refine call_sum_walkG (jew hc I hq hA fun its I' fp wr St h2 rv W st hfp back=>⟨I',fp,wr,_,_,St,fun i=>ns.getD i 0,rfl,W,st,hfp,jgu rv,fun h' tk t' kp=>?_⟩);refine⟨.int ns.sum,H,back h' tk kp,⟨t',?_⟩,q⟩;rw[jve,jdM ns _ (jvK _),List.take_length]
end
end L2
namespace DJ
open PySem PySem.Spec PyProof.Rows L2
theorem jcC {Z:Kn}{F:Addr->Prop}{H:Hp}:∀{ds:List D}{bs:List Bool}{vs:List V},jaD ds=some bs->Reps Z F H ds vs->vs.map trV=bs.map some
 |[],ns,vs,h,r=>by simp only[Reps]at r;subst r;cases h;rfl
 |d::ds,ns,vs,h,r=>by
  simp only[Reps]at r;obtain⟨v,us,rfl,r1,r2⟩:=r;cases d with
  |int i=>
   simp only[jaD]at h;cases q:jaD ds with
   |none=>rw[q]at h;cases h
   |some ms=>
    rw[q]at h;cases h;simp only[Rep]at r1;subst r1;rw[jvc,jvc,jcC q r2];rfl
  |bl i=>
   simp only[jaD]at h;cases q:jaD ds with
   |none=>rw[q]at h;cases h
   |some ms=>
    rw[q]at h;cases h;simp only[Rep]at r1;subst r1;rw[jvc,jvc,jcC q r2];rfl
  |_=>cases h
section
variable {Z:Kn}{X:Cx}
theorem jmD (hZ:X.K=Z.K){H:Hp}{p:Addr}{vs:List V}(h:SqL Z.K H p vs\/SqT Z.K H p vs):SqL X.K H p vs\/SqT X.K H p vs:=by rw[hZ];exact h
theorem jrE (hZ:X.K=Z.K):∀x H Q,rD1 Z (bfD .len) x H Q->(fun xs H Q=>(∃p ys,xs=[.ref p]/\(SqL X.K H p ys\/SqT X.K H p ys)/\Q (.int ys.length) H)\/(∃z,xs=[.str z]/\z.length<=sizeLine/\Q (.int z.length) H):List V->Hp->VK->Prop) [x] H Q:=by
 intro x H Q hz1;obtain⟨F,d,w,dm,rp,hw,h⟩:=hz1;have key:∀xs,ja5 d=.ok xs->w=.dat (.int xs.length)->(fun xs H Q=>(∃p ys,xs=[.ref p]/\(SqL X.K H p ys\/SqT X.K H p ys)/\Q (.int ys.length) H)\/(∃z,xs=[.str z]/\z.length<=sizeLine/\Q (.int z.length) H):List V->Hp->VK->Prop) [x] H Q:=fun xs hs e=>by
  subst e;obtain⟨p,vs,rfl,q,r⟩:=jdI rp hs;refine .inl ⟨p,vs,rfl,jmD hZ q,?_⟩;rw[<-r.length];exact h.int dm
 cases d with
 |str z=>
  simp only[bfD]at hw;split at hw
  ·rename_i hf;cases hw;cases rp.str;exact .inr ⟨z,rfl,jaQ hf,h.int dm⟩
  ·cases hw
 |tup xs=>simp only[bfD,ja5,R.bind_ok']at hw;cases hw;exact key xs rfl rfl
 |lst xs=>simp only[bfD,ja5,R.bind_ok']at hw;cases hw;exact key xs rfl rfl
 |_=>simp only[bfD,ja5]at hw;cases hw
theorem jmE (hZ:X.K=Z.K):∀x H Q,rD1 Z (bfD .tuple) x H Q->(fun xs H Q=>∃p ys,xs=[.ref p]/\((SqL X.K H p ys/\∀l,H l=none->Q (.ref l) (upd H l (.tup ys)))\/(SqT X.K H p ys/\Q (.ref p) H)):List V->Hp->VK->Prop) [x] H Q:=by
 intro x H Q hz1;obtain⟨F,d,w,dm,rp,hw,h⟩:=hz1;simp only[bfD]at hw;obtain⟨xs,hs,hw⟩:=R.bind_ok hw;cases hw;cases d with
 |tup ds=>
  cases hs;obtain⟨a,vs,rfl,ft,r⟩:=rp.tup;exact⟨a,vs,rfl,.inr ⟨by rw[hZ];exact ft.sq,h.tupOld dm ft r⟩⟩
 |lst ds=>
  cases hs;obtain⟨a,vs,rfl,ft,r⟩:=rp.lst;exact⟨a,vs,rfl,.inl ⟨by rw[hZ];exact ft,h.tup dm r⟩⟩
 |_=>cases hs
theorem jn6 (hZ:X.K=Z.K)(all:Bool):∀x H Q,rD1 Z (bfD (if all then .all else .any)) x H Q->(fun xs H Q=>∃(p:Addr) (ys:List V) (bs:List Bool),xs=[.ref p]/\(SqL X.K H p ys\/SqT X.K H p ys)/\ys.map trV=bs.map some/\Q (.bl (if all then bs.all id else bs.any id)) H:List V->Hp->VK->Prop) [x] H Q:=by
 intro x H Q hz1;obtain⟨F,d,w,dm,rp,hw,h⟩:=hz1;cases all with
 |true=>
  simp only[if_true,bfD]at hw;obtain⟨xs,hs,hw⟩:=R.bind_ok hw;obtain⟨p,vs,rfl,q,r⟩:=jdI rp hs;cases e:jaD xs with
  |none=>rw[e]at hw;cases hw
  |some bs=>rw[e]at hw;cases hw;exact⟨p,vs,bs,rfl,jmD hZ q,jcC e r,h.bl dm⟩
 |false=>
  simp only[jvQ,if_false,bfD]at hw;obtain⟨xs,hs,hw⟩:=R.bind_ok hw;obtain⟨p,vs,rfl,q,r⟩:=jdI rp hs;cases e:jaD xs with
  |none=>rw[e]at hw;cases hw
  |some bs=>rw[e]at hw;cases hw;exact⟨p,vs,bs,rfl,jmD hZ q,jcC e r,h.bl dm⟩
theorem jrF (hZ:X.K=Z.K):∀x H Q,rD1 Z (bfD .sum) x H Q->(fun xs H Q=>∃(p:Addr) (ns:List Int),xs=[.ref p]/\(SqL X.K H p (ns.map V.int)\/SqT X.K H p (ns.map V.int))/\Q (.int ns.sum) H:List V->Hp->VK->Prop) [x] H Q:=by
 intro x H Q hz1;obtain⟨F,d,w,dm,rp,hw,h⟩:=hz1;simp only[bfD]at hw;obtain⟨xs,hs,hw⟩:=R.bind_ok hw;obtain⟨p,vs,rfl,q,r⟩:=jdI rp hs;cases e:ja7 xs with
 |none=>rw[e]at hw;cases hw
 |some ns=>
  rw[e]at hw;cases hw;cases jcB e r;exact⟨p,ns,rfl,jmD hZ q,h.int dm⟩
theorem bf_str:∀x H Q,rD1 Z (bfD .str) x H Q->(fun xs H Q=>∃i,xs=[.int i]/\i.natAbs.log2 < 1920/\Q (.str (Str.ofString (toString i))) H:List V->Hp->VK->Prop) [x] H Q:=by
 intro x H Q hz1;obtain⟨F,d,w,dm,rp,hw,h⟩:=hz1;cases d with
 |int i=>
  obtain⟨hf,rfl⟩:=jbj hw;cases rp.int;exact⟨i,rfl,hf,h.sc dm (by simp only[Rep])⟩
 |_=>cases hw
theorem jrG:∀x H Q,rD1 Z (bfD .int) x H Q->(fun xs H Q=>((∃i,xs=[.int i]/\Q (.int i) H)\/∃k,xs=[.bl k]/\Q (.int (if k then 1 else 0)) H)\/∃z n,xs=[.str z]/\PySem.intText? z=some n/\z.length<=640/\Q (.int n) H:List V->Hp->VK->Prop) [x] H Q:=by
 intro x H Q hz1;obtain⟨F,d,w,dm,rp,hw,h⟩:=hz1;cases d with
 |int i=>cases hw;cases rp.int;exact .inl (.inl ⟨_,rfl,h.int dm⟩)
 |bl b=>cases hw;cases rp.bl;exact .inl (.inr ⟨_,rfl,h.int dm⟩)
 |str z=>
  simp only[bfD]at hw;split at hw
  ·split at hw
   ·cases hw;cases rp.str;exact .inr ⟨z,_,rfl,‹_›,‹_›,h.int dm⟩
   ·cases hw
  ·cases hw
 |_=>cases hw
noncomputable def jeN:R Vl->Prop
 |.ok (.slot _)=>False
 |.err _=>False
 |_=>True
theorem jei (kss:List (List Int)):jeN (jeG kss):=by
 unfold jeG;split <;> trivial
theorem jbk {c:Prop}[Decidable c]{r:R Vl}(h:jeN r):jeN (if c then r else .stk):=by
 split
 ·exact h
 ·trivial
theorem ja1 {d:D}{f:List D->R Vl}(h:∀xs,jeN (f xs)):jeN ((ja5 d).bind f):=by
 cases d with
 |tup xs=>exact h xs
 |lst xs=>exact h xs
 |_=>trivial
theorem jfH (f:Bf)(x:D):jeN (bfD f x):=by
 cases f with
 |abs=>cases x <;> trivial
 |int=>cases x with
  |str x=>
   refine jbk ?_;cases PySem.intText? x <;> trivial
  |_=>trivial
 |len=>cases x with
  |str x=>exact jbk trivial
  |_=>trivial
 |tuple=>exact ja1 fun _=>trivial
 |list=>exact ja1 fun _=>trivial
 |all=>
  refine ja1 fun xs=>?_;cases jaD xs <;> trivial
 |any=>
  refine ja1 fun xs=>?_;cases jaD xs <;> trivial
 |sum=>
  refine ja1 fun xs=>?_;cases ja7 xs <;> trivial
 |min=>
  refine ja1 fun xs=>?_;cases ja7 xs with
  |none=>trivial
  |some ns=>cases ns <;> trivial
 |max=>
  refine ja1 fun xs=>?_;cases ja7 xs with
  |none=>trivial
  |some ns=>cases ns <;> trivial
 |sorted=>cases x with
  |lst xs=>
   show jeN (match jbA xs with | some kss=>jeG kss | none=>.stk)
   cases jbA xs with
   |none=>trivial
   |some k=>exact jei k
  |_=>trivial
 |ssorted=>
  refine ja1 fun xs=>?_;cases jbA xs with
  |none=>trivial
  |some k=>exact jbk (jei _)
 |revl=>cases x <;> trivial
 |revt=>cases x <;> trivial
 |str=>cases x with
  |int i=>exact jbk trivial
  |_=>trivial
 |lrng=>cases x with
  |int n=>exact jbk trivial
  |_=>trivial
theorem jpr {f:Bf}{x:D}{c:Nat}:bfD f x≠.err c:=by
 intro h;have:=jfH f x;rw[h]at this;exact this
theorem jmF {f:Bf}{x:D}{i:Nat}:bfD f x≠.ok (.slot i):=by
 intro h;have:=jfH f x;rw[h]at this;exact this
end
end DJ
namespace DJ
open PySem PySem.Spec PyProof.Rows L2
structure Tab where
 defs:List Str
 flags:List (List Bool)
 cons:List (Str×D)
 excs:List Str
 quiet:Bool
 deep:Bool
structure TopX (X:Cx):Prop where
 fn:∀x,X.fn x=true
 st:X.stack=X.env::X.outer
 fr:X.env.frame=some X.env.locals
noncomputable def knd (sc:List (Str×NameKind))(x:Str):Nat:=match sc.lookup x with
 |some .local=>1
 |some .cell=>1
 |some .free=>1
 |some .globalImplicit=>2
 |_=>0
noncomputable def jd2 (N:List Str)(x:Str):Option Nat:=N.findIdx? (· == x)
noncomputable def mapO {α β:Type}(f:α->Option β):List α->Option (List β)
 |[]=>some []
 |a::as=>match f a,mapO f as with
  |some b,some bs=>some (b::bs)
  |_,_=>none
section
variable {α β γ δ ε:Type}
theorem jaj {a:α}{p:Prop}(h:(none:Option α)=some a):p:=nomatch h
theorem jax {a:Option α}{f:α->γ}{c:γ}(h:a.map f=some c):∃x,a=some x/\f x=c:=Option.map_eq_some_iff.mp h
theorem jag {a:Option α}{f:α->Option γ}{c:γ}(h:a.bind f=some c):∃x,a=some x/\f x=some c:=Option.bind_eq_some_iff.mp h
noncomputable def o2 (a:Option α)(b:Option β)(f:α->β->γ):Option γ:=a.bind fun x=>b.map (f x)
theorem jco {a:Option α}{b:Option β}{f:α->β->γ}{c:γ}(h:o2 a b f=some c):∃x y,a=some x/\b=some y/\f x y=c:=by
 obtain⟨x,h1,h⟩:=jag h;obtain⟨y,h2,h⟩:=jax h;exact⟨x,y,h1,h2,h⟩
noncomputable def o3 (a:Option α)(b:Option β)(c:Option γ)(f:α->β->γ->δ):Option δ:=a.bind fun x=>o2 b c (f x)
theorem jdj {a:Option α}{b:Option β}{c:Option γ}{f:α->β->γ->δ}{d:δ}(h:o3 a b c f=some d):∃x y z,a=some x/\b=some y/\c=some z/\f x y z=d:=by
 obtain⟨x,h1,h⟩:=jag h;obtain⟨y,z,h⟩:=jco h;exact⟨x,y,z,h1,h⟩
noncomputable def o4 (a:Option α)(b:Option β)(c:Option γ)(d:Option δ)(f:α->β->γ->δ->ε):Option ε:=a.bind fun x=>o3 b c d (f x)
theorem jn7 {a:Option α}{b:Option β}{c:Option γ}{d:Option δ}{f:α->β->γ->δ->ε}{e:ε}(h:o4 a b c d f=some e):∃x y z w,a=some x/\b=some y/\c=some z/\d=some w/\f x y z w=e:=by
 obtain⟨x,h1,h⟩:=jag h;obtain⟨y,z,w,h⟩:=jdj h;exact⟨x,y,z,w,h1,h⟩
noncomputable def gd (b:Bool)(o:Option α):Option α:=if b then none else o
theorem jap {b:Bool}{o:Option α}{c:α}(h:gd b o=some c):b=false/\o=some c:=by
 cases b with
 |true=>exact jaj h
 |false=>exact⟨rfl,h⟩
noncomputable def alt (b:Bool)(o o':Option α):Option α:=if b then o else o'
theorem jaC {b:Bool}{o o':Option α}{c:α}(h:alt b o o'=some c):b=true/\o=some c\/o'=some c:=by
 cases b with
 |true=>exact .inl ⟨rfl,h⟩
 |false=>exact .inr h
noncomputable def jn8 (a:Option α)(f:α->Option β)(r:Option β):Option β:=match a with
 |some x=>f x
 |none=>r
theorem jbL {a:Option α}{f:α->Option β}{r:Option β}{c:β}(h:jn8 a f r=some c):(∃x,a=some x/\f x=some c)\/r=some c:=by
 cases a with
 |some x=>exact .inl ⟨x,rfl,h⟩
 |none=>exact .inr h
noncomputable def jiA:List α->Option α
 |[a]=>some a
 |_=>none
theorem jaR {as:List α}{a:α}(h:jiA as=some a):as=[a]:=by
 cases as with
 |nil=>exact jaj h
 |cons x r=>
  cases r with
  |nil=>cases h;rfl
  |cons y r=>exact jaj h
noncomputable def jui:List α->Option (α×α)
 |[a,b]=>some (a,b)
 |_=>none
theorem jmG {as:List α}{p:α×α}(h:jui as=some p):as=[p.1,p.2]:=by
 cases as with
 |nil=>exact jaj h
 |cons x r=>
  cases r with
  |nil=>exact jaj h
  |cons y r=>
   cases r with
   |nil=>cases h;rfl
   |cons z r=>exact jaj h
theorem jcb {as:List α}(h:(!as.isEmpty)=false):as=[]:=by
 cases as with
 |nil=>rfl
 |cons a r=>cases h
theorem jbU {a b:Bool}(h:(a || b)=false):a=false/\b=false:=by
 cases a with
 |true=>cases h
 |false=>exact⟨rfl,h⟩
theorem jbZ {a:Bool}(h:(!a)=false):a=true:=by
 cases a with
 |true=>rfl
 |false=>cases h
end
theorem jgv {a b:Nat}(h:(a != b)=false):a=b:=by simpa using h
theorem jc3 {a b:Str}(h:(a == b)=true):a=b:=by simpa using h
noncomputable def jiB:Expr->Option Str
 |.Name x _=>some x
 |_=>none
theorem jba {e:Expr}{x:Str}(h:jiB e=some x):∃p,e=.Name x p:=by
 cases e with
 |Name y p=>cases h;exact⟨p,rfl⟩
 |_=>exact jaj h
noncomputable def jmH:Expr->Option (List Expr)
 |.Tuple es _ _=>some es
 |_=>none
theorem jdN {e:Expr}{p:List Expr}(h:jmH e=some p):∃k q,e=.Tuple p k q:=by
 cases e with
 |Tuple es k q=>cases h;exact⟨k,q,rfl⟩
 |_=>exact jaj h
noncomputable def jhA:List E->Es
 |[]=>.nil
 |e::es=>.cons e (jhA es)
noncomputable def jeO (x:Str):Bool:=x == "__debug__" || x == "__classdict__" || x == "__name__"
noncomputable def bltNames:List Str:=["isinstance","len","tuple","list","all","any","range","int","bool","str","dict","sum","min","max","sorted","set","abs","reversed","zip","ValueError","enumerate"]
inductive CXD_I (P:Program) (w:World) (outer:List PySem.Env) (H:L2.Hp) (s:PySem.Shared) (E:L2.XK) (e:PySem.Value) (s':PySem.Shared):Prop
 |mk (ea:Addr) (cls:Value) (a0:Value) (H':Hp) (B:Heap):(e=.ref ea)->(s'.os=s.os)->(AllBare s'.gens)->(Un (frs outer) [] H H' s.heap s'.heap)->(HOk P w H' s'.heap)->(Heap.FlyingW B outer ea cls a0 s'.heap)->((∀b o,s.heap.get? b=some o->b ∉ frs outer->∃o',B.get? b=some o'))->((∀a o,H' a=some o->∃o',B.get? a=some o'))->(H' ea=none)->(E cls none H')->CXD_I P w outer H s E e s'
noncomputable def CXD (P:Program)(w:World):CXT:=fun outer H s E e s'=>CXD_I P w outer H s E e s'
inductive spD_I (Z:Kn) (G:Calls) (i:Nat) (vs:List L2.V) (H:L2.Hp) (Q:L2.VK) (E:L2.XK):Prop
 |mk (B:Bs) (F:Addr->Prop) (sls:List Sl):(SR Z B F H (vs.map some) sls)->(B.hp=H)->((∀(k:Nat) (l:Addr),B.lent k=some l->(vs.map some)[k]?=some (some (.ref l))))->(Ok (fun c=>∀C H',Z.cl[c]?=some C->Stl (vs.map some) sls H H'->E (.ref C) none H') (G i sls) fun r=>∀v F' H',(∀i,r.1≠.slot i)->Go (vs.map some) sls F H (vs.map some) r.2 F' H'->SR Z B F' H' (vs.map some) r.2->RV Z F' H H' (vs.map some) r.2 r.1 v->Q v H')->spD_I Z G i vs H Q E
noncomputable def spD (Z:Kn)(G:Calls)(i:Nat):Sp:=fun vs H Q E=>spD_I Z G i vs H Q E
structure XD (T:Tab)(G:Calls)(U:Nat->Nat->Bool)(Z:Kn)(n:Nat)(X:Cx)(sc:List (Str×NameKind)):Prop where
 hK:X.K=Z.K
 calm:T.quiet=false->X.calm=true
 nd:X.N.Nodup
 room:T.quiet=false->Room n X.A
 un:X.A.units + 64 < cLine
 sc:∀x,X.env.scope.names.lookup x=sc.lookup x\/(sc.lookup x=some .free/\X.env.scope.names.lookup x=some .cell)
 blt:∀x∈bltNames,X.mg x=none
 defs:∀(i:Nat) (nm:Str),T.defs[i]?=some nm->∃f fd ps,X.mg nm=some (.ref f)/\PySem.W.keepIn X.K (.ref f)=true/\Binds X.K fd ps []/\FnOk X.prog X.w X.K X.mg X.base (CXD X.prog X.w) n f fd ps (spD Z G i)
 cons:∀x d,T.cons.lookup x=some d->∃u v,X.mg x=some u/\RelV v u/\∀F H,Rep Z F H d v
 excs:∀(i:Nat) (nm:Str),T.excs[i]?=some nm->∃C,Z.cl[i]?=some C/\X.mg nm=some (.ref C)
 ecl:∀C∈Z.cl,ECls X.K C
 sub:∀(i j:Nat) (C D:Addr),Z.cl[i]?=some C->Z.cl[j]?=some D->PySem.W.mroIn X.K C (.ref D)=some (U i j)
 top:T.deep=false->TopX X
section
variable {T:Tab}{G:Calls}{U:Nat->Nat->Bool}{Z:Kn}{n:Nat}{X:Cx}{sc:List (Str×NameKind)}
theorem XD.vis (D:XD T G U Z n X sc){x:Str}(h:knd sc x=1):Vis X.env.scope x:=by
 have h':sc.lookup x=some .local\/sc.lookup x=some .cell\/sc.lookup x=some .free:=by
  unfold knd at h;split at h <;> simp_all
 unfold Vis;rcases D.sc x with e | ⟨_,e⟩
 ·rw[e];exact h'
 ·exact .inr (.inl e)
theorem XD.gl (D:XD T G U Z n X sc){x:Str}(h:knd sc x=2):Gl X x:=by
 have h':sc.lookup x=some .globalImplicit:=by
  unfold knd at h;split at h <;> simp_all
 show X.env.scope.names.lookup x=some .globalImplicit;rcases D.sc x with e | ⟨e,_⟩
 ·rw[e];exact h'
 ·rw[h']at e;cases e
end
theorem jaS {N:List Str}{x:Str}{i:Nat}(h:jd2 N x=some i):N[i]?=some x:=by
 unfold jd2 at h;obtain⟨hi,h1,_⟩:=List.findIdx?_eq_some_iff_getElem.mp h;rw[ju5 hi];simpa using h1
theorem jaI {α β:Type}{f:α->Option β}{a:α}{as:List α}{bs:List β}(h:mapO f (a::as)=some bs):∃b bs',f a=some b/\mapO f as=some bs'/\bs=b::bs':=by
 simp only[mapO]at h;split at h
 ·rename_i b bs' h1 h2;cases h;exact⟨b,bs',h1,h2,rfl⟩
 ·cases h
theorem jai {e:Expr}{es:List Expr}{env:Env}(h:∀a p,e≠.Starred a p):starEach (e::es) env=(false,eval e env)::starEach es env:=by
 cases e <;> first | rfl | exact absurd rfl (h _ _)
theorem jeP {pos:Pos}:∀{l:List (Bool×Sem Value)},l.any (·.1)=false->(backTo pos l).any (·.1)=false:=by
 intro l h;unfold backTo;rw[List.any_map];exact h
theorem jdx {env:Env}:∀{es:List Expr},(∀e∈es,∀a p,e≠.Starred a p)->(starEach es env).any (·.1)=false
 |[],_=>rfl
 |e::es,h=>by
  rw[jai (h e ju7),List.any_cons];exact jdx fun x hx=>h x (ju6 _ hx)
theorem jfI {x:Str}(h:jeO x=false):(x == ("__debug__":Str))=false/\x≠"__name__":=by
 unfold jeO at h;simp only[Bool.or_eq_false_iff]at h;refine⟨h.1.1,fun z=>?_⟩;subst z;exact absurd h.2 (by decide)
theorem jps {x:Str}(h:jeO x=false):(x == ("__classdict__":Str))=false:=by
 unfold jeO at h;simp only[Bool.or_eq_false_iff]at h;exact h.1.2
section
variable {Z:Kn}{X:Cx}{B:Bs}{σ:L2.St}{ρ ρ1:Rho}{F F1:Addr->Prop}{H H1:Hp}
theorem tT.toE {f:Rho->R (Bool×Rho)}{Q:Bool->Hp->Prop}(h:tT Z X B f σ H Q):tE Z X B (fun ρ=>(f ρ).bind fun b=>.ok (.dat (.bl b.1),b.2)) σ H (fun x H'=>∃k,x=.bl k/\Q k H'):=by
 obtain⟨F,ρ,r,h⟩:=h;refine⟨F,ρ,r,?_⟩;show Ok _ ((f ρ).bind _) _;cases e:f ρ with
 |ok b=>
  rw[e]at h;intro v F' H' g r' q;have q:Rep Z F' H' (.bl b.1) v:=q;simp only[Rep]at q;exact⟨b.1,q,h F' H' g r'⟩
 |err c=>rw[e]at h;exact h
 |stk=>rw[e]at h;exact h
theorem jrH {K:Frag}(hK:K=Z.K){d:D}{v:V}{b:Bool}(h:RepB Z F H d v)(ht:jbT d=.ok b):jte K v H b:=by
 cases d with
 |non=>cases h.non;cases ht;rfl
 |bl c=>cases h.bl;cases ht;rfl
 |int i=>cases h.int;cases ht;rfl
 |str s=>cases ht
 |tup ds=>
  obtain⟨a,vs,rfl,ft,r⟩:=h.tup;cases ht;refine .inr (.inl ⟨vs,(by rw[hK];exact ft.sq),?_⟩)
  have:=r.length;cases vs <;> cases ds <;> simp_all
 |lst ds=>
  obtain⟨a,vs,rfl,ft,r⟩:=h.lst;cases ht;refine .inl ⟨vs,(by rw[hK];exact ft),?_⟩
  have:=r.length;cases vs <;> cases ds <;> simp_all
 |dct _ _=>cases ht
 |exc c=>cases ht
theorem jkx {d:D}{c:Nat}:jbT d≠.err c:=by cases d <;> (intro z;cases z)
noncomputable def trF (f:Rho->R (Vl×Rho))(ρ:Rho):R (Bool×Rho):=(f ρ).bind fun p=>(deref p.1 p.2).bind fun d=>(jbT d).bind fun b=>.ok (b,p.2)
theorem jtr (hK:X.K=Z.K){e:Expr}{f:Rho->R (Vl×Rho)}(h:PE X e (tE Z X B f))(he:∀whole,isTrue e X.env whole=(do let v <-whole;standAt e.pos;holding [v] (truthy v))):PT X e (tT Z X B (trF f)):=by
 refine PT.imp (jl0 h he) fun σ H Q q=>?_;obtain⟨F,ρ,r,q⟩:=q;refine⟨F,ρ,r,q.bind.imp (fun _ w=>w) fun p h1 v F' H' g r' rp=>?_⟩;obtain⟨d,hd,h2⟩:=h1.bind.pure fun c=>jaP;obtain⟨b,hb,h3⟩:=h2.bind.pure fun c=>jkx;exact⟨b,jrH hK (ja9 rp r' hd) hb,h3 F' H' g r'⟩
theorem jrI {e:Expr}:PT X e (tT Z X B fun _=>.stk):=fun _ _ _ _ _ _ h=>by
 obtain⟨_,_,_,h⟩:=h;exact False.elim h
theorem jpt {fa fb:Rho->R (Vl×Rho)}{Q:VK}(h:tE Z X B (fun ρ=>(fa ρ).bind fun p=>(jc1 p.1).bind fun t=>if t then (fb p.2).bind fun q=>(jc1 q.1).bind fun u=>.ok (.dat (.bl u),q.2)else .ok (.dat (.bl false),p.2)) σ H Q):jq1 (tE Z X B fa) (tE Z X B fb) σ H Q:=by
 obtain⟨F,ρ,r,h⟩:=h;refine⟨F,ρ,r,h.bind.imp (fun _ w=>w) fun p h1 v F1 H1 g1 r1 q1=>?_⟩;obtain⟨w,ρ1⟩:=p;cases w with
 |dat d=>
  cases d with
  |bl b=>
   have q1:Rep Z F1 H1 (.bl b) v:=q1;simp only[Rep]at q1;subst q1;refine⟨b,rfl,?_⟩;cases b with
   |true=>
    rw[if_pos rfl];refine⟨F1,ρ1,r1,(show Ok (XW Z X σ ρ H) ((fb ρ1).bind _) _ from h1).bind.imp (fun c w=>w.mono g1) fun q h2 u F2 H2 g2 r2 q2=>?_⟩;obtain⟨w2,ρ2⟩:=q;cases w2 with
    |dat d2=>
     cases d2 with
     |bl c=>exact h2 u F2 H2 (g1.trans g2) r2 q2
     |_=>exact False.elim h2
    |_=>exact False.elim h2
   |false=>
    rw[if_neg (by decide)]
    exact h1 _ F1 H1 g1 r1 (show Rep Z F1 H1 (.bl false) _ by simp only[Rep])
  |_=>exact False.elim h1
 |_=>exact False.elim h1
theorem jrJ {fa fb:Rho->R (Vl×Rho)}{Q:VK}(h:tE Z X B (fun ρ=>(fa ρ).bind fun p=>(jc1 p.1).bind fun t=>if t then .ok (.dat (.bl true),p.2)else (fb p.2).bind fun q=>(jc1 q.1).bind fun u=>.ok (.dat (.bl u),q.2)) σ H Q):jt7 (tE Z X B fa) (tE Z X B fb) σ H Q:=by
 obtain⟨F,ρ,r,h⟩:=h;refine⟨F,ρ,r,h.bind.imp (fun _ w=>w) fun p h1 v F1 H1 g1 r1 q1=>?_⟩;obtain⟨w,ρ1⟩:=p;cases w with
 |dat d=>
  cases d with
  |bl b=>
   have q1:Rep Z F1 H1 (.bl b) v:=q1;simp only[Rep]at q1;subst q1;refine⟨b,rfl,?_⟩;cases b with
   |false=>
    rw[if_neg (by decide)]
    refine⟨F1,ρ1,r1,(show Ok (XW Z X σ ρ H) ((fb ρ1).bind _) _ from h1).bind.imp (fun c w=>w.mono g1) fun q h2 u F2 H2 g2 r2 q2=>?_⟩;obtain⟨w2,ρ2⟩:=q;cases w2 with
    |dat d2=>
     cases d2 with
     |bl c=>exact h2 u F2 H2 (g1.trans g2) r2 q2
     |_=>exact False.elim h2
    |_=>exact False.elim h2
   |true=>
    rw[if_pos rfl];exact h1 _ F1 H1 g1 r1 (show Rep Z F1 H1 (.bl true) _ by simp only[Rep])
  |_=>exact False.elim h1
 |_=>exact False.elim h1
theorem jpu {fa:Rho->R (Vl×Rho)}{Q:VK}(h:tE Z X B (fun ρ=>(fa ρ).bind fun p=>(jc1 p.1).bind fun t=>.ok (.dat (.bl (!t)),p.2)) σ H Q):jq2 (tE Z X B fa) σ H Q:=by
 obtain⟨F,ρ,r,h⟩:=h;refine⟨F,ρ,r,h.bind.imp (fun _ w=>w) fun p h1 v F1 H1 g1 r1 q1=>?_⟩;obtain⟨w,ρ1⟩:=p;cases w with
 |dat d=>
  cases d with
  |bl b=>
   have q1:Rep Z F1 H1 (.bl b) v:=q1;simp only[Rep]at q1;subst q1;exact⟨b,rfl,h1 _ F1 H1 g1 r1 (show Rep Z F1 H1 (.bl (!b)) _ by simp only[Rep])⟩
  |_=>exact False.elim h1
 |_=>exact False.elim h1
theorem jmI {fa fb:Rho->R (Bool×Rho)}{Q:Bool->Hp->Prop}(h:tT Z X B (fun ρ=>(fa ρ).bind fun p=>if p.1 then fb p.2 else .ok (false,p.2)) σ H Q):jt5 (tT Z X B fa) (tT Z X B fb) σ H Q:=by
 obtain⟨F,ρ,r,h⟩:=h;refine⟨F,ρ,r,h.bind.imp (fun _ w=>w) fun p h1 F1 H1 g1 r1=>?_⟩;obtain⟨b,ρ1⟩:=p;cases b with
 |true=>rw[if_pos rfl]at h1 ⊢;exact⟨F1,ρ1,r1,h1.imp (fun c w=>w.mono g1) fun y h2 F2 H2 g2 r2=>h2 F2 H2 (g1.trans g2) r2⟩
 |false=>rw[if_neg jvR]at h1 ⊢;exact h1 F1 H1 g1 r1
theorem jpv {fa fb:Rho->R (Bool×Rho)}{Q:Bool->Hp->Prop}(h:tT Z X B (fun ρ=>(fa ρ).bind fun p=>if p.1 then .ok (true,p.2)else fb p.2) σ H Q):tOr (tT Z X B fa) (tT Z X B fb) σ H Q:=by
 obtain⟨F,ρ,r,h⟩:=h;refine⟨F,ρ,r,h.bind.imp (fun _ w=>w) fun p h1 F1 H1 g1 r1=>?_⟩;obtain⟨b,ρ1⟩:=p;cases b with
 |false=>rw[if_neg jvR]at h1 ⊢;exact⟨F1,ρ1,r1,h1.imp (fun c w=>w.mono g1) fun y h2 F2 H2 g2 r2=>h2 F2 H2 (g1.trans g2) r2⟩
 |true=>rw[if_pos rfl]at h1 ⊢;exact h1 F1 H1 g1 r1
theorem jmJ {fa:Rho->R (Bool×Rho)}{Q:Bool->Hp->Prop}(h:tT Z X B (fun ρ=>(fa ρ).bind fun p=>.ok (!p.1,p.2)) σ H Q):jt6 (tT Z X B fa) σ H Q:=by
 obtain⟨F,ρ,r,h⟩:=h;exact⟨F,ρ,r,h.bind.imp (fun _ w=>w) fun b h1 F1 H1 g1 r1=>h1 F1 H1 g1 r1⟩
theorem jrK {fc:Rho->R (Bool×Rho)}{fa fb:Rho->R (Vl×Rho)}{Q:VK}(h:tE Z X B (fun ρ=>(fc ρ).bind fun t=>if t.1 then fa t.2 else fb t.2) σ H Q):tIf (tT Z X B fc) (tE Z X B fa) (tE Z X B fb) σ H Q:=by
 obtain⟨F,ρ,r,h⟩:=h;refine⟨F,ρ,r,h.bind.imp (fun _ w=>w) fun p h1 F1 H1 g1 r1=>?_⟩;obtain⟨b,ρ1⟩:=p;cases b with
 |true=>rw[if_pos rfl]at h1 ⊢;exact⟨F1,ρ1,r1,h1.imp (fun c w=>w.mono g1) fun y h2=>Post.ext h2 g1⟩
 |false=>rw[if_neg jvR]at h1 ⊢;exact⟨F1,ρ1,r1,h1.imp (fun c w=>w.mono g1) fun y h2=>Post.ext h2 g1⟩
end
noncomputable def jfJ (f:E->E->E):List E->Option E
 |[]=>none
 |[e]=>some e
 |e::es=>(jfJ f es).map (f e)
section
variable {G:Calls}{U:Nat->Nat->Bool}{Z:Kn}{X:Cx}{B:Bs}
theorem jky {vs:List Expr}{es:List E}{E':E}{pos:Pos}(h:Paired (fun e E'=>PE X e (tE Z X B (evE G U E'))/\PT X e (tT Z X B (evT G U E'))) vs es)(hf:jfJ .and es=some E') :
  PE X (.BoolOp .And vs pos) (tE Z X B (evE G U E'))/\PW X (.BoolOp .And vs pos) (tT Z X B (evT G U E')):=by
 induction h generalizing E' with
 |nil=>cases hf
 |@cons e E1 vs es h1 hr ih=>
  cases hr with
  |nil=>cases hf;exact⟨jnT h1.1,joJ h1.2⟩
  |@cons e2 E2 vs es h2 hr=>
   simp only[jfJ]at hf;cases q:jfJ .and (E2::es)with
   |none=>rw[q]at hf;cases hf
   |some E3=>
    have hf':E'=.and E1 E3:=by
     rw[q]at hf;exact(Option.some.inj hf).symm
    subst hf';obtain⟨i1,i2⟩:=ih q;refine⟨PE.imp (jq3 h1.1 i1) fun σ H Q z=>jpt (by simpa only[evE] using z),fun whole pins s σ H Q I z=>jqZ h1.2 i2 whole pins s σ H Q I (jmI (by simpa only[evT] using z))⟩
theorem jn9 {vs:List Expr}{es:List E}{E':E}{pos:Pos}(h:Paired (fun e E'=>PE X e (tE Z X B (evE G U E'))/\PT X e (tT Z X B (evT G U E'))) vs es)(hf:jfJ .or es=some E') :
  PE X (.BoolOp .Or vs pos) (tE Z X B (evE G U E'))/\PW X (.BoolOp .Or vs pos) (tT Z X B (evT G U E')):=by
 induction h generalizing E' with
 |nil=>cases hf
 |@cons e E1 vs es h1 hr ih=>
  cases hr with
  |nil=>cases hf;exact⟨jnT h1.1,jqY h1.2⟩
  |@cons e2 E2 vs es h2 hr=>
   simp only[jfJ]at hf;cases q:jfJ .or (E2::es)with
   |none=>rw[q]at hf;cases hf
   |some E3=>
    have hf':E'=.or E1 E3:=by
     rw[q]at hf;exact(Option.some.inj hf).symm
    subst hf';obtain⟨i1,i2⟩:=ih q;refine⟨PE.imp (js0 h1.1 i1) fun σ H Q z=>jrJ (by simpa only[evE] using z),fun whole pins s σ H Q I z=>jsZ h1.2 i2 whole pins s σ H Q I (jpv (by simpa only[evT] using z))⟩
end
end DJ
namespace DJ
open PySem PySem.Spec PyProof.Rows L2
section
variable {Z:Kn}{X:Cx}{B:Bs}{σ:L2.St}{ρ ρ0 ρ1 ρ2:Rho}{F F0 F1 F2:Addr->Prop}{H H0 H1 H2:Hp}{w:Vl}{v:V}
noncomputable def RW (Z:Kn)(F':Addr->Prop)(H0 H':Hp)(σ:L2.St)(ρ':Rho):Vl->V->Prop
 |.dat d,v=>Rep Z F' H' d v
 |.tmp o,v=>∃l,v=.ref l/\¬Ow σ ρ' l/\H0 l=none/\HasO Z F' H' l o
 |.slot i,v=>σ[i]?=some (some v)
theorem RV.weak (h:RV Z F H0 H σ ρ w v):RW Z F H0 H σ ρ w v:=by
 cases w with
 |dat d=>exact h
 |tmp o=>obtain⟨l,a,_,b,c,d⟩:=h;exact⟨l,a,b,c,d⟩
 |slot i=>exact h
theorem RW.go (h:RW Z F1 H0 H1 σ ρ1 w v)(r:SR Z B F1 H1 σ ρ1)(g:Go σ ρ1 F1 H1 σ ρ2 F2 H2):RW Z F2 H0 H2 σ ρ2 w v:=by
 cases w with
 |dat d=>exact Rep.mono (g.keep r) h
 |tmp o=>
  obtain⟨l,e,h2,h3,h4⟩:=h;obtain⟨u,hu⟩:=h4.some;refine⟨l,e,fun z=>?_,h3,h4.mono (g.keep r) ((g.stay l u hu fun m=>h2 m.ow).trans hu.symm)⟩;rcases g.owA z with q | q
  ·exact h2 q
  ·rw[hu]at q;cases q
 |slot i=>exact h
theorem RW.keep (h:RW Z F1 H0 H1 σ ρ1 w v)(k:Keep F1 F2 H1 H1)(hO:∀b,Ow σ ρ2 b->Ow σ ρ1 b):RW Z F2 H0 H1 σ ρ2 w v:=by
 cases w with
 |dat d=>exact Rep.mono k h
 |tmp o=>obtain⟨l,e,h2,h3,h4⟩:=h;exact⟨l,e,fun z=>h2 (hO l z),h3,h4.mono k rfl⟩
 |slot i=>exact h
theorem RW.base (h:RW Z F1 H0 H1 σ ρ1 w v)(k:∀l,H0 l=none->H l=none):RW Z F1 H H1 σ ρ1 w v:=by
 cases w with
 |dat d=>exact h
 |tmp o=>obtain⟨l,e,h2,h3,h4⟩:=h;exact⟨l,e,h2,k l h3,h4⟩
 |slot i=>exact h
noncomputable def Sub (ρ' ρ:Rho):Prop:=∀(i:Nat) o f k,ρ'[i]?=some (.own o f k)->ρ[i]?=some (.own o f k)
theorem Sub.set {i:Nat}{s:Sl}(hs:∀o f k,s≠.own o f k):Sub (ρ.set i s) ρ:=fun j o f k h=>by
 rw[jva]at h;by_cases e:i=j
 ·rw[if_pos e]at h;split at h
  ·cases h;exact absurd rfl (hs _ _ _)
  ·cases h
 ·rw[if_neg e]at h;exact h
theorem Sub.trans (a:Sub ρ2 ρ1)(b:Sub ρ1 ρ):Sub ρ2 ρ:=fun i o f k h=>b i o f k (a i o f k h)
theorem Sub.ow (a:Sub ρ1 ρ){b:Addr}(h:Ow σ ρ1 b):Ow σ ρ b:=let ⟨i,o,f,k,h1,h2⟩:=h;⟨i,o,f,k,a i o f k h1,h2⟩
theorem jpw {ρ':Rho}{d:D}(h:RW Z F1 H H1 σ ρ' w v)(sb:Sub ρ1 ρ')(r:SR Z B F1 H1 σ ρ1)(g:Go σ ρ F H σ ρ1 F1 H1)(hd:toD w ρ1=.ok (d,ρ2)) :
  ∃F2,Go σ ρ F H σ ρ2 F2 H1/\SR Z B F2 H1 σ ρ2/\Rep Z F2 H1 d v/\Keep F1 F2 H1 H1/\Sub ρ2 ρ1/\(∀j:Nat,ρ1[j]?=some .no->ρ2[j]?=some .no)/\(∀a,F2 a->F1 a\/¬Ow σ ρ' a\/∃(j:Nat) (o:O),ρ1[j]?=some (.own o false false)/\σ[j]?=some (some (.ref a))):=by
 cases w with
 |dat d'=>cases hd;exact⟨F1,g,r,h,Keep.refl,fun _ _ _ _ h=>h,fun _ h=>h,fun a h1=>.inl h1⟩
 |tmp o=>
  cases hd;obtain⟨l,rfl,h2,h3,h4⟩:=h;obtain⟨a,b⟩:=r.frzT (fun z=>h2 (sb.ow z)) h4;refine⟨_,g.frzT h3,a,b,fun a q=>⟨.inl q,rfl⟩,fun _ _ _ _ h=>h,fun _ h=>h,fun x h5=>?_⟩;rcases h5 with h5 | h5
  ·exact .inl h5
  ·rw[h5];exact .inr (.inl h2)
 |slot i=>
  have h:σ[i]?=some (some v):=h;simp only[toD]at hd;split at hd
  ·rename_i o e;cases hd;obtain⟨l,e1,_⟩:=r.own i o _ _ e;rw[h]at e1;cases e1;obtain⟨a,b,c⟩:=r.frz e h;refine⟨_,g.trans (Go.frz e h),b,c,a,Sub.set (fun _ _ _ z=>by cases z),fun j hj=>?_,fun x h5=>?_⟩
   ·rw[jva];split
    ·rename_i z;subst z;rw[e]at hj;cases hj
    ·exact hj
   ·rcases h5 with h5 | h5
    ·exact .inl h5
    ·rw[h5];exact .inr (.inr ⟨i,o,e,h⟩)
  ·cases hd
end
inductive tL_I (Z:Kn) (X:Cx) (B:Bs) (f:Rho->R (List D×Rho)) (σ:L2.St) (H:L2.Hp) (Q:(List L2.V->L2.Hp->Prop)):Prop
 |mk (F:_) (ρ:_):(SR Z B F H σ ρ)->(Ok (XW Z X σ ρ H) (f ρ) fun p=>∀vs F' H',Go σ ρ F H σ p.2 F' H'->SR Z B F' H' σ p.2->Reps Z F' H' p.1 vs->Q vs H')->tL_I Z X B f σ H Q
noncomputable def tL (Z:Kn)(X:Cx)(B:Bs)(f:Rho->R (List D×Rho)):TA:=fun σ H Q=>tL_I Z X B f σ H Q
noncomputable def RWs (Z:Kn)(F':Addr->Prop)(H0 H':Hp)(σ:L2.St)(ρ':Rho):List Vl->List V->Prop:=Paired (RW Z F' H0 H' σ ρ')
inductive tAs_I (Z:Kn) (X:Cx) (B:Bs) (f:Rho->R (List Vl×Rho)) (σ:L2.St) (H:L2.Hp) (Q:(List L2.V->L2.Hp->Prop)):Prop
 |mk (F:_) (ρ:_):(SR Z B F H σ ρ)->(Ok (XW Z X σ ρ H) (f ρ) fun p=>∀vs F' H',Go σ ρ F H σ p.2 F' H'->SR Z B F' H' σ p.2->RWs Z F' H H' σ p.2 p.1 vs->Q vs H')->tAs_I Z X B f σ H Q
noncomputable def tAs (Z:Kn)(X:Cx)(B:Bs)(f:Rho->R (List Vl×Rho)):TA:=fun σ H Q=>tAs_I Z X B f σ H Q
section
variable {Z:Kn}{X:Cx}{B:Bs}{G:Calls}{U:Nat->Nat->Bool}
theorem jkz {es:List Expr}{Es':List E}(hp:Paired (fun e E'=>PE X e (tE Z X B (evE G U E'))/\∀a p,e≠.Starred a p) es Es'):PA X es (tL Z X B (evEs G U (jhA Es'))):=by
 induction hp with
 |nil=>
  intro pos pins s σ H Q I h;obtain⟨F,ρ,r,h⟩:=h;exact jby pos pins s σ H Q I (h [] F H Go.refl r .nil)
 |cons h1 h2 ih=>
  intro pos pins s σ H Q I h;refine jaK h1.1 ih (jai h1.2) pos pins s σ H Q I ?_;obtain⟨F,ρ,r,h⟩:=h;simp only[jhA,evEs]at h;refine⟨F,ρ,r,h.bind.imp (fun _ w=>w) fun p h1 v F1 H1 g1 r1 q1=>?_⟩;obtain⟨q,hq,h2⟩:=h1.bind.pure fun c=>jc2;obtain⟨F2,g2,r2,rp,_⟩:=jfD q1 r1 g1 hq;refine⟨F2,q.2,r2,h2.bind.imp (fun c w=>w.mono g2) fun s3 h3 vs F3 H3 g3 r3 q3=>?_⟩;exact h3 (v::vs) F3 H3 (g2.trans g3) r3 (.cons (rp.mono (g3.keep r2)) q3)
theorem RWs.base {σ:L2.St}{ρ1:Rho}{F1:Addr->Prop}{H H0 H1:Hp}{ws:List Vl}{vs:List V}(h:RWs Z F1 H0 H1 σ ρ1 ws vs)(k:∀l,H0 l=none->H l=none):RWs Z F1 H H1 σ ρ1 ws vs:=Paired.mapP h fun _ _ x=>x.base k
theorem RWs.keep {σ:L2.St}{ρ1:Rho}{F1 F2:Addr->Prop}{H0 H1:Hp}{ws:List Vl}{vs:List V}(h:RWs Z F1 H0 H1 σ ρ1 ws vs)(k:Keep F1 F2 H1 H1):RWs Z F2 H0 H1 σ ρ1 ws vs:=Paired.mapP h fun _ _ x=>x.keep k fun _ z=>z
theorem jpx {es:List Expr}{Es':List E}(hp:Paired (fun e E'=>PE X e (tE Z X B (evE G U E'))/\∀a p,e≠.Starred a p) es Es'):PA X es (tAs Z X B (evAs G U (jhA Es'))):=by
 induction hp with
 |nil=>
  intro pos pins s σ H Q I h;obtain⟨F,ρ,r,h⟩:=h;exact jby pos pins s σ H Q I (h [] F H Go.refl r .nil)
 |cons h1 h2 ih=>
  intro pos pins s σ H Q I h;refine jaK h1.1 ih (jai h1.2) pos pins s σ H Q I ?_;obtain⟨F,ρ,r,h⟩:=h;simp only[jhA,evAs]at h;refine⟨F,ρ,r,h.bind.imp (fun _ w=>w) fun p h1 v F1 H1 g1 r1 q1=>⟨F1,p.2,r1,h1.bind.imp (fun c w=>w.mono g1) fun s3 h3 vs F3 H3 g3 r3 q3=>?_⟩⟩;exact h3 (v::vs) F3 H3 (g1.trans g3) r3 (.cons (q1.weak.go r1 g3) (q3.base fun l z=>g1.free z))
end
section
variable {Z:Kn}{B:Bs}{σ:L2.St}{ρ ρ0 ρ1 ρ2:Rho}{F F0 F1 F2:Addr->Prop}{H H0:Hp}
inductive PassR (Z:Kn) (F2:Addr->Prop) (H:Hp) (σ:L2.St) (ρ ρ2:Rho):Sl->Option (Nat×Bool×Bool)->V->Prop where
 |dat {d:D}{v:V}:Rep Z F2 H d v->PassR Z F2 H σ ρ ρ2 (.dat d) none v
 |own {o:O}{i:Nat}{f k:Bool}{l:Addr}:σ[i]?=some (some (.ref l))->ρ[i]?=some (.own o f k)->ρ2[i]?=some .no->¬F2 l->HasO Z F2 H l o->PassR Z F2 H σ ρ ρ2 (.own o true k) (some (i,f,k)) (.ref l)
noncomputable def lentIx:List (Option (Nat×Bool×Bool))->List Nat
 |[]=>[]
 |some (i,_,_)::r=>i::lentIx r
 |none::r=>lentIx r
inductive PassRs (Z:Kn) (F2:Addr->Prop) (H:Hp) (σ:L2.St) (ρ ρ2:Rho):List Sl->List (Option (Nat×Bool×Bool))->List V->Prop where
 |nil:PassRs Z F2 H σ ρ ρ2 [] [] []
 |cons {s:Sl}{b:Option (Nat×Bool×Bool)}{v:V}{ss:List Sl}{bs:List (Option (Nat×Bool×Bool))}{vs:List V}:PassR Z F2 H σ ρ ρ2 s b v->PassRs Z F2 H σ ρ ρ2 ss bs vs->PassRs Z F2 H σ ρ ρ2 (s::ss) (b::bs) (v::vs)
theorem jkA {l:Bool}{w:Vl}{c:Nat}:jiw l w ρ≠.err c:=by
 intro h;unfold jiw at h;split at h
 ·split at h <;> cases h
 ·cases q:toD w ρ with
  |ok p=>rw[q]at h;cases h
  |err c=>exact absurd q jc2
  |stk=>rw[q]at h;cases h
theorem jdO:∀{fl:List Bool}{ws:List Vl}{ρ:Rho}{c:Nat},jaO fl ws ρ≠.err c
 |_,[],_,_=>by simp[jaO]
 |fl,w::ws,ρ,c=>by
  intro h;simp only[jaO]at h;cases q:jiw (fl.headD false) w ρ with
  |ok p=>
   rw[q,R.bind_ok']at h;cases q2:jaO fl.tail ws p.2.2 with
   |ok r=>rw[q2]at h;cases h
   |err c=>exact jdO q2
   |stk=>rw[q2]at h;cases h
  |err c=>exact jkA q
  |stk=>rw[q]at h;cases h
inductive PassO (Z:Kn) (B:Bs) (F0:Addr->Prop) (H0 H:Hp) (σ:L2.St) (ρ ρ0 ρ1 ρ2:Rho) (F1:Addr->Prop) (sls:List Sl) (back:List (Option (Nat×Bool×Bool))) (vs:List V):Prop
 |mk (F2:Addr->Prop):(Go σ ρ0 F0 H0 σ ρ2 F2 H)->(SR Z B F2 H σ ρ2)->(Keep F1 F2 H H)->(Sub ρ2 ρ)->(PassRs Z F2 H σ ρ ρ2 sls back vs)->((lentIx back).Nodup)->((∀i∈lentIx back,∃o f k,ρ1[i]?=some (.own o f k)))->((∀i:Nat,ρ1[i]?=some .no->ρ2[i]?=some .no))->((∀l,(∃(i:Nat) (o:O) (f kk:Bool),ρ[i]?=some (Sl.own o f kk)/\σ[i]?=some (some (V.ref l))/\ρ1[i]?=some Sl.no)->¬F1 l->¬F2 l))->PassO Z B F0 H0 H σ ρ ρ0 ρ1 ρ2 F1 sls back vs
theorem jgw:∀{fl:List Bool}{ws:List Vl}{vs:List V}{ρ1 ρ2:Rho}{F1:Addr->Prop}{sls:List Sl}{back:List (Option (Nat×Bool×Bool))},RWs Z F1 H0 H σ ρ ws vs->SR Z B F1 H σ ρ1->Go σ ρ0 F0 H0 σ ρ1 F1 H->SR Z B F H σ ρ->Keep F F1 H H->Sub ρ1 ρ ->
  jaO fl ws ρ1=.ok (sls,back,ρ2) ->
  PassO Z B F0 H0 H σ ρ ρ0 ρ1 ρ2 F1 sls back vs
 |fl,[],vs,ρ1,ρ2,F1,sls,back,rw',r1,g1,r,kp,sb,h=>by
  cases rw';simp only[jaO]at h;cases h;exact⟨F1,g1,r1,Keep.refl,sb,.nil,List.nodup_nil,fun _ h=>absurd h (by simp[lentIx]),fun _ h=>h,fun _ _ h=>h⟩
 |fl,w::ws,vs,ρ1,ρ2,F1,sls,back,rw',r1,g1,r,kp,sb,h=>by
  cases rw' with
  |@cons _ v _ vs' q1 q2=>
  simp only[jaO]at h;obtain⟨p,hp,h⟩:=R.bind_ok h;obtain⟨q,hq,h⟩:=R.bind_ok h;cases h;unfold jiw at hp;split at hp
  ·
   rename_i i hfl;split at hp
   ·rename_i o f k e;cases hp;have q1:σ[i]?=some (some v):=q1;obtain⟨l,e1,e2,e3,e4⟩:=r1.own i o f k e;rw[q1]at e1;cases e1;have hi:i < ρ1.length:=(List.getElem?_eq_some_iff.mp e).1;have le:Le (ρ1.set i .no) ρ1:=Le.no;have rA:SR Z B F1 H σ (ρ1.set i .no):=r1.weak le;have gA:Go σ ρ0 F0 H0 σ (ρ1.set i .no) F1 H:=g1.trans (Go.weak le);have sbA:Sub (ρ1.set i .no) ρ1:=Sub.set (fun _ _ _ z=>by cases z)
    obtain⟨F2,g2,r2,k2,s2,p2,n2,i2,no2,f2⟩:=jgw q2 rA gA r kp (sbA.trans sb) hq;have ei:=sb i o f k e;have noI:(ρ1.set i .no)[i]?=some .no:=List.getElem?_set_self hi;refine⟨F2,g2,r2,k2,s2,.cons (.own q1 ei (no2 i noI) (f2 l ⟨i,o,f,k,ei,q1,noI⟩ e2) (e3.mono k2 rfl)) p2,?_,?_,?_,?_⟩
    ·simp only[lentIx];refine List.nodup_cons.mpr ⟨fun z=>?_,n2⟩;obtain⟨o',f',k',e'⟩:=i2 i z;rw[noI]at e';cases e'
    ·intro j hj;simp only[lentIx]at hj;rcases List.mem_cons.mp hj with rfl | hj
     ·exact⟨o,f,k,e⟩
     ·obtain⟨o',f',k',e'⟩:=i2 j hj;exact⟨o',f',k',sbA j o' f' k' e'⟩
    ·intro j hj;refine no2 j ?_;rw[jva];split
     ·rename_i z;subst z;exact absurd (e.symm.trans hj) (by simp)
     ·exact hj
    ·rintro l' ⟨j,o',f',kk',a1,a2,a3⟩ hn;refine f2 l' ⟨j,o',f',kk',a1,a2,?_⟩ hn;rw[jva];split
     ·rename_i z;subst z;exact absurd (e.symm.trans a3) (by simp)
     ·exact a3
   ·cases hp
  ·
   obtain⟨t,ht,hp⟩:=R.bind_ok hp;cases hp;obtain⟨FA,gA,rA,rp,kA,sA,noA,nA⟩:=jpw q1 sb r1 g1 ht;have q2A:RWs Z FA H0 H σ ρ ws vs':=RWs.keep q2 kA;have fA:∀l,(∃(i:Nat) (o:O) (f kk:Bool),ρ[i]?=some (Sl.own o f kk)/\σ[i]?=some (some (V.ref l))/\ρ1[i]?=some Sl.no)->¬F1 l->¬FA l:=fun l hx hn z=>by
    obtain⟨i,o,f,kk,a1,a2,a3⟩:=hx;rcases nA l z with z | z | ⟨j,oj,z1,z2⟩
    ·exact hn z
    ·exact z ⟨i,o,f,kk,a1,a2⟩
    ·refine r.one i j _ _ _ _ _ _ l (fun e=>?_) a1 (sb j oj _ _ z1) a2 z2;subst e;rw[a3]at z1;cases z1
   obtain⟨F2,g2,r2,k2,s2,p2,n2,i2,no2,f2⟩:=jgw q2A rA gA r (kp.trans kA) (sA.trans sb) hq;refine⟨F2,g2,r2,kA.trans k2,s2,.cons (.dat (rp.mono k2)) p2,?_,?_,fun j hj=>no2 j (noA j hj),?_⟩
   ·simp only[lentIx];exact n2
   ·intro j hj;simp only[lentIx]at hj;obtain⟨o',f',k',e'⟩:=i2 j hj;exact⟨o',f',k',sA j o' f' k' e'⟩
   ·rintro l ⟨i,o,f,kk,a1,a2,a3⟩ hn;exact f2 l ⟨i,o,f,kk,a1,a2,noA i a3⟩ (fA l ⟨i,o,f,kk,a1,a2,a3⟩ hn)
theorem PassRs.len {sls:List Sl}{back:List (Option (Nat×Bool×Bool))}{vs:List V}(h:PassRs Z F2 H σ ρ ρ2 sls back vs):sls.length=vs.length/\back.length=vs.length:=by
 induction h with
 |nil=>exact⟨rfl,rfl⟩
 |cons _ _ ih=>simp[ih.1,ih.2]
theorem PassRs.get {sls:List Sl}{back:List (Option (Nat×Bool×Bool))}{vs:List V}(h:PassRs Z F2 H σ ρ ρ2 sls back vs):∀{k:Nat}{s:Sl},sls[k]?=some s->∃b v,back[k]?=some b/\vs[k]?=some v/\PassR Z F2 H σ ρ ρ2 s b v:=by
 induction h with
 |nil=>intro k s e;simp at e
 |@cons s0 b0 v0 ss bs vs h1 _ ih=>
  intro k s e;cases k with
  |zero=>simp at e;subst e;exact⟨b0,v0,rfl,rfl,h1⟩
  |succ k=>simp at e;simpa using ih e
theorem jcc:∀{back:List (Option (Nat×Bool×Bool))}{k i:Nat}{f g:Bool},back[k]?=some (some (i,f,g))->i∈lentIx back
 |[],k,i,f,g,h=>by simp at h
 |none::r,0,i,f,g,h=>by simp at h
 |none::r,k + 1,i,f,g,h=>by simp at h;simp only[lentIx];exact jcc h
 |some (j,a,b)::r,0,i,f,g,h=>by
  simp at h;simp[lentIx,h.1]
 |some (j,a,b)::r,k + 1,i,f,g,h=>by simp at h;simp only[lentIx];exact ju6 _ (jcc h)
theorem jiC {back:List (Option (Nat×Bool×Bool))}{k k' i:Nat}{f g f' g':Bool}(n:(lentIx back).Nodup)(h:back[k]?=some (some (i,f,g)))(h':back[k']?=some (some (i,f',g'))):k=k':=by
 induction back generalizing k k' with
 |nil=>cases h
 |cons x r ih=>
  cases x with
  |none=>
   cases k with
   |zero=>cases h
   |succ k=>
    cases k' with
    |zero=>cases h'
    |succ k'=>rw[ih n h h']
  |some x=>
   have n:=List.nodup_cons.mp n;cases k with
   |zero=>
    cases k' with
    |zero=>rfl
    |succ k'=>cases h;exact absurd (jcc (back:=r) h') n.1
   |succ k=>
    cases k' with
    |zero=>cases h';exact absurd (jcc (back:=r) h) n.1
    |succ k'=>rw[ih n.2 h h']
theorem jdP:∀{back:List (Option (Nat×Bool×Bool))}{fin:List Sl}{ρ:Rho},(jbr back fin ρ).length=ρ.length
 |[],fin,ρ=>by simp[jbr]
 |_::_,[],ρ=>by simp[jbr]
 |none::r,s::fs,ρ=>by simp only[jbr];exact jdP
 |some (i,f,k)::r,s::fs,ρ=>by
  simp only[jbr];rw[jdP];split <;> simp
theorem jb0:∀{back:List (Option (Nat×Bool×Bool))}{fin:List Sl}{ρ:Rho}{i:Nat}{s:Sl},(jbr back fin ρ)[i]?=some s->ρ[i]?=some s\/∃(k:Nat) (o:O) (f k' f0 k0:Bool),back[k]?=some (some (i,f0,k0))/\fin[k]?=some (.own o f k')/\s=.own o f0 k0
 |[],fin,ρ,i,s,h=>by simp[jbr]at h;exact .inl h
 |_::_,[],ρ,i,s,h=>by simp[jbr]at h;exact .inl h
 |none::r,s0::fs,ρ,i,s,h=>by
  simp only[jbr]at h;rcases jb0 h with h | ⟨k,o,f,k',f0,k0,h1,h2,h3⟩
  ·exact .inl h
  ·exact .inr ⟨k + 1,o,f,k',f0,k0,by simpa using h1,by simpa using h2,h3⟩
 |some (j,f,g)::r,s0::fs,ρ,i,s,h=>by
  simp only[jbr]at h;rcases jb0 h with hx | ⟨k,o,f,k',f0,k0,h1,h2,h3⟩
  ·clear h;cases s0 with
   |own o f1 k1=>
    simp only at hx;rw[jva]at hx;split at hx
    ·rename_i e;subst e;split at hx
     ·cases hx;exact .inr ⟨0,o,f1,k1,f,g,rfl,rfl,rfl⟩
     ·cases hx
    ·exact .inl hx
   |no=>exact .inl hx
   |dat d=>exact .inl hx
  ·exact .inr ⟨k + 1,o,f,k',f0,k0,by simpa using h1,by simpa using h2,h3⟩
noncomputable def jdQ (H:Hp)(sls:List Sl)(vs:List V):Bs:=⟨H,fun k=>match sls[k]?,vs[k]? with
 |some (.own _ _ _),some (.ref l)=>some l
 |_,_=>none⟩
theorem jgx {sls:List Sl}{vs:List V}(k:Nat)(l:Addr)(h:(jdQ H sls vs).lent k=some l):(vs.map some)[k]?=some (some (.ref l)):=by
 unfold jdQ at h;simp only at h;split at h
 ·rename_i h1 h2;cases h;rw[jvb,h2];rfl
 ·cases h
theorem PassRs.own {sls:List Sl}{back:List (Option (Nat×Bool×Bool))}{vs:List V}(h:PassRs Z F2 H σ ρ ρ2 sls back vs){k:Nat}{o:O}{f g:Bool}(e:sls[k]?=some (.own o f g)) :
  ∃(i:Nat) (f0:Bool) (l:Addr),back[k]?=some (some (i,f0,g))/\vs[k]?=some (.ref l)/\f=true/\σ[i]?=some (some (.ref l))/\ρ[i]?=some (.own o f0 g)/\ρ2[i]?=some .no/\¬F2 l/\HasO Z F2 H l o:=by
 obtain⟨b,v,h1,h2,h3⟩:=h.get e;cases h3 with
 |own a1 a2 a3 a4 a5=>exact⟨_,_,_,h1,h2,rfl,a1,a2,a3,a4,a5⟩
theorem PassRs.backOf {sls:List Sl}{back:List (Option (Nat×Bool×Bool))}{vs:List V}(h:PassRs Z F2 H σ ρ ρ2 sls back vs){k i:Nat}{f0 k0:Bool}(e:back[k]?=some (some (i,f0,k0))) :
  ∃(o:O) (l:Addr),sls[k]?=some (.own o true k0)/\vs[k]?=some (.ref l)/\σ[i]?=some (some (.ref l))/\ρ[i]?=some (.own o f0 k0)/\ρ2[i]?=some .no:=by
 have hl:k < sls.length:=by
  rw[h.len.1,<-h.len.2];exact(List.getElem?_eq_some_iff.mp e).1
 obtain⟨b,v,h1,h2,h3⟩:=h.get (ju5 hl);rw[e]at h1;cases h1;have es:=ju5 hl;generalize sls[k]=s at h3 es;cases h3 with
 |own a1 a2 a3 a4 a5=>exact⟨_,_,es,h2,a1,a2,a3⟩
theorem jpy {sls:List Sl}{back:List (Option (Nat×Bool×Bool))}{vs:List V}(r:SR Z B F H σ ρ)(r2:SR Z B F2 H σ ρ2)(h:PassRs Z F2 H σ ρ ρ2 sls back vs)(hn:(lentIx back).Nodup):SR Z (jdQ H sls vs) F2 H (vs.map some) sls where
 dom:=r2.dom
 len:=by simp[h.len.1]
 dat i d e:=by
  obtain⟨b,v,h1,h2,h3⟩:=h.get e;cases h3 with
  |dat q=>exact⟨v,by rw[jvb,h2];rfl,q⟩
 own i o f k e:=by
  obtain⟨j,f0,l,h1,h2,h3,h4,h5,h6,h7,h8⟩:=h.own e;refine⟨l,by rw[jvb,h2];rfl,h7,h8,fun _=>?_,fun z=>?_⟩
  ·simp only[jdQ,e,h2]
  ·rw[h3]at z;cases z
 one i j o o' f k f' k' l ne e e' q q':=by
  obtain⟨a,f0,l1,h1,h2,h3,h4,h5,h6,h7,h8⟩:=h.own e;obtain⟨a',f0',l1',h1',h2',h3',h4',h5',h6',h7',h8'⟩:=h.own e';rw[jvb,h2]at q;rw[jvb,h2']at q';cases q;cases q';refine r.one a a' _ _ _ _ _ _ l (fun z=>ne ?_) h5 h5' h4 h4';subst z;exact jiC hn h1 h1'
 base b z:=z
theorem jmK {sls:List Sl}{back:List (Option (Nat×Bool×Bool))}{vs:List V}{H':Hp}(h:PassRs Z F2 H σ ρ ρ2 sls back vs)(st:Stl (vs.map some) sls H H'):Stl σ ρ H H':=
 ⟨fun b o e n=>st.stay b o e fun ⟨k,o',f,e1,e2⟩=>n (by
  obtain⟨i,f0,l,h1,h2,h3,h4,h5,_⟩:=h.own e1;rw[jvb,h2]at e2;cases e2;exact⟨i,o',f0,h5,h4⟩),st.there⟩
theorem jpz {sls fin:List Sl}{back:List (Option (Nat×Bool×Bool))}{vs:List V}{F':Addr->Prop}{H':Hp}(g:Go σ ρ0 F0 H0 σ ρ F H)(r:SR Z B F H σ ρ)(gp:Go σ ρ0 F0 H0 σ ρ2 F2 H)(r2:SR Z B F2 H σ ρ2)(sb:Sub ρ2 ρ)(h:PassRs Z F2 H σ ρ ρ2 sls back vs)
  (gc:Go (vs.map some) sls F2 H (vs.map some) fin F' H') (rc:SR Z (jdQ H sls vs) F' H' (vs.map some) fin) (rs:SR Z (jdQ H sls vs) F2 H (vs.map some) sls) :
  Go σ ρ0 F0 H0 σ (jbr back fin ρ2) F' H'/\SR Z B F' H' σ (jbr back fin ρ2)/\∀w v,(∀i,w≠.slot i)->RV Z F' H H' (vs.map some) fin w v->RV Z F' H0 H' σ (jbr back fin ρ2) w v:=by
 have own3:∀(i:Nat) (o:O) (f k:Bool),(jbr back fin ρ2)[i]?=some (.own o f k)->∃o0,ρ[i]?=some (.own o0 f k):=fun i o f k e=>by
  rcases jb0 e with e | ⟨m,o1,f1,k1,f0,k0,h1,h2,h3⟩
  ·exact⟨o,sb i o f k e⟩
  ·cases h3;obtain⟨o2,l,_,_,_,h7,_⟩:=h.backOf h1;exact⟨o2,h7⟩
 have mbC:∀b,Mb (vs.map some) sls b->Mb σ ρ b:=fun b ⟨k,o,f,e1,e2⟩=>by
  obtain⟨i,f0,l,h1,h2,h3,h4,h5,_⟩:=h.own e1;rw[jvb,h2]at e2;cases e2;exact⟨i,o,f0,h5,h4⟩
 have owC:∀b,Ow (vs.map some) sls b->∃(i:Nat) (o:O) (f k:Bool),ρ[i]?=some (.own o f k)/\σ[i]?=some (some (.ref b))/\ρ2[i]?=some .no:=fun b ⟨k,o,f,k',e1,e2⟩=>by
  obtain⟨i,f0,l,h1,h2,h3,h4,h5,h6,_⟩:=h.own e1;rw[jvb,h2]at e2;cases e2;exact⟨i,o,f0,k',h5,h4,h6⟩
 have kp:=gc.keep rs;refine⟨⟨fun b o e n=>?_,fun a q=>gc.sub a (gp.sub a q),fun a q=>?_,fun j o f k b e1 e2=>?_,fun b o e=>?_⟩,⟨rc.dom,?_,fun i d e=>?_,fun i o f k e=>?_,fun i j o o' f k f' k' l ne e e' q=>?_,fun b z=>?_⟩,fun w v hw q=>?_⟩
 ·refine gc.stay b o (g.stay b o e n) fun z=>?_;rcases g.mb (mbC b z)with q | q
  ·exact n q
  ·rw[e]at q;cases q
 ·rcases gc.new a q with q | q | q
  ·exact gp.new a q
  ·exact .inr (.inl (g.free q))
  ·rcases g.mb (mbC a q)with q | q
   ·exact .inr (.inr q)
   ·exact .inr (.inl q)
 ·obtain⟨o0,e0⟩:=own3 j o f k e1;exact g.ow j o0 f k b e0 e2
 ·obtain⟨o1,e1⟩:=g.there b o e;exact gc.there b o1 e1
 ·rw[jdP];exact r2.len
 ·rcases jb0 e with e | ⟨m,o1,f1,k1,f0,k0,h1,h2,h3⟩
  ·obtain⟨v,e1,e2⟩:=r2.dat i d e;exact⟨v,e1,e2.mono kp⟩
  ·cases h3
 ·rcases jb0 e with e | ⟨m,o1,f1,k1,f0,k0,h1,h2,h3⟩
  ·obtain⟨l,e1,e2,e3,e4⟩:=r2.own i o f k e;have no:¬Ow (vs.map some) sls l:=fun z=>by
    obtain⟨j,o',f',k',q1,q2,q3⟩:=owC l z;refine r.one i j _ _ _ _ _ _ l (fun e'=>?_) (sb i o f k e) q1 e1 q2;subst e';rw[e]at q3;cases q3
   obtain⟨u,hu⟩:=e3.some;obtain⟨a,b,_⟩:=gc.side hu e2 no;exact⟨l,e1,b,e3.mono kp (a.trans hu.symm),e4⟩
  ·cases h3;obtain⟨o2,l,h4,h5,h6,h7,_⟩:=h.backOf h1;obtain⟨l',q1,q2,q3,q4⟩:=rc.own m _ _ _ h2;rw[jvb,h5]at q1;cases q1;obtain⟨l2,z1,_,_,z4⟩:=r.own i o2 _ _ h7;rw[h6]at z1;cases z1;exact⟨l,h6,q2,q3,z4⟩
 ·obtain⟨o1,e1⟩:=own3 i o f k e;obtain⟨o2,e2⟩:=own3 j o' f' k' e';exact r.one i j _ _ _ _ _ _ l ne e1 e2 q
 ·exact r.base b (gc.free z)
 ·cases w with
  |dat d=>exact q
  |tmp o=>
   obtain⟨l,e,h1,h2,h3,h4⟩:=q;refine⟨l,e,h1,fun z=>?_,g.free h3,h4⟩;obtain⟨j,o',f',k',z1,z2⟩:=z;obtain⟨o0,z0⟩:=own3 j o' f' k' z1;obtain⟨u,hu⟩:=r.there ⟨j,o0,f',k',z0,z2⟩;rw[h3]at hu;cases hu
  |slot i=>exact absurd rfl (hw i)
end
end DJ
namespace DJ
open PySem PySem.Spec PyProof.Rows L2
noncomputable def EX (X:Cx)(σ:L2.St):XK:=fun cls _ H'=>∀(pins:List (Addr×Obj)) (s':Shared) (ea:Addr),Inv X pins σ H' s'->FlyC X pins ea cls H' s'->X.xe (.ref ea) s'
theorem jrL {X:Cx}{pins:List (Addr×Obj)}{σ:L2.St}{H:Hp}{s s':Shared}{e:Value}{E:XK}(I:Inv X pins σ H s)(h:CXD X.prog X.w X.stack H s E e s'):∃ea cls H',e=.ref ea/\Inv X pins σ H' s'/\FlyC X pins ea cls H' s'/\E cls none H':=by
 obtain⟨ea,cls,a0,H',B,rfl,os,bare,un,hok,fl,hB,hB2,hn,q⟩:=h;refine⟨ea,cls,H',rfl,I.call' os un hok bare fun b z=>absurd z (by simp),⟨⟨a0,B,.of fl,fun b o e n nx=>?_,fun x c hf hc=>?_,fun p hp=>?_,hB2⟩,hn⟩,q⟩
 ·obtain⟨o',e'⟩:=I.base.there b o e nx;exact hB b o' e' n
 ·obtain⟨v,o,ho,hd⟩:=I.cell x c hc;refine hB c o ho fun z=>?_;rcases List.mem_cons.mp (I.stkSub c z)with z | z
  ·exact I.cne x c hc z
  ·have h1:=I.ok.cab x c hf hc;obtain⟨_,o',h2,_⟩:=I.ok.funs.mem z;exact absurd (jvG h2) (Nat.not_lt.mpr h1)
 ·obtain⟨h1,h2,h3,h4,_⟩:=I.pin p hp;refine hB p.1 p.2 h1 fun z=>?_;rcases List.mem_cons.mp (I.stkSub p.1 z)with z | z
  ·exact h3 z
  ·exact h4 z
noncomputable def jkB (X:Cx)(sp:Sp)(t:TA):TE:=fun σ H Q=>t σ H fun vs H1=>sp vs H1 Q (EX X σ)
section
variable {X:Cx}{k:Nat}{f:Addr}{fd:FuncData}{ps:List Str}{sp:Sp}{x:Str}{p pos:Pos}{e:Expr}{es:List Expr}{t:TA}
theorem jkC {pins:List (Addr×Obj)}{σ:L2.St}{H:Hp}{s:Shared}{Q:VK}{us:List Value}{vs:List V}(F:FnOk X.prog X.w X.K X.mg X.base (CXD X.prog X.w) k f fd ps sp)(hr:Room k X.A)(hb:Binds X.K fd ps [])
  (I:Inv X pins σ H s) (r:Vals vs us) (h:sp vs H Q (EX X σ)):wpAny (model X.prog X.w) X.A (call (.ref f) us) (EP X pins σ Q) X.xe s:=by
 have hl:(us++[]).length=ps.length:=by rw[jvu,<-r.length];exact F.len _ _ _ _ h
 have hbt:=hb s us I.kIn hl;rw[jvu]at hbt;refine wpAny_call (codeAny_mono (F.run X.A X.stack s H ⟨us,[]⟩ us vs Q (EX X σ) hr I.env0 hbt r h) fun r s' hq=>?_);cases r with
 |error e=>
  obtain⟨ea,cls,H',rfl,I',fl,q⟩:=jrL I hq;exact q pins s' ea I' fl
 |ok fl=>
  cases fl with
  |ret u=>exact I.after hq
  |next=>exact False.elim hq
  |brk=>exact False.elim hq
  |cont=>exact False.elim hq
theorem jmL (F:FnOk X.prog X.w X.K X.mg X.base (CXD X.prog X.w) k f fd ps sp)(hr:Room k X.A)(hg:Gl X x)(hm:X.mg x=some (.ref f))(hk:PySem.W.keepIn X.K (.ref f)=true)(hb:Binds X.K fd ps [])
  (ha:PA X (e::es) t) (hdb:(x == ("__debug__":Str))=false) (he:starEach (e::es) X.env=(false,eval e X.env)::starEach es X.env) (hpl:(backTo pos (starEach es X.env)).any (·.1)=false) :
  PE X (.Call (.Name x p) (e::es) [] pos) (jkB X sp t):=by
 intro pins s σ H Q I h;refine wpAny_Call_Name_kw (jdC I hg hm ?_ hdb);refine PySem.W.callWith_K (h₀:=X.base) I.ok.mod.kin hk (thn (ha pos pins s σ H _ I h) fun us s1 ⟨vs,H1,I1,r,q⟩=>⟨I1.kIn,?_⟩) he hpl;exact jkC F hr hb I1 r q
theorem jkD (F:FnOk X.prog X.w X.K X.mg X.base (CXD X.prog X.w) k f fd ps sp)(hr:Room k X.A)(hg:Gl X x)(hm:X.mg x=some (.ref f))(hk:PySem.W.keepIn X.K (.ref f)=true)(hb:Binds X.K fd ps [])
  (hdb:(x == ("__debug__":Str))=false):PE X (.Call (.Name x p) [] [] pos) (jkB X sp jqJ):=by
 intro pins s σ H Q I h;refine wpAny_Call_Name_kw (jdC I hg hm ?_ hdb);exact PySem.W.callWith_K0 I.kIn hk (jkC (us:=[]) F hr hb I .nil h)
end
section
variable {T:Tab}{G:Calls}{U:Nat->Nat->Bool}{Z:Kn}{m:Nat}{X:Cx}{sc:List (Str×NameKind)}{B:Bs}
theorem jmM (D:XD T G U Z m X sc)(hq:T.quiet=false){f:Str}{k:Nat}{fl:List Bool}{p pos:Pos}{args:List Expr}{es:List E}(hf:knd sc f=2)(hb:jeO f=false)(hk:jd2 T.defs f=some k)
  (h:Paired (fun e E'=>PE X e (tE Z X B (evE G U E'))/\∀a p,e≠.Starred a p) args es):PE X (.Call (.Name f p) args [] pos) (tE Z X B (evE G U (.call k fl (jhA es)))):=by
 obtain⟨fa,fd,ps,hm,hkp,hbd,hF⟩:=D.defs k f (jaS hk);have key:∀σ H Q,tE Z X B (evE G U (.call k fl (jhA es))) σ H Q->jkB X (spD Z G k) (tAs Z X B (evAs G U (jhA es))) σ H Q:=by
  intro σ H Q hz1;obtain⟨F,ρ,r,q⟩:=hz1;simp only[evE]at q;refine⟨F,ρ,r,q.bind.imp (fun _ w=>w) fun p1 h1 vs F1 H1 g1 r1 w1=>?_⟩;obtain⟨pp,hp,h2⟩:=h1.bind.pure fun c=>jdO;obtain⟨sls,back,ρ2⟩:=pp;obtain⟨F2,g2,r2,k2,s2,p2,n2,_,_,_⟩:=jgw w1 r1 g1 r1 Keep.refl (fun _ _ _ _ h=>h) hp;have rs:=jpy r1 r2 p2 n2;refine⟨jdQ H1 sls vs,F2,sls,rs,rfl,jgx,h2.bind.imp (fun c w C H' hC hH pins s' ea I' fly=>?_) fun rr h3 v F' H' hns gc rc rv=>?_⟩
  ·exact w pins H' s' ea C hC I' (Stl.go g1 (jmK p2 hH)) fly
  ·obtain⟨a,b,c⟩:=jpz g1 r1 g2 r2 s2 p2 gc rc rs;exact h3 v F' H' a b (c _ _ hns rv)
 have hns:∀e∈args,∀a p,e≠.Starred a p:=by
  clear key;induction h with
  |nil=>intro e he;simp at he
  |cons h1 _ ih=>
   intro e he;rcases List.mem_cons.mp he with rfl | he
   ·exact h1.2
   ·exact ih e he
 have hpa:=jpx h;cases args with
 |nil=>
  cases h;refine PE.imp (jkD hF (D.room hq) (D.gl hf) hm hkp hbd (jfI hb).1) fun σ H Q q=>?_;obtain⟨F,ρ,r,z⟩:=key σ H Q q;simp only[jhA,evAs]at z;exact z [] F H Go.refl r .nil
 |cons e es'=>
  exact PE.imp (jmL hF (D.room hq) (D.gl hf) hm hkp hbd hpa (jfI hb).1 (jai (hns e ju7)) (jeP (jdx fun x hx=>hns x (ju6 _ hx)))) key
theorem jpA {e:Expr}{d:D}{v:V}(h:PE X e (tC v))(hr:∀F H,Rep Z F H d v):PE X e (tE Z X B (evE G U (.lit d))):=by
 refine PE.imp h fun σ H Q q=>?_;obtain⟨F,ρ,r,q⟩:=q;simp only[evE]at q;exact q v F H Go.refl r (hr F H)
theorem jmN (D:XD T G U Z m X sc){x:Str}{pos:Pos}{i:Nat}(hk:knd sc x=1)(hi:X.N[i]?=some x)(hb:jeO x=false):PE X (.Name x pos) (tE Z X B (evE G U (.var i))):=by
 refine PE.imp (jjv (X:=X) (pos:=pos) hi (D.vis hk) (jfI hb).1 (jps hb)) fun σ H Q q=>?_;obtain⟨F,ρ,r,q⟩:=q;simp only[evE]at q;split at q
 ·rename_i d e;obtain⟨v,e1,e2⟩:=r.dat i d e;exact⟨v,e1,q v F H Go.refl r e2⟩
 ·rename_i o f k e;obtain⟨l,e1,_⟩:=r.own i o f k e;exact⟨_,e1,q _ F H Go.refl r e1⟩
 ·exact False.elim q
theorem jpB {es:List Expr}{Es':List E}{k:Nat}{pos:Pos}(h:Paired (fun e E'=>PE X e (tE Z X B (evE G U E'))/\∀a p,e≠.Starred a p) es Es'):PE X (.Tuple es k pos) (tE Z X B (evE G U (.tup (jhA Es')))):=by
 refine PE.imp (jnX (jkz h)) fun σ H Q hzz=>?_;obtain⟨F,ρ,r,z⟩:=hzz;simp only[evE]at z;refine⟨F,ρ,r,z.bind.imp (fun _ w=>w) fun p h1 vs F' H' g r' rs=>?_⟩;split at h1
 ·rename_i hf;exact⟨by rw[<-rs.length];exact jaQ hf,(Post.toV h1 g r' (fun _ z=>by cases z)).tup r'.dom rs⟩
 ·exact False.elim h1
theorem jpC {es:List Expr}{Es':List E}{pos:Pos}(h:Paired (fun e E'=>PE X e (tE Z X B (evE G U E'))/\∀a p,e≠.Starred a p) es Es'):PE X (.List es pos) (tE Z X B (evE G U (.lst (jhA Es')))):=by
 refine PE.imp (jri (jkz h)) fun σ H Q hzz=>?_;obtain⟨F,ρ,r,z⟩:=hzz;simp only[evE]at z;refine⟨F,ρ,r,z.bind.imp (fun _ w=>w) fun p h1 vs F' H' g r' rs=>?_⟩;split at h1
 ·rename_i hf;exact⟨by rw[<-rs.length];exact jaQ hf,(Post.toV h1 g r' (fun _ z=>by cases z)).lst r'.dom rs⟩
 ·exact False.elim h1
end
theorem joa {Z:Kn}{F:Addr->Prop}{H:Hp}{ds:List D}{vs:List V}{i:Int}{d:D}(r:Reps Z F H ds vs)(h:atI ds i=.ok d):∃v,L2.atI vs i=some v/\Rep Z F H d v:=by
 have hl:=r.length;unfold atI at h;unfold L2.atI ixN;split at h
 ·rename_i h0;split at h
  ·rename_i d' e;cases h;obtain⟨v,e1,e2⟩:=r.get e;have hlt:=(List.getElem?_eq_some_iff.mp e1).1;refine⟨v,?_,e2⟩;rw[if_pos h0,if_pos (by omega)]
   exact e1
  ·cases h
 ·rename_i h0;split at h
  ·rename_i h1;split at h
   ·rename_i d' e;cases h;obtain⟨v,e1,e2⟩:=r.get e;refine⟨v,?_,e2⟩;rw[if_neg h0,if_pos (by omega)]
    rw[hl]at e1;exact e1
   ·cases h
  ·cases h
theorem jkE {ds:List D}{i:Int}{c:Nat}:atI ds i≠.err c:=by
 intro e;unfold atI at e;split at e <;> (try split at e) <;> (try split at e) <;> cases e
theorem jpD {x:Str}{i:Int}{c:Nat}:atC x i≠.err c:=by
 intro e;unfold atC at e;split at e
 ·split at e <;> cases e
 ·cases e
theorem jrM {x:Str}{i:Int}{d:D}(h:atC x i=.ok d):∃c,d=.str ⟨#[c]⟩/\x.length<=sizeLine/\L2.atI x.cps.toList i=some c:=by
 unfold atC at h;split at h
 ·rename_i hf;have hl:x.cps.toList.length=x.length:=by simp[Str.length]
  split at h
  ·rename_i c e;cases h;refine⟨c,rfl,jaQ hf,?_⟩;unfold L2.atI ixN;rw[hl];by_cases h0:0<=i
   ·rw[if_pos h0]at e;have hlt:=(List.getElem?_eq_some_iff.mp e).1;rw[if_pos h0,if_pos (by omega)]
    exact e
   ·rw[if_neg h0]at e;split at e
    ·rename_i h1;rw[if_neg h0,if_pos (by omega)]
     exact e
    ·cases e
  ·cases h
 ·cases h
theorem jmO {x y:D}{c:Nat}:jka x y≠.err c:=by
 intro e;unfold jka at e;split at e
 ·exact jkE e
 ·exact jkE e
 ·exact jpD e
 ·cases e
noncomputable def jsR (x y:D):R Vl:=(jka x y).bind fun d=>.ok (.dat d)
theorem jts {Z:Kn}{X:Cx}(hK:X.K=Z.K):IxR X (rD2 Z jsR):=by
 intro value slice pins s σ H x y v u Q I rx ry h hs;obtain⟨F,dx,dy,w,dm,bx,by_,hg,h⟩:=h;refine jrm value slice pins s σ H x y v u Q I rx ry ?_ hs;obtain⟨d,e,hg⟩:=R.bind_ok hg;cases hg;cases dx with
 |tup ds=>
  cases dy with
  |int i=>
   obtain⟨a,vs,rfl,ft,r⟩:=bx.tup;cases by_.int;obtain⟨w,e1,rp⟩:=joa r e;exact .inr (.inl ⟨a,vs,i,w,rfl,rfl,(by rw[hK];exact ft.sq),e1,h.sc dm rp⟩)
  |_=>cases e
 |lst ds=>
  cases dy with
  |int i=>
   obtain⟨a,vs,rfl,ft,r⟩:=bx.lst;cases by_.int;obtain⟨w,e1,rp⟩:=joa r e;exact .inl ⟨a,vs,i,w,rfl,rfl,(by rw[hK];exact ft),e1,h.sc dm rp⟩
  |_=>cases e
 |str z=>
  cases dy with
  |int i=>
   cases bx.str;cases by_.int;obtain⟨c,rfl,e1,e2⟩:=jrM e;exact .inr (.inr ⟨z,i,c,rfl,rfl,e1,e2,h.sc dm (by simp only[Rep])⟩)
  |_=>cases e
 |_=>cases e
theorem jmP {i:Expr}(h:∀a b c d,i≠.Slice a b c d):jjH i:=fun o v=>by
 cases i <;> first | rfl | exact absurd rfl (h _ _ _ _)
theorem jhB (n d:Nat)(o:Option Int):sIx n d o=HT.sIx n d o:=by cases o <;> rfl
theorem jkF {Z:Kn}{F:Addr->Prop}{H:Hp}{ds:List D}{vs:List V}(r:Reps Z F H ds vs)(lo hi:Option Int):Reps Z F H (cut ds lo hi) (jnY vs lo hi):=by
 unfold cut jnY;rw[jhB,jhB,r.length];exact(r.drop _).take _
inductive rD3_I (Z:Kn) (g:D->Option Int->Option Int->R Vl) (x:V) (lo:Option Int) (hi:Option Int) (H:Hp) (Q:VK):Prop
 |mk (F:_) (dx:_) (w:_):(Dom F H)->(RepB Z F H dx x)->(g dx lo hi=.ok w)->(PostV Z F H Q w)->rD3_I Z g x lo hi H Q
noncomputable def rD3 (Z:Kn)(g:D->Option Int->Option Int->R Vl):V->Option Int->Option Int->Hp->VK->Prop:=fun x lo hi H Q=>rD3_I Z g x lo hi H Q
theorem jtt {Z:Kn}{X:Cx}(hK:X.K=Z.K):SlR X (rD3 Z jiv):=by
 intro pins s σ H x v vl vu lo hi sl Q I rx hs pl pu h;obtain⟨F,dx,w,dm,bx,hg,h⟩:=h;by_cases hstr:∃z,dx=.str z
 ·obtain⟨z,rfl⟩:=hstr;obtain⟨hf,rfl⟩:=jbj hg;cases bx.str;exact jrr pins s σ H _ v vl vu lo hi sl Q I rx hs pl pu ⟨z,rfl,jaQ hf,h.sc dm (by simp only[Rep])⟩
 refine(sl_tup.or (sl_tupW.or joW)) pins s σ H x v vl vu lo hi sl Q I rx hs pl pu ?_;cases dx with
 |tup ds=>
  cases hg;obtain⟨a,vs,rfl,ft,r⟩:=bx.tup;by_cases hw:HT.sIx vs.length 0 lo=0/\HT.sIx vs.length vs.length hi=vs.length
  ·refine .inr (.inl ⟨a,vs,rfl,(by rw[hK];exact ft.sq),hw,?_⟩)
   have e:cut ds lo hi=ds:=by
    unfold cut;rw[jhB,jhB,r.length,hw.1,hw.2,<-r.length];simp
   rw[e]at h;exact h.tupOld dm ft r
  ·exact .inl ⟨a,vs,rfl,(by rw[hK];exact ft.sq),hw,h.tup dm (jkF r lo hi)⟩
 |lst ds=>
  cases hg;obtain⟨a,vs,rfl,ft,r⟩:=bx.lst;exact .inr (.inr ⟨a,vs,rfl,(by rw[hK];exact ft),h.lst dm (jkF r lo hi)⟩)
 |str z=>exact absurd ⟨z,rfl⟩ hstr
 |_=>cases hg
inductive tO_I (Z:Kn) (X:Cx) (B:Bs) (f:Rho->R (Option Int×Rho)) (σ:L2.St) (H:L2.Hp) (Q:(Option Int->L2.Hp->Prop)):Prop
 |mk (F:_) (ρ:_):(SR Z B F H σ ρ)->(Ok (XW Z X σ ρ H) (f ρ) fun o=>∀F' H',Go σ ρ F H σ o.2 F' H'->SR Z B F' H' σ o.2->Q o.1 H')->tO_I Z X B f σ H Q
noncomputable def tO (Z:Kn)(X:Cx)(B:Bs)(f:Rho->R (Option Int×Rho)):TO:=fun σ H Q=>tO_I Z X B f σ H Q
section
variable {G:Calls}{U:Nat->Nat->Bool}{Z:Kn}{X:Cx}{B:Bs}
theorem jrN:PO X none (tO Z X B (evO G U .none)):=PO.imp joT fun σ H Q ⟨F,ρ,r,q⟩=>by
 simp only[evO]at q;exact q F H Go.refl r
theorem jrO {e:Expr}{E':E}(h:PE X e (tE Z X B (evE G U E'))):PO X (some e) (tO Z X B (evO G U (.some E'))):=PO.imp (joU h) fun σ H Q ⟨F,ρ,r,q⟩=>by
 simp only[evO]at q;refine⟨F,ρ,r,q.bind.imp (fun _ w=>w) fun p h1 v F' H' g r' rp=>?_⟩;obtain⟨w,ρ'⟩:=p;cases w with
 |dat d=>
  cases d with
  |int i=>
   have rp:Rep Z F' H' (.int i) v:=rp;simp only[Rep]at rp;exact⟨i,rp,h1 F' H' g r'⟩
  |_=>exact False.elim h1
 |_=>exact False.elim h1
theorem jmQ {x:D}{l h:Option Int}{c:Nat}:jiv x l h≠.err c:=by cases x <;> (intro z;first | cases z | (simp only[jiv]at z;split at z <;> cases z))
theorem jkG {x:D}{l h:Option Int}{i:Nat}:jiv x l h≠.ok (.slot i):=by cases x <;> (intro z;first | cases z | (simp only[jiv]at z;split at z <;> cases z))
theorem tE.slice {σ:L2.St}{H:Hp}{Q:VK}{fa:Rho->R (Vl×Rho)}{fl fh:Rho->R (Option Int×Rho)}(h:tE Z X B (fun ρ=>(fa ρ).bind fun p=>(fl p.2).bind fun l=>(fh l.2).bind fun h=>(deref p.1 h.2).bind fun x=>(jiv x l.1 h.1).bind fun v=>.ok (v,h.2)) σ H Q):tSl (rD3 Z jiv) (tE Z X B fa) (tO Z X B fl) (tO Z X B fh) σ H Q:=by
 obtain⟨F,ρ,r,h⟩:=h;refine⟨F,ρ,r,h.bind.imp (fun _ w=>w) fun p h1 v F1 H1 g1 r1 rp=>⟨F1,p.2,r1,h1.bind.imp (fun c w=>w.mono g1) fun l h2 F2 H2 g2 r2=>⟨F2,l.2,r2,h2.bind.imp (fun c w=>w.mono (g1.trans g2)) fun u h3 F3 H3 g3 r3=>?_⟩⟩⟩;obtain⟨x,ex,h4⟩:=h3.bind.pure fun c=>jaP;obtain⟨w,ew,h5⟩:=h4.bind.pure fun c=>jmQ;exact⟨F3,x,w,r3.dom,ja9 (rp.go r1 (g2.trans g3)) r3 ex,ew,Post.toV h5 ((g1.trans g2).trans g3) r3 fun i z=>jkG (by rw[ew,z])⟩
end
end DJ
namespace DJ
open PySem PySem.Spec PyProof.Rows L2
section
variable {Z:Kn}{B:Bs}{F F1 F2:Addr->Prop}{H H0 H1 H2:Hp}{σ σ1 σ2:L2.St}{ρ ρ1 ρ2:Rho}
theorem jeQ:∀{lk:List Nat}{ρ:Rho}{j:Nat}{o:O}{f k:Bool},(unlk lk ρ)[j]?=some (.own o f k)->ρ[j]?=some (.own o f k)\/(j∈lk/\k=false/\∃k',ρ[j]?=some (.own o f k'))
 |[],_,_,_,_,_,h=>.inl h
 |i::r,ρ,j,o,f,k,h=>by
  simp only[unlk]at h;have one:∀{k1:Bool},(match ρ[i]? with | some (.own o f _)=>ρ.set i (.own o f false) | _=>ρ)[j]?=some (.own o f k1)->ρ[j]?=some (.own o f k1)\/(j=i/\k1=false/\∃k',ρ[j]?=some (.own o f k')):=fun {k1} h=>by
   split at h
   ·rename_i o' f' k' e;rw[jva]at h;by_cases hij:i=j
    ·subst hij;rw[if_pos rfl]at h;split at h
     ·cases h;exact .inr ⟨rfl,rfl,k',e⟩
     ·cases h
    ·rw[if_neg hij]at h;exact .inl h
   ·exact .inl h
  rcases jeQ h with h | ⟨h1,h2,k',h3⟩
  ·rcases one h with h | ⟨h1,h2,h3⟩
   ·exact .inl h
   ·exact .inr ⟨by simp[h1],h2,h3⟩
  ·rcases one h3 with h3 | ⟨_,_,h3⟩
   ·exact .inr ⟨ju6 _ h1,h2,k',h3⟩
   ·exact .inr ⟨ju6 _ h1,h2,h3⟩
theorem SR.unlk:∀{lk:List Nat}{ρ:Rho},SR Z B F H σ ρ->SR Z B F H σ (unlk lk ρ)
 |[],_,r=>r
 |i::lk,ρ,r=>by
  simp only[DJ.unlk];refine SR.unlk (lk:=lk) ?_;split
  ·rename_i o f k e;exact r.lock e false
  ·exact r
theorem Ow.unlk {lk:List Nat}{b:Addr}(h:Ow σ (unlk lk ρ) b):Ow σ ρ b:=by
 obtain⟨i,o,f,k,h1,h2⟩:=h;rcases jeQ h1 with h | ⟨_,_,k',h⟩
 ·exact⟨i,o,f,k,h,h2⟩
 ·exact⟨i,o,f,k',h,h2⟩
theorem Go.unlk {lk:List Nat}(g:Go σ ρ F H σ2 ρ2 F2 H2)(hl:∀i∈lk,∃o f,ρ[i]?=some (.own o f false)):Go σ ρ F H σ2 (unlk lk ρ2) F2 H2:=by
 refine⟨g.stay,g.sub,g.new,fun j o f k b h1 h2=>?_,g.there⟩;rcases jeQ h1 with h | ⟨hj,hk,k',h⟩
 ·exact g.ow j o f k b h h2
 ·rcases g.ow j o f k' b h h2 with ⟨o0,k0,a,c,d⟩ | q
  ·obtain⟨o1,f1,e⟩:=hl j hj;rw[a]at e;cases e;exact .inl ⟨o0,false,a,c,fun z=>by cases z⟩
  ·exact .inr q
structure Wlk (Z:Kn)(B:Bs)(F:Addr->Prop)(H:Hp)(σ:L2.St)(ρ ρ2:Rho)(v:V)(xs:List D)(lk:List Nat)(ls:List Addr)(b:Bool)(a:Addr)(vs:List V):Prop where
 eq:v=.ref a
 sq:SqB Z.K b H a vs
 rp:Reps Z F H xs vs
 sr:SR Z B F H σ ρ2
 go:Go σ ρ F H σ ρ2 F H
 on:∀l∈ls,(∃o,H l=some o)/\¬Mb σ ρ2 l
 lk:∀i∈lk,∃o f,ρ[i]?=some (.own o f false)
 up:∀(i:Nat) o f,ρ2[i]?=some (.own o f false)->ρ[i]?=some (.own o f false)
 good:∀F' H',GK F H ls F' H'->SqB Z.K b H' a vs/\Reps Z F' H' xs vs
theorem SR.notMb (r:SR Z B F H σ ρ){i:Nat}{o:O}{f:Bool}{l:Addr}(e:ρ[i]?=some (.own o f true))(hl:σ[i]?=some (some (.ref l))):¬Mb σ ρ l:=by
 rintro⟨j,o',f',h1,h2⟩;by_cases hij:i=j
 ·subst hij;rw[e]at h1;cases h1
 ·exact r.one i j _ _ _ _ _ _ l hij e h1 hl h2
theorem jdR {w:Vl}{v:V}{xs:List D}{lk:List Nat}(h:RV Z F H0 H σ ρ w v)(r:SR Z B F H σ ρ)(hi:jaL w ρ=.ok (xs,lk,ρ2)):∃ls b a vs,Wlk Z B F H σ ρ ρ2 v xs lk ls b a vs:=by
 cases w with
 |dat d=>
  obtain⟨ys,hs,hi⟩:=R.bind_ok hi;cases hi;have h:Rep Z F H d v:=h;cases d with
  |tup ds=>
   cases hs;simp only[Rep]at h;obtain⟨a,vs,rfl,ft,rs⟩:=h;exact⟨[],false,a,vs,rfl,.inr ⟨rfl,ft.sq⟩,rs,r,Go.refl,fun _ z=>absurd z (by simp),fun _ z=>absurd z (by simp),fun _ _ _ h=>h,fun F' H' g=>⟨.inr ⟨rfl,(ft.keep g.keep).sq⟩,rs.mono g.keep⟩⟩
  |lst ds=>
   cases hs;simp only[Rep]at h;obtain⟨a,vs,rfl,ft,rs⟩:=h;exact⟨[],true,a,vs,rfl,.inl ⟨rfl,ft.sq⟩,rs,r,Go.refl,fun _ z=>absurd z (by simp),fun _ z=>absurd z (by simp),fun _ _ _ h=>h,fun F' H' g=>⟨.inl ⟨rfl,(ft.keep g.keep).sq⟩,rs.mono g.keep⟩⟩
  |_=>cases hs
 |tmp o=>
  cases o with
  |l ys=>
   cases hi;obtain⟨l,rfl,h1,h2,h3,us,h4,h5⟩:=h;refine⟨[l],true,l,us,rfl,.inl ⟨rfl,SqL.of h4⟩,h5,r,Go.refl,fun l' z=>?_,fun _ z=>absurd z (by simp),fun _ _ _ h=>h,fun F' H' g=>⟨.inl ⟨rfl,SqL.of ((g.ls l (by simp)).trans h4)⟩,h5.mono g.keep⟩⟩
   have e:l'=l:=by simpa using z
   subst e;exact⟨⟨_,h4⟩,fun m=>h2 m.ow⟩
  |d ks vs=>cases hi
 |slot i=>
  have h:σ[i]?=some (some v):=h;simp only[jaL]at hi;split at hi
  ·rename_i ys f e;cases hi;obtain⟨l,e1,e2,⟨us,h4,h5⟩,_⟩:=r.own i _ _ _ e;rw[h]at e1;cases e1;refine⟨[l],true,l,us,rfl,.inl ⟨rfl,SqL.of h4⟩,h5,r,Go.refl,fun l' z=>?_,fun _ z=>absurd z (by simp),fun _ _ _ h=>h,fun F' H' g=>⟨.inl ⟨rfl,SqL.of ((g.ls l (by simp)).trans h4)⟩,h5.mono g.keep⟩⟩
   have q:l'=l:=by simpa using z
   subst q;exact⟨⟨_,h4⟩,r.notMb e h⟩
  ·rename_i ys f e;cases hi;obtain⟨l,e1,e2,⟨us,h4,h5⟩,_⟩:=r.own i _ _ _ e;rw[h]at e1;cases e1;have hlt:i < ρ.length:=(List.getElem?_eq_some_iff.mp e).1;have r2:=r.lock e true;refine⟨[l],true,l,us,rfl,.inl ⟨rfl,SqL.of h4⟩,h5,r2,Go.lock e,fun l' z=>?_,fun j z=>?_,fun j o f' hj=>?_,fun F' H' g=>⟨.inl ⟨rfl,SqL.of ((g.ls l (by simp)).trans h4)⟩,h5.mono g.keep⟩⟩
   ·have q:l'=l:=by simpa using z
    subst q;exact⟨⟨_,h4⟩,r2.notMb (List.getElem?_set_self hlt) h⟩
   ·have q:j=i:=by simpa using z
    subst q;exact⟨_,_,e⟩
   ·rw[jva]at hj;split at hj
    ·(first | cases hj | (split at hj <;> cases hj))
    ·exact hj
  ·cases hi
theorem jc4 {w:Vl}{c:Nat}:jaL w ρ≠.err c:=by
 cases w with
 |dat d=>cases d <;> (intro z;cases z)
 |tmp o=>cases o <;> (intro z;cases z)
 |slot i=>
  simp only[jaL];split <;> (intro z;cases z)
end
structure ItR (Z:Kn)(B:Bs)(σ:L2.St)(ρ:Rho)(F:Addr->Prop)(H:Hp)(ρ1:Rho)(F1:Addr->Prop)(H1:Hp)(lk:List Nat)(ls:List Addr):Prop where
 go:Go σ ρ F H σ ρ1 F1 H1
 sr:SR Z B F1 H1 σ ρ1
 un:∀σ2 ρ2 F2 H2,Go σ ρ1 F1 H1 σ2 ρ2 F2 H2->Go σ ρ F H σ2 (unlk lk ρ2) F2 H2
 on:∀l∈ls,(∃o,H1 l=some o)/\¬Mb σ ρ1 l
inductive tI_I (Z:Kn) (X:Cx) (B:Bs) (f:Rho->R (List D×List Nat×Rho)) (σ:L2.St) (H:L2.Hp) (R:(L2.It->L2.Hp->Prop)):Prop
 |mk (F:_) (ρ:_):(SR Z B F H σ ρ)->(Ok (XW Z X σ ρ H) (f ρ) fun t=>∀F' H' J ls,ItR Z B σ ρ F H t.2.2 F' H' t.2.1 ls->ItmG Z (GK F' H' ls) J t.1->R J H')->tI_I Z X B f σ H R
noncomputable def tI (Z:Kn)(X:Cx)(B:Bs)(f:Rho->R (List D×List Nat×Rho)):TI:=fun σ H R=>tI_I Z X B f σ H R
theorem jrP {X:Cx}{tg:Expr}{pins:List (Addr×Obj)}{σ:L2.St}{H1:Hp}{s1:Shared}{R:L2.It->Hp->Prop}{a:Addr}(I1:Inv X pins σ H1 s1)(q1:(∃xs,SqL X.K H1 a xs/\(xs.length<=sizeLine->R (Itl X.K a) H1))\/(∃xs,SqT X.K H1 a xs/\(xs.length<=sizeLine->R (Itt X.K a) H1))) :
  wpAny (model X.prog X.w) X.A (pyIter (.ref a)) (PIE X pins σ tg R) X.xe s1:=by
 rcases q1 with ⟨xs,hq,q⟩ | ⟨xs,hq,q⟩
 ·obtain⟨its,rv,p,hz⟩:=I1.list hq;refine wpAny_pyIter_list p.isList ⟨s1.heap.objs.size,[s1.heap.objs.size],_,_,H1,rfl,I1.kept (t':=s1.toks) fun b o e=>jvF _ e,jjA a _,⟨_,jvH _ rfl,rfl,rfl⟩,fun b hb=>?_,q hz⟩;obtain rfl:b=s1.heap.objs.size:=by simpa using hb
  exact I1.fpOk (jvK _) (I1.hok.fresh (jvK _))
 ·obtain⟨its,rv,p,hz⟩:=I1.tuple hq;refine wpAny_pyIter_tuple (show s1.heap.IsTuple a its.toArray from p) ⟨s1.heap.objs.size,[s1.heap.objs.size],_,_,H1,rfl,I1.kept (t':=s1.toks) fun b o e=>jvF _ e,jid a _,⟨_,jvH _ rfl,rfl,rfl⟩,fun b hb=>?_,q hz⟩;obtain rfl:b=s1.heap.objs.size:=by simpa using hb
  exact I1.fpOk (jvK _) (I1.hok.fresh (jvK _))
noncomputable def jtu (K:Frag)(tl:TE):TI:=fun σ H R=>tl σ H fun x H1=>(∃z,x=.str z/\R (Itx z) H1)\/∃a,x=.ref a/\((∃xs,SqL K H1 a xs/\(xs.length<=sizeLine->R (Itl K a) H1))\/(∃xs,SqT K H1 a xs/\(xs.length<=sizeLine->R (Itt K a) H1)))
theorem jpE {X:Cx}{tg l:Expr}{tl:TE}(hl:PE X l tl):PI X tg l (jtu X.K tl):=by
 intro pins s σ H R I h;refine thn (hl pins s σ H _ I h) fun v s1 hzz=>?_;obtain⟨x,H1,I1,r1,q1⟩:=hzz;rcases q1 with ⟨z,rfl,q⟩ | ⟨a,rfl,q1⟩
 ·obtain⟨t,rfl⟩:=r1;have fp:∀b∈[s1.heap.objs.size],FpOk X pins H1 b:=fun b hb=>by
   obtain rfl:b=s1.heap.objs.size:=by simpa using hb
   exact I1.fpOk (jvK _) (I1.hok.fresh (jvK _))
  cases ha:z.cps.all (· < 128)
  ·exact wpAny_pyIter_wide ha ⟨s1.heap.objs.size,[s1.heap.objs.size],_,_,H1,rfl,I1.kept (t':=s1.toks) fun b o e=>jvF _ e,jfu (fun A' h=>Walks.strWide h _ z t) (fun _ _ _ _ _ st q=>wpAny_pyIter_striter_wide st q) (by decide),⟨_,jvH _ rfl,rfl,rfl⟩,fp,q⟩
  ·exact wpAny_pyIter_ascii ha ⟨s1.heap.objs.size,[s1.heap.objs.size],_,_,H1,rfl,I1.kept (t':=s1.toks) fun b o e=>jvF _ e,jfu (fun A' h=>Walks.strAscii h _ z t) (fun _ _ _ _ _ st q=>wpAny_pyIter_striter_ascii st q) (by decide),⟨_,jvH _ rfl,rfl,rfl⟩,fp,q⟩
 ·cases r1;exact jrP I1 q1
theorem jmR {Z:Kn}{G:(Addr->Prop)->Hp->Prop}{z:Str}(hn:z.length<=sizeLine):ItmG Z G (Itx z) (z.cps.toList.map fun c=>D.str ⟨#[c]⟩):=by
 have hl:(z.cps.toList.map fun c=>D.str ⟨#[c]⟩).length=z.cps.size:=by simp
 refine⟨by rw[hl];exact hn,fun F H g dm=>⟨fun i x hx=>?_,hl⟩⟩
 rw[jvb]at hx;cases e:z.cps.toList[i]? with
 |none=>rw[e]at hx;cases hx
 |some c=>
  rw[e]at hx;cases hx;have e2:z.cps[i]?=some c:=by rw[<-Array.getElem?_toList];exact e
  refine⟨(Array.getElem?_eq_some_iff.mp e2).1,fun u H2 y=>?_⟩;obtain⟨rfl,c',e3,rfl⟩:=y;rw[e2]at e3;cases e3;exact⟨F,Ext.refl dm,by simp only[Rep]⟩
theorem jpF {Z:Kn}{G:(Addr->Prop)->Hp->Prop}{b1 b2:Bool}{l1 l2:Addr}{xs ys:List D}{vs us:List V}(len:xs.length<=sizeLine)(hG:∀F H,G F H->Dom F H->(SqB Z.K b1 H l1 vs/\Reps Z F H xs vs)/\SqB Z.K b2 H l2 us/\Reps Z F H ys us):ItmG Z G (Itz Z.K b1 b2 l1 l2) (jfC xs ys):=by
 have hz:∀(xs ys:List D),(jfC xs ys).length=min xs.length ys.length:=by
  intro xs;induction xs with
  |nil=>intro ys;simp[jfC]
  |cons x xs ih=>
   intro ys;cases ys with
   |nil=>simp[jfC]
   |cons y ys=>simp only[jfC,jvf,ih ys];omega
 have hg:∀(xs ys:List D) (i:Nat) (d:D),(jfC xs ys)[i]?=some d->∃a b,xs[i]?=some a/\ys[i]?=some b/\d=.tup [a,b]:=by
  intro xs;induction xs with
  |nil=>intro ys i d h;simp[jfC]at h
  |cons x xs ih=>
   intro ys i d h;cases ys with
   |nil=>simp[jfC]at h
   |cons y ys=>
    simp only[jfC]at h;cases i with
    |zero=>simp at h;exact⟨x,y,rfl,rfl,h.symm⟩
    |succ i=>simpa using ih ys i d (by simpa using h)
 refine⟨by rw[hz];omega,fun F H g dm=>?_⟩
 obtain⟨⟨q1,r1⟩,q2,r2⟩:=hG F H g dm;refine⟨fun i d hd=>?_,⟨vs,us,q1,q2,?_⟩⟩
 ·obtain⟨a,b,ha,hb,rfl⟩:=hg xs ys i d hd;obtain⟨v,e1,p1⟩:=r1.get ha;obtain⟨u,e2,p2⟩:=r2.get hb;refine⟨⟨vs,us,v,u,q1,q2,e1,e2⟩,fun w H2 y=>?_⟩;obtain⟨p,x',y',rfl,hp,rfl,z1,z2⟩:=y;have e3:=z1 vs q1;rw[e1]at e3;cases e3;have e4:=z2 us q2;rw[e2]at e4;cases e4;have ex:=Ext.newF (o:=.tup [v,u]) dm hp;refine⟨_,ex,?_⟩;simp only[Rep];have kp:=ex.keep dm;exact⟨p,[v,u],rfl,.inl ⟨.inr rfl,.inl jan⟩,.cons (p1.mono kp) (.one (p2.mono kp))⟩
 ·rw[hz,<-r1.length,<-r2.length];omega
section
variable {T:Tab}{G:Calls}{U:Nat->Nat->Bool}{Z:Kn}{m:Nat}{X:Cx}{sc:List (Str×NameKind)}{B:Bs}
theorem ItR.plain {σ:L2.St}{ρ ρ1:Rho}{F F1:Addr->Prop}{H H1:Hp}(g:Go σ ρ F H σ ρ1 F1 H1)(r:SR Z B F1 H1 σ ρ1):ItR Z B σ ρ F H ρ1 F1 H1 [] []:=⟨g,r,fun σ2 ρ2 F2 H2 g2=>g.trans g2,fun _ z=>absurd z (by simp)⟩
theorem jmS (hK:X.K=Z.K){σ:L2.St}{ρ ρ1:Rho}{F F':Addr->Prop}{H H':Hp}{R:L2.It->Hp->Prop}{w:Vl}{v:V}
  (h1:Ok (XW Z X σ ρ H) (jaL w ρ1) fun t=>∀F' H' J ls,ItR Z B σ ρ F H t.2.2 F' H' t.2.1 ls->ItmG Z (GK F' H' ls) J t.1->R J H') (g:Go σ ρ F H σ ρ1 F' H') (r':SR Z B F' H' σ ρ1) (rv:RV Z F' H H' σ ρ1 w v) :
  ∃a,v=.ref a/\((∃xs,SqL X.K H' a xs/\(xs.length<=sizeLine->R (Itl X.K a) H'))\/(∃xs,SqT X.K H' a xs/\(xs.length<=sizeLine->R (Itt X.K a) H'))):=by
 obtain⟨t,ht,h2⟩:=h1.pure fun c=>jc4;obtain⟨xs,lk,ρ2⟩:=t;obtain⟨ls,b,a,vs,W⟩:=jdR rv r' ht;have ir:ItR Z B σ ρ F H ρ2 F' H' lk ls:=⟨g.trans W.go,W.sr,fun σ2 ρ3 F3 H3 g3=>g.trans ((W.go.trans g3).unlk W.lk),W.on⟩;refine⟨a,W.eq,?_⟩;rw[hK];rcases W.sq with ⟨rfl,sq⟩ | ⟨rfl,sq⟩
 ·refine .inl ⟨vs,sq,fun hz=>h2 F' H' _ ls ir (jmu (vs:=vs) (by rw[W.rp.length];exact hz) fun F2 H2 gk _=>?_)⟩
  obtain⟨s1,s2⟩:=W.good F2 H2 gk;rcases s1 with ⟨_,s1⟩ | ⟨z,_⟩
  ·exact⟨s1,s2⟩
  ·cases z
 ·refine .inr ⟨vs,sq,fun hz=>h2 F' H' _ ls ir (jpi (vs:=vs) (by rw[W.rp.length];exact hz) fun F2 H2 gk _=>?_)⟩
  obtain⟨s1,s2⟩:=W.good F2 H2 gk;rcases s1 with ⟨z,_⟩ | ⟨_,s1⟩
  ·cases z
  ·exact⟨s1,s2⟩
theorem jrQ (hK:X.K=Z.K){tg l:Expr}{f:Rho->R (Vl×Rho)}(hl:PE X l (tE Z X B f)):PI X tg l (tI Z X B fun ρ=>(f ρ).bind fun p=>jbX p.1 p.2):=by
 refine PI.imp (jpE hl) fun σ H R hzz=>?_;obtain⟨F,ρ,r,q⟩:=hzz;refine⟨F,ρ,r,q.bind.imp (fun _ w=>w) fun p h1 v F' H' g r' rv=>?_⟩;obtain⟨w,ρ1⟩:=p;by_cases hs:∃z,w=.dat (.str z)
 ·obtain⟨z,rfl⟩:=hs;have h1:Ok (XW Z X σ ρ H) (if ja6 z.length then .ok (z.cps.toList.map (fun c=>D.str ⟨#[c]⟩),([]:List Nat),ρ1)else .stk) _:=h1;have rv:Rep Z F' H' (.str z) v:=rv;simp only[Rep]at rv;split at h1
  ·exact .inl ⟨z,rv,h1 F' H' _ [] (ItR.plain g r') (jmR (jaQ ‹_›))⟩
  ·exact False.elim h1
 ·have e:jbX w ρ1=jaL w ρ1:=by
   unfold jbX;split
   ·exact absurd ⟨_,rfl⟩ hs
   ·rfl
  have h1:Ok (XW Z X σ ρ H) (jbX w ρ1) _:=h1;rw[e]at h1;exact .inr (jmS hK h1 g r' rv)
theorem jkH {x:D}{c:Nat}:jfB x≠.err c:=by
 cases x <;> (intro z;simp only[jfB]at z;try split at z) <;> cases z
theorem jpG {tg a:Expr}{p pos:Pos}{f:Rho->R (Vl×Rho)}(hg:Gl X "range")(hm:X.mg "range"=none)(h:PE X a (tE Z X B f))(ns:∀e q,a≠.Starred e q) :
  PI X tg (.Call (.Name "range" p) [a] [] pos) (tI Z X B fun ρ=>(f ρ).bind fun p=>(deref p.1 p.2).bind fun x=>(jfB x).bind fun xs=>.ok (xs,[],p.2)):=by
 refine PI.imp (jjB hg hm (jaK h jby (jai ns)) (jai ns)) fun σ H R hzz=>?_;obtain⟨F,ρ,r,q⟩:=hzz;refine⟨F,ρ,r,q.bind.imp (fun _ w=>w) fun p h1 v F' H' g r' rv=>?_⟩;obtain⟨x,ex,h2⟩:=h1.bind.pure fun c=>jaP;obtain⟨xs,exs,h3⟩:=h2.bind.pure fun c=>jkH;have rb:=ja9 rv r' ex;cases x with
 |int n=>
  simp only[jfB]at exs;split at exs
  ·rename_i hn;cases exs;cases rb.int;exact⟨n,rfl,by omega,by omega,h3 F' H' _ [] (ItR.plain g r') (jpk (by rw[sizeLine_eq];omega))⟩
  ·cases exs
 |_=>cases exs
theorem jpH (hK:X.K=Z.K){es:List Expr}{n:Nat}{pos':Pos}{a b:Expr}{p pos:Pos}{f f':Rho->R (Vl×Rho)}(hg:Gl X "zip")(hm:X.mg "zip"=none)(h:PE X a (tE Z X B f))(ns:∀e q,a≠.Starred e q)(h':PE X b (tE Z X B f'))(ns':∀e q,b≠.Starred e q) :
  PI X (.Tuple es n pos') (.Call (.Name "zip" p) [a,b] [] pos) (tI Z X B fun ρ=>(f ρ).bind fun p=>(f' p.2).bind fun q=>(jaL p.1 q.2).bind fun x=>(jaL q.1 x.2.2).bind fun y=>.ok (jfC x.1 y.1,x.2.1++y.2.1,y.2.2)):=by
 refine PI.imp (jrq hg hm (jaK h (jaK h' jby (jai ns')) (jai ns)) (jai ns) (jeP (jdx fun x hx=>by
  have:x=b:=by simpa using hx
  subst this;exact ns'))) fun σ H R ⟨F,ρ,r,q⟩=>?_
 refine⟨F,ρ,r,q.bind.imp (fun _ w=>w) fun p h1 v F1 H1 g1 r1 rv=>⟨F1,p.2,r1,h1.bind.imp (fun c w=>w.mono g1) fun q h2 u F2 H2 g2 r2 ru=>?_⟩⟩;obtain⟨t,ht,h3⟩:=h2.bind.pure fun c=>jc4;obtain⟨t',ht',h4⟩:=h3.bind.pure fun c=>jc4;obtain⟨xs,lk1,ρ3⟩:=t;obtain⟨ys,lk2,ρ4⟩:=t';obtain⟨ls1,b1,a1,vs1,W1⟩:=jdR (rv.go r1 g2) r2 ht;obtain⟨ls2,b2,a2,vs2,W2⟩:=jdR (ru.go r2 W1.go) W1.sr ht';have g12:=g1.trans g2;have ir:ItR Z B σ ρ F H ρ4 F2 H2 (lk1++lk2) (ls1++ls2):=by
  refine⟨g12.trans (W1.go.trans W2.go),W2.sr,fun σ5 ρ5 F5 H5 g5=>g12.trans (((W1.go.trans W2.go).trans g5).unlk fun i hi=>?_),fun l hl=>?_⟩
  ·rcases List.mem_append.mp hi with hi | hi
   ·exact W1.lk i hi
   ·obtain⟨o,f,e⟩:=W2.lk i hi;exact⟨o,f,W1.up i o f e⟩
  ·rcases List.mem_append.mp hl with hl | hl
   ·obtain⟨⟨o,e⟩,nm⟩:=W1.on l hl;refine⟨⟨o,e⟩,fun z=>?_⟩;rcases W2.go.mb z with z | z
    ·exact nm z
    ·rw[e]at z;cases z
   ·exact W2.on l hl
 refine⟨a1,a2,b1,b2,vs1,vs2,by rw[W1.eq,W2.eq],(by rw[hK];exact W1.sq),(by rw[hK];exact W2.sq),fun z1 z2=>?_⟩
 rw[hK];refine h4 F2 H2 _ (ls1++ls2) ir (jpF (by rw[W1.rp.length];exact z1) fun F5 H5 gk _=>⟨W1.good F5 H5 ⟨gk.keep,fun l hl=>gk.ls l (jvs _ hl)⟩,W2.good F5 H5 ⟨gk.keep,fun l hl=>gk.ls l (jvg _ hl)⟩⟩)
end
end DJ
namespace DJ
open PySem PySem.Spec PyProof.Rows L2
noncomputable def Ty.py:Ty->String
 |.int=>"int" | .bool=>"bool" | .str=>"str" | .tuple=>"tuple" | .list=>"list" | .dict=>"dict" | .exc _=>"?" | .verr=>"ValueError"
noncomputable def clV (Z:Kn):Ty->Option V
 |.exc k=>(Z.cl[k]?).map V.ref
 |t=>some (.ty t.py)
noncomputable def jqL (Z:Kn):List Ty->Option (List V):=mapO (clV Z)
structure Ecs (U:Nat->Nat->Bool)(Z:Kn):Prop where
 ecl:∀C∈Z.cl,ECls Z.K C
 sub:∀(i j:Nat) (C D:Addr),Z.cl[i]?=some C->Z.cl[j]?=some D->PySem.W.mroIn Z.K C (.ref D)=some (U i j)
theorem XD.ecs {T:Tab}{G:Calls}{U:Nat->Nat->Bool}{Z:Kn}{n:Nat}{X:Cx}{sc:List (Str×NameKind)}(D:XD T G U Z n X sc):Ecs U Z:=⟨by rw[<-D.hK];exact D.ecl,by rw[<-D.hK];exact D.sub⟩
section
variable {U:Nat->Nat->Bool}{Z:Kn}
theorem jpI (S:Ecs U Z){i j:Nat}{C D:Addr}(hi:Z.cl[i]?=some C)(hj:Z.cl[j]?=some D):PySem.W.kitOne Z.K (.ref C) (.ref D)=some (U i j):=by
 have hs:=S.sub i j C D hi hj;have e':=S.ecl D (jvh hj);unfold PySem.W.kitOne;split
 ·rename_i z;cases beq_iff_eq.mp z;rw[(S.ecl C (jvh hi)).ms]at hs;exact hs
 ·unfold PySem.W.kitCls;simp only;rw[if_pos (by rw[jvP];exact⟨e'.cd,by rw[e'.ty];rfl⟩)]
  exact hs
theorem jmT (S:Ecs U Z){i:Nat}{C:Addr}(hi:Z.cl[i]?=some C):PySem.W.kitOne Z.K (.ref C) (.type "ValueError")=some true:=by
 have e:=S.ecl C (jvh hi);unfold PySem.W.kitOne;split
 ·rfl
 ·unfold PySem.W.kitCls;simp only;rw[if_pos (by decide +kernel)]
  exact e.mv
noncomputable def nmT:Ty->String
 |.int=>"int"
 |.bool=>"bool"
 |.str=>"str"
 |.tuple=>"tuple"
 |.list=>"list"
 |_=>"dict"
noncomputable def juJ:Ty->Bool
 |.exc _=>false
 |.verr=>false
 |_=>true
theorem jdS {K:Frag}{t:Value}{d:D}(ht:∀k,juJ k=true->PySem.W.kitOne K t (.type (nmT k))=some (tyB d k))(k:Ty)(c:V)(cv:Value)(b:Bool)(hb:tyP d k=.ok b)(hc:clV Z k=some c)(rc:RelV c cv):PySem.W.kitOne K t cv=some b:=by
 cases k with
 |exc _=>cases hb
 |verr=>cases hb
 |int=>cases hb;cases hc;cases (show cv=Value.type _ from rc);exact ht .int rfl
 |bool=>cases hb;cases hc;cases (show cv=Value.type _ from rc);exact ht .bool rfl
 |str=>cases hb;cases hc;cases (show cv=Value.type _ from rc);exact ht .str rfl
 |tuple=>cases hb;cases hc;cases (show cv=Value.type _ from rc);exact ht .tuple rfl
 |list=>cases hb;cases hc;cases (show cv=Value.type _ from rc);exact ht .list rfl
 |dict=>cases hb;cases hc;cases (show cv=Value.type _ from rc);exact ht .dict rfl
theorem jrR (S:Ecs U Z){X:Cx}(hK:X.K=Z.K){pins:List (Addr×Obj)}{s:Shared}{σ:L2.St}{F:Addr->Prop}{H:Hp}{d:D}{x:V}{u:Value}(I:Inv X pins σ H s)(rp:RepB Z F H d x)(rx:RelV x u) :
  ∃(t:Value) (P:Heap->Prop),PySem.W.KitX X.K u t P/\P s.heap/\u≠.builtin "__main__.__loader__#opaque"/\∀(k:Ty) (c:V) (cv:Value) (b:Bool),jqK U d k=.ok b->clV Z k=some c->RelV c cv->PySem.W.kitOne X.K t cv=some b:=by
 cases d with
 |non=>
  cases rp.non;cases (show u=Value.none from rx);refine⟨_,_,PySem.W.kitx_none,True.intro,(fun z=>nomatch z),jdS fun k hk=>by cases k <;> first | rfl | cases hk⟩
 |bl y=>
  cases rp.bl;cases (show u=Value.bool y from rx);refine⟨_,_,PySem.W.kitx_bool,True.intro,(fun z=>nomatch z),jdS fun k hk=>by cases k <;> first | rfl | cases hk⟩
 |int i=>
  cases rp.int;obtain⟨t',rfl⟩:=(show ∃t,u=Value.int i t from rx);refine⟨_,_,PySem.W.kitx_int,True.intro,(fun z=>nomatch z),jdS fun k hk=>by cases k <;> first | rfl | cases hk⟩
 |str y=>
  cases rp.str;obtain⟨t',rfl⟩:=(show ∃t,u=Value.str y t from rx);refine⟨_,_,PySem.W.kitx_str,True.intro,(fun z=>nomatch z),jdS fun k hk=>by cases k <;> first | rfl | cases hk⟩
 |tup ds=>
  obtain⟨a,vs,rfl,ft,r⟩:=rp.tup;cases (show u=Value.ref a from rx);obtain⟨its,_,p,_⟩:=I.tuple (by rw[hK];exact ft.sq)
  obtain⟨o,h1,h2,_⟩:=p;refine⟨_,_,PySem.W.kitx_tuple,⟨o,h1,h2⟩,(fun z=>nomatch z),jdS fun k hk=>by cases k <;> first | rfl | cases hk⟩
 |lst ds=>
  obtain⟨a,vs,rfl,ft,r⟩:=rp.lst;cases (show u=Value.ref a from rx);obtain⟨its,_,⟨o,n,h1,h2,_⟩,_⟩:=I.list (by rw[hK];exact ft)
  refine⟨_,_,PySem.W.kitx_list,⟨o,h1,h2⟩,(fun z=>nomatch z),jdS fun k hk=>by cases k <;> first | rfl | cases hk⟩
 |dct ks vs=>
  obtain⟨a,rfl,_,_,e⟩:=rp.dct;cases (show u=Value.ref a from rx);obtain⟨_,_,vs,_,p⟩:=(show ObjOk X.prog X.w H s.heap a (.dK [])from I.hok a _ e);obtain⟨o,es,ep,h1,h2,_⟩:=p;refine⟨_,_,PySem.W.kitx_dict,⟨o,h1,h2.1⟩,(fun z=>nomatch z),jdS fun k hk=>by cases k <;> first | rfl | cases hk⟩
 |exc c=>
  have rp:=rp.flat (fun o z=>by cases o <;> cases z)
  simp only[Rep]at rp;obtain⟨a,C,rfl,_,hC,e⟩:=rp;cases (show u=Value.ref a from rx);obtain⟨⟨o,vs,h1,h2,_⟩,_⟩:=(show ObjOk X.prog X.w H s.heap a (.ext (jht a C))from I.hok a _ e);have ec:=S.ecl C (jvh hC);refine⟨_,_,jma (K:=X.K) (by rw[hK];exact ec),⟨o,h1,h2⟩,(fun z=>nomatch z),fun k c' cv b hb hc rc=>?_⟩
  rw[hK];cases k with
  |exc j=>
   cases hb;simp only[clV]at hc;cases hj:Z.cl[j]? with
   |none=>rw[hj]at hc;cases hc
   |some D=>
    rw[hj]at hc;cases hc;cases (show cv=Value.ref D from rc);exact jpI S hC hj
  |verr=>
   cases hb;cases hc;cases (show cv=Value.type _ from rc);exact jmT S hC
  |_=>cases hb
theorem jkI {K:Frag}{t:Value}{d:D}(h:∀(k:Ty) (c:V) (cv:Value) (b:Bool),jqK U d k=.ok b->clV Z k=some c->RelV c cv->PySem.W.kitOne K t cv=some b):∀{ks:List Ty}{cs:List V}{cvs:List Value}{b:Bool},jaq U d ks=.ok b->jqL Z ks=some cs->Vals cs cvs->PySem.W.kitAny K t cvs=some b
 |[],cs,cvs,b,h1,h2,h3=>by
  cases h2;cases h3;cases h1;rfl
 |k::ks,cs,cvs,b,h1,h2,h3=>by
  obtain⟨c,cs',e1,e2,rfl⟩:=jaI h2;cases h3 with
  |@cons _ cv _ cvs' r1 r2=>
   simp only[jaq]at h1;obtain⟨b1,q1,h1⟩:=R.bind_ok h1;have z:=h k c cv b1 q1 e1 r1;unfold PySem.W.kitAny;rw[z];cases b1 with
   |true=>cases h1;rfl
   |false=>exact jkI h h1 e2 r2
theorem jpJ {d:D}{t:Ty}{c:Nat}:tyP d t≠.err c:=by cases t <;> (intro z;cases z)
theorem jmU {d:D}{t:Ty}{c:Nat}:jqK U d t≠.err c:=by
 cases d with
 |exc e=>cases t <;> (intro z;cases z)
 |_=>exact jpJ
theorem jfK {d:D}{c:Nat}:∀{ks:List Ty},jaq U d ks≠.err c
 |[],z=>by cases z
 |k::ks,z=>by
  simp only[jaq]at z;cases e:jqK U d k with
  |ok b=>
   rw[e,R.bind_ok']at z;cases b with
   |true=>cases z
   |false=>exact jfK z
  |err c'=>exact jmU e
  |stk=>rw[e]at z;cases z
noncomputable def job (Z:Kn)(ks:List Ty)(y:V)(H:Hp):Prop:=(∃k,ks=[k]/\clV Z k=some y)\/∃p cs,y=.ref p/\jqL Z ks=some cs/\H p=some (.tup cs)
theorem jmV (S:Ecs U Z){X:Cx}(hK:X.K=Z.K){ks:List Ty}:CallR X (.builtin "isinstance") (fun xs H Q=>∃x y F d b,xs=[x,y]/\job Z ks y H/\RepB Z F H d x/\jaq U d ks=.ok b/\Q (.bl b) H):=by
 intro pins s σ H xs us Q I r h;obtain⟨x,y,F,d,b,rfl,hy,rp,hb,q⟩:=h;obtain⟨u,w',rfl,rx,ry⟩:=jtf r;obtain⟨t,P,kx,hp,hne,ho⟩:=jrR S hK I rp rx;rcases hy with ⟨k,rfl,hc⟩ | ⟨p,cs,rfl,hc,hH⟩
 ·have hb1:jqK U d k=.ok b:=by
   simp only[jaq]at hb;obtain⟨b1,e,hb⟩:=R.bind_ok hb;cases b1 <;> cases hb <;> exact e
  exact PySem.W.kia_one kx I.kIn hp (ho k y w' b hb1 hc ry) hne fun tk=>⟨.bl b,H,I.tok tk,rfl,q⟩
 ·cases (show w'=Value.ref p from ry);obtain⟨_,its,rv,o,h1,h2,n,h3⟩:=(show ObjOk X.prog X.w H s.heap p (.tup cs)from I.hok p _ hH);obtain⟨ocls,odict,odata,oslots⟩:=o;cases h2;cases h3;exact PySem.W.kia_tup kx I.kIn hp h1 (jkI ho hb hc rv) hne fun tk=>⟨.bl b,H,I.tok tk,rfl,q⟩
end
noncomputable def jtv (T:Tab)(x:Str):Option Ty:=if x="int" then some .int else if x="bool" then some .bool else if x="str" then some .str else if x="tuple" then some .tuple else if x="list" then some .list else if x="dict" then some .dict else if x="ValueError" then some .verr else (jd2 T.excs x).map .exc
section
variable {T:Tab}{G:Calls}{U:Nat->Nat->Bool}{Z:Kn}{m:Nat}{X:Cx}{sc:List (Str×NameKind)}{B:Bs}
theorem jrS (D:XD T G U Z m X sc){x:Str}{t:Ty}{pos:Pos}(hk:knd sc x=2)(hb:jeO x=false)(h:jtv T x=some t):∃v,clV Z t=some v/\PE X (.Name x pos) (tC v):=by
 have blt:∀{n:String}{y:Str},y∈bltNames->bootBuiltins y=some (.type n)->x=y->PE X (.Name x pos) (tC (.ty n)):=fun {n y} h1 h2 e=>by
  subst e;exact joI (D.gl hk) (D.blt _ h1) h2 rfl (jfI hb).2 (jfI hb).1
 unfold jtv at h;split at h
 ·rename_i e;cases h;exact⟨_,rfl,blt (by decide +kernel) (by decide +kernel) e⟩
 ·split at h
  ·rename_i e;cases h;exact⟨_,rfl,blt (by decide +kernel) (by decide +kernel) e⟩
  ·split at h
   ·rename_i e;cases h;exact⟨_,rfl,blt (by decide +kernel) (by decide +kernel) e⟩
   ·split at h
    ·rename_i e;cases h;exact⟨_,rfl,blt (by decide +kernel) (by decide +kernel) e⟩
    ·split at h
     ·rename_i e;cases h;exact⟨_,rfl,blt (by decide +kernel) (by decide +kernel) e⟩
     ·split at h
      ·rename_i e;cases h;exact⟨_,rfl,blt (by decide +kernel) (by decide +kernel) e⟩
      ·split at h
       ·rename_i e;cases h;exact⟨_,rfl,blt (by decide +kernel) (by decide +kernel) e⟩
       ·cases q:jd2 T.excs x with
        |none=>rw[q]at h;cases h
        |some i=>
         rw[q]at h;cases h;obtain⟨C,h1,h2⟩:=D.excs i x (jaS q);exact⟨.ref C,by simp[clV,h1],jjw (D.gl hk) h2 rfl (jfI hb).1⟩
noncomputable def jmW (T:Tab)(sc:List (Str×NameKind))(e:Expr):Option Ty:=(jiB e).bind fun x=>gd (jeO x || knd sc x != 2) (jtv T x)
noncomputable def jkJ (T:Tab)(sc:List (Str×NameKind))(e:Expr):Option (List Ty):=jn8 (jmH e) (mapO (jmW T sc)) ((jmW T sc e).map fun t=>[t])
theorem jhC (D:XD T G U Z m X sc){e:Expr}{t:Ty}(h:jmW T sc e=some t):(∃v,clV Z t=some v/\PE X e (tC v))/\∀a p,e≠.Starred a p:=by
 replace h:=jag h;obtain⟨x,hx,h⟩:=h;obtain⟨p,rfl⟩:=jba hx;replace h:=jap h;obtain⟨hc,h⟩:=h;obtain⟨c1,c2⟩:=jbU hc;exact⟨jrS D (jgv c2) c1 h,fun _ _ z=>by cases z⟩
noncomputable def tCs:List V->TA
 |[]=>jqJ
 |v::vs=>jjD (tC v) (tCs vs)
theorem joc:∀{vs:List V}{σ:L2.St}{H:Hp}{Q:List V->Hp->Prop},Q vs H->tCs vs σ H Q
 |[],_,_,_,q=>q
 |v::vs,σ,H,Q,q=>joc (vs:=vs) (Q:=fun xs H1=>Q (v::xs) H1) q
theorem jkK (D:XD T G U Z m X sc):∀{es:List Expr}{ks:List Ty},mapO (jmW T sc) es=some ks->∃cs,jqL Z ks=some cs/\PA X es (tCs cs)
 |[],ks,h=>by cases h;exact⟨[],rfl,jby⟩
 |e::es,ks,h=>by
  obtain⟨k,ks',h1,h2,rfl⟩:=jaI h;obtain⟨⟨v,e1,e2⟩,ns⟩:=jhC D h1;obtain⟨cs,e3,e4⟩:=jkK D h2;refine⟨v::cs,?_,jaK e2 e4 (jai ns)⟩;simp only[jqL,mapO]at e3 ⊢;rw[e1,e3]
theorem jhD:∀{ks:List Ty}{cs:List V},jqL Z ks=some cs->cs.length=ks.length
 |[],cs,h=>by cases h;rfl
 |k::ks,cs,h=>by
  obtain⟨c,cs',_,q2,rfl⟩:=jaI h;rw[jvf,jvf,jhD q2]
noncomputable def tCA (Z:Kn)(ks:List Ty):TE:=fun σ H Q=>(∀y,job Z ks y H->Q y H)/\∀p cs,H p=none->jqL Z ks=some cs->Q (.ref p) (upd H p (.tup cs))
theorem jpK (D:XD T G U Z m X sc){e:Expr}{ks:List Ty}(hl:ks.length<=100)(h:jkJ T sc e=some ks):PE X e (tCA Z ks)/\∀a p,e≠.Starred a p:=by
 replace h:=jbL h;rcases h with ⟨es,he,h⟩ | h
 ·obtain⟨k,p,rfl⟩:=jdN he;obtain⟨cs,e1,e2⟩:=jkK D h;refine⟨PE.imp (jnX e2) fun σ H Q q=>joc ⟨?_,fun p hp=>q.2 p cs hp e1⟩,fun _ _ z=>by cases z⟩
  rw[jhD e1,sizeLine_eq];omega
 ·replace h:=jax h;obtain⟨t,q,rfl⟩:=h;obtain⟨⟨v,e1,e2⟩,ns⟩:=jhC D q;exact⟨PE.imp e2 fun σ H Q z=>z.1 v (.inl ⟨t,rfl,e1⟩),ns⟩
theorem jpL (D:XD T G U Z m X sc){a e:Expr}{E1:E}{ks:List Ty}{p pos:Pos}(hf:knd sc "isinstance"=2)(hl:ks.length<=100)(h:PE X a (tE Z X B (evE G U E1)))(ns:∀e q,a≠.Starred e q)(hks:jkJ T sc e=some ks) :
  PE X (.Call (.Name "isinstance" p) [a,e] [] pos) (tE Z X B (evE G U (.isi E1 ks))):=by
 obtain⟨hp,ns2⟩:=jpK D hl hks;refine PE.imp (jb8 (jmV D.ecs D.hK (ks:=ks)) (D.gl hf) (D.blt _ (by decide +kernel)) (by decide +kernel) (jaK h (jaK hp jby (jai ns2)) (jai ns)) (by decide) (by decide) (jai ns) (jeP (jdx fun x hx=>by
  have:x=e:=by simpa using hx
  subst this;exact ns2))) fun σ H Q ⟨F,ρ,r,q⟩=>?_
 simp only[evE]at q;refine⟨F,ρ,r,q.bind.imp (fun _ w=>w) fun p1 h1 v F' H' g r' rv=>?_⟩;obtain⟨x,ex,h2⟩:=h1.bind.pure fun c=>jaP;obtain⟨b,eb,h3⟩:=h2.bind.pure fun c=>jfK;have rb:=ja9 rv r' ex;refine⟨fun y hy=>⟨v,y,F',x,b,rfl,hy,rb,eb,h3 _ F' H' g r' (by show Rep _ _ _ _ _;simp only[Rep])⟩,fun p cs hp hcs=>?_⟩
 have e:=Ext.newO (o:=.tup cs) r'.dom hp;have kp:=e.keep r'.dom;refine⟨v,.ref p,F',x,b,rfl,.inr ⟨p,cs,rfl,hcs,jan⟩,?_,eb,h3 _ F' _ (g.trans e.go) (r'.ext e) (by show Rep _ _ _ _ _;simp only[Rep])⟩
 rcases rb with rb | ⟨l,o,e1,e2,e3⟩
 ·exact .inl (rb.mono kp)
 ·obtain⟨w,hw⟩:=e3.some;exact .inr ⟨l,o,e1,e2,e3.mono kp (by rw[jaf (jac hw hp)])⟩
end
end DJ
namespace DJ
open PySem PySem.Spec PyProof.Rows L2
theorem jfL {M:Model}{A:Around}{E E':Value->Shared->Prop}{s:Shared}{B:Heap}{env:Env}{outer:List Env}{L e:Addr}{cls a0:Value}{Q:Shared->Prop}(hfr:A.frames=some (env::outer))(hf:env.frame=some L)(x:FlyA B (env::outer) e cls a0 s.heap)
  (hQ:∀h',Heap.FlyingW B (env::outer) e cls a0 h'->s.heap.UpToSlots h'->Q { s with heap:=h' }):wpAny M A (noteFrame (.ref e) env) (fun _ s₂=>wpAny M A (setFlight (.ref e) none) (fun _ s₃=>Q s₃) E s₂) E' s:=
 jho hfr hf hf x fun h1 held up1=>wpAny_landsW held fun h2 fl up2=>hQ h2 fl (up1.trans up2)
theorem jiD {M:Model}{A:Around}{E:Value->Shared->Prop}{s:Shared}{B:Heap}{env:Env}{outer:List Env}{L e:Addr}{cls a0:Value}{Q:Unit->Shared->Prop}(hfr:A.frames=some (env::outer))(hf:env.frame=some L)(x:FlyA B (env::outer) e cls a0 s.heap)
  (hQ:∀h',Heap.FlyingW B outer e cls a0 h'->s.heap.UpToSlots h'->Q () { s with heap:=h' }):wpAny M A (leaving env (.ref e)) Q E s:=by
 unfold leaving;refine jvx (jfL (Q:=fun s=>Q () s) hfr hf x fun h' fl up=>?_);obtain⟨k1,k2,⟨_,_,k3⟩,k4⟩:=fl;exact hQ h' ⟨k1,k2,k3,k4⟩ up
theorem jod {P:Program}{w:World}{H:Hp}{h:Heap}{a:Addr}{o:HO}(x:ObjOk P w H h a o):∃u,h.get? a=some u:=by
 cases o with
 |lst xs=>obtain⟨_,_,_,_,e⟩:=x;exact⟨_,e⟩
 |tup xs=>obtain⟨_,_,_,o,e,_⟩:=x;exact⟨_,e⟩
 |dK kvs=>obtain⟨_,_,_,_,o,_,_,e,_⟩:=x;exact⟨_,e⟩
 |dT kvs=>obtain⟨_,_,_,_,o,_,_,e,_⟩:=x;exact⟨_,e⟩
 |set S n=>obtain⟨o,_,_,_,e,_⟩:=x;exact⟨_,e⟩
 |ins C dx fs=>obtain⟨_,_,_,e,_⟩:=x;exact⟨_,e⟩
 |own y=>obtain⟨_,e⟩:=x;exact⟨_,e⟩
 |xd fs=>obtain⟨_,⟨_,_,_,e,_⟩,_⟩:=x;exact⟨_,e⟩
 |rng lo hi=>obtain⟨_,_,_,e⟩:=x;exact⟨_,e⟩
 |frz ob u=>obtain⟨e,_⟩:=x;exact⟨_,e⟩
 |tbl ps=>exact⟨_,(show h.get? a=some _ from x)⟩
 |met f y=>exact⟨_,(show h.get? a=some _ from x)⟩
 |ext φ=>obtain⟨_,⟨_,e⟩,_⟩:=x;exact⟨_,e⟩
theorem jkL {h base B:Heap}:∀{l:List Env},h.FunFrames base l->(∀b∈frs l,B.get? b=none)->h.FunFrames B l
 |[],_,_=>trivial
 |env::r,⟨k,⟨L,o,hf,_,ho,hd⟩,t⟩,hB=>⟨k,⟨L,o,hf,hB L (by simp[frs,hf]),ho,hd⟩,jkL t fun b hb=>hB b (by
  unfold frs at hb ⊢;rw[jvk,hf];exact ju6 _ hb)⟩
structure Has (X:Cx)(pins:List (Addr×Obj))(H':Hp)(B:Heap):Prop where
 s0:∀b o,X.s₀.heap.get? b=some o->b ∉ frs X.stack->b ∉ X.ex->∃o',B.get? b=some o'
 cl:∀x c,X.fn x=true->X.env.cells.lookup x=some c->∃o',B.get? c=some o'
 pn:∀p∈X.pn++pins,∃o',B.get? p.1=some o'
 tr:∀a o,H' a=some o->∃o',B.get? a=some o'
section
variable {X:Cx}{pins:List (Addr×Obj)}{σ:L2.St}{H:Hp}{s:Shared}{B h':Heap}
theorem Inv.cellNot (I:Inv X pins σ H s){x:Str}{c:Addr}(hf:X.fn x=true)(hc:X.env.cells.lookup x=some c):c ∉ frs X.stack:=fun z=>by
 rcases List.mem_cons.mp (I.stkSub c z)with z | z
 ·exact I.cne x c hc z
 ·have h1:=I.ok.cab x c hf hc;obtain⟨_,o',h2,_⟩:=I.ok.funs.mem z;exact absurd (jvG h2) (Nat.not_lt.mpr h1)
theorem Has.made (I:Inv X pins σ H s):Has X pins H (PySem.W.hideAll s.heap (frs X.stack)) where
 s0 b o e n nx:=by
  obtain⟨o',e'⟩:=I.base.there b o e nx;exact⟨o',PySem.W.hideAll_get _ e' n⟩
 cl x c hf hc:=by
  obtain⟨v,o,ho,_⟩:=I.cell x c hc;exact⟨o,PySem.W.hideAll_get _ ho (Inv.cellNot I hf hc)⟩
 pn p hp:=by
  obtain⟨h1,h2,h3,h4,_⟩:=I.pin p hp;refine⟨p.2,PySem.W.hideAll_get _ h1 fun z=>?_⟩;rcases List.mem_cons.mp (I.stkSub p.1 z)with z | z
  ·exact h3 z
  ·exact h4 z
 tr a o e:=by
  obtain⟨u,hu⟩:=jod (I.hok a o e);exact⟨u,PySem.W.hideAll_get _ hu fun z=>by rw[I.stkFree a z]at e;cases e⟩
theorem Inv.flownP {t':Nat}(I:Inv X pins σ H s)(hfn:∀x,X.fn x=true)(Hs:Has X pins H B)(k:B.StaysIn s.heap)(k':B.StaysIn h')(Pr:Addr->Prop)(h1:∀b∈X.fs,Pr b)(h2:Pr X.env.locals)(up:∀b o,Pr b->s.heap.get? b=some o->(∀vs,o.data≠.fields vs)->∃sl,h'.get? b=some { o with slots:=sl }):Inv X pins σ H { s with heap:=h',toks:=t' }:=by
 have same:∀{b:Addr}{o:Obj},(∃o',B.get? b=some o')->s.heap.get? b=some o->h'.get? b=some o:=fun {b o} ⟨o',e⟩ q=>by
  have:=k b o' e;rw[q]at this;cases this;exact k' b o e
 have notS:∀{b:Addr}{o:Obj},X.s₀.heap.get? b=some o->b ∉ X.fs->b ∉ frs X.stack:=fun {b o} e n z=>by
  rcases List.mem_cons.mp (I.stkSub b z)with z | z
  ·have:=jvG e;rw[z]at this;exact absurd this (Nat.not_lt.mpr I.ok.above)
  ·exact n z
 have cellK:∀{x:Str}{c:Addr}{v:Option Value},X.env.cells.lookup x=some c->s.heap.IsCell c v->h'.IsCell c v:=fun {x c v} hc ⟨o,ho,hd⟩=>⟨o,same (Hs.cl x c (hfn x) hc) ho,hd⟩;refine⟨I.ok,I.os,I.bare,⟨fun b o e n hb hx=>same (Hs.s0 b o e (notS e hb) hx) (I.base.keep b o e n hb hx),fun b o e n hb hx=>?_,I.base.free,fun b o e hx=>?_,I.base.tups,I.base.frzs,I.base.tbls⟩,?_,fun x c hc=>?_,I.free,I.freeC,fun p hp=>?_,fun a u e=>?_,I.len⟩
 ·obtain⟨sl,q⟩:=I.base.slot b o e n hb hx;obtain⟨_,o2,q2,q3⟩:=I.funs.mem hb;rw[q]at q2;cases q2;exact let ⟨sl',q'⟩:=up b _ (h1 b hb) q q3;⟨sl',q'⟩
 ·obtain⟨o',q⟩:=I.base.there b o e hx;by_cases hb:b∈X.fs
  ·obtain⟨_,o2,q2,q3⟩:=I.funs.mem hb;rw[q]at q2;cases q2;exact let ⟨sl',q'⟩:=up b _ (h1 b hb) q q3;⟨_,q'⟩
  ·exact⟨o',same (Hs.s0 b o e (notS e hb) hx) q⟩
 ·obtain⟨m,hn,hl⟩:=I.loc;have hn':h'.Ns X.env.locals m:=by
   obtain⟨o,es,ep,ho,hd,r⟩:=hn;obtain⟨sl,hs⟩:=up _ o h2 ho fun vs q=>by rw[hd]at q;cases q
   exact⟨_,es,ep,hs,hd,r⟩
  refine⟨m,hn',fun i x v h1 h2 h3=>?_⟩;obtain⟨u,ru,lk⟩:=hl i x v h1 h2 h3;refine⟨u,ru,?_⟩;rcases lk with lk | ⟨h4,c,h5,h6⟩
  ·exact .inl lk
  ·exact .inr ⟨h4,c,h5,cellK h5 h6⟩
 ·obtain⟨v,q⟩:=I.cell x c hc;exact⟨v,cellK hc q⟩
 ·obtain⟨h1,h2⟩:=I.pin p hp;exact⟨same (Hs.pn p hp) h1,h2⟩
 ·refine(I.hok a u e).stay (fun c w' hc q=>same (Hs.tr c (if c=a then u else .own a) ?_) q) (fun _ q=>q) fun _ _ q=>q;by_cases hca:c=a
  ·rw[if_pos hca,hca];exact e
  ·rw[if_neg hca];rcases hc with z | z
   ·exact absurd z hca
   ·exact z
theorem Inv.flown {t':Nat}(I:Inv X pins σ H s)(hfn:∀x,X.fn x=true)(Hs:Has X pins H B)(k:B.StaysIn s.heap)(k':B.StaysIn h')(up:s.heap.UpToSlots h'):Inv X pins σ H { s with heap:=h',toks:=t' }:=
 Inv.flownP I hfn Hs k k' (fun _=>True) (fun _ _=>trivial) trivial fun b o _=>up b o
end
end DJ
namespace DJ
open PySem PySem.Spec PyProof.Rows L2
theorem jhE {α:Type}{x:Bool}:(R.stk:R α).pass x=.stk:=by cases x <;> rfl
theorem jeR {α:Type}{x:Bool}{a:α}:(R.ok a).pass x=.ok a:=by cases x <;> rfl
theorem jhF {α β:Type}{x:Bool}{c:Nat}{W:Nat->Prop}{f:α->R β}{Q:β->Prop}(h:Ok W (((R.err c:R α).pass x).bind f) Q):x=true/\W c:=by
 cases x with
 |true=>exact⟨rfl,h⟩
 |false=>exact False.elim h
theorem Un.sameBut {fs ex:List Addr}{H H':Hp}{h h1 h2:Heap}{C:Addr}(u:Un fs ex H H' h h1)(hC:h.objs.size<=C)(s:Heap.SameBut C h1 h2):Un fs ex H H' h h2:=by
 have ne:∀b o,h.get? b=some o->b≠C:=fun b o e=>jvM (jvL (jvG e) hC);refine⟨fun b o e n hb hx=>(s.2 b (ne b o e)).trans (u.keep b o e n hb hx),fun b o e n hb hx=>?_,u.free,fun b o e hx=>?_,u.tups,u.frzs,u.tbls⟩
 ·obtain⟨sl,q⟩:=u.slot b o e n hb hx;exact⟨sl,(s.2 b (ne b o e)).trans q⟩
 ·obtain⟨o',q⟩:=u.there b o e hx;exact⟨o',(s.2 b (ne b o e)).trans q⟩
theorem HOk.sameBut {P:Program}{w:World}{H:Hp}{h1 h2:Heap}{C:Addr}(k:HOk P w H h1)(n:H C=none)(s:Heap.SameBut C h1 h2):HOk P w H h2:=fun b ob e=>by
 refine(k b ob e).stay (fun c w' hc q=>(s.2 c ?_).trans q) (fun _ q=>q) fun _ _ q=>q;rintro rfl;rcases hc with rfl | hc
 ·rw[n]at e;cases e
 ·rw[n]at hc;cases hc
section
variable {X:Cx}{scope:Scope}{N cn:List Str}{nt:Nat}{caps:List Nat}{B:Bs}{Z:Kn}{elt tg iter:Expr}{ks:List Expr}{pos:Pos}{tgs:List Nat}{one:Bool}{fi:Rho->R (List D×List Nat×Rho)}{fc:Option (Rho->R (Bool×Rho))}{fe:Rho->R (Vl×Rho)}
theorem jeS {pins:List (Addr×Obj)}{σ:L2.St}{H1:Hp}{s3:Shared}{fp:List Addr}(I3:Inv X pins σ H1 s3)(fo:∀b∈fp,(b∈X.ex\/X.s₀.heap.objs.size<=b)/\b≠X.env.locals/\(∀x c,X.env.cells.lookup x=some c->c≠b)/\∀p∈X.pn++pins,p.1≠b)
  {σ':L2.St}{H':Hp}{s':Shared}{E:Value->Shared->Prop}{pins':List (Addr×Obj)} (IY:Inv (cxComp X N scope s3 H1 fp E) pins' σ' H' s') {h':Heap} (sb:Heap.SameBut s3.heap.objs.size s'.heap h'):Inv X pins σ H' { s' with heap:=h' }:=
 I3.call' IY.os (Un.sameBut IY.base (jvK _) sb) (HOk.sameBut IY.hok IY.free sb) IY.bare fo
theorem jhG {pins pins':List (Addr×Obj)}{σ σ':L2.St}{H1 H':Hp}{s3 s':Shared}{fp:List Addr}{E:Value->Shared->Prop}{ea:Addr}{cls acc:Value}{use:Option (Value->Sem Unit)}{Q:Value->Shared->Prop}(Tp:TopX X)(I3:Inv X pins σ H1 s3)
  (fo:∀b∈fp,(b∈X.ex\/X.s₀.heap.objs.size<=b)/\b≠X.env.locals/\(∀x c,X.env.cells.lookup x=some c->c≠b)/\∀p∈X.pn++pins,p.1≠b) (IY:Inv (cxComp X N scope s3 H1 fp E) pins' σ' H' s') (fly:FlyC (cxComp X N scope s3 H1 fp E) pins' ea cls H' s')
  (k:∀s'',Inv X pins σ H' s''->FlyC X pins ea cls H' s''->X.xe (.ref ea) s'') :
  notedBy (model X.prog X.w) X.A (cxComp X N scope s3 H1 fp E).env (fun e s''=>compPost (model X.prog X.w) X.A X.xe use Q acc s3.heap.objs.size (.error e) s'') (.ref ea) s':=by
 obtain⟨⟨a0,B,fl,c1,c2,c3,c4⟩,hn⟩:=fly;have IX:Inv X pins σ H' s':=jeS I3 fo IY (Heap.SameBut.refl _ _);have old:∀{b:Addr}{o:Obj},s3.heap.get? b=some o->b ∉ frs X.stack->b ∉ fp->∃o',(PySem.W.hideAll B [s3.heap.objs.size]).get? b=some o':=fun {b o} e n nf=>by
  obtain⟨o',q⟩:=c1 b o e n nf;exact⟨o',PySem.W.hideAll_get _ q fun z=>absurd (List.mem_singleton.mp z) (jvM (jvG e))⟩
 have Hs:Has X pins H' (PySem.W.hideAll B [s3.heap.objs.size]):=by
  refine⟨fun b o e n nx=>?_,fun x c hf hc=>?_,fun p hp=>?_,fun a o e=>?_⟩
  ·obtain⟨o',e'⟩:=I3.base.there b o e nx;exact old e' n fun z=>(fo b z).1.elim nx fun q=>absurd (jvG e) (Nat.not_lt.mpr q)
  ·obtain⟨v,o,ho,_⟩:=I3.cell x c hc;exact old ho (Inv.cellNot I3 hf hc) fun z=>(fo c z).2.2.1 x c hc rfl
  ·obtain⟨h1,h2,h3,h4,_⟩:=I3.pin p hp;refine old h1 (fun z=>?_) fun z=>(fo p.1 z).2.2.2 p hp rfl;rcases List.mem_cons.mp (I3.stkSub p.1 z)with z | z
   ·exact h3 z
   ·exact h4 z
  ·obtain⟨o',q⟩:=c4 a o e;refine⟨o',PySem.W.hideAll_get _ q fun z=>?_⟩;rw[List.mem_singleton.mp z,show H' s3.heap.objs.size=none from IY.free]at e;cases e
 have hst:=Tp.st;have nC:s3.heap.objs.size ∉ frs X.stack:=fun z=>by
  obtain⟨_,o,q,_⟩:=I3.stack.mem z;exact absurd (jvG q) (jvO _)
 have fl2:FlyA (PySem.W.hideAll B [s3.heap.objs.size]) (X.env::X.outer) ea cls a0 s'.heap:=by
  obtain⟨f,k1,k2,k3,oe,vs,T,oT,ts,he,hc,hd,h1,hnT,r⟩:=fl;have sub:∀{b:Addr},B.get? b=none->(PySem.W.hideAll B [s3.heap.objs.size]).get? b=none:=fun {b} q=>by
   cases e:(PySem.W.hideAll B [s3.heap.objs.size]).get? b with
   |none=>rfl
   |some o=>rw[PySem.W.of_hideAll _ e]at q;cases q
  refine⟨f,fun b o e=>k1 b o (PySem.W.of_hideAll _ e),sub k2,?_,oe,vs,T,oT,ts,he,hc,hd,h1,sub hnT,r⟩;rw[<-hst];exact jkL k3 fun b hb=>sub (k3.mem hb).1
 obtain⟨m,hns,_⟩:=IY.loc;have hns:s'.heap.Ns s3.heap.objs.size m:=hns;have frm:X.A.frames=some (X.env::X.outer):=by rw[<-hst];exact I3.ok.frames
 refine jho (L:=X.env.locals) frm Tp.fr (show (cxComp X N scope s3 H1 fp E).env.frame=some X.env.locals from Tp.fr) fl2 fun h4 held up4=>?_;have fin:∃m,h4.Ns s3.heap.objs.size m/\∀h',Heap.SameBut s3.heap.objs.size h4 h'->∀cenv:Env,cenv.locals=s3.heap.objs.size->wpAny (model X.prog X.w) X.A (PySem.passOn "comprehension.variables-let-go" (.ref ea) cenv:Sem Value) (fun _ _=>False) X.xe { s' with heap:=h' }:=by
  refine⟨m,up4.ns hns,fun h' sb cenv _=>?_⟩;refine jme (s:={ s' with heap:=h' }) (FlyA.but (FlyA.held held) (up4.ns hns) (PySem.W.hideAll_none _ (List.mem_singleton.mpr rfl)) (by rw[<-hst];exact nC) sb) fun h6 fl6 up6=>?_
  have I6:Inv X pins σ H' { s' with heap:=h6 }:=Inv.flownP (t':=s'.toks) IX Tp.fn Hs fl2.stays fl6.stays (fun b=>b≠s3.heap.objs.size) (fun b hb z=>nC (by rw[<-z,hst];unfold frs;rw[jvk,Tp.fr];exact ju6 _ hb))
   (fun z=>nC (by rw[<-z,hst];unfold frs;rw[jvk,Tp.fr];exact ju7)) fun b o nb e nf=>by
    obtain⟨sl,q⟩:=up4 b o e nf;obtain⟨sl2,q2⟩:=up6 b _ ((sb.2 b nb).trans q) nf;exact⟨sl2,q2⟩
  exact k _ I6 ⟨⟨a0,_,by rw[hst];exact fl6,Hs.s0,Hs.cl,Hs.pn,Hs.tr⟩,hn⟩
 cases use <;> exact fin
theorem CompOk.capLt (C:CompOk X scope N cn nt caps):∀j∈caps,j < X.N.length:=fun j hj=>by
 obtain⟨k,hk,e⟩:=List.getElem_of_mem hj;have hk':k < cn.length:=by rw[C.clen];exact hk
 obtain⟨h1,_⟩:=C.at_ k j cn[k] (ju5 hk') (by rw[ju5 hk,e])
 exact(List.getElem?_eq_some_iff.mp h1).1
theorem jpM (hK:X.K=Z.K)(hc:X.calm=true)(C:CompOk X scope N cn nt caps)(hi:PI X tg iter (tI Z X B fi))
  (hT:∀s' H' fp E,TgOk (cxComp X N scope s' H' fp E) tg tgs one) (hlow:∀i∈tgs,i < nt)
  (hE:∀s' H' fp E B',PE (cxComp X N scope s' H' fp E) elt (tE Z (cxComp X N scope s' H' fp E) B' fe)) {xx:Bool} (Tp:xx=true->TopX X)
  (hk:(ks=[]/\fc=none)\/∃k g,ks=[k]/\fc=some g/\∀s' H' fp E B',PT (cxComp X N scope s' H' fp E) k (tT Z (cxComp X N scope s' H' fp E) B' g)) (hs:∀x,foldedSetIterable iter X.env x=pure x) :
  PE X (.ListComp elt [⟨tg,iter,ks,0⟩] scope pos) (tE Z X B fun ρ=>(fi ρ).bind fun t=>((compGo (jdL tgs one nt caps fc fe) t.1 t.2.2).pass xx).bind fun ys=>.ok (.tmp (.l ys.1),unlk t.2.1 ys.2)):=by
 intro pins s σ H Q I hz1;obtain⟨F,ρ,r,h⟩:=hz1;rw[eval_ListComp];refine wpAny_comprehension_free (use:=none) rfl hs (jke (C.cells I)) C.kind C.names ?_;refine thn (hi pins s σ H (fun J H'=>∃(F':Addr->Prop) (t:List D×List Nat×Rho) (ls:List Addr),ItR Z B σ ρ F H t.2.2 F' H' t.2.1 ls/\ItmG Z (GK F' H' ls) J t.1/\Ok (XW Z X σ ρ H) (((compGo (jdL tgs one nt caps fc fe) t.1 t.2.2).pass xx).bind fun ys=>.ok (.tmp (.l ys.1),unlk t.2.1 ys.2)) (Post Z B σ ρ F H Q)) I
  ⟨F,ρ,r,h.bind.imp (fun _ w=>w) fun t h1 F' H' J ls ir im=>⟨F',t,ls,ir,im,h1⟩⟩) fun v s1 h1=>thn h1 fun itv s2 hzz=>?_
 obtain⟨it,fp,tn,J,H2,e,I2,Tn,st2,f2,F2,t,ls,ir,im,q2⟩:=hzz;subst e;have fo:∀b∈fp,(b∈X.ex\/X.s₀.heap.objs.size<=b)/\b≠X.env.locals/\(∀x c,X.env.cells.lookup x=some c->c≠b)/\∀p∈X.pn++pins,p.1≠b:=fun b hb=>by
  obtain⟨f0,f1,f3,f4,f5,f6⟩:=f2 b hb;exact⟨f4,f1,f5,f6⟩
 refine jhx (fc:=fc) (RR:=fun acc C'=>compPost (model X.prog X.w) X.A X.xe none (EP X pins σ Q) acc C') hK hc C I2 ir.sr (im.wk hK (fun l hl=>(ir.on l hl).1) Tn) (fun l hl=>(ir.on l hl).2) st2 f2 (fun s' H' E=>hT s' H' fp E) hlow (fun j hj=>?_) (fun s' H' E B'=>hE s' H' fp E B') ?_ rfl (fun z=>?_) ?_ ?_
 ·rw[ir.sr.len,I2.len];exact C.capLt j hj
 ·rcases hk with z | ⟨k,g,e1,e2,hk⟩
  ·exact .inl z
  ·exact .inr ⟨k,g,e1,e2,fun s' H' E B'=>hk s' H' fp E B'⟩
 ·rw[z,jhE]at q2;exact q2
 ·intro ys ρE E s3 l σ' F' H' s' vs hY hl I3 IY gE rE nF nO hl' rp;rw[hY,jeR]at q2;have q2:Post Z B σ ρ F H Q (.tmp (.l ys),unlk t.2.1 ρE):=q2;obtain⟨m,hn,_⟩:=IY.loc;refine⟨m,hn,fun h' sb=>?_⟩;exact⟨.ref l,H',jeS I3 fo IY sb,rfl,q2 _ F' H' (ir.un σ ρE F' H' gE) rE.unlk ⟨l,rfl,nF,fun z=>nO z.unlk,ir.go.free hl,vs,hl',rp⟩⟩
 ·intro c E s3 l σ' H' s' pins' ea Cc hY hl I3 hC IY stl fly;rw[hY]at q2;obtain⟨hx,q2⟩:=jhF q2;exact jhG (Tp hx) I3 fo IY fly fun s'' I'' fl''=>q2 pins H' s'' ea Cc hC I'' (Stl.go ir.go stl) fl''
end
theorem XD.comp {T:Tab}{G:Calls}{U:Nat->Nat->Bool}{Z:Kn}{n:Nat}{X:Cx}{sc:List (Str×NameKind)}(D:XD T G U Z n X sc){scope:Scope}{N:List Str}{s:Shared}{H:Hp}{fp:List Addr}{E:Value->Shared->Prop}(nd:N.Nodup):XD { T with deep:=true } G U Z n (cxComp X N scope s H fp E) scope.names where
 hK:=D.hK
 calm:=D.calm
 nd:=nd
 room:=D.room
 un:=D.un
 sc:=fun x=>by
  show (relabel scope X.env).names.lookup x=_\/_/\(relabel scope X.env).names.lookup x=_;unfold relabel;simp only;rw[jbf (c:=fun n k=>k == .free && X.env.scope.kind == .function && X.env.kindOf n == some .cell)];cases e:scope.names.lookup x with
  |none=>exact .inl rfl
  |some k=>
   simp only[Option.map_some];split
   ·rename_i h;simp only[jvP,beq_iff_eq]at h;exact .inr ⟨by rw[h.1.1],rfl⟩
   ·exact .inl rfl
 blt:=D.blt
 defs:=D.defs
 cons:=D.cons
 excs:=D.excs
 ecl:=D.ecl
 sub:=D.sub
 top:=fun z=>nomatch z
section
variable {T:Tab}{G:Calls}{U:Nat->Nat->Bool}{Z:Kn}{m:Nat}{X:Cx}{sc:List (Str×NameKind)}{B:Bs}
theorem tE.blt {f:Bf}{E1:E}{σ:L2.St}{H:Hp}{Q:VK}{rr:List V->Hp->VK->Prop}(hr:∀x H Q,rD1 Z (bfD f) x H Q->rr [x] H Q)(h:tE Z X B (evE G U (.blt f E1)) σ H Q):tCB rr (jjD (tE Z X B (evE G U E1)) jqJ) σ H Q:=by
 have h2:tE Z X B (fun ρ=>(evE G U E1 ρ).bind fun p=>(deref p.1 p.2).bind fun x=>(bfD f x).bind fun v=>.ok (v,p.2)) σ H Q:=by simpa only[evE] using h
 obtain⟨F,ρ,r,h3⟩:=tE.one (fun x c=>jpr) (fun x i=>jmF) h2;exact⟨F,ρ,r,h3.imp (fun _ w=>w) fun p q v F' H' g r' rv=>hr v H' Q (q v F' H' g r' rv)⟩
theorem jkM:∀(a b:List Int),lexLt a b=HS.lx a b
 |[],[]=>rfl
 |[],_::_=>rfl
 |_::_,[]=>rfl
 |x::xs,y::ys=>by simp only[lexLt,HS.lx,jkM xs ys]
theorem jdT (x:List Int):∀(l:List (List Int)),(jhr x l).Perm (x::l)
 |[]=>.refl _
 |y::r=>by
  simp only[jhr];split
  ·exact((jdT x r).cons y).trans (.swap x y r)
  ·exact .refl _
theorem jej:∀(l:List (List Int)),(jbH l).Perm l
 |[]=>.refl _
 |x::r=>(jdT x (jbH r)).trans ((jej r).cons x)
theorem jfM {x:List Int}:∀{l:List (List Int)},HS.Rise l->HS.Rise (jhr x l)
 |[],_=>List.pairwise_singleton _ _
 |y::r,h=>by
  obtain⟨h1,h2⟩:=List.pairwise_cons.mp h;simp only[jhr];split
  ·rename_i e;refine List.pairwise_cons.mpr ⟨fun z hz=>?_,jfM h2⟩;rcases List.mem_cons.mp ((jdT x r).mem_iff.mp hz)with rfl | hz
   ·rw[jkM]at e;exact HS.jgn e
   ·exact h1 z hz
  ·rename_i e;have e:HS.lx y x=false:=by rw[<-jkM];simpa using e
   refine List.pairwise_cons.mpr ⟨fun z hz=>?_,h⟩;rcases List.mem_cons.mp hz with rfl | hz
   ·exact e
   ·exact HS.jeF e (h1 z hz)
theorem jek:∀(l:List (List Int)),HS.Rise (jbH l)
 |[]=>List.Pairwise.nil
 |x::r=>jfM (jek r)
noncomputable def Zf (Z:Kn)(F:Addr->Prop)(H:Hp)(k:List Int)(b:Addr):Prop:=FT Z.K F H b (k.map V.int)
theorem jhH {F:Addr->Prop}{H:Hp}:∀{ds:List D}{kss:List (List Int)}{vs:List V},jbA ds=some kss->Reps Z F H ds vs->KysV (Zf Z F H) kss vs
 |[],kss,vs,h,r=>by simp only[Reps]at r;subst r;cases h;exact .nil
 |d::ds,kss,vs,h,r=>by
  obtain⟨v,us,rfl,r1,r2⟩:=r.uncons;cases d with
  |tup xs=>
   simp only[jbA]at h;split at h
   ·rename_i k ks e1 e2;cases h;simp only[Rep]at r1;obtain⟨a,ws,rfl,ft,rr⟩:=r1;cases jcB e1 rr;exact .cons ⟨a,rfl,ft⟩ (jhH e2 r2)
   ·cases h
  |_=>cases h
theorem jkN {F:Addr->Prop}{H:Hp}{kss:List (List Int)}{vs:List V}(h:KysV (Zf Z F H) kss vs):Reps Z F H (kss.map jsQ) vs:=by
 induction h with
 |nil=>exact .nil
 |@cons k _ _ _ h p ih=>
  obtain⟨b,e,h⟩:=h;subst e;refine .cons ?_ ih;simp only[jsQ,Rep];refine⟨b,_,rfl,h,?_⟩;clear h p ih;induction k with
  |nil=>exact .nil
  |cons i k ih=>exact .cons (by simp only[Rep]) ih
theorem jhI:∀{ds:List D}{kss:List (List Int)},jbA ds=some kss->kss.length=ds.length
 |[],kss,h=>by cases h;rfl
 |d::ds,kss,h=>by
  cases d with
  |tup xs=>
   simp only[jbA]at h;split at h
   ·rename_i k ks e1 e2;cases h;rw[jvf,jvf,jhI e2]
   ·cases h
  |_=>cases h
theorem jkO {kss:List (List Int)}{w:Vl}(h:jeG kss=.ok w):w=.tmp (.l ((jbH kss).map jsQ))/\(∀k∈kss,k≠[])/\kss.length < 64:=by
 unfold jeG at h;split at h
 ·rename_i hc;cases h;simp only[jvP,jvo,decide_eq_true_eq]at hc;refine⟨rfl,fun k hk z=>?_,hc.2⟩;have:=hc.1 k hk;rw[z]at this;cases this
 ·cases h
theorem jrT (hZ:X.K=Z.K){F:Addr->Prop}{H:Hp}:Zok X.K H (Zf Z F H):=fun k b h=>by rw[hZ];exact h.sq
theorem jkP (hZ:X.K=Z.K):∀x H Q,rD1 Z (bfD .sorted) x H Q->jrz X [x] H Q:=by
 intro x H Q hz1;obtain⟨F,d,w,dm,rp,hw,h⟩:=hz1;cases d with
 |lst xs=>
  simp only[bfD]at hw;cases e:jbA xs with
  |none=>rw[e]at hw;cases hw
  |some kss=>
   rw[e]at hw;obtain⟨rfl,h1,h2⟩:=jkO hw;obtain⟨a,vs,rfl,ft,r⟩:=rp.lst;refine⟨a,vs,kss,Zf Z F H,rfl,by rw[hZ];exact ft,jrT hZ,jhH e r,h1,by rw[<-r.length,<-jhI e];exact h2,fun kss' ws hp hr hk l hl=>?_⟩
   rw[HS.jfz (hp.trans (jej kss).symm) hr (jek kss)]at hk;exact h.lst dm (jkN hk) l hl
 |_=>simp only[bfD,ja5]at hw;cases hw
noncomputable def juj (quiet:Bool)(f:Str):Option Bf:=
 alt (f == "len") (some .len) <|
 alt (f == "tuple") (some .tuple) <|
 alt (f == "int") (some .int) <|
 alt (f == "str") (some .str) <|
 gd quiet <|
 alt (f == "all") (some .all) <|
 alt (f == "any") (some .any) <|
 alt (f == "sum") (some .sum) <|
 alt (f == "sorted") (some .sorted) <|
 none
theorem jpN (D:XD T G U Z m X sc){f:Str}{g:Bf}{a:Expr}{E1:E}{p pos:Pos}(hf:knd sc f=2)(hb:jeO f=false)(S:PE X a (tE Z X B (evE G U E1)))(ns:∀e q,a≠.Starred e q)(hg:juj T.quiet f=some g) :
  PE X (.Call (.Name f p) [a] [] pos) (tE Z X B (evE G U (.blt g E1))):=by
 have hpa:PA X [a] (jjD (tE Z X B (evE G U E1)) jqJ):=jaK S jby (jai ns);have he:starEach [a] X.env=(false,eval a X.env)::starEach [] X.env:=jai ns;have hd:=(jfI hb).1;have hn:=(jfI hb).2;rcases jaC hg with ⟨e,hg⟩ | hg
 ·cases hg;cases jc3 e;exact PE.imp (jb8 (call_len_seq.or jfp) (D.gl hf) (D.blt _ (by decide +kernel)) PySem.boot_len hpa hn hd he rfl) fun σ H Q q=>tE.blt (jrE D.hK) q
 rcases jaC hg with ⟨e,hg⟩ | hg
 ·cases hg;cases jc3 e;exact PE.imp (jbi jev (D.gl hf) (D.blt _ (by decide +kernel)) (by decide +kernel) hpa hn hd he rfl) fun σ H Q q=>tE.blt (jmE D.hK) q
 rcases jaC hg with ⟨e,hg⟩ | hg
 ·cases hg;cases jc3 e;exact PE.imp (jbi (call_int1.or jjU) (D.gl hf) (D.blt _ (by decide +kernel)) (by decide +kernel) hpa hn hd he rfl) fun σ H Q q=>tE.blt jrG q
 rcases jaC hg with ⟨e,hg⟩ | hg
 ·cases hg;cases jc3 e;exact PE.imp (jbi jjR (D.gl hf) (D.blt _ (by decide +kernel)) (by decide +kernel) hpa hn hd he rfl) fun σ H Q q=>tE.blt bf_str q
 obtain⟨hq,hg⟩:=jap hg;have hc:X.calm=true:=D.calm hq;rcases jaC hg with ⟨e,hg⟩ | hg
 ·cases hg;cases jc3 e;exact PE.imp (jb8 (jft hc true) (D.gl hf) (D.blt _ (by decide +kernel)) (by decide +kernel) hpa hn hd he rfl) fun σ H Q q=>tE.blt (f:=.all) (jn6 D.hK true) q
 rcases jaC hg with ⟨e,hg⟩ | hg
 ·cases hg;cases jc3 e;exact PE.imp (jb8 (jft hc false) (D.gl hf) (D.blt _ (by decide +kernel)) (by decide +kernel) hpa hn hd he rfl) fun σ H Q q=>tE.blt (f:=.any) (jn6 D.hK false) q
 rcases jaC hg with ⟨e,hg⟩ | hg
 ·cases hg;cases jc3 e;exact PE.imp (jb8 (jmC hc) (D.gl hf) (D.blt _ (by decide +kernel)) (by decide +kernel) hpa hn hd he rfl) fun σ H Q q=>tE.blt (jrF D.hK) q
 rcases jaC hg with ⟨e,hg⟩ | hg
 ·cases hg;cases jc3 e;exact PE.imp (jb8 jfA (D.gl hf) (D.blt _ (by decide +kernel)) (by decide +kernel) hpa hn hd he rfl) fun σ H Q q=>tE.blt (jkP D.hK) q
 exact jaj hg
noncomputable def juk (f:Str):Option Sm:=alt (f == "join") (some .join) <| alt (f == "count") (some .cnt) <| alt (f == "split") (some .splt) <|
 none
theorem jfN (f:Sm)(x:Str)(d:D):jeN (smD f x d):=by
 cases f with
 |join=>cases d with
  |lst xs=>
   show jeN (match jcm xs with | some ys=>if (ys.map (·.length)).sum + ys.length * x.length<=16777216 then .ok (.dat (.str (Txt.join x ys)))else .stk | none=>.stk)
   cases jcm xs with
   |none=>trivial
   |some ys=>exact jbk trivial
  |_=>trivial
 |cnt=>cases d <;> trivial
 |splt=>cases d with
  |str y=>exact jbk trivial
  |_=>trivial
theorem jpO {f:Sm}{x:Str}{d:D}{c:Nat}:smD f x d≠.err c:=by
 intro h;have:=jfN f x d;rw[h]at this;exact this
theorem jmX {f:Sm}{x:Str}{d:D}{i:Nat}:smD f x d≠.ok (.slot i):=by
 intro h;have:=jfN f x d;rw[h]at this;exact this
inductive rSm (Z:Kn) (f:Sm) (x:V) (xs:List V) (H:Hp) (Q:VK):Prop
 |mk (z:Str) (y:V) (F:Addr->Prop) (d:D) (w:Vl):x=.str z->xs=[y]->Dom F H->RepB Z F H d y->smD f z d=.ok w->PostV Z F H Q w->rSm Z f x xs H Q
theorem jhJ {Z:Kn}{F:Addr->Prop}{H:Hp}:∀{ds:List D}{ys:List Str}{vs:List V},jcm ds=some ys->Reps Z F H ds vs->vs=ys.map V.str
 |[],ys,vs,h,r=>by simp only[Reps]at r;subst r;cases h;rfl
 |d::ds,ys,vs,h,r=>by
  simp only[Reps]at r;obtain⟨v,us,rfl,r1,r2⟩:=r;cases d with
  |str x=>
   simp only[jcm]at h;cases q:jcm ds with
   |none=>rw[q]at h;cases h
   |some ms=>
    rw[q]at h;cases h;simp only[Rep]at r1;rw[r1,jhJ q r2];rfl
  |_=>cases h
theorem jfO {Z:Kn}{F:Addr->Prop}{H:Hp}:∀{ys:List Str},Reps Z F H (ys.map D.str) (ys.map V.str)
 |[]=>by simp only[List.map_nil,Reps]
 |y::ys=>.cons (by simp only[Rep]) (jfO (ys:=ys))
theorem jrU (hZ:X.K=Z.K){f:Sm}{nm:Str}(hf:juk nm=some f){o a:Expr}{Eo Ea:E}{apos cpos:Pos}(So:PE X o (tE Z X B (evE G U Eo)))(Sa:PE X a (tE Z X B (evE G U Ea)))(ns:∀e q,a≠.Starred e q)
  (hbase:attributeBase o nm X.env (eval o X.env)=eval o X.env) (hline:(apos.endLine == cpos.line)=true):PE X (.Call (.Attribute o nm apos) [a] [] cpos) (tE Z X B (evE G U (.sm f Eo Ea))):=by
 have key:∀{id:String},Slot "str" nm id->typeOf (.builtin id)=pure (.type "method_descriptor")->MtR X id (rSm Z f)->PE X (.Call (.Attribute o nm apos) [a] [] cpos) (tE Z X B (evE G U (.sm f Eo Ea))):=fun {id} slot hty hm=>by
  refine PE.imp (jro PySem.F.plainAttrs_str slot hty hm So (jaK Sa jby (jai ns)) hbase (by rw[jai ns];rfl) hline (jai ns) rfl) fun σ H Q h=>?_
  obtain⟨F,ρ,r,q⟩:=h;simp only[evE]at q;refine⟨F,ρ,r,q.bind.imp (fun _ w=>w) fun p h1 v F1 H1 g1 r1 rv=>?_⟩;obtain⟨w,ρ1⟩:=p;cases w with
  |dat d=>
   cases d with
   |str z=>
    have rv:Rep Z F1 H1 (.str z) v:=rv;simp only[Rep]at rv;subst rv;refine⟨rfl,F1,ρ1,r1,Ok.imp (Ok.bind h1) (fun c w=>w.mono g1) fun q h2 u F2 H2 g2 r2 ru=>?_⟩;obtain⟨d,ed,h3⟩:=h2.bind.pure fun c=>jaP;obtain⟨w,ew,h4⟩:=h3.bind.pure fun c=>jpO;exact⟨z,u,F2,d,w,rfl,rfl,r2.dom,ja9 ru r2 ed,ew,Post.toV h4 (g1.trans g2) r2 fun i z=>jmX (by rw[ew,z])⟩
   |_=>exact False.elim h1
  |_=>exact False.elim h1
 rcases jaC hf with ⟨e,hf⟩ | hf
 ·cases hf;cases jc3 e;refine key PySem.F.slot_str_join PySem.F.type_str_join fun pins s σ H x xs v us Q I rx rs h=>?_;obtain⟨z,y,F,d,w,rfl,rfl,dm,rp,hw,h⟩:=h;cases d with
  |lst ds=>
   simp only[smD]at hw;cases e:jcm ds with
   |none=>rw[e]at hw;cases hw
   |some ys=>
    rw[e]at hw;obtain⟨hl,rfl⟩:=jbj hw;obtain⟨p,vs,rfl,sq,r⟩:=rp.lst;cases jhJ e r;exact jo5 pins s σ H _ _ v us Q I rx rs ⟨z,p,ys,rfl,rfl,(by rw[hZ];exact sq),hl,h.sc dm (by simp only[Rep])⟩
  |_=>cases hw
 rcases jaC hf with ⟨e,hf⟩ | hf
 ·cases hf;cases jc3 e;refine key PySem.F.slot_str_count PySem.F.type_str_count fun pins s σ H x xs v us Q I rx rs h=>?_;obtain⟨z,y,F,d,w,rfl,rfl,dm,rp,hw,h⟩:=h;cases d with
  |str y=>cases hw;cases rp.str;exact jmf pins s σ H _ _ v us Q I rx rs ⟨z,y,rfl,rfl,h.int dm⟩
  |_=>cases hw
 rcases jaC hf with ⟨e,hf⟩ | hf
 ·cases hf;cases jc3 e;refine key PySem.F.slot_str_split PySem.F.type_str_split fun pins s σ H x xs v us Q I rx rs h=>?_;obtain⟨z,y,F,d,w,rfl,rfl,dm,rp,hw,h⟩:=h;cases d with
  |str y=>
   obtain⟨hl,rfl⟩:=jbj hw;cases rp.str;simp only[jvP,bne_iff_ne]at hl;exact jmg pins s σ H _ _ v us Q I rx rs ⟨z,y,rfl,rfl,by simpa using hl.1.1,jaQ hl.1.2,jaQ hl.2,fun p hp=>h.lst dm jfO p hp⟩
  |_=>cases hw
 exact jaj hf
theorem jpP {K:Frag}{H:Hp}{I a:Addr}{o:HO}{vs:List V}(h:SqT K H a vs)(hn:H I=none):SqT K (upd H I o) a vs:=by
 rcases h with (h | ⟨u,h⟩) | h
 ·exact .inl (.inl (by rw[jaf (jac h hn)];exact h))
 ·exact .inl (.inr ⟨u,by rw[jaf (jac h hn)];exact h⟩)
 ·exact .inr h
noncomputable def juK (X:Cx):List V->Hp->VK->Prop:=fun xs H Q=>∃p ys,xs=[.ref p]/\SqT X.K H p ys/\∀I,H I=none->Q (.ref I) (upd H I (.ext (RT.Phi X I p ys.length)))
noncomputable def juL (X:Cx):List V->Hp->VK->Prop:=fun xs H Q=>∃I p ys,xs=[.ref I]/\H I=some (.ext (RT.Phi X I p ys.length))/\SqT X.K H p ys/\∀l,del H I l=none->Q (.ref l) (upd (del H I) l (.tup ys.reverse))
noncomputable def rAI (X:Cx):List V->Hp->VK->Prop:=juK X
noncomputable def rAT (X:Cx):List V->Hp->VK->Prop:=juL X
theorem jmY:CallR X (.type "reversed") (rAI X):=RT.jd6
theorem jmZ (hc:X.calm=true):CallR X (.type "tuple") (rAT X):=RT.jeB hc
theorem jpQ (hZ:X.K=Z.K):∀x H Q,rD1 Z (bfD .revt) x H Q->rAI X [x] H fun v H'=>rAT X [v] H' Q:=by
 intro x H Q hz1;obtain⟨F,d,w,dm,rp,hw,h⟩:=hz1;cases d with
 |tup xs=>
  cases hw;obtain⟨a,vs,rfl,ft,r⟩:=rp.tup;have sq:SqT X.K H a vs:=by rw[hZ];exact ft.sq
  refine⟨a,vs,rfl,sq,fun I hI=>⟨I,a,vs,rfl,jan,jpP sq hI,fun l hl=>?_⟩⟩;rw[jo9 hI]at hl ⊢;exact h.tup dm r.reverse l hl
 |_=>cases hw
theorem jpR:∀x H Q,rD1 Z (bfD .lrng) x H Q->jo6 X [x] H fun v H'=>jo7 X [v] H' Q:=by
 intro x H Q hz1;obtain⟨F,d,w,dm,rp,hw,h⟩:=hz1;cases d with
 |int n=>
  obtain⟨⟨h0,h1⟩,rfl⟩:=jbj hw;cases rp.int;refine⟨n,rfl,fun I hI=>⟨I,n,rfl,jan,h0,h1,fun l hl=>?_⟩⟩;have hlI:l≠I:=fun z=>by rw[z,jan]at hl;cases hl
  have hl0:H l=none:=by rw[jaf hlI]at hl;exact hl
  have e1:=Ext.newO (o:=.rng 0 n) dm hI;have e2:=Ext.newO (o:=.lst ((List.range n.toNat).map fun (k:Nat)=>V.int k)) e1.dom hl;refine h _ _ _ (e1.trans e2) fun σ ρ B sr=>⟨l,rfl,fun z=>?_,fun z=>?_,hl0,_,jan,?_⟩
  ·obtain⟨o,e⟩:=dm l z;rw[hl0]at e;cases e
  ·obtain⟨u,e⟩:=sr.there z;rw[hl0]at e;cases e
  ·have key:∀ks:List Nat,Reps Z F (upd (upd H I (.rng 0 n)) l (.lst ((List.range n.toNat).map fun (k:Nat)=>V.int k))) (ks.map fun (k:Nat)=>D.int (0 + (k:Int))) (ks.map fun (k:Nat)=>V.int k):=fun ks=>by
    induction ks with
    |nil=>simp only[List.map_nil,Reps]
    |cons k ks ih=>exact .cons (by simp only[Rep,Int.zero_add]) ih
   exact key _
 |_=>cases hw
noncomputable def jpS (f g:Str):Option Bf:=
 alt (f == "tuple" && g == "reversed") (some .revt) <|
 alt (f == "list" && g == "range") (some .lrng) <|
 none
theorem joe {a b c d:Str}(h:(a == b && c == d)=true):a=b/\c=d:=by simpa using h
theorem jm0 (D:XD T G U Z m X sc)(hq:T.quiet=false){f g:Str}{bf:Bf}{b:Expr}{E1:E}{p p2 pos pos2:Pos}(hf:knd sc f=2)(hb:jeO f=false)(hg:knd sc g=2)(hb2:jeO g=false)(S:PE X b (tE Z X B (evE G U E1)))(ns:∀e q,b≠.Starred e q)(hn:jpS f g=some bf) :
  PE X (.Call (.Name f p) [.Call (.Name g p2) [b] [] pos2] [] pos) (tE Z X B (evE G U (.blt bf E1))):=by
 have hc:X.calm=true:=D.calm hq;have hpa:PA X [b] (jjD (tE Z X B (evE G U E1)) jqJ):=jaK S jby (jai ns);have he:starEach [b] X.env=(false,eval b X.env)::starEach [] X.env:=jai ns;have ns2:∀e q,(.Call (.Name g p2) [b] [] pos2:Expr)≠.Starred e q:=fun e q z=>by cases z
 have he2:starEach [.Call (.Name g p2) [b] [] pos2] X.env=(false,eval (.Call (.Name g p2) [b] [] pos2) X.env)::starEach [] X.env:=jai ns2;have hd:=(jfI hb).1;have hnm:=(jfI hb).2;have hd2:=(jfI hb2).1;have hnm2:=(jfI hb2).2;rcases jaC hn with ⟨e,hn⟩ | hn
 ·cases hn;obtain⟨rfl,rfl⟩:=joe e;have pin:=jbi (p:=p2) (pos:=pos2) jmY (D.gl hg) (D.blt _ (by decide +kernel)) (by decide +kernel) hpa hnm2 hd2 he rfl
  exact PE.imp (jbi (p:=p) (pos:=pos) (jmZ hc) (D.gl hf) (D.blt _ (by decide +kernel)) (by decide +kernel) (jaK pin jby he2) hnm hd he2 rfl) fun σ H Q q=>tE.blt (f:=.revt) (rr:=fun xs H Q=>rAI X xs H fun v H'=>rAT X [v] H' Q) (jpQ D.hK) q
 rcases jaC hn with ⟨e,hn⟩ | hn
 ·cases hn;obtain⟨rfl,rfl⟩:=joe e;have pin:=jbi (p:=p2) (pos:=pos2) (jjS (X:=X)) (D.gl hg) (D.blt _ (by decide +kernel)) (by decide +kernel) hpa hnm2 hd2 he rfl
  exact PE.imp (jbi (p:=p) (pos:=pos) (jjT hc) (D.gl hf) (D.blt _ (by decide +kernel)) (by decide +kernel) (jaK pin jby he2) hnm hd he2 rfl) fun σ H Q q=>tE.blt (f:=.lrng) (rr:=fun xs H Q=>jo6 X xs H fun v H'=>jo7 X [v] H' Q) jpR q
 exact jaj hn
end
end DJ
namespace DJ
open PySem PySem.Spec PyProof.Rows L2
noncomputable def jul:Operator->Option Op
 |.Add=>some .add | .Sub=>some .sub | .Mult=>some .mul | .FloorDiv=>some .fdiv | .Mod=>some .mod | .Pow=>some .pow
 |_=>none
noncomputable def jum:CmpOp->Option Cm
 |.Eq=>some .eq | .NotEq=>some .ne | .Lt=>some .lt | .LtE=>some .le | .Gt=>some .gt | .GtE=>some .ge | .Is=>some .isn | .IsNot=>some .notn
 |.In=>some .isin | .NotIn=>some .notin
noncomputable def jdU (e:Expr):Option (List Str×Bool):=jn8 (jiB e) (fun x=>some ([x],true)) ((jmH e).bind fun es=>(mapO jiB es).map fun xs=>(xs,false))
theorem jkQ {e:Expr}{xs:List Str}{one:Bool}(h:jdU e=some (xs,one)):(∃x p,e=.Name x p/\xs=[x]/\one=true)\/∃es k p,e=.Tuple es k p/\mapO jiB es=some xs/\one=false:=by
 replace h:=jbL h;rcases h with ⟨x,hx,h⟩ | h
 ·obtain⟨p,rfl⟩:=jba hx;cases h;exact .inl ⟨x,p,rfl,rfl,rfl⟩
 ·replace h:=jag h;obtain⟨es,he,h⟩:=h;obtain⟨k,p,rfl⟩:=jdN he;replace h:=jax h;obtain⟨ys,hy,h⟩:=h;cases h;exact .inr ⟨es,k,p,rfl,hy,rfl⟩
noncomputable def ndp (xs:List Str):Bool:=match xs with
 |[]=>true
 |x::r=>!r.contains x && ndp r
noncomputable def jfP:Expr->Option (Str×List Expr)
 |.Call f as ks _=>gd (!ks.isEmpty) ((jiB f).map fun x=>(x,as))
 |_=>none
theorem jc5 {e:Expr}{p:Str×List Expr}(h:jfP e=some p):∃np pos,e=.Call (.Name p.1 np) p.2 [] pos:=by
 cases e with
 |Call f as ks pos=>
  replace h:=jap h;obtain⟨hk,h⟩:=h;replace h:=jax h;obtain⟨x,hx,rfl⟩:=h;obtain⟨np,rfl⟩:=jba hx;cases jcb hk;exact⟨np,pos,rfl⟩
 |_=>exact jaj h
section
variable (T:Tab)
noncomputable def jtw (tr:Expr->Option E)(as:List Expr):Option It:=match as with
 |[a]=>(tr a).map .rng1
 |_=>none
noncomputable def isB (sc:List (Str×NameKind))(f:Str):Bool:=knd sc f == 2 && (jd2 T.defs f).isNone
noncomputable def jun (sc:List (Str×NameKind))(tr:Expr->Option E)(one:Bool)(e:Expr)(c:Str×List Expr):Option It:=
 alt (c.1 == "range" && isB T sc c.1) (jtw tr c.2) <|
 alt (c.1 == "zip" && isB T sc c.1) (gd one ((jui c.2).bind fun p=>o2 (tr p.1) (tr p.2) .zip)) <|
 (tr e).map .seq
noncomputable def jqM (sc:List (Str×NameKind))(tr:Expr->Option E)(one:Bool)(e:Expr):Option It:=match jfP e with
 |some c=>jun T sc tr one e c
 |none=>(tr e).map .seq
noncomputable def jtx (tr:Expr->Option E):Option Expr->Option Oe
 |none=>some Oe.none
 |some e=>(tr e).map Oe.some
noncomputable def jkR (tr:Expr->Option E):List Expr->Option Oe
 |[]=>some Oe.none
 |[k]=>(tr k).map Oe.some
 |_=>none
noncomputable def jkS (sc:List (Str×NameKind))(f:Str)(as:List Expr):Option (Bf×Expr):=
 (jiA as).bind fun c=>(jfP c).bind fun p=>(jiA p.2).bind fun b=>gd (T.quiet || jeO p.1 || knd sc p.1 != 2 || (jd2 T.defs p.1).isSome) ((jpS f p.1).map fun bf=>(bf,b))
noncomputable def juM:Const->Option D
 |.none=>some .non
 |.bool v=>some (.bl v)
 |.int i=>some (.int i)
 |.str x=>some (.str x)
 |_=>none
noncomputable def jty (sc:List (Str×NameKind))(N:List Str)(x:Str):Option E:=
 gd (jeO x) (alt (knd sc x == 1) ((jd2 N x).map .var) (gd (knd sc x != 2) ((T.cons.lookup x).map .lit)))
noncomputable def unE:UnaryOp->Option (E->E)
 |.Not=>some .not
 |_=>none
noncomputable def boE:PySem.BoolOp->E->E->E
 |.And=>.and
 |.Or=>.or
noncomputable def jpT:Expr->Option (Option Expr×Option Expr×Option Expr)
 |.Slice a b c _=>some (a,b,c)
 |_=>none
theorem jkT {e:Expr}{p:Option Expr×Option Expr×Option Expr}(h:jpT e=some p):∃q,e=.Slice p.1 p.2.1 p.2.2 q:=by
 cases e with
 |Slice a b c q=>cases h;exact⟨q,rfl⟩
 |_=>exact jaj h
noncomputable def jtz:Expr->Option (Expr×Str×Pos)
 |.Attribute v m p=>some (v,m,p)
 |_=>none
theorem jhK {e:Expr}{p:Expr×Str×Pos}(h:jtz e=some p):e=.Attribute p.1 p.2.1 p.2.2:=by
 cases e with
 |Attribute v m p=>cases h;rfl
 |_=>exact jaj h
noncomputable def jtA (tr:Expr->Option E)(a i:Expr):Option E:=match jpT i with
 |none=>o2 (tr a) (tr i) .idx
 |some p=>gd p.2.2.isSome (o3 (tr a) (jtx tr p.1) (jtx tr p.2.1) .slc)
noncomputable def juN (sc:List (Str×NameKind))(tr:Expr->Option E)(f:Str)(a b:Expr):Option E:=
 alt (f == "isinstance") ((jkJ T sc b).bind fun ks=>gd (!decide (ks.length<=100)) ((tr a).map fun a=>.isi a ks)) <|
 none
noncomputable def jtB (sc:List (Str×NameKind))(tr:Expr->Option E)(f:Str)(as:List Expr):Option E:=match jkS T sc f as with
 |some p=>(tr p.2).map (.blt p.1)
 |none=>match as with
  |[a]=>o2 (juj T.quiet f) (tr a) .blt
  |[a,b]=>juN T sc tr f a b
  |_=>none
noncomputable def jtC (sc:List (Str×NameKind))(tr:Expr->Option E)(f:Str)(as:List Expr):Option E:=
 gd (jeO f || knd sc f != 2) (match jd2 T.defs f with
  |some k=>gd T.quiet ((mapO tr as).map fun es=>.call k ((T.flags[k]?).getD []) (jhA es))
  |none=>jtB T sc tr f as)
noncomputable def jof:Expr->Bool
 |.Name _ _=>true
 |.Constant _ _ _=>true
 |_=>false
theorem jpU {o:Expr}{nm:Str}{env:Env}(h:jof o=true):attributeBase o nm env (eval o env)=eval o env:=by
 cases o with
 |Name _ _=>rfl
 |Constant _ _ _=>rfl
 |_=>cases h
noncomputable def juO (sc:List (Str×NameKind))(N:List Str)(tr:Expr->Option E)(as:List Expr)(pos:Pos)(p:Expr×Str×Pos):Option E:=
 jn8 (juk p.2.1) (fun sf=>gd (!jof p.1 || !(p.2.2.endLine == pos.line)) ((jiA as).bind fun a=>o2 (tr p.1) (tr a) (.sm sf))) <|
 none
noncomputable def fnE (sc:List (Str×NameKind))(N:List Str)(tr:Expr->Option E)(as:List Expr)(pos:Pos)(f:Expr):Option E:=
 jn8 (jiB f) (fun f=>jtC T sc tr f as) <| (jtz f).bind (juO sc N tr as pos)
noncomputable def jrV (sc:List (Str×NameKind))(scope:Scope)(xs cn:List Str):Bool:=
 T.quiet || !(scope.kind == .function) || !(scope.names.all fun p=>p.2 != .cell || scope.names.lookup p.1 == some .cell) || !(scope.names.all fun p=>p.2 != .local || scope.names.lookup p.1 == some .local)
     || !(ndp (xs++cn)) || !(xs.all fun x=>scope.names.lookup x == some .local || scope.names.lookup x == some .cell) || !(cn.all fun x=>scope.names.lookup x == some .free && (sc.lookup x == some .cell || sc.lookup x == some .free))
noncomputable def jd8 (scope:Scope):List Str:=(scope.names.filter fun p=>p.2 == .free).map (·.1)
noncomputable def jrW (tr trI:List (Str×NameKind)->List Str->Expr->Option E)(sc:List (Str×NameKind))(N:List Str)(elt:Expr)(scope:Scope)(g:Comprehension):Option E:=
 gd (!(g.is_async == 0)) ((jdU g.target).bind fun p=>gd (jrV T sc scope p.1 (jd8 scope)) (o4 (mapO (jd2 N) (jd8 scope)) (jqM T sc (tr sc N) p.2 g.iter) (trI scope.names (p.1++jd8 scope) elt) (jkR (trI scope.names (p.1++jd8 scope)) g.ifs)
  fun caps it elt c=>.comp elt (List.range p.1.length) p.2 p.1.length caps it c (!T.deep)))
noncomputable def juP (tr trI:List (Str×NameKind)->List Str->Expr->Option E)(sc:List (Str×NameKind))(N:List Str):Expr->Option E
 |.Constant c _ _=>(juM c).map .lit
 |.Name x _=>jty T sc N x
 |.BinOp l o r _=>o3 (jul o) (tr sc N l) (tr sc N r) .bin
 |.UnaryOp o a _=>o2 (unE o) (tr sc N a) fun f a=>f a
 |.BoolOp o vs _=>(mapO (tr sc N) vs).bind (jfJ (boE o))
 |.Compare a os cs _=>o2 (jiA os) (jiA cs) Prod.mk |>.bind fun p=>gd (behindInMarks p.1 p.2) (o3 (jum p.1) (tr sc N a) (tr sc N p.2) .cmp)
 |.IfExp c a b _=>o3 (tr sc N c) (tr sc N a) (tr sc N b) .ite
 |.Tuple es _ _=>(mapO (tr sc N) es).map fun es=>.tup (jhA es)
 |.List es _=>(mapO (tr sc N) es).map fun es=>.lst (jhA es)
 |.Subscript a i _=>jtA (tr sc N) a i
 |.Call f as ks pos=>gd (!ks.isEmpty) (fnE T sc N (tr sc N) as pos f)
 |.ListComp elt gens scope _=>(jiA gens).bind (jrW T tr trI sc N elt scope)
 |_=>none
end
noncomputable def trE:Tab->Nat->List (Str×NameKind)->List Str->Expr->Option E
 |_,0=>fun _ _ _=>none
 |T,n + 1=>juP T (trE T n) (trE { T with deep:=true } n)
theorem jpV {op:Operator}{o:Op}(h:jul op=some o):op=o.py:=by cases op <;> cases h <;> rfl
theorem jpW {op:CmpOp}{o:Cm}(h:jum op=some o):op=o.py:=by cases op <;> cases h <;> rfl
noncomputable def Lr {α:Type}(r r':R α):Prop:=r=.stk\/r=r'
theorem Lr.refl {α:Type}{r:R α}:Lr r r:=.inr rfl
theorem Lr.bind {α β:Type}{r r':R α}{f g:α->R β}(h:Lr r r')(k:∀a,Lr (f a) (g a)):Lr (r.bind f) (r'.bind g):=by
 rcases h with rfl | rfl
 ·exact .inl rfl
 ·cases r with
  |ok a=>exact k a
  |err c=>exact .inr rfl
  |stk=>exact .inl rfl
theorem Lr.ok {α:Type}{W:Nat->Prop}{r r':R α}{Q:α->Prop}(h:Lr r r')(q:Ok W r Q):Ok W r' Q:=by
 rcases h with rfl | rfl
 ·exact False.elim q
 ·exact q
theorem Lr.deref {v:Vl}{ρ:Rho}:Lr (deref v []) (deref v ρ):=by
 cases v with
 |dat d=>exact .inr rfl
 |tmp o=>exact .inr rfl
 |slot i=>exact .inl (by simp[DJ.deref])
structure Says (G:Calls)(U:Nat->Nat->Bool)(Z:Kn)(X:Cx)(e:Expr)(E':E):Prop where
 pe:∀B,PE X e (tE Z X B (evE G U E'))
 pt:∀B,PT X e (tT Z X B (evT G U E'))
 ns:∀a p,e≠.Starred a p
section
variable {T:Tab}{G:Calls}{U:Nat->Nat->Bool}{Z:Kn}{m:Nat}{X:Cx}{sc:List (Str×NameKind)}
theorem jhL {α β:Type}{f:α->Option β}:∀{as:List α}{bs:List β},mapO f as=some bs->as.length=bs.length
 |[],bs,h=>by cases h;rfl
 |a::as,bs,h=>by
  obtain⟨b,bs',_,h2,rfl⟩:=jaI h;rw[jvf,jvf,jhL h2]
theorem jcw {α β:Type}{f:α->Option β}{P:α->β->Prop}(k:∀a b,f a=some b->P a b):∀{as:List α}{bs:List β},mapO f as=some bs->Paired P as bs
 |[],bs,h=>by cases h;exact .nil
 |a::as,bs,h=>by
  obtain⟨b,bs',h1,h2,rfl⟩:=jaI h;exact .cons (k a b h1) (jcw k h2)
theorem jhM {α β:Type}{f:α->Option β}:∀{as:List α}{bs:List β}{i:Nat}{a:α}{b:β},mapO f as=some bs->as[i]?=some a->bs[i]?=some b->f a=some b
 |[],_,_,_,_,_,e,_=>by simp at e
 |x::as,bs,i,a,b,h,e1,e2=>by
  obtain⟨y,bs',h1,h2,rfl⟩:=jaI h;cases i with
  |zero=>simp at e1 e2;rw[<-e1,<-e2];exact h1
  |succ i=>exact jhM h2 (by simpa using e1) (by simpa using e2)
theorem Says.mk' (hK:X.K=Z.K){e:Expr}{E':E}(pe:∀B,PE X e (tE Z X B (evE G U E')))(he:∀whole,isTrue e X.env whole=(do let v <-whole;standAt e.pos;holding [v] (truthy v)))(ns:∀a p,e≠.Starred a p)(hl:∀ρ,Lr (evT G U E' ρ) (trF (evE G U E') ρ)):Says G U Z X e E':=
 ⟨pe,fun B=>PT.imp (jtr hK (pe B) he) fun σ H Q ⟨F,ρ,r,q⟩=>⟨F,ρ,r,(hl ρ).ok q⟩,ns⟩
theorem Lr.none {α:Type}{r:R α}:Lr .stk r:=.inl rfl
theorem jhN {n:Nat}(D:XD T G U Z m X sc)(ih:∀e E',trE T n sc X.N e=some E'->Says G U Z X e E'){iter tg:Expr}{it:It}{one:Bool}(h1:one=false->∃es k pos,tg=.Tuple es k pos)(h:jqM T sc (trE T n sc X.N) one iter=some it)(B:Bs) :
  PI X tg iter (tI Z X B (evI G U it)):=by
 have gen:∀{e:Expr}{it:It},(trE T n sc X.N e).map It.seq=some it->PI X tg e (tI Z X B (evI G U it)):=fun {e it} h=>by
  cases q:trE T n sc X.N e with
  |none=>rw[q]at h;cases h
  |some E'=>
   rw[q]at h;cases h;have:=jrQ (tg:=tg) D.hK ((ih e E' q).pe B);have ev:(fun ρ=>(evE G U E' ρ).bind fun p=>jbX p.1 p.2)=evI G U (.seq E'):=by funext ρ;simp only[evI]
   rwa [ev]at this
 unfold jqM at h;cases hc:jfP iter with
 |none=>rw[hc]at h;exact gen h
 |some c=>
  rw[hc]at h;obtain⟨p,pos,rfl⟩:=jc5 hc;obtain⟨f,as⟩:=c;replace h:jun T sc (trE T n sc X.N) one _ (f,as)=some it:=h;replace h:=jaC h;rcases h with ⟨hf,h⟩ | h
  ·simp only[isB,jvP,beq_iff_eq]at hf;obtain⟨hf,hk,_⟩:=hf;subst hf;cases as with
   |nil=>exact jaj h
   |cons a r=>
    cases r with
    |nil=>
     replace h:=jax h;obtain⟨E',q,rfl⟩:=h;have S:=ih a E' q;have:=jpG (tg:=tg) (p:=p) (pos:=pos) (D.gl hk) (D.blt _ (by decide +kernel)) (S.pe B) S.ns
     rwa [show (fun ρ=>(evE G U E' ρ).bind fun p=>(deref p.1 p.2).bind fun x=>(jfB x).bind fun xs=>R.ok (xs,([]:List Nat),p.2))=evI G U (.rng1 E')by funext ρ;simp only[evI]]at this
    |cons b r=>
     exact jaj h
  replace h:=jaC h;rcases h with ⟨hf,h⟩ | h
  ·simp only[isB,jvP,beq_iff_eq]at hf;obtain⟨hf,hk,_⟩:=hf;subst hf;replace h:=jap h;obtain⟨ho,h⟩:=h;replace h:=jag h;obtain⟨⟨a,b⟩,h2,h⟩:=h;cases jmG h2;obtain⟨es,k,pos',rfl⟩:=h1 ho;replace h:=jco h;obtain⟨Ea,Eb,qa,qb,rfl⟩:=h;have Sa:=ih a Ea qa;have Sb:=ih b Eb qb;have:=jpH (es:=es) (n:=k) (pos':=pos') (p:=p) (pos:=pos) D.hK (D.gl hk) (D.blt _ (by decide +kernel)) (Sa.pe B) Sa.ns (Sb.pe B) Sb.ns
   rwa [show (fun ρ=>(evE G U Ea ρ).bind fun p=>(evE G U Eb p.2).bind fun q=>(jaL p.1 q.2).bind fun x=>(jaL q.1 x.2.2).bind fun y=>R.ok (jfC x.1 y.1,x.2.1++y.2.1,y.2.2))=evI G U (.zip Ea Eb)by funext ρ;simp only[evI]]at this
  exact gen h
theorem jel {n:Nat}{N:List Str}{one:Bool}{iter:Expr}{it:It}(h:jqM T sc (trE T n sc N) one iter=some it):∀a b c,iter≠.Set a b c:=by
 intro a b c z;subst z;cases n with
 |zero=>exact jaj h
 |succ n=>exact jaj h
theorem jfQ:∀{xs:List Str},ndp xs=true->xs.Nodup
 |[],_=>List.nodup_nil
 |x::r,h=>by
  simp only[ndp,jvP,Bool.not_eq_true']at h;refine List.nodup_cons.mpr ⟨fun z=>?_,jfQ h.2⟩;rw[List.contains_iff_mem.mpr z]at h;exact absurd h.1 (by decide)
theorem jkU {es:List Expr}{xs:List Str}(h:mapO jiB es=some xs):∃ps:List Pos,es.length=xs.length/\ps.length=xs.length/\es=(xs.zip ps).map fun p=>Expr.Name p.1 p.2:=by
 induction es generalizing xs with
 |nil=>cases h;exact⟨[],rfl,rfl,rfl⟩
 |cons e es ih=>
  obtain⟨x,xs',h1,h2,rfl⟩:=jaI h;obtain⟨ps,l1,l2,e2⟩:=ih h2;obtain⟨pos,rfl⟩:=jba h1;exact⟨pos::ps,by simp[l1],by simp[l2],by simp[e2]⟩
theorem jog {X:Cx}:∀(xs:List Str) (ps:List Pos) (k:Nat),ps.length=xs.length->(∀(i:Nat) x,xs[i]?=some x->X.N[k + i]?=some x/\L2.Loc X.env.scope x/\(X.fn x=true\/X.env.scope.names.lookup x=some .local)) ->
  TgsOk X ((xs.zip ps).map fun p=>Expr.Name p.1 p.2) ((List.range xs.length).map (k + ·))
 |[],_,_,_,_=>.nil
 |x::xs,[],_,h,_=>by simp at h
 |x::xs,p::ps,k,h,hN=>by
  obtain⟨a,b⟩:=hN 0 x rfl;have ih:=jog (X:=X) xs ps (k + 1) (by simpa using h) fun i y hy=>by
   have:=hN (i + 1) y (by simpa using hy)
   rwa [show k + (i + 1)=k + 1 + i by omega]at this
  rw[jvf,List.range_succ_eq_map,jvc,List.map_map];have e:(List.range xs.length).map ((k + ·) ∘ Nat.succ)=(List.range xs.length).map (k + 1 + ·):=by
   apply List.map_congr_left;intro i _;show k + (i + 1)=k + 1 + i;omega
  rw[e];exact .cons a b.1 b.2 ih
theorem jfR {e:Expr}{env:Env}(h:∀a b c,e≠.Set a b c):∀x,foldedSetIterable e env x=pure x:=fun x=>by
 unfold foldedSetIterable;cases e <;> first | rfl | exact absurd rfl (h _ _ _)
theorem jfS {scope:Scope}{env:Env}{x:Str}(h:scope.names.lookup x=some .local):(relabel scope env).names.lookup x=some .local:=by
 unfold relabel;simp only;rw[jbf (c:=fun n k=>k == .free && env.scope.kind == .function && env.kindOf n == some .cell),h];rfl
theorem jm1 {scope:Scope}{env:Env}{x:Str}(h:scope.names.lookup x=some .cell):(relabel scope env).names.lookup x=some .cell:=by
 unfold relabel;simp only;rw[jbf (c:=fun n k=>k == .free && env.scope.kind == .function && env.kindOf n == some .cell),h];rfl
structure CompD (X:Cx)(G:Calls)(U:Nat->Nat->Bool)(Z:Kn)(scope:Scope)(N cn:List Str)(nt:Nat)(caps:List Nat)(elt tg iter:Expr)(ks:List Expr)(tgs:List Nat)(one:Bool)(it:It)(fc:Option (Rho->R (Bool×Rho)))(Ee:E):Prop where
 C:CompOk X scope N cn nt caps
 hT:∀s' H' fp E,TgOk (cxComp X N scope s' H' fp E) tg tgs one
 hlow:∀i∈tgs,i < nt
 hi:∀B,PI X tg iter (tI Z X B (evI G U it))
 hE:∀s' H' fp E B',PE (cxComp X N scope s' H' fp E) elt (tE Z (cxComp X N scope s' H' fp E) B' (evE G U Ee))
 hK:(ks=[]/\fc=none)\/∃k g,ks=[k]/\fc=some g/\∀s' H' fp E B',PT (cxComp X N scope s' H' fp E) k (tT Z (cxComp X N scope s' H' fp E) B' g)
 hs:∀x,foldedSetIterable iter X.env x=pure x
theorem jkV {n:Nat}(D:XD T G U Z m X sc)(ih:∀(X:Cx) (sc:List (Str×NameKind)) (e:Expr) (E':E),XD T G U Z m X sc->trE T n sc X.N e=some E'->Says G U Z X e E')(ihI:∀(X:Cx) (sc:List (Str×NameKind)) (e:Expr) (E':E),XD { T with deep:=true } G U Z m X sc->trE { T with deep:=true } n sc X.N e=some E'->Says G U Z X e E')
  {elt tg iter:Expr}{ks:List Expr}{scope:Scope}{xs:List Str}{one:Bool}{caps:List Nat}{it:It}{Ee:E}{Ec:Oe} (htg:jdU tg=some (xs,one))
  (c1:scope.kind=.function) (c2:∀y∈scope.names,y.2=.cell->scope.names.lookup y.1=some .cell) (c3:∀y∈scope.names,y.2=.local->scope.names.lookup y.1=some .local) (c4:(xs++jd8 scope).Nodup)
  (c5:∀x∈xs,scope.names.lookup x=some .local\/scope.names.lookup x=some .cell) (c6:∀x∈jd8 scope,scope.names.lookup x=some .free/\(sc.lookup x=some .cell\/sc.lookup x=some .free))
  (hcaps:mapO (jd2 X.N) (jd8 scope)=some caps) (hit:jqM T sc (trE T n sc X.N) one iter=some it) (helt:trE { T with deep:=true } n scope.names (xs++jd8 scope) elt=some Ee)
  (hks:jkR (trE { T with deep:=true } n scope.names (xs++jd8 scope)) ks=some Ec) (xx:Bool) :
  ∃N cn fc,CompD X G U Z scope N cn xs.length caps elt tg iter ks (List.range xs.length) one it fc Ee /\
   ∀ρ,evE G U (.comp Ee (List.range xs.length) one xs.length caps it Ec xx) ρ=(evI G U it ρ).bind fun t=>((compGo (jdL (List.range xs.length) one xs.length caps fc (evE G U Ee)) t.1 t.2.2).pass xx).bind fun ys=>.ok (.tmp (.l ys.1),unlk t.2.1 ys.2):=by
 generalize hcn:jd8 scope=cn at *;have C:CompOk X scope (xs++cn) cn xs.length caps:=by
  refine⟨c1,c2,c3,fun y hy e=>?_,c4,⟨xs,rfl,rfl⟩,jhL hcaps,fun k j x h1 h2=>⟨jaS (jhM hcaps h1 h2),(c6 x (jvh h1)).1⟩⟩;have hm:y.1∈cn:=by
   rw[<-hcn];exact List.mem_map.mpr ⟨y,List.mem_filter.mpr ⟨hy,by simp[e]⟩,rfl⟩
  have:=(c6 y.1 hm).2;rcases D.sc y.1 with z | ⟨_,z⟩
  ·rw[z];exact this
  ·exact .inl z
 have hT:∀s' H' fp E,TgOk (cxComp X (xs++cn) scope s' H' fp E) tg (List.range xs.length) one:=fun s' H' fp E=>by
  have hN:∀(i:Nat) x,xs[i]?=some x->(xs++cn)[i]?=some x/\L2.Loc (relabel scope X.env) x/\((scope.names.lookup x == some .cell)=true\/(relabel scope X.env).names.lookup x=some .local):=fun i x e=>⟨by rw[jvm (List.getElem?_eq_some_iff.mp e).1];exact e,(c5 x (jvh e)).elim (fun z=>⟨.inl (jfS z),.inr (jfS z)⟩) fun z=>⟨.inr (jm1 z),.inl (by rw[z];rfl)⟩⟩
  rcases jkQ htg with ⟨x,p,rfl,rfl,rfl⟩ | ⟨es,k,p,rfl,q,rfl⟩
  ·obtain⟨a,b⟩:=hN 0 x rfl;exact .one a b.1 b.2
  ·obtain⟨ps,l1,l2,e⟩:=jkU q;rw[e];have:=jog (X:=cxComp X (xs++cn) scope s' H' fp E) xs ps 0 l2 fun i x hx=>by
    rw[Nat.zero_add];exact hN i x hx
   simp only[Nat.zero_add,List.map_id']at this;exact .many this
 have hone:one=false->∃es k pos,tg=.Tuple es k pos:=fun ho=>by
  subst ho;rcases jkQ htg with ⟨x,p,_,_,z⟩ | ⟨es,k,p,e,_⟩
  ·cases z
  ·exact⟨es,k,p,e⟩
 have hlow:∀i∈List.range xs.length,i < xs.length:=fun i h=>List.mem_range.mp h;have hi:∀B,PI X tg iter (tI Z X B (evI G U it)):=fun B=>jhN (tg:=tg) D (fun e E' h=>ih X sc e E' D h) hone hit B;have hE:∀s' H' fp E B',PE (cxComp X (xs++cn) scope s' H' fp E) elt (tE Z (cxComp X (xs++cn) scope s' H' fp E) B' (evE G U Ee)):=fun s' H' fp E B'=>(ihI (cxComp X (xs++cn) scope s' H' fp E) scope.names elt Ee (D.comp c4) helt).pe B';have hs:=jfR (env:=X.env) (jel hit);cases ks with
 |nil=>
  cases hks;exact⟨xs++cn,cn,none,⟨C,hT,hlow,hi,hE,.inl ⟨rfl,rfl⟩,hs⟩,fun ρ=>by simp only[evE];rfl⟩
 |cons k r=>
  cases r with
  |nil=>
   simp only[jkR]at hks;cases q:trE { T with deep:=true } n scope.names (xs++cn) k with
   |none=>rw[q]at hks;cases hks
   |some Ek=>
    rw[q]at hks;cases hks;exact⟨xs++cn,cn,some (evT G U Ek),⟨C,hT,hlow,hi,hE,.inr ⟨k,evT G U Ek,rfl,rfl,fun s' H' fp E B'=>(ihI (cxComp X (xs++cn) scope s' H' fp E) scope.names k Ek (D.comp c4) q).pt B'⟩,hs⟩,fun ρ=>by simp only[evE];rfl⟩
  |cons k2 r2=>cases hks
end
end DJ
namespace DJ
open PySem PySem.Spec PyProof.Rows L2
variable {T:Tab}{G:Calls}{U:Nat->Nat->Bool}{Z:Kn}{m:Nat}
theorem jfT {n:Nat}{X:Cx}{sc:List (Str×NameKind)}(D:XD T G U Z m X sc)(ih:∀(X:Cx) (sc:List (Str×NameKind)) (e:Expr) (E':E),XD T G U Z m X sc->trE T n sc X.N e=some E'->Says G U Z X e E')(ihI:∀(X:Cx) (sc:List (Str×NameKind)) (e:Expr) (E':E),XD { T with deep:=true } G U Z m X sc->trE { T with deep:=true } n sc X.N e=some E'->Says G U Z X e E')
  {elt:Expr}{gens:List Comprehension}{scope:Scope}{pos:Pos}{E':E} (h:trE T (n + 1) sc X.N (.ListComp elt gens scope pos)=some E') :
  T.quiet=false/\∃tg iter ks N cn nt caps tgs one it fc Ee Ec,gens=[⟨tg,iter,ks,0⟩]/\E'=.comp Ee tgs one nt caps it Ec (!T.deep)/\CompD X G U Z scope N cn nt caps elt tg iter ks tgs one it fc Ee /\
   ∀ρ,evE G U E' ρ=(evI G U it ρ).bind fun t=>((compGo (jdL tgs one nt caps fc (evE G U Ee)) t.1 t.2.2).pass (!T.deep)).bind fun ys=>.ok (.tmp (.l ys.1),unlk t.2.1 ys.2):=by
 obtain⟨⟨tg,iter,ks,a⟩,hg,h⟩:=jag (show (jiA gens).bind (jrW T (trE T n) (trE { T with deep:=true } n) sc X.N elt scope)=some E' from h)
 cases jaR hg;replace h:=jap h;obtain⟨ha,h⟩:=h;have ha:a=0:=by simpa using ha
 subst ha;replace h:=jag h;obtain⟨⟨xs,one⟩,htg,h⟩:=h;replace h:=jap h;obtain⟨hc,h⟩:=h;replace h:=jn7 h;obtain⟨caps,it,Ee,Ec,hcaps,hit,helt,hks,rfl⟩:=h;simp only[jrV,Bool.or_eq_false_iff,Bool.not_eq_false',beq_iff_eq]at hc;obtain⟨⟨⟨⟨⟨⟨c0,c1⟩,c2⟩,c3⟩,c4⟩,c5⟩,c6⟩:=hc;obtain⟨N,cn,fc,cd,ev⟩:=jkV (Ec:=Ec) D ih ihI htg c1 (fun y hy z=>by
  have:=List.all_eq_true.mp c2 y hy;rw[z]at this;simpa using this) (fun y hy z=>by
  have:=List.all_eq_true.mp c3 y hy;rw[z]at this;simpa using this) (jfQ c4) (fun x hx=>by simpa using List.all_eq_true.mp c5 x hx) (fun x hx=>by simpa using List.all_eq_true.mp c6 x hx) hcaps hit helt hks (!T.deep)
 exact⟨c0,tg,iter,ks,N,cn,xs.length,caps,_,one,it,fc,Ee,Ec,rfl,rfl,cd,ev⟩
theorem jm2 {f:Str}{args:List Expr}{bf:Bf}{b:Expr}(h:jkS T sc f args=some (bf,b)):∃g p2 pos2,args=[.Call (.Name g p2) [b] [] pos2]/\T.quiet=false/\jeO g=false/\knd sc g=2/\jpS f g=some bf:=by
 replace h:=jag h;obtain⟨c,h1,h⟩:=h;cases jaR h1;replace h:=jag h;obtain⟨⟨g,as⟩,h2,h⟩:=h;obtain⟨np,pos,rfl⟩:=jc5 h2;replace h:=jag h;obtain⟨b',h3,h⟩:=h;have h3:=jaR h3;replace h:=jap h;obtain⟨hc,h⟩:=h;replace h:=jax h;obtain⟨bf',q,e⟩:=h;cases e;replace hc:=jbU hc;obtain⟨hc,_⟩:=hc;replace hc:=jbU hc;obtain⟨hc,c3⟩:=hc;replace hc:=jbU hc;obtain⟨c1,c2⟩:=hc;refine⟨g,np,pos,?_,c1,c2,jgv c3,q⟩;rw[show as=[b] from h3]
theorem Says.nt {X:Cx}{e:Expr}{E':E}(pe:∀B,PE X e (tE Z X B (evE G U E')))(hT:∀ρ,evT G U E' ρ=.stk)(ns:∀a p,e≠.Starred a p):Says G U Z X e E':=
 ⟨pe,fun B=>by rw[tT.congr hT];exact jrI,ns⟩
theorem lrB {g:Bf}{Ea:E}(ρ:Rho):Lr (evT G U (.blt g Ea) ρ) (trF (evE G U (.blt g Ea)) ρ):=by
 simp only[evT,trF,evE,R.bind_assoc,R.bind_ok'];exact Lr.refl.bind fun _=>Lr.refl.bind fun _=>Lr.refl.bind fun _=>Lr.deref.bind fun _=>Lr.refl
theorem lrO {o:Op}{a b:E}(ρ:Rho):Lr (evT G U (.bin o a b) ρ) (trF (evE G U (.bin o a b)) ρ):=by
 simp only[evT,trF,evE,R.bind_assoc,R.bind_ok'];exact Lr.refl.bind fun _=>Lr.refl.bind fun _=>Lr.refl.bind fun _=>Lr.refl.bind fun _=>Lr.refl.bind fun _=>Lr.deref.bind fun _=>Lr.refl
theorem jc6:∀(n:Nat) (T:Tab) (X:Cx) (sc:List (Str×NameKind)) (e:Expr) (E':E),XD T G U Z m X sc->trE T n sc X.N e=some E'->Says G U Z X e E':=by
 intro n;induction n with
 |zero=>intro T X sc e E' D h;exact jaj h
 |succ n ihT=>
  intro T X sc e E' D h;have ih:=ihT T;have hK:=D.hK;have ih1:∀e E',trE T n sc X.N e=some E'->Says G U Z X e E':=fun e E' h=>ih X sc e E' D h;have lit:∀{e:Expr}{d:DJ.D}{v:V},PE X e (tC v)->(∀whole,isTrue e X.env whole=(do let v <-whole;standAt e.pos;holding [v] (truthy v)))->(∀a p,e≠.Starred a p)->(∀F H,Rep Z F H d v)->Says G U Z X e (.lit d):=fun {e d v} h1 h2 h3 h4=>
   Says.mk' hK (fun B=>jpA h1 h4) h2 h3 fun ρ=>by simp only[evT,trF,evE,R.bind_ok',deref];exact Lr.refl
  have prd:∀{vs:List Expr}{es:List E},mapO (trE T n sc X.N) vs=some es->∀B,Paired (fun e E'=>PE X e (tE Z X B (evE G U E'))/\PT X e (tT Z X B (evT G U E'))) vs es:=fun q B=>jcw (fun e E' z=>⟨(ih1 _ _ z).pe B,(ih1 _ _ z).pt B⟩) q;have prn:∀{vs:List Expr}{es:List E},mapO (trE T n sc X.N) vs=some es->∀B,Paired (fun e E'=>PE X e (tE Z X B (evE G U E'))/\∀a p,e≠.Starred a p) vs es:=fun q B=>jcw (fun e E' z=>⟨(ih1 _ _ z).pe B,(ih1 _ _ z).ns⟩) q;have h0:=h;cases e with
  |Constant c k pos=>
   replace h:=jax h;obtain⟨d,hl,rfl⟩:=h;cases c with
   |none=>cases hl;exact lit jqW (fun _=>rfl) (fun _ _ z=>by cases z) fun _ _=>by simp only[Rep]
   |bool v=>cases hl;exact lit jsY (fun _=>rfl) (fun _ _ z=>by cases z) fun _ _=>by simp only[Rep]
   |int i=>cases hl;exact lit jqV (fun _=>rfl) (fun _ _ z=>by cases z) fun _ _=>by simp only[Rep]
   |str x=>cases hl;exact lit jqX (fun _=>rfl) (fun _ _ z=>by cases z) fun _ _=>by simp only[Rep]
   |_=>exact jaj hl
  |Name x pos=>
   replace h:=jap h;obtain⟨hb,h⟩:=h;replace h:=jaC h;rcases h with ⟨hk,h⟩ | h
   ·replace h:=jax h;obtain⟨i,q,rfl⟩:=h;refine Says.mk' hK (fun B=>jmN (pos:=pos) D (by simpa using hk) (jaS q) hb) (fun _=>rfl) (fun _ _ z=>by cases z) fun ρ=>?_
    simp only[evT,trF,evE];cases e:ρ[i]? with
    |none=>exact Lr.none
    |some s=>
     cases s with
     |no=>exact Lr.none
     |_=>simp only[R.bind_ok',deref,e];exact Lr.refl
   ·replace h:=jap h;obtain⟨hk,h⟩:=h;replace h:=jax h;obtain⟨d,q,rfl⟩:=h;obtain⟨u,v,hm,rv,rp⟩:=D.cons x d q;exact lit (jjw (D.gl (jgv hk)) hm rv (jfI hb).1) (fun _=>rfl) (fun _ _ z=>by cases z) rp
  |BinOp l op r pos=>
   replace h:=jdj h;obtain⟨o,El,Er,ho,hl,hr,rfl⟩:=h;have Sl:=ih1 _ _ hl;have Sr:=ih1 _ _ hr;cases jpV ho;refine Says.mk' hK (fun B=>PE.imp (js8 (jto hK o) (Sl.pe B) (Sr.pe B)) fun σ H Q q=>tE.two (fun _ _ _=>jpn) (fun _ _ _=>jmA) (by simpa only[evE] using q)) (fun _=>rfl) (fun _ _ z=>by cases z) lrO
  |UnaryOp o a pos=>
   replace h:=jco h;obtain⟨f,Ea,ho,q,rfl⟩:=h;have S:=ih1 _ _ q;cases o with
   |Not=>
    cases ho;exact⟨fun B=>PE.imp (jq4 (S.pe B)) fun σ H Q z=>jpu (by simpa only[evE] using z),fun B=>PT.imp (jq0 (S.pt B)) fun σ H Q z=>jmJ (by simpa only[evT] using z),fun _ _ z=>by cases z⟩
   |_=>exact jaj ho
  |BoolOp o vs pos=>
   replace h:=jag h;obtain⟨es,q,h⟩:=h;cases o with
   |And=>exact⟨fun B=>(jky (prd q B) h).1,fun B=>(jky (prd q B) h).2.pt,fun _ _ z=>by cases z⟩
   |Or=>exact⟨fun B=>(jn9 (prd q B) h).1,fun B=>(jn9 (prd q B) h).2.pt,fun _ _ z=>by cases z⟩
  |Compare a os cs pos=>
   replace h:=jag h;obtain⟨⟨op,c⟩,h1,h⟩:=h;replace h1:=jco h1;obtain⟨op',c',e1,e2,e3⟩:=h1;cases e3;cases jaR e1;cases jaR e2;replace h:=jap h;obtain⟨hmk,h⟩:=h;replace h:=jdj h;obtain⟨o,Ea,Ec,ho,ha,hc,rfl⟩:=h;have Sa:=ih1 _ _ ha;have Sc:=ih1 _ _ hc;cases jpW ho;have ok:=jtq (X:=X) hK D.un o;have be:∀x y c,bD (cmD o) x y≠.err c:=fun x y c z=>by
    unfold bD at z;cases e:cmD o x y with
    |ok b=>rw[e]at z;cases z
    |err c'=>exact jpq e
    |stk=>rw[e]at z;cases z
   have bs:∀x y i,bD (cmD o) x y≠.ok (.slot i):=fun x y i z=>by
    unfold bD at z;obtain⟨b,_,z⟩:=R.bind_ok z;cases z
   refine⟨fun B=>PE.imp (joP ok (Sa.pe B) (Sc.pe B) hmk) fun σ H Q q=>tE.two be bs (by simpa only[evE,bD,R.bind_assoc,R.bind_ok'] using q),fun B=>PT.imp (joQ ok (Sa.pe B) (Sc.pe B) hmk) fun σ H Q q=>?_,fun _ _ z=>by cases z⟩
   have q2:=tT.toE (by simpa only[evT] using q)
   simp only[R.bind_assoc,R.bind_ok']at q2;exact tE.two be bs (by simpa only[bD,R.bind_assoc,R.bind_ok'] using q2)
  |IfExp c a b pos=>
   replace h:=jdj h;obtain⟨Ec,Ea,Eb,hc,ha,hb,rfl⟩:=h;have Sc:=ih1 _ _ hc;have Sa:=ih1 _ _ ha;have Sb:=ih1 _ _ hb;exact Says.nt (fun B=>PE.imp (jlV (Sc.pt B) (Sa.pe B) (Sb.pe B)) fun σ H Q z=>jrK (by simpa only[evE] using z)) (fun ρ=>by simp only[evT]) fun _ _ z=>by cases z
  |Tuple es k pos=>
   replace h:=jax h;obtain⟨Es',q,rfl⟩:=h;exact Says.nt (fun B=>jpB (prn q B)) (fun ρ=>by simp only[evT]) fun _ _ z=>by cases z
  |List es pos=>
   replace h:=jax h;obtain⟨Es',q,rfl⟩:=h;exact Says.nt (fun B=>jpC (prn q B)) (fun ρ=>by simp only[evT]) fun _ _ z=>by cases z
  |Subscript a i pos=>
   replace h:jtA (trE T n sc X.N) a i=some E':=h;unfold jtA at h;cases hs:jpT i with
   |some p=>
    rw[hs]at h;obtain⟨lo,hi,st⟩:=p;obtain⟨p2,rfl⟩:=jkT hs;replace h:=jap h;obtain⟨hst,h⟩:=h;cases st with
    |some _=>cases hst
    |none=>
    replace h:=jdj h;obtain⟨Ea,Elo,Ehi,ha,hlo,hhi,rfl⟩:=h;have Sa:=ih1 _ _ ha;have part:∀{o:Option Expr}{O:Oe},jtx (trE T n sc X.N) o=some O->∀B,PO X o (tO Z X B (evO G U O)):=fun {o O} z B=>by
     cases o with
     |none=>cases z;exact jrN
     |some e=>
      obtain⟨E',q,rfl⟩:=jax z;exact jrO ((ih1 _ _ q).pe B)
    refine Says.mk' hK (fun B=>PE.imp (jl4 (jtt hK) (Sa.pe B) (part hlo B) (part hhi B)) fun σ H Q q=>tE.slice (by simpa only[evE] using q)) (fun _=>rfl) (fun _ _ z=>by cases z) fun ρ=>?_
    simp only[evT,trF,evE,R.bind_assoc,R.bind_ok'];exact Lr.refl.bind fun _=>Lr.refl.bind fun _=>Lr.refl.bind fun _=>Lr.refl.bind fun _=>Lr.refl.bind fun _=>Lr.deref.bind fun _=>Lr.refl
   |none=>
    rw[hs]at h;replace h:=jco h;obtain⟨Ea,Ei,ha,hi',rfl⟩:=h;have Sa:=ih1 _ _ ha;have Si:=ih1 _ _ hi';refine Says.mk' hK (fun B=>PE.imp (jtj (jts hK) (Sa.pe B) (Si.pe B) (jmP fun a b c d z=>by subst z;cases hs)) fun σ H Q q=>tE.two (fun x y c z=>?_) (fun x y i z=>?_) (by simpa only[evE,jsR,R.bind_assoc,R.bind_ok'] using q)) (fun _=>rfl) (fun _ _ z=>by cases z) fun ρ=>?_
    ·unfold jsR at z;cases e:jka x y with
     |ok d=>rw[e]at z;cases z
     |err c'=>exact jmO e
     |stk=>rw[e]at z;cases z
    ·unfold jsR at z;obtain⟨d,_,z⟩:=R.bind_ok z;cases z
    ·simp only[evT,trF,evE,R.bind_assoc,R.bind_ok',deref];exact Lr.refl
  |Call fn args ks pos=>
   replace h:=jap h;obtain⟨hks,h⟩:=h;cases jcb hks;replace h:=jbL h;rcases h with ⟨f,hn,h⟩ | h
   ·obtain⟨p,rfl⟩:=jba hn;replace h:=jap h;obtain⟨hc,h⟩:=h;replace hc:=jbU hc;obtain⟨hb,hf⟩:=hc;have hf:=jgv hf;cases hk:jd2 T.defs f with
    |some k=>
     rw[hk]at h;replace h:=jap h;obtain⟨hq,h⟩:=h;replace h:=jax h;obtain⟨es,q,rfl⟩:=h;refine Says.mk' hK (fun B=>jmM D hq hf hb hk (prn q B)) (fun _=>rfl) (fun _ _ z=>by cases z) fun ρ=>?_
     simp only[evT,trF,evE,R.bind_assoc,R.bind_ok'];exact Lr.refl.bind fun _=>Lr.refl.bind fun _=>Lr.refl.bind fun _=>Lr.deref.bind fun _=>Lr.refl
    |none=>
     rw[hk]at h;replace h:jtB T sc (trE T n sc X.N) f args=some E':=h;unfold jtB at h;cases hnest:jkS T sc f args with
     |some p'=>
      rw[hnest]at h;obtain⟨bf,b⟩:=p';replace h:=jax h;obtain⟨Eb,q,rfl⟩:=h;have S:=ih1 _ _ q;obtain⟨g,p2,pos2,rfl,hq,hb2,hg2,hnf⟩:=jm2 hnest;exact Says.mk' hK (fun B=>jm0 (p:=p) (pos:=pos) D hq hf hb hg2 hb2 (S.pe B) S.ns hnf) (fun _=>rfl) (fun _ _ z=>by cases z) lrB
     |none=>
      rw[hnest]at h;cases args with
      |nil=>exact jaj h
      |cons a r=>
       cases r with
       |nil=>
        replace h:=jco h;obtain⟨g,Ea,hg,ha,rfl⟩:=h;have S:=ih1 _ _ ha;exact Says.mk' hK (fun B=>jpN (p:=p) (pos:=pos) D hf hb (S.pe B) S.ns hg) (fun _=>rfl) (fun _ _ z=>by cases z) lrB
       |cons b r=>
        cases r with
        |cons c r=>exact jaj h
        |nil=>
         replace h:=jaC h;rcases h with ⟨hfi,h⟩ | h
         ·cases jc3 hfi;replace h:=jag h;obtain⟨ks,hks,h⟩:=h;replace h:=jap h;obtain⟨hl,h⟩:=h;replace h:=jax h;obtain⟨Ea,ha,rfl⟩:=h;have S:=ih1 _ _ ha;refine Says.mk' hK (fun B=>jpL (p:=p) (pos:=pos) D hf (of_decide_eq_true (jbZ hl)) (S.pe B) S.ns hks) (fun _=>rfl) (fun _ _ z=>by cases z) fun ρ=>?_
          simp only[evT,trF,evE,R.bind_assoc,R.bind_ok',deref,jbT];exact Lr.refl
         exact jaj h
   replace h:=jag h;obtain⟨⟨v,m',apos⟩,hn,h⟩:=h;cases jhK hn;replace h:=jbL h;rcases h with ⟨sf,hsf,h⟩ | h
   ·replace h:=jap h;obtain⟨hc,h⟩:=h;replace hc:=jbU hc;obtain⟨c1,c2⟩:=hc;replace h:=jag h;obtain⟨a,ha,h⟩:=h;cases jaR ha;replace h:=jco h;obtain⟨Ev,Ea,q1,q2,rfl⟩:=h;exact Says.nt (fun B=>jrU hK hsf ((ih1 _ _ q1).pe B) ((ih1 _ _ q2).pe B) (ih1 _ _ q2).ns (jpU (jbZ c1)) (jbZ c2)) (fun ρ=>by simp only[evT]) fun _ _ z=>by cases z
   exact jaj h
  |ListComp elt gens scope pos=>
   obtain⟨hq,tg,iter,ks,N,cn,nt,caps,tgs,one,it,fc,Ee,Ec,e1,rfl,cd,ev⟩:=jfT D ih (ihT _) h0;cases e1;refine Says.nt (fun B=>?_) (fun ρ=>by simp only[evT]) fun _ _ z=>by cases z
   have:=jpM (pos:=pos) hK (D.calm hq) cd.C (cd.hi B) cd.hT cd.hlow cd.hE (xx:=!T.deep) (fun z=>D.top (by cases e:T.deep with | false=>rfl | true=>rw[e]at z;cases z)) cd.hK cd.hs
   rw[tE.congr ev];exact this
  |_=>exact jaj h
end DJ
namespace DJ
open PySem PySem.Spec PyProof.Rows L2
section
variable {X:Cx}{pins:List (Addr×Obj)}{σ:L2.St}{H:Hp}{s:Shared}{B h':Heap}
theorem Inv.freeOf (I:Inv X pins σ H s){a:Addr}(h:s.heap.get? a=none):H a=none:=by
 cases e:H a with
 |none=>rfl
 |some o=>
  obtain⟨u,q⟩:=jod (I.hok a o e);rw[h]at q;cases q
theorem jem {E:XK}{ea:Addr}{cls a0:Value}(I:Inv X pins σ H s)(hfn:∀x,X.fn x=true)(hex:X.ex=[])(hst:X.stack=X.env::X.outer)(Hs:Has X pins H B)(k:B.StaysIn s.heap)(fl:Heap.FlyingW B X.outer ea cls a0 h')(up:s.heap.UpToSlots h')(hn:H ea=none)(q:E cls none H) :
  CXD X.prog X.w X.outer X.H₀ X.s₀ E (.ref ea) { s with heap:=h' }:=by
 have I':Inv X pins σ H { s with heap:=h' }:=Inv.flown (t':=s.toks) I hfn Hs k fl.1 up
 have b:=I'.base;rw[hex]at b;refine⟨ea,cls,a0,H,B,rfl,I'.os,I'.bare,b,I'.hok,fl,fun b o e n=>Hs.s0 b o e (fun z=>?_) (by rw[hex];simp),Hs.tr,hn,q⟩
 rcases List.mem_cons.mp (I.stkSub b z)with z | z
 ·have:=jvG e;rw[z]at this;exact absurd this (Nat.not_lt.mpr I.ok.above)
 ·exact n z
end
section
variable {P:Program}{w:World}{K:Frag}{mg:Str->Option Value}{base:Heap}{N:List Str}{qual:Str}{scope:Scope}{f:Addr}{cd:Value}{A:Around}{outer:List Env}{s s':Shared}{H H':Hp}{E:XK}{pins:List (Addr×Obj)}{σ:L2.St}{ea:Addr}{cls:Value}
theorem jrX (I:Inv (jih (CXD P w) P w K mg base N qual scope f cd A outer s H E) pins σ H' s')(fl:FlyC (jih (CXD P w) P w K mg base N qual scope f cd A outer s H E) pins ea cls H' s')(q:E cls none H'):(jih (CXD P w) P w K mg base N qual scope f cd A outer s H E).xe (.ref ea) s':=by
 obtain⟨⟨a0,B,fly,c1,c2,c3,c4⟩,hn⟩:=fl;refine jiD (B:=B) (cls:=cls) (a0:=a0) I.ok.frames rfl fly fun h'' fl'' up=>?_;exact jem I (fun _=>rfl) rfl rfl ⟨c1,c2,c3,c4⟩ fly.stays fl'' up hn q
theorem jpX {h':Heap}{vs:List Value}(I:Inv (jih (CXD P w) P w K mg base N qual scope f cd A outer s H E) pins σ H' s')(mk:Heap.MadeExcOf s'.heap h' ea cls vs)(q:E cls none H'):(jih (CXD P w) P w K mg base N qual scope f cd A outer s H E).xe (.ref ea) { s' with heap:=h' }:=by
 have Hs:=Has.made I;have I':Inv (jih (CXD P w) P w K mg base N qual scope f cd A outer s H E) pins σ H' { s' with heap:=h' }:=I.kept (t':=s'.toks) mk.keeps
 refine wpAny_leaves_madeW (base:=PySem.W.hideAll s'.heap (frs (jih (CXD P w) P w K mg base N qual scope f cd A outer s H E).stack)) (h:=s'.heap) I.ok.frames rfl (fun b o e=>PySem.W.of_hideAll _ e) (jkL I.stack fun b hb=>PySem.W.hideAll_none _ hb) mk fun h'' t fl'' _ _ up=>?_;exact jem I' (fun _=>rfl) rfl rfl Hs (fun b o e=>mk.keeps b o (PySem.W.of_hideAll _ e)) fl'' up (Inv.freeOf I mk.new) q
end
structure Rcl (K:Frag)(C:Addr):Prop where
 ex:∃(bmB:List Value) (B newId initId:String),PySem.W.excIn K C bmB newId=true/\ExcBaseFacts B newId initId bmB
 nm:∃x,PySem.W.nsIn K mainGlobals x=some (some (.ref C))
theorem jm3 (l:List DictEntry):∃ls:List Str,∀x,x ∉ ls->l.find? (fun e=>e.key.isStr x)=none:=by
 induction l with
 |nil=>exact⟨[],fun _ _=>rfl⟩
 |cons e r ih=>
  obtain⟨ls,h⟩:=ih;by_cases hn:∃n,e.key.isStr n=true
  ·obtain⟨n,hn⟩:=hn;exact⟨n::ls,fun x hx=>(List.find?_cons_of_neg (p:=fun e:DictEntry=>e.key.isStr x) (a:=e) fun q=>hx (Value.isStr_inj _ _ _ q hn ▸ .head _)).trans (h x fun k=>hx (.tail _ k))⟩
  ·exact⟨ls,fun x hx=>(List.find?_cons_of_neg (p:=fun e:DictEntry=>e.key.isStr x) (a:=e) fun q=>hn ⟨x,q⟩).trans (h x hx)⟩
theorem jpY {K:Frag}{C:Addr}{bmB:List Value}{newId:String}{h:Heap}{mg:Str->Option Value}{x:Str}(p:Program)(M:Mod K mg h)(e:PySem.W.nsIn K mainGlobals x=some (some (.ref C)))(q:PySem.W.excIn K C bmB newId=true):OwnCls x C bmB newId mg h:=by
 obtain⟨mb,hb,hx⟩:=M.blt;obtain⟨o,es,ep,ho,hd,hs,hf⟩:=M.glob;obtain⟨ls,hl⟩:=jm3 es.toList;exact PySem.W.own_of_in (p:=p) (loose:=ls) (mb:=mb) M.kin ⟨M.glob,hb,M.nolimit,hx,fun x _ h _ _ _=>by rw[<-hf x,nsFind,findBy,<-Array.find?_toList,hl x h];rfl⟩ e q
noncomputable def XM (Z:Kn)(X:Cx)(σ:L2.St)(ρ:Rho)(H:Hp)(c:Nat):Prop:=∀(pins:List (Addr×Obj)) (H1:Hp) (s1:Shared) (h':Heap) (ea C:Addr) (vs:List Value),Z.cl[c]?=some C->Inv X pins σ H1 s1->Stl σ ρ H H1->Heap.MadeExcOf s1.heap h' ea (.ref C) vs->X.xe (.ref ea) { s1 with heap:=h' }
noncomputable def jrY (X:Cx)(C:Addr)(t:TA):TS:=fun D σ H=>t σ H fun vs H1=>vs.length<=sizeLine/\∀(pins:List (Addr×Obj)) (s1:Shared) (h':Heap) (ea:Addr) (us:List Value),Inv X pins σ H1 s1->Heap.MadeExcOf s1.heap h' ea (.ref C) us->X.xe (.ref ea) { s1 with heap:=h' }
theorem jm4 {X:Cx}{C:Addr}{x:Str}{np cpos pos:Pos}{a:Expr}{t:TA}(hc:X.calm=true)(R:Rcl X.K C)(hg:Gl X x)(hm:X.mg x=some (.ref C))(hd:(x == ("__debug__":Str))=false)(ha:PA X [a] t)(ns:∀e q,a≠.Starred e q) :
  PS X (.Raise (some (.Call (.Name x np) [a] [] cpos)) none pos) (jrY X C t):=by
 intro pins s σ H D I h;obtain⟨⟨bmB,Bn,newId,initId,q,FB⟩,_,qx⟩:=R;have he:starEach [a] X.env=(false,eval a X.env)::starEach [] X.env:=jai ns;obtain⟨tl,N,nm,qn,bs,hdct,sn,sub,ab,col,dd,k0,k1,k2,k3,k5,mN,hC0,hN0,hni,T0⟩:=(jpY X.prog I.ok.mod qx q).obj;have run:=ha cpos pins s σ H _ I h;refine wpAny_Raise_call_subT (C:=C) (nm:=nm) (q:=qn) (N:=N) (bs:=bs) (bm:=tl) (hdct:=hdct) (sn:=sn) (sub:=sub) (ab:=ab) (col:=col) (dd:=dd) (k0:=k0) (k1:=k1) (k2:=k2) (k3:=k3) (k5:=k5) FB (mN:=mN) (T0.hasType FB.hasBase) (I.ok.hd hc) (by rw[he];rfl) hni (jdC I hg hm ⟨rfl,?_⟩ hd)
 rw[he]at run ⊢;refine Calls.evalArgs_plain (thn run fun us s1 hzz=>?_);obtain⟨vs,H1,I1,r,q1,q2⟩:=hzz;have kp:∀b o,X.base.get? b=some o->s1.heap.get? b=some o:=fun b o e=>(I1.bs b o e).1;exact⟨rfl,by rw[<-r.length];exact q1,kp _ _ hC0,hN0.keeps kp,T0.keeps kp,fun h' e mk=>q2 pins s1 h' e us I1 mk⟩
end DJ
namespace DJ
open PySem PySem.Spec PyProof.Rows L2
noncomputable def FlP (Z:Kn)(B:Bs)(σ:L2.St)(ρ:Rho)(F:Addr->Prop)(H:Hp)(D:Ends):Fl->Prop
 |.nx ρ'=>∀σ' F' H',Go σ ρ F H σ' ρ' F' H'->SR Z B F' H' σ' ρ'->D.nx σ' H'
 |.bk ρ'=>∀σ' F' H',Go σ ρ F H σ' ρ' F' H'->SR Z B F' H' σ' ρ'->D.bk σ' H'
 |.ct ρ'=>∀σ' F' H',Go σ ρ F H σ' ρ' F' H'->SR Z B F' H' σ' ρ'->D.ct σ' H'
 |.rt v ρ'=>∀u σ' F' H',(∀i,v≠.slot i)->Go σ ρ F H σ' ρ' F' H'->SR Z B F' H' σ' ρ'->RV Z F' B.hp H' σ' ρ' v u->D.rt u H'
noncomputable def XS (Z:Kn)(X:Cx)(σ:L2.St)(ρ:Rho)(F:Addr->Prop)(H:Hp)(c:Nat):Prop:=∀σ' ρ' F' H',Go σ ρ F H σ' ρ' F' H'->XW Z X σ' ρ' H' c/\XM Z X σ' ρ' H' c
inductive tS_I (Z:Kn) (X:Cx) (B:Bs) (f:Rho->R Fl) (D:L2.Ends) (σ:L2.St) (H:L2.Hp):Prop
 |mk (F:_) (ρ:_):(SR Z B F H σ ρ)->(Ok (XS Z X σ ρ F H) (f ρ) (FlP Z B σ ρ F H D))->tS_I Z X B f D σ H
noncomputable def tS (Z:Kn)(X:Cx)(B:Bs)(f:Rho->R Fl):TS:=fun D σ H=>tS_I Z X B f D σ H
inductive tSx_I (Z:Kn) (X:Cx) (B:Bs) (f:Rho->R Fl) (D:L2.Ends) (σ:L2.St) (H:L2.Hp):Prop
 |mk (F:_) (ρ:_):(SR Z B F H σ ρ)->(Ok (XW Z X σ ρ H) (f ρ) (FlP Z B σ ρ F H D))->tSx_I Z X B f D σ H
noncomputable def tSx (Z:Kn)(X:Cx)(B:Bs)(f:Rho->R Fl):TS:=fun D σ H=>tSx_I Z X B f D σ H
section
variable {Z:Kn}{X:Cx}{B:Bs}{σ σ1:L2.St}{ρ ρ1:Rho}{F F1:Addr->Prop}{H H1:Hp}{D:Ends}
theorem XS.xw {c:Nat}(h:XS Z X σ ρ F H c):XW Z X σ ρ H c:=(h σ ρ F H Go.refl).1
theorem XS.mono {c:Nat}(h:XS Z X σ ρ F H c)(g:Go σ ρ F H σ1 ρ1 F1 H1):XS Z X σ1 ρ1 F1 H1 c:=fun σ' ρ' F' H' g'=>h σ' ρ' F' H' (g.trans g')
theorem FlP.go {fl:Fl}(h:FlP Z B σ ρ F H D fl)(g:Go σ ρ F H σ1 ρ1 F1 H1):FlP Z B σ1 ρ1 F1 H1 D fl:=by
 cases fl with
 |nx ρ'=>exact fun σ' F' H' g' r=>h σ' F' H' (g.trans g') r
 |bk ρ'=>exact fun σ' F' H' g' r=>h σ' F' H' (g.trans g') r
 |ct ρ'=>exact fun σ' F' H' g' r=>h σ' F' H' (g.trans g') r
 |rt v ρ'=>exact fun u σ' F' H' n g' r q=>h u σ' F' H' n (g.trans g') r q
theorem PS.x {s:Stmt}{f:Rho->R Fl}(h:PS X s (tSx Z X B f)):PS X s (tS Z X B f):=PS.imp h fun D σ H ⟨F,ρ,r,q⟩=>⟨F,ρ,r,q.imp (fun c w=>w.xw) fun _ z=>z⟩
theorem SR.unname (r:SR Z B F H σ ρ){k:Nat}:SR Z B F H (σ.set k none) (ρ.set k .no):=by
 have get:∀{j:Nat}{s:Sl},s≠.no->(ρ.set k .no)[j]?=some s->ρ[j]?=some s/\(σ.set k none)[j]?=σ[j]?:=fun {j s} hs h=>by
  rw[jva]at h;by_cases e:k=j
  ·rw[if_pos e]at h;split at h
   ·cases h;exact absurd rfl hs
   ·cases h
  ·rw[if_neg e]at h;exact⟨h,jvn e⟩
 refine⟨r.dom,by simp[r.len],fun i d h=>?_,fun i o f kk h=>?_,fun i j o o' f kk f' k' l ne h h'=>?_,r.base⟩
 ·obtain⟨a,b⟩:=get (by intro z;cases z) h
  rw[b];exact r.dat i d a
 ·obtain⟨a,b⟩:=get (by intro z;cases z) h
  rw[b];exact r.own i o f kk a
 ·obtain⟨a,b⟩:=get (by intro z;cases z) h
  obtain⟨a',b'⟩:=get (by intro z;cases z) h'
  rw[b,b'];exact r.one i j _ _ _ _ _ _ l ne a a'
theorem Go.unname {k:Nat}:Go σ ρ F H (σ.set k none) (ρ.set k .no) F H:=by
 refine⟨fun _ _ h _=>h,fun _ h=>h,fun _ h=>.inl h,fun j o f kk b h1 h2=>?_,fun _ o h=>⟨o,h⟩⟩;rw[jva]at h1;by_cases e:k=j
 ·rw[if_pos e]at h1;split at h1 <;> cases h1
 ·rw[if_neg e]at h1;rw[jvn e]at h2;exact .inl ⟨o,kk,h1,h2,id⟩
theorem Inv.unname {pins:List (Addr×Obj)}{s:Shared}{m:Str->Option Value}{k:Nat}{n:Str}{h':Heap}{v:Option Value}{t':Nat}(I:Inv X pins σ H s)(nd:X.N.Nodup)(hk:X.N[k]?=some n)(hn:s.heap.Ns X.env.locals m)(hl:∀(i:Nat) (x:Str) (v:V),X.N[i]?=some x->σ[i]?=some (some v)->Vis X.env.scope x->∃u,RelV v u/\Look X.env s.heap m x u)
  (hn':h'.Ns X.env.locals (fun x=>if x=n then v else m x)) (hs:Heap.SameBut X.env.locals s.heap h'):Inv X pins (σ.set k none) H { s with heap:=h',toks:=t' }:=by
 have ne:∀{b:Addr}{o:Obj},X.s₀.heap.get? b=some o->b≠X.env.locals:=fun e=>jvM (jvL (jvG e) I.ok.above);refine⟨I.ok,I.os,I.bare,⟨fun b o e q hb hx=>(hs.2 b (ne e)).trans (I.base.keep b o e q hb hx),fun b o e q hb hx=>?_,I.base.free,fun b o e hx=>?_,I.base.tups,I.base.frzs,I.base.tbls⟩,⟨_,hn',fun j y w e1 e2 e3=>?_⟩,fun y c e=>?_,I.free,I.freeC,fun p hp=>?_,fun b u e=>?_,by simpa using I.len⟩
 ·obtain⟨sl,e1⟩:=I.base.slot b o e q hb hx;exact⟨sl,(hs.2 b (ne e)).trans e1⟩
 ·obtain⟨o',e1⟩:=I.base.there b o e hx;exact⟨o',(hs.2 b (ne e)).trans e1⟩
 ·by_cases hj:k=j
  ·subst hj;rw[jva]at e2;rw[if_pos rfl]at e2;split at e2 <;> cases e2
  ·rw[jvn hj]at e2;obtain⟨u,ru,q⟩:=hl j y w e1 e2 e3;refine⟨u,ru,?_⟩;rcases q with ⟨kd,e⟩ | ⟨kd,c,e,z⟩
   ·refine .inl ⟨kd,?_⟩;have:y≠n:=fun e=>hj (jdr nd (e ▸ hk) e1);simp[this,e]
   ·exact .inr ⟨kd,c,e,z.sameBut hs (I.cne y c e)⟩
 ·obtain⟨w',z⟩:=I.cell y c e;exact⟨w',z.sameBut hs (I.cne y c e)⟩
 ·obtain⟨e,q,n1,nf,d⟩:=I.pin p hp;exact⟨(hs.2 p.1 n1).trans e,q,n1,nf,d⟩
 ·refine(I.hok b u e).stay (fun c w' hc q=>(hs.2 c ?_).trans q) (fun _ q=>q) fun _ _ q=>q;rintro rfl;rcases hc with rfl | hc
  ·rw[I.free]at e;cases e
  ·rw[I.free]at hc;cases hc
theorem Inv.track {pins:List (Addr×Obj)}{s:Shared}{a:Addr}{o:HO}(I:Inv X pins σ H s)(hn:H a=none)(h0:X.s₀.heap.get? a=none)(hL:a≠X.env.locals)(hc:∀x c,X.env.cells.lookup x=some c->c≠a)(hp:∀p∈X.pn++pins,p.1≠a)
  (ok:ObjOk X.prog X.w (upd H a o) s.heap a o):Inv X pins σ (upd H a o) s:=by
 refine⟨I.ok,I.os,I.bare,⟨I.base.keep,I.base.slot,fun b ob e q hx=>?_,I.base.there,fun b xs e=>?_,fun b ob u e=>?_,fun b ps e=>?_⟩,I.loc,I.cell,?_,fun x c e=>?_,fun p hp'=>?_,fun b u e=>?_,I.len⟩
 ·rw[jaf (fun z=>by rw[z,h0]at e;cases e)];exact I.base.free b ob e q hx
 ·have:=I.base.tups b xs e;rw[jaf (jac this hn)];exact this
 ·have:=I.base.frzs b ob u e;rw[jaf (jac this hn)];exact this
 ·obtain⟨more,this⟩:=I.base.tbls b ps e;exact⟨more,by rw[jaf (jac this hn)];exact this⟩
 ·rw[jaf (Ne.symm hL)];exact I.free
 ·rw[jaf (hc x c e)];exact I.freeC x c e
 ·obtain⟨e,q,r⟩:=I.pin p hp';exact⟨e,by rw[jaf (hp p hp')];exact q,r⟩
 ·by_cases hb:b=a
  ·subst hb;rw[jan]at e;cases e;exact ok
  ·rw[jaf hb]at e;refine(I.hok b u e).stay (fun c w' hc q=>q) (fun c q=>?_) fun c ts q=>?_
   ·rw[jaf (jac q hn)];exact q
   ·rw[jaf (jac q hn)];exact q
end
noncomputable def jqN (X:Cx)(pins:List (Addr×Obj))(E':Value->Shared->Prop):Cx:={ X with xe:=E',pn:=X.pn++pins }
noncomputable def jkW (X:Cx)(pins:List (Addr×Obj))(ea:Addr):Cx:={ X with A:=X.A.mark (some (.ref ea)),calm:=false,xe:=fun _ _=>False,pn:=X.pn++pins }
section
variable {X:Cx}{pins pins':List (Addr×Obj)}{σ:L2.St}{H:Hp}{s:Shared}{E':Value->Shared->Prop}{ea:Addr}
theorem Inv.toTry (I:Inv X pins σ H s):Inv (jqN X pins E') [] σ H s:=
 ⟨⟨I.ok.mod,I.ok.kind,I.ok.glob,I.ok.blt,I.ok.above,I.ok.inj,I.ok.has,I.ok.cab,I.ok.hd,I.ok.frames,I.ok.stk,I.ok.exf,I.ok.bs,I.ok.bsz,I.ok.noex,I.ok.exfs,I.ok.funs,I.ok.frf⟩,I.os,I.bare,I.base,I.loc,I.cell,I.free,I.freeC,fun p hp=>I.pin p (by simpa[jqN] using hp),I.hok,I.len⟩
theorem Inv.ofTry (I:Inv (jqN X pins E') pins' σ H s):Inv X pins σ H s:=
 ⟨⟨I.ok.mod,I.ok.kind,I.ok.glob,I.ok.blt,I.ok.above,I.ok.inj,I.ok.has,I.ok.cab,I.ok.hd,I.ok.frames,I.ok.stk,I.ok.exf,I.ok.bs,I.ok.bsz,I.ok.noex,I.ok.exfs,I.ok.funs,I.ok.frf⟩,I.os,I.bare,I.base,I.loc,I.cell,I.free,I.freeC,fun p hp=>I.pin p (jvs _ hp),I.hok,I.len⟩
theorem Inv.toHnd (I:Inv X pins σ H s):Inv (jkW X pins ea) [] σ H s:=
 ⟨⟨I.ok.mod,I.ok.kind,I.ok.glob,I.ok.blt,I.ok.above,I.ok.inj,I.ok.has,I.ok.cab,(fun z=>nomatch z),I.ok.frames,I.ok.stk,I.ok.exf,I.ok.bs,I.ok.bsz,I.ok.noex,I.ok.exfs,I.ok.funs,I.ok.frf⟩,I.os,I.bare,I.base,I.loc,I.cell,I.free,I.freeC,fun p hp=>I.pin p (by simpa[jkW] using hp),I.hok,I.len⟩
theorem Inv.ofHnd (I:Inv (jkW X pins ea) pins' σ H s)(hd:X.calm=true->X.A.handled=none):Inv X pins σ H s:=
 ⟨⟨I.ok.mod,I.ok.kind,I.ok.glob,I.ok.blt,I.ok.above,I.ok.inj,I.ok.has,I.ok.cab,hd,I.ok.frames,I.ok.stk,I.ok.exf,I.ok.bs,I.ok.bsz,I.ok.noex,I.ok.exfs,I.ok.funs,I.ok.frf⟩,I.os,I.bare,I.base,I.loc,I.cell,I.free,I.freeC,fun p hp=>I.pin p (jvs _ hp),I.hok,I.len⟩
theorem XD.toTry {T:Tab}{G:Calls}{U:Nat->Nat->Bool}{Z:Kn}{n:Nat}{sc:List (Str×NameKind)}(D:XD T G U Z n X sc):XD T G U Z n (jqN X pins E') sc:=⟨D.hK,D.calm,D.nd,D.room,D.un,D.sc,D.blt,D.defs,D.cons,D.excs,D.ecl,D.sub,fun z=>⟨(D.top z).fn,(D.top z).st,(D.top z).fr⟩⟩
theorem XD.toHnd {T:Tab}{G:Calls}{U:Nat->Nat->Bool}{Z:Kn}{n:Nat}{sc:List (Str×NameKind)}(D:XD T G U Z n X sc):XD { T with quiet:=true } G U Z n (jkW X pins ea) sc:=⟨D.hK,(fun z=>nomatch z),D.nd,(fun z=>nomatch z),D.un,D.sc,D.blt,D.defs,D.cons,D.excs,D.ecl,D.sub,fun z=>⟨(D.top z).fn,(D.top z).st,(D.top z).fr⟩⟩
end
theorem jc7 {ρ:Rho}{i:Nat}{o:O}{f k:Bool}:(ρ.map jdH)[i]?≠some (.own o f k):=by
 rw[jvb];cases ρ[i]? with
 |none=>intro z;cases z
 |some s=>cases s <;> (intro z;cases z)
theorem jiE {ρ:Rho}{i:Nat}{d:D}(h:(ρ.map jdH)[i]?=some (.dat d)):ρ[i]?=some (.dat d):=by
 rw[jvb]at h;cases e:ρ[i]? with
 |none=>rw[e]at h;cases h
 |some s=>rw[e]at h;cases s <;> cases h;rfl
theorem SR.refused {Z:Kn}{B:Bs}{σ:L2.St}{ρ:Rho}{F:Addr->Prop}{H H':Hp}{ea:Addr}{u:HO}(r:SR Z B F H σ ρ)(st:Stl σ ρ H H')(hn:H' ea=none):SR Z B (fun a=>F a\/a=ea) (upd H' ea u) σ (ρ.map jdH)/\Go σ ρ F H σ (ρ.map jdH) (fun a=>F a\/a=ea) (upd H' ea u):=by
 have up:∀{b:Addr}{o:HO},H' b=some o->upd H' ea u b=some o:=fun {b o} e=>by rw[jaf (jac e hn)];exact e
 have kp:Keep F (fun a=>F a\/a=ea) H (upd H' ea u):=fun a ha=>by
  obtain⟨o,e⟩:=r.dom a ha;refine⟨.inl ha,?_⟩;rw[up (st.stay a o e fun m=>r.noF m.ow ha),e]
 refine⟨⟨fun a ha=>?_,by simp[r.len],fun i d h=>?_,fun i o f k h=>absurd h jc7,fun i j o o' f k f' k' l _ h=>absurd h jc7,fun b hb=>?_⟩,⟨fun b o e n=>up (st.stay b o e n),fun a ha=>.inl ha,fun a ha=>?_,fun j o f k b h=>absurd h jc7,fun b o e=>?_⟩⟩
 ·rcases ha with ha | ha
  ·obtain⟨o,e⟩:=r.dom a ha;exact⟨o,up (st.stay a o e fun m=>r.noF m.ow ha)⟩
  ·exact⟨u,by rw[ha];exact jan⟩
 ·obtain⟨v,e1,e2⟩:=r.dat i d (jiE h);exact⟨v,e1,e2.mono kp⟩
 ·refine r.base b ?_;cases e:H b with
  |none=>rfl
  |some o=>
   obtain⟨o',e'⟩:=st.there b o e;rw[up e']at hb;cases hb
 ·rcases ha with ha | ha
  ·exact .inl ha
  ·refine .inr (.inl ?_);cases e:H a with
   |none=>rfl
   |some o=>
    obtain⟨o',e'⟩:=st.there a o e;rw[ha,hn]at e';cases e'
 ·obtain⟨o',e'⟩:=st.there b o e;exact⟨o',up e'⟩
noncomputable def jsS (U:Nat->Nat->Bool)(fb fh:Rho->R Fl)(c k:Nat)(ρ:Rho):R Fl:=match fb ρ with
 |.err c'=>if U c' c then ((fh ((ρ.map jdH).set k (.dat (.exc c')))).noErr).bind fun r=>match r with
   |.nx ρ'=>.ok (.nx (ρ'.set k .no))
   |_=>.stk
  else .stk
 |r=>r
theorem jrZ {Z:Kn}{U:Nat->Nat->Bool}{X:Cx}{B:Bs}(hK:X.K=Z.K)(S:Ecs U Z)(hfn:∀x,X.fn x=true)(hex:X.ex=[])(hst:X.stack=X.env::X.outer)(hfr:X.env.frame=some X.env.locals)(hcalm:X.calm=true)(nd:X.N.Nodup)
  {st:Stmt}{x n:Str}{np hp pos:Pos}{b₀:Stmt}{suite:List Stmt}{c k:Nat}{C':Addr}{fb fh:Rho->R Fl} (hb:∀pins E',PS (jqN X pins E') st (tSx Z (jqN X pins E') B fb)) (hg:Gl X x) (hm:X.mg x=some (.ref C')) (hC':Z.cl[c]?=some C') (hd:(x == ("__debug__":Str))=false)
  (hk:X.N[k]?=some n) (hloc:X.env.scope.names.lookup n=some .local) (hh:∀pins ea,PSs (jkW X pins ea) (b₀::suite) (tS Z (jkW X pins ea) B fh)) :
  PS X (.Try [st] [.ExceptHandler (some (.Name x np)) (some n) (b₀::suite) hp] [] [] pos) (tS Z X B (jsS U fb fh c k)):=by
 intro pins s σ H D I hz1;obtain⟨F,ρ,r,h⟩:=hz1;refine wpAny_Try_except ?_;generalize hE:(fun (e:Value) (s₁:Shared)=>wpAny (model X.prog X.w) X.A (noteFrame e X.env) (fun _ s₂=>wpAny (model X.prog X.w) X.A (setFlight e none) (fun _ s₃=>wpAny (model X.prog X.w) X.A (handleBy e X.env [.ExceptHandler (some (.Name x np)) (some n) (b₀::suite) hp]) (SP X pins D) X.xe s₃) X.xe s₂) X.xe s₁)=E';have body:=jhl (hb pins E') jjx [] s σ H D (Inv.toTry I) (by
  refine⟨F,ρ,r,?_⟩;unfold jsS at h;cases hf:fb ρ with
  |ok fl=>rw[hf]at h;exact h
  |stk=>rw[hf]at h;exact False.elim h
  |err c'=>
   rw[hf]at h;simp only at h;split at h
   ·rename_i hU;intro pins' H' s' ea C hC I' stl fly;have I1:Inv X pins σ H' s':=Inv.ofTry I';obtain⟨⟨a0,B0,fly0,c1,c2,c3,c4⟩,hn⟩:=fly;have Hs:Has X pins H' B0:=⟨c1,c2,fun p hp=>c3 p (jvs _ hp),c4⟩;have fly0':FlyA B0 (X.env::X.outer) ea (.ref C) a0 s'.heap:=by rw[<-hst];exact fly0
    have frm:X.A.frames=some (X.env::X.outer):=by rw[<-hst];exact I1.ok.frames
    show E' (.ref ea) s';rw[<-hE];refine jfL (B:=B0) (cls:=.ref C) (a0:=a0) frm hfr fly0' fun h5 fly5 up5=>?_;have I5:Inv X pins σ H' { s' with heap:=h5 }:=Inv.flown (t':=s'.toks) I1 hfn Hs fly0.stays fly5.1 up5
    obtain⟨ob,hob,hobc⟩:=fly5.there;refine wpAny_handleBy_cons (codeAny_handlers_test ?_) (by intro q;cases q)
    refine jdC (X:=jkW X pins ea) (Inv.toHnd I5) hg hm ?_ hd;have e':ECls X.K C':=by rw[hK];exact S.ecl C' (jvh hC')
    have hsub:PySem.W.subIn X.K (.ref C) (.ref C')=some true:=by
     rw[hK];have:=S.sub c' c C C' hC hC';rw[hU]at this;exact this
    refine jgl (prog:=X.prog) (w:=X.w) (s:={ s' with heap:=h5 }) I5.kIn e' ⟨ob,hob,hobc⟩ hsub ?_
    refine codeAny_handlers_suite_as ?_;refine lands_againW (s:={ s' with heap:=h5 }) fly5 fun h6 fly6 up6=>?_
    have I6:Inv X pins σ H' { s' with heap:=h6 }:=Inv.flown (t':=s'.toks) I1 hfn Hs fly0.stays fly6.1 (up5.trans up6)
    obtain⟨oe,ws,hoe,hoec,hoed,_⟩:=fly6.first;have notB:B0.get? ea=none:=fly0.new;have notF:ea ∉ frs X.stack:=fun z=>by
     obtain⟨_,o2,q2,q3⟩:=I6.stack.mem z;have q2:h6.get? ea=some o2:=q2;rw[hoe]at q2;cases q2;exact q3 ws hoed
    have no:∀{b:Addr},(∃o',B0.get? b=some o')->b≠ea:=fun ⟨o',q⟩ z=>by rw[z,notB]at q;cases q
    have hL:ea≠X.env.locals:=fun z=>notF (by rw[hst];unfold frs;rw[jvk,hfr,z];exact ju7)
    have I6':Inv X pins σ (upd H' ea (.ext (jht ea C))) { s' with heap:=h6 }:=by
     refine Inv.track I6 hn ?_ hL (fun y c hc=>no (Hs.cl y c (hfn y) hc)) (fun p hp=>no (Hs.pn p hp)) ⟨⟨oe,ws,hoe,hoec,hoed⟩,⟨oe,hoe⟩,fun h1 h2 ⟨o,vs,q1,q2⟩ kk=>⟨o,vs,kk o q1,q2⟩⟩;cases e:X.s₀.heap.get? ea with
     |none=>rfl
     |some o0=>
      exact absurd rfl (no (Hs.s0 ea o0 e notF (by rw[hex];simp)))
    refine jds (X:=X) I6' nd hk (.inl hloc) (v:=.ref ea) rfl (fun s7 I7=>?_) (.inr hloc);obtain⟨r6,g6⟩:=r.refused (u:=.ext (jht ea C)) stl hn;have r7:=r6.put (i:=k) (d:=.exc c') (v:=.ref ea) (by simp only[Rep];exact⟨ea,C,rfl,.inr rfl,hC,jan⟩)
    have g7:=g6.trans (Go.put (i:=k) (d:=.exc c') (v:=.ref ea));cases hfh:fh ((ρ.map jdH).set k (.dat (.exc c')))with
    |err c2=>rw[hfh]at h;exact False.elim h
    |stk=>rw[hfh]at h;exact False.elim h
    |ok fl=>
     rw[hfh]at h;have h:Ok (XS Z X σ ρ F H) (match fl with | .nx ρ'=>.ok (.nx (ρ'.set k .no)) | _=>.stk) (FlP Z B σ ρ F H D):=h
     refine jvE (hh pins ea [] s7 _ _ (Ends.mk (fun σ8 H8=>∃F8 ρ8,Go σ ρ F H σ8 ρ8 F8 H8/\SR Z B F8 H8 σ8 ρ8/\FlP Z B σ ρ F H D (.nx (ρ8.set k .no))) (fun _ _=>False) (fun _ _=>False) (fun _ _=>False)) (Inv.toHnd I7) ⟨_,_,r7,?_⟩) (fun f s8 q8=>?_) fun _ _ z=>False.elim z
     ·rw[hfh];cases fl with
      |nx ρ8=>exact fun σ' F' H'' g' r'=>⟨F',ρ8,g7.trans g',r',h⟩
      |bk _=>exact False.elim h
      |ct _=>exact False.elim h
      |rt _ _=>exact False.elim h
     ·cases f with
      |next=>
       obtain⟨σ8,H8,I8',F8,ρ8,g8,r8,q8⟩:=q8;have I8:Inv X pins σ8 H8 s8:=Inv.ofHnd I8' I.ok.hd;obtain⟨m,hns,hl⟩:=I8.loc;refine wpAny_nameGoes_keeps (env:=X.env) hloc hns (by rw[I8.ok.kind];rfl) fun h9 v ns9 sb9=>?_
       exact⟨σ8.set k none,H8,Inv.unname I8 nd hk hns hl ns9 sb9,q8 _ F8 H8 (g8.trans Go.unname) r8.unname⟩
      |brk=>obtain⟨_,_,_,q⟩:=q8;exact False.elim q
      |cont=>obtain⟨_,_,_,q⟩:=q8;exact False.elim q
      |ret u=>obtain⟨_,_,_,_,_,q⟩:=q8;exact False.elim q
   ·exact False.elim h)
 refine jvE body (fun f s1 q=>?_) fun e s1 q=>?_
 ·cases f with
  |next=>obtain⟨σ',H',I',q⟩:=q;exact wpAny_execs_nil ⟨σ',H',Inv.ofTry I',q⟩
  |brk=>obtain⟨σ',H',I',q⟩:=q;exact⟨σ',H',Inv.ofTry I',q⟩
  |cont=>obtain⟨σ',H',I',q⟩:=q;exact⟨σ',H',Inv.ofTry I',q⟩
  |ret u=>obtain⟨v,σ',H',I',rv,q⟩:=q;exact⟨v,σ',H',Inv.ofTry I',rv,q⟩
 ·exact q
end DJ
namespace DJ
open PySem PySem.Spec PyProof.Rows L2
section
variable {G:Calls}{U:Nat->Nat->Bool}{Z:Kn}{X:Cx}{B:Bs}
theorem RV.unlk {F:Addr->Prop}{H0 H:Hp}{σ:L2.St}{ρ:Rho}{lk:List Nat}{w:Vl}{v:V}(h:RV Z F H0 H σ ρ w v):RV Z F H0 H σ (unlk lk ρ) w v:=by
 cases w with
 |dat d=>exact h
 |tmp o=>obtain⟨l,e,h1,h2,h3,h4⟩:=h;exact⟨l,e,h1,fun z=>h2 z.unlk,h3,h4⟩
 |slot i=>exact h
theorem jm5 {v:Vl}{ρ:Rho}{c:Nat}:jmt v ρ≠.err c:=by
 cases v with
 |dat d=>intro z;cases z
 |tmp o=>intro z;cases z
 |slot i=>
  simp only[jmt];split <;> (intro z;cases z)
theorem jr0 {e:Expr}{f:Rho->R (Vl×Rho)}{pos:Pos}(h:PE X e (tE Z X B f)):PS X (.Return (some e) pos) (tSx Z X B fun ρ=>(f ρ).bind fun p=>jmt p.1 p.2):=by
 refine PS.imp (jq7 h) fun D σ H hzz=>?_;obtain⟨F,ρ,r,q⟩:=hzz;refine⟨F,ρ,r,q.bind.imp (fun _ w=>w) fun p h1 v F' H' g r' rv=>?_⟩;obtain⟨fl,hf,h2⟩:=h1.pure fun c=>jm5;obtain⟨w,ρ'⟩:=p;cases w with
 |dat d=>cases hf;exact h2 v σ F' H' (fun _ z=>by cases z) g r' rv
 |tmp o=>cases hf;exact h2 v σ F' H' (fun _ z=>by cases z) g r' (rv.base r.base)
 |slot i=>
  have rv:σ[i]?=some (some v):=rv;simp only[jmt]at hf;split at hf
  ·rename_i o e;cases hf;obtain⟨l,e1,e2,e3,e4⟩:=r'.own i o _ _ e;rw[rv]at e1;cases e1;refine h2 (.ref l) σ F' H' (fun _ z=>by cases z) (g.trans (Go.weak Le.no)) (r'.weak Le.no) ⟨l,rfl,e2,fun z=>?_,e4.2 rfl,e3⟩
   obtain⟨j,o',f',k',z1,z2⟩:=z;rw[jva]at z1;by_cases hij:i=j
   ·rw[if_pos hij]at z1;split at z1 <;> cases z1
   ·rw[if_neg hij]at z1;exact r'.one i j _ _ _ _ _ _ l hij e z1 rv z2
  ·cases hf
theorem jpZ {pos:Pos}:PS X (.Return none pos) (tSx Z X B fun ρ=>.ok (.rt (.dat .non) ρ)):=by
 refine PS.imp joL fun D σ H hzz=>?_;obtain⟨F,ρ,r,q⟩:=hzz;exact q .non σ F H (fun _ z=>by cases z) Go.refl r (by show Rep _ _ _ _ _;simp only[Rep])
theorem jp0 {pos:Pos}:PS X (.Pass pos) (tSx Z X B fun ρ=>.ok (.nx ρ)):=PS.imp joK fun D σ H ⟨F,ρ,r,q⟩=>q σ F H Go.refl r
theorem jr1 {pos:Pos}:PS X (.Break pos) (tSx Z X B fun ρ=>.ok (.bk ρ)):=PS.imp jlW fun D σ H ⟨F,ρ,r,q⟩=>q σ F H Go.refl r
theorem jr2 {pos:Pos}:PS X (.Continue pos) (tSx Z X B fun ρ=>.ok (.ct ρ)):=PS.imp jgi fun D σ H ⟨F,ρ,r,q⟩=>q σ F H Go.refl r
theorem jkX {e:Expr}{f:Rho->R (Vl×Rho)}{pos:Pos}(h:PE X e (tE Z X B f))(hs:swapsWith e none pos.line X.env=pure false):PS X (.Expr e pos) (tSx Z X B fun ρ=>(f ρ).bind fun p=>.ok (.nx p.2)):=by
 refine PS.imp (jjy h hs) fun D σ H hzz=>?_;obtain⟨F,ρ,r,q⟩:=hzz;exact⟨F,ρ,r,q.bind.imp (fun _ w=>w) fun p h1 v F' H' g r' rv=>h1 σ F' H' g r'⟩
theorem jm6 {v:Vl}{ρ:Rho}{c:Nat}:jhs v ρ≠.err c:=by
 cases v with
 |dat d=>intro z;cases z
 |tmp o=>intro z;cases z
 |slot i=>
  simp only[jhs];intro z;cases e:toD (.slot i) ρ with
  |ok p=>rw[e]at z;cases z
  |err c=>exact jc2 e
  |stk=>rw[e]at z;cases z
theorem jp1 {σ:L2.St}{ρ ρ1 ρ2:Rho}{F F1:Addr->Prop}{H H1:Hp}{w:Vl}{v:V}{s:Sl}{i:Nat}(rv:RV Z F1 H H1 σ ρ1 w v)(r:SR Z B F H σ ρ)(r1:SR Z B F1 H1 σ ρ1)(g:Go σ ρ F H σ ρ1 F1 H1)(h:jhs w ρ1=.ok (s,ρ2)) :
  ∃F2,Go σ ρ F H (σ.set i (some v)) (ρ2.set i s) F2 H1/\SR Z B F2 H1 (σ.set i (some v)) (ρ2.set i s):=by
 have dat:∀{w:Vl},RV Z F1 H H1 σ ρ1 w v->(toD w ρ1).bind (fun p=>(.ok (.dat p.1,p.2):R (Sl×Rho)))=.ok (s,ρ2)->∃F2,Go σ ρ F H (σ.set i (some v)) (ρ2.set i s) F2 H1/\SR Z B F2 H1 (σ.set i (some v)) (ρ2.set i s):=fun {w} rv h=>by
  obtain⟨p,hp,h⟩:=R.bind_ok h;cases h;obtain⟨F2,g2,r2,rp,_⟩:=jfD rv r1 g hp;exact⟨F2,g2.trans Go.put,r2.put rp⟩
 cases w with
 |dat d=>exact dat rv h
 |slot j=>exact dat rv h
 |tmp o=>
  cases h;obtain⟨l,rfl,h1,h2,h3,h4⟩:=rv;exact⟨F1,g.putOwn h3,r1.putOwn h1 h2 (r.base l h3) h4⟩
theorem jr3 {e:Expr}{f:Rho->R (Vl×Rho)}{i:Nat}{x:Str}{pos pos':Pos}(nd:X.N.Nodup)(hi:X.N[i]?=some x)(hx:Loc X.env.scope x)(hf:X.fn x=true\/X.env.scope.names.lookup x=some .local)(h:PE X e (tE Z X B f))
  (hs:swapsWith e (some (.Name x pos')) pos.line X.env=pure false):PS X (.Assign [.Name x pos'] e pos) (tSx Z X B fun ρ=>(f ρ).bind fun p=>(jhs p.1 p.2).bind fun q=>if i < q.2.length then .ok (.nx (q.2.set i q.1))else .stk):=by
 refine PS.imp (jra nd hi hx h hs hf) fun D σ H hzz=>?_;obtain⟨F,ρ,r,q⟩:=hzz;refine⟨F,ρ,r,q.bind.imp (fun _ w=>w) fun p h1 v F' H' g r' rv=>?_⟩;obtain⟨t,ht,h2⟩:=h1.bind.pure fun c=>jm6;split at h2
 ·obtain⟨F2,g2,r2⟩:=jp1 (i:=i) rv r r' g ht;exact h2 _ F2 H' g2 r2
 ·exact False.elim h2
theorem jtD {c:Expr}{a b:List Stmt}{pos:Pos}{fc:Rho->R (Bool×Rho)}{fa fb:Rho->R Fl}(hc:PT X c (tT Z X B fc))(ha:PSs X a (tS Z X B fa))(hb:PSs X b (tS Z X B fb)):PS X (.If c a b pos) (tS Z X B fun ρ=>(fc ρ).bind fun t=>if t.1 then fa t.2 else fb t.2):=by
 refine PS.imp (js4 hc ha hb) fun D σ H hzz=>?_;obtain⟨F,ρ,r,q⟩:=hzz;refine⟨F,ρ,r,q.bind.imp (fun _ w=>w.xw) fun t p F' H' g r'=>?_⟩;obtain⟨b,ρ1⟩:=t;cases b with
 |true=>rw[if_pos rfl]at p ⊢;exact⟨F',ρ1,r',p.imp (fun _ w=>w.mono g) fun fl z=>z.go g⟩
 |false=>rw[if_neg jvR]at p ⊢;exact⟨F',ρ1,r',p.imp (fun _ w=>w.mono g) fun fl z=>z.go g⟩
theorem jr4:PSs X [] (tS Z X B fun ρ=>.ok (.nx ρ)):=PSs.imp jjx fun D σ H ⟨F,ρ,r,q⟩=>q σ F H Go.refl r
theorem jp2 {s:Stmt}{ss:List Stmt}{f g:Rho->R Fl}(h1:PS X s (tS Z X B f))(h2:PSs X ss (tS Z X B g)):PSs X (s::ss) (tS Z X B fun ρ=>(f ρ).bind (jph g)):=by
 refine PSs.imp (jhl h1 h2) fun D σ H hzz=>?_;obtain⟨F,ρ,r,q⟩:=hzz;refine⟨F,ρ,r,q.bind.imp (fun _ w=>w) fun fl p=>?_⟩;cases fl with
 |nx ρ'=>exact fun σ' F' H' g' r'=>⟨F',ρ',r',p.imp (fun _ w=>w.mono g') fun fl z=>z.go g'⟩
 |bk ρ'=>exact p
 |ct ρ'=>exact p
 |rt v ρ'=>exact p
theorem jr5 (hK:X.K=Z.K){x:Str}{i:Nat}{e:Expr}{f:Rho->R (Vl×Rho)}{xp apos cpos pos:Pos}(hv:PE X (.Name x xp) (jqU i))(h:PE X e (tE Z X B f))(ns:∀a p,e≠.Starred a p)(hline:(apos.endLine == cpos.line)=true) :
  PS X (.Expr (.Call (.Attribute (.Name x xp) "append" apos) [e] [] cpos) pos) (tSx Z X B fun ρ=>match ρ[i]? with
   |some (.own (.l _) _ _)=>(f ρ).bind fun p=>(toD p.1 p.2).bind fun q=>match q.2[i]? with
    |some (.own (.l xs) f false)=>if ja6 (xs.length + 1)then .ok (.nx (q.2.set i (.own (.l (xs++[q.1])) f false)))else .stk
    |_=>.stk
   |_=>.stk):=by
 have hbase:attributeBase (.Name x xp) "append" X.env (eval (.Name x xp) X.env)=eval (.Name x xp) X.env:=rfl;have he:=jai (es:=[]) (env:=X.env) ns;refine PS.imp (jjy (jro PySem.F.plainAttrs_list PySem.F.slot_list_append PySem.F.type_list_append jfr hv (jaK h jby he) hbase (by rw[he];rfl) hline he rfl) rfl) fun D σ H hzz=>?_
 obtain⟨F,ρ,r,q⟩:=hzz;try dsimp only at q
 split at q
 ·rename_i x0 f0 k0 e0;obtain⟨l,e1,_,⟨us,e3,_⟩,_⟩:=r.own i _ _ _ e0;refine⟨.ref l,e1,.inl ⟨rfl,us,SqL.of e3⟩,F,ρ,r,q.bind.imp (fun _ w=>w) fun p h1 v F1 H1 g1 r1 rv=>?_⟩;obtain⟨t,ht,h2⟩:=h1.bind.pure fun c=>jc2;obtain⟨F2,g2,r2,rp,_⟩:=jfD rv r1 g1 ht;split at h2
  ·rename_i xs f1 e2;split at h2
   ·rename_i hfit;obtain⟨l2,a1,a2,⟨vs,a3,a4⟩,a5⟩:=r2.own i _ _ _ e2;rw[e1]at a1;cases a1;have hl:=a4.length;have hz:=jaQ hfit;refine⟨l,vs,v,rfl,rfl,a3,by omega,?_⟩
    obtain⟨kp,sr⟩:=r2.wr (o':=.l (xs++[t.1])) (u:=.lst (vs++[v])) e2 e1 (fun kp=>⟨vs++[v],jan,(a4.mono kp).append (.one (rp.mono kp))⟩) false;exact h2 σ F2 _ (g2.trans (Go.wr e2 e1)) sr
   ·exact False.elim h2
  ·exact False.elim h2
 ·exact False.elim q
theorem jm7 (hK:X.K=Z.K)(hc:X.calm=true){C:Addr}{c:Nat}{x:Str}{np cpos pos:Pos}{a:Expr}{f:Rho->R (Vl×Rho)}(R':Rcl Z.K C)(hC:Z.cl[c]?=some C)(hg:Gl X x)(hm:X.mg x=some (.ref C))(hd:(x == ("__debug__":Str))=false)(ha:PE X a (tE Z X B f))(ns:∀e q,a≠.Starred e q) :
  PS X (.Raise (some (.Call (.Name x np) [a] [] cpos)) none pos) (tS Z X B fun ρ=>(f ρ).bind fun _=>.err c):=by
 refine PS.imp (jm4 hc (by rw[hK];exact R') hg hm hd (jaK ha jby (jai ns)) ns) fun D σ H hzz=>?_
 obtain⟨F,ρ,r,q⟩:=hzz;refine⟨F,ρ,r,q.bind.imp (fun _ w=>w.xw) fun p h1 v F' H' g r' rv=>?_⟩;have h1:XS Z X σ ρ F H c:=h1;refine⟨by rw[sizeLine_eq];show 1<=16777216;decide,fun pins s1 h' ea us I1 mk=>?_⟩
 exact(h1 σ p.2 F' H' g).2 pins H' s1 h' ea C us hC I1 ⟨fun _ _ e _=>e,fun _ o e=>⟨o,e⟩⟩ mk
end
inductive ForI (X:Cx) (pins:List (Addr×Obj)) (Z:Kn) (B:Bs) (σ:L2.St) (ρ1:Rho) (F2:Addr->Prop) (H2:Hp) (ls fp:List Addr) (tn:Nat->Heap->Prop) (n:Nat) (Rest:Nat->Rho->Prop) (k:Nat) (s':Shared):Prop
 |mk (i:Nat) (σ':L2.St) (F':Addr->Prop) (H':Hp) (ρ':Rho):k=n - i->i<=n->Inv X pins σ' H' s'->SR Z B F' H' σ' ρ'->Go σ ρ1 F2 H2 σ' ρ' F' H'->GK F2 H2 ls F' H'->tn i s'.heap->(∀b∈fp,H' b=none)->Rest i ρ'->ForI X pins Z B σ ρ1 F2 H2 ls fp tn n Rest k s'
theorem jr6 {Z:Kn}{X:Cx}{B:Bs}{tg iter:Expr}{body:List Stmt}{pos:Pos}{tgs:List Nat}{one:Bool}{fi:Rho->R (List D×List Nat×Rho)}{fb:Rho->R Fl}(hK:X.K=Z.K)(hp:PassesOwn (model X.prog X.w) X.A X.env X.xe)(hc:X.calm=true)(nd:X.N.Nodup)
  (hi:PI X tg iter (tI Z X B fi)) (hT:TgOk X tg tgs one) (hb:PSs X body (tS Z X B fb)) (hs:∀x,foldedSetIterable iter X.env x=pure x) :
  PS X (.For tg iter body [] pos) (tS Z X B fun ρ=>(fi ρ).bind fun t=>(jaY (fun x r=>(putT tgs one x r).bind fun r'=>fb r') t.1 t.2.2).bind fun r=>.ok (jeH t.2.1 r)):=by
 intro pins s σ H D I hz1;obtain⟨F,ρ,r,h⟩:=hz1;refine wpAny_For (thn (hi pins s σ H (fun J H'=>∃(F':Addr->Prop) (t:List DJ.D×List Nat×Rho) (ls:List Addr),ItR Z B σ ρ F H t.2.2 F' H' t.2.1 ls/\ItmG Z (GK F' H' ls) J t.1/\Ok (XS Z X σ ρ F H) ((jaY (fun x r=>(putT tgs one x r).bind fun r'=>fb r') t.1 t.2.2).bind fun r=>.ok (jeH t.2.1 r)) (FlP Z B σ ρ F H D)) I
  ⟨F,ρ,r,h.bind.imp (fun c w=>w.xw) fun t h1 F' H' J ls ir im=>⟨F',t,ls,ir,im,h1⟩⟩) fun v s1 h1=>thn h1 fun itv s2 hzz=>?_) hs
 obtain⟨it,fp,tn,J,H2,e,I2,T,st2,f2,F2,t,ls,ir,im,q2⟩:=hzz;subst e;obtain⟨xs,lk,ρ1⟩:=t;have W:=im.wk hK (fun l hl=>(ir.on l hl).1) T;have stat:∀{H':Hp},(∀b∈fp,H' b=none)->∀b∈fp,FpOk X pins H' b:=fun hn b hb=>⟨hn b hb,(f2 b hb).2⟩;let Rest:=fun (i:Nat) (ρ':Rho)=>Ok (XS Z X σ ρ F H) ((jaY (fun x r=>(putT tgs one x r).bind fun r'=>fb r') (xs.drop i) ρ').bind fun r=>.ok (jeH lk r)) (FlP Z B σ ρ F H D);refine codeAny_forLoop_any (ForI X pins Z B σ ρ1 F2 H2 ls fp tn xs.length Rest) ?_ xs.length
  ⟨0,σ,F2,H2,ρ1,rfl,Nat.zero_le _,I2,ir.sr,Go.refl,GK.refl,st2,fun b hb=>(f2 b hb).1,q2⟩
 rintro n s3 ⟨i,σ3,F3,H3,ρ3,rfl,hi3,I3,r3,g3,gk3,st3,fr3,q3⟩;by_cases hlt:i < xs.length
 ·have hx:xs[i]?=some xs[i]:=ju5 hlt;have q3:Ok (XS Z X σ ρ F H) ((jaY (fun x r=>(putT tgs one x r).bind fun r'=>fb r') (xs.drop i) ρ3).bind fun r=>.ok (jeH lk r)) (FlP Z B σ ρ F H D):=q3;rw[List.drop_eq_getElem_cons hlt]at q3;simp only[jaY,R.bind_assoc]at q3;cases hp3:putT tgs one xs[i] ρ3 with
  |err c=>exact absurd hp3 jeJ
  |stk=>rw[hp3]at q3;exact False.elim q3
  |ok ρ4=>
   rw[hp3,R.bind_ok']at q3;have q3:=q3.bind;refine wpAny_passesOwn hp (thn (W.take X rfl rfl hK hc nd tgs one hT i pins s3 σ3 ρ3 ρ4 B F3 H3 _ I3 r3 gk3 (stat fr3) st3 hx hp3) fun o s4 hzz=>?_);obtain⟨u,ho,h4⟩:=hzz;subst ho;refine wpAny_passesOwn hp (thn h4 fun _ s5 h5=>wpAny_passesOwn hp (thn h5 fun _ s6 hzz=>?_));obtain⟨σ6,F6,H6,I6,r6,g6,gk6,st6,fr6,_⟩:=hzz;have I6':=I6.pinned (stat fr6) (W.obj _ _ st6);have gA:Go σ ρ1 F2 H2 σ6 ρ4 F6 H6:=g3.trans g6;have gF:Go σ ρ F H σ6 ρ4 F6 H6:=ir.go.trans gA;have hm6:∀l∈ls,¬Mb σ6 ρ4 l:=fun l hl z=>by
    obtain⟨⟨o,e⟩,nm⟩:=ir.on l hl;rcases gA.mb z with z | z
    ·exact nm z
    ·rw[e]at z;cases z
   refine wpAny_passesOwn hp (thn (hb _ s6 σ6 H6 (Ends.mk (fun σ' H'=>∃F' ρ',SR Z B F' H' σ' ρ'/\Go σ6 ρ4 F6 H6 σ' ρ' F' H'/\Rest (i + 1) ρ') D.rt D.nx (fun σ' H'=>∃F' ρ',SR Z B F' H' σ' ρ'/\Go σ6 ρ4 F6 H6 σ' ρ' F' H'/\Rest (i + 1) ρ')) I6' ⟨F6,ρ4,r6,q3.imp (fun _ w=>w.mono gF) fun fl z=>?_⟩) fun f s7 q7=>?_)
   ·cases fl with
    |nx ρ'=>exact fun σ' F' H' g r'=>⟨F',ρ',r',g,z⟩
    |ct ρ'=>exact fun σ' F' H' g r'=>⟨F',ρ',r',g,z⟩
    |bk ρ'=>exact fun σ' F' H' g r'=>z σ' F' H' (ir.un σ' ρ' F' H' (gA.trans g)) r'.unlk
    |rt w ρ'=>exact fun u σ' F' H' n g r' rv=>z u σ' F' H' n (ir.un σ' ρ' F' H' (gA.trans g)) r'.unlk rv.unlk
   ·have again:∀{σ7:L2.St}{H7:Hp},Inv X (pins++jcj fp s6.heap) σ7 H7 s7->(∃F' ρ',SR Z B F' H7 σ7 ρ'/\Go σ6 ρ4 F6 H6 σ7 ρ' F' H7/\Rest (i + 1) ρ') ->
      ∃m,m < xs.length - i/\ForI X pins Z B σ ρ1 F2 H2 ls fp tn xs.length Rest m s7:=fun {σ7 H7} I7 hzz=>by
     obtain⟨F7,ρ7,r7,g7,q7⟩:=hzz;refine⟨xs.length - (i + 1),Nat.sub_lt_sub_left hlt (Nat.lt_succ_self i),i + 1,σ7,F7,H7,ρ7,rfl,hlt,I7.unpinned,r7,gA.trans g7,gk6.go W.lst r6 g7 hm6,W.keep _ _ _ st6 fun b hb o e=>(I7.pin (b,o) (jvg _ (jvg _ (jbx hb e)))).1,fun b hb=>?_,q7⟩;obtain⟨o,e,d⟩:=W.obj _ _ st6 b hb;exact(I7.pin (b,o) (jvg _ (jvg _ (jbx hb e)))).2.1
    cases f with
    |next=>obtain⟨σ7,H7,I7,n7⟩:=q7;exact again I7 n7
    |cont=>obtain⟨σ7,H7,I7,n7⟩:=q7;exact again I7 n7
    |brk=>obtain⟨σ7,H7,I7,q7⟩:=q7;exact⟨σ7,H7,I7.unpinned,q7⟩
    |ret v=>obtain⟨x7,σ7,H7,I7,r7,q7⟩:=q7;exact⟨x7,σ7,H7,I7.unpinned,r7,q7⟩
 ·have hie:i=xs.length:=by omega
  subst hie;have q3:Ok (XS Z X σ ρ F H) ((jaY (fun x r=>(putT tgs one x r).bind fun r'=>fb r') (xs.drop xs.length) ρ3).bind fun r=>.ok (jeH lk r)) (FlP Z B σ ρ F H D):=q3;rw[List.drop_eq_nil_of_le (jvK _)]at q3;have q3:FlP Z B σ ρ F H D (.nx (unlk lk ρ3)):=q3;refine wpAny_passesOwn hp (thn (W.done X rfl rfl hK hc pins s3 σ3 F3 H3 I3 r3.dom gk3 (stat fr3) st3) fun o s4 hzz=>?_);obtain⟨ho,I4⟩:=hzz;subst ho;exact wpAny_execs_nil ⟨σ3,H3,I4,q3 σ3 F3 H3 (ir.un σ3 ρ3 F3 H3 g3) r3.unlk⟩
end DJ
namespace L2
open PySem PySem.Spec PyProof.Rows
section
variable {X:Cx}
end
end L2
namespace DJ
open PySem PySem.Spec PyProof.Rows L2
section
variable {Z:Kn}{X:Cx}{B:Bs}
noncomputable def jtE (fe fk:Rho->R (Vl×Rho))(i:Nat)(ρ:Rho):R Fl:=(fe ρ).bind fun p=>(toD p.1 p.2).bind fun q=>match q.2[i]? with
 |some (.own (.l _) _ _)=>(fk q.2).bind fun kd=>match kd.2[i]?,kd.1 with
  |some (.own (.l xs) f false),.dat (.int j)=>if 0<=j/\j < xs.length then .ok (.nx (kd.2.set i (.own (.l (xs.set j.toNat q.1)) f false)))else .stk
  |_,_=>.stk
 |_=>.stk
theorem jr7 {x:Str}{i:Nat}{k e:Expr}{fk fe:Rho->R (Vl×Rho)}{xp spos pos:Pos}(hv:PE X (.Name x xp) (jqU i))(hk:PE X k (tE Z X B fk))(h:PE X e (tE Z X B fe))(hs:swapsWith e (some (.Subscript (.Name x xp) k spos)) pos.line X.env=pure false)(hsl:∀a b c d,k≠.Slice a b c d)
  (hw:swappedStores [.Subscript (.Name x xp) k spos] e X.env=pure none):PS X (.Assign [.Subscript (.Name x xp) k spos] e pos) (tSx Z X B (jtE fe fk i)):=by
 refine PS.imp (jnV h (jq9 hv hk jl5 (by intro v;cases k <;> first | rfl | exact absurd rfl (hsl _ _ _ _))) hs hw rfl) fun D σ H hzz=>?_
 obtain⟨F,ρ,r,q⟩:=hzz;unfold jtE at q;refine⟨F,ρ,r,q.bind.imp (fun _ w=>w) fun p h1 v F1 H1 g1 r1 rv=>?_⟩;obtain⟨t,ht,h2⟩:=h1.bind.pure fun c=>jc2;obtain⟨F2,g2,r2,rp,_⟩:=jfD rv r1 g1 ht;split at h2
 ·rename_i x0 f0 k0 e0;obtain⟨l,e1,_⟩:=r2.own i _ _ _ e0;refine⟨.ref l,e1,F2,t.2,r2,h2.bind.imp (fun c w=>w.mono g2) fun kd h3 kv F3 H3 g3 r3 rk=>?_⟩;split at h3
  ·rename_i xs f1 j e2 ek;split at h3
   ·rename_i hj;obtain⟨l2,a1,a2,⟨vs,a3,a4⟩,a5⟩:=r3.own i _ _ _ e2;rw[e1]at a1;cases a1;have hk0:kv=.int j:=by
     obtain⟨kw,kρ⟩:=kd;simp only at ek;subst ek;have rk:Rep Z F3 H3 (.int j) kv:=rk;simpa only[Rep] using rk
    subst hk0;have hl:=a4.length;have hix:ixN vs.length j=some j.toNat:=by
     unfold ixN;rw[if_pos hj.1,if_pos (by omega)]
    refine⟨l,vs,j,j.toNat,rfl,rfl,a3,hix,?_⟩;have rp3:=rp.mono (g3.keep r2);obtain⟨kp,sr⟩:=r3.wr (o':=.l (xs.set j.toNat t.1)) (u:=.lst (vs.set j.toNat v)) e2 e1 (fun kp=>⟨vs.set j.toNat v,jan,(a4.mono kp).set (rp3.mono kp) _⟩) false;exact h3 σ F3 _ ((g2.trans g3).trans (Go.wr e2 e1)) sr
   ·exact False.elim h3
  ·exact False.elim h3
 ·exact False.elim h2
theorem jr8 (hK:X.K=Z.K)(hc:X.calm=true)(nd:X.N.Nodup){es:List Expr}{kk:Nat}{tp pos:Pos}{is:List Nat}{e:Expr}{f:Rho->R (Vl×Rho)}(hT:TgsOk X es is)(h:PE X e (tE Z X B f))(hs:swapsWith e (some (.Tuple es kk tp)) pos.line X.env=pure false)(hw:swappedStores [.Tuple es kk tp] e X.env=pure none) :
  PS X (.Assign [.Tuple es kk tp] e pos) (tSx Z X B fun ρ=>(f ρ).bind fun p=>(deref p.1 p.2).bind fun d=>(putT is false d p.2).bind fun ρ'=>.ok (.nx ρ')):=by
 refine PS.imp (jnV h (jnU (n:=is.length) hc (hT.pgs nd) hT.lens.1 hT.lens.2) hs hw rfl) fun D σ H hzz=>?_;obtain⟨F,ρ,r,q⟩:=hzz;refine⟨F,ρ,r,q.bind.imp (fun _ w=>w) fun p h1 v F1 H1 g1 r1 rv=>?_⟩;obtain⟨d,hd,h2⟩:=h1.bind.pure fun c=>jaP;obtain⟨ρ',hp,h3⟩:=h2.bind.pure fun c=>jeJ;have rb:=ja9 rv r1 hd;cases d with
 |tup ds=>
  simp only[putT]at hp;split at hp
  ·rename_i hl;cases hp;obtain⟨a,vs,rfl,ft,rs⟩:=rb.tup;have hvl:vs.length=is.length:=by rw[hl,rs.length]
   exact⟨a,vs,rfl,(by rw[hK];exact ft.sq),hvl,jkd hvl.symm (h3 _ F1 H1 (g1.trans (r1.putN rs).2) (r1.putN rs).1)⟩
  ·cases hp
 |_=>simp only[putT]at hp <;> cases hp
end
end DJ
namespace DJ
open PySem PySem.Spec PyProof.Rows L2
theorem jiF {X:Cx}{scope:Scope}{N cn:List Str}{nt:Nat}{caps:List Nat}{Z:Kn}{B:Bs}{elt tg iter:Expr}{ks:List Expr}{pos spos py:Pos}{tgs:List Nat}{one:Bool}{fi:Rho->R (List D×List Nat×Rho)}{fc:Option (Rho->R (Bool×Rho))}{fe:Rho->R (Vl×Rho)}{y:Str}{j:Nat}
  (hK:X.K=Z.K) (nd:X.N.Nodup) (hj:X.N[j]?=some y) (hy:Loc X.env.scope y) (hf:X.fn y=true\/X.env.scope.names.lookup y=some .local) (hsw:swapsWith (.ListComp elt [⟨tg,iter,ks,0⟩] scope pos) (some (.Name y py)) spos.line X.env=pure true)
  (hc:X.calm=true) (C:CompOk X scope N cn nt caps) (hi:PI X tg iter (tI Z X B fi))
  (hT:∀s' H' fp E,TgOk (cxComp X N scope s' H' fp E) tg tgs one) (hlow:∀i∈tgs,i < nt)
  (hE:∀s' H' fp E B',PE (cxComp X N scope s' H' fp E) elt (tE Z (cxComp X N scope s' H' fp E) B' fe)) {xx:Bool} (Tp:xx=true->TopX X)
  (hk:(ks=[]/\fc=none)\/∃k g,ks=[k]/\fc=some g/\∀s' H' fp E B',PT (cxComp X N scope s' H' fp E) k (tT Z (cxComp X N scope s' H' fp E) B' g)) (hs:∀x,foldedSetIterable iter X.env x=pure x) :
  PS X (.Assign [.Name y py] (.ListComp elt [⟨tg,iter,ks,0⟩] scope pos) spos) (tSx Z X B fun ρ=>((fi ρ).bind fun t=>((compGo (jdL tgs one nt caps fc fe) t.1 t.2.2).pass xx).bind fun ys=>(.ok (.tmp (.l ys.1),unlk t.2.1 ys.2):R (Vl×Rho))).bind fun p=>(jhs p.1 p.2).bind fun q=>if j < q.2.length then .ok (.nx (q.2.set j q.1))else .stk):=by
 intro pins s σ H D I hz1;obtain⟨F,ρ,r,h⟩:=hz1;rw[exec_Assign_Name_used _ _ _ _ hsw];refine jvx (wpAny_standAt (jvx ?_));show wpAny _ X.A (do let _ <-comprehension (.ListComp elt [⟨tg,iter,ks,0⟩] scope pos) scope X.env _ (newList []) false (eval iter X.env) (some (assign (.Name y py) X.env))) _ _ s
 refine jvx (jvE (wpAny_comprehension_free (use:=some (assign (.Name y py) X.env)) (Q:=fun _ s'=>SP X pins D .next s') rfl hs (jke (C.cells I)) C.kind C.names ?_) (fun _ s' hq=>jvy (jvy hq)) fun _ _ e=>e);simp only[R.bind_assoc,R.bind_ok']at h;refine thn (hi pins s σ H (fun J H'=>∃(F':Addr->Prop) (t:List DJ.D×List Nat×Rho) (ls:List Addr),ItR Z B σ ρ F H t.2.2 F' H' t.2.1 ls/\ItmG Z (GK F' H' ls) J t.1/\Ok (XW Z X σ ρ H) (((compGo (jdL tgs one nt caps fc fe) t.1 t.2.2).pass xx).bind fun ys=>(jhs (.tmp (.l ys.1)) (unlk t.2.1 ys.2)).bind fun q=>if j < q.2.length then .ok (.nx (q.2.set j q.1))else .stk) (FlP Z B σ ρ F H D)) I
  ⟨F,ρ,r,h.bind.imp (fun _ w=>w) fun t h1 F' H' J ls ir im=>⟨F',t,ls,ir,im,h1⟩⟩) fun v s1 h1=>thn h1 fun itv s2 hzz=>?_
 obtain⟨it,fp,tn,J,H2,e,I2,Tn,st2,f2,F2,t,ls,ir,im,q2⟩:=hzz;subst e;have fo:∀b∈fp,(b∈X.ex\/X.s₀.heap.objs.size<=b)/\b≠X.env.locals/\(∀x c,X.env.cells.lookup x=some c->c≠b)/\∀p∈X.pn++pins,p.1≠b:=fun b hb=>by
  obtain⟨f0,f1,f3,f4,f5,f6⟩:=f2 b hb;exact⟨f4,f1,f5,f6⟩
 refine jhx (fc:=fc) (RR:=fun acc C'=>compPost (model X.prog X.w) X.A X.xe (some (assign (.Name y py) X.env)) (fun _ s'=>SP X pins D .next s') acc C') hK hc C I2 ir.sr (im.wk hK (fun l hl=>(ir.on l hl).1) Tn) (fun l hl=>(ir.on l hl).2) st2 f2 (fun s' H' E=>hT s' H' fp E) hlow (fun i hi=>?_) (fun s' H' E B'=>hE s' H' fp E B') ?_ rfl (fun z=>?_) ?_ ?_
 ·rw[ir.sr.len,I2.len];exact C.capLt i hi
 ·rcases hk with z | ⟨k,g,e1,e2,hk⟩
  ·exact .inl z
  ·exact .inr ⟨k,g,e1,e2,fun s' H' E B'=>hk s' H' fp E B'⟩
 ·rw[z,jhE]at q2;exact q2
 ·intro ys ρE E s3 l σ' F' H' s' vs hY hl I3 IY gE rE nF nO hl' rp;rw[hY,jeR]at q2;have q2:Ok (XW Z X σ ρ H) (if j < (unlk t.2.1 ρE).length then .ok (.nx ((unlk t.2.1 ρE).set j (.own (.l ys) false false)))else .stk) (FlP Z B σ ρ F H D):=q2;split at q2
  ·have q2:FlP Z B σ ρ F H D (.nx ((unlk t.2.1 ρE).set j (.own (.l ys) false false))):=q2
   ·obtain⟨m,hn,_⟩:=IY.loc;obtain⟨oC,es,ep,eC,dC,rC⟩:=id hn;have eC:s'.heap.get? s3.heap.objs.size=some oC:=eC;have IX:Inv X pins σ H' s':=jeS I3 fo IY (Heap.SameBut.refl _ _);have hCf:H' s3.heap.objs.size=none:=IY.free;have hCL:s3.heap.objs.size≠X.env.locals:=Nat.ne_of_gt I3.lt;have hCs:X.s₀.heap.objs.size<=s3.heap.objs.size:=I3.sz;have hCx:∀x c,X.env.cells.lookup x=some c->c≠s3.heap.objs.size:=fun x c e z=>by
     obtain⟨v,w⟩:=I3.cell x c e;exact absurd w.lt (by rw[z];exact jvO _)
    have hCp:∀p∈X.pn++pins,p.1≠s3.heap.objs.size:=fun p hp z=>by
     have:=jvG (I3.pin p hp).1;rw[z]at this;exact absurd this (jvO _)
    have IP:Inv X (pins++[(s3.heap.objs.size,oC)]) σ H' s':=IX.pins_of fun p hp=>(List.mem_append.mp hp).elim (fun z=>IX.pin p (jvg _ z)) fun z=>by
     have e:p=(s3.heap.objs.size,oC):=by simpa using z
     subst e;exact⟨eC,hCf,hCL,I3.nofs (jvK _),fun v z=>by rw[dC]at z;cases z⟩
    have hlH:H l=none:=ir.go.free hl;have r':SR Z B F' H' (σ.set j (some (.ref l))) ((unlk t.2.1 ρE).set j (.own (.l ys) false false)):=rE.unlk.putOwn nF (fun z=>nO z.unlk) (r.base l hlH) ⟨vs,hl',rp⟩;have g':Go σ ρ F H (σ.set j (some (.ref l))) ((unlk t.2.1 ρE).set j (.own (.l ys) false false)) F' H':=(ir.un σ ρE F' H' gE).putOwn hlH;show wpAny _ X.A (assign (.Name y py) X.env (.ref l)) _ _ _;refine wpAny_assign_Name (jds IP nd hj hy (v:=.ref l) rfl (fun s4 I4=>?_) hf);have e4:s4.heap.get? s3.heap.objs.size=some oC:=(I4.pin (s3.heap.objs.size,oC) (by simp)).1
    refine⟨m,⟨oC,es,ep,e4,dC,rC⟩,fun h5 sb=>?_⟩;have I5:Inv X pins (σ.set j (some (.ref l))) H' { s4 with heap:=h5 }:=(I4.unpinned).turned (t':=s4.toks) (it:=s3.heap.objs.size) (fun b o hb e=>(sb.2 b hb).trans e) hCf hCL (.inr hCs) hCx hCp
    exact⟨_,H',I5,q2 _ F' H' g' r'⟩
  ·exact False.elim q2
 ·intro c E s3 l σ' H' s' pins' ea Cc hY hl I3 hC IY stl fly;rw[hY]at q2;obtain⟨hx,q2⟩:=jhF q2;exact jhG (Tp hx) I3 fo IY fly fun s'' I'' fl''=>q2 pins H' s'' ea Cc hC I'' (Stl.go ir.go stl) fl''
noncomputable def toSs:List S->Ss
 |[]=>.nil
 |s::ss=>.cons s (toSs ss)
noncomputable def joh (sc:List (Str×NameKind))(x:Str):Bool:=sc.lookup x == some .local || sc.lookup x == some .cell
noncomputable def jen:Expr->Bool
 |.ListComp ..=>false
 |.SetComp ..=>false
 |.DictComp ..=>false
 |_=>true
noncomputable def isTup:Expr->Bool
 |.Tuple ..=>true
 |_=>false
noncomputable def jtF:Expr->Bool
 |.Slice ..=>true
 |_=>false
noncomputable def jp3 (T:Tab)(sc:List (Str×NameKind))(x:Str):Option Nat:=gd (jeO x || knd sc x != 2) (jd2 T.excs x)
section
variable (T:Tab)
noncomputable def trX (n:Nat)(sc:List (Str×NameKind))(N:List Str)(s:Stmt):Option S:=match s with
 |.Expr e _=>gd (!jen e) ((trE T n sc N e).map .expr)
 |_=>none
noncomputable def jp4 (e:Expr):Option (Str×Str×List Expr):=match e with
 |.Call f as ks pos=>gd (!ks.isEmpty) ((jtz f).bind fun p=>gd (!(p.2.2.endLine == pos.line)) ((jiB p.1).map fun x=>(x,p.2.1,as)))
 |_=>none
theorem jkY {e:Expr}{p:Str×Str×List Expr}(h:jp4 e=some p):∃xp apos cpos,e=.Call (.Attribute (.Name p.1 xp) p.2.1 apos) p.2.2 [] cpos/\(apos.endLine == cpos.line)=true:=by
 cases e with
 |Call f as ks pos=>
  replace h:=jap h;obtain⟨hk,h⟩:=h;cases jcb hk;replace h:=jag h;obtain⟨⟨v,m,apos⟩,hf,h⟩:=h;cases jhK hf;replace h:=jap h;obtain⟨hl,h⟩:=h;replace h:=jax h;obtain⟨x,hx,rfl⟩:=h;obtain⟨np,rfl⟩:=jba hx;exact⟨np,apos,pos,rfl,jbZ hl⟩
 |_=>exact jaj h
noncomputable def jr9:Expr->Option (Expr×Expr)
 |.Subscript v k _=>some (v,k)
 |_=>none
theorem jkZ {e:Expr}{p:Expr×Expr}(h:jr9 e=some p):∃q,e=.Subscript p.1 p.2 q:=by
 cases e with
 |Subscript v k q=>cases h;exact⟨q,rfl⟩
 |_=>exact jaj h
noncomputable def juQ (tr:Expr->Option E)(q:Bool)(sc:List (Str×NameKind))(N:List Str)(e t:Expr):Option S:=
 jn8 (jiB t) (fun x=>gd (!joh sc x) (o2 (jd2 N x) (tr e) .asg)) <|
 jn8 (jmH t) (fun es=>gd (q || !jen e || isTup e) ((mapO jiB es).bind fun xs=>gd (!xs.all (joh sc)) (o2 (mapO (jd2 N) xs) (tr e) .unp))) <|
 jn8 (jr9 t) (fun p=>(jiB p.1).bind fun x=>gd (jeO x || knd sc x != 1 || !jen e || jtF p.2) (o3 (jd2 N x) (tr p.2) (tr e) .sub)) <|
 none
noncomputable def juo (tr:Expr->Option E)(i:Nat)(m:Str)(as:List Expr):Option S:=
 alt (m == "append") ((jiA as).bind fun e=>(tr e).map (.app i)) <|
 none
noncomputable def jp5 (tr:Expr->Option E)(sc:List (Str×NameKind))(N:List Str)(e:Expr):Option S:=match jp4 e with
 |some p=>gd (jeO p.1 || knd sc p.1 != 1) ((jd2 N p.1).bind fun i=>juo tr i p.2.1 p.2.2)
 |none=>gd (!jen e) ((tr e).map .expr)
noncomputable def juR (n:Nat)(trs:Bool->List (Str×NameKind)->List Str->Stmt->Option S)(q:Bool)(sc:List (Str×NameKind))(N:List Str):Stmt->Option S
 |.Return v _=>match v with
  |some e=>(trE { T with quiet:=q } n sc N e).map .ret
  |none=>some .retN
 |.Pass _=>some .pas
 |.Break _=>some .brk
 |.Continue _=>some .cnt
 |.Assign ts e _=>(jiA ts).bind (juQ (trE { T with quiet:=q } n sc N) q sc N e)
 |.If c a b _=>o3 (trE { T with quiet:=q } n sc N c) (mapO (trs q sc N) a) (mapO (trs q sc N) b) fun c a b=>.ife c (toSs a) (toSs b)
 |.For tg iter body oe _=>gd (q || !oe.isEmpty) ((jdU tg).bind fun p=>gd (!p.1.all (joh sc)) (o3 (mapO (jd2 N) p.1) (jqM { T with quiet:=q } sc (trE { T with quiet:=q } n sc N) p.2 iter) (mapO (trs q sc N) body) fun is it b=>.loop is p.2 it (toSs b)))
 |.Raise x c _=>gd (q || c.isSome) (x.bind fun e=>(jfP e).bind fun p=>(jiA p.2).bind fun a=>o2 (jp3 T sc p.1) (trE { T with quiet:=q } n sc N a) .rai)
 |.Try b hs oe fb _=>gd (q || !oe.isEmpty || !fb.isEmpty) ((jiA b).bind fun st=>(jiA hs).bind fun
  |.ExceptHandler t y suite _=>(t.bind jiB).bind fun x=>y.bind fun y=>gd (suite.isEmpty || !(sc.lookup y == some .local)) (o4 (trX { T with quiet:=q } n sc N st) (jp3 T sc x) (jd2 N y) (mapO (trs true sc N) suite) fun b c k h=>.tryx b c (some k) (toSs h)))
 |.Expr e _=>jp5 (trE { T with quiet:=q } n sc N) sc N e
 |_=>none
noncomputable def trS:Nat->Bool->List (Str×NameKind)->List Str->Stmt->Option S
 |0=>fun _ _ _ _=>none
 |n + 1=>juR T n (trS n)
end
structure XT (T:Tab)(G:Calls)(U:Nat->Nat->Bool)(Z:Kn)(n:Nat)(X:Cx)(sc:List (Str×NameKind)):Prop extends XD T G U Z n X sc where
 fn:∀x,X.fn x=true
 own:T.quiet=false->PassesOwn (model X.prog X.w) X.A X.env X.xe
 hex:X.ex=[]
 hst:X.stack=X.env::X.outer
 hfr:X.env.frame=some X.env.locals
 rcl:∀C∈Z.cl,Rcl Z.K C
variable {T:Tab}{G:Calls}{U:Nat->Nat->Bool}{Z:Kn}{m W:Nat}
theorem XT.loc {X:Cx}{sc:List (Str×NameKind)}(D:XT T G U Z m X sc){x:Str}(h:joh sc x=true):L2.Loc X.env.scope x:=by
 unfold joh at h;simp only[Bool.or_eq_true,beq_iff_eq]at h;unfold L2.Loc;rcases D.sc x with e | ⟨e,_⟩
 ·rw[e];exact h
 ·rw[e]at h;rcases h with z | z <;> cases z
theorem XT.toHnd {X:Cx}{sc:List (Str×NameKind)}(D:XT T G U Z m X sc){pins:List (Addr×Obj)}{ea:Addr}:XT { T with quiet:=true } G U Z m (jkW X pins ea) sc:=⟨D.toXD.toHnd,D.fn,(fun z=>nomatch z),D.hex,D.hst,D.hfr,D.rcl⟩
theorem jgy {X:Cx}{sc:List (Str×NameKind)}(D:XT T G U Z m X sc):∀{xs:List Str}{ps:List Pos}{is:List Nat},ps.length=xs.length->xs.all (joh sc)=true->mapO (jd2 X.N) xs=some is->TgsOk X ((xs.zip ps).map fun p=>Expr.Name p.1 p.2) is
 |[],_,is,_,_,h=>by cases h;exact .nil
 |x::xs,[],_,h,_,_=>by simp at h
 |x::xs,p::ps,is,h,ha,hm=>by
  obtain⟨i,is',h1,h2,rfl⟩:=jaI hm;simp only[List.all_cons,jvP]at ha;exact .cons (jaS h1) (D.loc ha.1) (.inl (D.fn x)) (jgy D (by simpa using h) ha.2 h2)
theorem jsa {X:Cx}{sc:List (Str×NameKind)}(D:XT T G U Z m X sc){tg:Expr}{xs:List Str}{one:Bool}{is:List Nat}(ht:jdU tg=some (xs,one))(ha:xs.all (joh sc)=true)(hm:mapO (jd2 X.N) xs=some is):TgOk X tg is one/\(one=false->∃es k pos,tg=.Tuple es k pos):=by
 rcases jkQ ht with ⟨x,p,rfl,rfl,rfl⟩ | ⟨es,k,p,rfl,q,rfl⟩
 ·obtain⟨i,is',h1,h2,rfl⟩:=jaI hm;cases h2;simp only[List.all_cons,List.all_nil,Bool.and_true]at ha;exact⟨.one (jaS h1) (D.loc ha) (.inl (D.fn x)),fun z=>by cases z⟩
 ·obtain⟨ps,l1,l2,e⟩:=jkU q;refine⟨?_,fun _=>⟨_,_,_,rfl⟩⟩;rw[e];exact .many (jgy D l2 ha hm)
theorem jcD {e:Expr}(h:jen e=true){t:Option Expr}{l:Nat}{env:Env}:swapsWith e t l env=pure false:=by
 unfold swapsWith;cases e <;> first | rfl | cases h
theorem tS.congr {X:Cx}{B:Bs}{f g:Rho->R Fl}(h:∀ρ,f ρ=g ρ):tS Z X B f=tS Z X B g:=by rw[show f=g from funext h]
theorem tSx.congr {X:Cx}{B:Bs}{f g:Rho->R Fl}(h:∀ρ,f ρ=g ρ):tSx Z X B f=tSx Z X B g:=by rw[show f=g from funext h]
theorem jhO {X:Cx}{B:Bs}{n:Nat}{q:Bool}{sc:List (Str×NameKind)}(ih:∀s S',trS T n q sc X.N s=some S'->PS X s (tS Z X B (evS G U W S'))):∀{ss:List Stmt}{Ss':List S},mapO (trS T n q sc X.N) ss=some Ss'->PSs X ss (tS Z X B (evSs G U W (toSs Ss')))
 |[],Ss',h=>by
  cases h;rw[tS.congr (g:=fun ρ=>.ok (.nx ρ)) fun ρ=>by simp only[toSs,evSs]]
  exact jr4
 |s::ss,Ss',h=>by
  obtain⟨S1,Sr,h1,h2,rfl⟩:=jaI h;have:=jp2 (ih s S1 h1) (jhO ih h2);rw[tS.congr (g:=fun ρ=>(evS G U W S1 ρ).bind (jph (evSs G U W (toSs Sr)))) fun ρ=>by simp only[toSs,evSs]]
  exact this
theorem joi {X:Cx}{sc:List (Str×NameKind)}(D:XD T G U Z m X sc){x:Str}{c:Nat}(h:jp3 T sc x=some c):jeO x=false/\knd sc x=2/\∃C,Z.cl[c]?=some C/\X.mg x=some (.ref C):=by
 replace h:=jap h;obtain⟨hc,h⟩:=h;replace hc:=jbU hc;obtain⟨c1,c2⟩:=hc;exact⟨c1,jgv c2,D.excs c x (jaS h)⟩
theorem jm8 {X:Cx}{sc:List (Str×NameKind)}{B:Bs}{n:Nat}{st:Stmt}{S':S}(D:XD T G U Z m X sc)(h:trX T n sc X.N st=some S'):PS X st (tSx Z X B (evS G U W S')):=by
 cases st with
 |Expr e pos=>
  replace h:=jap h;obtain⟨hp,h⟩:=h;replace h:=jax h;obtain⟨E',q,rfl⟩:=h;rw[tSx.congr (g:=fun ρ=>(evE G U E' ρ).bind fun p=>.ok (.nx p.2)) fun ρ=>by simp only[evS]]
  exact jkX ((jc6 n _ X sc e E' D q).pe B) (jcD (jbZ hp))
 |_=>exact jaj h
end DJ
namespace DJ
open PySem PySem.Spec PyProof.Rows L2
variable {T:Tab}{G:Calls}{U:Nat->Nat->Bool}{Z:Kn}{m W:Nat}
theorem PS.cg {X:Cx}{B:Bs}{s:Stmt}{f g:Rho->R Fl}(h:PS X s (tS Z X B g))(e:∀ρ,f ρ=g ρ):PS X s (tS Z X B f):=by
 rw[tS.congr e];exact h
theorem PS.cgx {X:Cx}{B:Bs}{s:Stmt}{f g:Rho->R Fl}(h:PS X s (tSx Z X B g))(e:∀ρ,f ρ=g ρ):PS X s (tSx Z X B f):=by
 rw[tSx.congr e];exact h
theorem jp6 {n:Nat}{X:Cx}{sc:List (Str×NameKind)}{B:Bs}{q:Bool}(D:XT { T with quiet:=q } G U Z m X sc){x:Str}{px pos:Pos}{e:Expr}{i:Nat}{E':E}(hl:joh sc x=true)(hi:jd2 X.N x=some i)(he:trE { T with quiet:=q } n sc X.N e=some E') :
  PS X (.Assign [.Name x px] e pos) (tS Z X B (evS G U W (.asg i E'))):=by
 have S:=jc6 n _ X sc e E' D.toXD he;have hK:=D.hK;have hN:=jaS hi;have hx:=D.loc hl;rw[tS.congr (g:=fun ρ=>(evE G U E' ρ).bind fun p=>(jhs p.1 p.2).bind fun q=>if i < q.2.length then .ok (.nx (q.2.set i q.1))else .stk) fun ρ=>by simp only[evS]]
 refine PS.x ?_;have plain:swapsWith e (some (.Name x px)) pos.line X.env=pure false->PS X (.Assign [.Name x px] e pos) (tSx Z X B fun ρ=>(evE G U E' ρ).bind fun p=>(jhs p.1 p.2).bind fun q=>if i < q.2.length then .ok (.nx (q.2.set i q.1))else .stk):=fun hs=>jr3 D.nd hN hx (.inl (D.fn x)) (S.pe B) hs;cases hp:jen e with
 |true=>exact plain (jcD hp)
 |false=>
 cases n with
 |zero=>exact jaj he
 |succ n=>
 cases e with
 |ListComp elt gens scope cpos=>
  obtain⟨hq,tg,iter,ks,N,cn,nt,caps,tgs,one,it,fc,Ee,Ec,rfl,rfl,cd,ev⟩:=jfT D.toXD (jc6 n _) (jc6 n _) he;have hsw:swapsWith (.ListComp elt [⟨tg,iter,ks,0⟩] scope cpos) (some (.Name x px)) pos.line X.env=pure (X.env.blockKind == .function && X.env.kindOf x == some .local && px.line == (Expr.ListComp elt [⟨tg,iter,ks,0⟩] scope cpos).pos.line && !(scope.names.any fun p=>p.1 == x && (p.2 == .local || p.2 == .cell))):=rfl;generalize (X.env.blockKind == .function && X.env.kindOf x == some .local && px.line == (Expr.ListComp elt [⟨tg,iter,ks,0⟩] scope cpos).pos.line && !(scope.names.any fun p=>p.1 == x && (p.2 == .local || p.2 == .cell)))=bb at hsw;cases bb with
  |false=>exact plain hsw
  |true=>
   have:=jiF (pos:=cpos) (spos:=pos) (py:=px) hK D.nd hN hx (.inl (D.fn x)) hsw (D.calm hq) cd.C (cd.hi B) cd.hT cd.hlow cd.hE (xx:=!T.deep) (fun z=>D.top (by cases e:T.deep with | false=>rfl | true=>rw[e]at z;cases z)) cd.hK cd.hs
   rw[tSx.congr (f:=fun ρ=>(evE G U (E.comp Ee tgs one nt caps it Ec (!T.deep)) ρ).bind _) (g:=_) fun ρ=>?_]
   ·exact this
   ·rw[ev ρ]
 |SetComp a b c d=>exact jaj he
 |DictComp a b c d f=>exact jaj he
 |_=>cases hp
theorem jp7 {n:Nat}{X:Cx}{sc:List (Str×NameKind)}{B:Bs}{q:Bool}(D:XT { T with quiet:=q } G U Z m X sc){x m':Str}{xp apos cpos pos:Pos}{as:List Expr}{i:Nat}{S':S}(hv:PE X (.Name x xp) (jqU i))(hline:(apos.endLine == cpos.line)=true)(h:juo (trE { T with quiet:=q } n sc X.N) i m' as=some S') :
  PS X (.Expr (.Call (.Attribute (.Name x xp) m' apos) as [] cpos) pos) (tS Z X B (evS G U W S')):=by
 have hK:=D.hK;have ih:∀{e E'},trE { T with quiet:=q } n sc X.N e=some E'->Says G U Z X e E':=fun {e E'} h=>jc6 n _ X sc e E' D.toXD h
 refine PS.x ?_;replace h:=jaC h;rcases h with ⟨hm,h⟩ | h
 ·cases jc3 hm;replace h:=jag h;obtain⟨e,h1,h⟩:=h;cases jaR h1;replace h:=jax h;obtain⟨E',he,rfl⟩:=h;have S:=ih he;rw[tSx.congr (g:=fun ρ=>match ρ[i]? with
   |some (.own (.l _) _ _)=>(evE G U E' ρ).bind fun p=>(toD p.1 p.2).bind fun q=>match q.2[i]? with
    |some (.own (.l xs) f false)=>if ja6 (xs.length + 1)then .ok (.nx (q.2.set i (.own (.l (xs++[q.1])) f false)))else .stk
    |_=>.stk
   |_=>.stk) fun ρ=>by simp only[evS] <;> rfl]
  exact jr5 hK hv (S.pe B) S.ns hline
 exact jaj h
theorem jp8:∀(n:Nat) (X:Cx) (sc:List (Str×NameKind)) (B:Bs) (q:Bool) (s:Stmt) (S':S),XT { T with quiet:=q } G U Z m X sc->trS T n q sc X.N s=some S'->PS X s (tS Z X B (evS G U W S')):=by
 intro n;induction n with
 |zero=>intro X sc B q s S' D h;exact jaj h
 |succ n ih=>
  intro X sc B q s S' D h;have ihX:∀{ss:List Stmt}{Ss':List S},mapO (trS T n q sc X.N) ss=some Ss'->PSs X ss (tS Z X B (evSs G U W (toSs Ss'))):=jhO fun s S' h=>ih X sc B q s S' D h;have sa:∀{e E'},trE { T with quiet:=q } n sc X.N e=some E'->Says G U Z X e E':=fun {e E'} h=>jc6 n _ X sc e E' D.toXD h
  have hK:=D.hK;cases s with
  |Return v pos=>
   cases v with
   |some e=>
    replace h:=jax h;obtain⟨E',w,rfl⟩:=h;exact PS.cg (PS.x (jr0 ((sa w).pe B))) fun ρ=>by simp only[evS] <;> rfl
   |none=>
    cases h;exact PS.cg (PS.x jpZ) fun ρ=>by simp only[evS] <;> rfl
  |Pass pos=>
   cases h;exact PS.cg (PS.x jp0) fun ρ=>by simp only[evS] <;> rfl
  |Break pos=>
   cases h;exact PS.cg (PS.x jr1) fun ρ=>by simp only[evS] <;> rfl
  |Continue pos=>
   cases h;exact PS.cg (PS.x jr2) fun ρ=>by simp only[evS] <;> rfl
  |Assign ts e pos=>
   replace h:=jag h;obtain⟨t,ht,h⟩:=h;cases jaR ht;replace h:=jbL h;rcases h with ⟨x,hx,h⟩ | h
   ·obtain⟨px,rfl⟩:=jba hx;replace h:=jap h;obtain⟨hl,h⟩:=h;replace h:=jco h;obtain⟨i,E',hi,he,rfl⟩:=h;exact jp6 D (jbZ hl) hi he
   replace h:=jbL h;rcases h with ⟨es,hx,h⟩ | h
   ·obtain⟨k,tp,rfl⟩:=jdN hx;replace h:=jap h;obtain⟨hq,h⟩:=h;replace hq:=jbU hq;obtain⟨hq,hnt⟩:=hq;replace hq:=jbU hq;obtain⟨hq,hpl⟩:=hq;replace h:=jag h;obtain⟨xs,hxs,h⟩:=h;replace h:=jap h;obtain⟨hl,h⟩:=h;replace h:=jco h;obtain⟨is,E',h1,he,rfl⟩:=h;obtain⟨ps,l1,l2,ee⟩:=jkU hxs;have hT:TgsOk X es is:=by rw[ee];exact jgy D l2 (jbZ hl) h1
    have hw:swappedStores [.Tuple es k tp] e X.env=pure none:=by
     cases e <;> first | rfl | cases hnt
    refine PS.x ?_;exact PS.cgx (jr8 hK (D.calm hq) D.nd hT ((sa he).pe B) (jcD (jbZ hpl)) hw) fun ρ=>by simp only[evS] <;> rfl
   replace h:=jbL h;rcases h with ⟨⟨v,k⟩,hx,h⟩ | h
   ·obtain⟨sp,rfl⟩:=jkZ hx;replace h:=jag h;obtain⟨x,hx,h⟩:=h;obtain⟨xp,rfl⟩:=jba hx;replace h:=jap h;obtain⟨hc,h⟩:=h;replace hc:=jbU hc;obtain⟨hc,hsl⟩:=hc;replace hc:=jbU hc;obtain⟨hc,hpl⟩:=hc;replace hc:=jbU hc;obtain⟨hb,hk⟩:=hc;replace h:=jdj h;obtain⟨i,Ek,E',hi,hek,he,rfl⟩:=h;have hv:PE X (.Name x xp) (jqU i):=jjv (jaS hi) (D.vis (jgv hk)) (jfI hb).1 (jps hb);refine PS.x ?_;exact PS.cgx (jr7 hv ((sa hek).pe B) ((sa he).pe B) (jcD (jbZ hpl)) (fun a b c d z=>by subst z;cases hsl) rfl) fun ρ=>by simp only[evS,jtE] <;> rfl
   exact jaj h
  |If c a b pos=>
   replace h:=jdj h;obtain⟨Ec,Sa,Sb,hc,ha,hb,rfl⟩:=h;exact PS.cg (jtD ((sa hc).pt B) (ihX ha) (ihX hb)) fun ρ=>by simp only[evS] <;> rfl
  |For tg iter body oe pos=>
   replace h:=jap h;obtain⟨hq,h⟩:=h;replace hq:=jbU hq;obtain⟨hq,ho⟩:=hq;cases jcb ho;replace h:=jag h;obtain⟨⟨xs,one⟩,ht,h⟩:=h;replace h:=jap h;obtain⟨hl,h⟩:=h;replace h:=jdj h;obtain⟨is,it,Sb,h1,h2,h3,rfl⟩:=h;obtain⟨hT,hone⟩:=jsa D ht (jbZ hl) h1;have hi:=jhN (tg:=tg) D.toXD (fun e E' z=>sa z) hone h2 B;exact PS.cg (jr6 hK (D.own hq) (D.calm hq) D.nd hi hT (ihX h3) (jfR (jel h2))) fun ρ=>by simp only[evS] <;> rfl
  |Raise x c pos=>
   replace h:=jap h;obtain⟨hq,h⟩:=h;replace hq:=jbU hq;obtain⟨hq,hc⟩:=hq;cases c with
   |some _=>cases hc
   |none=>
   replace h:=jag h;obtain⟨e,h1,h⟩:=h;cases h1;replace h:=jag h;obtain⟨⟨x,as⟩,h2,h⟩:=h;obtain⟨np,cpos,rfl⟩:=jc5 h2;replace h:=jag h;obtain⟨a,h3,h⟩:=h;cases jaR h3;replace h:=jco h;obtain⟨c,E',hc,he,rfl⟩:=h;obtain⟨hb,hk,C,hC,hm⟩:=joi (T:={ T with quiet:=q }) D.toXD hc
   have S:=sa he;exact PS.cg (jm7 hK (D.calm hq) (D.rcl C (jvh hC)) hC (D.gl hk) hm (jfI hb).1 (S.pe B) S.ns) fun ρ=>by simp only[evS] <;> rfl
  |Try bd hs oe fb pos=>
   replace h:=jap h;obtain⟨hq,h⟩:=h;replace hq:=jbU hq;obtain⟨hq,hfb⟩:=hq;replace hq:=jbU hq;obtain⟨hq,ho⟩:=hq;cases jcb ho;cases jcb hfb;replace h:=jag h;obtain⟨st,h1,h⟩:=h;cases jaR h1;replace h:=jag h;obtain⟨⟨t,y,suite,hp⟩,h1,h⟩:=h;cases jaR h1;replace h:=jag h;obtain⟨x,h1,h⟩:=h;replace h1:=jag h1;obtain⟨t,h2,h1⟩:=h1;obtain⟨np,rfl⟩:=jba h1;cases h2;replace h:=jag h;obtain⟨y,h1,h⟩:=h;cases h1;replace h:=jap h;obtain⟨hc,h⟩:=h;replace hc:=jbU hc;obtain⟨hsu,hy⟩:=hc;have hy:sc.lookup y=some .local:=by simpa using hy
   cases suite with
   |nil=>cases hsu
   |cons b₀ suite=>
   replace h:=jn7 h;obtain⟨b,c,k,hs,hb,hc,hk,hh,rfl⟩:=h;obtain⟨hbd,hkd,C,hC,hm⟩:=joi (T:={ T with quiet:=q }) D.toXD hc
   have hloc:X.env.scope.names.lookup y=some .local:=by
    rcases D.sc y with e | ⟨e,_⟩
    ·rw[e];exact hy
    ·rw[hy]at e;cases e
   rw[tS.congr (g:=jsS U (evS G U W b) (evSs G U W (toSs hs)) c k) fun ρ=>by
    simp only[evS,jsS] <;> (cases evS G U W b ρ <;> rfl)]
   refine jrZ hK D.toXD.ecs D.fn D.hex D.hst D.hfr (D.calm hq) D.nd (fun pins E'=>jm8 D.toXD.toTry hb) (D.gl hkd) hm hC (jfI hbd).1 (jaS hk) hloc fun pins ea=>?_;have DH:XT { T with quiet:=true } G U Z m (jkW X pins ea) sc:=D.toHnd
   exact jhO (X:=jkW X pins ea) (fun s S' h=>ih (jkW X pins ea) sc B true s S' DH h) hh
  |Expr e pos=>
   replace h:jp5 (trE { T with quiet:=q } n sc X.N) sc X.N e=some S':=h
   unfold jp5 at h;cases ha:jp4 e with
   |some p=>
    rw[ha]at h;obtain⟨x,m',as⟩:=p;obtain⟨xp,apos,cpos,rfl,hline⟩:=jkY ha;replace h:=jap h;obtain⟨hc,h⟩:=h;replace hc:=jbU hc;obtain⟨hb,hk⟩:=hc;replace h:=jag h;obtain⟨i,hi,h⟩:=h;exact jp7 D (jjv (jaS hi) (D.vis (jgv hk)) (jfI hb).1 (jps hb)) hline h
   |none=>
    rw[ha]at h;replace h:=jap h;obtain⟨hp,h⟩:=h;replace h:=jax h;obtain⟨E',w,rfl⟩:=h;refine PS.x ?_;exact PS.cgx (jkX ((sa w).pe B) (jcD (jbZ hp))) fun ρ=>by simp only[evS] <;> rfl
  |_=>exact jaj h
end DJ
namespace DJ
open PySem PySem.Spec PyProof.Rows L2
structure DefS where
 name:Str
 N:List Str
 ps:List Str
 st:Stmt
theorem jtG {α:Type}{P:α->Prop}:∀x∈([]:List α),P x:=fun _ h=>nomatch h
theorem jch {α:Type}{P:α->Prop}{a:α}{l:List α}(h:P a)(t:∀x∈l,P x):∀x∈a::l,P x:=List.forall_mem_cons.mpr ⟨h,t⟩
noncomputable def From {α:Type}(Q:Nat->α->Prop)(k:Nat)(l:List α):Prop:=∀(i:Nat) (d:α),l[i]?=some d->Q (k + i) d
theorem jeT {α:Type}{Q:Nat->α->Prop}{k:Nat}:From Q k []:=fun _ _ h=>by cases h
theorem jak {α:Type}{Q:Nat->α->Prop}{k:Nat}{a:α}{l:List α}(h:Q k a)(t:From Q (k + 1) l):From Q k (a::l):=fun i d e=>by
 cases i with
 |zero=>cases e;exact h
 |succ i=>
  have:=t i d e;rwa [Nat.add_assoc,Nat.add_comm 1 i]at this
theorem From.at {α:Type}{Q:Nat->α->Prop}{l:List α}(h:From Q 0 l):∀(i:Nat) (d:α),l[i]?=some d->Q i d:=fun i d e=>by
 have:=h i d e;rwa [Nat.zero_add]at this
theorem juS {α:Type}{P:List α->Prop}(h:P []):∀us:List α,us.length=0->P us
 |[],_=>h
theorem jtH {α:Type}{P:List α->Prop}{n:Nat}(h:∀a (r:List α),r.length=n->P (a::r)):∀us:List α,us.length=n + 1->P us
 |a::r,e=>h a r (Nat.succ.inj e)
theorem jjr {α:Type}{P:List α->Prop}(h:∀a,P [a]):∀us:List α,us.length=1->P us:=jtH fun a=>juS (P:=fun r=>P (a::r)) (h a)
theorem len2 {α:Type}{P:List α->Prop}(h:∀a b,P [a,b]):∀us:List α,us.length=2->P us:=jtH fun a=>jjr (P:=fun r=>P (a::r)) (h a)
theorem jup {α:Type}{P:List α->Prop}(h:∀a b c,P [a,b,c]):∀us:List α,us.length=3->P us:=jtH fun a=>len2 (P:=fun r=>P (a::r)) (h a)
noncomputable def BindP (d:DefS):Prop:=∀(kV doc pm:Value) (an:Option Addr) (cdv ct:Value) (us:List Value),us.length=d.ps.length->bindArgs (PySem.W.fnOf d.name d.name (defArgs d.st) (defBody d.st) (defScope d.st) .none kV doc pm an cdv ct) ⟨us,[]⟩=pure (d.ps.zip us)
structure Prog (K:Frag)(mg:Str->Option Value)(Z:Kn)(U:Nat->Nat->Bool)(T:Tab)(DS:List DefS)(P:List Def)(fuel:Nat):Prop where
 hK:K=Z.K
 loud:T.quiet=false
 tab:T.defs=DS.map (·.name)
 blt:∀x∈bltNames,mg x=none
 cons:∀x d,T.cons.lookup x=some d->∃u v,mg x=some u/\RelV v u/\∀F H,Rep Z F H d v
 excs:∀(i:Nat) (nm:Str),T.excs[i]?=some nm->∃C,Z.cl[i]?=some C/\mg nm=some (.ref C)
 ecs:Ecs U Z
 rcl:∀C∈Z.cl,Rcl Z.K C
 fns:∀(i:Nat) (d:DefS),DS[i]?=some d->∃f fd,mg d.name=some (.ref f)/\Fun K d.name d.name d.st f fd/\BindP d/\FnScope d.N d.ps (defScope d.st) /\
  ∃ss,mapO (trS T fuel false (defScope d.st).names d.N) (defBody d.st)=some ss/\P[i]?=some ⟨d.ps.length,d.N.length,toSs ss⟩
section
variable {Z:Kn}{B:Bs}{F F':Addr->Prop}{H H':Hp}{N:List Str}{vs:List V}{sls:List Sl}{n:Nat}{σ':L2.St}{ρ':Rho}
theorem jc8 {i:Nat}{s:Sl}(hs:s≠.no)(h:(sls++List.replicate n Sl.no)[i]?=some s):sls[i]?=some s:=by
 by_cases hi:i < sls.length
 ·rwa [jvm hi]at h
 ·rw[jvi (by omega),List.getElem?_replicate]at h
  split at h
  ·cases h;exact absurd rfl hs
  ·cases h
theorem jk0 {i:Nat}{v:V}(h:vs[i]?=some v):(start N vs)[i]?=some (some v):=by
 unfold L2.start;rw[jvm (by rw[jve];exact(List.getElem?_eq_some_iff.mp h).1),jvb,h]
 rfl
theorem jcd {i:Nat}(hi:i < vs.length):(start N vs)[i]?=(vs.map some)[i]?:=by
 rw[jk0 (ju5 hi),jvb,ju5 hi];rfl
theorem jm9 (hN:vs.length<=N.length)(r:SR Z B F H (vs.map some) sls):SR Z B F H (start N vs) (sls++List.replicate (N.length - sls.length) .no):=by
 have hl:sls.length=vs.length:=by have:=r.len;simpa using this
 have lt:∀{i:Nat}{s:Sl},sls[i]?=some s->i < vs.length:=fun h=>by rw[<-hl];exact(List.getElem?_eq_some_iff.mp h).1
 refine⟨r.dom,?_,fun i d h=>?_,fun i o f k h=>?_,fun i j o o' f k f' k' l ne h h'=>?_,r.base⟩
 ·unfold L2.start;simp[hl]
 ·have h:=jc8 (by intro z;cases z) h
  rw[jcd (lt h)];exact r.dat i d h
 ·have h:=jc8 (by intro z;cases z) h
  rw[jcd (lt h)];exact r.own i o f k h
 ·have h:=jc8 (by intro z;cases z) h
  have h':=jc8 (by intro z;cases z) h'
  rw[jcd (lt h),jcd (lt h')];exact r.one i j _ _ _ _ _ _ l ne h h'
theorem jeU (hl:sls.length=vs.length){b:Addr}(h:Mb (start N vs) (sls++List.replicate n .no) b):Mb (vs.map some) sls b:=by
 obtain⟨i,o,f,h1,h2⟩:=h;have h1:=jc8 (by intro z;cases z) h1
 rw[jcd (by rw[<-hl];exact(List.getElem?_eq_some_iff.mp h1).1)]at h2
 exact⟨i,o,f,h1,h2⟩
theorem jna {k:Nat}{ρ:Rho}{j:Nat}{o:O}{f g:Bool}(h:(jix k ρ)[j]?=some (.own o f g)):f=true/\ρ[j]?=some (.own o true g)/\j < k:=by
 unfold jix at h;rw[jvb]at h;have hj:j < k:=by
  refine Nat.lt_of_not_le fun z=>?_;rw[jvl (by simpa using z)]at h
  cases h
 rw[ju5 (by simpa using hj),List.getElem_range]at h
 simp only[Option.map_some]at h;split at h
 ·rename_i s e;rw[e];cases s with
  |no=>cases h
  |dat d=>cases h
  |own o1 f1 g1=>
   cases f1 with
   |true=>cases h;exact⟨rfl,rfl,hj⟩
   |false=>cases h
 ·cases h
theorem jnb {k:Nat}{ρ:Rho}{j:Nat}{d:D}:(jix k ρ)[j]?≠some (.dat d):=by
 intro h;unfold jix at h;rw[jvb]at h;cases e:(List.range k)[j]? with
 |none=>rw[e]at h;cases h
 |some i=>
  rw[e]at h;simp only[Option.map_some]at h;split at h
  ·rename_i s _;cases s with
   |no=>cases h
   |dat d=>cases h
   |own o1 f1 g1=>cases f1 <;> cases h
  ·cases h
theorem joj (hl:sls.length=vs.length)(hB:∀(k:Nat) (l:Addr),B.lent k=some l->(vs.map some)[k]?=some (some (.ref l)))(g:Go (start N vs) (sls++List.replicate n .no) F H σ' ρ' F' H')(r:SR Z B F' H' σ' ρ') :
  Go (vs.map some) sls F H (vs.map some) (jix vs.length ρ') F' H'/\SR Z B F' H' (vs.map some) (jix vs.length ρ')/\∀w u H0,(∀i,w≠.slot i)->RV Z F' H0 H' σ' ρ' w u->RV Z F' H0 H' (vs.map some) (jix vs.length ρ') w u:=by
 have own:∀{j:Nat}{o:O}{f k:Bool},(jix vs.length ρ')[j]?=some (.own o f k)->f=true/\ρ'[j]?=some (.own o true k)/\j < vs.length/\∃l,σ'[j]?=some (some (.ref l))/\(vs.map some)[j]?=some (some (.ref l))/\OwR Z B F' H' j o true l:=fun {j o f k} h=>by
  obtain⟨rfl,e,hj⟩:=jna h;obtain⟨l,e1,e2⟩:=r.own j o _ _ e;exact⟨rfl,e,hj,l,e1,hB j l (e2.2.2.1 rfl),e2⟩
 refine⟨⟨fun b o e nm=>g.stay b o e fun z=>nm (jeU hl z),g.sub,fun a ha=>?_,fun j o f k b h1 h2=>?_,g.there⟩,⟨r.dom,by simp[jix],fun i d h=>absurd h jnb,fun i o f k h=>?_,fun i j o o' f k f' k' l ne h h' q q'=>?_,r.base⟩,fun w u H0 hw rv=>?_⟩
 ·rcases g.new a ha with q | q | q
  ·exact .inl q
  ·exact .inr (.inl q)
  ·exact .inr (.inr (jeU hl q))
 ·obtain⟨rfl,e,hj,l,e1,e2,_⟩:=own h1;rw[h2]at e2;cases e2;rcases g.ow j o true k b e e1 with ⟨o0,k0,a1,a2,a3⟩ | q
  ·have a1:=jc8 (by intro z;cases z) a1
   rw[jcd hj]at a2;exact .inl ⟨o0,k0,a1,a2,a3⟩
  ·exact .inr q
 ·obtain⟨rfl,e,hj,l,e1,e2,e3⟩:=own h;exact⟨l,e2,e3⟩
 ·obtain⟨rfl,e,hj,l1,e1,e2,_⟩:=own h;obtain⟨rfl,e',hj',l1',e1',e2',_⟩:=own h';rw[q]at e2;cases e2;rw[q']at e2';cases e2';exact r.one i j _ _ _ _ _ _ l ne e e' e1 e1'
 ·cases w with
  |dat d=>exact rv
  |tmp o=>
   obtain⟨l,e,h1,h2,h3,h4⟩:=rv;refine⟨l,e,h1,fun z=>h2 ?_,h3,h4⟩;obtain⟨j,o',f',k',z1,z2⟩:=z;obtain⟨rfl,e,hj,l1,e1,e2,_⟩:=own z1;rw[z2]at e2;cases e2;exact⟨j,o',_,k',e,e1⟩
  |slot i=>exact absurd rfl (hw i)
end
theorem Stl.start {N:List Str}{vs:List V}{sls:List Sl}{n:Nat}{H H':Hp}(hl:sls.length=vs.length)(s:Stl (start N vs) (sls++List.replicate n .no) H H'):Stl (vs.map some) sls H H':=⟨fun b o e nm=>s.stay b o e fun z=>nm (jeU hl z),s.there⟩
theorem jp9 {Pr:Program}{w:World}{K:Frag}{mg:Str->Option Value}{base:Heap}{Z:Kn}{U:Nat->Nat->Bool}{T:Tab}{DS:List DefS}{P:List Def}{fuel W:Nat}(R:Prog K mg Z U T DS P fuel) :
  ∀(n i:Nat) (d:DefS) (f:Addr) (fd:FuncData),DS[i]?=some d->mg d.name=some (.ref f)->Fun K d.name d.name d.st f fd->FnOk Pr w K mg base (CXD Pr w) n f fd d.ps (spD Z (jaa U W P n) i):=by
 intro n;induction n with
 |zero=>
  intro i d f fd hd hm h2;refine⟨fun vs H Q E h=>?_,fun A outer s H args us vs Q E hr e0 hb hv h=>?_⟩
  ·obtain⟨B,F,sls,_,_,_,h⟩:=h;exact False.elim h
  ·obtain⟨B,F,sls,_,_,_,h⟩:=h;exact False.elim h
 |succ n ih=>
  intro i d f fd hd hm h2;obtain⟨f0,fd0,g1,g2,h3,h4,ss,h5,h6⟩:=R.fns i d hd;have hsl:∀{B:Bs}{F:Addr->Prop}{H:Hp}{vs:List V}{sls:List Sl},SR Z B F H (vs.map some) sls->sls.length=vs.length:=fun r=>by have:=r.len;simpa using this
  have hlen:∀vs H Q E,spD Z (jaa U W P (n + 1)) i vs H Q E->vs.length=d.ps.length:=fun vs H Q E ⟨B,F,sls,r,_,_,h⟩=>by
   simp only[jaa,h6]at h;split at h
   ·rename_i hl;rw[<-hsl r];exact hl
   ·exact False.elim h
  obtain⟨oc,od,kV,doc,pm,an,cdv,ct,osl,rfl,lk,hcd⟩:=h2.ex;refine jtg lk hcd h4 hlen fun A outer s H vs Q E hr hsp=>?_;obtain⟨B,F,sls,r,hB1,hB2,h⟩:=hsp;have hls:=hsl r;simp only[jaa,h6]at h;split at h
  ·rename_i hl;have hpl:d.ps.length<=d.N.length:=by have:=congrArg List.length h4.pre;rw[List.length_take]at this;omega
   have hT:{ T with quiet:=false }=T:=by
    obtain⟨a,b,c,e,q,dp⟩:=T;have:q=false:=R.loud;subst this;rfl
   have D:XT { T with quiet:=false } (jaa U W P n) U Z n (jih (CXD Pr w) Pr w K mg base d.N d.name (defScope d.st) f cdv A outer s H E) (defScope d.st).names:=by
    refine { hK:=R.hK,calm:=fun _=>rfl,nd:=h4.nd,room:=fun _=>hr,un:=hr.units,sc:=fun x=>.inl rfl,blt:=R.blt,defs:=fun j nm hj=>?_,cons:=R.cons,excs:=R.excs,ecl:=?_,sub:=?_,top:=fun _=>⟨fun _=>rfl,rfl,rfl⟩,fn:=fun _=>rfl,own:=fun _=>PassesOwn.leaving,hex:=rfl,hst:=rfl,hfr:=rfl,rcl:=R.rcl }
    ·have hj:T.defs[j]?=some nm:=hj;rw[R.tab,jvb]at hj;cases q:DS[j]? with
     |none=>rw[q]at hj;cases hj
     |some d'=>
      rw[q]at hj;cases hj;obtain⟨f',fd',a1,a2,a3,_⟩:=R.fns j d' q;exact⟨f',fd',d'.ps,a1,a2.kp,a2.binds a3,ih j d' f' fd' q a1 a2⟩
    ·show ∀C∈Z.cl,ECls K C;rw[R.hK];exact R.ecs.ecl
    ·show ∀(i j:Nat) (C D:Addr),Z.cl[i]?=some C->Z.cl[j]?=some D->PySem.W.mroIn K C (.ref D)=some (U i j);rw[R.hK];exact R.ecs.sub
   refine⟨_,jhO (B:=B) (W:=W) (fun s' S' hs=>jp8 fuel _ _ B false s' S' D hs) h5,?_⟩;have hN:d.N.length - d.ps.length=d.N.length - sls.length:=by rw[hl]
   have sr:=jm9 (N:=d.N) (by rw[<-hls,hl];exact hpl) r
   rw[<-hN]at sr;refine⟨F,_,sr,h.bind.imp (fun c wc=>?_) fun fl z=>?_⟩
   ·intro σ1 ρ1 F1 H1 g1;refine⟨fun pins H' s' ea C hC I stl fly=>jrX I fly (wc C H' hC (Stl.start hls (Stl.go g1 stl))),fun pins H' s' h' ea C us hC I stl mk=>jpX I mk (wc C H' hC (Stl.start hls (Stl.go g1 stl)))⟩
   ·have hk:d.ps.length=vs.length:=by rw[<-hl,hls]
    cases fl with
    |nx ρ'=>
     intro σ' F' H' g r';obtain⟨a,b,c⟩:=joj hls hB2 g r';rw[<-hk]at a b;exact z .non F' H' (fun _ z=>by cases z) a b (by show Rep _ _ _ _ _;simp only[Rep])
    |rt v ρ'=>
     intro u σ' F' H' ns g r' rv;obtain⟨a,b,c⟩:=joj hls hB2 g r';have rv':=c v u B.hp ns rv;rw[hB1]at rv';rw[<-hk]at a b rv';exact z u F' H' ns a b rv'
    |bk ρ'=>exact False.elim z
    |ct ρ'=>exact False.elim z
  ·exact False.elim h
theorem jsb {Z:Kn}{H:Hp}{a:Addr}{ns:List Int}{G:Calls}{i:Nat}{fin:List Sl}(h:G i [.dat (.lst (ns.map .int))]=.ok (.dat (.bl true),fin))(hS:SqL Z.K H a (ns.map V.int)) :
  spD Z G i [.ref a] H (fun v _=>v=.bl true) fun _ _ _=>False:=by
 have rs:∀(F:Addr->Prop) (ms:List Int),Reps Z F H (ms.map D.int) (ms.map V.int):=fun F ms=>by
  induction ms with
  |nil=>exact .nil
  |cons m ms ih=>exact .cons (by simp only[Rep]) ih
 have rl:∃F:Addr->Prop,Dom F H/\FL Z.K F H a (ns.map V.int):=by
  rcases hS with h | h
  ·refine⟨fun b=>b=a,fun b e=>?_,.inl ⟨rfl,h⟩⟩;have e:b=a:=e;subst e;rcases h with h | ⟨o,h⟩
   ·exact⟨_,h⟩
   ·exact⟨_,h⟩
  ·exact⟨fun _=>False,fun b e=>e.elim,.inr h⟩
 obtain⟨F,dm,fl⟩:=rl;refine⟨⟨H,fun _=>none⟩,F,[.dat (.lst (ns.map .int))],⟨dm,rfl,fun j d e=>?_,fun j o f k e=>?_,fun j j' o o' f k f' k' l _ e=>?_,fun _ z=>z⟩,rfl,(fun _ _ z=>nomatch z),?_⟩
 ·cases j with
  |zero=>simp at e;subst e;exact⟨_,rfl,by simp only[Rep];exact⟨a,_,rfl,fl,rs F ns⟩⟩
  |succ j=>simp at e
 ·cases j with
  |zero=>simp at e
  |succ j=>simp at e
 ·cases j with
  |zero=>simp at e
  |succ j=>simp at e
 ·rw[h];intro v F' H' _ _ _ rp;have rp:Rep Z F' H' (.bl true) v:=rp;simpa only[Rep] using rp
theorem jk1 {l:PySem.W.OpenLaw}{q:Program}{loose:List Str}{XP:(Str->Option Value)->Heap->Prop}{YP:World->Heap->Prop}{d:DefRec}{K:Params->Frag}{cl:List Addr}{U:Nat->Nat->Bool}{T:Tab}{DS:List DefS}{P:List Def}{fuel W n i:Nat}{x:Str}{dl:DefS}
  (hn:l.most=some 63) (hdf:d.params.defaults=[]) (hr:Room n callerA) (hY:∀(w:World) (h:Heap),YP w h->(K w.params).In h) (hi:DS[i]?=some dl) (hnm:dl.name=d.name) (hps:dl.ps=[x])
  (hP:∀(w:World) (mg:Str->Option Value) (h:Heap),(K w.params).In h->h.Ns mainGlobals mg->Prog (K w.params) mg ⟨K w.params,cl⟩ U T DS P fuel)
  (hlaw:∀ns:List Int,ns.length<=63->∃fin,jaa U W P n i [.dat (.lst (ns.map .int))]=.ok (.dat (.bl true),fin)) :
  PySem.W.WalkO q loose XP YP l.row.toRowW d [] (fun f vs=>PySem.call f vs):=by
 refine L2.joY (n:=63) (k:=n) (x:=x) (CX:=fun w=>CXD l.prog w) (sp:=fun w=>spD ⟨K w.params,cl⟩ (jaa U W P n) i) hn (by decide) hdf hr hY (fun w mg fa h KX G hmg=>?_) (fun w H a ns hl _ hS=>?_) fun w H s e s' hx=>?_
 ·have R:=hP w mg h KX G;obtain⟨f,fd,h1,h2,h3,h4,_⟩:=R.fns i dl hi;have h1':=h1;rw[hnm,hmg]at h1;cases h1;refine⟨fd,fun s u=>?_,fun base kb nb=>?_⟩
  ·obtain⟨oc,od,kV,doc,pm,an,cdv,ct,osl,rfl,lk,hcd⟩:=h2.ex;refine .of_eq ?_;have:=h3 kV doc pm an cdv ct [u] (by rw[hps];rfl)
   rw[hps]at this;exact this
  ·have R':=hP w mg base kb nb;have:=jp9 (Pr:=l.prog) (w:=w) (base:=base) (W:=W) R' n i dl fa fd hi h1' h2;rw[hps]at this;exact this
 ·obtain⟨fin,hf⟩:=hlaw ns hl;exact jsb hf hS
 ·obtain⟨ea,cls,a0,H',B,_,_,_,_,_,_,_,_,_,z⟩:=hx;exact z
end DJ
namespace DJ
theorem R.bind_err' {α β:Type}(c:Nat)(f:α->R β):(R.err c).bind f=.err c:=rfl
theorem jk2 (g:Rho->R Fl)(ρ:Rho):jph g (.nx ρ)=g ρ:=rfl
theorem jk3 (g:Rho->R Fl)(v:Vl)(ρ:Rho):jph g (.rt v ρ)=.ok (.rt v ρ):=rfl
theorem jqa (g:Rho->R Fl)(ρ:Rho):jph g (.bk ρ)=.ok (.bk ρ):=rfl
theorem jqb (g:Rho->R Fl)(ρ:Rho):jph g (.ct ρ)=.ok (.ct ρ):=rfl
theorem jal {U:Nat->Nat->Bool}{W:Nat}{P:List Def}{n f:Nat}{xs:List Sl}{d:Def}(h:P[f]?=some d)(hl:xs.length=d.ps) :
  jaa U W P (n + 1) f xs=(evSs (jaa U W P n) U W d.body (xs++List.replicate (d.n - d.ps) .no)).bind (jbq d.ps):=by
 simp only[jaa,h,if_pos hl]
theorem jbM:∀{ds:List D}{ρ:Rho},jaO [] (ds.map Vl.dat) ρ=.ok (ds.map Sl.dat,ds.map (fun _=>none),ρ)
 |[],ρ=>rfl
 |d::ds,ρ=>by
  simp only[jvc,jaO,List.headD_nil,jiw,toD,R.bind_ok',List.tail_nil,jbM]
theorem jc9:∀{ds:List D}{fin:List Sl}{ρ:Rho},jbr (ds.map fun _=>none) fin ρ=ρ
 |[],fin,ρ=>by simp[jbr]
 |d::ds,[],ρ=>by simp[jbr]
 |d::ds,s::fin,ρ=>by simp only[jvc,jbr];exact jc9
section
variable {G:Calls}{U:Nat->Nat->Bool}{ρ:Rho}{k:Nat}{es:Es}{fin:List Sl}
theorem jah (ds:List D){v:Vl}(he:evAs G U es ρ=.ok (ds.map Vl.dat,ρ))(hG:G k (ds.map Sl.dat)=.ok (v,fin)):evE G U (.call k [] es) ρ=.ok (v,ρ):=by
 simp only[evE,he,R.bind_ok',jbM,hG,jc9]
theorem jcE (ds:List D){c:Nat}(he:evAs G U es ρ=.ok (ds.map Vl.dat,ρ))(hG:G k (ds.map Sl.dat)=.err c):evE G U (.call k [] es) ρ=.err c:=by
 simp only[evE,he,R.bind_ok',jbM,hG,R.bind_err']
theorem jeV (ds:List D){b:Bool}(he:evAs G U es ρ=.ok (ds.map Vl.dat,ρ))(hG:G k (ds.map Sl.dat)=.ok (.dat (.bl b),fin)):evT G U (.call k [] es) ρ=.ok (b,ρ):=by
 simp only[evT,he,R.bind_ok',jbM,hG,jc9,deref,jbT]
end
theorem jda {α:Type}{f:D->Rho->R (Option D×Rho)}{h:α->D}{g:α->D}{ρ:Rho}:∀{xs:List α},(∀x∈xs,f (h x) ρ=.ok (some (g x),ρ))->compGo f (xs.map h) ρ=.ok (xs.map g,ρ)
 |[],_=>rfl
 |x::xs,e=>by
  simp only[jvc,compGo,e x ju7,R.bind_ok',jda fun y hy=>e y (ju6 _ hy)]
theorem jbg:∀(ns:List Int),ja7 (ns.map D.int)=some ns
 |[]=>rfl
 |n::ns=>by simp only[jvc,ja7,jbg ns,Option.map_some]
theorem jbN {α:Type}{g:α->Bool}:∀(xs:List α),jaD (xs.map fun x=>.bl (g x))=some (xs.map g)
 |[]=>rfl
 |x::xs=>by simp only[jvc,jaD,jbN xs,Option.map_some]
theorem jcF:∀(ns:List Int),cmpDs (ns.map D.int)=true
 |[]=>rfl
 |n::ns=>by simp only[jvc,cmpDs,jbw,jcF ns,Bool.and_self]
theorem jcG:∀(ns:List Int),deeps (ns.map D.int)=0
 |[]=>rfl
 |n::ns=>by simp only[jvc,deeps,deep,jcG ns];rfl
theorem jhP:∀(as bs:List Int),eqDs (as.map D.int) (bs.map D.int)=decide (as=bs)
 |[],[]=>rfl
 |[],b::bs=>by simp[eqDs]
 |a::as,[]=>by simp[eqDs]
 |a::as,b::bs=>by
  simp only[jvc,eqDs,eqD,jhP as bs,List.cons.injEq];by_cases h:a=b <;> simp[h]
noncomputable def tu (ns:List Int):D:=.tup (ns.map .int)
end DJ
namespace DJ
section
variable {G:Calls}{U:Nat->Nat->Bool}{W:Nat}{ρ ρ':Rho}{s:S}{ss a:Ss}{c e e':E}{i:Nat}{b:Bool}
theorem jad (h:evS G U W s ρ=.ok (.nx ρ')):evSs G U W (.cons s ss) ρ=evSs G U W ss ρ':=by simp only[evSs,h,R.bind_ok',jk2]
theorem jaG {v:Vl}(h:evS G U W s ρ=.ok (.rt v ρ')):evSs G U W (.cons s ss) ρ=.ok (.rt v ρ'):=by simp only[evSs,h,R.bind_ok',jk3]
theorem jbh (h:evT G U c ρ=.ok (false,ρ)):evS G U W (.ife c a .nil) ρ=.ok (.nx ρ):=by simp only[evS,h,R.bind_ok',jvQ,if_false,evSs]
theorem jci {d:D}(h:evE G U e ρ=.ok (.dat d,ρ'))(hi:i < ρ'.length):evS G U W (.asg i e) ρ=.ok (.nx (ρ'.set i (.dat d))):=by simp only[evS,h,R.bind_ok',jhs,toD,if_pos hi]
theorem jgz {o:O}(h:evE G U e ρ=.ok (.tmp o,ρ'))(hi:i < ρ'.length):evS G U W (.asg i e) ρ=.ok (.nx (ρ'.set i (.own o false false))):=by simp only[evS,h,R.bind_ok',jhs,if_pos hi]
theorem jbB {d:D}(h:evE G U e ρ=.ok (.dat d,ρ')):evS G U W (.ret e) ρ=.ok (.rt (.dat d) ρ'):=by simp only[evS,h,R.bind_ok',jmt]
theorem jgA (h:evT G U c ρ=.ok (b,ρ')):evT G U (.not c) ρ=.ok (!b,ρ'):=by simp only[evT,h,R.bind_ok']
theorem jsT {c':E}(h:evT G U c ρ=.ok (false,ρ))(h':evT G U c' ρ=.ok (b,ρ')):evT G U (.or c c') ρ=.ok (b,ρ'):=by simp only[evT,h,R.bind_ok',jvQ,if_false,h']
theorem jsc (h:evE G U e ρ=.ok (.dat (.bl true),ρ))(h':evE G U e' ρ=.ok (.dat (.bl b),ρ')):evE G U (.and e e') ρ=.ok (.dat (.bl b),ρ'):=by simp only[evE,h,R.bind_ok',jc1,if_true,h']
theorem jdV {xs:List D}(h:evE G U e ρ=.ok (.tmp (.l xs),ρ')):evE G U (.blt .tuple e) ρ=.ok (.dat (.tup xs),ρ'):=by simp only[evE,h,R.bind_ok',deref,O.toD,bfD,ja5]
end
end DJ
namespace DJ
open PySem
section
variable {d:D}{o:O}{i:Nat}{ρ:Rho}{xs:List D}{b:Bool}
theorem jab:deref (.dat d) ρ=.ok d:=rfl
theorem jaT:deref (.tmp o) ρ=.ok o.toD:=rfl
theorem jiG:deref (.slot i) ρ=(match ρ[i]? with | some (.own o _ _)=>.ok o.toD | _=>.stk):=rfl
theorem jdb:toD (.dat d) ρ=.ok (d,ρ):=rfl
theorem jqc:toD (.tmp o) ρ=.ok (o.toD,ρ):=rfl
theorem jnc:toD (.slot i) ρ=(match ρ[i]? with | some (.own o false false)=>.ok (o.toD,ρ.set i (.dat o.toD)) | _=>.stk):=rfl
theorem jeW:jhs (.dat d) ρ=.ok (.dat d,ρ):=rfl
theorem jnd:jhs (.tmp o) ρ=.ok (.own o false false,ρ):=rfl
theorem jk4:jhs (.slot i) ρ=(toD (.slot i) ρ).bind fun p=>.ok (.dat p.1,p.2):=rfl
theorem jeX:(O.l xs).toD=.lst xs:=rfl
theorem jne:jmt (.dat d) ρ=.ok (.rt (.dat d) ρ):=rfl
theorem jnf:jmt (.tmp o) ρ=.ok (.rt (.tmp o) ρ):=rfl
theorem jk5:jmt (.slot i) ρ=(match ρ[i]? with | some (.own o false false)=>.ok (.rt (.tmp o) (ρ.set i .no)) | _=>.stk):=rfl
theorem jng:jc1 (.dat (.bl b))=.ok b:=rfl
theorem jfU:ja5 (.tup xs)=.ok xs:=rfl
theorem jcH:ja5 (.lst xs)=.ok xs:=rfl
theorem jiH:jaL (.dat (.tup xs)) ρ=.ok (xs,[],ρ):=rfl
theorem jiI:jaL (.dat (.lst xs)) ρ=.ok (xs,[],ρ):=rfl
theorem jiJ:jaL (.tmp (.l xs)) ρ=.ok (xs,[],ρ):=rfl
theorem jgB:jaL (.slot i) ρ=(match ρ[i]? with
  |some (.own (.l xs) _ true)=>.ok (xs,[],ρ)
  |some (.own (.l xs) f false)=>.ok (xs,[i],ρ.set i (.own (.l xs) f true))
  |_=>.stk):=rfl
theorem jqd {k:Nat}{v:Vl}:jbq k (.rt v ρ)=.ok (v,jix k ρ):=rfl
theorem jqe {k:Nat}:jbq k (.nx ρ)=.ok (.dat .non,jix k ρ):=rfl
theorem jk6 {lo hi:Option Int}:jiv (.tup xs) lo hi=.ok (.dat (.tup (cut xs lo hi))):=rfl
theorem jeY {a b:Int}:opD .add (.int a) (.int b)=.ok (.dat (.int (a + b))):=rfl
theorem jnh {a b:Int}:opD .sub (.int a) (.int b)=.ok (.dat (.int (a - b))):=rfl
theorem jni {a b:Int}:opD .mul (.int a) (.int b)=if (-(2 ^ 64) < a/\a < 2 ^ 64)\/(-(2 ^ 64) < b/\b < 2 ^ 64)then .ok (.dat (.int (a * b)))else .stk:=rfl
theorem jk7 {a b:Int}:opD .fdiv (.int a) (.int b)=if 0 < b/\b < 2 ^ 64 then .ok (.dat (.int (a / b)))else .stk:=rfl
theorem jeZ {a b:Int}:opD .mod (.int a) (.int b)=if 0 < b then .ok (.dat (.int (a % b)))else .stk:=rfl
theorem jhQ {a b:List D}:opD .add (.tup a) (.tup b)=if ja6 (a.length + b.length)then .ok (.dat (.tup (a++b)))else .stk:=rfl
theorem jcI {a b:List D}:opD .add (.lst a) (.lst b)=if ja6 (a.length + b.length)then .ok (.tmp (.l (a++b)))else .stk:=rfl
theorem jhR {a b:PySem.Str}:opD .add (.str a) (.str b)=if ja6 (a.length + b.length)then .ok (.dat (.str (a++b)))else .stk:=rfl
theorem jnj {a:List D}{b:Bool}:opD .mul (.lst a) (.bl b)=if ja6 a.length then .ok (.tmp (.l (if b then a else [])))else .stk:=rfl
theorem jhS {a:List D}{b:Int}:opD .mul (.tup a) (.int b)=if 0<=b/\b<=16777216/\ja6 (a.length * b.toNat)then .ok (.dat (.tup (List.replicate b.toNat a).flatten))else .stk:=rfl
theorem jnk:bfD .len (.lst xs)=.ok (.dat (.int xs.length)):=rfl
theorem je0:bfD .len (.tup xs)=.ok (.dat (.int xs.length)):=rfl
theorem jiK:bfD .tuple (.lst xs)=.ok (.dat (.tup xs)):=rfl
theorem jiL:bfD .tuple (.tup xs)=.ok (.dat (.tup xs)):=rfl
theorem jk8:bfD .list (.lst xs)=.ok (.tmp (.l xs)):=rfl
theorem jk9:bfD .list (.tup xs)=.ok (.tmp (.l xs)):=rfl
theorem jla:bfD .revl (.lst xs)=.ok (.tmp (.l xs.reverse)):=rfl
theorem jnl {a:Int}:bfD .abs (.int a)=.ok (.dat (.int (if a < 0 then -a else a))):=rfl
theorem jnm {a:Int}:bfD .int (.int a)=.ok (.dat (.int a)):=rfl
theorem jnn:bfD .int (.bl b)=.ok (.dat (.int (if b then 1 else 0))):=rfl
theorem jgC {a c:D}:cmD .eq a c=eqR a c:=rfl
theorem jqf {a c:D}:cmD .ne a c=(eqR a c).bind fun c=>.ok (!c):=rfl
theorem jgD {a c:Int}:cmD .lt (.int a) (.int c)=.ok (decide (a < c)):=rfl
theorem jdW {a c:Int}:cmD .gt (.int a) (.int c)=.ok (decide (c < a)):=rfl
theorem jqg {a c:Int}:cmD .le (.int a) (.int c)=.ok (decide (a<=c)):=rfl
theorem jqh {a c:Int}:cmD .ge (.int a) (.int c)=.ok (decide (c<=a)):=rfl
theorem jsd {a c:Int}:eqR (.int a) (.int c)=.ok (a == c):=rfl
theorem jiM {a c:PySem.Str}:eqR (.str a) (.str c)=.ok (a == c):=rfl
theorem jqi {j:Int}:jka (.tup xs) (.int j)=atI xs j:=rfl
theorem jlb {j:Int}:jka (.lst xs) (.int j)=atI xs j:=rfl
theorem jgE {x:PySem.Str}{j:Int}:jka (.str x) (.int j)=atC x j:=rfl
theorem juT {x:D}:atI (x::xs) 0=.ok x:=rfl
theorem juU {x y:D}:atI (x::y::xs) 1=.ok y:=rfl
theorem juV {x y z:D}:atI (x::y::z::xs) 2=.ok z:=rfl
theorem jsU {k:Nat}{x:D}(h:xs[k]?=some x):atI xs (k:Int)=.ok x:=by
 unfold atI;rw[if_pos (Int.natCast_nonneg k),Int.toNat_natCast,h]
theorem jse:jbT (.bl b)=.ok b:=rfl
theorem jsf {a:Int}:jbT (.int a)=.ok (a != 0):=rfl
theorem jsg:jbT (.tup xs)=.ok (!xs.isEmpty):=rfl
theorem jsh:jbT (.lst xs)=.ok (!xs.isEmpty):=rfl
theorem jsi:jbT .non=.ok false:=rfl
theorem jiN {U:Nat->Nat->Bool}:jaq U .non [.int]=.ok false:=rfl
theorem jgF {U:Nat->Nat->Bool}:jaq U .non [.bool]=.ok false:=rfl
theorem jiO {U:Nat->Nat->Bool}:jaq U .non [.str]=.ok false:=rfl
theorem jfV {U:Nat->Nat->Bool}:jaq U .non [.tuple]=.ok false:=rfl
theorem jgG {U:Nat->Nat->Bool}:jaq U .non [.list]=.ok false:=rfl
theorem jgH {U:Nat->Nat->Bool}:jaq U .non [.dict]=.ok false:=rfl
theorem jlc {U:Nat->Nat->Bool}:jaq U (.bl b) [.int]=.ok true:=rfl
theorem jiP {U:Nat->Nat->Bool}:jaq U (.bl b) [.bool]=.ok true:=rfl
theorem jld {U:Nat->Nat->Bool}:jaq U (.bl b) [.str]=.ok false:=rfl
theorem jgI {U:Nat->Nat->Bool}:jaq U (.bl b) [.tuple]=.ok false:=rfl
theorem jiQ {U:Nat->Nat->Bool}:jaq U (.bl b) [.list]=.ok false:=rfl
theorem jiR {U:Nat->Nat->Bool}:jaq U (.bl b) [.dict]=.ok false:=rfl
theorem jiS {U:Nat->Nat->Bool}{a:Int}:jaq U (.int a) [.int]=.ok true:=rfl
theorem jgJ {U:Nat->Nat->Bool}{a:Int}:jaq U (.int a) [.bool]=.ok false:=rfl
theorem jiT {U:Nat->Nat->Bool}{a:Int}:jaq U (.int a) [.str]=.ok false:=rfl
theorem jfW {U:Nat->Nat->Bool}{a:Int}:jaq U (.int a) [.tuple]=.ok false:=rfl
theorem jgK {U:Nat->Nat->Bool}{a:Int}:jaq U (.int a) [.list]=.ok false:=rfl
theorem jgL {U:Nat->Nat->Bool}{a:Int}:jaq U (.int a) [.dict]=.ok false:=rfl
theorem jiU {U:Nat->Nat->Bool}{x:PySem.Str}:jaq U (.str x) [.int]=.ok false:=rfl
theorem jgM {U:Nat->Nat->Bool}{x:PySem.Str}:jaq U (.str x) [.bool]=.ok false:=rfl
theorem jiV {U:Nat->Nat->Bool}{x:PySem.Str}:jaq U (.str x) [.str]=.ok true:=rfl
theorem jfX {U:Nat->Nat->Bool}{x:PySem.Str}:jaq U (.str x) [.tuple]=.ok false:=rfl
theorem jgN {U:Nat->Nat->Bool}{x:PySem.Str}:jaq U (.str x) [.list]=.ok false:=rfl
theorem jgO {U:Nat->Nat->Bool}{x:PySem.Str}:jaq U (.str x) [.dict]=.ok false:=rfl
theorem jiW {U:Nat->Nat->Bool}:jaq U (.tup xs) [.int]=.ok false:=rfl
theorem jgP {U:Nat->Nat->Bool}:jaq U (.tup xs) [.bool]=.ok false:=rfl
theorem jiX {U:Nat->Nat->Bool}:jaq U (.tup xs) [.str]=.ok false:=rfl
theorem jfY {U:Nat->Nat->Bool}:jaq U (.tup xs) [.tuple]=.ok true:=rfl
theorem jgQ {U:Nat->Nat->Bool}:jaq U (.tup xs) [.list]=.ok false:=rfl
theorem jgR {U:Nat->Nat->Bool}:jaq U (.tup xs) [.dict]=.ok false:=rfl
theorem jiY {U:Nat->Nat->Bool}:jaq U (.lst xs) [.int]=.ok false:=rfl
theorem jgS {U:Nat->Nat->Bool}:jaq U (.lst xs) [.bool]=.ok false:=rfl
theorem jiZ {U:Nat->Nat->Bool}:jaq U (.lst xs) [.str]=.ok false:=rfl
theorem jfZ {U:Nat->Nat->Bool}:jaq U (.lst xs) [.tuple]=.ok false:=rfl
theorem jgT {U:Nat->Nat->Bool}:jaq U (.lst xs) [.list]=.ok true:=rfl
theorem jgU {U:Nat->Nat->Bool}:jaq U (.lst xs) [.dict]=.ok false:=rfl
theorem jtI:ja6 0=true:=rfl
theorem jtJ:ja6 1=true:=rfl
theorem jtK:ja6 2=true:=rfl
theorem jtL:ja6 3=true:=rfl
theorem jtM:ja6 4=true:=rfl
theorem jtN:ja6 5=true:=rfl
theorem jtO:ja6 6=true:=rfl
theorem jtP:ja6 7=true:=rfl
theorem jtQ:ja6 8=true:=rfl
theorem jtR:ja6 9=true:=rfl
theorem jsj:ja6 10=true:=rfl
theorem jqj {lo hi:Option Int}:jiv (.lst xs) lo hi=.ok (.tmp (.l (cut xs lo hi))):=rfl
theorem jok {x:PySem.Str}:juh (.dat (.str x))=.ok x:=rfl
theorem jsk {x y:PySem.Str}:smD .cnt x (.str y)=.ok (.dat (.int (Txt.count x y))):=rfl
theorem jgV {x y:PySem.Str}:smD .splt x (.str y)=if y.length != 0 && ja6 x.length && ja6 (Txt.split x y).length then .ok (.tmp (.l ((Txt.split x y).map .str)))else .stk:=rfl
theorem jeo:∀(ys:List PySem.Str),jcm (ys.map D.str)=some ys
 |[]=>rfl
 |y::ys=>by simp only[jvc,jcm,jeo ys,Option.map_some]
theorem jqk {x:PySem.Str}{ys:List PySem.Str}(h:(ys.map (·.length)).sum + ys.length * x.length<=16777216):smD .join x (.lst (ys.map .str))=.ok (.dat (.str (Txt.join x ys))):=by
 simp only[smD,jeo,if_pos h]
theorem jgW {x:PySem.Str}{lo hi:Option Int}:jiv (.str x) lo hi=if ja6 x.length then .ok (.dat (.str (Txt.slice x lo hi)))else .stk:=rfl
theorem jhT {x:PySem.Str}:bfD .len (.str x)=if ja6 x.length then .ok (.dat (.int x.length))else .stk:=rfl
theorem ji0:jbX (.dat (.tup xs)) ρ=.ok (xs,[],ρ):=rfl
theorem ji1:jbX (.dat (.lst xs)) ρ=.ok (xs,[],ρ):=rfl
theorem ji2:jbX (.tmp (.l xs)) ρ=.ok (xs,[],ρ):=rfl
theorem jgX:jbX (.slot i) ρ=jaL (.slot i) ρ:=rfl
theorem jdc {x:PySem.Str}:jbX (.dat (.str x)) ρ=if ja6 x.length then .ok (x.cps.toList.map (fun c=>D.str ⟨#[c]⟩),[],ρ)else .stk:=rfl
end
section
variable {G:Calls}{U:Nat->Nat->Bool}{W:Nat}
theorem jaB {α:Type}{xx:Bool}{elt:E}{caps:List Nat}{it:DJ.It}{ρ:Rho}{xs:List α}{h g:α->D}(hi:evI G U it ρ=.ok (xs.map h,[],ρ))(hE:∀x∈xs,evE G U elt (.dat (h x)::jcn ρ caps)=.ok (.dat (g x),.dat (h x)::jcn ρ caps))
  (hB:∀s,jaN caps 1 (s::jcn ρ caps) ρ=ρ):evE G U (.comp elt [0] true 1 caps it .none xx) ρ=.ok (.tmp (.l (xs.map g)),ρ):=by
 simp only[evE,hi,R.bind_ok'];rw[jda (g:=g)]
 ·rw[jeR];rfl
 ·intro x hx;have:=hE x hx;simp only[putT,jd7,List.replicate,List.cons_append,List.nil_append,List.set_cons_zero,R.bind_ok',this,toD,hB]
theorem jol:opD .pow (.int 10) (.int 15)=.ok (.dat (.int (10 ^ 15))):=by
 show (if 0<=(15:Int)/\(15:Int)<=1000000/\(10:Int).natAbs < 2 ^ 64 then R.ok (Vl.dat (.int (10 ^ (15:Int).toNat)))else R.stk)=_;rw[if_pos (by decide)]
 rfl
theorem jsl:opD .pow (.int 10) (.int 30)=.ok (.dat (.int (10 ^ 30))):=by
 show (if 0<=(30:Int)/\(30:Int)<=1000000/\(10:Int).natAbs < 2 ^ 64 then R.ok (Vl.dat (.int (10 ^ (30:Int).toNat)))else R.stk)=_;rw[if_pos (by decide)]
 rfl
theorem jbl {α β:Type}(f:α->β)(xs:List α)(lo hi:Option Int):cut (xs.map f) lo hi=(cut xs lo hi).map f:=by
 unfold cut;rw[jve,List.map_take,List.map_drop]
theorem jdy {α:Type}(xs:List α)(k:Nat):cut xs none (some (k:Int))=xs.take k:=by
 show List.take ((if (k:Int) < 0 then ((k:Int) + xs.length).toNat else min (k:Int).toNat xs.length) - 0) (List.drop 0 xs)=_;rw[if_neg (by omega),Int.toNat_natCast,List.drop_zero,Nat.sub_zero,List.take_eq_take_iff]
 omega
theorem jbO {α:Type}(xs:List α)(k:Nat):cut xs (some (k:Int)) none=xs.drop k:=by
 show List.take (xs.length - (if (k:Int) < 0 then ((k:Int) + xs.length).toNat else min (k:Int).toNat xs.length)) (List.drop (if (k:Int) < 0 then ((k:Int) + xs.length).toNat else min (k:Int).toNat xs.length) xs)=_;rw[if_neg (by omega),Int.toNat_natCast]
 by_cases h:k<=xs.length
 ·rw[Nat.min_eq_left h,List.take_of_length_le (by simp)]
 ·rw[Nat.min_eq_right (by omega),List.drop_eq_nil_of_le (jvK _),List.drop_eq_nil_of_le (by omega),List.take_nil]
theorem jhU (k:Nat)(h:k<=16777216):jfB (.int k)=.ok ((List.range k).map fun (j:Nat)=>D.int j):=by
 show (if -16777216<=(k:Int)/\(k:Int)<=16777216 then R.ok (jkb 0 (k:Int).toNat)else R.stk)=_;rw[if_pos (by omega)]
 simp[jkb]
theorem jao {n:Nat}(h:n<=16777216):ja6 n=true:=by simp[ja6];exact h
theorem jql {α:Type}{xs:List α}{lo hi:Option Int}:(cut xs lo hi).length<=xs.length:=by
 unfold cut;rw[List.length_take,List.length_drop];omega
end
end DJ
local macro_rules | `(tactic| simp_arith[$xs,*])=>do
  let l<-("DJ.evSs DJ.evS DJ.evE DJ.evT DJ.evEs DJ.evAs DJ.evO DJ.evI jvp jvq List.set_cons_zero List.set_cons_succ jvf jvr Nat.reduceAdd Nat.reduceLT Nat.lt_add_one Nat.zero_lt_succ DJ.R.bind_ok' DJ.jab DJ.jaT DJ.jiG DJ.jdb DJ.jqc DJ.jnc DJ.jeW DJ.jnd DJ.jk4 DJ.jeX DJ.jne DJ.jnf DJ.jk5 DJ.jng DJ.jfU DJ.jcH DJ.jiH DJ.jiI DJ.jiJ DJ.jgB DJ.jqd DJ.jqe DJ.jk6 DJ.jqj DJ.jk2 DJ.jk3 DJ.jqa DJ.jqb DJ.jeY DJ.jnh DJ.jni DJ.jk7 DJ.jeZ DJ.jhQ DJ.jcI DJ.jhR DJ.jhS DJ.jnk DJ.je0 DJ.jiK DJ.jiL DJ.jk8 DJ.jk9 DJ.jla DJ.jnl DJ.jnm DJ.jnn DJ.jgC DJ.jqf DJ.jgD DJ.jdW DJ.jqg DJ.jqh DJ.jsd DJ.jiM DJ.jqi DJ.jlb DJ.jgE DJ.juT DJ.juU DJ.juV DJ.jse DJ.jsf DJ.jsg DJ.jsh DJ.jsi DJ.jiN DJ.jtI DJ.jtJ DJ.jtK DJ.jtL DJ.jtM DJ.jtN DJ.jtO DJ.jtP DJ.jtQ DJ.jtR DJ.jsj DJ.jgF DJ.jiO DJ.jfV DJ.jgG DJ.jgH DJ.jlc DJ.jiP DJ.jld DJ.jgI DJ.jiQ DJ.jiR DJ.jiS DJ.jgJ DJ.jiT DJ.jfW DJ.jgK DJ.jgL DJ.jiU DJ.jgM DJ.jiV DJ.jfX DJ.jgN DJ.jgO DJ.jiW DJ.jgP DJ.jiX DJ.jfY DJ.jgQ DJ.jgR DJ.jiY DJ.jgS DJ.jiZ DJ.jfZ DJ.jgT DJ.jgU if_true jvQ if_false Bool.not_true Bool.not_false Int.reducePow Int.reduceNeg Int.reduceLT Int.reduceLE and_self or_true true_or and_true true_and DJ.jok DJ.jsk DJ.jgV DJ.jgW DJ.jhT DJ.ji0 DJ.ji1 DJ.ji2 DJ.jgX DJ.jdc".splitOn " ").toArray.mapM fun s=>`(Lean.Parser.Tactic.simpLemma| $(Lean.mkIdent s.toName):term)
  `(tactic| simp only[$l,*,$xs,*])
namespace Law
open PySem L2 DJ
noncomputable def top (i:Nat):Stmt:=PySem.Challenge.pw_tallysets_k05_sets_refused.main.body.getD i (.Pass ⟨0,0,0,0⟩)
noncomputable def d_is_number:DefS:=⟨"is_number",["thing"],["thing"],top 9⟩
noncomputable def jcx:Ss:=
 .cons (.ret (.and (.isi (.var 0) [.int]) (.not (.isi (.var 0) [.bool])))) (
 .nil)
noncomputable def d_is_tally:DefS:=⟨"is_tally",["thing"],["thing"],top 10⟩
noncomputable def jdk:E:=.comp (.and (.call 0 [] (.cons (.var 0) .nil)) (.cmp .ge (.var 0) (.lit (.int 0)))) [0] true 1 [] (.seq (.var 0)) .none true
noncomputable def jbC:Ss:=
 .cons (.ife (.not (.isi (.var 0) [.tuple])) (.cons (.ret (.lit (.bl false))) (
  .nil)) (.nil)) (
 .cons (.ife (.or (.cmp .lt (.blt .len (.var 0)) (.lit (.int 1))) (.cmp .gt (.blt .len (.var 0)) (.lit (.int 4)))) (.cons (.ret (.lit (.bl false))) (
  .nil)) (.nil)) (
 .cons (.ret (.blt .all (jdk))) (
 .nil)))
noncomputable def d_is_tally_as_long:DefS:=⟨"is_tally_as_long",["thing","long"],["thing","long"],top 12⟩
noncomputable def jar:Ss:=
 .cons (.ret (.and (.call 1 [] (.cons (.var 0) .nil)) (.cmp .eq (.blt .len (.var 0)) (.var 1)))) (
 .nil)
noncomputable def d_are_steps:DefS:=⟨"are_steps",["thing","long"],["thing","long"],top 13⟩
noncomputable def jcJ:E:=.comp (.and (.call 2 [] (.cons (.var 0) (.cons (.var 1) .nil))) (.blt .any (.var 0))) [0] true 1 [1] (.seq (.var 0)) .none true
noncomputable def jbP:E:=.comp (.cmp .lt (.var 0) (.var 1)) [0,1] false 2 [] (.zip (.var 0) (.slc (.var 0) (.some (.lit (.int 1))) .none)) .none true
noncomputable def jbm:Ss:=
 .cons (.ife (.not (.isi (.var 0) [.tuple])) (.cons (.ret (.lit (.bl false))) (
  .nil)) (.nil)) (
 .cons (.ife (.not (.blt .all (jcJ))) (.cons (.ret (.lit (.bl false))) (
  .nil)) (.nil)) (
 .cons (.ret (.blt .all (jbP))) (
 .nil)))
noncomputable def d_is_fan:DefS:=⟨"is_fan",["thing"],["thing"],top 14⟩
noncomputable def jcK:Ss:=
 .cons (.ife (.or (.not (.isi (.var 0) [.tuple])) (.cmp .ne (.blt .len (.var 0)) (.lit (.int 2)))) (.cons (.ret (.lit (.bl false))) (
  .nil)) (.nil)) (
 .cons (.ret (.and (.call 1 [] (.cons (.idx (.var 0) (.lit (.int 0))) .nil)) (.call 3 [] (.cons (.idx (.var 0) (.lit (.int 1))) (.cons (.blt .len (.idx (.var 0) (.lit (.int 0)))) .nil))))) (
 .nil))
noncomputable def d_is_set:DefS:=⟨"is_set",["thing"],["thing"],top 15⟩
noncomputable def jdd:E:=.comp (.call 4 [] (.cons (.var 0) .nil)) [0] true 1 [] (.seq (.var 0)) .none true
noncomputable def jep:E:=.comp (.cmp .eq (.blt .len (.idx (.var 0) (.lit (.int 0)))) (.blt .len (.idx (.idx (.var 1) (.lit (.int 0))) (.lit (.int 0))))) [0] true 1 [0] (.seq (.var 0)) .none true
noncomputable def jcL:Ss:=
 .cons (.ife (.or (.not (.isi (.var 0) [.tuple])) (.not (.blt .all (jdd)))) (.cons (.ret (.lit (.bl false))) (
  .nil)) (.nil)) (
 .cons (.ret (.blt .all (jep))) (
 .nil))
noncomputable def d_read_number:DefS:=⟨"read_number",["text","number"],["text"],top 21⟩
noncomputable def jbn:E:=.comp (.cmp .isin (.var 0) (.lit (.str "0123456789"))) [0] true 1 [] (.seq (.var 0)) .none true
noncomputable def jas:Ss:=
 .cons (.ife (.or (.cmp .lt (.blt .len (.var 0)) (.lit (.int 1))) (.cmp .gt (.blt .len (.var 0)) (.lit (.int 16)))) (.cons (.rai 3 (.lit (.str "a number has no figures or too many"))) (
  .nil)) (.nil)) (
 .cons (.ife (.not (.blt .all (jbn))) (.cons (.rai 3 (.lit (.str "a number has something else than figures"))) (
  .nil)) (.nil)) (
 .cons (.ife (.and (.cmp .eq (.idx (.var 0) (.lit (.int 0))) (.lit (.str "0"))) (.cmp .ne (.var 0) (.lit (.str "0")))) (.cons (.rai 3 (.lit (.str "a number has a nought ahead"))) (
  .nil)) (.nil)) (
 .cons (.asg 1 (.blt .int (.var 0))) (
 .cons (.ife (.cmp .gt (.var 1) (.lit (.int 1000000000000000))) (.cons (.rai 3 (.lit (.str "a number is too great"))) (
  .nil)) (.nil)) (
 .cons (.ret (.var 1)) (
 .nil))))))
noncomputable def d_read_tally:DefS:=⟨"read_tally",["text"],["text"],top 22⟩
noncomputable def jbu:E:=.comp (.call 6 [] (.cons (.var 0) .nil)) [0] true 1 [] (.seq (.sm .splt (.var 0) (.lit (.str ",")))) .none true
noncomputable def jat:Ss:=
 .cons (.ret (.blt .tuple (jbu))) (
 .nil)
noncomputable def d_read_fan:DefS:=⟨"read_fan",["text","tallies"],["text"],top 23⟩
noncomputable def jb1:E:=.comp (.call 7 [] (.cons (.var 0) .nil)) [0] true 1 [] (.seq (.sm .splt (.var 0) (.lit (.str "+")))) .none true
noncomputable def jaF:Ss:=
 .cons (.asg 1 (jb1)) (
 .cons (.ret (.tup (.cons (.idx (.var 1) (.lit (.int 0))) (.cons (.blt .tuple (.slc (.var 1) (.some (.lit (.int 1))) .none)) .nil)))) (
 .nil))
noncomputable def d_read_set:DefS:=⟨"read_set",["text","some"],["text"],top 24⟩
noncomputable def jb2:E:=.comp (.call 8 [] (.cons (.var 0) .nil)) [0] true 1 [] (.seq (.sm .splt (.var 0) (.lit (.str " | ")))) .none true
noncomputable def jaM:Ss:=
 .cons (.ife (.cmp .eq (.var 0) (.lit (.str "-"))) (.cons (.ret (.tup (.nil))) (
  .nil)) (.nil)) (
 .cons (.asg 1 (.blt .tuple (jb2))) (
 .cons (.ife (.not (.call 5 [] (.cons (.var 1) .nil))) (.cons (.rai 3 (.lit (.str "the fans are no set"))) (
  .nil)) (.nil)) (
 .cons (.ret (.var 1)) (
 .nil))))
noncomputable def d__law_number:DefS:=⟨"_law_number",["_law_cell","_law_k","_law_number_here"],["_law_cell","_law_k"],top 26⟩
noncomputable def jaU:Ss:=
 .cons (.asg 2 (.bin .mod (.bin .mul (.bin .add (.var 0) (.lit (.int 3))) (.idx (.lst (.cons (.lit (.int 48271)) (.cons (.lit (.int 69621)) (.cons (.lit (.int 39373)) (.cons (.lit (.int 16807)) .nil))))) (.var 1))) (.lit (.int 999999999989)))) (
 .cons (.ret (.idx (.lst (.cons (.bin .mod (.bin .mul (.var 2) (.lit (.int 1001))) (.bin .add (.bin .pow (.lit (.int 10)) (.lit (.int 15))) (.lit (.int 1)))) (.cons (.bin .mod (.bin .fdiv (.var 2) (.lit (.int 3))) (.lit (.int 10))) (.cons (.lit (.int 0)) (.cons (.bin .pow (.lit (.int 10)) (.lit (.int 15))) .nil))))) (.idx (.lst (.cons (.lit (.int 0)) (.cons (.lit (.int 0)) (.cons (.lit (.int 1)) (.cons (.lit (.int 1)) (.cons (.lit (.int 2)) (.cons (.lit (.int 3)) .nil))))))) (.bin .mod (.var 2) (.lit (.int 6)))))) (
 .nil))
noncomputable def d__law_tally:DefS:=⟨"_law_tally",["_law_cell","_law_long"],["_law_cell","_law_long"],top 27⟩
noncomputable def jcp:E:=.comp (.call 10 [] (.cons (.var 1) (.cons (.var 0) .nil))) [0] true 1 [0] (.rng1 (.var 1)) .none true
noncomputable def ja2:Ss:=
 .cons (.ret (.blt .tuple (jcp))) (
 .nil)
noncomputable def d__law_fan:DefS:=⟨"_law_fan",["_law_begin","_law_steps","_law_kept","_law_step"],["_law_begin","_law_steps"],top 28⟩
noncomputable def jbs:Ss:=
 .cons (.ife (.and (.cmp .notin (.var 3) (.var 2)) (.cmp .gt (.blt .sum (.var 3)) (.lit (.int 0)))) (.cons (.app 2 (.var 3)) (
  .nil)) (.nil)) (
 .nil)
noncomputable def jbD:Ss:=
 .cons (.asg 2 (.lst (.nil))) (
 .cons (.loop [3] true (.seq (.blt .sorted (.var 1))) jbs) (
 .cons (.ret (.tup (.cons (.var 0) (.cons (.blt .tuple (.var 2)) .nil)))) (
 .nil)))
noncomputable def d__law_set:DefS:=⟨"_law_set",["_law_cells","_law_long","_law_fans","_law_cell","_law_steps","_law_k","_law_step"],["_law_cells","_law_long"],top 29⟩
noncomputable def jb3:E:=.comp (.bin .mod (.var 0) (.lit (.int 3))) [0] true 1 [] (.seq (.var 6)) .none true
noncomputable def ja3:Ss:=
 .cons (.asg 6 (.call 11 [] (.cons (.bin .add (.bin .fdiv (.var 3) (.lit (.int 10))) (.bin .mul (.bin .mul (.var 5) (.var 5)) (.lit (.int 7919)))) (.cons (.var 1) .nil)))) (
 .cons (.ife (.cmp .eq (.bin .mod (.bin .fdiv (.var 3) (.lit (.int 5))) (.lit (.int 2))) (.lit (.int 0))) (.cons (.asg 6 (.blt .tuple (jb3))) (
  .nil)) (.nil)) (
 .cons (.app 4 (.var 6)) (
 .nil)))
noncomputable def jbt:Ss:=
 .cons (.asg 4 (.lst (.nil))) (
 .cons (.loop [5] true (.rng1 (.bin .mod (.var 3) (.lit (.int 5)))) ja3) (
 .cons (.app 2 (.call 12 [] (.cons (.call 11 [] (.cons (.bin .fdiv (.var 3) (.lit (.int 3))) (.cons (.var 1) .nil))) (.cons (.var 4) .nil)))) (
 .nil)))
noncomputable def jbE:Ss:=
 .cons (.asg 2 (.lst (.nil))) (
 .cons (.loop [3] true (.seq (.var 0)) jbt) (
 .cons (.ret (.blt .tuple (.var 2))) (
 .nil)))
noncomputable def d__law_text:DefS:=⟨"_law_text",["_law_some","_law_words","_law_begin","_law_steps","_law_word","_law_one"],["_law_some"],top 30⟩
noncomputable def jcM:E:=.comp (.blt .str (.var 0)) [0] true 1 [] (.seq (.var 5)) .none true
noncomputable def jbb:Ss:=
 .cons (.asg 4 (.bin .add (.bin .add (.var 4) (.lit (.str "+"))) (.sm .join (.lit (.str ",")) (jcM)))) (
 .nil)
noncomputable def jbc:Ss:=
 .cons (.asg 4 (.lit (.str ""))) (
 .cons (.loop [5] true (.seq (.bin .add (.tup (.cons (.var 2) .nil)) (.var 3))) jbb) (
 .cons (.app 1 (.slc (.var 4) (.some (.lit (.int 1))) .none)) (
 .nil)))
noncomputable def jbo:Ss:=
 .cons (.ife (.cmp .eq (.var 0) (.tup (.nil))) (.cons (.ret (.lit (.str "-"))) (
  .nil)) (.nil)) (
 .cons (.asg 1 (.lst (.nil))) (
 .cons (.loop [2,3] false (.seq (.var 0)) jbc) (
 .cons (.ret (.sm .join (.lit (.str " | ")) (.var 1))) (
 .nil))))
noncomputable def d__law_refused:DefS:=⟨"_law_refused",["_law_text_here","_law_own","error"],["_law_text_here"],top 31⟩
noncomputable def jdp:Ss:=
 .cons (.asg 1 (.lst (.cons (.isi (.var 2) [.exc 3]) (.cons (.isi (.var 2) [.verr]) .nil)))) (
 .cons (.app 1 (.isi (.var 2) [.exc 1,.exc 2,.exc 4,.exc 5])) (
 .nil))
noncomputable def jaJ:Ss:=
 .cons (.asg 1 (.lst (.nil))) (
 .cons (.tryx (.expr (.call 9 [] (.cons (.var 0) .nil))) 0 (some 2) jdp) (
 .cons (.ret (.cmp .eq (.var 1) (.lst (.cons (.lit (.bl true)) (.cons (.lit (.bl true)) (.cons (.lit (.bl false)) .nil)))))) (
 .nil)))
noncomputable def d__law_put:DefS:=⟨"_law_put",["_law_text_here","_law_at","_law_new"],["_law_text_here","_law_at","_law_new"],top 32⟩
noncomputable def jbF:Ss:=
 .cons (.ret (.bin .add (.bin .add (.slc (.var 0) .none (.some (.var 1))) (.var 2)) (.slc (.var 0) (.some (.var 1)) .none))) (
 .nil)
noncomputable def d__law_bad_number:DefS:=⟨"_law_bad_number",["_law_cell","_law_word","_law_some"],["_law_cell","_law_word"],top 33⟩
noncomputable def jay:Ss:=
 .cons (.asg 2 (.lst (.cons (.bin .add (.lit (.str "0")) (.var 1)) (.cons (.blt .str (.bin .add (.bin .add (.bin .pow (.lit (.int 10)) (.lit (.int 15))) (.lit (.int 1))) (.bin .mod (.var 0) (.bin .pow (.lit (.int 10)) (.lit (.int 15)))))) (.cons (.lit (.str "")) (.cons (.lit (.str "-1")) (.cons (.bin .add (.var 1) (.lit (.str "-"))) (.cons (.lit (.str "x")) (.cons (.lit (.str "1.5")) (.cons (.lit (.str "00")) (.cons (.bin .mul (.lit (.str "9")) (.lit (.int 16))) (.cons (.lit (.str "+1")) .nil)))))))))))) (
 .cons (.ret (.idx (.var 2) (.bin .mod (.var 0) (.lit (.int 10))))) (
 .nil))
noncomputable def d__law_other_steps:DefS:=⟨"_law_other_steps",["_law_fan_here","_law_cell","_law_begin","_law_steps","_law_at","_law_odd","_law_step"],["_law_fan_here","_law_cell"],top 34⟩
noncomputable def jau:Ss:=
 .cons (.unp [2,3] (.var 0)) (
 .cons (.asg 4 (.bin .mod (.bin .fdiv (.var 1) (.lit (.int 4))) (.bin .add (.blt .len (.var 3)) (.lit (.int 1))))) (
 .cons (.asg 5 (.lst (.cons (.bin .mul (.tup (.cons (.lit (.int 0)) .nil)) (.blt .len (.var 2))) (.cons (.bin .add (.var 2) (.tup (.cons (.lit (.int 1)) .nil))) (.cons (.bin .add (.bin .add (.bin .add (.bin .add (.var 2) (.var 2)) (.var 2)) (.var 2)) (.tup (.cons (.lit (.int 2)) .nil))) (.cons (.bin .add (.slc (.bin .add (.var 2) (.tup (.cons (.lit (.int 1)) .nil))) (.some (.lit (.int 2))) .none) (.tup (.cons (.lit (.int 3)) .nil))) .nil)))))) (
 .cons (.ife (.and (.cmp .eq (.bin .mod (.var 1) (.lit (.int 4))) (.lit (.int 3))) (.cmp .gt (.blt .len (.var 3)) (.lit (.int 0)))) (.cons (.ret (.tup (.cons (.var 2) (.cons (.bin .add (.bin .add (.slc (.var 3) .none (.some (.var 4))) (.tup (.cons (.idx (.var 3) (.bin .mod (.var 4) (.blt .len (.var 3)))) .nil))) (.slc (.var 3) (.some (.var 4)) .none)) .nil)))) (
  .nil)) (.nil)) (
 .cons (.ife (.and (.cmp .eq (.bin .mod (.var 1) (.lit (.int 4))) (.lit (.int 2))) (.cmp .gt (.blt .len (.var 3)) (.lit (.int 1)))) (.cons (.ret (.tup (.cons (.var 2) (.cons (.blt .revt (.var 3)) .nil)))) (
  .nil)) (.nil)) (
 .cons (.asg 6 (.idx (.var 5) (.bin .mod (.bin .fdiv (.var 1) (.lit (.int 60))) (.lit (.int 4))))) (
 .cons (.ife (.and (.cmp .eq (.blt .len (.var 6)) (.blt .len (.var 2))) (.cmp .gt (.blt .sum (.var 6)) (.lit (.int 0)))) (.cons (.asg 6 (.idx (.var 5) (.lit (.int 0)))) (
  .nil)) (.nil)) (
 .cons (.ret (.tup (.cons (.var 2) (.cons (.bin .add (.bin .add (.slc (.var 3) .none (.some (.var 4))) (.tup (.cons (.var 6) .nil))) (.slc (.var 3) (.some (.var 4)) .none)) .nil)))) (
 .nil))))))))
noncomputable def d__law_faulty:DefS:=⟨"_law_faulty",["_law_some","_law_way","_law_cell","_law_text_here","_law_at","_law_fan_here","_law_begin","_law_steps","_law_place","_law_words","_law_behind","_law_longer"],["_law_some","_law_way","_law_cell"],top 35⟩
noncomputable def jaV:E:=.comp (.blt .str (.var 0)) [0] true 1 [] (.seq (.var 6)) .none true
noncomputable def jaW:E:=.comp (.call 14 [] (.cons (.tup (.cons (.var 0) .nil)) .nil)) [0] true 1 [] (.seq (.slc (.var 0) (.some (.bin .add (.var 5) (.lit (.int 1)))) .none)) .none true
noncomputable def jaX:Ss:=
 .cons (.asg 3 (.call 14 [] (.cons (.var 0) .nil))) (
 .cons (.asg 4 (.bin .mod (.var 2) (.bin .add (.blt .len (.var 3)) (.lit (.int 1))))) (
 .cons (.asg 5 (.bin .mod (.var 2) (.blt .len (.var 0)))) (
 .cons (.ife (.cmp .eq (.var 1) (.lit (.int 0))) (.cons (.ret (.call 16 [] (.cons (.var 3) (.cons (.var 4) (.cons (.idx (.lst (.cons (.lit (.str "a")) (.cons (.lit (.str "!")) (.cons (.lit (.str "/")) (.cons (.lit (.str ".")) (.cons (.lit (.str "_")) (.cons (.lit (.str "\n")) (.cons (.lit (.str "A")) (.cons (.lit (.str "*")) .nil))))))))) (.bin .mod (.bin .fdiv (.var 2) (.lit (.int 300))) (.lit (.int 8)))) .nil))))) (
  .nil)) (.nil)) (
 .cons (.ife (.cmp .eq (.var 1) (.lit (.int 1))) (.cons (.ret (.call 16 [] (.cons (.var 3) (.cons (.var 4) (.cons (.idx (.lst (.cons (.lit (.str " ")) (.cons (.lit (.str "  ")) (.cons (.lit (.str "|")) (.cons (.lit (.str " |")) (.cons (.lit (.str "| ")) .nil)))))) (.bin .mod (.bin .fdiv (.var 2) (.lit (.int 300))) (.lit (.int 5)))) .nil))))) (
  .nil)) (.nil)) (
 .cons (.ife (.cmp .eq (.var 1) (.lit (.int 2))) (.cons (.ret (.idx (.lst (.cons (.bin .add (.var 3) (.lit (.str ","))) (.cons (.bin .add (.lit (.str ",")) (.var 3)) (.cons (.bin .add (.var 3) (.lit (.str "+"))) (.cons (.bin .add (.lit (.str "+")) (.var 3)) (.cons (.bin .add (.var 3) (.lit (.str " | "))) (.cons (.bin .add (.lit (.str " | ")) (.var 3)) (.cons (.bin .add (.var 3) (.lit (.str "-"))) .nil)))))))) (.bin .mod (.var 2) (.lit (.int 7))))) (
  .nil)) (.nil)) (
 .cons (.ife (.cmp .eq (.var 1) (.lit (.int 3))) (.cons (.unp [6,7] (.idx (.var 0) (.var 5))) (
  .cons (.asg 8 (.bin .mod (.bin .fdiv (.var 2) (.lit (.int 70))) (.blt .len (.var 6)))) (
  .cons (.asg 9 (jaV)) (
  .cons (.sub 9 (.var 8) (.call 17 [] (.cons (.bin .fdiv (.var 2) (.lit (.int 300))) (.cons (.idx (.var 9) (.var 8)) .nil)))) (
  .cons (.asg 10 (.slc (.call 14 [] (.cons (.tup (.cons (.tup (.cons (.var 6) (.cons (.var 7) .nil))) .nil)) .nil)) (.some (.blt .len (.call 14 [] (.cons (.tup (.cons (.tup (.cons (.var 6) (.cons (.tup (.nil)) .nil))) .nil)) .nil)))) .none)) (
  .cons (.asg 9 (.bin .add (.bin .mul (.lst (.cons (.call 14 [] (.cons (.slc (.var 0) .none (.some (.var 5))) .nil)) .nil)) (.cmp .gt (.var 5) (.lit (.int 0)))) (.lst (.cons (.bin .add (.sm .join (.lit (.str ",")) (.var 9)) (.var 10)) .nil)))) (
  .cons (.ret (.sm .join (.lit (.str " | ")) (.bin .add (.var 9) (jaW)))) (
  .nil)))))))) (.nil)) (
 .cons (.ife (.cmp .eq (.var 1) (.lit (.int 4))) (.cons (.ret (.call 14 [] (.cons (.bin .add (.bin .add (.slc (.var 0) .none (.some (.var 5))) (.tup (.cons (.call 18 [] (.cons (.idx (.var 0) (.var 5)) (.cons (.bin .fdiv (.var 2) (.lit (.int 70))) .nil))) .nil))) (.slc (.var 0) (.some (.bin .add (.var 5) (.lit (.int 1)))) .none)) .nil))) (
  .nil)) (.nil)) (
 .cons (.ife (.cmp .eq (.var 1) (.lit (.int 5))) (.cons (.asg 11 (.tup (.cons (.bin .add (.slc (.idx (.idx (.var 0) (.lit (.int 0))) (.lit (.int 0))) .none (.some (.lit (.int 3)))) (.tup (.cons (.lit (.int 7)) .nil))) (.cons (.tup (.nil)) .nil)))) (
  .cons (.ife (.cmp .eq (.blt .len (.idx (.idx (.var 0) (.lit (.int 0))) (.lit (.int 0)))) (.lit (.int 4))) (.cons (.asg 11 (.tup (.cons (.tup (.cons (.lit (.int 1)) .nil)) (.cons (.tup (.nil)) .nil)))) (
   .nil)) (.nil)) (
  .cons (.ret (.call 14 [] (.cons (.bin .add (.bin .add (.slc (.var 0) .none (.some (.var 5))) (.tup (.cons (.var 11) .nil))) (.slc (.var 0) (.some (.var 5)) .none)) .nil))) (
  .nil)))) (.nil)) (
 .cons (.ife (.cmp .eq (.var 1) (.lit (.int 6))) (.cons (.ret (.bin .add (.bin .add (.call 14 [] (.cons (.slc (.var 0) .none (.some (.var 5))) .nil)) (.lit (.str " | - | "))) (.call 14 [] (.cons (.slc (.var 0) (.some (.var 5)) .none) .nil)))) (
  .nil)) (.nil)) (
 .cons (.ret (.idx (.lst (.cons (.lit (.str "")) (.cons (.lit (.str " ")) (.cons (.lit (.str "--")) (.cons (.lit (.str "|")) (.cons (.lit (.str "-|-")) (.cons (.lit (.str "- | -")) (.cons (.lit (.str ",")) (.cons (.lit (.str "+")) (.cons (.lit (.str "0,")) (.cons (.lit (.str ",0")) (.cons (.lit (.str "0+")) (.cons (.lit (.str "0|0")) (.cons (.lit (.str "1,2,3,4,5")) .nil)))))))))))))) (.bin .mod (.var 2) (.lit (.int 13))))) (
 .nil)))))))))))
noncomputable def d_law:DefS:=⟨"law",["_law_script","_law_cells","_law_long","_law_some","_law_text_here","_law_cell","_law_number_here"],["_law_script"],top 36⟩
noncomputable def jgY:E:=.comp (.bin .mod (.var 0) (.bin .pow (.lit (.int 10)) (.lit (.int 30)))) [0] true 1 [] (.seq (.slc (.var 0) .none (.some (.lit (.int 20))))) .none true
noncomputable def je1:Ss:=
 .cons (.asg 6 (.bin .mod (.bin .add (.bin .mul (.var 5) (.lit (.int 69621))) (.blt .len (.var 1))) (.lit (.int 2147483629)))) (
 .cons (.ife (.not (.call 15 [] (.cons (.call 19 [] (.cons (.var 3) (.cons (.bin .mod (.var 6) (.lit (.int 8))) (.cons (.bin .fdiv (.var 6) (.lit (.int 8))) .nil)))) .nil))) (.cons (.ret (.lit (.bl false))) (
  .nil)) (.nil)) (
 .cons (.ife (.cmp .ne (.call 9 [] (.cons (.var 4) .nil)) (.var 3)) (.cons (.ret (.lit (.bl false))) (
  .nil)) (.nil)) (
 .nil)))
noncomputable def jle:Ss:=
 .cons (.asg 1 (.bin .add (jgY) (.lst (.cons (.lit (.int 17)) .nil)))) (
 .cons (.asg 2 (.bin .add (.lit (.int 1)) (.bin .mod (.blt .sum (.var 1)) (.lit (.int 4))))) (
 .cons (.asg 3 (.call 13 [] (.cons (.var 1) (.cons (.var 2) .nil)))) (
 .cons (.asg 4 (.call 14 [] (.cons (.var 3) .nil))) (
 .cons (.loop [5] true (.seq (.bin .add (.blt .lrng (.lit (.int 10))) (.var 1))) je1) (
 .cons (.ret (.lit (.bl true))) (
 .nil))))))
noncomputable def T:Tab:=⟨["is_number","is_tally","is_tally_as_long","are_steps","is_fan","is_set","read_number","read_tally","read_fan","read_set","_law_number","_law_tally","_law_fan","_law_set","_law_text","_law_refused","_law_put","_law_bad_number","_law_other_steps","_law_faulty","law"],[[],[],[],[],[],[],[],[],[],[],[],[],[],[],[],[],[],[],[],[],[]],[("MOST_NUMBERS",(.int 4)),("NO_FANS",(.str "-")),("FIGURES",(.str "0123456789")),("GREATEST_READ",(.int 1000000000000000)),("FIGURES_READ",(.int 16))],["TallyError","NoTally","NoFan","NoText","NoTree","TooGreat"],false,false⟩
noncomputable def U (i j:Nat):Bool:=(([[true,false,false,false,false,false],[true,true,false,false,false,false],[true,false,true,false,false,false],[true,false,false,true,false,false],[true,false,false,false,true,false],[true,false,false,false,false,true]]:List (List Bool)).getD i []).getD j false
noncomputable def DS:List DefS:=[d_is_number,d_is_tally,d_is_tally_as_long,d_are_steps,d_is_fan,d_is_set,d_read_number,d_read_tally,d_read_fan,d_read_set,d__law_number,d__law_tally,d__law_fan,d__law_set,d__law_text,d__law_refused,d__law_put,d__law_bad_number,d__law_other_steps,d__law_faulty,d_law]
noncomputable def P:List Def:=[⟨1,1,jcx⟩,⟨1,1,jbC⟩,⟨2,2,jar⟩,⟨2,2,jbm⟩,⟨1,1,jcK⟩,⟨1,1,jcL⟩,⟨1,2,jas⟩,⟨1,1,jat⟩,⟨1,2,jaF⟩,⟨1,2,jaM⟩,⟨2,3,jaU⟩,⟨2,2,ja2⟩,⟨2,4,jbD⟩,⟨2,7,jbE⟩,⟨1,6,jbo⟩,⟨1,3,jaJ⟩,⟨3,3,jbF⟩,⟨2,3,jay⟩,⟨2,7,jau⟩,⟨3,12,jaX⟩,⟨1,7,jle⟩]
theorem jgZ:FnScope d_is_number.N d_is_number.ps (defScope d_is_number.st):=⟨rfl,rfl,rfl,by decide +kernel,rfl,by decide +kernel,by decide +kernel⟩
theorem jg0:(mapO (trS T 60 false (defScope d_is_number.st).names d_is_number.N) (defBody d_is_number.st)).map toSs=some jcx:=by kernel_rfl
theorem jg1:BindP d_is_number:=fun _ _ _ _ _ _=>jjr fun _=>rfl
theorem ji3:FnScope d_is_tally.N d_is_tally.ps (defScope d_is_tally.st):=⟨rfl,rfl,rfl,by decide +kernel,rfl,by decide +kernel,by decide +kernel⟩
theorem ji4:(mapO (trS T 60 false (defScope d_is_tally.st).names d_is_tally.N) (defBody d_is_tally.st)).map toSs=some jbC:=by kernel_rfl
theorem ji5:BindP d_is_tally:=fun _ _ _ _ _ _=>jjr fun _=>rfl
theorem jcN:FnScope d_is_tally_as_long.N d_is_tally_as_long.ps (defScope d_is_tally_as_long.st):=⟨rfl,rfl,rfl,by decide +kernel,rfl,by decide +kernel,by decide +kernel⟩
theorem jcO:(mapO (trS T 60 false (defScope d_is_tally_as_long.st).names d_is_tally_as_long.N) (defBody d_is_tally_as_long.st)).map toSs=some jar:=by kernel_rfl
theorem jcP:BindP d_is_tally_as_long:=fun _ _ _ _ _ _=>len2 fun _ _=>rfl
theorem jg2:FnScope d_are_steps.N d_are_steps.ps (defScope d_are_steps.st):=⟨rfl,rfl,rfl,by decide +kernel,rfl,by decide +kernel,by decide +kernel⟩
theorem jg3:(mapO (trS T 60 false (defScope d_are_steps.st).names d_are_steps.N) (defBody d_are_steps.st)).map toSs=some jbm:=by kernel_rfl
theorem jg4:BindP d_are_steps:=fun _ _ _ _ _ _=>len2 fun _ _=>rfl
theorem jno:FnScope d_is_fan.N d_is_fan.ps (defScope d_is_fan.st):=⟨rfl,rfl,rfl,by decide +kernel,rfl,by decide +kernel,by decide +kernel⟩
theorem jnp:(mapO (trS T 60 false (defScope d_is_fan.st).names d_is_fan.N) (defBody d_is_fan.st)).map toSs=some jcK:=by kernel_rfl
theorem jnq:BindP d_is_fan:=fun _ _ _ _ _ _=>jjr fun _=>rfl
theorem jnr:FnScope d_is_set.N d_is_set.ps (defScope d_is_set.st):=⟨rfl,rfl,rfl,by decide +kernel,rfl,by decide +kernel,by decide +kernel⟩
theorem jns:(mapO (trS T 60 false (defScope d_is_set.st).names d_is_set.N) (defBody d_is_set.st)).map toSs=some jcL:=by kernel_rfl
theorem jnt:BindP d_is_set:=fun _ _ _ _ _ _=>jjr fun _=>rfl
theorem je2:FnScope d_read_number.N d_read_number.ps (defScope d_read_number.st):=⟨rfl,rfl,rfl,by decide +kernel,rfl,by decide +kernel,by decide +kernel⟩
theorem je3:(mapO (trS T 60 false (defScope d_read_number.st).names d_read_number.N) (defBody d_read_number.st)).map toSs=some jas:=by kernel_rfl
theorem je4:BindP d_read_number:=fun _ _ _ _ _ _=>jjr fun _=>rfl
theorem jf0:FnScope d_read_tally.N d_read_tally.ps (defScope d_read_tally.st):=⟨rfl,rfl,rfl,by decide +kernel,rfl,by decide +kernel,by decide +kernel⟩
theorem jf1:(mapO (trS T 60 false (defScope d_read_tally.st).names d_read_tally.N) (defBody d_read_tally.st)).map toSs=some jat:=by kernel_rfl
theorem jf2:BindP d_read_tally:=fun _ _ _ _ _ _=>jjr fun _=>rfl
theorem ji6:FnScope d_read_fan.N d_read_fan.ps (defScope d_read_fan.st):=⟨rfl,rfl,rfl,by decide +kernel,rfl,by decide +kernel,by decide +kernel⟩
theorem ji7:(mapO (trS T 60 false (defScope d_read_fan.st).names d_read_fan.N) (defBody d_read_fan.st)).map toSs=some jaF:=by kernel_rfl
theorem ji8:BindP d_read_fan:=fun _ _ _ _ _ _=>jjr fun _=>rfl
theorem ji9:FnScope d_read_set.N d_read_set.ps (defScope d_read_set.st):=⟨rfl,rfl,rfl,by decide +kernel,rfl,by decide +kernel,by decide +kernel⟩
theorem jja:(mapO (trS T 60 false (defScope d_read_set.st).names d_read_set.N) (defBody d_read_set.st)).map toSs=some jaM:=by kernel_rfl
theorem jjb:BindP d_read_set:=fun _ _ _ _ _ _=>jjr fun _=>rfl
theorem je5:FnScope d__law_number.N d__law_number.ps (defScope d__law_number.st):=⟨rfl,rfl,rfl,by decide +kernel,rfl,by decide +kernel,by decide +kernel⟩
theorem je6:(mapO (trS T 60 false (defScope d__law_number.st).names d__law_number.N) (defBody d__law_number.st)).map toSs=some jaU:=by kernel_rfl
theorem je7:BindP d__law_number:=fun _ _ _ _ _ _=>len2 fun _ _=>rfl
theorem jf3:FnScope d__law_tally.N d__law_tally.ps (defScope d__law_tally.st):=⟨rfl,rfl,rfl,by decide +kernel,rfl,by decide +kernel,by decide +kernel⟩
theorem jf4:(mapO (trS T 60 false (defScope d__law_tally.st).names d__law_tally.N) (defBody d__law_tally.st)).map toSs=some ja2:=by kernel_rfl
theorem jf5:BindP d__law_tally:=fun _ _ _ _ _ _=>len2 fun _ _=>rfl
theorem jjc:FnScope d__law_fan.N d__law_fan.ps (defScope d__law_fan.st):=⟨rfl,rfl,rfl,by decide +kernel,rfl,by decide +kernel,by decide +kernel⟩
theorem jjd:(mapO (trS T 60 false (defScope d__law_fan.st).names d__law_fan.N) (defBody d__law_fan.st)).map toSs=some jbD:=by kernel_rfl
theorem jje:BindP d__law_fan:=fun _ _ _ _ _ _=>len2 fun _ _=>rfl
theorem jjf:FnScope d__law_set.N d__law_set.ps (defScope d__law_set.st):=⟨rfl,rfl,rfl,by decide +kernel,rfl,by decide +kernel,by decide +kernel⟩
theorem jjg:(mapO (trS T 60 false (defScope d__law_set.st).names d__law_set.N) (defBody d__law_set.st)).map toSs=some jbE:=by kernel_rfl
theorem jjh:BindP d__law_set:=fun _ _ _ _ _ _=>len2 fun _ _=>rfl
theorem jg5:FnScope d__law_text.N d__law_text.ps (defScope d__law_text.st):=⟨rfl,rfl,rfl,by decide +kernel,rfl,by decide +kernel,by decide +kernel⟩
theorem jg6:(mapO (trS T 60 false (defScope d__law_text.st).names d__law_text.N) (defBody d__law_text.st)).map toSs=some jbo:=by kernel_rfl
theorem jg7:BindP d__law_text:=fun _ _ _ _ _ _=>jjr fun _=>rfl
theorem jd9:FnScope d__law_refused.N d__law_refused.ps (defScope d__law_refused.st):=⟨rfl,rfl,rfl,by decide +kernel,rfl,by decide +kernel,by decide +kernel⟩
theorem jea:(mapO (trS T 60 false (defScope d__law_refused.st).names d__law_refused.N) (defBody d__law_refused.st)).map toSs=some jaJ:=by kernel_rfl
theorem jeb:BindP d__law_refused:=fun _ _ _ _ _ _=>jjr fun _=>rfl
theorem jji:FnScope d__law_put.N d__law_put.ps (defScope d__law_put.st):=⟨rfl,rfl,rfl,by decide +kernel,rfl,by decide +kernel,by decide +kernel⟩
theorem jjj:(mapO (trS T 60 false (defScope d__law_put.st).names d__law_put.N) (defBody d__law_put.st)).map toSs=some jbF:=by kernel_rfl
theorem jjk:BindP d__law_put:=fun _ _ _ _ _ _=>jup fun _ _ _=>rfl
theorem jde:FnScope d__law_bad_number.N d__law_bad_number.ps (defScope d__law_bad_number.st):=⟨rfl,rfl,rfl,by decide +kernel,rfl,by decide +kernel,by decide +kernel⟩
theorem jdf:(mapO (trS T 60 false (defScope d__law_bad_number.st).names d__law_bad_number.N) (defBody d__law_bad_number.st)).map toSs=some jay:=by kernel_rfl
theorem jdg:BindP d__law_bad_number:=fun _ _ _ _ _ _=>len2 fun _ _=>rfl
theorem jcQ:FnScope d__law_other_steps.N d__law_other_steps.ps (defScope d__law_other_steps.st):=⟨rfl,rfl,rfl,by decide +kernel,rfl,by decide +kernel,by decide +kernel⟩
theorem jcR:(mapO (trS T 60 false (defScope d__law_other_steps.st).names d__law_other_steps.N) (defBody d__law_other_steps.st)).map toSs=some jau:=by kernel_rfl
theorem jcS:BindP d__law_other_steps:=fun _ _ _ _ _ _=>len2 fun _ _=>rfl
theorem je8:FnScope d__law_faulty.N d__law_faulty.ps (defScope d__law_faulty.st):=⟨rfl,rfl,rfl,by decide +kernel,rfl,by decide +kernel,by decide +kernel⟩
theorem je9:(mapO (trS T 60 false (defScope d__law_faulty.st).names d__law_faulty.N) (defBody d__law_faulty.st)).map toSs=some jaX:=by kernel_rfl
theorem jfa:BindP d__law_faulty:=fun _ _ _ _ _ _=>jup fun _ _ _=>rfl
theorem jtS:FnScope d_law.N d_law.ps (defScope d_law.st):=⟨rfl,rfl,rfl,by decide +kernel,rfl,by decide +kernel,by decide +kernel⟩
theorem jtT:(mapO (trS T 60 false (defScope d_law.st).names d_law.N) (defBody d_law.st)).map toSs=some jle:=by kernel_rfl
theorem jtU:BindP d_law:=fun _ _ _ _ _ _=>jjr fun _=>rfl
end Law
namespace Law
open PySem L2 DJ
variable {W n:Nat}
noncomputable abbrev CD (W n:Nat):Calls:=jaa U W P n
theorem juq (ns:List Int):tu ns=.tup (ns.map D.int):=rfl
section
variable {G:Calls}{ρ ρ1 ρ2 ρ3:Rho}{a b c e e':E}{v1 v2 v3:Vl}{s:S}{ss:Ss}{bb:Bool}
theorem as1 (h:evE G U a ρ=.ok (v1,ρ1)):evAs G U (.cons a .nil) ρ=.ok ([v1],ρ1):=by simp only[evAs,h,R.bind_ok']
theorem as2 (h:evE G U a ρ=.ok (v1,ρ1))(h2:evE G U b ρ1=.ok (v2,ρ2)):evAs G U (.cons a (.cons b .nil)) ρ=.ok ([v1,v2],ρ2):=by simp only[evAs,h,h2,R.bind_ok']
theorem jom (h:evE G U e ρ=.ok (.dat (.bl false),ρ1)):evE G U (.and e e') ρ=.ok (.dat (.bl false),ρ1):=by simp only[evE,h,R.bind_ok',jc1,jvQ,if_false]
theorem jlf {x y:Bool}(h:evE G U e ρ=.ok (.dat (.bl x),ρ))(h':x=true->evE G U e' ρ=.ok (.dat (.bl y),ρ)):evE G U (.and e e') ρ=.ok (.dat (.bl (x && y)),ρ):=by
 cases x with
 |false=>exact jom h
 |true=>exact jsc h (h' rfl)
theorem jg8 {x y:Ss}(h:evT G U c ρ=.ok (bb,ρ1)):evS G U W (.ife c x y) ρ=(if bb then evSs G U W x ρ1 else evSs G U W y ρ1):=by simp only[evS,h,R.bind_ok']
theorem jsm {x y:Bool}(h:evT G U c ρ=.ok (x,ρ))(h':x=false->evT G U a ρ=.ok (y,ρ)):evT G U (.or c a) ρ=.ok (x || y,ρ):=by
 cases x with
 |false=>exact jsT h (h' rfl)
 |true=>simp only[evT,h,R.bind_ok',if_true,Bool.true_or]
end
mutual
noncomputable def san:D->Bool
 |.exc _=>false
 |.tup xs=>sans xs
 |.lst xs=>sans xs
 |_=>true
noncomputable def sans:List D->Bool
 |[]=>true
 |x::r=>san x && sans r
end
theorem jcT:∀{xs:List D},sans xs=true->∀x∈xs,san x=true
 |[],_,x,hx=>by cases hx
 |y::r,h,x,hx=>by
  simp only[sans,jvP]at h;rcases List.mem_cons.mp hx with rfl | hx
  ·exact h.1
  ·exact jcT h.2 x hx
theorem jfb:∀{xs:List D},(∀x∈xs,san x=true)->sans xs=true
 |[],_=>by simp only[sans]
 |y::r,h=>by
  simp only[sans,h y ju7,jfb fun x hx=>h x (ju6 _ hx),Bool.and_self]
theorem jon (k:List Int):san (tu k)=true:=by
 unfold tu;simp only[san];exact jfb fun x hx=>by
  obtain⟨i,_,rfl⟩:=List.mem_map.mp hx;simp only[san]
noncomputable def isI:D->Bool
 |.int _=>true
 |_=>false
noncomputable def nnI:D->Bool
 |.int i=>decide (0<=i)
 |_=>false
theorem jtV (d:D)(h:san d=true):CD W (n + 1) 0 [.dat d]=.ok (.dat (.bl (isI d)),[.no]):=by
 rw[CD,jal (d:=⟨1,1,jcx⟩) rfl rfl];cases d with
 |exc c=>simp only[san]at h;cases h
 |_=>rfl
noncomputable def jgf:D->Nat
 |.tup xs=>xs.length
 |_=>0
noncomputable def jjl:D->Bool
 |.tup xs=>!(decide ((xs.length:Int) < 1) || decide ((4:Int) < xs.length)) && xs.all nnI
 |_=>false
theorem jlg (d:D)(h:san d=true):CD W (n + 2) 1 [.dat d]=.ok (.dat (.bl (jjl d)),[.no]):=by
 rw[CD,jal (d:=⟨1,1,jbC⟩) rfl rfl];cases d with
 |exc c=>simp only[san]at h;cases h
 |tup xs=>
  simp only[san]at h;have hm:=jcT h;have e:evE (jaa U W P (n + 1)) U jdk [.dat (.tup xs)]=.ok (.tmp (.l (xs.map fun x=>.bl (nnI x))),[.dat (.tup xs)]):=by
   refine jaB (h:=fun x=>x) (g:=fun x=>.bl (nnI x)) (xs:=xs) (by rw[List.map_id'];rfl) (fun x hx=>?_) fun s=>rfl
   have h0:=jah (G:=jaa U W P (n + 1)) (U:=U) (k:=0) (ρ:=[.dat x]) (es:=.cons (.var 0) .nil) [x] rfl (jtV (W:=W) (n:=n) x (hm x hx));cases x with
   |int i=>exact jsc h0 rfl
   |_=>exact jom h0
  have t:evT (jaa U W P (n + 1)) U (.or (.cmp .lt (.blt .len (.var 0)) (.lit (.int 1))) (.cmp .gt (.blt .len (.var 0)) (.lit (.int 4)))) [.dat (.tup xs)]=.ok (decide ((xs.length:Int) < 1) || decide ((4:Int) < xs.length),[.dat (.tup xs)]):=jsm rfl fun _=>rfl;show (evSs (jaa U W P (n + 1)) U W jbC [.dat (.tup xs)]).bind (jbq 1)=_;unfold jbC;rw[jad (ρ':=[.dat (.tup xs)]) rfl];simp only[jjl];cases hb:(decide ((xs.length:Int) < 1) || decide ((4:Int) < xs.length))with
  |true=>
   rw[hb]at t;rw[jaG (by rw[jg8 t];rfl)]
   rfl
  |false=>
   rw[hb]at t;rw[jad (by rw[jg8 t];rfl)]
   simp_arith[e,bfD,jbN]
   simp only[List.all_map,Bool.not_false,Bool.true_and];rfl
 |_=>rfl
noncomputable def jg9 (d:D)(l:Nat):Bool:=jjl d && (jgf d == l)
theorem jfc {d:D}(h:jjl d=true):∃xs,d=.tup xs/\1<=xs.length/\xs.length<=4/\∀x∈xs,∃i:Int,x=.int i/\0<=i:=by
 cases d with
 |tup xs=>
  simp only[jjl,jvP,Bool.not_eq_true',Bool.or_eq_false_iff,decide_eq_false_iff_not,jvo]at h;refine⟨xs,rfl,by omega,by omega,fun x hx=>?_⟩
  have:=h.2 x hx;cases x with
  |int i=>exact⟨i,rfl,of_decide_eq_true this⟩
  |_=>cases this
 |_=>cases h
theorem jsn (d:D)(l:Nat)(h:san d=true):CD W (n + 3) 2 [.dat d,.dat (.int l)]=.ok (.dat (.bl (jg9 d l)),[.no,.no]):=by
 rw[CD,jal (d:=⟨2,2,jar⟩) rfl rfl];have h0:=jah (G:=jaa U W P (n + 2)) (U:=U) (k:=1) (ρ:=[.dat d,.dat (.int l)]) (es:=.cons (.var 0) .nil) [d] rfl (jlg (W:=W) (n:=n) d h);have e:=jlf (e':=.cmp .eq (.blt .len (.var 0)) (.var 1)) (y:=jgf d == l) h0 fun ht=>by
  obtain⟨xs,rfl,_⟩:=jfc ht;simp_arith[];simp only[jgf];congr 4;rw[Bool.eq_iff_iff];simp only[beq_iff_eq];omega
 show (evSs (jaa U W P (n + 2)) U W jar [.dat d,.dat (.int l)]).bind (jbq 2)=_;unfold jar;rw[jaG (jbB e)];rfl
noncomputable def nz (k:List Int):Bool:=(k.map (· != 0)).any id
theorem jeq:∀(k:List Int),jaD (k.map D.int)=some (k.map (· != 0))
 |[]=>rfl
 |a::r=>by simp only[jvc,jaD,jeq r,Option.map_some]
noncomputable def jsV (b:List Int)(ss:List (List Int)):D:=.tup [tu b,.tup (ss.map tu)]
theorem jhV:∀(l:List (List Int)),jbA (l.map tu)=some l
 |[]=>rfl
 |k::l=>by simp only[jvc,tu,jbA,jbg];rw[jhV l]
theorem jnu {l:List (List Int)}(h0:∀k∈l,k≠[])(hl:l.length < 64):jeG l=.ok (.tmp (.l ((jbH l).map tu))):=by
 unfold jeG;rw[if_pos]
 ·rfl
 ·simp only[jvP,jvo,decide_eq_true_eq];refine⟨fun k hk=>?_,hl⟩;have:=h0 k hk;cases k with
  |nil=>exact absurd rfl this
  |cons _ _=>rfl
theorem jso {sq:D}{xs:List D}(h:ja5 sq=.ok xs){ρ:Rho}:jaL (.dat sq) ρ=.ok (xs,[],ρ):=by
 simp only[jaL,h,R.bind_ok']
theorem jnv {G:Calls}{a:E}{ρ:Rho}{α:Type}{xs:List α}{g:α->Bool}(h:evE G U a ρ=.ok (.tmp (.l (xs.map fun x=>.bl (g x))),ρ)):evT G U (.blt .all a) ρ=.ok (xs.all g,ρ):=by
 simp only[evT,h,R.bind_ok',jaT,jeX,bfD,jcH,jbN,jab,jse,List.all_map];rfl
theorem jsp {G:Calls}{a:E}{ρ:Rho}{α:Type}{xs:List α}{g:α->Bool}(h:evE G U a ρ=.ok (.tmp (.l (xs.map fun x=>.bl (g x))),ρ)):evE G U (.blt .all a) ρ=.ok (.dat (.bl (xs.all g)),ρ):=by
 simp only[evE,h,R.bind_ok',jaT,jeX,bfD,jcH,jbN,List.all_map];rfl
theorem jlh {d:D}(h:jjl d=true):bfD .len d=.ok (.dat (.int (jgf d))):=by
 obtain⟨xs,rfl,_⟩:=jfc h;rfl
noncomputable def Tal (l:Nat)(k:List Int):Prop:=k.length=l/\∀x∈k,0<=x
theorem jli {l:Nat}{k:List Int}(h:Tal l k)(h1:1<=l)(h4:l<=4):jjl (tu k)=true:=by
 have e:=h.1;simp only[tu,jjl,jve,jvP,Bool.not_eq_true',Bool.or_eq_false_iff,decide_eq_false_iff_not,jvo];refine⟨by omega,fun x hx=>?_⟩
 obtain⟨i,hi,rfl⟩:=List.mem_map.mp hx;exact decide_eq_true (h.2 i hi)
theorem jcy {k:List Int}:jgf (tu k)=k.length:=by simp[tu,jgf]
theorem jnw {l:Nat}{k:List Int}(h:Tal l k)(h1:1<=l)(h4:l<=4):jg9 (tu k) l=true:=by
 unfold jg9;rw[jli h h1 h4,jcy,h.1];simp
end Law
namespace Law
open PySem L2 DJ
variable {W n:Nat}
noncomputable def kOf:D->List Int
 |.tup xs=>xs.map fun x=>match x with
  |.int i=>i
  |_=>0
 |_=>[]
theorem jf6 (k:List Int):kOf (tu k)=k:=by
 simp only[tu,kOf,List.map_map];exact(List.map_congr_left fun x _=>rfl).trans (List.map_id k)
theorem jlj:∀{xs:List D},(∀x∈xs,∃i:Int,x=.int i/\0<=i)->∃k:List Int,xs=k.map D.int/\∀i∈k,0<=i
 |[],_=>⟨[],rfl,fun _ h=>by cases h⟩
 |x::xs,h=>by
  obtain⟨i,rfl,hi⟩:=h x ju7;obtain⟨k,e,hk⟩:=jlj fun y hy=>h y (ju6 _ hy);subst e;refine⟨i::k,rfl,fun j hj=>?_⟩;rcases List.mem_cons.mp hj with rfl | hj
  ·exact hi
  ·exact hk j hj
theorem jqm {d:D}(h:jjl d=true):∃k,d=tu k/\Tal k.length k/\1<=k.length/\k.length<=4:=by
 obtain⟨xs,rfl,h1,h4,hx⟩:=jfc h;obtain⟨k,rfl,hk⟩:=jlj hx;rw[jve]at h1 h4;exact⟨k,rfl,⟨rfl,hk⟩,h1,h4⟩
theorem jhW {d:D}{l:Nat}(h:jg9 d l=true):∃k,d=tu k/\Tal l k/\1<=l/\l<=4:=by
 unfold jg9 at h;simp only[jvP,beq_iff_eq]at h;obtain⟨k,rfl,hk,h1,h4⟩:=jqm h.1;have e:=h.2;rw[jcy]at e;subst e;exact⟨k,rfl,hk,h1,h4⟩
noncomputable def jdX (l:Nat)(x:D):Bool:=jg9 x l && nz (kOf x)
noncomputable def joo (ks:List (List Int)):Bool:=(ks.zip (ks.drop 1)).all fun p=>DJ.lexLt p.1 p.2
noncomputable def jb4 (d:D)(l:Nat):Bool:=match d with
 |.tup xs=>xs.all (jdX l) && joo (xs.map kOf)
 |_=>false
theorem jlk:∀(as bs:List (List Int)),jfC (as.map tu) (bs.map tu)=(as.zip bs).map fun p=>.tup [tu p.1,tu p.2]
 |[],_=>by simp[jfC]
 |_::_,[]=>by simp[jfC]
 |a::as,b::bs=>by simp only[jvc,jfC,jlk as bs,List.zip_cons_cons]
theorem jqn {a b:List Int}:cmD .lt (tu a) (tu b)=.ok (DJ.lexLt a b):=by
 show ltD (.tup (a.map D.int)) (.tup (b.map D.int))=_;simp only[ltD,jbg]
theorem jhX {l:Nat}:∀{xs:List D},xs.all (jdX l)=true->∃ks:List (List Int),xs=ks.map tu/\∀k∈ks,Tal l k/\nz k=true
 |[],_=>⟨[],rfl,fun _ h=>by cases h⟩
 |x::xs,h=>by
  simp only[List.all_cons,jvP]at h;obtain⟨ks,rfl,hk⟩:=jhX h.2;have h1:=h.1;simp only[jdX,jvP]at h1;obtain⟨k,rfl,ht,_⟩:=jhW h1.1;rw[jf6]at h1;refine⟨k::ks,rfl,fun j hj=>?_⟩;rcases List.mem_cons.mp hj with rfl | hj
  ·exact⟨ht,h1.2⟩
  ·exact hk j hj
theorem jha (ks:List (List Int)):(ks.map tu).map kOf=ks:=by
 rw[List.map_map];exact(List.map_congr_left fun x _=>jf6 x).trans (List.map_id ks)
theorem jqo (d:D)(l:Nat)(h:san d=true):CD W (n + 4) 3 [.dat d,.dat (.int l)]=.ok (.dat (.bl (jb4 d l)),[.no,.no]):=by
 rw[CD,jal (d:=⟨2,2,jbm⟩) rfl rfl];cases d with
 |exc c=>simp only[san]at h;cases h
 |tup xs=>
  simp only[san]at h;have hm:=jcT h;have e1:evE (jaa U W P (n + 3)) U jcJ [.dat (.tup xs),.dat (.int l)]=.ok (.tmp (.l (xs.map fun x=>.bl (jdX l x))),[.dat (.tup xs),.dat (.int l)]):=by
   refine jaB (h:=fun x=>x) (g:=fun x=>.bl (jdX l x)) (xs:=xs) (by rw[List.map_id'];rfl) (fun x hx=>?_) fun s=>rfl
   have h0:=jah (G:=jaa U W P (n + 3)) (U:=U) (k:=2) (ρ:=[.dat x,.dat (.int l)]) (es:=.cons (.var 0) (.cons (.var 1) .nil)) [x,.int l] rfl (jsn (W:=W) (n:=n) x l (hm x hx));refine jlf h0 fun ht=>?_;obtain⟨k,rfl,_⟩:=jhW ht;rw[jf6];simp only[evE,jvp,R.bind_ok',jab,bfD,tu,jfU,jeq];rfl
  have t:=jgA (jnv e1);show (evSs (jaa U W P (n + 3)) U W jbm [.dat (.tup xs),.dat (.int l)]).bind (jbq 2)=_;unfold jbm;rw[jad (ρ':=[.dat (.tup xs),.dat (.int l)]) rfl];cases hg:xs.all (jdX l)with
  |false=>
   rw[hg]at t;rw[jaG (by rw[jg8 t];rfl)]
   simp only[jb4,hg,Bool.false_and];rfl
  |true=>
   rw[hg]at t;rw[jad (by rw[jg8 t];rfl)]
   obtain⟨ks,rfl,hk⟩:=jhX hg;have e2:evE (jaa U W P (n + 3)) U jbP [.dat (.tup (ks.map tu)),.dat (.int l)]=.ok (.tmp (.l ((ks.zip (ks.drop 1)).map fun p=>.bl (DJ.lexLt p.1 p.2))),[.dat (.tup (ks.map tu)),.dat (.int l)]):=by
    have hc:cut (ks.map tu) (some (1:Int)) none=(ks.drop 1).map tu:=by
     rw[jbl];exact congrArg _ (jbO ks 1)
    unfold jbP;simp_arith[hc,jlk,jvu];rw[jda (g:=fun p:List Int×List Int=>.bl (DJ.lexLt p.1 p.2))]
    ·rfl
    ·intro p hp;have e:(putT [0,1] false (.tup [tu p.1,tu p.2]) (jd7 2 [] [.dat (.tup (ks.map tu)),.dat (.int l)]))=.ok [.dat (tu p.1),.dat (tu p.2)]:=rfl;rw[e];simp_arith[jqn];rfl
   rw[jaG (jbB (jsp e2))];simp only[jb4,hg,jha,Bool.true_and];rfl
 |_=>rfl
noncomputable def jgg:D->Bool
 |.tup xs=>match xs with
  |[a,b]=>jjl a && jb4 b (jgf a)
  |_=>false
 |_=>false
theorem len2 {α:Type}{xs:List α}(h:xs.length=2):∃a b,xs=[a,b]:=by
 cases xs with
 |nil=>cases h
 |cons a xs=>
  cases xs with
  |nil=>cases h
  |cons b xs=>
   cases xs with
   |nil=>exact⟨a,b,rfl⟩
   |cons _ _=>cases h
theorem jsq (d:D)(h:san d=true):CD W (n + 5) 4 [.dat d]=.ok (.dat (.bl (jgg d)),[.no]):=by
 rw[CD,jal (d:=⟨1,1,jcK⟩) rfl rfl];cases d with
 |exc c=>simp only[san]at h;cases h
 |tup xs=>
  simp only[san]at h;have hm:=jcT h;have t:evT (jaa U W P (n + 4)) U (.or (.not (.isi (.var 0) [.tuple])) (.cmp .ne (.blt .len (.var 0)) (.lit (.int 2)))) [.dat (.tup xs)]=.ok (!((xs.length:Int) == 2),[.dat (.tup xs)]):=jsT rfl rfl;show (evSs (jaa U W P (n + 4)) U W jcK [.dat (.tup xs)]).bind (jbq 1)=_;unfold jcK;by_cases hl:xs.length=2
  ·obtain⟨a,b,rfl⟩:=len2 hl
   ·rw[jad (by rw[jg8 t];rfl)]
    have ha:=hm a ju7;have hb:=hm b (ju6 _ ju7);have e1:=jah (G:=jaa U W P (n + 4)) (U:=U) (k:=1) (ρ:=[.dat (.tup [a,b])]) (es:=.cons (.idx (.var 0) (.lit (.int 0))) .nil) [a] rfl (jlg (W:=W) (n:=n + 2) a ha);rw[jaG (jbB (jlf (y:=jb4 b (jgf a)) e1 fun ht=>jah [b,.int (jgf a)] (as2 rfl (by simp_arith[jlh ht])) (jqo (W:=W) (n:=n) b (jgf a) hb)))]
    rfl
  ·have:((xs.length:Int) == 2)=false:=by
    rw[beq_eq_false_iff_ne];omega
   rw[this]at t;rw[jaG (by rw[jg8 t];rfl)]
   have:jgg (.tup xs)=false:=by
    cases xs with
    |nil=>rfl
    |cons _ xs=>
     cases xs with
     |nil=>rfl
     |cons _ xs=>
      cases xs with
      |nil=>exact absurd rfl hl
      |cons _ _=>rfl
   rw[this];rfl
 |_=>rfl
noncomputable def fl:D->Nat
 |.tup (a::_)=>jgf a
 |_=>0
noncomputable def jf7:D->Bool
 |.tup xs=>xs.all jgg && xs.all fun x=>fl x == fl (xs.headD .non)
 |_=>false
theorem jll {d:D}(h:jgg d=true):∃a b,d=.tup [a,b]/\jjl a=true/\jb4 b (jgf a)=true:=by
 cases d with
 |tup xs=>
  match xs,h with
  |[a,b],h=>
   simp only[jgg,jvP]at h;exact⟨a,b,rfl,h⟩
 |_=>cases h
theorem jsr (d:D)(h:san d=true):CD W (n + 6) 5 [.dat d]=.ok (.dat (.bl (jf7 d)),[.no]):=by
 rw[CD,jal (d:=⟨1,1,jcL⟩) rfl rfl];cases d with
 |exc c=>simp only[san]at h;cases h
 |tup xs=>
  simp only[san]at h;have hm:=jcT h;have e1:evE (jaa U W P (n + 5)) U jdd [.dat (.tup xs)]=.ok (.tmp (.l (xs.map fun x=>.bl (jgg x))),[.dat (.tup xs)]):=by
   refine jaB (h:=fun x=>x) (g:=fun x=>.bl (jgg x)) (xs:=xs) (by rw[List.map_id'];rfl) (fun x hx=>?_) fun s=>rfl
   exact jah [x] rfl (jsq (W:=W) (n:=n) x (hm x hx))
  have t:evT (jaa U W P (n + 5)) U (.or (.not (.isi (.var 0) [.tuple])) (.not (.blt .all jdd))) [.dat (.tup xs)]=.ok (!xs.all jgg,[.dat (.tup xs)]):=jsT rfl (jgA (jnv e1));show (evSs (jaa U W P (n + 5)) U W jcL [.dat (.tup xs)]).bind (jbq 1)=_;unfold jcL;cases hg:xs.all jgg with
  |false=>
   rw[hg]at t;rw[jaG (by rw[jg8 t];rfl)]
   simp only[jf7,hg,Bool.false_and];rfl
  |true=>
   rw[hg]at t;rw[jad (by rw[jg8 t];rfl)]
   have e2:evE (jaa U W P (n + 5)) U jep [.dat (.tup xs)]=.ok (.tmp (.l (xs.map fun x=>.bl (fl x == fl (xs.headD .non)))),[.dat (.tup xs)]):=by
    refine jaB (h:=fun x=>x) (g:=fun x=>.bl (fl x == fl (xs.headD .non))) (xs:=xs) (by rw[List.map_id'];rfl) (fun x hx=>?_) fun s=>rfl
    cases xs with
    |nil=>cases hx
    |cons x0 r=>
     obtain⟨a,b,rfl,ha,_⟩:=jll (List.all_eq_true.mp hg x hx);obtain⟨a0,b0,rfl,ha0,_⟩:=jll (List.all_eq_true.mp hg _ ju7);show evE (jaa U W P (n + 5)) U (.cmp .eq (.blt .len (.idx (.var 0) (.lit (.int 0)))) (.blt .len (.idx (.idx (.var 1) (.lit (.int 0))) (.lit (.int 0))))) [.dat (.tup [a,b]),.dat (.tup (.tup [a0,b0]::r))]=_;simp_arith[jlh ha,jlh ha0];simp only[fl,List.headD_cons];congr 4;rw[Bool.eq_iff_iff];simp only[beq_iff_eq];omega
   rw[jaG (jbB (jsp e2))];simp only[jf7,hg,Bool.true_and];rfl
 |_=>rfl
end Law
namespace Law
open PySem L2 DJ
variable {W n:Nat}
noncomputable def mc:Nat->Int
 |0=>48271
 |1=>69621
 |2=>39373
 |_=>16807
noncomputable def nh (c:Int)(k:Nat):Int:=(c + 3) * mc k % 999999999989
noncomputable def jlS (c:Int)(k:Nat):Int:=
 if nh c k % 6=0\/nh c k % 6=1 then nh c k * 1001 % (10 ^ 15 + 1)else if nh c k % 6=2\/nh c k % 6=3 then nh c k / 3 % 10 else if nh c k % 6=4 then 0 else 10 ^ 15
theorem jqp (c:Int)(k:Nat):0<=jlS c k:=by
 unfold jlS;split
 ·exact Int.emod_nonneg _ (by decide)
 ·split
  ·exact Int.emod_nonneg _ (by decide)
  ·split <;> decide
theorem jtW {a b c d r:Int}(h0:0<=r)(h6:r < 6):∃j:Int,DJ.atI [D.int 0,.int 0,.int 1,.int 1,.int 2,.int 3] r=.ok (.int j)/\DJ.atI [D.int a,.int b,.int c,.int d] j=.ok (.int (if r=0\/r=1 then a else if r=2\/r=3 then b else if r=4 then c else d)):=by
 have:r=0\/r=1\/r=2\/r=3\/r=4\/r=5:=by omega
 rcases this with rfl | rfl | rfl | rfl | rfl | rfl
 ·exact⟨0,rfl,rfl⟩
 ·exact⟨0,rfl,rfl⟩
 ·exact⟨1,rfl,rfl⟩
 ·exact⟨1,rfl,rfl⟩
 ·exact⟨2,rfl,rfl⟩
 ·exact⟨3,rfl,rfl⟩
theorem jnx (c:Int)(k:Nat)(hk:k < 4):CD W (n + 1) 10 [.dat (.int c),.dat (.int k)]=.ok (.dat (.int (jlS c k)),[.no,.no]):=by
 rw[CD,jal (d:=⟨2,3,jaU⟩) rfl rfl];show (evSs (jaa U W P n) U W jaU [.dat (.int c),.dat (.int k),.no]).bind (jbq 2)=_;have e1:evE (jaa U W P n) U (.bin .mod (.bin .mul (.bin .add (.var 0) (.lit (.int 3))) (.idx (.lst (.cons (.lit (.int 48271)) (.cons (.lit (.int 69621)) (.cons (.lit (.int 39373)) (.cons (.lit (.int 16807)) .nil))))) (.var 1))) (.lit (.int 999999999989))) [.dat (.int c),.dat (.int k),.no]=.ok (.dat (.int (nh c k)),[.dat (.int c),.dat (.int k),.no]):=by
  have m:DJ.atI [D.int 48271,D.int 69621,D.int 39373,D.int 16807] (k:Int)=.ok (.int (mc k)):=by
   match k,hk with
   |0,_=>rfl
   |1,_=>rfl
   |2,_=>rfl
   |3,_=>rfl
  have b:-18446744073709551616 < mc k/\mc k < 18446744073709551616:=by
   unfold mc;split <;> decide
  simp_arith[m,if_pos (Or.inr b)]
  rfl
 unfold jaU;rw[jad (jci e1 (by simp))]
 show (evSs (jaa U W P n) U W _ [.dat (.int c),.dat (.int k),.dat (.int (nh c k))]).bind (jbq 2)=_;have h6:nh c k % 6=0\/nh c k % 6=1\/nh c k % 6=2\/nh c k % 6=3\/nh c k % 6=4\/nh c k % 6=5:=by omega
 have f:(evSs (jaa U W P n) U W (.cons (.ret (.idx (.lst (.cons (.bin .mod (.bin .mul (.var 2) (.lit (.int 1001))) (.bin .add (.bin .pow (.lit (.int 10)) (.lit (.int 15))) (.lit (.int 1)))) (.cons (.bin .mod (.bin .fdiv (.var 2) (.lit (.int 3))) (.lit (.int 10))) (.cons (.lit (.int 0)) (.cons (.bin .pow (.lit (.int 10)) (.lit (.int 15))) .nil))))) (.idx (.lst (.cons (.lit (.int 0)) (.cons (.lit (.int 0)) (.cons (.lit (.int 1)) (.cons (.lit (.int 1)) (.cons (.lit (.int 2)) (.cons (.lit (.int 3)) .nil))))))) (.bin .mod (.var 2) (.lit (.int 6)))))) .nil) [.dat (.int c),.dat (.int k),.dat (.int (nh c k))]).bind (jbq 2)=.ok (.dat (.int (jlS c k)),[.no,.no]):=by
  obtain⟨j,j1,j2⟩:=jtW (a:=nh c k * 1001 % (10 ^ 15 + 1)) (b:=nh c k / 3 % 10) (c:=0) (d:=10 ^ 15) (r:=nh c k % 6) (by omega) (by omega)
  unfold jlS;generalize (if nh c k % 6=0\/nh c k % 6=1 then nh c k * 1001 % (10 ^ 15 + 1)else if nh c k % 6=2\/nh c k % 6=3 then nh c k / 3 % 10 else if nh c k % 6=4 then 0 else 10 ^ 15)=w at j2;simp only[Int.reducePow,Int.reduceAdd]at j2;simp_arith[jol,Int.reduceAdd,j1,j2];rfl
 exact f
noncomputable def jjm (c:Int)(l:Nat):List Int:=(List.range l).map (jlS c)
theorem jhY (c:Int)(l:Nat)(hl:l<=4):CD W (n + 2) 11 [.dat (.int c),.dat (.int l)]=.ok (.dat (tu (jjm c l)),[.no,.no]):=by
 rw[CD,jal (d:=⟨2,2,ja2⟩) rfl rfl];have e:evE (jaa U W P (n + 1)) U jcp [.dat (.int c),.dat (.int l)]=.ok (.tmp (.l ((List.range l).map fun k=>.int (jlS c k))),[.dat (.int c),.dat (.int l)]):=by
  refine jaB (h:=fun (j:Nat)=>D.int j) (g:=fun k=>.int (jlS c k)) (xs:=List.range l) (by simp_arith[jhU l (by omega)]) (fun k hk=>?_) fun s=>rfl
  exact jah (G:=jaa U W P (n + 1)) (U:=U) (k:=10) (ρ:=[.dat (.int k),.dat (.int c)]) (es:=.cons (.var 1) (.cons (.var 0) .nil)) [.int c,.int k] rfl (jnx (W:=W) (n:=n) c k (by have:=List.mem_range.mp hk;omega))
 show (evSs (jaa U W P (n + 1)) U W ja2 [.dat (.int c),.dat (.int l)]).bind (jbq 2)=_;unfold ja2;simp_arith[e];simp only[tu,jjm,List.map_map];rfl
end Law
namespace Law
open PySem L2 DJ
variable {W n:Nat}
theorem jhZ:∀(a:List Int),DJ.lexLt a a=false
 |[]=>rfl
 |x::a=>by simp only[DJ.lexLt,if_true,jhZ a]
theorem lt_trans:∀{a b c:List Int},DJ.lexLt a b=true->DJ.lexLt b c=true->DJ.lexLt a c=true
 |[],[],_,h,_=>by cases h
 |[],_::_,[],_,h=>by simp[DJ.lexLt]at h
 |[],_::_,_::_,_,_=>rfl
 |_::_,[],_,h,_=>by simp[DJ.lexLt]at h
 |_::_,_::_,[],_,h=>by simp[DJ.lexLt]at h
 |x::a,y::b,z::c,h1,h2=>by
  simp only[DJ.lexLt]at h1 h2 ⊢;split at h1
  ·subst_vars;split at h2
   ·subst_vars;rw[if_pos rfl];exact lt_trans h1 h2
   ·rename_i hn;rw[if_neg hn];exact h2
  ·rename_i hn;have h1:=of_decide_eq_true h1;split at h2
   ·subst_vars;rw[if_neg hn];exact decide_eq_true h1
   ·have h2:=of_decide_eq_true h2;rw[if_neg (by omega)]
    exact decide_eq_true (by omega)
theorem jh0:∀(a b:List Int),DJ.lexLt a b=true\/a=b\/DJ.lexLt b a=true
 |[],[]=>.inr (.inl rfl)
 |[],_::_=>.inl rfl
 |_::_,[]=>.inr (.inr rfl)
 |x::a,y::b=>by
  simp only[DJ.lexLt];by_cases e:x=y
  ·subst e;rw[if_pos rfl,if_pos rfl];rcases jh0 a b with h | h | h
   ·exact .inl h
   ·exact .inr (.inl (by rw[h]))
   ·exact .inr (.inr h)
  ·rw[if_neg e,if_neg (Ne.symm e)];rcases Int.lt_or_gt_of_ne e with h | h
   ·exact .inl (decide_eq_true h)
   ·exact .inr (.inr (decide_eq_true h))
noncomputable def Srt (l:List (List Int)):Prop:=l.Pairwise fun a b=>DJ.lexLt a b=true
theorem ins_mem' {x y:List Int}:∀{l:List (List Int)},y∈jhr x l↔y=x\/y∈l
 |[]=>by simp[jhr]
 |z::r=>by
  simp only[jhr];split
  ·rw[ju8,ins_mem' (l:=r),ju8];constructor
   ·rintro (h | h | h)
    ·exact .inr (.inl h)
    ·exact .inl h
    ·exact .inr (.inr h)
   ·rintro (h | h | h)
    ·exact .inr (.inl h)
    ·exact .inl h
    ·exact .inr (.inr h)
  ·rw[ju8]
theorem sort_mem {y:List Int}:∀{l:List (List Int)},y∈jbH l↔y∈l
 |[]=>by simp[jbH]
 |z::r=>by rw[jbH,ins_mem',sort_mem (l:=r),ju8]
noncomputable def Wk (l:List (List Int)):Prop:=l.Pairwise fun a b=>DJ.lexLt b a=false
theorem jhb {a b:List Int}(h:DJ.lexLt a b=true):DJ.lexLt b a=false:=by
 cases e:DJ.lexLt b a with
 |false=>rfl
 |true=>
  have:=lt_trans h e;rw[jhZ]at this;cases this
theorem jlm {a b c:List Int}(h1:DJ.lexLt b a=false)(h2:DJ.lexLt c b=false):DJ.lexLt c a=false:=by
 rcases jh0 a b with q | q | q
 ·rcases jh0 b c with r | r | r
  ·exact jhb (lt_trans q r)
  ·rw[<-r];exact h1
  ·rw[r]at h2;cases h2
 ·rw[q];exact h2
 ·rw[q]at h1;cases h1
theorem jop {x:List Int}:∀{l:List (List Int)},Wk l->Wk (jhr x l)
 |[],_=>by simp[jhr,Wk]
 |z::r,h=>by
  simp only[jhr];have h':=List.pairwise_cons.mp h;split
  ·rename_i hz;refine List.pairwise_cons.mpr ⟨fun y hy=>?_,jop h'.2⟩;rcases ins_mem'.mp hy with rfl | hy
   ·exact jhb hz
   ·exact h'.1 y hy
  ·rename_i hz;have hz:DJ.lexLt z x=false:=by simpa using hz
   refine List.pairwise_cons.mpr ⟨fun y hy=>?_,h⟩;rcases List.mem_cons.mp hy with rfl | hy
   ·exact hz
   ·exact jlm hz (h'.1 y hy)
theorem jln:∀(l:List (List Int)),Wk (jbH l)
 |[]=>by simp[jbH,Wk]
 |x::r=>jop (jln r)
noncomputable def keep (acc:List (List Int))(k:List Int):List (List Int):=if k∈acc then acc else if 0 < k.sum then acc++[k] else acc
theorem jlo:∀(ks acc:List (List Int)),Srt acc->(∀a∈acc,∀k∈ks,DJ.lexLt k a=false)->Wk ks->Srt (ks.foldl keep acc)/\∀x,x∈ks.foldl keep acc↔x∈acc\/(x∈ks/\0 < x.sum)
 |[],acc,h,_,_=>⟨h,fun x=>by simp⟩
 |k::ks,acc,h,hb,hw=>by
  have hw':=List.pairwise_cons.mp hw;rw[List.foldl_cons];have key:∀acc',acc'=keep acc k->Srt acc'/\(∀a∈acc',∀j∈ks,DJ.lexLt j a=false)/\∀x,x∈acc'↔x∈acc\/(x=k/\0 < x.sum):=by
   intro acc' e;unfold keep at e;split at e
   ·rename_i hm;subst e;refine⟨h,fun a ha j hj=>hb a ha j (ju6 _ hj),fun x=>⟨.inl,fun z=>?_⟩⟩;rcases z with z | ⟨rfl,_⟩
    ·exact z
    ·exact hm
   ·rename_i hm;split at e
    ·rename_i hs;subst e;refine⟨List.pairwise_append.mpr ⟨h,List.pairwise_singleton _ _,fun a ha b hb'=>?_⟩,fun a ha j hj=>?_,fun x=>?_⟩
     ·rw[List.mem_singleton.mp hb'];rcases jh0 a k with q | q | q
      ·exact q
      ·exact absurd (by rw[<-q];exact ha) hm
      ·rw[hb a ha k ju7]at q;cases q
     ·rcases List.mem_append.mp ha with ha | ha
      ·exact hb a ha j (ju6 _ hj)
      ·rw[List.mem_singleton.mp ha];exact hw'.1 j hj
     ·rw[List.mem_append,List.mem_singleton];exact⟨fun z=>z.imp id fun z=>⟨z,by rw[z];exact hs⟩,fun z=>z.imp id fun z=>z.1⟩
    ·rename_i hs;subst e;refine⟨h,fun a ha j hj=>hb a ha j (ju6 _ hj),fun x=>⟨.inl,fun z=>?_⟩⟩;rcases z with z | ⟨rfl,z⟩
     ·exact z
     ·exact absurd z hs
  obtain⟨k1,k2,k3⟩:=key _ rfl;obtain⟨r1,r2⟩:=jlo ks (keep acc k) k1 k2 hw'.2;refine⟨r1,fun x=>?_⟩;rw[r2 x,k3 x,ju8];constructor
  ·rintro ((z | ⟨z,s⟩) | ⟨z,s⟩)
   ·exact .inl z
   ·exact .inr ⟨.inl z,s⟩
   ·exact .inr ⟨.inr z,s⟩
  ·rintro (z | ⟨z | z,s⟩)
   ·exact .inl (.inl z)
   ·exact .inl (.inr ⟨z,s⟩)
   ·exact .inr ⟨z,s⟩
theorem jlp:∀{k:List Int},(∀x∈k,0<=x)->0<=k.sum/\(0 < k.sum↔nz k=true)
 |[],_=>by simp[nz]
 |a::k,h=>by
  have ha:=h a ju7;obtain⟨i1,i2⟩:=jlp (k:=k) fun x hx=>h x (ju6 _ hx);have e:nz (a::k)=(a != 0 || nz k):=by simp[nz]
  rw[e,List.sum_cons];refine⟨by omega,?_⟩
  rw[Bool.or_eq_true,<-i2];by_cases z:a=0
  ·subst z;simp
  ·have:(a != 0)=true:=by simpa using z
   rw[this];constructor
   ·intro _;exact .inl rfl
   ·intro _;omega
theorem jfd:∀(ks:List (List Int)),cmpDs (ks.map tu)=true
 |[]=>rfl
 |k::ks=>by
  simp only[jvc,cmpDs,jfd ks,Bool.and_true];simp only[tu,jbw,jcF]
theorem jfe:∀(ks:List (List Int)),deeps (ks.map tu)<=1
 |[]=>by simp[deeps]
 |k::ks=>by
  simp only[jvc,deeps];have:=jfe ks;have h:deep (tu k)=1:=by simp only[tu,deep,jcG]
  rw[h];exact Nat.max_le.mpr ⟨jvK _,this⟩
theorem joq (a b:List Int):eqD (tu a) (tu b)=decide (a=b):=by simp only[tu,eqD,jhP]
theorem jtX (k:List Int)(ks:List (List Int)):inR (tu k) (.lst (ks.map tu))=.ok (decide (k∈ks)):=by
 have h1:jbw (tu k)=true:=by simp only[tu,jbw,jcF]
 have h2:deep (tu k)=1:=by simp only[tu,deep,jcG]
 unfold inR;rw[jcH,R.bind_ok',if_pos]
 ·congr 1
  rw[List.any_map,Bool.eq_iff_iff,List.any_eq_true,decide_eq_true_eq];constructor
  ·rintro⟨x,hx,e⟩;have e:eqD (tu x) (tu k)=true:=e;rw[joq]at e;rw[<-of_decide_eq_true e];exact hx
  ·intro hk;exact⟨k,hk,by show eqD (tu k) (tu k)=true;rw[joq];simp⟩
 ·have:=jfe ks;simp only[h1,jfd,h2,jvP,decide_eq_true_eq];exact⟨⟨⟨trivial,trivial⟩,by omega⟩,by omega⟩
theorem jny {B S:Sl}(k:List Int)(acc:List (List Int))(ha:acc.length<=100):evSs (jaa U W P n) U W jbs [B,S,.own (.l (acc.map tu)) false false,.dat (tu k)]=.ok (.nx [B,S,.own (.l ((keep acc k).map tu)) false false,.dat (tu k)]):=by
 have t1:evT (jaa U W P n) U (.cmp .notin (.var 3) (.var 2)) [B,S,.own (.l (acc.map tu)) false false,.dat (tu k)]=.ok (!decide (k∈acc),[B,S,.own (.l (acc.map tu)) false false,.dat (tu k)]):=by
  simp_arith[]
  show ((inR (tu k) (.lst (acc.map tu))).bind fun c=>(.ok (!c):R Bool)).bind _=_;rw[jtX];rfl
 have t2:evT (jaa U W P n) U (.cmp .gt (.blt .sum (.var 3)) (.lit (.int 0))) [B,S,.own (.l (acc.map tu)) false false,.dat (tu k)]=.ok (decide (0 < k.sum),[B,S,.own (.l (acc.map tu)) false false,.dat (tu k)]):=by
  simp_arith[tu,bfD,jbg]
 have ff:ja6 ((acc.map tu).length + 1)=true:=jao (by rw[jve];omega)
 unfold jbs keep;by_cases hm:k∈acc
 ·rw[decide_eq_true hm]at t1;rw[if_pos hm,jad (jbh (by simp only[evT]at t1 ⊢;rw[t1];rfl))]
  simp only[evSs]
 ·rw[decide_eq_false hm]at t1;rw[if_neg hm];have t:evT (jaa U W P n) U (.and (.cmp .notin (.var 3) (.var 2)) (.cmp .gt (.blt .sum (.var 3)) (.lit (.int 0)))) [B,S,.own (.l (acc.map tu)) false false,.dat (tu k)]=.ok (decide (0 < k.sum),[B,S,.own (.l (acc.map tu)) false false,.dat (tu k)]):=by
   rw[evT,t1,R.bind_ok'];exact t2
  by_cases hs:0 < k.sum
  ·rw[decide_eq_true hs]at t;rw[if_pos hs,jad (ρ':=[B,S,.own (.l ((acc++[k]).map tu)) false false,.dat (tu k)]) (by rw[jg8 t];simp_arith[ff,List.map_append,jvc,List.map_nil])]
   simp only[evSs]
  ·rw[decide_eq_false hs]at t;rw[if_neg hs,jad (jbh t)];simp only[evSs]
theorem jh1 (acc:List (List Int))(k:List Int):(keep acc k).length<=acc.length + 1:=by
 unfold keep;split
 ·omega
 ·split
  ·simp
  ·omega
theorem jh2 {B S:Sl}:∀(ks acc:List (List Int)) (s:Sl),acc.length + ks.length<=100->∃t,jaY (fun x r=>(putT [3] true x r).bind fun r'=>evSs (jaa U W P n) U W jbs r') (ks.map tu) [B,S,.own (.l (acc.map tu)) false false,s]=.ok (.nx [B,S,.own (.l ((ks.foldl keep acc).map tu)) false false,t])
 |[],acc,s,_=>⟨s,rfl⟩
 |k::ks,acc,s,h=>by
  rw[jvf]at h;have hk:=jh1 acc k;obtain⟨t,e⟩:=jh2 (B:=B) (S:=S) ks (keep acc k) (.dat (tu k)) (by omega)
  refine⟨t,?_⟩;simp only[jvc,jaY];have e2:(putT [3] true (tu k) [B,S,.own (.l (acc.map tu)) false false,s])=.ok [B,S,.own (.l (acc.map tu)) false false,.dat (tu k)]:=rfl;rw[e2,R.bind_ok',jny k acc (by omega),R.bind_ok']
  exact e
theorem jlq (x:List Int):∀(l:List (List Int)),(jhr x l).length=l.length + 1
 |[]=>rfl
 |y::r=>by
  simp only[jhr];split
  ·simp[jlq x r]
  ·simp
theorem jff:∀(l:List (List Int)),(jbH l).length=l.length
 |[]=>rfl
 |x::r=>by rw[jbH,jlq,jff r,jvf]
noncomputable def kp (ss:List (List Int)):List (List Int):=(jbH ss).foldl keep []
theorem jss (b:List Int)(ss:List (List Int))(h0:∀k∈ss,k≠[])(hl:ss.length < 64):CD W (n + 1) 12 [.dat (tu b),.dat (.lst (ss.map tu))]=.ok (.dat (jsV b (kp ss)),[.no,.no]):=by
 rw[CD,jal (d:=⟨2,4,jbD⟩) rfl rfl];obtain⟨t,e⟩:=jh2 (W:=W) (n:=n) (B:=.dat (tu b)) (S:=.dat (.lst (ss.map tu))) (jbH ss) [] .no (by rw[jff];simp;omega)
 have es:bfD .sorted (.lst (ss.map tu))=.ok (.tmp (.l ((jbH ss).map tu))):=by
  simp only[bfD,jhV];exact jnu h0 hl
 show (evSs (jaa U W P n) U W jbD [.dat (tu b),.dat (.lst (ss.map tu)),.no,.no]).bind (jbq 2)=_;unfold jbD;rw[jad (ρ':=[.dat (tu b),.dat (.lst (ss.map tu)),.own (.l ([].map tu)) false false,.no]) (by simp_arith[];rfl)]
 rw[jad (ρ':=[.dat (tu b),.dat (.lst (ss.map tu)),.own (.l ((kp ss).map tu)) false false,t]) (by simp_arith[es,e,jeH,unlk,kp])]
 simp_arith[]
 rfl
end Law
namespace Law
open PySem L2 DJ Tx
variable {W n:Nat}
noncomputable def jd3 (m:Nat):List Nat:=(Nat.toDigits 10 m).map Char.toNat
theorem jlr (m:Nat):Str.ofString (toString (m:Int))=mk (jd3 m):=jo8 (PySem.W.KIN.signs_num m)
theorem jh3 {m:Nat}(h:m<=1000000000000000):1<=(jd3 m).length/\(jd3 m).length<=16:=by
 unfold jd3;rw[jve];refine⟨?_,(Nat.length_toDigits_le_iff (by decide) (by decide)).mpr (by omega)⟩
 by_cases h:m < 10
 ·rw[Nat.toDigits_of_lt_base h];simp
 ·rw[Nat.toDigits_of_base_le (by decide) (by omega)];simp
theorem jlt {k:Nat}(h:k < 10):(Nat.digitChar k).toNat=48 + k:=by
 match k,h with
 |0,_=>rfl
 |1,_=>rfl
 |2,_=>rfl
 |3,_=>rfl
 |4,_=>rfl
 |5,_=>rfl
 |6,_=>rfl
 |7,_=>rfl
 |8,_=>rfl
 |9,_=>rfl
theorem jcz {m:Nat}(h:m < 10):jd3 m=[48 + m]:=by
 unfold jd3;rw[Nat.toDigits_of_lt_base h,jvc,List.map_nil,jlt h]
theorem jhc {m:Nat}(h:10<=m):jd3 m=jd3 (m / 10)++[48 + m % 10]:=by
 unfold jd3;rw[Nat.toDigits_of_base_le (by decide) h,List.map_append,jvc,List.map_nil,jlt (by omega)]
theorem jbd (m:Nat):∀c∈jd3 m,48<=c/\c<=57:=by
 induction m using Nat.strongRecOn with
 |ind m ih=>
  intro c hc;by_cases h:m < 10
  ·rw[jcz h]at hc;have:=List.mem_singleton.mp hc;omega
  ·rw[jhc (by omega)]at hc
   rcases List.mem_append.mp hc with hc | hc
   ·exact ih (m / 10) (by omega) c hc
   ·have:=List.mem_singleton.mp hc;omega
theorem jb5 (m:Nat):∃c r,jd3 m=c::r/\(c=48->m=0):=by
 induction m using Nat.strongRecOn with
 |ind m ih=>
  by_cases h:m < 10
  ·exact⟨48 + m,[],jcz h,fun e=>by omega⟩
  ·obtain⟨c,r,e,hc⟩:=ih (m / 10) (by omega)
   refine⟨c,r++[48 + m % 10],by rw[jhc (by omega),e];rfl,fun z=>?_⟩
   have:=hc z;omega
theorem jnz {m:Nat}(h:m<=1000000000000000):PySem.intText? (mk (jd3 m))=some (m:Int):=by
 have hl:=jh3 h;have e:=intText_digits (x:=mk (jd3 m)) (fun c hc=>jbd m c hc) (by obtain⟨c,r,e,_⟩:=jb5 m;show jd3 m≠[];rw[e];simp) (by rw[jav];omega)
 rw[e];exact congrArg (fun k:Nat=>some (k:Int)) (PySem.W.KIN.val_back m)
noncomputable def jls (s:List Nat):List (List Nat)->List Nat
 |[]=>[]
 |x::r=>x++(match r with | []=>[] | y::r'=>s++jls s (y::r'))
theorem jst (c:Nat):∀ps:List (List Nat),jl c ps=jls [c] ps
 |[]=>rfl
 |[x]=>rfl
 |x::y::r=>by
  show x++c::jl c (y::r)=x++([c]++jls [c] (y::r));rw[jst c (y::r)];rfl
theorem jlu (s:List Nat):∀(ps:List (List Nat)),Txt.join (mk s) (ps.map mk)=mk (jls s ps):=by
 intro ps;refine(StrLaws.glued_eq_join _ _).trans ?_;induction ps with
 |nil=>rfl
 |cons x r ih=>
  cases r with
  |nil=>show mk x=mk (x++[]);rw[jvu]
  |cons y r=>
   show mk x++mk s++Str.join (mk s) ((y::r).map mk)=_;rw[ih,jjW,jjW];show mk (x++s++jls s (y::r))=mk (x++(s++jls s (y::r)));rw[jvv]
theorem jb6 (s:List Nat)(B:Nat):∀(ps:List (List Nat)),(∀p∈ps,p.length<=B)->(jls s ps).length<=ps.length * (B + s.length)
 |[],_=>by simp[jls]
 |[x],h=>by
  have:=h x ju7;simp only[jls,jvu,jvf,jvr];omega
 |x::y::r,h=>by
  have hx:=h x ju7;have:=jb6 s B (y::r) fun p hp=>h p (ju6 _ hp);show (x++(s++jls s (y::r))).length<=((y::r).length + 1) * (B + s.length);rw[jvj,jvj,Nat.add_mul];omega
theorem jbp {s:List Nat}{c:Nat}:∀{ps:List (List Nat)},c∈jls s ps->c∈s\/∃p∈ps,c∈p
 |[],h=>by cases h
 |[x],h=>by
  simp only[jls,jvu]at h;exact .inr ⟨x,ju7,h⟩
 |x::y::r,h=>by
  have h:c∈x++(s++jls s (y::r)):=h;rcases List.mem_append.mp h with h | h
  ·exact .inr ⟨x,ju7,h⟩
  ·rcases List.mem_append.mp h with h | h
   ·exact .inl h
   ·rcases jbp h with h | ⟨p,hp,h⟩
    ·exact .inl h
    ·exact .inr ⟨p,ju6 _ hp,h⟩
theorem jor {α:Type}(f:α->Nat)(B:Nat):∀(l:List α),(∀x∈l,f x<=B)->(l.map f).sum<=l.length * B
 |[],_=>by simp
 |x::l,h=>by
  have hx:=h x ju7;have:=jor f B l fun y hy=>h y (ju6 _ hy);simp only[jvc,List.sum_cons,jvf,Nat.add_mul];omega
theorem jdz {s:List Nat}{ps:List (List Nat)}{B:Nat}(h:∀p∈ps,p.length<=B)(hB:ps.length * B + ps.length * s.length<=16777216):smD .join (mk s) (.lst (ps.map fun p=>.str (mk p)))=.ok (.dat (.str (mk (jls s ps)))):=by
 have e:(ps.map fun p=>D.str (mk p))=(ps.map mk).map D.str:=by rw[List.map_map];rfl
 have hl:=jor (fun p:List Nat=>p.length) B ps h;rw[e,jqk,jlu];rw[List.map_map,jve];have:(ps.map ((fun x:Str=>x.length) ∘ mk))=ps.map fun p=>p.length:=List.map_congr_left fun p _=>jav p;rw[this,jav];omega
theorem at_iff {l s:List Nat}{k:Nat}:StrLaws.At (mk l) (mk s) (mk l).length k↔k + s.length<=l.length/\(l.drop k).take s.length=s:=by
 unfold StrLaws.At;rw[StrLaws.subAt_eq,jav,jav,beq_iff_eq]
theorem jh4 (c:Nat)(s l:List Nat):∀(ps:List (List Nat)) (a:Nat) (cuts:List Nat) (f:Nat),ps≠[]->(∀p∈ps,c ∉ p)->a<=l.length->l.drop a=jls (c::s) ps->StrLaws.ChainG (mk l) (mk (c::s)) (mk l).length a cuts f->(∀k,f<=k->¬ StrLaws.At (mk l) (mk (c::s)) (mk l).length k)->StrLaws.partsFrom (mk l) (mk (c::s)).length a cuts=ps.map mk
 |[],_,_,_,h,_,_,_,_,_=>absurd rfl h
 |p::ps,a,cuts,f,_,hf,ha,e,hc,hn=>by
  have np:c ∉ p:=hf p ju7;have first:∀k,a<=k->StrLaws.At (mk l) (mk (c::s)) (mk l).length k->(l.drop a)[k - a]?=some c:=fun k hk hA=>by
   obtain⟨h1,h2⟩:=at_iff.mp hA;have:((l.drop k).take (c::s).length)[0]?=some c:=by rw[h2];rfl
   rw[List.getElem?_take_of_lt (by simp),List.getElem?_drop]at this
   rw[List.getElem?_drop,show a + (k - a)=k + 0 by omega]
   exact this
  cases ps with
  |nil=>
   have e:l.drop a=p:=by rw[e];simp[jls]
   have no:∀k,a<=k->¬ StrLaws.At (mk l) (mk (c::s)) (mk l).length k:=fun k hk hA=>by
    have:=first k hk hA
    rw[e]at this;exact np (jvh this)
   cases cuts with
   |cons d r=>exact absurd hc.2.1 (no d hc.1)
   |nil=>
    show [Builtin.Str.strSub (mk l) a (mk l).length]=[mk p];congr 1;apply jo8;rw[StrLaws.strSub_toList];show (l.drop a).take _=p;rw[e,jav,List.take_of_length_le];rw[<-e,List.length_drop];exact jvK _
  |cons q r=>
   have e:l.drop a=p++((c::s)++jls (c::s) (q::r)):=e;have hlen:l.length - a=p.length + ((c::s).length + (jls (c::s) (q::r)).length):=by
    rw[<-List.length_drop,e,jvj,jvj]
   have ed:l.drop (a + p.length)=(c::s)++jls (c::s) (q::r):=by
    rw[<-List.drop_drop,e,List.drop_left]
   have hA:StrLaws.At (mk l) (mk (c::s)) (mk l).length (a + p.length):=by
    refine at_iff.mpr ⟨by omega,?_⟩
    rw[ed,List.take_left]
   have lo:∀k,a<=k->StrLaws.At (mk l) (mk (c::s)) (mk l).length k->a + p.length<=k:=fun k hk hA=>by
    have:=first k hk hA
    by_cases z:k - a < p.length
    ·rw[e,jvm z]at this;exact absurd (jvh this) np
    ·omega
   cases cuts with
   |nil=>
    have:f=a:=hc;exact absurd hA (hn _ (by omega))
   |cons d r'=>
    obtain⟨h1,h2,h3,h4⟩:=hc;have hd:d=a + p.length:=by
     have:=lo d h1 h2;by_cases z:a + p.length < d
     ·exact absurd hA (h3 _ (by omega) z)
     ·omega
    subst hd;show Builtin.Str.strSub (mk l) a (a + p.length)::StrLaws.partsFrom (mk l) (mk (c::s)).length (a + p.length + (mk (c::s)).length) r'=mk p::(q::r).map mk;rw[jh4 c s l (q::r) _ r' f (by simp) (fun x hx=>hf x (ju6 _ hx)) (by rw[jav];omega) (by rw[<-List.drop_drop,ed,jav,List.drop_left]) h4 hn]
    congr 1
    apply jo8;rw[StrLaws.strSub_toList];show (l.drop a).take _=p;rw[e,show a + p.length - a=p.length by omega,List.take_left]
theorem jnA {l:List Nat}(h:∀c∈l,c < 256)(x:Str):¬ Builtin.Str.strKind x < Builtin.Str.strKind (mk l):=by
 have e:(mk l).cps.all (· < 256)=true:=by
  rw[<-Array.all_toList];exact List.all_eq_true.mpr fun c hc=>decide_eq_true (h c hc)
 unfold Builtin.Str.strKind;rw[if_pos e];split
 ·omega
 ·split <;> omega
theorem jfg (c:Nat)(s:List Nat){ps:List (List Nat)}(hp:ps≠[])(hf:∀p∈ps,c ∉ p)(hs:∀x∈c::s,x < 256):Txt.split (mk (jls (c::s) ps)) (mk (c::s))=ps.map mk:=by
 obtain⟨f,hG,hn⟩:=StrLaws.occ_tight (mk (jls (c::s) ps)) (mk (c::s)) (by rw[jav];simp)
 have key:=jh4 c s (jls (c::s) ps) ps 0 _ f hp hf (Nat.zero_le _) rfl hG hn;unfold Txt.split;split
 ·rename_i h;rw[Bool.or_eq_true,decide_eq_true_eq,decide_eq_true_eq]at h;rcases h with h | h
  ·cases ho:Builtin.Str.occurrences (mk (jls (c::s) ps)) (mk (c::s)) 0 (mk (jls (c::s) ps)).length ((mk (jls (c::s) ps)).length + 1)with
   |nil=>
    rw[ho]at key;rw[<-key];show [mk (jls (c::s) ps)]=[Builtin.Str.strSub (mk (jls (c::s) ps)) 0 _];rw[StrLaws.sub_whole]
   |cons d r=>
    rw[ho]at hG;have:=hG.2.1.1;omega
  ·exact absurd h (jnA hs _)
 ·split
  ·rename_i he;rw[List.isEmpty_iff.mp he]at key;rw[<-key];show [mk (jls (c::s) ps)]=[Builtin.Str.strSub (mk (jls (c::s) ps)) 0 _];rw[StrLaws.sub_whole]
  ·rw[StrLaws.partsBetween_eq];exact key
end Law
namespace Law
open PySem L2 DJ Tx
variable {W n:Nat}
section
variable {G:Calls}{ρ ρ1 ρ2:Rho}{a b:E}
theorem jqO {f:Sm}{x:Str}{v w:Vl}{d:D}(ha:evE G U a ρ=.ok (.dat (.str x),ρ1))(hb:evE G U b ρ1=.ok (v,ρ2))(hd:deref v ρ2=.ok d)(h:smD f x d=.ok w):evE G U (.sm f a b) ρ=.ok (w,ρ2):=by
 simp only[evE,ha,hb,R.bind_ok',jok,hd,h]
theorem jam {d:D}:evE G U (.lit d) ρ=.ok (.dat d,ρ):=by rw[evE]
theorem jaz {i:Nat}{d:D}(h:ρ[i]?=some (.dat d)):evE G U (.var i) ρ=.ok (.dat d,ρ):=by rw[evE,h]
end
noncomputable abbrev Fan:=List Int×List (List Int)
noncomputable def Nm (x:Int):Prop:=0<=x/\x<=1000000000000000
noncomputable def GT (l:Nat)(k:List Int):Prop:=k.length=l/\∀x∈k,Nm x
noncomputable def GF (l:Nat)(f:Fan):Prop:=GT l f.1/\(∀k∈f.2,GT l k/\nz k=true)/\Srt f.2/\f.2.length<=4
noncomputable def nT (x:Int):List Nat:=jd3 x.toNat
noncomputable def tT (k:List Int):List Nat:=jls [44] (k.map nT)
noncomputable def fT (f:Fan):List Nat:=jls [43] ((f.1::f.2).map tT)
noncomputable def sT (fs:List Fan):List Nat:=jls [32,124,32] (fs.map fT)
noncomputable def fD (f:Fan):D:=jsV f.1 f.2
theorem jbG {x:Int}(h:Nm x):1<=(nT x).length/\(nT x).length<=16:=jh3 (by have:=h.2;omega)
noncomputable def TL (k:List Int):Prop:=k≠[]/\k.length<=17/\∀x∈k,Nm x
noncomputable def LF (f:Fan):Prop:=(∀k∈f.1::f.2,TL k)/\f.2.length<=5
theorem GT.tl {l:Nat}{k:List Int}(h1:1<=l)(h4:l<=4)(h:GT l k):TL k:=⟨fun z=>by have:=h.1;rw[z]at this;simp at this;omega,by have:=h.1;omega,h.2⟩
theorem GF.mem {f:Fan}{l:Nat}(h:GF l f):∀k∈f.1::f.2,GT l k:=fun k hk=>by
 rcases List.mem_cons.mp hk with rfl | hk
 ·exact h.1
 ·exact(h.2.1 k hk).1
theorem GF.lf {f:Fan}{l:Nat}(h1:1<=l)(h4:l<=4)(h:GF l f):LF f:=⟨fun k hk=>(h.mem k hk).tl h1 h4,by have:=h.2.2.2;omega⟩
theorem jdY {k:List Int}(h:TL k):(tT k).length<=289:=by
 have:=jb6 [44] 16 (k.map nT) fun p hp=>by
  obtain⟨x,hx,rfl⟩:=List.mem_map.mp hp;exact(jbG (h.2.2 x hx)).2
 rw[jve]at this;have e:k.length * (16 + [44].length)<=17 * 17:=Nat.mul_le_mul_right 17 h.2.1;exact jvN this e
theorem jcU {f:Fan}(h:LF f):(fT f).length<=1740:=by
 have:=jb6 [43] 289 ((f.1::f.2).map tT) fun p hp=>by
  obtain⟨k,hk,rfl⟩:=List.mem_map.mp hp;exact jdY (h.1 k hk)
 rw[jve,jvf]at this;have e:(f.2.length + 1) * (289 + [43].length)<=6 * 290:=Nat.mul_le_mul_right 290 (by have:=h.2;omega)
 exact jvN this e
theorem jos {fs:List Fan}(h:∀f∈fs,LF f)(hn:fs.length<=48):(sT fs).length<=83664:=by
 have:=jb6 [32,124,32] 1740 (fs.map fT) fun p hp=>by
  obtain⟨f,hf,rfl⟩:=List.mem_map.mp hp;exact jcU (h f hf)
 rw[jve]at this;have e:fs.length * (1740 + [32,124,32].length)<=48 * 1743:=Nat.mul_le_mul_right 1743 hn;exact jvN this e
theorem jsu {x:Int}(h:Nm x):x.natAbs.log2 < 1920:=by
 have h1:=h.1;have h2:=h.2;by_cases z:x.natAbs=0
 ·rw[z];decide
 ·have:x.natAbs.log2 < 64:=(Nat.log2_lt z).mpr (by omega)
  omega
theorem bf_str {x:Int}(h:Nm x):bfD .str (.int x)=.ok (.dat (.str (mk (nT x)))):=by
 show (if x.natAbs.log2 < 1920 then R.ok (Vl.dat (.str (Str.ofString (toString x))))else .stk)=_;rw[if_pos (jsu h)];have e:x=(x.toNat:Int):=by have:=h.1;omega
 unfold nT;rw[<-jlr,<-e]
theorem jsW (f:Fan)(h:LF f):smD .join "+" (.lst ((f.1::f.2).map fun k=>.str (mk (tT k))))=.ok (.dat (.str (mk (fT f)))):=by
 have:=jdz (s:=[43]) (ps:=(f.1::f.2).map tT) (B:=289) (fun p hp=>by
  obtain⟨k,hk,rfl⟩:=List.mem_map.mp hp;exact jdY (h.1 k hk)) (by have:=h.2;rw[jve,jvf];simp only[jvf,jvr];omega)
 rw[List.map_map]at this;exact this
theorem jnB (fs:List Fan)(h:∀f∈fs,LF f)(hn:fs.length<=48):smD .join " | " (.lst (fs.map fun f=>.str (mk (fT f))))=.ok (.dat (.str (mk (sT fs)))):=by
 have:=jdz (s:=[32,124,32]) (ps:=fs.map fT) (B:=1740) (fun p hp=>by
  obtain⟨f,hf,rfl⟩:=List.mem_map.mp hp;exact jcU (h f hf)) (by rw[jve];simp only[jvf,jvr];omega)
 rw[List.map_map]at this;exact this
noncomputable def sD (fs:List Fan):D:=.tup (fs.map fD)
noncomputable def txt (fs:List Fan):List Nat:=match fs with
 |[]=>[45]
 |_::_=>sT fs
end Law
namespace Law
open PySem L2 DJ Tx
variable {W n:Nat}
section
variable {G:Calls}{ρ ρ1 ρ2:Rho}{a b:E}
theorem jdZ {x y:List Nat}(ha:evE G U a ρ=.ok (.dat (.str (mk x)),ρ1))(hb:evE G U b ρ1=.ok (.dat (.str (mk y)),ρ2))(h:x.length + y.length<=100000):evE G U (.bin .add a b) ρ=.ok (.dat (.str (mk (x++y))),ρ2):=by
 simp only[evE,ha,hb,R.bind_ok',jab,jhR,jjW];rw[if_pos (jao (by rw[jav,jav];omega))]
 rfl
theorem jnC {ks:List (List Int)}(h:ks≠[]):(ks.flatMap fun k=>43::tT k)=43::jls [43] (ks.map tT):=by
 induction ks with
 |nil=>exact absurd rfl h
 |cons k ks ih=>
  cases ks with
  |nil=>simp[jls]
  |cons k2 ks=>
   rw[List.flatMap_cons,ih (by simp)]
   rfl
end
theorem jnD (k:List Int)(h:TL k):smD .join "," (.lst (k.map fun x=>.str (mk (nT x))))=.ok (.dat (.str (mk (tT k)))):=by
 have:=jdz (s:=[44]) (ps:=k.map nT) (B:=16) (fun p hp=>by
  obtain⟨x,hx,rfl⟩:=List.mem_map.mp hp;exact(jbG (h.2.2 x hx)).2) (by have:=h.2.1;rw[jve];simp only[jvf,jvr];omega)
 rw[List.map_map]at this;exact this
theorem jlv {G:Calls}{A B C D':Sl}(w:List Nat)(k:List Int)(h:TL k)(hw:w.length<=10000):evSs G U W jbb [A,B,C,D',.dat (.str (mk w)),.dat (tu k)]=.ok (.nx [A,B,C,D',.dat (.str (mk (w++43::tT k))),.dat (tu k)]):=by
 have e:evE G U jcM [A,B,C,D',.dat (.str (mk w)),.dat (tu k)]=.ok (.tmp (.l (k.map fun x=>.str (mk (nT x)))),[A,B,C,D',.dat (.str (mk w)),.dat (tu k)]):=by
  refine jaB (h:=D.int) (g:=fun x=>.str (mk (nT x))) (xs:=k) rfl (fun x hx=>?_) fun s=>rfl;show evE G U (.blt .str (.var 0)) [.dat (.int x)]=_;simp_arith[bf_str (h.2.2 x hx)];rfl
 have hl:=jdY h;have e1:evE G U (.bin .add (.var 4) (.lit (.str "+"))) [A,B,C,D',.dat (.str (mk w)),.dat (tu k)]=.ok (.dat (.str (mk (w++[43]))),[A,B,C,D',.dat (.str (mk w)),.dat (tu k)]):=jdZ (x:=w) (y:=[43]) (jaz rfl) jam (by simp only[jvf,jvr];omega)
 have e2:=jdZ e1 (jqO jam e rfl (jnD k h)) (by rw[jvj,jvf,jvr];omega)
 unfold jbb;rw[jad (jci e2 (by simp))]
 simp only[evSs,List.set_cons_succ,List.set_cons_zero,jvv,List.singleton_append]
theorem jf8 {G:Calls}{A B C D':Sl}:∀(ks:List (List Int)) (w:List Nat) (s:Sl),(∀k∈ks,TL k)->w.length + 290 * ks.length<=10000->∃t,jaY (fun x r=>(putT [5] true x r).bind fun r'=>evSs G U W jbb r') (ks.map tu) [A,B,C,D',.dat (.str (mk w)),s]=.ok (.nx [A,B,C,D',.dat (.str (mk (w++ks.flatMap fun k=>43::tT k))),t])
 |[],w,s,_,_=>⟨s,by simp only[List.map_nil,jaY,List.flatMap_nil,jvu]⟩
 |k::ks,w,s,h,hw=>by
  rw[jvf]at hw;have hk:=h k ju7;have hl:=jdY hk;obtain⟨t,e⟩:=jf8 (G:=G) (A:=A) (B:=B) (C:=C) (D':=D') ks (w++43::tT k) (.dat (tu k)) (fun j hj=>h j (ju6 _ hj)) (by rw[jvj,jvf];omega)
  refine⟨t,?_⟩;simp only[jvc,jaY];have e2:(putT [5] true (tu k) [A,B,C,D',.dat (.str (mk w)),s])=.ok [A,B,C,D',.dat (.str (mk w)),.dat (tu k)]:=rfl;rw[e2,R.bind_ok',jlv w k hk (by omega),R.bind_ok']
  simp only[];rw[e,List.flatMap_cons,jvv]
noncomputable def jaw (t:List Nat):D:=.str (mk t)
theorem jnE {G:Calls}{A s4 s5:Sl}(acc:List (List Nat))(f:Fan)(h:LF f)(ha:acc.length<=1000):∃t4 t5,evSs G U W jbc [A,.own (.l (acc.map jaw)) false false,.dat (tu f.1),.dat (.tup (f.2.map tu)),s4,s5]=.ok (.nx [A,.own (.l ((acc++[fT f]).map jaw)) false false,.dat (tu f.1),.dat (.tup (f.2.map tu)),t4,t5]):=by
 have h5:=h.2;obtain⟨t,e⟩:=jf8 (W:=W) (G:=G) (A:=A) (B:=.own (.l (acc.map jaw)) false false) (C:=.dat (tu f.1)) (D':=.dat (.tup (f.2.map tu))) (f.1::f.2) [] s5 h.1 (by rw[jvf];simp only[jvr];omega)
 rw[List.nil_append,jnC (by simp)]at e
 refine⟨.dat (.str (mk (43::fT f))),t,?_⟩;have ff:ja6 (1 + (f.2.map tu).length)=true:=jao (by rw[jve];omega)
 unfold jbc;rw[jad (ρ':=[A,.own (.l (acc.map jaw)) false false,.dat (tu f.1),.dat (.tup (f.2.map tu)),.dat (.str (mk [])),s5]) (by simp_arith[];rfl)]
 rw[jad (ρ':=[A,.own (.l (acc.map jaw)) false false,.dat (tu f.1),.dat (.tup (f.2.map tu)),.dat (.str (mk (43::fT f))),t]) (by
  have hi:evI G U (.seq (.bin .add (.tup (.cons (.var 2) .nil)) (.var 3))) [A,.own (.l (acc.map jaw)) false false,.dat (tu f.1),.dat (.tup (f.2.map tu)),.dat (.str (mk [])),s5]=.ok ((f.1::f.2).map tu,[],[A,.own (.l (acc.map jaw)) false false,.dat (tu f.1),.dat (.tup (f.2.map tu)),.dat (.str (mk [])),s5]):=by
   simp_arith[ff,jvc,List.singleton_append]
  rw[evS,hi,R.bind_ok'];simp only[];rw[e];rfl)]
 have hl:=jcU h;have es:jiv (.str (mk (43::fT f))) (some 1) none=.ok (.dat (jaw (fT f))):=by
  rw[jgW,if_pos (jao (by rw[jav,jvf];omega))]
  have:=jc0 (43::fT f) 1 (by simp)
  exact congrArg (fun z=>R.ok (Vl.dat (D.str z))) this
 have fa:ja6 ((acc.map jaw).length + 1)=true:=jao (by rw[jve];omega)
 rw[jad (ρ':=[A,.own (.l ((acc++[fT f]).map jaw)) false false,.dat (tu f.1),.dat (.tup (f.2.map tu)),.dat (.str (mk (43::fT f))),t]) (by
  simp only[evS,evE,evO,jvp,jvq,R.bind_ok',jab,es,jdb,fa,if_true,List.set_cons_succ,List.set_cons_zero,List.map_append,jvc,List.map_nil])]
 simp only[evSs]
theorem jf9 {G:Calls}{A:Sl}:∀(fs:List Fan) (acc:List (List Nat)) (s2 s3 s4 s5:Sl),(∀f∈fs,LF f)->acc.length + fs.length<=1000->∃t2 t3 t4 t5,jaY (fun x r=>(putT [2,3] false x r).bind fun r'=>evSs G U W jbc r') (fs.map fD) [A,.own (.l (acc.map jaw)) false false,s2,s3,s4,s5]=.ok (.nx [A,.own (.l ((acc++fs.map fT).map jaw)) false false,t2,t3,t4,t5])
 |[],acc,s2,s3,s4,s5,_,_=>⟨s2,s3,s4,s5,by simp only[List.map_nil,jaY,jvu]⟩
 |f::fs,acc,s2,s3,s4,s5,h,ha=>by
  rw[jvf]at ha;obtain⟨u4,u5,e1⟩:=jnE (W:=W) (G:=G) (A:=A) (s4:=s4) (s5:=s5) acc f (h f ju7) (by omega)
  obtain⟨t2,t3,t4,t5,e⟩:=jf9 (G:=G) (A:=A) fs (acc++[fT f]) (.dat (tu f.1)) (.dat (.tup (f.2.map tu))) u4 u5 (fun g hg=>h g (ju6 _ hg)) (by simp only[jvj,jvf,jvr];omega)
  refine⟨t2,t3,t4,t5,?_⟩;simp only[jvc,jaY];have e2:(putT [2,3] false (fD f) [A,.own (.l (acc.map jaw)) false false,s2,s3,s4,s5])=.ok [A,.own (.l (acc.map jaw)) false false,.dat (tu f.1),.dat (.tup (f.2.map tu)),s4,s5]:=rfl;rw[e2,R.bind_ok',e1,R.bind_ok'];simp only[];rw[e,jvv];rfl
theorem jsv (f:Fan):jbw (fD f)=true/\deep (fD f)<=3:=by
 have h1:jbw (tu f.1)=true:=by simp only[tu,jbw,jcF]
 have h2:deep (tu f.1)=1:=by simp only[tu,deep,jcG]
 have h3:=jfe f.2;simp only[fD,jsV,jbw,cmpDs,h1,jfd,deep,deeps,h2,Bool.and_self,true_and];have h4:deeps (f.2.map tu) + 1<=2:=by omega
 exact Nat.succ_le_succ (Nat.max_le.mpr ⟨by decide,Nat.max_le.mpr ⟨h4,Nat.zero_le _⟩⟩)
theorem jhd:∀(fs:List Fan),cmpDs (fs.map fD)=true/\deeps (fs.map fD)<=3
 |[]=>⟨rfl,Nat.zero_le _⟩
 |f::fs=>by
  obtain⟨h1,h2⟩:=jsv f;obtain⟨h3,h4⟩:=jhd fs;simp only[jvc,cmpDs,deeps,h1,h3,Bool.and_self,true_and];exact Nat.max_le.mpr ⟨h2,h4⟩
theorem jcV (fs:List Fan)(h:∀f∈fs,LF f)(hn:fs.length<=48):CD W (n + 1) 14 [.dat (sD fs)]=.ok (.dat (.str (mk (txt fs))),[.no]):=by
 rw[CD,jal (d:=⟨1,6,jbo⟩) rfl rfl];show (evSs (jaa U W P n) U W jbo [.dat (sD fs),.no,.no,.no,.no,.no]).bind (jbq 1)=_;unfold jbo;cases fs with
 |nil=>rfl
 |cons f fs=>
  have ec:eqR (sD (f::fs)) (.tup [])=.ok false:=by
   obtain⟨h1,h2⟩:=jhd (f::fs);unfold eqR sD;rw[if_pos]
   ·rfl
   ·have h5:deep (D.tup ((f::fs).map fD))<=12:=by rw[deep];omega
    have h6:jbw (D.tup ((f::fs).map fD))=true:=by rw[jbw];exact h1
    rw[h6,decide_eq_true h5];rfl
  have t:evT (jaa U W P n) U (.cmp .eq (.var 0) (.tup .nil)) [.dat (sD (f::fs)),.no,.no,.no,.no,.no]=.ok (false,[.dat (sD (f::fs)),.no,.no,.no,.no,.no]):=by
   simp_arith[ec]
  obtain⟨t2,t3,t4,t5,e⟩:=jf9 (W:=W) (G:=jaa U W P n) (A:=.dat (sD (f::fs))) (f::fs) [] .no .no .no .no h (by simp only[jvr,jvf]at hn ⊢;omega)
  rw[jad (jbh t)];rw[jad (ρ':=[.dat (sD (f::fs)),.own (.l ([].map jaw)) false false,.no,.no,.no,.no]) (by simp_arith[];rfl)]
  rw[jad (ρ':=[.dat (sD (f::fs)),.own (.l (((f::fs).map fT).map jaw)) false false,t2,t3,t4,t5]) (by
   have hi:evI (jaa U W P n) U (.seq (.var 0)) [.dat (sD (f::fs)),.own (.l ([].map jaw)) false false,.no,.no,.no,.no]=.ok ((f::fs).map fD,[],[.dat (sD (f::fs)),.own (.l ([].map jaw)) false false,.no,.no,.no,.no]):=rfl;rw[evS,hi,R.bind_ok'];simp only[];rw[e];rfl)]
  have ej:=jnB (f::fs) h hn;have em:(((f::fs).map fT).map jaw)=(f::fs).map fun f=>.str (mk (fT f)):=by rw[List.map_map];rfl
  rw[<-em]at ej;rw[jaG (jbB (jqO (v:=.slot 1) jam (by rw[evE];rfl) rfl ej))]
  rfl
end Law
namespace Law
open PySem L2 DJ Tx
variable {W n:Nat}
theorem jh5 {t:List Nat}(h:t.length<=100000):bfD .len (.str (mk t))=.ok (.dat (.int t.length)):=by
 rw[jhT,if_pos (jao (by rw[jav];omega)),jav]
theorem jot {c:Nat}(h:48<=c/\c<=57):Txt.contains "0123456789" ⟨#[c]⟩=true:=by
 rw[jjV,decide_eq_true_eq];have e:("0123456789":Str).cps.toList=[48,49,50,51,52,53,54,55,56,57]:=by decide +kernel
 rw[e];simp only[ju8,jvw,or_false];omega
theorem jsw {c:Nat}(h:c≠48):((⟨#[c]⟩:Str) == "0")=false:=by
 rw[beq_eq_false_iff_ne];intro z;have z:(⟨#[c]⟩:Str)=⟨#[48]⟩:=z;injection z with z
 injection z with z
 injection z with z
 exact h z
theorem jlw (x:Int)(h:Nm x):CD W (n + 1) 6 [.dat (.str (mk (nT x)))]=.ok (.dat (.int x),[.no]):=by
 rw[CD,jal (d:=⟨1,2,jas⟩) rfl rfl];show (evSs (jaa U W P n) U W jas [.dat (.str (mk (nT x))),.no]).bind (jbq 1)=_;obtain⟨hl1,hl2⟩:=jbG h;obtain⟨h0,h1⟩:=h;have hm:x.toNat<=1000000000000000:=by omega
 have hd:∀c∈nT x,48<=c/\c<=57:=jbd x.toNat;obtain⟨c,r,ec,hc⟩:=jb5 x.toNat;have ec:nT x=c::r:=ec;have ei:PySem.intText? (mk (nT x))=some x:=by
  have:=jnz hm;rw[show ((x.toNat:Nat):Int)=x by omega]at this
  exact this
 have hz:c=48->nT x=[48]:=fun z=>by unfold nT;rw[hc z];exact jcz (by decide)
 generalize nT x=t at *;have hln:=jh5 (t:=t) (by omega)
 have t1:evT (jaa U W P n) U (.or (.cmp .lt (.blt .len (.var 0)) (.lit (.int 1))) (.cmp .gt (.blt .len (.var 0)) (.lit (.int 16)))) [.dat (.str (mk t)),.no]=.ok (false,[.dat (.str (mk t)),.no]):=by
  refine jsT ?_ ?_
  ·simp only[evT,evE,jvp,R.bind_ok',jab,hln,jgD,decide_eq_false (show ¬ ((t.length:Int) < 1)by omega)]
  ·simp only[evT,evE,jvp,R.bind_ok',jab,hln,jdW,decide_eq_false (show ¬ ((16:Int) < t.length)by omega)]
 have e2:evE (jaa U W P n) U jbn [.dat (.str (mk t)),.no]=.ok (.tmp (.l (t.map fun _=>.bl true)),[.dat (.str (mk t)),.no]):=by
  refine jaB (h:=fun c=>D.str ⟨#[c]⟩) (g:=fun _=>.bl true) (xs:=t) ?_ (fun c hc=>?_) fun s=>rfl
  ·simp only[evI,evE,jvp,R.bind_ok',jdc];rw[if_pos (jao (by rw[jav];omega))]
  ·show evE (jaa U W P n) U (.cmp .isin (.var 0) (.lit (.str "0123456789"))) [.dat (.str ⟨#[c]⟩)]=.ok (.dat (.bl true),[.dat (.str ⟨#[c]⟩)]);simp only[evE,jvp,R.bind_ok',jab,cmD,inX,jot (hd c hc)]
 have t2:=jgA (jnv (g:=fun _=>true) e2);rw[List.all_eq_true.mpr fun _ _=>rfl]at t2;have hx:jka (.str (mk t)) (.int 0)=.ok (.str ⟨#[c]⟩):=by
  rw[jgE];unfold atC;rw[if_pos (jao (by rw[jav];omega)),ec]
  rfl
 have t3:evT (jaa U W P n) U (.and (.cmp .eq (.idx (.var 0) (.lit (.int 0))) (.lit (.str "0"))) (.cmp .ne (.var 0) (.lit (.str "0")))) [.dat (.str (mk t)),.no]=.ok (false,[.dat (.str (mk t)),.no]):=by
  by_cases z:c=48
  ·rw[hz z];rfl
  ·simp only[evT,evE,jvp,R.bind_ok',jab,hx,jgC,jiM,jsw z,jvQ,if_false]
 have e4:evE (jaa U W P n) U (.blt .int (.var 0)) [.dat (.str (mk t)),.no]=.ok (.dat (.int x),[.dat (.str (mk t)),.no]):=by
  simp only[evE,jvp,R.bind_ok',jab,bfD];rw[if_pos (by rw[jav];omega),ei]
  rfl
 have t5:evT (jaa U W P n) U (.cmp .gt (.var 1) (.lit (.int 1000000000000000))) [.dat (.str (mk t)),.dat (.int x)]=.ok (false,[.dat (.str (mk t)),.dat (.int x)]):=by
  simp only[evT,evE,jvp,jvq,R.bind_ok',jab,jdW,decide_eq_false (show ¬ ((1000000000000000:Int) < x)by omega)]
 unfold jas;rw[jad (jbh t1),jad (jbh t2),jad (jbh t3),jad (jci e4 (by simp))]
 show (evSs (jaa U W P n) U W _ [.dat (.str (mk t)),.dat (.int x)]).bind (jbq 1)=_;rw[jad (jbh t5)];rfl
theorem jhe {G:Calls}{ρ:Rho}{z:Str}{c:Nat}{s:List Nat}{ps:List (List Nat)}(h0:ρ[0]?=some (.dat (.str (mk (jls (c::s) ps)))))(hz:z=mk (c::s))(hp:ps≠[])(hf:∀p∈ps,c ∉ p)(hs:∀x∈c::s,x < 256)(hl:(jls (c::s) ps).length<=100000)(hn:ps.length<=1000):evI G U (.seq (.sm .splt (.var 0) (.lit (.str z)))) ρ=.ok (ps.map jaw,[],ρ):=by
 have e:smD .splt (mk (jls (c::s) ps)) (.str z)=.ok (.tmp (.l (ps.map jaw))):=by
  rw[jgV,hz,jfg c s hp hf hs,List.map_map,if_pos]
  ·rfl
  ·rw[jao (by rw[jav];omega),jao (by rw[jve];omega),jav]
   rfl
 have e1:=jqO (f:=.splt) (jaz (G:=G) h0) (jam (d:=.str z)) rfl e;rw[evI,e1];rfl
theorem jdh {x:Int}{c:Nat}(h:c < 48\/57 < c):c ∉ nT x:=fun z=>by
 have:=jbd x.toNat c z;omega
theorem jh6 {k:List Int}{c:Nat}(h:c∈tT k):c=44\/(48<=c/\c<=57):=by
 rcases jbp h with h | ⟨p,hp,h⟩
 ·exact .inl (List.mem_singleton.mp h)
 ·obtain⟨x,_,rfl⟩:=List.mem_map.mp hp;exact .inr (jbd x.toNat c h)
theorem jdl {f:Fan}{c:Nat}(h:c∈fT f):c=43\/c=44\/(48<=c/\c<=57):=by
 rcases jbp h with h | ⟨p,hp,h⟩
 ·exact .inl (List.mem_singleton.mp h)
 ·obtain⟨x,_,rfl⟩:=List.mem_map.mp hp;exact .inr (jh6 h)
theorem jqq {l:Nat}(k:List Int)(h1:1<=l)(h4:l<=4)(h:GT l k):CD W (n + 2) 7 [.dat (.str (mk (tT k)))]=.ok (.dat (tu k),[.no]):=by
 rw[CD,jal (d:=⟨1,1,jat⟩) rfl rfl];have hl:=jdY (h.tl h1 h4);have e:evE (jaa U W P (n + 1)) U jbu [.dat (.str (mk (tT k)))]=.ok (.tmp (.l (k.map D.int)),[.dat (.str (mk (tT k)))]):=by
  refine jaB (h:=fun x=>jaw (nT x)) (g:=D.int) (xs:=k) ?_ (fun x hx=>?_) fun s=>rfl
  ·have:=jhe (G:=jaa U W P (n + 1)) (ρ:=[.dat (.str (mk (tT k)))]) (z:=",") (c:=44) (s:=[]) (ps:=k.map nT) rfl rfl (by
    intro z;have:=h.1;rw[List.map_eq_nil_iff.mp z]at this;simp at this;omega) (fun p hp=>by obtain⟨x,_,rfl⟩:=List.mem_map.mp hp;exact jdh (.inl (by decide))) (by decide) (by show (tT k).length<=_;omega) (by rw[jve,h.1];omega)
   rw[List.map_map]at this;exact this
  ·exact jah [.str (mk (nT x))] rfl (jlw (W:=W) (n:=n) x (h.2 x hx))
 show (evSs (jaa U W P (n + 1)) U W jat [.dat (.str (mk (tT k)))]).bind (jbq 1)=_;unfold jat;rw[jaG (jbB (jdV e))];rfl
theorem jqr {l:Nat}(f:Fan)(h1:1<=l)(h4:l<=4)(h:GF l f):CD W (n + 3) 8 [.dat (.str (mk (fT f)))]=.ok (.dat (fD f),[.no]):=by
 rw[CD,jal (d:=⟨1,2,jaF⟩) rfl rfl];have hl:=jcU (h.lf h1 h4);have h5:=h.2.2.2;have e:evE (jaa U W P (n + 2)) U jb1 [.dat (.str (mk (fT f))),.no]=.ok (.tmp (.l ((f.1::f.2).map tu)),[.dat (.str (mk (fT f))),.no]):=by
  refine jaB (h:=fun k=>jaw (tT k)) (g:=tu) (xs:=f.1::f.2) ?_ (fun k hk=>?_) fun s=>rfl
  ·have:=jhe (G:=jaa U W P (n + 2)) (ρ:=[.dat (.str (mk (fT f))),.no]) (z:="+") (c:=43) (s:=[]) (ps:=(f.1::f.2).map tT) rfl rfl (by simp) (fun p hp=>by
    obtain⟨k,_,rfl⟩:=List.mem_map.mp hp;exact fun z=>by have:=jh6 z;omega) (by decide) (by show (fT f).length<=_;omega) (by rw[jve,jvf];omega)
   rw[List.map_map]at this;exact this
  ·exact jah [.str (mk (tT k))] rfl (jqq (W:=W) (n:=n) k h1 h4 (h.mem k hk))
 show (evSs (jaa U W P (n + 2)) U W jaF [.dat (.str (mk (fT f))),.no]).bind (jbq 1)=_;unfold jaF;rw[jad (jgz e (by simp))]
 show (evSs (jaa U W P (n + 2)) U W _ [.dat (.str (mk (fT f))),.own (.l ((f.1::f.2).map tu)) false false]).bind (jbq 1)=_;have hc:cut ((f.1::f.2).map tu) (some (1:Int)) none=f.2.map tu:=by
  rw[jbl];exact congrArg _ (jbO (f.1::f.2) 1)
 have ha:DJ.atI ((f.1::f.2).map tu) 0=.ok (tu f.1):=rfl;generalize (f.1::f.2).map tu=xs at *;simp_arith[hc,ha];rfl
theorem jou:∀{ks:List (List Int)},Srt ks->joo ks=true
 |[],_=>rfl
 |[_],_=>rfl
 |a::b::r,h=>by
  obtain⟨h1,h2⟩:=List.pairwise_cons.mp h;have:=jou h2;unfold joo at this ⊢;show (DJ.lexLt a b && _)=true;rw[h1 b ju7];exact this
theorem GT.tal {l:Nat}{k:List Int}(h:GT l k):Tal l k:=⟨h.1,fun x hx=>(h.2 x hx).1⟩
theorem jnF {l:Nat}{f:Fan}(h1:1<=l)(h4:l<=4)(h:GF l f):jgg (fD f)=true:=by
 show (jjl (tu f.1) && jb4 (.tup (f.2.map tu)) (jgf (tu f.1)))=true;rw[jli h.1.tal h1 h4,jcy,h.1.1];simp only[jb4,jha,jou h.2.2.1,Bool.and_true,Bool.true_and];refine List.all_eq_true.mpr fun x hx=>?_;obtain⟨k,hk,rfl⟩:=List.mem_map.mp hx;obtain⟨a1,a2⟩:=h.2.1 k hk;unfold jdX;rw[jnw a1.tal h1 h4,jf6,a2];rfl
theorem jlx {l:Nat}{f:Fan}(h:GF l f):fl (fD f)=l:=by
 show jgf (tu f.1)=l;rw[jcy,h.1.1]
theorem jnG {l:Nat}{fs:List Fan}(h1:1<=l)(h4:l<=4)(h:∀f∈fs,GF l f):jf7 (sD fs)=true:=by
 simp only[sD,jf7,jvP];refine⟨List.all_eq_true.mpr fun x hx=>?_,List.all_eq_true.mpr fun x hx=>?_⟩
 ·obtain⟨f,hf,rfl⟩:=List.mem_map.mp hx;exact jnF h1 h4 (h f hf)
 ·obtain⟨f,hf,rfl⟩:=List.mem_map.mp hx;cases fs with
  |nil=>cases hf
  |cons g gs=>
   rw[jvc,List.headD_cons,jlx (h f hf),jlx (h g ju7)];exact beq_self_eq_true _
theorem jsx (f:Fan):san (fD f)=true:=by
 simp only[fD,jsV,san,sans,jon,Bool.true_and,Bool.and_true];exact jfb fun x hx=>by
  obtain⟨k,_,rfl⟩:=List.mem_map.mp hx;exact jon k
theorem jov (fs:List Fan):san (sD fs)=true:=by
 simp only[sD,san];exact jfb fun x hx=>by
  obtain⟨f,_,rfl⟩:=List.mem_map.mp hx;exact jsx f
theorem jqs {l:Nat}(fs:List Fan)(h1:1<=l)(h4:l<=4)(h:∀f∈fs,GF l f)(hn:fs.length<=48):CD W (n + 7) 9 [.dat (.str (mk (txt fs)))]=.ok (.dat (sD fs),[.no]):=by
 rw[CD,jal (d:=⟨1,2,jaM⟩) rfl rfl];cases fs with
 |nil=>rfl
 |cons f fs=>
  have hl:=jos (fun g hg=>(h g hg).lf h1 h4) hn;have ht:txt (f::fs)=sT (f::fs):=rfl;rw[ht];have ne:(mk (sT (f::fs)) == "-")=false:=by
   rw[beq_eq_false_iff_ne];intro z;have z:mk (sT (f::fs))=mk [45]:=z;have z:sT (f::fs)=[45]:=by
    have:=congrArg (fun s:Str=>s.cps.toList) z;exact this
   have:45∈sT (f::fs):=by rw[z];exact List.mem_singleton.mpr rfl
   rcases jbp this with q | ⟨p,hp,q⟩
   ·simp at q
   ·obtain⟨g,_,rfl⟩:=List.mem_map.mp hp;have:=jdl q;omega
  have t1:evT (jaa U W P (n + 6)) U (.cmp .eq (.var 0) (.lit (.str "-"))) [.dat (.str (mk (sT (f::fs)))),.no]=.ok (false,[.dat (.str (mk (sT (f::fs)))),.no]):=by
   simp only[evT,evE,jvp,R.bind_ok',jab,jgC,jiM,ne]
  have e:evE (jaa U W P (n + 6)) U jb2 [.dat (.str (mk (sT (f::fs)))),.no]=.ok (.tmp (.l ((f::fs).map fD)),[.dat (.str (mk (sT (f::fs)))),.no]):=by
   refine jaB (h:=fun g=>jaw (fT g)) (g:=fD) (xs:=f::fs) ?_ (fun g hg=>?_) fun s=>rfl
   ·have:=jhe (G:=jaa U W P (n + 6)) (ρ:=[.dat (.str (mk (sT (f::fs)))),.no]) (z:=" | ") (c:=32) (s:=[124,32]) (ps:=(f::fs).map fT) rfl rfl (by simp) (fun p hp=>by
     obtain⟨k,_,rfl⟩:=List.mem_map.mp hp;exact fun z=>by have:=jdl z;omega) (by decide) (by show (sT (f::fs)).length<=_;omega) (by rw[jve];omega)
    rw[List.map_map]at this;exact this
   ·exact jah [.str (mk (fT g))] rfl (jqr (W:=W) (n:=n + 3) g h1 h4 (h g hg))
  have t2:evT (jaa U W P (n + 6)) U (.not (.call 5 [] (.cons (.var 1) .nil))) [.dat (.str (mk (sT (f::fs)))),.dat (sD (f::fs))]=.ok (!jf7 (sD (f::fs)),[.dat (.str (mk (sT (f::fs)))),.dat (sD (f::fs))]):=jgA (jeV (ds:=[sD (f::fs)]) rfl (jsr (W:=W) (n:=n) _ (jov _)));rw[jnG h1 h4 h]at t2;show (evSs (jaa U W P (n + 6)) U W jaM [.dat (.str (mk (sT (f::fs)))),.no]).bind (jbq 1)=_;unfold jaM;rw[jad (jbh t1),jad (jci (jdV e) (by simp))]
  show (evSs (jaa U W P (n + 6)) U W _ [.dat (.str (mk (sT (f::fs)))),.dat (sD (f::fs))]).bind (jbq 1)=_;rw[jad (jbh t2)];rfl
end Law
namespace Law
open PySem L2 DJ Tx
variable {W n:Nat}
theorem jqt (c:Int)(k:Nat):jlS c k<=1000000000000000:=by
 unfold jlS;simp only[Int.reducePow,Int.reduceAdd];split
 ·have:=Int.emod_lt_of_pos (nh c k * 1001) (show (0:Int) < 1000000000000001 by decide)
  omega
 ·split
  ·have:=Int.emod_lt_of_pos (nh c k / 3) (show (0:Int) < 10 by decide)
   omega
  ·split <;> decide
theorem jly (c:Int)(l:Nat):GT l (jjm c l):=⟨by simp[jjm],fun x hx=>by
 obtain⟨k,_,rfl⟩:=List.mem_map.mp hx;exact⟨jqp c k,jqt c k⟩⟩
noncomputable def cF (c:Int)(k:Nat):Int:=c / 10 + (k:Int) * k * 7919
noncomputable def stF (c:Int)(l k:Nat):List Int:=if c / 5 % 2=0 then (jjm (cF c k) l).map (· % 3)else jjm (cF c k) l
theorem jow (c:Int)(l k:Nat):GT l (stF c l k):=by
 unfold stF;have h:=jly (cF c k) l;split
 ·refine⟨by rw[jve];exact h.1,fun x hx=>?_⟩
  obtain⟨y,_,rfl⟩:=List.mem_map.mp hx;have h1:=Int.emod_nonneg y (show (3:Int)≠0 by decide)
  have h2:=Int.emod_lt_of_pos y (show (0:Int) < 3 by decide)
  exact⟨h1,by omega⟩
 ·exact h
noncomputable def jaE (c:Int)(l:Nat):List (List Int):=(List.range (c % 5).toNat).map (stF c l)
noncomputable def jjs (l:Nat)(c:Int):Fan:=(jjm (c / 3) l,kp (jaE c l))
theorem jga:∀(ks acc:List (List Int)),(ks.foldl keep acc).length<=acc.length + ks.length
 |[],acc=>jvK _
 |k::ks,acc=>by
  have h1:=jga ks (keep acc k);have h2:=jh1 acc k;rw[List.foldl_cons,jvf];omega
theorem jqu (l:Nat)(c:Int):GF l (jjs l c):=by
 have hs:∀k∈jaE c l,GT l k:=fun k hk=>by
  obtain⟨j,_,rfl⟩:=List.mem_map.mp hk;exact jow c l j
 obtain⟨h1,h2⟩:=jlo (jbH (jaE c l)) [] List.Pairwise.nil (fun a ha=>by cases ha) (jln _)
 refine⟨jly _ _,fun k hk=>?_,h1,?_⟩
 ·rcases (h2 k).mp hk with z | ⟨z,s⟩
  ·cases z
  ·have hk:=hs k (sort_mem.mp z);exact⟨hk,(jlp fun x hx=>(hk.2 x hx).1).2.mp s⟩
 ·have:=jga (jbH (jaE c l)) [];rw[jff]at this;have e:(jaE c l).length<=4:=by
   unfold jaE;rw[jve,List.length_range];have:=Int.emod_lt_of_pos c (show (0:Int) < 5 by decide)
   omega
  simp only[jvr]at this;exact jvN this (by omega)
section
variable {S0 S2:Sl}
theorem e0B {G:Calls}{c x:Int}{ρ:Rho}(h3:ρ[3]?=some (.dat (.int c)))(h5:ρ[5]?=some (.dat (.int x)))(bk:-18446744073709551616 < x/\x < 18446744073709551616):evE G U (.bin .add (.bin .fdiv (.var 3) (.lit (.int 10))) (.bin .mul (.bin .mul (.var 5) (.var 5)) (.lit (.int 7919)))) ρ=.ok (.dat (.int (c / 10 + x * x * 7919)),ρ):=by
 simp_arith[h3,h5,if_pos (Or.inl bk)]
theorem juW {G:Calls}{ρ:Rho}(t:List Int)(h:ρ[6]?=some (.dat (tu t))):evE G U jb3 ρ=.ok (.tmp (.l (t.map fun x=>.int (x % 3))),ρ):=by
 refine jaB (h:=D.int) (g:=fun x=>.int (x % 3)) (xs:=t) (by simp only[evI,evE,h,R.bind_ok'];rfl) (fun x _=>?_) fun s=>rfl
 show evE G U (.bin .mod (.var 0) (.lit (.int 3))) [.dat (.int x)]=_;simp_arith[];rfl
theorem jjn (c:Int)(l k:Nat)(hl:l<=4)(hk:k < 6)(acc:List (List Int))(ha:acc.length<=100)(s6:Sl):evSs (jaa U W P (n + 2)) U W ja3 [S0,.dat (.int l),S2,.dat (.int c),.own (.l (acc.map tu)) false false,.dat (.int k),s6]=.ok (.nx [S0,.dat (.int l),S2,.dat (.int c),.own (.l ((acc++[stF c l k]).map tu)) false false,.dat (.int k),.dat (tu (stF c l k))]):=by
 have bk:-18446744073709551616 < (k:Int)/\(k:Int) < 18446744073709551616:=by omega
 have e0:evE (jaa U W P (n + 2)) U (.bin .add (.bin .fdiv (.var 3) (.lit (.int 10))) (.bin .mul (.bin .mul (.var 5) (.var 5)) (.lit (.int 7919)))) [S0,.dat (.int l),S2,.dat (.int c),.own (.l (acc.map tu)) false false,.dat (.int k),s6]=.ok (.dat (.int (cF c k)),[S0,.dat (.int l),S2,.dat (.int c),.own (.l (acc.map tu)) false false,.dat (.int k),s6]):=by
  exact e0B (x:=(k:Int)) rfl rfl bk
 have e1:=jah (G:=jaa U W P (n + 2)) (U:=U) (k:=11) (ρ:=[S0,.dat (.int l),S2,.dat (.int c),.own (.l (acc.map tu)) false false,.dat (.int k),s6]) (es:=.cons (.bin .add (.bin .fdiv (.var 3) (.lit (.int 10))) (.bin .mul (.bin .mul (.var 5) (.var 5)) (.lit (.int 7919)))) (.cons (.var 1) .nil)) [.int (cF c k),.int l] (as2 e0 rfl) (jhY (W:=W) (n:=n) (cF c k) l hl);unfold ja3;rw[jad (jci e1 (by simp))]
 show evSs (jaa U W P (n + 2)) U W _ [S0,.dat (.int l),S2,.dat (.int c),.own (.l (acc.map tu)) false false,.dat (.int k),.dat (tu (jjm (cF c k) l))]=_;have ff:ja6 ((acc.map tu).length + 1)=true:=jao (by rw[jve];omega)
 have fin:∀t:List Int,evSs (jaa U W P (n + 2)) U W (.cons (.app 4 (.var 6)) .nil) [S0,.dat (.int l),S2,.dat (.int c),.own (.l (acc.map tu)) false false,.dat (.int k),.dat (tu t)]=.ok (.nx [S0,.dat (.int l),S2,.dat (.int c),.own (.l ((acc++[t]).map tu)) false false,.dat (.int k),.dat (tu t)]):=fun t=>by
  simp_arith[ff]
  rw[List.map_append];rfl
 unfold stF;generalize jjm (cF c k) l=t;have tt:evT (jaa U W P (n + 2)) U (.cmp .eq (.bin .mod (.bin .fdiv (.var 3) (.lit (.int 5))) (.lit (.int 2))) (.lit (.int 0))) [S0,.dat (.int l),S2,.dat (.int c),.own (.l (acc.map tu)) false false,.dat (.int k),.dat (tu t)]=.ok (c / 5 % 2 == 0,[S0,.dat (.int l),S2,.dat (.int c),.own (.l (acc.map tu)) false false,.dat (.int k),.dat (tu t)]):=by simp_arith[]
 by_cases h:c / 5 % 2=0
 ·rw[show (c / 5 % 2 == 0)=true from by simpa using h]at tt
  rw[if_pos h];have e2:evE (jaa U W P (n + 2)) U jb3 [S0,.dat (.int l),S2,.dat (.int c),.own (.l (acc.map tu)) false false,.dat (.int k),.dat (tu t)]=.ok (.tmp (.l (t.map fun x=>.int (x % 3))),[S0,.dat (.int l),S2,.dat (.int c),.own (.l (acc.map tu)) false false,.dat (.int k),.dat (tu t)]):=juW t rfl;rw[jad (ρ':=[S0,.dat (.int l),S2,.dat (.int c),.own (.l (acc.map tu)) false false,.dat (.int k),.dat (tu (t.map (· % 3)))]) (by
   rw[jg8 tt];simp only[if_true];rw[jad (jci (jdV e2) (by simp))]
   simp only[evSs,tu,List.map_map,List.set_cons_succ,List.set_cons_zero];rfl)]
  exact fin _
 ·rw[show (c / 5 % 2 == 0)=false from by simpa using h]at tt
  rw[if_neg h];rw[jad (jbh tt)];exact fin _
theorem jer (c:Int)(l:Nat)(hl:l<=4):∀(ks:List Nat) (acc:List (List Int)) (s5 s6:Sl),(∀k∈ks,k < 6)->acc.length + ks.length<=100->∃t5 t6,jaY (fun x r=>(putT [5] true x r).bind fun r'=>evSs (jaa U W P (n + 2)) U W ja3 r') (ks.map fun (j:Nat)=>D.int j) [S0,.dat (.int l),S2,.dat (.int c),.own (.l (acc.map tu)) false false,s5,s6]=.ok (.nx [S0,.dat (.int l),S2,.dat (.int c),.own (.l ((acc++ks.map (stF c l)).map tu)) false false,t5,t6])
 |[],acc,s5,s6,_,_=>⟨s5,s6,by simp[jaY]⟩
 |k::ks,acc,s5,s6,hk,ha=>by
  rw[jvf]at ha;obtain⟨t5,t6,e⟩:=jer c l hl ks (acc++[stF c l k]) (.dat (.int k)) (.dat (tu (stF c l k))) (fun j hj=>hk j (ju6 _ hj)) (by simp;omega)
  refine⟨t5,t6,?_⟩;simp only[jvc,jaY];have e2:(putT [5] true (.int k) [S0,.dat (.int l),S2,.dat (.int c),.own (.l (acc.map tu)) false false,s5,s6])=.ok [S0,.dat (.int l),S2,.dat (.int c),.own (.l (acc.map tu)) false false,.dat (.int k),s6]:=rfl;rw[e2,R.bind_ok',jjn c l k hl (hk k ju7) acc (by omega),R.bind_ok']
  simp only[];rw[e,jvv];rfl
end
theorem jnH {S0:Sl}(c:Int)(l:Nat)(h1:1<=l)(hl:l<=4)(acc:List Fan)(ha:acc.length<=100)(s4 s5 s6:Sl):∃t4 t5 t6,evSs (jaa U W P (n + 2)) U W jbt [S0,.dat (.int l),.own (.l (acc.map fD)) false false,.dat (.int c),s4,s5,s6]=.ok (.nx [S0,.dat (.int l),.own (.l ((acc++[jjs l c]).map fD)) false false,.dat (.int c),t4,t5,t6]):=by
 have hm:c % 5=(((c % 5).toNat:Nat):Int):=by omega
 obtain⟨t5,t6,e⟩:=jer (W:=W) (n:=n) (S0:=S0) (S2:=.own (.l (acc.map fD)) false false) c l hl (List.range (c % 5).toNat) [] s5 s6 (fun k hk=>by have:=List.mem_range.mp hk;omega) (by simp;omega)
 rw[List.nil_append]at e;have e:jaY (fun x r=>(putT [5] true x r).bind fun r'=>evSs (jaa U W P (n + 2)) U W ja3 r') ((List.range (c % 5).toNat).map fun (j:Nat)=>D.int j) [S0,.dat (.int l),.own (.l (acc.map fD)) false false,.dat (.int c),.own (.l []) false false,s5,s6]=.ok (.nx [S0,.dat (.int l),.own (.l (acc.map fD)) false false,.dat (.int c),.own (.l ((jaE c l).map tu)) false false,t5,t6]):=e;refine⟨.dat (.lst ((jaE c l).map tu)),t5,t6,?_⟩;have hs:∀k∈jaE c l,k.length=l:=fun k hk=>by
  obtain⟨j,_,rfl⟩:=List.mem_map.mp hk;exact(jow c l j).1
 have hsl:(jaE c l).length<=4:=by
  unfold jaE;rw[jve,List.length_range];omega
 unfold jbt;rw[jad (ρ':=[S0,.dat (.int l),.own (.l (acc.map fD)) false false,.dat (.int c),.own (.l []) false false,s5,s6]) (by simp_arith[])]
 rw[jad (ρ':=[S0,.dat (.int l),.own (.l (acc.map fD)) false false,.dat (.int c),.own (.l ((jaE c l).map tu)) false false,t5,t6]) (by
  have hr:jfB (.int (c % 5))=.ok ((List.range (c % 5).toNat).map fun (j:Nat)=>D.int j):=by
   conv=>lhs;rw[hm]
   exact jhU _ (by omega)
  simp_arith[hr,e,jeH,unlk])]
 have ef:evE (jaa U W P (n + 2)) U (.bin .fdiv (.var 3) (.lit (.int 3))) [S0,.dat (.int l),.own (.l (acc.map fD)) false false,.dat (.int c),.own (.l ((jaE c l).map tu)) false false,t5,t6]=.ok (.dat (.int (c / 3)),[S0,.dat (.int l),.own (.l (acc.map fD)) false false,.dat (.int c),.own (.l ((jaE c l).map tu)) false false,t5,t6]):=by simp_arith[]
 have e1:=jah (G:=jaa U W P (n + 2)) (U:=U) (k:=11) (ρ:=[S0,.dat (.int l),.own (.l (acc.map fD)) false false,.dat (.int c),.own (.l ((jaE c l).map tu)) false false,t5,t6]) (es:=.cons (.bin .fdiv (.var 3) (.lit (.int 3))) (.cons (.var 1) .nil)) [.int (c / 3),.int l] (as2 ef rfl) (jhY (W:=W) (n:=n) (c / 3) l hl);have eg:=jss (W:=W) (n:=n + 1) (jjm (c / 3) l) (jaE c l) (fun k hk z=>by have:=hs k hk;rw[z]at this;simp at this;omega) (by omega)
 have e2:evE (jaa U W P (n + 2)) U (.call 12 [] (.cons (.call 11 [] (.cons (.bin .fdiv (.var 3) (.lit (.int 3))) (.cons (.var 1) .nil))) (.cons (.var 4) .nil))) [S0,.dat (.int l),.own (.l (acc.map fD)) false false,.dat (.int c),.own (.l ((jaE c l).map tu)) false false,t5,t6]=.ok (.dat (fD (jjs l c)),[S0,.dat (.int l),.own (.l (acc.map fD)) false false,.dat (.int c),.dat (.lst ((jaE c l).map tu)),t5,t6]):=by
  rw[evE,as2 (v2:=.slot 4) e1 (by rw[evE];rfl),R.bind_ok']
  have ep:jaO [] [Vl.dat (tu (jjm (c / 3) l)),.slot 4] [S0,.dat (.int l),.own (.l (acc.map fD)) false false,.dat (.int c),.own (.l ((jaE c l).map tu)) false false,t5,t6]=.ok ([.dat (tu (jjm (c / 3) l)),.dat (.lst ((jaE c l).map tu))],[none,none],[S0,.dat (.int l),.own (.l (acc.map fD)) false false,.dat (.int c),.dat (.lst ((jaE c l).map tu)),t5,t6]):=rfl;rw[ep,R.bind_ok'];show (CD W (n + 2) 12 [.dat (tu (jjm (c / 3) l)),.dat (.lst ((jaE c l).map tu))]).bind _=_;rw[eg];rfl
 have ff:ja6 ((acc.map fD).length + 1)=true:=jao (by rw[jve];omega)
 rw[jad (ρ':=[S0,.dat (.int l),.own (.l ((acc++[jjs l c]).map fD)) false false,.dat (.int c),.dat (.lst ((jaE c l).map tu)),t5,t6]) (by
  rw[evS];simp only[jvp,jvq,e2,R.bind_ok',jdb,ff,if_true,List.set_cons_succ,List.set_cons_zero,List.map_append,jvc,List.map_nil])]
 simp only[evSs]
theorem jlz {S0:Sl}(l:Nat)(h1:1<=l)(hl:l<=4):∀(cs:List Int) (acc:List Fan) (s3 s4 s5 s6:Sl),acc.length + cs.length<=100->∃t3 t4 t5 t6,jaY (fun x r=>(putT [3] true x r).bind fun r'=>evSs (jaa U W P (n + 2)) U W jbt r') (cs.map D.int) [S0,.dat (.int l),.own (.l (acc.map fD)) false false,s3,s4,s5,s6]=.ok (.nx [S0,.dat (.int l),.own (.l ((acc++cs.map (jjs l)).map fD)) false false,t3,t4,t5,t6])
 |[],acc,s3,s4,s5,s6,_=>⟨s3,s4,s5,s6,by simp only[List.map_nil,jaY,jvu]⟩
 |c::cs,acc,s3,s4,s5,s6,ha=>by
  rw[jvf]at ha;obtain⟨u4,u5,u6,e1⟩:=jnH (W:=W) (n:=n) (S0:=S0) c l h1 hl acc (by omega) s4 s5 s6
  obtain⟨t3,t4,t5,t6,e⟩:=jlz (S0:=S0) l h1 hl cs (acc++[jjs l c]) (.dat (.int c)) u4 u5 u6 (by simp only[jvj,jvf,jvr];omega)
  refine⟨t3,t4,t5,t6,?_⟩;simp only[jvc,jaY];have e2:(putT [3] true (.int c) [S0,.dat (.int l),.own (.l (acc.map fD)) false false,s3,s4,s5,s6])=.ok [S0,.dat (.int l),.own (.l (acc.map fD)) false false,.dat (.int c),s4,s5,s6]:=rfl;rw[e2,R.bind_ok',e1,R.bind_ok'];simp only[];rw[e,jvv];rfl
theorem jsy (cs:List Int)(l:Nat)(h1:1<=l)(hl:l<=4)(hc:cs.length<=48):CD W (n + 3) 13 [.dat (.lst (cs.map D.int)),.dat (.int l)]=.ok (.dat (sD (cs.map (jjs l))),[.no,.no]):=by
 rw[CD,jal (d:=⟨2,7,jbE⟩) rfl rfl];obtain⟨t3,t4,t5,t6,e⟩:=jlz (W:=W) (n:=n) (S0:=.dat (.lst (cs.map D.int))) l h1 hl cs [] .no .no .no .no (by simp only[jvr];omega)
 rw[List.nil_append]at e;show (evSs (jaa U W P (n + 2)) U W jbE [.dat (.lst (cs.map D.int)),.dat (.int l),.no,.no,.no,.no,.no]).bind (jbq 2)=_;unfold jbE;rw[jad (ρ':=[.dat (.lst (cs.map D.int)),.dat (.int l),.own (.l ([].map fD)) false false,.no,.no,.no,.no]) (by simp_arith[];rfl)]
 rw[jad (ρ':=[.dat (.lst (cs.map D.int)),.dat (.int l),.own (.l ((cs.map (jjs l)).map fD)) false false,t3,t4,t5,t6]) (by simp_arith[e,jeH,unlk])]
 simp_arith[]
 rfl
end Law
namespace Law
open PySem L2 DJ Tx
variable {W n:Nat}
section
variable {G:Calls}{ρ ρ1:Rho}{s:S}{ss:Ss}{t e:E}{c k:Nat}{d:D}
theorem jdm (h:evS G U W s ρ=.err c):evSs G U W (.cons s ss) ρ=.err c:=by simp only[evSs,h,R.bind_err']
theorem jlA (h:evT G U t ρ=.ok (true,ρ)):evS G U W (.ife t (.cons (.rai k (.lit d)) .nil) .nil) ρ=.err k:=by
 simp only[evS,h,R.bind_ok',if_true,evSs,evE,R.bind_err']
end
theorem jgb {α β:Type}{f:D->Rho->R (Option D×Rho)}{h:α->D}{t:β->α}{g:β->D}{Ok:β->Prop}{ρ:Rho}{c:Nat}:∀{xs:List α},(∀x∈xs,f (h x) ρ=.err c\/∃b,Ok b/\x=t b/\f (h x) ρ=.ok (some (g b),ρ))->compGo f (xs.map h) ρ=.err c\/∃bs:List β,(∀b∈bs,Ok b)/\xs=bs.map t/\compGo f (xs.map h) ρ=.ok (bs.map g,ρ)
 |[],_=>.inr ⟨[],(fun _ z=>by cases z),rfl,rfl⟩
 |x::xs,k=>by
  rcases k x ju7 with k1 | ⟨b,ob,hb,k1⟩
  ·exact .inl (by simp only[jvc,compGo,k1,R.bind_err'])
  ·rcases jgb (xs:=xs) (fun y hy=>k y (ju6 _ hy))with k2 | ⟨bs,obs,hbs,k2⟩
   ·exact .inl (by simp only[jvc,compGo,k1,k2,R.bind_ok',R.bind_err'])
   ·refine .inr ⟨b::bs,fun y hy=>?_,by rw[hb,hbs];rfl,by simp only[jvc,compGo,k1,k2,R.bind_ok']⟩
    rcases List.mem_cons.mp hy with rfl | hy
    ·exact ob
    ·exact obs y hy
theorem jd0 {α β:Type}{G:Calls}{elt:E}{caps:List Nat}{it:DJ.It}{ρ:Rho}{c:Nat}{xs:List α}{h:α->D}{t:β->α}{g:β->D}{Ok:β->Prop}(hi:evI G U it ρ=.ok (xs.map h,[],ρ))
  (hE:∀x∈xs,evE G U elt (.dat (h x)::jcn ρ caps)=.err c\/∃b,Ok b/\x=t b/\evE G U elt (.dat (h x)::jcn ρ caps)=.ok (.dat (g b),.dat (h x)::jcn ρ caps))
  (hB:∀s,jaN caps 1 (s::jcn ρ caps) ρ=ρ):evE G U (.comp elt [0] true 1 caps it .none true) ρ=.err c\/∃bs:List β,(∀b∈bs,Ok b)/\xs=bs.map t/\evE G U (.comp elt [0] true 1 caps it .none true) ρ=.ok (.tmp (.l (bs.map g)),ρ):=by
 simp only[evE,hi,R.bind_ok'];rcases jgb (f:=fun x r=>(putT [0] true x (jd7 1 caps r)).bind fun r'=>(evE G U elt r').bind fun p=>(toD p.1 p.2).bind fun q=>.ok (some q.1,jaN caps 1 q.2 r)) (h:=h) (t:=t) (g:=g) (Ok:=Ok) (ρ:=ρ) (c:=c) (xs:=xs) (fun x hx=>by
  rcases hE x hx with e | ⟨b,ob,hb,e⟩
  ·exact .inl (by simp only[putT,jd7,List.replicate,List.cons_append,List.nil_append,List.set_cons_zero,R.bind_ok',e,R.bind_err'])
  ·exact .inr ⟨b,ob,hb,by simp only[putT,jd7,List.replicate,List.cons_append,List.nil_append,List.set_cons_zero,R.bind_ok',e,toD,hB]⟩)with k | ⟨bs,ob,hb,k⟩
 ·exact .inl (by rw[k];rfl)
 ·exact .inr ⟨bs,ob,hb,by rw[k];rfl⟩
theorem jnI (m:Nat):∀(t:List Nat),t.length<=m->(∀c∈t,48<=c/\c<=57)->t≠[]->(t.head?=some 48->t=[48])->jd3 (NumText.digitsVal t)=t:=by
 induction m with
 |zero=>exact fun t hm _ hn _=>absurd (List.length_eq_zero_iff.mp (Nat.le_zero.mp hm)) hn
 |succ m ih=>
  intro t hm hd hn h0;obtain⟨r,c,rfl⟩:∃r c,t=r++[c]:=⟨t.dropLast,t.getLast hn,(List.dropLast_concat_getLast hn).symm⟩;have hc:=hd c (by simp)
  have ev:NumText.digitsVal (r++[c])=NumText.digitsVal r * 10 + (c - 48):=by
   unfold NumText.digitsVal;rw[List.foldl_append];rfl
  rw[ev];cases hr:r with
  |nil=>
   show jd3 (0 * 10 + (c - 48))=[c];rw[jcz (by omega),show 48 + (0 * 10 + (c - 48))=c by omega]
  |cons a r'=>
   have ha:a≠48:=fun z=>by
    have:=h0 (by rw[hr,z];rfl)
    rw[hr]at this;simp at this
   have ih:=ih (a::r') (by rw[hr,jvj]at hm;exact Nat.le_of_succ_le_succ hm) (fun x hx=>hd x (by rw[hr];exact jvs _ hx)) (by simp) (fun z=>by simp at z;exact absurd z ha)
   have hp:NumText.digitsVal (a::r')≠0:=fun z=>by
    rw[z,jcz (by decide)]at ih
    injection ih with ih
    exact ha ih.symm
   generalize NumText.digitsVal (a::r')=v at *;rw[jhc (by omega),show (v * 10 + (c - 48)) / 10=v by omega,ih,show 48 + (v * 10 + (c - 48)) % 10=c by omega]
theorem jsz (c:Nat):Txt.contains "0123456789" ⟨#[c]⟩=decide (48<=c/\c<=57):=by
 by_cases h:48<=c/\c<=57
 ·rw[decide_eq_true h];exact jot h
 ·rw[decide_eq_false h,jjV,decide_eq_false];have e:("0123456789":Str).cps.toList=[48,49,50,51,52,53,54,55,56,57]:=by decide +kernel
  rw[e];simp only[ju8,jvw,or_false];omega
theorem jtY {t:List Nat}(ht:t.length<=100000):CD W (n + 1) 6 [.dat (.str (mk t))]=.err 3\/∃i,Nm i/\t=nT i:=by
 by_cases hN:∃i,Nm i/\t=nT i
 ·exact .inr hN
 refine .inl ?_;rw[CD,jal (d:=⟨1,2,jas⟩) rfl rfl];show (evSs (jaa U W P n) U W jas [.dat (.str (mk t)),.no]).bind (jbq 1)=_;have hln:=jh5 (t:=t) (by omega)
 have t1:evT (jaa U W P n) U (.or (.cmp .lt (.blt .len (.var 0)) (.lit (.int 1))) (.cmp .gt (.blt .len (.var 0)) (.lit (.int 16)))) [.dat (.str (mk t)),.no]=.ok (decide ((t.length:Int) < 1) || decide ((16:Int) < t.length),[.dat (.str (mk t)),.no]):=by
  refine jsm ?_ fun _=>?_
  ·simp only[evT,evE,jvp,R.bind_ok',jab,hln,jgD]
  ·simp only[evT,evE,jvp,R.bind_ok',jab,hln,jdW]
 unfold jas;cases hb1:(decide ((t.length:Int) < 1) || decide ((16:Int) < t.length))with
 |true=>
  rw[hb1]at t1;rw[jdm (jlA t1)];rfl
 |false=>
  rw[hb1]at t1;rw[Bool.or_eq_false_iff,decide_eq_false_iff_not,decide_eq_false_iff_not]at hb1;have e2:evE (jaa U W P n) U jbn [.dat (.str (mk t)),.no]=.ok (.tmp (.l (t.map fun c=>.bl (decide (48<=c/\c<=57)))),[.dat (.str (mk t)),.no]):=by
   refine jaB (h:=fun c=>D.str ⟨#[c]⟩) (g:=fun c=>.bl (decide (48<=c/\c<=57))) (xs:=t) ?_ (fun c hc=>?_) fun s=>rfl
   ·simp only[evI,evE,jvp,R.bind_ok',jdc];rw[if_pos (jao (by rw[jav];omega))]
   ·show evE (jaa U W P n) U (.cmp .isin (.var 0) (.lit (.str "0123456789"))) [.dat (.str ⟨#[c]⟩)]=.ok (.dat (.bl (decide (48<=c/\c<=57))),[.dat (.str ⟨#[c]⟩)]);simp only[evE,jvp,R.bind_ok',jab,cmD,inX,jsz]
  have t2:=jgA (jnv (g:=fun c=>decide (48<=c/\c<=57)) e2);rw[jad (jbh t1)];cases hb2:t.all (fun c=>decide (48<=c/\c<=57))with
  |false=>
   rw[hb2]at t2;rw[jdm (jlA t2)];rfl
  |true=>
   rw[hb2]at t2;have hd:∀c∈t,48<=c/\c<=57:=fun c hc=>of_decide_eq_true (List.all_eq_true.mp hb2 c hc);rw[jad (jbh t2)];cases ec:t with
   |nil=>rw[ec]at hb1;simp at hb1
   |cons c r=>
    have hx:jka (.str (mk (c::r))) (.int 0)=.ok (.str ⟨#[c]⟩):=by
     rw[jgE];unfold atC;rw[if_pos (jao (by rw[jav,<-ec];omega))]
     rfl
    rw[ec]at ht hb1 hd hN;by_cases hz:c=48/\r≠[]
    ·obtain⟨rfl,hr⟩:=hz;have ne:(mk (48::r) == "0")=false:=by
      rw[beq_eq_false_iff_ne];intro z;have z:48::r=[48]:=congrArg (fun s:Str=>s.cps.toList) (show mk (48::r)=mk [48] from z);injection z with _ z
      exact hr z
     have t3:evT (jaa U W P n) U (.and (.cmp .eq (.idx (.var 0) (.lit (.int 0))) (.lit (.str "0"))) (.cmp .ne (.var 0) (.lit (.str "0")))) [.dat (.str (mk (48::r))),.no]=.ok (true,[.dat (.str (mk (48::r))),.no]):=by
      have:((⟨#[48]⟩:Str) == "0")=true:=rfl;simp only[evT,evE,jvp,R.bind_ok',jab,hx,jgC,jqf,jiM,this,ne,if_true,Bool.not_false]
     rw[jdm (jlA t3)];rfl
    ·have t3:evT (jaa U W P n) U (.and (.cmp .eq (.idx (.var 0) (.lit (.int 0))) (.lit (.str "0"))) (.cmp .ne (.var 0) (.lit (.str "0")))) [.dat (.str (mk (c::r))),.no]=.ok (false,[.dat (.str (mk (c::r))),.no]):=by
      by_cases z:c=48
      ·have hr:r=[]:=by
        by_cases q:r=[]
        ·exact q
        ·exact absurd ⟨z,q⟩ hz
       rw[z,hr];rfl
      ·simp only[evT,evE,jvp,R.bind_ok',jab,hx,jgC,jiM,jsw z,jvQ,if_false]
     have ei:=intText_digits (x:=mk (c::r)) (fun x hx=>hd x hx) (by simp) (by rw[jav];omega)
     have ei:PySem.intText? (mk (c::r))=some ((NumText.digitsVal (c::r):Nat):Int):=ei;have hback:=jnI _ (c::r) (jvK _) hd (by simp) (fun z=>by
      have:c=48:=by simpa using z
      have hr:r=[]:=by
       by_cases q:r=[]
       ·exact q
       ·exact absurd ⟨this,q⟩ hz
      rw[this,hr])
     generalize NumText.digitsVal (c::r)=m at ei hback;have hm:1000000000000000 < m:=by
      by_cases q:m<=1000000000000000
      ·exact absurd ⟨(m:Int),⟨by omega,by omega⟩,by unfold nT;rw[Int.toNat_natCast,hback]⟩ hN
      ·omega
     have e4:evE (jaa U W P n) U (.blt .int (.var 0)) [.dat (.str (mk (c::r))),.no]=.ok (.dat (.int m),[.dat (.str (mk (c::r))),.no]):=by
      simp only[evE,jvp,R.bind_ok',jab,bfD];rw[if_pos (by rw[jav];omega),ei]
      rfl
     have t5:evT (jaa U W P n) U (.cmp .gt (.var 1) (.lit (.int 1000000000000000))) [.dat (.str (mk (c::r))),.dat (.int m)]=.ok (true,[.dat (.str (mk (c::r))),.dat (.int m)]):=by
      simp only[evT,evE,jvp,jvq,R.bind_ok',jab,jdW,decide_eq_true (show ((1000000000000000:Int) < m)by omega)]
     rw[jad (jbh t3),jad (jci e4 (by simp))]
     show (evSs (jaa U W P n) U W _ [.dat (.str (mk (c::r))),.dat (.int m)]).bind (jbq 1)=_;rw[jdm (jlA t5)];rfl
end Law
namespace Law
open PySem L2 DJ Tx
variable {W n:Nat}
theorem jox {a b:List Nat}(h:mk a=mk b):a=b:=congrArg (fun s:Str=>s.cps.toList) h
theorem jgc {s:List Nat}:∀{ps:List (List Nat)},(∀p∈ps,p.length<=(jls s ps).length)/\(s≠[]->ps.length<=(jls s ps).length + 1)
 |[]=>⟨(fun p h=>by cases h),(fun _=>by simp)⟩
 |[x]=>⟨(fun p h=>by rw[List.mem_singleton.mp h];simp[jls]),(fun _=>by simp)⟩
 |x::y::r=>by
  obtain⟨h1,h2⟩:=jgc (s:=s) (ps:=y::r);have e:(jls s (x::y::r)).length=x.length + (s.length + (jls s (y::r)).length):=by
   show (x++(s++jls s (y::r))).length=_;rw[jvj,jvj]
  rw[e];refine⟨fun p hp=>?_,fun hs=>?_⟩
  ·rcases List.mem_cons.mp hp with rfl | hp
   ·omega
   ·have:=h1 p hp;omega
  ·have:=h2 hs;have:1<=s.length:=by cases s with | nil=>exact absurd rfl hs | cons _ _=>simp
   rw[jvf];omega
theorem jqv (t:List Nat){s:List Nat}(hs:s≠[]):∃ps,ps≠[]/\Txt.split (mk t) (mk s)=ps.map mk/\jls s ps=t:=by
 have e:=StrLaws.join_split (mk t) (mk s);have em:Txt.split (mk t) (mk s)=((Txt.split (mk t) (mk s)).map fun x=>x.cps.toList).map mk:=by
  rw[List.map_map];exact((List.map_congr_left fun x _=>show mk x.cps.toList=x by unfold mk;rw[Array.toArray_toList]).trans (List.map_id _)).symm
 refine⟨_,fun z=>?_,em,?_⟩
 ·have z:=List.map_eq_nil_iff.mp z;rw[z]at e;have e:([]:List Nat)=t:=congrArg (fun s:Str=>s.cps.toList) e;subst e;have:Txt.split (mk []) (mk s)=[mk []]:=if_pos (by
   rw[jav,jav];cases s with
   |nil=>exact absurd rfl hs
   |cons _ _=>simp)
  rw[this]at z;cases z
 ·have:=jlu s ((Txt.split (mk t) (mk s)).map fun x=>x.cps.toList);rw[<-em]at this;have q:Txt.join (mk s) (Txt.split (mk t) (mk s))=mk t:=(StrLaws.glued_eq_join _ _).trans e;rw[q]at this;exact(jox this).symm
theorem jqw {G:Calls}{ρ:Rho}{z:Str}{s t:List Nat}(h0:ρ[0]?=some (.dat (.str (mk t))))(hz:z=mk s)(hs:s≠[])(hl:t.length<=100000):∃ps,ps≠[]/\jls s ps=t/\(∀p∈ps,p.length<=100000)/\evI G U (.seq (.sm .splt (.var 0) (.lit (.str z)))) ρ=.ok (ps.map jaw,[],ρ):=by
 obtain⟨ps,hp,e1,e2⟩:=jqv t hs;obtain⟨g1,g2⟩:=jgc (s:=s) (ps:=ps);rw[e2]at g1 g2;have g2:=g2 hs;refine⟨ps,hp,e2,fun p hp=>jvN (g1 p hp) hl,?_⟩;have e:smD .splt (mk t) (.str z)=.ok (.tmp (.l (ps.map jaw))):=by
  rw[jgV,hz,e1,List.map_map,if_pos]
  ·rfl
  ·rw[jao (by rw[jav];omega),jao (by rw[jve];omega),jav]
   cases s with
   |nil=>exact absurd rfl hs
   |cons _ _=>rfl
 have e1:=jqO (f:=.splt) (jaz (G:=G) h0) (jam (d:=.str z)) rfl e;rw[evI,e1];rfl
noncomputable def TO (k:List Int):Prop:=k≠[]/\∀x∈k,Nm x
noncomputable def FO (f:Fan):Prop:=∀k∈f.1::f.2,TO k
theorem joy {α β:Type}{f:α->β}{l:List α}{m:List β}(h:m≠[])(e:m=l.map f):l≠[]:=fun z=>h (by rw[e,z];rfl)
theorem jtZ {t:List Nat}(ht:t.length<=100000):CD W (n + 2) 7 [.dat (.str (mk t))]=.err 3\/∃k,TO k/\t=tT k/\CD W (n + 2) 7 [.dat (.str (mk t))]=.ok (.dat (tu k),[.no]):=by
 rw[CD,jal (d:=⟨1,1,jat⟩) rfl rfl];show (evSs (jaa U W P (n + 1)) U W jat [.dat (.str (mk t))]).bind (jbq 1)=_\/∃k,_/\_/\(evSs (jaa U W P (n + 1)) U W jat [.dat (.str (mk t))]).bind (jbq 1)=_;obtain⟨ps,hp,ej,hl,ei⟩:=jqw (G:=jaa U W P (n + 1)) (ρ:=[.dat (.str (mk t))]) (z:=",") (s:=[44]) (t:=t) rfl rfl (by simp) ht
 have key:=jd0 (G:=jaa U W P (n + 1)) (elt:=.call 6 [] (.cons (.var 0) .nil)) (caps:=[]) (ρ:=[.dat (.str (mk t))]) (c:=3) (t:=nT) (g:=D.int) (Ok:=Nm) ei (fun p hp=>by
  rcases jtY (W:=W) (n:=n) (hl p hp)with h | ⟨i,hi,rfl⟩
  ·exact .inl (jcE [.str (mk p)] rfl h)
  ·exact .inr ⟨i,hi,rfl,jah [.str (mk (nT i))] rfl (jlw (W:=W) (n:=n) i hi)⟩) fun s=>rfl
 unfold jat jbu;rcases key with h | ⟨k,hk,he,h⟩
 ·refine .inl ?_;rw[jdm (by rw[evS,evE,h];rfl)]
  rfl
 ·refine .inr ⟨k,⟨joy hp he,hk⟩,by rw[<-ej,he];rfl,?_⟩
  rw[jaG (jbB (jdV h))];rfl
theorem jt0 {t:List Nat}(ht:t.length<=100000):CD W (n + 3) 8 [.dat (.str (mk t))]=.err 3\/∃f,FO f/\t=fT f/\CD W (n + 3) 8 [.dat (.str (mk t))]=.ok (.dat (fD f),[.no]):=by
 rw[CD,jal (d:=⟨1,2,jaF⟩) rfl rfl];show (evSs (jaa U W P (n + 2)) U W jaF [.dat (.str (mk t)),.no]).bind (jbq 1)=_\/∃f,_/\_/\(evSs (jaa U W P (n + 2)) U W jaF [.dat (.str (mk t)),.no]).bind (jbq 1)=_;obtain⟨ps,hp,ej,hl,ei⟩:=jqw (G:=jaa U W P (n + 2)) (ρ:=[.dat (.str (mk t)),.no]) (z:="+") (s:=[43]) (t:=t) rfl rfl (by simp) ht
 have key:=jd0 (G:=jaa U W P (n + 2)) (elt:=.call 7 [] (.cons (.var 0) .nil)) (caps:=[]) (ρ:=[.dat (.str (mk t)),.no]) (c:=3) (t:=tT) (g:=tu) (Ok:=TO) ei (fun p hp=>by
  rcases jtZ (W:=W) (n:=n) (hl p hp)with h | ⟨k,hk,e,h⟩
  ·exact .inl (jcE [.str (mk p)] rfl h)
  ·exact .inr ⟨k,hk,e,jah [.str (mk p)] rfl h⟩) fun s=>rfl
 unfold jaF jb1;rcases key with h | ⟨ks,hk,he,h⟩
 ·refine .inl ?_;rw[jdm (by rw[evS,h];rfl)]
  rfl
 ·obtain⟨b,ss,rfl⟩:∃b ss,ks=b::ss:=by
   cases ks with
   |nil=>exact absurd he hp
   |cons b ss=>exact⟨b,ss,rfl⟩
  refine .inr ⟨(b,ss),hk,by rw[<-ej,he];rfl,?_⟩
  rw[jad (jgz h (by simp))]
  show (evSs (jaa U W P (n + 2)) U W _ [.dat (.str (mk t)),.own (.l ((b::ss).map tu)) false false]).bind (jbq 1)=_;have hc:cut ((b::ss).map tu) (some (1:Int)) none=ss.map tu:=by
   rw[jbl];exact congrArg _ (jbO (b::ss) 1)
  have ha:DJ.atI ((b::ss).map tu) 0=.ok (tu b):=rfl;show (evSs (jaa U W P (n + 2)) U W _ [.dat (.str (mk t)),.own (.l ((b::ss).map tu)) false false]).bind (jbq 1)=.ok (.dat (.tup [tu b,.tup (ss.map tu)]),[.no]);generalize (b::ss).map tu=xs at *;simp_arith[hc,ha];rfl
theorem jt1 {t:List Nat}(ht:t.length<=100000):CD W (n + 7) 9 [.dat (.str (mk t))]=.err 3\/t=[45]\/∃fs,fs≠[]/\(∀f∈fs,FO f)/\t=sT fs/\jf7 (sD fs)=true:=by
 by_cases h45:t=[45]
 ·exact .inr (.inl h45)
 have ne:(mk t == "-")=false:=by
  rw[beq_eq_false_iff_ne];exact fun z=>h45 (jox (show mk t=mk [45] from z))
 have t1:evT (jaa U W P (n + 6)) U (.cmp .eq (.var 0) (.lit (.str "-"))) [.dat (.str (mk t)),.no]=.ok (false,[.dat (.str (mk t)),.no]):=by
  simp only[evT,evE,jvp,R.bind_ok',jab,jgC,jiM,ne]
 rw[CD,jal (d:=⟨1,2,jaM⟩) rfl rfl];show (evSs (jaa U W P (n + 6)) U W jaM [.dat (.str (mk t)),.no]).bind (jbq 1)=_\/_;obtain⟨ps,hp,ej,hl,ei⟩:=jqw (G:=jaa U W P (n + 6)) (ρ:=[.dat (.str (mk t)),.no]) (z:=" | ") (s:=[32,124,32]) (t:=t) rfl rfl (by simp) ht
 have key:=jd0 (G:=jaa U W P (n + 6)) (elt:=.call 8 [] (.cons (.var 0) .nil)) (caps:=[]) (ρ:=[.dat (.str (mk t)),.no]) (c:=3) (t:=fT) (g:=fD) (Ok:=FO) ei (fun p hp=>by
  rcases jt0 (W:=W) (n:=n + 3) (hl p hp)with h | ⟨k,hk,e,h⟩
  ·exact .inl (jcE [.str (mk p)] rfl h)
  ·exact .inr ⟨k,hk,e,jah [.str (mk p)] rfl h⟩) fun s=>rfl
 unfold jaM jb2;rw[jad (jbh t1)];rcases key with h | ⟨fs,hk,he,h⟩
 ·refine .inl ?_;rw[jdm (by rw[evS,evE,h];rfl)]
  rfl
 ·cases hb:jf7 (sD fs)with
  |true=>exact .inr (.inr ⟨fs,joy hp he,hk,by rw[<-ej,he];rfl,hb⟩)
  |false=>
   refine .inl ?_;have t2:evT (jaa U W P (n + 6)) U (.not (.call 5 [] (.cons (.var 1) .nil))) [.dat (.str (mk t)),.dat (sD fs)]=.ok (!jf7 (sD fs),[.dat (.str (mk t)),.dat (sD fs)]):=jgA (jeV (ds:=[sD fs]) rfl (jsr (W:=W) (n:=n) _ (jov _)));rw[hb]at t2;rw[jad (jci (jdV h) (by simp))]
   show (evSs (jaa U W P (n + 6)) U W _ [.dat (.str (mk t)),.dat (sD fs)]).bind (jbq 1)=_;rw[jdm (jlA t2)];rfl
noncomputable def Bad (t:List Nat):Prop:=t≠[45]/\∀fs,fs≠[]->(∀f∈fs,FO f)->jf7 (sD fs)=true->t≠sT fs
theorem jt2 {t:List Nat}(ht:t.length<=100000)(h:Bad t):CD W (n + 7) 9 [.dat (.str (mk t))]=.err 3:=by
 rcases jt1 (W:=W) (n:=n) ht with q | q | ⟨fs,h1,h2,h3,h4⟩
 ·exact q
 ·exact absurd q h.1
 ·exact absurd h3 (h.2 fs h1 h2 h4)
theorem jsA {fs:List Fan}{c:Nat}(h:c∈sT fs):c=32\/c=124\/c=43\/c=44\/(48<=c/\c<=57):=by
 rcases jbp h with h | ⟨p,hp,h⟩
 ·simp only[ju8,jvw,or_false]at h;omega
 ·obtain⟨x,_,rfl⟩:=List.mem_map.mp hp;exact .inr (.inr (jdl h))
theorem jce {t:List Nat}{c:Nat}(hc:c∈t)(h:¬ (c=32\/c=124\/c=43\/c=44\/(48<=c/\c<=57)))(h45:t≠[45]):Bad t:=⟨h45,fun fs _ _ _ z=>h (jsA (by rw[<-z];exact hc))⟩
theorem jhf (s:List Nat)(c:Nat)(k:Nat)(hs:s.count c=k):∀{ps:List (List Nat)},(∀p∈ps,c ∉ p)->(jls s ps).count c=(ps.length - 1) * k
 |[],_=>by simp[jls]
 |[x],h=>by
  simp only[jls,jvu,jvf,jvr];rw[List.count_eq_zero_of_not_mem (h x ju7)];simp
 |x::y::r,h=>by
  have ih:=jhf s c k hs (ps:=y::r) fun p hp=>h p (ju6 _ hp);show (x++(s++jls s (y::r))).count c=_;rw[List.count_append,List.count_append,ih,List.count_eq_zero_of_not_mem (h x ju7),hs];simp only[jvf,Nat.add_sub_cancel,Nat.add_mul,Nat.one_mul];omega
theorem joz (fs:List Fan):(sT fs).count 32=2 * (sT fs).count 124:=by
 have h1:(sT fs).count 32=((fs.map fT).length - 1) * 2:=jhf [32,124,32] 32 2 (by decide) fun p hp=>by
  obtain⟨f,_,rfl⟩:=List.mem_map.mp hp;exact fun z=>by have:=jdl z;omega
 have h2:(sT fs).count 124=((fs.map fT).length - 1) * 1:=jhf [32,124,32] 124 1 (by decide) fun p hp=>by
  obtain⟨f,_,rfl⟩:=List.mem_map.mp hp;exact fun z=>by have:=jdl z;omega
 omega
theorem jlB {t:List Nat}(h:t.count 32≠2 * t.count 124):Bad t:=⟨fun z=>by rw[z]at h;exact h (by decide),fun fs _ _ _ z=>by rw[z]at h;exact h (joz fs)⟩
noncomputable def Ends (l:List Nat):Prop:=(∃c r,l=c::r/\48<=c/\c<=57)/\∃r c,l=r++[c]/\48<=c/\c<=57
theorem jdA {s:List Nat}:∀{ps:List (List Nat)},ps≠[]->(∀p∈ps,Ends p)->Ends (jls s ps)
 |[],h,_=>absurd rfl h
 |[x],_,h=>by
  show Ends (x++[]);rw[jvu];exact h x ju7
 |x::y::r,_,h=>by
  obtain⟨⟨c,r1,e1,h1⟩,_⟩:=h x ju7;obtain⟨_,r2,d,e2,h2⟩:=jdA (s:=s) (ps:=y::r) (by simp) fun p hp=>h p (ju6 _ hp)
  show Ends (x++(s++jls s (y::r)));refine⟨⟨c,r1++(s++jls s (y::r)),by rw[e1];rfl,h1⟩,x++(s++r2),d,by rw[e2];simp only[jvv],h2⟩
theorem jqx (x:Int):Ends (nT x):=by
 have hd:∀c∈nT x,48<=c/\c<=57:=jbd x.toNat;obtain⟨c,r,e,_⟩:=jb5 x.toNat;have e:nT x=c::r:=e;refine⟨⟨c,r,e,hd c (by rw[e];exact ju7)⟩,(nT x).dropLast,(nT x).getLast (by rw[e];simp),(List.dropLast_concat_getLast _).symm,hd _ (List.getLast_mem _)⟩
theorem jqy {k:List Int}(h:k≠[]):Ends (tT k):=jdA (by simpa using h) fun p hp=>by
 obtain⟨x,_,rfl⟩:=List.mem_map.mp hp;exact jqx x
theorem jqz {f:Fan}(h:FO f):Ends (fT f):=jdA (by simp) fun p hp=>by
 obtain⟨k,hk,rfl⟩:=List.mem_map.mp hp;exact jqy (h k hk).1
theorem jhg {fs:List Fan}(hn:fs≠[])(h:∀f∈fs,FO f):Ends (sT fs):=jdA (by simpa using hn) fun p hp=>by
 obtain⟨f,hf,rfl⟩:=List.mem_map.mp hp;exact jqz (h f hf)
theorem jfh {t:List Nat}(h45:t≠[45])(h:¬ Ends t):Bad t:=⟨h45,fun fs h1 h2 _ z=>h (by rw[z];exact jhg h1 h2)⟩
end Law
namespace Law
open PySem L2 DJ Tx
variable {W n:Nat}
theorem jb7 {c:Nat}{s:List Nat}{ps qs:List (List Nat)}(hp:ps≠[])(hq:qs≠[])(fp:∀p∈ps,c ∉ p)(fq:∀p∈qs,c ∉ p)(hs:∀x∈c::s,x < 256)(e:jls (c::s) ps=jls (c::s) qs):ps=qs:=by
 have h1:=jfg c s hp fp hs;have h2:=jfg c s hq fq hs;rw[e,h2]at h1;have h3:=congrArg (List.map fun z:Str=>z.cps.toList) h1;rw[List.map_map,List.map_map]at h3;have id1:∀l:List (List Nat),l.map ((fun z:Str=>z.cps.toList) ∘ mk)=l:=fun l=>(List.map_congr_left fun x _=>rfl).trans (List.map_id l);rw[id1,id1]at h3;exact h3.symm
theorem jh7 (x:Int):NumText.digitsVal (nT x)=x.toNat:=PySem.W.KIN.val_back x.toNat
theorem jsB {x y:Int}(hx:Nm x)(hy:Nm y)(e:nT x=nT y):x=y:=by
 have:=congrArg NumText.digitsVal e;rw[jh7,jh7]at this;have h1:=hx.1;have h2:=hy.1;omega
theorem jcf {α β:Type}{f:α->β}{P:α->Prop}(inj:∀a b,P a->P b->f a=f b->a=b):∀{l m:List α},(∀a∈l,P a)->(∀a∈m,P a)->l.map f=m.map f->l=m
 |[],[],_,_,_=>rfl
 |[],_::_,_,_,e=>by cases e
 |_::_,[],_,_,e=>by cases e
 |a::l,b::m,h1,h2,e=>by
  simp only[jvc,List.cons.injEq]at e;rw[inj a b (h1 a ju7) (h2 b ju7) e.1,jcf inj (fun x hx=>h1 x (ju6 _ hx)) (fun x hx=>h2 x (ju6 _ hx)) e.2]
theorem jbQ {k:List Int}:∀p∈k.map nT,44 ∉ p:=fun p hp=>by
 obtain⟨x,_,rfl⟩:=List.mem_map.mp hp;exact jdh (.inl (by decide))
theorem jcg {ks:List (List Int)}:∀p∈ks.map tT,43 ∉ p:=fun p hp=>by
 obtain⟨x,_,rfl⟩:=List.mem_map.mp hp;exact fun z=>by have:=jh6 z;omega
theorem jcW {fs:List Fan}:∀p∈fs.map fT,32 ∉ p:=fun p hp=>by
 obtain⟨x,_,rfl⟩:=List.mem_map.mp hp;exact fun z=>by have:=jdl z;omega
theorem jsC {k m:List Int}(hk:TO k)(hm:TO m)(e:tT k=tT m):k=m:=
 jcf (P:=Nm) (fun a b=>jsB) hk.2 hm.2 (jb7 (by simpa using hk.1) (by simpa using hm.1) jbQ jbQ (by decide) e)
theorem jsD {f g:Fan}(hf:FO f)(hg:FO g)(e:fT f=fT g):f=g:=by
 have:=jcf (P:=TO) (fun a b=>jsC) hf hg (jb7 (by simp) (by simp) jcg jcg (by decide) e)
 injection this with h1 h2
 exact Prod.ext h1 h2
theorem jsE {fs gs:List Fan}(h1:fs≠[])(h2:gs≠[])(hf:∀f∈fs,FO f)(hg:∀f∈gs,FO f)(e:sT fs=sT gs):fs=gs:=
 jcf (P:=FO) (fun a b=>jsD) hf hg (jb7 (by simpa using h1) (by simpa using h2) jcW jcW (by decide) e)
theorem jqA {t:List Nat}(h:Ends t):t≠[45]:=fun z=>by
 obtain⟨⟨c,r,e,h1⟩,_⟩:=h;rw[e]at z;injection z with z
 omega
theorem jlC {fs:List Fan}(h1:fs≠[])(hf:∀f∈fs,FO f)(hb:jf7 (sD fs)=false):Bad (sT fs):=by
 refine⟨jqA (jhg h1 hf),fun gs h2 hg hs e=>?_⟩;rw[jsE h1 h2 hf hg e,hs]at hb;cases hb
theorem jqB {A B:List Fan}{F:List Nat}(hF:32 ∉ F)(h:∀f,FO f->F≠fT f)(h45:45∈F->2<=F.length):Bad (jls [32,124,32] (A.map fT++F::B.map fT)):=by
 have hfree:∀p∈A.map fT++F::B.map fT,32 ∉ p:=fun p hp=>by
  rcases List.mem_append.mp hp with hp | hp
  ·exact jcW p hp
  ·rcases List.mem_cons.mp hp with rfl | hp
   ·exact hF
   ·exact jcW p hp
 refine⟨fun z=>?_,fun fs h1 hf _ e=>?_⟩
 ·have hm:45∈jls [32,124,32] (A.map fT++F::B.map fT):=by rw[z];exact List.mem_singleton.mpr rfl
  have hl:=(jgc (s:=[32,124,32]) (ps:=A.map fT++F::B.map fT)).1 F (by simp)
  rcases jbp hm with q | ⟨p,hp,q⟩
  ·simp at q
  ·rcases List.mem_append.mp hp with hp | hp
   ·obtain⟨f,_,rfl⟩:=List.mem_map.mp hp;have:=jdl q;omega
   ·rcases List.mem_cons.mp hp with rfl | hp
    ·have:=h45 q;rw[z]at hl;simp at hl;omega
    ·obtain⟨f,_,rfl⟩:=List.mem_map.mp hp;have:=jdl q;omega
 ·have:=jb7 (c:=32) (s:=[124,32]) (by simp) (by simpa using h1) hfree jcW (by decide) e
  have hm:F∈fs.map fT:=by rw[<-this];simp
  obtain⟨f,hf',e'⟩:=List.mem_map.mp hm;exact h f (hf f hf') e'.symm
noncomputable def jdq (a:List Int)(w:List Nat)(b:List Int)(ss:List (List Int)):List Nat:=jls [43] (jls [44] (a.map nT++w::b.map nT)::ss.map tT)
theorem jh8 {a b:List Int}{w:List Nat}{ss:List (List Int)}{c:Nat}(h:c∈jdq a w b ss):c=43\/c=44\/c∈w\/(48<=c/\c<=57):=by
 rcases jbp h with q | ⟨p,hp,q⟩
 ·exact .inl (List.mem_singleton.mp q)
 ·rcases List.mem_cons.mp hp with rfl | hp
  ·rcases jbp q with q | ⟨p,hp,q⟩
   ·exact .inr (.inl (List.mem_singleton.mp q))
   ·rcases List.mem_append.mp hp with hp | hp
    ·obtain⟨x,_,rfl⟩:=List.mem_map.mp hp;exact .inr (.inr (.inr (jbd x.toNat c q)))
    ·rcases List.mem_cons.mp hp with ew | hp
     ·exact .inr (.inr (.inl (by rw[<-ew];exact q)))
     ·obtain⟨x,_,rfl⟩:=List.mem_map.mp hp;exact .inr (.inr (.inr (jbd x.toNat c q)))
  ·obtain⟨k,_,rfl⟩:=List.mem_map.mp hp;have:=jh6 q;omega
theorem jnJ {a b:List Int}{w:List Nat}{ss:List (List Int)}:w.length<=(jdq a w b ss).length:=by
 have h1:=(jgc (s:=[43]) (ps:=jls [44] (a.map nT++w::b.map nT)::ss.map tT)).1 _ ju7;have h2:=(jgc (s:=[44]) (ps:=a.map nT++w::b.map nT)).1 w (by simp)
 exact jvN h2 h1
theorem jbe {a b:List Int}{w:List Nat}{ss:List (List Int)}(h44:44 ∉ w)(h43:43 ∉ w)(hw:∀x,Nm x->w≠nT x):∀f,FO f->jdq a w b ss≠fT f:=fun f hf e=>by
 have f44:∀p∈a.map nT++w::b.map nT,44 ∉ p:=fun p hp=>by
  rcases List.mem_append.mp hp with hp | hp
  ·exact jbQ p hp
  ·rcases List.mem_cons.mp hp with rfl | hp
   ·exact h44
   ·exact jbQ p hp
 have:=jb7 (c:=43) (s:=[]) (by simp) (by simp) (fun p hp=>by
  rcases List.mem_cons.mp hp with rfl | hp
  ·intro q;rcases jbp q with q | ⟨p,hp,q⟩
   ·simp at q
   ·rcases List.mem_append.mp hp with hp | hp
    ·obtain⟨x,_,rfl⟩:=List.mem_map.mp hp;exact jdh (.inl (by decide)) q
    ·rcases List.mem_cons.mp hp with ew | hp
     ·exact h43 (by rw[<-ew];exact q)
     ·obtain⟨x,_,rfl⟩:=List.mem_map.mp hp;exact jdh (.inl (by decide)) q
  ·exact jcg p hp) jcg (by decide) e
 injection this with e1 _
 have hb:=hf f.1 ju7;have:=jb7 (c:=44) (s:=[]) (by simp) (by simpa using hb.1) f44 jbQ (by decide) e1
 have hm:w∈f.1.map nT:=by rw[<-this];simp
 obtain⟨x,hx,e'⟩:=List.mem_map.mp hm;exact hw x (hb.2 x hx) e'.symm
theorem jdn (s x y:List Nat):∀r,jls s ((x++(s++y))::r)=jls s (x::y::r)
 |[]=>by
  show x++(s++y)++[]=x++(s++(y++[]));simp only[jvu]
 |z::r=>by
  show x++(s++y)++(s++jls s (z::r))=x++(s++(y++(s++jls s (z::r))));simp only[jvv]
theorem jlD (c:Nat)(u:List Nat)(b:List (List Nat)):∀(a:List (List Nat)),jls [44] (a++(c::u)::b)=jls [44] (a++[[]])++(c::jls [44] (u::b))
 |[]=>by
  show jls [44] ((c::u)::b)=([]++[])++(c::jls [44] (u::b));cases b with
  |nil=>rfl
  |cons y r=>rfl
 |x::a=>by
  have ih:=jlD c u b a;cases a with
  |nil=>
   show x++([44]++jls [44] ((c::u)::b))=(x++([44]++([]++[])))++(c::jls [44] (u::b));have ih:jls [44] ((c::u)::b)=([]++[])++(c::jls [44] (u::b)):=ih;rw[ih];simp only[jvv,List.nil_append]
  |cons y r=>
   show x++([44]++jls [44] (y::r++(c::u)::b))=(x++([44]++jls [44] (y::r++[[]])))++(c::jls [44] (u::b));rw[ih];simp only[jvv]
theorem jlE {a b:List Int}{ss:List (List Int)}:∀f,FO f->jdq a [43,49] b ss≠fT f:=fun f hf e=>by
 unfold jdq at e;rw[jlD 43 [49] (b.map nT) (a.map nT)]at e;have e:jls [43] ((jls [44] (a.map nT++[[]])++([43]++jls [44] ([49]::b.map nT)))::ss.map tT)=fT f:=e;rw[jdn]at e;have f1:∀p∈a.map nT++[[]],44 ∉ p:=fun p hp=>by
  rcases List.mem_append.mp hp with hp | hp
  ·exact jbQ p hp
  ·rw[List.mem_singleton.mp hp];simp
 have:=jb7 (c:=43) (s:=[]) (by simp) (by simp) (fun p hp=>by
  rcases List.mem_cons.mp hp with rfl | hp
  ·intro q;rcases jbp q with q | ⟨p,hp,q⟩
   ·simp at q
   ·rcases List.mem_append.mp hp with hp | hp
    ·obtain⟨x,_,rfl⟩:=List.mem_map.mp hp;exact jdh (.inl (by decide)) q
    ·rw[List.mem_singleton.mp hp]at q;cases q
  ·rcases List.mem_cons.mp hp with rfl | hp
   ·intro q;rcases jbp q with q | ⟨p,hp,q⟩
    ·simp at q
    ·rcases List.mem_cons.mp hp with rfl | hp
     ·simp at q
     ·obtain⟨x,_,rfl⟩:=List.mem_map.mp hp;exact jdh (.inl (by decide)) q
   ·exact jcg p hp) jcg (by decide) e
 have e1:jls [44] (a.map nT++[[]])=tT f.1:=by
  have e0:(jls [44] (a.map nT++[[]])::jls [44] ([49]::b.map nT)::ss.map tT)=tT f.1::f.2.map tT:=this;injection e0
 have hb:=hf f.1 ju7;have:=jb7 (c:=44) (s:=[]) (by simp) (by simpa using hb.1) f1 jbQ (by decide) e1
 have hm:[]∈f.1.map nT:=by rw[<-this];simp
 obtain⟨x,hx,e'⟩:=List.mem_map.mp hm;have:=(jbG (hb.2 x hx)).1;rw[e']at this;simp at this
noncomputable def jgd (x m:Int):List (List Nat):=[48::nT x,jd3 (1000000000000001 + m).toNat,[],[45,49],nT x++[45],[120],[49,46,53],[48,48],[57,57,57,57,57,57,57,57,57,57,57,57,57,57,57,57],[43,49]]
theorem jnK {x m:Int}(hx:Nm x)(hm:0<=m){w:List Nat}(h:w∈jgd x m)(A B:List Fan)(a b:List Int)(ss:List (List Int)):Bad (jls [32,124,32] (A.map fT++jdq a w b ss::B.map fT)):=by
 have main:32 ∉ w->(45∈w->2<=w.length)->(∀f,FO f->jdq a w b ss≠fT f)->Bad (jls [32,124,32] (A.map fT++jdq a w b ss::B.map fT)):=fun h32 h45 h=>by
  refine jqB (fun z=>?_) h fun z=>?_
  ·have:=jh8 z;rcases this with q | q | q | q
   ·omega
   ·omega
   ·exact h32 q
   ·omega
  ·rcases jh8 z with q | q | q | q
   ·omega
   ·omega
   ·exact jvN (h45 q) jnJ
   ·omega
 have dig:∀y:Int,∀c∈nT y,48<=c/\c<=57:=fun y=>jbd y.toNat;have sg:∀c∈w,¬ (48<=c/\c<=57)->∀y,Nm y->w≠nT y:=fun c hc hn y _ e=>hn (dig y c (by rw[<-e];exact hc))
 simp only[jgd,ju8,jvw,or_false]at h;rcases h with h | h | h | h | h | h | h | h | h | h
 ·have hd:∀c∈w,48<=c/\c<=57:=fun c hc=>by
   rw[h]at hc;rcases List.mem_cons.mp hc with rfl | hc
   ·omega
   ·exact dig x c hc
  refine main (fun z=>by have:=hd _ z;omega) (fun z=>by have:=hd _ z;omega) (jbe (fun z=>by have:=hd _ z;omega) (fun z=>by have:=hd _ z;omega) fun y hy e=>?_)
  obtain⟨c,r,e1,hc⟩:=jb5 y.toNat;have e1:nT y=c::r:=e1;rw[h,e1]at e;injection e with e2 e3
  have:=hc e2.symm;have e4:nT y=[48]:=by unfold nT;rw[this];exact jcz (by decide)
  rw[e1]at e4;injection e4 with _ e4
  have:=(jbG hx).1;rw[e3,e4]at this;simp at this
 ·have hd:∀c∈w,48<=c/\c<=57:=fun c hc=>by rw[h]at hc;exact jbd _ c hc
  refine main (fun z=>by have:=hd _ z;omega) (fun z=>by have:=hd _ z;omega) (jbe (fun z=>by have:=hd _ z;omega) (fun z=>by have:=hd _ z;omega) fun y hy e=>?_)
  have:=congrArg NumText.digitsVal e;rw[jh7,h]at this;have e2:NumText.digitsVal (jd3 (1000000000000001 + m).toNat)=(1000000000000001 + m).toNat:=PySem.W.KIN.val_back _;rw[e2]at this;have:=hy.2;have:=hy.1;omega
 ·subst h;exact main (by simp) (by simp) (jbe (by simp) (by simp) fun y hy e=>by have:=(jbG hy).1;rw[<-e]at this;simp at this)
 ·subst h;exact main (by simp) (by simp) (jbe (by simp) (by simp) (sg 45 (by simp) (by omega)))
 ·have hd:∀c∈w,c=45\/(48<=c/\c<=57):=fun c hc=>by
   rw[h]at hc;rcases List.mem_append.mp hc with hc | hc
   ·exact .inr (dig x c hc)
   ·exact .inl (List.mem_singleton.mp hc)
  refine main (fun z=>by have:=hd _ z;omega) (fun _=>by rw[h,jvj];have:=(jbG hx).1;simp;omega) (jbe (fun z=>by have:=hd _ z;omega) (fun z=>by have:=hd _ z;omega) (sg 45 (by rw[h];simp) (by omega)))
 ·subst h;exact main (by simp) (by simp) (jbe (by simp) (by simp) (sg 120 (by simp) (by omega)))
 ·subst h;exact main (by simp) (by simp) (jbe (by simp) (by simp) (sg 46 (by simp) (by omega)))
 ·subst h;refine main (by simp) (by simp) (jbe (by simp) (by simp) fun y hy e=>?_)
  obtain⟨c,r,e1,hc⟩:=jb5 y.toNat;have e1:nT y=c::r:=e1;rw[e1]at e;injection e with e2 e3
  have:=hc e2.symm;have e4:nT y=[48]:=by unfold nT;rw[this];exact jcz (by decide)
  rw[e1]at e4;injection e4 with _ e4
  rw[e4]at e3;cases e3
 ·subst h;refine main (by simp) (by simp) (jbe (by simp) (by simp) fun y hy e=>?_)
  have:=congrArg NumText.digitsVal e;rw[jh7]at this;have e2:NumText.digitsVal [57,57,57,57,57,57,57,57,57,57,57,57,57,57,57,57]=9999999999999999:=by decide
  rw[e2]at this;have:=hy.2;omega
 ·subst h;exact main (by simp) (by simp) jlE
end Law
namespace Law
open PySem L2 DJ Tx
variable {W n:Nat}
section
variable {G:Calls}{ρ ρ1 ρ2:Rho}{a b:E}{es:Es}
theorem jsF {l:List Nat}(h:l.length<=100000):ja6 (mk l).length=true:=jao (by rw[jav];omega)
theorem jcq {i:Int}(h:evE G U a ρ=.ok (.dat (.int i),ρ)):evO G U (.some a) ρ=.ok (some i,ρ):=by
 rw[evO,h];rfl
theorem jcr:evO G U .none ρ=.ok (none,ρ):=by rw[evO]
theorem jqC {l t:List Nat}{lo hi:Oe}{p q:Option Int}(ha:evE G U a ρ=.ok (.dat (.str (mk l)),ρ))(hl:l.length<=100000)(h1:evO G U lo ρ=.ok (p,ρ))(h2:evO G U hi ρ=.ok (q,ρ))(h3:Txt.slice (mk l) p q=mk t):evE G U (.slc a lo hi) ρ=.ok (.dat (.str (mk t)),ρ):=by
 rw[evE,ha];simp only[R.bind_ok'];rw[h1];simp only[R.bind_ok'];rw[h2];simp only[R.bind_ok',jab,jgW,jsF hl,if_true,h3]
theorem jhh {l:List D}{lo hi:Oe}{p q:Option Int}(ha:evE G U a ρ=.ok (.dat (.tup l),ρ))(h1:evO G U lo ρ=.ok (p,ρ))(h2:evO G U hi ρ=.ok (q,ρ)):evE G U (.slc a lo hi) ρ=.ok (.dat (.tup (cut l p q)),ρ):=by
 rw[evE,ha];simp only[R.bind_ok'];rw[h1];simp only[R.bind_ok'];rw[h2];simp only[R.bind_ok',jab,jk6]
theorem jd1 {x y:List D}(ha:evE G U a ρ=.ok (.dat (.tup x),ρ))(hb:evE G U b ρ=.ok (.dat (.tup y),ρ))(h:x.length + y.length<=1000):evE G U (.bin .add a b) ρ=.ok (.dat (.tup (x++y)),ρ):=by
 rw[evE,ha];simp only[R.bind_ok'];rw[hb];simp only[R.bind_ok',jab,jhQ];rw[if_pos (jao (by omega))]
 rfl
theorem jcs {d:D}(h:evE G U a ρ=.ok (.dat d,ρ)):evE G U (.tup (.cons a .nil)) ρ=.ok (.dat (.tup [d]),ρ):=by
 rw[evE,evEs,h];rfl
theorem jge {d d':D}(h:evE G U a ρ=.ok (.dat d,ρ))(h':evE G U b ρ=.ok (.dat d',ρ)):evE G U (.tup (.cons a (.cons b .nil))) ρ=.ok (.dat (.tup [d,d']),ρ):=by
 have h2:evEs G U (.cons b .nil) ρ=.ok ([d'],ρ):=by rw[evEs,h'];rfl
 rw[evE,evEs,h];simp only[R.bind_ok',jdb,h2];rfl
theorem jae {d:D}{ds:List D}(h:evE G U a ρ=.ok (.dat d,ρ))(h':evEs G U es ρ=.ok (ds,ρ)):evEs G U (.cons a es) ρ=.ok (d::ds,ρ):=by
 rw[evEs,h];simp only[R.bind_ok',jdb,h']
theorem jcX:evEs G U .nil ρ=.ok ([],ρ):=by rw[evEs]
theorem jjo {ds:List D}(h:evEs G U es ρ=.ok (ds,ρ))(hl:ds.length<=1000):evE G U (.lst es) ρ=.ok (.tmp (.l ds),ρ):=by
 rw[evE,h];simp only[R.bind_ok'];rw[if_pos (jao (by omega))]
theorem jsX {ds:List D}{i:Int}{d:D}(h:evEs G U es ρ=.ok (ds,ρ))(hl:ds.length<=1000)(h2:evE G U b ρ=.ok (.dat (.int i),ρ))(h3:DJ.atI ds i=.ok d):evE G U (.idx (.lst es) b) ρ=.ok (.dat d,ρ):=by
 rw[evE,jjo h hl];simp only[R.bind_ok'];rw[h2];simp only[R.bind_ok',jaT,jab,jeX,jlb,h3]
end
theorem jsG (T u:List Nat)(k:Nat)(hk:k<=T.length)(hT:T.length<=90000)(hu:u.length<=100):CD W (n + 1) 16 [.dat (.str (mk T)),.dat (.int k),.dat (.str (mk u))]=.ok (.dat (.str (mk (T.take k++u++T.drop k))),[.no,.no,.no]):=by
 rw[CD,jal (d:=⟨3,3,jbF⟩) rfl rfl];show (evSs (jaa U W P n) U W jbF [.dat (.str (mk T)),.dat (.int k),.dat (.str (mk u))]).bind (jbq 3)=_;have h1:=jqC (G:=jaa U W P n) (a:=.var 0) (ρ:=[.dat (.str (mk T)),.dat (.int k),.dat (.str (mk u))]) (jaz rfl) (by omega) jcr (jcq (a:=.var 1) (jaz rfl)) (jmi T k hk)
 have h2:=jqC (G:=jaa U W P n) (a:=.var 0) (ρ:=[.dat (.str (mk T)),.dat (.int k),.dat (.str (mk u))]) (jaz rfl) (by omega) (jcq (a:=.var 1) (jaz rfl)) jcr (jc0 T k hk)
 have h3:=jdZ (jdZ h1 (jaz (i:=2) rfl) (by rw[List.length_take];omega)) h2 (by rw[jvj,List.length_take,List.length_drop];omega)
 unfold jbF;rw[jaG (jbB h3)];rfl
theorem jqD {i:Int}(h0:0<=i)(h1:i < 18446744073709551616):bfD .str (.int i)=.ok (.dat (.str (mk (jd3 i.toNat)))):=by
 have hl:i.natAbs.log2 < 1920:=by
  by_cases z:i.natAbs=0
  ·rw[z];decide
  ·have:i.natAbs.log2 < 64:=(Nat.log2_lt z).mpr (by omega)
   omega
 show (if i.natAbs.log2 < 1920 then R.ok (Vl.dat (.str (Str.ofString (toString i))))else .stk)=_;rw[if_pos hl];have e:i=(i.toNat:Int):=by omega
 rw[<-jlr,<-e]
theorem jsH:opD .mul (.str "9") (.int 16)=.ok (.dat (jaw [57,57,57,57,57,57,57,57,57,57,57,57,57,57,57,57])):=by kernel_rfl
theorem jbR {ds:List D}{c m:Int}(hm:m=ds.length)(h0:0 < m):∃d∈ds,DJ.atI ds (c % m)=.ok d:=by
 have h1:=Int.emod_nonneg c (show m≠0 by omega)
 have h2:=Int.emod_lt_of_pos c h0;have hlt:(c % m).toNat < ds.length:=by omega
 have g:=jsU (xs:=ds) (ju5 hlt);rw[show (((c % m).toNat:Nat):Int)=c % m by omega]at g
 exact⟨_,List.getElem_mem hlt,g⟩
theorem jsI (c x:Int)(hx:Nm x):∃w∈jgd x (c % 1000000000000000),CD W (n + 1) 17 [.dat (.int c),.dat (.str (mk (nT x)))]=.ok (.dat (.str (mk w)),[.no,.no]):=by
 have hl:=jbG hx;have hm:=Int.emod_nonneg c (show (1000000000000000:Int)≠0 by decide)
 have hm2:=Int.emod_lt_of_pos c (show (0:Int) < 1000000000000000 by decide)
 let st:Rho:=[.dat (.int c),.dat (.str (mk (nT x))),.no]
 have a1:evE (jaa U W P n) U (.bin .add (.lit (.str "0")) (.var 1)) st=.ok (.dat (jaw (48::nT x)),st):=jdZ (x:=[48]) (y:=nT x) jam (jaz rfl) (by simp only[jvf,jvr];omega)
 have a2:evE (jaa U W P n) U (.blt .str (.bin .add (.bin .add (.bin .pow (.lit (.int 10)) (.lit (.int 15))) (.lit (.int 1))) (.bin .mod (.var 0) (.bin .pow (.lit (.int 10)) (.lit (.int 15)))))) st=.ok (.dat (jaw (jd3 (1000000000000001 + c % 1000000000000000).toNat)),st):=by
  have e:evE (jaa U W P n) U (.bin .add (.bin .add (.bin .pow (.lit (.int 10)) (.lit (.int 15))) (.lit (.int 1))) (.bin .mod (.var 0) (.bin .pow (.lit (.int 10)) (.lit (.int 15))))) st=.ok (.dat (.int (1000000000000001 + c % 1000000000000000)),st):=by
   simp only[st];simp_arith[jol,Int.reduceAdd]
  rw[evE,e];simp only[R.bind_ok',jab,jqD (show 0<=1000000000000001 + c % 1000000000000000 by omega) (by omega)]
  rfl
 have a5:evE (jaa U W P n) U (.bin .add (.var 1) (.lit (.str "-"))) st=.ok (.dat (jaw (nT x++[45])),st):=jdZ (x:=nT x) (y:=[45]) (jaz rfl) jam (by simp only[jvf,jvr];omega)
 have a9:evE (jaa U W P n) U (.bin .mul (.lit (.str "9")) (.lit (.int 16))) st=.ok (.dat (jaw [57,57,57,57,57,57,57,57,57,57,57,57,57,57,57,57]),st):=by
  rw[evE,jam];simp only[R.bind_ok',jam,jab,jsH]
 have ee:=jae a1 (jae a2 (jae (d:=jaw []) jam (jae (d:=jaw [45,49]) jam (jae a5 (jae (d:=jaw [120]) jam (jae (d:=jaw [49,46,53]) jam (jae (d:=jaw [48,48]) jam (jae a9 (jae (d:=jaw [43,49]) jam jcX)))))))));have em:=jjo ee (by simp)
 obtain⟨d,hd,hat⟩:=jbR (ds:=(jgd x (c % 1000000000000000)).map jaw) (c:=c) (m:=10) rfl (by decide)
 obtain⟨w,hw,rfl⟩:=List.mem_map.mp hd;refine⟨w,hw,?_⟩;rw[CD,jal (d:=⟨2,3,jay⟩) rfl rfl];show (evSs (jaa U W P n) U W jay st).bind (jbq 2)=_;unfold jay;refine(congrArg (fun z=>R.bind z (jbq 2)) (jad (jgz (i:=2) em (by simp[st])))).trans ?_
 show (evSs (jaa U W P n) U W _ [.dat (.int c),.dat (.str (mk (nT x))),.own (.l ((jgd x (c % 1000000000000000)).map jaw)) false false]).bind (jbq 2)=_;generalize (jgd x (c % 1000000000000000)).map jaw=ds at *;simp_arith[hat];rfl
theorem joA:∀{ks:List (List Int)},joo ks=true->Srt ks
 |[],_=>List.Pairwise.nil
 |[_],_=>List.pairwise_singleton _ _
 |a::b::r,h=>by
  unfold joo at h;have h:(DJ.lexLt a b && ((b::r).zip r).all fun p=>DJ.lexLt p.1 p.2)=true:=h;rw[jvP]at h;have ih:Srt (b::r):=joA (by unfold joo;exact h.2)
  have ih':=List.pairwise_cons.mp ih;refine List.pairwise_cons.mpr ⟨fun x hx=>?_,ih⟩;rcases List.mem_cons.mp hx with rfl | hx
  ·exact h.1
  ·exact lt_trans h.1 (ih'.1 x hx)
theorem jqE {ks:List (List Int)}(h:¬ Srt ks):joo ks=false:=by
 cases e:joo ks with
 |false=>rfl
 |true=>exact absurd (joA e) h
theorem jhi {b:List Int}{ss:List (List Int)}(h:(¬ Srt ss)\/∃k∈ss,jdX b.length (tu k)=false):jgg (fD (b,ss))=false:=by
 show (jjl (tu b) && jb4 (.tup (ss.map tu)) (jgf (tu b)))=false;rw[jcy];have:jb4 (.tup (ss.map tu)) b.length=false:=by
  simp only[jb4,jha];rcases h with h | ⟨k,hk,h⟩
  ·rw[jqE h,Bool.and_false]
  ·rw[Bool.and_eq_false_iff];exact .inl (List.all_eq_false.mpr ⟨tu k,List.mem_map.mpr ⟨k,hk,rfl⟩,by rw[h];exact jvR⟩)
 rw[this,Bool.and_false]
theorem jqF {ss:List (List Int)}{k:Nat}{x:List Int}(hx:x∈ss):¬ Srt (ss.take k++x::ss.drop k):=fun h=>by
 have hp:=List.pairwise_append.mp h;have hq:=List.pairwise_cons.mp hp.2.1;rw[<-List.take_append_drop k ss]at hx;rcases List.mem_append.mp hx with hx | hx
 ·have:=hp.2.2 x hx x ju7;rw[jhZ]at this;cases this
 ·have:=hq.1 x hx;rw[jhZ]at this;cases this
theorem jsJ {ss:List (List Int)}(h:Srt ss)(hl:1 < ss.length):¬ Srt ss.reverse:=fun h2=>by
 have h2:ss.reverse.Pairwise fun a b=>DJ.lexLt a b=true:=h2;rw[List.pairwise_reverse]at h2;cases ss with
 |nil=>simp at hl
 |cons a r=>
  cases r with
  |nil=>simp at hl
  |cons b r=>
   have p1:=(List.pairwise_cons.mp h).1 b ju7;have p2:=(List.pairwise_cons.mp h2).1 b ju7;rw[jhb p1]at p2;cases p2
end Law
namespace Law
open PySem L2 DJ Tx
variable {W n:Nat}
theorem jsK:∀(k:Nat),(List.replicate k [D.int 0]).flatten=(List.replicate k (0:Int)).map D.int
 |0=>rfl
 |k + 1=>by simp only[List.replicate_succ,List.flatten_cons,jsK k,jvc,List.singleton_append]
noncomputable def jhj (b:List Int):List (List Int):=[List.replicate b.length 0,b++[1],b++b++b++b++[2],(b++[1]).drop 2++[3]]
theorem joB {l:Nat}{b:List Int}(h1:1<=l)(h4:l<=4)(h:GT l b):∀k∈jhj b,TL k:=fun k hk=>by
 have hb:=h.1;have n1:Nm 1:=⟨by decide,by decide⟩
 have n2:Nm 2:=⟨by decide,by decide⟩
 have n3:Nm 3:=⟨by decide,by decide⟩
 have n0:Nm 0:=⟨by decide,by decide⟩
 simp only[jhj,ju8,jvw,or_false]at hk;rcases hk with rfl | rfl | rfl | rfl
 ·refine⟨fun z=>?_,by rw[List.length_replicate];omega,fun x hx=>by rw[List.eq_of_mem_replicate hx];exact n0⟩
  have:=congrArg List.length z;rw[List.length_replicate,jvr]at this;omega
 ·refine⟨by simp,by simp;omega,fun x hx=>?_⟩
  rcases List.mem_append.mp hx with hx | hx
  ·exact h.2 x hx
  ·rw[List.mem_singleton.mp hx];exact n1
 ·refine⟨by simp,by simp;omega,fun x hx=>?_⟩
  simp only[List.mem_append,List.mem_singleton,or_self]at hx;rcases hx with hx | hx
  ·exact h.2 x hx
  ·rw[hx];exact n2
 ·refine⟨by simp,by simp;omega,fun x hx=>?_⟩
  rcases List.mem_append.mp hx with hx | hx
  ·rcases List.mem_append.mp (List.mem_of_mem_drop hx)with hx | hx
   ·exact h.2 x hx
   ·rw[List.mem_singleton.mp hx];exact n1
  ·rw[List.mem_singleton.mp hx];exact n3
theorem jlF {l:Nat}{k:List Int}(hn:∀x∈k,0<=x)(h:¬ (k.length=l/\0 < k.sum)):jdX l (tu k)=false:=by
 unfold jdX jg9;rw[jf6,jcy];by_cases e:k.length=l
 ·have:nz k=false:=by
   cases z:nz k with
   |false=>rfl
   |true=>exact absurd ⟨e,(jlp hn).2.mpr z⟩ h
  rw[this,Bool.and_false]
 ·rw[show (k.length == l)=false from by simpa using e]
  simp
theorem jlG:∀(k:Nat),(List.replicate k (0:Int)).sum=0
 |0=>rfl
 |k + 1=>by rw[List.replicate_succ,List.sum_cons,jlG k];rfl
noncomputable def stO (f:Fan)(c:Int)(k:Nat)(s5 s6:Sl):Rho:=[.dat (fD f),.dat (.int c),.dat (tu f.1),.dat (.tup (f.2.map tu)),.dat (.int k),s5,s6]
theorem jsL {G:Calls}{f:Fan}{c:Int}{k:Nat}{s5 s6:Sl}{e:E}{x:List Int}(he:evE G U e (stO f c k s5 s6)=.ok (.dat (tu x),stO f c k s5 s6))(hl:f.2.length<=4):evE G U (.tup (.cons (.var 2) (.cons (.bin .add (.bin .add (.slc (.var 3) .none (.some (.var 4))) (.tup (.cons e .nil))) (.slc (.var 3) (.some (.var 4)) .none)) .nil))) (stO f c k s5 s6)=.ok (.dat (fD (f.1,f.2.take k++x::f.2.drop k)),stO f c k s5 s6):=by
 have a1:=jhh (G:=G) (a:=.var 3) (ρ:=stO f c k s5 s6) (l:=f.2.map tu) (jaz rfl) jcr (jcq (a:=.var 4) (i:=(k:Int)) (jaz rfl));have a2:=jhh (G:=G) (a:=.var 3) (ρ:=stO f c k s5 s6) (l:=f.2.map tu) (jaz rfl) (jcq (a:=.var 4) (i:=(k:Int)) (jaz rfl)) jcr;rw[jbl,jdy]at a1;rw[jbl,jbO]at a2;have a3:=jd1 (jd1 a1 (jcs he) (by rw[jve,List.length_take];simp only[jvf,jvr];omega)) a2 (by rw[jvj,jve,List.length_take,jve,List.length_drop];simp only[jvf,jvr];omega)
 have a4:=jge (jaz (G:=G) (i:=2) (ρ:=stO f c k s5 s6) (d:=tu f.1) rfl) a3;rw[a4];show R.ok (Vl.dat (.tup [tu f.1,.tup ((f.2.take k).map tu++[tu x]++(f.2.drop k).map tu)]),stO f c k s5 s6)=R.ok (Vl.dat (.tup [tu f.1,.tup ((f.2.take k++x::f.2.drop k).map tu)]),stO f c k s5 s6);rw[List.map_append,jvc,jvv];rfl
theorem joC {l:Nat}{f:Fan}(h1:1<=l)(h4:l<=4)(h:GF l f){x:List Int}(hx:TL x)(k:Nat):LF (f.1,f.2.take k++x::f.2.drop k):=by
 refine⟨fun y hy=>?_,?_⟩
 ·rcases List.mem_cons.mp hy with rfl | hy
  ·exact h.1.tl h1 h4
  ·rcases List.mem_append.mp hy with hy | hy
   ·exact(h.2.1 y (List.mem_of_mem_take hy)).1.tl h1 h4
   ·rcases List.mem_cons.mp hy with rfl | hy
    ·exact hx
    ·exact(h.2.1 y (List.mem_of_mem_drop hy)).1.tl h1 h4
 ·have:=h.2.2.2;show (f.2.take k++x::f.2.drop k).length<=5;rw[jvj,jvf,List.length_take,List.length_drop];omega
theorem jqG {l:Nat}(f:Fan)(c:Int)(h1:1<=l)(h4:l<=4)(h:GF l f):∃g,LF g/\jgg (fD g)=false/\CD W (n + 1) 18 [.dat (fD f),.dat (.int c)]=.ok (.dat (fD g),[.no,.no]):=by
 have hb:=h.1.1;have h5:=h.2.2.2;obtain⟨k,hk⟩:∃k:Nat,(k:Int)=c / 4 % ((f.2.map tu).length + 1):=⟨(c / 4 % ((f.2.map tu).length + 1)).toNat,by
  have:=Int.emod_nonneg (c / 4) (show ((f.2.map tu).length:Int) + 1≠0 by omega)
  omega⟩
 have hkl:k<=f.2.length:=by
  have:=Int.emod_lt_of_pos (c / 4) (show (0:Int) < (f.2.map tu).length + 1 by omega)
  rw[jve]at this hk;omega
 rw[CD,jal (d:=⟨2,7,jau⟩) rfl rfl];show ∃g,LF g/\jgg (fD g)=false/\(evSs (jaa U W P n) U W jau [.dat (fD f),.dat (.int c),.no,.no,.no,.no,.no]).bind (jbq 2)=_;have i1:evS (jaa U W P n) U W (.unp [2,3] (.var 0)) [.dat (fD f),.dat (.int c),.no,.no,.no,.no,.no]=.ok (.nx [.dat (fD f),.dat (.int c),.dat (tu f.1),.dat (.tup (f.2.map tu)),.no,.no,.no]):=rfl;have i2:evS (jaa U W P n) U W (.asg 4 (.bin .mod (.bin .fdiv (.var 1) (.lit (.int 4))) (.bin .add (.blt .len (.var 3)) (.lit (.int 1))))) [.dat (fD f),.dat (.int c),.dat (tu f.1),.dat (.tup (f.2.map tu)),.no,.no,.no]=.ok (.nx (stO f c k .no .no)):=by
  simp_arith[if_pos (show (0:Int) < ((f.2.map tu).length:Int) + 1 by omega)]
  rw[<-hk];rfl
 have ev2:evE (jaa U W P n) U (.var 2) (stO f c k .no .no)=.ok (.dat (.tup (f.1.map D.int)),stO f c k .no .no):=jaz rfl;have o0:evE (jaa U W P n) U (.bin .mul (.tup (.cons (.lit (.int 0)) .nil)) (.blt .len (.var 2))) (stO f c k .no .no)=.ok (.dat (tu (List.replicate f.1.length 0)),stO f c k .no .no):=by
  have el:evE (jaa U W P n) U (.blt .len (.var 2)) (stO f c k .no .no)=.ok (.dat (.int (f.1.length:Nat)),stO f c k .no .no):=by
   rw[evE,ev2];simp only[R.bind_ok',jab,je0,jve]
  have e2:opD .mul (.tup [.int 0]) (.int (f.1.length:Nat))=.ok (.dat (tu (List.replicate f.1.length 0))):=by
   rw[jhS,if_pos ⟨by omega,by omega,jao (by rw[Int.toNat_natCast];simp;omega)⟩,Int.toNat_natCast,jsK]
   rfl
  rw[evE,jcs (d:=.int 0) jam];simp only[R.bind_ok'];rw[el];simp only[R.bind_ok',jab,e2]
 have lb:(f.1.map D.int).length=l:=by rw[jve,hb]
 have o1:=jd1 ev2 (jcs (d:=.int 1) jam) (by rw[lb];simp only[jvf,jvr];omega)
 have o2:=jd1 (jd1 (jd1 (jd1 ev2 ev2 (by omega)) ev2 (by rw[jvj];omega)) ev2 (by simp only[jvj];omega)) (jcs (d:=.int 2) jam) (by simp only[jvj,jvf,jvr];omega)
 have o3a:=jhh (G:=jaa U W P n) o1 (jcq (a:=.lit (.int 2)) (i:=2) jam) jcr;have o3:=jd1 o3a (jcs (d:=.int 3) jam) (by
  have:=jql (xs:=f.1.map D.int++[D.int 1]) (lo:=some 2) (hi:=none);rw[jvj,lb]at this;simp only[jvf,jvr]at this ⊢;omega)
 have q1:D.tup (f.1.map D.int++[D.int 1])=tu (f.1++[1]):=by unfold tu;rw[List.map_append];rfl
 have q2:D.tup (f.1.map D.int++f.1.map D.int++f.1.map D.int++f.1.map D.int++[D.int 2])=tu (f.1++f.1++f.1++f.1++[2]):=by unfold tu;simp only[List.map_append];rfl
 have q3:D.tup (cut (f.1.map D.int++[D.int 1]) (some 2) none++[D.int 3])=tu ((f.1++[1]).drop 2++[3]):=by
  have e:f.1.map D.int++[D.int 1]=(f.1++[1]).map D.int:=by rw[List.map_append];rfl
  have e2:cut ((f.1++[1]).map D.int) (some (2:Int)) none=((f.1++[1]).drop 2).map D.int:=by
   rw[jbl];exact congrArg _ (jbO (f.1++[1]) 2)
  rw[e,e2];unfold tu;rw[List.map_append];rfl
 rw[q1]at o1;rw[q2]at o2;rw[q3]at o3;have od:=jjo (jae o0 (jae o1 (jae o2 (jae o3 jcX)))) (by simp)
 have i3:=jgz (W:=W) (i:=5) od (by simp[stO])
 have i3:evS (jaa U W P n) U W _ (stO f c k .no .no)=.ok (.nx (stO f c k (.own (.l ((jhj f.1).map tu)) false false) .no)):=i3;generalize hds:(Sl.own (.l ((jhj f.1).map tu)) false false)=s5 at i3;have tA:evT (jaa U W P n) U (.and (.cmp .eq (.bin .mod (.var 1) (.lit (.int 4))) (.lit (.int 3))) (.cmp .gt (.blt .len (.var 3)) (.lit (.int 0)))) (stO f c k s5 .no)=.ok (c % 4 == 3 && decide ((0:Int) < f.2.length),stO f c k s5 .no):=by
  unfold stO;cases hc:(c % 4 == 3) <;> (simp_arith[hc,jve,Bool.true_and,Bool.false_and])
 have tB:evT (jaa U W P n) U (.and (.cmp .eq (.bin .mod (.var 1) (.lit (.int 4))) (.lit (.int 2))) (.cmp .gt (.blt .len (.var 3)) (.lit (.int 1)))) (stO f c k s5 .no)=.ok (c % 4 == 2 && decide ((1:Int) < f.2.length),stO f c k s5 .no):=by
  unfold stO;cases hc:(c % 4 == 2) <;> (simp_arith[hc,jve,Bool.true_and,Bool.false_and])
 unfold jau;rw[jad i1,jad i2,jad i3];cases hA:(c % 4 == 3 && decide ((0:Int) < f.2.length))with
 |true=>
  rw[hA]at tA;rw[jvP,decide_eq_true_eq]at hA;have hlt:0 < f.2.length:=by omega
  obtain⟨d,hd,hat⟩:=jbR (ds:=f.2.map tu) (c:=(k:Int)) (m:=((f.2.map tu).length:Int)) rfl (by rw[jve];omega)
  obtain⟨x,hx,rfl⟩:=List.mem_map.mp hd;have ei:evE (jaa U W P n) U (.idx (.var 3) (.bin .mod (.var 4) (.blt .len (.var 3)))) (stO f c k s5 .no)=.ok (.dat (tu x),stO f c k s5 .no):=by
   unfold stO;simp_arith[if_pos (show (0:Int) < ((f.2.map tu).length:Int)by rw[jve];omega),hat]
  refine⟨(f.1,f.2.take k++x::f.2.drop k),joC h1 h4 h ((h.2.1 x hx).1.tl h1 h4) k,jhi (.inl (jqF hx)),?_⟩;rw[jaG (by rw[jg8 tA];simp only[if_true];exact jaG (jbB (jsL ei h5)))]
  rfl
 |false=>
  rw[hA]at tA;rw[jad (jbh tA)];cases hB:(c % 4 == 2 && decide ((1:Int) < f.2.length))with
  |true=>
   rw[hB]at tB;rw[jvP,decide_eq_true_eq]at hB;have er:evE (jaa U W P n) U (.blt .revt (.var 3)) (stO f c k s5 .no)=.ok (.dat (.tup (f.2.map tu).reverse),stO f c k s5 .no):=by
    rw[evE,jaz (d:=.tup (f.2.map tu)) rfl];rfl
   refine⟨(f.1,f.2.reverse),⟨fun y hy=>?_,by show f.2.reverse.length<=5;rw[List.length_reverse];omega⟩,jhi (.inl (jsJ h.2.2.1 (by omega))),?_⟩
   ·rcases List.mem_cons.mp hy with rfl | hy
    ·exact h.1.tl h1 h4
    ·exact(h.2.1 y (List.mem_reverse.mp hy)).1.tl h1 h4
   ·rw[jaG (by rw[jg8 tB];simp only[if_true];exact jaG (jbB (jge (jaz (i:=2) (d:=tu f.1) rfl) er)))]
    show R.ok (Vl.dat (.tup [tu f.1,.tup (f.2.map tu).reverse]),[Sl.no,.no])=R.ok (Vl.dat (.tup [tu f.1,.tup (f.2.reverse.map tu)]),[Sl.no,.no]);rw[List.map_reverse]
  |false=>
   rw[hB]at tB;rw[jad (jbh tB)];obtain⟨d,hd,hat⟩:=jbR (ds:=(jhj f.1).map tu) (c:=c / 60) (m:=4) rfl (by decide)
   obtain⟨x,hx,rfl⟩:=List.mem_map.mp hd;have hx':=joB h1 h4 h.1 x hx;have h0:=joB h1 h4 h.1 (List.replicate f.1.length 0) ju7;subst hds;have ex:evE (jaa U W P n) U (.idx (.var 5) (.bin .mod (.bin .fdiv (.var 1) (.lit (.int 60))) (.lit (.int 4)))) (stO f c k (.own (.l ((jhj f.1).map tu)) false false) .no)=.ok (.dat (tu x),stO f c k (.own (.l ((jhj f.1).map tu)) false false) .no):=by
    unfold stO;generalize (jhj f.1).map tu=ds at *;simp_arith[hat]
   rw[jad (jci ex (by simp[stO]))]
   show ∃g,LF g/\jgg (fD g)=false/\(evSs (jaa U W P n) U W _ (stO f c k (.own (.l ((jhj f.1).map tu)) false false) (.dat (tu x)))).bind (jbq 2)=_;have tC:evT (jaa U W P n) U (.and (.cmp .eq (.blt .len (.var 6)) (.blt .len (.var 2))) (.cmp .gt (.blt .sum (.var 6)) (.lit (.int 0)))) (stO f c k (.own (.l ((jhj f.1).map tu)) false false) (.dat (tu x)))=.ok ((x.length:Int) == f.1.length && decide ((0:Int) < x.sum),stO f c k (.own (.l ((jhj f.1).map tu)) false false) (.dat (tu x))):=by
    unfold stO;cases hc:((x.length:Int) == f.1.length) <;> (simp_arith[tu,jve,hc,bfD,jbg,Bool.true_and,Bool.false_and])
   have fin:∀y:List Int,TL y->jdX f.1.length (tu y)=false->∃g,LF g/\jgg (fD g)=false/\(evSs (jaa U W P n) U W (.cons (.ret (.tup (.cons (.var 2) (.cons (.bin .add (.bin .add (.slc (.var 3) .none (.some (.var 4))) (.tup (.cons (.var 6) .nil))) (.slc (.var 3) (.some (.var 4)) .none)) .nil)))) .nil) (stO f c k (.own (.l ((jhj f.1).map tu)) false false) (.dat (tu y)))).bind (jbq 2)=.ok (.dat (fD g),[.no,.no]):=fun y hy hg=>by
    refine⟨(f.1,f.2.take k++y::f.2.drop k),joC h1 h4 h hy k,jhi (.inr ⟨y,by simp,hg⟩),?_⟩
    rw[jaG (jbB (jsL (jaz (i:=6) (d:=tu y) rfl) h5))];rfl
   cases hC:((x.length:Int) == f.1.length && decide ((0:Int) < x.sum))with
   |true=>
    rw[hC]at tC;have ez:evE (jaa U W P n) U (.idx (.var 5) (.lit (.int 0))) (stO f c k (.own (.l ((jhj f.1).map tu)) false false) (.dat (tu x)))=.ok (.dat (tu (List.replicate f.1.length 0)),stO f c k (.own (.l ((jhj f.1).map tu)) false false) (.dat (tu x))):=rfl;rw[jad (ρ':=stO f c k (.own (.l ((jhj f.1).map tu)) false false) (.dat (tu (List.replicate f.1.length 0)))) (by
     rw[jg8 tC];simp only[if_true];rw[jad (jci ez (by simp[stO]))]
     rfl)]
    exact fin _ h0 (jlF (fun z hz=>by rw[List.eq_of_mem_replicate hz];exact Int.le_refl _) fun q=>by rw[jlG]at q;omega)
   |false=>
    rw[hC]at tC;rw[jad (jbh tC)];refine fin x hx' (jlF (fun z hz=>(hx'.2.2 z hz).1) fun q=>?_);rw[q.1,decide_eq_true q.2]at hC;simp at hC
end Law
namespace Law
open PySem L2 DJ Tx
variable {W n:Nat}
theorem jcY {r:List Nat}{c:Nat}(h:¬ (48<=c/\c<=57))(h45:c≠45):Bad (r++[c]):=by
 refine jfh (fun z=>?_) fun z=>?_
 ·have:(r++[c]).getLast?=some 45:=by rw[z];rfl
  rw[List.getLast?_concat]at this;injection this with this
  exact h45 this
 ·obtain⟨_,r',d,e,hd⟩:=z;have:(r++[c]).getLast?=some d:=by rw[e,List.getLast?_concat]
  rw[List.getLast?_concat]at this;injection this with this
  rw[this]at h;exact h hd
theorem ja4 {r:List Nat}{c:Nat}(h:¬ (48<=c/\c<=57))(h45:c≠45):Bad (c::r):=by
 refine jfh (fun z=>?_) fun z=>?_
 ·injection z with z
  exact h45 z
 ·obtain⟨⟨d,r',e,hd⟩,_⟩:=z;injection e with e
  rw[e]at h;exact h hd
theorem jnL:Bad [49,44,50,44,51,44,52,44,53]:=by
 have e:sT [([1,2,3,4,5],[])]=[49,44,50,44,51,44,52,44,53]:=by kernel_rfl
 rw[<-e];refine jlC (by simp) (fun f hf=>?_) (by kernel_rfl)
 rw[List.mem_singleton.mp hf];intro k hk;rw[List.mem_singleton.mp hk];refine⟨by simp,fun x hx=>?_⟩
 simp only[ju8,jvw,or_false]at hx;rcases hx with rfl | rfl | rfl | rfl | rfl <;> exact⟨by decide,by decide⟩
noncomputable def odds7:List (List Nat):=[[],[32],[45,45],[124],[45,124,45],[45,32,124,32,45],[44],[43],[48,44],[44,48],[48,43],[48,124,48],[49,44,50,44,51,44,52,44,53]]
theorem jlH:∀t∈odds7,Bad t:=fun t ht=>by
 simp only[odds7,ju8,jvw,or_false]at ht;rcases ht with rfl | rfl | rfl | rfl | rfl | rfl | rfl | rfl | rfl | rfl | rfl | rfl | rfl
 ·refine jfh (by simp) fun z=>?_
  obtain⟨⟨d,r',e,hd⟩,_⟩:=z;cases e
 ·exact ja4 (by omega) (by omega)
 ·exact jce (c:=45) (by simp) (by omega) (by simp)
 ·exact ja4 (by omega) (by omega)
 ·exact jce (c:=45) (by simp) (by omega) (by simp)
 ·exact jce (c:=45) (by simp) (by omega) (by simp)
 ·exact ja4 (by omega) (by omega)
 ·exact ja4 (by omega) (by omega)
 ·exact jcY (r:=[48]) (by omega) (by omega)
 ·exact ja4 (by omega) (by omega)
 ·exact jcY (r:=[48]) (by omega) (by omega)
 ·exact jlB (by decide)
 ·exact jnL
noncomputable def puts0:List (List Nat):=[[97],[33],[47],[46],[95],[10],[65],[42]]
noncomputable def puts1:List (List Nat):=[[32],[32,32],[124],[32,124],[124,32]]
theorem jlI {T:List Nat}{k:Nat}{u:List Nat}(h:u∈puts0):Bad (T.take k++u++T.drop k):=by
 have key:∀c:Nat,u=[c]->¬ (c=32\/c=124\/c=43\/c=44\/(48<=c/\c<=57))->c≠45->Bad (T.take k++u++T.drop k):=fun c e hc h45=>by
  have hm:c∈T.take k++u++T.drop k:=by rw[e];simp
  refine jce hm hc fun z=>?_;rw[z]at hm;exact h45 (List.mem_singleton.mp hm)
 simp only[puts0,ju8,jvw,or_false]at h;rcases h with h | h | h | h | h | h | h | h
 ·exact key _ h (by omega) (by omega)
 ·exact key _ h (by omega) (by omega)
 ·exact key _ h (by omega) (by omega)
 ·exact key _ h (by omega) (by omega)
 ·exact key _ h (by omega) (by omega)
 ·exact key _ h (by omega) (by omega)
 ·exact key _ h (by omega) (by omega)
 ·exact key _ h (by omega) (by omega)
theorem jlJ {T:List Nat}{k:Nat}{u:List Nat}(hT:T.count 32=2 * T.count 124)(h:u∈puts1):Bad (T.take k++u++T.drop k):=by
 have hc:∀c,(T.take k++u++T.drop k).count c=T.count c + u.count c:=fun c=>by
  have:=congrArg (List.count c) (List.take_append_drop k T);rw[List.count_append]at this;rw[List.count_append,List.count_append];omega
 refine jlB ?_;rw[hc,hc];have key:∀v:List Nat,u=v->v.count 32≠2 * v.count 124->T.count 32 + u.count 32≠2 * (T.count 124 + u.count 124):=fun v e hv=>by
  rw[e];omega
 simp only[puts1,ju8,jvw,or_false]at h;rcases h with h | h | h | h | h
 ·exact key _ h (by decide)
 ·exact key _ h (by decide)
 ·exact key _ h (by decide)
 ·exact key _ h (by decide)
 ·exact key _ h (by decide)
noncomputable def jjp (T:List Nat):List (List Nat):=[T++[44],[44]++T,T++[43],[43]++T,T++[32,124,32],[32,124,32]++T,T++[45]]
theorem jlK {T:List Nat}(hT:T≠[]):∀t∈jjp T,Bad t:=fun t ht=>by
 simp only[jjp,ju8,jvw,or_false]at ht;rcases ht with rfl | rfl | rfl | rfl | rfl | rfl | rfl
 ·exact jcY (by omega) (by omega)
 ·exact ja4 (by omega) (by omega)
 ·exact jcY (by omega) (by omega)
 ·exact ja4 (by omega) (by omega)
 ·have e:T++[32,124,32]=(T++[32,124])++[32]:=by rw[jvv];rfl
  rw[e];exact jcY (by omega) (by omega)
 ·exact ja4 (by omega) (by omega)
 ·refine jce (c:=45) (by simp) (by omega) fun z=>?_
  have:=congrArg List.length z;rw[jvj]at this;simp at this;exact hT this
section
variable {G:Calls}{ρ:Rho}{a b c:E}
theorem as3 {v1 v2 v3:Vl}(h:evE G U a ρ=.ok (v1,ρ))(h2:evE G U b ρ=.ok (v2,ρ))(h3:evE G U c ρ=.ok (v3,ρ)):evAs G U (.cons a (.cons b (.cons c .nil))) ρ=.ok ([v1,v2,v3],ρ):=by simp only[evAs,h,h2,h3,R.bind_ok']
end
noncomputable def stQ (fs:List Fan)(way c:Int)(T:List Nat)(k i:Nat):Rho:=[.dat (sD fs),.dat (.int way),.dat (.int c),.dat (.str (mk T)),.dat (.int k),.dat (.int i),.no,.no,.no,.no,.no,.no]
section
variable {fs:List Fan}{way c:Int}{T:List Nat}{k i:Nat}
theorem juX (hk:k<=T.length)(hT:T.length<=90000):∃t,Bad t/\t.length<=100000/\evE (jaa U W P (n + 1)) U (.call 16 [] (.cons (.var 3) (.cons (.var 4) (.cons (.idx (.lst (.cons (.lit (.str "a")) (.cons (.lit (.str "!")) (.cons (.lit (.str "/")) (.cons (.lit (.str ".")) (.cons (.lit (.str "_")) (.cons (.lit (.str "\n")) (.cons (.lit (.str "A")) (.cons (.lit (.str "*")) .nil))))))))) (.bin .mod (.bin .fdiv (.var 2) (.lit (.int 300))) (.lit (.int 8)))) .nil)))) (stQ fs way c T k i)=.ok (.dat (.str (mk t)),stQ fs way c T k i):=by
 have ee:evEs (jaa U W P (n + 1)) U (.cons (.lit (.str "a")) (.cons (.lit (.str "!")) (.cons (.lit (.str "/")) (.cons (.lit (.str ".")) (.cons (.lit (.str "_")) (.cons (.lit (.str "\n")) (.cons (.lit (.str "A")) (.cons (.lit (.str "*")) .nil)))))))) (stQ fs way c T k i)=.ok (puts0.map jaw,stQ fs way c T k i):=jae jam (jae jam (jae jam (jae jam (jae jam (jae jam (jae jam (jae jam jcX)))))));have ei:evE (jaa U W P (n + 1)) U (.bin .mod (.bin .fdiv (.var 2) (.lit (.int 300))) (.lit (.int 8))) (stQ fs way c T k i)=.ok (.dat (.int (c / 300 % 8)),stQ fs way c T k i):=by unfold stQ;simp_arith[]
 obtain⟨d,hd,hat⟩:=jbR (ds:=puts0.map jaw) (c:=c / 300) (m:=8) rfl (by decide)
 obtain⟨u,hu,rfl⟩:=List.mem_map.mp hd;have hul:u.length<=100:=by
  simp only[puts0,ju8,jvw,or_false]at hu;rcases hu with rfl | rfl | rfl | rfl | rfl | rfl | rfl | rfl <;> decide
 refine⟨_,jlI (T:=T) (k:=k) hu,?_,jah [.str (mk T),.int k,.str (mk u)] (as3 (jaz rfl) (jaz rfl) (jsX ee (by decide) ei hat)) (jsG (W:=W) (n:=n) T u k hk hT hul)⟩
 rw[jvj,jvj,List.length_take,List.length_drop];omega
theorem juY (hk:k<=T.length)(hT:T.length<=90000)(hc:T.count 32=2 * T.count 124):∃t,Bad t/\t.length<=100000/\evE (jaa U W P (n + 1)) U (.call 16 [] (.cons (.var 3) (.cons (.var 4) (.cons (.idx (.lst (.cons (.lit (.str " ")) (.cons (.lit (.str "  ")) (.cons (.lit (.str "|")) (.cons (.lit (.str " |")) (.cons (.lit (.str "| ")) .nil)))))) (.bin .mod (.bin .fdiv (.var 2) (.lit (.int 300))) (.lit (.int 5)))) .nil)))) (stQ fs way c T k i)=.ok (.dat (.str (mk t)),stQ fs way c T k i):=by
 have ee:evEs (jaa U W P (n + 1)) U (.cons (.lit (.str " ")) (.cons (.lit (.str "  ")) (.cons (.lit (.str "|")) (.cons (.lit (.str " |")) (.cons (.lit (.str "| ")) .nil))))) (stQ fs way c T k i)=.ok (puts1.map jaw,stQ fs way c T k i):=jae jam (jae jam (jae jam (jae jam (jae jam jcX))));have ei:evE (jaa U W P (n + 1)) U (.bin .mod (.bin .fdiv (.var 2) (.lit (.int 300))) (.lit (.int 5))) (stQ fs way c T k i)=.ok (.dat (.int (c / 300 % 5)),stQ fs way c T k i):=by unfold stQ;simp_arith[]
 obtain⟨d,hd,hat⟩:=jbR (ds:=puts1.map jaw) (c:=c / 300) (m:=5) rfl (by decide)
 obtain⟨u,hu,rfl⟩:=List.mem_map.mp hd;have hul:u.length<=100:=by
  simp only[puts1,ju8,jvw,or_false]at hu;rcases hu with rfl | rfl | rfl | rfl | rfl <;> decide
 refine⟨_,jlJ (T:=T) (k:=k) hc hu,?_,jah [.str (mk T),.int k,.str (mk u)] (as3 (jaz rfl) (jaz rfl) (jsX ee (by decide) ei hat)) (jsG (W:=W) (n:=n) T u k hk hT hul)⟩
 rw[jvj,jvj,List.length_take,List.length_drop];omega
theorem juZ {G:Calls}(h0:T≠[])(hT:T.length<=90000):∃t,Bad t/\t.length<=100000/\evE G U (.idx (.lst (.cons (.bin .add (.var 3) (.lit (.str ","))) (.cons (.bin .add (.lit (.str ",")) (.var 3)) (.cons (.bin .add (.var 3) (.lit (.str "+"))) (.cons (.bin .add (.lit (.str "+")) (.var 3)) (.cons (.bin .add (.var 3) (.lit (.str " | "))) (.cons (.bin .add (.lit (.str " | ")) (.var 3)) (.cons (.bin .add (.var 3) (.lit (.str "-"))) .nil)))))))) (.bin .mod (.var 2) (.lit (.int 7)))) (stQ fs way c T k i)=.ok (.dat (.str (mk t)),stQ fs way c T k i):=by
 have ev:evE G U (.var 3) (stQ fs way c T k i)=.ok (.dat (.str (mk T)),stQ fs way c T k i):=jaz rfl;have r:∀(u:List Nat) (z:Str),z=mk u->u.length<=10->evE G U (.bin .add (.var 3) (.lit (.str z))) (stQ fs way c T k i)=.ok (.dat (jaw (T++u)),stQ fs way c T k i):=fun u z e hu=>by rw[e];exact jdZ ev jam (by omega)
 have l:∀(u:List Nat) (z:Str),z=mk u->u.length<=10->evE G U (.bin .add (.lit (.str z)) (.var 3)) (stQ fs way c T k i)=.ok (.dat (jaw (u++T)),stQ fs way c T k i):=fun u z e hu=>by rw[e];exact jdZ jam ev (by omega)
 have ee:evEs G U (.cons (.bin .add (.var 3) (.lit (.str ","))) (.cons (.bin .add (.lit (.str ",")) (.var 3)) (.cons (.bin .add (.var 3) (.lit (.str "+"))) (.cons (.bin .add (.lit (.str "+")) (.var 3)) (.cons (.bin .add (.var 3) (.lit (.str " | "))) (.cons (.bin .add (.lit (.str " | ")) (.var 3)) (.cons (.bin .add (.var 3) (.lit (.str "-"))) .nil))))))) (stQ fs way c T k i)=.ok ((jjp T).map jaw,stQ fs way c T k i):=
  jae (r [44] "," rfl (by decide)) (jae (l [44] "," rfl (by decide)) (jae (r [43] "+" rfl (by decide)) (jae (l [43] "+" rfl (by decide)) (jae (r [32,124,32] " | " rfl (by decide)) (jae (l [32,124,32] " | " rfl (by decide)) (jae (r [45] "-" rfl (by decide)) jcX))))))
 have ei:evE G U (.bin .mod (.var 2) (.lit (.int 7))) (stQ fs way c T k i)=.ok (.dat (.int (c % 7)),stQ fs way c T k i):=by unfold stQ;simp_arith[]
 obtain⟨d,hd,hat⟩:=jbR (ds:=(jjp T).map jaw) (c:=c) (m:=7) rfl (by decide)
 obtain⟨u,hu,rfl⟩:=List.mem_map.mp hd;refine⟨u,jlK h0 u hu,?_,jsX ee (by simp[jjp]) ei hat⟩
 simp only[jjp,ju8,jvw,or_false]at hu;rcases hu with rfl | rfl | rfl | rfl | rfl | rfl | rfl <;> (rw[jvj];simp only[jvf,jvr];omega)
theorem ju0 {G:Calls}:∃t,Bad t/\t.length<=100000/\evE G U (.idx (.lst (.cons (.lit (.str "")) (.cons (.lit (.str " ")) (.cons (.lit (.str "--")) (.cons (.lit (.str "|")) (.cons (.lit (.str "-|-")) (.cons (.lit (.str "- | -")) (.cons (.lit (.str ",")) (.cons (.lit (.str "+")) (.cons (.lit (.str "0,")) (.cons (.lit (.str ",0")) (.cons (.lit (.str "0+")) (.cons (.lit (.str "0|0")) (.cons (.lit (.str "1,2,3,4,5")) .nil)))))))))))))) (.bin .mod (.var 2) (.lit (.int 13)))) (stQ fs way c T k i)=.ok (.dat (.str (mk t)),stQ fs way c T k i):=by
 have ee:evEs G U (.cons (.lit (.str "")) (.cons (.lit (.str " ")) (.cons (.lit (.str "--")) (.cons (.lit (.str "|")) (.cons (.lit (.str "-|-")) (.cons (.lit (.str "- | -")) (.cons (.lit (.str ",")) (.cons (.lit (.str "+")) (.cons (.lit (.str "0,")) (.cons (.lit (.str ",0")) (.cons (.lit (.str "0+")) (.cons (.lit (.str "0|0")) (.cons (.lit (.str "1,2,3,4,5")) .nil))))))))))))) (stQ fs way c T k i)=.ok (odds7.map jaw,stQ fs way c T k i):=
  jae jam (jae jam (jae jam (jae jam (jae jam (jae jam (jae jam (jae jam (jae jam (jae jam (jae jam (jae jam (jae jam jcX))))))))))))
 have ei:evE G U (.bin .mod (.var 2) (.lit (.int 13))) (stQ fs way c T k i)=.ok (.dat (.int (c % 13)),stQ fs way c T k i):=by unfold stQ;simp_arith[]
 obtain⟨d,hd,hat⟩:=jbR (ds:=odds7.map jaw) (c:=c) (m:=13) rfl (by decide)
 obtain⟨u,hu,rfl⟩:=List.mem_map.mp hd;refine⟨u,jlH u hu,?_,jsX ee (by decide) ei hat⟩
 simp only[odds7,ju8,jvw,or_false]at hu;rcases hu with rfl | rfl | rfl | rfl | rfl | rfl | rfl | rfl | rfl | rfl | rfl | rfl | rfl <;> decide
end
end Law
namespace Law
open PySem L2 DJ Tx
variable {W n:Nat}
theorem LF.fo {f:Fan}(h:LF f):FO f:=fun k hk=>⟨(h.1 k hk).1,(h.1 k hk).2.2⟩
theorem jqH {fs:List Fan}(h:∀f∈fs,LF f):(sT fs).length<=fs.length * 1743:=by
 have:=jb6 [32,124,32] 1740 (fs.map fT) fun p hp=>by
  obtain⟨f,hf,rfl⟩:=List.mem_map.mp hp;exact jcU (h f hf)
 rw[jve]at this;exact this
theorem jfi {fs:List Fan}(h:∀f∈fs,LF f):(txt fs).length<=fs.length * 1743 + 1:=by
 cases fs with
 |nil=>exact jvK _
 |cons f fs=>exact jvN (jqH h) (by omega)
theorem jlL {fs:List Fan}(h:fs≠[]):txt fs=sT fs:=by
 cases fs with
 |nil=>exact absurd rfl h
 |cons _ _=>rfl
section
variable {fs:List Fan}{way c:Int}{T:List Nat}{k i l:Nat}{s6 s7 s8 s9 s10 s11:Sl}
theorem jh9 {G:Calls}{ρ:Rho}(h0:ρ[0]?=some (.dat (sD fs)))(h5:ρ[5]?=some (.dat (.int i))):evE G U (.slc (.var 0) .none (.some (.var 5))) ρ=.ok (.dat (sD (fs.take i)),ρ):=by
 have:=jhh (G:=G) (a:=.var 0) (ρ:=ρ) (l:=fs.map fD) (jaz h0) jcr (jcq (a:=.var 5) (jaz h5));rw[jbl,jdy]at this;exact this
theorem joD {G:Calls}{ρ:Rho}(h0:ρ[0]?=some (.dat (sD fs)))(h5:ρ[5]?=some (.dat (.int i))):evE G U (.slc (.var 0) (.some (.var 5)) .none) ρ=.ok (.dat (sD (fs.drop i)),ρ):=by
 have:=jhh (G:=G) (a:=.var 0) (ρ:=ρ) (l:=fs.map fD) (jaz h0) (jcq (a:=.var 5) (jaz h5)) jcr;rw[jbl,jbO]at this;exact this
theorem jlM {G:Calls}{ρ:Rho}(h0:ρ[0]?=some (.dat (sD fs)))(h5:ρ[5]?=some (.dat (.int i))):evE G U (.slc (.var 0) (.some (.bin .add (.var 5) (.lit (.int 1)))) .none) ρ=.ok (.dat (sD (fs.drop (i + 1))),ρ):=by
 have e:evE G U (.bin .add (.var 5) (.lit (.int 1))) ρ=.ok (.dat (.int ((i + 1:Nat):Int)),ρ):=by
  rw[evE,jaz h5];simp only[R.bind_ok',jam,jab,jeY];rfl
 have:=jhh (G:=G) (a:=.var 0) (ρ:=ρ) (l:=fs.map fD) (jaz h0) (jcq e) jcr;rw[jbl,jbO]at this;exact this
theorem joE {G:Calls}{ρ:Rho}{a b:E}{A B:List Fan}{e:E}{g:Fan}(ha:evE G U a ρ=.ok (.dat (sD A),ρ))(he:evE G U e ρ=.ok (.dat (fD g),ρ))(hb:evE G U b ρ=.ok (.dat (sD B),ρ))(hl:A.length + B.length<=900):evE G U (.bin .add (.bin .add a (.tup (.cons e .nil))) b) ρ=.ok (.dat (sD (A++g::B)),ρ):=by
 have:=jd1 (jd1 ha (jcs he) (by rw[jve];simp only[jvf,jvr];omega)) hb (by rw[jvj,jve,jve];simp only[jvf,jvr];omega)
 rw[this];show R.ok (Vl.dat (.tup (A.map fD++[fD g]++B.map fD)),ρ)=R.ok (Vl.dat (.tup ((A++g::B).map fD)),ρ);rw[List.map_append,jvc,jvv];rfl
theorem jsM {A B:List Fan}{g:Fan}(h:jgg (fD g)=false):jf7 (sD (A++g::B))=false:=by
 simp only[sD,jf7];rw[Bool.and_eq_false_iff];exact .inl (List.all_eq_false.mpr ⟨fD g,List.mem_map.mpr ⟨g,by simp,rfl⟩,by rw[h];exact jvR⟩)
theorem jqI {gs:List Fan}{f g:Fan}(hf:f∈gs)(hg:g∈gs)(h:fl (fD f)≠fl (fD g)):jf7 (sD gs)=false:=by
 cases e:jf7 (sD gs)with
 |false=>rfl
 |true=>
  simp only[sD,jf7,jvP]at e;have h1:=List.all_eq_true.mp e.2 (fD f) (List.mem_map.mpr ⟨f,hf,rfl⟩);have h2:=List.all_eq_true.mp e.2 (fD g) (List.mem_map.mpr ⟨g,hg,rfl⟩);exact absurd ((eq_of_beq h1).trans (eq_of_beq h2).symm) h
theorem joF {A B:List Fan}{g:Fan}(hA:∀f∈A,LF f)(hg:LF g)(hB:∀f∈B,LF f):∀f∈A++g::B,LF f:=fun f hf=>by
 rcases List.mem_append.mp hf with hf | hf
 ·exact hA f hf
 ·rcases List.mem_cons.mp hf with rfl | hf
  ·exact hg
  ·exact hB f hf
theorem jlN {gs:List Fan}{ρ:Rho}{e:E}(hg:∀f∈gs,LF f)(hn:gs≠[])(hl:gs.length<=48)(hb:jf7 (sD gs)=false)(he:evE (jaa U W P (n + 1)) U e ρ=.ok (.dat (sD gs),ρ)):∃t,Bad t/\t.length<=100000/\evE (jaa U W P (n + 1)) U (.call 14 [] (.cons e .nil)) ρ=.ok (.dat (.str (mk t)),ρ):=by
 have:=jah (G:=jaa U W P (n + 1)) (U:=U) (k:=14) (ρ:=ρ) (es:=.cons e .nil) [sD gs] (as1 he) (jcV (W:=W) (n:=n) gs hg hl);rw[jlL hn]at this;exact⟨sT gs,jlC hn (fun f hf=>(hg f hf).fo) hb,jvN (jos hg hl) (by omega),this⟩
theorem ju1 (h1:1<=l)(h4:l<=4)(h:∀f∈fs,GF l f)(hn:fs.length<=21)(hi:i < fs.length):∃t,Bad t/\t.length<=100000/\evE (jaa U W P (n + 1)) U (.call 14 [] (.cons (.bin .add (.bin .add (.slc (.var 0) .none (.some (.var 5))) (.tup (.cons (.call 18 [] (.cons (.idx (.var 0) (.var 5)) (.cons (.bin .fdiv (.var 2) (.lit (.int 70))) .nil))) .nil))) (.slc (.var 0) (.some (.bin .add (.var 5) (.lit (.int 1)))) .none)) .nil)) (stQ fs way c T k i)=.ok (.dat (.str (mk t)),stQ fs way c T k i):=by
 have hf:=h fs[i] (List.getElem_mem hi);have hg:(fs.map fD)[i]?=some (fD fs[i]):=by rw[jvb,ju5 hi];rfl
 have g:=jsU hg;obtain⟨q,hq,hqb,eq⟩:=jqG (W:=W) (n:=n) fs[i] (c / 70) h1 h4 hf;have e0:evE (jaa U W P (n + 1)) U (.idx (.var 0) (.var 5)) (stQ fs way c T k i)=.ok (.dat (fD fs[i]),stQ fs way c T k i):=by
  unfold stQ sD;simp_arith[g]
 have e1:evE (jaa U W P (n + 1)) U (.bin .fdiv (.var 2) (.lit (.int 70))) (stQ fs way c T k i)=.ok (.dat (.int (c / 70)),stQ fs way c T k i):=by unfold stQ;simp_arith[]
 have e2:=jah (G:=jaa U W P (n + 1)) (U:=U) (k:=18) (ρ:=stQ fs way c T k i) (es:=.cons (.idx (.var 0) (.var 5)) (.cons (.bin .fdiv (.var 2) (.lit (.int 70))) .nil)) [fD fs[i],.int (c / 70)] (as2 e0 e1) eq;refine jlN (joF (fun f hf=>(h f (List.mem_of_mem_take hf)).lf h1 h4) hq fun f hf=>(h f (List.mem_of_mem_drop hf)).lf h1 h4) (by simp) ?_ (jsM hqb) (joE (jh9 (i:=i) rfl rfl) e2 (jlM (i:=i) rfl rfl) ?_)
 ·rw[jvj,jvf,List.length_take,List.length_drop];omega
 ·rw[List.length_take,List.length_drop];omega
theorem jur {s11:Sl}{g:Fan}(h1:1<=l)(h4:l<=4)(h:∀f∈fs,GF l f)(hn:fs.length<=21)(hi:i < fs.length)(hg:LF g)(hl:g.1.length≠l){ρ:Rho}(r0:ρ[0]?=some (.dat (sD fs)))(r5:ρ[5]?=some (.dat (.int i)))(r11:ρ[11]?=some (.dat (fD g))):∃t,Bad t/\t.length<=100000/\evE (jaa U W P (n + 1)) U (.call 14 [] (.cons (.bin .add (.bin .add (.slc (.var 0) .none (.some (.var 5))) (.tup (.cons (.var 11) .nil))) (.slc (.var 0) (.some (.var 5)) .none)) .nil)) ρ=.ok (.dat (.str (mk t)),ρ):=by
 refine jlN (joF (fun f hf=>(h f (List.mem_of_mem_take hf)).lf h1 h4) hg fun f hf=>(h f (List.mem_of_mem_drop hf)).lf h1 h4) (by simp) ?_ (jqI (f:=fs[i]) (g:=g) ?_ (by simp) ?_) (joE (jh9 r0 r5) (jaz r11) (joD r0 r5) ?_)
 ·rw[jvj,jvf,List.length_take,List.length_drop];omega
 ·refine jvg _ (ju6 _ ?_);rw[List.drop_eq_getElem_cons hi];exact ju7
 ·rw[jlx (h _ (List.getElem_mem hi))];show l≠jgf (tu g.1);rw[jcy];exact fun z=>hl z.symm
 ·rw[List.length_take,List.length_drop];omega
theorem ju2 (h1:1<=l)(h4:l<=4)(h:∀f∈fs,GF l f)(hn:fs.length<=21)(hi:i < fs.length):∃t,Bad t/\t.length<=100000/\evE (jaa U W P (n + 1)) U (.bin .add (.bin .add (.call 14 [] (.cons (.slc (.var 0) .none (.some (.var 5))) .nil)) (.lit (.str " | - | "))) (.call 14 [] (.cons (.slc (.var 0) (.some (.var 5)) .none) .nil))) (stQ fs way c T k i)=.ok (.dat (.str (mk t)),stQ fs way c T k i):=by
 have lfT:∀f∈fs.take i,LF f:=fun f hf=>(h f (List.mem_of_mem_take hf)).lf h1 h4;have lfD:∀f∈fs.drop i,LF f:=fun f hf=>(h f (List.mem_of_mem_drop hf)).lf h1 h4;have l1:(fs.take i).length<=21:=by rw[List.length_take];omega
 have l2:(fs.drop i).length<=21:=by rw[List.length_drop];omega
 have b1:=jfi lfT;have b2:=jfi lfD;have b1:(txt (fs.take i)).length<=36604:=by omega
 have b2:(txt (fs.drop i)).length<=36604:=by omega
 have e1:=jah (G:=jaa U W P (n + 1)) (U:=U) (k:=14) (ρ:=stQ fs way c T k i) (es:=.cons (.slc (.var 0) .none (.some (.var 5))) .nil) [sD (fs.take i)] (as1 (jh9 (i:=i) rfl rfl)) (jcV (W:=W) (n:=n) _ lfT (by omega))
 have e2:=jah (G:=jaa U W P (n + 1)) (U:=U) (k:=14) (ρ:=stQ fs way c T k i) (es:=.cons (.slc (.var 0) (.some (.var 5)) .none) .nil) [sD (fs.drop i)] (as1 (joD (i:=i) rfl rfl)) (jcV (W:=W) (n:=n) _ lfD (by omega))
 have e3:=jdZ (jdZ e1 (jam (d:=.str (mk [32,124,32,45,32,124,32]))) (by simp only[jvf,jvr];omega)) e2 (by rw[jvj];simp only[jvf,jvr];omega)
 refine⟨_,jce (c:=45) (by simp) (by omega) fun z=>?_,?_,e3⟩
 ·have:=congrArg List.length z;rw[jvj,jvj]at this;simp only[jvf,jvr]at this;omega
 ·rw[jvj,jvj];simp only[jvf,jvr];omega
theorem jia (s:List Nat):∀(A r:List (List Nat)),A≠[]->jls s (jls s A::r)=jls s (A++r)
 |[],_,h=>absurd rfl h
 |[x],r,_=>by
  show jls s ((x++[])::r)=jls s (x::r);rw[jvu]
 |x::y::A,r,_=>by
  have ih:=jia s (y::A) r (by simp)
  have e:jls s ((x++(s++jls s (y::A)))::r)=jls s (x::jls s (y::A)::r):=jdn s x _ r;show jls s ((x++(s++jls s (y::A)))::r)=x++(s++jls s ((y::A)++r));rw[e,<-ih];rfl
theorem jnM (s:List Nat)(r:List (List Nat)):∃q,∀x,jls s (x::r)=x++q:=by
 cases r with
 |nil=>exact⟨[],fun x=>rfl⟩
 |cons y r=>exact⟨s++jls s (y::r),fun x=>rfl⟩
theorem jnN {x m:Int}(hx:Nm x)(hm:0<=m)(hm2:m < 1000000000000000):∀w∈jgd x m,w.length<=17:=fun w h=>by
 have:=(jbG hx).2;simp only[jgd,ju8,jvw,or_false]at h;rcases h with rfl | rfl | rfl | rfl | rfl | rfl | rfl | rfl | rfl | rfl
 ·rw[jvf];omega
 ·unfold jd3;rw[jve];exact jvN ((Nat.length_toDigits_le_iff (b:=10) (k:=16) (by decide) (by decide)).mpr (by omega)) (by decide)
 ·decide
 ·decide
 ·rw[jvj,jvf,jvr];omega
 ·decide
 ·decide
 ·decide
 ·decide
 ·decide
theorem jlO {a b:List Int}{w:List Nat}{ss:List (List Int)}(ha:∀x∈a,Nm x)(hb:∀x∈b,Nm x)(hw:w.length<=17)(hab:a.length + b.length<=3)(hs:∀k∈ss,TL k)(hl:ss.length<=4):(jdq a w b ss).length<=1740:=by
 have h1:=jb6 [44] 17 (a.map nT++w::b.map nT) fun p hp=>by
  rcases List.mem_append.mp hp with hp | hp
  ·obtain⟨x,hx,rfl⟩:=List.mem_map.mp hp;exact jvN (jbG (ha x hx)).2 (by decide)
  ·rcases List.mem_cons.mp hp with rfl | hp
   ·exact hw
   ·obtain⟨x,hx,rfl⟩:=List.mem_map.mp hp;exact jvN (jbG (hb x hx)).2 (by decide)
 rw[jvj,jvf,jve,jve]at h1;have h1:(jls [44] (a.map nT++w::b.map nT)).length<=289:=jvN h1 (jvN (Nat.mul_le_mul_right 18 (show a.length + (b.length + 1)<=4 by omega)) (by decide))
 have h2:=jb6 [43] 289 (jls [44] (a.map nT++w::b.map nT)::ss.map tT) fun p hp=>by
  rcases List.mem_cons.mp hp with rfl | hp
  ·exact h1
  ·obtain⟨k,hk,rfl⟩:=List.mem_map.mp hp;exact jdY (hs k hk)
 rw[jvf,jve]at h2;exact jvN h2 (jvN (Nat.mul_le_mul_right 290 (show ss.length + 1<=6 by omega)) (by decide))
end
end Law
namespace Law
open PySem L2 DJ Tx
variable {W n:Nat}
noncomputable def stR (fs:List Fan)(way c:Int)(T:List Nat)(k i:Nat)(s6 s7 s8 s9 s10:Sl):Rho:=[.dat (sD fs),.dat (.int way),.dat (.int c),.dat (.str (mk T)),.dat (.int k),.dat (.int i),s6,s7,s8,s9,s10,.no]
theorem jlP (f:Fan):txt [f]=fT f:=by
 show fT f++[]=fT f;rw[jvu]
theorem jib {s:List Nat}{z:Str}(hz:z=mk s){ps:List (List Nat)}{B:Nat}(h:∀p∈ps,p.length<=B)(hB:ps.length * B + ps.length * s.length<=16777216):smD .join z (.lst (ps.map jaw))=.ok (.dat (.str (mk (jls s ps)))):=by rw[hz];exact jdz h hB
noncomputable def jsN (z:Bool)(t:List Nat):List (List Nat):=if z then [t] else []
theorem jnO {z:Bool}{t:List Nat}:(if z then [D.str (mk t)] else [])=(jsN z t).map jaw:=by cases z <;> rfl
theorem jnP {z:Bool}{t:List Nat}:(jsN z t).length<=1:=by cases z <;> exact(by simp[jsN])
theorem jnQ {z:Bool}{t p:List Nat}(h:p∈jsN z t):p=t:=by
 cases z with
 |false=>cases h
 |true=>exact List.mem_singleton.mp h
section
variable {fs:List Fan}{way c:Int}{T:List Nat}{k i l:Nat}
noncomputable def b3:Ss:=.cons (.unp [6,7] (.idx (.var 0) (.var 5))) (
  .cons (.asg 8 (.bin .mod (.bin .fdiv (.var 2) (.lit (.int 70))) (.blt .len (.var 6)))) (
  .cons (.asg 9 (jaV)) (
  .cons (.sub 9 (.var 8) (.call 17 [] (.cons (.bin .fdiv (.var 2) (.lit (.int 300))) (.cons (.idx (.var 9) (.var 8)) .nil)))) (
  .cons (.asg 10 (.slc (.call 14 [] (.cons (.tup (.cons (.tup (.cons (.var 6) (.cons (.var 7) .nil))) .nil)) .nil)) (.some (.blt .len (.call 14 [] (.cons (.tup (.cons (.tup (.cons (.var 6) (.cons (.tup (.nil)) .nil))) .nil)) .nil)))) .none)) (
  .cons (.asg 9 (.bin .add (.bin .mul (.lst (.cons (.call 14 [] (.cons (.slc (.var 0) .none (.some (.var 5))) .nil)) .nil)) (.cmp .gt (.var 5) (.lit (.int 0)))) (.lst (.cons (.bin .add (.sm .join (.lit (.str ",")) (.var 9)) (.var 10)) .nil)))) (
  .cons (.ret (.sm .join (.lit (.str " | ")) (.bin .add (.var 9) (jaW)))) (
  .nil)))))))
theorem ju3 (h1:1<=l)(h4:l<=4)(h:∀f∈fs,GF l f)(hn:fs.length<=21)(hi:i < fs.length):∃t,Bad t/\t.length<=100000/\∃r,evSs (jaa U W P (n + 1)) U W b3 (stQ fs way c T k i)=.ok (.rt (.dat (.str (mk t))) (.dat (sD fs)::.dat (.int way)::.dat (.int c)::r)):=by
 obtain⟨f,hfe⟩:∃f,fs[i]=f:=⟨_,rfl⟩;have hf:GF l f:=by rw[<-hfe];exact h fs[i] (List.getElem_mem hi)
 have hg:(fs.map fD)[i]?=some (fD f):=by rw[jvb,ju5 hi,hfe];rfl
 have g:=jsU hg;obtain⟨b,ss⟩:=f;have hb:b.length=l:=hf.1.1;have hbN:∀x∈b,Nm x:=hf.1.2;have hss:∀k∈ss,TL k:=fun k hk=>(hf.2.1 k hk).1.tl h1 h4;have hsl:ss.length<=4:=hf.2.2.2;have hLF:LF (b,ss):=hf.lf h1 h4;obtain⟨j,hj⟩:∃j:Nat,(j:Int)=c / 70 % ((b.map D.int).length:Int):=⟨(c / 70 % ((b.map D.int).length:Int)).toNat,by
  have:=Int.emod_nonneg (c / 70) (show ((b.map D.int).length:Int)≠0 by rw[jve];omega)
  omega⟩
 have hjl:j < b.length:=by
  have:=Int.emod_lt_of_pos (c / 70) (show (0:Int) < ((b.map D.int).length:Int)by rw[jve];omega)
  rw[jve]at this hj;omega
 have e0:evE (jaa U W P (n + 1)) U (.idx (.var 0) (.var 5)) (stQ fs way c T k i)=.ok (.dat (fD (b,ss)),stQ fs way c T k i):=by
  unfold stQ sD;simp_arith[g]
 have i1:evS (jaa U W P (n + 1)) U W (.unp [6,7] (.idx (.var 0) (.var 5))) (stQ fs way c T k i)=.ok (.nx (stR fs way c T k i (.dat (tu b)) (.dat (.tup (ss.map tu))) .no .no .no)):=by
  rw[evS,e0];rfl
 have i2:evS (jaa U W P (n + 1)) U W (.asg 8 (.bin .mod (.bin .fdiv (.var 2) (.lit (.int 70))) (.blt .len (.var 6)))) (stR fs way c T k i (.dat (tu b)) (.dat (.tup (ss.map tu))) .no .no .no)=.ok (.nx (stR fs way c T k i (.dat (tu b)) (.dat (.tup (ss.map tu))) (.dat (.int j)) .no .no)):=by
  unfold stR tu;simp_arith[if_pos (show (0:Int) < ((b.map D.int).length:Int)by rw[jve];omega)]
  rw[<-hj]
 have ec:evE (jaa U W P (n + 1)) U jaV (stR fs way c T k i (.dat (tu b)) (.dat (.tup (ss.map tu))) (.dat (.int j)) .no .no)=.ok (.tmp (.l (b.map fun x=>jaw (nT x))),stR fs way c T k i (.dat (tu b)) (.dat (.tup (ss.map tu))) (.dat (.int j)) .no .no):=by
  refine jaB (h:=D.int) (g:=fun x=>jaw (nT x)) (xs:=b) rfl (fun x hx=>?_) fun s=>rfl;show evE (jaa U W P (n + 1)) U (.blt .str (.var 0)) [.dat (.int x)]=_;simp_arith[bf_str (hbN x hx)];rfl
 have i3:evS (jaa U W P (n + 1)) U W (.asg 9 jaV) (stR fs way c T k i (.dat (tu b)) (.dat (.tup (ss.map tu))) (.dat (.int j)) .no .no)=.ok (.nx (stR fs way c T k i (.dat (tu b)) (.dat (.tup (ss.map tu))) (.dat (.int j)) (.own (.l (b.map fun x=>jaw (nT x))) false false) .no)):=jgz ec (by simp[stR])
 have hx:=hbN b[j] (List.getElem_mem hjl);obtain⟨w,hw,ew⟩:=jsI (W:=W) (n:=n) (c / 300) b[j] hx;have hm:=Int.emod_nonneg (c / 300) (show (1000000000000000:Int)≠0 by decide)
 have hm2:=Int.emod_lt_of_pos (c / 300) (show (0:Int) < 1000000000000000 by decide)
 have hwl:=jnN hx hm hm2 w hw;have hat:DJ.atI (b.map fun x=>jaw (nT x)) (j:Int)=.ok (jaw (nT b[j])):=jsU (by rw[jvb,ju5 hjl];rfl)
 have ex:evE (jaa U W P (n + 1)) U (.idx (.var 9) (.var 8)) (stR fs way c T k i (.dat (tu b)) (.dat (.tup (ss.map tu))) (.dat (.int j)) (.own (.l (b.map fun x=>jaw (nT x))) false false) .no)=.ok (.dat (jaw (nT b[j])),stR fs way c T k i (.dat (tu b)) (.dat (.tup (ss.map tu))) (.dat (.int j)) (.own (.l (b.map fun x=>jaw (nT x))) false false) .no):=by
  unfold stR;generalize (b.map fun x=>jaw (nT x))=xs at hat;simp_arith[hat]
 have ed:evE (jaa U W P (n + 1)) U (.bin .fdiv (.var 2) (.lit (.int 300))) (stR fs way c T k i (.dat (tu b)) (.dat (.tup (ss.map tu))) (.dat (.int j)) (.own (.l (b.map fun x=>jaw (nT x))) false false) .no)=.ok (.dat (.int (c / 300)),stR fs way c T k i (.dat (tu b)) (.dat (.tup (ss.map tu))) (.dat (.int j)) (.own (.l (b.map fun x=>jaw (nT x))) false false) .no):=by
  unfold stR;simp_arith[]
 have e17:=jah (G:=jaa U W P (n + 1)) (U:=U) (k:=17) (es:=.cons (.bin .fdiv (.var 2) (.lit (.int 300))) (.cons (.idx (.var 9) (.var 8)) .nil)) [.int (c / 300),jaw (nT b[j])] (as2 ed ex) ew;have hset:(b.map fun x=>jaw (nT x)).set j (jaw w)=((b.take j).map nT++w::(b.drop (j + 1)).map nT).map jaw:=by
  rw[List.set_eq_take_append_cons_drop,if_pos (by rw[jve];exact hjl),List.map_append,jvc,<-List.map_take,<-List.map_drop,List.map_map,List.map_map]
  rfl
 have i4:evS (jaa U W P (n + 1)) U W (.sub 9 (.var 8) (.call 17 [] (.cons (.bin .fdiv (.var 2) (.lit (.int 300))) (.cons (.idx (.var 9) (.var 8)) .nil)))) (stR fs way c T k i (.dat (tu b)) (.dat (.tup (ss.map tu))) (.dat (.int j)) (.own (.l (b.map fun x=>jaw (nT x))) false false) .no)=.ok (.nx (stR fs way c T k i (.dat (tu b)) (.dat (.tup (ss.map tu))) (.dat (.int j)) (.own (.l (((b.take j).map nT++w::(b.drop (j + 1)).map nT).map jaw)) false false) .no)):=by
  rw[evS,e17,<-hset];have hjl2:0<=(j:Int)/\(j:Int) < ((b.map fun x=>jaw (nT x)).length:Int):=⟨by omega,by rw[jve];omega⟩
  unfold stR;generalize (b.map fun x=>jaw (nT x))=xs at hjl2;simp only[R.bind_ok',jdb,evE,jvp,jvq,if_pos hjl2,Int.toNat_natCast,List.set_cons_zero,List.set_cons_succ];rfl
 obtain⟨q,hq⟩:=jnM [43] (ss.map tT);have hfT:fT (b,ss)=tT b++q:=hq (tT b);have hX:jls [44] ((b.take j).map nT++w::(b.drop (j + 1)).map nT)++q=jdq (b.take j) w (b.drop (j + 1)) ss:=(hq _).symm;have haN:∀x∈b.take j,Nm x:=fun x hx=>hbN x (List.mem_of_mem_take hx);have hcN:∀x∈b.drop (j + 1),Nm x:=fun x hx=>hbN x (List.mem_of_mem_drop hx);have hab:(b.take j).length + (b.drop (j + 1)).length<=3:=by rw[List.length_take,List.length_drop];omega
 have hXl:=jlO haN hcN hwl hab hss hsl;have hjl3:(jls [44] ((b.take j).map nT++w::(b.drop (j + 1)).map nT)).length + q.length<=1740:=by
  rw[<-jvj,hX];exact hXl
 have hwsl:∀p∈(b.take j).map nT++w::(b.drop (j + 1)).map nT,p.length<=17:=fun p hp=>by
  rcases List.mem_append.mp hp with hp | hp
  ·obtain⟨x,hx,rfl⟩:=List.mem_map.mp hp;exact jvN (jbG (haN x hx)).2 (by decide)
  ·rcases List.mem_cons.mp hp with rfl | hp
   ·exact hwl
   ·obtain⟨x,hx,rfl⟩:=List.mem_map.mp hp;exact jvN (jbG (hcN x hx)).2 (by decide)
 have hwsn:((b.take j).map nT++w::(b.drop (j + 1)).map nT).length<=4:=by
  rw[jvj,jvf,jve,jve];omega
 have ej:=jib (z:=",") (s:=[44]) rfl hwsl (by simp only[jvf,jvr];omega)
 generalize (b.take j).map nT++w::(b.drop (j + 1)).map nT=ws at i4 hX hjl3 ej;let ρ1:Rho:=stR fs way c T k i (.dat (tu b)) (.dat (.tup (ss.map tu))) (.dat (.int j)) (.own (.l (ws.map jaw)) false false) .no;have f1:evE (jaa U W P (n + 1)) U (.tup (.cons (.tup (.cons (.var 6) (.cons (.var 7) .nil))) .nil)) ρ1=.ok (.dat (sD [(b,ss)]),ρ1):=jcs (jge (jaz rfl) (jaz rfl));have f2:evE (jaa U W P (n + 1)) U (.tup (.cons (.tup (.cons (.var 6) (.cons (.tup (.nil)) .nil))) .nil)) ρ1=.ok (.dat (sD [(b,[])]),ρ1):=jcs (jge (d':=.tup []) (jaz rfl) rfl);have hLF0:LF (b,[]):=⟨fun y hy=>hLF.1 y (by rw[List.mem_singleton.mp hy];exact ju7),Nat.zero_le _⟩
 have g1:=jah (G:=jaa U W P (n + 1)) (U:=U) (k:=14) (ρ:=ρ1) (es:=.cons (.tup (.cons (.tup (.cons (.var 6) (.cons (.var 7) .nil))) .nil)) .nil) [sD [(b,ss)]] (as1 f1) (jcV (W:=W) (n:=n) [(b,ss)] (fun f hf=>by rw[List.mem_singleton.mp hf];exact hLF) (by simp))
 have g2:=jah (G:=jaa U W P (n + 1)) (U:=U) (k:=14) (ρ:=ρ1) (es:=.cons (.tup (.cons (.tup (.cons (.var 6) (.cons (.tup (.nil)) .nil))) .nil)) .nil) [sD [(b,[])]] (as1 f2) (jcV (W:=W) (n:=n) [(b,[])] (fun f hf=>by rw[List.mem_singleton.mp hf];exact hLF0) (by simp))
 rw[jlP,hfT]at g1;have hb0:fT (b,[])=tT b:=by
  show tT b++[]=tT b;rw[jvu]
 rw[jlP,hb0]at g2;have htl:=jdY (hLF.1 b ju7);have hfl:=jcU hLF;rw[hfT,jvj]at hfl;have g3:evE (jaa U W P (n + 1)) U (.blt .len (.call 14 [] (.cons (.tup (.cons (.tup (.cons (.var 6) (.cons (.tup (.nil)) .nil))) .nil)) .nil))) ρ1=.ok (.dat (.int ((tT b).length:Nat)),ρ1):=by
  rw[evE,g2];simp only[R.bind_ok',jab,jh5 (show (tT b).length<=100000 by omega)]
 have g4:=jqC g1 (by rw[jvj];omega) (jcq g3) jcr (jc0 (tT b++q) (tT b).length (by rw[jvj];omega))
 rw[List.drop_left]at g4;have i5:evS (jaa U W P (n + 1)) U W (.asg 10 (.slc (.call 14 [] (.cons (.tup (.cons (.tup (.cons (.var 6) (.cons (.var 7) .nil))) .nil)) .nil)) (.some (.blt .len (.call 14 [] (.cons (.tup (.cons (.tup (.cons (.var 6) (.cons (.tup (.nil)) .nil))) .nil)) .nil)))) .none)) ρ1=.ok (.nx (stR fs way c T k i (.dat (tu b)) (.dat (.tup (ss.map tu))) (.dat (.int j)) (.own (.l (ws.map jaw)) false false) (.dat (.str (mk q))))):=jci g4 (by simp[ρ1,stR])
 let ρ2:Rho:=stR fs way c T k i (.dat (tu b)) (.dat (.tup (ss.map tu))) (.dat (.int j)) (.own (.l (ws.map jaw)) false false) (.dat (.str (mk q)))
 have lfT:∀f∈fs.take i,LF f:=fun f hf=>(h f (List.mem_of_mem_take hf)).lf h1 h4;have l1:(fs.take i).length<=20:=by rw[List.length_take];omega
 have l2:(fs.drop (i + 1)).length<=20:=by rw[List.length_drop];omega
 have b1:=jfi lfT;have u1:=jah (G:=jaa U W P (n + 1)) (U:=U) (k:=14) (ρ:=ρ2) (es:=.cons (.slc (.var 0) .none (.some (.var 5))) .nil) [sD (fs.take i)] (as1 (jh9 (i:=i) rfl rfl)) (jcV (W:=W) (n:=n) _ lfT (by omega))
 have u2:=jjo (jae u1 jcX) (by simp)
 have u3:evE (jaa U W P (n + 1)) U (.cmp .gt (.var 5) (.lit (.int 0))) ρ2=.ok (.dat (.bl (decide ((0:Int) < i))),ρ2):=by
  simp only[ρ2,stR];simp_arith[]
 let pre:List (List Nat):=jsN (decide ((0:Int) < i)) (txt (fs.take i))
 have u4:evE (jaa U W P (n + 1)) U (.bin .mul (.lst (.cons (.call 14 [] (.cons (.slc (.var 0) .none (.some (.var 5))) .nil)) .nil)) (.cmp .gt (.var 5) (.lit (.int 0)))) ρ2=.ok (.tmp (.l (pre.map jaw)),ρ2):=by
  rw[evE,u2];simp only[R.bind_ok'];rw[u3];simp only[R.bind_ok',jaT,jab,jeX,jnj];rw[if_pos (jao (by simp)),R.bind_ok',jnO]
 have u5:evE (jaa U W P (n + 1)) U (.bin .add (.sm .join (.lit (.str ",")) (.var 9)) (.var 10)) ρ2=.ok (.dat (jaw (jls [44] ws++q)),ρ2):=jdZ (jqO (v:=.slot 9) jam (by rw[evE];rfl) rfl ej) (jaz rfl) (by omega)
 rw[hX]at u5;have u6:=jjo (jae u5 jcX) (by simp)
 have hpl:pre.length<=1:=jnP;have u7:evE (jaa U W P (n + 1)) U (.bin .add (.bin .mul (.lst (.cons (.call 14 [] (.cons (.slc (.var 0) .none (.some (.var 5))) .nil)) .nil)) (.cmp .gt (.var 5) (.lit (.int 0)))) (.lst (.cons (.bin .add (.sm .join (.lit (.str ",")) (.var 9)) (.var 10)) .nil))) ρ2=.ok (.tmp (.l ((pre++[jdq (b.take j) w (b.drop (j + 1)) ss]).map jaw)),ρ2):=by
  rw[evE,u4];simp only[R.bind_ok'];rw[u6];simp only[R.bind_ok',jaT,jeX,jcI];rw[if_pos (jao (by rw[jve];simp only[jvf,jvr];omega)),R.bind_ok',List.map_append]
  rfl
 have i6:=jgz (W:=W) (i:=9) u7 (by simp[ρ2,stR])
 let X:=jdq (b.take j) w (b.drop (j + 1)) ss
 let ρ3:Rho:=stR fs way c T k i (.dat (tu b)) (.dat (.tup (ss.map tu))) (.dat (.int j)) (.own (.l ((pre++[X]).map jaw)) false false) (.dat (.str (mk q)))
 have i6:evS (jaa U W P (n + 1)) U W _ ρ2=.ok (.nx ρ3):=i6;have v1:evE (jaa U W P (n + 1)) U jaW ρ3=.ok (.tmp (.l ((fs.drop (i + 1)).map fun g=>jaw (fT g))),ρ3):=by
  refine jaB (h:=fD) (g:=fun g=>jaw (fT g)) (xs:=fs.drop (i + 1)) ?_ (fun g hg=>?_) fun s=>rfl
  ·rw[evI,jlM (fs:=fs) (i:=i) rfl rfl];rfl
  ·have eg:=jcV (W:=W) (n:=n) [g] (fun f hf=>by rw[List.mem_singleton.mp hf];exact(h g (List.mem_of_mem_drop hg)).lf h1 h4) (by simp)
   rw[jlP]at eg;exact jah [sD [g]] (as1 (jcs (jaz rfl))) eg
 have hE:(pre++[X]).map jaw++(fs.drop (i + 1)).map (fun g=>jaw (fT g))=(pre++X::(fs.drop (i + 1)).map fT).map jaw:=by
  simp only[List.map_append,jvc,List.map_nil,List.map_map,jvv,List.singleton_append];rfl
 have v2:evE (jaa U W P (n + 1)) U (.bin .add (.var 9) jaW) ρ3=.ok (.tmp (.l ((pre++X::(fs.drop (i + 1)).map fT).map jaw)),ρ3):=by
  have ev:evE (jaa U W P (n + 1)) U (.var 9) ρ3=.ok (.slot 9,ρ3):=by rw[evE];rfl
  have ed:deref (.slot 9) ρ3=.ok (.lst ((pre++[X]).map jaw)):=rfl;rw[evE,ev];simp only[R.bind_ok'];rw[v1];simp only[R.bind_ok',ed,jaT,jeX,jcI];rw[if_pos (jao (by simp only[jve,jvj,jvf,jvr];omega)),R.bind_ok',hE]
 have hpre:∀p∈pre,p.length<=36604:=fun p hp=>by
  rw[jnQ hp];omega
 have v3:=jib (z:=" | ") (s:=[32,124,32]) rfl (ps:=pre++X::(fs.drop (i + 1)).map fT) (B:=36604) (fun p hp=>by
  rcases List.mem_append.mp hp with hp | hp
  ·exact hpre p hp
  ·rcases List.mem_cons.mp hp with rfl | hp
   ·exact jvN hXl (by decide)
   ·obtain⟨g,hg,rfl⟩:=List.mem_map.mp hp;exact jvN (jcU ((h g (List.mem_of_mem_drop hg)).lf h1 h4)) (by decide)) (by simp only[jvj,jvf,jvr,jve];omega)
 have hfin:jls [32,124,32] (pre++X::(fs.drop (i + 1)).map fT)=jls [32,124,32] ((fs.take i).map fT++X::(fs.drop (i + 1)).map fT):=by
  cases hz:decide ((0:Int) < i)with
  |false=>
   have hi0:i=0:=by
    have:=of_decide_eq_false hz;omega
   have ep:pre=[]:=by simp only[pre];rw[hz];rfl
   rw[ep,hi0];rfl
  |true=>
   have hi0:=of_decide_eq_true hz;have hne:fs.take i≠[]:=fun z=>by
    have:=congrArg List.length z;rw[List.length_take,jvr]at this;omega
   have ep:pre=[sT (fs.take i)]:=by simp only[pre];rw[hz,jlL hne];rfl
   rw[ep];exact jia [32,124,32] ((fs.take i).map fT) _ (by simpa using hne)
 refine⟨_,jnK hx hm hw (fs.take i) (fs.drop (i + 1)) (b.take j) (b.drop (j + 1)) ss,?_,ρ3.drop 3,?_⟩
 ·have:=jb6 [32,124,32] 1740 ((fs.take i).map fT++X::(fs.drop (i + 1)).map fT) fun p hp=>by
   rcases List.mem_append.mp hp with hp | hp
   ·obtain⟨g,hg,rfl⟩:=List.mem_map.mp hp;exact jcU (lfT g hg)
   ·rcases List.mem_cons.mp hp with rfl | hp
    ·exact hXl
    ·obtain⟨g,hg,rfl⟩:=List.mem_map.mp hp;exact jcU ((h g (List.mem_of_mem_drop hg)).lf h1 h4)
  refine jvN this ?_;simp only[jvj,jvf,jvr,jve];omega
 ·rw[hfin]at v3;show evSs (jaa U W P (n + 1)) U W b3 (stQ fs way c T k i)=.ok (.rt (.dat (.str (mk (jls [32,124,32] ((fs.take i).map fT++X::(fs.drop (i + 1)).map fT)))) ) ρ3);unfold b3;rw[jad i1,jad i2,jad i3,jad i4,jad i5,jad i6,jaG (jbB (jqO jam v2 rfl v3))]
end
end Law
namespace Law
open PySem L2 DJ Tx
variable {W n:Nat}
section
variable {fs:List Fan}{way c:Int}{T:List Nat}{k i l:Nat}
noncomputable def b5:Ss:=.cons (.asg 11 (.tup (.cons (.bin .add (.slc (.idx (.idx (.var 0) (.lit (.int 0))) (.lit (.int 0))) .none (.some (.lit (.int 3)))) (.tup (.cons (.lit (.int 7)) .nil))) (.cons (.tup (.nil)) .nil)))) (
  .cons (.ife (.cmp .eq (.blt .len (.idx (.idx (.var 0) (.lit (.int 0))) (.lit (.int 0)))) (.lit (.int 4))) (.cons (.asg 11 (.tup (.cons (.tup (.cons (.lit (.int 1)) .nil)) (.cons (.tup (.nil)) .nil)))) (
   .nil)) (.nil)) (
  .cons (.ret (.call 14 [] (.cons (.bin .add (.bin .add (.slc (.var 0) .none (.some (.var 5))) (.tup (.cons (.var 11) .nil))) (.slc (.var 0) (.some (.var 5)) .none)) .nil))) (
  .nil)))
noncomputable def stV (fs:List Fan)(way c:Int)(T:List Nat)(k i:Nat)(s11:Sl):Rho:=[.dat (sD fs),.dat (.int way),.dat (.int c),.dat (.str (mk T)),.dat (.int k),.dat (.int i),.no,.no,.no,.no,.no,s11]
theorem ju4 (h1:1<=l)(h4:l<=4)(h:∀f∈fs,GF l f)(hn:fs.length<=21)(hi:i < fs.length):∃t,Bad t/\t.length<=100000/\∃r,evSs (jaa U W P (n + 1)) U W b5 (stQ fs way c T k i)=.ok (.rt (.dat (.str (mk t))) (.dat (sD fs)::.dat (.int way)::.dat (.int c)::r)):=by
 obtain⟨f,r,rfl⟩:∃f r,fs=f::r:=by
  cases fs with
  |nil=>simp at hi
  |cons f r=>exact⟨f,r,rfl⟩
 have hf:=h f ju7;have hb:=hf.1.1;have e0:∀s11,evE (jaa U W P (n + 1)) U (.idx (.idx (.var 0) (.lit (.int 0))) (.lit (.int 0))) (stV (f::r) way c T k i s11)=.ok (.dat (.tup (f.1.map D.int)),stV (f::r) way c T k i s11):=fun s11=>rfl;have a1:=jhh (e0 .no) jcr (jcq (a:=.lit (.int 3)) (i:=((3:Nat):Int)) jam);rw[jbl,jdy]at a1;have a2:=jd1 a1 (jcs (d:=.int 7) jam) (by rw[jve,List.length_take];simp only[jvf,jvr];omega)
 have q:D.tup ((f.1.take 3).map D.int++[D.int 7])=tu (f.1.take 3++[7]):=by unfold tu;rw[List.map_append];rfl
 rw[q]at a2;have a3:=jge (b:=.tup .nil) (d':=.tup []) a2 rfl;have i1:evS (jaa U W P (n + 1)) U W (.asg 11 (.tup (.cons (.bin .add (.slc (.idx (.idx (.var 0) (.lit (.int 0))) (.lit (.int 0))) .none (.some (.lit (.int 3)))) (.tup (.cons (.lit (.int 7)) .nil))) (.cons (.tup (.nil)) .nil)))) (stQ (f::r) way c T k i)=.ok (.nx (stV (f::r) way c T k i (.dat (fD (f.1.take 3++[7],[]))))):=jci a3 (by simp[stV])
 have t1:∀s11,evT (jaa U W P (n + 1)) U (.cmp .eq (.blt .len (.idx (.idx (.var 0) (.lit (.int 0))) (.lit (.int 0)))) (.lit (.int 4))) (stV (f::r) way c T k i s11)=.ok ((l:Int) == 4,stV (f::r) way c T k i s11):=fun s11=>by
  rw[evT];have:evE (jaa U W P (n + 1)) U (.blt .len (.idx (.idx (.var 0) (.lit (.int 0))) (.lit (.int 0)))) (stV (f::r) way c T k i s11)=.ok (.dat (.int (l:Nat)),stV (f::r) way c T k i s11):=by
   rw[evE,e0];simp only[R.bind_ok',jab,je0,jve,hb]
  rw[this];simp only[R.bind_ok',jam,jab,jgC,jsd]
 have n7:Nm 7:=⟨by decide,by decide⟩
 have n1:Nm 1:=⟨by decide,by decide⟩
 unfold b5;rw[jad i1];by_cases h44:l=4
 ·have hlf:LF ([1],[]):=⟨fun y hy=>by
   rw[List.mem_singleton.mp hy];exact⟨by simp,by simp,fun x hx=>by rw[List.mem_singleton.mp hx];exact n1⟩,Nat.zero_le _⟩
  have t2:=t1 (.dat (fD (f.1.take 3++[7],[])));rw[show ((l:Int) == 4)=true from by rw[h44];rfl]at t2
  obtain⟨t,hb',hl',ht⟩:=jur (W:=W) (n:=n) (s11:=.no) (g:=([1],[])) h1 h4 h hn hi hlf (by show 1≠l;omega) (ρ:=stV (f::r) way c T k i (.dat (fD ([1],[])))) rfl rfl rfl
  refine⟨t,hb',hl',(stV (f::r) way c T k i (.dat (fD ([1],[])))).drop 3,?_⟩;show _=R.ok (Fl.rt (.dat (.str (mk t))) (stV (f::r) way c T k i (.dat (fD ([1],[])))));rw[jad (ρ':=stV (f::r) way c T k i (.dat (fD ([1],[])))) (by rw[jg8 t2];rfl),jaG (jbB ht)]
 ·have hlf:LF (f.1.take 3++[7],[]):=⟨fun y hy=>by
   rw[List.mem_singleton.mp hy];refine⟨by simp,by simp;omega,fun x hx=>?_⟩
   rcases List.mem_append.mp hx with hx | hx
   ·exact hf.1.2 x (List.mem_of_mem_take hx)
   ·rw[List.mem_singleton.mp hx];exact n7,Nat.zero_le _⟩
  have t2:=t1 (.dat (fD (f.1.take 3++[7],[])));rw[show ((l:Int) == 4)=false from by rw[beq_eq_false_iff_ne];omega]at t2
  obtain⟨t,hb',hl',ht⟩:=jur (W:=W) (n:=n) (s11:=.no) (g:=(f.1.take 3++[7],[])) h1 h4 h hn hi hlf (by show (f.1.take 3++[7]).length≠l;rw[jvj,List.length_take];simp only[jvf,jvr];omega) (ρ:=stV (f::r) way c T k i (.dat (fD (f.1.take 3++[7],[])))) rfl rfl rfl
  refine⟨t,hb',hl',(stV (f::r) way c T k i (.dat (fD (f.1.take 3++[7],[])))).drop 3,?_⟩;show _=R.ok (Fl.rt (.dat (.str (mk t))) (stV (f::r) way c T k i (.dat (fD (f.1.take 3++[7],[])))));rw[jad (jbh t2),jaG (jbB ht)]
end
theorem jhk {G:Calls}{ρ ρ':Rho}{t:E}{ss:Ss}{v:Vl}(h:evT G U t ρ=.ok (true,ρ))(hs:evSs G U W ss ρ=.ok (.rt v ρ')):evS G U W (.ife t ss .nil) ρ=.ok (.rt v ρ'):=by
 rw[jg8 h];exact hs
theorem jnR {l:Nat}{fs:List Fan}{way c:Int}(h1:1<=l)(h4:l<=4)(h:∀f∈fs,GF l f)(hn:fs.length<=21)(h0:fs≠[])(w0:0<=way)(w8:way < 8):∃t,Bad t/\t.length<=100000/\CD W (n + 2) 19 [.dat (sD fs),.dat (.int way),.dat (.int c)]=.ok (.dat (.str (mk t)),[.no,.no,.no]):=by
 have lf:∀f∈fs,LF f:=fun f hf=>(h f hf).lf h1 h4;have hTl:(txt fs).length<=90000:=by have:=jfi lf;omega
 have hT:txt fs=sT fs:=jlL h0;have hTn:txt fs≠[]:=by
  rw[hT];obtain⟨⟨d,r,e,_⟩,_⟩:=jhg h0 fun f hf=>(lf f hf).fo;rw[e];simp
 have hTc:(txt fs).count 32=2 * (txt fs).count 124:=by rw[hT];exact joz fs
 have et:=jcV (W:=W) (n:=n) fs lf (by omega)
 generalize txt fs=T at *;have hfl:0 < fs.length:=by
  cases fs with
  |nil=>exact absurd rfl h0
  |cons _ _=>simp
 obtain⟨k,hk⟩:∃k:Nat,(k:Int)=c % ((T.length:Int) + 1):=⟨(c % ((T.length:Int) + 1)).toNat,by
  have:=Int.emod_nonneg c (show ((T.length:Int) + 1)≠0 by omega)
  omega⟩
 have hkl:k<=T.length:=by
  have:=Int.emod_lt_of_pos c (show (0:Int) < (T.length:Int) + 1 by omega)
  omega
 obtain⟨i,hi⟩:∃i:Nat,(i:Int)=c % ((fs.map fD).length:Int):=⟨(c % ((fs.map fD).length:Int)).toNat,by
  have:=Int.emod_nonneg c (show ((fs.map fD).length:Int)≠0 by rw[jve];omega)
  omega⟩
 have hil:i < fs.length:=by
  have:=Int.emod_lt_of_pos c (show (0:Int) < ((fs.map fD).length:Int)by rw[jve];omega)
  rw[jve]at this hi;omega
 rw[CD,jal (d:=⟨3,12,jaX⟩) rfl rfl];show ∃t,Bad t/\t.length<=100000/\(evSs (jaa U W P (n + 1)) U W jaX [.dat (sD fs),.dat (.int way),.dat (.int c),.no,.no,.no,.no,.no,.no,.no,.no,.no]).bind (jbq 3)=_;have e1:=jah (G:=jaa U W P (n + 1)) (U:=U) (k:=14) (ρ:=[.dat (sD fs),.dat (.int way),.dat (.int c),.no,.no,.no,.no,.no,.no,.no,.no,.no]) (es:=.cons (.var 0) .nil) [sD fs] rfl et;have i1:evS (jaa U W P (n + 1)) U W (.asg 3 (.call 14 [] (.cons (.var 0) .nil))) [.dat (sD fs),.dat (.int way),.dat (.int c),.no,.no,.no,.no,.no,.no,.no,.no,.no]=.ok (.nx [.dat (sD fs),.dat (.int way),.dat (.int c),.dat (.str (mk T)),.no,.no,.no,.no,.no,.no,.no,.no]):=jci e1 (by simp)
 have i2:evS (jaa U W P (n + 1)) U W (.asg 4 (.bin .mod (.var 2) (.bin .add (.blt .len (.var 3)) (.lit (.int 1))))) [.dat (sD fs),.dat (.int way),.dat (.int c),.dat (.str (mk T)),.no,.no,.no,.no,.no,.no,.no,.no]=.ok (.nx [.dat (sD fs),.dat (.int way),.dat (.int c),.dat (.str (mk T)),.dat (.int k),.no,.no,.no,.no,.no,.no,.no]):=by
  simp only[evS,evE,jvp,jvq,R.bind_ok',jab,jh5 (show T.length<=100000 by omega),jeY,jeZ,if_pos (show (0:Int) < (T.length:Int) + 1 by omega),jeW,<-hk]
  rfl
 have i3:evS (jaa U W P (n + 1)) U W (.asg 5 (.bin .mod (.var 2) (.blt .len (.var 0)))) [.dat (sD fs),.dat (.int way),.dat (.int c),.dat (.str (mk T)),.dat (.int k),.no,.no,.no,.no,.no,.no,.no]=.ok (.nx (stQ fs way c T k i)):=by
  have el:bfD .len (sD fs)=.ok (.dat (.int ((fs.map fD).length:Nat))):=rfl;simp only[evS,evE,jvp,jvq,R.bind_ok',jab,el,jeZ,if_pos (show (0:Int) < ((fs.map fD).length:Int)by rw[jve];omega),jeW,<-hi]
  rfl
 unfold jaX;rw[jad i1,jad i2,jad i3];have hw:way=0\/way=1\/way=2\/way=3\/way=4\/way=5\/way=6\/way=7:=by omega
 rcases hw with rfl | rfl | rfl | rfl | rfl | rfl | rfl | rfl
 ·obtain⟨t,hb,hl,e⟩:=juX (W:=W) (n:=n) (fs:=fs) (way:=0) (c:=c) (i:=i) hkl hTl;refine⟨t,hb,hl,?_⟩;rw[jaG (jhk rfl (jaG (jbB e)))];rfl
 ·obtain⟨t,hb,hl,e⟩:=juY (W:=W) (n:=n) (fs:=fs) (way:=1) (c:=c) (i:=i) hkl hTl hTc;refine⟨t,hb,hl,?_⟩;rw[jad (jbh rfl),jaG (jhk rfl (jaG (jbB e)))];rfl
 ·obtain⟨t,hb,hl,e⟩:=juZ (G:=jaa U W P (n + 1)) (fs:=fs) (way:=2) (c:=c) (k:=k) (i:=i) hTn hTl;refine⟨t,hb,hl,?_⟩;rw[jad (jbh rfl),jad (jbh rfl),jaG (jhk rfl (jaG (jbB e)))];rfl
 ·obtain⟨t,hb,hl,r,e⟩:=ju3 (W:=W) (n:=n) (way:=3) (c:=c) (T:=T) (k:=k) h1 h4 h hn hil;refine⟨t,hb,hl,?_⟩;unfold b3 at e;rw[jad (jbh rfl),jad (jbh rfl),jad (jbh rfl),jaG (jhk rfl e)];rfl
 ·obtain⟨t,hb,hl,e⟩:=ju1 (W:=W) (n:=n) (way:=4) (c:=c) (T:=T) (k:=k) h1 h4 h hn hil;refine⟨t,hb,hl,?_⟩;rw[jad (jbh rfl),jad (jbh rfl),jad (jbh rfl),jad (jbh rfl),jaG (jhk rfl (jaG (jbB e)))];rfl
 ·obtain⟨t,hb,hl,r,e⟩:=ju4 (W:=W) (n:=n) (way:=5) (c:=c) (T:=T) (k:=k) h1 h4 h hn hil;refine⟨t,hb,hl,?_⟩;unfold b5 at e;rw[jad (jbh rfl),jad (jbh rfl),jad (jbh rfl),jad (jbh rfl),jad (jbh rfl),jaG (jhk rfl e)];rfl
 ·obtain⟨t,hb,hl,e⟩:=ju2 (W:=W) (n:=n) (way:=6) (c:=c) (T:=T) (k:=k) h1 h4 h hn hil;refine⟨t,hb,hl,?_⟩;rw[jad (jbh rfl),jad (jbh rfl),jad (jbh rfl),jad (jbh rfl),jad (jbh rfl),jad (jbh rfl),jaG (jhk rfl (jaG (jbB e)))];rfl
 ·obtain⟨t,hb,hl,e⟩:=ju0 (G:=jaa U W P (n + 1)) (fs:=fs) (way:=7) (c:=c) (T:=T) (k:=k) (i:=i);refine⟨t,hb,hl,?_⟩;rw[jad (jbh rfl),jad (jbh rfl),jad (jbh rfl),jad (jbh rfl),jad (jbh rfl),jad (jbh rfl),jad (jbh rfl),jaG (jbB e)];rfl
end Law
namespace Law
open PySem L2 DJ Tx
variable {W n:Nat}
theorem jlQ {t:List Nat}(hl:t.length<=100000)(h:Bad t):CD W (n + 8) 15 [.dat (.str (mk t))]=.ok (.dat (.bl true),[.no]):=by
 rw[CD,jal (d:=⟨1,3,jaJ⟩) rfl rfl];have hx:evE (jaa U W P (n + 7)) U (.call 9 [] (.cons (.var 0) .nil)) [.dat (.str (mk t)),.own (.l []) false false,.no]=.err 3:=jcE [.str (mk t)] rfl (jt2 (W:=W) (n:=n) hl h);show (evSs (jaa U W P (n + 7)) U W jaJ [.dat (.str (mk t)),.no,.no]).bind (jbq 1)=_;unfold jaJ;rw[jad (ρ':=[.dat (.str (mk t)),.own (.l []) false false,.no]) rfl];rw[jad (ρ':=[.dat (.str (mk t)),.own (.l [.bl true,.bl true,.bl false]) false false,.no]) (by
  rw[evS,evS,hx];rfl)]
 rfl
theorem jsO (fs:List Fan):eqR (sD fs) (sD fs)=.ok true:=by
 obtain⟨h1,h2⟩:=jhd fs;have h3:jbw (sD fs)=true:=by rw[sD,jbw];exact h1
 have h4:deep (sD fs)<=12:=by rw[sD,deep];omega
 unfold eqR;rw[if_pos (by rw[h3,decide_eq_true h4];rfl),jdw h3]
noncomputable def stL (ns cs:List Int)(l:Nat)(fs:List Fan)(s5 s6:Sl):Rho:=[.dat (.lst (ns.map .int)),.dat (.lst (cs.map D.int)),.dat (.int l),.dat (sD fs),.dat (.str (mk (txt fs))),s5,s6]
theorem jnS {ns cs:List Int}{l:Nat}{fs:List Fan}(h1:1<=l)(h4:l<=4)(h:∀f∈fs,GF l f)(hn:fs.length<=21)(h0:fs≠[])(x:Int)(s6:Sl):∃t6,evSs (jaa U W P (n + 8)) U W je1 (stL ns cs l fs (.dat (.int x)) s6)=.ok (.nx (stL ns cs l fs (.dat (.int x)) t6)):=by
 let m:Int:=(x * 69621 + ((cs.map D.int).length:Int)) % 2147483629
 have e1:evE (jaa U W P (n + 8)) U (.bin .mod (.bin .add (.bin .mul (.var 5) (.lit (.int 69621))) (.blt .len (.var 1))) (.lit (.int 2147483629))) (stL ns cs l fs (.dat (.int x)) s6)=.ok (.dat (.int m),stL ns cs l fs (.dat (.int x)) s6):=by
  unfold stL;simp_arith[];rfl
 have e2:evE (jaa U W P (n + 8)) U (.bin .mod (.var 6) (.lit (.int 8))) (stL ns cs l fs (.dat (.int x)) (.dat (.int m)))=.ok (.dat (.int (m % 8)),stL ns cs l fs (.dat (.int x)) (.dat (.int m))):=by
  unfold stL;simp_arith[]
 have e3:evE (jaa U W P (n + 8)) U (.bin .fdiv (.var 6) (.lit (.int 8))) (stL ns cs l fs (.dat (.int x)) (.dat (.int m)))=.ok (.dat (.int (m / 8)),stL ns cs l fs (.dat (.int x)) (.dat (.int m))):=by
  unfold stL;simp_arith[]
 obtain⟨t,hb,hl,ef⟩:=jnR (W:=W) (n:=n + 6) (way:=m % 8) (c:=m / 8) h1 h4 h hn h0 (Int.emod_nonneg _ (by decide)) (Int.emod_lt_of_pos _ (by decide))
 have e4:=jah (G:=jaa U W P (n + 8)) (U:=U) (k:=19) (es:=.cons (.var 3) (.cons (.bin .mod (.var 6) (.lit (.int 8))) (.cons (.bin .fdiv (.var 6) (.lit (.int 8))) .nil))) [sD fs,.int (m % 8),.int (m / 8)] (as3 (jaz rfl) e2 e3) ef;have t1:=jgA (jeV (G:=jaa U W P (n + 8)) (U:=U) (k:=15) [.str (mk t)] (as1 e4) (jlQ (W:=W) (n:=n) hl hb));have e5:=jah (G:=jaa U W P (n + 8)) (U:=U) (k:=9) (ρ:=stL ns cs l fs (.dat (.int x)) (.dat (.int m))) (es:=.cons (.var 4) .nil) [.str (mk (txt fs))] rfl (jqs (W:=W) (n:=n + 1) fs h1 h4 h (by omega))
 have t2:evT (jaa U W P (n + 8)) U (.cmp .ne (.call 9 [] (.cons (.var 4) .nil)) (.var 3)) (stL ns cs l fs (.dat (.int x)) (.dat (.int m)))=.ok (false,stL ns cs l fs (.dat (.int x)) (.dat (.int m))):=by
  rw[evT,e5];simp only[R.bind_ok'];rw[jaz (d:=sD fs) rfl];simp only[R.bind_ok',jab,jqf,jsO,Bool.not_true]
 refine⟨.dat (.int m),?_⟩;unfold je1;rw[jad (jci e1 (by simp[stL]))]
 show evSs (jaa U W P (n + 8)) U W _ (stL ns cs l fs (.dat (.int x)) (.dat (.int m)))=_;rw[jad (jbh t1),jad (jbh t2)];simp only[evSs]
theorem jic {ns cs:List Int}{l:Nat}{fs:List Fan}(h1:1<=l)(h4:l<=4)(h:∀f∈fs,GF l f)(hn:fs.length<=21)(h0:fs≠[]):∀(xs:List Int) (s5 s6:Sl),∃t5 t6,jaY (fun x r=>(putT [5] true x r).bind fun r'=>evSs (jaa U W P (n + 8)) U W je1 r') (xs.map D.int) (stL ns cs l fs s5 s6)=.ok (.nx (stL ns cs l fs t5 t6))
 |[],s5,s6=>⟨s5,s6,rfl⟩
 |x::xs,s5,s6=>by
  obtain⟨u6,e1⟩:=jnS (W:=W) (n:=n) (ns:=ns) (cs:=cs) h1 h4 h hn h0 x s6;obtain⟨t5,t6,e⟩:=jic (ns:=ns) (cs:=cs) h1 h4 h hn h0 xs (.dat (.int x)) u6;refine⟨t5,t6,?_⟩;simp only[jvc,jaY];have e2:(putT [5] true (.int x) (stL ns cs l fs s5 s6))=.ok (stL ns cs l fs (.dat (.int x)) s6):=rfl;rw[e2,R.bind_ok',e1,R.bind_ok'];exact e
theorem jt3 (ns:List Int)(hW:64<=W):∃fin,CD W (n + 9) 20 [.dat (.lst (ns.map .int))]=.ok (.dat (.bl true),fin):=by
 rw[CD,jal (d:=⟨1,7,jle⟩) rfl rfl];have ec:cut (ns.map D.int) none (some (20:Int))=(ns.take 20).map D.int:=by rw[jbl];exact congrArg _ (jdy ns 20)
 have ee:evE (jaa U W P (n + 8)) U jgY [.dat (.lst (ns.map .int)),.no,.no,.no,.no,.no,.no]=.ok (.tmp (.l ((ns.take 20).map fun x=>.int (x % 10 ^ 30))),[.dat (.lst (ns.map .int)),.no,.no,.no,.no,.no,.no]):=by
  refine jaB (h:=D.int) (g:=fun x=>.int (x % 10 ^ 30)) (xs:=ns.take 20) (by simp_arith[ec]) (fun x _=>?_) fun s=>rfl
  show evE (jaa U W P (n + 8)) U (.bin .mod (.var 0) (.bin .pow (.lit (.int 10)) (.lit (.int 30)))) [.dat (.int x)]=_;simp_arith[jsl];rfl
 have hlen:(ns.take 20).length<=20:=by rw[List.length_take];omega
 obtain⟨cs,hcs,hc0,hc1⟩:∃cs:List Int,((ns.take 20).map fun x=>D.int (x % 10 ^ 30))++[.int 17]=cs.map D.int/\cs.length<=21/\cs≠[]:=⟨(ns.take 20).map (· % 10 ^ 30)++[17],by simp only[List.map_append,List.map_map,jvc,List.map_nil];rfl,by rw[jvj,jve];simp only[jvf,jvr];omega,by simp⟩
 have f1:ja6 (((ns.take 20).map fun x=>D.int (x % 10 ^ 30)).length + 1)=true:=jao (by rw[jve];omega)
 obtain⟨l,hl⟩:∃l:Nat,(l:Int)=1 + cs.sum % 4:=⟨(1 + cs.sum % 4).toNat,by omega⟩
 have h1:1<=l:=by omega
 have h4:l<=4:=by omega
 have es:=jsy (W:=W) (n:=n + 5) cs l h1 h4 (by omega)
 have hg:∀f∈cs.map (jjs l),GF l f:=fun f hf=>by
  obtain⟨c,_,rfl⟩:=List.mem_map.mp hf;exact jqu l c
 have hgl:(cs.map (jjs l)).length<=21:=by rw[jve];exact hc0
 have hg0:cs.map (jjs l)≠[]:=by simpa using hc1
 generalize hfs:cs.map (jjs l)=fs at es hg hgl hg0;obtain⟨xs,hxs⟩:∃xs:List Int,jkb 0 10++cs.map D.int=xs.map D.int:=⟨(List.range 10).map (fun (k:Nat)=>(0:Int) + k)++cs,by rw[List.map_append,List.map_map];rfl⟩
 obtain⟨t5,t6,el⟩:=jic (W:=W) (n:=n) (ns:=ns) (cs:=cs) h1 h4 hg hgl hg0 xs .no .no;refine⟨[.no],?_⟩;show (evSs (jaa U W P (n + 8)) U W jle [.dat (.lst (ns.map .int)),.no,.no,.no,.no,.no,.no]).bind (jbq 1)=_;unfold jle;have e1:evE (jaa U W P (n + 8)) U (.bin .add (jgY) (.lst (.cons (.lit (.int 17)) .nil))) [.dat (.lst (ns.map .int)),.no,.no,.no,.no,.no,.no]=.ok (.tmp (.l (cs.map D.int)),[.dat (.lst (ns.map .int)),.no,.no,.no,.no,.no,.no]):=by
  rw[evE,ee];simp only[R.bind_ok'];rw[jjo (jae (d:=.int 17) jam jcX) (by simp)]
  simp only[R.bind_ok',jaT,jeX,jcI,jvf,jvr,Nat.zero_add];rw[if_pos f1,R.bind_ok',hcs]
 rw[jad (jgz e1 (by simp))]
 show (evSs (jaa U W P (n + 8)) U W _ [.dat (.lst (ns.map .int)),.own (.l (cs.map D.int)) false false,.no,.no,.no,.no,.no]).bind (jbq 1)=_;rw[jad (ρ':=[.dat (.lst (ns.map .int)),.own (.l (cs.map D.int)) false false,.dat (.int l),.no,.no,.no,.no]) (by simp_arith[bfD,jbg];rw[hl])]
 have e2:evE (jaa U W P (n + 8)) U (.call 13 [] (.cons (.var 1) (.cons (.var 2) .nil))) [.dat (.lst (ns.map .int)),.own (.l (cs.map D.int)) false false,.dat (.int l),.no,.no,.no,.no]=.ok (.dat (sD fs),[.dat (.lst (ns.map .int)),.dat (.lst (cs.map D.int)),.dat (.int l),.no,.no,.no,.no]):=by
  rw[evE,as2 (v1:=.slot 1) (v2:=.dat (.int l)) (by rw[evE];rfl) (jaz rfl),R.bind_ok']
  have ep:jaO [] [Vl.slot 1,.dat (.int l)] [.dat (.lst (ns.map .int)),.own (.l (cs.map D.int)) false false,.dat (.int l),.no,.no,.no,.no]=.ok ([.dat (.lst (cs.map D.int)),.dat (.int l)],[none,none],[.dat (.lst (ns.map .int)),.dat (.lst (cs.map D.int)),.dat (.int l),.no,.no,.no,.no]):=rfl;rw[ep,R.bind_ok'];show (CD W (n + 8) 13 [.dat (.lst (cs.map D.int)),.dat (.int l)]).bind _=_;rw[es];rfl
 rw[jad (jci e2 (by simp))]
 show (evSs (jaa U W P (n + 8)) U W _ [.dat (.lst (ns.map .int)),.dat (.lst (cs.map D.int)),.dat (.int l),.dat (sD fs),.no,.no,.no]).bind (jbq 1)=_;have e3:=jah (G:=jaa U W P (n + 8)) (U:=U) (k:=14) (ρ:=[.dat (.lst (ns.map .int)),.dat (.lst (cs.map D.int)),.dat (.int l),.dat (sD fs),.no,.no,.no]) (es:=.cons (.var 3) .nil) [sD fs] rfl (jcV (W:=W) (n:=n + 7) fs (fun f hf=>(hg f hf).lf h1 h4) (by omega))
 rw[jad (jci e3 (by simp))]
 show (evSs (jaa U W P (n + 8)) U W _ (stL ns cs l fs .no .no)).bind (jbq 1)=_;have hi:evI (jaa U W P (n + 8)) U (.seq (.bin .add (.blt .lrng (.lit (.int 10))) (.var 1))) (stL ns cs l fs .no .no)=.ok (xs.map D.int,[],stL ns cs l fs .no .no):=by
  have er:evE (jaa U W P (n + 8)) U (.blt .lrng (.lit (.int 10))) (stL ns cs l fs .no .no)=.ok (.tmp (.l (jkb 0 10)),stL ns cs l fs .no .no):=by
   rw[evE,jam];rfl
  have eb:evE (jaa U W P (n + 8)) U (.bin .add (.blt .lrng (.lit (.int 10))) (.var 1)) (stL ns cs l fs .no .no)=.ok (.tmp (.l (xs.map D.int)),stL ns cs l fs .no .no):=by
   rw[evE,er];simp only[R.bind_ok'];rw[jaz (d:=.lst (cs.map D.int)) rfl];simp only[R.bind_ok',jaT,jab,jeX,jcI];have hr:(jkb 0 10).length=10:=rfl;rw[if_pos (jao (by rw[hr,jve];omega)),R.bind_ok',hxs]
  rw[evI,eb];rfl
 rw[jad (ρ':=stL ns cs l fs t5 t6) (by
  rw[evS,hi,R.bind_ok'];simp only[];rw[el];rfl)]
 rfl
end Law
namespace Law
open PySem L2 DJ
theorem jbv {K:Frag}{mg:Str->Option Value}{d:DefS}{b:Ss}{i f:Nat}{oc:Value}{od an:Option Addr}{sl:Array (Option Value)}{kV doc pm cd ct:Value}(x:Str)(e:d.name=x)(hm:mg x=some (.ref f))(l:K.lookup f=some ⟨oc,od,.func (PySem.W.fnOf x x (defArgs d.st) (defBody d.st) (defScope d.st) .none kV doc pm an cd ct),sl⟩)
  (c:PySem.W.codeIn K cd x=true) (k:PySem.W.keepIn K (.ref f)=true) (hb:BindP d) (hs:FnScope d.N d.ps (defScope d.st)) (ht:(mapO (trS T 60 false (defScope d.st).names d.N) (defBody d.st)).map toSs=some b) (hP:P[i]?=some ⟨d.ps.length,d.N.length,b⟩) :
  ∃f fd,mg d.name=some (.ref f)/\Fun K d.name d.name d.st f fd/\BindP d/\FnScope d.N d.ps (defScope d.st)/\∃ss,mapO (trS T 60 false (defScope d.st).names d.N) (defBody d.st)=some ss/\P[i]?=some ⟨d.ps.length,d.N.length,toSs ss⟩:=by
 subst e;obtain⟨ss,e1,e2⟩:=Option.map_eq_some_iff.mp ht;exact⟨f,_,hm,jrp l c k,hb,hs,ss,e1,by rw[e2];exact hP⟩
theorem jjq {K:Frag}{C:Addr}{v:ClassData}(h:PySem.W.clsIn K C=some v):(PySem.W.clsIn K C).isSome=true:=by rw[h];rfl
end Law
open PySem PySem.W PyProof.Rows Law DJ
def PySem.W.Fast.tw10646041352835822211:Nat:=0
def PySem.W.Fast.tw13576791231728437505:Nat:=0
def PySem.W.Fast.tw1346214921532448254:Nat:=0
def PySem.W.Fast.tw13967040063986943589:Nat:=0
def PySem.W.Fast.tw8806288096679508520:Nat:=0
def PySem.W.Fast.tw11876573171214130778:Nat:=0
def PySem.W.Fast.tw1097445645343053280:Nat:=0
def PySem.W.Fast.tw6454384169933109160:Nat:=0
def PySem.W.Fast.tw8973635333841155788:Nat:=0
def PySem.W.Fast.tw16179773124148254789:Nat:=0
def PySem.W.Fast.tw18219937735539890926:Nat:=0
def PySem.W.Fast.tw8427261946062131047:Nat:=0
def PySem.W.Fast.tw8920727437336732433:Nat:=0
def PySem.W.Fast.tw5158197871286894097:Nat:=0
def PySem.W.Fast.tw1463947491189290331:Nat:=0
def PySem.W.Fast.tw4989381095035604569:Nat:=0
def PySem.W.Fast.tw16044364624408636672:Nat:=0
def PySem.W.Fast.tw9153157771541673582:Nat:=0
def PySem.W.Fast.tw9721576283540436281:Nat:=0
def PySem.W.Fast.tw11133327973892810076:Nat:=0
set_option maxRecDepth 100000 in
set_option maxHeartbeats 0 in
theorem PySem.Challenge.cw_tallysets_k05_sets_refused_holds : PySem.Challenge.rw_tallysets_k05_sets_refused.Holds := by
 w_on;o_law;k_head;(case hw=>w_witness2)
 k_fill
 refine' DJ.jk1 (l:=PySem.Challenge.rw_tallysets_k05_sets_refused) (cl:=[?C0,?C1,?C2,?C3,?C4,?C5]) (U:=Law.U) (T:=Law.T) (DS:=Law.DS) (P:=Law.P) (fuel:=60) (W:=64) (n:=9) (i:=20) (x:="_law_script") (dl:=Law.d_law) rfl rfl ⟨rfl,by decide,by decide⟩ (fun w h Y=>PySem.W.kIn_of Y) rfl rfl rfl ?F (fun ns hl=>Law.jt3 (W:=64) (n:=0) ns (jvK _))
 case F=>
  intro w mg h X G;refine' ⟨rfl,rfl,rfl,(jch (mg_none_of X G ?z0) (jch (mg_none_of X G ?z1) (jch (mg_none_of X G ?z2) (jch (mg_none_of X G ?z3) (jch (mg_none_of X G ?z4) (jch (mg_none_of X G ?z5) (jch (mg_none_of X G ?z6) (jch (mg_none_of X G ?z7) (jch (mg_none_of X G ?z8) (jch (mg_none_of X G ?z9) (jch (mg_none_of X G ?z10) (jch (mg_none_of X G ?z11) (jch (mg_none_of X G ?z12) (jch (mg_none_of X G ?z13) (jch (mg_none_of X G ?z14) (jch (mg_none_of X G ?z15) (jch (mg_none_of X G ?z16) (jch (mg_none_of X G ?z17) (jch (mg_none_of X G ?z18) (jch (mg_none_of X G ?z19) (jch (mg_none_of X G ?z20) jtG))))))))))))))))))))),?cons,From.at (jak ⟨?C0,rfl,mg_of X G ?e0⟩ (jak ⟨?C1,rfl,mg_of X G ?e1⟩ (jak ⟨?C2,rfl,mg_of X G ?e2⟩ (jak ⟨?C3,rfl,mg_of X G ?e3⟩ (jak ⟨?C4,rfl,mg_of X G ?e4⟩ (jak ⟨?C5,rfl,mg_of X G ?e5⟩ jeT)))))),⟨(jch ⟨?ga0,?hk0,?ca0,?y0,?y1,?mo0,?mb0,?m0_0,?mv0,jjq ?cd_0,?ty0⟩ (jch ⟨?ga1,?hk1,?ca1,?y0,?y1,?mo1,?mb1,?m1_1,?mv1,jjq ?cd_1,?ty1⟩ (jch ⟨?ga2,?hk2,?ca2,?y0,?y1,?mo2,?mb2,?m2_2,?mv2,jjq ?cd_2,?ty2⟩ (jch ⟨?ga3,?hk3,?ca3,?y0,?y1,?mo3,?mb3,?m3_3,?mv3,jjq ?cd_3,?ty3⟩ (jch ⟨?ga4,?hk4,?ca4,?y0,?y1,?mo4,?mb4,?m4_4,?mv4,jjq ?cd_4,?ty4⟩ (jch ⟨?ga5,?hk5,?ca5,?y0,?y1,?mo5,?mb5,?m5_5,?mv5,jjq ?cd_5,?ty5⟩ jtG)))))),fun i j C D hi hj=>From.at (Q:=fun i C=>∀(j:Nat) (D:Addr),([?C0,?C1,?C2,?C3,?C4,?C5]:List Addr)[j]?=some D->mroIn _ C (.ref D)=some (Law.U i j)) (jak (From.at (jak ?m0_0 (jak ?m0_1 (jak ?m0_2 (jak ?m0_3 (jak ?m0_4 (jak ?m0_5 jeT))))))) (jak (From.at (jak ?m1_0 (jak ?m1_1 (jak ?m1_2 (jak ?m1_3 (jak ?m1_4 (jak ?m1_5 jeT))))))) (jak (From.at (jak ?m2_0 (jak ?m2_1 (jak ?m2_2 (jak ?m2_3 (jak ?m2_4 (jak ?m2_5 jeT))))))) (jak (From.at (jak ?m3_0 (jak ?m3_1 (jak ?m3_2 (jak ?m3_3 (jak ?m3_4 (jak ?m3_5 jeT))))))) (jak (From.at (jak ?m4_0 (jak ?m4_1 (jak ?m4_2 (jak ?m4_3 (jak ?m4_4 (jak ?m4_5 jeT))))))) (jak (From.at (jak ?m5_0 (jak ?m5_1 (jak ?m5_2 (jak ?m5_3 (jak ?m5_4 (jak ?m5_5 jeT))))))) jeT)))))) i C hi j D hj⟩,(jch ⟨⟨[.type "ValueError",.type "Exception",.type "BaseException",.type "object"],_,"ValueError.__new__",_,?xx0,F.excBase_ValueError⟩,"TallyError",?e0⟩ (jch ⟨⟨[.type "ValueError",.type "Exception",.type "BaseException",.type "object"],_,"ValueError.__new__",_,?xx1,F.excBase_ValueError⟩,"NoTally",?e1⟩ (jch ⟨⟨[.type "ValueError",.type "Exception",.type "BaseException",.type "object"],_,"ValueError.__new__",_,?xx2,F.excBase_ValueError⟩,"NoFan",?e2⟩ (jch ⟨⟨[.type "ValueError",.type "Exception",.type "BaseException",.type "object"],_,"ValueError.__new__",_,?xx3,F.excBase_ValueError⟩,"NoText",?e3⟩ (jch ⟨⟨[.type "ValueError",.type "Exception",.type "BaseException",.type "object"],_,"ValueError.__new__",_,?xx4,F.excBase_ValueError⟩,"NoTree",?e4⟩ (jch ⟨⟨[.type "ValueError",.type "Exception",.type "BaseException",.type "object"],_,"ValueError.__new__",_,?xx5,F.excBase_ValueError⟩,"TooGreat",?e5⟩ jtG)))))),From.at (jak (jbv "is_number" rfl (mg_of X G ?a0) ?l0 ?c0 ?k0 jg1 jgZ jg0 rfl) (jak (jbv "is_tally" rfl (mg_of X G ?a1) ?l1 ?c1 ?k1 ji5 ji3 ji4 rfl) (jak (jbv "is_tally_as_long" rfl (mg_of X G ?a2) ?l2 ?c2 ?k2 jcP jcN jcO rfl) (jak (jbv "are_steps" rfl (mg_of X G ?a3) ?l3 ?c3 ?k3 jg4 jg2 jg3 rfl) (jak (jbv "is_fan" rfl (mg_of X G ?a4) ?l4 ?c4 ?k4 jnq jno jnp rfl) (jak (jbv "is_set" rfl (mg_of X G ?a5) ?l5 ?c5 ?k5 jnt jnr jns rfl) (jak (jbv "read_number" rfl (mg_of X G ?a6) ?l6 ?c6 ?k6 je4 je2 je3 rfl) (jak (jbv "read_tally" rfl (mg_of X G ?a7) ?l7 ?c7 ?k7 jf2 jf0 jf1 rfl) (jak (jbv "read_fan" rfl (mg_of X G ?a8) ?l8 ?c8 ?k8 ji8 ji6 ji7 rfl) (jak (jbv "read_set" rfl (mg_of X G ?a9) ?l9 ?c9 ?k9 jjb ji9 jja rfl) (jak (jbv "_law_number" rfl (mg_of X G ?a10) ?l10 ?c10 ?k10 je7 je5 je6 rfl) (jak (jbv "_law_tally" rfl (mg_of X G ?a11) ?l11 ?c11 ?k11 jf5 jf3 jf4 rfl) (jak (jbv "_law_fan" rfl (mg_of X G ?a12) ?l12 ?c12 ?k12 jje jjc jjd rfl) (jak (jbv "_law_set" rfl (mg_of X G ?a13) ?l13 ?c13 ?k13 jjh jjf jjg rfl) (jak (jbv "_law_text" rfl (mg_of X G ?a14) ?l14 ?c14 ?k14 jg7 jg5 jg6 rfl) (jak (jbv "_law_refused" rfl (mg_of X G ?a15) ?l15 ?c15 ?k15 jeb jd9 jea rfl) (jak (jbv "_law_put" rfl (mg_of X G ?a16) ?l16 ?c16 ?k16 jjk jji jjj rfl) (jak (jbv "_law_bad_number" rfl (mg_of X G ?a17) ?l17 ?c17 ?k17 jdg jde jdf rfl) (jak (jbv "_law_other_steps" rfl (mg_of X G ?a18) ?l18 ?c18 ?k18 jcS jcQ jcR rfl) (jak (jbv "_law_faulty" rfl (mg_of X G ?a19) ?l19 ?c19 ?k19 jfa je8 je9 rfl) (jak (jbv "law" rfl (mg_of X G ?a20) ?l20 ?c20 ?k20 jtU jtS jtT rfl) jeT)))))))))))))))))))))⟩;case cons=>
   intro x d hx;simp only[Law.T,List.lookup_cons]at hx;split at hx
   ·rename_i e;cases hx;have e:x="MOST_NUMBERS":=by simpa using e
    subst e;refine' ⟨_,.int 4,mg_of X G ?qc0,⟨_,?rc0⟩,fun _ _=>by simp only[Rep]⟩
    case qc0=>k_is
    case rc0=>rfl
   split at hx
   ·rename_i e;cases hx;have e:x="NO_FANS":=by simpa using e
    subst e;refine' ⟨_,.str "-",mg_of X G ?qc1,⟨_,?rc1⟩,fun _ _=>by simp only[Rep]⟩
    case qc1=>k_is
    case rc1=>rfl
   split at hx
   ·rename_i e;cases hx;have e:x="FIGURES":=by simpa using e
    subst e;refine' ⟨_,.str "0123456789",mg_of X G ?qc2,⟨_,?rc2⟩,fun _ _=>by simp only[Rep]⟩
    case qc2=>k_is
    case rc2=>rfl
   split at hx
   ·rename_i e;cases hx;have e:x="GREATEST_READ":=by simpa using e
    subst e;refine' ⟨_,.int 1000000000000000,mg_of X G ?qc3,⟨_,?rc3⟩,fun _ _=>by simp only[Rep]⟩
    case qc3=>k_is
    case rc3=>rfl
   split at hx
   ·rename_i e;cases hx;have e:x="FIGURES_READ":=by simpa using e
    subst e;refine' ⟨_,.int 16,mg_of X G ?qc4,⟨_,?rc4⟩,fun _ _=>by simp only[Rep]⟩
    case qc4=>k_is
    case rc4=>rfl
   ·cases hx
  all_goals (try first | k_is | (dsimp only;k_is))
  all_goals (try first | k_is | (dsimp only;k_is))
  all_goals (try first | k_exc | (dsimp only;k_exc))
