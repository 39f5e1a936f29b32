import PyProof.Rows.All
import Wide.All
import OpenK.AllK
import Wide.FinOn
import Lean
import PyProof.EqAt
import PyProof.EqKinds
import PyProof.TupleCall
import PySem.Challenge.RW_tallysets_k51_grammars_written
open List renaming getElem?_eq_getElem → jp5, mem_cons_of_mem → jp6, mem_cons_self → jp7, size_toArray → jp8, getElem?_set → jp9, getElem?_map → jqa, map_cons → jqb, getD_eq_getElem?_getD → jqc, length_map → jqd, length_cons → jqe, mem_append_right → jqf, mem_of_getElem? → jqg, getElem?_append_right → jqh, length_append → jqi, filterMap_cons → jqj, getElem?_eq_none → jqk, getElem?_append_left → jql, getElem?_set_ne → jqm, getElem?_cons_zero → jqn, getElem?_cons_succ → jqo, mem_append_left → jqp, length_set → jqq, append_nil → jqr
open PySem renaming wpAny_bind → jqs, wpAny_pure → jqt, wpAny_ite_false → jqu, wpAny_newObj_type → jqv, wpAny_holding → jqw, wpAny_mono → jqx
open PySem.Heap renaming get?_push_of_some → jqy, lt_size → jqz, get?_push_size → jqA, get?_update_self → jqB, get?_update_other → jqC
open Nat renaming le_refl → jqD, lt_of_lt_of_le → jqE, ne_of_lt → jqF, le_trans → jqG, lt_irrefl → jqH
open Bool renaming and_eq_true → jqI, false_eq_true → jqJ, false_ne_true → jqK
set_option linter.all false
set_option maxRecDepth 100000
set_option Elab.async false
set_option maxHeartbeats 4000000
set_option bootstrap.genMatcherCode false
set_option genSizeOfSpec false
set_option compiler.extract_closed false
local macro_rules | `(tactic| omega)=>`(tactic| first | lia | omega +splitDisjunctions)
namespace L2
open PySem PySem.Spec PyProof.Rows
noncomputable abbrev Key:=Sum Int Str
noncomputable def jmm:Key->Value->Bool
 |.inl k,v=>Value.isInt k v
 |.inr x,v=>Value.isStrOf x v
noncomputable def jpx (w:World):Key->Int
 |.inl k=>hashInt k
 |.inr x=>hashStr w x
theorem jal:∀{k:Key}{v:Value},jmm k v=true->(∃i t,k=Sum.inl i/\v=Value.int i t)\/(∃x t,k=Sum.inr x/\v=Value.str x t)
 |.inl i,v,h=>by
  obtain⟨t,e⟩:=Value.isInt_shape (k:=i) (v:=v) h;exact .inl ⟨i,t,rfl,e⟩
 |.inr x,v,h=>by
  obtain⟨t,e⟩:=Value.isStrOf_shape (x:=x) (v:=v) h;exact .inr ⟨x,t,rfl,e⟩
theorem jmn (a b:Int):decide ((Sum.inl a:Key)=Sum.inl b)=(a == b):=by
 by_cases e:a=b
 ·subst e;simp
 ·have h:¬ (Sum.inl a:Key)=Sum.inl b:=fun q=>e (Sum.inl.inj q);rw[decide_eq_false h];exact(beq_eq_false_iff_ne.mpr e).symm
theorem jmo (a b:Str):decide ((Sum.inr a:Key)=Sum.inr b)=decide (a=b):=by
 by_cases e:a=b
 ·subst e;simp
 ·have h:¬ (Sum.inr a:Key)=Sum.inr b:=fun q=>e (Sum.inr.inj q);rw[decide_eq_false h,decide_eq_false e]
theorem jmp (a:Int)(b:Str):decide ((Sum.inl a:Key)=Sum.inr b)=false:=decide_eq_false (fun q=>nomatch q)
theorem jmq (a:Str)(b:Int):decide ((Sum.inr a:Key)=Sum.inl b)=false:=decide_eq_false (fun q=>nomatch q)
noncomputable def jeb (prog:Program)(w:World):PySem.KeyKind prog w Key where
 is:=jmm
 hash:=jpx w
 inj:=fun v a b ha hb=>by
  rcases jal ha with ⟨i,t,rfl,rfl⟩ | ⟨x,t,rfl,rfl⟩
  ·rcases jal hb with ⟨j,u,rfl,e⟩ | ⟨y,u,rfl,e⟩
   ·injection e with e1 _;rw[e1]
   ·exact nomatch e
  ·rcases jal hb with ⟨j,u,rfl,e⟩ | ⟨y,u,rfl,e⟩
   ·exact nomatch e
   ·injection e with e1 _;rw[e1]
 byValue:=fun k v h=>by
  rcases jal h with ⟨i,t,rfl,rfl⟩ | ⟨x,t,rfl,rfl⟩ <;> rfl
 pyHash:=fun hv h=>by
  rcases jal hv with ⟨i,t,rfl,rfl⟩ | ⟨x,t,rfl,rfl⟩
  ·exact wpAny_pyHash_int h
  ·exact wpAny_pyHash_str h
 eqBool:=fun hu hv h=>by
  rcases jal hu with ⟨i,t,rfl,rfl⟩ | ⟨x,t,rfl,rfl⟩
  ·rcases jal hv with ⟨j,u,rfl,rfl⟩ | ⟨y,u,rfl,rfl⟩
   ·rw[jmn]at h;exact wpAny_eqBool_int h
   ·rw[jmp]at h;exact SeqAt.EqAt.int_str i t y u _ _ _ _ h
  ·rcases jal hv with ⟨j,u,rfl,rfl⟩ | ⟨y,u,rfl,rfl⟩
   ·rw[jmq]at h;exact SeqAt.EqAt.str_int x t j u _ _ _ _ h
   ·rw[jmo]at h;exact wpAny_eqBool_str h
 «strs»:=fun k x t v h=>by
  rcases jal h with ⟨i,u,rfl,e⟩ | ⟨y,u,rfl,e⟩
  ·exact nomatch e
  ·injection e with e1 _
   subst e1;cases v <;> rfl
end L2
namespace L2
open PySem PySem.Spec PyProof.Rows
inductive V where
 |non | bl (b:Bool) | int (i:Int) | str (x:Str) | byt (b:Array UInt8) | flt (b:UInt64) | ref (a:Addr) | ty (n:String)
 deriving DecidableEq
noncomputable def RelV:V->Value->Prop
 |.non,u=>u=Value.none
 |.bl b,u=>u=Value.bool b
 |.int i,u=>∃t,u=Value.int i t
 |.str x,u=>∃t,u=Value.str x t
 |.byt b,u=>∃t,u=Value.bytes b t
 |.flt b,u=>∃t,u=Value.float b t
 |.ref a,u=>u=Value.ref a
 |.ty n,u=>u=Value.type n
noncomputable abbrev Vals:List V->List Value->Prop:=Paired RelV
theorem Vals.length {xs:List V}{us:List Value}(r:Vals xs us):xs.length=us.length:=Paired.length r
theorem Vals.get:∀{xs:List V}{us:List Value}{i:Nat}{x:V},Vals xs us->xs[i]?=some x->∃u,us[i]?=some u/\RelV x u
 |_,_,_,_,.nil,e=>by simp at e
 |_,_,0,_,.cons r _,e=>by simp at e;subst e;exact⟨_,rfl,r⟩
 |_,_,i + 1,x,.cons _ t,e=>by
  obtain⟨u,h1,h2⟩:=Vals.get (i:=i) (x:=x) t (by simpa using e)
  exact⟨u,by simpa using h1,h2⟩
theorem Vals.set {x:V}{u:Value}(r:RelV x u):∀{xs:List V}{us:List Value} (i:Nat),Vals xs us->Vals (xs.set i x) (us.set i u)
 |_,_,_,.nil=>.nil
 |_,_,0,.cons _ t=>.cons r t
 |_,_,i + 1,.cons q t=>.cons q (Vals.set r i t)
theorem Vals.append {xs ys:List V}{us ws:List Value}(h:Vals xs us)(s:Vals ys ws):Vals (xs++ys) (us++ws):=by
 induction h with
 |nil=>exact s
 |cons r t ih=>exact .cons r ih
theorem Vals.take:∀{xs:List V}{us:List Value} (n:Nat),Vals xs us->Vals (xs.take n) (us.take n)
 |_,_,0,_=>.nil
 |_,_,_ + 1,.nil=>.nil
 |_,_,n + 1,.cons r t=>.cons r (Vals.take n t)
theorem Vals.drop:∀{xs:List V}{us:List Value} (n:Nat),Vals xs us->Vals (xs.drop n) (us.drop n)
 |_,_,0,r=>r
 |_,_,_ + 1,.nil=>.nil
 |_,_,n + 1,.cons _ t=>Vals.drop n t
noncomputable def jpd:Option V->Option Value->Prop
 |some v,some u=>RelV v u
 |none,none=>True
 |_,_=>False
noncomputable def KV {κ:Type}:List (κ×V)->List (κ×Value)->Prop:=Paired fun (p:κ×V) (q:κ×Value)=>p.1=q.1/\RelV p.2 q.2
noncomputable def kV:Key->V
 |.inl i=>.int i
 |.inr x=>.str x
inductive HO where
 |lst (xs:List V)
 |tup (xs:List V)
 |dK (kvs:List (Key×V)) | dT (kvs:List (List Key×V))
 |set (S:Int->Bool) (n:Nat)
 |ins (C dx:Addr) (fs:List (Str×V))
 |own (x:Addr)
 |xd (fs:List (Str×V))
 |met (f x:Addr)
 |rng (lo hi:Int)
 |frz (o:Obj) (u:HO)
 |tbl (ps:Array Value)
 |ext (φ:Heap->Prop)
noncomputable abbrev Hp:=Addr->Option HO
noncomputable def upd (H:Hp)(a:Addr)(o:HO):Hp:=fun b=>if b=a then some o else H b
theorem jam {H:Hp}{a:Addr}{o:HO}:upd H a o a=some o:=by unfold upd;rw[if_pos rfl]
theorem jac {H:Hp}{a b:Addr}{o:HO}(h:b≠a):upd H a o b=H b:=by unfold upd;rw[if_neg h]
theorem jab {H:Hp}{a b:Addr}{o:HO}(h:H a=some o)(h':H b=none):a≠b:=by
 intro e;subst e;rw[h]at h';cases h'
section
variable (P:Program) (w:World)
noncomputable def ObjOk (H:Hp)(h:Heap)(a:Addr):HO->Prop
 |.lst xs=>xs.length<=sizeLine/\∃(its:List Value) (n:Nat),Vals xs its/\h.get? a=some { cls:=.type "list",data:=.seq its.toArray n }
 |.tup xs=>xs.length<=sizeLine/\∃its:List Value,Vals xs its/\IsTup h a its.toArray
 |.dK kvs=>kvs.length<=sizeLine/\(a == sysModules)=false/\∃vs,KV kvs vs/\h.DictOf (jeb P w) a vs
 |.dT kvs=>kvs.length<=sizeLine/\(a == sysModules)=false/\∃xs:List (List Key×Addr×Value),
   Paired (fun (p:List Key×V) (q:List Key×Addr×Value)=>p.1=q.1/\H q.2.1=some (.tup (p.1.map kV))/\RelV p.2 q.2.2) kvs xs /\
   ∃o es ep,h.get? a=some o/\o.ExactDict/\o.data=.dict es ep/\es.toList=xs.map (entryOfKey (tupleKind (jeb P w)))/\(xs.map (·.1)).Nodup
 |.set S n=>h.SetOf (intKind P w) a S n
 |.ins C dx fs=>H dx=some (.own a)/\fs.length<=1000/\dx≠a/\h.get? a=some (PySem.W.instObj C dx) /\
   ∃mA,h.Ns1 dx mA/\(∀f,jpd (fs.lookup f) (mA f))/\PySem.Within mA (fs.map (·.1))
 |.own _=>∃o,h.get? a=some o
 |.xd fs=>∃mA,h.Ns1 a mA/\∀f,jpd (fs.lookup f) (mA f)
 |.rng lo hi=>∃t u v,h.get? a=some { cls:=.type "range",data:=.fields #[.int lo t,.int hi u,.int 1 v] }
 |.frz o u=>h.get? a=some o/\ObjOk H h a u
 |.tbl ps=>h.get? a=some { cls:=.none,data:=.fields ps }
 |.met f x=>h.get? a=some (PySem.W.methodObj (.ref f) (.ref x))
 |.ext φ=>φ h/\(∃o,h.get? a=some o)/\∀h1 h2:Heap,φ h1->(∀o,h1.get? a=some o->h2.get? a=some o)->φ h2
noncomputable def HOk (H:Hp)(h:Heap):Prop:=∀a o,H a=some o->ObjOk P w H h a o
end
section
variable {P:Program}{w:World}{H H':Hp}{h h':Heap}{a:Addr}{o:HO}
theorem ObjOk.lt (x:ObjOk P w H h a o):a < h.objs.size:=by
 cases o with
 |lst xs=>obtain⟨_,_,_,_,e⟩:=x;exact jqz e
 |tup xs=>obtain⟨_,_,_,p⟩:=x;exact p.lt
 |dK kvs=>obtain⟨_,_,_,_,o,_,_,e,_⟩:=x;exact jqz e
 |dT kvs=>obtain⟨_,_,_,_,o,_,_,e,_⟩:=x;exact jqz e
 |set S n=>obtain⟨o,_,_,_,e,_⟩:=x;exact jqz e
 |ins C dx fs=>obtain⟨_,_,_,e,_⟩:=x;exact jqz e
 |own y=>obtain⟨_,e⟩:=x;exact jqz e
 |xd fs=>obtain⟨_,⟨_,_,_,e,_⟩,_⟩:=x;exact jqz e
 |rng lo hi=>obtain⟨_,_,_,e⟩:=x;exact jqz e
 |frz ob u=>obtain⟨e,_⟩:=x;exact jqz e
 |tbl ps=>exact jqz (show h.get? a=some _ from x)
 |met f y=>exact jqz (show h.get? a=some _ from x)
 |ext φ=>obtain⟨_,⟨_,e⟩,_⟩:=x;exact jqz e
theorem Paired.mapP {α β:Type}{F G:α->β->Prop}{l₁:List α}{l₂:List β}(h:Paired F l₁ l₂)(f:∀a b,F a b->G a b):Paired G l₁ l₂:=by
 induction h with
 |nil=>exact .nil
 |cons r t ih=>exact .cons (f _ _ r) ih
theorem ObjOk.stay (x:ObjOk P w H h a o)(k:∀b u,(b=a\/H b=some (.own a))->h.get? b=some u->h'.get? b=some u)
  (ho:∀b,H b=some (.own a)->H' b=some (.own a)) (ht:∀b xs,H b=some (.tup xs)->H' b=some (.tup xs)):ObjOk P w H' h' a o:=by
 induction o with
 |lst xs=>obtain⟨z,its,n,r,e⟩:=x;exact⟨z,its,n,r,k _ _ (.inl rfl) e⟩
 |tup xs=>obtain⟨z,its,r,ob,e,c⟩:=x;exact⟨z,its,r,ob,k _ _ (.inl rfl) e,c⟩
 |dK kvs=>obtain⟨z,y,vs,r,ob,es,ep,e,c⟩:=x;exact⟨z,y,vs,r,ob,es,ep,k _ _ (.inl rfl) e,c⟩
 |dT kvs=>
  obtain⟨z,y,xs,r,ob,es,ep,e,c⟩:=x;exact⟨z,y,xs,Paired.mapP r fun p q z=>⟨z.1,ht _ _ z.2.1,z.2.2⟩,ob,es,ep,k _ _ (.inl rfl) e,c⟩
 |set S n=>obtain⟨ob,es,ep,t,e,c⟩:=x;exact⟨ob,es,ep,t,k _ _ (.inl rfl) e,c⟩
 |ins C dx fs=>
  obtain⟨d,z,ne,e,mA,⟨od,es,ep,e2,c⟩,r⟩:=x;exact⟨ho _ d,z,ne,k _ _ (.inl rfl) e,mA,⟨od,es,ep,k _ _ (.inr d) e2,c⟩,r⟩
 |own y=>obtain⟨ob,e⟩:=x;exact⟨ob,k _ _ (.inl rfl) e⟩
 |xd fs=>obtain⟨mA,⟨od,es,ep,e,c⟩,r⟩:=x;exact⟨mA,⟨od,es,ep,k _ _ (.inl rfl) e,c⟩,r⟩
 |rng lo hi=>obtain⟨t,u,v,e⟩:=x;exact⟨t,u,v,k _ _ (.inl rfl) e⟩
 |frz ob u ih=>obtain⟨e,q⟩:=x;exact⟨k _ _ (.inl rfl) e,ih q⟩
 |tbl ps=>
  have e:h.get? a=some { cls:=.none,data:=.fields ps }:=x;show h'.get? a=some { cls:=.none,data:=.fields ps };exact k a _ (.inl rfl) e
 |met f y=>
  have e:h.get? a=some (PySem.W.methodObj (.ref f) (.ref y)):=x;show h'.get? a=some (PySem.W.methodObj (.ref f) (.ref y));exact k a _ (.inl rfl) e
 |ext φ=>obtain⟨p,⟨o,e⟩,st⟩:=x;exact⟨st _ _ p fun o q=>k _ _ (.inl rfl) q,⟨o,k _ _ (.inl rfl) e⟩,st⟩
theorem HOk.lt (x:HOk P w H h)(e:H a=some o):a < h.objs.size:=(x a o e).lt
theorem HOk.fresh (x:HOk P w H h)(e:h.objs.size<=a):H a=none:=by
 cases q:H a with
 |none=>rfl
 |some u=>exact absurd (jqE (x.lt q) e) (jqH _)
theorem HOk.kept (x:HOk P w H h)(k:∀b u,h.get? b=some u->h'.get? b=some u):HOk P w H h':=fun a o e=>
 (x a o e).stay (fun b u _ q=>k b u q) (fun _ q=>q) fun _ _ q=>q
theorem HOk.laid (x:HOk P w H h)(k:∀b u,h.get? b=some u->h'.get? b=some u)(hp:h.objs.size<=a)(new:ObjOk P w (upd H a o) h' a o):HOk P w (upd H a o) h':=fun b u e=>by
 have hn:=x.fresh hp;by_cases hb:b=a
 ·subst hb;rw[jam]at e;cases e;exact new
 ·rw[jac hb]at e;exact(x b u e).stay (fun c v _ q=>k c v q) (fun c q=>by rw[jac (jab q hn)];exact q) fun c xs q=>by rw[jac (jab q hn)];exact q
end
noncomputable def Rd (H:Hp)(a:Addr)(u:HO):Prop:=H a=some u\/∃o,H a=some (.frz o u)
theorem Rd.ok {P:Program}{w:World}{H:Hp}{h:Heap}{a:Addr}{u:HO}(r:Rd H a u)(x:HOk P w H h):ObjOk P w H h a u:=by
 rcases r with r | ⟨o,r⟩
 ·exact x a u r
 ·obtain⟨_,q⟩:=x a _ r;exact q
noncomputable def Mut:Option HO->Prop
 |some (.lst _)=>True
 |some (.dK _)=>True
 |some (.dT _)=>True
 |some (.set _ _)=>True
 |some (.ins _ _ _)=>True
 |some (.ext _)=>True
 |_=>False
section
variable {P:Program}{w:World}{H:Hp}{h h':Heap}{x e:Addr}{o':HO}
theorem HOk.write (ok:HOk P w H h)(mu:Mut (H x))(he:e=x\/H e=some (.own x))(k:∀b u,b≠e->h.get? b=some u->h'.get? b=some u)(heo:∃u,h'.get? e=some u)
  (new:ObjOk P w (upd H x o') h' x o'):HOk P w (upd H x o') h':=fun b u q=>by
 have nown:∀c y,H c=some (.own y)->c≠x:=fun c y r z=>by subst z;rw[r]at mu;exact mu
 have ntup:∀c xs,H c=some (.tup xs)->c≠x:=fun c xs r z=>by subst z;rw[r]at mu;exact mu
 by_cases hb:b=x
 ·subst hb;rw[jam]at q;cases q;exact new
 ·rw[jac hb]at q;by_cases hbe:b=e
  ·have q':H b=some (.own x):=by
    rcases he with z | z
    ·exact absurd (hbe.trans z) hb
    ·rw[hbe];exact z
   rw[q]at q';cases q';obtain⟨v,hv⟩:=heo;exact⟨v,by rw[hbe];exact hv⟩
  ·refine(ok b u q).stay (fun c v hc r=>k c v ?_ r) (fun c r=>by rw[jac (nown c b r)];exact r) fun c xs r=>by rw[jac (ntup c xs r)];exact r
   rcases hc with rfl | hc
   ·exact hbe
   ·rintro rfl;rcases he with z | z
    ·exact nown c b hc z
    ·rw[hc]at z;cases z;exact hb rfl
end
structure Un (fs ex:List Addr)(H H':Hp)(h h':Heap):Prop where
 keep:∀b o,h.get? b=some o->H b=none->b ∉ fs->b ∉ ex->h'.get? b=some o
 slot:∀b o,h.get? b=some o->H b=none->b∈fs->b ∉ ex->∃sl,h'.get? b=some { o with slots:=sl }
 free:∀b o,h.get? b=some o->H b=none->b ∉ ex->H' b=none
 there:∀b o,h.get? b=some o->b ∉ ex->∃o',h'.get? b=some o'
 tups:∀b xs,H b=some (.tup xs)->H' b=some (.tup xs)
 frzs:∀b o u,H b=some (.frz o u)->H' b=some (.frz o u)
 tbls:∀b ps,H b=some (.tbl ps)->∃more,H' b=some (.tbl (ps++more))
section
variable {fs fs' ex ex':List Addr}{H H1 H2:Hp}{h h1 h2 h':Heap}{a x e:Addr}{o:HO}
theorem Un.any (u:Un fs ex H H1 h h1){b:Addr}{ob:Obj}(q:h.get? b=some ob)(n:H b=none)(hx:b ∉ ex):∃sl,h1.get? b=some { ob with slots:=sl }:=by
 by_cases hb:b∈fs
 ·exact u.slot b ob q n hb hx
 ·exact⟨ob.slots,u.keep b ob q n hb hx⟩
theorem Un.kept (k:∀b u,h.get? b=some u->h'.get? b=some u):Un fs ex H H h h':=
 ⟨fun b ob q _ _ _=>k b ob q,fun b ob q _ _ _=>⟨ob.slots,k b ob q⟩,fun _ _ _ n _=>n,fun b ob q _=>⟨ob,k b ob q⟩,fun _ _ q=>q,fun _ _ _ q=>q,fun _ ps q=>⟨#[],by rw[q];simp⟩⟩
theorem Un.refl:Un fs ex H H h h:=Un.kept fun _ _ q=>q
theorem Un.laid (k:∀b u,h.get? b=some u->h'.get? b=some u)(hp:h.objs.size<=a)(hn:H a=none):Un fs ex H (upd H a o) h h' where
 keep:=fun b u q _ _ _=>k b u q
 slot:=fun b u q _ _ _=>⟨u.slots,k b u q⟩
 free:=fun b u q n _=>by rw[jac (jqF (jqE (jqz q) hp))];exact n
 there:=fun b u q _=>⟨u,k b u q⟩
 tups:=fun b xs q=>by rw[jac (jab q hn)];exact q
 frzs:=fun b u xs q=>by rw[jac (jab q hn)];exact q
 tbls:=fun b ps q=>⟨#[],by rw[jac (jab q hn),q];simp⟩
theorem Un.write (mu:Mut (H x))(he:e=x\/H e=some (.own x))(k:∀b u,b≠e->h.get? b=some u->h'.get? b=some u)(heo:∃u,h'.get? e=some u):Un fs ex H (upd H x o) h h':=by
 have hx:∀b,H b=none->b≠x:=fun b n z=>by subst z;rw[n]at mu;exact mu
 have hb:∀b,H b=none->b≠e:=fun b n z=>by
  subst z;rcases he with r | r
  ·exact hx b n r
  ·rw[n]at r;cases r
 have hm:∀b u,H b=some u->¬ Mut (some u)->b≠x:=fun b u q nm z=>by subst z;rw[q]at mu;exact nm mu
 refine⟨fun b u q n _ _=>k b u (hb b n) q,fun b u q n _ _=>⟨u.slots,k b u (hb b n) q⟩,fun b u q n _=>by rw[jac (hx b n)];exact n,fun b u q _=>?_,
  fun b xs q=>by rw[jac (hm b _ q fun z=>z)];exact q,fun b u xs q=>by rw[jac (hm b _ q fun z=>z)];exact q,fun b ps q=>⟨#[],by rw[jac (hm b _ q fun z=>z),q];simp⟩⟩
 by_cases hbe:b=e
 ·subst hbe;exact heo
 ·exact⟨u,k b u hbe q⟩
end
noncomputable def trk (h:Heap)(H:Hp):List Addr:=(List.range h.objs.size).filter fun a=>(H a).isSome
noncomputable def jip (h:Heap)(H:Hp):Heap:=PySem.W.hideAll h (trk h H)
theorem jgl (h:Heap)(H:Hp):(jip h H).objs.size=h.objs.size:=PySem.W.hideAll_size _ _
theorem jiq {h:Heap}{H:Hp}{b:Addr}{o:Obj}(e:h.get? b=some o)(n:H b=none):(jip h H).get? b=some o:=
 PySem.W.hideAll_get _ e fun hm=>by
  have q:(H b).isSome=true:=(List.mem_filter.mp hm).2;rw[n]at q;simp at q
theorem jkj {h:Heap}{H:Hp}{b:Addr}{o:Obj}(e:(jip h H).get? b=some o):h.get? b=some o/\H b=none:=by
 have e':h.get? b=some o:=PySem.W.of_hideAll (trk h H) e;refine⟨e',?_⟩;cases q:H b with
 |none=>rfl
 |some x=>
  have hm:b∈trk h H:=List.mem_filter.mpr ⟨List.mem_range.mpr (jqz e'),by simp[q]⟩
  have z:(jip h H).get? b=none:=PySem.W.hideAll_none (trk h H) hm;rw[z]at e;cases e
noncomputable def jkk (g h:Heap)(L:Addr):List (Addr×Obj):=(List.range h.objs.size).filterMap fun a=>if a=L\/(g.get? a).isSome=true then none else (h.get? a).map fun o=>(a,o)
noncomputable def jec (g h:Heap)(L d:Addr):List (Addr×Obj):=(jkk g h L).filter fun p=>decide (p.1≠d)
end L2
namespace L2
open PySem PySem.Spec PyProof.Rows
structure Mod (K:PySem.W.Frag)(mg:Str->Option Value)(base:Heap):Prop where
 kin:K.In base
 glob:base.Ns mainGlobals mg
 blt:∃mb,base.Ns builtinsNs mb/\∀x:Str,x≠"__name__"->mb x=bootBuiltins x
 nolimit:base.NoLimit
structure Cx where
 prog:Program
 w:World
 K:PySem.W.Frag
 mg:Str->Option Value
 base:Heap
 A:Around
 N:List Str
 s₀:Shared
 H₀:Hp
 env:Env
 outer:List Env
 stack:List Env
 ex:List Addr
 fn:Str->Bool
 calm:Bool
 pn:List (Addr×Obj)
 xe:Value->Shared->Prop
noncomputable def frs (l:List Env):List Addr:=l.filterMap (·.frame)
noncomputable abbrev Cx.fs (X:Cx):List Addr:=frs X.outer
noncomputable def Vis (sc:Scope)(x:Str):Prop:=sc.names.lookup x=some .local\/sc.names.lookup x=some .cell\/sc.names.lookup x=some .free
noncomputable def Loc (sc:Scope)(x:Str):Prop:=sc.names.lookup x=some .local\/sc.names.lookup x=some .cell
noncomputable def Look (env:Env)(h:Heap)(m:Str->Option Value)(x:Str)(u:Value):Prop:=
 (env.kindOf x=some .local/\m x=some u)\/((env.kindOf x=some .cell\/env.kindOf x=some .free)/\∃c,env.cells.lookup x=some c/\h.IsCell c (some u))
structure Cx.Ok (X:Cx):Prop where
 mod:Mod X.K X.mg X.base
 kind:X.env.scope.kind=.function
 glob:X.env.globals=mainGlobals
 blt:X.env.builtins=builtinsNs
 above:X.s₀.heap.objs.size<=X.env.locals
 inj:∀x y c,X.env.cells.lookup x=some c->X.env.cells.lookup y=some c->x=y
 has:∀x,(X.env.kindOf x=some .cell\/X.env.kindOf x=some .free)->∃c,X.env.cells.lookup x=some c
 cab:∀x c,X.fn x=true->X.env.cells.lookup x=some c->X.s₀.heap.objs.size<=c
 hd:X.calm=true->X.A.handled=none
 frames:X.A.frames=some X.stack
 stk:X.stack=X.outer\/(X.stack=X.env::X.outer/\X.env.frame=some X.env.locals)
 exf:∀b∈X.ex,b≠X.env.locals/\∀x c,X.env.cells.lookup x=some c->c≠b
 bs:∀b o,X.base.get? b=some o->X.s₀.heap.get? b=some o/\X.H₀ b=none
 bsz:X.base.objs.size<=X.s₀.heap.objs.size
 noex:∀b o,X.base.get? b=some o->b ∉ X.ex
 exfs:∀b∈X.ex,b ∉ X.fs
 funs:X.s₀.heap.FunFrames X.base X.outer
 frf:∀b∈X.fs,X.H₀ b=none
structure Inv (X:Cx)(pins:List (Addr×Obj))(σ:List (Option V))(H:Hp)(s:Shared):Prop where
 ok:X.Ok
 os:s.os=X.s₀.os
 bare:AllBare s.gens
 base:Un X.fs X.ex X.H₀ H X.s₀.heap s.heap
 loc:∃m,s.heap.Ns X.env.locals m/\∀(i:Nat) (x:Str) (v:V),X.N[i]?=some x->σ[i]?=some (some v)->Vis X.env.scope x->∃u,RelV v u/\Look X.env s.heap m x u
 cell:∀x c,X.env.cells.lookup x=some c->∃v,s.heap.IsCell c v
 free:H X.env.locals=none
 freeC:∀x c,X.env.cells.lookup x=some c->H c=none
 pin:∀p∈X.pn++pins,s.heap.get? p.1=some p.2/\H p.1=none/\p.1≠X.env.locals/\p.1 ∉ X.fs/\∀v,p.2.data≠.cell v
 hok:HOk X.prog X.w H s.heap
 len:σ.length=X.N.length
section
variable {X:Cx}{pins:List (Addr×Obj)}{σ:List (Option V)}{H H':Hp}{s:Shared}{h':Heap}
theorem Cx.Ok.nofr (ok:X.Ok){b:Addr}{o:Obj}(e:X.base.get? b=some o):b ∉ X.fs:=fun hb=>by
 have:=(ok.funs.mem hb).1;rw[e]at this;cases this
theorem Inv.bs (I:Inv X pins σ H s):∀b o,X.base.get? b=some o->s.heap.get? b=some o/\H b=none:=fun b o e=>
 ⟨I.base.keep b o (I.ok.bs b o e).1 (I.ok.bs b o e).2 (I.ok.nofr e) (I.ok.noex b o e),I.base.free b o (I.ok.bs b o e).1 (I.ok.bs b o e).2 (I.ok.noex b o e)⟩
theorem Inv.bk (I:Inv X pins σ H s):∀b o,X.base.get? b=some o->s.heap.get? b=some o:=fun b o e=>(I.bs b o e).1
theorem Inv.mod (I:Inv X pins σ H s):Mod X.K X.mg X.base:=I.ok.mod
theorem Inv.kIn (I:Inv X pins σ H s):X.K.In s.heap:=I.ok.mod.kin.keeps I.bk
theorem Inv.lt (I:Inv X pins σ H s):X.env.locals < s.heap.objs.size:=let ⟨_,hn,_⟩:=I.loc;hn.lt
theorem Inv.sz (I:Inv X pins σ H s):X.s₀.heap.objs.size<=s.heap.objs.size:=jqG I.ok.above (Nat.le_of_lt I.lt)
theorem Inv.nofs (I:Inv X pins σ H s){a:Addr}(h:s.heap.objs.size<=a):a ∉ X.fs:=fun hb=>by
 obtain⟨_,o,ho,_⟩:=I.ok.funs.mem hb;exact absurd (jqE (jqz ho) (jqG I.sz h)) (jqH _)
theorem Inv.cne (I:Inv X pins σ H s):∀x c,X.env.cells.lookup x=some c->c≠X.env.locals:=fun x c e z=>by
 obtain⟨v,o,ho,hd⟩:=I.cell x c e;obtain⟨m,⟨o',es,ep,ho',hd',_⟩,_⟩:=I.loc;rw[z,ho']at ho;cases ho;rw[hd']at hd;cases hd
theorem Inv.funs (I:Inv X pins σ H s):s.heap.FunFrames X.base X.outer:=by
 have all:∀(l:List Env),(∀b∈frs l,b∈X.fs)->X.s₀.heap.FunFrames X.base l->s.heap.FunFrames X.base l:=by
  intro l;induction l with
  |nil=>intro _ _;trivial
  |cons env r ih=>
   intro hs hl;obtain⟨hk,⟨L,o,hf,hn,ho,hd⟩,hr⟩:=hl;have hL:L∈X.fs:=hs L (by unfold frs;rw[jqj,hf];exact jp7)
   obtain⟨sl,e⟩:=I.base.slot L o ho (I.ok.frf L hL) hL fun z=>I.ok.exfs L z hL;exact⟨hk,⟨L,_,hf,hn,e,hd⟩,ih (fun b hb=>hs b (by unfold frs;rw[jqj,hf];exact jp6 _ hb)) hr⟩
 exact all X.outer (fun _ hb=>hb) I.ok.funs
theorem Inv.stack (I:Inv X pins σ H s):s.heap.FunFrames X.base X.stack:=by
 rcases I.ok.stk with e | ⟨e,hf⟩
 ·rw[e];exact I.funs
 ·rw[e];obtain⟨m,hn,_⟩:=I.loc;refine .cons (by rw[I.ok.kind];decide) hf hn ?_ I.funs
  exact Heap.get?_none_of_le (jqG I.ok.bsz I.ok.above)
theorem Inv.stkSub (I:Inv X pins σ H s):∀b∈frs X.stack,b∈X.env.locals::X.fs:=fun b hb=>by
 rcases I.ok.stk with e | ⟨e,hf⟩
 ·rw[e]at hb;exact jp6 _ hb
 ·rw[e]at hb;unfold frs at hb;rw[jqj,hf]at hb;exact hb
theorem Inv.stkFree (I:Inv X pins σ H s):∀b∈frs X.stack,H b=none:=fun b hb=>by
 rcases List.mem_cons.mp (I.stkSub b hb)with e | hb
 ·rw[e];exact I.free
 ·obtain⟨_,o,ho,_⟩:=I.ok.funs.mem hb;exact I.base.free b o ho (I.ok.frf b hb) fun z=>I.ok.exfs b z hb
theorem Inv.step {g':Array GenState}{t':Nat}{d':Drawn}{ch:List Addr}(I:Inv X pins σ H s)
  (hch:∀b∈ch,(b∈X.ex\/X.s₀.heap.objs.size<=b)/\b≠X.env.locals/\(∀x c,X.env.cells.lookup x=some c->c≠b)/\∀p∈X.pn++pins,p.1≠b)
  (keep:∀b o,b≠X.env.locals->b ∉ X.fs->b ∉ ch->s.heap.get? b=some o->H b=none->h'.get? b=some o)
  (slot:∀b o,b≠X.env.locals->b∈X.fs->b ∉ ch->s.heap.get? b=some o->H b=none->∃sl,h'.get? b=some { o with slots:=sl }) (free:∀b o,b ∉ ch->s.heap.get? b=some o->H b=none->H' b=none)
  (there:∀b o,b ∉ ch->s.heap.get? b=some o->∃o',h'.get? b=some o')
  (tups:∀b xs,H b=some (.tup xs)->H' b=some (.tup xs)) (frzs:∀b o u,H b=some (.frz o u)->H' b=some (.frz o u)) (tbls:∀b ps,H b=some (.tbl ps)->∃more,H' b=some (.tbl (ps++more)))
  (ns:∀m,s.heap.Ns X.env.locals m->h'.Ns X.env.locals m) (hok:HOk X.prog X.w H' h') (hg:AllBare g') :
  Inv X pins σ H' { s with heap:=h',gens:=g',drawn:=d',toks:=t' }:=by
 have neL:∀b o,X.s₀.heap.get? b=some o->b≠X.env.locals:=fun b o e=>jqF (jqE (jqz e) I.ok.above);have neC:∀b o,X.s₀.heap.get? b=some o->b ∉ X.ex->b ∉ ch:=fun b o e hx hb=>by
  rcases (hch b hb).1 with z | z
  ·exact hx z
  ·exact absurd (jqE (jqz e) z) (jqH _)
 have cellK:∀x c,X.env.cells.lookup x=some c->∀v,s.heap.IsCell c v->h'.IsCell c v:=fun x c e v ⟨o,ho,hd⟩=>by
  have nch:c ∉ ch:=fun z=>(hch c z).2.2.1 x c e rfl;by_cases hc:c∈X.fs
  ·obtain⟨sl,q⟩:=slot c o (I.cne x c e) hc nch ho (I.freeC x c e);exact⟨_,q,hd⟩
  ·exact⟨o,keep c o (I.cne x c e) hc nch ho (I.freeC x c e),hd⟩
 refine⟨I.ok,I.os,hg,⟨fun b o e n hb hx=>?_,fun b o e n hb hx=>?_,fun b o e n hx=>?_,fun b o e hx=>?_,fun b xs e=>tups b xs (I.base.tups b xs e),fun b o xs e=>frzs b o xs (I.base.frzs b o xs e),fun b ps e=>?_⟩,?_,fun x c e=>?_,?_,fun x c e=>?_,fun p hp=>?_,hok,I.len⟩
 ·exact keep b o (neL b o e) hb (neC b o e hx) (I.base.keep b o e n hb hx) (I.base.free b o e n hx)
 ·obtain⟨sl,e1⟩:=I.base.slot b o e n hb hx;obtain⟨sl',e2⟩:=slot b _ (neL b o e) hb (neC b o e hx) e1 (I.base.free b o e n hx);exact⟨sl',e2⟩
 ·obtain⟨o',e1⟩:=I.base.there b o e hx;exact free b o' (neC b o e hx) e1 (I.base.free b o e n hx)
 ·obtain⟨o',e1⟩:=I.base.there b o e hx;exact there b o' (neC b o e hx) e1
 ·obtain⟨m1,e1⟩:=I.base.tbls b ps e;obtain⟨m2,e2⟩:=tbls b _ e1;exact⟨m1++m2,by rw[e2,Array.append_assoc]⟩
 ·obtain⟨m,hn,hl⟩:=I.loc;refine⟨m,ns m hn,fun i x v e1 e2 e3=>?_⟩;obtain⟨u,r,l⟩:=hl i x v e1 e2 e3;refine⟨u,r,?_⟩;rcases l with l | ⟨k,c,e,z⟩
  ·exact .inl l
  ·exact .inr ⟨k,c,e,cellK x c e _ z⟩
 ·obtain⟨v,z⟩:=I.cell x c e;exact⟨v,cellK x c e v z⟩
 ·obtain⟨m,⟨o,_,_,ho,_⟩,_⟩:=I.loc;exact free _ o (fun z=>(hch _ z).2.1 rfl) ho I.free
 ·obtain⟨v,o,ho,hd⟩:=I.cell x c e;exact free c o (fun z=>(hch c z).2.2.1 x c e rfl) ho (I.freeC x c e)
 ·obtain⟨e,n,ne,nf,d⟩:=I.pin p hp;have nch:p.1 ∉ ch:=fun z=>(hch p.1 z).2.2.2 p hp rfl;exact⟨keep p.1 p.2 ne nf nch e n,free p.1 p.2 nch e n,ne,nf,d⟩
theorem Inv.un {t':Nat}(I:Inv X pins σ H s)(u:Un X.fs [] H H' s.heap h')(hok:HOk X.prog X.w H' h'):Inv X pins σ H' { s with heap:=h',toks:=t' }:=by
 obtain⟨m,⟨o,es,ep,ho,r⟩,_⟩:=id I.loc;obtain⟨sl,hL⟩:=u.any ho I.free (by simp)
 exact I.step (g':=s.gens) (d':=s.drawn) (ch:=[]) (fun _ z=>nomatch z) (fun b o _ hb _ e n=>u.keep b o e n hb (by simp)) (fun b o _ hb _ e n=>u.slot b o e n hb (by simp)) (fun b o _ e n=>u.free b o e n (by simp)) (fun b o _ e=>u.there b o e (by simp)) u.tups u.frzs u.tbls (fun m' hm=>by
  obtain⟨o',es',ep',ho',r'⟩:=hm;rw[ho]at ho';cases ho';exact⟨_,es',ep',hL,r'⟩) hok I.bare
theorem Inv.call {g':Array GenState}{t':Nat}{d':Drawn}{ch:List Addr}(I:Inv X pins σ H s)(u:Un (frs X.stack) ch H H' s.heap h')(hok:HOk X.prog X.w H' h')(hg:AllBare g')
  (hch:∀b∈ch,(b∈X.ex\/X.s₀.heap.objs.size<=b)/\b≠X.env.locals/\(∀x c,X.env.cells.lookup x=some c->c≠b)/\∀p∈X.pn++pins,p.1≠b) :
  Inv X pins σ H' { s with heap:=h',gens:=g',drawn:=d',toks:=t' }:=by
 obtain⟨m,⟨o,es,ep,ho,r⟩,_⟩:=id I.loc;obtain⟨sl,hL⟩:=u.any ho I.free fun z=>(hch _ z).2.1 rfl;exact I.step (ch:=ch) hch (fun b o hL hb hc e n=>u.keep b o e n (fun z=>(List.mem_cons.mp (I.stkSub b z)).elim hL hb) hc) (fun b o _ _ hc e n=>u.any e n hc) (fun b o hc e n=>u.free b o e n hc) (fun b o hc e=>u.there b o e hc) u.tups u.frzs u.tbls (fun m' hm=>by
  obtain⟨o',es',ep',ho',r'⟩:=hm;rw[ho]at ho';cases ho';exact⟨_,es',ep',hL,r'⟩) hok hg
theorem Inv.turned {t':Nat}{it:Addr}(I:Inv X pins σ H s)(k:∀b o,b≠it->s.heap.get? b=some o->h'.get? b=some o)(hn:H it=none)(hL:it≠X.env.locals)
  (h1:it∈X.ex\/X.s₀.heap.objs.size<=it) (h2:∀x c,X.env.cells.lookup x=some c->c≠it) (h3:∀p∈X.pn++pins,p.1≠it):Inv X pins σ H { s with heap:=h',toks:=t' }:=by
 have nit:∀b u,H b=some u->b≠it:=fun b u e z=>by rw[z,hn]at e;cases e
 refine I.step (g':=s.gens) (d':=s.drawn) (ch:=[it]) (fun b hb=>?_) (fun b o _ _ hc e _=>k b o (fun z=>hc (by simp[z])) e) (fun b o _ _ hc e _=>⟨o.slots,k b o (fun z=>hc (by simp[z])) e⟩) (fun _ _ _ _ n=>n)
  (fun b o hc e=>⟨o,k b o (fun z=>hc (by simp[z])) e⟩) (fun _ _ e=>e) (fun _ _ _ e=>e) (fun b ps e=>⟨#[],by rw[e];simp⟩) (fun m hm=>?_) (fun b u e=>?_) I.bare
 ·have e:b=it:=by simpa using hb
  subst e;exact⟨h1,hL,h2,h3⟩
 ·obtain⟨o,es,ep,ho,r⟩:=hm;exact⟨o,es,ep,k _ o (Ne.symm hL) ho,r⟩
 ·refine(I.hok b u e).stay (fun c v hc q=>k c v ?_ q) (fun _ q=>q) fun _ _ q=>q;rcases hc with z | z
  ·rw[z];exact nit b u e
  ·exact nit c _ z
theorem Inv.tok (I:Inv X pins σ H s)(t:Nat):Inv X pins σ H { s with toks:=t }:=I.un (h':=s.heap) (t':=t) Un.refl I.hok
theorem Inv.kept {t':Nat}(I:Inv X pins σ H s)(k:∀b u,s.heap.get? b=some u->h'.get? b=some u):Inv X pins σ H { s with heap:=h',toks:=t' }:=I.un (Un.kept k) (I.hok.kept k)
theorem Inv.laid {a:Addr}{o:HO}{t':Nat}(I:Inv X pins σ H s)(k:∀b u,s.heap.get? b=some u->h'.get? b=some u)(hp:s.heap.objs.size<=a)(new:ObjOk X.prog X.w (upd H a o) h' a o) :
  Inv X pins σ (upd H a o) { s with heap:=h',toks:=t' }:=I.un (Un.laid k hp (I.hok.fresh hp)) (I.hok.laid k hp new)
theorem Inv.write {x e:Addr}{o:HO}{t':Nat}(I:Inv X pins σ H s)(mu:Mut (H x))(he:e=x\/H e=some (.own x))(k:∀b u,b≠e->s.heap.get? b=some u->h'.get? b=some u)(heo:∃u,h'.get? e=some u)
  (new:ObjOk X.prog X.w (upd H x o) h' x o):Inv X pins σ (upd H x o) { s with heap:=h',toks:=t' }:=I.un (Un.write mu he k heo) (I.hok.write mu he k heo new)
theorem Inv.pins_of {pins':List (Addr×Obj)}(I:Inv X pins σ H s)(h:∀p∈pins',s.heap.get? p.1=some p.2/\H p.1=none/\p.1≠X.env.locals/\p.1 ∉ X.fs/\∀v,p.2.data≠.cell v):Inv X pins' σ H s:=
 ⟨I.ok,I.os,I.bare,I.base,I.loc,I.cell,I.free,I.freeC,fun p hp=>(List.mem_append.mp hp).elim (fun z=>I.pin p (jqp _ z)) (h p),I.hok,I.len⟩
theorem jcW {N:List Str}(hN:N.Nodup){i j:Nat}{x:Str}(a:N[i]?=some x)(b:N[j]?=some x):i=j:=by
 obtain⟨h1,e1⟩:=List.getElem?_eq_some_iff.mp a;obtain⟨h2,e2⟩:=List.getElem?_eq_some_iff.mp b;exact(List.getElem_inj hN).mp (e1.trans e2.symm)
theorem jgm {M:Model}{A:Around}{E:Value->Shared->Prop}{i:Nat}{x:Str}{v:V}{u:Value}{Q:Unit->Shared->Prop}(I:Inv X pins σ H s)(hN:X.N.Nodup)(hi:X.N[i]?=some x)(hx:Loc X.env.scope x)(r:RelV v u)
  (h:∀s',Inv X pins (σ.set i (some v)) H s'->(∃a,Heap.SameBut a s.heap s'.heap/\(a=X.env.locals\/X.env.cells.lookup x=some a))->Q () s') (hf:X.fn x=true\/X.env.scope.names.lookup x=some .local:=by first | exact .inl rfl | exact .inr rfl | assumption):wpAny M A (storeName X.env x u) Q E s:=by
 obtain⟨m,hn,hl⟩:=id I.loc;have hcls:(X.env.scope.kind == .class || (X.env.scope.kind == .module && X.env.locals != X.env.globals))=false:=by rw[I.ok.kind];rfl
 have hiσ:i < σ.length:=by rw[I.len];exact(List.getElem?_eq_some_iff.mp hi).1
 have cne:=I.cne;have tracked:∀{a:Addr}{h':Heap},(∃o,s.heap.get? a=some o/\H a=none)->Heap.SameBut a s.heap h'->HOk X.prog X.w H h':=fun {a h'} ha hs b ob e=>by
  obtain⟨_,_,hfree⟩:=ha;refine(I.hok b ob e).stay (fun c w' hc q=>(hs.2 c ?_).trans q) (fun _ q=>q) fun _ _ q=>q;rintro rfl;rcases hc with rfl | hc
  ·rw[hfree]at e;cases e
  ·rw[hfree]at hc;cases hc
 rcases hx with hk | hk
 ·refine wpAny_storeName_local hk hn (fun h' hn' hs=>?_) hcls;obtain⟨oL,_,_,hoL,_⟩:=id hn;refine h _ ⟨I.ok,I.os,I.bare,⟨fun b o e n hb hx=>?_,fun b o e n hb hx=>?_,I.base.free,fun b o e hx=>?_,I.base.tups,I.base.frzs,I.base.tbls⟩,⟨_,hn',fun j y v' e1 e2 e3=>?_⟩,fun y c e=>?_,I.free,I.freeC,fun p hp=>?_,tracked ⟨oL,hoL,I.free⟩ hs,by simpa using I.len⟩ ⟨_,hs,.inl rfl⟩
  ·exact(hs.2 b (jqF (jqE (jqz e) I.ok.above))).trans (I.base.keep b o e n hb hx)
  ·obtain⟨sl,e1⟩:=I.base.slot b o e n hb hx;exact⟨sl,(hs.2 b (jqF (jqE (jqz e) I.ok.above))).trans e1⟩
  ·obtain⟨o',e1⟩:=I.base.there b o e hx;exact⟨o',(hs.2 b (jqF (jqE (jqz e) I.ok.above))).trans e1⟩
  ·by_cases hj:j=i
   ·subst hj;rw[hi]at e1;cases e1;rw[List.getElem?_set_self hiσ]at e2;cases e2;exact⟨u,r,.inl ⟨hk,by simp⟩⟩
   ·rw[jqm (Ne.symm hj)]at e2;obtain⟨u',r',q⟩:=hl j y v' e1 e2 e3;refine⟨u',r',?_⟩;rcases q with ⟨k,e⟩ | ⟨k,c,e,z⟩
    ·refine .inl ⟨k,?_⟩;have:y≠x:=fun e=>hj (jcW hN e1 (e ▸ hi));simp[this,e]
    ·exact .inr ⟨k,c,e,z.sameBut hs (cne y c e)⟩
  ·obtain⟨w',z⟩:=I.cell y c e;exact⟨w',z.sameBut hs (cne y c e)⟩
  ·obtain⟨e,n,ne,nf,d⟩:=I.pin p hp;exact⟨(hs.2 p.1 ne).trans e,n,ne,nf,d⟩
 ·have hfn:X.fn x=true:=by
   rcases hf with z | z
   ·exact z
   ·rw[z]at hk;cases hk
  obtain⟨c,hc⟩:=I.ok.has x (.inl hk);obtain⟨w',z⟩:=I.cell x c hc;refine wpAny_storeName_cell I.ok.kind hk hc z (fun h' hc' hs=>?_);obtain⟨oc,hoc,hocd⟩:=id z;refine h { s with heap:=h' } ⟨I.ok,I.os,I.bare,⟨fun b o e n hb hx=>?_,fun b o e n hb hx=>?_,I.base.free,fun b o e hx=>?_,I.base.tups,I.base.frzs,I.base.tbls⟩,⟨m,hn.sameBut hs (Ne.symm (cne x c hc)),fun j y v' e1 e2 e3=>?_⟩,fun y c' e=>?_,I.free,I.freeC,fun p hp=>?_,tracked ⟨oc,hoc,I.freeC x c hc⟩ hs,by simpa using I.len⟩ ⟨c,hs,.inr hc⟩
  ·exact(hs.2 b (jqF (jqE (jqz e) (I.ok.cab x c hfn hc)))).trans (I.base.keep b o e n hb hx)
  ·obtain⟨sl,e1⟩:=I.base.slot b o e n hb hx;exact⟨sl,(hs.2 b (jqF (jqE (jqz e) (I.ok.cab x c hfn hc)))).trans e1⟩
  ·obtain⟨o',e1⟩:=I.base.there b o e hx;exact⟨o',(hs.2 b (jqF (jqE (jqz e) (I.ok.cab x c hfn hc)))).trans e1⟩
  ·by_cases hj:j=i
   ·subst hj;rw[hi]at e1;cases e1;rw[List.getElem?_set_self hiσ]at e2;cases e2;exact⟨u,r,.inr ⟨.inl hk,c,hc,hc'⟩⟩
   ·rw[jqm (Ne.symm hj)]at e2;obtain⟨u',r',q⟩:=hl j y v' e1 e2 e3;refine⟨u',r',?_⟩;rcases q with q | ⟨k,c',e,z'⟩
    ·exact .inl q
    ·refine .inr ⟨k,c',e,z'.sameBut hs ?_⟩;rintro rfl;exact hj (jcW hN e1 (I.ok.inj _ _ _ e hc ▸ hi))
  ·by_cases hcc:c'=c
   ·subst hcc;exact⟨_,hc'⟩
   ·obtain⟨w2,z2⟩:=I.cell y c' e;exact⟨w2,z2.sameBut hs hcc⟩
  ·obtain⟨e,n,ne,nf,d⟩:=I.pin p hp;refine⟨(hs.2 p.1 ?_).trans e,n,ne,nf,d⟩;intro q;rw[q,hoc]at e;have q':oc=p.2:=Option.some.inj e;exact d w' (by rw[<-q'];exact hocd)
theorem jcX {M:Model}{A:Around}{E:Value->Shared->Prop}{i:Nat}{x:Str}{v:V}{u:Value}{Q:Unit->Shared->Prop}(I:Inv X pins σ H s)(hN:X.N.Nodup)(hi:X.N[i]?=some x)(hx:Loc X.env.scope x)(r:RelV v u)
  (h:∀s',Inv X pins (σ.set i (some v)) H s'->Q () s') (hf:X.fn x=true\/X.env.scope.names.lookup x=some .local:=by first | exact .inl rfl | exact .inr rfl | assumption):wpAny M A (storeName X.env x u) Q E s:=
 jgm I hN hi hx r (fun s' I' _=>h s' I') hf
theorem Inv.call' {s':Shared}{ch:List Addr}(I:Inv X pins σ H s)(ho:s'.os=s.os)(u:Un (frs X.stack) ch H H' s.heap s'.heap)(hok:HOk X.prog X.w H' s'.heap)(hg:AllBare s'.gens)
  (hch:∀b∈ch,(b∈X.ex\/X.s₀.heap.objs.size<=b)/\b≠X.env.locals/\(∀x c,X.env.cells.lookup x=some c->c≠b)/\∀p∈X.pn++pins,p.1≠b):Inv X pins σ H' s':=by
 obtain⟨h',g',d',t',o'⟩:=s';have e:o'=s.os:=ho;subst e;exact I.call (g':=g') (t':=t') (d':=d') u hok hg hch
end
noncomputable abbrev XK:=Value->Option Addr->Hp->Prop
noncomputable abbrev St:=List (Option V)
noncomputable abbrev VK:=V->Hp->Prop
noncomputable abbrev TE:=St->Hp->VK->Prop
noncomputable abbrev TT:=St->Hp->(Bool->Hp->Prop)->Prop
noncomputable abbrev TA:=St->Hp->(List V->Hp->Prop)->Prop
structure Ends where
 nx:St->Hp->Prop
 rt:VK
 bk:St->Hp->Prop:=fun _ _=>False
 ct:St->Hp->Prop:=fun _ _=>False
noncomputable abbrev TS:=Ends->St->Hp->Prop
inductive EP (X:Cx) (pins:List (Addr×Obj)) (σ:St) (Q:VK) (u:Value) (s':Shared):Prop
 |mk (v:_) (H':_):(Inv X pins σ H' s')->(RelV v u)->(Q v H')->EP X pins σ Q u s'
noncomputable def TP (X:Cx)(pins:List (Addr×Obj))(σ:St)(Q:Bool->Hp->Prop)(b:Bool)(s':Shared):Prop:=∃H',Inv X pins σ H' s'/\Q b H'
inductive AP (X:Cx) (pins:List (Addr×Obj)) (σ:St) (Q:List V->Hp->Prop) (us:List Value) (s':Shared):Prop
 |mk (vs:_) (H':_):(Inv X pins σ H' s')->(Vals vs us)->(Q vs H')->AP X pins σ Q us s'
noncomputable def SP (X:Cx)(pins:List (Addr×Obj))(D:Ends)(f:Flow)(s':Shared):Prop:=
 match f with
 |.next=>∃σ' H',Inv X pins σ' H' s'/\D.nx σ' H'
 |.brk=>∃σ' H',Inv X pins σ' H' s'/\D.bk σ' H'
 |.cont=>∃σ' H',Inv X pins σ' H' s'/\D.ct σ' H'
 |.ret u=>∃v σ' H',Inv X pins σ' H' s'/\RelV v u/\D.rt v H'
noncomputable def PE (X:Cx)(e:Expr)(t:TE):Prop:=
 ∀(pins:List (Addr×Obj)) (s:Shared) (σ:St) (H:Hp) (Q:VK),Inv X pins σ H s->t σ H Q->wpAny (model X.prog X.w) X.A (eval e X.env) (EP X pins σ Q) X.xe s
noncomputable def PT (X:Cx)(e:Expr)(t:TT):Prop:=
 ∀(pins:List (Addr×Obj)) (s:Shared) (σ:St) (H:Hp) (Q:Bool->Hp->Prop),Inv X pins σ H s->t σ H Q->wpAny (model X.prog X.w) X.A (isTrue e X.env (eval e X.env)) (TP X pins σ Q) X.xe s
noncomputable def PW (X:Cx)(e:Expr)(t:TT):Prop:=
 ∀(whole:Sem Value) (pins:List (Addr×Obj)) (s:Shared) (σ:St) (H:Hp) (Q:Bool->Hp->Prop),Inv X pins σ H s->t σ H Q->wpAny (model X.prog X.w) X.A (isTrue e X.env whole) (TP X pins σ Q) X.xe s
theorem PW.pt {X:Cx}{e:Expr}{t:TT}(h:PW X e t):PT X e t:=h _
noncomputable def PA (X:Cx)(es:List Expr)(t:TA):Prop:=
 ∀(pos:Pos) (pins:List (Addr×Obj)) (s:Shared) (σ:St) (H:Hp) (Q:List V->Hp->Prop),Inv X pins σ H s->t σ H Q->wpAny (model X.prog X.w) X.A (spliced (backTo pos (starEach es X.env))) (AP X pins σ Q) X.xe s
noncomputable def PS (X:Cx)(st:Stmt)(t:TS):Prop:=
 ∀(pins:List (Addr×Obj)) (s:Shared) (σ:St) (H:Hp) (D:Ends),Inv X pins σ H s->t D σ H->wpAny (model X.prog X.w) X.A (exec st X.env) (SP X pins D) X.xe s
noncomputable def PSs (X:Cx)(st:List Stmt)(t:TS):Prop:=
 ∀(pins:List (Addr×Obj)) (s:Shared) (σ:St) (H:Hp) (D:Ends),Inv X pins σ H s->t D σ H->wpAny (model X.prog X.w) X.A (execs st X.env) (SP X pins D) X.xe s
theorem thn {α:Type}{t:Sem α}{Q Q':α->Shared->Prop}{M:Model}{A:Around}{E:Value->Shared->Prop}{s:Shared}(h:wpAny M A t Q E s)(hQ:∀a s,Q a s->Q' a s):wpAny M A t Q' E s:=jqx h hQ fun _ _ x=>x
end L2
namespace L2
open PySem PySem.Spec PyProof.Rows
section
variable {X:Cx}
noncomputable def jn6 (i:Nat):TE:=fun σ H Q=>∃v,σ[i]?=some (some v)/\Q v H
noncomputable def tC (v:V):TE:=fun _ H Q=>Q v H
theorem jgn {i:Nat}{x:Str}{pos:Pos}(hN:X.N[i]?=some x)(hv:Vis X.env.scope x)(hd:(x == ("__debug__":Str))=false:=by decide)(hcd:(x == ("__classdict__":Str))=false:=by decide):PE X (.Name x pos) (jn6 i):=by
 intro pins s σ H Q I h;obtain⟨v,e,h⟩:=h;obtain⟨m,hn,hl⟩:=I.loc;obtain⟨u,r,l⟩:=hl i x v hN e hv;have fin:EP X pins σ Q u s:=⟨v,H,I,r,h⟩;rcases l with ⟨hk,hm⟩ | ⟨hk,c,hc,hcell⟩
 ·exact wpAny_Name (wpAny_loadName_local I.ok.kind hk hn hm fin) hd
 ·rcases hk with hk | hk
  ·exact wpAny_Name (wpAny_loadName_cell I.ok.kind hk hc hcell fin) hd
  ·exact wpAny_Name (wpAny_loadName_free I.ok.kind hk hc hcell fin hcd) hd
theorem jmr {i j pos}:PE X (.Constant (.int i) j pos) (tC (.int i)):=fun _ _ _ H _ I h=>wpAny_Constant_int ⟨.int i,H,I.tok _,⟨_,rfl⟩,h⟩
theorem joa {b j pos}:PE X (.Constant (.bool b) j pos) (tC (.bl b)):=fun _ _ _ H _ I h=>Constant_bool ⟨.bl b,H,I,rfl,h⟩
theorem jms {j pos}:PE X (.Constant .none j pos) (tC .non):=fun _ _ _ H _ I h=>Constant_none ⟨.non,H,I,rfl,h⟩
theorem jmt {x j pos}:PE X (.Constant (.str x) j pos) (tC (.str x)):=fun _ _ _ H _ I h=>Calls.Constant_str ⟨.str x,H,I.tok _,⟨_,rfl⟩,h⟩
noncomputable def Gl (X:Cx)(x:Str):Prop:=X.env.kindOf x=some .globalImplicit
theorem jcY {E:Value->Shared->Prop}{pins:List (Addr×Obj)}{s:Shared}{σ:St}{H:Hp}{x:Str}{u:Value}{pos:Pos}{Q:Value->Shared->Prop}(I:Inv X pins σ H s)(hg:Gl X x)(hm:X.mg x=some u)(h:Q u s)
  (hd:(x == ("__debug__":Str))=false:=by decide):wpAny (model X.prog X.w) X.A (eval (.Name x pos) X.env) Q E s:=
 Calls.Name_function_global I.ok.kind hg (Calls.loadGlobal_global (by rw[I.ok.glob];exact I.mod.glob.keeps I.bk) hm h) hd
theorem jeX {E:Value->Shared->Prop}{pins:List (Addr×Obj)}{s:Shared}{σ:St}{H:Hp}{x:Str}{u:Value}{pos:Pos}{Q:Value->Shared->Prop}(I:Inv X pins σ H s)(hg:Gl X x)(hm:X.mg x=none)(hv:bootBuiltins x=some u)(h:Q u s)
  (hn:x≠"__name__":=by decide) (hd:(x == ("__debug__":Str))=false:=by decide):wpAny (model X.prog X.w) X.A (eval (.Name x pos) X.env) Q E s:=by
 obtain⟨mb,h1,h2⟩:=I.mod.blt;exact Calls.Name_function_global I.ok.kind hg (Calls.loadGlobal_builtin (by rw[I.ok.glob];exact I.mod.glob.keeps I.bk) hm (by rw[I.ok.blt];exact h1.keeps I.bk) ((h2 x hn).trans hv) h) hd
theorem jgo {x:Str}{v:V}{u:Value}{pos:Pos}(hg:Gl X x)(hm:X.mg x=some u)(r:RelV v u)(hd:(x == ("__debug__":Str))=false:=by decide):PE X (.Name x pos) (tC v):=
 fun _ _ _ H _ I h=>jcY I hg hm ⟨v,H,I,r,h⟩ hd
theorem jkl {x:Str}{v:V}{u:Value}{pos:Pos}(hg:Gl X x)(hm:X.mg x=none)(hv:bootBuiltins x=some u)(r:RelV v u)(hn:x≠"__name__":=by decide)(hd:(x == ("__debug__":Str))=false:=by decide):PE X (.Name x pos) (tC v):=
 fun _ _ _ H _ I h=>jeX I hg hm hv ⟨v,H,I,r,h⟩ hn hd
variable {a b:Expr}{ta tb:TE}{pos:Pos}
variable {tA tB':TT}{jec:List Expr}
noncomputable def jpe (t u:TT):TT:=fun σ H Q=>t σ H fun c H1=>if c=true then u σ H1 Q else Q false H1
noncomputable def tOr (t u:TT):TT:=fun σ H Q=>t σ H fun c H1=>if c=true then Q true H1 else u σ H1 Q
noncomputable def jpf (t:TT):TT:=fun σ H Q=>t σ H fun c H1=>Q (!c) H1
theorem jkm (ha:PT X a tA):PW X (.BoolOp .And [a] pos) tA:=by
 intro wh pins s σ H Q I h;refine isTrue_and (thn (ha pins s σ H Q I h) fun c s1 e=>?_);cases c with
 |true=>exact isTrue_and_nil e
 |false=>exact e
theorem jmu (ha:PT X a tA):PW X (.BoolOp .Or [a] pos) tA:=by
 intro wh pins s σ H Q I h;refine isTrue_or (thn (ha pins s σ H Q I h) fun c s1 e=>?_);cases c with
 |false=>exact isTrue_or_nil e
 |true=>exact e
theorem jmv (ha:PT X a tA)(hb:PW X (.BoolOp .And (b::jec) pos) tB'):PW X (.BoolOp .And (a::b::jec) pos) (jpe tA tB'):=by
 intro wh pins s σ H Q I h;refine isTrue_and (thn (ha pins s σ H _ I h) fun c s1 hzz=>?_);obtain⟨H1,I1,q1⟩:=hzz;cases c with
 |true=>exact hb wh pins s1 σ H1 Q I1 q1
 |false=>exact⟨H1,I1,q1⟩
theorem job (ha:PT X a tA)(hb:PW X (.BoolOp .Or (b::jec) pos) tB'):PW X (.BoolOp .Or (a::b::jec) pos) (tOr tA tB'):=by
 intro wh pins s σ H Q I h;refine isTrue_or (thn (ha pins s σ H _ I h) fun c s1 hzz=>?_);obtain⟨H1,I1,q1⟩:=hzz;cases c with
 |true=>exact⟨H1,I1,q1⟩
 |false=>exact hb wh pins s1 σ H1 Q I1 q1
theorem jmw (ha:PT X a tA):PT X (.UnaryOp .Not a pos) (jpf tA):=by
 intro pins s σ H Q I h;exact isTrue_not (ha pins s σ H (fun c H1=>Q (!c) H1) I h)
noncomputable def jmx (ta tb:TE):TE:=fun σ H Q=>ta σ H fun x H1=>∃c,x=.bl c/\if c=true then tb σ H1 Q else Q (.bl false) H1
noncomputable def jpg (ta tb:TE):TE:=fun σ H Q=>ta σ H fun x H1=>∃c,x=.bl c/\if c=true then Q (.bl true) H1 else tb σ H1 Q
noncomputable def jmy (ta:TE):TE:=fun σ H Q=>ta σ H fun x H1=>∃c,x=.bl c/\Q (.bl (!c)) H1
theorem jjP {op}{t:TE}(h:PE X a t):PE X (.BoolOp op [a] pos) t:=fun pins s σ H Q I hw=>BoolOp_one (h pins s σ H Q I hw)
theorem jmz (ha:PE X a ta)(hb:PE X (.BoolOp .And (b::jec) pos) tb):PE X (.BoolOp .And (a::b::jec) pos) (jmx ta tb):=by
 intro pins s σ H Q I h;refine BoolOp_and (thn (ha pins s σ H _ I h) fun v s1 hzz=>?_);obtain⟨x,H1,I1,r1,q1⟩:=hzz;obtain⟨c,rfl,q1⟩:=q1;cases r1;refine wpAny_truthy_bool ?_;cases c with
 |true=>exact hb pins s1 σ H1 Q I1 q1
 |false=>exact⟨.bl false,H1,I1,rfl,q1⟩
theorem joc (ha:PE X a ta)(hb:PE X (.BoolOp .Or (b::jec) pos) tb):PE X (.BoolOp .Or (a::b::jec) pos) (jpg ta tb):=by
 intro pins s σ H Q I h;refine BoolOp_or (thn (ha pins s σ H _ I h) fun v s1 hzz=>?_);obtain⟨x,H1,I1,r1,q1⟩:=hzz;obtain⟨c,rfl,q1⟩:=q1;cases r1;refine wpAny_truthy_bool ?_;cases c with
 |false=>exact hb pins s1 σ H1 Q I1 q1
 |true=>exact⟨.bl true,H1,I1,rfl,q1⟩
theorem jmA (ha:PE X a ta):PE X (.UnaryOp .Not a pos) (jmy ta):=by
 intro pins s σ H Q I h;refine UnaryOp_ (thn (ha pins s σ H _ I h) fun v s1 hzz=>?_);obtain⟨x,H1,I1,r1,q1⟩:=hzz;obtain⟨c,rfl,q1⟩:=q1;cases r1;exact not_of (wpAny_truthy_bool ⟨.bl (!c),H1,I1,rfl,q1⟩)
noncomputable def tIf (t:TT)(ta tb:TE):TE:=fun σ H Q=>t σ H fun c H1=>if c=true then ta σ H1 Q else tb σ H1 Q
theorem jir {c:Expr}(hc:PT X c tA)(ha:PE X a ta)(hb:PE X b tb):PE X (.IfExp c a b pos) (tIf tA ta tb):=by
 intro pins s σ H Q I h;refine wpAny_IfExp (thn (hc pins s σ H _ I h) fun d s1 hzz=>?_);obtain⟨H1,I1,q1⟩:=hzz;cases d with
 |true=>exact ha pins s1 σ H1 Q I1 q1
 |false=>exact hb pins s1 σ H1 Q I1 q1
end
end L2
namespace L2
open PySem PySem.Spec PyProof.Rows
noncomputable def SqL (K:PySem.W.Frag)(H:Hp)(a:Addr)(xs:List V):Prop:=
 Rd H a (.lst xs) \/
  ∃(o:Obj) (its:Array Value) (n:Nat),K.lookup a=some o/\o.cls=.type "list"/\o.dict=none/\o.data=.seq its n/\its.size<=sizeLine/\Vals xs its.toList
noncomputable def SqT (K:PySem.W.Frag)(H:Hp)(a:Addr)(xs:List V):Prop:=
 Rd H a (.tup xs) \/
  ∃(o:Obj) (its:Array Value) (n:Nat),K.lookup a=some o/\o.cls=.type "tuple"/\o.data=.seq its n/\its.size<=sizeLine/\Vals xs its.toList
noncomputable def jpy:Value->Option V
 |.none=>some .non
 |.bool b=>some (.bl b)
 |.int i _=>some (.int i)
 |.str x _=>some (.str x)
 |.bytes b _=>some (.byt b)
 |.float b _=>some (.flt b)
 |.ref a=>some (.ref a)
 |.type n=>some (.ty n)
 |_=>none
theorem RelV.abs {x:V}{u:Value}(r:RelV x u):jpy u=some x:=by
 cases x with
 |non=>cases r;rfl
 |bl _=>cases r;rfl
 |int _=>obtain⟨t,rfl⟩:=r;rfl
 |str _=>obtain⟨t,rfl⟩:=r;rfl
 |byt _=>obtain⟨t,rfl⟩:=r;rfl
 |flt _=>obtain⟨t,rfl⟩:=r;rfl
 |ref _=>cases r;rfl
 |ty _=>cases r;rfl
theorem RelV.inj {x y:V}{u:Value}(r:RelV x u)(q:RelV y u):x=y:=Option.some.inj (r.abs.symm.trans q.abs)
theorem Vals.inj {xs ys:List V}{us:List Value}(h:Vals xs us)(h':Vals ys us):xs=ys:=by
 induction h generalizing ys with
 |nil=>cases h';rfl
 |cons r t ih=>
  cases h' with
  |cons r' t'=>rw[r.inj r',ih t']
section
variable {X:Cx}{pins:List (Addr×Obj)}{σ:St}{H:Hp}{s:Shared}{a:Addr}{xs ys:List V}
theorem SqL.of {K:PySem.W.Frag}(h:H a=some (.lst xs)):SqL K H a xs:=.inl (.inl h)
theorem Inv.list (I:Inv X pins σ H s)(h:SqL X.K H a xs):∃its:List Value,Vals xs its/\PlainL s.heap a its.toArray/\xs.length<=sizeLine:=by
 rcases h with h | ⟨o,its,n,hk,hc,hd,hs,hz,r⟩
 ·obtain⟨z,its,n,r,e⟩:=h.ok I.hok;exact⟨its,r,⟨_,n,e,rfl,rfl,rfl⟩,z⟩
 ·refine⟨its.toList,r,⟨o,n,I.kIn a o hk,hc,hd,by simpa using hs⟩,?_⟩
  have e:=r.length;simp only[Array.length_toList]at e;omega
theorem Inv.tuple (I:Inv X pins σ H s)(h:SqT X.K H a xs):∃its:List Value,Vals xs its/\IsTup s.heap a its.toArray/\xs.length<=sizeLine:=by
 rcases h with h | ⟨o,its,n,hk,hc,hs,hz,r⟩
 ·obtain⟨z,its,r,p⟩:=h.ok I.hok;exact⟨its,r,p,z⟩
 ·refine⟨its.toList,r,⟨o,I.kIn a o hk,hc,n,by simpa using hs⟩,?_⟩
  have e:=r.length;simp only[Array.length_toList]at e;omega
theorem Inv.list_inj (I:Inv X pins σ H s)(h:SqL X.K H a xs)(h':SqL X.K H a ys):xs=ys:=by
 obtain⟨its,r,⟨o,n,e,_,_,d⟩,_⟩:=I.list h;obtain⟨its',r',⟨o',n',e',_,_,d'⟩,_⟩:=I.list h';rw[e]at e';cases e';rw[d]at d';injection d' with d1 _
 have:its=its':=by simpa using congrArg Array.toList d1
 subst this;exact r.inj r'
theorem Inv.tuple_inj (I:Inv X pins σ H s)(h:SqT X.K H a xs)(h':SqT X.K H a ys):xs=ys:=by
 obtain⟨its,r,⟨o,e,_,n,d⟩,_⟩:=I.tuple h;obtain⟨its',r',⟨o',e',_,n',d'⟩,_⟩:=I.tuple h';rw[e]at e';cases e';rw[d]at d';injection d' with d1 _
 have:its=its':=by simpa using congrArg Array.toList d1
 subst this;exact r.inj r'
end
section
variable {X:Cx}{pins:List (Addr×Obj)}{σ:St}{H:Hp}{s:Shared}{E:Value->Shared->Prop}
end
section
variable {X:Cx}{st:Stmt}{jec:List Stmt}{t u:TS}{e:Expr}{te:TE}{pos:Pos}
noncomputable def jmB:TS:=fun D σ H=>D.nx σ H
noncomputable def jpz (t u:TS):TS:=fun D σ H=>t { D with nx:=u D } σ H
theorem jkn:PSs X [] jmB:=fun _ _ σ H _ I h=>wpAny_execs_nil ⟨σ,H,I,h⟩
theorem jis (h1:PS X st t)(h2:PSs X jec u):PSs X (st::jec) (jpz t u):=by
 intro pins s σ H D I h;refine wpAny_execs_cons (thn (h1 pins s σ H { D with nx:=u D } I h) fun f s1 q=>?_)
 cases f with
 |next=>
  obtain⟨σ',H',I',q⟩:=q;exact h2 pins s1 σ' H' D I' q
 |ret v=>exact q
 |brk=>exact q
 |cont=>exact q
noncomputable def jmC:TS:=fun D σ H=>D.bk σ H
noncomputable def jod:TS:=fun D σ H=>D.ct σ H
theorem jko:PS X (.Pass pos) jmB:=fun _ _ σ H _ I h=>wpAny_Pass ⟨σ,H,I,h⟩
theorem jit:PS X (.Break pos) jmC:=fun _ _ σ H _ I h=>wpAny_Break ⟨σ,H,I,h⟩
theorem jed:PS X (.Continue pos) jod:=fun _ _ σ H _ I h=>wpAny_Continue ⟨σ,H,I,h⟩
theorem Inv.quiet {pins:List (Addr×Obj)}{σ:St}{H:Hp}{s:Shared}(I:Inv X pins σ H s):interactive X.env=false:=by simp[interactive,I.ok.kind]
noncomputable def joe (te:TE):TS:=fun D σ H=>te σ H fun _ H1=>D.nx σ H1
theorem jee (he:PE X e te)(hs:swapsWith e none pos.line X.env=pure false:=by rfl):PS X (.Expr e pos) (joe te):=by
 intro pins s σ H D I h;exact wpAny_Expr_any (thn (he pins s σ H _ I h) fun v s1 ⟨x,H1,I1,r1,q1⟩=>⟨σ,H1,I1,q1⟩) I.quiet hs
noncomputable def jpA (te:TE):TS:=fun D σ H=>te σ H D.rt
theorem jmD (he:PE X e te):PS X (.Return (some e) pos) (jpA te):=by
 intro pins s σ H D I h;exact wpAny_Return_some (thn (he pins s σ H _ I h) fun v s1 ⟨x,H1,I1,r1,q1⟩=>⟨x,σ,H1,I1,r1,q1⟩)
noncomputable def jof:TS:=fun D _ H=>D.rt .non H
theorem jkp:PS X (.Return none pos) jof:=fun _ _ σ H _ I h=>wpAny_Return_none ⟨.non,σ,H,I,rfl,h⟩
noncomputable def jpB (c:TT)(t u:TS):TS:=fun D σ H=>c σ H fun b H1=>if b=true then t D σ H1 else u D σ H1
theorem jog {c:Expr}{a b:List Stmt}{tc:TT}(hc:PT X c tc)(ha:PSs X a t)(hb:PSs X b u):PS X (.If c a b pos) (jpB tc t u):=by
 intro pins s σ H D I h;refine wpAny_If (thn (hc pins s σ H _ I h) fun d s1 hzz=>?_);obtain⟨H1,I1,q1⟩:=hzz;cases d with
 |true=>exact ha pins s1 σ H1 D I1 q1
 |false=>exact hb pins s1 σ H1 D I1 q1
end
noncomputable abbrev TG:=V->St->Hp->(St->Hp->Prop)->Prop
noncomputable abbrev TGs:=List V->St->Hp->(St->Hp->Prop)->Prop
noncomputable def PG (X:Cx)(target:Expr)(t:TG):Prop:=
 ∀(pins:List (Addr×Obj)) (s:Shared) (σ:St) (H:Hp) (v:V) (u:Value) (Q:St->Hp->Prop),Inv X pins σ H s->RelV v u->t v σ H Q ->
  wpAny (model X.prog X.w) X.A (assign target X.env u) (fun _ s'=>∃σ' H',Inv X pins σ' H' s'/\Q σ' H') X.xe s
noncomputable def PGs (X:Cx)(ts:List Expr)(t:TGs):Prop:=
 ∀(pins:List (Addr×Obj)) (s:Shared) (σ:St) (H:Hp) (vs:List V) (us:List Value) (Q:St->Hp->Prop),Inv X pins σ H s->Vals vs us->t vs σ H Q ->
  wpAny (model X.prog X.w) X.A (assignInOrder ((assignEach ts X.env).map (·.2)) us) (fun _ s'=>∃σ' H',Inv X pins σ' H' s'/\Q σ' H') X.xe s
section
variable {X:Cx}{pos:Pos}
noncomputable def jkq (i:Nat):TG:=fun v σ H Q=>Q (σ.set i (some v)) H
theorem jgp {i:Nat}{x:Str}(hN:X.N.Nodup)(hi:X.N[i]?=some x)(hx:Loc X.env.scope x)(hf:X.fn x=true\/X.env.scope.names.lookup x=some .local:=by first | exact .inl rfl | exact .inr rfl | assumption):PG X (.Name x pos) (jkq i):=by
 intro pins s σ H v u Q I r h;exact wpAny_assign_Name (jcX I hN hi hx r (fun s' I'=>⟨_,H,I',h⟩) hf)
noncomputable def jph:TGs:=fun vs σ H Q=>vs=[]/\Q σ H
noncomputable def jmE (t:TG)(u:TGs):TGs:=fun vs σ H Q=>∃v r,vs=v::r/\t v σ H fun σ' H'=>u r σ' H' Q
theorem jkr:PGs X [] jph:=by
 intro pins s σ H vs us Q I r h;obtain⟨e,h⟩:=h;subst e;cases r;exact assignInOrder_nil ⟨σ,H,I,h⟩
theorem jiu {e:Expr}{es:List Expr}{t:TG}{u:TGs}(h1:PG X e t)(h2:PGs X es u)
  (hs:(assignEach (e::es) X.env).map (·.2)=assign e X.env::(assignEach es X.env).map (·.2):=by rfl):PGs X (e::es) (jmE t u):=by
 intro pins s σ H vs us Q I r h;obtain⟨v,vr,e1,h⟩:=h;subst e1;cases r with
 |cons r rr=>
  rw[hs];refine assignInOrder_cons (thn (h1 pins s σ H _ _ _ I r h) fun _ s1 hzz=>?_);obtain⟨σ1,H1,I1,q1⟩:=hzz;exact h2 pins s1 σ1 H1 _ _ Q I1 rr q1
noncomputable def jpC (K:PySem.W.Frag)(n:Nat)(t:TGs):TG:=fun v σ H Q=>∃a xs,v=.ref a/\SqT K H a xs/\xs.length=n/\t xs σ H Q
theorem jmF {es:List Expr}{k:Nat}{t:TGs}{n:Nat}(hc:X.calm=true)(h:PGs X es t)
  (hn:(assignEach es X.env).length=n:=by rfl) (hst:(assignEach es X.env).findIdx? (·.1)=none:=by rfl):PG X (.Tuple es k pos) (jpC X.K n t):=by
 intro pins s σ H v u Q I r hw;obtain⟨a,xs,e1,hq,hl,hw⟩:=hw;subst e1;cases r;obtain⟨its,rv,ht,hz⟩:=I.tuple hq;refine assign_Tuple_tuple (I.ok.hd hc) ht (by simp[hn,<-hl,rv.length]) hst fun h' hx=>?_
 have I1:Inv X pins σ H { s with heap:=h' }:=I.kept (t':=s.toks) fun b o e=>hx b o (jqF (jqz e)) e
 exact h pins _ σ H xs _ Q I1 (by simpa using rv) hw
noncomputable def jpD (te:TE)(g:TG):TS:=fun D σ H=>te σ H fun x H1=>g x σ H1 D.nx
theorem jmG {i:Nat}{x:Str}{e:Expr}{te:TE}{pos':Pos}(hN:X.N.Nodup)(hi:X.N[i]?=some x)(hx:Loc X.env.scope x)(he:PE X e te)(hs:swapsWith e (some (.Name x pos')) pos.line X.env=pure false:=by rfl)(hf:X.fn x=true\/X.env.scope.names.lookup x=some .local:=by first | exact .inl rfl | exact .inr rfl | assumption) :
  PS X (.Assign [.Name x pos'] e pos) (jpD te (jkq i)):=by
 intro pins s σ H D I h;refine wpAny_Assign_Name (thn (he pins s σ H _ I h) fun v s1 hzz=>?_) hs;obtain⟨y,H1,I1,r1,q1⟩:=hzz;exact jcX I1 hN hi hx r1 (fun s2 I2=>⟨_,H1,I2,q1⟩) hf
end
section
variable {X:Cx}{pos:Pos}
noncomputable def jmH (c:TT)(tb:TS):TS:=fun D σ H=>∃W:Nat->St->Hp->Prop,(∃m,W m σ H)/\∀m σ H,W m σ H ->
 c σ H fun b H1=>if b=true then ∃N:St->Hp->Prop,(∀σ' H',N σ' H'->∃m',m' < m/\W m' σ' H')/\tb { D with nx:=N,ct:=N,bk:=D.nx } σ H1 else D.nx σ H1
theorem jiv {c:Expr}{body:List Stmt}{tc:TT}{tb:TS}(hp:PassesOwn (model X.prog X.w) X.A X.env X.xe)(hc:PT X c tc)(hb:PSs X body tb):PS X (.While c body [] pos) (jmH tc tb):=by
 intro pins s σ H D I h;obtain⟨W,⟨m0,w0⟩,turn⟩:=h;refine wpAny_While (codeAny_whileLoop (fun n s'=>∃σ' H',Inv X pins σ' H' s'/\W n σ' H') ?_ m0 ⟨σ,H,I,w0⟩);rintro n s1 ⟨σ1,H1,I1,w1⟩;refine wpAny_passesOwn hp (thn (hc pins s1 σ1 H1 _ I1 (turn n σ1 H1 w1)) fun b s2 hzz=>?_);obtain⟨H2,I2,q2⟩:=hzz;cases b with
 |true=>
  obtain⟨N,hN,q2⟩:=q2;rw[if_pos rfl];refine wpAny_passesOwn hp (thn (hb pins s2 σ1 H2 _ I2 q2) fun f s3 q3=>?_);cases f with
  |next=>
   obtain⟨σ3,H3,I3,n3⟩:=q3;obtain⟨m',hm,w3⟩:=hN σ3 H3 n3;exact⟨m',hm,σ3,H3,I3,w3⟩
  |cont=>
   obtain⟨σ3,H3,I3,n3⟩:=q3;obtain⟨m',hm,w3⟩:=hN σ3 H3 n3;exact⟨m',hm,σ3,H3,I3,w3⟩
  |brk=>exact q3
  |ret v=>exact q3
 |false=>
  rw[if_neg jqK];exact wpAny_execs_nil ⟨σ1,H2,I2,q2⟩
end
structure It where
 go:Nat->Hp->Prop
 yld:Nat->Hp->V->Hp->Prop
 stop:Nat->Hp->Prop
noncomputable def FpOk (X:Cx)(pins:List (Addr×Obj))(H:Hp)(b:Addr):Prop:=
 H b=none/\b≠X.env.locals/\b ∉ X.fs/\(b∈X.ex\/X.s₀.heap.objs.size<=b)/\(∀x c,X.env.cells.lookup x=some c->c≠b)/\∀p∈X.pn++pins,p.1≠b
theorem Inv.fpOk {X:Cx}{pins:List (Addr×Obj)}{σ:St}{H H':Hp}{s:Shared}{b:Addr}(I:Inv X pins σ H s)(hb:s.heap.objs.size<=b)(hn:H' b=none):FpOk X pins H' b:=by
 refine⟨hn,Nat.ne_of_gt (jqE I.lt hb),I.nofs hb,.inr (jqG I.sz hb),fun x c e z=>?_,fun p hp z=>?_⟩
 ·obtain⟨v,q⟩:=I.cell x c e;exact absurd (jqE q.lt (by rw[z];exact hb)) (jqH _)
 ·exact absurd (jqE (jqz (I.pin p hp).1) (by rw[z];exact hb)) (jqH _)
structure Turn (P:Program)(w:World)(K:PySem.W.Frag)(tg:Expr)(J:It)(fp:List Addr)(it:Addr)(tn:Nat->Heap->Prop):Prop where
 mem:it∈fp
 obj:∀i h,tn i h->∀b∈fp,∃o,h.get? b=some o/\∀v,o.data≠.cell v
 keep:∀i h h',tn i h->(∀b∈fp,∀o,h.get? b=some o->h'.get? b=some o)->tn i h'
 item:∀(X:Cx),X.prog=P->X.w=w->X.K=K->X.calm=true->∀(i:Nat) (pins:List (Addr×Obj)) (s:Shared) (σ:St) (H:Hp) (E:Value->Shared->Prop),Inv X pins σ H s->(∀b∈fp,FpOk X pins H b)->tn i s.heap->J.go i H ->
  wpAny (model P w) X.A (pyNext (.ref it)) (fun r s1=>∃u,r=some u /\
   wpAny (model P w) X.A (letOwnedTupleGo tg (.ref it) u) (fun _ s2=>∃x H',Inv X pins σ H' s2/\RelV x u/\J.yld i H x H'/\tn (i + 1) s2.heap/\∀b∈fp,H' b=none) E s1) E s
 done:∀(X:Cx),X.prog=P->X.w=w->X.K=K->X.calm=true->∀(i:Nat) (pins:List (Addr×Obj)) (s:Shared) (σ:St) (H:Hp) (E:Value->Shared->Prop),Inv X pins σ H s->(∀b∈fp,FpOk X pins H b)->tn i s.heap->J.stop i H ->
  wpAny (model P w) X.A (pyNext (.ref it)) (fun r s1=>r=none/\Inv X pins σ H s1) E s
 self:∀(A:Around) (i:Nat) (s:Shared) (Q:Value->Shared->Prop) (E:Value->Shared->Prop),tn i s.heap->Q (.ref it) s->wpAny (model P w) A (pyIter (.ref it)) Q E s
noncomputable abbrev TI:=St->Hp->(It->Hp->Prop)->Prop
inductive PIE (X:Cx) (pins:List (Addr×Obj)) (σ:St) (tg:Expr) (R:It->Hp->Prop) (itv:Value) (s2:Shared):Prop
 |mk (it:Addr) (fp:List Addr) (tn:Nat->Heap->Prop) (J:It) (H':Hp):(itv=.ref it)->(Inv X pins σ H' s2)->(Turn X.prog X.w X.K tg J fp it tn)->(tn 0 s2.heap)->((∀b∈fp,FpOk X pins H' b))->(R J H')->PIE X pins σ tg R itv s2
noncomputable def PI (X:Cx)(tg iter:Expr)(wi:TI):Prop:=
 ∀(pins:List (Addr×Obj)) (s:Shared) (σ:St) (H:Hp) (R:It->Hp->Prop),Inv X pins σ H s->wi σ H R ->
  wpAny (model X.prog X.w) X.A (eval iter X.env) (fun v s1=>wpAny (model X.prog X.w) X.A (pyIter v) (PIE X pins σ tg R) X.xe s1) X.xe s
theorem jiw {M:Model}{A:Around}{E:Value->Shared->Prop}{s:Shared}{tg:Expr}{it:Addr}{u:Value}{o:Obj}{n:String}{vs:Array Value}{Q:Unit->Shared->Prop}(ho:s.heap.get? it=some o)(hc:o.cls=.type n)(hd:o.data=.fields vs)
  (hn:["enumerate","zip","dict_itemiterator","dict_reverseitemiterator","odict_iterator","itertools.zip_longest","itertools.pairwise"].contains n=false) (hQ:Q () s):wpAny M A (letOwnedTupleGo tg (.ref it) u) Q E s:=by
 unfold letOwnedTupleGo;cases tg <;> first
  |exact jqt hQ
  |(cases u <;> first
    |exact jqt hQ
    |(refine jqs (wpAny_load ho ?_)
      rw[hc,hd];show wpAny M A (if (["enumerate","zip","dict_itemiterator","dict_reverseitemiterator","odict_iterator","itertools.zip_longest","itertools.pairwise"].contains n && vs[0]? == some (rawInt _))=true then _ else _) Q E s;rw[if_neg (by intro h;rw[hn,Bool.false_and]at h;cases h)]
      exact jqt hQ))
noncomputable def Itl (K:PySem.W.Frag)(a:Addr):It:=
 ⟨fun i H=>∃xs x,SqL K H a xs/\xs[i]?=some x,fun i H x H'=>H'=H/\∀xs,SqL K H a xs->xs[i]?=some x,fun i H=>∃xs,SqL K H a xs/\xs.length<=i⟩
noncomputable def Itt (K:PySem.W.Frag)(a:Addr):It:=
 ⟨fun i H=>∃xs x,SqT K H a xs/\xs[i]?=some x,fun i H x H'=>H'=H/\∀xs,SqT K H a xs->xs[i]?=some x,fun i H=>∃xs,SqT K H a xs/\xs.length<=i⟩
noncomputable def Itr (lo:Int)(n:Nat):It:=⟨fun i _=>i < n,fun i H x H'=>H'=H/\x=.int (lo + i),fun i _=>n<=i⟩
theorem jgq {P:Program}{w:World}{K:PySem.W.Frag}{tg:Expr}(a it:Addr):Turn P w K tg (Itl K a) [it] it (fun i h=>h.IsListIter it a i) where
 mem:=by simp
 obj:=fun i h st b hb=>by
  have e:b=it:=by simpa using hb
  subst e;obtain⟨o,e,c,d⟩:=st;exact⟨o,e,fun v z=>by rw[d]at z;cases z⟩
 keep:=fun i h h' st k=>st.at fun o e=>k it (by simp) o e
 item:=by
  intro X hP hw hK hc i pins s σ H E I hf st hg;subst hP hw hK;obtain⟨xs,x,hq,hx⟩:=hg;obtain⟨its,rv,p,hz⟩:=I.list hq;obtain⟨u,hu,ru⟩:=rv.get hx;obtain⟨f0,f1,f2,f3,f4,f5⟩:=hf it (by simp)
  refine wpAny_pyNext_list_item st p.isList (x:=u) (by simpa using hu) fun h' st' sb=>?_
  have I1:Inv X pins σ H { s with heap:=h' }:=I.turned (t':=s.toks) (fun b o hb e=>(sb.2 b hb).trans e) f0 f1 f3 f4 f5
  obtain⟨o,e,c,d⟩:=id st';exact⟨u,rfl,jiw (s:={ s with heap:=h' }) e c d (by decide) ⟨x,H,I1,ru,⟨rfl,fun ys hy=>by rw[I.list_inj hy hq];exact hx⟩,st',fun b hb=>(hf b hb).1⟩⟩
 done:=by
  intro X hP hw hK hc i pins s σ H E I hf st hg;subst hP hw hK;obtain⟨xs,hq,hx⟩:=hg;obtain⟨its,rv,p,hz⟩:=I.list hq;obtain⟨f0,f1,f2,f3,f4,f5⟩:=hf it (by simp)
  have hl:=rv.length;exact wpAny_pyNext_list_end (I.ok.hd hc) st p.isList (by simp;omega) fun h' eb=>⟨rfl,I.turned (t':=s.toks) (fun b o hb e=>eb b o hb e) f0 f1 f3 f4 f5⟩
 self:=fun _ _ _ _ _ st h=>wpAny_pyIter_listiter st h
theorem jft {P:Program}{w:World}{K:PySem.W.Frag}{tg:Expr}(a it:Addr):Turn P w K tg (Itt K a) [it] it (fun i h=>h.IsTupleIter it a i) where
 mem:=by simp
 obj:=fun i h st b hb=>by
  have e:b=it:=by simpa using hb
  subst e;obtain⟨o,e,c,d⟩:=st;exact⟨o,e,fun v z=>by rw[d]at z;cases z⟩
 keep:=fun i h h' st k=>st.at fun o e=>k it (by simp) o e
 item:=by
  intro X hP hw hK hc i pins s σ H E I hf st hg;subst hP hw hK;obtain⟨xs,x,hq,hx⟩:=hg;obtain⟨its,rv,p,hz⟩:=I.tuple hq;obtain⟨u,hu,ru⟩:=rv.get hx;obtain⟨f0,f1,f2,f3,f4,f5⟩:=hf it (by simp)
  refine wpAny_pyNext_tuple_item st (show s.heap.IsTuple a its.toArray from p) (x:=u) (by simpa using hu) fun h' st' sb=>?_
  have I1:Inv X pins σ H { s with heap:=h' }:=I.turned (t':=s.toks) (fun b o hb e=>(sb.2 b hb).trans e) f0 f1 f3 f4 f5
  obtain⟨o,e,c,d⟩:=id st';exact⟨u,rfl,jiw (s:={ s with heap:=h' }) e c d (by decide) ⟨x,H,I1,ru,⟨rfl,fun ys hy=>by rw[I.tuple_inj hy hq];exact hx⟩,st',fun b hb=>(hf b hb).1⟩⟩
 done:=by
  intro X hP hw hK hc i pins s σ H E I hf st hg;subst hP hw hK;obtain⟨xs,hq,hx⟩:=hg;obtain⟨its,rv,p,hz⟩:=I.tuple hq;obtain⟨f0,f1,f2,f3,f4,f5⟩:=hf it (by simp)
  have hl:=rv.length;exact wpAny_pyNext_tuple_end (I.ok.hd hc) st (show s.heap.IsTuple a its.toArray from p) (by simp;omega) fun h' eb=>⟨rfl,I.turned (t':=s.toks) (fun b o hb e=>eb b o hb e) f0 f1 f3 f4 f5⟩
 self:=fun _ _ _ _ _ st h=>wpAny_pyIter_tupleiter st h
theorem jfu {P:Program}{w:World}{K:PySem.W.Frag}{tg:Expr}(it:Addr)(lo:Int)(n:Nat):Turn P w K tg (Itr lo n) [it] it (fun i h=>IsRangeIter h it (lo + (i:Nat) * 1) ((n:Int) - (i:Nat)) 1) where
 mem:=by simp
 obj:=fun i h st b hb=>by
  have e:b=it:=by simpa using hb
  subst e;exact⟨_,st,fun v z=>by
   have z':Data.fields _=Data.cell v:=z;cases z'⟩
 keep:=fun i h h' st k=>k it (by simp) _ st
 item:=by
  intro X hP hw hK hc i pins s σ H E I hf st hg;subst hP hw hK;obtain⟨f0,f1,f2,f3,f4,f5⟩:=hf it (by simp)
  have W:=Walks.range (prog:=X.prog) (w:=X.w) (I.ok.hd hc) it lo 1 n;refine W.item i s _ _ hg st fun v h' tk hv st' kk=>?_;obtain⟨t,rfl⟩:=hv;have I1:Inv X pins σ H { s with heap:=h',toks:=tk }:=I.turned (fun b o hb e=>kk b o (by simpa using hb) e) f0 f1 f3 f4 f5
  refine⟨_,rfl,jiw (s:={ s with heap:=h',toks:=tk }) (n:="range_iterator") st' rfl rfl (by decide) ⟨.int (lo + i),H,I1,⟨t,?_⟩,⟨rfl,rfl⟩,st',fun b hb=>(hf b hb).1⟩⟩
  rw[Int.mul_one]
 done:=by
  intro X hP hw hK hc i pins s σ H E I hf st hg;subst hP hw hK;obtain⟨f0,f1,f2,f3,f4,f5⟩:=hf it (by simp)
  exact wpAny_pyNext_range_end (I.ok.hd hc) st (by have:n<=i:=hg;omega) fun h' eb=>⟨rfl,I.turned (t':=s.toks) (fun b o hb e=>eb b o hb e) f0 f1 f3 f4 f5⟩
 self:=fun _ _ _ _ _ st h=>wpAny_pyIter_rangeiter st h
end L2
namespace L2
open PySem PySem.Spec PyProof.Rows
section
variable {X:Cx}{tg:Expr}
theorem jix {pins:List (Addr×Obj)}{σ:St}{H:Hp}{s:Shared}{R:It->Hp->Prop}{E:Value->Shared->Prop}{lo hi:Int}{t u v:Tok}{tk:Nat}(I:Inv X pins σ H s)(h1:-(2 ^ 62)<=lo)(h2:lo < 2 ^ 62)(h3:-(2 ^ 62)<=hi)(h4:hi < 2 ^ 62)
  (q:R (Itr lo (hi - lo).toNat) H):wpAny (model X.prog X.w) X.A (pyIter (.ref s.heap.objs.size)) (PIE X pins σ tg R) E { s with heap:=s.heap.push { cls:=.type "range",data:=.fields #[.int lo t,.int hi u,.int 1 v] },toks:=tk }:=by
 refine wpAny_pyIter_range (IsRange.new ..) (small_one h1 h2 h3 h4) ?_;have I1:Inv X pins σ H { s with heap:=s.heap.push { cls:=.type "range",data:=.fields #[.int lo t,.int hi u,.int 1 v] },toks:=tk }:=I.kept fun b o e=>jqy _ e
 refine⟨(s.heap.push { cls:=.type "range",data:=.fields #[.int lo t,.int hi u,.int 1 v] }).objs.size,[(s.heap.push { cls:=.type "range",data:=.fields #[.int lo t,.int hi u,.int 1 v] }).objs.size],_,_,H,rfl,
  I1.kept (t':=tk) fun b o e=>jqy _ e,jfu _ lo (hi - lo).toNat,?_,fun b hb=>?_,q⟩
 ·have e1:lo + ((0:Nat):Int) * 1=lo:=by simp
  have e2:(((hi - lo).toNat:Nat):Int) - ((0:Nat):Int)=Builtin.Range.rangeSize lo hi 1:=by rw[rangeSize_one];split <;> omega
  show IsRangeIter _ _ (lo + ((0:Nat):Int) * 1) ((((hi - lo).toNat:Nat):Int) - ((0:Nat):Int)) 1;rw[e1,e2];exact jqA _ rfl
 ·have e:b=(s.heap.push { cls:=.type "range",data:=.fields #[.int lo t,.int hi u,.int 1 v] }).objs.size:=by simpa using hb
  subst e;exact I1.fpOk (jqD _) (I1.hok.fresh (jqD _))
noncomputable def joh (ta:TA):TI:=fun σ H R=>ta σ H fun vs H1=>∃j:Int,vs=[.int j]/\-(2 ^ 62)<=j/\j < 2 ^ 62/\R (Itr 0 j.toNat) H1
theorem jgr {a:Expr}{ta:TA}{p pos:Pos}(hg:Gl X "range")(hm:X.mg "range"=none)(ha:PA X [a] ta)(hs:starEach [a] X.env=[(false,eval a X.env)]:=by rfl):PI X tg (.Call (.Name "range" p) [a] [] pos) (joh ta):=by
 intro pins s σ H R I h;refine Call_ (jeX I hg hm boot_range (PyProof.Rows.callWith_type1 (thn (ha pos pins s σ H _ I h) fun us s1 hzz=>?_) hs rfl));obtain⟨vs,H1,I1,r1,q1⟩:=hzz;obtain⟨j,e,q1,q2,q⟩:=q1;subst e;cases r1 with
 |cons r rr=>
  cases rr;obtain⟨t,rfl⟩:=r;exact call_range_1 (jix I1 (by omega) (by omega) q1 q2 (by simpa using q))
noncomputable def jbx (fp:List Addr)(h:Heap):List (Addr×Obj):=fp.filterMap fun b=>(h.get? b).map fun o=>(b,o)
theorem ja8 {fp:List Addr}{h:Heap}{b:Addr}{o:Obj}(hb:b∈fp)(e:h.get? b=some o):(b,o)∈jbx fp h:=List.mem_filterMap.mpr ⟨b,hb,by rw[e];rfl⟩
theorem jgs {fp:List Addr}{h:Heap}{p:Addr×Obj}(hp:p∈jbx fp h):p.1∈fp/\h.get? p.1=some p.2:=by
 obtain⟨b,hb,e⟩:=List.mem_filterMap.mp hp;cases q:h.get? b with
 |none=>rw[q]at e;cases e
 |some o=>
  rw[q]at e;have e':(b,o)=p:=Option.some.inj e;subst e';exact⟨hb,q⟩
theorem Inv.pinned {pins:List (Addr×Obj)}{σ:St}{H:Hp}{s:Shared}{fp:List Addr}(I:Inv X pins σ H s)(hf:∀b∈fp,FpOk X pins H b)(ho:∀b∈fp,∃o,s.heap.get? b=some o/\∀v,o.data≠.cell v):Inv X (pins++jbx fp s.heap) σ H s:=
 I.pins_of fun p hp=>(List.mem_append.mp hp).elim (fun z=>I.pin p (jqf _ z)) fun z=>by
  obtain⟨hb,e⟩:=jgs z;obtain⟨f0,f1,f2,_⟩:=hf p.1 hb;obtain⟨o,e',d⟩:=ho p.1 hb;rw[e]at e';cases e';exact⟨e,f0,f1,f2,d⟩
theorem Inv.unpinned {pins pl:List (Addr×Obj)}{σ:St}{H:Hp}{s:Shared}(I:Inv X (pins++pl) σ H s):Inv X pins σ H s:=I.pins_of fun p hp=>I.pin p (jqf _ (jqp _ hp))
end
end L2
namespace L2
open PySem PySem.Spec PyProof.Rows
noncomputable abbrev R2:=V->V->Hp->VK->Prop
noncomputable def OpR (X:Cx)(f:Value->Value->Sem Value)(r:R2):Prop:=
 ∀(pins:List (Addr×Obj)) (s:Shared) (σ:St) (H:Hp) (x y:V) (v u:Value) (Q:VK),Inv X pins σ H s->RelV x v->RelV y u->r x y H Q ->
  wpAny (model X.prog X.w) X.A (f v u) (EP X pins σ Q) X.xe s
noncomputable def CallR (X:Cx)(f:Value)(r:List V->Hp->VK->Prop):Prop:=
 ∀(pins:List (Addr×Obj)) (s:Shared) (σ:St) (H:Hp) (xs:List V) (us:List Value) (Q:VK),Inv X pins σ H s->Vals xs us->r xs H Q ->
  wpAny (model X.prog X.w) X.A (call f us) (EP X pins σ Q) X.xe s
noncomputable def jpE (X:Cx)(r:V->Hp->(Bool->Hp->Prop)->Prop):Prop:=
 ∀(pins:List (Addr×Obj)) (s:Shared) (σ:St) (H:Hp) (x:V) (v:Value) (Q:Bool->Hp->Prop),Inv X pins σ H s->RelV x v->r x H Q ->
  wpAny (model X.prog X.w) X.A (truthy v) (TP X pins σ Q) X.xe s
noncomputable def tOp (r:R2)(ta tb:TE):TE:=fun σ H Q=>ta σ H fun x H1=>tb σ H1 fun y H2=>r x y H2 Q
noncomputable def tUn (r:V->Hp->VK->Prop)(ta:TE):TE:=fun σ H Q=>ta σ H fun x H1=>r x H1 Q
noncomputable def rI (C:Int->Int->Prop)(g:Int->Int->V):R2:=fun x y H Q=>∃i j,x=.int i/\y=.int j/\C i j/\Q (g i j) H
noncomputable def rI0 (g:Int->Int->V):R2:=fun x y H Q=>∃i j,x=.int i/\y=.int j/\Q (g i j) H
section
variable {X:Cx}{a b c:Expr}{ta tb tc:TE}{pos:Pos}
theorem joi (ha:PE X a ta)(hb:PE X b tb){pins:List (Addr×Obj)}{s:Shared}{σ:St}{H:Hp}{R:V->V->Hp->Prop}(I:Inv X pins σ H s)
  (h:ta σ H fun x H1=>tb σ H1 fun y H2=>R x y H2) {Q:Value->Shared->Prop}{f:Value->Value->Sem Value}
  (hf:∀v u s2 x y H2,Inv X pins σ H2 s2->RelV x v->RelV y u->R x y H2->wpAny (model X.prog X.w) X.A (f v u) Q X.xe s2) :
  wpAny (model X.prog X.w) X.A (eval a X.env) (fun v s₁=>wpAny (model X.prog X.w) X.A (eval b X.env) (fun u s₂=>wpAny (model X.prog X.w) X.A (f v u) Q X.xe s₂) X.xe s₁) X.xe s:=by
 refine thn (ha pins s σ H _ I h) fun v s1 hzz=>?_;obtain⟨x,H1,I1,r1,q1⟩:=hzz;refine thn (hb pins s1 σ H1 _ I1 q1) fun u s2 hzz=>?_;obtain⟨y,H2,I2,r2,q2⟩:=hzz;exact hf v u s2 x y H2 I2 r1 r2 q2
theorem joj {op:Operator}{r:R2}(ho:OpR X (binaryOp op) r)(ha:PE X a ta)(hb:PE X b tb):PE X (.BinOp a op b pos) (tOp r ta tb):=by
 intro pins s σ H Q I h;exact wpAny_BinOp (joi ha hb I h fun v u s2 x y H2 I2 rx ry q=>ho pins s2 σ H2 x y v u Q I2 rx ry q)
theorem opI {f:Value->Value->Sem Value}{C:Int->Int->Prop}{g:Int->Int->Int}
  (rule:∀(i j:Int) (t u:Tok) (s:Shared) (Q:Value->Shared->Prop) (E:Value->Shared->Prop),C i j->Q (.int (g i j) s.toks) { s with toks:=s.toks + 1 }->wpAny (model X.prog X.w) X.A (f (.int i t) (.int j u)) Q E s) :
  OpR X f (rI C fun i j=>.int (g i j)):=by
 intro pins s σ H x y v u Q I rx ry h;obtain⟨i,j,rfl,rfl,hc,q⟩:=h;obtain⟨t,rfl⟩:=rx;obtain⟨t',rfl⟩:=ry;exact rule i j t t' s _ _ hc ⟨.int (g i j),H,I.tok _,⟨_,rfl⟩,q⟩
theorem jpi {f:Value->Value->Sem Value}{g:Int->Int->Int}
  (rule:∀(i j:Int) (t u:Tok) (s:Shared) (Q:Value->Shared->Prop) (E:Value->Shared->Prop),Q (.int (g i j) s.toks) { s with toks:=s.toks + 1 }->wpAny (model X.prog X.w) X.A (f (.int i t) (.int j u)) Q E s) :
  OpR X f (rI0 fun i j=>.int (g i j)):=by
 intro pins s σ H x y v u Q I rx ry h;obtain⟨i,j,rfl,rfl,q⟩:=h;obtain⟨t,rfl⟩:=rx;obtain⟨t',rfl⟩:=ry;exact rule i j t t' s _ _ ⟨.int (g i j),H,I.tok _,⟨_,rfl⟩,q⟩
theorem jn7 {f:Value->Value->Sem Value}{g:Int->Int->Bool}
  (rule:∀(i j:Int) (t u:Tok) (s:Shared) (Q:Value->Shared->Prop) (E:Value->Shared->Prop),Q (.bool (g i j)) s->wpAny (model X.prog X.w) X.A (f (.int i t) (.int j u)) Q E s) :
  OpR X f (rI0 fun i j=>.bl (g i j)):=by
 intro pins s σ H x y v u Q I rx ry h;obtain⟨i,j,rfl,rfl,q⟩:=h;obtain⟨t,rfl⟩:=rx;obtain⟨t',rfl⟩:=ry;exact rule i j t t' s _ _ ⟨.bl (g i j),H,I,rfl,q⟩
noncomputable def jpF (i j:Int):Prop:=0<=j/\j<=1000000/\i.natAbs < 2 ^ 64
noncomputable def CMul (i j:Int):Prop:=(-(2 ^ 64) < i/\i < 2 ^ 64)\/(-(2 ^ 64) < j/\j < 2 ^ 64)
theorem CMul.ok {i j:Int}(h:CMul i j):IntMulOk i j:=by
 rcases h with ⟨h1,h2⟩ | ⟨h1,h2⟩
 ·exact .of_left (intBits_le_64 h1 h2)
 ·exact .of_right (intBits_le_64 h1 h2)
theorem jmI:OpR X (binaryOp .Add) (rI0 fun i j=>.int (i + j)):=jpi fun _ _ _ _ _ _ _ q=>add_int q
theorem jmJ:OpR X (binaryOp .Sub) (rI0 fun i j=>.int (i - j)):=jpi fun _ _ _ _ _ _ _ q=>sub_int q
theorem jmK:OpR X (binaryOp .Mult) (rI CMul fun i j=>.int (i * j)):=opI fun _ _ _ _ _ _ _ hc q=>mul_int q hc.ok
theorem jmL:OpR X (binaryOp .Mod) (rI (fun _ j=>0 < j) fun i j=>.int (i % j)):=opI fun i j _ _ _ _ _ hc q=>by
 have h1:(0:Int) < j:=hc;exact mod_int' (by omega) (by rw[Int.fmod_eq_emod_of_nonneg i (by omega)];exact q)
theorem jmM:OpR X (binaryOp .Pow) (rI jpF fun i j=>.int (i ^ j.toNat)):=opI fun _ _ _ _ _ _ _ hc q=>pow_int_small hc.1 hc.2.1 hc.2.2 q
end
section
variable {X:Cx}{a b c:Expr}{ta tb tc:TE}{pos:Pos}
theorem jjQ {pins:List (Addr×Obj)}{σ:St}{H:Hp}{s:Shared}{Q:VK}{k k':Bool}(I:Inv X pins σ H s)(q:Q (.bl k) H)(e:k=k'):EP X pins σ Q (.bool k') s:=by
 subst e;exact⟨.bl k,H,I,rfl,q⟩
theorem jok:OpR X (compareOp .Lt) (rI0 fun i j=>.bl (decide (i < j))):=jn7 fun _ _ _ _ _ _ _ q=>lt_int q
theorem jol:OpR X (compareOp .LtE) (rI0 fun i j=>.bl (decide (i<=j))):=jn7 fun _ _ _ _ _ _ _ q=>le_int q
theorem jom:OpR X (compareOp .Gt) (rI0 fun i j=>.bl (decide (j < i))):=jn7 fun _ _ _ _ _ _ _ q=>gt_int q
theorem jon:OpR X (compareOp .GtE) (rI0 fun i j=>.bl (decide (j<=i))):=jn7 fun _ _ _ _ _ _ _ q=>ge_int q
theorem jmN:OpR X (compareOp .Is) (fun x y H Q=>y=.non/\Q (.bl (decide (x=.non))) H):=by
 intro pins s σ H x y v u Q I rx ry h;obtain⟨rfl,q⟩:=h;cases ry;refine is_none_gen (jjQ I q ?_);cases x <;> first
  |(cases rx;rfl)
  |(obtain⟨t,rfl⟩:=rx;rfl)
theorem jks:OpR X (compareOp .IsNot) (fun x y H Q=>y=.non/\Q (.bl (!decide (x=.non))) H):=by
 intro pins s σ H x y v u Q I rx ry h;obtain⟨rfl,q⟩:=h;cases ry;refine isnot_none_gen (jjQ I q ?_);cases x <;> first
  |(cases rx;rfl)
  |(obtain⟨t,rfl⟩:=rx;rfl)
theorem jkt {op:CmpOp}{r:R2}(ho:OpR X (compareOp op) r)(ha:PE X a ta)(hb:PE X b tb)(hm:behindInMarks op b=false):PE X (.Compare a [op] [b] pos) (tOp r ta tb):=by
 intro pins s σ H Q I h;exact wpAny_Compare1 (joi ha hb I h fun v u s2 x y H2 I2 rx ry q=>ho pins s2 σ H2 x y v u Q I2 rx ry q) hm
noncomputable def joo (t:TE):TT:=fun σ H Q=>t σ H fun x H'=>∃k,x=.bl k/\Q k H'
theorem jku {op:CmpOp}{r:R2}(ho:OpR X (compareOp op) r)(ha:PE X a ta)(hb:PE X b tb)(hm:behindInMarks op b=false):PT X (.Compare a [op] [b] pos) (joo (tOp r ta tb)):=by
 intro pins s σ H Q I h;refine wpAny_isTrue_Compare1 (thn (ha pins s σ H _ I h) fun v s1 ⟨x,H1,I1,r1,q1⟩=>thn (hb pins s1 σ H1 _ I1 q1) fun u s2 ⟨y,H2,I2,r2,q2⟩=>
  thn (ho pins s2 σ H2 x y v u _ I2 r1 r2 q2) fun c s3 ⟨z,H3,I3,r3,k,e,q3⟩=>?_) hm
 subst e;cases r3;exact wpAny_truthy_bool ⟨H3,I3,q3⟩
noncomputable def jop (K:PySem.W.Frag)(x:V)(H:Hp)(k:Bool):Prop:=
 match x with
 |.non=>k=false
 |.bl b=>k=b
 |.int i=>k=(i != 0)
 |.str y=>y.length<=sizeLine/\k=((y.length:Int) != 0)
 |.byt y=>y.size<=sizeLine/\k=((y.size:Int) != 0)
 |.ref p=>(∃xs,SqL K H p xs/\k=!xs.isEmpty)\/(∃xs,SqT K H p xs/\k=!xs.isEmpty)\/∃kvs,H p=some (.dK kvs)/\k=!kvs.isEmpty
 |_=>False
theorem jfv {κ:Type}{kvs:List (κ×V)}{vs:List (κ×Value)}(r:KV kvs vs):(!vs.isEmpty)=!kvs.isEmpty:=by
 cases r <;> rfl
theorem jcI {xs:List V}{its:List Value}(r:Vals xs its):(!its.toArray.isEmpty)=!xs.isEmpty:=by
 cases r <;> simp
theorem jcJ:(sizeLine:Nat) < 2 ^ 63:=by rw[sizeLine_eq];decide
theorem jmO:jpE X (fun x H Q=>∃k,jop X.K x H k/\Q k H):=by
 intro pins s σ H x v Q I rx h;obtain⟨k,e,q⟩:=h;have hl:=jcJ;have hs:sizeLine=16777216:=sizeLine_eq;cases x with
 |non=>
  cases rx;have e':k=false:=e;subst e';exact truthy_none ⟨H,I,q⟩
 |bl b=>
  cases rx;have e':k=b:=e;subst e';exact wpAny_truthy_bool ⟨H,I,q⟩
 |int i=>
  obtain⟨t,rfl⟩:=rx;have e':k=(i != 0):=e;subst e';exact PySem.P.truthy_int ⟨H,I,q⟩
 |str y=>
  obtain⟨t,rfl⟩:=rx;obtain⟨hy,e'⟩:y.length<=sizeLine/\k=((y.length:Int) != 0):=e;subst e';exact PySem.P.truthy_str (by omega) ⟨H,I.tok _,q⟩
 |byt y=>
  obtain⟨t,rfl⟩:=rx;obtain⟨hy,e'⟩:y.size<=sizeLine/\k=((y.size:Int) != 0):=e;subst e';exact PySem.W.truthy_bytes (by omega) ⟨H,I.tok _,q⟩
 |ref p=>
  cases rx;have e':(∃xs,SqL X.K H p xs/\k=!xs.isEmpty)\/(∃xs,SqT X.K H p xs/\k=!xs.isEmpty)\/∃kvs,H p=some (.dK kvs)/\k=!kvs.isEmpty:=e;rcases e' with ⟨xs,hx,e'⟩ | ⟨xs,hx,e'⟩ | ⟨kvs,hx,e'⟩
  ·subst e';obtain⟨its,r,pl,hz⟩:=I.list hx;have hlen:=r.length;exact wpAny_truthy_list pl.isList (by simp only[jp8];omega) ⟨H,I.tok _,by rw[jcI r];exact q⟩
  ·subst e';obtain⟨its,r,pl,hz⟩:=I.tuple hx;have hlen:=r.length;exact truthy_tuple pl (by simp only[jp8];omega) ⟨H,I.tok _,by rw[jcI r];exact q⟩
  ·subst e';obtain⟨hz,hS,vs,r,m⟩:kvs.length<=sizeLine/\(p == sysModules)=false/\∃vs,KV kvs vs/\s.heap.DictOf (jeb X.prog X.w) p vs:=I.hok p _ hx;have hlen:kvs.length=vs.length:=Paired.length r;exact wpAny_truthy_dict hS m (by omega) ⟨H,I.tok _,by rw[jfv r];exact q⟩
 |_=>exact(show False from e).elim
theorem jiy (ha:PE X a ta)(he:∀whole,isTrue a X.env whole=(do let v <-whole;standAt a.pos;holding [v] (truthy v))) :
  PT X a (fun σ H Q=>ta σ H fun x H'=>∃k,jop X.K x H' k/\Q k H'):=by
 intro pins s σ H Q I h;exact isTrue_plain (thn (ha pins s σ H _ I h) fun v s1 ⟨x,H1,I1,r1,q1⟩=>jmO pins s1 σ H1 x v Q I1 r1 q1) (he _)
theorem jfw:OpR X (binaryOp .Add) (fun x y H Q=>∃i j,x=.str i/\y=.str j/\i.length + j.length<=sizeLine/\Q (.str (i++j)) H):=by
 intro pins s σ H x y v u Q I rx ry h;obtain⟨i,j,rfl,rfl,hz,q⟩:=h;obtain⟨t,rfl⟩:=rx;obtain⟨t',rfl⟩:=ry;exact add_str (fun t' tk=>⟨.str (i++j),H,I.tok _,⟨_,rfl⟩,q⟩) hz
theorem jbQ {x:V}{us:List Value}(r:Vals [x] us):∃u,us=[u]/\RelV x u:=by
 cases r with
 |cons r1 r2=>cases r2;exact⟨_,rfl,r1⟩
theorem joq {x y:V}{us:List Value}(r:Vals [x,y] us):∃u w',us=[u,w']/\RelV x u/\RelV y w':=by
 cases r with
 |cons r1 r2=>
  cases r2 with
  |cons r3 r4=>cases r4;exact⟨_,_,rfl,r1,r3⟩
theorem call_int1:CallR X (.type "int") (fun xs H Q=>(∃i,xs=[.int i]/\Q (.int i) H)\/∃k,xs=[.bl k]/\Q (.int (if k then 1 else 0)) H):=by
 intro pins s σ H xs us Q I r h;rcases h with ⟨i,rfl,q⟩ | ⟨k,rfl,q⟩
 ·obtain⟨u,rfl,t,rfl⟩:=jbQ r;exact call_int_int ⟨.int i,H,I,⟨_,rfl⟩,q⟩
 ·obtain⟨u,rfl,r1⟩:=jbQ r;cases r1;exact call_int_bool ⟨.int (if k then 1 else 0),H,I.tok _,⟨_,rfl⟩,q⟩
end
end L2
namespace L2
open PySem PySem.Spec PyProof.Rows
section
variable {prog:Program}{w:World}{A:Around}{E:Value->Shared->Prop}{s:Shared}{K:PySem.W.Frag}{x dx C f:Addr}{mA:Str->Option Value}{name:Str}{v:Value}
end
section
variable {P:Program}{w:World}{H H':Hp}{h h':Heap}{a C dx:Addr}{fs fs':List (Str×V)}
end
section
variable {X:Cx}{pins:List (Addr×Obj)}{σ:St}{H:Hp}{s:Shared}{a C dx:Addr}{fs:List (Str×V)}{f:Str}{v:V}{A:Around}{E:Value->Shared->Prop}
end
section
variable {X:Cx}{o e value:Expr}{f:Str}{pos pos' tpos:Pos}{ta tv:TE}
end
section
variable {X:Cx}{pins:List (Addr×Obj)}{σ:St}{H:Hp}{s:Shared}{A:Around}{E:Value->Shared->Prop}{Q:Value->Shared->Prop}{c:Value}{b:Bool}
end
end L2
namespace L2
open PySem PySem.Spec PyProof.Rows
structure Room (k:Nat)(A:Around):Prop where
 hd:A.handled=none
 dp:A.depth + 3 * k + 5 < recursionLimit
 un:A.units + 16 * k + 200 < cLine
theorem Room.deeper {k:Nat}{A:Around}(r:Room (k + 1) A)(env:Env):Room k (A.deeper env):=
 ⟨r.hd,by have:=r.dp;show A.depth + 1 + 3 * k + 5 < _;omega,by have:=r.un;show A.units + 3 + 16 * k + 200 < _;omega⟩
theorem Room.depth {k:Nat}{A:Around}(r:Room k A):A.depth < recursionLimit:=by have:=r.dp;omega
theorem Room.units {k:Nat}{A:Around}(r:Room k A):A.units + 64 < cLine:=by have:=r.un;omega
noncomputable def jmf:TA:=fun _ H Q=>Q [] H
noncomputable def jgt (ta:TE)(tr:TA):TA:=fun σ H Q=>ta σ H fun x H1=>tr σ H1 fun xs H2=>Q (x::xs) H2
section
variable {X:Cx}{e:Expr}{es:List Expr}{te:TE}{t:TA}{pos:Pos}
theorem jbl:PA X [] jmf:=fun _ _ _ _ H Q I h=>Calls.spliced_nil ⟨[],H,I,.nil,h⟩
theorem jaL (ha:PE X e te)(hr:PA X es t)(hs:starEach (e::es) X.env=(false,eval e X.env)::starEach es X.env:=by rfl):PA X (e::es) (jgt te t):=by
 intro pos pins s σ H Q I h;rw[hs];show wpAny _ _ (spliced ((false,eval e X.env)::backTo pos (starEach es X.env))) _ _ s;refine Calls.spliced_cons (thn (ha pins s σ H _ I h) fun u s1 hzz=>?_);obtain⟨x,H1,I1,r1,q1⟩:=hzz;exact thn (hr pos pins s1 σ H1 _ I1 q1) fun us s2 ⟨xs,H2,I2,r2,q2⟩=>⟨x::xs,H2,I2,.cons r1 r2,q2⟩
noncomputable def jpG (t:TA):TE:=fun σ H Q=>t σ H fun xs H1=>xs.length<=sizeLine/\∀p,H1 p=none->Q (.ref p) (upd H1 p (.tup xs))
noncomputable def jpH (t:TA):TE:=fun σ H Q=>t σ H fun xs H1=>xs.length<=sizeLine/\∀p,H1 p=none->Q (.ref p) (upd H1 p (.lst xs))
theorem jjR {x1}(h:PA X es t):PE X (.Tuple es x1 pos) (jpG t):=by
 intro pins s σ H Q I hq;refine wpAny_Tuple_spliced (thn (h pos pins s σ H _ I hq) fun us s1 ⟨xs,H1,I1,r,z,q⟩=>⟨by rw[<-r.length];exact z,?_⟩)
 have hf:H1 s1.heap.objs.size=none:=I1.hok.fresh (jqD _);refine⟨.ref s1.heap.objs.size,upd H1 s1.heap.objs.size (.tup xs),I1.laid (t':=s1.toks) (fun b u e=>jqy _ e) (jqD _) ?_,rfl,q _ hf⟩;exact⟨z,us,r,⟨_,jqA _ rfl,rfl,_,rfl⟩⟩
theorem jmP (h:PA X es t):PE X (.List es pos) (jpH t):=by
 intro pins s σ H Q I hq;refine wpAny_List_spliced (thn (h pos pins s σ H _ I hq) fun us s1 ⟨xs,H1,I1,r,z,q⟩=>⟨by rw[<-r.length];exact z,?_⟩)
 have hf:H1 s1.heap.objs.size=none:=I1.hok.fresh (jqD _);refine⟨.ref s1.heap.objs.size,upd H1 s1.heap.objs.size (.lst xs),I1.laid (t':=s1.toks) (fun b u e=>jqy _ e) (jqD _) ?_,rfl,q _ hf⟩;exact⟨z,us,0,r,jqA _ rfl⟩
end
noncomputable abbrev Sp:=List V->Hp->VK->XK->Prop
noncomputable abbrev CXT:=List Env->Hp->Shared->XK->Value->Shared->Prop
structure Env0 (P:Program)(w:World)(K:PySem.W.Frag)(mg:Str->Option Value)(base:Heap)(A:Around)(outer:List Env)(s:Shared)(H:Hp):Prop where
 frames:A.frames=some outer
 mod:Mod K mg base
 bs:∀b o,base.get? b=some o->s.heap.get? b=some o/\H b=none
 bsz:base.objs.size<=s.heap.objs.size
 funs:s.heap.FunFrames base outer
 frf:∀b∈frs outer,H b=none
 hok:HOk P w H s.heap
 bare:AllBare s.gens
inductive CE (outer:List Env) (P:Program) (w:World) (H:Hp) (s:Shared) (Q:VK) (u:Value) (s':Shared):Prop
 |mk (v:_) (H':_):(s'.os=s.os)->(AllBare s'.gens)->(Un (frs outer) [] H H' s.heap s'.heap)->(HOk P w H' s'.heap)->(RelV v u)->(Q v H')->CE outer P w H s Q u s'
noncomputable def CR (CX:CXT)(outer:List Env)(P:Program)(w:World)(H:Hp)(s:Shared)(Q:VK)(E:XK)(r:Result)(s':Shared):Prop:=
 match r with
 |.ok (.ret u)=>CE outer P w H s Q u s'
 |.ok _=>False
 |.error e=>CX outer H s E e s'
structure FnOk (P:Program)(w:World)(K:PySem.W.Frag)(mg:Str->Option Value)(base:Heap)(CX:CXT)(k:Nat)(f:Addr)(fd:FuncData)(ps:List Str)(sp:Sp):Prop where
 len:∀vs H Q E,sp vs H Q E->vs.length=ps.length
 run:∀(A:Around) (outer:List Env) (s:Shared) (H:Hp) (args:Args) (us:List Value) (vs:List V) (Q:VK) (E:XK),Room k A->Env0 P w K mg base A outer s H->BindsTo s fd args (ps.zip us)->Vals vs us->sp vs H Q E ->
  codeAny (model P w) A (.call (.ref f) args) (CR CX outer P w H s Q E) s
section
variable {X:Cx}{pins:List (Addr×Obj)}{σ:St}{H:Hp}{s s':Shared}
theorem Inv.env0 (I:Inv X pins σ H s):Env0 X.prog X.w X.K X.mg X.base X.A X.stack s H:=
 ⟨I.ok.frames,I.ok.mod,I.bs,jqG I.ok.bsz I.sz,I.stack,I.stkFree,I.hok,I.bare⟩
theorem Inv.after {Q:VK}{u:Value}(I:Inv X pins σ H s)(h:CE X.stack X.prog X.w H s Q u s'):EP X pins σ Q u s':=by
 obtain⟨v,H',os,bare,un,hok,r,q⟩:=h;obtain⟨hh,g,d,t,os'⟩:=s';obtain rfl:os'=s.os:=os;exact⟨v,H',I.call (h':=hh) (g':=g) (d':=d) (t':=t) (ch:=[]) un hok bare (fun b z=>absurd z (by simp)),r,q⟩
end
noncomputable def Binds (K:PySem.W.Frag)(fd:FuncData)(ps:List Str)(ds:List Value):Prop:=
 ∀(s:Shared) (us:List Value),K.In s.heap->(us++ds).length=ps.length->BindsTo s fd ⟨us,[]⟩ (ps.zip (us++ds))
theorem Binds.all {K:PySem.W.Frag}{fd:FuncData}{ps:List Str}(h:∀us:List Value,us.length=ps.length->bindArgs fd ⟨us,[]⟩=pure (ps.zip us)):Binds K fd ps []:=fun s us _ hl=>by
 rw[jqr]at hl ⊢;exact .of_eq (h us hl)
section
variable {X:Cx}{CX:CXT}{k:Nat}{f C:Addr}{fd:FuncData}{ps:List Str}{sp:Sp}{dvs:List V}{ds:List Value}{E:XK}{x m:Str}{p pos apos:Pos}{e o:Expr}{es:List Expr}{ta:TE}{t:TA}
end
section
variable {X:Cx}{CX:CXT}{k:Nat}{f C:Addr}{fd:FuncData}{ps ks:List Str}{sp:Sp}{E:XK}{x m:Str}{p pos apos kpos:Pos}{e o:Expr}{es:List Expr}{kws:List Keyword}{te ta:TE}{t tk:TA}{nm:Option Str}
variable {g:List Value->List Value->List Value}{gV:List V->List V->List V}
end
structure FnScope (N P:List Str)(sc:Scope):Prop where
 kind:sc.kind=.function
 co:sc.isCoroutine=false
 gen:sc.isGenerator=false
 nd:N.Nodup
 pre:N.take P.length=P
 par:∀x∈P,sc.names.lookup x=some .local\/sc.names.lookup x=some .cell
 nofree:∀y∈sc.names,y.2≠.free
theorem jdo {kindOf:Str->Option NameKind}{x:Str}:∀{binds:List (Str×Value)}{m:Str->Option Value},(∀v,(x,v) ∉ binds)->bindL kindOf binds m x=m x
 |[],_,_=>rfl
 |(n,v)::r,m,h=>by
  unfold bindL;rw[jdo fun w hw=>h w (jp6 _ hw)];split
  ·have:x≠n:=by rintro rfl;exact h v jp7
   simp[this]
  ·rfl
theorem jdp {kindOf:Str->Option NameKind}{x:Str}:∀{binds:List (Str×Value)}{m:Str->Option Value},(∀v,(x,v) ∉ binds)->bindC kindOf binds m x=m x
 |[],_,_=>rfl
 |(n,v)::r,m,h=>by
  unfold bindC;rw[jdp fun w hw=>h w (jp6 _ hw)];split
  ·rfl
  ·have:x≠n:=by rintro rfl;exact h v jp7
   simp[this]
theorem jdq {kindOf:Str->Option NameKind}{x:Str}{v:Value}:∀{P:List Str}{vs:List Value}{i:Nat}{m:Str->Option Value},P.Nodup->P[i]?=some x->vs[i]?=some v->kindOf x=some .local ->
  bindL kindOf (P.zip vs) m x=some v
 |[],_,_,_,_,h,_,_=>by simp at h
 |_::_,[],_,_,_,_,h,_=>by simp at h
 |p::P,w::vs,0,m,nd,h1,h2,hk=>by
  simp at h1 h2;subst h1;subst h2;show bindL kindOf ((p,w)::P.zip vs) m p=_;unfold bindL;rw[jdo fun v hv=>(List.nodup_cons.mp nd).1 (List.of_mem_zip hv).1,if_pos hk];simp
 |p::P,w::vs,i + 1,m,nd,h1,h2,hk=>by
  show bindL kindOf ((p,w)::P.zip vs) m x=_;unfold bindL;exact jdq (i:=i) (List.nodup_cons.mp nd).2 (by simpa using h1) (by simpa using h2) hk
theorem jdr {kindOf:Str->Option NameKind}{x:Str}{v:Value}:∀{P:List Str}{vs:List Value}{i:Nat}{m:Str->Option Value},P.Nodup->P[i]?=some x->vs[i]?=some v->kindOf x≠some .local ->
  bindC kindOf (P.zip vs) m x=some v
 |[],_,_,_,_,h,_,_=>by simp at h
 |_::_,[],_,_,_,_,h,_=>by simp at h
 |p::P,w::vs,0,m,nd,h1,h2,hk=>by
  simp at h1 h2;subst h1;subst h2;show bindC kindOf ((p,w)::P.zip vs) m p=_;unfold bindC;rw[jdp fun v hv=>(List.nodup_cons.mp nd).1 (List.of_mem_zip hv).1,if_neg hk];simp
 |p::P,w::vs,i + 1,m,nd,h1,h2,hk=>by
  show bindC kindOf ((p,w)::P.zip vs) m x=_;unfold bindC;exact jdr (i:=i) (List.nodup_cons.mp nd).2 (by simpa using h1) (by simpa using h2) hk
noncomputable def start (N:List Str)(vs:List V):St:=vs.map some++List.replicate (N.length - vs.length) none
noncomputable def jfx (CX:CXT)(P:Program)(w:World)(K:PySem.W.Frag)(mg:Str->Option Value)(base:Heap)(N:List Str)(qual:Str)(scope:Scope)(f:Addr)(cd:Value)(A:Around)(outer:List Env)(s:Shared)(H:Hp)(E:XK):Cx where
 prog:=P
 w:=w
 K:=K
 mg:=mg
 base:=base
 A:=A.deeper (envOfC qual scope s.heap.objs.size f cd)
 N:=N
 s₀:=s
 H₀:=H
 env:=envOfC qual scope s.heap.objs.size f cd
 outer:=outer
 stack:=envOfC qual scope s.heap.objs.size f cd::outer
 ex:=[]
 calm:=true
 fn:=fun _=>true
 pn:=[]
 xe:=fun e s'=>wpAny (model P w) (A.deeper (envOfC qual scope s.heap.objs.size f cd)) (leaving (envOfC qual scope s.heap.objs.size f cd) e) (fun _ s''=>CX outer H s E e s'') (fun e' s''=>CX outer H s E e' s'') s'
theorem jeY {sc:Scope}{n:Nat}{x:Str}(h:sc.names.lookup x=some .cell):∃c,(cellsFrom n sc.names []).lookup x=some c:=by
 have q:=PySem.W.cellsFrom_some sc.names n [] (.inl h);exact Option.isSome_iff_exists.mp q
theorem jgu {CX:CXT}{P:Program}{w:World}{K:PySem.W.Frag}{mg:Str->Option Value}{base:Heap}{N ps:List Str}{qual:Str}{scope:Scope}{f:Addr}{cd:Value}{A:Around}{outer:List Env}{s s1:Shared}{H:Hp}{E:XK}{us:List Value}{vs:List V}
  (S:FnScope N ps scope) (hd:A.handled=none) (e0:Env0 P w K mg base A outer s H) (hl:vs.length=ps.length) (r:Vals vs us)
  (x:InCallC s s.heap.objs.size (bindL (envOfC qual scope s.heap.objs.size f cd).kindOf (ps.zip us) fun _=>none) (cellsFrom (s.heap.objs.size + 1) scope.names []) (bindC (envOfC qual scope s.heap.objs.size f cd).kindOf (ps.zip us) fun _=>none) s1) :
  Inv (jfx CX P w K mg base N qual scope f cd A outer s H E) [] (start N vs) H s1:=by
 have hpl:ps.length<=N.length:=by have:=congrArg List.length S.pre;rw[List.length_take]at this;omega
 obtain⟨h1,tk,rfl,hk⟩:=x.done;have noA:∀b:Addr,b ∉ (jfx CX P w K mg base N qual scope f cd A outer s H E).ex:=fun b z=>absurd (show b∈([]:List Addr)from z) (by simp)
 refine⟨⟨e0.mod,S.kind,rfl,rfl,jqD _,fun y z c h1 h2=>?_,fun y hy=>?_,fun y c _ h=>?_,fun _=>hd,Around.frames_deeper e0.frames,.inr ⟨rfl,rfl⟩,fun b z=>absurd z (noA b),e0.bs,e0.bsz,fun b _ _=>noA b,fun b z=>absurd z (noA b),e0.funs,e0.frf⟩,
  rfl,e0.bare,Un.kept hk,⟨_,x.toInCall.ns,fun i y v h1 h2 h3=>?_⟩,fun y c h=>⟨_,x.cell y c h⟩,e0.hok.fresh (jqD _),fun y c h=>?_,fun p hp=>absurd (show p∈([]:List (Addr×Obj))from hp) (by simp),e0.hok.kept hk,?_⟩
 ·exact name_of_addr x.apart (PySem.mem_of_lookup h1) (PySem.mem_of_lookup h2)
 ·have hy:scope.names.lookup y=some .cell\/scope.names.lookup y=some .free:=hy;rcases hy with hy | hy
  ·exact jeY hy
  ·exact absurd rfl (S.nofree _ (PySem.mem_of_lookup hy))
 ·exact Nat.le_of_lt (x.above y c (PySem.mem_of_lookup h))
 ·have hi:i < vs.length:=by
   unfold start at h2;by_cases hi:i < vs.length
   ·exact hi
   ·rw[jqh (by simpa using hi)]at h2
    rw[List.getElem?_replicate]at h2;split at h2 <;> cases h2
  have ha:vs[i]?=some v:=by
   unfold start at h2;rw[jql (by simpa using hi),jqa]at h2
   cases e:vs[i]? with
   |none=>rw[e]at h2;cases h2
   |some a=>rw[e]at h2;cases h2;rfl
  obtain⟨u,hu,rv⟩:=r.get ha;have hp:ps[i]?=some y:=by
   rw[<-S.pre,List.getElem?_take_of_lt (by omega)];exact h1
  have ndP:ps.Nodup:=by rw[<-S.pre];exact S.nd.sublist (List.take_sublist _ _)
  refine⟨u,rv,?_⟩;rcases S.par y (jqg hp)with k | k
  ·exact .inl ⟨k,jdq ndP hp hu k⟩
  ·obtain⟨c,e⟩:=jeY (n:=s.heap.objs.size + 1) k;refine .inr ⟨.inl k,c,e,?_⟩;have q:=x.cell y c e;rw[jdr ndP hp hu (by show scope.names.lookup y≠_;rw[k];decide)]at q
   exact q
 ·exact e0.hok.fresh (Nat.le_of_lt (x.above y c (PySem.mem_of_lookup h)))
 ·unfold start;show _=N.length;rw[jqi,jqd,List.length_replicate];omega
theorem jor {CX:CXT}{P:Program}{w:World}{K:PySem.W.Frag}{mg:Str->Option Value}{base:Heap}{k:Nat}{f:Addr}{name qual:Str}{params:Arguments}{body:List Stmt}{scope:Scope}{dV kV doc pm cdv ct oc:Value}{an od:Option Addr}
  {osl:Array (Option Value)}{N ps:List Str}{sp:Sp} (lk:K.lookup f=some ⟨oc,od,.func (PySem.W.fnOf name qual params body scope dV kV doc pm an cdv ct),osl⟩) (hcd:PySem.W.codeIn K cdv qual=true) (S:FnScope N ps scope)
  (len:∀vs H Q E,sp vs H Q E->vs.length=ps.length)
  (hbody:∀(A:Around) (outer:List Env) (s:Shared) (H:Hp) (vs:List V) (Q:VK) (E:XK),Room k (A.deeper (envOfC qual scope s.heap.objs.size f cdv))->sp vs H Q E ->
   ∃t,PSs (jfx CX P w K mg base N qual scope f cdv A outer s H E) body t/\t { nx:=fun _ H'=>Q .non H',rt:=Q } (start N vs) H) :
  FnOk P w K mg base CX (k + 1) f (PySem.W.fnOf name qual params body scope dV kV doc pm an cdv ct) ps sp:=by
 refine⟨len,fun A outer s H args us vs Q E hr e0 hb r hsp=>?_⟩;have hl:=len _ _ _ _ hsp;have KX:K.In s.heap:=e0.mod.kin.keeps fun b o e=>(e0.bs b o e).1;have lim:s.heap.NoLimit:=e0.mod.nolimit.keeps fun b o e=>(e0.bs b o e).1;have hkind:∀y∈ps.zip us,scope.names.lookup y.1=some .local\/(scope.names.lookup y.1=some .cell/\((cellsFrom (s.heap.objs.size + 1) scope.names []).lookup y.1).isSome=true):=fun ⟨n,v⟩ hy=>by
  rcases S.par n (List.of_mem_zip hy).1 with q | q
  ·exact .inl q
  ·exact .inr ⟨q,PySem.W.cellsFrom_some _ _ _ (.inl q)⟩
 refine codeAny_call_function hr.depth (KX _ _ lk) rfl S.co S.gen rfl (PySem.W.codeRec_of KX hcd) (hb _ _ _ _ ?_);refine wpAny_newFunctionEnv_cells S.kind hkind fun env he s1 x=>?_;subst he;refine⟨lim.keeps x.toInCall.keep,codeAny_func ?_⟩;obtain⟨t,ht,hq⟩:=hbody A outer s H vs Q E (hr.deeper _) hsp;have I:Inv (jfx CX P w K mg base N qual scope f cdv A outer s H E) [] (start N vs) H s1:=jgu S hr.hd e0 hl r x;refine jqx (ht [] s1 (start N vs) H _ I hq) (fun fl s' hs=>?_) fun e s' hs=>hs;have fin:∀{σ':St}{H':Hp}{v:V}{u:Value},Inv (jfx CX P w K mg base N qual scope f cdv A outer s H E) [] σ' H' s'->RelV v u->Q v H'->CE outer P w H s Q u s':=
  fun {σ' H' v u} J rv q=>⟨v,H',J.os,J.bare,J.base,J.hok,rv,q⟩
 cases fl with
 |ret u=>
  obtain⟨v,σ',H',J,rv,q⟩:=hs;exact fin J rv q
 |next=>
  obtain⟨σ',H',J,q⟩:=hs;exact fin (v:=V.non) (u:=Value.none) J rfl q
 |brk=>
  obtain⟨_,_,_,q⟩:=hs;exact False.elim q
 |cont=>
  obtain⟨_,_,_,q⟩:=hs;exact False.elim q
end L2
namespace L2
open PySem PySem.Spec PyProof.Rows
section
variable {X:Cx}{x:Str}{p pos:Pos}{e:Expr}{es:List Expr}{t:TA}{id T:String}{r:List V->Hp->VK->Prop}
noncomputable def tCB (r:List V->Hp->VK->Prop)(t:TA):TE:=fun σ H Q=>t σ H fun vs H1=>r vs H1 Q
theorem jcZ (hc:CallR X (.builtin id) r)(hg:Gl X x)(hm:X.mg x=none)(hv:bootBuiltins x=some (.builtin id))(ha:PA X (e::es) t)(hn:x≠"__name__":=by decide)(hdb:(x == ("__debug__":Str))=false:=by decide)
  (he:starEach (e::es) X.env=(false,eval e X.env)::starEach es X.env:=by rfl) (hpl:(backTo pos (starEach es X.env)).any (·.1)=false:=by rfl):PE X (.Call (.Name x p) (e::es) [] pos) (tCB r t):=by
 intro pins s σ H Q I h;refine wpAny_Call_Name_kw (jeX I hg hm hv ?_ hn hdb);exact PyProof.Rows.callWith_builtin1 (thn (ha pos pins s σ H _ I h) fun us s1 ⟨vs,H1,I1,r1,q1⟩=>hc pins s1 σ H1 vs us Q I1 r1 q1) he hpl
theorem jbm (hc:CallR X (.type T) r)(hg:Gl X x)(hm:X.mg x=none)(hv:bootBuiltins x=some (.type T))(ha:PA X (e::es) t)(hn:x≠"__name__":=by decide)(hdb:(x == ("__debug__":Str))=false:=by decide)
  (he:starEach (e::es) X.env=(false,eval e X.env)::starEach es X.env:=by rfl) (hpl:(backTo pos (starEach es X.env)).any (·.1)=false:=by rfl):PE X (.Call (.Name x p) (e::es) [] pos) (tCB r t):=by
 intro pins s σ H Q I h;refine wpAny_Call_Name_kw (jeX I hg hm hv ?_ hn hdb);exact PyProof.Rows.callWith_type1 (thn (ha pos pins s σ H _ I h) fun us s1 ⟨vs,H1,I1,r1,q1⟩=>hc pins s1 σ H1 vs us Q I1 r1 q1) he hpl
end
end L2
namespace HT
open PySem PyProof.Rows
noncomputable def lexLt:List Int->List Int->Bool
 |[],[]=>false
 |[],_::_=>true
 |_::_,[]=>false
 |x::xs,y::ys=>if x=y then lexLt xs ys else decide (x < y)
theorem jcK (x y:Int)(xs ys:List Int):lexLt (x::xs) (y::ys)=if x=y then lexLt xs ys else decide (x < y):=rfl
theorem jc0:lexLt [] []=false:=rfl
theorem jcs (y:Int)(ys:List Int):lexLt [] (y::ys)=true:=rfl
theorem jct (x:Int)(xs:List Int):lexLt (x::xs) []=false:=rfl
theorem jiz (A:Around)(s:Shared)(a:Int)(t:Tok)(c:Int)(u:Tok):∃e,SeqAt.EqAt A s (.int a t) (.int c u) e/\(e=true↔a=c):=
 ⟨(a == c),SeqAt.EqAt.int_int a t c u,by simp⟩
theorem jiA (A:Around)(s:Shared)(a:Int)(t:Tok)(c:Int)(u:Tok)(prog:Program)(w:World)(E:Value->Shared->Prop)(Q:Value->Shared->Prop)(h:Q (.bool (decide (a < c))) s) :
  wpAny (model prog w) A (richCompare .Lt (.int a t) (.int c u)) Q E s:=
 (PyProof.Rows.lt_int h:wpAny (model prog w) A (compareOp .Lt (.int a t) (.int c u)) Q E s)
section
open PySem.SeqAt
open PySem.AutoSeq1 (wpAny_loadPart')
open PySem.MeetsSeq PySem.MeetsSeq2 PySem.MeetsSeq3
theorem jc1 (l b:Addr)(items items2:Array Value)(n n2:Nat)(dd dd2:Option Addr)(sl sl2:Array (Option Value))(ns ms:List Int)(hi:IntsAre items.toList ns)(hj:IntsAre items2.toList ms) :
  Meets (Builtin.«tuple.__lt__» ⟨[.ref l,.ref b],[]⟩)
   (fun _ R s=>s.heap.get? l=some { cls:=.type "tuple",dict:=dd,data:=.seq items n,slots:=sl }/\s.heap.get? b=some { cls:=.type "tuple",dict:=dd2,data:=.seq items2 n2,slots:=sl2 } /\
    R (.ok (.ret (.bool (lexLt ns ms)))) s):=
 .of_wp fun prog w A R s h=>by
  obtain⟨hp,g,d,tk,os⟩:=s;obtain⟨hl,hb,h⟩:=h;have f2:=AutoSeq1.sub_tuple_tuple;have z1:items.size=ns.length:=by rw[<-hi.length];simp
  have z2:items2.size=ms.length:=by rw[<-hj.length];simp
  wp_walk using wpAny_loadPart' hl,wpAny_loadPart' hb,wpAny_forIn_list _ (fun jec b s'=>b.1=none/\s'=⟨hp,g,d,tk,os⟩/\∃(vs ws:List Value) (ns' ms':List Int),jec=vs.zip ws /\
   IntsAre vs ns'/\IntsAre ws ms'/\ns'.length + items2.size=ms'.length + items.size/\R (.ok (.ret (.bool (lexLt ns' ms')))) ⟨hp,g,d,tk,os⟩) _
  case turn=>
   rintro⟨y,x⟩ jec b s' ⟨hb',rfl,vs,ws,ns',ms',hz,hvi,hwi,hlen,hR⟩;cases hvi with
   |nil=>rw[List.zip_nil_left]at hz;cases hz
   |cons a t hvi'=>
    cases hwi with
    |nil=>rw[List.zip_nil_right]at hz;cases hz
    |cons c u hwi'=>
     rw[List.zip_cons_cons]at hz;injection hz with hyx hrest
     injection hyx with hy hx
     subst hy hx;rw[jcK]at hR;simp only[jqe]at hlen;obtain⟨e,he,hiff⟩:=jiz A.in1 ⟨hp,g,d,tk,os⟩ a t c u;refine jqs (he prog w _ _ ?_);cases e with
     |true=>
      rw[if_pos (hiff.mp rfl)]at hR;wp_walk;exact⟨rfl,rfl,_,_,_,_,hrest,hvi',hwi',by omega,hR⟩
     |false=>
      rw[if_neg (fun q=>absurd (hiff.mpr q) jqK)]at hR;have hri:=jiA A.in1 ⟨hp,g,d,tk,os⟩ a t c u prog w;wp_walk using hri;exact⟨_,rfl,by simpa using hR⟩
  case fin=>
   rintro⟨b1,b2⟩ s' ⟨hb',rfl,vs,ws,ns',ms',hz,hvi,hwi,hlen,hR⟩;simp only at hb';subst hb';have hv:lexLt ns' ms'=decide (items.size < items2.size):=by
    cases hvi with
    |nil=>
     cases hwi with
     |nil=>
      simp only[List.length_nil]at hlen;rw[jc0];exact(decide_eq_false (by omega)).symm
     |cons c u hw=>
      simp only[List.length_nil,jqe]at hlen;rw[jcs];exact(decide_eq_true (by omega)).symm
    |cons a t hv=>
     cases hwi with
     |nil=>
      simp only[List.length_nil,jqe]at hlen;rw[jct];exact(decide_eq_false (by omega)).symm
     |cons c u hw=>
      rw[List.zip_cons_cons]at hz;cases hz
   rw[hv]at hR;wp_walk;exact⟨_,rfl,by simpa[Builtin.Tuple.tupleCompareSizes] using hR⟩
  case h=>
   exact⟨rfl,rfl,items.toList,items2.toList,ns,ms,rfl,hi,hj,by omega,h⟩
end
section
variable {prog:Program}{w:World}{A:Around}{E:Value->Shared->Prop}{s:Shared}
theorem jfy {l b:Addr}{items items2:Array Value}{ns ms:List Int}{Q:Value->Shared->Prop}(hl:IsTup s.heap l items)(hb:IsTup s.heap b items2)(hi:IntsAre items.toList ns)(hj:IntsAre items2.toList ms)
  (hu:A.units < cLine) (h:Q (.bool (lexLt ns ms)) s):wpAny (model prog w) A (compareOp .Lt (.ref l) (.ref b)) Q E s:=by
 obtain⟨⟨cls,dd,data,sl⟩,ho,hc,n,hd⟩:=id hl;obtain⟨⟨cls2,dd2,data2,sl2⟩,ho2,hc2,n2,hd2⟩:=id hb;simp only at hc hd hc2 hd2;subst hc hd hc2 hd2;exact richCompare_meets_room (op:=.Lt) ⟨_,ho,rfl⟩ ⟨_,ho2,rfl⟩ PySem.F.slot_tuple_lt PySem.F.entry_tuple_lt (PySem.F.args_tuple_lt_2 _ _) (jc1 l b items items2 n n2 dd dd2 sl sl2 ns ms hi hj)
  ⟨ho,ho2,show Value.bool (lexLt ns ms)≠Value.notImplemented/\Q (.bool (lexLt ns ms)) s from⟨(fun x=>nomatch x),h⟩⟩ hu
theorem jkv {t b:Addr}{vs ws:List Value}{Q:Value->Shared->Prop}(ht:IsTup s.heap t vs.toArray)(hb:IsTup s.heap b ws.toArray)(hv:vs≠[])
  (h1:ws=[]->Q (.ref t) s) (h2:ws≠[]->Q (.ref s.heap.objs.size) { s with heap:=s.heap.push { cls:=.type "tuple",data:=.seq (vs++ws).toArray } })
  (hsz:vs.length + ws.length<=sizeLine):wpAny (model prog w) A (binaryOp .Add (.ref t) (.ref b)) Q E s:=by
 obtain⟨⟨cls,dd,data,sl⟩,ho,hc,n,hd⟩:=id ht;obtain⟨⟨cls2,dd2,data2,sl2⟩,ho2,hc2,n2,hd2⟩:=id hb;simp only at hc hd hc2 hd2;subst hc hd hc2 hd2;have e:vs.toArray++ws.toArray=(vs++ws).toArray:=by simp
 by_cases hw:ws=[]
 ·exact concat_meets ⟨_,ho,rfl⟩ ⟨_,ho2,rfl⟩ noFill_tuple_add seq_tuple_add PySem.F.slot_tuple_add PySem.F.entry_tuple_add (PySem.F.args_tuple_add_2 _ _)
   (tuple_addW1 t b vs.toArray ws.toArray n n2 dd dd2 sl sl2 (by simpa using hv) (by simp[hw])) ⟨ho,ho2,h1 hw⟩
 ·refine concat_meets ⟨_,ho,rfl⟩ ⟨_,ho2,rfl⟩ noFill_tuple_add seq_tuple_add PySem.F.slot_tuple_add PySem.F.entry_tuple_add (PySem.F.args_tuple_add_2 _ _)
   (tuple_addW2 t b vs.toArray ws.toArray n n2 dd dd2 sl sl2 (by simpa using hv) (by simpa using hw) (by rw[jp8,jp8];exact hsz)) ⟨ho,ho2,?_⟩
  rw[e];exact h2 hw
noncomputable def sIx (n d:Nat):Option Int->Nat
 |none=>d
 |some v=>if v < 0 then (v + (n:Int)).toNat else min v.toNat n
theorem jmQ (n d:Nat)(hd:d<=n)(o:Option Int):sIx n d o<=n:=by
 cases o with
 |none=>exact hd
 |some v=>
  show (if v < 0 then (v + (n:Int)).toNat else min v.toNat n)<=n;by_cases hv:v < 0
  ·rw[if_pos hv];omega
  ·rw[if_neg hv];exact Nat.min_le_right _ _
theorem jgv (v:Int)(n d:Nat):(if v < 0 then max (v + (n:Int)) 0 else min v (n:Int))=((sIx n d (some v):Nat):Int):=by
 show (if v < 0 then max (v + (n:Int)) 0 else min v (n:Int))=(((if v < 0 then (v + (n:Int)).toNat else min v.toNat n):Nat):Int);by_cases hv:v < 0
 ·simp only[if_pos hv];omega
 ·simp only[if_neg hv];omega
theorem jfz (lo hi:Option Int)(n:Nat):Builtin.Slice.sliceAdjust lo hi 1 (n:Int)=(((sIx n 0 lo:Nat):Int),((sIx n n hi:Nat):Int)):=by
 have h1:¬ ((1:Int) < 0):=by omega
 unfold Builtin.Slice.sliceAdjust;simp only[h1,if_false];refine Prod.ext ?_ ?_
 ·cases lo with
  |none=>rfl
  |some v=>exact jgv v n 0
 ·cases hi with
  |none=>rfl
  |some v=>exact jgv v n n
theorem jfA (i j:Nat):Builtin.Slice.slicePlaces (i:Int) (j:Int) 1=j - i:=by
 unfold Builtin.Slice.slicePlaces;have h1:(1:Int) > 0:=by omega
 simp only[h1,if_true,Int.ediv_one];split <;> omega
theorem jcL {v:Value}{o:Option Int}{Q:Option Int->Shared->Prop}(p:IsPart v o)(h:Q o s):wpAny (model prog w) A (Builtin.Slice.slicePartIndex v) Q E s:=by
 cases p with
 |none=>exact slicePart_none h
 |int i t=>exact slicePart_int h
theorem jbg {sl:Addr}{vl vu:Value}{lo hi:Option Int}{n:Nat}{Q:Int×Int×Nat->Shared->Prop}(hs:s.heap.IsSliceOf sl vl vu .none)(pl:IsPart vl lo)(pu:IsPart vu hi)
  (h:Q (((sIx n 0 lo:Nat):Int),1,sIx n n hi - sIx n 0 lo) s):wpAny (model prog w) A (Builtin.Slice.sliceApplied (.ref sl) (pure (n:Int))) Q E s:=by
 obtain⟨os,hos,hcs,hds⟩:=id hs;unfold Builtin.Slice.sliceApplied Builtin.Slice.sliceFields;refine jqs (jqs (wpAny_field hos hds (x:=vl) rfl (jqs (wpAny_field hos hds (x:=vu) rfl (jqs (wpAny_field hos hds (x:=.none) rfl (jqt ?_)))))));refine jqs (slicePart_none ?_);show wpAny _ _ (if ((1:Int) == 0)=true then _ else _) _ _ s;rw[if_neg (by decide)]
 refine jqs (jcL pl (jqs (jcL pu (jqs (jqt ?_)))));show wpAny _ _ (match Builtin.Slice.sliceAdjust lo hi 1 (n:Int)with | (lo,hi)=>pure (lo,(1:Int),Builtin.Slice.slicePlaces lo hi 1)) _ _ s
 rw[jfz lo hi n];show wpAny _ _ (pure (((sIx n 0 lo:Nat):Int),(1:Int),Builtin.Slice.slicePlaces ((sIx n 0 lo:Nat):Int) ((sIx n n hi:Nat):Int) 1)) _ _ s;rw[jfA];exact jqt h
theorem jiB (xs:Array Value)(i k:Nat):((List.range k).filterMap fun (m:Nat)=>xs[((i:Int) + (m:Int) * 1).toNat]?).toArray=((xs.toList.drop i).take k).toArray:=by
 have e:(fun (m:Nat)=>xs[((i:Int) + (m:Int) * 1).toNat]?)=fun m=>xs[i + m]?:=by
  funext m
  have:((i:Int) + (m:Int) * 1).toNat=i + m:=by omega
  rw[this]
 rw[e];have:=pick_run xs i k;rw[List.filterMap_map]at this;have e2:((fun x=>xs[x]?) ∘ fun x=>i + x)=fun m=>xs[i + m]?:=rfl;rw[e2]at this;rw[this]
theorem jbR {t sl:Addr}{items:Array Value}{vl vu:Value}{lo hi:Option Int}{Q:Value->Shared->Prop}(ht:IsTup s.heap t items)(hs:s.heap.IsSliceOf sl vl vu .none)(pl:IsPart vl lo)(pu:IsPart vu hi)
  (hw:¬ (sIx items.size 0 lo=0/\sIx items.size items.size hi=items.size))
  (h:Q (.ref s.heap.objs.size) { s with heap:=s.heap.push { cls:=.type "tuple",data:=.seq ((items.toList.drop (sIx items.size 0 lo)).take (sIx items.size items.size hi - sIx items.size 0 lo)).toArray } })
  (hsz:items.size<=sizeLine):wpAny (model prog w) A (getItem (.ref t) (.ref sl)) Q E s:=by
 have htake:sizeOk (.seq ((items.toList.drop (sIx items.size 0 lo)).take (sIx items.size items.size hi - sIx items.size 0 lo)).toArray):=by
  show ((items.toList.drop (sIx items.size 0 lo)).take (sIx items.size items.size hi - sIx items.size 0 lo)).toArray.size<=sizeLine;rw[jp8,List.length_take,List.length_drop,Array.length_toList];exact jqG (Nat.min_le_right _ _) (jqG (Nat.sub_le _ _) hsz)
 have hj:sIx items.size items.size hi<=items.size:=jmQ _ _ (jqD _) hi;obtain⟨os,hos,hcs,hds⟩:=id hs;have hTs:s.TypeIs (.ref sl) "slice":=⟨os,hos,hcs⟩;unfold getItem;try with_reducible refine jqw ?_
 first | refine jqs (jqt ?_) | skip
 refine jqs (wpAny_sequenceKey ht.typeIs (by decide) ?_)
 refine jqs (wpAny_callSpecial?_slot (name:=Str.ofString "__getitem__") ht.typeIs PyProof.Rows.slot_tuple_getitem
  (wpAny_call_entry PyProof.Rows.slot_tuple_getitem ht.typeIs entry_tuple_getitem ?_ (args_tuple_getitem _ _)))
 show wpAny _ _ (Builtin.Tuple.tupleItemsOf (.ref t) >>= _) _ _ s;refine jqs (tupleItemsOf_ ht ?_);refine jqs (wpAny_typeOf hTs ?_);rw[if_pos (by decide)]
 refine jqs (jbg hs pl pu ?_);have hno:¬ ((((sIx items.size 0 lo:Nat):Int) == 0 && (1:Int) == 1 && (sIx items.size items.size hi - sIx items.size 0 lo) == items.size)=true):=by
  intro q;rw[jqI,jqI]at q;have q1:((sIx items.size 0 lo:Nat):Int)=0:=eq_of_beq q.1.1;have q2:sIx items.size items.size hi - sIx items.size 0 lo=items.size:=eq_of_beq q.2;exact hw ⟨by omega,by omega⟩
 show wpAny _ _ (if (((sIx items.size 0 lo:Nat):Int) == 0 && (1:Int) == 1 && (sIx items.size items.size hi - sIx items.size 0 lo) == items.size)=true then _ else _) _ _ s;rw[if_neg hno,jiB];first
  |exact jqs (m:=Builtin.Tuple.tupleExact _) (jqv (jqt ⟨_,rfl,jqt h⟩) htake)
  |exact jqs (m:=Builtin.Tuple.tupleExact _) (jqv (jqs (jqt (jqt ⟨_,rfl,jqt h⟩))) htake)
  |exact jqs (jqs (m:=Builtin.Tuple.tupleExact _) (jqv (jqt (jqt ⟨_,rfl,jqt h⟩)) htake))
  |exact jqs (jqs (m:=Builtin.Tuple.tupleExact _) (jqv (jqt ⟨_,rfl,jqt h⟩) htake))
end
end HT
namespace L2
open PySem PySem.Spec PyProof.Rows
noncomputable abbrev TO:=St->Hp->(Option Int->Hp->Prop)->Prop
noncomputable def PO (X:Cx)(e:Option Expr)(t:TO):Prop:=
 ∀(pins:List (Addr×Obj)) (s:Shared) (σ:St) (H:Hp) (Q:Option Int->Hp->Prop),Inv X pins σ H s->t σ H Q ->
  wpAny (model X.prog X.w) X.A (evalPart e X.env) (fun u s'=>∃o H',Inv X pins σ H' s'/\IsPart u o/\Q o H') X.xe s
noncomputable def jkw:TO:=fun _ H Q=>Q none H
noncomputable def jos (t:TE):TO:=fun σ H Q=>t σ H fun x H1=>∃i,x=.int i/\Q (some i) H1
theorem jcM {ns:List Int}:∀{us:List Value},Vals (ns.map V.int) us->IntsAre us ns:=by
 induction ns with
 |nil=>intro us r;rw[List.map_nil]at r;cases r;exact .nil
 |cons n ns ih=>
  intro us r;rw[jqb]at r;cases r with
  |cons r1 r2=>
   obtain⟨t,e⟩:=r1;subst e;exact .cons n t (ih r2)
section
variable {X:Cx}{e:Expr}{te:TE}{lo hi:Option Expr}{tl th:TO}{pos p2:Pos}
theorem jkx:PO X none jkw:=by
 intro pins s σ H Q I h;rw[evalPart_none];exact jqt ⟨none,H,I,.none,h⟩
theorem jky (h:PE X e te):PO X (some e) (jos te):=by
 intro pins s σ H Q I hw;rw[evalPart_some];refine thn (h pins s σ H _ I hw) fun u s1 hzz=>?_;obtain⟨x,H1,I1,r1,q1⟩:=hzz;obtain⟨i,rfl,q⟩:=q1;obtain⟨t,rfl⟩:=r1;exact⟨some i,H1,I1,.int i t,q⟩
noncomputable def SlR (X:Cx)(r:V->Option Int->Option Int->Hp->VK->Prop):Prop:=
 ∀(pins:List (Addr×Obj)) (s:Shared) (σ:St) (H:Hp) (x:V) (v vl vu:Value) (lo hi:Option Int) (sl:Addr) (Q:VK),Inv X pins σ H s->RelV x v->s.heap.IsSliceOf sl vl vu .none->IsPart vl lo->IsPart vu hi->r x lo hi H Q ->
  ∃T id,typeLookup (.type T) "__getitem__"=pure (some (.builtin id))/\s.TypeIs v T/\wpAny (model X.prog X.w) X.A (getItem v (.ref sl)) (EP X pins σ Q) X.xe s
theorem SlR.or {r r':V->Option Int->Option Int->Hp->VK->Prop}(h:SlR X r)(h':SlR X r'):SlR X (fun x lo hi H Q=>r x lo hi H Q\/r' x lo hi H Q):=by
 intro pins s σ H x v vl vu lo hi sl Q I rx hs pl pu q;rcases q with q | q
 ·exact h pins s σ H x v vl vu lo hi sl Q I rx hs pl pu q
 ·exact h' pins s σ H x v vl vu lo hi sl Q I rx hs pl pu q
noncomputable def tSl (r:V->Option Int->Option Int->Hp->VK->Prop)(te:TE)(tl th:TO):TE:=fun σ H Q=>te σ H fun x H1=>tl σ H1 fun l H2=>th σ H2 fun u H3=>r x l u H3 Q
theorem jiC {r:V->Option Int->Option Int->Hp->VK->Prop}(hr:SlR X r)(he:PE X e te)(hl:PO X lo tl)(hu:PO X hi th):PE X (.Subscript e (.Slice lo hi none p2) pos) (tSl r te tl th):=by
 intro pins s σ H Q I h;refine Subscript_ (thn (he pins s σ H _ I h) fun v s1 hzz=>?_);obtain⟨x,H1,I1,r1,q1⟩:=hzz;refine wpAny_Slice (thn (hl pins s1 σ H1 _ I1 q1) fun vl s2 ⟨l,H2,I2,pl,q2⟩=>thn (hu pins s2 σ H2 _ I2 q2) fun vu s3 hzz=>?_);obtain⟨u,H3,I3,pu,q3⟩:=hzz;rw[evalPart_none];refine jqt ?_;have I4:Inv X pins σ H3 { s3 with heap:=s3.heap.push { cls:=.type "slice",data:=.fields #[vl,vu,.none] } }:=I3.kept (t':=s3.toks) fun b ob q=>jqy _ q
 obtain⟨T,id,hT,ht,hg⟩:=hr pins { s3 with heap:=s3.heap.push { cls:=.type "slice",data:=.fields #[vl,vu,.none] } } σ H3 x v vl vu l u s3.heap.objs.size Q I4 r1 (Heap.IsSliceOf.new ..) pl pu q3
 show wpAny (model X.prog X.w) X.A (subscriptTail e (.Slice lo hi none p2) v (.ref s3.heap.objs.size)) (EP X pins σ Q) X.xe { s3 with heap:=s3.heap.push { cls:=.type "slice",data:=.fields #[vl,vu,.none] } }
 exact tail_any (ops:=[.ref s3.heap.objs.size,v]) ht hT hg (by with_unfolding_all rfl)
noncomputable def jjS (xs:List V)(lo hi:Option Int):List V:=(xs.drop (HT.sIx xs.length 0 lo)).take (HT.sIx xs.length xs.length hi - HT.sIx xs.length 0 lo)
theorem jb9 (xs:List V)(lo hi:Option Int):(jjS xs lo hi).length<=xs.length:=by
 unfold jjS;rw[List.length_take,List.length_drop];exact jqG (Nat.min_le_right _ _) (Nat.sub_le _ _)
noncomputable def jpI (K:PySem.W.Frag):V->Option Int->Option Int->Hp->VK->Prop:=fun x lo hi H Q=>∃a xs,x=.ref a/\SqT K H a xs /\
 ¬ (HT.sIx xs.length 0 lo=0/\HT.sIx xs.length xs.length hi=xs.length)/\∀p,H p=none->Q (.ref p) (upd H p (.tup (jjS xs lo hi)))
theorem sl_tup:SlR X (jpI X.K):=by
 intro pins s σ H x v vl vu lo hi sl Q I rx hs pl pu h;obtain⟨a,xs,rfl,hx,hw,q⟩:=h;cases rx;obtain⟨its,r,ht,hz⟩:=I.tuple hx;have hlen:its.toArray.size=xs.length:=by rw[jp8];exact r.length.symm
 refine⟨"tuple",_,PyProof.Rows.slot_tuple_getitem.lookup,ht.typeIs,?_⟩;refine HT.jbR ht hs pl pu (by rw[hlen];exact hw) ?_ (by rw[hlen];exact hz)
 rw[hlen];refine⟨.ref s.heap.objs.size,_,I.laid (t':=s.toks) (o:=.tup (jjS xs lo hi)) (fun b ob q=>jqy _ q) (jqD _) ?_,rfl,q _ (I.hok.fresh (jqD _))⟩;exact⟨jqG (jb9 xs lo hi) hz,_,(r.drop (HT.sIx xs.length 0 lo)).take (HT.sIx xs.length xs.length hi - HT.sIx xs.length 0 lo),IsTup.new _ _⟩
noncomputable def jpJ (K:PySem.W.Frag):R2:=fun x y H Q=>∃a b ns ms,x=.ref a/\y=.ref b/\SqT K H a (ns.map V.int)/\SqT K H b (ms.map V.int)/\Q (.bl (HT.lexLt ns ms)) H
theorem jmR (hu:X.A.units < cLine):OpR X (compareOp .Lt) (jpJ X.K):=by
 intro pins s σ H x y v u Q I rx ry h;obtain⟨a,b,ns,ms,rfl,rfl,ha,hb,q⟩:=h;cases rx;cases ry;obtain⟨its,r1,p1,_⟩:=I.tuple ha;obtain⟨its2,r2,p2,_⟩:=I.tuple hb;have i1:IntsAre its.toArray.toList ns:=jcM r1;have i2:IntsAre its2.toArray.toList ms:=jcM r2;exact HT.jfy p1 p2 i1 i2 hu ⟨.bl (HT.lexLt ns ms),H,I,rfl,q⟩
noncomputable def jot (K:PySem.W.Frag):R2:=fun x y H Q=>∃a b xs ys,x=.ref a/\y=.ref b/\SqT K H a xs/\SqT K H b ys/\xs≠[]/\xs.length + ys.length<=sizeLine /\
 (ys=[]->Q (.ref a) H)/\(ys≠[]->∀p,H p=none->Q (.ref p) (upd H p (.tup (xs++ys))))
theorem Vals.nil_iff {xs:List V}{us:List Value}(r:Vals xs us):us=[]↔xs=[]:=by
 cases r with
 |nil=>simp
 |cons _ _=>simp
theorem jkz:OpR X (binaryOp .Add) (jot X.K):=by
 intro pins s σ H x y v u Q I rx ry h;obtain⟨a,b,xs,ys,rfl,rfl,ha,hb,hx,hz,q1,q2⟩:=h;cases rx;cases ry;obtain⟨its,r1,p1,_⟩:=I.tuple ha;obtain⟨its2,r2,p2,_⟩:=I.tuple hb;refine HT.jkv p1 p2 (fun z=>hx (r1.nil_iff.mp z)) (fun z=>⟨.ref a,H,I,rfl,q1 (r2.nil_iff.mp z)⟩) (fun z=>?_) (by rw[<-r1.length,<-r2.length];exact hz)
 refine⟨.ref s.heap.objs.size,_,I.laid (t':=s.toks) (o:=.tup (xs++ys)) (fun b ob q=>jqy _ q) (jqD _) ?_,rfl,q2 (fun w=>z (r2.nil_iff.mpr w)) _ (I.hok.fresh (jqD _))⟩;exact⟨by rw[jqi];exact hz,_,r1.append r2,IsTup.new _ _⟩
end
end L2
namespace L2
open PySem PySem.Spec PyProof.Rows
noncomputable def ixN (n:Nat)(i:Int):Option Nat:=if 0<=i then (if i < n then some i.toNat else none)else if -(n:Int)<=i then some (i + n).toNat else none
noncomputable def atI {α:Type}(xs:List α)(i:Int):Option α:=(ixN xs.length i).bind fun j=>xs[j]?
theorem jkA {n:Nat}{i:Int}{j:Nat}(h:ixN n i=some j):seqIndex? i n=some j/\j < n/\-(n:Int)<=i/\i < n:=by
 unfold ixN at h;by_cases h0:0<=i
 ·rw[if_pos h0]at h;by_cases h1:i < n
  ·rw[if_pos h1]at h;have e:i.toNat=j:=Option.some.inj h;exact⟨by rw[seqIndex_of h0 h1,e],by omega,by omega,h1⟩
  ·rw[if_neg h1]at h;cases h
 ·rw[if_neg h0]at h;by_cases h1:-(n:Int)<=i
  ·rw[if_pos h1]at h;have e:(i + n).toNat=j:=Option.some.inj h;exact⟨by rw[seqIndex_neg (by omega) h1,e],by omega,h1,by omega⟩
  ·rw[if_neg h1]at h;cases h
theorem jef {α:Type}{xs:List α}{i:Int}{v:α}(h:atI xs i=some v):∃j,seqIndex? i xs.length=some j/\xs[j]?=some v/\j < xs.length/\-(xs.length:Int)<=i/\i < xs.length:=by
 unfold atI at h;cases e:ixN xs.length i with
 |none=>rw[e]at h;cases h
 |some j=>
  rw[e]at h;obtain⟨h1,h2,h3,h4⟩:=jkA e;exact⟨j,h1,h,h2,h3,h4⟩
noncomputable def jgw (b:Expr):Prop:=∀o i,subscripted b false o i=operate [o,i] (getItem o i)
noncomputable def IxR (X:Cx)(r:R2):Prop:=
 ∀(value slice:Expr) (pins:List (Addr×Obj)) (s:Shared) (σ:St) (H:Hp) (x y:V) (v u:Value) (Q:VK),Inv X pins σ H s->RelV x v->RelV y u->r x y H Q ->
  subscripted slice false v u=operate [v,u] (getItem v u)->wpAny (model X.prog X.w) X.A (subscriptTail value slice v u) (EP X pins σ Q) X.xe s
noncomputable def MtR (X:Cx)(id:String)(r:V->List V->Hp->VK->Prop):Prop:=
 ∀(pins:List (Addr×Obj)) (s:Shared) (σ:St) (H:Hp) (x:V) (xs:List V) (v:Value) (us:List Value) (Q:VK),Inv X pins σ H s->RelV x v->Vals xs us->r x xs H Q ->
  wpAny (model X.prog X.w) X.A (call (.builtin id) (v::us)) (EP X pins σ Q) X.xe s
section
variable {X:Cx}{a b:Expr}{ta tb:TE}{pos:Pos}
theorem IxR.or {r r':R2}(h:IxR X r)(h':IxR X r'):IxR X (fun x y H Q=>r x y H Q\/r' x y H Q):=by
 intro value slice pins s σ H x y v u Q I rx ry q hs;rcases q with q | q
 ·exact h value slice pins s σ H x y v u Q I rx ry q hs
 ·exact h' value slice pins s σ H x y v u Q I rx ry q hs
theorem jou {r:R2}(hr:IxR X r)(ha:PE X a ta)(hb:PE X b tb)(hs:jgw b):PE X (.Subscript a b pos) (tOp r ta tb):=by
 intro pins s σ H Q I h;exact Subscript_ (joi ha hb I h fun v u s2 x y H2 I2 rx ry q=>hr a b pins s2 σ H2 x y v u Q I2 rx ry q (hs _ _))
noncomputable def jpj (K:PySem.W.Frag):R2:=fun x y H Q=>∃p xs i v,x=.ref p/\y=.int i/\SqL K H p xs/\atI xs i=some v/\Q v H
noncomputable def jpk (K:PySem.W.Frag):R2:=fun x y H Q=>∃p xs i v,x=.ref p/\y=.int i/\SqT K H p xs/\atI xs i=some v/\Q v H
noncomputable def jpl:R2:=fun x y H Q=>∃z i c,x=.str z/\y=.int i/\z.length<=sizeLine/\atI z.cps.toList i=some c/\Q (.str ⟨#[c]⟩) H
theorem ix_list:IxR X (jpj X.K):=by
 intro value slice pins s σ H x y v u Q I rx ry h hs;obtain⟨p,xs,i,z,rfl,rfl,hq,he,q⟩:=h;cases rx;obtain⟨t,rfl⟩:=ry;obtain⟨its,r,pl,hz⟩:=I.list hq;obtain⟨j,h1,h2,h3,h4,h5⟩:=jef he;obtain⟨w,ew,rw'⟩:=r.get h2;have hl:=r.length;have hn:=jcJ;have fin:EP X pins σ Q w s:=⟨z,H,I,rw',q⟩;by_cases h0:0<=i
 ·have hj:i.toNat=j:=by
   rw[seqIndex_of h0 h5]at h1;exact Option.some.inj h1
  exact item_listR pl.isList h0 (by omega) (by rw[hj];simpa using ew) fin hs
 ·have hj:(i + (its.toArray.size:Int)).toNat=j:=by
   rw[seqIndex_neg (by omega) h4]at h1
   rw[jp8,<-hl];exact Option.some.inj h1
  exact subscriptTail_builtinR (x:=w) pl.isList.typeIs slot_list_getitem.lookup
   (wpAny_getItem_list_neg (Q:=fun r s'=>r=w/\EP X pins σ Q r s') pl.isList (by omega) (by rw[jp8] <;> omega) (by omega) (by rw[hj];simpa using ew) ⟨rfl,fin⟩) hs
theorem ix_tup:IxR X (jpk X.K):=by
 intro value slice pins s σ H x y v u Q I rx ry h hs;obtain⟨p,xs,i,z,rfl,rfl,hq,he,q⟩:=h;cases rx;obtain⟨t,rfl⟩:=ry;obtain⟨its,r,pl,hz⟩:=I.tuple hq;obtain⟨j,h1,h2,h3,h4,h5⟩:=jef he;obtain⟨w,ew,rw'⟩:=r.get h2;have hl:=r.length;have hn:=jcJ;have fin:EP X pins σ Q w s:=⟨z,H,I,rw',q⟩;exact subscriptTail_builtinR (x:=w) pl.typeIs slot_tuple_getitem.lookup
  (getItem_tuple (j:=j) (Q:=fun r s'=>r=w/\EP X pins σ Q r s') pl (by omega) (by omega) (by rw[jp8,<-hl];exact h1) (by simpa using ew) ⟨rfl,fin⟩) hs
theorem jmS:IxR X jpl:=by
 intro value slice pins s σ H x y v u Q I rx ry h hs;obtain⟨z,i,c,rfl,rfl,hz,he,q⟩:=h;obtain⟨t,rfl⟩:=rx;obtain⟨t',rfl⟩:=ry;obtain⟨j,h1,h2,h3,h4,h5⟩:=jef he;have hl:z.cps.toList.length=z.length:=by simp[Str.length]
 rw[hl]at h1 h4 h5;have hn:=jcJ;exact tail_any (typeIs_str s z t) slot_str_getitem.lookup (getItem_str (c:=c) (by
  have e1:decide (i < -(2 ^ 63:Int))=false:=decide_eq_false (by omega)
  have e2:decide (i>=2 ^ 63)=false:=decide_eq_false (by omega)
  rw[e1,e2,Bool.or_false]) (by rw[h1];simpa using h2) ⟨.str ⟨#[c]⟩,H,I.tok _,⟨_,rfl⟩,q⟩) hs
noncomputable def rIx (K:PySem.W.Frag):R2:=fun x y H Q=>jpj K x y H Q\/jpk K x y H Q\/jpl x y H Q
theorem jmT:IxR X (rIx X.K):=ix_list.or (ix_tup.or jmS)
theorem Inv.lst {pins:List (Addr×Obj)}{σ:St}{H:Hp}{s:Shared}{p:Addr}{xs:List V}(I:Inv X pins σ H s)(h:H p=some (.lst xs)) :
  ∃(its:List Value) (n:Nat),Vals xs its/\s.heap.get? p=some { cls:=.type "list",data:=.seq its.toArray n }/\xs.length<=sizeLine:=by
 obtain⟨z,its,n,r,e⟩:=I.hok p _ h;exact⟨its,n,r,e,z⟩
theorem jds (lo hi:Option Int)(n:Nat):(sliceBounds lo hi none n).1=((HT.sIx n 0 lo:Nat):Int)/\(sliceBounds lo hi none n).2.1=((HT.sIx n n hi:Nat):Int)/\(sliceBounds lo hi none n).2.2=1:=by
 refine⟨?_,?_,rfl⟩
 ·cases lo with
  |none=>simp[sliceBounds,HT.sIx]
  |some i=>
   simp only[sliceBounds,HT.sIx,Option.getD_none,show (1:Int) > 0 by decide,if_true]
   by_cases h:i < 0
   ·simp only[h,if_true] <;> omega
   ·simp only[h,if_false] <;> omega
 ·cases hi with
  |none=>simp[sliceBounds,HT.sIx]
  |some i=>
   simp only[sliceBounds,HT.sIx,Option.getD_none,show (1:Int) > 0 by decide,if_true]
   by_cases h:i < 0
   ·simp only[h,if_true] <;> omega
   ·simp only[h,if_false] <;> omega
theorem jc2 (its:List Value)(lo hi:Option Int):slicePick its.toArray lo hi none=((its.drop (HT.sIx its.length 0 lo)).take (HT.sIx its.length its.length hi - HT.sIx its.length 0 lo)).toArray:=by
 obtain⟨h1,h2,h3⟩:=jds lo hi its.toArray.size;unfold slicePick;rw[h1,h2,h3];simp only[sliceRange_one,pick_run,jp8] <;> rfl
noncomputable def jpK (K:PySem.W.Frag):V->Option Int->Option Int->Hp->VK->Prop:=fun x lo hi H Q=>∃a xs,x=.ref a/\SqL K H a xs/\∀p,H p=none->Q (.ref p) (upd H p (.lst (jjS xs lo hi)))
theorem jkB:SlR X (jpK X.K):=by
 intro pins s σ H x v vl vu lo hi sl Q I rx hs pl pu h;obtain⟨a,xs,rfl,hx,q⟩:=h;cases rx;obtain⟨its,r,ht,hz⟩:=I.list hx;have hlen:=r.length;refine⟨"list",_,slot_list_getitem.lookup,ht.isList.typeIs,?_⟩;refine wpAny_getItem_list_slice ht.isList hs pl pu .none (by simp) ?_ (by rw[jp8] <;> omega)
 rw[jc2,<-hlen];refine⟨.ref s.heap.objs.size,_,I.laid (t':=s.toks) (o:=.lst (jjS xs lo hi)) (fun b ob q=>jqy _ q) (jqD _) ?_,rfl,q _ (I.hok.fresh (jqD _))⟩;exact⟨jqG (jb9 xs lo hi) hz,_,0,(r.drop (HT.sIx xs.length 0 lo)).take (HT.sIx xs.length xs.length hi - HT.sIx xs.length 0 lo),jqA _ rfl⟩
theorem call_len_seq:CallR X (.builtin "len") (fun xs H Q=>∃p ys,xs=[.ref p]/\(SqL X.K H p ys\/SqT X.K H p ys)/\Q (.int ys.length) H):=by
 intro pins s σ H xs us Q I r h;obtain⟨p,ys,rfl,hq,q⟩:=h;obtain⟨u,rfl,rx⟩:=jbQ r;cases rx;have hn:=jcJ;rcases hq with hq | hq
 ·obtain⟨its,r',pl,hz⟩:=I.list hq;have hlen:=r'.length;exact Calls.call_len_list pl.isList (by simp only[jp8] <;> omega) ⟨.int ys.length,H,I.tok _,⟨s.toks + 1,by rw[jp8,hlen]⟩,q⟩
 ·obtain⟨its,r',pl,hz⟩:=I.tuple hq;have hlen:=r'.length;exact len_tuple pl (by simp only[jp8] <;> omega) ⟨.int ys.length,H,I.tok _,⟨s.toks + 1,by rw[jp8,hlen]⟩,q⟩
theorem jdt:CallR X (.builtin "len") (fun xs H Q=>∃z,xs=[.str z]/\z.length<=sizeLine/\Q (.int z.length) H):=by
 intro pins s σ H xs us Q I r h;obtain⟨z,rfl,hz,q⟩:=h;obtain⟨u,rfl,t,rfl⟩:=jbQ r;have hn:=jcJ;exact len_str (by omega) ⟨.int z.length,H,I.tok _,⟨_,rfl⟩,q⟩
theorem CallR.or {f:Value}{r r':List V->Hp->VK->Prop}(h:CallR X f r)(h':CallR X f r'):CallR X f (fun xs H Q=>r xs H Q\/r' xs H Q):=by
 intro pins s σ H xs us Q I rs q;rcases q with q | q
 ·exact h pins s σ H xs us Q I rs q
 ·exact h' pins s σ H xs us Q I rs q
theorem jc3:CallR X (.type "tuple") (fun xs H Q=>∃p ys,xs=[.ref p]/\((SqL X.K H p ys/\∀l,H l=none->Q (.ref l) (upd H l (.tup ys)))\/(SqT X.K H p ys/\Q (.ref p) H))):=by
 intro pins s σ H xs us Q I r h;obtain⟨p,ys,rfl,h⟩:=h;obtain⟨u,rfl,rx⟩:=jbQ r;cases rx;rcases h with ⟨hq,q⟩ | ⟨hq,q⟩
 ·obtain⟨its,r',pl,hz⟩:=I.list hq;have hlen:=r'.length;refine call_tuple_list pl.isList (fun h' kp=>?_) (by simp only[jp8] <;> omega)
  have I1:Inv X pins σ H { s with heap:=h' }:=I.kept (t':=s.toks) kp
  have I2:Inv X pins σ (upd H h'.objs.size (.tup ys)) { s with heap:=h'.push { cls:=.type "tuple",data:=.seq its.toArray } }:=
   I1.laid (t':=s.toks) (fun b o e=>jqy _ e) (jqD _) (show ObjOk X.prog X.w _ _ _ (.tup ys)from⟨hz,its,r',IsTup.new _ _⟩)
  exact⟨.ref h'.objs.size,_,I2,rfl,q _ (I1.hok.fresh (jqD _))⟩
 ·obtain⟨its,r',pl,hz⟩:=I.tuple hq;exact call_tuple_same pl ⟨.ref p,H,I,rfl,q⟩
noncomputable def tyV (K:PySem.W.Frag)(T:String)(x:V)(H:Hp):Prop:=match x with
 |.str _=>T="str"
 |.int _=>T="int"
 |.ref p=>(T="list"/\∃xs,SqL K H p xs)\/(T="tuple"/\∃o,K.lookup p=some o/\o.cls=.type "tuple"/\o.dict=none) \/
   (T="dict"/\((∃kvs,H p=some (.dK kvs))\/∃kvs,H p=some (.dT kvs)))\/(T="set"/\∃S n,H p=some (.set S n))
 |_=>False
theorem jjT {pins:List (Addr×Obj)}{σ:St}{H:Hp}{s:Shared}{T:String}{x:V}{v:Value}(I:Inv X pins σ H s)(r:RelV x v)(ty:tyV X.K T x H) :
  s.TypeIs v T/\∀a,v=.ref a->∃ob,s.heap.get? a=some ob/\ob.dict=none:=by
 cases x with
 |str z=>
  obtain⟨t,rfl⟩:=r;cases (show T="str" from ty);exact⟨typeIs_str s z t,fun _ e=>nomatch e⟩
 |int i=>
  obtain⟨t,rfl⟩:=r;cases (show T="int" from ty);exact⟨typeIs_int s i t,fun _ e=>nomatch e⟩
 |ref p=>
  cases r;rcases ty with ⟨rfl,xs,hq⟩ | ⟨rfl,o,hk,hc,hd⟩ | ⟨rfl,hk⟩ | ⟨rfl,S,n,hk⟩
  ·obtain⟨its,_,pl,_⟩:=I.list hq;refine⟨pl.isList.typeIs,fun a e=>?_⟩;cases e;obtain⟨o,n,e,c,hd,_⟩:=pl;exact⟨o,e,hd⟩
  ·refine⟨⟨o,I.kIn p o hk,hc⟩,fun a e=>?_⟩;cases e;exact⟨o,I.kIn _ o hk,hd⟩
  ·have z:∃o,s.heap.get? p=some o/\o.ExactDict:=by
    rcases hk with ⟨kvs,hk⟩ | ⟨kvs,hk⟩
    ·obtain⟨_,_,_,_,o,_,_,e,ex,_⟩:=I.hok p _ hk;exact⟨o,e,ex⟩
    ·obtain⟨_,_,_,_,o,_,_,e,ex,_⟩:=I.hok p _ hk;exact⟨o,e,ex⟩
   obtain⟨o,e,ex⟩:=z;refine⟨⟨o,e,ex.1⟩,fun a e2=>?_⟩;cases e2;exact⟨o,e,ex.2.1⟩
  ·obtain⟨o,_,_,_,e,ex,_⟩:=I.hok p _ hk;refine⟨⟨o,e,ex.1⟩,fun a e2=>?_⟩;cases e2;exact⟨o,e,ex.2.1⟩
 |_=>exact False.elim ty
noncomputable def jpL (K:PySem.W.Frag)(T:String)(r:V->List V->Hp->VK->Prop)(to:TE):TE:=fun σ H Q=>to σ H fun x H1=>tyV K T x H1/\r x [] H1 Q
noncomputable def tBM (K:PySem.W.Frag)(T:String)(r:V->List V->Hp->VK->Prop)(to:TE)(t:TA):TE:=fun σ H Q=>to σ H fun x H1=>tyV K T x H1/\t σ H1 fun xs H2=>r x xs H2 Q
variable {o e:Expr}{es:List Expr}{to:TE}{t:TA}{name:Str}{apos cpos:Pos}{T id:String}{r:V->List V->Hp->VK->Prop}
theorem jgx (pa:PlainAttrs T)(slot:Slot T name id)(hty:typeOf (.builtin id)=pure (.type "method_descriptor"))(hm:MtR X id r)(ho:PE X o to)
  (hbase:attributeBase o name X.env (eval o X.env)=eval o X.env:=by rfl) (hline:(apos.endLine == cpos.line)=true:=by rfl):PE X (.Call (.Attribute o name apos) [] [] cpos) (jpL X.K T r to):=by
 intro pins s σ H Q I h;refine wpAny_Call_method0_late hbase hline (thn (ho pins s σ H _ I h) fun v s1 hzz=>?_);obtain⟨x,H1,I1,r1,ty,q1⟩:=hzz;obtain⟨h1,h2⟩:=jjT I1 r1 ty;exact⟨T,id,pa,slot,hty,h1,h2,Calls.callWith_builtin rfl (PySem.evalArgs_none (hm pins s1 σ H1 x [] v [] Q I1 r1 .nil q1))⟩
theorem jmU (pa:PlainAttrs T)(slot:Slot T name id)(hty:typeOf (.builtin id)=pure (.type "method_descriptor"))(hm:MtR X id r)(ho:PE X o to)(ha:PA X (e::es) t)
  (hbase:attributeBase o name X.env (eval o X.env)=eval o X.env:=by rfl)
  (hfew:((backTo cpos (starEach (e::es) X.env)).all (fun x=>!x.1) && (backToKw cpos (keywordEach [] X.env)).all (fun x=>x.1.isSome)
   && decide ((e::es).length + ([]:List Keyword).length + (if ([]:List Keyword).isEmpty then 0 else 1) < 30))=true:=by rfl)
  (hline:(apos.endLine == cpos.line)=true:=by rfl) (hs:starEach (e::es) X.env=(false,eval e X.env)::starEach es X.env:=by rfl) (hplain:(backTo cpos (starEach es X.env)).any (·.1)=false:=by rfl) :
  PE X (.Call (.Attribute o name apos) (e::es) [] cpos) (tBM X.K T r to t):=by
 intro pins s σ H Q I h;refine wpAny_Call_method_late hbase hfew hline rfl (thn (ho pins s σ H _ I h) fun v s1 hzz=>?_);obtain⟨x,H1,I1,r1,ty,q1⟩:=hzz;obtain⟨h1,h2⟩:=jjT I1 r1 ty;refine⟨T,id,pa,slot,hty,h1,h2,?_⟩;have hA:=ha cpos pins s1 σ H1 _ I1 q1;rw[hs]at hA ⊢;refine Calls.callWith_builtin (by show (false || (backTo cpos (starEach es X.env)).any (·.1))=false;rw[hplain] <;> rfl) (Calls.evalArgs_plain ?_)
 exact thn hA fun us s2 ⟨vs,H2,I2,r2,q2⟩=>hm pins s2 σ H2 x vs v us Q I2 r1 r2 q2
end
end L2
namespace L2
open PySem PySem.Spec PyProof.Rows
noncomputable def MtM (X:Cx)(id:String)(r:V->List V->Hp->VK->Prop):Prop:=
 ∀(pins:List (Addr×Obj)) (s:Shared) (σ:St) (H:Hp) (x:V) (xs:List V) (v:Value) (us:List Value) (Q:VK),Inv X pins σ H s->RelV x v->Vals xs us->r x xs H Q ->
  wpAny (model X.prog X.w) X.A (call (.builtin id) (v::us)) (EP X pins σ Q) X.xe s
theorem Vals.one {x:V}{us:List Value}(h:Vals [x] us):∃u,us=[u]/\RelV x u:=by
 cases h with
 |cons r h=>cases h;exact⟨_,rfl,r⟩
theorem Vals.zero:∀{us:List Value},Vals [] us->us=[]
 |_,.nil=>rfl
theorem Vals.dropLast {xs:List V}{us:List Value}(h:Vals xs us):Vals xs.dropLast us.dropLast:=by
 induction h with
 |nil=>exact .nil
 |cons r t ih=>
  cases t with
  |nil=>exact .nil
  |cons q t'=>exact .cons r ih
theorem Vals.reverse {xs:List V}{us:List Value}(h:Vals xs us):Vals xs.reverse us.reverse:=by
 induction h with
 |nil=>exact .nil
 |cons r t ih=>rw[List.reverse_cons,List.reverse_cons];exact Vals.append ih (.cons r .nil)
theorem Vals.rep {xs:List V}{us:List Value}(h:Vals xs us):∀k:Nat,Vals (List.replicate k xs).flatten (List.replicate k us).flatten
 |0=>.nil
 |k + 1=>by
  rw[List.replicate_succ,List.replicate_succ,List.flatten_cons,List.flatten_cons];exact Vals.append h (Vals.rep h k)
theorem jfB {α:Type}(l:List α):l.eraseIdx (l.length - 1)=l.dropLast:=by
 induction l with
 |nil=>rfl
 |cons a r ih=>
  cases r with
  |nil=>rfl
  |cons b r=>
   have e:(a::b::r).length - 1=((b::r).length - 1) + 1:=by
    rfl
   rw[e,List.eraseIdx_cons_succ,ih];all_goals rfl
section
variable {X:Cx}{pins:List (Addr×Obj)}{σ:St}{H:Hp}{s:Shared}{l b:Addr}{xs ys zs:List V}
theorem Inv.lset {its its':List Value}{n:Nat}{f:Array Value->Array Value}{t':Nat}(I:Inv X pins σ H s)(hH:H l=some (.lst xs))
  (e:s.heap.get? l=some { cls:=.type "list",data:=.seq its.toArray n }) (hf:f its.toArray=its'.toArray) (hv:Vals ys its') (hz:ys.length<=sizeLine) :
  Inv X pins σ (upd H l (.lst ys)) { s with heap:=s.heap.update l (Obj.mapSeq f),toks:=t' }:=by
 have q:=PySem.IsL.update e f;rw[hf]at q;refine I.write (x:=l) (e:=l) (by rw[hH];exact trivial) (.inl rfl) (fun b' u hb hu=>(jqC s.heap (Obj.mapSeq f) (Ne.symm hb)).trans hu) ⟨_,q⟩ ?_
 exact⟨hz,its',_,hv,q⟩
theorem Inv.lnew {its:List Value}{t':Nat}(I:Inv X pins σ H s)(hv:Vals ys its)(hz:ys.length<=sizeLine) :
  Inv X pins σ (upd H s.heap.objs.size (.lst ys)) { s with heap:=s.heap.push { cls:=.type "list",data:=.seq its.toArray },toks:=t' }:=
 I.laid (fun _ _ q=>jqy _ q) (jqD _) ⟨hz,its,0,hv,jqA _ rfl⟩
theorem Inv.fresh (I:Inv X pins σ H s):H s.heap.objs.size=none:=I.hok.fresh (jqD _)
theorem Inv.lstM (I:Inv X pins σ H s)(hH:H l=some (.lst xs)):xs.length<=sizeLine/\∃(its:List Value) (n:Nat),Vals xs its/\xs.length=its.length/\s.heap.get? l=some { cls:=.type "list",data:=.seq its.toArray n }:=by
 obtain⟨z,its,n,r,e⟩:=I.hok l _ hH;exact⟨z,its,n,r,r.length,e⟩
end
section
variable {X:Cx}
noncomputable def jkC:V->List V->Hp->VK->Prop:=fun x vs H Q=>∃l xs y,x=.ref l/\vs=[y]/\H l=some (.lst xs)/\xs.length < sizeLine/\Q .non (upd H l (.lst (xs++[y])))
theorem jdu:MtM X "list.append" jkC:=by
 intro pins s σ H x vs v us Q I rx rv h;obtain⟨l,xs,y,rfl,rfl,hH,hz,q⟩:=h;cases rx;obtain⟨u,rfl,ru⟩:=rv.one;obtain⟨z,its,n,r,hl,e⟩:=I.lstM hH;refine call_meets F.slot_list_append ⟨_,e,rfl⟩ F.entry_list_append (F.args_list_append_2 _ _) (PySem.list_append l its.toArray n u (by rw[jp8];omega)) ⟨e,?_⟩
 refine⟨.non,_,I.lset (its':=its++[u]) hH e (by simp) (r.append (.cons ru .nil)) ?_,rfl,q⟩
 rw[jqi,List.length_singleton];omega
noncomputable def jpM:V->List V->Hp->VK->Prop:=fun x vs H Q=>∃l xs y,x=.ref l/\vs=[]/\H l=some (.lst xs)/\xs[xs.length - 1]?=some y/\Q y (upd H l (.lst xs.dropLast))
theorem jmV:MtM X "list.pop" jpM:=by
 intro pins s σ H x vs v us Q I rx rv h;obtain⟨l,xs,y,rfl,rfl,hH,hy,q⟩:=h;cases rx;have hus:=rv.zero;subst hus;obtain⟨z,its,n,r,hl,e⟩:=I.lstM hH;obtain⟨u,hu,ru⟩:=r.get hy;have hy':its.toArray[its.toArray.size - 1]?=some u:=by
  show its.toArray[its.length - 1]?=some u;rw[<-Array.getElem?_toList,<-hl];exact hu
 refine call_meets F.slot_list_pop ⟨_,e,rfl⟩ F.entry_list_pop (F.args_list_pop_1 _) (MeetsSeq.list_pop_last l its.toArray n u hy' (by rw[jp8];omega)) ⟨e,?_⟩
 refine⟨y,_,I.lset (its':=its.dropLast) hH e ?_ r.dropLast ?_,ru,q⟩
 ·show its.toArray.eraseIdxIfInBounds (its.toArray.size - 1)=its.dropLast.toArray;rw[jp8,List.eraseIdxIfInBounds_toArray,jfB]
 ·rw[List.length_dropLast];omega
noncomputable def jiD:V->List V->Hp->VK->Prop:=fun x vs H Q=>∃l xs,x=.ref l/\vs=[]/\H l=some (.lst xs)/\Q .non (upd H l (.lst xs.reverse))
theorem jfC:MtM X "list.reverse" jiD:=by
 intro pins s σ H x vs v us Q I rx rv h;obtain⟨l,xs,rfl,rfl,hH,q⟩:=h;cases rx;have hus:=rv.zero;subst hus;obtain⟨z,its,n,r,hl,e⟩:=I.lstM hH;refine call_meets F.slot_list_reverse ⟨_,e,rfl⟩ F.entry_list_reverse (F.args_list_reverse_1 _) (AutoSeq1.list_reverse_list_0 l its.toArray n (by rw[jp8];omega)) ⟨e,?_⟩
 refine⟨.non,_,I.lset (its':=its.reverse) hH e (by simp) r.reverse ?_,rfl,q⟩
 rw[List.length_reverse];omega
end
section
variable {prog:Program}{w:World}{A:Around}{E:Value->Shared->Prop}{s:Shared}
set_option maxRecDepth 100000 in
end
section
variable {X:Cx}
end
end L2
namespace Att
open PySem PySem.W PySem.Calls PyProof.Rows
theorem jca {P:Params}{h:Heap}:∀(ns:List Int) (vs:List Value),WellAll P h vs (ns.map WData.int)->IntsAre vs ns:=by
 intro ns;induction ns with
 |nil=>
  intro vs w;rw[List.map_nil]at w;cases w;exact .nil
 |cons n ns ih=>
  intro vs w;rw[jqb]at w;cases w with
  |cons a b=>
   cases a;exact .cons _ _ (ih _ b)
theorem jgy {l:OpenLaw}{n:Nat}(hn:l.most=some n){P:Params}{h:Heap}{args:List WData}{vals:List Value}
  (hpre:l.row.toRowW.claim.pre args=true) (hwl:WellAll P h vals args) :
  ∃a vs ns,vals=[Value.ref a]/\args=[WData.list (ns.map WData.int)]/\h.get? a=some { cls:=.type "list",data:=.seq vs.toArray }/\IntsAre vs ns/\ns.length<=n:=by
 have hsh:WShape.hasAll [] args [.list .int]=true:=(pre_splitW hpre).1;have hc:l.pre.holds [] { args:=args }=true:=(pre_splitW hpre).2;obtain⟨d,r,rfl,h1,h2⟩:=hasAllW_cons hsh;obtain rfl:=hasAllW_nil h2;obtain⟨xs,rfl,h3⟩:=hasW_list h1;obtain⟨ns,rfl⟩:=items_int h3;have hlen:ns.length<=n:=by
  unfold OpenLaw.pre at hc;have h4:(WTm.not (.lt (.lit (.int (n:Int))) (.len (.arg 0)))).holds [] { args:=[.list (ns.map .int)] }=true:=by
   have h4:=(holds_andW hc).1;rw[hn]at h4;exact h4
  have h5:=condW_of h4 (w_not (w_lt w_lit (w_len_list (w_arg rfl))));rw[jqd]at h5;refine Nat.le_of_not_lt fun q=>?_;have q':(n:Int) < ((ns.length:Nat):Int):=by omega
  first
   |(rw[decide_eq_true q']at h5;exact absurd h5 (by decide))
   |(simp at h5;omega)
 cases hwl with
 |cons w1 w2=>
  cases w2;cases w1 with
  |list ho hall=>exact⟨_,_,ns,rfl,rfl,ho,jca ns _ hall,hlen⟩
theorem jgz (l:OpenLaw)(args:List WData):l.row.toRowW.claim.post args (.bool true) args=true:=
 postW_of (r:=l.row.toRowW) (X:=(true == true))
  (show WShape.has [] (.bool true) .bool=true by first | rfl | decide | simp[WShape.has,WShape.arms,WShape.armsAll])
  (show (WTm.eq .res (.lit (.bool true))).value [] { args:=args,res:=some (.bool true),after:=args }=some (.bool (true == true))from w_eq_bool (w_res rfl) w_lit) rfl
theorem jeg {l:OpenLaw}{n:Nat}{q:Program}{loose:List Str}{XP:(Str->Option Value)->Heap->Prop}{YP:World->Heap->Prop}{d:DefRec}
  (hn:l.most=some n) (hdf:d.params.defaults=[])
  (call:∀(w:World) (s₀ s₁:Shared) (mg mb:Str->Option Value) (fa:Addr) (o:Obj) (pm cd doc:Value) (a:Addr) (vs:List Value) (ns:List Int),
   Ground q loose [] XP w s₀ mg mb s₁.heap->YP w s₁.heap ->
   s₁.heap.get? fa=some o->o.data=.func (docDef d.name d.params d.body d.scope pm cd doc)->s₁.heap.CodeRec cd d.name->mg d.name=some (.ref fa) ->
   s₁.heap.get? a=some { cls:=.type "list",data:=.seq vs.toArray }->IntsAre vs ns->ns.length<=n->s₁.gens=#[] ->
   codeAny (model l.prog w) callerA (.call (.ref fa) ⟨[.ref a],[]⟩) (fun r s'=>r=.ok (.ret (.bool true))/\OldK s₁.heap s'.heap/\s'.os=s₁.os/\AllBare s'.gens) s₁) :
  WalkO q loose XP YP l.row.toRowW d [] (fun f vs=>PySem.call f vs):=by
 intro w s₀ s₁ mg mb G Y fa o pm cd doc dV kV ho hd hcd hD hmg hg args vals as hpre hlay hrd hwl hlo;obtain rfl:dV=.none:=Dflts.none hD hdf;obtain rfl:kV=.none:=Dflts.noKw hD;obtain⟨a,vs,ns,rfl,rfl,hobj,hints,hlen⟩:=jgy hn hpre hwl;refine enter_call (codeAny_mono (call w s₀ s₁ mg mb fa o pm cd doc a vs ns G Y ho (fd_plain hd) hcd hmg hobj hints hlen hg) fun r s' hq=>?_);obtain⟨rfl,h2,h3,h4⟩:=hq;exact⟨.inl ⟨.bool true,.bool true,[],rfl,fun _=>rfl,.bool true,jgz l _,fun _=>⟨List.Pairwise.nil,fun _ hm=>(nomatch hm)⟩⟩,h2,h3,h4⟩
section
variable {prog:Program}{w:World}{A:Around}{E:Value->Shared->Prop}{s:Shared}{K:Frag}
end
end Att
namespace L2
open PySem PySem.Spec PyProof.Rows
theorem jgA {vs:List Value}{ns:List Int}(h:IntsAre vs ns):Vals (ns.map V.int) vs:=by
 induction h with
 |nil=>exact .nil
 |cons n t h ih=>exact .cons ⟨t,rfl⟩ ih
noncomputable def jov (H:Hp):Prop:=∀b,H b=none\/∃o xs,H b=some (.frz o (.lst xs))
theorem jiE {P:Program}{w:World}{K:PySem.W.Frag}{mg mb:Str->Option Value}{CX:CXT}{k:Nat}{fa a:Addr}{fd:FuncData}{x:Str}{sp:Sp}{s₁:Shared}{vs:List Value}{ns:List Int}
  (KX:K.In s₁.heap) (hns:s₁.heap.Ns mainGlobals mg) (hb:s₁.heap.Ns builtinsNs mb) (hbb:∀x:Str,x≠"__name__"->mb x=bootBuiltins x) (hlim:s₁.heap.NoLimit) (hg:s₁.gens=#[])
  (ha:s₁.heap.get? a=some { cls:=.type "list",data:=.seq vs.toArray }) (hi:IntsAre vs ns) (hl:ns.length<=sizeLine) (hr:Room k callerA)
  (F:∀base:Heap,K.In base->base.Ns mainGlobals mg->FnOk P w K mg base CX k fa fd [x] sp) (hbind:∀(s:Shared) (u:Value),BindsTo s fd ⟨[u],[]⟩ [(x,u)])
  (hsp:∀H:Hp,jov H->SqL K H a (ns.map V.int)->sp [.ref a] H (fun v _=>v=.bl true) fun _ _ _=>False)
  (hCX:∀H e s',CX [] H s₁ (fun _ _ _=>False) e s'->False) :
  codeAny (model P w) callerA (.call (.ref fa) ⟨[.ref a],[]⟩) (fun r s'=>r=.ok (.ret (.bool true))/\OldK s₁.heap s'.heap/\s'.os=s₁.os/\AllBare s'.gens) s₁:=by
 have rv:=jgA hi;have lenV:=hi.length;have core:∀H:Hp,jov H->SqL K H a (ns.map V.int)->HOk P w H s₁.heap->(∀b,H b≠none->b=a)->(H a≠none->K.lookup a=none) ->
   codeAny (model P w) callerA (.call (.ref fa) ⟨[.ref a],[]⟩) (fun r s'=>r=.ok (.ret (.bool true))/\OldK s₁.heap s'.heap/\s'.os=s₁.os/\AllBare s'.gens) s₁:=by
  intro H hO hS hok hA hK;have base_of:∀{b:Addr}{o:Obj},s₁.heap.get? b=some o->H b=none->(jip s₁.heap H).get? b=some o:=fun e n=>jiq e n;have noA:∀{b:Addr}{o:Obj}{es:Array DictEntry}{ep:Nat},s₁.heap.get? b=some o->o.data=.dict es ep->H b=none:=fun {b o es ep} e d=>by
   cases q:H b with
   |none=>rfl
   |some u=>
    have e':b=a:=hA b (by rw[q];simp)
    subst e';rw[ha]at e;cases e;have d':Data.seq vs.toArray _=Data.dict es ep:=d;cases d'
  have nsK:∀{b:Addr}{m:Str->Option Value},s₁.heap.Ns b m->(jip s₁.heap H).Ns b m:=fun {b m} ⟨o,es,ep,e,d,r⟩=>⟨o,es,ep,base_of e (noA e d),d,r⟩;have hKb:K.In (jip s₁.heap H):=fun b o e=>base_of (KX b o e) (by
   cases q:H b with
   |none=>rfl
   |some u=>
    have e':b=a:=hA b (by rw[q];simp)
    subst e';rw[hK (by rw[q];simp)]at e;cases e)
  have hM:Mod K mg (jip s₁.heap H):=⟨hKb,nsK hns,⟨mb,nsK hb,hbb⟩,let ⟨mc,h1,h2⟩:=hlim;⟨mc,nsK h1,h2⟩⟩;have e0:Env0 P w K mg (jip s₁.heap H) callerA [] s₁ H:=⟨rfl,hM,fun b o e=>jkj e,Nat.le_of_eq (jgl _ _),trivial,fun b hb=>absurd (show b∈([]:List Addr)from hb) (by simp),hok,.of_eq hg⟩
  refine codeAny_mono ((F _ hKb (nsK hns)).run callerA [] s₁ H ⟨[.ref a],[]⟩ [.ref a] [.ref a] _ _ hr e0 (hbind s₁ (.ref a)) (.cons rfl .nil) (hsp H hO hS)) fun r s' h=>?_;cases r with
  |error e=>exact(hCX H e s' h).elim
  |ok fl=>
   cases fl with
   |next=>exact False.elim h
   |brk=>exact False.elim h
   |cont=>exact False.elim h
   |ret u=>
    obtain⟨v,H',os,bare,un,hok',r',q⟩:=h;have q':v=.bl true:=q;subst q';obtain rfl:u=Value.bool true:=r';refine⟨rfl,OldK.of_keep fun b o e=>?_,os,bare⟩;cases q:H b with
    |none=>exact un.keep b o e q (by intro z;exact absurd (show b∈([]:List Addr)from z) (by simp)) (by simp)
    |some u=>
     rcases hO b with z | ⟨ob,xs,z⟩
     ·rw[q]at z;cases z
     ·have z2:=un.frzs b ob _ z;obtain⟨e1,_⟩:=hok b _ z;obtain⟨e2,_⟩:=hok' b _ z2;rw[e]at e1;cases e1;exact e2
 cases hk:K.lookup a with
 |some o=>
  have e:=KX a o hk;rw[ha]at e;cases e;refine core (fun _=>none) (fun _=>.inl rfl) (.inr ⟨_,vs.toArray,_,hk,rfl,rfl,rfl,by rw[jp8,lenV];exact hl,by simpa using rv⟩) (fun b u z=>by have z':(none:Option HO)=some u:=z;cases z') (fun b z=>absurd rfl z) fun z=>absurd rfl z
 |none=>
  refine core (fun b=>if b=a then some (.frz { cls:=.type "list",data:=.seq vs.toArray } (.lst (ns.map V.int)))else none) (fun b=>?_) (.inl (.inr ⟨{ cls:=.type "list",data:=.seq vs.toArray },if_pos rfl⟩)) (fun b u z=>?_) (fun b z=>?_) fun _=>hk
  ·by_cases hb:b=a
   ·exact .inr ⟨_,_,if_pos hb⟩
   ·exact .inl (if_neg hb)
  ·by_cases hb:b=a
   ·have z':=(if_pos hb).symm.trans z;cases z';subst hb;exact⟨ha,by rw[jqd];exact hl,vs,_,rv,ha⟩
   ·have z':=(if_neg hb).symm.trans z;cases z'
  ·by_cases hb:b=a
   ·exact hb
   ·exact absurd (if_neg hb) z
end L2
namespace L2
open PySem PySem.Spec PyProof.Rows
theorem jkD {l:PySem.W.OpenLaw}{n k:Nat}{q:Program}{loose:List Str}{XP:(Str->Option Value)->Heap->Prop}{YP:World->Heap->Prop}{d:DefRec}{K:Params->PySem.W.Frag}{CX:World->CXT}{sp:World->Sp}{x:Str}
  (hn:l.most=some n) (hn2:n<=sizeLine) (hdf:d.params.defaults=[]) (hr:Room k callerA)
  (hY:∀(w:World) (h:Heap),YP w h->(K w.params).In h)
  (F:∀(w:World) (mg:Str->Option Value) (fa:Addr) (h:Heap),(K w.params).In h->h.Ns mainGlobals mg->mg d.name=some (.ref fa) ->
   ∃fd:FuncData,(∀(s:Shared) (u:Value),BindsTo s fd ⟨[u],[]⟩ [(x,u)]) /\
    ∀base:Heap,(K w.params).In base->base.Ns mainGlobals mg->FnOk l.prog w (K w.params) mg base (CX w) k fa fd [x] (sp w))
  (hsp:∀(w:World) (H:Hp) (a:Addr) (ns:List Int),ns.length<=n->jov H->SqL (K w.params) H a (ns.map V.int)->sp w [.ref a] H (fun v _=>v=.bl true) fun _ _ _=>False)
  (hCX:∀(w:World) (H:Hp) (s:Shared) (e:Value) (s':Shared),CX w [] H s (fun _ _ _=>False) e s'->False) :
  PySem.W.WalkO q loose XP YP l.row.toRowW d [] (fun f vs=>PySem.call f vs):=by
 refine Att.jeg hn hdf fun w s₀ s₁ mg mb fa o pm cd doc a vs ns G Y ho hd hcd hmg hobj hints hlen hg=>?_;have KX:=hY w _ Y;obtain⟨fd,hb,hF⟩:=F w mg fa _ KX G.T.g hmg;exact jiE KX G.T.g G.T.b G.T.builtins G.T.nolimit hg hobj hints (jqG hlen hn2) hr hF hb (fun H hO hS=>hsp w H a ns hlen hO hS) fun H e s'=>hCX w H s₁ e s'
end L2
namespace L2
open PySem PySem.Spec PyProof.Rows
noncomputable def defArgs (s:Stmt):Arguments:=match s with
 |.FunctionDef _ a _ _ _ _ _ _ _ _=>a
 |_=>{ posonlyargs:=[],args:=[],vararg:=none,kwonlyargs:=[],kw_defaults:=[],kwarg:=none,defaults:=[] }
noncomputable def defBody (s:Stmt):List Stmt:=match s with
 |.FunctionDef _ _ b _ _ _ _ _ _ _=>b
 |_=>[]
noncomputable def defScope (s:Stmt):Scope:=match s with
 |.FunctionDef _ _ _ _ _ _ sc _ _ _=>sc
 |_=>{ kind:=.function,names:=[],isGenerator:=false,isCoroutine:=false }
structure Fun (K:PySem.W.Frag)(x qual:Str)(st:Stmt)(f:Addr)(fd:FuncData):Prop where
 ex:∃(oc:Value) (od:Option Addr) (kV doc pm:Value) (an:Option Addr) (cdv ct:Value) (osl:Array (Option Value)),
  fd=PySem.W.fnOf x qual (defArgs st) (defBody st) (defScope st) .none kV doc pm an cdv ct/\K.lookup f=some ⟨oc,od,.func fd,osl⟩/\PySem.W.codeIn K cdv qual=true
 kp:PySem.W.keepIn K (.ref f)=true
section
variable {P:Program}{w:World}{K:PySem.W.Frag}{mg:Str->Option Value}{base:Heap}
theorem Fun.binds {x qual:Str}{st:Stmt}{f:Addr}{fd:FuncData}{ps:List Str}(F:Fun K x qual st f fd)
  (h:∀(kV doc pm:Value) (an:Option Addr) (cdv ct:Value) (us:List Value),us.length=ps.length->bindArgs (PySem.W.fnOf x qual (defArgs st) (defBody st) (defScope st) .none kV doc pm an cdv ct) ⟨us,[]⟩=pure (ps.zip us)):Binds K fd ps []:=by
 obtain⟨oc,od,kV,doc,pm,an,cdv,ct,osl,rfl,lk,hcd⟩:=F.ex;exact .all (h kV doc pm an cdv ct)
theorem jmW {x qual:Str}{st:Stmt}{f:Addr}{oc:Value}{od an:Option Addr}{osl:Array (Option Value)}{kV doc pm cdv ct:Value}(l:K.lookup f=some ⟨oc,od,.func (PySem.W.fnOf x qual (defArgs st) (defBody st) (defScope st) .none kV doc pm an cdv ct),osl⟩)
  (c:PySem.W.codeIn K cdv qual=true) (k:PySem.W.keepIn K (.ref f)=true):Fun K x qual st f (PySem.W.fnOf x qual (defArgs st) (defBody st) (defScope st) .none kV doc pm an cdv ct):=⟨⟨oc,od,kV,doc,pm,an,cdv,ct,osl,rfl,l,c⟩,k⟩
end
section
variable {X:Cx}
end
noncomputable def Same (H H':Hp):Prop:=∀b o,H b=some o->H' b=some o
theorem Same.refl (H:Hp):Same H H:=fun _ _ h=>h
theorem Same.free {H H':Hp}(e:Same H H'){l:Addr}(h:H' l=Option.none):H l=Option.none:=by
 cases q:H l with
 |none=>rfl
 |some o=>
  rw[e l o q]at h;cases h
end L2
namespace TM
open PySem
end TM
namespace L2
open PySem PySem.Spec PyProof.Rows
section
variable {X:Cx}
theorem jiF:OpR X (binaryOp .Add) (fun x y H Q=>∃a b ys,x=.ref a/\y=.ref b/\SqT X.K H a []/\SqT X.K H b ys/\Q (.ref b) H):=by
 intro pins s σ H x y v u Q I rx ry h;obtain⟨a,b,ys,rfl,rfl,ha,hb,q⟩:=h;cases rx;cases ry;obtain⟨its,r1,p1,_⟩:=I.tuple ha;obtain⟨its2,r2,p2,_⟩:=I.tuple hb;obtain rfl:its=[]:=r1.nil_iff.mpr rfl;obtain⟨⟨cls,dd,data,sl⟩,ho,hc,n,hd⟩:=id p1;obtain⟨⟨cls2,dd2,data2,sl2⟩,ho2,hc2,n2,hd2⟩:=id p2;simp only at hc hd hc2 hd2;subst hc hd hc2 hd2;exact concat_meets ⟨_,ho,rfl⟩ ⟨_,ho2,rfl⟩ noFill_tuple_add seq_tuple_add PySem.F.slot_tuple_add PySem.F.entry_tuple_add (PySem.F.args_tuple_add_2 _ _)
   (tuple_addW0 a b ([]:List Value).toArray its2.toArray n n2 dd dd2 sl sl2 rfl) ⟨ho,ho2,⟨.ref b,H,I,rfl,q⟩⟩
theorem jkE:OpR X (binaryOp .Add) (fun x y H Q=>∃a b xs ys,x=.ref a/\y=.ref b/\SqL X.K H a xs/\SqL X.K H b ys/\xs.length + ys.length<=sizeLine/\∀p,H p=none->Q (.ref p) (upd H p (.lst (xs++ys)))):=by
 intro pins s σ H x y v u Q I rx ry h;obtain⟨a,b,xs,ys,rfl,rfl,ha,hb,hz,q⟩:=h;cases rx;cases ry;obtain⟨its,r1,⟨⟨cls,dd,data,sl⟩,n,ho,hc,hdd,hd⟩,_⟩:=I.list ha;obtain⟨its2,r2,⟨⟨cls2,dd2,data2,sl2⟩,n2,ho2,hc2,hdd2,hd2⟩,_⟩:=I.list hb;simp only at hc hd hc2 hd2;subst hc hd hc2 hd2;refine concat_meets ⟨_,ho,rfl⟩ ⟨_,ho2,rfl⟩ noFill_list_add seq_list_add PySem.F.slot_list_add PySem.F.entry_list_add (PySem.F.args_list_add_2 _ _)
   (list_addW a b its.toArray its2.toArray n n2 dd dd2 sl sl2 (by rw[jp8,jp8,<-r1.length,<-r2.length];exact hz)) ⟨ho,ho2,?_⟩
 have e:its.toArray++its2.toArray=(its++its2).toArray:=by simp
 rw[e];exact⟨.ref _,_,I.lnew (t':=s.toks) (r1.append r2) (by rw[jqi];exact hz),rfl,q _ I.fresh⟩
theorem jbB {prog:Program}{w:World}{A:Around}{E:Value->Shared->Prop}{s:Shared}{t sl:Addr}{items:Array Value}{vl vu:Value}{lo hi:Option Int}{Q:Value->Shared->Prop}(ht:IsTup s.heap t items)(hs:s.heap.IsSliceOf sl vl vu .none)(pl:IsPart vl lo)(pu:IsPart vu hi)
  (hw:HT.sIx items.size 0 lo=0/\HT.sIx items.size items.size hi=items.size) (h:Q (.ref t) s):wpAny (model prog w) A (getItem (.ref t) (.ref sl)) Q E s:=by
 obtain⟨os,hos,hcs,hds⟩:=id hs;have hTs:s.TypeIs (.ref sl) "slice":=⟨os,hos,hcs⟩;unfold getItem;try with_reducible refine jqw ?_
 first | refine jqs (jqt ?_) | skip
 refine jqs (wpAny_sequenceKey ht.typeIs (by decide) ?_)
 refine jqs (wpAny_callSpecial?_slot (name:=Str.ofString "__getitem__") ht.typeIs PyProof.Rows.slot_tuple_getitem
  (wpAny_call_entry PyProof.Rows.slot_tuple_getitem ht.typeIs entry_tuple_getitem ?_ (args_tuple_getitem _ _)))
 show wpAny _ _ (Builtin.Tuple.tupleItemsOf (.ref t) >>= _) _ _ s;refine jqs (tupleItemsOf_ ht ?_);refine jqs (wpAny_typeOf hTs ?_);rw[if_pos (by decide)]
 refine jqs (HT.jbg hs pl pu ?_);have hyes:(((HT.sIx items.size 0 lo:Nat):Int) == 0 && (1:Int) == 1 && (HT.sIx items.size items.size hi - HT.sIx items.size 0 lo) == items.size)=true:=by
  rw[hw.1,hw.2];simp
 show wpAny _ _ (if (((HT.sIx items.size 0 lo:Nat):Int) == 0 && (1:Int) == 1 && (HT.sIx items.size items.size hi - HT.sIx items.size 0 lo) == items.size)=true then _ else _) _ _ s;rw[if_pos hyes];refine jqs (m:=Builtin.Tuple.tupleIsExact _) ?_;unfold Builtin.Tuple.tupleIsExact;refine jqs (wpAny_typeOf ht.typeIs ?_);refine jqt ?_;rw[if_pos (by rfl)]
 exact jqs (wpAny_rule (jqt ⟨_,rfl,jqt h⟩))
theorem sl_tupW:SlR X (fun x lo hi H Q=>∃a xs,x=.ref a/\SqT X.K H a xs/\(HT.sIx xs.length 0 lo=0/\HT.sIx xs.length xs.length hi=xs.length)/\Q (.ref a) H):=by
 intro pins s σ H x v vl vu lo hi sl Q I rx hs pl pu h;obtain⟨a,xs,rfl,hx,hw,q⟩:=h;cases rx;obtain⟨its,r,ht,hz⟩:=I.tuple hx;have hlen:its.toArray.size=xs.length:=by rw[jp8];exact r.length.symm
 refine⟨"tuple",_,PyProof.Rows.slot_tuple_getitem.lookup,ht.typeIs,?_⟩;exact jbB ht hs pl pu (by rw[hlen];exact hw) ⟨.ref a,H,I,rfl,q⟩
noncomputable def trV:V->Option Bool
 |.bl b=>some b
 |.int i=>some (i != 0)
 |_=>none
theorem jgB {prog:Program}{w:World}{A:Around}{x:V}{v:Value}{b:Bool}(r:RelV x v)(h:trV x=some b){s:Shared}{Q:Bool->Shared->Prop}{E:Value->Shared->Prop}(q:Q b s):wpAny (model prog w) A (truthy v) Q E s:=by
 cases x with
 |bl c=>
  cases (show v=Value.bool c from r);cases h;exact wpAny_truthy_bool q
 |int i=>
  obtain⟨t,rfl⟩:=(show ∃t,v=Value.int i t from r);cases h;exact PySem.P.truthy_int q
 |_=>cases h
theorem jeZ {pins:List (Addr×Obj)}{σ:St}{H:Hp}{s:Shared}{p:Addr}{ys:List V}(hc:X.calm=true)(I:Inv X pins σ H s)(h:SqL X.K H p ys\/SqT X.K H p ys){A:Around}(hA:A.handled=none){Q:Value->Shared->Prop}{E:Value->Shared->Prop}
  (q:∀(its:List Value) (I':Addr) (fp wr:List Addr) (St:Nat->Heap->Prop) (h2:Heap),Vals ys its->Walks X.prog X.w A I' fp wr ys.length (fun i v=>its[i]?=some v) St->St 0 h2->(∀b∈fp,b < h2.objs.size) ->
   (∀h' tk,(∀b o,b ∉ wr->h2.get? b=some o->h'.get? b=some o)->Inv X pins σ H { s with heap:=h',toks:=tk })->Q (.ref I') { s with heap:=h2 }):wpAny (model X.prog X.w) A (pyIter (.ref p)) Q E s:=by
 have back:∀(o:Obj) (h':Heap) (tk:Nat),(∀b ob,b ∉ [s.heap.objs.size]->(s.heap.push o).get? b=some ob->h'.get? b=some ob)->Inv X pins σ H { s with heap:=h',toks:=tk }:=fun o h' tk kp=>
  I.kept fun b ob e=>kp b ob (by simpa using jqF (jqz e)) (jqy _ e)
 rcases h with h | h
 ·obtain⟨its,r,pl,hz⟩:=I.list h;have hlen:its.toArray.size=ys.length:=by rw[jp8];exact r.length.symm
  have hlt:p < s.heap.objs.size:=by obtain⟨o,n,e,_⟩:=pl;exact jqz e
  refine wpAny_pyIter_list pl.isList ?_;have W:=Walks.list (prog:=X.prog) (w:=X.w) hA s.heap.objs.size p (jqF hlt) its.toArray;rw[hlen]at W;refine q its s.heap.objs.size _ _ (fun i h=>h.IsListIter s.heap.objs.size p i/\h.IsList p its.toArray) _ r (by simpa using W) ⟨⟨_,jqA _ rfl,rfl,rfl⟩,pl.isList.push _⟩ (fun b hb=>?_) (fun h' tk kp=>back _ h' tk kp)
  rw[Heap.size_push];rcases List.mem_cons.mp hb with rfl | hb
  ·exact Nat.lt_succ_self _
  ·have:b=p:=by simpa using hb
   subst this;exact Nat.lt_succ_of_lt hlt
 ·obtain⟨its,r,pl,hz⟩:=I.tuple h;have hlen:its.toArray.size=ys.length:=by rw[jp8];exact r.length.symm
  have hlt:p < s.heap.objs.size:=pl.lt;have pl':s.heap.IsTuple p its.toArray:=pl;refine wpAny_pyIter_tuple pl' ?_;have W:=Walks.tuple (prog:=X.prog) (w:=X.w) hA s.heap.objs.size p (jqF hlt) its.toArray;rw[hlen]at W;refine q its s.heap.objs.size _ _ (fun i h=>h.IsTupleIter s.heap.objs.size p i/\h.IsTuple p its.toArray) _ r (by simpa using W) ⟨⟨_,jqA _ rfl,rfl,rfl⟩,?_⟩ (fun b hb=>?_) (fun h' tk kp=>back _ h' tk kp)
  ·obtain⟨o,e,c⟩:=pl';exact⟨o,jqy _ e,c⟩
  ·rw[Heap.size_push];rcases List.mem_cons.mp hb with rfl | hb
   ·exact Nat.lt_succ_self _
   ·have:b=p:=by simpa using hb
    subst this;exact Nat.lt_succ_of_lt hlt
theorem jdv {ys:List V}{bs:List Bool}(h:ys.map trV=bs.map some):(List.range ys.length).all (fun i=>((ys[i]?).bind trV).getD false)=bs.all id/\(List.range ys.length).any (fun i=>((ys[i]?).bind trV).getD false)=bs.any id:=by
 have hl:ys.length=bs.length:=by simpa using congrArg List.length h
 have hg:∀i:Nat,((ys[i]?).bind trV).getD false=(bs[i]?).getD false:=fun i=>by
  have e:(ys.map trV)[i]?=(bs.map some)[i]?:=by rw[h]
  rw[jqa,jqa]at e;cases q:ys[i]? with
  |none=>rw[q]at e;cases q2:bs[i]? with
   |none=>rfl
   |some b=>rw[q2]at e;cases e
  |some y=>rw[q]at e;cases q2:bs[i]? with
   |none=>rw[q2]at e;cases e
   |some b=>rw[q2]at e;simp at e;simp[e]
 have ea:(List.range ys.length).map (fun i=>((ys[i]?).bind trV).getD false)=bs:=by
  apply List.ext_getElem?;intro i;rw[jqa];by_cases hi:i < ys.length
  ·rw[List.getElem?_range hi];have hb:i < bs.length:=by omega
   rw[Option.map_some,hg i,jp5 hb];rfl
  ·rw[jqk (by simpa using hi),jqk (by omega)]
   rfl
 constructor
 ·conv=>rhs;rw[<-ea]
  rw[List.all_map];rfl
 ·conv=>rhs;rw[<-ea]
  rw[List.any_map];rfl
theorem jgC (hc:X.calm=true)(all:Bool):CallR X (.builtin (if all then "all" else "any")) (fun xs H Q=>∃(p:Addr) (ys:List V) (bs:List Bool),xs=[.ref p]/\(SqL X.K H p ys\/SqT X.K H p ys)/\ys.map trV=bs.map some/\Q (.bl (if all then bs.all id else bs.any id)) H):=by
 intro pins s σ H xs us Q I r h;obtain⟨p,ys,bs,rfl,hq,hb,q⟩:=h;obtain⟨u,rfl,rx⟩:=jbQ r;cases rx;have hA:X.A.in1.handled=none:=I.ok.hd hc;have tro:∀its:List Value,Vals ys its->TruthOf X.prog X.w X.A.in1 (fun i v=>its[i]?=some v) (fun i=>((ys[i]?).bind trV).getD false):=fun its rv i v s Q E hP hQ=>by
  have hlen:=rv.length;have hi:i < ys.length:=by rw[hlen];exact(List.getElem?_eq_some_iff.mp hP).1
  obtain⟨u,e1,e2⟩:=rv.get (jp5 hi);rw[hP]at e1;cases e1;have e:(ys.map trV)[i]?=(bs.map some)[i]?:=by rw[hb]
  rw[jqa,jqa,jp5 hi]at e;cases q2:bs[i]? with
  |none=>rw[q2]at e;cases e
  |some b=>
   rw[q2]at e;have e:trV ys[i]=some b:=by simpa using e
   refine jgB e2 e ?_;have:((ys[i]?).bind trV).getD false=b:=by rw[jp5 hi];simp[e]
   rw[<-this];exact hQ
 cases all with
 |true=>
  refine call_all_walk (jeZ hc I hq hA fun its I' fp wr St h2 rv W st hfp back=>⟨I',fp,wr,_,_,St,_,rfl,W,st,tro its rv,fun h' tk kp=>?_⟩);rw[(jdv hb).1];exact⟨.bl _,H,back h' tk kp,rfl,q⟩
 |false=>
  refine call_any_walk (jeZ hc I hq hA fun its I' fp wr St h2 rv W st hfp back=>⟨I',fp,wr,_,_,St,_,rfl,W,st,tro its rv,fun h' tk kp=>?_⟩);rw[(jdv hb).2];exact⟨.bl _,H,back h' tk kp,rfl,q⟩
end
end L2
namespace L2
open PySem PySem.Spec PyProof.Rows PySem.W PySem.Builtin PySem.Builtin.Getset_descriptor
structure ECls (K:Frag)(C:Addr):Prop where
 ga:findIn K (.ref C) "__getattribute__"=some (some (.builtin "BaseException.__getattribute__"))
 hk:findIn K (.ref C) "__getattr__"=some none
 ca:findIn K (.ref C) "__class__"=some (some (.builtin "object.__class__"))
 gs:specialIn K (.builtin "object.__class__") "__get__"=some (some (.builtin "getset_descriptor.__get__"))
 tk:takesIn K (.builtin "object.__class__")=some true
 mo:mroIn K C (.type "object")=some true
 mb:mroIn K C (.type "BaseException")=some true
 ms:mroIn K C (.ref C)=some true
 mv:mroIn K C (.type "ValueError")=some true
 cd:(clsIn K C).isSome=true
 ty:typeIn K (.ref C)=some (.type "type")
section
variable {prog:Program}{w:World}{A:Around}{E:Value->Shared->Prop}{s:Shared}{K:Frag}{x C:Addr}{ox:Obj}
inductive TyAt (h:Heap) (x C:Addr):Prop
 |mk (o:_):(h.get? x=some o)->(o.cls=.ref C)->TyAt h x C
theorem TyAt.looks {M:Model}{h:Heap}(t:TyAt h x C):Looks M h (typeOf (.ref x)) (.ref C):=by
 obtain⟨o,e,hc⟩:=t;have z:=(Looks.ld (M:=M) (part:=none) e).andThen (f:=fun o=>pure o.cls) Looks.now;rw[hc]at z;exact z
theorem jgD {M:Model}{nameV:Value}{Q:Unit->Shared->Prop}(X:K.In s.heap)(e:ECls K C)(I:TyAt s.heap x C)(hq:Q () s) :
  wpAny M A (checkBuiltinCall "BaseException.__getattribute__" ⟨[.ref x,nameV],[]⟩) Q E s:=by
 have k1:builtinKind "BaseException.__getattribute__"=some .slot:=by decide +kernel
 have k2:splitId "BaseException.__getattribute__"=some ("BaseException","__getattribute__"):=by decide +kernel
 have ha:=F.args_bexc_ga (.ref x) nameV;have L0:=I.looks (M:=M);have L1:=looks_mroIn (M:=M) X e.mb;simp only[checkBuiltinCall,k1,k2];refine jqs ?_;unfold isInstance;obtain⟨hh,g,d,t,os⟩:=s;refine jqs (L0.at (L1.at ?_));repeat (first | wp_step)
 exact hq
theorem jiG {M:Model}{h:Heap}(X:K.In h)(e:ECls K C)(x:Addr):Looks M h (Builtin.ObjectAttr.find (.ref x) (.ref C) "__class__") (.bind (.builtin "getset_descriptor.__get__") (.builtin "object.__class__")):=by
 have a1:=looks_findIn (M:=M) X e.ca;have a2:=looks_specialIn (M:=M) X e.gs;have a3:=looks_takesIn (M:=M) X e.tk;refine a1.andThen (Looks.andThen (a:=some (Value.builtin "getset_descriptor.__get__")) (by unfold Builtin.ObjectAttr.getOf;exact a2) ?_)
 exact Looks.andThen (a:=some (.builtin "getset_descriptor.__get__",.builtin "object.__class__")) (a3.andThen Looks.now) (Looks.tag Looks.now)
theorem jkF {R:Result->Shared->Prop}(X:K.In s.heap)(e:ECls K C)(I:TyAt s.heap x C)(h:R (.ok (.ret (.ref C))) s) :
  codeAny (model prog w) A (.call (.builtin "getset_descriptor.__get__") ⟨[.builtin "object.__class__",.ref x,.ref C],[]⟩) R s:=by
 have T0:=I.looks (M:=model prog w);have T1:=looks_mroIn (M:=model prog w) X e.mo;obtain⟨hp,ge,dr,tk,os⟩:=s;refine codeAny_call_builtin KF.slot_gs.plain KF.entry_gs ?_;refine KF.slot_gs.check _ _ _ _ _ _ _ _ KF.type_class (KF.args_gs _ _ _) ?_;unfold Builtin.«getset_descriptor.__get__»;unfold descrGet;rw[dga_obj];refine jqs (jqt ?_);unfold descrGetter;unfold descrCheckInstance;unfold descrNameAndClass;unfold isInstance;simp only[KF.owner_class];repeat lk
 refine⟨Code.quiet_builtin _ (by decide +kernel),codeAny_builtin KF.entry_class ?_⟩
 unfold Builtin.«object.__class__»;unfold shownTypeOf;repeat lk
 exact h
theorem jgE {Q:Option Value->Shared->Prop}(X:K.In s.heap)(e:ECls K C)(I:TyAt s.heap x C)(h:Q (some (.ref C)) { s with toks:=s.toks + 1 }):wpAny (model prog w) A (getAttr? (.ref x) "__class__") Q E s:=by
 obtain⟨hh,g,d,t,os⟩:=s;have L0:=I.looks (M:=model prog w);have L1:=looks_findIn (M:=model prog w) X e.ga;have L2':=looks_findIn (M:=model prog w) X e.hk;have L3:=jiG (M:=model prog w) X e x;unfold getAttr? getAttrBy? getAttrBy;refine jqs (wpAny_mkText (jqs (wpAny_attempt ?_)));refine jqw (jqs (L0.at (jqs (L1.at ?_))));have hx2:(Value.builtin "BaseException.__getattribute__" == Value.builtin "object.__getattribute__")=false:=by decide +kernel
 simp only[hx2,Bool.and_false,jqJ,if_false];unfold getAttrByItsOwn hookBefore;simp only[onTheHeap,if_true];refine jqs (L2'.at (jqs (wpAny_attempt (jqw ?_))));unfold callGetattribute boundAndCalled;simp only[Bool.false_and,jqJ,if_false];rw[F.attr_ValueError.ga.bind];refine jqs (jqt ?_);refine wpAny_call (codeAny_call_builtin F.attr_ValueError.ga.plain F.entry_bexc_ga (jgD X e I ?_));unfold Builtin.«object.__getattribute__»;refine jqs (wpAny_of_eq (a:=(Value.ref x,[Value.str "__class__" t])) rfl ?_);dsimp only;refine jqs (wpAny_of_eq (a:=("__class__":Str)) rfl ?_);refine jqs (L0.at (jqs (L3.at ?_)));dsimp only;unfold Builtin.ObjectAttr.bindTo;dsimp only;refine jqs (jqw (wpAny_call (jkF (s:=⟨hh,g,d,t + 1,os⟩) X e I ?_)));dsimp only;refine jqt ?_;dsimp only;exact jqt (jqt h)
theorem ECls.isTy {M:Model}{h:Heap}(e:ECls K C)(X:K.In h):Looks M h (isType (.ref C)) true:=by
 obtain⟨cd,hcd⟩:=Option.isSome_iff_exists.mp e.cd;unfold clsIn at hcd;split at hcd
 ·rename_i ho;intro A' Q' E' s' k q;unfold isType;unfold loadHead;exact jqs (wpAny_loadPart (k _ _ (X _ _ ho)) (jqt q))
 ·cases hcd
theorem jiH (e:ECls K C):KitX K (.ref x) (.ref C) (fun h=>TyAt h x C) where
 ty:=fun _ _ _ I=>I.looks
 it:=fun _ _ X _=>e.isTy X
 ne:=fun h tp dd its n sl X htp=>by
  obtain⟨cd,hcd⟩:=Option.isSome_iff_exists.mp e.cd;refine Bool.eq_false_iff.mpr fun q=>?_;have z:C=tp:=Value.ref.inj (beq_iff_eq.mp q);subst z;unfold clsIn at hcd;split at hcd
  ·rename_i ho;cases (X _ _ ho).symm.trans htp
  ·cases hcd
 ca:=fun X I k=>jgE X e I k
end
end L2
namespace L2
open PySem PySem.Spec PyProof.Rows PySem.Builtin.SmallTypes
noncomputable def Sit (b:Bool)(h:Heap)(it l:Addr)(k:Nat)(xs:Array Value):Prop:=(b=true/\h.IsListIter it l k/\h.IsList l xs)\/(b=false/\h.IsTupleIter it l k/\h.IsTuple l xs)
noncomputable def Sq (b:Bool)(h:Heap)(l:Addr)(xs:Array Value):Prop:=(b=true/\h.IsList l xs)\/(b=false/\h.IsTuple l xs)
theorem Sit.at {b:Bool}{h h':Heap}{it l:Addr}{k:Nat}{xs:Array Value}(S:Sit b h it l k xs)(h1:∀o,h.get? it=some o->h'.get? it=some o)(h2:∀o,h.get? l=some o->h'.get? l=some o):Sit b h' it l k xs:=by
 rcases S with ⟨e,⟨o,a,r⟩,⟨o',a',r'⟩⟩ | ⟨e,⟨o,a,r⟩,⟨o',a',r'⟩⟩
 ·exact .inl ⟨e,⟨o,h1 o a,r⟩,⟨o',h2 o' a',r'⟩⟩
 ·exact .inr ⟨e,⟨o,h1 o a,r⟩,⟨o',h2 o' a',r'⟩⟩
theorem Sit.obj {b:Bool}{h:Heap}{it l:Addr}{k:Nat}{xs:Array Value}(S:Sit b h it l k xs):(∃o,h.get? it=some o/\∀v,o.data≠.cell v)/\∃o,h.get? l=some o/\(o.cls=.type "list"\/o.cls=.type "tuple"):=by
 rcases S with ⟨_,⟨o,a,_,d⟩,⟨o',a',c,_⟩⟩ | ⟨_,⟨o,a,_,d⟩,⟨o',a',c,_⟩⟩
 ·exact⟨⟨o,a,fun v z=>by rw[d]at z;cases z⟩,⟨o',a',.inl c⟩⟩
 ·exact⟨⟨o,a,fun v z=>by rw[d]at z;cases z⟩,⟨o',a',.inr c⟩⟩
section
variable {prog:Program}{w:World}{A:Around}{E:Value->Shared->Prop}{s:Shared}
structure Zs (b1 b2:Bool)(h:Heap)(z TI TO i1 i2 l1 l2:Addr)(k:Nat)(xs ys:Array Value)(f:Value):Prop where
 zi:IsZip h z TI TO f
 ti:IsPair h TI (.ref i1) (.ref i2)
 to_:∃a b,IsPair h TO a b
 s1:Sit b1 h i1 l1 k xs
 s2:Sit b2 h i2 l2 k ys
end
end L2
namespace L2
open PySem PySem.Spec PyProof.Rows
noncomputable def itO (b:Bool)(l:Addr):Obj:=if b then { cls:=.type "list_iterator",data:=.fields #[.ref l,.int 0 0] } else { cls:=.type "tuple_iterator",data:=.fields #[.ref l,.int 0 0] }
theorem Sq.push {b:Bool}{h:Heap}{l:Addr}{xs:Array Value}(S:Sq b h l xs)(o:Obj):Sq b (h.push o) l xs:=by
 rcases S with ⟨e,L⟩ | ⟨e,L⟩
 ·exact .inl ⟨e,L.push o⟩
 ·exact .inr ⟨e,L.push o⟩
theorem Sit.new {b:Bool}{h h':Heap}{it l:Addr}{xs:Array Value}(S:Sq b h l xs)(e:h'.get? it=some (itO b l))(k:∀o,h.get? l=some o->h'.get? l=some o):Sit b h' it l 0 xs:=by
 rcases S with ⟨z,⟨o,a,r⟩⟩ | ⟨z,⟨o,a,r⟩⟩
 ·subst z;exact .inl ⟨rfl,⟨_,e,rfl,rfl⟩,⟨o,k o a,r⟩⟩
 ·subst z;exact .inr ⟨rfl,⟨_,e,rfl,rfl⟩,⟨o,k o a,r⟩⟩
section
variable {prog:Program}{w:World}{A:Around}{E:Value->Shared->Prop}{s:Shared}
end
noncomputable def SqB (K:PySem.W.Frag)(b:Bool)(H:Hp)(a:Addr)(xs:List V):Prop:=(b=true/\SqL K H a xs)\/(b=false/\SqT K H a xs)
section
variable {X:Cx}{pins:List (Addr×Obj)}{σ:St}{H:Hp}{s:Shared}{b:Bool}{a:Addr}{xs ys:List V}
end
structure Zi (b1 b2:Bool)(h:Heap)(z TI TO i1 i2 l1 l2:Addr)(k:Nat)(f:Value):Prop where
 zi:IsZip h z TI TO f
 ti:IsPair h TI (.ref i1) (.ref i2)
 to_:∃a b,IsPair h TO a b
 s1:(b1=true/\h.IsListIter i1 l1 k)\/(b1=false/\h.IsTupleIter i1 l1 k)
 s2:(b2=true/\h.IsListIter i2 l2 k)\/(b2=false/\h.IsTupleIter i2 l2 k)
section
variable {b1 b2:Bool}{h h':Heap}{z TI TO i1 i2 l1 l2:Addr}{k:Nat}{f:Value}{xs ys:Array Value}
theorem jjU {b:Bool}{it l:Addr}(q:(b=true/\h.IsListIter it l k)\/(b=false/\h.IsTupleIter it l k))(S:Sq b h l xs):Sit b h it l k xs:=by
 rcases q with ⟨e,q⟩ | ⟨e,q⟩
 ·rcases S with ⟨e',S⟩ | ⟨e',S⟩
  ·exact .inl ⟨e,q,S⟩
  ·rw[e]at e';cases e'
 ·rcases S with ⟨e',S⟩ | ⟨e',S⟩
  ·rw[e]at e';cases e'
  ·exact .inr ⟨e,q,S⟩
theorem Zi.zs (S:Zi b1 b2 h z TI TO i1 i2 l1 l2 k f)(S1:Sq b1 h l1 xs)(S2:Sq b2 h l2 ys):Zs b1 b2 h z TI TO i1 i2 l1 l2 k xs ys f:=⟨S.zi,S.ti,S.to_,jjU S.s1 S1,jjU S.s2 S2⟩
theorem Zi.at (S:Zi b1 b2 h z TI TO i1 i2 l1 l2 k f)(q:∀b∈[z,TI,TO,i1,i2],∀o,h.get? b=some o->h'.get? b=some o):Zi b1 b2 h' z TI TO i1 i2 l1 l2 k f:=by
 obtain⟨zi,ti,⟨a,b,to_⟩,s1,s2⟩:=S;refine⟨q z (by simp) _ zi,q TI (by simp) _ ti,⟨a,b,q TO (by simp) _ to_⟩,?_,?_⟩
 ·rcases s1 with ⟨e,o,r1,r2⟩ | ⟨e,o,r1,r2⟩
  ·exact .inl ⟨e,o,q i1 (by simp) o r1,r2⟩
  ·exact .inr ⟨e,o,q i1 (by simp) o r1,r2⟩
 ·rcases s2 with ⟨e,o,r1,r2⟩ | ⟨e,o,r1,r2⟩
  ·exact .inl ⟨e,o,q i2 (by simp) o r1,r2⟩
  ·exact .inr ⟨e,o,q i2 (by simp) o r1,r2⟩
end
end L2
namespace L2
open PySem PySem.Spec PyProof.Rows
open AutoSeq1 (wpAny_loadPart')
noncomputable abbrev eN (h:Heap)(b:Bool)(l:Addr):Heap:=(h.push (itO b l)).push { cls:=.type "enumerate",data:=.fields #[.none,.bool false,.ref h.objs.size,rawInt 0,.none,.none] }
structure Ei (b:Bool)(h:Heap)(e it l:Addr)(k:Nat):Prop where
 en:∃old,IsEnum h e it k old
 s1:(b=true/\h.IsListIter it l k)\/(b=false/\h.IsTupleIter it l k)
end L2
namespace L2
open PySem PySem.Spec PyProof.Rows
section
variable {X:Cx}
theorem jmX:SlR X (fun x lo hi H Q=>∃z,x=.str z/\z.length<=sizeLine/\Q (.str (Txt.slice z lo hi)) H):=by
 intro pins s σ H x v vl vu lo hi sl Q I rx hs pl pu h;obtain⟨z,rfl,hz,q⟩:=h;obtain⟨t,rfl⟩:=rx;have fin:∀t' k,EP X pins σ Q (.str (Txt.slice z lo hi) t') { s with toks:=k }:=fun t' k=>⟨.str _,H,I.tok k,⟨t',rfl⟩,q⟩
 refine⟨"str",_,F.slot_str_getitem.lookup,typeIs_str _ _ _,?_⟩;have le:=jqG (Txt.slice_le z lo hi) hz;cases pl with
 |none=>
  cases pu with
  |none=>exact wpAny_getItem_str_slice (l:=none) (u:=none) (st:=none) hs rfl (post_val_or_str ⟨le,fin⟩)
  |int j u=>exact wpAny_getItem_str_slice (l:=none) (u:=some (j,u)) (st:=none) hs rfl (post_val_or_str ⟨le,fin⟩)
 |int i r=>
  cases pu with
  |none=>exact wpAny_getItem_str_slice (l:=some (i,r)) (u:=none) (st:=none) hs rfl (post_val_or_str ⟨le,fin⟩)
  |int j u=>exact wpAny_getItem_str_slice (l:=some (i,r)) (u:=some (j,u)) (st:=none) hs rfl (post_val_or_str ⟨le,fin⟩)
end
noncomputable def Itx (z:Str):It:=⟨fun i _=>i < z.cps.size,fun i H x H'=>H'=H/\∃c,z.cps[i]?=some c/\x=.str ⟨#[c]⟩,fun i _=>i=z.cps.size⟩
theorem jdw {P:Program}{w:World}{K:PySem.W.Frag}{tg:Expr}{it:Addr}{z:Str}{t:Tok}{ty:String}
  (W:∀A':Around,A'.handled=none->Walks P w A' it [it] [it] z.cps.size (SignAt z) (fun i h=>h.IsStrIter it ty z t i))
  (hS:∀(A:Around) (i:Nat) (s:Shared) (Q:Value->Shared->Prop) (E:Value->Shared->Prop),s.heap.IsStrIter it ty z t i->Q (.ref it) s->wpAny (model P w) A (pyIter (.ref it)) Q E s)
  (hn:["enumerate","zip","dict_itemiterator","dict_reverseitemiterator","odict_iterator","itertools.zip_longest","itertools.pairwise"].contains ty=false) :
  Turn P w K tg (Itx z) [it] it (fun i h=>h.IsStrIter it ty z t i) where
 mem:=by simp
 obj:=fun i h st b hb=>by
  have e:b=it:=by simpa using hb
  subst e;obtain⟨o,e,c,d⟩:=st;exact⟨o,e,fun v z=>by rw[d]at z;cases z⟩
 keep:=fun i h h' st k=>let ⟨o,e,r⟩:=st;⟨o,k it (by simp) o e,r⟩
 item:=by
  intro X hP hw hK hc i pins s σ H E I hf st hg;subst hP hw hK;obtain⟨f0,f1,f2,f3,f4,f5⟩:=hf it (by simp)
  refine(W X.A (I.ok.hd hc)).item i s _ _ hg st fun v h' tk hv st' kk=>?_;obtain⟨c,u,hx,rfl⟩:=hv;have I1:Inv X pins σ H { s with heap:=h',toks:=tk }:=I.turned (fun b o hb e=>kk b o (by simpa using hb) e) f0 f1 f3 f4 f5
  obtain⟨o,e,oc,d⟩:=id st';exact⟨_,rfl,jiw (s:={ s with heap:=h',toks:=tk }) e oc d hn ⟨.str ⟨#[c]⟩,H,I1,⟨u,rfl⟩,⟨rfl,c,hx,rfl⟩,st',fun b hb=>(hf b hb).1⟩⟩
 done:=by
  intro X hP hw hK hc i pins s σ H E I hf st hg;subst hP hw hK;obtain⟨f0,f1,f2,f3,f4,f5⟩:=hf it (by simp)
  have hg:i=z.cps.size:=hg;subst hg;exact(W X.A (I.ok.hd hc)).done s _ _ st fun h' tk eb=>⟨rfl,I.turned (fun b o hb e=>eb b o (by simpa using hb) e) f0 f1 f3 f4 f5⟩
 self:=hS
section
variable {X:Cx}
theorem jfD:MtR X "str.isupper" (fun x xs H Q=>∃z,x=.str z/\xs=[]/\Q (.bl (Txt.isupper z)) H):=by
 intro pins s σ H x xs v us Q I rx rs h;obtain⟨z,rfl,rfl,q⟩:=h;obtain⟨t,rfl⟩:=rx;cases rs;exact SC.isupper ⟨.bl _,H,I,rfl,q⟩
theorem jiI:MtR X "str.count" (fun x xs H Q=>∃z y,x=.str z/\xs=[.str y]/\Q (.int (Txt.count z y)) H):=by
 intro pins s σ H x xs v us Q I rx rs h;obtain⟨z,y,rfl,rfl,q⟩:=h;obtain⟨t,rfl⟩:=rx;obtain⟨_,rfl,t',rfl⟩:=jbQ rs;exact SC.count ⟨.int _,H,I.tok _,⟨_,rfl⟩,q⟩
theorem jdx:∀{l:List (Str×Tok)}{ys:List Str},l.map (·.1)=ys->Vals (ys.map V.str) (strValues l)
 |[],_,rfl=>.nil
 |(x,t)::l,_,rfl=>.cons ⟨t,rfl⟩ (jdx (l:=l) rfl)
theorem jgF:∀{ys:List Str}{us:List Value},Vals (ys.map V.str) us->StrsAre us ys
 |[],us,r=>by cases r;exact .nil
 |y::ys,us,r=>by
  cases r with
  |cons r1 r2=>
   obtain⟨t,rfl⟩:=r1;exact .cons y t (jgF r2)
open Builtin.Str in
theorem jiJ:MtR X "str.split" (fun x xs H Q=>∃z y,x=.str z/\xs=[.str y]/\(y.length == 0)=false/\z.length<=sizeLine/\(Txt.split z y).length<=sizeLine/\∀p,H p=none->Q (.ref p) (upd H p (.lst ((Txt.split z y).map V.str)))):=by
 intro pins s σ H x xs v us Q I rx rs h;obtain⟨z,y,rfl,rfl,hy,hz,hl,q⟩:=h;obtain⟨t,rfl⟩:=rx;obtain⟨_,rfl,u,rfl⟩:=jbQ rs;have fin:∀(l:List (Str×Tok)) (k:Nat),l.map (·.1)=Txt.split z y->EP X pins σ Q (.ref s.heap.objs.size) { s with heap:=s.heap.push { cls:=.type "list",data:=.seq (strValues l).toArray },toks:=k }:=fun l k e=>
  ⟨.ref _,_,I.lnew (t':=k) (jdx e) (by rw[jqd];exact hl),rfl,q _ I.fresh⟩
 cases h1:(decide (z.length < y.length) || decide (strKind z < strKind y))
 ·cases hf:(occurrences z y 0 z.length (z.length + 1)).isEmpty
  ·have e:Txt.split z y=partsBetween z (occurrences z y 0 z.length (z.length + 1)) y.length:=(if_neg (ne_true_of_eq_false h1)).trans (if_neg (ne_true_of_eq_false hf));refine call_meets PySem.F.slot_str_split (typeIs_str _ _ _) PySem.F.entry_str_split (PySem.F.args_str_split_2 _ _) (meets_str_split_sep z y t u h1 hy hf hz (by rw[<-e];exact hl)) ?_
   show wants _ _ _ { s with toks:=_,heap:=s.heap.push { cls:=.type "list",data:=.seq (strsFrom s.toks (partsBetween z (occurrences z y 0 z.length (z.length + 1)) y.length)).toArray } }
   rw[strsFrom_eq];exact fin (numbered s.toks _) _ ((numbered_texts _ _).trans e.symm)
  ·exact call_meets PySem.F.slot_str_split (typeIs_str _ _ _) PySem.F.entry_str_split (PySem.F.args_str_split_2 _ _) (meets_str_split_not_found z y t u h1 hy hf)
    (fin [(z,t)] s.toks ((if_neg (ne_true_of_eq_false h1)).trans (if_pos hf)).symm)
 ·exact call_meets PySem.F.slot_str_split (typeIs_str _ _ _) PySem.F.entry_str_split (PySem.F.args_str_split_2 _ _) (meets_str_split_cannot_occur z y t u h1)
   (fin [(z,t)] s.toks (if_pos h1).symm)
theorem jkG:MtR X "str.join" (fun x xs H Q=>∃z p ys,x=.str z/\xs=[.ref p]/\SqL X.K H p (ys.map V.str)/\(ys.map (·.length)).sum + ys.length * z.length<=16777216/\Q (.str (Txt.join z ys)) H):=by
 intro pins s σ H x xs v us Q I rx rs h;obtain⟨z,p,ys,rfl,rfl,hq,hl,q⟩:=h;obtain⟨t,rfl⟩:=rx;obtain⟨_,rfl,rr⟩:=jbQ rs;cases rr;obtain⟨its,r,pl,_⟩:=I.list hq;exact join_list pl.isList (jgF (by simpa using r)) hl fun t' k=>⟨.str _,H,I.tok k,⟨t',rfl⟩,q⟩
theorem jgG:CallR X (.type "str") (fun xs H Q=>∃i,xs=[.int i]/\i.natAbs.log2 < 1920/\Q (.str (Str.ofString (toString i))) H):=by
 intro pins s σ H xs us Q I r h;obtain⟨i,rfl,hi,q⟩:=h;obtain⟨_,rfl,t,rfl⟩:=jbQ r;exact PySem.P.str_of_int hi ⟨.str _,H,I.tok _,⟨_,rfl⟩,q⟩
theorem jgH:CallR X (.type "int") (fun xs H Q=>∃z n,xs=[.str z]/\PySem.intText? z=some n/\z.length<=640/\Q (.int n) H):=by
 intro pins s σ H xs us Q I r h;obtain⟨z,n,rfl,h1,h2,q⟩:=h;obtain⟨_,rfl,t,rfl⟩:=jbQ r;exact PySem.W.KIN.call_text h1 h2 ⟨.int _,H,I.tok _,⟨_,rfl⟩,q⟩
end
end L2
namespace Tx
open PySem
noncomputable def jl (c:Nat):List (List Nat)->List Nat
 |[]=>[]
 |x::r=>x++(match r with | []=>[] | y::r'=>c::jl c (y::r'))
theorem jeh (c:Nat)(ps:List Str):(Str.join ⟨#[c]⟩ ps).cps.toList=jl c (ps.map (·.cps.toList)):=by
 induction ps with
 |nil=>rfl
 |cons x r ih=>
  cases r with
  |nil=>simp[Str.join,jl]
  |cons y r=>
   show (x++⟨#[c]⟩++Str.join ⟨#[c]⟩ (y::r):Str).cps.toList=_;show (x.cps++#[c]++(Str.join ⟨#[c]⟩ (y::r)).cps).toList=_;rw[Array.toList_append,Array.toList_append,ih];simp[jl]
theorem jdy {c:Nat}{a r:List Nat}(h:c ∉ a):(a++c::r).takeWhile (· != c)=a/\(a++c::r).dropWhile (· != c)=c::r:=by
 induction a with
 |nil=>simp
 |cons x a ih=>
  have hx:(x != c)=true:=by
   simp only[bne_iff_ne,ne_eq];exact fun e=>h (by simp[e])
  obtain⟨h1,h2⟩:=ih fun e=>h (jp6 _ e);simp[hx,h1,h2]
theorem jmY (c:Nat){as:List (List Nat)}:∀{bs:List (List Nat)},as≠[]->bs≠[]->(∀a∈as,c ∉ a)->(∀b∈bs,c ∉ b)->jl c as=jl c bs->as=bs:=by
 induction as with
 |nil=>intro bs h;exact absurd rfl h
 |cons a as ih=>
  intro bs _ hb fa fb e;cases bs with
  |nil=>exact absurd rfl hb
  |cons b bs=>
   have na:c ∉ a:=fa a (by simp)
   have nb:c ∉ b:=fb b (by simp)
   cases as with
   |nil=>
    cases bs with
    |nil=>simp[jl]at e;rw[e]
    |cons b2 bs=>simp[jl]at e;rw[e]at na;exact absurd (by simp) na
   |cons a2 as=>
    cases bs with
    |nil=>simp[jl]at e;rw[<-e]at nb;exact absurd (by simp) nb
    |cons b2 bs=>
     have e:a++c::jl c (a2::as)=b++c::jl c (b2::bs):=e;obtain⟨p1,p2⟩:=jdy (r:=jl c (a2::as)) na;obtain⟨q1,q2⟩:=jdy (r:=jl c (b2::bs)) nb;rw[e]at p1 p2;rw[q1]at p1;rw[q2]at p2;rw[p1,ih (bs:=b2::bs) (by simp) (by simp) (fun x hx=>fa x (jp6 _ hx)) (fun x hx=>fb x (jp6 _ hx)) (List.cons.inj p2).2.symm]
theorem jmZ {a b:Str}(h:a.cps.toList=b.cps.toList):a=b:=congrArg Str.mk (Array.toList_inj.mp h)
theorem jgI:∀{as bs:List Str},as.map (·.cps.toList)=bs.map (·.cps.toList)->as=bs
 |[],[],_=>rfl
 |[],_::_,h=>by cases h
 |_::_,[],h=>by cases h
 |a::as,b::bs,h=>by
  simp only[jqb,List.cons.injEq]at h;rw[jmZ h.1,jgI h.2]
theorem jfE {c:Nat}{ps:List Str}(hp:ps≠[])(hf:∀p∈ps,c ∉ p.cps.toList):Txt.split (Txt.join ⟨#[c]⟩ ps) ⟨#[c]⟩=ps:=by
 have e0:Txt.join ⟨#[c]⟩ ps=Str.join ⟨#[c]⟩ ps:=StrLaws.glued_eq_join _ _;have e:=StrLaws.join_split (Txt.join ⟨#[c]⟩ ps) ⟨#[c]⟩;have hn:Txt.split (Txt.join ⟨#[c]⟩ ps) ⟨#[c]⟩≠[]:=fun z=>by
  rw[z]at e;have:Txt.split (Txt.join ⟨#[c]⟩ ps) ⟨#[c]⟩=[Txt.join ⟨#[c]⟩ ps]:=if_pos (by rw[<-e];rfl)
  rw[z]at this;cases this
 refine jgI (jmY c (by simpa using hn) (by simpa using hp) (fun a ha=>?_) (fun a ha=>?_) ?_)
 ·obtain⟨p,h1,rfl⟩:=List.mem_map.mp ha;exact StrLaws.split_free _ c p h1
 ·obtain⟨p,h1,rfl⟩:=List.mem_map.mp ha;exact hf p h1
 ·rw[<-jeh,<-jeh,e,e0]
theorem jgJ (w:Str)(c:Nat):Txt.count w ⟨#[c]⟩=((w.cps.toList.filter (· == c)).length:Int):=by
 rw[PyProof.Rows.count_is];show PyProof.Rows.cnt c w.cps.toList=_;generalize w.cps.toList=l;induction l with
 |nil=>rfl
 |cons n r ih=>
  rw[PyProof.Rows.cnt_cons,ih,List.filter_cons];by_cases h:n=c
  ·simp[h];omega
  ·simp[h]
theorem jkH (x:Str)(c:Nat):Txt.contains x ⟨#[c]⟩=decide (c∈x.cps.toList):=StrLaws.found_one x c
end Tx
namespace Tx
open PySem
noncomputable abbrev mk (l:List Nat):Str:=⟨l.toArray⟩
theorem jaV (l:List Nat):(mk l).length=l.length:=jp8
theorem jbh (a b:List Nat):mk a++mk b=mk (a++b):=by
 show (⟨a.toArray++b.toArray⟩:Str)=_;rw[List.append_toArray]
theorem jcN (l:List Nat)(k:Nat)(h:k<=l.length):Txt.slice (mk l) (some (k:Int)) none=mk (l.drop k):=by
 have:=StrLaws.sliceText_from (x:=mk l) (i:=(k:Int)) ⟨Int.natCast_nonneg k,by show (k:Int)<=(l.length:Int);omega⟩
 refine Eq.trans (this:StrLaws.sliceText (mk l) (some (k:Int)) none=_) ?_;show mk ((l.drop k).take ((l.length:Int) - k).toNat)=_;rw[List.take_of_length_le (by rw[List.length_drop];omega)]
theorem jiK (l:List Nat)(k:Nat)(h:k<=l.length):Txt.slice (mk l) none (some (k:Int))=mk (l.take k):=by
 have:=StrLaws.sliceText_to (x:=mk l) (j:=(k:Int)) ⟨Int.natCast_nonneg k,by show (k:Int)<=(l.length:Int);omega⟩
 refine Eq.trans (this:StrLaws.sliceText (mk l) none (some (k:Int))=_) ?_;show mk ((l.drop 0).take ((k:Int) - 0).toNat)=_;rw[List.drop_zero,show ((k:Int) - 0).toNat=k by omega]
end Tx
namespace L2
open PySem PySem.Spec PyProof.Rows
noncomputable def SubH (h h':Heap):Prop:=∀b o,h.get? b=some o->h'.get? b=some o
theorem SubH.refl {h:Heap}:SubH h h:=fun _ _ e=>e
theorem SubH.trans {h h1 h2:Heap}(a:SubH h h1)(b:SubH h1 h2):SubH h h2:=fun c o e=>b c o (a c o e)
theorem SubH.push {h:Heap}(o:Obj):SubH h (h.push o):=fun _ _ e=>jqy _ e
structure Itb (prog:Program)(w:World)(A:Around)(it:Value)(T:String)(h:Heap)(n:Nat)(P:Nat->Value->Prop)(wr0:List Addr):Prop where
 nl:T≠"list"
 nt:T≠"tuple"
 ty:∀s:Shared,SubH h s.heap->s.TypeIs it T
 ref:∀a,it=.ref a->a < h.objs.size
 iter:∀(s:Shared) (S:Addr) (Q E:Value->Shared->Prop),SubH h s.heap->h.objs.size<=S->S < s.heap.objs.size ->
  (∀(I:Addr) (fp wr:List Addr) (St:Nat->Heap->Prop) (h':Heap) (tk:Nat) (dr:Drawn),s.toks<=tk->SubH s.heap h'->Walks prog w A I fp wr n P St->St 0 h'->S ∉ fp->(∀b∈wr,b∈wr0\/s.heap.objs.size<=b)->Q (.ref I) { s with heap:=h',toks:=tk,drawn:=dr }) ->
  wpAny (model prog w) A (pyIter it) Q E s
 hint:∀(s:Shared) (Q:Bool->Shared->Prop) (E:Value->Shared->Prop),SubH h s.heap->(∀b tk,s.toks<=tk->Q b { s with toks:=tk })->wpAny (model prog w) A (Builtin.List.listLengthHint it) Q E s
structure Bhd (wr0:List Addr)(S:Addr)(s s':Shared):Prop where
 heap:∀b o,b≠S->b ∉ wr0->s.heap.get? b=some o->s'.heap.get? b=some o
 gens:s'.gens=s.gens
 os:s'.os=s.os
section
variable {prog:Program}{w:World}{A:Around}{it:Value}{T:String}{h:Heap}{n:Nat}{P:Nat->Value->Prop}{wr0:List Addr}
theorem jgK {s:Shared}{R:Result->Shared->Prop}(Y:Itb prog w A.in1 it T h n P wr0)(hh:SubH h s.heap)(hn:n<=sizeLine)(S:Addr)(res:Value)(c₀:Nat)(hS0:h.objs.size<=S)
  (hS:s.heap.get? S=some { cls:=Value.type "list",data:=Data.seq #[] c₀ })
  (hR:∀(s':Shared) (acc':Array Value) (c':Nat),Bhd wr0 S s s'->s'.heap.get? S=some { cls:=Value.type "list",data:=Data.seq acc' c' }->ItemsOf P acc' n->R (Except.ok (Flow.ret res)) s') :
  wpAny (model prog w) A.in1 (Builtin.List.listExtendWith (Value.ref S) it res)
   (fun fin s'=>match fin with
    |Fin.done f=>R (Except.ok f) s'
    |Fin.again c'=>c'.quiet=true/\codeAny (model prog w) A c' R s')
   (fun e s'=>R (Except.error e) s') s:=by
 have hsame:Builtin.List.listSameRef (Value.ref S) it=false:=by
  cases it <;> try rfl
  rename_i a;have:=Y.ref a rfl;simp only[Builtin.List.listSameRef];exact beq_eq_false_iff_ne.mpr (Nat.ne_of_gt (jqE this hS0))
 have htl:(Value.type T == Value.type "list")=false:=by
  rw[beq_eq_false_iff_ne];intro z;injection z with z;exact Y.nl z
 have htt:(Value.type T == Value.type "tuple")=false:=by
  rw[beq_eq_false_iff_ne];intro z;injection z with z;exact Y.nt z
 unfold Builtin.List.listExtendWith;refine jqs (wpAny_typeOf (Y.ty s hh) ?_);rw[hsame,htl,htt];refine jqu rfl ?_;refine jqs (Y.iter s S _ _ hh hS0 (jqz hS) fun I fp wr St h' tk dr htk hsub W hst hSf hwr=>?_);refine jqs (jqw (Y.hint _ _ _ (hh.trans hsub) fun b tk2 htk2=>?_));have hS1:h'.get? S=some { cls:=Value.type "list",data:=Data.seq #[] c₀ }:=hsub S _ hS;have fin:∀(s1:Shared) (c:Nat),s1.gens=s.gens->s1.os=s.os->(∀b o,b≠S->h'.get? b=some o->s1.heap.get? b=some o)->s1.heap.get? S=some { cls:=Value.type "list",data:=Data.seq #[] c } ->
   codeAny (model prog w) A (Code.builtin "list.extend.loop" { pos:=[Value.ref S,Value.ref I,res] }) R s1:=fun s1 c hg ho hk hS2=>by
  refine codeAny_extend_loopS W.toS hn S hSf res n 0 s1 #[] c rfl (Nat.zero_le _) (W.frame 0 h' s1.heap hst fun b hb o e=>hk b o (fun z=>hSf (z ▸ hb)) e) hS2 ⟨rfl,fun j v e=>by simp at e⟩ fun s' acc' c' hm hS' hit=>?_
  refine hR s' acc' c' ⟨fun b o hb hw e=>hm.heap b o ?_ (hk b o hb (hsub b o e)),hm.gens.trans hg,hm.os.trans ho⟩ hS' hit;intro z;rcases List.mem_cons.mp z with z | z
  ·exact hb z
  ·rcases hwr b z with z | z
   ·exact hw z
   ·exact absurd (jqz e) (Nat.not_lt.mpr z)
 have go:∀(s1:Shared) (c:Nat),s1.gens=s.gens->s1.os=s.os->(∀b o,b≠S->h'.get? b=some o->s1.heap.get? b=some o)->s1.heap.get? S=some { cls:=Value.type "list",data:=Data.seq #[] c } ->
   wpAny (model prog w) A.in1 (again (Code.builtin "list.extend.loop" { pos:=[Value.ref S,Value.ref I,res] }))
   (fun fin s'=>match fin with
    |Fin.done f=>R (Except.ok f) s'
    |Fin.again c'=>c'.quiet=true/\codeAny (model prog w) A c' R s')
   (fun e s'=>R (Except.error e) s') s1:=fun s1 c hg ho hk hS2=>jqt ⟨plainId_quiet F.plain_extend_loop _,fin s1 c hg ho hk hS2⟩
 split
 ·refine jqs (wpAny_rule ?_);refine jqs ?_;unfold Builtin.List.listTouch;refine jqs (listUpdate_at hS1 rfl ?_ (by simp[sizeLine_eq]) (by simp[sizeLine_eq]))
  have e1:=jqB (Obj.mapSeq fun x=>x.push Value.none) hS1 rfl;refine listUpdate_at e1 rfl ?_ (by simp[sizeLine_eq]) (by simp[sizeLine_eq])
  have e2:=jqB (Obj.mapSeq fun x=>x.pop) e1 rfl;refine go _ _ rfl rfl (fun b o hb e=>?_) e2;exact(jqC _ _ (Ne.symm hb)).trans ((jqC _ _ (Ne.symm hb)).trans e)
 ·exact go _ c₀ rfl rfl (fun b o _ e=>e) hS1
theorem jdz {s:Shared}{R:Result->Shared->Prop}(Y:Itb prog w A.in1 it T h n P wr0)(hh:SubH h s.heap)(hn:n<=sizeLine)(S:Addr)(hS0:h.objs.size<=S)
  (hS:s.heap.get? S=some { cls:=Value.type "list",data:=Data.seq #[] })
  (hR:∀(s':Shared) (acc':Array Value) (c':Nat),Bhd wr0 S s s'->s'.heap.get? S=some { cls:=Value.type "list",data:=Data.seq acc' c' }->ItemsOf P acc' n->R (Except.ok (Flow.ret Value.none)) s') :
  wpAny (model prog w) A.in1 (Builtin.«list.__init__» { pos:=[Value.ref S,it] })
   (fun fin s'=>match fin with
    |Fin.done f=>R (Except.ok f) s'
    |Fin.again c'=>c'.quiet=true/\codeAny (model prog w) A c' R s')
   (fun e s'=>R (Except.error e) s') s:=by
 unfold Builtin.«list.__init__»;show wpAny (model prog w) A.in1 (do
    let old <-Builtin.List.listItems (Value.ref S)
    Builtin.List.listUpdate (Value.ref S) fun x=>#[]
    letGo old.toList.reverse
    Builtin.List.listExtendWith (Value.ref S) it Value.none) _ _ s
 refine jqs ?_;unfold Builtin.List.listItems;refine jqs (wpAny_seqItems hS rfl (jqt ?_));refine jqs (listUpdate_at hS rfl ?_ (by simp[sizeLine_eq]) (by simp[sizeLine_eq]))
 refine jqs (wpAny_letGo ?_);have hS2:=jqB (Obj.mapSeq fun x=>#[]) hS rfl;have oth:∀b o,b≠S->s.heap.get? b=some o->(s.heap.update S (Obj.mapSeq fun x=>#[])).get? b=some o:=fun b o hb e=>(jqC _ _ (Ne.symm hb)).trans e;refine jgK Y (fun b o e=>oth b o (jqF (jqE (jqz e) hS0)) (hh b o e)) hn S _ _ hS0 hS2 fun s' acc' c' bh hS' hit=>?_;exact hR s' acc' c' ⟨fun b o hb hw e=>bh.heap b o hb hw (oth b o hb e),bh.gens,bh.os⟩ hS' hit
theorem jdA {s:Shared}{Q E:Value->Shared->Prop}(Y:Itb prog w A.in1.in1 it T s.heap n P wr0)(hn:n<=sizeLine)
  (hQ:∀(s':Shared) (acc':Array Value) (c':Nat),Bhd wr0 s.heap.objs.size s s'->s'.heap.get? s.heap.objs.size=some { cls:=Value.type "list",data:=Data.seq acc' c' }->ItemsOf P acc' n->Q (.ref s.heap.objs.size) s') :
  wpAny (model prog w) A (call (Value.type "list") [it]) Q E s:=by
 refine callType_codes (Q₁:=fun obj s₁=>obj=.ref s.heap.objs.size/\s₁={ s with heap:=s.heap.push { cls:=Value.type "list",data:=Data.seq #[] } }) F.called_list (F.typeCall_list_1 it) F.entry_list_init (code_list_new it ⟨rfl,rfl⟩) fun obj s₁ h₁=>?_
 obtain⟨rfl,rfl⟩:=h₁;have hS:=jqA s.heap (o:={ cls:=Value.type "list",data:=Data.seq #[] }) rfl;refine⟨⟨_,hS,rfl⟩,F.args_list_init_2 _ it,jdz Y (SubH.push _) hn _ (jqD _) hS fun s' acc' c' bh hS' hit=>⟨rfl,hQ s' acc' c' ⟨fun b o hb hw e=>bh.heap b o hb hw (jqy _ e),bh.gens,bh.os⟩ hS' hit⟩⟩
theorem jiL:typeLookup (Value.type "list_reverseiterator") (Str.ofString "__len__")=pure none:=by rfl
theorem jkI:typeLookup (Value.type "list_reverseiterator") (Str.ofString "__length_hint__")=pure (some (Value.builtin "list_reverseiterator.__length_hint__")):=by rfl
theorem jm0:isSubtype (Value.type "list_reverseiterator") (Value.type "list_reverseiterator")=pure true:=by rfl
theorem jkJ {s:Shared}{l I:Addr}{items:Array Value}{A:Around}(hA:A.handled=none)(hI:s.heap.IsRevIter I l ((items.size:Int) - 1))(hl:s.heap.IsList l items)(ne:l≠I) :
  Itb prog w A (.ref I) "list_reverseiterator" s.heap items.size (fun i v=>items[items.size - 1 - i]?=some v) [I] where
 nl:=by decide
 nt:=by decide
 ty:=fun s' k=>by
  obtain⟨o,e,c⟩:=hI.typeIs;exact⟨o,k _ _ e,c⟩
 ref:=fun a z=>by
  cases z;obtain⟨o,e,c⟩:=hI.typeIs;exact jqz e
 iter:=fun s' S Q E k h1 h2 q=>by
  have W:=Walks.listRev (prog:=prog) (w:=w) hA I l ne items;obtain⟨o1,e1,c1,d1⟩:=hI;obtain⟨o2,e2,c2⟩:=hl;have st:0<=items.size/\s'.heap.IsRevIter I l ((items.size:Int) - 1 - (0:Nat))/\s'.heap.IsList l items:=⟨Nat.zero_le _,⟨o1,k _ _ e1,c1,by simpa using d1⟩,o2,k _ _ e2,c2⟩
  refine W.self 0 s' Q E st (q I _ _ _ s'.heap s'.toks s'.drawn (jqD _) SubH.refl W st (fun z=>?_) fun b hb=>.inl hb);rcases List.mem_cons.mp z with rfl | z
  ·exact absurd (jqz e1) (Nat.not_lt.mpr h1)
  ·have:S=l:=by simpa using z
   subst this;exact absurd (jqz e2) (Nat.not_lt.mpr h1)
 hint:=fun s' Q E k q=>by
  obtain⟨o1,e1,c1,d1⟩:=hI;have ty:s'.TypeIs (.ref I) "list_reverseiterator":=⟨o1,k _ _ e1,c1⟩;unfold Builtin.List.listLengthHint;refine jqs (wpAny_specialOf ty jiL ?_);refine jqu rfl ?_;refine jqu rfl ?_;refine jqs (wpAny_specialOf ty jkI ?_);refine jqs (wpAny_isInstance ty jm0 ?_);refine jqu rfl ?_;refine wpAny_ite_true rfl ?_;refine jqu rfl ?_;exact jqt (q false s'.toks (jqD _))
end
end L2
namespace L2
open PySem PySem.Spec PyProof.Rows
noncomputable def del (H:Hp)(b:Addr):Hp:=fun a=>if a=b then none else H a
theorem jby {H:Hp}{b a:Addr}(h:a≠b):del H b a=H a:=if_neg h
theorem jiM {H:Hp}{b:Addr}:del H b b=none:=if_pos rfl
theorem jkK {H:Hp}{b:Addr}{o:HO}(h:H b=none):del (upd H b o) b=H:=by
 funext a
 unfold del upd;by_cases e:a=b
 ·simp[e,h]
 ·simp[e]
section
variable {X:Cx}{pins:List (Addr×Obj)}{σ:St}{H:Hp}{s:Shared}
theorem Inv.gone (I:Inv X pins σ H s){b:Addr}{φ:Heap->Prop}(hb:H b=some (.ext φ))(h0:X.s₀.heap.objs.size<=b){s':Shared}(k:∀c o,c≠b->s.heap.get? c=some o->s'.heap.get? c=some o)(hg:s'.gens=s.gens)(ho:s'.os=s.os):Inv X pins σ (del H b) s':=by
 have ne0:∀c o,X.s₀.heap.get? c=some o->c≠b:=fun c o e=>jqF (jqE (jqz e) h0);have neN:∀c,H c=none->c≠b:=fun c e z=>by rw[z,hb]at e;cases e
 refine⟨I.ok,ho.trans I.os,by rw[hg];exact I.bare,⟨fun c o e n h1 h2=>k c o (ne0 c o e) (I.base.keep c o e n h1 h2),fun c o e n h1 h2=>?_,fun c o e n h1=>?_,fun c o e h1=>?_,fun c xs e=>?_,fun c o u e=>?_,fun c ps e=>?_⟩,?_,fun x c e=>?_,?_,fun x c e=>?_,fun p hp=>?_,fun a o e=>?_,I.len⟩
 ·obtain⟨sl,q⟩:=I.base.slot c o e n h1 h2;exact⟨sl,k c _ (ne0 c o e) q⟩
 ·rw[jby (ne0 c o e)];exact I.base.free c o e n h1
 ·obtain⟨o',q⟩:=I.base.there c o e h1;exact⟨o',k c _ (ne0 c o e) q⟩
 ·have q:=I.base.tups c xs e;rw[jby (fun z=>by rw[z,hb]at q;cases q)];exact q
 ·have q:=I.base.frzs c o u e;rw[jby (fun z=>by rw[z,hb]at q;cases q)];exact q
 ·obtain⟨m,q⟩:=I.base.tbls c ps e;exact⟨m,by rw[jby (fun z=>by rw[z,hb]at q;cases q)];exact q⟩
 ·obtain⟨m,hn,hl⟩:=I.loc;obtain⟨o,es,ep,e1,e2,e3,e4⟩:=hn;refine⟨m,⟨o,es,ep,k _ _ (neN _ I.free) e1,e2,e3,e4⟩,fun i x v h1 h2 h3=>?_⟩;obtain⟨u,r,lk⟩:=hl i x v h1 h2 h3;refine⟨u,r,lk.imp id fun ⟨h4,c,h5,o,h6⟩=>⟨h4,c,h5,o,k _ _ (neN _ (I.freeC x c h5)) h6.1,h6.2⟩⟩
 ·obtain⟨v,o,h6⟩:=I.cell x c e;exact⟨v,o,k _ _ (neN _ (I.freeC x c e)) h6.1,h6.2⟩
 ·rw[jby (neN _ I.free)];exact I.free
 ·rw[jby (neN _ (I.freeC x c e))];exact I.freeC x c e
 ·obtain⟨h1,h2,h3⟩:=I.pin p hp;exact⟨k _ _ (neN _ h2) h1,by rw[jby (neN _ h2)];exact h2,h3⟩
 ·have hne:a≠b:=fun z=>by rw[z,jiM]at e;cases e
  rw[jby hne]at e;refine(I.hok a o e).stay (fun c u hc q=>k c u (fun z=>?_) q) (fun c hc=>?_) fun c xs hc=>?_
  ·rcases hc with hc | hc
   ·exact hne (hc.symm.trans z)
   ·rw[z,hb]at hc;cases hc
  ·rw[jby (fun z=>by rw[z,hb]at hc;cases hc)];exact hc
  ·rw[jby (fun z=>by rw[z,hb]at hc;cases hc)];exact hc
theorem Inv.track (I:Inv X pins σ H s){a:Addr}{o:HO}(hn:H a=none)(h0:X.s₀.heap.objs.size<=a)(hL:a≠X.env.locals)(hC:∀x c,X.env.cells.lookup x=some c->c≠a)(hP:∀p∈X.pn++pins,p.1≠a)(new:ObjOk X.prog X.w (upd H a o) s.heap a o):Inv X pins σ (upd H a o) s:=by
 have ne0:∀c o,X.s₀.heap.get? c=some o->c≠a:=fun c o e=>jqF (jqE (jqz e) h0);refine⟨I.ok,I.os,I.bare,⟨I.base.keep,I.base.slot,fun c u e n h1=>?_,I.base.there,fun c xs e=>?_,fun c u v e=>?_,fun c ps e=>?_⟩,I.loc,I.cell,?_,fun x c e=>?_,fun p hp=>?_,fun b u e=>?_,I.len⟩
 ·rw[jac (ne0 c u e)];exact I.base.free c u e n h1
 ·have q:=I.base.tups c xs e;rw[jac (jab q hn)];exact q
 ·have q:=I.base.frzs c u v e;rw[jac (jab q hn)];exact q
 ·obtain⟨m,q⟩:=I.base.tbls c ps e;exact⟨m,by rw[jac (jab q hn)];exact q⟩
 ·rw[jac (Ne.symm hL)];exact I.free
 ·rw[jac (hC x c e)];exact I.freeC x c e
 ·obtain⟨h1,h2,h3⟩:=I.pin p hp;exact⟨h1,by rw[jac (hP p hp)];exact h2,h3⟩
 ·by_cases hb:b=a
  ·subst hb;rw[jam]at e;cases e;exact new
  ·rw[jac hb]at e;exact(I.hok b u e).stay (fun c v _ q=>q) (fun c q=>by rw[jac (jab q hn)];exact q) fun c xs q=>by rw[jac (jab q hn)];exact q
theorem Inv.above (I:Inv X pins σ H s):X.s₀.heap.objs.size<=s.heap.objs.size:=by
 obtain⟨m,hn,_⟩:=I.loc;exact jqG I.ok.above (Nat.le_of_lt hn.lt)
theorem Inv.new (I:Inv X pins σ H s){a:Addr}(ha:s.heap.objs.size<=a):X.s₀.heap.objs.size<=a/\a≠X.env.locals/\(∀x c,X.env.cells.lookup x=some c->c≠a)/\(∀p∈X.pn++pins,p.1≠a)/\H a=none:=by
 refine⟨jqG I.above ha,fun z=>?_,fun x c e z=>?_,fun p hp z=>?_,I.hok.fresh ha⟩
 ·obtain⟨m,hn,_⟩:=I.loc;rw[z]at ha;exact jqH _ (jqE hn.lt ha)
 ·obtain⟨v,o,h6,_⟩:=I.cell x c e;rw[<-z]at ha;exact jqH _ (jqE (jqz h6) ha)
 ·have h6:=(I.pin p hp).1;rw[<-z]at ha;exact jqH _ (jqE (jqz h6) ha)
theorem Inv.goneLaid (I:Inv X pins σ H s){b a:Addr}{φ:Heap->Prop}{o:HO}(hb:H b=some (.ext φ))(h0:X.s₀.heap.objs.size<=b){s':Shared}(k:∀c o,c≠b->s.heap.get? c=some o->s'.heap.get? c=some o)(hg:s'.gens=s.gens)(ho:s'.os=s.os)(ha:s.heap.objs.size<=a)(new:ObjOk X.prog X.w (upd (del H b) a o) s'.heap a o):Inv X pins σ (upd (del H b) a o) s':=by
 obtain⟨n0,n1,n2,n3,n4⟩:=I.new ha;exact(I.gone hb h0 k hg ho).track (by unfold del;split <;> first | rfl | exact n4) n0 n1 n2 n3 new
noncomputable def jgL (X:Cx)(I p:Addr)(n:Nat):Heap->Prop:=fun h=>h.IsRevIter I p ((n:Int) - 1)/\X.s₀.heap.objs.size<=I/\p≠I
theorem jcu:CallR X (.type "reversed") (fun xs H Q=>∃p ys,xs=[.ref p]/\SqL X.K H p ys/\∀I,H I=none->Q (.ref I) (upd H I (.ext (jgL X I p ys.length)))):=by
 intro pins s σ H xs us Q I r h;obtain⟨p,ys,rfl,hq,q⟩:=h;obtain⟨u,rfl,rx⟩:=jbQ r;cases rx;obtain⟨its,r',pl,hz⟩:=I.list hq;have hlen:=r'.length;refine call_reversed_list pl.isList ?_;have hp:p≠s.heap.objs.size:=by obtain⟨o,n,e,_⟩:=pl;exact jqF (jqz e)
 refine⟨.ref s.heap.objs.size,_,I.laid (t':=s.toks) (o:=.ext (jgL X s.heap.objs.size p ys.length)) (fun b o e=>jqy _ e) (jqD _) ⟨⟨⟨_,jqA s.heap rfl,rfl,?_⟩,I.above,hp⟩,⟨_,jqA s.heap rfl⟩,?_⟩,rfl,q _ (I.hok.fresh (jqD _))⟩
 ·rw[jp8,<-hlen];rfl
 ·rintro h1 h2 ⟨⟨o,e,c⟩,z⟩ k;exact⟨⟨o,k _ e,c⟩,z⟩
theorem jgM {its:List Value}{acc:Array Value}(h:ItemsOf (fun i v=>its.toArray[its.toArray.size - 1 - i]?=some v) acc its.toArray.size):acc.toList=its.reverse:=by
 obtain⟨h1,h2⟩:=h;simp only[jp8]at h1 h2;apply List.ext_getElem?;intro i;by_cases hi:i < acc.size
 ·have:=h2 i acc[i] (by simp[hi])
  rw[List.getElem?_reverse (by omega)]
  rw[Array.getElem?_toList,Array.getElem?_eq_getElem hi];simpa using this.symm
 ·rw[jqk (by simp;omega),jqk]
  simp;omega
theorem jc4 (hc:X.calm=true):CallR X (.type "list") (fun xs H Q=>∃I p ys,xs=[.ref I]/\H I=some (.ext (jgL X I p ys.length))/\SqL X.K H p ys/\∀l,del H I l=none->Q (.ref l) (upd (del H I) l (.lst ys.reverse))):=by
 intro pins s σ H xs us Q I r h;obtain⟨J,p,ys,rfl,hJ,hq,q⟩:=h;obtain⟨u,rfl,rx⟩:=jbQ r;cases rx;obtain⟨its,r',pl,hz⟩:=I.list hq;have hlen:=r'.length;obtain⟨⟨hr,h0,hne⟩,_,_⟩:=I.hok J _ hJ;have hA:X.A.in1.in1.handled=none:=I.ok.hd hc;have hsz:its.toArray.size=ys.length:=by rw[jp8];exact hlen.symm
 refine jdA (jkJ (items:=its.toArray) hA (by rw[hsz];exact hr) pl.isList hne) (by rw[hsz];exact hz) fun s' acc c' bh e it=>?_
 have ea:=jgM it;have ha:acc=its.reverse.toArray:=by rw[<-ea]
 refine⟨.ref s.heap.objs.size,_,I.goneLaid (o:=.lst ys.reverse) hJ h0 (fun c o z e=>bh.heap c o (jqF (jqz e)) (by simpa using z) e) bh.gens bh.os (jqD _) ⟨by simpa using hz,its.reverse,c',r'.reverse,by rw[e,ha]⟩,rfl,q _ ?_⟩
 unfold del;split
 ·rfl
 ·exact I.hok.fresh (jqD _)
end
end L2
namespace RT
open PySem PySem.Spec PyProof.Rows L2
end RT
namespace RT
open PySem PySem.Spec PyProof.Rows L2
noncomputable def obj (l:Addr)(i:Int):Obj:={ cls:=.type "reversed",data:=.fields #[.ref l,rawInt i] }
noncomputable def IsRv (h:Heap)(a l:Addr)(i:Int):Prop:=∃o,h.get? a=some o/\o.cls=.type "reversed"/\o.data=.fields #[.ref l,rawInt i]
section
variable {prog:Program}{w:World}{A:Around}{E:Value->Shared->Prop}{s:Shared}
theorem IsRv.typeIs {a l:Addr}{i:Int}(x:IsRv s.heap a l i):s.TypeIs (.ref a) "reversed":=let ⟨o,ho,hc,_⟩:=x;⟨o,ho,hc⟩
theorem IsRv.at {h h':Heap}{a l:Addr}{i:Int}(x:IsRv h a l i)(e:∀o,h.get? a=some o->h'.get? a=some o):IsRv h' a l i:=let ⟨o,ho,r⟩:=x;⟨o,e _ ho,r⟩
end
section
variable {X:Cx}{pins:List (Addr×Obj)}{σ:L2.St}{H:Hp}{s:Shared}
end
end RT
namespace KS
open PySem PySem.W PyProof.Rows
section
variable {lt:Nat->Nat->Bool}{p:Array Nat}
noncomputable def le (lt:Nat->Nat->Bool)(a b:Nat):Prop:=lt b a=false
structure Ord (lt:Nat->Nat->Bool):Prop where
 asym:∀a b,lt a b=true->lt b a=false
 trans:∀a b c,le lt a b->le lt b c->le lt a c
theorem Ord.refl (O:Ord lt)(a:Nat):le lt a a:=by
 unfold le;cases h:lt a a with
 |false=>rfl
 |true=>exact absurd (O.asym a a h) (by rw[h];decide)
noncomputable def at_ (p:Array Nat)(i:Nat):Nat:=p.getD i 0
noncomputable def Up (lt:Nat->Nat->Bool)(p:Array Nat)(k:Nat):Prop:=∀i j,i<=j->j < k->le lt (at_ p i) (at_ p j)
noncomputable def Dn (lt:Nat->Nat->Bool)(p:Array Nat)(k:Nat):Prop:=∀i j,i<=j->j < k->le lt (at_ p j) (at_ p i)
theorem Up.succ (O:Ord lt){n:Nat}(h1:1<=n)(h:Up lt p n)(hn:le lt (at_ p (n - 1)) (at_ p n)):Up lt p (n + 1):=fun i j hij hj=>by
 by_cases e:j=n
 ·subst e;by_cases e2:i=j
  ·subst e2;exact O.refl _
  ·exact O.trans _ _ _ (h i (j - 1) (by omega) (by omega)) hn
 ·exact h i j hij (by omega)
theorem Dn.succ (O:Ord lt){n:Nat}(h1:1<=n)(h:Dn lt p n)(hn:le lt (at_ p n) (at_ p (n - 1))):Dn lt p (n + 1):=fun i j hij hj=>by
 by_cases e:j=n
 ·subst e;by_cases e2:i=j
  ·subst e2;exact O.refl _
  ·exact O.trans _ _ _ hn (h i (j - 1) (by omega) (by omega))
 ·exact h i j hij (by omega)
end
end KS
namespace KS
open PySem PySem.W PyProof.Rows
inductive AllA {α:Type} (N:Nat) (R:α->Prop):KasT α->Prop where
 |ret {a:α} (h:R a):AllA N R (.ret a)
 |ask {i j:Nat}{k:Bool->KasT α} (hi:i < N) (hj:j < N) (h:∀b,AllA N R (k b)):AllA N R (.ask i j k)
theorem AllA.bind {α β:Type}{N:Nat}{R:α->Prop}{R':β->Prop}{f:α->KasT β}{t:KasT α}(h:AllA N R t)(hf:∀a,R a->AllA N R' (f a)):AllA N R' (t.bind f):=by
 induction h with
 |ret h=>exact hf _ h
 |ask hi hj _ ih=>exact .ask hi hj ih
noncomputable def LtN (N:Nat)(p:Array Nat):Prop:=0 < N/\∀x∈p,x < N
theorem LtN.get {N:Nat}{p:Array Nat}(h:LtN N p)(i:Nat):p.getD i 0 < N:=by
 by_cases hi:i < p.size
 ·simp only[Array.getD,hi,dite_true];exact h.2 _ (Array.getElem_mem hi)
 ·simp only[Array.getD,hi,dite_false];exact h.1
theorem LtN.perm {N:Nat}{p q:Array Nat}(h:LtN N p)(e:q.Perm p):LtN N q:=⟨h.1,fun x hx=>h.2 x (e.mem_iff.mp hx)⟩
end KS
namespace HS
open PySem
noncomputable def g:Nat->Nat->Nat
 |0,a=>a
 |n + 1,a=>5 * g n a + 1
theorem jm1 (n m a:Nat):g (n + m) a=g n (g m a):=by
 induction n with
 |zero=>simp[g]
 |succ n ih=>rw[Nat.succ_add,g,ih,g]
theorem jow (n a:Nat):g n a=5 ^ n * a + g n 0:=by
 induction n with
 |zero=>simp[g]
 |succ n ih=>
  rw[g,ih,g,Nat.pow_succ,Nat.mul_add,Nat.add_assoc];congr 1;rw[Nat.mul_comm (5 ^ n) 5,Nat.mul_assoc]
theorem jm2 (n:Nat):4 * g n 0 + 1=5 ^ n:=by
 induction n with
 |zero=>rfl
 |succ n ih=>rw[g,Nat.pow_succ,<-ih];omega
theorem jiN (k:Nat):∃v,5 ^ 2 ^ k=1 + 2 ^ (k + 2) * (2 * v + 1):=by
 induction k with
 |zero=>exact⟨0,rfl⟩
 |succ k ih=>
  obtain⟨v,e⟩:=ih;refine⟨v + 2 ^ k * (2 * v + 1) * (2 * v + 1),?_⟩;rw[Nat.pow_succ,Nat.pow_mul,e];have h1:2 ^ (k + 2)=4 * 2 ^ k:=by rw[Nat.pow_add];omega
  have h2:2 ^ (k + 1 + 2)=8 * 2 ^ k:=by rw[show k + 1 + 2=k + 3 by omega,Nat.pow_add];omega
  rw[h1,h2];generalize 2 ^ k=p;grind
theorem jox (k a:Nat):∃c,g (2 ^ k) a=a + 2 ^ k + 2 ^ (k + 1) * c:=by
 obtain⟨v,e⟩:=jiN k;have f:=jm2 (2 ^ k);have h1:2 ^ (k + 2)=4 * 2 ^ k:=by rw[Nat.pow_add];omega
 have h2:2 ^ (k + 1)=2 * 2 ^ k:=by rw[Nat.pow_add];omega
 rw[e,h1]at f;have f0:g (2 ^ k) 0=2 ^ k * (2 * v + 1):=by
  have:4 * g (2 ^ k) 0=4 * (2 ^ k * (2 * v + 1)):=by rw[<-Nat.mul_assoc];omega
  omega
 rw[jow,e,f0,h1,h2];generalize 2 ^ k=p;exact⟨2 * (2 * v + 1) * a + v,by grind⟩
theorem jm3 {m a b:Nat}(h:a % m=b % m):∀n,g n a % m=g n b % m
 |0=>h
 |n + 1=>by
  rw[g,g,Nat.add_mod,Nat.mul_mod,jm3 h n,<-Nat.mul_mod,<-Nat.add_mod]
theorem joy (k:Nat):∀a x,x < 2 ^ k->∃n,n < 2 ^ k/\g n a % 2 ^ k=x:=by
 induction k with
 |zero=>intro a x h;exact⟨0,by omega,by simp[g,Nat.mod_one];omega⟩
 |succ k ih=>
  intro a x h;have hp:2 ^ (k + 1)=2 * 2 ^ k:=by rw[Nat.pow_succ];omega
  obtain⟨n,hn,e⟩:=ih a (x % 2 ^ k) (Nat.mod_lt _ (Nat.two_pow_pos k));have hq:g n a % 2 ^ (k + 1) % 2 ^ k=g n a % 2 ^ k:=Nat.mod_mod_of_dvd _ ⟨2,by omega⟩
  have hlt:g n a % 2 ^ (k + 1) < 2 ^ (k + 1):=Nat.mod_lt _ (Nat.two_pow_pos _);by_cases hx:g n a % 2 ^ (k + 1)=x
  ·exact⟨n,by omega,hx⟩
  ·refine⟨2 ^ k + n,by omega,?_⟩
   obtain⟨c,ec⟩:=jox k (g n a);rw[jm1,ec,Nat.add_mul_mod_self_left,Nat.add_mod];generalize hy:g n a % 2 ^ (k + 1)=y at *;have h3:2 ^ k % 2 ^ (k + 1)=2 ^ k:=Nat.mod_eq_of_lt (by have:=Nat.two_pow_pos k;omega)
   rw[h3,hp];rw[hp]at h hlt;have hpos:=Nat.two_pow_pos k;generalize 2 ^ k=p at *;have d1:=Nat.div_add_mod y p;have d2:=Nat.div_add_mod x p;have l1:y / p < 2:=(Nat.div_lt_iff_lt_mul hpos).mpr hlt;have l2:x / p < 2:=(Nat.div_lt_iff_lt_mul hpos).mpr h;have hm:y % p=x % p:=by rw[hq,e]
   clear ec h3 hy e hq;have m1:=Nat.mod_lt y hpos;have m2:=Nat.mod_lt x hpos;have c1:y / p=0\/y / p=1:=by generalize y / p=z at l1;omega
   have c2:x / p=0\/x / p=1:=by generalize x / p=z at l2;omega
   rcases c1 with c1 | c1 <;> rcases c2 with c2 | c2 <;> rw[c1]at d1 <;> rw[c2]at d2
   ·omega
   ·rw[Nat.mod_eq_of_lt (by omega)];omega
   ·have:y + p=x + 2 * p:=by omega
    rw[this,Nat.add_mod_right,Nat.mod_eq_of_lt (by omega)]
   ·omega
noncomputable abbrev lp (mask i p:Nat):Nat×Nat:=SetTable.leap mask i p
noncomputable def run (mask i:Nat):List Nat:=(List.range (SetTable.runEnd mask i + 1 - i)).map (i + ·)
noncomputable def pth (mask:Nat):Nat->Nat->Nat->List Nat
 |0,_,_=>[]
 |N + 1,i,p=>run mask i++pth mask N (lp mask i p).1 (lp mask i p).2
theorem jgN (mask i:Nat):i<=SetTable.runEnd mask i:=by unfold SetTable.runEnd;split <;> omega
theorem jgO {mask i:Nat}(h:i<=mask):SetTable.runEnd mask i<=mask:=by unfold SetTable.runEnd;split <;> omega
theorem jiO (mask i:Nat):i∈run mask i:=by
 have:=jgN mask i;exact List.mem_map.mpr ⟨0,List.mem_range.mpr (by omega),rfl⟩
theorem jm4 {mask i j:Nat}(h:i<=mask)(hj:j∈run mask i):j<=mask:=by
 obtain⟨a,ha,rfl⟩:=List.mem_map.mp hj;have:=Nat.add_lt_of_lt_sub' (List.mem_range.mp ha);exact jqG (Nat.le_of_lt_succ this) (jgO h)
theorem jm5 (mask i p:Nat):(lp mask i p).1<=mask:=by
 show (i * 5 + 1 + p / 32) % (mask + 1)<=mask;exact Nat.le_of_lt_succ (Nat.mod_lt (i * 5 + 1 + p / 32) (Nat.succ_pos mask))
theorem jjV {mask:Nat}:∀{N i p j:Nat},i<=mask->j∈pth mask N i p->j<=mask
 |0,_,_,_,_,h=>by cases h
 |N + 1,i,p,j,hi,h=>by
  rcases List.mem_append.mp h with h | h
  ·exact jm4 hi h
  ·exact jjV (jm5 mask i p) h
noncomputable def it (mask:Nat):Nat->Nat×Nat->Nat×Nat
 |0,s=>s
 |n + 1,s=>it mask n (lp mask s.1 s.2)
theorem jjW (mask:Nat):∀{N n i p:Nat},n < N->(it mask n (i,p)).1∈pth mask N i p
 |0,_,_,_,h=>by omega
 |N + 1,0,i,p,_=>jqp _ (jiO mask i)
 |N + 1,n + 1,i,p,h=>jqf _ (jjW mask (n:=n) (by omega))
theorem jjX (mask:Nat):∀(n m:Nat) (s:Nat×Nat),it mask (n + m) s=it mask m (it mask n s)
 |0,m,s=>by rw[Nat.zero_add];rfl
 |n + 1,m,s=>by rw[Nat.succ_add];exact jjX mask n m _
theorem jpm (mask:Nat):∀(n:Nat) (s:Nat×Nat),(it mask n s).2=s.2 / 32 ^ n
 |0,s=>by simp[it]
 |n + 1,s=>by
  show (it mask n (lp mask s.1 s.2)).2=_;rw[jpm mask n];show s.2 / 32 / 32 ^ n=_;rw[Nat.div_div_eq_div_mul,Nat.pow_succ,Nat.mul_comm]
theorem jgP (mask:Nat):∀(n i:Nat),i<=mask->(it mask n (i,0)).1=g n i % (mask + 1)
 |0,i,h=>by simp only[it,g];exact(Nat.mod_eq_of_lt (Nat.lt_succ_of_le h)).symm
 |n + 1,i,h=>by
  show (it mask n (lp mask i 0)).1=_;have e:lp mask i 0=((5 * i + 1) % (mask + 1),0):=by simp[lp,SetTable.leap,Nat.mul_comm]
  rw[e,jgP mask n _ (Nat.le_of_lt_succ (Nat.mod_lt (5 * i + 1) (Nat.succ_pos mask)))];have:g (n + 1) i=g n (5 * i + 1):=jm1 n 1 i;rw[this];exact jm3 (Nat.mod_mod _ _) n
theorem jm6 (mask:Nat):∀(n:Nat) (s:Nat×Nat),s.1<=mask->(it mask n s).1<=mask
 |0,s,h=>h
 |n + 1,s,h=>jm6 mask n _ (jm5 mask s.1 s.2)
theorem jgQ {mask k i p:Nat}(hk:mask + 1=2 ^ k)(hi:i<=mask)(hp:p < 2 ^ 64):∀x,x<=mask->x∈pth mask (mask + 15) i p:=by
 intro x hx;have z:(it mask 13 (i,p)).2=0:=by
  rw[jpm];exact Nat.div_eq_of_lt (Nat.lt_trans hp (by decide))
 obtain⟨n,hn,e⟩:=joy k (it mask 13 (i,p)).1 x (by omega)
 have h13:=jm6 mask 13 (i,p) hi;have:(it mask (13 + n) (i,p)).1=x:=by
  rw[jjX];have:it mask 13 (i,p)=((it mask 13 (i,p)).1,0):=Prod.ext rfl z;rw[this,jgP mask n _ h13,hk];exact e
 rw[<-this];exact jjW mask (by omega)
theorem jbS {occ:Nat->Bool}:∀{l:List Nat},(∃x∈l,occ x=false)->∃pre j post,l=pre++j::post/\occ j=false/\∀q∈pre,occ q=true
 |[],h=>by obtain⟨x,hx,_⟩:=h;cases hx
 |a::l,h=>by
  cases ha:occ a with
  |false=>exact⟨[],a,l,rfl,ha,fun q hq=>by cases hq⟩
  |true=>
   obtain⟨x,hx,ex⟩:=h;rcases List.mem_cons.mp hx with rfl | hx
   ·rw[ha]at ex;cases ex
   ·obtain⟨pre,j,post,e,hj,hp⟩:=jbS ⟨x,hx,ex⟩;exact⟨a::pre,j,post,by rw[e];rfl,hj,fun q hq=>(List.mem_cons.mp hq).elim (fun z=>z ▸ ha) (hp q)⟩
theorem jcO {f:Nat->Bool}:∀{pre:List Nat}{j:Nat}{post:List Nat},f j=true->(∀q∈pre,f q=false)->(pre++j::post).find? f=some j
 |[],j,post,h,_=>by simp[h]
 |a::pre,j,post,h,hp=>by
  rw[List.cons_append,List.find?_cons,hp a jp7];exact jcO h fun q hq=>hp q (jp6 _ hq)
theorem jgR (mask:Nat)(owner:Array (Option Nat)):∀(N i p:Nat),SetTable.layClean.free mask owner N i p=(pth mask N i p).find? fun j=>(owner.getD j (some 0)).isNone
 |0,i,p=>by rw[SetTable.layClean.free.eq_1];rfl
 |N + 1,i,p=>by
  rw[SetTable.layClean.free.eq_2,pth,List.find?_append,run,List.find?_map];cases e:List.find? (fun k=>(owner.getD (i + k) (some 0)).isNone) (List.range (SetTable.runEnd mask i + 1 - i))with
  |some k=>
   have e':List.find? ((fun j=>(owner.getD j (some 0)).isNone) ∘ fun x=>i + x) (List.range (SetTable.runEnd mask i + 1 - i))=some k:=e;rw[e'];rfl
  |none=>
   have e':List.find? ((fun j=>(owner.getD j (some 0)).isNone) ∘ fun x=>i + x) (List.range (SetTable.runEnd mask i + 1 - i))=none:=e;rw[e'];exact jgR mask owner N _ _
end HS
namespace HS
open PySem
noncomputable def lst (mask:Nat)(p:SetTable.Probe)(N:Nat):List Nat:=(List.range (p.more + 1)).map (p.j + ·)++pth mask N (lp mask p.i p.perturb).1 (lp mask p.i p.perturb).2
noncomputable def Asc (xs:List Nat):Prop:=xs.Pairwise (· < ·)
theorem Asc.get {xs:List Nat}(h:Asc xs){a b:Nat}(hab:a < b)(hb:b < xs.length):xs[a] < xs[b]:=List.pairwise_iff_getElem.mp h a b (by omega) hb hab
structure Blw (xs:List Nat)(j r:Nat):Prop where
 le:r<=xs.length
 lo:∀a (h:a < xs.length),a < r->xs[a] < j
 hi:∀a (h:a < xs.length),r<=a->j<=xs[a]
noncomputable def jei (mask:Nat)(h:Int):List Nat:=pth mask (mask + 15) (SetTable.bits h % (mask + 1)) (SetTable.bits h)
noncomputable def Leads (mask:Nat)(O:Nat->Prop)(h:Int)(j:Nat):Prop:=∃pre post,jei mask h=pre++j::post/\∀q∈pre,O q
structure TabOk (mask:Nat)(place:List Nat)(hs:List Int):Prop where
 pow:∃k,mask + 1=2 ^ k
 asc:Asc place
 top:∀j∈place,j<=mask
 len:place.length=hs.length
 way:∀(i j:Nat) (h:Int),place[i]?=some j->hs[i]?=some h->Leads mask (·∈place) h j
theorem jkL (h:Int):SetTable.bits h < 2 ^ 64:=by
 unfold SetTable.bits;omega
theorem jgS {mask k:Nat}(hk:mask + 1=2 ^ k)(h:Int){x:Nat}(hx:x<=mask):x∈jei mask h:=
 jgQ hk (Nat.le_of_lt_succ (Nat.mod_lt _ (Nat.succ_pos mask))) (jkL h) x hx
theorem jjY (mask:Nat)(h:Int){x:Nat}(hx:x∈jei mask h):x<=mask:=jjV (Nat.le_of_lt_succ (Nat.mod_lt _ (Nat.succ_pos mask))) hx
theorem jiP {n:Nat}{l:List Nat}(hl:l.length < n):∃x,x < n/\x ∉ l:=by
 induction n generalizing l with
 |zero=>omega
 |succ n ih=>
  by_cases hn:n∈l
  ·obtain⟨x,h1,h2⟩:=ih (l:=l.erase n) (by rw[List.length_erase_of_mem hn];have:=List.length_pos_of_mem hn;omega)
   refine⟨x,by omega,fun z=>h2 ?_⟩
   exact(List.mem_erase_of_ne (by omega)).mpr z
  ·exact⟨n,by omega,hn⟩
theorem TabOk.free {mask:Nat}{place:List Nat}{hs:List Int}(T:TabOk mask place hs)(hf:place.length<=mask)(h:Int):∃pre j post,jei mask h=pre++j::post/\j ∉ place/\∀q∈pre,q∈place:=by
 obtain⟨k,hk⟩:=T.pow;obtain⟨x,h1,h2⟩:=jiP (n:=mask + 1) (l:=place) (by omega)
 obtain⟨pre,j,post,e,hj,hp⟩:=jbS (occ:=fun q=>decide (q∈place)) (l:=jei mask h) ⟨x,jgS hk h (by omega),decide_eq_false h2⟩
 exact⟨pre,j,post,e,of_decide_eq_false hj,fun q hq=>of_decide_eq_true (hp q hq)⟩
theorem Leads.mono {mask:Nat}{O O':Nat->Prop}{h:Int}{j:Nat}(l:Leads mask O h j)(k:∀q,O q->O' q):Leads mask O' h j:=
 let ⟨pre,post,e,hp⟩:=l;⟨pre,post,e,fun q hq=>k q (hp q hq)⟩
theorem jkM {place:List Nat}{j r:Nat}(b:Blw place j r)(asc:Asc place)(hj:j ∉ place):Asc (place.take r++j::place.drop r):=by
 unfold Asc;rw[List.pairwise_append];refine⟨List.Pairwise.sublist (List.take_sublist _ _) asc,List.pairwise_cons.mpr ⟨fun x hx=>?_,List.Pairwise.sublist (List.drop_sublist _ _) asc⟩,fun x hx y hy=>?_⟩
 ·obtain⟨i,hi,e⟩:=List.getElem_of_mem hx;rw[List.length_drop]at hi;rw[List.getElem_drop]at e;have:=b.hi (r + i) (by omega) (by omega)
  rw[e]at this;have:j≠x:=fun z=>hj (z ▸ List.mem_of_mem_drop hx);omega
 ·obtain⟨i,hi,e⟩:=List.getElem_of_mem hx;rw[List.length_take]at hi;rw[List.getElem_take]at e;have hxj:x < j:=by rw[<-e];exact b.lo i (by omega) (by omega)
  rcases List.mem_cons.mp hy with rfl | hy
  ·exact hxj
  ·obtain⟨i',hi',e'⟩:=List.getElem_of_mem hy;rw[List.length_drop]at hi';rw[List.getElem_drop]at e';have:=b.hi (r + i') (by omega) (by omega)
   rw[e']at this;omega
theorem jgT {α:Type}{xs:List α}{r:Nat}{x:α}(hr:r<=xs.length)(i:Nat):(xs.take r++x::xs.drop r)[i]?=if i < r then xs[i]? else if i=r then some x else xs[i - 1]?:=by
 have hl:(xs.take r).length=r:=by rw[List.length_take];omega
 by_cases h1:i < r
 ·rw[if_pos h1,jql (by omega),List.getElem?_take,if_pos h1]
 ·rw[if_neg h1,jqh (by omega),hl]
  by_cases h2:i=r
  ·subst h2;simp
  ·rw[if_neg h2];obtain⟨d,rfl⟩:∃d,i=r + d + 1:=⟨i - r - 1,by omega⟩
   rw[show r + d + 1 - r=d + 1 by omega,jqo,List.getElem?_drop]
   congr 1
theorem TabOk.put {mask:Nat}{place:List Nat}{hs:List Int}(T:TabOk mask place hs){r j:Nat}{h:Int}(b:Blw place j r)(hj:j ∉ place)(hm:j<=mask)(hl:Leads mask (·∈place) h j):TabOk mask (place.take r++j::place.drop r) (hs.take r++h::hs.drop r) where
 pow:=T.pow
 asc:=jkM b T.asc hj
 top:=fun x hx=>by
  rcases List.mem_append.mp hx with hx | hx
  ·exact T.top x (List.mem_of_mem_take hx)
  ·rcases List.mem_cons.mp hx with rfl | hx
   ·exact hm
   ·exact T.top x (List.mem_of_mem_drop hx)
 len:=by simp[T.len]
 way:=fun i x y hx hy=>by
  have hmem:∀q,q∈place->q∈place.take r++j::place.drop r:=fun q hq=>by
   rw[<-List.take_append_drop r place]at hq;rcases List.mem_append.mp hq with hq | hq
   ·exact jqp _ hq
   ·exact jqf _ (jp6 _ hq)
  rw[jgT b.le]at hx;rw[jgT (by rw[<-T.len];exact b.le)]at hy
  by_cases h1:i < r
  ·rw[if_pos h1]at hx hy;exact(T.way i x y hx hy).mono hmem
  ·rw[if_neg h1]at hx hy;by_cases h2:i=r
   ·rw[if_pos h2]at hx hy;cases hx;cases hy;exact hl.mono hmem
   ·rw[if_neg h2]at hx hy;exact(T.way _ x y hx hy).mono hmem
end HS
namespace HS
open PySem
noncomputable abbrev taken (l:List (Option Nat))(q:Nat):Prop:=∃z,l[q]?=some (some z)
structure OwnOk (mask:Nat)(l:List (Option Nat))(hs:List Int):Prop where
 size:l.length=mask + 1
 perm:(l.filterMap id).Perm (List.range hs.length)
 way:∀j z,l[j]?=some (some z)->∃h,hs[z]?=some h/\Leads mask (taken l) h j
theorem je0:∀{l:List (Option Nat)},(l.filterMap id).length < l.length->∃x,x < l.length/\l[x]?=some none
 |[],h=>by simp at h
 |none::l,h=>⟨0,by simp,rfl⟩
 |some a::l,h=>by
  obtain⟨x,h1,h2⟩:=je0 (l:=l) (by simpa using h)
  exact⟨x + 1,by simpa using h1,by simpa using h2⟩
theorem jej:∀{l:List (Option Nat)}{j k:Nat},l[j]?=some none->((l.set j (some k)).filterMap id).Perm (k::l.filterMap id)
 |[],j,k,h=>by simp at h
 |x::l,0,k,h=>by
  have:x=none:=by simpa using h
  subst this;simp
 |none::l,j + 1,k,h=>by
  have:=jej (l:=l) (j:=j) (k:=k) (by simpa using h)
  simpa using this
 |some a::l,j + 1,k,h=>by
  have:=jej (l:=l) (j:=j) (k:=k) (by simpa using h)
  simp only[List.set_cons_succ,jqj,id];exact(List.Perm.cons a this).trans (List.Perm.swap k a _)
theorem jgU {l:List (Option Nat)}{j k:Nat}(hj:j < l.length)(q:Nat):(l.set j (some k))[q]?=if j=q then some (some k)else l[q]?:=by
 rw[jp9];by_cases h:j=q
 ·rw[if_pos h,if_pos h,if_pos (h ▸ hj)]
 ·rw[if_neg h,if_neg h]
theorem OwnOk.step {mask:Nat}{owner:Array (Option Nat)}{hs:List Int}(O:OwnOk mask owner.toList hs)(hp:∃k,mask + 1=2 ^ k)(hl:hs.length<=mask)(h:Int) :
  ∃j,SetTable.layClean.free mask owner (SetTable.turns mask) (SetTable.bits h % (mask + 1)) (SetTable.bits h)=some j/\OwnOk mask (owner.setIfInBounds j (some hs.length)).toList (hs++[h]):=by
 obtain⟨kp,hkp⟩:=hp;have hlen:(owner.toList.filterMap id).length=hs.length:=by rw[O.perm.length_eq,List.length_range]
 obtain⟨x,hx,ex⟩:=je0 (l:=owner.toList) (by rw[hlen,O.size];omega)
 have isn:∀q,q<=mask->((owner.getD q (some 0)).isNone=true↔owner.toList[q]?=some none):=fun q hq=>by
  have hq':q < owner.size:=by have:=O.size;simp at this;omega
  simp only[Array.getD,hq',dite_true];rw[Array.getElem?_toList,Array.getElem?_eq_getElem hq',Option.isNone_iff_eq_none];simp
 obtain⟨pre,j,post,e,hj,hpre⟩:=jbS (occ:=fun q=>!(owner.getD q (some 0)).isNone) (l:=jei mask h) ⟨x,jgS hkp h (by have:=O.size;omega),by
  simp only[Bool.not_eq_false'];exact(isn x (by have:=O.size;omega)).mpr ex⟩
 have hjm:j<=mask:=jjY mask h (by rw[e];simp)
 have hjn:owner.toList[j]?=some none:=(isn j hjm).mp (by simpa using hj)
 have hjl:j < owner.toList.length:=by have:=O.size;omega
 have hpt:∀q∈pre,taken owner.toList q:=fun q hq=>by
  have hqm:q<=mask:=jjY mask h (by rw[e];exact jqp _ hq)
  have hq':q < owner.toList.length:=by have:=O.size;omega
  have:=hpre q hq;cases hv:owner.toList[q] with
  |none=>
   have h1:=(isn q hqm).mpr (by rw[jp5 hq',hv])
   have h2:(!(owner.getD q (some 0)).isNone)=true:=this;rw[h1]at h2;cases h2
  |some z=>exact⟨z,by rw[jp5 hq',hv]⟩
 refine⟨j,?_,?_⟩
 ·rw[jgR];show (jei mask h).find? _=_;rw[e];refine jcO (by simpa using hj) fun q hq=>?_
  have:=hpre q hq;simpa using this
 ·have es:(owner.setIfInBounds j (some hs.length)).toList=owner.toList.set j (some hs.length):=by simp
  rw[es];have mono:∀q,taken owner.toList q->taken (owner.toList.set j (some hs.length)) q:=fun q ⟨z,hz⟩=>by
   refine⟨z,?_⟩;rw[jgU hjl,if_neg]
   ·exact hz
   ·intro w;rw[<-w,hjn]at hz;cases hz
  refine⟨by rw[jqq];exact O.size,?_,fun q z hz=>?_⟩
  ·rw[jqi,List.length_singleton,List.range_succ];exact(jej hjn).trans ((List.Perm.cons _ O.perm).trans (List.perm_append_singleton _ _).symm)
  ·rw[jgU hjl]at hz;by_cases hq:j=q
   ·rw[if_pos hq]at hz;cases hz;subst hq;exact⟨h,by simp,pre,post,e,fun q hq=>mono q (hpt q hq)⟩
   ·rw[if_neg hq]at hz;obtain⟨h',e1,e2⟩:=O.way q z hz;exact⟨h',by rw[jql (List.getElem?_eq_some_iff.mp e1).1];exact e1,e2.mono mono⟩
end HS
namespace HS
open PySem PySem.Spec PyProof.Rows L2
noncomputable def tkz (prog:Program)(w:World)(Z:List Int->Addr->Prop):HeapKind prog w (List Int) where
 is:=fun h k a=>(tupleKind (intKind prog w)).is h k a/\Z k a
 hash:=(tupleKind (intKind prog w)).hash
 draws:=(tupleKind (intKind prog w)).draws
 room:=(tupleKind (intKind prog w)).room
 inj:=fun h1 h2=>(tupleKind (intKind prog w)).inj h1.1 h2.1
 keeps:=fun h1 h2 h3 h4=>⟨(tupleKind (intKind prog w)).keeps h1.1 h2 h3 h4,h1.2⟩
 pyHash:=fun h1 h2 q=>(tupleKind (intKind prog w)).pyHash h1 h2.1 q
 eqBool:=fun h1 h2 h3 q=>(tupleKind (intKind prog w)).eqBool h1 h2.1 h3.1 q
 quiet:=fun h1 q=>(tupleKind (intKind prog w)).quiet h1.1 q
section
variable {prog:Program}{w:World}{Z:List Int->Addr->Prop}{A:Around}{E:Value->Shared->Prop}{s:Shared}
noncomputable def El (prog:Program)(w:World)(Z:List Int->Addr->Prop)(h:Heap)(k:List Int)(e:Int×Value):Prop:=∃b,e=((tkz prog w Z).hash k,.ref b)/\(tkz prog w Z).is h k b
end
end HS
namespace HS
open PySem PySem.Spec PyProof.Rows L2
noncomputable def MaskOk (m:Nat):Prop:=m=7\/m=31\/m=127\/m=511\/m=2047\/m=8191
theorem MaskOk.pow {m:Nat}(h:MaskOk m):∃k,m + 1=2 ^ k:=by
 rcases h with rfl | rfl | rfl | rfl | rfl | rfl
 ·exact⟨3,rfl⟩
 ·exact⟨5,rfl⟩
 ·exact⟨7,rfl⟩
 ·exact⟨9,rfl⟩
 ·exact⟨11,rfl⟩
 ·exact⟨13,rfl⟩
theorem MaskOk.rng {m:Nat}(h:MaskOk m):7<=m/\m<=8191:=by rcases h with rfl | rfl | rfl | rfl | rfl | rfl <;> omega
structure Tbl (t:SetTable)(es:List (Int×Value)):Prop where
 nd:t.dummies=#[]
 pl:t.plain=true
 mo:MaskOk t.mask
 ok:TabOk t.mask t.place.toList (es.map (·.1))
 sm:es.length * 5 < t.mask * 3
theorem Tbl.fits {t:SetTable}{es:Array (Int×Value)}(T:Tbl t es.toList):t.fits es.size=true:=by
 have h1:=T.ok.len;have h2:=T.sm;have h3:=T.mo.rng;simp at h1 h2;unfold SetTable.fits SetTable.fill;rw[T.nd,h1];simp;omega
section
variable {prog:Program}{w:World}{Z:List Int->Addr->Prop}{A:Around}{E:Value->Shared->Prop}{s:Shared}
end
end HS
namespace HS
open PySem PySem.Spec PyProof.Rows L2
section
variable {prog:Program}{w:World}{Z:List Int->Addr->Prop}{A:Around}{E:Value->Shared->Prop}{s:Shared}
end
end HS
namespace HS
open PySem PySem.Spec PyProof.Rows L2
section
variable {prog:Program}{w:World}{Z:List Int->Addr->Prop}{A:Around}{E:Value->Shared->Prop}{s:Shared}
theorem items_int {ks:List Int}{vs:List Value}(h:PySem.ItemsAre (intKind prog w) ks vs):∀v∈vs,∃i t,v=Value.int i t:=by
 induction h with
 |nil=>intro v hv;cases hv
 |cons hk _ ih=>
  intro v hv;rcases List.mem_cons.mp hv with rfl | hv
  ·rename_i k _ _ _;have hk:Value.isInt k v=true:=hk;cases v <;> simp[Value.isInt]at hk
   exact⟨_,_,rfl⟩
  ·exact ih v hv
end
end HS
namespace HS
open PySem PySem.Spec PyProof.Rows L2
end HS
namespace HS
open PySem PySem.Spec PyProof.Rows L2
section
variable {prog:Program}{w:World}{Z:List Int->Addr->Prop}{A:Around}{E:Value->Shared->Prop}{s:Shared}
end
end HS
namespace HS
open PySem PySem.Spec PyProof.Rows L2
section
variable {prog:Program}{w:World}{Z:List Int->Addr->Prop}{A:Around}{E:Value->Shared->Prop}{s:Shared}
end
end HS
namespace HS
open PySem PySem.Spec PyProof.Rows L2
section
variable {prog:Program}{w:World}{Z:List Int->Addr->Prop}{A:Around}{E:Value->Shared->Prop}{s:Shared}
noncomputable def h0:Heap:={ objs:=#[] }
end
end HS
namespace HS
open PySem PySem.Spec PyProof.Rows L2
section
variable {prog:Program}{w:World}{Z:List Int->Addr->Prop}{A:Around}{E:Value->Shared->Prop}{s:Shared}
end
end HS
namespace L2
open PySem PySem.Spec PyProof.Rows HS
section
variable {X:Cx}{pins:List (Addr×Obj)}{σ:St}{H:Hp}{s:Shared}
end
end L2
namespace DJ
open PySem
inductive D where
 |non | bl (b:Bool) | int (i:Int) | str (x:Str) | tup (xs:List D) | lst (xs:List D) | dct (ks vs:List D) | exc (c:Nat)
 deriving Inhabited
inductive R (α:Type) where
 |ok (a:α) | err (c:Nat) | stk
namespace R
noncomputable def bind {α β:Type}(x:R α)(f:α->R β):R β:=match x with
 |ok a=>f a
 |err c=>err c
 |stk=>stk
noncomputable def noErr {α:Type}:R α->R α
 |ok a=>ok a
 |_=>stk
end R
inductive Op where | add | sub | mul | fdiv | mod | pow
inductive Cm where | eq | ne | lt | le | gt | ge | isn | notn
 |isin | notin
inductive Bf where | len | tuple | list | all | any | sum | min | max | sorted | ssorted | abs | int | revl | revt
 |str
 |isup
inductive Sm where | join | cnt | splt
inductive Ty where | int | bool | str | tuple | list | dict | exc (c:Nat) | verr
 deriving DecidableEq
mutual
inductive E where
 |lit (d:D)
 |var (i:Nat)
 |bin (o:Op) (a b:E)
 |cmp (o:Cm) (a b:E)
 |and (a b:E) | or (a b:E) | not (a:E) | ite (c a b:E)
 |tup (es:Es) | lst (es:Es)
 |idx (a b:E) | slc (a:E) (lo hi:Oe)
 |call (f:Nat) (fl:List Bool) (es:Es)
 |blt (f:Bf) (a:E)
 |sm (f:Sm) (a b:E)
 |isi (a:E) (ks:List Ty)
 |comp (elt:E) (tg:List Nat) (one:Bool) (n:Nat) (caps:List Nat) (it:It) (c:Oe)
 |pop (i:Nat)
inductive Es where
 |nil | cons (e:E) (es:Es)
inductive Oe where
 |none | some (e:E)
inductive It where
 |seq (e:E) | rng1 (a:E)
end
mutual
inductive S where
 |ret (e:E) | retN | expr (e:E) | asg (i:Nat) (e:E) | unp (is:List Nat) (e:E)
 |app (i:Nat) (e:E) | ext (i:Nat) (e:E)
 |rvs (i:Nat)
 |ife (c:E) (a b:Ss) | loop (tg:List Nat) (one:Bool) (it:It) (b:Ss) | whl (c:E) (b:Ss)
 |brk | cnt | pas | rai (c:Nat) (e:E)
inductive Ss where
 |nil | cons (s:S) (ss:Ss)
end
inductive O where | l (xs:List D) | d (ks vs:List D)
noncomputable def O.toD:O->D
 |.l xs=>.lst xs
 |.d ks vs=>.dct ks vs
inductive Sl where | no | dat (d:D) | own (o:O) (lent lock:Bool)
noncomputable abbrev Rho:=List Sl
inductive Vl where | dat (d:D) | tmp (o:O) | slot (i:Nat)
inductive Fl where | nx (ρ:Rho) | rt (v:Vl) (ρ:Rho) | bk (ρ:Rho) | ct (ρ:Rho)
mutual
noncomputable def eqD:D->D->Bool
 |.non,y=>match y with
  |.non=>true
  |_=>false
 |.bl a,y=>match y with
  |.bl b=>a == b
  |.int b=>(if a then 1 else 0) == b
  |_=>false
 |.int a,y=>match y with
  |.bl b=>a == (if b then 1 else 0)
  |.int b=>a == b
  |_=>false
 |.str a,y=>match y with
  |.str b=>a == b
  |_=>false
 |.tup a,y=>match y with
  |.tup b=>eqDs a b
  |_=>false
 |.lst a,y=>match y with
  |.lst b=>eqDs a b
  |_=>false
 |.dct _ _,_=>false
 |.exc _,_=>false
noncomputable def eqDs:List D->List D->Bool
 |[],[]=>true
 |a::as,b::bs=>eqD a b && eqDs as bs
 |_,_=>false
end
mutual
noncomputable def jbn:D->Bool
 |.non=>true
 |.bl _=>true
 |.int _=>true
 |.str _=>true
 |.tup a=>cmpDs a
 |.lst a=>cmpDs a
 |_=>false
noncomputable def cmpDs:List D->Bool
 |[]=>true
 |a::as=>jbn a && cmpDs as
end
mutual
noncomputable def jcb:D->Nat
 |.tup a=>deeps a + 1
 |.lst a=>deeps a + 1
 |_=>0
noncomputable def deeps:List D->Nat
 |[]=>0
 |a::as=>Nat.max (jcb a) (deeps as)
end
noncomputable def fits (n:Nat):Bool:=n<=16777216
noncomputable def opZ (a b:Int):Op->R Vl
 |.add=>.ok (.dat (.int (a + b)))
 |.sub=>.ok (.dat (.int (a - b)))
 |.mul=>if (-(2 ^ 64) < a/\a < 2 ^ 64)\/(-(2 ^ 64) < b/\b < 2 ^ 64)then .ok (.dat (.int (a * b)))else .stk
 |.fdiv=>if 0 < b/\b < 2 ^ 64 then .ok (.dat (.int (a / b)))else .stk
 |.mod=>if 0 < b then .ok (.dat (.int (a % b)))else .stk
 |.pow=>if 0<=b/\b<=1000000/\a.natAbs < 2 ^ 64 then .ok (.dat (.int (a ^ b.toNat)))else .stk
noncomputable def opC (v:R Vl):Op->R Vl
 |.add=>v
 |_=>.stk
noncomputable def opD (o:Op)(x y:D):R Vl:=match x with
 |.int a=>match y with
  |.int b=>opZ a b o
  |_=>.stk
 |.tup a=>match y with
  |.tup b=>opC (if fits (a.length + b.length)then .ok (.dat (.tup (a++b)))else .stk) o
  |_=>.stk
 |.lst a=>match y with
  |.lst b=>opC (if fits (a.length + b.length)then .ok (.tmp (.l (a++b)))else .stk) o
  |_=>.stk
 |.str a=>match y with
  |.str b=>opC (if fits (a.length + b.length)then .ok (.dat (.str (a++b)))else .stk) o
  |_=>.stk
 |_=>.stk
noncomputable def jbj:D->R Bool
 |.non=>.ok false
 |.bl b=>.ok b
 |.int i=>.ok (i != 0)
 |.tup xs=>.ok (!xs.isEmpty)
 |.lst xs=>.ok (!xs.isEmpty)
 |_=>.stk
noncomputable def ja9:List D->Option (List Int)
 |[]=>some []
 |.int i::r=>(ja9 r).map (i::·)
 |_::_=>none
noncomputable def lexLt:List Int->List Int->Bool
 |[],[]=>false
 |[],_::_=>true
 |_::_,[]=>false
 |x::xs,y::ys=>if x=y then lexLt xs ys else decide (x < y)
noncomputable def ltD:D->D->R Bool
 |.int a,.int b=>.ok (decide (a < b))
 |.tup a,.tup b=>match ja9 a,ja9 b with
  |some x,some y=>.ok (lexLt x y)
  |_,_=>.stk
 |_,_=>.stk
noncomputable def jaO:D->R (List D)
 |.tup xs=>.ok xs
 |.lst xs=>.ok xs
 |_=>.stk
noncomputable def eqR (a b:D):R Bool:=if jbn a && jbn b && jcb a<=12 && jcb b<=12 then .ok (eqD a b)else .stk
noncomputable def inR (a b:D):R Bool:=(jaO b).bind fun ys=>if jbn a && cmpDs ys && jcb a<=12 && deeps ys<=12 then .ok (ys.any fun y=>eqD y a)else .stk
noncomputable def inX (a b:D):R Bool:=match b with
 |.str y=>(match a with
  |.str x=>.ok (Txt.contains y x)
  |_=>.stk)
 |b=>inR a b
noncomputable def jm7 (f:Int->Int->Bool)(x y:D):R Bool:=match x with
 |.int a=>match y with
  |.int b=>.ok (f a b)
  |_=>.stk
 |_=>.stk
noncomputable def isN:D->Bool
 |.non=>true
 |_=>false
noncomputable def cmD (o:Cm)(a b:D):R Bool:=match o with
 |.eq=>eqR a b
 |.ne=>(eqR a b).bind fun c=>.ok (!c)
 |.lt=>ltD a b
 |.gt=>jm7 (fun a b=>decide (b < a)) a b
 |.le=>jm7 (fun a b=>decide (a<=b)) a b
 |.ge=>jm7 (fun a b=>decide (b<=a)) a b
 |.isn=>if isN b then .ok (isN a)else .stk
 |.notn=>if isN b then .ok (!isN a)else .stk
 |.isin=>inX a b
 |.notin=>(inX a b).bind fun c=>.ok (!c)
noncomputable def atI (xs:List D)(i:Int):R D:=
 if 0<=i then (match xs[i.toNat]? with | some d=>.ok d | none=>.stk)
 else if 0<=i + xs.length then (match xs[(i + xs.length).toNat]? with | some d=>.ok d | none=>.stk)else .stk
noncomputable def atC (x:Str)(i:Int):R D:=
 if fits x.length then
  (match (if 0<=i then x.cps.toList[i.toNat]? else if 0<=i + x.length then x.cps.toList[(i + x.length).toNat]? else none)with | some c=>.ok (.str ⟨#[c]⟩) | none=>.stk)
 else .stk
noncomputable def jek:D->D->R D
 |.tup xs,.int i=>atI xs i
 |.lst xs,.int i=>atI xs i
 |.str x,.int i=>atC x i
 |_,_=>.stk
noncomputable def sIx (n d:Nat):Option Int->Nat
 |none=>d
 |some v=>if v < 0 then (v + n).toNat else min v.toNat n
noncomputable def cut {α:Type}(xs:List α)(lo hi:Option Int):List α:=(xs.drop (sIx xs.length 0 lo)).take (sIx xs.length xs.length hi - sIx xs.length 0 lo)
noncomputable def jgk:D->Option Int->Option Int->R Vl
 |.tup xs,lo,hi=>.ok (.dat (.tup (cut xs lo hi)))
 |.lst xs,lo,hi=>.ok (.tmp (.l (cut xs lo hi)))
 |.str x,lo,hi=>if fits x.length then .ok (.dat (.str (Txt.slice x lo hi)))else .stk
 |_,_,_=>.stk
noncomputable def jaw:List D->Option (List Bool)
 |[]=>some []
 |.bl b::r=>(jaw r).map (b::·)
 |.int i::r=>(jaw r).map ((i != 0)::·)
 |_::_=>none
noncomputable def jpn:List Int->Int->Int
 |[],m=>m
 |x::r,m=>jpn r (if x < m then x else m)
noncomputable def jpo:List Int->Int->Int
 |[],m=>m
 |x::r,m=>jpo r (if x > m then x else m)
noncomputable def jpp (x:List Int):List (List Int)->List (List Int)
 |[]=>[x]
 |y::r=>if lexLt y x then y::jpp x r else x::y::r
noncomputable def jm8:List (List Int)->List (List Int)
 |[]=>[]
 |x::r=>jpp x (jm8 r)
noncomputable def jkN:List (List Int)->List (List Int)
 |[]=>[]
 |x::r=>if r.contains x then jkN r else x::jkN r
noncomputable def jcP:List D->Option (List (List Int))
 |[]=>some []
 |.tup xs::r=>match ja9 xs,jcP r with
  |some k,some ks=>some (k::ks)
  |_,_=>none
 |_::_=>none
noncomputable def jpN (k:List Int):D:=.tup (k.map .int)
noncomputable def jgV (kss:List (List Int)):R Vl:=if kss.all (fun k=>!k.isEmpty) && kss.length < 64 then .ok (.tmp (.l ((jm8 kss).map jpN)))else .stk
noncomputable def bfD (f:Bf)(d:D):R Vl:=match f with
 |.abs=>match d with
  |.int i=>.ok (.dat (.int (if i < 0 then -i else i)))
  |_=>.stk
 |.int=>match d with
  |.int i=>.ok (.dat (.int i))
  |.bl b=>.ok (.dat (.int (if b then 1 else 0)))
  |.str x=>if x.length<=640 then (match PySem.intText? x with | some n=>.ok (.dat (.int n)) | none=>.stk)else .stk
  |_=>.stk
 |.len=>match d with
  |.str x=>if fits x.length then .ok (.dat (.int x.length))else .stk
  |d=>(jaO d).bind fun xs=>.ok (.dat (.int xs.length))
 |.tuple=>(jaO d).bind fun xs=>.ok (.dat (.tup xs))
 |.list=>(jaO d).bind fun xs=>.ok (.tmp (.l xs))
 |.all=>(jaO d).bind fun xs=>match jaw xs with | some bs=>.ok (.dat (.bl (bs.all id))) | none=>.stk
 |.any=>(jaO d).bind fun xs=>match jaw xs with | some bs=>.ok (.dat (.bl (bs.any id))) | none=>.stk
 |.sum=>(jaO d).bind fun xs=>match ja9 xs with | some ns=>.ok (.dat (.int ns.sum)) | none=>.stk
 |.min=>(jaO d).bind fun xs=>match ja9 xs with | some (n::ns)=>.ok (.dat (.int (jpn ns n))) | _=>.stk
 |.max=>(jaO d).bind fun xs=>match ja9 xs with | some (n::ns)=>.ok (.dat (.int (jpo ns n))) | _=>.stk
 |.sorted=>match d with
  |.lst xs=>match jcP xs with | some kss=>jgV kss | none=>.stk
  |_=>.stk
 |.ssorted=>(jaO d).bind fun xs=>match jcP xs with | some kss=>if kss.length < 4000 then jgV (jkN kss)else .stk | none=>.stk
 |.revl=>match d with
  |.lst xs=>.ok (.tmp (.l xs.reverse))
  |_=>.stk
 |.revt=>match d with
  |.lst xs=>.ok (.dat (.tup xs.reverse))
  |.tup xs=>.ok (.dat (.tup xs.reverse))
  |_=>.stk
 |.str=>match d with
  |.int i=>if i.natAbs.log2 < 1920 then .ok (.dat (.str (Str.ofString (toString i))))else .stk
  |_=>.stk
 |.isup=>match d with
  |.str x=>.ok (.dat (.bl (Txt.isupper x)))
  |_=>.stk
noncomputable def jbz:List D->Option (List Str)
 |[]=>some []
 |.str x::r=>(jbz r).map (x::·)
 |_::_=>none
noncomputable def smD (f:Sm)(x:Str)(d:D):R Vl:=match f with
 |.join=>match d with
  |.lst xs=>(match jbz xs with
   |some ys=>if (ys.map (·.length)).sum + ys.length * x.length<=16777216 then .ok (.dat (.str (Txt.join x ys)))else .stk
   |none=>.stk)
  |_=>.stk
 |.cnt=>match d with
  |.str y=>.ok (.dat (.int (Txt.count x y)))
  |_=>.stk
 |.splt=>match d with
  |.str y=>if y.length != 0 && fits x.length && fits (Txt.split x y).length then .ok (.tmp (.l ((Txt.split x y).map .str)))else .stk
  |_=>.stk
noncomputable def jkO:Vl->R Str
 |.dat (.str x)=>.ok x
 |_=>.stk
noncomputable def tyB:D->Ty->Bool
 |.bl _,t=>t == .bool || t == .int
 |.int _,t=>t == .int
 |.str _,t=>t == .str
 |.tup _,t=>t == .tuple
 |.lst _,t=>t == .list
 |.dct _ _,t=>t == .dict
 |_,_=>false
noncomputable def tyP (d:D):Ty->R Bool
 |.exc _=>.stk
 |.verr=>.stk
 |t=>.ok (tyB d t)
section
variable (U:Nat->Nat->Bool)
noncomputable def jmg (d:D)(t:Ty):R Bool:=match d with
 |.exc c=>match t with
  |.exc k=>.ok (U c k)
  |.verr=>.ok true
  |_=>.stk
 |d=>tyP d t
noncomputable def jai:D->List Ty->R Bool
 |_,[]=>.ok false
 |d,t::r=>(jmg U d t).bind fun b=>if b then .ok true else jai d r
end
noncomputable def jkP (a:Int)(n:Nat):List D:=(List.range n).map fun (k:Nat)=>D.int (a + (k:Int))
noncomputable def jcv:D->R (List D)
 |.int n=>if -16777216<=n/\n<=16777216 then .ok (jkP 0 n.toNat)else .stk
 |_=>.stk
noncomputable def deref (v:Vl)(ρ:Rho):R D:=match v with
 |.dat d=>.ok d
 |.tmp o=>.ok o.toD
 |.slot i=>match ρ[i]? with | some (.own o _ _)=>.ok o.toD | _=>.stk
noncomputable def toD (v:Vl)(ρ:Rho):R (D×Rho):=match v with
 |.dat d=>.ok (d,ρ)
 |.tmp o=>.ok (o.toD,ρ)
 |.slot i=>match ρ[i]? with | some (.own o false false)=>.ok (o.toD,ρ.set i (.dat o.toD)) | _=>.stk
noncomputable def je1 (v:Vl)(ρ:Rho):R (Sl×Rho):=match v with
 |.tmp o=>.ok (.own o false false,ρ)
 |v=>(toD v ρ).bind fun p=>.ok (.dat p.1,p.2)
noncomputable def putT (tg:List Nat)(one:Bool)(d:D)(ρ:Rho):R Rho:=match one,tg,d with
 |true,[i],d=>.ok (ρ.set i (.dat d))
 |false,is,.tup xs=>if is.length=xs.length then .ok ((is.zip xs).foldl (fun r p=>r.set p.1 (.dat p.2)) ρ)else .stk
 |_,_,_=>.stk
noncomputable def jbi (v:Vl)(ρ:Rho):R (List D×List Nat×Rho):=match v with
 |.dat d=>(jaO d).bind fun xs=>.ok (xs,[],ρ)
 |.tmp (.l xs)=>.ok (xs,[],ρ)
 |.slot i=>match ρ[i]? with
  |some (.own (.l xs) _ true)=>.ok (xs,[],ρ)
  |some (.own (.l xs) f false)=>.ok (xs,[i],ρ.set i (.own (.l xs) f true))
  |_=>.stk
 |_=>.stk
noncomputable def jbo (v:Vl)(ρ:Rho):R (List D×List Nat×Rho):=match v with
 |.dat (.str x)=>if fits x.length then .ok (x.cps.toList.map (fun c=>D.str ⟨#[c]⟩),[],ρ)else .stk
 |v=>jbi v ρ
noncomputable def unlk:List Nat->Rho->Rho
 |[],ρ=>ρ
 |i::r,ρ=>unlk r (match ρ[i]? with | some (.own o f _)=>ρ.set i (.own o f false) | _=>ρ)
noncomputable def jbH (ls:List Nat):Fl->Fl
 |.nx ρ=>.nx (unlk ls ρ)
 |.bk ρ=>.bk (unlk ls ρ)
 |.ct ρ=>.ct (unlk ls ρ)
 |.rt v ρ=>.rt v (unlk ls ρ)
noncomputable def compGo (f:D->Rho->R (Option D×Rho)):List D->Rho->R (List D×Rho)
 |[],ρ=>.ok ([],ρ)
 |x::xs,ρ=>(f x ρ).bind fun p=>(compGo f xs p.2).bind fun q=>.ok (match p.1 with | some d=>d::q.1 | none=>q.1,q.2)
noncomputable def ja1 (ρ:Rho)(caps:List Nat):Rho:=caps.map fun i=>match ρ[i]? with | some s=>s | none=>.no
noncomputable def jdB (nt:Nat)(caps:List Nat)(ρ:Rho):Rho:=List.replicate nt .no++ja1 ρ caps
noncomputable def jaE:List Nat->Nat->Rho->Rho->Rho
 |[],_,_,ρ=>ρ
 |j::r,k,inn,ρ=>jaE r (k + 1) inn (match inn[k]? with | some s=>ρ.set j s | none=>ρ)
noncomputable def jcw (lend:Bool)(v:Vl)(ρ:Rho):R (Sl×Option (Nat×Bool×Bool)×Rho):=match lend,v with
 |true,.slot i=>match ρ[i]? with
  |some (.own o f k)=>.ok (.own o true k,some (i,f,k),ρ.set i .no)
  |_=>.stk
 |_,v=>(toD v ρ).bind fun p=>.ok (.dat p.1,none,p.2)
noncomputable def jar:List Bool->List Vl->Rho->R (List Sl×List (Option (Nat×Bool×Bool))×Rho)
 |_,[],ρ=>.ok ([],[],ρ)
 |fl,v::vs,ρ=>(jcw (fl.headD false) v ρ).bind fun p=>(jar fl.tail vs p.2.2).bind fun q=>.ok (p.1::q.1,p.2.1::q.2.1,q.2.2)
noncomputable def jaF:List (Option (Nat×Bool×Bool))->List Sl->Rho->Rho
 |[],_,ρ=>ρ
 |_,[],ρ=>ρ
 |none::r,_::fs,ρ=>jaF r fs ρ
 |some (i,f,k)::r,s::fs,ρ=>jaF r fs (match s with | .own o _ _=>ρ.set i (.own o f k) | _=>ρ)
noncomputable def jpO:Sl->Sl
 |.own o true k=>.own o true k
 |_=>.no
noncomputable def jcc:Vl->R Bool
 |.dat (.bl b)=>.ok b
 |_=>.stk
noncomputable abbrev Calls:=Nat->List Sl->R (Vl×List Sl)
section
variable (G:Calls) (U:Nat->Nat->Bool)
mutual
noncomputable def evE:E->Rho->R (Vl×Rho)
 |.lit d,ρ=>.ok (.dat d,ρ)
 |.var i,ρ=>match ρ[i]? with | some (.dat d)=>.ok (.dat d,ρ) | some (.own _ _ _)=>.ok (.slot i,ρ) | _=>.stk
 |.bin o a b,ρ=>(evE a ρ).bind fun p=>(evE b p.2).bind fun q=>(deref p.1 q.2).bind fun x=>(deref q.1 q.2).bind fun y=>(opD o x y).bind fun v=>.ok (v,q.2)
 |.cmp o a b,ρ=>(evE a ρ).bind fun p=>(evE b p.2).bind fun q=>(deref p.1 q.2).bind fun x=>(deref q.1 q.2).bind fun y=>(cmD o x y).bind fun c=>.ok (.dat (.bl c),q.2)
 |.and a b,ρ=>(evE a ρ).bind fun p=>(jcc p.1).bind fun t=>if t then (evE b p.2).bind fun q=>(jcc q.1).bind fun u=>.ok (.dat (.bl u),q.2)else .ok (.dat (.bl false),p.2)
 |.or a b,ρ=>(evE a ρ).bind fun p=>(jcc p.1).bind fun t=>if t then .ok (.dat (.bl true),p.2)else (evE b p.2).bind fun q=>(jcc q.1).bind fun u=>.ok (.dat (.bl u),q.2)
 |.not a,ρ=>(evE a ρ).bind fun p=>(jcc p.1).bind fun t=>.ok (.dat (.bl (!t)),p.2)
 |.ite c a b,ρ=>(evT c ρ).bind fun t=>if t.1 then evE a t.2 else evE b t.2
 |.tup es,ρ=>(evEs es ρ).bind fun p=>if fits p.1.length then .ok (.dat (.tup p.1),p.2)else .stk
 |.lst es,ρ=>(evEs es ρ).bind fun p=>if fits p.1.length then .ok (.tmp (.l p.1),p.2)else .stk
 |.idx a b,ρ=>(evE a ρ).bind fun p=>(evE b p.2).bind fun q=>(deref p.1 q.2).bind fun x=>(deref q.1 q.2).bind fun y=>(jek x y).bind fun d=>.ok (.dat d,q.2)
 |.slc a lo hi,ρ=>(evE a ρ).bind fun p=>(evO lo p.2).bind fun l=>(evO hi l.2).bind fun h=>(deref p.1 h.2).bind fun x=>(jgk x l.1 h.1).bind fun v=>.ok (v,h.2)
 |.call f fl es,ρ=>(evAs es ρ).bind fun p=>(jar fl p.1 p.2).bind fun q=>(G f q.1).bind fun r=>.ok (r.1,jaF q.2.1 r.2 q.2.2)
 |.blt f a,ρ=>(evE a ρ).bind fun p=>(deref p.1 p.2).bind fun x=>(bfD f x).bind fun v=>.ok (v,p.2)
 |.sm f a b,ρ=>(evE a ρ).bind fun p=>(jkO p.1).bind fun x=>(evE b p.2).bind fun q=>(deref q.1 q.2).bind fun y=>(smD f x y).bind fun v=>.ok (v,q.2)
 |.isi a ks,ρ=>(evE a ρ).bind fun p=>(deref p.1 p.2).bind fun x=>(jai U x ks).bind fun b=>.ok (.dat (.bl b),p.2)
 |.comp elt tg one n caps it c,ρ=>(evI it ρ).bind fun t=>((compGo (fun x r=>(putT tg one x (jdB n caps r)).bind fun r'=>
   match c with
   |.none=>(evE elt r').bind fun p=>(toD p.1 p.2).bind fun q=>.ok (some q.1,jaE caps n q.2 r)
   |.some k=>(evT k r').bind fun b=>if b.1 then (evE elt b.2).bind fun p=>(toD p.1 p.2).bind fun q=>.ok (some q.1,jaE caps n q.2 r)else .ok (none,jaE caps n b.2 r)) t.1 t.2.2).noErr).bind fun ys=>.ok (.tmp (.l ys.1),unlk t.2.1 ys.2)
 |.pop i,ρ=>match ρ[i]? with
  |some (.own (.l xs) f false)=>match xs.getLast? with
   |some d=>.ok (.dat d,ρ.set i (.own (.l xs.dropLast) f false))
   |none=>.stk
  |_=>.stk
noncomputable def evT:E->Rho->R (Bool×Rho)
 |.and a b,ρ=>(evT a ρ).bind fun p=>if p.1 then evT b p.2 else .ok (false,p.2)
 |.or a b,ρ=>(evT a ρ).bind fun p=>if p.1 then .ok (true,p.2)else evT b p.2
 |.not a,ρ=>(evT a ρ).bind fun p=>.ok (!p.1,p.2)
 |.cmp o a b,ρ=>(evE a ρ).bind fun p=>(evE b p.2).bind fun q=>(deref p.1 q.2).bind fun x=>(deref q.1 q.2).bind fun y=>(cmD o x y).bind fun c=>.ok (c,q.2)
 |.var i,ρ=>match ρ[i]? with | some (.dat d)=>(jbj d).bind fun b=>.ok (b,ρ) | some (.own o _ _)=>(jbj o.toD).bind fun b=>.ok (b,ρ) | _=>.stk
 |.isi a ks,ρ=>(evE a ρ).bind fun p=>(deref p.1 p.2).bind fun x=>(jai U x ks).bind fun b=>.ok (b,p.2)
 |.call f fl es,ρ=>(evAs es ρ).bind fun p=>(jar fl p.1 p.2).bind fun q=>(G f q.1).bind fun r=>(deref r.1 []).bind fun d=>(jbj d).bind fun b=>.ok (b,jaF q.2.1 r.2 q.2.2)
 |.blt f a,ρ=>(evE a ρ).bind fun p=>(deref p.1 p.2).bind fun x=>(bfD f x).bind fun v=>(deref v []).bind fun d=>(jbj d).bind fun b=>.ok (b,p.2)
 |.idx a b,ρ=>(evE a ρ).bind fun p=>(evE b p.2).bind fun q=>(deref p.1 q.2).bind fun x=>(deref q.1 q.2).bind fun y=>(jek x y).bind fun d=>(jbj d).bind fun t=>.ok (t,q.2)
 |.lit d,ρ=>(jbj d).bind fun b=>.ok (b,ρ)
 |.bin o a b,ρ=>(evE a ρ).bind fun p=>(evE b p.2).bind fun q=>(deref p.1 q.2).bind fun x=>(deref q.1 q.2).bind fun y=>(opD o x y).bind fun v=>(deref v []).bind fun d=>(jbj d).bind fun t=>.ok (t,q.2)
 |.slc a lo hi,ρ=>(evE a ρ).bind fun p=>(evO lo p.2).bind fun l=>(evO hi l.2).bind fun h=>(deref p.1 h.2).bind fun x=>(jgk x l.1 h.1).bind fun v=>(deref v []).bind fun d=>(jbj d).bind fun b=>.ok (b,h.2)
 |.ite _ _ _,_=>.stk
 |.tup _,_=>.stk
 |.lst _,_=>.stk
 |.sm _ _ _,_=>.stk
 |.comp _ _ _ _ _ _ _,_=>.stk
 |.pop _,_=>.stk
noncomputable def evEs:Es->Rho->R (List D×Rho)
 |.nil,ρ=>.ok ([],ρ)
 |.cons e es,ρ=>(evE e ρ).bind fun p=>(toD p.1 p.2).bind fun q=>(evEs es q.2).bind fun r=>.ok (q.1::r.1,r.2)
noncomputable def evAs:Es->Rho->R (List Vl×Rho)
 |.nil,ρ=>.ok ([],ρ)
 |.cons e es,ρ=>(evE e ρ).bind fun p=>(evAs es p.2).bind fun r=>.ok (p.1::r.1,r.2)
noncomputable def evO:Oe->Rho->R (Option Int×Rho)
 |.none,ρ=>.ok (none,ρ)
 |.some e,ρ=>(evE e ρ).bind fun p=>match p.1 with | .dat (.int i)=>.ok (some i,p.2) | _=>.stk
noncomputable def evI:It->Rho->R (List D×List Nat×Rho)
 |.seq e,ρ=>(evE e ρ).bind fun p=>jbo p.1 p.2
 |.rng1 a,ρ=>(evE a ρ).bind fun p=>(deref p.1 p.2).bind fun x=>(jcv x).bind fun xs=>.ok (xs,[],p.2)
end
noncomputable def jkQ (g:Rho->R Fl):Fl->R Fl
 |.nx ρ=>g ρ
 |r=>.ok r
noncomputable def ja6 (f:D->Rho->R Fl):List D->Rho->R Fl
 |[],ρ=>.ok (.nx ρ)
 |x::xs,ρ=>(f x ρ).bind fun r=>match r with
  |.nx ρ'=>ja6 f xs ρ'
  |.ct ρ'=>ja6 f xs ρ'
  |.bk ρ'=>.ok (.nx ρ')
  |.rt v ρ'=>.ok (.rt v ρ')
noncomputable def jbA (c:Rho->R (Bool×Rho))(f:Rho->R Fl):Nat->Rho->R Fl
 |0,_=>.stk
 |n + 1,ρ=>(c ρ).bind fun b=>if b.1 then (f b.2).bind fun r=>match r with
  |.nx ρ'=>jbA c f n ρ'
  |.ct ρ'=>jbA c f n ρ'
  |.bk ρ'=>.ok (.nx ρ')
  |.rt v ρ'=>.ok (.rt v ρ')else .ok (.nx b.2)
noncomputable def jiQ (v:Vl)(ρ:Rho):R Fl:=match v with
 |.dat d=>.ok (.rt (.dat d) ρ)
 |.tmp o=>.ok (.rt (.tmp o) ρ)
 |.slot i=>match ρ[i]? with | some (.own o false false)=>.ok (.rt (.tmp o) (ρ.set i .no)) | _=>.stk
variable (W:Nat)
mutual
noncomputable def evS:S->Rho->R Fl
 |.ret e,ρ=>(evE G U e ρ).bind fun p=>jiQ p.1 p.2
 |.retN,ρ=>.ok (.rt (.dat .non) ρ)
 |.expr e,ρ=>(evE G U e ρ).bind fun p=>.ok (.nx p.2)
 |.asg i e,ρ=>(evE G U e ρ).bind fun p=>(je1 p.1 p.2).bind fun q=>if i < q.2.length then .ok (.nx (q.2.set i q.1))else .stk
 |.unp is e,ρ=>(evE G U e ρ).bind fun p=>(deref p.1 p.2).bind fun d=>(putT is false d p.2).bind fun ρ'=>.ok (.nx ρ')
 |.app i e,ρ=>match ρ[i]? with
  |some (.own (.l _) _ _)=>(evE G U e ρ).bind fun p=>(toD p.1 p.2).bind fun q=>match q.2[i]? with
   |some (.own (.l xs) f false)=>if fits (xs.length + 1)then .ok (.nx (q.2.set i (.own (.l (xs++[q.1])) f false)))else .stk
   |_=>.stk
  |_=>.stk
 |.ext i e,ρ=>match ρ[i]? with
  |some (.own (.l _) _ _)=>(evE G U e ρ).bind fun p=>(deref p.1 p.2).bind fun x=>(jaO x).bind fun ys=>match p.2[i]? with
   |some (.own (.l xs) f false)=>if fits (xs.length + ys.length)then .ok (.nx (p.2.set i (.own (.l (xs++ys)) f false)))else .stk
   |_=>.stk
  |_=>.stk
 |.rvs i,ρ=>match ρ[i]? with
  |some (.own (.l xs) f false)=>.ok (.nx (ρ.set i (.own (.l xs.reverse) f false)))
  |_=>.stk
 |.ife c a b,ρ=>(evT G U c ρ).bind fun t=>if t.1 then evSs a t.2 else evSs b t.2
 |.loop tg one it b,ρ=>(evI G U it ρ).bind fun t=>(ja6 (fun x r=>(putT tg one x r).bind fun r'=>evSs b r') t.1 t.2.2).bind fun r=>.ok (jbH t.2.1 r)
 |.whl c b,ρ=>jbA (fun r=>evT G U c r) (fun r=>evSs b r) W ρ
 |.brk,ρ=>.ok (.bk ρ)
 |.cnt,ρ=>.ok (.ct ρ)
 |.pas,ρ=>.ok (.nx ρ)
 |.rai c e,ρ=>(evE G U e ρ).bind fun _=>.err c
noncomputable def evSs:Ss->Rho->R Fl
 |.nil,ρ=>.ok (.nx ρ)
 |.cons s ss,ρ=>(evS s ρ).bind (jkQ fun ρ'=>evSs ss ρ')
end
end
structure Def where
 ps:Nat
 n:Nat
 body:Ss
noncomputable def jfF (k:Nat)(ρ:Rho):List Sl:=(List.range k).map fun j=>match ρ[j]? with | some s=>jpO s | none=>.no
noncomputable def jdn (k:Nat):Fl->R (Vl×List Sl)
 |.rt v ρ=>.ok (v,jfF k ρ)
 |.nx ρ=>.ok (.dat .non,jfF k ρ)
 |_=>.stk
noncomputable def jaa (U:Nat->Nat->Bool)(W:Nat)(P:List Def):Nat->Calls
 |0=>fun _ _=>.stk
 |n + 1=>fun f xs=>match P[f]? with
  |none=>.stk
  |some d=>if xs.length=d.ps then (evSs (jaa U W P n) U W d.body (xs++List.replicate (d.n - d.ps) .no)).bind (jdn d.ps)else .stk
end DJ
namespace DJ
open PySem PySem.Spec PyProof.Rows L2
noncomputable abbrev Frag:=PySem.W.Frag
structure Kn where
 K:Frag
 cl:List Addr
noncomputable def KT (K:Frag)(a:Addr)(xs:List V):Prop:=∃(o:Obj) (its:Array Value) (n:Nat),K.lookup a=some o/\o.cls=.type "tuple"/\o.data=.seq its n/\its.size<=sizeLine/\Vals xs its.toList
noncomputable def KL (K:Frag)(a:Addr)(xs:List V):Prop:=∃(o:Obj) (its:Array Value) (n:Nat),K.lookup a=some o/\o.cls=.type "list"/\o.dict=none/\o.data=.seq its n/\its.size<=sizeLine/\Vals xs its.toList
noncomputable def FT (K:Frag)(F:Addr->Prop)(H:Hp)(a:Addr)(xs:List V):Prop:=(F a/\Rd H a (.tup xs))\/KT K a xs
noncomputable def FL (K:Frag)(F:Addr->Prop)(H:Hp)(a:Addr)(xs:List V):Prop:=(F a/\Rd H a (.lst xs))\/KL K a xs
theorem FT.sq {K:Frag}{F:Addr->Prop}{H:Hp}{a:Addr}{xs:List V}(h:FT K F H a xs):SqT K H a xs:=h.imp (·.2) id
theorem FL.sq {K:Frag}{F:Addr->Prop}{H:Hp}{a:Addr}{xs:List V}(h:FL K F H a xs):SqL K H a xs:=h.imp (·.2) id
noncomputable def jjZ (a C:Addr)(h:Heap):Prop:=∃o vs,h.get? a=some o/\o.cls=.ref C/\o.data=.fields vs
section
variable (Z:Kn) (F:Addr->Prop) (H:Hp)
mutual
noncomputable def Rep:D->V->Prop
 |.non,v=>v=.non
 |.bl b,v=>v=.bl b
 |.int i,v=>v=.int i
 |.str x,v=>v=.str x
 |.tup ds,v=>∃a vs,v=.ref a/\FT Z.K F H a vs/\Reps ds vs
 |.lst ds,v=>∃a vs,v=.ref a/\FL Z.K F H a vs/\Reps ds vs
 |.dct ks vs,v=>∃a,v=.ref a/\F a/\ks=[]/\vs=[]/\H a=some (.dK [])
 |.exc c,v=>∃a C,v=.ref a/\F a/\Z.cl[c]?=some C/\H a=some (.ext (jjZ a C))
noncomputable def Reps:List D->List V->Prop
 |[],vs=>vs=[]
 |d::ds,vs=>∃v r,vs=v::r/\Rep d v/\Reps ds r
end
noncomputable def HasO (l:Addr):O->Prop
 |.l xs=>∃vs,H l=some (.lst vs)/\Reps Z F H xs vs
 |.d ks vs=>ks=[]/\vs=[]/\H l=some (.dK [])
end
noncomputable def Keep (F F':Addr->Prop)(H H':Hp):Prop:=∀a,F a->F' a/\H' a=H a
theorem Keep.rd {F F':Addr->Prop}{H H':Hp}(k:Keep F F' H H'){a:Addr}{u:HO}(h:F a/\Rd H a u):F' a/\Rd H' a u:=by
 obtain⟨f,e⟩:=k a h.1;refine⟨f,?_⟩;unfold Rd;rw[e];exact h.2
theorem Keep.refl {F:Addr->Prop}{H:Hp}:Keep F F H H:=fun _ h=>⟨h,rfl⟩
theorem Keep.trans {F F1 F2:Addr->Prop}{H H1 H2:Hp}(a:Keep F F1 H H1)(b:Keep F1 F2 H1 H2):Keep F F2 H H2:=fun x h=>by
 obtain⟨f1,e1⟩:=a x h;obtain⟨f2,e2⟩:=b x f1;exact⟨f2,e2.trans e1⟩
section
variable {Z:Kn}{F F':Addr->Prop}{H H':Hp}
mutual
theorem Rep.mono (k:Keep F F' H H'):∀{d:D}{v:V},Rep Z F H d v->Rep Z F' H' d v
 |.non,_,h=>by simpa only[Rep] using h
 |.bl _,_,h=>by simpa only[Rep] using h
 |.int _,_,h=>by simpa only[Rep] using h
 |.str _,_,h=>by simpa only[Rep] using h
 |.tup ds,v,h=>by
  simp only[Rep]at h ⊢;obtain⟨a,vs,e,q,r⟩:=h;exact⟨a,vs,e,q.imp k.rd id,Reps.mono k r⟩
 |.lst ds,v,h=>by
  simp only[Rep]at h ⊢;obtain⟨a,vs,e,q,r⟩:=h;exact⟨a,vs,e,q.imp k.rd id,Reps.mono k r⟩
 |.dct ks vs,v,h=>by
  simp only[Rep]at h ⊢;obtain⟨a,e,q,h1,h2,r⟩:=h;obtain⟨f,e'⟩:=k a q;exact⟨a,e,f,h1,h2,e'.trans r⟩
 |.exc c,v,h=>by
  simp only[Rep]at h ⊢;obtain⟨a,C,e,q,h1,r⟩:=h;obtain⟨f,e'⟩:=k a q;exact⟨a,C,e,f,h1,e'.trans r⟩
theorem Reps.mono (k:Keep F F' H H'):∀{ds:List D}{vs:List V},Reps Z F H ds vs->Reps Z F' H' ds vs
 |[],_,h=>by simpa only[Reps] using h
 |d::ds,vs,h=>by
  simp only[Reps]at h ⊢;obtain⟨v,r,e,h1,h2⟩:=h;exact⟨v,r,e,Rep.mono k h1,Reps.mono k h2⟩
end
theorem HasO.mono (k:Keep F F' H H'){l:Addr}(e:H' l=H l):∀{o:O},HasO Z F H l o->HasO Z F' H' l o
 |.l xs,⟨vs,h1,h2⟩=>⟨vs,e.trans h1,h2.mono k⟩
 |.d ks vs,⟨h1,h2,h3⟩=>⟨h1,h2,e.trans h3⟩
theorem HasO.some {l:Addr}{o:O}(h:HasO Z F H l o):∃u,H l=Option.some u:=by
 cases o with
 |l xs=>obtain⟨vs,e,_⟩:=h;exact⟨_,e⟩
 |d ks vs=>exact⟨_,h.2.2⟩
theorem Reps.length:∀{ds:List D}{vs:List V},Reps Z F H ds vs->ds.length=vs.length
 |[],vs,h=>by simp only[Reps]at h;subst h;rfl
 |d::ds,vs,h=>by
  simp only[Reps]at h;obtain⟨v,r,rfl,_,h2⟩:=h;rw[jqe,jqe,Reps.length h2]
theorem Reps.get:∀{ds:List D}{vs:List V}{i:Nat}{d:D},Reps Z F H ds vs->ds[i]?=some d->∃v,vs[i]?=some v/\Rep Z F H d v
 |[],_,_,_,_,e=>by simp at e
 |x::ds,vs,0,d,h,e=>by
  simp only[Reps]at h;obtain⟨v,r,rfl,h1,_⟩:=h;simp at e;subst e;exact⟨v,rfl,h1⟩
 |x::ds,vs,i + 1,d,h,e=>by
  simp only[Reps]at h;obtain⟨v,r,rfl,_,h2⟩:=h;obtain⟨u,e1,e2⟩:=Reps.get (i:=i) h2 (by simpa using e)
  exact⟨u,by simpa using e1,e2⟩
theorem Reps.append:∀{ds es:List D}{vs us:List V},Reps Z F H ds vs->Reps Z F H es us->Reps Z F H (ds++es) (vs++us)
 |[],_,_,_,h,h'=>by simp only[Reps]at h;subst h;exact h'
 |d::ds,es,vs,us,h,h'=>by
  simp only[Reps]at h;obtain⟨v,r,rfl,h1,h2⟩:=h;show Reps Z F H (d::(ds++es)) (v::(r++us));simp only[Reps];exact⟨v,_,rfl,h1,Reps.append h2 h'⟩
theorem Reps.drop:∀{ds:List D}{vs:List V} (n:Nat),Reps Z F H ds vs->Reps Z F H (ds.drop n) (vs.drop n)
 |_,_,0,h=>h
 |[],vs,n + 1,h=>by simp only[Reps]at h;subst h;simp[Reps]
 |d::ds,vs,n + 1,h=>by
  simp only[Reps]at h;obtain⟨v,r,rfl,h1,h2⟩:=h;exact Reps.drop n h2
theorem Reps.take:∀{ds:List D}{vs:List V} (n:Nat),Reps Z F H ds vs->Reps Z F H (ds.take n) (vs.take n)
 |_,_,0,h=>by simp[Reps]
 |[],vs,n + 1,h=>by simp only[Reps]at h;subst h;simp[Reps]
 |d::ds,vs,n + 1,h=>by
  simp only[Reps]at h;obtain⟨v,r,rfl,h1,h2⟩:=h;simp only[List.take_succ_cons,Reps];exact⟨v,_,rfl,h1,Reps.take n h2⟩
theorem Reps.set {d:D}{v:V}(hd:Rep Z F H d v):∀{ds:List D}{vs:List V} (i:Nat),Reps Z F H ds vs->Reps Z F H (ds.set i d) (vs.set i v)
 |[],vs,i,h=>by simp only[Reps]at h;subst h;simp[Reps]
 |e::ds,vs,0,h=>by
  simp only[Reps]at h;obtain⟨u,r,rfl,h1,h2⟩:=h;simp only[List.set_cons_zero,Reps];exact⟨v,_,rfl,hd,h2⟩
 |e::ds,vs,i + 1,h=>by
  simp only[Reps]at h;obtain⟨u,r,rfl,h1,h2⟩:=h;simp only[List.set_cons_succ,Reps];exact⟨u,_,rfl,h1,Reps.set hd i h2⟩
theorem Reps.one {d:D}{v:V}(hd:Rep Z F H d v):Reps Z F H [d] [v]:=by simp only[Reps];exact⟨v,[],rfl,hd,rfl⟩
theorem Reps.nil:Reps Z F H [] []:=by simp only[Reps]
theorem Reps.cons {d:D}{v:V}{ds:List D}{vs:List V}(hd:Rep Z F H d v)(h:Reps Z F H ds vs):Reps Z F H (d::ds) (v::vs):=by simp only[Reps];exact⟨v,vs,rfl,hd,h⟩
theorem Reps.uncons {d:D}{ds:List D}{us:List V}(h:Reps Z F H (d::ds) us):∃v vs,us=v::vs/\Rep Z F H d v/\Reps Z F H ds vs:=by simpa only[Reps] using h
theorem Reps.reverse {ds:List D}{vs:List V}(h:Reps Z F H ds vs):Reps Z F H ds.reverse vs.reverse:=by
 induction ds generalizing vs with
 |nil=>simp only[Reps]at h;subst h;exact .nil
 |cons d ds ih=>
  simp only[Reps]at h;obtain⟨v,r,rfl,h1,h2⟩:=h;rw[List.reverse_cons,List.reverse_cons];exact(ih h2).append (.one h1)
theorem Reps.dropLast {ds:List D}{vs:List V}(h:Reps Z F H ds vs):Reps Z F H ds.dropLast vs.dropLast:=by
 rw[List.dropLast_eq_take,List.dropLast_eq_take,h.length];exact h.take _
theorem Reps.rep {ds:List D}{vs:List V}(h:Reps Z F H ds vs):∀k:Nat,Reps Z F H (List.replicate k ds).flatten (List.replicate k vs).flatten
 |0=>.nil
 |k + 1=>by
  rw[List.replicate_succ,List.replicate_succ,List.flatten_cons,List.flatten_cons];exact h.append (Reps.rep h k)
end
noncomputable def Dom (F:Addr->Prop)(H:Hp):Prop:=∀a,F a->∃o,H a=some o
structure Bs where
 hp:Hp
 lent:Nat->Option Addr
noncomputable def OwR (Z:Kn)(B:Bs)(F:Addr->Prop)(H:Hp)(i:Nat)(o:O)(f:Bool)(l:Addr):Prop:=¬F l/\HasO Z F H l o/\(f=true->B.lent i=some l)/\(f=false->B.hp l=none)
structure SR (Z:Kn)(B:Bs)(F:Addr->Prop)(H:Hp)(σ:L2.St)(ρ:Rho):Prop where
 dom:Dom F H
 len:ρ.length=σ.length
 dat:∀(i:Nat) (d:D),ρ[i]?=some (.dat d)->∃v,σ[i]?=some (some v)/\Rep Z F H d v
 own:∀(i:Nat) (o:O) (f k:Bool),ρ[i]?=some (.own o f k)->∃l,σ[i]?=some (some (.ref l))/\OwR Z B F H i o f l
 one:∀(i j:Nat) (o o':O) (f k f' k':Bool) (l:Addr),i≠j->ρ[i]?=some (.own o f k)->ρ[j]?=some (.own o' f' k')->σ[i]?=some (some (.ref l))->σ[j]?≠some (some (.ref l))
 base:∀b,H b=none->B.hp b=none
inductive Ow (σ:L2.St) (ρ:Rho) (b:Addr):Prop
 |mk (i:Nat) (o:O) (f:Bool) (k:Bool):(ρ[i]?=some (.own o f k))->(σ[i]?=some (some (.ref b)))->Ow σ ρ b
inductive Mb (σ:L2.St) (ρ:Rho) (b:Addr):Prop
 |mk (i:Nat) (o:O) (f:Bool):(ρ[i]?=some (.own o f false))->(σ[i]?=some (some (.ref b)))->Mb σ ρ b
theorem Mb.ow {σ:L2.St}{ρ:Rho}{b:Addr}(h:Mb σ ρ b):Ow σ ρ b:=let ⟨i,o,f,h1,h2⟩:=h;⟨i,o,f,false,h1,h2⟩
structure Go (σ:L2.St)(ρ:Rho)(F:Addr->Prop)(H:Hp)(σ':L2.St)(ρ':Rho)(F':Addr->Prop)(H':Hp):Prop where
 stay:∀b o,H b=some o->¬Mb σ ρ b->H' b=some o
 sub:∀a,F a->F' a
 new:∀a,F' a->F a\/H a=none\/Mb σ ρ a
 ow:∀(j:Nat) (o:O) (f k:Bool) (b:Addr),ρ'[j]?=some (.own o f k)->σ'[j]?=some (some (.ref b))->(∃o0 k0,ρ[j]?=some (.own o0 f k0)/\σ[j]?=some (some (.ref b))/\(k0=true->k=true))\/H b=none
 there:∀b o,H b=some o->∃o',H' b=some o'
section
variable {Z:Kn}{B:Bs}{F F1 F2:Addr->Prop}{H H1 H2:Hp}{σ σ1 σ2:L2.St}{ρ ρ1 ρ2:Rho}
theorem SR.noF (r:SR Z B F H σ ρ){b:Addr}(h:Ow σ ρ b):¬F b:=by
 obtain⟨i,o,f,k,h1,h2⟩:=h;obtain⟨l,e,w⟩:=r.own i o f k h1;rw[h2]at e;cases e;exact w.1
theorem SR.there (r:SR Z B F H σ ρ){b:Addr}(h:Ow σ ρ b):∃u,H b=some u:=by
 obtain⟨i,o,f,k,h1,h2⟩:=h;obtain⟨l,e,w⟩:=r.own i o f k h1;rw[h2]at e;cases e;exact w.2.1.some
theorem Go.mb (g:Go σ ρ F H σ1 ρ1 F1 H1){b:Addr}(h:Mb σ1 ρ1 b):Mb σ ρ b\/H b=none:=by
 obtain⟨i,o,f,h1,h2⟩:=h;rcases g.ow i o f false b h1 h2 with ⟨o0,k0,e1,e2,e3⟩ | z
 ·cases k0 with
  |false=>exact .inl ⟨i,o0,f,e1,e2⟩
  |true=>exact absurd (e3 rfl) (by decide)
 ·exact .inr z
theorem Go.owA (g:Go σ ρ F H σ1 ρ1 F1 H1){b:Addr}(h:Ow σ1 ρ1 b):Ow σ ρ b\/H b=none:=by
 obtain⟨i,o,f,k,h1,h2⟩:=h;rcases g.ow i o f k b h1 h2 with ⟨o0,k0,e1,e2,e3⟩ | z
 ·exact .inl ⟨i,o0,f,k0,e1,e2⟩
 ·exact .inr z
theorem Go.self {j:Nat}{o:O}{f k:Bool}{b:Addr}(h1:ρ[j]?=some (.own o f k))(h2:σ[j]?=some (some (.ref b))):(∃o0 k0,ρ[j]?=some (.own o0 f k0)/\σ[j]?=some (some (.ref b))/\(k0=true->k=true))\/H b=none:=.inl ⟨o,k,h1,h2,id⟩
theorem Go.refl:Go σ ρ F H σ ρ F H:=⟨fun _ _ h _=>h,fun _ h=>h,fun _ h=>.inl h,fun _ _ _ _ _ h1 h2=>Go.self h1 h2,fun _ o h=>⟨o,h⟩⟩
theorem Go.trans (a:Go σ ρ F H σ1 ρ1 F1 H1)(b:Go σ1 ρ1 F1 H1 σ2 ρ2 F2 H2):Go σ ρ F H σ2 ρ2 F2 H2:=by
 have back:∀{c:Addr},H1 c=none->H c=none:=fun {c} h1=>by
  cases q:H c with
  |none=>rfl
  |some o=>obtain⟨u,e⟩:=a.there c o q;rw[h1]at e;cases e
 refine⟨fun c o h n=>b.stay c o (a.stay c o h n) fun m=>?_,fun c h=>b.sub c (a.sub c h),fun c h=>?_,fun j o f k c h1 h2=>?_,fun c o h=>let ⟨o1,h1⟩:=a.there c o h;b.there c o1 h1⟩
 ·rcases a.mb m with z | z
  ·exact n z
  ·rw[h]at z;cases z
 ·rcases b.new c h with z | z | z
  ·exact a.new c z
  ·exact .inr (.inl (back z))
  ·exact .inr ((a.mb z).elim .inr .inl)
 ·rcases b.ow j o f k c h1 h2 with ⟨o0,k0,e1,e2,e3⟩ | z
  ·rcases a.ow j o0 f k0 c e1 e2 with ⟨o1,k1,q1,q2,q3⟩ | z
   ·exact .inl ⟨o1,k1,q1,q2,fun w=>e3 (q3 w)⟩
   ·exact .inr z
  ·exact .inr (back z)
theorem Go.free (g:Go σ ρ F H σ1 ρ1 F1 H1){l:Addr}(h:H1 l=none):H l=none:=by
 cases q:H l with
 |none=>rfl
 |some o=>obtain⟨u,e⟩:=g.there l o q;rw[h]at e;cases e
theorem Go.keep (g:Go σ ρ F H σ1 ρ1 F1 H1)(r:SR Z B F H σ ρ):Keep F F1 H H1:=fun a h=>by
 obtain⟨o,e⟩:=r.dom a h;exact⟨g.sub a h,(g.stay a o e fun m=>r.noF m.ow h).trans e.symm⟩
theorem Go.side (g:Go σ ρ F H σ1 ρ1 F1 H1){l:Addr}{o:HO}(h:H l=some o)(hF:¬F l)(hO:¬Ow σ ρ l):H1 l=some o/\¬F1 l/\¬Ow σ1 ρ1 l:=by
 refine⟨g.stay l o h fun m=>hO m.ow,fun z=>?_,fun z=>?_⟩
 ·rcases g.new l z with q | q | q
  ·exact hF q
  ·rw[h]at q;cases q
  ·exact hO q.ow
 ·rcases g.owA z with q | q
  ·exact hO q
  ·rw[h]at q;cases q
structure Ext (F:Addr->Prop)(H:Hp)(F':Addr->Prop)(H':Hp):Prop where
 sub:∀a,F a->F' a
 same:Same H H'
 new:∀a,F' a->F a\/H a=none
 dom:∀a,F' a->∃o,H' a=some o
theorem Ext.refl (d:Dom F H):Ext F H F H:=⟨fun _ h=>h,Same.refl _,fun _ h=>.inl h,d⟩
theorem Ext.keep (a:Ext F H F1 H1)(d:Dom F H):Keep F F1 H H1:=fun x h=>by
 obtain⟨o,e⟩:=d x h;exact⟨a.sub x h,(a.same x o e).trans e.symm⟩
theorem Ext.newF {p:Addr}{o:HO}(d:Dom F H)(h:H p=none):Ext F H (fun a=>F a\/a=p) (upd H p o):=
 ⟨fun _ h=>.inl h,fun b u e=>by rw[jac (jab e h)];exact e,fun a q=>q.imp id fun (e:a=p)=>by rw[e];exact h,fun a q=>by
  rcases q with q | rfl
  ·obtain⟨u,e⟩:=d a q;exact⟨u,by rw[jac (jab e h)];exact e⟩
  ·exact⟨o,jam⟩⟩
theorem Ext.newO {p:Addr}{o:HO}(d:Dom F H)(h:H p=none):Ext F H F (upd H p o):=
 ⟨fun _ h=>h,fun b u e=>by rw[jac (jab e h)];exact e,fun a q=>.inl q,fun a q=>by
  obtain⟨u,e⟩:=d a q;exact⟨u,by rw[jac (jab e h)];exact e⟩⟩
theorem Ext.go (e:Ext F H F1 H1):Go σ ρ F H σ ρ F1 H1:=⟨fun b o h _=>e.same b o h,e.sub,fun a h=>(e.new a h).imp id .inl,fun _ _ _ _ _ h1 h2=>Go.self h1 h2,fun b o h=>⟨o,e.same b o h⟩⟩
theorem SR.ext (r:SR Z B F H σ ρ)(e:Ext F H F1 H1):SR Z B F1 H1 σ ρ where
 dom:=e.dom
 len:=r.len
 dat:=fun i d h=>let ⟨v,h1,h2⟩:=r.dat i d h;⟨v,h1,h2.mono (e.keep r.dom)⟩
 own:=fun i o f k h=>by
  obtain⟨l,h1,h2,h3,h4⟩:=r.own i o f k h;obtain⟨u,hu⟩:=h3.some;refine⟨l,h1,fun z=>?_,h3.mono (e.keep r.dom) ((e.same l u hu).trans hu.symm),h4⟩;rcases e.new l z with z | z
  ·exact h2 z
  ·rw[hu]at z;cases z
 one:=r.one
 base:=fun b h=>r.base b (e.same.free h)
theorem SR.put (r:SR Z B F H σ ρ){i:Nat}{d:D}{v:V}(h:Rep Z F H d v):SR Z B F H (σ.set i (some v)) (ρ.set i (.dat d)) where
 dom:=r.dom
 len:=by simp[r.len]
 dat:=fun j e hj=>by
  rw[jp9]at hj ⊢;by_cases hij:i=j
  ·subst hij;rw[if_pos rfl]at hj ⊢;rw[<-r.len];split at hj
   ·rename_i hl;cases hj;exact⟨v,by rw[if_pos hl],h⟩
   ·cases hj
  ·rw[if_neg hij]at hj ⊢;exact r.dat j e hj
 own:=fun j o f k hj=>by
  rw[jp9]at hj ⊢;by_cases hij:i=j
  ·subst hij;rw[if_pos rfl]at hj;split at hj <;> cases hj
  ·rw[if_neg hij]at hj ⊢;exact r.own j o f k hj
 one:=fun j k o o' f kk f' kk' l hjk hj hk=>by
  rw[jp9]at hj hk;rw[jp9,jp9];by_cases h1:i=j
  ·rw[if_pos h1]at hj;split at hj <;> cases hj
  ·by_cases h2:i=k
   ·rw[if_pos h2]at hk;split at hk <;> cases hk
   ·rw[if_neg h1]at hj ⊢;rw[if_neg h2]at hk ⊢;exact r.one j k o o' f kk f' kk' l hjk hj hk
 base:=r.base
theorem Go.put {i:Nat}{d:D}{v:V}:Go σ ρ F H (σ.set i (some v)) (ρ.set i (.dat d)) F H:=by
 refine⟨fun _ _ h _=>h,fun _ h=>h,fun _ h=>.inl h,fun j o f k b h1 h2=>?_,fun _ o h=>⟨o,h⟩⟩;rw[jp9]at h1 h2;by_cases hij:i=j
 ·rw[if_pos hij]at h1;split at h1 <;> cases h1
 ·rw[if_neg hij]at h1 h2;exact Go.self h1 h2
theorem SR.putOwn (r:SR Z B F H σ ρ){i:Nat}{o:O}{l:Addr}(hF:¬F l)(hO:¬Ow σ ρ l)(hb:B.hp l=none)(h:HasO Z F H l o):SR Z B F H (σ.set i (some (.ref l))) (ρ.set i (.own o false false)) where
 dom:=r.dom
 len:=by simp[r.len]
 dat:=fun j e hj=>by
  rw[jp9]at hj ⊢;by_cases hij:i=j
  ·subst hij;rw[if_pos rfl]at hj;split at hj <;> cases hj
  ·rw[if_neg hij]at hj ⊢;exact r.dat j e hj
 own:=fun j o' f k hj=>by
  rw[jp9]at hj ⊢;by_cases hij:i=j
  ·subst hij;rw[if_pos rfl]at hj ⊢;rw[<-r.len];split at hj
   ·rename_i hl';cases hj;exact⟨l,by rw[if_pos hl'],hF,h,(fun z=>by cases z),fun _=>hb⟩
   ·cases hj
  ·rw[if_neg hij]at hj ⊢;exact r.own j o' f k hj
 one:=fun j k o1 o2 f1 k1 f2 k2 m hjk hj hk=>by
  rw[jp9]at hj hk;rw[jp9,jp9];by_cases h1:i=j
  ·subst h1;rw[if_neg hjk]at hk ⊢;rw[if_pos rfl];intro q z;split at q
   ·cases q;exact hO ⟨k,_,_,_,hk,z⟩
   ·cases q
  ·by_cases h2:i=k
   ·subst h2;rw[if_neg h1]at hj ⊢;rw[if_pos rfl];intro q z;split at z
    ·cases z;exact hO ⟨j,_,_,_,hj,q⟩
    ·cases z
   ·rw[if_neg h1]at hj ⊢;rw[if_neg h2]at hk ⊢;exact r.one j k _ _ _ _ _ _ m hjk hj hk
 base:=r.base
theorem Go.putOwn (g:Go σ ρ F H σ ρ1 F1 H1){i:Nat}{o:O}{l:Addr}(hn:H l=none):Go σ ρ F H (σ.set i (some (.ref l))) (ρ1.set i (.own o false false)) F1 H1:=by
 refine⟨g.stay,g.sub,g.new,fun j o' f k b h1 h2=>?_,g.there⟩;rw[jp9]at h1 h2;by_cases hij:i=j
 ·rw[if_pos hij]at h2;split at h2
  ·cases h2;exact .inr hn
  ·cases h2
 ·rw[if_neg hij]at h1 h2;exact g.ow j o' f k b h1 h2
noncomputable def Le (ρ' ρ:Rho):Prop:=ρ'.length=ρ.length/\(∀(i:Nat) d,ρ'[i]?=some (.dat d)->ρ[i]?=some (.dat d))/\(∀(i:Nat) o f k,ρ'[i]?=some (.own o f k)->ρ[i]?=some (.own o f k))
theorem Le.no {i:Nat}:Le (ρ.set i .no) ρ:=by
 refine⟨by simp,fun j d h=>?_,fun j o f k h=>?_⟩
 ·rw[jp9]at h;by_cases e:i=j
  ·rw[if_pos e]at h;split at h <;> cases h
  ·rw[if_neg e]at h;exact h
 ·rw[jp9]at h;by_cases e:i=j
  ·rw[if_pos e]at h;split at h <;> cases h
  ·rw[if_neg e]at h;exact h
theorem SR.weak (r:SR Z B F H σ ρ)(h:Le ρ1 ρ):SR Z B F H σ ρ1:=
 ⟨r.dom,h.1.trans r.len,fun i d q=>r.dat i d (h.2.1 i d q),fun i o f k q=>r.own i o f k (h.2.2 i o f k q),fun i j o o' f k f' k' l hij h1 h2=>r.one i j o o' f k f' k' l hij (h.2.2 _ _ _ _ h1) (h.2.2 _ _ _ _ h2),r.base⟩
theorem Go.weak (h:Le ρ1 ρ):Go σ ρ F H σ ρ1 F H:=
 ⟨fun _ _ h _=>h,fun _ h=>h,fun _ h=>.inl h,fun i o f k b h1 h2=>Go.self (h.2.2 _ _ _ _ h1) h2,fun _ o h=>⟨o,h⟩⟩
theorem SR.frz (r:SR Z B F H σ ρ){i:Nat}{o:O}{f k:Bool}{l:Addr}(h:ρ[i]?=some (.own o f k))(hl:σ[i]?=some (some (.ref l))) :
  Keep F (fun a=>F a\/a=l) H H/\SR Z B (fun a=>F a\/a=l) H σ (ρ.set i (.dat o.toD))/\Rep Z (fun a=>F a\/a=l) H o.toD (.ref l):=by
 obtain⟨l',h1,h2,h3,h4⟩:=r.own i o f k h;rw[hl]at h1;cases h1;have kp:Keep F (fun a=>F a\/a=l) H H:=fun a q=>⟨.inl q,rfl⟩;have hi:i < ρ.length:=(List.getElem?_eq_some_iff.mp h).1;have rp:Rep Z (fun a=>F a\/a=l) H o.toD (.ref l):=by
  cases o with
  |l xs=>
   obtain⟨vs,e,q⟩:=h3;simp only[O.toD,Rep];exact⟨l,vs,rfl,.inl ⟨.inr rfl,.inl e⟩,q.mono kp⟩
  |d ks vs=>
   obtain⟨e1,e2,e3⟩:=h3;simp only[O.toD,Rep];exact⟨l,rfl,.inr rfl,e1,e2,e3⟩
 refine⟨kp,⟨fun a q=>q.elim (r.dom a) fun (e:a=l)=>by rw[e];exact h3.some,by simp[r.len],fun j d hj=>?_,fun j o' f' k' hj=>?_,fun j jj o1 o2 f1 k1 f2 k2 m hjk hj hk=>?_,r.base⟩,rp⟩
 ·rw[jp9]at hj;by_cases hij:i=j
  ·subst hij;rw[if_pos rfl,if_pos hi]at hj;cases hj;exact⟨_,hl,rp⟩
  ·rw[if_neg hij]at hj;obtain⟨v,e1,e2⟩:=r.dat j d hj;exact⟨v,e1,e2.mono kp⟩
 ·rw[jp9]at hj;by_cases hij:i=j
  ·subst hij;rw[if_pos rfl,if_pos hi]at hj;cases hj
  ·rw[if_neg hij]at hj;obtain⟨l',e1,e2,e3,e4⟩:=r.own j o' f' k' hj;refine⟨l',e1,fun z=>z.elim e2 fun z=>?_,e3.mono kp rfl,e4⟩;subst z;exact r.one i j _ _ _ _ _ _ l' hij h hj hl e1
 ·rw[jp9]at hj hk;by_cases h1:i=j
  ·subst h1;rw[if_pos rfl,if_pos hi]at hj;cases hj
  ·by_cases h2:i=jj
   ·subst h2;rw[if_pos rfl,if_pos hi]at hk;cases hk
   ·rw[if_neg h1]at hj;rw[if_neg h2]at hk;exact r.one j jj _ _ _ _ _ _ m hjk hj hk
theorem Go.frz {i:Nat}{o:O}{f:Bool}{l:Addr}{d:D}(h:ρ[i]?=some (.own o f false))(hl:σ[i]?=some (some (.ref l))):Go σ ρ F H σ (ρ.set i (.dat d)) (fun a=>F a\/a=l) H:=by
 refine⟨fun _ _ h _=>h,fun _ h=>.inl h,fun a q=>q.imp id fun (e:a=l)=>.inr ⟨i,o,f,h,by rw[e];exact hl⟩,fun j o' f' k' b h1 h2=>?_,fun _ o h=>⟨o,h⟩⟩
 rw[jp9]at h1;by_cases e:i=j
 ·rw[if_pos e]at h1;split at h1 <;> cases h1
 ·rw[if_neg e]at h1;exact Go.self h1 h2
theorem SR.wr (r:SR Z B F H σ ρ){i:Nat}{o o':O}{f k:Bool}{l:Addr}{u:HO}(h:ρ[i]?=some (.own o f k))(hi:σ[i]?=some (some (.ref l)))(q:Keep F F H (upd H l u)->HasO Z F (upd H l u) l o')(k':Bool) :
  Keep F F H (upd H l u)/\SR Z B F (upd H l u) σ (ρ.set i (.own o' f k')):=by
 obtain⟨l',h1,h2,h3,h4⟩:=r.own i o f k h;rw[hi]at h1;cases h1;have kp:Keep F F H (upd H l u):=fun a q=>⟨q,jac fun z=>h2 (z ▸ q)⟩;have q:=q kp;have hlt:i < ρ.length:=(List.getElem?_eq_some_iff.mp h).1;refine⟨kp,fun a q=>?_,by simp[r.len],fun j d hj=>?_,fun j o1 f1 k1 hj=>?_,fun j jj o1 o2 f1 k1 f2 k2 m hjk hj hk=>?_,fun b hb=>r.base b (by
  unfold upd at hb;split at hb
  ·cases hb
  ·exact hb)⟩
 ·obtain⟨o,e⟩:=r.dom a q;exact⟨o,(kp a q).2.trans e⟩
 ·rw[jp9]at hj;by_cases hij:i=j
  ·subst hij;rw[if_pos rfl,if_pos hlt]at hj;cases hj
  ·rw[if_neg hij]at hj;obtain⟨v,e1,e2⟩:=r.dat j d hj;exact⟨v,e1,e2.mono kp⟩
 ·rw[jp9]at hj;by_cases hij:i=j
  ·subst hij;rw[if_pos rfl,if_pos hlt]at hj;cases hj;exact⟨l,hi,h2,q,h4⟩
  ·rw[if_neg hij]at hj;obtain⟨l',e1,e2,e3,e4⟩:=r.own j o1 f1 k1 hj;refine⟨l',e1,e2,e3.mono kp (jac fun z=>?_),e4⟩;subst z;exact r.one i j _ _ _ _ _ _ l' hij h hj hi e1
 ·have back:∀{j:Nat}{o1:O}{f1 k1:Bool},(ρ.set i (.own o' f k'))[j]?=some (.own o1 f1 k1)->∃o2 f2 k2,ρ[j]?=some (.own o2 f2 k2):=fun {j o1 f1 k1} hj=>by
   rw[jp9]at hj;by_cases hij:i=j
   ·subst hij;exact⟨_,_,_,h⟩
   ·rw[if_neg hij]at hj;exact⟨_,_,_,hj⟩
  obtain⟨_,_,_,hj'⟩:=back hj;obtain⟨_,_,_,hk'⟩:=back hk;exact r.one j jj _ _ _ _ _ _ m hjk hj' hk'
theorem Go.wr {i:Nat}{o o':O}{f:Bool}{l:Addr}{u:HO}(h:ρ[i]?=some (.own o f false))(hi:σ[i]?=some (some (.ref l))):Go σ ρ F H σ (ρ.set i (.own o' f false)) F (upd H l u):=by
 have hm:Mb σ ρ l:=⟨i,o,f,h,hi⟩;refine⟨fun b w e n=>by rw[jac fun z=>n (by rw[z];exact hm)];exact e,fun _ h=>h,fun _ h=>.inl h,fun j o1 f1 k1 b h1 h2=>?_,fun b w e=>?_⟩
 ·rw[jp9]at h1;by_cases e:i=j
  ·subst e;rw[if_pos rfl]at h1;split at h1
   ·cases h1;exact .inl ⟨o,false,h,h2,id⟩
   ·cases h1
  ·rw[if_neg e]at h1;exact Go.self h1 h2
 ·by_cases z:b=l
  ·exact⟨u,by rw[z];exact jam⟩
  ·exact⟨w,by rw[jac z];exact e⟩
theorem Go.lock {i:Nat}{o:O}{f k:Bool}(h:ρ[i]?=some (.own o f k)):Go σ ρ F H σ (ρ.set i (.own o f true)) F H:=by
 refine⟨fun _ _ h _=>h,fun _ h=>h,fun _ h=>.inl h,fun j o1 f1 k1 b h1 h2=>?_,fun _ o h=>⟨o,h⟩⟩;rw[jp9]at h1;by_cases e:i=j
 ·subst e;rw[if_pos rfl]at h1;split at h1
  ·cases h1;exact .inl ⟨o,k,h,h2,fun _=>rfl⟩
  ·cases h1
 ·rw[if_neg e]at h1;exact Go.self h1 h2
theorem SR.lock (r:SR Z B F H σ ρ){i:Nat}{o:O}{f k:Bool}(h:ρ[i]?=some (.own o f k))(k':Bool):SR Z B F H σ (ρ.set i (.own o f k')):=by
 have back:∀{j:Nat}{o1:O}{f1 k1:Bool},(ρ.set i (.own o f k'))[j]?=some (.own o1 f1 k1)->∃k2,ρ[j]?=some (.own o1 f1 k2):=fun {j o1 f1 k1} hj=>by
  rw[jp9]at hj;by_cases hij:i=j
  ·subst hij;rw[if_pos rfl]at hj;split at hj
   ·cases hj;exact⟨k,h⟩
   ·cases hj
  ·rw[if_neg hij]at hj;exact⟨_,hj⟩
 refine⟨r.dom,by simp[r.len],fun j d hj=>?_,fun j o1 f1 k1 hj=>?_,fun j jj o1 o2 f1 k1 f2 k2 m hjk hj hk=>?_,r.base⟩
 ·rw[jp9]at hj;by_cases hij:i=j
  ·rw[if_pos hij]at hj;split at hj <;> cases hj
  ·rw[if_neg hij]at hj;exact r.dat j d hj
 ·obtain⟨k2,e⟩:=back hj;exact r.own j o1 f1 k2 e
 ·obtain⟨_,e1⟩:=back hj;obtain⟨_,e2⟩:=back hk;exact r.one j jj _ _ _ _ _ _ m hjk e1 e2
theorem SR.oth (r:SR Z B F H σ ρ){p:Addr}{u:HO}(h1:¬F p)(h2:¬Ow σ ρ p):Keep F F H (upd H p u)/\SR Z B F (upd H p u) σ ρ:=by
 have kp:Keep F F H (upd H p u):=fun a q=>⟨q,jac fun z=>h1 (z ▸ q)⟩;refine⟨kp,fun a q=>?_,r.len,fun j d hj=>?_,fun j o f k hj=>?_,r.one,fun b hb=>r.base b (by
  unfold upd at hb;split at hb
  ·cases hb
  ·exact hb)⟩
 ·obtain⟨u,e⟩:=r.dom a q;exact⟨u,(kp a q).2.trans e⟩
 ·obtain⟨v,e1,e2⟩:=r.dat j d hj;exact⟨v,e1,e2.mono kp⟩
 ·obtain⟨l',e1,e2,e3,e4⟩:=r.own j o f k hj;refine⟨l',e1,e2,e3.mono kp (jac fun z=>?_),e4⟩;subst z;exact h2 ⟨j,o,f,k,hj,e1⟩
end
end DJ
namespace DJ
open PySem PySem.Spec PyProof.Rows L2
theorem R.bind_assoc {α β γ:Type}(r:R α)(f:α->R β)(g:β->R γ):(r.bind f).bind g=r.bind fun a=>(f a).bind g:=by cases r <;> rfl
theorem R.bind_ok' {α β:Type}(a:α)(f:α->R β):(R.ok a).bind f=f a:=rfl
theorem R.bind_ok {α β:Type}{r:R α}{f:α->R β}{b:β}(h:r.bind f=.ok b):∃a,r=.ok a/\f a=.ok b:=by
 cases r with
 |ok a=>exact⟨a,rfl,h⟩
 |err c=>cases h
 |stk=>cases h
noncomputable def Ok {α:Type}(W:Nat->Prop)(r:R α)(Q:α->Prop):Prop:=match r with
 |.ok d=>Q d
 |.err c=>W c
 |.stk=>False
theorem Ok.bind {α β:Type}{W:Nat->Prop}{r:R α}{f:α->R β}{Q:β->Prop}(h:Ok W (r.bind f) Q):Ok W r fun a=>Ok W (f a) Q:=by
 cases r with
 |ok a=>exact h
 |err c=>exact h
 |stk=>exact h
theorem Ok.imp {α:Type}{W W':Nat->Prop}{r:R α}{Q Q':α->Prop}(h:Ok W r Q)(w:∀c,W c->W' c)(k:∀a,Q a->Q' a):Ok W' r Q':=by
 cases r with
 |ok a=>exact k a h
 |err c=>exact w c h
 |stk=>exact h
theorem Ok.pure {α:Type}{W:Nat->Prop}{r:R α}{Q:α->Prop}(h:Ok W r Q)(hn:∀c,r≠.err c):∃a,r=.ok a/\Q a:=by
 cases r with
 |ok a=>exact⟨a,rfl,h⟩
 |err c=>exact absurd rfl (hn c)
 |stk=>exact h.elim
structure FlyC (X:Cx)(pins:List (Addr×Obj))(ea:Addr)(cls:Value)(H':Hp)(s':Shared):Prop where
 ex:∃a0 B,Heap.FlyingW B X.stack ea cls a0 s'.heap/\(∀b o,X.s₀.heap.get? b=some o->b ∉ frs X.stack->b ∉ X.ex->∃o',B.get? b=some o')/\(∀x c,X.fn x=true->X.env.cells.lookup x=some c->∃o',B.get? c=some o') /\
  (∀p∈X.pn++pins,∃o',B.get? p.1=some o')/\(∀a o,H' a=some o->∃o',B.get? a=some o')
 free:H' ea=none
structure Stl (σ:L2.St)(ρ:Rho)(H H':Hp):Prop where
 stay:∀b o,H b=some o->¬Mb σ ρ b->H' b=some o
 there:∀b o,H b=some o->∃o',H' b=some o'
noncomputable def XW (Z:Kn)(X:Cx)(σ:L2.St)(ρ:Rho)(H:Hp)(c:Nat):Prop:=∀(pins:List (Addr×Obj)) (H':Hp) (s':Shared) (ea C:Addr),Z.cl[c]?=some C->Inv X pins σ H' s'->Stl σ ρ H H'->FlyC X pins ea (.ref C) H' s'->X.xe (.ref ea) s'
theorem Stl.go {σ σ1:L2.St}{ρ ρ1:Rho}{F F1:Addr->Prop}{H H1 H2:Hp}(g:Go σ ρ F H σ1 ρ1 F1 H1)(s:Stl σ1 ρ1 H1 H2):Stl σ ρ H H2 where
 stay b o e n:=s.stay b o (g.stay b o e n) fun m=>by
  rcases g.mb m with q | q
  ·exact n q
  ·rw[e]at q;cases q
 there b o e:=by
  obtain⟨o1,e1⟩:=g.there b o e;exact s.there b o1 e1
theorem XW.mono {Z:Kn}{X:Cx}{σ:L2.St}{ρ ρ1:Rho}{F F1:Addr->Prop}{H H1:Hp}{c:Nat}(h:XW Z X σ ρ H c)(g:Go σ ρ F H σ ρ1 F1 H1):XW Z X σ ρ1 H1 c:=
 fun pins H' s' ea C e I q y=>h pins H' s' ea C e I (q.go g) y
noncomputable def RV (Z:Kn)(F':Addr->Prop)(H0 H':Hp)(σ:L2.St)(ρ':Rho):Vl->V->Prop
 |.dat d,v=>Rep Z F' H' d v
 |.tmp o,v=>∃l,v=.ref l/\¬F' l/\¬Ow σ ρ' l/\H0 l=none/\HasO Z F' H' l o
 |.slot i,v=>σ[i]?=some (some v)
noncomputable def Post (Z:Kn)(B:Bs)(σ:L2.St)(ρ:Rho)(F:Addr->Prop)(H:Hp)(Q:VK)(p:Vl×Rho):Prop:=∀v F' H',Go σ ρ F H σ p.2 F' H'->SR Z B F' H' σ p.2->RV Z F' H H' σ p.2 p.1 v->Q v H'
inductive tE_I (Z:Kn) (X:Cx) (B:Bs) (f:Rho->R (Vl×Rho)) (σ:L2.St) (H:L2.Hp) (Q:L2.VK):Prop
 |mk (F:_) (ρ:_):(SR Z B F H σ ρ)->(Ok (XW Z X σ ρ H) (f ρ) (Post Z B σ ρ F H Q))->tE_I Z X B f σ H Q
noncomputable def tE (Z:Kn)(X:Cx)(B:Bs)(f:Rho->R (Vl×Rho)):TE:=fun σ H Q=>tE_I Z X B f σ H Q
inductive tT_I (Z:Kn) (X:Cx) (B:Bs) (f:Rho->R (Bool×Rho)) (σ:L2.St) (H:L2.Hp) (Q:(Bool->L2.Hp->Prop)):Prop
 |mk (F:_) (ρ:_):(SR Z B F H σ ρ)->(Ok (XW Z X σ ρ H) (f ρ) fun p=>∀F' H',Go σ ρ F H σ p.2 F' H'->SR Z B F' H' σ p.2->Q p.1 H')->tT_I Z X B f σ H Q
noncomputable def tT (Z:Kn)(X:Cx)(B:Bs)(f:Rho->R (Bool×Rho)):TT:=fun σ H Q=>tT_I Z X B f σ H Q
theorem PE.imp {X:Cx}{e:Expr}{t t':TE}(h:PE X e t)(k:∀σ H Q,t' σ H Q->t σ H Q):PE X e t':=fun pins s σ H Q I q=>h pins s σ H Q I (k σ H Q q)
theorem PT.imp {X:Cx}{e:Expr}{t t':TT}(h:PT X e t)(k:∀σ H Q,t' σ H Q->t σ H Q):PT X e t':=fun pins s σ H Q I q=>h pins s σ H Q I (k σ H Q q)
theorem PI.imp {X:Cx}{tg e:Expr}{t t':TI}(h:PI X tg e t)(k:∀σ H R,t' σ H R->t σ H R):PI X tg e t':=fun pins s σ H R I q=>h pins s σ H R I (k σ H R q)
theorem PO.imp {X:Cx}{e:Option Expr}{t t':TO}(h:PO X e t)(k:∀σ H Q,t' σ H Q->t σ H Q):PO X e t':=fun pins s σ H Q I q=>h pins s σ H Q I (k σ H Q q)
theorem PS.imp {X:Cx}{e:Stmt}{t t':TS}(h:PS X e t)(k:∀D σ H,t' D σ H->t D σ H):PS X e t':=fun pins s σ H D I q=>h pins s σ H D I (k D σ H q)
theorem PSs.imp {X:Cx}{e:List Stmt}{t t':TS}(h:PSs X e t)(k:∀D σ H,t' D σ H->t D σ H):PSs X e t':=fun pins s σ H D I q=>h pins s σ H D I (k D σ H q)
section
variable {Z:Kn}{X:Cx}{B:Bs}{σ:L2.St}{ρ ρ1:Rho}{F F1:Addr->Prop}{H H1:Hp}
theorem tE.congr {f g:Rho->R (Vl×Rho)}(h:∀ρ,f ρ=g ρ):tE Z X B f=tE Z X B g:=by rw[show f=g from funext h]
theorem tT.congr {f g:Rho->R (Bool×Rho)}(h:∀ρ,f ρ=g ρ):tT Z X B f=tT Z X B g:=by rw[show f=g from funext h]
theorem Post.ext {Q:VK}{p:Vl×Rho}(h:Post Z B σ ρ F H Q p)(g:Go σ ρ F H σ ρ1 F1 H1):Post Z B σ ρ1 F1 H1 Q p:=fun v F' H' g' r' q=>by
 refine h v F' H' (g.trans g') r' ?_;obtain⟨w,ρ'⟩:=p;cases w with
 |dat d=>exact q
 |tmp o=>obtain⟨l,e,h1,h2,h3,h4⟩:=q;exact⟨l,e,h1,h2,g.free h3,h4⟩
 |slot i=>exact q
end
end DJ
namespace DJ
open PySem PySem.Spec PyProof.Rows L2
inductive TgsOk (X:Cx):List Expr->List Nat->Prop where
 |nil:TgsOk X [] []
 |cons {x:Str}{pos:Pos}{i:Nat}{es:List Expr}{is:List Nat}:X.N[i]?=some x->Loc X.env.scope x->(X.fn x=true\/X.env.scope.names.lookup x=some .local)->TgsOk X es is->TgsOk X (.Name x pos::es) (i::is)
inductive TgOk (X:Cx):Expr->List Nat->Bool->Prop where
 |one {x:Str}{pos:Pos}{i:Nat}:X.N[i]?=some x->Loc X.env.scope x->(X.fn x=true\/X.env.scope.names.lookup x=some .local)->TgOk X (.Name x pos) [i] true
 |many {es:List Expr}{k:Nat}{pos:Pos}{is:List Nat}:TgsOk X es is->TgOk X (.Tuple es k pos) is false
noncomputable def gNs:List Nat->TGs
 |[]=>jph
 |i::is=>jmE (jkq i) (gNs is)
noncomputable def jio (is:List Nat)(vs:List V)(σ:L2.St):L2.St:=(is.zip vs).foldl (fun r p=>r.set p.1 (some p.2)) σ
theorem jj0:∀{is:List Nat}{vs:List V}{σ:L2.St}{H:Hp}{Q:L2.St->Hp->Prop},is.length=vs.length->Q (jio is vs σ) H->gNs is vs σ H Q
 |[],[],_,_,_,_,q=>⟨rfl,q⟩
 |[],_::_,_,_,_,e,_=>by simp at e
 |_::_,[],_,_,_,e,_=>by simp at e
 |i::is,v::vs,σ,H,Q,e,q=>⟨v,vs,rfl,jj0 (is:=is) (vs:=vs) (σ:=σ.set i (some v)) (H:=H) (Q:=Q) (by simpa using e) q⟩
theorem TgsOk.pgs {X:Cx}(nd:X.N.Nodup){es:List Expr}{is:List Nat}(h:TgsOk X es is):PGs X es (gNs is):=by
 induction h with
 |nil=>exact jkr
 |cons h1 h2 h3 _ ih=>exact jiu (jgp nd h1 h2 h3) ih
theorem TgsOk.lens {X:Cx}{es:List Expr}{is:List Nat}(h:TgsOk X es is):(assignEach es X.env).length=is.length/\(assignEach es X.env).findIdx? (·.1)=none:=by
 induction h with
 |nil=>exact⟨rfl,rfl⟩
 |@cons x pos i es is _ _ _ _ ih=>
  have e:assignEach (Expr.Name x pos::es) X.env=(false,assign (.Name x pos) X.env)::assignEach es X.env:=rfl;rw[e];refine⟨by simp[ih.1],?_⟩
  rw[List.findIdx?_cons];simp[ih.2]
section
variable {Z:Kn}{B:Bs}{F:Addr->Prop}{H:Hp}
theorem SR.putN:∀{is:List Nat}{ds:List D}{vs:List V}{σ:L2.St}{ρ:Rho},SR Z B F H σ ρ->Reps Z F H ds vs ->
  SR Z B F H (jio is vs σ) ((is.zip ds).foldl (fun r p=>r.set p.1 (.dat p.2)) ρ)/\Go σ ρ F H (jio is vs σ) ((is.zip ds).foldl (fun r p=>r.set p.1 (.dat p.2)) ρ) F H
 |[],_,_,_,_,r,_=>by simpa[jio] using⟨r,Go.refl⟩
 |_::_,[],vs,_,_,r,h=>by
  simp only[Reps]at h;subst h;simpa[jio] using⟨r,Go.refl⟩
 |i::is,d::ds,vs,σ,ρ,r,h=>by
  simp only[Reps]at h;obtain⟨v,us,rfl,h1,h2⟩:=h;simp only[jio,List.zip_cons_cons,List.foldl_cons];obtain⟨a,b⟩:=SR.putN (is:=is) (r.put (i:=i) h1) h2;exact⟨a,Go.put.trans b⟩
end
theorem je2:∀{is:List Nat}{vs:List V}{σ:L2.St}{j:Nat},j ∉ is->(jio is vs σ)[j]?=σ[j]?
 |[],_,_,_,_=>by simp[jio]
 |_::_,[],_,_,_=>by simp[jio]
 |i::is,v::vs,σ,j,h=>by
  simp only[List.mem_cons,not_or]at h;have:=je2 (is:=is) (vs:=vs) (σ:=σ.set i (some v)) h.2;simp only[jio,List.zip_cons_cons,List.foldl_cons]at this ⊢;rw[this,jqm (Ne.symm h.1)]
theorem jpP {Z:Kn}{X:Cx}{tg:Expr}{tgs:List Nat}{one:Bool}(hZ:X.K=Z.K)(hc:one=false->X.calm=true)(nd:X.N.Nodup)(T:TgOk X tg tgs one){pins:List (Addr×Obj)}{s:Shared}{σ:L2.St}{ρ ρ':Rho}{B:Bs}{F:Addr->Prop}{H:Hp}{d:D}{v:V}{u:Value}
  (I:Inv X pins σ H s) (r:SR Z B F H σ ρ) (rp:Rep Z F H d v) (rv:RelV v u) (hp:putT tgs one d ρ=.ok ρ') :
  wpAny (model X.prog X.w) X.A (assign tg X.env u) (fun _ s'=>∃σ',Inv X pins σ' H s'/\SR Z B F H σ' ρ'/\Go σ ρ F H σ' ρ' F H/\∀i:Nat,i ∉ tgs->σ'[i]?=σ[i]?) X.xe s:=by
 cases T with
 |@one x pos i h1 h2 h3=>
  simp only[putT]at hp;cases hp;refine thn (jgp nd h1 h2 h3 pins s σ H v u (fun σ' H'=>(SR Z B F H σ' (ρ.set i (.dat d))/\Go σ ρ F H σ' (ρ.set i (.dat d)) F H/\∀j:Nat,j ∉ [i]->σ'[j]?=σ[j]?)/\H'=H) I rv ⟨⟨r.put rp,Go.put,fun j hj=>jqm (fun z=>hj (by simp[z]))⟩,rfl⟩) fun _ s' ⟨σ',H',I',q,e⟩=>?_
  subst e;exact⟨σ',I',q⟩
 |many h=>
  cases d with
  |tup ds=>
   simp only[putT]at hp;split at hp
   ·rename_i hl;cases hp;simp only[Rep]at rp;obtain⟨a,vs,rfl,ft,rs⟩:=rp;have hvl:vs.length=tgs.length:=by rw[hl,rs.length]
    refine thn (jmF (n:=tgs.length) (hc rfl) (h.pgs nd) h.lens.1 h.lens.2 pins s σ H (.ref a) u (fun σ' H'=>(SR Z B F H σ' ((tgs.zip ds).foldl (fun r p=>r.set p.1 (.dat p.2)) ρ)/\Go σ ρ F H σ' ((tgs.zip ds).foldl (fun r p=>r.set p.1 (.dat p.2)) ρ) F H/\∀j:Nat,j ∉ tgs->σ'[j]?=σ[j]?)/\H'=H) I rv ⟨a,vs,rfl,(by rw[hZ];exact ft.sq),hvl,jj0 hvl.symm ⟨⟨(r.putN rs).1,(r.putN rs).2,fun j hj=>je2 hj⟩,rfl⟩⟩) fun _ s' hzz=>?_
    obtain⟨σ',H',I',q,e⟩:=hzz;subst e;exact⟨σ',I',q⟩
   ·cases hp
  |_=>simp only[putT]at hp <;> cases hp
structure GK (F0:Addr->Prop)(H0:Hp)(ls:List Addr)(F:Addr->Prop)(H:Hp):Prop where
 keep:Keep F0 F H0 H
 ls:∀l∈ls,H l=H0 l
theorem GK.refl {F0:Addr->Prop}{H0:Hp}{ls:List Addr}:GK F0 H0 ls F0 H0:=⟨Keep.refl,fun _ _=>rfl⟩
theorem GK.ext {F0 F F1:Addr->Prop}{H0 H H1:Hp}{ls:List Addr}(g:GK F0 H0 ls F H)(d:Dom F H)(hl:∀l∈ls,∃o,H0 l=some o)(e:Ext F H F1 H1):GK F0 H0 ls F1 H1:=
 ⟨g.keep.trans (e.keep d),fun l h=>by
  obtain⟨o,q⟩:=hl l h;rw[e.same l o ((g.ls l h).trans q),q]⟩
theorem GK.go {Z:Kn}{B:Bs}{F0 F F1:Addr->Prop}{H0 H H1:Hp}{ls:List Addr}{σ σ1:L2.St}{ρ ρ1:Rho}(g:GK F0 H0 ls F H)(hl:∀l∈ls,∃o,H0 l=some o)(r:SR Z B F H σ ρ)(e:Go σ ρ F H σ1 ρ1 F1 H1)(hm:∀l∈ls,¬Mb σ ρ l):GK F0 H0 ls F1 H1:=
 ⟨g.keep.trans (e.keep r),fun l h=>by
  obtain⟨o,q⟩:=hl l h;rw[e.stay l o ((g.ls l h).trans q) (hm l h),q]⟩
noncomputable def ItmG (Z:Kn)(G:(Addr->Prop)->Hp->Prop)(J:L2.It)(xs:List D):Prop:=xs.length<=sizeLine/\∀F H,G F H->Dom F H ->
 (∀(i:Nat) (x:D),xs[i]?=some x->J.go i H/\∀v H2,J.yld i H v H2->∃F2,Ext F H F2 H2/\Rep Z F2 H2 x v)/\J.stop xs.length H
structure Wk (P:Program)(w:World)(Z:Kn)(tg:Expr)(F0:Addr->Prop)(H0:Hp)(ls:List Addr)(xs:List D)(fp:List Addr)(it:Addr)(tn:Nat->Heap->Prop):Prop where
 mem:it∈fp
 len:xs.length<=sizeLine
 lst:∀l∈ls,∃o,H0 l=some o
 obj:∀i h,tn i h->∀b∈fp,∃o,h.get? b=some o/\∀v,o.data≠.cell v
 keep:∀i h h',tn i h->(∀b∈fp,∀o,h.get? b=some o->h'.get? b=some o)->tn i h'
 self:∀(A:Around) (i:Nat) (s:Shared) (Q:Value->Shared->Prop) (E:Value->Shared->Prop),tn i s.heap->Q (.ref it) s->wpAny (model P w) A (pyIter (.ref it)) Q E s
 take:∀(X:Cx),X.prog=P->X.w=w->X.K=Z.K->X.calm=true->X.N.Nodup->∀tgs one,TgOk X tg tgs one ->
  ∀(i:Nat) (pins:List (Addr×Obj)) (s:Shared) (σ:L2.St) (ρ ρ':Rho) (B:Bs) (F:Addr->Prop) (H:Hp) (x:D),Inv X pins σ H s->SR Z B F H σ ρ->GK F0 H0 ls F H->(∀b∈fp,FpOk X pins H b)->tn i s.heap->xs[i]?=some x->putT tgs one x ρ=.ok ρ' ->
  wpAny (model P w) X.A (pyNext (.ref it)) (fun r s1=>∃u,r=some u/\wpAny (model P w) X.A (letOwnedTupleGo tg (.ref it) u) (fun _ s2=>wpAny (model P w) X.A (assign tg X.env u)
   (fun _ s3=>∃σ3 F3 H3,Inv X pins σ3 H3 s3/\SR Z B F3 H3 σ3 ρ'/\Go σ ρ F H σ3 ρ' F3 H3/\GK F0 H0 ls F3 H3/\tn (i + 1) s3.heap/\(∀b∈fp,H3 b=none)/\∀j:Nat,j ∉ tgs->σ3[j]?=σ[j]?) X.xe s2) X.xe s1) X.xe s
 done:∀(X:Cx),X.prog=P->X.w=w->X.K=Z.K->X.calm=true->∀(pins:List (Addr×Obj)) (s:Shared) (σ:L2.St) (F:Addr->Prop) (H:Hp),Inv X pins σ H s->Dom F H->GK F0 H0 ls F H->(∀b∈fp,FpOk X pins H b)->tn xs.length s.heap ->
  wpAny (model P w) X.A (pyNext (.ref it)) (fun r s1=>r=none/\Inv X pins σ H s1) X.xe s
theorem ItmG.wk {P:Program}{w:World}{Z:Kn}{K:Frag}{tg:Expr}{F0:Addr->Prop}{H0:Hp}{ls:List Addr}{J:L2.It}{xs:List D}{fp:List Addr}{it:Addr}{tn:Nat->Heap->Prop}(h:ItmG Z (GK F0 H0 ls) J xs)(hK:K=Z.K)(hl:∀l∈ls,∃o,H0 l=some o)(T:Turn P w K tg J fp it tn):Wk P w Z tg F0 H0 ls xs fp it tn where
 mem:=T.mem
 len:=h.1
 lst:=hl
 obj:=T.obj
 keep:=T.keep
 self:=T.self
 done:=fun X h1 h2 h3 hc pins s σ F H I dm g fo st=>T.done X h1 h2 (h3.trans hK.symm) hc _ pins s σ H X.xe I fo st (h.2 F H g dm).2
 take:=by
  intro X h1 h2 h3 hc nd tgs one tk i pins s σ ρ ρ' B F H x I r g fo st hx hp;obtain⟨g1,g2⟩:=(h.2 F H g r.dom).1 i x hx;refine thn (T.item X h1 h2 (h3.trans hK.symm) hc i pins s σ H X.xe I fo st g1) fun o s1 hz=>?_;obtain⟨u,ho,h⟩:=hz;refine⟨u,ho,thn h fun _ s2 hz=>?_⟩;obtain⟨v,H2,I2,rv,y,st2,fr2⟩:=hz;obtain⟨F2,ex,rp⟩:=g2 v H2 y;subst h1 h2;have fo2:∀b∈fp,FpOk X pins H2 b:=fun b hb=>⟨fr2 b hb,(fo b hb).2⟩;have I2':=I2.pinned fo2 (T.obj _ _ st2);refine thn (jpP h3 (fun _=>hc) nd tk I2' (r.ext ex) rp rv hp) fun _ s3 hzz=>?_;obtain⟨σ3,I3,r3,g3,ho3⟩:=hzz;refine⟨σ3,F2,H2,I3.unpinned,r3,ex.go.trans g3,g.ext r.dom hl ex,T.keep _ _ _ st2 fun b hb o e=>(I3.pin (b,o) (jqf _ (jqf _ (ja8 hb e)))).1,fr2,ho3⟩
section
variable {K:Frag}{F F':Addr->Prop}{H H':Hp}
theorem FL.keep {a:Addr}{xs:List V}(k:Keep F F' H H')(h:FL K F H a xs):FL K F' H' a xs:=h.imp k.rd id
theorem FT.keep {a:Addr}{xs:List V}(k:Keep F F' H H')(h:FT K F H a xs):FT K F' H' a xs:=h.imp k.rd id
end
theorem jiR {Z:Kn}{G:(Addr->Prop)->Hp->Prop}{xs:List D}{vs:List V}{a:Addr}(len:xs.length<=sizeLine)(hG:∀F H,G F H->Dom F H->SqL Z.K H a vs/\Reps Z F H xs vs):ItmG Z G (Itl Z.K a) xs:=
 ⟨len,fun F H g dm=>by
  obtain⟨q,r⟩:=hG F H g dm;refine⟨fun i x hx=>?_,⟨vs,q,by rw[r.length];exact jqD _⟩⟩
  obtain⟨v,e,rp⟩:=r.get hx;refine⟨⟨vs,v,q,e⟩,fun u H2 y=>?_⟩;obtain⟨rfl,y⟩:=y;have:=y vs q;rw[e]at this;cases this;exact⟨F,Ext.refl dm,rp⟩⟩
theorem jkR {Z:Kn}{G:(Addr->Prop)->Hp->Prop}{xs:List D}{vs:List V}{a:Addr}(len:xs.length<=sizeLine)(hG:∀F H,G F H->Dom F H->SqT Z.K H a vs/\Reps Z F H xs vs):ItmG Z G (Itt Z.K a) xs:=
 ⟨len,fun F H g dm=>by
  obtain⟨q,r⟩:=hG F H g dm;refine⟨fun i x hx=>?_,⟨vs,q,by rw[r.length];exact jqD _⟩⟩
  obtain⟨v,e,rp⟩:=r.get hx;refine⟨⟨vs,v,q,e⟩,fun u H2 y=>?_⟩;obtain⟨rfl,y⟩:=y;have:=y vs q;rw[e]at this;cases this;exact⟨F,Ext.refl dm,rp⟩⟩
theorem jkS (lo:Int)(n:Nat):(jkP lo n).length=n:=by unfold jkP;rw[jqd,List.length_range]
theorem jkT {Z:Kn}{G:(Addr->Prop)->Hp->Prop}{lo:Int}{n:Nat}(hn:n<=sizeLine):ItmG Z G (Itr lo n) (jkP lo n):=by
 have hl:=jkS lo n;refine⟨by rw[hl];exact hn,fun F H g dm=>⟨fun i x hx=>?_,by rw[hl];exact jqD n⟩⟩
 unfold jkP at hx;rw[jqa]at hx;cases e:(List.range n)[i]? with
 |none=>rw[e]at hx;cases hx
 |some k=>
  rw[e]at hx;obtain⟨h1,h2⟩:=List.getElem?_eq_some_iff.mp e;rw[List.length_range]at h1;rw[List.getElem_range]at h2;subst h2;cases hx;refine⟨h1,fun u H2 y=>?_⟩;obtain⟨rfl,rfl⟩:=y;exact⟨F,Ext.refl dm,by simp only[Rep]⟩
end DJ
namespace DJ
open PySem PySem.Spec PyProof.Rows L2
noncomputable def RepB (Z:Kn)(F:Addr->Prop)(H:Hp)(d:D)(v:V):Prop:=Rep Z F H d v\/∃l o,v=.ref l/\d=o.toD/\HasO Z F H l o
section
variable {Z:Kn}{X:Cx}{B:Bs}{σ:L2.St}{ρ ρ1 ρ2:Rho}{F F1 F2:Addr->Prop}{H H0 H1 H2:Hp}{w:Vl}{v:V}
theorem RV.go (h:RV Z F1 H0 H1 σ ρ1 w v)(r:SR Z B F1 H1 σ ρ1)(g:Go σ ρ1 F1 H1 σ ρ2 F2 H2):RV Z F2 H0 H2 σ ρ2 w v:=by
 cases w with
 |dat d=>exact Rep.mono (g.keep r) h
 |tmp o=>
  obtain⟨l,e,h1,h2,h3,h4⟩:=h;obtain⟨u,hu⟩:=h4.some;obtain⟨a,b,c⟩:=g.side hu h1 h2;exact⟨l,e,b,c,h3,h4.mono (g.keep r) (a.trans hu.symm)⟩
 |slot i=>exact h
theorem RV.base (h:RV Z F1 H0 H1 σ ρ1 w v)(k:∀l,H0 l=none->H l=none):RV Z F1 H H1 σ ρ1 w v:=by
 cases w with
 |dat d=>exact h
 |tmp o=>obtain⟨l,e,h1,h2,h3,h4⟩:=h;exact⟨l,e,h1,h2,k l h3,h4⟩
 |slot i=>exact h
theorem jaP {d:D}(h:RV Z F1 H0 H1 σ ρ1 w v)(r:SR Z B F1 H1 σ ρ1)(hd:deref w ρ1=.ok d):RepB Z F1 H1 d v:=by
 cases w with
 |dat d'=>cases hd;exact .inl h
 |tmp o=>cases hd;obtain⟨l,e,_,_,_,h4⟩:=h;exact .inr ⟨l,o,e,rfl,h4⟩
 |slot i=>
  simp only[deref]at hd;split at hd
  ·rename_i o f k e;cases hd;obtain⟨l,e1,_,e3,_⟩:=r.own i o f k e;have h:σ[i]?=some (some v):=h;rw[h]at e1;cases e1;exact .inr ⟨l,o,rfl,rfl,e3⟩
  ·cases hd
theorem jay {c:Nat}:deref w ρ1≠.err c:=by
 cases w with
 |dat d=>intro z;cases z
 |tmp o=>intro z;cases z
 |slot i=>
  simp only[deref];split <;> (intro z;cases z)
theorem O.rep {l:Addr}{o:O}(h:HasO Z F H l o)(hF:F l):Rep Z F H o.toD (.ref l):=by
 cases o with
 |l xs=>
  obtain⟨vs,e,q⟩:=h;simp only[O.toD,Rep];exact⟨l,vs,rfl,.inl ⟨hF,.inl e⟩,q⟩
 |d ks vs=>
  obtain⟨e1,e2,e3⟩:=h;simp only[O.toD,Rep];exact⟨l,rfl,hF,e1,e2,e3⟩
theorem SR.frzT (r:SR Z B F1 H1 σ ρ1){l:Addr}{o:O}(hO:¬Ow σ ρ1 l)(h:HasO Z F1 H1 l o):SR Z B (fun a=>F1 a\/a=l) H1 σ ρ1/\Rep Z (fun a=>F1 a\/a=l) H1 o.toD (.ref l):=by
 have kp:Keep F1 (fun a=>F1 a\/a=l) H1 H1:=fun a q=>⟨.inl q,rfl⟩;refine⟨⟨fun a q=>q.elim (r.dom a) fun (e:a=l)=>by rw[e];exact h.some,r.len,fun i d e=>let ⟨v,e1,e2⟩:=r.dat i d e;⟨v,e1,e2.mono kp⟩,fun i o f k e=>?_,r.one,r.base⟩,O.rep (h.mono kp rfl) (.inr rfl)⟩
 obtain⟨l',e1,e2,e3,e4⟩:=r.own i o f k e;refine⟨l',e1,fun z=>z.elim e2 fun z=>?_,e3.mono kp rfl,e4⟩;subst z;exact hO ⟨i,o,f,k,e,e1⟩
theorem Go.frzT (g:Go σ ρ F H σ ρ1 F1 H1){l:Addr}(hn:H l=none):Go σ ρ F H σ ρ1 (fun a=>F1 a\/a=l) H1:=
 ⟨g.stay,fun a h=>.inl (g.sub a h),fun a h=>h.elim (g.new a) fun (e:a=l)=>.inr (.inl (by rw[e];exact hn)),g.ow,g.there⟩
theorem je3 {d:D}(h:RV Z F1 H H1 σ ρ1 w v)(r:SR Z B F1 H1 σ ρ1)(g:Go σ ρ F H σ ρ1 F1 H1)(hd:toD w ρ1=.ok (d,ρ2)):∃F2,Go σ ρ F H σ ρ2 F2 H1/\SR Z B F2 H1 σ ρ2/\Rep Z F2 H1 d v/\Keep F1 F2 H1 H1:=by
 cases w with
 |dat d'=>cases hd;exact⟨F1,g,r,h,Keep.refl⟩
 |tmp o=>
  cases hd;obtain⟨l,rfl,h1,h2,h3,h4⟩:=h;obtain⟨a,b⟩:=r.frzT h2 h4;exact⟨_,g.frzT h3,a,b,fun a q=>⟨.inl q,rfl⟩⟩
 |slot i=>
  have h:σ[i]?=some (some v):=h;simp only[toD]at hd;split at hd
  ·rename_i o e;cases hd;obtain⟨l,e1,_⟩:=r.own i o _ _ e;rw[h]at e1;cases e1;obtain⟨a,b,c⟩:=r.frz e h;exact⟨_,g.trans (Go.frz e h),b,c,a⟩
  ·cases hd
theorem jc5 {c:Nat}:toD w ρ1≠.err c:=by
 cases w with
 |dat d=>intro z;cases z
 |tmp o=>intro z;cases z
 |slot i=>
  simp only[toD];split <;> (intro z;cases z)
end
section
variable {Z:Kn}{F F1:Addr->Prop}{H H1:Hp}{x:V}
theorem RepB.flat {d:D}(h:RepB Z F H d x)(hd:∀o:O,d≠o.toD):Rep Z F H d x:=by
 rcases h with h | ⟨_,o,_,e,_⟩
 ·exact h
 ·exact absurd e (hd o)
theorem RepB.int {i:Int}(h:RepB Z F H (.int i) x):x=.int i:=by have:=h.flat (fun o z=>by cases o <;> cases z);simpa only[Rep] using this
theorem RepB.bl {b:Bool}(h:RepB Z F H (.bl b) x):x=.bl b:=by have:=h.flat (fun o z=>by cases o <;> cases z);simpa only[Rep] using this
theorem RepB.str {s:Str}(h:RepB Z F H (.str s) x):x=.str s:=by have:=h.flat (fun o z=>by cases o <;> cases z);simpa only[Rep] using this
theorem RepB.non (h:RepB Z F H .non x):x=.non:=by have:=h.flat (fun o z=>by cases o <;> cases z);simpa only[Rep] using this
theorem RepB.tup {ds:List D}(h:RepB Z F H (.tup ds) x):∃a vs,x=.ref a/\FT Z.K F H a vs/\Reps Z F H ds vs:=by have:=h.flat (fun o z=>by cases o <;> cases z);simpa only[Rep] using this
theorem RepB.lst {ds:List D}(h:RepB Z F H (.lst ds) x):∃a vs,x=.ref a/\SqL Z.K H a vs/\Reps Z F H ds vs:=by
 rcases h with h | ⟨l,o,e1,e2,e3⟩
 ·simp only[Rep]at h;obtain⟨a,vs,e,q,r⟩:=h;exact⟨a,vs,e,q.sq,r⟩
 ·cases o with
  |l xs=>
   cases e2;obtain⟨vs,e,q⟩:=e3;exact⟨l,vs,e1,SqL.of e,q⟩
  |d ks vs=>cases e2
theorem RepB.dct {ks vs:List D}(h:RepB Z F H (.dct ks vs) x):∃a,x=.ref a/\ks=[]/\vs=[]/\H a=some (.dK []):=by
 rcases h with h | ⟨l,o,e1,e2,e3⟩
 ·simp only[Rep]at h;obtain⟨a,e,_,h1,h2,h3⟩:=h;exact⟨a,e,h1,h2,h3⟩
 ·cases o with
  |l xs=>cases e2
  |d ks' vs'=>cases e2;exact⟨l,e1,e3⟩
theorem jc6 {d:D}{xs:List D}(h:RepB Z F H d x)(hs:jaO d=.ok xs):∃p vs,x=.ref p/\(SqL Z.K H p vs\/SqT Z.K H p vs)/\Reps Z F H xs vs:=by
 cases d with
 |tup ds=>cases hs;obtain⟨a,vs,e,ft,r⟩:=h.tup;exact⟨a,vs,e,.inr ft.sq,r⟩
 |lst ds=>cases hs;obtain⟨a,vs,e,ft,r⟩:=h.lst;exact⟨a,vs,e,.inl ft,r⟩
 |_=>cases hs
end
noncomputable def PostV (Z:Kn)(F:Addr->Prop)(H:Hp)(Q:VK)(w:Vl):Prop:=∀v F' H',Ext F H F' H'->(∀σ ρ B,SR Z B F H σ ρ->RV Z F' H H' σ ρ w v)->Q v H'
section
variable {Z:Kn}{B:Bs}{σ:L2.St}{ρ:Rho}{F:Addr->Prop}{H:Hp}{Q:VK}
theorem PostV.sc {d:D}{v:V}(h:PostV Z F H Q (.dat d))(dm:Dom F H)(r:Rep Z F H d v):Q v H:=h v F H (Ext.refl dm) fun _ _ _ _=>r
theorem PostV.int {i:Int}(h:PostV Z F H Q (.dat (.int i)))(dm:Dom F H):Q (.int i) H:=h.sc dm (by simp only[Rep])
theorem PostV.bl {i:Bool}(h:PostV Z F H Q (.dat (.bl i)))(dm:Dom F H):Q (.bl i) H:=h.sc dm (by simp only[Rep])
theorem PostV.tupOld {ds:List D}{a:Addr}{vs:List V}(h:PostV Z F H Q (.dat (.tup ds)))(dm:Dom F H)(f:FT Z.K F H a vs)(r:Reps Z F H ds vs):Q (.ref a) H:=h.sc dm (by simp only[Rep];exact⟨a,vs,rfl,f,r⟩)
theorem PostV.tup {ds:List D}{vs:List V}(h:PostV Z F H Q (.dat (.tup ds)))(dm:Dom F H)(r:Reps Z F H ds vs):∀p,H p=none->Q (.ref p) (upd H p (.tup vs)):=fun p hp=>by
 have ex:=Ext.newF (o:=.tup vs) dm hp;refine h _ _ _ ex fun _ _ _ _=>?_;show Rep _ _ _ _ _;simp only[Rep];exact⟨p,vs,rfl,.inl ⟨.inr rfl,.inl jam⟩,r.mono (ex.keep dm)⟩
theorem PostV.lst {ds:List D}{vs:List V}(h:PostV Z F H Q (.tmp (.l ds)))(dm:Dom F H)(r:Reps Z F H ds vs):∀p,H p=none->Q (.ref p) (upd H p (.lst vs)):=fun p hp=>by
 have ex:=Ext.newO (o:=.lst vs) dm hp;refine h _ _ _ ex fun σ ρ B sr=>⟨p,rfl,fun z=>?_,fun z=>?_,hp,vs,jam,r.mono (ex.keep dm)⟩
 ·obtain⟨o,e⟩:=dm p z;rw[hp]at e;cases e
 ·obtain⟨u,e⟩:=sr.there z;rw[hp]at e;cases e
end
theorem Post.toV {Z:Kn}{B:Bs}{σ:L2.St}{ρ ρ1:Rho}{F F1:Addr->Prop}{H H1:Hp}{Q:VK}{w:Vl}(h:Post Z B σ ρ F H Q (w,ρ1))(g:Go σ ρ F H σ ρ1 F1 H1)(r:SR Z B F1 H1 σ ρ1)(hw:∀i,w≠.slot i):PostV Z F1 H1 Q w:=fun v F' H' e q=>by
 refine h v F' H' (g.trans e.go) (r.ext e) ?_;exact(q σ ρ1 B r).base fun l z=>g.free z
inductive rD2_I (Z:Kn) (g:D->D->R Vl) (x:L2.V) (y:L2.V) (H:L2.Hp) (Q:L2.VK):Prop
 |mk (F:_) (dx:_) (dy:_) (w:_):(Dom F H)->(RepB Z F H dx x)->(RepB Z F H dy y)->(g dx dy=.ok w)->(PostV Z F H Q w)->rD2_I Z g x y H Q
noncomputable def rD2 (Z:Kn)(g:D->D->R Vl):R2:=fun x y H Q=>rD2_I Z g x y H Q
inductive rD1_I (Z:Kn) (g:D->R Vl) (x:V) (H:Hp) (Q:VK):Prop
 |mk (F:_) (dx:_) (w:_):(Dom F H)->(RepB Z F H dx x)->(g dx=.ok w)->(PostV Z F H Q w)->rD1_I Z g x H Q
noncomputable def rD1 (Z:Kn)(g:D->R Vl):V->Hp->VK->Prop:=fun x H Q=>rD1_I Z g x H Q
section
variable {Z:Kn}{X:Cx}{B:Bs}{σ:L2.St}{H:Hp}{Q:VK}
theorem tE.two {fa fb:Rho->R (Vl×Rho)}{g:D->D->R Vl}(hg:∀x y c,g x y≠.err c)(hs:∀x y i,g x y≠.ok (.slot i))
  (h:tE Z X B (fun ρ=>(fa ρ).bind fun p=>(fb p.2).bind fun q=>(deref p.1 q.2).bind fun x=>(deref q.1 q.2).bind fun y=>(g x y).bind fun v=>.ok (v,q.2)) σ H Q) :
  tOp (rD2 Z g) (tE Z X B fa) (tE Z X B fb) σ H Q:=by
 obtain⟨F,ρ,r,h⟩:=h;refine⟨F,ρ,r,h.bind.imp (fun _ w=>w) fun p h1 v F1 H1 g1 r1 q1=>⟨F1,p.2,r1,h1.bind.imp (fun c w=>w.mono g1) fun q h2 u F2 H2 g2 r2 q2=>?_⟩⟩;obtain⟨x,ex,h3⟩:=h2.bind.pure fun c=>jay;obtain⟨y,ey,h4⟩:=h3.bind.pure fun c=>jay;obtain⟨w,ew,h5⟩:=h4.bind.pure fun c=>hg x y c;have g12:=g1.trans g2;exact⟨F2,x,y,w,r2.dom,jaP (q1.go r1 g2) r2 ex,jaP q2 r2 ey,ew,Post.toV h5 g12 r2 fun i z=>hs x y i (by rw[ew,z])⟩
theorem tE.one {fa:Rho->R (Vl×Rho)}{g:D->R Vl}(hg:∀x c,g x≠.err c)(hs:∀x i,g x≠.ok (.slot i))(h:tE Z X B (fun ρ=>(fa ρ).bind fun p=>(deref p.1 p.2).bind fun x=>(g x).bind fun v=>.ok (v,p.2)) σ H Q):tUn (rD1 Z g) (tE Z X B fa) σ H Q:=by
 obtain⟨F,ρ,r,h⟩:=h;refine⟨F,ρ,r,h.bind.imp (fun _ w=>w) fun p h1 v F1 H1 g1 r1 q1=>?_⟩;obtain⟨x,ex,h3⟩:=h1.bind.pure fun c=>jay;obtain⟨w,ew,h5⟩:=h3.bind.pure fun c=>hg x c;exact⟨F1,x,w,r1.dom,jaP q1 r1 ex,ew,Post.toV h5 g1 r1 fun i z=>hs x i (by rw[ew,z])⟩
end
end DJ
namespace DJ
open PySem PySem.Spec PyProof.Rows L2
noncomputable def jfG (env:Env):List (Str×NameKind)->List (Str×Addr)->List (Str×Addr)
 |[],cs=>cs
 |(n,k)::r,cs=>jfG env r (if k == .free then (n,(env.cells.lookup n).getD 0)::cs else cs)
theorem jkU {env:Env}:∀(names:List (Str×NameKind)) (cs:List (Str×Addr)),(∀x∈names,x.2=.free->∃c,env.cells.lookup x.1=some c) ->
  (forIn names cs fun (x:Str×NameKind) (cs:List (Str×Addr))=>(match x with
   |(name,kind)=>if (kind == NameKind.free)=true then (do let a <-cellOf env name;pure (ForInStep.yield ((name,a)::cs)))else pure (ForInStep.yield cs):Sem (ForInStep (List (Str×Addr)))))=(pure (jfG env names cs):Sem _):=by
 intro names;induction names with
 |nil=>intro cs _;rfl
 |cons x r ih=>
  intro cs h;obtain⟨n,k⟩:=x;rw[List.forIn_cons];have ih':=fun cs=>ih cs fun x hx=>h x (jp6 _ hx);by_cases hk:(k == NameKind.free)=true
  ·obtain⟨c,hc⟩:=h (n,k) jp7 (by simpa using hk)
   have e1:cellOf env n=pure c:=by
    have hc:env.cells.lookup n=some c:=hc;unfold cellOf;rw[hc]
   simp only[hk,if_true,e1];have hc:env.cells.lookup n=some c:=hc;simp only[jfG,hk,if_true,hc,Option.getD_some];exact ih' _
  ·simp only[hk,jfG];exact ih' _
theorem jgW {scope:Scope}{env:Env}(h:∀x∈scope.names,x.2=.free->∃c,env.cells.lookup x.1=some c):closureFor scope env=pure (jfG env scope.names []):=by
 have:=jkU scope.names [] h;unfold closureFor;simp only;rw[this];rfl
theorem jbd {env:Env}:∀(names:List (Str×NameKind)) (cs:List (Str×Addr)),(∀x∈names,x.2=.free->∃c,env.cells.lookup x.1=some c)->(∀n c,cs.lookup n=some c->env.cells.lookup n=some c) ->
  ∀n c,(jfG env names cs).lookup n=some c->env.cells.lookup n=some c
 |[],_,_,h2,n,c,e=>h2 n c e
 |(y,k)::r,cs,h1,h2,n,c,e=>by
  refine jbd r _ (fun x hx=>h1 x (jp6 _ hx)) (fun m b q=>?_) n c e;by_cases hk:(k == NameKind.free)=true
  ·rw[if_pos hk]at q;obtain⟨b',hb⟩:=h1 (y,k) jp7 (by simpa using hk)
   have hb:env.cells.lookup y=some b':=hb;rw[hb,List.lookup_cons]at q;by_cases e:m=y
   ·subst e;simp at q;subst q;exact hb
   ·have:(m == y)=false:=by simpa using e
    rw[this]at q;exact h2 m b q
  ·rw[if_neg hk]at q;exact h2 m b q
theorem jc7 {env:Env}:∀(names:List (Str×NameKind)) (cs:List (Str×Addr)) (n:Str),(∃c,cs.lookup n=some c)\/(n,NameKind.free)∈names->∃c,(jfG env names cs).lookup n=some c
 |[],cs,n,h=>h.elim id fun h=>by simp at h
 |(y,k)::r,cs,n,h=>by
  refine jc7 r _ n ?_;have keep:(∃c,cs.lookup n=some c)->∃c,(if k == NameKind.free then (y,(env.cells.lookup y).getD 0)::cs else cs).lookup n=some c:=fun ⟨c,e⟩=>by
   split
   ·rw[List.lookup_cons];split
    ·exact⟨_,rfl⟩
    ·exact⟨c,e⟩
   ·exact⟨c,e⟩
  rcases h with h | h
  ·exact .inl (keep h)
  ·rcases List.mem_cons.mp h with h | h
   ·cases h;refine .inl ⟨(env.cells.lookup y).getD 0,?_⟩;rw[if_pos (by rfl),List.lookup_cons]
    simp
   ·exact .inr h
theorem jaU {c:Str->NameKind->Bool}{x:Str}:∀(names:List (Str×NameKind)),(names.map fun (p:Str×NameKind)=>match p with | (n,k)=>if c n k=true then (n,NameKind.cell)else (n,k)).lookup x=(names.lookup x).map fun k=>if c x k=true then NameKind.cell else k
 |[]=>rfl
 |(n,k)::r=>by
  rw[jqb,List.lookup_cons];have ih:=jaU (c:=c) (x:=x) r;by_cases e:x=n
  ·subst e;by_cases hc:c x k=true
   ·simp[hc]
   ·simp[hc]
  ·have e':(x == n)=false:=by simpa using e
   by_cases hc:c n k=true
   ·simp only[hc,if_true,List.lookup_cons,e'];exact ih
   ·simp only[hc,jqJ,if_false,List.lookup_cons,e'];exact ih
section
variable {x:Str}{c:Addr}
theorem jbC (n:Nat)(y:Str)(k:NameKind)(r:List (Str×NameKind))(cs:List (Str×Addr)):cellsFrom n ((y,k)::r) cs=if k == .cell then cellsFrom (n + 1) r ((y,n)::cs)else cellsFrom n r cs:=rfl
theorem jgX (h:Heap)(y:Str)(k:NameKind)(r:List (Str×NameKind)):pushCells h ((y,k)::r)=if k == .cell then pushCells (h.push { cls:=.type "cell",data:=.cell none }) r else pushCells h r:=rfl
theorem jbD {y:Str}{n:Addr}{cs:List (Str×Addr)}(h:((y,n)::cs).lookup x=some c):(x=y/\c=n)\/(x≠y/\cs.lookup x=some c):=by
 rw[List.lookup_cons]at h;by_cases e:x=y
 ·subst e;simp at h;exact .inl ⟨rfl,h.symm⟩
 ·have:(x == y)=false:=by simpa using e
  rw[this]at h;exact .inr ⟨e,h⟩
theorem jb3:∀(names:List (Str×NameKind)) (n:Nat) (cs:List (Str×Addr)),(cellsFrom n names cs).lookup x=some c->n<=c\/cs.lookup x=some c
 |[],n,cs,h=>.inr h
 |(y,k)::r,n,cs,h=>by
  rw[jbC]at h;split at h
  ·rcases jb3 r _ _ h with h | h
   ·exact .inl (by omega)
   ·rcases jbD h with ⟨_,e⟩ | ⟨_,h⟩
    ·exact .inl (e ▸ jqD _)
    ·exact .inr h
  ·exact jb3 r _ _ h
theorem jgY:∀(names:List (Str×NameKind)) (n:Nat) (cs:List (Str×Addr)),(∀x c,cs.lookup x=some c->c < n)->(∀x y c,cs.lookup x=some c->cs.lookup y=some c->x=y)->∀x y c,(cellsFrom n names cs).lookup x=some c->(cellsFrom n names cs).lookup y=some c->x=y
 |[],n,cs,_,h=>h
 |(y,k)::r,n,cs,h1,h2=>by
  rw[jbC];split
  ·refine jgY r (n + 1) _ (fun a b q=>?_) fun a a' b q q'=>?_
   ·rcases jbD q with ⟨_,e⟩ | ⟨_,q⟩
    ·rw[e];exact Nat.lt_succ_self _
    ·exact Nat.lt_succ_of_lt (h1 a b q)
   ·rcases jbD q with ⟨e,e1⟩ | ⟨_,q⟩ <;> rcases jbD q' with ⟨e',e2⟩ | ⟨_,q'⟩
    ·rw[e,e']
    ·exact absurd (h1 a' b q') (by rw[e1];exact jqH _)
    ·exact absurd (h1 a b q) (by rw[e2];exact jqH _)
    ·exact h2 a a' b q q'
  ·exact jgY r n cs h1 h2
theorem jel:∀(names:List (Str×NameKind)) (h:Heap) (cs:List (Str×Addr)),(∀x c,cs.lookup x=some c->∃v,h.IsCell c v)->∀x c,(cellsFrom h.objs.size names cs).lookup x=some c->∃v,(pushCells h names).IsCell c v
 |[],h,cs,k=>k
 |(y,k)::r,h,cs,q=>by
  rw[jbC,jgX];split
  ·have e:h.objs.size + 1=(h.push { cls:=.type "cell",data:=.cell none }).objs.size:=by rw[Heap.size_push]
   rw[e];refine jel r _ _ fun a b z=>?_;rcases jbD z with ⟨_,e⟩ | ⟨_,z⟩
   ·subst e;exact⟨none,_,jqA _ rfl,rfl⟩
   ·obtain⟨v,z⟩:=q a b z;exact⟨v,z.keeps fun b o e=>jqy _ e⟩
  ·exact jel r h cs q
theorem jgZ:∀(names:List (Str×NameKind)) (n:Nat) (cs:List (Str×Addr)),(∀y∈names,y.1=x->y.2≠.cell)->(cellsFrom n names cs).lookup x=cs.lookup x
 |[],n,cs,_=>rfl
 |(y,k)::r,n,cs,h=>by
  rw[jbC];split
  ·rename_i hk;rw[jgZ r _ _ fun z hz=>h z (jp6 _ hz),List.lookup_cons];have hne:x≠y:=fun e=>h (y,k) jp7 e.symm (by simpa using hk)
   have:(x == y)=false:=by simpa using hne
   rw[this]
  ·exact jgZ r _ _ fun z hz=>h z (jp6 _ hz)
theorem jkV {n0:Nat}:∀(names:List (Str×NameKind)) (n:Nat) (cs:List (Str×Addr)),n0<=n->(∀c,cs.lookup x=some c->n0<=c)->(cellsFrom n names cs).lookup x=some c->n0<=c
 |[],n,cs,_,h,e=>h c e
 |(y,k)::r,n,cs,hn,h,e=>by
  rw[jbC]at e;split at e
  ·refine jkV r _ _ (by omega) (fun b z=>?_) e
   rcases jbD z with ⟨_,e⟩ | ⟨_,z⟩
   ·rw[e];exact hn
   ·exact h b z
  ·exact jkV r _ _ hn h e
theorem jg0:∀(names:List (Str×NameKind)) (n:Nat) (cs:List (Str×Addr)),(x,NameKind.cell)∈names->(cellsFrom n names cs).lookup x=some c->n<=c
 |[],n,cs,h,_=>by cases h
 |(y,k)::r,n,cs,h,e=>by
  rw[jbC]at e;rcases List.mem_cons.mp h with h | h
  ·cases h;rw[if_pos (by rfl)]at e
   refine jkV r _ _ (Nat.le_succ _) (fun b z=>?_) e;rcases jbD z with ⟨_,e⟩ | ⟨z,_⟩
   ·rw[e];exact jqD _
   ·exact absurd rfl z
  ·split at e
   ·exact Nat.le_of_succ_le (jg0 r _ _ h e)
   ·exact jg0 r _ _ h e
theorem jcd {M:Model}{A:Around}{E:Value->Shared->Prop}{Q:List (Str×Addr)->Shared->Prop}:∀(names:List (Str×NameKind)) (cs:List (Str×Addr)) (s:Shared),Q (cellsFrom s.heap.objs.size names cs) { s with heap:=pushCells s.heap names } ->
  wpAny M A (forIn names cs fun (x:Str×NameKind) (__s:List (Str×Addr))=>(match x with
    |(name,kind)=>if (kind == NameKind.cell)=true then (do let a <-alloc { cls:=.type "cell",data:=.cell none };pure (ForInStep.yield ((name,a)::__s)))else pure (ForInStep.yield __s):Sem (ForInStep (List (Str×Addr))))) Q E s
 |[],cs,s,h=>jqt h
 |(y,k)::r,cs,s,h=>by
  rw[jbC,jgX]at h;rw[List.forIn_cons];by_cases hk:(k == NameKind.cell)=true
  ·rw[if_pos hk,if_pos hk]at h;simp only[hk,if_true];refine jqs (jqs (wpAny_alloc (jqt ?_)));have:=jcd (M:=M) (A:=A) (E:=E) (Q:=Q) r ((y,s.heap.objs.size)::cs) { s with heap:=s.heap.push { cls:=.type "cell",data:=.cell none } } (by rw[Heap.size_push];exact h)
   exact this
  ·rw[if_neg hk,if_neg hk]at h;simp only[hk];exact jqs (jqt (jcd r cs s h))
theorem jfH {M:Model}{A:Around}{E:Value->Shared->Prop}{s:Shared}{scope:Scope}{g:Addr}{cl:List (Str×Addr)}{qual:Str}{env:Env}{Q:Env->Shared->Prop}
  (h:Q (newEnv scope s.heap.objs.size g (cellsFrom (s.heap.objs.size + 1) scope.names cl) qual none .none (some env) builtinsNs) { s with heap:=pushCells (s.heap.push { cls:=.type "dict",data:=.dict #[] }) scope.names }) :
  wpAny M A (newFunctionEnv scope g cl [] qual none .none (some env)) Q E s:=by
 unfold newFunctionEnv;refine jqs (wpAny_alloc ?_);refine jqs (jcd scope.names cl _ ?_);refine jqs (jqt (jqt ?_));rw[Heap.size_push];exact h
end
noncomputable def cxComp (X:Cx)(N:List Str)(scope:Scope)(s:Shared)(H:Hp)(fp:List Addr):Cx:=
 { X with N:=N,s₀:=s,H₀:=H,env:=compEnvC scope (cellsFrom (s.heap.objs.size + 1) scope.names (jfG X.env scope.names [])) s.heap.objs.size X.env,outer:=X.stack,ex:=fp,fn:=fun x=>scope.names.lookup x == some .cell,pn:=[],xe:=fun _ _=>False }
structure CompOk (X:Cx)(scope:Scope)(N cn:List Str)(nt:Nat)(caps:List Nat):Prop where
 kind:scope.kind=.function
 cell:∀y∈scope.names,y.2=.cell->scope.names.lookup y.1=some .cell
 names:∀y∈scope.names,y.2=.local->scope.names.lookup y.1=some .local
 free:∀y∈scope.names,y.2=.free->X.env.scope.names.lookup y.1=some .cell\/X.env.scope.names.lookup y.1=some .free
 nd:N.Nodup
 split:∃tn,N=tn++cn/\tn.length=nt
 clen:cn.length=caps.length
 at_:∀(k j:Nat) (x:Str),cn[k]?=some x->caps[k]?=some j->X.N[j]?=some x/\scope.names.lookup x=some .free
section
variable {X:Cx}{scope:Scope}{N cn:List Str}{nt:Nat}{caps:List Nat}{pins:List (Addr×Obj)}{σ:L2.St}{H:Hp}{s:Shared}{fp:List Addr}
noncomputable def jiS (nt:Nat)(caps:List Nat)(σ:L2.St):L2.St:=List.replicate nt none++caps.map fun j=>(σ[j]?).getD none
theorem CompOk.cells (C:CompOk X scope N cn nt caps)(I:Inv X pins σ H s):∀y∈scope.names,y.2=.free->∃c,X.env.cells.lookup y.1=some c:=fun y hy e=>I.ok.has y.1 (C.free y hy e)
theorem jg1 (C:CompOk X scope N cn nt caps)(I:Inv X pins σ H s)(fo:∀b∈fp,FpOk X pins H b)(ft:∀b∈fp,b < s.heap.objs.size):(cxComp X N scope s H fp).Ok where
 mod:=I.ok.mod
 kind:=C.kind
 glob:=I.ok.glob
 blt:=I.ok.blt
 above:=jqD _
 inj:=jgY _ _ _ (fun x c h=>by
  obtain⟨v,z⟩:=I.cell x c (jbd _ _ (C.cells I) (fun _ _ z=>by simp at z) _ _ h)
  obtain⟨o,e,_⟩:=z;exact Nat.lt_succ_of_lt (jqz e)) fun x y c h1 h2=>I.ok.inj x y c (jbd _ _ (C.cells I) (fun _ _ z=>by simp at z) _ _ h1) (jbd _ _ (C.cells I) (fun _ _ z=>by simp at z) _ _ h2)
 has:=fun x hx=>by
  have fin:(x,NameKind.free)∈scope.names\/scope.names.lookup x=some .cell->∃c,(cellsFrom (s.heap.objs.size + 1) scope.names (jfG X.env scope.names [])).lookup x=some c:=fun z=>by
   refine Option.isSome_iff_exists.mp (PySem.W.cellsFrom_some _ _ _ ?_);rcases z with z | z
   ·obtain⟨c,e⟩:=jc7 (env:=X.env) scope.names [] x (.inr z);exact .inr (by rw[e];rfl)
   ·exact .inl z
  refine fin ?_;have hx':(relabel scope X.env).names.lookup x=some .cell\/(relabel scope X.env).names.lookup x=some .free:=hx;unfold relabel at hx';simp only at hx';rw[jaU (c:=fun n k=>k == .free && X.env.scope.kind == .function && X.env.kindOf n == some .cell)]at hx';cases e:scope.names.lookup x with
  |none=>rw[e]at hx';simp at hx'
  |some k=>
   have hm:=PySem.mem_of_lookup e;by_cases hk:k=.free
   ·subst hk;exact .inl hm
   ·rw[e]at hx';have hk':(k == NameKind.free)=false:=by simpa using hk
    simp only[hk',Bool.false_and,jqJ,if_false,Option.map_some,Option.some.injEq]at hx';rcases hx' with hx' | hx'
    ·subst hx';exact .inr rfl
    ·exact absurd hx' hk
 cab:=fun x c h hc=>by
  have h:(scope.names.lookup x == some .cell)=true:=h;exact Nat.le_of_succ_le (jg0 _ _ _ (PySem.mem_of_lookup (by simpa using h)) hc)
 hd:=I.ok.hd
 frames:=I.ok.frames
 stk:=.inl rfl
 exf:=fun b hb=>⟨jqF (ft b hb),fun x c h=>by
  rcases jb3 _ _ _ h with h | h
  ·intro z;subst z;exact absurd (Nat.lt_trans (ft c hb) (Nat.lt_of_succ_le h)) (jqH _)
  ·exact(fo b hb).2.2.2.2.1 x c (jbd _ _ (C.cells I) (fun _ _ z=>by simp at z) _ _ h)⟩
 bs:=I.bs
 bsz:=jqG I.ok.bsz I.sz
 noex:=fun b o e hb=>by
  rcases (fo b hb).2.2.2.1 with z | z
  ·exact I.ok.noex b o e z
  ·exact absurd (jqE (jqz e) (jqG I.ok.bsz z)) (jqH _)
 exfs:=fun b hb hs=>by
  rcases List.mem_cons.mp (I.stkSub b hs)with z | z
  ·exact(fo b hb).2.1 z
  ·exact(fo b hb).2.2.1 z
 funs:=I.stack
 frf:=I.stkFree
theorem jiT (C:CompOk X scope N cn nt caps)(I:Inv X pins σ H s)(fo:∀b∈fp,FpOk X pins H b)(ft:∀b∈fp,b < s.heap.objs.size){h1:Heap}{m0:Str->Option Value}{tk:Nat}(hns:h1.Ns s.heap.objs.size m0)
  (kp:∀b o,s.heap.get? b=some o->h1.get? b=some o) (hcl:∀x c,(cellsFrom (s.heap.objs.size + 1) scope.names (jfG X.env scope.names [])).lookup x=some c->∃v,h1.IsCell c v):Inv (cxComp X N scope s H fp) [] (jiS nt caps σ) H { s with heap:=h1,toks:=tk }:=by
 have sub:=jbd (env:=X.env) scope.names [] (C.cells I) (fun _ _ z=>by simp at z)
 refine⟨jg1 C I fo ft,rfl,I.bare,Un.kept kp,⟨m0,hns,fun i x v h1' h2 h3=>?_⟩,fun x c e=>?_,I.hok.fresh (jqD _),fun x c e=>(jb3 _ _ _ e).elim (fun z=>I.hok.fresh (Nat.le_of_succ_le z)) fun e=>I.freeC x c (sub x c e),fun p hp=>absurd (show p∈([]:List (Addr×Obj))from hp) (by simp),I.hok.kept kp,?_⟩
 ·obtain⟨tn,eN,hl⟩:=C.split;have h1':N[i]?=some x:=h1';have hi:nt<=i:=by
   refine Nat.le_of_not_lt fun hlt=>?_;unfold jiS at h2;rw[jql (by simpa using hlt),List.getElem?_replicate,if_pos hlt]at h2
   cases h2
  unfold jiS at h2;rw[jqh (by simpa using hi),List.length_replicate,jqa]at h2
  rw[eN,jqh (by omega),hl]at h1'
  cases e:caps[i - nt]? with
  |none=>rw[e]at h2;cases h2
  |some j=>
   rw[e]at h2;obtain⟨hj,hf⟩:=C.at_ _ j x h1' e;have h2':(σ[j]?).getD none=some v:=Option.some.inj h2;have h2'':σ[j]?=some (some v):=by
    cases q:σ[j]? with
    |none=>rw[q]at h2';cases h2'
    |some o=>rw[q]at h2';simp at h2';rw[h2']
   have hm:=PySem.mem_of_lookup hf;have hk:=C.free _ hm rfl;obtain⟨m,hn,hl'⟩:=I.loc;obtain⟨u,r,lk⟩:=hl' j x v hj h2'' (.inr hk);refine⟨u,r,?_⟩;rcases lk with ⟨k1,_⟩ | ⟨_,c,hc,hcell⟩
   ·have k1:X.env.scope.names.lookup x=some .local:=k1;rw[k1]at hk;rcases hk with z | z <;> cases z
   ·obtain⟨c',hc'⟩:=jc7 (env:=X.env) scope.names [] x (.inr hm);have hcc:=sub x c' hc';rw[hc]at hcc;cases hcc;refine .inr ⟨?_,c,(jgZ _ _ _ fun y hy ey z=>?_).trans hc',?_⟩
    ·show (relabel scope X.env).names.lookup x=some .cell\/(relabel scope X.env).names.lookup x=some .free;unfold relabel;simp only;rw[jaU (c:=fun n k=>k == .free && X.env.scope.kind == .function && X.env.kindOf n == some .cell),hf];simp only[Option.map_some];split
     ·exact .inl rfl
     ·exact .inr rfl
    ·have:=C.cell y hy z;rw[ey,hf]at this;cases this
    ·exact hcell.keeps kp
 ·exact hcl x c e
 ·obtain⟨tn,eN,hl⟩:=C.split;show (jiS nt caps σ).length=N.length;unfold jiS;rw[eN,jqi,jqi,List.length_replicate,jqd,hl,C.clen]
end
theorem jdC {prog:Program}{w:World}{A:Around}{R:Result->Shared->Prop}{s:Shared}{elt target iter:Expr}{ifs:List Expr}{scope:Scope}{pos:Pos}{it acc:Value}{env:Env}(I:Nat->Shared->Prop)
  (turn:∀n s,I n s->wpAny (model prog w) A (pyNext it) (fun r s₁=>match r with
   |none=>R (.ok .next) s₁
   |some v=>wpAny (model prog w) A (letOwnedTupleGo target it v) (fun _ s₁'=>wpAny (model prog w) A (assign target env v) (fun _ s₂=>
     wpAny (model prog w) A (forIn ifs true fun c r=>if r=true then do let ok <-isTrue c env (eval c env);pure (ForInStep.yield ok)else pure (ForInStep.yield r)) (fun ok s₃=>
      if ok=true then wpAny (model prog w) A (eval elt env) (fun x s₄=>
       wpAny (model prog w) A (call (.builtin "list.append") [acc,x]) (fun _ s₅=>∃m,m < n/\I m s₅) (notedBy (model prog w) A env fun e s'=>R (.error e) s') s₄) (notedBy (model prog w) A env fun e s'=>R (.error e) s') s₃
      else ∃m,m < n/\I m s₃) (notedBy (model prog w) A env fun e s'=>R (.error e) s') s₂) (notedBy (model prog w) A env fun e s'=>R (.error e) s') s₁') (notedBy (model prog w) A env fun e s'=>R (.error e) s') s₁) (notedBy (model prog w) A env fun e s'=>R (.error e) s') s)
  (n:Nat) (h:I n s) :
  codeAny (model prog w) A (.compLoop (.ListComp elt [⟨target,iter,ifs,0⟩] scope pos) 0 it acc env) R s:=by
 refine codeAny_loop rfl I (fun n s hI=>?_) n h;show wpAny _ A ((compTurn (.ListComp elt [⟨target,iter,ifs,0⟩] scope pos) 0 it acc env).onRaise (fun x=>do noteFrame x env;theTreesLotGoes x)) _ _ s
 refine wpAny_noted ?_;rw[compTurn_list];refine jqs (wpAny_standAt (jqs (jqx (turn n s hI) (fun r s₁ h₁=>?_) fun _ _ h'=>h')));cases r with
 |none=>exact jqt h₁
 |some v=>
  refine jqs (jqx h₁ (fun _ s₁' h₁'=>?_) fun _ _ h'=>h');refine jqs (jqx h₁' (fun _ s₂ h₂=>jqs (jqx h₂ (fun ok s₃ h₃=>?_) fun _ _ h'=>h')) fun _ _ h'=>h');cases ok with
  |false=>exact jqt ⟨rfl,h₃⟩
  |true=>
   exact jqs (jqs (jqx h₃ (fun x s₄ h₄=>jqs (jqx h₄ (fun _ s₅ h₅=>jqt (jqt ⟨rfl,h₅⟩)) fun _ _ h'=>h')) fun _ _ h'=>h'))
theorem jiU {tgs:List Nat}{one:Bool}{x:D}{ρ ρ':Rho}(h:putT tgs one x ρ=.ok ρ'):ρ'.length=ρ.length/\∀i:Nat,i ∉ tgs->ρ'[i]?=ρ[i]?:=by
 have fold:∀(ps:List (Nat×D)) (ρ:Rho),(ps.foldl (fun r p=>r.set p.1 (.dat p.2)) ρ).length=ρ.length/\∀i:Nat,i ∉ ps.map (·.1)->(ps.foldl (fun r p=>r.set p.1 (Sl.dat p.2)) ρ)[i]?=ρ[i]?:=by
  intro ps;induction ps with
  |nil=>intro ρ;exact⟨rfl,fun _ _=>rfl⟩
  |cons p ps ih=>
   intro ρ;obtain⟨e1,e2⟩:=ih (ρ.set p.1 (.dat p.2));refine⟨by rw[List.foldl_cons,e1,jqq],fun i hi=>?_⟩
   rw[jqb,List.mem_cons,not_or]at hi;rw[List.foldl_cons,e2 i hi.2,jqm (Ne.symm hi.1)]
 unfold putT at h;split at h
 ·cases h;refine⟨jqq ..,fun i hi=>?_⟩;rw[jqm];intro z;exact hi (by simp[z])
 ·split at h
  ·cases h;rename_i hl;obtain⟨e1,e2⟩:=fold (tgs.zip _) ρ;refine⟨e1,fun i hi=>e2 i ?_⟩;rw[List.map_fst_zip (Nat.le_of_eq hl)];exact hi
  ·cases h
 ·cases h
theorem je4 {nt:Nat}{caps:List Nat}{ρ:Rho}{i:Nat}(h:i < nt):(jdB nt caps ρ)[i]?=some .no:=by
 unfold jdB;rw[jql (by simpa using h),List.getElem?_replicate,if_pos h]
theorem jdD {nt:Nat}{caps:List Nat}{ρ:Rho}{k j:Nat}(h:caps[k]?=some j):(jdB nt caps ρ)[nt + k]?=some (match ρ[j]? with | some s=>s | none=>.no):=by
 unfold jdB ja1;rw[jqh (by simp),List.length_replicate,Nat.add_sub_cancel_left,jqa,h]
 rfl
theorem jb4 {nt:Nat}{caps:List Nat}{ρ:Rho}:(jdB nt caps ρ).length=nt + caps.length:=by unfold jdB ja1;simp
theorem jg2 {nt:Nat}{caps:List Nat}{σ:L2.St}{k j:Nat}(h:caps[k]?=some j):(jiS nt caps σ)[nt + k]?=some ((σ[j]?).getD none):=by
 unfold jiS;rw[jqh (by simp),List.length_replicate,Nat.add_sub_cancel_left,jqa,h]
 rfl
theorem jaG:∀{caps:List Nat}{k:Nat}{inn ρ:Rho}{j:Nat},j ∉ caps->(jaE caps k inn ρ)[j]?=ρ[j]?
 |[],_,_,_,_,_=>rfl
 |i::r,k,inn,ρ,j,h=>by
  rw[List.mem_cons,not_or]at h;simp only[jaE];rw[jaG h.2];split
  ·rw[jqm (Ne.symm h.1)]
  ·rfl
theorem jdE:∀{caps:List Nat}{k:Nat}{inn ρ:Rho},(jaE caps k inn ρ).length=ρ.length
 |[],_,_,_=>rfl
 |i::r,k,inn,ρ=>by
  simp only[jaE];rw[jdE];split
  ·rw[jqq]
  ·rfl
theorem je5:∀{caps:List Nat}{k m:Nat}{inn ρ:Rho}{j:Nat}{s:Sl},caps.Nodup->caps[m]?=some j->j < ρ.length->inn[k + m]?=some s->(jaE caps k inn ρ)[j]?=some s
 |[],_,_,_,_,_,_,_,h,_,_=>by simp at h
 |i::r,k,0,inn,ρ,j,s,nd,h,hj,hs=>by
  have e:i=j:=by simpa using h
  subst e;simp only[jaE];rw[jaG (List.nodup_cons.mp nd).1];rw[Nat.add_zero]at hs;rw[hs];simp only;rw[List.getElem?_set_self hj]
 |i::r,k,m + 1,inn,ρ,j,s,nd,h,hj,hs=>by
  simp only[jaE];refine je5 (m:=m) (List.nodup_cons.mp nd).2 (by simpa using h) ?_ (by rw[show k + 1 + m=k + (m + 1)by omega];exact hs)
  split
  ·rw[jqq];exact hj
  ·exact hj
section
variable {X:Cx}{scope:Scope}{N cn:List Str}{nt:Nat}{caps:List Nat}{pins:List (Addr×Obj)}{Z:Kn}{σ σ':L2.St}{ρ:Rho}{B:Bs}{F:Addr->Prop}{H:Hp}{s:Shared}{fp:List Addr}
theorem CompOk.capsNd (C:CompOk X scope N cn nt caps):caps.Nodup:=by
 refine List.pairwise_iff_getElem.mpr fun i j hi hj hij z=>?_;have h1:caps[i]?=some caps[i]:=jp5 hi;have h2:caps[j]?=some caps[i]:=by rw[z];exact jp5 hj
 have li:i < cn.length:=by rw[C.clen];exact hi
 have lj:j < cn.length:=by rw[C.clen];exact hj
 have c1:cn[i]?=some cn[i]:=jp5 (by rw[C.clen];exact hi)
 have c2:cn[j]?=some cn[j]:=jp5 (by rw[C.clen];exact hj)
 have e1:=(C.at_ i _ _ c1 h1).1;have e2:=(C.at_ j _ _ c2 h2).1;rw[e1]at e2;have e3:cn[i]=cn[j]:=Option.some.inj e2;obtain⟨tn,eN,hl⟩:=C.split;have f1:N[tn.length + i]?=some cn[i]:=by rw[eN,jqh (by omega),Nat.add_sub_cancel_left];exact c1
 have f2:N[tn.length + j]?=some cn[i]:=by rw[eN,jqh (by omega),Nat.add_sub_cancel_left,e3];exact c2
 have:=jcW C.nd f1 f2;omega
noncomputable def jce (nt:Nat)(caps:List Nat)(B:Bs):Bs:=⟨B.hp,fun k=>if nt<=k then (caps[k - nt]?).bind B.lent else none⟩
theorem jbt {i:Nat}{o:O}{f k:Bool}(h:(jdB nt caps ρ)[i]?=some (.own o f k)):∃m j,i=nt + m/\caps[m]?=some j/\ρ[j]?=some (.own o f k):=by
 have hn:nt<=i:=by
  refine Nat.le_of_not_lt fun hlt=>?_;rw[je4 hlt]at h;cases h
 obtain⟨m,rfl⟩:∃m,i=nt + m:=⟨i - nt,by omega⟩
 cases e:caps[m]? with
 |none=>
  have:=(List.getElem?_eq_some_iff.mp h).1;rw[jb4]at this;have:=List.getElem?_eq_none_iff.mp e;omega
 |some j=>
  rw[jdD e]at h;refine⟨m,j,rfl,e,?_⟩;cases q:ρ[j]? with
  |none=>rw[q]at h;cases h
  |some t=>rw[q]at h;cases h;rfl
theorem jiV {i:Nat}{d:D}(h:(jdB nt caps ρ)[i]?=some (.dat d)):∃m j,i=nt + m/\caps[m]?=some j/\ρ[j]?=some (.dat d):=by
 have hn:nt<=i:=by
  refine Nat.le_of_not_lt fun hlt=>?_;rw[je4 hlt]at h;cases h
 obtain⟨m,rfl⟩:∃m,i=nt + m:=⟨i - nt,by omega⟩
 cases e:caps[m]? with
 |none=>
  have:=(List.getElem?_eq_some_iff.mp h).1;rw[jb4]at this;have:=List.getElem?_eq_none_iff.mp e;omega
 |some j=>
  rw[jdD e]at h;refine⟨m,j,rfl,e,?_⟩;cases q:ρ[j]? with
  |none=>rw[q]at h;cases h
  |some t=>rw[q]at h;cases h;rfl
noncomputable def Agr (nt:Nat)(caps:List Nat)(σ σ':L2.St):Prop:=σ'.length=nt + caps.length/\∀m j,caps[m]?=some j->σ'[nt + m]?=some ((σ[j]?).getD none)
theorem Agr.at (a:Agr nt caps σ σ'){m j:Nat}{v:V}(h:caps[m]?=some j):σ'[nt + m]?=some (some v)↔σ[j]?=some (some v):=by
 rw[a.2 m j h];constructor
 ·intro z;cases q:σ[j]? with
  |none=>rw[q]at z;cases z
  |some o=>rw[q]at z;simp at z;rw[z]
 ·intro z;rw[z];rfl
theorem jg3 (nd:caps.Nodup)(a:Agr nt caps σ σ')(r:SR Z B F H σ ρ):SR Z (jce nt caps B) F H σ' (jdB nt caps ρ):=by
 refine⟨r.dom,by rw[jb4,a.1],fun i d h=>?_,fun i o f k h=>?_,fun i j o o' f k f' k' l hij h1 h2 q1 q2=>?_,r.base⟩
 ·obtain⟨m,j,rfl,hc,e⟩:=jiV h;obtain⟨v,e1,e2⟩:=r.dat j d e;exact⟨v,(a.at hc).mpr e1,e2⟩
 ·obtain⟨m,j,rfl,hc,e⟩:=jbt h;obtain⟨l,e1,e2,e3,e4,e5⟩:=r.own j o f k e;refine⟨l,(a.at hc).mpr e1,e2,e3,fun z=>?_,e5⟩;simp only[jce,if_pos (Nat.le_add_right nt m),Nat.add_sub_cancel_left,hc,Option.bind_some];exact e4 z
 ·obtain⟨m1,j1,rfl,c1,e1⟩:=jbt h1;obtain⟨m2,j2,rfl,c2,e2⟩:=jbt h2;refine r.one j1 j2 o o' f k f' k' l (fun z=>hij ?_) e1 e2 ((a.at c1).mp q1) ((a.at c2).mp q2);subst z;have h1:=(List.getElem?_eq_some_iff.mp c1).1;have:=(List.getElem?_inj h1 nd).mp (c1.trans c2.symm);omega
theorem jg4 (a:Agr nt caps σ σ'){b:Addr}(h:Mb σ' (jdB nt caps ρ) b):Mb σ ρ b:=by
 obtain⟨i,o,f,h1,h2⟩:=h;obtain⟨m,j,rfl,hc,e⟩:=jbt h1;exact⟨j,o,f,e,(a.at hc).mp h2⟩
theorem jg5 (nd:caps.Nodup){σ4:L2.St}{inn:Rho}{F4:Addr->Prop}{H4:Hp}(a:Agr nt caps σ σ')(a4:Agr nt caps σ σ4)(r:SR Z B F H σ ρ)(hc:∀j∈caps,j < ρ.length)
  (r4:SR Z (jce nt caps B) F4 H4 σ4 inn) (g:Go σ' (jdB nt caps ρ) F H σ4 inn F4 H4):SR Z B F4 H4 σ (jaE caps nt inn ρ)/\Go σ ρ F H σ (jaE caps nt inn ρ) F4 H4:=by
 have r0:=jg3 nd a r;have kp:=g.keep r0;have hlen:inn.length=nt + caps.length:=by rw[r4.len,a4.1]
 have inB:∀{m j:Nat},caps[m]?=some j->∃s,inn[nt + m]?=some s/\(jaE caps nt inn ρ)[j]?=some s:=fun {m j} h=>by
  have hm:=(List.getElem?_eq_some_iff.mp h).1;have e:inn[nt + m]?=some inn[nt + m]:=jp5 (by omega)
  exact⟨_,e,je5 nd h (hc j (jqg h)) e⟩
 have side:∀{j:Nat}{o:O}{f k:Bool}{l:Addr},j ∉ caps->ρ[j]?=some (.own o f k)->σ[j]?=some (some (.ref l))->¬Ow σ' (jdB nt caps ρ) l:=fun {j o f k l} hj h1 h2 z=>by
  obtain⟨i,o',f',k',q1,q2⟩:=z;obtain⟨m,j',rfl,hc',e⟩:=jbt q1;refine r.one j j' _ _ _ _ _ _ l (fun z=>hj (by rw[z];exact jqg hc')) h1 e h2 ((a.at hc').mp q2)
 have ow:∀(j:Nat) (o:O) (f k:Bool) (b:Addr),(jaE caps nt inn ρ)[j]?=some (.own o f k)->σ[j]?=some (some (.ref b))->(∃o0 k0,ρ[j]?=some (.own o0 f k0)/\σ[j]?=some (some (.ref b))/\(k0=true->k=true))\/H b=none:=fun j o f k b h1 h2=>by
  by_cases hj:j∈caps
  ·obtain⟨m,hm⟩:=List.mem_iff_getElem?.mp hj;obtain⟨sl,e1,e2⟩:=inB hm;rw[h1]at e2;cases e2;rcases g.ow _ o f k b e1 ((a4.at hm).mpr h2)with ⟨o0,k0,q1,q2,q3⟩ | z
   ·obtain⟨m',j',e,hc',q⟩:=jbt q1;have:m'=m:=by omega
    subst this;rw[hm]at hc';cases hc';exact .inl ⟨o0,k0,q,h2,q3⟩
   ·exact .inr z
  ·rw[jaG hj]at h1;exact Go.self h1 h2
 refine⟨⟨r4.dom,by rw[jdE];exact r.len,fun j d h=>?_,fun j o f k h=>?_,fun i j o o' f k f' k' l hij h1 h2 q1 q2=>?_,r4.base⟩,⟨fun b o h n=>g.stay b o h fun m=>n (jg4 a m),g.sub,fun b h=>(g.new b h).imp id fun z=>z.imp id (jg4 a),ow,g.there⟩⟩
 ·by_cases hj:j∈caps
  ·obtain⟨m,hm⟩:=List.mem_iff_getElem?.mp hj;obtain⟨sl,e1,e2⟩:=inB hm;rw[h]at e2;cases e2;obtain⟨v,q1,q2⟩:=r4.dat _ d e1;exact⟨v,(a4.at hm).mp q1,q2⟩
  ·rw[jaG hj]at h;obtain⟨v,q1,q2⟩:=r.dat j d h;exact⟨v,q1,q2.mono kp⟩
 ·by_cases hj:j∈caps
  ·obtain⟨m,hm⟩:=List.mem_iff_getElem?.mp hj;obtain⟨sl,e1,e2⟩:=inB hm;rw[h]at e2;cases e2;obtain⟨l,q1,q2,q3,q4,q5⟩:=r4.own _ o f k e1;refine⟨l,(a4.at hm).mp q1,q2,q3,fun z=>?_,q5⟩;have:=q4 z;simpa only[jce,if_pos (Nat.le_add_right nt m),Nat.add_sub_cancel_left,hm,Option.bind_some] using this
  ·rw[jaG hj]at h;obtain⟨l,q1,q2,q3,q4⟩:=r.own j o f k h;obtain⟨u,hu⟩:=q3.some;obtain⟨s1,s2,s3⟩:=g.side hu q2 (side hj h q1);exact⟨l,q1,s2,q3.mono kp (s1.trans hu.symm),q4⟩
 ·by_cases hi:i∈caps
  ·obtain⟨m,hm⟩:=List.mem_iff_getElem?.mp hi;obtain⟨sl,e1,e2⟩:=inB hm;rw[h1]at e2;cases e2;by_cases hj:j∈caps
   ·obtain⟨m',hm'⟩:=List.mem_iff_getElem?.mp hj;obtain⟨sl',e1',e2'⟩:=inB hm';rw[h2]at e2';cases e2';refine r4.one (nt + m) (nt + m') _ _ _ _ _ _ l (fun z=>hij ?_) e1 e1' ((a4.at hm).mpr q1) ((a4.at hm').mpr q2);have:m=m':=by omega
    subst this;rw[hm]at hm';cases hm';rfl
   ·rw[jaG hj]at h2;rcases ow i o f k l (by rw[<-h1]) q1 with ⟨o0,k0,z1,z2,_⟩ | z
    ·exact r.one i j _ _ _ _ _ _ l hij z1 h2 z2 q2
    ·obtain⟨l',w1,_,w3,_⟩:=r.own j _ _ _ h2;rw[q2]at w1;cases w1;obtain⟨u,hu⟩:=w3.some;rw[hu]at z;cases z
  ·rw[jaG hi]at h1;by_cases hj:j∈caps
   ·rcases ow j o' f' k' l h2 q2 with ⟨o0,k0,z1,z2,_⟩ | z
    ·exact r.one i j _ _ _ _ _ _ l hij h1 z1 q1 z2
    ·obtain⟨l',w1,_,w3,_⟩:=r.own i _ _ _ h1;rw[q1]at w1;cases w1;obtain⟨u,hu⟩:=w3.some;rw[hu]at z;cases z
   ·rw[jaG hj]at h2;exact r.one i j _ _ _ _ _ _ l hij h1 h2 q1 q2
theorem jg6 (C:CompOk X scope N cn nt caps)(I:Inv X pins σ H s)(fo:∀b∈fp,FpOk X pins H b)(ft:∀b∈fp,b < s.heap.objs.size){pins':List (Addr×Obj)}{H':Hp}(hp:∀b∈fp,∀p∈pins',p.1≠b)(hn:∀b∈fp,H' b=none) :
  ∀b∈fp,FpOk (cxComp X N scope s H fp) pins' H' b:=fun b hb=>by
 have ok:=jg1 C I fo ft;exact⟨hn b hb,(fun e=>(ok.exf b hb).1 e),fun z=>ok.exfs b hb z,.inl hb,fun x c h=>(ok.exf b hb).2 x c h,fun p h=>hp b hb p (by simpa[cxComp] using h)⟩
end
end DJ
namespace DJ
open PySem PySem.Spec PyProof.Rows L2
noncomputable def jcf (tgs:List Nat)(one:Bool)(nt:Nat)(caps:List Nat)(fc:Option (Rho->R (Bool×Rho)))(fe:Rho->R (Vl×Rho))(x:D)(r:Rho):R (Option D×Rho):=
 (putT tgs one x (jdB nt caps r)).bind fun r'=>match fc with
  |none=>(fe r').bind fun p=>(toD p.1 p.2).bind fun q=>.ok (some q.1,jaE caps nt q.2 r)
  |some g=>(g r').bind fun b=>if b.1 then (fe b.2).bind fun p=>(toD p.1 p.2).bind fun q=>.ok (some q.1,jaE caps nt q.2 r)else .ok (none,jaE caps nt b.2 r)
section
variable {X:Cx}{scope:Scope}{N cn:List Str}{nt:Nat}{caps:List Nat}{pins:List (Addr×Obj)}{Z:Kn}{σ:L2.St}{ρ:Rho}{B:Bs}{F:Addr->Prop}{H:Hp}{s:Shared}{fp:List Addr}
inductive CompI (X:Cx) (N:List Str) (scope:Scope) (fp:List Addr) (nt:Nat) (caps:List Nat) (σ:L2.St) (Z:Kn) (B:Bs) (ρ:Rho) (F:Addr->Prop) (H:Hp) (ls:List Addr) (tn:Nat->Heap->Prop) (f:D->Rho->R (Option D×Rho)) (xs ys:List D) (ρE:Rho) (s3:Shared) (H3:Hp) (l:Addr) (k:Nat) (s':Shared):Prop
 |mk (i:Nat) (σ':L2.St) (F':Addr->Prop) (H':Hp) (ρ1:Rho) (yi zi:List D) (vs:List V):k=xs.length + 1 - i->i<=xs.length->Inv (cxComp X N scope s3 H3 fp) [] σ' H' s'->Agr nt caps σ σ'->SR Z B F' H' σ ρ1 ->
    Go σ ρ F H σ ρ1 F' H'->GK F H ls F' H'->tn i s'.heap->(∀b∈fp,H' b=none)->ys=yi++zi->compGo f (xs.drop i) ρ1=.ok (zi,ρE)->¬F' l->¬Ow σ ρ1 l->H' l=some (.lst vs)->Reps Z F' H' yi vs->yi.length<=i->CompI X N scope fp nt caps σ Z B ρ F H ls tn f xs ys ρE s3 H3 l k s'
theorem je6 {elt tg iter:Expr}{ks:List Expr}{pos:Pos}{tgs:List Nat}{one:Bool}{fc:Option (Rho->R (Bool×Rho))}{fe:Rho->R (Vl×Rho)}{xs ys:List D}{ρE:Rho}{ls:List Addr}{it:Addr}{tn:Nat->Heap->Prop}{RR:Value->Addr->Result->Shared->Prop}
  (hZ:X.K=Z.K) (hc:X.calm=true) (C:CompOk X scope N cn nt caps) (I:Inv X pins σ H s) (r:SR Z B F H σ ρ) (W:Wk X.prog X.w Z tg F H ls xs fp it tn) (hls:∀l∈ls,¬Mb σ ρ l) (st0:tn 0 s.heap) (fo:∀b∈fp,FpOk X pins H b)
  (hT:∀s' H',TgOk (cxComp X N scope s' H' fp) tg tgs one) (hlow:∀i∈tgs,i < nt) (hcap:∀j∈caps,j < ρ.length)
  (hE:∀s' H' B',PE (cxComp X N scope s' H' fp) elt (tE Z (cxComp X N scope s' H' fp) B' fe))
  (hK:(ks=[]/\fc=none)\/∃k g,ks=[k]/\fc=some g/\∀s' H' B',PT (cxComp X N scope s' H' fp) k (tT Z (cxComp X N scope s' H' fp) B' g))
  (hY:compGo (jcf tgs one nt caps fc fe) xs ρ=.ok (ys,ρE))
  (hRR:∀(s3:Shared) (l:Addr) (σ':L2.St) (F':Addr->Prop) (H':Hp) (s':Shared) (vs:List V),H l=none->Inv X pins σ (upd H l (.lst [])) s3->Inv (cxComp X N scope s3 (upd H l (.lst [])) fp) [] σ' H' s'->Go σ ρ F H σ ρE F' H'->SR Z B F' H' σ ρE->¬F' l->¬Ow σ ρE l->H' l=some (.lst vs)->Reps Z F' H' ys vs ->
   RR (.ref l) s3.heap.objs.size (.ok .next) s') {E:Value->Shared->Prop} :
  wpAny (model X.prog X.w) X.A (newList []) (fun acc s₃=>wpAny (model X.prog X.w) X.A (newFunctionEnv scope X.env.globals (jfG X.env scope.names []) [] X.env.qual none .none (some X.env)) (fun cenv s₄=>
   codeAny (model X.prog X.w) X.A (.compStart (.ListComp elt [⟨tg,iter,ks,0⟩] scope pos) 0 (.ref it) acc { cenv with scope:=relabel scope X.env }) (RR acc cenv.locals) s₄) E s₃) E s:=by
 have nd:=C.capsNd;refine jqv ?_;have ft:∀b∈fp,b < s.heap.objs.size:=fun b hb=>by
  obtain⟨o,e,_⟩:=W.obj _ _ st0 b hb;exact jqz e
 have hl:H s.heap.objs.size=none:=I.hok.fresh (jqD _);have I3:Inv X pins σ (upd H s.heap.objs.size (.lst [])) { s with heap:=s.heap.push { cls:=.type "list",dict:=none,data:=.seq ([]:List Value).toArray } }:=
  I.laid (t':=s.toks) (fun b u e=>jqy _ e) (jqD _) ⟨Nat.zero_le _,[],0,.nil,jqA _ rfl⟩
 have ex3:Ext F H F (upd H s.heap.objs.size (.lst [])):=Ext.newO r.dom hl;have r3:SR Z B F (upd H s.heap.objs.size (.lst [])) σ ρ:=r.ext ex3;have fo3:∀b∈fp,FpOk X pins (upd H s.heap.objs.size (.lst [])) b:=fun b hb=>⟨by rw[jac (jqF (ft b hb))];exact(fo b hb).1,(fo b hb).2⟩
 have st3:tn 0 (s.heap.push { cls:=.type "list",dict:=none,data:=.seq ([]:List Value).toArray }):=W.keep _ _ _ st0 fun b hb o e=>jqy _ e;have nFl:¬F s.heap.objs.size:=fun z=>by
  obtain⟨o,e⟩:=r.dom _ z;rw[hl]at e;cases e
 have nOl:¬Ow σ ρ s.heap.objs.size:=fun z=>by
  obtain⟨o,e⟩:=r.there z;rw[hl]at e;cases e
 have ft3:∀b∈fp,b < (s.heap.push { cls:=.type "list",dict:=none,data:=.seq ([]:List Value).toArray }).objs.size:=fun b hb=>by
  rw[Heap.size_push];exact Nat.lt_succ_of_lt (ft b hb)
 revert I3 r3 ex3 fo3 st3 ft3
 generalize hs3:({ s with heap:=s.heap.push { cls:=.type "list",dict:=none,data:=.seq ([]:List Value).toArray } }:Shared)=s3
 have e3:s3.heap=s.heap.push { cls:=.type "list",dict:=none,data:=.seq ([]:List Value).toArray }:=by rw[<-hs3]
 rw[<-e3];generalize hl0:s.heap.objs.size=l at hl nFl nOl;generalize hH3:upd H l (.lst [])=H3;intro I3 ex3 r3 fo3 st3 ft3;have hl3:H3 l=some (.lst []):=by rw[<-hH3];exact jam
 refine jfH ?_;have hsb₁:∀b o,(s3.heap.push { cls:=.type "dict",data:=.dict #[] }).get? b=some o->(pushCells (s3.heap.push { cls:=.type "dict",data:=.dict #[] }) scope.names).get? b=some o:=pushCells_keeps _ _;have hcl:∀x c,(cellsFrom (s3.heap.objs.size + 1) scope.names (jfG X.env scope.names [])).lookup x=some c->∃v,(pushCells (s3.heap.push { cls:=.type "dict",data:=.dict #[] }) scope.names).IsCell c v:=by
  have:=jel scope.names (s3.heap.push { cls:=.type "dict",data:=.dict #[] }) (jfG X.env scope.names []) fun x c e=>by
   obtain⟨v,z⟩:=I3.cell x c (jbd _ _ (C.cells I3) (fun _ _ z=>by simp at z) _ _ e)
   exact⟨v,z.keeps fun b o e=>jqy _ e⟩
  rwa [Heap.size_push]at this
 have hns₁:(pushCells (s3.heap.push { cls:=.type "dict",data:=.dict #[] }) scope.names).Ns s3.heap.objs.size fun _=>none:=Heap.Ns.keeps ⟨_,_,_,jqA _ rfl,rfl,(fun e he=>by simp at he),fun _=>rfl⟩ hsb₁
 revert hsb₁ hcl hns₁
 generalize hh1:pushCells (s3.heap.push { cls:=.type "dict",data:=.dict #[] }) scope.names=h₁;intro hsb₁ hcl hns₁;have kp:∀b o,s3.heap.get? b=some o->h₁.get? b=some o:=fun b o e=>hsb₁ b o (jqy _ e);have IY:=jiT (fp:=fp) C I3 fo3 ft3 (tk:=s3.toks) hns₁ kp hcl;have aY:Agr nt caps σ (jiS nt caps σ):=⟨by unfold jiS;simp,fun m j h=>jg2 h⟩
 have hrl:ρ.length=σ.length:=r.len;have loop:∀s₄:Shared,s₄={ s3 with heap:=h₁,toks:=s3.toks } ->
   codeAny (model X.prog X.w) X.A (.compLoop (.ListComp elt [⟨tg,iter,ks,0⟩] scope pos) 0 (.ref it) (.ref l) (cxComp X N scope s3 H3 fp).env) (RR (.ref l) s3.heap.objs.size) s₄:=by
  rintro s₄ rfl;let P:=CompI X N scope fp nt caps σ Z B ρ F H ls tn (jcf tgs one nt caps fc fe) xs ys ρE s3 H3 l;refine jdC P ?_ (xs.length + 1)
   ⟨0,_,F,H3,ρ,[],ys,[],rfl,Nat.zero_le _,IY,aY,r3,ex3.go,GK.refl.ext r.dom W.lst ex3,W.keep _ _ _ st3 (fun b _ o e=>kp b o e),fun b hb=>(fo3 b hb).1,rfl,hY,nFl,nOl,hl3,.nil,jqD _⟩
  rintro k s' ⟨i,σ',F',H',ρ1,yi,zi,vs,rfl,hi,I',a',r',g',gk',st',fr',eY,hZ',nF',nO',hl',rep',hyi⟩;have fo':=jg6 C I3 fo3 ft3 (pins':=[]) (H':=H') (fun b _ p h=>by simp at h) fr'
  by_cases hlt:i < xs.length
  ·have hx:xs[i]?=some xs[i]:=jp5 hlt;rw[List.drop_eq_getElem_cons hlt]at hZ';simp only[compGo]at hZ';obtain⟨o,ho,hZ'⟩:=R.bind_ok hZ';obtain⟨zr,hr,hZ'⟩:=R.bind_ok hZ';unfold jcf at ho;obtain⟨ρ2,hp,ho⟩:=R.bind_ok ho;have r0:=jg3 nd a' r';refine jqx (W.take (cxComp X N scope s3 H3 fp) rfl rfl hZ hc C.nd tgs one (hT s3 H3) i [] s' σ' _ ρ2 _ F' H' _ I' r0 gk' fo' st' hx hp) (fun q s1 hzz=>?_) fun _ _ z=>False.elim z;obtain⟨u,hq,h1⟩:=hzz;subst hq;refine jqx h1 (fun _ s2 h2=>jqx h2 (fun _ s4 hzz=>?_) fun _ _ z=>False.elim z) fun _ _ z=>False.elim z;obtain⟨σ4,F4,H4,I4,r4,g4,gk4,st4,fr4,ag4⟩:=hzz;have foY:∀b∈fp,FpOk (cxComp X N scope s3 H3 fp) [] H4 b:=jg6 C I3 fo3 ft3 (pins':=[]) (H':=H4) (fun b _ p h=>by simp at h) fr4
   have I4p:=I4.pinned foY (W.obj _ _ st4);obtain⟨pl,pg⟩:=jiU hp;have a4:Agr nt caps σ σ4:=by
    refine⟨?_,fun m j h=>?_⟩
    ·rw[<-r4.len,pl,jb4]
    ·rw[ag4 (nt + m) fun z=>absurd (hlow _ z) (by omega)];exact a'.2 m j h
   have hc1:∀j∈caps,j < ρ1.length:=fun j hj=>by rw[r'.len,<-hrl];exact hcap j hj
   have hls1:∀l∈ls,¬Mb σ ρ1 l:=fun l hl z=>by
    rcases g'.mb z with z | z
    ·exact hls l hl z
    ·obtain⟨o,e⟩:=W.lst l hl;rw[e]at z;cases z
   have back:∀{inn:Rho}{F5:Addr->Prop}{H5:Hp},SR Z (jce nt caps B) F5 H5 σ4 inn->Go σ4 ρ2 F4 H4 σ4 inn F5 H5->SR Z B F5 H5 σ (jaE caps nt inn ρ1)/\Go σ ρ1 F' H' σ (jaE caps nt inn ρ1) F5 H5:=fun {inn F5 H5} r5 g5=>jg5 nd a' a4 r' hc1 r5 (g4.trans g5);have pinK:∀{s5:Shared}{H5:Hp},Inv (cxComp X N scope s3 H3 fp) ([]++jbx fp s4.heap) σ4 H5 s5->tn (i + 1) s5.heap/\∀b∈fp,H5 b=none:=fun {s5 H5} I5=>by
    refine⟨W.keep _ _ _ st4 fun b hb o e=>(I5.pin (b,o) (jqf _ (jqf _ (ja8 hb e)))).1,fun b hb=>?_⟩;obtain⟨ob,e,_⟩:=W.obj _ _ st4 b hb;exact(I5.pin (b,ob) (jqf _ (jqf _ (ja8 hb e)))).2.1
   have skip:∀(s5:Shared) (inn:Rho) (F5:Addr->Prop) (H5:Hp),Inv (cxComp X N scope s3 H3 fp) ([]++jbx fp s4.heap) σ4 H5 s5->SR Z (jce nt caps B) F5 H5 σ4 inn->Go σ4 ρ2 F4 H4 σ4 inn F5 H5->o=(none,jaE caps nt inn ρ1)->∃m,m < xs.length + 1 - i/\P m s5:=by
    intro s5 inn F5 H5 I5 r5 g5 eo;subst eo;cases hZ';obtain⟨rB,gB⟩:=back r5 g5;obtain⟨st5,fr5⟩:=pinK I5;obtain⟨l1,l2,l3⟩:=gB.side hl' nF' nO';exact⟨xs.length + 1 - (i + 1),Nat.sub_lt_sub_left (Nat.lt_succ_of_lt hlt) (Nat.lt_succ_self i),i + 1,σ4,F5,H5,_,yi,zr.1,vs,rfl,hlt,I5.unpinned,a4,rB,g'.trans gB,gk'.go W.lst r' gB hls1,st5,fr5,eY,hr,l2,l3,l1,rep'.mono (gB.keep r'),by omega⟩
   have elt_:∀(s5:Shared) (ρ5:Rho) (F5:Addr->Prop) (H5:Hp) (E':Value->Shared->Prop),Inv (cxComp X N scope s3 H3 fp) ([]++jbx fp s4.heap) σ4 H5 s5->SR Z (jce nt caps B) F5 H5 σ4 ρ5->Go σ4 ρ2 F4 H4 σ4 ρ5 F5 H5 ->
     ((fe ρ5).bind fun p=>(toD p.1 p.2).bind fun q=>(.ok (some q.1,jaE caps nt q.2 ρ1):R (Option D×Rho)))=.ok o ->
     wpAny (model X.prog X.w) X.A (eval elt (cxComp X N scope s3 H3 fp).env) (fun x s₄=>wpAny (model X.prog X.w) X.A (call (.builtin "list.append") [.ref l,x]) (fun _ s₅=>∃m,m < xs.length + 1 - i/\P m s₅) E' s₄) E' s5:=by
    intro s5 ρ5 F5 H5 E' I5 r5 g5 ho;obtain⟨p,hd,ho⟩:=R.bind_ok ho;obtain⟨q,hq,ho⟩:=R.bind_ok ho;cases ho;cases hZ';refine jqx (hE s3 H3 (jce nt caps B) ([]++jbx fp s4.heap) s5 σ4 H5 (fun v H6=>∃F6,Go σ4 ρ2 F4 H4 σ4 q.2 F6 H6/\SR Z (jce nt caps B) F6 H6 σ4 q.2/\Rep Z F6 H6 q.1 v) I5 ⟨F5,ρ5,r5,?_⟩) (fun u s6 hzz=>?_) fun _ _ z=>False.elim z
    ·rw[hd];intro v F6 H6 g6 r6 rv6;obtain⟨F7,g7,r7,rp,_⟩:=je3 (rv6.base fun l z=>g5.free z) r6 (g5.trans g6) hq;exact⟨F7,g7,r7,rp⟩
    ·obtain⟨v,H6,I6,rv,F6,g6,r6,rp6⟩:=hzz;obtain⟨rB,gB⟩:=back r6 g6;obtain⟨l1,l2,l3⟩:=gB.side hl' nF' nO';have hvl:vs.length < sizeLine:=by
      have:=rep'.length;have:=W.len;omega
     refine jqx (jdu (X:=cxComp X N scope s3 H3 fp) ([]++jbx fp s4.heap) s6 σ4 H6 (.ref l) [v] (.ref l) [u] (fun _ H7=>H7=upd H6 l (.lst (vs++[v]))) I6 rfl (.cons rv .nil) ⟨l,vs,v,rfl,rfl,l1,hvl,rfl⟩) (fun _ s7 hzz=>?_) fun _ _ z=>False.elim z;obtain⟨_,H7,I7,_,e7⟩:=hzz;subst e7;obtain⟨kp7,r7⟩:=rB.oth (u:=.lst (vs++[v])) l2 l3;obtain⟨st7,fr7⟩:=pinK I7;have gA:Go σ ρ F H σ (jaE caps nt q.2 ρ1) F6 (upd H6 l (.lst (vs++[v]))):=by
      have g0:=g'.trans gB;refine⟨fun b ob e n=>?_,g0.sub,g0.new,g0.ow,fun b ob e=>?_⟩
      ·rw[jac (jab e hl)];exact g0.stay b ob e n
      ·rw[jac (jab e hl)];exact g0.there b ob e
     have gkA:GK F H ls F6 (upd H6 l (.lst (vs++[v]))):=by
      have gk0:=gk'.go W.lst r' gB hls1;refine⟨gk0.keep.trans kp7,fun b hb=>?_⟩;obtain⟨ob,e⟩:=W.lst b hb;rw[jac (jab e hl)];exact gk0.ls b hb
     refine⟨xs.length + 1 - (i + 1),Nat.sub_lt_sub_left (Nat.lt_succ_of_lt hlt) (Nat.lt_succ_self i),i + 1,σ4,F6,_,_,yi++[q.1],zr.1,vs++[v],rfl,hlt,I7.unpinned,a4,r7,gA,gkA,st7,fr7,by rw[eY,List.append_assoc];rfl,hr,l2,l3,jam,((rep'.mono (gB.keep r')).mono kp7).append (.one (rp6.mono kp7)),by rw[jqi,List.length_singleton];omega⟩
   rcases hK with ⟨rfl,rfl⟩ | ⟨k,g,rfl,rfl,hk⟩
   ·refine wpAny_tests_nil ?_;rw[if_pos rfl];exact elt_ s4 ρ2 F4 H4 _ I4p r4 Go.refl ho
   ·refine wpAny_tests_one ?_;obtain⟨b,hb,ho⟩:=R.bind_ok ho;refine jqx (hk s3 H3 (jce nt caps B) ([]++jbx fp s4.heap) s4 σ4 H4 (fun b' H5=>b'=b.1/\∃F5,Go σ4 ρ2 F4 H4 σ4 b.2 F5 H5/\SR Z (jce nt caps B) F5 H5 σ4 b.2) I4p ⟨F4,ρ2,r4,?_⟩) (fun b' s5 hzz=>?_) fun _ _ z=>False.elim z
    ·rw[hb];exact fun F5 H5 g5 r5=>⟨rfl,F5,g5,r5⟩
    ·obtain⟨H5,I5,eb,F5,g5,r5⟩:=hzz;subst eb;cases hb1:b.1 with
     |true=>
      rw[if_pos rfl];rw[hb1,if_pos rfl]at ho;exact elt_ s5 b.2 F5 H5 _ I5 r5 g5 ho
     |false=>
      rw[if_neg (by decide)]
      rw[hb1,if_neg (by decide)]at ho
      refine skip s5 b.2 F5 H5 I5 r5 g5 ?_;cases ho;rfl
  ·have hie:i=xs.length:=by omega
   subst hie;rw[List.drop_eq_nil_of_le (jqD _)]at hZ';cases hZ';rw[jqr]at eY;subst eY;refine jqx (W.done (cxComp X N scope s3 H3 fp) rfl rfl hZ hc [] s' σ' F' H' I' r'.dom gk' fo' st') (fun q s1 hzz=>?_) fun _ _ z=>False.elim z;obtain⟨hq,I1⟩:=hzz;subst hq;subst hH3;exact hRR s3 l σ' F' H' s1 vs hl I3 I1 g' r' nF' nO' hl' rep'
 exact codeAny_compStart_list (loop _ rfl) (W.self _ 0 _ _ _ (W.keep _ _ _ st3 fun b _ o e=>kp b o e) (loop _ rfl))
end
end DJ
namespace DJ
open PySem PySem.Spec PyProof.Rows L2
theorem jaA {n:Nat}(h:fits n=true):n<=sizeLine:=by
 unfold fits at h;rw[sizeLine_eq];simpa using h
noncomputable def Op.py:Op->Operator
 |.add=>.Add | .sub=>.Sub | .mul=>.Mult | .fdiv=>.FloorDiv | .mod=>.Mod | .pow=>.Pow
noncomputable def jmh:R Vl->Prop
 |.ok (.slot _)=>False
 |.err _=>False
 |_=>True
theorem jb5 {c:Prop}[Decidable c]{r:R Vl}(h:jmh r):jmh (if c then r else .stk):=by
 split
 ·exact h
 ·trivial
theorem jiW {a b:Int}{o:Op}:jmh (opZ a b o):=by
 cases o <;> first | trivial | exact jb5 trivial
theorem jc8 {v:R Vl}{o:Op}(h:jmh v):jmh (opC v o):=by
 cases o <;> first | exact h | trivial
theorem je7 {o:Op}{x y:D}:jmh (opD o x y):=by
 cases x with
 |int a=>cases y with
  |int b=>exact jiW
  |_=>trivial
 |tup a=>cases y with
  |tup b=>exact jc8 (jb5 trivial)
  |_=>trivial
 |lst a=>cases y with
  |lst b=>exact jc8 (jb5 trivial)
  |_=>trivial
 |str a=>cases y with
  |str b=>exact jc8 (jb5 trivial)
  |_=>trivial
 |_=>trivial
theorem jkW {o:Op}{x y:D}{c:Nat}:opD o x y≠.err c:=fun h=>by
 have:=je7 (o:=o) (x:=x) (y:=y);rw[h]at this;exact this
theorem jiX {o:Op}{x y:D}{i:Nat}:opD o x y≠.ok (.slot i):=fun h=>by
 have:=je7 (o:=o) (x:=x) (y:=y);rw[h]at this;exact this
theorem jcg {w:Vl}{p:Prop}(h:(.stk:R Vl)=.ok w):p:=nomatch h
theorem jbp {c:Prop}[Decidable c]{v w:Vl}(h:(if c then .ok v else .stk:R Vl)=.ok w):c/\v=w:=by
 split at h
 ·cases h;exact⟨‹_›,rfl⟩
 ·exact jcg h
theorem jg7 {v:R Vl}{w:Vl}{o:Op}(h:opC v o=.ok w):o=.add/\v=.ok w:=by
 cases o with
 |add=>exact⟨rfl,h⟩
 |_=>exact jcg h
section
variable {Z:Kn}{X:Cx}
noncomputable def joz (i j:Int):Prop:=0 < j/\j < 2 ^ 64
theorem jiY:OpR X (binaryOp .FloorDiv) (rI joz fun i j=>.int (i / j)):=opI fun i j _ _ _ _ _ hc q=>by
 have h1:(0:Int) < j:=hc.1;have h2:j < 2 ^ 64:=hc.2;refine floordiv_int (by omega) (by rw[Int.fdiv_eq_ediv_of_nonneg i (by omega)];exact q) (.inl (PyProof.noPylong_of_log2 ?_))
 have h3:j.natAbs < 2 ^ 64:=by omega
 have h4:j.natAbs.log2 < 64:=(Nat.log2_lt (by omega)).mpr h3
 omega
theorem joA (hZ:X.K=Z.K)(o:Op):OpR X (binaryOp o.py) (rD2 Z (opD o)):=by
 intro pins s σ H x y v u Q I rx ry h;obtain⟨F,dx,dy,w,dm,bx,by_,hw,h⟩:=h;have sqT:∀{a:Addr}{vs:List V},FT Z.K F H a vs->SqT X.K H a vs:=fun q=>by rw[hZ];exact q.sq
 cases dx with
 |int i=>
  cases dy with
  |int j=>
   cases bx.int;cases by_.int;cases o with
   |add=>cases hw;exact jmI pins s σ H _ _ v u Q I rx ry ⟨_,_,rfl,rfl,h.int dm⟩
   |sub=>cases hw;exact jmJ pins s σ H _ _ v u Q I rx ry ⟨_,_,rfl,rfl,h.int dm⟩
   |mul=>obtain⟨hf,rfl⟩:=jbp hw;exact jmK pins s σ H _ _ v u Q I rx ry ⟨_,_,rfl,rfl,hf,h.int dm⟩
   |fdiv=>obtain⟨hf,rfl⟩:=jbp hw;exact jiY pins s σ H _ _ v u Q I rx ry ⟨_,_,rfl,rfl,hf,h.int dm⟩
   |mod=>obtain⟨hf,rfl⟩:=jbp hw;exact jmL pins s σ H _ _ v u Q I rx ry ⟨_,_,rfl,rfl,hf,h.int dm⟩
   |pow=>obtain⟨hf,rfl⟩:=jbp hw;exact jmM pins s σ H _ _ v u Q I rx ry ⟨_,_,rfl,rfl,hf,h.int dm⟩
  |_=>exact jcg hw
 |tup as=>
  cases dy with
  |tup bs=>
   obtain⟨rfl,hw⟩:=jg7 hw;obtain⟨hf,rfl⟩:=jbp hw;obtain⟨a,vs,rfl,ft,ra⟩:=bx.tup;obtain⟨b,us,rfl,fu,rb⟩:=by_.tup;have hl:vs.length + us.length<=sizeLine:=by rw[<-ra.length,<-rb.length];exact jaA hf
   by_cases hv:vs=[]
   ·subst hv;have ea:as=[]:=List.eq_nil_of_length_eq_zero (by rw[ra.length];rfl)
    subst ea;exact jiF pins s σ H _ _ v u Q I rx ry ⟨a,b,us,rfl,rfl,sqT ft,sqT fu,h.tupOld dm fu rb⟩
   ·refine jkz pins s σ H _ _ v u Q I rx ry ⟨a,b,vs,us,rfl,rfl,sqT ft,sqT fu,hv,hl,fun e=>?_,fun _=>h.tup dm (ra.append rb)⟩;subst e;have eb:bs=[]:=List.eq_nil_of_length_eq_zero (by rw[rb.length];rfl)
    subst eb;rw[jqr]at h;exact h.tupOld dm ft ra
  |_=>exact jcg hw
 |lst as=>
  cases dy with
  |lst bs=>
   obtain⟨rfl,hw⟩:=jg7 hw;obtain⟨hf,rfl⟩:=jbp hw;obtain⟨a,vs,rfl,ft,ra⟩:=bx.lst;obtain⟨b,us,rfl,fu,rb⟩:=by_.lst;have hl:vs.length + us.length<=sizeLine:=by rw[<-ra.length,<-rb.length];exact jaA hf
   exact jkE pins s σ H _ _ v u Q I rx ry ⟨a,b,vs,us,rfl,rfl,(by rw[hZ];exact ft),(by rw[hZ];exact fu),hl,h.lst dm (ra.append rb)⟩
  |_=>exact jcg hw
 |str x=>
  cases dy with
  |str y=>
   obtain⟨rfl,hw⟩:=jg7 hw;obtain⟨hf,rfl⟩:=jbp hw;cases bx.str;cases by_.str;exact jfw pins s σ H _ _ v u Q I rx ry ⟨_,_,rfl,rfl,jaA hf,h.sc dm (by simp only[Rep])⟩
  |_=>exact jcg hw
 |_=>exact jcg hw
end
section
variable {Z:Kn}{X:Cx}{pins:List (Addr×Obj)}{s:Shared}{σ:L2.St}{H:Hp}{F:Addr->Prop}
theorem RepB.isTup (hZ:X.K=Z.K)(I:Inv X pins σ H s){ds:List D}{v:V}{u:Value}(h:RepB Z F H (.tup ds) v)(r:RelV v u):∃a vs its,u=.ref a/\Reps Z F H ds vs/\Vals vs its/\s.heap.IsTuple a its.toArray:=by
 obtain⟨a,vs,rfl,ft,rr⟩:=h.tup;cases r;obtain⟨its,rv,p,_⟩:=I.tuple (show SqT X.K H a vs by rw[hZ];exact ft.sq)
 exact⟨a,vs,its,rfl,rr,rv,p⟩
theorem RepB.isLst (hZ:X.K=Z.K)(I:Inv X pins σ H s){ds:List D}{v:V}{u:Value}(h:RepB Z F H (.lst ds) v)(r:RelV v u):∃a vs its,u=.ref a/\Reps Z F H ds vs/\Vals vs its/\s.heap.IsList a its.toArray:=by
 obtain⟨a,vs,rfl,ft,rr⟩:=h.lst;cases r;obtain⟨its,rv,p,_⟩:=I.list (show SqL X.K H a vs by rw[hZ];exact ft)
 exact⟨a,vs,its,rfl,rr,rv,p.isList⟩
theorem jg8 {h:Heap}{a:Addr}{x y:Array Value}(p:h.IsTuple a x)(q:h.IsTuple a y):x=y:=by
 obtain⟨o,e,_,n,d⟩:=p;obtain⟨o',e',_,n',d'⟩:=q;rw[e]at e';cases e';rw[d]at d';cases d';rfl
theorem jg9 {h:Heap}{a:Addr}{x y:Array Value}(p:h.IsList a x)(q:h.IsList a y):x=y:=by
 obtain⟨o,e,_,n,d⟩:=p;obtain⟨o',e',_,n',d'⟩:=q;rw[e]at e';cases e';rw[d]at d';cases d';rfl
mutual
theorem jb6 (hZ:X.K=Z.K)(I:Inv X pins σ H s):∀{d e:D}{v w:V}{u:Value},RepB Z F H d v->RepB Z F H e w->RelV v u->RelV w u->jbn d=true->jbn e=true->d=e
 |.non,e,v,w,u,hd,he,rv,rw',cd,ce=>by
  cases hd.non;cases rv;cases e with
  |non=>rfl
  |bl b=>cases he.bl;cases rw'
  |int i=>cases he.int;obtain⟨t,z⟩:=rw';cases z
  |str x=>cases he.str;obtain⟨t,z⟩:=rw';cases z
  |tup xs=>obtain⟨a,vs,its,z,_⟩:=he.isTup hZ I rw';cases z
  |lst xs=>obtain⟨a,vs,its,z,_⟩:=he.isLst hZ I rw';cases z
  |dct _ _=>cases ce
  |exc _=>cases ce
 |.bl b,e,v,w,u,hd,he,rv,rw',cd,ce=>by
  cases hd.bl;cases rv;cases e with
  |non=>cases he.non;cases rw'
  |bl b'=>cases he.bl;cases rw';rfl
  |int i=>cases he.int;obtain⟨t,z⟩:=rw';cases z
  |str x=>cases he.str;obtain⟨t,z⟩:=rw';cases z
  |tup xs=>obtain⟨a,vs,its,z,_⟩:=he.isTup hZ I rw';cases z
  |lst xs=>obtain⟨a,vs,its,z,_⟩:=he.isLst hZ I rw';cases z
  |dct _ _=>cases ce
  |exc _=>cases ce
 |.int i,e,v,w,u,hd,he,rv,rw',cd,ce=>by
  cases hd.int;obtain⟨t,rfl⟩:=rv;cases e with
  |non=>cases he.non;cases rw'
  |bl b'=>cases he.bl;cases rw'
  |int i=>cases he.int;obtain⟨t,z⟩:=rw';cases z;rfl
  |str x=>cases he.str;obtain⟨t,z⟩:=rw';cases z
  |tup xs=>obtain⟨a,vs,its,z,_⟩:=he.isTup hZ I rw';cases z
  |lst xs=>obtain⟨a,vs,its,z,_⟩:=he.isLst hZ I rw';cases z
  |dct _ _=>cases ce
  |exc _=>cases ce
 |.str i,e,v,w,u,hd,he,rv,rw',cd,ce=>by
  cases hd.str;obtain⟨t,rfl⟩:=rv;cases e with
  |non=>cases he.non;cases rw'
  |bl b'=>cases he.bl;cases rw'
  |int i=>cases he.int;obtain⟨t,z⟩:=rw';cases z
  |str x=>cases he.str;obtain⟨t,z⟩:=rw';cases z;rfl
  |tup xs=>obtain⟨a,vs,its,z,_⟩:=he.isTup hZ I rw';cases z
  |lst xs=>obtain⟨a,vs,its,z,_⟩:=he.isLst hZ I rw';cases z
  |dct _ _=>cases ce
  |exc _=>cases ce
 |.tup ds,e,v,w,u,hd,he,rv,rw',cd,ce=>by
  obtain⟨a,vs,its,rfl,rr,rs,p⟩:=hd.isTup hZ I rv;cases e with
  |non=>cases he.non;cases rw'
  |bl b'=>cases he.bl;cases rw'
  |int i=>cases he.int;obtain⟨t,z⟩:=rw';cases z
  |str x=>cases he.str;obtain⟨t,z⟩:=rw';cases z
  |tup xs=>
   obtain⟨b,vs',its',z,rr',rs',p'⟩:=he.isTup hZ I rw';cases z;have:=jg8 p p';have:its=its':=by simpa using this
   subst this;simp only[jbn]at cd ce;rw[reps_same hZ I rr rr' rs rs' cd ce]
  |lst xs=>obtain⟨b,vs',its',z,rr',rs',p'⟩:=he.isLst hZ I rw';cases z;exact absurd rfl (SeqAt.ne_of_list_tuple p' p)
  |dct _ _=>cases ce
  |exc _=>cases ce
 |.lst ds,e,v,w,u,hd,he,rv,rw',cd,ce=>by
  obtain⟨a,vs,its,rfl,rr,rs,p⟩:=hd.isLst hZ I rv;cases e with
  |non=>cases he.non;cases rw'
  |bl b'=>cases he.bl;cases rw'
  |int i=>cases he.int;obtain⟨t,z⟩:=rw';cases z
  |str x=>cases he.str;obtain⟨t,z⟩:=rw';cases z
  |tup xs=>obtain⟨b,vs',its',z,rr',rs',p'⟩:=he.isTup hZ I rw';cases z;exact absurd rfl (SeqAt.ne_of_list_tuple p p')
  |lst xs=>
   obtain⟨b,vs',its',z,rr',rs',p'⟩:=he.isLst hZ I rw';cases z;have:=jg9 p p';have:its=its':=by simpa using this
   subst this;simp only[jbn]at cd ce;rw[reps_same hZ I rr rr' rs rs' cd ce]
  |dct _ _=>cases ce
  |exc _=>cases ce
 |.dct _ _,_,_,_,_,_,_,_,_,cd,_=>by cases cd
 |.exc _,_,_,_,_,_,_,_,_,cd,_=>by cases cd
theorem reps_same (hZ:X.K=Z.K)(I:Inv X pins σ H s):∀{ds es:List D}{vs ws:List V}{us:List Value},Reps Z F H ds vs->Reps Z F H es ws->Vals vs us->Vals ws us->cmpDs ds=true->cmpDs es=true->ds=es
 |[],es,vs,ws,us,hd,he,rv,rw',cd,ce=>by
  simp only[Reps]at hd;subst hd;cases rv;cases rw';cases es with
  |nil=>rfl
  |cons e es=>obtain⟨_,_,z,_⟩:=he.uncons;cases z
 |d::ds,es,vs,ws,us,hd,he,rv,rw',cd,ce=>by
  obtain⟨v,vs',rfl,h1,h2⟩:=hd.uncons;cases rv with
  |cons r1 r2=>
   cases rw' with
   |cons q1 q2=>
    cases es with
    |nil=>simp only[Reps]at he;cases he
    |cons e es=>
     obtain⟨w,ws',z,g1,g2⟩:=he.uncons;cases z;simp only[cmpDs,jqI]at cd ce;rw[jb6 hZ I (.inl h1) (.inl g1) r1 q1 cd.1 ce.1,reps_same hZ I h2 g2 r2 q2 cd.2 ce.2]
end
mutual
theorem jb7:∀{d:D},jbn d=true->eqD d d=true
 |.non,_=>rfl
 |.bl b,_=>by simp[eqD]
 |.int i,_=>by simp[eqD]
 |.str x,_=>by simp[eqD]
 |.tup xs,h=>by simp only[jbn]at h;simp only[eqD];exact eqDs_refl h
 |.lst xs,h=>by simp only[jbn]at h;simp only[eqD];exact eqDs_refl h
 |.dct _ _,h=>by cases h
 |.exc _,h=>by cases h
theorem eqDs_refl:∀{ds:List D},cmpDs ds=true->eqDs ds ds=true
 |[],_=>rfl
 |d::ds,h=>by
  simp only[cmpDs,jqI]at h;simp only[eqDs,jqI];exact⟨jb7 h.1,eqDs_refl h.2⟩
end
theorem jbe:∀{ds es:List D},eqDs ds es=(decide (ds.length=es.length) && (List.range (min ds.length es.length)).all fun j=>eqD (ds.getD j .non) (es.getD j .non))
 |[],[]=>rfl
 |[],_::_=>by simp[eqDs]
 |_::_,[]=>by simp[eqDs]
 |d::ds,e::es=>by
  have ih:=jbe (ds:=ds) (es:=es);simp only[eqDs,ih,jqe,Nat.succ_min_succ,List.range_succ_eq_map,List.all_cons,List.getD_cons_zero,List.all_map,Function.comp_def,List.getD_cons_succ,Nat.add_right_cancel_iff];cases eqD d e <;> cases decide (ds.length=es.length) <;> simp
theorem Reps.vals {ds:List D}{vs:List V}{us:List Value}(h:Reps Z F H ds vs)(r:Vals vs us){j:Nat}(hj:j < us.length):∃v,Rep Z F H (ds.getD j .non) v/\RelV v us[j]/\ds.length=us.length:=by
 have l1:=h.length;have l2:=r.length;obtain⟨v,e1,e2⟩:=h.get (jp5 (show j < ds.length by omega))
 obtain⟨u,e3,e4⟩:=r.get e1;rw[jp5 hj]at e3;cases e3;refine⟨v,?_,e4,by omega⟩
 rw[jqc,jp5 (show j < ds.length by omega)]
 exact e2
theorem jaH:∀{ds:List D}{j:Nat},cmpDs ds=true->jbn (ds.getD j .non)=true
 |[],j,_=>by simp[jbn]
 |d::ds,0,h=>by simp only[cmpDs,jqI]at h;simpa using h.1
 |d::ds,j + 1,h=>by
  simp only[cmpDs,jqI]at h;rw[List.getD_cons_succ];exact jaH h.2
theorem jbq:∀{ds:List D}{j:Nat},jcb (ds.getD j .non)<=deeps ds
 |[],j=>by simp[jcb]
 |d::ds,0=>by simp only[deeps,List.getD_cons_zero];exact Nat.le_max_left _ _
 |d::ds,j + 1=>by
  rw[List.getD_cons_succ];simp only[deeps];exact jqG jbq (Nat.le_max_right _ _)
open SeqAt in
theorem jem (hZ:X.K=Z.K)(I:Inv X pins σ H s):∀(n:Nat) {A:Around}{d e:D}{v w:V}{u u':Value},jcb d<=n->A.units + n < cLine->RepB Z F H d v->RepB Z F H e w->RelV v u->RelV w u'->jbn d=true->jbn e=true->RcAt A s u u' (eqD d e)/\EqAt A s u u' (eqD d e):=by
 intro n;induction n with
 |zero=>
  intro A d e v w u u' hn hu hd he rv rw' cd ce;have hu:A.units < cLine:=by omega
  cases d with
  |non=>
   cases hd.non;cases rv;cases e with
   |non=>cases he.non;cases rw';exact⟨RcAt.none_none,EqAt.same _⟩
   |bl b=>cases he.bl;cases rw';exact⟨RcAt.none_bool b,EqAt.none_bool b⟩
   |int i=>cases he.int;obtain⟨t,rfl⟩:=rw';exact⟨RcAt.none_int i t,EqAt.none_int i t⟩
   |str x=>cases he.str;obtain⟨t,rfl⟩:=rw';exact⟨RcAt.none_str x t,EqAt.none_str x t⟩
   |tup xs=>obtain⟨a,vs,its,rfl,_,_,p⟩:=he.isTup hZ I rw';exact⟨RcAt.none_tuple p hu,EqAt.none_tuple p hu⟩
   |lst xs=>obtain⟨a,vs,its,rfl,_,_,p⟩:=he.isLst hZ I rw';exact⟨RcAt.none_list p hu,EqAt.none_list p hu⟩
   |dct _ _=>cases ce
   |exc _=>cases ce
  |bl b0=>
   cases hd.bl;cases rv;cases e with
   |non=>cases he.non;cases rw';exact⟨RcAt.bool_none b0,EqAt.bool_none b0⟩
   |bl b=>cases he.bl;cases rw';exact⟨RcAt.bool_bool b0 b,EqAt.bool_bool b0 b⟩
   |int i=>cases he.int;obtain⟨t,rfl⟩:=rw';exact⟨RcAt.bool_int b0 i t,EqAt.bool_int b0 i t⟩
   |str x=>cases he.str;obtain⟨t,rfl⟩:=rw';exact⟨RcAt.bool_str b0 x t,EqAt.bool_str b0 x t⟩
   |tup xs=>obtain⟨a,vs,its,rfl,_,_,p⟩:=he.isTup hZ I rw';exact⟨RcAt.bool_tuple b0 p hu,EqAt.bool_tuple b0 p hu⟩
   |lst xs=>obtain⟨a,vs,its,rfl,_,_,p⟩:=he.isLst hZ I rw';exact⟨RcAt.bool_list b0 p hu,EqAt.bool_list b0 p hu⟩
   |dct _ _=>cases ce
   |exc _=>cases ce
  |int i0=>
   cases hd.int;obtain⟨t0,rfl⟩:=rv;cases e with
   |non=>cases he.non;cases rw';exact⟨RcAt.int_none i0 t0,EqAt.int_none i0 t0⟩
   |bl b=>cases he.bl;cases rw';exact⟨RcAt.int_bool i0 t0 b,EqAt.int_bool i0 t0 b⟩
   |int i=>cases he.int;obtain⟨t,rfl⟩:=rw';exact⟨RcAt.int_int i0 t0 i t,EqAt.int_int i0 t0 i t⟩
   |str x=>cases he.str;obtain⟨t,rfl⟩:=rw';exact⟨RcAt.int_str i0 t0 x t,EqAt.int_str i0 t0 x t⟩
   |tup xs=>obtain⟨a,vs,its,rfl,_,_,p⟩:=he.isTup hZ I rw';exact⟨RcAt.int_tuple i0 t0 p hu,EqAt.int_tuple i0 t0 p hu⟩
   |lst xs=>obtain⟨a,vs,its,rfl,_,_,p⟩:=he.isLst hZ I rw';exact⟨RcAt.int_list i0 t0 p hu,EqAt.int_list i0 t0 p hu⟩
   |dct _ _=>cases ce
   |exc _=>cases ce
  |str i0=>
   cases hd.str;obtain⟨t0,rfl⟩:=rv;cases e with
   |non=>cases he.non;cases rw';exact⟨RcAt.str_none i0 t0,EqAt.str_none i0 t0⟩
   |bl b=>cases he.bl;cases rw';exact⟨RcAt.str_bool i0 t0 b,EqAt.str_bool i0 t0 b⟩
   |int i=>cases he.int;obtain⟨t,rfl⟩:=rw';exact⟨RcAt.str_int i0 t0 i t,EqAt.str_int i0 t0 i t⟩
   |str x=>cases he.str;obtain⟨t,rfl⟩:=rw';exact⟨RcAt.str_str i0 t0 x t,EqAt.str_str i0 t0 x t⟩
   |tup xs=>obtain⟨a,vs,its,rfl,_,_,p⟩:=he.isTup hZ I rw';exact⟨RcAt.str_tuple i0 t0 p hu,EqAt.str_tuple i0 t0 p hu⟩
   |lst xs=>obtain⟨a,vs,its,rfl,_,_,p⟩:=he.isLst hZ I rw';exact⟨RcAt.str_list i0 t0 p hu,EqAt.str_list i0 t0 p hu⟩
   |dct _ _=>cases ce
   |exc _=>cases ce
  |tup _=>simp[jcb]at hn
  |lst _=>simp[jcb]at hn
  |dct _ _=>cases cd
  |exc _=>cases cd
 |succ n ih=>
  intro A d e v w u u' hn hu hd he rv rw' cd ce;have hu0:A.units < cLine:=by omega
  have hu1:A.in1.units + n < cLine:=by show A.units + 1 + n < cLine;omega
  have flat:jcb d=0->RcAt A s u u' (eqD d e)/\EqAt A s u u' (eqD d e):=fun h0=>ih (by omega) (by omega) hd he rv rw' cd ce
  cases d with
  |non=>exact flat rfl
  |bl _=>exact flat rfl
  |int _=>exact flat rfl
  |str _=>exact flat rfl
  |dct _ _=>cases cd
  |exc _=>cases cd
  |tup ds=>
   obtain⟨a,vs,its,rfl,rr,rs,p⟩:=hd.isTup hZ I rv;cases e with
   |non=>cases he.non;cases rw';exact⟨RcAt.tuple_none p hu0,EqAt.tuple_none p hu0⟩
   |bl b=>cases he.bl;cases rw';exact⟨RcAt.tuple_bool b p hu0,EqAt.tuple_bool b p hu0⟩
   |int i=>cases he.int;obtain⟨t,rfl⟩:=rw';exact⟨RcAt.tuple_int i t p hu0,EqAt.tuple_int i t p hu0⟩
   |str x=>cases he.str;obtain⟨t,rfl⟩:=rw';exact⟨RcAt.tuple_str x t p hu0,EqAt.tuple_str x t p hu0⟩
   |lst xs=>obtain⟨b,vs',its',rfl,_,_,p'⟩:=he.isLst hZ I rw';exact⟨RcAt.tuple_list p p' hu0,EqAt.tuple_list p p' hu0⟩
   |dct _ _=>cases ce
   |exc _=>cases ce
   |tup es=>
    obtain⟨b,vs',its',rfl,rr',rs',p'⟩:=he.isTup hZ I rw';simp only[jbn]at cd ce;simp only[jcb]at hn;have l1:ds.length=its.length:=by rw[rr.length,rs.length]
    have l2:es.length=its'.length:=by rw[rr'.length,rs'.length]
    have key:RcAt A s (.ref a) (.ref b) (eqD (.tup ds) (.tup es)):=by
     have:=RcAt.tuples (A:=A) (e:=fun j=>eqD (ds.getD j .non) (es.getD j .non)) p p' hu0 fun j h1 h2=>by
      obtain⟨v1,q1,q2,_⟩:=rr.vals rs (j:=j) (by simpa using h1)
      obtain⟨v2,q3,q4,_⟩:=rr'.vals rs' (j:=j) (by simpa using h2)
      exact(ih (jqG jbq (by omega)) hu1 (.inl q1) (.inl q3) (by simpa using q2) (by simpa using q4) (jaH cd) (jaH ce)).2
     simp only[eqD];rw[jbe,Bool.and_comm];simp only[jp8,<-l1,<-l2]at this;have e2:(ds.length == es.length)=decide (ds.length=es.length):=by rw[Bool.beq_eq_decide_eq]
     rw[<-e2];exact this
    refine⟨key,?_⟩;by_cases hab:a=b
    ·subst hab;rw[jb6 hZ I hd he rv rw' (by simpa only[jbn] using cd) (by simpa only[jbn] using ce),jb7 (by simpa only[jbn] using ce)]
     exact EqAt.same _
    ·exact EqAt.of_refs hab key
  |lst ds=>
   obtain⟨a,vs,its,rfl,rr,rs,p⟩:=hd.isLst hZ I rv;cases e with
   |non=>cases he.non;cases rw';exact⟨RcAt.list_none p hu0,EqAt.list_none p hu0⟩
   |bl b=>cases he.bl;cases rw';exact⟨RcAt.list_bool b p hu0,EqAt.list_bool b p hu0⟩
   |int i=>cases he.int;obtain⟨t,rfl⟩:=rw';exact⟨RcAt.list_int i t p hu0,EqAt.list_int i t p hu0⟩
   |str x=>cases he.str;obtain⟨t,rfl⟩:=rw';exact⟨RcAt.list_str x t p hu0,EqAt.list_str x t p hu0⟩
   |tup xs=>obtain⟨b,vs',its',rfl,_,_,p'⟩:=he.isTup hZ I rw';exact⟨RcAt.list_tuple p p' hu0,EqAt.list_tuple p p' hu0⟩
   |dct _ _=>cases ce
   |exc _=>cases ce
   |lst es=>
    obtain⟨b,vs',its',rfl,rr',rs',p'⟩:=he.isLst hZ I rw';simp only[jbn]at cd ce;simp only[jcb]at hn;have l1:ds.length=its.length:=by rw[rr.length,rs.length]
    have l2:es.length=its'.length:=by rw[rr'.length,rs'.length]
    have key:RcAt A s (.ref a) (.ref b) (eqD (.lst ds) (.lst es)):=by
     by_cases hsz:its.length=its'.length
     ·have:=RcAt.lists (A:=A) (e:=fun j=>eqD (ds.getD j .non) (es.getD j .non)) p p' (by simpa using hsz) hu0 fun j h1 h2=>by
       obtain⟨v1,q1,q2,_⟩:=rr.vals rs (j:=j) (by simpa using h1)
       obtain⟨v2,q3,q4,_⟩:=rr'.vals rs' (j:=j) (by simpa using h2)
       exact(ih (jqG jbq (by omega)) hu1 (.inl q1) (.inl q3) (by simpa using q2) (by simpa using q4) (jaH cd) (jaH ce)).2
      simp only[eqD];have hl:ds.length=es.length:=by omega
      rw[jbe,decide_eq_true hl,Bool.true_and,<-hl,Nat.min_self];simp only[jp8,<-l1]at this;exact this
     ·have:=RcAt.lists_lengths (A:=A) p p' (by simpa using hsz) hu0
      simp only[eqD];rw[jbe,decide_eq_false (by omega),Bool.false_and]
      exact this
    refine⟨key,?_⟩;by_cases hab:a=b
    ·subst hab;rw[jb6 hZ I hd he rv rw' (by simpa only[jbn] using cd) (by simpa only[jbn] using ce),jb7 (by simpa only[jbn] using ce)]
     exact EqAt.same _
    ·exact EqAt.of_refs hab key
end
end DJ
namespace DJ
open PySem PySem.Spec PyProof.Rows L2
noncomputable def bD (g:D->D->R Bool):D->D->R Vl:=fun x y=>(g x y).bind fun c=>.ok (.dat (.bl c))
noncomputable def Cm.py:Cm->CmpOp
 |.eq=>.Eq | .ne=>.NotEq | .lt=>.Lt | .le=>.LtE | .gt=>.Gt | .ge=>.GtE | .isn=>.Is | .notn=>.IsNot
 |.isin=>.In | .notin=>.NotIn
theorem je8:∀x y:List Int,lexLt x y=HT.lexLt x y
 |[],[]=>rfl
 |[],_::_=>rfl
 |_::_,[]=>rfl
 |x::xs,y::ys=>by
  rw[HT.jcK];simp only[lexLt];rw[je8 xs ys]
theorem jc9 {Z:Kn}{F:Addr->Prop}{H:Hp}:∀{ds:List D}{ns:List Int}{vs:List V},ja9 ds=some ns->Reps Z F H ds vs->vs=ns.map V.int
 |[],ns,vs,h,r=>by simp only[Reps]at r;cases h;exact r
 |d::ds,ns,vs,h,r=>by
  simp only[Reps]at r;obtain⟨v,us,rfl,r1,r2⟩:=r;cases d with
  |int i=>
   simp only[ja9]at h;cases q:ja9 ds with
   |none=>rw[q]at h;cases h
   |some ms=>
    rw[q]at h;cases h;simp only[Rep]at r1;rw[r1,jc9 q r2];rfl
  |_=>cases h
theorem jha {d:D}{c:Nat}:jaO d≠.err c:=by cases d <;> (intro z;cases z)
theorem jhb {x y:D}{c:Nat}:eqR x y≠.err c:=by unfold eqR;split <;> (intro z;cases z)
theorem jkX {x y:D}{c:Nat}:inR x y≠.err c:=by
 intro h;unfold inR at h;cases e:jaO y with
 |ok ys=>rw[e,R.bind_ok']at h;split at h <;> cases h
 |err c=>exact jha e
 |stk=>rw[e]at h;cases h
theorem jhc {x y:D}{c:Nat}:inX x y≠.err c:=by
 cases y with
 |str y=>cases x <;> (intro h;cases h)
 |_=>exact jkX
theorem jkY {x y:D}{c:Nat}:ltD x y≠.err c:=by
 intro h;unfold ltD at h;split at h <;> first | cases h | (split at h <;> cases h)
theorem jda {f:Int->Int->Bool}{x y:D}{c:Nat}:jm7 f x y≠.err c:=by
 intro h;cases x with
 |int a=>cases y with
  |int b=>cases h
  |_=>cases h
 |_=>cases h
theorem jen {f:Int->Int->Bool}{x y:D}{c:Bool}(h:jm7 f x y=.ok c):∃a b,x=.int a/\y=.int b/\c=f a b:=by
 cases x with
 |int a=>cases y with
  |int b=>cases h;exact⟨a,b,rfl,rfl,rfl⟩
  |_=>cases h
 |_=>cases h
theorem jhd {r:R Bool}{c:Nat}(hr:r≠.err c):(r.bind fun c=>(.ok (!c):R Bool))≠.err c:=by
 intro h;cases r with
 |ok b=>cases h
 |err c'=>cases h;exact hr rfl
 |stk=>cases h
theorem jj1 {x:D}(h:isN x=true):x=.non:=by
 cases x with
 |non=>rfl
 |_=>cases h
theorem jkZ {o:Cm}{x y:D}{c:Nat}:cmD o x y≠.err c:=by
 cases o with
 |eq=>exact jhb
 |ne=>exact jhd jhb
 |lt=>exact jkY
 |gt=>exact jda
 |le=>exact jda
 |ge=>exact jda
 |isn=>intro h;unfold cmD at h;dsimp only at h;split at h <;> cases h
 |notn=>intro h;unfold cmD at h;dsimp only at h;split at h <;> cases h
 |isin=>exact jhc
 |notin=>exact jhd jhc
section
variable {Z:Kn}{X:Cx}{pins:List (Addr×Obj)}{s:Shared}{σ:L2.St}{H:Hp}{F:Addr->Prop}
theorem jj2 {d e:D}{b:Bool}(h:eqR d e=.ok b):b=eqD d e/\jbn d=true/\jbn e=true/\jcb d<=12/\jcb e<=12:=by
 unfold eqR at h;split at h
 ·rename_i hc;simp only[jqI,decide_eq_true_eq]at hc;cases h;exact⟨rfl,hc.1.1.1,hc.1.1.2,hc.1.2,hc.2⟩
 ·cases h
theorem jm9 (hZ:X.K=Z.K)(hu:X.A.units + 64 < cLine)(I:Inv X pins σ H s){d e:D}{x y:V}{u w:Value}{b:Bool}(hd:RepB Z F H d x)(he:RepB Z F H e y)(rx:RelV x u)(ry:RelV y w)(hb:eqR d e=.ok b){Q:Value->Shared->Prop}{E:Value->Shared->Prop}(q:Q (.bool b) s) :
  wpAny (model X.prog X.w) X.A (compareOp .Eq u w) Q E s:=by
 obtain⟨rfl,c1,c2,d1,d2⟩:=jj2 hb;exact(jem hZ I 12 (A:=X.A) d1 (by omega) hd he rx ry c1 c2).1 X.prog X.w E Q q
theorem jna (hZ:X.K=Z.K)(hu:X.A.units + 64 < cLine)(I:Inv X pins σ H s){d e:D}{x y:V}{u w:Value}{b:Bool}(hd:RepB Z F H d x)(he:RepB Z F H e y)(rx:RelV x u)(ry:RelV y w)(hb:inR d e=.ok b)(neg:Bool){Q:Value->Shared->Prop}{E:Value->Shared->Prop}(q:Q (.bool (if neg then !b else b)) s) :
  wpAny (model X.prog X.w) X.A (compareOp (if neg then .NotIn else .In) u w) Q E s:=by
 unfold inR at hb;obtain⟨ys,hs,hb⟩:=R.bind_ok hb;split at hb
 ·rename_i hc;simp only[jqI,decide_eq_true_eq]at hc;obtain⟨⟨⟨c1,c2⟩,d1⟩,d2⟩:=hc;cases hb;obtain⟨p,vs,rfl,hq,rr⟩:=jc6 he hs;cases ry;have hj:∀(its:List Value),Vals vs its->∃ef:Value->Bool,(∀z,z∈its.toArray->SeqAt.EqAt X.A.in1 s z u (ef z))/\its.toArray.any ef=ys.any fun z=>eqD z d:=fun its rv=>by
   classical
   let Pz:Value->D->Prop:=fun z e0=>jbn e0=true/\jcb e0<=12/\∃v0,Rep Z F H e0 v0/\RelV v0 z
   have uq:∀{z:Value}{e1 e2:D},Pz z e1->Pz z e2->e1=e2:=fun ⟨a1,_,v1,a3,a4⟩ ⟨b1,_,v2,b3,b4⟩=>jb6 hZ I (.inl a3) (.inl b3) a4 b4 a1 b1;let ef:Value->Bool:=fun z=>if h:∃e0,Pz z e0 then eqD h.choose d else false;have efE:∀{z:Value}{e0:D},Pz z e0->ef z=eqD e0 d:=fun {z e0} h=>by
    have hx:∃e0,Pz z e0:=⟨e0,h⟩;simp only[ef,dif_pos hx];rw[uq hx.choose_spec h]
   have l1:ys.length=its.length:=by rw[rr.length,rv.length]
   have at_:∀j (hj:j < its.length),Pz its[j] (ys.getD j .non):=fun j hj=>by
    obtain⟨v1,q1,q2,_⟩:=rr.vals rv hj;exact⟨jaH c2,jqG jbq d2,v1,q1,q2⟩
   refine⟨ef,fun z hz=>?_,?_⟩
   ·have hz:z∈its:=by simpa using hz
    obtain⟨j,hj,rfl⟩:=List.getElem_of_mem hz;have hp:=at_ j hj;rw[efE hp];obtain⟨a1,a2,v0,a3,a4⟩:=hp;exact(jem hZ I 12 (A:=X.A.in1) a2 (by show X.A.units + 1 + 12 < cLine;omega) (.inl a3) hd a4 rx a1 c1).2
   ·rw[<-Array.any_toList];have hmap:its.map ef=ys.map fun z=>eqD z d:=by
     apply List.ext_getElem
     ·simp[l1]
     ·intro j h1 h2;rw[List.getElem_map,List.getElem_map];have h1:j < its.length:=by simpa using h1
      have:=efE (at_ j h1);rw[this,jqc,jp5 (by omega)]
      rfl
    have e1:its.any ef=(its.map ef).any id:=by rw[List.any_map];rfl
    have e2:(ys.any fun z=>eqD z d)=(ys.map fun z=>eqD z d).any id:=by rw[List.any_map];rfl
    rw[e2,<-hmap,<-e1]
  rcases hq with hq | hq
  ·obtain⟨its,rv,pl,_⟩:=I.list (show SqL X.K H p vs by rw[hZ];exact hq)
   obtain⟨ef,f1,f2⟩:=hj its rv;cases neg with
   |false=>exact SeqAt.in_listAt ef pl.isList f1 (by rw[f2];exact q)
   |true=>exact SeqAt.notIn_listAt ef pl.isList f1 (by rw[f2];exact q)
  ·obtain⟨its,rv,pl,_⟩:=I.tuple (show SqT X.K H p vs by rw[hZ];exact hq)
   obtain⟨ef,f1,f2⟩:=hj its rv;cases neg with
   |false=>exact SeqAt.in_tupleAt ef (show s.heap.IsTuple p its.toArray from pl) f1 (by rw[f2];exact q)
   |true=>exact SeqAt.notIn_tupleAt ef (show s.heap.IsTuple p its.toArray from pl) f1 (by rw[f2];exact q)
 ·cases hb
theorem jhe (hZ:X.K=Z.K)(hu:X.A.units + 64 < cLine)(I:Inv X pins σ H s){d e:D}{x y:V}{u w:Value}{b:Bool}(hd:RepB Z F H d x)(he:RepB Z F H e y)(rx:RelV x u)(ry:RelV y w)(hb:inX d e=.ok b)(neg:Bool){Q:Value->Shared->Prop}{E:Value->Shared->Prop}(q:Q (.bool (if neg then !b else b)) s) :
  wpAny (model X.prog X.w) X.A (compareOp (if neg then .NotIn else .In) u w) Q E s:=by
 cases e with
 |str y=>
  cases d with
  |str x=>
   cases hb;cases hd.str;cases he.str;obtain⟨t,rfl⟩:=rx;obtain⟨t',rfl⟩:=ry;cases neg with
   |false=>exact SB.contains q
   |true=>exact SB.notContains q
  |_=>cases hb
 |_=>exact jna hZ hu I hd he rx ry hb neg q
open SeqAt in
theorem joB (hZ:X.K=Z.K)(I:Inv X pins σ H s){A:Around}{d e:D}{v w:V}{u u':Value}(hn:jcb d<=12)(hu:A.units + 13 < cLine)(hd:RepB Z F H d v)(he:RepB Z F H e w)(rv:RelV v u)(rw':RelV w u')(cd:jbn d=true)(ce:jbn e=true):RcNeAt A s u u' (!eqD d e):=by
 have hu0:A.units < cLine:=by omega
 have items:∀{ds es:List D}{vs vs':List V}{its its':List Value},Reps Z F H ds vs->Vals vs its->Reps Z F H es vs'->Vals vs' its'->deeps ds<=12->cmpDs ds=true->cmpDs es=true->∀j (h1:j < its.toArray.size) (h2:j < its'.toArray.size),EqAt A.in1 s its.toArray[j] its'.toArray[j] (eqD (ds.getD j .non) (es.getD j .non)):=fun rr rs rr' rs' hdp cds ces j h1 h2=>by
  obtain⟨v1,q1,q2,_⟩:=rr.vals rs (j:=j) (by simpa using h1)
  obtain⟨v2,q3,q4,_⟩:=rr'.vals rs' (j:=j) (by simpa using h2)
  exact(jem hZ I 12 (jqG jbq hdp) (by show A.units + 1 + 12 < cLine;omega) (.inl q1) (.inl q3) (by simpa using q2) (by simpa using q4) (jaH cds) (jaH ces)).2
 cases d with
 |non=>
  cases hd.non;cases rv;cases e with
  |non=>
   cases he.non;cases rw';exact RcNeAt.none_none
  |bl y=>
   cases he.bl;cases rw';exact RcNeAt.none_bool y
  |int y=>
   cases he.int;obtain⟨t2,rfl⟩:=rw';exact RcNeAt.none_int y t2
  |str y=>
   cases he.str;obtain⟨t2,rfl⟩:=rw';exact RcNeAt.none_str y t2
  |tup y=>
   obtain⟨a2,vs2,its2,rfl,rr2,rs2,p2⟩:=he.isTup hZ I rw';exact RcNeAt.none_tuple p2 hu0
  |lst y=>
   obtain⟨a2,vs2,its2,rfl,rr2,rs2,p2⟩:=he.isLst hZ I rw';exact RcNeAt.none_list p2 hu0
  |dct _ _=>cases ce
  |exc _=>cases ce
 |bl x=>
  cases hd.bl;cases rv;cases e with
  |non=>
   cases he.non;cases rw';exact RcNeAt.bool_none x
  |bl y=>
   cases he.bl;cases rw';exact RcNeAt.bool_bool x y
  |int y=>
   cases he.int;obtain⟨t2,rfl⟩:=rw';exact RcNeAt.bool_int x y t2
  |str y=>
   cases he.str;obtain⟨t2,rfl⟩:=rw';exact RcNeAt.bool_str x y t2
  |tup y=>
   obtain⟨a2,vs2,its2,rfl,rr2,rs2,p2⟩:=he.isTup hZ I rw';exact RcNeAt.bool_tuple x p2 hu0
  |lst y=>
   obtain⟨a2,vs2,its2,rfl,rr2,rs2,p2⟩:=he.isLst hZ I rw';exact RcNeAt.bool_list x p2 hu0
  |dct _ _=>cases ce
  |exc _=>cases ce
 |int x=>
  cases hd.int;obtain⟨t1,rfl⟩:=rv;cases e with
  |non=>
   cases he.non;cases rw';exact RcNeAt.int_none x t1
  |bl y=>
   cases he.bl;cases rw';exact RcNeAt.int_bool x t1 y
  |int y=>
   cases he.int;obtain⟨t2,rfl⟩:=rw';exact RcNeAt.int_int x t1 y t2
  |str y=>
   cases he.str;obtain⟨t2,rfl⟩:=rw';exact RcNeAt.int_str x t1 y t2
  |tup y=>
   obtain⟨a2,vs2,its2,rfl,rr2,rs2,p2⟩:=he.isTup hZ I rw';exact RcNeAt.int_tuple x t1 p2 hu0
  |lst y=>
   obtain⟨a2,vs2,its2,rfl,rr2,rs2,p2⟩:=he.isLst hZ I rw';exact RcNeAt.int_list x t1 p2 hu0
  |dct _ _=>cases ce
  |exc _=>cases ce
 |str x=>
  cases hd.str;obtain⟨t1,rfl⟩:=rv;cases e with
  |non=>
   cases he.non;cases rw';exact RcNeAt.str_none x t1
  |bl y=>
   cases he.bl;cases rw';exact RcNeAt.str_bool x t1 y
  |int y=>
   cases he.int;obtain⟨t2,rfl⟩:=rw';exact RcNeAt.str_int x t1 y t2
  |str y=>
   cases he.str;obtain⟨t2,rfl⟩:=rw';exact RcNeAt.str_str x t1 y t2
  |tup y=>
   obtain⟨a2,vs2,its2,rfl,rr2,rs2,p2⟩:=he.isTup hZ I rw';exact RcNeAt.str_tuple x t1 p2 hu0
  |lst y=>
   obtain⟨a2,vs2,its2,rfl,rr2,rs2,p2⟩:=he.isLst hZ I rw';exact RcNeAt.str_list x t1 p2 hu0
  |dct _ _=>cases ce
  |exc _=>cases ce
 |tup x=>
  obtain⟨a1,vs1,its1,rfl,rr1,rs1,p1⟩:=hd.isTup hZ I rv;cases e with
  |non=>
   cases he.non;cases rw';exact RcNeAt.tuple_none p1 hu0
  |bl y=>
   cases he.bl;cases rw';exact RcNeAt.tuple_bool y p1 hu0
  |int y=>
   cases he.int;obtain⟨t2,rfl⟩:=rw';exact RcNeAt.tuple_int y t2 p1 hu0
  |str y=>
   cases he.str;obtain⟨t2,rfl⟩:=rw';exact RcNeAt.tuple_str y t2 p1 hu0
  |tup y=>
   obtain⟨a2,vs2,its2,rfl,rr2,rs2,p2⟩:=he.isTup hZ I rw';simp only[jbn]at cd ce;simp only[jcb]at hn;have l1:x.length=its1.length:=by rw[rr1.length,rs1.length]
   have l2:y.length=its2.length:=by rw[rr2.length,rs2.length]
   have:=RcNeAt.tuples (A:=A) (e:=fun j=>eqD (x.getD j .non) (y.getD j .non)) p1 p2 hu0 (items rr1 rs1 rr2 rs2 (by omega) cd ce)
   simp only[eqD];rw[jbe,Bool.and_comm];simp only[jp8,<-l1,<-l2]at this;have e2:(x.length == y.length)=decide (x.length=y.length):=by rw[Bool.beq_eq_decide_eq]
   rw[<-e2];exact this
  |lst y=>
   obtain⟨a2,vs2,its2,rfl,rr2,rs2,p2⟩:=he.isLst hZ I rw';exact RcNeAt.tuple_list p1 p2 hu0
  |dct _ _=>cases ce
  |exc _=>cases ce
 |lst x=>
  obtain⟨a1,vs1,its1,rfl,rr1,rs1,p1⟩:=hd.isLst hZ I rv;cases e with
  |non=>
   cases he.non;cases rw';exact RcNeAt.list_none p1 hu0
  |bl y=>
   cases he.bl;cases rw';exact RcNeAt.list_bool y p1 hu0
  |int y=>
   cases he.int;obtain⟨t2,rfl⟩:=rw';exact RcNeAt.list_int y t2 p1 hu0
  |str y=>
   cases he.str;obtain⟨t2,rfl⟩:=rw';exact RcNeAt.list_str y t2 p1 hu0
  |tup y=>
   obtain⟨a2,vs2,its2,rfl,rr2,rs2,p2⟩:=he.isTup hZ I rw';exact RcNeAt.list_tuple p1 p2 hu0
  |lst y=>
   obtain⟨a2,vs2,its2,rfl,rr2,rs2,p2⟩:=he.isLst hZ I rw';simp only[jbn]at cd ce;simp only[jcb]at hn;have l1:x.length=its1.length:=by rw[rr1.length,rs1.length]
   have l2:y.length=its2.length:=by rw[rr2.length,rs2.length]
   by_cases hsz:its1.length=its2.length
   ·have:=RcNeAt.lists (A:=A) (e:=fun j=>eqD (x.getD j .non) (y.getD j .non)) p1 p2 (by simpa using hsz) hu0 (items rr1 rs1 rr2 rs2 (by omega) cd ce)
    simp only[eqD];have hl:x.length=y.length:=by omega
    rw[jbe,decide_eq_true hl,Bool.true_and,<-hl,Nat.min_self];simp only[jp8,<-l1]at this;exact this
   ·have:=RcNeAt.lists_lengths (A:=A) p1 p2 (by simpa using hsz) hu0
    simp only[eqD];rw[jbe,decide_eq_false (by omega),Bool.false_and]
    exact this
  |dct _ _=>cases ce
  |exc _=>cases ce
 |dct _ _=>cases cd
 |exc _=>cases cd
theorem jnb (hZ:X.K=Z.K)(hu:X.A.units + 64 < cLine)(I:Inv X pins σ H s){d e:D}{x y:V}{u w:Value}{b:Bool}(hd:RepB Z F H d x)(he:RepB Z F H e y)(rx:RelV x u)(ry:RelV y w)(hb:eqR d e=.ok b){Q:Value->Shared->Prop}{E:Value->Shared->Prop}(q:Q (.bool (!b)) s) :
  wpAny (model X.prog X.w) X.A (compareOp .NotEq u w) Q E s:=by
 obtain⟨rfl,c1,c2,d1,d2⟩:=jj2 hb;exact joB hZ I d1 (by omega) hd he rx ry c1 c2 X.prog X.w E Q q
theorem joC (hZ:X.K=Z.K)(hu:X.A.units + 64 < cLine)(o:Cm):OpR X (compareOp o.py) (rD2 Z (bD (cmD o))):=by
 intro pins s σ H x y v u Q I rx ry h;obtain⟨F,dx,dy,w,dm,bx,by_,hw,h⟩:=h;unfold bD at hw;obtain⟨c,hc,hw⟩:=R.bind_ok hw;cases hw;have fin:∀k:Bool,k=c->EP X pins σ Q (.bool k) s:=fun k e=>by subst e;exact⟨.bl k,H,I,rfl,h.bl dm⟩
 have isn:isN dx=decide (x=.non):=by
  cases dx with
  |non=>cases bx.non;rfl
  |bl b=>cases bx.bl;rfl
  |int b=>cases bx.int;rfl
  |str b=>cases bx.str;rfl
  |tup b=>obtain⟨a,vs,rfl,_⟩:=bx.tup;rfl
  |lst b=>obtain⟨a,vs,rfl,_⟩:=bx.lst;rfl
  |dct ks vs=>obtain⟨a,rfl,_⟩:=bx.dct;rfl
  |exc b=>
   have:=bx.flat (fun o z=>by cases o <;> cases z)
   simp only[Rep]at this;obtain⟨a,C,rfl,_⟩:=this;rfl
 cases o with
 |eq=>exact jm9 hZ hu I bx by_ rx ry hc (fin _ rfl)
 |ne=>
  obtain⟨b,hb,hc⟩:=R.bind_ok hc;cases hc;exact jnb hZ hu I bx by_ rx ry hb (fin _ rfl)
 |lt=>
  have hc:ltD dx dy=.ok c:=hc;unfold ltD at hc;split at hc
  ·cases hc;cases bx.int;cases by_.int;exact jok pins s σ H _ _ v u Q I rx ry ⟨_,_,rfl,rfl,h.bl dm⟩
  ·split at hc
   ·rename_i as bs ns ms e1 e2;cases hc;obtain⟨a,vs,rfl,ft,ra⟩:=bx.tup;obtain⟨b,us,rfl,fu,rb⟩:=by_.tup;cases jc9 e1 ra;cases jc9 e2 rb;refine jmR (by omega) pins s σ H _ _ v u Q I rx ry ⟨a,b,ns,ms,rfl,rfl,(by rw[hZ];exact ft.sq),(by rw[hZ];exact fu.sq),?_⟩
    rw[<-je8];exact h.bl dm
   ·cases hc
  ·cases hc
 |gt=>
  obtain⟨_,_,rfl,rfl,rfl⟩:=jen hc;cases bx.int;cases by_.int;exact jom pins s σ H _ _ v u Q I rx ry ⟨_,_,rfl,rfl,h.bl dm⟩
 |le=>
  obtain⟨_,_,rfl,rfl,rfl⟩:=jen hc;cases bx.int;cases by_.int;exact jol pins s σ H _ _ v u Q I rx ry ⟨_,_,rfl,rfl,h.bl dm⟩
 |ge=>
  obtain⟨_,_,rfl,rfl,rfl⟩:=jen hc;cases bx.int;cases by_.int;exact jon pins s σ H _ _ v u Q I rx ry ⟨_,_,rfl,rfl,h.bl dm⟩
 |isn=>
  have hc:(if isN dy then .ok (isN dx)else .stk:R Bool)=.ok c:=hc;split at hc
  ·rename_i hn;cases jj1 hn;cases hc;cases by_.non;refine jmN pins s σ H _ _ v u Q I rx ry ⟨rfl,?_⟩;rw[<-isn];exact h.bl dm
  ·cases hc
 |notn=>
  have hc:(if isN dy then .ok (!isN dx)else .stk:R Bool)=.ok c:=hc;split at hc
  ·rename_i hn;cases jj1 hn;cases hc;cases by_.non;refine jks pins s σ H _ _ v u Q I rx ry ⟨rfl,?_⟩;rw[<-isn];exact h.bl dm
  ·cases hc
 |isin=>exact jhe hZ hu I bx by_ rx ry hc false (fin _ rfl)
 |notin=>
  obtain⟨b,hb,hc⟩:=R.bind_ok hc;cases hc;exact jhe hZ hu I bx by_ rx ry hb true (fin _ rfl)
end
end DJ
namespace L2
open PySem PySem.Spec PyProof.Rows
section
variable {X:Cx}
end
end L2
namespace DJ
open PySem PySem.Spec PyProof.Rows L2
theorem jbI {Z:Kn}{F:Addr->Prop}{H:Hp}:∀{ds:List D}{bs:List Bool}{vs:List V},jaw ds=some bs->Reps Z F H ds vs->vs.map trV=bs.map some
 |[],ns,vs,h,r=>by simp only[Reps]at r;subst r;cases h;rfl
 |d::ds,ns,vs,h,r=>by
  simp only[Reps]at r;obtain⟨v,us,rfl,r1,r2⟩:=r;cases d with
  |int i=>
   simp only[jaw]at h;cases q:jaw ds with
   |none=>rw[q]at h;cases h
   |some ms=>
    rw[q]at h;cases h;simp only[Rep]at r1;subst r1;rw[jqb,jqb,jbI q r2];rfl
  |bl i=>
   simp only[jaw]at h;cases q:jaw ds with
   |none=>rw[q]at h;cases h
   |some ms=>
    rw[q]at h;cases h;simp only[Rep]at r1;subst r1;rw[jqb,jqb,jbI q r2];rfl
  |_=>cases h
section
variable {Z:Kn}{X:Cx}
theorem jk0 (hZ:X.K=Z.K){H:Hp}{p:Addr}{vs:List V}(h:SqL Z.K H p vs\/SqT Z.K H p vs):SqL X.K H p vs\/SqT X.K H p vs:=by rw[hZ];exact h
theorem jnc (hZ:X.K=Z.K):∀x H Q,rD1 Z (bfD .len) x H Q->(fun xs H Q=>(∃p ys,xs=[.ref p]/\(SqL X.K H p ys\/SqT X.K H p ys)/\Q (.int ys.length) H)\/(∃z,xs=[.str z]/\z.length<=sizeLine/\Q (.int z.length) H):List V->Hp->VK->Prop) [x] H Q:=by
 intro x H Q hz1;obtain⟨F,d,w,dm,rp,hw,h⟩:=hz1;have key:∀xs,jaO d=.ok xs->w=.dat (.int xs.length)->(fun xs H Q=>(∃p ys,xs=[.ref p]/\(SqL X.K H p ys\/SqT X.K H p ys)/\Q (.int ys.length) H)\/(∃z,xs=[.str z]/\z.length<=sizeLine/\Q (.int z.length) H):List V->Hp->VK->Prop) [x] H Q:=fun xs hs e=>by
  subst e;obtain⟨p,vs,rfl,q,r⟩:=jc6 rp hs;refine .inl ⟨p,vs,rfl,jk0 hZ q,?_⟩;rw[<-r.length];exact h.int dm
 cases d with
 |str z=>
  simp only[bfD]at hw;split at hw
  ·rename_i hf;cases hw;cases rp.str;exact .inr ⟨z,rfl,jaA hf,h.int dm⟩
  ·cases hw
 |tup xs=>simp only[bfD,jaO,R.bind_ok']at hw;cases hw;exact key xs rfl rfl
 |lst xs=>simp only[bfD,jaO,R.bind_ok']at hw;cases hw;exact key xs rfl rfl
 |_=>simp only[bfD,jaO]at hw;cases hw
theorem jiZ (hZ:X.K=Z.K):∀x H Q,rD1 Z (bfD .tuple) x H Q->(fun xs H Q=>∃p ys,xs=[.ref p]/\((SqL X.K H p ys/\∀l,H l=none->Q (.ref l) (upd H l (.tup ys)))\/(SqT X.K H p ys/\Q (.ref p) H)):List V->Hp->VK->Prop) [x] H Q:=by
 intro x H Q hz1;obtain⟨F,d,w,dm,rp,hw,h⟩:=hz1;simp only[bfD]at hw;obtain⟨xs,hs,hw⟩:=R.bind_ok hw;cases hw;cases d with
 |tup ds=>
  cases hs;obtain⟨a,vs,rfl,ft,r⟩:=rp.tup;exact⟨a,vs,rfl,.inr ⟨by rw[hZ];exact ft.sq,h.tupOld dm ft r⟩⟩
 |lst ds=>
  cases hs;obtain⟨a,vs,rfl,ft,r⟩:=rp.lst;exact⟨a,vs,rfl,.inl ⟨by rw[hZ];exact ft,h.tup dm r⟩⟩
 |_=>cases hs
theorem jnd (hZ:X.K=Z.K)(all:Bool):∀x H Q,rD1 Z (bfD (if all then .all else .any)) x H Q->(fun xs H Q=>∃(p:Addr) (ys:List V) (bs:List Bool),xs=[.ref p]/\(SqL X.K H p ys\/SqT X.K H p ys)/\ys.map trV=bs.map some/\Q (.bl (if all then bs.all id else bs.any id)) H:List V->Hp->VK->Prop) [x] H Q:=by
 intro x H Q hz1;obtain⟨F,d,w,dm,rp,hw,h⟩:=hz1;cases all with
 |true=>
  simp only[if_true,bfD]at hw;obtain⟨xs,hs,hw⟩:=R.bind_ok hw;obtain⟨p,vs,rfl,q,r⟩:=jc6 rp hs;cases e:jaw xs with
  |none=>rw[e]at hw;cases hw
  |some bs=>rw[e]at hw;cases hw;exact⟨p,vs,bs,rfl,jk0 hZ q,jbI e r,h.bl dm⟩
 |false=>
  simp only[jqJ,if_false,bfD]at hw;obtain⟨xs,hs,hw⟩:=R.bind_ok hw;obtain⟨p,vs,rfl,q,r⟩:=jc6 rp hs;cases e:jaw xs with
  |none=>rw[e]at hw;cases hw
  |some bs=>rw[e]at hw;cases hw;exact⟨p,vs,bs,rfl,jk0 hZ q,jbI e r,h.bl dm⟩
theorem jne:∀x H Q,rD1 Z (bfD .str) x H Q->(fun xs H Q=>∃i,xs=[.int i]/\i.natAbs.log2 < 1920/\Q (.str (Str.ofString (toString i))) H:List V->Hp->VK->Prop) [x] H Q:=by
 intro x H Q hz1;obtain⟨F,d,w,dm,rp,hw,h⟩:=hz1;cases d with
 |int i=>
  obtain⟨hf,rfl⟩:=jbp hw;cases rp.int;exact⟨i,rfl,hf,h.sc dm (by simp only[Rep])⟩
 |_=>cases hw
theorem jnf:∀x H Q,rD1 Z (bfD .int) x H Q->(fun xs H Q=>((∃i,xs=[.int i]/\Q (.int i) H)\/∃k,xs=[.bl k]/\Q (.int (if k then 1 else 0)) H)\/∃z n,xs=[.str z]/\PySem.intText? z=some n/\z.length<=640/\Q (.int n) H:List V->Hp->VK->Prop) [x] H Q:=by
 intro x H Q hz1;obtain⟨F,d,w,dm,rp,hw,h⟩:=hz1;cases d with
 |int i=>cases hw;cases rp.int;exact .inl (.inl ⟨_,rfl,h.int dm⟩)
 |bl b=>cases hw;cases rp.bl;exact .inl (.inr ⟨_,rfl,h.int dm⟩)
 |str z=>
  simp only[bfD]at hw;split at hw
  ·split at hw
   ·cases hw;cases rp.str;exact .inr ⟨z,_,rfl,‹_›,‹_›,h.int dm⟩
   ·cases hw
  ·cases hw
 |_=>cases hw
noncomputable def jdb:R Vl->Prop
 |.ok (.slot _)=>False
 |.err _=>False
 |_=>True
theorem jcQ (kss:List (List Int)):jdb (jgV kss):=by
 unfold jgV;split <;> trivial
theorem jba {c:Prop}[Decidable c]{r:R Vl}(h:jdb r):jdb (if c then r else .stk):=by
 split
 ·exact h
 ·trivial
theorem jaI {d:D}{f:List D->R Vl}(h:∀xs,jdb (f xs)):jdb ((jaO d).bind f):=by
 cases d with
 |tup xs=>exact h xs
 |lst xs=>exact h xs
 |_=>trivial
theorem jdF (f:Bf)(x:D):jdb (bfD f x):=by
 cases f with
 |abs=>cases x <;> trivial
 |int=>cases x with
  |str x=>
   refine jba ?_;cases PySem.intText? x <;> trivial
  |_=>trivial
 |len=>cases x with
  |str x=>exact jba trivial
  |_=>trivial
 |tuple=>exact jaI fun _=>trivial
 |list=>exact jaI fun _=>trivial
 |all=>
  refine jaI fun xs=>?_;cases jaw xs <;> trivial
 |any=>
  refine jaI fun xs=>?_;cases jaw xs <;> trivial
 |sum=>
  refine jaI fun xs=>?_;cases ja9 xs <;> trivial
 |min=>
  refine jaI fun xs=>?_;cases ja9 xs with
  |none=>trivial
  |some ns=>cases ns <;> trivial
 |max=>
  refine jaI fun xs=>?_;cases ja9 xs with
  |none=>trivial
  |some ns=>cases ns <;> trivial
 |sorted=>cases x with
  |lst xs=>
   show jdb (match jcP xs with | some kss=>jgV kss | none=>.stk)
   cases jcP xs with
   |none=>trivial
   |some k=>exact jcQ k
  |_=>trivial
 |ssorted=>
  refine jaI fun xs=>?_;cases jcP xs with
  |none=>trivial
  |some k=>exact jba (jcQ _)
 |revl=>cases x <;> trivial
 |revt=>cases x <;> trivial
 |str=>cases x with
  |int i=>exact jba trivial
  |_=>trivial
 |isup=>cases x <;> trivial
theorem jhf {f:Bf}{x:D}{c:Nat}:bfD f x≠.err c:=by
 intro h;have:=jdF f x;rw[h]at this;exact this
theorem je9 {f:Bf}{x:D}{i:Nat}:bfD f x≠.ok (.slot i):=by
 intro h;have:=jdF f x;rw[h]at this;exact this
end
end DJ
namespace DJ
open PySem PySem.Spec PyProof.Rows L2
structure Tab where
 defs:List Str
 flags:List (List Bool)
 cons:List (Str×D)
 excs:List Str
 quiet:Bool
noncomputable def knd (sc:List (Str×NameKind))(x:Str):Nat:=match sc.lookup x with
 |some .local=>1
 |some .cell=>1
 |some .free=>1
 |some .globalImplicit=>2
 |_=>0
noncomputable def jcR (N:List Str)(x:Str):Option Nat:=N.findIdx? (· == x)
noncomputable def mapO {α β:Type}(f:α->Option β):List α->Option (List β)
 |[]=>some []
 |a::as=>match f a,mapO f as with
  |some b,some bs=>some (b::bs)
  |_,_=>none
section
variable {α β γ δ ε:Type}
theorem jad {a:α}{p:Prop}(h:(none:Option α)=some a):p:=nomatch h
theorem jag {a:Option α}{f:α->γ}{c:γ}(h:a.map f=some c):∃x,a=some x/\f x=c:=Option.map_eq_some_iff.mp h
theorem jaf {a:Option α}{f:α->Option γ}{c:γ}(h:a.bind f=some c):∃x,a=some x/\f x=some c:=Option.bind_eq_some_iff.mp h
noncomputable def o2 (a:Option α)(b:Option β)(f:α->β->γ):Option γ:=a.bind fun x=>b.map (f x)
theorem jbJ {a:Option α}{b:Option β}{f:α->β->γ}{c:γ}(h:o2 a b f=some c):∃x y,a=some x/\b=some y/\f x y=c:=by
 obtain⟨x,h1,h⟩:=jaf h;obtain⟨y,h2,h⟩:=jag h;exact⟨x,y,h1,h2,h⟩
noncomputable def o3 (a:Option α)(b:Option β)(c:Option γ)(f:α->β->γ->δ):Option δ:=a.bind fun x=>o2 b c (f x)
theorem jch {a:Option α}{b:Option β}{c:Option γ}{f:α->β->γ->δ}{d:δ}(h:o3 a b c f=some d):∃x y z,a=some x/\b=some y/\c=some z/\f x y z=d:=by
 obtain⟨x,h1,h⟩:=jaf h;obtain⟨y,z,h⟩:=jbJ h;exact⟨x,y,z,h1,h⟩
noncomputable def o4 (a:Option α)(b:Option β)(c:Option γ)(d:Option δ)(f:α->β->γ->δ->ε):Option ε:=a.bind fun x=>o3 b c d (f x)
theorem jng {a:Option α}{b:Option β}{c:Option γ}{d:Option δ}{f:α->β->γ->δ->ε}{e:ε}(h:o4 a b c d f=some e):∃x y z w,a=some x/\b=some y/\c=some z/\d=some w/\f x y z w=e:=by
 obtain⟨x,h1,h⟩:=jaf h;obtain⟨y,z,w,h⟩:=jch h;exact⟨x,y,z,w,h1,h⟩
noncomputable def gd (b:Bool)(o:Option α):Option α:=if b then none else o
theorem jah {b:Bool}{o:Option α}{c:α}(h:gd b o=some c):b=false/\o=some c:=by
 cases b with
 |true=>exact jad h
 |false=>exact⟨rfl,h⟩
noncomputable def alt (b:Bool)(o o':Option α):Option α:=if b then o else o'
theorem jax {b:Bool}{o o':Option α}{c:α}(h:alt b o o'=some c):b=true/\o=some c\/o'=some c:=by
 cases b with
 |true=>exact .inl ⟨rfl,h⟩
 |false=>exact .inr h
noncomputable def jmi (a:Option α)(f:α->Option β)(r:Option β):Option β:=match a with
 |some x=>f x
 |none=>r
theorem jbK {a:Option α}{f:α->Option β}{r:Option β}{c:β}(h:jmi a f r=some c):(∃x,a=some x/\f x=some c)\/r=some c:=by
 cases a with
 |some x=>exact .inl ⟨x,rfl,h⟩
 |none=>exact .inr h
noncomputable def jhg:List α->Option α
 |[a]=>some a
 |_=>none
theorem jaQ {as:List α}{a:α}(h:jhg as=some a):as=[a]:=by
 cases as with
 |nil=>exact jad h
 |cons x r=>
  cases r with
  |nil=>cases h;rfl
  |cons y r=>exact jad h
theorem ja2 {as:List α}(h:(!as.isEmpty)=false):as=[]:=by
 cases as with
 |nil=>rfl
 |cons a r=>cases h
theorem jbk {a b:Bool}(h:(a || b)=false):a=false/\b=false:=by
 cases a with
 |true=>cases h
 |false=>exact⟨rfl,h⟩
theorem jbr {a:Bool}(h:(!a)=false):a=true:=by
 cases a with
 |true=>rfl
 |false=>cases h
end
theorem jeo {a b:Nat}(h:(a != b)=false):a=b:=by simpa using h
theorem jbT {a b:Str}(h:(a == b)=true):a=b:=by simpa using h
noncomputable def jhh:Expr->Option Str
 |.Name x _=>some x
 |_=>none
theorem ja3 {e:Expr}{x:Str}(h:jhh e=some x):∃p,e=.Name x p:=by
 cases e with
 |Name y p=>cases h;exact⟨p,rfl⟩
 |_=>exact jad h
noncomputable def jk1:Expr->Option (List Expr)
 |.Tuple es _ _=>some es
 |_=>none
theorem jdG {e:Expr}{p:List Expr}(h:jk1 e=some p):∃k q,e=.Tuple p k q:=by
 cases e with
 |Tuple es k q=>cases h;exact⟨k,q,rfl⟩
 |_=>exact jad h
noncomputable def jfa:List E->Es
 |[]=>.nil
 |e::es=>.cons e (jfa es)
noncomputable def jcS (x:Str):Bool:=x == "__debug__" || x == "__classdict__" || x == "__name__"
noncomputable def bltNames:List Str:=["isinstance","len","tuple","list","all","any","range","int","bool","str","dict","sum","min","max","sorted","set","abs","reversed","zip","ValueError","enumerate"]
inductive CXD_I (P:Program) (w:World) (outer:List PySem.Env) (H:L2.Hp) (s:PySem.Shared) (E:L2.XK) (e:PySem.Value) (s':PySem.Shared):Prop
 |mk (ea:Addr) (cls:Value) (a0:Value) (H':Hp) (B:Heap):(e=.ref ea)->(s'.os=s.os)->(AllBare s'.gens)->(Un (frs outer) [] H H' s.heap s'.heap)->(HOk P w H' s'.heap)->(Heap.FlyingW B outer ea cls a0 s'.heap)->((∀b o,s.heap.get? b=some o->b ∉ frs outer->∃o',B.get? b=some o'))->((∀a o,H' a=some o->∃o',B.get? a=some o'))->(H' ea=none)->(E cls none H')->CXD_I P w outer H s E e s'
noncomputable def CXD (P:Program)(w:World):CXT:=fun outer H s E e s'=>CXD_I P w outer H s E e s'
inductive spD_I (Z:Kn) (G:Calls) (i:Nat) (vs:List L2.V) (H:L2.Hp) (Q:L2.VK) (E:L2.XK):Prop
 |mk (B:Bs) (F:Addr->Prop) (sls:List Sl):(SR Z B F H (vs.map some) sls)->(B.hp=H)->((∀(k:Nat) (l:Addr),B.lent k=some l->(vs.map some)[k]?=some (some (.ref l))))->(Ok (fun c=>∀C H',Z.cl[c]?=some C->Stl (vs.map some) sls H H'->E (.ref C) none H') (G i sls) fun r=>∀v F' H',(∀i,r.1≠.slot i)->Go (vs.map some) sls F H (vs.map some) r.2 F' H'->SR Z B F' H' (vs.map some) r.2->RV Z F' H H' (vs.map some) r.2 r.1 v->Q v H')->spD_I Z G i vs H Q E
noncomputable def spD (Z:Kn)(G:Calls)(i:Nat):Sp:=fun vs H Q E=>spD_I Z G i vs H Q E
structure XD (T:Tab)(G:Calls)(U:Nat->Nat->Bool)(Z:Kn)(n:Nat)(X:Cx)(sc:List (Str×NameKind)):Prop where
 hK:X.K=Z.K
 calm:T.quiet=false->X.calm=true
 nd:X.N.Nodup
 room:T.quiet=false->Room n X.A
 un:X.A.units + 64 < cLine
 sc:∀x,X.env.scope.names.lookup x=sc.lookup x\/(sc.lookup x=some .free/\X.env.scope.names.lookup x=some .cell)
 blt:∀x∈bltNames,X.mg x=none
 defs:∀(i:Nat) (nm:Str),T.defs[i]?=some nm->∃f fd ps,X.mg nm=some (.ref f)/\PySem.W.keepIn X.K (.ref f)=true/\Binds X.K fd ps []/\FnOk X.prog X.w X.K X.mg X.base (CXD X.prog X.w) n f fd ps (spD Z G i)
 cons:∀x d,T.cons.lookup x=some d->∃u v,X.mg x=some u/\RelV v u/\∀F H,Rep Z F H d v
 excs:∀(i:Nat) (nm:Str),T.excs[i]?=some nm->∃C,Z.cl[i]?=some C/\X.mg nm=some (.ref C)
 ecl:∀C∈Z.cl,ECls X.K C
 sub:∀(i j:Nat) (C D:Addr),Z.cl[i]?=some C->Z.cl[j]?=some D->PySem.W.mroIn X.K C (.ref D)=some (U i j)
section
variable {T:Tab}{G:Calls}{U:Nat->Nat->Bool}{Z:Kn}{n:Nat}{X:Cx}{sc:List (Str×NameKind)}
theorem XD.vis (D:XD T G U Z n X sc){x:Str}(h:knd sc x=1):Vis X.env.scope x:=by
 have h':sc.lookup x=some .local\/sc.lookup x=some .cell\/sc.lookup x=some .free:=by
  unfold knd at h;split at h <;> simp_all
 unfold Vis;rcases D.sc x with e | ⟨_,e⟩
 ·rw[e];exact h'
 ·exact .inr (.inl e)
theorem XD.gl (D:XD T G U Z n X sc){x:Str}(h:knd sc x=2):Gl X x:=by
 have h':sc.lookup x=some .globalImplicit:=by
  unfold knd at h;split at h <;> simp_all
 show X.env.scope.names.lookup x=some .globalImplicit;rcases D.sc x with e | ⟨e,_⟩
 ·rw[e];exact h'
 ·rw[h']at e;cases e
end
theorem jaC {N:List Str}{x:Str}{i:Nat}(h:jcR N x=some i):N[i]?=some x:=by
 unfold jcR at h;obtain⟨hi,h1,_⟩:=List.findIdx?_eq_some_iff_getElem.mp h;rw[jp5 hi];simpa using h1
theorem jaq {α β:Type}{f:α->Option β}{a:α}{as:List α}{bs:List β}(h:mapO f (a::as)=some bs):∃b bs',f a=some b/\mapO f as=some bs'/\bs=b::bs':=by
 simp only[mapO]at h;split at h
 ·rename_i b bs' h1 h2;cases h;exact⟨b,bs',h1,h2,rfl⟩
 ·cases h
theorem jae {e:Expr}{es:List Expr}{env:Env}(h:∀a p,e≠.Starred a p):starEach (e::es) env=(false,eval e env)::starEach es env:=by
 cases e <;> first | rfl | exact absurd rfl (h _ _)
theorem jfb {pos:Pos}:∀{l:List (Bool×Sem Value)},l.any (·.1)=false->(backTo pos l).any (·.1)=false:=by
 intro l h;unfold backTo;rw[List.any_map];exact h
theorem jdc {env:Env}:∀{es:List Expr},(∀e∈es,∀a p,e≠.Starred a p)->(starEach es env).any (·.1)=false
 |[],_=>rfl
 |e::es,h=>by
  rw[jae (h e jp7),List.any_cons];exact jdc fun x hx=>h x (jp6 _ hx)
theorem jea {x:Str}(h:jcS x=false):(x == ("__debug__":Str))=false/\x≠"__name__":=by
 unfold jcS at h;simp only[Bool.or_eq_false_iff]at h;refine⟨h.1.1,fun z=>?_⟩;subst z;exact absurd h.2 (by decide)
theorem jk2 {x:Str}(h:jcS x=false):(x == ("__classdict__":Str))=false:=by
 unfold jcS at h;simp only[Bool.or_eq_false_iff]at h;exact h.1.2
section
variable {Z:Kn}{X:Cx}{B:Bs}{σ:L2.St}{ρ ρ1:Rho}{F F1:Addr->Prop}{H H1:Hp}
theorem tT.toE {f:Rho->R (Bool×Rho)}{Q:Bool->Hp->Prop}(h:tT Z X B f σ H Q):tE Z X B (fun ρ=>(f ρ).bind fun b=>.ok (.dat (.bl b.1),b.2)) σ H (fun x H'=>∃k,x=.bl k/\Q k H'):=by
 obtain⟨F,ρ,r,h⟩:=h;refine⟨F,ρ,r,?_⟩;show Ok _ ((f ρ).bind _) _;cases e:f ρ with
 |ok b=>
  rw[e]at h;intro v F' H' g r' q;have q:Rep Z F' H' (.bl b.1) v:=q;simp only[Rep]at q;exact⟨b.1,q,h F' H' g r'⟩
 |err c=>rw[e]at h;exact h
 |stk=>rw[e]at h;exact h
theorem jnh {K:Frag}(hK:K=Z.K){d:D}{v:V}{b:Bool}(h:RepB Z F H d v)(ht:jbj d=.ok b):jop K v H b:=by
 cases d with
 |non=>cases h.non;cases ht;rfl
 |bl c=>cases h.bl;cases ht;rfl
 |int i=>cases h.int;cases ht;rfl
 |str s=>cases ht
 |tup ds=>
  obtain⟨a,vs,rfl,ft,r⟩:=h.tup;cases ht;refine .inr (.inl ⟨vs,(by rw[hK];exact ft.sq),?_⟩)
  have:=r.length;cases vs <;> cases ds <;> simp_all
 |lst ds=>
  obtain⟨a,vs,rfl,ft,r⟩:=h.lst;cases ht;refine .inl ⟨vs,(by rw[hK];exact ft),?_⟩
  have:=r.length;cases vs <;> cases ds <;> simp_all
 |dct _ _=>cases ht
 |exc c=>cases ht
theorem jhi {d:D}{c:Nat}:jbj d≠.err c:=by cases d <;> (intro z;cases z)
noncomputable def trF (f:Rho->R (Vl×Rho))(ρ:Rho):R (Bool×Rho):=(f ρ).bind fun p=>(deref p.1 p.2).bind fun d=>(jbj d).bind fun b=>.ok (b,p.2)
theorem joD (hK:X.K=Z.K){e:Expr}{f:Rho->R (Vl×Rho)}(h:PE X e (tE Z X B f))(he:∀whole,isTrue e X.env whole=(do let v <-whole;standAt e.pos;holding [v] (truthy v))):PT X e (tT Z X B (trF f)):=by
 refine PT.imp (jiy h he) fun σ H Q q=>?_;obtain⟨F,ρ,r,q⟩:=q;refine⟨F,ρ,r,q.bind.imp (fun _ w=>w) fun p h1 v F' H' g r' rp=>?_⟩;obtain⟨d,hd,h2⟩:=h1.bind.pure fun c=>jay;obtain⟨b,hb,h3⟩:=h2.bind.pure fun c=>jhi;exact⟨b,jnh hK (jaP rp r' hd) hb,h3 F' H' g r'⟩
theorem jni {e:Expr}:PT X e (tT Z X B fun _=>.stk):=fun _ _ _ _ _ _ h=>by
 obtain⟨_,_,_,h⟩:=h;exact False.elim h
theorem jk3 {fa fb:Rho->R (Vl×Rho)}{Q:VK}(h:tE Z X B (fun ρ=>(fa ρ).bind fun p=>(jcc p.1).bind fun t=>if t then (fb p.2).bind fun q=>(jcc q.1).bind fun u=>.ok (.dat (.bl u),q.2)else .ok (.dat (.bl false),p.2)) σ H Q):jmx (tE Z X B fa) (tE Z X B fb) σ H Q:=by
 obtain⟨F,ρ,r,h⟩:=h;refine⟨F,ρ,r,h.bind.imp (fun _ w=>w) fun p h1 v F1 H1 g1 r1 q1=>?_⟩;obtain⟨w,ρ1⟩:=p;cases w with
 |dat d=>
  cases d with
  |bl b=>
   have q1:Rep Z F1 H1 (.bl b) v:=q1;simp only[Rep]at q1;subst q1;refine⟨b,rfl,?_⟩;cases b with
   |true=>
    rw[if_pos rfl];refine⟨F1,ρ1,r1,(show Ok (XW Z X σ ρ H) ((fb ρ1).bind _) _ from h1).bind.imp (fun c w=>w.mono g1) fun q h2 u F2 H2 g2 r2 q2=>?_⟩;obtain⟨w2,ρ2⟩:=q;cases w2 with
    |dat d2=>
     cases d2 with
     |bl c=>exact h2 u F2 H2 (g1.trans g2) r2 q2
     |_=>exact False.elim h2
    |_=>exact False.elim h2
   |false=>
    rw[if_neg (by decide)]
    exact h1 _ F1 H1 g1 r1 (show Rep Z F1 H1 (.bl false) _ by simp only[Rep])
  |_=>exact False.elim h1
 |_=>exact False.elim h1
theorem jnj {fa fb:Rho->R (Vl×Rho)}{Q:VK}(h:tE Z X B (fun ρ=>(fa ρ).bind fun p=>(jcc p.1).bind fun t=>if t then .ok (.dat (.bl true),p.2)else (fb p.2).bind fun q=>(jcc q.1).bind fun u=>.ok (.dat (.bl u),q.2)) σ H Q):jpg (tE Z X B fa) (tE Z X B fb) σ H Q:=by
 obtain⟨F,ρ,r,h⟩:=h;refine⟨F,ρ,r,h.bind.imp (fun _ w=>w) fun p h1 v F1 H1 g1 r1 q1=>?_⟩;obtain⟨w,ρ1⟩:=p;cases w with
 |dat d=>
  cases d with
  |bl b=>
   have q1:Rep Z F1 H1 (.bl b) v:=q1;simp only[Rep]at q1;subst q1;refine⟨b,rfl,?_⟩;cases b with
   |false=>
    rw[if_neg (by decide)]
    refine⟨F1,ρ1,r1,(show Ok (XW Z X σ ρ H) ((fb ρ1).bind _) _ from h1).bind.imp (fun c w=>w.mono g1) fun q h2 u F2 H2 g2 r2 q2=>?_⟩;obtain⟨w2,ρ2⟩:=q;cases w2 with
    |dat d2=>
     cases d2 with
     |bl c=>exact h2 u F2 H2 (g1.trans g2) r2 q2
     |_=>exact False.elim h2
    |_=>exact False.elim h2
   |true=>
    rw[if_pos rfl];exact h1 _ F1 H1 g1 r1 (show Rep Z F1 H1 (.bl true) _ by simp only[Rep])
  |_=>exact False.elim h1
 |_=>exact False.elim h1
theorem jk4 {fa:Rho->R (Vl×Rho)}{Q:VK}(h:tE Z X B (fun ρ=>(fa ρ).bind fun p=>(jcc p.1).bind fun t=>.ok (.dat (.bl (!t)),p.2)) σ H Q):jmy (tE Z X B fa) σ H Q:=by
 obtain⟨F,ρ,r,h⟩:=h;refine⟨F,ρ,r,h.bind.imp (fun _ w=>w) fun p h1 v F1 H1 g1 r1 q1=>?_⟩;obtain⟨w,ρ1⟩:=p;cases w with
 |dat d=>
  cases d with
  |bl b=>
   have q1:Rep Z F1 H1 (.bl b) v:=q1;simp only[Rep]at q1;subst q1;exact⟨b,rfl,h1 _ F1 H1 g1 r1 (show Rep Z F1 H1 (.bl (!b)) _ by simp only[Rep])⟩
  |_=>exact False.elim h1
 |_=>exact False.elim h1
theorem ji0 {fa fb:Rho->R (Bool×Rho)}{Q:Bool->Hp->Prop}(h:tT Z X B (fun ρ=>(fa ρ).bind fun p=>if p.1 then fb p.2 else .ok (false,p.2)) σ H Q):jpe (tT Z X B fa) (tT Z X B fb) σ H Q:=by
 obtain⟨F,ρ,r,h⟩:=h;refine⟨F,ρ,r,h.bind.imp (fun _ w=>w) fun p h1 F1 H1 g1 r1=>?_⟩;obtain⟨b,ρ1⟩:=p;cases b with
 |true=>rw[if_pos rfl]at h1 ⊢;exact⟨F1,ρ1,r1,h1.imp (fun c w=>w.mono g1) fun y h2 F2 H2 g2 r2=>h2 F2 H2 (g1.trans g2) r2⟩
 |false=>rw[if_neg jqK]at h1 ⊢;exact h1 F1 H1 g1 r1
theorem jk5 {fa fb:Rho->R (Bool×Rho)}{Q:Bool->Hp->Prop}(h:tT Z X B (fun ρ=>(fa ρ).bind fun p=>if p.1 then .ok (true,p.2)else fb p.2) σ H Q):tOr (tT Z X B fa) (tT Z X B fb) σ H Q:=by
 obtain⟨F,ρ,r,h⟩:=h;refine⟨F,ρ,r,h.bind.imp (fun _ w=>w) fun p h1 F1 H1 g1 r1=>?_⟩;obtain⟨b,ρ1⟩:=p;cases b with
 |false=>rw[if_neg jqK]at h1 ⊢;exact⟨F1,ρ1,r1,h1.imp (fun c w=>w.mono g1) fun y h2 F2 H2 g2 r2=>h2 F2 H2 (g1.trans g2) r2⟩
 |true=>rw[if_pos rfl]at h1 ⊢;exact h1 F1 H1 g1 r1
theorem ji1 {fa:Rho->R (Bool×Rho)}{Q:Bool->Hp->Prop}(h:tT Z X B (fun ρ=>(fa ρ).bind fun p=>.ok (!p.1,p.2)) σ H Q):jpf (tT Z X B fa) σ H Q:=by
 obtain⟨F,ρ,r,h⟩:=h;exact⟨F,ρ,r,h.bind.imp (fun _ w=>w) fun b h1 F1 H1 g1 r1=>h1 F1 H1 g1 r1⟩
theorem jnk {fc:Rho->R (Bool×Rho)}{fa fb:Rho->R (Vl×Rho)}{Q:VK}(h:tE Z X B (fun ρ=>(fc ρ).bind fun t=>if t.1 then fa t.2 else fb t.2) σ H Q):tIf (tT Z X B fc) (tE Z X B fa) (tE Z X B fb) σ H Q:=by
 obtain⟨F,ρ,r,h⟩:=h;refine⟨F,ρ,r,h.bind.imp (fun _ w=>w) fun p h1 F1 H1 g1 r1=>?_⟩;obtain⟨b,ρ1⟩:=p;cases b with
 |true=>rw[if_pos rfl]at h1 ⊢;exact⟨F1,ρ1,r1,h1.imp (fun c w=>w.mono g1) fun y h2=>Post.ext h2 g1⟩
 |false=>rw[if_neg jqK]at h1 ⊢;exact⟨F1,ρ1,r1,h1.imp (fun c w=>w.mono g1) fun y h2=>Post.ext h2 g1⟩
end
noncomputable def jdH (f:E->E->E):List E->Option E
 |[]=>none
 |[e]=>some e
 |e::es=>(jdH f es).map (f e)
section
variable {G:Calls}{U:Nat->Nat->Bool}{Z:Kn}{X:Cx}{B:Bs}
theorem jhj {vs:List Expr}{es:List E}{E':E}{pos:Pos}(h:Paired (fun e E'=>PE X e (tE Z X B (evE G U E'))/\PT X e (tT Z X B (evT G U E'))) vs es)(hf:jdH .and es=some E') :
  PE X (.BoolOp .And vs pos) (tE Z X B (evE G U E'))/\PW X (.BoolOp .And vs pos) (tT Z X B (evT G U E')):=by
 induction h generalizing E' with
 |nil=>cases hf
 |@cons e E1 vs es h1 hr ih=>
  cases hr with
  |nil=>cases hf;exact⟨jjP h1.1,jkm h1.2⟩
  |@cons e2 E2 vs es h2 hr=>
   simp only[jdH]at hf;cases q:jdH .and (E2::es)with
   |none=>rw[q]at hf;cases hf
   |some E3=>
    have hf':E'=.and E1 E3:=by
     rw[q]at hf;exact(Option.some.inj hf).symm
    subst hf';obtain⟨i1,i2⟩:=ih q;refine⟨PE.imp (jmz h1.1 i1) fun σ H Q z=>jk3 (by simpa only[evE] using z),fun whole pins s σ H Q I z=>jmv h1.2 i2 whole pins s σ H Q I (ji0 (by simpa only[evT] using z))⟩
theorem jj3 {vs:List Expr}{es:List E}{E':E}{pos:Pos}(h:Paired (fun e E'=>PE X e (tE Z X B (evE G U E'))/\PT X e (tT Z X B (evT G U E'))) vs es)(hf:jdH .or es=some E') :
  PE X (.BoolOp .Or vs pos) (tE Z X B (evE G U E'))/\PW X (.BoolOp .Or vs pos) (tT Z X B (evT G U E')):=by
 induction h generalizing E' with
 |nil=>cases hf
 |@cons e E1 vs es h1 hr ih=>
  cases hr with
  |nil=>cases hf;exact⟨jjP h1.1,jmu h1.2⟩
  |@cons e2 E2 vs es h2 hr=>
   simp only[jdH]at hf;cases q:jdH .or (E2::es)with
   |none=>rw[q]at hf;cases hf
   |some E3=>
    have hf':E'=.or E1 E3:=by
     rw[q]at hf;exact(Option.some.inj hf).symm
    subst hf';obtain⟨i1,i2⟩:=ih q;refine⟨PE.imp (joc h1.1 i1) fun σ H Q z=>jnj (by simpa only[evE] using z),fun whole pins s σ H Q I z=>job h1.2 i2 whole pins s σ H Q I (jk5 (by simpa only[evT] using z))⟩
end
end DJ
namespace DJ
open PySem PySem.Spec PyProof.Rows L2
section
variable {Z:Kn}{X:Cx}{B:Bs}{σ:L2.St}{ρ ρ0 ρ1 ρ2:Rho}{F F0 F1 F2:Addr->Prop}{H H0 H1 H2:Hp}{w:Vl}{v:V}
noncomputable def RW (Z:Kn)(F':Addr->Prop)(H0 H':Hp)(σ:L2.St)(ρ':Rho):Vl->V->Prop
 |.dat d,v=>Rep Z F' H' d v
 |.tmp o,v=>∃l,v=.ref l/\¬Ow σ ρ' l/\H0 l=none/\HasO Z F' H' l o
 |.slot i,v=>σ[i]?=some (some v)
theorem RV.weak (h:RV Z F H0 H σ ρ w v):RW Z F H0 H σ ρ w v:=by
 cases w with
 |dat d=>exact h
 |tmp o=>obtain⟨l,a,_,b,c,d⟩:=h;exact⟨l,a,b,c,d⟩
 |slot i=>exact h
theorem RW.go (h:RW Z F1 H0 H1 σ ρ1 w v)(r:SR Z B F1 H1 σ ρ1)(g:Go σ ρ1 F1 H1 σ ρ2 F2 H2):RW Z F2 H0 H2 σ ρ2 w v:=by
 cases w with
 |dat d=>exact Rep.mono (g.keep r) h
 |tmp o=>
  obtain⟨l,e,h2,h3,h4⟩:=h;obtain⟨u,hu⟩:=h4.some;refine⟨l,e,fun z=>?_,h3,h4.mono (g.keep r) ((g.stay l u hu fun m=>h2 m.ow).trans hu.symm)⟩;rcases g.owA z with q | q
  ·exact h2 q
  ·rw[hu]at q;cases q
 |slot i=>exact h
theorem RW.keep (h:RW Z F1 H0 H1 σ ρ1 w v)(k:Keep F1 F2 H1 H1)(hO:∀b,Ow σ ρ2 b->Ow σ ρ1 b):RW Z F2 H0 H1 σ ρ2 w v:=by
 cases w with
 |dat d=>exact Rep.mono k h
 |tmp o=>obtain⟨l,e,h2,h3,h4⟩:=h;exact⟨l,e,fun z=>h2 (hO l z),h3,h4.mono k rfl⟩
 |slot i=>exact h
theorem RW.base (h:RW Z F1 H0 H1 σ ρ1 w v)(k:∀l,H0 l=none->H l=none):RW Z F1 H H1 σ ρ1 w v:=by
 cases w with
 |dat d=>exact h
 |tmp o=>obtain⟨l,e,h2,h3,h4⟩:=h;exact⟨l,e,h2,k l h3,h4⟩
 |slot i=>exact h
noncomputable def Sub (ρ' ρ:Rho):Prop:=∀(i:Nat) o f k,ρ'[i]?=some (.own o f k)->ρ[i]?=some (.own o f k)
theorem Sub.set {i:Nat}{s:Sl}(hs:∀o f k,s≠.own o f k):Sub (ρ.set i s) ρ:=fun j o f k h=>by
 rw[jp9]at h;by_cases e:i=j
 ·rw[if_pos e]at h;split at h
  ·cases h;exact absurd rfl (hs _ _ _)
  ·cases h
 ·rw[if_neg e]at h;exact h
theorem Sub.trans (a:Sub ρ2 ρ1)(b:Sub ρ1 ρ):Sub ρ2 ρ:=fun i o f k h=>b i o f k (a i o f k h)
theorem Sub.ow (a:Sub ρ1 ρ){b:Addr}(h:Ow σ ρ1 b):Ow σ ρ b:=let ⟨i,o,f,k,h1,h2⟩:=h;⟨i,o,f,k,a i o f k h1,h2⟩
theorem jk6 {ρ':Rho}{d:D}(h:RW Z F1 H H1 σ ρ' w v)(sb:Sub ρ1 ρ')(r:SR Z B F1 H1 σ ρ1)(g:Go σ ρ F H σ ρ1 F1 H1)(hd:toD w ρ1=.ok (d,ρ2)) :
  ∃F2,Go σ ρ F H σ ρ2 F2 H1/\SR Z B F2 H1 σ ρ2/\Rep Z F2 H1 d v/\Keep F1 F2 H1 H1/\Sub ρ2 ρ1/\(∀j:Nat,ρ1[j]?=some .no->ρ2[j]?=some .no)/\(∀a,F2 a->F1 a\/¬Ow σ ρ' a\/∃(j:Nat) (o:O),ρ1[j]?=some (.own o false false)/\σ[j]?=some (some (.ref a))):=by
 cases w with
 |dat d'=>cases hd;exact⟨F1,g,r,h,Keep.refl,fun _ _ _ _ h=>h,fun _ h=>h,fun a h1=>.inl h1⟩
 |tmp o=>
  cases hd;obtain⟨l,rfl,h2,h3,h4⟩:=h;obtain⟨a,b⟩:=r.frzT (fun z=>h2 (sb.ow z)) h4;refine⟨_,g.frzT h3,a,b,fun a q=>⟨.inl q,rfl⟩,fun _ _ _ _ h=>h,fun _ h=>h,fun x h5=>?_⟩;rcases h5 with h5 | h5
  ·exact .inl h5
  ·rw[h5];exact .inr (.inl h2)
 |slot i=>
  have h:σ[i]?=some (some v):=h;simp only[toD]at hd;split at hd
  ·rename_i o e;cases hd;obtain⟨l,e1,_⟩:=r.own i o _ _ e;rw[h]at e1;cases e1;obtain⟨a,b,c⟩:=r.frz e h;refine⟨_,g.trans (Go.frz e h),b,c,a,Sub.set (fun _ _ _ z=>by cases z),fun j hj=>?_,fun x h5=>?_⟩
   ·rw[jp9];split
    ·rename_i z;subst z;rw[e]at hj;cases hj
    ·exact hj
   ·rcases h5 with h5 | h5
    ·exact .inl h5
    ·rw[h5];exact .inr (.inr ⟨i,o,e,h⟩)
  ·cases hd
end
inductive tL_I (Z:Kn) (X:Cx) (B:Bs) (f:Rho->R (List D×Rho)) (σ:L2.St) (H:L2.Hp) (Q:(List L2.V->L2.Hp->Prop)):Prop
 |mk (F:_) (ρ:_):(SR Z B F H σ ρ)->(Ok (XW Z X σ ρ H) (f ρ) fun p=>∀vs F' H',Go σ ρ F H σ p.2 F' H'->SR Z B F' H' σ p.2->Reps Z F' H' p.1 vs->Q vs H')->tL_I Z X B f σ H Q
noncomputable def tL (Z:Kn)(X:Cx)(B:Bs)(f:Rho->R (List D×Rho)):TA:=fun σ H Q=>tL_I Z X B f σ H Q
noncomputable def RWs (Z:Kn)(F':Addr->Prop)(H0 H':Hp)(σ:L2.St)(ρ':Rho):List Vl->List V->Prop:=Paired (RW Z F' H0 H' σ ρ')
inductive tAs_I (Z:Kn) (X:Cx) (B:Bs) (f:Rho->R (List Vl×Rho)) (σ:L2.St) (H:L2.Hp) (Q:(List L2.V->L2.Hp->Prop)):Prop
 |mk (F:_) (ρ:_):(SR Z B F H σ ρ)->(Ok (XW Z X σ ρ H) (f ρ) fun p=>∀vs F' H',Go σ ρ F H σ p.2 F' H'->SR Z B F' H' σ p.2->RWs Z F' H H' σ p.2 p.1 vs->Q vs H')->tAs_I Z X B f σ H Q
noncomputable def tAs (Z:Kn)(X:Cx)(B:Bs)(f:Rho->R (List Vl×Rho)):TA:=fun σ H Q=>tAs_I Z X B f σ H Q
section
variable {Z:Kn}{X:Cx}{B:Bs}{G:Calls}{U:Nat->Nat->Bool}
theorem jhk {es:List Expr}{Es':List E}(hp:Paired (fun e E'=>PE X e (tE Z X B (evE G U E'))/\∀a p,e≠.Starred a p) es Es'):PA X es (tL Z X B (evEs G U (jfa Es'))):=by
 induction hp with
 |nil=>
  intro pos pins s σ H Q I h;obtain⟨F,ρ,r,h⟩:=h;exact jbl pos pins s σ H Q I (h [] F H Go.refl r .nil)
 |cons h1 h2 ih=>
  intro pos pins s σ H Q I h;refine jaL h1.1 ih (jae h1.2) pos pins s σ H Q I ?_;obtain⟨F,ρ,r,h⟩:=h;simp only[jfa,evEs]at h;refine⟨F,ρ,r,h.bind.imp (fun _ w=>w) fun p h1 v F1 H1 g1 r1 q1=>?_⟩;obtain⟨q,hq,h2⟩:=h1.bind.pure fun c=>jc5;obtain⟨F2,g2,r2,rp,_⟩:=je3 q1 r1 g1 hq;refine⟨F2,q.2,r2,h2.bind.imp (fun c w=>w.mono g2) fun s3 h3 vs F3 H3 g3 r3 q3=>?_⟩;exact h3 (v::vs) F3 H3 (g2.trans g3) r3 (.cons (rp.mono (g3.keep r2)) q3)
theorem RWs.base {σ:L2.St}{ρ1:Rho}{F1:Addr->Prop}{H H0 H1:Hp}{ws:List Vl}{vs:List V}(h:RWs Z F1 H0 H1 σ ρ1 ws vs)(k:∀l,H0 l=none->H l=none):RWs Z F1 H H1 σ ρ1 ws vs:=Paired.mapP h fun _ _ x=>x.base k
theorem RWs.keep {σ:L2.St}{ρ1:Rho}{F1 F2:Addr->Prop}{H0 H1:Hp}{ws:List Vl}{vs:List V}(h:RWs Z F1 H0 H1 σ ρ1 ws vs)(k:Keep F1 F2 H1 H1):RWs Z F2 H0 H1 σ ρ1 ws vs:=Paired.mapP h fun _ _ x=>x.keep k fun _ z=>z
theorem jk7 {es:List Expr}{Es':List E}(hp:Paired (fun e E'=>PE X e (tE Z X B (evE G U E'))/\∀a p,e≠.Starred a p) es Es'):PA X es (tAs Z X B (evAs G U (jfa Es'))):=by
 induction hp with
 |nil=>
  intro pos pins s σ H Q I h;obtain⟨F,ρ,r,h⟩:=h;exact jbl pos pins s σ H Q I (h [] F H Go.refl r .nil)
 |cons h1 h2 ih=>
  intro pos pins s σ H Q I h;refine jaL h1.1 ih (jae h1.2) pos pins s σ H Q I ?_;obtain⟨F,ρ,r,h⟩:=h;simp only[jfa,evAs]at h;refine⟨F,ρ,r,h.bind.imp (fun _ w=>w) fun p h1 v F1 H1 g1 r1 q1=>⟨F1,p.2,r1,h1.bind.imp (fun c w=>w.mono g1) fun s3 h3 vs F3 H3 g3 r3 q3=>?_⟩⟩;exact h3 (v::vs) F3 H3 (g1.trans g3) r3 (.cons (q1.weak.go r1 g3) (q3.base fun l z=>g1.free z))
end
section
variable {Z:Kn}{B:Bs}{σ:L2.St}{ρ ρ0 ρ1 ρ2:Rho}{F F0 F1 F2:Addr->Prop}{H H0:Hp}
inductive PassR (Z:Kn) (F2:Addr->Prop) (H:Hp) (σ:L2.St) (ρ ρ2:Rho):Sl->Option (Nat×Bool×Bool)->V->Prop where
 |dat {d:D}{v:V}:Rep Z F2 H d v->PassR Z F2 H σ ρ ρ2 (.dat d) none v
 |own {o:O}{i:Nat}{f k:Bool}{l:Addr}:σ[i]?=some (some (.ref l))->ρ[i]?=some (.own o f k)->ρ2[i]?=some .no->¬F2 l->HasO Z F2 H l o->PassR Z F2 H σ ρ ρ2 (.own o true k) (some (i,f,k)) (.ref l)
noncomputable def lentIx:List (Option (Nat×Bool×Bool))->List Nat
 |[]=>[]
 |some (i,_,_)::r=>i::lentIx r
 |none::r=>lentIx r
inductive PassRs (Z:Kn) (F2:Addr->Prop) (H:Hp) (σ:L2.St) (ρ ρ2:Rho):List Sl->List (Option (Nat×Bool×Bool))->List V->Prop where
 |nil:PassRs Z F2 H σ ρ ρ2 [] [] []
 |cons {s:Sl}{b:Option (Nat×Bool×Bool)}{v:V}{ss:List Sl}{bs:List (Option (Nat×Bool×Bool))}{vs:List V}:PassR Z F2 H σ ρ ρ2 s b v->PassRs Z F2 H σ ρ ρ2 ss bs vs->PassRs Z F2 H σ ρ ρ2 (s::ss) (b::bs) (v::vs)
theorem jhl {l:Bool}{w:Vl}{c:Nat}:jcw l w ρ≠.err c:=by
 intro h;unfold jcw at h;split at h
 ·split at h <;> cases h
 ·cases q:toD w ρ with
  |ok p=>rw[q]at h;cases h
  |err c=>exact absurd q jc5
  |stk=>rw[q]at h;cases h
theorem jci:∀{fl:List Bool}{ws:List Vl}{ρ:Rho}{c:Nat},jar fl ws ρ≠.err c
 |_,[],_,_=>by simp[jar]
 |fl,w::ws,ρ,c=>by
  intro h;simp only[jar]at h;cases q:jcw (fl.headD false) w ρ with
  |ok p=>
   rw[q,R.bind_ok']at h;cases q2:jar fl.tail ws p.2.2 with
   |ok r=>rw[q2]at h;cases h
   |err c=>exact jci q2
   |stk=>rw[q2]at h;cases h
  |err c=>exact jhl q
  |stk=>rw[q]at h;cases h
inductive PassO (Z:Kn) (B:Bs) (F0:Addr->Prop) (H0 H:Hp) (σ:L2.St) (ρ ρ0 ρ1 ρ2:Rho) (F1:Addr->Prop) (sls:List Sl) (back:List (Option (Nat×Bool×Bool))) (vs:List V):Prop
 |mk (F2:Addr->Prop):(Go σ ρ0 F0 H0 σ ρ2 F2 H)->(SR Z B F2 H σ ρ2)->(Keep F1 F2 H H)->(Sub ρ2 ρ)->(PassRs Z F2 H σ ρ ρ2 sls back vs)->((lentIx back).Nodup)->((∀i∈lentIx back,∃o f k,ρ1[i]?=some (.own o f k)))->((∀i:Nat,ρ1[i]?=some .no->ρ2[i]?=some .no))->((∀l,(∃(i:Nat) (o:O) (f kk:Bool),ρ[i]?=some (Sl.own o f kk)/\σ[i]?=some (some (V.ref l))/\ρ1[i]?=some Sl.no)->¬F1 l->¬F2 l))->PassO Z B F0 H0 H σ ρ ρ0 ρ1 ρ2 F1 sls back vs
theorem jep:∀{fl:List Bool}{ws:List Vl}{vs:List V}{ρ1 ρ2:Rho}{F1:Addr->Prop}{sls:List Sl}{back:List (Option (Nat×Bool×Bool))},RWs Z F1 H0 H σ ρ ws vs->SR Z B F1 H σ ρ1->Go σ ρ0 F0 H0 σ ρ1 F1 H->SR Z B F H σ ρ->Keep F F1 H H->Sub ρ1 ρ ->
  jar fl ws ρ1=.ok (sls,back,ρ2) ->
  PassO Z B F0 H0 H σ ρ ρ0 ρ1 ρ2 F1 sls back vs
 |fl,[],vs,ρ1,ρ2,F1,sls,back,rw',r1,g1,r,kp,sb,h=>by
  cases rw';simp only[jar]at h;cases h;exact⟨F1,g1,r1,Keep.refl,sb,.nil,List.nodup_nil,fun _ h=>absurd h (by simp[lentIx]),fun _ h=>h,fun _ _ h=>h⟩
 |fl,w::ws,vs,ρ1,ρ2,F1,sls,back,rw',r1,g1,r,kp,sb,h=>by
  cases rw' with
  |@cons _ v _ vs' q1 q2=>
  simp only[jar]at h;obtain⟨p,hp,h⟩:=R.bind_ok h;obtain⟨q,hq,h⟩:=R.bind_ok h;cases h;unfold jcw at hp;split at hp
  ·
   rename_i i hfl;split at hp
   ·rename_i o f k e;cases hp;have q1:σ[i]?=some (some v):=q1;obtain⟨l,e1,e2,e3,e4⟩:=r1.own i o f k e;rw[q1]at e1;cases e1;have hi:i < ρ1.length:=(List.getElem?_eq_some_iff.mp e).1;have le:Le (ρ1.set i .no) ρ1:=Le.no;have rA:SR Z B F1 H σ (ρ1.set i .no):=r1.weak le;have gA:Go σ ρ0 F0 H0 σ (ρ1.set i .no) F1 H:=g1.trans (Go.weak le);have sbA:Sub (ρ1.set i .no) ρ1:=Sub.set (fun _ _ _ z=>by cases z)
    obtain⟨F2,g2,r2,k2,s2,p2,n2,i2,no2,f2⟩:=jep q2 rA gA r kp (sbA.trans sb) hq;have ei:=sb i o f k e;have noI:(ρ1.set i .no)[i]?=some .no:=List.getElem?_set_self hi;refine⟨F2,g2,r2,k2,s2,.cons (.own q1 ei (no2 i noI) (f2 l ⟨i,o,f,k,ei,q1,noI⟩ e2) (e3.mono k2 rfl)) p2,?_,?_,?_,?_⟩
    ·simp only[lentIx];refine List.nodup_cons.mpr ⟨fun z=>?_,n2⟩;obtain⟨o',f',k',e'⟩:=i2 i z;rw[noI]at e';cases e'
    ·intro j hj;simp only[lentIx]at hj;rcases List.mem_cons.mp hj with rfl | hj
     ·exact⟨o,f,k,e⟩
     ·obtain⟨o',f',k',e'⟩:=i2 j hj;exact⟨o',f',k',sbA j o' f' k' e'⟩
    ·intro j hj;refine no2 j ?_;rw[jp9];split
     ·rename_i z;subst z;exact absurd (e.symm.trans hj) (by simp)
     ·exact hj
    ·rintro l' ⟨j,o',f',kk',a1,a2,a3⟩ hn;refine f2 l' ⟨j,o',f',kk',a1,a2,?_⟩ hn;rw[jp9];split
     ·rename_i z;subst z;exact absurd (e.symm.trans a3) (by simp)
     ·exact a3
   ·cases hp
  ·
   obtain⟨t,ht,hp⟩:=R.bind_ok hp;cases hp;obtain⟨FA,gA,rA,rp,kA,sA,noA,nA⟩:=jk6 q1 sb r1 g1 ht;have q2A:RWs Z FA H0 H σ ρ ws vs':=RWs.keep q2 kA;have fA:∀l,(∃(i:Nat) (o:O) (f kk:Bool),ρ[i]?=some (Sl.own o f kk)/\σ[i]?=some (some (V.ref l))/\ρ1[i]?=some Sl.no)->¬F1 l->¬FA l:=fun l hx hn z=>by
    obtain⟨i,o,f,kk,a1,a2,a3⟩:=hx;rcases nA l z with z | z | ⟨j,oj,z1,z2⟩
    ·exact hn z
    ·exact z ⟨i,o,f,kk,a1,a2⟩
    ·refine r.one i j _ _ _ _ _ _ l (fun e=>?_) a1 (sb j oj _ _ z1) a2 z2;subst e;rw[a3]at z1;cases z1
   obtain⟨F2,g2,r2,k2,s2,p2,n2,i2,no2,f2⟩:=jep q2A rA gA r (kp.trans kA) (sA.trans sb) hq;refine⟨F2,g2,r2,kA.trans k2,s2,.cons (.dat (rp.mono k2)) p2,?_,?_,fun j hj=>no2 j (noA j hj),?_⟩
   ·simp only[lentIx];exact n2
   ·intro j hj;simp only[lentIx]at hj;obtain⟨o',f',k',e'⟩:=i2 j hj;exact⟨o',f',k',sA j o' f' k' e'⟩
   ·rintro l ⟨i,o,f,kk,a1,a2,a3⟩ hn;exact f2 l ⟨i,o,f,kk,a1,a2,noA i a3⟩ (fA l ⟨i,o,f,kk,a1,a2,a3⟩ hn)
theorem PassRs.len {sls:List Sl}{back:List (Option (Nat×Bool×Bool))}{vs:List V}(h:PassRs Z F2 H σ ρ ρ2 sls back vs):sls.length=vs.length/\back.length=vs.length:=by
 induction h with
 |nil=>exact⟨rfl,rfl⟩
 |cons _ _ ih=>simp[ih.1,ih.2]
theorem PassRs.get {sls:List Sl}{back:List (Option (Nat×Bool×Bool))}{vs:List V}(h:PassRs Z F2 H σ ρ ρ2 sls back vs):∀{k:Nat}{s:Sl},sls[k]?=some s->∃b v,back[k]?=some b/\vs[k]?=some v/\PassR Z F2 H σ ρ ρ2 s b v:=by
 induction h with
 |nil=>intro k s e;simp at e
 |@cons s0 b0 v0 ss bs vs h1 _ ih=>
  intro k s e;cases k with
  |zero=>simp at e;subst e;exact⟨b0,v0,rfl,rfl,h1⟩
  |succ k=>simp at e;simpa using ih e
theorem jbu:∀{back:List (Option (Nat×Bool×Bool))}{k i:Nat}{f g:Bool},back[k]?=some (some (i,f,g))->i∈lentIx back
 |[],k,i,f,g,h=>by simp at h
 |none::r,0,i,f,g,h=>by simp at h
 |none::r,k + 1,i,f,g,h=>by simp at h;simp only[lentIx];exact jbu h
 |some (j,a,b)::r,0,i,f,g,h=>by
  simp at h;simp[lentIx,h.1]
 |some (j,a,b)::r,k + 1,i,f,g,h=>by simp at h;simp only[lentIx];exact jp6 _ (jbu h)
theorem jfI {back:List (Option (Nat×Bool×Bool))}{k k' i:Nat}{f g f' g':Bool}(n:(lentIx back).Nodup)(h:back[k]?=some (some (i,f,g)))(h':back[k']?=some (some (i,f',g'))):k=k':=by
 induction back generalizing k k' with
 |nil=>cases h
 |cons x r ih=>
  cases x with
  |none=>
   cases k with
   |zero=>cases h
   |succ k=>
    cases k' with
    |zero=>cases h'
    |succ k'=>rw[ih n h h']
  |some x=>
   have n:=List.nodup_cons.mp n;cases k with
   |zero=>
    cases k' with
    |zero=>rfl
    |succ k'=>cases h;exact absurd (jbu (back:=r) h') n.1
   |succ k=>
    cases k' with
    |zero=>cases h';exact absurd (jbu (back:=r) h) n.1
    |succ k'=>rw[ih n.2 h h']
theorem jcj:∀{back:List (Option (Nat×Bool×Bool))}{fin:List Sl}{ρ:Rho},(jaF back fin ρ).length=ρ.length
 |[],fin,ρ=>by simp[jaF]
 |_::_,[],ρ=>by simp[jaF]
 |none::r,s::fs,ρ=>by simp only[jaF];exact jcj
 |some (i,f,k)::r,s::fs,ρ=>by
  simp only[jaF];rw[jcj];split <;> simp
theorem jbs:∀{back:List (Option (Nat×Bool×Bool))}{fin:List Sl}{ρ:Rho}{i:Nat}{s:Sl},(jaF back fin ρ)[i]?=some s->ρ[i]?=some s\/∃(k:Nat) (o:O) (f k' f0 k0:Bool),back[k]?=some (some (i,f0,k0))/\fin[k]?=some (.own o f k')/\s=.own o f0 k0
 |[],fin,ρ,i,s,h=>by simp[jaF]at h;exact .inl h
 |_::_,[],ρ,i,s,h=>by simp[jaF]at h;exact .inl h
 |none::r,s0::fs,ρ,i,s,h=>by
  simp only[jaF]at h;rcases jbs h with h | ⟨k,o,f,k',f0,k0,h1,h2,h3⟩
  ·exact .inl h
  ·exact .inr ⟨k + 1,o,f,k',f0,k0,by simpa using h1,by simpa using h2,h3⟩
 |some (j,f,g)::r,s0::fs,ρ,i,s,h=>by
  simp only[jaF]at h;rcases jbs h with hx | ⟨k,o,f,k',f0,k0,h1,h2,h3⟩
  ·clear h;cases s0 with
   |own o f1 k1=>
    simp only at hx;rw[jp9]at hx;split at hx
    ·rename_i e;subst e;split at hx
     ·cases hx;exact .inr ⟨0,o,f1,k1,f,g,rfl,rfl,rfl⟩
     ·cases hx
    ·exact .inl hx
   |no=>exact .inl hx
   |dat d=>exact .inl hx
  ·exact .inr ⟨k + 1,o,f,k',f0,k0,by simpa using h1,by simpa using h2,h3⟩
noncomputable def jck (H:Hp)(sls:List Sl)(vs:List V):Bs:=⟨H,fun k=>match sls[k]?,vs[k]? with
 |some (.own _ _ _),some (.ref l)=>some l
 |_,_=>none⟩
theorem jeq {sls:List Sl}{vs:List V}(k:Nat)(l:Addr)(h:(jck H sls vs).lent k=some l):(vs.map some)[k]?=some (some (.ref l)):=by
 unfold jck at h;simp only at h;split at h
 ·rename_i h1 h2;cases h;rw[jqa,h2];rfl
 ·cases h
theorem PassRs.own {sls:List Sl}{back:List (Option (Nat×Bool×Bool))}{vs:List V}(h:PassRs Z F2 H σ ρ ρ2 sls back vs){k:Nat}{o:O}{f g:Bool}(e:sls[k]?=some (.own o f g)) :
  ∃(i:Nat) (f0:Bool) (l:Addr),back[k]?=some (some (i,f0,g))/\vs[k]?=some (.ref l)/\f=true/\σ[i]?=some (some (.ref l))/\ρ[i]?=some (.own o f0 g)/\ρ2[i]?=some .no/\¬F2 l/\HasO Z F2 H l o:=by
 obtain⟨b,v,h1,h2,h3⟩:=h.get e;cases h3 with
 |own a1 a2 a3 a4 a5=>exact⟨_,_,_,h1,h2,rfl,a1,a2,a3,a4,a5⟩
theorem PassRs.backOf {sls:List Sl}{back:List (Option (Nat×Bool×Bool))}{vs:List V}(h:PassRs Z F2 H σ ρ ρ2 sls back vs){k i:Nat}{f0 k0:Bool}(e:back[k]?=some (some (i,f0,k0))) :
  ∃(o:O) (l:Addr),sls[k]?=some (.own o true k0)/\vs[k]?=some (.ref l)/\σ[i]?=some (some (.ref l))/\ρ[i]?=some (.own o f0 k0)/\ρ2[i]?=some .no:=by
 have hl:k < sls.length:=by
  rw[h.len.1,<-h.len.2];exact(List.getElem?_eq_some_iff.mp e).1
 obtain⟨b,v,h1,h2,h3⟩:=h.get (jp5 hl);rw[e]at h1;cases h1;have es:=jp5 hl;generalize sls[k]=s at h3 es;cases h3 with
 |own a1 a2 a3 a4 a5=>exact⟨_,_,es,h2,a1,a2,a3⟩
theorem jk8 {sls:List Sl}{back:List (Option (Nat×Bool×Bool))}{vs:List V}(r:SR Z B F H σ ρ)(r2:SR Z B F2 H σ ρ2)(h:PassRs Z F2 H σ ρ ρ2 sls back vs)(hn:(lentIx back).Nodup):SR Z (jck H sls vs) F2 H (vs.map some) sls where
 dom:=r2.dom
 len:=by simp[h.len.1]
 dat i d e:=by
  obtain⟨b,v,h1,h2,h3⟩:=h.get e;cases h3 with
  |dat q=>exact⟨v,by rw[jqa,h2];rfl,q⟩
 own i o f k e:=by
  obtain⟨j,f0,l,h1,h2,h3,h4,h5,h6,h7,h8⟩:=h.own e;refine⟨l,by rw[jqa,h2];rfl,h7,h8,fun _=>?_,fun z=>?_⟩
  ·simp only[jck,e,h2]
  ·rw[h3]at z;cases z
 one i j o o' f k f' k' l ne e e' q q':=by
  obtain⟨a,f0,l1,h1,h2,h3,h4,h5,h6,h7,h8⟩:=h.own e;obtain⟨a',f0',l1',h1',h2',h3',h4',h5',h6',h7',h8'⟩:=h.own e';rw[jqa,h2]at q;rw[jqa,h2']at q';cases q;cases q';refine r.one a a' _ _ _ _ _ _ l (fun z=>ne ?_) h5 h5' h4 h4';subst z;exact jfI hn h1 h1'
 base b z:=z
theorem ji2 {sls:List Sl}{back:List (Option (Nat×Bool×Bool))}{vs:List V}{H':Hp}(h:PassRs Z F2 H σ ρ ρ2 sls back vs)(st:Stl (vs.map some) sls H H'):Stl σ ρ H H':=
 ⟨fun b o e n=>st.stay b o e fun ⟨k,o',f,e1,e2⟩=>n (by
  obtain⟨i,f0,l,h1,h2,h3,h4,h5,_⟩:=h.own e1;rw[jqa,h2]at e2;cases e2;exact⟨i,o',f0,h5,h4⟩),st.there⟩
theorem jk9 {sls fin:List Sl}{back:List (Option (Nat×Bool×Bool))}{vs:List V}{F':Addr->Prop}{H':Hp}(g:Go σ ρ0 F0 H0 σ ρ F H)(r:SR Z B F H σ ρ)(gp:Go σ ρ0 F0 H0 σ ρ2 F2 H)(r2:SR Z B F2 H σ ρ2)(sb:Sub ρ2 ρ)(h:PassRs Z F2 H σ ρ ρ2 sls back vs)
  (gc:Go (vs.map some) sls F2 H (vs.map some) fin F' H') (rc:SR Z (jck H sls vs) F' H' (vs.map some) fin) (rs:SR Z (jck H sls vs) F2 H (vs.map some) sls) :
  Go σ ρ0 F0 H0 σ (jaF back fin ρ2) F' H'/\SR Z B F' H' σ (jaF back fin ρ2)/\∀w v,(∀i,w≠.slot i)->RV Z F' H H' (vs.map some) fin w v->RV Z F' H0 H' σ (jaF back fin ρ2) w v:=by
 have own3:∀(i:Nat) (o:O) (f k:Bool),(jaF back fin ρ2)[i]?=some (.own o f k)->∃o0,ρ[i]?=some (.own o0 f k):=fun i o f k e=>by
  rcases jbs e with e | ⟨m,o1,f1,k1,f0,k0,h1,h2,h3⟩
  ·exact⟨o,sb i o f k e⟩
  ·cases h3;obtain⟨o2,l,_,_,_,h7,_⟩:=h.backOf h1;exact⟨o2,h7⟩
 have mbC:∀b,Mb (vs.map some) sls b->Mb σ ρ b:=fun b ⟨k,o,f,e1,e2⟩=>by
  obtain⟨i,f0,l,h1,h2,h3,h4,h5,_⟩:=h.own e1;rw[jqa,h2]at e2;cases e2;exact⟨i,o,f0,h5,h4⟩
 have owC:∀b,Ow (vs.map some) sls b->∃(i:Nat) (o:O) (f k:Bool),ρ[i]?=some (.own o f k)/\σ[i]?=some (some (.ref b))/\ρ2[i]?=some .no:=fun b ⟨k,o,f,k',e1,e2⟩=>by
  obtain⟨i,f0,l,h1,h2,h3,h4,h5,h6,_⟩:=h.own e1;rw[jqa,h2]at e2;cases e2;exact⟨i,o,f0,k',h5,h4,h6⟩
 have kp:=gc.keep rs;refine⟨⟨fun b o e n=>?_,fun a q=>gc.sub a (gp.sub a q),fun a q=>?_,fun j o f k b e1 e2=>?_,fun b o e=>?_⟩,⟨rc.dom,?_,fun i d e=>?_,fun i o f k e=>?_,fun i j o o' f k f' k' l ne e e' q=>?_,fun b z=>?_⟩,fun w v hw q=>?_⟩
 ·refine gc.stay b o (g.stay b o e n) fun z=>?_;rcases g.mb (mbC b z)with q | q
  ·exact n q
  ·rw[e]at q;cases q
 ·rcases gc.new a q with q | q | q
  ·exact gp.new a q
  ·exact .inr (.inl (g.free q))
  ·rcases g.mb (mbC a q)with q | q
   ·exact .inr (.inr q)
   ·exact .inr (.inl q)
 ·obtain⟨o0,e0⟩:=own3 j o f k e1;exact g.ow j o0 f k b e0 e2
 ·obtain⟨o1,e1⟩:=g.there b o e;exact gc.there b o1 e1
 ·rw[jcj];exact r2.len
 ·rcases jbs e with e | ⟨m,o1,f1,k1,f0,k0,h1,h2,h3⟩
  ·obtain⟨v,e1,e2⟩:=r2.dat i d e;exact⟨v,e1,e2.mono kp⟩
  ·cases h3
 ·rcases jbs e with e | ⟨m,o1,f1,k1,f0,k0,h1,h2,h3⟩
  ·obtain⟨l,e1,e2,e3,e4⟩:=r2.own i o f k e;have no:¬Ow (vs.map some) sls l:=fun z=>by
    obtain⟨j,o',f',k',q1,q2,q3⟩:=owC l z;refine r.one i j _ _ _ _ _ _ l (fun e'=>?_) (sb i o f k e) q1 e1 q2;subst e';rw[e]at q3;cases q3
   obtain⟨u,hu⟩:=e3.some;obtain⟨a,b,_⟩:=gc.side hu e2 no;exact⟨l,e1,b,e3.mono kp (a.trans hu.symm),e4⟩
  ·cases h3;obtain⟨o2,l,h4,h5,h6,h7,_⟩:=h.backOf h1;obtain⟨l',q1,q2,q3,q4⟩:=rc.own m _ _ _ h2;rw[jqa,h5]at q1;cases q1;obtain⟨l2,z1,_,_,z4⟩:=r.own i o2 _ _ h7;rw[h6]at z1;cases z1;exact⟨l,h6,q2,q3,z4⟩
 ·obtain⟨o1,e1⟩:=own3 i o f k e;obtain⟨o2,e2⟩:=own3 j o' f' k' e';exact r.one i j _ _ _ _ _ _ l ne e1 e2 q
 ·exact r.base b (gc.free z)
 ·cases w with
  |dat d=>exact q
  |tmp o=>
   obtain⟨l,e,h1,h2,h3,h4⟩:=q;refine⟨l,e,h1,fun z=>?_,g.free h3,h4⟩;obtain⟨j,o',f',k',z1,z2⟩:=z;obtain⟨o0,z0⟩:=own3 j o' f' k' z1;obtain⟨u,hu⟩:=r.there ⟨j,o0,f',k',z0,z2⟩;rw[h3]at hu;cases hu
  |slot i=>exact absurd rfl (hw i)
end
end DJ
namespace DJ
open PySem PySem.Spec PyProof.Rows L2
noncomputable def EX (X:Cx)(σ:L2.St):XK:=fun cls _ H'=>∀(pins:List (Addr×Obj)) (s':Shared) (ea:Addr),Inv X pins σ H' s'->FlyC X pins ea cls H' s'->X.xe (.ref ea) s'
theorem jnl {X:Cx}{pins:List (Addr×Obj)}{σ:L2.St}{H:Hp}{s s':Shared}{e:Value}{E:XK}(I:Inv X pins σ H s)(h:CXD X.prog X.w X.stack H s E e s'):∃ea cls H',e=.ref ea/\Inv X pins σ H' s'/\FlyC X pins ea cls H' s'/\E cls none H':=by
 obtain⟨ea,cls,a0,H',B,rfl,os,bare,un,hok,fl,hB,hB2,hn,q⟩:=h;refine⟨ea,cls,H',rfl,I.call' os un hok bare fun b z=>absurd z (by simp),⟨⟨a0,B,fl,fun b o e n nx=>?_,fun x c hf hc=>?_,fun p hp=>?_,hB2⟩,hn⟩,q⟩
 ·obtain⟨o',e'⟩:=I.base.there b o e nx;exact hB b o' e' n
 ·obtain⟨v,o,ho,hd⟩:=I.cell x c hc;refine hB c o ho fun z=>?_;rcases List.mem_cons.mp (I.stkSub c z)with z | z
  ·exact I.cne x c hc z
  ·have h1:=I.ok.cab x c hf hc;obtain⟨_,o',h2,_⟩:=I.ok.funs.mem z;exact absurd (jqz h2) (Nat.not_lt.mpr h1)
 ·obtain⟨h1,h2,h3,h4,_⟩:=I.pin p hp;refine hB p.1 p.2 h1 fun z=>?_;rcases List.mem_cons.mp (I.stkSub p.1 z)with z | z
  ·exact h3 z
  ·exact h4 z
noncomputable def jhm (X:Cx)(sp:Sp)(t:TA):TE:=fun σ H Q=>t σ H fun vs H1=>sp vs H1 Q (EX X σ)
section
variable {X:Cx}{k:Nat}{f:Addr}{fd:FuncData}{ps:List Str}{sp:Sp}{x:Str}{p pos:Pos}{e:Expr}{es:List Expr}{t:TA}
theorem jhn {pins:List (Addr×Obj)}{σ:L2.St}{H:Hp}{s:Shared}{Q:VK}{us:List Value}{vs:List V}(F:FnOk X.prog X.w X.K X.mg X.base (CXD X.prog X.w) k f fd ps sp)(hr:Room k X.A)(hb:Binds X.K fd ps [])
  (I:Inv X pins σ H s) (r:Vals vs us) (h:sp vs H Q (EX X σ)):wpAny (model X.prog X.w) X.A (call (.ref f) us) (EP X pins σ Q) X.xe s:=by
 have hl:(us++[]).length=ps.length:=by rw[jqr,<-r.length];exact F.len _ _ _ _ h
 have hbt:=hb s us I.kIn hl;rw[jqr]at hbt;refine wpAny_call (codeAny_mono (F.run X.A X.stack s H ⟨us,[]⟩ us vs Q (EX X σ) hr I.env0 hbt r h) fun r s' hq=>?_);cases r with
 |error e=>
  obtain⟨ea,cls,H',rfl,I',fl,q⟩:=jnl I hq;exact q pins s' ea I' fl
 |ok fl=>
  cases fl with
  |ret u=>exact I.after hq
  |next=>exact False.elim hq
  |brk=>exact False.elim hq
  |cont=>exact False.elim hq
theorem ji3 (F:FnOk X.prog X.w X.K X.mg X.base (CXD X.prog X.w) k f fd ps sp)(hr:Room k X.A)(hg:Gl X x)(hm:X.mg x=some (.ref f))(hk:PySem.W.keepIn X.K (.ref f)=true)(hb:Binds X.K fd ps [])
  (ha:PA X (e::es) t) (hdb:(x == ("__debug__":Str))=false) (he:starEach (e::es) X.env=(false,eval e X.env)::starEach es X.env) (hpl:(backTo pos (starEach es X.env)).any (·.1)=false) :
  PE X (.Call (.Name x p) (e::es) [] pos) (jhm X sp t):=by
 intro pins s σ H Q I h;refine wpAny_Call_Name_kw (jcY I hg hm ?_ hdb);refine PySem.W.callWith_K (h₀:=X.base) I.ok.mod.kin hk (thn (ha pos pins s σ H _ I h) fun us s1 ⟨vs,H1,I1,r,q⟩=>⟨I1.kIn,?_⟩) he hpl;exact jhn F hr hb I1 r q
theorem jho (F:FnOk X.prog X.w X.K X.mg X.base (CXD X.prog X.w) k f fd ps sp)(hr:Room k X.A)(hg:Gl X x)(hm:X.mg x=some (.ref f))(hk:PySem.W.keepIn X.K (.ref f)=true)(hb:Binds X.K fd ps [])
  (hdb:(x == ("__debug__":Str))=false):PE X (.Call (.Name x p) [] [] pos) (jhm X sp jmf):=by
 intro pins s σ H Q I h;refine wpAny_Call_Name_kw (jcY I hg hm ?_ hdb);exact PySem.W.callWith_K0 I.kIn hk (jhn (us:=[]) F hr hb I .nil h)
end
section
variable {T:Tab}{G:Calls}{U:Nat->Nat->Bool}{Z:Kn}{m:Nat}{X:Cx}{sc:List (Str×NameKind)}{B:Bs}
theorem ji4 (D:XD T G U Z m X sc)(hq:T.quiet=false){f:Str}{k:Nat}{fl:List Bool}{p pos:Pos}{args:List Expr}{es:List E}(hf:knd sc f=2)(hb:jcS f=false)(hk:jcR T.defs f=some k)
  (h:Paired (fun e E'=>PE X e (tE Z X B (evE G U E'))/\∀a p,e≠.Starred a p) args es):PE X (.Call (.Name f p) args [] pos) (tE Z X B (evE G U (.call k fl (jfa es)))):=by
 obtain⟨fa,fd,ps,hm,hkp,hbd,hF⟩:=D.defs k f (jaC hk);have key:∀σ H Q,tE Z X B (evE G U (.call k fl (jfa es))) σ H Q->jhm X (spD Z G k) (tAs Z X B (evAs G U (jfa es))) σ H Q:=by
  intro σ H Q hz1;obtain⟨F,ρ,r,q⟩:=hz1;simp only[evE]at q;refine⟨F,ρ,r,q.bind.imp (fun _ w=>w) fun p1 h1 vs F1 H1 g1 r1 w1=>?_⟩;obtain⟨pp,hp,h2⟩:=h1.bind.pure fun c=>jci;obtain⟨sls,back,ρ2⟩:=pp;obtain⟨F2,g2,r2,k2,s2,p2,n2,_,_,_⟩:=jep w1 r1 g1 r1 Keep.refl (fun _ _ _ _ h=>h) hp;have rs:=jk8 r1 r2 p2 n2;refine⟨jck H1 sls vs,F2,sls,rs,rfl,jeq,h2.bind.imp (fun c w C H' hC hH pins s' ea I' fly=>?_) fun rr h3 v F' H' hns gc rc rv=>?_⟩
  ·exact w pins H' s' ea C hC I' (Stl.go g1 (ji2 p2 hH)) fly
  ·obtain⟨a,b,c⟩:=jk9 g1 r1 g2 r2 s2 p2 gc rc rs;exact h3 v F' H' a b (c _ _ hns rv)
 have hns:∀e∈args,∀a p,e≠.Starred a p:=by
  clear key;induction h with
  |nil=>intro e he;simp at he
  |cons h1 _ ih=>
   intro e he;rcases List.mem_cons.mp he with rfl | he
   ·exact h1.2
   ·exact ih e he
 have hpa:=jk7 h;cases args with
 |nil=>
  cases h;refine PE.imp (jho hF (D.room hq) (D.gl hf) hm hkp hbd (jea hb).1) fun σ H Q q=>?_;obtain⟨F,ρ,r,z⟩:=key σ H Q q;simp only[jfa,evAs]at z;exact z [] F H Go.refl r .nil
 |cons e es'=>
  exact PE.imp (ji3 hF (D.room hq) (D.gl hf) hm hkp hbd hpa (jea hb).1 (jae (hns e jp7)) (jfb (jdc fun x hx=>hns x (jp6 _ hx)))) key
theorem jla {e:Expr}{d:D}{v:V}(h:PE X e (tC v))(hr:∀F H,Rep Z F H d v):PE X e (tE Z X B (evE G U (.lit d))):=by
 refine PE.imp h fun σ H Q q=>?_;obtain⟨F,ρ,r,q⟩:=q;simp only[evE]at q;exact q v F H Go.refl r (hr F H)
theorem ji5 (D:XD T G U Z m X sc){x:Str}{pos:Pos}{i:Nat}(hk:knd sc x=1)(hi:X.N[i]?=some x)(hb:jcS x=false):PE X (.Name x pos) (tE Z X B (evE G U (.var i))):=by
 refine PE.imp (jgn (X:=X) (pos:=pos) hi (D.vis hk) (jea hb).1 (jk2 hb)) fun σ H Q q=>?_;obtain⟨F,ρ,r,q⟩:=q;simp only[evE]at q;split at q
 ·rename_i d e;obtain⟨v,e1,e2⟩:=r.dat i d e;exact⟨v,e1,q v F H Go.refl r e2⟩
 ·rename_i o f k e;obtain⟨l,e1,_⟩:=r.own i o f k e;exact⟨_,e1,q _ F H Go.refl r e1⟩
 ·exact False.elim q
theorem jlb {es:List Expr}{Es':List E}{k:Nat}{pos:Pos}(h:Paired (fun e E'=>PE X e (tE Z X B (evE G U E'))/\∀a p,e≠.Starred a p) es Es'):PE X (.Tuple es k pos) (tE Z X B (evE G U (.tup (jfa Es')))):=by
 refine PE.imp (jjR (jhk h)) fun σ H Q hzz=>?_;obtain⟨F,ρ,r,z⟩:=hzz;simp only[evE]at z;refine⟨F,ρ,r,z.bind.imp (fun _ w=>w) fun p h1 vs F' H' g r' rs=>?_⟩;split at h1
 ·rename_i hf;exact⟨by rw[<-rs.length];exact jaA hf,(Post.toV h1 g r' (fun _ z=>by cases z)).tup r'.dom rs⟩
 ·exact False.elim h1
theorem jlc {es:List Expr}{Es':List E}{pos:Pos}(h:Paired (fun e E'=>PE X e (tE Z X B (evE G U E'))/\∀a p,e≠.Starred a p) es Es'):PE X (.List es pos) (tE Z X B (evE G U (.lst (jfa Es')))):=by
 refine PE.imp (jmP (jhk h)) fun σ H Q hzz=>?_;obtain⟨F,ρ,r,z⟩:=hzz;simp only[evE]at z;refine⟨F,ρ,r,z.bind.imp (fun _ w=>w) fun p h1 vs F' H' g r' rs=>?_⟩;split at h1
 ·rename_i hf;exact⟨by rw[<-rs.length];exact jaA hf,(Post.toV h1 g r' (fun _ z=>by cases z)).lst r'.dom rs⟩
 ·exact False.elim h1
end
theorem jj4 {Z:Kn}{F:Addr->Prop}{H:Hp}{ds:List D}{vs:List V}{i:Int}{d:D}(r:Reps Z F H ds vs)(h:atI ds i=.ok d):∃v,L2.atI vs i=some v/\Rep Z F H d v:=by
 have hl:=r.length;unfold atI at h;unfold L2.atI ixN;split at h
 ·rename_i h0;split at h
  ·rename_i d' e;cases h;obtain⟨v,e1,e2⟩:=r.get e;have hlt:=(List.getElem?_eq_some_iff.mp e1).1;refine⟨v,?_,e2⟩;rw[if_pos h0,if_pos (by omega)]
   exact e1
  ·cases h
 ·rename_i h0;split at h
  ·rename_i h1;split at h
   ·rename_i d' e;cases h;obtain⟨v,e1,e2⟩:=r.get e;refine⟨v,?_,e2⟩;rw[if_neg h0,if_pos (by omega)]
    rw[hl]at e1;exact e1
   ·cases h
  ·cases h
theorem jhp {ds:List D}{i:Int}{c:Nat}:atI ds i≠.err c:=by
 intro e;unfold atI at e;split at e <;> (try split at e) <;> (try split at e) <;> cases e
theorem jld {x:Str}{i:Int}{c:Nat}:atC x i≠.err c:=by
 intro e;unfold atC at e;split at e
 ·split at e <;> cases e
 ·cases e
theorem jnm {x:Str}{i:Int}{d:D}(h:atC x i=.ok d):∃c,d=.str ⟨#[c]⟩/\x.length<=sizeLine/\L2.atI x.cps.toList i=some c:=by
 unfold atC at h;split at h
 ·rename_i hf;have hl:x.cps.toList.length=x.length:=by simp[Str.length]
  split at h
  ·rename_i c e;cases h;refine⟨c,rfl,jaA hf,?_⟩;unfold L2.atI ixN;rw[hl];by_cases h0:0<=i
   ·rw[if_pos h0]at e;have hlt:=(List.getElem?_eq_some_iff.mp e).1;rw[if_pos h0,if_pos (by omega)]
    exact e
   ·rw[if_neg h0]at e;split at e
    ·rename_i h1;rw[if_neg h0,if_pos (by omega)]
     exact e
    ·cases e
  ·cases h
 ·cases h
theorem ji6 {x y:D}{c:Nat}:jek x y≠.err c:=by
 intro e;unfold jek at e;split at e
 ·exact jhp e
 ·exact jhp e
 ·exact jld e
 ·cases e
noncomputable def jn8 (x y:D):R Vl:=(jek x y).bind fun d=>.ok (.dat d)
theorem joE {Z:Kn}{X:Cx}(hK:X.K=Z.K):IxR X (rD2 Z jn8):=by
 intro value slice pins s σ H x y v u Q I rx ry h hs;obtain⟨F,dx,dy,w,dm,bx,by_,hg,h⟩:=h;refine jmT value slice pins s σ H x y v u Q I rx ry ?_ hs;obtain⟨d,e,hg⟩:=R.bind_ok hg;cases hg;cases dx with
 |tup ds=>
  cases dy with
  |int i=>
   obtain⟨a,vs,rfl,ft,r⟩:=bx.tup;cases by_.int;obtain⟨w,e1,rp⟩:=jj4 r e;exact .inr (.inl ⟨a,vs,i,w,rfl,rfl,(by rw[hK];exact ft.sq),e1,h.sc dm rp⟩)
  |_=>cases e
 |lst ds=>
  cases dy with
  |int i=>
   obtain⟨a,vs,rfl,ft,r⟩:=bx.lst;cases by_.int;obtain⟨w,e1,rp⟩:=jj4 r e;exact .inl ⟨a,vs,i,w,rfl,rfl,(by rw[hK];exact ft),e1,h.sc dm rp⟩
  |_=>cases e
 |str z=>
  cases dy with
  |int i=>
   cases bx.str;cases by_.int;obtain⟨c,rfl,e1,e2⟩:=jnm e;exact .inr (.inr ⟨z,i,c,rfl,rfl,e1,e2,h.sc dm (by simp only[Rep])⟩)
  |_=>cases e
 |_=>cases e
theorem ji7 {i:Expr}(h:∀a b c d,i≠.Slice a b c d):jgw i:=fun o v=>by
 cases i <;> first | rfl | exact absurd rfl (h _ _ _ _)
theorem jfc (n d:Nat)(o:Option Int):sIx n d o=HT.sIx n d o:=by cases o <;> rfl
theorem jhq {Z:Kn}{F:Addr->Prop}{H:Hp}{ds:List D}{vs:List V}(r:Reps Z F H ds vs)(lo hi:Option Int):Reps Z F H (cut ds lo hi) (jjS vs lo hi):=by
 unfold cut jjS;rw[jfc,jfc,r.length];exact(r.drop _).take _
inductive rD3_I (Z:Kn) (g:D->Option Int->Option Int->R Vl) (x:V) (lo:Option Int) (hi:Option Int) (H:Hp) (Q:VK):Prop
 |mk (F:_) (dx:_) (w:_):(Dom F H)->(RepB Z F H dx x)->(g dx lo hi=.ok w)->(PostV Z F H Q w)->rD3_I Z g x lo hi H Q
noncomputable def rD3 (Z:Kn)(g:D->Option Int->Option Int->R Vl):V->Option Int->Option Int->Hp->VK->Prop:=fun x lo hi H Q=>rD3_I Z g x lo hi H Q
theorem joF {Z:Kn}{X:Cx}(hK:X.K=Z.K):SlR X (rD3 Z jgk):=by
 intro pins s σ H x v vl vu lo hi sl Q I rx hs pl pu h;obtain⟨F,dx,w,dm,bx,hg,h⟩:=h;by_cases hstr:∃z,dx=.str z
 ·obtain⟨z,rfl⟩:=hstr;obtain⟨hf,rfl⟩:=jbp hg;cases bx.str;exact jmX pins s σ H _ v vl vu lo hi sl Q I rx hs pl pu ⟨z,rfl,jaA hf,h.sc dm (by simp only[Rep])⟩
 refine(sl_tup.or (sl_tupW.or jkB)) pins s σ H x v vl vu lo hi sl Q I rx hs pl pu ?_;cases dx with
 |tup ds=>
  cases hg;obtain⟨a,vs,rfl,ft,r⟩:=bx.tup;by_cases hw:HT.sIx vs.length 0 lo=0/\HT.sIx vs.length vs.length hi=vs.length
  ·refine .inr (.inl ⟨a,vs,rfl,(by rw[hK];exact ft.sq),hw,?_⟩)
   have e:cut ds lo hi=ds:=by
    unfold cut;rw[jfc,jfc,r.length,hw.1,hw.2,<-r.length];simp
   rw[e]at h;exact h.tupOld dm ft r
  ·exact .inl ⟨a,vs,rfl,(by rw[hK];exact ft.sq),hw,h.tup dm (jhq r lo hi)⟩
 |lst ds=>
  cases hg;obtain⟨a,vs,rfl,ft,r⟩:=bx.lst;exact .inr (.inr ⟨a,vs,rfl,(by rw[hK];exact ft),h.lst dm (jhq r lo hi)⟩)
 |str z=>exact absurd ⟨z,rfl⟩ hstr
 |_=>cases hg
inductive tO_I (Z:Kn) (X:Cx) (B:Bs) (f:Rho->R (Option Int×Rho)) (σ:L2.St) (H:L2.Hp) (Q:(Option Int->L2.Hp->Prop)):Prop
 |mk (F:_) (ρ:_):(SR Z B F H σ ρ)->(Ok (XW Z X σ ρ H) (f ρ) fun o=>∀F' H',Go σ ρ F H σ o.2 F' H'->SR Z B F' H' σ o.2->Q o.1 H')->tO_I Z X B f σ H Q
noncomputable def tO (Z:Kn)(X:Cx)(B:Bs)(f:Rho->R (Option Int×Rho)):TO:=fun σ H Q=>tO_I Z X B f σ H Q
section
variable {G:Calls}{U:Nat->Nat->Bool}{Z:Kn}{X:Cx}{B:Bs}
theorem jnn:PO X none (tO Z X B (evO G U .none)):=PO.imp jkx fun σ H Q ⟨F,ρ,r,q⟩=>by
 simp only[evO]at q;exact q F H Go.refl r
theorem jno {e:Expr}{E':E}(h:PE X e (tE Z X B (evE G U E'))):PO X (some e) (tO Z X B (evO G U (.some E'))):=PO.imp (jky h) fun σ H Q ⟨F,ρ,r,q⟩=>by
 simp only[evO]at q;refine⟨F,ρ,r,q.bind.imp (fun _ w=>w) fun p h1 v F' H' g r' rp=>?_⟩;obtain⟨w,ρ'⟩:=p;cases w with
 |dat d=>
  cases d with
  |int i=>
   have rp:Rep Z F' H' (.int i) v:=rp;simp only[Rep]at rp;exact⟨i,rp,h1 F' H' g r'⟩
  |_=>exact False.elim h1
 |_=>exact False.elim h1
theorem ji8 {x:D}{l h:Option Int}{c:Nat}:jgk x l h≠.err c:=by cases x <;> (intro z;first | cases z | (simp only[jgk]at z;split at z <;> cases z))
theorem jhr {x:D}{l h:Option Int}{i:Nat}:jgk x l h≠.ok (.slot i):=by cases x <;> (intro z;first | cases z | (simp only[jgk]at z;split at z <;> cases z))
theorem tE.slice {σ:L2.St}{H:Hp}{Q:VK}{fa:Rho->R (Vl×Rho)}{fl fh:Rho->R (Option Int×Rho)}(h:tE Z X B (fun ρ=>(fa ρ).bind fun p=>(fl p.2).bind fun l=>(fh l.2).bind fun h=>(deref p.1 h.2).bind fun x=>(jgk x l.1 h.1).bind fun v=>.ok (v,h.2)) σ H Q):tSl (rD3 Z jgk) (tE Z X B fa) (tO Z X B fl) (tO Z X B fh) σ H Q:=by
 obtain⟨F,ρ,r,h⟩:=h;refine⟨F,ρ,r,h.bind.imp (fun _ w=>w) fun p h1 v F1 H1 g1 r1 rp=>⟨F1,p.2,r1,h1.bind.imp (fun c w=>w.mono g1) fun l h2 F2 H2 g2 r2=>⟨F2,l.2,r2,h2.bind.imp (fun c w=>w.mono (g1.trans g2)) fun u h3 F3 H3 g3 r3=>?_⟩⟩⟩;obtain⟨x,ex,h4⟩:=h3.bind.pure fun c=>jay;obtain⟨w,ew,h5⟩:=h4.bind.pure fun c=>ji8;exact⟨F3,x,w,r3.dom,jaP (rp.go r1 (g2.trans g3)) r3 ex,ew,Post.toV h5 ((g1.trans g2).trans g3) r3 fun i z=>jhr (by rw[ew,z])⟩
end
end DJ
namespace DJ
open PySem PySem.Spec PyProof.Rows L2
section
variable {Z:Kn}{B:Bs}{F F1 F2:Addr->Prop}{H H0 H1 H2:Hp}{σ σ1 σ2:L2.St}{ρ ρ1 ρ2:Rho}
theorem jdd:∀{lk:List Nat}{ρ:Rho}{j:Nat}{o:O}{f k:Bool},(unlk lk ρ)[j]?=some (.own o f k)->ρ[j]?=some (.own o f k)\/(j∈lk/\k=false/\∃k',ρ[j]?=some (.own o f k'))
 |[],_,_,_,_,_,h=>.inl h
 |i::r,ρ,j,o,f,k,h=>by
  simp only[unlk]at h;have one:∀{k1:Bool},(match ρ[i]? with | some (.own o f _)=>ρ.set i (.own o f false) | _=>ρ)[j]?=some (.own o f k1)->ρ[j]?=some (.own o f k1)\/(j=i/\k1=false/\∃k',ρ[j]?=some (.own o f k')):=fun {k1} h=>by
   split at h
   ·rename_i o' f' k' e;rw[jp9]at h;by_cases hij:i=j
    ·subst hij;rw[if_pos rfl]at h;split at h
     ·cases h;exact .inr ⟨rfl,rfl,k',e⟩
     ·cases h
    ·rw[if_neg hij]at h;exact .inl h
   ·exact .inl h
  rcases jdd h with h | ⟨h1,h2,k',h3⟩
  ·rcases one h with h | ⟨h1,h2,h3⟩
   ·exact .inl h
   ·exact .inr ⟨by simp[h1],h2,h3⟩
  ·rcases one h3 with h3 | ⟨_,_,h3⟩
   ·exact .inr ⟨jp6 _ h1,h2,k',h3⟩
   ·exact .inr ⟨jp6 _ h1,h2,h3⟩
theorem SR.unlk:∀{lk:List Nat}{ρ:Rho},SR Z B F H σ ρ->SR Z B F H σ (unlk lk ρ)
 |[],_,r=>r
 |i::lk,ρ,r=>by
  simp only[DJ.unlk];refine SR.unlk (lk:=lk) ?_;split
  ·rename_i o f k e;exact r.lock e false
  ·exact r
theorem Ow.unlk {lk:List Nat}{b:Addr}(h:Ow σ (unlk lk ρ) b):Ow σ ρ b:=by
 obtain⟨i,o,f,k,h1,h2⟩:=h;rcases jdd h1 with h | ⟨_,_,k',h⟩
 ·exact⟨i,o,f,k,h,h2⟩
 ·exact⟨i,o,f,k',h,h2⟩
theorem Go.unlk {lk:List Nat}(g:Go σ ρ F H σ2 ρ2 F2 H2)(hl:∀i∈lk,∃o f,ρ[i]?=some (.own o f false)):Go σ ρ F H σ2 (unlk lk ρ2) F2 H2:=by
 refine⟨g.stay,g.sub,g.new,fun j o f k b h1 h2=>?_,g.there⟩;rcases jdd h1 with h | ⟨hj,hk,k',h⟩
 ·exact g.ow j o f k b h h2
 ·rcases g.ow j o f k' b h h2 with ⟨o0,k0,a,c,d⟩ | q
  ·obtain⟨o1,f1,e⟩:=hl j hj;rw[a]at e;cases e;exact .inl ⟨o0,false,a,c,fun z=>by cases z⟩
  ·exact .inr q
structure Wlk (Z:Kn)(B:Bs)(F:Addr->Prop)(H:Hp)(σ:L2.St)(ρ ρ2:Rho)(v:V)(xs:List D)(lk:List Nat)(ls:List Addr)(b:Bool)(a:Addr)(vs:List V):Prop where
 eq:v=.ref a
 sq:SqB Z.K b H a vs
 rp:Reps Z F H xs vs
 sr:SR Z B F H σ ρ2
 go:Go σ ρ F H σ ρ2 F H
 on:∀l∈ls,(∃o,H l=some o)/\¬Mb σ ρ2 l
 lk:∀i∈lk,∃o f,ρ[i]?=some (.own o f false)
 up:∀(i:Nat) o f,ρ2[i]?=some (.own o f false)->ρ[i]?=some (.own o f false)
 good:∀F' H',GK F H ls F' H'->SqB Z.K b H' a vs/\Reps Z F' H' xs vs
theorem SR.notMb (r:SR Z B F H σ ρ){i:Nat}{o:O}{f:Bool}{l:Addr}(e:ρ[i]?=some (.own o f true))(hl:σ[i]?=some (some (.ref l))):¬Mb σ ρ l:=by
 rintro⟨j,o',f',h1,h2⟩;by_cases hij:i=j
 ·subst hij;rw[e]at h1;cases h1
 ·exact r.one i j _ _ _ _ _ _ l hij e h1 hl h2
theorem jhs {w:Vl}{v:V}{xs:List D}{lk:List Nat}(h:RV Z F H0 H σ ρ w v)(r:SR Z B F H σ ρ)(hi:jbi w ρ=.ok (xs,lk,ρ2)):∃ls b a vs,Wlk Z B F H σ ρ ρ2 v xs lk ls b a vs:=by
 cases w with
 |dat d=>
  obtain⟨ys,hs,hi⟩:=R.bind_ok hi;cases hi;have h:Rep Z F H d v:=h;cases d with
  |tup ds=>
   cases hs;simp only[Rep]at h;obtain⟨a,vs,rfl,ft,rs⟩:=h;exact⟨[],false,a,vs,rfl,.inr ⟨rfl,ft.sq⟩,rs,r,Go.refl,fun _ z=>absurd z (by simp),fun _ z=>absurd z (by simp),fun _ _ _ h=>h,fun F' H' g=>⟨.inr ⟨rfl,(ft.keep g.keep).sq⟩,rs.mono g.keep⟩⟩
  |lst ds=>
   cases hs;simp only[Rep]at h;obtain⟨a,vs,rfl,ft,rs⟩:=h;exact⟨[],true,a,vs,rfl,.inl ⟨rfl,ft.sq⟩,rs,r,Go.refl,fun _ z=>absurd z (by simp),fun _ z=>absurd z (by simp),fun _ _ _ h=>h,fun F' H' g=>⟨.inl ⟨rfl,(ft.keep g.keep).sq⟩,rs.mono g.keep⟩⟩
  |_=>cases hs
 |tmp o=>
  cases o with
  |l ys=>
   cases hi;obtain⟨l,rfl,h1,h2,h3,us,h4,h5⟩:=h;refine⟨[l],true,l,us,rfl,.inl ⟨rfl,SqL.of h4⟩,h5,r,Go.refl,fun l' z=>?_,fun _ z=>absurd z (by simp),fun _ _ _ h=>h,fun F' H' g=>⟨.inl ⟨rfl,SqL.of ((g.ls l (by simp)).trans h4)⟩,h5.mono g.keep⟩⟩
   have e:l'=l:=by simpa using z
   subst e;exact⟨⟨_,h4⟩,fun m=>h2 m.ow⟩
  |d ks vs=>cases hi
 |slot i=>
  have h:σ[i]?=some (some v):=h;simp only[jbi]at hi;split at hi
  ·rename_i ys f e;cases hi;obtain⟨l,e1,e2,⟨us,h4,h5⟩,_⟩:=r.own i _ _ _ e;rw[h]at e1;cases e1;refine⟨[l],true,l,us,rfl,.inl ⟨rfl,SqL.of h4⟩,h5,r,Go.refl,fun l' z=>?_,fun _ z=>absurd z (by simp),fun _ _ _ h=>h,fun F' H' g=>⟨.inl ⟨rfl,SqL.of ((g.ls l (by simp)).trans h4)⟩,h5.mono g.keep⟩⟩
   have q:l'=l:=by simpa using z
   subst q;exact⟨⟨_,h4⟩,r.notMb e h⟩
  ·rename_i ys f e;cases hi;obtain⟨l,e1,e2,⟨us,h4,h5⟩,_⟩:=r.own i _ _ _ e;rw[h]at e1;cases e1;have hlt:i < ρ.length:=(List.getElem?_eq_some_iff.mp e).1;have r2:=r.lock e true;refine⟨[l],true,l,us,rfl,.inl ⟨rfl,SqL.of h4⟩,h5,r2,Go.lock e,fun l' z=>?_,fun j z=>?_,fun j o f' hj=>?_,fun F' H' g=>⟨.inl ⟨rfl,SqL.of ((g.ls l (by simp)).trans h4)⟩,h5.mono g.keep⟩⟩
   ·have q:l'=l:=by simpa using z
    subst q;exact⟨⟨_,h4⟩,r2.notMb (List.getElem?_set_self hlt) h⟩
   ·have q:j=i:=by simpa using z
    subst q;exact⟨_,_,e⟩
   ·rw[jp9]at hj;split at hj
    ·(first | cases hj | (split at hj <;> cases hj))
    ·exact hj
  ·cases hi
theorem jfJ {w:Vl}{c:Nat}:jbi w ρ≠.err c:=by
 cases w with
 |dat d=>cases d <;> (intro z;cases z)
 |tmp o=>cases o <;> (intro z;cases z)
 |slot i=>
  simp only[jbi];split <;> (intro z;cases z)
end
structure ItR (Z:Kn)(B:Bs)(σ:L2.St)(ρ:Rho)(F:Addr->Prop)(H:Hp)(ρ1:Rho)(F1:Addr->Prop)(H1:Hp)(lk:List Nat)(ls:List Addr):Prop where
 go:Go σ ρ F H σ ρ1 F1 H1
 sr:SR Z B F1 H1 σ ρ1
 un:∀σ2 ρ2 F2 H2,Go σ ρ1 F1 H1 σ2 ρ2 F2 H2->Go σ ρ F H σ2 (unlk lk ρ2) F2 H2
 on:∀l∈ls,(∃o,H1 l=some o)/\¬Mb σ ρ1 l
inductive tI_I (Z:Kn) (X:Cx) (B:Bs) (f:Rho->R (List D×List Nat×Rho)) (σ:L2.St) (H:L2.Hp) (R:(L2.It->L2.Hp->Prop)):Prop
 |mk (F:_) (ρ:_):(SR Z B F H σ ρ)->(Ok (XW Z X σ ρ H) (f ρ) fun t=>∀F' H' J ls,ItR Z B σ ρ F H t.2.2 F' H' t.2.1 ls->ItmG Z (GK F' H' ls) J t.1->R J H')->tI_I Z X B f σ H R
noncomputable def tI (Z:Kn)(X:Cx)(B:Bs)(f:Rho->R (List D×List Nat×Rho)):TI:=fun σ H R=>tI_I Z X B f σ H R
theorem jnp {X:Cx}{tg:Expr}{pins:List (Addr×Obj)}{σ:L2.St}{H1:Hp}{s1:Shared}{R:L2.It->Hp->Prop}{a:Addr}(I1:Inv X pins σ H1 s1)(q1:(∃xs,SqL X.K H1 a xs/\(xs.length<=sizeLine->R (Itl X.K a) H1))\/(∃xs,SqT X.K H1 a xs/\(xs.length<=sizeLine->R (Itt X.K a) H1))) :
  wpAny (model X.prog X.w) X.A (pyIter (.ref a)) (PIE X pins σ tg R) X.xe s1:=by
 rcases q1 with ⟨xs,hq,q⟩ | ⟨xs,hq,q⟩
 ·obtain⟨its,rv,p,hz⟩:=I1.list hq;refine wpAny_pyIter_list p.isList ⟨s1.heap.objs.size,[s1.heap.objs.size],_,_,H1,rfl,I1.kept (t':=s1.toks) fun b o e=>jqy _ e,jgq a _,⟨_,jqA _ rfl,rfl,rfl⟩,fun b hb=>?_,q hz⟩;obtain rfl:b=s1.heap.objs.size:=by simpa using hb
  exact I1.fpOk (jqD _) (I1.hok.fresh (jqD _))
 ·obtain⟨its,rv,p,hz⟩:=I1.tuple hq;refine wpAny_pyIter_tuple (show s1.heap.IsTuple a its.toArray from p) ⟨s1.heap.objs.size,[s1.heap.objs.size],_,_,H1,rfl,I1.kept (t':=s1.toks) fun b o e=>jqy _ e,jft a _,⟨_,jqA _ rfl,rfl,rfl⟩,fun b hb=>?_,q hz⟩;obtain rfl:b=s1.heap.objs.size:=by simpa using hb
  exact I1.fpOk (jqD _) (I1.hok.fresh (jqD _))
noncomputable def joG (K:Frag)(tl:TE):TI:=fun σ H R=>tl σ H fun x H1=>(∃z,x=.str z/\R (Itx z) H1)\/∃a,x=.ref a/\((∃xs,SqL K H1 a xs/\(xs.length<=sizeLine->R (Itl K a) H1))\/(∃xs,SqT K H1 a xs/\(xs.length<=sizeLine->R (Itt K a) H1)))
theorem jle {X:Cx}{tg l:Expr}{tl:TE}(hl:PE X l tl):PI X tg l (joG X.K tl):=by
 intro pins s σ H R I h;refine thn (hl pins s σ H _ I h) fun v s1 hzz=>?_;obtain⟨x,H1,I1,r1,q1⟩:=hzz;rcases q1 with ⟨z,rfl,q⟩ | ⟨a,rfl,q1⟩
 ·obtain⟨t,rfl⟩:=r1;have fp:∀b∈[s1.heap.objs.size],FpOk X pins H1 b:=fun b hb=>by
   obtain rfl:b=s1.heap.objs.size:=by simpa using hb
   exact I1.fpOk (jqD _) (I1.hok.fresh (jqD _))
  cases ha:z.cps.all (· < 128)
  ·exact wpAny_pyIter_wide ha ⟨s1.heap.objs.size,[s1.heap.objs.size],_,_,H1,rfl,I1.kept (t':=s1.toks) fun b o e=>jqy _ e,jdw (fun A' h=>Walks.strWide h _ z t) (fun _ _ _ _ _ st q=>wpAny_pyIter_striter_wide st q) (by decide),⟨_,jqA _ rfl,rfl,rfl⟩,fp,q⟩
  ·exact wpAny_pyIter_ascii ha ⟨s1.heap.objs.size,[s1.heap.objs.size],_,_,H1,rfl,I1.kept (t':=s1.toks) fun b o e=>jqy _ e,jdw (fun A' h=>Walks.strAscii h _ z t) (fun _ _ _ _ _ st q=>wpAny_pyIter_striter_ascii st q) (by decide),⟨_,jqA _ rfl,rfl,rfl⟩,fp,q⟩
 ·cases r1;exact jnp I1 q1
theorem ji9 {Z:Kn}{G:(Addr->Prop)->Hp->Prop}{z:Str}(hn:z.length<=sizeLine):ItmG Z G (Itx z) (z.cps.toList.map fun c=>D.str ⟨#[c]⟩):=by
 have hl:(z.cps.toList.map fun c=>D.str ⟨#[c]⟩).length=z.cps.size:=by simp
 refine⟨by rw[hl];exact hn,fun F H g dm=>⟨fun i x hx=>?_,hl⟩⟩
 rw[jqa]at hx;cases e:z.cps.toList[i]? with
 |none=>rw[e]at hx;cases hx
 |some c=>
  rw[e]at hx;cases hx;have e2:z.cps[i]?=some c:=by rw[<-Array.getElem?_toList];exact e
  refine⟨(Array.getElem?_eq_some_iff.mp e2).1,fun u H2 y=>?_⟩;obtain⟨rfl,c',e3,rfl⟩:=y;rw[e2]at e3;cases e3;exact⟨F,Ext.refl dm,by simp only[Rep]⟩
section
variable {T:Tab}{G:Calls}{U:Nat->Nat->Bool}{Z:Kn}{m:Nat}{X:Cx}{sc:List (Str×NameKind)}{B:Bs}
theorem ItR.plain {σ:L2.St}{ρ ρ1:Rho}{F F1:Addr->Prop}{H H1:Hp}(g:Go σ ρ F H σ ρ1 F1 H1)(r:SR Z B F1 H1 σ ρ1):ItR Z B σ ρ F H ρ1 F1 H1 [] []:=⟨g,r,fun σ2 ρ2 F2 H2 g2=>g.trans g2,fun _ z=>absurd z (by simp)⟩
theorem jja (hK:X.K=Z.K){σ:L2.St}{ρ ρ1:Rho}{F F':Addr->Prop}{H H':Hp}{R:L2.It->Hp->Prop}{w:Vl}{v:V}
  (h1:Ok (XW Z X σ ρ H) (jbi w ρ1) fun t=>∀F' H' J ls,ItR Z B σ ρ F H t.2.2 F' H' t.2.1 ls->ItmG Z (GK F' H' ls) J t.1->R J H') (g:Go σ ρ F H σ ρ1 F' H') (r':SR Z B F' H' σ ρ1) (rv:RV Z F' H H' σ ρ1 w v) :
  ∃a,v=.ref a/\((∃xs,SqL X.K H' a xs/\(xs.length<=sizeLine->R (Itl X.K a) H'))\/(∃xs,SqT X.K H' a xs/\(xs.length<=sizeLine->R (Itt X.K a) H'))):=by
 obtain⟨t,ht,h2⟩:=h1.pure fun c=>jfJ;obtain⟨xs,lk,ρ2⟩:=t;obtain⟨ls,b,a,vs,W⟩:=jhs rv r' ht;have ir:ItR Z B σ ρ F H ρ2 F' H' lk ls:=⟨g.trans W.go,W.sr,fun σ2 ρ3 F3 H3 g3=>g.trans ((W.go.trans g3).unlk W.lk),W.on⟩;refine⟨a,W.eq,?_⟩;rw[hK];rcases W.sq with ⟨rfl,sq⟩ | ⟨rfl,sq⟩
 ·refine .inl ⟨vs,sq,fun hz=>h2 F' H' _ ls ir (jiR (vs:=vs) (by rw[W.rp.length];exact hz) fun F2 H2 gk _=>?_)⟩
  obtain⟨s1,s2⟩:=W.good F2 H2 gk;rcases s1 with ⟨_,s1⟩ | ⟨z,_⟩
  ·exact⟨s1,s2⟩
  ·cases z
 ·refine .inr ⟨vs,sq,fun hz=>h2 F' H' _ ls ir (jkR (vs:=vs) (by rw[W.rp.length];exact hz) fun F2 H2 gk _=>?_)⟩
  obtain⟨s1,s2⟩:=W.good F2 H2 gk;rcases s1 with ⟨z,_⟩ | ⟨_,s1⟩
  ·cases z
  ·exact⟨s1,s2⟩
theorem jnq (hK:X.K=Z.K){tg l:Expr}{f:Rho->R (Vl×Rho)}(hl:PE X l (tE Z X B f)):PI X tg l (tI Z X B fun ρ=>(f ρ).bind fun p=>jbo p.1 p.2):=by
 refine PI.imp (jle hl) fun σ H R hzz=>?_;obtain⟨F,ρ,r,q⟩:=hzz;refine⟨F,ρ,r,q.bind.imp (fun _ w=>w) fun p h1 v F' H' g r' rv=>?_⟩;obtain⟨w,ρ1⟩:=p;by_cases hs:∃z,w=.dat (.str z)
 ·obtain⟨z,rfl⟩:=hs;have h1:Ok (XW Z X σ ρ H) (if fits z.length then .ok (z.cps.toList.map (fun c=>D.str ⟨#[c]⟩),([]:List Nat),ρ1)else .stk) _:=h1;have rv:Rep Z F' H' (.str z) v:=rv;simp only[Rep]at rv;split at h1
  ·exact .inl ⟨z,rv,h1 F' H' _ [] (ItR.plain g r') (ji9 (jaA ‹_›))⟩
  ·exact False.elim h1
 ·have e:jbo w ρ1=jbi w ρ1:=by
   unfold jbo;split
   ·exact absurd ⟨_,rfl⟩ hs
   ·rfl
  have h1:Ok (XW Z X σ ρ H) (jbo w ρ1) _:=h1;rw[e]at h1;exact .inr (jja hK h1 g r' rv)
theorem jht {x:D}{c:Nat}:jcv x≠.err c:=by
 cases x <;> (intro z;simp only[jcv]at z;try split at z) <;> cases z
theorem jlf {tg a:Expr}{p pos:Pos}{f:Rho->R (Vl×Rho)}(hg:Gl X "range")(hm:X.mg "range"=none)(h:PE X a (tE Z X B f))(ns:∀e q,a≠.Starred e q) :
  PI X tg (.Call (.Name "range" p) [a] [] pos) (tI Z X B fun ρ=>(f ρ).bind fun p=>(deref p.1 p.2).bind fun x=>(jcv x).bind fun xs=>.ok (xs,[],p.2)):=by
 refine PI.imp (jgr hg hm (jaL h jbl (jae ns)) (jae ns)) fun σ H R hzz=>?_;obtain⟨F,ρ,r,q⟩:=hzz;refine⟨F,ρ,r,q.bind.imp (fun _ w=>w) fun p h1 v F' H' g r' rv=>?_⟩;obtain⟨x,ex,h2⟩:=h1.bind.pure fun c=>jay;obtain⟨xs,exs,h3⟩:=h2.bind.pure fun c=>jht;have rb:=jaP rv r' ex;cases x with
 |int n=>
  simp only[jcv]at exs;split at exs
  ·rename_i hn;cases exs;cases rb.int;exact⟨n,rfl,by omega,by omega,h3 F' H' _ [] (ItR.plain g r') (jkT (by rw[sizeLine_eq];omega))⟩
  ·cases exs
 |_=>cases exs
end
end DJ
namespace DJ
open PySem PySem.Spec PyProof.Rows L2
noncomputable def Ty.py:Ty->String
 |.int=>"int" | .bool=>"bool" | .str=>"str" | .tuple=>"tuple" | .list=>"list" | .dict=>"dict" | .exc _=>"?" | .verr=>"ValueError"
noncomputable def clV (Z:Kn):Ty->Option V
 |.exc k=>(Z.cl[k]?).map V.ref
 |t=>some (.ty t.py)
noncomputable def jmj (Z:Kn):List Ty->Option (List V):=mapO (clV Z)
structure Ecs (U:Nat->Nat->Bool)(Z:Kn):Prop where
 ecl:∀C∈Z.cl,ECls Z.K C
 sub:∀(i j:Nat) (C D:Addr),Z.cl[i]?=some C->Z.cl[j]?=some D->PySem.W.mroIn Z.K C (.ref D)=some (U i j)
theorem XD.ecs {T:Tab}{G:Calls}{U:Nat->Nat->Bool}{Z:Kn}{n:Nat}{X:Cx}{sc:List (Str×NameKind)}(D:XD T G U Z n X sc):Ecs U Z:=⟨by rw[<-D.hK];exact D.ecl,by rw[<-D.hK];exact D.sub⟩
section
variable {U:Nat->Nat->Bool}{Z:Kn}
theorem jlg (S:Ecs U Z){i j:Nat}{C D:Addr}(hi:Z.cl[i]?=some C)(hj:Z.cl[j]?=some D):PySem.W.kitOne Z.K (.ref C) (.ref D)=some (U i j):=by
 have hs:=S.sub i j C D hi hj;have e':=S.ecl D (jqg hj);unfold PySem.W.kitOne;split
 ·rename_i z;cases beq_iff_eq.mp z;rw[(S.ecl C (jqg hi)).ms]at hs;exact hs
 ·unfold PySem.W.kitCls;simp only;rw[if_pos (by rw[jqI];exact⟨e'.cd,by rw[e'.ty];rfl⟩)]
  exact hs
theorem jjb (S:Ecs U Z){i:Nat}{C:Addr}(hi:Z.cl[i]?=some C):PySem.W.kitOne Z.K (.ref C) (.type "ValueError")=some true:=by
 have e:=S.ecl C (jqg hi);unfold PySem.W.kitOne;split
 ·rfl
 ·unfold PySem.W.kitCls;simp only;rw[if_pos (by decide +kernel)]
  exact e.mv
noncomputable def nmT:Ty->String
 |.int=>"int"
 |.bool=>"bool"
 |.str=>"str"
 |.tuple=>"tuple"
 |.list=>"list"
 |_=>"dict"
noncomputable def jpQ:Ty->Bool
 |.exc _=>false
 |.verr=>false
 |_=>true
theorem jcl {K:Frag}{t:Value}{d:D}(ht:∀k,jpQ k=true->PySem.W.kitOne K t (.type (nmT k))=some (tyB d k))(k:Ty)(c:V)(cv:Value)(b:Bool)(hb:tyP d k=.ok b)(hc:clV Z k=some c)(rc:RelV c cv):PySem.W.kitOne K t cv=some b:=by
 cases k with
 |exc _=>cases hb
 |verr=>cases hb
 |int=>cases hb;cases hc;cases (show cv=Value.type _ from rc);exact ht .int rfl
 |bool=>cases hb;cases hc;cases (show cv=Value.type _ from rc);exact ht .bool rfl
 |str=>cases hb;cases hc;cases (show cv=Value.type _ from rc);exact ht .str rfl
 |tuple=>cases hb;cases hc;cases (show cv=Value.type _ from rc);exact ht .tuple rfl
 |list=>cases hb;cases hc;cases (show cv=Value.type _ from rc);exact ht .list rfl
 |dict=>cases hb;cases hc;cases (show cv=Value.type _ from rc);exact ht .dict rfl
theorem jnr (S:Ecs U Z){X:Cx}(hK:X.K=Z.K){pins:List (Addr×Obj)}{s:Shared}{σ:L2.St}{F:Addr->Prop}{H:Hp}{d:D}{x:V}{u:Value}(I:Inv X pins σ H s)(rp:RepB Z F H d x)(rx:RelV x u) :
  ∃(t:Value) (P:Heap->Prop),PySem.W.KitX X.K u t P/\P s.heap/\u≠.builtin "__main__.__loader__#opaque"/\∀(k:Ty) (c:V) (cv:Value) (b:Bool),jmg U d k=.ok b->clV Z k=some c->RelV c cv->PySem.W.kitOne X.K t cv=some b:=by
 cases d with
 |non=>
  cases rp.non;cases (show u=Value.none from rx);refine⟨_,_,PySem.W.kitx_none,True.intro,(fun z=>nomatch z),jcl fun k hk=>by cases k <;> first | rfl | cases hk⟩
 |bl y=>
  cases rp.bl;cases (show u=Value.bool y from rx);refine⟨_,_,PySem.W.kitx_bool,True.intro,(fun z=>nomatch z),jcl fun k hk=>by cases k <;> first | rfl | cases hk⟩
 |int i=>
  cases rp.int;obtain⟨t',rfl⟩:=(show ∃t,u=Value.int i t from rx);refine⟨_,_,PySem.W.kitx_int,True.intro,(fun z=>nomatch z),jcl fun k hk=>by cases k <;> first | rfl | cases hk⟩
 |str y=>
  cases rp.str;obtain⟨t',rfl⟩:=(show ∃t,u=Value.str y t from rx);refine⟨_,_,PySem.W.kitx_str,True.intro,(fun z=>nomatch z),jcl fun k hk=>by cases k <;> first | rfl | cases hk⟩
 |tup ds=>
  obtain⟨a,vs,rfl,ft,r⟩:=rp.tup;cases (show u=Value.ref a from rx);obtain⟨its,_,p,_⟩:=I.tuple (by rw[hK];exact ft.sq)
  obtain⟨o,h1,h2,_⟩:=p;refine⟨_,_,PySem.W.kitx_tuple,⟨o,h1,h2⟩,(fun z=>nomatch z),jcl fun k hk=>by cases k <;> first | rfl | cases hk⟩
 |lst ds=>
  obtain⟨a,vs,rfl,ft,r⟩:=rp.lst;cases (show u=Value.ref a from rx);obtain⟨its,_,⟨o,n,h1,h2,_⟩,_⟩:=I.list (by rw[hK];exact ft)
  refine⟨_,_,PySem.W.kitx_list,⟨o,h1,h2⟩,(fun z=>nomatch z),jcl fun k hk=>by cases k <;> first | rfl | cases hk⟩
 |dct ks vs=>
  obtain⟨a,rfl,_,_,e⟩:=rp.dct;cases (show u=Value.ref a from rx);obtain⟨_,_,vs,_,p⟩:=(show ObjOk X.prog X.w H s.heap a (.dK [])from I.hok a _ e);obtain⟨o,es,ep,h1,h2,_⟩:=p;refine⟨_,_,PySem.W.kitx_dict,⟨o,h1,h2.1⟩,(fun z=>nomatch z),jcl fun k hk=>by cases k <;> first | rfl | cases hk⟩
 |exc c=>
  have rp:=rp.flat (fun o z=>by cases o <;> cases z)
  simp only[Rep]at rp;obtain⟨a,C,rfl,_,hC,e⟩:=rp;cases (show u=Value.ref a from rx);obtain⟨⟨o,vs,h1,h2,_⟩,_⟩:=(show ObjOk X.prog X.w H s.heap a (.ext (jjZ a C))from I.hok a _ e);have ec:=S.ecl C (jqg hC);refine⟨_,_,jiH (K:=X.K) (by rw[hK];exact ec),⟨o,h1,h2⟩,(fun z=>nomatch z),fun k c' cv b hb hc rc=>?_⟩
  rw[hK];cases k with
  |exc j=>
   cases hb;simp only[clV]at hc;cases hj:Z.cl[j]? with
   |none=>rw[hj]at hc;cases hc
   |some D=>
    rw[hj]at hc;cases hc;cases (show cv=Value.ref D from rc);exact jlg S hC hj
  |verr=>
   cases hb;cases hc;cases (show cv=Value.type _ from rc);exact jjb S hC
  |_=>cases hb
theorem jhu {K:Frag}{t:Value}{d:D}(h:∀(k:Ty) (c:V) (cv:Value) (b:Bool),jmg U d k=.ok b->clV Z k=some c->RelV c cv->PySem.W.kitOne K t cv=some b):∀{ks:List Ty}{cs:List V}{cvs:List Value}{b:Bool},jai U d ks=.ok b->jmj Z ks=some cs->Vals cs cvs->PySem.W.kitAny K t cvs=some b
 |[],cs,cvs,b,h1,h2,h3=>by
  cases h2;cases h3;cases h1;rfl
 |k::ks,cs,cvs,b,h1,h2,h3=>by
  obtain⟨c,cs',e1,e2,rfl⟩:=jaq h2;cases h3 with
  |@cons _ cv _ cvs' r1 r2=>
   simp only[jai]at h1;obtain⟨b1,q1,h1⟩:=R.bind_ok h1;have z:=h k c cv b1 q1 e1 r1;unfold PySem.W.kitAny;rw[z];cases b1 with
   |true=>cases h1;rfl
   |false=>exact jhu h h1 e2 r2
theorem jlh {d:D}{t:Ty}{c:Nat}:tyP d t≠.err c:=by cases t <;> (intro z;cases z)
theorem jjc {d:D}{t:Ty}{c:Nat}:jmg U d t≠.err c:=by
 cases d with
 |exc e=>cases t <;> (intro z;cases z)
 |_=>exact jlh
theorem jdI {d:D}{c:Nat}:∀{ks:List Ty},jai U d ks≠.err c
 |[],z=>by cases z
 |k::ks,z=>by
  simp only[jai]at z;cases e:jmg U d k with
  |ok b=>
   rw[e,R.bind_ok']at z;cases b with
   |true=>cases z
   |false=>exact jdI z
  |err c'=>exact jjc e
  |stk=>rw[e]at z;cases z
noncomputable def jj5 (Z:Kn)(ks:List Ty)(y:V)(H:Hp):Prop:=(∃k,ks=[k]/\clV Z k=some y)\/∃p cs,y=.ref p/\jmj Z ks=some cs/\H p=some (.tup cs)
theorem jjd (S:Ecs U Z){X:Cx}(hK:X.K=Z.K){ks:List Ty}:CallR X (.builtin "isinstance") (fun xs H Q=>∃x y F d b,xs=[x,y]/\jj5 Z ks y H/\RepB Z F H d x/\jai U d ks=.ok b/\Q (.bl b) H):=by
 intro pins s σ H xs us Q I r h;obtain⟨x,y,F,d,b,rfl,hy,rp,hb,q⟩:=h;obtain⟨u,w',rfl,rx,ry⟩:=joq r;obtain⟨t,P,kx,hp,hne,ho⟩:=jnr S hK I rp rx;rcases hy with ⟨k,rfl,hc⟩ | ⟨p,cs,rfl,hc,hH⟩
 ·have hb1:jmg U d k=.ok b:=by
   simp only[jai]at hb;obtain⟨b1,e,hb⟩:=R.bind_ok hb;cases b1 <;> cases hb <;> exact e
  exact PySem.W.kia_one kx I.kIn hp (ho k y w' b hb1 hc ry) hne fun tk=>⟨.bl b,H,I.tok tk,rfl,q⟩
 ·cases (show w'=Value.ref p from ry);obtain⟨_,its,rv,o,h1,h2,n,h3⟩:=(show ObjOk X.prog X.w H s.heap p (.tup cs)from I.hok p _ hH);obtain⟨ocls,odict,odata,oslots⟩:=o;cases h2;cases h3;exact PySem.W.kia_tup kx I.kIn hp h1 (jhu ho hb hc rv) hne fun tk=>⟨.bl b,H,I.tok tk,rfl,q⟩
end
noncomputable def joH (T:Tab)(x:Str):Option Ty:=if x="int" then some .int else if x="bool" then some .bool else if x="str" then some .str else if x="tuple" then some .tuple else if x="list" then some .list else if x="dict" then some .dict else if x="ValueError" then some .verr else (jcR T.excs x).map .exc
section
variable {T:Tab}{G:Calls}{U:Nat->Nat->Bool}{Z:Kn}{m:Nat}{X:Cx}{sc:List (Str×NameKind)}{B:Bs}
theorem jns (D:XD T G U Z m X sc){x:Str}{t:Ty}{pos:Pos}(hk:knd sc x=2)(hb:jcS x=false)(h:joH T x=some t):∃v,clV Z t=some v/\PE X (.Name x pos) (tC v):=by
 have blt:∀{n:String}{y:Str},y∈bltNames->bootBuiltins y=some (.type n)->x=y->PE X (.Name x pos) (tC (.ty n)):=fun {n y} h1 h2 e=>by
  subst e;exact jkl (D.gl hk) (D.blt _ h1) h2 rfl (jea hb).2 (jea hb).1
 unfold joH at h;split at h
 ·rename_i e;cases h;exact⟨_,rfl,blt (by decide +kernel) (by decide +kernel) e⟩
 ·split at h
  ·rename_i e;cases h;exact⟨_,rfl,blt (by decide +kernel) (by decide +kernel) e⟩
  ·split at h
   ·rename_i e;cases h;exact⟨_,rfl,blt (by decide +kernel) (by decide +kernel) e⟩
   ·split at h
    ·rename_i e;cases h;exact⟨_,rfl,blt (by decide +kernel) (by decide +kernel) e⟩
    ·split at h
     ·rename_i e;cases h;exact⟨_,rfl,blt (by decide +kernel) (by decide +kernel) e⟩
     ·split at h
      ·rename_i e;cases h;exact⟨_,rfl,blt (by decide +kernel) (by decide +kernel) e⟩
      ·split at h
       ·rename_i e;cases h;exact⟨_,rfl,blt (by decide +kernel) (by decide +kernel) e⟩
       ·cases q:jcR T.excs x with
        |none=>rw[q]at h;cases h
        |some i=>
         rw[q]at h;cases h;obtain⟨C,h1,h2⟩:=D.excs i x (jaC q);exact⟨.ref C,by simp[clV,h1],jgo (D.gl hk) h2 rfl (jea hb).1⟩
noncomputable def jje (T:Tab)(sc:List (Str×NameKind))(e:Expr):Option Ty:=(jhh e).bind fun x=>gd (jcS x || knd sc x != 2) (joH T x)
noncomputable def jhv (T:Tab)(sc:List (Str×NameKind))(e:Expr):Option (List Ty):=jmi (jk1 e) (mapO (jje T sc)) ((jje T sc e).map fun t=>[t])
theorem jfd (D:XD T G U Z m X sc){e:Expr}{t:Ty}(h:jje T sc e=some t):(∃v,clV Z t=some v/\PE X e (tC v))/\∀a p,e≠.Starred a p:=by
 replace h:=jaf h;obtain⟨x,hx,h⟩:=h;obtain⟨p,rfl⟩:=ja3 hx;replace h:=jah h;obtain⟨hc,h⟩:=h;obtain⟨c1,c2⟩:=jbk hc;exact⟨jns D (jeo c2) c1 h,fun _ _ z=>by cases z⟩
noncomputable def tCs:List V->TA
 |[]=>jmf
 |v::vs=>jgt (tC v) (tCs vs)
theorem jj6:∀{vs:List V}{σ:L2.St}{H:Hp}{Q:List V->Hp->Prop},Q vs H->tCs vs σ H Q
 |[],_,_,_,q=>q
 |v::vs,σ,H,Q,q=>jj6 (vs:=vs) (Q:=fun xs H1=>Q (v::xs) H1) q
theorem jhw (D:XD T G U Z m X sc):∀{es:List Expr}{ks:List Ty},mapO (jje T sc) es=some ks->∃cs,jmj Z ks=some cs/\PA X es (tCs cs)
 |[],ks,h=>by cases h;exact⟨[],rfl,jbl⟩
 |e::es,ks,h=>by
  obtain⟨k,ks',h1,h2,rfl⟩:=jaq h;obtain⟨⟨v,e1,e2⟩,ns⟩:=jfd D h1;obtain⟨cs,e3,e4⟩:=jhw D h2;refine⟨v::cs,?_,jaL e2 e4 (jae ns)⟩;simp only[jmj,mapO]at e3 ⊢;rw[e1,e3]
theorem jfe:∀{ks:List Ty}{cs:List V},jmj Z ks=some cs->cs.length=ks.length
 |[],cs,h=>by cases h;rfl
 |k::ks,cs,h=>by
  obtain⟨c,cs',_,q2,rfl⟩:=jaq h;rw[jqe,jqe,jfe q2]
noncomputable def tCA (Z:Kn)(ks:List Ty):TE:=fun σ H Q=>(∀y,jj5 Z ks y H->Q y H)/\∀p cs,H p=none->jmj Z ks=some cs->Q (.ref p) (upd H p (.tup cs))
theorem jli (D:XD T G U Z m X sc){e:Expr}{ks:List Ty}(hl:ks.length<=100)(h:jhv T sc e=some ks):PE X e (tCA Z ks)/\∀a p,e≠.Starred a p:=by
 replace h:=jbK h;rcases h with ⟨es,he,h⟩ | h
 ·obtain⟨k,p,rfl⟩:=jdG he;obtain⟨cs,e1,e2⟩:=jhw D h;refine⟨PE.imp (jjR e2) fun σ H Q q=>jj6 ⟨?_,fun p hp=>q.2 p cs hp e1⟩,fun _ _ z=>by cases z⟩
  rw[jfe e1,sizeLine_eq];omega
 ·replace h:=jag h;obtain⟨t,q,rfl⟩:=h;obtain⟨⟨v,e1,e2⟩,ns⟩:=jfd D q;exact⟨PE.imp e2 fun σ H Q z=>z.1 v (.inl ⟨t,rfl,e1⟩),ns⟩
theorem jlj (D:XD T G U Z m X sc){a e:Expr}{E1:E}{ks:List Ty}{p pos:Pos}(hf:knd sc "isinstance"=2)(hl:ks.length<=100)(h:PE X a (tE Z X B (evE G U E1)))(ns:∀e q,a≠.Starred e q)(hks:jhv T sc e=some ks) :
  PE X (.Call (.Name "isinstance" p) [a,e] [] pos) (tE Z X B (evE G U (.isi E1 ks))):=by
 obtain⟨hp,ns2⟩:=jli D hl hks;refine PE.imp (jcZ (jjd D.ecs D.hK (ks:=ks)) (D.gl hf) (D.blt _ (by decide +kernel)) (by decide +kernel) (jaL h (jaL hp jbl (jae ns2)) (jae ns)) (by decide) (by decide) (jae ns) (jfb (jdc fun x hx=>by
  have:x=e:=by simpa using hx
  subst this;exact ns2))) fun σ H Q ⟨F,ρ,r,q⟩=>?_
 simp only[evE]at q;refine⟨F,ρ,r,q.bind.imp (fun _ w=>w) fun p1 h1 v F' H' g r' rv=>?_⟩;obtain⟨x,ex,h2⟩:=h1.bind.pure fun c=>jay;obtain⟨b,eb,h3⟩:=h2.bind.pure fun c=>jdI;have rb:=jaP rv r' ex;refine⟨fun y hy=>⟨v,y,F',x,b,rfl,hy,rb,eb,h3 _ F' H' g r' (by show Rep _ _ _ _ _;simp only[Rep])⟩,fun p cs hp hcs=>?_⟩
 have e:=Ext.newO (o:=.tup cs) r'.dom hp;have kp:=e.keep r'.dom;refine⟨v,.ref p,F',x,b,rfl,.inr ⟨p,cs,rfl,hcs,jam⟩,?_,eb,h3 _ F' _ (g.trans e.go) (r'.ext e) (by show Rep _ _ _ _ _;simp only[Rep])⟩
 rcases rb with rb | ⟨l,o,e1,e2,e3⟩
 ·exact .inl (rb.mono kp)
 ·obtain⟨w,hw⟩:=e3.some;exact .inr ⟨l,o,e1,e2,e3.mono kp (by rw[jac (jab hw hp)])⟩
theorem jlk (D:XD T G U Z m X sc){x:Str}{i:Nat}{pos apos cpos:Pos}(hk:knd sc x=1)(hi:X.N[i]?=some x)(hb:jcS x=false)(hline:(apos.endLine == cpos.line)=true):PE X (.Call (.Attribute (.Name x pos) "pop" apos) [] [] cpos) (tE Z X B (evE G U (.pop i))):=by
 have hbase:attributeBase (.Name x pos) "pop" X.env (eval (.Name x pos) X.env)=eval (.Name x pos) X.env:=rfl;refine PE.imp (jgx PySem.F.plainAttrs_list PySem.F.slot_list_pop PySem.F.type_list_pop jmV (jgn (X:=X) (pos:=pos) hi (D.vis hk) (jea hb).1 (jk2 hb)) hbase hline) fun σ H Q hzz=>?_;obtain⟨F,ρ,r,q⟩:=hzz;simp only[evE]at q;split at q
 ·rename_i xs f e;split at q
  ·rename_i d hd;obtain⟨l,e1,e2,⟨vs,e3,e4⟩,e5⟩:=r.own i _ _ _ e;refine⟨.ref l,e1,.inl ⟨rfl,vs,SqL.of e3⟩,?_⟩;have hl:=e4.length;rw[List.getLast?_eq_getElem?]at hd;obtain⟨v,hv,rp⟩:=e4.get hd;rw[hl]at hv;refine⟨l,vs,v,rfl,rfl,e3,hv,?_⟩;have wr:=r.wr (o':=.l xs.dropLast) (u:=.lst vs.dropLast) e e1 (fun kp=>⟨vs.dropLast,jam,(e4.mono kp).dropLast⟩) false;obtain⟨kp,sr⟩:=wr;exact q v F _ (Go.wr e e1) sr (rp.mono kp)
  ·exact False.elim q
 ·exact False.elim q
end
end DJ
namespace DJ
open PySem PySem.Spec PyProof.Rows L2
theorem Un.sameBut {fs ex:List Addr}{H H':Hp}{h h1 h2:Heap}{C:Addr}(u:Un fs ex H H' h h1)(hC:h.objs.size<=C)(s:Heap.SameBut C h1 h2):Un fs ex H H' h h2:=by
 have ne:∀b o,h.get? b=some o->b≠C:=fun b o e=>jqF (jqE (jqz e) hC);refine⟨fun b o e n hb hx=>(s.2 b (ne b o e)).trans (u.keep b o e n hb hx),fun b o e n hb hx=>?_,u.free,fun b o e hx=>?_,u.tups,u.frzs,u.tbls⟩
 ·obtain⟨sl,q⟩:=u.slot b o e n hb hx;exact⟨sl,(s.2 b (ne b o e)).trans q⟩
 ·obtain⟨o',q⟩:=u.there b o e hx;exact⟨o',(s.2 b (ne b o e)).trans q⟩
theorem HOk.sameBut {P:Program}{w:World}{H:Hp}{h1 h2:Heap}{C:Addr}(k:HOk P w H h1)(n:H C=none)(s:Heap.SameBut C h1 h2):HOk P w H h2:=fun b ob e=>by
 refine(k b ob e).stay (fun c w' hc q=>(s.2 c ?_).trans q) (fun _ q=>q) fun _ _ q=>q;rintro rfl;rcases hc with rfl | hc
 ·rw[n]at e;cases e
 ·rw[n]at hc;cases hc
section
variable {X:Cx}{scope:Scope}{N cn:List Str}{nt:Nat}{caps:List Nat}{B:Bs}{Z:Kn}{elt tg iter:Expr}{ks:List Expr}{pos:Pos}{tgs:List Nat}{one:Bool}{fi:Rho->R (List D×List Nat×Rho)}{fc:Option (Rho->R (Bool×Rho))}{fe:Rho->R (Vl×Rho)}
theorem jff {pins:List (Addr×Obj)}{σ:L2.St}{H1:Hp}{s3:Shared}{fp:List Addr}(I3:Inv X pins σ H1 s3)(fo:∀b∈fp,(b∈X.ex\/X.s₀.heap.objs.size<=b)/\b≠X.env.locals/\(∀x c,X.env.cells.lookup x=some c->c≠b)/\∀p∈X.pn++pins,p.1≠b)
  {σ':L2.St}{H':Hp}{s':Shared} (IY:Inv (cxComp X N scope s3 H1 fp) [] σ' H' s') {h':Heap} (sb:Heap.SameBut s3.heap.objs.size s'.heap h'):Inv X pins σ H' { s' with heap:=h' }:=
 I3.call' IY.os (Un.sameBut IY.base (jqD _) sb) (HOk.sameBut IY.hok IY.free sb) IY.bare fo
theorem CompOk.capLt (C:CompOk X scope N cn nt caps):∀j∈caps,j < X.N.length:=fun j hj=>by
 obtain⟨k,hk,e⟩:=List.getElem_of_mem hj;have hk':k < cn.length:=by rw[C.clen];exact hk
 obtain⟨h1,_⟩:=C.at_ k j cn[k] (jp5 hk') (by rw[jp5 hk,e])
 exact(List.getElem?_eq_some_iff.mp h1).1
theorem jll (hK:X.K=Z.K)(hc:X.calm=true)(C:CompOk X scope N cn nt caps)(hi:PI X tg iter (tI Z X B fi))
  (hT:∀s' H' fp,TgOk (cxComp X N scope s' H' fp) tg tgs one) (hlow:∀i∈tgs,i < nt)
  (hE:∀s' H' fp B',PE (cxComp X N scope s' H' fp) elt (tE Z (cxComp X N scope s' H' fp) B' fe))
  (hk:(ks=[]/\fc=none)\/∃k g,ks=[k]/\fc=some g/\∀s' H' fp B',PT (cxComp X N scope s' H' fp) k (tT Z (cxComp X N scope s' H' fp) B' g)) (hs:∀x,foldedSetIterable iter X.env x=pure x) :
  PE X (.ListComp elt [⟨tg,iter,ks,0⟩] scope pos) (tE Z X B fun ρ=>(fi ρ).bind fun t=>((compGo (jcf tgs one nt caps fc fe) t.1 t.2.2).noErr).bind fun ys=>.ok (.tmp (.l ys.1),unlk t.2.1 ys.2)):=by
 intro pins s σ H Q I hz1;obtain⟨F,ρ,r,h⟩:=hz1;rw[eval_ListComp];refine wpAny_comprehension_free (use:=none) rfl hs (jgW (C.cells I)) C.kind C.names ?_;refine thn (hi pins s σ H (fun J H'=>∃(F':Addr->Prop) (t:List D×List Nat×Rho) (ls:List Addr),ItR Z B σ ρ F H t.2.2 F' H' t.2.1 ls/\ItmG Z (GK F' H' ls) J t.1/\Ok (XW Z X σ ρ H) (((compGo (jcf tgs one nt caps fc fe) t.1 t.2.2).noErr).bind fun ys=>.ok (.tmp (.l ys.1),unlk t.2.1 ys.2)) (Post Z B σ ρ F H Q)) I
  ⟨F,ρ,r,h.bind.imp (fun _ w=>w) fun t h1 F' H' J ls ir im=>⟨F',t,ls,ir,im,h1⟩⟩) fun v s1 h1=>thn h1 fun itv s2 hzz=>?_
 obtain⟨it,fp,tn,J,H2,e,I2,Tn,st2,f2,F2,t,ls,ir,im,q2⟩:=hzz;subst e;cases hY:compGo (jcf tgs one nt caps fc fe) t.1 t.2.2 with
 |err c=>rw[hY]at q2;exact False.elim q2
 |stk=>rw[hY]at q2;exact False.elim q2
 |ok ys=>
  rw[hY]at q2;have q2:Post Z B σ ρ F H Q (.tmp (.l ys.1),unlk t.2.1 ys.2):=q2;refine je6 (RR:=fun acc C'=>compPost (model X.prog X.w) X.A X.xe none (EP X pins σ Q) acc C') hK hc C I2 ir.sr (im.wk hK (fun l hl=>(ir.on l hl).1) Tn) (fun l hl=>(ir.on l hl).2) st2 f2 (fun s' H'=>hT s' H' fp) hlow (fun j hj=>?_) (fun s' H' B'=>hE s' H' fp B') ?_ hY ?_
  ·rw[ir.sr.len,I2.len];exact C.capLt j hj
  ·rcases hk with z | ⟨k,g,e1,e2,hk⟩
   ·exact .inl z
   ·exact .inr ⟨k,g,e1,e2,fun s' H' B'=>hk s' H' fp B'⟩
  ·intro s3 l σ' F' H' s' vs hl I3 IY gE rE nF nO hl' rp;obtain⟨m,hn,_⟩:=IY.loc;refine⟨m,hn,fun h' sb=>?_⟩;refine⟨.ref l,H',jff I3 (fun b hb=>?_) IY sb,rfl,q2 _ F' H' (ir.un σ ys.2 F' H' gE) rE.unlk ⟨l,rfl,nF,fun z=>nO z.unlk,ir.go.free hl,vs,hl',rp⟩⟩;obtain⟨f0,f1,f3,f4,f5,f6⟩:=f2 b hb;exact⟨f4,f1,f5,f6⟩
end
theorem XD.comp {T:Tab}{G:Calls}{U:Nat->Nat->Bool}{Z:Kn}{n:Nat}{X:Cx}{sc:List (Str×NameKind)}(D:XD T G U Z n X sc){scope:Scope}{N:List Str}{s:Shared}{H:Hp}{fp:List Addr}(nd:N.Nodup):XD T G U Z n (cxComp X N scope s H fp) scope.names where
 hK:=D.hK
 calm:=D.calm
 nd:=nd
 room:=D.room
 un:=D.un
 sc:=fun x=>by
  show (relabel scope X.env).names.lookup x=_\/_/\(relabel scope X.env).names.lookup x=_;unfold relabel;simp only;rw[jaU (c:=fun n k=>k == .free && X.env.scope.kind == .function && X.env.kindOf n == some .cell)];cases e:scope.names.lookup x with
  |none=>exact .inl rfl
  |some k=>
   simp only[Option.map_some];split
   ·rename_i h;simp only[jqI,beq_iff_eq]at h;exact .inr ⟨by rw[h.1.1],rfl⟩
   ·exact .inl rfl
 blt:=D.blt
 defs:=D.defs
 cons:=D.cons
 excs:=D.excs
 ecl:=D.ecl
 sub:=D.sub
section
variable {T:Tab}{G:Calls}{U:Nat->Nat->Bool}{Z:Kn}{m:Nat}{X:Cx}{sc:List (Str×NameKind)}{B:Bs}
theorem tE.blt {f:Bf}{E1:E}{σ:L2.St}{H:Hp}{Q:VK}{rr:List V->Hp->VK->Prop}(hr:∀x H Q,rD1 Z (bfD f) x H Q->rr [x] H Q)(h:tE Z X B (evE G U (.blt f E1)) σ H Q):tCB rr (jgt (tE Z X B (evE G U E1)) jmf) σ H Q:=by
 have h2:tE Z X B (fun ρ=>(evE G U E1 ρ).bind fun p=>(deref p.1 p.2).bind fun x=>(bfD f x).bind fun v=>.ok (v,p.2)) σ H Q:=by simpa only[evE] using h
 obtain⟨F,ρ,r,h3⟩:=tE.one (fun x c=>jhf) (fun x i=>je9) h2;exact⟨F,ρ,r,h3.imp (fun _ w=>w) fun p q v F' H' g r' rv=>hr v H' Q (q v F' H' g r' rv)⟩
noncomputable def jpq (quiet:Bool)(f:Str):Option Bf:=
 alt (f == "len") (some .len) <|
 alt (f == "tuple") (some .tuple) <|
 alt (f == "int") (some .int) <|
 alt (f == "str") (some .str) <|
 gd quiet <|
 alt (f == "all") (some .all) <|
 none
theorem jlm (D:XD T G U Z m X sc){f:Str}{g:Bf}{a:Expr}{E1:E}{p pos:Pos}(hf:knd sc f=2)(hb:jcS f=false)(S:PE X a (tE Z X B (evE G U E1)))(ns:∀e q,a≠.Starred e q)(hg:jpq T.quiet f=some g) :
  PE X (.Call (.Name f p) [a] [] pos) (tE Z X B (evE G U (.blt g E1))):=by
 have hpa:PA X [a] (jgt (tE Z X B (evE G U E1)) jmf):=jaL S jbl (jae ns);have he:starEach [a] X.env=(false,eval a X.env)::starEach [] X.env:=jae ns;have hd:=(jea hb).1;have hn:=(jea hb).2;rcases jax hg with ⟨e,hg⟩ | hg
 ·cases hg;cases jbT e;exact PE.imp (jcZ (call_len_seq.or jdt) (D.gl hf) (D.blt _ (by decide +kernel)) PySem.boot_len hpa hn hd he rfl) fun σ H Q q=>tE.blt (jnc D.hK) q
 rcases jax hg with ⟨e,hg⟩ | hg
 ·cases hg;cases jbT e;exact PE.imp (jbm jc3 (D.gl hf) (D.blt _ (by decide +kernel)) (by decide +kernel) hpa hn hd he rfl) fun σ H Q q=>tE.blt (jiZ D.hK) q
 rcases jax hg with ⟨e,hg⟩ | hg
 ·cases hg;cases jbT e;exact PE.imp (jbm (call_int1.or jgH) (D.gl hf) (D.blt _ (by decide +kernel)) (by decide +kernel) hpa hn hd he rfl) fun σ H Q q=>tE.blt jnf q
 rcases jax hg with ⟨e,hg⟩ | hg
 ·cases hg;cases jbT e;exact PE.imp (jbm jgG (D.gl hf) (D.blt _ (by decide +kernel)) (by decide +kernel) hpa hn hd he rfl) fun σ H Q q=>tE.blt jne q
 obtain⟨hq,hg⟩:=jah hg;have hc:X.calm=true:=D.calm hq;rcases jax hg with ⟨e,hg⟩ | hg
 ·cases hg;cases jbT e;exact PE.imp (jcZ (jgC hc true) (D.gl hf) (D.blt _ (by decide +kernel)) (by decide +kernel) hpa hn hd he rfl) fun σ H Q q=>tE.blt (f:=.all) (jnd D.hK true) q
 exact jad hg
theorem jjf {o:Expr}{Eo:E}{apos cpos:Pos}(S:PE X o (tE Z X B (evE G U Eo)))(hbase:attributeBase o "isupper" X.env (eval o X.env)=eval o X.env)(hline:(apos.endLine == cpos.line)=true) :
  PE X (.Call (.Attribute o "isupper" apos) [] [] cpos) (tE Z X B (evE G U (.blt .isup Eo))):=by
 refine PE.imp (jgx PySem.F.plainAttrs_str PySem.F.slot_str_isupper PySem.F.type_str_isupper jfD S hbase hline) fun σ H Q h=>?_;have h2:tE Z X B (fun ρ=>(evE G U Eo ρ).bind fun p=>(deref p.1 p.2).bind fun x=>(bfD .isup x).bind fun v=>.ok (v,p.2)) σ H Q:=by simpa only[evE] using h
 obtain⟨F,ρ,r,h3⟩:=tE.one (fun x c=>jhf) (fun x i=>je9) h2;refine⟨F,ρ,r,h3.imp (fun _ w=>w) fun p q v F' H' g r' rv=>?_⟩;obtain⟨F2,d,w,dm,rp,hw,h4⟩:=q v F' H' g r' rv;cases d with
 |str x=>cases hw;cases rp.str;exact⟨rfl,x,rfl,rfl,h4.bl dm⟩
 |_=>cases hw
noncomputable def jpr (f:Str):Option Sm:=alt (f == "join") (some .join) <| alt (f == "count") (some .cnt) <| alt (f == "split") (some .splt) none
theorem jdJ (f:Sm)(x:Str)(d:D):jdb (smD f x d):=by
 cases f with
 |join=>cases d with
  |lst xs=>
   show jdb (match jbz xs with | some ys=>if (ys.map (·.length)).sum + ys.length * x.length<=16777216 then .ok (.dat (.str (Txt.join x ys)))else .stk | none=>.stk)
   cases jbz xs with
   |none=>trivial
   |some ys=>exact jba trivial
  |_=>trivial
 |cnt=>cases d <;> trivial
 |splt=>cases d with
  |str y=>exact jba trivial
  |_=>trivial
theorem jln {f:Sm}{x:Str}{d:D}{c:Nat}:smD f x d≠.err c:=by
 intro h;have:=jdJ f x d;rw[h]at this;exact this
theorem jjg {f:Sm}{x:Str}{d:D}{i:Nat}:smD f x d≠.ok (.slot i):=by
 intro h;have:=jdJ f x d;rw[h]at this;exact this
inductive rSm (Z:Kn) (f:Sm) (x:V) (xs:List V) (H:Hp) (Q:VK):Prop
 |mk (z:Str) (y:V) (F:Addr->Prop) (d:D) (w:Vl):x=.str z->xs=[y]->Dom F H->RepB Z F H d y->smD f z d=.ok w->PostV Z F H Q w->rSm Z f x xs H Q
theorem jfg {Z:Kn}{F:Addr->Prop}{H:Hp}:∀{ds:List D}{ys:List Str}{vs:List V},jbz ds=some ys->Reps Z F H ds vs->vs=ys.map V.str
 |[],ys,vs,h,r=>by simp only[Reps]at r;subst r;cases h;rfl
 |d::ds,ys,vs,h,r=>by
  simp only[Reps]at r;obtain⟨v,us,rfl,r1,r2⟩:=r;cases d with
  |str x=>
   simp only[jbz]at h;cases q:jbz ds with
   |none=>rw[q]at h;cases h
   |some ms=>
    rw[q]at h;cases h;simp only[Rep]at r1;rw[r1,jfg q r2];rfl
  |_=>cases h
theorem jdK {Z:Kn}{F:Addr->Prop}{H:Hp}:∀{ys:List Str},Reps Z F H (ys.map D.str) (ys.map V.str)
 |[]=>by simp only[List.map_nil,Reps]
 |y::ys=>.cons (by simp only[Rep]) (jdK (ys:=ys))
theorem jnt (hZ:X.K=Z.K){f:Sm}{nm:Str}(hf:jpr nm=some f){o a:Expr}{Eo Ea:E}{apos cpos:Pos}(So:PE X o (tE Z X B (evE G U Eo)))(Sa:PE X a (tE Z X B (evE G U Ea)))(ns:∀e q,a≠.Starred e q)
  (hbase:attributeBase o nm X.env (eval o X.env)=eval o X.env) (hline:(apos.endLine == cpos.line)=true):PE X (.Call (.Attribute o nm apos) [a] [] cpos) (tE Z X B (evE G U (.sm f Eo Ea))):=by
 have key:∀{id:String},Slot "str" nm id->typeOf (.builtin id)=pure (.type "method_descriptor")->MtR X id (rSm Z f)->PE X (.Call (.Attribute o nm apos) [a] [] cpos) (tE Z X B (evE G U (.sm f Eo Ea))):=fun {id} slot hty hm=>by
  refine PE.imp (jmU PySem.F.plainAttrs_str slot hty hm So (jaL Sa jbl (jae ns)) hbase (by rw[jae ns];rfl) hline (jae ns) rfl) fun σ H Q h=>?_
  obtain⟨F,ρ,r,q⟩:=h;simp only[evE]at q;refine⟨F,ρ,r,q.bind.imp (fun _ w=>w) fun p h1 v F1 H1 g1 r1 rv=>?_⟩;obtain⟨w,ρ1⟩:=p;cases w with
  |dat d=>
   cases d with
   |str z=>
    have rv:Rep Z F1 H1 (.str z) v:=rv;simp only[Rep]at rv;subst rv;refine⟨rfl,F1,ρ1,r1,Ok.imp (Ok.bind h1) (fun c w=>w.mono g1) fun q h2 u F2 H2 g2 r2 ru=>?_⟩;obtain⟨d,ed,h3⟩:=h2.bind.pure fun c=>jay;obtain⟨w,ew,h4⟩:=h3.bind.pure fun c=>jln;exact⟨z,u,F2,d,w,rfl,rfl,r2.dom,jaP ru r2 ed,ew,Post.toV h4 (g1.trans g2) r2 fun i z=>jjg (by rw[ew,z])⟩
   |_=>exact False.elim h1
  |_=>exact False.elim h1
 rcases jax hf with ⟨e,hf⟩ | hf
 ·cases hf;cases jbT e;refine key PySem.F.slot_str_join PySem.F.type_str_join fun pins s σ H x xs v us Q I rx rs h=>?_;obtain⟨z,y,F,d,w,rfl,rfl,dm,rp,hw,h⟩:=h;cases d with
  |lst ds=>
   simp only[smD]at hw;cases e:jbz ds with
   |none=>rw[e]at hw;cases hw
   |some ys=>
    rw[e]at hw;obtain⟨hl,rfl⟩:=jbp hw;obtain⟨p,vs,rfl,sq,r⟩:=rp.lst;cases jfg e r;exact jkG pins s σ H _ _ v us Q I rx rs ⟨z,p,ys,rfl,rfl,(by rw[hZ];exact sq),hl,h.sc dm (by simp only[Rep])⟩
  |_=>cases hw
 rcases jax hf with ⟨e,hf⟩ | hf
 ·cases hf;cases jbT e;refine key PySem.F.slot_str_count PySem.F.type_str_count fun pins s σ H x xs v us Q I rx rs h=>?_;obtain⟨z,y,F,d,w,rfl,rfl,dm,rp,hw,h⟩:=h;cases d with
  |str y=>cases hw;cases rp.str;exact jiI pins s σ H _ _ v us Q I rx rs ⟨z,y,rfl,rfl,h.int dm⟩
  |_=>cases hw
 rcases jax hf with ⟨e,hf⟩ | hf
 ·cases hf;cases jbT e;refine key PySem.F.slot_str_split PySem.F.type_str_split fun pins s σ H x xs v us Q I rx rs h=>?_;obtain⟨z,y,F,d,w,rfl,rfl,dm,rp,hw,h⟩:=h;cases d with
  |str y=>
   obtain⟨hl,rfl⟩:=jbp hw;cases rp.str;simp only[jqI,bne_iff_ne]at hl;exact jiJ pins s σ H _ _ v us Q I rx rs ⟨z,y,rfl,rfl,by simpa using hl.1.1,jaA hl.1.2,jaA hl.2,fun p hp=>h.lst dm jdK p hp⟩
  |_=>cases hw
 exact jad hf
theorem jlo {K:Frag}{H:Hp}{I a:Addr}{o:HO}{vs:List V}(h:SqL K H a vs)(hn:H I=none):SqL K (upd H I o) a vs:=by
 rcases h with (h | ⟨u,h⟩) | h
 ·exact .inl (.inl (by rw[jac (jab h hn)];exact h))
 ·exact .inl (.inr ⟨u,by rw[jac (jab h hn)];exact h⟩)
 ·exact .inr h
noncomputable def jlp (X:Cx):List V->Hp->VK->Prop:=fun xs H Q=>∃p ys,xs=[.ref p]/\SqL X.K H p ys/\∀I,H I=none->Q (.ref I) (upd H I (.ext (jgL X I p ys.length)))
noncomputable def jlq (X:Cx):List V->Hp->VK->Prop:=fun xs H Q=>∃I p ys,xs=[.ref I]/\H I=some (.ext (jgL X I p ys.length))/\SqL X.K H p ys/\∀l,del H I l=none->Q (.ref l) (upd (del H I) l (.lst ys.reverse))
theorem jlr (hZ:X.K=Z.K):∀x H Q,rD1 Z (bfD .revl) x H Q->jlp X [x] H fun v H'=>jlq X [v] H' Q:=by
 intro x H Q hz1;obtain⟨F,d,w,dm,rp,hw,h⟩:=hz1;cases d with
 |lst xs=>
  simp only[bfD]at hw;cases hw;obtain⟨a,vs,rfl,ft,r⟩:=rp.lst;have sq:SqL X.K H a vs:=by rw[hZ];exact ft
  refine⟨a,vs,rfl,sq,fun I hI=>⟨I,a,vs,rfl,jam,jlo sq hI,fun l hl=>?_⟩⟩;rw[jkK hI]at hl ⊢;exact h.lst dm r.reverse l hl
 |_=>simp only[bfD,jaO]at hw;cases hw
noncomputable def jls (f g:Str):Option Bf:=
 alt (f == "list" && g == "reversed") (some .revl) <|
 none
theorem jnu {a b c d:Str}(h:(a == b && c == d)=true):a=b/\c=d:=by simpa using h
theorem jjh (D:XD T G U Z m X sc)(hq:T.quiet=false){f g:Str}{bf:Bf}{b:Expr}{E1:E}{p p2 pos pos2:Pos}(hf:knd sc f=2)(hb:jcS f=false)(hg:knd sc g=2)(hb2:jcS g=false)(S:PE X b (tE Z X B (evE G U E1)))(ns:∀e q,b≠.Starred e q)(hn:jls f g=some bf) :
  PE X (.Call (.Name f p) [.Call (.Name g p2) [b] [] pos2] [] pos) (tE Z X B (evE G U (.blt bf E1))):=by
 have hc:X.calm=true:=D.calm hq;have hpa:PA X [b] (jgt (tE Z X B (evE G U E1)) jmf):=jaL S jbl (jae ns);have he:starEach [b] X.env=(false,eval b X.env)::starEach [] X.env:=jae ns;have ns2:∀e q,(.Call (.Name g p2) [b] [] pos2:Expr)≠.Starred e q:=fun e q z=>by cases z
 have he2:starEach [.Call (.Name g p2) [b] [] pos2] X.env=(false,eval (.Call (.Name g p2) [b] [] pos2) X.env)::starEach [] X.env:=jae ns2;have hd:=(jea hb).1;have hnm:=(jea hb).2;have hd2:=(jea hb2).1;have hnm2:=(jea hb2).2;rcases jax hn with ⟨e,hn⟩ | hn
 ·cases hn;obtain⟨rfl,rfl⟩:=jnu e;have pin:=jbm (p:=p2) (pos:=pos2) (show CallR X (.type "reversed") (jlp X)from jcu) (D.gl hg) (D.blt _ (by decide +kernel)) (by decide +kernel) hpa hnm2 hd2 he rfl
  exact PE.imp (jbm (p:=p) (pos:=pos) (show CallR X (.type "list") (jlq X)from jc4 hc) (D.gl hf) (D.blt _ (by decide +kernel)) (by decide +kernel) (jaL pin jbl he2) hnm hd he2 rfl) fun σ H Q q=>tE.blt (f:=.revl) (rr:=fun xs H Q=>jlp X xs H fun v H'=>jlq X [v] H' Q) (jlr D.hK) q
 exact jad hn
end
end DJ
namespace DJ
open PySem PySem.Spec PyProof.Rows L2
noncomputable def jps:Operator->Option Op
 |.Add=>some .add | .Sub=>some .sub | .Mult=>some .mul | .FloorDiv=>some .fdiv | .Mod=>some .mod | .Pow=>some .pow
 |_=>none
noncomputable def jpt:CmpOp->Option Cm
 |.Eq=>some .eq | .NotEq=>some .ne | .Lt=>some .lt | .LtE=>some .le | .Gt=>some .gt | .GtE=>some .ge | .Is=>some .isn | .IsNot=>some .notn
 |.In=>some .isin | .NotIn=>some .notin
noncomputable def jcm (e:Expr):Option (List Str×Bool):=jmi (jhh e) (fun x=>some ([x],true)) ((jk1 e).bind fun es=>(mapO jhh es).map fun xs=>(xs,false))
theorem jhx {e:Expr}{xs:List Str}{one:Bool}(h:jcm e=some (xs,one)):(∃x p,e=.Name x p/\xs=[x]/\one=true)\/∃es k p,e=.Tuple es k p/\mapO jhh es=some xs/\one=false:=by
 replace h:=jbK h;rcases h with ⟨x,hx,h⟩ | h
 ·obtain⟨p,rfl⟩:=ja3 hx;cases h;exact .inl ⟨x,p,rfl,rfl,rfl⟩
 ·replace h:=jaf h;obtain⟨es,he,h⟩:=h;obtain⟨k,p,rfl⟩:=jdG he;replace h:=jag h;obtain⟨ys,hy,h⟩:=h;cases h;exact .inr ⟨es,k,p,rfl,hy,rfl⟩
noncomputable def ndp (xs:List Str):Bool:=match xs with
 |[]=>true
 |x::r=>!r.contains x && ndp r
noncomputable def jdL:Expr->Option (Str×List Expr)
 |.Call f as ks _=>gd (!ks.isEmpty) ((jhh f).map fun x=>(x,as))
 |_=>none
theorem jbU {e:Expr}{p:Str×List Expr}(h:jdL e=some p):∃np pos,e=.Call (.Name p.1 np) p.2 [] pos:=by
 cases e with
 |Call f as ks pos=>
  replace h:=jah h;obtain⟨hk,h⟩:=h;replace h:=jag h;obtain⟨x,hx,rfl⟩:=h;obtain⟨np,rfl⟩:=ja3 hx;cases ja2 hk;exact⟨np,pos,rfl⟩
 |_=>exact jad h
section
variable (T:Tab)
noncomputable def joI (tr:Expr->Option E)(as:List Expr):Option It:=match as with
 |[a]=>(tr a).map .rng1
 |_=>none
noncomputable def isB (sc:List (Str×NameKind))(f:Str):Bool:=knd sc f == 2 && (jcR T.defs f).isNone
noncomputable def jpu (sc:List (Str×NameKind))(tr:Expr->Option E)(one:Bool)(e:Expr)(c:Str×List Expr):Option It:=
 alt (c.1 == "range" && isB T sc c.1) (joI tr c.2) <|
 (tr e).map .seq
noncomputable def jmk (sc:List (Str×NameKind))(tr:Expr->Option E)(one:Bool)(e:Expr):Option It:=match jdL e with
 |some c=>jpu T sc tr one e c
 |none=>(tr e).map .seq
noncomputable def joJ (tr:Expr->Option E):Option Expr->Option Oe
 |none=>some Oe.none
 |some e=>(tr e).map Oe.some
noncomputable def jhy (tr:Expr->Option E):List Expr->Option Oe
 |[]=>some Oe.none
 |[k]=>(tr k).map Oe.some
 |_=>none
noncomputable def jhz (sc:List (Str×NameKind))(f:Str)(as:List Expr):Option (Bf×Expr):=
 (jhg as).bind fun c=>(jdL c).bind fun p=>(jhg p.2).bind fun b=>gd (T.quiet || jcS p.1 || knd sc p.1 != 2 || (jcR T.defs p.1).isSome) ((jls f p.1).map fun bf=>(bf,b))
noncomputable def jpR:Const->Option D
 |.none=>some .non
 |.bool v=>some (.bl v)
 |.int i=>some (.int i)
 |.str x=>some (.str x)
 |_=>none
noncomputable def joK (sc:List (Str×NameKind))(N:List Str)(x:Str):Option E:=
 gd (jcS x) (alt (knd sc x == 1) ((jcR N x).map .var) (gd (knd sc x != 2) ((T.cons.lookup x).map .lit)))
noncomputable def unE:UnaryOp->Option (E->E)
 |.Not=>some .not
 |_=>none
noncomputable def boE:PySem.BoolOp->E->E->E
 |.And=>.and
 |.Or=>.or
noncomputable def jlt:Expr->Option (Option Expr×Option Expr×Option Expr)
 |.Slice a b c _=>some (a,b,c)
 |_=>none
theorem jhA {e:Expr}{p:Option Expr×Option Expr×Option Expr}(h:jlt e=some p):∃q,e=.Slice p.1 p.2.1 p.2.2 q:=by
 cases e with
 |Slice a b c q=>cases h;exact⟨q,rfl⟩
 |_=>exact jad h
noncomputable def joL:Expr->Option (Expr×Str×Pos)
 |.Attribute v m p=>some (v,m,p)
 |_=>none
theorem jfh {e:Expr}{p:Expr×Str×Pos}(h:joL e=some p):e=.Attribute p.1 p.2.1 p.2.2:=by
 cases e with
 |Attribute v m p=>cases h;rfl
 |_=>exact jad h
noncomputable def joM (tr:Expr->Option E)(a i:Expr):Option E:=match jlt i with
 |none=>o2 (tr a) (tr i) .idx
 |some p=>gd p.2.2.isSome (o3 (tr a) (joJ tr p.1) (joJ tr p.2.1) .slc)
noncomputable def jpS (sc:List (Str×NameKind))(tr:Expr->Option E)(f:Str)(a b:Expr):Option E:=
 alt (f == "isinstance") ((jhv T sc b).bind fun ks=>gd (!decide (ks.length<=100)) ((tr a).map fun a=>.isi a ks)) <|
 none
noncomputable def joN (sc:List (Str×NameKind))(tr:Expr->Option E)(f:Str)(as:List Expr):Option E:=match jhz T sc f as with
 |some p=>(tr p.2).map (.blt p.1)
 |none=>match as with
  |[a]=>o2 (jpq T.quiet f) (tr a) .blt
  |[a,b]=>jpS T sc tr f a b
  |_=>none
noncomputable def joO (sc:List (Str×NameKind))(tr:Expr->Option E)(f:Str)(as:List Expr):Option E:=
 gd (jcS f || knd sc f != 2) (match jcR T.defs f with
  |some k=>gd T.quiet ((mapO tr as).map fun es=>.call k ((T.flags[k]?).getD []) (jfa es))
  |none=>joN T sc tr f as)
noncomputable def jhB:Expr->Bool
 |.Name _ _=>true
 |.Constant _ _ _=>true
 |_=>false
theorem jhC {o:Expr}{nm:Str}{env:Env}(h:jhB o=true):attributeBase o nm env (eval o env)=eval o env:=by
 cases o with
 |Name _ _=>rfl
 |Constant _ _ _=>rfl
 |_=>cases h
noncomputable def jpT (sc:List (Str×NameKind))(N:List Str)(tr:Expr->Option E)(as:List Expr)(pos:Pos)(p:Expr×Str×Pos):Option E:=
 alt (p.2.1 == "isupper") (gd (!jhB p.1 || !(p.2.2.endLine == pos.line) || !as.isEmpty) ((tr p.1).map (.blt .isup))) <|
 jmi (jpr p.2.1) (fun sf=>gd (!jhB p.1 || !(p.2.2.endLine == pos.line)) ((jhg as).bind fun a=>o2 (tr p.1) (tr a) (.sm sf))) <|
 (jhh p.1).bind fun x=>gd (jcS x || knd sc x != 1 || !(p.2.1 == "pop") || !(p.2.2.endLine == pos.line) || !as.isEmpty) ((jcR N x).map .pop)
noncomputable def fnE (sc:List (Str×NameKind))(N:List Str)(tr:Expr->Option E)(as:List Expr)(pos:Pos)(f:Expr):Option E:=
 jmi (jhh f) (fun f=>joO T sc tr f as) <| (joL f).bind (jpT sc N tr as pos)
noncomputable def jpU:Const->Option Str
 |.str x=>some x
 |_=>none
noncomputable def fpE (tr:Expr->Option E):Expr->Option E
 |.FormattedValue v c s _=>gd (!(c == -1) || s.isSome) (tr v)
 |.Constant c _ _=>(jpU c).map fun x=>.lit (.str x)
 |_=>none
noncomputable def jnv (es:List E):E:=es.foldl (.bin .add) (.lit (.str Str.empty))
noncomputable def jnw (sc:List (Str×NameKind))(scope:Scope)(xs cn:List Str):Bool:=
 T.quiet || !(scope.kind == .function) || !(scope.names.all fun p=>p.2 != .cell || scope.names.lookup p.1 == some .cell) || !(scope.names.all fun p=>p.2 != .local || scope.names.lookup p.1 == some .local)
     || !(ndp (xs++cn)) || !(xs.all fun x=>scope.names.lookup x == some .local || scope.names.lookup x == some .cell) || !(cn.all fun x=>scope.names.lookup x == some .free && (sc.lookup x == some .cell || sc.lookup x == some .free))
noncomputable def jcx (scope:Scope):List Str:=(scope.names.filter fun p=>p.2 == .free).map (·.1)
noncomputable def jnx (tr:List (Str×NameKind)->List Str->Expr->Option E)(sc:List (Str×NameKind))(N:List Str)(elt:Expr)(scope:Scope)(g:Comprehension):Option E:=
 gd (!(g.is_async == 0)) ((jcm g.target).bind fun p=>gd (jnw T sc scope p.1 (jcx scope)) (o4 (mapO (jcR N) (jcx scope)) (jmk T sc (tr sc N) p.2 g.iter) (tr scope.names (p.1++jcx scope) elt) (jhy (tr scope.names (p.1++jcx scope)) g.ifs)
  fun caps it elt c=>.comp elt (List.range p.1.length) p.2 p.1.length caps it c))
noncomputable def jpV (tr:List (Str×NameKind)->List Str->Expr->Option E)(sc:List (Str×NameKind))(N:List Str):Expr->Option E
 |.Constant c _ _=>(jpR c).map .lit
 |.Name x _=>joK T sc N x
 |.BinOp l o r _=>o3 (jps o) (tr sc N l) (tr sc N r) .bin
 |.UnaryOp o a _=>o2 (unE o) (tr sc N a) fun f a=>f a
 |.BoolOp o vs _=>(mapO (tr sc N) vs).bind (jdH (boE o))
 |.Compare a os cs _=>o2 (jhg os) (jhg cs) Prod.mk |>.bind fun p=>gd (behindInMarks p.1 p.2) (o3 (jpt p.1) (tr sc N a) (tr sc N p.2) .cmp)
 |.IfExp c a b _=>o3 (tr sc N c) (tr sc N a) (tr sc N b) .ite
 |.Tuple es _ _=>(mapO (tr sc N) es).map fun es=>.tup (jfa es)
 |.List es _=>(mapO (tr sc N) es).map fun es=>.lst (jfa es)
 |.Subscript a i _=>joM (tr sc N) a i
 |.JoinedStr ps _=>gd (decide (ps.length < 2)) ((mapO (fpE (tr sc N)) ps).map jnv)
 |.Call f as ks pos=>gd (!ks.isEmpty) (fnE T sc N (tr sc N) as pos f)
 |.ListComp elt gens scope _=>(jhg gens).bind (jnx T tr sc N elt scope)
 |_=>none
noncomputable def trE:Nat->List (Str×NameKind)->List Str->Expr->Option E
 |0=>fun _ _ _=>none
 |n + 1=>jpV T (trE n)
end
theorem jlu {op:Operator}{o:Op}(h:jps op=some o):op=o.py:=by cases op <;> cases h <;> rfl
theorem jlv {op:CmpOp}{o:Cm}(h:jpt op=some o):op=o.py:=by cases op <;> cases h <;> rfl
noncomputable def Lr {α:Type}(r r':R α):Prop:=r=.stk\/r=r'
theorem Lr.refl {α:Type}{r:R α}:Lr r r:=.inr rfl
theorem Lr.bind {α β:Type}{r r':R α}{f g:α->R β}(h:Lr r r')(k:∀a,Lr (f a) (g a)):Lr (r.bind f) (r'.bind g):=by
 rcases h with rfl | rfl
 ·exact .inl rfl
 ·cases r with
  |ok a=>exact k a
  |err c=>exact .inr rfl
  |stk=>exact .inl rfl
theorem Lr.ok {α:Type}{W:Nat->Prop}{r r':R α}{Q:α->Prop}(h:Lr r r')(q:Ok W r Q):Ok W r' Q:=by
 rcases h with rfl | rfl
 ·exact False.elim q
 ·exact q
theorem Lr.deref {v:Vl}{ρ:Rho}:Lr (deref v []) (deref v ρ):=by
 cases v with
 |dat d=>exact .inr rfl
 |tmp o=>exact .inr rfl
 |slot i=>exact .inl (by simp[DJ.deref])
structure Says (G:Calls)(U:Nat->Nat->Bool)(Z:Kn)(X:Cx)(e:Expr)(E':E):Prop where
 pe:∀B,PE X e (tE Z X B (evE G U E'))
 pt:∀B,PT X e (tT Z X B (evT G U E'))
 ns:∀a p,e≠.Starred a p
section
variable {T:Tab}{G:Calls}{U:Nat->Nat->Bool}{Z:Kn}{m:Nat}{X:Cx}{sc:List (Str×NameKind)}
theorem jde {α β:Type}{f:α->Option β}:∀{as:List α}{bs:List β},mapO f as=some bs->as.length=bs.length
 |[],bs,h=>by cases h;rfl
 |a::as,bs,h=>by
  obtain⟨b,bs',_,h2,rfl⟩:=jaq h;rw[jqe,jqe,jde h2]
theorem jbE {α β:Type}{f:α->Option β}{P:α->β->Prop}(k:∀a b,f a=some b->P a b):∀{as:List α}{bs:List β},mapO f as=some bs->Paired P as bs
 |[],bs,h=>by cases h;exact .nil
 |a::as,bs,h=>by
  obtain⟨b,bs',h1,h2,rfl⟩:=jaq h;exact .cons (k a b h1) (jbE k h2)
theorem jfi {α β:Type}{f:α->Option β}:∀{as:List α}{bs:List β}{i:Nat}{a:α}{b:β},mapO f as=some bs->as[i]?=some a->bs[i]?=some b->f a=some b
 |[],_,_,_,_,_,e,_=>by simp at e
 |x::as,bs,i,a,b,h,e1,e2=>by
  obtain⟨y,bs',h1,h2,rfl⟩:=jaq h;cases i with
  |zero=>simp at e1 e2;rw[<-e1,<-e2];exact h1
  |succ i=>exact jfi h2 (by simpa using e1) (by simpa using e2)
theorem Says.mk' (hK:X.K=Z.K){e:Expr}{E':E}(pe:∀B,PE X e (tE Z X B (evE G U E')))(he:∀whole,isTrue e X.env whole=(do let v <-whole;standAt e.pos;holding [v] (truthy v)))(ns:∀a p,e≠.Starred a p)(hl:∀ρ,Lr (evT G U E' ρ) (trF (evE G U E') ρ)):Says G U Z X e E':=
 ⟨pe,fun B=>PT.imp (joD hK (pe B) he) fun σ H Q ⟨F,ρ,r,q⟩=>⟨F,ρ,r,(hl ρ).ok q⟩,ns⟩
theorem Lr.none {α:Type}{r:R α}:Lr .stk r:=.inl rfl
theorem jfj {n:Nat}(D:XD T G U Z m X sc)(ih:∀e E',trE T n sc X.N e=some E'->Says G U Z X e E'){iter tg:Expr}{it:It}{one:Bool}(h1:one=false->∃es k pos,tg=.Tuple es k pos)(h:jmk T sc (trE T n sc X.N) one iter=some it)(B:Bs) :
  PI X tg iter (tI Z X B (evI G U it)):=by
 have gen:∀{e:Expr}{it:It},(trE T n sc X.N e).map It.seq=some it->PI X tg e (tI Z X B (evI G U it)):=fun {e it} h=>by
  cases q:trE T n sc X.N e with
  |none=>rw[q]at h;cases h
  |some E'=>
   rw[q]at h;cases h;have:=jnq (tg:=tg) D.hK ((ih e E' q).pe B);have ev:(fun ρ=>(evE G U E' ρ).bind fun p=>jbo p.1 p.2)=evI G U (.seq E'):=by funext ρ;simp only[evI]
   rwa [ev]at this
 unfold jmk at h;cases hc:jdL iter with
 |none=>rw[hc]at h;exact gen h
 |some c=>
  rw[hc]at h;obtain⟨p,pos,rfl⟩:=jbU hc;obtain⟨f,as⟩:=c;replace h:jpu T sc (trE T n sc X.N) one _ (f,as)=some it:=h;replace h:=jax h;rcases h with ⟨hf,h⟩ | h
  ·simp only[isB,jqI,beq_iff_eq]at hf;obtain⟨hf,hk,_⟩:=hf;subst hf;cases as with
   |nil=>exact jad h
   |cons a r=>
    cases r with
    |nil=>
     replace h:=jag h;obtain⟨E',q,rfl⟩:=h;have S:=ih a E' q;have:=jlf (tg:=tg) (p:=p) (pos:=pos) (D.gl hk) (D.blt _ (by decide +kernel)) (S.pe B) S.ns
     rwa [show (fun ρ=>(evE G U E' ρ).bind fun p=>(deref p.1 p.2).bind fun x=>(jcv x).bind fun xs=>R.ok (xs,([]:List Nat),p.2))=evI G U (.rng1 E')by funext ρ;simp only[evI]]at this
    |cons b r=>
     exact jad h
  exact gen h
theorem jcT {n:Nat}{N:List Str}{one:Bool}{iter:Expr}{it:It}(h:jmk T sc (trE T n sc N) one iter=some it):∀a b c,iter≠.Set a b c:=by
 intro a b c z;subst z;cases n with
 |zero=>exact jad h
 |succ n=>exact jad h
theorem jdM:∀{xs:List Str},ndp xs=true->xs.Nodup
 |[],_=>List.nodup_nil
 |x::r,h=>by
  simp only[ndp,jqI,Bool.not_eq_true']at h;refine List.nodup_cons.mpr ⟨fun z=>?_,jdM h.2⟩;rw[List.contains_iff_mem.mpr z]at h;exact absurd h.1 (by decide)
theorem jj7 {es:List Expr}{xs:List Str}(h:mapO jhh es=some xs):∃ps:List Pos,es.length=xs.length/\ps.length=xs.length/\es=(xs.zip ps).map fun p=>Expr.Name p.1 p.2:=by
 induction es generalizing xs with
 |nil=>cases h;exact⟨[],rfl,rfl,rfl⟩
 |cons e es ih=>
  obtain⟨x,xs',h1,h2,rfl⟩:=jaq h;obtain⟨ps,l1,l2,e2⟩:=ih h2;obtain⟨pos,rfl⟩:=ja3 h1;exact⟨pos::ps,by simp[l1],by simp[l2],by simp[e2]⟩
theorem jj8 {X:Cx}:∀(xs:List Str) (ps:List Pos) (k:Nat),ps.length=xs.length->(∀(i:Nat) x,xs[i]?=some x->X.N[k + i]?=some x/\L2.Loc X.env.scope x/\(X.fn x=true\/X.env.scope.names.lookup x=some .local)) ->
  TgsOk X ((xs.zip ps).map fun p=>Expr.Name p.1 p.2) ((List.range xs.length).map (k + ·))
 |[],_,_,_,_=>.nil
 |x::xs,[],_,h,_=>by simp at h
 |x::xs,p::ps,k,h,hN=>by
  obtain⟨a,b⟩:=hN 0 x rfl;have ih:=jj8 (X:=X) xs ps (k + 1) (by simpa using h) fun i y hy=>by
   have:=hN (i + 1) y (by simpa using hy)
   rwa [show k + (i + 1)=k + 1 + i by omega]at this
  rw[jqe,List.range_succ_eq_map,jqb,List.map_map];have e:(List.range xs.length).map ((k + ·) ∘ Nat.succ)=(List.range xs.length).map (k + 1 + ·):=by
   apply List.map_congr_left;intro i _;show k + (i + 1)=k + 1 + i;omega
  rw[e];exact .cons a b.1 b.2 ih
theorem jdN {e:Expr}{env:Env}(h:∀a b c,e≠.Set a b c):∀x,foldedSetIterable e env x=pure x:=fun x=>by
 unfold foldedSetIterable;cases e <;> first | rfl | exact absurd rfl (h _ _ _)
theorem jdO {scope:Scope}{env:Env}{x:Str}(h:scope.names.lookup x=some .local):(relabel scope env).names.lookup x=some .local:=by
 unfold relabel;simp only;rw[jaU (c:=fun n k=>k == .free && env.scope.kind == .function && env.kindOf n == some .cell),h];rfl
theorem jji {scope:Scope}{env:Env}{x:Str}(h:scope.names.lookup x=some .cell):(relabel scope env).names.lookup x=some .cell:=by
 unfold relabel;simp only;rw[jaU (c:=fun n k=>k == .free && env.scope.kind == .function && env.kindOf n == some .cell),h];rfl
structure CompD (X:Cx)(G:Calls)(U:Nat->Nat->Bool)(Z:Kn)(scope:Scope)(N cn:List Str)(nt:Nat)(caps:List Nat)(elt tg iter:Expr)(ks:List Expr)(tgs:List Nat)(one:Bool)(it:It)(fc:Option (Rho->R (Bool×Rho)))(Ee:E):Prop where
 C:CompOk X scope N cn nt caps
 hT:∀s' H' fp,TgOk (cxComp X N scope s' H' fp) tg tgs one
 hlow:∀i∈tgs,i < nt
 hi:∀B,PI X tg iter (tI Z X B (evI G U it))
 hE:∀s' H' fp B',PE (cxComp X N scope s' H' fp) elt (tE Z (cxComp X N scope s' H' fp) B' (evE G U Ee))
 hK:(ks=[]/\fc=none)\/∃k g,ks=[k]/\fc=some g/\∀s' H' fp B',PT (cxComp X N scope s' H' fp) k (tT Z (cxComp X N scope s' H' fp) B' g)
 hs:∀x,foldedSetIterable iter X.env x=pure x
theorem jhD {n:Nat}(D:XD T G U Z m X sc)(ih:∀(X:Cx) (sc:List (Str×NameKind)) (e:Expr) (E':E),XD T G U Z m X sc->trE T n sc X.N e=some E'->Says G U Z X e E')
  {elt tg iter:Expr}{ks:List Expr}{scope:Scope}{xs:List Str}{one:Bool}{caps:List Nat}{it:It}{Ee:E}{Ec:Oe} (htg:jcm tg=some (xs,one))
  (c1:scope.kind=.function) (c2:∀y∈scope.names,y.2=.cell->scope.names.lookup y.1=some .cell) (c3:∀y∈scope.names,y.2=.local->scope.names.lookup y.1=some .local) (c4:(xs++jcx scope).Nodup)
  (c5:∀x∈xs,scope.names.lookup x=some .local\/scope.names.lookup x=some .cell) (c6:∀x∈jcx scope,scope.names.lookup x=some .free/\(sc.lookup x=some .cell\/sc.lookup x=some .free))
  (hcaps:mapO (jcR X.N) (jcx scope)=some caps) (hit:jmk T sc (trE T n sc X.N) one iter=some it) (helt:trE T n scope.names (xs++jcx scope) elt=some Ee)
  (hks:jhy (trE T n scope.names (xs++jcx scope)) ks=some Ec) :
  ∃N cn fc,CompD X G U Z scope N cn xs.length caps elt tg iter ks (List.range xs.length) one it fc Ee /\
   ∀ρ,evE G U (.comp Ee (List.range xs.length) one xs.length caps it Ec) ρ=(evI G U it ρ).bind fun t=>((compGo (jcf (List.range xs.length) one xs.length caps fc (evE G U Ee)) t.1 t.2.2).noErr).bind fun ys=>.ok (.tmp (.l ys.1),unlk t.2.1 ys.2):=by
 generalize hcn:jcx scope=cn at *;have C:CompOk X scope (xs++cn) cn xs.length caps:=by
  refine⟨c1,c2,c3,fun y hy e=>?_,c4,⟨xs,rfl,rfl⟩,jde hcaps,fun k j x h1 h2=>⟨jaC (jfi hcaps h1 h2),(c6 x (jqg h1)).1⟩⟩;have hm:y.1∈cn:=by
   rw[<-hcn];exact List.mem_map.mpr ⟨y,List.mem_filter.mpr ⟨hy,by simp[e]⟩,rfl⟩
  have:=(c6 y.1 hm).2;rcases D.sc y.1 with z | ⟨_,z⟩
  ·rw[z];exact this
  ·exact .inl z
 have hT:∀s' H' fp,TgOk (cxComp X (xs++cn) scope s' H' fp) tg (List.range xs.length) one:=fun s' H' fp=>by
  have hN:∀(i:Nat) x,xs[i]?=some x->(xs++cn)[i]?=some x/\L2.Loc (relabel scope X.env) x/\((scope.names.lookup x == some .cell)=true\/(relabel scope X.env).names.lookup x=some .local):=fun i x e=>⟨by rw[jql (List.getElem?_eq_some_iff.mp e).1];exact e,(c5 x (jqg e)).elim (fun z=>⟨.inl (jdO z),.inr (jdO z)⟩) fun z=>⟨.inr (jji z),.inl (by rw[z];rfl)⟩⟩
  rcases jhx htg with ⟨x,p,rfl,rfl,rfl⟩ | ⟨es,k,p,rfl,q,rfl⟩
  ·obtain⟨a,b⟩:=hN 0 x rfl;exact .one a b.1 b.2
  ·obtain⟨ps,l1,l2,e⟩:=jj7 q;rw[e];have:=jj8 (X:=cxComp X (xs++cn) scope s' H' fp) xs ps 0 l2 fun i x hx=>by
    rw[Nat.zero_add];exact hN i x hx
   simp only[Nat.zero_add,List.map_id']at this;exact .many this
 have hone:one=false->∃es k pos,tg=.Tuple es k pos:=fun ho=>by
  subst ho;rcases jhx htg with ⟨x,p,_,_,z⟩ | ⟨es,k,p,e,_⟩
  ·cases z
  ·exact⟨es,k,p,e⟩
 have hlow:∀i∈List.range xs.length,i < xs.length:=fun i h=>List.mem_range.mp h;have hi:∀B,PI X tg iter (tI Z X B (evI G U it)):=fun B=>jfj (tg:=tg) D (fun e E' h=>ih X sc e E' D h) hone hit B;have hE:∀s' H' fp B',PE (cxComp X (xs++cn) scope s' H' fp) elt (tE Z (cxComp X (xs++cn) scope s' H' fp) B' (evE G U Ee)):=fun s' H' fp B'=>(ih (cxComp X (xs++cn) scope s' H' fp) scope.names elt Ee (D.comp c4) helt).pe B';have hs:=jdN (env:=X.env) (jcT hit);cases ks with
 |nil=>
  cases hks;exact⟨xs++cn,cn,none,⟨C,hT,hlow,hi,hE,.inl ⟨rfl,rfl⟩,hs⟩,fun ρ=>by simp only[evE];rfl⟩
 |cons k r=>
  cases r with
  |nil=>
   simp only[jhy]at hks;cases q:trE T n scope.names (xs++cn) k with
   |none=>rw[q]at hks;cases hks
   |some Ek=>
    rw[q]at hks;cases hks;exact⟨xs++cn,cn,some (evT G U Ek),⟨C,hT,hlow,hi,hE,.inr ⟨k,evT G U Ek,rfl,rfl,fun s' H' fp B'=>(ih (cxComp X (xs++cn) scope s' H' fp) scope.names k Ek (D.comp c4) q).pt B'⟩,hs⟩,fun ρ=>by simp only[evE];rfl⟩
  |cons k2 r2=>cases hks
end
end DJ
namespace DJ
open PySem PySem.Spec PyProof.Rows L2
variable {T:Tab}{G:Calls}{U:Nat->Nat->Bool}{Z:Kn}{m:Nat}
theorem jdP {n:Nat}{X:Cx}{sc:List (Str×NameKind)}(D:XD T G U Z m X sc)(ih:∀(X:Cx) (sc:List (Str×NameKind)) (e:Expr) (E':E),XD T G U Z m X sc->trE T n sc X.N e=some E'->Says G U Z X e E')
  {elt:Expr}{gens:List Comprehension}{scope:Scope}{pos:Pos}{E':E} (h:trE T (n + 1) sc X.N (.ListComp elt gens scope pos)=some E') :
  T.quiet=false/\∃tg iter ks N cn nt caps tgs one it fc Ee Ec,gens=[⟨tg,iter,ks,0⟩]/\E'=.comp Ee tgs one nt caps it Ec/\CompD X G U Z scope N cn nt caps elt tg iter ks tgs one it fc Ee /\
   ∀ρ,evE G U E' ρ=(evI G U it ρ).bind fun t=>((compGo (jcf tgs one nt caps fc (evE G U Ee)) t.1 t.2.2).noErr).bind fun ys=>.ok (.tmp (.l ys.1),unlk t.2.1 ys.2):=by
 obtain⟨⟨tg,iter,ks,a⟩,hg,h⟩:=jaf (show (jhg gens).bind (jnx T (trE T n) sc X.N elt scope)=some E' from h);cases jaQ hg;replace h:=jah h;obtain⟨ha,h⟩:=h;have ha:a=0:=by simpa using ha
 subst ha;replace h:=jaf h;obtain⟨⟨xs,one⟩,htg,h⟩:=h;replace h:=jah h;obtain⟨hc,h⟩:=h;replace h:=jng h;obtain⟨caps,it,Ee,Ec,hcaps,hit,helt,hks,rfl⟩:=h;simp only[jnw,Bool.or_eq_false_iff,Bool.not_eq_false',beq_iff_eq]at hc;obtain⟨⟨⟨⟨⟨⟨c0,c1⟩,c2⟩,c3⟩,c4⟩,c5⟩,c6⟩:=hc;obtain⟨N,cn,fc,cd,ev⟩:=jhD (Ec:=Ec) D ih htg c1 (fun y hy z=>by
  have:=List.all_eq_true.mp c2 y hy;rw[z]at this;simpa using this) (fun y hy z=>by
  have:=List.all_eq_true.mp c3 y hy;rw[z]at this;simpa using this) (jdM c4) (fun x hx=>by simpa using List.all_eq_true.mp c5 x hx) (fun x hx=>by simpa using List.all_eq_true.mp c6 x hx) hcaps hit helt hks
 exact⟨c0,tg,iter,ks,N,cn,xs.length,caps,_,one,it,fc,Ee,Ec,rfl,rfl,cd,ev⟩
theorem jjj {f:Str}{args:List Expr}{bf:Bf}{b:Expr}(h:jhz T sc f args=some (bf,b)):∃g p2 pos2,args=[.Call (.Name g p2) [b] [] pos2]/\T.quiet=false/\jcS g=false/\knd sc g=2/\jls f g=some bf:=by
 replace h:=jaf h;obtain⟨c,h1,h⟩:=h;cases jaQ h1;replace h:=jaf h;obtain⟨⟨g,as⟩,h2,h⟩:=h;obtain⟨np,pos,rfl⟩:=jbU h2;replace h:=jaf h;obtain⟨b',h3,h⟩:=h;have h3:=jaQ h3;replace h:=jah h;obtain⟨hc,h⟩:=h;replace h:=jag h;obtain⟨bf',q,e⟩:=h;cases e;replace hc:=jbk hc;obtain⟨hc,_⟩:=hc;replace hc:=jbk hc;obtain⟨hc,c3⟩:=hc;replace hc:=jbk hc;obtain⟨c1,c2⟩:=hc;refine⟨g,np,pos,?_,c1,c2,jeo c3,q⟩;rw[show as=[b] from h3]
theorem Says.nt {X:Cx}{e:Expr}{E':E}(pe:∀B,PE X e (tE Z X B (evE G U E')))(hT:∀ρ,evT G U E' ρ=.stk)(ns:∀a p,e≠.Starred a p):Says G U Z X e E':=
 ⟨pe,fun B=>by rw[tT.congr hT];exact jni,ns⟩
theorem lrB {g:Bf}{Ea:E}(ρ:Rho):Lr (evT G U (.blt g Ea) ρ) (trF (evE G U (.blt g Ea)) ρ):=by
 simp only[evT,trF,evE,R.bind_assoc,R.bind_ok'];exact Lr.refl.bind fun _=>Lr.refl.bind fun _=>Lr.refl.bind fun _=>Lr.deref.bind fun _=>Lr.refl
theorem lrO {o:Op}{a b:E}(ρ:Rho):Lr (evT G U (.bin o a b) ρ) (trF (evE G U (.bin o a b)) ρ):=by
 simp only[evT,trF,evE,R.bind_assoc,R.bind_ok'];exact Lr.refl.bind fun _=>Lr.refl.bind fun _=>Lr.refl.bind fun _=>Lr.refl.bind fun _=>Lr.refl.bind fun _=>Lr.deref.bind fun _=>Lr.refl
noncomputable def fgo (G:Calls)(U:Nat->Nat->Bool):List E->Str->Rho->R (Vl×Rho)
 |[],acc,ρ=>.ok (.dat (.str acc),ρ)
 |e::es,acc,ρ=>(evE G U e ρ).bind fun q=>(deref q.1 q.2).bind fun y=>(opD .add (.str acc) y).bind fun v=>(jkO v).bind fun a=>fgo G U es a q.2
theorem add_str {acc:Str}{y:D}{α:Type}(k:Vl->R α):(opD .add (.str acc) y).bind k=(opD .add (.str acc) y).bind fun v=>(jkO v).bind fun a=>k (.dat (.str a)):=by
 cases y with
 |str z=>
  show (if fits (acc.length + z.length)then (.ok (.dat (.str (acc++z))):R Vl)else .stk).bind k=(if fits (acc.length + z.length)then (.ok (.dat (.str (acc++z))):R Vl)else .stk).bind _;split <;> rfl
 |_=>rfl
theorem jhE:∀(es:List E) (A:E) (ρ:Rho) (c:R (Str×Rho)),(evE G U A ρ=c.bind fun t=>.ok (.dat (.str t.1),t.2))->evE G U (es.foldl (.bin .add) A) ρ=c.bind fun t=>fgo G U es t.1 t.2
 |[],A,ρ,c,h=>h
 |e::es,A,ρ,c,h=>by
  rw[List.foldl_cons,jhE es (.bin .add A e) ρ (c.bind fun t=>(evE G U e t.2).bind fun q=>(deref q.1 q.2).bind fun y=>(opD .add (.str t.1) y).bind fun v=>(jkO v).bind fun a=>.ok (a,q.2)) ?_]
  ·simp only[R.bind_assoc,R.bind_ok',fgo]
  ·simp only[evE,h,R.bind_assoc,R.bind_ok',deref];congr 1;funext t;congr 1;funext q;congr 1;funext y;exact add_str _
theorem jfk:∀(es:List E) (A:E),(∃a b,A=.bin .add a b)->∃a b,es.foldl (.bin .add) A=.bin .add a b
 |[],A,h=>h
 |e::es,A,_=>jfk es _ ⟨A,e,rfl⟩
theorem jdf {X:Cx}{sc:List (Str×NameKind)}{n:Nat}{B:Bs}(ih1:∀e E',trE T n sc X.N e=some E'->Says G U Z X e E'):∀{ps:List Expr}{es:List E},mapO (fpE (trE T n sc X.N)) ps=some es ->
  ∀(acc:Str) (pins:List (Addr×Obj)) (s:Shared) (σ:L2.St) (H:Hp) (Q:VK),Inv X pins σ H s->acc.length<=sizeLine->tE Z X B (fgo G U es acc) σ H Q ->
   Joins (model X.prog X.w) X.A X.xe (evalEach ps X.env) acc (fun out s1=>out.length<=sizeLine/\EP X pins σ Q (.str out s1.toks) { s1 with toks:=s1.toks + 1 }) s
 |[],es,h,acc,pins,s,σ,H,Q,I,hl,q=>by
  cases h;obtain⟨F,ρ,r,q⟩:=q;exact⟨hl,.str acc,H,I.tok _,⟨_,rfl⟩,q _ F H Go.refl r (by show Rep _ _ _ _ _;simp only[Rep])⟩
 |p::ps,es,h,acc,pins,s,σ,H,Q,I,hl,q=>by
  obtain⟨e,es',h1,h2,rfl⟩:=jaq h;obtain⟨F,ρ,r,q⟩:=q;have step:∀{v:V}{F1:Addr->Prop}{H1:Hp}{p:Vl×Rho},Ok (XW Z X σ ρ H) ((deref p.1 p.2).bind fun y=>(opD .add (.str acc) y).bind fun v=>(jkO v).bind fun a=>fgo G U es' a p.2) (Post Z B σ ρ F H Q)->Go σ ρ F H σ p.2 F1 H1->SR Z B F1 H1 σ p.2->RV Z F1 H H1 σ p.2 p.1 v ->
    ∃y,v=.str y/\(acc++y).length<=sizeLine/\tE Z X B (fgo G U es' (acc++y)) σ H1 Q:=fun {v F1 H1 p} h3 g1 r1 rv=>by
   obtain⟨y,ey,h4⟩:=h3.bind.pure fun c=>jay;have rb:=jaP rv r1 ey;cases y with
   |str y=>
    have h4:Ok (XW Z X σ ρ H) ((if fits (acc.length + y.length)then (.ok (.dat (.str (acc++y))):R Vl)else .stk).bind fun v=>(jkO v).bind fun a=>fgo G U es' a p.2) (Post Z B σ ρ F H Q):=h4;split at h4
    ·rename_i hf;refine⟨y,rb.str,by rw[strLen_append];exact jaA hf,F1,p.2,r1,Ok.imp h4 (fun c w=>w.mono g1) fun a z=>z.ext g1⟩
    ·exact False.elim h4
   |_=>exact False.elim h4
  refine Joins_cons ?_;cases p with
  |FormattedValue v c sp pos=>
   replace h1:=jah h1;obtain⟨hc,h1⟩:=h1;replace hc:=jbk hc;obtain⟨c1,c2⟩:=hc;cases sp with
   |some _=>cases c2
   |none=>
    have c1:c=-1:=by simpa using c1
    subst c1;refine wpAny_FormattedValue_plain (thn (((ih1 _ _ h1).pe B) pins s σ H _ I ⟨F,ρ,r,q.bind.imp (fun _ w=>w) fun p h3 x F1 H1 g1 r1 rv=>step h3 g1 r1 rv⟩) fun u s1 hz=>?_);obtain⟨x,H1,I1,ru,y,rfl,hl2,q2⟩:=hz;obtain⟨t,rfl⟩:=ru;exact SB.field_str (fun t' k=>⟨y,t',rfl,hl2,jdf ih1 h2 _ pins _ σ H1 Q (I1.tok k) hl2 q2⟩) (by have:=strLen_append acc y;omega)
  |Constant c k pos=>
   obtain⟨z,hz,rfl⟩:=jag h1;cases c with
   |str z'=>
    cases hz;simp only[evE,fgo,R.bind_ok']at q;obtain⟨y,e,hl2,q2⟩:=step (v:=.str z) (p:=(.dat (.str z),ρ)) q Go.refl r (by show Rep _ _ _ _ _;simp only[Rep])
    cases e;exact Calls.Constant_str ⟨z,_,rfl,hl2,jdf ih1 h2 _ pins _ σ H Q (I.tok _) hl2 q2⟩
   |_=>exact jad hz
  |_=>exact jad h1
theorem jlw {X:Cx}{sc:List (Str×NameKind)}{n:Nat}(hK:X.K=Z.K)(ih1:∀e E',trE T n sc X.N e=some E'->Says G U Z X e E'){ps:List Expr}{es:List E}{pos:Pos}(hl:2<=ps.length)(h:mapO (fpE (trE T n sc X.N)) ps=some es):Says G U Z X (.JoinedStr ps pos) (jnv es):=by
 have pe:∀B,PE X (.JoinedStr ps pos) (tE Z X B (evE G U (jnv es))):=fun B pins s σ H Q I q=>by
  have e:tE Z X B (evE G U (jnv es))=tE Z X B (fgo G U es Str.empty):=tE.congr fun ρ=>jhE es (.lit (.str Str.empty)) ρ (.ok (Str.empty,ρ)) (by simp only[evE];rfl)
  rw[e]at q;match ps,hl,h with
  |p1::p2::r,_,h=>exact wpAny_JoinedStr (jdf ih1 h _ pins s σ H Q I (Nat.zero_le _) q)
 refine Says.mk' hK pe (fun _=>rfl) (fun _ _ z=>by cases z) fun ρ=>?_
 have hn:∃a b,jnv es=.bin .add a b:=by
  cases es with
  |nil=>rw[jde h]at hl;cases hl
  |cons e es=>exact jfk es _ ⟨_,e,rfl⟩
 obtain⟨a,b,e⟩:=hn;rw[e];exact lrO ρ
theorem jdg:∀(n:Nat) (X:Cx) (sc:List (Str×NameKind)) (e:Expr) (E':E),XD T G U Z m X sc->trE T n sc X.N e=some E'->Says G U Z X e E':=by
 intro n;induction n with
 |zero=>intro X sc e E' D h;exact jad h
 |succ n ih=>
  intro X sc e E' D h;have hK:=D.hK;have ih1:∀e E',trE T n sc X.N e=some E'->Says G U Z X e E':=fun e E' h=>ih X sc e E' D h;have lit:∀{e:Expr}{d:DJ.D}{v:V},PE X e (tC v)->(∀whole,isTrue e X.env whole=(do let v <-whole;standAt e.pos;holding [v] (truthy v)))->(∀a p,e≠.Starred a p)->(∀F H,Rep Z F H d v)->Says G U Z X e (.lit d):=fun {e d v} h1 h2 h3 h4=>
   Says.mk' hK (fun B=>jla h1 h4) h2 h3 fun ρ=>by simp only[evT,trF,evE,R.bind_ok',deref];exact Lr.refl
  have prd:∀{vs:List Expr}{es:List E},mapO (trE T n sc X.N) vs=some es->∀B,Paired (fun e E'=>PE X e (tE Z X B (evE G U E'))/\PT X e (tT Z X B (evT G U E'))) vs es:=fun q B=>jbE (fun e E' z=>⟨(ih1 _ _ z).pe B,(ih1 _ _ z).pt B⟩) q;have prn:∀{vs:List Expr}{es:List E},mapO (trE T n sc X.N) vs=some es->∀B,Paired (fun e E'=>PE X e (tE Z X B (evE G U E'))/\∀a p,e≠.Starred a p) vs es:=fun q B=>jbE (fun e E' z=>⟨(ih1 _ _ z).pe B,(ih1 _ _ z).ns⟩) q;have h0:=h;cases e with
  |Constant c k pos=>
   replace h:=jag h;obtain⟨d,hl,rfl⟩:=h;cases c with
   |none=>cases hl;exact lit jms (fun _=>rfl) (fun _ _ z=>by cases z) fun _ _=>by simp only[Rep]
   |bool v=>cases hl;exact lit joa (fun _=>rfl) (fun _ _ z=>by cases z) fun _ _=>by simp only[Rep]
   |int i=>cases hl;exact lit jmr (fun _=>rfl) (fun _ _ z=>by cases z) fun _ _=>by simp only[Rep]
   |str x=>cases hl;exact lit jmt (fun _=>rfl) (fun _ _ z=>by cases z) fun _ _=>by simp only[Rep]
   |_=>exact jad hl
  |Name x pos=>
   replace h:=jah h;obtain⟨hb,h⟩:=h;replace h:=jax h;rcases h with ⟨hk,h⟩ | h
   ·replace h:=jag h;obtain⟨i,q,rfl⟩:=h;refine Says.mk' hK (fun B=>ji5 (pos:=pos) D (by simpa using hk) (jaC q) hb) (fun _=>rfl) (fun _ _ z=>by cases z) fun ρ=>?_
    simp only[evT,trF,evE];cases e:ρ[i]? with
    |none=>exact Lr.none
    |some s=>
     cases s with
     |no=>exact Lr.none
     |_=>simp only[R.bind_ok',deref,e];exact Lr.refl
   ·replace h:=jah h;obtain⟨hk,h⟩:=h;replace h:=jag h;obtain⟨d,q,rfl⟩:=h;obtain⟨u,v,hm,rv,rp⟩:=D.cons x d q;exact lit (jgo (D.gl (jeo hk)) hm rv (jea hb).1) (fun _=>rfl) (fun _ _ z=>by cases z) rp
  |BinOp l op r pos=>
   replace h:=jch h;obtain⟨o,El,Er,ho,hl,hr,rfl⟩:=h;have Sl:=ih1 _ _ hl;have Sr:=ih1 _ _ hr;cases jlu ho;refine Says.mk' hK (fun B=>PE.imp (joj (joA hK o) (Sl.pe B) (Sr.pe B)) fun σ H Q q=>tE.two (fun _ _ _=>jkW) (fun _ _ _=>jiX) (by simpa only[evE] using q)) (fun _=>rfl) (fun _ _ z=>by cases z) lrO
  |UnaryOp o a pos=>
   replace h:=jbJ h;obtain⟨f,Ea,ho,q,rfl⟩:=h;have S:=ih1 _ _ q;cases o with
   |Not=>
    cases ho;exact⟨fun B=>PE.imp (jmA (S.pe B)) fun σ H Q z=>jk4 (by simpa only[evE] using z),fun B=>PT.imp (jmw (S.pt B)) fun σ H Q z=>ji1 (by simpa only[evT] using z),fun _ _ z=>by cases z⟩
   |_=>exact jad ho
  |BoolOp o vs pos=>
   replace h:=jaf h;obtain⟨es,q,h⟩:=h;cases o with
   |And=>exact⟨fun B=>(jhj (prd q B) h).1,fun B=>(jhj (prd q B) h).2.pt,fun _ _ z=>by cases z⟩
   |Or=>exact⟨fun B=>(jj3 (prd q B) h).1,fun B=>(jj3 (prd q B) h).2.pt,fun _ _ z=>by cases z⟩
  |Compare a os cs pos=>
   replace h:=jaf h;obtain⟨⟨op,c⟩,h1,h⟩:=h;replace h1:=jbJ h1;obtain⟨op',c',e1,e2,e3⟩:=h1;cases e3;cases jaQ e1;cases jaQ e2;replace h:=jah h;obtain⟨hmk,h⟩:=h;replace h:=jch h;obtain⟨o,Ea,Ec,ho,ha,hc,rfl⟩:=h;have Sa:=ih1 _ _ ha;have Sc:=ih1 _ _ hc;cases jlv ho;have ok:=joC (X:=X) hK D.un o;have be:∀x y c,bD (cmD o) x y≠.err c:=fun x y c z=>by
    unfold bD at z;cases e:cmD o x y with
    |ok b=>rw[e]at z;cases z
    |err c'=>exact jkZ e
    |stk=>rw[e]at z;cases z
   have bs:∀x y i,bD (cmD o) x y≠.ok (.slot i):=fun x y i z=>by
    unfold bD at z;obtain⟨b,_,z⟩:=R.bind_ok z;cases z
   refine⟨fun B=>PE.imp (jkt ok (Sa.pe B) (Sc.pe B) hmk) fun σ H Q q=>tE.two be bs (by simpa only[evE,bD,R.bind_assoc,R.bind_ok'] using q),fun B=>PT.imp (jku ok (Sa.pe B) (Sc.pe B) hmk) fun σ H Q q=>?_,fun _ _ z=>by cases z⟩
   have q2:=tT.toE (by simpa only[evT] using q)
   simp only[R.bind_assoc,R.bind_ok']at q2;exact tE.two be bs (by simpa only[bD,R.bind_assoc,R.bind_ok'] using q2)
  |IfExp c a b pos=>
   replace h:=jch h;obtain⟨Ec,Ea,Eb,hc,ha,hb,rfl⟩:=h;have Sc:=ih1 _ _ hc;have Sa:=ih1 _ _ ha;have Sb:=ih1 _ _ hb;exact Says.nt (fun B=>PE.imp (jir (Sc.pt B) (Sa.pe B) (Sb.pe B)) fun σ H Q z=>jnk (by simpa only[evE] using z)) (fun ρ=>by simp only[evT]) fun _ _ z=>by cases z
  |Tuple es k pos=>
   replace h:=jag h;obtain⟨Es',q,rfl⟩:=h;exact Says.nt (fun B=>jlb (prn q B)) (fun ρ=>by simp only[evT]) fun _ _ z=>by cases z
  |List es pos=>
   replace h:=jag h;obtain⟨Es',q,rfl⟩:=h;exact Says.nt (fun B=>jlc (prn q B)) (fun ρ=>by simp only[evT]) fun _ _ z=>by cases z
  |Subscript a i pos=>
   replace h:joM (trE T n sc X.N) a i=some E':=h;unfold joM at h;cases hs:jlt i with
   |some p=>
    rw[hs]at h;obtain⟨lo,hi,st⟩:=p;obtain⟨p2,rfl⟩:=jhA hs;replace h:=jah h;obtain⟨hst,h⟩:=h;cases st with
    |some _=>cases hst
    |none=>
    replace h:=jch h;obtain⟨Ea,Elo,Ehi,ha,hlo,hhi,rfl⟩:=h;have Sa:=ih1 _ _ ha;have part:∀{o:Option Expr}{O:Oe},joJ (trE T n sc X.N) o=some O->∀B,PO X o (tO Z X B (evO G U O)):=fun {o O} z B=>by
     cases o with
     |none=>cases z;exact jnn
     |some e=>
      obtain⟨E',q,rfl⟩:=jag z;exact jno ((ih1 _ _ q).pe B)
    refine Says.mk' hK (fun B=>PE.imp (jiC (joF hK) (Sa.pe B) (part hlo B) (part hhi B)) fun σ H Q q=>tE.slice (by simpa only[evE] using q)) (fun _=>rfl) (fun _ _ z=>by cases z) fun ρ=>?_
    simp only[evT,trF,evE,R.bind_assoc,R.bind_ok'];exact Lr.refl.bind fun _=>Lr.refl.bind fun _=>Lr.refl.bind fun _=>Lr.refl.bind fun _=>Lr.refl.bind fun _=>Lr.deref.bind fun _=>Lr.refl
   |none=>
    rw[hs]at h;replace h:=jbJ h;obtain⟨Ea,Ei,ha,hi',rfl⟩:=h;have Sa:=ih1 _ _ ha;have Si:=ih1 _ _ hi';refine Says.mk' hK (fun B=>PE.imp (jou (joE hK) (Sa.pe B) (Si.pe B) (ji7 fun a b c d z=>by subst z;cases hs)) fun σ H Q q=>tE.two (fun x y c z=>?_) (fun x y i z=>?_) (by simpa only[evE,jn8,R.bind_assoc,R.bind_ok'] using q)) (fun _=>rfl) (fun _ _ z=>by cases z) fun ρ=>?_
    ·unfold jn8 at z;cases e:jek x y with
     |ok d=>rw[e]at z;cases z
     |err c'=>exact ji6 e
     |stk=>rw[e]at z;cases z
    ·unfold jn8 at z;obtain⟨d,_,z⟩:=R.bind_ok z;cases z
    ·simp only[evT,trF,evE,R.bind_assoc,R.bind_ok',deref];exact Lr.refl
  |Call fn args ks pos=>
   replace h:=jah h;obtain⟨hks,h⟩:=h;cases ja2 hks;replace h:=jbK h;rcases h with ⟨f,hn,h⟩ | h
   ·obtain⟨p,rfl⟩:=ja3 hn;replace h:=jah h;obtain⟨hc,h⟩:=h;replace hc:=jbk hc;obtain⟨hb,hf⟩:=hc;have hf:=jeo hf;cases hk:jcR T.defs f with
    |some k=>
     rw[hk]at h;replace h:=jah h;obtain⟨hq,h⟩:=h;replace h:=jag h;obtain⟨es,q,rfl⟩:=h;refine Says.mk' hK (fun B=>ji4 D hq hf hb hk (prn q B)) (fun _=>rfl) (fun _ _ z=>by cases z) fun ρ=>?_
     simp only[evT,trF,evE,R.bind_assoc,R.bind_ok'];exact Lr.refl.bind fun _=>Lr.refl.bind fun _=>Lr.refl.bind fun _=>Lr.deref.bind fun _=>Lr.refl
    |none=>
     rw[hk]at h;replace h:joN T sc (trE T n sc X.N) f args=some E':=h;unfold joN at h;cases hnest:jhz T sc f args with
     |some p'=>
      rw[hnest]at h;obtain⟨bf,b⟩:=p';replace h:=jag h;obtain⟨Eb,q,rfl⟩:=h;have S:=ih1 _ _ q;obtain⟨g,p2,pos2,rfl,hq,hb2,hg2,hnf⟩:=jjj hnest;exact Says.mk' hK (fun B=>jjh (p:=p) (pos:=pos) D hq hf hb hg2 hb2 (S.pe B) S.ns hnf) (fun _=>rfl) (fun _ _ z=>by cases z) lrB
     |none=>
      rw[hnest]at h;cases args with
      |nil=>exact jad h
      |cons a r=>
       cases r with
       |nil=>
        replace h:=jbJ h;obtain⟨g,Ea,hg,ha,rfl⟩:=h;have S:=ih1 _ _ ha;exact Says.mk' hK (fun B=>jlm (p:=p) (pos:=pos) D hf hb (S.pe B) S.ns hg) (fun _=>rfl) (fun _ _ z=>by cases z) lrB
       |cons b r=>
        cases r with
        |cons c r=>exact jad h
        |nil=>
         replace h:=jax h;rcases h with ⟨hfi,h⟩ | h
         ·cases jbT hfi;replace h:=jaf h;obtain⟨ks,hks,h⟩:=h;replace h:=jah h;obtain⟨hl,h⟩:=h;replace h:=jag h;obtain⟨Ea,ha,rfl⟩:=h;have S:=ih1 _ _ ha;refine Says.mk' hK (fun B=>jlj (p:=p) (pos:=pos) D hf (of_decide_eq_true (jbr hl)) (S.pe B) S.ns hks) (fun _=>rfl) (fun _ _ z=>by cases z) fun ρ=>?_
          simp only[evT,trF,evE,R.bind_assoc,R.bind_ok',deref,jbj];exact Lr.refl
         exact jad h
   replace h:=jaf h;obtain⟨⟨v,m',apos⟩,hn,h⟩:=h;cases jfh hn;replace h:=jax h;rcases h with ⟨hm,h⟩ | h
   ·cases jbT hm;replace h:=jah h;obtain⟨hc,h⟩:=h;replace h:=jag h;obtain⟨Ev,q,rfl⟩:=h;replace hc:=jbk hc;obtain⟨hc,c3⟩:=hc;replace hc:=jbk hc;obtain⟨c1,c2⟩:=hc;cases ja2 c3;exact Says.mk' hK (fun B=>jjf ((ih1 _ _ q).pe B) (jhC (jbr c1)) (jbr c2)) (fun _=>rfl) (fun _ _ z=>by cases z) lrB
   replace h:=jbK h;rcases h with ⟨sf,hsf,h⟩ | h
   ·replace h:=jah h;obtain⟨hc,h⟩:=h;replace hc:=jbk hc;obtain⟨c1,c2⟩:=hc;replace h:=jaf h;obtain⟨a,ha,h⟩:=h;cases jaQ ha;replace h:=jbJ h;obtain⟨Ev,Ea,q1,q2,rfl⟩:=h;exact Says.nt (fun B=>jnt hK hsf ((ih1 _ _ q1).pe B) ((ih1 _ _ q2).pe B) (ih1 _ _ q2).ns (jhC (jbr c1)) (jbr c2)) (fun ρ=>by simp only[evT]) fun _ _ z=>by cases z
   replace h:=jaf h;obtain⟨x,hv,h⟩:=h;obtain⟨xp,rfl⟩:=ja3 hv;replace h:=jah h;obtain⟨hc,h⟩:=h;replace h:=jag h;obtain⟨i,q,rfl⟩:=h;replace hc:=jbk hc;obtain⟨hc,c5⟩:=hc;replace hc:=jbk hc;obtain⟨hc,c4⟩:=hc;replace hc:=jbk hc;obtain⟨hc,c3⟩:=hc;replace hc:=jbk hc;obtain⟨c1,c2⟩:=hc;cases ja2 c5;cases jbT (jbr c3);exact Says.nt (fun B=>jlk D (jeo c2) (jaC q) c1 (jbr c4)) (fun ρ=>by simp only[evT]) fun _ _ z=>by cases z
  |JoinedStr ps pos=>
   replace h:=jah h;obtain⟨hl,h⟩:=h;replace h:=jag h;obtain⟨es,q,rfl⟩:=h;exact jlw hK ih1 (by simpa using hl) q
  |ListComp elt gens scope pos=>
   obtain⟨hq,tg,iter,ks,N,cn,nt,caps,tgs,one,it,fc,Ee,Ec,e1,rfl,cd,ev⟩:=jdP D ih h0;cases e1;refine Says.nt (fun B=>?_) (fun ρ=>by simp only[evT]) fun _ _ z=>by cases z
   have:=jll (pos:=pos) hK (D.calm hq) cd.C (cd.hi B) cd.hT cd.hlow cd.hE cd.hK cd.hs;rw[tE.congr ev];exact this
  |_=>exact jad h
end DJ
namespace DJ
open PySem PySem.Spec PyProof.Rows L2
theorem jj9 {P:Program}{w:World}{H:Hp}{h:Heap}{a:Addr}{o:HO}(x:ObjOk P w H h a o):∃u,h.get? a=some u:=by
 cases o with
 |lst xs=>obtain⟨_,_,_,_,e⟩:=x;exact⟨_,e⟩
 |tup xs=>obtain⟨_,_,_,o,e,_⟩:=x;exact⟨_,e⟩
 |dK kvs=>obtain⟨_,_,_,_,o,_,_,e,_⟩:=x;exact⟨_,e⟩
 |dT kvs=>obtain⟨_,_,_,_,o,_,_,e,_⟩:=x;exact⟨_,e⟩
 |set S n=>obtain⟨o,_,_,_,e,_⟩:=x;exact⟨_,e⟩
 |ins C dx fs=>obtain⟨_,_,_,e,_⟩:=x;exact⟨_,e⟩
 |own y=>obtain⟨_,e⟩:=x;exact⟨_,e⟩
 |xd fs=>obtain⟨_,⟨_,_,_,e,_⟩,_⟩:=x;exact⟨_,e⟩
 |rng lo hi=>obtain⟨_,_,_,e⟩:=x;exact⟨_,e⟩
 |frz ob u=>obtain⟨e,_⟩:=x;exact⟨_,e⟩
 |tbl ps=>exact⟨_,(show h.get? a=some _ from x)⟩
 |met f y=>exact⟨_,(show h.get? a=some _ from x)⟩
 |ext φ=>obtain⟨_,⟨_,e⟩,_⟩:=x;exact⟨_,e⟩
theorem jka {h base B:Heap}:∀{l:List Env},h.FunFrames base l->(∀b∈frs l,B.get? b=none)->h.FunFrames B l
 |[],_,_=>trivial
 |env::r,⟨k,⟨L,o,hf,_,ho,hd⟩,t⟩,hB=>⟨k,⟨L,o,hf,hB L (by simp[frs,hf]),ho,hd⟩,jka t fun b hb=>hB b (by
  unfold frs at hb ⊢;rw[jqj,hf];exact jp6 _ hb)⟩
structure Has (X:Cx)(pins:List (Addr×Obj))(H':Hp)(B:Heap):Prop where
 s0:∀b o,X.s₀.heap.get? b=some o->b ∉ frs X.stack->b ∉ X.ex->∃o',B.get? b=some o'
 cl:∀x c,X.fn x=true->X.env.cells.lookup x=some c->∃o',B.get? c=some o'
 pn:∀p∈X.pn++pins,∃o',B.get? p.1=some o'
 tr:∀a o,H' a=some o->∃o',B.get? a=some o'
section
variable {X:Cx}{pins:List (Addr×Obj)}{σ:L2.St}{H:Hp}{s:Shared}{B h':Heap}
theorem Inv.cellNot (I:Inv X pins σ H s){x:Str}{c:Addr}(hf:X.fn x=true)(hc:X.env.cells.lookup x=some c):c ∉ frs X.stack:=fun z=>by
 rcases List.mem_cons.mp (I.stkSub c z)with z | z
 ·exact I.cne x c hc z
 ·have h1:=I.ok.cab x c hf hc;obtain⟨_,o',h2,_⟩:=I.ok.funs.mem z;exact absurd (jqz h2) (Nat.not_lt.mpr h1)
theorem Has.made (I:Inv X pins σ H s):Has X pins H (PySem.W.hideAll s.heap (frs X.stack)) where
 s0 b o e n nx:=by
  obtain⟨o',e'⟩:=I.base.there b o e nx;exact⟨o',PySem.W.hideAll_get _ e' n⟩
 cl x c hf hc:=by
  obtain⟨v,o,ho,_⟩:=I.cell x c hc;exact⟨o,PySem.W.hideAll_get _ ho (Inv.cellNot I hf hc)⟩
 pn p hp:=by
  obtain⟨h1,h2,h3,h4,_⟩:=I.pin p hp;refine⟨p.2,PySem.W.hideAll_get _ h1 fun z=>?_⟩;rcases List.mem_cons.mp (I.stkSub p.1 z)with z | z
  ·exact h3 z
  ·exact h4 z
 tr a o e:=by
  obtain⟨u,hu⟩:=jj9 (I.hok a o e);exact⟨u,PySem.W.hideAll_get _ hu fun z=>by rw[I.stkFree a z]at e;cases e⟩
theorem Inv.flown {t':Nat}(I:Inv X pins σ H s)(hfn:∀x,X.fn x=true)(Hs:Has X pins H B)(k:B.StaysIn s.heap)(k':B.StaysIn h')(up:s.heap.UpToSlots h'):Inv X pins σ H { s with heap:=h',toks:=t' }:=by
 have same:∀{b:Addr}{o:Obj},(∃o',B.get? b=some o')->s.heap.get? b=some o->h'.get? b=some o:=fun {b o} ⟨o',e⟩ q=>by
  have:=k b o' e;rw[q]at this;cases this;exact k' b o e
 have notS:∀{b:Addr}{o:Obj},X.s₀.heap.get? b=some o->b ∉ X.fs->b ∉ frs X.stack:=fun {b o} e n z=>by
  rcases List.mem_cons.mp (I.stkSub b z)with z | z
  ·have:=jqz e;rw[z]at this;exact absurd this (Nat.not_lt.mpr I.ok.above)
  ·exact n z
 have cellK:∀{x:Str}{c:Addr}{v:Option Value},X.env.cells.lookup x=some c->s.heap.IsCell c v->h'.IsCell c v:=fun {x c v} hc ⟨o,ho,hd⟩=>⟨o,same (Hs.cl x c (hfn x) hc) ho,hd⟩;refine⟨I.ok,I.os,I.bare,⟨fun b o e n hb hx=>same (Hs.s0 b o e (notS e hb) hx) (I.base.keep b o e n hb hx),fun b o e n hb hx=>?_,I.base.free,fun b o e hx=>?_,I.base.tups,I.base.frzs,I.base.tbls⟩,?_,fun x c hc=>?_,I.free,I.freeC,fun p hp=>?_,fun a u e=>?_,I.len⟩
 ·obtain⟨sl,q⟩:=I.base.slot b o e n hb hx;obtain⟨_,o2,q2,q3⟩:=I.funs.mem hb;rw[q]at q2;cases q2;exact let ⟨sl',q'⟩:=up b _ q q3;⟨sl',q'⟩
 ·obtain⟨o',q⟩:=I.base.there b o e hx;by_cases hb:b∈X.fs
  ·obtain⟨_,o2,q2,q3⟩:=I.funs.mem hb;rw[q]at q2;cases q2;exact let ⟨sl',q'⟩:=up b _ q q3;⟨_,q'⟩
  ·exact⟨o',same (Hs.s0 b o e (notS e hb) hx) q⟩
 ·obtain⟨m,hn,hl⟩:=I.loc;refine⟨m,up.ns hn,fun i x v h1 h2 h3=>?_⟩;obtain⟨u,ru,lk⟩:=hl i x v h1 h2 h3;refine⟨u,ru,?_⟩;rcases lk with lk | ⟨h4,c,h5,h6⟩
  ·exact .inl lk
  ·exact .inr ⟨h4,c,h5,cellK h5 h6⟩
 ·obtain⟨v,q⟩:=I.cell x c hc;exact⟨v,cellK hc q⟩
 ·obtain⟨h1,h2⟩:=I.pin p hp;exact⟨same (Hs.pn p hp) h1,h2⟩
 ·refine(I.hok a u e).stay (fun c w' hc q=>same (Hs.tr c (if c=a then u else .own a) ?_) q) (fun _ q=>q) fun _ _ q=>q;by_cases hca:c=a
  ·rw[if_pos hca,hca];exact e
  ·rw[if_neg hca];rcases hc with z | z
   ·exact absurd z hca
   ·exact z
theorem Inv.freeOf (I:Inv X pins σ H s){a:Addr}(h:s.heap.get? a=none):H a=none:=by
 cases e:H a with
 |none=>rfl
 |some o=>
  obtain⟨u,q⟩:=jj9 (I.hok a o e);rw[h]at q;cases q
theorem jcU {E:XK}{ea:Addr}{cls a0:Value}(I:Inv X pins σ H s)(hfn:∀x,X.fn x=true)(hex:X.ex=[])(hst:X.stack=X.env::X.outer)(Hs:Has X pins H B)(k:B.StaysIn s.heap)(fl:Heap.FlyingW B X.outer ea cls a0 h')(up:s.heap.UpToSlots h')(hn:H ea=none)(q:E cls none H) :
  CXD X.prog X.w X.outer X.H₀ X.s₀ E (.ref ea) { s with heap:=h' }:=by
 have I':Inv X pins σ H { s with heap:=h' }:=Inv.flown (t':=s.toks) I hfn Hs k fl.1 up
 have b:=I'.base;rw[hex]at b;refine⟨ea,cls,a0,H,B,rfl,I'.os,I'.bare,b,I'.hok,fl,fun b o e n=>Hs.s0 b o e (fun z=>?_) (by rw[hex];simp),Hs.tr,hn,q⟩
 rcases List.mem_cons.mp (I.stkSub b z)with z | z
 ·have:=jqz e;rw[z]at this;exact absurd this (Nat.not_lt.mpr I.ok.above)
 ·exact n z
end
section
variable {P:Program}{w:World}{K:Frag}{mg:Str->Option Value}{base:Heap}{N:List Str}{qual:Str}{scope:Scope}{f:Addr}{cd:Value}{A:Around}{outer:List Env}{s s':Shared}{H H':Hp}{E:XK}{pins:List (Addr×Obj)}{σ:L2.St}{ea:Addr}{cls:Value}
theorem jny (I:Inv (jfx (CXD P w) P w K mg base N qual scope f cd A outer s H E) pins σ H' s')(fl:FlyC (jfx (CXD P w) P w K mg base N qual scope f cd A outer s H E) pins ea cls H' s')(q:E cls none H'):(jfx (CXD P w) P w K mg base N qual scope f cd A outer s H E).xe (.ref ea) s':=by
 obtain⟨⟨a0,B,fly,c1,c2,c3,c4⟩,hn⟩:=fl;refine wpAny_leaves_onW (base:=B) (cls:=cls) (a0:=a0) I.ok.frames rfl fly fun h'' fl'' up=>?_;exact jcU I (fun _=>rfl) rfl rfl ⟨c1,c2,c3,c4⟩ fly.1 fl'' up hn q
theorem jlx {h':Heap}{vs:List Value}(I:Inv (jfx (CXD P w) P w K mg base N qual scope f cd A outer s H E) pins σ H' s')(mk:Heap.MadeExcOf s'.heap h' ea cls vs)(q:E cls none H'):(jfx (CXD P w) P w K mg base N qual scope f cd A outer s H E).xe (.ref ea) { s' with heap:=h' }:=by
 have Hs:=Has.made I;have I':Inv (jfx (CXD P w) P w K mg base N qual scope f cd A outer s H E) pins σ H' { s' with heap:=h' }:=I.kept (t':=s'.toks) mk.keeps
 refine wpAny_leaves_madeW (base:=PySem.W.hideAll s'.heap (frs (jfx (CXD P w) P w K mg base N qual scope f cd A outer s H E).stack)) (h:=s'.heap) I.ok.frames rfl (fun b o e=>PySem.W.of_hideAll _ e) (jka I.stack fun b hb=>PySem.W.hideAll_none _ hb) mk fun h'' t fl'' _ _ up=>?_;exact jcU I' (fun _=>rfl) rfl rfl Hs (fun b o e=>mk.keeps b o (PySem.W.of_hideAll _ e)) fl'' up (Inv.freeOf I mk.new) q
end
structure Rcl (K:Frag)(C:Addr):Prop where
 ex:∃(bmB:List Value) (B newId initId:String),PySem.W.excIn K C bmB newId=true/\ExcBaseFacts B newId initId bmB
 nm:∃x,PySem.W.nsIn K mainGlobals x=some (some (.ref C))
theorem jjk (l:List DictEntry):∃ls:List Str,∀x,x ∉ ls->l.find? (fun e=>e.key.isStr x)=none:=by
 induction l with
 |nil=>exact⟨[],fun _ _=>rfl⟩
 |cons e r ih=>
  obtain⟨ls,h⟩:=ih;by_cases hn:∃n,e.key.isStr n=true
  ·obtain⟨n,hn⟩:=hn;exact⟨n::ls,fun x hx=>(List.find?_cons_of_neg (p:=fun e:DictEntry=>e.key.isStr x) (a:=e) fun q=>hx (Value.isStr_inj _ _ _ q hn ▸ .head _)).trans (h x fun k=>hx (.tail _ k))⟩
  ·exact⟨ls,fun x hx=>(List.find?_cons_of_neg (p:=fun e:DictEntry=>e.key.isStr x) (a:=e) fun q=>hn ⟨x,q⟩).trans (h x hx)⟩
theorem jly {K:Frag}{C:Addr}{bmB:List Value}{newId:String}{h:Heap}{mg:Str->Option Value}{x:Str}(p:Program)(M:Mod K mg h)(e:PySem.W.nsIn K mainGlobals x=some (some (.ref C)))(q:PySem.W.excIn K C bmB newId=true):OwnCls x C bmB newId mg h:=by
 obtain⟨mb,hb,hx⟩:=M.blt;obtain⟨o,es,ep,ho,hd,hs,hf⟩:=M.glob;obtain⟨ls,hl⟩:=jjk es.toList;exact PySem.W.own_of_in (p:=p) (loose:=ls) (mb:=mb) M.kin ⟨M.glob,hb,M.nolimit,hx,fun x _ h _ _ _=>by rw[<-hf x,nsFind,findBy,<-Array.find?_toList,hl x h];rfl⟩ e q
noncomputable def XM (Z:Kn)(X:Cx)(σ:L2.St)(ρ:Rho)(H:Hp)(c:Nat):Prop:=∀(pins:List (Addr×Obj)) (H1:Hp) (s1:Shared) (h':Heap) (ea C:Addr) (vs:List Value),Z.cl[c]?=some C->Inv X pins σ H1 s1->Stl σ ρ H H1->Heap.MadeExcOf s1.heap h' ea (.ref C) vs->X.xe (.ref ea) { s1 with heap:=h' }
noncomputable def jnz (X:Cx)(C:Addr)(t:TA):TS:=fun D σ H=>t σ H fun vs H1=>vs.length<=sizeLine/\∀(pins:List (Addr×Obj)) (s1:Shared) (h':Heap) (ea:Addr) (us:List Value),Inv X pins σ H1 s1->Heap.MadeExcOf s1.heap h' ea (.ref C) us->X.xe (.ref ea) { s1 with heap:=h' }
theorem jjl {X:Cx}{C:Addr}{x:Str}{np cpos pos:Pos}{a:Expr}{t:TA}(hc:X.calm=true)(R:Rcl X.K C)(hg:Gl X x)(hm:X.mg x=some (.ref C))(hd:(x == ("__debug__":Str))=false)(ha:PA X [a] t)(ns:∀e q,a≠.Starred e q) :
  PS X (.Raise (some (.Call (.Name x np) [a] [] cpos)) none pos) (jnz X C t):=by
 intro pins s σ H D I h;obtain⟨⟨bmB,Bn,newId,initId,q,FB⟩,_,qx⟩:=R;have he:starEach [a] X.env=(false,eval a X.env)::starEach [] X.env:=jae ns;obtain⟨tl,N,nm,qn,bs,hdct,sn,sub,ab,col,dd,k0,k1,k2,k3,k5,mN,hC0,hN0,hni,T0⟩:=(jly X.prog I.ok.mod qx q).obj;have run:=ha cpos pins s σ H _ I h;refine wpAny_Raise_call_subT (C:=C) (nm:=nm) (q:=qn) (N:=N) (bs:=bs) (bm:=tl) (hdct:=hdct) (sn:=sn) (sub:=sub) (ab:=ab) (col:=col) (dd:=dd) (k0:=k0) (k1:=k1) (k2:=k2) (k3:=k3) (k5:=k5) FB (mN:=mN) (T0.hasType FB.hasBase) (I.ok.hd hc) (by rw[he];rfl) hni (jcY I hg hm ⟨rfl,?_⟩ hd)
 rw[he]at run ⊢;refine Calls.evalArgs_plain (thn run fun us s1 hzz=>?_);obtain⟨vs,H1,I1,r,q1,q2⟩:=hzz;have kp:∀b o,X.base.get? b=some o->s1.heap.get? b=some o:=fun b o e=>(I1.bs b o e).1;exact⟨rfl,by rw[<-r.length];exact q1,kp _ _ hC0,hN0.keeps kp,T0.keeps kp,fun h' e mk=>q2 pins s1 h' e us I1 mk⟩
end DJ
namespace DJ
open PySem PySem.Spec PyProof.Rows L2
noncomputable def FlP (Z:Kn)(B:Bs)(σ:L2.St)(ρ:Rho)(F:Addr->Prop)(H:Hp)(D:Ends):Fl->Prop
 |.nx ρ'=>∀σ' F' H',Go σ ρ F H σ' ρ' F' H'->SR Z B F' H' σ' ρ'->D.nx σ' H'
 |.bk ρ'=>∀σ' F' H',Go σ ρ F H σ' ρ' F' H'->SR Z B F' H' σ' ρ'->D.bk σ' H'
 |.ct ρ'=>∀σ' F' H',Go σ ρ F H σ' ρ' F' H'->SR Z B F' H' σ' ρ'->D.ct σ' H'
 |.rt v ρ'=>∀u σ' F' H',(∀i,v≠.slot i)->Go σ ρ F H σ' ρ' F' H'->SR Z B F' H' σ' ρ'->RV Z F' B.hp H' σ' ρ' v u->D.rt u H'
noncomputable def XS (Z:Kn)(X:Cx)(σ:L2.St)(ρ:Rho)(F:Addr->Prop)(H:Hp)(c:Nat):Prop:=∀σ' ρ' F' H',Go σ ρ F H σ' ρ' F' H'->XW Z X σ' ρ' H' c/\XM Z X σ' ρ' H' c
inductive tS_I (Z:Kn) (X:Cx) (B:Bs) (f:Rho->R Fl) (D:L2.Ends) (σ:L2.St) (H:L2.Hp):Prop
 |mk (F:_) (ρ:_):(SR Z B F H σ ρ)->(Ok (XS Z X σ ρ F H) (f ρ) (FlP Z B σ ρ F H D))->tS_I Z X B f D σ H
noncomputable def tS (Z:Kn)(X:Cx)(B:Bs)(f:Rho->R Fl):TS:=fun D σ H=>tS_I Z X B f D σ H
inductive tSx_I (Z:Kn) (X:Cx) (B:Bs) (f:Rho->R Fl) (D:L2.Ends) (σ:L2.St) (H:L2.Hp):Prop
 |mk (F:_) (ρ:_):(SR Z B F H σ ρ)->(Ok (XW Z X σ ρ H) (f ρ) (FlP Z B σ ρ F H D))->tSx_I Z X B f D σ H
noncomputable def tSx (Z:Kn)(X:Cx)(B:Bs)(f:Rho->R Fl):TS:=fun D σ H=>tSx_I Z X B f D σ H
section
variable {Z:Kn}{X:Cx}{B:Bs}{σ σ1:L2.St}{ρ ρ1:Rho}{F F1:Addr->Prop}{H H1:Hp}{D:Ends}
theorem XS.xw {c:Nat}(h:XS Z X σ ρ F H c):XW Z X σ ρ H c:=(h σ ρ F H Go.refl).1
theorem XS.mono {c:Nat}(h:XS Z X σ ρ F H c)(g:Go σ ρ F H σ1 ρ1 F1 H1):XS Z X σ1 ρ1 F1 H1 c:=fun σ' ρ' F' H' g'=>h σ' ρ' F' H' (g.trans g')
theorem FlP.go {fl:Fl}(h:FlP Z B σ ρ F H D fl)(g:Go σ ρ F H σ1 ρ1 F1 H1):FlP Z B σ1 ρ1 F1 H1 D fl:=by
 cases fl with
 |nx ρ'=>exact fun σ' F' H' g' r=>h σ' F' H' (g.trans g') r
 |bk ρ'=>exact fun σ' F' H' g' r=>h σ' F' H' (g.trans g') r
 |ct ρ'=>exact fun σ' F' H' g' r=>h σ' F' H' (g.trans g') r
 |rt v ρ'=>exact fun u σ' F' H' n g' r q=>h u σ' F' H' n (g.trans g') r q
theorem PS.x {s:Stmt}{f:Rho->R Fl}(h:PS X s (tSx Z X B f)):PS X s (tS Z X B f):=PS.imp h fun D σ H ⟨F,ρ,r,q⟩=>⟨F,ρ,r,q.imp (fun c w=>w.xw) fun _ z=>z⟩
theorem Inv.track {pins:List (Addr×Obj)}{s:Shared}{a:Addr}{o:HO}(I:Inv X pins σ H s)(hn:H a=none)(h0:X.s₀.heap.get? a=none)(hL:a≠X.env.locals)(hc:∀x c,X.env.cells.lookup x=some c->c≠a)(hp:∀p∈X.pn++pins,p.1≠a)
  (ok:ObjOk X.prog X.w (upd H a o) s.heap a o):Inv X pins σ (upd H a o) s:=by
 refine⟨I.ok,I.os,I.bare,⟨I.base.keep,I.base.slot,fun b ob e q hx=>?_,I.base.there,fun b xs e=>?_,fun b ob u e=>?_,fun b ps e=>?_⟩,I.loc,I.cell,?_,fun x c e=>?_,fun p hp'=>?_,fun b u e=>?_,I.len⟩
 ·rw[jac (fun z=>by rw[z,h0]at e;cases e)];exact I.base.free b ob e q hx
 ·have:=I.base.tups b xs e;rw[jac (jab this hn)];exact this
 ·have:=I.base.frzs b ob u e;rw[jac (jab this hn)];exact this
 ·obtain⟨more,this⟩:=I.base.tbls b ps e;exact⟨more,by rw[jac (jab this hn)];exact this⟩
 ·rw[jac (Ne.symm hL)];exact I.free
 ·rw[jac (hc x c e)];exact I.freeC x c e
 ·obtain⟨e,q,r⟩:=I.pin p hp';exact⟨e,by rw[jac (hp p hp')];exact q,r⟩
 ·by_cases hb:b=a
  ·subst hb;rw[jam]at e;cases e;exact ok
  ·rw[jac hb]at e;refine(I.hok b u e).stay (fun c w' hc q=>q) (fun c q=>?_) fun c ts q=>?_
   ·rw[jac (jab q hn)];exact q
   ·rw[jac (jab q hn)];exact q
end
section
variable {X:Cx}{pins pins':List (Addr×Obj)}{σ:L2.St}{H:Hp}{s:Shared}{E':Value->Shared->Prop}{ea:Addr}
end
end DJ
namespace DJ
open PySem PySem.Spec PyProof.Rows L2
section
variable {G:Calls}{U:Nat->Nat->Bool}{Z:Kn}{X:Cx}{B:Bs}
theorem RV.unlk {F:Addr->Prop}{H0 H:Hp}{σ:L2.St}{ρ:Rho}{lk:List Nat}{w:Vl}{v:V}(h:RV Z F H0 H σ ρ w v):RV Z F H0 H σ (unlk lk ρ) w v:=by
 cases w with
 |dat d=>exact h
 |tmp o=>obtain⟨l,e,h1,h2,h3,h4⟩:=h;exact⟨l,e,h1,fun z=>h2 z.unlk,h3,h4⟩
 |slot i=>exact h
theorem jjm {v:Vl}{ρ:Rho}{c:Nat}:jiQ v ρ≠.err c:=by
 cases v with
 |dat d=>intro z;cases z
 |tmp o=>intro z;cases z
 |slot i=>
  simp only[jiQ];split <;> (intro z;cases z)
theorem jnA {e:Expr}{f:Rho->R (Vl×Rho)}{pos:Pos}(h:PE X e (tE Z X B f)):PS X (.Return (some e) pos) (tSx Z X B fun ρ=>(f ρ).bind fun p=>jiQ p.1 p.2):=by
 refine PS.imp (jmD h) fun D σ H hzz=>?_;obtain⟨F,ρ,r,q⟩:=hzz;refine⟨F,ρ,r,q.bind.imp (fun _ w=>w) fun p h1 v F' H' g r' rv=>?_⟩;obtain⟨fl,hf,h2⟩:=h1.pure fun c=>jjm;obtain⟨w,ρ'⟩:=p;cases w with
 |dat d=>cases hf;exact h2 v σ F' H' (fun _ z=>by cases z) g r' rv
 |tmp o=>cases hf;exact h2 v σ F' H' (fun _ z=>by cases z) g r' (rv.base r.base)
 |slot i=>
  have rv:σ[i]?=some (some v):=rv;simp only[jiQ]at hf;split at hf
  ·rename_i o e;cases hf;obtain⟨l,e1,e2,e3,e4⟩:=r'.own i o _ _ e;rw[rv]at e1;cases e1;refine h2 (.ref l) σ F' H' (fun _ z=>by cases z) (g.trans (Go.weak Le.no)) (r'.weak Le.no) ⟨l,rfl,e2,fun z=>?_,e4.2 rfl,e3⟩
   obtain⟨j,o',f',k',z1,z2⟩:=z;rw[jp9]at z1;by_cases hij:i=j
   ·rw[if_pos hij]at z1;split at z1 <;> cases z1
   ·rw[if_neg hij]at z1;exact r'.one i j _ _ _ _ _ _ l hij e z1 rv z2
  ·cases hf
theorem jlz {pos:Pos}:PS X (.Return none pos) (tSx Z X B fun ρ=>.ok (.rt (.dat .non) ρ)):=by
 refine PS.imp jkp fun D σ H hzz=>?_;obtain⟨F,ρ,r,q⟩:=hzz;exact q .non σ F H (fun _ z=>by cases z) Go.refl r (by show Rep _ _ _ _ _;simp only[Rep])
theorem jlA {pos:Pos}:PS X (.Pass pos) (tSx Z X B fun ρ=>.ok (.nx ρ)):=PS.imp jko fun D σ H ⟨F,ρ,r,q⟩=>q σ F H Go.refl r
theorem jnB {pos:Pos}:PS X (.Break pos) (tSx Z X B fun ρ=>.ok (.bk ρ)):=PS.imp jit fun D σ H ⟨F,ρ,r,q⟩=>q σ F H Go.refl r
theorem jnC {pos:Pos}:PS X (.Continue pos) (tSx Z X B fun ρ=>.ok (.ct ρ)):=PS.imp jed fun D σ H ⟨F,ρ,r,q⟩=>q σ F H Go.refl r
theorem jlB {e:Expr}{f:Rho->R (Vl×Rho)}{pos:Pos}(h:PE X e (tE Z X B f))(hs:swapsWith e none pos.line X.env=pure false):PS X (.Expr e pos) (tSx Z X B fun ρ=>(f ρ).bind fun p=>.ok (.nx p.2)):=by
 refine PS.imp (jee h hs) fun D σ H hzz=>?_;obtain⟨F,ρ,r,q⟩:=hzz;exact⟨F,ρ,r,q.bind.imp (fun _ w=>w) fun p h1 v F' H' g r' rv=>h1 σ F' H' g r'⟩
theorem jjn {v:Vl}{ρ:Rho}{c:Nat}:je1 v ρ≠.err c:=by
 cases v with
 |dat d=>intro z;cases z
 |tmp o=>intro z;cases z
 |slot i=>
  simp only[je1];intro z;cases e:toD (.slot i) ρ with
  |ok p=>rw[e]at z;cases z
  |err c=>exact jc5 e
  |stk=>rw[e]at z;cases z
theorem jlC {σ:L2.St}{ρ ρ1 ρ2:Rho}{F F1:Addr->Prop}{H H1:Hp}{w:Vl}{v:V}{s:Sl}{i:Nat}(rv:RV Z F1 H H1 σ ρ1 w v)(r:SR Z B F H σ ρ)(r1:SR Z B F1 H1 σ ρ1)(g:Go σ ρ F H σ ρ1 F1 H1)(h:je1 w ρ1=.ok (s,ρ2)) :
  ∃F2,Go σ ρ F H (σ.set i (some v)) (ρ2.set i s) F2 H1/\SR Z B F2 H1 (σ.set i (some v)) (ρ2.set i s):=by
 have dat:∀{w:Vl},RV Z F1 H H1 σ ρ1 w v->(toD w ρ1).bind (fun p=>(.ok (.dat p.1,p.2):R (Sl×Rho)))=.ok (s,ρ2)->∃F2,Go σ ρ F H (σ.set i (some v)) (ρ2.set i s) F2 H1/\SR Z B F2 H1 (σ.set i (some v)) (ρ2.set i s):=fun {w} rv h=>by
  obtain⟨p,hp,h⟩:=R.bind_ok h;cases h;obtain⟨F2,g2,r2,rp,_⟩:=je3 rv r1 g hp;exact⟨F2,g2.trans Go.put,r2.put rp⟩
 cases w with
 |dat d=>exact dat rv h
 |slot j=>exact dat rv h
 |tmp o=>
  cases h;obtain⟨l,rfl,h1,h2,h3,h4⟩:=rv;exact⟨F1,g.putOwn h3,r1.putOwn h1 h2 (r.base l h3) h4⟩
theorem jnD {e:Expr}{f:Rho->R (Vl×Rho)}{i:Nat}{x:Str}{pos pos':Pos}(nd:X.N.Nodup)(hi:X.N[i]?=some x)(hx:Loc X.env.scope x)(hf:X.fn x=true\/X.env.scope.names.lookup x=some .local)(h:PE X e (tE Z X B f))
  (hs:swapsWith e (some (.Name x pos')) pos.line X.env=pure false):PS X (.Assign [.Name x pos'] e pos) (tSx Z X B fun ρ=>(f ρ).bind fun p=>(je1 p.1 p.2).bind fun q=>if i < q.2.length then .ok (.nx (q.2.set i q.1))else .stk):=by
 refine PS.imp (jmG nd hi hx h hs hf) fun D σ H hzz=>?_;obtain⟨F,ρ,r,q⟩:=hzz;refine⟨F,ρ,r,q.bind.imp (fun _ w=>w) fun p h1 v F' H' g r' rv=>?_⟩;obtain⟨t,ht,h2⟩:=h1.bind.pure fun c=>jjn;split at h2
 ·obtain⟨F2,g2,r2⟩:=jlC (i:=i) rv r r' g ht;exact h2 _ F2 H' g2 r2
 ·exact False.elim h2
theorem joP {c:Expr}{a b:List Stmt}{pos:Pos}{fc:Rho->R (Bool×Rho)}{fa fb:Rho->R Fl}(hc:PT X c (tT Z X B fc))(ha:PSs X a (tS Z X B fa))(hb:PSs X b (tS Z X B fb)):PS X (.If c a b pos) (tS Z X B fun ρ=>(fc ρ).bind fun t=>if t.1 then fa t.2 else fb t.2):=by
 refine PS.imp (jog hc ha hb) fun D σ H hzz=>?_;obtain⟨F,ρ,r,q⟩:=hzz;refine⟨F,ρ,r,q.bind.imp (fun _ w=>w.xw) fun t p F' H' g r'=>?_⟩;obtain⟨b,ρ1⟩:=t;cases b with
 |true=>rw[if_pos rfl]at p ⊢;exact⟨F',ρ1,r',p.imp (fun _ w=>w.mono g) fun fl z=>z.go g⟩
 |false=>rw[if_neg jqK]at p ⊢;exact⟨F',ρ1,r',p.imp (fun _ w=>w.mono g) fun fl z=>z.go g⟩
theorem jnE:PSs X [] (tS Z X B fun ρ=>.ok (.nx ρ)):=PSs.imp jkn fun D σ H ⟨F,ρ,r,q⟩=>q σ F H Go.refl r
theorem jlD {s:Stmt}{ss:List Stmt}{f g:Rho->R Fl}(h1:PS X s (tS Z X B f))(h2:PSs X ss (tS Z X B g)):PSs X (s::ss) (tS Z X B fun ρ=>(f ρ).bind (jkQ g)):=by
 refine PSs.imp (jis h1 h2) fun D σ H hzz=>?_;obtain⟨F,ρ,r,q⟩:=hzz;refine⟨F,ρ,r,q.bind.imp (fun _ w=>w) fun fl p=>?_⟩;cases fl with
 |nx ρ'=>exact fun σ' F' H' g' r'=>⟨F',ρ',r',p.imp (fun _ w=>w.mono g') fun fl z=>z.go g'⟩
 |bk ρ'=>exact p
 |ct ρ'=>exact p
 |rt v ρ'=>exact p
theorem jnF (hK:X.K=Z.K){x:Str}{i:Nat}{e:Expr}{f:Rho->R (Vl×Rho)}{xp apos cpos pos:Pos}(hv:PE X (.Name x xp) (jn6 i))(h:PE X e (tE Z X B f))(ns:∀a p,e≠.Starred a p)(hline:(apos.endLine == cpos.line)=true) :
  PS X (.Expr (.Call (.Attribute (.Name x xp) "append" apos) [e] [] cpos) pos) (tSx Z X B fun ρ=>match ρ[i]? with
   |some (.own (.l _) _ _)=>(f ρ).bind fun p=>(toD p.1 p.2).bind fun q=>match q.2[i]? with
    |some (.own (.l xs) f false)=>if fits (xs.length + 1)then .ok (.nx (q.2.set i (.own (.l (xs++[q.1])) f false)))else .stk
    |_=>.stk
   |_=>.stk):=by
 have hbase:attributeBase (.Name x xp) "append" X.env (eval (.Name x xp) X.env)=eval (.Name x xp) X.env:=rfl;have he:=jae (es:=[]) (env:=X.env) ns;refine PS.imp (jee (jmU PySem.F.plainAttrs_list PySem.F.slot_list_append PySem.F.type_list_append jdu hv (jaL h jbl he) hbase (by rw[he];rfl) hline he rfl) rfl) fun D σ H hzz=>?_
 obtain⟨F,ρ,r,q⟩:=hzz;try dsimp only at q
 split at q
 ·rename_i x0 f0 k0 e0;obtain⟨l,e1,_,⟨us,e3,_⟩,_⟩:=r.own i _ _ _ e0;refine⟨.ref l,e1,.inl ⟨rfl,us,SqL.of e3⟩,F,ρ,r,q.bind.imp (fun _ w=>w) fun p h1 v F1 H1 g1 r1 rv=>?_⟩;obtain⟨t,ht,h2⟩:=h1.bind.pure fun c=>jc5;obtain⟨F2,g2,r2,rp,_⟩:=je3 rv r1 g1 ht;split at h2
  ·rename_i xs f1 e2;split at h2
   ·rename_i hfit;obtain⟨l2,a1,a2,⟨vs,a3,a4⟩,a5⟩:=r2.own i _ _ _ e2;rw[e1]at a1;cases a1;have hl:=a4.length;have hz:=jaA hfit;refine⟨l,vs,v,rfl,rfl,a3,by omega,?_⟩
    obtain⟨kp,sr⟩:=r2.wr (o':=.l (xs++[t.1])) (u:=.lst (vs++[v])) e2 e1 (fun kp=>⟨vs++[v],jam,(a4.mono kp).append (.one (rp.mono kp))⟩) false;exact h2 σ F2 _ (g2.trans (Go.wr e2 e1)) sr
   ·exact False.elim h2
  ·exact False.elim h2
 ·exact False.elim q
theorem jjo (hK:X.K=Z.K)(hc:X.calm=true){C:Addr}{c:Nat}{x:Str}{np cpos pos:Pos}{a:Expr}{f:Rho->R (Vl×Rho)}(R':Rcl Z.K C)(hC:Z.cl[c]?=some C)(hg:Gl X x)(hm:X.mg x=some (.ref C))(hd:(x == ("__debug__":Str))=false)(ha:PE X a (tE Z X B f))(ns:∀e q,a≠.Starred e q) :
  PS X (.Raise (some (.Call (.Name x np) [a] [] cpos)) none pos) (tS Z X B fun ρ=>(f ρ).bind fun _=>.err c):=by
 refine PS.imp (jjl hc (by rw[hK];exact R') hg hm hd (jaL ha jbl (jae ns)) ns) fun D σ H hzz=>?_
 obtain⟨F,ρ,r,q⟩:=hzz;refine⟨F,ρ,r,q.bind.imp (fun _ w=>w.xw) fun p h1 v F' H' g r' rv=>?_⟩;have h1:XS Z X σ ρ F H c:=h1;refine⟨by rw[sizeLine_eq];show 1<=16777216;decide,fun pins s1 h' ea us I1 mk=>?_⟩
 exact(h1 σ p.2 F' H' g).2 pins H' s1 h' ea C us hC I1 ⟨fun _ _ e _=>e,fun _ o e=>⟨o,e⟩⟩ mk
end
theorem jjp {tgs:List Nat}{one:Bool}{x:D}{ρ:Rho}{c:Nat}:putT tgs one x ρ≠.err c:=by
 intro h;unfold putT at h;split at h
 ·cases h
 ·split at h <;> cases h
 ·cases h
inductive ForI (X:Cx) (pins:List (Addr×Obj)) (Z:Kn) (B:Bs) (σ:L2.St) (ρ1:Rho) (F2:Addr->Prop) (H2:Hp) (ls fp:List Addr) (tn:Nat->Heap->Prop) (n:Nat) (Rest:Nat->Rho->Prop) (k:Nat) (s':Shared):Prop
 |mk (i:Nat) (σ':L2.St) (F':Addr->Prop) (H':Hp) (ρ':Rho):k=n - i->i<=n->Inv X pins σ' H' s'->SR Z B F' H' σ' ρ'->Go σ ρ1 F2 H2 σ' ρ' F' H'->GK F2 H2 ls F' H'->tn i s'.heap->(∀b∈fp,H' b=none)->Rest i ρ'->ForI X pins Z B σ ρ1 F2 H2 ls fp tn n Rest k s'
theorem jnG {Z:Kn}{X:Cx}{B:Bs}{tg iter:Expr}{body:List Stmt}{pos:Pos}{tgs:List Nat}{one:Bool}{fi:Rho->R (List D×List Nat×Rho)}{fb:Rho->R Fl}(hK:X.K=Z.K)(hp:PassesOwn (model X.prog X.w) X.A X.env X.xe)(hc:X.calm=true)(nd:X.N.Nodup)
  (hi:PI X tg iter (tI Z X B fi)) (hT:TgOk X tg tgs one) (hb:PSs X body (tS Z X B fb)) (hs:∀x,foldedSetIterable iter X.env x=pure x) :
  PS X (.For tg iter body [] pos) (tS Z X B fun ρ=>(fi ρ).bind fun t=>(ja6 (fun x r=>(putT tgs one x r).bind fun r'=>fb r') t.1 t.2.2).bind fun r=>.ok (jbH t.2.1 r)):=by
 intro pins s σ H D I hz1;obtain⟨F,ρ,r,h⟩:=hz1;refine wpAny_For (thn (hi pins s σ H (fun J H'=>∃(F':Addr->Prop) (t:List DJ.D×List Nat×Rho) (ls:List Addr),ItR Z B σ ρ F H t.2.2 F' H' t.2.1 ls/\ItmG Z (GK F' H' ls) J t.1/\Ok (XS Z X σ ρ F H) ((ja6 (fun x r=>(putT tgs one x r).bind fun r'=>fb r') t.1 t.2.2).bind fun r=>.ok (jbH t.2.1 r)) (FlP Z B σ ρ F H D)) I
  ⟨F,ρ,r,h.bind.imp (fun c w=>w.xw) fun t h1 F' H' J ls ir im=>⟨F',t,ls,ir,im,h1⟩⟩) fun v s1 h1=>thn h1 fun itv s2 hzz=>?_) hs
 obtain⟨it,fp,tn,J,H2,e,I2,T,st2,f2,F2,t,ls,ir,im,q2⟩:=hzz;subst e;obtain⟨xs,lk,ρ1⟩:=t;have W:=im.wk hK (fun l hl=>(ir.on l hl).1) T;have stat:∀{H':Hp},(∀b∈fp,H' b=none)->∀b∈fp,FpOk X pins H' b:=fun hn b hb=>⟨hn b hb,(f2 b hb).2⟩;let Rest:=fun (i:Nat) (ρ':Rho)=>Ok (XS Z X σ ρ F H) ((ja6 (fun x r=>(putT tgs one x r).bind fun r'=>fb r') (xs.drop i) ρ').bind fun r=>.ok (jbH lk r)) (FlP Z B σ ρ F H D);refine codeAny_forLoop_any (ForI X pins Z B σ ρ1 F2 H2 ls fp tn xs.length Rest) ?_ xs.length
  ⟨0,σ,F2,H2,ρ1,rfl,Nat.zero_le _,I2,ir.sr,Go.refl,GK.refl,st2,fun b hb=>(f2 b hb).1,q2⟩
 rintro n s3 ⟨i,σ3,F3,H3,ρ3,rfl,hi3,I3,r3,g3,gk3,st3,fr3,q3⟩;by_cases hlt:i < xs.length
 ·have hx:xs[i]?=some xs[i]:=jp5 hlt;have q3:Ok (XS Z X σ ρ F H) ((ja6 (fun x r=>(putT tgs one x r).bind fun r'=>fb r') (xs.drop i) ρ3).bind fun r=>.ok (jbH lk r)) (FlP Z B σ ρ F H D):=q3;rw[List.drop_eq_getElem_cons hlt]at q3;simp only[ja6,R.bind_assoc]at q3;cases hp3:putT tgs one xs[i] ρ3 with
  |err c=>exact absurd hp3 jjp
  |stk=>rw[hp3]at q3;exact False.elim q3
  |ok ρ4=>
   rw[hp3,R.bind_ok']at q3;have q3:=q3.bind;refine wpAny_passesOwn hp (thn (W.take X rfl rfl hK hc nd tgs one hT i pins s3 σ3 ρ3 ρ4 B F3 H3 _ I3 r3 gk3 (stat fr3) st3 hx hp3) fun o s4 hzz=>?_);obtain⟨u,ho,h4⟩:=hzz;subst ho;refine wpAny_passesOwn hp (thn h4 fun _ s5 h5=>wpAny_passesOwn hp (thn h5 fun _ s6 hzz=>?_));obtain⟨σ6,F6,H6,I6,r6,g6,gk6,st6,fr6,_⟩:=hzz;have I6':=I6.pinned (stat fr6) (W.obj _ _ st6);have gA:Go σ ρ1 F2 H2 σ6 ρ4 F6 H6:=g3.trans g6;have gF:Go σ ρ F H σ6 ρ4 F6 H6:=ir.go.trans gA;have hm6:∀l∈ls,¬Mb σ6 ρ4 l:=fun l hl z=>by
    obtain⟨⟨o,e⟩,nm⟩:=ir.on l hl;rcases gA.mb z with z | z
    ·exact nm z
    ·rw[e]at z;cases z
   refine wpAny_passesOwn hp (thn (hb _ s6 σ6 H6 (Ends.mk (fun σ' H'=>∃F' ρ',SR Z B F' H' σ' ρ'/\Go σ6 ρ4 F6 H6 σ' ρ' F' H'/\Rest (i + 1) ρ') D.rt D.nx (fun σ' H'=>∃F' ρ',SR Z B F' H' σ' ρ'/\Go σ6 ρ4 F6 H6 σ' ρ' F' H'/\Rest (i + 1) ρ')) I6' ⟨F6,ρ4,r6,q3.imp (fun _ w=>w.mono gF) fun fl z=>?_⟩) fun f s7 q7=>?_)
   ·cases fl with
    |nx ρ'=>exact fun σ' F' H' g r'=>⟨F',ρ',r',g,z⟩
    |ct ρ'=>exact fun σ' F' H' g r'=>⟨F',ρ',r',g,z⟩
    |bk ρ'=>exact fun σ' F' H' g r'=>z σ' F' H' (ir.un σ' ρ' F' H' (gA.trans g)) r'.unlk
    |rt w ρ'=>exact fun u σ' F' H' n g r' rv=>z u σ' F' H' n (ir.un σ' ρ' F' H' (gA.trans g)) r'.unlk rv.unlk
   ·have again:∀{σ7:L2.St}{H7:Hp},Inv X (pins++jbx fp s6.heap) σ7 H7 s7->(∃F' ρ',SR Z B F' H7 σ7 ρ'/\Go σ6 ρ4 F6 H6 σ7 ρ' F' H7/\Rest (i + 1) ρ') ->
      ∃m,m < xs.length - i/\ForI X pins Z B σ ρ1 F2 H2 ls fp tn xs.length Rest m s7:=fun {σ7 H7} I7 hzz=>by
     obtain⟨F7,ρ7,r7,g7,q7⟩:=hzz;refine⟨xs.length - (i + 1),Nat.sub_lt_sub_left hlt (Nat.lt_succ_self i),i + 1,σ7,F7,H7,ρ7,rfl,hlt,I7.unpinned,r7,gA.trans g7,gk6.go W.lst r6 g7 hm6,W.keep _ _ _ st6 fun b hb o e=>(I7.pin (b,o) (jqf _ (jqf _ (ja8 hb e)))).1,fun b hb=>?_,q7⟩;obtain⟨o,e,d⟩:=W.obj _ _ st6 b hb;exact(I7.pin (b,o) (jqf _ (jqf _ (ja8 hb e)))).2.1
    cases f with
    |next=>obtain⟨σ7,H7,I7,n7⟩:=q7;exact again I7 n7
    |cont=>obtain⟨σ7,H7,I7,n7⟩:=q7;exact again I7 n7
    |brk=>obtain⟨σ7,H7,I7,q7⟩:=q7;exact⟨σ7,H7,I7.unpinned,q7⟩
    |ret v=>obtain⟨x7,σ7,H7,I7,r7,q7⟩:=q7;exact⟨x7,σ7,H7,I7.unpinned,r7,q7⟩
 ·have hie:i=xs.length:=by omega
  subst hie;have q3:Ok (XS Z X σ ρ F H) ((ja6 (fun x r=>(putT tgs one x r).bind fun r'=>fb r') (xs.drop xs.length) ρ3).bind fun r=>.ok (jbH lk r)) (FlP Z B σ ρ F H D):=q3;rw[List.drop_eq_nil_of_le (jqD _)]at q3;have q3:FlP Z B σ ρ F H D (.nx (unlk lk ρ3)):=q3;refine wpAny_passesOwn hp (thn (W.done X rfl rfl hK hc pins s3 σ3 F3 H3 I3 r3.dom gk3 (stat fr3) st3) fun o s4 hzz=>?_);obtain⟨ho,I4⟩:=hzz;subst ho;exact wpAny_execs_nil ⟨σ3,H3,I4,q3 σ3 F3 H3 (ir.un σ3 ρ3 F3 H3 g3) r3.unlk⟩
end DJ
namespace L2
open PySem PySem.Spec PyProof.Rows
section
variable {X:Cx}
end
end L2
namespace DJ
open PySem PySem.Spec PyProof.Rows L2
section
variable {Z:Kn}{X:Cx}{B:Bs}
noncomputable def joQ (i:Nat)(ρ:Rho):R Fl:=match ρ[i]? with
 |some (.own (.l xs) f false)=>.ok (.nx (ρ.set i (.own (.l xs.reverse) f false)))
 |_=>.stk
theorem jnH {x:Str}{i:Nat}{xp apos cpos pos:Pos}(hv:PE X (.Name x xp) (jn6 i))(hline:(apos.endLine == cpos.line)=true):PS X (.Expr (.Call (.Attribute (.Name x xp) "reverse" apos) [] [] cpos) pos) (tSx Z X B (joQ i)):=by
 have hbase:attributeBase (.Name x xp) "reverse" X.env (eval (.Name x xp) X.env)=eval (.Name x xp) X.env:=rfl;refine PS.imp (jee (jgx PySem.F.plainAttrs_list PySem.F.slot_list_reverse PySem.F.type_list_reverse jfC hv hbase hline) rfl) fun D σ H hzz=>?_;obtain⟨F,ρ,r,q⟩:=hzz;unfold joQ at q;split at q
 ·rename_i xs f e;obtain⟨l,e1,e2,⟨vs,e3,e4⟩,_⟩:=r.own i _ _ _ e;refine⟨.ref l,e1,.inl ⟨rfl,vs,SqL.of e3⟩,l,vs,rfl,rfl,e3,?_⟩;obtain⟨kp,sr⟩:=r.wr (o':=.l xs.reverse) (u:=.lst vs.reverse) e e1 (fun kp=>⟨vs.reverse,jam,(e4.mono kp).reverse⟩) false;exact q σ F _ (Go.wr e e1) sr
 ·exact False.elim q
theorem jnI {W:Nat}(hp:PassesOwn (model X.prog X.w) X.A X.env X.xe){c:Expr}{body:List Stmt}{pos:Pos}{fc:Rho->R (Bool×Rho)}{fb:Rho->R Fl}(hc:PT X c (tT Z X B fc))(hb:PSs X body (tS Z X B fb)) :
  PS X (.While c body [] pos) (tS Z X B fun ρ=>jbA fc fb W ρ):=by
 refine PS.imp (jiv hp hc hb) fun D σ H hzz=>?_;obtain⟨F,ρ,r,q⟩:=hzz;refine⟨fun n σ1 H1=>∃F1 ρ1,Go σ ρ F H σ1 ρ1 F1 H1/\SR Z B F1 H1 σ1 ρ1/\Ok (XS Z X σ ρ F H) (jbA fc fb n ρ1) (FlP Z B σ ρ F H D),⟨W,F,ρ,Go.refl,r,q⟩,?_⟩;rintro n σ1 H1 ⟨F1,ρ1,g1,r1,q1⟩;cases n with
 |zero=>exact False.elim q1
 |succ n=>
  simp only[jbA]at q1;refine⟨F1,ρ1,r1,q1.bind.imp (fun _ w=>(w.mono g1).xw) fun t h2 F2 H2 g2 r2=>?_⟩;obtain⟨b,ρ2⟩:=t;cases b with
  |false=>
   rw[if_neg jqK]at h2 ⊢;exact h2 σ1 F2 H2 (g1.trans g2) r2
  |true=>
   rw[if_pos rfl]at h2 ⊢;refine⟨fun σ3 H3=>∃F3 ρ3,Go σ ρ F H σ3 ρ3 F3 H3/\SR Z B F3 H3 σ3 ρ3/\Ok (XS Z X σ ρ F H) (jbA fc fb n ρ3) (FlP Z B σ ρ F H D),fun σ3 H3 w=>⟨n,Nat.lt_succ_self n,w⟩,F2,ρ2,r2,h2.bind.imp (fun _ w=>w.mono (g1.trans g2)) fun fl z=>?_⟩;have g12:=g1.trans g2;cases fl with
   |nx ρ'=>exact fun σ' F' H' g r'=>⟨F',ρ',g12.trans g,r',z⟩
   |ct ρ'=>exact fun σ' F' H' g r'=>⟨F',ρ',g12.trans g,r',z⟩
   |bk ρ'=>exact fun σ' F' H' g r'=>z σ' F' H' (g12.trans g) r'
   |rt v ρ'=>exact fun u σ' F' H' nsl g r' rv=>z u σ' F' H' nsl (g12.trans g) r' rv
end
end DJ
namespace DJ
open PySem PySem.Spec PyProof.Rows L2
theorem jfK {X:Cx}{scope:Scope}{N cn:List Str}{nt:Nat}{caps:List Nat}{Z:Kn}{B:Bs}{elt tg iter:Expr}{ks:List Expr}{pos spos py:Pos}{tgs:List Nat}{one:Bool}{fi:Rho->R (List D×List Nat×Rho)}{fc:Option (Rho->R (Bool×Rho))}{fe:Rho->R (Vl×Rho)}{y:Str}{j:Nat}
  (hK:X.K=Z.K) (nd:X.N.Nodup) (hj:X.N[j]?=some y) (hy:Loc X.env.scope y) (hf:X.fn y=true\/X.env.scope.names.lookup y=some .local) (hsw:swapsWith (.ListComp elt [⟨tg,iter,ks,0⟩] scope pos) (some (.Name y py)) spos.line X.env=pure true)
  (hc:X.calm=true) (C:CompOk X scope N cn nt caps) (hi:PI X tg iter (tI Z X B fi))
  (hT:∀s' H' fp,TgOk (cxComp X N scope s' H' fp) tg tgs one) (hlow:∀i∈tgs,i < nt)
  (hE:∀s' H' fp B',PE (cxComp X N scope s' H' fp) elt (tE Z (cxComp X N scope s' H' fp) B' fe))
  (hk:(ks=[]/\fc=none)\/∃k g,ks=[k]/\fc=some g/\∀s' H' fp B',PT (cxComp X N scope s' H' fp) k (tT Z (cxComp X N scope s' H' fp) B' g)) (hs:∀x,foldedSetIterable iter X.env x=pure x) :
  PS X (.Assign [.Name y py] (.ListComp elt [⟨tg,iter,ks,0⟩] scope pos) spos) (tSx Z X B fun ρ=>((fi ρ).bind fun t=>((compGo (jcf tgs one nt caps fc fe) t.1 t.2.2).noErr).bind fun ys=>(.ok (.tmp (.l ys.1),unlk t.2.1 ys.2):R (Vl×Rho))).bind fun p=>(je1 p.1 p.2).bind fun q=>if j < q.2.length then .ok (.nx (q.2.set j q.1))else .stk):=by
 intro pins s σ H D I hz1;obtain⟨F,ρ,r,h⟩:=hz1;rw[exec_Assign_Name_used _ _ _ _ hsw];refine jqs (wpAny_standAt (jqs ?_));show wpAny _ X.A (do let _ <-comprehension (.ListComp elt [⟨tg,iter,ks,0⟩] scope pos) scope X.env _ (newList []) false (eval iter X.env) (some (assign (.Name y py) X.env))) _ _ s
 refine jqs (jqx (wpAny_comprehension_free (use:=some (assign (.Name y py) X.env)) (Q:=fun _ s'=>SP X pins D .next s') rfl hs (jgW (C.cells I)) C.kind C.names ?_) (fun _ s' hq=>jqt (jqt hq)) fun _ _ e=>e);simp only[R.bind_assoc,R.bind_ok']at h;refine thn (hi pins s σ H (fun J H'=>∃(F':Addr->Prop) (t:List DJ.D×List Nat×Rho) (ls:List Addr),ItR Z B σ ρ F H t.2.2 F' H' t.2.1 ls/\ItmG Z (GK F' H' ls) J t.1/\Ok (XW Z X σ ρ H) (((compGo (jcf tgs one nt caps fc fe) t.1 t.2.2).noErr).bind fun ys=>(je1 (.tmp (.l ys.1)) (unlk t.2.1 ys.2)).bind fun q=>if j < q.2.length then .ok (.nx (q.2.set j q.1))else .stk) (FlP Z B σ ρ F H D)) I
  ⟨F,ρ,r,h.bind.imp (fun _ w=>w) fun t h1 F' H' J ls ir im=>⟨F',t,ls,ir,im,h1⟩⟩) fun v s1 h1=>thn h1 fun itv s2 hzz=>?_
 obtain⟨it,fp,tn,J,H2,e,I2,Tn,st2,f2,F2,t,ls,ir,im,q2⟩:=hzz;subst e;cases hY:compGo (jcf tgs one nt caps fc fe) t.1 t.2.2 with
 |err c=>rw[hY]at q2;exact False.elim q2
 |stk=>rw[hY]at q2;exact False.elim q2
 |ok ys=>
  rw[hY]at q2;have q2:Ok (XW Z X σ ρ H) (if j < (unlk t.2.1 ys.2).length then .ok (.nx ((unlk t.2.1 ys.2).set j (.own (.l ys.1) false false)))else .stk) (FlP Z B σ ρ F H D):=q2;split at q2
  ·have q2:FlP Z B σ ρ F H D (.nx ((unlk t.2.1 ys.2).set j (.own (.l ys.1) false false))):=q2;refine je6 (RR:=fun acc C'=>compPost (model X.prog X.w) X.A X.xe (some (assign (.Name y py) X.env)) (fun _ s'=>SP X pins D .next s') acc C') hK hc C I2 ir.sr (im.wk hK (fun l hl=>(ir.on l hl).1) Tn) (fun l hl=>(ir.on l hl).2) st2 f2 (fun s' H'=>hT s' H' fp) hlow (fun i hi=>?_) (fun s' H' B'=>hE s' H' fp B') ?_ hY ?_
   ·rw[ir.sr.len,I2.len];exact C.capLt i hi
   ·rcases hk with z | ⟨k,g,e1,e2,hk⟩
    ·exact .inl z
    ·exact .inr ⟨k,g,e1,e2,fun s' H' B'=>hk s' H' fp B'⟩
   ·intro s3 l σ' F' H' s' vs hl I3 IY gE rE nF nO hl' rp;obtain⟨m,hn,_⟩:=IY.loc;obtain⟨oC,es,ep,eC,dC,rC⟩:=id hn;have eC:s'.heap.get? s3.heap.objs.size=some oC:=eC;have IX:Inv X pins σ H' s':=jff I3 (fun b hb=>by
     obtain⟨f0,f1,f3,f4,f5,f6⟩:=f2 b hb;exact⟨f4,f1,f5,f6⟩) IY (Heap.SameBut.refl _ _)
    have hCf:H' s3.heap.objs.size=none:=IY.free;have hCL:s3.heap.objs.size≠X.env.locals:=Nat.ne_of_gt I3.lt;have hCs:X.s₀.heap.objs.size<=s3.heap.objs.size:=I3.sz;have hCx:∀x c,X.env.cells.lookup x=some c->c≠s3.heap.objs.size:=fun x c e z=>by
     obtain⟨v,w⟩:=I3.cell x c e;exact absurd w.lt (by rw[z];exact jqH _)
    have hCp:∀p∈X.pn++pins,p.1≠s3.heap.objs.size:=fun p hp z=>by
     have:=jqz (I3.pin p hp).1;rw[z]at this;exact absurd this (jqH _)
    have IP:Inv X (pins++[(s3.heap.objs.size,oC)]) σ H' s':=IX.pins_of fun p hp=>(List.mem_append.mp hp).elim (fun z=>IX.pin p (jqf _ z)) fun z=>by
     have e:p=(s3.heap.objs.size,oC):=by simpa using z
     subst e;exact⟨eC,hCf,hCL,I3.nofs (jqD _),fun v z=>by rw[dC]at z;cases z⟩
    have hlH:H l=none:=ir.go.free hl;have r':SR Z B F' H' (σ.set j (some (.ref l))) ((unlk t.2.1 ys.2).set j (.own (.l ys.1) false false)):=rE.unlk.putOwn nF (fun z=>nO z.unlk) (r.base l hlH) ⟨vs,hl',rp⟩;have g':Go σ ρ F H (σ.set j (some (.ref l))) ((unlk t.2.1 ys.2).set j (.own (.l ys.1) false false)) F' H':=(ir.un σ ys.2 F' H' gE).putOwn hlH;show wpAny _ X.A (assign (.Name y py) X.env (.ref l)) _ _ _;refine wpAny_assign_Name (jcX IP nd hj hy (v:=.ref l) rfl (fun s4 I4=>?_) hf);have e4:s4.heap.get? s3.heap.objs.size=some oC:=(I4.pin (s3.heap.objs.size,oC) (by simp)).1
    refine⟨m,⟨oC,es,ep,e4,dC,rC⟩,fun h5 sb=>?_⟩;have I5:Inv X pins (σ.set j (some (.ref l))) H' { s4 with heap:=h5 }:=(I4.unpinned).turned (t':=s4.toks) (it:=s3.heap.objs.size) (fun b o hb e=>(sb.2 b hb).trans e) hCf hCL (.inr hCs) hCx hCp
    exact⟨_,H',I5,q2 _ F' H' g' r'⟩
  ·exact False.elim q2
noncomputable def toSs:List S->Ss
 |[]=>.nil
 |s::ss=>.cons s (toSs ss)
noncomputable def jlE (sc:List (Str×NameKind))(x:Str):Bool:=sc.lookup x == some .local || sc.lookup x == some .cell
noncomputable def jhF:Expr->Bool
 |.ListComp ..=>false
 |.SetComp ..=>false
 |.DictComp ..=>false
 |_=>true
noncomputable def isTup:Expr->Bool
 |.Tuple ..=>true
 |_=>false
noncomputable def jnJ (T:Tab)(sc:List (Str×NameKind))(x:Str):Option Nat:=gd (jcS x || knd sc x != 2) (jcR T.excs x)
section
variable (T:Tab)
noncomputable def jlF (e:Expr):Option (Str×Str×List Expr):=match e with
 |.Call f as ks pos=>gd (!ks.isEmpty) ((joL f).bind fun p=>gd (!(p.2.2.endLine == pos.line)) ((jhh p.1).map fun x=>(x,p.2.1,as)))
 |_=>none
theorem jhG {e:Expr}{p:Str×Str×List Expr}(h:jlF e=some p):∃xp apos cpos,e=.Call (.Attribute (.Name p.1 xp) p.2.1 apos) p.2.2 [] cpos/\(apos.endLine == cpos.line)=true:=by
 cases e with
 |Call f as ks pos=>
  replace h:=jah h;obtain⟨hk,h⟩:=h;cases ja2 hk;replace h:=jaf h;obtain⟨⟨v,m,apos⟩,hf,h⟩:=h;cases jfh hf;replace h:=jah h;obtain⟨hl,h⟩:=h;replace h:=jag h;obtain⟨x,hx,rfl⟩:=h;obtain⟨np,rfl⟩:=ja3 hx;exact⟨np,apos,pos,rfl,jbr hl⟩
 |_=>exact jad h
noncomputable def jpW (tr:Expr->Option E)(q:Bool)(sc:List (Str×NameKind))(N:List Str)(e t:Expr):Option S:=
 jmi (jhh t) (fun x=>gd (!jlE sc x) (o2 (jcR N x) (tr e) .asg)) <|
 none
noncomputable def jpv (tr:Expr->Option E)(i:Nat)(m:Str)(as:List Expr):Option S:=
 alt (m == "append") ((jhg as).bind fun e=>(tr e).map (.app i)) <|
 alt (m == "reverse") (gd (!as.isEmpty) (some (.rvs i))) <|
 none
noncomputable def jlG (tr:Expr->Option E)(sc:List (Str×NameKind))(N:List Str)(e:Expr):Option S:=match jlF e with
 |some p=>gd (jcS p.1 || knd sc p.1 != 1) ((jcR N p.1).bind fun i=>jpv tr i p.2.1 p.2.2)
 |none=>gd (!jhF e) ((tr e).map .expr)
noncomputable def jpX (n:Nat)(trs:Bool->List (Str×NameKind)->List Str->Stmt->Option S)(q:Bool)(sc:List (Str×NameKind))(N:List Str):Stmt->Option S
 |.Return v _=>match v with
  |some e=>(trE { T with quiet:=q } n sc N e).map .ret
  |none=>some .retN
 |.Pass _=>some .pas
 |.Break _=>some .brk
 |.Continue _=>some .cnt
 |.Assign ts e _=>(jhg ts).bind (jpW (trE { T with quiet:=q } n sc N) q sc N e)
 |.While c body oe _=>gd (q || !oe.isEmpty) (o2 (trE { T with quiet:=q } n sc N c) (mapO (trs q sc N) body) fun c b=>.whl c (toSs b))
 |.If c a b _=>o3 (trE { T with quiet:=q } n sc N c) (mapO (trs q sc N) a) (mapO (trs q sc N) b) fun c a b=>.ife c (toSs a) (toSs b)
 |.For tg iter body oe _=>gd (q || !oe.isEmpty) ((jcm tg).bind fun p=>gd (!p.1.all (jlE sc)) (o3 (mapO (jcR N) p.1) (jmk { T with quiet:=q } sc (trE { T with quiet:=q } n sc N) p.2 iter) (mapO (trs q sc N) body) fun is it b=>.loop is p.2 it (toSs b)))
 |.Raise x c _=>gd (q || c.isSome) (x.bind fun e=>(jdL e).bind fun p=>(jhg p.2).bind fun a=>o2 (jnJ T sc p.1) (trE { T with quiet:=q } n sc N a) .rai)
 |.Expr e _=>jlG (trE { T with quiet:=q } n sc N) sc N e
 |_=>none
noncomputable def trS:Nat->Bool->List (Str×NameKind)->List Str->Stmt->Option S
 |0=>fun _ _ _ _=>none
 |n + 1=>jpX T n (trS n)
end
structure XT (T:Tab)(G:Calls)(U:Nat->Nat->Bool)(Z:Kn)(n:Nat)(X:Cx)(sc:List (Str×NameKind)):Prop extends XD T G U Z n X sc where
 fn:∀x,X.fn x=true
 own:T.quiet=false->PassesOwn (model X.prog X.w) X.A X.env X.xe
 hex:X.ex=[]
 hst:X.stack=X.env::X.outer
 hfr:X.env.frame=some X.env.locals
 rcl:∀C∈Z.cl,Rcl Z.K C
variable {T:Tab}{G:Calls}{U:Nat->Nat->Bool}{Z:Kn}{m W:Nat}
theorem XT.loc {X:Cx}{sc:List (Str×NameKind)}(D:XT T G U Z m X sc){x:Str}(h:jlE sc x=true):L2.Loc X.env.scope x:=by
 unfold jlE at h;simp only[Bool.or_eq_true,beq_iff_eq]at h;unfold L2.Loc;rcases D.sc x with e | ⟨e,_⟩
 ·rw[e];exact h
 ·rw[e]at h;rcases h with z | z <;> cases z
theorem jhH {X:Cx}{sc:List (Str×NameKind)}(D:XT T G U Z m X sc):∀{xs:List Str}{ps:List Pos}{is:List Nat},ps.length=xs.length->xs.all (jlE sc)=true->mapO (jcR X.N) xs=some is->TgsOk X ((xs.zip ps).map fun p=>Expr.Name p.1 p.2) is
 |[],_,is,_,_,h=>by cases h;exact .nil
 |x::xs,[],_,h,_,_=>by simp at h
 |x::xs,p::ps,is,h,ha,hm=>by
  obtain⟨i,is',h1,h2,rfl⟩:=jaq hm;simp only[List.all_cons,jqI]at ha;exact .cons (jaC h1) (D.loc ha.1) (.inl (D.fn x)) (jhH D (by simpa using h) ha.2 h2)
theorem jnK {X:Cx}{sc:List (Str×NameKind)}(D:XT T G U Z m X sc){tg:Expr}{xs:List Str}{one:Bool}{is:List Nat}(ht:jcm tg=some (xs,one))(ha:xs.all (jlE sc)=true)(hm:mapO (jcR X.N) xs=some is):TgOk X tg is one/\(one=false->∃es k pos,tg=.Tuple es k pos):=by
 rcases jhx ht with ⟨x,p,rfl,rfl,rfl⟩ | ⟨es,k,p,rfl,q,rfl⟩
 ·obtain⟨i,is',h1,h2,rfl⟩:=jaq hm;cases h2;simp only[List.all_cons,List.all_nil,Bool.and_true]at ha;exact⟨.one (jaC h1) (D.loc ha) (.inl (D.fn x)),fun z=>by cases z⟩
 ·obtain⟨ps,l1,l2,e⟩:=jj7 q;refine⟨?_,fun _=>⟨_,_,_,rfl⟩⟩;rw[e];exact .many (jhH D l2 ha hm)
theorem jfl {e:Expr}(h:jhF e=true){t:Option Expr}{l:Nat}{env:Env}:swapsWith e t l env=pure false:=by
 unfold swapsWith;cases e <;> first | rfl | cases h
theorem tS.congr {X:Cx}{B:Bs}{f g:Rho->R Fl}(h:∀ρ,f ρ=g ρ):tS Z X B f=tS Z X B g:=by rw[show f=g from funext h]
theorem tSx.congr {X:Cx}{B:Bs}{f g:Rho->R Fl}(h:∀ρ,f ρ=g ρ):tSx Z X B f=tSx Z X B g:=by rw[show f=g from funext h]
theorem jhI {X:Cx}{B:Bs}{n:Nat}{q:Bool}{sc:List (Str×NameKind)}(ih:∀s S',trS T n q sc X.N s=some S'->PS X s (tS Z X B (evS G U W S'))):∀{ss:List Stmt}{Ss':List S},mapO (trS T n q sc X.N) ss=some Ss'->PSs X ss (tS Z X B (evSs G U W (toSs Ss')))
 |[],Ss',h=>by
  cases h;rw[tS.congr (g:=fun ρ=>.ok (.nx ρ)) fun ρ=>by simp only[toSs,evSs]]
  exact jnE
 |s::ss,Ss',h=>by
  obtain⟨S1,Sr,h1,h2,rfl⟩:=jaq h;have:=jlD (ih s S1 h1) (jhI ih h2);rw[tS.congr (g:=fun ρ=>(evS G U W S1 ρ).bind (jkQ (evSs G U W (toSs Sr)))) fun ρ=>by simp only[toSs,evSs]]
  exact this
theorem jnL {X:Cx}{sc:List (Str×NameKind)}(D:XD T G U Z m X sc){x:Str}{c:Nat}(h:jnJ T sc x=some c):jcS x=false/\knd sc x=2/\∃C,Z.cl[c]?=some C/\X.mg x=some (.ref C):=by
 replace h:=jah h;obtain⟨hc,h⟩:=h;replace hc:=jbk hc;obtain⟨c1,c2⟩:=hc;exact⟨c1,jeo c2,D.excs c x (jaC h)⟩
end DJ
namespace DJ
open PySem PySem.Spec PyProof.Rows L2
variable {T:Tab}{G:Calls}{U:Nat->Nat->Bool}{Z:Kn}{m W:Nat}
theorem PS.cg {X:Cx}{B:Bs}{s:Stmt}{f g:Rho->R Fl}(h:PS X s (tS Z X B g))(e:∀ρ,f ρ=g ρ):PS X s (tS Z X B f):=by
 rw[tS.congr e];exact h
theorem PS.cgx {X:Cx}{B:Bs}{s:Stmt}{f g:Rho->R Fl}(h:PS X s (tSx Z X B g))(e:∀ρ,f ρ=g ρ):PS X s (tSx Z X B f):=by
 rw[tSx.congr e];exact h
theorem jlH {n:Nat}{X:Cx}{sc:List (Str×NameKind)}{B:Bs}{q:Bool}(D:XT { T with quiet:=q } G U Z m X sc){x:Str}{px pos:Pos}{e:Expr}{i:Nat}{E':E}(hl:jlE sc x=true)(hi:jcR X.N x=some i)(he:trE { T with quiet:=q } n sc X.N e=some E') :
  PS X (.Assign [.Name x px] e pos) (tS Z X B (evS G U W (.asg i E'))):=by
 have S:=jdg n X sc e E' D.toXD he;have hK:=D.hK;have hN:=jaC hi;have hx:=D.loc hl;rw[tS.congr (g:=fun ρ=>(evE G U E' ρ).bind fun p=>(je1 p.1 p.2).bind fun q=>if i < q.2.length then .ok (.nx (q.2.set i q.1))else .stk) fun ρ=>by simp only[evS]]
 refine PS.x ?_;have plain:swapsWith e (some (.Name x px)) pos.line X.env=pure false->PS X (.Assign [.Name x px] e pos) (tSx Z X B fun ρ=>(evE G U E' ρ).bind fun p=>(je1 p.1 p.2).bind fun q=>if i < q.2.length then .ok (.nx (q.2.set i q.1))else .stk):=fun hs=>jnD D.nd hN hx (.inl (D.fn x)) (S.pe B) hs;cases hp:jhF e with
 |true=>exact plain (jfl hp)
 |false=>
 cases n with
 |zero=>exact jad he
 |succ n=>
 cases e with
 |ListComp elt gens scope cpos=>
  obtain⟨hq,tg,iter,ks,N,cn,nt,caps,tgs,one,it,fc,Ee,Ec,rfl,rfl,cd,ev⟩:=jdP D.toXD (jdg n) he;have hsw:swapsWith (.ListComp elt [⟨tg,iter,ks,0⟩] scope cpos) (some (.Name x px)) pos.line X.env=pure (X.env.blockKind == .function && X.env.kindOf x == some .local && px.line == (Expr.ListComp elt [⟨tg,iter,ks,0⟩] scope cpos).pos.line && !(scope.names.any fun p=>p.1 == x && (p.2 == .local || p.2 == .cell))):=rfl;generalize (X.env.blockKind == .function && X.env.kindOf x == some .local && px.line == (Expr.ListComp elt [⟨tg,iter,ks,0⟩] scope cpos).pos.line && !(scope.names.any fun p=>p.1 == x && (p.2 == .local || p.2 == .cell)))=bb at hsw;cases bb with
  |false=>exact plain hsw
  |true=>
   have:=jfK (pos:=cpos) (spos:=pos) (py:=px) hK D.nd hN hx (.inl (D.fn x)) hsw (D.calm hq) cd.C (cd.hi B) cd.hT cd.hlow cd.hE cd.hK cd.hs;rw[tSx.congr (f:=fun ρ=>(evE G U (E.comp Ee tgs one nt caps it Ec) ρ).bind _) (g:=_) fun ρ=>?_]
   ·exact this
   ·rw[ev ρ]
 |SetComp a b c d=>exact jad he
 |DictComp a b c d f=>exact jad he
 |_=>cases hp
theorem jlI {n:Nat}{X:Cx}{sc:List (Str×NameKind)}{B:Bs}{q:Bool}(D:XT { T with quiet:=q } G U Z m X sc){x m':Str}{xp apos cpos pos:Pos}{as:List Expr}{i:Nat}{S':S}(hv:PE X (.Name x xp) (jn6 i))(hline:(apos.endLine == cpos.line)=true)(h:jpv (trE { T with quiet:=q } n sc X.N) i m' as=some S') :
  PS X (.Expr (.Call (.Attribute (.Name x xp) m' apos) as [] cpos) pos) (tS Z X B (evS G U W S')):=by
 have hK:=D.hK;have ih:∀{e E'},trE { T with quiet:=q } n sc X.N e=some E'->Says G U Z X e E':=fun {e E'} h=>jdg n X sc e E' D.toXD h
 refine PS.x ?_;replace h:=jax h;rcases h with ⟨hm,h⟩ | h
 ·cases jbT hm;replace h:=jaf h;obtain⟨e,h1,h⟩:=h;cases jaQ h1;replace h:=jag h;obtain⟨E',he,rfl⟩:=h;have S:=ih he;rw[tSx.congr (g:=fun ρ=>match ρ[i]? with
   |some (.own (.l _) _ _)=>(evE G U E' ρ).bind fun p=>(toD p.1 p.2).bind fun q=>match q.2[i]? with
    |some (.own (.l xs) f false)=>if fits (xs.length + 1)then .ok (.nx (q.2.set i (.own (.l (xs++[q.1])) f false)))else .stk
    |_=>.stk
   |_=>.stk) fun ρ=>by simp only[evS] <;> rfl]
  exact jnF hK hv (S.pe B) S.ns hline
 replace h:=jax h;rcases h with ⟨hm,h⟩ | h
 ·cases jbT hm;replace h:=jah h;obtain⟨h1,h⟩:=h;cases ja2 h1;cases h;exact PS.cgx (jnH hv hline) fun ρ=>by simp only[evS,joQ] <;> rfl
 exact jad h
theorem jlJ:∀(n:Nat) (X:Cx) (sc:List (Str×NameKind)) (B:Bs) (q:Bool) (s:Stmt) (S':S),XT { T with quiet:=q } G U Z m X sc->trS T n q sc X.N s=some S'->PS X s (tS Z X B (evS G U W S')):=by
 intro n;induction n with
 |zero=>intro X sc B q s S' D h;exact jad h
 |succ n ih=>
  intro X sc B q s S' D h;have ihX:∀{ss:List Stmt}{Ss':List S},mapO (trS T n q sc X.N) ss=some Ss'->PSs X ss (tS Z X B (evSs G U W (toSs Ss'))):=jhI fun s S' h=>ih X sc B q s S' D h;have sa:∀{e E'},trE { T with quiet:=q } n sc X.N e=some E'->Says G U Z X e E':=fun {e E'} h=>jdg n X sc e E' D.toXD h
  have hK:=D.hK;cases s with
  |Return v pos=>
   cases v with
   |some e=>
    replace h:=jag h;obtain⟨E',w,rfl⟩:=h;exact PS.cg (PS.x (jnA ((sa w).pe B))) fun ρ=>by simp only[evS] <;> rfl
   |none=>
    cases h;exact PS.cg (PS.x jlz) fun ρ=>by simp only[evS] <;> rfl
  |Pass pos=>
   cases h;exact PS.cg (PS.x jlA) fun ρ=>by simp only[evS] <;> rfl
  |Break pos=>
   cases h;exact PS.cg (PS.x jnB) fun ρ=>by simp only[evS] <;> rfl
  |Continue pos=>
   cases h;exact PS.cg (PS.x jnC) fun ρ=>by simp only[evS] <;> rfl
  |Assign ts e pos=>
   replace h:=jaf h;obtain⟨t,ht,h⟩:=h;cases jaQ ht;replace h:=jbK h;rcases h with ⟨x,hx,h⟩ | h
   ·obtain⟨px,rfl⟩:=ja3 hx;replace h:=jah h;obtain⟨hl,h⟩:=h;replace h:=jbJ h;obtain⟨i,E',hi,he,rfl⟩:=h;exact jlH D (jbr hl) hi he
   exact jad h
  |While c body oe pos=>
   replace h:=jah h;obtain⟨hq,h⟩:=h;replace hq:=jbk hq;obtain⟨hq,ho⟩:=hq;cases ja2 ho;replace h:=jbJ h;obtain⟨Ec,Sb,hc,hb,rfl⟩:=h;exact PS.cg (jnI (D.own hq) ((sa hc).pt B) (ihX hb)) fun ρ=>by simp only[evS] <;> rfl
  |If c a b pos=>
   replace h:=jch h;obtain⟨Ec,Sa,Sb,hc,ha,hb,rfl⟩:=h;exact PS.cg (joP ((sa hc).pt B) (ihX ha) (ihX hb)) fun ρ=>by simp only[evS] <;> rfl
  |For tg iter body oe pos=>
   replace h:=jah h;obtain⟨hq,h⟩:=h;replace hq:=jbk hq;obtain⟨hq,ho⟩:=hq;cases ja2 ho;replace h:=jaf h;obtain⟨⟨xs,one⟩,ht,h⟩:=h;replace h:=jah h;obtain⟨hl,h⟩:=h;replace h:=jch h;obtain⟨is,it,Sb,h1,h2,h3,rfl⟩:=h;obtain⟨hT,hone⟩:=jnK D ht (jbr hl) h1;have hi:=jfj (tg:=tg) D.toXD (fun e E' z=>sa z) hone h2 B;exact PS.cg (jnG hK (D.own hq) (D.calm hq) D.nd hi hT (ihX h3) (jdN (jcT h2))) fun ρ=>by simp only[evS] <;> rfl
  |Raise x c pos=>
   replace h:=jah h;obtain⟨hq,h⟩:=h;replace hq:=jbk hq;obtain⟨hq,hc⟩:=hq;cases c with
   |some _=>cases hc
   |none=>
   replace h:=jaf h;obtain⟨e,h1,h⟩:=h;cases h1;replace h:=jaf h;obtain⟨⟨x,as⟩,h2,h⟩:=h;obtain⟨np,cpos,rfl⟩:=jbU h2;replace h:=jaf h;obtain⟨a,h3,h⟩:=h;cases jaQ h3;replace h:=jbJ h;obtain⟨c,E',hc,he,rfl⟩:=h;obtain⟨hb,hk,C,hC,hm⟩:=jnL (T:={ T with quiet:=q }) D.toXD hc
   have S:=sa he;exact PS.cg (jjo hK (D.calm hq) (D.rcl C (jqg hC)) hC (D.gl hk) hm (jea hb).1 (S.pe B) S.ns) fun ρ=>by simp only[evS] <;> rfl
  |Expr e pos=>
   replace h:jlG (trE { T with quiet:=q } n sc X.N) sc X.N e=some S':=h
   unfold jlG at h;cases ha:jlF e with
   |some p=>
    rw[ha]at h;obtain⟨x,m',as⟩:=p;obtain⟨xp,apos,cpos,rfl,hline⟩:=jhG ha;replace h:=jah h;obtain⟨hc,h⟩:=h;replace hc:=jbk hc;obtain⟨hb,hk⟩:=hc;replace h:=jaf h;obtain⟨i,hi,h⟩:=h;exact jlI D (jgn (jaC hi) (D.vis (jeo hk)) (jea hb).1 (jk2 hb)) hline h
   |none=>
    rw[ha]at h;replace h:=jah h;obtain⟨hp,h⟩:=h;replace h:=jag h;obtain⟨E',w,rfl⟩:=h;refine PS.x ?_;exact PS.cgx (jlB ((sa w).pe B) (jfl (jbr hp))) fun ρ=>by simp only[evS] <;> rfl
  |_=>exact jad h
end DJ
namespace DJ
open PySem PySem.Spec PyProof.Rows L2
structure DefS where
 name:Str
 N:List Str
 ps:List Str
 st:Stmt
theorem joR {α:Type}{P:α->Prop}:∀x∈([]:List α),P x:=fun _ h=>nomatch h
theorem jb2 {α:Type}{P:α->Prop}{a:α}{l:List α}(h:P a)(t:∀x∈l,P x):∀x∈a::l,P x:=List.forall_mem_cons.mpr ⟨h,t⟩
noncomputable def From {α:Type}(Q:Nat->α->Prop)(k:Nat)(l:List α):Prop:=∀(i:Nat) (d:α),l[i]?=some d->Q (k + i) d
theorem jhJ {α:Type}{Q:Nat->α->Prop}{k:Nat}:From Q k []:=fun _ _ h=>by cases h
theorem jaW {α:Type}{Q:Nat->α->Prop}{k:Nat}{a:α}{l:List α}(h:Q k a)(t:From Q (k + 1) l):From Q k (a::l):=fun i d e=>by
 cases i with
 |zero=>cases e;exact h
 |succ i=>
  have:=t i d e;rwa [Nat.add_assoc,Nat.add_comm 1 i]at this
theorem From.at {α:Type}{Q:Nat->α->Prop}{l:List α}(h:From Q 0 l):∀(i:Nat) (d:α),l[i]?=some d->Q i d:=fun i d e=>by
 have:=h i d e;rwa [Nat.zero_add]at this
theorem jpY {α:Type}{P:List α->Prop}(h:P []):∀us:List α,us.length=0->P us
 |[],_=>h
theorem jn9 {α:Type}{P:List α->Prop}{n:Nat}(h:∀a (r:List α),r.length=n->P (a::r)):∀us:List α,us.length=n + 1->P us
 |a::r,e=>h a r (Nat.succ.inj e)
theorem jkb {α:Type}{P:List α->Prop}(h:∀a,P [a]):∀us:List α,us.length=1->P us:=jn9 fun a=>jpY (P:=fun r=>P (a::r)) (h a)
theorem jkc {α:Type}{P:List α->Prop}(h:∀a b,P [a,b]):∀us:List α,us.length=2->P us:=jn9 fun a=>jkb (P:=fun r=>P (a::r)) (h a)
theorem jpZ {α:Type}{P:List α->Prop}(h:∀a b c,P [a,b,c]):∀us:List α,us.length=3->P us:=jn9 fun a=>jkc (P:=fun r=>P (a::r)) (h a)
theorem jp0 {α:Type}{P:List α->Prop}(h:∀a b c d,P [a,b,c,d]):∀us:List α,us.length=4->P us:=jn9 fun a=>jpZ (P:=fun r=>P (a::r)) (h a)
noncomputable def BindP (d:DefS):Prop:=∀(kV doc pm:Value) (an:Option Addr) (cdv ct:Value) (us:List Value),us.length=d.ps.length->bindArgs (PySem.W.fnOf d.name d.name (defArgs d.st) (defBody d.st) (defScope d.st) .none kV doc pm an cdv ct) ⟨us,[]⟩=pure (d.ps.zip us)
structure Prog (K:Frag)(mg:Str->Option Value)(Z:Kn)(U:Nat->Nat->Bool)(T:Tab)(DS:List DefS)(P:List Def)(fuel:Nat):Prop where
 hK:K=Z.K
 loud:T.quiet=false
 tab:T.defs=DS.map (·.name)
 blt:∀x∈bltNames,mg x=none
 cons:∀x d,T.cons.lookup x=some d->∃u v,mg x=some u/\RelV v u/\∀F H,Rep Z F H d v
 excs:∀(i:Nat) (nm:Str),T.excs[i]?=some nm->∃C,Z.cl[i]?=some C/\mg nm=some (.ref C)
 ecs:Ecs U Z
 rcl:∀C∈Z.cl,Rcl Z.K C
 fns:∀(i:Nat) (d:DefS),DS[i]?=some d->∃f fd,mg d.name=some (.ref f)/\Fun K d.name d.name d.st f fd/\BindP d/\FnScope d.N d.ps (defScope d.st) /\
  ∃ss,mapO (trS T fuel false (defScope d.st).names d.N) (defBody d.st)=some ss/\P[i]?=some ⟨d.ps.length,d.N.length,toSs ss⟩
section
variable {Z:Kn}{B:Bs}{F F':Addr->Prop}{H H':Hp}{N:List Str}{vs:List V}{sls:List Sl}{n:Nat}{σ':L2.St}{ρ':Rho}
theorem jbV {i:Nat}{s:Sl}(hs:s≠.no)(h:(sls++List.replicate n Sl.no)[i]?=some s):sls[i]?=some s:=by
 by_cases hi:i < sls.length
 ·rwa [jql hi]at h
 ·rw[jqh (by omega),List.getElem?_replicate]at h
  split at h
  ·cases h;exact absurd rfl hs
  ·cases h
theorem jhK {i:Nat}{v:V}(h:vs[i]?=some v):(start N vs)[i]?=some (some v):=by
 unfold L2.start;rw[jql (by rw[jqd];exact(List.getElem?_eq_some_iff.mp h).1),jqa,h]
 rfl
theorem jbv {i:Nat}(hi:i < vs.length):(start N vs)[i]?=(vs.map some)[i]?:=by
 rw[jhK (jp5 hi),jqa,jp5 hi];rfl
theorem jjq (hN:vs.length<=N.length)(r:SR Z B F H (vs.map some) sls):SR Z B F H (start N vs) (sls++List.replicate (N.length - sls.length) .no):=by
 have hl:sls.length=vs.length:=by have:=r.len;simpa using this
 have lt:∀{i:Nat}{s:Sl},sls[i]?=some s->i < vs.length:=fun h=>by rw[<-hl];exact(List.getElem?_eq_some_iff.mp h).1
 refine⟨r.dom,?_,fun i d h=>?_,fun i o f k h=>?_,fun i j o o' f k f' k' l ne h h'=>?_,r.base⟩
 ·unfold L2.start;simp[hl]
 ·have h:=jbV (by intro z;cases z) h
  rw[jbv (lt h)];exact r.dat i d h
 ·have h:=jbV (by intro z;cases z) h
  rw[jbv (lt h)];exact r.own i o f k h
 ·have h:=jbV (by intro z;cases z) h
  have h':=jbV (by intro z;cases z) h'
  rw[jbv (lt h),jbv (lt h')];exact r.one i j _ _ _ _ _ _ l ne h h'
theorem jdh (hl:sls.length=vs.length){b:Addr}(h:Mb (start N vs) (sls++List.replicate n .no) b):Mb (vs.map some) sls b:=by
 obtain⟨i,o,f,h1,h2⟩:=h;have h1:=jbV (by intro z;cases z) h1
 rw[jbv (by rw[<-hl];exact(List.getElem?_eq_some_iff.mp h1).1)]at h2
 exact⟨i,o,f,h1,h2⟩
theorem jjr {k:Nat}{ρ:Rho}{j:Nat}{o:O}{f g:Bool}(h:(jfF k ρ)[j]?=some (.own o f g)):f=true/\ρ[j]?=some (.own o true g)/\j < k:=by
 unfold jfF at h;rw[jqa]at h;have hj:j < k:=by
  refine Nat.lt_of_not_le fun z=>?_;rw[jqk (by simpa using z)]at h
  cases h
 rw[jp5 (by simpa using hj),List.getElem_range]at h
 simp only[Option.map_some]at h;split at h
 ·rename_i s e;rw[e];cases s with
  |no=>cases h
  |dat d=>cases h
  |own o1 f1 g1=>
   cases f1 with
   |true=>cases h;exact⟨rfl,rfl,hj⟩
   |false=>cases h
 ·cases h
theorem jjs {k:Nat}{ρ:Rho}{j:Nat}{d:D}:(jfF k ρ)[j]?≠some (.dat d):=by
 intro h;unfold jfF at h;rw[jqa]at h;cases e:(List.range k)[j]? with
 |none=>rw[e]at h;cases h
 |some i=>
  rw[e]at h;simp only[Option.map_some]at h;split at h
  ·rename_i s _;cases s with
   |no=>cases h
   |dat d=>cases h
   |own o1 f1 g1=>cases f1 <;> cases h
  ·cases h
theorem jkd (hl:sls.length=vs.length)(hB:∀(k:Nat) (l:Addr),B.lent k=some l->(vs.map some)[k]?=some (some (.ref l)))(g:Go (start N vs) (sls++List.replicate n .no) F H σ' ρ' F' H')(r:SR Z B F' H' σ' ρ') :
  Go (vs.map some) sls F H (vs.map some) (jfF vs.length ρ') F' H'/\SR Z B F' H' (vs.map some) (jfF vs.length ρ')/\∀w u H0,(∀i,w≠.slot i)->RV Z F' H0 H' σ' ρ' w u->RV Z F' H0 H' (vs.map some) (jfF vs.length ρ') w u:=by
 have own:∀{j:Nat}{o:O}{f k:Bool},(jfF vs.length ρ')[j]?=some (.own o f k)->f=true/\ρ'[j]?=some (.own o true k)/\j < vs.length/\∃l,σ'[j]?=some (some (.ref l))/\(vs.map some)[j]?=some (some (.ref l))/\OwR Z B F' H' j o true l:=fun {j o f k} h=>by
  obtain⟨rfl,e,hj⟩:=jjr h;obtain⟨l,e1,e2⟩:=r.own j o _ _ e;exact⟨rfl,e,hj,l,e1,hB j l (e2.2.2.1 rfl),e2⟩
 refine⟨⟨fun b o e nm=>g.stay b o e fun z=>nm (jdh hl z),g.sub,fun a ha=>?_,fun j o f k b h1 h2=>?_,g.there⟩,⟨r.dom,by simp[jfF],fun i d h=>absurd h jjs,fun i o f k h=>?_,fun i j o o' f k f' k' l ne h h' q q'=>?_,r.base⟩,fun w u H0 hw rv=>?_⟩
 ·rcases g.new a ha with q | q | q
  ·exact .inl q
  ·exact .inr (.inl q)
  ·exact .inr (.inr (jdh hl q))
 ·obtain⟨rfl,e,hj,l,e1,e2,_⟩:=own h1;rw[h2]at e2;cases e2;rcases g.ow j o true k b e e1 with ⟨o0,k0,a1,a2,a3⟩ | q
  ·have a1:=jbV (by intro z;cases z) a1
   rw[jbv hj]at a2;exact .inl ⟨o0,k0,a1,a2,a3⟩
  ·exact .inr q
 ·obtain⟨rfl,e,hj,l,e1,e2,e3⟩:=own h;exact⟨l,e2,e3⟩
 ·obtain⟨rfl,e,hj,l1,e1,e2,_⟩:=own h;obtain⟨rfl,e',hj',l1',e1',e2',_⟩:=own h';rw[q]at e2;cases e2;rw[q']at e2';cases e2';exact r.one i j _ _ _ _ _ _ l ne e e' e1 e1'
 ·cases w with
  |dat d=>exact rv
  |tmp o=>
   obtain⟨l,e,h1,h2,h3,h4⟩:=rv;refine⟨l,e,h1,fun z=>h2 ?_,h3,h4⟩;obtain⟨j,o',f',k',z1,z2⟩:=z;obtain⟨rfl,e,hj,l1,e1,e2,_⟩:=own z1;rw[z2]at e2;cases e2;exact⟨j,o',_,k',e,e1⟩
  |slot i=>exact absurd rfl (hw i)
end
theorem Stl.start {N:List Str}{vs:List V}{sls:List Sl}{n:Nat}{H H':Hp}(hl:sls.length=vs.length)(s:Stl (start N vs) (sls++List.replicate n .no) H H'):Stl (vs.map some) sls H H':=⟨fun b o e nm=>s.stay b o e fun z=>nm (jdh hl z),s.there⟩
theorem jlK {Pr:Program}{w:World}{K:Frag}{mg:Str->Option Value}{base:Heap}{Z:Kn}{U:Nat->Nat->Bool}{T:Tab}{DS:List DefS}{P:List Def}{fuel W:Nat}(R:Prog K mg Z U T DS P fuel) :
  ∀(n i:Nat) (d:DefS) (f:Addr) (fd:FuncData),DS[i]?=some d->mg d.name=some (.ref f)->Fun K d.name d.name d.st f fd->FnOk Pr w K mg base (CXD Pr w) n f fd d.ps (spD Z (jaa U W P n) i):=by
 intro n;induction n with
 |zero=>
  intro i d f fd hd hm h2;refine⟨fun vs H Q E h=>?_,fun A outer s H args us vs Q E hr e0 hb hv h=>?_⟩
  ·obtain⟨B,F,sls,_,_,_,h⟩:=h;exact False.elim h
  ·obtain⟨B,F,sls,_,_,_,h⟩:=h;exact False.elim h
 |succ n ih=>
  intro i d f fd hd hm h2;obtain⟨f0,fd0,g1,g2,h3,h4,ss,h5,h6⟩:=R.fns i d hd;have hsl:∀{B:Bs}{F:Addr->Prop}{H:Hp}{vs:List V}{sls:List Sl},SR Z B F H (vs.map some) sls->sls.length=vs.length:=fun r=>by have:=r.len;simpa using this
  have hlen:∀vs H Q E,spD Z (jaa U W P (n + 1)) i vs H Q E->vs.length=d.ps.length:=fun vs H Q E ⟨B,F,sls,r,_,_,h⟩=>by
   simp only[jaa,h6]at h;split at h
   ·rename_i hl;rw[<-hsl r];exact hl
   ·exact False.elim h
  obtain⟨oc,od,kV,doc,pm,an,cdv,ct,osl,rfl,lk,hcd⟩:=h2.ex;refine jor lk hcd h4 hlen fun A outer s H vs Q E hr hsp=>?_;obtain⟨B,F,sls,r,hB1,hB2,h⟩:=hsp;have hls:=hsl r;simp only[jaa,h6]at h;split at h
  ·rename_i hl;have hpl:d.ps.length<=d.N.length:=by have:=congrArg List.length h4.pre;rw[List.length_take]at this;omega
   have hT:{ T with quiet:=false }=T:=by
    obtain⟨a,b,c,e,q⟩:=T;have:q=false:=R.loud;subst this;rfl
   have D:XT { T with quiet:=false } (jaa U W P n) U Z n (jfx (CXD Pr w) Pr w K mg base d.N d.name (defScope d.st) f cdv A outer s H E) (defScope d.st).names:=by
    refine { hK:=R.hK,calm:=fun _=>rfl,nd:=h4.nd,room:=fun _=>hr,un:=hr.units,sc:=fun x=>.inl rfl,blt:=R.blt,defs:=fun j nm hj=>?_,cons:=R.cons,excs:=R.excs,ecl:=?_,sub:=?_,fn:=fun _=>rfl,own:=fun _=>PassesOwn.leaving,hex:=rfl,hst:=rfl,hfr:=rfl,rcl:=R.rcl }
    ·have hj:T.defs[j]?=some nm:=hj;rw[R.tab,jqa]at hj;cases q:DS[j]? with
     |none=>rw[q]at hj;cases hj
     |some d'=>
      rw[q]at hj;cases hj;obtain⟨f',fd',a1,a2,a3,_⟩:=R.fns j d' q;exact⟨f',fd',d'.ps,a1,a2.kp,a2.binds a3,ih j d' f' fd' q a1 a2⟩
    ·show ∀C∈Z.cl,ECls K C;rw[R.hK];exact R.ecs.ecl
    ·show ∀(i j:Nat) (C D:Addr),Z.cl[i]?=some C->Z.cl[j]?=some D->PySem.W.mroIn K C (.ref D)=some (U i j);rw[R.hK];exact R.ecs.sub
   refine⟨_,jhI (B:=B) (W:=W) (fun s' S' hs=>jlJ fuel _ _ B false s' S' D hs) h5,?_⟩;have hN:d.N.length - d.ps.length=d.N.length - sls.length:=by rw[hl]
   have sr:=jjq (N:=d.N) (by rw[<-hls,hl];exact hpl) r
   rw[<-hN]at sr;refine⟨F,_,sr,h.bind.imp (fun c wc=>?_) fun fl z=>?_⟩
   ·intro σ1 ρ1 F1 H1 g1;refine⟨fun pins H' s' ea C hC I stl fly=>jny I fly (wc C H' hC (Stl.start hls (Stl.go g1 stl))),fun pins H' s' h' ea C us hC I stl mk=>jlx I mk (wc C H' hC (Stl.start hls (Stl.go g1 stl)))⟩
   ·have hk:d.ps.length=vs.length:=by rw[<-hl,hls]
    cases fl with
    |nx ρ'=>
     intro σ' F' H' g r';obtain⟨a,b,c⟩:=jkd hls hB2 g r';rw[<-hk]at a b;exact z .non F' H' (fun _ z=>by cases z) a b (by show Rep _ _ _ _ _;simp only[Rep])
    |rt v ρ'=>
     intro u σ' F' H' ns g r' rv;obtain⟨a,b,c⟩:=jkd hls hB2 g r';have rv':=c v u B.hp ns rv;rw[hB1]at rv';rw[<-hk]at a b rv';exact z u F' H' ns a b rv'
    |bk ρ'=>exact False.elim z
    |ct ρ'=>exact False.elim z
  ·exact False.elim h
theorem jnM {Z:Kn}{H:Hp}{a:Addr}{ns:List Int}{G:Calls}{i:Nat}{fin:List Sl}(h:G i [.dat (.lst (ns.map .int))]=.ok (.dat (.bl true),fin))(hS:SqL Z.K H a (ns.map V.int)) :
  spD Z G i [.ref a] H (fun v _=>v=.bl true) fun _ _ _=>False:=by
 have rs:∀(F:Addr->Prop) (ms:List Int),Reps Z F H (ms.map D.int) (ms.map V.int):=fun F ms=>by
  induction ms with
  |nil=>exact .nil
  |cons m ms ih=>exact .cons (by simp only[Rep]) ih
 have rl:∃F:Addr->Prop,Dom F H/\FL Z.K F H a (ns.map V.int):=by
  rcases hS with h | h
  ·refine⟨fun b=>b=a,fun b e=>?_,.inl ⟨rfl,h⟩⟩;have e:b=a:=e;subst e;rcases h with h | ⟨o,h⟩
   ·exact⟨_,h⟩
   ·exact⟨_,h⟩
  ·exact⟨fun _=>False,fun b e=>e.elim,.inr h⟩
 obtain⟨F,dm,fl⟩:=rl;refine⟨⟨H,fun _=>none⟩,F,[.dat (.lst (ns.map .int))],⟨dm,rfl,fun j d e=>?_,fun j o f k e=>?_,fun j j' o o' f k f' k' l _ e=>?_,fun _ z=>z⟩,rfl,(fun _ _ z=>nomatch z),?_⟩
 ·cases j with
  |zero=>simp at e;subst e;exact⟨_,rfl,by simp only[Rep];exact⟨a,_,rfl,fl,rs F ns⟩⟩
  |succ j=>simp at e
 ·cases j with
  |zero=>simp at e
  |succ j=>simp at e
 ·cases j with
  |zero=>simp at e
  |succ j=>simp at e
 ·rw[h];intro v F' H' _ _ _ rp;have rp:Rep Z F' H' (.bl true) v:=rp;simpa only[Rep] using rp
theorem jhL {l:PySem.W.OpenLaw}{q:Program}{loose:List Str}{XP:(Str->Option Value)->Heap->Prop}{YP:World->Heap->Prop}{d:DefRec}{K:Params->Frag}{cl:List Addr}{U:Nat->Nat->Bool}{T:Tab}{DS:List DefS}{P:List Def}{fuel W n i:Nat}{x:Str}{dl:DefS}
  (hn:l.most=some 63) (hdf:d.params.defaults=[]) (hr:Room n callerA) (hY:∀(w:World) (h:Heap),YP w h->(K w.params).In h) (hi:DS[i]?=some dl) (hnm:dl.name=d.name) (hps:dl.ps=[x])
  (hP:∀(w:World) (mg:Str->Option Value) (h:Heap),(K w.params).In h->h.Ns mainGlobals mg->Prog (K w.params) mg ⟨K w.params,cl⟩ U T DS P fuel)
  (hlaw:∀ns:List Int,ns.length<=63->∃fin,jaa U W P n i [.dat (.lst (ns.map .int))]=.ok (.dat (.bl true),fin)) :
  PySem.W.WalkO q loose XP YP l.row.toRowW d [] (fun f vs=>PySem.call f vs):=by
 refine L2.jkD (n:=63) (k:=n) (x:=x) (CX:=fun w=>CXD l.prog w) (sp:=fun w=>spD ⟨K w.params,cl⟩ (jaa U W P n) i) hn (by decide) hdf hr hY (fun w mg fa h KX G hmg=>?_) (fun w H a ns hl _ hS=>?_) fun w H s e s' hx=>?_
 ·have R:=hP w mg h KX G;obtain⟨f,fd,h1,h2,h3,h4,_⟩:=R.fns i dl hi;have h1':=h1;rw[hnm,hmg]at h1;cases h1;refine⟨fd,fun s u=>?_,fun base kb nb=>?_⟩
  ·obtain⟨oc,od,kV,doc,pm,an,cdv,ct,osl,rfl,lk,hcd⟩:=h2.ex;refine .of_eq ?_;have:=h3 kV doc pm an cdv ct [u] (by rw[hps];rfl)
   rw[hps]at this;exact this
  ·have R':=hP w mg base kb nb;have:=jlK (Pr:=l.prog) (w:=w) (base:=base) (W:=W) R' n i dl fa fd hi h1' h2;rw[hps]at this;exact this
 ·obtain⟨fin,hf⟩:=hlaw ns hl;exact jnM hf hS
 ·obtain⟨ea,cls,a0,H',B,_,_,_,_,_,_,_,_,_,z⟩:=hx;exact z
noncomputable def jjt:List Value->List Str->Bool
 |[],[]=>true
 |.str x _::r,y::ys=>x == y && jjt r ys
 |_,_=>false
theorem jfm:∀{us:List Value}{ys:List Str},jjt us ys=true->Vals (ys.map V.str) us
 |[],[],_=>.nil
 |.str x t::r,y::ys,h=>by
  simp only[jjt,jqI,beq_iff_eq]at h;exact .cons ⟨t,by rw[h.1]⟩ (jfm h.2)
theorem jhM {Z:Kn}{F:Addr->Prop}{H:Hp}:∀{ys:List Str},Reps Z F H (ys.map D.str) (ys.map V.str)
 |[]=>by simp only[List.map_nil,Reps]
 |y::ys=>.cons (by simp only[Rep]) (jhM (ys:=ys))
theorem jke {Z:Kn}{mg:Str->Option Value}{x:Str}{a:Addr}{od:Option Addr}{its:Array Value}{k:Nat}{sl:Array (Option Value)}(ys:List Str)(hm:mg x=some (.ref a))(hl:Z.K.lookup a=some ⟨.type "tuple",od,.seq its k,sl⟩)(hv:(jjt its.toList ys && decide (its.size<=sizeLine))=true) :
  ∃u v,mg x=some u/\RelV v u/\∀F H,Rep Z F H (.tup (ys.map .str)) v:=by
 simp only[jqI,decide_eq_true_eq]at hv;refine⟨_,.ref a,hm,rfl,fun F H=>?_⟩;simp only[Rep];exact⟨a,ys.map V.str,rfl,.inr ⟨_,its,k,hl,rfl,rfl,hv.2,jfm hv.1⟩,jhM⟩
end DJ
namespace DJ
theorem jhN (g:Rho->R Fl)(ρ:Rho):jkQ g (.nx ρ)=g ρ:=rfl
theorem jhO (g:Rho->R Fl)(v:Vl)(ρ:Rho):jkQ g (.rt v ρ)=.ok (.rt v ρ):=rfl
theorem jlL (g:Rho->R Fl)(ρ:Rho):jkQ g (.bk ρ)=.ok (.bk ρ):=rfl
theorem jlM (g:Rho->R Fl)(ρ:Rho):jkQ g (.ct ρ)=.ok (.ct ρ):=rfl
theorem jan {U:Nat->Nat->Bool}{W:Nat}{P:List Def}{n f:Nat}{xs:List Sl}{d:Def}(h:P[f]?=some d)(hl:xs.length=d.ps) :
  jaa U W P (n + 1) f xs=(evSs (jaa U W P n) U W d.body (xs++List.replicate (d.n - d.ps) .no)).bind (jdn d.ps):=by
 simp only[jaa,h,if_pos hl]
theorem jbF:∀{ds:List D}{ρ:Rho},jar [] (ds.map Vl.dat) ρ=.ok (ds.map Sl.dat,ds.map (fun _=>none),ρ)
 |[],ρ=>rfl
 |d::ds,ρ=>by
  simp only[jqb,jar,List.headD_nil,jcw,toD,R.bind_ok',List.tail_nil,jbF]
theorem jbW:∀{ds:List D}{fin:List Sl}{ρ:Rho},jaF (ds.map fun _=>none) fin ρ=ρ
 |[],fin,ρ=>by simp[jaF]
 |d::ds,[],ρ=>by simp[jaF]
 |d::ds,s::fin,ρ=>by simp only[jqb,jaF];exact jbW
section
variable {G:Calls}{U:Nat->Nat->Bool}{ρ:Rho}{k:Nat}{es:Es}{fin:List Sl}
theorem jaR (ds:List D){v:Vl}(he:evAs G U es ρ=.ok (ds.map Vl.dat,ρ))(hG:G k (ds.map Sl.dat)=.ok (v,fin)):evE G U (.call k [] es) ρ=.ok (v,ρ):=by
 simp only[evE,he,R.bind_ok',jbF,hG,jbW]
theorem jb8 (ds:List D){b:Bool}(he:evAs G U es ρ=.ok (ds.map Vl.dat,ρ))(hG:G k (ds.map Sl.dat)=.ok (.dat (.bl b),fin)):evT G U (.call k [] es) ρ=.ok (b,ρ):=by
 simp only[evT,he,R.bind_ok',jbF,hG,jbW,deref,jbj]
end
theorem jbX {α:Type}{f:D->Rho->R (Option D×Rho)}{h:α->D}{g:α->D}{ρ:Rho}:∀{xs:List α},(∀x∈xs,f (h x) ρ=.ok (some (g x),ρ))->compGo f (xs.map h) ρ=.ok (xs.map g,ρ)
 |[],_=>rfl
 |x::xs,e=>by
  simp only[jqb,compGo,e x jp7,R.bind_ok',jbX fun y hy=>e y (jp6 _ hy)]
theorem jcn {α:Type}{g:α->Bool}:∀(xs:List α),jaw (xs.map fun x=>.bl (g x))=some (xs.map g)
 |[]=>rfl
 |x::xs=>by simp only[jqb,jaw,jcn xs,Option.map_some]
theorem jdQ:∀(ns:List Int),cmpDs (ns.map D.int)=true
 |[]=>rfl
 |n::ns=>by simp only[jqb,cmpDs,jbn,jdQ ns,Bool.and_self]
theorem jdR:∀(ns:List Int),deeps (ns.map D.int)=0
 |[]=>rfl
 |n::ns=>by simp only[jqb,deeps,jcb,jdR ns];rfl
theorem jco {f:D->Rho->R Fl}(I:Nat->Rho->Prop):∀{xs:List D}{i:Nat}{ρ:Rho},I i ρ->(∀(j:Nat) x ρ,xs[j]?=some x->I (i + j) ρ->∃ρ',f x ρ=.ok (.nx ρ')/\I (i + j + 1) ρ')->∃ρ',ja6 f xs ρ=.ok (.nx ρ')/\I (i + xs.length) ρ'
 |[],i,ρ,h,_=>⟨ρ,rfl,by simpa using h⟩
 |x::xs,i,ρ,h,st=>by
  obtain⟨ρ1,e1,h1⟩:=st 0 x ρ rfl h;obtain⟨ρ2,e2,h2⟩:=jco I (xs:=xs) (i:=i + 1) h1 fun j y ρ hy hI=>by
   have:=st (j + 1) y ρ (by simpa using hy) (by rwa [show i + (j + 1)=i + 1 + j by omega])
   rwa [show i + (j + 1) + 1=i + 1 + j + 1 by omega]at this
  refine⟨ρ2,?_,by rw[jqe];rwa [show i + (xs.length + 1)=i + 1 + xs.length by omega]⟩
  simp only[ja6,e1,R.bind_ok'];exact e2
end DJ
namespace DJ
section
variable {G:Calls}{U:Nat->Nat->Bool}{W:Nat}{ρ ρ':Rho}{s:S}{ss a:Ss}{c e e':E}{i:Nat}{b:Bool}
theorem jaj (h:evS G U W s ρ=.ok (.nx ρ')):evSs G U W (.cons s ss) ρ=evSs G U W ss ρ':=by simp only[evSs,h,R.bind_ok',jhN]
theorem jfL {v:Vl}(h:evS G U W s ρ=.ok (.rt v ρ')):evSs G U W (.cons s ss) ρ=.ok (.rt v ρ'):=by simp only[evSs,h,R.bind_ok',jhO]
theorem jhP (h:evT G U c ρ=.ok (false,ρ)):evS G U W (.ife c a .nil) ρ=.ok (.nx ρ):=by simp only[evS,h,R.bind_ok',jqJ,if_false,evSs]
theorem jhQ {d:D}(h:evE G U e ρ=.ok (.dat d,ρ'))(hi:i < ρ'.length):evS G U W (.asg i e) ρ=.ok (.nx (ρ'.set i (.dat d))):=by simp only[evS,h,R.bind_ok',je1,toD,if_pos hi]
theorem jnN {o:O}(h:evE G U e ρ=.ok (.tmp o,ρ'))(hi:i < ρ'.length):evS G U W (.asg i e) ρ=.ok (.nx (ρ'.set i (.own o false false))):=by simp only[evS,h,R.bind_ok',je1,if_pos hi]
theorem jfM {d:D}(h:evE G U e ρ=.ok (.dat d,ρ')):evS G U W (.ret e) ρ=.ok (.rt (.dat d) ρ'):=by simp only[evS,h,R.bind_ok',jiQ]
theorem jer (h:evT G U c ρ=.ok (b,ρ')):evT G U (.not c) ρ=.ok (!b,ρ'):=by simp only[evT,h,R.bind_ok']
theorem jml {c':E}(h:evT G U c ρ=.ok (false,ρ))(h':evT G U c' ρ=.ok (b,ρ')):evT G U (.or c c') ρ=.ok (b,ρ'):=by simp only[evT,h,R.bind_ok',jqJ,if_false,h']
theorem jhR {xs:List D}(h:evE G U e ρ=.ok (.tmp (.l xs),ρ')):evE G U (.blt .tuple e) ρ=.ok (.dat (.tup xs),ρ'):=by simp only[evE,h,R.bind_ok',deref,O.toD,bfD,jaO]
end
end DJ
namespace DJ
open PySem
section
variable {d:D}{o:O}{i:Nat}{ρ:Rho}{xs:List D}{b:Bool}
theorem jak:deref (.dat d) ρ=.ok d:=rfl
theorem jcp:deref (.tmp o) ρ=.ok o.toD:=rfl
theorem jbY:deref (.slot i) ρ=(match ρ[i]? with | some (.own o _ _)=>.ok o.toD | _=>.stk):=rfl
theorem jhS:toD (.dat d) ρ=.ok (d,ρ):=rfl
theorem jlN:toD (.tmp o) ρ=.ok (o.toD,ρ):=rfl
theorem jju:toD (.slot i) ρ=(match ρ[i]? with | some (.own o false false)=>.ok (o.toD,ρ.set i (.dat o.toD)) | _=>.stk):=rfl
theorem jfn:je1 (.dat d) ρ=.ok (.dat d,ρ):=rfl
theorem jjv:je1 (.tmp o) ρ=.ok (.own o false false,ρ):=rfl
theorem jhT:je1 (.slot i) ρ=(toD (.slot i) ρ).bind fun p=>.ok (.dat p.1,p.2):=rfl
theorem jhU:(O.l xs).toD=.lst xs:=rfl
theorem jjw:jiQ (.dat d) ρ=.ok (.rt (.dat d) ρ):=rfl
theorem jjx:jiQ (.tmp o) ρ=.ok (.rt (.tmp o) ρ):=rfl
theorem jhV:jiQ (.slot i) ρ=(match ρ[i]? with | some (.own o false false)=>.ok (.rt (.tmp o) (ρ.set i .no)) | _=>.stk):=rfl
theorem jjy:jcc (.dat (.bl b))=.ok b:=rfl
theorem jhW:jaO (.tup xs)=.ok xs:=rfl
theorem jdS:jaO (.lst xs)=.ok xs:=rfl
theorem jfN:jbi (.dat (.tup xs)) ρ=.ok (xs,[],ρ):=rfl
theorem jfO:jbi (.dat (.lst xs)) ρ=.ok (xs,[],ρ):=rfl
theorem jfP:jbi (.tmp (.l xs)) ρ=.ok (xs,[],ρ):=rfl
theorem jes:jbi (.slot i) ρ=(match ρ[i]? with
  |some (.own (.l xs) _ true)=>.ok (xs,[],ρ)
  |some (.own (.l xs) f false)=>.ok (xs,[i],ρ.set i (.own (.l xs) f true))
  |_=>.stk):=rfl
theorem jlO {k:Nat}{v:Vl}:jdn k (.rt v ρ)=.ok (v,jfF k ρ):=rfl
theorem jlP {k:Nat}:jdn k (.nx ρ)=.ok (.dat .non,jfF k ρ):=rfl
theorem jlQ {lo hi:Option Int}:jgk (.tup xs) lo hi=.ok (.dat (.tup (cut xs lo hi))):=rfl
theorem jdi {a b:Int}:opD .add (.int a) (.int b)=.ok (.dat (.int (a + b))):=rfl
theorem jjz {a b:Int}:opD .sub (.int a) (.int b)=.ok (.dat (.int (a - b))):=rfl
theorem jjA {a b:Int}:opD .mul (.int a) (.int b)=if (-(2 ^ 64) < a/\a < 2 ^ 64)\/(-(2 ^ 64) < b/\b < 2 ^ 64)then .ok (.dat (.int (a * b)))else .stk:=rfl
theorem jhX {a b:Int}:opD .fdiv (.int a) (.int b)=if 0 < b/\b < 2 ^ 64 then .ok (.dat (.int (a / b)))else .stk:=rfl
theorem jbL {a b:Int}:opD .mod (.int a) (.int b)=if 0 < b then .ok (.dat (.int (a % b)))else .stk:=rfl
theorem jjB {a b:List D}:opD .add (.tup a) (.tup b)=if fits (a.length + b.length)then .ok (.dat (.tup (a++b)))else .stk:=rfl
theorem jfo {a b:List D}:opD .add (.lst a) (.lst b)=if fits (a.length + b.length)then .ok (.tmp (.l (a++b)))else .stk:=rfl
theorem jjC {a b:PySem.Str}:opD .add (.str a) (.str b)=if fits (a.length + b.length)then .ok (.dat (.str (a++b)))else .stk:=rfl
theorem jjD:bfD .len (.lst xs)=.ok (.dat (.int xs.length)):=rfl
theorem jjE:bfD .len (.tup xs)=.ok (.dat (.int xs.length)):=rfl
theorem jfQ:bfD .tuple (.lst xs)=.ok (.dat (.tup xs)):=rfl
theorem jfR:bfD .tuple (.tup xs)=.ok (.dat (.tup xs)):=rfl
theorem jhY:bfD .list (.lst xs)=.ok (.tmp (.l xs)):=rfl
theorem jhZ:bfD .list (.tup xs)=.ok (.tmp (.l xs)):=rfl
theorem jh0:bfD .revl (.lst xs)=.ok (.tmp (.l xs.reverse)):=rfl
theorem jh1:bfD .revt (.lst xs)=.ok (.dat (.tup xs.reverse)):=rfl
theorem jjF {a:Int}:bfD .abs (.int a)=.ok (.dat (.int (if a < 0 then -a else a))):=rfl
theorem jjG {a:Int}:bfD .int (.int a)=.ok (.dat (.int a)):=rfl
theorem jjH:bfD .int (.bl b)=.ok (.dat (.int (if b then 1 else 0))):=rfl
theorem jjI {a c:D}:cmD .eq a c=eqR a c:=rfl
theorem jnO {a c:D}:cmD .ne a c=(eqR a c).bind fun c=>.ok (!c):=rfl
theorem jlR {a c:Int}:cmD .lt (.int a) (.int c)=.ok (decide (a < c)):=rfl
theorem jet {a c:Int}:cmD .gt (.int a) (.int c)=.ok (decide (c < a)):=rfl
theorem jlS {a c:Int}:cmD .le (.int a) (.int c)=.ok (decide (a<=c)):=rfl
theorem jlT {a c:Int}:cmD .ge (.int a) (.int c)=.ok (decide (c<=a)):=rfl
theorem jjJ {a c:Int}:eqR (.int a) (.int c)=.ok (a == c):=rfl
theorem joS {a c:PySem.Str}:eqR (.str a) (.str c)=.ok (a == c):=rfl
theorem jlU {j:Int}:jek (.tup xs) (.int j)=atI xs j:=rfl
theorem jlV {j:Int}:jek (.lst xs) (.int j)=atI xs j:=rfl
theorem jdj {x:PySem.Str}{j:Int}:jek (.str x) (.int j)=atC x j:=rfl
theorem jp1 {x:D}:atI (x::xs) 0=.ok x:=rfl
theorem jp2 {x y:D}:atI (x::y::xs) 1=.ok y:=rfl
theorem jp3 {x y z:D}:atI (x::y::z::xs) 2=.ok z:=rfl
theorem jnP:jbj (.bl b)=.ok b:=rfl
theorem jnQ {a:Int}:jbj (.int a)=.ok (a != 0):=rfl
theorem jnR:jbj (.tup xs)=.ok (!xs.isEmpty):=rfl
theorem jnS:jbj (.lst xs)=.ok (!xs.isEmpty):=rfl
theorem jnT:jbj .non=.ok false:=rfl
theorem jfS {U:Nat->Nat->Bool}:jai U .non [.int]=.ok false:=rfl
theorem jeu {U:Nat->Nat->Bool}:jai U .non [.bool]=.ok false:=rfl
theorem jfT {U:Nat->Nat->Bool}:jai U .non [.str]=.ok false:=rfl
theorem jdT {U:Nat->Nat->Bool}:jai U .non [.tuple]=.ok false:=rfl
theorem jev {U:Nat->Nat->Bool}:jai U .non [.list]=.ok false:=rfl
theorem jew {U:Nat->Nat->Bool}:jai U .non [.dict]=.ok false:=rfl
theorem jh2 {U:Nat->Nat->Bool}:jai U (.bl b) [.int]=.ok true:=rfl
theorem jfU {U:Nat->Nat->Bool}:jai U (.bl b) [.bool]=.ok true:=rfl
theorem jh3 {U:Nat->Nat->Bool}:jai U (.bl b) [.str]=.ok false:=rfl
theorem jex {U:Nat->Nat->Bool}:jai U (.bl b) [.tuple]=.ok false:=rfl
theorem jfV {U:Nat->Nat->Bool}:jai U (.bl b) [.list]=.ok false:=rfl
theorem jfW {U:Nat->Nat->Bool}:jai U (.bl b) [.dict]=.ok false:=rfl
theorem jfX {U:Nat->Nat->Bool}{a:Int}:jai U (.int a) [.int]=.ok true:=rfl
theorem jey {U:Nat->Nat->Bool}{a:Int}:jai U (.int a) [.bool]=.ok false:=rfl
theorem jfY {U:Nat->Nat->Bool}{a:Int}:jai U (.int a) [.str]=.ok false:=rfl
theorem jdU {U:Nat->Nat->Bool}{a:Int}:jai U (.int a) [.tuple]=.ok false:=rfl
theorem jez {U:Nat->Nat->Bool}{a:Int}:jai U (.int a) [.list]=.ok false:=rfl
theorem jeA {U:Nat->Nat->Bool}{a:Int}:jai U (.int a) [.dict]=.ok false:=rfl
theorem jfZ {U:Nat->Nat->Bool}{x:PySem.Str}:jai U (.str x) [.int]=.ok false:=rfl
theorem jeB {U:Nat->Nat->Bool}{x:PySem.Str}:jai U (.str x) [.bool]=.ok false:=rfl
theorem jf0 {U:Nat->Nat->Bool}{x:PySem.Str}:jai U (.str x) [.str]=.ok true:=rfl
theorem jdV {U:Nat->Nat->Bool}{x:PySem.Str}:jai U (.str x) [.tuple]=.ok false:=rfl
theorem jeC {U:Nat->Nat->Bool}{x:PySem.Str}:jai U (.str x) [.list]=.ok false:=rfl
theorem jeD {U:Nat->Nat->Bool}{x:PySem.Str}:jai U (.str x) [.dict]=.ok false:=rfl
theorem jf1 {U:Nat->Nat->Bool}:jai U (.tup xs) [.int]=.ok false:=rfl
theorem jeE {U:Nat->Nat->Bool}:jai U (.tup xs) [.bool]=.ok false:=rfl
theorem jf2 {U:Nat->Nat->Bool}:jai U (.tup xs) [.str]=.ok false:=rfl
theorem jdW {U:Nat->Nat->Bool}:jai U (.tup xs) [.tuple]=.ok true:=rfl
theorem jeF {U:Nat->Nat->Bool}:jai U (.tup xs) [.list]=.ok false:=rfl
theorem jeG {U:Nat->Nat->Bool}:jai U (.tup xs) [.dict]=.ok false:=rfl
theorem jf3 {U:Nat->Nat->Bool}:jai U (.lst xs) [.int]=.ok false:=rfl
theorem jeH {U:Nat->Nat->Bool}:jai U (.lst xs) [.bool]=.ok false:=rfl
theorem jf4 {U:Nat->Nat->Bool}:jai U (.lst xs) [.str]=.ok false:=rfl
theorem jdX {U:Nat->Nat->Bool}:jai U (.lst xs) [.tuple]=.ok false:=rfl
theorem jeI {U:Nat->Nat->Bool}:jai U (.lst xs) [.list]=.ok true:=rfl
theorem jeJ {U:Nat->Nat->Bool}:jai U (.lst xs) [.dict]=.ok false:=rfl
theorem joT:fits 0=true:=rfl
theorem joU:fits 1=true:=rfl
theorem joV:fits 2=true:=rfl
theorem joW:fits 3=true:=rfl
theorem joX:fits 4=true:=rfl
theorem joY:fits 5=true:=rfl
theorem joZ:fits 6=true:=rfl
theorem jo0:fits 7=true:=rfl
theorem jo1:fits 8=true:=rfl
theorem jo2:fits 9=true:=rfl
theorem jnU:fits 10=true:=rfl
theorem jlW {lo hi:Option Int}:jgk (.lst xs) lo hi=.ok (.tmp (.l (cut xs lo hi))):=rfl
theorem jkf {x:PySem.Str}:jkO (.dat (.str x))=.ok x:=rfl
theorem jnV {x y:PySem.Str}:smD .cnt x (.str y)=.ok (.dat (.int (Txt.count x y))):=rfl
theorem jh4 {x y:PySem.Str}:smD .splt x (.str y)=if y.length != 0 && fits x.length && fits (Txt.split x y).length then .ok (.tmp (.l ((Txt.split x y).map .str)))else .stk:=rfl
theorem jcV:∀(ys:List PySem.Str),jbz (ys.map D.str)=some ys
 |[]=>rfl
 |y::ys=>by simp only[jqb,jbz,jcV ys,Option.map_some]
theorem jh5 {x:PySem.Str}{ys:List PySem.Str}(h:(ys.map (·.length)).sum + ys.length * x.length<=16777216):smD .join x (.lst (ys.map .str))=.ok (.dat (.str (Txt.join x ys))):=by
 simp only[smD,jcV,if_pos h]
theorem jlX {x:PySem.Str}{lo hi:Option Int}:jgk (.str x) lo hi=if fits x.length then .ok (.dat (.str (Txt.slice x lo hi)))else .stk:=rfl
theorem jjK {x:PySem.Str}:bfD .len (.str x)=if fits x.length then .ok (.dat (.int x.length))else .stk:=rfl
theorem jlY {x:PySem.Str}:bfD .isup (.str x)=.ok (.dat (.bl (Txt.isupper x))):=rfl
theorem jf5:jbo (.dat (.tup xs)) ρ=.ok (xs,[],ρ):=rfl
theorem jf6:jbo (.dat (.lst xs)) ρ=.ok (xs,[],ρ):=rfl
theorem jf7:jbo (.tmp (.l xs)) ρ=.ok (xs,[],ρ):=rfl
theorem jeK:jbo (.slot i) ρ=jbi (.slot i) ρ:=rfl
theorem jf8 {x:PySem.Str}:jbo (.dat (.str x)) ρ=if fits x.length then .ok (x.cps.toList.map (fun c=>D.str ⟨#[c]⟩),[],ρ)else .stk:=rfl
end
section
variable {G:Calls}{U:Nat->Nat->Bool}{W:Nat}
theorem jbM {α:Type}{elt:E}{caps:List Nat}{it:DJ.It}{ρ:Rho}{xs:List α}{h g:α->D}(hi:evI G U it ρ=.ok (xs.map h,[],ρ))(hE:∀x∈xs,evE G U elt (.dat (h x)::ja1 ρ caps)=.ok (.dat (g x),.dat (h x)::ja1 ρ caps))
  (hB:∀s,jaE caps 1 (s::ja1 ρ caps) ρ=ρ):evE G U (.comp elt [0] true 1 caps it .none) ρ=.ok (.tmp (.l (xs.map g)),ρ):=by
 simp only[evE,hi,R.bind_ok'];rw[jbX (g:=g)]
 ·rfl
 ·intro x hx;have:=hE x hx;simp only[putT,jdB,List.replicate,List.cons_append,List.nil_append,List.set_cons_zero,R.bind_ok',this,toD,hB]
theorem jnW:opD .pow (.int 10) (.int 18)=.ok (.dat (.int (10 ^ 18))):=by
 show (if 0<=(18:Int)/\(18:Int)<=1000000/\(10:Int).natAbs < 2 ^ 64 then R.ok (Vl.dat (.int (10 ^ (18:Int).toNat)))else R.stk)=_;rw[if_pos (by decide)]
 rfl
theorem jlZ {α β:Type}(f:α->β)(xs:List α)(lo hi:Option Int):cut (xs.map f) lo hi=(cut xs lo hi).map f:=by
 unfold cut;rw[jqd,List.map_take,List.map_drop]
theorem jfp {α:Type}(xs:List α)(k:Nat):cut xs none (some (k:Int))=xs.take k:=by
 show List.take ((if (k:Int) < 0 then ((k:Int) + xs.length).toNat else min (k:Int).toNat xs.length) - 0) (List.drop 0 xs)=_;rw[if_neg (by omega),Int.toNat_natCast,List.drop_zero,Nat.sub_zero,List.take_eq_take_iff]
 omega
theorem jjL {α:Type}(xs:List α)(k:Nat):cut xs (some (k:Int)) none=xs.drop k:=by
 show List.take (xs.length - (if (k:Int) < 0 then ((k:Int) + xs.length).toNat else min (k:Int).toNat xs.length)) (List.drop (if (k:Int) < 0 then ((k:Int) + xs.length).toNat else min (k:Int).toNat xs.length) xs)=_;rw[if_neg (by omega),Int.toNat_natCast]
 by_cases h:k<=xs.length
 ·rw[Nat.min_eq_left h,List.take_of_length_le (by simp)]
 ·rw[Nat.min_eq_right (by omega),List.drop_eq_nil_of_le (jqD _),List.drop_eq_nil_of_le (by omega),List.take_nil]
theorem jfq (k:Nat)(h:k<=16777216):jcv (.int k)=.ok ((List.range k).map fun (j:Nat)=>D.int j):=by
 show (if -16777216<=(k:Int)/\(k:Int)<=16777216 then R.ok (jkP 0 (k:Int).toNat)else R.stk)=_;rw[if_pos (by omega)]
 simp[jkP]
theorem jaB {n:Nat}(h:n<=16777216):fits n=true:=by simp[fits];exact h
theorem jjM {α:Type}{h:α->D}{i:Nat}{ys:List α}{c:α}{f:Bool}{ρ:Rho}(e:ρ[i]?=some (.own (.l ((ys++[c]).map h)) f false)):evE G U (.pop i) ρ=.ok (.dat (h c),ρ.set i (.own (.l (ys.map h)) f false)):=by
 simp only[evE,e,List.map_append,jqb,List.map_nil,List.getLast?_append,List.getLast?_singleton,Option.some_or,List.dropLast_concat]
theorem jdk {α:Type}{xs:List α}(h:0 < xs.length):∃ys c,xs=ys++[c]:=by
 rcases List.eq_nil_or_concat xs with rfl | ⟨ys,c,e⟩
 ·simp at h
 ·exact⟨ys,c,by simpa using e⟩
theorem jaX {α:Type}{f:D->Rho->R Fl}{h:α->D}(I:Rho->Prop):∀{xs:List α}{ρ:Rho},I ρ->(∀x∈xs,∀ρ,I ρ->∃ρ',f (h x) ρ=.ok (.nx ρ')/\I ρ')->∃ρ',ja6 f (xs.map h) ρ=.ok (.nx ρ')/\I ρ'
 |[],ρ,h,_=>⟨ρ,rfl,h⟩
 |x::xs,ρ,h,st=>by
  obtain⟨ρ1,e1,h1⟩:=st x jp7 ρ h;obtain⟨ρ2,e2,h2⟩:=jaX I (xs:=xs) h1 fun y hy=>st y (jp6 _ hy);exact⟨ρ2,by simp only[jqb,ja6,e1,R.bind_ok'];exact e2,h2⟩
theorem jdY {c:Rho->R (Bool×Rho)}{f:Rho->R Fl}(I:Nat->Rho->Prop):∀{k m:Nat}{ρ:Rho},k < m->I k ρ->(∀k ρ,I (k + 1) ρ->c ρ=.ok (true,ρ)/\∃ρ',f ρ=.ok (.nx ρ')/\I k ρ')->(∀ρ,I 0 ρ->c ρ=.ok (false,ρ))->∃ρ',jbA c f m ρ=.ok (.nx ρ')/\I 0 ρ'
 |0,m + 1,ρ,_,h,_,st0=>⟨ρ,by simp only[jbA,st0 ρ h,R.bind_ok',jqJ,if_false],h⟩
 |k + 1,m + 1,ρ,hk,h,st,st0=>by
  obtain⟨e1,ρ1,e2,h1⟩:=st k ρ h;obtain⟨ρ2,e3,h3⟩:=jdY I (k:=k) (m:=m) (by omega) h1 st st0
  exact⟨ρ2,by simp only[jbA,e1,R.bind_ok',if_true,e2];exact e3,h3⟩
 |_,0,_,hk,_,_,_=>absurd hk (Nat.not_lt_zero _)
end
end DJ
local macro_rules | `(tactic| simp_arith[$xs,*])=>do
  let l<-("DJ.evSs DJ.evS DJ.evE DJ.evT DJ.evEs DJ.evAs DJ.evO DJ.evI jqn jqo List.set_cons_zero List.set_cons_succ jqe List.length_nil Nat.reduceAdd Nat.reduceLT Nat.lt_add_one Nat.zero_lt_succ DJ.R.bind_ok' DJ.jak DJ.jcp DJ.jbY DJ.jhS DJ.jlN DJ.jju DJ.jfn DJ.jjv DJ.jhT DJ.jhU DJ.jjw DJ.jjx DJ.jhV DJ.jjy DJ.jhW DJ.jdS DJ.jfN DJ.jfO DJ.jfP DJ.jes DJ.jlO DJ.jlP DJ.jlQ DJ.jlW DJ.jhN DJ.jhO DJ.jlL DJ.jlM DJ.jdi DJ.jjz DJ.jjA DJ.jhX DJ.jbL DJ.jjB DJ.jfo DJ.jjC DJ.jjD DJ.jjE DJ.jfQ DJ.jfR DJ.jhY DJ.jhZ DJ.jh0 DJ.jh1 DJ.jjF DJ.jjG DJ.jjH DJ.jjI DJ.jnO DJ.jlR DJ.jet DJ.jlS DJ.jlT DJ.jjJ DJ.joS DJ.jlU DJ.jlV DJ.jdj DJ.jp1 DJ.jp2 DJ.jp3 DJ.jnP DJ.jnQ DJ.jnR DJ.jnS DJ.jnT DJ.jfS DJ.joT DJ.joU DJ.joV DJ.joW DJ.joX DJ.joY DJ.joZ DJ.jo0 DJ.jo1 DJ.jo2 DJ.jnU DJ.jeu DJ.jfT DJ.jdT DJ.jev DJ.jew DJ.jh2 DJ.jfU DJ.jh3 DJ.jex DJ.jfV DJ.jfW DJ.jfX DJ.jey DJ.jfY DJ.jdU DJ.jez DJ.jeA DJ.jfZ DJ.jeB DJ.jf0 DJ.jdV DJ.jeC DJ.jeD DJ.jf1 DJ.jeE DJ.jf2 DJ.jdW DJ.jeF DJ.jeG DJ.jf3 DJ.jeH DJ.jf4 DJ.jdX DJ.jeI DJ.jeJ if_true jqJ if_false Bool.not_true Bool.not_false Int.reducePow Int.reduceNeg Int.reduceLT Int.reduceLE and_self or_true true_or and_true true_and DJ.jkf DJ.jnV DJ.jh4 DJ.jlX DJ.jjK DJ.jlY DJ.jf5 DJ.jf6 DJ.jf7 DJ.jeK DJ.jf8".splitOn " ").toArray.mapM fun s=>`(Lean.Parser.Tactic.simpLemma| $(Lean.mkIdent s.toName):term)
  `(tactic| simp only[$l,*,$xs,*])
namespace Law
open PySem L2 DJ
noncomputable def top (i:Nat):Stmt:=PySem.Challenge.pw_tallysets_k51_grammars_written.main.body.getD i (.Pass ⟨0,0,0,0⟩)
noncomputable def d_is_sign:DefS:=⟨"is_sign",["mark"],["mark"],top 10⟩
noncomputable def jbN:Ss:=
 .cons (.ret (.blt .isup (.var 0))) (
 .nil)
noncomputable def d_signs_in:DefS:=⟨"signs_in",["right"],["right"],top 11⟩
noncomputable def jbZ:E:=.comp (.var 0) [0] true 1 [] (.seq (.var 0)) (.some (.call 0 [] (.cons (.var 0) .nil)))
noncomputable def jbw:Ss:=
 .cons (.ret (jbZ)) (
 .nil)
noncomputable def d_tally_of:DefS:=⟨"tally_of",["many","word"],["many","word"],top 12⟩
noncomputable def jb0:E:=.comp (.sm .cnt (.var 1) (.var 0)) [0] true 1 [1] (.seq (.slc (.lit (.str "abcd")) .none (.some (.var 0)))) .none
noncomputable def jbb:Ss:=
 .cons (.ret (.blt .tuple (jb0))) (
 .nil)
noncomputable def d_show_rule:DefS:=⟨"show_rule",["rule","sign","right"],["rule"],top 13⟩
noncomputable def jbf:Ss:=
 .cons (.asg 1 (.idx (.var 0) (.lit (.int 0)))) (
 .cons (.asg 2 (.idx (.var 0) (.lit (.int 1)))) (
 .cons (.ret (.bin .add (.bin .add (.bin .add (.lit (.str "")) (.var 1)) (.lit (.str "="))) (.var 2))) (
 .nil)))
noncomputable def d_show_grammar:DefS:=⟨"show_grammar",["grammar"],["grammar"],top 14⟩
noncomputable def jaM:E:=.comp (.call 3 [] (.cons (.var 0) .nil)) [0] true 1 [] (.seq (.idx (.var 0) (.lit (.int 1)))) .none
noncomputable def jaD:Ss:=
 .cons (.ret (.sm .join (.lit (.str ";")) (.bin .add (.lst (.cons (.blt .str (.idx (.var 0) (.lit (.int 0)))) .nil)) (jaM)))) (
 .nil)
noncomputable def d_read_right:DefS:=⟨"read_right",["text","many"],["text","many"],top 15⟩
noncomputable def ja7:E:=.comp (.or (.cmp .isin (.var 0) (.lit (.tup [.str "A",.str "B",.str "C"]))) (.cmp .isin (.var 0) (.slc (.lit (.str "abcd")) .none (.some (.var 1))))) [0] true 1 [1] (.seq (.var 0)) .none
noncomputable def jaJ:Ss:=
 .cons (.ife (.cmp .gt (.blt .len (.var 0)) (.lit (.int 4))) (.cons (.rai 1 (.lit (.str "a right text is too long"))) (
  .nil)) (.nil)) (
 .cons (.ife (.not (.blt .all (ja7))) (.cons (.rai 1 (.lit (.str "a right text has something else than signs and the grammar's letters"))) (
  .nil)) (.nil)) (
 .cons (.ife (.cmp .gt (.blt .len (.call 1 [] (.cons (.var 0) .nil))) (.lit (.int 2))) (.cons (.rai 1 (.lit (.str "a right text has too many signs"))) (
  .nil)) (.nil)) (
 .cons (.ret (.var 0)) (
 .nil))))
noncomputable def d_read_rule:DefS:=⟨"read_rule",["text","many"],["text","many"],top 16⟩
noncomputable def jaY:Ss:=
 .cons (.ife (.or (.cmp .lt (.blt .len (.var 0)) (.lit (.int 2))) (.or (.cmp .notin (.idx (.var 0) (.lit (.int 0))) (.lit (.tup [.str "A",.str "B",.str "C"]))) (.cmp .ne (.idx (.var 0) (.lit (.int 1))) (.lit (.str "="))))) (.cons (.rai 1 (.lit (.str "a rule does not begin with a sign and an equals"))) (
  .nil)) (.nil)) (
 .cons (.ret (.tup (.cons (.idx (.var 0) (.lit (.int 0))) (.cons (.call 5 [] (.cons (.slc (.var 0) (.some (.lit (.int 2))) .none) (.cons (.var 1) .nil))) .nil)))) (
 .nil))
noncomputable def d_read_grammar:DefS:=⟨"read_grammar",["text","parts","many"],["text"],top 17⟩
noncomputable def jaN:E:=.comp (.call 6 [] (.cons (.var 0) (.cons (.var 1) .nil))) [0] true 1 [2] (.seq (.slc (.var 1) (.some (.lit (.int 1))) .none)) .none
noncomputable def jas:Ss:=
 .cons (.asg 1 (.sm .splt (.var 0) (.lit (.str ";")))) (
 .cons (.ife (.cmp .notin (.idx (.var 1) (.lit (.int 0))) (.lit (.tup [.str "1",.str "2",.str "3",.str "4"]))) (.cons (.rai 1 (.lit (.str "there is no number of letters ahead"))) (
  .nil)) (.nil)) (
 .cons (.ife (.or (.cmp .lt (.blt .len (.var 1)) (.lit (.int 2))) (.cmp .gt (.blt .len (.var 1)) (.bin .add (.lit (.int 8)) (.lit (.int 1))))) (.cons (.rai 1 (.lit (.str "there are no rules, or too many"))) (
  .nil)) (.nil)) (
 .cons (.asg 2 (.blt .int (.idx (.var 1) (.lit (.int 0))))) (
 .cons (.ret (.tup (.cons (.var 2) (.cons (.blt .tuple (jaN)) .nil)))) (
 .nil)))))
noncomputable def d__law_whole:DefS:=⟨"_law_whole",["_law_found"],["_law_found"],top 19⟩
noncomputable def ja4:Ss:=
 .cons (.ret (.and (.isi (.var 0) [.int]) (.not (.isi (.var 0) [.bool])))) (
 .nil)
noncomputable def d__law_row:DefS:=⟨"_law_row",["_law_found","_law_due","_law_part"],["_law_found","_law_due"],top 20⟩
noncomputable def ja5:Ss:=
 .cons (.ife (.not (.call 8 [] (.cons (.var 2) .nil))) (.cons (.ret (.lit (.bl false))) (
  .nil)) (.nil)) (
 .nil)
noncomputable def jbc:Ss:=
 .cons (.ife (.or (.not (.isi (.var 0) [.tuple])) (.cmp .ne (.blt .len (.var 0)) (.blt .len (.var 1)))) (.cons (.ret (.lit (.bl false))) (
  .nil)) (.nil)) (
 .cons (.loop [2] true (.seq (.var 0)) ja5) (
 .cons (.ret (.cmp .eq (.var 0) (.var 1))) (
 .nil)))
noncomputable def d__law_deck:DefS:=⟨"_law_deck",["_law_cells","_law_many","_law_deck_here","_law_seed","_law_cell"],["_law_cells","_law_many"],top 21⟩
noncomputable def jbO:E:=.comp (.bin .mod (.var 0) (.bin .pow (.lit (.int 10)) (.lit (.int 18)))) [0] true 1 [] (.seq (.slc (.var 0) .none (.some (.var 1)))) .none
noncomputable def jaS:Ss:=
 .cons (.asg 3 (.bin .mod (.bin .add (.bin .mul (.var 3) (.lit (.int 797))) (.var 4)) (.lit (.int 999999929)))) (
 .nil)
noncomputable def jaT:Ss:=
 .cons (.asg 3 (.bin .mod (.bin .add (.bin .mul (.var 3) (.lit (.int 69621))) (.lit (.int 5))) (.lit (.int 2147483629)))) (
 .cons (.app 2 (.var 3)) (
 .nil))
noncomputable def jaZ:Ss:=
 .cons (.asg 2 (jbO)) (
 .cons (.asg 3 (.bin .add (.lit (.int 1013)) (.bin .mul (.lit (.int 7)) (.blt .len (.var 2))))) (
 .cons (.loop [4] true (.seq (.var 2)) jaS) (
 .cons (.whl (.cmp .lt (.blt .len (.var 2)) (.var 1)) jaT) (
 .cons (.rvs 2) (
 .cons (.ret (.var 2)) (
 .nil))))))
noncomputable def d__law_right:DefS:=⟨"_law_right",["_law_deck_here","_law_many","_law_signs","_law_most","_law_cell","_law_right_here","_law_left","_law_k"],["_law_deck_here","_law_many","_law_signs","_law_most"],top 22⟩
noncomputable def jap:Ss:=
 .cons (.asg 4 (.bin .mod (.bin .add (.bin .mul (.bin .fdiv (.var 4) (.lit (.int 5))) (.lit (.int 48271))) (.bin .mul (.lit (.int 7)) (.var 7))) (.lit (.int 2147483629)))) (
 .cons (.ife (.and (.cmp .eq (.bin .mod (.var 4) (.lit (.int 3))) (.lit (.int 1))) (.and (.cmp .gt (.var 6) (.lit (.int 0))) (.cmp .ne (.var 2) (.lit (.str ""))))) (.cons (.asg 5 (.bin .add (.var 5) (.idx (.var 2) (.bin .mod (.bin .fdiv (.var 4) (.lit (.int 3))) (.blt .len (.var 2)))))) (
  .cons (.asg 6 (.bin .sub (.var 6) (.lit (.int 1)))) (
  .nil))) (.cons (.asg 5 (.bin .add (.var 5) (.idx (.lit (.str "abcd")) (.bin .mod (.bin .fdiv (.var 4) (.lit (.int 3))) (.var 1))))) (
  .nil))) (
 .nil))
noncomputable def jaK:Ss:=
 .cons (.asg 4 (.pop 0)) (
 .cons (.asg 5 (.lit (.str ""))) (
 .cons (.asg 6 (.lit (.int 2))) (
 .cons (.loop [7] true (.rng1 (.bin .mod (.var 4) (.bin .add (.var 3) (.lit (.int 1))))) jap) (
 .cons (.ret (.var 5)) (
 .nil)))))
noncomputable def d__law_told:DefS:=⟨"_law_told",["_law_many","_law_rules","_law_due","_law_sign","_law_right_here","_law_grammar","_law_found","_law_back","_law_rule"],["_law_many","_law_rules"],top 23⟩
noncomputable def jaz:Ss:=
 .cons (.asg 2 (.bin .add (.bin .add (.bin .add (.bin .add (.var 2) (.lit (.str ";"))) (.var 3)) (.lit (.str "="))) (.var 4))) (
 .nil)
noncomputable def jbP:Ss:=
 .cons (.ife (.or (.not (.isi (.var 8) [.tuple])) (.or (.not (.isi (.idx (.var 8) (.lit (.int 0))) [.str])) (.not (.isi (.idx (.var 8) (.lit (.int 1))) [.str])))) (.cons (.ret (.lit (.bl false))) (
  .nil)) (.nil)) (
 .nil)
noncomputable def ja0:Ss:=
 .cons (.asg 2 (.idx (.lit (.str "1234")) (.bin .sub (.var 0) (.lit (.int 1))))) (
 .cons (.loop [3,4] false (.seq (.var 1)) jaz) (
 .cons (.asg 5 (.tup (.cons (.var 0) (.cons (.blt .tuple (.var 1)) .nil)))) (
 .cons (.asg 6 (.call 4 [] (.cons (.var 5) .nil))) (
 .cons (.ife (.or (.not (.isi (.var 6) [.str])) (.cmp .ne (.var 6) (.var 2))) (.cons (.ret (.lit (.bl false))) (
  .nil)) (.nil)) (
 .cons (.asg 7 (.call 7 [] (.cons (.var 2) .nil))) (
 .cons (.ife (.or (.not (.isi (.var 7) [.tuple])) (.or (.cmp .ne (.blt .len (.var 7)) (.lit (.int 2))) (.or (.not (.call 8 [] (.cons (.idx (.var 7) (.lit (.int 0))) .nil))) (.cmp .ne (.var 7) (.var 5))))) (.cons (.ret (.lit (.bl false))) (
  .nil)) (.nil)) (
 .cons (.loop [8] true (.seq (.idx (.var 7) (.lit (.int 1)))) jbP) (
 .cons (.ret (.lit (.bl true))) (
 .nil)))))))))
noncomputable def d__law_counted:DefS:=⟨"_law_counted",["_law_many","_law_word","_law_due","_law_letter"],["_law_many","_law_word"],top 24⟩
noncomputable def jau:E:=.comp (.var 0) [0] true 1 [3] (.seq (.var 1)) (.some (.cmp .eq (.var 0) (.var 1)))
noncomputable def jav:Ss:=
 .cons (.app 2 (.blt .len (jau))) (
 .nil)
noncomputable def jat:Ss:=
 .cons (.asg 2 (.lst (.nil))) (
 .cons (.loop [3] true (.seq (.slc (.lit (.str "abcd")) .none (.some (.var 0)))) jav) (
 .cons (.ret (.call 9 [] (.cons (.call 2 [] (.cons (.var 0) (.cons (.var 1) .nil))) (.cons (.blt .tuple (.var 2)) .nil)))) (
 .nil)))
noncomputable def d_law:DefS:=⟨"law",["_law_script","_law_deck_here","_law_many","_law_rules","_law_k","_law_sign","_law_word","_law_one"],["_law_script"],top 25⟩
noncomputable def jdl:Ss:=
 .cons (.asg 5 (.idx (.lit (.str "CBA")) (.bin .mod (.pop 1) (.lit (.int 3))))) (
 .cons (.app 3 (.tup (.cons (.var 5) (.cons (.call 11 [true,false,false,false] (.cons (.var 1) (.cons (.var 2) (.cons (.lit (.str "CBA")) (.cons (.lit (.int 4)) .nil))))) .nil)))) (
 .nil))
noncomputable def jh6:E:=.comp (.idx (.lit (.str "abcd")) (.bin .mod (.var 0) (.var 1))) [0] true 1 [2] (.seq (.var 1)) .none
noncomputable def jdm:Ss:=
 .cons (.ife (.not (.call 13 [] (.cons (.var 2) (.cons (.var 7) .nil)))) (.cons (.ret (.lit (.bl false))) (
  .nil)) (.nil)) (
 .nil)
noncomputable def jh7:Ss:=
 .cons (.asg 1 (.call 10 [] (.cons (.slc (.var 0) .none (.some (.lit (.int 63)))) (.cons (.lit (.int 72)) .nil)))) (
 .cons (.asg 2 (.bin .add (.lit (.int 1)) (.bin .mod (.pop 1) (.lit (.int 4))))) (
 .cons (.asg 3 (.lst (.nil))) (
 .cons (.loop [4] true (.rng1 (.bin .add (.lit (.int 1)) (.bin .mod (.pop 1) (.lit (.int 8))))) jdl) (
 .cons (.ife (.or (.not (.call 12 [] (.cons (.var 2) (.cons (.var 3) .nil)))) (.not (.call 12 [] (.cons (.var 2) (.cons (.blt .revl (.var 3)) .nil))))) (.cons (.ret (.lit (.bl false))) (
  .nil)) (.nil)) (
 .cons (.asg 6 (.sm .join (.lit (.str "")) (jh6))) (
 .cons (.loop [7] true (.seq (.lst (.cons (.var 6) (.cons (.slc (.var 6) .none (.some (.lit (.int 7)))) (.cons (.lit (.str "")) (.cons (.bin .add (.slc (.var 6) (.some (.lit (.int 1))) .none) (.var 6)) .nil)))))) jdm) (
 .cons (.ret (.call 12 [] (.cons (.var 2) (.cons (.var 3) .nil)))) (
 .nil))))))))
noncomputable def T:Tab:=⟨["is_sign","signs_in","tally_of","show_rule","show_grammar","read_right","read_rule","read_grammar","_law_whole","_law_row","_law_deck","_law_right","_law_told","_law_counted","law"],[[],[],[],[],[],[],[],[],[],[],[],[true,false,false,false],[],[],[]],[("LETTERS",(.str "abcd")),("SIGNS",(.tup [.str "A",.str "B",.str "C"])),("MANIES",(.tup [.str "1",.str "2",.str "3",.str "4"])),("MOST_RULES",(.int 8)),("MOST_PLACES",(.int 4)),("MOST_SIGNS",(.int 2))],["TallyError","NoText"],false⟩
noncomputable def U (i j:Nat):Bool:=(([[true,false],[true,true]]:List (List Bool)).getD i []).getD j false
noncomputable def DS:List DefS:=[d_is_sign,d_signs_in,d_tally_of,d_show_rule,d_show_grammar,d_read_right,d_read_rule,d_read_grammar,d__law_whole,d__law_row,d__law_deck,d__law_right,d__law_told,d__law_counted,d_law]
noncomputable def P:List Def:=[⟨1,1,jbN⟩,⟨1,1,jbw⟩,⟨2,2,jbb⟩,⟨1,3,jbf⟩,⟨1,1,jaD⟩,⟨2,2,jaJ⟩,⟨2,2,jaY⟩,⟨1,3,jas⟩,⟨1,1,ja4⟩,⟨2,3,jbc⟩,⟨2,5,jaZ⟩,⟨4,8,jaK⟩,⟨2,9,ja0⟩,⟨2,4,jat⟩,⟨1,8,jh7⟩]
theorem jh8:FnScope d_is_sign.N d_is_sign.ps (defScope d_is_sign.st):=⟨rfl,rfl,rfl,by decide +kernel,rfl,by decide +kernel,by decide +kernel⟩
theorem jh9:(mapO (trS T 60 false (defScope d_is_sign.st).names d_is_sign.N) (defBody d_is_sign.st)).map toSs=some jbN:=by kernel_rfl
theorem jia:BindP d_is_sign:=fun _ _ _ _ _ _=>jkb fun _=>rfl
theorem jf9:FnScope d_signs_in.N d_signs_in.ps (defScope d_signs_in.st):=⟨rfl,rfl,rfl,by decide +kernel,rfl,by decide +kernel,by decide +kernel⟩
theorem jga:(mapO (trS T 60 false (defScope d_signs_in.st).names d_signs_in.N) (defBody d_signs_in.st)).map toSs=some jbw:=by kernel_rfl
theorem jgb:BindP d_signs_in:=fun _ _ _ _ _ _=>jkb fun _=>rfl
theorem jgc:FnScope d_tally_of.N d_tally_of.ps (defScope d_tally_of.st):=⟨rfl,rfl,rfl,by decide +kernel,rfl,by decide +kernel,by decide +kernel⟩
theorem jgd:(mapO (trS T 60 false (defScope d_tally_of.st).names d_tally_of.N) (defBody d_tally_of.st)).map toSs=some jbb:=by kernel_rfl
theorem jge:BindP d_tally_of:=fun _ _ _ _ _ _=>jkc fun _ _=>rfl
theorem jeL:FnScope d_show_rule.N d_show_rule.ps (defScope d_show_rule.st):=⟨rfl,rfl,rfl,by decide +kernel,rfl,by decide +kernel,by decide +kernel⟩
theorem jeM:(mapO (trS T 60 false (defScope d_show_rule.st).names d_show_rule.N) (defBody d_show_rule.st)).map toSs=some jbf:=by kernel_rfl
theorem jeN:BindP d_show_rule:=fun _ _ _ _ _ _=>jkb fun _=>rfl
theorem jcy:FnScope d_show_grammar.N d_show_grammar.ps (defScope d_show_grammar.st):=⟨rfl,rfl,rfl,by decide +kernel,rfl,by decide +kernel,by decide +kernel⟩
theorem jcz:(mapO (trS T 60 false (defScope d_show_grammar.st).names d_show_grammar.N) (defBody d_show_grammar.st)).map toSs=some jaD:=by kernel_rfl
theorem jcA:BindP d_show_grammar:=fun _ _ _ _ _ _=>jkb fun _=>rfl
theorem jdZ:FnScope d_read_right.N d_read_right.ps (defScope d_read_right.st):=⟨rfl,rfl,rfl,by decide +kernel,rfl,by decide +kernel,by decide +kernel⟩
theorem jd0:(mapO (trS T 60 false (defScope d_read_right.st).names d_read_right.N) (defBody d_read_right.st)).map toSs=some jaJ:=by kernel_rfl
theorem jd1:BindP d_read_right:=fun _ _ _ _ _ _=>jkc fun _ _=>rfl
theorem jeO:FnScope d_read_rule.N d_read_rule.ps (defScope d_read_rule.st):=⟨rfl,rfl,rfl,by decide +kernel,rfl,by decide +kernel,by decide +kernel⟩
theorem jeP:(mapO (trS T 60 false (defScope d_read_rule.st).names d_read_rule.N) (defBody d_read_rule.st)).map toSs=some jaY:=by kernel_rfl
theorem jeQ:BindP d_read_rule:=fun _ _ _ _ _ _=>jkc fun _ _=>rfl
theorem jcB:FnScope d_read_grammar.N d_read_grammar.ps (defScope d_read_grammar.st):=⟨rfl,rfl,rfl,by decide +kernel,rfl,by decide +kernel,by decide +kernel⟩
theorem jcC:(mapO (trS T 60 false (defScope d_read_grammar.st).names d_read_grammar.N) (defBody d_read_grammar.st)).map toSs=some jas:=by kernel_rfl
theorem jcD:BindP d_read_grammar:=fun _ _ _ _ _ _=>jkb fun _=>rfl
theorem jd2:FnScope d__law_whole.N d__law_whole.ps (defScope d__law_whole.st):=⟨rfl,rfl,rfl,by decide +kernel,rfl,by decide +kernel,by decide +kernel⟩
theorem jd3:(mapO (trS T 60 false (defScope d__law_whole.st).names d__law_whole.N) (defBody d__law_whole.st)).map toSs=some ja4:=by kernel_rfl
theorem jd4:BindP d__law_whole:=fun _ _ _ _ _ _=>jkb fun _=>rfl
theorem jgf:FnScope d__law_row.N d__law_row.ps (defScope d__law_row.st):=⟨rfl,rfl,rfl,by decide +kernel,rfl,by decide +kernel,by decide +kernel⟩
theorem jgg:(mapO (trS T 60 false (defScope d__law_row.st).names d__law_row.N) (defBody d__law_row.st)).map toSs=some jbc:=by kernel_rfl
theorem jgh:BindP d__law_row:=fun _ _ _ _ _ _=>jkc fun _ _=>rfl
theorem jeR:FnScope d__law_deck.N d__law_deck.ps (defScope d__law_deck.st):=⟨rfl,rfl,rfl,by decide +kernel,rfl,by decide +kernel,by decide +kernel⟩
theorem jeS:(mapO (trS T 60 false (defScope d__law_deck.st).names d__law_deck.N) (defBody d__law_deck.st)).map toSs=some jaZ:=by kernel_rfl
theorem jeT:BindP d__law_deck:=fun _ _ _ _ _ _=>jkc fun _ _=>rfl
theorem jd5:FnScope d__law_right.N d__law_right.ps (defScope d__law_right.st):=⟨rfl,rfl,rfl,by decide +kernel,rfl,by decide +kernel,by decide +kernel⟩
theorem jd6:(mapO (trS T 60 false (defScope d__law_right.st).names d__law_right.N) (defBody d__law_right.st)).map toSs=some jaK:=by kernel_rfl
theorem jd7:BindP d__law_right:=fun _ _ _ _ _ _=>jp0 fun _ _ _ _=>rfl
theorem jeU:FnScope d__law_told.N d__law_told.ps (defScope d__law_told.st):=⟨rfl,rfl,rfl,by decide +kernel,rfl,by decide +kernel,by decide +kernel⟩
theorem jeV:(mapO (trS T 60 false (defScope d__law_told.st).names d__law_told.N) (defBody d__law_told.st)).map toSs=some ja0:=by kernel_rfl
theorem jeW:BindP d__law_told:=fun _ _ _ _ _ _=>jkc fun _ _=>rfl
theorem jcE:FnScope d__law_counted.N d__law_counted.ps (defScope d__law_counted.st):=⟨rfl,rfl,rfl,by decide +kernel,rfl,by decide +kernel,by decide +kernel⟩
theorem jcF:(mapO (trS T 60 false (defScope d__law_counted.st).names d__law_counted.N) (defBody d__law_counted.st)).map toSs=some jat:=by kernel_rfl
theorem jcG:BindP d__law_counted:=fun _ _ _ _ _ _=>jkc fun _ _=>rfl
theorem jo3:FnScope d_law.N d_law.ps (defScope d_law.st):=⟨rfl,rfl,rfl,by decide +kernel,rfl,by decide +kernel,by decide +kernel⟩
theorem jo4:(mapO (trS T 60 false (defScope d_law.st).names d_law.N) (defBody d_law.st)).map toSs=some jh7:=by kernel_rfl
theorem jo5:BindP d_law:=fun _ _ _ _ _ _=>jkb fun _=>rfl
end Law
namespace Law
open PySem L2 DJ Tx
variable {W n:Nat}
noncomputable abbrev CD (W n:Nat):Calls:=jaa U W P n
noncomputable abbrev chD (c:Nat):D:=.str ⟨#[c]⟩
noncomputable def up (c:Nat):Bool:=decide (c < 90)
noncomputable def OkC (m c:Nat):Prop:=c=65\/c=66\/c=67\/(97<=c/\c < 97 + m)
theorem ok7 {m c:Nat}(hm:m<=4)(h:OkC m c):(c=65\/c=66\/c=67)\/(c=97\/c=98\/c=99\/c=100):=by
 rcases h with h | h | h | h
 ·exact .inl (.inl h)
 ·exact .inl (.inr (.inl h))
 ·exact .inl (.inr (.inr h))
 ·exact .inr (by omega)
theorem jl0 {m c:Nat}(hm:m<=4)(h:OkC m c):Txt.isupper ⟨#[c]⟩=up c:=by
 rcases ok7 hm h with (rfl | rfl | rfl) | (rfl | rfl | rfl | rfl) <;> decide +kernel
noncomputable def SG:D:=.tup [.str "A",.str "B",.str "C"]
theorem jnX {c:Nat}(h:c=65\/c=66\/c=67):cmD .isin (chD c) (.tup [.str "A",.str "B",.str "C"])=.ok true:=by
 rcases h with rfl | rfl | rfl <;> rfl
theorem jl1 {c:Nat}(h:c=65\/c=66\/c=67):cmD .notin (chD c) (.tup [.str "A",.str "B",.str "C"])=.ok false:=by
 rcases h with rfl | rfl | rfl <;> rfl
theorem jl2 {c:Nat}(h:c=97\/c=98\/c=99\/c=100):cmD .isin (chD c) (.tup [.str "A",.str "B",.str "C"])=.ok false:=by
 rcases h with rfl | rfl | rfl | rfl <;> rfl
noncomputable def jao (m:Nat):List Nat:=[97,98,99,100].take m
theorem jpw {m:Nat}(h1:1<=m)(h2:m<=4):Txt.slice "abcd" none (some (m:Int))=mk (jao m):=by
 have:m=1\/m=2\/m=3\/m=4:=by omega
 rcases this with rfl | rfl | rfl | rfl <;> decide +kernel
theorem jl3 {m c:Nat}(h1:1<=m)(h2:m<=4)(h:97<=c/\c < 97 + m):c∈jao m:=by
 have:m=1\/m=2\/m=3\/m=4:=by omega
 rcases this with rfl | rfl | rfl | rfl <;> simp[jao] <;> omega
theorem jib {m:Nat}(h2:m<=4):(jao m).length=m:=by simp[jao];omega
theorem jnY {m c:Nat}(h1:1<=m)(h2:m<=4)(h:97<=c/\c < 97 + m):cmD .isin (chD c) (.str (mk (jao m)))=.ok true:=by
 show R.ok (Txt.contains (mk (jao m)) ⟨#[c]⟩)=_;rw[jkH,decide_eq_true (show c∈(mk (jao m)).cps.toList from jl3 h1 h2 h)]
theorem f4:fits ("abcd":Str).length=true:=by decide +kernel
theorem jb1 {l:List Nat}(h:l.length<=100000):fits (mk l).length=true:=jaB (by rw[jaV];omega)
theorem jcq {α:Type}{f:D->Rho->R (Option D×Rho)}{h g:α->D}{p:α->Bool}{ρ:Rho}:∀{xs:List α},(∀x∈xs,f (h x) ρ=.ok (if p x then some (g x)else none,ρ))->compGo f (xs.map h) ρ=.ok ((xs.filter p).map g,ρ)
 |[],_=>rfl
 |x::xs,e=>by
  simp only[jqb,compGo,e x jp7,R.bind_ok',jcq fun y hy=>e y (jp6 _ hy),List.filter_cons];cases p x <;> rfl
theorem jd8 {G:Calls}{U:Nat->Nat->Bool}{α:Type}{elt k:E}{caps:List Nat}{it:DJ.It}{ρ:Rho}{xs:List α}{h g:α->D}{p:α->Bool}(hi:evI G U it ρ=.ok (xs.map h,[],ρ))(hk:∀x∈xs,evT G U k (.dat (h x)::ja1 ρ caps)=.ok (p x,.dat (h x)::ja1 ρ caps))(hE:∀x∈xs,evE G U elt (.dat (h x)::ja1 ρ caps)=.ok (.dat (g x),.dat (h x)::ja1 ρ caps))
  (hB:∀s,jaE caps 1 (s::ja1 ρ caps) ρ=ρ):evE G U (.comp elt [0] true 1 caps it (.some k)) ρ=.ok (.tmp (.l ((xs.filter p).map g)),ρ):=by
 simp only[evE,hi,R.bind_ok'];rw[jcq (g:=g) (p:=p)]
 ·rfl
 ·intro x hx;have a:=hk x hx;have b:=hE x hx;simp only[putT,jdB,List.replicate,List.cons_append,List.nil_append,List.set_cons_zero,R.bind_ok',a];cases p x with
  |true=>simp only[if_true,b,R.bind_ok',toD,hB]
  |false=>simp only[jqJ,if_false,hB]
theorem jic {m c:Nat}(hm:m<=4)(h:OkC m c):CD W (n + 1) 0 [.dat (chD c)]=.ok (.dat (.bl (up c)),[.no]):=by
 rw[CD,jan (d:=⟨1,1,jbN⟩) rfl rfl];simp only[jbN,List.cons_append,List.nil_append,Nat.sub_self,List.replicate];simp_arith[jl0 hm h];rfl
theorem jid {G:Calls}{U:Nat->Nat->Bool}{l:List Nat}{ρ:Rho}{i:Nat}(h:ρ[i]?=some (.dat (.str (mk l))))(hl:l.length<=100000):evI G U (.seq (.var i)) ρ=.ok (l.map chD,[],ρ):=by
 simp_arith[h,jb1 hl]
theorem jl4 {m:Nat}{l:List Nat}(hm:m<=4)(h:∀c∈l,OkC m c)(hl:l.length<=100):CD W (n + 2) 1 [.dat (.str (mk l))]=.ok (.tmp (.l ((l.filter up).map chD)),[.no]):=by
 rw[CD,jan (d:=⟨1,1,jbw⟩) rfl rfl];have e1:evE (jaa U W P (n + 1)) U jbZ [.dat (.str (mk l))]=.ok (.tmp (.l ((l.filter up).map chD)),[.dat (.str (mk l))]):=by
  refine jd8 (h:=chD) (g:=chD) (p:=up) (xs:=l) (jid rfl (by omega)) (fun c hc=>?_) (fun c hc=>rfl) fun s=>rfl
  exact jb8 [chD c] rfl (jic hm (h c hc))
 simp only[jbw,List.cons_append,List.nil_append,Nat.sub_self,List.replicate];simp_arith[e1];rfl
structure OkR (m:Nat)(l:List Nat):Prop where
 len:l.length<=4
 all:∀c∈l,OkC m c
 few:(l.filter up).length<=2
theorem jjN {α:Type}(xs:List α):bfD .all (.lst (xs.map fun _=>D.bl true))=.ok (.dat (.bl true)):=by
 simp only[bfD,jdS,R.bind_ok',jcn (g:=fun _:α=>true)];simp
theorem jl5 {m:Nat}{l:List Nat}(h1:1<=m)(hm:m<=4)(h:OkR m l):CD W (n + 3) 5 [.dat (.str (mk l)),.dat (.int m)]=.ok (.dat (.str (mk l)),[.no,.no]):=by
 rw[CD,jan (d:=⟨2,2,jaJ⟩) rfl rfl];have hl:=h.len;have fl:fits (mk l).length=true:=jb1 (by omega)
 have e1:evE (jaa U W P (n + 2)) U ja7 [.dat (.str (mk l)),.dat (.int m)]=.ok (.tmp (.l (l.map fun _=>D.bl true)),[.dat (.str (mk l)),.dat (.int m)]):=by
  refine jbM (h:=chD) (g:=fun _=>D.bl true) (xs:=l) (jid rfl (by omega)) (fun c hc=>?_) fun s=>rfl
  show evE (jaa U W P (n + 2)) U _ [.dat (chD c),.dat (.int m)]=_;have hc:=h.all c hc;rcases ok7 hm hc with hs | hs
  ·simp_arith[jnX hs]
   rfl
  ·have hs2:97<=c/\c < 97 + m:=by
    rcases hc with e | e | e | e <;> omega
   simp_arith[jl2 hs,f4,jpw h1 hm,jnY h1 hm hs2]
   rfl
 have t1:evT (jaa U W P (n + 2)) U (.cmp .gt (.blt .len (.var 0)) (.lit (.int 4))) [.dat (.str (mk l)),.dat (.int m)]=.ok (false,[.dat (.str (mk l)),.dat (.int m)]):=by
  simp_arith[fl]
  rw[decide_eq_false (by rw[jaV];omega)]
 have t2:evT (jaa U W P (n + 2)) U (.not (.blt .all ja7)) [.dat (.str (mk l)),.dat (.int m)]=.ok (false,[.dat (.str (mk l)),.dat (.int m)]):=by
  refine jer (b:=true) ?_;simp only[evT,e1,R.bind_ok',jcp,jhU,jjN,jak,jnP]
 have t3:evT (jaa U W P (n + 2)) U (.cmp .gt (.blt .len (.call 1 [] (.cons (.var 0) .nil))) (.lit (.int 2))) [.dat (.str (mk l)),.dat (.int m)]=.ok (false,[.dat (.str (mk l)),.dat (.int m)]):=by
  have hc:=jaR (G:=jaa U W P (n + 2)) (U:=U) (ρ:=[.dat (.str (mk l)),.dat (.int m)]) (es:=.cons (.var 0) .nil) [.str (mk l)] rfl (jl4 (W:=W) (n:=n) hm h.all (by omega))
  have hf:=h.few;have hc2:evE (jaa U W P (n + 2)) U (.blt .len (.call 1 [] (.cons (.var 0) .nil))) [.dat (.str (mk l)),.dat (.int m)]=.ok (.dat (.int (((l.filter up).map chD).length:Int)),[.dat (.str (mk l)),.dat (.int m)]):=by
   rw[evE,hc];rfl
  rw[evT,hc2];simp_arith[jqd];rw[decide_eq_false (by omega)]
 show (evSs (jaa U W P (n + 2)) U W jaJ [.dat (.str (mk l)),.dat (.int m)]).bind (jdn 2)=_;unfold jaJ;rw[jaj (jhP t1),jaj (jhP t2),jaj (jhP t3)];simp_arith[];rfl
end Law
namespace Law
open PySem L2 DJ Tx
variable {W n:Nat}
noncomputable abbrev Rl:=Nat×List Nat
structure OkRl (m:Nat)(r:Rl):Prop where
 sg:r.1=65\/r.1=66\/r.1=67
 rt:OkR m r.2
noncomputable def rL (r:Rl):List Nat:=r.1::61::r.2
noncomputable def rT (r:Rl):Str:=mk (rL r)
noncomputable def rD (r:Rl):D:=.tup [.str ⟨#[r.1]⟩,.str (mk r.2)]
noncomputable def jcr (m:Nat)(rs:List Rl):D:=.tup [.int m,.tup (rs.map rD)]
theorem at0 {a b:Nat}{l:List Nat}(h:l.length<=100):atC (mk (a::b::l)) 0=.ok (chD a):=by
 unfold atC;rw[if_pos (jb1 (by simp;omega))]
 rfl
theorem at1 {a b:Nat}{l:List Nat}(h:l.length<=100):atC (mk (a::b::l)) 1=.ok (chD b):=by
 unfold atC;rw[if_pos (jb1 (by simp;omega))]
 rfl
theorem jie {G:Calls}{U:Nat->Nat->Bool}{a b:E}{x y:D}{ρ ρ1 ρ2:Rho}(ha:evE G U a ρ=.ok (.dat x,ρ1))(hb:evE G U b ρ1=.ok (.dat y,ρ2)):evE G U (.tup (.cons a (.cons b .nil))) ρ=.ok (.dat (.tup [x,y]),ρ2):=by
 have h2:evEs G U (.cons b .nil) ρ1=.ok ([y],ρ2):=by
  rw[evEs,hb];rfl
 rw[evE,evEs,ha];simp only[R.bind_ok',jhS,h2];rfl
theorem jo6 {G:Calls}{U:Nat->Nat->Bool}{f:Sm}{a b:E}{x:Str}{v w:Vl}{d:D}{ρ ρ1 ρ2:Rho}(ha:evE G U a ρ=.ok (.dat (.str x),ρ1))(hb:evE G U b ρ1=.ok (v,ρ2))(hd:deref v ρ2=.ok d)(h:smD f x d=.ok w):evE G U (.sm f a b) ρ=.ok (w,ρ2):=by
 rw[evE,ha];simp only[R.bind_ok',jkf];rw[hb];simp only[R.bind_ok',hd,h]
theorem jp4:cmD .ne (chD 61) (.str "=")=.ok false:=rfl
theorem jnZ {m:Nat}{r:Rl}(h1:1<=m)(hm:m<=4)(h:OkRl m r):CD W (n + 4) 6 [.dat (.str (rT r)),.dat (.int m)]=.ok (.dat (rD r),[.no,.no]):=by
 obtain⟨c,l⟩:=r;have hs:c=65\/c=66\/c=67:=h.sg;have hl:l.length<=4:=h.rt.len;have fl:fits (mk (c::61::l)).length=true:=jb1 (by simp;omega)
 rw[CD,jan (d:=⟨2,2,jaY⟩) rfl rfl];have t1:evT (jaa U W P (n + 3)) U (.or (.cmp .lt (.blt .len (.var 0)) (.lit (.int 2))) (.or (.cmp .notin (.idx (.var 0) (.lit (.int 0))) (.lit (.tup [.str "A",.str "B",.str "C"]))) (.cmp .ne (.idx (.var 0) (.lit (.int 1))) (.lit (.str "="))))) [.dat (.str (mk (c::61::l))),.dat (.int m)]=.ok (false,[.dat (.str (mk (c::61::l))),.dat (.int m)]):=by
  refine jml ?_ (jml ?_ ?_)
  ·simp_arith[fl]
   rw[decide_eq_false (by rw[jaV];simp;omega)]
  ·simp only[evT,evE,jqn,R.bind_ok',jak,jdj,at0 (jqG hl (by decide)),jl1 hs]
  ·simp only[evT,evE,jqn,R.bind_ok',jak,jdj,at1 (jqG hl (by decide)),jp4]
 have e1:evE (jaa U W P (n + 3)) U (.call 5 [] (.cons (.slc (.var 0) (.some (.lit (.int 2))) .none) (.cons (.var 1) .nil))) [.dat (.str (mk (c::61::l))),.dat (.int m)]=.ok (.dat (.str (mk l)),[.dat (.str (mk (c::61::l))),.dat (.int m)]):=by
  refine jaR [.str (mk l),.int m] ?_ (jl5 h1 hm h.rt);have sl:Txt.slice (mk (c::61::l)) (some 2) none=mk l:=jcN (c::61::l) 2 (by simp)
  simp_arith[fl,sl]
  rfl
 have e0:evE (jaa U W P (n + 3)) U (.idx (.var 0) (.lit (.int 0))) [.dat (.str (mk (c::61::l))),.dat (.int m)]=.ok (.dat (chD c),[.dat (.str (mk (c::61::l))),.dat (.int m)]):=by
  simp only[evE,jqn,R.bind_ok',jak,jdj,at0 (jqG hl (by decide))]
 show (evSs (jaa U W P (n + 3)) U W jaY [.dat (.str (mk (c::61::l))),.dat (.int m)]).bind (jdn 2)=_;unfold jaY;rw[jaj (jhP t1)];rw[jfL (v:=.dat (rD (c,l))) (ρ':=[.dat (.str (mk (c::61::l))),.dat (.int m)]) (jfM (jie e0 e1))];rfl
theorem jn0 {m:Nat}{r:Rl}(h:OkRl m r):CD W (n + 1) 3 [.dat (rD r)]=.ok (.dat (.str (rT r)),[.no]):=by
 obtain⟨c,l⟩:=r;have hl:l.length<=4:=h.rt.len;rw[CD,jan (d:=⟨1,3,jbf⟩) rfl rfl];have a1:(("":Str)++(⟨#[c]⟩:Str))=mk [c]:=by
  show mk []++mk [c]=_;rw[jbh];rfl
 have a2:mk [c]++("=":Str)=mk [c,61]:=by
  show mk [c]++mk [61]=_;rw[jbh];rfl
 have a3:mk [c,61]++mk l=rT (c,l):=by
  rw[jbh];rfl
 have g1:fits (("":Str).length + (⟨#[c]⟩:Str).length)=true:=rfl;have g2:fits ((mk [c]).length + ("=":Str).length)=true:=rfl;have g3:fits ((mk [c,61]).length + (mk l).length)=true:=jaB (by rw[jaV,jaV];simp;omega)
 simp only[jbf,List.cons_append,List.nil_append,Nat.reduceSub,List.replicate];simp_arith[rD,a1,a2,a3,g1,g2,g3];rfl
noncomputable def mT (m:Nat):Str:=Str.ofString (toString (m:Int))
theorem jo7 {m:Nat}(h1:1<=m)(hm:m<=4):mT m=mk [48 + m]:=by
 have:m=1\/m=2\/m=3\/m=4:=by omega
 rcases this with rfl | rfl | rfl | rfl <;> decide +kernel
theorem jo8 {m:Nat}(h1:1<=m)(hm:m<=4):cmD .notin (.str (mk [48 + m])) (.tup [.str "1",.str "2",.str "3",.str "4"])=.ok false:=by
 have:m=1\/m=2\/m=3\/m=4:=by omega
 rcases this with rfl | rfl | rfl | rfl <;> rfl
theorem jn1 {m:Nat}(h1:1<=m)(hm:m<=4):bfD .int (.str (mk [48 + m]))=.ok (.dat (.int m)):=by
 have e:PySem.intText? (mk [48 + m])=some (m:Int):=by
  have:m=1\/m=2\/m=3\/m=4:=by omega
  rcases this with rfl | rfl | rfl | rfl <;> decide +kernel
 show (if (mk [48 + m]).length<=640 then (match PySem.intText? (mk [48 + m])with | some n=>R.ok (Vl.dat (.int n)) | none=>.stk)else .stk)=_
 rw[if_pos (show (mk [48 + m]).length<=640 from(by decide:1<=640)),e]
noncomputable def jcH (m:Nat)(rs:List Rl):List Nat:=(48 + m)::rs.flatMap fun r=>59::rL r
theorem jl6 (m:Nat)(rs:List Rl):jl 59 ([48 + m]::rs.map rL)=jcH m rs:=by
 have key:∀(x:List Nat) (rs:List Rl),jl 59 (x::rs.map rL)=x++rs.flatMap fun r=>59::rL r:=by
  intro x rs;induction rs generalizing x with
  |nil=>simp[jl]
  |cons r rs ih=>
   show x++59::jl 59 (rL r::rs.map rL)=_;rw[ih];simp
 rw[key];rfl
theorem jfr (m:Nat)(rs:List Rl):Txt.join ";" (mk [48 + m]::rs.map rT)=mk (jcH m rs):=by
 refine jmZ ?_;have e:Txt.join ";" (mk [48 + m]::rs.map rT)=Str.join ⟨#[59]⟩ (mk [48 + m]::rs.map rT):=StrLaws.glued_eq_join _ _;rw[e,jeh,<-jl6];simp only[jqb,List.map_map];rfl
theorem jl7 {m:Nat}{r:Rl}(hm:m<=4)(h:OkRl m r):59 ∉ rL r:=by
 intro z;have hs:=h.sg;rcases List.mem_cons.mp z with e | z
 ·omega
 ·rcases List.mem_cons.mp z with e | z
  ·cases e
  ·rcases ok7 hm (h.rt.all _ z)with e | e <;> omega
theorem jif {m:Nat}{rs:List Rl}(hm:m<=4)(h:∀r∈rs,OkRl m r):Txt.split (mk (jcH m rs)) ";"=mk [48 + m]::rs.map rT:=by
 rw[<-jfr];refine jfE (c:=59) (by simp) fun p hp=>?_
 rcases List.mem_cons.mp hp with rfl | hp
 ·intro z;have:59=48 + m:=by simpa using z
  omega
 ·obtain⟨r,hr,rfl⟩:=List.mem_map.mp hp;exact jl7 hm (h r hr)
theorem jig {m:Nat}{r:Rl}(h:OkRl m r):(rL r).length<=6:=by
 have:=h.rt.len;simp[rL];omega
theorem jih {m:Nat}:∀{rs:List Rl},(∀r∈rs,OkRl m r)->(rs.flatMap fun r=>59::rL r).length<=7 * rs.length
 |[],_=>by simp
 |r::rs,h=>by
  have:=jih (rs:=rs) fun r hr=>h r (jp6 _ hr);have:=jig (h r (by simp))
  simp only[List.flatMap_cons,jqi,jqe];omega
theorem jii {m:Nat}:∀{rs:List Rl},(∀r∈rs,OkRl m r)->((rs.map rT).map (·.length)).sum<=6 * rs.length
 |[],_=>by simp
 |r::rs,h=>by
  have:=jii (rs:=rs) fun r hr=>h r (jp6 _ hr);have e:(rT r).length=(rL r).length:=jaV _;have:=jig (h r (by simp))
  simp only[jqb,List.sum_cons,jqe];omega
theorem jl8 {m:Nat}{rs:List Rl}(h1:1<=m)(hm:m<=4)(h:∀r∈rs,OkRl m r)(hn:rs.length<=8):CD W (n + 2) 4 [.dat (jcr m rs)]=.ok (.dat (.str (mk (jcH m rs))),[.no]):=by
 rw[CD,jan (d:=⟨1,1,jaD⟩) rfl rfl];have e1:evE (jaa U W P (n + 1)) U jaM [.dat (jcr m rs)]=.ok (.tmp (.l (rs.map fun r=>D.str (rT r))),[.dat (jcr m rs)]):=by
  refine jbM (h:=rD) (g:=fun r=>D.str (rT r)) (xs:=rs) rfl (fun r hr=>?_) fun s=>rfl;exact jaR [rD r] rfl (jn0 (h r hr))
 have e2:bfD .str (.int (m:Int))=.ok (.dat (.str (mk [48 + m]))):=by
  show (if (m:Int).natAbs.log2 < 1920 then R.ok (Vl.dat (.str (mT m)))else .stk)=_;rw[jo7 h1 hm,if_pos];have:m=1\/m=2\/m=3\/m=4:=by omega
  rcases this with rfl | rfl | rfl | rfl <;> decide
 have ej:smD .join ";" (.lst (D.str (mk [48 + m])::rs.map fun r=>D.str (rT r)))=.ok (.dat (.str (mk (jcH m rs)))):=by
  have e:(D.str (mk [48 + m])::rs.map fun r=>D.str (rT r))=(mk [48 + m]::rs.map rT).map D.str:=by simp
  rw[e,jh5,jfr];have:=jii h;have e3:(";":Str).length=1:=rfl;have e4:(mk [48 + m]).length=1:=rfl;simp only[jqb,List.sum_cons,jqe,jqd,e3,e4];omega
 have f:fits ([D.str (mk [48 + m])].length + (rs.map fun r=>D.str (rT r)).length)=true:=jaB (by simp;omega)
 have eb:evE (jaa U W P (n + 1)) U (.bin .add (.lst (.cons (.blt .str (.idx (.var 0) (.lit (.int 0)))) .nil)) jaM) [.dat (jcr m rs)]=.ok (.tmp (.l (D.str (mk [48 + m])::rs.map fun r=>D.str (rT r))),[.dat (jcr m rs)]):=by
  have i0:jek (jcr m rs) (.int 0)=.ok (.int m):=rfl;have el:evE (jaa U W P (n + 1)) U (.lst (.cons (.blt .str (.idx (.var 0) (.lit (.int 0)))) .nil)) [.dat (jcr m rs)]=.ok (.tmp (.l [D.str (mk [48 + m])]),[.dat (jcr m rs)]):=by
   simp_arith[i0,e2]
  rw[evE,el];simp only[R.bind_ok',e1,jcp,jhU,jfo,f];rfl
 simp only[jaD,List.cons_append,List.nil_append,Nat.sub_self,List.replicate];rw[jfL (v:=.dat (.str (mk (jcH m rs)))) (ρ':=[.dat (jcr m rs)]) (jfM (jo6 rfl eb rfl ej))];rfl
theorem jl9 {m:Nat}{rs:List Rl}(h1:1<=m)(hm:m<=4)(h:∀r∈rs,OkRl m r)(hn:rs.length<=8)(h0:1<=rs.length):CD W (n + 5) 7 [.dat (.str (mk (jcH m rs)))]=.ok (.dat (jcr m rs),[.no]):=by
 rw[CD,jan (d:=⟨1,3,jas⟩) rfl rfl];have sp:smD .splt (mk (jcH m rs)) (.str ";")=.ok (.tmp (.l (D.str (mk [48 + m])::rs.map fun r=>D.str (rT r)))):=by
  rw[jh4,jif hm h,if_pos]
  ·simp
  ·have:=jih h;have l1:fits (mk (jcH m rs)).length=true:=jb1 (by simp only[jcH,jqe];omega)
   have l2:fits (mk [48 + m]::rs.map rT).length=true:=jaB (by simp;omega)
   rw[l1,l2];rfl
 generalize hps:(D.str (mk [48 + m])::rs.map fun r=>D.str (rT r))=ps at sp;have p0:jek (.lst ps) (.int 0)=.ok (.str (mk [48 + m])):=by rw[<-hps];rfl
 have pl:ps.length=rs.length + 1:=by rw[<-hps];simp
 have pc:cut ps (some 1) none=rs.map fun r=>D.str (rT r):=by
  rw[show (some 1:Option Int)=some ((1:Nat):Int)from rfl,jjL,<-hps];rfl
 let st:Rho:=[.dat (.str (mk (jcH m rs))),.own (.l ps) false false,.no]
 let st2:Rho:=[.dat (.str (mk (jcH m rs))),.own (.l ps) false false,.dat (.int m)]
 have t1:evT (jaa U W P (n + 4)) U (.cmp .notin (.idx (.var 1) (.lit (.int 0))) (.lit (.tup [.str "1",.str "2",.str "3",.str "4"]))) st=.ok (false,st):=by
  simp only[st,evT,evE,jqn,jqo,R.bind_ok',jbY,jak,jhU,p0,jo8 h1 hm]
 have t2:evT (jaa U W P (n + 4)) U (.or (.cmp .lt (.blt .len (.var 1)) (.lit (.int 2))) (.cmp .gt (.blt .len (.var 1)) (.bin .add (.lit (.int 8)) (.lit (.int 1))))) st=.ok (false,st):=by
  refine jml ?_ ?_
  ·simp_arith[st]
   rw[decide_eq_false (by omega)]
  ·simp_arith[st]
   rw[decide_eq_false (by omega)]
 have e1:evE (jaa U W P (n + 4)) U jaN st2=.ok (.tmp (.l (rs.map rD)),st2):=by
  refine jbM (h:=fun r=>D.str (rT r)) (g:=rD) (xs:=rs) ?_ (fun r hr=>?_) fun s=>rfl
  ·simp only[st2];simp_arith[pc]
  ·exact jaR [.str (rT r),.int m] rfl (jnZ h1 hm (h r hr))
 show (evSs (jaa U W P (n + 4)) U W jas [.dat (.str (mk (jcH m rs))),.no,.no]).bind (jdn 1)=_;unfold jas;rw[jaj (jnN (jo6 rfl rfl rfl sp) (by simp))]
 show (evSs (jaa U W P (n + 4)) U W _ st).bind (jdn 1)=_;rw[jaj (jhP t1),jaj (jhP t2)];rw[jaj (ρ':=st2) (by simp only[st,evS,evE,jqn,jqo,R.bind_ok',jbY,jak,jhU,p0,jn1 h1 hm,jfn];rfl)]
 rw[jfL (v:=.dat (jcr m rs)) (ρ':=st2) (by
  have ev:evE (jaa U W P (n + 4)) U (.blt .tuple jaN) st2=.ok (.dat (.tup (rs.map rD)),st2):=jhR e1;have e2:evE (jaa U W P (n + 4)) U (.var 2) st2=.ok (.dat (.int m),st2):=rfl;exact jfM (jie e2 ev))]
 rfl
end Law
namespace Law
open PySem L2 DJ Tx
variable {W n:Nat}
theorem jfs {d:D}(h:jbn d=true)(h2:jcb d<=12):eqR d d=.ok true:=by
 unfold eqR;rw[if_pos (by simp[h,h2]),jb7 h]
theorem jij {i:Int}:CD W (n + 1) 8 [.dat (.int i)]=.ok (.dat (.bl true),[.no]):=by
 rw[CD,jan (d:=⟨1,1,ja4⟩) rfl rfl];simp only[ja4,List.cons_append,List.nil_append,Nat.sub_self,List.replicate];simp_arith[];rfl
theorem jo9 {xs:List Int}:CD W (n + 2) 9 [.dat (.tup (xs.map .int)),.dat (.tup (xs.map .int))]=.ok (.dat (.bl true),[.no,.no]):=by
 rw[CD,jan (d:=⟨2,3,jbc⟩) rfl rfl];let st (s:Sl):Rho:=[.dat (.tup (xs.map .int)),.dat (.tup (xs.map .int)),s];have t1:evT (jaa U W P (n + 1)) U (.or (.not (.isi (.var 0) [.tuple])) (.cmp .ne (.blt .len (.var 0)) (.blt .len (.var 1)))) (st .no)=.ok (false,st .no):=by
  simp_arith[st,beq_self_eq_true]
 have lp:=jaX (f:=fun x r=>(putT [2] true x r).bind fun r'=>evSs (jaa U W P (n + 1)) U W ja5 r') (h:=D.int) (fun ρ=>∃s,ρ=st s) (xs:=xs) (ρ:=st .no) ⟨_,rfl⟩ fun x hx ρ hρ=>by
  obtain⟨s,rfl⟩:=hρ;refine⟨st (.dat (.int x)),?_,_,rfl⟩;show evSs (jaa U W P (n + 1)) U W ja5 (st (.dat (.int x)))=_;have h3:=jer (jb8 (G:=jaa U W P (n + 1)) (U:=U) (ρ:=st (.dat (.int x))) (es:=.cons (.var 2) .nil) [.int x] rfl (jij (W:=W) (n:=n)));unfold ja5;rw[jaj (jhP h3)];rfl
 obtain⟨ρ',e,s,rfl⟩:=lp;have er:eqR (.tup (xs.map .int)) (.tup (xs.map .int))=.ok true:=jfs (by simp only[jbn];exact jdQ xs) (by simp only[jcb,jdR];decide)
 show (evSs (jaa U W P (n + 1)) U W jbc (st .no)).bind (jdn 2)=_;unfold jbc;rw[jaj (jhP t1)];rw[jaj (ρ':=st s) (by simp_arith[st,e,jbH,unlk])]
 simp_arith[st,er]
 rfl
noncomputable def jgi (w:List Nat)(c:Nat):Int:=((w.filter (· == c)).length:Int)
theorem jkg {G:Calls}{U:Nat->Nat->Bool}{m:Nat}{ρ:Rho}{i:Nat}(h1:1<=m)(hm:m<=4)(h:ρ[i]?=some (.dat (.int m))):evI G U (.seq (.slc (.lit (.str "abcd")) .none (.some (.var i)))) ρ=.ok ((jao m).map chD,[],ρ):=by
 have f:fits (mk (jao m)).length=true:=jb1 (by rw[jib hm];omega)
 simp_arith[h,f4,jpw h1 hm,f]
theorem jma {m:Nat}{w:List Nat}(h1:1<=m)(hm:m<=4):CD W (n + 1) 2 [.dat (.int m),.dat (.str (mk w))]=.ok (.dat (.tup (((jao m).map (jgi w)).map .int)),[.no,.no]):=by
 rw[CD,jan (d:=⟨2,2,jbb⟩) rfl rfl];have e1:evE (jaa U W P n) U jb0 [.dat (.int m),.dat (.str (mk w))]=.ok (.tmp (.l ((jao m).map fun c=>D.int (jgi w c))),[.dat (.int m),.dat (.str (mk w))]):=by
  refine jbM (h:=chD) (g:=fun c=>D.int (jgi w c)) (xs:=jao m) (jkg h1 hm rfl) (fun c hc=>?_) fun s=>rfl;show evE (jaa U W P n) U _ [.dat (chD c),.dat (.str (mk w))]=_;simp_arith[jgJ];rfl
 show (evSs (jaa U W P n) U W jbb [.dat (.int m),.dat (.str (mk w))]).bind (jdn 2)=_;unfold jbb;rw[jfL (jfM (jhR e1)),List.map_map];rfl
theorem jik {m:Nat}{w:List Nat}(h1:1<=m)(hm:m<=4)(hw:w.length<=1000):CD W (n + 3) 13 [.dat (.int m),.dat (.str (mk w))]=.ok (.dat (.bl true),[.no,.no]):=by
 rw[CD,jan (d:=⟨2,4,jat⟩) rfl rfl];let st (xs:List Int) (s:Sl):Rho:=[.dat (.int m),.dat (.str (mk w)),.own (.l (xs.map .int)) false false,s];have lp:∀(cs:List Nat) (xs:List Int) (s:Sl),xs.length + cs.length<=100->∃s',ja6 (fun x r=>(putT [3] true x r).bind fun r'=>evSs (jaa U W P (n + 2)) U W jav r') (cs.map chD) (st xs s)=.ok (.nx (st (xs++cs.map (jgi w)) s')):=by
  intro cs;induction cs with
  |nil=>intro xs s _;exact⟨s,by simp[ja6]⟩
  |cons c cs ih=>
   intro xs s hl;obtain⟨s',e⟩:=ih (xs++[jgi w c]) (.dat (chD c)) (by simp at hl ⊢;omega)
   refine⟨s',?_⟩;have ec:evE (jaa U W P (n + 2)) U jau (st xs (.dat (chD c)))=.ok (.tmp (.l ((w.filter (· == c)).map chD)),st xs (.dat (chD c))):=by
    refine jd8 (h:=chD) (g:=chD) (p:=fun x=>x == c) (xs:=w) (jid rfl (by omega)) (fun x hx=>?_) (fun c hc=>rfl) fun s=>rfl
    show evT (jaa U W P (n + 2)) U (.cmp .eq (.var 0) (.var 1)) [.dat (chD x),.dat (chD c)]=_;simp_arith[];have:((⟨#[x]⟩:Str) == ⟨#[c]⟩)=(x == c):=by
     by_cases hxc:x=c
     ·simp[hxc]
     ·have h2:(⟨#[x]⟩:Str)≠⟨#[c]⟩:=fun z=>hxc (by cases z;rfl)
      rw[beq_eq_false_iff_ne.mpr h2,beq_eq_false_iff_ne.mpr hxc]
    rw[this];rfl
   have one:evSs (jaa U W P (n + 2)) U W jav (st xs (.dat (chD c)))=.ok (.nx (st (xs++[jgi w c]) (.dat (chD c)))):=by
    have f:fits ((xs.map D.int).length + 1)=true:=jaB (by simp at hl ⊢;omega)
    have eb:evE (jaa U W P (n + 2)) U (.blt .len jau) (st xs (.dat (chD c)))=.ok (.dat (.int (jgi w c)),st xs (.dat (chD c))):=by
     rw[evE,ec];simp_arith[jqd];rfl
    unfold jav;rw[jaj (ρ':=st (xs++[jgi w c]) (.dat (chD c))) (by
     rw[evS];show (evE (jaa U W P (n + 2)) U (.blt .len jau) (st xs (.dat (chD c)))).bind _=_;rw[eb];simp_arith[st,f];simp)]
    rfl
   have e0:(putT [3] true (chD c) (st xs s))=.ok (st xs (.dat (chD c))):=rfl;simp only[jqb,ja6,e0,R.bind_ok',one];rw[e];simp
 obtain⟨s',e⟩:=lp (jao m) [] .no (by rw[jib hm];simp;omega)
 rw[List.nil_append]at e;have ec:=jaR (G:=jaa U W P (n + 2)) (U:=U) (ρ:=st ((jao m).map (jgi w)) s') (es:=.cons (.var 0) (.cons (.var 1) .nil)) [.int m,.str (mk w)] rfl (jma (W:=W) (n:=n + 1) h1 hm);have er:=jaR (G:=jaa U W P (n + 2)) (U:=U) (ρ:=st ((jao m).map (jgi w)) s') (es:=.cons (.call 2 [] (.cons (.var 0) (.cons (.var 1) .nil))) (.cons (.blt .tuple (.var 2)) .nil)) [.tup (((jao m).map (jgi w)).map .int),.tup (((jao m).map (jgi w)).map .int)] (by
  simp only[evAs,ec,R.bind_ok'];rfl) (jo9 (W:=W) (n:=n))
 show (evSs (jaa U W P (n + 2)) U W jat [.dat (.int m),.dat (.str (mk w)),.no,.no]).bind (jdn 2)=_;unfold jat;rw[jaj (ρ':=st [] .no) (by simp_arith[];rfl)]
 rw[jaj (ρ':=st ((jao m).map (jgi w)) s') (by
  simp only[evS,jkg (ρ:=st [] .no) (i:=0) h1 hm rfl,R.bind_ok',e,jbH,unlk])]
 rw[jfL (jfM er)];rfl
end Law
namespace Law
open PySem L2 DJ Tx
variable {W n:Nat}
theorem jn2 (ns:List Int)(hW:73<=W):∃xs:List Int,xs.length=72/\CD W (n + 1) 10 [.dat (.lst (ns.map .int)),.dat (.int 72)]=.ok (.tmp (.l (xs.map .int)),[.no,.no]):=by
 rw[CD,jan (d:=⟨2,5,jaZ⟩) rfl rfl];let ys:List Int:=(ns.take 72).map fun c=>c % 1000000000000000000;have hy:ys.length<=72:=by simp[ys];omega
 let st (o:Sl) (s3 s4:Sl):Rho:=[.dat (.lst (ns.map .int)),.dat (.int 72),o,s3,s4]
 have e1:evE (jaa U W P n) U jbO (st .no .no .no)=.ok (.tmp (.l (ys.map D.int)),st .no .no .no):=by
  have:=jbM (G:=jaa U W P n) (U:=U) (elt:=.bin .mod (.var 0) (.bin .pow (.lit (.int 10)) (.lit (.int 18)))) (caps:=[]) (it:=.seq (.slc (.var 0) .none (.some (.var 1)))) (ρ:=st .no .no .no) (h:=D.int) (g:=fun c=>.int (c % 1000000000000000000)) (xs:=ns.take 72) (by
   simp_arith[st,jlZ]
   rw[show (72:Int)=((72:Nat):Int)from rfl,jfp]) (fun c hc=>by simp_arith[jnW]) (fun s=>rfl)
  simp only[ys,List.map_map];exact this
 have lp:∀a,∃ρ',ja6 (fun x r=>(putT [4] true x r).bind fun r'=>evSs (jaa U W P n) U W jaS r') (ys.map D.int) (st (.own (.l (ys.map D.int)) false true) (.dat (.int a)) .no)=.ok (.nx ρ')/\∃b s,ρ'=st (.own (.l (ys.map D.int)) false true) (.dat (.int b)) s:=fun a=>by
  refine jaX (fun ρ'=>∃b s,ρ'=st (.own (.l (ys.map D.int)) false true) (.dat (.int b)) s) ⟨_,_,rfl⟩ fun x hx ρ hρ=>?_;obtain⟨b,s,rfl⟩:=hρ;refine⟨_,?_,(b * 797 + x) % 999999929,.dat (.int x),rfl⟩;show evSs (jaa U W P n) U W jaS (st (.own (.l (ys.map D.int)) false true) (.dat (.int b)) (.dat (.int x)))=_;unfold jaS;simp_arith[st]
 obtain⟨ρ1,e3,b,s,rfl⟩:=lp (1013 + 7 * ((ys.map D.int).length:Int));have wl:=jdY (c:=fun r=>evT (jaa U W P n) U (.cmp .lt (.blt .len (.var 2)) (.var 1)) r) (f:=fun r=>evSs (jaa U W P n) U W jaT r)
  (fun k ρ=>∃(zs:List Int) (a:Int) (s4:Sl),ρ=st (.own (.l (zs.map D.int)) false false) (.dat (.int a)) s4/\zs.length + k=72)
  (k:=72 - ys.length) (m:=W) (ρ:=st (.own (.l (ys.map D.int)) false false) (.dat (.int b)) s) (by omega) ⟨ys,b,s,rfl,by omega⟩
  (fun k ρ hρ=>by
   obtain⟨zs,a,s4,rfl,hz⟩:=hρ;refine⟨?_,_,?_,zs++[(a * 69621 + 5) % 2147483629],(a * 69621 + 5) % 2147483629,s4,rfl,by simp;omega⟩
   ·simp_arith[st,jqd]
    rw[decide_eq_true (by omega)]
   ·have f:fits (zs.length + 1)=true:=by simp[fits];omega
    unfold jaT;simp_arith[st,jqd,f];simp)
  (fun ρ hρ=>by
   obtain⟨zs,a,s4,rfl,hz⟩:=hρ;simp_arith[st,jqd];rw[decide_eq_false (by omega)])
 obtain⟨ρ2,e4,zs,a,s4,rfl,hz⟩:=wl;refine⟨zs.reverse,by simp;omega,?_⟩
 show (evSs (jaa U W P n) U W jaZ (st .no .no .no)).bind (jdn 2)=_;unfold jaZ;rw[jaj (jnN e1 (by simp[st]))]
 show (evSs (jaa U W P n) U W _ (st (.own (.l (ys.map D.int)) false false) .no .no)).bind (jdn 2)=_;rw[jaj (ρ':=st (.own (.l (ys.map D.int)) false false) (.dat (.int (1013 + 7 * ((ys.map D.int).length:Int)))) .no) (by simp_arith[st])]
 rw[jaj (ρ':=st (.own (.l (ys.map D.int)) false false) (.dat (.int b)) s) (by
  have e3':=e3;simp only[st]at e3' ⊢;simp_arith[e3',jbH,unlk])]
 rw[jaj (show evS (jaa U W P n) U W (.whl (.cmp .lt (.blt .len (.var 2)) (.var 1)) jaT) _=_ from e4)];simp_arith[st,List.map_reverse];rfl
theorem jkh {i:Int}(h0:0<=i)(h1:i < 3):∃c,atC "CBA" i=.ok (chD c)/\(c=65\/c=66\/c=67):=by
 have:i=0\/i=1\/i=2:=by omega
 rcases this with rfl | rfl | rfl
 ·exact⟨67,rfl,by omega⟩
 ·exact⟨66,rfl,by omega⟩
 ·exact⟨65,rfl,by omega⟩
theorem jil {i:Int}{m:Nat}(hm:m<=4)(h0:0<=i)(h1:i < m):∃c,atC "abcd" i=.ok (chD c)/\97<=c/\c < 97 + m:=by
 have:i=0\/i=1\/i=2\/i=3:=by omega
 rcases this with rfl | rfl | rfl | rfl
 ·exact⟨97,rfl,by omega⟩
 ·exact⟨98,rfl,by omega⟩
 ·exact⟨99,rfl,by omega⟩
 ·exact⟨100,rfl,by omega⟩
theorem jmb {m:Nat}{ys:List Int}{c:Int}(h1:1<=m)(hm:m<=4):∃l,OkR m l/\CD W (n + 1) 11 [.own (.l ((ys++[c]).map .int)) true false,.dat (.int m),.dat (.str "CBA"),.dat (.int 4)]=.ok (.dat (.str (mk l)),[.own (.l (ys.map .int)) true false,.no,.no,.no]):=by
 rw[CD,jan (d:=⟨4,8,jaK⟩) rfl rfl];let st (c:Int) (l:List Nat) (q:Int) (s:Sl):Rho:=[.own (.l (ys.map .int)) true false,.dat (.int m),.dat (.str "CBA"),.dat (.int 4),.dat (.int c),.dat (.str (mk l)),.dat (.int q),s];have hm0:(0:Int) < m:=by omega
 have lp:=jco (f:=fun x r=>(putT [7] true x r).bind fun r'=>evSs (jaa U W P n) U W jap r')
  (fun j ρ=>∃(c':Int) (l:List Nat) (q:Int) (s:Sl),ρ=st c' l q s/\l.length=j/\(∀c∈l,OkC m c)/\((l.filter up).length:Int) + q=2/\0<=q)
  (xs:=(List.range (c % 5).toNat).map fun (j:Nat)=>D.int j) (i:=0) (ρ:=st c [] 2 .no)
  ⟨c,[],2,.no,rfl,rfl,(fun c hc=>by cases hc),rfl,by decide⟩ (fun j x ρ hxj hρ=>by
   obtain⟨c',l,q,s,rfl,g1,g2,g3,g4⟩:=hρ;have hj:j < (c % 5).toNat/\x=.int (j:Int):=by
    rw[jqa]at hxj;cases e:(List.range (c % 5).toNat)[j]? with
    |none=>rw[e]at hxj;cases hxj
    |some k=>
     rw[e]at hxj;obtain⟨a1,a2⟩:=List.getElem?_eq_some_iff.mp e;rw[List.getElem_range]at a2;subst a2;cases hxj;exact⟨by simpa using a1,rfl⟩
   obtain⟨hj,rfl⟩:=hj;let z:Int:=(c' / 5 * 48271 + 7 * (j:Int)) % 2147483629;have hz0:0<=z:=Int.emod_nonneg _ (by decide)
   have s1:evS (jaa U W P n) U W (.asg 4 (.bin .mod (.bin .add (.bin .mul (.bin .fdiv (.var 4) (.lit (.int 5))) (.lit (.int 48271))) (.bin .mul (.lit (.int 7)) (.var 7))) (.lit (.int 2147483629)))) (st c' l q (.dat (.int j)))=.ok (.nx (st z l q (.dat (.int j)))):=by
    simp_arith[st]
    rfl
   have hl5:l.length<=5:=by omega
   by_cases hb:z % 3 == 1/\0 < q
   ·obtain⟨hb1,hb2⟩:=hb;obtain⟨d,hd,hd3⟩:=jkh (i:=z / 3 % 3) (Int.emod_nonneg _ (by decide)) (Int.emod_lt_of_pos _ (by decide))
    refine⟨st z (l++[d]) (q - 1) (.dat (.int j)),?_,z,l++[d],q - 1,_,rfl,by simp;omega,fun c hc=>?_,?_,by omega⟩
    ·show evSs (jaa U W P n) U W jap (st c' l q (.dat (.int j)))=_;unfold jap;rw[jaj s1];have t1:evT (jaa U W P n) U (.and (.cmp .eq (.bin .mod (.var 4) (.lit (.int 3))) (.lit (.int 1))) (.and (.cmp .gt (.var 6) (.lit (.int 0))) (.cmp .ne (.var 2) (.lit (.str ""))))) (st z l q (.dat (.int j)))=.ok (true,st z l q (.dat (.int j))):=by
      have hne:cmD .ne (.str "CBA") (.str "")=.ok true:=rfl;simp only[st,evT,evE,jqn,jqo,R.bind_ok',jak,jbL,show (0:Int) < 3 from by decide,if_true,jjI,jjJ,hb1,jet,decide_eq_true hb2,hne]
     have f1:fits ("CBA":Str).length=true:=rfl;have l3:(("CBA":Str).length:Int)=3:=rfl;have f2:fits ((mk l).length + (⟨#[d]⟩:Str).length)=true:=jaB (by rw[jaV];show l.length + 1<=_;omega)
     have ap:mk l++(⟨#[d]⟩:Str)=mk (l++[d]):=jbh l [d];rw[jaj (ρ':=st z (l++[d]) (q - 1) (.dat (.int j))) (by
      simp only[evS,t1,R.bind_ok',if_true];simp_arith[st,f1,l3,hd,f2,ap])]
     rfl
    ·rcases List.mem_append.mp hc with hc | hc
     ·exact g2 c hc
     ·have:c=d:=by simpa using hc
      subst this;rcases hd3 with e | e | e
      ·exact .inl e
      ·exact .inr (.inl e)
      ·exact .inr (.inr (.inl e))
    ·have:up d=true:=by simp[up];omega
     rw[List.filter_append,jqi,List.filter_cons,this];simp;omega
   ·obtain⟨d,hd,hd3⟩:=jil (i:=z / 3 % m) hm (Int.emod_nonneg _ (by omega)) (Int.emod_lt_of_pos _ hm0)
    refine⟨st z (l++[d]) q (.dat (.int j)),?_,z,l++[d],q,_,rfl,by simp;omega,fun c hc=>?_,?_,g4⟩
    ·show evSs (jaa U W P n) U W jap (st c' l q (.dat (.int j)))=_;unfold jap;rw[jaj s1];have t1:evT (jaa U W P n) U (.and (.cmp .eq (.bin .mod (.var 4) (.lit (.int 3))) (.lit (.int 1))) (.and (.cmp .gt (.var 6) (.lit (.int 0))) (.cmp .ne (.var 2) (.lit (.str ""))))) (st z l q (.dat (.int j)))=.ok (false,st z l q (.dat (.int j))):=by
      cases hb1:(z % 3 == 1)with
      |false=>simp only[st,evT,evE,jqn,jqo,R.bind_ok',jak,jbL,show (0:Int) < 3 from by decide,if_true,jjI,jjJ,hb1,jqJ,if_false]
      |true=>
       have hb2:¬ 0 < q:=fun h=>hb ⟨hb1,h⟩;simp only[st,evT,evE,jqn,jqo,R.bind_ok',jak,jbL,show (0:Int) < 3 from by decide,if_true,jjI,jjJ,hb1,jet,decide_eq_false hb2,jqJ,if_false]
     have f2:fits ((mk l).length + (⟨#[d]⟩:Str).length)=true:=jaB (by rw[jaV];show l.length + 1<=_;omega)
     have ap:mk l++(⟨#[d]⟩:Str)=mk (l++[d]):=jbh l [d];rw[jaj (ρ':=st z (l++[d]) q (.dat (.int j))) (by
      simp only[evS,t1,R.bind_ok',jqJ,if_false];simp_arith[st,hm0,hd,f2,ap])]
     rfl
    ·rcases List.mem_append.mp hc with hc | hc
     ·exact g2 c hc
     ·have:c=d:=by simpa using hc
      subst this;exact .inr (.inr (.inr hd3))
    ·have:up d=false:=by simp[up];omega
     rw[List.filter_append,jqi,List.filter_cons,this];simpa using g3)
 obtain⟨ρ1,e1,c',l,q,s,rfl,g1,g2,g3,g4⟩:=lp;rw[jqd,List.length_range,Nat.zero_add]at g1;refine⟨l,⟨by omega,g2,by omega⟩,?_⟩
 have rg:jcv (.int (c % 5))=.ok ((List.range (c % 5).toNat).map fun (j:Nat)=>D.int j):=by
  have:=jfq (c % 5).toNat (by omega)
  rwa [show ((c % 5).toNat:Int)=c % 5 by omega]at this
 show (evSs (jaa U W P n) U W jaK [.own (.l ((ys++[c]).map .int)) true false,.dat (.int m),.dat (.str "CBA"),.dat (.int 4),.no,.no,.no,.no]).bind (jdn 4)=_;unfold jaK;rw[jaj (ρ':=[.own (.l (ys.map .int)) true false,.dat (.int m),.dat (.str "CBA"),.dat (.int 4),.dat (.int c),.no,.no,.no]) (by rw[evS,jjM (h:=D.int) (ys:=ys) (c:=c) rfl];rfl)]
 rw[jaj (ρ':=[.own (.l (ys.map .int)) true false,.dat (.int m),.dat (.str "CBA"),.dat (.int 4),.dat (.int c),.dat (.str ""),.no,.no]) (by simp_arith[])]
 rw[jaj (ρ':=st c [] 2 .no) (by simp_arith[];rfl)]
 rw[jaj (ρ':=st c' l q s) (by
  have e1':=e1;simp only[st]at e1' ⊢;simp_arith[show (4:Int) + 1=5 from rfl,show (0:Int) < 5 from by decide,rg,e1',jbH,unlk])]
 simp_arith[st]
 rfl
end Law
namespace Law
open PySem L2 DJ Tx
variable {W n:Nat}
section
variable {G:Calls}{U:Nat->Nat->Bool}{a b:E}{x y:D}{ρ ρ1 ρ2:Rho}
theorem jgj {d:D}:evE G U (.lit d) ρ=.ok (.dat d,ρ):=by rw[evE]
theorem jim {o:Op}{v:Vl}(ha:evE G U a ρ=.ok (.dat x,ρ1))(hb:evE G U b ρ1=.ok (.dat y,ρ2))(h:opD o x y=.ok v):evE G U (.bin o a b) ρ=.ok (v,ρ2):=by
 rw[evE,ha];simp only[R.bind_ok'];rw[hb];simp only[R.bind_ok',jak,h]
theorem jpa {d:D}(ha:evE G U a ρ=.ok (.dat x,ρ1))(hb:evE G U b ρ1=.ok (.dat y,ρ2))(h:jek x y=.ok d):evE G U (.idx a b) ρ=.ok (.dat d,ρ2):=by
 rw[evE,ha];simp only[R.bind_ok'];rw[hb];simp only[R.bind_ok',jak,h]
theorem jn3 {xs:List D}(ha:evE G U a ρ=.ok (.dat x,ρ1))(h:jcv x=.ok xs):evI G U (.rng1 a) ρ=.ok (xs,[],ρ1):=by
 rw[evI,ha];simp only[R.bind_ok',jak,h]
theorem jpb {c c':E}{b:Bool}(h:evT G U c ρ=.ok (false,ρ1))(h':evT G U c' ρ1=.ok (b,ρ2)):evT G U (.or c c') ρ=.ok (b,ρ2):=by
 rw[evT,h];simp only[R.bind_ok',jqJ,if_false,h']
end
theorem jin (a:Int)(k:Int)(h:0 < k):opD .mod (.int a) (.int k)=.ok (.dat (.int (a % k))):=by rw[jbL,if_pos h]
theorem jmc {m:Nat}(h1:1<=m)(hm:m<=4):atC "1234" ((m:Int) - 1)=.ok (.str (mk [48 + m])):=by
 have:m=1\/m=2\/m=3\/m=4:=by omega
 rcases this with rfl | rfl | rfl | rfl <;> rfl
theorem jn4 (rs:List Rl):cmpDs (rs.map rD)=true:=by
 induction rs with
 |nil=>rfl
 |cons r rs ih=>simp only[jqb,cmpDs,rD,jbn,ih,Bool.and_self]
theorem jmd (rs:List Rl):deeps (rs.map rD)<=1:=by
 induction rs with
 |nil=>simp[deeps]
 |cons r rs ih=>
  simp only[jqb,deeps];exact Nat.max_le.mpr ⟨by simp[rD,jcb,deeps],ih⟩
theorem jme (m:Nat)(rs:List Rl):eqR (jcr m rs) (jcr m rs)=.ok true:=by
 refine jfs ?_ ?_
 ·simp only[jcr,jbn,cmpDs,jn4,Bool.and_self]
 ·have:=jmd rs;simp only[jcr,jcb,deeps,Nat.zero_max,Nat.max_zero];omega
theorem jki {m:Nat}{rs:List Rl}(h1:1<=m)(hm:m<=4)(h:∀r∈rs,OkRl m r)(hn:rs.length<=8)(h0:1<=rs.length):CD W (n + 6) 12 [.dat (.int m),.dat (.lst (rs.map rD))]=.ok (.dat (.bl true),[.no,.no]):=by
 rw[CD,jan (d:=⟨2,9,ja0⟩) rfl rfl];let st (l:List Nat) (s3 s4 s5 s6 s7 s8:Sl):Rho:=[.dat (.int m),.dat (.lst (rs.map rD)),.dat (.str (mk l)),s3,s4,s5,s6,s7,s8];have lp:∀(qs:List Rl) (l:List Nat) (s3 s4:Sl),(∀r∈qs,OkRl m r)->l.length + 7 * qs.length<=1000->∃s3' s4',ja6 (fun x r=>(putT [3,4] false x r).bind fun r'=>evSs (jaa U W P (n + 5)) U W jaz r') (qs.map rD) (st l s3 s4 .no .no .no .no)=.ok (.nx (st (l++qs.flatMap fun r=>59::rL r) s3' s4' .no .no .no .no)):=by
  intro qs;induction qs with
  |nil=>intro l s3 s4 _ _;exact⟨s3,s4,by simp[ja6]⟩
  |cons r qs ih=>
   intro l s3 s4 hq hl;have hr:=hq r (by simp)
   have hrl:=jig hr;obtain⟨c,t⟩:=r;simp only[rL,jqe]at hrl hl;obtain⟨s3',s4',e⟩:=ih (l++59::rL (c,t)) (.dat (chD c)) (.dat (.str (mk t))) (fun r hr=>hq r (jp6 _ hr)) (by simp[rL];omega)
   refine⟨s3',s4',?_⟩;have e0:(putT [3,4] false (rD (c,t)) (st l s3 s4 .no .no .no .no))=.ok (st l (.dat (chD c)) (.dat (.str (mk t))) .no .no .no .no):=rfl;have a1:mk l++(";":Str)=mk (l++[59]):=jbh l [59];have a2:mk (l++[59])++(⟨#[c]⟩:Str)=mk (l++[59]++[c]):=jbh _ [c];have a3:mk (l++[59]++[c])++("=":Str)=mk (l++[59]++[c]++[61]):=jbh _ [61];have a4:mk (l++[59]++[c]++[61])++mk t=mk (l++59::rL (c,t)):=by
    rw[jbh];simp[rL]
   have g1:fits ((mk l).length + (";":Str).length)=true:=jaB (by rw[jaV];show l.length + 1<=_;omega)
   have g2:fits ((mk (l++[59])).length + (⟨#[c]⟩:Str).length)=true:=jaB (by rw[jaV];show _ + 1<=_;simp;omega)
   have g3:fits ((mk (l++[59]++[c])).length + ("=":Str).length)=true:=jaB (by rw[jaV];show _ + 1<=_;simp;omega)
   have g4:fits ((mk (l++[59]++[c]++[61])).length + (mk t).length)=true:=jaB (by rw[jaV,jaV];simp;omega)
   have one:evSs (jaa U W P (n + 5)) U W jaz (st l (.dat (chD c)) (.dat (.str (mk t))) .no .no .no .no)=.ok (.nx (st (l++59::rL (c,t)) (.dat (chD c)) (.dat (.str (mk t))) .no .no .no .no)):=by
    unfold jaz;simp_arith[st,a1,a2,a3,a4,g1,g2,g3,g4]
   simp only[jqb,ja6,e0,R.bind_ok',one];rw[e];simp
 obtain⟨s3,s4,e⟩:=lp rs [48 + m] .no .no h (by simp;omega)
 have e:ja6 (fun x r=>(putT [3,4] false x r).bind fun r'=>evSs (jaa U W P (n + 5)) U W jaz r') (rs.map rD) (st [48 + m] .no .no .no .no .no .no)=.ok (.nx (st (jcH m rs) s3 s4 .no .no .no .no)):=e;have i0:jek (jcr m rs) (.int 0)=.ok (.int m):=rfl;have i1:jek (jcr m rs) (.int 1)=.ok (.tup (rs.map rD)):=rfl;let s5:=st (jcH m rs) s3 s4 (.dat (jcr m rs)) .no .no .no;let s6:=st (jcH m rs) s3 s4 (.dat (jcr m rs)) (.dat (.str (mk (jcH m rs)))) .no .no;let s7 (s:Sl):=st (jcH m rs) s3 s4 (.dat (jcr m rs)) (.dat (.str (mk (jcH m rs)))) (.dat (jcr m rs)) s;have c4:=jaR (G:=jaa U W P (n + 5)) (U:=U) (ρ:=s5) (es:=.cons (.var 5) .nil) [jcr m rs] rfl (jl8 (W:=W) (n:=n + 3) h1 hm h hn);have c7:=jaR (G:=jaa U W P (n + 5)) (U:=U) (ρ:=s6) (es:=.cons (.var 2) .nil) [.str (mk (jcH m rs))] rfl (jl9 (W:=W) (n:=n) h1 hm h hn h0);have t1:evT (jaa U W P (n + 5)) U (.or (.not (.isi (.var 6) [.str])) (.cmp .ne (.var 6) (.var 2))) s6=.ok (false,s6):=by
  simp_arith[s6,st,beq_self_eq_true]
 have t2:evT (jaa U W P (n + 5)) U (.or (.not (.isi (.var 7) [.tuple])) (.or (.cmp .ne (.blt .len (.var 7)) (.lit (.int 2))) (.or (.not (.call 8 [] (.cons (.idx (.var 7) (.lit (.int 0))) .nil))) (.cmp .ne (.var 7) (.var 5))))) (s7 .no)=.ok (false,s7 .no):=by
  refine jml ?_ (jml ?_ (jml ?_ ?_))
  ·exact jer (b:=true) rfl
  ·rfl
  ·exact jer (jb8 (G:=jaa U W P (n + 5)) (U:=U) (ρ:=s7 .no) (es:=.cons (.idx (.var 7) (.lit (.int 0))) .nil) [.int m] rfl (jij (W:=W) (n:=n + 4)))
  ·simp only[s7,st,evT,evE,jqn,jqo,R.bind_ok',jak,jnO,jme];rfl
 have lp2:=jaX (f:=fun x r=>(putT [8] true x r).bind fun r'=>evSs (jaa U W P (n + 5)) U W jbP r') (h:=rD) (fun ρ=>∃s,ρ=s7 s) (xs:=rs) (ρ:=s7 .no) ⟨_,rfl⟩ fun r hr ρ hρ=>by
  obtain⟨s,rfl⟩:=hρ;exact⟨s7 (.dat (rD r)),rfl,_,rfl⟩
 obtain⟨ρ',e2,s8,rfl⟩:=lp2;show (evSs (jaa U W P (n + 5)) U W ja0 [.dat (.int m),.dat (.lst (rs.map rD)),.no,.no,.no,.no,.no,.no,.no]).bind (jdn 2)=_;unfold ja0;rw[jaj (ρ':=st [48 + m] .no .no .no .no .no .no) (by simp_arith[jmc h1 hm];rfl)]
 rw[jaj (ρ':=st (jcH m rs) s3 s4 .no .no .no .no) (by
  have e':=e;simp only[st]at e' ⊢;simp_arith[e',jbH,unlk])]
 rw[jaj (ρ':=s5) (by simp_arith[st];rfl)]
 rw[jaj (jhQ c4 (by simp[s5,st]))]
 show (evSs (jaa U W P (n + 5)) U W _ s6).bind (jdn 2)=_;rw[jaj (jhP t1)];rw[jaj (jhQ c7 (by simp[s6,st]))]
 show (evSs (jaa U W P (n + 5)) U W _ (s7 .no)).bind (jdn 2)=_;rw[jaj (jhP t2)];rw[jaj (ρ':=s7 s8) (by
  have ei:evI (jaa U W P (n + 5)) U (.seq (.idx (.var 7) (.lit (.int 1)))) (s7 .no)=.ok (rs.map rD,[],s7 .no):=rfl;simp only[evS,ei,R.bind_ok',e2,jbH,unlk])]
 simp_arith[s7,st]
 rfl
theorem jjO {G:Calls}{U:Nat->Nat->Bool}{α:Type}{elt:E}{caps lk:List Nat}{it:DJ.It}{ρ ρ1:Rho}{xs:List α}{h g:α->D}(hi:evI G U it ρ=.ok (xs.map h,lk,ρ1))(hE:∀x∈xs,evE G U elt (.dat (h x)::ja1 ρ1 caps)=.ok (.dat (g x),.dat (h x)::ja1 ρ1 caps))
  (hB:∀s,jaE caps 1 (s::ja1 ρ1 caps) ρ1=ρ1):evE G U (.comp elt [0] true 1 caps it .none) ρ=.ok (.tmp (.l (xs.map g)),unlk lk ρ1):=by
 simp only[evE,hi,R.bind_ok'];rw[jbX (g:=g)]
 ·rfl
 ·intro x hx;have:=hE x hx;simp only[putT,jdB,List.replicate,List.cons_append,List.nil_append,List.set_cons_zero,R.bind_ok',this,toD,hB]
theorem jd9:∀(w:List Nat),Str.join "" (w.map fun c=>(⟨#[c]⟩:Str))=mk w
 |[]=>rfl
 |[c]=>rfl
 |c::d::w=>by
  show (⟨#[c]⟩:Str)++""++Str.join "" ((d::w).map fun c=>(⟨#[c]⟩:Str))=_;rw[jd9 (d::w)];show mk [c]++mk []++mk (d::w)=_;rw[jbh,jbh];rfl
theorem jpc (ns:List Int)(hW:73<=W):∃fin,CD W (n + 7) 14 [.dat (.lst (ns.map .int))]=.ok (.dat (.bl true),fin):=by
 obtain⟨xs,hx,ed⟩:=jn2 (W:=W) (n:=n + 5) (ns.take 63) hW;obtain⟨xs1,c1,rfl⟩:=jdk (show 0 < xs.length by omega)
 obtain⟨xs2,c2,rfl⟩:=jdk (show 0 < xs1.length by simp at hx;omega)
 have hx2:xs2.length=70:=by simp at hx;omega
 rw[CD,jan (d:=⟨1,8,jh7⟩) rfl rfl];obtain⟨m,hmz⟩:∃m:Nat,(m:Int)=1 + c1 % 4:=⟨(1 + c1 % 4).toNat,by omega⟩
 have h1:1<=m:=by omega
 have hm:m<=4:=by omega
 have hk:((1 + c2 % 8).toNat:Int)=1 + c2 % 8:=by omega
 let sc:Sl:=.dat (.lst (ns.map .int))
 let st (d:Sl) (r s4 s5 s6 s7:Sl):Rho:=[sc,d,.dat (.int m),r,s4,s5,s6,s7]
 let dk (ys:List Int):Sl:=.own (.l (ys.map .int)) false false
 have lp:=jco (f:=fun x r=>(putT [4] true x r).bind fun r'=>evSs (jaa U W P (n + 6)) U W jdl r')
  (fun j ρ=>∃(ys:List Int) (rs:List Rl) (s4 s5:Sl),ρ=st (dk ys) (.own (.l (rs.map rD)) false false) s4 s5 .no .no/\ys.length + 2 * j=70/\rs.length=j/\∀r∈rs,OkRl m r)
  (xs:=(List.range (1 + c2 % 8).toNat).map fun (j:Nat)=>D.int j) (i:=0) (ρ:=st (dk xs2) (.own (.l []) false false) .no .no .no .no)
  ⟨xs2,[],.no,.no,rfl,by omega,rfl,fun t ht=>by cases ht⟩ (fun j x ρ hxj hρ=>by
   obtain⟨ys,rs,s4,s5,rfl,g1,g2,g3⟩:=hρ;have hj:j < (1 + c2 % 8).toNat:=by
    have:=(List.getElem?_eq_some_iff.mp hxj).1;simpa using this
   obtain⟨ys1,d1,rfl⟩:=jdk (show 0 < ys.length by omega)
   obtain⟨ys2,d2,rfl⟩:=jdk (show 0 < ys1.length by simp at g1;omega)
   obtain⟨sg,hsg,hsg3⟩:=jkh (i:=d1 % 3) (Int.emod_nonneg _ (by decide)) (Int.emod_lt_of_pos _ (by decide))
   obtain⟨l,hl,el⟩:=jmb (W:=W) (n:=n + 5) (m:=m) (ys:=ys2) (c:=d2) h1 hm;refine⟨st (dk ys2) (.own (.l ((rs++[(sg,l)]).map rD)) false false) (.dat x) (.dat (chD sg)) .no .no,?_,ys2,rs++[(sg,l)],_,_,rfl,by simp at g1;omega,by simp;omega,fun r hr=>?_⟩
   ·show evSs (jaa U W P (n + 6)) U W jdl (st (dk (ys2++[d2]++[d1])) (.own (.l (rs.map rD)) false false) (.dat x) s5 .no .no)=_;unfold jdl;rw[jaj (ρ':=st (dk (ys2++[d2])) (.own (.l (rs.map rD)) false false) (.dat x) (.dat (chD sg)) .no .no) (by
     have ep:=jjM (G:=jaa U W P (n + 6)) (U:=U) (h:=D.int) (i:=1) (ys:=ys2++[d2]) (c:=d1) (f:=false) (ρ:=st (dk (ys2++[d2]++[d1])) (.own (.l (rs.map rD)) false false) (.dat x) s5 .no .no) rfl;exact jhQ (jpa jgj (jim ep jgj (jin d1 3 (by decide))) (show jek (.str "CBA") (.int (d1 % 3))=.ok (chD sg)from hsg)) (by simp[st]))]
    have f:fits (rs.map rD).length.succ=true:=jaB (by simp;omega)
    have ec:evE (jaa U W P (n + 6)) U (.call 11 [true,false,false,false] (.cons (.var 1) (.cons (.var 2) (.cons (.lit (.str "CBA")) (.cons (.lit (.int 4)) .nil))))) (st (dk (ys2++[d2])) (.own (.l (rs.map rD)) false false) (.dat x) (.dat (chD sg)) .no .no)=.ok (.dat (.str (mk l)),st (dk ys2) (.own (.l (rs.map rD)) false false) (.dat x) (.dat (chD sg)) .no .no):=by
     simp_arith[st,dk,jar,jcw,List.headD_cons,List.tail_cons,el,jaF]
    rw[jaj (ρ':=st (dk ys2) (.own (.l ((rs++[(sg,l)]).map rD)) false false) (.dat x) (.dat (chD sg)) .no .no) (by
     have e5:evE (jaa U W P (n + 6)) U (.var 5) (st (dk (ys2++[d2])) (.own (.l (rs.map rD)) false false) (.dat x) (.dat (chD sg)) .no .no)=.ok (.dat (chD sg),st (dk (ys2++[d2])) (.own (.l (rs.map rD)) false false) (.dat x) (.dat (chD sg)) .no .no):=rfl;have et:evE (jaa U W P (n + 6)) U (.tup (.cons (.var 5) (.cons (.call 11 [true,false,false,false] (.cons (.var 1) (.cons (.var 2) (.cons (.lit (.str "CBA")) (.cons (.lit (.int 4)) .nil))))) .nil))) (st (dk (ys2++[d2])) (.own (.l (rs.map rD)) false false) (.dat x) (.dat (chD sg)) .no .no)=.ok (.dat (rD (sg,l)),st (dk ys2) (.own (.l (rs.map rD)) false false) (.dat x) (.dat (chD sg)) .no .no):=jie e5 ec;rw[evS];show (evE (jaa U W P (n + 6)) U _ _).bind _=_;rw[et];simp_arith[st,f];simp)]
    rfl
   ·rcases List.mem_append.mp hr with hr | hr
    ·exact g3 r hr
    ·have:r=(sg,l):=by simpa using hr
     subst this;exact⟨hsg3,hl⟩)
 obtain⟨ρ1,e1,ys,rs,s4,s5,rfl,g1,g2,g3⟩:=lp;rw[jqd,List.length_range,Nat.zero_add]at g1 g2;have r1:1<=rs.length:=by omega
 have r8:rs.length<=8:=by omega
 have ct:=jki (W:=W) (n:=n) h1 hm g3 r8 r1;have ctr:=jki (W:=W) (n:=n) (rs:=rs.reverse) h1 hm (fun r hr=>g3 r (by simpa using hr)) (by simpa using r8) (by simpa using r1)
 let rd:Sl:=.dat (.lst (rs.map rD))
 have wex:∃w:List Nat,w.length=ys.length/\∀s6 s7,evE (jaa U W P (n + 6)) U jh6 (st (dk ys) rd s4 s5 s6 s7)=.ok (.tmp (.l (w.map chD)),st (dk ys) rd s4 s5 s6 s7):=by
  have pick:∀c:Int,∃d,atC "abcd" (c % m)=.ok (chD d):=fun c=>by
   obtain⟨d,hd,_⟩:=jil (i:=c % m) hm (Int.emod_nonneg _ (by omega)) (Int.emod_lt_of_pos _ (by omega))
   exact⟨d,hd⟩
  obtain⟨pk,hpk⟩:∃pk:Int->Nat,∀c,atC "abcd" (c % m)=.ok (chD (pk c)):=⟨fun c=>(pick c).choose,fun c=>(pick c).choose_spec⟩;refine⟨ys.map pk,by simp,fun s6 s7=>?_⟩
  have:=jjO (G:=jaa U W P (n + 6)) (U:=U) (elt:=.idx (.lit (.str "abcd")) (.bin .mod (.var 0) (.var 1))) (caps:=[2]) (it:=.seq (.var 1)) (ρ:=st (dk ys) rd s4 s5 s6 s7) (ρ1:=st (.own (.l (ys.map .int)) false true) rd s4 s5 s6 s7) (lk:=[1]) (xs:=ys) (h:=D.int) (g:=fun c=>chD (pk c)) (by simp_arith[st,dk]) (fun c hc=>by
   show evE (jaa U W P (n + 6)) U _ [.dat (.int c),.dat (.int m)]=_;simp_arith[show (0:Int) < m by omega,hpk c]
   rfl) (fun s=>rfl)
  rw[List.map_map];exact this
 obtain⟨w,hwl,ew⟩:=wex;have hw7:7<=w.length:=by omega
 have hw70:w.length<=70:=by omega
 have ej:smD .join "" (.lst (w.map chD))=.ok (.dat (.str (mk w))):=by
  have e:w.map chD=(w.map fun c=>(⟨#[c]⟩:Str)).map D.str:=by simp
  have es:((w.map fun c=>(⟨#[c]⟩:Str)).map (·.length)).sum=w.length:=by
   have:∀w:List Nat,((w.map fun c=>(⟨#[c]⟩:Str)).map (·.length)).sum=w.length:=fun w=>by
    induction w with
    |nil=>rfl
    |cons c w ih=>
     simp only[jqb,List.sum_cons,jqe];have e1:(⟨#[c]⟩:Str).length=1:=rfl;rw[ih,e1];omega
   exact this w
  have e0:("":Str).length=0:=rfl;rw[e,jh5 (by rw[es,e0];simp;omega)]
  have:Txt.join "" (w.map fun c=>(⟨#[c]⟩:Str))=mk w:=(StrLaws.glued_eq_join _ _).trans (jd9 w);rw[this]
 have sl1:Txt.slice (mk w) none (some 7)=mk (w.take 7):=jiK w 7 hw7;have sl2:Txt.slice (mk w) (some 1) none=mk (w.drop 1):=jcN w 1 (by omega)
 have fw:fits (mk w).length=true:=jb1 (by omega)
 have fa:fits ((mk (w.drop 1)).length + (mk w).length)=true:=jaB (by rw[jaV,jaV];simp;omega)
 have ap:mk (w.drop 1)++mk w=mk (w.drop 1++w):=jbh _ _;let ws:List (List Nat):=[w,w.take 7,[],w.drop 1++w];have hws:∀x∈ws,x.length<=1000:=fun x hx=>by
  simp only[ws,List.mem_cons,List.not_mem_nil,or_false]at hx;rcases hx with rfl | rfl | rfl | rfl
  ·omega
  ·simp;omega
  ·simp
  ·simp;omega
 let sw:Sl:=.dat (.str (mk w))
 have lp2:=jaX (f:=fun x r=>(putT [7] true x r).bind fun r'=>evSs (jaa U W P (n + 6)) U W jdm r') (h:=fun x:List Nat=>D.str (mk x)) (fun ρ=>∃s,ρ=st (dk ys) rd s4 s5 sw s) (xs:=ws) (ρ:=st (dk ys) rd s4 s5 sw .no) ⟨_,rfl⟩ fun x hx ρ hρ=>by
  obtain⟨s,rfl⟩:=hρ;refine⟨st (dk ys) rd s4 s5 sw (.dat (.str (mk x))),?_,_,rfl⟩;show evSs (jaa U W P (n + 6)) U W jdm (st (dk ys) rd s4 s5 sw (.dat (.str (mk x))))=_;have h3:=jer (jb8 (G:=jaa U W P (n + 6)) (U:=U) (ρ:=st (dk ys) rd s4 s5 sw (.dat (.str (mk x)))) (es:=.cons (.var 2) (.cons (.var 7) .nil)) [.int m,.str (mk x)] rfl (jik (W:=W) (n:=n + 3) h1 hm (hws x hx)));unfold jdm;rw[jaj (jhP h3)];rfl
 obtain⟨ρ2,e2,s7,rfl⟩:=lp2;have rg:jcv (.int (1 + c2 % 8))=.ok ((List.range (1 + c2 % 8).toNat).map fun (j:Nat)=>D.int j):=by
  have:=jfq (1 + c2 % 8).toNat (by omega)
  rwa [hk]at this
 refine⟨[.no],?_⟩;show (evSs (jaa U W P (n + 6)) U W jh7 [sc,.no,.no,.no,.no,.no,.no,.no]).bind (jdn 1)=_;unfold jh7;have ed':jaa U W P (n + 6) 10 [.dat (.lst ((ns.take 63).map .int)),.dat (.int 72)]=.ok (.tmp (.l ((xs2++[c2]++[c1]).map .int)),[.no,.no]):=ed;rw[jaj (ρ':=[sc,dk (xs2++[c2]++[c1]),.no,.no,.no,.no,.no,.no]) (by
  have hc:cut (ns.map D.int) none (some 63)=(ns.take 63).map D.int:=by
   rw[show (63:Int)=((63:Nat):Int)from rfl,jfp,List.map_take]
  simp_arith[sc,hc,jar,jcw,List.headD_nil,List.tail_nil,ed',jaF]
  rfl)]
 rw[jaj (ρ':=[sc,dk (xs2++[c2]),.dat (.int m),.no,.no,.no,.no,.no]) (by
  have ep:=jjM (G:=jaa U W P (n + 6)) (U:=U) (h:=D.int) (i:=1) (ys:=xs2++[c2]) (c:=c1) (f:=false) (ρ:=[sc,dk (xs2++[c2]++[c1]),.no,.no,.no,.no,.no,.no]) rfl;rw[hmz];exact jhQ (jim jgj (jim ep jgj (jin c1 4 (by decide))) jdi) (by simp))]
 rw[jaj (ρ':=st (dk (xs2++[c2])) (.own (.l []) false false) .no .no .no .no) (by simp_arith[];rfl)]
 rw[jaj (ρ':=st (dk ys) (.own (.l (rs.map rD)) false false) s4 s5 .no .no) (by
  have ep:=jjM (G:=jaa U W P (n + 6)) (U:=U) (h:=D.int) (i:=1) (ys:=xs2) (c:=c2) (f:=false) (ρ:=st (dk (xs2++[c2])) (.own (.l []) false false) .no .no .no .no) rfl;have ei:evI (jaa U W P (n + 6)) U (.rng1 (.bin .add (.lit (.int 1)) (.bin .mod (.pop 1) (.lit (.int 8))))) (st (dk (xs2++[c2])) (.own (.l []) false false) .no .no .no .no)=.ok ((List.range (1 + c2 % 8).toNat).map fun (j:Nat)=>D.int j,[],st (dk xs2) (.own (.l []) false false) .no .no .no .no):=by
   exact jn3 (jim jgj (jim ep jgj (jin c2 8 (by decide))) jdi) rg
  simp only[evS,ei,R.bind_ok',e1,jbH,unlk])]
 have tt:evT (jaa U W P (n + 6)) U (.or (.not (.call 12 [] (.cons (.var 2) (.cons (.var 3) .nil)))) (.not (.call 12 [] (.cons (.var 2) (.cons (.blt .revl (.var 3)) .nil))))) (st (dk ys) (.own (.l (rs.map rD)) false false) s4 s5 .no .no)=.ok (false,st (dk ys) rd s4 s5 .no .no):=by
  have a1:evT (jaa U W P (n + 6)) U (.call 12 [] (.cons (.var 2) (.cons (.var 3) .nil))) (st (dk ys) (.own (.l (rs.map rD)) false false) s4 s5 .no .no)=.ok (true,st (dk ys) rd s4 s5 .no .no):=by
   have ct':jaa U W P (n + 6) 12 [.dat (.int m),.dat (.lst (rs.map rD))]=.ok (.dat (.bl true),[.no,.no]):=ct;simp_arith[st,jar,jcw,List.headD_nil,List.tail_nil,ct',jaF];rfl
  have a2:evT (jaa U W P (n + 6)) U (.call 12 [] (.cons (.var 2) (.cons (.blt .revl (.var 3)) .nil))) (st (dk ys) rd s4 s5 .no .no)=.ok (true,st (dk ys) rd s4 s5 .no .no):=by
   have ct':jaa U W P (n + 6) 12 [.dat (.int m),.dat (.lst (rs.map rD).reverse)]=.ok (.dat (.bl true),[.no,.no]):=by rw[<-List.map_reverse];exact ctr
   simp_arith[st,rd,jar,jcw,List.headD_nil,List.tail_nil,ct',jaF]
  have b1:=jer a1;have b2:=jer a2;exact jpb b1 b2
 rw[jaj (ρ':=st (dk ys) rd s4 s5 .no .no) (by simp only[evS,tt,R.bind_ok',jqJ,if_false,evSs])]
 rw[jaj (ρ':=st (dk ys) rd s4 s5 sw .no) (by
  exact jhQ (jo6 rfl (ew .no .no) rfl ej) (by simp[st]))]
 rw[jaj (ρ':=st (dk ys) rd s4 s5 sw s7) (by
  have ei:evI (jaa U W P (n + 6)) U (.seq (.lst (.cons (.var 6) (.cons (.slc (.var 6) .none (.some (.lit (.int 7)))) (.cons (.lit (.str "")) (.cons (.bin .add (.slc (.var 6) (.some (.lit (.int 1))) .none) (.var 6)) .nil)))))) (st (dk ys) rd s4 s5 sw .no)=.ok (ws.map fun x=>D.str (mk x),[],st (dk ys) rd s4 s5 sw .no):=by
   simp_arith[st,sw,fw,sl1,sl2,fa,ap]
   rfl
  simp only[evS,ei,R.bind_ok',e2,jbH,unlk])]
 have cl:=jaR (G:=jaa U W P (n + 6)) (U:=U) (ρ:=st (dk ys) rd s4 s5 sw s7) (es:=.cons (.var 2) (.cons (.var 3) .nil)) [.int m,.lst (rs.map rD)] rfl ct;rw[jfL (jfM cl)];rfl
end Law
namespace Law
open PySem L2 DJ
theorem jbG {K:Frag}{mg:Str->Option Value}{d:DefS}{b:Ss}{i f:Nat}{oc:Value}{od an:Option Addr}{sl:Array (Option Value)}{kV doc pm cd ct:Value}(x:Str)(e:d.name=x)(hm:mg x=some (.ref f))(l:K.lookup f=some ⟨oc,od,.func (PySem.W.fnOf x x (defArgs d.st) (defBody d.st) (defScope d.st) .none kV doc pm an cd ct),sl⟩)
  (c:PySem.W.codeIn K cd x=true) (k:PySem.W.keepIn K (.ref f)=true) (hb:BindP d) (hs:FnScope d.N d.ps (defScope d.st)) (ht:(mapO (trS T 60 false (defScope d.st).names d.N) (defBody d.st)).map toSs=some b) (hP:P[i]?=some ⟨d.ps.length,d.N.length,b⟩) :
  ∃f fd,mg d.name=some (.ref f)/\Fun K d.name d.name d.st f fd/\BindP d/\FnScope d.N d.ps (defScope d.st)/\∃ss,mapO (trS T 60 false (defScope d.st).names d.N) (defBody d.st)=some ss/\P[i]?=some ⟨d.ps.length,d.N.length,toSs ss⟩:=by
 subst e;obtain⟨ss,e1,e2⟩:=Option.map_eq_some_iff.mp ht;exact⟨f,_,hm,jmW l c k,hb,hs,ss,e1,by rw[e2];exact hP⟩
theorem jn5 {K:Frag}{C:Addr}{v:ClassData}(h:PySem.W.clsIn K C=some v):(PySem.W.clsIn K C).isSome=true:=by rw[h];rfl
end Law
open PySem PySem.W PyProof.Rows Law DJ
set_option maxRecDepth 100000 in
set_option maxHeartbeats 0 in
theorem PySem.Challenge.cw_tallysets_k51_grammars_written_holds : PySem.Challenge.rw_tallysets_k51_grammars_written.Holds := by
 w_on;o_law;k_head;(case hw=>w_witness2)
 k_fill
 refine' DJ.jhL (l:=PySem.Challenge.rw_tallysets_k51_grammars_written) (cl:=[?C0,?C1]) (U:=Law.U) (T:=Law.T) (DS:=Law.DS) (P:=Law.P) (fuel:=60) (W:=73) (n:=7) (i:=14) (x:="_law_script") (dl:=Law.d_law) rfl rfl ⟨rfl,by decide,by decide⟩ (fun w h Y=>PySem.W.kIn_of Y) rfl rfl rfl ?F (fun ns hl=>Law.jpc (W:=73) (n:=0) ns (jqD _))
 case F=>
  intro w mg h X G;refine' ⟨rfl,rfl,rfl,(jb2 (mg_none_of X G ?z0) (jb2 (mg_none_of X G ?z1) (jb2 (mg_none_of X G ?z2) (jb2 (mg_none_of X G ?z3) (jb2 (mg_none_of X G ?z4) (jb2 (mg_none_of X G ?z5) (jb2 (mg_none_of X G ?z6) (jb2 (mg_none_of X G ?z7) (jb2 (mg_none_of X G ?z8) (jb2 (mg_none_of X G ?z9) (jb2 (mg_none_of X G ?z10) (jb2 (mg_none_of X G ?z11) (jb2 (mg_none_of X G ?z12) (jb2 (mg_none_of X G ?z13) (jb2 (mg_none_of X G ?z14) (jb2 (mg_none_of X G ?z15) (jb2 (mg_none_of X G ?z16) (jb2 (mg_none_of X G ?z17) (jb2 (mg_none_of X G ?z18) (jb2 (mg_none_of X G ?z19) (jb2 (mg_none_of X G ?z20) joR))))))))))))))))))))),?cons,From.at (jaW ⟨?C0,rfl,mg_of X G ?e0⟩ (jaW ⟨?C1,rfl,mg_of X G ?e1⟩ jhJ)),⟨(jb2 ⟨?ga0,?hk0,?ca0,?y0,?y1,?mo0,?mb0,?m0_0,?mv0,jn5 ?cd_0,?ty0⟩ (jb2 ⟨?ga1,?hk1,?ca1,?y0,?y1,?mo1,?mb1,?m1_1,?mv1,jn5 ?cd_1,?ty1⟩ joR)),fun i j C D hi hj=>From.at (Q:=fun i C=>∀(j:Nat) (D:Addr),([?C0,?C1]:List Addr)[j]?=some D->mroIn _ C (.ref D)=some (Law.U i j)) (jaW (From.at (jaW ?m0_0 (jaW ?m0_1 jhJ))) (jaW (From.at (jaW ?m1_0 (jaW ?m1_1 jhJ))) jhJ)) i C hi j D hj⟩,(jb2 ⟨⟨[.type "ValueError",.type "Exception",.type "BaseException",.type "object"],_,"ValueError.__new__",_,?xx0,F.excBase_ValueError⟩,"TallyError",?e0⟩ (jb2 ⟨⟨[.type "ValueError",.type "Exception",.type "BaseException",.type "object"],_,"ValueError.__new__",_,?xx1,F.excBase_ValueError⟩,"NoText",?e1⟩ joR)),From.at (jaW (jbG "is_sign" rfl (mg_of X G ?a0) ?l0 ?c0 ?k0 jia jh8 jh9 rfl) (jaW (jbG "signs_in" rfl (mg_of X G ?a1) ?l1 ?c1 ?k1 jgb jf9 jga rfl) (jaW (jbG "tally_of" rfl (mg_of X G ?a2) ?l2 ?c2 ?k2 jge jgc jgd rfl) (jaW (jbG "show_rule" rfl (mg_of X G ?a3) ?l3 ?c3 ?k3 jeN jeL jeM rfl) (jaW (jbG "show_grammar" rfl (mg_of X G ?a4) ?l4 ?c4 ?k4 jcA jcy jcz rfl) (jaW (jbG "read_right" rfl (mg_of X G ?a5) ?l5 ?c5 ?k5 jd1 jdZ jd0 rfl) (jaW (jbG "read_rule" rfl (mg_of X G ?a6) ?l6 ?c6 ?k6 jeQ jeO jeP rfl) (jaW (jbG "read_grammar" rfl (mg_of X G ?a7) ?l7 ?c7 ?k7 jcD jcB jcC rfl) (jaW (jbG "_law_whole" rfl (mg_of X G ?a8) ?l8 ?c8 ?k8 jd4 jd2 jd3 rfl) (jaW (jbG "_law_row" rfl (mg_of X G ?a9) ?l9 ?c9 ?k9 jgh jgf jgg rfl) (jaW (jbG "_law_deck" rfl (mg_of X G ?a10) ?l10 ?c10 ?k10 jeT jeR jeS rfl) (jaW (jbG "_law_right" rfl (mg_of X G ?a11) ?l11 ?c11 ?k11 jd7 jd5 jd6 rfl) (jaW (jbG "_law_told" rfl (mg_of X G ?a12) ?l12 ?c12 ?k12 jeW jeU jeV rfl) (jaW (jbG "_law_counted" rfl (mg_of X G ?a13) ?l13 ?c13 ?k13 jcG jcE jcF rfl) (jaW (jbG "law" rfl (mg_of X G ?a14) ?l14 ?c14 ?k14 jo5 jo3 jo4 rfl) jhJ)))))))))))))))⟩;case cons=>
   intro x d hx;simp only[Law.T,List.lookup_cons]at hx;split at hx
   ·rename_i e;cases hx;have e:x="LETTERS":=by simpa using e
    subst e;refine' ⟨_,.str "abcd",mg_of X G ?qc0,⟨_,?rc0⟩,fun _ _=>by simp only[Rep]⟩
    case qc0=>k_is
    case rc0=>rfl
   split at hx
   ·rename_i e;cases hx;have e:x="SIGNS":=by simpa using e
    subst e;refine' jke ["A","B","C"] (mg_of X G ?qc1) ?lc1 ?vc1;case qc1=>k_is
    case lc1=>first | k_is | (dsimp only;k_is)
    case vc1=>decide +kernel
   split at hx
   ·rename_i e;cases hx;have e:x="MANIES":=by simpa using e
    subst e;refine' jke ["1","2","3","4"] (mg_of X G ?qc2) ?lc2 ?vc2;case qc2=>k_is
    case lc2=>first | k_is | (dsimp only;k_is)
    case vc2=>decide +kernel
   split at hx
   ·rename_i e;cases hx;have e:x="MOST_RULES":=by simpa using e
    subst e;refine' ⟨_,.int 8,mg_of X G ?qc3,⟨_,?rc3⟩,fun _ _=>by simp only[Rep]⟩
    case qc3=>k_is
    case rc3=>rfl
   split at hx
   ·rename_i e;cases hx;have e:x="MOST_PLACES":=by simpa using e
    subst e;refine' ⟨_,.int 4,mg_of X G ?qc4,⟨_,?rc4⟩,fun _ _=>by simp only[Rep]⟩
    case qc4=>k_is
    case rc4=>rfl
   split at hx
   ·rename_i e;cases hx;have e:x="MOST_SIGNS":=by simpa using e
    subst e;refine' ⟨_,.int 2,mg_of X G ?qc5,⟨_,?rc5⟩,fun _ _=>by simp only[Rep]⟩
    case qc5=>k_is
    case rc5=>rfl
   ·cases hx
  all_goals (try first | k_is | (dsimp only;k_is))
  all_goals (try first | k_is | (dsimp only;k_is))
  all_goals (try first | k_exc | (dsimp only;k_exc))
