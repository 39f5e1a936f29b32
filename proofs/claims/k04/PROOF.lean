import PyProof.Rows.All
import Wide.All
import OpenK.AllK
import Wide.FinOn
import Lean
import PyProof.EqAt
import PyProof.EqKinds
import PyProof.TupleCall
import PySem.Challenge.RW_tallysets_k04_sets_written
open List renaming getElem?_eq_getElem → jur, mem_cons_of_mem → jus, mem_cons_self → jut, mem_cons → juu, size_toArray → juv, getElem?_set → juw, getElem?_map → jux, map_cons → juy, getD_eq_getElem?_getD → juz, length_map → juA, length_cons → juB, mem_append_right → juC, mem_of_getElem? → juD, getElem?_append_right → juE, length_append → juF, filterMap_cons → juG, getElem?_eq_none → juH, getElem?_append_left → juI, getElem?_set_ne → juJ, all_eq_true → juK, getElem?_cons_zero → juL, getElem?_cons_succ → juM, length_nil → juN, mem_append_left → juO, length_set → juP, append_nil → juQ, append_assoc → juR, not_mem_nil → juS
open PySem renaming wpAny_bind → juT, wpAny_pure → juU, wpAny_ite_false → juV, wpAny_of_eq → juW, wpAny_newObj_type → juX, wpAny_holding → juY, wpAny_field → juZ, wpAny_mono → ju0, wpAny_setState_of → ju1
open PySem.Heap renaming get?_push_of_some → ju2, lt_size → ju3, get?_push_size → ju4, get?_update_self → ju5, get?_update_other → ju6
open Nat renaming le_refl → ju7, lt_of_lt_of_le → ju8, ne_of_lt → ju9, le_trans → jva, lt_irrefl → jvb
open Bool renaming and_eq_true → jvc, false_eq_true → jvd, false_ne_true → jve
set_option linter.all false
set_option maxRecDepth 100000
set_option Elab.async false
set_option maxHeartbeats 4000000
set_option bootstrap.genMatcherCode false
set_option genSizeOfSpec false
set_option compiler.extract_closed false
local macro_rules | `(tactic| omega)=>`(tactic| first | lia | omega +splitDisjunctions)
namespace L2
open PySem PySem.Spec PyProof.Rows
noncomputable abbrev Key:=Sum Int Str
noncomputable def jqj:Key->Value->Bool
 |.inl k,v=>Value.isInt k v
 |.inr x,v=>Value.isStrOf x v
noncomputable def jtX (w:World):Key->Int
 |.inl k=>hashInt k
 |.inr x=>hashStr w x
theorem jao:∀{k:Key}{v:Value},jqj k v=true->(∃i t,k=Sum.inl i/\v=Value.int i t)\/(∃x t,k=Sum.inr x/\v=Value.str x t)
 |.inl i,v,h=>by
  obtain⟨t,e⟩:=Value.isInt_shape (k:=i) (v:=v) h;exact .inl ⟨i,t,rfl,e⟩
 |.inr x,v,h=>by
  obtain⟨t,e⟩:=Value.isStrOf_shape (x:=x) (v:=v) h;exact .inr ⟨x,t,rfl,e⟩
theorem jqk (a b:Int):decide ((Sum.inl a:Key)=Sum.inl b)=(a == b):=by
 by_cases e:a=b
 ·subst e;simp
 ·have h:¬ (Sum.inl a:Key)=Sum.inl b:=fun q=>e (Sum.inl.inj q);rw[decide_eq_false h];exact(beq_eq_false_iff_ne.mpr e).symm
theorem jql (a b:Str):decide ((Sum.inr a:Key)=Sum.inr b)=decide (a=b):=by
 by_cases e:a=b
 ·subst e;simp
 ·have h:¬ (Sum.inr a:Key)=Sum.inr b:=fun q=>e (Sum.inr.inj q);rw[decide_eq_false h,decide_eq_false e]
theorem jqm (a:Int)(b:Str):decide ((Sum.inl a:Key)=Sum.inr b)=false:=decide_eq_false (fun q=>nomatch q)
theorem jqn (a:Str)(b:Int):decide ((Sum.inr a:Key)=Sum.inl b)=false:=decide_eq_false (fun q=>nomatch q)
noncomputable def jfM (prog:Program)(w:World):PySem.KeyKind prog w Key where
 is:=jqj
 hash:=jtX w
 inj:=fun v a b ha hb=>by
  rcases jao ha with ⟨i,t,rfl,rfl⟩ | ⟨x,t,rfl,rfl⟩
  ·rcases jao hb with ⟨j,u,rfl,e⟩ | ⟨y,u,rfl,e⟩
   ·injection e with e1 _;rw[e1]
   ·exact nomatch e
  ·rcases jao hb with ⟨j,u,rfl,e⟩ | ⟨y,u,rfl,e⟩
   ·exact nomatch e
   ·injection e with e1 _;rw[e1]
 byValue:=fun k v h=>by
  rcases jao h with ⟨i,t,rfl,rfl⟩ | ⟨x,t,rfl,rfl⟩ <;> rfl
 pyHash:=fun hv h=>by
  rcases jao hv with ⟨i,t,rfl,rfl⟩ | ⟨x,t,rfl,rfl⟩
  ·exact wpAny_pyHash_int h
  ·exact wpAny_pyHash_str h
 eqBool:=fun hu hv h=>by
  rcases jao hu with ⟨i,t,rfl,rfl⟩ | ⟨x,t,rfl,rfl⟩
  ·rcases jao hv with ⟨j,u,rfl,rfl⟩ | ⟨y,u,rfl,rfl⟩
   ·rw[jqk]at h;exact wpAny_eqBool_int h
   ·rw[jqm]at h;exact SeqAt.EqAt.int_str i t y u _ _ _ _ h
  ·rcases jao hv with ⟨j,u,rfl,rfl⟩ | ⟨y,u,rfl,rfl⟩
   ·rw[jqn]at h;exact SeqAt.EqAt.str_int x t j u _ _ _ _ h
   ·rw[jql]at h;exact wpAny_eqBool_str h
 «strs»:=fun k x t v h=>by
  rcases jao h with ⟨i,u,rfl,e⟩ | ⟨y,u,rfl,e⟩
  ·exact nomatch e
  ·injection e with e1 _
   subst e1;cases v <;> rfl
end L2
namespace L2
open PySem PySem.Spec PyProof.Rows
inductive V where
 |non | bl (b:Bool) | int (i:Int) | str (x:Str) | byt (b:Array UInt8) | flt (b:UInt64) | ref (a:Addr) | ty (n:String)
 deriving DecidableEq
noncomputable def RelV:V->Value->Prop
 |.non,u=>u=Value.none
 |.bl b,u=>u=Value.bool b
 |.int i,u=>∃t,u=Value.int i t
 |.str x,u=>∃t,u=Value.str x t
 |.byt b,u=>∃t,u=Value.bytes b t
 |.flt b,u=>∃t,u=Value.float b t
 |.ref a,u=>u=Value.ref a
 |.ty n,u=>u=Value.type n
noncomputable abbrev Vals:List V->List Value->Prop:=Paired RelV
theorem Vals.length {xs:List V}{us:List Value}(r:Vals xs us):xs.length=us.length:=Paired.length r
theorem Vals.get:∀{xs:List V}{us:List Value}{i:Nat}{x:V},Vals xs us->xs[i]?=some x->∃u,us[i]?=some u/\RelV x u
 |_,_,_,_,.nil,e=>by simp at e
 |_,_,0,_,.cons r _,e=>by simp at e;subst e;exact⟨_,rfl,r⟩
 |_,_,i + 1,x,.cons _ t,e=>by
  obtain⟨u,h1,h2⟩:=Vals.get (i:=i) (x:=x) t (by simpa using e)
  exact⟨u,by simpa using h1,h2⟩
theorem Vals.set {x:V}{u:Value}(r:RelV x u):∀{xs:List V}{us:List Value} (i:Nat),Vals xs us->Vals (xs.set i x) (us.set i u)
 |_,_,_,.nil=>.nil
 |_,_,0,.cons _ t=>.cons r t
 |_,_,i + 1,.cons q t=>.cons q (Vals.set r i t)
theorem Vals.append {xs ys:List V}{us ws:List Value}(h:Vals xs us)(s:Vals ys ws):Vals (xs++ys) (us++ws):=by
 induction h with
 |nil=>exact s
 |cons r t ih=>exact .cons r ih
theorem Vals.take:∀{xs:List V}{us:List Value} (n:Nat),Vals xs us->Vals (xs.take n) (us.take n)
 |_,_,0,_=>.nil
 |_,_,_ + 1,.nil=>.nil
 |_,_,n + 1,.cons r t=>.cons r (Vals.take n t)
theorem Vals.drop:∀{xs:List V}{us:List Value} (n:Nat),Vals xs us->Vals (xs.drop n) (us.drop n)
 |_,_,0,r=>r
 |_,_,_ + 1,.nil=>.nil
 |_,_,n + 1,.cons _ t=>Vals.drop n t
noncomputable def jtx:Option V->Option Value->Prop
 |some v,some u=>RelV v u
 |none,none=>True
 |_,_=>False
noncomputable def KV {κ:Type}:List (κ×V)->List (κ×Value)->Prop:=Paired fun (p:κ×V) (q:κ×Value)=>p.1=q.1/\RelV p.2 q.2
noncomputable def kV:Key->V
 |.inl i=>.int i
 |.inr x=>.str x
inductive HO where
 |lst (xs:List V)
 |tup (xs:List V)
 |dK (kvs:List (Key×V)) | dT (kvs:List (List Key×V))
 |set (S:Int->Bool) (n:Nat)
 |ins (C dx:Addr) (fs:List (Str×V))
 |own (x:Addr)
 |xd (fs:List (Str×V))
 |met (f x:Addr)
 |rng (lo hi:Int)
 |frz (o:Obj) (u:HO)
 |tbl (ps:Array Value)
 |ext (φ:Heap->Prop)
noncomputable abbrev Hp:=Addr->Option HO
noncomputable def upd (H:Hp)(a:Addr)(o:HO):Hp:=fun b=>if b=a then some o else H b
theorem jak {H:Hp}{a:Addr}{o:HO}:upd H a o a=some o:=by unfold upd;rw[if_pos rfl]
theorem jac {H:Hp}{a b:Addr}{o:HO}(h:b≠a):upd H a o b=H b:=by unfold upd;rw[if_neg h]
theorem jab {H:Hp}{a b:Addr}{o:HO}(h:H a=some o)(h':H b=none):a≠b:=by
 intro e;subst e;rw[h]at h';cases h'
section
variable (P:Program) (w:World)
noncomputable def ObjOk (H:Hp)(h:Heap)(a:Addr):HO->Prop
 |.lst xs=>xs.length<=sizeLine/\∃(its:List Value) (n:Nat),Vals xs its/\h.get? a=some { cls:=.type "list",data:=.seq its.toArray n }
 |.tup xs=>xs.length<=sizeLine/\∃its:List Value,Vals xs its/\IsTup h a its.toArray
 |.dK kvs=>kvs.length<=sizeLine/\(a == sysModules)=false/\∃vs,KV kvs vs/\h.DictOf (jfM P w) a vs
 |.dT kvs=>kvs.length<=sizeLine/\(a == sysModules)=false/\∃xs:List (List Key×Addr×Value),
   Paired (fun (p:List Key×V) (q:List Key×Addr×Value)=>p.1=q.1/\H q.2.1=some (.tup (p.1.map kV))/\RelV p.2 q.2.2) kvs xs /\
   ∃o es ep,h.get? a=some o/\o.ExactDict/\o.data=.dict es ep/\es.toList=xs.map (entryOfKey (tupleKind (jfM P w)))/\(xs.map (·.1)).Nodup
 |.set S n=>h.SetOf (intKind P w) a S n
 |.ins C dx fs=>H dx=some (.own a)/\fs.length<=1000/\dx≠a/\h.get? a=some (PySem.W.instObj C dx) /\
   ∃mA,h.Ns1 dx mA/\(∀f,jtx (fs.lookup f) (mA f))/\PySem.Within mA (fs.map (·.1))
 |.own _=>∃o,h.get? a=some o
 |.xd fs=>∃mA,h.Ns1 a mA/\∀f,jtx (fs.lookup f) (mA f)
 |.rng lo hi=>∃t u v,h.get? a=some { cls:=.type "range",data:=.fields #[.int lo t,.int hi u,.int 1 v] }
 |.frz o u=>h.get? a=some o/\ObjOk H h a u
 |.tbl ps=>h.get? a=some { cls:=.none,data:=.fields ps }
 |.met f x=>h.get? a=some (PySem.W.methodObj (.ref f) (.ref x))
 |.ext φ=>φ h/\(∃o,h.get? a=some o)/\∀h1 h2:Heap,φ h1->(∀o,h1.get? a=some o->h2.get? a=some o)->φ h2
noncomputable def HOk (H:Hp)(h:Heap):Prop:=∀a o,H a=some o->ObjOk P w H h a o
end
section
variable {P:Program}{w:World}{H H':Hp}{h h':Heap}{a:Addr}{o:HO}
theorem ObjOk.lt (x:ObjOk P w H h a o):a < h.objs.size:=by
 cases o with
 |lst xs=>obtain⟨_,_,_,_,e⟩:=x;exact ju3 e
 |tup xs=>obtain⟨_,_,_,p⟩:=x;exact p.lt
 |dK kvs=>obtain⟨_,_,_,_,o,_,_,e,_⟩:=x;exact ju3 e
 |dT kvs=>obtain⟨_,_,_,_,o,_,_,e,_⟩:=x;exact ju3 e
 |set S n=>obtain⟨o,_,_,_,e,_⟩:=x;exact ju3 e
 |ins C dx fs=>obtain⟨_,_,_,e,_⟩:=x;exact ju3 e
 |own y=>obtain⟨_,e⟩:=x;exact ju3 e
 |xd fs=>obtain⟨_,⟨_,_,_,e,_⟩,_⟩:=x;exact ju3 e
 |rng lo hi=>obtain⟨_,_,_,e⟩:=x;exact ju3 e
 |frz ob u=>obtain⟨e,_⟩:=x;exact ju3 e
 |tbl ps=>exact ju3 (show h.get? a=some _ from x)
 |met f y=>exact ju3 (show h.get? a=some _ from x)
 |ext φ=>obtain⟨_,⟨_,e⟩,_⟩:=x;exact ju3 e
theorem Paired.mapP {α β:Type}{F G:α->β->Prop}{l₁:List α}{l₂:List β}(h:Paired F l₁ l₂)(f:∀a b,F a b->G a b):Paired G l₁ l₂:=by
 induction h with
 |nil=>exact .nil
 |cons r t ih=>exact .cons (f _ _ r) ih
theorem ObjOk.stay (x:ObjOk P w H h a o)(k:∀b u,(b=a\/H b=some (.own a))->h.get? b=some u->h'.get? b=some u)
  (ho:∀b,H b=some (.own a)->H' b=some (.own a)) (ht:∀b xs,H b=some (.tup xs)->H' b=some (.tup xs)):ObjOk P w H' h' a o:=by
 induction o with
 |lst xs=>obtain⟨z,its,n,r,e⟩:=x;exact⟨z,its,n,r,k _ _ (.inl rfl) e⟩
 |tup xs=>obtain⟨z,its,r,ob,e,c⟩:=x;exact⟨z,its,r,ob,k _ _ (.inl rfl) e,c⟩
 |dK kvs=>obtain⟨z,y,vs,r,ob,es,ep,e,c⟩:=x;exact⟨z,y,vs,r,ob,es,ep,k _ _ (.inl rfl) e,c⟩
 |dT kvs=>
  obtain⟨z,y,xs,r,ob,es,ep,e,c⟩:=x;exact⟨z,y,xs,Paired.mapP r fun p q z=>⟨z.1,ht _ _ z.2.1,z.2.2⟩,ob,es,ep,k _ _ (.inl rfl) e,c⟩
 |set S n=>obtain⟨ob,es,ep,t,e,c⟩:=x;exact⟨ob,es,ep,t,k _ _ (.inl rfl) e,c⟩
 |ins C dx fs=>
  obtain⟨d,z,ne,e,mA,⟨od,es,ep,e2,c⟩,r⟩:=x;exact⟨ho _ d,z,ne,k _ _ (.inl rfl) e,mA,⟨od,es,ep,k _ _ (.inr d) e2,c⟩,r⟩
 |own y=>obtain⟨ob,e⟩:=x;exact⟨ob,k _ _ (.inl rfl) e⟩
 |xd fs=>obtain⟨mA,⟨od,es,ep,e,c⟩,r⟩:=x;exact⟨mA,⟨od,es,ep,k _ _ (.inl rfl) e,c⟩,r⟩
 |rng lo hi=>obtain⟨t,u,v,e⟩:=x;exact⟨t,u,v,k _ _ (.inl rfl) e⟩
 |frz ob u ih=>obtain⟨e,q⟩:=x;exact⟨k _ _ (.inl rfl) e,ih q⟩
 |tbl ps=>
  have e:h.get? a=some { cls:=.none,data:=.fields ps }:=x;show h'.get? a=some { cls:=.none,data:=.fields ps };exact k a _ (.inl rfl) e
 |met f y=>
  have e:h.get? a=some (PySem.W.methodObj (.ref f) (.ref y)):=x;show h'.get? a=some (PySem.W.methodObj (.ref f) (.ref y));exact k a _ (.inl rfl) e
 |ext φ=>obtain⟨p,⟨o,e⟩,st⟩:=x;exact⟨st _ _ p fun o q=>k _ _ (.inl rfl) q,⟨o,k _ _ (.inl rfl) e⟩,st⟩
theorem HOk.lt (x:HOk P w H h)(e:H a=some o):a < h.objs.size:=(x a o e).lt
theorem HOk.fresh (x:HOk P w H h)(e:h.objs.size<=a):H a=none:=by
 cases q:H a with
 |none=>rfl
 |some u=>exact absurd (ju8 (x.lt q) e) (jvb _)
theorem HOk.kept (x:HOk P w H h)(k:∀b u,h.get? b=some u->h'.get? b=some u):HOk P w H h':=fun a o e=>
 (x a o e).stay (fun b u _ q=>k b u q) (fun _ q=>q) fun _ _ q=>q
theorem HOk.laid (x:HOk P w H h)(k:∀b u,h.get? b=some u->h'.get? b=some u)(hp:h.objs.size<=a)(new:ObjOk P w (upd H a o) h' a o):HOk P w (upd H a o) h':=fun b u e=>by
 have hn:=x.fresh hp;by_cases hb:b=a
 ·subst hb;rw[jak]at e;cases e;exact new
 ·rw[jac hb]at e;exact(x b u e).stay (fun c v _ q=>k c v q) (fun c q=>by rw[jac (jab q hn)];exact q) fun c xs q=>by rw[jac (jab q hn)];exact q
end
noncomputable def Rd (H:Hp)(a:Addr)(u:HO):Prop:=H a=some u\/∃o,H a=some (.frz o u)
theorem Rd.ok {P:Program}{w:World}{H:Hp}{h:Heap}{a:Addr}{u:HO}(r:Rd H a u)(x:HOk P w H h):ObjOk P w H h a u:=by
 rcases r with r | ⟨o,r⟩
 ·exact x a u r
 ·obtain⟨_,q⟩:=x a _ r;exact q
noncomputable def Mut:Option HO->Prop
 |some (.lst _)=>True
 |some (.dK _)=>True
 |some (.dT _)=>True
 |some (.set _ _)=>True
 |some (.ins _ _ _)=>True
 |some (.ext _)=>True
 |_=>False
section
variable {P:Program}{w:World}{H:Hp}{h h':Heap}{x e:Addr}{o':HO}
theorem HOk.write (ok:HOk P w H h)(mu:Mut (H x))(he:e=x\/H e=some (.own x))(k:∀b u,b≠e->h.get? b=some u->h'.get? b=some u)(heo:∃u,h'.get? e=some u)
  (new:ObjOk P w (upd H x o') h' x o'):HOk P w (upd H x o') h':=fun b u q=>by
 have nown:∀c y,H c=some (.own y)->c≠x:=fun c y r z=>by subst z;rw[r]at mu;exact mu
 have ntup:∀c xs,H c=some (.tup xs)->c≠x:=fun c xs r z=>by subst z;rw[r]at mu;exact mu
 by_cases hb:b=x
 ·subst hb;rw[jak]at q;cases q;exact new
 ·rw[jac hb]at q;by_cases hbe:b=e
  ·have q':H b=some (.own x):=by
    rcases he with z | z
    ·exact absurd (hbe.trans z) hb
    ·rw[hbe];exact z
   rw[q]at q';cases q';obtain⟨v,hv⟩:=heo;exact⟨v,by rw[hbe];exact hv⟩
  ·refine(ok b u q).stay (fun c v hc r=>k c v ?_ r) (fun c r=>by rw[jac (nown c b r)];exact r) fun c xs r=>by rw[jac (ntup c xs r)];exact r
   rcases hc with rfl | hc
   ·exact hbe
   ·rintro rfl;rcases he with z | z
    ·exact nown c b hc z
    ·rw[hc]at z;cases z;exact hb rfl
end
structure Un (fs ex:List Addr)(H H':Hp)(h h':Heap):Prop where
 keep:∀b o,h.get? b=some o->H b=none->b ∉ fs->b ∉ ex->h'.get? b=some o
 slot:∀b o,h.get? b=some o->H b=none->b∈fs->b ∉ ex->∃sl,h'.get? b=some { o with slots:=sl }
 free:∀b o,h.get? b=some o->H b=none->b ∉ ex->H' b=none
 there:∀b o,h.get? b=some o->b ∉ ex->∃o',h'.get? b=some o'
 tups:∀b xs,H b=some (.tup xs)->H' b=some (.tup xs)
 frzs:∀b o u,H b=some (.frz o u)->H' b=some (.frz o u)
 tbls:∀b ps,H b=some (.tbl ps)->∃more,H' b=some (.tbl (ps++more))
section
variable {fs fs' ex ex':List Addr}{H H1 H2:Hp}{h h1 h2 h':Heap}{a x e:Addr}{o:HO}
theorem Un.any (u:Un fs ex H H1 h h1){b:Addr}{ob:Obj}(q:h.get? b=some ob)(n:H b=none)(hx:b ∉ ex):∃sl,h1.get? b=some { ob with slots:=sl }:=by
 by_cases hb:b∈fs
 ·exact u.slot b ob q n hb hx
 ·exact⟨ob.slots,u.keep b ob q n hb hx⟩
theorem Un.kept (k:∀b u,h.get? b=some u->h'.get? b=some u):Un fs ex H H h h':=
 ⟨fun b ob q _ _ _=>k b ob q,fun b ob q _ _ _=>⟨ob.slots,k b ob q⟩,fun _ _ _ n _=>n,fun b ob q _=>⟨ob,k b ob q⟩,fun _ _ q=>q,fun _ _ _ q=>q,fun _ ps q=>⟨#[],by rw[q];simp⟩⟩
theorem Un.refl:Un fs ex H H h h:=Un.kept fun _ _ q=>q
theorem Un.laid (k:∀b u,h.get? b=some u->h'.get? b=some u)(hp:h.objs.size<=a)(hn:H a=none):Un fs ex H (upd H a o) h h' where
 keep:=fun b u q _ _ _=>k b u q
 slot:=fun b u q _ _ _=>⟨u.slots,k b u q⟩
 free:=fun b u q n _=>by rw[jac (ju9 (ju8 (ju3 q) hp))];exact n
 there:=fun b u q _=>⟨u,k b u q⟩
 tups:=fun b xs q=>by rw[jac (jab q hn)];exact q
 frzs:=fun b u xs q=>by rw[jac (jab q hn)];exact q
 tbls:=fun b ps q=>⟨#[],by rw[jac (jab q hn),q];simp⟩
theorem Un.write (mu:Mut (H x))(he:e=x\/H e=some (.own x))(k:∀b u,b≠e->h.get? b=some u->h'.get? b=some u)(heo:∃u,h'.get? e=some u):Un fs ex H (upd H x o) h h':=by
 have hx:∀b,H b=none->b≠x:=fun b n z=>by subst z;rw[n]at mu;exact mu
 have hb:∀b,H b=none->b≠e:=fun b n z=>by
  subst z;rcases he with r | r
  ·exact hx b n r
  ·rw[n]at r;cases r
 have hm:∀b u,H b=some u->¬ Mut (some u)->b≠x:=fun b u q nm z=>by subst z;rw[q]at mu;exact nm mu
 refine⟨fun b u q n _ _=>k b u (hb b n) q,fun b u q n _ _=>⟨u.slots,k b u (hb b n) q⟩,fun b u q n _=>by rw[jac (hx b n)];exact n,fun b u q _=>?_,
  fun b xs q=>by rw[jac (hm b _ q fun z=>z)];exact q,fun b u xs q=>by rw[jac (hm b _ q fun z=>z)];exact q,fun b ps q=>⟨#[],by rw[jac (hm b _ q fun z=>z),q];simp⟩⟩
 by_cases hbe:b=e
 ·subst hbe;exact heo
 ·exact⟨u,k b u hbe q⟩
end
noncomputable def trk (h:Heap)(H:Hp):List Addr:=(List.range h.objs.size).filter fun a=>(H a).isSome
noncomputable def jle (h:Heap)(H:Hp):Heap:=PySem.W.hideAll h (trk h H)
theorem jiS (h:Heap)(H:Hp):(jle h H).objs.size=h.objs.size:=PySem.W.hideAll_size _ _
theorem jlf {h:Heap}{H:Hp}{b:Addr}{o:Obj}(e:h.get? b=some o)(n:H b=none):(jle h H).get? b=some o:=
 PySem.W.hideAll_get _ e fun hm=>by
  have q:(H b).isSome=true:=(List.mem_filter.mp hm).2;rw[n]at q;simp at q
theorem jn0 {h:Heap}{H:Hp}{b:Addr}{o:Obj}(e:(jle h H).get? b=some o):h.get? b=some o/\H b=none:=by
 have e':h.get? b=some o:=PySem.W.of_hideAll (trk h H) e;refine⟨e',?_⟩;cases q:H b with
 |none=>rfl
 |some x=>
  have hm:b∈trk h H:=List.mem_filter.mpr ⟨List.mem_range.mpr (ju3 e'),by simp[q]⟩
  have z:(jle h H).get? b=none:=PySem.W.hideAll_none (trk h H) hm;rw[z]at e;cases e
noncomputable def jn1 (g h:Heap)(L:Addr):List (Addr×Obj):=(List.range h.objs.size).filterMap fun a=>if a=L\/(g.get? a).isSome=true then none else (h.get? a).map fun o=>(a,o)
noncomputable def jb9 (g h:Heap)(L d:Addr):List (Addr×Obj):=(jn1 g h L).filter fun p=>decide (p.1≠d)
end L2
namespace L2
open PySem PySem.Spec PyProof.Rows
structure Mod (K:PySem.W.Frag)(mg:Str->Option Value)(base:Heap):Prop where
 kin:K.In base
 glob:base.Ns mainGlobals mg
 blt:∃mb,base.Ns builtinsNs mb/\∀x:Str,x≠"__name__"->mb x=bootBuiltins x
 nolimit:base.NoLimit
structure Cx where
 prog:Program
 w:World
 K:PySem.W.Frag
 mg:Str->Option Value
 base:Heap
 A:Around
 N:List Str
 s₀:Shared
 H₀:Hp
 env:Env
 outer:List Env
 stack:List Env
 ex:List Addr
 fn:Str->Bool
 calm:Bool
 pn:List (Addr×Obj)
 xe:Value->Shared->Prop
noncomputable def frs (l:List Env):List Addr:=l.filterMap (·.frame)
noncomputable abbrev Cx.fs (X:Cx):List Addr:=frs X.outer
noncomputable def Vis (sc:Scope)(x:Str):Prop:=sc.names.lookup x=some .local\/sc.names.lookup x=some .cell\/sc.names.lookup x=some .free
noncomputable def Loc (sc:Scope)(x:Str):Prop:=sc.names.lookup x=some .local\/sc.names.lookup x=some .cell
noncomputable def Look (env:Env)(h:Heap)(m:Str->Option Value)(x:Str)(u:Value):Prop:=
 (env.kindOf x=some .local/\m x=some u)\/((env.kindOf x=some .cell\/env.kindOf x=some .free)/\∃c,env.cells.lookup x=some c/\h.IsCell c (some u))
structure Cx.Ok (X:Cx):Prop where
 mod:Mod X.K X.mg X.base
 kind:X.env.scope.kind=.function
 glob:X.env.globals=mainGlobals
 blt:X.env.builtins=builtinsNs
 above:X.s₀.heap.objs.size<=X.env.locals
 inj:∀x y c,X.env.cells.lookup x=some c->X.env.cells.lookup y=some c->x=y
 has:∀x,(X.env.kindOf x=some .cell\/X.env.kindOf x=some .free)->∃c,X.env.cells.lookup x=some c
 cab:∀x c,X.fn x=true->X.env.cells.lookup x=some c->X.s₀.heap.objs.size<=c
 hd:X.calm=true->X.A.handled=none
 frames:X.A.frames=some X.stack
 stk:X.stack=X.outer\/(X.stack=X.env::X.outer/\X.env.frame=some X.env.locals)
 exf:∀b∈X.ex,b≠X.env.locals/\∀x c,X.env.cells.lookup x=some c->c≠b
 bs:∀b o,X.base.get? b=some o->X.s₀.heap.get? b=some o/\X.H₀ b=none
 bsz:X.base.objs.size<=X.s₀.heap.objs.size
 noex:∀b o,X.base.get? b=some o->b ∉ X.ex
 exfs:∀b∈X.ex,b ∉ X.fs
 funs:X.s₀.heap.FunFrames X.base X.outer
 frf:∀b∈X.fs,X.H₀ b=none
structure Inv (X:Cx)(pins:List (Addr×Obj))(σ:List (Option V))(H:Hp)(s:Shared):Prop where
 ok:X.Ok
 os:s.os=X.s₀.os
 bare:AllBare s.gens
 base:Un X.fs X.ex X.H₀ H X.s₀.heap s.heap
 loc:∃m,s.heap.Ns X.env.locals m/\∀(i:Nat) (x:Str) (v:V),X.N[i]?=some x->σ[i]?=some (some v)->Vis X.env.scope x->∃u,RelV v u/\Look X.env s.heap m x u
 cell:∀x c,X.env.cells.lookup x=some c->∃v,s.heap.IsCell c v
 free:H X.env.locals=none
 freeC:∀x c,X.env.cells.lookup x=some c->H c=none
 pin:∀p∈X.pn++pins,s.heap.get? p.1=some p.2/\H p.1=none/\p.1≠X.env.locals/\p.1 ∉ X.fs/\∀v,p.2.data≠.cell v
 hok:HOk X.prog X.w H s.heap
 len:σ.length=X.N.length
section
variable {X:Cx}{pins:List (Addr×Obj)}{σ:List (Option V)}{H H':Hp}{s:Shared}{h':Heap}
theorem Cx.Ok.nofr (ok:X.Ok){b:Addr}{o:Obj}(e:X.base.get? b=some o):b ∉ X.fs:=fun hb=>by
 have:=(ok.funs.mem hb).1;rw[e]at this;cases this
theorem Inv.bs (I:Inv X pins σ H s):∀b o,X.base.get? b=some o->s.heap.get? b=some o/\H b=none:=fun b o e=>
 ⟨I.base.keep b o (I.ok.bs b o e).1 (I.ok.bs b o e).2 (I.ok.nofr e) (I.ok.noex b o e),I.base.free b o (I.ok.bs b o e).1 (I.ok.bs b o e).2 (I.ok.noex b o e)⟩
theorem Inv.bk (I:Inv X pins σ H s):∀b o,X.base.get? b=some o->s.heap.get? b=some o:=fun b o e=>(I.bs b o e).1
theorem Inv.mod (I:Inv X pins σ H s):Mod X.K X.mg X.base:=I.ok.mod
theorem Inv.kIn (I:Inv X pins σ H s):X.K.In s.heap:=I.ok.mod.kin.keeps I.bk
theorem Inv.lt (I:Inv X pins σ H s):X.env.locals < s.heap.objs.size:=let ⟨_,hn,_⟩:=I.loc;hn.lt
theorem Inv.sz (I:Inv X pins σ H s):X.s₀.heap.objs.size<=s.heap.objs.size:=jva I.ok.above (Nat.le_of_lt I.lt)
theorem Inv.nofs (I:Inv X pins σ H s){a:Addr}(h:s.heap.objs.size<=a):a ∉ X.fs:=fun hb=>by
 obtain⟨_,o,ho,_⟩:=I.ok.funs.mem hb;exact absurd (ju8 (ju3 ho) (jva I.sz h)) (jvb _)
theorem Inv.cne (I:Inv X pins σ H s):∀x c,X.env.cells.lookup x=some c->c≠X.env.locals:=fun x c e z=>by
 obtain⟨v,o,ho,hd⟩:=I.cell x c e;obtain⟨m,⟨o',es,ep,ho',hd',_⟩,_⟩:=I.loc;rw[z,ho']at ho;cases ho;rw[hd']at hd;cases hd
theorem Inv.funs (I:Inv X pins σ H s):s.heap.FunFrames X.base X.outer:=by
 have all:∀(l:List Env),(∀b∈frs l,b∈X.fs)->X.s₀.heap.FunFrames X.base l->s.heap.FunFrames X.base l:=by
  intro l;induction l with
  |nil=>intro _ _;trivial
  |cons env r ih=>
   intro hs hl;obtain⟨hk,⟨L,o,hf,hn,ho,hd⟩,hr⟩:=hl;have hL:L∈X.fs:=hs L (by unfold frs;rw[juG,hf];exact jut)
   obtain⟨sl,e⟩:=I.base.slot L o ho (I.ok.frf L hL) hL fun z=>I.ok.exfs L z hL;exact⟨hk,⟨L,_,hf,hn,e,hd⟩,ih (fun b hb=>hs b (by unfold frs;rw[juG,hf];exact jus _ hb)) hr⟩
 exact all X.outer (fun _ hb=>hb) I.ok.funs
theorem Inv.stack (I:Inv X pins σ H s):s.heap.FunFrames X.base X.stack:=by
 rcases I.ok.stk with e | ⟨e,hf⟩
 ·rw[e];exact I.funs
 ·rw[e];obtain⟨m,hn,_⟩:=I.loc;refine .cons (by rw[I.ok.kind];decide) hf hn ?_ I.funs
  exact Heap.get?_none_of_le (jva I.ok.bsz I.ok.above)
theorem Inv.stkSub (I:Inv X pins σ H s):∀b∈frs X.stack,b∈X.env.locals::X.fs:=fun b hb=>by
 rcases I.ok.stk with e | ⟨e,hf⟩
 ·rw[e]at hb;exact jus _ hb
 ·rw[e]at hb;unfold frs at hb;rw[juG,hf]at hb;exact hb
theorem Inv.stkFree (I:Inv X pins σ H s):∀b∈frs X.stack,H b=none:=fun b hb=>by
 rcases List.mem_cons.mp (I.stkSub b hb)with e | hb
 ·rw[e];exact I.free
 ·obtain⟨_,o,ho,_⟩:=I.ok.funs.mem hb;exact I.base.free b o ho (I.ok.frf b hb) fun z=>I.ok.exfs b z hb
theorem Inv.step {g':Array GenState}{t':Nat}{d':Drawn}{ch:List Addr}(I:Inv X pins σ H s)
  (hch:∀b∈ch,(b∈X.ex\/X.s₀.heap.objs.size<=b)/\b≠X.env.locals/\(∀x c,X.env.cells.lookup x=some c->c≠b)/\∀p∈X.pn++pins,p.1≠b)
  (keep:∀b o,b≠X.env.locals->b ∉ X.fs->b ∉ ch->s.heap.get? b=some o->H b=none->h'.get? b=some o)
  (slot:∀b o,b≠X.env.locals->b∈X.fs->b ∉ ch->s.heap.get? b=some o->H b=none->∃sl,h'.get? b=some { o with slots:=sl }) (free:∀b o,b ∉ ch->s.heap.get? b=some o->H b=none->H' b=none)
  (there:∀b o,b ∉ ch->s.heap.get? b=some o->∃o',h'.get? b=some o')
  (tups:∀b xs,H b=some (.tup xs)->H' b=some (.tup xs)) (frzs:∀b o u,H b=some (.frz o u)->H' b=some (.frz o u)) (tbls:∀b ps,H b=some (.tbl ps)->∃more,H' b=some (.tbl (ps++more)))
  (ns:∀m,s.heap.Ns X.env.locals m->h'.Ns X.env.locals m) (hok:HOk X.prog X.w H' h') (hg:AllBare g') :
  Inv X pins σ H' { s with heap:=h',gens:=g',drawn:=d',toks:=t' }:=by
 have neL:∀b o,X.s₀.heap.get? b=some o->b≠X.env.locals:=fun b o e=>ju9 (ju8 (ju3 e) I.ok.above);have neC:∀b o,X.s₀.heap.get? b=some o->b ∉ X.ex->b ∉ ch:=fun b o e hx hb=>by
  rcases (hch b hb).1 with z | z
  ·exact hx z
  ·exact absurd (ju8 (ju3 e) z) (jvb _)
 have cellK:∀x c,X.env.cells.lookup x=some c->∀v,s.heap.IsCell c v->h'.IsCell c v:=fun x c e v ⟨o,ho,hd⟩=>by
  have nch:c ∉ ch:=fun z=>(hch c z).2.2.1 x c e rfl;by_cases hc:c∈X.fs
  ·obtain⟨sl,q⟩:=slot c o (I.cne x c e) hc nch ho (I.freeC x c e);exact⟨_,q,hd⟩
  ·exact⟨o,keep c o (I.cne x c e) hc nch ho (I.freeC x c e),hd⟩
 refine⟨I.ok,I.os,hg,⟨fun b o e n hb hx=>?_,fun b o e n hb hx=>?_,fun b o e n hx=>?_,fun b o e hx=>?_,fun b xs e=>tups b xs (I.base.tups b xs e),fun b o xs e=>frzs b o xs (I.base.frzs b o xs e),fun b ps e=>?_⟩,?_,fun x c e=>?_,?_,fun x c e=>?_,fun p hp=>?_,hok,I.len⟩
 ·exact keep b o (neL b o e) hb (neC b o e hx) (I.base.keep b o e n hb hx) (I.base.free b o e n hx)
 ·obtain⟨sl,e1⟩:=I.base.slot b o e n hb hx;obtain⟨sl',e2⟩:=slot b _ (neL b o e) hb (neC b o e hx) e1 (I.base.free b o e n hx);exact⟨sl',e2⟩
 ·obtain⟨o',e1⟩:=I.base.there b o e hx;exact free b o' (neC b o e hx) e1 (I.base.free b o e n hx)
 ·obtain⟨o',e1⟩:=I.base.there b o e hx;exact there b o' (neC b o e hx) e1
 ·obtain⟨m1,e1⟩:=I.base.tbls b ps e;obtain⟨m2,e2⟩:=tbls b _ e1;exact⟨m1++m2,by rw[e2,Array.append_assoc]⟩
 ·obtain⟨m,hn,hl⟩:=I.loc;refine⟨m,ns m hn,fun i x v e1 e2 e3=>?_⟩;obtain⟨u,r,l⟩:=hl i x v e1 e2 e3;refine⟨u,r,?_⟩;rcases l with l | ⟨k,c,e,z⟩
  ·exact .inl l
  ·exact .inr ⟨k,c,e,cellK x c e _ z⟩
 ·obtain⟨v,z⟩:=I.cell x c e;exact⟨v,cellK x c e v z⟩
 ·obtain⟨m,⟨o,_,_,ho,_⟩,_⟩:=I.loc;exact free _ o (fun z=>(hch _ z).2.1 rfl) ho I.free
 ·obtain⟨v,o,ho,hd⟩:=I.cell x c e;exact free c o (fun z=>(hch c z).2.2.1 x c e rfl) ho (I.freeC x c e)
 ·obtain⟨e,n,ne,nf,d⟩:=I.pin p hp;have nch:p.1 ∉ ch:=fun z=>(hch p.1 z).2.2.2 p hp rfl;exact⟨keep p.1 p.2 ne nf nch e n,free p.1 p.2 nch e n,ne,nf,d⟩
theorem Inv.un {t':Nat}(I:Inv X pins σ H s)(u:Un X.fs [] H H' s.heap h')(hok:HOk X.prog X.w H' h'):Inv X pins σ H' { s with heap:=h',toks:=t' }:=by
 obtain⟨m,⟨o,es,ep,ho,r⟩,_⟩:=id I.loc;obtain⟨sl,hL⟩:=u.any ho I.free (by simp)
 exact I.step (g':=s.gens) (d':=s.drawn) (ch:=[]) (fun _ z=>nomatch z) (fun b o _ hb _ e n=>u.keep b o e n hb (by simp)) (fun b o _ hb _ e n=>u.slot b o e n hb (by simp)) (fun b o _ e n=>u.free b o e n (by simp)) (fun b o _ e=>u.there b o e (by simp)) u.tups u.frzs u.tbls (fun m' hm=>by
  obtain⟨o',es',ep',ho',r'⟩:=hm;rw[ho]at ho';cases ho';exact⟨_,es',ep',hL,r'⟩) hok I.bare
theorem Inv.call {g':Array GenState}{t':Nat}{d':Drawn}{ch:List Addr}(I:Inv X pins σ H s)(u:Un (frs X.stack) ch H H' s.heap h')(hok:HOk X.prog X.w H' h')(hg:AllBare g')
  (hch:∀b∈ch,(b∈X.ex\/X.s₀.heap.objs.size<=b)/\b≠X.env.locals/\(∀x c,X.env.cells.lookup x=some c->c≠b)/\∀p∈X.pn++pins,p.1≠b) :
  Inv X pins σ H' { s with heap:=h',gens:=g',drawn:=d',toks:=t' }:=by
 obtain⟨m,⟨o,es,ep,ho,r⟩,_⟩:=id I.loc;obtain⟨sl,hL⟩:=u.any ho I.free fun z=>(hch _ z).2.1 rfl;exact I.step (ch:=ch) hch (fun b o hL hb hc e n=>u.keep b o e n (fun z=>(List.mem_cons.mp (I.stkSub b z)).elim hL hb) hc) (fun b o _ _ hc e n=>u.any e n hc) (fun b o hc e n=>u.free b o e n hc) (fun b o hc e=>u.there b o e hc) u.tups u.frzs u.tbls (fun m' hm=>by
  obtain⟨o',es',ep',ho',r'⟩:=hm;rw[ho]at ho';cases ho';exact⟨_,es',ep',hL,r'⟩) hok hg
theorem Inv.turned {t':Nat}{it:Addr}(I:Inv X pins σ H s)(k:∀b o,b≠it->s.heap.get? b=some o->h'.get? b=some o)(hn:H it=none)(hL:it≠X.env.locals)
  (h1:it∈X.ex\/X.s₀.heap.objs.size<=it) (h2:∀x c,X.env.cells.lookup x=some c->c≠it) (h3:∀p∈X.pn++pins,p.1≠it):Inv X pins σ H { s with heap:=h',toks:=t' }:=by
 have nit:∀b u,H b=some u->b≠it:=fun b u e z=>by rw[z,hn]at e;cases e
 refine I.step (g':=s.gens) (d':=s.drawn) (ch:=[it]) (fun b hb=>?_) (fun b o _ _ hc e _=>k b o (fun z=>hc (by simp[z])) e) (fun b o _ _ hc e _=>⟨o.slots,k b o (fun z=>hc (by simp[z])) e⟩) (fun _ _ _ _ n=>n)
  (fun b o hc e=>⟨o,k b o (fun z=>hc (by simp[z])) e⟩) (fun _ _ e=>e) (fun _ _ _ e=>e) (fun b ps e=>⟨#[],by rw[e];simp⟩) (fun m hm=>?_) (fun b u e=>?_) I.bare
 ·have e:b=it:=by simpa using hb
  subst e;exact⟨h1,hL,h2,h3⟩
 ·obtain⟨o,es,ep,ho,r⟩:=hm;exact⟨o,es,ep,k _ o (Ne.symm hL) ho,r⟩
 ·refine(I.hok b u e).stay (fun c v hc q=>k c v ?_ q) (fun _ q=>q) fun _ _ q=>q;rcases hc with z | z
  ·rw[z];exact nit b u e
  ·exact nit c _ z
theorem Inv.tok (I:Inv X pins σ H s)(t:Nat):Inv X pins σ H { s with toks:=t }:=I.un (h':=s.heap) (t':=t) Un.refl I.hok
theorem Inv.kept {t':Nat}(I:Inv X pins σ H s)(k:∀b u,s.heap.get? b=some u->h'.get? b=some u):Inv X pins σ H { s with heap:=h',toks:=t' }:=I.un (Un.kept k) (I.hok.kept k)
theorem Inv.laid {a:Addr}{o:HO}{t':Nat}(I:Inv X pins σ H s)(k:∀b u,s.heap.get? b=some u->h'.get? b=some u)(hp:s.heap.objs.size<=a)(new:ObjOk X.prog X.w (upd H a o) h' a o) :
  Inv X pins σ (upd H a o) { s with heap:=h',toks:=t' }:=I.un (Un.laid k hp (I.hok.fresh hp)) (I.hok.laid k hp new)
theorem Inv.write {x e:Addr}{o:HO}{t':Nat}(I:Inv X pins σ H s)(mu:Mut (H x))(he:e=x\/H e=some (.own x))(k:∀b u,b≠e->s.heap.get? b=some u->h'.get? b=some u)(heo:∃u,h'.get? e=some u)
  (new:ObjOk X.prog X.w (upd H x o) h' x o):Inv X pins σ (upd H x o) { s with heap:=h',toks:=t' }:=I.un (Un.write mu he k heo) (I.hok.write mu he k heo new)
theorem Inv.pins_of {pins':List (Addr×Obj)}(I:Inv X pins σ H s)(h:∀p∈pins',s.heap.get? p.1=some p.2/\H p.1=none/\p.1≠X.env.locals/\p.1 ∉ X.fs/\∀v,p.2.data≠.cell v):Inv X pins' σ H s:=
 ⟨I.ok,I.os,I.bare,I.base,I.loc,I.cell,I.free,I.freeC,fun p hp=>(List.mem_append.mp hp).elim (fun z=>I.pin p (juO _ z)) (h p),I.hok,I.len⟩
theorem jdM {N:List Str}(hN:N.Nodup){i j:Nat}{x:Str}(a:N[i]?=some x)(b:N[j]?=some x):i=j:=by
 obtain⟨h1,e1⟩:=List.getElem?_eq_some_iff.mp a;obtain⟨h2,e2⟩:=List.getElem?_eq_some_iff.mp b;exact(List.getElem_inj hN).mp (e1.trans e2.symm)
theorem jiT {M:Model}{A:Around}{E:Value->Shared->Prop}{i:Nat}{x:Str}{v:V}{u:Value}{Q:Unit->Shared->Prop}(I:Inv X pins σ H s)(hN:X.N.Nodup)(hi:X.N[i]?=some x)(hx:Loc X.env.scope x)(r:RelV v u)
  (h:∀s',Inv X pins (σ.set i (some v)) H s'->(∃a,Heap.SameBut a s.heap s'.heap/\(a=X.env.locals\/X.env.cells.lookup x=some a))->Q () s') (hf:X.fn x=true\/X.env.scope.names.lookup x=some .local:=by first | exact .inl rfl | exact .inr rfl | assumption):wpAny M A (storeName X.env x u) Q E s:=by
 obtain⟨m,hn,hl⟩:=id I.loc;have hcls:(X.env.scope.kind == .class || (X.env.scope.kind == .module && X.env.locals != X.env.globals))=false:=by rw[I.ok.kind];rfl
 have hiσ:i < σ.length:=by rw[I.len];exact(List.getElem?_eq_some_iff.mp hi).1
 have cne:=I.cne;have tracked:∀{a:Addr}{h':Heap},(∃o,s.heap.get? a=some o/\H a=none)->Heap.SameBut a s.heap h'->HOk X.prog X.w H h':=fun {a h'} ha hs b ob e=>by
  obtain⟨_,_,hfree⟩:=ha;refine(I.hok b ob e).stay (fun c w' hc q=>(hs.2 c ?_).trans q) (fun _ q=>q) fun _ _ q=>q;rintro rfl;rcases hc with rfl | hc
  ·rw[hfree]at e;cases e
  ·rw[hfree]at hc;cases hc
 rcases hx with hk | hk
 ·refine wpAny_storeName_local hk hn (fun h' hn' hs=>?_) hcls;obtain⟨oL,_,_,hoL,_⟩:=id hn;refine h _ ⟨I.ok,I.os,I.bare,⟨fun b o e n hb hx=>?_,fun b o e n hb hx=>?_,I.base.free,fun b o e hx=>?_,I.base.tups,I.base.frzs,I.base.tbls⟩,⟨_,hn',fun j y v' e1 e2 e3=>?_⟩,fun y c e=>?_,I.free,I.freeC,fun p hp=>?_,tracked ⟨oL,hoL,I.free⟩ hs,by simpa using I.len⟩ ⟨_,hs,.inl rfl⟩
  ·exact(hs.2 b (ju9 (ju8 (ju3 e) I.ok.above))).trans (I.base.keep b o e n hb hx)
  ·obtain⟨sl,e1⟩:=I.base.slot b o e n hb hx;exact⟨sl,(hs.2 b (ju9 (ju8 (ju3 e) I.ok.above))).trans e1⟩
  ·obtain⟨o',e1⟩:=I.base.there b o e hx;exact⟨o',(hs.2 b (ju9 (ju8 (ju3 e) I.ok.above))).trans e1⟩
  ·by_cases hj:j=i
   ·subst hj;rw[hi]at e1;cases e1;rw[List.getElem?_set_self hiσ]at e2;cases e2;exact⟨u,r,.inl ⟨hk,by simp⟩⟩
   ·rw[juJ (Ne.symm hj)]at e2;obtain⟨u',r',q⟩:=hl j y v' e1 e2 e3;refine⟨u',r',?_⟩;rcases q with ⟨k,e⟩ | ⟨k,c,e,z⟩
    ·refine .inl ⟨k,?_⟩;have:y≠x:=fun e=>hj (jdM hN e1 (e ▸ hi));simp[this,e]
    ·exact .inr ⟨k,c,e,z.sameBut hs (cne y c e)⟩
  ·obtain⟨w',z⟩:=I.cell y c e;exact⟨w',z.sameBut hs (cne y c e)⟩
  ·obtain⟨e,n,ne,nf,d⟩:=I.pin p hp;exact⟨(hs.2 p.1 ne).trans e,n,ne,nf,d⟩
 ·have hfn:X.fn x=true:=by
   rcases hf with z | z
   ·exact z
   ·rw[z]at hk;cases hk
  obtain⟨c,hc⟩:=I.ok.has x (.inl hk);obtain⟨w',z⟩:=I.cell x c hc;refine wpAny_storeName_cell I.ok.kind hk hc z (fun h' hc' hs=>?_);obtain⟨oc,hoc,hocd⟩:=id z;refine h { s with heap:=h' } ⟨I.ok,I.os,I.bare,⟨fun b o e n hb hx=>?_,fun b o e n hb hx=>?_,I.base.free,fun b o e hx=>?_,I.base.tups,I.base.frzs,I.base.tbls⟩,⟨m,hn.sameBut hs (Ne.symm (cne x c hc)),fun j y v' e1 e2 e3=>?_⟩,fun y c' e=>?_,I.free,I.freeC,fun p hp=>?_,tracked ⟨oc,hoc,I.freeC x c hc⟩ hs,by simpa using I.len⟩ ⟨c,hs,.inr hc⟩
  ·exact(hs.2 b (ju9 (ju8 (ju3 e) (I.ok.cab x c hfn hc)))).trans (I.base.keep b o e n hb hx)
  ·obtain⟨sl,e1⟩:=I.base.slot b o e n hb hx;exact⟨sl,(hs.2 b (ju9 (ju8 (ju3 e) (I.ok.cab x c hfn hc)))).trans e1⟩
  ·obtain⟨o',e1⟩:=I.base.there b o e hx;exact⟨o',(hs.2 b (ju9 (ju8 (ju3 e) (I.ok.cab x c hfn hc)))).trans e1⟩
  ·by_cases hj:j=i
   ·subst hj;rw[hi]at e1;cases e1;rw[List.getElem?_set_self hiσ]at e2;cases e2;exact⟨u,r,.inr ⟨.inl hk,c,hc,hc'⟩⟩
   ·rw[juJ (Ne.symm hj)]at e2;obtain⟨u',r',q⟩:=hl j y v' e1 e2 e3;refine⟨u',r',?_⟩;rcases q with q | ⟨k,c',e,z'⟩
    ·exact .inl q
    ·refine .inr ⟨k,c',e,z'.sameBut hs ?_⟩;rintro rfl;exact hj (jdM hN e1 (I.ok.inj _ _ _ e hc ▸ hi))
  ·by_cases hcc:c'=c
   ·subst hcc;exact⟨_,hc'⟩
   ·obtain⟨w2,z2⟩:=I.cell y c' e;exact⟨w2,z2.sameBut hs hcc⟩
  ·obtain⟨e,n,ne,nf,d⟩:=I.pin p hp;refine⟨(hs.2 p.1 ?_).trans e,n,ne,nf,d⟩;intro q;rw[q,hoc]at e;have q':oc=p.2:=Option.some.inj e;exact d w' (by rw[<-q'];exact hocd)
theorem jdN {M:Model}{A:Around}{E:Value->Shared->Prop}{i:Nat}{x:Str}{v:V}{u:Value}{Q:Unit->Shared->Prop}(I:Inv X pins σ H s)(hN:X.N.Nodup)(hi:X.N[i]?=some x)(hx:Loc X.env.scope x)(r:RelV v u)
  (h:∀s',Inv X pins (σ.set i (some v)) H s'->Q () s') (hf:X.fn x=true\/X.env.scope.names.lookup x=some .local:=by first | exact .inl rfl | exact .inr rfl | assumption):wpAny M A (storeName X.env x u) Q E s:=
 jiT I hN hi hx r (fun s' I' _=>h s' I') hf
theorem Inv.call' {s':Shared}{ch:List Addr}(I:Inv X pins σ H s)(ho:s'.os=s.os)(u:Un (frs X.stack) ch H H' s.heap s'.heap)(hok:HOk X.prog X.w H' s'.heap)(hg:AllBare s'.gens)
  (hch:∀b∈ch,(b∈X.ex\/X.s₀.heap.objs.size<=b)/\b≠X.env.locals/\(∀x c,X.env.cells.lookup x=some c->c≠b)/\∀p∈X.pn++pins,p.1≠b):Inv X pins σ H' s':=by
 obtain⟨h',g',d',t',o'⟩:=s';have e:o'=s.os:=ho;subst e;exact I.call (g':=g') (t':=t') (d':=d') u hok hg hch
end
noncomputable abbrev XK:=Value->Option Addr->Hp->Prop
noncomputable abbrev St:=List (Option V)
noncomputable abbrev VK:=V->Hp->Prop
noncomputable abbrev TE:=St->Hp->VK->Prop
noncomputable abbrev TT:=St->Hp->(Bool->Hp->Prop)->Prop
noncomputable abbrev TA:=St->Hp->(List V->Hp->Prop)->Prop
structure Ends where
 nx:St->Hp->Prop
 rt:VK
 bk:St->Hp->Prop:=fun _ _=>False
 ct:St->Hp->Prop:=fun _ _=>False
noncomputable abbrev TS:=Ends->St->Hp->Prop
inductive EP (X:Cx) (pins:List (Addr×Obj)) (σ:St) (Q:VK) (u:Value) (s':Shared):Prop
 |mk (v:_) (H':_):(Inv X pins σ H' s')->(RelV v u)->(Q v H')->EP X pins σ Q u s'
noncomputable def TP (X:Cx)(pins:List (Addr×Obj))(σ:St)(Q:Bool->Hp->Prop)(b:Bool)(s':Shared):Prop:=∃H',Inv X pins σ H' s'/\Q b H'
inductive AP (X:Cx) (pins:List (Addr×Obj)) (σ:St) (Q:List V->Hp->Prop) (us:List Value) (s':Shared):Prop
 |mk (vs:_) (H':_):(Inv X pins σ H' s')->(Vals vs us)->(Q vs H')->AP X pins σ Q us s'
noncomputable def SP (X:Cx)(pins:List (Addr×Obj))(D:Ends)(f:Flow)(s':Shared):Prop:=
 match f with
 |.next=>∃σ' H',Inv X pins σ' H' s'/\D.nx σ' H'
 |.brk=>∃σ' H',Inv X pins σ' H' s'/\D.bk σ' H'
 |.cont=>∃σ' H',Inv X pins σ' H' s'/\D.ct σ' H'
 |.ret u=>∃v σ' H',Inv X pins σ' H' s'/\RelV v u/\D.rt v H'
noncomputable def PE (X:Cx)(e:Expr)(t:TE):Prop:=
 ∀(pins:List (Addr×Obj)) (s:Shared) (σ:St) (H:Hp) (Q:VK),Inv X pins σ H s->t σ H Q->wpAny (model X.prog X.w) X.A (eval e X.env) (EP X pins σ Q) X.xe s
noncomputable def PT (X:Cx)(e:Expr)(t:TT):Prop:=
 ∀(pins:List (Addr×Obj)) (s:Shared) (σ:St) (H:Hp) (Q:Bool->Hp->Prop),Inv X pins σ H s->t σ H Q->wpAny (model X.prog X.w) X.A (isTrue e X.env (eval e X.env)) (TP X pins σ Q) X.xe s
noncomputable def PW (X:Cx)(e:Expr)(t:TT):Prop:=
 ∀(whole:Sem Value) (pins:List (Addr×Obj)) (s:Shared) (σ:St) (H:Hp) (Q:Bool->Hp->Prop),Inv X pins σ H s->t σ H Q->wpAny (model X.prog X.w) X.A (isTrue e X.env whole) (TP X pins σ Q) X.xe s
theorem PW.pt {X:Cx}{e:Expr}{t:TT}(h:PW X e t):PT X e t:=h _
noncomputable def PA (X:Cx)(es:List Expr)(t:TA):Prop:=
 ∀(pos:Pos) (pins:List (Addr×Obj)) (s:Shared) (σ:St) (H:Hp) (Q:List V->Hp->Prop),Inv X pins σ H s->t σ H Q->wpAny (model X.prog X.w) X.A (spliced (backTo pos (starEach es X.env))) (AP X pins σ Q) X.xe s
noncomputable def PS (X:Cx)(st:Stmt)(t:TS):Prop:=
 ∀(pins:List (Addr×Obj)) (s:Shared) (σ:St) (H:Hp) (D:Ends),Inv X pins σ H s->t D σ H->wpAny (model X.prog X.w) X.A (exec st X.env) (SP X pins D) X.xe s
noncomputable def PSs (X:Cx)(st:List Stmt)(t:TS):Prop:=
 ∀(pins:List (Addr×Obj)) (s:Shared) (σ:St) (H:Hp) (D:Ends),Inv X pins σ H s->t D σ H->wpAny (model X.prog X.w) X.A (execs st X.env) (SP X pins D) X.xe s
theorem thn {α:Type}{t:Sem α}{Q Q':α->Shared->Prop}{M:Model}{A:Around}{E:Value->Shared->Prop}{s:Shared}(h:wpAny M A t Q E s)(hQ:∀a s,Q a s->Q' a s):wpAny M A t Q' E s:=ju0 h hQ fun _ _ x=>x
end L2
namespace L2
open PySem PySem.Spec PyProof.Rows
section
variable {X:Cx}
noncomputable def jst (i:Nat):TE:=fun σ H Q=>∃v,σ[i]?=some (some v)/\Q v H
noncomputable def tC (v:V):TE:=fun _ H Q=>Q v H
theorem jno {i:Nat}{x:Str}{pos:Pos}(hN:X.N[i]?=some x)(hv:Vis X.env.scope x)(hd:(x == ("__debug__":Str))=false:=by decide)(hcd:(x == ("__classdict__":Str))=false:=by decide):PE X (.Name x pos) (jst i):=by
 intro pins s σ H Q I h;obtain⟨v,e,h⟩:=h;obtain⟨m,hn,hl⟩:=I.loc;obtain⟨u,r,l⟩:=hl i x v hN e hv;have fin:EP X pins σ Q u s:=⟨v,H,I,r,h⟩;rcases l with ⟨hk,hm⟩ | ⟨hk,c,hc,hcell⟩
 ·exact wpAny_Name (wpAny_loadName_local I.ok.kind hk hn hm fin) hd
 ·rcases hk with hk | hk
  ·exact wpAny_Name (wpAny_loadName_cell I.ok.kind hk hc hcell fin) hd
  ·exact wpAny_Name (wpAny_loadName_free I.ok.kind hk hc hcell fin hcd) hd
theorem jqo {i j pos}:PE X (.Constant (.int i) j pos) (tC (.int i)):=fun _ _ _ H _ I h=>wpAny_Constant_int ⟨.int i,H,I.tok _,⟨_,rfl⟩,h⟩
theorem jsu {b j pos}:PE X (.Constant (.bool b) j pos) (tC (.bl b)):=fun _ _ _ H _ I h=>Constant_bool ⟨.bl b,H,I,rfl,h⟩
theorem jqp {j pos}:PE X (.Constant .none j pos) (tC .non):=fun _ _ _ H _ I h=>Constant_none ⟨.non,H,I,rfl,h⟩
theorem jqq {x j pos}:PE X (.Constant (.str x) j pos) (tC (.str x)):=fun _ _ _ H _ I h=>Calls.Constant_str ⟨.str x,H,I.tok _,⟨_,rfl⟩,h⟩
noncomputable def Gl (X:Cx)(x:Str):Prop:=X.env.kindOf x=some .globalImplicit
theorem jdO {E:Value->Shared->Prop}{pins:List (Addr×Obj)}{s:Shared}{σ:St}{H:Hp}{x:Str}{u:Value}{pos:Pos}{Q:Value->Shared->Prop}(I:Inv X pins σ H s)(hg:Gl X x)(hm:X.mg x=some u)(h:Q u s)
  (hd:(x == ("__debug__":Str))=false:=by decide):wpAny (model X.prog X.w) X.A (eval (.Name x pos) X.env) Q E s:=
 Calls.Name_function_global I.ok.kind hg (Calls.loadGlobal_global (by rw[I.ok.glob];exact I.mod.glob.keeps I.bk) hm h) hd
theorem jeI {E:Value->Shared->Prop}{pins:List (Addr×Obj)}{s:Shared}{σ:St}{H:Hp}{x:Str}{u:Value}{pos:Pos}{Q:Value->Shared->Prop}(I:Inv X pins σ H s)(hg:Gl X x)(hm:X.mg x=none)(hv:bootBuiltins x=some u)(h:Q u s)
  (hn:x≠"__name__":=by decide) (hd:(x == ("__debug__":Str))=false:=by decide):wpAny (model X.prog X.w) X.A (eval (.Name x pos) X.env) Q E s:=by
 obtain⟨mb,h1,h2⟩:=I.mod.blt;exact Calls.Name_function_global I.ok.kind hg (Calls.loadGlobal_builtin (by rw[I.ok.glob];exact I.mod.glob.keeps I.bk) hm (by rw[I.ok.blt];exact h1.keeps I.bk) ((h2 x hn).trans hv) h) hd
theorem jiU {x:Str}{v:V}{u:Value}{pos:Pos}(hg:Gl X x)(hm:X.mg x=some u)(r:RelV v u)(hd:(x == ("__debug__":Str))=false:=by decide):PE X (.Name x pos) (tC v):=
 fun _ _ _ H _ I h=>jdO I hg hm ⟨v,H,I,r,h⟩ hd
theorem jn2 {x:Str}{v:V}{u:Value}{pos:Pos}(hg:Gl X x)(hm:X.mg x=none)(hv:bootBuiltins x=some u)(r:RelV v u)(hn:x≠"__name__":=by decide)(hd:(x == ("__debug__":Str))=false:=by decide):PE X (.Name x pos) (tC v):=
 fun _ _ _ H _ I h=>jeI I hg hm hv ⟨v,H,I,r,h⟩ hn hd
variable {a b:Expr}{ta tb:TE}{pos:Pos}
variable {tA tB':TT}{jb9:List Expr}
noncomputable def jty (t u:TT):TT:=fun σ H Q=>t σ H fun c H1=>if c=true then u σ H1 Q else Q false H1
noncomputable def tOr (t u:TT):TT:=fun σ H Q=>t σ H fun c H1=>if c=true then Q true H1 else u σ H1 Q
noncomputable def jtz (t:TT):TT:=fun σ H Q=>t σ H fun c H1=>Q (!c) H1
theorem jn3 (ha:PT X a tA):PW X (.BoolOp .And [a] pos) tA:=by
 intro wh pins s σ H Q I h;refine isTrue_and (thn (ha pins s σ H Q I h) fun c s1 e=>?_);cases c with
 |true=>exact isTrue_and_nil e
 |false=>exact e
theorem jqr (ha:PT X a tA):PW X (.BoolOp .Or [a] pos) tA:=by
 intro wh pins s σ H Q I h;refine isTrue_or (thn (ha pins s σ H Q I h) fun c s1 e=>?_);cases c with
 |false=>exact isTrue_or_nil e
 |true=>exact e
theorem jqs (ha:PT X a tA)(hb:PW X (.BoolOp .And (b::jb9) pos) tB'):PW X (.BoolOp .And (a::b::jb9) pos) (jty tA tB'):=by
 intro wh pins s σ H Q I h;refine isTrue_and (thn (ha pins s σ H _ I h) fun c s1 hzz=>?_);obtain⟨H1,I1,q1⟩:=hzz;cases c with
 |true=>exact hb wh pins s1 σ H1 Q I1 q1
 |false=>exact⟨H1,I1,q1⟩
theorem jsv (ha:PT X a tA)(hb:PW X (.BoolOp .Or (b::jb9) pos) tB'):PW X (.BoolOp .Or (a::b::jb9) pos) (tOr tA tB'):=by
 intro wh pins s σ H Q I h;refine isTrue_or (thn (ha pins s σ H _ I h) fun c s1 hzz=>?_);obtain⟨H1,I1,q1⟩:=hzz;cases c with
 |true=>exact⟨H1,I1,q1⟩
 |false=>exact hb wh pins s1 σ H1 Q I1 q1
theorem jqt (ha:PT X a tA):PT X (.UnaryOp .Not a pos) (jtz tA):=by
 intro pins s σ H Q I h;exact isTrue_not (ha pins s σ H (fun c H1=>Q (!c) H1) I h)
noncomputable def jqu (ta tb:TE):TE:=fun σ H Q=>ta σ H fun x H1=>∃c,x=.bl c/\if c=true then tb σ H1 Q else Q (.bl false) H1
noncomputable def jtA (ta tb:TE):TE:=fun σ H Q=>ta σ H fun x H1=>∃c,x=.bl c/\if c=true then Q (.bl true) H1 else tb σ H1 Q
noncomputable def jqv (ta:TE):TE:=fun σ H Q=>ta σ H fun x H1=>∃c,x=.bl c/\Q (.bl (!c)) H1
theorem jnp {op}{t:TE}(h:PE X a t):PE X (.BoolOp op [a] pos) t:=fun pins s σ H Q I hw=>BoolOp_one (h pins s σ H Q I hw)
theorem jqw (ha:PE X a ta)(hb:PE X (.BoolOp .And (b::jb9) pos) tb):PE X (.BoolOp .And (a::b::jb9) pos) (jqu ta tb):=by
 intro pins s σ H Q I h;refine BoolOp_and (thn (ha pins s σ H _ I h) fun v s1 hzz=>?_);obtain⟨x,H1,I1,r1,q1⟩:=hzz;obtain⟨c,rfl,q1⟩:=q1;cases r1;refine wpAny_truthy_bool ?_;cases c with
 |true=>exact hb pins s1 σ H1 Q I1 q1
 |false=>exact⟨.bl false,H1,I1,rfl,q1⟩
theorem jsw (ha:PE X a ta)(hb:PE X (.BoolOp .Or (b::jb9) pos) tb):PE X (.BoolOp .Or (a::b::jb9) pos) (jtA ta tb):=by
 intro pins s σ H Q I h;refine BoolOp_or (thn (ha pins s σ H _ I h) fun v s1 hzz=>?_);obtain⟨x,H1,I1,r1,q1⟩:=hzz;obtain⟨c,rfl,q1⟩:=q1;cases r1;refine wpAny_truthy_bool ?_;cases c with
 |false=>exact hb pins s1 σ H1 Q I1 q1
 |true=>exact⟨.bl true,H1,I1,rfl,q1⟩
theorem jqx (ha:PE X a ta):PE X (.UnaryOp .Not a pos) (jqv ta):=by
 intro pins s σ H Q I h;refine UnaryOp_ (thn (ha pins s σ H _ I h) fun v s1 hzz=>?_);obtain⟨x,H1,I1,r1,q1⟩:=hzz;obtain⟨c,rfl,q1⟩:=q1;cases r1;exact not_of (wpAny_truthy_bool ⟨.bl (!c),H1,I1,rfl,q1⟩)
noncomputable def tIf (t:TT)(ta tb:TE):TE:=fun σ H Q=>t σ H fun c H1=>if c=true then ta σ H1 Q else tb σ H1 Q
theorem jlg {c:Expr}(hc:PT X c tA)(ha:PE X a ta)(hb:PE X b tb):PE X (.IfExp c a b pos) (tIf tA ta tb):=by
 intro pins s σ H Q I h;refine wpAny_IfExp (thn (hc pins s σ H _ I h) fun d s1 hzz=>?_);obtain⟨H1,I1,q1⟩:=hzz;cases d with
 |true=>exact ha pins s1 σ H1 Q I1 q1
 |false=>exact hb pins s1 σ H1 Q I1 q1
end
end L2
namespace L2
open PySem PySem.Spec PyProof.Rows
noncomputable def SqL (K:PySem.W.Frag)(H:Hp)(a:Addr)(xs:List V):Prop:=
 Rd H a (.lst xs) \/
  ∃(o:Obj) (its:Array Value) (n:Nat),K.lookup a=some o/\o.cls=.type "list"/\o.dict=none/\o.data=.seq its n/\its.size<=sizeLine/\Vals xs its.toList
noncomputable def SqT (K:PySem.W.Frag)(H:Hp)(a:Addr)(xs:List V):Prop:=
 Rd H a (.tup xs) \/
  ∃(o:Obj) (its:Array Value) (n:Nat),K.lookup a=some o/\o.cls=.type "tuple"/\o.data=.seq its n/\its.size<=sizeLine/\Vals xs its.toList
noncomputable def jtY:Value->Option V
 |.none=>some .non
 |.bool b=>some (.bl b)
 |.int i _=>some (.int i)
 |.str x _=>some (.str x)
 |.bytes b _=>some (.byt b)
 |.float b _=>some (.flt b)
 |.ref a=>some (.ref a)
 |.type n=>some (.ty n)
 |_=>none
theorem RelV.abs {x:V}{u:Value}(r:RelV x u):jtY u=some x:=by
 cases x with
 |non=>cases r;rfl
 |bl _=>cases r;rfl
 |int _=>obtain⟨t,rfl⟩:=r;rfl
 |str _=>obtain⟨t,rfl⟩:=r;rfl
 |byt _=>obtain⟨t,rfl⟩:=r;rfl
 |flt _=>obtain⟨t,rfl⟩:=r;rfl
 |ref _=>cases r;rfl
 |ty _=>cases r;rfl
theorem RelV.inj {x y:V}{u:Value}(r:RelV x u)(q:RelV y u):x=y:=Option.some.inj (r.abs.symm.trans q.abs)
theorem Vals.inj {xs ys:List V}{us:List Value}(h:Vals xs us)(h':Vals ys us):xs=ys:=by
 induction h generalizing ys with
 |nil=>cases h';rfl
 |cons r t ih=>
  cases h' with
  |cons r' t'=>rw[r.inj r',ih t']
section
variable {X:Cx}{pins:List (Addr×Obj)}{σ:St}{H:Hp}{s:Shared}{a:Addr}{xs ys:List V}
theorem SqL.of {K:PySem.W.Frag}(h:H a=some (.lst xs)):SqL K H a xs:=.inl (.inl h)
theorem Inv.list (I:Inv X pins σ H s)(h:SqL X.K H a xs):∃its:List Value,Vals xs its/\PlainL s.heap a its.toArray/\xs.length<=sizeLine:=by
 rcases h with h | ⟨o,its,n,hk,hc,hd,hs,hz,r⟩
 ·obtain⟨z,its,n,r,e⟩:=h.ok I.hok;exact⟨its,r,⟨_,n,e,rfl,rfl,rfl⟩,z⟩
 ·refine⟨its.toList,r,⟨o,n,I.kIn a o hk,hc,hd,by simpa using hs⟩,?_⟩
  have e:=r.length;simp only[Array.length_toList]at e;omega
theorem Inv.tuple (I:Inv X pins σ H s)(h:SqT X.K H a xs):∃its:List Value,Vals xs its/\IsTup s.heap a its.toArray/\xs.length<=sizeLine:=by
 rcases h with h | ⟨o,its,n,hk,hc,hs,hz,r⟩
 ·obtain⟨z,its,r,p⟩:=h.ok I.hok;exact⟨its,r,p,z⟩
 ·refine⟨its.toList,r,⟨o,I.kIn a o hk,hc,n,by simpa using hs⟩,?_⟩
  have e:=r.length;simp only[Array.length_toList]at e;omega
theorem Inv.list_inj (I:Inv X pins σ H s)(h:SqL X.K H a xs)(h':SqL X.K H a ys):xs=ys:=by
 obtain⟨its,r,⟨o,n,e,_,_,d⟩,_⟩:=I.list h;obtain⟨its',r',⟨o',n',e',_,_,d'⟩,_⟩:=I.list h';rw[e]at e';cases e';rw[d]at d';injection d' with d1 _
 have:its=its':=by simpa using congrArg Array.toList d1
 subst this;exact r.inj r'
theorem Inv.tuple_inj (I:Inv X pins σ H s)(h:SqT X.K H a xs)(h':SqT X.K H a ys):xs=ys:=by
 obtain⟨its,r,⟨o,e,_,n,d⟩,_⟩:=I.tuple h;obtain⟨its',r',⟨o',e',_,n',d'⟩,_⟩:=I.tuple h';rw[e]at e';cases e';rw[d]at d';injection d' with d1 _
 have:its=its':=by simpa using congrArg Array.toList d1
 subst this;exact r.inj r'
end
section
variable {X:Cx}{pins:List (Addr×Obj)}{σ:St}{H:Hp}{s:Shared}{E:Value->Shared->Prop}
end
section
variable {X:Cx}{st:Stmt}{jb9:List Stmt}{t u:TS}{e:Expr}{te:TE}{pos:Pos}
noncomputable def jqy:TS:=fun D σ H=>D.nx σ H
noncomputable def jtZ (t u:TS):TS:=fun D σ H=>t { D with nx:=u D } σ H
theorem jn4:PSs X [] jqy:=fun _ _ σ H _ I h=>wpAny_execs_nil ⟨σ,H,I,h⟩
theorem jlh (h1:PS X st t)(h2:PSs X jb9 u):PSs X (st::jb9) (jtZ t u):=by
 intro pins s σ H D I h;refine wpAny_execs_cons (thn (h1 pins s σ H { D with nx:=u D } I h) fun f s1 q=>?_)
 cases f with
 |next=>
  obtain⟨σ',H',I',q⟩:=q;exact h2 pins s1 σ' H' D I' q
 |ret v=>exact q
 |brk=>exact q
 |cont=>exact q
noncomputable def jqz:TS:=fun D σ H=>D.bk σ H
noncomputable def jsx:TS:=fun D σ H=>D.ct σ H
theorem jn5:PS X (.Pass pos) jqy:=fun _ _ σ H _ I h=>wpAny_Pass ⟨σ,H,I,h⟩
theorem jli:PS X (.Break pos) jqz:=fun _ _ σ H _ I h=>wpAny_Break ⟨σ,H,I,h⟩
theorem jfN:PS X (.Continue pos) jsx:=fun _ _ σ H _ I h=>wpAny_Continue ⟨σ,H,I,h⟩
theorem Inv.quiet {pins:List (Addr×Obj)}{σ:St}{H:Hp}{s:Shared}(I:Inv X pins σ H s):interactive X.env=false:=by simp[interactive,I.ok.kind]
noncomputable def jsy (te:TE):TS:=fun D σ H=>te σ H fun _ H1=>D.nx σ H1
theorem jiV (he:PE X e te)(hs:swapsWith e none pos.line X.env=pure false:=by rfl):PS X (.Expr e pos) (jsy te):=by
 intro pins s σ H D I h;exact wpAny_Expr_any (thn (he pins s σ H _ I h) fun v s1 ⟨x,H1,I1,r1,q1⟩=>⟨σ,H1,I1,q1⟩) I.quiet hs
noncomputable def jt0 (te:TE):TS:=fun D σ H=>te σ H D.rt
theorem jqA (he:PE X e te):PS X (.Return (some e) pos) (jt0 te):=by
 intro pins s σ H D I h;exact wpAny_Return_some (thn (he pins s σ H _ I h) fun v s1 ⟨x,H1,I1,r1,q1⟩=>⟨x,σ,H1,I1,r1,q1⟩)
noncomputable def jsz:TS:=fun D _ H=>D.rt .non H
theorem jn6:PS X (.Return none pos) jsz:=fun _ _ σ H _ I h=>wpAny_Return_none ⟨.non,σ,H,I,rfl,h⟩
noncomputable def jt1 (c:TT)(t u:TS):TS:=fun D σ H=>c σ H fun b H1=>if b=true then t D σ H1 else u D σ H1
theorem jsA {c:Expr}{a b:List Stmt}{tc:TT}(hc:PT X c tc)(ha:PSs X a t)(hb:PSs X b u):PS X (.If c a b pos) (jt1 tc t u):=by
 intro pins s σ H D I h;refine wpAny_If (thn (hc pins s σ H _ I h) fun d s1 hzz=>?_);obtain⟨H1,I1,q1⟩:=hzz;cases d with
 |true=>exact ha pins s1 σ H1 D I1 q1
 |false=>exact hb pins s1 σ H1 D I1 q1
end
noncomputable abbrev TG:=V->St->Hp->(St->Hp->Prop)->Prop
noncomputable abbrev TGs:=List V->St->Hp->(St->Hp->Prop)->Prop
noncomputable def PG (X:Cx)(target:Expr)(t:TG):Prop:=
 ∀(pins:List (Addr×Obj)) (s:Shared) (σ:St) (H:Hp) (v:V) (u:Value) (Q:St->Hp->Prop),Inv X pins σ H s->RelV v u->t v σ H Q ->
  wpAny (model X.prog X.w) X.A (assign target X.env u) (fun _ s'=>∃σ' H',Inv X pins σ' H' s'/\Q σ' H') X.xe s
noncomputable def PGs (X:Cx)(ts:List Expr)(t:TGs):Prop:=
 ∀(pins:List (Addr×Obj)) (s:Shared) (σ:St) (H:Hp) (vs:List V) (us:List Value) (Q:St->Hp->Prop),Inv X pins σ H s->Vals vs us->t vs σ H Q ->
  wpAny (model X.prog X.w) X.A (assignInOrder ((assignEach ts X.env).map (·.2)) us) (fun _ s'=>∃σ' H',Inv X pins σ' H' s'/\Q σ' H') X.xe s
section
variable {X:Cx}{pos:Pos}
noncomputable def jn7 (i:Nat):TG:=fun v σ H Q=>Q (σ.set i (some v)) H
theorem jiW {i:Nat}{x:Str}(hN:X.N.Nodup)(hi:X.N[i]?=some x)(hx:Loc X.env.scope x)(hf:X.fn x=true\/X.env.scope.names.lookup x=some .local:=by first | exact .inl rfl | exact .inr rfl | assumption):PG X (.Name x pos) (jn7 i):=by
 intro pins s σ H v u Q I r h;exact wpAny_assign_Name (jdN I hN hi hx r (fun s' I'=>⟨_,H,I',h⟩) hf)
noncomputable def jtB:TGs:=fun vs σ H Q=>vs=[]/\Q σ H
noncomputable def jqB (t:TG)(u:TGs):TGs:=fun vs σ H Q=>∃v r,vs=v::r/\t v σ H fun σ' H'=>u r σ' H' Q
theorem jn8:PGs X [] jtB:=by
 intro pins s σ H vs us Q I r h;obtain⟨e,h⟩:=h;subst e;cases r;exact assignInOrder_nil ⟨σ,H,I,h⟩
theorem jlj {e:Expr}{es:List Expr}{t:TG}{u:TGs}(h1:PG X e t)(h2:PGs X es u)
  (hs:(assignEach (e::es) X.env).map (·.2)=assign e X.env::(assignEach es X.env).map (·.2):=by rfl):PGs X (e::es) (jqB t u):=by
 intro pins s σ H vs us Q I r h;obtain⟨v,vr,e1,h⟩:=h;subst e1;cases r with
 |cons r rr=>
  rw[hs];refine assignInOrder_cons (thn (h1 pins s σ H _ _ _ I r h) fun _ s1 hzz=>?_);obtain⟨σ1,H1,I1,q1⟩:=hzz;exact h2 pins s1 σ1 H1 _ _ Q I1 rr q1
noncomputable def jt2 (K:PySem.W.Frag)(n:Nat)(t:TGs):TG:=fun v σ H Q=>∃a xs,v=.ref a/\SqT K H a xs/\xs.length=n/\t xs σ H Q
theorem jqC {es:List Expr}{k:Nat}{t:TGs}{n:Nat}(hc:X.calm=true)(h:PGs X es t)
  (hn:(assignEach es X.env).length=n:=by rfl) (hst:(assignEach es X.env).findIdx? (·.1)=none:=by rfl):PG X (.Tuple es k pos) (jt2 X.K n t):=by
 intro pins s σ H v u Q I r hw;obtain⟨a,xs,e1,hq,hl,hw⟩:=hw;subst e1;cases r;obtain⟨its,rv,ht,hz⟩:=I.tuple hq;refine assign_Tuple_tuple (I.ok.hd hc) ht (by simp[hn,<-hl,rv.length]) hst fun h' hx=>?_
 have I1:Inv X pins σ H { s with heap:=h' }:=I.kept (t':=s.toks) fun b o e=>hx b o (ju9 (ju3 e)) e
 exact h pins _ σ H xs _ Q I1 (by simpa using rv) hw
noncomputable def jt3 (te:TE)(g:TG):TS:=fun D σ H=>te σ H fun x H1=>g x σ H1 D.nx
theorem jqD {i:Nat}{x:Str}{e:Expr}{te:TE}{pos':Pos}(hN:X.N.Nodup)(hi:X.N[i]?=some x)(hx:Loc X.env.scope x)(he:PE X e te)(hs:swapsWith e (some (.Name x pos')) pos.line X.env=pure false:=by rfl)(hf:X.fn x=true\/X.env.scope.names.lookup x=some .local:=by first | exact .inl rfl | exact .inr rfl | assumption) :
  PS X (.Assign [.Name x pos'] e pos) (jt3 te (jn7 i)):=by
 intro pins s σ H D I h;refine wpAny_Assign_Name (thn (he pins s σ H _ I h) fun v s1 hzz=>?_) hs;obtain⟨y,H1,I1,r1,q1⟩:=hzz;exact jdN I1 hN hi hx r1 (fun s2 I2=>⟨_,H1,I2,q1⟩) hf
end
section
variable {X:Cx}{pos:Pos}
noncomputable def jqE (c:TT)(tb:TS):TS:=fun D σ H=>∃W:Nat->St->Hp->Prop,(∃m,W m σ H)/\∀m σ H,W m σ H ->
 c σ H fun b H1=>if b=true then ∃N:St->Hp->Prop,(∀σ' H',N σ' H'->∃m',m' < m/\W m' σ' H')/\tb { D with nx:=N,ct:=N,bk:=D.nx } σ H1 else D.nx σ H1
theorem jlk {c:Expr}{body:List Stmt}{tc:TT}{tb:TS}(hp:PassesOwn (model X.prog X.w) X.A X.env X.xe)(hc:PT X c tc)(hb:PSs X body tb):PS X (.While c body [] pos) (jqE tc tb):=by
 intro pins s σ H D I h;obtain⟨W,⟨m0,w0⟩,turn⟩:=h;refine wpAny_While (codeAny_whileLoop (fun n s'=>∃σ' H',Inv X pins σ' H' s'/\W n σ' H') ?_ m0 ⟨σ,H,I,w0⟩);rintro n s1 ⟨σ1,H1,I1,w1⟩;refine wpAny_passesOwn hp (thn (hc pins s1 σ1 H1 _ I1 (turn n σ1 H1 w1)) fun b s2 hzz=>?_);obtain⟨H2,I2,q2⟩:=hzz;cases b with
 |true=>
  obtain⟨N,hN,q2⟩:=q2;rw[if_pos rfl];refine wpAny_passesOwn hp (thn (hb pins s2 σ1 H2 _ I2 q2) fun f s3 q3=>?_);cases f with
  |next=>
   obtain⟨σ3,H3,I3,n3⟩:=q3;obtain⟨m',hm,w3⟩:=hN σ3 H3 n3;exact⟨m',hm,σ3,H3,I3,w3⟩
  |cont=>
   obtain⟨σ3,H3,I3,n3⟩:=q3;obtain⟨m',hm,w3⟩:=hN σ3 H3 n3;exact⟨m',hm,σ3,H3,I3,w3⟩
  |brk=>exact q3
  |ret v=>exact q3
 |false=>
  rw[if_neg jve];exact wpAny_execs_nil ⟨σ1,H2,I2,q2⟩
end
structure It where
 go:Nat->Hp->Prop
 yld:Nat->Hp->V->Hp->Prop
 stop:Nat->Hp->Prop
noncomputable def FpOk (X:Cx)(pins:List (Addr×Obj))(H:Hp)(b:Addr):Prop:=
 H b=none/\b≠X.env.locals/\b ∉ X.fs/\(b∈X.ex\/X.s₀.heap.objs.size<=b)/\(∀x c,X.env.cells.lookup x=some c->c≠b)/\∀p∈X.pn++pins,p.1≠b
theorem Inv.fpOk {X:Cx}{pins:List (Addr×Obj)}{σ:St}{H H':Hp}{s:Shared}{b:Addr}(I:Inv X pins σ H s)(hb:s.heap.objs.size<=b)(hn:H' b=none):FpOk X pins H' b:=by
 refine⟨hn,Nat.ne_of_gt (ju8 I.lt hb),I.nofs hb,.inr (jva I.sz hb),fun x c e z=>?_,fun p hp z=>?_⟩
 ·obtain⟨v,q⟩:=I.cell x c e;exact absurd (ju8 q.lt (by rw[z];exact hb)) (jvb _)
 ·exact absurd (ju8 (ju3 (I.pin p hp).1) (by rw[z];exact hb)) (jvb _)
structure Turn (P:Program)(w:World)(K:PySem.W.Frag)(tg:Expr)(J:It)(fp:List Addr)(it:Addr)(tn:Nat->Heap->Prop):Prop where
 mem:it∈fp
 obj:∀i h,tn i h->∀b∈fp,∃o,h.get? b=some o/\∀v,o.data≠.cell v
 keep:∀i h h',tn i h->(∀b∈fp,∀o,h.get? b=some o->h'.get? b=some o)->tn i h'
 item:∀(X:Cx),X.prog=P->X.w=w->X.K=K->X.calm=true->∀(i:Nat) (pins:List (Addr×Obj)) (s:Shared) (σ:St) (H:Hp) (E:Value->Shared->Prop),Inv X pins σ H s->(∀b∈fp,FpOk X pins H b)->tn i s.heap->J.go i H ->
  wpAny (model P w) X.A (pyNext (.ref it)) (fun r s1=>∃u,r=some u /\
   wpAny (model P w) X.A (letOwnedTupleGo tg (.ref it) u) (fun _ s2=>∃x H',Inv X pins σ H' s2/\RelV x u/\J.yld i H x H'/\tn (i + 1) s2.heap/\∀b∈fp,H' b=none) E s1) E s
 done:∀(X:Cx),X.prog=P->X.w=w->X.K=K->X.calm=true->∀(i:Nat) (pins:List (Addr×Obj)) (s:Shared) (σ:St) (H:Hp) (E:Value->Shared->Prop),Inv X pins σ H s->(∀b∈fp,FpOk X pins H b)->tn i s.heap->J.stop i H ->
  wpAny (model P w) X.A (pyNext (.ref it)) (fun r s1=>r=none/\Inv X pins σ H s1) E s
 self:∀(A:Around) (i:Nat) (s:Shared) (Q:Value->Shared->Prop) (E:Value->Shared->Prop),tn i s.heap->Q (.ref it) s->wpAny (model P w) A (pyIter (.ref it)) Q E s
noncomputable abbrev TI:=St->Hp->(It->Hp->Prop)->Prop
inductive PIE (X:Cx) (pins:List (Addr×Obj)) (σ:St) (tg:Expr) (R:It->Hp->Prop) (itv:Value) (s2:Shared):Prop
 |mk (it:Addr) (fp:List Addr) (tn:Nat->Heap->Prop) (J:It) (H':Hp):(itv=.ref it)->(Inv X pins σ H' s2)->(Turn X.prog X.w X.K tg J fp it tn)->(tn 0 s2.heap)->((∀b∈fp,FpOk X pins H' b))->(R J H')->PIE X pins σ tg R itv s2
noncomputable def PI (X:Cx)(tg iter:Expr)(wi:TI):Prop:=
 ∀(pins:List (Addr×Obj)) (s:Shared) (σ:St) (H:Hp) (R:It->Hp->Prop),Inv X pins σ H s->wi σ H R ->
  wpAny (model X.prog X.w) X.A (eval iter X.env) (fun v s1=>wpAny (model X.prog X.w) X.A (pyIter v) (PIE X pins σ tg R) X.xe s1) X.xe s
theorem jll {M:Model}{A:Around}{E:Value->Shared->Prop}{s:Shared}{tg:Expr}{it:Addr}{u:Value}{o:Obj}{n:String}{vs:Array Value}{Q:Unit->Shared->Prop}(ho:s.heap.get? it=some o)(hc:o.cls=.type n)(hd:o.data=.fields vs)
  (hn:["enumerate","zip","dict_itemiterator","dict_reverseitemiterator","odict_iterator","itertools.zip_longest","itertools.pairwise"].contains n=false) (hQ:Q () s):wpAny M A (letOwnedTupleGo tg (.ref it) u) Q E s:=by
 unfold letOwnedTupleGo;cases tg <;> first
  |exact juU hQ
  |(cases u <;> first
    |exact juU hQ
    |(refine juT (wpAny_load ho ?_)
      rw[hc,hd];show wpAny M A (if (["enumerate","zip","dict_itemiterator","dict_reverseitemiterator","odict_iterator","itertools.zip_longest","itertools.pairwise"].contains n && vs[0]? == some (rawInt _))=true then _ else _) Q E s;rw[if_neg (by intro h;rw[hn,Bool.false_and]at h;cases h)]
      exact juU hQ))
noncomputable def Itl (K:PySem.W.Frag)(a:Addr):It:=
 ⟨fun i H=>∃xs x,SqL K H a xs/\xs[i]?=some x,fun i H x H'=>H'=H/\∀xs,SqL K H a xs->xs[i]?=some x,fun i H=>∃xs,SqL K H a xs/\xs.length<=i⟩
noncomputable def Itt (K:PySem.W.Frag)(a:Addr):It:=
 ⟨fun i H=>∃xs x,SqT K H a xs/\xs[i]?=some x,fun i H x H'=>H'=H/\∀xs,SqT K H a xs->xs[i]?=some x,fun i H=>∃xs,SqT K H a xs/\xs.length<=i⟩
noncomputable def Itr (lo:Int)(n:Nat):It:=⟨fun i _=>i < n,fun i H x H'=>H'=H/\x=.int (lo + i),fun i _=>n<=i⟩
theorem jiX {P:Program}{w:World}{K:PySem.W.Frag}{tg:Expr}(a it:Addr):Turn P w K tg (Itl K a) [it] it (fun i h=>h.IsListIter it a i) where
 mem:=by simp
 obj:=fun i h st b hb=>by
  have e:b=it:=by simpa using hb
  subst e;obtain⟨o,e,c,d⟩:=st;exact⟨o,e,fun v z=>by rw[d]at z;cases z⟩
 keep:=fun i h h' st k=>st.at fun o e=>k it (by simp) o e
 item:=by
  intro X hP hw hK hc i pins s σ H E I hf st hg;subst hP hw hK;obtain⟨xs,x,hq,hx⟩:=hg;obtain⟨its,rv,p,hz⟩:=I.list hq;obtain⟨u,hu,ru⟩:=rv.get hx;obtain⟨f0,f1,f2,f3,f4,f5⟩:=hf it (by simp)
  refine wpAny_pyNext_list_item st p.isList (x:=u) (by simpa using hu) fun h' st' sb=>?_
  have I1:Inv X pins σ H { s with heap:=h' }:=I.turned (t':=s.toks) (fun b o hb e=>(sb.2 b hb).trans e) f0 f1 f3 f4 f5
  obtain⟨o,e,c,d⟩:=id st';exact⟨u,rfl,jll (s:={ s with heap:=h' }) e c d (by decide) ⟨x,H,I1,ru,⟨rfl,fun ys hy=>by rw[I.list_inj hy hq];exact hx⟩,st',fun b hb=>(hf b hb).1⟩⟩
 done:=by
  intro X hP hw hK hc i pins s σ H E I hf st hg;subst hP hw hK;obtain⟨xs,hq,hx⟩:=hg;obtain⟨its,rv,p,hz⟩:=I.list hq;obtain⟨f0,f1,f2,f3,f4,f5⟩:=hf it (by simp)
  have hl:=rv.length;exact wpAny_pyNext_list_end (I.ok.hd hc) st p.isList (by simp;omega) fun h' eb=>⟨rfl,I.turned (t':=s.toks) (fun b o hb e=>eb b o hb e) f0 f1 f3 f4 f5⟩
 self:=fun _ _ _ _ _ st h=>wpAny_pyIter_listiter st h
theorem jhD {P:Program}{w:World}{K:PySem.W.Frag}{tg:Expr}(a it:Addr):Turn P w K tg (Itt K a) [it] it (fun i h=>h.IsTupleIter it a i) where
 mem:=by simp
 obj:=fun i h st b hb=>by
  have e:b=it:=by simpa using hb
  subst e;obtain⟨o,e,c,d⟩:=st;exact⟨o,e,fun v z=>by rw[d]at z;cases z⟩
 keep:=fun i h h' st k=>st.at fun o e=>k it (by simp) o e
 item:=by
  intro X hP hw hK hc i pins s σ H E I hf st hg;subst hP hw hK;obtain⟨xs,x,hq,hx⟩:=hg;obtain⟨its,rv,p,hz⟩:=I.tuple hq;obtain⟨u,hu,ru⟩:=rv.get hx;obtain⟨f0,f1,f2,f3,f4,f5⟩:=hf it (by simp)
  refine wpAny_pyNext_tuple_item st (show s.heap.IsTuple a its.toArray from p) (x:=u) (by simpa using hu) fun h' st' sb=>?_
  have I1:Inv X pins σ H { s with heap:=h' }:=I.turned (t':=s.toks) (fun b o hb e=>(sb.2 b hb).trans e) f0 f1 f3 f4 f5
  obtain⟨o,e,c,d⟩:=id st';exact⟨u,rfl,jll (s:={ s with heap:=h' }) e c d (by decide) ⟨x,H,I1,ru,⟨rfl,fun ys hy=>by rw[I.tuple_inj hy hq];exact hx⟩,st',fun b hb=>(hf b hb).1⟩⟩
 done:=by
  intro X hP hw hK hc i pins s σ H E I hf st hg;subst hP hw hK;obtain⟨xs,hq,hx⟩:=hg;obtain⟨its,rv,p,hz⟩:=I.tuple hq;obtain⟨f0,f1,f2,f3,f4,f5⟩:=hf it (by simp)
  have hl:=rv.length;exact wpAny_pyNext_tuple_end (I.ok.hd hc) st (show s.heap.IsTuple a its.toArray from p) (by simp;omega) fun h' eb=>⟨rfl,I.turned (t':=s.toks) (fun b o hb e=>eb b o hb e) f0 f1 f3 f4 f5⟩
 self:=fun _ _ _ _ _ st h=>wpAny_pyIter_tupleiter st h
theorem jhE {P:Program}{w:World}{K:PySem.W.Frag}{tg:Expr}(it:Addr)(lo:Int)(n:Nat):Turn P w K tg (Itr lo n) [it] it (fun i h=>IsRangeIter h it (lo + (i:Nat) * 1) ((n:Int) - (i:Nat)) 1) where
 mem:=by simp
 obj:=fun i h st b hb=>by
  have e:b=it:=by simpa using hb
  subst e;exact⟨_,st,fun v z=>by
   have z':Data.fields _=Data.cell v:=z;cases z'⟩
 keep:=fun i h h' st k=>k it (by simp) _ st
 item:=by
  intro X hP hw hK hc i pins s σ H E I hf st hg;subst hP hw hK;obtain⟨f0,f1,f2,f3,f4,f5⟩:=hf it (by simp)
  have W:=Walks.range (prog:=X.prog) (w:=X.w) (I.ok.hd hc) it lo 1 n;refine W.item i s _ _ hg st fun v h' tk hv st' kk=>?_;obtain⟨t,rfl⟩:=hv;have I1:Inv X pins σ H { s with heap:=h',toks:=tk }:=I.turned (fun b o hb e=>kk b o (by simpa using hb) e) f0 f1 f3 f4 f5
  refine⟨_,rfl,jll (s:={ s with heap:=h',toks:=tk }) (n:="range_iterator") st' rfl rfl (by decide) ⟨.int (lo + i),H,I1,⟨t,?_⟩,⟨rfl,rfl⟩,st',fun b hb=>(hf b hb).1⟩⟩
  rw[Int.mul_one]
 done:=by
  intro X hP hw hK hc i pins s σ H E I hf st hg;subst hP hw hK;obtain⟨f0,f1,f2,f3,f4,f5⟩:=hf it (by simp)
  exact wpAny_pyNext_range_end (I.ok.hd hc) st (by have:n<=i:=hg;omega) fun h' eb=>⟨rfl,I.turned (t':=s.toks) (fun b o hb e=>eb b o hb e) f0 f1 f3 f4 f5⟩
 self:=fun _ _ _ _ _ st h=>wpAny_pyIter_rangeiter st h
end L2
namespace L2
open PySem PySem.Spec PyProof.Rows
section
variable {X:Cx}{tg:Expr}
theorem jlm {pins:List (Addr×Obj)}{σ:St}{H:Hp}{s:Shared}{R:It->Hp->Prop}{E:Value->Shared->Prop}{lo hi:Int}{t u v:Tok}{tk:Nat}(I:Inv X pins σ H s)(h1:-(2 ^ 62)<=lo)(h2:lo < 2 ^ 62)(h3:-(2 ^ 62)<=hi)(h4:hi < 2 ^ 62)
  (q:R (Itr lo (hi - lo).toNat) H):wpAny (model X.prog X.w) X.A (pyIter (.ref s.heap.objs.size)) (PIE X pins σ tg R) E { s with heap:=s.heap.push { cls:=.type "range",data:=.fields #[.int lo t,.int hi u,.int 1 v] },toks:=tk }:=by
 refine wpAny_pyIter_range (IsRange.new ..) (small_one h1 h2 h3 h4) ?_;have I1:Inv X pins σ H { s with heap:=s.heap.push { cls:=.type "range",data:=.fields #[.int lo t,.int hi u,.int 1 v] },toks:=tk }:=I.kept fun b o e=>ju2 _ e
 refine⟨(s.heap.push { cls:=.type "range",data:=.fields #[.int lo t,.int hi u,.int 1 v] }).objs.size,[(s.heap.push { cls:=.type "range",data:=.fields #[.int lo t,.int hi u,.int 1 v] }).objs.size],_,_,H,rfl,
  I1.kept (t':=tk) fun b o e=>ju2 _ e,jhE _ lo (hi - lo).toNat,?_,fun b hb=>?_,q⟩
 ·have e1:lo + ((0:Nat):Int) * 1=lo:=by simp
  have e2:(((hi - lo).toNat:Nat):Int) - ((0:Nat):Int)=Builtin.Range.rangeSize lo hi 1:=by rw[rangeSize_one];split <;> omega
  show IsRangeIter _ _ (lo + ((0:Nat):Int) * 1) ((((hi - lo).toNat:Nat):Int) - ((0:Nat):Int)) 1;rw[e1,e2];exact ju4 _ rfl
 ·have e:b=(s.heap.push { cls:=.type "range",data:=.fields #[.int lo t,.int hi u,.int 1 v] }).objs.size:=by simpa using hb
  subst e;exact I1.fpOk (ju7 _) (I1.hok.fresh (ju7 _))
noncomputable def jsB (ta:TA):TI:=fun σ H R=>ta σ H fun vs H1=>∃j:Int,vs=[.int j]/\-(2 ^ 62)<=j/\j < 2 ^ 62/\R (Itr 0 j.toNat) H1
theorem jiY {a:Expr}{ta:TA}{p pos:Pos}(hg:Gl X "range")(hm:X.mg "range"=none)(ha:PA X [a] ta)(hs:starEach [a] X.env=[(false,eval a X.env)]:=by rfl):PI X tg (.Call (.Name "range" p) [a] [] pos) (jsB ta):=by
 intro pins s σ H R I h;refine Call_ (jeI I hg hm boot_range (PyProof.Rows.callWith_type1 (thn (ha pos pins s σ H _ I h) fun us s1 hzz=>?_) hs rfl));obtain⟨vs,H1,I1,r1,q1⟩:=hzz;obtain⟨j,e,q1,q2,q⟩:=q1;subst e;cases r1 with
 |cons r rr=>
  cases rr;obtain⟨t,rfl⟩:=r;exact call_range_1 (jlm I1 (by omega) (by omega) q1 q2 (by simpa using q))
noncomputable def jbV (fp:List Addr)(h:Heap):List (Addr×Obj):=fp.filterMap fun b=>(h.get? b).map fun o=>(b,o)
theorem jbe {fp:List Addr}{h:Heap}{b:Addr}{o:Obj}(hb:b∈fp)(e:h.get? b=some o):(b,o)∈jbV fp h:=List.mem_filterMap.mpr ⟨b,hb,by rw[e];rfl⟩
theorem jiZ {fp:List Addr}{h:Heap}{p:Addr×Obj}(hp:p∈jbV fp h):p.1∈fp/\h.get? p.1=some p.2:=by
 obtain⟨b,hb,e⟩:=List.mem_filterMap.mp hp;cases q:h.get? b with
 |none=>rw[q]at e;cases e
 |some o=>
  rw[q]at e;have e':(b,o)=p:=Option.some.inj e;subst e';exact⟨hb,q⟩
theorem Inv.pinned {pins:List (Addr×Obj)}{σ:St}{H:Hp}{s:Shared}{fp:List Addr}(I:Inv X pins σ H s)(hf:∀b∈fp,FpOk X pins H b)(ho:∀b∈fp,∃o,s.heap.get? b=some o/\∀v,o.data≠.cell v):Inv X (pins++jbV fp s.heap) σ H s:=
 I.pins_of fun p hp=>(List.mem_append.mp hp).elim (fun z=>I.pin p (juC _ z)) fun z=>by
  obtain⟨hb,e⟩:=jiZ z;obtain⟨f0,f1,f2,_⟩:=hf p.1 hb;obtain⟨o,e',d⟩:=ho p.1 hb;rw[e]at e';cases e';exact⟨e,f0,f1,f2,d⟩
theorem Inv.unpinned {pins pl:List (Addr×Obj)}{σ:St}{H:Hp}{s:Shared}(I:Inv X (pins++pl) σ H s):Inv X pins σ H s:=I.pins_of fun p hp=>I.pin p (juC _ (juO _ hp))
end
end L2
namespace L2
open PySem PySem.Spec PyProof.Rows
noncomputable abbrev R2:=V->V->Hp->VK->Prop
noncomputable def OpR (X:Cx)(f:Value->Value->Sem Value)(r:R2):Prop:=
 ∀(pins:List (Addr×Obj)) (s:Shared) (σ:St) (H:Hp) (x y:V) (v u:Value) (Q:VK),Inv X pins σ H s->RelV x v->RelV y u->r x y H Q ->
  wpAny (model X.prog X.w) X.A (f v u) (EP X pins σ Q) X.xe s
noncomputable def CallR (X:Cx)(f:Value)(r:List V->Hp->VK->Prop):Prop:=
 ∀(pins:List (Addr×Obj)) (s:Shared) (σ:St) (H:Hp) (xs:List V) (us:List Value) (Q:VK),Inv X pins σ H s->Vals xs us->r xs H Q ->
  wpAny (model X.prog X.w) X.A (call f us) (EP X pins σ Q) X.xe s
noncomputable def jt4 (X:Cx)(r:V->Hp->(Bool->Hp->Prop)->Prop):Prop:=
 ∀(pins:List (Addr×Obj)) (s:Shared) (σ:St) (H:Hp) (x:V) (v:Value) (Q:Bool->Hp->Prop),Inv X pins σ H s->RelV x v->r x H Q ->
  wpAny (model X.prog X.w) X.A (truthy v) (TP X pins σ Q) X.xe s
noncomputable def tOp (r:R2)(ta tb:TE):TE:=fun σ H Q=>ta σ H fun x H1=>tb σ H1 fun y H2=>r x y H2 Q
noncomputable def tUn (r:V->Hp->VK->Prop)(ta:TE):TE:=fun σ H Q=>ta σ H fun x H1=>r x H1 Q
noncomputable def rI (C:Int->Int->Prop)(g:Int->Int->V):R2:=fun x y H Q=>∃i j,x=.int i/\y=.int j/\C i j/\Q (g i j) H
noncomputable def rI0 (g:Int->Int->V):R2:=fun x y H Q=>∃i j,x=.int i/\y=.int j/\Q (g i j) H
section
variable {X:Cx}{a b c:Expr}{ta tb tc:TE}{pos:Pos}
theorem jsC (ha:PE X a ta)(hb:PE X b tb){pins:List (Addr×Obj)}{s:Shared}{σ:St}{H:Hp}{R:V->V->Hp->Prop}(I:Inv X pins σ H s)
  (h:ta σ H fun x H1=>tb σ H1 fun y H2=>R x y H2) {Q:Value->Shared->Prop}{f:Value->Value->Sem Value}
  (hf:∀v u s2 x y H2,Inv X pins σ H2 s2->RelV x v->RelV y u->R x y H2->wpAny (model X.prog X.w) X.A (f v u) Q X.xe s2) :
  wpAny (model X.prog X.w) X.A (eval a X.env) (fun v s₁=>wpAny (model X.prog X.w) X.A (eval b X.env) (fun u s₂=>wpAny (model X.prog X.w) X.A (f v u) Q X.xe s₂) X.xe s₁) X.xe s:=by
 refine thn (ha pins s σ H _ I h) fun v s1 hzz=>?_;obtain⟨x,H1,I1,r1,q1⟩:=hzz;refine thn (hb pins s1 σ H1 _ I1 q1) fun u s2 hzz=>?_;obtain⟨y,H2,I2,r2,q2⟩:=hzz;exact hf v u s2 x y H2 I2 r1 r2 q2
theorem jsD {op:Operator}{r:R2}(ho:OpR X (binaryOp op) r)(ha:PE X a ta)(hb:PE X b tb):PE X (.BinOp a op b pos) (tOp r ta tb):=by
 intro pins s σ H Q I h;exact wpAny_BinOp (jsC ha hb I h fun v u s2 x y H2 I2 rx ry q=>ho pins s2 σ H2 x y v u Q I2 rx ry q)
theorem opI {f:Value->Value->Sem Value}{C:Int->Int->Prop}{g:Int->Int->Int}
  (rule:∀(i j:Int) (t u:Tok) (s:Shared) (Q:Value->Shared->Prop) (E:Value->Shared->Prop),C i j->Q (.int (g i j) s.toks) { s with toks:=s.toks + 1 }->wpAny (model X.prog X.w) X.A (f (.int i t) (.int j u)) Q E s) :
  OpR X f (rI C fun i j=>.int (g i j)):=by
 intro pins s σ H x y v u Q I rx ry h;obtain⟨i,j,rfl,rfl,hc,q⟩:=h;obtain⟨t,rfl⟩:=rx;obtain⟨t',rfl⟩:=ry;exact rule i j t t' s _ _ hc ⟨.int (g i j),H,I.tok _,⟨_,rfl⟩,q⟩
theorem jtC {f:Value->Value->Sem Value}{g:Int->Int->Int}
  (rule:∀(i j:Int) (t u:Tok) (s:Shared) (Q:Value->Shared->Prop) (E:Value->Shared->Prop),Q (.int (g i j) s.toks) { s with toks:=s.toks + 1 }->wpAny (model X.prog X.w) X.A (f (.int i t) (.int j u)) Q E s) :
  OpR X f (rI0 fun i j=>.int (g i j)):=by
 intro pins s σ H x y v u Q I rx ry h;obtain⟨i,j,rfl,rfl,q⟩:=h;obtain⟨t,rfl⟩:=rx;obtain⟨t',rfl⟩:=ry;exact rule i j t t' s _ _ ⟨.int (g i j),H,I.tok _,⟨_,rfl⟩,q⟩
theorem jsq {f:Value->Value->Sem Value}{g:Int->Int->Bool}
  (rule:∀(i j:Int) (t u:Tok) (s:Shared) (Q:Value->Shared->Prop) (E:Value->Shared->Prop),Q (.bool (g i j)) s->wpAny (model X.prog X.w) X.A (f (.int i t) (.int j u)) Q E s) :
  OpR X f (rI0 fun i j=>.bl (g i j)):=by
 intro pins s σ H x y v u Q I rx ry h;obtain⟨i,j,rfl,rfl,q⟩:=h;obtain⟨t,rfl⟩:=rx;obtain⟨t',rfl⟩:=ry;exact rule i j t t' s _ _ ⟨.bl (g i j),H,I,rfl,q⟩
noncomputable def jt5 (i j:Int):Prop:=0<=j/\j<=1000000/\i.natAbs < 2 ^ 64
noncomputable def CMul (i j:Int):Prop:=(-(2 ^ 64) < i/\i < 2 ^ 64)\/(-(2 ^ 64) < j/\j < 2 ^ 64)
theorem CMul.ok {i j:Int}(h:CMul i j):IntMulOk i j:=by
 rcases h with ⟨h1,h2⟩ | ⟨h1,h2⟩
 ·exact .of_left (intBits_le_64 h1 h2)
 ·exact .of_right (intBits_le_64 h1 h2)
theorem jqF:OpR X (binaryOp .Add) (rI0 fun i j=>.int (i + j)):=jtC fun _ _ _ _ _ _ _ q=>add_int q
theorem jqG:OpR X (binaryOp .Sub) (rI0 fun i j=>.int (i - j)):=jtC fun _ _ _ _ _ _ _ q=>sub_int q
theorem jqH:OpR X (binaryOp .Mult) (rI CMul fun i j=>.int (i * j)):=opI fun _ _ _ _ _ _ _ hc q=>mul_int q hc.ok
theorem jqI:OpR X (binaryOp .Mod) (rI (fun _ j=>0 < j) fun i j=>.int (i % j)):=opI fun i j _ _ _ _ _ hc q=>by
 have h1:(0:Int) < j:=hc;exact mod_int' (by omega) (by rw[Int.fmod_eq_emod_of_nonneg i (by omega)];exact q)
theorem jqJ:OpR X (binaryOp .Pow) (rI jt5 fun i j=>.int (i ^ j.toNat)):=opI fun _ _ _ _ _ _ _ hc q=>pow_int_small hc.1 hc.2.1 hc.2.2 q
end
section
variable {X:Cx}{a b c:Expr}{ta tb tc:TE}{pos:Pos}
theorem jnq {pins:List (Addr×Obj)}{σ:St}{H:Hp}{s:Shared}{Q:VK}{k k':Bool}(I:Inv X pins σ H s)(q:Q (.bl k) H)(e:k=k'):EP X pins σ Q (.bool k') s:=by
 subst e;exact⟨.bl k,H,I,rfl,q⟩
theorem jsE:OpR X (compareOp .Lt) (rI0 fun i j=>.bl (decide (i < j))):=jsq fun _ _ _ _ _ _ _ q=>lt_int q
theorem jsF:OpR X (compareOp .LtE) (rI0 fun i j=>.bl (decide (i<=j))):=jsq fun _ _ _ _ _ _ _ q=>le_int q
theorem jsG:OpR X (compareOp .Gt) (rI0 fun i j=>.bl (decide (j < i))):=jsq fun _ _ _ _ _ _ _ q=>gt_int q
theorem jsH:OpR X (compareOp .GtE) (rI0 fun i j=>.bl (decide (j<=i))):=jsq fun _ _ _ _ _ _ _ q=>ge_int q
theorem jqK:OpR X (compareOp .Is) (fun x y H Q=>y=.non/\Q (.bl (decide (x=.non))) H):=by
 intro pins s σ H x y v u Q I rx ry h;obtain⟨rfl,q⟩:=h;cases ry;refine is_none_gen (jnq I q ?_);cases x <;> first
  |(cases rx;rfl)
  |(obtain⟨t,rfl⟩:=rx;rfl)
theorem jn9:OpR X (compareOp .IsNot) (fun x y H Q=>y=.non/\Q (.bl (!decide (x=.non))) H):=by
 intro pins s σ H x y v u Q I rx ry h;obtain⟨rfl,q⟩:=h;cases ry;refine isnot_none_gen (jnq I q ?_);cases x <;> first
  |(cases rx;rfl)
  |(obtain⟨t,rfl⟩:=rx;rfl)
theorem joa {op:CmpOp}{r:R2}(ho:OpR X (compareOp op) r)(ha:PE X a ta)(hb:PE X b tb)(hm:behindInMarks op b=false):PE X (.Compare a [op] [b] pos) (tOp r ta tb):=by
 intro pins s σ H Q I h;exact wpAny_Compare1 (jsC ha hb I h fun v u s2 x y H2 I2 rx ry q=>ho pins s2 σ H2 x y v u Q I2 rx ry q) hm
noncomputable def jsI (t:TE):TT:=fun σ H Q=>t σ H fun x H'=>∃k,x=.bl k/\Q k H'
theorem job {op:CmpOp}{r:R2}(ho:OpR X (compareOp op) r)(ha:PE X a ta)(hb:PE X b tb)(hm:behindInMarks op b=false):PT X (.Compare a [op] [b] pos) (jsI (tOp r ta tb)):=by
 intro pins s σ H Q I h;refine wpAny_isTrue_Compare1 (thn (ha pins s σ H _ I h) fun v s1 ⟨x,H1,I1,r1,q1⟩=>thn (hb pins s1 σ H1 _ I1 q1) fun u s2 ⟨y,H2,I2,r2,q2⟩=>
  thn (ho pins s2 σ H2 x y v u _ I2 r1 r2 q2) fun c s3 ⟨z,H3,I3,r3,k,e,q3⟩=>?_) hm
 subst e;cases r3;exact wpAny_truthy_bool ⟨H3,I3,q3⟩
noncomputable def jsJ (K:PySem.W.Frag)(x:V)(H:Hp)(k:Bool):Prop:=
 match x with
 |.non=>k=false
 |.bl b=>k=b
 |.int i=>k=(i != 0)
 |.str y=>y.length<=sizeLine/\k=((y.length:Int) != 0)
 |.byt y=>y.size<=sizeLine/\k=((y.size:Int) != 0)
 |.ref p=>(∃xs,SqL K H p xs/\k=!xs.isEmpty)\/(∃xs,SqT K H p xs/\k=!xs.isEmpty)\/∃kvs,H p=some (.dK kvs)/\k=!kvs.isEmpty
 |_=>False
theorem jhF {κ:Type}{kvs:List (κ×V)}{vs:List (κ×Value)}(r:KV kvs vs):(!vs.isEmpty)=!kvs.isEmpty:=by
 cases r <;> rfl
theorem jdm {xs:List V}{its:List Value}(r:Vals xs its):(!its.toArray.isEmpty)=!xs.isEmpty:=by
 cases r <;> simp
theorem jca:(sizeLine:Nat) < 2 ^ 63:=by rw[sizeLine_eq];decide
theorem jqL:jt4 X (fun x H Q=>∃k,jsJ X.K x H k/\Q k H):=by
 intro pins s σ H x v Q I rx h;obtain⟨k,e,q⟩:=h;have hl:=jca;have hs:sizeLine=16777216:=sizeLine_eq;cases x with
 |non=>
  cases rx;have e':k=false:=e;subst e';exact truthy_none ⟨H,I,q⟩
 |bl b=>
  cases rx;have e':k=b:=e;subst e';exact wpAny_truthy_bool ⟨H,I,q⟩
 |int i=>
  obtain⟨t,rfl⟩:=rx;have e':k=(i != 0):=e;subst e';exact PySem.P.truthy_int ⟨H,I,q⟩
 |str y=>
  obtain⟨t,rfl⟩:=rx;obtain⟨hy,e'⟩:y.length<=sizeLine/\k=((y.length:Int) != 0):=e;subst e';exact PySem.P.truthy_str (by omega) ⟨H,I.tok _,q⟩
 |byt y=>
  obtain⟨t,rfl⟩:=rx;obtain⟨hy,e'⟩:y.size<=sizeLine/\k=((y.size:Int) != 0):=e;subst e';exact PySem.W.truthy_bytes (by omega) ⟨H,I.tok _,q⟩
 |ref p=>
  cases rx;have e':(∃xs,SqL X.K H p xs/\k=!xs.isEmpty)\/(∃xs,SqT X.K H p xs/\k=!xs.isEmpty)\/∃kvs,H p=some (.dK kvs)/\k=!kvs.isEmpty:=e;rcases e' with ⟨xs,hx,e'⟩ | ⟨xs,hx,e'⟩ | ⟨kvs,hx,e'⟩
  ·subst e';obtain⟨its,r,pl,hz⟩:=I.list hx;have hlen:=r.length;exact wpAny_truthy_list pl.isList (by simp only[juv];omega) ⟨H,I.tok _,by rw[jdm r];exact q⟩
  ·subst e';obtain⟨its,r,pl,hz⟩:=I.tuple hx;have hlen:=r.length;exact truthy_tuple pl (by simp only[juv];omega) ⟨H,I.tok _,by rw[jdm r];exact q⟩
  ·subst e';obtain⟨hz,hS,vs,r,m⟩:kvs.length<=sizeLine/\(p == sysModules)=false/\∃vs,KV kvs vs/\s.heap.DictOf (jfM X.prog X.w) p vs:=I.hok p _ hx;have hlen:kvs.length=vs.length:=Paired.length r;exact wpAny_truthy_dict hS m (by omega) ⟨H,I.tok _,by rw[jhF r];exact q⟩
 |_=>exact(show False from e).elim
theorem jln (ha:PE X a ta)(he:∀whole,isTrue a X.env whole=(do let v <-whole;standAt a.pos;holding [v] (truthy v))) :
  PT X a (fun σ H Q=>ta σ H fun x H'=>∃k,jsJ X.K x H' k/\Q k H'):=by
 intro pins s σ H Q I h;exact isTrue_plain (thn (ha pins s σ H _ I h) fun v s1 ⟨x,H1,I1,r1,q1⟩=>jqL pins s1 σ H1 x v Q I1 r1 q1) (he _)
theorem jhG:OpR X (binaryOp .Add) (fun x y H Q=>∃i j,x=.str i/\y=.str j/\i.length + j.length<=sizeLine/\Q (.str (i++j)) H):=by
 intro pins s σ H x y v u Q I rx ry h;obtain⟨i,j,rfl,rfl,hz,q⟩:=h;obtain⟨t,rfl⟩:=rx;obtain⟨t',rfl⟩:=ry;exact add_str (fun t' tk=>⟨.str (i++j),H,I.tok _,⟨_,rfl⟩,q⟩) hz
theorem jbt {x:V}{us:List Value}(r:Vals [x] us):∃u,us=[u]/\RelV x u:=by
 cases r with
 |cons r1 r2=>cases r2;exact⟨_,rfl,r1⟩
theorem jsK {x y:V}{us:List Value}(r:Vals [x,y] us):∃u w',us=[u,w']/\RelV x u/\RelV y w':=by
 cases r with
 |cons r1 r2=>
  cases r2 with
  |cons r3 r4=>cases r4;exact⟨_,_,rfl,r1,r3⟩
theorem call_int1:CallR X (.type "int") (fun xs H Q=>(∃i,xs=[.int i]/\Q (.int i) H)\/∃k,xs=[.bl k]/\Q (.int (if k then 1 else 0)) H):=by
 intro pins s σ H xs us Q I r h;rcases h with ⟨i,rfl,q⟩ | ⟨k,rfl,q⟩
 ·obtain⟨u,rfl,t,rfl⟩:=jbt r;exact call_int_int ⟨.int i,H,I,⟨_,rfl⟩,q⟩
 ·obtain⟨u,rfl,r1⟩:=jbt r;cases r1;exact call_int_bool ⟨.int (if k then 1 else 0),H,I.tok _,⟨_,rfl⟩,q⟩
end
end L2
namespace L2
open PySem PySem.Spec PyProof.Rows
section
variable {prog:Program}{w:World}{A:Around}{E:Value->Shared->Prop}{s:Shared}{K:PySem.W.Frag}{x dx C f:Addr}{mA:Str->Option Value}{name:Str}{v:Value}
end
section
variable {P:Program}{w:World}{H H':Hp}{h h':Heap}{a C dx:Addr}{fs fs':List (Str×V)}
end
section
variable {X:Cx}{pins:List (Addr×Obj)}{σ:St}{H:Hp}{s:Shared}{a C dx:Addr}{fs:List (Str×V)}{f:Str}{v:V}{A:Around}{E:Value->Shared->Prop}
end
section
variable {X:Cx}{o e value:Expr}{f:Str}{pos pos' tpos:Pos}{ta tv:TE}
end
section
variable {X:Cx}{pins:List (Addr×Obj)}{σ:St}{H:Hp}{s:Shared}{A:Around}{E:Value->Shared->Prop}{Q:Value->Shared->Prop}{c:Value}{b:Bool}
end
end L2
namespace L2
open PySem PySem.Spec PyProof.Rows
structure Room (k:Nat)(A:Around):Prop where
 hd:A.handled=none
 dp:A.depth + 3 * k + 5 < recursionLimit
 un:A.units + 16 * k + 200 < cLine
theorem Room.deeper {k:Nat}{A:Around}(r:Room (k + 1) A)(env:Env):Room k (A.deeper env):=
 ⟨r.hd,by have:=r.dp;show A.depth + 1 + 3 * k + 5 < _;omega,by have:=r.un;show A.units + 3 + 16 * k + 200 < _;omega⟩
theorem Room.depth {k:Nat}{A:Around}(r:Room k A):A.depth < recursionLimit:=by have:=r.dp;omega
theorem Room.units {k:Nat}{A:Around}(r:Room k A):A.units + 64 < cLine:=by have:=r.un;omega
noncomputable def jqd:TA:=fun _ H Q=>Q [] H
noncomputable def ji0 (ta:TE)(tr:TA):TA:=fun σ H Q=>ta σ H fun x H1=>tr σ H1 fun xs H2=>Q (x::xs) H2
section
variable {X:Cx}{e:Expr}{es:List Expr}{te:TE}{t:TA}{pos:Pos}
theorem ja9:PA X [] jqd:=fun _ _ _ _ H Q I h=>Calls.spliced_nil ⟨[],H,I,.nil,h⟩
theorem jau (ha:PE X e te)(hr:PA X es t)(hs:starEach (e::es) X.env=(false,eval e X.env)::starEach es X.env:=by rfl):PA X (e::es) (ji0 te t):=by
 intro pos pins s σ H Q I h;rw[hs];show wpAny _ _ (spliced ((false,eval e X.env)::backTo pos (starEach es X.env))) _ _ s;refine Calls.spliced_cons (thn (ha pins s σ H _ I h) fun u s1 hzz=>?_);obtain⟨x,H1,I1,r1,q1⟩:=hzz;exact thn (hr pos pins s1 σ H1 _ I1 q1) fun us s2 ⟨xs,H2,I2,r2,q2⟩=>⟨x::xs,H2,I2,.cons r1 r2,q2⟩
noncomputable def jt6 (t:TA):TE:=fun σ H Q=>t σ H fun xs H1=>xs.length<=sizeLine/\∀p,H1 p=none->Q (.ref p) (upd H1 p (.tup xs))
noncomputable def jt7 (t:TA):TE:=fun σ H Q=>t σ H fun xs H1=>xs.length<=sizeLine/\∀p,H1 p=none->Q (.ref p) (upd H1 p (.lst xs))
theorem jnr {x1}(h:PA X es t):PE X (.Tuple es x1 pos) (jt6 t):=by
 intro pins s σ H Q I hq;refine wpAny_Tuple_spliced (thn (h pos pins s σ H _ I hq) fun us s1 ⟨xs,H1,I1,r,z,q⟩=>⟨by rw[<-r.length];exact z,?_⟩)
 have hf:H1 s1.heap.objs.size=none:=I1.hok.fresh (ju7 _);refine⟨.ref s1.heap.objs.size,upd H1 s1.heap.objs.size (.tup xs),I1.laid (t':=s1.toks) (fun b u e=>ju2 _ e) (ju7 _) ?_,rfl,q _ hf⟩;exact⟨z,us,r,⟨_,ju4 _ rfl,rfl,_,rfl⟩⟩
theorem jqM (h:PA X es t):PE X (.List es pos) (jt7 t):=by
 intro pins s σ H Q I hq;refine wpAny_List_spliced (thn (h pos pins s σ H _ I hq) fun us s1 ⟨xs,H1,I1,r,z,q⟩=>⟨by rw[<-r.length];exact z,?_⟩)
 have hf:H1 s1.heap.objs.size=none:=I1.hok.fresh (ju7 _);refine⟨.ref s1.heap.objs.size,upd H1 s1.heap.objs.size (.lst xs),I1.laid (t':=s1.toks) (fun b u e=>ju2 _ e) (ju7 _) ?_,rfl,q _ hf⟩;exact⟨z,us,0,r,ju4 _ rfl⟩
end
noncomputable abbrev Sp:=List V->Hp->VK->XK->Prop
noncomputable abbrev CXT:=List Env->Hp->Shared->XK->Value->Shared->Prop
structure Env0 (P:Program)(w:World)(K:PySem.W.Frag)(mg:Str->Option Value)(base:Heap)(A:Around)(outer:List Env)(s:Shared)(H:Hp):Prop where
 frames:A.frames=some outer
 mod:Mod K mg base
 bs:∀b o,base.get? b=some o->s.heap.get? b=some o/\H b=none
 bsz:base.objs.size<=s.heap.objs.size
 funs:s.heap.FunFrames base outer
 frf:∀b∈frs outer,H b=none
 hok:HOk P w H s.heap
 bare:AllBare s.gens
inductive CE (outer:List Env) (P:Program) (w:World) (H:Hp) (s:Shared) (Q:VK) (u:Value) (s':Shared):Prop
 |mk (v:_) (H':_):(s'.os=s.os)->(AllBare s'.gens)->(Un (frs outer) [] H H' s.heap s'.heap)->(HOk P w H' s'.heap)->(RelV v u)->(Q v H')->CE outer P w H s Q u s'
noncomputable def CR (CX:CXT)(outer:List Env)(P:Program)(w:World)(H:Hp)(s:Shared)(Q:VK)(E:XK)(r:Result)(s':Shared):Prop:=
 match r with
 |.ok (.ret u)=>CE outer P w H s Q u s'
 |.ok _=>False
 |.error e=>CX outer H s E e s'
structure FnOk (P:Program)(w:World)(K:PySem.W.Frag)(mg:Str->Option Value)(base:Heap)(CX:CXT)(k:Nat)(f:Addr)(fd:FuncData)(ps:List Str)(sp:Sp):Prop where
 len:∀vs H Q E,sp vs H Q E->vs.length=ps.length
 run:∀(A:Around) (outer:List Env) (s:Shared) (H:Hp) (args:Args) (us:List Value) (vs:List V) (Q:VK) (E:XK),Room k A->Env0 P w K mg base A outer s H->BindsTo s fd args (ps.zip us)->Vals vs us->sp vs H Q E ->
  codeAny (model P w) A (.call (.ref f) args) (CR CX outer P w H s Q E) s
section
variable {X:Cx}{pins:List (Addr×Obj)}{σ:St}{H:Hp}{s s':Shared}
theorem Inv.env0 (I:Inv X pins σ H s):Env0 X.prog X.w X.K X.mg X.base X.A X.stack s H:=
 ⟨I.ok.frames,I.ok.mod,I.bs,jva I.ok.bsz I.sz,I.stack,I.stkFree,I.hok,I.bare⟩
theorem Inv.after {Q:VK}{u:Value}(I:Inv X pins σ H s)(h:CE X.stack X.prog X.w H s Q u s'):EP X pins σ Q u s':=by
 obtain⟨v,H',os,bare,un,hok,r,q⟩:=h;obtain⟨hh,g,d,t,os'⟩:=s';obtain rfl:os'=s.os:=os;exact⟨v,H',I.call (h':=hh) (g':=g) (d':=d) (t':=t) (ch:=[]) un hok bare (fun b z=>absurd z (by simp)),r,q⟩
end
noncomputable def Binds (K:PySem.W.Frag)(fd:FuncData)(ps:List Str)(ds:List Value):Prop:=
 ∀(s:Shared) (us:List Value),K.In s.heap->(us++ds).length=ps.length->BindsTo s fd ⟨us,[]⟩ (ps.zip (us++ds))
theorem Binds.all {K:PySem.W.Frag}{fd:FuncData}{ps:List Str}(h:∀us:List Value,us.length=ps.length->bindArgs fd ⟨us,[]⟩=pure (ps.zip us)):Binds K fd ps []:=fun s us _ hl=>by
 rw[juQ]at hl ⊢;exact .of_eq (h us hl)
section
variable {X:Cx}{CX:CXT}{k:Nat}{f C:Addr}{fd:FuncData}{ps:List Str}{sp:Sp}{dvs:List V}{ds:List Value}{E:XK}{x m:Str}{p pos apos:Pos}{e o:Expr}{es:List Expr}{ta:TE}{t:TA}
end
section
variable {X:Cx}{CX:CXT}{k:Nat}{f C:Addr}{fd:FuncData}{ps ks:List Str}{sp:Sp}{E:XK}{x m:Str}{p pos apos kpos:Pos}{e o:Expr}{es:List Expr}{kws:List Keyword}{te ta:TE}{t tk:TA}{nm:Option Str}
variable {g:List Value->List Value->List Value}{gV:List V->List V->List V}
end
structure FnScope (N P:List Str)(sc:Scope):Prop where
 kind:sc.kind=.function
 co:sc.isCoroutine=false
 gen:sc.isGenerator=false
 nd:N.Nodup
 pre:N.take P.length=P
 par:∀x∈P,sc.names.lookup x=some .local\/sc.names.lookup x=some .cell
 nofree:∀y∈sc.names,y.2≠.free
theorem jeJ {kindOf:Str->Option NameKind}{x:Str}:∀{binds:List (Str×Value)}{m:Str->Option Value},(∀v,(x,v) ∉ binds)->bindL kindOf binds m x=m x
 |[],_,_=>rfl
 |(n,v)::r,m,h=>by
  unfold bindL;rw[jeJ fun w hw=>h w (jus _ hw)];split
  ·have:x≠n:=by rintro rfl;exact h v jut
   simp[this]
  ·rfl
theorem jeK {kindOf:Str->Option NameKind}{x:Str}:∀{binds:List (Str×Value)}{m:Str->Option Value},(∀v,(x,v) ∉ binds)->bindC kindOf binds m x=m x
 |[],_,_=>rfl
 |(n,v)::r,m,h=>by
  unfold bindC;rw[jeK fun w hw=>h w (jus _ hw)];split
  ·rfl
  ·have:x≠n:=by rintro rfl;exact h v jut
   simp[this]
theorem jeL {kindOf:Str->Option NameKind}{x:Str}{v:Value}:∀{P:List Str}{vs:List Value}{i:Nat}{m:Str->Option Value},P.Nodup->P[i]?=some x->vs[i]?=some v->kindOf x=some .local ->
  bindL kindOf (P.zip vs) m x=some v
 |[],_,_,_,_,h,_,_=>by simp at h
 |_::_,[],_,_,_,_,h,_=>by simp at h
 |p::P,w::vs,0,m,nd,h1,h2,hk=>by
  simp at h1 h2;subst h1;subst h2;show bindL kindOf ((p,w)::P.zip vs) m p=_;unfold bindL;rw[jeJ fun v hv=>(List.nodup_cons.mp nd).1 (List.of_mem_zip hv).1,if_pos hk];simp
 |p::P,w::vs,i + 1,m,nd,h1,h2,hk=>by
  show bindL kindOf ((p,w)::P.zip vs) m x=_;unfold bindL;exact jeL (i:=i) (List.nodup_cons.mp nd).2 (by simpa using h1) (by simpa using h2) hk
theorem jeM {kindOf:Str->Option NameKind}{x:Str}{v:Value}:∀{P:List Str}{vs:List Value}{i:Nat}{m:Str->Option Value},P.Nodup->P[i]?=some x->vs[i]?=some v->kindOf x≠some .local ->
  bindC kindOf (P.zip vs) m x=some v
 |[],_,_,_,_,h,_,_=>by simp at h
 |_::_,[],_,_,_,_,h,_=>by simp at h
 |p::P,w::vs,0,m,nd,h1,h2,hk=>by
  simp at h1 h2;subst h1;subst h2;show bindC kindOf ((p,w)::P.zip vs) m p=_;unfold bindC;rw[jeK fun v hv=>(List.nodup_cons.mp nd).1 (List.of_mem_zip hv).1,if_neg hk];simp
 |p::P,w::vs,i + 1,m,nd,h1,h2,hk=>by
  show bindC kindOf ((p,w)::P.zip vs) m x=_;unfold bindC;exact jeM (i:=i) (List.nodup_cons.mp nd).2 (by simpa using h1) (by simpa using h2) hk
noncomputable def start (N:List Str)(vs:List V):St:=vs.map some++List.replicate (N.length - vs.length) none
noncomputable def jhH (CX:CXT)(P:Program)(w:World)(K:PySem.W.Frag)(mg:Str->Option Value)(base:Heap)(N:List Str)(qual:Str)(scope:Scope)(f:Addr)(cd:Value)(A:Around)(outer:List Env)(s:Shared)(H:Hp)(E:XK):Cx where
 prog:=P
 w:=w
 K:=K
 mg:=mg
 base:=base
 A:=A.deeper (envOfC qual scope s.heap.objs.size f cd)
 N:=N
 s₀:=s
 H₀:=H
 env:=envOfC qual scope s.heap.objs.size f cd
 outer:=outer
 stack:=envOfC qual scope s.heap.objs.size f cd::outer
 ex:=[]
 calm:=true
 fn:=fun _=>true
 pn:=[]
 xe:=fun e s'=>wpAny (model P w) (A.deeper (envOfC qual scope s.heap.objs.size f cd)) (leaving (envOfC qual scope s.heap.objs.size f cd) e) (fun _ s''=>CX outer H s E e s'') (fun e' s''=>CX outer H s E e' s'') s'
theorem jgL {sc:Scope}{n:Nat}{x:Str}(h:sc.names.lookup x=some .cell):∃c,(cellsFrom n sc.names []).lookup x=some c:=by
 have q:=PySem.W.cellsFrom_some sc.names n [] (.inl h);exact Option.isSome_iff_exists.mp q
theorem ji1 {CX:CXT}{P:Program}{w:World}{K:PySem.W.Frag}{mg:Str->Option Value}{base:Heap}{N ps:List Str}{qual:Str}{scope:Scope}{f:Addr}{cd:Value}{A:Around}{outer:List Env}{s s1:Shared}{H:Hp}{E:XK}{us:List Value}{vs:List V}
  (S:FnScope N ps scope) (hd:A.handled=none) (e0:Env0 P w K mg base A outer s H) (hl:vs.length=ps.length) (r:Vals vs us)
  (x:InCallC s s.heap.objs.size (bindL (envOfC qual scope s.heap.objs.size f cd).kindOf (ps.zip us) fun _=>none) (cellsFrom (s.heap.objs.size + 1) scope.names []) (bindC (envOfC qual scope s.heap.objs.size f cd).kindOf (ps.zip us) fun _=>none) s1) :
  Inv (jhH CX P w K mg base N qual scope f cd A outer s H E) [] (start N vs) H s1:=by
 have hpl:ps.length<=N.length:=by have:=congrArg List.length S.pre;rw[List.length_take]at this;omega
 obtain⟨h1,tk,rfl,hk⟩:=x.done;have noA:∀b:Addr,b ∉ (jhH CX P w K mg base N qual scope f cd A outer s H E).ex:=fun b z=>absurd (show b∈([]:List Addr)from z) (by simp)
 refine⟨⟨e0.mod,S.kind,rfl,rfl,ju7 _,fun y z c h1 h2=>?_,fun y hy=>?_,fun y c _ h=>?_,fun _=>hd,Around.frames_deeper e0.frames,.inr ⟨rfl,rfl⟩,fun b z=>absurd z (noA b),e0.bs,e0.bsz,fun b _ _=>noA b,fun b z=>absurd z (noA b),e0.funs,e0.frf⟩,
  rfl,e0.bare,Un.kept hk,⟨_,x.toInCall.ns,fun i y v h1 h2 h3=>?_⟩,fun y c h=>⟨_,x.cell y c h⟩,e0.hok.fresh (ju7 _),fun y c h=>?_,fun p hp=>absurd (show p∈([]:List (Addr×Obj))from hp) (by simp),e0.hok.kept hk,?_⟩
 ·exact name_of_addr x.apart (PySem.mem_of_lookup h1) (PySem.mem_of_lookup h2)
 ·have hy:scope.names.lookup y=some .cell\/scope.names.lookup y=some .free:=hy;rcases hy with hy | hy
  ·exact jgL hy
  ·exact absurd rfl (S.nofree _ (PySem.mem_of_lookup hy))
 ·exact Nat.le_of_lt (x.above y c (PySem.mem_of_lookup h))
 ·have hi:i < vs.length:=by
   unfold start at h2;by_cases hi:i < vs.length
   ·exact hi
   ·rw[juE (by simpa using hi)]at h2
    rw[List.getElem?_replicate]at h2;split at h2 <;> cases h2
  have ha:vs[i]?=some v:=by
   unfold start at h2;rw[juI (by simpa using hi),jux]at h2
   cases e:vs[i]? with
   |none=>rw[e]at h2;cases h2
   |some a=>rw[e]at h2;cases h2;rfl
  obtain⟨u,hu,rv⟩:=r.get ha;have hp:ps[i]?=some y:=by
   rw[<-S.pre,List.getElem?_take_of_lt (by omega)];exact h1
  have ndP:ps.Nodup:=by rw[<-S.pre];exact S.nd.sublist (List.take_sublist _ _)
  refine⟨u,rv,?_⟩;rcases S.par y (juD hp)with k | k
  ·exact .inl ⟨k,jeL ndP hp hu k⟩
  ·obtain⟨c,e⟩:=jgL (n:=s.heap.objs.size + 1) k;refine .inr ⟨.inl k,c,e,?_⟩;have q:=x.cell y c e;rw[jeM ndP hp hu (by show scope.names.lookup y≠_;rw[k];decide)]at q
   exact q
 ·exact e0.hok.fresh (Nat.le_of_lt (x.above y c (PySem.mem_of_lookup h)))
 ·unfold start;show _=N.length;rw[juF,juA,List.length_replicate];omega
theorem jsL {CX:CXT}{P:Program}{w:World}{K:PySem.W.Frag}{mg:Str->Option Value}{base:Heap}{k:Nat}{f:Addr}{name qual:Str}{params:Arguments}{body:List Stmt}{scope:Scope}{dV kV doc pm cdv ct oc:Value}{an od:Option Addr}
  {osl:Array (Option Value)}{N ps:List Str}{sp:Sp} (lk:K.lookup f=some ⟨oc,od,.func (PySem.W.fnOf name qual params body scope dV kV doc pm an cdv ct),osl⟩) (hcd:PySem.W.codeIn K cdv qual=true) (S:FnScope N ps scope)
  (len:∀vs H Q E,sp vs H Q E->vs.length=ps.length)
  (hbody:∀(A:Around) (outer:List Env) (s:Shared) (H:Hp) (vs:List V) (Q:VK) (E:XK),Room k (A.deeper (envOfC qual scope s.heap.objs.size f cdv))->sp vs H Q E ->
   ∃t,PSs (jhH CX P w K mg base N qual scope f cdv A outer s H E) body t/\t { nx:=fun _ H'=>Q .non H',rt:=Q } (start N vs) H) :
  FnOk P w K mg base CX (k + 1) f (PySem.W.fnOf name qual params body scope dV kV doc pm an cdv ct) ps sp:=by
 refine⟨len,fun A outer s H args us vs Q E hr e0 hb r hsp=>?_⟩;have hl:=len _ _ _ _ hsp;have KX:K.In s.heap:=e0.mod.kin.keeps fun b o e=>(e0.bs b o e).1;have lim:s.heap.NoLimit:=e0.mod.nolimit.keeps fun b o e=>(e0.bs b o e).1;have hkind:∀y∈ps.zip us,scope.names.lookup y.1=some .local\/(scope.names.lookup y.1=some .cell/\((cellsFrom (s.heap.objs.size + 1) scope.names []).lookup y.1).isSome=true):=fun ⟨n,v⟩ hy=>by
  rcases S.par n (List.of_mem_zip hy).1 with q | q
  ·exact .inl q
  ·exact .inr ⟨q,PySem.W.cellsFrom_some _ _ _ (.inl q)⟩
 refine codeAny_call_function hr.depth (KX _ _ lk) rfl S.co S.gen rfl (PySem.W.codeRec_of KX hcd) (hb _ _ _ _ ?_);refine wpAny_newFunctionEnv_cells S.kind hkind fun env he s1 x=>?_;subst he;refine⟨lim.keeps x.toInCall.keep,codeAny_func ?_⟩;obtain⟨t,ht,hq⟩:=hbody A outer s H vs Q E (hr.deeper _) hsp;have I:Inv (jhH CX P w K mg base N qual scope f cdv A outer s H E) [] (start N vs) H s1:=ji1 S hr.hd e0 hl r x;refine ju0 (ht [] s1 (start N vs) H _ I hq) (fun fl s' hs=>?_) fun e s' hs=>hs;have fin:∀{σ':St}{H':Hp}{v:V}{u:Value},Inv (jhH CX P w K mg base N qual scope f cdv A outer s H E) [] σ' H' s'->RelV v u->Q v H'->CE outer P w H s Q u s':=
  fun {σ' H' v u} J rv q=>⟨v,H',J.os,J.bare,J.base,J.hok,rv,q⟩
 cases fl with
 |ret u=>
  obtain⟨v,σ',H',J,rv,q⟩:=hs;exact fin J rv q
 |next=>
  obtain⟨σ',H',J,q⟩:=hs;exact fin (v:=V.non) (u:=Value.none) J rfl q
 |brk=>
  obtain⟨_,_,_,q⟩:=hs;exact False.elim q
 |cont=>
  obtain⟨_,_,_,q⟩:=hs;exact False.elim q
end L2
namespace L2
open PySem PySem.Spec PyProof.Rows
section
variable {X:Cx}{x:Str}{p pos:Pos}{e:Expr}{es:List Expr}{t:TA}{id T:String}{r:List V->Hp->VK->Prop}
noncomputable def tCB (r:List V->Hp->VK->Prop)(t:TA):TE:=fun σ H Q=>t σ H fun vs H1=>r vs H1 Q
theorem jbN (hc:CallR X (.builtin id) r)(hg:Gl X x)(hm:X.mg x=none)(hv:bootBuiltins x=some (.builtin id))(ha:PA X (e::es) t)(hn:x≠"__name__":=by decide)(hdb:(x == ("__debug__":Str))=false:=by decide)
  (he:starEach (e::es) X.env=(false,eval e X.env)::starEach es X.env:=by rfl) (hpl:(backTo pos (starEach es X.env)).any (·.1)=false:=by rfl):PE X (.Call (.Name x p) (e::es) [] pos) (tCB r t):=by
 intro pins s σ H Q I h;refine wpAny_Call_Name_kw (jeI I hg hm hv ?_ hn hdb);exact PyProof.Rows.callWith_builtin1 (thn (ha pos pins s σ H _ I h) fun us s1 ⟨vs,H1,I1,r1,q1⟩=>hc pins s1 σ H1 vs us Q I1 r1 q1) he hpl
theorem jbf (hc:CallR X (.type T) r)(hg:Gl X x)(hm:X.mg x=none)(hv:bootBuiltins x=some (.type T))(ha:PA X (e::es) t)(hn:x≠"__name__":=by decide)(hdb:(x == ("__debug__":Str))=false:=by decide)
  (he:starEach (e::es) X.env=(false,eval e X.env)::starEach es X.env:=by rfl) (hpl:(backTo pos (starEach es X.env)).any (·.1)=false:=by rfl):PE X (.Call (.Name x p) (e::es) [] pos) (tCB r t):=by
 intro pins s σ H Q I h;refine wpAny_Call_Name_kw (jeI I hg hm hv ?_ hn hdb);exact PyProof.Rows.callWith_type1 (thn (ha pos pins s σ H _ I h) fun us s1 ⟨vs,H1,I1,r1,q1⟩=>hc pins s1 σ H1 vs us Q I1 r1 q1) he hpl
end
end L2
namespace HT
open PySem PyProof.Rows
noncomputable def lexLt:List Int->List Int->Bool
 |[],[]=>false
 |[],_::_=>true
 |_::_,[]=>false
 |x::xs,y::ys=>if x=y then lexLt xs ys else decide (x < y)
theorem jdn (x y:Int)(xs ys:List Int):lexLt (x::xs) (y::ys)=if x=y then lexLt xs ys else decide (x < y):=rfl
theorem jdP:lexLt [] []=false:=rfl
theorem jdc (y:Int)(ys:List Int):lexLt [] (y::ys)=true:=rfl
theorem jdd (x:Int)(xs:List Int):lexLt (x::xs) []=false:=rfl
theorem jlo (A:Around)(s:Shared)(a:Int)(t:Tok)(c:Int)(u:Tok):∃e,SeqAt.EqAt A s (.int a t) (.int c u) e/\(e=true↔a=c):=
 ⟨(a == c),SeqAt.EqAt.int_int a t c u,by simp⟩
theorem jlp (A:Around)(s:Shared)(a:Int)(t:Tok)(c:Int)(u:Tok)(prog:Program)(w:World)(E:Value->Shared->Prop)(Q:Value->Shared->Prop)(h:Q (.bool (decide (a < c))) s) :
  wpAny (model prog w) A (richCompare .Lt (.int a t) (.int c u)) Q E s:=
 (PyProof.Rows.lt_int h:wpAny (model prog w) A (compareOp .Lt (.int a t) (.int c u)) Q E s)
section
open PySem.SeqAt
open PySem.AutoSeq1 (wpAny_loadPart')
open PySem.MeetsSeq PySem.MeetsSeq2 PySem.MeetsSeq3
theorem jdQ (l b:Addr)(items items2:Array Value)(n n2:Nat)(dd dd2:Option Addr)(sl sl2:Array (Option Value))(ns ms:List Int)(hi:IntsAre items.toList ns)(hj:IntsAre items2.toList ms) :
  Meets (Builtin.«tuple.__lt__» ⟨[.ref l,.ref b],[]⟩)
   (fun _ R s=>s.heap.get? l=some { cls:=.type "tuple",dict:=dd,data:=.seq items n,slots:=sl }/\s.heap.get? b=some { cls:=.type "tuple",dict:=dd2,data:=.seq items2 n2,slots:=sl2 } /\
    R (.ok (.ret (.bool (lexLt ns ms)))) s):=
 .of_wp fun prog w A R s h=>by
  obtain⟨hp,g,d,tk,os⟩:=s;obtain⟨hl,hb,h⟩:=h;have f2:=AutoSeq1.sub_tuple_tuple;have z1:items.size=ns.length:=by rw[<-hi.length];simp
  have z2:items2.size=ms.length:=by rw[<-hj.length];simp
  wp_walk using wpAny_loadPart' hl,wpAny_loadPart' hb,wpAny_forIn_list _ (fun jb9 b s'=>b.1=none/\s'=⟨hp,g,d,tk,os⟩/\∃(vs ws:List Value) (ns' ms':List Int),jb9=vs.zip ws /\
   IntsAre vs ns'/\IntsAre ws ms'/\ns'.length + items2.size=ms'.length + items.size/\R (.ok (.ret (.bool (lexLt ns' ms')))) ⟨hp,g,d,tk,os⟩) _
  case turn=>
   rintro⟨y,x⟩ jb9 b s' ⟨hb',rfl,vs,ws,ns',ms',hz,hvi,hwi,hlen,hR⟩;cases hvi with
   |nil=>rw[List.zip_nil_left]at hz;cases hz
   |cons a t hvi'=>
    cases hwi with
    |nil=>rw[List.zip_nil_right]at hz;cases hz
    |cons c u hwi'=>
     rw[List.zip_cons_cons]at hz;injection hz with hyx hrest
     injection hyx with hy hx
     subst hy hx;rw[jdn]at hR;simp only[juB]at hlen;obtain⟨e,he,hiff⟩:=jlo A.in1 ⟨hp,g,d,tk,os⟩ a t c u;refine juT (he prog w _ _ ?_);cases e with
     |true=>
      rw[if_pos (hiff.mp rfl)]at hR;wp_walk;exact⟨rfl,rfl,_,_,_,_,hrest,hvi',hwi',by omega,hR⟩
     |false=>
      rw[if_neg (fun q=>absurd (hiff.mpr q) jve)]at hR;have hri:=jlp A.in1 ⟨hp,g,d,tk,os⟩ a t c u prog w;wp_walk using hri;exact⟨_,rfl,by simpa using hR⟩
  case fin=>
   rintro⟨b1,b2⟩ s' ⟨hb',rfl,vs,ws,ns',ms',hz,hvi,hwi,hlen,hR⟩;simp only at hb';subst hb';have hv:lexLt ns' ms'=decide (items.size < items2.size):=by
    cases hvi with
    |nil=>
     cases hwi with
     |nil=>
      simp only[juN]at hlen;rw[jdP];exact(decide_eq_false (by omega)).symm
     |cons c u hw=>
      simp only[juN,juB]at hlen;rw[jdc];exact(decide_eq_true (by omega)).symm
    |cons a t hv=>
     cases hwi with
     |nil=>
      simp only[juN,juB]at hlen;rw[jdd];exact(decide_eq_false (by omega)).symm
     |cons c u hw=>
      rw[List.zip_cons_cons]at hz;cases hz
   rw[hv]at hR;wp_walk;exact⟨_,rfl,by simpa[Builtin.Tuple.tupleCompareSizes] using hR⟩
  case h=>
   exact⟨rfl,rfl,items.toList,items2.toList,ns,ms,rfl,hi,hj,by omega,h⟩
end
section
variable {prog:Program}{w:World}{A:Around}{E:Value->Shared->Prop}{s:Shared}
theorem jhI {l b:Addr}{items items2:Array Value}{ns ms:List Int}{Q:Value->Shared->Prop}(hl:IsTup s.heap l items)(hb:IsTup s.heap b items2)(hi:IntsAre items.toList ns)(hj:IntsAre items2.toList ms)
  (hu:A.units < cLine) (h:Q (.bool (lexLt ns ms)) s):wpAny (model prog w) A (compareOp .Lt (.ref l) (.ref b)) Q E s:=by
 obtain⟨⟨cls,dd,data,sl⟩,ho,hc,n,hd⟩:=id hl;obtain⟨⟨cls2,dd2,data2,sl2⟩,ho2,hc2,n2,hd2⟩:=id hb;simp only at hc hd hc2 hd2;subst hc hd hc2 hd2;exact richCompare_meets_room (op:=.Lt) ⟨_,ho,rfl⟩ ⟨_,ho2,rfl⟩ PySem.F.slot_tuple_lt PySem.F.entry_tuple_lt (PySem.F.args_tuple_lt_2 _ _) (jdQ l b items items2 n n2 dd dd2 sl sl2 ns ms hi hj)
  ⟨ho,ho2,show Value.bool (lexLt ns ms)≠Value.notImplemented/\Q (.bool (lexLt ns ms)) s from⟨(fun x=>nomatch x),h⟩⟩ hu
theorem joc {t b:Addr}{vs ws:List Value}{Q:Value->Shared->Prop}(ht:IsTup s.heap t vs.toArray)(hb:IsTup s.heap b ws.toArray)(hv:vs≠[])
  (h1:ws=[]->Q (.ref t) s) (h2:ws≠[]->Q (.ref s.heap.objs.size) { s with heap:=s.heap.push { cls:=.type "tuple",data:=.seq (vs++ws).toArray } })
  (hsz:vs.length + ws.length<=sizeLine):wpAny (model prog w) A (binaryOp .Add (.ref t) (.ref b)) Q E s:=by
 obtain⟨⟨cls,dd,data,sl⟩,ho,hc,n,hd⟩:=id ht;obtain⟨⟨cls2,dd2,data2,sl2⟩,ho2,hc2,n2,hd2⟩:=id hb;simp only at hc hd hc2 hd2;subst hc hd hc2 hd2;have e:vs.toArray++ws.toArray=(vs++ws).toArray:=by simp
 by_cases hw:ws=[]
 ·exact concat_meets ⟨_,ho,rfl⟩ ⟨_,ho2,rfl⟩ noFill_tuple_add seq_tuple_add PySem.F.slot_tuple_add PySem.F.entry_tuple_add (PySem.F.args_tuple_add_2 _ _)
   (tuple_addW1 t b vs.toArray ws.toArray n n2 dd dd2 sl sl2 (by simpa using hv) (by simp[hw])) ⟨ho,ho2,h1 hw⟩
 ·refine concat_meets ⟨_,ho,rfl⟩ ⟨_,ho2,rfl⟩ noFill_tuple_add seq_tuple_add PySem.F.slot_tuple_add PySem.F.entry_tuple_add (PySem.F.args_tuple_add_2 _ _)
   (tuple_addW2 t b vs.toArray ws.toArray n n2 dd dd2 sl sl2 (by simpa using hv) (by simpa using hw) (by rw[juv,juv];exact hsz)) ⟨ho,ho2,?_⟩
  rw[e];exact h2 hw
noncomputable def sIx (n d:Nat):Option Int->Nat
 |none=>d
 |some v=>if v < 0 then (v + (n:Int)).toNat else min v.toNat n
theorem jqN (n d:Nat)(hd:d<=n)(o:Option Int):sIx n d o<=n:=by
 cases o with
 |none=>exact hd
 |some v=>
  show (if v < 0 then (v + (n:Int)).toNat else min v.toNat n)<=n;by_cases hv:v < 0
  ·rw[if_pos hv];omega
  ·rw[if_neg hv];exact Nat.min_le_right _ _
theorem ji2 (v:Int)(n d:Nat):(if v < 0 then max (v + (n:Int)) 0 else min v (n:Int))=((sIx n d (some v):Nat):Int):=by
 show (if v < 0 then max (v + (n:Int)) 0 else min v (n:Int))=(((if v < 0 then (v + (n:Int)).toNat else min v.toNat n):Nat):Int);by_cases hv:v < 0
 ·simp only[if_pos hv];omega
 ·simp only[if_neg hv];omega
theorem jhJ (lo hi:Option Int)(n:Nat):Builtin.Slice.sliceAdjust lo hi 1 (n:Int)=(((sIx n 0 lo:Nat):Int),((sIx n n hi:Nat):Int)):=by
 have h1:¬ ((1:Int) < 0):=by omega
 unfold Builtin.Slice.sliceAdjust;simp only[h1,if_false];refine Prod.ext ?_ ?_
 ·cases lo with
  |none=>rfl
  |some v=>exact ji2 v n 0
 ·cases hi with
  |none=>rfl
  |some v=>exact ji2 v n n
theorem jhK (i j:Nat):Builtin.Slice.slicePlaces (i:Int) (j:Int) 1=j - i:=by
 unfold Builtin.Slice.slicePlaces;have h1:(1:Int) > 0:=by omega
 simp only[h1,if_true,Int.ediv_one];split <;> omega
theorem jdo {v:Value}{o:Option Int}{Q:Option Int->Shared->Prop}(p:IsPart v o)(h:Q o s):wpAny (model prog w) A (Builtin.Slice.slicePartIndex v) Q E s:=by
 cases p with
 |none=>exact slicePart_none h
 |int i t=>exact slicePart_int h
theorem jbA {sl:Addr}{vl vu:Value}{lo hi:Option Int}{n:Nat}{Q:Int×Int×Nat->Shared->Prop}(hs:s.heap.IsSliceOf sl vl vu .none)(pl:IsPart vl lo)(pu:IsPart vu hi)
  (h:Q (((sIx n 0 lo:Nat):Int),1,sIx n n hi - sIx n 0 lo) s):wpAny (model prog w) A (Builtin.Slice.sliceApplied (.ref sl) (pure (n:Int))) Q E s:=by
 obtain⟨os,hos,hcs,hds⟩:=id hs;unfold Builtin.Slice.sliceApplied Builtin.Slice.sliceFields;refine juT (juT (juZ hos hds (x:=vl) rfl (juT (juZ hos hds (x:=vu) rfl (juT (juZ hos hds (x:=.none) rfl (juU ?_)))))));refine juT (slicePart_none ?_);show wpAny _ _ (if ((1:Int) == 0)=true then _ else _) _ _ s;rw[if_neg (by decide)]
 refine juT (jdo pl (juT (jdo pu (juT (juU ?_)))));show wpAny _ _ (match Builtin.Slice.sliceAdjust lo hi 1 (n:Int)with | (lo,hi)=>pure (lo,(1:Int),Builtin.Slice.slicePlaces lo hi 1)) _ _ s
 rw[jhJ lo hi n];show wpAny _ _ (pure (((sIx n 0 lo:Nat):Int),(1:Int),Builtin.Slice.slicePlaces ((sIx n 0 lo:Nat):Int) ((sIx n n hi:Nat):Int) 1)) _ _ s;rw[jhK];exact juU h
theorem jlq (xs:Array Value)(i k:Nat):((List.range k).filterMap fun (m:Nat)=>xs[((i:Int) + (m:Int) * 1).toNat]?).toArray=((xs.toList.drop i).take k).toArray:=by
 have e:(fun (m:Nat)=>xs[((i:Int) + (m:Int) * 1).toNat]?)=fun m=>xs[i + m]?:=by
  funext m
  have:((i:Int) + (m:Int) * 1).toNat=i + m:=by omega
  rw[this]
 rw[e];have:=pick_run xs i k;rw[List.filterMap_map]at this;have e2:((fun x=>xs[x]?) ∘ fun x=>i + x)=fun m=>xs[i + m]?:=rfl;rw[e2]at this;rw[this]
theorem jcq {t sl:Addr}{items:Array Value}{vl vu:Value}{lo hi:Option Int}{Q:Value->Shared->Prop}(ht:IsTup s.heap t items)(hs:s.heap.IsSliceOf sl vl vu .none)(pl:IsPart vl lo)(pu:IsPart vu hi)
  (hw:¬ (sIx items.size 0 lo=0/\sIx items.size items.size hi=items.size))
  (h:Q (.ref s.heap.objs.size) { s with heap:=s.heap.push { cls:=.type "tuple",data:=.seq ((items.toList.drop (sIx items.size 0 lo)).take (sIx items.size items.size hi - sIx items.size 0 lo)).toArray } })
  (hsz:items.size<=sizeLine):wpAny (model prog w) A (getItem (.ref t) (.ref sl)) Q E s:=by
 have htake:sizeOk (.seq ((items.toList.drop (sIx items.size 0 lo)).take (sIx items.size items.size hi - sIx items.size 0 lo)).toArray):=by
  show ((items.toList.drop (sIx items.size 0 lo)).take (sIx items.size items.size hi - sIx items.size 0 lo)).toArray.size<=sizeLine;rw[juv,List.length_take,List.length_drop,Array.length_toList];exact jva (Nat.min_le_right _ _) (jva (Nat.sub_le _ _) hsz)
 have hj:sIx items.size items.size hi<=items.size:=jqN _ _ (ju7 _) hi;obtain⟨os,hos,hcs,hds⟩:=id hs;have hTs:s.TypeIs (.ref sl) "slice":=⟨os,hos,hcs⟩;unfold getItem;try with_reducible refine juY ?_
 first | refine juT (juU ?_) | skip
 refine juT (wpAny_sequenceKey ht.typeIs (by decide) ?_)
 refine juT (wpAny_callSpecial?_slot (name:=Str.ofString "__getitem__") ht.typeIs PyProof.Rows.slot_tuple_getitem
  (wpAny_call_entry PyProof.Rows.slot_tuple_getitem ht.typeIs entry_tuple_getitem ?_ (args_tuple_getitem _ _)))
 show wpAny _ _ (Builtin.Tuple.tupleItemsOf (.ref t) >>= _) _ _ s;refine juT (tupleItemsOf_ ht ?_);refine juT (wpAny_typeOf hTs ?_);rw[if_pos (by decide)]
 refine juT (jbA hs pl pu ?_);have hno:¬ ((((sIx items.size 0 lo:Nat):Int) == 0 && (1:Int) == 1 && (sIx items.size items.size hi - sIx items.size 0 lo) == items.size)=true):=by
  intro q;rw[jvc,jvc]at q;have q1:((sIx items.size 0 lo:Nat):Int)=0:=eq_of_beq q.1.1;have q2:sIx items.size items.size hi - sIx items.size 0 lo=items.size:=eq_of_beq q.2;exact hw ⟨by omega,by omega⟩
 show wpAny _ _ (if (((sIx items.size 0 lo:Nat):Int) == 0 && (1:Int) == 1 && (sIx items.size items.size hi - sIx items.size 0 lo) == items.size)=true then _ else _) _ _ s;rw[if_neg hno,jlq];first
  |exact juT (m:=Builtin.Tuple.tupleExact _) (juX (juU ⟨_,rfl,juU h⟩) htake)
  |exact juT (m:=Builtin.Tuple.tupleExact _) (juX (juT (juU (juU ⟨_,rfl,juU h⟩))) htake)
  |exact juT (juT (m:=Builtin.Tuple.tupleExact _) (juX (juU (juU ⟨_,rfl,juU h⟩)) htake))
  |exact juT (juT (m:=Builtin.Tuple.tupleExact _) (juX (juU ⟨_,rfl,juU h⟩) htake))
end
end HT
namespace L2
open PySem PySem.Spec PyProof.Rows
noncomputable abbrev TO:=St->Hp->(Option Int->Hp->Prop)->Prop
noncomputable def PO (X:Cx)(e:Option Expr)(t:TO):Prop:=
 ∀(pins:List (Addr×Obj)) (s:Shared) (σ:St) (H:Hp) (Q:Option Int->Hp->Prop),Inv X pins σ H s->t σ H Q ->
  wpAny (model X.prog X.w) X.A (evalPart e X.env) (fun u s'=>∃o H',Inv X pins σ H' s'/\IsPart u o/\Q o H') X.xe s
noncomputable def jod:TO:=fun _ H Q=>Q none H
noncomputable def jsM (t:TE):TO:=fun σ H Q=>t σ H fun x H1=>∃i,x=.int i/\Q (some i) H1
theorem jdp {ns:List Int}:∀{us:List Value},Vals (ns.map V.int) us->IntsAre us ns:=by
 induction ns with
 |nil=>intro us r;rw[List.map_nil]at r;cases r;exact .nil
 |cons n ns ih=>
  intro us r;rw[juy]at r;cases r with
  |cons r1 r2=>
   obtain⟨t,e⟩:=r1;subst e;exact .cons n t (ih r2)
section
variable {X:Cx}{e:Expr}{te:TE}{lo hi:Option Expr}{tl th:TO}{pos p2:Pos}
theorem joe:PO X none jod:=by
 intro pins s σ H Q I h;rw[evalPart_none];exact juU ⟨none,H,I,.none,h⟩
theorem jof (h:PE X e te):PO X (some e) (jsM te):=by
 intro pins s σ H Q I hw;rw[evalPart_some];refine thn (h pins s σ H _ I hw) fun u s1 hzz=>?_;obtain⟨x,H1,I1,r1,q1⟩:=hzz;obtain⟨i,rfl,q⟩:=q1;obtain⟨t,rfl⟩:=r1;exact⟨some i,H1,I1,.int i t,q⟩
noncomputable def SlR (X:Cx)(r:V->Option Int->Option Int->Hp->VK->Prop):Prop:=
 ∀(pins:List (Addr×Obj)) (s:Shared) (σ:St) (H:Hp) (x:V) (v vl vu:Value) (lo hi:Option Int) (sl:Addr) (Q:VK),Inv X pins σ H s->RelV x v->s.heap.IsSliceOf sl vl vu .none->IsPart vl lo->IsPart vu hi->r x lo hi H Q ->
  ∃T id,typeLookup (.type T) "__getitem__"=pure (some (.builtin id))/\s.TypeIs v T/\wpAny (model X.prog X.w) X.A (getItem v (.ref sl)) (EP X pins σ Q) X.xe s
theorem SlR.or {r r':V->Option Int->Option Int->Hp->VK->Prop}(h:SlR X r)(h':SlR X r'):SlR X (fun x lo hi H Q=>r x lo hi H Q\/r' x lo hi H Q):=by
 intro pins s σ H x v vl vu lo hi sl Q I rx hs pl pu q;rcases q with q | q
 ·exact h pins s σ H x v vl vu lo hi sl Q I rx hs pl pu q
 ·exact h' pins s σ H x v vl vu lo hi sl Q I rx hs pl pu q
noncomputable def tSl (r:V->Option Int->Option Int->Hp->VK->Prop)(te:TE)(tl th:TO):TE:=fun σ H Q=>te σ H fun x H1=>tl σ H1 fun l H2=>th σ H2 fun u H3=>r x l u H3 Q
theorem jlr {r:V->Option Int->Option Int->Hp->VK->Prop}(hr:SlR X r)(he:PE X e te)(hl:PO X lo tl)(hu:PO X hi th):PE X (.Subscript e (.Slice lo hi none p2) pos) (tSl r te tl th):=by
 intro pins s σ H Q I h;refine Subscript_ (thn (he pins s σ H _ I h) fun v s1 hzz=>?_);obtain⟨x,H1,I1,r1,q1⟩:=hzz;refine wpAny_Slice (thn (hl pins s1 σ H1 _ I1 q1) fun vl s2 ⟨l,H2,I2,pl,q2⟩=>thn (hu pins s2 σ H2 _ I2 q2) fun vu s3 hzz=>?_);obtain⟨u,H3,I3,pu,q3⟩:=hzz;rw[evalPart_none];refine juU ?_;have I4:Inv X pins σ H3 { s3 with heap:=s3.heap.push { cls:=.type "slice",data:=.fields #[vl,vu,.none] } }:=I3.kept (t':=s3.toks) fun b ob q=>ju2 _ q
 obtain⟨T,id,hT,ht,hg⟩:=hr pins { s3 with heap:=s3.heap.push { cls:=.type "slice",data:=.fields #[vl,vu,.none] } } σ H3 x v vl vu l u s3.heap.objs.size Q I4 r1 (Heap.IsSliceOf.new ..) pl pu q3
 show wpAny (model X.prog X.w) X.A (subscriptTail e (.Slice lo hi none p2) v (.ref s3.heap.objs.size)) (EP X pins σ Q) X.xe { s3 with heap:=s3.heap.push { cls:=.type "slice",data:=.fields #[vl,vu,.none] } }
 exact tail_any (ops:=[.ref s3.heap.objs.size,v]) ht hT hg (by with_unfolding_all rfl)
noncomputable def jns (xs:List V)(lo hi:Option Int):List V:=(xs.drop (HT.sIx xs.length 0 lo)).take (HT.sIx xs.length xs.length hi - HT.sIx xs.length 0 lo)
theorem jcN (xs:List V)(lo hi:Option Int):(jns xs lo hi).length<=xs.length:=by
 unfold jns;rw[List.length_take,List.length_drop];exact jva (Nat.min_le_right _ _) (Nat.sub_le _ _)
noncomputable def jt8 (K:PySem.W.Frag):V->Option Int->Option Int->Hp->VK->Prop:=fun x lo hi H Q=>∃a xs,x=.ref a/\SqT K H a xs /\
 ¬ (HT.sIx xs.length 0 lo=0/\HT.sIx xs.length xs.length hi=xs.length)/\∀p,H p=none->Q (.ref p) (upd H p (.tup (jns xs lo hi)))
theorem sl_tup:SlR X (jt8 X.K):=by
 intro pins s σ H x v vl vu lo hi sl Q I rx hs pl pu h;obtain⟨a,xs,rfl,hx,hw,q⟩:=h;cases rx;obtain⟨its,r,ht,hz⟩:=I.tuple hx;have hlen:its.toArray.size=xs.length:=by rw[juv];exact r.length.symm
 refine⟨"tuple",_,PyProof.Rows.slot_tuple_getitem.lookup,ht.typeIs,?_⟩;refine HT.jcq ht hs pl pu (by rw[hlen];exact hw) ?_ (by rw[hlen];exact hz)
 rw[hlen];refine⟨.ref s.heap.objs.size,_,I.laid (t':=s.toks) (o:=.tup (jns xs lo hi)) (fun b ob q=>ju2 _ q) (ju7 _) ?_,rfl,q _ (I.hok.fresh (ju7 _))⟩;exact⟨jva (jcN xs lo hi) hz,_,(r.drop (HT.sIx xs.length 0 lo)).take (HT.sIx xs.length xs.length hi - HT.sIx xs.length 0 lo),IsTup.new _ _⟩
noncomputable def jt9 (K:PySem.W.Frag):R2:=fun x y H Q=>∃a b ns ms,x=.ref a/\y=.ref b/\SqT K H a (ns.map V.int)/\SqT K H b (ms.map V.int)/\Q (.bl (HT.lexLt ns ms)) H
theorem jqO (hu:X.A.units < cLine):OpR X (compareOp .Lt) (jt9 X.K):=by
 intro pins s σ H x y v u Q I rx ry h;obtain⟨a,b,ns,ms,rfl,rfl,ha,hb,q⟩:=h;cases rx;cases ry;obtain⟨its,r1,p1,_⟩:=I.tuple ha;obtain⟨its2,r2,p2,_⟩:=I.tuple hb;have i1:IntsAre its.toArray.toList ns:=jdp r1;have i2:IntsAre its2.toArray.toList ms:=jdp r2;exact HT.jhI p1 p2 i1 i2 hu ⟨.bl (HT.lexLt ns ms),H,I,rfl,q⟩
noncomputable def jsN (K:PySem.W.Frag):R2:=fun x y H Q=>∃a b xs ys,x=.ref a/\y=.ref b/\SqT K H a xs/\SqT K H b ys/\xs≠[]/\xs.length + ys.length<=sizeLine /\
 (ys=[]->Q (.ref a) H)/\(ys≠[]->∀p,H p=none->Q (.ref p) (upd H p (.tup (xs++ys))))
theorem Vals.nil_iff {xs:List V}{us:List Value}(r:Vals xs us):us=[]↔xs=[]:=by
 cases r with
 |nil=>simp
 |cons _ _=>simp
theorem jog:OpR X (binaryOp .Add) (jsN X.K):=by
 intro pins s σ H x y v u Q I rx ry h;obtain⟨a,b,xs,ys,rfl,rfl,ha,hb,hx,hz,q1,q2⟩:=h;cases rx;cases ry;obtain⟨its,r1,p1,_⟩:=I.tuple ha;obtain⟨its2,r2,p2,_⟩:=I.tuple hb;refine HT.joc p1 p2 (fun z=>hx (r1.nil_iff.mp z)) (fun z=>⟨.ref a,H,I,rfl,q1 (r2.nil_iff.mp z)⟩) (fun z=>?_) (by rw[<-r1.length,<-r2.length];exact hz)
 refine⟨.ref s.heap.objs.size,_,I.laid (t':=s.toks) (o:=.tup (xs++ys)) (fun b ob q=>ju2 _ q) (ju7 _) ?_,rfl,q2 (fun w=>z (r2.nil_iff.mpr w)) _ (I.hok.fresh (ju7 _))⟩;exact⟨by rw[juF];exact hz,_,r1.append r2,IsTup.new _ _⟩
end
end L2
namespace L2
open PySem PySem.Spec PyProof.Rows
noncomputable def ixN (n:Nat)(i:Int):Option Nat:=if 0<=i then (if i < n then some i.toNat else none)else if -(n:Int)<=i then some (i + n).toNat else none
noncomputable def atI {α:Type}(xs:List α)(i:Int):Option α:=(ixN xs.length i).bind fun j=>xs[j]?
theorem joh {n:Nat}{i:Int}{j:Nat}(h:ixN n i=some j):seqIndex? i n=some j/\j < n/\-(n:Int)<=i/\i < n:=by
 unfold ixN at h;by_cases h0:0<=i
 ·rw[if_pos h0]at h;by_cases h1:i < n
  ·rw[if_pos h1]at h;have e:i.toNat=j:=Option.some.inj h;exact⟨by rw[seqIndex_of h0 h1,e],by omega,by omega,h1⟩
  ·rw[if_neg h1]at h;cases h
 ·rw[if_neg h0]at h;by_cases h1:-(n:Int)<=i
  ·rw[if_pos h1]at h;have e:(i + n).toNat=j:=Option.some.inj h;exact⟨by rw[seqIndex_neg (by omega) h1,e],by omega,h1,by omega⟩
  ·rw[if_neg h1]at h;cases h
theorem jfO {α:Type}{xs:List α}{i:Int}{v:α}(h:atI xs i=some v):∃j,seqIndex? i xs.length=some j/\xs[j]?=some v/\j < xs.length/\-(xs.length:Int)<=i/\i < xs.length:=by
 unfold atI at h;cases e:ixN xs.length i with
 |none=>rw[e]at h;cases h
 |some j=>
  rw[e]at h;obtain⟨h1,h2,h3,h4⟩:=joh e;exact⟨j,h1,h,h2,h3,h4⟩
noncomputable def ji3 (b:Expr):Prop:=∀o i,subscripted b false o i=operate [o,i] (getItem o i)
noncomputable def IxR (X:Cx)(r:R2):Prop:=
 ∀(value slice:Expr) (pins:List (Addr×Obj)) (s:Shared) (σ:St) (H:Hp) (x y:V) (v u:Value) (Q:VK),Inv X pins σ H s->RelV x v->RelV y u->r x y H Q ->
  subscripted slice false v u=operate [v,u] (getItem v u)->wpAny (model X.prog X.w) X.A (subscriptTail value slice v u) (EP X pins σ Q) X.xe s
noncomputable def MtR (X:Cx)(id:String)(r:V->List V->Hp->VK->Prop):Prop:=
 ∀(pins:List (Addr×Obj)) (s:Shared) (σ:St) (H:Hp) (x:V) (xs:List V) (v:Value) (us:List Value) (Q:VK),Inv X pins σ H s->RelV x v->Vals xs us->r x xs H Q ->
  wpAny (model X.prog X.w) X.A (call (.builtin id) (v::us)) (EP X pins σ Q) X.xe s
section
variable {X:Cx}{a b:Expr}{ta tb:TE}{pos:Pos}
theorem IxR.or {r r':R2}(h:IxR X r)(h':IxR X r'):IxR X (fun x y H Q=>r x y H Q\/r' x y H Q):=by
 intro value slice pins s σ H x y v u Q I rx ry q hs;rcases q with q | q
 ·exact h value slice pins s σ H x y v u Q I rx ry q hs
 ·exact h' value slice pins s σ H x y v u Q I rx ry q hs
theorem jsO {r:R2}(hr:IxR X r)(ha:PE X a ta)(hb:PE X b tb)(hs:ji3 b):PE X (.Subscript a b pos) (tOp r ta tb):=by
 intro pins s σ H Q I h;exact Subscript_ (jsC ha hb I h fun v u s2 x y H2 I2 rx ry q=>hr a b pins s2 σ H2 x y v u Q I2 rx ry q (hs _ _))
noncomputable def jtD (K:PySem.W.Frag):R2:=fun x y H Q=>∃p xs i v,x=.ref p/\y=.int i/\SqL K H p xs/\atI xs i=some v/\Q v H
noncomputable def jtE (K:PySem.W.Frag):R2:=fun x y H Q=>∃p xs i v,x=.ref p/\y=.int i/\SqT K H p xs/\atI xs i=some v/\Q v H
noncomputable def jtF:R2:=fun x y H Q=>∃z i c,x=.str z/\y=.int i/\z.length<=sizeLine/\atI z.cps.toList i=some c/\Q (.str ⟨#[c]⟩) H
theorem ix_list:IxR X (jtD X.K):=by
 intro value slice pins s σ H x y v u Q I rx ry h hs;obtain⟨p,xs,i,z,rfl,rfl,hq,he,q⟩:=h;cases rx;obtain⟨t,rfl⟩:=ry;obtain⟨its,r,pl,hz⟩:=I.list hq;obtain⟨j,h1,h2,h3,h4,h5⟩:=jfO he;obtain⟨w,ew,rw'⟩:=r.get h2;have hl:=r.length;have hn:=jca;have fin:EP X pins σ Q w s:=⟨z,H,I,rw',q⟩;by_cases h0:0<=i
 ·have hj:i.toNat=j:=by
   rw[seqIndex_of h0 h5]at h1;exact Option.some.inj h1
  exact item_listR pl.isList h0 (by omega) (by rw[hj];simpa using ew) fin hs
 ·have hj:(i + (its.toArray.size:Int)).toNat=j:=by
   rw[seqIndex_neg (by omega) h4]at h1
   rw[juv,<-hl];exact Option.some.inj h1
  exact subscriptTail_builtinR (x:=w) pl.isList.typeIs slot_list_getitem.lookup
   (wpAny_getItem_list_neg (Q:=fun r s'=>r=w/\EP X pins σ Q r s') pl.isList (by omega) (by rw[juv] <;> omega) (by omega) (by rw[hj];simpa using ew) ⟨rfl,fin⟩) hs
theorem ix_tup:IxR X (jtE X.K):=by
 intro value slice pins s σ H x y v u Q I rx ry h hs;obtain⟨p,xs,i,z,rfl,rfl,hq,he,q⟩:=h;cases rx;obtain⟨t,rfl⟩:=ry;obtain⟨its,r,pl,hz⟩:=I.tuple hq;obtain⟨j,h1,h2,h3,h4,h5⟩:=jfO he;obtain⟨w,ew,rw'⟩:=r.get h2;have hl:=r.length;have hn:=jca;have fin:EP X pins σ Q w s:=⟨z,H,I,rw',q⟩;exact subscriptTail_builtinR (x:=w) pl.typeIs slot_tuple_getitem.lookup
  (getItem_tuple (j:=j) (Q:=fun r s'=>r=w/\EP X pins σ Q r s') pl (by omega) (by omega) (by rw[juv,<-hl];exact h1) (by simpa using ew) ⟨rfl,fin⟩) hs
theorem jqP:IxR X jtF:=by
 intro value slice pins s σ H x y v u Q I rx ry h hs;obtain⟨z,i,c,rfl,rfl,hz,he,q⟩:=h;obtain⟨t,rfl⟩:=rx;obtain⟨t',rfl⟩:=ry;obtain⟨j,h1,h2,h3,h4,h5⟩:=jfO he;have hl:z.cps.toList.length=z.length:=by simp[Str.length]
 rw[hl]at h1 h4 h5;have hn:=jca;exact tail_any (typeIs_str s z t) slot_str_getitem.lookup (getItem_str (c:=c) (by
  have e1:decide (i < -(2 ^ 63:Int))=false:=decide_eq_false (by omega)
  have e2:decide (i>=2 ^ 63)=false:=decide_eq_false (by omega)
  rw[e1,e2,Bool.or_false]) (by rw[h1];simpa using h2) ⟨.str ⟨#[c]⟩,H,I.tok _,⟨_,rfl⟩,q⟩) hs
noncomputable def rIx (K:PySem.W.Frag):R2:=fun x y H Q=>jtD K x y H Q\/jtE K x y H Q\/jtF x y H Q
theorem jqQ:IxR X (rIx X.K):=ix_list.or (ix_tup.or jqP)
theorem Inv.lst {pins:List (Addr×Obj)}{σ:St}{H:Hp}{s:Shared}{p:Addr}{xs:List V}(I:Inv X pins σ H s)(h:H p=some (.lst xs)) :
  ∃(its:List Value) (n:Nat),Vals xs its/\s.heap.get? p=some { cls:=.type "list",data:=.seq its.toArray n }/\xs.length<=sizeLine:=by
 obtain⟨z,its,n,r,e⟩:=I.hok p _ h;exact⟨its,n,r,e,z⟩
theorem jeN (lo hi:Option Int)(n:Nat):(sliceBounds lo hi none n).1=((HT.sIx n 0 lo:Nat):Int)/\(sliceBounds lo hi none n).2.1=((HT.sIx n n hi:Nat):Int)/\(sliceBounds lo hi none n).2.2=1:=by
 refine⟨?_,?_,rfl⟩
 ·cases lo with
  |none=>simp[sliceBounds,HT.sIx]
  |some i=>
   simp only[sliceBounds,HT.sIx,Option.getD_none,show (1:Int) > 0 by decide,if_true]
   by_cases h:i < 0
   ·simp only[h,if_true] <;> omega
   ·simp only[h,if_false] <;> omega
 ·cases hi with
  |none=>simp[sliceBounds,HT.sIx]
  |some i=>
   simp only[sliceBounds,HT.sIx,Option.getD_none,show (1:Int) > 0 by decide,if_true]
   by_cases h:i < 0
   ·simp only[h,if_true] <;> omega
   ·simp only[h,if_false] <;> omega
theorem jdR (its:List Value)(lo hi:Option Int):slicePick its.toArray lo hi none=((its.drop (HT.sIx its.length 0 lo)).take (HT.sIx its.length its.length hi - HT.sIx its.length 0 lo)).toArray:=by
 obtain⟨h1,h2,h3⟩:=jeN lo hi its.toArray.size;unfold slicePick;rw[h1,h2,h3];simp only[sliceRange_one,pick_run,juv] <;> rfl
noncomputable def jua (K:PySem.W.Frag):V->Option Int->Option Int->Hp->VK->Prop:=fun x lo hi H Q=>∃a xs,x=.ref a/\SqL K H a xs/\∀p,H p=none->Q (.ref p) (upd H p (.lst (jns xs lo hi)))
theorem joi:SlR X (jua X.K):=by
 intro pins s σ H x v vl vu lo hi sl Q I rx hs pl pu h;obtain⟨a,xs,rfl,hx,q⟩:=h;cases rx;obtain⟨its,r,ht,hz⟩:=I.list hx;have hlen:=r.length;refine⟨"list",_,slot_list_getitem.lookup,ht.isList.typeIs,?_⟩;refine wpAny_getItem_list_slice ht.isList hs pl pu .none (by simp) ?_ (by rw[juv] <;> omega)
 rw[jdR,<-hlen];refine⟨.ref s.heap.objs.size,_,I.laid (t':=s.toks) (o:=.lst (jns xs lo hi)) (fun b ob q=>ju2 _ q) (ju7 _) ?_,rfl,q _ (I.hok.fresh (ju7 _))⟩;exact⟨jva (jcN xs lo hi) hz,_,0,(r.drop (HT.sIx xs.length 0 lo)).take (HT.sIx xs.length xs.length hi - HT.sIx xs.length 0 lo),ju4 _ rfl⟩
theorem call_len_seq:CallR X (.builtin "len") (fun xs H Q=>∃p ys,xs=[.ref p]/\(SqL X.K H p ys\/SqT X.K H p ys)/\Q (.int ys.length) H):=by
 intro pins s σ H xs us Q I r h;obtain⟨p,ys,rfl,hq,q⟩:=h;obtain⟨u,rfl,rx⟩:=jbt r;cases rx;have hn:=jca;rcases hq with hq | hq
 ·obtain⟨its,r',pl,hz⟩:=I.list hq;have hlen:=r'.length;exact Calls.call_len_list pl.isList (by simp only[juv] <;> omega) ⟨.int ys.length,H,I.tok _,⟨s.toks + 1,by rw[juv,hlen]⟩,q⟩
 ·obtain⟨its,r',pl,hz⟩:=I.tuple hq;have hlen:=r'.length;exact len_tuple pl (by simp only[juv] <;> omega) ⟨.int ys.length,H,I.tok _,⟨s.toks + 1,by rw[juv,hlen]⟩,q⟩
theorem jeO:CallR X (.builtin "len") (fun xs H Q=>∃z,xs=[.str z]/\z.length<=sizeLine/\Q (.int z.length) H):=by
 intro pins s σ H xs us Q I r h;obtain⟨z,rfl,hz,q⟩:=h;obtain⟨u,rfl,t,rfl⟩:=jbt r;have hn:=jca;exact len_str (by omega) ⟨.int z.length,H,I.tok _,⟨_,rfl⟩,q⟩
theorem CallR.or {f:Value}{r r':List V->Hp->VK->Prop}(h:CallR X f r)(h':CallR X f r'):CallR X f (fun xs H Q=>r xs H Q\/r' xs H Q):=by
 intro pins s σ H xs us Q I rs q;rcases q with q | q
 ·exact h pins s σ H xs us Q I rs q
 ·exact h' pins s σ H xs us Q I rs q
theorem jdS:CallR X (.type "tuple") (fun xs H Q=>∃p ys,xs=[.ref p]/\((SqL X.K H p ys/\∀l,H l=none->Q (.ref l) (upd H l (.tup ys)))\/(SqT X.K H p ys/\Q (.ref p) H))):=by
 intro pins s σ H xs us Q I r h;obtain⟨p,ys,rfl,h⟩:=h;obtain⟨u,rfl,rx⟩:=jbt r;cases rx;rcases h with ⟨hq,q⟩ | ⟨hq,q⟩
 ·obtain⟨its,r',pl,hz⟩:=I.list hq;have hlen:=r'.length;refine call_tuple_list pl.isList (fun h' kp=>?_) (by simp only[juv] <;> omega)
  have I1:Inv X pins σ H { s with heap:=h' }:=I.kept (t':=s.toks) kp
  have I2:Inv X pins σ (upd H h'.objs.size (.tup ys)) { s with heap:=h'.push { cls:=.type "tuple",data:=.seq its.toArray } }:=
   I1.laid (t':=s.toks) (fun b o e=>ju2 _ e) (ju7 _) (show ObjOk X.prog X.w _ _ _ (.tup ys)from⟨hz,its,r',IsTup.new _ _⟩)
  exact⟨.ref h'.objs.size,_,I2,rfl,q _ (I1.hok.fresh (ju7 _))⟩
 ·obtain⟨its,r',pl,hz⟩:=I.tuple hq;exact call_tuple_same pl ⟨.ref p,H,I,rfl,q⟩
noncomputable def tyV (K:PySem.W.Frag)(T:String)(x:V)(H:Hp):Prop:=match x with
 |.str _=>T="str"
 |.int _=>T="int"
 |.ref p=>(T="list"/\∃xs,SqL K H p xs)\/(T="tuple"/\∃o,K.lookup p=some o/\o.cls=.type "tuple"/\o.dict=none) \/
   (T="dict"/\((∃kvs,H p=some (.dK kvs))\/∃kvs,H p=some (.dT kvs)))\/(T="set"/\∃S n,H p=some (.set S n))
 |_=>False
theorem jqR {pins:List (Addr×Obj)}{σ:St}{H:Hp}{s:Shared}{T:String}{x:V}{v:Value}(I:Inv X pins σ H s)(r:RelV x v)(ty:tyV X.K T x H) :
  s.TypeIs v T/\∀a,v=.ref a->∃ob,s.heap.get? a=some ob/\ob.dict=none:=by
 cases x with
 |str z=>
  obtain⟨t,rfl⟩:=r;cases (show T="str" from ty);exact⟨typeIs_str s z t,fun _ e=>nomatch e⟩
 |int i=>
  obtain⟨t,rfl⟩:=r;cases (show T="int" from ty);exact⟨typeIs_int s i t,fun _ e=>nomatch e⟩
 |ref p=>
  cases r;rcases ty with ⟨rfl,xs,hq⟩ | ⟨rfl,o,hk,hc,hd⟩ | ⟨rfl,hk⟩ | ⟨rfl,S,n,hk⟩
  ·obtain⟨its,_,pl,_⟩:=I.list hq;refine⟨pl.isList.typeIs,fun a e=>?_⟩;cases e;obtain⟨o,n,e,c,hd,_⟩:=pl;exact⟨o,e,hd⟩
  ·refine⟨⟨o,I.kIn p o hk,hc⟩,fun a e=>?_⟩;cases e;exact⟨o,I.kIn _ o hk,hd⟩
  ·have z:∃o,s.heap.get? p=some o/\o.ExactDict:=by
    rcases hk with ⟨kvs,hk⟩ | ⟨kvs,hk⟩
    ·obtain⟨_,_,_,_,o,_,_,e,ex,_⟩:=I.hok p _ hk;exact⟨o,e,ex⟩
    ·obtain⟨_,_,_,_,o,_,_,e,ex,_⟩:=I.hok p _ hk;exact⟨o,e,ex⟩
   obtain⟨o,e,ex⟩:=z;refine⟨⟨o,e,ex.1⟩,fun a e2=>?_⟩;cases e2;exact⟨o,e,ex.2.1⟩
  ·obtain⟨o,_,_,_,e,ex,_⟩:=I.hok p _ hk;refine⟨⟨o,e,ex.1⟩,fun a e2=>?_⟩;cases e2;exact⟨o,e,ex.2.1⟩
 |_=>exact False.elim ty
noncomputable def tBM (K:PySem.W.Frag)(T:String)(r:V->List V->Hp->VK->Prop)(to:TE)(t:TA):TE:=fun σ H Q=>to σ H fun x H1=>tyV K T x H1/\t σ H1 fun xs H2=>r x xs H2 Q
variable {o e:Expr}{es:List Expr}{to:TE}{t:TA}{name:Str}{apos cpos:Pos}{T id:String}{r:V->List V->Hp->VK->Prop}
theorem joj (pa:PlainAttrs T)(slot:Slot T name id)(hty:typeOf (.builtin id)=pure (.type "method_descriptor"))(hm:MtR X id r)(ho:PE X o to)(ha:PA X (e::es) t)
  (hbase:attributeBase o name X.env (eval o X.env)=eval o X.env:=by rfl)
  (hfew:((backTo cpos (starEach (e::es) X.env)).all (fun x=>!x.1) && (backToKw cpos (keywordEach [] X.env)).all (fun x=>x.1.isSome)
   && decide ((e::es).length + ([]:List Keyword).length + (if ([]:List Keyword).isEmpty then 0 else 1) < 30))=true:=by rfl)
  (hline:(apos.endLine == cpos.line)=true:=by rfl) (hs:starEach (e::es) X.env=(false,eval e X.env)::starEach es X.env:=by rfl) (hplain:(backTo cpos (starEach es X.env)).any (·.1)=false:=by rfl) :
  PE X (.Call (.Attribute o name apos) (e::es) [] cpos) (tBM X.K T r to t):=by
 intro pins s σ H Q I h;refine wpAny_Call_method_late hbase hfew hline rfl (thn (ho pins s σ H _ I h) fun v s1 hzz=>?_);obtain⟨x,H1,I1,r1,ty,q1⟩:=hzz;obtain⟨h1,h2⟩:=jqR I1 r1 ty;refine⟨T,id,pa,slot,hty,h1,h2,?_⟩;have hA:=ha cpos pins s1 σ H1 _ I1 q1;rw[hs]at hA ⊢;refine Calls.callWith_builtin (by show (false || (backTo cpos (starEach es X.env)).any (·.1))=false;rw[hplain] <;> rfl) (Calls.evalArgs_plain ?_)
 exact thn hA fun us s2 ⟨vs,H2,I2,r2,q2⟩=>hm pins s2 σ H2 x vs v us Q I2 r1 r2 q2
end
end L2
namespace L2
open PySem PySem.Spec PyProof.Rows
noncomputable def MtM (X:Cx)(id:String)(r:V->List V->Hp->VK->Prop):Prop:=
 ∀(pins:List (Addr×Obj)) (s:Shared) (σ:St) (H:Hp) (x:V) (xs:List V) (v:Value) (us:List Value) (Q:VK),Inv X pins σ H s->RelV x v->Vals xs us->r x xs H Q ->
  wpAny (model X.prog X.w) X.A (call (.builtin id) (v::us)) (EP X pins σ Q) X.xe s
theorem Vals.one {x:V}{us:List Value}(h:Vals [x] us):∃u,us=[u]/\RelV x u:=by
 cases h with
 |cons r h=>cases h;exact⟨_,rfl,r⟩
theorem Vals.zero:∀{us:List Value},Vals [] us->us=[]
 |_,.nil=>rfl
theorem Vals.dropLast {xs:List V}{us:List Value}(h:Vals xs us):Vals xs.dropLast us.dropLast:=by
 induction h with
 |nil=>exact .nil
 |cons r t ih=>
  cases t with
  |nil=>exact .nil
  |cons q t'=>exact .cons r ih
theorem Vals.reverse {xs:List V}{us:List Value}(h:Vals xs us):Vals xs.reverse us.reverse:=by
 induction h with
 |nil=>exact .nil
 |cons r t ih=>rw[List.reverse_cons,List.reverse_cons];exact Vals.append ih (.cons r .nil)
theorem Vals.rep {xs:List V}{us:List Value}(h:Vals xs us):∀k:Nat,Vals (List.replicate k xs).flatten (List.replicate k us).flatten
 |0=>.nil
 |k + 1=>by
  rw[List.replicate_succ,List.replicate_succ,List.flatten_cons,List.flatten_cons];exact Vals.append h (Vals.rep h k)
section
variable {X:Cx}{pins:List (Addr×Obj)}{σ:St}{H:Hp}{s:Shared}{l b:Addr}{xs ys zs:List V}
theorem Inv.lset {its its':List Value}{n:Nat}{f:Array Value->Array Value}{t':Nat}(I:Inv X pins σ H s)(hH:H l=some (.lst xs))
  (e:s.heap.get? l=some { cls:=.type "list",data:=.seq its.toArray n }) (hf:f its.toArray=its'.toArray) (hv:Vals ys its') (hz:ys.length<=sizeLine) :
  Inv X pins σ (upd H l (.lst ys)) { s with heap:=s.heap.update l (Obj.mapSeq f),toks:=t' }:=by
 have q:=PySem.IsL.update e f;rw[hf]at q;refine I.write (x:=l) (e:=l) (by rw[hH];exact trivial) (.inl rfl) (fun b' u hb hu=>(ju6 s.heap (Obj.mapSeq f) (Ne.symm hb)).trans hu) ⟨_,q⟩ ?_
 exact⟨hz,its',_,hv,q⟩
theorem Inv.lnew {its:List Value}{t':Nat}(I:Inv X pins σ H s)(hv:Vals ys its)(hz:ys.length<=sizeLine) :
  Inv X pins σ (upd H s.heap.objs.size (.lst ys)) { s with heap:=s.heap.push { cls:=.type "list",data:=.seq its.toArray },toks:=t' }:=
 I.laid (fun _ _ q=>ju2 _ q) (ju7 _) ⟨hz,its,0,hv,ju4 _ rfl⟩
theorem Inv.fresh (I:Inv X pins σ H s):H s.heap.objs.size=none:=I.hok.fresh (ju7 _)
theorem Inv.lstM (I:Inv X pins σ H s)(hH:H l=some (.lst xs)):xs.length<=sizeLine/\∃(its:List Value) (n:Nat),Vals xs its/\xs.length=its.length/\s.heap.get? l=some { cls:=.type "list",data:=.seq its.toArray n }:=by
 obtain⟨z,its,n,r,e⟩:=I.hok l _ hH;exact⟨z,its,n,r,r.length,e⟩
end
section
variable {X:Cx}
noncomputable def jok:V->List V->Hp->VK->Prop:=fun x vs H Q=>∃l xs y,x=.ref l/\vs=[y]/\H l=some (.lst xs)/\xs.length < sizeLine/\Q .non (upd H l (.lst (xs++[y])))
theorem jeP:MtM X "list.append" jok:=by
 intro pins s σ H x vs v us Q I rx rv h;obtain⟨l,xs,y,rfl,rfl,hH,hz,q⟩:=h;cases rx;obtain⟨u,rfl,ru⟩:=rv.one;obtain⟨z,its,n,r,hl,e⟩:=I.lstM hH;refine call_meets F.slot_list_append ⟨_,e,rfl⟩ F.entry_list_append (F.args_list_append_2 _ _) (PySem.list_append l its.toArray n u (by rw[juv];omega)) ⟨e,?_⟩
 refine⟨.non,_,I.lset (its':=its++[u]) hH e (by simp) (r.append (.cons ru .nil)) ?_,rfl,q⟩
 rw[juF,List.length_singleton];omega
end
section
variable {prog:Program}{w:World}{A:Around}{E:Value->Shared->Prop}{s:Shared}
set_option maxRecDepth 100000 in
end
section
variable {X:Cx}
end
end L2
namespace Att
open PySem PySem.W PySem.Calls PyProof.Rows
theorem jcO {P:Params}{h:Heap}:∀(ns:List Int) (vs:List Value),WellAll P h vs (ns.map WData.int)->IntsAre vs ns:=by
 intro ns;induction ns with
 |nil=>
  intro vs w;rw[List.map_nil]at w;cases w;exact .nil
 |cons n ns ih=>
  intro vs w;rw[juy]at w;cases w with
  |cons a b=>
   cases a;exact .cons _ _ (ih _ b)
theorem ji4 {l:OpenLaw}{n:Nat}(hn:l.most=some n){P:Params}{h:Heap}{args:List WData}{vals:List Value}
  (hpre:l.row.toRowW.claim.pre args=true) (hwl:WellAll P h vals args) :
  ∃a vs ns,vals=[Value.ref a]/\args=[WData.list (ns.map WData.int)]/\h.get? a=some { cls:=.type "list",data:=.seq vs.toArray }/\IntsAre vs ns/\ns.length<=n:=by
 have hsh:WShape.hasAll [] args [.list .int]=true:=(pre_splitW hpre).1;have hc:l.pre.holds [] { args:=args }=true:=(pre_splitW hpre).2;obtain⟨d,r,rfl,h1,h2⟩:=hasAllW_cons hsh;obtain rfl:=hasAllW_nil h2;obtain⟨xs,rfl,h3⟩:=hasW_list h1;obtain⟨ns,rfl⟩:=items_int h3;have hlen:ns.length<=n:=by
  unfold OpenLaw.pre at hc;have h4:(WTm.not (.lt (.lit (.int (n:Int))) (.len (.arg 0)))).holds [] { args:=[.list (ns.map .int)] }=true:=by
   have h4:=(holds_andW hc).1;rw[hn]at h4;exact h4
  have h5:=condW_of h4 (w_not (w_lt w_lit (w_len_list (w_arg rfl))));rw[juA]at h5;refine Nat.le_of_not_lt fun q=>?_;have q':(n:Int) < ((ns.length:Nat):Int):=by omega
  first
   |(rw[decide_eq_true q']at h5;exact absurd h5 (by decide))
   |(simp at h5;omega)
 cases hwl with
 |cons w1 w2=>
  cases w2;cases w1 with
  |list ho hall=>exact⟨_,_,ns,rfl,rfl,ho,jcO ns _ hall,hlen⟩
theorem ji5 (l:OpenLaw)(args:List WData):l.row.toRowW.claim.post args (.bool true) args=true:=
 postW_of (r:=l.row.toRowW) (X:=(true == true))
  (show WShape.has [] (.bool true) .bool=true by first | rfl | decide | simp[WShape.has,WShape.arms,WShape.armsAll])
  (show (WTm.eq .res (.lit (.bool true))).value [] { args:=args,res:=some (.bool true),after:=args }=some (.bool (true == true))from w_eq_bool (w_res rfl) w_lit) rfl
theorem jfP {l:OpenLaw}{n:Nat}{q:Program}{loose:List Str}{XP:(Str->Option Value)->Heap->Prop}{YP:World->Heap->Prop}{d:DefRec}
  (hn:l.most=some n) (hdf:d.params.defaults=[])
  (call:∀(w:World) (s₀ s₁:Shared) (mg mb:Str->Option Value) (fa:Addr) (o:Obj) (pm cd doc:Value) (a:Addr) (vs:List Value) (ns:List Int),
   Ground q loose [] XP w s₀ mg mb s₁.heap->YP w s₁.heap ->
   s₁.heap.get? fa=some o->o.data=.func (docDef d.name d.params d.body d.scope pm cd doc)->s₁.heap.CodeRec cd d.name->mg d.name=some (.ref fa) ->
   s₁.heap.get? a=some { cls:=.type "list",data:=.seq vs.toArray }->IntsAre vs ns->ns.length<=n->s₁.gens=#[] ->
   codeAny (model l.prog w) callerA (.call (.ref fa) ⟨[.ref a],[]⟩) (fun r s'=>r=.ok (.ret (.bool true))/\OldK s₁.heap s'.heap/\s'.os=s₁.os/\AllBare s'.gens) s₁) :
  WalkO q loose XP YP l.row.toRowW d [] (fun f vs=>PySem.call f vs):=by
 intro w s₀ s₁ mg mb G Y fa o pm cd doc dV kV ho hd hcd hD hmg hg args vals as hpre hlay hrd hwl hlo;obtain rfl:dV=.none:=Dflts.none hD hdf;obtain rfl:kV=.none:=Dflts.noKw hD;obtain⟨a,vs,ns,rfl,rfl,hobj,hints,hlen⟩:=ji4 hn hpre hwl;refine enter_call (codeAny_mono (call w s₀ s₁ mg mb fa o pm cd doc a vs ns G Y ho (fd_plain hd) hcd hmg hobj hints hlen hg) fun r s' hq=>?_);obtain⟨rfl,h2,h3,h4⟩:=hq;exact⟨.inl ⟨.bool true,.bool true,[],rfl,fun _=>rfl,.bool true,ji5 l _,fun _=>⟨List.Pairwise.nil,fun _ hm=>(nomatch hm)⟩⟩,h2,h3,h4⟩
section
variable {prog:Program}{w:World}{A:Around}{E:Value->Shared->Prop}{s:Shared}{K:Frag}
end
end Att
namespace L2
open PySem PySem.Spec PyProof.Rows
theorem ji6 {vs:List Value}{ns:List Int}(h:IntsAre vs ns):Vals (ns.map V.int) vs:=by
 induction h with
 |nil=>exact .nil
 |cons n t h ih=>exact .cons ⟨t,rfl⟩ ih
noncomputable def jsP (H:Hp):Prop:=∀b,H b=none\/∃o xs,H b=some (.frz o (.lst xs))
theorem jlt {P:Program}{w:World}{K:PySem.W.Frag}{mg mb:Str->Option Value}{CX:CXT}{k:Nat}{fa a:Addr}{fd:FuncData}{x:Str}{sp:Sp}{s₁:Shared}{vs:List Value}{ns:List Int}
  (KX:K.In s₁.heap) (hns:s₁.heap.Ns mainGlobals mg) (hb:s₁.heap.Ns builtinsNs mb) (hbb:∀x:Str,x≠"__name__"->mb x=bootBuiltins x) (hlim:s₁.heap.NoLimit) (hg:s₁.gens=#[])
  (ha:s₁.heap.get? a=some { cls:=.type "list",data:=.seq vs.toArray }) (hi:IntsAre vs ns) (hl:ns.length<=sizeLine) (hr:Room k callerA)
  (F:∀base:Heap,K.In base->base.Ns mainGlobals mg->FnOk P w K mg base CX k fa fd [x] sp) (hbind:∀(s:Shared) (u:Value),BindsTo s fd ⟨[u],[]⟩ [(x,u)])
  (hsp:∀H:Hp,jsP H->SqL K H a (ns.map V.int)->sp [.ref a] H (fun v _=>v=.bl true) fun _ _ _=>False)
  (hCX:∀H e s',CX [] H s₁ (fun _ _ _=>False) e s'->False) :
  codeAny (model P w) callerA (.call (.ref fa) ⟨[.ref a],[]⟩) (fun r s'=>r=.ok (.ret (.bool true))/\OldK s₁.heap s'.heap/\s'.os=s₁.os/\AllBare s'.gens) s₁:=by
 have rv:=ji6 hi;have lenV:=hi.length;have core:∀H:Hp,jsP H->SqL K H a (ns.map V.int)->HOk P w H s₁.heap->(∀b,H b≠none->b=a)->(H a≠none->K.lookup a=none) ->
   codeAny (model P w) callerA (.call (.ref fa) ⟨[.ref a],[]⟩) (fun r s'=>r=.ok (.ret (.bool true))/\OldK s₁.heap s'.heap/\s'.os=s₁.os/\AllBare s'.gens) s₁:=by
  intro H hO hS hok hA hK;have base_of:∀{b:Addr}{o:Obj},s₁.heap.get? b=some o->H b=none->(jle s₁.heap H).get? b=some o:=fun e n=>jlf e n;have noA:∀{b:Addr}{o:Obj}{es:Array DictEntry}{ep:Nat},s₁.heap.get? b=some o->o.data=.dict es ep->H b=none:=fun {b o es ep} e d=>by
   cases q:H b with
   |none=>rfl
   |some u=>
    have e':b=a:=hA b (by rw[q];simp)
    subst e';rw[ha]at e;cases e;have d':Data.seq vs.toArray _=Data.dict es ep:=d;cases d'
  have nsK:∀{b:Addr}{m:Str->Option Value},s₁.heap.Ns b m->(jle s₁.heap H).Ns b m:=fun {b m} ⟨o,es,ep,e,d,r⟩=>⟨o,es,ep,base_of e (noA e d),d,r⟩;have hKb:K.In (jle s₁.heap H):=fun b o e=>base_of (KX b o e) (by
   cases q:H b with
   |none=>rfl
   |some u=>
    have e':b=a:=hA b (by rw[q];simp)
    subst e';rw[hK (by rw[q];simp)]at e;cases e)
  have hM:Mod K mg (jle s₁.heap H):=⟨hKb,nsK hns,⟨mb,nsK hb,hbb⟩,let ⟨mc,h1,h2⟩:=hlim;⟨mc,nsK h1,h2⟩⟩;have e0:Env0 P w K mg (jle s₁.heap H) callerA [] s₁ H:=⟨rfl,hM,fun b o e=>jn0 e,Nat.le_of_eq (jiS _ _),trivial,fun b hb=>absurd (show b∈([]:List Addr)from hb) (by simp),hok,.of_eq hg⟩
  refine codeAny_mono ((F _ hKb (nsK hns)).run callerA [] s₁ H ⟨[.ref a],[]⟩ [.ref a] [.ref a] _ _ hr e0 (hbind s₁ (.ref a)) (.cons rfl .nil) (hsp H hO hS)) fun r s' h=>?_;cases r with
  |error e=>exact(hCX H e s' h).elim
  |ok fl=>
   cases fl with
   |next=>exact False.elim h
   |brk=>exact False.elim h
   |cont=>exact False.elim h
   |ret u=>
    obtain⟨v,H',os,bare,un,hok',r',q⟩:=h;have q':v=.bl true:=q;subst q';obtain rfl:u=Value.bool true:=r';refine⟨rfl,OldK.of_keep fun b o e=>?_,os,bare⟩;cases q:H b with
    |none=>exact un.keep b o e q (by intro z;exact absurd (show b∈([]:List Addr)from z) (by simp)) (by simp)
    |some u=>
     rcases hO b with z | ⟨ob,xs,z⟩
     ·rw[q]at z;cases z
     ·have z2:=un.frzs b ob _ z;obtain⟨e1,_⟩:=hok b _ z;obtain⟨e2,_⟩:=hok' b _ z2;rw[e]at e1;cases e1;exact e2
 cases hk:K.lookup a with
 |some o=>
  have e:=KX a o hk;rw[ha]at e;cases e;refine core (fun _=>none) (fun _=>.inl rfl) (.inr ⟨_,vs.toArray,_,hk,rfl,rfl,rfl,by rw[juv,lenV];exact hl,by simpa using rv⟩) (fun b u z=>by have z':(none:Option HO)=some u:=z;cases z') (fun b z=>absurd rfl z) fun z=>absurd rfl z
 |none=>
  refine core (fun b=>if b=a then some (.frz { cls:=.type "list",data:=.seq vs.toArray } (.lst (ns.map V.int)))else none) (fun b=>?_) (.inl (.inr ⟨{ cls:=.type "list",data:=.seq vs.toArray },if_pos rfl⟩)) (fun b u z=>?_) (fun b z=>?_) fun _=>hk
  ·by_cases hb:b=a
   ·exact .inr ⟨_,_,if_pos hb⟩
   ·exact .inl (if_neg hb)
  ·by_cases hb:b=a
   ·have z':=(if_pos hb).symm.trans z;cases z';subst hb;exact⟨ha,by rw[juA];exact hl,vs,_,rv,ha⟩
   ·have z':=(if_neg hb).symm.trans z;cases z'
  ·by_cases hb:b=a
   ·exact hb
   ·exact absurd (if_neg hb) z
end L2
namespace L2
open PySem PySem.Spec PyProof.Rows
theorem jol {l:PySem.W.OpenLaw}{n k:Nat}{q:Program}{loose:List Str}{XP:(Str->Option Value)->Heap->Prop}{YP:World->Heap->Prop}{d:DefRec}{K:Params->PySem.W.Frag}{CX:World->CXT}{sp:World->Sp}{x:Str}
  (hn:l.most=some n) (hn2:n<=sizeLine) (hdf:d.params.defaults=[]) (hr:Room k callerA)
  (hY:∀(w:World) (h:Heap),YP w h->(K w.params).In h)
  (F:∀(w:World) (mg:Str->Option Value) (fa:Addr) (h:Heap),(K w.params).In h->h.Ns mainGlobals mg->mg d.name=some (.ref fa) ->
   ∃fd:FuncData,(∀(s:Shared) (u:Value),BindsTo s fd ⟨[u],[]⟩ [(x,u)]) /\
    ∀base:Heap,(K w.params).In base->base.Ns mainGlobals mg->FnOk l.prog w (K w.params) mg base (CX w) k fa fd [x] (sp w))
  (hsp:∀(w:World) (H:Hp) (a:Addr) (ns:List Int),ns.length<=n->jsP H->SqL (K w.params) H a (ns.map V.int)->sp w [.ref a] H (fun v _=>v=.bl true) fun _ _ _=>False)
  (hCX:∀(w:World) (H:Hp) (s:Shared) (e:Value) (s':Shared),CX w [] H s (fun _ _ _=>False) e s'->False) :
  PySem.W.WalkO q loose XP YP l.row.toRowW d [] (fun f vs=>PySem.call f vs):=by
 refine Att.jfP hn hdf fun w s₀ s₁ mg mb fa o pm cd doc a vs ns G Y ho hd hcd hmg hobj hints hlen hg=>?_;have KX:=hY w _ Y;obtain⟨fd,hb,hF⟩:=F w mg fa _ KX G.T.g hmg;exact jlt KX G.T.g G.T.b G.T.builtins G.T.nolimit hg hobj hints (jva hlen hn2) hr hF hb (fun H hO hS=>hsp w H a ns hlen hO hS) fun H e s'=>hCX w H s₁ e s'
end L2
namespace L2
open PySem PySem.Spec PyProof.Rows
noncomputable def defArgs (s:Stmt):Arguments:=match s with
 |.FunctionDef _ a _ _ _ _ _ _ _ _=>a
 |_=>{ posonlyargs:=[],args:=[],vararg:=none,kwonlyargs:=[],kw_defaults:=[],kwarg:=none,defaults:=[] }
noncomputable def defBody (s:Stmt):List Stmt:=match s with
 |.FunctionDef _ _ b _ _ _ _ _ _ _=>b
 |_=>[]
noncomputable def defScope (s:Stmt):Scope:=match s with
 |.FunctionDef _ _ _ _ _ _ sc _ _ _=>sc
 |_=>{ kind:=.function,names:=[],isGenerator:=false,isCoroutine:=false }
structure Fun (K:PySem.W.Frag)(x qual:Str)(st:Stmt)(f:Addr)(fd:FuncData):Prop where
 ex:∃(oc:Value) (od:Option Addr) (kV doc pm:Value) (an:Option Addr) (cdv ct:Value) (osl:Array (Option Value)),
  fd=PySem.W.fnOf x qual (defArgs st) (defBody st) (defScope st) .none kV doc pm an cdv ct/\K.lookup f=some ⟨oc,od,.func fd,osl⟩/\PySem.W.codeIn K cdv qual=true
 kp:PySem.W.keepIn K (.ref f)=true
section
variable {P:Program}{w:World}{K:PySem.W.Frag}{mg:Str->Option Value}{base:Heap}
theorem Fun.binds {x qual:Str}{st:Stmt}{f:Addr}{fd:FuncData}{ps:List Str}(F:Fun K x qual st f fd)
  (h:∀(kV doc pm:Value) (an:Option Addr) (cdv ct:Value) (us:List Value),us.length=ps.length->bindArgs (PySem.W.fnOf x qual (defArgs st) (defBody st) (defScope st) .none kV doc pm an cdv ct) ⟨us,[]⟩=pure (ps.zip us)):Binds K fd ps []:=by
 obtain⟨oc,od,kV,doc,pm,an,cdv,ct,osl,rfl,lk,hcd⟩:=F.ex;exact .all (h kV doc pm an cdv ct)
theorem jqS {x qual:Str}{st:Stmt}{f:Addr}{oc:Value}{od an:Option Addr}{osl:Array (Option Value)}{kV doc pm cdv ct:Value}(l:K.lookup f=some ⟨oc,od,.func (PySem.W.fnOf x qual (defArgs st) (defBody st) (defScope st) .none kV doc pm an cdv ct),osl⟩)
  (c:PySem.W.codeIn K cdv qual=true) (k:PySem.W.keepIn K (.ref f)=true):Fun K x qual st f (PySem.W.fnOf x qual (defArgs st) (defBody st) (defScope st) .none kV doc pm an cdv ct):=⟨⟨oc,od,kV,doc,pm,an,cdv,ct,osl,rfl,l,c⟩,k⟩
end
section
variable {X:Cx}
end
noncomputable def Same (H H':Hp):Prop:=∀b o,H b=some o->H' b=some o
theorem Same.refl (H:Hp):Same H H:=fun _ _ h=>h
theorem Same.trans {H H1 H2:Hp}(a:Same H H1)(b:Same H1 H2):Same H H2:=fun c o h=>b c o (a c o h)
theorem Same.free {H H':Hp}(e:Same H H'){l:Addr}(h:H' l=Option.none):H l=Option.none:=by
 cases q:H l with
 |none=>rfl
 |some o=>
  rw[e l o q]at h;cases h
end L2
namespace TM
open PySem
end TM
namespace L2
open PySem PySem.Spec PyProof.Rows
section
variable {X:Cx}
theorem jlu:OpR X (binaryOp .Add) (fun x y H Q=>∃a b ys,x=.ref a/\y=.ref b/\SqT X.K H a []/\SqT X.K H b ys/\Q (.ref b) H):=by
 intro pins s σ H x y v u Q I rx ry h;obtain⟨a,b,ys,rfl,rfl,ha,hb,q⟩:=h;cases rx;cases ry;obtain⟨its,r1,p1,_⟩:=I.tuple ha;obtain⟨its2,r2,p2,_⟩:=I.tuple hb;obtain rfl:its=[]:=r1.nil_iff.mpr rfl;obtain⟨⟨cls,dd,data,sl⟩,ho,hc,n,hd⟩:=id p1;obtain⟨⟨cls2,dd2,data2,sl2⟩,ho2,hc2,n2,hd2⟩:=id p2;simp only at hc hd hc2 hd2;subst hc hd hc2 hd2;exact concat_meets ⟨_,ho,rfl⟩ ⟨_,ho2,rfl⟩ noFill_tuple_add seq_tuple_add PySem.F.slot_tuple_add PySem.F.entry_tuple_add (PySem.F.args_tuple_add_2 _ _)
   (tuple_addW0 a b ([]:List Value).toArray its2.toArray n n2 dd dd2 sl sl2 rfl) ⟨ho,ho2,⟨.ref b,H,I,rfl,q⟩⟩
theorem jom:OpR X (binaryOp .Add) (fun x y H Q=>∃a b xs ys,x=.ref a/\y=.ref b/\SqL X.K H a xs/\SqL X.K H b ys/\xs.length + ys.length<=sizeLine/\∀p,H p=none->Q (.ref p) (upd H p (.lst (xs++ys)))):=by
 intro pins s σ H x y v u Q I rx ry h;obtain⟨a,b,xs,ys,rfl,rfl,ha,hb,hz,q⟩:=h;cases rx;cases ry;obtain⟨its,r1,⟨⟨cls,dd,data,sl⟩,n,ho,hc,hdd,hd⟩,_⟩:=I.list ha;obtain⟨its2,r2,⟨⟨cls2,dd2,data2,sl2⟩,n2,ho2,hc2,hdd2,hd2⟩,_⟩:=I.list hb;simp only at hc hd hc2 hd2;subst hc hd hc2 hd2;refine concat_meets ⟨_,ho,rfl⟩ ⟨_,ho2,rfl⟩ noFill_list_add seq_list_add PySem.F.slot_list_add PySem.F.entry_list_add (PySem.F.args_list_add_2 _ _)
   (list_addW a b its.toArray its2.toArray n n2 dd dd2 sl sl2 (by rw[juv,juv,<-r1.length,<-r2.length];exact hz)) ⟨ho,ho2,?_⟩
 have e:its.toArray++its2.toArray=(its++its2).toArray:=by simp
 rw[e];exact⟨.ref _,_,I.lnew (t':=s.toks) (r1.append r2) (by rw[juF];exact hz),rfl,q _ I.fresh⟩
theorem jb1 {prog:Program}{w:World}{A:Around}{E:Value->Shared->Prop}{s:Shared}{t sl:Addr}{items:Array Value}{vl vu:Value}{lo hi:Option Int}{Q:Value->Shared->Prop}(ht:IsTup s.heap t items)(hs:s.heap.IsSliceOf sl vl vu .none)(pl:IsPart vl lo)(pu:IsPart vu hi)
  (hw:HT.sIx items.size 0 lo=0/\HT.sIx items.size items.size hi=items.size) (h:Q (.ref t) s):wpAny (model prog w) A (getItem (.ref t) (.ref sl)) Q E s:=by
 obtain⟨os,hos,hcs,hds⟩:=id hs;have hTs:s.TypeIs (.ref sl) "slice":=⟨os,hos,hcs⟩;unfold getItem;try with_reducible refine juY ?_
 first | refine juT (juU ?_) | skip
 refine juT (wpAny_sequenceKey ht.typeIs (by decide) ?_)
 refine juT (wpAny_callSpecial?_slot (name:=Str.ofString "__getitem__") ht.typeIs PyProof.Rows.slot_tuple_getitem
  (wpAny_call_entry PyProof.Rows.slot_tuple_getitem ht.typeIs entry_tuple_getitem ?_ (args_tuple_getitem _ _)))
 show wpAny _ _ (Builtin.Tuple.tupleItemsOf (.ref t) >>= _) _ _ s;refine juT (tupleItemsOf_ ht ?_);refine juT (wpAny_typeOf hTs ?_);rw[if_pos (by decide)]
 refine juT (HT.jbA hs pl pu ?_);have hyes:(((HT.sIx items.size 0 lo:Nat):Int) == 0 && (1:Int) == 1 && (HT.sIx items.size items.size hi - HT.sIx items.size 0 lo) == items.size)=true:=by
  rw[hw.1,hw.2];simp
 show wpAny _ _ (if (((HT.sIx items.size 0 lo:Nat):Int) == 0 && (1:Int) == 1 && (HT.sIx items.size items.size hi - HT.sIx items.size 0 lo) == items.size)=true then _ else _) _ _ s;rw[if_pos hyes];refine juT (m:=Builtin.Tuple.tupleIsExact _) ?_;unfold Builtin.Tuple.tupleIsExact;refine juT (wpAny_typeOf ht.typeIs ?_);refine juU ?_;rw[if_pos (by rfl)]
 exact juT (wpAny_rule (juU ⟨_,rfl,juU h⟩))
theorem sl_tupW:SlR X (fun x lo hi H Q=>∃a xs,x=.ref a/\SqT X.K H a xs/\(HT.sIx xs.length 0 lo=0/\HT.sIx xs.length xs.length hi=xs.length)/\Q (.ref a) H):=by
 intro pins s σ H x v vl vu lo hi sl Q I rx hs pl pu h;obtain⟨a,xs,rfl,hx,hw,q⟩:=h;cases rx;obtain⟨its,r,ht,hz⟩:=I.tuple hx;have hlen:its.toArray.size=xs.length:=by rw[juv];exact r.length.symm
 refine⟨"tuple",_,PyProof.Rows.slot_tuple_getitem.lookup,ht.typeIs,?_⟩;exact jb1 ht hs pl pu (by rw[hlen];exact hw) ⟨.ref a,H,I,rfl,q⟩
noncomputable def trV:V->Option Bool
 |.bl b=>some b
 |.int i=>some (i != 0)
 |_=>none
theorem ji7 {prog:Program}{w:World}{A:Around}{x:V}{v:Value}{b:Bool}(r:RelV x v)(h:trV x=some b){s:Shared}{Q:Bool->Shared->Prop}{E:Value->Shared->Prop}(q:Q b s):wpAny (model prog w) A (truthy v) Q E s:=by
 cases x with
 |bl c=>
  cases (show v=Value.bool c from r);cases h;exact wpAny_truthy_bool q
 |int i=>
  obtain⟨t,rfl⟩:=(show ∃t,v=Value.int i t from r);cases h;exact PySem.P.truthy_int q
 |_=>cases h
theorem jdT {pins:List (Addr×Obj)}{σ:St}{H:Hp}{s:Shared}{p:Addr}{ys:List V}(hc:X.calm=true)(I:Inv X pins σ H s)(h:SqL X.K H p ys\/SqT X.K H p ys){A:Around}(hA:A.handled=none){Q:Value->Shared->Prop}{E:Value->Shared->Prop}
  (q:∀(its:List Value) (I':Addr) (fp wr:List Addr) (St:Nat->Heap->Prop) (h2:Heap),Vals ys its->Walks X.prog X.w A I' fp wr ys.length (fun i v=>its[i]?=some v) St->St 0 h2->(∀b∈fp,b < h2.objs.size) ->
   (∀h' tk,(∀b o,b ∉ wr->h2.get? b=some o->h'.get? b=some o)->Inv X pins σ H { s with heap:=h',toks:=tk })->Q (.ref I') { s with heap:=h2 }):wpAny (model X.prog X.w) A (pyIter (.ref p)) Q E s:=by
 have back:∀(o:Obj) (h':Heap) (tk:Nat),(∀b ob,b ∉ [s.heap.objs.size]->(s.heap.push o).get? b=some ob->h'.get? b=some ob)->Inv X pins σ H { s with heap:=h',toks:=tk }:=fun o h' tk kp=>
  I.kept fun b ob e=>kp b ob (by simpa using ju9 (ju3 e)) (ju2 _ e)
 rcases h with h | h
 ·obtain⟨its,r,pl,hz⟩:=I.list h;have hlen:its.toArray.size=ys.length:=by rw[juv];exact r.length.symm
  have hlt:p < s.heap.objs.size:=by obtain⟨o,n,e,_⟩:=pl;exact ju3 e
  refine wpAny_pyIter_list pl.isList ?_;have W:=Walks.list (prog:=X.prog) (w:=X.w) hA s.heap.objs.size p (ju9 hlt) its.toArray;rw[hlen]at W;refine q its s.heap.objs.size _ _ (fun i h=>h.IsListIter s.heap.objs.size p i/\h.IsList p its.toArray) _ r (by simpa using W) ⟨⟨_,ju4 _ rfl,rfl,rfl⟩,pl.isList.push _⟩ (fun b hb=>?_) (fun h' tk kp=>back _ h' tk kp)
  rw[Heap.size_push];rcases List.mem_cons.mp hb with rfl | hb
  ·exact Nat.lt_succ_self _
  ·have:b=p:=by simpa using hb
   subst this;exact Nat.lt_succ_of_lt hlt
 ·obtain⟨its,r,pl,hz⟩:=I.tuple h;have hlen:its.toArray.size=ys.length:=by rw[juv];exact r.length.symm
  have hlt:p < s.heap.objs.size:=pl.lt;have pl':s.heap.IsTuple p its.toArray:=pl;refine wpAny_pyIter_tuple pl' ?_;have W:=Walks.tuple (prog:=X.prog) (w:=X.w) hA s.heap.objs.size p (ju9 hlt) its.toArray;rw[hlen]at W;refine q its s.heap.objs.size _ _ (fun i h=>h.IsTupleIter s.heap.objs.size p i/\h.IsTuple p its.toArray) _ r (by simpa using W) ⟨⟨_,ju4 _ rfl,rfl,rfl⟩,?_⟩ (fun b hb=>?_) (fun h' tk kp=>back _ h' tk kp)
  ·obtain⟨o,e,c⟩:=pl';exact⟨o,ju2 _ e,c⟩
  ·rw[Heap.size_push];rcases List.mem_cons.mp hb with rfl | hb
   ·exact Nat.lt_succ_self _
   ·have:b=p:=by simpa using hb
    subst this;exact Nat.lt_succ_of_lt hlt
theorem jeQ {ys:List V}{bs:List Bool}(h:ys.map trV=bs.map some):(List.range ys.length).all (fun i=>((ys[i]?).bind trV).getD false)=bs.all id/\(List.range ys.length).any (fun i=>((ys[i]?).bind trV).getD false)=bs.any id:=by
 have hl:ys.length=bs.length:=by simpa using congrArg List.length h
 have hg:∀i:Nat,((ys[i]?).bind trV).getD false=(bs[i]?).getD false:=fun i=>by
  have e:(ys.map trV)[i]?=(bs.map some)[i]?:=by rw[h]
  rw[jux,jux]at e;cases q:ys[i]? with
  |none=>rw[q]at e;cases q2:bs[i]? with
   |none=>rfl
   |some b=>rw[q2]at e;cases e
  |some y=>rw[q]at e;cases q2:bs[i]? with
   |none=>rw[q2]at e;cases e
   |some b=>rw[q2]at e;simp at e;simp[e]
 have ea:(List.range ys.length).map (fun i=>((ys[i]?).bind trV).getD false)=bs:=by
  apply List.ext_getElem?;intro i;rw[jux];by_cases hi:i < ys.length
  ·rw[List.getElem?_range hi];have hb:i < bs.length:=by omega
   rw[Option.map_some,hg i,jur hb];rfl
  ·rw[juH (by simpa using hi),juH (by omega)]
   rfl
 constructor
 ·conv=>rhs;rw[<-ea]
  rw[List.all_map];rfl
 ·conv=>rhs;rw[<-ea]
  rw[List.any_map];rfl
theorem jeR (hc:X.calm=true)(all:Bool):CallR X (.builtin (if all then "all" else "any")) (fun xs H Q=>∃(p:Addr) (ys:List V) (bs:List Bool),xs=[.ref p]/\(SqL X.K H p ys\/SqT X.K H p ys)/\ys.map trV=bs.map some/\Q (.bl (if all then bs.all id else bs.any id)) H):=by
 intro pins s σ H xs us Q I r h;obtain⟨p,ys,bs,rfl,hq,hb,q⟩:=h;obtain⟨u,rfl,rx⟩:=jbt r;cases rx;have hA:X.A.in1.handled=none:=I.ok.hd hc;have tro:∀its:List Value,Vals ys its->TruthOf X.prog X.w X.A.in1 (fun i v=>its[i]?=some v) (fun i=>((ys[i]?).bind trV).getD false):=fun its rv i v s Q E hP hQ=>by
  have hlen:=rv.length;have hi:i < ys.length:=by rw[hlen];exact(List.getElem?_eq_some_iff.mp hP).1
  obtain⟨u,e1,e2⟩:=rv.get (jur hi);rw[hP]at e1;cases e1;have e:(ys.map trV)[i]?=(bs.map some)[i]?:=by rw[hb]
  rw[jux,jux,jur hi]at e;cases q2:bs[i]? with
  |none=>rw[q2]at e;cases e
  |some b=>
   rw[q2]at e;have e:trV ys[i]=some b:=by simpa using e
   refine ji7 e2 e ?_;have:((ys[i]?).bind trV).getD false=b:=by rw[jur hi];simp[e]
   rw[<-this];exact hQ
 cases all with
 |true=>
  refine call_all_walk (jdT hc I hq hA fun its I' fp wr St h2 rv W st hfp back=>⟨I',fp,wr,_,_,St,_,rfl,W,st,tro its rv,fun h' tk kp=>?_⟩);rw[(jeQ hb).1];exact⟨.bl _,H,back h' tk kp,rfl,q⟩
 |false=>
  refine call_any_walk (jdT hc I hq hA fun its I' fp wr St h2 rv W st hfp back=>⟨I',fp,wr,_,_,St,_,rfl,W,st,tro its rv,fun h' tk kp=>?_⟩);rw[(jeQ hb).2];exact⟨.bl _,H,back h' tk kp,rfl,q⟩
end
end L2
namespace L2
open PySem PySem.Spec PyProof.Rows PySem.W PySem.Builtin PySem.Builtin.Getset_descriptor
structure ECls (K:Frag)(C:Addr):Prop where
 ga:findIn K (.ref C) "__getattribute__"=some (some (.builtin "BaseException.__getattribute__"))
 hk:findIn K (.ref C) "__getattr__"=some none
 ca:findIn K (.ref C) "__class__"=some (some (.builtin "object.__class__"))
 gs:specialIn K (.builtin "object.__class__") "__get__"=some (some (.builtin "getset_descriptor.__get__"))
 tk:takesIn K (.builtin "object.__class__")=some true
 mo:mroIn K C (.type "object")=some true
 mb:mroIn K C (.type "BaseException")=some true
 ms:mroIn K C (.ref C)=some true
 mv:mroIn K C (.type "ValueError")=some true
 cd:(clsIn K C).isSome=true
 ty:typeIn K (.ref C)=some (.type "type")
section
variable {prog:Program}{w:World}{A:Around}{E:Value->Shared->Prop}{s:Shared}{K:Frag}{x C:Addr}{ox:Obj}
inductive TyAt (h:Heap) (x C:Addr):Prop
 |mk (o:_):(h.get? x=some o)->(o.cls=.ref C)->TyAt h x C
theorem TyAt.looks {M:Model}{h:Heap}(t:TyAt h x C):Looks M h (typeOf (.ref x)) (.ref C):=by
 obtain⟨o,e,hc⟩:=t;have z:=(Looks.ld (M:=M) (part:=none) e).andThen (f:=fun o=>pure o.cls) Looks.now;rw[hc]at z;exact z
theorem ji8 {M:Model}{nameV:Value}{Q:Unit->Shared->Prop}(X:K.In s.heap)(e:ECls K C)(I:TyAt s.heap x C)(hq:Q () s) :
  wpAny M A (checkBuiltinCall "BaseException.__getattribute__" ⟨[.ref x,nameV],[]⟩) Q E s:=by
 have k1:builtinKind "BaseException.__getattribute__"=some .slot:=by decide +kernel
 have k2:splitId "BaseException.__getattribute__"=some ("BaseException","__getattribute__"):=by decide +kernel
 have ha:=F.args_bexc_ga (.ref x) nameV;have L0:=I.looks (M:=M);have L1:=looks_mroIn (M:=M) X e.mb;simp only[checkBuiltinCall,k1,k2];refine juT ?_;unfold isInstance;obtain⟨hh,g,d,t,os⟩:=s;refine juT (L0.at (L1.at ?_));repeat (first | wp_step)
 exact hq
theorem jlv {M:Model}{h:Heap}(X:K.In h)(e:ECls K C)(x:Addr):Looks M h (Builtin.ObjectAttr.find (.ref x) (.ref C) "__class__") (.bind (.builtin "getset_descriptor.__get__") (.builtin "object.__class__")):=by
 have a1:=looks_findIn (M:=M) X e.ca;have a2:=looks_specialIn (M:=M) X e.gs;have a3:=looks_takesIn (M:=M) X e.tk;refine a1.andThen (Looks.andThen (a:=some (Value.builtin "getset_descriptor.__get__")) (by unfold Builtin.ObjectAttr.getOf;exact a2) ?_)
 exact Looks.andThen (a:=some (.builtin "getset_descriptor.__get__",.builtin "object.__class__")) (a3.andThen Looks.now) (Looks.tag Looks.now)
theorem jon {R:Result->Shared->Prop}(X:K.In s.heap)(e:ECls K C)(I:TyAt s.heap x C)(h:R (.ok (.ret (.ref C))) s) :
  codeAny (model prog w) A (.call (.builtin "getset_descriptor.__get__") ⟨[.builtin "object.__class__",.ref x,.ref C],[]⟩) R s:=by
 have T0:=I.looks (M:=model prog w);have T1:=looks_mroIn (M:=model prog w) X e.mo;obtain⟨hp,ge,dr,tk,os⟩:=s;refine codeAny_call_builtin KF.slot_gs.plain KF.entry_gs ?_;refine KF.slot_gs.check _ _ _ _ _ _ _ _ KF.type_class (KF.args_gs _ _ _) ?_;unfold Builtin.«getset_descriptor.__get__»;unfold descrGet;rw[dga_obj];refine juT (juU ?_);unfold descrGetter;unfold descrCheckInstance;unfold descrNameAndClass;unfold isInstance;simp only[KF.owner_class];repeat lk
 refine⟨Code.quiet_builtin _ (by decide +kernel),codeAny_builtin KF.entry_class ?_⟩
 unfold Builtin.«object.__class__»;unfold shownTypeOf;repeat lk
 exact h
theorem ji9 {Q:Option Value->Shared->Prop}(X:K.In s.heap)(e:ECls K C)(I:TyAt s.heap x C)(h:Q (some (.ref C)) { s with toks:=s.toks + 1 }):wpAny (model prog w) A (getAttr? (.ref x) "__class__") Q E s:=by
 obtain⟨hh,g,d,t,os⟩:=s;have L0:=I.looks (M:=model prog w);have L1:=looks_findIn (M:=model prog w) X e.ga;have L2':=looks_findIn (M:=model prog w) X e.hk;have L3:=jlv (M:=model prog w) X e x;unfold getAttr? getAttrBy? getAttrBy;refine juT (wpAny_mkText (juT (wpAny_attempt ?_)));refine juY (juT (L0.at (juT (L1.at ?_))));have hx2:(Value.builtin "BaseException.__getattribute__" == Value.builtin "object.__getattribute__")=false:=by decide +kernel
 simp only[hx2,Bool.and_false,jvd,if_false];unfold getAttrByItsOwn hookBefore;simp only[onTheHeap,if_true];refine juT (L2'.at (juT (wpAny_attempt (juY ?_))));unfold callGetattribute boundAndCalled;simp only[Bool.false_and,jvd,if_false];rw[F.attr_ValueError.ga.bind];refine juT (juU ?_);refine wpAny_call (codeAny_call_builtin F.attr_ValueError.ga.plain F.entry_bexc_ga (ji8 X e I ?_));unfold Builtin.«object.__getattribute__»;refine juT (juW (a:=(Value.ref x,[Value.str "__class__" t])) rfl ?_);dsimp only;refine juT (juW (a:=("__class__":Str)) rfl ?_);refine juT (L0.at (juT (L3.at ?_)));dsimp only;unfold Builtin.ObjectAttr.bindTo;dsimp only;refine juT (juY (wpAny_call (jon (s:=⟨hh,g,d,t + 1,os⟩) X e I ?_)));dsimp only;refine juU ?_;dsimp only;exact juU (juU h)
theorem ECls.isTy {M:Model}{h:Heap}(e:ECls K C)(X:K.In h):Looks M h (isType (.ref C)) true:=by
 obtain⟨cd,hcd⟩:=Option.isSome_iff_exists.mp e.cd;unfold clsIn at hcd;split at hcd
 ·rename_i ho;intro A' Q' E' s' k q;unfold isType;unfold loadHead;exact juT (wpAny_loadPart (k _ _ (X _ _ ho)) (juU q))
 ·cases hcd
theorem jlw (e:ECls K C):KitX K (.ref x) (.ref C) (fun h=>TyAt h x C) where
 ty:=fun _ _ _ I=>I.looks
 it:=fun _ _ X _=>e.isTy X
 ne:=fun h tp dd its n sl X htp=>by
  obtain⟨cd,hcd⟩:=Option.isSome_iff_exists.mp e.cd;refine Bool.eq_false_iff.mpr fun q=>?_;have z:C=tp:=Value.ref.inj (beq_iff_eq.mp q);subst z;unfold clsIn at hcd;split at hcd
  ·rename_i ho;cases (X _ _ ho).symm.trans htp
  ·cases hcd
 ca:=fun X I k=>ji9 X e I k
end
end L2
namespace L2
open PySem PySem.Spec PyProof.Rows PySem.Builtin.SmallTypes
noncomputable def Sit (b:Bool)(h:Heap)(it l:Addr)(k:Nat)(xs:Array Value):Prop:=(b=true/\h.IsListIter it l k/\h.IsList l xs)\/(b=false/\h.IsTupleIter it l k/\h.IsTuple l xs)
noncomputable def Sq (b:Bool)(h:Heap)(l:Addr)(xs:Array Value):Prop:=(b=true/\h.IsList l xs)\/(b=false/\h.IsTuple l xs)
theorem Sit.at {b:Bool}{h h':Heap}{it l:Addr}{k:Nat}{xs:Array Value}(S:Sit b h it l k xs)(h1:∀o,h.get? it=some o->h'.get? it=some o)(h2:∀o,h.get? l=some o->h'.get? l=some o):Sit b h' it l k xs:=by
 rcases S with ⟨e,⟨o,a,r⟩,⟨o',a',r'⟩⟩ | ⟨e,⟨o,a,r⟩,⟨o',a',r'⟩⟩
 ·exact .inl ⟨e,⟨o,h1 o a,r⟩,⟨o',h2 o' a',r'⟩⟩
 ·exact .inr ⟨e,⟨o,h1 o a,r⟩,⟨o',h2 o' a',r'⟩⟩
theorem Sit.obj {b:Bool}{h:Heap}{it l:Addr}{k:Nat}{xs:Array Value}(S:Sit b h it l k xs):(∃o,h.get? it=some o/\∀v,o.data≠.cell v)/\∃o,h.get? l=some o/\(o.cls=.type "list"\/o.cls=.type "tuple"):=by
 rcases S with ⟨_,⟨o,a,_,d⟩,⟨o',a',c,_⟩⟩ | ⟨_,⟨o,a,_,d⟩,⟨o',a',c,_⟩⟩
 ·exact⟨⟨o,a,fun v z=>by rw[d]at z;cases z⟩,⟨o',a',.inl c⟩⟩
 ·exact⟨⟨o,a,fun v z=>by rw[d]at z;cases z⟩,⟨o',a',.inr c⟩⟩
section
variable {prog:Program}{w:World}{A:Around}{E:Value->Shared->Prop}{s:Shared}
theorem jhL {it t:Addr}{k:Nat}{xs:Array Value}{x:Value}{Q:Value->Shared->Prop}(I:s.heap.IsTupleIter it t k)(T:s.heap.IsTuple t xs)(hx:xs[k]?=some x)
  (go:∀h',h'.IsTupleIter it t (k + 1)->Heap.SameBut it s.heap h'->Q x { s with heap:=h' }):wpAny (model prog w) A (nextOf (.ref it)) Q E s:=by
 have ty:=I.typeIs;obtain⟨ob,e1,e2,e3⟩:=I;obtain⟨tb,f1,_,n,f3⟩:=T;unfold nextOf;refine juT (wpAny_callSpecial?_slot (name:=Str.ofString "__next__") ty F.slot_tuple_iterator_next (wpAny_call_entry F.slot_tuple_iterator_next ty F.entry_tuple_iterator_next ?_ (F.args_tuple_iterator_next_1 _)));show wpAny (model prog w) _ (field (.ref it) 0 >>= _) _ _ s;refine juT (juZ e1 e3 (x:=.ref t) rfl ?_);show wpAny (model prog w) _ (if (Value.ref t == Value.none)=true then _ else _) _ _ s;rw[if_neg (show ¬((Value.ref t == Value.none)=true)from jve)];show wpAny (model prog w) _ (field (.ref it) 1 >>= _) _ _ s;refine juT (juZ e1 e3 (x:=.int k 0) rfl ?_);show wpAny (model prog w) _ (seqItems? (.ref t) >>= _) _ _ s;refine juT (wpAny_seqItems f1 f3 ?_);simp only[hx,Int.toNat_natCast];refine juT (wpAny_setField e1 e3 (by simp) (juU ⟨x,rfl,juU (go _ ⟨_,ju5 _ e1 (Obj.isFreed_of_fields (Obj.data_mapFields e3 _)),(Obj.cls_mapFields ..).trans e2,?_⟩ (Heap.SameBut.update ..))⟩))
 rw[Obj.data_mapFields e3];simp[rawInt]
theorem jhM {it t:Addr}{k:Nat}{xs:Array Value}{Q:Value->Shared->Prop}(hh:A.handled=none)(I:s.heap.IsTupleIter it t k)(T:s.heap.IsTuple t xs)(hx:xs[k]?=none)
  (go:∀h' e,Heap.ExtBut it s.heap h'->(∃o,h'.get? e=some o/\o.cls=.type "StopIteration")->E (.ref e) { s with heap:=h' }):wpAny (model prog w) A (nextOf (.ref it)) Q E s:=by
 have ty:=I.typeIs;obtain⟨ob,e1,e2,e3⟩:=I;obtain⟨tb,f1,_,n,f3⟩:=T;unfold nextOf;refine juT (wpAny_callSpecial?_slot (name:=Str.ofString "__next__") ty F.slot_tuple_iterator_next (wpAny_call_entry F.slot_tuple_iterator_next ty F.entry_tuple_iterator_next ?_ (F.args_tuple_iterator_next_1 _)));show wpAny (model prog w) _ (field (.ref it) 0 >>= _) _ _ s;refine juT (juZ e1 e3 (x:=.ref t) rfl ?_);show wpAny (model prog w) _ (if (Value.ref t == Value.none)=true then _ else _) _ _ s;rw[if_neg (show ¬((Value.ref t == Value.none)=true)from jve)];show wpAny (model prog w) _ (field (.ref it) 1 >>= _) _ _ s;refine juT (juZ e1 e3 (x:=.int k 0) rfl ?_);show wpAny (model prog w) _ (seqItems? (.ref t) >>= _) _ _ s;refine juT (wpAny_seqItems f1 f3 ?_);simp only[hx,Int.toNat_natCast];refine juT (wpAny_rule (juT (wpAny_setField e1 e3 (by simp) (show wpAny (model prog w) _ (newExc (.type "StopIteration") [] >>= _) _ _ _ from juT ?_))))
 simp only[newTuple,newExc];refine juT (juX (juT (m:=firstArgMember _ _) (juW (a:=Value.none) (by first | rfl | (simp only[firstArgMember];rfl)) (juX ?_ (by size_fits)))) (by size_fits))
 simp only[raiseNew];refine juT (wpAny_handled (by
  first | rw[show A.in1.handled=none from hh] | rw[hh]
  exact juT (juU (wpAny_throw (go _ _ (((Heap.SameBut.update ..).extBut.push _).push _) ⟨_,ju4 _ rfl,rfl⟩)))))
theorem jdU {b:Bool}{it l:Addr}{k:Nat}{xs:Array Value}{x:Value}{Q:Value->Shared->Prop}(S:Sit b s.heap it l k xs)(ne:l≠it)(hx:xs[k]?=some x)
  (go:∀h',Sit b h' it l (k + 1) xs->Heap.SameBut it s.heap h'->Q x { s with heap:=h' }):wpAny (model prog w) A (nextOf (.ref it)) Q E s:=by
 rcases S with ⟨e,I,L⟩ | ⟨e,I,L⟩
 ·exact wpAny_nextOf_list_item I L hx fun h' I' sb=>go h' (.inl ⟨e,I',L.extBut sb.extBut ne⟩) sb
 ·exact jhL I L hx fun h' I' sb=>go h' (.inr ⟨e,I',L.extBut sb.extBut ne⟩) sb
theorem jgM {b:Bool}{it l:Addr}{k:Nat}{xs:Array Value}{Q:Value->Shared->Prop}(hh:A.handled=none)(S:Sit b s.heap it l k xs)(hx:xs[k]?=none)
  (go:∀h' e,Heap.ExtBut it s.heap h'->(∃o,h'.get? e=some o/\o.cls=.type "StopIteration")->E (.ref e) { s with heap:=h' }):wpAny (model prog w) A (nextOf (.ref it)) Q E s:=by
 rcases S with ⟨_,I,L⟩ | ⟨_,I,L⟩
 ·exact wpAny_nextOf_list_end hh I L hx go
 ·exact jhM hh I L hx go
structure Zs (b1 b2:Bool)(h:Heap)(z TI TO i1 i2 l1 l2:Addr)(k:Nat)(xs ys:Array Value)(f:Value):Prop where
 zi:IsZip h z TI TO f
 ti:IsPair h TI (.ref i1) (.ref i2)
 to_:∃a b,IsPair h TO a b
 s1:Sit b1 h i1 l1 k xs
 s2:Sit b2 h i2 l2 k ys
theorem joo {b1 b2:Bool}{z TI TO i1 i2 l1 l2:Addr}{k:Nat}{xs ys:Array Value}{x y:Value}{Q:Value->Shared->Prop}(D:ZipApart z TI TO i1 i2 l1 l2)(S:Zs b1 b2 s.heap z TI TO i1 i2 l1 l2 k xs ys .none)(hx:xs[k]?=some x)(hy:ys[k]?=some y)
  (go:∀h',Zs b1 b2 h' z TI TO i1 i2 l1 l2 (k + 1) xs ys (rawInt s.heap.objs.size)->IsPair h' s.heap.objs.size x y->(∀c o,c≠z->c≠TO->c≠i1->c≠i2->s.heap.get? c=some o->h'.get? c=some o)->Q (.ref s.heap.objs.size) { s with heap:=h' }) :
  wpAny (model prog w) A (Builtin.«zip.__next__» ⟨[.ref z],[]⟩) (fun fin s'=>∃v,fin=.done (.ret v)/\Q v s') E s:=by
 obtain⟨zi,ti,⟨a,b,to_⟩,s1,s2⟩:=S;show wpAny (model prog w) _ (field (.ref z) 2 >>= _) _ _ _;refine juT (juZ zi rfl (x:=.bool false) rfl ?_);show wpAny (model prog w) _ (field (.ref z) 3 >>= _) _ _ _;refine juT (juZ zi rfl (x:=.ref TI) rfl (juT (wpAny_seqItems ti rfl ?_)));show wpAny (model prog w) _ (ownedTupleIsFree (.ref z) >>= _) _ _ _;refine juT ?_;unfold ownedTupleIsFree;refine juT (juZ zi rfl (x:=.none) rfl (juU ?_));simp only[if_true];refine juT (wpAny_rule (juT (juZ zi rfl (x:=.ref TO) rfl (juT (wpAny_setField_rec zi (by simp) fun g1 y1 u1=>?_)))))
 replace y1:IsZip g1 z TI TO .ellipsis:=y1;refine juT ?_;simp only[List.forIn_cons,List.forIn_nil,List.zipIdx_cons,List.zipIdx_nil];refine juT (juT (wpAny_onRaise (show wpAny (model prog w) _ (nextOf (.ref i1) >>= _) _ _ _ from juT ?_)));refine jdU (s1.at (fun o e=>u1.extBut _ o D.i1z e) fun o e=>u1.extBut _ o D.l1z e) D.l1i1 hx fun g2 y2 u2=>juU ?_;have t2:IsPair g2 TO a b:=u2.extBut _ _ D.TOi1 (u1.extBut _ _ D.TOz to_);refine juT (wpAny_seqItems t2 rfl (juT (wpAny_updateSeq_pair t2 fun g3 t3 u3=>juT (wpAny_letGo (juU ?_)))));replace t3:IsPair g3 TO x b:=t3;refine juT (juT (wpAny_onRaise (show wpAny (model prog w) _ (nextOf (.ref i2) >>= _) _ _ _ from juT ?_)));refine jdU (s2.at (fun o e=>u3.extBut _ o D.TOi2.symm (u2.extBut _ o D.i12.symm (u1.extBut _ o D.i2z e))) fun o e=>u3.extBut _ o D.l2TO (u2.extBut _ o D.l2i1 (u1.extBut _ o D.l2z e))) D.l2i2 hy fun g4 y4 u4=>juU ?_;have t4:IsPair g4 TO x b:=u4.extBut _ _ D.TOi2 t3;refine juT (wpAny_seqItems t4 rfl (juT (wpAny_updateSeq_pair t4 fun g5 t5 u5=>juT (wpAny_letGo (juU (juU ?_))))));replace t5:IsPair g5 TO x y:=t5;refine juT (wpAny_seqItems t5 rfl (juT (wpAny_newTuple ?_)));have sz:g5.objs.size=s.heap.objs.size:=by rw[u5.1,u4.1,u3.1,u2.1,u1.1]
 have z5:IsZip g5 z TI TO .ellipsis:=u5.extBut _ _ D.TOz.symm (u4.extBut _ _ D.i2z.symm (u3.extBut _ _ D.TOz.symm (u2.extBut _ _ D.i1z.symm y1)));have k5:∀c o,c≠z->c≠TO->c≠i1->c≠i2->s.heap.get? c=some o->g5.get? c=some o:=fun c o c1 c2 c3 c4 e=>u5.extBut c o c2 (u4.extBut c o c4 (u3.extBut c o c2 (u2.extBut c o c3 (u1.extBut c o c1 e))));have a5:Sit b1 g5 i1 l1 (k + 1) xs:=y2.at (fun o e=>u5.extBut _ o D.TOi1.symm (u4.extBut _ o D.i12 (u3.extBut _ o D.TOi1.symm e))) fun o e=>u5.extBut _ o D.l1TO (u4.extBut _ o D.l1i2 (u3.extBut _ o D.l1TO e));have b5:Sit b2 g5 i2 l2 (k + 1) ys:=y4.at (fun o e=>u5.extBut _ o D.TOi2.symm e) fun o e=>u5.extBut _ o D.l2TO e;have lz:z < g5.objs.size:=ju3 z5;show wpAny (model prog w) _ (ownedTupleHandOut (.ref z) (.ref g5.objs.size) >>= _) _ _ _;refine juT ?_;unfold ownedTupleHandOut;refine juT (wpAny_setField_rec (show IsZip (g5.push { cls:=.type "tuple",data:=.seq #[x,y] }) z TI TO .ellipsis from ju2 _ z5) (by simp) fun g7 z7 u7=>?_)
 replace z7:IsZip g7 z TI TO (rawInt g5.objs.size):=z7;refine wpAny_setField_rec z7 (by simp) fun g8 z8 u8=>?_
 replace z8:IsZip g8 z TI TO (rawInt g5.objs.size):=z8;have up:∀c o,c≠z->g5.get? c=some o->g8.get? c=some o:=fun c o c1 e=>u8.extBut c o c1 (u7.extBut c o c1 (ju2 _ e));have p8:IsPair g8 g5.objs.size x y:=u8.extBut _ _ (Nat.ne_of_gt lz) (u7.extBut _ _ (Nat.ne_of_gt lz) (ju4 _ rfl));rw[sz]at z8 p8;refine juU ⟨.ref g5.objs.size,rfl,?_⟩;rw[sz];exact go g8 ⟨z8,up _ _ D.TIz (k5 _ _ D.TIz D.TITO D.TIi1 D.TIi2 ti),⟨x,y,up _ _ D.TOz t5⟩,a5.at (fun o e=>up _ o D.i1z e) (fun o e=>up _ o D.l1z e),b5.at (fun o e=>up _ o D.i2z e) (fun o e=>up _ o D.l2z e)⟩ p8 fun c o c1 c2 c3 c4 e=>up c o c1 (k5 c o c1 c2 c3 c4 e)
theorem jlx {b1 b2:Bool}{z TI TO i1 i2 l1 l2:Addr}{k:Nat}{xs ys:Array Value}{Q:Fin->Shared->Prop}(hh:A.handled=none)(D:ZipApart z TI TO i1 i2 l1 l2)(S:Zs b1 b2 s.heap z TI TO i1 i2 l1 l2 k xs ys .none)(he:xs[k]?=none\/ys[k]?=none)
  (go:∀h' e,(∀c o,c≠z->c≠TO->c≠i1->c≠i2->s.heap.get? c=some o->h'.get? c=some o)->(∃o,h'.get? e=some o/\o.cls=.type "StopIteration")->E (.ref e) { s with heap:=h' }) :
  wpAny (model prog w) A (Builtin.«zip.__next__» ⟨[.ref z],[]⟩) Q E s:=by
 obtain⟨zi,ti,⟨a,b,to_⟩,s1,s2⟩:=S;show wpAny (model prog w) _ (field (.ref z) 2 >>= _) _ _ _;refine juT (juZ zi rfl (x:=.bool false) rfl ?_);show wpAny (model prog w) _ (field (.ref z) 3 >>= _) _ _ _;refine juT (juZ zi rfl (x:=.ref TI) rfl (juT (wpAny_seqItems ti rfl ?_)));show wpAny (model prog w) _ (ownedTupleIsFree (.ref z) >>= _) _ _ _;refine juT ?_;unfold ownedTupleIsFree;refine juT (juZ zi rfl (x:=.none) rfl (juU ?_));simp only[if_true];refine juT (wpAny_rule (juT (juZ zi rfl (x:=.ref TO) rfl (juT (wpAny_setField_rec zi (by simp) fun g1 y1 u1=>?_)))))
 replace y1:IsZip g1 z TI TO .ellipsis:=y1;refine juT ?_;simp only[List.forIn_cons,List.forIn_nil,List.zipIdx_cons,List.zipIdx_nil];refine juT (juT (wpAny_onRaise (show wpAny (model prog w) _ (nextOf (.ref i1) >>= _) _ _ _ from juT ?_)));have s1':=s1.at (h':=g1) (fun o e=>u1.extBut _ o D.i1z e) fun o e=>u1.extBut _ o D.l1z e;cases hx:xs[k]? with
 |none=>
  refine jgM hh s1' hx fun g2 ea u2 hzz=>?_;obtain⟨oe,q1,q2⟩:=hzz;have z2:IsZip g2 z TI TO .ellipsis:=u2 _ _ D.i1z.symm y1;have ne:ea≠z:=fun q=>by subst q;rw[z2]at q1;cases q1;simp at q2
  exact wpAny_setField_rec z2 (by simp) fun g3 _ u3=>go g3 ea (fun c o c1 _ c3 _ q=>u3.extBut _ _ c1 (u2 _ _ c3 (u1.extBut _ _ c1 q))) ⟨oe,u3.extBut _ _ ne q1,q2⟩
 |some x=>
  have hy:ys[k]?=none:=by
   rcases he with h | h
   ·rw[hx]at h;cases h
   ·exact h
  refine jdU s1' D.l1i1 hx fun g2 y2 u2=>juU ?_;have t2:IsPair g2 TO a b:=u2.extBut _ _ D.TOi1 (u1.extBut _ _ D.TOz to_);refine juT (wpAny_seqItems t2 rfl (juT (wpAny_updateSeq_pair t2 fun g3 t3 u3=>juT (wpAny_letGo (juU ?_)))));refine juT (juT (wpAny_onRaise (show wpAny (model prog w) _ (nextOf (.ref i2) >>= _) _ _ _ from juT ?_)));refine jgM hh (s2.at (fun o e=>u3.extBut _ o D.TOi2.symm (u2.extBut _ o D.i12.symm (u1.extBut _ o D.i2z e))) fun o e=>u3.extBut _ o D.l2TO (u2.extBut _ o D.l2i1 (u1.extBut _ o D.l2z e))) hy fun g4 ea u4 hzz=>?_;obtain⟨oe,q1,q2⟩:=hzz;have z4:IsZip g4 z TI TO .ellipsis:=u4 _ _ D.i2z.symm (u3.extBut _ _ D.TOz.symm (u2.extBut _ _ D.i1z.symm y1));have ne:ea≠z:=fun q=>by subst q;rw[z4]at q1;cases q1;simp at q2
  exact wpAny_setField_rec z4 (by simp) fun g5 _ u5=>go g5 ea (fun c o c1 c2 c3 c4 q=>u5.extBut _ _ c1 (u4 _ _ c4 (u3.extBut _ _ c2 (u2.extBut _ _ c3 (u1.extBut _ _ c1 q))))) ⟨oe,u5.extBut _ _ ne q1,q2⟩
theorem jhN {b1 b2:Bool}{z TI TO i1 i2 l1 l2:Addr}{k:Nat}{xs ys:Array Value}{x y:Value}{Q:Option Value->Shared->Prop}(D:ZipApart z TI TO i1 i2 l1 l2)(S:Zs b1 b2 s.heap z TI TO i1 i2 l1 l2 k xs ys .none)(hx:xs[k]?=some x)(hy:ys[k]?=some y)
  (go:∀h',Zs b1 b2 h' z TI TO i1 i2 l1 l2 (k + 1) xs ys (rawInt s.heap.objs.size)->IsPair h' s.heap.objs.size x y->(∀c o,c≠z->c≠TO->c≠i1->c≠i2->s.heap.get? c=some o->h'.get? c=some o)->Q (some (.ref s.heap.objs.size)) { s with heap:=h' }) :
  wpAny (model prog w) A (pyNext (.ref z)) Q E s:=by
 have ty:s.TypeIs (.ref z) "zip":=⟨_,S.zi,rfl⟩;unfold pyNext;exact juT (wpAny_attempt (wpAny_callSpecial?_slot (name:=Str.ofString "__next__") ty F.slot_zip_next (wpAny_call_entry F.slot_zip_next ty F.entry_zip_next (joo D S hx hy fun h' q1 q2 q3=>juU (go h' q1 q2 q3)) (F.args_zip_next_1 _))))
theorem jhO {b1 b2:Bool}{z TI TO i1 i2 l1 l2:Addr}{k:Nat}{xs ys:Array Value}{Q:Option Value->Shared->Prop}(hh:A.handled=none)(D:ZipApart z TI TO i1 i2 l1 l2)(S:Zs b1 b2 s.heap z TI TO i1 i2 l1 l2 k xs ys .none)(he:xs[k]?=none\/ys[k]?=none)
  (go:∀h',(∀c o,c≠z->c≠TO->c≠i1->c≠i2->s.heap.get? c=some o->h'.get? c=some o)->Q none { s with heap:=h' }):wpAny (model prog w) A (pyNext (.ref z)) Q E s:=by
 have ty:s.TypeIs (.ref z) "zip":=⟨_,S.zi,rfl⟩;unfold pyNext;refine juT (wpAny_attempt (wpAny_callSpecial?_slot (name:=Str.ofString "__next__") ty F.slot_zip_next (wpAny_call_entry F.slot_zip_next ty F.entry_zip_next (jlx hh D S he fun h' ea hk ⟨o,ho,hc⟩=>?_) (F.args_zip_next_1 _))));exact juT (wpAny_isInstance (T:="StopIteration") (b:=true) ⟨o,ho,hc⟩ isSubtype_stop (juU (go _ hk)))
end
end L2
namespace L2
open PySem PySem.Spec PyProof.Rows
noncomputable def itO (b:Bool)(l:Addr):Obj:=if b then { cls:=.type "list_iterator",data:=.fields #[.ref l,.int 0 0] } else { cls:=.type "tuple_iterator",data:=.fields #[.ref l,.int 0 0] }
theorem Sq.push {b:Bool}{h:Heap}{l:Addr}{xs:Array Value}(S:Sq b h l xs)(o:Obj):Sq b (h.push o) l xs:=by
 rcases S with ⟨e,L⟩ | ⟨e,L⟩
 ·exact .inl ⟨e,L.push o⟩
 ·exact .inr ⟨e,L.push o⟩
theorem jja {prog:Program}{w:World}{A:Around}{E:Value->Shared->Prop}{s:Shared}{b:Bool}{l:Addr}{xs:Array Value}{Q:Value->Shared->Prop}(S:Sq b s.heap l xs)
  (go:Q (.ref s.heap.objs.size) { s with heap:=s.heap.push (itO b l) }):wpAny (model prog w) A (pyIter (.ref l)) Q E s:=by
 rcases S with ⟨e,L⟩ | ⟨e,L⟩
 ·subst e;exact wpAny_pyIter_list L go
 ·subst e;exact wpAny_pyIter_tuple L go
theorem Sit.new {b:Bool}{h h':Heap}{it l:Addr}{xs:Array Value}(S:Sq b h l xs)(e:h'.get? it=some (itO b l))(k:∀o,h.get? l=some o->h'.get? l=some o):Sit b h' it l 0 xs:=by
 rcases S with ⟨z,⟨o,a,r⟩⟩ | ⟨z,⟨o,a,r⟩⟩
 ·subst z;exact .inl ⟨rfl,⟨_,e,rfl,rfl⟩,⟨o,k o a,r⟩⟩
 ·subst z;exact .inr ⟨rfl,⟨_,e,rfl,rfl⟩,⟨o,k o a,r⟩⟩
noncomputable abbrev zA (h:Heap)(b1:Bool)(l1:Addr):Heap:=h.push (itO b1 l1)
noncomputable abbrev zB (h:Heap)(b1 b2:Bool)(l1 l2:Addr):Heap:=(zA h b1 l1).push (itO b2 l2)
noncomputable abbrev zC (h:Heap)(b1 b2:Bool)(l1 l2:Addr):Heap:=(zB h b1 b2 l1 l2).push { cls:=.type "tuple",data:=.seq #[.ref h.objs.size,.ref (zA h b1 l1).objs.size] }
noncomputable abbrev zD (h:Heap)(b1 b2:Bool)(l1 l2:Addr):Heap:=(zC h b1 b2 l1 l2).push { cls:=.type "tuple",data:=.seq #[.none,.none] }
noncomputable abbrev zE (h:Heap)(b1 b2:Bool)(l1 l2:Addr):Heap:=(zD h b1 b2 l1 l2).push { cls:=.type "zip",data:=.fields #[.none,.bool false,.bool false,.ref (zB h b1 b2 l1 l2).objs.size,.ref (zC h b1 b2 l1 l2).objs.size] }
theorem jop (b1 b2:Bool)(l1 l2:Addr)(xs ys:Array Value):Meets (Builtin.«zip.__new__» ⟨[.type "zip",.ref l1,.ref l2],[]⟩) (fun _ R s=>Sq b1 s.heap l1 xs/\Sq b2 s.heap l2 ys/\R (.ok (.ret (.ref (zD s.heap b1 b2 l1 l2).objs.size))) { s with heap:=zE s.heap b1 b2 l1 l2 }):=
 .of_wp fun prog w A R s h=>by
  obtain⟨hp,g,d,tk,os⟩:=s;obtain⟨S1,S2,h⟩:=h;have hsub:=sub_zip;have T1:Sq b1 (Shared.heap ⟨hp,g,d,tk,os⟩) l1 xs:=S1;have T2:Sq b2 (Shared.heap ⟨hp.push (itO b1 l1),g,d,tk,os⟩) l2 ys:=Sq.push S2 _;wp_walk using jja T1,jja T2;exact⟨_,rfl,h⟩
section
variable {prog:Program}{w:World}{A:Around}{E:Value->Shared->Prop}{s:Shared}
theorem jly {b1 b2:Bool}{l1 l2:Addr}{xs ys:Array Value}{Q:Value->Shared->Prop}(S1:Sq b1 s.heap l1 xs)(S2:Sq b2 s.heap l2 ys)
  (go:∀h',Zs b1 b2 h' (s.heap.objs.size + 4) (s.heap.objs.size + 2) (s.heap.objs.size + 3) s.heap.objs.size (s.heap.objs.size + 1) l1 l2 0 xs ys .none->(∀c o,s.heap.get? c=some o->h'.get? c=some o)->Q (.ref (s.heap.objs.size + 4)) { s with heap:=h' }) :
  wpAny (model prog w) A (call (.type "zip") [.ref l1,.ref l2]) Q E s:=by
 refine callType_new F.called_zip (by decide) (F.typeCall_zip_2 _ _) (F.newCall_zip_2 _ _) (fun obj=>F.args_object_init_3 obj _ _) F.entry_zip_new (jop b1 b2 l1 l2 xs ys) ⟨S1,S2,?_⟩
 have n1:(zA s.heap b1 l1).objs.size=s.heap.objs.size + 1:=Heap.size_push ..;have n2:(zB s.heap b1 b2 l1 l2).objs.size=s.heap.objs.size + 2:=by rw[Heap.size_push,n1]
 have n3:(zC s.heap b1 b2 l1 l2).objs.size=s.heap.objs.size + 3:=by rw[Heap.size_push,n2]
 have n4:(zD s.heap b1 b2 l1 l2).objs.size=s.heap.objs.size + 4:=by rw[Heap.size_push,n3]
 have up:∀c o,s.heap.get? c=some o->(zE s.heap b1 b2 l1 l2).get? c=some o:=fun c o e=>ju2 _ (ju2 _ (ju2 _ (ju2 _ (ju2 _ e))));have g5:(zE s.heap b1 b2 l1 l2).get? (zD s.heap b1 b2 l1 l2).objs.size=some _:=ju4 _ rfl;have g4:(zE s.heap b1 b2 l1 l2).get? (zC s.heap b1 b2 l1 l2).objs.size=some _:=ju2 _ (ju4 _ rfl);have g3:(zE s.heap b1 b2 l1 l2).get? (zB s.heap b1 b2 l1 l2).objs.size=some _:=ju2 _ (ju2 _ (ju4 _ rfl));have g2:(zE s.heap b1 b2 l1 l2).get? (zA s.heap b1 l1).objs.size=some (itO b2 l2):=ju2 _ (ju2 _ (ju2 _ (ju4 _ (by cases b2 <;> rfl))))
 have g1:(zE s.heap b1 b2 l1 l2).get? s.heap.objs.size=some (itO b1 l1):=ju2 _ (ju2 _ (ju2 _ (ju2 _ (ju4 _ (by cases b1 <;> rfl)))))
 show _/\_;rw[n2,n3,n4]at g5;rw[n1,n2]at g3;rw[n3]at g4;rw[n1]at g2;rw[n4];exact⟨⟨_,g5,rfl⟩,go _ ⟨g5,g3,⟨_,_,g4⟩,Sit.new S1 g1 (up l1),Sit.new S2 g2 (up l2)⟩ up⟩
end
noncomputable def SqB (K:PySem.W.Frag)(b:Bool)(H:Hp)(a:Addr)(xs:List V):Prop:=(b=true/\SqL K H a xs)\/(b=false/\SqT K H a xs)
noncomputable def Itz (K:PySem.W.Frag)(b1 b2:Bool)(l1 l2:Addr):It where
 go i H:=∃xs ys x y,SqB K b1 H l1 xs/\SqB K b2 H l2 ys/\xs[i]?=some x/\ys[i]?=some y
 yld i H v H':=∃p x y,v=.ref p/\H p=none/\H'=upd H p (.tup [x,y])/\(∀xs,SqB K b1 H l1 xs->xs[i]?=some x)/\∀ys,SqB K b2 H l2 ys->ys[i]?=some y
 stop i H:=∃xs ys,SqB K b1 H l1 xs/\SqB K b2 H l2 ys/\(xs.length<=i\/ys.length<=i)
section
variable {X:Cx}{pins:List (Addr×Obj)}{σ:St}{H:Hp}{s:Shared}{b:Bool}{a:Addr}{xs ys:List V}
theorem Inv.sqb (I:Inv X pins σ H s)(h:SqB X.K b H a xs):∃its:List Value,Vals xs its/\Sq b s.heap a its.toArray/\xs.length<=sizeLine:=by
 rcases h with ⟨e,h⟩ | ⟨e,h⟩
 ·obtain⟨its,r,p,z⟩:=I.list h;exact⟨its,r,.inl ⟨e,p.isList⟩,z⟩
 ·obtain⟨its,r,p,z⟩:=I.tuple h;exact⟨its,r,.inr ⟨e,p⟩,z⟩
theorem Inv.sqb_inj (I:Inv X pins σ H s)(h:SqB X.K b H a xs)(h':SqB X.K b H a ys):xs=ys:=by
 rcases h with ⟨e,h⟩ | ⟨e,h⟩
 ·rcases h' with ⟨e',h'⟩ | ⟨e',h'⟩
  ·exact I.list_inj h h'
  ·rw[e]at e';cases e'
 ·rcases h' with ⟨e',h'⟩ | ⟨e',h'⟩
  ·rw[e]at e';cases e'
  ·exact I.tuple_inj h h'
theorem Inv.turnedN {h':Heap}{t':Nat}{fp:List Addr}(I:Inv X pins σ H s)(k:∀b o,b ∉ fp->s.heap.get? b=some o->h'.get? b=some o)(hf:∀b∈fp,FpOk X pins H b):Inv X pins σ H { s with heap:=h',toks:=t' }:=by
 have nit:∀b u,H b=some u->b ∉ fp:=fun b u e z=>by rw[(hf b z).1]at e;cases e
 refine I.call' (ch:=fp) rfl ⟨fun b o e _ _ hc=>k b o hc e,fun b o e _ _ hc=>⟨o.slots,k b o hc e⟩,fun _ _ _ n _=>n,fun b o e hc=>⟨o,k b o hc e⟩,fun _ _ e=>e,fun _ _ _ e=>e,fun b ps e=>⟨#[],by rw[e];simp⟩⟩ (fun b u e=>?_) I.bare fun b hb=>?_
 ·refine(I.hok b u e).stay (fun c v hc q=>k c v ?_ q) (fun _ q=>q) fun _ _ q=>q;rcases hc with z | z
  ·rw[z];exact nit b u e
  ·exact nit c _ z
 ·obtain⟨_,f1,_,f3,f4,f5⟩:=hf b hb;exact⟨f3,f1,f4,f5⟩
end
theorem Inv.turnedP {X:Cx}{pins:List (Addr×Obj)}{σ:St}{H:Hp}{s:Shared}{h':Heap}{t':Nat}{fp:List Addr}{x y:V}{u v:Value}(I:Inv X pins σ H s)(k:∀b o,b ∉ fp->s.heap.get? b=some o->h'.get? b=some o)(hf:∀b∈fp,FpOk X pins H b)
  (rx:RelV x u) (ry:RelV y v) (pr:IsPair h' s.heap.objs.size u v):Inv X pins σ (upd H s.heap.objs.size (.tup [x,y])) { s with heap:=h',toks:=t' }:=by
 have hn:H s.heap.objs.size=none:=I.hok.fresh (ju7 _);have nit:∀b u,H b=some u->b ∉ fp:=fun b u e z=>by rw[(hf b z).1]at e;cases e
 refine I.call' (ch:=fp) rfl ⟨fun b o e _ _ hc=>k b o hc e,fun b o e _ _ hc=>⟨o.slots,k b o hc e⟩,fun b o e n _=>?_,fun b o e hc=>⟨o,k b o hc e⟩,fun b xs e=>?_,fun b o w e=>?_,fun b ps e=>⟨#[],?_⟩⟩ (fun b w e=>?_) I.bare fun b hb=>?_
 ·rw[jac (ju9 (ju3 e))];exact n
 ·rw[jac (jab e hn)];exact e
 ·rw[jac (jab e hn)];exact e
 ·rw[jac (jab e hn),e];simp
 ·by_cases hb:b=s.heap.objs.size
  ·subst hb;rw[jak]at e;cases e;exact⟨by rw[sizeLine_eq];show 2<=16777216;decide,[u,v],.cons rx (.cons ry .nil),_,pr,rfl,_,rfl⟩
  ·rw[jac hb]at e;refine(I.hok b w e).stay (fun c v hc q=>k c v ?_ q) (fun c q=>?_) fun c ts q=>?_
   ·rcases hc with z | z
    ·rw[z];exact nit b w e
    ·exact nit c _ z
   ·rw[jac (jab q hn)];exact q
   ·rw[jac (jab q hn)];exact q
 ·obtain⟨_,f1,_,f3,f4,f5⟩:=hf b hb;exact⟨f3,f1,f4,f5⟩
structure Zi (b1 b2:Bool)(h:Heap)(z TI TO i1 i2 l1 l2:Addr)(k:Nat)(f:Value):Prop where
 zi:IsZip h z TI TO f
 ti:IsPair h TI (.ref i1) (.ref i2)
 to_:∃a b,IsPair h TO a b
 s1:(b1=true/\h.IsListIter i1 l1 k)\/(b1=false/\h.IsTupleIter i1 l1 k)
 s2:(b2=true/\h.IsListIter i2 l2 k)\/(b2=false/\h.IsTupleIter i2 l2 k)
section
variable {b1 b2:Bool}{h h':Heap}{z TI TO i1 i2 l1 l2:Addr}{k:Nat}{f:Value}{xs ys:Array Value}
theorem Zs.zi' (S:Zs b1 b2 h z TI TO i1 i2 l1 l2 k xs ys f):Zi b1 b2 h z TI TO i1 i2 l1 l2 k f:=⟨S.zi,S.ti,S.to_,S.s1.imp (fun q=>⟨q.1,q.2.1⟩) (fun q=>⟨q.1,q.2.1⟩),S.s2.imp (fun q=>⟨q.1,q.2.1⟩) (fun q=>⟨q.1,q.2.1⟩)⟩
theorem jnt {b:Bool}{it l:Addr}(q:(b=true/\h.IsListIter it l k)\/(b=false/\h.IsTupleIter it l k))(S:Sq b h l xs):Sit b h it l k xs:=by
 rcases q with ⟨e,q⟩ | ⟨e,q⟩
 ·rcases S with ⟨e',S⟩ | ⟨e',S⟩
  ·exact .inl ⟨e,q,S⟩
  ·rw[e]at e';cases e'
 ·rcases S with ⟨e',S⟩ | ⟨e',S⟩
  ·rw[e]at e';cases e'
  ·exact .inr ⟨e,q,S⟩
theorem Zi.zs (S:Zi b1 b2 h z TI TO i1 i2 l1 l2 k f)(S1:Sq b1 h l1 xs)(S2:Sq b2 h l2 ys):Zs b1 b2 h z TI TO i1 i2 l1 l2 k xs ys f:=⟨S.zi,S.ti,S.to_,jnt S.s1 S1,jnt S.s2 S2⟩
theorem Zi.at (S:Zi b1 b2 h z TI TO i1 i2 l1 l2 k f)(q:∀b∈[z,TI,TO,i1,i2],∀o,h.get? b=some o->h'.get? b=some o):Zi b1 b2 h' z TI TO i1 i2 l1 l2 k f:=by
 obtain⟨zi,ti,⟨a,b,to_⟩,s1,s2⟩:=S;refine⟨q z (by simp) _ zi,q TI (by simp) _ ti,⟨a,b,q TO (by simp) _ to_⟩,?_,?_⟩
 ·rcases s1 with ⟨e,o,r1,r2⟩ | ⟨e,o,r1,r2⟩
  ·exact .inl ⟨e,o,q i1 (by simp) o r1,r2⟩
  ·exact .inr ⟨e,o,q i1 (by simp) o r1,r2⟩
 ·rcases s2 with ⟨e,o,r1,r2⟩ | ⟨e,o,r1,r2⟩
  ·exact .inl ⟨e,o,q i2 (by simp) o r1,r2⟩
  ·exact .inr ⟨e,o,q i2 (by simp) o r1,r2⟩
theorem jdV {b:Bool}{it l:Addr}(q:(b=true/\h.IsListIter it l k)\/(b=false/\h.IsTupleIter it l k)):∃o,h.get? it=some o/\∀v,o.data≠.cell v:=by
 rcases q with ⟨_,o,r1,_,r2⟩ | ⟨_,o,r1,_,r2⟩ <;> exact⟨o,r1,fun v z=>by rw[r2]at z;cases z⟩
end
theorem jlz {P:Program}{w:World}{K:PySem.W.Frag}{es:List Expr}{n:Nat}{pos:Pos}{b1 b2:Bool}{z TI TO i1 i2 l1 l2:Addr}(D:ZipApart z TI TO i1 i2 l1 l2) :
  Turn P w K (.Tuple es n pos) (Itz K b1 b2 l1 l2) [z,TI,TO,i1,i2] z (fun i h=>Zi b1 b2 h z TI TO i1 i2 l1 l2 i .none) where
 mem:=by simp
 obj:=fun i h st b hb=>by
  obtain⟨zi,ti,⟨a,c,to_⟩,s1,s2⟩:=st;simp only[juu,juS,or_false]at hb;rcases hb with rfl | rfl | rfl | rfl | rfl
  ·exact⟨_,zi,fun v q=>by simp at q⟩
  ·exact⟨_,ti,fun v q=>by simp at q⟩
  ·exact⟨_,to_,fun v q=>by simp at q⟩
  ·exact jdV s1
  ·exact jdV s2
 keep:=fun i h h' st k=>st.at k
 item:=by
  intro X hP hw hK hc i pins s σ H E I hf st hg;subst hP hw hK;obtain⟨xs,ys,x,y,q1,q2,hx,hy⟩:=hg;obtain⟨as,r1,S1,_⟩:=I.sqb q1;obtain⟨bs,r2,S2,_⟩:=I.sqb q2;obtain⟨u1,hu1,ru1⟩:=r1.get hx;obtain⟨u2,hu2,ru2⟩:=r2.get hy;refine jhN D (st.zs S1 S2) (x:=u1) (y:=u2) (by simpa using hu1) (by simpa using hu2) fun h1 st1 pr kp=>⟨_,rfl,?_⟩
  refine wpAny_letOwnedTupleGo_zip st1.zi fun h2 zi2 sb2=>?_;have zlt:z < s.heap.objs.size:=ju3 st.zi;have kp2:∀b o,b ∉ [z,TI,TO,i1,i2]->s.heap.get? b=some o->h2.get? b=some o:=fun b o hb e=>by
   simp only[juu,juS,or_false,not_or]at hb;exact sb2.extBut b o hb.1 (kp b o hb.1 hb.2.2.1 hb.2.2.2.1 hb.2.2.2.2 e)
  have pr2:IsPair h2 s.heap.objs.size u1 u2:=sb2.extBut _ _ (Nat.ne_of_gt zlt) pr;have hn:H s.heap.objs.size=none:=I.hok.fresh (ju7 _);have I3:Inv X pins σ (upd H s.heap.objs.size (.tup [x,y])) { s with heap:=h2 }:=I.turnedP (t':=s.toks) kp2 hf ru1 ru2 pr2
  have fin:∀b∈[z,TI,TO,i1,i2],b < s.heap.objs.size:=fun b hb=>by
   obtain⟨zi,ti,⟨a,c,to_⟩,s1,s2⟩:=st;simp only[juu,juS,or_false]at hb;rcases hb with rfl | rfl | rfl | rfl | rfl
   ·exact ju3 zi
   ·exact ju3 ti
   ·exact ju3 to_
   ·obtain⟨o,e,_⟩:=jdV s1;exact ju3 e
   ·obtain⟨o,e,_⟩:=jdV s2;exact ju3 e
  have st2:Zi b1 b2 h2 z TI TO i1 i2 l1 l2 (i + 1) .none:=by
   obtain⟨_,ti,⟨a,c,to_⟩,s1,s2⟩:=st1.zi';refine⟨zi2,sb2.extBut _ _ D.TIz ti,⟨a,c,sb2.extBut _ _ D.TOz to_⟩,?_,?_⟩
   ·rcases s1 with ⟨e,o,r1,r2⟩ | ⟨e,o,r1,r2⟩
    ·exact .inl ⟨e,o,sb2.extBut _ _ D.i1z r1,r2⟩
    ·exact .inr ⟨e,o,sb2.extBut _ _ D.i1z r1,r2⟩
   ·rcases s2 with ⟨e,o,r1,r2⟩ | ⟨e,o,r1,r2⟩
    ·exact .inl ⟨e,o,sb2.extBut _ _ D.i2z r1,r2⟩
    ·exact .inr ⟨e,o,sb2.extBut _ _ D.i2z r1,r2⟩
  refine⟨.ref s.heap.objs.size,_,I3,rfl,⟨_,x,y,rfl,hn,rfl,fun xs' q=>?_,fun ys' q=>?_⟩,st2,fun b hb=>?_⟩
  ·rw[I.sqb_inj q q1];exact hx
  ·rw[I.sqb_inj q q2];exact hy
  ·rw[jac (ju9 (fin b hb))];exact(hf b hb).1
 done:=by
  intro X hP hw hK hc i pins s σ H E I hf st hg;subst hP hw hK;obtain⟨xs,ys,q1,q2,hl⟩:=hg;obtain⟨as,r1,S1,_⟩:=I.sqb q1;obtain⟨bs,r2,S2,_⟩:=I.sqb q2;have e1:=r1.length;have e2:=r2.length;refine jhO (I.ok.hd hc) D (st.zs S1 S2) ?_ fun h' kp=>⟨rfl,I.turnedN (t':=s.toks) (fun b o hb e=>?_) hf⟩
  ·rcases hl with hl | hl
   ·exact .inl (by simp;omega)
   ·exact .inr (by simp;omega)
  ·simp only[juu,juS,or_false,not_or]at hb;exact kp b o hb.1 hb.2.2.1 hb.2.2.2.1 hb.2.2.2.2 e
 self:=fun _ _ _ _ _ st h=>wpAny_pyIter_zip st.zi h
noncomputable def jub (K:PySem.W.Frag)(ta:TA):TI:=fun σ H R=>ta σ H fun vs H1=>∃l1 l2 b1 b2 xs ys,vs=[.ref l1,.ref l2]/\SqB K b1 H1 l1 xs/\SqB K b2 H1 l2 ys/\(xs.length<=sizeLine->ys.length<=sizeLine->R (Itz K b1 b2 l1 l2) H1)
theorem jqT {X:Cx}{es:List Expr}{n:Nat}{pos':Pos}{a b:Expr}{ta:TA}{p pos:Pos}(hg:Gl X "zip")(hm:X.mg "zip"=none)(ha:PA X [a,b] ta)(hs:starEach [a,b] X.env=(false,eval a X.env)::starEach [b] X.env)(hs2:(backTo pos (starEach [b] X.env)).any (·.1)=false) :
  PI X (.Tuple es n pos') (.Call (.Name "zip" p) [a,b] [] pos) (jub X.K ta):=by
 intro pins s σ H R I h;have hv:bootBuiltins "zip"=some (.type "zip"):=by decide +kernel
 refine wpAny_Call_Name_kw (jeI I hg hm hv ?_ (by decide) (by decide))
 refine PyProof.Rows.callWith_type1 (thn (ha pos pins s σ H _ I h) fun us s1 ⟨vs,H1,I1,r1,q1⟩=>?_) hs hs2;obtain⟨l1,l2,b1,b2,xs,ys,rfl,q1,q2,q⟩:=q1;cases r1 with
 |cons r rr=>
  cases rr with
  |cons r' rr=>
   cases rr;cases r;cases r';obtain⟨as,v1,S1,z1⟩:=I1.sqb q1;obtain⟨bs,v2,S2,z2⟩:=I1.sqb q2;refine jly S1 S2 fun h' st kp=>?_;refine wpAny_pyIter_zip st.zi ?_;have n1:l1 < s1.heap.objs.size:=by
    rcases S1 with ⟨_,o,e,_⟩ | ⟨_,o,e,_⟩ <;> exact ju3 e
   have n2:l2 < s1.heap.objs.size:=by
    rcases S2 with ⟨_,o,e,_⟩ | ⟨_,o,e,_⟩ <;> exact ju3 e
   refine⟨_,_,_,_,H1,rfl,I1.kept (t':=s1.toks) kp,jlz (zipApart_new n1 n2),st.zi',fun b hb=>?_,q z1 z2⟩;have hb':s1.heap.objs.size<=b:=by
    simp only[juu,juS,or_false]at hb;rcases hb with rfl | rfl | rfl | rfl | rfl
    ·exact Nat.le_add_right _ _
    ·exact Nat.le_add_right _ _
    ·exact Nat.le_add_right _ _
    ·exact ju7 _
    ·exact Nat.le_add_right _ _
   exact I1.fpOk hb' (I1.hok.fresh hb')
end L2
namespace L2
open PySem PySem.Spec PyProof.Rows
noncomputable def FlyA (B:Heap)(l:List Env)(e:Addr)(cls a0:Value)(h:Heap):Prop:=∃fl,B.StaysIn h/\B.get? e=none/\h.FunFrames B l/\h.TracedAtW B e cls a0 fl
section
variable {B h:Heap}{l:List Env}{e:Addr}{cls a0:Value}
theorem FlyA.of (x:Heap.FlyingW B l e cls a0 h):FlyA B l e cls a0 h:=⟨.none,x⟩
theorem FlyA.held {L:Addr}(x:Heap.HeldW B l e cls a0 L h):FlyA B l e cls a0 h:=⟨_,x⟩
theorem FlyA.stays (x:FlyA B l e cls a0 h):B.StaysIn h:=let ⟨_,k,_⟩:=x;k
theorem FlyA.new (x:FlyA B l e cls a0 h):B.get? e=none:=let ⟨_,_,k,_⟩:=x;k
end
section
variable {M:Model}{A:Around}{E:Value->Shared->Prop}{s:Shared}{B:Heap}{e:Addr}{cls a0:Value}
theorem jgN {env env':Env}{outer:List Env}{L:Addr}{Q:Unit->Shared->Prop}(hfr:A.frames=some (env::outer))(hf:env.frame=some L)(hf':env'.frame=some L)(x:FlyA B (env::outer) e cls a0 s.heap)
  (hQ:∀h',Heap.HeldW B (env::outer) e cls a0 L h'->s.heap.UpToSlots h'->Q () { s with heap:=h' }):wpAny M A (noteFrame (.ref e) env') Q E s:=by
 have ee:noteFrame (.ref e) env'=noteFrame (.ref e) env:=by
  unfold noteFrame PySem.frameOf;rw[hf,hf']
 rw[ee];obtain⟨fl,hb,hn,hl,ht⟩:=x;by_cases hfl:(fl == rawInt L)=true
 ·have hfl:fl=rawInt L:=by simpa using hfl
  subst hfl;exact wpAny_noteFrame_againW hf ht (hQ s.heap ⟨hb,hn,hl,ht⟩ (Heap.UpToSlots.refl _))
 ·obtain⟨oe,vs,T,oT,ts,he,⟨hcls,h0⟩,hd,h1,hnT,hTe,hT,hdT,h3⟩:=ht;subst hcls;unfold noteFrame;simp only[hf];refine juT (juZ he hd h1 ?_);rw[if_pos (show (Value.ref T != Value.none)=true from by simp)]
  refine juT (juZ hT hdT h3 ?_);rw[if_neg hfl];refine juT (wpAny_setField hT hdT (Array.getElem?_eq_some_iff.mp h3).1 ?_);have other:∀b,b≠T->(s.heap.update T (Obj.mapFields (·.setIfInBounds 3 Value.none))).get? b=s.heap.get? b:=fun b hb=>ju6 _ _ (Ne.symm hb);have noRec:∀b o,s.heap.get? b=some o->(∀vs,o.data≠.fields vs)->b≠T:=fun b o hb hnf q=>by
   rw[q,hT]at hb;injection hb with hb;subst hb;exact hnf ts hdT
  exact wpAny_entryW hfr (hl.of_keeps fun b o hb hnf=>⟨o,(other b (noRec b o hb hnf)).trans hb,rfl⟩) hf ((other e (Ne.symm hTe)).trans he)
   (fun b o hbo=>(other b fun q=>by rw[q,hnT]at hbo;cases hbo).trans (hb b o hbo)) hn hd (Array.getElem?_eq_some_iff.mp h1).1 h0
   fun h' ⟨x1,x2,x3,x4⟩=>hQ h' ⟨x1,hn,x2,x3⟩ fun b o hb hnf=>x4 b o ((other b (noRec b o hb hnf)).trans hb) hnf
theorem jlA {l:List Env}{w:String}{env':Env}{Q:Value->Shared->Prop}(x:FlyA B l e cls a0 s.heap)(hE:∀h',FlyA B l e cls a0 h'->s.heap.UpToSlots h'->E (.ref e) { s with heap:=h' }):wpAny M A (PySem.passOn w (.ref e) env':Sem Value) Q E s:=by
 obtain⟨fl,hb,hn,hl,oe,vs,T,oT,ts,he,hc,hd,h1,hnT,hTe,hT,hdT,h3⟩:=x;have hsz3:3 < ts.size:=(Array.getElem?_eq_some_iff.mp h3).1;have other:∀b,b≠T->(s.heap.update T (Obj.mapFields (·.setIfInBounds 3 (env'.frame.elim Value.none fun f=>rawInt f)))).get? b=s.heap.get? b:=
  fun b hb=>ju6 _ _ (Ne.symm hb)
 have noRec:∀b o,s.heap.get? b=some o->(∀vs,o.data≠.fields vs)->b≠T:=fun b o hb hnf q=>by
  rw[q,hT]at hb;injection hb with hb;subst hb;exact hnf ts hdT
 unfold PySem.passOn;refine juT (juZ he hd h1 ?_);rw[if_neg (show ¬ ((Value.ref T == Value.none)=true)from by simp)]
 unfold setFlight;refine juT (juT (juZ he hd h1 ?_));rw[if_pos (show (Value.ref T != Value.none)=true from by simp)]
 refine wpAny_setField hT hdT hsz3 (wpAny_throw (hE _ ⟨env'.frame.elim Value.none fun f=>rawInt f,fun b o hbo=>(other b fun q=>by rw[q,hnT]at hbo;cases hbo).trans (hb b o hbo),hn,
  hl.of_keeps fun b o hb hnf=>⟨o,(other b (noRec b o hb hnf)).trans hb,rfl⟩,
  oe,vs,T,_,_,(other e (Ne.symm hTe)).trans he,hc,hd,h1,hnT,hTe,ju5 _ hT (Obj.isFreed_of_fields (Obj.data_mapFields hdT _)),Obj.data_mapFields hdT _,by simp[hsz3]⟩
  fun b o hb hnf=>⟨o.slots,(other b (noRec b o hb hnf)).trans hb⟩))
theorem jgO {C:Addr}{h h':Heap}:∀{l:List Env},h.FunFrames B l->C ∉ l.filterMap (·.frame)->Heap.SameBut C h h'->h'.FunFrames B l
 |[],_,_,_=>trivial
 |env::r,⟨k,⟨L,o,hf,hB,ho,hd⟩,t⟩,hC,sb=>by
  rw[juG,hf]at hC;exact⟨k,⟨L,o,hf,hB,(sb.2 L fun z=>hC (by simp[z])).trans ho,hd⟩,jgO t (fun z=>hC (jus _ z)) sb⟩
theorem FlyA.but {l:List Env}{C:Addr}{h h':Heap}{m:Str->Option Value}(x:FlyA B l e cls a0 h)(hn:h.Ns C m)(hB:B.get? C=none)(hC:C ∉ l.filterMap (·.frame))(sb:Heap.SameBut C h h'):FlyA B l e cls a0 h':=by
 obtain⟨fl,k1,k2,k3,oe,vs,T,oT,ts,he,hc,hd,h1,hnT,hTe,hT,hdT,h3⟩:=x;obtain⟨oC,es,ep,hoC,hdC,_⟩:=hn;have ne:∀{b:Addr}{o:Obj}{ws:Array Value},h.get? b=some o->o.data=.fields ws->b≠C:=fun {b o ws} q1 q2 z=>by
  rw[z,hoC]at q1;cases q1;rw[hdC]at q2;cases q2
 exact⟨fl,fun b o q=>(sb.2 b fun z=>by rw[z,hB]at q;cases q).trans (k1 b o q),k2,jgO k3 hC sb,oe,vs,T,oT,ts,(sb.2 e (ne he hd)).trans he,hc,hd,h1,hnT,hTe,(sb.2 T (ne hT hdT)).trans hT,hdT,h3⟩
end
end L2
namespace L2
open PySem PySem.Spec PyProof.Rows
open AutoSeq1 (wpAny_loadPart')
noncomputable abbrev eN (h:Heap)(b:Bool)(l:Addr):Heap:=(h.push (itO b l)).push { cls:=.type "enumerate",data:=.fields #[.none,.bool false,.ref h.objs.size,rawInt 0,.none,.none] }
structure Ei (b:Bool)(h:Heap)(e it l:Addr)(k:Nat):Prop where
 en:∃old,IsEnum h e it k old
 s1:(b=true/\h.IsListIter it l k)\/(b=false/\h.IsTupleIter it l k)
end L2
namespace L2
open PySem PySem.Spec PyProof.Rows
section
variable {X:Cx}
theorem jqU:SlR X (fun x lo hi H Q=>∃z,x=.str z/\z.length<=sizeLine/\Q (.str (Txt.slice z lo hi)) H):=by
 intro pins s σ H x v vl vu lo hi sl Q I rx hs pl pu h;obtain⟨z,rfl,hz,q⟩:=h;obtain⟨t,rfl⟩:=rx;have fin:∀t' k,EP X pins σ Q (.str (Txt.slice z lo hi) t') { s with toks:=k }:=fun t' k=>⟨.str _,H,I.tok k,⟨t',rfl⟩,q⟩
 refine⟨"str",_,F.slot_str_getitem.lookup,typeIs_str _ _ _,?_⟩;have le:=jva (Txt.slice_le z lo hi) hz;cases pl with
 |none=>
  cases pu with
  |none=>exact wpAny_getItem_str_slice (l:=none) (u:=none) (st:=none) hs rfl (post_val_or_str ⟨le,fin⟩)
  |int j u=>exact wpAny_getItem_str_slice (l:=none) (u:=some (j,u)) (st:=none) hs rfl (post_val_or_str ⟨le,fin⟩)
 |int i r=>
  cases pu with
  |none=>exact wpAny_getItem_str_slice (l:=some (i,r)) (u:=none) (st:=none) hs rfl (post_val_or_str ⟨le,fin⟩)
  |int j u=>exact wpAny_getItem_str_slice (l:=some (i,r)) (u:=some (j,u)) (st:=none) hs rfl (post_val_or_str ⟨le,fin⟩)
end
noncomputable def Itx (z:Str):It:=⟨fun i _=>i < z.cps.size,fun i H x H'=>H'=H/\∃c,z.cps[i]?=some c/\x=.str ⟨#[c]⟩,fun i _=>i=z.cps.size⟩
theorem jeS {P:Program}{w:World}{K:PySem.W.Frag}{tg:Expr}{it:Addr}{z:Str}{t:Tok}{ty:String}
  (W:∀A':Around,A'.handled=none->Walks P w A' it [it] [it] z.cps.size (SignAt z) (fun i h=>h.IsStrIter it ty z t i))
  (hS:∀(A:Around) (i:Nat) (s:Shared) (Q:Value->Shared->Prop) (E:Value->Shared->Prop),s.heap.IsStrIter it ty z t i->Q (.ref it) s->wpAny (model P w) A (pyIter (.ref it)) Q E s)
  (hn:["enumerate","zip","dict_itemiterator","dict_reverseitemiterator","odict_iterator","itertools.zip_longest","itertools.pairwise"].contains ty=false) :
  Turn P w K tg (Itx z) [it] it (fun i h=>h.IsStrIter it ty z t i) where
 mem:=by simp
 obj:=fun i h st b hb=>by
  have e:b=it:=by simpa using hb
  subst e;obtain⟨o,e,c,d⟩:=st;exact⟨o,e,fun v z=>by rw[d]at z;cases z⟩
 keep:=fun i h h' st k=>let ⟨o,e,r⟩:=st;⟨o,k it (by simp) o e,r⟩
 item:=by
  intro X hP hw hK hc i pins s σ H E I hf st hg;subst hP hw hK;obtain⟨f0,f1,f2,f3,f4,f5⟩:=hf it (by simp)
  refine(W X.A (I.ok.hd hc)).item i s _ _ hg st fun v h' tk hv st' kk=>?_;obtain⟨c,u,hx,rfl⟩:=hv;have I1:Inv X pins σ H { s with heap:=h',toks:=tk }:=I.turned (fun b o hb e=>kk b o (by simpa using hb) e) f0 f1 f3 f4 f5
  obtain⟨o,e,oc,d⟩:=id st';exact⟨_,rfl,jll (s:={ s with heap:=h',toks:=tk }) e oc d hn ⟨.str ⟨#[c]⟩,H,I1,⟨u,rfl⟩,⟨rfl,c,hx,rfl⟩,st',fun b hb=>(hf b hb).1⟩⟩
 done:=by
  intro X hP hw hK hc i pins s σ H E I hf st hg;subst hP hw hK;obtain⟨f0,f1,f2,f3,f4,f5⟩:=hf it (by simp)
  have hg:i=z.cps.size:=hg;subst hg;exact(W X.A (I.ok.hd hc)).done s _ _ st fun h' tk eb=>⟨rfl,I.turned (fun b o hb e=>eb b o (by simpa using hb) e) f0 f1 f3 f4 f5⟩
 self:=hS
section
variable {X:Cx}
theorem jlB:MtR X "str.count" (fun x xs H Q=>∃z y,x=.str z/\xs=[.str y]/\Q (.int (Txt.count z y)) H):=by
 intro pins s σ H x xs v us Q I rx rs h;obtain⟨z,y,rfl,rfl,q⟩:=h;obtain⟨t,rfl⟩:=rx;obtain⟨_,rfl,t',rfl⟩:=jbt rs;exact SC.count ⟨.int _,H,I.tok _,⟨_,rfl⟩,q⟩
theorem jeT:∀{l:List (Str×Tok)}{ys:List Str},l.map (·.1)=ys->Vals (ys.map V.str) (strValues l)
 |[],_,rfl=>.nil
 |(x,t)::l,_,rfl=>.cons ⟨t,rfl⟩ (jeT (l:=l) rfl)
theorem jfQ:∀{ys:List Str}{us:List Value},Vals (ys.map V.str) us->StrsAre us ys
 |[],us,r=>by cases r;exact .nil
 |y::ys,us,r=>by
  cases r with
  |cons r1 r2=>
   obtain⟨t,rfl⟩:=r1;exact .cons y t (jfQ r2)
open Builtin.Str in
theorem jlC:MtR X "str.split" (fun x xs H Q=>∃z y,x=.str z/\xs=[.str y]/\(y.length == 0)=false/\z.length<=sizeLine/\(Txt.split z y).length<=sizeLine/\∀p,H p=none->Q (.ref p) (upd H p (.lst ((Txt.split z y).map V.str)))):=by
 intro pins s σ H x xs v us Q I rx rs h;obtain⟨z,y,rfl,rfl,hy,hz,hl,q⟩:=h;obtain⟨t,rfl⟩:=rx;obtain⟨_,rfl,u,rfl⟩:=jbt rs;have fin:∀(l:List (Str×Tok)) (k:Nat),l.map (·.1)=Txt.split z y->EP X pins σ Q (.ref s.heap.objs.size) { s with heap:=s.heap.push { cls:=.type "list",data:=.seq (strValues l).toArray },toks:=k }:=fun l k e=>
  ⟨.ref _,_,I.lnew (t':=k) (jeT e) (by rw[juA];exact hl),rfl,q _ I.fresh⟩
 cases h1:(decide (z.length < y.length) || decide (strKind z < strKind y))
 ·cases hf:(occurrences z y 0 z.length (z.length + 1)).isEmpty
  ·have e:Txt.split z y=partsBetween z (occurrences z y 0 z.length (z.length + 1)) y.length:=(if_neg (ne_true_of_eq_false h1)).trans (if_neg (ne_true_of_eq_false hf));refine call_meets PySem.F.slot_str_split (typeIs_str _ _ _) PySem.F.entry_str_split (PySem.F.args_str_split_2 _ _) (meets_str_split_sep z y t u h1 hy hf hz (by rw[<-e];exact hl)) ?_
   show wants _ _ _ { s with toks:=_,heap:=s.heap.push { cls:=.type "list",data:=.seq (strsFrom s.toks (partsBetween z (occurrences z y 0 z.length (z.length + 1)) y.length)).toArray } }
   rw[strsFrom_eq];exact fin (numbered s.toks _) _ ((numbered_texts _ _).trans e.symm)
  ·exact call_meets PySem.F.slot_str_split (typeIs_str _ _ _) PySem.F.entry_str_split (PySem.F.args_str_split_2 _ _) (meets_str_split_not_found z y t u h1 hy hf)
    (fin [(z,t)] s.toks ((if_neg (ne_true_of_eq_false h1)).trans (if_pos hf)).symm)
 ·exact call_meets PySem.F.slot_str_split (typeIs_str _ _ _) PySem.F.entry_str_split (PySem.F.args_str_split_2 _ _) (meets_str_split_cannot_occur z y t u h1)
   (fin [(z,t)] s.toks (if_pos h1).symm)
theorem joq:MtR X "str.join" (fun x xs H Q=>∃z p ys,x=.str z/\xs=[.ref p]/\SqL X.K H p (ys.map V.str)/\(ys.map (·.length)).sum + ys.length * z.length<=16777216/\Q (.str (Txt.join z ys)) H):=by
 intro pins s σ H x xs v us Q I rx rs h;obtain⟨z,p,ys,rfl,rfl,hq,hl,q⟩:=h;obtain⟨t,rfl⟩:=rx;obtain⟨_,rfl,rr⟩:=jbt rs;cases rr;obtain⟨its,r,pl,_⟩:=I.list hq;exact join_list pl.isList (jfQ (by simpa using r)) hl fun t' k=>⟨.str _,H,I.tok k,⟨t',rfl⟩,q⟩
theorem jjb:CallR X (.type "str") (fun xs H Q=>∃i,xs=[.int i]/\i.natAbs.log2 < 1920/\Q (.str (Str.ofString (toString i))) H):=by
 intro pins s σ H xs us Q I r h;obtain⟨i,rfl,hi,q⟩:=h;obtain⟨_,rfl,t,rfl⟩:=jbt r;exact PySem.P.str_of_int hi ⟨.str _,H,I.tok _,⟨_,rfl⟩,q⟩
theorem jjc:CallR X (.type "int") (fun xs H Q=>∃z n,xs=[.str z]/\PySem.intText? z=some n/\z.length<=640/\Q (.int n) H):=by
 intro pins s σ H xs us Q I r h;obtain⟨z,n,rfl,h1,h2,q⟩:=h;obtain⟨_,rfl,t,rfl⟩:=jbt r;exact PySem.W.KIN.call_text h1 h2 ⟨.int _,H,I.tok _,⟨_,rfl⟩,q⟩
end
end L2
namespace Tx
open PySem
noncomputable def jl (c:Nat):List (List Nat)->List Nat
 |[]=>[]
 |x::r=>x++(match r with | []=>[] | y::r'=>c::jl c (y::r'))
theorem jor {a b:Str}(h:a.cps.toList=b.cps.toList):a=b:=congrArg Str.mk (Array.toList_inj.mp h)
theorem jos (x:Str)(c:Nat):Txt.contains x ⟨#[c]⟩=decide (c∈x.cps.toList):=StrLaws.found_one x c
end Tx
namespace Tx
open PySem
noncomputable abbrev mk (l:List Nat):Str:=⟨l.toArray⟩
theorem jaz (l:List Nat):(mk l).length=l.length:=juv
theorem jjd (a b:List Nat):mk a++mk b=mk (a++b):=by
 show (⟨a.toArray++b.toArray⟩:Str)=_;rw[List.append_toArray]
theorem jhP (l:List Nat)(k:Nat)(h:k<=l.length):Txt.slice (mk l) (some (k:Int)) none=mk (l.drop k):=by
 have:=StrLaws.sliceText_from (x:=mk l) (i:=(k:Int)) ⟨Int.natCast_nonneg k,by show (k:Int)<=(l.length:Int);omega⟩
 refine Eq.trans (this:StrLaws.sliceText (mk l) (some (k:Int)) none=_) ?_;show mk ((l.drop k).take ((l.length:Int) - k).toNat)=_;rw[List.take_of_length_le (by rw[List.length_drop];omega)]
end Tx
namespace L2
open PySem PySem.Spec PyProof.Rows
noncomputable def SubH (h h':Heap):Prop:=∀b o,h.get? b=some o->h'.get? b=some o
theorem SubH.refl {h:Heap}:SubH h h:=fun _ _ e=>e
theorem SubH.trans {h h1 h2:Heap}(a:SubH h h1)(b:SubH h1 h2):SubH h h2:=fun c o e=>b c o (a c o e)
theorem SubH.push {h:Heap}(o:Obj):SubH h (h.push o):=fun _ _ e=>ju2 _ e
structure Itb (prog:Program)(w:World)(A:Around)(it:Value)(T:String)(h:Heap)(n:Nat)(P:Nat->Value->Prop)(wr0:List Addr):Prop where
 nl:T≠"list"
 nt:T≠"tuple"
 ty:∀s:Shared,SubH h s.heap->s.TypeIs it T
 ref:∀a,it=.ref a->a < h.objs.size
 iter:∀(s:Shared) (S:Addr) (Q E:Value->Shared->Prop),SubH h s.heap->h.objs.size<=S->S < s.heap.objs.size ->
  (∀(I:Addr) (fp wr:List Addr) (St:Nat->Heap->Prop) (h':Heap) (tk:Nat) (dr:Drawn),s.toks<=tk->SubH s.heap h'->Walks prog w A I fp wr n P St->St 0 h'->S ∉ fp->(∀b∈wr,b∈wr0\/s.heap.objs.size<=b)->Q (.ref I) { s with heap:=h',toks:=tk,drawn:=dr }) ->
  wpAny (model prog w) A (pyIter it) Q E s
 hint:∀(s:Shared) (Q:Bool->Shared->Prop) (E:Value->Shared->Prop),SubH h s.heap->(∀b tk,s.toks<=tk->Q b { s with toks:=tk })->wpAny (model prog w) A (Builtin.List.listLengthHint it) Q E s
structure Bhd (wr0:List Addr)(S:Addr)(s s':Shared):Prop where
 heap:∀b o,b≠S->b ∉ wr0->s.heap.get? b=some o->s'.heap.get? b=some o
 gens:s'.gens=s.gens
 os:s'.os=s.os
section
variable {prog:Program}{w:World}{A:Around}{it:Value}{T:String}{h:Heap}{n:Nat}{P:Nat->Value->Prop}{wr0:List Addr}
theorem jje {s:Shared}{R:Result->Shared->Prop}(Y:Itb prog w A.in1 it T h n P wr0)(hh:SubH h s.heap)(hn:n<=sizeLine)(S:Addr)(res:Value)(c₀:Nat)(hS0:h.objs.size<=S)
  (hS:s.heap.get? S=some { cls:=Value.type "list",data:=Data.seq #[] c₀ })
  (hR:∀(s':Shared) (acc':Array Value) (c':Nat),Bhd wr0 S s s'->s'.heap.get? S=some { cls:=Value.type "list",data:=Data.seq acc' c' }->ItemsOf P acc' n->R (Except.ok (Flow.ret res)) s') :
  wpAny (model prog w) A.in1 (Builtin.List.listExtendWith (Value.ref S) it res)
   (fun fin s'=>match fin with
    |Fin.done f=>R (Except.ok f) s'
    |Fin.again c'=>c'.quiet=true/\codeAny (model prog w) A c' R s')
   (fun e s'=>R (Except.error e) s') s:=by
 have hsame:Builtin.List.listSameRef (Value.ref S) it=false:=by
  cases it <;> try rfl
  rename_i a;have:=Y.ref a rfl;simp only[Builtin.List.listSameRef];exact beq_eq_false_iff_ne.mpr (Nat.ne_of_gt (ju8 this hS0))
 have htl:(Value.type T == Value.type "list")=false:=by
  rw[beq_eq_false_iff_ne];intro z;injection z with z;exact Y.nl z
 have htt:(Value.type T == Value.type "tuple")=false:=by
  rw[beq_eq_false_iff_ne];intro z;injection z with z;exact Y.nt z
 unfold Builtin.List.listExtendWith;refine juT (wpAny_typeOf (Y.ty s hh) ?_);rw[hsame,htl,htt];refine juV rfl ?_;refine juT (Y.iter s S _ _ hh hS0 (ju3 hS) fun I fp wr St h' tk dr htk hsub W hst hSf hwr=>?_);refine juT (juY (Y.hint _ _ _ (hh.trans hsub) fun b tk2 htk2=>?_));have hS1:h'.get? S=some { cls:=Value.type "list",data:=Data.seq #[] c₀ }:=hsub S _ hS;have fin:∀(s1:Shared) (c:Nat),s1.gens=s.gens->s1.os=s.os->(∀b o,b≠S->h'.get? b=some o->s1.heap.get? b=some o)->s1.heap.get? S=some { cls:=Value.type "list",data:=Data.seq #[] c } ->
   codeAny (model prog w) A (Code.builtin "list.extend.loop" { pos:=[Value.ref S,Value.ref I,res] }) R s1:=fun s1 c hg ho hk hS2=>by
  refine codeAny_extend_loopS W.toS hn S hSf res n 0 s1 #[] c rfl (Nat.zero_le _) (W.frame 0 h' s1.heap hst fun b hb o e=>hk b o (fun z=>hSf (z ▸ hb)) e) hS2 ⟨rfl,fun j v e=>by simp at e⟩ fun s' acc' c' hm hS' hit=>?_
  refine hR s' acc' c' ⟨fun b o hb hw e=>hm.heap b o ?_ (hk b o hb (hsub b o e)),hm.gens.trans hg,hm.os.trans ho⟩ hS' hit;intro z;rcases List.mem_cons.mp z with z | z
  ·exact hb z
  ·rcases hwr b z with z | z
   ·exact hw z
   ·exact absurd (ju3 e) (Nat.not_lt.mpr z)
 have go:∀(s1:Shared) (c:Nat),s1.gens=s.gens->s1.os=s.os->(∀b o,b≠S->h'.get? b=some o->s1.heap.get? b=some o)->s1.heap.get? S=some { cls:=Value.type "list",data:=Data.seq #[] c } ->
   wpAny (model prog w) A.in1 (again (Code.builtin "list.extend.loop" { pos:=[Value.ref S,Value.ref I,res] }))
   (fun fin s'=>match fin with
    |Fin.done f=>R (Except.ok f) s'
    |Fin.again c'=>c'.quiet=true/\codeAny (model prog w) A c' R s')
   (fun e s'=>R (Except.error e) s') s1:=fun s1 c hg ho hk hS2=>juU ⟨plainId_quiet F.plain_extend_loop _,fin s1 c hg ho hk hS2⟩
 split
 ·refine juT (wpAny_rule ?_);refine juT ?_;unfold Builtin.List.listTouch;refine juT (listUpdate_at hS1 rfl ?_ (by simp[sizeLine_eq]) (by simp[sizeLine_eq]))
  have e1:=ju5 (Obj.mapSeq fun x=>x.push Value.none) hS1 rfl;refine listUpdate_at e1 rfl ?_ (by simp[sizeLine_eq]) (by simp[sizeLine_eq])
  have e2:=ju5 (Obj.mapSeq fun x=>x.pop) e1 rfl;refine go _ _ rfl rfl (fun b o hb e=>?_) e2;exact(ju6 _ _ (Ne.symm hb)).trans ((ju6 _ _ (Ne.symm hb)).trans e)
 ·exact go _ c₀ rfl rfl (fun b o _ e=>e) hS1
theorem jdq {s:Shared}{Q:List Value->Shared->Prop}{E:Value->Shared->Prop}(Y:Itb prog w A.in1 it T s.heap n P wr0)(hn:n<=sizeLine)
  (hQ:∀(s':Shared) (acc:Array Value),(∀b o,b ∉ wr0->s.heap.get? b=some o->s'.heap.get? b=some o)->s.heap.objs.size<=s'.heap.objs.size->s'.gens=s.gens->s'.os=s.os->ItemsOf P acc n->Q acc.toList s') :
  wpAny (model prog w) A (collect it) Q E s:=by
 unfold collect;refine juT (wpAny_runValue (codeAny_builtin F.entry_proto_collect ?_));rw[Around.under_plainId F.plain_proto_collect];unfold Builtin.«proto.collect» newList;refine juT (juX (juU ⟨plainId_quiet F.plain_list_iadd _,codeAny_builtin F.entry_list_iadd ?_⟩) (by simp[sizeOk]))
 rw[Around.under_plainId F.plain_list_iadd];unfold Builtin.«list.__iadd__»;show wpAny (model prog w) A.in1 (Builtin.List.listExtendWith (Value.ref s.heap.objs.size) it (Value.ref s.heap.objs.size)) _ _ _;have hS:=ju4 s.heap (o:={ cls:=Value.type "list",data:=Data.seq #[] }) rfl;refine jje (R:=fun r s'=>match r with
   |Except.ok (Flow.ret v)=>wpAny (model prog w) A (match v with
     |Value.ref a=>do
      let __do_lift <-load a
      match __do_lift.data with
       |Data.seq xs epoch=>pure xs.toList
       |x=>unsupported "internal:collect"
     |x=>unsupported "internal:collect") Q E s'
   |Except.ok _=>False
   |Except.error e=>E e s') Y (SubH.push _) hn _ _ _ (ju7 _) hS fun s' acc' c' bh hS' hit=>?_
 refine juT (wpAny_load hS' (juU ?_));exact hQ s' acc' (fun b o hb e=>bh.heap b o (ju9 (ju3 e)) hb (ju2 _ e)) (Nat.le_of_lt (ju3 hS')) bh.gens bh.os hit
theorem jcb {s:Shared}{Q E:Value->Shared->Prop}(Y:Itb prog w A.in1.in1.in1 it T s.heap n P wr0)(hn:n<=sizeLine)
  (hQ:∀(s':Shared) (acc:Array Value),(∀b o,b ∉ wr0->s.heap.get? b=some o->s'.heap.get? b=some o)->s.heap.objs.size<=s'.heap.objs.size->s'.gens=s.gens->s'.os=s.os->ItemsOf P acc n ->
   Q (.ref s'.heap.objs.size) { s' with heap:=s'.heap.push { cls:=Value.type "tuple",data:=Data.seq acc } }) :
  wpAny (model prog w) A (call (Value.type "tuple") [it]) Q E s:=by
 refine callType_codes (Q₁:=fun obj s₁=>s₁.TypeIs obj "tuple"/\Q obj s₁) F.called_tuple (F.typeCall_tuple_1 it) F.entry_object_init ?_ fun obj s₁ h₁=>⟨h₁.1,F.args_object_init_2 obj it,object_init_meets F.called_tuple.init.lookup F.called_tuple.made (by decide) prog w A.in1 (wants (fun r s₂=>r=Value.none/\Q obj s₂) E) s₁ ⟨h₁.1,rfl,h₁.2⟩⟩
 refine codeAny_of_tree ?_;refine juT (juW (F.newCall_tuple_1 it) (juU ⟨plainId_quiet F.plain_tuple_new _,codeAny_builtin F.entry_tuple_new ?_⟩));rw[Around.under_plainId F.plain_tuple_new];unfold Builtin.«tuple.__new__»;refine juT ?_;refine juU ?_;refine juV rfl ?_;refine juT (juW sub_tuple_self (juV rfl ?_));refine juV rfl ?_;refine juT (juW madeHere_tuple ?_);refine juT (juW init_tuple_lookup (wpAny_ite_true rfl ?_));refine juT ?_;refine wpAny_ite_true rfl (juU ?_);refine juT ?_;unfold checkCount;refine juV rfl ?_;refine juV rfl ?_;refine juU ?_;refine wpAny_ite_true rfl ?_;refine juT ?_;unfold Builtin.Tuple.tupleIsExact;refine juT (wpAny_typeOf (Y.ty s SubH.refl) (juU ?_));refine juV (by
  rw[decide_eq_false_iff_not];intro z;have z:=beq_iff_eq.mp z;injection z with z
  exact Y.nt z) ?_
 refine juT (jdq Y hn fun s' acc hk hle hg ho hit=>?_);refine juT (juU ?_);refine juT ?_;unfold Builtin.Tuple.tupleExact;rw[Array.toArray_toList];refine juX (juU ?_) (by show acc.size<=sizeLine;rw[hit.1];exact hn)
 exact⟨⟨_,ju4 s'.heap rfl,rfl⟩,hQ s' acc hk hle hg ho hit⟩
theorem jlD:typeLookup (Value.type "list_reverseiterator") (Str.ofString "__len__")=pure none:=by rfl
theorem jot:typeLookup (Value.type "list_reverseiterator") (Str.ofString "__length_hint__")=pure (some (Value.builtin "list_reverseiterator.__length_hint__")):=by rfl
theorem jqV:isSubtype (Value.type "list_reverseiterator") (Value.type "list_reverseiterator")=pure true:=by rfl
theorem jjf {s:Shared}{l I:Addr}{items:Array Value}{A:Around}(hA:A.handled=none)(hI:s.heap.IsRevIter I l ((items.size:Int) - 1))(hl:s.heap.IsList l items)(ne:l≠I) :
  Itb prog w A (.ref I) "list_reverseiterator" s.heap items.size (fun i v=>items[items.size - 1 - i]?=some v) [I] where
 nl:=by decide
 nt:=by decide
 ty:=fun s' k=>by
  obtain⟨o,e,c⟩:=hI.typeIs;exact⟨o,k _ _ e,c⟩
 ref:=fun a z=>by
  cases z;obtain⟨o,e,c⟩:=hI.typeIs;exact ju3 e
 iter:=fun s' S Q E k h1 h2 q=>by
  have W:=Walks.listRev (prog:=prog) (w:=w) hA I l ne items;obtain⟨o1,e1,c1,d1⟩:=hI;obtain⟨o2,e2,c2⟩:=hl;have st:0<=items.size/\s'.heap.IsRevIter I l ((items.size:Int) - 1 - (0:Nat))/\s'.heap.IsList l items:=⟨Nat.zero_le _,⟨o1,k _ _ e1,c1,by simpa using d1⟩,o2,k _ _ e2,c2⟩
  refine W.self 0 s' Q E st (q I _ _ _ s'.heap s'.toks s'.drawn (ju7 _) SubH.refl W st (fun z=>?_) fun b hb=>.inl hb);rcases List.mem_cons.mp z with rfl | z
  ·exact absurd (ju3 e1) (Nat.not_lt.mpr h1)
  ·have:S=l:=by simpa using z
   subst this;exact absurd (ju3 e2) (Nat.not_lt.mpr h1)
 hint:=fun s' Q E k q=>by
  obtain⟨o1,e1,c1,d1⟩:=hI;have ty:s'.TypeIs (.ref I) "list_reverseiterator":=⟨o1,k _ _ e1,c1⟩;unfold Builtin.List.listLengthHint;refine juT (wpAny_specialOf ty jlD ?_);refine juV rfl ?_;refine juV rfl ?_;refine juT (wpAny_specialOf ty jot ?_);refine juT (wpAny_isInstance ty jqV ?_);refine juV rfl ?_;refine wpAny_ite_true rfl ?_;refine juV rfl ?_;exact juU (q false s'.toks (ju7 _))
end
end L2
namespace L2
open PySem PySem.Spec PyProof.Rows
noncomputable def del (H:Hp)(b:Addr):Hp:=fun a=>if a=b then none else H a
theorem jbW {H:Hp}{b a:Addr}(h:a≠b):del H b a=H a:=if_neg h
theorem jlE {H:Hp}{b:Addr}:del H b b=none:=if_pos rfl
theorem jfR {H:Hp}{b:Addr}{o:HO}(h:H b=none):del (upd H b o) b=H:=by
 funext a
 unfold del upd;by_cases e:a=b
 ·simp[e,h]
 ·simp[e]
section
variable {X:Cx}{pins:List (Addr×Obj)}{σ:St}{H:Hp}{s:Shared}
theorem Inv.gone (I:Inv X pins σ H s){b:Addr}{φ:Heap->Prop}(hb:H b=some (.ext φ))(h0:X.s₀.heap.objs.size<=b){s':Shared}(k:∀c o,c≠b->s.heap.get? c=some o->s'.heap.get? c=some o)(hg:s'.gens=s.gens)(ho:s'.os=s.os):Inv X pins σ (del H b) s':=by
 have ne0:∀c o,X.s₀.heap.get? c=some o->c≠b:=fun c o e=>ju9 (ju8 (ju3 e) h0);have neN:∀c,H c=none->c≠b:=fun c e z=>by rw[z,hb]at e;cases e
 refine⟨I.ok,ho.trans I.os,by rw[hg];exact I.bare,⟨fun c o e n h1 h2=>k c o (ne0 c o e) (I.base.keep c o e n h1 h2),fun c o e n h1 h2=>?_,fun c o e n h1=>?_,fun c o e h1=>?_,fun c xs e=>?_,fun c o u e=>?_,fun c ps e=>?_⟩,?_,fun x c e=>?_,?_,fun x c e=>?_,fun p hp=>?_,fun a o e=>?_,I.len⟩
 ·obtain⟨sl,q⟩:=I.base.slot c o e n h1 h2;exact⟨sl,k c _ (ne0 c o e) q⟩
 ·rw[jbW (ne0 c o e)];exact I.base.free c o e n h1
 ·obtain⟨o',q⟩:=I.base.there c o e h1;exact⟨o',k c _ (ne0 c o e) q⟩
 ·have q:=I.base.tups c xs e;rw[jbW (fun z=>by rw[z,hb]at q;cases q)];exact q
 ·have q:=I.base.frzs c o u e;rw[jbW (fun z=>by rw[z,hb]at q;cases q)];exact q
 ·obtain⟨m,q⟩:=I.base.tbls c ps e;exact⟨m,by rw[jbW (fun z=>by rw[z,hb]at q;cases q)];exact q⟩
 ·obtain⟨m,hn,hl⟩:=I.loc;obtain⟨o,es,ep,e1,e2,e3,e4⟩:=hn;refine⟨m,⟨o,es,ep,k _ _ (neN _ I.free) e1,e2,e3,e4⟩,fun i x v h1 h2 h3=>?_⟩;obtain⟨u,r,lk⟩:=hl i x v h1 h2 h3;refine⟨u,r,lk.imp id fun ⟨h4,c,h5,o,h6⟩=>⟨h4,c,h5,o,k _ _ (neN _ (I.freeC x c h5)) h6.1,h6.2⟩⟩
 ·obtain⟨v,o,h6⟩:=I.cell x c e;exact⟨v,o,k _ _ (neN _ (I.freeC x c e)) h6.1,h6.2⟩
 ·rw[jbW (neN _ I.free)];exact I.free
 ·rw[jbW (neN _ (I.freeC x c e))];exact I.freeC x c e
 ·obtain⟨h1,h2,h3⟩:=I.pin p hp;exact⟨k _ _ (neN _ h2) h1,by rw[jbW (neN _ h2)];exact h2,h3⟩
 ·have hne:a≠b:=fun z=>by rw[z,jlE]at e;cases e
  rw[jbW hne]at e;refine(I.hok a o e).stay (fun c u hc q=>k c u (fun z=>?_) q) (fun c hc=>?_) fun c xs hc=>?_
  ·rcases hc with hc | hc
   ·exact hne (hc.symm.trans z)
   ·rw[z,hb]at hc;cases hc
  ·rw[jbW (fun z=>by rw[z,hb]at hc;cases hc)];exact hc
  ·rw[jbW (fun z=>by rw[z,hb]at hc;cases hc)];exact hc
theorem Inv.track (I:Inv X pins σ H s){a:Addr}{o:HO}(hn:H a=none)(h0:X.s₀.heap.objs.size<=a)(hL:a≠X.env.locals)(hC:∀x c,X.env.cells.lookup x=some c->c≠a)(hP:∀p∈X.pn++pins,p.1≠a)(new:ObjOk X.prog X.w (upd H a o) s.heap a o):Inv X pins σ (upd H a o) s:=by
 have ne0:∀c o,X.s₀.heap.get? c=some o->c≠a:=fun c o e=>ju9 (ju8 (ju3 e) h0);refine⟨I.ok,I.os,I.bare,⟨I.base.keep,I.base.slot,fun c u e n h1=>?_,I.base.there,fun c xs e=>?_,fun c u v e=>?_,fun c ps e=>?_⟩,I.loc,I.cell,?_,fun x c e=>?_,fun p hp=>?_,fun b u e=>?_,I.len⟩
 ·rw[jac (ne0 c u e)];exact I.base.free c u e n h1
 ·have q:=I.base.tups c xs e;rw[jac (jab q hn)];exact q
 ·have q:=I.base.frzs c u v e;rw[jac (jab q hn)];exact q
 ·obtain⟨m,q⟩:=I.base.tbls c ps e;exact⟨m,by rw[jac (jab q hn)];exact q⟩
 ·rw[jac (Ne.symm hL)];exact I.free
 ·rw[jac (hC x c e)];exact I.freeC x c e
 ·obtain⟨h1,h2,h3⟩:=I.pin p hp;exact⟨h1,by rw[jac (hP p hp)];exact h2,h3⟩
 ·by_cases hb:b=a
  ·subst hb;rw[jak]at e;cases e;exact new
  ·rw[jac hb]at e;exact(I.hok b u e).stay (fun c v _ q=>q) (fun c q=>by rw[jac (jab q hn)];exact q) fun c xs q=>by rw[jac (jab q hn)];exact q
theorem Inv.above (I:Inv X pins σ H s):X.s₀.heap.objs.size<=s.heap.objs.size:=by
 obtain⟨m,hn,_⟩:=I.loc;exact jva I.ok.above (Nat.le_of_lt hn.lt)
theorem Inv.new (I:Inv X pins σ H s){a:Addr}(ha:s.heap.objs.size<=a):X.s₀.heap.objs.size<=a/\a≠X.env.locals/\(∀x c,X.env.cells.lookup x=some c->c≠a)/\(∀p∈X.pn++pins,p.1≠a)/\H a=none:=by
 refine⟨jva I.above ha,fun z=>?_,fun x c e z=>?_,fun p hp z=>?_,I.hok.fresh ha⟩
 ·obtain⟨m,hn,_⟩:=I.loc;rw[z]at ha;exact jvb _ (ju8 hn.lt ha)
 ·obtain⟨v,o,h6,_⟩:=I.cell x c e;rw[<-z]at ha;exact jvb _ (ju8 (ju3 h6) ha)
 ·have h6:=(I.pin p hp).1;rw[<-z]at ha;exact jvb _ (ju8 (ju3 h6) ha)
theorem Inv.goneLaid (I:Inv X pins σ H s){b a:Addr}{φ:Heap->Prop}{o:HO}(hb:H b=some (.ext φ))(h0:X.s₀.heap.objs.size<=b){s':Shared}(k:∀c o,c≠b->s.heap.get? c=some o->s'.heap.get? c=some o)(hg:s'.gens=s.gens)(ho:s'.os=s.os)(ha:s.heap.objs.size<=a)(new:ObjOk X.prog X.w (upd (del H b) a o) s'.heap a o):Inv X pins σ (upd (del H b) a o) s':=by
 obtain⟨n0,n1,n2,n3,n4⟩:=I.new ha;exact(I.gone hb h0 k hg ho).track (by unfold del;split <;> first | rfl | exact n4) n0 n1 n2 n3 new
noncomputable def jfS (X:Cx)(I p:Addr)(n:Nat):Heap->Prop:=fun h=>h.IsRevIter I p ((n:Int) - 1)/\X.s₀.heap.objs.size<=I/\p≠I
theorem jbX:CallR X (.type "reversed") (fun xs H Q=>∃p ys,xs=[.ref p]/\SqL X.K H p ys/\∀I,H I=none->Q (.ref I) (upd H I (.ext (jfS X I p ys.length)))):=by
 intro pins s σ H xs us Q I r h;obtain⟨p,ys,rfl,hq,q⟩:=h;obtain⟨u,rfl,rx⟩:=jbt r;cases rx;obtain⟨its,r',pl,hz⟩:=I.list hq;have hlen:=r'.length;refine call_reversed_list pl.isList ?_;have hp:p≠s.heap.objs.size:=by obtain⟨o,n,e,_⟩:=pl;exact ju9 (ju3 e)
 refine⟨.ref s.heap.objs.size,_,I.laid (t':=s.toks) (o:=.ext (jfS X s.heap.objs.size p ys.length)) (fun b o e=>ju2 _ e) (ju7 _) ⟨⟨⟨_,ju4 s.heap rfl,rfl,?_⟩,I.above,hp⟩,⟨_,ju4 s.heap rfl⟩,?_⟩,rfl,q _ (I.hok.fresh (ju7 _))⟩
 ·rw[juv,<-hlen];rfl
 ·rintro h1 h2 ⟨⟨o,e,c⟩,z⟩ k;exact⟨⟨o,k _ e,c⟩,z⟩
theorem jcP {its:List Value}{acc:Array Value}(h:ItemsOf (fun i v=>its.toArray[its.toArray.size - 1 - i]?=some v) acc its.toArray.size):acc.toList=its.reverse:=by
 obtain⟨h1,h2⟩:=h;simp only[juv]at h1 h2;apply List.ext_getElem?;intro i;by_cases hi:i < acc.size
 ·have:=h2 i acc[i] (by simp[hi])
  rw[List.getElem?_reverse (by omega)]
  rw[Array.getElem?_toList,Array.getElem?_eq_getElem hi];simpa using this.symm
 ·rw[juH (by simp;omega),juH]
  simp;omega
theorem jde (hc:X.calm=true):CallR X (.type "tuple") (fun xs H Q=>∃I p ys,xs=[.ref I]/\H I=some (.ext (jfS X I p ys.length))/\SqL X.K H p ys/\∀l,del H I l=none->Q (.ref l) (upd (del H I) l (.tup ys.reverse))):=by
 intro pins s σ H xs us Q I r h;obtain⟨J,p,ys,rfl,hJ,hq,q⟩:=h;obtain⟨u,rfl,rx⟩:=jbt r;cases rx;obtain⟨its,r',pl,hz⟩:=I.list hq;have hlen:=r'.length;obtain⟨⟨hr,h0,hne⟩,_,_⟩:=I.hok J _ hJ;have hA:X.A.in1.in1.in1.handled=none:=I.ok.hd hc;have hsz:its.toArray.size=ys.length:=by rw[juv];exact hlen.symm
 refine jcb (jjf (items:=its.toArray) hA (by rw[hsz];exact hr) pl.isList hne) (by rw[hsz];exact hz) fun s' acc kp hle hg ho it=>?_
 have ea:=jcP it;have ha:acc=its.reverse.toArray:=by rw[<-ea]
 refine⟨.ref s'.heap.objs.size,_,I.goneLaid (o:=.tup ys.reverse) (s':={ s' with heap:=s'.heap.push { cls:=Value.type "tuple",data:=Data.seq acc } }) hJ h0 (fun c o z e=>ju2 _ (kp c o (by simpa using z) e)) hg ho hle ⟨by simpa using hz,its.reverse,r'.reverse,by rw[ha];exact IsTup.new _ _⟩,rfl,q _ ?_⟩
 unfold del;split
 ·rfl
 ·exact I.hok.fresh hle
end
end L2
namespace L2
open PySem PySem.Spec PyProof.Rows
open Builtin Builtin.Str Builtin.Int
section
variable {X:Cx}
theorem jlF:∀{ys:List Str}{us:List Value},Vals (ys.map V.str) us->StrsAre us.reverse ys.reverse:=by
 intro ys us r;have:=r.reverse;rw[<-List.map_reverse]at this;exact jfQ this
theorem jlG (hc:X.calm=true):MtR X "str.join" (fun x xs H Q=>∃(z:Str) (I p:Addr) (ys:List Str),x=.str z/\xs=[.ref I]/\H I=some (.ext (jfS X I p ys.length))/\SqL X.K H p (ys.map V.str)/\(ys.map (·.length)).sum + ys.length * z.length<=16777216/\Q (.str (Txt.join z ys.reverse)) (del H I)):=by
 intro pins s σ H x xs v us Q I rx rs h;obtain⟨z,J,p,ys,rfl,rfl,hJ,hq,hl,q⟩:=h;obtain⟨t,rfl⟩:=rx;obtain⟨_,rfl,rr⟩:=jbt rs;cases rr;obtain⟨its,r',pl,hz⟩:=I.list hq;have hlen:=r'.length;rw[juA]at hlen hz;obtain⟨⟨hr,h0,hne⟩,_,_⟩:=I.hok J _ hJ;have hA:X.A.in1.in1.handled=none:=I.ok.hd hc;have hsz:its.toArray.size=ys.length:=by rw[juv];exact hlen.symm
 have Y:Itb X.prog X.w X.A.in1.in1 (.ref J) "list_reverseiterator" s.heap its.toArray.size (fun i v=>its.toArray[its.toArray.size - 1 - i]?=some v) [J]:=jjf (items:=its.toArray) hA (by rw[hsz];exact hr) pl.isList hne
 have W:=Walks.listRev (prog:=X.prog) (w:=X.w) (A:=X.A.in1) (I.ok.hd hc) J p hne its.toArray;refine wpAny_call (codeAny_call_builtin F.slot_str_join.plain F.entry_str_join (F.slot_str_join.check _ _ _ _ _ _ _ _ (typeIs_str _ _ _) (F.args_str_join_2 _ _) ?_));rw[join_tree_other];refine juT (wpAny_typeOf (Y.ty s fun b o e=>e) ?_);show wpAny _ X.A.in1 ((pyIter (.ref J)).tryCatch _ >>= fun it=>collect it >>= fun items=>joinTail z items) _ _ s;have st:0<=its.toArray.size/\s.heap.IsRevIter J p ((its.toArray.size:Int) - 1 - (0:Nat))/\s.heap.IsList p its.toArray:=⟨Nat.zero_le _,by rw[hsz];simpa using hr,pl.isList⟩
 refine juT (wpAny_tryCatch (W.self 0 s _ _ st ?_));refine juT (jdq Y (by rw[hsz];exact hz) fun s' acc kp hle hg ho it=>?_)
 have ea:=jcP it;rw[ea];obtain⟨l,hv,ht⟩:=strsAre_values (jlF r');rw[hv];have hok:JoinOk z (l.map (·.1))=true:=by
  rw[ht];refine joinOk_of ?_;rw[List.map_reverse,List.sum_reverse,List.length_reverse];exact hl
 have hok2:=hok;unfold JoinOk at hok;rw[Bool.not_eq_true']at hok;have g:Gives (joinTail z (strValues l)) (joinMade z l):=by
  have g0:=gives_joinTail z l hok;cases l with
  |nil=>exact g0
  |cons p r=>cases r with
   |nil=>exact g0
   |cons q r'=>exact g0
 refine g X.prog X.w X.A (wants _ X.xe) s' (post_join l ⟨joinFit_length hok,fun t' k=>?_⟩);rw[ht];exact⟨.str _,del H J,(I.gone (s':=s') hJ h0 (fun c o z e=>kp c o (by simpa using z) e) hg ho).tok k,⟨t',rfl⟩,q⟩
theorem jlH:MtR X "str.zfill" (fun x xs H Q=>∃z i,x=.str z/\xs=[.int i]/\PadOk i=true/\Q (.str (Txt.zfill z i)) H):=by
 intro pins s σ H x xs v us Q I rx rs h;obtain⟨z,i,rfl,rfl,hp,q⟩:=h;obtain⟨t,rfl⟩:=rx;obtain⟨_,rfl,u,rfl⟩:=jbt rs;exact SC.zfill hp fun t' k=>⟨.str _,H,I.tok k,⟨t',rfl⟩,q⟩
end
end L2
namespace RT
open PySem PySem.Spec PyProof.Rows L2
theorem jdW:Manifest.owners.lookup (String.ofList ['d','e','s','r','e','v','e','r'].reverse)=some Manifest.sig_reversed:=by kernel_rfl
theorem slot_next:Slot "reversed" "__next__" "reversed.__next__":=
 .of (owner:="reversed") (n:="__next__") (by rw[typeLookup_type,builtinLookup_eq_fast];kernel_rfl) (by decide +kernel) (by decide +kernel) (by decide +kernel)
  (by first | exact .inl (by decide +kernel) | exact .inr (by decide +kernel)) (by rw[isSubtype_type];kernel_rfl)
theorem jdr:entryFor table "reversed.__next__"=some Builtin.«reversed.__next__»:=entryFor_of_tree (by kernel_rfl)
theorem jeU (a:Value):argsOk "reversed.__next__" ⟨[a],[]⟩:=by
 unfold argsOk;rw[signature?_of (id:="reversed.__next__") (n:=['_','_','t','x','e','n','_','_']) (o:=['d','e','s','r','e','v','e','r']) (by kernel_rfl) jdW];kernel_rfl
theorem jeV:Slot "reversed" "__iter__" "reversed.__iter__":=
 .of (owner:="reversed") (n:="__iter__") (by rw[typeLookup_type,builtinLookup_eq_fast];kernel_rfl) (by decide +kernel) (by decide +kernel) (by decide +kernel)
  (by first | exact .inl (by decide +kernel) | exact .inr (by decide +kernel)) (by rw[isSubtype_type];kernel_rfl)
theorem jjg (a:Value):argsOk "reversed.__iter__" ⟨[a],[]⟩:=by
 unfold argsOk;rw[signature?_of (id:="reversed.__iter__") (n:=['_','_','r','e','t','i','_','_']) (o:=['d','e','s','r','e','v','e','r']) (by kernel_rfl) jdW];kernel_rfl
theorem jhQ:entryFor table "reversed.__iter__"=some Builtin.«dict_keyiterator.__iter__»:=
 entryFor_alias (id':="dict_keyiterator.__iter__") (by kernel_rfl) (by first | rfl | decide +kernel | (unfold String.splitOn;simp +decide [String.splitOnAux])) (by decide +kernel) (by kernel_rfl)
theorem slot_hint:Slot "reversed" "__length_hint__" "reversed.__length_hint__":=
 .of (owner:="reversed") (n:="__length_hint__") (by rw[typeLookup_type,builtinLookup_eq_fast];kernel_rfl) (by decide +kernel) (by decide +kernel) (by decide +kernel)
  (by first | exact .inl (by decide +kernel) | exact .inr (by decide +kernel)) (by rw[isSubtype_type];kernel_rfl)
theorem jhR:entryFor table "reversed.__length_hint__"=some Builtin.«reversed.__length_hint__»:=entryFor_of_tree (by kernel_rfl)
theorem jjh (a:Value):argsOk "reversed.__length_hint__" ⟨[a],[]⟩:=by
 unfold argsOk;rw[signature?_of (id:="reversed.__length_hint__") (n:=['_','_','t','n','i','h','_','h','t','g','n','e','l','_','_']) (o:=['d','e','s','r','e','v','e','r']) (by kernel_rfl) jdW];kernel_rfl
theorem jqW:typeLookup (Value.type "tuple") (Str.ofString "__reversed__")=pure none:=by rfl
theorem jqX:typeLookup (Value.type "reversed") (Str.ofString "__len__")=pure none:=by rfl
theorem jlI:isSubtype (Value.type "tuple") (Value.type "dict")=pure false:=by rfl
theorem jqY:isSubtype (.type "reversed") (.type "reversed")=pure true:=by rw[isSubtype_type];kernel_rfl
theorem jji:Slot "reversed" "__init__" "object.__init__":=
 .of (owner:="object") (n:="__init__") (by rw[typeLookup_type,builtinLookup_eq_fast];kernel_rfl) (by decide +kernel) (by decide +kernel) (by decide +kernel)
  (by first | exact .inl (by decide +kernel) | exact .inr (by decide +kernel)) (by rw[isSubtype_type];kernel_rfl)
theorem called:TypeCalled "reversed" "reversed.__new__" "object.__init__":=
 ⟨by decide +kernel,by decide +kernel,⟨_,_,PySem.F.mro_reversed⟩,PySem.F.made_reversed,by decide +kernel,PySem.F.sub_reversed_self,jji⟩
end RT
namespace RT
open PySem PySem.Spec PyProof.Rows L2
noncomputable def obj (l:Addr)(i:Int):Obj:={ cls:=.type "reversed",data:=.fields #[.ref l,rawInt i] }
noncomputable def IsRv (h:Heap)(a l:Addr)(i:Int):Prop:=∃o,h.get? a=some o/\o.cls=.type "reversed"/\o.data=.fields #[.ref l,rawInt i]
section
variable {prog:Program}{w:World}{A:Around}{E:Value->Shared->Prop}{s:Shared}
theorem IsRv.typeIs {a l:Addr}{i:Int}(x:IsRv s.heap a l i):s.TypeIs (.ref a) "reversed":=let ⟨o,ho,hc,_⟩:=x;⟨o,ho,hc⟩
theorem IsRv.at {h h':Heap}{a l:Addr}{i:Int}(x:IsRv h a l i)(e:∀o,h.get? a=some o->h'.get? a=some o):IsRv h' a l i:=let ⟨o,ho,r⟩:=x;⟨o,e _ ho,r⟩
theorem jlJ {l:Addr}{items:Array Value}{Q₁:Value->Shared->Prop}(hl:IsTup s.heap l items)(hz:(items.size:Int) < 2 ^ 63)
  (h:Q₁ (.ref s.heap.objs.size) { s with heap:=s.heap.push (obj l ((items.size:Int) - 1)),toks:=s.toks + 1 + 1 }) :
  codeAny (model prog w) A (.call (.builtin "reversed.__new__") ⟨[.type "reversed",.ref l],[]⟩) (wants Q₁ E) s:=by
 refine codeAny_of_tree ?_;show wpAny _ A.in1 (do checkBuiltinCall "reversed.__new__" ⟨[.type "reversed",.ref l],[]⟩;again (.builtin "reversed.__new__" ⟨[.type "reversed",.ref l],[]⟩)) _ _ s
 refine juT (juW (PySem.F.newCall_reversed_1 _) (juU ⟨plainId_quiet PySem.F.plain_reversed_new _,codeAny_builtin PySem.F.entry_reversed_new ?_⟩));rw[Around.under_plainId PySem.F.plain_reversed_new _];unfold Builtin.«reversed.__new__»;refine juT (juW (newClass_reversed _) ?_);try dsimp only
 refine juT (juW (a:=()) (by first | rfl | kernel_rfl) ?_)
 refine juT (juW (a:=()) (by first | rfl | kernel_rfl) ?_)
 try dsimp only
 refine juT (wpAny_specialOf hl.typeIs jqW ?_);try dsimp only
 refine juT (juT (wpAny_isInstance hl.typeIs jlI ?_));refine juV rfl ?_;refine juT (wpAny_specialOf hl.typeIs slot_tuple_getitem.lookup ?_);refine wpAny_ite_true rfl (juU ?_);refine juV rfl ?_;refine juT (len_tuple hl hz ?_);refine juT (juW (a:=some (items.size:Int)) rfl ?_);try dsimp only
 exact juT (show wpAny _ _ (newObj (Value.type "reversed") (.fields #[.ref l,rawInt ((items.size:Int) - 1)])) _ _ _ from juX (juU h))
theorem jlK {l:Addr}{items:Array Value}{Q:Value->Shared->Prop}(hl:IsTup s.heap l items)(hz:(items.size:Int) < 2 ^ 63)
  (h:Q (.ref s.heap.objs.size) { s with heap:=s.heap.push (obj l ((items.size:Int) - 1)),toks:=s.toks + 1 + 1 }):wpAny (model prog w) A (call (.type "reversed") [.ref l]) Q E s:=by
 refine callType_codes (Q₁:=fun obj' s₁=>obj'=.ref s.heap.objs.size/\s₁={ s with heap:=s.heap.push (obj l ((items.size:Int) - 1)),toks:=s.toks + 1 + 1 }) called (PySem.F.typeCall_reversed_1 _) F.entry_object_init (jlJ hl hz ⟨rfl,rfl⟩) fun obj' s₁ h₁=>?_
 obtain⟨rfl,rfl⟩:=h₁;have ty:Shared.TypeIs { s with heap:=s.heap.push (obj l ((items.size:Int) - 1)),toks:=s.toks + 1 + 1 } (.ref s.heap.objs.size) "reversed":=⟨_,ju4 _ rfl,rfl⟩
 exact⟨ty,F.args_object_init_2 _ _,object_init_meets called.init.lookup called.made (by decide) prog w A.in1 (wants (fun r s₂=>r=Value.none/\Q _ s₂) E) _ ⟨ty,rfl,h⟩⟩
theorem jjj {it l:Addr}{i:Nat}{items:Array Value}{x:Value}{Q:Option Value->Shared->Prop}(hit:IsRv s.heap it l (i:Int))(hl:IsTup s.heap l items)(hx:items[i]?=some x)(hz:(items.size:Int) < 2 ^ 63)(ne:l≠it)
  (hQ:∀h' tk,IsRv h' it l ((i:Int) - 1)->Heap.SameBut it s.heap h'->Q (some x) { s with heap:=h',toks:=tk }):wpAny (model prog w) A (pyNext (.ref it)) Q E s:=by
 obtain⟨o,ho,hc,hd⟩:=id hit;have hi:i < items.size:=(Array.getElem?_eq_some_iff.mp hx).1;unfold pyNext;refine juT (wpAny_attempt (wpAny_callSpecial?_slot (name:=Str.ofString "__next__") hit.typeIs slot_next
  (wpAny_call_entry slot_next hit.typeIs jdr ?_ (jeU _))))
 unfold Builtin.«reversed.__next__»;refine juT (juW (a:=(Value.ref it,[])) rfl ?_);try dsimp only
 refine juT (juZ ho hd (x:=.ref l) rfl ?_);refine juT (juZ ho hd (x:=rawInt (i:Int)) rfl ?_);show wpAny _ _ (if (i:Int) < 0 then _ else _) _ _ s;rw[if_neg (by omega)]
 refine juT (wpAny_specialOf hl.typeIs slot_tuple_getitem.lookup ?_);refine juV rfl ?_;refine juT (wpAny_mkInt ?_);refine juT (wpAny_attempt (getItem_tuple (j:=i) hl (by omega) (by omega) ?_ hx ?_))
 ·exact(seqIndex_of (by omega) (by omega)).trans (by simp)
 try dsimp only
 refine juT (juZ ho hd (x:=rawInt (i:Int)) rfl ?_);refine juT (wpAny_setField ho hd (by simp) ?_)
 refine juU ⟨x,rfl,juU (hQ _ _ ?_ (Heap.SameBut.update ..))⟩;exact⟨_,ju5 _ ho (Obj.isFreed_of_fields (Obj.data_mapFields hd _)),(Obj.cls_mapFields ..).trans hc,by
  rw[Obj.data_mapFields hd];simp⟩
theorem jlL {it l:Addr}{Q:Option Value->Shared->Prop}(hh:A.handled=none)(hit:IsRv s.heap it l (-1))
  (hQ:∀h',Heap.ExtBut it s.heap h'->Q none { s with heap:=h' }):wpAny (model prog w) A (pyNext (.ref it)) Q E s:=by
 obtain⟨o,ho,hc,hd⟩:=id hit;unfold pyNext;refine juT (wpAny_attempt (wpAny_callSpecial?_slot (name:=Str.ofString "__next__") hit.typeIs slot_next
  (wpAny_call_entry slot_next hit.typeIs jdr ?_ (jeU _))))
 unfold Builtin.«reversed.__next__»;refine juT (juW (a:=(Value.ref it,[])) rfl ?_);try dsimp only
 refine juT (juZ ho hd (x:=.ref l) rfl ?_);refine juT (juZ ho hd (x:=rawInt (-1)) rfl ?_);show wpAny _ _ (if (-1:Int) < 0 then _ else _) _ _ s;rw[if_pos (by decide)]
 refine juT (wpAny_rule ?_);refine juT (juT (wpAny_setField ho hd (by simp) ?_))
 have ho2:(s.heap.update it (Obj.mapFields fun x=>x.setIfInBounds 1 (rawInt (-1)))).get? it=some (Obj.mapFields (fun x=>x.setIfInBounds 1 (rawInt (-1))) o):=ju5 _ ho (Obj.isFreed_of_fields (Obj.data_mapFields hd _));refine wpAny_setField ho2 (Obj.data_mapFields hd _) (by simp) ?_
 unfold Builtin.SmallTypes.stopIteration;refine juT (juT ?_);simp only[newExc,newTuple];refine juT (juX ?_ (by size_fits))
 refine juT (m:=firstArgMember _ _) (juW (a:=Value.none) (by first | rfl | (simp only[firstArgMember];rfl)) ?_)
 refine juX ?_ (by size_fits)
 simp only[raiseNew];refine juT (wpAny_handled ?_);first | rw[show A.in1.handled=none from hh] | rw[hh]
 refine juT (juU (wpAny_throw ?_));refine juT (wpAny_isInstance (T:="StopIteration") (b:=true) ⟨_,ju4 _ rfl,rfl⟩ isSubtype_stop ?_);refine juU (hQ _ (Heap.ExtBut.push (Heap.ExtBut.push ?_ _) _));intro b o' hb e;exact(Heap.SameBut.update ..).2 b hb |>.trans ((Heap.SameBut.update ..).2 b hb |>.trans e)
theorem jjk {it l:Addr}{i:Int}{Q:Value->Shared->Prop}(hit:IsRv s.heap it l i)(h:Q (.ref it) s):wpAny (model prog w) A (pyIter (.ref it)) Q E s:=by
 refine wpAny_pyIter_slot hit.typeIs jeV (wpAny_call_entry jeV hit.typeIs jhQ ?_ (jjg _));show wpAny _ _ (ret (.ref it)) _ _ s;exact juU ⟨_,rfl,"reversed",_,hit.typeIs,slot_next.lookup,h⟩
theorem jou {it l:Addr}{i:Int}{items:Array Value}{Q:Bool->Shared->Prop}(hit:IsRv s.heap it l i)(hl:IsTup s.heap l items)(hi:i + 1=items.size)(hz:items.size<=sizeLine)(h:∀b tk,s.toks<=tk->Q b { s with toks:=tk }):wpAny (model prog w) A (Builtin.List.listLengthHint (.ref it)) Q E s:=by
 have hn:=jca;obtain⟨o,ho,hc,hd⟩:=id hit;unfold Builtin.List.listLengthHint;refine juT (wpAny_specialOf hit.typeIs jqX ?_);refine juV rfl ?_;refine juV rfl ?_;refine juT (wpAny_specialOf hit.typeIs slot_hint.lookup ?_);refine juT (wpAny_isInstance hit.typeIs jqY ?_);refine juV rfl ?_;refine juV rfl ?_;refine juT (wpAny_rule ?_);refine juT (juW (slot_hint.bind _) ?_);refine juT (wpAny_attempt (wpAny_call_entry slot_hint hit.typeIs jhR ?_ (jjh _)));unfold Builtin.«reversed.__length_hint__»;refine juT (juW (a:=Value.ref it) rfl ?_);refine juT (juZ ho hd (x:=.ref l) rfl ?_);refine juV rfl ?_;refine juT (len_tuple hl (by omega) ?_)
 refine juT (juW (a:=some (items.size:Int)) rfl ?_);refine juT (juZ ho hd (x:=rawInt i) rfl ?_);show wpAny _ _ (if (items.size:Int) < i + 1 then _ else _) _ _ _;rw[if_neg (by omega)]
 unfold retInt;refine juT (wpAny_mkInt (juU ⟨_,rfl,?_⟩));show wpAny _ _ (asInt? (.int (i + 1) _) >>= _) _ _ _;refine juT (juW (a:=some (i + 1)) rfl ?_);have f1:(!Builtin.List.listFitsIndex (i + 1))=false:=by rw[hi];simp[Builtin.List.listFitsIndex];omega
 have f2:Builtin.List.listTooLong (i + 1).toNat=false:=by rw[hi];simp[Builtin.List.listTooLong];omega
 dsimp only;rw[if_neg (by rw[f1];exact jve),if_neg (by omega),if_neg (by rw[f2];exact jve)]
 exact juU (h _ _ (by omega))
theorem jsQ (hh:A.handled=none)(I l:Addr)(hne:l≠I)(items:Array Value)(hz:(items.size:Int) < 2 ^ 63) :
  Walks prog w A I [I,l] [I] items.size (fun i v=>items[items.size - 1 - i]?=some v) (fun i h=>i<=items.size/\IsRv h I l ((items.size:Int) - 1 - (i:Int))/\IsTup h l items) where
 sub:=fun b hb=>by simp at hb;simp[hb]
 frame:=fun _ _ _ x hk=>⟨x.1,x.2.1.at fun o e=>hk I (by simp) o e,by obtain⟨o,e,r⟩:=x.2.2;exact⟨o,hk l (by simp) o e,r⟩⟩
 item:=fun i s Q E hi x hQ=>by
  have e:(items.size:Int) - 1 - (i:Int)=((items.size - 1 - i:Nat):Int):=by omega
  have hit:=x.2.1;rw[e]at hit;have hx:items[items.size - 1 - i]?=some (items[items.size - 1 - i]'(by omega)):=Array.getElem?_eq_getElem (by omega)
  refine jjj hit x.2.2 hx hz hne fun h' tk hit' hs'=>?_;have e2:((items.size - 1 - i:Nat):Int) - 1=(items.size:Int) - 1 - ((i + 1:Nat):Int):=by omega
  rw[e2]at hit';exact hQ _ h' tk hx ⟨hi,hit',by obtain⟨o,eo,r⟩:=x.2.2;exact⟨o,(hs'.2 l hne).trans eo,r⟩⟩ fun b o hb eo=>hs'.extBut b o (fun h=>hb (by simp[h])) eo
 done:=fun s Q E x hQ=>by
  have e:(items.size:Int) - 1 - (items.size:Int)=-1:=by omega
  have hit:=x.2.1;rw[e]at hit;exact jlL hh hit fun h' he'=>hQ h' s.toks fun b o hb eo=>he' b o (fun h=>hb (by simp[h])) eo
 self:=fun _ _ _ _ x hQ=>jjk x.2.1 hQ
theorem itb {I l:Addr}{items:Array Value}(hA:A.handled=none)(hI:IsRv s.heap I l ((items.size:Int) - 1))(hl:IsTup s.heap l items)(ne:l≠I)(hz:items.size<=sizeLine) :
  Itb prog w A (.ref I) "reversed" s.heap items.size (fun i v=>items[items.size - 1 - i]?=some v) [I] where
 nl:=by decide
 nt:=by decide
 ty:=fun s' k=>by
  obtain⟨o,e,c⟩:=hI.typeIs;exact⟨o,k _ _ e,c⟩
 ref:=fun a z=>by
  cases z;obtain⟨o,e,c⟩:=hI.typeIs;exact ju3 e
 iter:=fun s' S Q E k h1 h2 q=>by
  have hn:=jca;have W:=jsQ (prog:=prog) (w:=w) hA I l ne items (by omega)
  obtain⟨o1,e1,c1,d1⟩:=hI;obtain⟨o2,e2,c2⟩:=hl;have st:0<=items.size/\IsRv s'.heap I l ((items.size:Int) - 1 - (0:Nat))/\IsTup s'.heap l items:=⟨Nat.zero_le _,⟨o1,k _ _ e1,c1,by simpa using d1⟩,o2,k _ _ e2,c2⟩
  refine W.self 0 s' Q E st (q I _ _ _ s'.heap s'.toks s'.drawn (ju7 _) SubH.refl W st (fun z=>?_) fun b hb=>.inl hb);rcases List.mem_cons.mp z with rfl | z
  ·exact absurd (ju3 e1) (Nat.not_lt.mpr h1)
  ·have:S=l:=by simpa using z
   subst this;exact absurd (ju3 e2) (Nat.not_lt.mpr h1)
 hint:=fun s' Q E k q=>by
  obtain⟨o1,e1,c1,d1⟩:=hI;obtain⟨o2,e2,c2⟩:=hl;exact jou (l:=l) (i:=(items.size:Int) - 1) (items:=items) ⟨o1,k _ _ e1,c1,d1⟩ ⟨o2,k _ _ e2,c2⟩ (by omega) hz q
end
section
variable {X:Cx}{pins:List (Addr×Obj)}{σ:L2.St}{H:Hp}{s:Shared}
noncomputable def Phi (X:Cx)(I p:Addr)(n:Nat):Heap->Prop:=fun h=>IsRv h I p ((n:Int) - 1)/\X.s₀.heap.objs.size<=I/\p≠I
theorem jdf:CallR X (.type "reversed") (fun xs H Q=>∃p ys,xs=[.ref p]/\SqT X.K H p ys/\∀I,H I=none->Q (.ref I) (upd H I (.ext (Phi X I p ys.length)))):=by
 intro pins s σ H xs us Q I r h;obtain⟨p,ys,rfl,hq,q⟩:=h;obtain⟨u,rfl,rx⟩:=jbt r;cases rx;obtain⟨its,r',pl,hz⟩:=I.tuple hq;have hlen:=r'.length;have hn:=jca;refine jlK pl (by rw[juv];omega) ?_
 have hp:p≠s.heap.objs.size:=by obtain⟨o,e,_⟩:=pl;exact ju9 (ju3 e)
 refine⟨.ref s.heap.objs.size,_,I.laid (t':=s.toks + 1 + 1) (o:=.ext (Phi X s.heap.objs.size p ys.length)) (fun b o e=>ju2 _ e) (ju7 _) ⟨⟨⟨_,ju4 s.heap rfl,rfl,?_⟩,I.above,hp⟩,⟨_,ju4 s.heap rfl⟩,?_⟩,rfl,q _ (I.hok.fresh (ju7 _))⟩
 ·rw[juv,<-hlen];rfl
 ·rintro h1 h2 ⟨⟨o,e,c⟩,z⟩ k;exact⟨⟨o,k _ e,c⟩,z⟩
theorem jdX (hc:X.calm=true):CallR X (.type "tuple") (fun xs H Q=>∃I p ys,xs=[.ref I]/\H I=some (.ext (Phi X I p ys.length))/\SqT X.K H p ys/\∀l,del H I l=none->Q (.ref l) (upd (del H I) l (.tup ys.reverse))):=by
 intro pins s σ H xs us Q I r h;obtain⟨J,p,ys,rfl,hJ,hq,q⟩:=h;obtain⟨u,rfl,rx⟩:=jbt r;cases rx;obtain⟨its,r',pl,hz⟩:=I.tuple hq;have hlen:=r'.length;obtain⟨⟨hr,h0,hne⟩,_,_⟩:=I.hok J _ hJ;have hA:X.A.in1.in1.in1.handled=none:=I.ok.hd hc;have hsz:its.toArray.size=ys.length:=by rw[juv];exact hlen.symm
 refine jcb (itb (items:=its.toArray) hA (by rw[hsz];exact hr) pl hne (by rw[hsz];exact hz)) (by rw[hsz];exact hz) fun s' acc kp hle hg ho it=>?_
 have ea:=jcP it;have ha:acc=its.reverse.toArray:=by rw[<-ea]
 refine⟨.ref s'.heap.objs.size,_,I.goneLaid (o:=.tup ys.reverse) (s':={ s' with heap:=s'.heap.push { cls:=Value.type "tuple",data:=Data.seq acc } }) hJ h0 (fun c o z e=>ju2 _ (kp c o (by simpa using z) e)) hg ho hle ⟨by simpa using hz,its.reverse,r'.reverse,by rw[ha];exact IsTup.new _ _⟩,rfl,q _ ?_⟩
 unfold del;split
 ·rfl
 ·exact I.hok.fresh hle
end
end RT
namespace KS
open PySem PySem.W PyProof.Rows
noncomputable def jav {α:Type}(lt:Nat->Nat->Bool):KasT α->α
 |.ret a=>a
 |.ask i j k=>jav lt (k (lt i j))
theorem jbg {α β:Type}{lt:Nat->Nat->Bool}{f:α->KasT β}:∀(t:KasT α),jav lt (t.bind f)=jav lt (f (jav lt t))
 |.ret a=>rfl
 |.ask i j k=>by
  show jav lt ((k (lt i j)).bind f)=jav lt (f (jav lt (k (lt i j))));exact jbg (k (lt i j))
section
variable {lt:Nat->Nat->Bool}{p:Array Nat}
noncomputable def le (lt:Nat->Nat->Bool)(a b:Nat):Prop:=lt b a=false
structure Ord (lt:Nat->Nat->Bool):Prop where
 asym:∀a b,lt a b=true->lt b a=false
 trans:∀a b c,le lt a b->le lt b c->le lt a c
theorem Ord.refl (O:Ord lt)(a:Nat):le lt a a:=by
 unfold le;cases h:lt a a with
 |false=>rfl
 |true=>exact absurd (O.asym a a h) (by rw[h];decide)
noncomputable def at_ (p:Array Nat)(i:Nat):Nat:=p.getD i 0
noncomputable def Up (lt:Nat->Nat->Bool)(p:Array Nat)(k:Nat):Prop:=∀i j,i<=j->j < k->le lt (at_ p i) (at_ p j)
noncomputable def Dn (lt:Nat->Nat->Bool)(p:Array Nat)(k:Nat):Prop:=∀i j,i<=j->j < k->le lt (at_ p j) (at_ p i)
theorem jjl {p q:Array Nat}{i j:Nat}(h:p[i]?=q[j]?):at_ p i=at_ q j:=by
 unfold at_;rw[Array.getD_eq_getD_getElem?,Array.getD_eq_getD_getElem?,h]
theorem Up.succ (O:Ord lt){n:Nat}(h1:1<=n)(h:Up lt p n)(hn:le lt (at_ p (n - 1)) (at_ p n)):Up lt p (n + 1):=fun i j hij hj=>by
 by_cases e:j=n
 ·subst e;by_cases e2:i=j
  ·subst e2;exact O.refl _
  ·exact O.trans _ _ _ (h i (j - 1) (by omega) (by omega)) hn
 ·exact h i j hij (by omega)
theorem Dn.succ (O:Ord lt){n:Nat}(h1:1<=n)(h:Dn lt p n)(hn:le lt (at_ p n) (at_ p (n - 1))):Dn lt p (n + 1):=fun i j hij hj=>by
 by_cases e:j=n
 ·subst e;by_cases e2:i=j
  ·subst e2;exact O.refl _
  ·exact O.trans _ _ _ hn (h i (j - 1) (by omega) (by omega))
 ·exact h i j hij (by omega)
theorem jjm (O:Ord lt):∀(f n:Nat),1<=n->Up lt p n->n<=jav lt (kas_asc p f n)/\jav lt (kas_asc p f n)<=n + f/\Up lt p (jav lt (kas_asc p f n))/\(jav lt (kas_asc p f n) < n + f->lt (at_ p (jav lt (kas_asc p f n))) (at_ p (jav lt (kas_asc p f n) - 1))=true)
 |0,n,h1,h=>⟨ju7 _,ju7 _,h,fun z=>absurd z (jvb _)⟩
 |f + 1,n,h1,h=>by
  show n<=jav lt (if lt (p.getD n 0) (p.getD (n - 1) 0)=true then .ret n else kas_asc p f (n + 1))/\jav lt (if lt (p.getD n 0) (p.getD (n - 1) 0)=true then .ret n else kas_asc p f (n + 1))<=n + (f + 1)/\Up lt p (jav lt (if lt (p.getD n 0) (p.getD (n - 1) 0)=true then .ret n else kas_asc p f (n + 1)))/\_;cases hc:lt (p.getD n 0) (p.getD (n - 1) 0)with
  |true=>
   have e:jav lt (kas_asc p (f + 1) n)=n:=by
    show jav lt (if lt (p.getD n 0) (p.getD (n - 1) 0)=true then .ret n else kas_asc p f (n + 1))=n;rw[hc];rfl
   rw[e];exact⟨ju7 _,by show n<=_;omega,h,fun _=>hc⟩
  |false=>
   have e:jav lt (kas_asc p (f + 1) n)=jav lt (kas_asc p f (n + 1)):=by
    show jav lt (if lt (p.getD n 0) (p.getD (n - 1) 0)=true then .ret n else kas_asc p f (n + 1))=_;rw[hc];rfl
   obtain⟨a1,a2,a3,a4⟩:=jjm O f (n + 1) (by omega) (h.succ O h1 hc)
   rw[e];exact⟨by show n<=jav lt (kas_asc p f (n + 1));omega,by show jav lt (kas_asc p f (n + 1))<=_;omega,a3,fun z=>a4 (by omega)⟩
theorem jcc {i j k:Nat}(hj:j<=p.size):at_ (kas_rev p i j) k=if i<=k/\k < j then at_ p (i + j - 1 - k)else at_ p k:=by
 have:=getElem?_mirror_all (i:=i) hj k;unfold kas_rev;split
 ·rename_i h;rw[if_pos h]at this;exact jjl this
 ·rename_i h;rw[if_neg h]at this;exact jjl this
theorem jaX {i j:Nat}:(kas_rev p i j).Perm p:=mirror_perm _ _ _ _
theorem jdY {i j:Nat}:(kas_rev p i j).size=p.size:=mirror_size _ _ _ _
theorem Dn.rev {n:Nat}(hn:n<=p.size)(h:Dn lt p n):Up lt (kas_rev p 0 n) n:=fun i j hij hj=>by
 rw[jcc hn,jcc hn,if_pos ⟨Nat.zero_le _,by omega⟩,if_pos ⟨Nat.zero_le _,hj⟩]
 exact h _ _ (Nat.sub_le_sub_left hij _) (by omega)
theorem jdZ (O:Ord lt){k:Nat}(hs:Up lt p k):∀(f l r:Nat),r - l<=f->l<=r->r<=k->(∀i,i < l->le lt (at_ p i) (at_ p k))->(∀i,r<=i->i < k->lt (at_ p k) (at_ p i)=true) ->
  jav lt (kas_place p k f l r)<=k/\(∀i,i < jav lt (kas_place p k f l r)->le lt (at_ p i) (at_ p k))/\∀i,jav lt (kas_place p k f l r)<=i->i < k->lt (at_ p k) (at_ p i)=true
 |0,l,r,hf,hlr,hrk,h1,h2=>by
  show l<=k/\(∀i,i < l->_)/\∀i,l<=i->_;exact⟨by omega,h1,fun i hi=>h2 i (by omega)⟩
 |f + 1,l,r,hf,hlr,hrk,h1,h2=>by
  by_cases hge:l>=r
  ·have e:jav lt (kas_place p k (f + 1) l r)=l:=by
    show jav lt (if l>=r then .ret l else _)=l;rw[if_pos hge];rfl
   rw[e];exact⟨by omega,h1,fun i hi=>h2 i (by omega)⟩
  ·have e:jav lt (kas_place p k (f + 1) l r)=jav lt (if lt (at_ p k) (at_ p ((l + r) / 2))=true then kas_place p k f l ((l + r) / 2)else kas_place p k f ((l + r) / 2 + 1) r):=by
    show jav lt (if l>=r then .ret l else _)=_;rw[if_neg hge];rfl
   rw[e];have m1:l<=(l + r) / 2:=by omega
   have m2:(l + r) / 2 < r:=by omega
   generalize (l + r) / 2=m at m1 m2 ⊢;cases hc:lt (at_ p k) (at_ p m)with
   |true=>
    rw[if_pos rfl];refine jdZ O hs f l m (Nat.le_of_lt_succ (ju8 (Nat.sub_lt_sub_right m1 m2) hf)) m1 (by omega) h1 fun i hi hik=>?_
    cases hx:lt (at_ p k) (at_ p i)with
    |true=>rfl
    |false=>
     have:=O.trans _ _ _ (hs m i hi hik) hx;unfold le at this;rw[hc]at this;cases this
   |false=>
    rw[if_neg (by decide)]
    refine jdZ O hs f (m + 1) r (Nat.le_of_lt_succ (ju8 (Nat.sub_lt_sub_left (Nat.lt_of_le_of_lt m1 m2) (Nat.lt_succ_of_le m1)) hf)) m2 hrk (fun i hi=>?_) h2;exact O.trans _ _ _ (hs i m (by omega) (by omega)) hc
theorem jnu {k d i:Nat}(hk:k < p.size)(hd:d<=k):at_ (bubble p k d) i=if i=k - d then at_ p k else if k - d < i/\i<=k then at_ p (i - 1)else at_ p i:=by
 have:=getElem?_bubble hk d hd i;split
 ·rename_i h;rw[if_pos h]at this;exact jjl this
 ·rename_i h;rw[if_neg h]at this;split
  ·rename_i h2;rw[if_pos h2]at this;exact jjl this
  ·rename_i h2;rw[if_neg h2]at this;exact jjl this
theorem jnv (O:Ord lt):∀(f:Nat) (p:Array Nat) (k:Nat),k + f<=p.size->Up lt p k->(jav lt (kas_bin f p k)).Perm p/\Up lt (jav lt (kas_bin f p k)) (k + f)
 |0,p,k,hk,h=>⟨Array.Perm.refl _,h⟩
 |f + 1,p,k,hk,h=>by
  have e:jav lt (kas_bin (f + 1) p k)=jav lt (kas_bin f (bubble p k (k - jav lt (kas_place p k k 0 k))) (k + 1)):=by
   show jav lt ((kas_place p k k 0 k).bind _)=_;rw[jbg]
  obtain⟨a1,a2,a3⟩:=jdZ O h k 0 k (by omega) (by omega) (ju7 _) (fun i hi=>absurd hi (by omega)) (fun i hi hik=>absurd hik (by omega))
  rw[e];generalize jav lt (kas_place p k k 0 k)=l at a1 a2 a3;have hup:Up lt (bubble p k (k - l)) (k + 1):=fun i j hij hj=>by
   rw[jnu (by omega) (by omega),jnu (by omega) (by omega)]
   have hl:k - (k - l)=l:=Nat.sub_sub_self (by omega)
   rw[hl];clear hl e;by_cases hi:i=l
   ·rw[if_pos hi];by_cases hj':j=l
    ·rw[if_pos hj'];exact O.refl _
    ·rw[if_neg hj',if_pos ⟨by omega,by omega⟩]
     exact O.asym _ _ (a3 (j - 1) (by omega) (by omega))
   ·rw[if_neg hi];by_cases hil:l < i/\i<=k
    ·rw[if_pos hil,if_neg (by omega),if_pos ⟨by omega,by omega⟩]
     exact h (i - 1) (j - 1) (Nat.sub_le_sub_right hij 1) (by omega)
    ·rw[if_neg hil];by_cases hj':j=l
     ·rw[if_pos hj'];exact a2 i (by omega)
     ·rw[if_neg hj'];by_cases hjl:l < j/\j<=k
      ·rw[if_pos hjl];exact h i (j - 1) (Nat.le_sub_one_of_lt (by omega)) (by omega)
      ·rw[if_neg hjl];exact h i j hij (by omega)
  obtain⟨b1,b2⟩:=jnv O f (bubble p k (k - l)) (k + 1) (by rw[bubble_size];omega) hup
  exact⟨b1.trans (bubble_perm _ _ _),by rw[show k + (f + 1)=k + 1 + f by omega];exact b2⟩
noncomputable def Eqs (lt:Nat->Nat->Bool)(p:Array Nat)(n q:Nat):Prop:=∀k,n - (q + 1)<=k->k < n->le lt (at_ p k) (at_ p (n - 1))/\le lt (at_ p (n - 1)) (at_ p k)
theorem Dn.revEq (O:Ord lt){n q:Nat}(hn:n<=p.size)(hq:q + 1<=n)(h:Dn lt p n)(he:Eqs lt p n q):Dn lt (kas_rev p (n - (q + 1)) n) n:=fun i j hij hj=>by
 have same:∀k,k < n->le lt (at_ (kas_rev p (n - (q + 1)) n) k) (at_ p k)/\le lt (at_ p k) (at_ (kas_rev p (n - (q + 1)) n) k):=fun k hk=>by
  rw[jcc hn];split
  ·rename_i hx;obtain⟨a1,a2⟩:=he k hx.1 hk;obtain⟨b1,b2⟩:=he (n - (q + 1) + n - 1 - k) (by omega) (by omega)
   exact⟨O.trans _ _ _ b1 a2,O.trans _ _ _ a1 b2⟩
  ·exact⟨O.refl _,O.refl _⟩
 exact O.trans _ _ _ (same j hj).1 (O.trans _ _ _ (h i j hij hj) (same i (by omega)).2)
theorem jd0 (O:Ord lt):∀(f:Nat) (p:Array Nat) (n q:Nat),1<=n->q + 1<=n->n + f<=p.size->Dn lt p n->Eqs lt p n q ->
  ∃p' n' q',jav lt (kas_desc f p n q)=(p',n',q')/\p'.Perm p/\n<=n'/\n'<=n + f/\q' + 1<=n'/\Dn lt p' n'/\Eqs lt p' n' q'
 |0,p,n,q,h1,hq,hf,h,he=>⟨p,n,q,rfl,Array.Perm.refl _,ju7 _,ju7 _,hq,h,he⟩
 |f + 1,p,n,q,h1,hq,hf,h,he=>by
  have e:jav lt (kas_desc (f + 1) p n q)=jav lt (if lt (at_ p n) (at_ p (n - 1))=true then (if q > 0 then kas_desc f (kas_rev p (n - (q + 1)) n) (n + 1) 0 else kas_desc f p (n + 1) 0)else if lt (at_ p (n - 1)) (at_ p n)=true then .ret (p,n,q)else kas_desc f p (n + 1) (q + 1)):=by
   show jav lt (if lt (p.getD n 0) (p.getD (n - 1) 0)=true then _ else _)=_;unfold at_;cases lt (p.getD n 0) (p.getD (n - 1) 0) <;> rfl
  rw[e];have one:∀(p:Array Nat),Eqs lt p (n + 1) 0:=fun p k hk hk2=>by
   have:k=n:=by omega
   subst this;exact⟨O.refl _,O.refl _⟩
  cases hc:lt (at_ p n) (at_ p (n - 1))with
  |true=>
   rw[if_pos rfl];by_cases hq0:q > 0
   ·rw[if_pos hq0];have hd:=h.revEq O (by omega) hq he
    have hlast:le lt (at_ (kas_rev p (n - (q + 1)) n) n) (at_ (kas_rev p (n - (q + 1)) n) (n - 1)):=by
     rw[jcc (by omega),jcc (by omega),if_neg (by omega),if_pos ⟨by omega,by omega⟩]
     exact O.trans _ _ _ (O.asym _ _ hc) (he (n - (q + 1) + n - 1 - (n - 1)) (by rw[Nat.add_sub_assoc h1,Nat.add_sub_cancel];omega) (by rw[Nat.add_sub_assoc h1,Nat.add_sub_cancel];exact Nat.sub_lt h1 (Nat.succ_pos q))).2
    obtain⟨p',n',q',a1,a2,a3,a4,a5,a6,a7⟩:=jd0 O f (kas_rev p (n - (q + 1)) n) (n + 1) 0 (by omega) (by omega) (by rw[jdY];omega) (hd.succ O h1 hlast) (one _)
    exact⟨p',n',q',a1,a2.trans jaX,by omega,by omega,a5,a6,a7⟩
   ·rw[if_neg hq0];obtain⟨p',n',q',a1,a2,a3,a4,a5,a6,a7⟩:=jd0 O f p (n + 1) 0 (by omega) (by omega) (by omega) (h.succ O h1 (O.asym _ _ hc)) (one _)
    exact⟨p',n',q',a1,a2,by omega,by omega,a5,a6,a7⟩
  |false=>
   rw[if_neg (by decide)]
   cases hd:lt (at_ p (n - 1)) (at_ p n)with
   |true=>rw[if_pos rfl];exact⟨p,n,q,rfl,Array.Perm.refl _,ju7 _,by omega,hq,h,he⟩
   |false=>
    rw[if_neg (by decide)]
    have he':Eqs lt p (n + 1) (q + 1):=fun k hk hk2=>by
     rw[Nat.add_sub_cancel];by_cases hkn:k=n
     ·subst hkn;exact⟨O.refl _,O.refl _⟩
     ·obtain⟨b1,b2⟩:=he k (by omega) (by omega)
      exact⟨O.trans _ _ _ b1 hc,O.trans _ _ _ hd b2⟩
    obtain⟨p',n',q',a1,a2,a3,a4,a5,a6,a7⟩:=jd0 O f p (n + 1) (q + 1) (by omega) (by omega) (by omega) (h.succ O h1 hd) he'
    exact⟨p',n',q',a1,a2,by omega,by omega,a5,a6,a7⟩
theorem jjn (O:Ord lt){n nrem:Nat}(h1:1<=n)(hn:n<=nrem)(hp:nrem<=p.size)(h:Dn lt p n):∃m p',jav lt (kas_tail3 n nrem p)=(m,p')/\p'.Perm p/\1<=m/\m<=nrem/\Up lt p' m:=by
 have e:jav lt (kas_tail3 n nrem p)=(jav lt (kas_asc (kas_rev p 0 n) (nrem - n) n),kas_rev p 0 n):=by
  unfold kas_tail3;rw[jbg];rfl
 obtain⟨a1,a2,a3,_⟩:=jjm (p:=kas_rev p 0 n) O (nrem - n) n h1 (h.rev (by omega))
 exact⟨_,_,e,jaX,by omega,by omega,a3⟩
theorem jcQ (O:Ord lt){n nrem:Nat}(h1:1<=n)(hn:n + 1<=nrem)(hp:nrem<=p.size)(h:Dn lt p (n + 1)):∃m p',jav lt (kas_descPart n nrem p)=(m,p')/\p'.Perm p/\1<=m/\m<=nrem/\Up lt p' m:=by
 obtain⟨p',n',q',a1,a2,a3,a4,a5,a6,a7⟩:=jd0 O (nrem - (n + 1)) p (n + 1) 0 (by omega) (by omega) (by omega) h (fun k hk hk2=>by
  have:k=n:=by omega
  subst this;exact⟨O.refl _,O.refl _⟩)
 have hsz:p'.size=p.size:=a2.size_eq;have e:jav lt (kas_descPart n nrem p)=jav lt (if q' > 0 then kas_tail3 n' nrem (kas_rev p' (n' - (q' + 1)) n')else kas_tail3 n' nrem p'):=by
  unfold kas_descPart;rw[jbg,a1]
 rw[e];by_cases hq:q' > 0
 ·rw[if_pos hq];obtain⟨m,p2,b1,b2,b3,b4,b5⟩:=jjn (p:=kas_rev p' (n' - (q' + 1)) n') O (by omega:1<=n') (by omega:n'<=nrem) (by rw[jdY];omega) (a6.revEq O (by omega) a5 a7)
  exact⟨m,p2,b1,(b2.trans jaX).trans a2,b3,b4,b5⟩
 ·rw[if_neg hq];obtain⟨m,p2,b1,b2,b3,b4,b5⟩:=jjn (p:=p') O (by omega:1<=n') (by omega:n'<=nrem) (by omega) a6
  exact⟨m,p2,b1,b2.trans a2,b3,b4,b5⟩
theorem jlM (O:Ord lt){nrem:Nat}(h1:1<=nrem)(hp:nrem<=p.size):∃m p',jav lt (kas_count nrem p)=(m,p')/\p'.Perm p/\1<=m/\m<=nrem/\Up lt p' m:=by
 have h01:Up lt p 1:=fun i j hij hj=>by
  have:i=j:=by omega
  subst this;exact O.refl _
 obtain⟨a1,a2,a3,a4⟩:=jjm (p:=p) O (nrem - 1) 1 (by omega) h01
 have e:jav lt (kas_count nrem p)=jav lt (if (jav lt (kas_asc p (nrem - 1) 1) == nrem)=true then .ret (jav lt (kas_asc p (nrem - 1) 1),p)else if jav lt (kas_asc p (nrem - 1) 1) > 1 then .ask (p.getD 0 0) (p.getD (jav lt (kas_asc p (nrem - 1) 1) - 1) 0) (fun c=>if c=true then .ret (jav lt (kas_asc p (nrem - 1) 1),p)else kas_descPart (jav lt (kas_asc p (nrem - 1) 1)) nrem (kas_rev p 0 (jav lt (kas_asc p (nrem - 1) 1))))else kas_descPart (jav lt (kas_asc p (nrem - 1) 1)) nrem p):=by
  unfold kas_count;rw[jbg]
 rw[e];generalize jav lt (kas_asc p (nrem - 1) 1)=n at a1 a2 a3 a4;by_cases hn:(n == nrem)=true
 ·rw[if_pos hn];exact⟨n,p,rfl,Array.Perm.refl _,by omega,by omega,a3⟩
 ·rw[if_neg hn];have hne:n≠nrem:=by simpa using hn
  have hlt:=a4 (by omega)
  by_cases hn1:n > 1
  ·rw[if_pos hn1];show ∃m p',jav lt (if lt (p.getD 0 0) (p.getD (n - 1) 0)=true then .ret (n,p)else kas_descPart n nrem (kas_rev p 0 n))=_/\_;cases hc:lt (p.getD 0 0) (p.getD (n - 1) 0)with
   |true=>rw[if_pos rfl];exact⟨n,p,rfl,Array.Perm.refl _,by omega,by omega,a3⟩
   |false=>
    rw[if_neg (by decide)]
    have hc':le lt (at_ p (n - 1)) (at_ p 0):=hc;have alike:∀i j,i < n->j < n->le lt (at_ p i) (at_ p j):=fun i j hi hj=>O.trans _ _ _ (a3 i (n - 1) (by omega) (by omega)) (O.trans _ _ _ hc' (a3 0 j (by omega) hj))
    have hd:Dn lt (kas_rev p 0 n) (n + 1):=by
     refine Dn.succ O (by omega) (fun i j hij hj=>?_) ?_
     ·rw[jcc (by omega),jcc (by omega),if_pos ⟨by omega,hj⟩,if_pos ⟨by omega,by omega⟩]
      exact alike _ _ (by omega) (by omega)
     ·rw[jcc (by omega),jcc (by omega),if_neg (by omega),if_pos ⟨by omega,by omega⟩]
      exact O.trans _ _ _ (O.asym _ _ hlt) (alike _ _ (by omega) (by omega))
    obtain⟨m,p',b1,b2,b3,b4,b5⟩:=jcQ O (by omega:1<=n) (by omega:n + 1<=nrem) (by rw[jdY];omega) hd
    exact⟨m,p',b1,b2.trans jaX,b3,b4,b5⟩
  ·rw[if_neg hn1];have hn':n=1:=by omega
   subst hn';have hd:Dn lt p 2:=Dn.succ O (by omega) (fun i j hij hj=>by
    have:i=j:=by omega
    subst this;exact O.refl _) (O.asym _ _ hlt)
   exact jcQ O (by omega) (by omega) hp hd
theorem jov (O:Ord lt){n:Nat}(h1:1<=n):(jav lt (kas_sort n)).Perm (List.toArray (List.range n))/\Up lt (jav lt (kas_sort n)) n:=by
 obtain⟨m,p',a1,a2,a3,a4,a5⟩:=jlM (p:=List.toArray (List.range n)) O h1 (by simp)
 have hsz:p'.size=n:=by rw[a2.size_eq];simp
 have e:jav lt (kas_sort n)=jav lt (if m < n then kas_bin (n - max m 1) p' (max m 1)else .ret p'):=by
  unfold kas_sort;rw[jbg,a1]
 rw[e];by_cases hm:m < n
 ·rw[if_pos hm];have hmax:max m 1=m:=by omega
  rw[hmax];obtain⟨b1,b2⟩:=jnv O (n - m) p' m (by omega) a5
  exact⟨b1.trans a2,by have h:=b2;rwa [show m + (n - m)=n by omega]at h⟩
 ·rw[if_neg hm];have:m=n:=by omega
  subst this;exact⟨a2,a5⟩
end
end KS
namespace KS
open PySem PySem.W PyProof.Rows
inductive AllA {α:Type} (N:Nat) (R:α->Prop):KasT α->Prop where
 |ret {a:α} (h:R a):AllA N R (.ret a)
 |ask {i j:Nat}{k:Bool->KasT α} (hi:i < N) (hj:j < N) (h:∀b,AllA N R (k b)):AllA N R (.ask i j k)
theorem AllA.bind {α β:Type}{N:Nat}{R:α->Prop}{R':β->Prop}{f:α->KasT β}{t:KasT α}(h:AllA N R t)(hf:∀a,R a->AllA N R' (f a)):AllA N R' (t.bind f):=by
 induction h with
 |ret h=>exact hf _ h
 |ask hi hj _ ih=>exact .ask hi hj ih
noncomputable def LtN (N:Nat)(p:Array Nat):Prop:=0 < N/\∀x∈p,x < N
theorem LtN.get {N:Nat}{p:Array Nat}(h:LtN N p)(i:Nat):p.getD i 0 < N:=by
 by_cases hi:i < p.size
 ·simp only[Array.getD,hi,dite_true];exact h.2 _ (Array.getElem_mem hi)
 ·simp only[Array.getD,hi,dite_false];exact h.1
theorem LtN.perm {N:Nat}{p q:Array Nat}(h:LtN N p)(e:q.Perm p):LtN N q:=⟨h.1,fun x hx=>h.2 x (e.mem_iff.mp hx)⟩
theorem jow {N:Nat}{p:Array Nat}(h:LtN N p):∀(f x:Nat),AllA N (fun _=>True) (kas_asc p f x)
 |0,x=>by rw[kas_asc.eq_1];exact .ret trivial
 |f + 1,x=>by
  rw[kas_asc.eq_2];exact .ask (h.get _) (h.get _) fun b=>by
   cases b with
   |true=>exact .ret trivial
   |false=>exact jow h f (x + 1)
theorem jfT {N:Nat}{p:Array Nat}(h:LtN N p)(k:Nat):∀(f x y:Nat),AllA N (fun _=>True) (kas_place p k f x y)
 |0,x,y=>by rw[kas_place.eq_1];exact .ret trivial
 |f + 1,x,y=>by
  rw[kas_place.eq_2];split
  ·exact .ret trivial
  ·exact .ask (h.get _) (h.get _) fun b=>by
    cases b with
    |true=>exact jfT h k f _ _
    |false=>exact jfT h k f _ _
theorem jgP {N:Nat}:∀(f:Nat) (p:Array Nat) (x y:Nat),LtN N p->AllA N (fun r=>LtN N r.1) (kas_desc f p x y)
 |0,p,x,y,h=>by rw[kas_desc.eq_1];exact .ret h
 |f + 1,p,x,y,h=>by
  rw[kas_desc.eq_2];refine .ask (h.get _) (h.get _) fun b=>?_;cases b with
  |true=>
   rw[if_pos rfl];split
   ·exact jgP f _ _ _ (h.perm jaX)
   ·exact jgP f _ _ _ h
  |false=>
   rw[if_neg (by simp)]
   refine .ask (h.get _) (h.get _) fun d=>?_;cases d with
   |true=>exact .ret h
   |false=>exact jgP f _ _ _ h
theorem jnw {N:Nat}{p:Array Nat}(h:LtN N p)(n nrem:Nat):AllA N (fun r=>LtN N r.2) (kas_tail3 n nrem p):=(jow (h.perm jaX) _ _).bind fun m _=>.ret (h.perm jaX)
theorem jds {N:Nat}{p:Array Nat}(h:LtN N p)(n nrem:Nat):AllA N (fun r=>LtN N r.2) (kas_descPart n nrem p):=(jgP _ _ _ _ h).bind fun r hr=>by
 split
 ·exact jnw (hr.perm jaX) _ _
 ·exact jnw hr _ _
theorem jox {N:Nat}{p:Array Nat}(h:LtN N p)(nrem:Nat):AllA N (fun r=>LtN N r.2) (kas_count nrem p):=(jow h _ _).bind fun n _=>by
 split
 ·exact .ret h
 ·split
  ·refine .ask (h.get _) (h.get _) fun b=>?_;cases b with
   |true=>exact .ret h
   |false=>exact jds (h.perm jaX) _ _
  ·exact jds h _ _
theorem jqZ {N:Nat}:∀(f:Nat) (p:Array Nat) (k:Nat),LtN N p->AllA N (fun _=>True) (kas_bin f p k)
 |0,p,k,h=>by rw[kas_bin.eq_1];exact .ret trivial
 |f + 1,p,k,h=>by
  rw[kas_bin.eq_2];exact(jfT h _ _ _ _).bind fun l _=>jqZ f _ _ (h.perm (bubble_perm _ _ _))
theorem jq0 {n:Nat}(h1:1<=n):AllA n (fun _=>True) (kas_sort n):=by
 have h0:LtN n (List.range n).toArray:=⟨h1,fun x hx=>by simpa using hx⟩
 refine(jox h0 n).bind fun r hr=>?_;split
 ·exact jqZ _ _ _ hr
 ·exact .ret trivial
theorem joy {α:Type}{lt:Nat->Nat->Bool}{N:Nat}{cmp:Nat->Nat->(Bool->Shared->Prop)->Shared->Prop}{s:Shared}{Q:α->Shared->Prop}(h:∀i j (C:Bool->Shared->Prop),i < N->j < N->C (lt i j) s->cmp i j C s){t:KasT α}(a:AllA N (fun _=>True) t)(q:Q (jav lt t) s):t.kasWp cmp Q s:=by
 induction a with
 |ret _=>exact q
 |ask hi hj _ ih=>exact h _ _ _ hi hj (ih _ q)
end KS
namespace HS
open PySem
noncomputable def g:Nat->Nat->Nat
 |0,a=>a
 |n + 1,a=>5 * g n a + 1
theorem jq1 (n m a:Nat):g (n + m) a=g n (g m a):=by
 induction n with
 |zero=>simp[g]
 |succ n ih=>rw[Nat.succ_add,g,ih,g]
theorem jsR (n a:Nat):g n a=5 ^ n * a + g n 0:=by
 induction n with
 |zero=>simp[g]
 |succ n ih=>
  rw[g,ih,g,Nat.pow_succ,Nat.mul_add,Nat.add_assoc];congr 1;rw[Nat.mul_comm (5 ^ n) 5,Nat.mul_assoc]
theorem jq2 (n:Nat):4 * g n 0 + 1=5 ^ n:=by
 induction n with
 |zero=>rfl
 |succ n ih=>rw[g,Nat.pow_succ,<-ih];omega
theorem jlN (k:Nat):∃v,5 ^ 2 ^ k=1 + 2 ^ (k + 2) * (2 * v + 1):=by
 induction k with
 |zero=>exact⟨0,rfl⟩
 |succ k ih=>
  obtain⟨v,e⟩:=ih;refine⟨v + 2 ^ k * (2 * v + 1) * (2 * v + 1),?_⟩;rw[Nat.pow_succ,Nat.pow_mul,e];have h1:2 ^ (k + 2)=4 * 2 ^ k:=by rw[Nat.pow_add];omega
  have h2:2 ^ (k + 1 + 2)=8 * 2 ^ k:=by rw[show k + 1 + 2=k + 3 by omega,Nat.pow_add];omega
  rw[h1,h2];generalize 2 ^ k=p;grind
theorem jsS (k a:Nat):∃c,g (2 ^ k) a=a + 2 ^ k + 2 ^ (k + 1) * c:=by
 obtain⟨v,e⟩:=jlN k;have f:=jq2 (2 ^ k);have h1:2 ^ (k + 2)=4 * 2 ^ k:=by rw[Nat.pow_add];omega
 have h2:2 ^ (k + 1)=2 * 2 ^ k:=by rw[Nat.pow_add];omega
 rw[e,h1]at f;have f0:g (2 ^ k) 0=2 ^ k * (2 * v + 1):=by
  have:4 * g (2 ^ k) 0=4 * (2 ^ k * (2 * v + 1)):=by rw[<-Nat.mul_assoc];omega
  omega
 rw[jsR,e,f0,h1,h2];generalize 2 ^ k=p;exact⟨2 * (2 * v + 1) * a + v,by grind⟩
theorem jq3 {m a b:Nat}(h:a % m=b % m):∀n,g n a % m=g n b % m
 |0=>h
 |n + 1=>by
  rw[g,g,Nat.add_mod,Nat.mul_mod,jq3 h n,<-Nat.mul_mod,<-Nat.add_mod]
theorem jsT (k:Nat):∀a x,x < 2 ^ k->∃n,n < 2 ^ k/\g n a % 2 ^ k=x:=by
 induction k with
 |zero=>intro a x h;exact⟨0,by omega,by simp[g,Nat.mod_one];omega⟩
 |succ k ih=>
  intro a x h;have hp:2 ^ (k + 1)=2 * 2 ^ k:=by rw[Nat.pow_succ];omega
  obtain⟨n,hn,e⟩:=ih a (x % 2 ^ k) (Nat.mod_lt _ (Nat.two_pow_pos k));have hq:g n a % 2 ^ (k + 1) % 2 ^ k=g n a % 2 ^ k:=Nat.mod_mod_of_dvd _ ⟨2,by omega⟩
  have hlt:g n a % 2 ^ (k + 1) < 2 ^ (k + 1):=Nat.mod_lt _ (Nat.two_pow_pos _);by_cases hx:g n a % 2 ^ (k + 1)=x
  ·exact⟨n,by omega,hx⟩
  ·refine⟨2 ^ k + n,by omega,?_⟩
   obtain⟨c,ec⟩:=jsS k (g n a);rw[jq1,ec,Nat.add_mul_mod_self_left,Nat.add_mod];generalize hy:g n a % 2 ^ (k + 1)=y at *;have h3:2 ^ k % 2 ^ (k + 1)=2 ^ k:=Nat.mod_eq_of_lt (by have:=Nat.two_pow_pos k;omega)
   rw[h3,hp];rw[hp]at h hlt;have hpos:=Nat.two_pow_pos k;generalize 2 ^ k=p at *;have d1:=Nat.div_add_mod y p;have d2:=Nat.div_add_mod x p;have l1:y / p < 2:=(Nat.div_lt_iff_lt_mul hpos).mpr hlt;have l2:x / p < 2:=(Nat.div_lt_iff_lt_mul hpos).mpr h;have hm:y % p=x % p:=by rw[hq,e]
   clear ec h3 hy e hq;have m1:=Nat.mod_lt y hpos;have m2:=Nat.mod_lt x hpos;have c1:y / p=0\/y / p=1:=by generalize y / p=z at l1;omega
   have c2:x / p=0\/x / p=1:=by generalize x / p=z at l2;omega
   rcases c1 with c1 | c1 <;> rcases c2 with c2 | c2 <;> rw[c1]at d1 <;> rw[c2]at d2
   ·omega
   ·rw[Nat.mod_eq_of_lt (by omega)];omega
   ·have:y + p=x + 2 * p:=by omega
    rw[this,Nat.add_mod_right,Nat.mod_eq_of_lt (by omega)]
   ·omega
noncomputable abbrev lp (mask i p:Nat):Nat×Nat:=SetTable.leap mask i p
noncomputable def run (mask i:Nat):List Nat:=(List.range (SetTable.runEnd mask i + 1 - i)).map (i + ·)
noncomputable def pth (mask:Nat):Nat->Nat->Nat->List Nat
 |0,_,_=>[]
 |N + 1,i,p=>run mask i++pth mask N (lp mask i p).1 (lp mask i p).2
theorem jcR (mask i:Nat):i<=SetTable.runEnd mask i:=by unfold SetTable.runEnd;split <;> omega
theorem jjo {mask i:Nat}(h:i<=mask):SetTable.runEnd mask i<=mask:=by unfold SetTable.runEnd;split <;> omega
theorem jlO (mask i:Nat):SetTable.runEnd mask i<=i + 9:=by unfold SetTable.runEnd;split <;> omega
theorem jlP (mask i:Nat):i∈run mask i:=by
 have:=jcR mask i;exact List.mem_map.mpr ⟨0,List.mem_range.mpr (by omega),rfl⟩
theorem jq4 {mask i j:Nat}(h:i<=mask)(hj:j∈run mask i):j<=mask:=by
 obtain⟨a,ha,rfl⟩:=List.mem_map.mp hj;have:=Nat.add_lt_of_lt_sub' (List.mem_range.mp ha);exact jva (Nat.le_of_lt_succ this) (jjo h)
theorem jq5 (mask i p:Nat):(lp mask i p).1<=mask:=by
 show (i * 5 + 1 + p / 32) % (mask + 1)<=mask;exact Nat.le_of_lt_succ (Nat.mod_lt (i * 5 + 1 + p / 32) (Nat.succ_pos mask))
theorem jnx {mask:Nat}:∀{N i p j:Nat},i<=mask->j∈pth mask N i p->j<=mask
 |0,_,_,_,_,h=>by cases h
 |N + 1,i,p,j,hi,h=>by
  rcases List.mem_append.mp h with h | h
  ·exact jq4 hi h
  ·exact jnx (jq5 mask i p) h
theorem joz (mask i:Nat):(run mask i).length<=10:=by
 have:=jlO mask i;simp only[run,juA,List.length_range];omega
theorem jjp (mask:Nat):∀(N i p:Nat),(pth mask N i p).length<=10 * N
 |0,_,_=>by simp[pth]
 |N + 1,i,p=>by
  have h1:=joz mask i;have h2:=jjp mask N (lp mask i p).1 (lp mask i p).2;rw[pth,juF];omega
noncomputable def it (mask:Nat):Nat->Nat×Nat->Nat×Nat
 |0,s=>s
 |n + 1,s=>it mask n (lp mask s.1 s.2)
theorem jny (mask:Nat):∀{N n i p:Nat},n < N->(it mask n (i,p)).1∈pth mask N i p
 |0,_,_,_,h=>by omega
 |N + 1,0,i,p,_=>juO _ (jlP mask i)
 |N + 1,n + 1,i,p,h=>juC _ (jny mask (n:=n) (by omega))
theorem jnz (mask:Nat):∀(n m:Nat) (s:Nat×Nat),it mask (n + m) s=it mask m (it mask n s)
 |0,m,s=>by rw[Nat.zero_add];rfl
 |n + 1,m,s=>by rw[Nat.succ_add];exact jnz mask n m _
theorem jtG (mask:Nat):∀(n:Nat) (s:Nat×Nat),(it mask n s).2=s.2 / 32 ^ n
 |0,s=>by simp[it]
 |n + 1,s=>by
  show (it mask n (lp mask s.1 s.2)).2=_;rw[jtG mask n];show s.2 / 32 / 32 ^ n=_;rw[Nat.div_div_eq_div_mul,Nat.pow_succ,Nat.mul_comm]
theorem jjq (mask:Nat):∀(n i:Nat),i<=mask->(it mask n (i,0)).1=g n i % (mask + 1)
 |0,i,h=>by simp only[it,g];exact(Nat.mod_eq_of_lt (Nat.lt_succ_of_le h)).symm
 |n + 1,i,h=>by
  show (it mask n (lp mask i 0)).1=_;have e:lp mask i 0=((5 * i + 1) % (mask + 1),0):=by simp[lp,SetTable.leap,Nat.mul_comm]
  rw[e,jjq mask n _ (Nat.le_of_lt_succ (Nat.mod_lt (5 * i + 1) (Nat.succ_pos mask)))];have:g (n + 1) i=g n (5 * i + 1):=jq1 n 1 i;rw[this];exact jq3 (Nat.mod_mod _ _) n
theorem jq6 (mask:Nat):∀(n:Nat) (s:Nat×Nat),s.1<=mask->(it mask n s).1<=mask
 |0,s,h=>h
 |n + 1,s,h=>jq6 mask n _ (jq5 mask s.1 s.2)
theorem jjr {mask k i p:Nat}(hk:mask + 1=2 ^ k)(hi:i<=mask)(hp:p < 2 ^ 64):∀x,x<=mask->x∈pth mask (mask + 15) i p:=by
 intro x hx;have z:(it mask 13 (i,p)).2=0:=by
  rw[jtG];exact Nat.div_eq_of_lt (Nat.lt_trans hp (by decide))
 obtain⟨n,hn,e⟩:=jsT k (it mask 13 (i,p)).1 x (by omega)
 have h13:=jq6 mask 13 (i,p) hi;have:(it mask (13 + n) (i,p)).1=x:=by
  rw[jnz];have:it mask 13 (i,p)=((it mask 13 (i,p)).1,0):=Prod.ext rfl z;rw[this,jjq mask n _ h13,hk];exact e
 rw[<-this];exact jny mask (by omega)
theorem jbO {occ:Nat->Bool}:∀{l:List Nat},(∃x∈l,occ x=false)->∃pre j post,l=pre++j::post/\occ j=false/\∀q∈pre,occ q=true
 |[],h=>by obtain⟨x,hx,_⟩:=h;cases hx
 |a::l,h=>by
  cases ha:occ a with
  |false=>exact⟨[],a,l,rfl,ha,fun q hq=>by cases hq⟩
  |true=>
   obtain⟨x,hx,ex⟩:=h;rcases List.mem_cons.mp hx with rfl | hx
   ·rw[ha]at ex;cases ex
   ·obtain⟨pre,j,post,e,hj,hp⟩:=jbO ⟨x,hx,ex⟩;exact⟨a::pre,j,post,by rw[e];rfl,hj,fun q hq=>(List.mem_cons.mp hq).elim (fun z=>z ▸ ha) (hp q)⟩
theorem jdt {f:Nat->Bool}:∀{pre:List Nat}{j:Nat}{post:List Nat},f j=true->(∀q∈pre,f q=false)->(pre++j::post).find? f=some j
 |[],j,post,h,_=>by simp[h]
 |a::pre,j,post,h,hp=>by
  rw[List.cons_append,List.find?_cons,hp a jut];exact jdt h fun q hq=>hp q (jus _ hq)
theorem jjs (mask:Nat)(owner:Array (Option Nat)):∀(N i p:Nat),SetTable.layClean.free mask owner N i p=(pth mask N i p).find? fun j=>(owner.getD j (some 0)).isNone
 |0,i,p=>by rw[SetTable.layClean.free.eq_1];rfl
 |N + 1,i,p=>by
  rw[SetTable.layClean.free.eq_2,pth,List.find?_append,run,List.find?_map];cases e:List.find? (fun k=>(owner.getD (i + k) (some 0)).isNone) (List.range (SetTable.runEnd mask i + 1 - i))with
  |some k=>
   have e':List.find? ((fun j=>(owner.getD j (some 0)).isNone) ∘ fun x=>i + x) (List.range (SetTable.runEnd mask i + 1 - i))=some k:=e;rw[e'];rfl
  |none=>
   have e':List.find? ((fun j=>(owner.getD j (some 0)).isNone) ∘ fun x=>i + x) (List.range (SetTable.runEnd mask i + 1 - i))=none:=e;rw[e'];exact jjs mask owner N _ _
end HS
namespace HS
open PySem
noncomputable def lst (mask:Nat)(p:SetTable.Probe)(N:Nat):List Nat:=(List.range (p.more + 1)).map (p.j + ·)++pth mask N (lp mask p.i p.perturb).1 (lp mask p.i p.perturb).2
theorem jjt (t:SetTable)(h:Int)(N:Nat):lst t.mask (t.probeStart h) N=pth t.mask (N + 1) (SetTable.bits h % (t.mask + 1)) (SetTable.bits h):=by
 have:=jcR t.mask (SetTable.bits h % (t.mask + 1));show (List.range (SetTable.runEnd t.mask (SetTable.bits h % (t.mask + 1)) - SetTable.bits h % (t.mask + 1) + 1)).map _++_=run _ _++_;unfold run;rw[Nat.sub_add_comm this];rfl
theorem jgQ (t:SetTable)(p:SetTable.Probe)(N:Nat):(lst t.mask p N=[p.j]/\N=0)\/∃N',lst t.mask p N=p.j::lst t.mask (t.advance p) N':=by
 by_cases hm:p.more > 0
 ·refine .inr ⟨N,?_⟩;have e:t.advance p={ j:=p.j + 1,more:=p.more - 1,i:=p.i,perturb:=p.perturb,dummy:=p.dummy }:=by unfold SetTable.advance;rw[if_pos hm]
  rw[e];simp only[lst];rw[show p.more - 1 + 1=p.more by omega,List.range_succ_eq_map,juy,List.map_map,List.cons_append]
  congr 2
  apply List.map_congr_left;intro a _;show p.j + (a + 1)=p.j + 1 + a;omega
 ·have h0:p.more=0:=by omega
  have e:t.advance p={ j:=(lp t.mask p.i p.perturb).1,more:=SetTable.runEnd t.mask (lp t.mask p.i p.perturb).1 - (lp t.mask p.i p.perturb).1,i:=(lp t.mask p.i p.perturb).1,perturb:=(lp t.mask p.i p.perturb).2,dummy:=p.dummy }:=by unfold SetTable.advance;rw[if_neg hm]
  cases N with
  |zero=>left;simp[lst,h0,pth]
  |succ N=>
   refine .inr ⟨N,?_⟩;have:=jcR t.mask (lp t.mask p.i p.perturb).1;rw[e];simp only[lst,h0];rw[pth];unfold run;rw[Nat.sub_add_comm this];rfl
theorem jeW (t:SetTable)(p:SetTable.Probe):(t.advance p).dummy=p.dummy:=by
 unfold SetTable.advance;split <;> rfl
theorem jd1 {mask:Nat}{p:SetTable.Probe}{N j:Nat}{r:List Nat}(h:lst mask p N=j::r):p.j=j:=by
 unfold lst at h;rw[List.range_succ_eq_map,juy,List.cons_append]at h;exact(List.cons.inj h).1
theorem jfU {t:SetTable}{hashAt:Nat->Int}{h:Int}{j:Nat}{post:List Nat}:∀{pre:List Nat}{p:SetTable.Probe}{N fuel:Nat},lst t.mask p N=pre++j::post->p.dummy=none->(∀q∈pre,∃i,t.slot q=.live i/\(hashAt i == h)=false) ->
  ∃p' N',lst t.mask p' N'=j::post/\p'.dummy=none/\SetTable.probe.go t hashAt h (fuel + pre.length) p=SetTable.probe.go t hashAt h fuel p'
 |[],p,N,fuel,e,hd,_=>⟨p,N,e,hd,rfl⟩
 |q::pre,p,N,fuel,e,hd,hq=>by
  have hj:=jd1 e;obtain⟨i,hs,hh⟩:=hq q jut;rcases jgQ t p N with ⟨z,_⟩ | ⟨N',z⟩
  ·rw[z]at e;have:=congrArg List.length e;simp at this
  ·have e2:lst t.mask (t.advance p) N'=pre++j::post:=by
    rw[z]at e;exact(List.cons.inj e).2
   obtain⟨p',N'',h1,h2,h3⟩:=jfU (fuel:=fuel) e2 ((jeW t p).trans hd) fun q' hq'=>hq q' (jus _ hq');refine⟨p',N'',h1,h2,?_⟩;rw[<-h3,juB,<-Nat.add_assoc,SetTable.probe.go.eq_2,hj,hs];simp only[hh];rfl
noncomputable def Asc (xs:List Nat):Prop:=xs.Pairwise (· < ·)
theorem Asc.get {xs:List Nat}(h:Asc xs){a b:Nat}(hab:a < b)(hb:b < xs.length):xs[a] < xs[b]:=List.pairwise_iff_getElem.mp h a b (by omega) hb hab
structure Blw (xs:List Nat)(j r:Nat):Prop where
 le:r<=xs.length
 lo:∀a (h:a < xs.length),a < r->xs[a] < j
 hi:∀a (h:a < xs.length),r<=a->j<=xs[a]
theorem jd2 {xs:Array Nat}{j:Nat}(asc:Asc xs.toList):∀(fuel lo hi:Nat),lo<=hi->hi<=xs.size->hi - lo<=fuel->(∀a (h:a < xs.toList.length),a < lo->xs.toList[a] < j)->(∀a (h:a < xs.toList.length),hi<=a->j<=xs.toList[a])->Blw xs.toList j (SetTable.below.go xs j fuel lo hi)
 |0,lo,hi,h1,h2,h3,l,u=>by
  rw[SetTable.below.go.eq_1];exact⟨by simp;omega,l,fun a h z=>u a h (by omega)⟩
 |fuel + 1,lo,hi,h1,h2,h3,l,u=>by
  rw[SetTable.below.go.eq_2];by_cases hlt:lo < hi
  ·rw[if_pos hlt];have hm:(lo + hi) / 2 < xs.size:=by omega
   have hm':(lo + hi) / 2 < xs.toList.length:=by simpa using hm
   have eg:xs.getD ((lo + hi) / 2) j=xs.toList[(lo + hi) / 2]:=by simp[Array.getD,hm]
   simp only[eg];by_cases hc:xs.toList[(lo + hi) / 2] < j
   ·rw[if_pos hc];refine jd2 asc fuel _ hi (by omega) h2 (by omega) (fun a h z=>?_) u
    rcases Nat.lt_or_ge a ((lo + hi) / 2)with q | q
    ·exact Nat.lt_trans (asc.get q hm') hc
    ·have:a=(lo + hi) / 2:=by omega
     subst this;exact hc
   ·rw[if_neg hc];refine jd2 asc fuel lo _ (by omega) (by omega) (by omega) l fun a h z=>?_
    rcases Nat.lt_or_ge ((lo + hi) / 2) a with q | q
    ·have:=asc.get q h;omega
    ·have:a=(lo + hi) / 2:=by omega
     subst this;omega
  ·rw[if_neg hlt];exact⟨by simp;omega,l,fun a h z=>u a h (by omega)⟩
theorem jgR {xs:Array Nat}(asc:Asc xs.toList)(j:Nat):Blw xs.toList j (SetTable.below xs j):=
 jd2 asc _ 0 _ (Nat.zero_le _) (ju7 _) (by omega) (fun a _ z=>absurd z (Nat.not_lt_zero a)) fun a h z=>by simp at h;omega
theorem joA {xs:List Nat}{j r i:Nat}(b:Blw xs j r)(asc:Asc xs)(hi:xs[i]?=some j):r=i:=by
 obtain⟨h,e⟩:=List.getElem?_eq_some_iff.mp hi;rcases Nat.lt_trichotomy r i with z | z | z
 ·have h2:=asc.get z h;have h3:=b.hi r (by omega) (ju7 _)
  omega
 ·exact z
 ·have:=b.lo i h z;omega
theorem jeX {t:SetTable}(asc:Asc t.place.toList){i j:Nat}(h:t.place.toList[i]?=some j):t.slot j=.live i:=by
 unfold SetTable.slot;have e:=joA (jgR asc j) asc h;simp only[e];rw[if_pos];simpa using h
theorem jhS {t:SetTable}(hd:t.dummies=#[])(asc:Asc t.place.toList){j:Nat}(h:j ∉ t.place.toList):t.slot j=.empty:=by
 unfold SetTable.slot;simp only;rw[if_neg,if_neg]
 ·rw[hd];simp[SetTable.has]
 ·intro z;refine h ?_;have z:=beq_iff_eq.mp z;rw[<-Array.getElem?_toList]at z;exact juD z
noncomputable def jd3 (mask:Nat)(h:Int):List Nat:=pth mask (mask + 15) (SetTable.bits h % (mask + 1)) (SetTable.bits h)
noncomputable def Leads (mask:Nat)(O:Nat->Prop)(h:Int)(j:Nat):Prop:=∃pre post,jd3 mask h=pre++j::post/\∀q∈pre,O q
structure TabOk (mask:Nat)(place:List Nat)(hs:List Int):Prop where
 pow:∃k,mask + 1=2 ^ k
 asc:Asc place
 top:∀j∈place,j<=mask
 len:place.length=hs.length
 way:∀(i j:Nat) (h:Int),place[i]?=some j->hs[i]?=some h->Leads mask (·∈place) h j
theorem joB (h:Int):SetTable.bits h < 2 ^ 64:=by
 unfold SetTable.bits;omega
theorem jju {mask k:Nat}(hk:mask + 1=2 ^ k)(h:Int){x:Nat}(hx:x<=mask):x∈jd3 mask h:=
 jjr hk (Nat.le_of_lt_succ (Nat.mod_lt _ (Nat.succ_pos mask))) (joB h) x hx
theorem jjv (mask:Nat)(h:Int){x:Nat}(hx:x∈jd3 mask h):x<=mask:=jnx (Nat.le_of_lt_succ (Nat.mod_lt _ (Nat.succ_pos mask))) hx
theorem joC (mask:Nat)(h:Int):(jd3 mask h).length<=10 * (mask + 15):=jjp _ _ _ _
theorem jlQ {n:Nat}{l:List Nat}(hl:l.length < n):∃x,x < n/\x ∉ l:=by
 induction n generalizing l with
 |zero=>omega
 |succ n ih=>
  by_cases hn:n∈l
  ·obtain⟨x,h1,h2⟩:=ih (l:=l.erase n) (by rw[List.length_erase_of_mem hn];have:=List.length_pos_of_mem hn;omega)
   refine⟨x,by omega,fun z=>h2 ?_⟩
   exact(List.mem_erase_of_ne (by omega)).mpr z
  ·exact⟨n,by omega,hn⟩
theorem TabOk.free {mask:Nat}{place:List Nat}{hs:List Int}(T:TabOk mask place hs)(hf:place.length<=mask)(h:Int):∃pre j post,jd3 mask h=pre++j::post/\j ∉ place/\∀q∈pre,q∈place:=by
 obtain⟨k,hk⟩:=T.pow;obtain⟨x,h1,h2⟩:=jlQ (n:=mask + 1) (l:=place) (by omega)
 obtain⟨pre,j,post,e,hj,hp⟩:=jbO (occ:=fun q=>decide (q∈place)) (l:=jd3 mask h) ⟨x,jju hk h (by omega),decide_eq_false h2⟩
 exact⟨pre,j,post,e,of_decide_eq_false hj,fun q hq=>of_decide_eq_true (hp q hq)⟩
theorem Leads.mono {mask:Nat}{O O':Nat->Prop}{h:Int}{j:Nat}(l:Leads mask O h j)(k:∀q,O q->O' q):Leads mask O' h j:=
 let ⟨pre,post,e,hp⟩:=l;⟨pre,post,e,fun q hq=>k q (hp q hq)⟩
theorem joD {place:List Nat}{j r:Nat}(b:Blw place j r)(asc:Asc place)(hj:j ∉ place):Asc (place.take r++j::place.drop r):=by
 unfold Asc;rw[List.pairwise_append];refine⟨List.Pairwise.sublist (List.take_sublist _ _) asc,List.pairwise_cons.mpr ⟨fun x hx=>?_,List.Pairwise.sublist (List.drop_sublist _ _) asc⟩,fun x hx y hy=>?_⟩
 ·obtain⟨i,hi,e⟩:=List.getElem_of_mem hx;rw[List.length_drop]at hi;rw[List.getElem_drop]at e;have:=b.hi (r + i) (by omega) (by omega)
  rw[e]at this;have:j≠x:=fun z=>hj (z ▸ List.mem_of_mem_drop hx);omega
 ·obtain⟨i,hi,e⟩:=List.getElem_of_mem hx;rw[List.length_take]at hi;rw[List.getElem_take]at e;have hxj:x < j:=by rw[<-e];exact b.lo i (by omega) (by omega)
  rcases List.mem_cons.mp hy with rfl | hy
  ·exact hxj
  ·obtain⟨i',hi',e'⟩:=List.getElem_of_mem hy;rw[List.length_drop]at hi';rw[List.getElem_drop]at e';have:=b.hi (r + i') (by omega) (by omega)
   rw[e']at this;omega
theorem jjw {α:Type}{xs:List α}{r:Nat}{x:α}(hr:r<=xs.length)(i:Nat):(xs.take r++x::xs.drop r)[i]?=if i < r then xs[i]? else if i=r then some x else xs[i - 1]?:=by
 have hl:(xs.take r).length=r:=by rw[List.length_take];omega
 by_cases h1:i < r
 ·rw[if_pos h1,juI (by omega),List.getElem?_take,if_pos h1]
 ·rw[if_neg h1,juE (by omega),hl]
  by_cases h2:i=r
  ·subst h2;simp
  ·rw[if_neg h2];obtain⟨d,rfl⟩:∃d,i=r + d + 1:=⟨i - r - 1,by omega⟩
   rw[show r + d + 1 - r=d + 1 by omega,juM,List.getElem?_drop]
   congr 1
theorem TabOk.put {mask:Nat}{place:List Nat}{hs:List Int}(T:TabOk mask place hs){r j:Nat}{h:Int}(b:Blw place j r)(hj:j ∉ place)(hm:j<=mask)(hl:Leads mask (·∈place) h j):TabOk mask (place.take r++j::place.drop r) (hs.take r++h::hs.drop r) where
 pow:=T.pow
 asc:=joD b T.asc hj
 top:=fun x hx=>by
  rcases List.mem_append.mp hx with hx | hx
  ·exact T.top x (List.mem_of_mem_take hx)
  ·rcases List.mem_cons.mp hx with rfl | hx
   ·exact hm
   ·exact T.top x (List.mem_of_mem_drop hx)
 len:=by simp[T.len]
 way:=fun i x y hx hy=>by
  have hmem:∀q,q∈place->q∈place.take r++j::place.drop r:=fun q hq=>by
   rw[<-List.take_append_drop r place]at hq;rcases List.mem_append.mp hq with hq | hq
   ·exact juO _ hq
   ·exact juC _ (jus _ hq)
  rw[jjw b.le]at hx;rw[jjw (by rw[<-T.len];exact b.le)]at hy
  by_cases h1:i < r
  ·rw[if_pos h1]at hx hy;exact(T.way i x y hx hy).mono hmem
  ·rw[if_neg h1]at hx hy;by_cases h2:i=r
   ·rw[if_pos h2]at hx hy;cases hx;cases hy;exact hl.mono hmem
   ·rw[if_neg h2]at hx hy;exact(T.way _ x y hx hy).mono hmem
end HS
namespace HS
open PySem
noncomputable abbrev taken (l:List (Option Nat))(q:Nat):Prop:=∃z,l[q]?=some (some z)
structure OwnOk (mask:Nat)(l:List (Option Nat))(hs:List Int):Prop where
 size:l.length=mask + 1
 perm:(l.filterMap id).Perm (List.range hs.length)
 way:∀j z,l[j]?=some (some z)->∃h,hs[z]?=some h/\Leads mask (taken l) h j
theorem jgS:∀{l:List (Option Nat)},(l.filterMap id).length < l.length->∃x,x < l.length/\l[x]?=some none
 |[],h=>by simp at h
 |none::l,h=>⟨0,by simp,rfl⟩
 |some a::l,h=>by
  obtain⟨x,h1,h2⟩:=jgS (l:=l) (by simpa using h)
  exact⟨x + 1,by simpa using h1,by simpa using h2⟩
theorem jfV:∀{l:List (Option Nat)}{j k:Nat},l[j]?=some none->((l.set j (some k)).filterMap id).Perm (k::l.filterMap id)
 |[],j,k,h=>by simp at h
 |x::l,0,k,h=>by
  have:x=none:=by simpa using h
  subst this;simp
 |none::l,j + 1,k,h=>by
  have:=jfV (l:=l) (j:=j) (k:=k) (by simpa using h)
  simpa using this
 |some a::l,j + 1,k,h=>by
  have:=jfV (l:=l) (j:=j) (k:=k) (by simpa using h)
  simp only[List.set_cons_succ,juG,id];exact(List.Perm.cons a this).trans (List.Perm.swap k a _)
theorem jjx {l:List (Option Nat)}{j k:Nat}(hj:j < l.length)(q:Nat):(l.set j (some k))[q]?=if j=q then some (some k)else l[q]?:=by
 rw[juw];by_cases h:j=q
 ·rw[if_pos h,if_pos h,if_pos (h ▸ hj)]
 ·rw[if_neg h,if_neg h]
theorem OwnOk.step {mask:Nat}{owner:Array (Option Nat)}{hs:List Int}(O:OwnOk mask owner.toList hs)(hp:∃k,mask + 1=2 ^ k)(hl:hs.length<=mask)(h:Int) :
  ∃j,SetTable.layClean.free mask owner (SetTable.turns mask) (SetTable.bits h % (mask + 1)) (SetTable.bits h)=some j/\OwnOk mask (owner.setIfInBounds j (some hs.length)).toList (hs++[h]):=by
 obtain⟨kp,hkp⟩:=hp;have hlen:(owner.toList.filterMap id).length=hs.length:=by rw[O.perm.length_eq,List.length_range]
 obtain⟨x,hx,ex⟩:=jgS (l:=owner.toList) (by rw[hlen,O.size];omega)
 have isn:∀q,q<=mask->((owner.getD q (some 0)).isNone=true↔owner.toList[q]?=some none):=fun q hq=>by
  have hq':q < owner.size:=by have:=O.size;simp at this;omega
  simp only[Array.getD,hq',dite_true];rw[Array.getElem?_toList,Array.getElem?_eq_getElem hq',Option.isNone_iff_eq_none];simp
 obtain⟨pre,j,post,e,hj,hpre⟩:=jbO (occ:=fun q=>!(owner.getD q (some 0)).isNone) (l:=jd3 mask h) ⟨x,jju hkp h (by have:=O.size;omega),by
  simp only[Bool.not_eq_false'];exact(isn x (by have:=O.size;omega)).mpr ex⟩
 have hjm:j<=mask:=jjv mask h (by rw[e];simp)
 have hjn:owner.toList[j]?=some none:=(isn j hjm).mp (by simpa using hj)
 have hjl:j < owner.toList.length:=by have:=O.size;omega
 have hpt:∀q∈pre,taken owner.toList q:=fun q hq=>by
  have hqm:q<=mask:=jjv mask h (by rw[e];exact juO _ hq)
  have hq':q < owner.toList.length:=by have:=O.size;omega
  have:=hpre q hq;cases hv:owner.toList[q] with
  |none=>
   have h1:=(isn q hqm).mpr (by rw[jur hq',hv])
   have h2:(!(owner.getD q (some 0)).isNone)=true:=this;rw[h1]at h2;cases h2
  |some z=>exact⟨z,by rw[jur hq',hv]⟩
 refine⟨j,?_,?_⟩
 ·rw[jjs];show (jd3 mask h).find? _=_;rw[e];refine jdt (by simpa using hj) fun q hq=>?_
  have:=hpre q hq;simpa using this
 ·have es:(owner.setIfInBounds j (some hs.length)).toList=owner.toList.set j (some hs.length):=by simp
  rw[es];have mono:∀q,taken owner.toList q->taken (owner.toList.set j (some hs.length)) q:=fun q ⟨z,hz⟩=>by
   refine⟨z,?_⟩;rw[jjx hjl,if_neg]
   ·exact hz
   ·intro w;rw[<-w,hjn]at hz;cases hz
  refine⟨by rw[juP];exact O.size,?_,fun q z hz=>?_⟩
  ·rw[juF,List.length_singleton,List.range_succ];exact(jfV hjn).trans ((List.Perm.cons _ O.perm).trans (List.perm_append_singleton _ _).symm)
  ·rw[jjx hjl]at hz;by_cases hq:j=q
   ·rw[if_pos hq]at hz;cases hz;subst hq;exact⟨h,by simp,pre,post,e,fun q hq=>mono q (hpt q hq)⟩
   ·rw[if_neg hq]at hz;obtain⟨h',e1,e2⟩:=O.way q z hz;exact⟨h',by rw[juI (List.getElem?_eq_some_iff.mp e1).1];exact e1,e2.mono mono⟩
theorem jdu {mask:Nat}(hp:∃k,mask + 1=2 ^ k):∀(more hs:List Int) (owner:Array (Option Nat)),OwnOk mask owner.toList hs->hs.length + more.length<=mask + 1 ->
  ∃owner',more.foldl (fun (acc:Option (Array (Option Nat)×Nat)) h=>do
    let __x <-acc
    match __x with
     |(owner,k)=>do
      let j <-SetTable.layClean.free mask owner (SetTable.turns mask) (SetTable.bits h % (mask + 1)) (SetTable.bits h)
      pure (owner.setIfInBounds j (some k),k + 1)) (some (owner,hs.length))=some (owner',(hs++more).length)/\OwnOk mask owner'.toList (hs++more)
 |[],hs,owner,O,_=>⟨owner,by simp,by simpa using O⟩
 |h::more,hs,owner,O,hl=>by
  obtain⟨j,e,O'⟩:=O.step hp (by simp at hl;omega) h
  obtain⟨owner',e',O''⟩:=jdu hp more (hs++[h]) _ O' (by simp at hl ⊢;omega)
  refine⟨owner',?_,by simpa using O''⟩
  rw[List.foldl_cons];have:(do
    let __x <-(some (owner,hs.length):Option (Array (Option Nat)×Nat))
    match __x with
     |(owner,k)=>do
      let j <-SetTable.layClean.free mask owner (SetTable.turns mask) (SetTable.bits h % (mask + 1)) (SetTable.bits h)
      pure (owner.setIfInBounds j (some k),k + 1))=some (owner.setIfInBounds j (some hs.length),(hs++[h]).length):=by
   show (do
      let j <-SetTable.layClean.free mask owner (SetTable.turns mask) (SetTable.bits h % (mask + 1)) (SetTable.bits h)
      pure (owner.setIfInBounds j (some hs.length),hs.length + 1))=_
   rw[e];simp
  rw[this,e'];simp
theorem jlR {mask:Nat}(hp:∃k,mask + 1=2 ^ k)(hs:List Int)(hl:hs.length<=mask + 1):∃owner,SetTable.layClean mask hs.toArray=some owner/\OwnOk mask owner.toList hs:=by
 have O0:OwnOk mask (Array.replicate (mask + 1) (none:Option Nat)).toList []:=by
  refine⟨by simp,?_,fun j z hz=>?_⟩
  ·have:(Array.replicate (mask + 1) (none:Option Nat)).toList.filterMap id=[]:=by
    rw[List.filterMap_eq_nil_iff];intro a ha;simp at ha;simp[ha]
   rw[this];exact List.Perm.refl _
  ·simp[List.getElem?_replicate]at hz
 obtain⟨owner,e,O⟩:=jdu hp hs [] _ O0 (by simpa using hl)
 refine⟨owner,?_,by simpa using O⟩
 unfold SetTable.layClean;rw[<-Array.foldl_toList];show Option.map _ (hs.foldl _ (some (Array.replicate (mask + 1) none,([]:List Int).length)))=_;rw[e];rfl
theorem jd4 {α β:Type}{f g:α->Option β}:∀{l:List α},(∀x∈l,f x=g x)->l.filterMap f=l.filterMap g
 |[],_=>rfl
 |x::l,h=>by rw[juG,juG,h x jut,jd4 fun y hy=>h y (jus _ hy)]
theorem jlS (l:List (Option Nat)):∀(a:Nat),((List.range' a l.length).filterMap fun j=>(l.getD (j - a) none).map fun x=>(j,x)).map (·.2)=l.filterMap id:=by
 induction l with
 |nil=>intro a;rfl
 |cons x l ih=>
  intro a;rw[juB,List.range'_succ,juG];have e:(List.range' (a + 1) l.length).filterMap (fun j=>((x::l).getD (j - a) none).map fun y=>(j,y))=(List.range' (a + 1) l.length).filterMap (fun j=>(l.getD (j - (a + 1)) none).map fun y=>(j,y)):=by
   apply jd4;intro j hj;have:=(List.mem_range'_1.mp hj).1;rw[show j - a=(j - (a + 1)) + 1 by omega,List.getD_cons_succ]
  rw[e,Nat.sub_self,List.getD_cons_zero];cases x with
  |none=>simpa using ih (a + 1)
  |some y=>simpa using ih (a + 1)
theorem jlT (n:Nat):List.range n=List.range' 0 n:=List.range_eq_range'
theorem jgT {l:List (Option Nat)}{j z:Nat}(h:(j,z)∈(List.range l.length).filterMap fun j=>(l.getD j none).map fun x=>(j,x)):l[j]?=some (some z):=by
 obtain⟨a,ha,e⟩:=List.mem_filterMap.mp h;obtain⟨y,e1,e2⟩:=Option.map_eq_some_iff.mp e;cases e2;rw[juz]at e1;cases q:l[j]? with
 |none=>rw[q]at e1;cases e1
 |some v=>rw[q]at e1;simp at e1;rw[e1]
theorem jlU {l:List (Option Nat)}{j z:Nat}(h:l[j]?=some (some z)):(j,z)∈(List.range l.length).filterMap fun j=>(l.getD j none).map fun x=>(j,x):=by
 refine List.mem_filterMap.mpr ⟨j,List.mem_range.mpr (List.getElem?_eq_some_iff.mp h).1,?_⟩;rw[juz,h];rfl
theorem jlV (l:List (Option Nat)):Asc (((List.range l.length).filterMap fun j=>(l.getD j none).map fun x=>(j,x)).map (·.1)):=by
 have:(((List.range l.length).filterMap fun j=>(l.getD j none).map fun x=>(j,x)).map (·.1)).Sublist (List.range l.length):=by
  rw[List.map_filterMap];have:(List.range l.length).filterMap (fun j=>Option.map (fun x=>x.1) ((l.getD j none).map fun x=>(j,x)))=(List.range l.length).filter (fun j=>(l.getD j none).isSome):=by
   rw[<-List.filterMap_eq_filter];apply jd4;intro j _;cases e:l.getD j none <;> simp only[Option.guard,Option.map_none,Option.map_some,e] <;> rfl
  rw[this];exact List.filter_sublist
 exact List.Pairwise.sublist this List.pairwise_lt_range
theorem joE {mask finger moves:Nat}{led plain:Bool}(hp:∃k,mask + 1=2 ^ k){α:Type}(es:List (Int×α))(hl:es.length<=mask + 1) :
  ∃(place order:List Nat),SetTable.laid mask finger moves led plain (es.map (·.1)).toArray=some ({ mask:=mask,place:=place.toArray,dummies:=#[],finger:=finger,led:=led,moves:=moves,plain:=plain },order.toArray) /\
   (order.filterMap (es[·]?)).Perm es/\TabOk mask place ((order.filterMap (es[·]?)).map (·.1)):=by
 obtain⟨owner,e,O⟩:=jlR hp (es.map (·.1)) (by simpa using hl)
 have hsz:owner.toList.length=mask + 1:=O.size;let live:=(List.range owner.toList.length).filterMap fun j=>(owner.toList.getD j none).map fun x=>(j,x);have hord:live.map (·.2)=owner.toList.filterMap id:=by
  have:=jlS owner.toList 0;rw[<-jlT]at this;simpa[live] using this
 have hperm:(live.map (·.2)).Perm (List.range es.length):=by
  rw[hord];simpa using O.perm
 have hlt:∀z∈live.map (·.2),z < es.length:=fun z hz=>List.mem_range.mp (hperm.mem_iff.mp hz);have hget:∀i:Nat,((live.map (·.2)).filterMap (es[·]?))[i]?=(live[i]?).bind fun p=>es[p.2]?:=by
  have gen:∀(l:List (Nat×Nat)),(∀z∈l.map (·.2),z < es.length)->∀i:Nat,((l.map (·.2)).filterMap (es[·]?))[i]?=(l[i]?).bind fun p=>es[p.2]?:=by
   intro l;induction l with
   |nil=>intro _ i;simp
   |cons p l ih=>
    intro h i;have hp:=h p.2 (by simp)
    rw[juy,juG,jur hp];cases i with
    |zero=>simp[jur hp]
    |succ i=>simpa using ih (fun z hz=>h z (jus _ hz)) i
  exact gen live hlt
 refine⟨live.map (·.1),live.map (·.2),?_,?_,?_⟩
 ·unfold SetTable.laid;rw[e];have ed:∀j,owner.getD j none=owner.toList.getD j none:=fun j=>by simp[Array.getD_eq_getD_getElem?,juz]
  simp only[Option.bind_eq_bind,Option.bind_some,ed];simp only[live,hsz];rfl
 ·have h1:=hperm.filterMap (es[·]?);have h2:(List.range es.length).filterMap (es[·]?)=es:=by
   apply List.ext_getElem?;intro i;have:(List.range es.length).filterMap (es[·]?)=es:=by
    clear hget hlt hperm hord live hsz O e owner hl h1;induction es with
    |nil=>rfl
    |cons x es ih=>
     rw[juB,List.range_succ_eq_map,juG,List.filterMap_map];simp only[juL];congr 1
   rw[this]
  rw[h2]at h1;exact h1
 ·refine⟨hp,jlV _,fun j hj=>?_,?_,fun i j h hi hh=>?_⟩
  ·obtain⟨⟨j',z⟩,hm,rfl⟩:=List.mem_map.mp hj;have:=(List.getElem?_eq_some_iff.mp (jgT hm)).1;show j'<=mask;omega
  ·rw[juA,juA];have:∀(l:List Nat),(∀z∈l,z < es.length)->(l.filterMap (es[·]?)).length=l.length:=by
    intro l;induction l with
    |nil=>intro _;rfl
    |cons a l ih=>
     intro h;rw[juG,jur (h a jut)];simp[ih fun z hz=>h z (jus _ hz)]
   rw[this _ hlt,juA]
  ·rw[jux]at hi hh;rw[hget]at hh;obtain⟨p,e1,e2⟩:=Option.map_eq_some_iff.mp hi;rw[e1]at hh;obtain⟨v,e3,e4⟩:=Option.map_eq_some_iff.mp hh;subst e2;have hown:=jgT (show (p.1,p.2)∈live from juD e1);obtain⟨h',e5,lead⟩:=O.way p.1 p.2 hown;have:h'=h:=by
    rw[jux]at e5;have e3:es[p.2]?=some v:=e3;rw[e3]at e5;cases e5;exact e4
   subst this;exact lead.mono fun q ⟨z,hz⟩=>List.mem_map.mpr ⟨(q,z),jlU hz,rfl⟩
end HS
namespace HS
open PySem PySem.Spec PyProof.Rows L2
noncomputable def tkz (prog:Program)(w:World)(Z:List Int->Addr->Prop):HeapKind prog w (List Int) where
 is:=fun h k a=>(tupleKind (intKind prog w)).is h k a/\Z k a
 hash:=(tupleKind (intKind prog w)).hash
 draws:=(tupleKind (intKind prog w)).draws
 room:=(tupleKind (intKind prog w)).room
 inj:=fun h1 h2=>(tupleKind (intKind prog w)).inj h1.1 h2.1
 keeps:=fun h1 h2 h3 h4=>⟨(tupleKind (intKind prog w)).keeps h1.1 h2 h3 h4,h1.2⟩
 pyHash:=fun h1 h2 q=>(tupleKind (intKind prog w)).pyHash h1 h2.1 q
 eqBool:=fun h1 h2 h3 q=>(tupleKind (intKind prog w)).eqBool h1 h2.1 h3.1 q
 quiet:=fun h1 q=>(tupleKind (intKind prog w)).quiet h1.1 q
section
variable {prog:Program}{w:World}{Z:List Int->Addr->Prop}{A:Around}{E:Value->Shared->Prop}{s:Shared}
theorem joF {mask:Nat}(h:∃k,mask + 1=2 ^ k)(h1:1<=mask):(mask % 2 == 0)=false:=by
 obtain⟨k,hk⟩:=h;cases k with
 |zero=>simp at hk;omega
 |succ k=>
  have:mask % 2=1:=by rw[Nat.pow_succ]at hk;omega
  simp[this]
noncomputable def El (prog:Program)(w:World)(Z:List Int->Addr->Prop)(h:Heap)(k:List Int)(e:Int×Value):Prop:=∃b,e=((tkz prog w Z).hash k,.ref b)/\(tkz prog w Z).is h k b
theorem joG {b:Addr}{k:List Int}(hb:(tkz prog w Z).is s.heap k b)(hcs:∀(k':List Int) (b':Addr),(tkz prog w Z).is s.heap k' b'->∀{Q:Bool->Shared->Prop}{E:Value->Shared->Prop},Q false s->wpAny (model prog w) A (ofAClassStatement 8 (.ref b')) Q E s)
  (l:List Value) (hl:∀y∈l,∃k' b',y=.ref b'/\(tkz prog w Z).is s.heap k' b') {Q:Bool->Shared->Prop} (q:Q false s):wpAny (model prog w) A (searchCouldBeSeen (.ref b) l) Q E s:=by
 unfold searchCouldBeSeen;refine juT (wpAny_forIn_list _ (fun (jb9:List Value) (bb:Option Bool×Unit) s'=>bb=(none,())/\s'=s/\∀y∈jb9,∃k' b',y=.ref b'/\(tkz prog w Z).is s.heap k' b') _ (fun y jb9 bb s' hI=>?_) (fun bb s' hI=>?_) l (none,()) ⟨rfl,rfl,hl⟩)
 ·obtain⟨rfl,rfl,hy⟩:=hI;obtain⟨k',b',rfl,hb'⟩:=hy y jut;have hrest:∀y∈jb9,∃k' b',y=.ref b'/\(tkz prog w Z).is s'.heap k' b':=fun y h=>hy y (jus _ h);simp only;by_cases hv:((b == b') || carriedByValue (Value.ref b) && carriedByValue (Value.ref b'))=true
  ·rw[if_pos hv];exact juU ⟨rfl,rfl,hrest⟩
  ·rw[if_neg hv];refine juT ((tkz prog w Z).quiet hb ?_);refine juV rfl ?_;refine juT ((tkz prog w Z).quiet hb' ?_);refine juV rfl ?_;refine juT (hcs k b hb ?_);refine juV rfl ?_;refine juT (hcs k' b' hb' ?_);refine juV rfl ?_;exact juU ⟨rfl,rfl,hrest⟩
 ·obtain⟨rfl,rfl,_⟩:=hI;exact juU q
noncomputable def cnd (t:SetTable)(es:Array (Int×Value))(h:Int)(q:Nat):Bool:=match t.slot q with
 |.live i=>(((es[i]?).map (·.1)).getD 0) == h
 |_=>false
theorem jd5 {a b:Nat}(h:b + 1<=a):a=a - b - 1 + 1 + b:=by
 obtain⟨c,rfl⟩:=Nat.exists_eq_add_of_le h;omega
theorem jtH {a b:Addr}{o:Obj}{es:Array (Int×Value)}{ep:Nat}{t:SetTable}{k:List Int}{j:Nat}{post:List Nat}{Q:SetFound->Shared->Prop}(hr:A.units < cLine)
  (hg:s.heap.get? a=some o) (hd:o.data=.set es ep t) (hf:t.fits es.size=true) (hpw:∃k,t.mask + 1=2 ^ k) (hm1:1<=t.mask) (hb:(tkz prog w Z).is s.heap k b)
  (hcs:∀(k':List Int) (b':Addr),(tkz prog w Z).is s.heap k' b'->∀{Q:Bool->Shared->Prop}{E:Value->Shared->Prop},Q false s->wpAny (model prog w) A (ofAClassStatement 8 (.ref b')) Q E s)
  (hel:∀e∈es.toList,∃k',El prog w Z s.heap k' e)
  (fin:(t.slot j=.empty/\Q (.free j false) s)\/∃i b',t.slot j=.live i/\es[i]?=some ((tkz prog w Z).hash k,.ref b')/\(tkz prog w Z).is s.heap k b'/\Q (.there none) s) :
  ∀(n:Nat) (pre:List Nat) (po:Option SetTable.Probe) (N fuel:Nat),pre.length < n->lst t.mask (po.getD (t.probeStart ((tkz prog w Z).hash k))) N=pre++j::post->(po.getD (t.probeStart ((tkz prog w Z).hash k))).dummy=none->pre.length < fuel->pre.length + 1<=10 * SetTable.turns t.mask ->
   (∀q∈pre,∃i k' b',t.slot q=.live i/\es[i]?=some ((tkz prog w Z).hash k',.ref b')/\(tkz prog w Z).is s.heap k' b'/\k'≠k) ->
   wpAny (model prog w) A (setSearchFrom a (.ref b) ((tkz prog w Z).hash k) true fuel po) Q E s:=by
 intro n;induction n with
 |zero=>intro pre po N fuel hn;omega
 |succ n ih=>
  intro pre po N fuel hn hl hdm hfu hlen hpre;obtain⟨fuel,rfl⟩:∃f,fuel=f + 1:=⟨fuel - 1,(Nat.succ_pred_eq_of_pos (Nat.zero_lt_of_lt hfu)).symm⟩;rw[setSearchFrom.eq_2];refine juT (ju1 hg hd hf ?_);refine juV (by rw[show t.gaveWay=(t.mask % 2 == 0)from rfl,joF hpw hm1];rfl) ?_
  have hA:∀{i:Nat}{k':List Int}{b':Addr},es[i]?=some ((tkz prog w Z).hash k',.ref b')->(fun i=>((es[i]?).map (·.1)).getD 0) i=(tkz prog w Z).hash k':=fun {i k' b'} e=>by simp only[e];rfl
  have PR:∃met,t.probe (fun i=>((es[i]?).map (·.1)).getD 0) ((tkz prog w Z).hash k) (po.getD (t.probeStart ((tkz prog w Z).hash k)))=some met/\((met=.empty j none/\Q (.free j false) s) \/
    ∃qc ic next k' b',met=.candidate qc ic next/\t.slot qc=.live ic/\es[ic]?=some ((tkz prog w Z).hash k',.ref b')/\(tkz prog w Z).is s.heap k' b'/\((k'=k/\Q (.there none) s)\/(k'≠k/\wpAny (model prog w) A (setSearchFrom a (.ref b) ((tkz prog w Z).hash k) true fuel (some next)) Q E s))):=by
   by_cases hc:∃q∈pre,(cnd t es ((tkz prog w Z).hash k) q)=true
   ·
    obtain⟨pre1,qc,pre2,e,hqc,hp1⟩:=jbO (occ:=fun q=>!(cnd t es ((tkz prog w Z).hash k) q)) (l:=pre) (let ⟨q,hq,e⟩:=hc;⟨q,hq,by rw[e];rfl⟩)
    subst e;obtain⟨ic,k',b',hs,he,hi,hne⟩:=hpre qc (by simp)
    simp only[cnd,hs]at hqc;have hh:((((es[ic]?).map (·.1)).getD 0) == (tkz prog w Z).hash k)=true:=by simpa using hqc
    rw[juR,List.cons_append]at hl;have hl10:pre1.length + 1<=10 * SetTable.turns t.mask:=by simp at hlen;omega
    obtain⟨p',N',h1,h2,h3⟩:=jfU (t:=t) (hashAt:=fun i=>((es[i]?).map (·.1)).getD 0) (h:=(tkz prog w Z).hash k) (fuel:=10 * SetTable.turns t.mask - pre1.length - 1 + 1) hl hdm (fun q hq=>by
     obtain⟨i,k'',b'',hs',he',_⟩:=hpre q (by simp[hq])
     refine⟨i,hs',?_⟩;have:=hp1 q hq;simp only[cnd,hs']at this;simpa using this)
    have hj:=jd1 h1;refine⟨.candidate qc ic (t.advance p'),?_,.inr ⟨qc,ic,t.advance p',k',b',rfl,hs,he,hi,.inr ⟨hne,?_⟩⟩⟩
    ·unfold SetTable.probe;rw[jd5 hl10,h3,SetTable.probe.go.eq_2,hj,hs];simp only[hh,if_true]
    ·rcases jgQ t p' N' with ⟨z,_⟩ | ⟨N'',z⟩
     ·rw[z]at h1;have:=congrArg List.length h1;simp at this
     ·have e2:lst t.mask (t.advance p') N''=pre2++j::post:=by
       rw[z]at h1;exact(List.cons.inj h1).2
      refine ih pre2 (some (t.advance p')) N'' fuel (by simp at hn;omega) e2 ((jeW t p').trans h2) (by simp at hfu;omega) (by simp at hlen;omega) fun q hq=>hpre q (by simp[hq])
   ·have hno:∀q∈pre,(cnd t es ((tkz prog w Z).hash k) q)=false:=fun q hq=>by
     cases e:(cnd t es ((tkz prog w Z).hash k) q)with
     |false=>rfl
     |true=>exact absurd ⟨q,hq,e⟩ hc
    obtain⟨p',N',h1,h2,h3⟩:=jfU (t:=t) (hashAt:=fun i=>((es[i]?).map (·.1)).getD 0) (h:=(tkz prog w Z).hash k) (fuel:=10 * SetTable.turns t.mask - pre.length - 1 + 1) hl hdm (fun q hq=>by
     obtain⟨i,k'',b'',hs',he',_⟩:=hpre q hq;refine⟨i,hs',?_⟩;have:=hno q hq;simp only[cnd,hs']at this;exact this)
    have hj:=jd1 h1;rcases fin with ⟨hs,hq⟩ | ⟨ic,b',hs,he,hi,hq⟩
    ·refine⟨.empty j none,?_,.inl ⟨rfl,hq⟩⟩;unfold SetTable.probe;rw[jd5 hlen,h3,SetTable.probe.go.eq_2,hj,hs,h2]
    ·refine⟨.candidate j ic (t.advance p'),?_,.inr ⟨j,ic,t.advance p',k,b',rfl,hs,he,hi,.inl ⟨rfl,hq⟩⟩⟩;have hh:((((es[ic]?).map (·.1)).getD 0) == (tkz prog w Z).hash k)=true:=by rw[he];simp
     unfold SetTable.probe;rw[jd5 hlen,h3,SetTable.probe.go.eq_2,hj,hs];simp only[hh,if_true]
  obtain⟨met,hp,hmet⟩:=PR;generalize hX:t.probe _ _ _=X;have hX2:X=some met:=hX.symm.trans hp;subst hX2;rcases hmet with ⟨rfl,hq⟩ | ⟨qc,ic,next,k',b',rfl,hs,he,hi,hq⟩
  ·exact juU hq
  ·have seen:∀(m:Sem SetFound),wpAny (model prog w) A m Q E s->wpAny (model prog w) A (if (!t.led)=true then do
       let __do_lift <-searchCouldBeSeen (Value.ref b) (List.map (fun x=>x.snd) (Array.filter (fun x=>x.fst == (tkz prog w Z).hash k) es).toList)
       if __do_lift=true then do
         let __r <-unsupported "set:the-search-would-show-the-table"
         (fun (_:PUnit)=>m) __r
        else m
      else m) Q E s:=fun m hm=>by
    by_cases hled:(!t.led)=true
    ·rw[if_pos hled];refine juT (joG hb hcs _ (fun y hy=>?_) (juV rfl hm));obtain⟨e,he,rfl⟩:=List.mem_map.mp hy;have:=(Array.mem_filter.mp (Array.mem_toList_iff.mp he)).1;obtain⟨k'',b'',rfl,hb''⟩:=hel e (Array.mem_toList_iff.mpr this);exact⟨k'',b'',rfl,hb''⟩
    ·rw[if_neg hled];exact hm
   refine seen _ ?_;simp only[he];refine juT (juY ((tkz prog w Z).eqBool hr hi hb ?_));refine juT (ju1 hg hd hf ?_);rcases hq with ⟨rfl,hq⟩ | ⟨hne,hq⟩
   ·refine wpAny_ite_true (by simp) ?_
    exact juU hq
   ·refine juV (by simp[hne]) ?_
    have hsm:t.sameMemory t.moves t.mask=some true:=by unfold SetTable.sameMemory;simp
    simp only[hsm,if_true,hs,he];refine juT ?_;have:isSame (Value.ref b') (Value.ref b')=pure true:=by unfold isSame;simp
    rw[this];refine juU (juT (juU ?_));simp only[if_true];refine juV (by simp[hne]) ?_
    exact hq
end
end HS
namespace HS
open PySem PySem.Spec PyProof.Rows L2
noncomputable def MaskOk (m:Nat):Prop:=m=7\/m=31\/m=127\/m=511\/m=2047\/m=8191
theorem MaskOk.pow {m:Nat}(h:MaskOk m):∃k,m + 1=2 ^ k:=by
 rcases h with rfl | rfl | rfl | rfl | rfl | rfl
 ·exact⟨3,rfl⟩
 ·exact⟨5,rfl⟩
 ·exact⟨7,rfl⟩
 ·exact⟨9,rfl⟩
 ·exact⟨11,rfl⟩
 ·exact⟨13,rfl⟩
theorem MaskOk.rng {m:Nat}(h:MaskOk m):7<=m/\m<=8191:=by rcases h with rfl | rfl | rfl | rfl | rfl | rfl <;> omega
theorem MaskOk.grow {m n:Nat}(h:MaskOk m)(h1:n * 5 < m * 3)(h2:(n + 1) * 5>=m * 3)(h3:n < 4000):MaskOk (SetTable.sizeAbove (SetTable.grown (n + 1)) - 1)/\(n + 1) * 5 < (SetTable.sizeAbove (SetTable.grown (n + 1)) - 1) * 3/\SetTable.sizeAbove (SetTable.grown (n + 1))<=8192:=by
 have e:∀c,n + 1=c->MaskOk (SetTable.sizeAbove (SetTable.grown c) - 1)/\c * 5 < (SetTable.sizeAbove (SetTable.grown c) - 1) * 3/\SetTable.sizeAbove (SetTable.grown c)<=8192->MaskOk (SetTable.sizeAbove (SetTable.grown (n + 1)) - 1)/\(n + 1) * 5 < (SetTable.sizeAbove (SetTable.grown (n + 1)) - 1) * 3/\SetTable.sizeAbove (SetTable.grown (n + 1))<=8192:=fun c hc z=>by rw[hc];exact z
 rcases h with rfl | rfl | rfl | rfl | rfl | rfl
 ·exact e 5 (by omega) ⟨.inr (.inl rfl),by decide,by decide⟩
 ·exact e 19 (by omega) ⟨.inr (.inr (.inl rfl)),by decide,by decide⟩
 ·exact e 77 (by omega) ⟨.inr (.inr (.inr (.inl rfl))),by decide,by decide⟩
 ·exact e 307 (by omega) ⟨.inr (.inr (.inr (.inr (.inl rfl)))),by decide,by decide⟩
 ·exact e 1229 (by omega) ⟨.inr (.inr (.inr (.inr (.inr rfl)))),by decide,by decide⟩
 ·omega
structure Tbl (t:SetTable)(es:List (Int×Value)):Prop where
 nd:t.dummies=#[]
 pl:t.plain=true
 mo:MaskOk t.mask
 ok:TabOk t.mask t.place.toList (es.map (·.1))
 sm:es.length * 5 < t.mask * 3
theorem Tbl.fits {t:SetTable}{es:Array (Int×Value)}(T:Tbl t es.toList):t.fits es.size=true:=by
 have h1:=T.ok.len;have h2:=T.sm;have h3:=T.mo.rng;simp at h1 h2;unfold SetTable.fits SetTable.fill;rw[T.nd,h1];simp;omega
inductive SetH (prog:Program) (w:World) (Z:List Int->Addr->Prop) (h:Heap) (a:Addr) (ks:List (List Int)):Prop
 |mk (o:_) (es:_) (ep:_) (t:_):(h.get? a=some o)->(o.ExactSet)->(o.data=.set es ep t)->(Tbl t es.toList)->(Paired (El prog w Z h) ks es.toList)->(ks.Nodup)->(t.led=!(w.params.followText "set-order"))->SetH prog w Z h a ks
theorem jeY {j:Nat}{post:List Nat}:∀(pre:List Nat),∃pre' post',pre++j::post=pre'++j::post'/\j ∉ pre'/\∀q∈pre',q∈pre
 |[]=>⟨[],post,rfl,by simp,fun _ h=>h⟩
 |q::pre=>by
  by_cases h:q=j
  ·subst h;exact⟨[],pre++q::post,rfl,by simp,fun _ z=>by cases z⟩
  ·obtain⟨pre',post',e,h1,h2⟩:=jeY pre;exact⟨q::pre',post',by rw[List.cons_append,e];rfl,fun z=>(List.mem_cons.mp z).elim (fun z=>h z.symm) h1,fun x hx=>(List.mem_cons.mp hx).elim (fun z=>by rw[z];simp) fun z=>jus _ (h2 x z)⟩
section
variable {prog:Program}{w:World}{Z:List Int->Addr->Prop}{A:Around}{E:Value->Shared->Prop}{s:Shared}
theorem ja3 {α β:Type}{F:α->β->Prop}:∀{l₁:List α}{l₂:List β}{i:Nat}{b:β},Paired F l₁ l₂->l₂[i]?=some b->∃a,l₁[i]?=some a/\F a b
 |_,_,i,b,.nil,h=>by simp at h
 |_,_,0,b,.cons h _,e=>by simp at e;subst e;exact⟨_,rfl,h⟩
 |_,_,i + 1,b,.cons _ h,e=>by
  obtain⟨a,e1,e2⟩:=ja3 h (by simpa using e)
  exact⟨a,by simpa using e1,e2⟩
theorem jcS {α β:Type}{F:α->β->Prop}:∀{l₁:List α}{l₂:List β}{i:Nat}{a:α},Paired F l₁ l₂->l₁[i]?=some a->∃b,l₂[i]?=some b/\F a b
 |_,_,i,b,.nil,h=>by simp at h
 |_,_,0,b,.cons h _,e=>by simp at e;subst e;exact⟨_,rfl,h⟩
 |_,_,i + 1,b,.cons _ h,e=>by
  obtain⟨a,e1,e2⟩:=jcS h (by simpa using e)
  exact⟨a,by simpa using e1,e2⟩
theorem jlW {a b:Addr}{o:Obj}{es:Array (Int×Value)}{ep:Nat}{t:SetTable}{k:List Int}{ks:List (List Int)}{Q:SetFound->Shared->Prop}(hr:A.units < cLine)
  (hg:s.heap.get? a=some o) (hd:o.data=.set es ep t) (T:Tbl t es.toList) (hP:Paired (El prog w Z s.heap) ks es.toList) (hn:ks.Nodup) (hb:(tkz prog w Z).is s.heap k b)
  (hcs:∀(k':List Int) (b':Addr),(tkz prog w Z).is s.heap k' b'->∀{Q:Bool->Shared->Prop}{E:Value->Shared->Prop},Q false s->wpAny (model prog w) A (ofAClassStatement 8 (.ref b')) Q E s)
  (there:k∈ks->Q (.there none) s) (free:k ∉ ks->∀j,j<=t.mask->j ∉ t.place.toList->Leads t.mask (·∈t.place.toList) ((tkz prog w Z).hash k) j->Q (.free j false) s) :
  wpAny (model prog w) A (setSearch a (.ref b) ((tkz prog w Z).hash k) true) Q E s:=by
 obtain⟨hm7,hm8⟩:=T.mo.rng;have hlen:t.place.toList.length=es.toList.length:=by have:=T.ok.len;simpa using this
 have hel:∀e∈es.toList,∃k',El prog w Z s.heap k' e:=fun e he=>by
  obtain⟨i,hi,rfl⟩:=List.getElem_of_mem he;obtain⟨k',_,h⟩:=ja3 hP (jur hi);exact⟨k',h⟩
 have at_:∀q,q∈t.place.toList->∃i k' b',t.place.toList[i]?=some q/\ks[i]?=some k'/\t.slot q=.live i/\es[i]?=some ((tkz prog w Z).hash k',.ref b')/\(tkz prog w Z).is s.heap k' b':=fun q hq=>by
  obtain⟨i,hi,e⟩:=List.getElem_of_mem hq;have hi':i < es.toList.length:=by omega
  obtain⟨k',e1,b',e2,e3⟩:=ja3 hP (jur hi');refine⟨i,k',b',by rw[jur hi,e],e1,jeX T.ok.asc (by rw[jur hi,e]),?_,e3⟩
  rw[<-Array.getElem?_toList,jur hi',e2]
 have hstart:lst t.mask ((none:Option SetTable.Probe).getD (t.probeStart ((tkz prog w Z).hash k))) (t.mask + 14)=jd3 t.mask ((tkz prog w Z).hash k):=jjt t _ _;have hwl:=joC t.mask ((tkz prog w Z).hash k);unfold setSearch;by_cases hk:k∈ks
 ·obtain⟨i,hi,e⟩:=List.getElem_of_mem hk;obtain⟨e',he1,b',rfl,hb'⟩:=jcS hP (by rw[jur hi,e])
  have hi':i < t.place.toList.length:=by rw[hlen];exact(List.getElem?_eq_some_iff.mp he1).1
  obtain⟨pre0,post0,ew,hp0⟩:=T.ok.way i t.place.toList[i] ((tkz prog w Z).hash k) (jur hi') (by rw[jux,he1];rfl)
  obtain⟨pre,post,ew2,hnj,hsub⟩:=jeY (j:=t.place.toList[i]) (post:=post0) pre0;rw[ew2]at ew;have hpl:pre.length + 1<=10 * (t.mask + 15):=by rw[ew]at hwl;simp at hwl;omega
  refine jtH hr hg hd T.fits T.mo.pow (by omega) hb hcs hel (.inr ⟨i,b',jeX T.ok.asc (jur hi'),by rw[<-Array.getElem?_toList];exact he1,hb',there hk⟩) (pre.length + 1) pre none (t.mask + 14) 100000 (Nat.lt_succ_self _) (hstart.trans ew) rfl (by omega) hpl fun q hq=>?_
  obtain⟨i',k',b'',h1,h2,h3,h4,h5⟩:=at_ q (hp0 q (hsub q hq));refine⟨i',k',b'',h3,h4,h5,fun z=>?_⟩;subst z;have:i'=i:=by
   obtain⟨hi2,e2⟩:=List.getElem?_eq_some_iff.mp h2;exact(List.getElem_inj hn).mp (e2.trans e.symm)
  subst this;rw[jur hi']at h1;cases h1;exact hnj hq
 ·obtain⟨pre,j,post,ew,hj,hp⟩:=T.ok.free (by have:=T.sm;omega) ((tkz prog w Z).hash k)
  have hpl:pre.length + 1<=10 * (t.mask + 15):=by rw[ew]at hwl;simp at hwl;omega
  refine jtH hr hg hd T.fits T.mo.pow (by omega) hb hcs hel (.inl ⟨jhS T.nd T.ok.asc hj,free hk j (jjv _ _ (by rw[ew];simp)) hj ⟨pre,post,ew,hp⟩⟩) (pre.length + 1) pre none (t.mask + 14) 100000 (Nat.lt_succ_self _) (hstart.trans ew) rfl (by omega) hpl fun q hq=>?_
  obtain⟨i',k',b'',h1,h2,h3,h4,h5⟩:=at_ q (hp q hq);exact⟨i',k',b'',h3,h4,h5,fun z=>hk (z ▸ juD h2)⟩
end
end HS
namespace HS
open PySem PySem.Spec PyProof.Rows L2
section
variable {prog:Program}{w:World}{Z:List Int->Addr->Prop}{A:Around}{E:Value->Shared->Prop}{s:Shared}
theorem jjy {h h':Heap}{k:List Int}{b:Addr}(hb:(tkz prog w Z).is h k b)(e:∀o,h.get? b=some o->h'.get? b=some o):(tkz prog w Z).is h' k b:=by
 obtain⟨⟨o,items,n,h1,h2⟩,z⟩:=hb;exact⟨⟨o,items,n,e o h1,h2⟩,z⟩
theorem jq7 {h:Heap}{k:List Int}{a b:Addr}{o:Obj}{es:Array (Int×Value)}{ep:Nat}{t:SetTable}(hb:(tkz prog w Z).is h k b)(hg:h.get? a=some o)(hd:o.data=.set es ep t):b≠a:=by
 obtain⟨⟨o',items,n,h1,_,h3,_⟩,_⟩:=hb;intro z;subst z;rw[hg]at h1;cases h1;rw[hd]at h3;cases h3
theorem jjz {h h':Heap}{a:Addr}(ne:∀k b,(tkz prog w Z).is h k b->b≠a)(sb:∀b,b≠a->h'.get? b=h.get? b):∀{ks:List (List Int)}{es:List (Int×Value)},Paired (El prog w Z h) ks es->Paired (El prog w Z h') ks es:=fun p=>
 Paired.mapP p fun k e ⟨b,h1,h2⟩=>⟨b,h1,jjy h2 fun o z=>(sb b (ne k b h2)).trans z⟩
theorem jdv {α β:Type}{F:α->β->Prop}{a:α}{b:β}(hab:F a b):∀{l₁:List α}{l₂:List β} (r:Nat),Paired F l₁ l₂->Paired F (l₁.take r++a::l₁.drop r) (l₂.take r++b::l₂.drop r)
 |_,_,0,p=>by simpa using Paired.cons hab p
 |_,_,r + 1,.nil=>by simpa using Paired.cons hab Paired.nil
 |_,_,r + 1,.cons h p=>by simpa using Paired.cons h (jdv hab r p)
theorem jjA {α:Type}{l:List α}{r:Nat}{x y:α}:y∈l.take r++x::l.drop r↔y=x\/y∈l:=by
 rw[List.mem_append,juu];constructor
 ·rintro (h | h | h)
  ·exact .inr (List.mem_of_mem_take h)
  ·exact .inl h
  ·exact .inr (List.mem_of_mem_drop h)
 ·rintro (h | h)
  ·exact .inr (.inl h)
  ·rw[<-List.take_append_drop r l,List.mem_append]at h;exact h.elim .inl fun z=>.inr (.inr z)
theorem jeZ {α:Type}{l:List α}{r:Nat}{x:α}(hn:l.Nodup)(hx:x ∉ l):(l.take r++x::l.drop r).Nodup:=by
 have h1:(x::l).Nodup:=List.nodup_cons.mpr ⟨hx,hn⟩;have:(l.take r++x::l.drop r).Perm (x::l):=by
  have:=List.perm_middle (a:=x) (l₁:=l.take r) (l₂:=l.drop r);rwa [List.take_append_drop]at this
 exact this.nodup_iff.mpr h1
theorem jfW {α:Type}{l:List α}{r:Nat}{x:α}:(l.take r++x::l.drop r).length=l.length + 1:=by
 rw[juF,juB,<-Nat.add_assoc,<-juF,List.take_append_drop]
theorem joH {α β:Type}{f:α->β}{l:List α}{r:Nat}{x:α}:(l.take r++x::l.drop r).map f=(l.map f).take r++f x::(l.map f).drop r:=by simp
theorem jfX {α β:Type}{F:α->β->Prop}{l₂ l₂':List β}(h:l₂'.Perm l₂):∀{l₁:List α},Paired F l₁ l₂->∃l₁',l₁'.Perm l₁/\Paired F l₁' l₂':=by
 induction h with
 |nil=>intro l₁ p;cases p;exact⟨[],.refl _,.nil⟩
 |cons x _ ih=>
  intro l₁ p;cases p with
  |cons h p=>
   obtain⟨l,h1,h2⟩:=ih p;exact⟨_::l,h1.cons _,.cons h h2⟩
 |swap x y l=>
  intro l₁ p;cases p with
  |cons h p=>
   cases p with
   |cons h' p=>exact⟨_::_::_,.swap _ _ _,.cons h' (.cons h p)⟩
 |trans _ _ ih1 ih2=>
  intro l₁ p;obtain⟨l,h1,h2⟩:=ih2 p;obtain⟨l',h3,h4⟩:=ih1 h2;exact⟨l',h3.trans h1,h4⟩
theorem jjB {a b:Addr}{k:List Int}{ks:List (List Int)}{Q:Bool->Shared->Prop}(hr:A.units < cLine)(hS:SetH prog w Z s.heap a ks)(hb:(tkz prog w Z).is s.heap k b)(hl:ks.length < 4000)
  (hcs:∀(s':Shared) (k':List Int) (b':Addr),(tkz prog w Z).is s'.heap k' b'->∀{Q:Bool->Shared->Prop}{E:Value->Shared->Prop},Q false s'->wpAny (model prog w) A (ofAClassStatement 8 (.ref b')) Q E s')
  (hbv:∀(s':Shared),(tkz prog w Z).is s'.heap k b->∀{Q:Bool->Shared->Prop}{E:Value->Shared->Prop},Q true s'->wpAny (model prog w) A (hashByValue 8 (.ref b)) Q E s')
  (q:∀(r:Bool) (h':Heap) (tk:Nat) (ks':List (List Int)),s.toks<=tk->Heap.SameBut a s.heap h'->SetH prog w Z h' a ks'->(∀y,y∈ks'↔y=k\/y∈ks)->ks'.length<=ks.length + 1->Q r { s with heap:=h',toks:=tk }) :
  wpAny (model prog w) A (setAdd a (.ref b)) Q E s:=by
 obtain⟨o,es,ep,t,hg,hx,hd,T,hP,hn,hled⟩:=hS;have hne:∀k b,(tkz prog w Z).is s.heap k b->b≠a:=fun k b h=>jq7 h hg hd;unfold setAdd;refine juY (juT ((tkz prog w Z).pyHash hr hb ?_));generalize hs':({ heap:=s.heap,gens:=s.gens,drawn:=s.drawn,toks:=s.toks + (tkz prog w Z).draws k,os:=s.os }:Shared)=s';have hs'h:s'.heap=s.heap:=by rw[<-hs']
 unfold setAddHashed;refine juY ?_;rw[show (100000:Nat)=99999 + 1 from rfl,setAddHashedIn.eq_2];have hg':s'.heap.get? a=some o:=by rw[hs'h];exact hg
 refine juT (ju1 hg' hd T.fits ?_);refine juV (by simp[byScan,Value.scannable]) ?_
 have hP':Paired (El prog w Z s'.heap) ks es.toList:=by rw[hs'h];exact hP
 have hb':(tkz prog w Z).is s'.heap k b:=by rw[hs'h];exact hb
 refine juT (jlW hr hg' hd T hP' hn hb' (hcs s') (fun hk=>?_) fun hk j hj1 hj2 hlead=>?_)
 ·refine juU ?_;have:=q false s.heap (s.toks + (tkz prog w Z).draws k) ks (Nat.le_add_right _ _) ⟨rfl,fun _ _=>rfl⟩ ⟨o,es,ep,t,hg,hx,hd,T,hP,hn,hled⟩ (fun y=>⟨fun h=>.inr h,fun h=>h.elim (fun z=>z ▸ hk) id⟩) (Nat.le_succ _);rw[hs']at this;exact this
 ·refine juT (ju1 hg' hd T.fits ?_);have hsm:=T.sm;have hml:=T.mo.rng;have hpl:t.plain=true:=T.pl;have hasd:SetTable.has t.dummies j=false:=by rw[T.nd];simp[SetTable.has]
  simp only[SetTable.put,hasd,hpl,jvd,if_false,if_true];refine juT (hbv s' hb' ?_);simp only[if_true];obtain⟨es1,hes1⟩:∃x,x=SetTable.insertAt es (SetTable.below t.place j) ((tkz prog w Z).hash k,Value.ref b):=⟨_,rfl⟩;obtain⟨t1,ht1⟩:∃x:SetTable,x={ mask:=t.mask,place:=SetTable.insertAt t.place (SetTable.below t.place j) j,dummies:=t.dummies,finger:=t.finger,led:=t.led,moves:=t.moves,plain:=true }:=⟨_,rfl⟩;rw[<-hes1,<-ht1];have el1:es1.toList=es.toList.take (SetTable.below t.place j)++((tkz prog w Z).hash k,Value.ref b)::es.toList.drop (SetTable.below t.place j):=by rw[hes1];exact SetTable.toList_insertAt _ _ _
  have pl1:t1.place.toList=t.place.toList.take (SetTable.below t.place j)++j::t.place.toList.drop (SetTable.below t.place j):=by rw[ht1];exact SetTable.toList_insertAt _ _ _
  have sz1:es1.size=es.size + 1:=by
   have h1:=congrArg List.length el1;rw[jfW]at h1;simpa using h1
  have hkl:ks.length=es.size:=by have:=Paired.length hP;simpa using this
  have ok1:TabOk t1.mask t1.place.toList (es1.toList.map (·.1)):=by
   rw[pl1,el1,joH,show t1.mask=t.mask by rw[ht1]]
   exact T.ok.put (jgR T.ok.asc j) hj2 hj1 hlead
  have f1:t1.fits es1.size=true:=by
   have h1:=ok1.len;unfold SetTable.fits SetTable.fill;rw[show t1.dummies=#[] by rw[ht1];exact T.nd,show t1.mask=t.mask by rw[ht1]]
   simp at h1 hsm ⊢;omega
  have P1:Paired (El prog w Z s'.heap) (ks.take (SetTable.below t.place j)++k::ks.drop (SetTable.below t.place j)) es1.toList:=by
   rw[el1];exact jdv ⟨b,rfl,hb'⟩ _ hP'
  have hsl:es1.size<=sizeLine:=by rw[sz1,sizeLine_eq];omega
  refine juT (wpAny_storeSet_of hg' hd ?_ hsl);have e1:=ju5 (Obj.putSet es1 t1) hg' (by obtain⟨c,dd,da,sl⟩:=o;cases hd;rfl)
  have ob1:Obj.putSet es1 t1 o={ o with data:=.set es1 (ep + 1) t1 }:=by obtain⟨c,dd,da,sl⟩:=o;cases hd;rfl
  rw[ob1]at e1;have oth:∀c,c≠a->(s'.heap.update a (Obj.putSet es1 t1)).get? c=s'.heap.get? c:=fun c hc=>ju6 _ _ (Ne.symm hc);have hne':∀k b,(tkz prog w Z).is s'.heap k b->b≠a:=fun k b h=>jq7 h hg' hd;by_cases hfull:(!false && t1.tooFull)=true
  ·rw[if_pos hfull];have hfl:t1.tooFull=true:=by simpa using hfull
   have hz1:t1.place.toList.length=es1.toList.length:=by have:=ok1.len;simpa using this
   have htf:(es.size + 1) * 5>=t.mask * 3:=by
    unfold SetTable.tooFull SetTable.fill at hfl;rw[show t1.dummies=#[] by rw[ht1];exact T.nd,show t1.mask=t.mask by rw[ht1]]at hfl
    simp at hfl hz1;omega
   obtain⟨g1,g2,g3⟩:=T.mo.grow (n:=es.size) (by simpa using hsm) htf (by omega)
   obtain⟨place,order,hla,hpe,htb⟩:=joE (finger:=t1.finger) (moves:=t1.movedTo (SetTable.sizeAbove (SetTable.grown (es.size + 1)) - 1)) (led:=t1.led) (plain:=t1.plain) g1.pow es1.toList (by
    have:es1.toList.length=es.size + 1:=by simpa using sz1
    rw[this];omega)
   obtain⟨es2,hes2⟩:∃x:Array (Int×Value),x=Array.filterMap (fun x=>es1[x]?) order.toArray:=⟨_,rfl⟩;have el2:es2.toList=order.filterMap (es1.toList[·]?):=by rw[hes2];simp
   have sz2:es2.size=es1.size:=by
    have:=hpe.length_eq;rw[<-el2]at this;simpa using this
   obtain⟨t2,ht2⟩:∃x:SetTable,x={ mask:=SetTable.sizeAbove (SetTable.grown (es.size + 1)) - 1,place:=place.toArray,dummies:=#[],finger:=t1.finger,led:=t1.led,moves:=t1.movedTo (SetTable.sizeAbove (SetTable.grown (es.size + 1)) - 1),plain:=t1.plain }:=⟨_,rfl⟩;refine juT ?_;unfold setRelay;refine juT (ju1 e1 rfl f1 ?_);refine juV (decide_eq_false (by rw[sizeLine_eq];omega)) ?_
   have hrel:t1.relaid (Array.map (fun x=>x.fst) es1) (SetTable.grown (es.size + 1))=some (t2,order.toArray):=by
    rw[ht2,<-hla];unfold SetTable.relaid;congr 1;apply Array.ext';simp
   refine juT (juW (a:=(es2,t2)) ?_ ?_)
   ·rw[hrel];show (if ((Array.filterMap (fun x=>es1[x]?) order.toArray).size != es1.size)=true then _ else pure (Array.filterMap (fun x=>es1[x]?) order.toArray,t2))=_;rw[if_neg (by rw[<-hes2,sz2];simp),hes2]
   ·refine wpAny_storeSet_of e1 rfl ?_ (by rw[sz2];exact hsl)
    obtain⟨ks2,hk1,hk2⟩:=jfX (show es2.toList.Perm es1.toList by rw[el2];exact hpe) P1
    refine juU ?_;have e2:=ju5 (Obj.putSet es2 t2) e1 rfl;have oth2:∀c,c≠a->((s'.heap.update a (Obj.putSet es1 t1)).update a (Obj.putSet es2 t2)).get? c=s'.heap.get? c:=fun c hc=>(ju6 _ _ (Ne.symm hc)).trans (oth c hc);have:=q true ((s'.heap.update a (Obj.putSet es1 t1)).update a (Obj.putSet es2 t2)) s'.toks ks2 (by rw[<-hs'];exact Nat.le_add_right _ _) ⟨by rw[Heap.size_update,Heap.size_update,hs'h],fun c hc=>by rw[oth2 c hc,hs'h]⟩
     ⟨_,es2,ep + 2,t2,e2,hx,rfl,⟨by rw[ht2],by rw[ht2,ht1],by rw[ht2];exact g1,?_,?_⟩,jjz hne' oth2 hk2,hk1.nodup_iff.mpr (jeZ hn hk),by rw[ht2,ht1];exact hled⟩ (fun y=>by rw[hk1.mem_iff];exact jjA) (by rw[hk1.length_eq,jfW];omega)
    ·rw[<-hs']at this ⊢;exact this
    ·rw[ht2,el2];exact htb
    ·rw[ht2];have:es2.toList.length=es.size + 1:=by simp[sz2,sz1]
     rw[this];exact g2
  ·rw[if_neg hfull];refine juU ?_;have:=q true (s'.heap.update a (Obj.putSet es1 t1)) s'.toks (ks.take (SetTable.below t.place j)++k::ks.drop (SetTable.below t.place j)) (by rw[<-hs'];exact Nat.le_add_right _ _) ⟨by rw[Heap.size_update,hs'h],fun c hc=>by rw[oth c hc,hs'h]⟩
    ⟨_,es1,ep + 1,t1,e1,hx,rfl,⟨by rw[ht1];exact T.nd,by rw[ht1],by rw[ht1];exact T.mo,ok1,?_⟩,jjz hne' oth P1,jeZ hn hk,by rw[ht1];exact hled⟩ (fun y=>jjA) (by rw[jfW];omega)
   ·rw[<-hs']at this ⊢;exact this
   ·have h1:=ok1.len;simp only[Bool.not_false,Bool.true_and,SetTable.tooFull,SetTable.fill,decide_eq_true_eq,ge_iff_le,Nat.not_le]at hfull;rw[show t1.dummies=#[] by rw[ht1];exact T.nd]at hfull
    simp at h1 hfull ⊢;omega
end
end HS
namespace HS
open PySem PySem.Spec PyProof.Rows L2
theorem joI:typeLookup (Value.type "tuple") (Str.ofString "__hash__")=pure (some (Value.builtin "tuple.__hash__")):=by rfl
section
variable {prog:Program}{w:World}{Z:List Int->Addr->Prop}{A:Around}{E:Value->Shared->Prop}{s:Shared}
theorem items_int {ks:List Int}{vs:List Value}(h:PySem.ItemsAre (intKind prog w) ks vs):∀v∈vs,∃i t,v=Value.int i t:=by
 induction h with
 |nil=>intro v hv;cases hv
 |cons hk _ ih=>
  intro v hv;rcases List.mem_cons.mp hv with rfl | hv
  ·rename_i k _ _ _;have hk:Value.isInt k v=true:=hk;cases v <;> simp[Value.isInt]at hk
   exact⟨_,_,rfl⟩
  ·exact ih v hv
theorem jdw {α:Type}{f:α->Option Bool×Unit->Sem (ForInStep (Option Bool×Unit))}{xs:Array α}{Q:Option Bool×Unit->Shared->Prop}(hf:∀x∈xs.toList,∀{Q:ForInStep (Option Bool×Unit)->Shared->Prop},Q (.yield (none,())) s->wpAny (model prog w) A (f x (none,())) Q E s)(q:Q (none,()) s) :
  wpAny (model prog w) A (forIn xs (none,()) f) Q E s:=by
 rw[<-Array.forIn_toList];refine wpAny_forIn_list f (fun (jb9:List α) bb s'=>bb=(none,())/\s'=s/\∀x∈jb9,x∈xs.toList) Q (fun x jb9 bb s' hI=>?_) (fun bb s' hI=>?_) xs.toList (none,()) ⟨rfl,rfl,fun _ h=>h⟩
 ·obtain⟨rfl,rfl,h⟩:=hI;exact hf x (h x jut) ⟨rfl,rfl,fun y hy=>h y (jus _ hy)⟩
 ·obtain⟨rfl,rfl,_⟩:=hI;exact q
theorem jq8 {k:List Int}{b:Addr}(hb:(tkz prog w Z).is s.heap k b){Q:Bool->Shared->Prop}(q:Q true s):wpAny (model prog w) A (hashByValue 8 (.ref b)) Q E s:=by
 obtain⟨⟨o,items,n,h1,h2,h3,h4⟩,_⟩:=hb;rw[show (8:Nat)=7 + 1 from rfl,hashByValue.eq_12];refine juT (wpAny_specialOf (T:="tuple") ⟨o,h1,h2⟩ joI ?_);refine juT (wpAny_seqItems h1 h3 ?_);refine juT (jdw (fun v hv Q q=>?_) ?_)
 ·obtain⟨i,t,rfl⟩:=items_int h4 v hv;rw[hashByValue.eq_3];refine juT (juU ?_);exact juV rfl (juU q)
 ·exact juU q
theorem jq9 {k:List Int}{b:Addr}(hb:(tkz prog w Z).is s.heap k b){Q:Bool->Shared->Prop}(q:Q false s):wpAny (model prog w) A (ofAClassStatement 8 (.ref b)) Q E s:=by
 obtain⟨⟨o,items,n,h1,h2,h3,h4⟩,_⟩:=hb;rw[show (8:Nat)=7 + 1 from rfl,ofAClassStatement.eq_2];refine juT (wpAny_typeOf (T:="tuple") ⟨o,h1,h2⟩ ?_);refine wpAny_ite_true rfl ?_;refine juT (juU ?_);refine juV rfl ?_;refine juT (wpAny_seqItems h1 h3 ?_);refine juT (jdw (fun v hv Q q=>?_) ?_)
 ·obtain⟨i,t,rfl⟩:=items_int h4 v hv;rw[ofAClassStatement.eq_3 _ _ (fun a z=>by cases z)]
  refine juT (juU ?_);exact juV rfl (juU q)
 ·exact juU q
theorem set_loop {h0:Heap}{I S:Addr}{fp wr:List Addr}{n:Nat}{P:Nat->Value->Prop}{St:Nat->Heap->Prop}{R:Result->Shared->Prop}(hu:A.in1.units < cLine)(W:Walks prog w A.in1 I fp wr n P St)(hSf:S ∉ fp)(hwr:∀b∈wr,h0.objs.size<=b)(hS0:h0.objs.size<=S)
  (hwt:∀i h b,St i h->b∈wr->∃o,h.get? b=some o/\o.cls≠.type "tuple") (val:Nat->List Int)
  (hP:∀i v,P i v->∃b,v=.ref b/\(tkz prog w Z).is h0 (val i) b) (hn:n < 4000):∀(k i:Nat) (s:Shared) (ks:List (List Int)),n - i=k->i<=n->St i s.heap->SubH h0 s.heap->SetH prog w Z s.heap S ks->(∀y,y∈ks↔∃j,j < i/\y=val j)->ks.length<=i ->
   (∀(s':Shared) (ks':List (List Int)),(∀b o,b≠S->b ∉ wr->s.heap.get? b=some o->s'.heap.get? b=some o)->s'.gens=s.gens->s'.os=s.os->SetH prog w Z s'.heap S ks'->(∀y,y∈ks'↔∃j,j < n/\y=val j)->ks'.length<=n->R (Except.ok (Flow.ret Value.none)) s') ->
   codeAny (model prog w) A (Code.builtin "set.update.loop" { pos:=[Value.ref S,Value.ref I] }) R s:=by
 have hSw:S ∉ wr:=fun z=>hSf (W.sub S z);have keepS:∀{i:Nat}{h h':Heap}{ks:List (List Int)},St i h->(∀b o,b ∉ wr->h.get? b=some o->h'.get? b=some o)->SetH prog w Z h S ks->SetH prog w Z h' S ks:=fun {i h h' ks} hst hk' hset=>by
  obtain⟨o,es,ep,t,hg,hx,hd,T,hPd,hnd,hled⟩:=hset;refine⟨o,es,ep,t,hk' S o hSw hg,hx,hd,T,?_,hnd,hled⟩;refine Paired.mapP hPd fun k e ⟨b,h1,h2⟩=>⟨b,h1,jjy h2 fun o z=>hk' b o (fun zz=>?_) z⟩;obtain⟨o',e1,e2⟩:=hwt i h b hst zz;obtain⟨⟨o2,items,m,h3,h4,_⟩,_⟩:=h2;rw[e1]at h3;cases h3;exact e2 h4
 have hP0:∀{h:Heap},SubH h0 h->∀{k:List Int}{b:Addr},(tkz prog w Z).is h0 k b->(tkz prog w Z).is h k b:=fun {h} hs {k b} hb=>jjy hb fun o e=>hs b o e;intro k;induction k with
 |zero=>
  intro i s ks hk hi hst hsub hset hmem hlen hR;have:i=n:=by omega
  subst this;refine codeAny_builtin PyProof.Rows.F.entry_set_update_loop ?_;rw[Around.under_plainId PyProof.Rows.F.plain_set_update_loop];unfold Builtin.«set.update.loop»;refine juT (W.done s _ _ hst fun h' tk hk'=>?_);refine juU ?_;exact hR _ ks (fun b o hb hw e=>hk' b o hw e) rfl rfl (keepS hst hk' hset) hmem hlen
 |succ k ih=>
  intro i s ks hk hi hst hsub hset hmem hlen hR;refine codeAny_builtin PyProof.Rows.F.entry_set_update_loop ?_;rw[Around.under_plainId PyProof.Rows.F.plain_set_update_loop];unfold Builtin.«set.update.loop»;refine juT (W.item i s _ _ (by omega) hst fun v h' tk hp hst' hk'=>?_)
  obtain⟨b,rfl,hb⟩:=hP i v hp;have hsub':SubH h0 h':=fun c o e=>hk' c o (fun z=>absurd (ju3 e) (Nat.not_lt.mpr (hwr c z))) (hsub c o e);refine juT (juY (jjB (s:={ s with heap:=h',toks:=tk }) hu (keepS hst hk' hset) (hP0 hsub' hb) (by omega) (fun s' k' b' hb' Q E q=>jq9 hb' q) (fun s' hb' Q E q=>jq8 hb' q) fun r h2 tk2 ks' htk sb hset2 hmem2 hlen2=>?_))
  refine juU ⟨plainId_quiet PyProof.Rows.F.plain_set_update_loop _,?_⟩;have hst2:St (i + 1) h2:=W.frame (i + 1) h' h2 hst' fun c hc o e=>(sb.2 c (fun z=>hSf (z ▸ hc))).trans e;have hsub2:SubH h0 h2:=fun c o e=>(sb.2 c (ju9 (ju8 (ju3 e) hS0))).trans (hsub' c o e);refine ih (i + 1) { s with heap:=h2,toks:=tk2 } ks' (by rw[Nat.sub_succ,hk];rfl) (by omega) hst2 hsub2 hset2 (fun y=>?_) (by omega) fun s' ks'' g1 g2 g3 g4 g5 g6=>hR s' ks'' (fun c o hc hw e=>g1 c o hc hw ((sb.2 c hc).trans (hk' c o hw e))) g2 g3 g4 g5 g6
  rw[hmem2,hmem];constructor
  ·rintro (rfl | ⟨j,h1,rfl⟩)
   ·exact⟨i,by omega,rfl⟩
   ·exact⟨j,by omega,rfl⟩
  ·rintro⟨j,h1,rfl⟩;by_cases hj:j=i
   ·left;rw[hj]
   ·exact .inr ⟨j,by omega,rfl⟩
end
end HS
namespace HS
open PySem PySem.Spec PyProof.Rows L2
end HS
namespace HS
open PySem PySem.Spec PyProof.Rows L2
section
variable {prog:Program}{w:World}{Z:List Int->Addr->Prop}{A:Around}{E:Value->Shared->Prop}{s:Shared}
end
end HS
namespace HS
open PySem PySem.Spec PyProof.Rows L2
section
variable {prog:Program}{w:World}{Z:List Int->Addr->Prop}{A:Around}{E:Value->Shared->Prop}{s:Shared}
end
end HS
namespace HS
open PySem PySem.Spec PyProof.Rows L2
noncomputable def lx:List Int->List Int->Bool
 |[],[]=>false
 |[],_::_=>true
 |_::_,[]=>false
 |x::xs,y::ys=>if x=y then lx xs ys else decide (x < y)
theorem jfY:∀{a b:List Int},lx a b=true->lx b a=false
 |[],[],h=>by simp[lx]at h
 |[],_::_,_=>rfl
 |_::_,[],h=>by simp[lx]at h
 |x::xs,y::ys,h=>by
  simp only[lx]at h ⊢;by_cases e:x=y
  ·rw[if_pos e]at h;rw[if_pos e.symm];exact jfY h
  ·rw[if_neg e]at h;rw[if_neg (Ne.symm e)];simp at h ⊢;omega
theorem jjC:∀{a b:List Int},lx a b=false->lx b a=false->a=b
 |[],[],_,_=>rfl
 |[],_::_,h,_=>by simp[lx]at h
 |_::_,[],_,h=>by simp[lx]at h
 |x::xs,y::ys,h,h'=>by
  simp only[lx]at h h';by_cases e:x=y
  ·rw[if_pos e]at h;rw[if_pos e.symm]at h';rw[e,jjC h h']
  ·rw[if_neg e]at h;rw[if_neg (Ne.symm e)]at h';simp at h h';omega
theorem jd6:∀{a b c:List Int},lx b a=false->lx c b=false->lx c a=false
 |[],_,[],_,_=>rfl
 |[],_,_::_,_,_=>rfl
 |_::_,[],_,h,_=>by simp[lx]at h
 |x::xs,y::ys,[],_,h'=>by simp[lx]at h'
 |x::xs,y::ys,z::zs,h,h'=>by
  simp only[lx]at h h' ⊢;by_cases e:y=x
  ·rw[if_pos e]at h;subst e;by_cases e2:z=y
   ·rw[if_pos e2]at h' ⊢;exact jd6 h h'
   ·rw[if_neg e2]at h' ⊢;exact h'
  ·rw[if_neg e]at h;by_cases e2:z=y
   ·rw[if_pos e2]at h';subst e2;rw[if_neg e];exact h
   ·rw[if_neg e2]at h';simp at h h';rw[if_neg (by omega)];simp;omega
section
variable {prog:Program}{w:World}{Z:List Int->Addr->Prop}{A:Around}{E:Value->Shared->Prop}{s:Shared}
theorem jlX {fin:Bool}{Q:Bool->Shared->Prop}:∀{xs ys:List Int}{us vs:List Value} (i:Nat),PySem.ItemsAre (intKind prog w) xs us->PySem.ItemsAre (intKind prog w) ys vs->fin=decide (xs.length < ys.length)->Q (lx xs ys) s->W.KatLex prog w A true fin Q (us.zip vs) i s:=by
 intro xs ys us vs i hx;induction hx generalizing ys vs i with
 |nil=>
  intro hy hf q;cases hy with
  |nil=>exact W.kat_nil (by rw[hf];exact q)
  |cons _ _=>exact W.kat_nil (by rw[hf];exact q)
 |@cons x u xs us hu pu ih=>
  intro hy hf q;cases hy with
  |nil=>exact W.kat_nil (by rw[hf];exact q)
  |@cons y v ys vs hv pv=>
  have hu:Value.isInt x u=true:=hu;have hv:Value.isInt y v=true:=hv;obtain⟨t,rfl⟩:∃t,u=.int x t:=by cases u <;> simp[Value.isInt]at hu;rw[hu];exact⟨_,rfl⟩
  obtain⟨t',rfl⟩:∃t,v=.int y t:=by cases v <;> simp[Value.isInt]at hv;rw[hv];exact⟨_,rfl⟩
  rw[List.zip_cons_cons];refine W.kat_cons (wpAny_eqBool_int ?_);by_cases e:x=y
  ·have:(x == y)=true:=by simpa using e
   rw[this];refine W.kat_yes (ih (i + 1) pv (by rw[hf];simp) ?_)
   simp only[lx,if_pos e]at q;exact q
  ·have:(x == y)=false:=by simpa using e
   rw[this];simp only[lx,if_neg e]at q;refine W.kat_no ?_;by_cases hi:i=0
   ·subst hi;exact oneLt_int q
   ·have:(true && i == 0)=false:=by simp[hi]
    rw[this];exact W.kat_one _ _ (lt_int q)
noncomputable def je0 (h:Heap)(L D:Addr):List (Addr×Obj):=(List.range h.objs.size).filterMap fun b=>if b=L\/b=D then none else (h.get? b).map fun o=>(b,o)
theorem rest_mem {h:Heap}{L D:Addr}{p:Addr×Obj}:p∈je0 h L D↔h.get? p.1=some p.2/\p.1≠L/\p.1≠D:=by
 unfold je0;rw[List.mem_filterMap];constructor
 ·rintro⟨b,hb,e⟩;split at e
  ·cases e
  ·rename_i hn;obtain⟨o,e1,rfl⟩:=Option.map_eq_some_iff.mp e;exact⟨e1,fun z=>hn (.inl z),fun z=>hn (.inr z)⟩
 ·rintro⟨e,h1,h2⟩;refine⟨p.1,List.mem_range.mpr (ju3 e),?_⟩;rw[if_neg (fun z=>z.elim h1 h2),e];rfl
noncomputable def h0:Heap:={ objs:=#[] }
theorem jfZ (b:Addr):h0.get? b=none:=by
 cases e:h0.get? b with
 |none=>rfl
 |some o=>exact absurd (ju3 e) (Nat.not_lt_zero _)
theorem jra {b:Bool}{x y:Addr}{kx ky:List Int}{Q:Bool->Shared->Prop}(hx:(tkz prog w Z).is s.heap kx x)(hy:(tkz prog w Z).is s.heap ky y)(q:Q (lx kx ky) s):wpAny (model prog w) A (keyLt' (tuples' true) (.ref x) (.ref y)) Q E s:=by
 obtain⟨⟨ox,ix,nx,h1,h2,h3,h4⟩,_⟩:=hx;obtain⟨⟨oy,iy,ny,g1,g2,g3,g4⟩,_⟩:=hy;refine W.kat_lt h1 h3 g1 g3 (jlX 0 h4 g4 ?_ q);have l:∀{ks:List Int}{vs:List Value},PySem.ItemsAre (intKind prog w) ks vs->ks.length=vs.length:=fun {ks vs} h=>by
  induction h with
  |nil=>rfl
  |cons _ _ ih=>simp[ih]
 have:=l h4;have:=l g4;simp at *;rw[show ix.size=kx.length by omega,show iy.size=ky.length by omega]
theorem jlY {h:Heap}:∀{kss:List (List Int)}{vs:List Value},Paired (fun k v=>∃b,v=Value.ref b/\(tkz prog w Z).is h k b) kss vs->(∀k∈kss,k≠[])->∃fs,W.KatTups h vs fs/\fs.length=vs.length/\∀f∈fs,∃i t,f=Value.int i t:=by
 intro kss vs p;induction p with
 |nil=>intro _;exact⟨[],by rw[W.KatTups.eq_1];trivial,rfl,fun _ h=>by cases h⟩
 |@cons k _ kss vs hd p ih=>
  intro hk;obtain⟨b,e,⟨o,items,n,h1,h2,h3,h4⟩,_⟩:=hd;obtain⟨fs,g1,g2,g3⟩:=ih fun k' hk'=>hk k' (jus _ hk');have hne:=hk k jut;cases k with
  |nil=>exact absurd rfl hne
  |cons a ks=>
   generalize hl:items.toList=l at h4;cases h4 with
   |cons hv hr=>
    rename_i v l;refine⟨v::fs,?_,by simp[g2],fun f hf=>?_⟩
    ·rw[W.KatTups.eq_2];exact⟨⟨b,o,items,n,e,h1,h2,h3,by rw[<-Array.getElem?_toList,hl];rfl⟩,g1⟩
    ·rcases List.mem_cons.mp hf with rfl | hf
     ·have hv:Value.isInt a f=true:=hv;cases f <;> simp[Value.isInt]at hv
      exact⟨_,_,rfl⟩
     ·exact g3 f hf
theorem jlZ {L D:Addr}{m:Str->Option Value}{vs:List Value}{n:Nat}{kss:List (List Int)}{P:PySem.Fin->Shared->Prop}(hL:s.heap.Ns L m)(hD:s.heap.get? D=some (seqObj "list" vs.toArray n))(hne:D≠L)(h2:2<=vs.length)(h64:vs.length < 64)
  (hK:Paired (fun k v=>∃b,v=Value.ref b/\(tkz prog w Z).is s.heap k b) kss vs) (hk0:∀k∈kss,k≠[])
  (q:∀(h':Heap) (c:Nat) (p:Array Nat),p.Perm (List.range vs.length).toArray->KS.Up (fun i j=>lx (kss.getD i []) (kss.getD j [])) p vs.length->h'.get? D=some (W.listOf (p.toList.map fun i=>vs.getD i Value.none).toArray c)->h'.Ns L m->(∀b o,b≠L->b≠D->s.heap.get? b=some o->h'.get? b=some o)->P (Fin.done (Flow.ret Value.none)) { s with heap:=h' }) :
  wpAny (model prog w) A (Builtin.«list.sort» { pos:=[.ref D] }) P E s:=by
 have hkl:kss.length=vs.length:=Paired.length hK;have nL:∀{b:Addr}{k:List Int},(tkz prog w Z).is s.heap k b->b≠L/\b≠D:=fun {b k} ⟨⟨o,items,nn,h1,h2,h3,_⟩,_⟩=>by
  refine⟨fun z=>?_,fun z=>?_⟩
  ·obtain⟨o',es,ep,e1,e2,_⟩:=hL;rw[z,e1]at h1;cases h1;rw[e2]at h3;cases h3
  ·rw[z,hD]at h1;cases h1;exact absurd h2 (by intro z;injection z with z;exact absurd z (by decide))
 refine W.kat_list_sort (h₀:=h0) (L:=L) (m:=m) (news:=je0 s.heap L D) (n:=n) ⟨hL,fun b o e=>(by rw[jfZ]at e;cases e),Nat.zero_le _⟩ (fun p hp=>?_) hD hne (jfZ D) (fun p hp=>(rest_mem.mp hp).2.2) h2 h64 fun e1 h' F' N'=>?_
 ·obtain⟨h1,h2,_⟩:=rest_mem.mp hp;exact⟨h1,h2,jfZ _⟩
 ·have kept:∀b o,b≠L->b≠D->s.heap.get? b=some o->h'.get? b=some o:=fun b o hb1 hb2 e=>(N' (b,o) (jus _ (rest_mem.mpr ⟨e,hb1,hb2⟩))).1;have hK':Paired (fun k v=>∃b,v=Value.ref b/\(tkz prog w Z).is h' k b) kss vs:=Paired.mapP hK fun k v ⟨b,e,hb⟩=>⟨b,e,jjy hb fun o z=>kept b o (nL hb).1 (nL hb).2 z⟩;obtain⟨fs,hfs,hfl,hfi⟩:=jlY hK' hk0;refine W.kat_kind (s:={ heap:=h',gens:=s.gens,drawn:=s.drawn,toks:=s.toks,os:=s.os }) (T:=.type "int") hfs (by omega) (fun v hv=>?_) (by decide) ?_
  ·obtain⟨i,t,rfl⟩:=hfi v hv;intro A' Q' E' s' _ qq;exact wpAny_typeOf (T:="int") rfl qq
  ·show W.KasT.kasWp (W.kas_ask prog w A (tuples' true) vs) _ _ _;have O:KS.Ord (fun i j=>lx (kss.getD i []) (kss.getD j [])):=⟨fun a b h=>jfY h,fun a b c h1 h2=>jd6 h1 h2⟩;obtain⟨sp,su⟩:=KS.jov O (n:=vs.length) (by omega)
   refine KS.joy (lt:=fun i j=>lx (kss.getD i []) (kss.getD j [])) (N:=vs.length) (fun i j C hi hj hC=>?_) (KS.jq0 (by omega)) ?_
   ·obtain⟨ki,ei,b,e2,e3⟩:=ja3 hK' (jur hi);obtain⟨kj,ej,b',e2',e3'⟩:=ja3 hK' (jur hj);show wpAny _ _ (keyLt' (tuples' true) (vs.getD i Value.none) (vs.getD j Value.none)) _ _ _;rw[juz,juz,jur hi,jur hj,Option.getD_some,Option.getD_some,e2,e2'];refine jra (b:=true) e3 e3' ?_;have:lx (kss.getD i []) (kss.getD j [])=lx ki kj:=by rw[juz,juz,ei,ej];rfl
    rw[<-this];exact hC
   ·refine⟨(D,seqObj "list" #[] e1)::je0 s.heap L D,fun o'=>(D,o')::je0 s.heap L D,F',N',.head fun p hp=>(rest_mem.mp hp).2.2,fun h2 c F2 N2=>?_⟩;refine q h2 c _ sp su (N2 (D,_) jut).1 F2.ns fun b o hb1 hb2 e=>(N2 (b,o) (jus _ (rest_mem.mpr ⟨e,hb1,hb2⟩))).1
theorem jf0 {D:Addr}{vs:List Value}{n:Nat}{P:PySem.Fin->Shared->Prop}(hD:s.heap.get? D=some (seqObj "list" vs.toArray n))(h2:vs.length < 2)
  (q:∀(h':Heap) (c:Nat),h'.get? D=some (W.listOf vs.toArray c)->(∀b o,b≠D->s.heap.get? b=some o->h'.get? b=some o)->P (Fin.done (Flow.ret Value.none)) { s with heap:=h' }) :
  wpAny (model prog w) A (Builtin.«list.sort» { pos:=[.ref D] }) P E s:=by
 have hsl:vs.toArray.size<=sizeLine:=by rw[sizeLine_eq];simp;omega
 rw[list_sort_plain];refine juT ?_;unfold Builtin.List.listItems;refine juT (wpAny_seqItems hD rfl (juU ?_));refine juT (listUpdate_at hD rfl ?_ hsl (by simp))
 have u1:=ju5 (Obj.mapSeq fun _=>(#[]:Array Value)) hD rfl;refine juT (seqEpoch_at u1 rfl ?_);refine juT (wpAny_newTuple ?_ (by simpa using hsl))
 refine juT (wpAny_newList ?_ (by simp))
 refine juY ?_;have hlt:vs.toArray.size < 2:=by simpa using h2
 rw[if_pos hlt];refine juT (juU ?_);have hrun:((if vs.toArray.size < 2 then pure ()else sortRuns').run (SortSt.mk' general' (vs.toArray.zip vs.toArray) #[] 7 none):Sem _)=pure ((),SortSt.mk' general' (vs.toArray.zip vs.toArray) #[] 7 none):=by
  rw[if_pos hlt];rfl
 refine juT (juW hrun ?_);have hs1:arrOf (SortSt.mk' general' (vs.toArray.zip vs.toArray) #[] 7 none)=vs.toArray.zip vs.toArray:=rfl;have hs2:failedOf (SortSt.mk' general' (vs.toArray.zip vs.toArray) #[] 7 none)=none:=rfl;have hsz:Array.map (fun x=>x.snd) (vs.toArray.zip vs.toArray)=vs.toArray:=by
  apply Array.ext';simp;clear hs1 hrun hlt u1 hsl q h2 hD;induction vs with
  |nil=>rfl
  |cons x r ih=>simp[ih]
 simp only[hs1,hs2,hsz];have u2:=ju2 { cls:=Value.type "list",data:=Data.seq ([]:List Value).toArray } (ju2 { cls:=Value.type "tuple",data:=Data.seq vs.toArray.toList.toArray } u1);refine juT (seqEpoch_at u2 rfl ?_);refine juT (listUpdate_at u2 rfl ?_ (by simp[sizeLine_eq]) (by simp at hsl ⊢;omega))
 have u3:=ju5 (Obj.mapSeq fun _=>vs.toArray) u2 rfl;refine juV (by simp) (juU ?_)
 refine q _ _ u3 fun b o hb e=>?_;exact(ju6 _ _ (Ne.symm hb)).trans (ju2 _ (ju2 _ ((ju6 _ _ (Ne.symm hb)).trans e)))
end
end HS
namespace HS
open PySem PySem.Spec PyProof.Rows L2
noncomputable def Rise (l:List (List Int)):Prop:=l.Pairwise fun a b=>lx b a=false
theorem je1:∀{l l':List (List Int)},l.Perm l'->Rise l->Rise l'->l=l'
 |[],l',h,_,_=>(List.Perm.nil_eq h)
 |a::l,[],h,_,_=>by have:=h.length_eq;simp at this
 |a::l,b::l',h,h1,h2=>by
  have hab:a=b:=by
   have ha:a∈b::l':=h.mem_iff.mp jut;have hb:b∈a::l:=h.mem_iff.mpr jut;rcases List.mem_cons.mp ha with e | ha
   ·exact e
   ·rcases List.mem_cons.mp hb with e | hb
    ·exact e.symm
    ·exact jjC ((List.pairwise_cons.mp h2).1 a ha) ((List.pairwise_cons.mp h1).1 b hb)
  subst hab;rw[je1 (List.Perm.cons_inv h) (List.pairwise_cons.mp h1).2 (List.pairwise_cons.mp h2).2]
theorem jhT {α:Type}(d:α)(l:List α):(List.range l.length).map (fun i=>l.getD i d)=l:=by
 apply List.ext_getElem?;intro i;rw[jux];by_cases h:i < l.length
 ·rw[List.getElem?_range h,jur h];simp[juz,jur h]
 ·rw[juH (by simp;omega),juH (by omega)]
  rfl
theorem joJ {kss:List (List Int)}{p:Array Nat}{n:Nat}(hn:p.size=n)(h:KS.Up (fun i j=>lx (kss.getD i []) (kss.getD j [])) p n):Rise (p.toList.map fun i=>kss.getD i []):=by
 unfold Rise;rw[List.pairwise_iff_getElem];intro i j hi hj hij;rw[List.getElem_map,List.getElem_map];simp at hi hj;have:=h i j (Nat.le_of_lt hij) (by omega)
 unfold KS.le KS.at_ at this;simpa[Array.getD,hi,hj] using this
section
variable {prog:Program}{w:World}{Z:List Int->Addr->Prop}{A:Around}{E:Value->Shared->Prop}{s:Shared}
noncomputable abbrev Kys (prog:Program)(w:World)(Z:List Int->Addr->Prop)(h:Heap)(kss:List (List Int))(vs:List Value):Prop:=Paired (fun k v=>∃b,v=Value.ref b/\(tkz prog w Z).is h k b) kss vs
theorem jjD {h:Heap}{kss:List (List Int)}{vs:List Value}(K:Kys prog w Z h kss vs):∀{p:List Nat},(∀i∈p,i < vs.length)->Kys prog w Z h (p.map fun i=>kss.getD i []) (p.map fun i=>vs.getD i Value.none)
 |[],_=>.nil
 |i::p,hp=>by
  have hi:=hp i jut;obtain⟨k,e1,e2⟩:=ja3 K (jur hi);refine .cons ?_ (jjD K fun j hj=>hp j (jus _ hj));simp only[juz,e1,jur hi,Option.getD_some];exact e2
theorem jhU {x:Value}{L:Addr}{m:Str->Option Value}{vs:List Value}{kss:List (List Int)}{Q:Value->Shared->Prop}(hL:s.heap.Ns L m)(hK:Kys prog w Z s.heap kss vs)(hk0:∀k∈kss,k≠[])(h64:vs.length < 64)
  (hcol:∀{Q':List Value->Shared->Prop},(∀s1:Shared,SubH s.heap s1.heap->s.heap.objs.size<=s1.heap.objs.size->s1.gens=s.gens->s1.os=s.os->Q' vs s1)->wpAny (model prog w) A.in1 (collect x) Q' E s)
  (q:∀(s':Shared) (D:Addr) (c:Nat) (kss':List (List Int)) (vs':List Value),s.heap.objs.size<=D->kss'.Perm kss->Rise kss'->Kys prog w Z s.heap kss' vs'->s'.heap.get? D=some (W.listOf vs'.toArray c)->s'.heap.Ns L m->(∀b o,b≠L->s.heap.get? b=some o->s'.heap.get? b=some o)->s'.gens=s.gens->s'.os=s.os->Q (.ref D) s') :
  wpAny (model prog w) A (call (Value.builtin "sorted") [x]) Q E s:=by
 have hsl:vs.length<=sizeLine:=by rw[sizeLine_eq];omega
 refine Calls.call_function_entry kind_sorted plain_sorted entry_sorted (args_sorted1 x) ?_;unfold Builtin.sorted;refine juT (juU ?_);refine juT (hcol fun s1 k1 kz g1 o1=>?_);refine juT (wpAny_newList ?_ hsl);have hD:=ju4 s1.heap (o:=seqObj "list" vs.toArray 0) rfl;have hK1:Kys prog w Z (s1.heap.push (seqObj "list" vs.toArray 0)) kss vs:=Paired.mapP hK fun k v ⟨b,e,hb⟩=>⟨b,e,jjy hb fun o z=>ju2 _ (k1 b o z)⟩;have hL1:(s1.heap.push (seqObj "list" vs.toArray 0)).Ns L m:=by
  obtain⟨o,es,ep,e1,e2⟩:=hL;exact⟨o,es,ep,ju2 _ (k1 _ _ e1),e2⟩
 have hLD:s1.heap.objs.size≠L:=by
  obtain⟨o,es,ep,e1,e2⟩:=hL;exact Nat.ne_of_gt (ju3 (k1 _ _ e1))
 have hkl:kss.length=vs.length:=Paired.length hK;refine juT (juY (wpAny_call_entry slot_list_sort ⟨_,hD,rfl⟩ entry_list_sort ?_ (args_list_sort _)));by_cases h2:2<=vs.length
 ·refine jlZ hL1 hD hLD h2 h64 hK1 hk0 fun h' c p hp hu e3 n3 k3=>⟨_,rfl,juU ⟨_,rfl,?_⟩⟩;have hps:p.size=vs.length:=by have:=hp.toList.length_eq;simpa using this
  have hpl:p.toList.Perm (List.range vs.length):=by have:=hp.toList;simpa using this
  refine q { s1 with heap:=h' } s1.heap.objs.size c _ _ kz ?_ (joJ hps hu) (jjD hK fun i hi=>List.mem_range.mp (hpl.mem_iff.mp hi)) e3 n3 (fun b o hb e=>?_) g1 o1
  ·have:=hpl.map fun i=>kss.getD i [];rwa [<-hkl,jhT]at this
  ·exact k3 b o hb (ju9 (ju8 (ju3 e) kz)) (ju2 _ (k1 b o e))
 ·refine jf0 hD (by omega) fun h' c e3 k3=>⟨_,rfl,juU ⟨_,rfl,?_⟩⟩
  refine q { s1 with heap:=h' } s1.heap.objs.size c kss vs kz (.refl _) ?_ hK e3 ?_ (fun b o hb e=>?_) g1 o1
  ·match kss,hkl with
   |[],_=>exact List.Pairwise.nil
   |[a],_=>exact List.pairwise_singleton _ _
   |_::_::_,hkl=>simp at hkl;omega
  ·obtain⟨o,es,ep,e1,e2⟩:=hL1;exact⟨o,es,ep,k3 _ _ (Ne.symm hLD) e1,e2⟩
  ·exact k3 b o (ju9 (ju8 (ju3 e) kz)) (ju2 _ (k1 b o e))
end
end HS
namespace L2
open PySem PySem.Spec PyProof.Rows HS
section
variable {X:Cx}{pins:List (Addr×Obj)}{σ:St}{H:Hp}{s:Shared}
theorem Inv.keptL (I:Inv X pins σ H s){m:Str->Option Value}(hl:∀(i:Nat) (x:Str) (v:V),X.N[i]?=some x->σ[i]?=some (some v)->Vis X.env.scope x->∃u,RelV v u/\Look X.env s.heap m x u){s':Shared}(k:∀b o,b≠X.env.locals->s.heap.get? b=some o->s'.heap.get? b=some o)(hn:s'.heap.Ns X.env.locals m)(hg:s'.gens=s.gens)(ho:s'.os=s.os):Inv X pins σ H s':=by
 have ne0:∀c o,X.s₀.heap.get? c=some o->c≠X.env.locals:=fun c o e=>ju9 (ju8 (ju3 e) I.ok.above);have neH:∀c u,H c=some u->c≠X.env.locals:=fun c u e z=>by rw[z,I.free]at e;cases e
 have neC:∀c v,s.heap.IsCell c v->c≠X.env.locals:=fun c v ⟨o,e1,e2⟩ z=>by
  obtain⟨m',⟨o',es,ep,h1,h2,_⟩,_⟩:=I.loc;rw[z,h1]at e1;cases e1;rw[h2]at e2;cases e2
 refine⟨I.ok,ho.trans I.os,by rw[hg];exact I.bare,⟨fun c o e n h1 h2=>k c o (ne0 c o e) (I.base.keep c o e n h1 h2),fun c o e n h1 h2=>?_,I.base.free,fun c o e h1=>?_,I.base.tups,I.base.frzs,I.base.tbls⟩,⟨m,hn,fun i x v h1 h2 h3=>?_⟩,fun x c e=>?_,I.free,I.freeC,fun p hp=>?_,fun a o e=>?_,I.len⟩
 ·obtain⟨sl,q⟩:=I.base.slot c o e n h1 h2;exact⟨sl,k c _ (ne0 c o e) q⟩
 ·obtain⟨o',q⟩:=I.base.there c o e h1;exact⟨o',k c _ (ne0 c o e) q⟩
 ·obtain⟨u,r,lk⟩:=hl i x v h1 h2 h3;exact⟨u,r,lk.imp id fun ⟨h4,c,h5,o,h6⟩=>⟨h4,c,h5,o,k _ _ (neC c _ ⟨o,h6⟩) h6.1,h6.2⟩⟩
 ·obtain⟨v,o,h6⟩:=I.cell x c e;exact⟨v,o,k _ _ (neC c _ ⟨o,h6⟩) h6.1,h6.2⟩
 ·obtain⟨h1,h2,h3,h4⟩:=I.pin p hp;exact⟨k _ _ h3 h1,h2,h3,h4⟩
 ·refine(I.hok a o e).stay (fun c u hc q=>k c u ?_ q) (fun c hc=>hc) fun c xs hc=>hc;rcases hc with rfl | hc
  ·exact neH _ _ e
  ·exact neH _ _ hc
theorem Inv.laidL (I:Inv X pins σ H s){m:Str->Option Value}(hl:∀(i:Nat) (x:Str) (v:V),X.N[i]?=some x->σ[i]?=some (some v)->Vis X.env.scope x->∃u,RelV v u/\Look X.env s.heap m x u){s':Shared}(k:∀b o,b≠X.env.locals->s.heap.get? b=some o->s'.heap.get? b=some o)(hn:s'.heap.Ns X.env.locals m)(hg:s'.gens=s.gens)(ho:s'.os=s.os)
  {a:Addr}{o:HO} (ha:s.heap.objs.size<=a) (new:ObjOk X.prog X.w (upd H a o) s'.heap a o):Inv X pins σ (upd H a o) s':=by
 obtain⟨n0,n1,n2,n3,n4⟩:=I.new ha;exact(I.keptL hl k hn hg ho).track n4 n0 n1 n2 n3 new
noncomputable def KysV (Z:List Int->Addr->Prop)(kss:List (List Int))(vs:List V):Prop:=Paired (fun k v=>∃b,v=V.ref b/\Z k b) kss vs
noncomputable def Zok (K:PySem.W.Frag)(H:Hp)(Z:List Int->Addr->Prop):Prop:=∀k b,Z k b->SqT K H b (k.map V.int)
theorem jjE {P:Program}{w:World}{k:List Int}{us:List Value}(h:Vals (k.map V.int) us):PySem.ItemsAre (intKind P w) k us:=by
 induction k generalizing us with
 |nil=>cases h;exact .nil
 |cons i k ih=>
  cases h with
  |cons h p=>
   obtain⟨t,rfl⟩:=h;exact .cons (by show Value.isInt i (.int i t)=true;simp[Value.isInt]) (ih p)
theorem Inv.tkey (I:Inv X pins σ H s){Z:List Int->Addr->Prop}(hZ:Zok X.K H Z){k:List Int}{b:Addr}(h:Z k b):(tkz X.prog X.w Z).is s.heap k b:=by
 obtain⟨its,r,⟨o,e1,e2,n,e3⟩,hz⟩:=I.tuple (hZ k b h);exact⟨⟨o,its.toArray,n,e1,e2,e3,jjE r⟩,h⟩
theorem Inv.kys (I:Inv X pins σ H s){Z:List Int->Addr->Prop}(hZ:Zok X.K H Z):∀{kss:List (List Int)}{vs:List V}{us:List Value},KysV Z kss vs->Vals vs us->Kys X.prog X.w Z s.heap kss us:=by
 intro kss vs us h;induction h generalizing us with
 |nil=>intro q;cases q;exact .nil
 |cons hd p ih=>
  intro q;cases q with
  |cons r q=>
   obtain⟨b,e,h⟩:=hd;subst e;cases r;exact .cons ⟨b,rfl,I.tkey hZ h⟩ (ih q)
theorem jl0 {P:Program}{w:World}{Z:List Int->Addr->Prop}{h:Heap}:∀{kss:List (List Int)}{us:List Value},Kys P w Z h kss us->∃ws,KysV Z kss ws/\Vals ws us:=by
 intro kss us p;induction p with
 |nil=>exact⟨[],.nil,.nil⟩
 |cons hd p ih=>
  obtain⟨b,e,h⟩:=hd;obtain⟨ws,h1,h2⟩:=ih;subst e;exact⟨V.ref b::ws,.cons ⟨b,rfl,h.2⟩ h1,.cons rfl h2⟩
inductive rSrtL_I (X:Cx) (xs:List V) (H:Hp) (Q:VK):Prop
 |mk (p:_) (vs:_) (kss:_) (Z:_):(xs=[.ref p])->(SqL X.K H p vs)->(Zok X.K H Z)->(KysV Z kss vs)->((∀k∈kss,k≠[]))->(vs.length < 64)->(∀kss' ws,kss'.Perm kss->Rise kss'->KysV Z kss' ws->∀l,H l=none->Q (.ref l) (upd H l (.lst ws)))->rSrtL_I X xs H Q
noncomputable def jrb (X:Cx):List V->Hp->VK->Prop:=fun xs H Q=>rSrtL_I X xs H Q
theorem je2:CallR X (.builtin "sorted") (jrb X):=by
 intro pins s σ H xs us Q I r h;obtain⟨p,vs,kss,Z,rfl,hq,hZ,hK,hk0,h64,q⟩:=h;obtain⟨u,rfl,rx⟩:=jbt r;cases rx;obtain⟨its,r',pl,hz⟩:=I.list hq;have hlen:=r'.length;obtain⟨m,hns,hl⟩:=id I.loc;have hKs:=I.kys hZ hK r';refine jhU (Z:=Z) hns hKs hk0 (by omega) (fun {Q'} q'=>?_) fun s' D c kss' vs' hD hp hr hK' e n' k' g o=>?_
 ·refine collect_list pl.isList (q' _ (fun b o e=>?_) ?_ rfl rfl) (by omega)
  ·have hlt:=ju3 e;rw[ju6 _ _ (Nat.ne_of_gt hlt)];exact ju2 _ e
  ·rw[Heap.size_update,Heap.size_push];exact Nat.le_succ _
 ·obtain⟨ws,w1,w2⟩:=jl0 hK';have hwl:ws.length<=sizeLine:=by
   have h1:=w2.length;have h2:=Paired.length hK';have h3:=hp.length_eq;have h4:=Paired.length hK;rw[h1,<-h2,h3,h4];exact hz
  exact⟨.ref D,_,I.laidL (o:=.lst ws) hl k' n' g o hD ⟨hwl,vs',c,w2,e⟩,rfl,q kss' ws hp hr w1 D (I.hok.fresh hD)⟩
end
end L2
namespace DJ
open PySem
inductive D where
 |non | bl (b:Bool) | int (i:Int) | str (x:Str) | tup (xs:List D) | lst (xs:List D) | dct (ks vs:List D) | exc (c:Nat)
 deriving Inhabited
inductive R (α:Type) where
 |ok (a:α) | err (c:Nat) | stk
namespace R
noncomputable def bind {α β:Type}(x:R α)(f:α->R β):R β:=match x with
 |ok a=>f a
 |err c=>err c
 |stk=>stk
noncomputable def noErr {α:Type}:R α->R α
 |ok a=>ok a
 |_=>stk
noncomputable def pass {α:Type}(x:Bool)(r:R α):R α:=if x then r else r.noErr
end R
inductive Op where | add | sub | mul | fdiv | mod | pow
inductive Cm where | eq | ne | lt | le | gt | ge | isn | notn
 |isin | notin
inductive Bf where | len | tuple | list | all | any | sum | min | max | sorted | ssorted | abs | int | revl | revt
 |str
inductive Sm where | join | cnt | splt
 |zfl
 |rjn
inductive Ty where | int | bool | str | tuple | list | dict | exc (c:Nat) | verr
 deriving DecidableEq
mutual
inductive E where
 |lit (d:D)
 |var (i:Nat)
 |bin (o:Op) (a b:E)
 |cmp (o:Cm) (a b:E)
 |and (a b:E) | or (a b:E) | not (a:E) | ite (c a b:E)
 |tup (es:Es) | lst (es:Es)
 |idx (a b:E) | slc (a:E) (lo hi:Oe)
 |call (f:Nat) (fl:List Bool) (es:Es)
 |blt (f:Bf) (a:E)
 |sm (f:Sm) (a b:E)
 |isi (a:E) (ks:List Ty)
 |comp (elt:E) (tg:List Nat) (one:Bool) (n:Nat) (caps:List Nat) (it:It) (c:Oe) (x:Bool)
 |pop (i:Nat)
inductive Es where
 |nil | cons (e:E) (es:Es)
inductive Oe where
 |none | some (e:E)
inductive It where
 |seq (e:E) | rng1 (a:E)
 |zip (a b:E)
end
mutual
inductive S where
 |ret (e:E) | retN | expr (e:E) | asg (i:Nat) (e:E) | unp (is:List Nat) (e:E)
 |app (i:Nat) (e:E) | ext (i:Nat) (e:E)
 |ife (c:E) (a b:Ss) | loop (tg:List Nat) (one:Bool) (it:It) (b:Ss) | whl (c:E) (b:Ss)
 |brk | cnt | pas | rai (c:Nat) (e:E)
inductive Ss where
 |nil | cons (s:S) (ss:Ss)
end
inductive O where | l (xs:List D) | d (ks vs:List D)
noncomputable def O.toD:O->D
 |.l xs=>.lst xs
 |.d ks vs=>.dct ks vs
inductive Sl where | no | dat (d:D) | own (o:O) (lent lock:Bool)
noncomputable abbrev Rho:=List Sl
inductive Vl where | dat (d:D) | tmp (o:O) | slot (i:Nat)
inductive Fl where | nx (ρ:Rho) | rt (v:Vl) (ρ:Rho) | bk (ρ:Rho) | ct (ρ:Rho)
mutual
noncomputable def eqD:D->D->Bool
 |.non,y=>match y with
  |.non=>true
  |_=>false
 |.bl a,y=>match y with
  |.bl b=>a == b
  |.int b=>(if a then 1 else 0) == b
  |_=>false
 |.int a,y=>match y with
  |.bl b=>a == (if b then 1 else 0)
  |.int b=>a == b
  |_=>false
 |.str a,y=>match y with
  |.str b=>a == b
  |_=>false
 |.tup a,y=>match y with
  |.tup b=>eqDs a b
  |_=>false
 |.lst a,y=>match y with
  |.lst b=>eqDs a b
  |_=>false
 |.dct _ _,_=>false
 |.exc _,_=>false
noncomputable def eqDs:List D->List D->Bool
 |[],[]=>true
 |a::as,b::bs=>eqD a b && eqDs as bs
 |_,_=>false
end
mutual
noncomputable def jbh:D->Bool
 |.non=>true
 |.bl _=>true
 |.int _=>true
 |.str _=>true
 |.tup a=>cmpDs a
 |.lst a=>cmpDs a
 |_=>false
noncomputable def cmpDs:List D->Bool
 |[]=>true
 |a::as=>jbh a && cmpDs as
end
mutual
noncomputable def deep:D->Nat
 |.tup a=>deeps a + 1
 |.lst a=>deeps a + 1
 |_=>0
noncomputable def deeps:List D->Nat
 |[]=>0
 |a::as=>Nat.max (deep a) (deeps as)
end
noncomputable def fits (n:Nat):Bool:=n<=16777216
noncomputable def opZ (a b:Int):Op->R Vl
 |.add=>.ok (.dat (.int (a + b)))
 |.sub=>.ok (.dat (.int (a - b)))
 |.mul=>if (-(2 ^ 64) < a/\a < 2 ^ 64)\/(-(2 ^ 64) < b/\b < 2 ^ 64)then .ok (.dat (.int (a * b)))else .stk
 |.fdiv=>if 0 < b/\b < 2 ^ 64 then .ok (.dat (.int (a / b)))else .stk
 |.mod=>if 0 < b then .ok (.dat (.int (a % b)))else .stk
 |.pow=>if 0<=b/\b<=1000000/\a.natAbs < 2 ^ 64 then .ok (.dat (.int (a ^ b.toNat)))else .stk
noncomputable def opC (v:R Vl):Op->R Vl
 |.add=>v
 |_=>.stk
noncomputable def opD (o:Op)(x y:D):R Vl:=match x with
 |.int a=>match y with
  |.int b=>opZ a b o
  |_=>.stk
 |.tup a=>match y with
  |.tup b=>opC (if fits (a.length + b.length)then .ok (.dat (.tup (a++b)))else .stk) o
  |_=>.stk
 |.lst a=>match y with
  |.lst b=>opC (if fits (a.length + b.length)then .ok (.tmp (.l (a++b)))else .stk) o
  |_=>.stk
 |.str a=>match y with
  |.str b=>opC (if fits (a.length + b.length)then .ok (.dat (.str (a++b)))else .stk) o
  |_=>.stk
 |_=>.stk
noncomputable def jbC:D->R Bool
 |.non=>.ok false
 |.bl b=>.ok b
 |.int i=>.ok (i != 0)
 |.tup xs=>.ok (!xs.isEmpty)
 |.lst xs=>.ok (!xs.isEmpty)
 |_=>.stk
noncomputable def jaW:List D->Option (List Int)
 |[]=>some []
 |.int i::r=>(jaW r).map (i::·)
 |_::_=>none
noncomputable def lexLt:List Int->List Int->Bool
 |[],[]=>false
 |[],_::_=>true
 |_::_,[]=>false
 |x::xs,y::ys=>if x=y then lexLt xs ys else decide (x < y)
noncomputable def ltD:D->D->R Bool
 |.int a,.int b=>.ok (decide (a < b))
 |.tup a,.tup b=>match jaW a,jaW b with
  |some x,some y=>.ok (lexLt x y)
  |_,_=>.stk
 |_,_=>.stk
noncomputable def jaU:D->R (List D)
 |.tup xs=>.ok xs
 |.lst xs=>.ok xs
 |_=>.stk
noncomputable def eqR (a b:D):R Bool:=if jbh a && jbh b && deep a<=12 && deep b<=12 then .ok (eqD a b)else .stk
noncomputable def inR (a b:D):R Bool:=(jaU b).bind fun ys=>if jbh a && cmpDs ys && deep a<=12 && deeps ys<=12 then .ok (ys.any fun y=>eqD y a)else .stk
noncomputable def inX (a b:D):R Bool:=match b with
 |.str y=>(match a with
  |.str x=>.ok (Txt.contains y x)
  |_=>.stk)
 |b=>inR a b
noncomputable def jrc (f:Int->Int->Bool)(x y:D):R Bool:=match x with
 |.int a=>match y with
  |.int b=>.ok (f a b)
  |_=>.stk
 |_=>.stk
noncomputable def isN:D->Bool
 |.non=>true
 |_=>false
noncomputable def cmD (o:Cm)(a b:D):R Bool:=match o with
 |.eq=>eqR a b
 |.ne=>(eqR a b).bind fun c=>.ok (!c)
 |.lt=>ltD a b
 |.gt=>jrc (fun a b=>decide (b < a)) a b
 |.le=>jrc (fun a b=>decide (a<=b)) a b
 |.ge=>jrc (fun a b=>decide (b<=a)) a b
 |.isn=>if isN b then .ok (isN a)else .stk
 |.notn=>if isN b then .ok (!isN a)else .stk
 |.isin=>inX a b
 |.notin=>(inX a b).bind fun c=>.ok (!c)
noncomputable def atI (xs:List D)(i:Int):R D:=
 if 0<=i then (match xs[i.toNat]? with | some d=>.ok d | none=>.stk)
 else if 0<=i + xs.length then (match xs[(i + xs.length).toNat]? with | some d=>.ok d | none=>.stk)else .stk
noncomputable def atC (x:Str)(i:Int):R D:=
 if fits x.length then
  (match (if 0<=i then x.cps.toList[i.toNat]? else if 0<=i + x.length then x.cps.toList[(i + x.length).toNat]? else none)with | some c=>.ok (.str ⟨#[c]⟩) | none=>.stk)
 else .stk
noncomputable def jk8:D->D->R D
 |.tup xs,.int i=>atI xs i
 |.lst xs,.int i=>atI xs i
 |.str x,.int i=>atC x i
 |_,_=>.stk
noncomputable def sIx (n d:Nat):Option Int->Nat
 |none=>d
 |some v=>if v < 0 then (v + n).toNat else min v.toNat n
noncomputable def cut {α:Type}(xs:List α)(lo hi:Option Int):List α:=(xs.drop (sIx xs.length 0 lo)).take (sIx xs.length xs.length hi - sIx xs.length 0 lo)
noncomputable def jhV:D->Option Int->Option Int->R Vl
 |.tup xs,lo,hi=>.ok (.dat (.tup (cut xs lo hi)))
 |.lst xs,lo,hi=>.ok (.tmp (.l (cut xs lo hi)))
 |.str x,lo,hi=>if fits x.length then .ok (.dat (.str (Txt.slice x lo hi)))else .stk
 |_,_,_=>.stk
noncomputable def jas:List D->Option (List Bool)
 |[]=>some []
 |.bl b::r=>(jas r).map (b::·)
 |.int i::r=>(jas r).map ((i != 0)::·)
 |_::_=>none
noncomputable def jtI:List Int->Int->Int
 |[],m=>m
 |x::r,m=>jtI r (if x < m then x else m)
noncomputable def jtJ:List Int->Int->Int
 |[],m=>m
 |x::r,m=>jtJ r (if x > m then x else m)
noncomputable def jgU (x:List Int):List (List Int)->List (List Int)
 |[]=>[x]
 |y::r=>if lexLt y x then y::jgU x r else x::y::r
noncomputable def jbu:List (List Int)->List (List Int)
 |[]=>[]
 |x::r=>jgU x (jbu r)
noncomputable def joK:List (List Int)->List (List Int)
 |[]=>[]
 |x::r=>if r.contains x then joK r else x::joK r
noncomputable def jbi:List D->Option (List (List Int))
 |[]=>some []
 |.tup xs::r=>match jaW xs,jbi r with
  |some k,some ks=>some (k::ks)
  |_,_=>none
 |_::_=>none
noncomputable def jsr (k:List Int):D:=.tup (k.map .int)
noncomputable def jd7 (kss:List (List Int)):R Vl:=if kss.all (fun k=>!k.isEmpty) && kss.length < 64 then .ok (.tmp (.l ((jbu kss).map jsr)))else .stk
noncomputable def joL (a:Int)(n:Nat):List D:=(List.range n).map fun (k:Nat)=>D.int (a + (k:Int))
noncomputable def bfD (f:Bf)(d:D):R Vl:=match f with
 |.abs=>match d with
  |.int i=>.ok (.dat (.int (if i < 0 then -i else i)))
  |_=>.stk
 |.int=>match d with
  |.int i=>.ok (.dat (.int i))
  |.bl b=>.ok (.dat (.int (if b then 1 else 0)))
  |.str x=>if x.length<=640 then (match PySem.intText? x with | some n=>.ok (.dat (.int n)) | none=>.stk)else .stk
  |_=>.stk
 |.len=>match d with
  |.str x=>if fits x.length then .ok (.dat (.int x.length))else .stk
  |d=>(jaU d).bind fun xs=>.ok (.dat (.int xs.length))
 |.tuple=>(jaU d).bind fun xs=>.ok (.dat (.tup xs))
 |.list=>(jaU d).bind fun xs=>.ok (.tmp (.l xs))
 |.all=>(jaU d).bind fun xs=>match jas xs with | some bs=>.ok (.dat (.bl (bs.all id))) | none=>.stk
 |.any=>(jaU d).bind fun xs=>match jas xs with | some bs=>.ok (.dat (.bl (bs.any id))) | none=>.stk
 |.sum=>(jaU d).bind fun xs=>match jaW xs with | some ns=>.ok (.dat (.int ns.sum)) | none=>.stk
 |.min=>(jaU d).bind fun xs=>match jaW xs with | some (n::ns)=>.ok (.dat (.int (jtI ns n))) | _=>.stk
 |.max=>(jaU d).bind fun xs=>match jaW xs with | some (n::ns)=>.ok (.dat (.int (jtJ ns n))) | _=>.stk
 |.sorted=>match d with
  |.lst xs=>match jbi xs with | some kss=>jd7 kss | none=>.stk
  |_=>.stk
 |.ssorted=>(jaU d).bind fun xs=>match jbi xs with | some kss=>if kss.length < 4000 then jd7 (joK kss)else .stk | none=>.stk
 |.revl=>match d with
  |.lst xs=>.ok (.tmp (.l xs.reverse))
  |_=>.stk
 |.revt=>match d with
  |.lst xs=>.ok (.dat (.tup xs.reverse))
  |.tup xs=>.ok (.dat (.tup xs.reverse))
  |_=>.stk
 |.str=>match d with
  |.int i=>if i.natAbs.log2 < 1920 then .ok (.dat (.str (Str.ofString (toString i))))else .stk
  |_=>.stk
noncomputable def jba:List D->Option (List Str)
 |[]=>some []
 |.str x::r=>(jba r).map (x::·)
 |_::_=>none
noncomputable def smD (f:Sm)(x:Str)(d:D):R Vl:=match f with
 |.join=>match d with
  |.lst xs=>(match jba xs with
   |some ys=>if (ys.map (·.length)).sum + ys.length * x.length<=16777216 then .ok (.dat (.str (Txt.join x ys)))else .stk
   |none=>.stk)
  |_=>.stk
 |.cnt=>match d with
  |.str y=>.ok (.dat (.int (Txt.count x y)))
  |_=>.stk
 |.splt=>match d with
  |.str y=>if y.length != 0 && fits x.length && fits (Txt.split x y).length then .ok (.tmp (.l ((Txt.split x y).map .str)))else .stk
  |_=>.stk
 |.zfl=>match d with
  |.int i=>if PadOk i then .ok (.dat (.str (Txt.zfill x i)))else .stk
  |_=>.stk
 |.rjn=>match d with
  |.lst xs=>(match jba xs with
   |some ys=>if (ys.map (·.length)).sum + ys.length * x.length<=16777216 then .ok (.dat (.str (Txt.join x ys.reverse)))else .stk
   |none=>.stk)
  |_=>.stk
noncomputable def jtK:Vl->R Str
 |.dat (.str x)=>.ok x
 |_=>.stk
noncomputable def tyB:D->Ty->Bool
 |.bl _,t=>t == .bool || t == .int
 |.int _,t=>t == .int
 |.str _,t=>t == .str
 |.tup _,t=>t == .tuple
 |.lst _,t=>t == .list
 |.dct _ _,t=>t == .dict
 |_,_=>false
noncomputable def tyP (d:D):Ty->R Bool
 |.exc _=>.stk
 |.verr=>.stk
 |t=>.ok (tyB d t)
section
variable (U:Nat->Nat->Bool)
noncomputable def jqe (d:D)(t:Ty):R Bool:=match d with
 |.exc c=>match t with
  |.exc k=>.ok (U c k)
  |.verr=>.ok true
  |_=>.stk
 |d=>tyP d t
noncomputable def jaj:D->List Ty->R Bool
 |_,[]=>.ok false
 |d,t::r=>(jqe U d t).bind fun b=>if b then .ok true else jaj d r
end
noncomputable def jd8:D->R (List D)
 |.int n=>if -16777216<=n/\n<=16777216 then .ok (joL 0 n.toNat)else .stk
 |_=>.stk
noncomputable def jdx:List D->List D->List D
 |a::as,b::bs=>.tup [a,b]::jdx as bs
 |_,_=>[]
noncomputable def deref (v:Vl)(ρ:Rho):R D:=match v with
 |.dat d=>.ok d
 |.tmp o=>.ok o.toD
 |.slot i=>match ρ[i]? with | some (.own o _ _)=>.ok o.toD | _=>.stk
noncomputable def toD (v:Vl)(ρ:Rho):R (D×Rho):=match v with
 |.dat d=>.ok (d,ρ)
 |.tmp o=>.ok (o.toD,ρ)
 |.slot i=>match ρ[i]? with | some (.own o false false)=>.ok (o.toD,ρ.set i (.dat o.toD)) | _=>.stk
noncomputable def jgV (v:Vl)(ρ:Rho):R (Sl×Rho):=match v with
 |.tmp o=>.ok (.own o false false,ρ)
 |v=>(toD v ρ).bind fun p=>.ok (.dat p.1,p.2)
noncomputable def putT (tg:List Nat)(one:Bool)(d:D)(ρ:Rho):R Rho:=match one,tg,d with
 |true,[i],d=>.ok (ρ.set i (.dat d))
 |false,is,.tup xs=>if is.length=xs.length then .ok ((is.zip xs).foldl (fun r p=>r.set p.1 (.dat p.2)) ρ)else .stk
 |_,_,_=>.stk
noncomputable def jaA (v:Vl)(ρ:Rho):R (List D×List Nat×Rho):=match v with
 |.dat d=>(jaU d).bind fun xs=>.ok (xs,[],ρ)
 |.tmp (.l xs)=>.ok (xs,[],ρ)
 |.slot i=>match ρ[i]? with
  |some (.own (.l xs) _ true)=>.ok (xs,[],ρ)
  |some (.own (.l xs) f false)=>.ok (xs,[i],ρ.set i (.own (.l xs) f true))
  |_=>.stk
 |_=>.stk
noncomputable def jbB (v:Vl)(ρ:Rho):R (List D×List Nat×Rho):=match v with
 |.dat (.str x)=>if fits x.length then .ok (x.cps.toList.map (fun c=>D.str ⟨#[c]⟩),[],ρ)else .stk
 |v=>jaA v ρ
noncomputable def unlk:List Nat->Rho->Rho
 |[],ρ=>ρ
 |i::r,ρ=>unlk r (match ρ[i]? with | some (.own o f _)=>ρ.set i (.own o f false) | _=>ρ)
noncomputable def jdg (ls:List Nat):Fl->Fl
 |.nx ρ=>.nx (unlk ls ρ)
 |.bk ρ=>.bk (unlk ls ρ)
 |.ct ρ=>.ct (unlk ls ρ)
 |.rt v ρ=>.rt v (unlk ls ρ)
noncomputable def compGo (f:D->Rho->R (Option D×Rho)):List D->Rho->R (List D×Rho)
 |[],ρ=>.ok ([],ρ)
 |x::xs,ρ=>(f x ρ).bind fun p=>(compGo f xs p.2).bind fun q=>.ok (match p.1 with | some d=>d::q.1 | none=>q.1,q.2)
noncomputable def jdy (ρ:Rho)(caps:List Nat):Rho:=caps.map fun i=>match ρ[i]? with | some s=>s | none=>.no
noncomputable def jeG (nt:Nat)(caps:List Nat)(ρ:Rho):Rho:=List.replicate nt .no++jdy ρ caps
noncomputable def jaH:List Nat->Nat->Rho->Rho->Rho
 |[],_,_,ρ=>ρ
 |j::r,k,inn,ρ=>jaH r (k + 1) inn (match inn[k]? with | some s=>ρ.set j s | none=>ρ)
noncomputable def jhW (lend:Bool)(v:Vl)(ρ:Rho):R (Sl×Option (Nat×Bool×Bool)×Rho):=match lend,v with
 |true,.slot i=>match ρ[i]? with
  |some (.own o f k)=>.ok (.own o true k,some (i,f,k),ρ.set i .no)
  |_=>.stk
 |_,v=>(toD v ρ).bind fun p=>.ok (.dat p.1,none,p.2)
noncomputable def jaB:List Bool->List Vl->Rho->R (List Sl×List (Option (Nat×Bool×Bool))×Rho)
 |_,[],ρ=>.ok ([],[],ρ)
 |fl,v::vs,ρ=>(jhW (fl.headD false) v ρ).bind fun p=>(jaB fl.tail vs p.2.2).bind fun q=>.ok (p.1::q.1,p.2.1::q.2.1,q.2.2)
noncomputable def ja8:List (Option (Nat×Bool×Bool))->List Sl->Rho->Rho
 |[],_,ρ=>ρ
 |_,[],ρ=>ρ
 |none::r,_::fs,ρ=>ja8 r fs ρ
 |some (i,f,k)::r,s::fs,ρ=>ja8 r fs (match s with | .own o _ _=>ρ.set i (.own o f k) | _=>ρ)
noncomputable def juc:Sl->Sl
 |.own o true k=>.own o true k
 |_=>.no
noncomputable def jcr:Vl->R Bool
 |.dat (.bl b)=>.ok b
 |_=>.stk
noncomputable abbrev Calls:=Nat->List Sl->R (Vl×List Sl)
section
variable (G:Calls) (U:Nat->Nat->Bool)
mutual
noncomputable def evE:E->Rho->R (Vl×Rho)
 |.lit d,ρ=>.ok (.dat d,ρ)
 |.var i,ρ=>match ρ[i]? with | some (.dat d)=>.ok (.dat d,ρ) | some (.own _ _ _)=>.ok (.slot i,ρ) | _=>.stk
 |.bin o a b,ρ=>(evE a ρ).bind fun p=>(evE b p.2).bind fun q=>(deref p.1 q.2).bind fun x=>(deref q.1 q.2).bind fun y=>(opD o x y).bind fun v=>.ok (v,q.2)
 |.cmp o a b,ρ=>(evE a ρ).bind fun p=>(evE b p.2).bind fun q=>(deref p.1 q.2).bind fun x=>(deref q.1 q.2).bind fun y=>(cmD o x y).bind fun c=>.ok (.dat (.bl c),q.2)
 |.and a b,ρ=>(evE a ρ).bind fun p=>(jcr p.1).bind fun t=>if t then (evE b p.2).bind fun q=>(jcr q.1).bind fun u=>.ok (.dat (.bl u),q.2)else .ok (.dat (.bl false),p.2)
 |.or a b,ρ=>(evE a ρ).bind fun p=>(jcr p.1).bind fun t=>if t then .ok (.dat (.bl true),p.2)else (evE b p.2).bind fun q=>(jcr q.1).bind fun u=>.ok (.dat (.bl u),q.2)
 |.not a,ρ=>(evE a ρ).bind fun p=>(jcr p.1).bind fun t=>.ok (.dat (.bl (!t)),p.2)
 |.ite c a b,ρ=>(evT c ρ).bind fun t=>if t.1 then evE a t.2 else evE b t.2
 |.tup es,ρ=>(evEs es ρ).bind fun p=>if fits p.1.length then .ok (.dat (.tup p.1),p.2)else .stk
 |.lst es,ρ=>(evEs es ρ).bind fun p=>if fits p.1.length then .ok (.tmp (.l p.1),p.2)else .stk
 |.idx a b,ρ=>(evE a ρ).bind fun p=>(evE b p.2).bind fun q=>(deref p.1 q.2).bind fun x=>(deref q.1 q.2).bind fun y=>(jk8 x y).bind fun d=>.ok (.dat d,q.2)
 |.slc a lo hi,ρ=>(evE a ρ).bind fun p=>(evO lo p.2).bind fun l=>(evO hi l.2).bind fun h=>(deref p.1 h.2).bind fun x=>(jhV x l.1 h.1).bind fun v=>.ok (v,h.2)
 |.call f fl es,ρ=>(evAs es ρ).bind fun p=>(jaB fl p.1 p.2).bind fun q=>(G f q.1).bind fun r=>.ok (r.1,ja8 q.2.1 r.2 q.2.2)
 |.blt f a,ρ=>(evE a ρ).bind fun p=>(deref p.1 p.2).bind fun x=>(bfD f x).bind fun v=>.ok (v,p.2)
 |.sm f a b,ρ=>(evE a ρ).bind fun p=>(jtK p.1).bind fun x=>(evE b p.2).bind fun q=>(deref q.1 q.2).bind fun y=>(smD f x y).bind fun v=>.ok (v,q.2)
 |.isi a ks,ρ=>(evE a ρ).bind fun p=>(deref p.1 p.2).bind fun x=>(jaj U x ks).bind fun b=>.ok (.dat (.bl b),p.2)
 |.comp elt tg one n caps it c x,ρ=>(evI it ρ).bind fun t=>((compGo (fun x r=>(putT tg one x (jeG n caps r)).bind fun r'=>
   match c with
   |.none=>(evE elt r').bind fun p=>(toD p.1 p.2).bind fun q=>.ok (some q.1,jaH caps n q.2 r)
   |.some k=>(evT k r').bind fun b=>if b.1 then (evE elt b.2).bind fun p=>(toD p.1 p.2).bind fun q=>.ok (some q.1,jaH caps n q.2 r)else .ok (none,jaH caps n b.2 r)) t.1 t.2.2).pass x).bind fun ys=>.ok (.tmp (.l ys.1),unlk t.2.1 ys.2)
 |.pop i,ρ=>match ρ[i]? with
  |some (.own (.l xs) f false)=>match xs.getLast? with
   |some d=>.ok (.dat d,ρ.set i (.own (.l xs.dropLast) f false))
   |none=>.stk
  |_=>.stk
noncomputable def evT:E->Rho->R (Bool×Rho)
 |.and a b,ρ=>(evT a ρ).bind fun p=>if p.1 then evT b p.2 else .ok (false,p.2)
 |.or a b,ρ=>(evT a ρ).bind fun p=>if p.1 then .ok (true,p.2)else evT b p.2
 |.not a,ρ=>(evT a ρ).bind fun p=>.ok (!p.1,p.2)
 |.cmp o a b,ρ=>(evE a ρ).bind fun p=>(evE b p.2).bind fun q=>(deref p.1 q.2).bind fun x=>(deref q.1 q.2).bind fun y=>(cmD o x y).bind fun c=>.ok (c,q.2)
 |.var i,ρ=>match ρ[i]? with | some (.dat d)=>(jbC d).bind fun b=>.ok (b,ρ) | some (.own o _ _)=>(jbC o.toD).bind fun b=>.ok (b,ρ) | _=>.stk
 |.isi a ks,ρ=>(evE a ρ).bind fun p=>(deref p.1 p.2).bind fun x=>(jaj U x ks).bind fun b=>.ok (b,p.2)
 |.call f fl es,ρ=>(evAs es ρ).bind fun p=>(jaB fl p.1 p.2).bind fun q=>(G f q.1).bind fun r=>(deref r.1 []).bind fun d=>(jbC d).bind fun b=>.ok (b,ja8 q.2.1 r.2 q.2.2)
 |.blt f a,ρ=>(evE a ρ).bind fun p=>(deref p.1 p.2).bind fun x=>(bfD f x).bind fun v=>(deref v []).bind fun d=>(jbC d).bind fun b=>.ok (b,p.2)
 |.idx a b,ρ=>(evE a ρ).bind fun p=>(evE b p.2).bind fun q=>(deref p.1 q.2).bind fun x=>(deref q.1 q.2).bind fun y=>(jk8 x y).bind fun d=>(jbC d).bind fun t=>.ok (t,q.2)
 |.lit d,ρ=>(jbC d).bind fun b=>.ok (b,ρ)
 |.bin o a b,ρ=>(evE a ρ).bind fun p=>(evE b p.2).bind fun q=>(deref p.1 q.2).bind fun x=>(deref q.1 q.2).bind fun y=>(opD o x y).bind fun v=>(deref v []).bind fun d=>(jbC d).bind fun t=>.ok (t,q.2)
 |.slc a lo hi,ρ=>(evE a ρ).bind fun p=>(evO lo p.2).bind fun l=>(evO hi l.2).bind fun h=>(deref p.1 h.2).bind fun x=>(jhV x l.1 h.1).bind fun v=>(deref v []).bind fun d=>(jbC d).bind fun b=>.ok (b,h.2)
 |.ite _ _ _,_=>.stk
 |.tup _,_=>.stk
 |.lst _,_=>.stk
 |.sm _ _ _,_=>.stk
 |.comp _ _ _ _ _ _ _ _,_=>.stk
 |.pop _,_=>.stk
noncomputable def evEs:Es->Rho->R (List D×Rho)
 |.nil,ρ=>.ok ([],ρ)
 |.cons e es,ρ=>(evE e ρ).bind fun p=>(toD p.1 p.2).bind fun q=>(evEs es q.2).bind fun r=>.ok (q.1::r.1,r.2)
noncomputable def evAs:Es->Rho->R (List Vl×Rho)
 |.nil,ρ=>.ok ([],ρ)
 |.cons e es,ρ=>(evE e ρ).bind fun p=>(evAs es p.2).bind fun r=>.ok (p.1::r.1,r.2)
noncomputable def evO:Oe->Rho->R (Option Int×Rho)
 |.none,ρ=>.ok (none,ρ)
 |.some e,ρ=>(evE e ρ).bind fun p=>match p.1 with | .dat (.int i)=>.ok (some i,p.2) | _=>.stk
noncomputable def evI:It->Rho->R (List D×List Nat×Rho)
 |.seq e,ρ=>(evE e ρ).bind fun p=>jbB p.1 p.2
 |.rng1 a,ρ=>(evE a ρ).bind fun p=>(deref p.1 p.2).bind fun x=>(jd8 x).bind fun xs=>.ok (xs,[],p.2)
 |.zip a b,ρ=>(evE a ρ).bind fun p=>(evE b p.2).bind fun q=>(jaA p.1 q.2).bind fun x=>(jaA q.1 x.2.2).bind fun y=>.ok (jdx x.1 y.1,x.2.1++y.2.1,y.2.2)
end
noncomputable def joM (g:Rho->R Fl):Fl->R Fl
 |.nx ρ=>g ρ
 |r=>.ok r
noncomputable def jaw (f:D->Rho->R Fl):List D->Rho->R Fl
 |[],ρ=>.ok (.nx ρ)
 |x::xs,ρ=>(f x ρ).bind fun r=>match r with
  |.nx ρ'=>jaw f xs ρ'
  |.ct ρ'=>jaw f xs ρ'
  |.bk ρ'=>.ok (.nx ρ')
  |.rt v ρ'=>.ok (.rt v ρ')
noncomputable def jcx (c:Rho->R (Bool×Rho))(f:Rho->R Fl):Nat->Rho->R Fl
 |0,_=>.stk
 |n + 1,ρ=>(c ρ).bind fun b=>if b.1 then (f b.2).bind fun r=>match r with
  |.nx ρ'=>jcx c f n ρ'
  |.ct ρ'=>jcx c f n ρ'
  |.bk ρ'=>.ok (.nx ρ')
  |.rt v ρ'=>.ok (.rt v ρ')else .ok (.nx b.2)
noncomputable def jl1 (v:Vl)(ρ:Rho):R Fl:=match v with
 |.dat d=>.ok (.rt (.dat d) ρ)
 |.tmp o=>.ok (.rt (.tmp o) ρ)
 |.slot i=>match ρ[i]? with | some (.own o false false)=>.ok (.rt (.tmp o) (ρ.set i .no)) | _=>.stk
variable (W:Nat)
mutual
noncomputable def evS:S->Rho->R Fl
 |.ret e,ρ=>(evE G U e ρ).bind fun p=>jl1 p.1 p.2
 |.retN,ρ=>.ok (.rt (.dat .non) ρ)
 |.expr e,ρ=>(evE G U e ρ).bind fun p=>.ok (.nx p.2)
 |.asg i e,ρ=>(evE G U e ρ).bind fun p=>(jgV p.1 p.2).bind fun q=>if i < q.2.length then .ok (.nx (q.2.set i q.1))else .stk
 |.unp is e,ρ=>(evE G U e ρ).bind fun p=>(deref p.1 p.2).bind fun d=>(putT is false d p.2).bind fun ρ'=>.ok (.nx ρ')
 |.app i e,ρ=>match ρ[i]? with
  |some (.own (.l _) _ _)=>(evE G U e ρ).bind fun p=>(toD p.1 p.2).bind fun q=>match q.2[i]? with
   |some (.own (.l xs) f false)=>if fits (xs.length + 1)then .ok (.nx (q.2.set i (.own (.l (xs++[q.1])) f false)))else .stk
   |_=>.stk
  |_=>.stk
 |.ext i e,ρ=>match ρ[i]? with
  |some (.own (.l _) _ _)=>(evE G U e ρ).bind fun p=>(deref p.1 p.2).bind fun x=>(jaU x).bind fun ys=>match p.2[i]? with
   |some (.own (.l xs) f false)=>if fits (xs.length + ys.length)then .ok (.nx (p.2.set i (.own (.l (xs++ys)) f false)))else .stk
   |_=>.stk
  |_=>.stk
 |.ife c a b,ρ=>(evT G U c ρ).bind fun t=>if t.1 then evSs a t.2 else evSs b t.2
 |.loop tg one it b,ρ=>(evI G U it ρ).bind fun t=>(jaw (fun x r=>(putT tg one x r).bind fun r'=>evSs b r') t.1 t.2.2).bind fun r=>.ok (jdg t.2.1 r)
 |.whl c b,ρ=>jcx (fun r=>evT G U c r) (fun r=>evSs b r) W ρ
 |.brk,ρ=>.ok (.bk ρ)
 |.cnt,ρ=>.ok (.ct ρ)
 |.pas,ρ=>.ok (.nx ρ)
 |.rai c e,ρ=>(evE G U e ρ).bind fun _=>.err c
noncomputable def evSs:Ss->Rho->R Fl
 |.nil,ρ=>.ok (.nx ρ)
 |.cons s ss,ρ=>(evS s ρ).bind (joM fun ρ'=>evSs ss ρ')
end
end
structure Def where
 ps:Nat
 n:Nat
 body:Ss
noncomputable def jhX (k:Nat)(ρ:Rho):List Sl:=(List.range k).map fun j=>match ρ[j]? with | some s=>juc s | none=>.no
noncomputable def jbD (k:Nat):Fl->R (Vl×List Sl)
 |.rt v ρ=>.ok (v,jhX k ρ)
 |.nx ρ=>.ok (.dat .non,jhX k ρ)
 |_=>.stk
noncomputable def jaa (U:Nat->Nat->Bool)(W:Nat)(P:List Def):Nat->Calls
 |0=>fun _ _=>.stk
 |n + 1=>fun f xs=>match P[f]? with
  |none=>.stk
  |some d=>if xs.length=d.ps then (evSs (jaa U W P n) U W d.body (xs++List.replicate (d.n - d.ps) .no)).bind (jbD d.ps)else .stk
end DJ
namespace DJ
open PySem PySem.Spec PyProof.Rows L2
noncomputable abbrev Frag:=PySem.W.Frag
structure Kn where
 K:Frag
 cl:List Addr
noncomputable def KT (K:Frag)(a:Addr)(xs:List V):Prop:=∃(o:Obj) (its:Array Value) (n:Nat),K.lookup a=some o/\o.cls=.type "tuple"/\o.data=.seq its n/\its.size<=sizeLine/\Vals xs its.toList
noncomputable def KL (K:Frag)(a:Addr)(xs:List V):Prop:=∃(o:Obj) (its:Array Value) (n:Nat),K.lookup a=some o/\o.cls=.type "list"/\o.dict=none/\o.data=.seq its n/\its.size<=sizeLine/\Vals xs its.toList
noncomputable def FT (K:Frag)(F:Addr->Prop)(H:Hp)(a:Addr)(xs:List V):Prop:=(F a/\Rd H a (.tup xs))\/KT K a xs
noncomputable def FL (K:Frag)(F:Addr->Prop)(H:Hp)(a:Addr)(xs:List V):Prop:=(F a/\Rd H a (.lst xs))\/KL K a xs
theorem FT.sq {K:Frag}{F:Addr->Prop}{H:Hp}{a:Addr}{xs:List V}(h:FT K F H a xs):SqT K H a xs:=h.imp (·.2) id
theorem FL.sq {K:Frag}{F:Addr->Prop}{H:Hp}{a:Addr}{xs:List V}(h:FL K F H a xs):SqL K H a xs:=h.imp (·.2) id
noncomputable def jnA (a C:Addr)(h:Heap):Prop:=∃o vs,h.get? a=some o/\o.cls=.ref C/\o.data=.fields vs
section
variable (Z:Kn) (F:Addr->Prop) (H:Hp)
mutual
noncomputable def Rep:D->V->Prop
 |.non,v=>v=.non
 |.bl b,v=>v=.bl b
 |.int i,v=>v=.int i
 |.str x,v=>v=.str x
 |.tup ds,v=>∃a vs,v=.ref a/\FT Z.K F H a vs/\Reps ds vs
 |.lst ds,v=>∃a vs,v=.ref a/\FL Z.K F H a vs/\Reps ds vs
 |.dct ks vs,v=>∃a,v=.ref a/\F a/\ks=[]/\vs=[]/\H a=some (.dK [])
 |.exc c,v=>∃a C,v=.ref a/\F a/\Z.cl[c]?=some C/\H a=some (.ext (jnA a C))
noncomputable def Reps:List D->List V->Prop
 |[],vs=>vs=[]
 |d::ds,vs=>∃v r,vs=v::r/\Rep d v/\Reps ds r
end
noncomputable def HasO (l:Addr):O->Prop
 |.l xs=>∃vs,H l=some (.lst vs)/\Reps Z F H xs vs
 |.d ks vs=>ks=[]/\vs=[]/\H l=some (.dK [])
end
noncomputable def Keep (F F':Addr->Prop)(H H':Hp):Prop:=∀a,F a->F' a/\H' a=H a
theorem Keep.rd {F F':Addr->Prop}{H H':Hp}(k:Keep F F' H H'){a:Addr}{u:HO}(h:F a/\Rd H a u):F' a/\Rd H' a u:=by
 obtain⟨f,e⟩:=k a h.1;refine⟨f,?_⟩;unfold Rd;rw[e];exact h.2
theorem Keep.refl {F:Addr->Prop}{H:Hp}:Keep F F H H:=fun _ h=>⟨h,rfl⟩
theorem Keep.trans {F F1 F2:Addr->Prop}{H H1 H2:Hp}(a:Keep F F1 H H1)(b:Keep F1 F2 H1 H2):Keep F F2 H H2:=fun x h=>by
 obtain⟨f1,e1⟩:=a x h;obtain⟨f2,e2⟩:=b x f1;exact⟨f2,e2.trans e1⟩
section
variable {Z:Kn}{F F':Addr->Prop}{H H':Hp}
mutual
theorem Rep.mono (k:Keep F F' H H'):∀{d:D}{v:V},Rep Z F H d v->Rep Z F' H' d v
 |.non,_,h=>by simpa only[Rep] using h
 |.bl _,_,h=>by simpa only[Rep] using h
 |.int _,_,h=>by simpa only[Rep] using h
 |.str _,_,h=>by simpa only[Rep] using h
 |.tup ds,v,h=>by
  simp only[Rep]at h ⊢;obtain⟨a,vs,e,q,r⟩:=h;exact⟨a,vs,e,q.imp k.rd id,Reps.mono k r⟩
 |.lst ds,v,h=>by
  simp only[Rep]at h ⊢;obtain⟨a,vs,e,q,r⟩:=h;exact⟨a,vs,e,q.imp k.rd id,Reps.mono k r⟩
 |.dct ks vs,v,h=>by
  simp only[Rep]at h ⊢;obtain⟨a,e,q,h1,h2,r⟩:=h;obtain⟨f,e'⟩:=k a q;exact⟨a,e,f,h1,h2,e'.trans r⟩
 |.exc c,v,h=>by
  simp only[Rep]at h ⊢;obtain⟨a,C,e,q,h1,r⟩:=h;obtain⟨f,e'⟩:=k a q;exact⟨a,C,e,f,h1,e'.trans r⟩
theorem Reps.mono (k:Keep F F' H H'):∀{ds:List D}{vs:List V},Reps Z F H ds vs->Reps Z F' H' ds vs
 |[],_,h=>by simpa only[Reps] using h
 |d::ds,vs,h=>by
  simp only[Reps]at h ⊢;obtain⟨v,r,e,h1,h2⟩:=h;exact⟨v,r,e,Rep.mono k h1,Reps.mono k h2⟩
end
theorem HasO.mono (k:Keep F F' H H'){l:Addr}(e:H' l=H l):∀{o:O},HasO Z F H l o->HasO Z F' H' l o
 |.l xs,⟨vs,h1,h2⟩=>⟨vs,e.trans h1,h2.mono k⟩
 |.d ks vs,⟨h1,h2,h3⟩=>⟨h1,h2,e.trans h3⟩
theorem HasO.some {l:Addr}{o:O}(h:HasO Z F H l o):∃u,H l=Option.some u:=by
 cases o with
 |l xs=>obtain⟨vs,e,_⟩:=h;exact⟨_,e⟩
 |d ks vs=>exact⟨_,h.2.2⟩
theorem Reps.length:∀{ds:List D}{vs:List V},Reps Z F H ds vs->ds.length=vs.length
 |[],vs,h=>by simp only[Reps]at h;subst h;rfl
 |d::ds,vs,h=>by
  simp only[Reps]at h;obtain⟨v,r,rfl,_,h2⟩:=h;rw[juB,juB,Reps.length h2]
theorem Reps.get:∀{ds:List D}{vs:List V}{i:Nat}{d:D},Reps Z F H ds vs->ds[i]?=some d->∃v,vs[i]?=some v/\Rep Z F H d v
 |[],_,_,_,_,e=>by simp at e
 |x::ds,vs,0,d,h,e=>by
  simp only[Reps]at h;obtain⟨v,r,rfl,h1,_⟩:=h;simp at e;subst e;exact⟨v,rfl,h1⟩
 |x::ds,vs,i + 1,d,h,e=>by
  simp only[Reps]at h;obtain⟨v,r,rfl,_,h2⟩:=h;obtain⟨u,e1,e2⟩:=Reps.get (i:=i) h2 (by simpa using e)
  exact⟨u,by simpa using e1,e2⟩
theorem Reps.append:∀{ds es:List D}{vs us:List V},Reps Z F H ds vs->Reps Z F H es us->Reps Z F H (ds++es) (vs++us)
 |[],_,_,_,h,h'=>by simp only[Reps]at h;subst h;exact h'
 |d::ds,es,vs,us,h,h'=>by
  simp only[Reps]at h;obtain⟨v,r,rfl,h1,h2⟩:=h;show Reps Z F H (d::(ds++es)) (v::(r++us));simp only[Reps];exact⟨v,_,rfl,h1,Reps.append h2 h'⟩
theorem Reps.drop:∀{ds:List D}{vs:List V} (n:Nat),Reps Z F H ds vs->Reps Z F H (ds.drop n) (vs.drop n)
 |_,_,0,h=>h
 |[],vs,n + 1,h=>by simp only[Reps]at h;subst h;simp[Reps]
 |d::ds,vs,n + 1,h=>by
  simp only[Reps]at h;obtain⟨v,r,rfl,h1,h2⟩:=h;exact Reps.drop n h2
theorem Reps.take:∀{ds:List D}{vs:List V} (n:Nat),Reps Z F H ds vs->Reps Z F H (ds.take n) (vs.take n)
 |_,_,0,h=>by simp[Reps]
 |[],vs,n + 1,h=>by simp only[Reps]at h;subst h;simp[Reps]
 |d::ds,vs,n + 1,h=>by
  simp only[Reps]at h;obtain⟨v,r,rfl,h1,h2⟩:=h;simp only[List.take_succ_cons,Reps];exact⟨v,_,rfl,h1,Reps.take n h2⟩
theorem Reps.set {d:D}{v:V}(hd:Rep Z F H d v):∀{ds:List D}{vs:List V} (i:Nat),Reps Z F H ds vs->Reps Z F H (ds.set i d) (vs.set i v)
 |[],vs,i,h=>by simp only[Reps]at h;subst h;simp[Reps]
 |e::ds,vs,0,h=>by
  simp only[Reps]at h;obtain⟨u,r,rfl,h1,h2⟩:=h;simp only[List.set_cons_zero,Reps];exact⟨v,_,rfl,hd,h2⟩
 |e::ds,vs,i + 1,h=>by
  simp only[Reps]at h;obtain⟨u,r,rfl,h1,h2⟩:=h;simp only[List.set_cons_succ,Reps];exact⟨u,_,rfl,h1,Reps.set hd i h2⟩
theorem Reps.one {d:D}{v:V}(hd:Rep Z F H d v):Reps Z F H [d] [v]:=by simp only[Reps];exact⟨v,[],rfl,hd,rfl⟩
theorem Reps.nil:Reps Z F H [] []:=by simp only[Reps]
theorem Reps.cons {d:D}{v:V}{ds:List D}{vs:List V}(hd:Rep Z F H d v)(h:Reps Z F H ds vs):Reps Z F H (d::ds) (v::vs):=by simp only[Reps];exact⟨v,vs,rfl,hd,h⟩
theorem Reps.uncons {d:D}{ds:List D}{us:List V}(h:Reps Z F H (d::ds) us):∃v vs,us=v::vs/\Rep Z F H d v/\Reps Z F H ds vs:=by simpa only[Reps] using h
theorem Reps.reverse {ds:List D}{vs:List V}(h:Reps Z F H ds vs):Reps Z F H ds.reverse vs.reverse:=by
 induction ds generalizing vs with
 |nil=>simp only[Reps]at h;subst h;exact .nil
 |cons d ds ih=>
  simp only[Reps]at h;obtain⟨v,r,rfl,h1,h2⟩:=h;rw[List.reverse_cons,List.reverse_cons];exact(ih h2).append (.one h1)
theorem Reps.dropLast {ds:List D}{vs:List V}(h:Reps Z F H ds vs):Reps Z F H ds.dropLast vs.dropLast:=by
 rw[List.dropLast_eq_take,List.dropLast_eq_take,h.length];exact h.take _
theorem Reps.rep {ds:List D}{vs:List V}(h:Reps Z F H ds vs):∀k:Nat,Reps Z F H (List.replicate k ds).flatten (List.replicate k vs).flatten
 |0=>.nil
 |k + 1=>by
  rw[List.replicate_succ,List.replicate_succ,List.flatten_cons,List.flatten_cons];exact h.append (Reps.rep h k)
end
noncomputable def Dom (F:Addr->Prop)(H:Hp):Prop:=∀a,F a->∃o,H a=some o
structure Bs where
 hp:Hp
 lent:Nat->Option Addr
noncomputable def OwR (Z:Kn)(B:Bs)(F:Addr->Prop)(H:Hp)(i:Nat)(o:O)(f:Bool)(l:Addr):Prop:=¬F l/\HasO Z F H l o/\(f=true->B.lent i=some l)/\(f=false->B.hp l=none)
structure SR (Z:Kn)(B:Bs)(F:Addr->Prop)(H:Hp)(σ:L2.St)(ρ:Rho):Prop where
 dom:Dom F H
 len:ρ.length=σ.length
 dat:∀(i:Nat) (d:D),ρ[i]?=some (.dat d)->∃v,σ[i]?=some (some v)/\Rep Z F H d v
 own:∀(i:Nat) (o:O) (f k:Bool),ρ[i]?=some (.own o f k)->∃l,σ[i]?=some (some (.ref l))/\OwR Z B F H i o f l
 one:∀(i j:Nat) (o o':O) (f k f' k':Bool) (l:Addr),i≠j->ρ[i]?=some (.own o f k)->ρ[j]?=some (.own o' f' k')->σ[i]?=some (some (.ref l))->σ[j]?≠some (some (.ref l))
 base:∀b,H b=none->B.hp b=none
inductive Ow (σ:L2.St) (ρ:Rho) (b:Addr):Prop
 |mk (i:Nat) (o:O) (f:Bool) (k:Bool):(ρ[i]?=some (.own o f k))->(σ[i]?=some (some (.ref b)))->Ow σ ρ b
inductive Mb (σ:L2.St) (ρ:Rho) (b:Addr):Prop
 |mk (i:Nat) (o:O) (f:Bool):(ρ[i]?=some (.own o f false))->(σ[i]?=some (some (.ref b)))->Mb σ ρ b
theorem Mb.ow {σ:L2.St}{ρ:Rho}{b:Addr}(h:Mb σ ρ b):Ow σ ρ b:=let ⟨i,o,f,h1,h2⟩:=h;⟨i,o,f,false,h1,h2⟩
structure Go (σ:L2.St)(ρ:Rho)(F:Addr->Prop)(H:Hp)(σ':L2.St)(ρ':Rho)(F':Addr->Prop)(H':Hp):Prop where
 stay:∀b o,H b=some o->¬Mb σ ρ b->H' b=some o
 sub:∀a,F a->F' a
 new:∀a,F' a->F a\/H a=none\/Mb σ ρ a
 ow:∀(j:Nat) (o:O) (f k:Bool) (b:Addr),ρ'[j]?=some (.own o f k)->σ'[j]?=some (some (.ref b))->(∃o0 k0,ρ[j]?=some (.own o0 f k0)/\σ[j]?=some (some (.ref b))/\(k0=true->k=true))\/H b=none
 there:∀b o,H b=some o->∃o',H' b=some o'
section
variable {Z:Kn}{B:Bs}{F F1 F2:Addr->Prop}{H H1 H2:Hp}{σ σ1 σ2:L2.St}{ρ ρ1 ρ2:Rho}
theorem SR.noF (r:SR Z B F H σ ρ){b:Addr}(h:Ow σ ρ b):¬F b:=by
 obtain⟨i,o,f,k,h1,h2⟩:=h;obtain⟨l,e,w⟩:=r.own i o f k h1;rw[h2]at e;cases e;exact w.1
theorem SR.there (r:SR Z B F H σ ρ){b:Addr}(h:Ow σ ρ b):∃u,H b=some u:=by
 obtain⟨i,o,f,k,h1,h2⟩:=h;obtain⟨l,e,w⟩:=r.own i o f k h1;rw[h2]at e;cases e;exact w.2.1.some
theorem Go.mb (g:Go σ ρ F H σ1 ρ1 F1 H1){b:Addr}(h:Mb σ1 ρ1 b):Mb σ ρ b\/H b=none:=by
 obtain⟨i,o,f,h1,h2⟩:=h;rcases g.ow i o f false b h1 h2 with ⟨o0,k0,e1,e2,e3⟩ | z
 ·cases k0 with
  |false=>exact .inl ⟨i,o0,f,e1,e2⟩
  |true=>exact absurd (e3 rfl) (by decide)
 ·exact .inr z
theorem Go.owA (g:Go σ ρ F H σ1 ρ1 F1 H1){b:Addr}(h:Ow σ1 ρ1 b):Ow σ ρ b\/H b=none:=by
 obtain⟨i,o,f,k,h1,h2⟩:=h;rcases g.ow i o f k b h1 h2 with ⟨o0,k0,e1,e2,e3⟩ | z
 ·exact .inl ⟨i,o0,f,k0,e1,e2⟩
 ·exact .inr z
theorem Go.self {j:Nat}{o:O}{f k:Bool}{b:Addr}(h1:ρ[j]?=some (.own o f k))(h2:σ[j]?=some (some (.ref b))):(∃o0 k0,ρ[j]?=some (.own o0 f k0)/\σ[j]?=some (some (.ref b))/\(k0=true->k=true))\/H b=none:=.inl ⟨o,k,h1,h2,id⟩
theorem Go.refl:Go σ ρ F H σ ρ F H:=⟨fun _ _ h _=>h,fun _ h=>h,fun _ h=>.inl h,fun _ _ _ _ _ h1 h2=>Go.self h1 h2,fun _ o h=>⟨o,h⟩⟩
theorem Go.trans (a:Go σ ρ F H σ1 ρ1 F1 H1)(b:Go σ1 ρ1 F1 H1 σ2 ρ2 F2 H2):Go σ ρ F H σ2 ρ2 F2 H2:=by
 have back:∀{c:Addr},H1 c=none->H c=none:=fun {c} h1=>by
  cases q:H c with
  |none=>rfl
  |some o=>obtain⟨u,e⟩:=a.there c o q;rw[h1]at e;cases e
 refine⟨fun c o h n=>b.stay c o (a.stay c o h n) fun m=>?_,fun c h=>b.sub c (a.sub c h),fun c h=>?_,fun j o f k c h1 h2=>?_,fun c o h=>let ⟨o1,h1⟩:=a.there c o h;b.there c o1 h1⟩
 ·rcases a.mb m with z | z
  ·exact n z
  ·rw[h]at z;cases z
 ·rcases b.new c h with z | z | z
  ·exact a.new c z
  ·exact .inr (.inl (back z))
  ·exact .inr ((a.mb z).elim .inr .inl)
 ·rcases b.ow j o f k c h1 h2 with ⟨o0,k0,e1,e2,e3⟩ | z
  ·rcases a.ow j o0 f k0 c e1 e2 with ⟨o1,k1,q1,q2,q3⟩ | z
   ·exact .inl ⟨o1,k1,q1,q2,fun w=>e3 (q3 w)⟩
   ·exact .inr z
  ·exact .inr (back z)
theorem Go.free (g:Go σ ρ F H σ1 ρ1 F1 H1){l:Addr}(h:H1 l=none):H l=none:=by
 cases q:H l with
 |none=>rfl
 |some o=>obtain⟨u,e⟩:=g.there l o q;rw[h]at e;cases e
theorem Go.keep (g:Go σ ρ F H σ1 ρ1 F1 H1)(r:SR Z B F H σ ρ):Keep F F1 H H1:=fun a h=>by
 obtain⟨o,e⟩:=r.dom a h;exact⟨g.sub a h,(g.stay a o e fun m=>r.noF m.ow h).trans e.symm⟩
theorem Go.side (g:Go σ ρ F H σ1 ρ1 F1 H1){l:Addr}{o:HO}(h:H l=some o)(hF:¬F l)(hO:¬Ow σ ρ l):H1 l=some o/\¬F1 l/\¬Ow σ1 ρ1 l:=by
 refine⟨g.stay l o h fun m=>hO m.ow,fun z=>?_,fun z=>?_⟩
 ·rcases g.new l z with q | q | q
  ·exact hF q
  ·rw[h]at q;cases q
  ·exact hO q.ow
 ·rcases g.owA z with q | q
  ·exact hO q
  ·rw[h]at q;cases q
structure Ext (F:Addr->Prop)(H:Hp)(F':Addr->Prop)(H':Hp):Prop where
 sub:∀a,F a->F' a
 same:Same H H'
 new:∀a,F' a->F a\/H a=none
 dom:∀a,F' a->∃o,H' a=some o
theorem Ext.refl (d:Dom F H):Ext F H F H:=⟨fun _ h=>h,Same.refl _,fun _ h=>.inl h,d⟩
theorem Ext.trans (a:Ext F H F1 H1)(b:Ext F1 H1 F2 H2):Ext F H F2 H2:=
 ⟨fun x h=>b.sub x (a.sub x h),a.same.trans b.same,fun x h=>(b.new x h).elim (a.new x) fun n=>.inr (a.same.free n),b.dom⟩
theorem Ext.keep (a:Ext F H F1 H1)(d:Dom F H):Keep F F1 H H1:=fun x h=>by
 obtain⟨o,e⟩:=d x h;exact⟨a.sub x h,(a.same x o e).trans e.symm⟩
theorem Ext.newF {p:Addr}{o:HO}(d:Dom F H)(h:H p=none):Ext F H (fun a=>F a\/a=p) (upd H p o):=
 ⟨fun _ h=>.inl h,fun b u e=>by rw[jac (jab e h)];exact e,fun a q=>q.imp id fun (e:a=p)=>by rw[e];exact h,fun a q=>by
  rcases q with q | rfl
  ·obtain⟨u,e⟩:=d a q;exact⟨u,by rw[jac (jab e h)];exact e⟩
  ·exact⟨o,jak⟩⟩
theorem Ext.newO {p:Addr}{o:HO}(d:Dom F H)(h:H p=none):Ext F H F (upd H p o):=
 ⟨fun _ h=>h,fun b u e=>by rw[jac (jab e h)];exact e,fun a q=>.inl q,fun a q=>by
  obtain⟨u,e⟩:=d a q;exact⟨u,by rw[jac (jab e h)];exact e⟩⟩
theorem Ext.go (e:Ext F H F1 H1):Go σ ρ F H σ ρ F1 H1:=⟨fun b o h _=>e.same b o h,e.sub,fun a h=>(e.new a h).imp id .inl,fun _ _ _ _ _ h1 h2=>Go.self h1 h2,fun b o h=>⟨o,e.same b o h⟩⟩
theorem SR.ext (r:SR Z B F H σ ρ)(e:Ext F H F1 H1):SR Z B F1 H1 σ ρ where
 dom:=e.dom
 len:=r.len
 dat:=fun i d h=>let ⟨v,h1,h2⟩:=r.dat i d h;⟨v,h1,h2.mono (e.keep r.dom)⟩
 own:=fun i o f k h=>by
  obtain⟨l,h1,h2,h3,h4⟩:=r.own i o f k h;obtain⟨u,hu⟩:=h3.some;refine⟨l,h1,fun z=>?_,h3.mono (e.keep r.dom) ((e.same l u hu).trans hu.symm),h4⟩;rcases e.new l z with z | z
  ·exact h2 z
  ·rw[hu]at z;cases z
 one:=r.one
 base:=fun b h=>r.base b (e.same.free h)
theorem SR.put (r:SR Z B F H σ ρ){i:Nat}{d:D}{v:V}(h:Rep Z F H d v):SR Z B F H (σ.set i (some v)) (ρ.set i (.dat d)) where
 dom:=r.dom
 len:=by simp[r.len]
 dat:=fun j e hj=>by
  rw[juw]at hj ⊢;by_cases hij:i=j
  ·subst hij;rw[if_pos rfl]at hj ⊢;rw[<-r.len];split at hj
   ·rename_i hl;cases hj;exact⟨v,by rw[if_pos hl],h⟩
   ·cases hj
  ·rw[if_neg hij]at hj ⊢;exact r.dat j e hj
 own:=fun j o f k hj=>by
  rw[juw]at hj ⊢;by_cases hij:i=j
  ·subst hij;rw[if_pos rfl]at hj;split at hj <;> cases hj
  ·rw[if_neg hij]at hj ⊢;exact r.own j o f k hj
 one:=fun j k o o' f kk f' kk' l hjk hj hk=>by
  rw[juw]at hj hk;rw[juw,juw];by_cases h1:i=j
  ·rw[if_pos h1]at hj;split at hj <;> cases hj
  ·by_cases h2:i=k
   ·rw[if_pos h2]at hk;split at hk <;> cases hk
   ·rw[if_neg h1]at hj ⊢;rw[if_neg h2]at hk ⊢;exact r.one j k o o' f kk f' kk' l hjk hj hk
 base:=r.base
theorem Go.put {i:Nat}{d:D}{v:V}:Go σ ρ F H (σ.set i (some v)) (ρ.set i (.dat d)) F H:=by
 refine⟨fun _ _ h _=>h,fun _ h=>h,fun _ h=>.inl h,fun j o f k b h1 h2=>?_,fun _ o h=>⟨o,h⟩⟩;rw[juw]at h1 h2;by_cases hij:i=j
 ·rw[if_pos hij]at h1;split at h1 <;> cases h1
 ·rw[if_neg hij]at h1 h2;exact Go.self h1 h2
theorem SR.putOwn (r:SR Z B F H σ ρ){i:Nat}{o:O}{l:Addr}(hF:¬F l)(hO:¬Ow σ ρ l)(hb:B.hp l=none)(h:HasO Z F H l o):SR Z B F H (σ.set i (some (.ref l))) (ρ.set i (.own o false false)) where
 dom:=r.dom
 len:=by simp[r.len]
 dat:=fun j e hj=>by
  rw[juw]at hj ⊢;by_cases hij:i=j
  ·subst hij;rw[if_pos rfl]at hj;split at hj <;> cases hj
  ·rw[if_neg hij]at hj ⊢;exact r.dat j e hj
 own:=fun j o' f k hj=>by
  rw[juw]at hj ⊢;by_cases hij:i=j
  ·subst hij;rw[if_pos rfl]at hj ⊢;rw[<-r.len];split at hj
   ·rename_i hl';cases hj;exact⟨l,by rw[if_pos hl'],hF,h,(fun z=>by cases z),fun _=>hb⟩
   ·cases hj
  ·rw[if_neg hij]at hj ⊢;exact r.own j o' f k hj
 one:=fun j k o1 o2 f1 k1 f2 k2 m hjk hj hk=>by
  rw[juw]at hj hk;rw[juw,juw];by_cases h1:i=j
  ·subst h1;rw[if_neg hjk]at hk ⊢;rw[if_pos rfl];intro q z;split at q
   ·cases q;exact hO ⟨k,_,_,_,hk,z⟩
   ·cases q
  ·by_cases h2:i=k
   ·subst h2;rw[if_neg h1]at hj ⊢;rw[if_pos rfl];intro q z;split at z
    ·cases z;exact hO ⟨j,_,_,_,hj,q⟩
    ·cases z
   ·rw[if_neg h1]at hj ⊢;rw[if_neg h2]at hk ⊢;exact r.one j k _ _ _ _ _ _ m hjk hj hk
 base:=r.base
theorem Go.putOwn (g:Go σ ρ F H σ ρ1 F1 H1){i:Nat}{o:O}{l:Addr}(hn:H l=none):Go σ ρ F H (σ.set i (some (.ref l))) (ρ1.set i (.own o false false)) F1 H1:=by
 refine⟨g.stay,g.sub,g.new,fun j o' f k b h1 h2=>?_,g.there⟩;rw[juw]at h1 h2;by_cases hij:i=j
 ·rw[if_pos hij]at h2;split at h2
  ·cases h2;exact .inr hn
  ·cases h2
 ·rw[if_neg hij]at h1 h2;exact g.ow j o' f k b h1 h2
noncomputable def Le (ρ' ρ:Rho):Prop:=ρ'.length=ρ.length/\(∀(i:Nat) d,ρ'[i]?=some (.dat d)->ρ[i]?=some (.dat d))/\(∀(i:Nat) o f k,ρ'[i]?=some (.own o f k)->ρ[i]?=some (.own o f k))
theorem Le.no {i:Nat}:Le (ρ.set i .no) ρ:=by
 refine⟨by simp,fun j d h=>?_,fun j o f k h=>?_⟩
 ·rw[juw]at h;by_cases e:i=j
  ·rw[if_pos e]at h;split at h <;> cases h
  ·rw[if_neg e]at h;exact h
 ·rw[juw]at h;by_cases e:i=j
  ·rw[if_pos e]at h;split at h <;> cases h
  ·rw[if_neg e]at h;exact h
theorem SR.weak (r:SR Z B F H σ ρ)(h:Le ρ1 ρ):SR Z B F H σ ρ1:=
 ⟨r.dom,h.1.trans r.len,fun i d q=>r.dat i d (h.2.1 i d q),fun i o f k q=>r.own i o f k (h.2.2 i o f k q),fun i j o o' f k f' k' l hij h1 h2=>r.one i j o o' f k f' k' l hij (h.2.2 _ _ _ _ h1) (h.2.2 _ _ _ _ h2),r.base⟩
theorem Go.weak (h:Le ρ1 ρ):Go σ ρ F H σ ρ1 F H:=
 ⟨fun _ _ h _=>h,fun _ h=>h,fun _ h=>.inl h,fun i o f k b h1 h2=>Go.self (h.2.2 _ _ _ _ h1) h2,fun _ o h=>⟨o,h⟩⟩
theorem SR.frz (r:SR Z B F H σ ρ){i:Nat}{o:O}{f k:Bool}{l:Addr}(h:ρ[i]?=some (.own o f k))(hl:σ[i]?=some (some (.ref l))) :
  Keep F (fun a=>F a\/a=l) H H/\SR Z B (fun a=>F a\/a=l) H σ (ρ.set i (.dat o.toD))/\Rep Z (fun a=>F a\/a=l) H o.toD (.ref l):=by
 obtain⟨l',h1,h2,h3,h4⟩:=r.own i o f k h;rw[hl]at h1;cases h1;have kp:Keep F (fun a=>F a\/a=l) H H:=fun a q=>⟨.inl q,rfl⟩;have hi:i < ρ.length:=(List.getElem?_eq_some_iff.mp h).1;have rp:Rep Z (fun a=>F a\/a=l) H o.toD (.ref l):=by
  cases o with
  |l xs=>
   obtain⟨vs,e,q⟩:=h3;simp only[O.toD,Rep];exact⟨l,vs,rfl,.inl ⟨.inr rfl,.inl e⟩,q.mono kp⟩
  |d ks vs=>
   obtain⟨e1,e2,e3⟩:=h3;simp only[O.toD,Rep];exact⟨l,rfl,.inr rfl,e1,e2,e3⟩
 refine⟨kp,⟨fun a q=>q.elim (r.dom a) fun (e:a=l)=>by rw[e];exact h3.some,by simp[r.len],fun j d hj=>?_,fun j o' f' k' hj=>?_,fun j jj o1 o2 f1 k1 f2 k2 m hjk hj hk=>?_,r.base⟩,rp⟩
 ·rw[juw]at hj;by_cases hij:i=j
  ·subst hij;rw[if_pos rfl,if_pos hi]at hj;cases hj;exact⟨_,hl,rp⟩
  ·rw[if_neg hij]at hj;obtain⟨v,e1,e2⟩:=r.dat j d hj;exact⟨v,e1,e2.mono kp⟩
 ·rw[juw]at hj;by_cases hij:i=j
  ·subst hij;rw[if_pos rfl,if_pos hi]at hj;cases hj
  ·rw[if_neg hij]at hj;obtain⟨l',e1,e2,e3,e4⟩:=r.own j o' f' k' hj;refine⟨l',e1,fun z=>z.elim e2 fun z=>?_,e3.mono kp rfl,e4⟩;subst z;exact r.one i j _ _ _ _ _ _ l' hij h hj hl e1
 ·rw[juw]at hj hk;by_cases h1:i=j
  ·subst h1;rw[if_pos rfl,if_pos hi]at hj;cases hj
  ·by_cases h2:i=jj
   ·subst h2;rw[if_pos rfl,if_pos hi]at hk;cases hk
   ·rw[if_neg h1]at hj;rw[if_neg h2]at hk;exact r.one j jj _ _ _ _ _ _ m hjk hj hk
theorem Go.frz {i:Nat}{o:O}{f:Bool}{l:Addr}{d:D}(h:ρ[i]?=some (.own o f false))(hl:σ[i]?=some (some (.ref l))):Go σ ρ F H σ (ρ.set i (.dat d)) (fun a=>F a\/a=l) H:=by
 refine⟨fun _ _ h _=>h,fun _ h=>.inl h,fun a q=>q.imp id fun (e:a=l)=>.inr ⟨i,o,f,h,by rw[e];exact hl⟩,fun j o' f' k' b h1 h2=>?_,fun _ o h=>⟨o,h⟩⟩
 rw[juw]at h1;by_cases e:i=j
 ·rw[if_pos e]at h1;split at h1 <;> cases h1
 ·rw[if_neg e]at h1;exact Go.self h1 h2
theorem SR.wr (r:SR Z B F H σ ρ){i:Nat}{o o':O}{f k:Bool}{l:Addr}{u:HO}(h:ρ[i]?=some (.own o f k))(hi:σ[i]?=some (some (.ref l)))(q:Keep F F H (upd H l u)->HasO Z F (upd H l u) l o')(k':Bool) :
  Keep F F H (upd H l u)/\SR Z B F (upd H l u) σ (ρ.set i (.own o' f k')):=by
 obtain⟨l',h1,h2,h3,h4⟩:=r.own i o f k h;rw[hi]at h1;cases h1;have kp:Keep F F H (upd H l u):=fun a q=>⟨q,jac fun z=>h2 (z ▸ q)⟩;have q:=q kp;have hlt:i < ρ.length:=(List.getElem?_eq_some_iff.mp h).1;refine⟨kp,fun a q=>?_,by simp[r.len],fun j d hj=>?_,fun j o1 f1 k1 hj=>?_,fun j jj o1 o2 f1 k1 f2 k2 m hjk hj hk=>?_,fun b hb=>r.base b (by
  unfold upd at hb;split at hb
  ·cases hb
  ·exact hb)⟩
 ·obtain⟨o,e⟩:=r.dom a q;exact⟨o,(kp a q).2.trans e⟩
 ·rw[juw]at hj;by_cases hij:i=j
  ·subst hij;rw[if_pos rfl,if_pos hlt]at hj;cases hj
  ·rw[if_neg hij]at hj;obtain⟨v,e1,e2⟩:=r.dat j d hj;exact⟨v,e1,e2.mono kp⟩
 ·rw[juw]at hj;by_cases hij:i=j
  ·subst hij;rw[if_pos rfl,if_pos hlt]at hj;cases hj;exact⟨l,hi,h2,q,h4⟩
  ·rw[if_neg hij]at hj;obtain⟨l',e1,e2,e3,e4⟩:=r.own j o1 f1 k1 hj;refine⟨l',e1,e2,e3.mono kp (jac fun z=>?_),e4⟩;subst z;exact r.one i j _ _ _ _ _ _ l' hij h hj hi e1
 ·have back:∀{j:Nat}{o1:O}{f1 k1:Bool},(ρ.set i (.own o' f k'))[j]?=some (.own o1 f1 k1)->∃o2 f2 k2,ρ[j]?=some (.own o2 f2 k2):=fun {j o1 f1 k1} hj=>by
   rw[juw]at hj;by_cases hij:i=j
   ·subst hij;exact⟨_,_,_,h⟩
   ·rw[if_neg hij]at hj;exact⟨_,_,_,hj⟩
  obtain⟨_,_,_,hj'⟩:=back hj;obtain⟨_,_,_,hk'⟩:=back hk;exact r.one j jj _ _ _ _ _ _ m hjk hj' hk'
theorem Go.wr {i:Nat}{o o':O}{f:Bool}{l:Addr}{u:HO}(h:ρ[i]?=some (.own o f false))(hi:σ[i]?=some (some (.ref l))):Go σ ρ F H σ (ρ.set i (.own o' f false)) F (upd H l u):=by
 have hm:Mb σ ρ l:=⟨i,o,f,h,hi⟩;refine⟨fun b w e n=>by rw[jac fun z=>n (by rw[z];exact hm)];exact e,fun _ h=>h,fun _ h=>.inl h,fun j o1 f1 k1 b h1 h2=>?_,fun b w e=>?_⟩
 ·rw[juw]at h1;by_cases e:i=j
  ·subst e;rw[if_pos rfl]at h1;split at h1
   ·cases h1;exact .inl ⟨o,false,h,h2,id⟩
   ·cases h1
  ·rw[if_neg e]at h1;exact Go.self h1 h2
 ·by_cases z:b=l
  ·exact⟨u,by rw[z];exact jak⟩
  ·exact⟨w,by rw[jac z];exact e⟩
theorem Go.lock {i:Nat}{o:O}{f k:Bool}(h:ρ[i]?=some (.own o f k)):Go σ ρ F H σ (ρ.set i (.own o f true)) F H:=by
 refine⟨fun _ _ h _=>h,fun _ h=>h,fun _ h=>.inl h,fun j o1 f1 k1 b h1 h2=>?_,fun _ o h=>⟨o,h⟩⟩;rw[juw]at h1;by_cases e:i=j
 ·subst e;rw[if_pos rfl]at h1;split at h1
  ·cases h1;exact .inl ⟨o,k,h,h2,fun _=>rfl⟩
  ·cases h1
 ·rw[if_neg e]at h1;exact Go.self h1 h2
theorem SR.lock (r:SR Z B F H σ ρ){i:Nat}{o:O}{f k:Bool}(h:ρ[i]?=some (.own o f k))(k':Bool):SR Z B F H σ (ρ.set i (.own o f k')):=by
 have back:∀{j:Nat}{o1:O}{f1 k1:Bool},(ρ.set i (.own o f k'))[j]?=some (.own o1 f1 k1)->∃k2,ρ[j]?=some (.own o1 f1 k2):=fun {j o1 f1 k1} hj=>by
  rw[juw]at hj;by_cases hij:i=j
  ·subst hij;rw[if_pos rfl]at hj;split at hj
   ·cases hj;exact⟨k,h⟩
   ·cases hj
  ·rw[if_neg hij]at hj;exact⟨_,hj⟩
 refine⟨r.dom,by simp[r.len],fun j d hj=>?_,fun j o1 f1 k1 hj=>?_,fun j jj o1 o2 f1 k1 f2 k2 m hjk hj hk=>?_,r.base⟩
 ·rw[juw]at hj;by_cases hij:i=j
  ·rw[if_pos hij]at hj;split at hj <;> cases hj
  ·rw[if_neg hij]at hj;exact r.dat j d hj
 ·obtain⟨k2,e⟩:=back hj;exact r.own j o1 f1 k2 e
 ·obtain⟨_,e1⟩:=back hj;obtain⟨_,e2⟩:=back hk;exact r.one j jj _ _ _ _ _ _ m hjk e1 e2
theorem SR.oth (r:SR Z B F H σ ρ){p:Addr}{u:HO}(h1:¬F p)(h2:¬Ow σ ρ p):Keep F F H (upd H p u)/\SR Z B F (upd H p u) σ ρ:=by
 have kp:Keep F F H (upd H p u):=fun a q=>⟨q,jac fun z=>h1 (z ▸ q)⟩;refine⟨kp,fun a q=>?_,r.len,fun j d hj=>?_,fun j o f k hj=>?_,r.one,fun b hb=>r.base b (by
  unfold upd at hb;split at hb
  ·cases hb
  ·exact hb)⟩
 ·obtain⟨u,e⟩:=r.dom a q;exact⟨u,(kp a q).2.trans e⟩
 ·obtain⟨v,e1,e2⟩:=r.dat j d hj;exact⟨v,e1,e2.mono kp⟩
 ·obtain⟨l',e1,e2,e3,e4⟩:=r.own j o f k hj;refine⟨l',e1,e2,e3.mono kp (jac fun z=>?_),e4⟩;subst z;exact h2 ⟨j,o,f,k,hj,e1⟩
end
end DJ
namespace DJ
open PySem PySem.Spec PyProof.Rows L2
theorem R.bind_assoc {α β γ:Type}(r:R α)(f:α->R β)(g:β->R γ):(r.bind f).bind g=r.bind fun a=>(f a).bind g:=by cases r <;> rfl
theorem R.bind_ok' {α β:Type}(a:α)(f:α->R β):(R.ok a).bind f=f a:=rfl
theorem R.bind_ok {α β:Type}{r:R α}{f:α->R β}{b:β}(h:r.bind f=.ok b):∃a,r=.ok a/\f a=.ok b:=by
 cases r with
 |ok a=>exact⟨a,rfl,h⟩
 |err c=>cases h
 |stk=>cases h
noncomputable def Ok {α:Type}(W:Nat->Prop)(r:R α)(Q:α->Prop):Prop:=match r with
 |.ok d=>Q d
 |.err c=>W c
 |.stk=>False
theorem Ok.bind {α β:Type}{W:Nat->Prop}{r:R α}{f:α->R β}{Q:β->Prop}(h:Ok W (r.bind f) Q):Ok W r fun a=>Ok W (f a) Q:=by
 cases r with
 |ok a=>exact h
 |err c=>exact h
 |stk=>exact h
theorem Ok.imp {α:Type}{W W':Nat->Prop}{r:R α}{Q Q':α->Prop}(h:Ok W r Q)(w:∀c,W c->W' c)(k:∀a,Q a->Q' a):Ok W' r Q':=by
 cases r with
 |ok a=>exact k a h
 |err c=>exact w c h
 |stk=>exact h
theorem Ok.pure {α:Type}{W:Nat->Prop}{r:R α}{Q:α->Prop}(h:Ok W r Q)(hn:∀c,r≠.err c):∃a,r=.ok a/\Q a:=by
 cases r with
 |ok a=>exact⟨a,rfl,h⟩
 |err c=>exact absurd rfl (hn c)
 |stk=>exact h.elim
structure FlyC (X:Cx)(pins:List (Addr×Obj))(ea:Addr)(cls:Value)(H':Hp)(s':Shared):Prop where
 ex:∃a0 B,FlyA B X.stack ea cls a0 s'.heap/\(∀b o,X.s₀.heap.get? b=some o->b ∉ frs X.stack->b ∉ X.ex->∃o',B.get? b=some o')/\(∀x c,X.fn x=true->X.env.cells.lookup x=some c->∃o',B.get? c=some o') /\
  (∀p∈X.pn++pins,∃o',B.get? p.1=some o')/\(∀a o,H' a=some o->∃o',B.get? a=some o')
 free:H' ea=none
structure Stl (σ:L2.St)(ρ:Rho)(H H':Hp):Prop where
 stay:∀b o,H b=some o->¬Mb σ ρ b->H' b=some o
 there:∀b o,H b=some o->∃o',H' b=some o'
noncomputable def XW (Z:Kn)(X:Cx)(σ:L2.St)(ρ:Rho)(H:Hp)(c:Nat):Prop:=∀(pins:List (Addr×Obj)) (H':Hp) (s':Shared) (ea C:Addr),Z.cl[c]?=some C->Inv X pins σ H' s'->Stl σ ρ H H'->FlyC X pins ea (.ref C) H' s'->X.xe (.ref ea) s'
theorem Stl.go {σ σ1:L2.St}{ρ ρ1:Rho}{F F1:Addr->Prop}{H H1 H2:Hp}(g:Go σ ρ F H σ1 ρ1 F1 H1)(s:Stl σ1 ρ1 H1 H2):Stl σ ρ H H2 where
 stay b o e n:=s.stay b o (g.stay b o e n) fun m=>by
  rcases g.mb m with q | q
  ·exact n q
  ·rw[e]at q;cases q
 there b o e:=by
  obtain⟨o1,e1⟩:=g.there b o e;exact s.there b o1 e1
theorem XW.mono {Z:Kn}{X:Cx}{σ:L2.St}{ρ ρ1:Rho}{F F1:Addr->Prop}{H H1:Hp}{c:Nat}(h:XW Z X σ ρ H c)(g:Go σ ρ F H σ ρ1 F1 H1):XW Z X σ ρ1 H1 c:=
 fun pins H' s' ea C e I q y=>h pins H' s' ea C e I (q.go g) y
noncomputable def RV (Z:Kn)(F':Addr->Prop)(H0 H':Hp)(σ:L2.St)(ρ':Rho):Vl->V->Prop
 |.dat d,v=>Rep Z F' H' d v
 |.tmp o,v=>∃l,v=.ref l/\¬F' l/\¬Ow σ ρ' l/\H0 l=none/\HasO Z F' H' l o
 |.slot i,v=>σ[i]?=some (some v)
noncomputable def Post (Z:Kn)(B:Bs)(σ:L2.St)(ρ:Rho)(F:Addr->Prop)(H:Hp)(Q:VK)(p:Vl×Rho):Prop:=∀v F' H',Go σ ρ F H σ p.2 F' H'->SR Z B F' H' σ p.2->RV Z F' H H' σ p.2 p.1 v->Q v H'
inductive tE_I (Z:Kn) (X:Cx) (B:Bs) (f:Rho->R (Vl×Rho)) (σ:L2.St) (H:L2.Hp) (Q:L2.VK):Prop
 |mk (F:_) (ρ:_):(SR Z B F H σ ρ)->(Ok (XW Z X σ ρ H) (f ρ) (Post Z B σ ρ F H Q))->tE_I Z X B f σ H Q
noncomputable def tE (Z:Kn)(X:Cx)(B:Bs)(f:Rho->R (Vl×Rho)):TE:=fun σ H Q=>tE_I Z X B f σ H Q
inductive tT_I (Z:Kn) (X:Cx) (B:Bs) (f:Rho->R (Bool×Rho)) (σ:L2.St) (H:L2.Hp) (Q:(Bool->L2.Hp->Prop)):Prop
 |mk (F:_) (ρ:_):(SR Z B F H σ ρ)->(Ok (XW Z X σ ρ H) (f ρ) fun p=>∀F' H',Go σ ρ F H σ p.2 F' H'->SR Z B F' H' σ p.2->Q p.1 H')->tT_I Z X B f σ H Q
noncomputable def tT (Z:Kn)(X:Cx)(B:Bs)(f:Rho->R (Bool×Rho)):TT:=fun σ H Q=>tT_I Z X B f σ H Q
theorem PE.imp {X:Cx}{e:Expr}{t t':TE}(h:PE X e t)(k:∀σ H Q,t' σ H Q->t σ H Q):PE X e t':=fun pins s σ H Q I q=>h pins s σ H Q I (k σ H Q q)
theorem PT.imp {X:Cx}{e:Expr}{t t':TT}(h:PT X e t)(k:∀σ H Q,t' σ H Q->t σ H Q):PT X e t':=fun pins s σ H Q I q=>h pins s σ H Q I (k σ H Q q)
theorem PI.imp {X:Cx}{tg e:Expr}{t t':TI}(h:PI X tg e t)(k:∀σ H R,t' σ H R->t σ H R):PI X tg e t':=fun pins s σ H R I q=>h pins s σ H R I (k σ H R q)
theorem PO.imp {X:Cx}{e:Option Expr}{t t':TO}(h:PO X e t)(k:∀σ H Q,t' σ H Q->t σ H Q):PO X e t':=fun pins s σ H Q I q=>h pins s σ H Q I (k σ H Q q)
theorem PS.imp {X:Cx}{e:Stmt}{t t':TS}(h:PS X e t)(k:∀D σ H,t' D σ H->t D σ H):PS X e t':=fun pins s σ H D I q=>h pins s σ H D I (k D σ H q)
theorem PSs.imp {X:Cx}{e:List Stmt}{t t':TS}(h:PSs X e t)(k:∀D σ H,t' D σ H->t D σ H):PSs X e t':=fun pins s σ H D I q=>h pins s σ H D I (k D σ H q)
section
variable {Z:Kn}{X:Cx}{B:Bs}{σ:L2.St}{ρ ρ1:Rho}{F F1:Addr->Prop}{H H1:Hp}
theorem tE.congr {f g:Rho->R (Vl×Rho)}(h:∀ρ,f ρ=g ρ):tE Z X B f=tE Z X B g:=by rw[show f=g from funext h]
theorem tT.congr {f g:Rho->R (Bool×Rho)}(h:∀ρ,f ρ=g ρ):tT Z X B f=tT Z X B g:=by rw[show f=g from funext h]
theorem Post.ext {Q:VK}{p:Vl×Rho}(h:Post Z B σ ρ F H Q p)(g:Go σ ρ F H σ ρ1 F1 H1):Post Z B σ ρ1 F1 H1 Q p:=fun v F' H' g' r' q=>by
 refine h v F' H' (g.trans g') r' ?_;obtain⟨w,ρ'⟩:=p;cases w with
 |dat d=>exact q
 |tmp o=>obtain⟨l,e,h1,h2,h3,h4⟩:=q;exact⟨l,e,h1,h2,g.free h3,h4⟩
 |slot i=>exact q
end
end DJ
namespace DJ
open PySem PySem.Spec PyProof.Rows L2
inductive TgsOk (X:Cx):List Expr->List Nat->Prop where
 |nil:TgsOk X [] []
 |cons {x:Str}{pos:Pos}{i:Nat}{es:List Expr}{is:List Nat}:X.N[i]?=some x->Loc X.env.scope x->(X.fn x=true\/X.env.scope.names.lookup x=some .local)->TgsOk X es is->TgsOk X (.Name x pos::es) (i::is)
inductive TgOk (X:Cx):Expr->List Nat->Bool->Prop where
 |one {x:Str}{pos:Pos}{i:Nat}:X.N[i]?=some x->Loc X.env.scope x->(X.fn x=true\/X.env.scope.names.lookup x=some .local)->TgOk X (.Name x pos) [i] true
 |many {es:List Expr}{k:Nat}{pos:Pos}{is:List Nat}:TgsOk X es is->TgOk X (.Tuple es k pos) is false
noncomputable def gNs:List Nat->TGs
 |[]=>jtB
 |i::is=>jqB (jn7 i) (gNs is)
noncomputable def jk9 (is:List Nat)(vs:List V)(σ:L2.St):L2.St:=(is.zip vs).foldl (fun r p=>r.set p.1 (some p.2)) σ
theorem jnB:∀{is:List Nat}{vs:List V}{σ:L2.St}{H:Hp}{Q:L2.St->Hp->Prop},is.length=vs.length->Q (jk9 is vs σ) H->gNs is vs σ H Q
 |[],[],_,_,_,_,q=>⟨rfl,q⟩
 |[],_::_,_,_,_,e,_=>by simp at e
 |_::_,[],_,_,_,e,_=>by simp at e
 |i::is,v::vs,σ,H,Q,e,q=>⟨v,vs,rfl,jnB (is:=is) (vs:=vs) (σ:=σ.set i (some v)) (H:=H) (Q:=Q) (by simpa using e) q⟩
theorem TgsOk.pgs {X:Cx}(nd:X.N.Nodup){es:List Expr}{is:List Nat}(h:TgsOk X es is):PGs X es (gNs is):=by
 induction h with
 |nil=>exact jn8
 |cons h1 h2 h3 _ ih=>exact jlj (jiW nd h1 h2 h3) ih
theorem TgsOk.lens {X:Cx}{es:List Expr}{is:List Nat}(h:TgsOk X es is):(assignEach es X.env).length=is.length/\(assignEach es X.env).findIdx? (·.1)=none:=by
 induction h with
 |nil=>exact⟨rfl,rfl⟩
 |@cons x pos i es is _ _ _ _ ih=>
  have e:assignEach (Expr.Name x pos::es) X.env=(false,assign (.Name x pos) X.env)::assignEach es X.env:=rfl;rw[e];refine⟨by simp[ih.1],?_⟩
  rw[List.findIdx?_cons];simp[ih.2]
section
variable {Z:Kn}{B:Bs}{F:Addr->Prop}{H:Hp}
theorem SR.putN:∀{is:List Nat}{ds:List D}{vs:List V}{σ:L2.St}{ρ:Rho},SR Z B F H σ ρ->Reps Z F H ds vs ->
  SR Z B F H (jk9 is vs σ) ((is.zip ds).foldl (fun r p=>r.set p.1 (.dat p.2)) ρ)/\Go σ ρ F H (jk9 is vs σ) ((is.zip ds).foldl (fun r p=>r.set p.1 (.dat p.2)) ρ) F H
 |[],_,_,_,_,r,_=>by simpa[jk9] using⟨r,Go.refl⟩
 |_::_,[],vs,_,_,r,h=>by
  simp only[Reps]at h;subst h;simpa[jk9] using⟨r,Go.refl⟩
 |i::is,d::ds,vs,σ,ρ,r,h=>by
  simp only[Reps]at h;obtain⟨v,us,rfl,h1,h2⟩:=h;simp only[jk9,List.zip_cons_cons,List.foldl_cons];obtain⟨a,b⟩:=SR.putN (is:=is) (r.put (i:=i) h1) h2;exact⟨a,Go.put.trans b⟩
end
theorem jgW:∀{is:List Nat}{vs:List V}{σ:L2.St}{j:Nat},j ∉ is->(jk9 is vs σ)[j]?=σ[j]?
 |[],_,_,_,_=>by simp[jk9]
 |_::_,[],_,_,_=>by simp[jk9]
 |i::is,v::vs,σ,j,h=>by
  simp only[juu,not_or]at h;have:=jgW (is:=is) (vs:=vs) (σ:=σ.set i (some v)) h.2;simp only[jk9,List.zip_cons_cons,List.foldl_cons]at this ⊢;rw[this,juJ (Ne.symm h.1)]
theorem jud {Z:Kn}{X:Cx}{tg:Expr}{tgs:List Nat}{one:Bool}(hZ:X.K=Z.K)(hc:one=false->X.calm=true)(nd:X.N.Nodup)(T:TgOk X tg tgs one){pins:List (Addr×Obj)}{s:Shared}{σ:L2.St}{ρ ρ':Rho}{B:Bs}{F:Addr->Prop}{H:Hp}{d:D}{v:V}{u:Value}
  (I:Inv X pins σ H s) (r:SR Z B F H σ ρ) (rp:Rep Z F H d v) (rv:RelV v u) (hp:putT tgs one d ρ=.ok ρ') :
  wpAny (model X.prog X.w) X.A (assign tg X.env u) (fun _ s'=>∃σ',Inv X pins σ' H s'/\SR Z B F H σ' ρ'/\Go σ ρ F H σ' ρ' F H/\∀i:Nat,i ∉ tgs->σ'[i]?=σ[i]?) X.xe s:=by
 cases T with
 |@one x pos i h1 h2 h3=>
  simp only[putT]at hp;cases hp;refine thn (jiW nd h1 h2 h3 pins s σ H v u (fun σ' H'=>(SR Z B F H σ' (ρ.set i (.dat d))/\Go σ ρ F H σ' (ρ.set i (.dat d)) F H/\∀j:Nat,j ∉ [i]->σ'[j]?=σ[j]?)/\H'=H) I rv ⟨⟨r.put rp,Go.put,fun j hj=>juJ (fun z=>hj (by simp[z]))⟩,rfl⟩) fun _ s' ⟨σ',H',I',q,e⟩=>?_
  subst e;exact⟨σ',I',q⟩
 |many h=>
  cases d with
  |tup ds=>
   simp only[putT]at hp;split at hp
   ·rename_i hl;cases hp;simp only[Rep]at rp;obtain⟨a,vs,rfl,ft,rs⟩:=rp;have hvl:vs.length=tgs.length:=by rw[hl,rs.length]
    refine thn (jqC (n:=tgs.length) (hc rfl) (h.pgs nd) h.lens.1 h.lens.2 pins s σ H (.ref a) u (fun σ' H'=>(SR Z B F H σ' ((tgs.zip ds).foldl (fun r p=>r.set p.1 (.dat p.2)) ρ)/\Go σ ρ F H σ' ((tgs.zip ds).foldl (fun r p=>r.set p.1 (.dat p.2)) ρ) F H/\∀j:Nat,j ∉ tgs->σ'[j]?=σ[j]?)/\H'=H) I rv ⟨a,vs,rfl,(by rw[hZ];exact ft.sq),hvl,jnB hvl.symm ⟨⟨(r.putN rs).1,(r.putN rs).2,fun j hj=>jgW hj⟩,rfl⟩⟩) fun _ s' hzz=>?_
    obtain⟨σ',H',I',q,e⟩:=hzz;subst e;exact⟨σ',I',q⟩
   ·cases hp
  |_=>simp only[putT]at hp <;> cases hp
structure GK (F0:Addr->Prop)(H0:Hp)(ls:List Addr)(F:Addr->Prop)(H:Hp):Prop where
 keep:Keep F0 F H0 H
 ls:∀l∈ls,H l=H0 l
theorem GK.refl {F0:Addr->Prop}{H0:Hp}{ls:List Addr}:GK F0 H0 ls F0 H0:=⟨Keep.refl,fun _ _=>rfl⟩
theorem GK.ext {F0 F F1:Addr->Prop}{H0 H H1:Hp}{ls:List Addr}(g:GK F0 H0 ls F H)(d:Dom F H)(hl:∀l∈ls,∃o,H0 l=some o)(e:Ext F H F1 H1):GK F0 H0 ls F1 H1:=
 ⟨g.keep.trans (e.keep d),fun l h=>by
  obtain⟨o,q⟩:=hl l h;rw[e.same l o ((g.ls l h).trans q),q]⟩
theorem GK.go {Z:Kn}{B:Bs}{F0 F F1:Addr->Prop}{H0 H H1:Hp}{ls:List Addr}{σ σ1:L2.St}{ρ ρ1:Rho}(g:GK F0 H0 ls F H)(hl:∀l∈ls,∃o,H0 l=some o)(r:SR Z B F H σ ρ)(e:Go σ ρ F H σ1 ρ1 F1 H1)(hm:∀l∈ls,¬Mb σ ρ l):GK F0 H0 ls F1 H1:=
 ⟨g.keep.trans (e.keep r),fun l h=>by
  obtain⟨o,q⟩:=hl l h;rw[e.stay l o ((g.ls l h).trans q) (hm l h),q]⟩
noncomputable def ItmG (Z:Kn)(G:(Addr->Prop)->Hp->Prop)(J:L2.It)(xs:List D):Prop:=xs.length<=sizeLine/\∀F H,G F H->Dom F H ->
 (∀(i:Nat) (x:D),xs[i]?=some x->J.go i H/\∀v H2,J.yld i H v H2->∃F2,Ext F H F2 H2/\Rep Z F2 H2 x v)/\J.stop xs.length H
structure Wk (P:Program)(w:World)(Z:Kn)(tg:Expr)(F0:Addr->Prop)(H0:Hp)(ls:List Addr)(xs:List D)(fp:List Addr)(it:Addr)(tn:Nat->Heap->Prop):Prop where
 mem:it∈fp
 len:xs.length<=sizeLine
 lst:∀l∈ls,∃o,H0 l=some o
 obj:∀i h,tn i h->∀b∈fp,∃o,h.get? b=some o/\∀v,o.data≠.cell v
 keep:∀i h h',tn i h->(∀b∈fp,∀o,h.get? b=some o->h'.get? b=some o)->tn i h'
 self:∀(A:Around) (i:Nat) (s:Shared) (Q:Value->Shared->Prop) (E:Value->Shared->Prop),tn i s.heap->Q (.ref it) s->wpAny (model P w) A (pyIter (.ref it)) Q E s
 take:∀(X:Cx),X.prog=P->X.w=w->X.K=Z.K->X.calm=true->X.N.Nodup->∀tgs one,TgOk X tg tgs one ->
  ∀(i:Nat) (pins:List (Addr×Obj)) (s:Shared) (σ:L2.St) (ρ ρ':Rho) (B:Bs) (F:Addr->Prop) (H:Hp) (x:D),Inv X pins σ H s->SR Z B F H σ ρ->GK F0 H0 ls F H->(∀b∈fp,FpOk X pins H b)->tn i s.heap->xs[i]?=some x->putT tgs one x ρ=.ok ρ' ->
  wpAny (model P w) X.A (pyNext (.ref it)) (fun r s1=>∃u,r=some u/\wpAny (model P w) X.A (letOwnedTupleGo tg (.ref it) u) (fun _ s2=>wpAny (model P w) X.A (assign tg X.env u)
   (fun _ s3=>∃σ3 F3 H3,Inv X pins σ3 H3 s3/\SR Z B F3 H3 σ3 ρ'/\Go σ ρ F H σ3 ρ' F3 H3/\GK F0 H0 ls F3 H3/\tn (i + 1) s3.heap/\(∀b∈fp,H3 b=none)/\∀j:Nat,j ∉ tgs->σ3[j]?=σ[j]?) X.xe s2) X.xe s1) X.xe s
 done:∀(X:Cx),X.prog=P->X.w=w->X.K=Z.K->X.calm=true->∀(pins:List (Addr×Obj)) (s:Shared) (σ:L2.St) (F:Addr->Prop) (H:Hp),Inv X pins σ H s->Dom F H->GK F0 H0 ls F H->(∀b∈fp,FpOk X pins H b)->tn xs.length s.heap ->
  wpAny (model P w) X.A (pyNext (.ref it)) (fun r s1=>r=none/\Inv X pins σ H s1) X.xe s
theorem ItmG.wk {P:Program}{w:World}{Z:Kn}{K:Frag}{tg:Expr}{F0:Addr->Prop}{H0:Hp}{ls:List Addr}{J:L2.It}{xs:List D}{fp:List Addr}{it:Addr}{tn:Nat->Heap->Prop}(h:ItmG Z (GK F0 H0 ls) J xs)(hK:K=Z.K)(hl:∀l∈ls,∃o,H0 l=some o)(T:Turn P w K tg J fp it tn):Wk P w Z tg F0 H0 ls xs fp it tn where
 mem:=T.mem
 len:=h.1
 lst:=hl
 obj:=T.obj
 keep:=T.keep
 self:=T.self
 done:=fun X h1 h2 h3 hc pins s σ F H I dm g fo st=>T.done X h1 h2 (h3.trans hK.symm) hc _ pins s σ H X.xe I fo st (h.2 F H g dm).2
 take:=by
  intro X h1 h2 h3 hc nd tgs one tk i pins s σ ρ ρ' B F H x I r g fo st hx hp;obtain⟨g1,g2⟩:=(h.2 F H g r.dom).1 i x hx;refine thn (T.item X h1 h2 (h3.trans hK.symm) hc i pins s σ H X.xe I fo st g1) fun o s1 hz=>?_;obtain⟨u,ho,h⟩:=hz;refine⟨u,ho,thn h fun _ s2 hz=>?_⟩;obtain⟨v,H2,I2,rv,y,st2,fr2⟩:=hz;obtain⟨F2,ex,rp⟩:=g2 v H2 y;subst h1 h2;have fo2:∀b∈fp,FpOk X pins H2 b:=fun b hb=>⟨fr2 b hb,(fo b hb).2⟩;have I2':=I2.pinned fo2 (T.obj _ _ st2);refine thn (jud h3 (fun _=>hc) nd tk I2' (r.ext ex) rp rv hp) fun _ s3 hzz=>?_;obtain⟨σ3,I3,r3,g3,ho3⟩:=hzz;refine⟨σ3,F2,H2,I3.unpinned,r3,ex.go.trans g3,g.ext r.dom hl ex,T.keep _ _ _ st2 fun b hb o e=>(I3.pin (b,o) (juC _ (juC _ (jbe hb e)))).1,fr2,ho3⟩
section
variable {K:Frag}{F F':Addr->Prop}{H H':Hp}
theorem FL.keep {a:Addr}{xs:List V}(k:Keep F F' H H')(h:FL K F H a xs):FL K F' H' a xs:=h.imp k.rd id
theorem FT.keep {a:Addr}{xs:List V}(k:Keep F F' H H')(h:FT K F H a xs):FT K F' H' a xs:=h.imp k.rd id
end
theorem jl2 {Z:Kn}{G:(Addr->Prop)->Hp->Prop}{xs:List D}{vs:List V}{a:Addr}(len:xs.length<=sizeLine)(hG:∀F H,G F H->Dom F H->SqL Z.K H a vs/\Reps Z F H xs vs):ItmG Z G (Itl Z.K a) xs:=
 ⟨len,fun F H g dm=>by
  obtain⟨q,r⟩:=hG F H g dm;refine⟨fun i x hx=>?_,⟨vs,q,by rw[r.length];exact ju7 _⟩⟩
  obtain⟨v,e,rp⟩:=r.get hx;refine⟨⟨vs,v,q,e⟩,fun u H2 y=>?_⟩;obtain⟨rfl,y⟩:=y;have:=y vs q;rw[e]at this;cases this;exact⟨F,Ext.refl dm,rp⟩⟩
theorem joN {Z:Kn}{G:(Addr->Prop)->Hp->Prop}{xs:List D}{vs:List V}{a:Addr}(len:xs.length<=sizeLine)(hG:∀F H,G F H->Dom F H->SqT Z.K H a vs/\Reps Z F H xs vs):ItmG Z G (Itt Z.K a) xs:=
 ⟨len,fun F H g dm=>by
  obtain⟨q,r⟩:=hG F H g dm;refine⟨fun i x hx=>?_,⟨vs,q,by rw[r.length];exact ju7 _⟩⟩
  obtain⟨v,e,rp⟩:=r.get hx;refine⟨⟨vs,v,q,e⟩,fun u H2 y=>?_⟩;obtain⟨rfl,y⟩:=y;have:=y vs q;rw[e]at this;cases this;exact⟨F,Ext.refl dm,rp⟩⟩
theorem joO (lo:Int)(n:Nat):(joL lo n).length=n:=by unfold joL;rw[juA,List.length_range]
theorem joP {Z:Kn}{G:(Addr->Prop)->Hp->Prop}{lo:Int}{n:Nat}(hn:n<=sizeLine):ItmG Z G (Itr lo n) (joL lo n):=by
 have hl:=joO lo n;refine⟨by rw[hl];exact hn,fun F H g dm=>⟨fun i x hx=>?_,by rw[hl];exact ju7 n⟩⟩
 unfold joL at hx;rw[jux]at hx;cases e:(List.range n)[i]? with
 |none=>rw[e]at hx;cases hx
 |some k=>
  rw[e]at hx;obtain⟨h1,h2⟩:=List.getElem?_eq_some_iff.mp e;rw[List.length_range]at h1;rw[List.getElem_range]at h2;subst h2;cases hx;refine⟨h1,fun u H2 y=>?_⟩;obtain⟨rfl,rfl⟩:=y;exact⟨F,Ext.refl dm,by simp only[Rep]⟩
end DJ
namespace DJ
open PySem PySem.Spec PyProof.Rows L2
noncomputable def RepB (Z:Kn)(F:Addr->Prop)(H:Hp)(d:D)(v:V):Prop:=Rep Z F H d v\/∃l o,v=.ref l/\d=o.toD/\HasO Z F H l o
section
variable {Z:Kn}{X:Cx}{B:Bs}{σ:L2.St}{ρ ρ1 ρ2:Rho}{F F1 F2:Addr->Prop}{H H0 H1 H2:Hp}{w:Vl}{v:V}
theorem RV.go (h:RV Z F1 H0 H1 σ ρ1 w v)(r:SR Z B F1 H1 σ ρ1)(g:Go σ ρ1 F1 H1 σ ρ2 F2 H2):RV Z F2 H0 H2 σ ρ2 w v:=by
 cases w with
 |dat d=>exact Rep.mono (g.keep r) h
 |tmp o=>
  obtain⟨l,e,h1,h2,h3,h4⟩:=h;obtain⟨u,hu⟩:=h4.some;obtain⟨a,b,c⟩:=g.side hu h1 h2;exact⟨l,e,b,c,h3,h4.mono (g.keep r) (a.trans hu.symm)⟩
 |slot i=>exact h
theorem RV.base (h:RV Z F1 H0 H1 σ ρ1 w v)(k:∀l,H0 l=none->H l=none):RV Z F1 H H1 σ ρ1 w v:=by
 cases w with
 |dat d=>exact h
 |tmp o=>obtain⟨l,e,h1,h2,h3,h4⟩:=h;exact⟨l,e,h1,h2,k l h3,h4⟩
 |slot i=>exact h
theorem jaY {d:D}(h:RV Z F1 H0 H1 σ ρ1 w v)(r:SR Z B F1 H1 σ ρ1)(hd:deref w ρ1=.ok d):RepB Z F1 H1 d v:=by
 cases w with
 |dat d'=>cases hd;exact .inl h
 |tmp o=>cases hd;obtain⟨l,e,_,_,_,h4⟩:=h;exact .inr ⟨l,o,e,rfl,h4⟩
 |slot i=>
  simp only[deref]at hd;split at hd
  ·rename_i o f k e;cases hd;obtain⟨l,e1,_,e3,_⟩:=r.own i o f k e;have h:σ[i]?=some (some v):=h;rw[h]at e1;cases e1;exact .inr ⟨l,o,rfl,rfl,e3⟩
  ·cases hd
theorem jaC {c:Nat}:deref w ρ1≠.err c:=by
 cases w with
 |dat d=>intro z;cases z
 |tmp o=>intro z;cases z
 |slot i=>
  simp only[deref];split <;> (intro z;cases z)
theorem O.rep {l:Addr}{o:O}(h:HasO Z F H l o)(hF:F l):Rep Z F H o.toD (.ref l):=by
 cases o with
 |l xs=>
  obtain⟨vs,e,q⟩:=h;simp only[O.toD,Rep];exact⟨l,vs,rfl,.inl ⟨hF,.inl e⟩,q⟩
 |d ks vs=>
  obtain⟨e1,e2,e3⟩:=h;simp only[O.toD,Rep];exact⟨l,rfl,hF,e1,e2,e3⟩
theorem SR.frzT (r:SR Z B F1 H1 σ ρ1){l:Addr}{o:O}(hO:¬Ow σ ρ1 l)(h:HasO Z F1 H1 l o):SR Z B (fun a=>F1 a\/a=l) H1 σ ρ1/\Rep Z (fun a=>F1 a\/a=l) H1 o.toD (.ref l):=by
 have kp:Keep F1 (fun a=>F1 a\/a=l) H1 H1:=fun a q=>⟨.inl q,rfl⟩;refine⟨⟨fun a q=>q.elim (r.dom a) fun (e:a=l)=>by rw[e];exact h.some,r.len,fun i d e=>let ⟨v,e1,e2⟩:=r.dat i d e;⟨v,e1,e2.mono kp⟩,fun i o f k e=>?_,r.one,r.base⟩,O.rep (h.mono kp rfl) (.inr rfl)⟩
 obtain⟨l',e1,e2,e3,e4⟩:=r.own i o f k e;refine⟨l',e1,fun z=>z.elim e2 fun z=>?_,e3.mono kp rfl,e4⟩;subst z;exact hO ⟨i,o,f,k,e,e1⟩
theorem Go.frzT (g:Go σ ρ F H σ ρ1 F1 H1){l:Addr}(hn:H l=none):Go σ ρ F H σ ρ1 (fun a=>F1 a\/a=l) H1:=
 ⟨g.stay,fun a h=>.inl (g.sub a h),fun a h=>h.elim (g.new a) fun (e:a=l)=>.inr (.inl (by rw[e];exact hn)),g.ow,g.there⟩
theorem jgX {d:D}(h:RV Z F1 H H1 σ ρ1 w v)(r:SR Z B F1 H1 σ ρ1)(g:Go σ ρ F H σ ρ1 F1 H1)(hd:toD w ρ1=.ok (d,ρ2)):∃F2,Go σ ρ F H σ ρ2 F2 H1/\SR Z B F2 H1 σ ρ2/\Rep Z F2 H1 d v/\Keep F1 F2 H1 H1:=by
 cases w with
 |dat d'=>cases hd;exact⟨F1,g,r,h,Keep.refl⟩
 |tmp o=>
  cases hd;obtain⟨l,rfl,h1,h2,h3,h4⟩:=h;obtain⟨a,b⟩:=r.frzT h2 h4;exact⟨_,g.frzT h3,a,b,fun a q=>⟨.inl q,rfl⟩⟩
 |slot i=>
  have h:σ[i]?=some (some v):=h;simp only[toD]at hd;split at hd
  ·rename_i o e;cases hd;obtain⟨l,e1,_⟩:=r.own i o _ _ e;rw[h]at e1;cases e1;obtain⟨a,b,c⟩:=r.frz e h;exact⟨_,g.trans (Go.frz e h),b,c,a⟩
  ·cases hd
theorem jcT {c:Nat}:toD w ρ1≠.err c:=by
 cases w with
 |dat d=>intro z;cases z
 |tmp o=>intro z;cases z
 |slot i=>
  simp only[toD];split <;> (intro z;cases z)
end
section
variable {Z:Kn}{F F1:Addr->Prop}{H H1:Hp}{x:V}
theorem RepB.flat {d:D}(h:RepB Z F H d x)(hd:∀o:O,d≠o.toD):Rep Z F H d x:=by
 rcases h with h | ⟨_,o,_,e,_⟩
 ·exact h
 ·exact absurd e (hd o)
theorem RepB.int {i:Int}(h:RepB Z F H (.int i) x):x=.int i:=by have:=h.flat (fun o z=>by cases o <;> cases z);simpa only[Rep] using this
theorem RepB.bl {b:Bool}(h:RepB Z F H (.bl b) x):x=.bl b:=by have:=h.flat (fun o z=>by cases o <;> cases z);simpa only[Rep] using this
theorem RepB.str {s:Str}(h:RepB Z F H (.str s) x):x=.str s:=by have:=h.flat (fun o z=>by cases o <;> cases z);simpa only[Rep] using this
theorem RepB.non (h:RepB Z F H .non x):x=.non:=by have:=h.flat (fun o z=>by cases o <;> cases z);simpa only[Rep] using this
theorem RepB.tup {ds:List D}(h:RepB Z F H (.tup ds) x):∃a vs,x=.ref a/\FT Z.K F H a vs/\Reps Z F H ds vs:=by have:=h.flat (fun o z=>by cases o <;> cases z);simpa only[Rep] using this
theorem RepB.lst {ds:List D}(h:RepB Z F H (.lst ds) x):∃a vs,x=.ref a/\SqL Z.K H a vs/\Reps Z F H ds vs:=by
 rcases h with h | ⟨l,o,e1,e2,e3⟩
 ·simp only[Rep]at h;obtain⟨a,vs,e,q,r⟩:=h;exact⟨a,vs,e,q.sq,r⟩
 ·cases o with
  |l xs=>
   cases e2;obtain⟨vs,e,q⟩:=e3;exact⟨l,vs,e1,SqL.of e,q⟩
  |d ks vs=>cases e2
theorem RepB.dct {ks vs:List D}(h:RepB Z F H (.dct ks vs) x):∃a,x=.ref a/\ks=[]/\vs=[]/\H a=some (.dK []):=by
 rcases h with h | ⟨l,o,e1,e2,e3⟩
 ·simp only[Rep]at h;obtain⟨a,e,_,h1,h2,h3⟩:=h;exact⟨a,e,h1,h2,h3⟩
 ·cases o with
  |l xs=>cases e2
  |d ks' vs'=>cases e2;exact⟨l,e1,e3⟩
theorem jcU {d:D}{xs:List D}(h:RepB Z F H d x)(hs:jaU d=.ok xs):∃p vs,x=.ref p/\(SqL Z.K H p vs\/SqT Z.K H p vs)/\Reps Z F H xs vs:=by
 cases d with
 |tup ds=>cases hs;obtain⟨a,vs,e,ft,r⟩:=h.tup;exact⟨a,vs,e,.inr ft.sq,r⟩
 |lst ds=>cases hs;obtain⟨a,vs,e,ft,r⟩:=h.lst;exact⟨a,vs,e,.inl ft,r⟩
 |_=>cases hs
end
noncomputable def PostV (Z:Kn)(F:Addr->Prop)(H:Hp)(Q:VK)(w:Vl):Prop:=∀v F' H',Ext F H F' H'->(∀σ ρ B,SR Z B F H σ ρ->RV Z F' H H' σ ρ w v)->Q v H'
section
variable {Z:Kn}{B:Bs}{σ:L2.St}{ρ:Rho}{F:Addr->Prop}{H:Hp}{Q:VK}
theorem PostV.sc {d:D}{v:V}(h:PostV Z F H Q (.dat d))(dm:Dom F H)(r:Rep Z F H d v):Q v H:=h v F H (Ext.refl dm) fun _ _ _ _=>r
theorem PostV.int {i:Int}(h:PostV Z F H Q (.dat (.int i)))(dm:Dom F H):Q (.int i) H:=h.sc dm (by simp only[Rep])
theorem PostV.bl {i:Bool}(h:PostV Z F H Q (.dat (.bl i)))(dm:Dom F H):Q (.bl i) H:=h.sc dm (by simp only[Rep])
theorem PostV.tupOld {ds:List D}{a:Addr}{vs:List V}(h:PostV Z F H Q (.dat (.tup ds)))(dm:Dom F H)(f:FT Z.K F H a vs)(r:Reps Z F H ds vs):Q (.ref a) H:=h.sc dm (by simp only[Rep];exact⟨a,vs,rfl,f,r⟩)
theorem PostV.tup {ds:List D}{vs:List V}(h:PostV Z F H Q (.dat (.tup ds)))(dm:Dom F H)(r:Reps Z F H ds vs):∀p,H p=none->Q (.ref p) (upd H p (.tup vs)):=fun p hp=>by
 have ex:=Ext.newF (o:=.tup vs) dm hp;refine h _ _ _ ex fun _ _ _ _=>?_;show Rep _ _ _ _ _;simp only[Rep];exact⟨p,vs,rfl,.inl ⟨.inr rfl,.inl jak⟩,r.mono (ex.keep dm)⟩
theorem PostV.lst {ds:List D}{vs:List V}(h:PostV Z F H Q (.tmp (.l ds)))(dm:Dom F H)(r:Reps Z F H ds vs):∀p,H p=none->Q (.ref p) (upd H p (.lst vs)):=fun p hp=>by
 have ex:=Ext.newO (o:=.lst vs) dm hp;refine h _ _ _ ex fun σ ρ B sr=>⟨p,rfl,fun z=>?_,fun z=>?_,hp,vs,jak,r.mono (ex.keep dm)⟩
 ·obtain⟨o,e⟩:=dm p z;rw[hp]at e;cases e
 ·obtain⟨u,e⟩:=sr.there z;rw[hp]at e;cases e
end
theorem Post.toV {Z:Kn}{B:Bs}{σ:L2.St}{ρ ρ1:Rho}{F F1:Addr->Prop}{H H1:Hp}{Q:VK}{w:Vl}(h:Post Z B σ ρ F H Q (w,ρ1))(g:Go σ ρ F H σ ρ1 F1 H1)(r:SR Z B F1 H1 σ ρ1)(hw:∀i,w≠.slot i):PostV Z F1 H1 Q w:=fun v F' H' e q=>by
 refine h v F' H' (g.trans e.go) (r.ext e) ?_;exact(q σ ρ1 B r).base fun l z=>g.free z
inductive rD2_I (Z:Kn) (g:D->D->R Vl) (x:L2.V) (y:L2.V) (H:L2.Hp) (Q:L2.VK):Prop
 |mk (F:_) (dx:_) (dy:_) (w:_):(Dom F H)->(RepB Z F H dx x)->(RepB Z F H dy y)->(g dx dy=.ok w)->(PostV Z F H Q w)->rD2_I Z g x y H Q
noncomputable def rD2 (Z:Kn)(g:D->D->R Vl):R2:=fun x y H Q=>rD2_I Z g x y H Q
inductive rD1_I (Z:Kn) (g:D->R Vl) (x:V) (H:Hp) (Q:VK):Prop
 |mk (F:_) (dx:_) (w:_):(Dom F H)->(RepB Z F H dx x)->(g dx=.ok w)->(PostV Z F H Q w)->rD1_I Z g x H Q
noncomputable def rD1 (Z:Kn)(g:D->R Vl):V->Hp->VK->Prop:=fun x H Q=>rD1_I Z g x H Q
section
variable {Z:Kn}{X:Cx}{B:Bs}{σ:L2.St}{H:Hp}{Q:VK}
theorem tE.two {fa fb:Rho->R (Vl×Rho)}{g:D->D->R Vl}(hg:∀x y c,g x y≠.err c)(hs:∀x y i,g x y≠.ok (.slot i))
  (h:tE Z X B (fun ρ=>(fa ρ).bind fun p=>(fb p.2).bind fun q=>(deref p.1 q.2).bind fun x=>(deref q.1 q.2).bind fun y=>(g x y).bind fun v=>.ok (v,q.2)) σ H Q) :
  tOp (rD2 Z g) (tE Z X B fa) (tE Z X B fb) σ H Q:=by
 obtain⟨F,ρ,r,h⟩:=h;refine⟨F,ρ,r,h.bind.imp (fun _ w=>w) fun p h1 v F1 H1 g1 r1 q1=>⟨F1,p.2,r1,h1.bind.imp (fun c w=>w.mono g1) fun q h2 u F2 H2 g2 r2 q2=>?_⟩⟩;obtain⟨x,ex,h3⟩:=h2.bind.pure fun c=>jaC;obtain⟨y,ey,h4⟩:=h3.bind.pure fun c=>jaC;obtain⟨w,ew,h5⟩:=h4.bind.pure fun c=>hg x y c;have g12:=g1.trans g2;exact⟨F2,x,y,w,r2.dom,jaY (q1.go r1 g2) r2 ex,jaY q2 r2 ey,ew,Post.toV h5 g12 r2 fun i z=>hs x y i (by rw[ew,z])⟩
theorem tE.one {fa:Rho->R (Vl×Rho)}{g:D->R Vl}(hg:∀x c,g x≠.err c)(hs:∀x i,g x≠.ok (.slot i))(h:tE Z X B (fun ρ=>(fa ρ).bind fun p=>(deref p.1 p.2).bind fun x=>(g x).bind fun v=>.ok (v,p.2)) σ H Q):tUn (rD1 Z g) (tE Z X B fa) σ H Q:=by
 obtain⟨F,ρ,r,h⟩:=h;refine⟨F,ρ,r,h.bind.imp (fun _ w=>w) fun p h1 v F1 H1 g1 r1 q1=>?_⟩;obtain⟨x,ex,h3⟩:=h1.bind.pure fun c=>jaC;obtain⟨w,ew,h5⟩:=h3.bind.pure fun c=>hg x c;exact⟨F1,x,w,r1.dom,jaY q1 r1 ex,ew,Post.toV h5 g1 r1 fun i z=>hs x i (by rw[ew,z])⟩
end
end DJ
namespace DJ
open PySem PySem.Spec PyProof.Rows L2
noncomputable def jhY (env:Env):List (Str×NameKind)->List (Str×Addr)->List (Str×Addr)
 |[],cs=>cs
 |(n,k)::r,cs=>jhY env r (if k == .free then (n,(env.cells.lookup n).getD 0)::cs else cs)
theorem joQ {env:Env}:∀(names:List (Str×NameKind)) (cs:List (Str×Addr)),(∀x∈names,x.2=.free->∃c,env.cells.lookup x.1=some c) ->
  (forIn names cs fun (x:Str×NameKind) (cs:List (Str×Addr))=>(match x with
   |(name,kind)=>if (kind == NameKind.free)=true then (do let a <-cellOf env name;pure (ForInStep.yield ((name,a)::cs)))else pure (ForInStep.yield cs):Sem (ForInStep (List (Str×Addr)))))=(pure (jhY env names cs):Sem _):=by
 intro names;induction names with
 |nil=>intro cs _;rfl
 |cons x r ih=>
  intro cs h;obtain⟨n,k⟩:=x;rw[List.forIn_cons];have ih':=fun cs=>ih cs fun x hx=>h x (jus _ hx);by_cases hk:(k == NameKind.free)=true
  ·obtain⟨c,hc⟩:=h (n,k) jut (by simpa using hk)
   have e1:cellOf env n=pure c:=by
    have hc:env.cells.lookup n=some c:=hc;unfold cellOf;rw[hc]
   simp only[hk,if_true,e1];have hc:env.cells.lookup n=some c:=hc;simp only[jhY,hk,if_true,hc,Option.getD_some];exact ih' _
  ·simp only[hk,jhY];exact ih' _
theorem jjF {scope:Scope}{env:Env}(h:∀x∈scope.names,x.2=.free->∃c,env.cells.lookup x.1=some c):closureFor scope env=pure (jhY env scope.names []):=by
 have:=joQ scope.names [] h;unfold closureFor;simp only;rw[this];rfl
theorem jbv {env:Env}:∀(names:List (Str×NameKind)) (cs:List (Str×Addr)),(∀x∈names,x.2=.free->∃c,env.cells.lookup x.1=some c)->(∀n c,cs.lookup n=some c->env.cells.lookup n=some c) ->
  ∀n c,(jhY env names cs).lookup n=some c->env.cells.lookup n=some c
 |[],_,_,h2,n,c,e=>h2 n c e
 |(y,k)::r,cs,h1,h2,n,c,e=>by
  refine jbv r _ (fun x hx=>h1 x (jus _ hx)) (fun m b q=>?_) n c e;by_cases hk:(k == NameKind.free)=true
  ·rw[if_pos hk]at q;obtain⟨b',hb⟩:=h1 (y,k) jut (by simpa using hk)
   have hb:env.cells.lookup y=some b':=hb;rw[hb,List.lookup_cons]at q;by_cases e:m=y
   ·subst e;simp at q;subst q;exact hb
   ·have:(m == y)=false:=by simpa using e
    rw[this]at q;exact h2 m b q
  ·rw[if_neg hk]at q;exact h2 m b q
theorem jd9 {env:Env}:∀(names:List (Str×NameKind)) (cs:List (Str×Addr)) (n:Str),(∃c,cs.lookup n=some c)\/(n,NameKind.free)∈names->∃c,(jhY env names cs).lookup n=some c
 |[],cs,n,h=>h.elim id fun h=>by simp at h
 |(y,k)::r,cs,n,h=>by
  refine jd9 r _ n ?_;have keep:(∃c,cs.lookup n=some c)->∃c,(if k == NameKind.free then (y,(env.cells.lookup y).getD 0)::cs else cs).lookup n=some c:=fun ⟨c,e⟩=>by
   split
   ·rw[List.lookup_cons];split
    ·exact⟨_,rfl⟩
    ·exact⟨c,e⟩
   ·exact⟨c,e⟩
  rcases h with h | h
  ·exact .inl (keep h)
  ·rcases List.mem_cons.mp h with h | h
   ·cases h;refine .inl ⟨(env.cells.lookup y).getD 0,?_⟩;rw[if_pos (by rfl),List.lookup_cons]
    simp
   ·exact .inr h
theorem ja4 {c:Str->NameKind->Bool}{x:Str}:∀(names:List (Str×NameKind)),(names.map fun (p:Str×NameKind)=>match p with | (n,k)=>if c n k=true then (n,NameKind.cell)else (n,k)).lookup x=(names.lookup x).map fun k=>if c x k=true then NameKind.cell else k
 |[]=>rfl
 |(n,k)::r=>by
  rw[juy,List.lookup_cons];have ih:=ja4 (c:=c) (x:=x) r;by_cases e:x=n
  ·subst e;by_cases hc:c x k=true
   ·simp[hc]
   ·simp[hc]
  ·have e':(x == n)=false:=by simpa using e
   by_cases hc:c n k=true
   ·simp only[hc,if_true,List.lookup_cons,e'];exact ih
   ·simp only[hc,jvd,if_false,List.lookup_cons,e'];exact ih
section
variable {x:Str}{c:Addr}
theorem jb2 (n:Nat)(y:Str)(k:NameKind)(r:List (Str×NameKind))(cs:List (Str×Addr)):cellsFrom n ((y,k)::r) cs=if k == .cell then cellsFrom (n + 1) r ((y,n)::cs)else cellsFrom n r cs:=rfl
theorem jjG (h:Heap)(y:Str)(k:NameKind)(r:List (Str×NameKind)):pushCells h ((y,k)::r)=if k == .cell then pushCells (h.push { cls:=.type "cell",data:=.cell none }) r else pushCells h r:=rfl
theorem jb3 {y:Str}{n:Addr}{cs:List (Str×Addr)}(h:((y,n)::cs).lookup x=some c):(x=y/\c=n)\/(x≠y/\cs.lookup x=some c):=by
 rw[List.lookup_cons]at h;by_cases e:x=y
 ·subst e;simp at h;exact .inl ⟨rfl,h.symm⟩
 ·have:(x == y)=false:=by simpa using e
  rw[this]at h;exact .inr ⟨e,h⟩
theorem jcF:∀(names:List (Str×NameKind)) (n:Nat) (cs:List (Str×Addr)),(cellsFrom n names cs).lookup x=some c->n<=c\/cs.lookup x=some c
 |[],n,cs,h=>.inr h
 |(y,k)::r,n,cs,h=>by
  rw[jb2]at h;split at h
  ·rcases jcF r _ _ h with h | h
   ·exact .inl (by omega)
   ·rcases jb3 h with ⟨_,e⟩ | ⟨_,h⟩
    ·exact .inl (e ▸ ju7 _)
    ·exact .inr h
  ·exact jcF r _ _ h
theorem jjH:∀(names:List (Str×NameKind)) (n:Nat) (cs:List (Str×Addr)),(∀x c,cs.lookup x=some c->c < n)->(∀x y c,cs.lookup x=some c->cs.lookup y=some c->x=y)->∀x y c,(cellsFrom n names cs).lookup x=some c->(cellsFrom n names cs).lookup y=some c->x=y
 |[],n,cs,_,h=>h
 |(y,k)::r,n,cs,h1,h2=>by
  rw[jb2];split
  ·refine jjH r (n + 1) _ (fun a b q=>?_) fun a a' b q q'=>?_
   ·rcases jb3 q with ⟨_,e⟩ | ⟨_,q⟩
    ·rw[e];exact Nat.lt_succ_self _
    ·exact Nat.lt_succ_of_lt (h1 a b q)
   ·rcases jb3 q with ⟨e,e1⟩ | ⟨_,q⟩ <;> rcases jb3 q' with ⟨e',e2⟩ | ⟨_,q'⟩
    ·rw[e,e']
    ·exact absurd (h1 a' b q') (by rw[e1];exact jvb _)
    ·exact absurd (h1 a b q) (by rw[e2];exact jvb _)
    ·exact h2 a a' b q q'
  ·exact jjH r n cs h1 h2
theorem jf1:∀(names:List (Str×NameKind)) (h:Heap) (cs:List (Str×Addr)),(∀x c,cs.lookup x=some c->∃v,h.IsCell c v)->∀x c,(cellsFrom h.objs.size names cs).lookup x=some c->∃v,(pushCells h names).IsCell c v
 |[],h,cs,k=>k
 |(y,k)::r,h,cs,q=>by
  rw[jb2,jjG];split
  ·have e:h.objs.size + 1=(h.push { cls:=.type "cell",data:=.cell none }).objs.size:=by rw[Heap.size_push]
   rw[e];refine jf1 r _ _ fun a b z=>?_;rcases jb3 z with ⟨_,e⟩ | ⟨_,z⟩
   ·subst e;exact⟨none,_,ju4 _ rfl,rfl⟩
   ·obtain⟨v,z⟩:=q a b z;exact⟨v,z.keeps fun b o e=>ju2 _ e⟩
  ·exact jf1 r h cs q
theorem jjI:∀(names:List (Str×NameKind)) (n:Nat) (cs:List (Str×Addr)),(∀y∈names,y.1=x->y.2≠.cell)->(cellsFrom n names cs).lookup x=cs.lookup x
 |[],n,cs,_=>rfl
 |(y,k)::r,n,cs,h=>by
  rw[jb2];split
  ·rename_i hk;rw[jjI r _ _ fun z hz=>h z (jus _ hz),List.lookup_cons];have hne:x≠y:=fun e=>h (y,k) jut e.symm (by simpa using hk)
   have:(x == y)=false:=by simpa using hne
   rw[this]
  ·exact jjI r _ _ fun z hz=>h z (jus _ hz)
theorem joR {n0:Nat}:∀(names:List (Str×NameKind)) (n:Nat) (cs:List (Str×Addr)),n0<=n->(∀c,cs.lookup x=some c->n0<=c)->(cellsFrom n names cs).lookup x=some c->n0<=c
 |[],n,cs,_,h,e=>h c e
 |(y,k)::r,n,cs,hn,h,e=>by
  rw[jb2]at e;split at e
  ·refine joR r _ _ (by omega) (fun b z=>?_) e
   rcases jb3 z with ⟨_,e⟩ | ⟨_,z⟩
   ·rw[e];exact hn
   ·exact h b z
  ·exact joR r _ _ hn h e
theorem jjJ:∀(names:List (Str×NameKind)) (n:Nat) (cs:List (Str×Addr)),(x,NameKind.cell)∈names->(cellsFrom n names cs).lookup x=some c->n<=c
 |[],n,cs,h,_=>by cases h
 |(y,k)::r,n,cs,h,e=>by
  rw[jb2]at e;rcases List.mem_cons.mp h with h | h
  ·cases h;rw[if_pos (by rfl)]at e
   refine joR r _ _ (Nat.le_succ _) (fun b z=>?_) e;rcases jb3 z with ⟨_,e⟩ | ⟨z,_⟩
   ·rw[e];exact ju7 _
   ·exact absurd rfl z
  ·split at e
   ·exact Nat.le_of_succ_le (jjJ r _ _ h e)
   ·exact jjJ r _ _ h e
theorem jcV {M:Model}{A:Around}{E:Value->Shared->Prop}{Q:List (Str×Addr)->Shared->Prop}:∀(names:List (Str×NameKind)) (cs:List (Str×Addr)) (s:Shared),Q (cellsFrom s.heap.objs.size names cs) { s with heap:=pushCells s.heap names } ->
  wpAny M A (forIn names cs fun (x:Str×NameKind) (__s:List (Str×Addr))=>(match x with
    |(name,kind)=>if (kind == NameKind.cell)=true then (do let a <-alloc { cls:=.type "cell",data:=.cell none };pure (ForInStep.yield ((name,a)::__s)))else pure (ForInStep.yield __s):Sem (ForInStep (List (Str×Addr))))) Q E s
 |[],cs,s,h=>juU h
 |(y,k)::r,cs,s,h=>by
  rw[jb2,jjG]at h;rw[List.forIn_cons];by_cases hk:(k == NameKind.cell)=true
  ·rw[if_pos hk,if_pos hk]at h;simp only[hk,if_true];refine juT (juT (wpAny_alloc (juU ?_)));have:=jcV (M:=M) (A:=A) (E:=E) (Q:=Q) r ((y,s.heap.objs.size)::cs) { s with heap:=s.heap.push { cls:=.type "cell",data:=.cell none } } (by rw[Heap.size_push];exact h)
   exact this
  ·rw[if_neg hk,if_neg hk]at h;simp only[hk];exact juT (juU (jcV r cs s h))
theorem jhZ {M:Model}{A:Around}{E:Value->Shared->Prop}{s:Shared}{scope:Scope}{g:Addr}{cl:List (Str×Addr)}{qual:Str}{env:Env}{Q:Env->Shared->Prop}
  (h:Q (newEnv scope s.heap.objs.size g (cellsFrom (s.heap.objs.size + 1) scope.names cl) qual none .none (some env) builtinsNs) { s with heap:=pushCells (s.heap.push { cls:=.type "dict",data:=.dict #[] }) scope.names }) :
  wpAny M A (newFunctionEnv scope g cl [] qual none .none (some env)) Q E s:=by
 unfold newFunctionEnv;refine juT (wpAny_alloc ?_);refine juT (jcV scope.names cl _ ?_);refine juT (juU (juU ?_));rw[Heap.size_push];exact h
end
noncomputable def cxComp (X:Cx)(N:List Str)(scope:Scope)(s:Shared)(H:Hp)(fp:List Addr)(xe:Value->Shared->Prop):Cx:=
 { X with N:=N,s₀:=s,H₀:=H,env:=compEnvC scope (cellsFrom (s.heap.objs.size + 1) scope.names (jhY X.env scope.names [])) s.heap.objs.size X.env,outer:=X.stack,ex:=fp,fn:=fun x=>scope.names.lookup x == some .cell,pn:=[],xe:=xe }
structure CompOk (X:Cx)(scope:Scope)(N cn:List Str)(nt:Nat)(caps:List Nat):Prop where
 kind:scope.kind=.function
 cell:∀y∈scope.names,y.2=.cell->scope.names.lookup y.1=some .cell
 names:∀y∈scope.names,y.2=.local->scope.names.lookup y.1=some .local
 free:∀y∈scope.names,y.2=.free->X.env.scope.names.lookup y.1=some .cell\/X.env.scope.names.lookup y.1=some .free
 nd:N.Nodup
 split:∃tn,N=tn++cn/\tn.length=nt
 clen:cn.length=caps.length
 at_:∀(k j:Nat) (x:Str),cn[k]?=some x->caps[k]?=some j->X.N[j]?=some x/\scope.names.lookup x=some .free
section
variable {X:Cx}{scope:Scope}{N cn:List Str}{nt:Nat}{caps:List Nat}{pins:List (Addr×Obj)}{σ:L2.St}{H:Hp}{s:Shared}{fp:List Addr}{E:Value->Shared->Prop}
noncomputable def jl3 (nt:Nat)(caps:List Nat)(σ:L2.St):L2.St:=List.replicate nt none++caps.map fun j=>(σ[j]?).getD none
theorem CompOk.cells (C:CompOk X scope N cn nt caps)(I:Inv X pins σ H s):∀y∈scope.names,y.2=.free->∃c,X.env.cells.lookup y.1=some c:=fun y hy e=>I.ok.has y.1 (C.free y hy e)
theorem jjK (C:CompOk X scope N cn nt caps)(I:Inv X pins σ H s)(fo:∀b∈fp,FpOk X pins H b)(ft:∀b∈fp,b < s.heap.objs.size):(cxComp X N scope s H fp E).Ok where
 mod:=I.ok.mod
 kind:=C.kind
 glob:=I.ok.glob
 blt:=I.ok.blt
 above:=ju7 _
 inj:=jjH _ _ _ (fun x c h=>by
  obtain⟨v,z⟩:=I.cell x c (jbv _ _ (C.cells I) (fun _ _ z=>by simp at z) _ _ h)
  obtain⟨o,e,_⟩:=z;exact Nat.lt_succ_of_lt (ju3 e)) fun x y c h1 h2=>I.ok.inj x y c (jbv _ _ (C.cells I) (fun _ _ z=>by simp at z) _ _ h1) (jbv _ _ (C.cells I) (fun _ _ z=>by simp at z) _ _ h2)
 has:=fun x hx=>by
  have fin:(x,NameKind.free)∈scope.names\/scope.names.lookup x=some .cell->∃c,(cellsFrom (s.heap.objs.size + 1) scope.names (jhY X.env scope.names [])).lookup x=some c:=fun z=>by
   refine Option.isSome_iff_exists.mp (PySem.W.cellsFrom_some _ _ _ ?_);rcases z with z | z
   ·obtain⟨c,e⟩:=jd9 (env:=X.env) scope.names [] x (.inr z);exact .inr (by rw[e];rfl)
   ·exact .inl z
  refine fin ?_;have hx':(relabel scope X.env).names.lookup x=some .cell\/(relabel scope X.env).names.lookup x=some .free:=hx;unfold relabel at hx';simp only at hx';rw[ja4 (c:=fun n k=>k == .free && X.env.scope.kind == .function && X.env.kindOf n == some .cell)]at hx';cases e:scope.names.lookup x with
  |none=>rw[e]at hx';simp at hx'
  |some k=>
   have hm:=PySem.mem_of_lookup e;by_cases hk:k=.free
   ·subst hk;exact .inl hm
   ·rw[e]at hx';have hk':(k == NameKind.free)=false:=by simpa using hk
    simp only[hk',Bool.false_and,jvd,if_false,Option.map_some,Option.some.injEq]at hx';rcases hx' with hx' | hx'
    ·subst hx';exact .inr rfl
    ·exact absurd hx' hk
 cab:=fun x c h hc=>by
  have h:(scope.names.lookup x == some .cell)=true:=h;exact Nat.le_of_succ_le (jjJ _ _ _ (PySem.mem_of_lookup (by simpa using h)) hc)
 hd:=I.ok.hd
 frames:=I.ok.frames
 stk:=.inl rfl
 exf:=fun b hb=>⟨ju9 (ft b hb),fun x c h=>by
  rcases jcF _ _ _ h with h | h
  ·intro z;subst z;exact absurd (Nat.lt_trans (ft c hb) (Nat.lt_of_succ_le h)) (jvb _)
  ·exact(fo b hb).2.2.2.2.1 x c (jbv _ _ (C.cells I) (fun _ _ z=>by simp at z) _ _ h)⟩
 bs:=I.bs
 bsz:=jva I.ok.bsz I.sz
 noex:=fun b o e hb=>by
  rcases (fo b hb).2.2.2.1 with z | z
  ·exact I.ok.noex b o e z
  ·exact absurd (ju8 (ju3 e) (jva I.ok.bsz z)) (jvb _)
 exfs:=fun b hb hs=>by
  rcases List.mem_cons.mp (I.stkSub b hs)with z | z
  ·exact(fo b hb).2.1 z
  ·exact(fo b hb).2.2.1 z
 funs:=I.stack
 frf:=I.stkFree
theorem jl4 (C:CompOk X scope N cn nt caps)(I:Inv X pins σ H s)(fo:∀b∈fp,FpOk X pins H b)(ft:∀b∈fp,b < s.heap.objs.size){h1:Heap}{m0:Str->Option Value}{tk:Nat}(hns:h1.Ns s.heap.objs.size m0)
  (kp:∀b o,s.heap.get? b=some o->h1.get? b=some o) (hcl:∀x c,(cellsFrom (s.heap.objs.size + 1) scope.names (jhY X.env scope.names [])).lookup x=some c->∃v,h1.IsCell c v):Inv (cxComp X N scope s H fp E) [] (jl3 nt caps σ) H { s with heap:=h1,toks:=tk }:=by
 have sub:=jbv (env:=X.env) scope.names [] (C.cells I) (fun _ _ z=>by simp at z)
 refine⟨jjK C I fo ft,rfl,I.bare,Un.kept kp,⟨m0,hns,fun i x v h1' h2 h3=>?_⟩,fun x c e=>?_,I.hok.fresh (ju7 _),fun x c e=>(jcF _ _ _ e).elim (fun z=>I.hok.fresh (Nat.le_of_succ_le z)) fun e=>I.freeC x c (sub x c e),fun p hp=>absurd (show p∈([]:List (Addr×Obj))from hp) (by simp),I.hok.kept kp,?_⟩
 ·obtain⟨tn,eN,hl⟩:=C.split;have h1':N[i]?=some x:=h1';have hi:nt<=i:=by
   refine Nat.le_of_not_lt fun hlt=>?_;unfold jl3 at h2;rw[juI (by simpa using hlt),List.getElem?_replicate,if_pos hlt]at h2
   cases h2
  unfold jl3 at h2;rw[juE (by simpa using hi),List.length_replicate,jux]at h2
  rw[eN,juE (by omega),hl]at h1'
  cases e:caps[i - nt]? with
  |none=>rw[e]at h2;cases h2
  |some j=>
   rw[e]at h2;obtain⟨hj,hf⟩:=C.at_ _ j x h1' e;have h2':(σ[j]?).getD none=some v:=Option.some.inj h2;have h2'':σ[j]?=some (some v):=by
    cases q:σ[j]? with
    |none=>rw[q]at h2';cases h2'
    |some o=>rw[q]at h2';simp at h2';rw[h2']
   have hm:=PySem.mem_of_lookup hf;have hk:=C.free _ hm rfl;obtain⟨m,hn,hl'⟩:=I.loc;obtain⟨u,r,lk⟩:=hl' j x v hj h2'' (.inr hk);refine⟨u,r,?_⟩;rcases lk with ⟨k1,_⟩ | ⟨_,c,hc,hcell⟩
   ·have k1:X.env.scope.names.lookup x=some .local:=k1;rw[k1]at hk;rcases hk with z | z <;> cases z
   ·obtain⟨c',hc'⟩:=jd9 (env:=X.env) scope.names [] x (.inr hm);have hcc:=sub x c' hc';rw[hc]at hcc;cases hcc;refine .inr ⟨?_,c,(jjI _ _ _ fun y hy ey z=>?_).trans hc',?_⟩
    ·show (relabel scope X.env).names.lookup x=some .cell\/(relabel scope X.env).names.lookup x=some .free;unfold relabel;simp only;rw[ja4 (c:=fun n k=>k == .free && X.env.scope.kind == .function && X.env.kindOf n == some .cell),hf];simp only[Option.map_some];split
     ·exact .inl rfl
     ·exact .inr rfl
    ·have:=C.cell y hy z;rw[ey,hf]at this;cases this
    ·exact hcell.keeps kp
 ·exact hcl x c e
 ·obtain⟨tn,eN,hl⟩:=C.split;show (jl3 nt caps σ).length=N.length;unfold jl3;rw[eN,juF,juF,List.length_replicate,juA,hl,C.clen]
end
theorem je3 {prog:Program}{w:World}{A:Around}{R:Result->Shared->Prop}{s:Shared}{elt target iter:Expr}{ifs:List Expr}{scope:Scope}{pos:Pos}{it acc:Value}{env:Env}(I:Nat->Shared->Prop)
  (turn:∀n s,I n s->wpAny (model prog w) A (pyNext it) (fun r s₁=>match r with
   |none=>R (.ok .next) s₁
   |some v=>wpAny (model prog w) A (letOwnedTupleGo target it v) (fun _ s₁'=>wpAny (model prog w) A (assign target env v) (fun _ s₂=>
     wpAny (model prog w) A (forIn ifs true fun c r=>if r=true then do let ok <-isTrue c env (eval c env);pure (ForInStep.yield ok)else pure (ForInStep.yield r)) (fun ok s₃=>
      if ok=true then wpAny (model prog w) A (eval elt env) (fun x s₄=>
       wpAny (model prog w) A (call (.builtin "list.append") [acc,x]) (fun _ s₅=>∃m,m < n/\I m s₅) (notedBy (model prog w) A env fun e s'=>R (.error e) s') s₄) (notedBy (model prog w) A env fun e s'=>R (.error e) s') s₃
      else ∃m,m < n/\I m s₃) (notedBy (model prog w) A env fun e s'=>R (.error e) s') s₂) (notedBy (model prog w) A env fun e s'=>R (.error e) s') s₁') (notedBy (model prog w) A env fun e s'=>R (.error e) s') s₁) (notedBy (model prog w) A env fun e s'=>R (.error e) s') s)
  (n:Nat) (h:I n s) :
  codeAny (model prog w) A (.compLoop (.ListComp elt [⟨target,iter,ifs,0⟩] scope pos) 0 it acc env) R s:=by
 refine codeAny_loop rfl I (fun n s hI=>?_) n h;show wpAny _ A ((compTurn (.ListComp elt [⟨target,iter,ifs,0⟩] scope pos) 0 it acc env).onRaise (fun x=>do noteFrame x env;theTreesLotGoes x)) _ _ s
 refine wpAny_noted ?_;rw[compTurn_list];refine juT (wpAny_standAt (juT (ju0 (turn n s hI) (fun r s₁ h₁=>?_) fun _ _ h'=>h')));cases r with
 |none=>exact juU h₁
 |some v=>
  refine juT (ju0 h₁ (fun _ s₁' h₁'=>?_) fun _ _ h'=>h');refine juT (ju0 h₁' (fun _ s₂ h₂=>juT (ju0 h₂ (fun ok s₃ h₃=>?_) fun _ _ h'=>h')) fun _ _ h'=>h');cases ok with
  |false=>exact juU ⟨rfl,h₃⟩
  |true=>
   exact juT (juT (ju0 h₃ (fun x s₄ h₄=>juT (ju0 h₄ (fun _ s₅ h₅=>juU (juU ⟨rfl,h₅⟩)) fun _ _ h'=>h')) fun _ _ h'=>h'))
theorem jgY {tgs:List Nat}{one:Bool}{x:D}{ρ:Rho}{c:Nat}:putT tgs one x ρ≠.err c:=by
 unfold putT;split
 ·intro z;cases z
 ·split <;> (intro z;cases z)
 ·intro z;cases z
theorem jl5 {tgs:List Nat}{one:Bool}{x:D}{ρ ρ':Rho}(h:putT tgs one x ρ=.ok ρ'):ρ'.length=ρ.length/\∀i:Nat,i ∉ tgs->ρ'[i]?=ρ[i]?:=by
 have fold:∀(ps:List (Nat×D)) (ρ:Rho),(ps.foldl (fun r p=>r.set p.1 (.dat p.2)) ρ).length=ρ.length/\∀i:Nat,i ∉ ps.map (·.1)->(ps.foldl (fun r p=>r.set p.1 (Sl.dat p.2)) ρ)[i]?=ρ[i]?:=by
  intro ps;induction ps with
  |nil=>intro ρ;exact⟨rfl,fun _ _=>rfl⟩
  |cons p ps ih=>
   intro ρ;obtain⟨e1,e2⟩:=ih (ρ.set p.1 (.dat p.2));refine⟨by rw[List.foldl_cons,e1,juP],fun i hi=>?_⟩
   rw[juy,juu,not_or]at hi;rw[List.foldl_cons,e2 i hi.2,juJ (Ne.symm hi.1)]
 unfold putT at h;split at h
 ·cases h;refine⟨juP ..,fun i hi=>?_⟩;rw[juJ];intro z;exact hi (by simp[z])
 ·split at h
  ·cases h;rename_i hl;obtain⟨e1,e2⟩:=fold (tgs.zip _) ρ;refine⟨e1,fun i hi=>e2 i ?_⟩;rw[List.map_fst_zip (Nat.le_of_eq hl)];exact hi
  ·cases h
 ·cases h
theorem jgZ {nt:Nat}{caps:List Nat}{ρ:Rho}{i:Nat}(h:i < nt):(jeG nt caps ρ)[i]?=some .no:=by
 unfold jeG;rw[juI (by simpa using h),List.getElem?_replicate,if_pos h]
theorem je4 {nt:Nat}{caps:List Nat}{ρ:Rho}{k j:Nat}(h:caps[k]?=some j):(jeG nt caps ρ)[nt + k]?=some (match ρ[j]? with | some s=>s | none=>.no):=by
 unfold jeG jdy;rw[juE (by simp),List.length_replicate,Nat.add_sub_cancel_left,jux,h]
 rfl
theorem jcG {nt:Nat}{caps:List Nat}{ρ:Rho}:(jeG nt caps ρ).length=nt + caps.length:=by unfold jeG jdy;simp
theorem jjL {nt:Nat}{caps:List Nat}{σ:L2.St}{k j:Nat}(h:caps[k]?=some j):(jl3 nt caps σ)[nt + k]?=some ((σ[j]?).getD none):=by
 unfold jl3;rw[juE (by simp),List.length_replicate,Nat.add_sub_cancel_left,jux,h]
 rfl
theorem jaL:∀{caps:List Nat}{k:Nat}{inn ρ:Rho}{j:Nat},j ∉ caps->(jaH caps k inn ρ)[j]?=ρ[j]?
 |[],_,_,_,_,_=>rfl
 |i::r,k,inn,ρ,j,h=>by
  rw[juu,not_or]at h;simp only[jaH];rw[jaL h.2];split
  ·rw[juJ (Ne.symm h.1)]
  ·rfl
theorem je5:∀{caps:List Nat}{k:Nat}{inn ρ:Rho},(jaH caps k inn ρ).length=ρ.length
 |[],_,_,_=>rfl
 |i::r,k,inn,ρ=>by
  simp only[jaH];rw[je5];split
  ·rw[juP]
  ·rfl
theorem jg0:∀{caps:List Nat}{k m:Nat}{inn ρ:Rho}{j:Nat}{s:Sl},caps.Nodup->caps[m]?=some j->j < ρ.length->inn[k + m]?=some s->(jaH caps k inn ρ)[j]?=some s
 |[],_,_,_,_,_,_,_,h,_,_=>by simp at h
 |i::r,k,0,inn,ρ,j,s,nd,h,hj,hs=>by
  have e:i=j:=by simpa using h
  subst e;simp only[jaH];rw[jaL (List.nodup_cons.mp nd).1];rw[Nat.add_zero]at hs;rw[hs];simp only;rw[List.getElem?_set_self hj]
 |i::r,k,m + 1,inn,ρ,j,s,nd,h,hj,hs=>by
  simp only[jaH];refine jg0 (m:=m) (List.nodup_cons.mp nd).2 (by simpa using h) ?_ (by rw[show k + 1 + m=k + (m + 1)by omega];exact hs)
  split
  ·rw[juP];exact hj
  ·exact hj
section
variable {X:Cx}{scope:Scope}{N cn:List Str}{nt:Nat}{caps:List Nat}{pins:List (Addr×Obj)}{Z:Kn}{σ σ':L2.St}{ρ:Rho}{B:Bs}{F:Addr->Prop}{H:Hp}{s:Shared}{fp:List Addr}
theorem CompOk.capsNd (C:CompOk X scope N cn nt caps):caps.Nodup:=by
 refine List.pairwise_iff_getElem.mpr fun i j hi hj hij z=>?_;have h1:caps[i]?=some caps[i]:=jur hi;have h2:caps[j]?=some caps[i]:=by rw[z];exact jur hj
 have li:i < cn.length:=by rw[C.clen];exact hi
 have lj:j < cn.length:=by rw[C.clen];exact hj
 have c1:cn[i]?=some cn[i]:=jur (by rw[C.clen];exact hi)
 have c2:cn[j]?=some cn[j]:=jur (by rw[C.clen];exact hj)
 have e1:=(C.at_ i _ _ c1 h1).1;have e2:=(C.at_ j _ _ c2 h2).1;rw[e1]at e2;have e3:cn[i]=cn[j]:=Option.some.inj e2;obtain⟨tn,eN,hl⟩:=C.split;have f1:N[tn.length + i]?=some cn[i]:=by rw[eN,juE (by omega),Nat.add_sub_cancel_left];exact c1
 have f2:N[tn.length + j]?=some cn[i]:=by rw[eN,juE (by omega),Nat.add_sub_cancel_left,e3];exact c2
 have:=jdM C.nd f1 f2;omega
noncomputable def jcW (nt:Nat)(caps:List Nat)(B:Bs):Bs:=⟨B.hp,fun k=>if nt<=k then (caps[k - nt]?).bind B.lent else none⟩
theorem jbP {i:Nat}{o:O}{f k:Bool}(h:(jeG nt caps ρ)[i]?=some (.own o f k)):∃m j,i=nt + m/\caps[m]?=some j/\ρ[j]?=some (.own o f k):=by
 have hn:nt<=i:=by
  refine Nat.le_of_not_lt fun hlt=>?_;rw[jgZ hlt]at h;cases h
 obtain⟨m,rfl⟩:∃m,i=nt + m:=⟨i - nt,by omega⟩
 cases e:caps[m]? with
 |none=>
  have:=(List.getElem?_eq_some_iff.mp h).1;rw[jcG]at this;have:=List.getElem?_eq_none_iff.mp e;omega
 |some j=>
  rw[je4 e]at h;refine⟨m,j,rfl,e,?_⟩;cases q:ρ[j]? with
  |none=>rw[q]at h;cases h
  |some t=>rw[q]at h;cases h;rfl
theorem jl6 {i:Nat}{d:D}(h:(jeG nt caps ρ)[i]?=some (.dat d)):∃m j,i=nt + m/\caps[m]?=some j/\ρ[j]?=some (.dat d):=by
 have hn:nt<=i:=by
  refine Nat.le_of_not_lt fun hlt=>?_;rw[jgZ hlt]at h;cases h
 obtain⟨m,rfl⟩:∃m,i=nt + m:=⟨i - nt,by omega⟩
 cases e:caps[m]? with
 |none=>
  have:=(List.getElem?_eq_some_iff.mp h).1;rw[jcG]at this;have:=List.getElem?_eq_none_iff.mp e;omega
 |some j=>
  rw[je4 e]at h;refine⟨m,j,rfl,e,?_⟩;cases q:ρ[j]? with
  |none=>rw[q]at h;cases h
  |some t=>rw[q]at h;cases h;rfl
noncomputable def Agr (nt:Nat)(caps:List Nat)(σ σ':L2.St):Prop:=σ'.length=nt + caps.length/\∀m j,caps[m]?=some j->σ'[nt + m]?=some ((σ[j]?).getD none)
theorem Agr.at (a:Agr nt caps σ σ'){m j:Nat}{v:V}(h:caps[m]?=some j):σ'[nt + m]?=some (some v)↔σ[j]?=some (some v):=by
 rw[a.2 m j h];constructor
 ·intro z;cases q:σ[j]? with
  |none=>rw[q]at z;cases z
  |some o=>rw[q]at z;simp at z;rw[z]
 ·intro z;rw[z];rfl
theorem jjM (nd:caps.Nodup)(a:Agr nt caps σ σ')(r:SR Z B F H σ ρ):SR Z (jcW nt caps B) F H σ' (jeG nt caps ρ):=by
 refine⟨r.dom,by rw[jcG,a.1],fun i d h=>?_,fun i o f k h=>?_,fun i j o o' f k f' k' l hij h1 h2 q1 q2=>?_,r.base⟩
 ·obtain⟨m,j,rfl,hc,e⟩:=jl6 h;obtain⟨v,e1,e2⟩:=r.dat j d e;exact⟨v,(a.at hc).mpr e1,e2⟩
 ·obtain⟨m,j,rfl,hc,e⟩:=jbP h;obtain⟨l,e1,e2,e3,e4,e5⟩:=r.own j o f k e;refine⟨l,(a.at hc).mpr e1,e2,e3,fun z=>?_,e5⟩;simp only[jcW,if_pos (Nat.le_add_right nt m),Nat.add_sub_cancel_left,hc,Option.bind_some];exact e4 z
 ·obtain⟨m1,j1,rfl,c1,e1⟩:=jbP h1;obtain⟨m2,j2,rfl,c2,e2⟩:=jbP h2;refine r.one j1 j2 o o' f k f' k' l (fun z=>hij ?_) e1 e2 ((a.at c1).mp q1) ((a.at c2).mp q2);subst z;have h1:=(List.getElem?_eq_some_iff.mp c1).1;have:=(List.getElem?_inj h1 nd).mp (c1.trans c2.symm);omega
theorem jf2 (a:Agr nt caps σ σ'){b:Addr}(h:Mb σ' (jeG nt caps ρ) b):Mb σ ρ b:=by
 obtain⟨i,o,f,h1,h2⟩:=h;obtain⟨m,j,rfl,hc,e⟩:=jbP h1;exact⟨j,o,f,e,(a.at hc).mp h2⟩
theorem jjN (nd:caps.Nodup){σ4:L2.St}{inn:Rho}{F4:Addr->Prop}{H4:Hp}(a:Agr nt caps σ σ')(a4:Agr nt caps σ σ4)(r:SR Z B F H σ ρ)(hc:∀j∈caps,j < ρ.length)
  (r4:SR Z (jcW nt caps B) F4 H4 σ4 inn) (g:Go σ' (jeG nt caps ρ) F H σ4 inn F4 H4):SR Z B F4 H4 σ (jaH caps nt inn ρ)/\Go σ ρ F H σ (jaH caps nt inn ρ) F4 H4:=by
 have r0:=jjM nd a r;have kp:=g.keep r0;have hlen:inn.length=nt + caps.length:=by rw[r4.len,a4.1]
 have inB:∀{m j:Nat},caps[m]?=some j->∃s,inn[nt + m]?=some s/\(jaH caps nt inn ρ)[j]?=some s:=fun {m j} h=>by
  have hm:=(List.getElem?_eq_some_iff.mp h).1;have e:inn[nt + m]?=some inn[nt + m]:=jur (by omega)
  exact⟨_,e,jg0 nd h (hc j (juD h)) e⟩
 have side:∀{j:Nat}{o:O}{f k:Bool}{l:Addr},j ∉ caps->ρ[j]?=some (.own o f k)->σ[j]?=some (some (.ref l))->¬Ow σ' (jeG nt caps ρ) l:=fun {j o f k l} hj h1 h2 z=>by
  obtain⟨i,o',f',k',q1,q2⟩:=z;obtain⟨m,j',rfl,hc',e⟩:=jbP q1;refine r.one j j' _ _ _ _ _ _ l (fun z=>hj (by rw[z];exact juD hc')) h1 e h2 ((a.at hc').mp q2)
 have ow:∀(j:Nat) (o:O) (f k:Bool) (b:Addr),(jaH caps nt inn ρ)[j]?=some (.own o f k)->σ[j]?=some (some (.ref b))->(∃o0 k0,ρ[j]?=some (.own o0 f k0)/\σ[j]?=some (some (.ref b))/\(k0=true->k=true))\/H b=none:=fun j o f k b h1 h2=>by
  by_cases hj:j∈caps
  ·obtain⟨m,hm⟩:=List.mem_iff_getElem?.mp hj;obtain⟨sl,e1,e2⟩:=inB hm;rw[h1]at e2;cases e2;rcases g.ow _ o f k b e1 ((a4.at hm).mpr h2)with ⟨o0,k0,q1,q2,q3⟩ | z
   ·obtain⟨m',j',e,hc',q⟩:=jbP q1;have:m'=m:=by omega
    subst this;rw[hm]at hc';cases hc';exact .inl ⟨o0,k0,q,h2,q3⟩
   ·exact .inr z
  ·rw[jaL hj]at h1;exact Go.self h1 h2
 refine⟨⟨r4.dom,by rw[je5];exact r.len,fun j d h=>?_,fun j o f k h=>?_,fun i j o o' f k f' k' l hij h1 h2 q1 q2=>?_,r4.base⟩,⟨fun b o h n=>g.stay b o h fun m=>n (jf2 a m),g.sub,fun b h=>(g.new b h).imp id fun z=>z.imp id (jf2 a),ow,g.there⟩⟩
 ·by_cases hj:j∈caps
  ·obtain⟨m,hm⟩:=List.mem_iff_getElem?.mp hj;obtain⟨sl,e1,e2⟩:=inB hm;rw[h]at e2;cases e2;obtain⟨v,q1,q2⟩:=r4.dat _ d e1;exact⟨v,(a4.at hm).mp q1,q2⟩
  ·rw[jaL hj]at h;obtain⟨v,q1,q2⟩:=r.dat j d h;exact⟨v,q1,q2.mono kp⟩
 ·by_cases hj:j∈caps
  ·obtain⟨m,hm⟩:=List.mem_iff_getElem?.mp hj;obtain⟨sl,e1,e2⟩:=inB hm;rw[h]at e2;cases e2;obtain⟨l,q1,q2,q3,q4,q5⟩:=r4.own _ o f k e1;refine⟨l,(a4.at hm).mp q1,q2,q3,fun z=>?_,q5⟩;have:=q4 z;simpa only[jcW,if_pos (Nat.le_add_right nt m),Nat.add_sub_cancel_left,hm,Option.bind_some] using this
  ·rw[jaL hj]at h;obtain⟨l,q1,q2,q3,q4⟩:=r.own j o f k h;obtain⟨u,hu⟩:=q3.some;obtain⟨s1,s2,s3⟩:=g.side hu q2 (side hj h q1);exact⟨l,q1,s2,q3.mono kp (s1.trans hu.symm),q4⟩
 ·by_cases hi:i∈caps
  ·obtain⟨m,hm⟩:=List.mem_iff_getElem?.mp hi;obtain⟨sl,e1,e2⟩:=inB hm;rw[h1]at e2;cases e2;by_cases hj:j∈caps
   ·obtain⟨m',hm'⟩:=List.mem_iff_getElem?.mp hj;obtain⟨sl',e1',e2'⟩:=inB hm';rw[h2]at e2';cases e2';refine r4.one (nt + m) (nt + m') _ _ _ _ _ _ l (fun z=>hij ?_) e1 e1' ((a4.at hm).mpr q1) ((a4.at hm').mpr q2);have:m=m':=by omega
    subst this;rw[hm]at hm';cases hm';rfl
   ·rw[jaL hj]at h2;rcases ow i o f k l (by rw[<-h1]) q1 with ⟨o0,k0,z1,z2,_⟩ | z
    ·exact r.one i j _ _ _ _ _ _ l hij z1 h2 z2 q2
    ·obtain⟨l',w1,_,w3,_⟩:=r.own j _ _ _ h2;rw[q2]at w1;cases w1;obtain⟨u,hu⟩:=w3.some;rw[hu]at z;cases z
  ·rw[jaL hi]at h1;by_cases hj:j∈caps
   ·rcases ow j o' f' k' l h2 q2 with ⟨o0,k0,z1,z2,_⟩ | z
    ·exact r.one i j _ _ _ _ _ _ l hij h1 z1 q1 z2
    ·obtain⟨l',w1,_,w3,_⟩:=r.own i _ _ _ h1;rw[q1]at w1;cases w1;obtain⟨u,hu⟩:=w3.some;rw[hu]at z;cases z
   ·rw[jaL hj]at h2;exact r.one i j _ _ _ _ _ _ l hij h1 h2 q1 q2
theorem jjO {E:Value->Shared->Prop}(C:CompOk X scope N cn nt caps)(I:Inv X pins σ H s)(fo:∀b∈fp,FpOk X pins H b)(ft:∀b∈fp,b < s.heap.objs.size){pins':List (Addr×Obj)}{H':Hp}(hp:∀b∈fp,∀p∈pins',p.1≠b)(hn:∀b∈fp,H' b=none) :
  ∀b∈fp,FpOk (cxComp X N scope s H fp E) pins' H' b:=fun b hb=>by
 have ok:=jjK (E:=E) C I fo ft;exact⟨hn b hb,(fun e=>(ok.exf b hb).1 e),fun z=>ok.exfs b hb z,.inl hb,fun x c h=>(ok.exf b hb).2 x c h,fun p h=>hp b hb p (by simpa[cxComp] using h)⟩
end
end DJ
namespace DJ
open PySem PySem.Spec PyProof.Rows L2
noncomputable def jcX (tgs:List Nat)(one:Bool)(nt:Nat)(caps:List Nat)(fc:Option (Rho->R (Bool×Rho)))(fe:Rho->R (Vl×Rho))(x:D)(r:Rho):R (Option D×Rho):=
 (putT tgs one x (jeG nt caps r)).bind fun r'=>match fc with
  |none=>(fe r').bind fun p=>(toD p.1 p.2).bind fun q=>.ok (some q.1,jaH caps nt q.2 r)
  |some g=>(g r').bind fun b=>if b.1 then (fe b.2).bind fun p=>(toD p.1 p.2).bind fun q=>.ok (some q.1,jaH caps nt q.2 r)else .ok (none,jaH caps nt b.2 r)
section
variable {X:Cx}{scope:Scope}{N cn:List Str}{nt:Nat}{caps:List Nat}{pins:List (Addr×Obj)}{Z:Kn}{σ:L2.St}{ρ:Rho}{B:Bs}{F:Addr->Prop}{H:Hp}{s:Shared}{fp:List Addr}
inductive CompI (X:Cx) (N:List Str) (scope:Scope) (fp:List Addr) (nt:Nat) (caps:List Nat) (σ:L2.St) (Z:Kn) (B:Bs) (ρ:Rho) (F:Addr->Prop) (H:Hp) (ls:List Addr) (tn:Nat->Heap->Prop) (f:D->Rho->R (Option D×Rho)) (xs:List D) (rs:R (List D×Rho)) (s3:Shared) (H3:Hp) (E:Value->Shared->Prop) (l:Addr) (k:Nat) (s':Shared):Prop
 |mk (i:Nat) (σ':L2.St) (F':Addr->Prop) (H':Hp) (ρ1:Rho) (yi:List D) (vs:List V):k=xs.length + 1 - i->i<=xs.length->Inv (cxComp X N scope s3 H3 fp E) [] σ' H' s'->Agr nt caps σ σ'->SR Z B F' H' σ ρ1 ->
    Go σ ρ F H σ ρ1 F' H'->GK F H ls F' H'->tn i s'.heap->(∀b∈fp,H' b=none)->((compGo f (xs.drop i) ρ1).bind fun q=>.ok (yi++q.1,q.2))=rs->¬F' l->¬Ow σ ρ1 l->H' l=some (.lst vs)->Reps Z F' H' yi vs->yi.length<=i->CompI X N scope fp nt caps σ Z B ρ F H ls tn f xs rs s3 H3 E l k s'
theorem jg1 {elt tg iter:Expr}{ks:List Expr}{pos:Pos}{tgs:List Nat}{one:Bool}{fc:Option (Rho->R (Bool×Rho))}{fe:Rho->R (Vl×Rho)}{xs:List D}{rs:R (List D×Rho)}{ls:List Addr}{it:Addr}{tn:Nat->Heap->Prop}{RR:Value->Addr->Result->Shared->Prop}
  (hZ:X.K=Z.K) (hc:X.calm=true) (C:CompOk X scope N cn nt caps) (I:Inv X pins σ H s) (r:SR Z B F H σ ρ) (W:Wk X.prog X.w Z tg F H ls xs fp it tn) (hls:∀l∈ls,¬Mb σ ρ l) (st0:tn 0 s.heap) (fo:∀b∈fp,FpOk X pins H b)
  (hT:∀s' H' E,TgOk (cxComp X N scope s' H' fp E) tg tgs one) (hlow:∀i∈tgs,i < nt) (hcap:∀j∈caps,j < ρ.length)
  (hE:∀s' H' E B',PE (cxComp X N scope s' H' fp E) elt (tE Z (cxComp X N scope s' H' fp E) B' fe))
  (hK:(ks=[]/\fc=none)\/∃k g,ks=[k]/\fc=some g/\∀s' H' E B',PT (cxComp X N scope s' H' fp E) k (tT Z (cxComp X N scope s' H' fp E) B' g))
  (hY:compGo (jcX tgs one nt caps fc fe) xs ρ=rs) (hk:rs≠.stk)
  (hRR:∀(ys:List D) (ρE:Rho) (E:Value->Shared->Prop) (s3:Shared) (l:Addr) (σ':L2.St) (F':Addr->Prop) (H':Hp) (s':Shared) (vs:List V),rs=.ok (ys,ρE)->H l=none->Inv X pins σ (upd H l (.lst [])) s3->Inv (cxComp X N scope s3 (upd H l (.lst [])) fp E) [] σ' H' s'->Go σ ρ F H σ ρE F' H'->SR Z B F' H' σ ρE->¬F' l->¬Ow σ ρE l->H' l=some (.lst vs)->Reps Z F' H' ys vs ->
   RR (.ref l) s3.heap.objs.size (.ok .next) s')
  (hRX:∀(c:Nat) (E:Value->Shared->Prop) (s3:Shared) (l:Addr) (σ':L2.St) (H':Hp) (s':Shared) (pins':List (Addr×Obj)) (ea Cc:Addr),rs=.err c->H l=none->Inv X pins σ (upd H l (.lst [])) s3->Z.cl[c]?=some Cc->Inv (cxComp X N scope s3 (upd H l (.lst [])) fp E) pins' σ' H' s'->Stl σ ρ H H'->FlyC (cxComp X N scope s3 (upd H l (.lst [])) fp E) pins' ea (.ref Cc) H' s' ->
   notedBy (model X.prog X.w) X.A (cxComp X N scope s3 (upd H l (.lst [])) fp E).env (fun e s''=>RR (.ref l) s3.heap.objs.size (.error e) s'') (.ref ea) s') {E:Value->Shared->Prop} :
  wpAny (model X.prog X.w) X.A (newList []) (fun acc s₃=>wpAny (model X.prog X.w) X.A (newFunctionEnv scope X.env.globals (jhY X.env scope.names []) [] X.env.qual none .none (some X.env)) (fun cenv s₄=>
   codeAny (model X.prog X.w) X.A (.compStart (.ListComp elt [⟨tg,iter,ks,0⟩] scope pos) 0 (.ref it) acc { cenv with scope:=relabel scope X.env }) (RR acc cenv.locals) s₄) E s₃) E s:=by
 have nd:=C.capsNd;refine juX ?_;have ft:∀b∈fp,b < s.heap.objs.size:=fun b hb=>by
  obtain⟨o,e,_⟩:=W.obj _ _ st0 b hb;exact ju3 e
 have hl:H s.heap.objs.size=none:=I.hok.fresh (ju7 _);have I3:Inv X pins σ (upd H s.heap.objs.size (.lst [])) { s with heap:=s.heap.push { cls:=.type "list",dict:=none,data:=.seq ([]:List Value).toArray } }:=
  I.laid (t':=s.toks) (fun b u e=>ju2 _ e) (ju7 _) ⟨Nat.zero_le _,[],0,.nil,ju4 _ rfl⟩
 have ex3:Ext F H F (upd H s.heap.objs.size (.lst [])):=Ext.newO r.dom hl;have r3:SR Z B F (upd H s.heap.objs.size (.lst [])) σ ρ:=r.ext ex3;have fo3:∀b∈fp,FpOk X pins (upd H s.heap.objs.size (.lst [])) b:=fun b hb=>⟨by rw[jac (ju9 (ft b hb))];exact(fo b hb).1,(fo b hb).2⟩
 have st3:tn 0 (s.heap.push { cls:=.type "list",dict:=none,data:=.seq ([]:List Value).toArray }):=W.keep _ _ _ st0 fun b hb o e=>ju2 _ e;have nFl:¬F s.heap.objs.size:=fun z=>by
  obtain⟨o,e⟩:=r.dom _ z;rw[hl]at e;cases e
 have nOl:¬Ow σ ρ s.heap.objs.size:=fun z=>by
  obtain⟨o,e⟩:=r.there z;rw[hl]at e;cases e
 have ft3:∀b∈fp,b < (s.heap.push { cls:=.type "list",dict:=none,data:=.seq ([]:List Value).toArray }).objs.size:=fun b hb=>by
  rw[Heap.size_push];exact Nat.lt_succ_of_lt (ft b hb)
 revert I3 r3 ex3 fo3 st3 ft3
 generalize hs3:({ s with heap:=s.heap.push { cls:=.type "list",dict:=none,data:=.seq ([]:List Value).toArray } }:Shared)=s3
 have e3:s3.heap=s.heap.push { cls:=.type "list",dict:=none,data:=.seq ([]:List Value).toArray }:=by rw[<-hs3]
 rw[<-e3];generalize hl0:s.heap.objs.size=l at hl nFl nOl;generalize hH3:upd H l (.lst [])=H3;intro I3 ex3 r3 fo3 st3 ft3;have hl3:H3 l=some (.lst []):=by rw[<-hH3];exact jak
 refine jhZ ?_;have hsb₁:∀b o,(s3.heap.push { cls:=.type "dict",data:=.dict #[] }).get? b=some o->(pushCells (s3.heap.push { cls:=.type "dict",data:=.dict #[] }) scope.names).get? b=some o:=pushCells_keeps _ _;have hcl:∀x c,(cellsFrom (s3.heap.objs.size + 1) scope.names (jhY X.env scope.names [])).lookup x=some c->∃v,(pushCells (s3.heap.push { cls:=.type "dict",data:=.dict #[] }) scope.names).IsCell c v:=by
  have:=jf1 scope.names (s3.heap.push { cls:=.type "dict",data:=.dict #[] }) (jhY X.env scope.names []) fun x c e=>by
   obtain⟨v,z⟩:=I3.cell x c (jbv _ _ (C.cells I3) (fun _ _ z=>by simp at z) _ _ e)
   exact⟨v,z.keeps fun b o e=>ju2 _ e⟩
  rwa [Heap.size_push]at this
 have hns₁:(pushCells (s3.heap.push { cls:=.type "dict",data:=.dict #[] }) scope.names).Ns s3.heap.objs.size fun _=>none:=Heap.Ns.keeps ⟨_,_,_,ju4 _ rfl,rfl,(fun e he=>by simp at he),fun _=>rfl⟩ hsb₁
 revert hsb₁ hcl hns₁
 generalize hh1:pushCells (s3.heap.push { cls:=.type "dict",data:=.dict #[] }) scope.names=h₁;intro hsb₁ hcl hns₁;have kp:∀b o,s3.heap.get? b=some o->h₁.get? b=some o:=fun b o e=>hsb₁ b o (ju2 _ e);let EE:Value->Shared->Prop:=notedBy (model X.prog X.w) X.A (cxComp X N scope s3 H3 fp (fun _ _=>False)).env (fun e s''=>RR (.ref l) s3.heap.objs.size (.error e) s'');have IY:=jl4 (fp:=fp) (E:=EE) C I3 fo3 ft3 (tk:=s3.toks) hns₁ kp hcl;have aY:Agr nt caps σ (jl3 nt caps σ):=⟨by unfold jl3;simp,fun m j h=>jjL h⟩
 have hrl:ρ.length=σ.length:=r.len;have loop:∀s₄:Shared,s₄={ s3 with heap:=h₁,toks:=s3.toks } ->
   codeAny (model X.prog X.w) X.A (.compLoop (.ListComp elt [⟨tg,iter,ks,0⟩] scope pos) 0 (.ref it) (.ref l) (cxComp X N scope s3 H3 fp EE).env) (RR (.ref l) s3.heap.objs.size) s₄:=by
  rintro s₄ rfl;let P:=CompI X N scope fp nt caps σ Z B ρ F H ls tn (jcX tgs one nt caps fc fe) xs rs s3 H3 EE l;refine je3 P ?_ (xs.length + 1)
   ⟨0,_,F,H3,ρ,[],[],rfl,Nat.zero_le _,IY,aY,r3,ex3.go,GK.refl.ext r.dom W.lst ex3,W.keep _ _ _ st3 (fun b _ o e=>kp b o e),fun b hb=>(fo3 b hb).1,(by rw[List.drop_zero,hY];cases rs with | ok q=>rfl | err c=>rfl | stk=>rfl),nFl,nOl,hl3,.nil,ju7 _⟩
  rintro k s' ⟨i,σ',F',H',ρ1,yi,vs,rfl,hi,I',a',r',g',gk',st',fr',hZ',nF',nO',hl',rep',hyi⟩;have fo':=jjO (E:=EE) C I3 fo3 ft3 (pins':=[]) (H':=H') (fun b _ p h=>by simp at h) fr'
  by_cases hlt:i < xs.length
  ·have hx:xs[i]?=some xs[i]:=jur hlt;let jb9 (p:Option D×Rho):R (List D×Rho):=(compGo (jcX tgs one nt caps fc fe) (xs.drop (i + 1)) p.2).bind fun q=>.ok (yi++(match p.1 with | some d=>d::q.1 | none=>q.1),q.2)
   have hZ2:(jcX tgs one nt caps fc fe xs[i] ρ1).bind jb9=rs:=by
    rw[<-hZ',List.drop_eq_getElem_cons hlt];simp only[compGo,R.bind_assoc,R.bind_ok',jb9] <;> rfl
   clear hZ';unfold jcX at hZ2;cases hp:putT tgs one xs[i] (jeG nt caps ρ1)with
   |err c=>exact absurd hp jgY
   |stk=>rw[hp]at hZ2;exact absurd hZ2.symm hk
   |ok ρ2=>
   rw[hp,R.bind_ok']at hZ2;have r0:=jjM nd a' r';refine ju0 (W.take (cxComp X N scope s3 H3 fp EE) rfl rfl hZ hc C.nd tgs one (hT s3 H3 EE) i [] s' σ' _ ρ2 _ F' H' _ I' r0 gk' fo' st' hx hp) (fun q s1 hzz=>?_) fun _ _ z=>z;obtain⟨u,hq,h1⟩:=hzz;subst hq;refine ju0 h1 (fun _ s2 h2=>ju0 h2 (fun _ s4 hzz=>?_) fun _ _ z=>z) fun _ _ z=>z;obtain⟨σ4,F4,H4,I4,r4,g4,gk4,st4,fr4,ag4⟩:=hzz;have foY:∀b∈fp,FpOk (cxComp X N scope s3 H3 fp EE) [] H4 b:=jjO C I3 fo3 ft3 (pins':=[]) (H':=H4) (fun b _ p h=>by simp at h) fr4
   have I4p:=I4.pinned foY (W.obj _ _ st4);obtain⟨pl,pg⟩:=jl5 hp;have a4:Agr nt caps σ σ4:=by
    refine⟨?_,fun m j h=>?_⟩
    ·rw[<-r4.len,pl,jcG]
    ·rw[ag4 (nt + m) fun z=>absurd (hlow _ z) (by omega)];exact a'.2 m j h
   have hc1:∀j∈caps,j < ρ1.length:=fun j hj=>by rw[r'.len,<-hrl];exact hcap j hj
   have hls1:∀l∈ls,¬Mb σ ρ1 l:=fun l hl z=>by
    rcases g'.mb z with z | z
    ·exact hls l hl z
    ·obtain⟨o,e⟩:=W.lst l hl;rw[e]at z;cases z
   have back:∀{inn:Rho}{F5:Addr->Prop}{H5:Hp},SR Z (jcW nt caps B) F5 H5 σ4 inn->Go σ4 ρ2 F4 H4 σ4 inn F5 H5->SR Z B F5 H5 σ (jaH caps nt inn ρ1)/\Go σ ρ1 F' H' σ (jaH caps nt inn ρ1) F5 H5:=fun {inn F5 H5} r5 g5=>jjN nd a' a4 r' hc1 r5 (g4.trans g5);have pinK:∀{s5:Shared}{H5:Hp},Inv (cxComp X N scope s3 H3 fp EE) ([]++jbV fp s4.heap) σ4 H5 s5->tn (i + 1) s5.heap/\∀b∈fp,H5 b=none:=fun {s5 H5} I5=>by
    refine⟨W.keep _ _ _ st4 fun b hb o e=>(I5.pin (b,o) (juC _ (juC _ (jbe hb e)))).1,fun b hb=>?_⟩;obtain⟨ob,e,_⟩:=W.obj _ _ st4 b hb;exact(I5.pin (b,ob) (juC _ (juC _ (jbe hb e)))).2.1
   have exc:∀{c:Nat}{ρ5:Rho}{F5:Addr->Prop}{H5:Hp},rs=.err c->Go σ4 ρ2 F4 H4 σ4 ρ5 F5 H5->XW Z (cxComp X N scope s3 H3 fp EE) σ4 ρ5 H5 c:=fun {c ρ5 F5 H5} e g5 pins' H6 s6 ea Cc hC I6 stl fly=>by
    have st2:Stl σ' (jeG nt caps ρ1) H' H6:=Stl.go g4 (Stl.go g5 stl);have st1:Stl σ ρ1 H' H6:=⟨fun b o e n=>st2.stay b o e fun m=>n (jf2 a' m),st2.there⟩;subst hH3;exact hRX c EE s3 l σ4 H6 s6 pins' ea Cc e hl I3 hC I6 (Stl.go g' st1) fly
   have skip:∀(s5:Shared) (inn:Rho) (F5:Addr->Prop) (H5:Hp),Inv (cxComp X N scope s3 H3 fp EE) ([]++jbV fp s4.heap) σ4 H5 s5->SR Z (jcW nt caps B) F5 H5 σ4 inn->Go σ4 ρ2 F4 H4 σ4 inn F5 H5->jb9 (none,jaH caps nt inn ρ1)=rs->∃m,m < xs.length + 1 - i/\P m s5:=by
    intro s5 inn F5 H5 I5 r5 g5 eo;obtain⟨rB,gB⟩:=back r5 g5;obtain⟨st5,fr5⟩:=pinK I5;obtain⟨l1,l2,l3⟩:=gB.side hl' nF' nO';exact⟨xs.length + 1 - (i + 1),Nat.sub_lt_sub_left (Nat.lt_succ_of_lt hlt) (Nat.lt_succ_self i),i + 1,σ4,F5,H5,_,yi,vs,rfl,hlt,I5.unpinned,a4,rB,g'.trans gB,gk'.go W.lst r' gB hls1,st5,fr5,eo,l2,l3,l1,rep'.mono (gB.keep r'),by omega⟩
   have elt_:∀(s5:Shared) (ρ5:Rho) (F5:Addr->Prop) (H5:Hp),Inv (cxComp X N scope s3 H3 fp EE) ([]++jbV fp s4.heap) σ4 H5 s5->SR Z (jcW nt caps B) F5 H5 σ4 ρ5->Go σ4 ρ2 F4 H4 σ4 ρ5 F5 H5 ->
     ((fe ρ5).bind fun p=>(toD p.1 p.2).bind fun q=>(.ok (some q.1,jaH caps nt q.2 ρ1):R (Option D×Rho))).bind jb9=rs ->
     wpAny (model X.prog X.w) X.A (eval elt (cxComp X N scope s3 H3 fp EE).env) (fun x s₄=>wpAny (model X.prog X.w) X.A (call (.builtin "list.append") [.ref l,x]) (fun _ s₅=>∃m,m < xs.length + 1 - i/\P m s₅) EE s₄) EE s5:=by
    intro s5 ρ5 F5 H5 I5 r5 g5 ho;refine ju0 (hE s3 H3 EE (jcW nt caps B) ([]++jbV fp s4.heap) s5 σ4 H5 (fun v H6=>∃(q:D×Rho) (F6:Addr->Prop),jb9 (some q.1,jaH caps nt q.2 ρ1)=rs/\Go σ4 ρ2 F4 H4 σ4 q.2 F6 H6/\SR Z (jcW nt caps B) F6 H6 σ4 q.2/\Rep Z F6 H6 q.1 v) I5 ⟨F5,ρ5,r5,?_⟩) (fun u s6 hzz=>?_) fun _ _ z=>z
    ·cases hd:fe ρ5 with
     |stk=>rw[hd]at ho;exact absurd ho.symm hk
     |err c=>rw[hd]at ho;exact exc ho.symm g5
     |ok p=>
      rw[hd,R.bind_ok']at ho;intro v F6 H6 g6 r6 rv6;cases hq:toD p.1 p.2 with
      |stk=>rw[hq]at ho;exact absurd ho.symm hk
      |err c=>exact absurd hq jcT
      |ok q=>
       rw[hq,R.bind_ok',R.bind_ok']at ho;obtain⟨F7,g7,r7,rp,_⟩:=jgX (rv6.base fun l z=>g5.free z) r6 (g5.trans g6) hq;exact⟨q,F7,ho,g7,r7,rp⟩
    ·obtain⟨v,H6,I6,rv,q,F6,ho,g6,r6,rp6⟩:=hzz;obtain⟨rB,gB⟩:=back r6 g6;obtain⟨l1,l2,l3⟩:=gB.side hl' nF' nO';have hvl:vs.length < sizeLine:=by
      have:=rep'.length;have:=W.len;omega
     refine ju0 (jeP (X:=cxComp X N scope s3 H3 fp EE) ([]++jbV fp s4.heap) s6 σ4 H6 (.ref l) [v] (.ref l) [u] (fun _ H7=>H7=upd H6 l (.lst (vs++[v]))) I6 rfl (.cons rv .nil) ⟨l,vs,v,rfl,rfl,l1,hvl,rfl⟩) (fun _ s7 hzz=>?_) fun _ _ z=>z;obtain⟨_,H7,I7,_,e7⟩:=hzz;subst e7;obtain⟨kp7,r7⟩:=rB.oth (u:=.lst (vs++[v])) l2 l3;obtain⟨st7,fr7⟩:=pinK I7;have gA:Go σ ρ F H σ (jaH caps nt q.2 ρ1) F6 (upd H6 l (.lst (vs++[v]))):=by
      have g0:=g'.trans gB;refine⟨fun b ob e n=>?_,g0.sub,g0.new,g0.ow,fun b ob e=>?_⟩
      ·rw[jac (jab e hl)];exact g0.stay b ob e n
      ·rw[jac (jab e hl)];exact g0.there b ob e
     have gkA:GK F H ls F6 (upd H6 l (.lst (vs++[v]))):=by
      have gk0:=gk'.go W.lst r' gB hls1;refine⟨gk0.keep.trans kp7,fun b hb=>?_⟩;obtain⟨ob,e⟩:=W.lst b hb;rw[jac (jab e hl)];exact gk0.ls b hb
     refine⟨xs.length + 1 - (i + 1),Nat.sub_lt_sub_left (Nat.lt_succ_of_lt hlt) (Nat.lt_succ_self i),i + 1,σ4,F6,_,_,yi++[q.1],vs++[v],rfl,hlt,I7.unpinned,a4,r7,gA,gkA,st7,fr7,?_,l2,l3,jak,((rep'.mono (gB.keep r')).mono kp7).append (.one (rp6.mono kp7)),by rw[juF,List.length_singleton];omega⟩
     rw[<-ho];simp only[jb9,juR,List.cons_append,List.nil_append]
   rcases hK with ⟨rfl,rfl⟩ | ⟨k,g,rfl,rfl,hkc⟩
   ·refine wpAny_tests_nil ?_;rw[if_pos rfl];exact elt_ s4 ρ2 F4 H4 I4p r4 Go.refl hZ2
   ·refine wpAny_tests_one ?_;refine ju0 (hkc s3 H3 EE (jcW nt caps B) ([]++jbV fp s4.heap) s4 σ4 H4 (fun b' H5=>∃(b:Bool×Rho) (F5:Addr->Prop),b'=b.1/\((if b.1 then (fe b.2).bind fun p=>(toD p.1 p.2).bind fun q=>.ok (some q.1,jaH caps nt q.2 ρ1)else .ok (none,jaH caps nt b.2 ρ1):R (Option D×Rho))).bind jb9=rs/\Go σ4 ρ2 F4 H4 σ4 b.2 F5 H5/\SR Z (jcW nt caps B) F5 H5 σ4 b.2) I4p ⟨F4,ρ2,r4,?_⟩) (fun b' s5 hzz=>?_) fun _ _ z=>z
    ·dsimp only at hZ2;cases hb:g ρ2 with
     |stk=>rw[hb]at hZ2;exact absurd hZ2.symm hk
     |err c=>rw[hb]at hZ2;exact exc hZ2.symm Go.refl
     |ok b=>
      rw[hb,R.bind_ok']at hZ2;exact fun F5 H5 g5 r5=>⟨b,F5,rfl,hZ2,g5,r5⟩
    ·obtain⟨H5,I5,b,F5,eb,ho,g5,r5⟩:=hzz;subst eb;cases hb1:b.1 with
     |true=>
      rw[if_pos rfl];rw[hb1,if_pos rfl]at ho;exact elt_ s5 b.2 F5 H5 I5 r5 g5 ho
     |false=>
      rw[if_neg (by decide)]
      rw[hb1,if_neg (by decide),R.bind_ok']at ho
      exact skip s5 b.2 F5 H5 I5 r5 g5 ho
  ·have hie:i=xs.length:=by omega
   subst hie;rw[List.drop_eq_nil_of_le (ju7 _)]at hZ';have hZ':(.ok (yi++[],ρ1):R (List D×Rho))=rs:=hZ';rw[juQ]at hZ';refine ju0 (W.done (cxComp X N scope s3 H3 fp EE) rfl rfl hZ hc [] s' σ' F' H' I' r'.dom gk' fo' st') (fun q s1 hzz=>?_) fun _ _ z=>z;obtain⟨hq,I1⟩:=hzz;subst hq;subst hH3;exact hRR yi ρ1 EE s3 l σ' F' H' s1 vs hZ'.symm hl I3 I1 g' r' nF' nO' hl' rep'
 exact codeAny_compStart_list (loop _ rfl) (W.self _ 0 _ _ _ (W.keep _ _ _ st3 fun b _ o e=>kp b o e) (loop _ rfl))
end
end DJ
namespace DJ
open PySem PySem.Spec PyProof.Rows L2
theorem jaV {n:Nat}(h:fits n=true):n<=sizeLine:=by
 unfold fits at h;rw[sizeLine_eq];simpa using h
noncomputable def Op.py:Op->Operator
 |.add=>.Add | .sub=>.Sub | .mul=>.Mult | .fdiv=>.FloorDiv | .mod=>.Mod | .pow=>.Pow
noncomputable def jqf:R Vl->Prop
 |.ok (.slot _)=>False
 |.err _=>False
 |_=>True
theorem jcH {c:Prop}[Decidable c]{r:R Vl}(h:jqf r):jqf (if c then r else .stk):=by
 split
 ·exact h
 ·trivial
theorem jl7 {a b:Int}{o:Op}:jqf (opZ a b o):=by
 cases o <;> first | trivial | exact jcH trivial
theorem jea {v:R Vl}{o:Op}(h:jqf v):jqf (opC v o):=by
 cases o <;> first | exact h | trivial
theorem jg2 {o:Op}{x y:D}:jqf (opD o x y):=by
 cases x with
 |int a=>cases y with
  |int b=>exact jl7
  |_=>trivial
 |tup a=>cases y with
  |tup b=>exact jea (jcH trivial)
  |_=>trivial
 |lst a=>cases y with
  |lst b=>exact jea (jcH trivial)
  |_=>trivial
 |str a=>cases y with
  |str b=>exact jea (jcH trivial)
  |_=>trivial
 |_=>trivial
theorem joS {o:Op}{x y:D}{c:Nat}:opD o x y≠.err c:=fun h=>by
 have:=jg2 (o:=o) (x:=x) (y:=y);rw[h]at this;exact this
theorem jl8 {o:Op}{x y:D}{i:Nat}:opD o x y≠.ok (.slot i):=fun h=>by
 have:=jg2 (o:=o) (x:=x) (y:=y);rw[h]at this;exact this
theorem jcY {w:Vl}{p:Prop}(h:(.stk:R Vl)=.ok w):p:=nomatch h
theorem jbj {c:Prop}[Decidable c]{v w:Vl}(h:(if c then .ok v else .stk:R Vl)=.ok w):c/\v=w:=by
 split at h
 ·cases h;exact⟨‹_›,rfl⟩
 ·exact jcY h
theorem jjP {v:R Vl}{w:Vl}{o:Op}(h:opC v o=.ok w):o=.add/\v=.ok w:=by
 cases o with
 |add=>exact⟨rfl,h⟩
 |_=>exact jcY h
section
variable {Z:Kn}{X:Cx}
noncomputable def jsU (i j:Int):Prop:=0 < j/\j < 2 ^ 64
theorem jl9:OpR X (binaryOp .FloorDiv) (rI jsU fun i j=>.int (i / j)):=opI fun i j _ _ _ _ _ hc q=>by
 have h1:(0:Int) < j:=hc.1;have h2:j < 2 ^ 64:=hc.2;refine floordiv_int (by omega) (by rw[Int.fdiv_eq_ediv_of_nonneg i (by omega)];exact q) (.inl (PyProof.noPylong_of_log2 ?_))
 have h3:j.natAbs < 2 ^ 64:=by omega
 have h4:j.natAbs.log2 < 64:=(Nat.log2_lt (by omega)).mpr h3
 omega
theorem jsV (hZ:X.K=Z.K)(o:Op):OpR X (binaryOp o.py) (rD2 Z (opD o)):=by
 intro pins s σ H x y v u Q I rx ry h;obtain⟨F,dx,dy,w,dm,bx,by_,hw,h⟩:=h;have sqT:∀{a:Addr}{vs:List V},FT Z.K F H a vs->SqT X.K H a vs:=fun q=>by rw[hZ];exact q.sq
 cases dx with
 |int i=>
  cases dy with
  |int j=>
   cases bx.int;cases by_.int;cases o with
   |add=>cases hw;exact jqF pins s σ H _ _ v u Q I rx ry ⟨_,_,rfl,rfl,h.int dm⟩
   |sub=>cases hw;exact jqG pins s σ H _ _ v u Q I rx ry ⟨_,_,rfl,rfl,h.int dm⟩
   |mul=>obtain⟨hf,rfl⟩:=jbj hw;exact jqH pins s σ H _ _ v u Q I rx ry ⟨_,_,rfl,rfl,hf,h.int dm⟩
   |fdiv=>obtain⟨hf,rfl⟩:=jbj hw;exact jl9 pins s σ H _ _ v u Q I rx ry ⟨_,_,rfl,rfl,hf,h.int dm⟩
   |mod=>obtain⟨hf,rfl⟩:=jbj hw;exact jqI pins s σ H _ _ v u Q I rx ry ⟨_,_,rfl,rfl,hf,h.int dm⟩
   |pow=>obtain⟨hf,rfl⟩:=jbj hw;exact jqJ pins s σ H _ _ v u Q I rx ry ⟨_,_,rfl,rfl,hf,h.int dm⟩
  |_=>exact jcY hw
 |tup as=>
  cases dy with
  |tup bs=>
   obtain⟨rfl,hw⟩:=jjP hw;obtain⟨hf,rfl⟩:=jbj hw;obtain⟨a,vs,rfl,ft,ra⟩:=bx.tup;obtain⟨b,us,rfl,fu,rb⟩:=by_.tup;have hl:vs.length + us.length<=sizeLine:=by rw[<-ra.length,<-rb.length];exact jaV hf
   by_cases hv:vs=[]
   ·subst hv;have ea:as=[]:=List.eq_nil_of_length_eq_zero (by rw[ra.length];rfl)
    subst ea;exact jlu pins s σ H _ _ v u Q I rx ry ⟨a,b,us,rfl,rfl,sqT ft,sqT fu,h.tupOld dm fu rb⟩
   ·refine jog pins s σ H _ _ v u Q I rx ry ⟨a,b,vs,us,rfl,rfl,sqT ft,sqT fu,hv,hl,fun e=>?_,fun _=>h.tup dm (ra.append rb)⟩;subst e;have eb:bs=[]:=List.eq_nil_of_length_eq_zero (by rw[rb.length];rfl)
    subst eb;rw[juQ]at h;exact h.tupOld dm ft ra
  |_=>exact jcY hw
 |lst as=>
  cases dy with
  |lst bs=>
   obtain⟨rfl,hw⟩:=jjP hw;obtain⟨hf,rfl⟩:=jbj hw;obtain⟨a,vs,rfl,ft,ra⟩:=bx.lst;obtain⟨b,us,rfl,fu,rb⟩:=by_.lst;have hl:vs.length + us.length<=sizeLine:=by rw[<-ra.length,<-rb.length];exact jaV hf
   exact jom pins s σ H _ _ v u Q I rx ry ⟨a,b,vs,us,rfl,rfl,(by rw[hZ];exact ft),(by rw[hZ];exact fu),hl,h.lst dm (ra.append rb)⟩
  |_=>exact jcY hw
 |str x=>
  cases dy with
  |str y=>
   obtain⟨rfl,hw⟩:=jjP hw;obtain⟨hf,rfl⟩:=jbj hw;cases bx.str;cases by_.str;exact jhG pins s σ H _ _ v u Q I rx ry ⟨_,_,rfl,rfl,jaV hf,h.sc dm (by simp only[Rep])⟩
  |_=>exact jcY hw
 |_=>exact jcY hw
end
section
variable {Z:Kn}{X:Cx}{pins:List (Addr×Obj)}{s:Shared}{σ:L2.St}{H:Hp}{F:Addr->Prop}
theorem RepB.isTup (hZ:X.K=Z.K)(I:Inv X pins σ H s){ds:List D}{v:V}{u:Value}(h:RepB Z F H (.tup ds) v)(r:RelV v u):∃a vs its,u=.ref a/\Reps Z F H ds vs/\Vals vs its/\s.heap.IsTuple a its.toArray:=by
 obtain⟨a,vs,rfl,ft,rr⟩:=h.tup;cases r;obtain⟨its,rv,p,_⟩:=I.tuple (show SqT X.K H a vs by rw[hZ];exact ft.sq)
 exact⟨a,vs,its,rfl,rr,rv,p⟩
theorem RepB.isLst (hZ:X.K=Z.K)(I:Inv X pins σ H s){ds:List D}{v:V}{u:Value}(h:RepB Z F H (.lst ds) v)(r:RelV v u):∃a vs its,u=.ref a/\Reps Z F H ds vs/\Vals vs its/\s.heap.IsList a its.toArray:=by
 obtain⟨a,vs,rfl,ft,rr⟩:=h.lst;cases r;obtain⟨its,rv,p,_⟩:=I.list (show SqL X.K H a vs by rw[hZ];exact ft)
 exact⟨a,vs,its,rfl,rr,rv,p.isList⟩
theorem jjQ {h:Heap}{a:Addr}{x y:Array Value}(p:h.IsTuple a x)(q:h.IsTuple a y):x=y:=by
 obtain⟨o,e,_,n,d⟩:=p;obtain⟨o',e',_,n',d'⟩:=q;rw[e]at e';cases e';rw[d]at d';cases d';rfl
theorem jjR {h:Heap}{a:Addr}{x y:Array Value}(p:h.IsList a x)(q:h.IsList a y):x=y:=by
 obtain⟨o,e,_,n,d⟩:=p;obtain⟨o',e',_,n',d'⟩:=q;rw[e]at e';cases e';rw[d]at d';cases d';rfl
mutual
theorem jcI (hZ:X.K=Z.K)(I:Inv X pins σ H s):∀{d e:D}{v w:V}{u:Value},RepB Z F H d v->RepB Z F H e w->RelV v u->RelV w u->jbh d=true->jbh e=true->d=e
 |.non,e,v,w,u,hd,he,rv,rw',cd,ce=>by
  cases hd.non;cases rv;cases e with
  |non=>rfl
  |bl b=>cases he.bl;cases rw'
  |int i=>cases he.int;obtain⟨t,z⟩:=rw';cases z
  |str x=>cases he.str;obtain⟨t,z⟩:=rw';cases z
  |tup xs=>obtain⟨a,vs,its,z,_⟩:=he.isTup hZ I rw';cases z
  |lst xs=>obtain⟨a,vs,its,z,_⟩:=he.isLst hZ I rw';cases z
  |dct _ _=>cases ce
  |exc _=>cases ce
 |.bl b,e,v,w,u,hd,he,rv,rw',cd,ce=>by
  cases hd.bl;cases rv;cases e with
  |non=>cases he.non;cases rw'
  |bl b'=>cases he.bl;cases rw';rfl
  |int i=>cases he.int;obtain⟨t,z⟩:=rw';cases z
  |str x=>cases he.str;obtain⟨t,z⟩:=rw';cases z
  |tup xs=>obtain⟨a,vs,its,z,_⟩:=he.isTup hZ I rw';cases z
  |lst xs=>obtain⟨a,vs,its,z,_⟩:=he.isLst hZ I rw';cases z
  |dct _ _=>cases ce
  |exc _=>cases ce
 |.int i,e,v,w,u,hd,he,rv,rw',cd,ce=>by
  cases hd.int;obtain⟨t,rfl⟩:=rv;cases e with
  |non=>cases he.non;cases rw'
  |bl b'=>cases he.bl;cases rw'
  |int i=>cases he.int;obtain⟨t,z⟩:=rw';cases z;rfl
  |str x=>cases he.str;obtain⟨t,z⟩:=rw';cases z
  |tup xs=>obtain⟨a,vs,its,z,_⟩:=he.isTup hZ I rw';cases z
  |lst xs=>obtain⟨a,vs,its,z,_⟩:=he.isLst hZ I rw';cases z
  |dct _ _=>cases ce
  |exc _=>cases ce
 |.str i,e,v,w,u,hd,he,rv,rw',cd,ce=>by
  cases hd.str;obtain⟨t,rfl⟩:=rv;cases e with
  |non=>cases he.non;cases rw'
  |bl b'=>cases he.bl;cases rw'
  |int i=>cases he.int;obtain⟨t,z⟩:=rw';cases z
  |str x=>cases he.str;obtain⟨t,z⟩:=rw';cases z;rfl
  |tup xs=>obtain⟨a,vs,its,z,_⟩:=he.isTup hZ I rw';cases z
  |lst xs=>obtain⟨a,vs,its,z,_⟩:=he.isLst hZ I rw';cases z
  |dct _ _=>cases ce
  |exc _=>cases ce
 |.tup ds,e,v,w,u,hd,he,rv,rw',cd,ce=>by
  obtain⟨a,vs,its,rfl,rr,rs,p⟩:=hd.isTup hZ I rv;cases e with
  |non=>cases he.non;cases rw'
  |bl b'=>cases he.bl;cases rw'
  |int i=>cases he.int;obtain⟨t,z⟩:=rw';cases z
  |str x=>cases he.str;obtain⟨t,z⟩:=rw';cases z
  |tup xs=>
   obtain⟨b,vs',its',z,rr',rs',p'⟩:=he.isTup hZ I rw';cases z;have:=jjQ p p';have:its=its':=by simpa using this
   subst this;simp only[jbh]at cd ce;rw[reps_same hZ I rr rr' rs rs' cd ce]
  |lst xs=>obtain⟨b,vs',its',z,rr',rs',p'⟩:=he.isLst hZ I rw';cases z;exact absurd rfl (SeqAt.ne_of_list_tuple p' p)
  |dct _ _=>cases ce
  |exc _=>cases ce
 |.lst ds,e,v,w,u,hd,he,rv,rw',cd,ce=>by
  obtain⟨a,vs,its,rfl,rr,rs,p⟩:=hd.isLst hZ I rv;cases e with
  |non=>cases he.non;cases rw'
  |bl b'=>cases he.bl;cases rw'
  |int i=>cases he.int;obtain⟨t,z⟩:=rw';cases z
  |str x=>cases he.str;obtain⟨t,z⟩:=rw';cases z
  |tup xs=>obtain⟨b,vs',its',z,rr',rs',p'⟩:=he.isTup hZ I rw';cases z;exact absurd rfl (SeqAt.ne_of_list_tuple p p')
  |lst xs=>
   obtain⟨b,vs',its',z,rr',rs',p'⟩:=he.isLst hZ I rw';cases z;have:=jjR p p';have:its=its':=by simpa using this
   subst this;simp only[jbh]at cd ce;rw[reps_same hZ I rr rr' rs rs' cd ce]
  |dct _ _=>cases ce
  |exc _=>cases ce
 |.dct _ _,_,_,_,_,_,_,_,_,cd,_=>by cases cd
 |.exc _,_,_,_,_,_,_,_,_,cd,_=>by cases cd
theorem reps_same (hZ:X.K=Z.K)(I:Inv X pins σ H s):∀{ds es:List D}{vs ws:List V}{us:List Value},Reps Z F H ds vs->Reps Z F H es ws->Vals vs us->Vals ws us->cmpDs ds=true->cmpDs es=true->ds=es
 |[],es,vs,ws,us,hd,he,rv,rw',cd,ce=>by
  simp only[Reps]at hd;subst hd;cases rv;cases rw';cases es with
  |nil=>rfl
  |cons e es=>obtain⟨_,_,z,_⟩:=he.uncons;cases z
 |d::ds,es,vs,ws,us,hd,he,rv,rw',cd,ce=>by
  obtain⟨v,vs',rfl,h1,h2⟩:=hd.uncons;cases rv with
  |cons r1 r2=>
   cases rw' with
   |cons q1 q2=>
    cases es with
    |nil=>simp only[Reps]at he;cases he
    |cons e es=>
     obtain⟨w,ws',z,g1,g2⟩:=he.uncons;cases z;simp only[cmpDs,jvc]at cd ce;rw[jcI hZ I (.inl h1) (.inl g1) r1 q1 cd.1 ce.1,reps_same hZ I h2 g2 r2 q2 cd.2 ce.2]
end
mutual
theorem jeb:∀{d:D},jbh d=true->eqD d d=true
 |.non,_=>rfl
 |.bl b,_=>by simp[eqD]
 |.int i,_=>by simp[eqD]
 |.str x,_=>by simp[eqD]
 |.tup xs,h=>by simp only[jbh]at h;simp only[eqD];exact eqDs_refl h
 |.lst xs,h=>by simp only[jbh]at h;simp only[eqD];exact eqDs_refl h
 |.dct _ _,h=>by cases h
 |.exc _,h=>by cases h
theorem eqDs_refl:∀{ds:List D},cmpDs ds=true->eqDs ds ds=true
 |[],_=>rfl
 |d::ds,h=>by
  simp only[cmpDs,jvc]at h;simp only[eqDs,jvc];exact⟨jeb h.1,eqDs_refl h.2⟩
end
theorem jbw:∀{ds es:List D},eqDs ds es=(decide (ds.length=es.length) && (List.range (min ds.length es.length)).all fun j=>eqD (ds.getD j .non) (es.getD j .non))
 |[],[]=>rfl
 |[],_::_=>by simp[eqDs]
 |_::_,[]=>by simp[eqDs]
 |d::ds,e::es=>by
  have ih:=jbw (ds:=ds) (es:=es);simp only[eqDs,ih,juB,Nat.succ_min_succ,List.range_succ_eq_map,List.all_cons,List.getD_cons_zero,List.all_map,Function.comp_def,List.getD_cons_succ,Nat.add_right_cancel_iff];cases eqD d e <;> cases decide (ds.length=es.length) <;> simp
theorem Reps.vals {ds:List D}{vs:List V}{us:List Value}(h:Reps Z F H ds vs)(r:Vals vs us){j:Nat}(hj:j < us.length):∃v,Rep Z F H (ds.getD j .non) v/\RelV v us[j]/\ds.length=us.length:=by
 have l1:=h.length;have l2:=r.length;obtain⟨v,e1,e2⟩:=h.get (jur (show j < ds.length by omega))
 obtain⟨u,e3,e4⟩:=r.get e1;rw[jur hj]at e3;cases e3;refine⟨v,?_,e4,by omega⟩
 rw[juz,jur (show j < ds.length by omega)]
 exact e2
theorem jaM:∀{ds:List D}{j:Nat},cmpDs ds=true->jbh (ds.getD j .non)=true
 |[],j,_=>by simp[jbh]
 |d::ds,0,h=>by simp only[cmpDs,jvc]at h;simpa using h.1
 |d::ds,j + 1,h=>by
  simp only[cmpDs,jvc]at h;rw[List.getD_cons_succ];exact jaM h.2
theorem jbE:∀{ds:List D}{j:Nat},deep (ds.getD j .non)<=deeps ds
 |[],j=>by simp[deep]
 |d::ds,0=>by simp only[deeps,List.getD_cons_zero];exact Nat.le_max_left _ _
 |d::ds,j + 1=>by
  rw[List.getD_cons_succ];simp only[deeps];exact jva jbE (Nat.le_max_right _ _)
open SeqAt in
theorem jf3 (hZ:X.K=Z.K)(I:Inv X pins σ H s):∀(n:Nat) {A:Around}{d e:D}{v w:V}{u u':Value},deep d<=n->A.units + n < cLine->RepB Z F H d v->RepB Z F H e w->RelV v u->RelV w u'->jbh d=true->jbh e=true->RcAt A s u u' (eqD d e)/\EqAt A s u u' (eqD d e):=by
 intro n;induction n with
 |zero=>
  intro A d e v w u u' hn hu hd he rv rw' cd ce;have hu:A.units < cLine:=by omega
  cases d with
  |non=>
   cases hd.non;cases rv;cases e with
   |non=>cases he.non;cases rw';exact⟨RcAt.none_none,EqAt.same _⟩
   |bl b=>cases he.bl;cases rw';exact⟨RcAt.none_bool b,EqAt.none_bool b⟩
   |int i=>cases he.int;obtain⟨t,rfl⟩:=rw';exact⟨RcAt.none_int i t,EqAt.none_int i t⟩
   |str x=>cases he.str;obtain⟨t,rfl⟩:=rw';exact⟨RcAt.none_str x t,EqAt.none_str x t⟩
   |tup xs=>obtain⟨a,vs,its,rfl,_,_,p⟩:=he.isTup hZ I rw';exact⟨RcAt.none_tuple p hu,EqAt.none_tuple p hu⟩
   |lst xs=>obtain⟨a,vs,its,rfl,_,_,p⟩:=he.isLst hZ I rw';exact⟨RcAt.none_list p hu,EqAt.none_list p hu⟩
   |dct _ _=>cases ce
   |exc _=>cases ce
  |bl b0=>
   cases hd.bl;cases rv;cases e with
   |non=>cases he.non;cases rw';exact⟨RcAt.bool_none b0,EqAt.bool_none b0⟩
   |bl b=>cases he.bl;cases rw';exact⟨RcAt.bool_bool b0 b,EqAt.bool_bool b0 b⟩
   |int i=>cases he.int;obtain⟨t,rfl⟩:=rw';exact⟨RcAt.bool_int b0 i t,EqAt.bool_int b0 i t⟩
   |str x=>cases he.str;obtain⟨t,rfl⟩:=rw';exact⟨RcAt.bool_str b0 x t,EqAt.bool_str b0 x t⟩
   |tup xs=>obtain⟨a,vs,its,rfl,_,_,p⟩:=he.isTup hZ I rw';exact⟨RcAt.bool_tuple b0 p hu,EqAt.bool_tuple b0 p hu⟩
   |lst xs=>obtain⟨a,vs,its,rfl,_,_,p⟩:=he.isLst hZ I rw';exact⟨RcAt.bool_list b0 p hu,EqAt.bool_list b0 p hu⟩
   |dct _ _=>cases ce
   |exc _=>cases ce
  |int i0=>
   cases hd.int;obtain⟨t0,rfl⟩:=rv;cases e with
   |non=>cases he.non;cases rw';exact⟨RcAt.int_none i0 t0,EqAt.int_none i0 t0⟩
   |bl b=>cases he.bl;cases rw';exact⟨RcAt.int_bool i0 t0 b,EqAt.int_bool i0 t0 b⟩
   |int i=>cases he.int;obtain⟨t,rfl⟩:=rw';exact⟨RcAt.int_int i0 t0 i t,EqAt.int_int i0 t0 i t⟩
   |str x=>cases he.str;obtain⟨t,rfl⟩:=rw';exact⟨RcAt.int_str i0 t0 x t,EqAt.int_str i0 t0 x t⟩
   |tup xs=>obtain⟨a,vs,its,rfl,_,_,p⟩:=he.isTup hZ I rw';exact⟨RcAt.int_tuple i0 t0 p hu,EqAt.int_tuple i0 t0 p hu⟩
   |lst xs=>obtain⟨a,vs,its,rfl,_,_,p⟩:=he.isLst hZ I rw';exact⟨RcAt.int_list i0 t0 p hu,EqAt.int_list i0 t0 p hu⟩
   |dct _ _=>cases ce
   |exc _=>cases ce
  |str i0=>
   cases hd.str;obtain⟨t0,rfl⟩:=rv;cases e with
   |non=>cases he.non;cases rw';exact⟨RcAt.str_none i0 t0,EqAt.str_none i0 t0⟩
   |bl b=>cases he.bl;cases rw';exact⟨RcAt.str_bool i0 t0 b,EqAt.str_bool i0 t0 b⟩
   |int i=>cases he.int;obtain⟨t,rfl⟩:=rw';exact⟨RcAt.str_int i0 t0 i t,EqAt.str_int i0 t0 i t⟩
   |str x=>cases he.str;obtain⟨t,rfl⟩:=rw';exact⟨RcAt.str_str i0 t0 x t,EqAt.str_str i0 t0 x t⟩
   |tup xs=>obtain⟨a,vs,its,rfl,_,_,p⟩:=he.isTup hZ I rw';exact⟨RcAt.str_tuple i0 t0 p hu,EqAt.str_tuple i0 t0 p hu⟩
   |lst xs=>obtain⟨a,vs,its,rfl,_,_,p⟩:=he.isLst hZ I rw';exact⟨RcAt.str_list i0 t0 p hu,EqAt.str_list i0 t0 p hu⟩
   |dct _ _=>cases ce
   |exc _=>cases ce
  |tup _=>simp[deep]at hn
  |lst _=>simp[deep]at hn
  |dct _ _=>cases cd
  |exc _=>cases cd
 |succ n ih=>
  intro A d e v w u u' hn hu hd he rv rw' cd ce;have hu0:A.units < cLine:=by omega
  have hu1:A.in1.units + n < cLine:=by show A.units + 1 + n < cLine;omega
  have flat:deep d=0->RcAt A s u u' (eqD d e)/\EqAt A s u u' (eqD d e):=fun h0=>ih (by omega) (by omega) hd he rv rw' cd ce
  cases d with
  |non=>exact flat rfl
  |bl _=>exact flat rfl
  |int _=>exact flat rfl
  |str _=>exact flat rfl
  |dct _ _=>cases cd
  |exc _=>cases cd
  |tup ds=>
   obtain⟨a,vs,its,rfl,rr,rs,p⟩:=hd.isTup hZ I rv;cases e with
   |non=>cases he.non;cases rw';exact⟨RcAt.tuple_none p hu0,EqAt.tuple_none p hu0⟩
   |bl b=>cases he.bl;cases rw';exact⟨RcAt.tuple_bool b p hu0,EqAt.tuple_bool b p hu0⟩
   |int i=>cases he.int;obtain⟨t,rfl⟩:=rw';exact⟨RcAt.tuple_int i t p hu0,EqAt.tuple_int i t p hu0⟩
   |str x=>cases he.str;obtain⟨t,rfl⟩:=rw';exact⟨RcAt.tuple_str x t p hu0,EqAt.tuple_str x t p hu0⟩
   |lst xs=>obtain⟨b,vs',its',rfl,_,_,p'⟩:=he.isLst hZ I rw';exact⟨RcAt.tuple_list p p' hu0,EqAt.tuple_list p p' hu0⟩
   |dct _ _=>cases ce
   |exc _=>cases ce
   |tup es=>
    obtain⟨b,vs',its',rfl,rr',rs',p'⟩:=he.isTup hZ I rw';simp only[jbh]at cd ce;simp only[deep]at hn;have l1:ds.length=its.length:=by rw[rr.length,rs.length]
    have l2:es.length=its'.length:=by rw[rr'.length,rs'.length]
    have key:RcAt A s (.ref a) (.ref b) (eqD (.tup ds) (.tup es)):=by
     have:=RcAt.tuples (A:=A) (e:=fun j=>eqD (ds.getD j .non) (es.getD j .non)) p p' hu0 fun j h1 h2=>by
      obtain⟨v1,q1,q2,_⟩:=rr.vals rs (j:=j) (by simpa using h1)
      obtain⟨v2,q3,q4,_⟩:=rr'.vals rs' (j:=j) (by simpa using h2)
      exact(ih (jva jbE (by omega)) hu1 (.inl q1) (.inl q3) (by simpa using q2) (by simpa using q4) (jaM cd) (jaM ce)).2
     simp only[eqD];rw[jbw,Bool.and_comm];simp only[juv,<-l1,<-l2]at this;have e2:(ds.length == es.length)=decide (ds.length=es.length):=by rw[Bool.beq_eq_decide_eq]
     rw[<-e2];exact this
    refine⟨key,?_⟩;by_cases hab:a=b
    ·subst hab;rw[jcI hZ I hd he rv rw' (by simpa only[jbh] using cd) (by simpa only[jbh] using ce),jeb (by simpa only[jbh] using ce)]
     exact EqAt.same _
    ·exact EqAt.of_refs hab key
  |lst ds=>
   obtain⟨a,vs,its,rfl,rr,rs,p⟩:=hd.isLst hZ I rv;cases e with
   |non=>cases he.non;cases rw';exact⟨RcAt.list_none p hu0,EqAt.list_none p hu0⟩
   |bl b=>cases he.bl;cases rw';exact⟨RcAt.list_bool b p hu0,EqAt.list_bool b p hu0⟩
   |int i=>cases he.int;obtain⟨t,rfl⟩:=rw';exact⟨RcAt.list_int i t p hu0,EqAt.list_int i t p hu0⟩
   |str x=>cases he.str;obtain⟨t,rfl⟩:=rw';exact⟨RcAt.list_str x t p hu0,EqAt.list_str x t p hu0⟩
   |tup xs=>obtain⟨b,vs',its',rfl,_,_,p'⟩:=he.isTup hZ I rw';exact⟨RcAt.list_tuple p p' hu0,EqAt.list_tuple p p' hu0⟩
   |dct _ _=>cases ce
   |exc _=>cases ce
   |lst es=>
    obtain⟨b,vs',its',rfl,rr',rs',p'⟩:=he.isLst hZ I rw';simp only[jbh]at cd ce;simp only[deep]at hn;have l1:ds.length=its.length:=by rw[rr.length,rs.length]
    have l2:es.length=its'.length:=by rw[rr'.length,rs'.length]
    have key:RcAt A s (.ref a) (.ref b) (eqD (.lst ds) (.lst es)):=by
     by_cases hsz:its.length=its'.length
     ·have:=RcAt.lists (A:=A) (e:=fun j=>eqD (ds.getD j .non) (es.getD j .non)) p p' (by simpa using hsz) hu0 fun j h1 h2=>by
       obtain⟨v1,q1,q2,_⟩:=rr.vals rs (j:=j) (by simpa using h1)
       obtain⟨v2,q3,q4,_⟩:=rr'.vals rs' (j:=j) (by simpa using h2)
       exact(ih (jva jbE (by omega)) hu1 (.inl q1) (.inl q3) (by simpa using q2) (by simpa using q4) (jaM cd) (jaM ce)).2
      simp only[eqD];have hl:ds.length=es.length:=by omega
      rw[jbw,decide_eq_true hl,Bool.true_and,<-hl,Nat.min_self];simp only[juv,<-l1]at this;exact this
     ·have:=RcAt.lists_lengths (A:=A) p p' (by simpa using hsz) hu0
      simp only[eqD];rw[jbw,decide_eq_false (by omega),Bool.false_and]
      exact this
    refine⟨key,?_⟩;by_cases hab:a=b
    ·subst hab;rw[jcI hZ I hd he rv rw' (by simpa only[jbh] using cd) (by simpa only[jbh] using ce),jeb (by simpa only[jbh] using ce)]
     exact EqAt.same _
    ·exact EqAt.of_refs hab key
end
end DJ
namespace DJ
open PySem PySem.Spec PyProof.Rows L2
noncomputable def bD (g:D->D->R Bool):D->D->R Vl:=fun x y=>(g x y).bind fun c=>.ok (.dat (.bl c))
noncomputable def Cm.py:Cm->CmpOp
 |.eq=>.Eq | .ne=>.NotEq | .lt=>.Lt | .le=>.LtE | .gt=>.Gt | .ge=>.GtE | .isn=>.Is | .notn=>.IsNot
 |.isin=>.In | .notin=>.NotIn
theorem jg3:∀x y:List Int,lexLt x y=HT.lexLt x y
 |[],[]=>rfl
 |[],_::_=>rfl
 |_::_,[]=>rfl
 |x::xs,y::ys=>by
  rw[HT.jdn];simp only[lexLt];rw[jg3 xs ys]
theorem jcd {Z:Kn}{F:Addr->Prop}{H:Hp}:∀{ds:List D}{ns:List Int}{vs:List V},jaW ds=some ns->Reps Z F H ds vs->vs=ns.map V.int
 |[],ns,vs,h,r=>by simp only[Reps]at r;cases h;exact r
 |d::ds,ns,vs,h,r=>by
  simp only[Reps]at r;obtain⟨v,us,rfl,r1,r2⟩:=r;cases d with
  |int i=>
   simp only[jaW]at h;cases q:jaW ds with
   |none=>rw[q]at h;cases h
   |some ms=>
    rw[q]at h;cases h;simp only[Rep]at r1;rw[r1,jcd q r2];rfl
  |_=>cases h
theorem jjS {d:D}{c:Nat}:jaU d≠.err c:=by cases d <;> (intro z;cases z)
theorem jjT {x y:D}{c:Nat}:eqR x y≠.err c:=by unfold eqR;split <;> (intro z;cases z)
theorem joT {x y:D}{c:Nat}:inR x y≠.err c:=by
 intro h;unfold inR at h;cases e:jaU y with
 |ok ys=>rw[e,R.bind_ok']at h;split at h <;> cases h
 |err c=>exact jjS e
 |stk=>rw[e]at h;cases h
theorem jjU {x y:D}{c:Nat}:inX x y≠.err c:=by
 cases y with
 |str y=>cases x <;> (intro h;cases h)
 |_=>exact joT
theorem joU {x y:D}{c:Nat}:ltD x y≠.err c:=by
 intro h;unfold ltD at h;split at h <;> first | cases h | (split at h <;> cases h)
theorem jec {f:Int->Int->Bool}{x y:D}{c:Nat}:jrc f x y≠.err c:=by
 intro h;cases x with
 |int a=>cases y with
  |int b=>cases h
  |_=>cases h
 |_=>cases h
theorem jf4 {f:Int->Int->Bool}{x y:D}{c:Bool}(h:jrc f x y=.ok c):∃a b,x=.int a/\y=.int b/\c=f a b:=by
 cases x with
 |int a=>cases y with
  |int b=>cases h;exact⟨a,b,rfl,rfl,rfl⟩
  |_=>cases h
 |_=>cases h
theorem jjV {r:R Bool}{c:Nat}(hr:r≠.err c):(r.bind fun c=>(.ok (!c):R Bool))≠.err c:=by
 intro h;cases r with
 |ok b=>cases h
 |err c'=>cases h;exact hr rfl
 |stk=>cases h
theorem jnC {x:D}(h:isN x=true):x=.non:=by
 cases x with
 |non=>rfl
 |_=>cases h
theorem joV {o:Cm}{x y:D}{c:Nat}:cmD o x y≠.err c:=by
 cases o with
 |eq=>exact jjT
 |ne=>exact jjV jjT
 |lt=>exact joU
 |gt=>exact jec
 |le=>exact jec
 |ge=>exact jec
 |isn=>intro h;unfold cmD at h;dsimp only at h;split at h <;> cases h
 |notn=>intro h;unfold cmD at h;dsimp only at h;split at h <;> cases h
 |isin=>exact jjU
 |notin=>exact jjV jjU
section
variable {Z:Kn}{X:Cx}{pins:List (Addr×Obj)}{s:Shared}{σ:L2.St}{H:Hp}{F:Addr->Prop}
theorem jnD {d e:D}{b:Bool}(h:eqR d e=.ok b):b=eqD d e/\jbh d=true/\jbh e=true/\deep d<=12/\deep e<=12:=by
 unfold eqR at h;split at h
 ·rename_i hc;simp only[jvc,decide_eq_true_eq]at hc;cases h;exact⟨rfl,hc.1.1.1,hc.1.1.2,hc.1.2,hc.2⟩
 ·cases h
theorem jrd (hZ:X.K=Z.K)(hu:X.A.units + 64 < cLine)(I:Inv X pins σ H s){d e:D}{x y:V}{u w:Value}{b:Bool}(hd:RepB Z F H d x)(he:RepB Z F H e y)(rx:RelV x u)(ry:RelV y w)(hb:eqR d e=.ok b){Q:Value->Shared->Prop}{E:Value->Shared->Prop}(q:Q (.bool b) s) :
  wpAny (model X.prog X.w) X.A (compareOp .Eq u w) Q E s:=by
 obtain⟨rfl,c1,c2,d1,d2⟩:=jnD hb;exact(jf3 hZ I 12 (A:=X.A) d1 (by omega) hd he rx ry c1 c2).1 X.prog X.w E Q q
theorem jre (hZ:X.K=Z.K)(hu:X.A.units + 64 < cLine)(I:Inv X pins σ H s){d e:D}{x y:V}{u w:Value}{b:Bool}(hd:RepB Z F H d x)(he:RepB Z F H e y)(rx:RelV x u)(ry:RelV y w)(hb:inR d e=.ok b)(neg:Bool){Q:Value->Shared->Prop}{E:Value->Shared->Prop}(q:Q (.bool (if neg then !b else b)) s) :
  wpAny (model X.prog X.w) X.A (compareOp (if neg then .NotIn else .In) u w) Q E s:=by
 unfold inR at hb;obtain⟨ys,hs,hb⟩:=R.bind_ok hb;split at hb
 ·rename_i hc;simp only[jvc,decide_eq_true_eq]at hc;obtain⟨⟨⟨c1,c2⟩,d1⟩,d2⟩:=hc;cases hb;obtain⟨p,vs,rfl,hq,rr⟩:=jcU he hs;cases ry;have hj:∀(its:List Value),Vals vs its->∃ef:Value->Bool,(∀z,z∈its.toArray->SeqAt.EqAt X.A.in1 s z u (ef z))/\its.toArray.any ef=ys.any fun z=>eqD z d:=fun its rv=>by
   classical
   let Pz:Value->D->Prop:=fun z e0=>jbh e0=true/\deep e0<=12/\∃v0,Rep Z F H e0 v0/\RelV v0 z
   have uq:∀{z:Value}{e1 e2:D},Pz z e1->Pz z e2->e1=e2:=fun ⟨a1,_,v1,a3,a4⟩ ⟨b1,_,v2,b3,b4⟩=>jcI hZ I (.inl a3) (.inl b3) a4 b4 a1 b1;let ef:Value->Bool:=fun z=>if h:∃e0,Pz z e0 then eqD h.choose d else false;have efE:∀{z:Value}{e0:D},Pz z e0->ef z=eqD e0 d:=fun {z e0} h=>by
    have hx:∃e0,Pz z e0:=⟨e0,h⟩;simp only[ef,dif_pos hx];rw[uq hx.choose_spec h]
   have l1:ys.length=its.length:=by rw[rr.length,rv.length]
   have at_:∀j (hj:j < its.length),Pz its[j] (ys.getD j .non):=fun j hj=>by
    obtain⟨v1,q1,q2,_⟩:=rr.vals rv hj;exact⟨jaM c2,jva jbE d2,v1,q1,q2⟩
   refine⟨ef,fun z hz=>?_,?_⟩
   ·have hz:z∈its:=by simpa using hz
    obtain⟨j,hj,rfl⟩:=List.getElem_of_mem hz;have hp:=at_ j hj;rw[efE hp];obtain⟨a1,a2,v0,a3,a4⟩:=hp;exact(jf3 hZ I 12 (A:=X.A.in1) a2 (by show X.A.units + 1 + 12 < cLine;omega) (.inl a3) hd a4 rx a1 c1).2
   ·rw[<-Array.any_toList];have hmap:its.map ef=ys.map fun z=>eqD z d:=by
     apply List.ext_getElem
     ·simp[l1]
     ·intro j h1 h2;rw[List.getElem_map,List.getElem_map];have h1:j < its.length:=by simpa using h1
      have:=efE (at_ j h1);rw[this,juz,jur (by omega)]
      rfl
    have e1:its.any ef=(its.map ef).any id:=by rw[List.any_map];rfl
    have e2:(ys.any fun z=>eqD z d)=(ys.map fun z=>eqD z d).any id:=by rw[List.any_map];rfl
    rw[e2,<-hmap,<-e1]
  rcases hq with hq | hq
  ·obtain⟨its,rv,pl,_⟩:=I.list (show SqL X.K H p vs by rw[hZ];exact hq)
   obtain⟨ef,f1,f2⟩:=hj its rv;cases neg with
   |false=>exact SeqAt.in_listAt ef pl.isList f1 (by rw[f2];exact q)
   |true=>exact SeqAt.notIn_listAt ef pl.isList f1 (by rw[f2];exact q)
  ·obtain⟨its,rv,pl,_⟩:=I.tuple (show SqT X.K H p vs by rw[hZ];exact hq)
   obtain⟨ef,f1,f2⟩:=hj its rv;cases neg with
   |false=>exact SeqAt.in_tupleAt ef (show s.heap.IsTuple p its.toArray from pl) f1 (by rw[f2];exact q)
   |true=>exact SeqAt.notIn_tupleAt ef (show s.heap.IsTuple p its.toArray from pl) f1 (by rw[f2];exact q)
 ·cases hb
theorem jjW (hZ:X.K=Z.K)(hu:X.A.units + 64 < cLine)(I:Inv X pins σ H s){d e:D}{x y:V}{u w:Value}{b:Bool}(hd:RepB Z F H d x)(he:RepB Z F H e y)(rx:RelV x u)(ry:RelV y w)(hb:inX d e=.ok b)(neg:Bool){Q:Value->Shared->Prop}{E:Value->Shared->Prop}(q:Q (.bool (if neg then !b else b)) s) :
  wpAny (model X.prog X.w) X.A (compareOp (if neg then .NotIn else .In) u w) Q E s:=by
 cases e with
 |str y=>
  cases d with
  |str x=>
   cases hb;cases hd.str;cases he.str;obtain⟨t,rfl⟩:=rx;obtain⟨t',rfl⟩:=ry;cases neg with
   |false=>exact SB.contains q
   |true=>exact SB.notContains q
  |_=>cases hb
 |_=>exact jre hZ hu I hd he rx ry hb neg q
open SeqAt in
theorem jsW (hZ:X.K=Z.K)(I:Inv X pins σ H s){A:Around}{d e:D}{v w:V}{u u':Value}(hn:deep d<=12)(hu:A.units + 13 < cLine)(hd:RepB Z F H d v)(he:RepB Z F H e w)(rv:RelV v u)(rw':RelV w u')(cd:jbh d=true)(ce:jbh e=true):RcNeAt A s u u' (!eqD d e):=by
 have hu0:A.units < cLine:=by omega
 have items:∀{ds es:List D}{vs vs':List V}{its its':List Value},Reps Z F H ds vs->Vals vs its->Reps Z F H es vs'->Vals vs' its'->deeps ds<=12->cmpDs ds=true->cmpDs es=true->∀j (h1:j < its.toArray.size) (h2:j < its'.toArray.size),EqAt A.in1 s its.toArray[j] its'.toArray[j] (eqD (ds.getD j .non) (es.getD j .non)):=fun rr rs rr' rs' hdp cds ces j h1 h2=>by
  obtain⟨v1,q1,q2,_⟩:=rr.vals rs (j:=j) (by simpa using h1)
  obtain⟨v2,q3,q4,_⟩:=rr'.vals rs' (j:=j) (by simpa using h2)
  exact(jf3 hZ I 12 (jva jbE hdp) (by show A.units + 1 + 12 < cLine;omega) (.inl q1) (.inl q3) (by simpa using q2) (by simpa using q4) (jaM cds) (jaM ces)).2
 cases d with
 |non=>
  cases hd.non;cases rv;cases e with
  |non=>
   cases he.non;cases rw';exact RcNeAt.none_none
  |bl y=>
   cases he.bl;cases rw';exact RcNeAt.none_bool y
  |int y=>
   cases he.int;obtain⟨t2,rfl⟩:=rw';exact RcNeAt.none_int y t2
  |str y=>
   cases he.str;obtain⟨t2,rfl⟩:=rw';exact RcNeAt.none_str y t2
  |tup y=>
   obtain⟨a2,vs2,its2,rfl,rr2,rs2,p2⟩:=he.isTup hZ I rw';exact RcNeAt.none_tuple p2 hu0
  |lst y=>
   obtain⟨a2,vs2,its2,rfl,rr2,rs2,p2⟩:=he.isLst hZ I rw';exact RcNeAt.none_list p2 hu0
  |dct _ _=>cases ce
  |exc _=>cases ce
 |bl x=>
  cases hd.bl;cases rv;cases e with
  |non=>
   cases he.non;cases rw';exact RcNeAt.bool_none x
  |bl y=>
   cases he.bl;cases rw';exact RcNeAt.bool_bool x y
  |int y=>
   cases he.int;obtain⟨t2,rfl⟩:=rw';exact RcNeAt.bool_int x y t2
  |str y=>
   cases he.str;obtain⟨t2,rfl⟩:=rw';exact RcNeAt.bool_str x y t2
  |tup y=>
   obtain⟨a2,vs2,its2,rfl,rr2,rs2,p2⟩:=he.isTup hZ I rw';exact RcNeAt.bool_tuple x p2 hu0
  |lst y=>
   obtain⟨a2,vs2,its2,rfl,rr2,rs2,p2⟩:=he.isLst hZ I rw';exact RcNeAt.bool_list x p2 hu0
  |dct _ _=>cases ce
  |exc _=>cases ce
 |int x=>
  cases hd.int;obtain⟨t1,rfl⟩:=rv;cases e with
  |non=>
   cases he.non;cases rw';exact RcNeAt.int_none x t1
  |bl y=>
   cases he.bl;cases rw';exact RcNeAt.int_bool x t1 y
  |int y=>
   cases he.int;obtain⟨t2,rfl⟩:=rw';exact RcNeAt.int_int x t1 y t2
  |str y=>
   cases he.str;obtain⟨t2,rfl⟩:=rw';exact RcNeAt.int_str x t1 y t2
  |tup y=>
   obtain⟨a2,vs2,its2,rfl,rr2,rs2,p2⟩:=he.isTup hZ I rw';exact RcNeAt.int_tuple x t1 p2 hu0
  |lst y=>
   obtain⟨a2,vs2,its2,rfl,rr2,rs2,p2⟩:=he.isLst hZ I rw';exact RcNeAt.int_list x t1 p2 hu0
  |dct _ _=>cases ce
  |exc _=>cases ce
 |str x=>
  cases hd.str;obtain⟨t1,rfl⟩:=rv;cases e with
  |non=>
   cases he.non;cases rw';exact RcNeAt.str_none x t1
  |bl y=>
   cases he.bl;cases rw';exact RcNeAt.str_bool x t1 y
  |int y=>
   cases he.int;obtain⟨t2,rfl⟩:=rw';exact RcNeAt.str_int x t1 y t2
  |str y=>
   cases he.str;obtain⟨t2,rfl⟩:=rw';exact RcNeAt.str_str x t1 y t2
  |tup y=>
   obtain⟨a2,vs2,its2,rfl,rr2,rs2,p2⟩:=he.isTup hZ I rw';exact RcNeAt.str_tuple x t1 p2 hu0
  |lst y=>
   obtain⟨a2,vs2,its2,rfl,rr2,rs2,p2⟩:=he.isLst hZ I rw';exact RcNeAt.str_list x t1 p2 hu0
  |dct _ _=>cases ce
  |exc _=>cases ce
 |tup x=>
  obtain⟨a1,vs1,its1,rfl,rr1,rs1,p1⟩:=hd.isTup hZ I rv;cases e with
  |non=>
   cases he.non;cases rw';exact RcNeAt.tuple_none p1 hu0
  |bl y=>
   cases he.bl;cases rw';exact RcNeAt.tuple_bool y p1 hu0
  |int y=>
   cases he.int;obtain⟨t2,rfl⟩:=rw';exact RcNeAt.tuple_int y t2 p1 hu0
  |str y=>
   cases he.str;obtain⟨t2,rfl⟩:=rw';exact RcNeAt.tuple_str y t2 p1 hu0
  |tup y=>
   obtain⟨a2,vs2,its2,rfl,rr2,rs2,p2⟩:=he.isTup hZ I rw';simp only[jbh]at cd ce;simp only[deep]at hn;have l1:x.length=its1.length:=by rw[rr1.length,rs1.length]
   have l2:y.length=its2.length:=by rw[rr2.length,rs2.length]
   have:=RcNeAt.tuples (A:=A) (e:=fun j=>eqD (x.getD j .non) (y.getD j .non)) p1 p2 hu0 (items rr1 rs1 rr2 rs2 (by omega) cd ce)
   simp only[eqD];rw[jbw,Bool.and_comm];simp only[juv,<-l1,<-l2]at this;have e2:(x.length == y.length)=decide (x.length=y.length):=by rw[Bool.beq_eq_decide_eq]
   rw[<-e2];exact this
  |lst y=>
   obtain⟨a2,vs2,its2,rfl,rr2,rs2,p2⟩:=he.isLst hZ I rw';exact RcNeAt.tuple_list p1 p2 hu0
  |dct _ _=>cases ce
  |exc _=>cases ce
 |lst x=>
  obtain⟨a1,vs1,its1,rfl,rr1,rs1,p1⟩:=hd.isLst hZ I rv;cases e with
  |non=>
   cases he.non;cases rw';exact RcNeAt.list_none p1 hu0
  |bl y=>
   cases he.bl;cases rw';exact RcNeAt.list_bool y p1 hu0
  |int y=>
   cases he.int;obtain⟨t2,rfl⟩:=rw';exact RcNeAt.list_int y t2 p1 hu0
  |str y=>
   cases he.str;obtain⟨t2,rfl⟩:=rw';exact RcNeAt.list_str y t2 p1 hu0
  |tup y=>
   obtain⟨a2,vs2,its2,rfl,rr2,rs2,p2⟩:=he.isTup hZ I rw';exact RcNeAt.list_tuple p1 p2 hu0
  |lst y=>
   obtain⟨a2,vs2,its2,rfl,rr2,rs2,p2⟩:=he.isLst hZ I rw';simp only[jbh]at cd ce;simp only[deep]at hn;have l1:x.length=its1.length:=by rw[rr1.length,rs1.length]
   have l2:y.length=its2.length:=by rw[rr2.length,rs2.length]
   by_cases hsz:its1.length=its2.length
   ·have:=RcNeAt.lists (A:=A) (e:=fun j=>eqD (x.getD j .non) (y.getD j .non)) p1 p2 (by simpa using hsz) hu0 (items rr1 rs1 rr2 rs2 (by omega) cd ce)
    simp only[eqD];have hl:x.length=y.length:=by omega
    rw[jbw,decide_eq_true hl,Bool.true_and,<-hl,Nat.min_self];simp only[juv,<-l1]at this;exact this
   ·have:=RcNeAt.lists_lengths (A:=A) p1 p2 (by simpa using hsz) hu0
    simp only[eqD];rw[jbw,decide_eq_false (by omega),Bool.false_and]
    exact this
  |dct _ _=>cases ce
  |exc _=>cases ce
 |dct _ _=>cases cd
 |exc _=>cases cd
theorem jrf (hZ:X.K=Z.K)(hu:X.A.units + 64 < cLine)(I:Inv X pins σ H s){d e:D}{x y:V}{u w:Value}{b:Bool}(hd:RepB Z F H d x)(he:RepB Z F H e y)(rx:RelV x u)(ry:RelV y w)(hb:eqR d e=.ok b){Q:Value->Shared->Prop}{E:Value->Shared->Prop}(q:Q (.bool (!b)) s) :
  wpAny (model X.prog X.w) X.A (compareOp .NotEq u w) Q E s:=by
 obtain⟨rfl,c1,c2,d1,d2⟩:=jnD hb;exact jsW hZ I d1 (by omega) hd he rx ry c1 c2 X.prog X.w E Q q
theorem jsX (hZ:X.K=Z.K)(hu:X.A.units + 64 < cLine)(o:Cm):OpR X (compareOp o.py) (rD2 Z (bD (cmD o))):=by
 intro pins s σ H x y v u Q I rx ry h;obtain⟨F,dx,dy,w,dm,bx,by_,hw,h⟩:=h;unfold bD at hw;obtain⟨c,hc,hw⟩:=R.bind_ok hw;cases hw;have fin:∀k:Bool,k=c->EP X pins σ Q (.bool k) s:=fun k e=>by subst e;exact⟨.bl k,H,I,rfl,h.bl dm⟩
 have isn:isN dx=decide (x=.non):=by
  cases dx with
  |non=>cases bx.non;rfl
  |bl b=>cases bx.bl;rfl
  |int b=>cases bx.int;rfl
  |str b=>cases bx.str;rfl
  |tup b=>obtain⟨a,vs,rfl,_⟩:=bx.tup;rfl
  |lst b=>obtain⟨a,vs,rfl,_⟩:=bx.lst;rfl
  |dct ks vs=>obtain⟨a,rfl,_⟩:=bx.dct;rfl
  |exc b=>
   have:=bx.flat (fun o z=>by cases o <;> cases z)
   simp only[Rep]at this;obtain⟨a,C,rfl,_⟩:=this;rfl
 cases o with
 |eq=>exact jrd hZ hu I bx by_ rx ry hc (fin _ rfl)
 |ne=>
  obtain⟨b,hb,hc⟩:=R.bind_ok hc;cases hc;exact jrf hZ hu I bx by_ rx ry hb (fin _ rfl)
 |lt=>
  have hc:ltD dx dy=.ok c:=hc;unfold ltD at hc;split at hc
  ·cases hc;cases bx.int;cases by_.int;exact jsE pins s σ H _ _ v u Q I rx ry ⟨_,_,rfl,rfl,h.bl dm⟩
  ·split at hc
   ·rename_i as bs ns ms e1 e2;cases hc;obtain⟨a,vs,rfl,ft,ra⟩:=bx.tup;obtain⟨b,us,rfl,fu,rb⟩:=by_.tup;cases jcd e1 ra;cases jcd e2 rb;refine jqO (by omega) pins s σ H _ _ v u Q I rx ry ⟨a,b,ns,ms,rfl,rfl,(by rw[hZ];exact ft.sq),(by rw[hZ];exact fu.sq),?_⟩
    rw[<-jg3];exact h.bl dm
   ·cases hc
  ·cases hc
 |gt=>
  obtain⟨_,_,rfl,rfl,rfl⟩:=jf4 hc;cases bx.int;cases by_.int;exact jsG pins s σ H _ _ v u Q I rx ry ⟨_,_,rfl,rfl,h.bl dm⟩
 |le=>
  obtain⟨_,_,rfl,rfl,rfl⟩:=jf4 hc;cases bx.int;cases by_.int;exact jsF pins s σ H _ _ v u Q I rx ry ⟨_,_,rfl,rfl,h.bl dm⟩
 |ge=>
  obtain⟨_,_,rfl,rfl,rfl⟩:=jf4 hc;cases bx.int;cases by_.int;exact jsH pins s σ H _ _ v u Q I rx ry ⟨_,_,rfl,rfl,h.bl dm⟩
 |isn=>
  have hc:(if isN dy then .ok (isN dx)else .stk:R Bool)=.ok c:=hc;split at hc
  ·rename_i hn;cases jnC hn;cases hc;cases by_.non;refine jqK pins s σ H _ _ v u Q I rx ry ⟨rfl,?_⟩;rw[<-isn];exact h.bl dm
  ·cases hc
 |notn=>
  have hc:(if isN dy then .ok (!isN dx)else .stk:R Bool)=.ok c:=hc;split at hc
  ·rename_i hn;cases jnC hn;cases hc;cases by_.non;refine jn9 pins s σ H _ _ v u Q I rx ry ⟨rfl,?_⟩;rw[<-isn];exact h.bl dm
  ·cases hc
 |isin=>exact jjW hZ hu I bx by_ rx ry hc false (fin _ rfl)
 |notin=>
  obtain⟨b,hb,hc⟩:=R.bind_ok hc;cases hc;exact jjW hZ hu I bx by_ rx ry hb true (fin _ rfl)
end
end DJ
namespace L2
open PySem PySem.Spec PyProof.Rows
section
variable {X:Cx}
theorem jf5 {ns:List Int}{its:List Value}(rv:Vals (ns.map V.int) its):∀i v,its[i]?=some v->∃t,v=Value.int (ns.getD i 0) t:=fun i v hP=>by
 have hlen:=rv.length;have hi:i < ns.length:=by have:=(List.getElem?_eq_some_iff.mp hP).1;rw[juA]at hlen;omega
 obtain⟨u,e1,e2⟩:=rv.get (i:=i) (x:=.int ns[i]) (by rw[jux,jur hi];rfl)
 rw[hP]at e1;cases e1;obtain⟨t,e⟩:=e2;refine⟨t,?_⟩;rw[e,juz,jur hi];rfl
theorem jcZ (ns:List Int):∀k,k<=ns.length->preSum (fun i=>ns.getD i 0) k=(ns.take k).sum
 |0,_=>by simp[preSum]
 |k + 1,h=>by
  rw[preSum,jcZ ns k (by omega),List.take_succ_eq_append_getElem (by omega),List.sum_append]
  simp[juz,jur (show k < ns.length by omega)]
theorem jma (hc:X.calm=true):CallR X (.builtin "sum") (fun xs H Q=>∃(p:Addr) (ns:List Int),xs=[.ref p]/\(SqL X.K H p (ns.map V.int)\/SqT X.K H p (ns.map V.int))/\Q (.int ns.sum) H):=by
 intro pins s σ H xs us Q I r h;obtain⟨p,ns,rfl,hq,q⟩:=h;obtain⟨u,rfl,rx⟩:=jbt r;cases rx;have hA:X.A.in1.handled=none:=I.ok.hd hc;refine call_sum_walkG (jdT hc I hq hA fun its I' fp wr St h2 rv W st hfp back=>⟨I',fp,wr,_,_,St,fun i=>ns.getD i 0,rfl,W,st,hfp,jf5 rv,fun h' tk t' kp=>?_⟩);refine⟨.int ns.sum,H,back h' tk kp,⟨t',?_⟩,q⟩;rw[juA,jcZ ns _ (ju7 _),List.take_length]
end
end L2
namespace DJ
open PySem PySem.Spec PyProof.Rows L2
theorem jce {Z:Kn}{F:Addr->Prop}{H:Hp}:∀{ds:List D}{bs:List Bool}{vs:List V},jas ds=some bs->Reps Z F H ds vs->vs.map trV=bs.map some
 |[],ns,vs,h,r=>by simp only[Reps]at r;subst r;cases h;rfl
 |d::ds,ns,vs,h,r=>by
  simp only[Reps]at r;obtain⟨v,us,rfl,r1,r2⟩:=r;cases d with
  |int i=>
   simp only[jas]at h;cases q:jas ds with
   |none=>rw[q]at h;cases h
   |some ms=>
    rw[q]at h;cases h;simp only[Rep]at r1;subst r1;rw[juy,juy,jce q r2];rfl
  |bl i=>
   simp only[jas]at h;cases q:jas ds with
   |none=>rw[q]at h;cases h
   |some ms=>
    rw[q]at h;cases h;simp only[Rep]at r1;subst r1;rw[juy,juy,jce q r2];rfl
  |_=>cases h
section
variable {Z:Kn}{X:Cx}
theorem jmb (hZ:X.K=Z.K){H:Hp}{p:Addr}{vs:List V}(h:SqL Z.K H p vs\/SqT Z.K H p vs):SqL X.K H p vs\/SqT X.K H p vs:=by rw[hZ];exact h
theorem jrg (hZ:X.K=Z.K):∀x H Q,rD1 Z (bfD .len) x H Q->(fun xs H Q=>(∃p ys,xs=[.ref p]/\(SqL X.K H p ys\/SqT X.K H p ys)/\Q (.int ys.length) H)\/(∃z,xs=[.str z]/\z.length<=sizeLine/\Q (.int z.length) H):List V->Hp->VK->Prop) [x] H Q:=by
 intro x H Q hz1;obtain⟨F,d,w,dm,rp,hw,h⟩:=hz1;have key:∀xs,jaU d=.ok xs->w=.dat (.int xs.length)->(fun xs H Q=>(∃p ys,xs=[.ref p]/\(SqL X.K H p ys\/SqT X.K H p ys)/\Q (.int ys.length) H)\/(∃z,xs=[.str z]/\z.length<=sizeLine/\Q (.int z.length) H):List V->Hp->VK->Prop) [x] H Q:=fun xs hs e=>by
  subst e;obtain⟨p,vs,rfl,q,r⟩:=jcU rp hs;refine .inl ⟨p,vs,rfl,jmb hZ q,?_⟩;rw[<-r.length];exact h.int dm
 cases d with
 |str z=>
  simp only[bfD]at hw;split at hw
  ·rename_i hf;cases hw;cases rp.str;exact .inr ⟨z,rfl,jaV hf,h.int dm⟩
  ·cases hw
 |tup xs=>simp only[bfD,jaU,R.bind_ok']at hw;cases hw;exact key xs rfl rfl
 |lst xs=>simp only[bfD,jaU,R.bind_ok']at hw;cases hw;exact key xs rfl rfl
 |_=>simp only[bfD,jaU]at hw;cases hw
theorem jmc (hZ:X.K=Z.K):∀x H Q,rD1 Z (bfD .tuple) x H Q->(fun xs H Q=>∃p ys,xs=[.ref p]/\((SqL X.K H p ys/\∀l,H l=none->Q (.ref l) (upd H l (.tup ys)))\/(SqT X.K H p ys/\Q (.ref p) H)):List V->Hp->VK->Prop) [x] H Q:=by
 intro x H Q hz1;obtain⟨F,d,w,dm,rp,hw,h⟩:=hz1;simp only[bfD]at hw;obtain⟨xs,hs,hw⟩:=R.bind_ok hw;cases hw;cases d with
 |tup ds=>
  cases hs;obtain⟨a,vs,rfl,ft,r⟩:=rp.tup;exact⟨a,vs,rfl,.inr ⟨by rw[hZ];exact ft.sq,h.tupOld dm ft r⟩⟩
 |lst ds=>
  cases hs;obtain⟨a,vs,rfl,ft,r⟩:=rp.lst;exact⟨a,vs,rfl,.inl ⟨by rw[hZ];exact ft,h.tup dm r⟩⟩
 |_=>cases hs
theorem jnE (hZ:X.K=Z.K)(all:Bool):∀x H Q,rD1 Z (bfD (if all then .all else .any)) x H Q->(fun xs H Q=>∃(p:Addr) (ys:List V) (bs:List Bool),xs=[.ref p]/\(SqL X.K H p ys\/SqT X.K H p ys)/\ys.map trV=bs.map some/\Q (.bl (if all then bs.all id else bs.any id)) H:List V->Hp->VK->Prop) [x] H Q:=by
 intro x H Q hz1;obtain⟨F,d,w,dm,rp,hw,h⟩:=hz1;cases all with
 |true=>
  simp only[if_true,bfD]at hw;obtain⟨xs,hs,hw⟩:=R.bind_ok hw;obtain⟨p,vs,rfl,q,r⟩:=jcU rp hs;cases e:jas xs with
  |none=>rw[e]at hw;cases hw
  |some bs=>rw[e]at hw;cases hw;exact⟨p,vs,bs,rfl,jmb hZ q,jce e r,h.bl dm⟩
 |false=>
  simp only[jvd,if_false,bfD]at hw;obtain⟨xs,hs,hw⟩:=R.bind_ok hw;obtain⟨p,vs,rfl,q,r⟩:=jcU rp hs;cases e:jas xs with
  |none=>rw[e]at hw;cases hw
  |some bs=>rw[e]at hw;cases hw;exact⟨p,vs,bs,rfl,jmb hZ q,jce e r,h.bl dm⟩
theorem jrh (hZ:X.K=Z.K):∀x H Q,rD1 Z (bfD .sum) x H Q->(fun xs H Q=>∃(p:Addr) (ns:List Int),xs=[.ref p]/\(SqL X.K H p (ns.map V.int)\/SqT X.K H p (ns.map V.int))/\Q (.int ns.sum) H:List V->Hp->VK->Prop) [x] H Q:=by
 intro x H Q hz1;obtain⟨F,d,w,dm,rp,hw,h⟩:=hz1;simp only[bfD]at hw;obtain⟨xs,hs,hw⟩:=R.bind_ok hw;obtain⟨p,vs,rfl,q,r⟩:=jcU rp hs;cases e:jaW xs with
 |none=>rw[e]at hw;cases hw
 |some ns=>
  rw[e]at hw;cases hw;cases jcd e r;exact⟨p,ns,rfl,jmb hZ q,h.int dm⟩
theorem bf_str:∀x H Q,rD1 Z (bfD .str) x H Q->(fun xs H Q=>∃i,xs=[.int i]/\i.natAbs.log2 < 1920/\Q (.str (Str.ofString (toString i))) H:List V->Hp->VK->Prop) [x] H Q:=by
 intro x H Q hz1;obtain⟨F,d,w,dm,rp,hw,h⟩:=hz1;cases d with
 |int i=>
  obtain⟨hf,rfl⟩:=jbj hw;cases rp.int;exact⟨i,rfl,hf,h.sc dm (by simp only[Rep])⟩
 |_=>cases hw
theorem jri:∀x H Q,rD1 Z (bfD .int) x H Q->(fun xs H Q=>((∃i,xs=[.int i]/\Q (.int i) H)\/∃k,xs=[.bl k]/\Q (.int (if k then 1 else 0)) H)\/∃z n,xs=[.str z]/\PySem.intText? z=some n/\z.length<=640/\Q (.int n) H:List V->Hp->VK->Prop) [x] H Q:=by
 intro x H Q hz1;obtain⟨F,d,w,dm,rp,hw,h⟩:=hz1;cases d with
 |int i=>cases hw;cases rp.int;exact .inl (.inl ⟨_,rfl,h.int dm⟩)
 |bl b=>cases hw;cases rp.bl;exact .inl (.inr ⟨_,rfl,h.int dm⟩)
 |str z=>
  simp only[bfD]at hw;split at hw
  ·split at hw
   ·cases hw;cases rp.str;exact .inr ⟨z,_,rfl,‹_›,‹_›,h.int dm⟩
   ·cases hw
  ·cases hw
 |_=>cases hw
noncomputable def jdh:R Vl->Prop
 |.ok (.slot _)=>False
 |.err _=>False
 |_=>True
theorem jdz (kss:List (List Int)):jdh (jd7 kss):=by
 unfold jd7;split <;> trivial
theorem jaN {c:Prop}[Decidable c]{r:R Vl}(h:jdh r):jdh (if c then r else .stk):=by
 split
 ·exact h
 ·trivial
theorem jaO {d:D}{f:List D->R Vl}(h:∀xs,jdh (f xs)):jdh ((jaU d).bind f):=by
 cases d with
 |tup xs=>exact h xs
 |lst xs=>exact h xs
 |_=>trivial
theorem je6 (f:Bf)(x:D):jdh (bfD f x):=by
 cases f with
 |abs=>cases x <;> trivial
 |int=>cases x with
  |str x=>
   refine jaN ?_;cases PySem.intText? x <;> trivial
  |_=>trivial
 |len=>cases x with
  |str x=>exact jaN trivial
  |_=>trivial
 |tuple=>exact jaO fun _=>trivial
 |list=>exact jaO fun _=>trivial
 |all=>
  refine jaO fun xs=>?_;cases jas xs <;> trivial
 |any=>
  refine jaO fun xs=>?_;cases jas xs <;> trivial
 |sum=>
  refine jaO fun xs=>?_;cases jaW xs <;> trivial
 |min=>
  refine jaO fun xs=>?_;cases jaW xs with
  |none=>trivial
  |some ns=>cases ns <;> trivial
 |max=>
  refine jaO fun xs=>?_;cases jaW xs with
  |none=>trivial
  |some ns=>cases ns <;> trivial
 |sorted=>cases x with
  |lst xs=>
   show jdh (match jbi xs with | some kss=>jd7 kss | none=>.stk)
   cases jbi xs with
   |none=>trivial
   |some k=>exact jdz k
  |_=>trivial
 |ssorted=>
  refine jaO fun xs=>?_;cases jbi xs with
  |none=>trivial
  |some k=>exact jaN (jdz _)
 |revl=>cases x <;> trivial
 |revt=>cases x <;> trivial
 |str=>cases x with
  |int i=>exact jaN trivial
  |_=>trivial
theorem joW {f:Bf}{x:D}{c:Nat}:bfD f x≠.err c:=by
 intro h;have:=je6 f x;rw[h]at this;exact this
theorem jmd {f:Bf}{x:D}{i:Nat}:bfD f x≠.ok (.slot i):=by
 intro h;have:=je6 f x;rw[h]at this;exact this
end
end DJ
namespace DJ
open PySem PySem.Spec PyProof.Rows L2
structure Tab where
 defs:List Str
 flags:List (List Bool)
 cons:List (Str×D)
 excs:List Str
 quiet:Bool
 deep:Bool
structure TopX (X:Cx):Prop where
 fn:∀x,X.fn x=true
 st:X.stack=X.env::X.outer
 fr:X.env.frame=some X.env.locals
noncomputable def knd (sc:List (Str×NameKind))(x:Str):Nat:=match sc.lookup x with
 |some .local=>1
 |some .cell=>1
 |some .free=>1
 |some .globalImplicit=>2
 |_=>0
noncomputable def jed (N:List Str)(x:Str):Option Nat:=N.findIdx? (· == x)
noncomputable def mapO {α β:Type}(f:α->Option β):List α->Option (List β)
 |[]=>some []
 |a::as=>match f a,mapO f as with
  |some b,some bs=>some (b::bs)
  |_,_=>none
section
variable {α β γ δ ε:Type}
theorem jae {a:α}{p:Prop}(h:(none:Option α)=some a):p:=nomatch h
theorem jap {a:Option α}{f:α->γ}{c:γ}(h:a.map f=some c):∃x,a=some x/\f x=c:=Option.map_eq_some_iff.mp h
theorem jaf {a:Option α}{f:α->Option γ}{c:γ}(h:a.bind f=some c):∃x,a=some x/\f x=some c:=Option.bind_eq_some_iff.mp h
noncomputable def o2 (a:Option α)(b:Option β)(f:α->β->γ):Option γ:=a.bind fun x=>b.map (f x)
theorem jbF {a:Option α}{b:Option β}{f:α->β->γ}{c:γ}(h:o2 a b f=some c):∃x y,a=some x/\b=some y/\f x y=c:=by
 obtain⟨x,h1,h⟩:=jaf h;obtain⟨y,h2,h⟩:=jap h;exact⟨x,y,h1,h2,h⟩
noncomputable def o3 (a:Option α)(b:Option β)(c:Option γ)(f:α->β->γ->δ):Option δ:=a.bind fun x=>o2 b c (f x)
theorem jc0 {a:Option α}{b:Option β}{c:Option γ}{f:α->β->γ->δ}{d:δ}(h:o3 a b c f=some d):∃x y z,a=some x/\b=some y/\c=some z/\f x y z=d:=by
 obtain⟨x,h1,h⟩:=jaf h;obtain⟨y,z,h⟩:=jbF h;exact⟨x,y,z,h1,h⟩
noncomputable def o4 (a:Option α)(b:Option β)(c:Option γ)(d:Option δ)(f:α->β->γ->δ->ε):Option ε:=a.bind fun x=>o3 b c d (f x)
theorem jrj {a:Option α}{b:Option β}{c:Option γ}{d:Option δ}{f:α->β->γ->δ->ε}{e:ε}(h:o4 a b c d f=some e):∃x y z w,a=some x/\b=some y/\c=some z/\d=some w/\f x y z w=e:=by
 obtain⟨x,h1,h⟩:=jaf h;obtain⟨y,z,w,h⟩:=jc0 h;exact⟨x,y,z,w,h1,h⟩
noncomputable def gd (b:Bool)(o:Option α):Option α:=if b then none else o
theorem jal {b:Bool}{o:Option α}{c:α}(h:gd b o=some c):b=false/\o=some c:=by
 cases b with
 |true=>exact jae h
 |false=>exact⟨rfl,h⟩
noncomputable def alt (b:Bool)(o o':Option α):Option α:=if b then o else o'
theorem jar {b:Bool}{o o':Option α}{c:α}(h:alt b o o'=some c):b=true/\o=some c\/o'=some c:=by
 cases b with
 |true=>exact .inl ⟨rfl,h⟩
 |false=>exact .inr h
noncomputable def joX (a:Option α)(f:α->Option β)(r:Option β):Option β:=match a with
 |some x=>f x
 |none=>r
theorem jbQ {a:Option α}{f:α->Option β}{r:Option β}{c:β}(h:joX a f r=some c):(∃x,a=some x/\f x=some c)\/r=some c:=by
 cases a with
 |some x=>exact .inl ⟨x,rfl,h⟩
 |none=>exact .inr h
noncomputable def jh0:List α->Option α
 |[a]=>some a
 |_=>none
theorem jaD {as:List α}{a:α}(h:jh0 as=some a):as=[a]:=by
 cases as with
 |nil=>exact jae h
 |cons x r=>
  cases r with
  |nil=>cases h;rfl
  |cons y r=>exact jae h
noncomputable def jtL:List α->Option (α×α)
 |[a,b]=>some (a,b)
 |_=>none
theorem jme {as:List α}{p:α×α}(h:jtL as=some p):as=[p.1,p.2]:=by
 cases as with
 |nil=>exact jae h
 |cons x r=>
  cases r with
  |nil=>exact jae h
  |cons y r=>
   cases r with
   |nil=>cases h;rfl
   |cons z r=>exact jae h
theorem jcf {as:List α}(h:(!as.isEmpty)=false):as=[]:=by
 cases as with
 |nil=>rfl
 |cons a r=>cases h
theorem jb4 {a b:Bool}(h:(a || b)=false):a=false/\b=false:=by
 cases a with
 |true=>cases h
 |false=>exact⟨rfl,h⟩
theorem jbG {a:Bool}(h:(!a)=false):a=true:=by
 cases a with
 |true=>rfl
 |false=>cases h
end
theorem jf6 {a b:Nat}(h:(a != b)=false):a=b:=by simpa using h
theorem jbU {a b:Str}(h:(a == b)=true):a=b:=by simpa using h
noncomputable def jla:Expr->Option Str
 |.Name x _=>some x
 |_=>none
theorem jbx {e:Expr}{x:Str}(h:jla e=some x):∃p,e=.Name x p:=by
 cases e with
 |Name y p=>cases h;exact⟨p,rfl⟩
 |_=>exact jae h
noncomputable def joY:Expr->Option (List Expr)
 |.Tuple es _ _=>some es
 |_=>none
theorem je7 {e:Expr}{p:List Expr}(h:joY e=some p):∃k q,e=.Tuple p k q:=by
 cases e with
 |Tuple es k q=>cases h;exact⟨k,q,rfl⟩
 |_=>exact jae h
noncomputable def jg4:List E->Es
 |[]=>.nil
 |e::es=>.cons e (jg4 es)
noncomputable def jdi (x:Str):Bool:=x == "__debug__" || x == "__classdict__" || x == "__name__"
noncomputable def bltNames:List Str:=["isinstance","len","tuple","list","all","any","range","int","bool","str","dict","sum","min","max","sorted","set","abs","reversed","zip","ValueError","enumerate"]
inductive CXD_I (P:Program) (w:World) (outer:List PySem.Env) (H:L2.Hp) (s:PySem.Shared) (E:L2.XK) (e:PySem.Value) (s':PySem.Shared):Prop
 |mk (ea:Addr) (cls:Value) (a0:Value) (H':Hp) (B:Heap):(e=.ref ea)->(s'.os=s.os)->(AllBare s'.gens)->(Un (frs outer) [] H H' s.heap s'.heap)->(HOk P w H' s'.heap)->(Heap.FlyingW B outer ea cls a0 s'.heap)->((∀b o,s.heap.get? b=some o->b ∉ frs outer->∃o',B.get? b=some o'))->((∀a o,H' a=some o->∃o',B.get? a=some o'))->(H' ea=none)->(E cls none H')->CXD_I P w outer H s E e s'
noncomputable def CXD (P:Program)(w:World):CXT:=fun outer H s E e s'=>CXD_I P w outer H s E e s'
inductive spD_I (Z:Kn) (G:Calls) (i:Nat) (vs:List L2.V) (H:L2.Hp) (Q:L2.VK) (E:L2.XK):Prop
 |mk (B:Bs) (F:Addr->Prop) (sls:List Sl):(SR Z B F H (vs.map some) sls)->(B.hp=H)->((∀(k:Nat) (l:Addr),B.lent k=some l->(vs.map some)[k]?=some (some (.ref l))))->(Ok (fun c=>∀C H',Z.cl[c]?=some C->Stl (vs.map some) sls H H'->E (.ref C) none H') (G i sls) fun r=>∀v F' H',(∀i,r.1≠.slot i)->Go (vs.map some) sls F H (vs.map some) r.2 F' H'->SR Z B F' H' (vs.map some) r.2->RV Z F' H H' (vs.map some) r.2 r.1 v->Q v H')->spD_I Z G i vs H Q E
noncomputable def spD (Z:Kn)(G:Calls)(i:Nat):Sp:=fun vs H Q E=>spD_I Z G i vs H Q E
structure XD (T:Tab)(G:Calls)(U:Nat->Nat->Bool)(Z:Kn)(n:Nat)(X:Cx)(sc:List (Str×NameKind)):Prop where
 hK:X.K=Z.K
 calm:T.quiet=false->X.calm=true
 nd:X.N.Nodup
 room:T.quiet=false->Room n X.A
 un:X.A.units + 64 < cLine
 sc:∀x,X.env.scope.names.lookup x=sc.lookup x\/(sc.lookup x=some .free/\X.env.scope.names.lookup x=some .cell)
 blt:∀x∈bltNames,X.mg x=none
 defs:∀(i:Nat) (nm:Str),T.defs[i]?=some nm->∃f fd ps,X.mg nm=some (.ref f)/\PySem.W.keepIn X.K (.ref f)=true/\Binds X.K fd ps []/\FnOk X.prog X.w X.K X.mg X.base (CXD X.prog X.w) n f fd ps (spD Z G i)
 cons:∀x d,T.cons.lookup x=some d->∃u v,X.mg x=some u/\RelV v u/\∀F H,Rep Z F H d v
 excs:∀(i:Nat) (nm:Str),T.excs[i]?=some nm->∃C,Z.cl[i]?=some C/\X.mg nm=some (.ref C)
 ecl:∀C∈Z.cl,ECls X.K C
 sub:∀(i j:Nat) (C D:Addr),Z.cl[i]?=some C->Z.cl[j]?=some D->PySem.W.mroIn X.K C (.ref D)=some (U i j)
 top:T.deep=false->TopX X
section
variable {T:Tab}{G:Calls}{U:Nat->Nat->Bool}{Z:Kn}{n:Nat}{X:Cx}{sc:List (Str×NameKind)}
theorem XD.vis (D:XD T G U Z n X sc){x:Str}(h:knd sc x=1):Vis X.env.scope x:=by
 have h':sc.lookup x=some .local\/sc.lookup x=some .cell\/sc.lookup x=some .free:=by
  unfold knd at h;split at h <;> simp_all
 unfold Vis;rcases D.sc x with e | ⟨_,e⟩
 ·rw[e];exact h'
 ·exact .inr (.inl e)
theorem XD.gl (D:XD T G U Z n X sc){x:Str}(h:knd sc x=2):Gl X x:=by
 have h':sc.lookup x=some .globalImplicit:=by
  unfold knd at h;split at h <;> simp_all
 show X.env.scope.names.lookup x=some .globalImplicit;rcases D.sc x with e | ⟨e,_⟩
 ·rw[e];exact h'
 ·rw[h']at e;cases e
end
theorem jaZ {N:List Str}{x:Str}{i:Nat}(h:jed N x=some i):N[i]?=some x:=by
 unfold jed at h;obtain⟨hi,h1,_⟩:=List.findIdx?_eq_some_iff_getElem.mp h;rw[jur hi];simpa using h1
theorem jax {α β:Type}{f:α->Option β}{a:α}{as:List α}{bs:List β}(h:mapO f (a::as)=some bs):∃b bs',f a=some b/\mapO f as=some bs'/\bs=b::bs':=by
 simp only[mapO]at h;split at h
 ·rename_i b bs' h1 h2;cases h;exact⟨b,bs',h1,h2,rfl⟩
 ·cases h
theorem jad {e:Expr}{es:List Expr}{env:Env}(h:∀a p,e≠.Starred a p):starEach (e::es) env=(false,eval e env)::starEach es env:=by
 cases e <;> first | rfl | exact absurd rfl (h _ _)
theorem jee {pos:Pos}:∀{l:List (Bool×Sem Value)},l.any (·.1)=false->(backTo pos l).any (·.1)=false:=by
 intro l h;unfold backTo;rw[List.any_map];exact h
theorem jcJ {env:Env}:∀{es:List Expr},(∀e∈es,∀a p,e≠.Starred a p)->(starEach es env).any (·.1)=false
 |[],_=>rfl
 |e::es,h=>by
  rw[jad (h e jut),List.any_cons];exact jcJ fun x hx=>h x (jus _ hx)
theorem je8 {x:Str}(h:jdi x=false):(x == ("__debug__":Str))=false/\x≠"__name__":=by
 unfold jdi at h;simp only[Bool.or_eq_false_iff]at h;refine⟨h.1.1,fun z=>?_⟩;subst z;exact absurd h.2 (by decide)
theorem jrk {x:Str}(h:jdi x=false):(x == ("__classdict__":Str))=false:=by
 unfold jdi at h;simp only[Bool.or_eq_false_iff]at h;exact h.1.2
section
variable {Z:Kn}{X:Cx}{B:Bs}{σ:L2.St}{ρ ρ1:Rho}{F F1:Addr->Prop}{H H1:Hp}
theorem tT.toE {f:Rho->R (Bool×Rho)}{Q:Bool->Hp->Prop}(h:tT Z X B f σ H Q):tE Z X B (fun ρ=>(f ρ).bind fun b=>.ok (.dat (.bl b.1),b.2)) σ H (fun x H'=>∃k,x=.bl k/\Q k H'):=by
 obtain⟨F,ρ,r,h⟩:=h;refine⟨F,ρ,r,?_⟩;show Ok _ ((f ρ).bind _) _;cases e:f ρ with
 |ok b=>
  rw[e]at h;intro v F' H' g r' q;have q:Rep Z F' H' (.bl b.1) v:=q;simp only[Rep]at q;exact⟨b.1,q,h F' H' g r'⟩
 |err c=>rw[e]at h;exact h
 |stk=>rw[e]at h;exact h
theorem jrl {K:Frag}(hK:K=Z.K){d:D}{v:V}{b:Bool}(h:RepB Z F H d v)(ht:jbC d=.ok b):jsJ K v H b:=by
 cases d with
 |non=>cases h.non;cases ht;rfl
 |bl c=>cases h.bl;cases ht;rfl
 |int i=>cases h.int;cases ht;rfl
 |str s=>cases ht
 |tup ds=>
  obtain⟨a,vs,rfl,ft,r⟩:=h.tup;cases ht;refine .inr (.inl ⟨vs,(by rw[hK];exact ft.sq),?_⟩)
  have:=r.length;cases vs <;> cases ds <;> simp_all
 |lst ds=>
  obtain⟨a,vs,rfl,ft,r⟩:=h.lst;cases ht;refine .inl ⟨vs,(by rw[hK];exact ft),?_⟩
  have:=r.length;cases vs <;> cases ds <;> simp_all
 |dct _ _=>cases ht
 |exc c=>cases ht
theorem jjX {d:D}{c:Nat}:jbC d≠.err c:=by cases d <;> (intro z;cases z)
noncomputable def trF (f:Rho->R (Vl×Rho))(ρ:Rho):R (Bool×Rho):=(f ρ).bind fun p=>(deref p.1 p.2).bind fun d=>(jbC d).bind fun b=>.ok (b,p.2)
theorem jsY (hK:X.K=Z.K){e:Expr}{f:Rho->R (Vl×Rho)}(h:PE X e (tE Z X B f))(he:∀whole,isTrue e X.env whole=(do let v <-whole;standAt e.pos;holding [v] (truthy v))):PT X e (tT Z X B (trF f)):=by
 refine PT.imp (jln h he) fun σ H Q q=>?_;obtain⟨F,ρ,r,q⟩:=q;refine⟨F,ρ,r,q.bind.imp (fun _ w=>w) fun p h1 v F' H' g r' rp=>?_⟩;obtain⟨d,hd,h2⟩:=h1.bind.pure fun c=>jaC;obtain⟨b,hb,h3⟩:=h2.bind.pure fun c=>jjX;exact⟨b,jrl hK (jaY rp r' hd) hb,h3 F' H' g r'⟩
theorem jrm {e:Expr}:PT X e (tT Z X B fun _=>.stk):=fun _ _ _ _ _ _ h=>by
 obtain⟨_,_,_,h⟩:=h;exact False.elim h
theorem joZ {fa fb:Rho->R (Vl×Rho)}{Q:VK}(h:tE Z X B (fun ρ=>(fa ρ).bind fun p=>(jcr p.1).bind fun t=>if t then (fb p.2).bind fun q=>(jcr q.1).bind fun u=>.ok (.dat (.bl u),q.2)else .ok (.dat (.bl false),p.2)) σ H Q):jqu (tE Z X B fa) (tE Z X B fb) σ H Q:=by
 obtain⟨F,ρ,r,h⟩:=h;refine⟨F,ρ,r,h.bind.imp (fun _ w=>w) fun p h1 v F1 H1 g1 r1 q1=>?_⟩;obtain⟨w,ρ1⟩:=p;cases w with
 |dat d=>
  cases d with
  |bl b=>
   have q1:Rep Z F1 H1 (.bl b) v:=q1;simp only[Rep]at q1;subst q1;refine⟨b,rfl,?_⟩;cases b with
   |true=>
    rw[if_pos rfl];refine⟨F1,ρ1,r1,(show Ok (XW Z X σ ρ H) ((fb ρ1).bind _) _ from h1).bind.imp (fun c w=>w.mono g1) fun q h2 u F2 H2 g2 r2 q2=>?_⟩;obtain⟨w2,ρ2⟩:=q;cases w2 with
    |dat d2=>
     cases d2 with
     |bl c=>exact h2 u F2 H2 (g1.trans g2) r2 q2
     |_=>exact False.elim h2
    |_=>exact False.elim h2
   |false=>
    rw[if_neg (by decide)]
    exact h1 _ F1 H1 g1 r1 (show Rep Z F1 H1 (.bl false) _ by simp only[Rep])
  |_=>exact False.elim h1
 |_=>exact False.elim h1
theorem jrn {fa fb:Rho->R (Vl×Rho)}{Q:VK}(h:tE Z X B (fun ρ=>(fa ρ).bind fun p=>(jcr p.1).bind fun t=>if t then .ok (.dat (.bl true),p.2)else (fb p.2).bind fun q=>(jcr q.1).bind fun u=>.ok (.dat (.bl u),q.2)) σ H Q):jtA (tE Z X B fa) (tE Z X B fb) σ H Q:=by
 obtain⟨F,ρ,r,h⟩:=h;refine⟨F,ρ,r,h.bind.imp (fun _ w=>w) fun p h1 v F1 H1 g1 r1 q1=>?_⟩;obtain⟨w,ρ1⟩:=p;cases w with
 |dat d=>
  cases d with
  |bl b=>
   have q1:Rep Z F1 H1 (.bl b) v:=q1;simp only[Rep]at q1;subst q1;refine⟨b,rfl,?_⟩;cases b with
   |false=>
    rw[if_neg (by decide)]
    refine⟨F1,ρ1,r1,(show Ok (XW Z X σ ρ H) ((fb ρ1).bind _) _ from h1).bind.imp (fun c w=>w.mono g1) fun q h2 u F2 H2 g2 r2 q2=>?_⟩;obtain⟨w2,ρ2⟩:=q;cases w2 with
    |dat d2=>
     cases d2 with
     |bl c=>exact h2 u F2 H2 (g1.trans g2) r2 q2
     |_=>exact False.elim h2
    |_=>exact False.elim h2
   |true=>
    rw[if_pos rfl];exact h1 _ F1 H1 g1 r1 (show Rep Z F1 H1 (.bl true) _ by simp only[Rep])
  |_=>exact False.elim h1
 |_=>exact False.elim h1
theorem jo0 {fa:Rho->R (Vl×Rho)}{Q:VK}(h:tE Z X B (fun ρ=>(fa ρ).bind fun p=>(jcr p.1).bind fun t=>.ok (.dat (.bl (!t)),p.2)) σ H Q):jqv (tE Z X B fa) σ H Q:=by
 obtain⟨F,ρ,r,h⟩:=h;refine⟨F,ρ,r,h.bind.imp (fun _ w=>w) fun p h1 v F1 H1 g1 r1 q1=>?_⟩;obtain⟨w,ρ1⟩:=p;cases w with
 |dat d=>
  cases d with
  |bl b=>
   have q1:Rep Z F1 H1 (.bl b) v:=q1;simp only[Rep]at q1;subst q1;exact⟨b,rfl,h1 _ F1 H1 g1 r1 (show Rep Z F1 H1 (.bl (!b)) _ by simp only[Rep])⟩
  |_=>exact False.elim h1
 |_=>exact False.elim h1
theorem jmf {fa fb:Rho->R (Bool×Rho)}{Q:Bool->Hp->Prop}(h:tT Z X B (fun ρ=>(fa ρ).bind fun p=>if p.1 then fb p.2 else .ok (false,p.2)) σ H Q):jty (tT Z X B fa) (tT Z X B fb) σ H Q:=by
 obtain⟨F,ρ,r,h⟩:=h;refine⟨F,ρ,r,h.bind.imp (fun _ w=>w) fun p h1 F1 H1 g1 r1=>?_⟩;obtain⟨b,ρ1⟩:=p;cases b with
 |true=>rw[if_pos rfl]at h1 ⊢;exact⟨F1,ρ1,r1,h1.imp (fun c w=>w.mono g1) fun y h2 F2 H2 g2 r2=>h2 F2 H2 (g1.trans g2) r2⟩
 |false=>rw[if_neg jve]at h1 ⊢;exact h1 F1 H1 g1 r1
theorem jo1 {fa fb:Rho->R (Bool×Rho)}{Q:Bool->Hp->Prop}(h:tT Z X B (fun ρ=>(fa ρ).bind fun p=>if p.1 then .ok (true,p.2)else fb p.2) σ H Q):tOr (tT Z X B fa) (tT Z X B fb) σ H Q:=by
 obtain⟨F,ρ,r,h⟩:=h;refine⟨F,ρ,r,h.bind.imp (fun _ w=>w) fun p h1 F1 H1 g1 r1=>?_⟩;obtain⟨b,ρ1⟩:=p;cases b with
 |false=>rw[if_neg jve]at h1 ⊢;exact⟨F1,ρ1,r1,h1.imp (fun c w=>w.mono g1) fun y h2 F2 H2 g2 r2=>h2 F2 H2 (g1.trans g2) r2⟩
 |true=>rw[if_pos rfl]at h1 ⊢;exact h1 F1 H1 g1 r1
theorem jmg {fa:Rho->R (Bool×Rho)}{Q:Bool->Hp->Prop}(h:tT Z X B (fun ρ=>(fa ρ).bind fun p=>.ok (!p.1,p.2)) σ H Q):jtz (tT Z X B fa) σ H Q:=by
 obtain⟨F,ρ,r,h⟩:=h;exact⟨F,ρ,r,h.bind.imp (fun _ w=>w) fun b h1 F1 H1 g1 r1=>h1 F1 H1 g1 r1⟩
theorem jro {fc:Rho->R (Bool×Rho)}{fa fb:Rho->R (Vl×Rho)}{Q:VK}(h:tE Z X B (fun ρ=>(fc ρ).bind fun t=>if t.1 then fa t.2 else fb t.2) σ H Q):tIf (tT Z X B fc) (tE Z X B fa) (tE Z X B fb) σ H Q:=by
 obtain⟨F,ρ,r,h⟩:=h;refine⟨F,ρ,r,h.bind.imp (fun _ w=>w) fun p h1 F1 H1 g1 r1=>?_⟩;obtain⟨b,ρ1⟩:=p;cases b with
 |true=>rw[if_pos rfl]at h1 ⊢;exact⟨F1,ρ1,r1,h1.imp (fun c w=>w.mono g1) fun y h2=>Post.ext h2 g1⟩
 |false=>rw[if_neg jve]at h1 ⊢;exact⟨F1,ρ1,r1,h1.imp (fun c w=>w.mono g1) fun y h2=>Post.ext h2 g1⟩
end
noncomputable def je9 (f:E->E->E):List E->Option E
 |[]=>none
 |[e]=>some e
 |e::es=>(je9 f es).map (f e)
section
variable {G:Calls}{U:Nat->Nat->Bool}{Z:Kn}{X:Cx}{B:Bs}
theorem jjY {vs:List Expr}{es:List E}{E':E}{pos:Pos}(h:Paired (fun e E'=>PE X e (tE Z X B (evE G U E'))/\PT X e (tT Z X B (evT G U E'))) vs es)(hf:je9 .and es=some E') :
  PE X (.BoolOp .And vs pos) (tE Z X B (evE G U E'))/\PW X (.BoolOp .And vs pos) (tT Z X B (evT G U E')):=by
 induction h generalizing E' with
 |nil=>cases hf
 |@cons e E1 vs es h1 hr ih=>
  cases hr with
  |nil=>cases hf;exact⟨jnp h1.1,jn3 h1.2⟩
  |@cons e2 E2 vs es h2 hr=>
   simp only[je9]at hf;cases q:je9 .and (E2::es)with
   |none=>rw[q]at hf;cases hf
   |some E3=>
    have hf':E'=.and E1 E3:=by
     rw[q]at hf;exact(Option.some.inj hf).symm
    subst hf';obtain⟨i1,i2⟩:=ih q;refine⟨PE.imp (jqw h1.1 i1) fun σ H Q z=>joZ (by simpa only[evE] using z),fun whole pins s σ H Q I z=>jqs h1.2 i2 whole pins s σ H Q I (jmf (by simpa only[evT] using z))⟩
theorem jnF {vs:List Expr}{es:List E}{E':E}{pos:Pos}(h:Paired (fun e E'=>PE X e (tE Z X B (evE G U E'))/\PT X e (tT Z X B (evT G U E'))) vs es)(hf:je9 .or es=some E') :
  PE X (.BoolOp .Or vs pos) (tE Z X B (evE G U E'))/\PW X (.BoolOp .Or vs pos) (tT Z X B (evT G U E')):=by
 induction h generalizing E' with
 |nil=>cases hf
 |@cons e E1 vs es h1 hr ih=>
  cases hr with
  |nil=>cases hf;exact⟨jnp h1.1,jqr h1.2⟩
  |@cons e2 E2 vs es h2 hr=>
   simp only[je9]at hf;cases q:je9 .or (E2::es)with
   |none=>rw[q]at hf;cases hf
   |some E3=>
    have hf':E'=.or E1 E3:=by
     rw[q]at hf;exact(Option.some.inj hf).symm
    subst hf';obtain⟨i1,i2⟩:=ih q;refine⟨PE.imp (jsw h1.1 i1) fun σ H Q z=>jrn (by simpa only[evE] using z),fun whole pins s σ H Q I z=>jsv h1.2 i2 whole pins s σ H Q I (jo1 (by simpa only[evT] using z))⟩
end
end DJ
namespace DJ
open PySem PySem.Spec PyProof.Rows L2
section
variable {Z:Kn}{X:Cx}{B:Bs}{σ:L2.St}{ρ ρ0 ρ1 ρ2:Rho}{F F0 F1 F2:Addr->Prop}{H H0 H1 H2:Hp}{w:Vl}{v:V}
noncomputable def RW (Z:Kn)(F':Addr->Prop)(H0 H':Hp)(σ:L2.St)(ρ':Rho):Vl->V->Prop
 |.dat d,v=>Rep Z F' H' d v
 |.tmp o,v=>∃l,v=.ref l/\¬Ow σ ρ' l/\H0 l=none/\HasO Z F' H' l o
 |.slot i,v=>σ[i]?=some (some v)
theorem RV.weak (h:RV Z F H0 H σ ρ w v):RW Z F H0 H σ ρ w v:=by
 cases w with
 |dat d=>exact h
 |tmp o=>obtain⟨l,a,_,b,c,d⟩:=h;exact⟨l,a,b,c,d⟩
 |slot i=>exact h
theorem RW.go (h:RW Z F1 H0 H1 σ ρ1 w v)(r:SR Z B F1 H1 σ ρ1)(g:Go σ ρ1 F1 H1 σ ρ2 F2 H2):RW Z F2 H0 H2 σ ρ2 w v:=by
 cases w with
 |dat d=>exact Rep.mono (g.keep r) h
 |tmp o=>
  obtain⟨l,e,h2,h3,h4⟩:=h;obtain⟨u,hu⟩:=h4.some;refine⟨l,e,fun z=>?_,h3,h4.mono (g.keep r) ((g.stay l u hu fun m=>h2 m.ow).trans hu.symm)⟩;rcases g.owA z with q | q
  ·exact h2 q
  ·rw[hu]at q;cases q
 |slot i=>exact h
theorem RW.keep (h:RW Z F1 H0 H1 σ ρ1 w v)(k:Keep F1 F2 H1 H1)(hO:∀b,Ow σ ρ2 b->Ow σ ρ1 b):RW Z F2 H0 H1 σ ρ2 w v:=by
 cases w with
 |dat d=>exact Rep.mono k h
 |tmp o=>obtain⟨l,e,h2,h3,h4⟩:=h;exact⟨l,e,fun z=>h2 (hO l z),h3,h4.mono k rfl⟩
 |slot i=>exact h
theorem RW.base (h:RW Z F1 H0 H1 σ ρ1 w v)(k:∀l,H0 l=none->H l=none):RW Z F1 H H1 σ ρ1 w v:=by
 cases w with
 |dat d=>exact h
 |tmp o=>obtain⟨l,e,h2,h3,h4⟩:=h;exact⟨l,e,h2,k l h3,h4⟩
 |slot i=>exact h
noncomputable def Sub (ρ' ρ:Rho):Prop:=∀(i:Nat) o f k,ρ'[i]?=some (.own o f k)->ρ[i]?=some (.own o f k)
theorem Sub.set {i:Nat}{s:Sl}(hs:∀o f k,s≠.own o f k):Sub (ρ.set i s) ρ:=fun j o f k h=>by
 rw[juw]at h;by_cases e:i=j
 ·rw[if_pos e]at h;split at h
  ·cases h;exact absurd rfl (hs _ _ _)
  ·cases h
 ·rw[if_neg e]at h;exact h
theorem Sub.trans (a:Sub ρ2 ρ1)(b:Sub ρ1 ρ):Sub ρ2 ρ:=fun i o f k h=>b i o f k (a i o f k h)
theorem Sub.ow (a:Sub ρ1 ρ){b:Addr}(h:Ow σ ρ1 b):Ow σ ρ b:=let ⟨i,o,f,k,h1,h2⟩:=h;⟨i,o,f,k,a i o f k h1,h2⟩
theorem jo2 {ρ':Rho}{d:D}(h:RW Z F1 H H1 σ ρ' w v)(sb:Sub ρ1 ρ')(r:SR Z B F1 H1 σ ρ1)(g:Go σ ρ F H σ ρ1 F1 H1)(hd:toD w ρ1=.ok (d,ρ2)) :
  ∃F2,Go σ ρ F H σ ρ2 F2 H1/\SR Z B F2 H1 σ ρ2/\Rep Z F2 H1 d v/\Keep F1 F2 H1 H1/\Sub ρ2 ρ1/\(∀j:Nat,ρ1[j]?=some .no->ρ2[j]?=some .no)/\(∀a,F2 a->F1 a\/¬Ow σ ρ' a\/∃(j:Nat) (o:O),ρ1[j]?=some (.own o false false)/\σ[j]?=some (some (.ref a))):=by
 cases w with
 |dat d'=>cases hd;exact⟨F1,g,r,h,Keep.refl,fun _ _ _ _ h=>h,fun _ h=>h,fun a h1=>.inl h1⟩
 |tmp o=>
  cases hd;obtain⟨l,rfl,h2,h3,h4⟩:=h;obtain⟨a,b⟩:=r.frzT (fun z=>h2 (sb.ow z)) h4;refine⟨_,g.frzT h3,a,b,fun a q=>⟨.inl q,rfl⟩,fun _ _ _ _ h=>h,fun _ h=>h,fun x h5=>?_⟩;rcases h5 with h5 | h5
  ·exact .inl h5
  ·rw[h5];exact .inr (.inl h2)
 |slot i=>
  have h:σ[i]?=some (some v):=h;simp only[toD]at hd;split at hd
  ·rename_i o e;cases hd;obtain⟨l,e1,_⟩:=r.own i o _ _ e;rw[h]at e1;cases e1;obtain⟨a,b,c⟩:=r.frz e h;refine⟨_,g.trans (Go.frz e h),b,c,a,Sub.set (fun _ _ _ z=>by cases z),fun j hj=>?_,fun x h5=>?_⟩
   ·rw[juw];split
    ·rename_i z;subst z;rw[e]at hj;cases hj
    ·exact hj
   ·rcases h5 with h5 | h5
    ·exact .inl h5
    ·rw[h5];exact .inr (.inr ⟨i,o,e,h⟩)
  ·cases hd
end
inductive tL_I (Z:Kn) (X:Cx) (B:Bs) (f:Rho->R (List D×Rho)) (σ:L2.St) (H:L2.Hp) (Q:(List L2.V->L2.Hp->Prop)):Prop
 |mk (F:_) (ρ:_):(SR Z B F H σ ρ)->(Ok (XW Z X σ ρ H) (f ρ) fun p=>∀vs F' H',Go σ ρ F H σ p.2 F' H'->SR Z B F' H' σ p.2->Reps Z F' H' p.1 vs->Q vs H')->tL_I Z X B f σ H Q
noncomputable def tL (Z:Kn)(X:Cx)(B:Bs)(f:Rho->R (List D×Rho)):TA:=fun σ H Q=>tL_I Z X B f σ H Q
noncomputable def RWs (Z:Kn)(F':Addr->Prop)(H0 H':Hp)(σ:L2.St)(ρ':Rho):List Vl->List V->Prop:=Paired (RW Z F' H0 H' σ ρ')
inductive tAs_I (Z:Kn) (X:Cx) (B:Bs) (f:Rho->R (List Vl×Rho)) (σ:L2.St) (H:L2.Hp) (Q:(List L2.V->L2.Hp->Prop)):Prop
 |mk (F:_) (ρ:_):(SR Z B F H σ ρ)->(Ok (XW Z X σ ρ H) (f ρ) fun p=>∀vs F' H',Go σ ρ F H σ p.2 F' H'->SR Z B F' H' σ p.2->RWs Z F' H H' σ p.2 p.1 vs->Q vs H')->tAs_I Z X B f σ H Q
noncomputable def tAs (Z:Kn)(X:Cx)(B:Bs)(f:Rho->R (List Vl×Rho)):TA:=fun σ H Q=>tAs_I Z X B f σ H Q
section
variable {Z:Kn}{X:Cx}{B:Bs}{G:Calls}{U:Nat->Nat->Bool}
theorem jjZ {es:List Expr}{Es':List E}(hp:Paired (fun e E'=>PE X e (tE Z X B (evE G U E'))/\∀a p,e≠.Starred a p) es Es'):PA X es (tL Z X B (evEs G U (jg4 Es'))):=by
 induction hp with
 |nil=>
  intro pos pins s σ H Q I h;obtain⟨F,ρ,r,h⟩:=h;exact ja9 pos pins s σ H Q I (h [] F H Go.refl r .nil)
 |cons h1 h2 ih=>
  intro pos pins s σ H Q I h;refine jau h1.1 ih (jad h1.2) pos pins s σ H Q I ?_;obtain⟨F,ρ,r,h⟩:=h;simp only[jg4,evEs]at h;refine⟨F,ρ,r,h.bind.imp (fun _ w=>w) fun p h1 v F1 H1 g1 r1 q1=>?_⟩;obtain⟨q,hq,h2⟩:=h1.bind.pure fun c=>jcT;obtain⟨F2,g2,r2,rp,_⟩:=jgX q1 r1 g1 hq;refine⟨F2,q.2,r2,h2.bind.imp (fun c w=>w.mono g2) fun s3 h3 vs F3 H3 g3 r3 q3=>?_⟩;exact h3 (v::vs) F3 H3 (g2.trans g3) r3 (.cons (rp.mono (g3.keep r2)) q3)
theorem RWs.base {σ:L2.St}{ρ1:Rho}{F1:Addr->Prop}{H H0 H1:Hp}{ws:List Vl}{vs:List V}(h:RWs Z F1 H0 H1 σ ρ1 ws vs)(k:∀l,H0 l=none->H l=none):RWs Z F1 H H1 σ ρ1 ws vs:=Paired.mapP h fun _ _ x=>x.base k
theorem RWs.keep {σ:L2.St}{ρ1:Rho}{F1 F2:Addr->Prop}{H0 H1:Hp}{ws:List Vl}{vs:List V}(h:RWs Z F1 H0 H1 σ ρ1 ws vs)(k:Keep F1 F2 H1 H1):RWs Z F2 H0 H1 σ ρ1 ws vs:=Paired.mapP h fun _ _ x=>x.keep k fun _ z=>z
theorem jo3 {es:List Expr}{Es':List E}(hp:Paired (fun e E'=>PE X e (tE Z X B (evE G U E'))/\∀a p,e≠.Starred a p) es Es'):PA X es (tAs Z X B (evAs G U (jg4 Es'))):=by
 induction hp with
 |nil=>
  intro pos pins s σ H Q I h;obtain⟨F,ρ,r,h⟩:=h;exact ja9 pos pins s σ H Q I (h [] F H Go.refl r .nil)
 |cons h1 h2 ih=>
  intro pos pins s σ H Q I h;refine jau h1.1 ih (jad h1.2) pos pins s σ H Q I ?_;obtain⟨F,ρ,r,h⟩:=h;simp only[jg4,evAs]at h;refine⟨F,ρ,r,h.bind.imp (fun _ w=>w) fun p h1 v F1 H1 g1 r1 q1=>⟨F1,p.2,r1,h1.bind.imp (fun c w=>w.mono g1) fun s3 h3 vs F3 H3 g3 r3 q3=>?_⟩⟩;exact h3 (v::vs) F3 H3 (g1.trans g3) r3 (.cons (q1.weak.go r1 g3) (q3.base fun l z=>g1.free z))
end
section
variable {Z:Kn}{B:Bs}{σ:L2.St}{ρ ρ0 ρ1 ρ2:Rho}{F F0 F1 F2:Addr->Prop}{H H0:Hp}
inductive PassR (Z:Kn) (F2:Addr->Prop) (H:Hp) (σ:L2.St) (ρ ρ2:Rho):Sl->Option (Nat×Bool×Bool)->V->Prop where
 |dat {d:D}{v:V}:Rep Z F2 H d v->PassR Z F2 H σ ρ ρ2 (.dat d) none v
 |own {o:O}{i:Nat}{f k:Bool}{l:Addr}:σ[i]?=some (some (.ref l))->ρ[i]?=some (.own o f k)->ρ2[i]?=some .no->¬F2 l->HasO Z F2 H l o->PassR Z F2 H σ ρ ρ2 (.own o true k) (some (i,f,k)) (.ref l)
noncomputable def lentIx:List (Option (Nat×Bool×Bool))->List Nat
 |[]=>[]
 |some (i,_,_)::r=>i::lentIx r
 |none::r=>lentIx r
inductive PassRs (Z:Kn) (F2:Addr->Prop) (H:Hp) (σ:L2.St) (ρ ρ2:Rho):List Sl->List (Option (Nat×Bool×Bool))->List V->Prop where
 |nil:PassRs Z F2 H σ ρ ρ2 [] [] []
 |cons {s:Sl}{b:Option (Nat×Bool×Bool)}{v:V}{ss:List Sl}{bs:List (Option (Nat×Bool×Bool))}{vs:List V}:PassR Z F2 H σ ρ ρ2 s b v->PassRs Z F2 H σ ρ ρ2 ss bs vs->PassRs Z F2 H σ ρ ρ2 (s::ss) (b::bs) (v::vs)
theorem jj0 {l:Bool}{w:Vl}{c:Nat}:jhW l w ρ≠.err c:=by
 intro h;unfold jhW at h;split at h
 ·split at h <;> cases h
 ·cases q:toD w ρ with
  |ok p=>rw[q]at h;cases h
  |err c=>exact absurd q jcT
  |stk=>rw[q]at h;cases h
theorem jc1:∀{fl:List Bool}{ws:List Vl}{ρ:Rho}{c:Nat},jaB fl ws ρ≠.err c
 |_,[],_,_=>by simp[jaB]
 |fl,w::ws,ρ,c=>by
  intro h;simp only[jaB]at h;cases q:jhW (fl.headD false) w ρ with
  |ok p=>
   rw[q,R.bind_ok']at h;cases q2:jaB fl.tail ws p.2.2 with
   |ok r=>rw[q2]at h;cases h
   |err c=>exact jc1 q2
   |stk=>rw[q2]at h;cases h
  |err c=>exact jj0 q
  |stk=>rw[q]at h;cases h
inductive PassO (Z:Kn) (B:Bs) (F0:Addr->Prop) (H0 H:Hp) (σ:L2.St) (ρ ρ0 ρ1 ρ2:Rho) (F1:Addr->Prop) (sls:List Sl) (back:List (Option (Nat×Bool×Bool))) (vs:List V):Prop
 |mk (F2:Addr->Prop):(Go σ ρ0 F0 H0 σ ρ2 F2 H)->(SR Z B F2 H σ ρ2)->(Keep F1 F2 H H)->(Sub ρ2 ρ)->(PassRs Z F2 H σ ρ ρ2 sls back vs)->((lentIx back).Nodup)->((∀i∈lentIx back,∃o f k,ρ1[i]?=some (.own o f k)))->((∀i:Nat,ρ1[i]?=some .no->ρ2[i]?=some .no))->((∀l,(∃(i:Nat) (o:O) (f kk:Bool),ρ[i]?=some (Sl.own o f kk)/\σ[i]?=some (some (V.ref l))/\ρ1[i]?=some Sl.no)->¬F1 l->¬F2 l))->PassO Z B F0 H0 H σ ρ ρ0 ρ1 ρ2 F1 sls back vs
theorem jf7:∀{fl:List Bool}{ws:List Vl}{vs:List V}{ρ1 ρ2:Rho}{F1:Addr->Prop}{sls:List Sl}{back:List (Option (Nat×Bool×Bool))},RWs Z F1 H0 H σ ρ ws vs->SR Z B F1 H σ ρ1->Go σ ρ0 F0 H0 σ ρ1 F1 H->SR Z B F H σ ρ->Keep F F1 H H->Sub ρ1 ρ ->
  jaB fl ws ρ1=.ok (sls,back,ρ2) ->
  PassO Z B F0 H0 H σ ρ ρ0 ρ1 ρ2 F1 sls back vs
 |fl,[],vs,ρ1,ρ2,F1,sls,back,rw',r1,g1,r,kp,sb,h=>by
  cases rw';simp only[jaB]at h;cases h;exact⟨F1,g1,r1,Keep.refl,sb,.nil,List.nodup_nil,fun _ h=>absurd h (by simp[lentIx]),fun _ h=>h,fun _ _ h=>h⟩
 |fl,w::ws,vs,ρ1,ρ2,F1,sls,back,rw',r1,g1,r,kp,sb,h=>by
  cases rw' with
  |@cons _ v _ vs' q1 q2=>
  simp only[jaB]at h;obtain⟨p,hp,h⟩:=R.bind_ok h;obtain⟨q,hq,h⟩:=R.bind_ok h;cases h;unfold jhW at hp;split at hp
  ·
   rename_i i hfl;split at hp
   ·rename_i o f k e;cases hp;have q1:σ[i]?=some (some v):=q1;obtain⟨l,e1,e2,e3,e4⟩:=r1.own i o f k e;rw[q1]at e1;cases e1;have hi:i < ρ1.length:=(List.getElem?_eq_some_iff.mp e).1;have le:Le (ρ1.set i .no) ρ1:=Le.no;have rA:SR Z B F1 H σ (ρ1.set i .no):=r1.weak le;have gA:Go σ ρ0 F0 H0 σ (ρ1.set i .no) F1 H:=g1.trans (Go.weak le);have sbA:Sub (ρ1.set i .no) ρ1:=Sub.set (fun _ _ _ z=>by cases z)
    obtain⟨F2,g2,r2,k2,s2,p2,n2,i2,no2,f2⟩:=jf7 q2 rA gA r kp (sbA.trans sb) hq;have ei:=sb i o f k e;have noI:(ρ1.set i .no)[i]?=some .no:=List.getElem?_set_self hi;refine⟨F2,g2,r2,k2,s2,.cons (.own q1 ei (no2 i noI) (f2 l ⟨i,o,f,k,ei,q1,noI⟩ e2) (e3.mono k2 rfl)) p2,?_,?_,?_,?_⟩
    ·simp only[lentIx];refine List.nodup_cons.mpr ⟨fun z=>?_,n2⟩;obtain⟨o',f',k',e'⟩:=i2 i z;rw[noI]at e';cases e'
    ·intro j hj;simp only[lentIx]at hj;rcases List.mem_cons.mp hj with rfl | hj
     ·exact⟨o,f,k,e⟩
     ·obtain⟨o',f',k',e'⟩:=i2 j hj;exact⟨o',f',k',sbA j o' f' k' e'⟩
    ·intro j hj;refine no2 j ?_;rw[juw];split
     ·rename_i z;subst z;exact absurd (e.symm.trans hj) (by simp)
     ·exact hj
    ·rintro l' ⟨j,o',f',kk',a1,a2,a3⟩ hn;refine f2 l' ⟨j,o',f',kk',a1,a2,?_⟩ hn;rw[juw];split
     ·rename_i z;subst z;exact absurd (e.symm.trans a3) (by simp)
     ·exact a3
   ·cases hp
  ·
   obtain⟨t,ht,hp⟩:=R.bind_ok hp;cases hp;obtain⟨FA,gA,rA,rp,kA,sA,noA,nA⟩:=jo2 q1 sb r1 g1 ht;have q2A:RWs Z FA H0 H σ ρ ws vs':=RWs.keep q2 kA;have fA:∀l,(∃(i:Nat) (o:O) (f kk:Bool),ρ[i]?=some (Sl.own o f kk)/\σ[i]?=some (some (V.ref l))/\ρ1[i]?=some Sl.no)->¬F1 l->¬FA l:=fun l hx hn z=>by
    obtain⟨i,o,f,kk,a1,a2,a3⟩:=hx;rcases nA l z with z | z | ⟨j,oj,z1,z2⟩
    ·exact hn z
    ·exact z ⟨i,o,f,kk,a1,a2⟩
    ·refine r.one i j _ _ _ _ _ _ l (fun e=>?_) a1 (sb j oj _ _ z1) a2 z2;subst e;rw[a3]at z1;cases z1
   obtain⟨F2,g2,r2,k2,s2,p2,n2,i2,no2,f2⟩:=jf7 q2A rA gA r (kp.trans kA) (sA.trans sb) hq;refine⟨F2,g2,r2,kA.trans k2,s2,.cons (.dat (rp.mono k2)) p2,?_,?_,fun j hj=>no2 j (noA j hj),?_⟩
   ·simp only[lentIx];exact n2
   ·intro j hj;simp only[lentIx]at hj;obtain⟨o',f',k',e'⟩:=i2 j hj;exact⟨o',f',k',sA j o' f' k' e'⟩
   ·rintro l ⟨i,o,f,kk,a1,a2,a3⟩ hn;exact f2 l ⟨i,o,f,kk,a1,a2,noA i a3⟩ (fA l ⟨i,o,f,kk,a1,a2,a3⟩ hn)
theorem PassRs.len {sls:List Sl}{back:List (Option (Nat×Bool×Bool))}{vs:List V}(h:PassRs Z F2 H σ ρ ρ2 sls back vs):sls.length=vs.length/\back.length=vs.length:=by
 induction h with
 |nil=>exact⟨rfl,rfl⟩
 |cons _ _ ih=>simp[ih.1,ih.2]
theorem PassRs.get {sls:List Sl}{back:List (Option (Nat×Bool×Bool))}{vs:List V}(h:PassRs Z F2 H σ ρ ρ2 sls back vs):∀{k:Nat}{s:Sl},sls[k]?=some s->∃b v,back[k]?=some b/\vs[k]?=some v/\PassR Z F2 H σ ρ ρ2 s b v:=by
 induction h with
 |nil=>intro k s e;simp at e
 |@cons s0 b0 v0 ss bs vs h1 _ ih=>
  intro k s e;cases k with
  |zero=>simp at e;subst e;exact⟨b0,v0,rfl,rfl,h1⟩
  |succ k=>simp at e;simpa using ih e
theorem jbR:∀{back:List (Option (Nat×Bool×Bool))}{k i:Nat}{f g:Bool},back[k]?=some (some (i,f,g))->i∈lentIx back
 |[],k,i,f,g,h=>by simp at h
 |none::r,0,i,f,g,h=>by simp at h
 |none::r,k + 1,i,f,g,h=>by simp at h;simp only[lentIx];exact jbR h
 |some (j,a,b)::r,0,i,f,g,h=>by
  simp at h;simp[lentIx,h.1]
 |some (j,a,b)::r,k + 1,i,f,g,h=>by simp at h;simp only[lentIx];exact jus _ (jbR h)
theorem jh1 {back:List (Option (Nat×Bool×Bool))}{k k' i:Nat}{f g f' g':Bool}(n:(lentIx back).Nodup)(h:back[k]?=some (some (i,f,g)))(h':back[k']?=some (some (i,f',g'))):k=k':=by
 induction back generalizing k k' with
 |nil=>cases h
 |cons x r ih=>
  cases x with
  |none=>
   cases k with
   |zero=>cases h
   |succ k=>
    cases k' with
    |zero=>cases h'
    |succ k'=>rw[ih n h h']
  |some x=>
   have n:=List.nodup_cons.mp n;cases k with
   |zero=>
    cases k' with
    |zero=>rfl
    |succ k'=>cases h;exact absurd (jbR (back:=r) h') n.1
   |succ k=>
    cases k' with
    |zero=>cases h';exact absurd (jbR (back:=r) h) n.1
    |succ k'=>rw[ih n.2 h h']
theorem jc2:∀{back:List (Option (Nat×Bool×Bool))}{fin:List Sl}{ρ:Rho},(ja8 back fin ρ).length=ρ.length
 |[],fin,ρ=>by simp[ja8]
 |_::_,[],ρ=>by simp[ja8]
 |none::r,s::fs,ρ=>by simp only[ja8];exact jc2
 |some (i,f,k)::r,s::fs,ρ=>by
  simp only[ja8];rw[jc2];split <;> simp
theorem jbH:∀{back:List (Option (Nat×Bool×Bool))}{fin:List Sl}{ρ:Rho}{i:Nat}{s:Sl},(ja8 back fin ρ)[i]?=some s->ρ[i]?=some s\/∃(k:Nat) (o:O) (f k' f0 k0:Bool),back[k]?=some (some (i,f0,k0))/\fin[k]?=some (.own o f k')/\s=.own o f0 k0
 |[],fin,ρ,i,s,h=>by simp[ja8]at h;exact .inl h
 |_::_,[],ρ,i,s,h=>by simp[ja8]at h;exact .inl h
 |none::r,s0::fs,ρ,i,s,h=>by
  simp only[ja8]at h;rcases jbH h with h | ⟨k,o,f,k',f0,k0,h1,h2,h3⟩
  ·exact .inl h
  ·exact .inr ⟨k + 1,o,f,k',f0,k0,by simpa using h1,by simpa using h2,h3⟩
 |some (j,f,g)::r,s0::fs,ρ,i,s,h=>by
  simp only[ja8]at h;rcases jbH h with hx | ⟨k,o,f,k',f0,k0,h1,h2,h3⟩
  ·clear h;cases s0 with
   |own o f1 k1=>
    simp only at hx;rw[juw]at hx;split at hx
    ·rename_i e;subst e;split at hx
     ·cases hx;exact .inr ⟨0,o,f1,k1,f,g,rfl,rfl,rfl⟩
     ·cases hx
    ·exact .inl hx
   |no=>exact .inl hx
   |dat d=>exact .inl hx
  ·exact .inr ⟨k + 1,o,f,k',f0,k0,by simpa using h1,by simpa using h2,h3⟩
noncomputable def jc3 (H:Hp)(sls:List Sl)(vs:List V):Bs:=⟨H,fun k=>match sls[k]?,vs[k]? with
 |some (.own _ _ _),some (.ref l)=>some l
 |_,_=>none⟩
theorem jf8 {sls:List Sl}{vs:List V}(k:Nat)(l:Addr)(h:(jc3 H sls vs).lent k=some l):(vs.map some)[k]?=some (some (.ref l)):=by
 unfold jc3 at h;simp only at h;split at h
 ·rename_i h1 h2;cases h;rw[jux,h2];rfl
 ·cases h
theorem PassRs.own {sls:List Sl}{back:List (Option (Nat×Bool×Bool))}{vs:List V}(h:PassRs Z F2 H σ ρ ρ2 sls back vs){k:Nat}{o:O}{f g:Bool}(e:sls[k]?=some (.own o f g)) :
  ∃(i:Nat) (f0:Bool) (l:Addr),back[k]?=some (some (i,f0,g))/\vs[k]?=some (.ref l)/\f=true/\σ[i]?=some (some (.ref l))/\ρ[i]?=some (.own o f0 g)/\ρ2[i]?=some .no/\¬F2 l/\HasO Z F2 H l o:=by
 obtain⟨b,v,h1,h2,h3⟩:=h.get e;cases h3 with
 |own a1 a2 a3 a4 a5=>exact⟨_,_,_,h1,h2,rfl,a1,a2,a3,a4,a5⟩
theorem PassRs.backOf {sls:List Sl}{back:List (Option (Nat×Bool×Bool))}{vs:List V}(h:PassRs Z F2 H σ ρ ρ2 sls back vs){k i:Nat}{f0 k0:Bool}(e:back[k]?=some (some (i,f0,k0))) :
  ∃(o:O) (l:Addr),sls[k]?=some (.own o true k0)/\vs[k]?=some (.ref l)/\σ[i]?=some (some (.ref l))/\ρ[i]?=some (.own o f0 k0)/\ρ2[i]?=some .no:=by
 have hl:k < sls.length:=by
  rw[h.len.1,<-h.len.2];exact(List.getElem?_eq_some_iff.mp e).1
 obtain⟨b,v,h1,h2,h3⟩:=h.get (jur hl);rw[e]at h1;cases h1;have es:=jur hl;generalize sls[k]=s at h3 es;cases h3 with
 |own a1 a2 a3 a4 a5=>exact⟨_,_,es,h2,a1,a2,a3⟩
theorem jo4 {sls:List Sl}{back:List (Option (Nat×Bool×Bool))}{vs:List V}(r:SR Z B F H σ ρ)(r2:SR Z B F2 H σ ρ2)(h:PassRs Z F2 H σ ρ ρ2 sls back vs)(hn:(lentIx back).Nodup):SR Z (jc3 H sls vs) F2 H (vs.map some) sls where
 dom:=r2.dom
 len:=by simp[h.len.1]
 dat i d e:=by
  obtain⟨b,v,h1,h2,h3⟩:=h.get e;cases h3 with
  |dat q=>exact⟨v,by rw[jux,h2];rfl,q⟩
 own i o f k e:=by
  obtain⟨j,f0,l,h1,h2,h3,h4,h5,h6,h7,h8⟩:=h.own e;refine⟨l,by rw[jux,h2];rfl,h7,h8,fun _=>?_,fun z=>?_⟩
  ·simp only[jc3,e,h2]
  ·rw[h3]at z;cases z
 one i j o o' f k f' k' l ne e e' q q':=by
  obtain⟨a,f0,l1,h1,h2,h3,h4,h5,h6,h7,h8⟩:=h.own e;obtain⟨a',f0',l1',h1',h2',h3',h4',h5',h6',h7',h8'⟩:=h.own e';rw[jux,h2]at q;rw[jux,h2']at q';cases q;cases q';refine r.one a a' _ _ _ _ _ _ l (fun z=>ne ?_) h5 h5' h4 h4';subst z;exact jh1 hn h1 h1'
 base b z:=z
theorem jmh {sls:List Sl}{back:List (Option (Nat×Bool×Bool))}{vs:List V}{H':Hp}(h:PassRs Z F2 H σ ρ ρ2 sls back vs)(st:Stl (vs.map some) sls H H'):Stl σ ρ H H':=
 ⟨fun b o e n=>st.stay b o e fun ⟨k,o',f,e1,e2⟩=>n (by
  obtain⟨i,f0,l,h1,h2,h3,h4,h5,_⟩:=h.own e1;rw[jux,h2]at e2;cases e2;exact⟨i,o',f0,h5,h4⟩),st.there⟩
theorem jo5 {sls fin:List Sl}{back:List (Option (Nat×Bool×Bool))}{vs:List V}{F':Addr->Prop}{H':Hp}(g:Go σ ρ0 F0 H0 σ ρ F H)(r:SR Z B F H σ ρ)(gp:Go σ ρ0 F0 H0 σ ρ2 F2 H)(r2:SR Z B F2 H σ ρ2)(sb:Sub ρ2 ρ)(h:PassRs Z F2 H σ ρ ρ2 sls back vs)
  (gc:Go (vs.map some) sls F2 H (vs.map some) fin F' H') (rc:SR Z (jc3 H sls vs) F' H' (vs.map some) fin) (rs:SR Z (jc3 H sls vs) F2 H (vs.map some) sls) :
  Go σ ρ0 F0 H0 σ (ja8 back fin ρ2) F' H'/\SR Z B F' H' σ (ja8 back fin ρ2)/\∀w v,(∀i,w≠.slot i)->RV Z F' H H' (vs.map some) fin w v->RV Z F' H0 H' σ (ja8 back fin ρ2) w v:=by
 have own3:∀(i:Nat) (o:O) (f k:Bool),(ja8 back fin ρ2)[i]?=some (.own o f k)->∃o0,ρ[i]?=some (.own o0 f k):=fun i o f k e=>by
  rcases jbH e with e | ⟨m,o1,f1,k1,f0,k0,h1,h2,h3⟩
  ·exact⟨o,sb i o f k e⟩
  ·cases h3;obtain⟨o2,l,_,_,_,h7,_⟩:=h.backOf h1;exact⟨o2,h7⟩
 have mbC:∀b,Mb (vs.map some) sls b->Mb σ ρ b:=fun b ⟨k,o,f,e1,e2⟩=>by
  obtain⟨i,f0,l,h1,h2,h3,h4,h5,_⟩:=h.own e1;rw[jux,h2]at e2;cases e2;exact⟨i,o,f0,h5,h4⟩
 have owC:∀b,Ow (vs.map some) sls b->∃(i:Nat) (o:O) (f k:Bool),ρ[i]?=some (.own o f k)/\σ[i]?=some (some (.ref b))/\ρ2[i]?=some .no:=fun b ⟨k,o,f,k',e1,e2⟩=>by
  obtain⟨i,f0,l,h1,h2,h3,h4,h5,h6,_⟩:=h.own e1;rw[jux,h2]at e2;cases e2;exact⟨i,o,f0,k',h5,h4,h6⟩
 have kp:=gc.keep rs;refine⟨⟨fun b o e n=>?_,fun a q=>gc.sub a (gp.sub a q),fun a q=>?_,fun j o f k b e1 e2=>?_,fun b o e=>?_⟩,⟨rc.dom,?_,fun i d e=>?_,fun i o f k e=>?_,fun i j o o' f k f' k' l ne e e' q=>?_,fun b z=>?_⟩,fun w v hw q=>?_⟩
 ·refine gc.stay b o (g.stay b o e n) fun z=>?_;rcases g.mb (mbC b z)with q | q
  ·exact n q
  ·rw[e]at q;cases q
 ·rcases gc.new a q with q | q | q
  ·exact gp.new a q
  ·exact .inr (.inl (g.free q))
  ·rcases g.mb (mbC a q)with q | q
   ·exact .inr (.inr q)
   ·exact .inr (.inl q)
 ·obtain⟨o0,e0⟩:=own3 j o f k e1;exact g.ow j o0 f k b e0 e2
 ·obtain⟨o1,e1⟩:=g.there b o e;exact gc.there b o1 e1
 ·rw[jc2];exact r2.len
 ·rcases jbH e with e | ⟨m,o1,f1,k1,f0,k0,h1,h2,h3⟩
  ·obtain⟨v,e1,e2⟩:=r2.dat i d e;exact⟨v,e1,e2.mono kp⟩
  ·cases h3
 ·rcases jbH e with e | ⟨m,o1,f1,k1,f0,k0,h1,h2,h3⟩
  ·obtain⟨l,e1,e2,e3,e4⟩:=r2.own i o f k e;have no:¬Ow (vs.map some) sls l:=fun z=>by
    obtain⟨j,o',f',k',q1,q2,q3⟩:=owC l z;refine r.one i j _ _ _ _ _ _ l (fun e'=>?_) (sb i o f k e) q1 e1 q2;subst e';rw[e]at q3;cases q3
   obtain⟨u,hu⟩:=e3.some;obtain⟨a,b,_⟩:=gc.side hu e2 no;exact⟨l,e1,b,e3.mono kp (a.trans hu.symm),e4⟩
  ·cases h3;obtain⟨o2,l,h4,h5,h6,h7,_⟩:=h.backOf h1;obtain⟨l',q1,q2,q3,q4⟩:=rc.own m _ _ _ h2;rw[jux,h5]at q1;cases q1;obtain⟨l2,z1,_,_,z4⟩:=r.own i o2 _ _ h7;rw[h6]at z1;cases z1;exact⟨l,h6,q2,q3,z4⟩
 ·obtain⟨o1,e1⟩:=own3 i o f k e;obtain⟨o2,e2⟩:=own3 j o' f' k' e';exact r.one i j _ _ _ _ _ _ l ne e1 e2 q
 ·exact r.base b (gc.free z)
 ·cases w with
  |dat d=>exact q
  |tmp o=>
   obtain⟨l,e,h1,h2,h3,h4⟩:=q;refine⟨l,e,h1,fun z=>?_,g.free h3,h4⟩;obtain⟨j,o',f',k',z1,z2⟩:=z;obtain⟨o0,z0⟩:=own3 j o' f' k' z1;obtain⟨u,hu⟩:=r.there ⟨j,o0,f',k',z0,z2⟩;rw[h3]at hu;cases hu
  |slot i=>exact absurd rfl (hw i)
end
end DJ
namespace DJ
open PySem PySem.Spec PyProof.Rows L2
noncomputable def EX (X:Cx)(σ:L2.St):XK:=fun cls _ H'=>∀(pins:List (Addr×Obj)) (s':Shared) (ea:Addr),Inv X pins σ H' s'->FlyC X pins ea cls H' s'->X.xe (.ref ea) s'
theorem jrp {X:Cx}{pins:List (Addr×Obj)}{σ:L2.St}{H:Hp}{s s':Shared}{e:Value}{E:XK}(I:Inv X pins σ H s)(h:CXD X.prog X.w X.stack H s E e s'):∃ea cls H',e=.ref ea/\Inv X pins σ H' s'/\FlyC X pins ea cls H' s'/\E cls none H':=by
 obtain⟨ea,cls,a0,H',B,rfl,os,bare,un,hok,fl,hB,hB2,hn,q⟩:=h;refine⟨ea,cls,H',rfl,I.call' os un hok bare fun b z=>absurd z (by simp),⟨⟨a0,B,.of fl,fun b o e n nx=>?_,fun x c hf hc=>?_,fun p hp=>?_,hB2⟩,hn⟩,q⟩
 ·obtain⟨o',e'⟩:=I.base.there b o e nx;exact hB b o' e' n
 ·obtain⟨v,o,ho,hd⟩:=I.cell x c hc;refine hB c o ho fun z=>?_;rcases List.mem_cons.mp (I.stkSub c z)with z | z
  ·exact I.cne x c hc z
  ·have h1:=I.ok.cab x c hf hc;obtain⟨_,o',h2,_⟩:=I.ok.funs.mem z;exact absurd (ju3 h2) (Nat.not_lt.mpr h1)
 ·obtain⟨h1,h2,h3,h4,_⟩:=I.pin p hp;refine hB p.1 p.2 h1 fun z=>?_;rcases List.mem_cons.mp (I.stkSub p.1 z)with z | z
  ·exact h3 z
  ·exact h4 z
noncomputable def jj1 (X:Cx)(sp:Sp)(t:TA):TE:=fun σ H Q=>t σ H fun vs H1=>sp vs H1 Q (EX X σ)
section
variable {X:Cx}{k:Nat}{f:Addr}{fd:FuncData}{ps:List Str}{sp:Sp}{x:Str}{p pos:Pos}{e:Expr}{es:List Expr}{t:TA}
theorem jj2 {pins:List (Addr×Obj)}{σ:L2.St}{H:Hp}{s:Shared}{Q:VK}{us:List Value}{vs:List V}(F:FnOk X.prog X.w X.K X.mg X.base (CXD X.prog X.w) k f fd ps sp)(hr:Room k X.A)(hb:Binds X.K fd ps [])
  (I:Inv X pins σ H s) (r:Vals vs us) (h:sp vs H Q (EX X σ)):wpAny (model X.prog X.w) X.A (call (.ref f) us) (EP X pins σ Q) X.xe s:=by
 have hl:(us++[]).length=ps.length:=by rw[juQ,<-r.length];exact F.len _ _ _ _ h
 have hbt:=hb s us I.kIn hl;rw[juQ]at hbt;refine wpAny_call (codeAny_mono (F.run X.A X.stack s H ⟨us,[]⟩ us vs Q (EX X σ) hr I.env0 hbt r h) fun r s' hq=>?_);cases r with
 |error e=>
  obtain⟨ea,cls,H',rfl,I',fl,q⟩:=jrp I hq;exact q pins s' ea I' fl
 |ok fl=>
  cases fl with
  |ret u=>exact I.after hq
  |next=>exact False.elim hq
  |brk=>exact False.elim hq
  |cont=>exact False.elim hq
theorem jmi (F:FnOk X.prog X.w X.K X.mg X.base (CXD X.prog X.w) k f fd ps sp)(hr:Room k X.A)(hg:Gl X x)(hm:X.mg x=some (.ref f))(hk:PySem.W.keepIn X.K (.ref f)=true)(hb:Binds X.K fd ps [])
  (ha:PA X (e::es) t) (hdb:(x == ("__debug__":Str))=false) (he:starEach (e::es) X.env=(false,eval e X.env)::starEach es X.env) (hpl:(backTo pos (starEach es X.env)).any (·.1)=false) :
  PE X (.Call (.Name x p) (e::es) [] pos) (jj1 X sp t):=by
 intro pins s σ H Q I h;refine wpAny_Call_Name_kw (jdO I hg hm ?_ hdb);refine PySem.W.callWith_K (h₀:=X.base) I.ok.mod.kin hk (thn (ha pos pins s σ H _ I h) fun us s1 ⟨vs,H1,I1,r,q⟩=>⟨I1.kIn,?_⟩) he hpl;exact jj2 F hr hb I1 r q
theorem jj3 (F:FnOk X.prog X.w X.K X.mg X.base (CXD X.prog X.w) k f fd ps sp)(hr:Room k X.A)(hg:Gl X x)(hm:X.mg x=some (.ref f))(hk:PySem.W.keepIn X.K (.ref f)=true)(hb:Binds X.K fd ps [])
  (hdb:(x == ("__debug__":Str))=false):PE X (.Call (.Name x p) [] [] pos) (jj1 X sp jqd):=by
 intro pins s σ H Q I h;refine wpAny_Call_Name_kw (jdO I hg hm ?_ hdb);exact PySem.W.callWith_K0 I.kIn hk (jj2 (us:=[]) F hr hb I .nil h)
end
section
variable {T:Tab}{G:Calls}{U:Nat->Nat->Bool}{Z:Kn}{m:Nat}{X:Cx}{sc:List (Str×NameKind)}{B:Bs}
theorem jmj (D:XD T G U Z m X sc)(hq:T.quiet=false){f:Str}{k:Nat}{fl:List Bool}{p pos:Pos}{args:List Expr}{es:List E}(hf:knd sc f=2)(hb:jdi f=false)(hk:jed T.defs f=some k)
  (h:Paired (fun e E'=>PE X e (tE Z X B (evE G U E'))/\∀a p,e≠.Starred a p) args es):PE X (.Call (.Name f p) args [] pos) (tE Z X B (evE G U (.call k fl (jg4 es)))):=by
 obtain⟨fa,fd,ps,hm,hkp,hbd,hF⟩:=D.defs k f (jaZ hk);have key:∀σ H Q,tE Z X B (evE G U (.call k fl (jg4 es))) σ H Q->jj1 X (spD Z G k) (tAs Z X B (evAs G U (jg4 es))) σ H Q:=by
  intro σ H Q hz1;obtain⟨F,ρ,r,q⟩:=hz1;simp only[evE]at q;refine⟨F,ρ,r,q.bind.imp (fun _ w=>w) fun p1 h1 vs F1 H1 g1 r1 w1=>?_⟩;obtain⟨pp,hp,h2⟩:=h1.bind.pure fun c=>jc1;obtain⟨sls,back,ρ2⟩:=pp;obtain⟨F2,g2,r2,k2,s2,p2,n2,_,_,_⟩:=jf7 w1 r1 g1 r1 Keep.refl (fun _ _ _ _ h=>h) hp;have rs:=jo4 r1 r2 p2 n2;refine⟨jc3 H1 sls vs,F2,sls,rs,rfl,jf8,h2.bind.imp (fun c w C H' hC hH pins s' ea I' fly=>?_) fun rr h3 v F' H' hns gc rc rv=>?_⟩
  ·exact w pins H' s' ea C hC I' (Stl.go g1 (jmh p2 hH)) fly
  ·obtain⟨a,b,c⟩:=jo5 g1 r1 g2 r2 s2 p2 gc rc rs;exact h3 v F' H' a b (c _ _ hns rv)
 have hns:∀e∈args,∀a p,e≠.Starred a p:=by
  clear key;induction h with
  |nil=>intro e he;simp at he
  |cons h1 _ ih=>
   intro e he;rcases List.mem_cons.mp he with rfl | he
   ·exact h1.2
   ·exact ih e he
 have hpa:=jo3 h;cases args with
 |nil=>
  cases h;refine PE.imp (jj3 hF (D.room hq) (D.gl hf) hm hkp hbd (je8 hb).1) fun σ H Q q=>?_;obtain⟨F,ρ,r,z⟩:=key σ H Q q;simp only[jg4,evAs]at z;exact z [] F H Go.refl r .nil
 |cons e es'=>
  exact PE.imp (jmi hF (D.room hq) (D.gl hf) hm hkp hbd hpa (je8 hb).1 (jad (hns e jut)) (jee (jcJ fun x hx=>hns x (jus _ hx)))) key
theorem jo6 {e:Expr}{d:D}{v:V}(h:PE X e (tC v))(hr:∀F H,Rep Z F H d v):PE X e (tE Z X B (evE G U (.lit d))):=by
 refine PE.imp h fun σ H Q q=>?_;obtain⟨F,ρ,r,q⟩:=q;simp only[evE]at q;exact q v F H Go.refl r (hr F H)
theorem jmk (D:XD T G U Z m X sc){x:Str}{pos:Pos}{i:Nat}(hk:knd sc x=1)(hi:X.N[i]?=some x)(hb:jdi x=false):PE X (.Name x pos) (tE Z X B (evE G U (.var i))):=by
 refine PE.imp (jno (X:=X) (pos:=pos) hi (D.vis hk) (je8 hb).1 (jrk hb)) fun σ H Q q=>?_;obtain⟨F,ρ,r,q⟩:=q;simp only[evE]at q;split at q
 ·rename_i d e;obtain⟨v,e1,e2⟩:=r.dat i d e;exact⟨v,e1,q v F H Go.refl r e2⟩
 ·rename_i o f k e;obtain⟨l,e1,_⟩:=r.own i o f k e;exact⟨_,e1,q _ F H Go.refl r e1⟩
 ·exact False.elim q
theorem jo7 {es:List Expr}{Es':List E}{k:Nat}{pos:Pos}(h:Paired (fun e E'=>PE X e (tE Z X B (evE G U E'))/\∀a p,e≠.Starred a p) es Es'):PE X (.Tuple es k pos) (tE Z X B (evE G U (.tup (jg4 Es')))):=by
 refine PE.imp (jnr (jjZ h)) fun σ H Q hzz=>?_;obtain⟨F,ρ,r,z⟩:=hzz;simp only[evE]at z;refine⟨F,ρ,r,z.bind.imp (fun _ w=>w) fun p h1 vs F' H' g r' rs=>?_⟩;split at h1
 ·rename_i hf;exact⟨by rw[<-rs.length];exact jaV hf,(Post.toV h1 g r' (fun _ z=>by cases z)).tup r'.dom rs⟩
 ·exact False.elim h1
theorem jo8 {es:List Expr}{Es':List E}{pos:Pos}(h:Paired (fun e E'=>PE X e (tE Z X B (evE G U E'))/\∀a p,e≠.Starred a p) es Es'):PE X (.List es pos) (tE Z X B (evE G U (.lst (jg4 Es')))):=by
 refine PE.imp (jqM (jjZ h)) fun σ H Q hzz=>?_;obtain⟨F,ρ,r,z⟩:=hzz;simp only[evE]at z;refine⟨F,ρ,r,z.bind.imp (fun _ w=>w) fun p h1 vs F' H' g r' rs=>?_⟩;split at h1
 ·rename_i hf;exact⟨by rw[<-rs.length];exact jaV hf,(Post.toV h1 g r' (fun _ z=>by cases z)).lst r'.dom rs⟩
 ·exact False.elim h1
end
theorem jnG {Z:Kn}{F:Addr->Prop}{H:Hp}{ds:List D}{vs:List V}{i:Int}{d:D}(r:Reps Z F H ds vs)(h:atI ds i=.ok d):∃v,L2.atI vs i=some v/\Rep Z F H d v:=by
 have hl:=r.length;unfold atI at h;unfold L2.atI ixN;split at h
 ·rename_i h0;split at h
  ·rename_i d' e;cases h;obtain⟨v,e1,e2⟩:=r.get e;have hlt:=(List.getElem?_eq_some_iff.mp e1).1;refine⟨v,?_,e2⟩;rw[if_pos h0,if_pos (by omega)]
   exact e1
  ·cases h
 ·rename_i h0;split at h
  ·rename_i h1;split at h
   ·rename_i d' e;cases h;obtain⟨v,e1,e2⟩:=r.get e;refine⟨v,?_,e2⟩;rw[if_neg h0,if_pos (by omega)]
    rw[hl]at e1;exact e1
   ·cases h
  ·cases h
theorem jj4 {ds:List D}{i:Int}{c:Nat}:atI ds i≠.err c:=by
 intro e;unfold atI at e;split at e <;> (try split at e) <;> (try split at e) <;> cases e
theorem jo9 {x:Str}{i:Int}{c:Nat}:atC x i≠.err c:=by
 intro e;unfold atC at e;split at e
 ·split at e <;> cases e
 ·cases e
theorem jrq {x:Str}{i:Int}{d:D}(h:atC x i=.ok d):∃c,d=.str ⟨#[c]⟩/\x.length<=sizeLine/\L2.atI x.cps.toList i=some c:=by
 unfold atC at h;split at h
 ·rename_i hf;have hl:x.cps.toList.length=x.length:=by simp[Str.length]
  split at h
  ·rename_i c e;cases h;refine⟨c,rfl,jaV hf,?_⟩;unfold L2.atI ixN;rw[hl];by_cases h0:0<=i
   ·rw[if_pos h0]at e;have hlt:=(List.getElem?_eq_some_iff.mp e).1;rw[if_pos h0,if_pos (by omega)]
    exact e
   ·rw[if_neg h0]at e;split at e
    ·rename_i h1;rw[if_neg h0,if_pos (by omega)]
     exact e
    ·cases e
  ·cases h
 ·cases h
theorem jml {x y:D}{c:Nat}:jk8 x y≠.err c:=by
 intro e;unfold jk8 at e;split at e
 ·exact jj4 e
 ·exact jj4 e
 ·exact jo9 e
 ·cases e
noncomputable def jss (x y:D):R Vl:=(jk8 x y).bind fun d=>.ok (.dat d)
theorem jsZ {Z:Kn}{X:Cx}(hK:X.K=Z.K):IxR X (rD2 Z jss):=by
 intro value slice pins s σ H x y v u Q I rx ry h hs;obtain⟨F,dx,dy,w,dm,bx,by_,hg,h⟩:=h;refine jqQ value slice pins s σ H x y v u Q I rx ry ?_ hs;obtain⟨d,e,hg⟩:=R.bind_ok hg;cases hg;cases dx with
 |tup ds=>
  cases dy with
  |int i=>
   obtain⟨a,vs,rfl,ft,r⟩:=bx.tup;cases by_.int;obtain⟨w,e1,rp⟩:=jnG r e;exact .inr (.inl ⟨a,vs,i,w,rfl,rfl,(by rw[hK];exact ft.sq),e1,h.sc dm rp⟩)
  |_=>cases e
 |lst ds=>
  cases dy with
  |int i=>
   obtain⟨a,vs,rfl,ft,r⟩:=bx.lst;cases by_.int;obtain⟨w,e1,rp⟩:=jnG r e;exact .inl ⟨a,vs,i,w,rfl,rfl,(by rw[hK];exact ft),e1,h.sc dm rp⟩
  |_=>cases e
 |str z=>
  cases dy with
  |int i=>
   cases bx.str;cases by_.int;obtain⟨c,rfl,e1,e2⟩:=jrq e;exact .inr (.inr ⟨z,i,c,rfl,rfl,e1,e2,h.sc dm (by simp only[Rep])⟩)
  |_=>cases e
 |_=>cases e
theorem jmm {i:Expr}(h:∀a b c d,i≠.Slice a b c d):ji3 i:=fun o v=>by
 cases i <;> first | rfl | exact absurd rfl (h _ _ _ _)
theorem jg5 (n d:Nat)(o:Option Int):sIx n d o=HT.sIx n d o:=by cases o <;> rfl
theorem jj5 {Z:Kn}{F:Addr->Prop}{H:Hp}{ds:List D}{vs:List V}(r:Reps Z F H ds vs)(lo hi:Option Int):Reps Z F H (cut ds lo hi) (jns vs lo hi):=by
 unfold cut jns;rw[jg5,jg5,r.length];exact(r.drop _).take _
inductive rD3_I (Z:Kn) (g:D->Option Int->Option Int->R Vl) (x:V) (lo:Option Int) (hi:Option Int) (H:Hp) (Q:VK):Prop
 |mk (F:_) (dx:_) (w:_):(Dom F H)->(RepB Z F H dx x)->(g dx lo hi=.ok w)->(PostV Z F H Q w)->rD3_I Z g x lo hi H Q
noncomputable def rD3 (Z:Kn)(g:D->Option Int->Option Int->R Vl):V->Option Int->Option Int->Hp->VK->Prop:=fun x lo hi H Q=>rD3_I Z g x lo hi H Q
theorem js0 {Z:Kn}{X:Cx}(hK:X.K=Z.K):SlR X (rD3 Z jhV):=by
 intro pins s σ H x v vl vu lo hi sl Q I rx hs pl pu h;obtain⟨F,dx,w,dm,bx,hg,h⟩:=h;by_cases hstr:∃z,dx=.str z
 ·obtain⟨z,rfl⟩:=hstr;obtain⟨hf,rfl⟩:=jbj hg;cases bx.str;exact jqU pins s σ H _ v vl vu lo hi sl Q I rx hs pl pu ⟨z,rfl,jaV hf,h.sc dm (by simp only[Rep])⟩
 refine(sl_tup.or (sl_tupW.or joi)) pins s σ H x v vl vu lo hi sl Q I rx hs pl pu ?_;cases dx with
 |tup ds=>
  cases hg;obtain⟨a,vs,rfl,ft,r⟩:=bx.tup;by_cases hw:HT.sIx vs.length 0 lo=0/\HT.sIx vs.length vs.length hi=vs.length
  ·refine .inr (.inl ⟨a,vs,rfl,(by rw[hK];exact ft.sq),hw,?_⟩)
   have e:cut ds lo hi=ds:=by
    unfold cut;rw[jg5,jg5,r.length,hw.1,hw.2,<-r.length];simp
   rw[e]at h;exact h.tupOld dm ft r
  ·exact .inl ⟨a,vs,rfl,(by rw[hK];exact ft.sq),hw,h.tup dm (jj5 r lo hi)⟩
 |lst ds=>
  cases hg;obtain⟨a,vs,rfl,ft,r⟩:=bx.lst;exact .inr (.inr ⟨a,vs,rfl,(by rw[hK];exact ft),h.lst dm (jj5 r lo hi)⟩)
 |str z=>exact absurd ⟨z,rfl⟩ hstr
 |_=>cases hg
inductive tO_I (Z:Kn) (X:Cx) (B:Bs) (f:Rho->R (Option Int×Rho)) (σ:L2.St) (H:L2.Hp) (Q:(Option Int->L2.Hp->Prop)):Prop
 |mk (F:_) (ρ:_):(SR Z B F H σ ρ)->(Ok (XW Z X σ ρ H) (f ρ) fun o=>∀F' H',Go σ ρ F H σ o.2 F' H'->SR Z B F' H' σ o.2->Q o.1 H')->tO_I Z X B f σ H Q
noncomputable def tO (Z:Kn)(X:Cx)(B:Bs)(f:Rho->R (Option Int×Rho)):TO:=fun σ H Q=>tO_I Z X B f σ H Q
section
variable {G:Calls}{U:Nat->Nat->Bool}{Z:Kn}{X:Cx}{B:Bs}
theorem jrr:PO X none (tO Z X B (evO G U .none)):=PO.imp joe fun σ H Q ⟨F,ρ,r,q⟩=>by
 simp only[evO]at q;exact q F H Go.refl r
theorem jrs {e:Expr}{E':E}(h:PE X e (tE Z X B (evE G U E'))):PO X (some e) (tO Z X B (evO G U (.some E'))):=PO.imp (jof h) fun σ H Q ⟨F,ρ,r,q⟩=>by
 simp only[evO]at q;refine⟨F,ρ,r,q.bind.imp (fun _ w=>w) fun p h1 v F' H' g r' rp=>?_⟩;obtain⟨w,ρ'⟩:=p;cases w with
 |dat d=>
  cases d with
  |int i=>
   have rp:Rep Z F' H' (.int i) v:=rp;simp only[Rep]at rp;exact⟨i,rp,h1 F' H' g r'⟩
  |_=>exact False.elim h1
 |_=>exact False.elim h1
theorem jmn {x:D}{l h:Option Int}{c:Nat}:jhV x l h≠.err c:=by cases x <;> (intro z;first | cases z | (simp only[jhV]at z;split at z <;> cases z))
theorem jj6 {x:D}{l h:Option Int}{i:Nat}:jhV x l h≠.ok (.slot i):=by cases x <;> (intro z;first | cases z | (simp only[jhV]at z;split at z <;> cases z))
theorem tE.slice {σ:L2.St}{H:Hp}{Q:VK}{fa:Rho->R (Vl×Rho)}{fl fh:Rho->R (Option Int×Rho)}(h:tE Z X B (fun ρ=>(fa ρ).bind fun p=>(fl p.2).bind fun l=>(fh l.2).bind fun h=>(deref p.1 h.2).bind fun x=>(jhV x l.1 h.1).bind fun v=>.ok (v,h.2)) σ H Q):tSl (rD3 Z jhV) (tE Z X B fa) (tO Z X B fl) (tO Z X B fh) σ H Q:=by
 obtain⟨F,ρ,r,h⟩:=h;refine⟨F,ρ,r,h.bind.imp (fun _ w=>w) fun p h1 v F1 H1 g1 r1 rp=>⟨F1,p.2,r1,h1.bind.imp (fun c w=>w.mono g1) fun l h2 F2 H2 g2 r2=>⟨F2,l.2,r2,h2.bind.imp (fun c w=>w.mono (g1.trans g2)) fun u h3 F3 H3 g3 r3=>?_⟩⟩⟩;obtain⟨x,ex,h4⟩:=h3.bind.pure fun c=>jaC;obtain⟨w,ew,h5⟩:=h4.bind.pure fun c=>jmn;exact⟨F3,x,w,r3.dom,jaY (rp.go r1 (g2.trans g3)) r3 ex,ew,Post.toV h5 ((g1.trans g2).trans g3) r3 fun i z=>jj6 (by rw[ew,z])⟩
end
end DJ
namespace DJ
open PySem PySem.Spec PyProof.Rows L2
section
variable {Z:Kn}{B:Bs}{F F1 F2:Addr->Prop}{H H0 H1 H2:Hp}{σ σ1 σ2:L2.St}{ρ ρ1 ρ2:Rho}
theorem jef:∀{lk:List Nat}{ρ:Rho}{j:Nat}{o:O}{f k:Bool},(unlk lk ρ)[j]?=some (.own o f k)->ρ[j]?=some (.own o f k)\/(j∈lk/\k=false/\∃k',ρ[j]?=some (.own o f k'))
 |[],_,_,_,_,_,h=>.inl h
 |i::r,ρ,j,o,f,k,h=>by
  simp only[unlk]at h;have one:∀{k1:Bool},(match ρ[i]? with | some (.own o f _)=>ρ.set i (.own o f false) | _=>ρ)[j]?=some (.own o f k1)->ρ[j]?=some (.own o f k1)\/(j=i/\k1=false/\∃k',ρ[j]?=some (.own o f k')):=fun {k1} h=>by
   split at h
   ·rename_i o' f' k' e;rw[juw]at h;by_cases hij:i=j
    ·subst hij;rw[if_pos rfl]at h;split at h
     ·cases h;exact .inr ⟨rfl,rfl,k',e⟩
     ·cases h
    ·rw[if_neg hij]at h;exact .inl h
   ·exact .inl h
  rcases jef h with h | ⟨h1,h2,k',h3⟩
  ·rcases one h with h | ⟨h1,h2,h3⟩
   ·exact .inl h
   ·exact .inr ⟨by simp[h1],h2,h3⟩
  ·rcases one h3 with h3 | ⟨_,_,h3⟩
   ·exact .inr ⟨jus _ h1,h2,k',h3⟩
   ·exact .inr ⟨jus _ h1,h2,h3⟩
theorem SR.unlk:∀{lk:List Nat}{ρ:Rho},SR Z B F H σ ρ->SR Z B F H σ (unlk lk ρ)
 |[],_,r=>r
 |i::lk,ρ,r=>by
  simp only[DJ.unlk];refine SR.unlk (lk:=lk) ?_;split
  ·rename_i o f k e;exact r.lock e false
  ·exact r
theorem Ow.unlk {lk:List Nat}{b:Addr}(h:Ow σ (unlk lk ρ) b):Ow σ ρ b:=by
 obtain⟨i,o,f,k,h1,h2⟩:=h;rcases jef h1 with h | ⟨_,_,k',h⟩
 ·exact⟨i,o,f,k,h,h2⟩
 ·exact⟨i,o,f,k',h,h2⟩
theorem Go.unlk {lk:List Nat}(g:Go σ ρ F H σ2 ρ2 F2 H2)(hl:∀i∈lk,∃o f,ρ[i]?=some (.own o f false)):Go σ ρ F H σ2 (unlk lk ρ2) F2 H2:=by
 refine⟨g.stay,g.sub,g.new,fun j o f k b h1 h2=>?_,g.there⟩;rcases jef h1 with h | ⟨hj,hk,k',h⟩
 ·exact g.ow j o f k b h h2
 ·rcases g.ow j o f k' b h h2 with ⟨o0,k0,a,c,d⟩ | q
  ·obtain⟨o1,f1,e⟩:=hl j hj;rw[a]at e;cases e;exact .inl ⟨o0,false,a,c,fun z=>by cases z⟩
  ·exact .inr q
structure Wlk (Z:Kn)(B:Bs)(F:Addr->Prop)(H:Hp)(σ:L2.St)(ρ ρ2:Rho)(v:V)(xs:List D)(lk:List Nat)(ls:List Addr)(b:Bool)(a:Addr)(vs:List V):Prop where
 eq:v=.ref a
 sq:SqB Z.K b H a vs
 rp:Reps Z F H xs vs
 sr:SR Z B F H σ ρ2
 go:Go σ ρ F H σ ρ2 F H
 on:∀l∈ls,(∃o,H l=some o)/\¬Mb σ ρ2 l
 lk:∀i∈lk,∃o f,ρ[i]?=some (.own o f false)
 up:∀(i:Nat) o f,ρ2[i]?=some (.own o f false)->ρ[i]?=some (.own o f false)
 good:∀F' H',GK F H ls F' H'->SqB Z.K b H' a vs/\Reps Z F' H' xs vs
theorem SR.notMb (r:SR Z B F H σ ρ){i:Nat}{o:O}{f:Bool}{l:Addr}(e:ρ[i]?=some (.own o f true))(hl:σ[i]?=some (some (.ref l))):¬Mb σ ρ l:=by
 rintro⟨j,o',f',h1,h2⟩;by_cases hij:i=j
 ·subst hij;rw[e]at h1;cases h1
 ·exact r.one i j _ _ _ _ _ _ l hij e h1 hl h2
theorem jc4 {w:Vl}{v:V}{xs:List D}{lk:List Nat}(h:RV Z F H0 H σ ρ w v)(r:SR Z B F H σ ρ)(hi:jaA w ρ=.ok (xs,lk,ρ2)):∃ls b a vs,Wlk Z B F H σ ρ ρ2 v xs lk ls b a vs:=by
 cases w with
 |dat d=>
  obtain⟨ys,hs,hi⟩:=R.bind_ok hi;cases hi;have h:Rep Z F H d v:=h;cases d with
  |tup ds=>
   cases hs;simp only[Rep]at h;obtain⟨a,vs,rfl,ft,rs⟩:=h;exact⟨[],false,a,vs,rfl,.inr ⟨rfl,ft.sq⟩,rs,r,Go.refl,fun _ z=>absurd z (by simp),fun _ z=>absurd z (by simp),fun _ _ _ h=>h,fun F' H' g=>⟨.inr ⟨rfl,(ft.keep g.keep).sq⟩,rs.mono g.keep⟩⟩
  |lst ds=>
   cases hs;simp only[Rep]at h;obtain⟨a,vs,rfl,ft,rs⟩:=h;exact⟨[],true,a,vs,rfl,.inl ⟨rfl,ft.sq⟩,rs,r,Go.refl,fun _ z=>absurd z (by simp),fun _ z=>absurd z (by simp),fun _ _ _ h=>h,fun F' H' g=>⟨.inl ⟨rfl,(ft.keep g.keep).sq⟩,rs.mono g.keep⟩⟩
  |_=>cases hs
 |tmp o=>
  cases o with
  |l ys=>
   cases hi;obtain⟨l,rfl,h1,h2,h3,us,h4,h5⟩:=h;refine⟨[l],true,l,us,rfl,.inl ⟨rfl,SqL.of h4⟩,h5,r,Go.refl,fun l' z=>?_,fun _ z=>absurd z (by simp),fun _ _ _ h=>h,fun F' H' g=>⟨.inl ⟨rfl,SqL.of ((g.ls l (by simp)).trans h4)⟩,h5.mono g.keep⟩⟩
   have e:l'=l:=by simpa using z
   subst e;exact⟨⟨_,h4⟩,fun m=>h2 m.ow⟩
  |d ks vs=>cases hi
 |slot i=>
  have h:σ[i]?=some (some v):=h;simp only[jaA]at hi;split at hi
  ·rename_i ys f e;cases hi;obtain⟨l,e1,e2,⟨us,h4,h5⟩,_⟩:=r.own i _ _ _ e;rw[h]at e1;cases e1;refine⟨[l],true,l,us,rfl,.inl ⟨rfl,SqL.of h4⟩,h5,r,Go.refl,fun l' z=>?_,fun _ z=>absurd z (by simp),fun _ _ _ h=>h,fun F' H' g=>⟨.inl ⟨rfl,SqL.of ((g.ls l (by simp)).trans h4)⟩,h5.mono g.keep⟩⟩
   have q:l'=l:=by simpa using z
   subst q;exact⟨⟨_,h4⟩,r.notMb e h⟩
  ·rename_i ys f e;cases hi;obtain⟨l,e1,e2,⟨us,h4,h5⟩,_⟩:=r.own i _ _ _ e;rw[h]at e1;cases e1;have hlt:i < ρ.length:=(List.getElem?_eq_some_iff.mp e).1;have r2:=r.lock e true;refine⟨[l],true,l,us,rfl,.inl ⟨rfl,SqL.of h4⟩,h5,r2,Go.lock e,fun l' z=>?_,fun j z=>?_,fun j o f' hj=>?_,fun F' H' g=>⟨.inl ⟨rfl,SqL.of ((g.ls l (by simp)).trans h4)⟩,h5.mono g.keep⟩⟩
   ·have q:l'=l:=by simpa using z
    subst q;exact⟨⟨_,h4⟩,r2.notMb (List.getElem?_set_self hlt) h⟩
   ·have q:j=i:=by simpa using z
    subst q;exact⟨_,_,e⟩
   ·rw[juw]at hj;split at hj
    ·(first | cases hj | (split at hj <;> cases hj))
    ·exact hj
  ·cases hi
theorem jcs {w:Vl}{c:Nat}:jaA w ρ≠.err c:=by
 cases w with
 |dat d=>cases d <;> (intro z;cases z)
 |tmp o=>cases o <;> (intro z;cases z)
 |slot i=>
  simp only[jaA];split <;> (intro z;cases z)
end
structure ItR (Z:Kn)(B:Bs)(σ:L2.St)(ρ:Rho)(F:Addr->Prop)(H:Hp)(ρ1:Rho)(F1:Addr->Prop)(H1:Hp)(lk:List Nat)(ls:List Addr):Prop where
 go:Go σ ρ F H σ ρ1 F1 H1
 sr:SR Z B F1 H1 σ ρ1
 un:∀σ2 ρ2 F2 H2,Go σ ρ1 F1 H1 σ2 ρ2 F2 H2->Go σ ρ F H σ2 (unlk lk ρ2) F2 H2
 on:∀l∈ls,(∃o,H1 l=some o)/\¬Mb σ ρ1 l
inductive tI_I (Z:Kn) (X:Cx) (B:Bs) (f:Rho->R (List D×List Nat×Rho)) (σ:L2.St) (H:L2.Hp) (R:(L2.It->L2.Hp->Prop)):Prop
 |mk (F:_) (ρ:_):(SR Z B F H σ ρ)->(Ok (XW Z X σ ρ H) (f ρ) fun t=>∀F' H' J ls,ItR Z B σ ρ F H t.2.2 F' H' t.2.1 ls->ItmG Z (GK F' H' ls) J t.1->R J H')->tI_I Z X B f σ H R
noncomputable def tI (Z:Kn)(X:Cx)(B:Bs)(f:Rho->R (List D×List Nat×Rho)):TI:=fun σ H R=>tI_I Z X B f σ H R
theorem jrt {X:Cx}{tg:Expr}{pins:List (Addr×Obj)}{σ:L2.St}{H1:Hp}{s1:Shared}{R:L2.It->Hp->Prop}{a:Addr}(I1:Inv X pins σ H1 s1)(q1:(∃xs,SqL X.K H1 a xs/\(xs.length<=sizeLine->R (Itl X.K a) H1))\/(∃xs,SqT X.K H1 a xs/\(xs.length<=sizeLine->R (Itt X.K a) H1))) :
  wpAny (model X.prog X.w) X.A (pyIter (.ref a)) (PIE X pins σ tg R) X.xe s1:=by
 rcases q1 with ⟨xs,hq,q⟩ | ⟨xs,hq,q⟩
 ·obtain⟨its,rv,p,hz⟩:=I1.list hq;refine wpAny_pyIter_list p.isList ⟨s1.heap.objs.size,[s1.heap.objs.size],_,_,H1,rfl,I1.kept (t':=s1.toks) fun b o e=>ju2 _ e,jiX a _,⟨_,ju4 _ rfl,rfl,rfl⟩,fun b hb=>?_,q hz⟩;obtain rfl:b=s1.heap.objs.size:=by simpa using hb
  exact I1.fpOk (ju7 _) (I1.hok.fresh (ju7 _))
 ·obtain⟨its,rv,p,hz⟩:=I1.tuple hq;refine wpAny_pyIter_tuple (show s1.heap.IsTuple a its.toArray from p) ⟨s1.heap.objs.size,[s1.heap.objs.size],_,_,H1,rfl,I1.kept (t':=s1.toks) fun b o e=>ju2 _ e,jhD a _,⟨_,ju4 _ rfl,rfl,rfl⟩,fun b hb=>?_,q hz⟩;obtain rfl:b=s1.heap.objs.size:=by simpa using hb
  exact I1.fpOk (ju7 _) (I1.hok.fresh (ju7 _))
noncomputable def js1 (K:Frag)(tl:TE):TI:=fun σ H R=>tl σ H fun x H1=>(∃z,x=.str z/\R (Itx z) H1)\/∃a,x=.ref a/\((∃xs,SqL K H1 a xs/\(xs.length<=sizeLine->R (Itl K a) H1))\/(∃xs,SqT K H1 a xs/\(xs.length<=sizeLine->R (Itt K a) H1)))
theorem jpa {X:Cx}{tg l:Expr}{tl:TE}(hl:PE X l tl):PI X tg l (js1 X.K tl):=by
 intro pins s σ H R I h;refine thn (hl pins s σ H _ I h) fun v s1 hzz=>?_;obtain⟨x,H1,I1,r1,q1⟩:=hzz;rcases q1 with ⟨z,rfl,q⟩ | ⟨a,rfl,q1⟩
 ·obtain⟨t,rfl⟩:=r1;have fp:∀b∈[s1.heap.objs.size],FpOk X pins H1 b:=fun b hb=>by
   obtain rfl:b=s1.heap.objs.size:=by simpa using hb
   exact I1.fpOk (ju7 _) (I1.hok.fresh (ju7 _))
  cases ha:z.cps.all (· < 128)
  ·exact wpAny_pyIter_wide ha ⟨s1.heap.objs.size,[s1.heap.objs.size],_,_,H1,rfl,I1.kept (t':=s1.toks) fun b o e=>ju2 _ e,jeS (fun A' h=>Walks.strWide h _ z t) (fun _ _ _ _ _ st q=>wpAny_pyIter_striter_wide st q) (by decide),⟨_,ju4 _ rfl,rfl,rfl⟩,fp,q⟩
  ·exact wpAny_pyIter_ascii ha ⟨s1.heap.objs.size,[s1.heap.objs.size],_,_,H1,rfl,I1.kept (t':=s1.toks) fun b o e=>ju2 _ e,jeS (fun A' h=>Walks.strAscii h _ z t) (fun _ _ _ _ _ st q=>wpAny_pyIter_striter_ascii st q) (by decide),⟨_,ju4 _ rfl,rfl,rfl⟩,fp,q⟩
 ·cases r1;exact jrt I1 q1
theorem jmo {Z:Kn}{G:(Addr->Prop)->Hp->Prop}{z:Str}(hn:z.length<=sizeLine):ItmG Z G (Itx z) (z.cps.toList.map fun c=>D.str ⟨#[c]⟩):=by
 have hl:(z.cps.toList.map fun c=>D.str ⟨#[c]⟩).length=z.cps.size:=by simp
 refine⟨by rw[hl];exact hn,fun F H g dm=>⟨fun i x hx=>?_,hl⟩⟩
 rw[jux]at hx;cases e:z.cps.toList[i]? with
 |none=>rw[e]at hx;cases hx
 |some c=>
  rw[e]at hx;cases hx;have e2:z.cps[i]?=some c:=by rw[<-Array.getElem?_toList];exact e
  refine⟨(Array.getElem?_eq_some_iff.mp e2).1,fun u H2 y=>?_⟩;obtain⟨rfl,c',e3,rfl⟩:=y;rw[e2]at e3;cases e3;exact⟨F,Ext.refl dm,by simp only[Rep]⟩
theorem jpb {Z:Kn}{G:(Addr->Prop)->Hp->Prop}{b1 b2:Bool}{l1 l2:Addr}{xs ys:List D}{vs us:List V}(len:xs.length<=sizeLine)(hG:∀F H,G F H->Dom F H->(SqB Z.K b1 H l1 vs/\Reps Z F H xs vs)/\SqB Z.K b2 H l2 us/\Reps Z F H ys us):ItmG Z G (Itz Z.K b1 b2 l1 l2) (jdx xs ys):=by
 have hz:∀(xs ys:List D),(jdx xs ys).length=min xs.length ys.length:=by
  intro xs;induction xs with
  |nil=>intro ys;simp[jdx]
  |cons x xs ih=>
   intro ys;cases ys with
   |nil=>simp[jdx]
   |cons y ys=>simp only[jdx,juB,ih ys];omega
 have hg:∀(xs ys:List D) (i:Nat) (d:D),(jdx xs ys)[i]?=some d->∃a b,xs[i]?=some a/\ys[i]?=some b/\d=.tup [a,b]:=by
  intro xs;induction xs with
  |nil=>intro ys i d h;simp[jdx]at h
  |cons x xs ih=>
   intro ys i d h;cases ys with
   |nil=>simp[jdx]at h
   |cons y ys=>
    simp only[jdx]at h;cases i with
    |zero=>simp at h;exact⟨x,y,rfl,rfl,h.symm⟩
    |succ i=>simpa using ih ys i d (by simpa using h)
 refine⟨by rw[hz];omega,fun F H g dm=>?_⟩
 obtain⟨⟨q1,r1⟩,q2,r2⟩:=hG F H g dm;refine⟨fun i d hd=>?_,⟨vs,us,q1,q2,?_⟩⟩
 ·obtain⟨a,b,ha,hb,rfl⟩:=hg xs ys i d hd;obtain⟨v,e1,p1⟩:=r1.get ha;obtain⟨u,e2,p2⟩:=r2.get hb;refine⟨⟨vs,us,v,u,q1,q2,e1,e2⟩,fun w H2 y=>?_⟩;obtain⟨p,x',y',rfl,hp,rfl,z1,z2⟩:=y;have e3:=z1 vs q1;rw[e1]at e3;cases e3;have e4:=z2 us q2;rw[e2]at e4;cases e4;have ex:=Ext.newF (o:=.tup [v,u]) dm hp;refine⟨_,ex,?_⟩;simp only[Rep];have kp:=ex.keep dm;exact⟨p,[v,u],rfl,.inl ⟨.inr rfl,.inl jak⟩,.cons (p1.mono kp) (.one (p2.mono kp))⟩
 ·rw[hz,<-r1.length,<-r2.length];omega
section
variable {T:Tab}{G:Calls}{U:Nat->Nat->Bool}{Z:Kn}{m:Nat}{X:Cx}{sc:List (Str×NameKind)}{B:Bs}
theorem ItR.plain {σ:L2.St}{ρ ρ1:Rho}{F F1:Addr->Prop}{H H1:Hp}(g:Go σ ρ F H σ ρ1 F1 H1)(r:SR Z B F1 H1 σ ρ1):ItR Z B σ ρ F H ρ1 F1 H1 [] []:=⟨g,r,fun σ2 ρ2 F2 H2 g2=>g.trans g2,fun _ z=>absurd z (by simp)⟩
theorem jmp (hK:X.K=Z.K){σ:L2.St}{ρ ρ1:Rho}{F F':Addr->Prop}{H H':Hp}{R:L2.It->Hp->Prop}{w:Vl}{v:V}
  (h1:Ok (XW Z X σ ρ H) (jaA w ρ1) fun t=>∀F' H' J ls,ItR Z B σ ρ F H t.2.2 F' H' t.2.1 ls->ItmG Z (GK F' H' ls) J t.1->R J H') (g:Go σ ρ F H σ ρ1 F' H') (r':SR Z B F' H' σ ρ1) (rv:RV Z F' H H' σ ρ1 w v) :
  ∃a,v=.ref a/\((∃xs,SqL X.K H' a xs/\(xs.length<=sizeLine->R (Itl X.K a) H'))\/(∃xs,SqT X.K H' a xs/\(xs.length<=sizeLine->R (Itt X.K a) H'))):=by
 obtain⟨t,ht,h2⟩:=h1.pure fun c=>jcs;obtain⟨xs,lk,ρ2⟩:=t;obtain⟨ls,b,a,vs,W⟩:=jc4 rv r' ht;have ir:ItR Z B σ ρ F H ρ2 F' H' lk ls:=⟨g.trans W.go,W.sr,fun σ2 ρ3 F3 H3 g3=>g.trans ((W.go.trans g3).unlk W.lk),W.on⟩;refine⟨a,W.eq,?_⟩;rw[hK];rcases W.sq with ⟨rfl,sq⟩ | ⟨rfl,sq⟩
 ·refine .inl ⟨vs,sq,fun hz=>h2 F' H' _ ls ir (jl2 (vs:=vs) (by rw[W.rp.length];exact hz) fun F2 H2 gk _=>?_)⟩
  obtain⟨s1,s2⟩:=W.good F2 H2 gk;rcases s1 with ⟨_,s1⟩ | ⟨z,_⟩
  ·exact⟨s1,s2⟩
  ·cases z
 ·refine .inr ⟨vs,sq,fun hz=>h2 F' H' _ ls ir (joN (vs:=vs) (by rw[W.rp.length];exact hz) fun F2 H2 gk _=>?_)⟩
  obtain⟨s1,s2⟩:=W.good F2 H2 gk;rcases s1 with ⟨z,_⟩ | ⟨_,s1⟩
  ·cases z
  ·exact⟨s1,s2⟩
theorem jru (hK:X.K=Z.K){tg l:Expr}{f:Rho->R (Vl×Rho)}(hl:PE X l (tE Z X B f)):PI X tg l (tI Z X B fun ρ=>(f ρ).bind fun p=>jbB p.1 p.2):=by
 refine PI.imp (jpa hl) fun σ H R hzz=>?_;obtain⟨F,ρ,r,q⟩:=hzz;refine⟨F,ρ,r,q.bind.imp (fun _ w=>w) fun p h1 v F' H' g r' rv=>?_⟩;obtain⟨w,ρ1⟩:=p;by_cases hs:∃z,w=.dat (.str z)
 ·obtain⟨z,rfl⟩:=hs;have h1:Ok (XW Z X σ ρ H) (if fits z.length then .ok (z.cps.toList.map (fun c=>D.str ⟨#[c]⟩),([]:List Nat),ρ1)else .stk) _:=h1;have rv:Rep Z F' H' (.str z) v:=rv;simp only[Rep]at rv;split at h1
  ·exact .inl ⟨z,rv,h1 F' H' _ [] (ItR.plain g r') (jmo (jaV ‹_›))⟩
  ·exact False.elim h1
 ·have e:jbB w ρ1=jaA w ρ1:=by
   unfold jbB;split
   ·exact absurd ⟨_,rfl⟩ hs
   ·rfl
  have h1:Ok (XW Z X σ ρ H) (jbB w ρ1) _:=h1;rw[e]at h1;exact .inr (jmp hK h1 g r' rv)
theorem jj7 {x:D}{c:Nat}:jd8 x≠.err c:=by
 cases x <;> (intro z;simp only[jd8]at z;try split at z) <;> cases z
theorem jpc {tg a:Expr}{p pos:Pos}{f:Rho->R (Vl×Rho)}(hg:Gl X "range")(hm:X.mg "range"=none)(h:PE X a (tE Z X B f))(ns:∀e q,a≠.Starred e q) :
  PI X tg (.Call (.Name "range" p) [a] [] pos) (tI Z X B fun ρ=>(f ρ).bind fun p=>(deref p.1 p.2).bind fun x=>(jd8 x).bind fun xs=>.ok (xs,[],p.2)):=by
 refine PI.imp (jiY hg hm (jau h ja9 (jad ns)) (jad ns)) fun σ H R hzz=>?_;obtain⟨F,ρ,r,q⟩:=hzz;refine⟨F,ρ,r,q.bind.imp (fun _ w=>w) fun p h1 v F' H' g r' rv=>?_⟩;obtain⟨x,ex,h2⟩:=h1.bind.pure fun c=>jaC;obtain⟨xs,exs,h3⟩:=h2.bind.pure fun c=>jj7;have rb:=jaY rv r' ex;cases x with
 |int n=>
  simp only[jd8]at exs;split at exs
  ·rename_i hn;cases exs;cases rb.int;exact⟨n,rfl,by omega,by omega,h3 F' H' _ [] (ItR.plain g r') (joP (by rw[sizeLine_eq];omega))⟩
  ·cases exs
 |_=>cases exs
theorem jpd (hK:X.K=Z.K){es:List Expr}{n:Nat}{pos':Pos}{a b:Expr}{p pos:Pos}{f f':Rho->R (Vl×Rho)}(hg:Gl X "zip")(hm:X.mg "zip"=none)(h:PE X a (tE Z X B f))(ns:∀e q,a≠.Starred e q)(h':PE X b (tE Z X B f'))(ns':∀e q,b≠.Starred e q) :
  PI X (.Tuple es n pos') (.Call (.Name "zip" p) [a,b] [] pos) (tI Z X B fun ρ=>(f ρ).bind fun p=>(f' p.2).bind fun q=>(jaA p.1 q.2).bind fun x=>(jaA q.1 x.2.2).bind fun y=>.ok (jdx x.1 y.1,x.2.1++y.2.1,y.2.2)):=by
 refine PI.imp (jqT hg hm (jau h (jau h' ja9 (jad ns')) (jad ns)) (jad ns) (jee (jcJ fun x hx=>by
  have:x=b:=by simpa using hx
  subst this;exact ns'))) fun σ H R ⟨F,ρ,r,q⟩=>?_
 refine⟨F,ρ,r,q.bind.imp (fun _ w=>w) fun p h1 v F1 H1 g1 r1 rv=>⟨F1,p.2,r1,h1.bind.imp (fun c w=>w.mono g1) fun q h2 u F2 H2 g2 r2 ru=>?_⟩⟩;obtain⟨t,ht,h3⟩:=h2.bind.pure fun c=>jcs;obtain⟨t',ht',h4⟩:=h3.bind.pure fun c=>jcs;obtain⟨xs,lk1,ρ3⟩:=t;obtain⟨ys,lk2,ρ4⟩:=t';obtain⟨ls1,b1,a1,vs1,W1⟩:=jc4 (rv.go r1 g2) r2 ht;obtain⟨ls2,b2,a2,vs2,W2⟩:=jc4 (ru.go r2 W1.go) W1.sr ht';have g12:=g1.trans g2;have ir:ItR Z B σ ρ F H ρ4 F2 H2 (lk1++lk2) (ls1++ls2):=by
  refine⟨g12.trans (W1.go.trans W2.go),W2.sr,fun σ5 ρ5 F5 H5 g5=>g12.trans (((W1.go.trans W2.go).trans g5).unlk fun i hi=>?_),fun l hl=>?_⟩
  ·rcases List.mem_append.mp hi with hi | hi
   ·exact W1.lk i hi
   ·obtain⟨o,f,e⟩:=W2.lk i hi;exact⟨o,f,W1.up i o f e⟩
  ·rcases List.mem_append.mp hl with hl | hl
   ·obtain⟨⟨o,e⟩,nm⟩:=W1.on l hl;refine⟨⟨o,e⟩,fun z=>?_⟩;rcases W2.go.mb z with z | z
    ·exact nm z
    ·rw[e]at z;cases z
   ·exact W2.on l hl
 refine⟨a1,a2,b1,b2,vs1,vs2,by rw[W1.eq,W2.eq],(by rw[hK];exact W1.sq),(by rw[hK];exact W2.sq),fun z1 z2=>?_⟩
 rw[hK];refine h4 F2 H2 _ (ls1++ls2) ir (jpb (by rw[W1.rp.length];exact z1) fun F5 H5 gk _=>⟨W1.good F5 H5 ⟨gk.keep,fun l hl=>gk.ls l (juO _ hl)⟩,W2.good F5 H5 ⟨gk.keep,fun l hl=>gk.ls l (juC _ hl)⟩⟩)
end
end DJ
namespace DJ
open PySem PySem.Spec PyProof.Rows L2
noncomputable def Ty.py:Ty->String
 |.int=>"int" | .bool=>"bool" | .str=>"str" | .tuple=>"tuple" | .list=>"list" | .dict=>"dict" | .exc _=>"?" | .verr=>"ValueError"
noncomputable def clV (Z:Kn):Ty->Option V
 |.exc k=>(Z.cl[k]?).map V.ref
 |t=>some (.ty t.py)
noncomputable def jqg (Z:Kn):List Ty->Option (List V):=mapO (clV Z)
structure Ecs (U:Nat->Nat->Bool)(Z:Kn):Prop where
 ecl:∀C∈Z.cl,ECls Z.K C
 sub:∀(i j:Nat) (C D:Addr),Z.cl[i]?=some C->Z.cl[j]?=some D->PySem.W.mroIn Z.K C (.ref D)=some (U i j)
theorem XD.ecs {T:Tab}{G:Calls}{U:Nat->Nat->Bool}{Z:Kn}{n:Nat}{X:Cx}{sc:List (Str×NameKind)}(D:XD T G U Z n X sc):Ecs U Z:=⟨by rw[<-D.hK];exact D.ecl,by rw[<-D.hK];exact D.sub⟩
section
variable {U:Nat->Nat->Bool}{Z:Kn}
theorem jpe (S:Ecs U Z){i j:Nat}{C D:Addr}(hi:Z.cl[i]?=some C)(hj:Z.cl[j]?=some D):PySem.W.kitOne Z.K (.ref C) (.ref D)=some (U i j):=by
 have hs:=S.sub i j C D hi hj;have e':=S.ecl D (juD hj);unfold PySem.W.kitOne;split
 ·rename_i z;cases beq_iff_eq.mp z;rw[(S.ecl C (juD hi)).ms]at hs;exact hs
 ·unfold PySem.W.kitCls;simp only;rw[if_pos (by rw[jvc];exact⟨e'.cd,by rw[e'.ty];rfl⟩)]
  exact hs
theorem jmq (S:Ecs U Z){i:Nat}{C:Addr}(hi:Z.cl[i]?=some C):PySem.W.kitOne Z.K (.ref C) (.type "ValueError")=some true:=by
 have e:=S.ecl C (juD hi);unfold PySem.W.kitOne;split
 ·rfl
 ·unfold PySem.W.kitCls;simp only;rw[if_pos (by decide +kernel)]
  exact e.mv
noncomputable def nmT:Ty->String
 |.int=>"int"
 |.bool=>"bool"
 |.str=>"str"
 |.tuple=>"tuple"
 |.list=>"list"
 |_=>"dict"
noncomputable def jue:Ty->Bool
 |.exc _=>false
 |.verr=>false
 |_=>true
theorem jc5 {K:Frag}{t:Value}{d:D}(ht:∀k,jue k=true->PySem.W.kitOne K t (.type (nmT k))=some (tyB d k))(k:Ty)(c:V)(cv:Value)(b:Bool)(hb:tyP d k=.ok b)(hc:clV Z k=some c)(rc:RelV c cv):PySem.W.kitOne K t cv=some b:=by
 cases k with
 |exc _=>cases hb
 |verr=>cases hb
 |int=>cases hb;cases hc;cases (show cv=Value.type _ from rc);exact ht .int rfl
 |bool=>cases hb;cases hc;cases (show cv=Value.type _ from rc);exact ht .bool rfl
 |str=>cases hb;cases hc;cases (show cv=Value.type _ from rc);exact ht .str rfl
 |tuple=>cases hb;cases hc;cases (show cv=Value.type _ from rc);exact ht .tuple rfl
 |list=>cases hb;cases hc;cases (show cv=Value.type _ from rc);exact ht .list rfl
 |dict=>cases hb;cases hc;cases (show cv=Value.type _ from rc);exact ht .dict rfl
theorem jrv (S:Ecs U Z){X:Cx}(hK:X.K=Z.K){pins:List (Addr×Obj)}{s:Shared}{σ:L2.St}{F:Addr->Prop}{H:Hp}{d:D}{x:V}{u:Value}(I:Inv X pins σ H s)(rp:RepB Z F H d x)(rx:RelV x u) :
  ∃(t:Value) (P:Heap->Prop),PySem.W.KitX X.K u t P/\P s.heap/\u≠.builtin "__main__.__loader__#opaque"/\∀(k:Ty) (c:V) (cv:Value) (b:Bool),jqe U d k=.ok b->clV Z k=some c->RelV c cv->PySem.W.kitOne X.K t cv=some b:=by
 cases d with
 |non=>
  cases rp.non;cases (show u=Value.none from rx);refine⟨_,_,PySem.W.kitx_none,True.intro,(fun z=>nomatch z),jc5 fun k hk=>by cases k <;> first | rfl | cases hk⟩
 |bl y=>
  cases rp.bl;cases (show u=Value.bool y from rx);refine⟨_,_,PySem.W.kitx_bool,True.intro,(fun z=>nomatch z),jc5 fun k hk=>by cases k <;> first | rfl | cases hk⟩
 |int i=>
  cases rp.int;obtain⟨t',rfl⟩:=(show ∃t,u=Value.int i t from rx);refine⟨_,_,PySem.W.kitx_int,True.intro,(fun z=>nomatch z),jc5 fun k hk=>by cases k <;> first | rfl | cases hk⟩
 |str y=>
  cases rp.str;obtain⟨t',rfl⟩:=(show ∃t,u=Value.str y t from rx);refine⟨_,_,PySem.W.kitx_str,True.intro,(fun z=>nomatch z),jc5 fun k hk=>by cases k <;> first | rfl | cases hk⟩
 |tup ds=>
  obtain⟨a,vs,rfl,ft,r⟩:=rp.tup;cases (show u=Value.ref a from rx);obtain⟨its,_,p,_⟩:=I.tuple (by rw[hK];exact ft.sq)
  obtain⟨o,h1,h2,_⟩:=p;refine⟨_,_,PySem.W.kitx_tuple,⟨o,h1,h2⟩,(fun z=>nomatch z),jc5 fun k hk=>by cases k <;> first | rfl | cases hk⟩
 |lst ds=>
  obtain⟨a,vs,rfl,ft,r⟩:=rp.lst;cases (show u=Value.ref a from rx);obtain⟨its,_,⟨o,n,h1,h2,_⟩,_⟩:=I.list (by rw[hK];exact ft)
  refine⟨_,_,PySem.W.kitx_list,⟨o,h1,h2⟩,(fun z=>nomatch z),jc5 fun k hk=>by cases k <;> first | rfl | cases hk⟩
 |dct ks vs=>
  obtain⟨a,rfl,_,_,e⟩:=rp.dct;cases (show u=Value.ref a from rx);obtain⟨_,_,vs,_,p⟩:=(show ObjOk X.prog X.w H s.heap a (.dK [])from I.hok a _ e);obtain⟨o,es,ep,h1,h2,_⟩:=p;refine⟨_,_,PySem.W.kitx_dict,⟨o,h1,h2.1⟩,(fun z=>nomatch z),jc5 fun k hk=>by cases k <;> first | rfl | cases hk⟩
 |exc c=>
  have rp:=rp.flat (fun o z=>by cases o <;> cases z)
  simp only[Rep]at rp;obtain⟨a,C,rfl,_,hC,e⟩:=rp;cases (show u=Value.ref a from rx);obtain⟨⟨o,vs,h1,h2,_⟩,_⟩:=(show ObjOk X.prog X.w H s.heap a (.ext (jnA a C))from I.hok a _ e);have ec:=S.ecl C (juD hC);refine⟨_,_,jlw (K:=X.K) (by rw[hK];exact ec),⟨o,h1,h2⟩,(fun z=>nomatch z),fun k c' cv b hb hc rc=>?_⟩
  rw[hK];cases k with
  |exc j=>
   cases hb;simp only[clV]at hc;cases hj:Z.cl[j]? with
   |none=>rw[hj]at hc;cases hc
   |some D=>
    rw[hj]at hc;cases hc;cases (show cv=Value.ref D from rc);exact jpe S hC hj
  |verr=>
   cases hb;cases hc;cases (show cv=Value.type _ from rc);exact jmq S hC
  |_=>cases hb
theorem jj8 {K:Frag}{t:Value}{d:D}(h:∀(k:Ty) (c:V) (cv:Value) (b:Bool),jqe U d k=.ok b->clV Z k=some c->RelV c cv->PySem.W.kitOne K t cv=some b):∀{ks:List Ty}{cs:List V}{cvs:List Value}{b:Bool},jaj U d ks=.ok b->jqg Z ks=some cs->Vals cs cvs->PySem.W.kitAny K t cvs=some b
 |[],cs,cvs,b,h1,h2,h3=>by
  cases h2;cases h3;cases h1;rfl
 |k::ks,cs,cvs,b,h1,h2,h3=>by
  obtain⟨c,cs',e1,e2,rfl⟩:=jax h2;cases h3 with
  |@cons _ cv _ cvs' r1 r2=>
   simp only[jaj]at h1;obtain⟨b1,q1,h1⟩:=R.bind_ok h1;have z:=h k c cv b1 q1 e1 r1;unfold PySem.W.kitAny;rw[z];cases b1 with
   |true=>cases h1;rfl
   |false=>exact jj8 h h1 e2 r2
theorem jpf {d:D}{t:Ty}{c:Nat}:tyP d t≠.err c:=by cases t <;> (intro z;cases z)
theorem jmr {d:D}{t:Ty}{c:Nat}:jqe U d t≠.err c:=by
 cases d with
 |exc e=>cases t <;> (intro z;cases z)
 |_=>exact jpf
theorem jfa {d:D}{c:Nat}:∀{ks:List Ty},jaj U d ks≠.err c
 |[],z=>by cases z
 |k::ks,z=>by
  simp only[jaj]at z;cases e:jqe U d k with
  |ok b=>
   rw[e,R.bind_ok']at z;cases b with
   |true=>cases z
   |false=>exact jfa z
  |err c'=>exact jmr e
  |stk=>rw[e]at z;cases z
noncomputable def jnH (Z:Kn)(ks:List Ty)(y:V)(H:Hp):Prop:=(∃k,ks=[k]/\clV Z k=some y)\/∃p cs,y=.ref p/\jqg Z ks=some cs/\H p=some (.tup cs)
theorem jms (S:Ecs U Z){X:Cx}(hK:X.K=Z.K){ks:List Ty}:CallR X (.builtin "isinstance") (fun xs H Q=>∃x y F d b,xs=[x,y]/\jnH Z ks y H/\RepB Z F H d x/\jaj U d ks=.ok b/\Q (.bl b) H):=by
 intro pins s σ H xs us Q I r h;obtain⟨x,y,F,d,b,rfl,hy,rp,hb,q⟩:=h;obtain⟨u,w',rfl,rx,ry⟩:=jsK r;obtain⟨t,P,kx,hp,hne,ho⟩:=jrv S hK I rp rx;rcases hy with ⟨k,rfl,hc⟩ | ⟨p,cs,rfl,hc,hH⟩
 ·have hb1:jqe U d k=.ok b:=by
   simp only[jaj]at hb;obtain⟨b1,e,hb⟩:=R.bind_ok hb;cases b1 <;> cases hb <;> exact e
  exact PySem.W.kia_one kx I.kIn hp (ho k y w' b hb1 hc ry) hne fun tk=>⟨.bl b,H,I.tok tk,rfl,q⟩
 ·cases (show w'=Value.ref p from ry);obtain⟨_,its,rv,o,h1,h2,n,h3⟩:=(show ObjOk X.prog X.w H s.heap p (.tup cs)from I.hok p _ hH);obtain⟨ocls,odict,odata,oslots⟩:=o;cases h2;cases h3;exact PySem.W.kia_tup kx I.kIn hp h1 (jj8 ho hb hc rv) hne fun tk=>⟨.bl b,H,I.tok tk,rfl,q⟩
end
noncomputable def js2 (T:Tab)(x:Str):Option Ty:=if x="int" then some .int else if x="bool" then some .bool else if x="str" then some .str else if x="tuple" then some .tuple else if x="list" then some .list else if x="dict" then some .dict else if x="ValueError" then some .verr else (jed T.excs x).map .exc
section
variable {T:Tab}{G:Calls}{U:Nat->Nat->Bool}{Z:Kn}{m:Nat}{X:Cx}{sc:List (Str×NameKind)}{B:Bs}
theorem jrw (D:XD T G U Z m X sc){x:Str}{t:Ty}{pos:Pos}(hk:knd sc x=2)(hb:jdi x=false)(h:js2 T x=some t):∃v,clV Z t=some v/\PE X (.Name x pos) (tC v):=by
 have blt:∀{n:String}{y:Str},y∈bltNames->bootBuiltins y=some (.type n)->x=y->PE X (.Name x pos) (tC (.ty n)):=fun {n y} h1 h2 e=>by
  subst e;exact jn2 (D.gl hk) (D.blt _ h1) h2 rfl (je8 hb).2 (je8 hb).1
 unfold js2 at h;split at h
 ·rename_i e;cases h;exact⟨_,rfl,blt (by decide +kernel) (by decide +kernel) e⟩
 ·split at h
  ·rename_i e;cases h;exact⟨_,rfl,blt (by decide +kernel) (by decide +kernel) e⟩
  ·split at h
   ·rename_i e;cases h;exact⟨_,rfl,blt (by decide +kernel) (by decide +kernel) e⟩
   ·split at h
    ·rename_i e;cases h;exact⟨_,rfl,blt (by decide +kernel) (by decide +kernel) e⟩
    ·split at h
     ·rename_i e;cases h;exact⟨_,rfl,blt (by decide +kernel) (by decide +kernel) e⟩
     ·split at h
      ·rename_i e;cases h;exact⟨_,rfl,blt (by decide +kernel) (by decide +kernel) e⟩
      ·split at h
       ·rename_i e;cases h;exact⟨_,rfl,blt (by decide +kernel) (by decide +kernel) e⟩
       ·cases q:jed T.excs x with
        |none=>rw[q]at h;cases h
        |some i=>
         rw[q]at h;cases h;obtain⟨C,h1,h2⟩:=D.excs i x (jaZ q);exact⟨.ref C,by simp[clV,h1],jiU (D.gl hk) h2 rfl (je8 hb).1⟩
noncomputable def jmt (T:Tab)(sc:List (Str×NameKind))(e:Expr):Option Ty:=(jla e).bind fun x=>gd (jdi x || knd sc x != 2) (js2 T x)
noncomputable def jj9 (T:Tab)(sc:List (Str×NameKind))(e:Expr):Option (List Ty):=joX (joY e) (mapO (jmt T sc)) ((jmt T sc e).map fun t=>[t])
theorem jg6 (D:XD T G U Z m X sc){e:Expr}{t:Ty}(h:jmt T sc e=some t):(∃v,clV Z t=some v/\PE X e (tC v))/\∀a p,e≠.Starred a p:=by
 replace h:=jaf h;obtain⟨x,hx,h⟩:=h;obtain⟨p,rfl⟩:=jbx hx;replace h:=jal h;obtain⟨hc,h⟩:=h;obtain⟨c1,c2⟩:=jb4 hc;exact⟨jrw D (jf6 c2) c1 h,fun _ _ z=>by cases z⟩
noncomputable def tCs:List V->TA
 |[]=>jqd
 |v::vs=>ji0 (tC v) (tCs vs)
theorem jnI:∀{vs:List V}{σ:L2.St}{H:Hp}{Q:List V->Hp->Prop},Q vs H->tCs vs σ H Q
 |[],_,_,_,q=>q
 |v::vs,σ,H,Q,q=>jnI (vs:=vs) (Q:=fun xs H1=>Q (v::xs) H1) q
theorem jka (D:XD T G U Z m X sc):∀{es:List Expr}{ks:List Ty},mapO (jmt T sc) es=some ks->∃cs,jqg Z ks=some cs/\PA X es (tCs cs)
 |[],ks,h=>by cases h;exact⟨[],rfl,ja9⟩
 |e::es,ks,h=>by
  obtain⟨k,ks',h1,h2,rfl⟩:=jax h;obtain⟨⟨v,e1,e2⟩,ns⟩:=jg6 D h1;obtain⟨cs,e3,e4⟩:=jka D h2;refine⟨v::cs,?_,jau e2 e4 (jad ns)⟩;simp only[jqg,mapO]at e3 ⊢;rw[e1,e3]
theorem jg7:∀{ks:List Ty}{cs:List V},jqg Z ks=some cs->cs.length=ks.length
 |[],cs,h=>by cases h;rfl
 |k::ks,cs,h=>by
  obtain⟨c,cs',_,q2,rfl⟩:=jax h;rw[juB,juB,jg7 q2]
noncomputable def tCA (Z:Kn)(ks:List Ty):TE:=fun σ H Q=>(∀y,jnH Z ks y H->Q y H)/\∀p cs,H p=none->jqg Z ks=some cs->Q (.ref p) (upd H p (.tup cs))
theorem jpg (D:XD T G U Z m X sc){e:Expr}{ks:List Ty}(hl:ks.length<=100)(h:jj9 T sc e=some ks):PE X e (tCA Z ks)/\∀a p,e≠.Starred a p:=by
 replace h:=jbQ h;rcases h with ⟨es,he,h⟩ | h
 ·obtain⟨k,p,rfl⟩:=je7 he;obtain⟨cs,e1,e2⟩:=jka D h;refine⟨PE.imp (jnr e2) fun σ H Q q=>jnI ⟨?_,fun p hp=>q.2 p cs hp e1⟩,fun _ _ z=>by cases z⟩
  rw[jg7 e1,sizeLine_eq];omega
 ·replace h:=jap h;obtain⟨t,q,rfl⟩:=h;obtain⟨⟨v,e1,e2⟩,ns⟩:=jg6 D q;exact⟨PE.imp e2 fun σ H Q z=>z.1 v (.inl ⟨t,rfl,e1⟩),ns⟩
theorem jph (D:XD T G U Z m X sc){a e:Expr}{E1:E}{ks:List Ty}{p pos:Pos}(hf:knd sc "isinstance"=2)(hl:ks.length<=100)(h:PE X a (tE Z X B (evE G U E1)))(ns:∀e q,a≠.Starred e q)(hks:jj9 T sc e=some ks) :
  PE X (.Call (.Name "isinstance" p) [a,e] [] pos) (tE Z X B (evE G U (.isi E1 ks))):=by
 obtain⟨hp,ns2⟩:=jpg D hl hks;refine PE.imp (jbN (jms D.ecs D.hK (ks:=ks)) (D.gl hf) (D.blt _ (by decide +kernel)) (by decide +kernel) (jau h (jau hp ja9 (jad ns2)) (jad ns)) (by decide) (by decide) (jad ns) (jee (jcJ fun x hx=>by
  have:x=e:=by simpa using hx
  subst this;exact ns2))) fun σ H Q ⟨F,ρ,r,q⟩=>?_
 simp only[evE]at q;refine⟨F,ρ,r,q.bind.imp (fun _ w=>w) fun p1 h1 v F' H' g r' rv=>?_⟩;obtain⟨x,ex,h2⟩:=h1.bind.pure fun c=>jaC;obtain⟨b,eb,h3⟩:=h2.bind.pure fun c=>jfa;have rb:=jaY rv r' ex;refine⟨fun y hy=>⟨v,y,F',x,b,rfl,hy,rb,eb,h3 _ F' H' g r' (by show Rep _ _ _ _ _;simp only[Rep])⟩,fun p cs hp hcs=>?_⟩
 have e:=Ext.newO (o:=.tup cs) r'.dom hp;have kp:=e.keep r'.dom;refine⟨v,.ref p,F',x,b,rfl,.inr ⟨p,cs,rfl,hcs,jak⟩,?_,eb,h3 _ F' _ (g.trans e.go) (r'.ext e) (by show Rep _ _ _ _ _;simp only[Rep])⟩
 rcases rb with rb | ⟨l,o,e1,e2,e3⟩
 ·exact .inl (rb.mono kp)
 ·obtain⟨w,hw⟩:=e3.some;exact .inr ⟨l,o,e1,e2,e3.mono kp (by rw[jac (jab hw hp)])⟩
end
end DJ
namespace DJ
open PySem PySem.Spec PyProof.Rows L2
theorem jkb {M:Model}{A:Around}{E E':Value->Shared->Prop}{s:Shared}{B:Heap}{env:Env}{outer:List Env}{L e:Addr}{cls a0:Value}{Q:Shared->Prop}(hfr:A.frames=some (env::outer))(hf:env.frame=some L)(x:FlyA B (env::outer) e cls a0 s.heap)
  (hQ:∀h',Heap.FlyingW B (env::outer) e cls a0 h'->s.heap.UpToSlots h'->Q { s with heap:=h' }):wpAny M A (noteFrame (.ref e) env) (fun _ s₂=>wpAny M A (setFlight (.ref e) none) (fun _ s₃=>Q s₃) E s₂) E' s:=
 jgN hfr hf hf x fun h1 held up1=>wpAny_landsW held fun h2 fl up2=>hQ h2 fl (up1.trans up2)
theorem jh2 {M:Model}{A:Around}{E:Value->Shared->Prop}{s:Shared}{B:Heap}{env:Env}{outer:List Env}{L e:Addr}{cls a0:Value}{Q:Unit->Shared->Prop}(hfr:A.frames=some (env::outer))(hf:env.frame=some L)(x:FlyA B (env::outer) e cls a0 s.heap)
  (hQ:∀h',Heap.FlyingW B outer e cls a0 h'->s.heap.UpToSlots h'->Q () { s with heap:=h' }):wpAny M A (leaving env (.ref e)) Q E s:=by
 unfold leaving;refine juT (jkb (Q:=fun s=>Q () s) hfr hf x fun h' fl up=>?_);obtain⟨k1,k2,⟨_,_,k3⟩,k4⟩:=fl;exact hQ h' ⟨k1,k2,k3,k4⟩ up
theorem jnJ {P:Program}{w:World}{H:Hp}{h:Heap}{a:Addr}{o:HO}(x:ObjOk P w H h a o):∃u,h.get? a=some u:=by
 cases o with
 |lst xs=>obtain⟨_,_,_,_,e⟩:=x;exact⟨_,e⟩
 |tup xs=>obtain⟨_,_,_,o,e,_⟩:=x;exact⟨_,e⟩
 |dK kvs=>obtain⟨_,_,_,_,o,_,_,e,_⟩:=x;exact⟨_,e⟩
 |dT kvs=>obtain⟨_,_,_,_,o,_,_,e,_⟩:=x;exact⟨_,e⟩
 |set S n=>obtain⟨o,_,_,_,e,_⟩:=x;exact⟨_,e⟩
 |ins C dx fs=>obtain⟨_,_,_,e,_⟩:=x;exact⟨_,e⟩
 |own y=>obtain⟨_,e⟩:=x;exact⟨_,e⟩
 |xd fs=>obtain⟨_,⟨_,_,_,e,_⟩,_⟩:=x;exact⟨_,e⟩
 |rng lo hi=>obtain⟨_,_,_,e⟩:=x;exact⟨_,e⟩
 |frz ob u=>obtain⟨e,_⟩:=x;exact⟨_,e⟩
 |tbl ps=>exact⟨_,(show h.get? a=some _ from x)⟩
 |met f y=>exact⟨_,(show h.get? a=some _ from x)⟩
 |ext φ=>obtain⟨_,⟨_,e⟩,_⟩:=x;exact⟨_,e⟩
theorem jkc {h base B:Heap}:∀{l:List Env},h.FunFrames base l->(∀b∈frs l,B.get? b=none)->h.FunFrames B l
 |[],_,_=>trivial
 |env::r,⟨k,⟨L,o,hf,_,ho,hd⟩,t⟩,hB=>⟨k,⟨L,o,hf,hB L (by simp[frs,hf]),ho,hd⟩,jkc t fun b hb=>hB b (by
  unfold frs at hb ⊢;rw[juG,hf];exact jus _ hb)⟩
structure Has (X:Cx)(pins:List (Addr×Obj))(H':Hp)(B:Heap):Prop where
 s0:∀b o,X.s₀.heap.get? b=some o->b ∉ frs X.stack->b ∉ X.ex->∃o',B.get? b=some o'
 cl:∀x c,X.fn x=true->X.env.cells.lookup x=some c->∃o',B.get? c=some o'
 pn:∀p∈X.pn++pins,∃o',B.get? p.1=some o'
 tr:∀a o,H' a=some o->∃o',B.get? a=some o'
section
variable {X:Cx}{pins:List (Addr×Obj)}{σ:L2.St}{H:Hp}{s:Shared}{B h':Heap}
theorem Inv.cellNot (I:Inv X pins σ H s){x:Str}{c:Addr}(hf:X.fn x=true)(hc:X.env.cells.lookup x=some c):c ∉ frs X.stack:=fun z=>by
 rcases List.mem_cons.mp (I.stkSub c z)with z | z
 ·exact I.cne x c hc z
 ·have h1:=I.ok.cab x c hf hc;obtain⟨_,o',h2,_⟩:=I.ok.funs.mem z;exact absurd (ju3 h2) (Nat.not_lt.mpr h1)
theorem Has.made (I:Inv X pins σ H s):Has X pins H (PySem.W.hideAll s.heap (frs X.stack)) where
 s0 b o e n nx:=by
  obtain⟨o',e'⟩:=I.base.there b o e nx;exact⟨o',PySem.W.hideAll_get _ e' n⟩
 cl x c hf hc:=by
  obtain⟨v,o,ho,_⟩:=I.cell x c hc;exact⟨o,PySem.W.hideAll_get _ ho (Inv.cellNot I hf hc)⟩
 pn p hp:=by
  obtain⟨h1,h2,h3,h4,_⟩:=I.pin p hp;refine⟨p.2,PySem.W.hideAll_get _ h1 fun z=>?_⟩;rcases List.mem_cons.mp (I.stkSub p.1 z)with z | z
  ·exact h3 z
  ·exact h4 z
 tr a o e:=by
  obtain⟨u,hu⟩:=jnJ (I.hok a o e);exact⟨u,PySem.W.hideAll_get _ hu fun z=>by rw[I.stkFree a z]at e;cases e⟩
theorem Inv.flownP {t':Nat}(I:Inv X pins σ H s)(hfn:∀x,X.fn x=true)(Hs:Has X pins H B)(k:B.StaysIn s.heap)(k':B.StaysIn h')(Pr:Addr->Prop)(h1:∀b∈X.fs,Pr b)(h2:Pr X.env.locals)(up:∀b o,Pr b->s.heap.get? b=some o->(∀vs,o.data≠.fields vs)->∃sl,h'.get? b=some { o with slots:=sl }):Inv X pins σ H { s with heap:=h',toks:=t' }:=by
 have same:∀{b:Addr}{o:Obj},(∃o',B.get? b=some o')->s.heap.get? b=some o->h'.get? b=some o:=fun {b o} ⟨o',e⟩ q=>by
  have:=k b o' e;rw[q]at this;cases this;exact k' b o e
 have notS:∀{b:Addr}{o:Obj},X.s₀.heap.get? b=some o->b ∉ X.fs->b ∉ frs X.stack:=fun {b o} e n z=>by
  rcases List.mem_cons.mp (I.stkSub b z)with z | z
  ·have:=ju3 e;rw[z]at this;exact absurd this (Nat.not_lt.mpr I.ok.above)
  ·exact n z
 have cellK:∀{x:Str}{c:Addr}{v:Option Value},X.env.cells.lookup x=some c->s.heap.IsCell c v->h'.IsCell c v:=fun {x c v} hc ⟨o,ho,hd⟩=>⟨o,same (Hs.cl x c (hfn x) hc) ho,hd⟩;refine⟨I.ok,I.os,I.bare,⟨fun b o e n hb hx=>same (Hs.s0 b o e (notS e hb) hx) (I.base.keep b o e n hb hx),fun b o e n hb hx=>?_,I.base.free,fun b o e hx=>?_,I.base.tups,I.base.frzs,I.base.tbls⟩,?_,fun x c hc=>?_,I.free,I.freeC,fun p hp=>?_,fun a u e=>?_,I.len⟩
 ·obtain⟨sl,q⟩:=I.base.slot b o e n hb hx;obtain⟨_,o2,q2,q3⟩:=I.funs.mem hb;rw[q]at q2;cases q2;exact let ⟨sl',q'⟩:=up b _ (h1 b hb) q q3;⟨sl',q'⟩
 ·obtain⟨o',q⟩:=I.base.there b o e hx;by_cases hb:b∈X.fs
  ·obtain⟨_,o2,q2,q3⟩:=I.funs.mem hb;rw[q]at q2;cases q2;exact let ⟨sl',q'⟩:=up b _ (h1 b hb) q q3;⟨_,q'⟩
  ·exact⟨o',same (Hs.s0 b o e (notS e hb) hx) q⟩
 ·obtain⟨m,hn,hl⟩:=I.loc;have hn':h'.Ns X.env.locals m:=by
   obtain⟨o,es,ep,ho,hd,r⟩:=hn;obtain⟨sl,hs⟩:=up _ o h2 ho fun vs q=>by rw[hd]at q;cases q
   exact⟨_,es,ep,hs,hd,r⟩
  refine⟨m,hn',fun i x v h1 h2 h3=>?_⟩;obtain⟨u,ru,lk⟩:=hl i x v h1 h2 h3;refine⟨u,ru,?_⟩;rcases lk with lk | ⟨h4,c,h5,h6⟩
  ·exact .inl lk
  ·exact .inr ⟨h4,c,h5,cellK h5 h6⟩
 ·obtain⟨v,q⟩:=I.cell x c hc;exact⟨v,cellK hc q⟩
 ·obtain⟨h1,h2⟩:=I.pin p hp;exact⟨same (Hs.pn p hp) h1,h2⟩
 ·refine(I.hok a u e).stay (fun c w' hc q=>same (Hs.tr c (if c=a then u else .own a) ?_) q) (fun _ q=>q) fun _ _ q=>q;by_cases hca:c=a
  ·rw[if_pos hca,hca];exact e
  ·rw[if_neg hca];rcases hc with z | z
   ·exact absurd z hca
   ·exact z
theorem Inv.flown {t':Nat}(I:Inv X pins σ H s)(hfn:∀x,X.fn x=true)(Hs:Has X pins H B)(k:B.StaysIn s.heap)(k':B.StaysIn h')(up:s.heap.UpToSlots h'):Inv X pins σ H { s with heap:=h',toks:=t' }:=
 Inv.flownP I hfn Hs k k' (fun _=>True) (fun _ _=>trivial) trivial fun b o _=>up b o
end
end DJ
namespace DJ
open PySem PySem.Spec PyProof.Rows L2
theorem jg8 {α:Type}{x:Bool}:(R.stk:R α).pass x=.stk:=by cases x <;> rfl
theorem jeg {α:Type}{x:Bool}{a:α}:(R.ok a).pass x=.ok a:=by cases x <;> rfl
theorem jg9 {α β:Type}{x:Bool}{c:Nat}{W:Nat->Prop}{f:α->R β}{Q:β->Prop}(h:Ok W (((R.err c:R α).pass x).bind f) Q):x=true/\W c:=by
 cases x with
 |true=>exact⟨rfl,h⟩
 |false=>exact False.elim h
theorem Un.sameBut {fs ex:List Addr}{H H':Hp}{h h1 h2:Heap}{C:Addr}(u:Un fs ex H H' h h1)(hC:h.objs.size<=C)(s:Heap.SameBut C h1 h2):Un fs ex H H' h h2:=by
 have ne:∀b o,h.get? b=some o->b≠C:=fun b o e=>ju9 (ju8 (ju3 e) hC);refine⟨fun b o e n hb hx=>(s.2 b (ne b o e)).trans (u.keep b o e n hb hx),fun b o e n hb hx=>?_,u.free,fun b o e hx=>?_,u.tups,u.frzs,u.tbls⟩
 ·obtain⟨sl,q⟩:=u.slot b o e n hb hx;exact⟨sl,(s.2 b (ne b o e)).trans q⟩
 ·obtain⟨o',q⟩:=u.there b o e hx;exact⟨o',(s.2 b (ne b o e)).trans q⟩
theorem HOk.sameBut {P:Program}{w:World}{H:Hp}{h1 h2:Heap}{C:Addr}(k:HOk P w H h1)(n:H C=none)(s:Heap.SameBut C h1 h2):HOk P w H h2:=fun b ob e=>by
 refine(k b ob e).stay (fun c w' hc q=>(s.2 c ?_).trans q) (fun _ q=>q) fun _ _ q=>q;rintro rfl;rcases hc with rfl | hc
 ·rw[n]at e;cases e
 ·rw[n]at hc;cases hc
section
variable {X:Cx}{scope:Scope}{N cn:List Str}{nt:Nat}{caps:List Nat}{B:Bs}{Z:Kn}{elt tg iter:Expr}{ks:List Expr}{pos:Pos}{tgs:List Nat}{one:Bool}{fi:Rho->R (List D×List Nat×Rho)}{fc:Option (Rho->R (Bool×Rho))}{fe:Rho->R (Vl×Rho)}
theorem jeh {pins:List (Addr×Obj)}{σ:L2.St}{H1:Hp}{s3:Shared}{fp:List Addr}(I3:Inv X pins σ H1 s3)(fo:∀b∈fp,(b∈X.ex\/X.s₀.heap.objs.size<=b)/\b≠X.env.locals/\(∀x c,X.env.cells.lookup x=some c->c≠b)/\∀p∈X.pn++pins,p.1≠b)
  {σ':L2.St}{H':Hp}{s':Shared}{E:Value->Shared->Prop}{pins':List (Addr×Obj)} (IY:Inv (cxComp X N scope s3 H1 fp E) pins' σ' H' s') {h':Heap} (sb:Heap.SameBut s3.heap.objs.size s'.heap h'):Inv X pins σ H' { s' with heap:=h' }:=
 I3.call' IY.os (Un.sameBut IY.base (ju7 _) sb) (HOk.sameBut IY.hok IY.free sb) IY.bare fo
theorem jha {pins pins':List (Addr×Obj)}{σ σ':L2.St}{H1 H':Hp}{s3 s':Shared}{fp:List Addr}{E:Value->Shared->Prop}{ea:Addr}{cls acc:Value}{use:Option (Value->Sem Unit)}{Q:Value->Shared->Prop}(Tp:TopX X)(I3:Inv X pins σ H1 s3)
  (fo:∀b∈fp,(b∈X.ex\/X.s₀.heap.objs.size<=b)/\b≠X.env.locals/\(∀x c,X.env.cells.lookup x=some c->c≠b)/\∀p∈X.pn++pins,p.1≠b) (IY:Inv (cxComp X N scope s3 H1 fp E) pins' σ' H' s') (fly:FlyC (cxComp X N scope s3 H1 fp E) pins' ea cls H' s')
  (k:∀s'',Inv X pins σ H' s''->FlyC X pins ea cls H' s''->X.xe (.ref ea) s'') :
  notedBy (model X.prog X.w) X.A (cxComp X N scope s3 H1 fp E).env (fun e s''=>compPost (model X.prog X.w) X.A X.xe use Q acc s3.heap.objs.size (.error e) s'') (.ref ea) s':=by
 obtain⟨⟨a0,B,fl,c1,c2,c3,c4⟩,hn⟩:=fly;have IX:Inv X pins σ H' s':=jeh I3 fo IY (Heap.SameBut.refl _ _);have old:∀{b:Addr}{o:Obj},s3.heap.get? b=some o->b ∉ frs X.stack->b ∉ fp->∃o',(PySem.W.hideAll B [s3.heap.objs.size]).get? b=some o':=fun {b o} e n nf=>by
  obtain⟨o',q⟩:=c1 b o e n nf;exact⟨o',PySem.W.hideAll_get _ q fun z=>absurd (List.mem_singleton.mp z) (ju9 (ju3 e))⟩
 have Hs:Has X pins H' (PySem.W.hideAll B [s3.heap.objs.size]):=by
  refine⟨fun b o e n nx=>?_,fun x c hf hc=>?_,fun p hp=>?_,fun a o e=>?_⟩
  ·obtain⟨o',e'⟩:=I3.base.there b o e nx;exact old e' n fun z=>(fo b z).1.elim nx fun q=>absurd (ju3 e) (Nat.not_lt.mpr q)
  ·obtain⟨v,o,ho,_⟩:=I3.cell x c hc;exact old ho (Inv.cellNot I3 hf hc) fun z=>(fo c z).2.2.1 x c hc rfl
  ·obtain⟨h1,h2,h3,h4,_⟩:=I3.pin p hp;refine old h1 (fun z=>?_) fun z=>(fo p.1 z).2.2.2 p hp rfl;rcases List.mem_cons.mp (I3.stkSub p.1 z)with z | z
   ·exact h3 z
   ·exact h4 z
  ·obtain⟨o',q⟩:=c4 a o e;refine⟨o',PySem.W.hideAll_get _ q fun z=>?_⟩;rw[List.mem_singleton.mp z,show H' s3.heap.objs.size=none from IY.free]at e;cases e
 have hst:=Tp.st;have nC:s3.heap.objs.size ∉ frs X.stack:=fun z=>by
  obtain⟨_,o,q,_⟩:=I3.stack.mem z;exact absurd (ju3 q) (jvb _)
 have fl2:FlyA (PySem.W.hideAll B [s3.heap.objs.size]) (X.env::X.outer) ea cls a0 s'.heap:=by
  obtain⟨f,k1,k2,k3,oe,vs,T,oT,ts,he,hc,hd,h1,hnT,r⟩:=fl;have sub:∀{b:Addr},B.get? b=none->(PySem.W.hideAll B [s3.heap.objs.size]).get? b=none:=fun {b} q=>by
   cases e:(PySem.W.hideAll B [s3.heap.objs.size]).get? b with
   |none=>rfl
   |some o=>rw[PySem.W.of_hideAll _ e]at q;cases q
  refine⟨f,fun b o e=>k1 b o (PySem.W.of_hideAll _ e),sub k2,?_,oe,vs,T,oT,ts,he,hc,hd,h1,sub hnT,r⟩;rw[<-hst];exact jkc k3 fun b hb=>sub (k3.mem hb).1
 obtain⟨m,hns,_⟩:=IY.loc;have hns:s'.heap.Ns s3.heap.objs.size m:=hns;have frm:X.A.frames=some (X.env::X.outer):=by rw[<-hst];exact I3.ok.frames
 refine jgN (L:=X.env.locals) frm Tp.fr (show (cxComp X N scope s3 H1 fp E).env.frame=some X.env.locals from Tp.fr) fl2 fun h4 held up4=>?_;have fin:∃m,h4.Ns s3.heap.objs.size m/\∀h',Heap.SameBut s3.heap.objs.size h4 h'->∀cenv:Env,cenv.locals=s3.heap.objs.size->wpAny (model X.prog X.w) X.A (PySem.passOn "comprehension.variables-let-go" (.ref ea) cenv:Sem Value) (fun _ _=>False) X.xe { s' with heap:=h' }:=by
  refine⟨m,up4.ns hns,fun h' sb cenv _=>?_⟩;refine jlA (s:={ s' with heap:=h' }) (FlyA.but (FlyA.held held) (up4.ns hns) (PySem.W.hideAll_none _ (List.mem_singleton.mpr rfl)) (by rw[<-hst];exact nC) sb) fun h6 fl6 up6=>?_
  have I6:Inv X pins σ H' { s' with heap:=h6 }:=Inv.flownP (t':=s'.toks) IX Tp.fn Hs fl2.stays fl6.stays (fun b=>b≠s3.heap.objs.size) (fun b hb z=>nC (by rw[<-z,hst];unfold frs;rw[juG,Tp.fr];exact jus _ hb))
   (fun z=>nC (by rw[<-z,hst];unfold frs;rw[juG,Tp.fr];exact jut)) fun b o nb e nf=>by
    obtain⟨sl,q⟩:=up4 b o e nf;obtain⟨sl2,q2⟩:=up6 b _ ((sb.2 b nb).trans q) nf;exact⟨sl2,q2⟩
  exact k _ I6 ⟨⟨a0,_,by rw[hst];exact fl6,Hs.s0,Hs.cl,Hs.pn,Hs.tr⟩,hn⟩
 cases use <;> exact fin
theorem CompOk.capLt (C:CompOk X scope N cn nt caps):∀j∈caps,j < X.N.length:=fun j hj=>by
 obtain⟨k,hk,e⟩:=List.getElem_of_mem hj;have hk':k < cn.length:=by rw[C.clen];exact hk
 obtain⟨h1,_⟩:=C.at_ k j cn[k] (jur hk') (by rw[jur hk,e])
 exact(List.getElem?_eq_some_iff.mp h1).1
theorem jpi (hK:X.K=Z.K)(hc:X.calm=true)(C:CompOk X scope N cn nt caps)(hi:PI X tg iter (tI Z X B fi))
  (hT:∀s' H' fp E,TgOk (cxComp X N scope s' H' fp E) tg tgs one) (hlow:∀i∈tgs,i < nt)
  (hE:∀s' H' fp E B',PE (cxComp X N scope s' H' fp E) elt (tE Z (cxComp X N scope s' H' fp E) B' fe)) {xx:Bool} (Tp:xx=true->TopX X)
  (hk:(ks=[]/\fc=none)\/∃k g,ks=[k]/\fc=some g/\∀s' H' fp E B',PT (cxComp X N scope s' H' fp E) k (tT Z (cxComp X N scope s' H' fp E) B' g)) (hs:∀x,foldedSetIterable iter X.env x=pure x) :
  PE X (.ListComp elt [⟨tg,iter,ks,0⟩] scope pos) (tE Z X B fun ρ=>(fi ρ).bind fun t=>((compGo (jcX tgs one nt caps fc fe) t.1 t.2.2).pass xx).bind fun ys=>.ok (.tmp (.l ys.1),unlk t.2.1 ys.2)):=by
 intro pins s σ H Q I hz1;obtain⟨F,ρ,r,h⟩:=hz1;rw[eval_ListComp];refine wpAny_comprehension_free (use:=none) rfl hs (jjF (C.cells I)) C.kind C.names ?_;refine thn (hi pins s σ H (fun J H'=>∃(F':Addr->Prop) (t:List D×List Nat×Rho) (ls:List Addr),ItR Z B σ ρ F H t.2.2 F' H' t.2.1 ls/\ItmG Z (GK F' H' ls) J t.1/\Ok (XW Z X σ ρ H) (((compGo (jcX tgs one nt caps fc fe) t.1 t.2.2).pass xx).bind fun ys=>.ok (.tmp (.l ys.1),unlk t.2.1 ys.2)) (Post Z B σ ρ F H Q)) I
  ⟨F,ρ,r,h.bind.imp (fun _ w=>w) fun t h1 F' H' J ls ir im=>⟨F',t,ls,ir,im,h1⟩⟩) fun v s1 h1=>thn h1 fun itv s2 hzz=>?_
 obtain⟨it,fp,tn,J,H2,e,I2,Tn,st2,f2,F2,t,ls,ir,im,q2⟩:=hzz;subst e;have fo:∀b∈fp,(b∈X.ex\/X.s₀.heap.objs.size<=b)/\b≠X.env.locals/\(∀x c,X.env.cells.lookup x=some c->c≠b)/\∀p∈X.pn++pins,p.1≠b:=fun b hb=>by
  obtain⟨f0,f1,f3,f4,f5,f6⟩:=f2 b hb;exact⟨f4,f1,f5,f6⟩
 refine jg1 (fc:=fc) (RR:=fun acc C'=>compPost (model X.prog X.w) X.A X.xe none (EP X pins σ Q) acc C') hK hc C I2 ir.sr (im.wk hK (fun l hl=>(ir.on l hl).1) Tn) (fun l hl=>(ir.on l hl).2) st2 f2 (fun s' H' E=>hT s' H' fp E) hlow (fun j hj=>?_) (fun s' H' E B'=>hE s' H' fp E B') ?_ rfl (fun z=>?_) ?_ ?_
 ·rw[ir.sr.len,I2.len];exact C.capLt j hj
 ·rcases hk with z | ⟨k,g,e1,e2,hk⟩
  ·exact .inl z
  ·exact .inr ⟨k,g,e1,e2,fun s' H' E B'=>hk s' H' fp E B'⟩
 ·rw[z,jg8]at q2;exact q2
 ·intro ys ρE E s3 l σ' F' H' s' vs hY hl I3 IY gE rE nF nO hl' rp;rw[hY,jeg]at q2;have q2:Post Z B σ ρ F H Q (.tmp (.l ys),unlk t.2.1 ρE):=q2;obtain⟨m,hn,_⟩:=IY.loc;refine⟨m,hn,fun h' sb=>?_⟩;exact⟨.ref l,H',jeh I3 fo IY sb,rfl,q2 _ F' H' (ir.un σ ρE F' H' gE) rE.unlk ⟨l,rfl,nF,fun z=>nO z.unlk,ir.go.free hl,vs,hl',rp⟩⟩
 ·intro c E s3 l σ' H' s' pins' ea Cc hY hl I3 hC IY stl fly;rw[hY]at q2;obtain⟨hx,q2⟩:=jg9 q2;exact jha (Tp hx) I3 fo IY fly fun s'' I'' fl''=>q2 pins H' s'' ea Cc hC I'' (Stl.go ir.go stl) fl''
end
theorem XD.comp {T:Tab}{G:Calls}{U:Nat->Nat->Bool}{Z:Kn}{n:Nat}{X:Cx}{sc:List (Str×NameKind)}(D:XD T G U Z n X sc){scope:Scope}{N:List Str}{s:Shared}{H:Hp}{fp:List Addr}{E:Value->Shared->Prop}(nd:N.Nodup):XD { T with deep:=true } G U Z n (cxComp X N scope s H fp E) scope.names where
 hK:=D.hK
 calm:=D.calm
 nd:=nd
 room:=D.room
 un:=D.un
 sc:=fun x=>by
  show (relabel scope X.env).names.lookup x=_\/_/\(relabel scope X.env).names.lookup x=_;unfold relabel;simp only;rw[ja4 (c:=fun n k=>k == .free && X.env.scope.kind == .function && X.env.kindOf n == some .cell)];cases e:scope.names.lookup x with
  |none=>exact .inl rfl
  |some k=>
   simp only[Option.map_some];split
   ·rename_i h;simp only[jvc,beq_iff_eq]at h;exact .inr ⟨by rw[h.1.1],rfl⟩
   ·exact .inl rfl
 blt:=D.blt
 defs:=D.defs
 cons:=D.cons
 excs:=D.excs
 ecl:=D.ecl
 sub:=D.sub
 top:=fun z=>nomatch z
section
variable {T:Tab}{G:Calls}{U:Nat->Nat->Bool}{Z:Kn}{m:Nat}{X:Cx}{sc:List (Str×NameKind)}{B:Bs}
theorem tE.blt {f:Bf}{E1:E}{σ:L2.St}{H:Hp}{Q:VK}{rr:List V->Hp->VK->Prop}(hr:∀x H Q,rD1 Z (bfD f) x H Q->rr [x] H Q)(h:tE Z X B (evE G U (.blt f E1)) σ H Q):tCB rr (ji0 (tE Z X B (evE G U E1)) jqd) σ H Q:=by
 have h2:tE Z X B (fun ρ=>(evE G U E1 ρ).bind fun p=>(deref p.1 p.2).bind fun x=>(bfD f x).bind fun v=>.ok (v,p.2)) σ H Q:=by simpa only[evE] using h
 obtain⟨F,ρ,r,h3⟩:=tE.one (fun x c=>joW) (fun x i=>jmd) h2;exact⟨F,ρ,r,h3.imp (fun _ w=>w) fun p q v F' H' g r' rv=>hr v H' Q (q v F' H' g r' rv)⟩
theorem jkd:∀(a b:List Int),lexLt a b=HS.lx a b
 |[],[]=>rfl
 |[],_::_=>rfl
 |_::_,[]=>rfl
 |x::xs,y::ys=>by simp only[lexLt,HS.lx,jkd xs ys]
theorem jc6 (x:List Int):∀(l:List (List Int)),(jgU x l).Perm (x::l)
 |[]=>.refl _
 |y::r=>by
  simp only[jgU];split
  ·exact((jc6 x r).cons y).trans (.swap x y r)
  ·exact .refl _
theorem jdA:∀(l:List (List Int)),(jbu l).Perm l
 |[]=>.refl _
 |x::r=>(jc6 x (jbu r)).trans ((jdA r).cons x)
theorem jfb {x:List Int}:∀{l:List (List Int)},HS.Rise l->HS.Rise (jgU x l)
 |[],_=>List.pairwise_singleton _ _
 |y::r,h=>by
  obtain⟨h1,h2⟩:=List.pairwise_cons.mp h;simp only[jgU];split
  ·rename_i e;refine List.pairwise_cons.mpr ⟨fun z hz=>?_,jfb h2⟩;rcases List.mem_cons.mp ((jc6 x r).mem_iff.mp hz)with rfl | hz
   ·rw[jkd]at e;exact HS.jfY e
   ·exact h1 z hz
  ·rename_i e;have e:HS.lx y x=false:=by rw[<-jkd];simpa using e
   refine List.pairwise_cons.mpr ⟨fun z hz=>?_,h⟩;rcases List.mem_cons.mp hz with rfl | hz
   ·exact e
   ·exact HS.jd6 e (h1 z hz)
theorem jdB:∀(l:List (List Int)),HS.Rise (jbu l)
 |[]=>List.Pairwise.nil
 |x::r=>jfb (jdB r)
noncomputable def Zf (Z:Kn)(F:Addr->Prop)(H:Hp)(k:List Int)(b:Addr):Prop:=FT Z.K F H b (k.map V.int)
theorem jhb {F:Addr->Prop}{H:Hp}:∀{ds:List D}{kss:List (List Int)}{vs:List V},jbi ds=some kss->Reps Z F H ds vs->KysV (Zf Z F H) kss vs
 |[],kss,vs,h,r=>by simp only[Reps]at r;subst r;cases h;exact .nil
 |d::ds,kss,vs,h,r=>by
  obtain⟨v,us,rfl,r1,r2⟩:=r.uncons;cases d with
  |tup xs=>
   simp only[jbi]at h;split at h
   ·rename_i k ks e1 e2;cases h;simp only[Rep]at r1;obtain⟨a,ws,rfl,ft,rr⟩:=r1;cases jcd e1 rr;exact .cons ⟨a,rfl,ft⟩ (jhb e2 r2)
   ·cases h
  |_=>cases h
theorem jke {F:Addr->Prop}{H:Hp}{kss:List (List Int)}{vs:List V}(h:KysV (Zf Z F H) kss vs):Reps Z F H (kss.map jsr) vs:=by
 induction h with
 |nil=>exact .nil
 |@cons k _ _ _ h p ih=>
  obtain⟨b,e,h⟩:=h;subst e;refine .cons ?_ ih;simp only[jsr,Rep];refine⟨b,_,rfl,h,?_⟩;clear h p ih;induction k with
  |nil=>exact .nil
  |cons i k ih=>exact .cons (by simp only[Rep]) ih
theorem jhc:∀{ds:List D}{kss:List (List Int)},jbi ds=some kss->kss.length=ds.length
 |[],kss,h=>by cases h;rfl
 |d::ds,kss,h=>by
  cases d with
  |tup xs=>
   simp only[jbi]at h;split at h
   ·rename_i k ks e1 e2;cases h;rw[juB,juB,jhc e2]
   ·cases h
  |_=>cases h
theorem jkf {kss:List (List Int)}{w:Vl}(h:jd7 kss=.ok w):w=.tmp (.l ((jbu kss).map jsr))/\(∀k∈kss,k≠[])/\kss.length < 64:=by
 unfold jd7 at h;split at h
 ·rename_i hc;cases h;simp only[jvc,juK,decide_eq_true_eq]at hc;refine⟨rfl,fun k hk z=>?_,hc.2⟩;have:=hc.1 k hk;rw[z]at this;cases this
 ·cases h
theorem jrx (hZ:X.K=Z.K){F:Addr->Prop}{H:Hp}:Zok X.K H (Zf Z F H):=fun k b h=>by rw[hZ];exact h.sq
theorem jkg (hZ:X.K=Z.K):∀x H Q,rD1 Z (bfD .sorted) x H Q->jrb X [x] H Q:=by
 intro x H Q hz1;obtain⟨F,d,w,dm,rp,hw,h⟩:=hz1;cases d with
 |lst xs=>
  simp only[bfD]at hw;cases e:jbi xs with
  |none=>rw[e]at hw;cases hw
  |some kss=>
   rw[e]at hw;obtain⟨rfl,h1,h2⟩:=jkf hw;obtain⟨a,vs,rfl,ft,r⟩:=rp.lst;refine⟨a,vs,kss,Zf Z F H,rfl,by rw[hZ];exact ft,jrx hZ,jhb e r,h1,by rw[<-r.length,<-jhc e];exact h2,fun kss' ws hp hr hk l hl=>?_⟩
   rw[HS.je1 (hp.trans (jdA kss).symm) hr (jdB kss)]at hk;exact h.lst dm (jke hk) l hl
 |_=>simp only[bfD,jaU]at hw;cases hw
noncomputable def jtM (quiet:Bool)(f:Str):Option Bf:=
 alt (f == "len") (some .len) <|
 alt (f == "tuple") (some .tuple) <|
 alt (f == "int") (some .int) <|
 alt (f == "str") (some .str) <|
 gd quiet <|
 alt (f == "all") (some .all) <|
 alt (f == "any") (some .any) <|
 alt (f == "sum") (some .sum) <|
 alt (f == "sorted") (some .sorted) <|
 none
theorem jpj (D:XD T G U Z m X sc){f:Str}{g:Bf}{a:Expr}{E1:E}{p pos:Pos}(hf:knd sc f=2)(hb:jdi f=false)(S:PE X a (tE Z X B (evE G U E1)))(ns:∀e q,a≠.Starred e q)(hg:jtM T.quiet f=some g) :
  PE X (.Call (.Name f p) [a] [] pos) (tE Z X B (evE G U (.blt g E1))):=by
 have hpa:PA X [a] (ji0 (tE Z X B (evE G U E1)) jqd):=jau S ja9 (jad ns);have he:starEach [a] X.env=(false,eval a X.env)::starEach [] X.env:=jad ns;have hd:=(je8 hb).1;have hn:=(je8 hb).2;rcases jar hg with ⟨e,hg⟩ | hg
 ·cases hg;cases jbU e;exact PE.imp (jbN (call_len_seq.or jeO) (D.gl hf) (D.blt _ (by decide +kernel)) PySem.boot_len hpa hn hd he rfl) fun σ H Q q=>tE.blt (jrg D.hK) q
 rcases jar hg with ⟨e,hg⟩ | hg
 ·cases hg;cases jbU e;exact PE.imp (jbf jdS (D.gl hf) (D.blt _ (by decide +kernel)) (by decide +kernel) hpa hn hd he rfl) fun σ H Q q=>tE.blt (jmc D.hK) q
 rcases jar hg with ⟨e,hg⟩ | hg
 ·cases hg;cases jbU e;exact PE.imp (jbf (call_int1.or jjc) (D.gl hf) (D.blt _ (by decide +kernel)) (by decide +kernel) hpa hn hd he rfl) fun σ H Q q=>tE.blt jri q
 rcases jar hg with ⟨e,hg⟩ | hg
 ·cases hg;cases jbU e;exact PE.imp (jbf jjb (D.gl hf) (D.blt _ (by decide +kernel)) (by decide +kernel) hpa hn hd he rfl) fun σ H Q q=>tE.blt bf_str q
 obtain⟨hq,hg⟩:=jal hg;have hc:X.calm=true:=D.calm hq;rcases jar hg with ⟨e,hg⟩ | hg
 ·cases hg;cases jbU e;exact PE.imp (jbN (jeR hc true) (D.gl hf) (D.blt _ (by decide +kernel)) (by decide +kernel) hpa hn hd he rfl) fun σ H Q q=>tE.blt (f:=.all) (jnE D.hK true) q
 rcases jar hg with ⟨e,hg⟩ | hg
 ·cases hg;cases jbU e;exact PE.imp (jbN (jeR hc false) (D.gl hf) (D.blt _ (by decide +kernel)) (by decide +kernel) hpa hn hd he rfl) fun σ H Q q=>tE.blt (f:=.any) (jnE D.hK false) q
 rcases jar hg with ⟨e,hg⟩ | hg
 ·cases hg;cases jbU e;exact PE.imp (jbN (jma hc) (D.gl hf) (D.blt _ (by decide +kernel)) (by decide +kernel) hpa hn hd he rfl) fun σ H Q q=>tE.blt (jrh D.hK) q
 rcases jar hg with ⟨e,hg⟩ | hg
 ·cases hg;cases jbU e;exact PE.imp (jbN je2 (D.gl hf) (D.blt _ (by decide +kernel)) (by decide +kernel) hpa hn hd he rfl) fun σ H Q q=>tE.blt (jkg D.hK) q
 exact jae hg
noncomputable def jtN (f:Str):Option Sm:=alt (f == "join") (some .join) <| alt (f == "count") (some .cnt) <| alt (f == "split") (some .splt) <|
 alt (f == "zfill") (some .zfl) <|
 none
theorem jfc (f:Sm)(x:Str)(d:D):jdh (smD f x d):=by
 cases f with
 |join=>cases d with
  |lst xs=>
   show jdh (match jba xs with | some ys=>if (ys.map (·.length)).sum + ys.length * x.length<=16777216 then .ok (.dat (.str (Txt.join x ys)))else .stk | none=>.stk)
   cases jba xs with
   |none=>trivial
   |some ys=>exact jaN trivial
  |_=>trivial
 |cnt=>cases d <;> trivial
 |splt=>cases d with
  |str y=>exact jaN trivial
  |_=>trivial
 |zfl=>cases d with
  |int y=>exact jaN trivial
  |_=>trivial
 |rjn=>cases d with
  |lst xs=>
   show jdh (match jba xs with | some ys=>if (ys.map (·.length)).sum + ys.length * x.length<=16777216 then .ok (.dat (.str (Txt.join x ys.reverse)))else .stk | none=>.stk)
   cases jba xs with
   |none=>trivial
   |some ys=>exact jaN trivial
  |_=>trivial
theorem jkh {f:Sm}{x:Str}{d:D}{c:Nat}:smD f x d≠.err c:=by
 intro h;have:=jfc f x d;rw[h]at this;exact this
theorem jhd {f:Sm}{x:Str}{d:D}{i:Nat}:smD f x d≠.ok (.slot i):=by
 intro h;have:=jfc f x d;rw[h]at this;exact this
inductive rSm (Z:Kn) (f:Sm) (x:V) (xs:List V) (H:Hp) (Q:VK):Prop
 |mk (z:Str) (y:V) (F:Addr->Prop) (d:D) (w:Vl):x=.str z->xs=[y]->Dom F H->RepB Z F H d y->smD f z d=.ok w->PostV Z F H Q w->rSm Z f x xs H Q
theorem jei {Z:Kn}{F:Addr->Prop}{H:Hp}:∀{ds:List D}{ys:List Str}{vs:List V},jba ds=some ys->Reps Z F H ds vs->vs=ys.map V.str
 |[],ys,vs,h,r=>by simp only[Reps]at r;subst r;cases h;rfl
 |d::ds,ys,vs,h,r=>by
  simp only[Reps]at r;obtain⟨v,us,rfl,r1,r2⟩:=r;cases d with
  |str x=>
   simp only[jba]at h;cases q:jba ds with
   |none=>rw[q]at h;cases h
   |some ms=>
    rw[q]at h;cases h;simp only[Rep]at r1;rw[r1,jei q r2];rfl
  |_=>cases h
theorem jfd {Z:Kn}{F:Addr->Prop}{H:Hp}:∀{ys:List Str},Reps Z F H (ys.map D.str) (ys.map V.str)
 |[]=>by simp only[List.map_nil,Reps]
 |y::ys=>.cons (by simp only[Rep]) (jfd (ys:=ys))
theorem jry (hZ:X.K=Z.K){f:Sm}{nm:Str}(hf:jtN nm=some f){o a:Expr}{Eo Ea:E}{apos cpos:Pos}(So:PE X o (tE Z X B (evE G U Eo)))(Sa:PE X a (tE Z X B (evE G U Ea)))(ns:∀e q,a≠.Starred e q)
  (hbase:attributeBase o nm X.env (eval o X.env)=eval o X.env) (hline:(apos.endLine == cpos.line)=true):PE X (.Call (.Attribute o nm apos) [a] [] cpos) (tE Z X B (evE G U (.sm f Eo Ea))):=by
 have key:∀{id:String},Slot "str" nm id->typeOf (.builtin id)=pure (.type "method_descriptor")->MtR X id (rSm Z f)->PE X (.Call (.Attribute o nm apos) [a] [] cpos) (tE Z X B (evE G U (.sm f Eo Ea))):=fun {id} slot hty hm=>by
  refine PE.imp (joj PySem.F.plainAttrs_str slot hty hm So (jau Sa ja9 (jad ns)) hbase (by rw[jad ns];rfl) hline (jad ns) rfl) fun σ H Q h=>?_
  obtain⟨F,ρ,r,q⟩:=h;simp only[evE]at q;refine⟨F,ρ,r,q.bind.imp (fun _ w=>w) fun p h1 v F1 H1 g1 r1 rv=>?_⟩;obtain⟨w,ρ1⟩:=p;cases w with
  |dat d=>
   cases d with
   |str z=>
    have rv:Rep Z F1 H1 (.str z) v:=rv;simp only[Rep]at rv;subst rv;refine⟨rfl,F1,ρ1,r1,Ok.imp (Ok.bind h1) (fun c w=>w.mono g1) fun q h2 u F2 H2 g2 r2 ru=>?_⟩;obtain⟨d,ed,h3⟩:=h2.bind.pure fun c=>jaC;obtain⟨w,ew,h4⟩:=h3.bind.pure fun c=>jkh;exact⟨z,u,F2,d,w,rfl,rfl,r2.dom,jaY ru r2 ed,ew,Post.toV h4 (g1.trans g2) r2 fun i z=>jhd (by rw[ew,z])⟩
   |_=>exact False.elim h1
  |_=>exact False.elim h1
 rcases jar hf with ⟨e,hf⟩ | hf
 ·cases hf;cases jbU e;refine key PySem.F.slot_str_join PySem.F.type_str_join fun pins s σ H x xs v us Q I rx rs h=>?_;obtain⟨z,y,F,d,w,rfl,rfl,dm,rp,hw,h⟩:=h;cases d with
  |lst ds=>
   simp only[smD]at hw;cases e:jba ds with
   |none=>rw[e]at hw;cases hw
   |some ys=>
    rw[e]at hw;obtain⟨hl,rfl⟩:=jbj hw;obtain⟨p,vs,rfl,sq,r⟩:=rp.lst;cases jei e r;exact joq pins s σ H _ _ v us Q I rx rs ⟨z,p,ys,rfl,rfl,(by rw[hZ];exact sq),hl,h.sc dm (by simp only[Rep])⟩
  |_=>cases hw
 rcases jar hf with ⟨e,hf⟩ | hf
 ·cases hf;cases jbU e;refine key PySem.F.slot_str_count PySem.F.type_str_count fun pins s σ H x xs v us Q I rx rs h=>?_;obtain⟨z,y,F,d,w,rfl,rfl,dm,rp,hw,h⟩:=h;cases d with
  |str y=>cases hw;cases rp.str;exact jlB pins s σ H _ _ v us Q I rx rs ⟨z,y,rfl,rfl,h.int dm⟩
  |_=>cases hw
 rcases jar hf with ⟨e,hf⟩ | hf
 ·cases hf;cases jbU e;refine key PySem.F.slot_str_split PySem.F.type_str_split fun pins s σ H x xs v us Q I rx rs h=>?_;obtain⟨z,y,F,d,w,rfl,rfl,dm,rp,hw,h⟩:=h;cases d with
  |str y=>
   obtain⟨hl,rfl⟩:=jbj hw;cases rp.str;simp only[jvc,bne_iff_ne]at hl;exact jlC pins s σ H _ _ v us Q I rx rs ⟨z,y,rfl,rfl,by simpa using hl.1.1,jaV hl.1.2,jaV hl.2,fun p hp=>h.lst dm jfd p hp⟩
  |_=>cases hw
 rcases jar hf with ⟨e,hf⟩ | hf
 ·cases hf;cases jbU e;refine key PySem.F.slot_str_zfill PySem.F.type_str_zfill fun pins s σ H x xs v us Q I rx rs h=>?_;obtain⟨z,y,F,d,w,rfl,rfl,dm,rp,hw,h⟩:=h;cases d with
  |int i=>
   obtain⟨hl,rfl⟩:=jbj hw;cases rp.int;exact jlH pins s σ H _ _ v us Q I rx rs ⟨z,i,rfl,rfl,hl,h.sc dm (by simp only[Rep])⟩
  |_=>cases hw
 exact jae hf
theorem jki {K:Frag}{H:Hp}{I a:Addr}{o:HO}{vs:List V}(h:SqL K H a vs)(hn:H I=none):SqL K (upd H I o) a vs:=by
 rcases h with (h | ⟨u,h⟩) | h
 ·exact .inl (.inl (by rw[jac (jab h hn)];exact h))
 ·exact .inl (.inr ⟨u,by rw[jac (jab h hn)];exact h⟩)
 ·exact .inr h
noncomputable def jmu (X:Cx):List V->Hp->VK->Prop:=fun xs H Q=>∃p ys,xs=[.ref p]/\SqL X.K H p ys/\∀I,H I=none->Q (.ref I) (upd H I (.ext (jfS X I p ys.length)))
noncomputable def jrz (X:Cx):List V->Hp->VK->Prop:=fun xs H Q=>∃I p ys,xs=[.ref I]/\H I=some (.ext (jfS X I p ys.length))/\SqL X.K H p ys/\∀l,del H I l=none->Q (.ref l) (upd (del H I) l (.tup ys.reverse))
theorem jpk {K:Frag}{H:Hp}{I a:Addr}{o:HO}{vs:List V}(h:SqT K H a vs)(hn:H I=none):SqT K (upd H I o) a vs:=by
 rcases h with (h | ⟨u,h⟩) | h
 ·exact .inl (.inl (by rw[jac (jab h hn)];exact h))
 ·exact .inl (.inr ⟨u,by rw[jac (jab h hn)];exact h⟩)
 ·exact .inr h
noncomputable def jtO (X:Cx):List V->Hp->VK->Prop:=fun xs H Q=>∃p ys,xs=[.ref p]/\SqT X.K H p ys/\∀I,H I=none->Q (.ref I) (upd H I (.ext (RT.Phi X I p ys.length)))
noncomputable def jtP (X:Cx):List V->Hp->VK->Prop:=fun xs H Q=>∃I p ys,xs=[.ref I]/\H I=some (.ext (RT.Phi X I p ys.length))/\SqT X.K H p ys/\∀l,del H I l=none->Q (.ref l) (upd (del H I) l (.tup ys.reverse))
noncomputable def rAI (X:Cx):List V->Hp->VK->Prop:=fun xs H Q=>jmu X xs H Q\/jtO X xs H Q
noncomputable def rAT (X:Cx):List V->Hp->VK->Prop:=fun xs H Q=>jrz X xs H Q\/jtP X xs H Q
theorem jmv:CallR X (.type "reversed") (rAI X):=(show CallR X (.type "reversed") (jmu X)from jbX).or (show CallR X (.type "reversed") (jtO X)from RT.jdf)
theorem jmw (hc:X.calm=true):CallR X (.type "tuple") (rAT X):=(show CallR X (.type "tuple") (jrz X)from jde hc).or (show CallR X (.type "tuple") (jtP X)from RT.jdX hc)
theorem jpl (hZ:X.K=Z.K):∀x H Q,rD1 Z (bfD .revt) x H Q->rAI X [x] H fun v H'=>rAT X [v] H' Q:=by
 intro x H Q hz1;obtain⟨F,d,w,dm,rp,hw,h⟩:=hz1;cases d with
 |lst xs=>
  cases hw;obtain⟨a,vs,rfl,ft,r⟩:=rp.lst;have sq:SqL X.K H a vs:=by rw[hZ];exact ft
  refine .inl ⟨a,vs,rfl,sq,fun I hI=>.inl ⟨I,a,vs,rfl,jak,jki sq hI,fun l hl=>?_⟩⟩;rw[jfR hI]at hl ⊢;exact h.tup dm r.reverse l hl
 |tup xs=>
  cases hw;obtain⟨a,vs,rfl,ft,r⟩:=rp.tup;have sq:SqT X.K H a vs:=by rw[hZ];exact ft.sq
  refine .inr ⟨a,vs,rfl,sq,fun I hI=>.inr ⟨I,a,vs,rfl,jak,jpk sq hI,fun l hl=>?_⟩⟩;rw[jfR hI]at hl ⊢;exact h.tup dm r.reverse l hl
 |_=>cases hw
noncomputable def jpm (f g:Str):Option Bf:=
 alt (f == "tuple" && g == "reversed") (some .revt) <|
 none
theorem jrA {a b c d:Str}(h:(a == b && c == d)=true):a=b/\c=d:=by simpa using h
theorem jmx (D:XD T G U Z m X sc)(hq:T.quiet=false){f g:Str}{bf:Bf}{b:Expr}{E1:E}{p p2 pos pos2:Pos}(hf:knd sc f=2)(hb:jdi f=false)(hg:knd sc g=2)(hb2:jdi g=false)(S:PE X b (tE Z X B (evE G U E1)))(ns:∀e q,b≠.Starred e q)(hn:jpm f g=some bf) :
  PE X (.Call (.Name f p) [.Call (.Name g p2) [b] [] pos2] [] pos) (tE Z X B (evE G U (.blt bf E1))):=by
 have hc:X.calm=true:=D.calm hq;have hpa:PA X [b] (ji0 (tE Z X B (evE G U E1)) jqd):=jau S ja9 (jad ns);have he:starEach [b] X.env=(false,eval b X.env)::starEach [] X.env:=jad ns;have ns2:∀e q,(.Call (.Name g p2) [b] [] pos2:Expr)≠.Starred e q:=fun e q z=>by cases z
 have he2:starEach [.Call (.Name g p2) [b] [] pos2] X.env=(false,eval (.Call (.Name g p2) [b] [] pos2) X.env)::starEach [] X.env:=jad ns2;have hd:=(je8 hb).1;have hnm:=(je8 hb).2;have hd2:=(je8 hb2).1;have hnm2:=(je8 hb2).2;rcases jar hn with ⟨e,hn⟩ | hn
 ·cases hn;obtain⟨rfl,rfl⟩:=jrA e;have pin:=jbf (p:=p2) (pos:=pos2) jmv (D.gl hg) (D.blt _ (by decide +kernel)) (by decide +kernel) hpa hnm2 hd2 he rfl
  exact PE.imp (jbf (p:=p) (pos:=pos) (jmw hc) (D.gl hf) (D.blt _ (by decide +kernel)) (by decide +kernel) (jau pin ja9 he2) hnm hd he2 rfl) fun σ H Q q=>tE.blt (f:=.revt) (rr:=fun xs H Q=>rAI X xs H fun v H'=>rAT X [v] H' Q) (jpl D.hK) q
 exact jae hn
noncomputable def rJn (X:Cx):V->List V->Hp->VK->Prop:=fun x xs H Q=>∃(z:Str) (I p:Addr) (ys:List Str),x=.str z/\xs=[.ref I]/\H I=some (.ext (jfS X I p ys.length))/\SqL X.K H p (ys.map V.str)/\(ys.map (·.length)).sum + ys.length * z.length<=16777216/\Q (.str (Txt.join z ys.reverse)) (del H I)
theorem jrB (hZ:X.K=Z.K){x u:V}{H:Hp}{Q:VK}(h:rSm Z .rjn x [u] H Q):jmu X [u] H fun v H'=>rJn X x [v] H' Q:=by
 obtain⟨z,y,F,d,w,rfl,e,dm,rp,hw,h⟩:=h;cases e;cases d with
 |lst ds=>
  simp only[smD]at hw;cases e:jba ds with
  |none=>rw[e]at hw;cases hw
  |some ys=>
   rw[e]at hw;obtain⟨hl,rfl⟩:=jbj hw;obtain⟨a,vs,rfl,ft,r⟩:=rp.lst;cases jei e r;have sq:SqL X.K H a (ys.map V.str):=by rw[hZ];exact ft
   refine⟨a,ys.map V.str,rfl,sq,fun I hI=>⟨z,I,a,ys,rfl,rfl,by rw[jak,juA],jki sq hI,hl,?_⟩⟩
   rw[jfR hI];exact h.sc dm (by simp only[Rep])
 |_=>cases hw
theorem jpn (D:XD T G U Z m X sc)(hq:T.quiet=false){o b:Expr}{Eo E1:E}{p2 pos2 apos cpos:Pos}(hg:knd sc "reversed"=2)(hb2:jdi "reversed"=false)(So:PE X o (tE Z X B (evE G U Eo)))(S:PE X b (tE Z X B (evE G U E1)))(ns:∀e q,b≠.Starred e q)
  (hbase:attributeBase o "join" X.env (eval o X.env)=eval o X.env) (hline:(apos.endLine == cpos.line)=true):PE X (.Call (.Attribute o "join" apos) [.Call (.Name "reversed" p2) [b] [] pos2] [] cpos) (tE Z X B (evE G U (.sm .rjn Eo E1))):=by
 have hc:X.calm=true:=D.calm hq;have he:starEach [b] X.env=(false,eval b X.env)::starEach [] X.env:=jad ns;have ns2:∀e q,(.Call (.Name "reversed" p2) [b] [] pos2:Expr)≠.Starred e q:=fun e q z=>by cases z
 have he2:starEach [.Call (.Name "reversed" p2) [b] [] pos2] X.env=(false,eval (.Call (.Name "reversed" p2) [b] [] pos2) X.env)::starEach [] X.env:=jad ns2;have pin:=jbf (p:=p2) (pos:=pos2) (show CallR X (.type "reversed") (jmu X)from jbX) (D.gl hg) (D.blt _ (by decide +kernel)) (by decide +kernel) (jau S ja9 he) (je8 hb2).2 (je8 hb2).1 he rfl
 refine PE.imp (joj PySem.F.plainAttrs_str PySem.F.slot_str_join PySem.F.type_str_join (show MtR X "str.join" (rJn X)from jlG hc) So (jau pin ja9 he2) hbase (by rw[he2];rfl) hline he2 rfl) fun σ H Q h=>?_
 obtain⟨F,ρ,r,q⟩:=h;simp only[evE]at q;refine⟨F,ρ,r,q.bind.imp (fun _ w=>w) fun p h1 v F1 H1 g1 r1 rv=>?_⟩;obtain⟨w,ρ1⟩:=p;cases w with
 |dat d=>
  cases d with
  |str z=>
   have rv:Rep Z F1 H1 (.str z) v:=rv;simp only[Rep]at rv;subst rv;refine⟨rfl,F1,ρ1,r1,Ok.imp (Ok.bind h1) (fun c w=>w.mono g1) fun q h2 u F2 H2 g2 r2 ru=>?_⟩;obtain⟨d,ed,h3⟩:=h2.bind.pure fun c=>jaC;obtain⟨w,ew,h4⟩:=h3.bind.pure fun c=>jkh;exact jrB D.hK ⟨z,u,F2,d,w,rfl,rfl,r2.dom,jaY ru r2 ed,ew,Post.toV h4 (g1.trans g2) r2 fun i z=>jhd (by rw[ew,z])⟩
  |_=>exact False.elim h1
 |_=>exact False.elim h1
end
end DJ
namespace DJ
open PySem PySem.Spec PyProof.Rows L2
noncomputable def jtQ:Operator->Option Op
 |.Add=>some .add | .Sub=>some .sub | .Mult=>some .mul | .FloorDiv=>some .fdiv | .Mod=>some .mod | .Pow=>some .pow
 |_=>none
noncomputable def jtR:CmpOp->Option Cm
 |.Eq=>some .eq | .NotEq=>some .ne | .Lt=>some .lt | .LtE=>some .le | .Gt=>some .gt | .GtE=>some .ge | .Is=>some .isn | .IsNot=>some .notn
 |.In=>some .isin | .NotIn=>some .notin
noncomputable def jc7 (e:Expr):Option (List Str×Bool):=joX (jla e) (fun x=>some ([x],true)) ((joY e).bind fun es=>(mapO jla es).map fun xs=>(xs,false))
theorem jkj {e:Expr}{xs:List Str}{one:Bool}(h:jc7 e=some (xs,one)):(∃x p,e=.Name x p/\xs=[x]/\one=true)\/∃es k p,e=.Tuple es k p/\mapO jla es=some xs/\one=false:=by
 replace h:=jbQ h;rcases h with ⟨x,hx,h⟩ | h
 ·obtain⟨p,rfl⟩:=jbx hx;cases h;exact .inl ⟨x,p,rfl,rfl,rfl⟩
 ·replace h:=jaf h;obtain⟨es,he,h⟩:=h;obtain⟨k,p,rfl⟩:=je7 he;replace h:=jap h;obtain⟨ys,hy,h⟩:=h;cases h;exact .inr ⟨es,k,p,rfl,hy,rfl⟩
noncomputable def ndp (xs:List Str):Bool:=match xs with
 |[]=>true
 |x::r=>!r.contains x && ndp r
noncomputable def jdC:Expr->Option (Str×List Expr)
 |.Call f as ks _=>gd (!ks.isEmpty) ((jla f).map fun x=>(x,as))
 |_=>none
theorem jbS {e:Expr}{p:Str×List Expr}(h:jdC e=some p):∃np pos,e=.Call (.Name p.1 np) p.2 [] pos:=by
 cases e with
 |Call f as ks pos=>
  replace h:=jal h;obtain⟨hk,h⟩:=h;replace h:=jap h;obtain⟨x,hx,rfl⟩:=h;obtain⟨np,rfl⟩:=jbx hx;cases jcf hk;exact⟨np,pos,rfl⟩
 |_=>exact jae h
section
variable (T:Tab)
noncomputable def js3 (tr:Expr->Option E)(as:List Expr):Option It:=match as with
 |[a]=>(tr a).map .rng1
 |_=>none
noncomputable def isB (sc:List (Str×NameKind))(f:Str):Bool:=knd sc f == 2 && (jed T.defs f).isNone
noncomputable def jtS (sc:List (Str×NameKind))(tr:Expr->Option E)(one:Bool)(e:Expr)(c:Str×List Expr):Option It:=
 alt (c.1 == "range" && isB T sc c.1) (js3 tr c.2) <|
 alt (c.1 == "zip" && isB T sc c.1) (gd one ((jtL c.2).bind fun p=>o2 (tr p.1) (tr p.2) .zip)) <|
 (tr e).map .seq
noncomputable def jqh (sc:List (Str×NameKind))(tr:Expr->Option E)(one:Bool)(e:Expr):Option It:=match jdC e with
 |some c=>jtS T sc tr one e c
 |none=>(tr e).map .seq
noncomputable def js4 (tr:Expr->Option E):Option Expr->Option Oe
 |none=>some Oe.none
 |some e=>(tr e).map Oe.some
noncomputable def jkk (tr:Expr->Option E):List Expr->Option Oe
 |[]=>some Oe.none
 |[k]=>(tr k).map Oe.some
 |_=>none
noncomputable def jkl (sc:List (Str×NameKind))(f:Str)(as:List Expr):Option (Bf×Expr):=
 (jh0 as).bind fun c=>(jdC c).bind fun p=>(jh0 p.2).bind fun b=>gd (T.quiet || jdi p.1 || knd sc p.1 != 2 || (jed T.defs p.1).isSome) ((jpm f p.1).map fun bf=>(bf,b))
noncomputable def juf:Const->Option D
 |.none=>some .non
 |.bool v=>some (.bl v)
 |.int i=>some (.int i)
 |.str x=>some (.str x)
 |_=>none
noncomputable def js5 (sc:List (Str×NameKind))(N:List Str)(x:Str):Option E:=
 gd (jdi x) (alt (knd sc x == 1) ((jed N x).map .var) (gd (knd sc x != 2) ((T.cons.lookup x).map .lit)))
noncomputable def unE:UnaryOp->Option (E->E)
 |.Not=>some .not
 |_=>none
noncomputable def boE:PySem.BoolOp->E->E->E
 |.And=>.and
 |.Or=>.or
noncomputable def jpo:Expr->Option (Option Expr×Option Expr×Option Expr)
 |.Slice a b c _=>some (a,b,c)
 |_=>none
theorem jkm {e:Expr}{p:Option Expr×Option Expr×Option Expr}(h:jpo e=some p):∃q,e=.Slice p.1 p.2.1 p.2.2 q:=by
 cases e with
 |Slice a b c q=>cases h;exact⟨q,rfl⟩
 |_=>exact jae h
noncomputable def js6:Expr->Option (Expr×Str×Pos)
 |.Attribute v m p=>some (v,m,p)
 |_=>none
theorem jhe {e:Expr}{p:Expr×Str×Pos}(h:js6 e=some p):e=.Attribute p.1 p.2.1 p.2.2:=by
 cases e with
 |Attribute v m p=>cases h;rfl
 |_=>exact jae h
noncomputable def js7 (tr:Expr->Option E)(a i:Expr):Option E:=match jpo i with
 |none=>o2 (tr a) (tr i) .idx
 |some p=>gd p.2.2.isSome (o3 (tr a) (js4 tr p.1) (js4 tr p.2.1) .slc)
noncomputable def jug (sc:List (Str×NameKind))(tr:Expr->Option E)(f:Str)(a b:Expr):Option E:=
 alt (f == "isinstance") ((jj9 T sc b).bind fun ks=>gd (!decide (ks.length<=100)) ((tr a).map fun a=>.isi a ks)) <|
 none
noncomputable def js8 (sc:List (Str×NameKind))(tr:Expr->Option E)(f:Str)(as:List Expr):Option E:=match jkl T sc f as with
 |some p=>(tr p.2).map (.blt p.1)
 |none=>match as with
  |[a]=>o2 (jtM T.quiet f) (tr a) .blt
  |[a,b]=>jug T sc tr f a b
  |_=>none
noncomputable def js9 (sc:List (Str×NameKind))(tr:Expr->Option E)(f:Str)(as:List Expr):Option E:=
 gd (jdi f || knd sc f != 2) (match jed T.defs f with
  |some k=>gd T.quiet ((mapO tr as).map fun es=>.call k ((T.flags[k]?).getD []) (jg4 es))
  |none=>js8 T sc tr f as)
noncomputable def jkn:Expr->Bool
 |.Name _ _=>true
 |.Constant _ _ _=>true
 |.Call _ (_::_) _ _=>true
 |_=>false
theorem jko {o:Expr}{nm:Str}{env:Env}(h:jkn o=true):attributeBase o nm env (eval o env)=eval o env:=by
 cases o with
 |Name _ _=>rfl
 |Constant _ _ _=>rfl
 |Call f as ks p=>cases as with
  |nil=>cases h
  |cons a as=>
   unfold attributeBase;split
   ·rename_i e;cases e
   ·rfl
 |_=>cases h
noncomputable def jtT (sc:List (Str×NameKind))(nm:Str)(as:List Expr):Option Expr:=
 gd (!(nm == "join")) ((jh0 as).bind fun c=>(jdC c).bind fun q=>(jh0 q.2).bind fun b=>gd (T.quiet || jdi q.1 || knd sc q.1 != 2 || !(q.1 == "reversed")) (some b))
noncomputable def juh (sc:List (Str×NameKind))(N:List Str)(tr:Expr->Option E)(as:List Expr)(pos:Pos)(p:Expr×Str×Pos):Option E:=
 joX (jtT T sc p.2.1 as) (fun b=>gd (!jkn p.1 || !(p.2.2.endLine == pos.line)) (o2 (tr p.1) (tr b) (.sm .rjn))) <|
 joX (jtN p.2.1) (fun sf=>gd (!jkn p.1 || !(p.2.2.endLine == pos.line)) ((jh0 as).bind fun a=>o2 (tr p.1) (tr a) (.sm sf))) <|
 none
noncomputable def fnE (sc:List (Str×NameKind))(N:List Str)(tr:Expr->Option E)(as:List Expr)(pos:Pos)(f:Expr):Option E:=
 joX (jla f) (fun f=>js9 T sc tr f as) <| (js6 f).bind (juh T sc N tr as pos)
noncomputable def jrC (sc:List (Str×NameKind))(scope:Scope)(xs cn:List Str):Bool:=
 T.quiet || !(scope.kind == .function) || !(scope.names.all fun p=>p.2 != .cell || scope.names.lookup p.1 == some .cell) || !(scope.names.all fun p=>p.2 != .local || scope.names.lookup p.1 == some .local)
     || !(ndp (xs++cn)) || !(xs.all fun x=>scope.names.lookup x == some .local || scope.names.lookup x == some .cell) || !(cn.all fun x=>scope.names.lookup x == some .free && (sc.lookup x == some .cell || sc.lookup x == some .free))
noncomputable def jdj (scope:Scope):List Str:=(scope.names.filter fun p=>p.2 == .free).map (·.1)
noncomputable def jrD (tr trI:List (Str×NameKind)->List Str->Expr->Option E)(sc:List (Str×NameKind))(N:List Str)(elt:Expr)(scope:Scope)(g:Comprehension):Option E:=
 gd (!(g.is_async == 0)) ((jc7 g.target).bind fun p=>gd (jrC T sc scope p.1 (jdj scope)) (o4 (mapO (jed N) (jdj scope)) (jqh T sc (tr sc N) p.2 g.iter) (trI scope.names (p.1++jdj scope) elt) (jkk (trI scope.names (p.1++jdj scope)) g.ifs)
  fun caps it elt c=>.comp elt (List.range p.1.length) p.2 p.1.length caps it c (!T.deep)))
noncomputable def jui (tr trI:List (Str×NameKind)->List Str->Expr->Option E)(sc:List (Str×NameKind))(N:List Str):Expr->Option E
 |.Constant c _ _=>(juf c).map .lit
 |.Name x _=>js5 T sc N x
 |.BinOp l o r _=>o3 (jtQ o) (tr sc N l) (tr sc N r) .bin
 |.UnaryOp o a _=>o2 (unE o) (tr sc N a) fun f a=>f a
 |.BoolOp o vs _=>(mapO (tr sc N) vs).bind (je9 (boE o))
 |.Compare a os cs _=>o2 (jh0 os) (jh0 cs) Prod.mk |>.bind fun p=>gd (behindInMarks p.1 p.2) (o3 (jtR p.1) (tr sc N a) (tr sc N p.2) .cmp)
 |.IfExp c a b _=>o3 (tr sc N c) (tr sc N a) (tr sc N b) .ite
 |.Tuple es _ _=>(mapO (tr sc N) es).map fun es=>.tup (jg4 es)
 |.List es _=>(mapO (tr sc N) es).map fun es=>.lst (jg4 es)
 |.Subscript a i _=>js7 (tr sc N) a i
 |.Call f as ks pos=>gd (!ks.isEmpty) (fnE T sc N (tr sc N) as pos f)
 |.ListComp elt gens scope _=>(jh0 gens).bind (jrD T tr trI sc N elt scope)
 |_=>none
end
noncomputable def trE:Tab->Nat->List (Str×NameKind)->List Str->Expr->Option E
 |_,0=>fun _ _ _=>none
 |T,n + 1=>jui T (trE T n) (trE { T with deep:=true } n)
theorem jpp {op:Operator}{o:Op}(h:jtQ op=some o):op=o.py:=by cases op <;> cases h <;> rfl
theorem jpq {op:CmpOp}{o:Cm}(h:jtR op=some o):op=o.py:=by cases op <;> cases h <;> rfl
noncomputable def Lr {α:Type}(r r':R α):Prop:=r=.stk\/r=r'
theorem Lr.refl {α:Type}{r:R α}:Lr r r:=.inr rfl
theorem Lr.bind {α β:Type}{r r':R α}{f g:α->R β}(h:Lr r r')(k:∀a,Lr (f a) (g a)):Lr (r.bind f) (r'.bind g):=by
 rcases h with rfl | rfl
 ·exact .inl rfl
 ·cases r with
  |ok a=>exact k a
  |err c=>exact .inr rfl
  |stk=>exact .inl rfl
theorem Lr.ok {α:Type}{W:Nat->Prop}{r r':R α}{Q:α->Prop}(h:Lr r r')(q:Ok W r Q):Ok W r' Q:=by
 rcases h with rfl | rfl
 ·exact False.elim q
 ·exact q
theorem Lr.deref {v:Vl}{ρ:Rho}:Lr (deref v []) (deref v ρ):=by
 cases v with
 |dat d=>exact .inr rfl
 |tmp o=>exact .inr rfl
 |slot i=>exact .inl (by simp[DJ.deref])
structure Says (G:Calls)(U:Nat->Nat->Bool)(Z:Kn)(X:Cx)(e:Expr)(E':E):Prop where
 pe:∀B,PE X e (tE Z X B (evE G U E'))
 pt:∀B,PT X e (tT Z X B (evT G U E'))
 ns:∀a p,e≠.Starred a p
section
variable {T:Tab}{G:Calls}{U:Nat->Nat->Bool}{Z:Kn}{m:Nat}{X:Cx}{sc:List (Str×NameKind)}
theorem jhf {α β:Type}{f:α->Option β}:∀{as:List α}{bs:List β},mapO f as=some bs->as.length=bs.length
 |[],bs,h=>by cases h;rfl
 |a::as,bs,h=>by
  obtain⟨b,bs',_,h2,rfl⟩:=jax h;rw[juB,juB,jhf h2]
theorem jb5 {α β:Type}{f:α->Option β}{P:α->β->Prop}(k:∀a b,f a=some b->P a b):∀{as:List α}{bs:List β},mapO f as=some bs->Paired P as bs
 |[],bs,h=>by cases h;exact .nil
 |a::as,bs,h=>by
  obtain⟨b,bs',h1,h2,rfl⟩:=jax h;exact .cons (k a b h1) (jb5 k h2)
theorem jhg {α β:Type}{f:α->Option β}:∀{as:List α}{bs:List β}{i:Nat}{a:α}{b:β},mapO f as=some bs->as[i]?=some a->bs[i]?=some b->f a=some b
 |[],_,_,_,_,_,e,_=>by simp at e
 |x::as,bs,i,a,b,h,e1,e2=>by
  obtain⟨y,bs',h1,h2,rfl⟩:=jax h;cases i with
  |zero=>simp at e1 e2;rw[<-e1,<-e2];exact h1
  |succ i=>exact jhg h2 (by simpa using e1) (by simpa using e2)
theorem Says.mk' (hK:X.K=Z.K){e:Expr}{E':E}(pe:∀B,PE X e (tE Z X B (evE G U E')))(he:∀whole,isTrue e X.env whole=(do let v <-whole;standAt e.pos;holding [v] (truthy v)))(ns:∀a p,e≠.Starred a p)(hl:∀ρ,Lr (evT G U E' ρ) (trF (evE G U E') ρ)):Says G U Z X e E':=
 ⟨pe,fun B=>PT.imp (jsY hK (pe B) he) fun σ H Q ⟨F,ρ,r,q⟩=>⟨F,ρ,r,(hl ρ).ok q⟩,ns⟩
theorem Lr.none {α:Type}{r:R α}:Lr .stk r:=.inl rfl
theorem jhh {n:Nat}(D:XD T G U Z m X sc)(ih:∀e E',trE T n sc X.N e=some E'->Says G U Z X e E'){iter tg:Expr}{it:It}{one:Bool}(h1:one=false->∃es k pos,tg=.Tuple es k pos)(h:jqh T sc (trE T n sc X.N) one iter=some it)(B:Bs) :
  PI X tg iter (tI Z X B (evI G U it)):=by
 have gen:∀{e:Expr}{it:It},(trE T n sc X.N e).map It.seq=some it->PI X tg e (tI Z X B (evI G U it)):=fun {e it} h=>by
  cases q:trE T n sc X.N e with
  |none=>rw[q]at h;cases h
  |some E'=>
   rw[q]at h;cases h;have:=jru (tg:=tg) D.hK ((ih e E' q).pe B);have ev:(fun ρ=>(evE G U E' ρ).bind fun p=>jbB p.1 p.2)=evI G U (.seq E'):=by funext ρ;simp only[evI]
   rwa [ev]at this
 unfold jqh at h;cases hc:jdC iter with
 |none=>rw[hc]at h;exact gen h
 |some c=>
  rw[hc]at h;obtain⟨p,pos,rfl⟩:=jbS hc;obtain⟨f,as⟩:=c;replace h:jtS T sc (trE T n sc X.N) one _ (f,as)=some it:=h;replace h:=jar h;rcases h with ⟨hf,h⟩ | h
  ·simp only[isB,jvc,beq_iff_eq]at hf;obtain⟨hf,hk,_⟩:=hf;subst hf;cases as with
   |nil=>exact jae h
   |cons a r=>
    cases r with
    |nil=>
     replace h:=jap h;obtain⟨E',q,rfl⟩:=h;have S:=ih a E' q;have:=jpc (tg:=tg) (p:=p) (pos:=pos) (D.gl hk) (D.blt _ (by decide +kernel)) (S.pe B) S.ns
     rwa [show (fun ρ=>(evE G U E' ρ).bind fun p=>(deref p.1 p.2).bind fun x=>(jd8 x).bind fun xs=>R.ok (xs,([]:List Nat),p.2))=evI G U (.rng1 E')by funext ρ;simp only[evI]]at this
    |cons b r=>
     exact jae h
  replace h:=jar h;rcases h with ⟨hf,h⟩ | h
  ·simp only[isB,jvc,beq_iff_eq]at hf;obtain⟨hf,hk,_⟩:=hf;subst hf;replace h:=jal h;obtain⟨ho,h⟩:=h;replace h:=jaf h;obtain⟨⟨a,b⟩,h2,h⟩:=h;cases jme h2;obtain⟨es,k,pos',rfl⟩:=h1 ho;replace h:=jbF h;obtain⟨Ea,Eb,qa,qb,rfl⟩:=h;have Sa:=ih a Ea qa;have Sb:=ih b Eb qb;have:=jpd (es:=es) (n:=k) (pos':=pos') (p:=p) (pos:=pos) D.hK (D.gl hk) (D.blt _ (by decide +kernel)) (Sa.pe B) Sa.ns (Sb.pe B) Sb.ns
   rwa [show (fun ρ=>(evE G U Ea ρ).bind fun p=>(evE G U Eb p.2).bind fun q=>(jaA p.1 q.2).bind fun x=>(jaA q.1 x.2.2).bind fun y=>R.ok (jdx x.1 y.1,x.2.1++y.2.1,y.2.2))=evI G U (.zip Ea Eb)by funext ρ;simp only[evI]]at this
  exact gen h
theorem jdD {n:Nat}{N:List Str}{one:Bool}{iter:Expr}{it:It}(h:jqh T sc (trE T n sc N) one iter=some it):∀a b c,iter≠.Set a b c:=by
 intro a b c z;subst z;cases n with
 |zero=>exact jae h
 |succ n=>exact jae h
theorem jfe:∀{xs:List Str},ndp xs=true->xs.Nodup
 |[],_=>List.nodup_nil
 |x::r,h=>by
  simp only[ndp,jvc,Bool.not_eq_true']at h;refine List.nodup_cons.mpr ⟨fun z=>?_,jfe h.2⟩;rw[List.contains_iff_mem.mpr z]at h;exact absurd h.1 (by decide)
theorem jnK {es:List Expr}{xs:List Str}(h:mapO jla es=some xs):∃ps:List Pos,es.length=xs.length/\ps.length=xs.length/\es=(xs.zip ps).map fun p=>Expr.Name p.1 p.2:=by
 induction es generalizing xs with
 |nil=>cases h;exact⟨[],rfl,rfl,rfl⟩
 |cons e es ih=>
  obtain⟨x,xs',h1,h2,rfl⟩:=jax h;obtain⟨ps,l1,l2,e2⟩:=ih h2;obtain⟨pos,rfl⟩:=jbx h1;exact⟨pos::ps,by simp[l1],by simp[l2],by simp[e2]⟩
theorem jnL {X:Cx}:∀(xs:List Str) (ps:List Pos) (k:Nat),ps.length=xs.length->(∀(i:Nat) x,xs[i]?=some x->X.N[k + i]?=some x/\L2.Loc X.env.scope x/\(X.fn x=true\/X.env.scope.names.lookup x=some .local)) ->
  TgsOk X ((xs.zip ps).map fun p=>Expr.Name p.1 p.2) ((List.range xs.length).map (k + ·))
 |[],_,_,_,_=>.nil
 |x::xs,[],_,h,_=>by simp at h
 |x::xs,p::ps,k,h,hN=>by
  obtain⟨a,b⟩:=hN 0 x rfl;have ih:=jnL (X:=X) xs ps (k + 1) (by simpa using h) fun i y hy=>by
   have:=hN (i + 1) y (by simpa using hy)
   rwa [show k + (i + 1)=k + 1 + i by omega]at this
  rw[juB,List.range_succ_eq_map,juy,List.map_map];have e:(List.range xs.length).map ((k + ·) ∘ Nat.succ)=(List.range xs.length).map (k + 1 + ·):=by
   apply List.map_congr_left;intro i _;show k + (i + 1)=k + 1 + i;omega
  rw[e];exact .cons a b.1 b.2 ih
theorem jff {e:Expr}{env:Env}(h:∀a b c,e≠.Set a b c):∀x,foldedSetIterable e env x=pure x:=fun x=>by
 unfold foldedSetIterable;cases e <;> first | rfl | exact absurd rfl (h _ _ _)
theorem jfg {scope:Scope}{env:Env}{x:Str}(h:scope.names.lookup x=some .local):(relabel scope env).names.lookup x=some .local:=by
 unfold relabel;simp only;rw[ja4 (c:=fun n k=>k == .free && env.scope.kind == .function && env.kindOf n == some .cell),h];rfl
theorem jmy {scope:Scope}{env:Env}{x:Str}(h:scope.names.lookup x=some .cell):(relabel scope env).names.lookup x=some .cell:=by
 unfold relabel;simp only;rw[ja4 (c:=fun n k=>k == .free && env.scope.kind == .function && env.kindOf n == some .cell),h];rfl
structure CompD (X:Cx)(G:Calls)(U:Nat->Nat->Bool)(Z:Kn)(scope:Scope)(N cn:List Str)(nt:Nat)(caps:List Nat)(elt tg iter:Expr)(ks:List Expr)(tgs:List Nat)(one:Bool)(it:It)(fc:Option (Rho->R (Bool×Rho)))(Ee:E):Prop where
 C:CompOk X scope N cn nt caps
 hT:∀s' H' fp E,TgOk (cxComp X N scope s' H' fp E) tg tgs one
 hlow:∀i∈tgs,i < nt
 hi:∀B,PI X tg iter (tI Z X B (evI G U it))
 hE:∀s' H' fp E B',PE (cxComp X N scope s' H' fp E) elt (tE Z (cxComp X N scope s' H' fp E) B' (evE G U Ee))
 hK:(ks=[]/\fc=none)\/∃k g,ks=[k]/\fc=some g/\∀s' H' fp E B',PT (cxComp X N scope s' H' fp E) k (tT Z (cxComp X N scope s' H' fp E) B' g)
 hs:∀x,foldedSetIterable iter X.env x=pure x
theorem jkp {n:Nat}(D:XD T G U Z m X sc)(ih:∀(X:Cx) (sc:List (Str×NameKind)) (e:Expr) (E':E),XD T G U Z m X sc->trE T n sc X.N e=some E'->Says G U Z X e E')(ihI:∀(X:Cx) (sc:List (Str×NameKind)) (e:Expr) (E':E),XD { T with deep:=true } G U Z m X sc->trE { T with deep:=true } n sc X.N e=some E'->Says G U Z X e E')
  {elt tg iter:Expr}{ks:List Expr}{scope:Scope}{xs:List Str}{one:Bool}{caps:List Nat}{it:It}{Ee:E}{Ec:Oe} (htg:jc7 tg=some (xs,one))
  (c1:scope.kind=.function) (c2:∀y∈scope.names,y.2=.cell->scope.names.lookup y.1=some .cell) (c3:∀y∈scope.names,y.2=.local->scope.names.lookup y.1=some .local) (c4:(xs++jdj scope).Nodup)
  (c5:∀x∈xs,scope.names.lookup x=some .local\/scope.names.lookup x=some .cell) (c6:∀x∈jdj scope,scope.names.lookup x=some .free/\(sc.lookup x=some .cell\/sc.lookup x=some .free))
  (hcaps:mapO (jed X.N) (jdj scope)=some caps) (hit:jqh T sc (trE T n sc X.N) one iter=some it) (helt:trE { T with deep:=true } n scope.names (xs++jdj scope) elt=some Ee)
  (hks:jkk (trE { T with deep:=true } n scope.names (xs++jdj scope)) ks=some Ec) (xx:Bool) :
  ∃N cn fc,CompD X G U Z scope N cn xs.length caps elt tg iter ks (List.range xs.length) one it fc Ee /\
   ∀ρ,evE G U (.comp Ee (List.range xs.length) one xs.length caps it Ec xx) ρ=(evI G U it ρ).bind fun t=>((compGo (jcX (List.range xs.length) one xs.length caps fc (evE G U Ee)) t.1 t.2.2).pass xx).bind fun ys=>.ok (.tmp (.l ys.1),unlk t.2.1 ys.2):=by
 generalize hcn:jdj scope=cn at *;have C:CompOk X scope (xs++cn) cn xs.length caps:=by
  refine⟨c1,c2,c3,fun y hy e=>?_,c4,⟨xs,rfl,rfl⟩,jhf hcaps,fun k j x h1 h2=>⟨jaZ (jhg hcaps h1 h2),(c6 x (juD h1)).1⟩⟩;have hm:y.1∈cn:=by
   rw[<-hcn];exact List.mem_map.mpr ⟨y,List.mem_filter.mpr ⟨hy,by simp[e]⟩,rfl⟩
  have:=(c6 y.1 hm).2;rcases D.sc y.1 with z | ⟨_,z⟩
  ·rw[z];exact this
  ·exact .inl z
 have hT:∀s' H' fp E,TgOk (cxComp X (xs++cn) scope s' H' fp E) tg (List.range xs.length) one:=fun s' H' fp E=>by
  have hN:∀(i:Nat) x,xs[i]?=some x->(xs++cn)[i]?=some x/\L2.Loc (relabel scope X.env) x/\((scope.names.lookup x == some .cell)=true\/(relabel scope X.env).names.lookup x=some .local):=fun i x e=>⟨by rw[juI (List.getElem?_eq_some_iff.mp e).1];exact e,(c5 x (juD e)).elim (fun z=>⟨.inl (jfg z),.inr (jfg z)⟩) fun z=>⟨.inr (jmy z),.inl (by rw[z];rfl)⟩⟩
  rcases jkj htg with ⟨x,p,rfl,rfl,rfl⟩ | ⟨es,k,p,rfl,q,rfl⟩
  ·obtain⟨a,b⟩:=hN 0 x rfl;exact .one a b.1 b.2
  ·obtain⟨ps,l1,l2,e⟩:=jnK q;rw[e];have:=jnL (X:=cxComp X (xs++cn) scope s' H' fp E) xs ps 0 l2 fun i x hx=>by
    rw[Nat.zero_add];exact hN i x hx
   simp only[Nat.zero_add,List.map_id']at this;exact .many this
 have hone:one=false->∃es k pos,tg=.Tuple es k pos:=fun ho=>by
  subst ho;rcases jkj htg with ⟨x,p,_,_,z⟩ | ⟨es,k,p,e,_⟩
  ·cases z
  ·exact⟨es,k,p,e⟩
 have hlow:∀i∈List.range xs.length,i < xs.length:=fun i h=>List.mem_range.mp h;have hi:∀B,PI X tg iter (tI Z X B (evI G U it)):=fun B=>jhh (tg:=tg) D (fun e E' h=>ih X sc e E' D h) hone hit B;have hE:∀s' H' fp E B',PE (cxComp X (xs++cn) scope s' H' fp E) elt (tE Z (cxComp X (xs++cn) scope s' H' fp E) B' (evE G U Ee)):=fun s' H' fp E B'=>(ihI (cxComp X (xs++cn) scope s' H' fp E) scope.names elt Ee (D.comp c4) helt).pe B';have hs:=jff (env:=X.env) (jdD hit);cases ks with
 |nil=>
  cases hks;exact⟨xs++cn,cn,none,⟨C,hT,hlow,hi,hE,.inl ⟨rfl,rfl⟩,hs⟩,fun ρ=>by simp only[evE];rfl⟩
 |cons k r=>
  cases r with
  |nil=>
   simp only[jkk]at hks;cases q:trE { T with deep:=true } n scope.names (xs++cn) k with
   |none=>rw[q]at hks;cases hks
   |some Ek=>
    rw[q]at hks;cases hks;exact⟨xs++cn,cn,some (evT G U Ek),⟨C,hT,hlow,hi,hE,.inr ⟨k,evT G U Ek,rfl,rfl,fun s' H' fp E B'=>(ihI (cxComp X (xs++cn) scope s' H' fp E) scope.names k Ek (D.comp c4) q).pt B'⟩,hs⟩,fun ρ=>by simp only[evE];rfl⟩
  |cons k2 r2=>cases hks
end
end DJ
namespace DJ
open PySem PySem.Spec PyProof.Rows L2
variable {T:Tab}{G:Calls}{U:Nat->Nat->Bool}{Z:Kn}{m:Nat}
theorem jfh {n:Nat}{X:Cx}{sc:List (Str×NameKind)}(D:XD T G U Z m X sc)(ih:∀(X:Cx) (sc:List (Str×NameKind)) (e:Expr) (E':E),XD T G U Z m X sc->trE T n sc X.N e=some E'->Says G U Z X e E')(ihI:∀(X:Cx) (sc:List (Str×NameKind)) (e:Expr) (E':E),XD { T with deep:=true } G U Z m X sc->trE { T with deep:=true } n sc X.N e=some E'->Says G U Z X e E')
  {elt:Expr}{gens:List Comprehension}{scope:Scope}{pos:Pos}{E':E} (h:trE T (n + 1) sc X.N (.ListComp elt gens scope pos)=some E') :
  T.quiet=false/\∃tg iter ks N cn nt caps tgs one it fc Ee Ec,gens=[⟨tg,iter,ks,0⟩]/\E'=.comp Ee tgs one nt caps it Ec (!T.deep)/\CompD X G U Z scope N cn nt caps elt tg iter ks tgs one it fc Ee /\
   ∀ρ,evE G U E' ρ=(evI G U it ρ).bind fun t=>((compGo (jcX tgs one nt caps fc (evE G U Ee)) t.1 t.2.2).pass (!T.deep)).bind fun ys=>.ok (.tmp (.l ys.1),unlk t.2.1 ys.2):=by
 obtain⟨⟨tg,iter,ks,a⟩,hg,h⟩:=jaf (show (jh0 gens).bind (jrD T (trE T n) (trE { T with deep:=true } n) sc X.N elt scope)=some E' from h)
 cases jaD hg;replace h:=jal h;obtain⟨ha,h⟩:=h;have ha:a=0:=by simpa using ha
 subst ha;replace h:=jaf h;obtain⟨⟨xs,one⟩,htg,h⟩:=h;replace h:=jal h;obtain⟨hc,h⟩:=h;replace h:=jrj h;obtain⟨caps,it,Ee,Ec,hcaps,hit,helt,hks,rfl⟩:=h;simp only[jrC,Bool.or_eq_false_iff,Bool.not_eq_false',beq_iff_eq]at hc;obtain⟨⟨⟨⟨⟨⟨c0,c1⟩,c2⟩,c3⟩,c4⟩,c5⟩,c6⟩:=hc;obtain⟨N,cn,fc,cd,ev⟩:=jkp (Ec:=Ec) D ih ihI htg c1 (fun y hy z=>by
  have:=List.all_eq_true.mp c2 y hy;rw[z]at this;simpa using this) (fun y hy z=>by
  have:=List.all_eq_true.mp c3 y hy;rw[z]at this;simpa using this) (jfe c4) (fun x hx=>by simpa using List.all_eq_true.mp c5 x hx) (fun x hx=>by simpa using List.all_eq_true.mp c6 x hx) hcaps hit helt hks (!T.deep)
 exact⟨c0,tg,iter,ks,N,cn,xs.length,caps,_,one,it,fc,Ee,Ec,rfl,rfl,cd,ev⟩
theorem jrE {nm:Str}{args:List Expr}{b:Expr}(h:jtT T sc nm args=some b):∃p2 pos2,nm="join"/\args=[.Call (.Name "reversed" p2) [b] [] pos2]/\T.quiet=false/\jdi "reversed"=false/\knd sc "reversed"=2:=by
 replace h:=jal h;obtain⟨hm,h⟩:=h;cases jbU (jbG hm);replace h:=jaf h;obtain⟨c,hc,h⟩:=h;cases jaD hc;replace h:=jaf h;obtain⟨q,hq,h⟩:=h;obtain⟨p2,pos2,rfl⟩:=jbS hq;replace h:=jaf h;obtain⟨b',hb',h⟩:=h;replace h:=jal h;obtain⟨hz,h⟩:=h;cases h;replace hz:=jb4 hz;obtain⟨hz,h4⟩:=hz;replace hz:=jb4 hz;obtain⟨hz,h3⟩:=hz;replace hz:=jb4 hz;obtain⟨h1,h2⟩:=hz;obtain⟨f,as⟩:=q;cases jbU (jbG h4);cases jaD hb';exact⟨p2,pos2,rfl,rfl,h1,h2,jf6 h3⟩
theorem jmz {f:Str}{args:List Expr}{bf:Bf}{b:Expr}(h:jkl T sc f args=some (bf,b)):∃g p2 pos2,args=[.Call (.Name g p2) [b] [] pos2]/\T.quiet=false/\jdi g=false/\knd sc g=2/\jpm f g=some bf:=by
 replace h:=jaf h;obtain⟨c,h1,h⟩:=h;cases jaD h1;replace h:=jaf h;obtain⟨⟨g,as⟩,h2,h⟩:=h;obtain⟨np,pos,rfl⟩:=jbS h2;replace h:=jaf h;obtain⟨b',h3,h⟩:=h;have h3:=jaD h3;replace h:=jal h;obtain⟨hc,h⟩:=h;replace h:=jap h;obtain⟨bf',q,e⟩:=h;cases e;replace hc:=jb4 hc;obtain⟨hc,_⟩:=hc;replace hc:=jb4 hc;obtain⟨hc,c3⟩:=hc;replace hc:=jb4 hc;obtain⟨c1,c2⟩:=hc;refine⟨g,np,pos,?_,c1,c2,jf6 c3,q⟩;rw[show as=[b] from h3]
theorem Says.nt {X:Cx}{e:Expr}{E':E}(pe:∀B,PE X e (tE Z X B (evE G U E')))(hT:∀ρ,evT G U E' ρ=.stk)(ns:∀a p,e≠.Starred a p):Says G U Z X e E':=
 ⟨pe,fun B=>by rw[tT.congr hT];exact jrm,ns⟩
theorem lrB {g:Bf}{Ea:E}(ρ:Rho):Lr (evT G U (.blt g Ea) ρ) (trF (evE G U (.blt g Ea)) ρ):=by
 simp only[evT,trF,evE,R.bind_assoc,R.bind_ok'];exact Lr.refl.bind fun _=>Lr.refl.bind fun _=>Lr.refl.bind fun _=>Lr.deref.bind fun _=>Lr.refl
theorem lrO {o:Op}{a b:E}(ρ:Rho):Lr (evT G U (.bin o a b) ρ) (trF (evE G U (.bin o a b)) ρ):=by
 simp only[evT,trF,evE,R.bind_assoc,R.bind_ok'];exact Lr.refl.bind fun _=>Lr.refl.bind fun _=>Lr.refl.bind fun _=>Lr.refl.bind fun _=>Lr.refl.bind fun _=>Lr.deref.bind fun _=>Lr.refl
theorem jc8:∀(n:Nat) (T:Tab) (X:Cx) (sc:List (Str×NameKind)) (e:Expr) (E':E),XD T G U Z m X sc->trE T n sc X.N e=some E'->Says G U Z X e E':=by
 intro n;induction n with
 |zero=>intro T X sc e E' D h;exact jae h
 |succ n ihT=>
  intro T X sc e E' D h;have ih:=ihT T;have hK:=D.hK;have ih1:∀e E',trE T n sc X.N e=some E'->Says G U Z X e E':=fun e E' h=>ih X sc e E' D h;have lit:∀{e:Expr}{d:DJ.D}{v:V},PE X e (tC v)->(∀whole,isTrue e X.env whole=(do let v <-whole;standAt e.pos;holding [v] (truthy v)))->(∀a p,e≠.Starred a p)->(∀F H,Rep Z F H d v)->Says G U Z X e (.lit d):=fun {e d v} h1 h2 h3 h4=>
   Says.mk' hK (fun B=>jo6 h1 h4) h2 h3 fun ρ=>by simp only[evT,trF,evE,R.bind_ok',deref];exact Lr.refl
  have prd:∀{vs:List Expr}{es:List E},mapO (trE T n sc X.N) vs=some es->∀B,Paired (fun e E'=>PE X e (tE Z X B (evE G U E'))/\PT X e (tT Z X B (evT G U E'))) vs es:=fun q B=>jb5 (fun e E' z=>⟨(ih1 _ _ z).pe B,(ih1 _ _ z).pt B⟩) q;have prn:∀{vs:List Expr}{es:List E},mapO (trE T n sc X.N) vs=some es->∀B,Paired (fun e E'=>PE X e (tE Z X B (evE G U E'))/\∀a p,e≠.Starred a p) vs es:=fun q B=>jb5 (fun e E' z=>⟨(ih1 _ _ z).pe B,(ih1 _ _ z).ns⟩) q;have h0:=h;cases e with
  |Constant c k pos=>
   replace h:=jap h;obtain⟨d,hl,rfl⟩:=h;cases c with
   |none=>cases hl;exact lit jqp (fun _=>rfl) (fun _ _ z=>by cases z) fun _ _=>by simp only[Rep]
   |bool v=>cases hl;exact lit jsu (fun _=>rfl) (fun _ _ z=>by cases z) fun _ _=>by simp only[Rep]
   |int i=>cases hl;exact lit jqo (fun _=>rfl) (fun _ _ z=>by cases z) fun _ _=>by simp only[Rep]
   |str x=>cases hl;exact lit jqq (fun _=>rfl) (fun _ _ z=>by cases z) fun _ _=>by simp only[Rep]
   |_=>exact jae hl
  |Name x pos=>
   replace h:=jal h;obtain⟨hb,h⟩:=h;replace h:=jar h;rcases h with ⟨hk,h⟩ | h
   ·replace h:=jap h;obtain⟨i,q,rfl⟩:=h;refine Says.mk' hK (fun B=>jmk (pos:=pos) D (by simpa using hk) (jaZ q) hb) (fun _=>rfl) (fun _ _ z=>by cases z) fun ρ=>?_
    simp only[evT,trF,evE];cases e:ρ[i]? with
    |none=>exact Lr.none
    |some s=>
     cases s with
     |no=>exact Lr.none
     |_=>simp only[R.bind_ok',deref,e];exact Lr.refl
   ·replace h:=jal h;obtain⟨hk,h⟩:=h;replace h:=jap h;obtain⟨d,q,rfl⟩:=h;obtain⟨u,v,hm,rv,rp⟩:=D.cons x d q;exact lit (jiU (D.gl (jf6 hk)) hm rv (je8 hb).1) (fun _=>rfl) (fun _ _ z=>by cases z) rp
  |BinOp l op r pos=>
   replace h:=jc0 h;obtain⟨o,El,Er,ho,hl,hr,rfl⟩:=h;have Sl:=ih1 _ _ hl;have Sr:=ih1 _ _ hr;cases jpp ho;refine Says.mk' hK (fun B=>PE.imp (jsD (jsV hK o) (Sl.pe B) (Sr.pe B)) fun σ H Q q=>tE.two (fun _ _ _=>joS) (fun _ _ _=>jl8) (by simpa only[evE] using q)) (fun _=>rfl) (fun _ _ z=>by cases z) lrO
  |UnaryOp o a pos=>
   replace h:=jbF h;obtain⟨f,Ea,ho,q,rfl⟩:=h;have S:=ih1 _ _ q;cases o with
   |Not=>
    cases ho;exact⟨fun B=>PE.imp (jqx (S.pe B)) fun σ H Q z=>jo0 (by simpa only[evE] using z),fun B=>PT.imp (jqt (S.pt B)) fun σ H Q z=>jmg (by simpa only[evT] using z),fun _ _ z=>by cases z⟩
   |_=>exact jae ho
  |BoolOp o vs pos=>
   replace h:=jaf h;obtain⟨es,q,h⟩:=h;cases o with
   |And=>exact⟨fun B=>(jjY (prd q B) h).1,fun B=>(jjY (prd q B) h).2.pt,fun _ _ z=>by cases z⟩
   |Or=>exact⟨fun B=>(jnF (prd q B) h).1,fun B=>(jnF (prd q B) h).2.pt,fun _ _ z=>by cases z⟩
  |Compare a os cs pos=>
   replace h:=jaf h;obtain⟨⟨op,c⟩,h1,h⟩:=h;replace h1:=jbF h1;obtain⟨op',c',e1,e2,e3⟩:=h1;cases e3;cases jaD e1;cases jaD e2;replace h:=jal h;obtain⟨hmk,h⟩:=h;replace h:=jc0 h;obtain⟨o,Ea,Ec,ho,ha,hc,rfl⟩:=h;have Sa:=ih1 _ _ ha;have Sc:=ih1 _ _ hc;cases jpq ho;have ok:=jsX (X:=X) hK D.un o;have be:∀x y c,bD (cmD o) x y≠.err c:=fun x y c z=>by
    unfold bD at z;cases e:cmD o x y with
    |ok b=>rw[e]at z;cases z
    |err c'=>exact joV e
    |stk=>rw[e]at z;cases z
   have bs:∀x y i,bD (cmD o) x y≠.ok (.slot i):=fun x y i z=>by
    unfold bD at z;obtain⟨b,_,z⟩:=R.bind_ok z;cases z
   refine⟨fun B=>PE.imp (joa ok (Sa.pe B) (Sc.pe B) hmk) fun σ H Q q=>tE.two be bs (by simpa only[evE,bD,R.bind_assoc,R.bind_ok'] using q),fun B=>PT.imp (job ok (Sa.pe B) (Sc.pe B) hmk) fun σ H Q q=>?_,fun _ _ z=>by cases z⟩
   have q2:=tT.toE (by simpa only[evT] using q)
   simp only[R.bind_assoc,R.bind_ok']at q2;exact tE.two be bs (by simpa only[bD,R.bind_assoc,R.bind_ok'] using q2)
  |IfExp c a b pos=>
   replace h:=jc0 h;obtain⟨Ec,Ea,Eb,hc,ha,hb,rfl⟩:=h;have Sc:=ih1 _ _ hc;have Sa:=ih1 _ _ ha;have Sb:=ih1 _ _ hb;exact Says.nt (fun B=>PE.imp (jlg (Sc.pt B) (Sa.pe B) (Sb.pe B)) fun σ H Q z=>jro (by simpa only[evE] using z)) (fun ρ=>by simp only[evT]) fun _ _ z=>by cases z
  |Tuple es k pos=>
   replace h:=jap h;obtain⟨Es',q,rfl⟩:=h;exact Says.nt (fun B=>jo7 (prn q B)) (fun ρ=>by simp only[evT]) fun _ _ z=>by cases z
  |List es pos=>
   replace h:=jap h;obtain⟨Es',q,rfl⟩:=h;exact Says.nt (fun B=>jo8 (prn q B)) (fun ρ=>by simp only[evT]) fun _ _ z=>by cases z
  |Subscript a i pos=>
   replace h:js7 (trE T n sc X.N) a i=some E':=h;unfold js7 at h;cases hs:jpo i with
   |some p=>
    rw[hs]at h;obtain⟨lo,hi,st⟩:=p;obtain⟨p2,rfl⟩:=jkm hs;replace h:=jal h;obtain⟨hst,h⟩:=h;cases st with
    |some _=>cases hst
    |none=>
    replace h:=jc0 h;obtain⟨Ea,Elo,Ehi,ha,hlo,hhi,rfl⟩:=h;have Sa:=ih1 _ _ ha;have part:∀{o:Option Expr}{O:Oe},js4 (trE T n sc X.N) o=some O->∀B,PO X o (tO Z X B (evO G U O)):=fun {o O} z B=>by
     cases o with
     |none=>cases z;exact jrr
     |some e=>
      obtain⟨E',q,rfl⟩:=jap z;exact jrs ((ih1 _ _ q).pe B)
    refine Says.mk' hK (fun B=>PE.imp (jlr (js0 hK) (Sa.pe B) (part hlo B) (part hhi B)) fun σ H Q q=>tE.slice (by simpa only[evE] using q)) (fun _=>rfl) (fun _ _ z=>by cases z) fun ρ=>?_
    simp only[evT,trF,evE,R.bind_assoc,R.bind_ok'];exact Lr.refl.bind fun _=>Lr.refl.bind fun _=>Lr.refl.bind fun _=>Lr.refl.bind fun _=>Lr.refl.bind fun _=>Lr.deref.bind fun _=>Lr.refl
   |none=>
    rw[hs]at h;replace h:=jbF h;obtain⟨Ea,Ei,ha,hi',rfl⟩:=h;have Sa:=ih1 _ _ ha;have Si:=ih1 _ _ hi';refine Says.mk' hK (fun B=>PE.imp (jsO (jsZ hK) (Sa.pe B) (Si.pe B) (jmm fun a b c d z=>by subst z;cases hs)) fun σ H Q q=>tE.two (fun x y c z=>?_) (fun x y i z=>?_) (by simpa only[evE,jss,R.bind_assoc,R.bind_ok'] using q)) (fun _=>rfl) (fun _ _ z=>by cases z) fun ρ=>?_
    ·unfold jss at z;cases e:jk8 x y with
     |ok d=>rw[e]at z;cases z
     |err c'=>exact jml e
     |stk=>rw[e]at z;cases z
    ·unfold jss at z;obtain⟨d,_,z⟩:=R.bind_ok z;cases z
    ·simp only[evT,trF,evE,R.bind_assoc,R.bind_ok',deref];exact Lr.refl
  |Call fn args ks pos=>
   replace h:=jal h;obtain⟨hks,h⟩:=h;cases jcf hks;replace h:=jbQ h;rcases h with ⟨f,hn,h⟩ | h
   ·obtain⟨p,rfl⟩:=jbx hn;replace h:=jal h;obtain⟨hc,h⟩:=h;replace hc:=jb4 hc;obtain⟨hb,hf⟩:=hc;have hf:=jf6 hf;cases hk:jed T.defs f with
    |some k=>
     rw[hk]at h;replace h:=jal h;obtain⟨hq,h⟩:=h;replace h:=jap h;obtain⟨es,q,rfl⟩:=h;refine Says.mk' hK (fun B=>jmj D hq hf hb hk (prn q B)) (fun _=>rfl) (fun _ _ z=>by cases z) fun ρ=>?_
     simp only[evT,trF,evE,R.bind_assoc,R.bind_ok'];exact Lr.refl.bind fun _=>Lr.refl.bind fun _=>Lr.refl.bind fun _=>Lr.deref.bind fun _=>Lr.refl
    |none=>
     rw[hk]at h;replace h:js8 T sc (trE T n sc X.N) f args=some E':=h;unfold js8 at h;cases hnest:jkl T sc f args with
     |some p'=>
      rw[hnest]at h;obtain⟨bf,b⟩:=p';replace h:=jap h;obtain⟨Eb,q,rfl⟩:=h;have S:=ih1 _ _ q;obtain⟨g,p2,pos2,rfl,hq,hb2,hg2,hnf⟩:=jmz hnest;exact Says.mk' hK (fun B=>jmx (p:=p) (pos:=pos) D hq hf hb hg2 hb2 (S.pe B) S.ns hnf) (fun _=>rfl) (fun _ _ z=>by cases z) lrB
     |none=>
      rw[hnest]at h;cases args with
      |nil=>exact jae h
      |cons a r=>
       cases r with
       |nil=>
        replace h:=jbF h;obtain⟨g,Ea,hg,ha,rfl⟩:=h;have S:=ih1 _ _ ha;exact Says.mk' hK (fun B=>jpj (p:=p) (pos:=pos) D hf hb (S.pe B) S.ns hg) (fun _=>rfl) (fun _ _ z=>by cases z) lrB
       |cons b r=>
        cases r with
        |cons c r=>exact jae h
        |nil=>
         replace h:=jar h;rcases h with ⟨hfi,h⟩ | h
         ·cases jbU hfi;replace h:=jaf h;obtain⟨ks,hks,h⟩:=h;replace h:=jal h;obtain⟨hl,h⟩:=h;replace h:=jap h;obtain⟨Ea,ha,rfl⟩:=h;have S:=ih1 _ _ ha;refine Says.mk' hK (fun B=>jph (p:=p) (pos:=pos) D hf (of_decide_eq_true (jbG hl)) (S.pe B) S.ns hks) (fun _=>rfl) (fun _ _ z=>by cases z) fun ρ=>?_
          simp only[evT,trF,evE,R.bind_assoc,R.bind_ok',deref,jbC];exact Lr.refl
         exact jae h
   replace h:=jaf h;obtain⟨⟨v,m',apos⟩,hn,h⟩:=h;cases jhe hn;replace h:=jbQ h;rcases h with ⟨b,hj,h⟩ | h
   ·obtain⟨p2,pos2,rfl,rfl,hq,hb2,hg⟩:=jrE hj;replace h:=jal h;obtain⟨hc,h⟩:=h;replace hc:=jb4 hc;obtain⟨c1,c2⟩:=hc;replace h:=jbF h;obtain⟨Ev,Ea,q1,q2,rfl⟩:=h;exact Says.nt (fun B=>jpn D hq hg hb2 ((ih1 _ _ q1).pe B) ((ih1 _ _ q2).pe B) (ih1 _ _ q2).ns (jko (jbG c1)) (jbG c2)) (fun ρ=>by simp only[evT]) fun _ _ z=>by cases z
   replace h:=jbQ h;rcases h with ⟨sf,hsf,h⟩ | h
   ·replace h:=jal h;obtain⟨hc,h⟩:=h;replace hc:=jb4 hc;obtain⟨c1,c2⟩:=hc;replace h:=jaf h;obtain⟨a,ha,h⟩:=h;cases jaD ha;replace h:=jbF h;obtain⟨Ev,Ea,q1,q2,rfl⟩:=h;exact Says.nt (fun B=>jry hK hsf ((ih1 _ _ q1).pe B) ((ih1 _ _ q2).pe B) (ih1 _ _ q2).ns (jko (jbG c1)) (jbG c2)) (fun ρ=>by simp only[evT]) fun _ _ z=>by cases z
   exact jae h
  |ListComp elt gens scope pos=>
   obtain⟨hq,tg,iter,ks,N,cn,nt,caps,tgs,one,it,fc,Ee,Ec,e1,rfl,cd,ev⟩:=jfh D ih (ihT _) h0;cases e1;refine Says.nt (fun B=>?_) (fun ρ=>by simp only[evT]) fun _ _ z=>by cases z
   have:=jpi (pos:=pos) hK (D.calm hq) cd.C (cd.hi B) cd.hT cd.hlow cd.hE (xx:=!T.deep) (fun z=>D.top (by cases e:T.deep with | false=>rfl | true=>rw[e]at z;cases z)) cd.hK cd.hs
   rw[tE.congr ev];exact this
  |_=>exact jae h
end DJ
namespace DJ
open PySem PySem.Spec PyProof.Rows L2
section
variable {X:Cx}{pins:List (Addr×Obj)}{σ:L2.St}{H:Hp}{s:Shared}{B h':Heap}
theorem Inv.freeOf (I:Inv X pins σ H s){a:Addr}(h:s.heap.get? a=none):H a=none:=by
 cases e:H a with
 |none=>rfl
 |some o=>
  obtain⟨u,q⟩:=jnJ (I.hok a o e);rw[h]at q;cases q
theorem jdE {E:XK}{ea:Addr}{cls a0:Value}(I:Inv X pins σ H s)(hfn:∀x,X.fn x=true)(hex:X.ex=[])(hst:X.stack=X.env::X.outer)(Hs:Has X pins H B)(k:B.StaysIn s.heap)(fl:Heap.FlyingW B X.outer ea cls a0 h')(up:s.heap.UpToSlots h')(hn:H ea=none)(q:E cls none H) :
  CXD X.prog X.w X.outer X.H₀ X.s₀ E (.ref ea) { s with heap:=h' }:=by
 have I':Inv X pins σ H { s with heap:=h' }:=Inv.flown (t':=s.toks) I hfn Hs k fl.1 up
 have b:=I'.base;rw[hex]at b;refine⟨ea,cls,a0,H,B,rfl,I'.os,I'.bare,b,I'.hok,fl,fun b o e n=>Hs.s0 b o e (fun z=>?_) (by rw[hex];simp),Hs.tr,hn,q⟩
 rcases List.mem_cons.mp (I.stkSub b z)with z | z
 ·have:=ju3 e;rw[z]at this;exact absurd this (Nat.not_lt.mpr I.ok.above)
 ·exact n z
end
section
variable {P:Program}{w:World}{K:Frag}{mg:Str->Option Value}{base:Heap}{N:List Str}{qual:Str}{scope:Scope}{f:Addr}{cd:Value}{A:Around}{outer:List Env}{s s':Shared}{H H':Hp}{E:XK}{pins:List (Addr×Obj)}{σ:L2.St}{ea:Addr}{cls:Value}
theorem jrF (I:Inv (jhH (CXD P w) P w K mg base N qual scope f cd A outer s H E) pins σ H' s')(fl:FlyC (jhH (CXD P w) P w K mg base N qual scope f cd A outer s H E) pins ea cls H' s')(q:E cls none H'):(jhH (CXD P w) P w K mg base N qual scope f cd A outer s H E).xe (.ref ea) s':=by
 obtain⟨⟨a0,B,fly,c1,c2,c3,c4⟩,hn⟩:=fl;refine jh2 (B:=B) (cls:=cls) (a0:=a0) I.ok.frames rfl fly fun h'' fl'' up=>?_;exact jdE I (fun _=>rfl) rfl rfl ⟨c1,c2,c3,c4⟩ fly.stays fl'' up hn q
theorem jpr {h':Heap}{vs:List Value}(I:Inv (jhH (CXD P w) P w K mg base N qual scope f cd A outer s H E) pins σ H' s')(mk:Heap.MadeExcOf s'.heap h' ea cls vs)(q:E cls none H'):(jhH (CXD P w) P w K mg base N qual scope f cd A outer s H E).xe (.ref ea) { s' with heap:=h' }:=by
 have Hs:=Has.made I;have I':Inv (jhH (CXD P w) P w K mg base N qual scope f cd A outer s H E) pins σ H' { s' with heap:=h' }:=I.kept (t':=s'.toks) mk.keeps
 refine wpAny_leaves_madeW (base:=PySem.W.hideAll s'.heap (frs (jhH (CXD P w) P w K mg base N qual scope f cd A outer s H E).stack)) (h:=s'.heap) I.ok.frames rfl (fun b o e=>PySem.W.of_hideAll _ e) (jkc I.stack fun b hb=>PySem.W.hideAll_none _ hb) mk fun h'' t fl'' _ _ up=>?_;exact jdE I' (fun _=>rfl) rfl rfl Hs (fun b o e=>mk.keeps b o (PySem.W.of_hideAll _ e)) fl'' up (Inv.freeOf I mk.new) q
end
structure Rcl (K:Frag)(C:Addr):Prop where
 ex:∃(bmB:List Value) (B newId initId:String),PySem.W.excIn K C bmB newId=true/\ExcBaseFacts B newId initId bmB
 nm:∃x,PySem.W.nsIn K mainGlobals x=some (some (.ref C))
theorem jmA (l:List DictEntry):∃ls:List Str,∀x,x ∉ ls->l.find? (fun e=>e.key.isStr x)=none:=by
 induction l with
 |nil=>exact⟨[],fun _ _=>rfl⟩
 |cons e r ih=>
  obtain⟨ls,h⟩:=ih;by_cases hn:∃n,e.key.isStr n=true
  ·obtain⟨n,hn⟩:=hn;exact⟨n::ls,fun x hx=>(List.find?_cons_of_neg (p:=fun e:DictEntry=>e.key.isStr x) (a:=e) fun q=>hx (Value.isStr_inj _ _ _ q hn ▸ .head _)).trans (h x fun k=>hx (.tail _ k))⟩
  ·exact⟨ls,fun x hx=>(List.find?_cons_of_neg (p:=fun e:DictEntry=>e.key.isStr x) (a:=e) fun q=>hn ⟨x,q⟩).trans (h x hx)⟩
theorem jps {K:Frag}{C:Addr}{bmB:List Value}{newId:String}{h:Heap}{mg:Str->Option Value}{x:Str}(p:Program)(M:Mod K mg h)(e:PySem.W.nsIn K mainGlobals x=some (some (.ref C)))(q:PySem.W.excIn K C bmB newId=true):OwnCls x C bmB newId mg h:=by
 obtain⟨mb,hb,hx⟩:=M.blt;obtain⟨o,es,ep,ho,hd,hs,hf⟩:=M.glob;obtain⟨ls,hl⟩:=jmA es.toList;exact PySem.W.own_of_in (p:=p) (loose:=ls) (mb:=mb) M.kin ⟨M.glob,hb,M.nolimit,hx,fun x _ h _ _ _=>by rw[<-hf x,nsFind,findBy,<-Array.find?_toList,hl x h];rfl⟩ e q
noncomputable def XM (Z:Kn)(X:Cx)(σ:L2.St)(ρ:Rho)(H:Hp)(c:Nat):Prop:=∀(pins:List (Addr×Obj)) (H1:Hp) (s1:Shared) (h':Heap) (ea C:Addr) (vs:List Value),Z.cl[c]?=some C->Inv X pins σ H1 s1->Stl σ ρ H H1->Heap.MadeExcOf s1.heap h' ea (.ref C) vs->X.xe (.ref ea) { s1 with heap:=h' }
noncomputable def jrG (X:Cx)(C:Addr)(t:TA):TS:=fun D σ H=>t σ H fun vs H1=>vs.length<=sizeLine/\∀(pins:List (Addr×Obj)) (s1:Shared) (h':Heap) (ea:Addr) (us:List Value),Inv X pins σ H1 s1->Heap.MadeExcOf s1.heap h' ea (.ref C) us->X.xe (.ref ea) { s1 with heap:=h' }
theorem jmB {X:Cx}{C:Addr}{x:Str}{np cpos pos:Pos}{a:Expr}{t:TA}(hc:X.calm=true)(R:Rcl X.K C)(hg:Gl X x)(hm:X.mg x=some (.ref C))(hd:(x == ("__debug__":Str))=false)(ha:PA X [a] t)(ns:∀e q,a≠.Starred e q) :
  PS X (.Raise (some (.Call (.Name x np) [a] [] cpos)) none pos) (jrG X C t):=by
 intro pins s σ H D I h;obtain⟨⟨bmB,Bn,newId,initId,q,FB⟩,_,qx⟩:=R;have he:starEach [a] X.env=(false,eval a X.env)::starEach [] X.env:=jad ns;obtain⟨tl,N,nm,qn,bs,hdct,sn,sub,ab,col,dd,k0,k1,k2,k3,k5,mN,hC0,hN0,hni,T0⟩:=(jps X.prog I.ok.mod qx q).obj;have run:=ha cpos pins s σ H _ I h;refine wpAny_Raise_call_subT (C:=C) (nm:=nm) (q:=qn) (N:=N) (bs:=bs) (bm:=tl) (hdct:=hdct) (sn:=sn) (sub:=sub) (ab:=ab) (col:=col) (dd:=dd) (k0:=k0) (k1:=k1) (k2:=k2) (k3:=k3) (k5:=k5) FB (mN:=mN) (T0.hasType FB.hasBase) (I.ok.hd hc) (by rw[he];rfl) hni (jdO I hg hm ⟨rfl,?_⟩ hd)
 rw[he]at run ⊢;refine Calls.evalArgs_plain (thn run fun us s1 hzz=>?_);obtain⟨vs,H1,I1,r,q1,q2⟩:=hzz;have kp:∀b o,X.base.get? b=some o->s1.heap.get? b=some o:=fun b o e=>(I1.bs b o e).1;exact⟨rfl,by rw[<-r.length];exact q1,kp _ _ hC0,hN0.keeps kp,T0.keeps kp,fun h' e mk=>q2 pins s1 h' e us I1 mk⟩
end DJ
namespace DJ
open PySem PySem.Spec PyProof.Rows L2
noncomputable def FlP (Z:Kn)(B:Bs)(σ:L2.St)(ρ:Rho)(F:Addr->Prop)(H:Hp)(D:Ends):Fl->Prop
 |.nx ρ'=>∀σ' F' H',Go σ ρ F H σ' ρ' F' H'->SR Z B F' H' σ' ρ'->D.nx σ' H'
 |.bk ρ'=>∀σ' F' H',Go σ ρ F H σ' ρ' F' H'->SR Z B F' H' σ' ρ'->D.bk σ' H'
 |.ct ρ'=>∀σ' F' H',Go σ ρ F H σ' ρ' F' H'->SR Z B F' H' σ' ρ'->D.ct σ' H'
 |.rt v ρ'=>∀u σ' F' H',(∀i,v≠.slot i)->Go σ ρ F H σ' ρ' F' H'->SR Z B F' H' σ' ρ'->RV Z F' B.hp H' σ' ρ' v u->D.rt u H'
noncomputable def XS (Z:Kn)(X:Cx)(σ:L2.St)(ρ:Rho)(F:Addr->Prop)(H:Hp)(c:Nat):Prop:=∀σ' ρ' F' H',Go σ ρ F H σ' ρ' F' H'->XW Z X σ' ρ' H' c/\XM Z X σ' ρ' H' c
inductive tS_I (Z:Kn) (X:Cx) (B:Bs) (f:Rho->R Fl) (D:L2.Ends) (σ:L2.St) (H:L2.Hp):Prop
 |mk (F:_) (ρ:_):(SR Z B F H σ ρ)->(Ok (XS Z X σ ρ F H) (f ρ) (FlP Z B σ ρ F H D))->tS_I Z X B f D σ H
noncomputable def tS (Z:Kn)(X:Cx)(B:Bs)(f:Rho->R Fl):TS:=fun D σ H=>tS_I Z X B f D σ H
inductive tSx_I (Z:Kn) (X:Cx) (B:Bs) (f:Rho->R Fl) (D:L2.Ends) (σ:L2.St) (H:L2.Hp):Prop
 |mk (F:_) (ρ:_):(SR Z B F H σ ρ)->(Ok (XW Z X σ ρ H) (f ρ) (FlP Z B σ ρ F H D))->tSx_I Z X B f D σ H
noncomputable def tSx (Z:Kn)(X:Cx)(B:Bs)(f:Rho->R Fl):TS:=fun D σ H=>tSx_I Z X B f D σ H
section
variable {Z:Kn}{X:Cx}{B:Bs}{σ σ1:L2.St}{ρ ρ1:Rho}{F F1:Addr->Prop}{H H1:Hp}{D:Ends}
theorem XS.xw {c:Nat}(h:XS Z X σ ρ F H c):XW Z X σ ρ H c:=(h σ ρ F H Go.refl).1
theorem XS.mono {c:Nat}(h:XS Z X σ ρ F H c)(g:Go σ ρ F H σ1 ρ1 F1 H1):XS Z X σ1 ρ1 F1 H1 c:=fun σ' ρ' F' H' g'=>h σ' ρ' F' H' (g.trans g')
theorem FlP.go {fl:Fl}(h:FlP Z B σ ρ F H D fl)(g:Go σ ρ F H σ1 ρ1 F1 H1):FlP Z B σ1 ρ1 F1 H1 D fl:=by
 cases fl with
 |nx ρ'=>exact fun σ' F' H' g' r=>h σ' F' H' (g.trans g') r
 |bk ρ'=>exact fun σ' F' H' g' r=>h σ' F' H' (g.trans g') r
 |ct ρ'=>exact fun σ' F' H' g' r=>h σ' F' H' (g.trans g') r
 |rt v ρ'=>exact fun u σ' F' H' n g' r q=>h u σ' F' H' n (g.trans g') r q
theorem PS.x {s:Stmt}{f:Rho->R Fl}(h:PS X s (tSx Z X B f)):PS X s (tS Z X B f):=PS.imp h fun D σ H ⟨F,ρ,r,q⟩=>⟨F,ρ,r,q.imp (fun c w=>w.xw) fun _ z=>z⟩
theorem Inv.track {pins:List (Addr×Obj)}{s:Shared}{a:Addr}{o:HO}(I:Inv X pins σ H s)(hn:H a=none)(h0:X.s₀.heap.get? a=none)(hL:a≠X.env.locals)(hc:∀x c,X.env.cells.lookup x=some c->c≠a)(hp:∀p∈X.pn++pins,p.1≠a)
  (ok:ObjOk X.prog X.w (upd H a o) s.heap a o):Inv X pins σ (upd H a o) s:=by
 refine⟨I.ok,I.os,I.bare,⟨I.base.keep,I.base.slot,fun b ob e q hx=>?_,I.base.there,fun b xs e=>?_,fun b ob u e=>?_,fun b ps e=>?_⟩,I.loc,I.cell,?_,fun x c e=>?_,fun p hp'=>?_,fun b u e=>?_,I.len⟩
 ·rw[jac (fun z=>by rw[z,h0]at e;cases e)];exact I.base.free b ob e q hx
 ·have:=I.base.tups b xs e;rw[jac (jab this hn)];exact this
 ·have:=I.base.frzs b ob u e;rw[jac (jab this hn)];exact this
 ·obtain⟨more,this⟩:=I.base.tbls b ps e;exact⟨more,by rw[jac (jab this hn)];exact this⟩
 ·rw[jac (Ne.symm hL)];exact I.free
 ·rw[jac (hc x c e)];exact I.freeC x c e
 ·obtain⟨e,q,r⟩:=I.pin p hp';exact⟨e,by rw[jac (hp p hp')];exact q,r⟩
 ·by_cases hb:b=a
  ·subst hb;rw[jak]at e;cases e;exact ok
  ·rw[jac hb]at e;refine(I.hok b u e).stay (fun c w' hc q=>q) (fun c q=>?_) fun c ts q=>?_
   ·rw[jac (jab q hn)];exact q
   ·rw[jac (jab q hn)];exact q
end
section
variable {X:Cx}{pins pins':List (Addr×Obj)}{σ:L2.St}{H:Hp}{s:Shared}{E':Value->Shared->Prop}{ea:Addr}
end
end DJ
namespace DJ
open PySem PySem.Spec PyProof.Rows L2
section
variable {G:Calls}{U:Nat->Nat->Bool}{Z:Kn}{X:Cx}{B:Bs}
theorem RV.unlk {F:Addr->Prop}{H0 H:Hp}{σ:L2.St}{ρ:Rho}{lk:List Nat}{w:Vl}{v:V}(h:RV Z F H0 H σ ρ w v):RV Z F H0 H σ (unlk lk ρ) w v:=by
 cases w with
 |dat d=>exact h
 |tmp o=>obtain⟨l,e,h1,h2,h3,h4⟩:=h;exact⟨l,e,h1,fun z=>h2 z.unlk,h3,h4⟩
 |slot i=>exact h
theorem jmC {v:Vl}{ρ:Rho}{c:Nat}:jl1 v ρ≠.err c:=by
 cases v with
 |dat d=>intro z;cases z
 |tmp o=>intro z;cases z
 |slot i=>
  simp only[jl1];split <;> (intro z;cases z)
theorem jrH {e:Expr}{f:Rho->R (Vl×Rho)}{pos:Pos}(h:PE X e (tE Z X B f)):PS X (.Return (some e) pos) (tSx Z X B fun ρ=>(f ρ).bind fun p=>jl1 p.1 p.2):=by
 refine PS.imp (jqA h) fun D σ H hzz=>?_;obtain⟨F,ρ,r,q⟩:=hzz;refine⟨F,ρ,r,q.bind.imp (fun _ w=>w) fun p h1 v F' H' g r' rv=>?_⟩;obtain⟨fl,hf,h2⟩:=h1.pure fun c=>jmC;obtain⟨w,ρ'⟩:=p;cases w with
 |dat d=>cases hf;exact h2 v σ F' H' (fun _ z=>by cases z) g r' rv
 |tmp o=>cases hf;exact h2 v σ F' H' (fun _ z=>by cases z) g r' (rv.base r.base)
 |slot i=>
  have rv:σ[i]?=some (some v):=rv;simp only[jl1]at hf;split at hf
  ·rename_i o e;cases hf;obtain⟨l,e1,e2,e3,e4⟩:=r'.own i o _ _ e;rw[rv]at e1;cases e1;refine h2 (.ref l) σ F' H' (fun _ z=>by cases z) (g.trans (Go.weak Le.no)) (r'.weak Le.no) ⟨l,rfl,e2,fun z=>?_,e4.2 rfl,e3⟩
   obtain⟨j,o',f',k',z1,z2⟩:=z;rw[juw]at z1;by_cases hij:i=j
   ·rw[if_pos hij]at z1;split at z1 <;> cases z1
   ·rw[if_neg hij]at z1;exact r'.one i j _ _ _ _ _ _ l hij e z1 rv z2
  ·cases hf
theorem jpt {pos:Pos}:PS X (.Return none pos) (tSx Z X B fun ρ=>.ok (.rt (.dat .non) ρ)):=by
 refine PS.imp jn6 fun D σ H hzz=>?_;obtain⟨F,ρ,r,q⟩:=hzz;exact q .non σ F H (fun _ z=>by cases z) Go.refl r (by show Rep _ _ _ _ _;simp only[Rep])
theorem jpu {pos:Pos}:PS X (.Pass pos) (tSx Z X B fun ρ=>.ok (.nx ρ)):=PS.imp jn5 fun D σ H ⟨F,ρ,r,q⟩=>q σ F H Go.refl r
theorem jrI {pos:Pos}:PS X (.Break pos) (tSx Z X B fun ρ=>.ok (.bk ρ)):=PS.imp jli fun D σ H ⟨F,ρ,r,q⟩=>q σ F H Go.refl r
theorem jrJ {pos:Pos}:PS X (.Continue pos) (tSx Z X B fun ρ=>.ok (.ct ρ)):=PS.imp jfN fun D σ H ⟨F,ρ,r,q⟩=>q σ F H Go.refl r
theorem jpv {e:Expr}{f:Rho->R (Vl×Rho)}{pos:Pos}(h:PE X e (tE Z X B f))(hs:swapsWith e none pos.line X.env=pure false):PS X (.Expr e pos) (tSx Z X B fun ρ=>(f ρ).bind fun p=>.ok (.nx p.2)):=by
 refine PS.imp (jiV h hs) fun D σ H hzz=>?_;obtain⟨F,ρ,r,q⟩:=hzz;exact⟨F,ρ,r,q.bind.imp (fun _ w=>w) fun p h1 v F' H' g r' rv=>h1 σ F' H' g r'⟩
theorem jmD {v:Vl}{ρ:Rho}{c:Nat}:jgV v ρ≠.err c:=by
 cases v with
 |dat d=>intro z;cases z
 |tmp o=>intro z;cases z
 |slot i=>
  simp only[jgV];intro z;cases e:toD (.slot i) ρ with
  |ok p=>rw[e]at z;cases z
  |err c=>exact jcT e
  |stk=>rw[e]at z;cases z
theorem jpw {σ:L2.St}{ρ ρ1 ρ2:Rho}{F F1:Addr->Prop}{H H1:Hp}{w:Vl}{v:V}{s:Sl}{i:Nat}(rv:RV Z F1 H H1 σ ρ1 w v)(r:SR Z B F H σ ρ)(r1:SR Z B F1 H1 σ ρ1)(g:Go σ ρ F H σ ρ1 F1 H1)(h:jgV w ρ1=.ok (s,ρ2)) :
  ∃F2,Go σ ρ F H (σ.set i (some v)) (ρ2.set i s) F2 H1/\SR Z B F2 H1 (σ.set i (some v)) (ρ2.set i s):=by
 have dat:∀{w:Vl},RV Z F1 H H1 σ ρ1 w v->(toD w ρ1).bind (fun p=>(.ok (.dat p.1,p.2):R (Sl×Rho)))=.ok (s,ρ2)->∃F2,Go σ ρ F H (σ.set i (some v)) (ρ2.set i s) F2 H1/\SR Z B F2 H1 (σ.set i (some v)) (ρ2.set i s):=fun {w} rv h=>by
  obtain⟨p,hp,h⟩:=R.bind_ok h;cases h;obtain⟨F2,g2,r2,rp,_⟩:=jgX rv r1 g hp;exact⟨F2,g2.trans Go.put,r2.put rp⟩
 cases w with
 |dat d=>exact dat rv h
 |slot j=>exact dat rv h
 |tmp o=>
  cases h;obtain⟨l,rfl,h1,h2,h3,h4⟩:=rv;exact⟨F1,g.putOwn h3,r1.putOwn h1 h2 (r.base l h3) h4⟩
theorem jrK {e:Expr}{f:Rho->R (Vl×Rho)}{i:Nat}{x:Str}{pos pos':Pos}(nd:X.N.Nodup)(hi:X.N[i]?=some x)(hx:Loc X.env.scope x)(hf:X.fn x=true\/X.env.scope.names.lookup x=some .local)(h:PE X e (tE Z X B f))
  (hs:swapsWith e (some (.Name x pos')) pos.line X.env=pure false):PS X (.Assign [.Name x pos'] e pos) (tSx Z X B fun ρ=>(f ρ).bind fun p=>(jgV p.1 p.2).bind fun q=>if i < q.2.length then .ok (.nx (q.2.set i q.1))else .stk):=by
 refine PS.imp (jqD nd hi hx h hs hf) fun D σ H hzz=>?_;obtain⟨F,ρ,r,q⟩:=hzz;refine⟨F,ρ,r,q.bind.imp (fun _ w=>w) fun p h1 v F' H' g r' rv=>?_⟩;obtain⟨t,ht,h2⟩:=h1.bind.pure fun c=>jmD;split at h2
 ·obtain⟨F2,g2,r2⟩:=jpw (i:=i) rv r r' g ht;exact h2 _ F2 H' g2 r2
 ·exact False.elim h2
theorem jta {c:Expr}{a b:List Stmt}{pos:Pos}{fc:Rho->R (Bool×Rho)}{fa fb:Rho->R Fl}(hc:PT X c (tT Z X B fc))(ha:PSs X a (tS Z X B fa))(hb:PSs X b (tS Z X B fb)):PS X (.If c a b pos) (tS Z X B fun ρ=>(fc ρ).bind fun t=>if t.1 then fa t.2 else fb t.2):=by
 refine PS.imp (jsA hc ha hb) fun D σ H hzz=>?_;obtain⟨F,ρ,r,q⟩:=hzz;refine⟨F,ρ,r,q.bind.imp (fun _ w=>w.xw) fun t p F' H' g r'=>?_⟩;obtain⟨b,ρ1⟩:=t;cases b with
 |true=>rw[if_pos rfl]at p ⊢;exact⟨F',ρ1,r',p.imp (fun _ w=>w.mono g) fun fl z=>z.go g⟩
 |false=>rw[if_neg jve]at p ⊢;exact⟨F',ρ1,r',p.imp (fun _ w=>w.mono g) fun fl z=>z.go g⟩
theorem jrL:PSs X [] (tS Z X B fun ρ=>.ok (.nx ρ)):=PSs.imp jn4 fun D σ H ⟨F,ρ,r,q⟩=>q σ F H Go.refl r
theorem jpx {s:Stmt}{ss:List Stmt}{f g:Rho->R Fl}(h1:PS X s (tS Z X B f))(h2:PSs X ss (tS Z X B g)):PSs X (s::ss) (tS Z X B fun ρ=>(f ρ).bind (joM g)):=by
 refine PSs.imp (jlh h1 h2) fun D σ H hzz=>?_;obtain⟨F,ρ,r,q⟩:=hzz;refine⟨F,ρ,r,q.bind.imp (fun _ w=>w) fun fl p=>?_⟩;cases fl with
 |nx ρ'=>exact fun σ' F' H' g' r'=>⟨F',ρ',r',p.imp (fun _ w=>w.mono g') fun fl z=>z.go g'⟩
 |bk ρ'=>exact p
 |ct ρ'=>exact p
 |rt v ρ'=>exact p
theorem jrM (hK:X.K=Z.K){x:Str}{i:Nat}{e:Expr}{f:Rho->R (Vl×Rho)}{xp apos cpos pos:Pos}(hv:PE X (.Name x xp) (jst i))(h:PE X e (tE Z X B f))(ns:∀a p,e≠.Starred a p)(hline:(apos.endLine == cpos.line)=true) :
  PS X (.Expr (.Call (.Attribute (.Name x xp) "append" apos) [e] [] cpos) pos) (tSx Z X B fun ρ=>match ρ[i]? with
   |some (.own (.l _) _ _)=>(f ρ).bind fun p=>(toD p.1 p.2).bind fun q=>match q.2[i]? with
    |some (.own (.l xs) f false)=>if fits (xs.length + 1)then .ok (.nx (q.2.set i (.own (.l (xs++[q.1])) f false)))else .stk
    |_=>.stk
   |_=>.stk):=by
 have hbase:attributeBase (.Name x xp) "append" X.env (eval (.Name x xp) X.env)=eval (.Name x xp) X.env:=rfl;have he:=jad (es:=[]) (env:=X.env) ns;refine PS.imp (jiV (joj PySem.F.plainAttrs_list PySem.F.slot_list_append PySem.F.type_list_append jeP hv (jau h ja9 he) hbase (by rw[he];rfl) hline he rfl) rfl) fun D σ H hzz=>?_
 obtain⟨F,ρ,r,q⟩:=hzz;try dsimp only at q
 split at q
 ·rename_i x0 f0 k0 e0;obtain⟨l,e1,_,⟨us,e3,_⟩,_⟩:=r.own i _ _ _ e0;refine⟨.ref l,e1,.inl ⟨rfl,us,SqL.of e3⟩,F,ρ,r,q.bind.imp (fun _ w=>w) fun p h1 v F1 H1 g1 r1 rv=>?_⟩;obtain⟨t,ht,h2⟩:=h1.bind.pure fun c=>jcT;obtain⟨F2,g2,r2,rp,_⟩:=jgX rv r1 g1 ht;split at h2
  ·rename_i xs f1 e2;split at h2
   ·rename_i hfit;obtain⟨l2,a1,a2,⟨vs,a3,a4⟩,a5⟩:=r2.own i _ _ _ e2;rw[e1]at a1;cases a1;have hl:=a4.length;have hz:=jaV hfit;refine⟨l,vs,v,rfl,rfl,a3,by omega,?_⟩
    obtain⟨kp,sr⟩:=r2.wr (o':=.l (xs++[t.1])) (u:=.lst (vs++[v])) e2 e1 (fun kp=>⟨vs++[v],jak,(a4.mono kp).append (.one (rp.mono kp))⟩) false;exact h2 σ F2 _ (g2.trans (Go.wr e2 e1)) sr
   ·exact False.elim h2
  ·exact False.elim h2
 ·exact False.elim q
theorem jmE (hK:X.K=Z.K)(hc:X.calm=true){C:Addr}{c:Nat}{x:Str}{np cpos pos:Pos}{a:Expr}{f:Rho->R (Vl×Rho)}(R':Rcl Z.K C)(hC:Z.cl[c]?=some C)(hg:Gl X x)(hm:X.mg x=some (.ref C))(hd:(x == ("__debug__":Str))=false)(ha:PE X a (tE Z X B f))(ns:∀e q,a≠.Starred e q) :
  PS X (.Raise (some (.Call (.Name x np) [a] [] cpos)) none pos) (tS Z X B fun ρ=>(f ρ).bind fun _=>.err c):=by
 refine PS.imp (jmB hc (by rw[hK];exact R') hg hm hd (jau ha ja9 (jad ns)) ns) fun D σ H hzz=>?_
 obtain⟨F,ρ,r,q⟩:=hzz;refine⟨F,ρ,r,q.bind.imp (fun _ w=>w.xw) fun p h1 v F' H' g r' rv=>?_⟩;have h1:XS Z X σ ρ F H c:=h1;refine⟨by rw[sizeLine_eq];show 1<=16777216;decide,fun pins s1 h' ea us I1 mk=>?_⟩
 exact(h1 σ p.2 F' H' g).2 pins H' s1 h' ea C us hC I1 ⟨fun _ _ e _=>e,fun _ o e=>⟨o,e⟩⟩ mk
end
inductive ForI (X:Cx) (pins:List (Addr×Obj)) (Z:Kn) (B:Bs) (σ:L2.St) (ρ1:Rho) (F2:Addr->Prop) (H2:Hp) (ls fp:List Addr) (tn:Nat->Heap->Prop) (n:Nat) (Rest:Nat->Rho->Prop) (k:Nat) (s':Shared):Prop
 |mk (i:Nat) (σ':L2.St) (F':Addr->Prop) (H':Hp) (ρ':Rho):k=n - i->i<=n->Inv X pins σ' H' s'->SR Z B F' H' σ' ρ'->Go σ ρ1 F2 H2 σ' ρ' F' H'->GK F2 H2 ls F' H'->tn i s'.heap->(∀b∈fp,H' b=none)->Rest i ρ'->ForI X pins Z B σ ρ1 F2 H2 ls fp tn n Rest k s'
theorem jrN {Z:Kn}{X:Cx}{B:Bs}{tg iter:Expr}{body:List Stmt}{pos:Pos}{tgs:List Nat}{one:Bool}{fi:Rho->R (List D×List Nat×Rho)}{fb:Rho->R Fl}(hK:X.K=Z.K)(hp:PassesOwn (model X.prog X.w) X.A X.env X.xe)(hc:X.calm=true)(nd:X.N.Nodup)
  (hi:PI X tg iter (tI Z X B fi)) (hT:TgOk X tg tgs one) (hb:PSs X body (tS Z X B fb)) (hs:∀x,foldedSetIterable iter X.env x=pure x) :
  PS X (.For tg iter body [] pos) (tS Z X B fun ρ=>(fi ρ).bind fun t=>(jaw (fun x r=>(putT tgs one x r).bind fun r'=>fb r') t.1 t.2.2).bind fun r=>.ok (jdg t.2.1 r)):=by
 intro pins s σ H D I hz1;obtain⟨F,ρ,r,h⟩:=hz1;refine wpAny_For (thn (hi pins s σ H (fun J H'=>∃(F':Addr->Prop) (t:List DJ.D×List Nat×Rho) (ls:List Addr),ItR Z B σ ρ F H t.2.2 F' H' t.2.1 ls/\ItmG Z (GK F' H' ls) J t.1/\Ok (XS Z X σ ρ F H) ((jaw (fun x r=>(putT tgs one x r).bind fun r'=>fb r') t.1 t.2.2).bind fun r=>.ok (jdg t.2.1 r)) (FlP Z B σ ρ F H D)) I
  ⟨F,ρ,r,h.bind.imp (fun c w=>w.xw) fun t h1 F' H' J ls ir im=>⟨F',t,ls,ir,im,h1⟩⟩) fun v s1 h1=>thn h1 fun itv s2 hzz=>?_) hs
 obtain⟨it,fp,tn,J,H2,e,I2,T,st2,f2,F2,t,ls,ir,im,q2⟩:=hzz;subst e;obtain⟨xs,lk,ρ1⟩:=t;have W:=im.wk hK (fun l hl=>(ir.on l hl).1) T;have stat:∀{H':Hp},(∀b∈fp,H' b=none)->∀b∈fp,FpOk X pins H' b:=fun hn b hb=>⟨hn b hb,(f2 b hb).2⟩;let Rest:=fun (i:Nat) (ρ':Rho)=>Ok (XS Z X σ ρ F H) ((jaw (fun x r=>(putT tgs one x r).bind fun r'=>fb r') (xs.drop i) ρ').bind fun r=>.ok (jdg lk r)) (FlP Z B σ ρ F H D);refine codeAny_forLoop_any (ForI X pins Z B σ ρ1 F2 H2 ls fp tn xs.length Rest) ?_ xs.length
  ⟨0,σ,F2,H2,ρ1,rfl,Nat.zero_le _,I2,ir.sr,Go.refl,GK.refl,st2,fun b hb=>(f2 b hb).1,q2⟩
 rintro n s3 ⟨i,σ3,F3,H3,ρ3,rfl,hi3,I3,r3,g3,gk3,st3,fr3,q3⟩;by_cases hlt:i < xs.length
 ·have hx:xs[i]?=some xs[i]:=jur hlt;have q3:Ok (XS Z X σ ρ F H) ((jaw (fun x r=>(putT tgs one x r).bind fun r'=>fb r') (xs.drop i) ρ3).bind fun r=>.ok (jdg lk r)) (FlP Z B σ ρ F H D):=q3;rw[List.drop_eq_getElem_cons hlt]at q3;simp only[jaw,R.bind_assoc]at q3;cases hp3:putT tgs one xs[i] ρ3 with
  |err c=>exact absurd hp3 jgY
  |stk=>rw[hp3]at q3;exact False.elim q3
  |ok ρ4=>
   rw[hp3,R.bind_ok']at q3;have q3:=q3.bind;refine wpAny_passesOwn hp (thn (W.take X rfl rfl hK hc nd tgs one hT i pins s3 σ3 ρ3 ρ4 B F3 H3 _ I3 r3 gk3 (stat fr3) st3 hx hp3) fun o s4 hzz=>?_);obtain⟨u,ho,h4⟩:=hzz;subst ho;refine wpAny_passesOwn hp (thn h4 fun _ s5 h5=>wpAny_passesOwn hp (thn h5 fun _ s6 hzz=>?_));obtain⟨σ6,F6,H6,I6,r6,g6,gk6,st6,fr6,_⟩:=hzz;have I6':=I6.pinned (stat fr6) (W.obj _ _ st6);have gA:Go σ ρ1 F2 H2 σ6 ρ4 F6 H6:=g3.trans g6;have gF:Go σ ρ F H σ6 ρ4 F6 H6:=ir.go.trans gA;have hm6:∀l∈ls,¬Mb σ6 ρ4 l:=fun l hl z=>by
    obtain⟨⟨o,e⟩,nm⟩:=ir.on l hl;rcases gA.mb z with z | z
    ·exact nm z
    ·rw[e]at z;cases z
   refine wpAny_passesOwn hp (thn (hb _ s6 σ6 H6 (Ends.mk (fun σ' H'=>∃F' ρ',SR Z B F' H' σ' ρ'/\Go σ6 ρ4 F6 H6 σ' ρ' F' H'/\Rest (i + 1) ρ') D.rt D.nx (fun σ' H'=>∃F' ρ',SR Z B F' H' σ' ρ'/\Go σ6 ρ4 F6 H6 σ' ρ' F' H'/\Rest (i + 1) ρ')) I6' ⟨F6,ρ4,r6,q3.imp (fun _ w=>w.mono gF) fun fl z=>?_⟩) fun f s7 q7=>?_)
   ·cases fl with
    |nx ρ'=>exact fun σ' F' H' g r'=>⟨F',ρ',r',g,z⟩
    |ct ρ'=>exact fun σ' F' H' g r'=>⟨F',ρ',r',g,z⟩
    |bk ρ'=>exact fun σ' F' H' g r'=>z σ' F' H' (ir.un σ' ρ' F' H' (gA.trans g)) r'.unlk
    |rt w ρ'=>exact fun u σ' F' H' n g r' rv=>z u σ' F' H' n (ir.un σ' ρ' F' H' (gA.trans g)) r'.unlk rv.unlk
   ·have again:∀{σ7:L2.St}{H7:Hp},Inv X (pins++jbV fp s6.heap) σ7 H7 s7->(∃F' ρ',SR Z B F' H7 σ7 ρ'/\Go σ6 ρ4 F6 H6 σ7 ρ' F' H7/\Rest (i + 1) ρ') ->
      ∃m,m < xs.length - i/\ForI X pins Z B σ ρ1 F2 H2 ls fp tn xs.length Rest m s7:=fun {σ7 H7} I7 hzz=>by
     obtain⟨F7,ρ7,r7,g7,q7⟩:=hzz;refine⟨xs.length - (i + 1),Nat.sub_lt_sub_left hlt (Nat.lt_succ_self i),i + 1,σ7,F7,H7,ρ7,rfl,hlt,I7.unpinned,r7,gA.trans g7,gk6.go W.lst r6 g7 hm6,W.keep _ _ _ st6 fun b hb o e=>(I7.pin (b,o) (juC _ (juC _ (jbe hb e)))).1,fun b hb=>?_,q7⟩;obtain⟨o,e,d⟩:=W.obj _ _ st6 b hb;exact(I7.pin (b,o) (juC _ (juC _ (jbe hb e)))).2.1
    cases f with
    |next=>obtain⟨σ7,H7,I7,n7⟩:=q7;exact again I7 n7
    |cont=>obtain⟨σ7,H7,I7,n7⟩:=q7;exact again I7 n7
    |brk=>obtain⟨σ7,H7,I7,q7⟩:=q7;exact⟨σ7,H7,I7.unpinned,q7⟩
    |ret v=>obtain⟨x7,σ7,H7,I7,r7,q7⟩:=q7;exact⟨x7,σ7,H7,I7.unpinned,r7,q7⟩
 ·have hie:i=xs.length:=by omega
  subst hie;have q3:Ok (XS Z X σ ρ F H) ((jaw (fun x r=>(putT tgs one x r).bind fun r'=>fb r') (xs.drop xs.length) ρ3).bind fun r=>.ok (jdg lk r)) (FlP Z B σ ρ F H D):=q3;rw[List.drop_eq_nil_of_le (ju7 _)]at q3;have q3:FlP Z B σ ρ F H D (.nx (unlk lk ρ3)):=q3;refine wpAny_passesOwn hp (thn (W.done X rfl rfl hK hc pins s3 σ3 F3 H3 I3 r3.dom gk3 (stat fr3) st3) fun o s4 hzz=>?_);obtain⟨ho,I4⟩:=hzz;subst ho;exact wpAny_execs_nil ⟨σ3,H3,I4,q3 σ3 F3 H3 (ir.un σ3 ρ3 F3 H3 g3) r3.unlk⟩
end DJ
namespace L2
open PySem PySem.Spec PyProof.Rows
section
variable {X:Cx}
end
end L2
namespace DJ
open PySem PySem.Spec PyProof.Rows L2
section
variable {Z:Kn}{X:Cx}{B:Bs}
theorem jrO {W:Nat}(hp:PassesOwn (model X.prog X.w) X.A X.env X.xe){c:Expr}{body:List Stmt}{pos:Pos}{fc:Rho->R (Bool×Rho)}{fb:Rho->R Fl}(hc:PT X c (tT Z X B fc))(hb:PSs X body (tS Z X B fb)) :
  PS X (.While c body [] pos) (tS Z X B fun ρ=>jcx fc fb W ρ):=by
 refine PS.imp (jlk hp hc hb) fun D σ H hzz=>?_;obtain⟨F,ρ,r,q⟩:=hzz;refine⟨fun n σ1 H1=>∃F1 ρ1,Go σ ρ F H σ1 ρ1 F1 H1/\SR Z B F1 H1 σ1 ρ1/\Ok (XS Z X σ ρ F H) (jcx fc fb n ρ1) (FlP Z B σ ρ F H D),⟨W,F,ρ,Go.refl,r,q⟩,?_⟩;rintro n σ1 H1 ⟨F1,ρ1,g1,r1,q1⟩;cases n with
 |zero=>exact False.elim q1
 |succ n=>
  simp only[jcx]at q1;refine⟨F1,ρ1,r1,q1.bind.imp (fun _ w=>(w.mono g1).xw) fun t h2 F2 H2 g2 r2=>?_⟩;obtain⟨b,ρ2⟩:=t;cases b with
  |false=>
   rw[if_neg jve]at h2 ⊢;exact h2 σ1 F2 H2 (g1.trans g2) r2
  |true=>
   rw[if_pos rfl]at h2 ⊢;refine⟨fun σ3 H3=>∃F3 ρ3,Go σ ρ F H σ3 ρ3 F3 H3/\SR Z B F3 H3 σ3 ρ3/\Ok (XS Z X σ ρ F H) (jcx fc fb n ρ3) (FlP Z B σ ρ F H D),fun σ3 H3 w=>⟨n,Nat.lt_succ_self n,w⟩,F2,ρ2,r2,h2.bind.imp (fun _ w=>w.mono (g1.trans g2)) fun fl z=>?_⟩;have g12:=g1.trans g2;cases fl with
   |nx ρ'=>exact fun σ' F' H' g r'=>⟨F',ρ',g12.trans g,r',z⟩
   |ct ρ'=>exact fun σ' F' H' g r'=>⟨F',ρ',g12.trans g,r',z⟩
   |bk ρ'=>exact fun σ' F' H' g r'=>z σ' F' H' (g12.trans g) r'
   |rt v ρ'=>exact fun u σ' F' H' nsl g r' rv=>z u σ' F' H' nsl (g12.trans g) r' rv
end
end DJ
namespace DJ
open PySem PySem.Spec PyProof.Rows L2
theorem jh3 {X:Cx}{scope:Scope}{N cn:List Str}{nt:Nat}{caps:List Nat}{Z:Kn}{B:Bs}{elt tg iter:Expr}{ks:List Expr}{pos spos py:Pos}{tgs:List Nat}{one:Bool}{fi:Rho->R (List D×List Nat×Rho)}{fc:Option (Rho->R (Bool×Rho))}{fe:Rho->R (Vl×Rho)}{y:Str}{j:Nat}
  (hK:X.K=Z.K) (nd:X.N.Nodup) (hj:X.N[j]?=some y) (hy:Loc X.env.scope y) (hf:X.fn y=true\/X.env.scope.names.lookup y=some .local) (hsw:swapsWith (.ListComp elt [⟨tg,iter,ks,0⟩] scope pos) (some (.Name y py)) spos.line X.env=pure true)
  (hc:X.calm=true) (C:CompOk X scope N cn nt caps) (hi:PI X tg iter (tI Z X B fi))
  (hT:∀s' H' fp E,TgOk (cxComp X N scope s' H' fp E) tg tgs one) (hlow:∀i∈tgs,i < nt)
  (hE:∀s' H' fp E B',PE (cxComp X N scope s' H' fp E) elt (tE Z (cxComp X N scope s' H' fp E) B' fe)) {xx:Bool} (Tp:xx=true->TopX X)
  (hk:(ks=[]/\fc=none)\/∃k g,ks=[k]/\fc=some g/\∀s' H' fp E B',PT (cxComp X N scope s' H' fp E) k (tT Z (cxComp X N scope s' H' fp E) B' g)) (hs:∀x,foldedSetIterable iter X.env x=pure x) :
  PS X (.Assign [.Name y py] (.ListComp elt [⟨tg,iter,ks,0⟩] scope pos) spos) (tSx Z X B fun ρ=>((fi ρ).bind fun t=>((compGo (jcX tgs one nt caps fc fe) t.1 t.2.2).pass xx).bind fun ys=>(.ok (.tmp (.l ys.1),unlk t.2.1 ys.2):R (Vl×Rho))).bind fun p=>(jgV p.1 p.2).bind fun q=>if j < q.2.length then .ok (.nx (q.2.set j q.1))else .stk):=by
 intro pins s σ H D I hz1;obtain⟨F,ρ,r,h⟩:=hz1;rw[exec_Assign_Name_used _ _ _ _ hsw];refine juT (wpAny_standAt (juT ?_));show wpAny _ X.A (do let _ <-comprehension (.ListComp elt [⟨tg,iter,ks,0⟩] scope pos) scope X.env _ (newList []) false (eval iter X.env) (some (assign (.Name y py) X.env))) _ _ s
 refine juT (ju0 (wpAny_comprehension_free (use:=some (assign (.Name y py) X.env)) (Q:=fun _ s'=>SP X pins D .next s') rfl hs (jjF (C.cells I)) C.kind C.names ?_) (fun _ s' hq=>juU (juU hq)) fun _ _ e=>e);simp only[R.bind_assoc,R.bind_ok']at h;refine thn (hi pins s σ H (fun J H'=>∃(F':Addr->Prop) (t:List DJ.D×List Nat×Rho) (ls:List Addr),ItR Z B σ ρ F H t.2.2 F' H' t.2.1 ls/\ItmG Z (GK F' H' ls) J t.1/\Ok (XW Z X σ ρ H) (((compGo (jcX tgs one nt caps fc fe) t.1 t.2.2).pass xx).bind fun ys=>(jgV (.tmp (.l ys.1)) (unlk t.2.1 ys.2)).bind fun q=>if j < q.2.length then .ok (.nx (q.2.set j q.1))else .stk) (FlP Z B σ ρ F H D)) I
  ⟨F,ρ,r,h.bind.imp (fun _ w=>w) fun t h1 F' H' J ls ir im=>⟨F',t,ls,ir,im,h1⟩⟩) fun v s1 h1=>thn h1 fun itv s2 hzz=>?_
 obtain⟨it,fp,tn,J,H2,e,I2,Tn,st2,f2,F2,t,ls,ir,im,q2⟩:=hzz;subst e;have fo:∀b∈fp,(b∈X.ex\/X.s₀.heap.objs.size<=b)/\b≠X.env.locals/\(∀x c,X.env.cells.lookup x=some c->c≠b)/\∀p∈X.pn++pins,p.1≠b:=fun b hb=>by
  obtain⟨f0,f1,f3,f4,f5,f6⟩:=f2 b hb;exact⟨f4,f1,f5,f6⟩
 refine jg1 (fc:=fc) (RR:=fun acc C'=>compPost (model X.prog X.w) X.A X.xe (some (assign (.Name y py) X.env)) (fun _ s'=>SP X pins D .next s') acc C') hK hc C I2 ir.sr (im.wk hK (fun l hl=>(ir.on l hl).1) Tn) (fun l hl=>(ir.on l hl).2) st2 f2 (fun s' H' E=>hT s' H' fp E) hlow (fun i hi=>?_) (fun s' H' E B'=>hE s' H' fp E B') ?_ rfl (fun z=>?_) ?_ ?_
 ·rw[ir.sr.len,I2.len];exact C.capLt i hi
 ·rcases hk with z | ⟨k,g,e1,e2,hk⟩
  ·exact .inl z
  ·exact .inr ⟨k,g,e1,e2,fun s' H' E B'=>hk s' H' fp E B'⟩
 ·rw[z,jg8]at q2;exact q2
 ·intro ys ρE E s3 l σ' F' H' s' vs hY hl I3 IY gE rE nF nO hl' rp;rw[hY,jeg]at q2;have q2:Ok (XW Z X σ ρ H) (if j < (unlk t.2.1 ρE).length then .ok (.nx ((unlk t.2.1 ρE).set j (.own (.l ys) false false)))else .stk) (FlP Z B σ ρ F H D):=q2;split at q2
  ·have q2:FlP Z B σ ρ F H D (.nx ((unlk t.2.1 ρE).set j (.own (.l ys) false false))):=q2
   ·obtain⟨m,hn,_⟩:=IY.loc;obtain⟨oC,es,ep,eC,dC,rC⟩:=id hn;have eC:s'.heap.get? s3.heap.objs.size=some oC:=eC;have IX:Inv X pins σ H' s':=jeh I3 fo IY (Heap.SameBut.refl _ _);have hCf:H' s3.heap.objs.size=none:=IY.free;have hCL:s3.heap.objs.size≠X.env.locals:=Nat.ne_of_gt I3.lt;have hCs:X.s₀.heap.objs.size<=s3.heap.objs.size:=I3.sz;have hCx:∀x c,X.env.cells.lookup x=some c->c≠s3.heap.objs.size:=fun x c e z=>by
     obtain⟨v,w⟩:=I3.cell x c e;exact absurd w.lt (by rw[z];exact jvb _)
    have hCp:∀p∈X.pn++pins,p.1≠s3.heap.objs.size:=fun p hp z=>by
     have:=ju3 (I3.pin p hp).1;rw[z]at this;exact absurd this (jvb _)
    have IP:Inv X (pins++[(s3.heap.objs.size,oC)]) σ H' s':=IX.pins_of fun p hp=>(List.mem_append.mp hp).elim (fun z=>IX.pin p (juC _ z)) fun z=>by
     have e:p=(s3.heap.objs.size,oC):=by simpa using z
     subst e;exact⟨eC,hCf,hCL,I3.nofs (ju7 _),fun v z=>by rw[dC]at z;cases z⟩
    have hlH:H l=none:=ir.go.free hl;have r':SR Z B F' H' (σ.set j (some (.ref l))) ((unlk t.2.1 ρE).set j (.own (.l ys) false false)):=rE.unlk.putOwn nF (fun z=>nO z.unlk) (r.base l hlH) ⟨vs,hl',rp⟩;have g':Go σ ρ F H (σ.set j (some (.ref l))) ((unlk t.2.1 ρE).set j (.own (.l ys) false false)) F' H':=(ir.un σ ρE F' H' gE).putOwn hlH;show wpAny _ X.A (assign (.Name y py) X.env (.ref l)) _ _ _;refine wpAny_assign_Name (jdN IP nd hj hy (v:=.ref l) rfl (fun s4 I4=>?_) hf);have e4:s4.heap.get? s3.heap.objs.size=some oC:=(I4.pin (s3.heap.objs.size,oC) (by simp)).1
    refine⟨m,⟨oC,es,ep,e4,dC,rC⟩,fun h5 sb=>?_⟩;have I5:Inv X pins (σ.set j (some (.ref l))) H' { s4 with heap:=h5 }:=(I4.unpinned).turned (t':=s4.toks) (it:=s3.heap.objs.size) (fun b o hb e=>(sb.2 b hb).trans e) hCf hCL (.inr hCs) hCx hCp
    exact⟨_,H',I5,q2 _ F' H' g' r'⟩
  ·exact False.elim q2
 ·intro c E s3 l σ' H' s' pins' ea Cc hY hl I3 hC IY stl fly;rw[hY]at q2;obtain⟨hx,q2⟩:=jg9 q2;exact jha (Tp hx) I3 fo IY fly fun s'' I'' fl''=>q2 pins H' s'' ea Cc hC I'' (Stl.go ir.go stl) fl''
noncomputable def toSs:List S->Ss
 |[]=>.nil
 |s::ss=>.cons s (toSs ss)
noncomputable def jpy (sc:List (Str×NameKind))(x:Str):Bool:=sc.lookup x == some .local || sc.lookup x == some .cell
noncomputable def jkq:Expr->Bool
 |.ListComp ..=>false
 |.SetComp ..=>false
 |.DictComp ..=>false
 |_=>true
noncomputable def isTup:Expr->Bool
 |.Tuple ..=>true
 |_=>false
noncomputable def jrP (T:Tab)(sc:List (Str×NameKind))(x:Str):Option Nat:=gd (jdi x || knd sc x != 2) (jed T.excs x)
section
variable (T:Tab)
noncomputable def jpz (e:Expr):Option (Str×Str×List Expr):=match e with
 |.Call f as ks pos=>gd (!ks.isEmpty) ((js6 f).bind fun p=>gd (!(p.2.2.endLine == pos.line)) ((jla p.1).map fun x=>(x,p.2.1,as)))
 |_=>none
theorem jkr {e:Expr}{p:Str×Str×List Expr}(h:jpz e=some p):∃xp apos cpos,e=.Call (.Attribute (.Name p.1 xp) p.2.1 apos) p.2.2 [] cpos/\(apos.endLine == cpos.line)=true:=by
 cases e with
 |Call f as ks pos=>
  replace h:=jal h;obtain⟨hk,h⟩:=h;cases jcf hk;replace h:=jaf h;obtain⟨⟨v,m,apos⟩,hf,h⟩:=h;cases jhe hf;replace h:=jal h;obtain⟨hl,h⟩:=h;replace h:=jap h;obtain⟨x,hx,rfl⟩:=h;obtain⟨np,rfl⟩:=jbx hx;exact⟨np,apos,pos,rfl,jbG hl⟩
 |_=>exact jae h
noncomputable def juj (tr:Expr->Option E)(q:Bool)(sc:List (Str×NameKind))(N:List Str)(e t:Expr):Option S:=
 joX (jla t) (fun x=>gd (!jpy sc x) (o2 (jed N x) (tr e) .asg)) <|
 none
noncomputable def jtU (tr:Expr->Option E)(i:Nat)(m:Str)(as:List Expr):Option S:=
 alt (m == "append") ((jh0 as).bind fun e=>(tr e).map (.app i)) <|
 none
noncomputable def jpA (tr:Expr->Option E)(sc:List (Str×NameKind))(N:List Str)(e:Expr):Option S:=match jpz e with
 |some p=>gd (jdi p.1 || knd sc p.1 != 1) ((jed N p.1).bind fun i=>jtU tr i p.2.1 p.2.2)
 |none=>gd (!jkq e) ((tr e).map .expr)
noncomputable def juk (n:Nat)(trs:Bool->List (Str×NameKind)->List Str->Stmt->Option S)(q:Bool)(sc:List (Str×NameKind))(N:List Str):Stmt->Option S
 |.Return v _=>match v with
  |some e=>(trE { T with quiet:=q } n sc N e).map .ret
  |none=>some .retN
 |.Pass _=>some .pas
 |.Break _=>some .brk
 |.Continue _=>some .cnt
 |.Assign ts e _=>(jh0 ts).bind (juj (trE { T with quiet:=q } n sc N) q sc N e)
 |.While c body oe _=>gd (q || !oe.isEmpty) (o2 (trE { T with quiet:=q } n sc N c) (mapO (trs q sc N) body) fun c b=>.whl c (toSs b))
 |.If c a b _=>o3 (trE { T with quiet:=q } n sc N c) (mapO (trs q sc N) a) (mapO (trs q sc N) b) fun c a b=>.ife c (toSs a) (toSs b)
 |.For tg iter body oe _=>gd (q || !oe.isEmpty) ((jc7 tg).bind fun p=>gd (!p.1.all (jpy sc)) (o3 (mapO (jed N) p.1) (jqh { T with quiet:=q } sc (trE { T with quiet:=q } n sc N) p.2 iter) (mapO (trs q sc N) body) fun is it b=>.loop is p.2 it (toSs b)))
 |.Raise x c _=>gd (q || c.isSome) (x.bind fun e=>(jdC e).bind fun p=>(jh0 p.2).bind fun a=>o2 (jrP T sc p.1) (trE { T with quiet:=q } n sc N a) .rai)
 |.Expr e _=>jpA (trE { T with quiet:=q } n sc N) sc N e
 |_=>none
noncomputable def trS:Nat->Bool->List (Str×NameKind)->List Str->Stmt->Option S
 |0=>fun _ _ _ _=>none
 |n + 1=>juk T n (trS n)
end
structure XT (T:Tab)(G:Calls)(U:Nat->Nat->Bool)(Z:Kn)(n:Nat)(X:Cx)(sc:List (Str×NameKind)):Prop extends XD T G U Z n X sc where
 fn:∀x,X.fn x=true
 own:T.quiet=false->PassesOwn (model X.prog X.w) X.A X.env X.xe
 hex:X.ex=[]
 hst:X.stack=X.env::X.outer
 hfr:X.env.frame=some X.env.locals
 rcl:∀C∈Z.cl,Rcl Z.K C
variable {T:Tab}{G:Calls}{U:Nat->Nat->Bool}{Z:Kn}{m W:Nat}
theorem XT.loc {X:Cx}{sc:List (Str×NameKind)}(D:XT T G U Z m X sc){x:Str}(h:jpy sc x=true):L2.Loc X.env.scope x:=by
 unfold jpy at h;simp only[Bool.or_eq_true,beq_iff_eq]at h;unfold L2.Loc;rcases D.sc x with e | ⟨e,_⟩
 ·rw[e];exact h
 ·rw[e]at h;rcases h with z | z <;> cases z
theorem jks {X:Cx}{sc:List (Str×NameKind)}(D:XT T G U Z m X sc):∀{xs:List Str}{ps:List Pos}{is:List Nat},ps.length=xs.length->xs.all (jpy sc)=true->mapO (jed X.N) xs=some is->TgsOk X ((xs.zip ps).map fun p=>Expr.Name p.1 p.2) is
 |[],_,is,_,_,h=>by cases h;exact .nil
 |x::xs,[],_,h,_,_=>by simp at h
 |x::xs,p::ps,is,h,ha,hm=>by
  obtain⟨i,is',h1,h2,rfl⟩:=jax hm;simp only[List.all_cons,jvc]at ha;exact .cons (jaZ h1) (D.loc ha.1) (.inl (D.fn x)) (jks D (by simpa using h) ha.2 h2)
theorem jrQ {X:Cx}{sc:List (Str×NameKind)}(D:XT T G U Z m X sc){tg:Expr}{xs:List Str}{one:Bool}{is:List Nat}(ht:jc7 tg=some (xs,one))(ha:xs.all (jpy sc)=true)(hm:mapO (jed X.N) xs=some is):TgOk X tg is one/\(one=false->∃es k pos,tg=.Tuple es k pos):=by
 rcases jkj ht with ⟨x,p,rfl,rfl,rfl⟩ | ⟨es,k,p,rfl,q,rfl⟩
 ·obtain⟨i,is',h1,h2,rfl⟩:=jax hm;cases h2;simp only[List.all_cons,List.all_nil,Bool.and_true]at ha;exact⟨.one (jaZ h1) (D.loc ha) (.inl (D.fn x)),fun z=>by cases z⟩
 ·obtain⟨ps,l1,l2,e⟩:=jnK q;refine⟨?_,fun _=>⟨_,_,_,rfl⟩⟩;rw[e];exact .many (jks D l2 ha hm)
theorem jhi {e:Expr}(h:jkq e=true){t:Option Expr}{l:Nat}{env:Env}:swapsWith e t l env=pure false:=by
 unfold swapsWith;cases e <;> first | rfl | cases h
theorem tS.congr {X:Cx}{B:Bs}{f g:Rho->R Fl}(h:∀ρ,f ρ=g ρ):tS Z X B f=tS Z X B g:=by rw[show f=g from funext h]
theorem tSx.congr {X:Cx}{B:Bs}{f g:Rho->R Fl}(h:∀ρ,f ρ=g ρ):tSx Z X B f=tSx Z X B g:=by rw[show f=g from funext h]
theorem jkt {X:Cx}{B:Bs}{n:Nat}{q:Bool}{sc:List (Str×NameKind)}(ih:∀s S',trS T n q sc X.N s=some S'->PS X s (tS Z X B (evS G U W S'))):∀{ss:List Stmt}{Ss':List S},mapO (trS T n q sc X.N) ss=some Ss'->PSs X ss (tS Z X B (evSs G U W (toSs Ss')))
 |[],Ss',h=>by
  cases h;rw[tS.congr (g:=fun ρ=>.ok (.nx ρ)) fun ρ=>by simp only[toSs,evSs]]
  exact jrL
 |s::ss,Ss',h=>by
  obtain⟨S1,Sr,h1,h2,rfl⟩:=jax h;have:=jpx (ih s S1 h1) (jkt ih h2);rw[tS.congr (g:=fun ρ=>(evS G U W S1 ρ).bind (joM (evSs G U W (toSs Sr)))) fun ρ=>by simp only[toSs,evSs]]
  exact this
theorem jrR {X:Cx}{sc:List (Str×NameKind)}(D:XD T G U Z m X sc){x:Str}{c:Nat}(h:jrP T sc x=some c):jdi x=false/\knd sc x=2/\∃C,Z.cl[c]?=some C/\X.mg x=some (.ref C):=by
 replace h:=jal h;obtain⟨hc,h⟩:=h;replace hc:=jb4 hc;obtain⟨c1,c2⟩:=hc;exact⟨c1,jf6 c2,D.excs c x (jaZ h)⟩
end DJ
namespace DJ
open PySem PySem.Spec PyProof.Rows L2
variable {T:Tab}{G:Calls}{U:Nat->Nat->Bool}{Z:Kn}{m W:Nat}
theorem PS.cg {X:Cx}{B:Bs}{s:Stmt}{f g:Rho->R Fl}(h:PS X s (tS Z X B g))(e:∀ρ,f ρ=g ρ):PS X s (tS Z X B f):=by
 rw[tS.congr e];exact h
theorem PS.cgx {X:Cx}{B:Bs}{s:Stmt}{f g:Rho->R Fl}(h:PS X s (tSx Z X B g))(e:∀ρ,f ρ=g ρ):PS X s (tSx Z X B f):=by
 rw[tSx.congr e];exact h
theorem jpB {n:Nat}{X:Cx}{sc:List (Str×NameKind)}{B:Bs}{q:Bool}(D:XT { T with quiet:=q } G U Z m X sc){x:Str}{px pos:Pos}{e:Expr}{i:Nat}{E':E}(hl:jpy sc x=true)(hi:jed X.N x=some i)(he:trE { T with quiet:=q } n sc X.N e=some E') :
  PS X (.Assign [.Name x px] e pos) (tS Z X B (evS G U W (.asg i E'))):=by
 have S:=jc8 n _ X sc e E' D.toXD he;have hK:=D.hK;have hN:=jaZ hi;have hx:=D.loc hl;rw[tS.congr (g:=fun ρ=>(evE G U E' ρ).bind fun p=>(jgV p.1 p.2).bind fun q=>if i < q.2.length then .ok (.nx (q.2.set i q.1))else .stk) fun ρ=>by simp only[evS]]
 refine PS.x ?_;have plain:swapsWith e (some (.Name x px)) pos.line X.env=pure false->PS X (.Assign [.Name x px] e pos) (tSx Z X B fun ρ=>(evE G U E' ρ).bind fun p=>(jgV p.1 p.2).bind fun q=>if i < q.2.length then .ok (.nx (q.2.set i q.1))else .stk):=fun hs=>jrK D.nd hN hx (.inl (D.fn x)) (S.pe B) hs;cases hp:jkq e with
 |true=>exact plain (jhi hp)
 |false=>
 cases n with
 |zero=>exact jae he
 |succ n=>
 cases e with
 |ListComp elt gens scope cpos=>
  obtain⟨hq,tg,iter,ks,N,cn,nt,caps,tgs,one,it,fc,Ee,Ec,rfl,rfl,cd,ev⟩:=jfh D.toXD (jc8 n _) (jc8 n _) he;have hsw:swapsWith (.ListComp elt [⟨tg,iter,ks,0⟩] scope cpos) (some (.Name x px)) pos.line X.env=pure (X.env.blockKind == .function && X.env.kindOf x == some .local && px.line == (Expr.ListComp elt [⟨tg,iter,ks,0⟩] scope cpos).pos.line && !(scope.names.any fun p=>p.1 == x && (p.2 == .local || p.2 == .cell))):=rfl;generalize (X.env.blockKind == .function && X.env.kindOf x == some .local && px.line == (Expr.ListComp elt [⟨tg,iter,ks,0⟩] scope cpos).pos.line && !(scope.names.any fun p=>p.1 == x && (p.2 == .local || p.2 == .cell)))=bb at hsw;cases bb with
  |false=>exact plain hsw
  |true=>
   have:=jh3 (pos:=cpos) (spos:=pos) (py:=px) hK D.nd hN hx (.inl (D.fn x)) hsw (D.calm hq) cd.C (cd.hi B) cd.hT cd.hlow cd.hE (xx:=!T.deep) (fun z=>D.top (by cases e:T.deep with | false=>rfl | true=>rw[e]at z;cases z)) cd.hK cd.hs
   rw[tSx.congr (f:=fun ρ=>(evE G U (E.comp Ee tgs one nt caps it Ec (!T.deep)) ρ).bind _) (g:=_) fun ρ=>?_]
   ·exact this
   ·rw[ev ρ]
 |SetComp a b c d=>exact jae he
 |DictComp a b c d f=>exact jae he
 |_=>cases hp
theorem jpC {n:Nat}{X:Cx}{sc:List (Str×NameKind)}{B:Bs}{q:Bool}(D:XT { T with quiet:=q } G U Z m X sc){x m':Str}{xp apos cpos pos:Pos}{as:List Expr}{i:Nat}{S':S}(hv:PE X (.Name x xp) (jst i))(hline:(apos.endLine == cpos.line)=true)(h:jtU (trE { T with quiet:=q } n sc X.N) i m' as=some S') :
  PS X (.Expr (.Call (.Attribute (.Name x xp) m' apos) as [] cpos) pos) (tS Z X B (evS G U W S')):=by
 have hK:=D.hK;have ih:∀{e E'},trE { T with quiet:=q } n sc X.N e=some E'->Says G U Z X e E':=fun {e E'} h=>jc8 n _ X sc e E' D.toXD h
 refine PS.x ?_;replace h:=jar h;rcases h with ⟨hm,h⟩ | h
 ·cases jbU hm;replace h:=jaf h;obtain⟨e,h1,h⟩:=h;cases jaD h1;replace h:=jap h;obtain⟨E',he,rfl⟩:=h;have S:=ih he;rw[tSx.congr (g:=fun ρ=>match ρ[i]? with
   |some (.own (.l _) _ _)=>(evE G U E' ρ).bind fun p=>(toD p.1 p.2).bind fun q=>match q.2[i]? with
    |some (.own (.l xs) f false)=>if fits (xs.length + 1)then .ok (.nx (q.2.set i (.own (.l (xs++[q.1])) f false)))else .stk
    |_=>.stk
   |_=>.stk) fun ρ=>by simp only[evS] <;> rfl]
  exact jrM hK hv (S.pe B) S.ns hline
 exact jae h
theorem jpD:∀(n:Nat) (X:Cx) (sc:List (Str×NameKind)) (B:Bs) (q:Bool) (s:Stmt) (S':S),XT { T with quiet:=q } G U Z m X sc->trS T n q sc X.N s=some S'->PS X s (tS Z X B (evS G U W S')):=by
 intro n;induction n with
 |zero=>intro X sc B q s S' D h;exact jae h
 |succ n ih=>
  intro X sc B q s S' D h;have ihX:∀{ss:List Stmt}{Ss':List S},mapO (trS T n q sc X.N) ss=some Ss'->PSs X ss (tS Z X B (evSs G U W (toSs Ss'))):=jkt fun s S' h=>ih X sc B q s S' D h;have sa:∀{e E'},trE { T with quiet:=q } n sc X.N e=some E'->Says G U Z X e E':=fun {e E'} h=>jc8 n _ X sc e E' D.toXD h
  have hK:=D.hK;cases s with
  |Return v pos=>
   cases v with
   |some e=>
    replace h:=jap h;obtain⟨E',w,rfl⟩:=h;exact PS.cg (PS.x (jrH ((sa w).pe B))) fun ρ=>by simp only[evS] <;> rfl
   |none=>
    cases h;exact PS.cg (PS.x jpt) fun ρ=>by simp only[evS] <;> rfl
  |Pass pos=>
   cases h;exact PS.cg (PS.x jpu) fun ρ=>by simp only[evS] <;> rfl
  |Break pos=>
   cases h;exact PS.cg (PS.x jrI) fun ρ=>by simp only[evS] <;> rfl
  |Continue pos=>
   cases h;exact PS.cg (PS.x jrJ) fun ρ=>by simp only[evS] <;> rfl
  |Assign ts e pos=>
   replace h:=jaf h;obtain⟨t,ht,h⟩:=h;cases jaD ht;replace h:=jbQ h;rcases h with ⟨x,hx,h⟩ | h
   ·obtain⟨px,rfl⟩:=jbx hx;replace h:=jal h;obtain⟨hl,h⟩:=h;replace h:=jbF h;obtain⟨i,E',hi,he,rfl⟩:=h;exact jpB D (jbG hl) hi he
   exact jae h
  |While c body oe pos=>
   replace h:=jal h;obtain⟨hq,h⟩:=h;replace hq:=jb4 hq;obtain⟨hq,ho⟩:=hq;cases jcf ho;replace h:=jbF h;obtain⟨Ec,Sb,hc,hb,rfl⟩:=h;exact PS.cg (jrO (D.own hq) ((sa hc).pt B) (ihX hb)) fun ρ=>by simp only[evS] <;> rfl
  |If c a b pos=>
   replace h:=jc0 h;obtain⟨Ec,Sa,Sb,hc,ha,hb,rfl⟩:=h;exact PS.cg (jta ((sa hc).pt B) (ihX ha) (ihX hb)) fun ρ=>by simp only[evS] <;> rfl
  |For tg iter body oe pos=>
   replace h:=jal h;obtain⟨hq,h⟩:=h;replace hq:=jb4 hq;obtain⟨hq,ho⟩:=hq;cases jcf ho;replace h:=jaf h;obtain⟨⟨xs,one⟩,ht,h⟩:=h;replace h:=jal h;obtain⟨hl,h⟩:=h;replace h:=jc0 h;obtain⟨is,it,Sb,h1,h2,h3,rfl⟩:=h;obtain⟨hT,hone⟩:=jrQ D ht (jbG hl) h1;have hi:=jhh (tg:=tg) D.toXD (fun e E' z=>sa z) hone h2 B;exact PS.cg (jrN hK (D.own hq) (D.calm hq) D.nd hi hT (ihX h3) (jff (jdD h2))) fun ρ=>by simp only[evS] <;> rfl
  |Raise x c pos=>
   replace h:=jal h;obtain⟨hq,h⟩:=h;replace hq:=jb4 hq;obtain⟨hq,hc⟩:=hq;cases c with
   |some _=>cases hc
   |none=>
   replace h:=jaf h;obtain⟨e,h1,h⟩:=h;cases h1;replace h:=jaf h;obtain⟨⟨x,as⟩,h2,h⟩:=h;obtain⟨np,cpos,rfl⟩:=jbS h2;replace h:=jaf h;obtain⟨a,h3,h⟩:=h;cases jaD h3;replace h:=jbF h;obtain⟨c,E',hc,he,rfl⟩:=h;obtain⟨hb,hk,C,hC,hm⟩:=jrR (T:={ T with quiet:=q }) D.toXD hc
   have S:=sa he;exact PS.cg (jmE hK (D.calm hq) (D.rcl C (juD hC)) hC (D.gl hk) hm (je8 hb).1 (S.pe B) S.ns) fun ρ=>by simp only[evS] <;> rfl
  |Expr e pos=>
   replace h:jpA (trE { T with quiet:=q } n sc X.N) sc X.N e=some S':=h
   unfold jpA at h;cases ha:jpz e with
   |some p=>
    rw[ha]at h;obtain⟨x,m',as⟩:=p;obtain⟨xp,apos,cpos,rfl,hline⟩:=jkr ha;replace h:=jal h;obtain⟨hc,h⟩:=h;replace hc:=jb4 hc;obtain⟨hb,hk⟩:=hc;replace h:=jaf h;obtain⟨i,hi,h⟩:=h;exact jpC D (jno (jaZ hi) (D.vis (jf6 hk)) (je8 hb).1 (jrk hb)) hline h
   |none=>
    rw[ha]at h;replace h:=jal h;obtain⟨hp,h⟩:=h;replace h:=jap h;obtain⟨E',w,rfl⟩:=h;refine PS.x ?_;exact PS.cgx (jpv ((sa w).pe B) (jhi (jbG hp))) fun ρ=>by simp only[evS] <;> rfl
  |_=>exact jae h
end DJ
namespace DJ
open PySem PySem.Spec PyProof.Rows L2
structure DefS where
 name:Str
 N:List Str
 ps:List Str
 st:Stmt
theorem jtb {α:Type}{P:α->Prop}:∀x∈([]:List α),P x:=fun _ h=>nomatch h
theorem jcE {α:Type}{P:α->Prop}{a:α}{l:List α}(h:P a)(t:∀x∈l,P x):∀x∈a::l,P x:=List.forall_mem_cons.mpr ⟨h,t⟩
noncomputable def From {α:Type}(Q:Nat->α->Prop)(k:Nat)(l:List α):Prop:=∀(i:Nat) (d:α),l[i]?=some d->Q (k + i) d
theorem jku {α:Type}{Q:Nat->α->Prop}{k:Nat}:From Q k []:=fun _ _ h=>by cases h
theorem jay {α:Type}{Q:Nat->α->Prop}{k:Nat}{a:α}{l:List α}(h:Q k a)(t:From Q (k + 1) l):From Q k (a::l):=fun i d e=>by
 cases i with
 |zero=>cases e;exact h
 |succ i=>
  have:=t i d e;rwa [Nat.add_assoc,Nat.add_comm 1 i]at this
theorem From.at {α:Type}{Q:Nat->α->Prop}{l:List α}(h:From Q 0 l):∀(i:Nat) (d:α),l[i]?=some d->Q i d:=fun i d e=>by
 have:=h i d e;rwa [Nat.zero_add]at this
theorem jul {α:Type}{P:List α->Prop}(h:P []):∀us:List α,us.length=0->P us
 |[],_=>h
theorem jtV {α:Type}{P:List α->Prop}{n:Nat}(h:∀a (r:List α),r.length=n->P (a::r)):∀us:List α,us.length=n + 1->P us
 |a::r,e=>h a r (Nat.succ.inj e)
theorem jfi {α:Type}{P:List α->Prop}(h:∀a,P [a]):∀us:List α,us.length=1->P us:=jtV fun a=>jul (P:=fun r=>P (a::r)) (h a)
theorem len2 {α:Type}{P:List α->Prop}(h:∀a b,P [a,b]):∀us:List α,us.length=2->P us:=jtV fun a=>jfi (P:=fun r=>P (a::r)) (h a)
noncomputable def BindP (d:DefS):Prop:=∀(kV doc pm:Value) (an:Option Addr) (cdv ct:Value) (us:List Value),us.length=d.ps.length->bindArgs (PySem.W.fnOf d.name d.name (defArgs d.st) (defBody d.st) (defScope d.st) .none kV doc pm an cdv ct) ⟨us,[]⟩=pure (d.ps.zip us)
structure Prog (K:Frag)(mg:Str->Option Value)(Z:Kn)(U:Nat->Nat->Bool)(T:Tab)(DS:List DefS)(P:List Def)(fuel:Nat):Prop where
 hK:K=Z.K
 loud:T.quiet=false
 tab:T.defs=DS.map (·.name)
 blt:∀x∈bltNames,mg x=none
 cons:∀x d,T.cons.lookup x=some d->∃u v,mg x=some u/\RelV v u/\∀F H,Rep Z F H d v
 excs:∀(i:Nat) (nm:Str),T.excs[i]?=some nm->∃C,Z.cl[i]?=some C/\mg nm=some (.ref C)
 ecs:Ecs U Z
 rcl:∀C∈Z.cl,Rcl Z.K C
 fns:∀(i:Nat) (d:DefS),DS[i]?=some d->∃f fd,mg d.name=some (.ref f)/\Fun K d.name d.name d.st f fd/\BindP d/\FnScope d.N d.ps (defScope d.st) /\
  ∃ss,mapO (trS T fuel false (defScope d.st).names d.N) (defBody d.st)=some ss/\P[i]?=some ⟨d.ps.length,d.N.length,toSs ss⟩
section
variable {Z:Kn}{B:Bs}{F F':Addr->Prop}{H H':Hp}{N:List Str}{vs:List V}{sls:List Sl}{n:Nat}{σ':L2.St}{ρ':Rho}
theorem jct {i:Nat}{s:Sl}(hs:s≠.no)(h:(sls++List.replicate n Sl.no)[i]?=some s):sls[i]?=some s:=by
 by_cases hi:i < sls.length
 ·rwa [juI hi]at h
 ·rw[juE (by omega),List.getElem?_replicate]at h
  split at h
  ·cases h;exact absurd rfl hs
  ·cases h
theorem jkv {i:Nat}{v:V}(h:vs[i]?=some v):(start N vs)[i]?=some (some v):=by
 unfold L2.start;rw[juI (by rw[juA];exact(List.getElem?_eq_some_iff.mp h).1),jux,h]
 rfl
theorem jbT {i:Nat}(hi:i < vs.length):(start N vs)[i]?=(vs.map some)[i]?:=by
 rw[jkv (jur hi),jux,jur hi];rfl
theorem jmF (hN:vs.length<=N.length)(r:SR Z B F H (vs.map some) sls):SR Z B F H (start N vs) (sls++List.replicate (N.length - sls.length) .no):=by
 have hl:sls.length=vs.length:=by have:=r.len;simpa using this
 have lt:∀{i:Nat}{s:Sl},sls[i]?=some s->i < vs.length:=fun h=>by rw[<-hl];exact(List.getElem?_eq_some_iff.mp h).1
 refine⟨r.dom,?_,fun i d h=>?_,fun i o f k h=>?_,fun i j o o' f k f' k' l ne h h'=>?_,r.base⟩
 ·unfold L2.start;simp[hl]
 ·have h:=jct (by intro z;cases z) h
  rw[jbT (lt h)];exact r.dat i d h
 ·have h:=jct (by intro z;cases z) h
  rw[jbT (lt h)];exact r.own i o f k h
 ·have h:=jct (by intro z;cases z) h
  have h':=jct (by intro z;cases z) h'
  rw[jbT (lt h),jbT (lt h')];exact r.one i j _ _ _ _ _ _ l ne h h'
theorem jej (hl:sls.length=vs.length){b:Addr}(h:Mb (start N vs) (sls++List.replicate n .no) b):Mb (vs.map some) sls b:=by
 obtain⟨i,o,f,h1,h2⟩:=h;have h1:=jct (by intro z;cases z) h1
 rw[jbT (by rw[<-hl];exact(List.getElem?_eq_some_iff.mp h1).1)]at h2
 exact⟨i,o,f,h1,h2⟩
theorem jmG {k:Nat}{ρ:Rho}{j:Nat}{o:O}{f g:Bool}(h:(jhX k ρ)[j]?=some (.own o f g)):f=true/\ρ[j]?=some (.own o true g)/\j < k:=by
 unfold jhX at h;rw[jux]at h;have hj:j < k:=by
  refine Nat.lt_of_not_le fun z=>?_;rw[juH (by simpa using z)]at h
  cases h
 rw[jur (by simpa using hj),List.getElem_range]at h
 simp only[Option.map_some]at h;split at h
 ·rename_i s e;rw[e];cases s with
  |no=>cases h
  |dat d=>cases h
  |own o1 f1 g1=>
   cases f1 with
   |true=>cases h;exact⟨rfl,rfl,hj⟩
   |false=>cases h
 ·cases h
theorem jmH {k:Nat}{ρ:Rho}{j:Nat}{d:D}:(jhX k ρ)[j]?≠some (.dat d):=by
 intro h;unfold jhX at h;rw[jux]at h;cases e:(List.range k)[j]? with
 |none=>rw[e]at h;cases h
 |some i=>
  rw[e]at h;simp only[Option.map_some]at h;split at h
  ·rename_i s _;cases s with
   |no=>cases h
   |dat d=>cases h
   |own o1 f1 g1=>cases f1 <;> cases h
  ·cases h
theorem jnM (hl:sls.length=vs.length)(hB:∀(k:Nat) (l:Addr),B.lent k=some l->(vs.map some)[k]?=some (some (.ref l)))(g:Go (start N vs) (sls++List.replicate n .no) F H σ' ρ' F' H')(r:SR Z B F' H' σ' ρ') :
  Go (vs.map some) sls F H (vs.map some) (jhX vs.length ρ') F' H'/\SR Z B F' H' (vs.map some) (jhX vs.length ρ')/\∀w u H0,(∀i,w≠.slot i)->RV Z F' H0 H' σ' ρ' w u->RV Z F' H0 H' (vs.map some) (jhX vs.length ρ') w u:=by
 have own:∀{j:Nat}{o:O}{f k:Bool},(jhX vs.length ρ')[j]?=some (.own o f k)->f=true/\ρ'[j]?=some (.own o true k)/\j < vs.length/\∃l,σ'[j]?=some (some (.ref l))/\(vs.map some)[j]?=some (some (.ref l))/\OwR Z B F' H' j o true l:=fun {j o f k} h=>by
  obtain⟨rfl,e,hj⟩:=jmG h;obtain⟨l,e1,e2⟩:=r.own j o _ _ e;exact⟨rfl,e,hj,l,e1,hB j l (e2.2.2.1 rfl),e2⟩
 refine⟨⟨fun b o e nm=>g.stay b o e fun z=>nm (jej hl z),g.sub,fun a ha=>?_,fun j o f k b h1 h2=>?_,g.there⟩,⟨r.dom,by simp[jhX],fun i d h=>absurd h jmH,fun i o f k h=>?_,fun i j o o' f k f' k' l ne h h' q q'=>?_,r.base⟩,fun w u H0 hw rv=>?_⟩
 ·rcases g.new a ha with q | q | q
  ·exact .inl q
  ·exact .inr (.inl q)
  ·exact .inr (.inr (jej hl q))
 ·obtain⟨rfl,e,hj,l,e1,e2,_⟩:=own h1;rw[h2]at e2;cases e2;rcases g.ow j o true k b e e1 with ⟨o0,k0,a1,a2,a3⟩ | q
  ·have a1:=jct (by intro z;cases z) a1
   rw[jbT hj]at a2;exact .inl ⟨o0,k0,a1,a2,a3⟩
  ·exact .inr q
 ·obtain⟨rfl,e,hj,l,e1,e2,e3⟩:=own h;exact⟨l,e2,e3⟩
 ·obtain⟨rfl,e,hj,l1,e1,e2,_⟩:=own h;obtain⟨rfl,e',hj',l1',e1',e2',_⟩:=own h';rw[q]at e2;cases e2;rw[q']at e2';cases e2';exact r.one i j _ _ _ _ _ _ l ne e e' e1 e1'
 ·cases w with
  |dat d=>exact rv
  |tmp o=>
   obtain⟨l,e,h1,h2,h3,h4⟩:=rv;refine⟨l,e,h1,fun z=>h2 ?_,h3,h4⟩;obtain⟨j,o',f',k',z1,z2⟩:=z;obtain⟨rfl,e,hj,l1,e1,e2,_⟩:=own z1;rw[z2]at e2;cases e2;exact⟨j,o',_,k',e,e1⟩
  |slot i=>exact absurd rfl (hw i)
end
theorem Stl.start {N:List Str}{vs:List V}{sls:List Sl}{n:Nat}{H H':Hp}(hl:sls.length=vs.length)(s:Stl (start N vs) (sls++List.replicate n .no) H H'):Stl (vs.map some) sls H H':=⟨fun b o e nm=>s.stay b o e fun z=>nm (jej hl z),s.there⟩
theorem jpE {Pr:Program}{w:World}{K:Frag}{mg:Str->Option Value}{base:Heap}{Z:Kn}{U:Nat->Nat->Bool}{T:Tab}{DS:List DefS}{P:List Def}{fuel W:Nat}(R:Prog K mg Z U T DS P fuel) :
  ∀(n i:Nat) (d:DefS) (f:Addr) (fd:FuncData),DS[i]?=some d->mg d.name=some (.ref f)->Fun K d.name d.name d.st f fd->FnOk Pr w K mg base (CXD Pr w) n f fd d.ps (spD Z (jaa U W P n) i):=by
 intro n;induction n with
 |zero=>
  intro i d f fd hd hm h2;refine⟨fun vs H Q E h=>?_,fun A outer s H args us vs Q E hr e0 hb hv h=>?_⟩
  ·obtain⟨B,F,sls,_,_,_,h⟩:=h;exact False.elim h
  ·obtain⟨B,F,sls,_,_,_,h⟩:=h;exact False.elim h
 |succ n ih=>
  intro i d f fd hd hm h2;obtain⟨f0,fd0,g1,g2,h3,h4,ss,h5,h6⟩:=R.fns i d hd;have hsl:∀{B:Bs}{F:Addr->Prop}{H:Hp}{vs:List V}{sls:List Sl},SR Z B F H (vs.map some) sls->sls.length=vs.length:=fun r=>by have:=r.len;simpa using this
  have hlen:∀vs H Q E,spD Z (jaa U W P (n + 1)) i vs H Q E->vs.length=d.ps.length:=fun vs H Q E ⟨B,F,sls,r,_,_,h⟩=>by
   simp only[jaa,h6]at h;split at h
   ·rename_i hl;rw[<-hsl r];exact hl
   ·exact False.elim h
  obtain⟨oc,od,kV,doc,pm,an,cdv,ct,osl,rfl,lk,hcd⟩:=h2.ex;refine jsL lk hcd h4 hlen fun A outer s H vs Q E hr hsp=>?_;obtain⟨B,F,sls,r,hB1,hB2,h⟩:=hsp;have hls:=hsl r;simp only[jaa,h6]at h;split at h
  ·rename_i hl;have hpl:d.ps.length<=d.N.length:=by have:=congrArg List.length h4.pre;rw[List.length_take]at this;omega
   have hT:{ T with quiet:=false }=T:=by
    obtain⟨a,b,c,e,q,dp⟩:=T;have:q=false:=R.loud;subst this;rfl
   have D:XT { T with quiet:=false } (jaa U W P n) U Z n (jhH (CXD Pr w) Pr w K mg base d.N d.name (defScope d.st) f cdv A outer s H E) (defScope d.st).names:=by
    refine { hK:=R.hK,calm:=fun _=>rfl,nd:=h4.nd,room:=fun _=>hr,un:=hr.units,sc:=fun x=>.inl rfl,blt:=R.blt,defs:=fun j nm hj=>?_,cons:=R.cons,excs:=R.excs,ecl:=?_,sub:=?_,top:=fun _=>⟨fun _=>rfl,rfl,rfl⟩,fn:=fun _=>rfl,own:=fun _=>PassesOwn.leaving,hex:=rfl,hst:=rfl,hfr:=rfl,rcl:=R.rcl }
    ·have hj:T.defs[j]?=some nm:=hj;rw[R.tab,jux]at hj;cases q:DS[j]? with
     |none=>rw[q]at hj;cases hj
     |some d'=>
      rw[q]at hj;cases hj;obtain⟨f',fd',a1,a2,a3,_⟩:=R.fns j d' q;exact⟨f',fd',d'.ps,a1,a2.kp,a2.binds a3,ih j d' f' fd' q a1 a2⟩
    ·show ∀C∈Z.cl,ECls K C;rw[R.hK];exact R.ecs.ecl
    ·show ∀(i j:Nat) (C D:Addr),Z.cl[i]?=some C->Z.cl[j]?=some D->PySem.W.mroIn K C (.ref D)=some (U i j);rw[R.hK];exact R.ecs.sub
   refine⟨_,jkt (B:=B) (W:=W) (fun s' S' hs=>jpD fuel _ _ B false s' S' D hs) h5,?_⟩;have hN:d.N.length - d.ps.length=d.N.length - sls.length:=by rw[hl]
   have sr:=jmF (N:=d.N) (by rw[<-hls,hl];exact hpl) r
   rw[<-hN]at sr;refine⟨F,_,sr,h.bind.imp (fun c wc=>?_) fun fl z=>?_⟩
   ·intro σ1 ρ1 F1 H1 g1;refine⟨fun pins H' s' ea C hC I stl fly=>jrF I fly (wc C H' hC (Stl.start hls (Stl.go g1 stl))),fun pins H' s' h' ea C us hC I stl mk=>jpr I mk (wc C H' hC (Stl.start hls (Stl.go g1 stl)))⟩
   ·have hk:d.ps.length=vs.length:=by rw[<-hl,hls]
    cases fl with
    |nx ρ'=>
     intro σ' F' H' g r';obtain⟨a,b,c⟩:=jnM hls hB2 g r';rw[<-hk]at a b;exact z .non F' H' (fun _ z=>by cases z) a b (by show Rep _ _ _ _ _;simp only[Rep])
    |rt v ρ'=>
     intro u σ' F' H' ns g r' rv;obtain⟨a,b,c⟩:=jnM hls hB2 g r';have rv':=c v u B.hp ns rv;rw[hB1]at rv';rw[<-hk]at a b rv';exact z u F' H' ns a b rv'
    |bk ρ'=>exact False.elim z
    |ct ρ'=>exact False.elim z
  ·exact False.elim h
theorem jrS {Z:Kn}{H:Hp}{a:Addr}{ns:List Int}{G:Calls}{i:Nat}{fin:List Sl}(h:G i [.dat (.lst (ns.map .int))]=.ok (.dat (.bl true),fin))(hS:SqL Z.K H a (ns.map V.int)) :
  spD Z G i [.ref a] H (fun v _=>v=.bl true) fun _ _ _=>False:=by
 have rs:∀(F:Addr->Prop) (ms:List Int),Reps Z F H (ms.map D.int) (ms.map V.int):=fun F ms=>by
  induction ms with
  |nil=>exact .nil
  |cons m ms ih=>exact .cons (by simp only[Rep]) ih
 have rl:∃F:Addr->Prop,Dom F H/\FL Z.K F H a (ns.map V.int):=by
  rcases hS with h | h
  ·refine⟨fun b=>b=a,fun b e=>?_,.inl ⟨rfl,h⟩⟩;have e:b=a:=e;subst e;rcases h with h | ⟨o,h⟩
   ·exact⟨_,h⟩
   ·exact⟨_,h⟩
  ·exact⟨fun _=>False,fun b e=>e.elim,.inr h⟩
 obtain⟨F,dm,fl⟩:=rl;refine⟨⟨H,fun _=>none⟩,F,[.dat (.lst (ns.map .int))],⟨dm,rfl,fun j d e=>?_,fun j o f k e=>?_,fun j j' o o' f k f' k' l _ e=>?_,fun _ z=>z⟩,rfl,(fun _ _ z=>nomatch z),?_⟩
 ·cases j with
  |zero=>simp at e;subst e;exact⟨_,rfl,by simp only[Rep];exact⟨a,_,rfl,fl,rs F ns⟩⟩
  |succ j=>simp at e
 ·cases j with
  |zero=>simp at e
  |succ j=>simp at e
 ·cases j with
  |zero=>simp at e
  |succ j=>simp at e
 ·rw[h];intro v F' H' _ _ _ rp;have rp:Rep Z F' H' (.bl true) v:=rp;simpa only[Rep] using rp
theorem jkw {l:PySem.W.OpenLaw}{q:Program}{loose:List Str}{XP:(Str->Option Value)->Heap->Prop}{YP:World->Heap->Prop}{d:DefRec}{K:Params->Frag}{cl:List Addr}{U:Nat->Nat->Bool}{T:Tab}{DS:List DefS}{P:List Def}{fuel W n i:Nat}{x:Str}{dl:DefS}
  (hn:l.most=some 63) (hdf:d.params.defaults=[]) (hr:Room n callerA) (hY:∀(w:World) (h:Heap),YP w h->(K w.params).In h) (hi:DS[i]?=some dl) (hnm:dl.name=d.name) (hps:dl.ps=[x])
  (hP:∀(w:World) (mg:Str->Option Value) (h:Heap),(K w.params).In h->h.Ns mainGlobals mg->Prog (K w.params) mg ⟨K w.params,cl⟩ U T DS P fuel)
  (hlaw:∀ns:List Int,ns.length<=63->∃fin,jaa U W P n i [.dat (.lst (ns.map .int))]=.ok (.dat (.bl true),fin)) :
  PySem.W.WalkO q loose XP YP l.row.toRowW d [] (fun f vs=>PySem.call f vs):=by
 refine L2.jol (n:=63) (k:=n) (x:=x) (CX:=fun w=>CXD l.prog w) (sp:=fun w=>spD ⟨K w.params,cl⟩ (jaa U W P n) i) hn (by decide) hdf hr hY (fun w mg fa h KX G hmg=>?_) (fun w H a ns hl _ hS=>?_) fun w H s e s' hx=>?_
 ·have R:=hP w mg h KX G;obtain⟨f,fd,h1,h2,h3,h4,_⟩:=R.fns i dl hi;have h1':=h1;rw[hnm,hmg]at h1;cases h1;refine⟨fd,fun s u=>?_,fun base kb nb=>?_⟩
  ·obtain⟨oc,od,kV,doc,pm,an,cdv,ct,osl,rfl,lk,hcd⟩:=h2.ex;refine .of_eq ?_;have:=h3 kV doc pm an cdv ct [u] (by rw[hps];rfl)
   rw[hps]at this;exact this
  ·have R':=hP w mg base kb nb;have:=jpE (Pr:=l.prog) (w:=w) (base:=base) (W:=W) R' n i dl fa fd hi h1' h2;rw[hps]at this;exact this
 ·obtain⟨fin,hf⟩:=hlaw ns hl;exact jrS hf hS
 ·obtain⟨ea,cls,a0,H',B,_,_,_,_,_,_,_,_,_,z⟩:=hx;exact z
end DJ
namespace DJ
theorem jkx (g:Rho->R Fl)(ρ:Rho):joM g (.nx ρ)=g ρ:=rfl
theorem jky (g:Rho->R Fl)(v:Vl)(ρ:Rho):joM g (.rt v ρ)=.ok (.rt v ρ):=rfl
theorem jpF (g:Rho->R Fl)(ρ:Rho):joM g (.bk ρ)=.ok (.bk ρ):=rfl
theorem jpG (g:Rho->R Fl)(ρ:Rho):joM g (.ct ρ)=.ok (.ct ρ):=rfl
theorem jag {U:Nat->Nat->Bool}{W:Nat}{P:List Def}{n f:Nat}{xs:List Sl}{d:Def}(h:P[f]?=some d)(hl:xs.length=d.ps) :
  jaa U W P (n + 1) f xs=(evSs (jaa U W P n) U W d.body (xs++List.replicate (d.n - d.ps) .no)).bind (jbD d.ps):=by
 simp only[jaa,h,if_pos hl]
theorem jb6:∀{ds:List D}{ρ:Rho},jaB [] (ds.map Vl.dat) ρ=.ok (ds.map Sl.dat,ds.map (fun _=>none),ρ)
 |[],ρ=>rfl
 |d::ds,ρ=>by
  simp only[juy,jaB,List.headD_nil,jhW,toD,R.bind_ok',List.tail_nil,jb6]
theorem jcu:∀{ds:List D}{fin:List Sl}{ρ:Rho},ja8 (ds.map fun _=>none) fin ρ=ρ
 |[],fin,ρ=>by simp[ja8]
 |d::ds,[],ρ=>by simp[ja8]
 |d::ds,s::fin,ρ=>by simp only[juy,ja8];exact jcu
section
variable {G:Calls}{U:Nat->Nat->Bool}{ρ:Rho}{k:Nat}{es:Es}{fin:List Sl}
theorem jai (ds:List D){v:Vl}(he:evAs G U es ρ=.ok (ds.map Vl.dat,ρ))(hG:G k (ds.map Sl.dat)=.ok (v,fin)):evE G U (.call k [] es) ρ=.ok (v,ρ):=by
 simp only[evE,he,R.bind_ok',jb6,hG,jcu]
theorem jcg (ds:List D){b:Bool}(he:evAs G U es ρ=.ok (ds.map Vl.dat,ρ))(hG:G k (ds.map Sl.dat)=.ok (.dat (.bl b),fin)):evT G U (.call k [] es) ρ=.ok (b,ρ):=by
 simp only[evT,he,R.bind_ok',jb6,hG,jcu,deref,jbC]
end
theorem jcv {α:Type}{f:D->Rho->R (Option D×Rho)}{h:α->D}{g:α->D}{ρ:Rho}:∀{xs:List α},(∀x∈xs,f (h x) ρ=.ok (some (g x),ρ))->compGo f (xs.map h) ρ=.ok (xs.map g,ρ)
 |[],_=>rfl
 |x::xs,e=>by
  simp only[juy,compGo,e x jut,R.bind_ok',jcv fun y hy=>e y (jus _ hy)]
theorem jbk:∀(ns:List Int),jaW (ns.map D.int)=some ns
 |[]=>rfl
 |n::ns=>by simp only[juy,jaW,jbk ns,Option.map_some]
theorem jby {α:Type}{g:α->Bool}:∀(xs:List α),jas (xs.map fun x=>.bl (g x))=some (xs.map g)
 |[]=>rfl
 |x::xs=>by simp only[juy,jas,jby xs,Option.map_some]
theorem jbI:∀(ns:List Int),cmpDs (ns.map D.int)=true
 |[]=>rfl
 |n::ns=>by simp only[juy,cmpDs,jbh,jbI ns,Bool.and_self]
theorem jbJ:∀(ns:List Int),deeps (ns.map D.int)=0
 |[]=>rfl
 |n::ns=>by simp only[juy,deeps,deep,jbJ ns];rfl
theorem jek:∀(as bs:List Int),eqDs (as.map D.int) (bs.map D.int)=decide (as=bs)
 |[],[]=>rfl
 |[],b::bs=>by simp[eqDs]
 |a::as,[]=>by simp[eqDs]
 |a::as,b::bs=>by
  simp only[juy,eqDs,eqD,jek as bs,List.cons.injEq];by_cases h:a=b <;> simp[h]
noncomputable def tu (ns:List Int):D:=.tup (ns.map .int)
theorem jrT (as bs:List Int):eqR (tu as) (tu bs)=.ok (decide (as=bs)):=by
 unfold eqR tu;simp only[jbh,jbI,deep,jbJ,eqD,jek];rfl
end DJ
namespace DJ
section
variable {G:Calls}{U:Nat->Nat->Bool}{W:Nat}{ρ ρ':Rho}{s:S}{ss a:Ss}{c e e':E}{i:Nat}{b:Bool}
theorem jah (h:evS G U W s ρ=.ok (.nx ρ')):evSs G U W (.cons s ss) ρ=evSs G U W ss ρ':=by simp only[evSs,h,R.bind_ok',jkx]
theorem jb7 {v:Vl}(h:evS G U W s ρ=.ok (.rt v ρ')):evSs G U W (.cons s ss) ρ=.ok (.rt v ρ'):=by simp only[evSs,h,R.bind_ok',jky]
theorem jeH (h:evT G U c ρ=.ok (false,ρ)):evS G U W (.ife c a .nil) ρ=.ok (.nx ρ):=by simp only[evS,h,R.bind_ok',jvd,if_false,evSs]
theorem jdk {d:D}(h:evE G U e ρ=.ok (.dat d,ρ'))(hi:i < ρ'.length):evS G U W (.asg i e) ρ=.ok (.nx (ρ'.set i (.dat d))):=by simp only[evS,h,R.bind_ok',jgV,toD,if_pos hi]
theorem jrU {o:O}(h:evE G U e ρ=.ok (.tmp o,ρ'))(hi:i < ρ'.length):evS G U W (.asg i e) ρ=.ok (.nx (ρ'.set i (.own o false false))):=by simp only[evS,h,R.bind_ok',jgV,if_pos hi]
theorem jc9 {d:D}(h:evE G U e ρ=.ok (.dat d,ρ')):evS G U W (.ret e) ρ=.ok (.rt (.dat d) ρ'):=by simp only[evS,h,R.bind_ok',jl1]
theorem jel (h:evT G U c ρ=.ok (b,ρ')):evT G U (.not c) ρ=.ok (!b,ρ'):=by simp only[evT,h,R.bind_ok']
theorem jmI {c':E}(h:evT G U c ρ=.ok (false,ρ))(h':evT G U c' ρ=.ok (b,ρ')):evT G U (.or c c') ρ=.ok (b,ρ'):=by simp only[evT,h,R.bind_ok',jvd,if_false,h']
theorem jmJ (h:evE G U e ρ=.ok (.dat (.bl true),ρ))(h':evE G U e' ρ=.ok (.dat (.bl b),ρ')):evE G U (.and e e') ρ=.ok (.dat (.bl b),ρ'):=by simp only[evE,h,R.bind_ok',jcr,if_true,h']
theorem jf9 {xs:List D}(h:evE G U e ρ=.ok (.tmp (.l xs),ρ')):evE G U (.blt .tuple e) ρ=.ok (.dat (.tup xs),ρ'):=by simp only[evE,h,R.bind_ok',deref,O.toD,bfD,jaU]
end
end DJ
namespace DJ
open PySem
section
variable {d:D}{o:O}{i:Nat}{ρ:Rho}{xs:List D}{b:Bool}
theorem jam:deref (.dat d) ρ=.ok d:=rfl
theorem jda:deref (.tmp o) ρ=.ok o.toD:=rfl
theorem jh4:deref (.slot i) ρ=(match ρ[i]? with | some (.own o _ _)=>.ok o.toD | _=>.stk):=rfl
theorem jga:toD (.dat d) ρ=.ok (d,ρ):=rfl
theorem jpH:toD (.tmp o) ρ=.ok (o.toD,ρ):=rfl
theorem jmK:toD (.slot i) ρ=(match ρ[i]? with | some (.own o false false)=>.ok (o.toD,ρ.set i (.dat o.toD)) | _=>.stk):=rfl
theorem jmL:jgV (.dat d) ρ=.ok (.dat d,ρ):=rfl
theorem jmM:jgV (.tmp o) ρ=.ok (.own o false false,ρ):=rfl
theorem jkz:jgV (.slot i) ρ=(toD (.slot i) ρ).bind fun p=>.ok (.dat p.1,p.2):=rfl
theorem jpI:(O.l xs).toD=.lst xs:=rfl
theorem jmN:jl1 (.dat d) ρ=.ok (.rt (.dat d) ρ):=rfl
theorem jmO:jl1 (.tmp o) ρ=.ok (.rt (.tmp o) ρ):=rfl
theorem jkA:jl1 (.slot i) ρ=(match ρ[i]? with | some (.own o false false)=>.ok (.rt (.tmp o) (ρ.set i .no)) | _=>.stk):=rfl
theorem jmP:jcr (.dat (.bl b))=.ok b:=rfl
theorem jfj:jaU (.tup xs)=.ok xs:=rfl
theorem jch:jaU (.lst xs)=.ok xs:=rfl
theorem jdF:jaA (.dat (.tup xs)) ρ=.ok (xs,[],ρ):=rfl
theorem jh5:jaA (.dat (.lst xs)) ρ=.ok (xs,[],ρ):=rfl
theorem jh6:jaA (.tmp (.l xs)) ρ=.ok (xs,[],ρ):=rfl
theorem jgb:jaA (.slot i) ρ=(match ρ[i]? with
  |some (.own (.l xs) _ true)=>.ok (xs,[],ρ)
  |some (.own (.l xs) f false)=>.ok (xs,[i],ρ.set i (.own (.l xs) f true))
  |_=>.stk):=rfl
theorem jpJ {k:Nat}{v:Vl}:jbD k (.rt v ρ)=.ok (v,jhX k ρ):=rfl
theorem jpK {k:Nat}:jbD k (.nx ρ)=.ok (.dat .non,jhX k ρ):=rfl
theorem jpL {lo hi:Option Int}:jhV (.tup xs) lo hi=.ok (.dat (.tup (cut xs lo hi))):=rfl
theorem jmQ {a b:Int}:opD .add (.int a) (.int b)=.ok (.dat (.int (a + b))):=rfl
theorem jmR {a b:Int}:opD .sub (.int a) (.int b)=.ok (.dat (.int (a - b))):=rfl
theorem jmS {a b:Int}:opD .mul (.int a) (.int b)=if (-(2 ^ 64) < a/\a < 2 ^ 64)\/(-(2 ^ 64) < b/\b < 2 ^ 64)then .ok (.dat (.int (a * b)))else .stk:=rfl
theorem jkB {a b:Int}:opD .fdiv (.int a) (.int b)=if 0 < b/\b < 2 ^ 64 then .ok (.dat (.int (a / b)))else .stk:=rfl
theorem jmT {a b:Int}:opD .mod (.int a) (.int b)=if 0 < b then .ok (.dat (.int (a % b)))else .stk:=rfl
theorem jmU {a b:List D}:opD .add (.tup a) (.tup b)=if fits (a.length + b.length)then .ok (.dat (.tup (a++b)))else .stk:=rfl
theorem jmV {a b:List D}:opD .add (.lst a) (.lst b)=if fits (a.length + b.length)then .ok (.tmp (.l (a++b)))else .stk:=rfl
theorem jhj {a b:PySem.Str}:opD .add (.str a) (.str b)=if fits (a.length + b.length)then .ok (.dat (.str (a++b)))else .stk:=rfl
theorem jmW:bfD .len (.lst xs)=.ok (.dat (.int xs.length)):=rfl
theorem jmX:bfD .len (.tup xs)=.ok (.dat (.int xs.length)):=rfl
theorem jh7:bfD .tuple (.lst xs)=.ok (.dat (.tup xs)):=rfl
theorem jh8:bfD .tuple (.tup xs)=.ok (.dat (.tup xs)):=rfl
theorem jkC:bfD .list (.lst xs)=.ok (.tmp (.l xs)):=rfl
theorem jkD:bfD .list (.tup xs)=.ok (.tmp (.l xs)):=rfl
theorem jkE:bfD .revl (.lst xs)=.ok (.tmp (.l xs.reverse)):=rfl
theorem jkF:bfD .revt (.lst xs)=.ok (.dat (.tup xs.reverse)):=rfl
theorem jkG:bfD .revt (.tup xs)=.ok (.dat (.tup xs.reverse)):=rfl
theorem jmY {a:Int}:bfD .abs (.int a)=.ok (.dat (.int (if a < 0 then -a else a))):=rfl
theorem jmZ {a:Int}:bfD .int (.int a)=.ok (.dat (.int a)):=rfl
theorem jm0:bfD .int (.bl b)=.ok (.dat (.int (if b then 1 else 0))):=rfl
theorem jm1 {a c:D}:cmD .eq a c=eqR a c:=rfl
theorem jrV {a c:D}:cmD .ne a c=(eqR a c).bind fun c=>.ok (!c):=rfl
theorem jkH {a c:Int}:cmD .lt (.int a) (.int c)=.ok (decide (a < c)):=rfl
theorem jgc {a c:Int}:cmD .gt (.int a) (.int c)=.ok (decide (c < a)):=rfl
theorem jpM {a c:Int}:cmD .le (.int a) (.int c)=.ok (decide (a<=c)):=rfl
theorem jpN {a c:Int}:cmD .ge (.int a) (.int c)=.ok (decide (c<=a)):=rfl
theorem jrW {a c:Int}:eqR (.int a) (.int c)=.ok (a == c):=rfl
theorem jm2 {a c:PySem.Str}:eqR (.str a) (.str c)=.ok (a == c):=rfl
theorem jpO {j:Int}:jk8 (.tup xs) (.int j)=atI xs j:=rfl
theorem jpP {j:Int}:jk8 (.lst xs) (.int j)=atI xs j:=rfl
theorem jkI {x:PySem.Str}{j:Int}:jk8 (.str x) (.int j)=atC x j:=rfl
theorem jum {x:D}:atI (x::xs) 0=.ok x:=rfl
theorem jun {x y:D}:atI (x::y::xs) 1=.ok y:=rfl
theorem juo {x y z:D}:atI (x::y::z::xs) 2=.ok z:=rfl
theorem jup {k:Nat}{x:D}(h:xs[k]?=some x):atI xs (k:Int)=.ok x:=by
 unfold atI;rw[if_pos (Int.natCast_nonneg k),Int.toNat_natCast,h]
theorem jrX:jbC (.bl b)=.ok b:=rfl
theorem jrY {a:Int}:jbC (.int a)=.ok (a != 0):=rfl
theorem jrZ:jbC (.tup xs)=.ok (!xs.isEmpty):=rfl
theorem jr0:jbC (.lst xs)=.ok (!xs.isEmpty):=rfl
theorem jr1:jbC .non=.ok false:=rfl
theorem jh9 {U:Nat->Nat->Bool}:jaj U .non [.int]=.ok false:=rfl
theorem jgd {U:Nat->Nat->Bool}:jaj U .non [.bool]=.ok false:=rfl
theorem jia {U:Nat->Nat->Bool}:jaj U .non [.str]=.ok false:=rfl
theorem jfk {U:Nat->Nat->Bool}:jaj U .non [.tuple]=.ok false:=rfl
theorem jge {U:Nat->Nat->Bool}:jaj U .non [.list]=.ok false:=rfl
theorem jgf {U:Nat->Nat->Bool}:jaj U .non [.dict]=.ok false:=rfl
theorem jkJ {U:Nat->Nat->Bool}:jaj U (.bl b) [.int]=.ok true:=rfl
theorem jib {U:Nat->Nat->Bool}:jaj U (.bl b) [.bool]=.ok true:=rfl
theorem jkK {U:Nat->Nat->Bool}:jaj U (.bl b) [.str]=.ok false:=rfl
theorem jgg {U:Nat->Nat->Bool}:jaj U (.bl b) [.tuple]=.ok false:=rfl
theorem jic {U:Nat->Nat->Bool}:jaj U (.bl b) [.list]=.ok false:=rfl
theorem jid {U:Nat->Nat->Bool}:jaj U (.bl b) [.dict]=.ok false:=rfl
theorem jie {U:Nat->Nat->Bool}{a:Int}:jaj U (.int a) [.int]=.ok true:=rfl
theorem jgh {U:Nat->Nat->Bool}{a:Int}:jaj U (.int a) [.bool]=.ok false:=rfl
theorem jif {U:Nat->Nat->Bool}{a:Int}:jaj U (.int a) [.str]=.ok false:=rfl
theorem jfl {U:Nat->Nat->Bool}{a:Int}:jaj U (.int a) [.tuple]=.ok false:=rfl
theorem jgi {U:Nat->Nat->Bool}{a:Int}:jaj U (.int a) [.list]=.ok false:=rfl
theorem jgj {U:Nat->Nat->Bool}{a:Int}:jaj U (.int a) [.dict]=.ok false:=rfl
theorem jig {U:Nat->Nat->Bool}{x:PySem.Str}:jaj U (.str x) [.int]=.ok false:=rfl
theorem jgk {U:Nat->Nat->Bool}{x:PySem.Str}:jaj U (.str x) [.bool]=.ok false:=rfl
theorem jih {U:Nat->Nat->Bool}{x:PySem.Str}:jaj U (.str x) [.str]=.ok true:=rfl
theorem jfm {U:Nat->Nat->Bool}{x:PySem.Str}:jaj U (.str x) [.tuple]=.ok false:=rfl
theorem jgl {U:Nat->Nat->Bool}{x:PySem.Str}:jaj U (.str x) [.list]=.ok false:=rfl
theorem jgm {U:Nat->Nat->Bool}{x:PySem.Str}:jaj U (.str x) [.dict]=.ok false:=rfl
theorem jii {U:Nat->Nat->Bool}:jaj U (.tup xs) [.int]=.ok false:=rfl
theorem jgn {U:Nat->Nat->Bool}:jaj U (.tup xs) [.bool]=.ok false:=rfl
theorem jij {U:Nat->Nat->Bool}:jaj U (.tup xs) [.str]=.ok false:=rfl
theorem jfn {U:Nat->Nat->Bool}:jaj U (.tup xs) [.tuple]=.ok true:=rfl
theorem jgo {U:Nat->Nat->Bool}:jaj U (.tup xs) [.list]=.ok false:=rfl
theorem jgp {U:Nat->Nat->Bool}:jaj U (.tup xs) [.dict]=.ok false:=rfl
theorem jik {U:Nat->Nat->Bool}:jaj U (.lst xs) [.int]=.ok false:=rfl
theorem jgq {U:Nat->Nat->Bool}:jaj U (.lst xs) [.bool]=.ok false:=rfl
theorem jil {U:Nat->Nat->Bool}:jaj U (.lst xs) [.str]=.ok false:=rfl
theorem jfo {U:Nat->Nat->Bool}:jaj U (.lst xs) [.tuple]=.ok false:=rfl
theorem jgr {U:Nat->Nat->Bool}:jaj U (.lst xs) [.list]=.ok true:=rfl
theorem jgs {U:Nat->Nat->Bool}:jaj U (.lst xs) [.dict]=.ok false:=rfl
theorem jtc:fits 0=true:=rfl
theorem jtd:fits 1=true:=rfl
theorem jte:fits 2=true:=rfl
theorem jtf:fits 3=true:=rfl
theorem jtg:fits 4=true:=rfl
theorem jth:fits 5=true:=rfl
theorem jti:fits 6=true:=rfl
theorem jtj:fits 7=true:=rfl
theorem jtk:fits 8=true:=rfl
theorem jtl:fits 9=true:=rfl
theorem jr2:fits 10=true:=rfl
theorem jpQ {lo hi:Option Int}:jhV (.lst xs) lo hi=.ok (.tmp (.l (cut xs lo hi))):=rfl
theorem jnN {x:PySem.Str}:jtK (.dat (.str x))=.ok x:=rfl
theorem jr3 {x y:PySem.Str}:smD .cnt x (.str y)=.ok (.dat (.int (Txt.count x y))):=rfl
theorem jkL {x y:PySem.Str}:smD .splt x (.str y)=if y.length != 0 && fits x.length && fits (Txt.split x y).length then .ok (.tmp (.l ((Txt.split x y).map .str)))else .stk:=rfl
theorem jdG:∀(ys:List PySem.Str),jba (ys.map D.str)=some ys
 |[]=>rfl
 |y::ys=>by simp only[juy,jba,jdG ys,Option.map_some]
theorem jpR {x:PySem.Str}{ys:List PySem.Str}(h:(ys.map (·.length)).sum + ys.length * x.length<=16777216):smD .join x (.lst (ys.map .str))=.ok (.dat (.str (Txt.join x ys))):=by
 simp only[smD,jdG,if_pos h]
theorem jkM {x:PySem.Str}{lo hi:Option Int}:jhV (.str x) lo hi=if fits x.length then .ok (.dat (.str (Txt.slice x lo hi)))else .stk:=rfl
theorem jhk {x:PySem.Str}:bfD .len (.str x)=if fits x.length then .ok (.dat (.int x.length))else .stk:=rfl
theorem jim:jbB (.dat (.tup xs)) ρ=.ok (xs,[],ρ):=rfl
theorem jin:jbB (.dat (.lst xs)) ρ=.ok (xs,[],ρ):=rfl
theorem jio:jbB (.tmp (.l xs)) ρ=.ok (xs,[],ρ):=rfl
theorem jgt:jbB (.slot i) ρ=jaA (.slot i) ρ:=rfl
theorem jdH {x:PySem.Str}:jbB (.dat (.str x)) ρ=if fits x.length then .ok (x.cps.toList.map (fun c=>D.str ⟨#[c]⟩),[],ρ)else .stk:=rfl
end
section
variable {G:Calls}{U:Nat->Nat->Bool}{W:Nat}
theorem jaq {α:Type}{xx:Bool}{elt:E}{caps:List Nat}{it:DJ.It}{ρ:Rho}{xs:List α}{h g:α->D}(hi:evI G U it ρ=.ok (xs.map h,[],ρ))(hE:∀x∈xs,evE G U elt (.dat (h x)::jdy ρ caps)=.ok (.dat (g x),.dat (h x)::jdy ρ caps))
  (hB:∀s,jaH caps 1 (s::jdy ρ caps) ρ=ρ):evE G U (.comp elt [0] true 1 caps it .none xx) ρ=.ok (.tmp (.l (xs.map g)),ρ):=by
 simp only[evE,hi,R.bind_ok'];rw[jcv (g:=g)]
 ·rw[jeg];rfl
 ·intro x hx;have:=hE x hx;simp only[putT,jeG,List.replicate,List.cons_append,List.nil_append,List.set_cons_zero,R.bind_ok',this,toD,hB]
theorem jr4:opD .pow (.int 10) (.int 15)=.ok (.dat (.int (10 ^ 15))):=by
 show (if 0<=(15:Int)/\(15:Int)<=1000000/\(10:Int).natAbs < 2 ^ 64 then R.ok (Vl.dat (.int (10 ^ (15:Int).toNat)))else R.stk)=_;rw[if_pos (by decide)]
 rfl
theorem jr5:opD .pow (.int 10) (.int 30)=.ok (.dat (.int (10 ^ 30))):=by
 show (if 0<=(30:Int)/\(30:Int)<=1000000/\(10:Int).natAbs < 2 ^ 64 then R.ok (Vl.dat (.int (10 ^ (30:Int).toNat)))else R.stk)=_;rw[if_pos (by decide)]
 rfl
theorem jem {α β:Type}(f:α->β)(xs:List α)(lo hi:Option Int):cut (xs.map f) lo hi=(cut xs lo hi).map f:=by
 unfold cut;rw[juA,List.map_take,List.map_drop]
theorem jhl {α:Type}(xs:List α)(k:Nat):cut xs none (some (k:Int))=xs.take k:=by
 show List.take ((if (k:Int) < 0 then ((k:Int) + xs.length).toNat else min (k:Int).toNat xs.length) - 0) (List.drop 0 xs)=_;rw[if_neg (by omega),Int.toNat_natCast,List.drop_zero,Nat.sub_zero,List.take_eq_take_iff]
 omega
theorem jhm {α:Type}(xs:List α)(k:Nat):cut xs (some (k:Int)) none=xs.drop k:=by
 show List.take (xs.length - (if (k:Int) < 0 then ((k:Int) + xs.length).toNat else min (k:Int).toNat xs.length)) (List.drop (if (k:Int) < 0 then ((k:Int) + xs.length).toNat else min (k:Int).toNat xs.length) xs)=_;rw[if_neg (by omega),Int.toNat_natCast]
 by_cases h:k<=xs.length
 ·rw[Nat.min_eq_left h,List.take_of_length_le (by simp)]
 ·rw[Nat.min_eq_right (by omega),List.drop_eq_nil_of_le (ju7 _),List.drop_eq_nil_of_le (by omega),List.take_nil]
theorem jen (k:Nat)(h:k<=16777216):jd8 (.int k)=.ok ((List.range k).map fun (j:Nat)=>D.int j):=by
 show (if -16777216<=(k:Int)/\(k:Int)<=16777216 then R.ok (joL 0 (k:Int).toNat)else R.stk)=_;rw[if_pos (by omega)]
 simp[joL]
theorem jaI {n:Nat}(h:n<=16777216):fits n=true:=by simp[fits];exact h
end
end DJ
local macro_rules | `(tactic| simp_arith[$xs,*])=>do
  let l<-("DJ.evSs DJ.evS DJ.evE DJ.evT DJ.evEs DJ.evAs DJ.evO DJ.evI juL juM List.set_cons_zero List.set_cons_succ juB juN Nat.reduceAdd Nat.reduceLT Nat.lt_add_one Nat.zero_lt_succ DJ.R.bind_ok' DJ.jam DJ.jda DJ.jh4 DJ.jga DJ.jpH DJ.jmK DJ.jmL DJ.jmM DJ.jkz DJ.jpI DJ.jmN DJ.jmO DJ.jkA DJ.jmP DJ.jfj DJ.jch DJ.jdF DJ.jh5 DJ.jh6 DJ.jgb DJ.jpJ DJ.jpK DJ.jpL DJ.jpQ DJ.jkx DJ.jky DJ.jpF DJ.jpG DJ.jmQ DJ.jmR DJ.jmS DJ.jkB DJ.jmT DJ.jmU DJ.jmV DJ.jhj DJ.jmW DJ.jmX DJ.jh7 DJ.jh8 DJ.jkC DJ.jkD DJ.jkE DJ.jkF DJ.jmY DJ.jmZ DJ.jm0 DJ.jm1 DJ.jrV DJ.jkH DJ.jgc DJ.jpM DJ.jpN DJ.jrW DJ.jm2 DJ.jpO DJ.jpP DJ.jkI DJ.jum DJ.jun DJ.juo DJ.jrX DJ.jrY DJ.jrZ DJ.jr0 DJ.jr1 DJ.jh9 DJ.jtc DJ.jtd DJ.jte DJ.jtf DJ.jtg DJ.jth DJ.jti DJ.jtj DJ.jtk DJ.jtl DJ.jr2 DJ.jgd DJ.jia DJ.jfk DJ.jge DJ.jgf DJ.jkJ DJ.jib DJ.jkK DJ.jgg DJ.jic DJ.jid DJ.jie DJ.jgh DJ.jif DJ.jfl DJ.jgi DJ.jgj DJ.jig DJ.jgk DJ.jih DJ.jfm DJ.jgl DJ.jgm DJ.jii DJ.jgn DJ.jij DJ.jfn DJ.jgo DJ.jgp DJ.jik DJ.jgq DJ.jil DJ.jfo DJ.jgr DJ.jgs if_true jvd if_false Bool.not_true Bool.not_false Int.reducePow Int.reduceNeg Int.reduceLT Int.reduceLE and_self or_true true_or and_true true_and DJ.jnN DJ.jr3 DJ.jkL DJ.jkM DJ.jhk DJ.jim DJ.jin DJ.jio DJ.jgt DJ.jdH".splitOn " ").toArray.mapM fun s=>`(Lean.Parser.Tactic.simpLemma| $(Lean.mkIdent s.toName):term)
  `(tactic| simp only[$l,*,$xs,*])
namespace Law
open PySem L2 DJ
noncomputable def top (i:Nat):Stmt:=PySem.Challenge.pw_tallysets_k04_sets_written.main.body.getD i (.Pass ⟨0,0,0,0⟩)
noncomputable def d_is_number:DefS:=⟨"is_number",["thing"],["thing"],top 5⟩
noncomputable def jb8:Ss:=
 .cons (.ret (.and (.isi (.var 0) [.int]) (.not (.isi (.var 0) [.bool])))) (
 .nil)
noncomputable def d_is_tally:DefS:=⟨"is_tally",["thing"],["thing"],top 6⟩
noncomputable def jcy:E:=.comp (.and (.call 0 [] (.cons (.var 0) .nil)) (.cmp .ge (.var 0) (.lit (.int 0)))) [0] true 1 [] (.seq (.var 0)) .none true
noncomputable def jbl:Ss:=
 .cons (.ife (.not (.isi (.var 0) [.tuple])) (.cons (.ret (.lit (.bl false))) (
  .nil)) (.nil)) (
 .cons (.ife (.or (.cmp .lt (.blt .len (.var 0)) (.lit (.int 1))) (.cmp .gt (.blt .len (.var 0)) (.lit (.int 4)))) (.cons (.ret (.lit (.bl false))) (
  .nil)) (.nil)) (
 .cons (.ret (.blt .all (jcy))) (
 .nil)))
noncomputable def d_is_tally_as_long:DefS:=⟨"is_tally_as_long",["thing","long"],["thing","long"],top 8⟩
noncomputable def jan:Ss:=
 .cons (.ret (.and (.call 1 [] (.cons (.var 0) .nil)) (.cmp .eq (.blt .len (.var 0)) (.var 1)))) (
 .nil)
noncomputable def d_are_steps:DefS:=⟨"are_steps",["thing","long"],["thing","long"],top 9⟩
noncomputable def jci:E:=.comp (.and (.call 2 [] (.cons (.var 0) (.cons (.var 1) .nil))) (.blt .any (.var 0))) [0] true 1 [1] (.seq (.var 0)) .none true
noncomputable def jbz:E:=.comp (.cmp .lt (.var 0) (.var 1)) [0,1] false 2 [] (.zip (.var 0) (.slc (.var 0) (.some (.lit (.int 1))) .none)) .none true
noncomputable def ja5:Ss:=
 .cons (.ife (.not (.isi (.var 0) [.tuple])) (.cons (.ret (.lit (.bl false))) (
  .nil)) (.nil)) (
 .cons (.ife (.not (.blt .all (jci))) (.cons (.ret (.lit (.bl false))) (
  .nil)) (.nil)) (
 .cons (.ret (.blt .all (jbz))) (
 .nil)))
noncomputable def d_is_fan:DefS:=⟨"is_fan",["thing"],["thing"],top 10⟩
noncomputable def jcj:Ss:=
 .cons (.ife (.or (.not (.isi (.var 0) [.tuple])) (.cmp .ne (.blt .len (.var 0)) (.lit (.int 2)))) (.cons (.ret (.lit (.bl false))) (
  .nil)) (.nil)) (
 .cons (.ret (.and (.call 1 [] (.cons (.idx (.var 0) (.lit (.int 0))) .nil)) (.call 3 [] (.cons (.idx (.var 0) (.lit (.int 1))) (.cons (.blt .len (.idx (.var 0) (.lit (.int 0)))) .nil))))) (
 .nil))
noncomputable def d_is_set:DefS:=⟨"is_set",["thing"],["thing"],top 11⟩
noncomputable def jcw:E:=.comp (.call 4 [] (.cons (.var 0) .nil)) [0] true 1 [] (.seq (.var 0)) .none true
noncomputable def jdI:E:=.comp (.cmp .eq (.blt .len (.idx (.var 0) (.lit (.int 0)))) (.blt .len (.idx (.idx (.var 1) (.lit (.int 0))) (.lit (.int 0))))) [0] true 1 [0] (.seq (.var 0)) .none true
noncomputable def jck:Ss:=
 .cons (.ife (.or (.not (.isi (.var 0) [.tuple])) (.not (.blt .all (jcw)))) (.cons (.ret (.lit (.bl false))) (
  .nil)) (.nil)) (
 .cons (.ret (.blt .all (jdI))) (
 .nil))
noncomputable def d_show_number:DefS:=⟨"show_number",["number","pieces"],["number"],top 19⟩
noncomputable def jdb:Ss:=
 .cons (.app 1 (.sm .zfl (.blt .str (.bin .mod (.var 0) (.lit (.int 1000000000000000)))) (.lit (.int 15)))) (
 .cons (.asg 0 (.bin .fdiv (.var 0) (.lit (.int 1000000000000000)))) (
 .nil))
noncomputable def jaE:Ss:=
 .cons (.asg 1 (.lst (.nil))) (
 .cons (.whl (.cmp .ge (.var 0) (.lit (.int 1000000000000000))) jdb) (
 .cons (.app 1 (.blt .str (.var 0))) (
 .cons (.ret (.sm .rjn (.lit (.str "")) (.var 1))) (
 .nil))))
noncomputable def d_show_tally:DefS:=⟨"show_tally",["one"],["one"],top 20⟩
noncomputable def jbY:E:=.comp (.call 6 [] (.cons (.var 0) .nil)) [0] true 1 [] (.seq (.var 0)) .none true
noncomputable def jaP:Ss:=
 .cons (.ret (.sm .join (.lit (.str ",")) (jbY))) (
 .nil)
noncomputable def d_show_fan:DefS:=⟨"show_fan",["fan"],["fan"],top 21⟩
noncomputable def jcz:E:=.comp (.call 7 [] (.cons (.var 0) .nil)) [0] true 1 [] (.seq (.bin .add (.tup (.cons (.idx (.var 0) (.lit (.int 0))) .nil)) (.idx (.var 0) (.lit (.int 1))))) .none true
noncomputable def jbm:Ss:=
 .cons (.ret (.sm .join (.lit (.str "+")) (jcz))) (
 .nil)
noncomputable def d_show_set:DefS:=⟨"show_set",["some"],["some"],top 22⟩
noncomputable def jcA:E:=.comp (.call 8 [] (.cons (.var 0) .nil)) [0] true 1 [] (.seq (.var 0)) .none true
noncomputable def jbn:Ss:=
 .cons (.ife (.cmp .eq (.blt .len (.var 0)) (.lit (.int 0))) (.cons (.ret (.lit (.str "-"))) (
  .nil)) (.nil)) (
 .cons (.ret (.sm .join (.lit (.str " | ")) (jcA))) (
 .nil))
noncomputable def d_read_number:DefS:=⟨"read_number",["text","number"],["text"],top 23⟩
noncomputable def jbK:E:=.comp (.cmp .isin (.var 0) (.lit (.str "0123456789"))) [0] true 1 [] (.seq (.var 0)) .none true
noncomputable def jaF:Ss:=
 .cons (.ife (.or (.cmp .lt (.blt .len (.var 0)) (.lit (.int 1))) (.cmp .gt (.blt .len (.var 0)) (.lit (.int 16)))) (.cons (.rai 1 (.lit (.str "a number has no figures or too many"))) (
  .nil)) (.nil)) (
 .cons (.ife (.not (.blt .all (jbK))) (.cons (.rai 1 (.lit (.str "a number has something else than figures"))) (
  .nil)) (.nil)) (
 .cons (.ife (.and (.cmp .eq (.idx (.var 0) (.lit (.int 0))) (.lit (.str "0"))) (.cmp .ne (.var 0) (.lit (.str "0")))) (.cons (.rai 1 (.lit (.str "a number has a nought ahead"))) (
  .nil)) (.nil)) (
 .cons (.asg 1 (.blt .int (.var 0))) (
 .cons (.ife (.cmp .gt (.var 1) (.lit (.int 1000000000000000))) (.cons (.rai 1 (.lit (.str "a number is too great"))) (
  .nil)) (.nil)) (
 .cons (.ret (.var 1)) (
 .nil))))))
noncomputable def d_read_tally:DefS:=⟨"read_tally",["text"],["text"],top 24⟩
noncomputable def jbZ:E:=.comp (.call 10 [] (.cons (.var 0) .nil)) [0] true 1 [] (.seq (.sm .splt (.var 0) (.lit (.str ",")))) .none true
noncomputable def jaQ:Ss:=
 .cons (.ret (.blt .tuple (jbZ))) (
 .nil)
noncomputable def d_read_fan:DefS:=⟨"read_fan",["text","tallies"],["text"],top 25⟩
noncomputable def jcB:E:=.comp (.call 11 [] (.cons (.var 0) .nil)) [0] true 1 [] (.seq (.sm .splt (.var 0) (.lit (.str "+")))) .none true
noncomputable def jbo:Ss:=
 .cons (.asg 1 (jcB)) (
 .cons (.ret (.tup (.cons (.idx (.var 1) (.lit (.int 0))) (.cons (.blt .tuple (.slc (.var 1) (.some (.lit (.int 1))) .none)) .nil)))) (
 .nil))
noncomputable def d_read_set:DefS:=⟨"read_set",["text","some"],["text"],top 26⟩
noncomputable def jcC:E:=.comp (.call 12 [] (.cons (.var 0) .nil)) [0] true 1 [] (.seq (.sm .splt (.var 0) (.lit (.str " | ")))) .none true
noncomputable def jbp:Ss:=
 .cons (.ife (.cmp .eq (.var 0) (.lit (.str "-"))) (.cons (.ret (.tup (.nil))) (
  .nil)) (.nil)) (
 .cons (.asg 1 (.blt .tuple (jcC))) (
 .cons (.ife (.not (.call 5 [] (.cons (.var 1) .nil))) (.cons (.rai 1 (.lit (.str "the fans are no set"))) (
  .nil)) (.nil)) (
 .cons (.ret (.var 1)) (
 .nil))))
noncomputable def d__law_whole:DefS:=⟨"_law_whole",["_law_found"],["_law_found"],top 28⟩
noncomputable def jbL:Ss:=
 .cons (.ret (.and (.isi (.var 0) [.int]) (.not (.isi (.var 0) [.bool])))) (
 .nil)
noncomputable def d__law_row:DefS:=⟨"_law_row",["_law_found","_law_due","_law_part"],["_law_found","_law_due"],top 29⟩
noncomputable def jbb:Ss:=
 .cons (.ife (.not (.call 14 [] (.cons (.var 2) .nil))) (.cons (.ret (.lit (.bl false))) (
  .nil)) (.nil)) (
 .nil)
noncomputable def jbq:Ss:=
 .cons (.ife (.or (.not (.isi (.var 0) [.tuple])) (.cmp .ne (.blt .len (.var 0)) (.blt .len (.var 1)))) (.cons (.ret (.lit (.bl false))) (
  .nil)) (.nil)) (
 .cons (.loop [2] true (.seq (.var 0)) jbb) (
 .cons (.ret (.cmp .eq (.var 0) (.var 1))) (
 .nil)))
noncomputable def d__law_number:DefS:=⟨"_law_number",["_law_cell","_law_k","_law_number_here"],["_law_cell","_law_k"],top 30⟩
noncomputable def jaG:Ss:=
 .cons (.asg 2 (.bin .mod (.bin .mul (.bin .add (.var 0) (.lit (.int 3))) (.idx (.lst (.cons (.lit (.int 48271)) (.cons (.lit (.int 69621)) (.cons (.lit (.int 39373)) (.cons (.lit (.int 16807)) .nil))))) (.var 1))) (.lit (.int 999999999989)))) (
 .cons (.ret (.idx (.lst (.cons (.bin .mod (.bin .mul (.var 2) (.lit (.int 1001))) (.bin .add (.bin .pow (.lit (.int 10)) (.lit (.int 15))) (.lit (.int 1)))) (.cons (.bin .mod (.bin .fdiv (.var 2) (.lit (.int 3))) (.lit (.int 10))) (.cons (.lit (.int 0)) (.cons (.bin .pow (.lit (.int 10)) (.lit (.int 15))) .nil))))) (.idx (.lst (.cons (.lit (.int 0)) (.cons (.lit (.int 0)) (.cons (.lit (.int 1)) (.cons (.lit (.int 1)) (.cons (.lit (.int 2)) (.cons (.lit (.int 3)) .nil))))))) (.bin .mod (.var 2) (.lit (.int 6)))))) (
 .nil))
noncomputable def d__law_tally:DefS:=⟨"_law_tally",["_law_cell","_law_long"],["_law_cell","_law_long"],top 31⟩
noncomputable def jb0:E:=.comp (.call 16 [] (.cons (.var 1) (.cons (.var 0) .nil))) [0] true 1 [0] (.rng1 (.var 1)) .none true
noncomputable def jaR:Ss:=
 .cons (.ret (.blt .tuple (jb0))) (
 .nil)
noncomputable def d__law_fan:DefS:=⟨"_law_fan",["_law_begin","_law_steps","_law_kept","_law_step"],["_law_begin","_law_steps"],top 32⟩
noncomputable def jbc:Ss:=
 .cons (.ife (.and (.cmp .notin (.var 3) (.var 2)) (.cmp .gt (.blt .sum (.var 3)) (.lit (.int 0)))) (.cons (.app 2 (.var 3)) (
  .nil)) (.nil)) (
 .nil)
noncomputable def jbr:Ss:=
 .cons (.asg 2 (.lst (.nil))) (
 .cons (.loop [3] true (.seq (.blt .sorted (.var 1))) jbc) (
 .cons (.ret (.tup (.cons (.var 0) (.cons (.blt .tuple (.var 2)) .nil)))) (
 .nil)))
noncomputable def d__law_set:DefS:=⟨"_law_set",["_law_cells","_law_long","_law_fans","_law_cell","_law_steps","_law_k","_law_step"],["_law_cells","_law_long"],top 33⟩
noncomputable def jbM:E:=.comp (.bin .mod (.var 0) (.lit (.int 3))) [0] true 1 [] (.seq (.var 6)) .none true
noncomputable def jaS:Ss:=
 .cons (.asg 6 (.call 17 [] (.cons (.bin .add (.bin .fdiv (.var 3) (.lit (.int 10))) (.bin .mul (.bin .mul (.var 5) (.var 5)) (.lit (.int 7919)))) (.cons (.var 1) .nil)))) (
 .cons (.ife (.cmp .eq (.bin .mod (.bin .fdiv (.var 3) (.lit (.int 5))) (.lit (.int 2))) (.lit (.int 0))) (.cons (.asg 6 (.blt .tuple (jbM))) (
  .nil)) (.nil)) (
 .cons (.app 4 (.var 6)) (
 .nil)))
noncomputable def jbd:Ss:=
 .cons (.asg 4 (.lst (.nil))) (
 .cons (.loop [5] true (.rng1 (.bin .mod (.var 3) (.lit (.int 5)))) jaS) (
 .cons (.app 2 (.call 18 [] (.cons (.call 17 [] (.cons (.bin .fdiv (.var 3) (.lit (.int 3))) (.cons (.var 1) .nil))) (.cons (.var 4) .nil)))) (
 .nil)))
noncomputable def jbs:Ss:=
 .cons (.asg 2 (.lst (.nil))) (
 .cons (.loop [3] true (.seq (.var 0)) jbd) (
 .cons (.ret (.blt .tuple (.var 2))) (
 .nil)))
noncomputable def d__law_text:DefS:=⟨"_law_text",["_law_some","_law_words","_law_begin","_law_steps","_law_word","_law_one"],["_law_some"],top 34⟩
noncomputable def jcl:E:=.comp (.blt .str (.var 0)) [0] true 1 [] (.seq (.var 5)) .none true
noncomputable def ja0:Ss:=
 .cons (.asg 4 (.bin .add (.bin .add (.var 4) (.lit (.str "+"))) (.sm .join (.lit (.str ",")) (jcl)))) (
 .nil)
noncomputable def ja1:Ss:=
 .cons (.asg 4 (.lit (.str ""))) (
 .cons (.loop [5] true (.seq (.bin .add (.tup (.cons (.var 2) .nil)) (.var 3))) ja0) (
 .cons (.app 1 (.slc (.var 4) (.some (.lit (.int 1))) .none)) (
 .nil)))
noncomputable def ja6:Ss:=
 .cons (.ife (.cmp .eq (.var 0) (.tup (.nil))) (.cons (.ret (.lit (.str "-"))) (
  .nil)) (.nil)) (
 .cons (.asg 1 (.lst (.nil))) (
 .cons (.loop [2,3] false (.seq (.var 0)) ja1) (
 .cons (.ret (.sm .join (.lit (.str " | ")) (.var 1))) (
 .nil))))
noncomputable def d__law_alike:DefS:=⟨"_law_alike",["_law_found","_law_due","_law_k","_law_steps","_law_one","_law_other"],["_law_found","_law_due"],top 35⟩
noncomputable def jaJ:Ss:=
 .cons (.ife (.not (.call 15 [] (.cons (.var 4) (.cons (.var 5) .nil)))) (.cons (.ret (.lit (.bl false))) (
  .nil)) (.nil)) (
 .nil)
noncomputable def jaK:Ss:=
 .cons (.ife (.or (.not (.isi (.idx (.var 0) (.var 2)) [.tuple])) (.or (.cmp .ne (.blt .len (.idx (.var 0) (.var 2))) (.lit (.int 2))) (.not (.call 15 [] (.cons (.idx (.idx (.var 0) (.var 2)) (.lit (.int 0))) (.cons (.idx (.idx (.var 1) (.var 2)) (.lit (.int 0))) .nil)))))) (.cons (.ret (.lit (.bl false))) (
  .nil)) (.nil)) (
 .cons (.asg 3 (.idx (.idx (.var 0) (.var 2)) (.lit (.int 1)))) (
 .cons (.ife (.or (.not (.isi (.var 3) [.tuple])) (.cmp .ne (.blt .len (.var 3)) (.blt .len (.idx (.idx (.var 1) (.var 2)) (.lit (.int 1)))))) (.cons (.ret (.lit (.bl false))) (
  .nil)) (.nil)) (
 .cons (.loop [4,5] false (.zip (.var 3) (.idx (.idx (.var 1) (.var 2)) (.lit (.int 1)))) jaJ) (
 .nil))))
noncomputable def jaT:Ss:=
 .cons (.ife (.or (.not (.isi (.var 0) [.tuple])) (.cmp .ne (.blt .len (.var 0)) (.blt .len (.var 1)))) (.cons (.ret (.lit (.bl false))) (
  .nil)) (.nil)) (
 .cons (.loop [2] true (.rng1 (.blt .len (.var 1))) jaK) (
 .cons (.ret (.lit (.bl true))) (
 .nil)))
noncomputable def d__law_told:DefS:=⟨"_law_told",["_law_some","_law_due","_law_found"],["_law_some"],top 36⟩
noncomputable def ja7:Ss:=
 .cons (.asg 1 (.call 20 [] (.cons (.var 0) .nil))) (
 .cons (.asg 2 (.call 9 [] (.cons (.var 0) .nil))) (
 .cons (.ret (.and (.isi (.var 2) [.str]) (.and (.cmp .eq (.var 2) (.var 1)) (.call 21 [] (.cons (.call 13 [] (.cons (.var 1) .nil)) (.cons (.var 0) .nil)))))) (
 .nil)))
noncomputable def d_law:DefS:=⟨"law",["_law_script","_law_cells","_law_long","_law_some","_law_half","_law_one"],["_law_script"],top 37⟩
noncomputable def jkN:E:=.comp (.bin .mod (.var 0) (.bin .pow (.lit (.int 10)) (.lit (.int 30)))) [0] true 1 [] (.seq (.slc (.var 0) .none (.some (.lit (.int 48))))) .none true
noncomputable def jeo:Ss:=
 .cons (.ife (.not (.call 22 [] (.cons (.var 5) .nil))) (.cons (.ret (.lit (.bl false))) (
  .nil)) (.nil)) (
 .nil)
noncomputable def jkO:Ss:=
 .cons (.asg 1 (jkN)) (
 .cons (.asg 2 (.bin .add (.lit (.int 1)) (.bin .mod (.blt .sum (.var 1)) (.lit (.int 4))))) (
 .cons (.asg 3 (.call 19 [] (.cons (.var 1) (.cons (.var 2) .nil)))) (
 .cons (.asg 4 (.slc (.var 3) .none (.some (.bin .fdiv (.blt .len (.var 3)) (.lit (.int 2)))))) (
 .cons (.loop [5] true (.seq (.lst (.cons (.var 3) (.cons (.blt .revt (.var 3)) (.cons (.var 4) (.cons (.tup (.nil)) (.cons (.var 3) .nil))))))) jeo) (
 .cons (.ret (.lit (.bl true))) (
 .nil))))))
noncomputable def T:Tab:=⟨["is_number","is_tally","is_tally_as_long","are_steps","is_fan","is_set","show_number","show_tally","show_fan","show_set","read_number","read_tally","read_fan","read_set","_law_whole","_law_row","_law_number","_law_tally","_law_fan","_law_set","_law_text","_law_alike","_law_told","law"],[[],[],[],[],[],[],[],[],[],[],[],[],[],[],[],[],[],[],[],[],[],[],[],[]],[("MOST_NUMBERS",(.int 4)),("NO_FANS",(.str "-")),("FIGURES",(.str "0123456789")),("GREATEST_READ",(.int 1000000000000000)),("FIGURES_READ",(.int 16)),("SHOWN_AT_ONCE",(.int 1000000000000000)),("FIGURES_AT_ONCE",(.int 15))],["TallyError","NoText"],false,false⟩
noncomputable def U (i j:Nat):Bool:=(([[true,false],[true,true]]:List (List Bool)).getD i []).getD j false
noncomputable def DS:List DefS:=[d_is_number,d_is_tally,d_is_tally_as_long,d_are_steps,d_is_fan,d_is_set,d_show_number,d_show_tally,d_show_fan,d_show_set,d_read_number,d_read_tally,d_read_fan,d_read_set,d__law_whole,d__law_row,d__law_number,d__law_tally,d__law_fan,d__law_set,d__law_text,d__law_alike,d__law_told,d_law]
noncomputable def P:List Def:=[⟨1,1,jb8⟩,⟨1,1,jbl⟩,⟨2,2,jan⟩,⟨2,2,ja5⟩,⟨1,1,jcj⟩,⟨1,1,jck⟩,⟨1,2,jaE⟩,⟨1,1,jaP⟩,⟨1,1,jbm⟩,⟨1,1,jbn⟩,⟨1,2,jaF⟩,⟨1,1,jaQ⟩,⟨1,2,jbo⟩,⟨1,2,jbp⟩,⟨1,1,jbL⟩,⟨2,3,jbq⟩,⟨2,3,jaG⟩,⟨2,2,jaR⟩,⟨2,4,jbr⟩,⟨2,7,jbs⟩,⟨1,6,ja6⟩,⟨2,6,jaT⟩,⟨1,3,ja7⟩,⟨1,6,jkO⟩]
theorem jgu:FnScope d_is_number.N d_is_number.ps (defScope d_is_number.st):=⟨rfl,rfl,rfl,by decide +kernel,rfl,by decide +kernel,by decide +kernel⟩
theorem jgv:(mapO (trS T 60 false (defScope d_is_number.st).names d_is_number.N) (defBody d_is_number.st)).map toSs=some jb8:=by kernel_rfl
theorem jgw:BindP d_is_number:=fun _ _ _ _ _ _=>jfi fun _=>rfl
theorem jip:FnScope d_is_tally.N d_is_tally.ps (defScope d_is_tally.st):=⟨rfl,rfl,rfl,by decide +kernel,rfl,by decide +kernel,by decide +kernel⟩
theorem jiq:(mapO (trS T 60 false (defScope d_is_tally.st).names d_is_tally.N) (defBody d_is_tally.st)).map toSs=some jbl:=by kernel_rfl
theorem jir:BindP d_is_tally:=fun _ _ _ _ _ _=>jfi fun _=>rfl
theorem jcm:FnScope d_is_tally_as_long.N d_is_tally_as_long.ps (defScope d_is_tally_as_long.st):=⟨rfl,rfl,rfl,by decide +kernel,rfl,by decide +kernel,by decide +kernel⟩
theorem jcn:(mapO (trS T 60 false (defScope d_is_tally_as_long.st).names d_is_tally_as_long.N) (defBody d_is_tally_as_long.st)).map toSs=some jan:=by kernel_rfl
theorem jco:BindP d_is_tally_as_long:=fun _ _ _ _ _ _=>len2 fun _ _=>rfl
theorem jgx:FnScope d_are_steps.N d_are_steps.ps (defScope d_are_steps.st):=⟨rfl,rfl,rfl,by decide +kernel,rfl,by decide +kernel,by decide +kernel⟩
theorem jgy:(mapO (trS T 60 false (defScope d_are_steps.st).names d_are_steps.N) (defBody d_are_steps.st)).map toSs=some ja5:=by kernel_rfl
theorem jgz:BindP d_are_steps:=fun _ _ _ _ _ _=>len2 fun _ _=>rfl
theorem jm3:FnScope d_is_fan.N d_is_fan.ps (defScope d_is_fan.st):=⟨rfl,rfl,rfl,by decide +kernel,rfl,by decide +kernel,by decide +kernel⟩
theorem jm4:(mapO (trS T 60 false (defScope d_is_fan.st).names d_is_fan.N) (defBody d_is_fan.st)).map toSs=some jcj:=by kernel_rfl
theorem jm5:BindP d_is_fan:=fun _ _ _ _ _ _=>jfi fun _=>rfl
theorem jm6:FnScope d_is_set.N d_is_set.ps (defScope d_is_set.st):=⟨rfl,rfl,rfl,by decide +kernel,rfl,by decide +kernel,by decide +kernel⟩
theorem jm7:(mapO (trS T 60 false (defScope d_is_set.st).names d_is_set.N) (defBody d_is_set.st)).map toSs=some jck:=by kernel_rfl
theorem jm8:BindP d_is_set:=fun _ _ _ _ _ _=>jfi fun _=>rfl
theorem jep:FnScope d_show_number.N d_show_number.ps (defScope d_show_number.st):=⟨rfl,rfl,rfl,by decide +kernel,rfl,by decide +kernel,by decide +kernel⟩
theorem jeq:(mapO (trS T 60 false (defScope d_show_number.st).names d_show_number.N) (defBody d_show_number.st)).map toSs=some jaE:=by kernel_rfl
theorem jer:BindP d_show_number:=fun _ _ _ _ _ _=>jfi fun _=>rfl
theorem jfp:FnScope d_show_tally.N d_show_tally.ps (defScope d_show_tally.st):=⟨rfl,rfl,rfl,by decide +kernel,rfl,by decide +kernel,by decide +kernel⟩
theorem jfq:(mapO (trS T 60 false (defScope d_show_tally.st).names d_show_tally.N) (defBody d_show_tally.st)).map toSs=some jaP:=by kernel_rfl
theorem jfr:BindP d_show_tally:=fun _ _ _ _ _ _=>jfi fun _=>rfl
theorem jis:FnScope d_show_fan.N d_show_fan.ps (defScope d_show_fan.st):=⟨rfl,rfl,rfl,by decide +kernel,rfl,by decide +kernel,by decide +kernel⟩
theorem jit:(mapO (trS T 60 false (defScope d_show_fan.st).names d_show_fan.N) (defBody d_show_fan.st)).map toSs=some jbm:=by kernel_rfl
theorem jiu:BindP d_show_fan:=fun _ _ _ _ _ _=>jfi fun _=>rfl
theorem jiv:FnScope d_show_set.N d_show_set.ps (defScope d_show_set.st):=⟨rfl,rfl,rfl,by decide +kernel,rfl,by decide +kernel,by decide +kernel⟩
theorem jiw:(mapO (trS T 60 false (defScope d_show_set.st).names d_show_set.N) (defBody d_show_set.st)).map toSs=some jbn:=by kernel_rfl
theorem jix:BindP d_show_set:=fun _ _ _ _ _ _=>jfi fun _=>rfl
theorem jes:FnScope d_read_number.N d_read_number.ps (defScope d_read_number.st):=⟨rfl,rfl,rfl,by decide +kernel,rfl,by decide +kernel,by decide +kernel⟩
theorem jet:(mapO (trS T 60 false (defScope d_read_number.st).names d_read_number.N) (defBody d_read_number.st)).map toSs=some jaF:=by kernel_rfl
theorem jeu:BindP d_read_number:=fun _ _ _ _ _ _=>jfi fun _=>rfl
theorem jfs:FnScope d_read_tally.N d_read_tally.ps (defScope d_read_tally.st):=⟨rfl,rfl,rfl,by decide +kernel,rfl,by decide +kernel,by decide +kernel⟩
theorem jft:(mapO (trS T 60 false (defScope d_read_tally.st).names d_read_tally.N) (defBody d_read_tally.st)).map toSs=some jaQ:=by kernel_rfl
theorem jfu:BindP d_read_tally:=fun _ _ _ _ _ _=>jfi fun _=>rfl
theorem jiy:FnScope d_read_fan.N d_read_fan.ps (defScope d_read_fan.st):=⟨rfl,rfl,rfl,by decide +kernel,rfl,by decide +kernel,by decide +kernel⟩
theorem jiz:(mapO (trS T 60 false (defScope d_read_fan.st).names d_read_fan.N) (defBody d_read_fan.st)).map toSs=some jbo:=by kernel_rfl
theorem jiA:BindP d_read_fan:=fun _ _ _ _ _ _=>jfi fun _=>rfl
theorem jiB:FnScope d_read_set.N d_read_set.ps (defScope d_read_set.st):=⟨rfl,rfl,rfl,by decide +kernel,rfl,by decide +kernel,by decide +kernel⟩
theorem jiC:(mapO (trS T 60 false (defScope d_read_set.st).names d_read_set.N) (defBody d_read_set.st)).map toSs=some jbp:=by kernel_rfl
theorem jiD:BindP d_read_set:=fun _ _ _ _ _ _=>jfi fun _=>rfl
theorem jfv:FnScope d__law_whole.N d__law_whole.ps (defScope d__law_whole.st):=⟨rfl,rfl,rfl,by decide +kernel,rfl,by decide +kernel,by decide +kernel⟩
theorem jfw:(mapO (trS T 60 false (defScope d__law_whole.st).names d__law_whole.N) (defBody d__law_whole.st)).map toSs=some jbL:=by kernel_rfl
theorem jfx:BindP d__law_whole:=fun _ _ _ _ _ _=>jfi fun _=>rfl
theorem jiE:FnScope d__law_row.N d__law_row.ps (defScope d__law_row.st):=⟨rfl,rfl,rfl,by decide +kernel,rfl,by decide +kernel,by decide +kernel⟩
theorem jiF:(mapO (trS T 60 false (defScope d__law_row.st).names d__law_row.N) (defBody d__law_row.st)).map toSs=some jbq:=by kernel_rfl
theorem jiG:BindP d__law_row:=fun _ _ _ _ _ _=>len2 fun _ _=>rfl
theorem jev:FnScope d__law_number.N d__law_number.ps (defScope d__law_number.st):=⟨rfl,rfl,rfl,by decide +kernel,rfl,by decide +kernel,by decide +kernel⟩
theorem jew:(mapO (trS T 60 false (defScope d__law_number.st).names d__law_number.N) (defBody d__law_number.st)).map toSs=some jaG:=by kernel_rfl
theorem jex:BindP d__law_number:=fun _ _ _ _ _ _=>len2 fun _ _=>rfl
theorem jfy:FnScope d__law_tally.N d__law_tally.ps (defScope d__law_tally.st):=⟨rfl,rfl,rfl,by decide +kernel,rfl,by decide +kernel,by decide +kernel⟩
theorem jfz:(mapO (trS T 60 false (defScope d__law_tally.st).names d__law_tally.N) (defBody d__law_tally.st)).map toSs=some jaR:=by kernel_rfl
theorem jfA:BindP d__law_tally:=fun _ _ _ _ _ _=>len2 fun _ _=>rfl
theorem jiH:FnScope d__law_fan.N d__law_fan.ps (defScope d__law_fan.st):=⟨rfl,rfl,rfl,by decide +kernel,rfl,by decide +kernel,by decide +kernel⟩
theorem jiI:(mapO (trS T 60 false (defScope d__law_fan.st).names d__law_fan.N) (defBody d__law_fan.st)).map toSs=some jbr:=by kernel_rfl
theorem jiJ:BindP d__law_fan:=fun _ _ _ _ _ _=>len2 fun _ _=>rfl
theorem jiK:FnScope d__law_set.N d__law_set.ps (defScope d__law_set.st):=⟨rfl,rfl,rfl,by decide +kernel,rfl,by decide +kernel,by decide +kernel⟩
theorem jiL:(mapO (trS T 60 false (defScope d__law_set.st).names d__law_set.N) (defBody d__law_set.st)).map toSs=some jbs:=by kernel_rfl
theorem jiM:BindP d__law_set:=fun _ _ _ _ _ _=>len2 fun _ _=>rfl
theorem jgA:FnScope d__law_text.N d__law_text.ps (defScope d__law_text.st):=⟨rfl,rfl,rfl,by decide +kernel,rfl,by decide +kernel,by decide +kernel⟩
theorem jgB:(mapO (trS T 60 false (defScope d__law_text.st).names d__law_text.N) (defBody d__law_text.st)).map toSs=some ja6:=by kernel_rfl
theorem jgC:BindP d__law_text:=fun _ _ _ _ _ _=>jfi fun _=>rfl
theorem jfB:FnScope d__law_alike.N d__law_alike.ps (defScope d__law_alike.st):=⟨rfl,rfl,rfl,by decide +kernel,rfl,by decide +kernel,by decide +kernel⟩
theorem jfC:(mapO (trS T 60 false (defScope d__law_alike.st).names d__law_alike.N) (defBody d__law_alike.st)).map toSs=some jaT:=by kernel_rfl
theorem jfD:BindP d__law_alike:=fun _ _ _ _ _ _=>len2 fun _ _=>rfl
theorem jgD:FnScope d__law_told.N d__law_told.ps (defScope d__law_told.st):=⟨rfl,rfl,rfl,by decide +kernel,rfl,by decide +kernel,by decide +kernel⟩
theorem jgE:(mapO (trS T 60 false (defScope d__law_told.st).names d__law_told.N) (defBody d__law_told.st)).map toSs=some ja7:=by kernel_rfl
theorem jgF:BindP d__law_told:=fun _ _ _ _ _ _=>jfi fun _=>rfl
theorem jtm:FnScope d_law.N d_law.ps (defScope d_law.st):=⟨rfl,rfl,rfl,by decide +kernel,rfl,by decide +kernel,by decide +kernel⟩
theorem jtn:(mapO (trS T 60 false (defScope d_law.st).names d_law.N) (defBody d_law.st)).map toSs=some jkO:=by kernel_rfl
theorem jto:BindP d_law:=fun _ _ _ _ _ _=>jfi fun _=>rfl
end Law
namespace Law
open PySem L2 DJ
variable {W n:Nat}
noncomputable abbrev CD (W n:Nat):Calls:=jaa U W P n
theorem jtW (ns:List Int):tu ns=.tup (ns.map D.int):=rfl
section
variable {G:Calls}{ρ ρ1 ρ2 ρ3:Rho}{a b c e e':E}{v1 v2 v3:Vl}{s:S}{ss:Ss}{bb:Bool}
theorem as1 (h:evE G U a ρ=.ok (v1,ρ1)):evAs G U (.cons a .nil) ρ=.ok ([v1],ρ1):=by simp only[evAs,h,R.bind_ok']
theorem as2 (h:evE G U a ρ=.ok (v1,ρ1))(h2:evE G U b ρ1=.ok (v2,ρ2)):evAs G U (.cons a (.cons b .nil)) ρ=.ok ([v1,v2],ρ2):=by simp only[evAs,h,h2,R.bind_ok']
theorem jnO (h:evE G U e ρ=.ok (.dat (.bl false),ρ1)):evE G U (.and e e') ρ=.ok (.dat (.bl false),ρ1):=by simp only[evE,h,R.bind_ok',jcr,jvd,if_false]
theorem jkP {x y:Bool}(h:evE G U e ρ=.ok (.dat (.bl x),ρ))(h':x=true->evE G U e' ρ=.ok (.dat (.bl y),ρ)):evE G U (.and e e') ρ=.ok (.dat (.bl (x && y)),ρ):=by
 cases x with
 |false=>exact jnO h
 |true=>exact jmJ h (h' rfl)
theorem jlb {x y:Ss}(h:evT G U c ρ=.ok (bb,ρ1)):evS G U W (.ife c x y) ρ=(if bb then evSs G U W x ρ1 else evSs G U W y ρ1):=by simp only[evS,h,R.bind_ok']
theorem jtp {x y:Bool}(h:evT G U c ρ=.ok (x,ρ))(h':x=false->evT G U a ρ=.ok (y,ρ)):evT G U (.or c a) ρ=.ok (x || y,ρ):=by
 cases x with
 |false=>exact jmI h (h' rfl)
 |true=>simp only[evT,h,R.bind_ok',if_true,Bool.true_or]
end
mutual
noncomputable def san:D->Bool
 |.exc _=>false
 |.tup xs=>sans xs
 |.lst xs=>sans xs
 |_=>true
noncomputable def sans:List D->Bool
 |[]=>true
 |x::r=>san x && sans r
end
theorem jcp:∀{xs:List D},sans xs=true->∀x∈xs,san x=true
 |[],_,x,hx=>by cases hx
 |y::r,h,x,hx=>by
  simp only[sans,jvc]at h;rcases List.mem_cons.mp hx with rfl | hx
  ·exact h.1
  ·exact jcp h.2 x hx
theorem jey:∀{xs:List D},(∀x∈xs,san x=true)->sans xs=true
 |[],_=>by simp only[sans]
 |y::r,h=>by
  simp only[sans,h y jut,jey fun x hx=>h x (jus _ hx),Bool.and_self]
theorem jnP (k:List Int):san (tu k)=true:=by
 unfold tu;simp only[san];exact jey fun x hx=>by
  obtain⟨i,_,rfl⟩:=List.mem_map.mp hx;simp only[san]
noncomputable def isI:D->Bool
 |.int _=>true
 |_=>false
noncomputable def nnI:D->Bool
 |.int i=>decide (0<=i)
 |_=>false
theorem jtq (d:D)(h:san d=true):CD W (n + 1) 0 [.dat d]=.ok (.dat (.bl (isI d)),[.no]):=by
 rw[CD,jag (d:=⟨1,1,jb8⟩) rfl rfl];cases d with
 |exc c=>simp only[san]at h;cases h
 |_=>rfl
theorem jpS (d:D)(h:san d=true):CD W (n + 1) 14 [.dat d]=.ok (.dat (.bl (isI d)),[.no]):=by
 rw[CD,jag (d:=⟨1,1,jbL⟩) rfl rfl];cases d with
 |exc c=>simp only[san]at h;cases h
 |_=>rfl
noncomputable def jhn:D->Nat
 |.tup xs=>xs.length
 |_=>0
noncomputable def jiR:D->Bool
 |.tup xs=>!(decide ((xs.length:Int) < 1) || decide ((4:Int) < xs.length)) && xs.all nnI
 |_=>false
theorem jkQ (d:D)(h:san d=true):CD W (n + 2) 1 [.dat d]=.ok (.dat (.bl (jiR d)),[.no]):=by
 rw[CD,jag (d:=⟨1,1,jbl⟩) rfl rfl];cases d with
 |exc c=>simp only[san]at h;cases h
 |tup xs=>
  simp only[san]at h;have hm:=jcp h;have e:evE (jaa U W P (n + 1)) U jcy [.dat (.tup xs)]=.ok (.tmp (.l (xs.map fun x=>.bl (nnI x))),[.dat (.tup xs)]):=by
   refine jaq (h:=fun x=>x) (g:=fun x=>.bl (nnI x)) (xs:=xs) (by rw[List.map_id'];rfl) (fun x hx=>?_) fun s=>rfl
   have h0:=jai (G:=jaa U W P (n + 1)) (U:=U) (k:=0) (ρ:=[.dat x]) (es:=.cons (.var 0) .nil) [x] rfl (jtq (W:=W) (n:=n) x (hm x hx));cases x with
   |int i=>exact jmJ h0 rfl
   |_=>exact jnO h0
  have t:evT (jaa U W P (n + 1)) U (.or (.cmp .lt (.blt .len (.var 0)) (.lit (.int 1))) (.cmp .gt (.blt .len (.var 0)) (.lit (.int 4)))) [.dat (.tup xs)]=.ok (decide ((xs.length:Int) < 1) || decide ((4:Int) < xs.length),[.dat (.tup xs)]):=jtp rfl fun _=>rfl;show (evSs (jaa U W P (n + 1)) U W jbl [.dat (.tup xs)]).bind (jbD 1)=_;unfold jbl;rw[jah (ρ':=[.dat (.tup xs)]) rfl];simp only[jiR];cases hb:(decide ((xs.length:Int) < 1) || decide ((4:Int) < xs.length))with
  |true=>
   rw[hb]at t;rw[jb7 (by rw[jlb t];rfl)]
   rfl
  |false=>
   rw[hb]at t;rw[jah (by rw[jlb t];rfl)]
   simp_arith[e,bfD,jby]
   simp only[List.all_map,Bool.not_false,Bool.true_and];rfl
 |_=>rfl
noncomputable def jiN (d:D)(l:Nat):Bool:=jiR d && (jhn d == l)
theorem jez {d:D}(h:jiR d=true):∃xs,d=.tup xs/\1<=xs.length/\xs.length<=4/\∀x∈xs,∃i:Int,x=.int i/\0<=i:=by
 cases d with
 |tup xs=>
  simp only[jiR,jvc,Bool.not_eq_true',Bool.or_eq_false_iff,decide_eq_false_iff_not,juK]at h;refine⟨xs,rfl,by omega,by omega,fun x hx=>?_⟩
  have:=h.2 x hx;cases x with
  |int i=>exact⟨i,rfl,of_decide_eq_true this⟩
  |_=>cases this
 |_=>cases h
theorem jr6 (d:D)(l:Nat)(h:san d=true):CD W (n + 3) 2 [.dat d,.dat (.int l)]=.ok (.dat (.bl (jiN d l)),[.no,.no]):=by
 rw[CD,jag (d:=⟨2,2,jan⟩) rfl rfl];have h0:=jai (G:=jaa U W P (n + 2)) (U:=U) (k:=1) (ρ:=[.dat d,.dat (.int l)]) (es:=.cons (.var 0) .nil) [d] rfl (jkQ (W:=W) (n:=n) d h);have e:=jkP (e':=.cmp .eq (.blt .len (.var 0)) (.var 1)) (y:=jhn d == l) h0 fun ht=>by
  obtain⟨xs,rfl,_⟩:=jez ht;simp_arith[];simp only[jhn];congr 4;rw[Bool.eq_iff_iff];simp only[beq_iff_eq];omega
 show (evSs (jaa U W P (n + 2)) U W jan [.dat d,.dat (.int l)]).bind (jbD 2)=_;unfold jan;rw[jb7 (jc9 e)];rfl
noncomputable def nz (k:List Int):Bool:=(k.map (· != 0)).any id
theorem jdJ:∀(k:List Int),jas (k.map D.int)=some (k.map (· != 0))
 |[]=>rfl
 |a::r=>by simp only[juy,jas,jdJ r,Option.map_some]
noncomputable def jr7 (b:List Int)(ss:List (List Int)):D:=.tup [tu b,.tup (ss.map tu)]
theorem jho:∀(l:List (List Int)),jbi (l.map tu)=some l
 |[]=>rfl
 |k::l=>by simp only[juy,tu,jbi,jbk];rw[jho l]
theorem jm9 {l:List (List Int)}(h0:∀k∈l,k≠[])(hl:l.length < 64):jd7 l=.ok (.tmp (.l ((jbu l).map tu))):=by
 unfold jd7;rw[if_pos]
 ·rfl
 ·simp only[jvc,juK,decide_eq_true_eq];refine⟨fun k hk=>?_,hl⟩;have:=h0 k hk;cases k with
  |nil=>exact absurd rfl this
  |cons _ _=>rfl
theorem jr8 {sq:D}{xs:List D}(h:jaU sq=.ok xs){ρ:Rho}:jaA (.dat sq) ρ=.ok (xs,[],ρ):=by
 simp only[jaA,h,R.bind_ok']
theorem jpT {G:Calls}{a:E}{ρ:Rho}{α:Type}{xs:List α}{g:α->Bool}(h:evE G U a ρ=.ok (.tmp (.l (xs.map fun x=>.bl (g x))),ρ)):evT G U (.blt .all a) ρ=.ok (xs.all g,ρ):=by
 simp only[evT,h,R.bind_ok',jda,jpI,bfD,jch,jby,jam,jrX,List.all_map];rfl
theorem jr9 {G:Calls}{a:E}{ρ:Rho}{α:Type}{xs:List α}{g:α->Bool}(h:evE G U a ρ=.ok (.tmp (.l (xs.map fun x=>.bl (g x))),ρ)):evE G U (.blt .all a) ρ=.ok (.dat (.bl (xs.all g)),ρ):=by
 simp only[evE,h,R.bind_ok',jda,jpI,bfD,jch,jby,List.all_map];rfl
theorem jkR {d:D}(h:jiR d=true):bfD .len d=.ok (.dat (.int (jhn d))):=by
 obtain⟨xs,rfl,_⟩:=jez h;rfl
noncomputable def Tal (l:Nat)(k:List Int):Prop:=k.length=l/\∀x∈k,0<=x
theorem jkS {l:Nat}{k:List Int}(h:Tal l k)(h1:1<=l)(h4:l<=4):jiR (tu k)=true:=by
 have e:=h.1;simp only[tu,jiR,juA,jvc,Bool.not_eq_true',Bool.or_eq_false_iff,decide_eq_false_iff_not,juK];refine⟨by omega,fun x hx=>?_⟩
 obtain⟨i,hi,rfl⟩:=List.mem_map.mp hx;exact decide_eq_true (h.2 i hi)
theorem jeA {k:List Int}:jhn (tu k)=k.length:=by simp[tu,jhn]
theorem jna {l:Nat}{k:List Int}(h:Tal l k)(h1:1<=l)(h4:l<=4):jiN (tu k) l=true:=by
 unfold jiN;rw[jkS h h1 h4,jeA,h.1];simp
end Law
namespace Law
open PySem L2 DJ
variable {W n:Nat}
noncomputable def kOf:D->List Int
 |.tup xs=>xs.map fun x=>match x with
  |.int i=>i
  |_=>0
 |_=>[]
theorem jhp (k:List Int):kOf (tu k)=k:=by
 simp only[tu,kOf,List.map_map];exact(List.map_congr_left fun x _=>rfl).trans (List.map_id k)
theorem jkT:∀{xs:List D},(∀x∈xs,∃i:Int,x=.int i/\0<=i)->∃k:List Int,xs=k.map D.int/\∀i∈k,0<=i
 |[],_=>⟨[],rfl,fun _ h=>by cases h⟩
 |x::xs,h=>by
  obtain⟨i,rfl,hi⟩:=h x jut;obtain⟨k,e,hk⟩:=jkT fun y hy=>h y (jus _ hy);subst e;refine⟨i::k,rfl,fun j hj=>?_⟩;rcases List.mem_cons.mp hj with rfl | hj
  ·exact hi
  ·exact hk j hj
theorem jpU {d:D}(h:jiR d=true):∃k,d=tu k/\Tal k.length k/\1<=k.length/\k.length<=4:=by
 obtain⟨xs,rfl,h1,h4,hx⟩:=jez h;obtain⟨k,rfl,hk⟩:=jkT hx;rw[juA]at h1 h4;exact⟨k,rfl,⟨rfl,hk⟩,h1,h4⟩
theorem jhq {d:D}{l:Nat}(h:jiN d l=true):∃k,d=tu k/\Tal l k/\1<=l/\l<=4:=by
 unfold jiN at h;simp only[jvc,beq_iff_eq]at h;obtain⟨k,rfl,hk,h1,h4⟩:=jpU h.1;have e:=h.2;rw[jeA]at e;subst e;exact⟨k,rfl,hk,h1,h4⟩
noncomputable def jgG (l:Nat)(x:D):Bool:=jiN x l && nz (kOf x)
noncomputable def jtr (ks:List (List Int)):Bool:=(ks.zip (ks.drop 1)).all fun p=>DJ.lexLt p.1 p.2
noncomputable def jcD (d:D)(l:Nat):Bool:=match d with
 |.tup xs=>xs.all (jgG l) && jtr (xs.map kOf)
 |_=>false
theorem jkU:∀(as bs:List (List Int)),jdx (as.map tu) (bs.map tu)=(as.zip bs).map fun p=>.tup [tu p.1,tu p.2]
 |[],_=>by simp[jdx]
 |_::_,[]=>by simp[jdx]
 |a::as,b::bs=>by simp only[juy,jdx,jkU as bs,List.zip_cons_cons]
theorem jpV {a b:List Int}:cmD .lt (tu a) (tu b)=.ok (DJ.lexLt a b):=by
 show ltD (.tup (a.map D.int)) (.tup (b.map D.int))=_;simp only[ltD,jbk]
theorem jhr {l:Nat}:∀{xs:List D},xs.all (jgG l)=true->∃ks:List (List Int),xs=ks.map tu/\∀k∈ks,Tal l k/\nz k=true
 |[],_=>⟨[],rfl,fun _ h=>by cases h⟩
 |x::xs,h=>by
  simp only[List.all_cons,jvc]at h;obtain⟨ks,rfl,hk⟩:=jhr h.2;have h1:=h.1;simp only[jgG,jvc]at h1;obtain⟨k,rfl,ht,_⟩:=jhq h1.1;rw[jhp]at h1;refine⟨k::ks,rfl,fun j hj=>?_⟩;rcases List.mem_cons.mp hj with rfl | hj
  ·exact⟨ht,h1.2⟩
  ·exact hk j hj
theorem jkV (ks:List (List Int)):(ks.map tu).map kOf=ks:=by
 rw[List.map_map];exact(List.map_congr_left fun x _=>jhp x).trans (List.map_id ks)
theorem jpW (d:D)(l:Nat)(h:san d=true):CD W (n + 4) 3 [.dat d,.dat (.int l)]=.ok (.dat (.bl (jcD d l)),[.no,.no]):=by
 rw[CD,jag (d:=⟨2,2,ja5⟩) rfl rfl];cases d with
 |exc c=>simp only[san]at h;cases h
 |tup xs=>
  simp only[san]at h;have hm:=jcp h;have e1:evE (jaa U W P (n + 3)) U jci [.dat (.tup xs),.dat (.int l)]=.ok (.tmp (.l (xs.map fun x=>.bl (jgG l x))),[.dat (.tup xs),.dat (.int l)]):=by
   refine jaq (h:=fun x=>x) (g:=fun x=>.bl (jgG l x)) (xs:=xs) (by rw[List.map_id'];rfl) (fun x hx=>?_) fun s=>rfl
   have h0:=jai (G:=jaa U W P (n + 3)) (U:=U) (k:=2) (ρ:=[.dat x,.dat (.int l)]) (es:=.cons (.var 0) (.cons (.var 1) .nil)) [x,.int l] rfl (jr6 (W:=W) (n:=n) x l (hm x hx));refine jkP h0 fun ht=>?_;obtain⟨k,rfl,_⟩:=jhq ht;rw[jhp];simp only[evE,juL,R.bind_ok',jam,bfD,tu,jfj,jdJ];rfl
  have t:=jel (jpT e1);show (evSs (jaa U W P (n + 3)) U W ja5 [.dat (.tup xs),.dat (.int l)]).bind (jbD 2)=_;unfold ja5;rw[jah (ρ':=[.dat (.tup xs),.dat (.int l)]) rfl];cases hg:xs.all (jgG l)with
  |false=>
   rw[hg]at t;rw[jb7 (by rw[jlb t];rfl)]
   simp only[jcD,hg,Bool.false_and];rfl
  |true=>
   rw[hg]at t;rw[jah (by rw[jlb t];rfl)]
   obtain⟨ks,rfl,hk⟩:=jhr hg;have e2:evE (jaa U W P (n + 3)) U jbz [.dat (.tup (ks.map tu)),.dat (.int l)]=.ok (.tmp (.l ((ks.zip (ks.drop 1)).map fun p=>.bl (DJ.lexLt p.1 p.2))),[.dat (.tup (ks.map tu)),.dat (.int l)]):=by
    have hc:cut (ks.map tu) (some (1:Int)) none=(ks.drop 1).map tu:=by
     rw[jem];exact congrArg _ (jhm ks 1)
    unfold jbz;simp_arith[hc,jkU,juQ];rw[jcv (g:=fun p:List Int×List Int=>.bl (DJ.lexLt p.1 p.2))]
    ·rfl
    ·intro p hp;have e:(putT [0,1] false (.tup [tu p.1,tu p.2]) (jeG 2 [] [.dat (.tup (ks.map tu)),.dat (.int l)]))=.ok [.dat (tu p.1),.dat (tu p.2)]:=rfl;rw[e];simp_arith[jpV];rfl
   rw[jb7 (jc9 (jr9 e2))];simp only[jcD,hg,jkV,Bool.true_and];rfl
 |_=>rfl
noncomputable def jlc:D->Bool
 |.tup xs=>match xs with
  |[a,b]=>jiR a && jcD b (jhn a)
  |_=>false
 |_=>false
theorem len2 {α:Type}{xs:List α}(h:xs.length=2):∃a b,xs=[a,b]:=by
 cases xs with
 |nil=>cases h
 |cons a xs=>
  cases xs with
  |nil=>cases h
  |cons b xs=>
   cases xs with
   |nil=>exact⟨a,b,rfl⟩
   |cons _ _=>cases h
theorem jsa (d:D)(h:san d=true):CD W (n + 5) 4 [.dat d]=.ok (.dat (.bl (jlc d)),[.no]):=by
 rw[CD,jag (d:=⟨1,1,jcj⟩) rfl rfl];cases d with
 |exc c=>simp only[san]at h;cases h
 |tup xs=>
  simp only[san]at h;have hm:=jcp h;have t:evT (jaa U W P (n + 4)) U (.or (.not (.isi (.var 0) [.tuple])) (.cmp .ne (.blt .len (.var 0)) (.lit (.int 2)))) [.dat (.tup xs)]=.ok (!((xs.length:Int) == 2),[.dat (.tup xs)]):=jmI rfl rfl;show (evSs (jaa U W P (n + 4)) U W jcj [.dat (.tup xs)]).bind (jbD 1)=_;unfold jcj;by_cases hl:xs.length=2
  ·obtain⟨a,b,rfl⟩:=len2 hl
   ·rw[jah (by rw[jlb t];rfl)]
    have ha:=hm a jut;have hb:=hm b (jus _ jut);have e1:=jai (G:=jaa U W P (n + 4)) (U:=U) (k:=1) (ρ:=[.dat (.tup [a,b])]) (es:=.cons (.idx (.var 0) (.lit (.int 0))) .nil) [a] rfl (jkQ (W:=W) (n:=n + 2) a ha);rw[jb7 (jc9 (jkP (y:=jcD b (jhn a)) e1 fun ht=>jai [b,.int (jhn a)] (as2 rfl (by simp_arith[jkR ht])) (jpW (W:=W) (n:=n) b (jhn a) hb)))]
    rfl
  ·have:((xs.length:Int) == 2)=false:=by
    rw[beq_eq_false_iff_ne];omega
   rw[this]at t;rw[jb7 (by rw[jlb t];rfl)]
   have:jlc (.tup xs)=false:=by
    cases xs with
    |nil=>rfl
    |cons _ xs=>
     cases xs with
     |nil=>rfl
     |cons _ xs=>
      cases xs with
      |nil=>exact absurd rfl hl
      |cons _ _=>rfl
   rw[this];rfl
 |_=>rfl
noncomputable def fl:D->Nat
 |.tup (a::_)=>jhn a
 |_=>0
noncomputable def jqi:D->Bool
 |.tup xs=>xs.all jlc && xs.all fun x=>fl x == fl (xs.headD .non)
 |_=>false
theorem jkW {d:D}(h:jlc d=true):∃a b,d=.tup [a,b]/\jiR a=true/\jcD b (jhn a)=true:=by
 cases d with
 |tup xs=>
  match xs,h with
  |[a,b],h=>
   simp only[jlc,jvc]at h;exact⟨a,b,rfl,h⟩
 |_=>cases h
theorem jts (d:D)(h:san d=true):CD W (n + 6) 5 [.dat d]=.ok (.dat (.bl (jqi d)),[.no]):=by
 rw[CD,jag (d:=⟨1,1,jck⟩) rfl rfl];cases d with
 |exc c=>simp only[san]at h;cases h
 |tup xs=>
  simp only[san]at h;have hm:=jcp h;have e1:evE (jaa U W P (n + 5)) U jcw [.dat (.tup xs)]=.ok (.tmp (.l (xs.map fun x=>.bl (jlc x))),[.dat (.tup xs)]):=by
   refine jaq (h:=fun x=>x) (g:=fun x=>.bl (jlc x)) (xs:=xs) (by rw[List.map_id'];rfl) (fun x hx=>?_) fun s=>rfl
   exact jai [x] rfl (jsa (W:=W) (n:=n) x (hm x hx))
  have t:evT (jaa U W P (n + 5)) U (.or (.not (.isi (.var 0) [.tuple])) (.not (.blt .all jcw))) [.dat (.tup xs)]=.ok (!xs.all jlc,[.dat (.tup xs)]):=jmI rfl (jel (jpT e1));show (evSs (jaa U W P (n + 5)) U W jck [.dat (.tup xs)]).bind (jbD 1)=_;unfold jck;cases hg:xs.all jlc with
  |false=>
   rw[hg]at t;rw[jb7 (by rw[jlb t];rfl)]
   simp only[jqi,hg,Bool.false_and];rfl
  |true=>
   rw[hg]at t;rw[jah (by rw[jlb t];rfl)]
   have e2:evE (jaa U W P (n + 5)) U jdI [.dat (.tup xs)]=.ok (.tmp (.l (xs.map fun x=>.bl (fl x == fl (xs.headD .non)))),[.dat (.tup xs)]):=by
    refine jaq (h:=fun x=>x) (g:=fun x=>.bl (fl x == fl (xs.headD .non))) (xs:=xs) (by rw[List.map_id'];rfl) (fun x hx=>?_) fun s=>rfl
    cases xs with
    |nil=>cases hx
    |cons x0 r=>
     obtain⟨a,b,rfl,ha,_⟩:=jkW (List.all_eq_true.mp hg x hx);obtain⟨a0,b0,rfl,ha0,_⟩:=jkW (List.all_eq_true.mp hg _ jut);show evE (jaa U W P (n + 5)) U (.cmp .eq (.blt .len (.idx (.var 0) (.lit (.int 0)))) (.blt .len (.idx (.idx (.var 1) (.lit (.int 0))) (.lit (.int 0))))) [.dat (.tup [a,b]),.dat (.tup (.tup [a0,b0]::r))]=_;simp_arith[jkR ha,jkR ha0];simp only[fl,List.headD_cons];congr 4;rw[Bool.eq_iff_iff];simp only[beq_iff_eq];omega
   rw[jb7 (jc9 (jr9 e2))];simp only[jqi,hg,Bool.true_and];rfl
 |_=>rfl
end Law
namespace Law
open PySem L2 DJ
variable {W n:Nat}
theorem jhs (a b:List Int):∀(xs:List Int) (s:Sl),∃t,jaw (fun x r=>(putT [2] true x r).bind fun r'=>evSs (jaa U W P (n + 1)) U W jbb r') (xs.map D.int) [.dat (tu a),.dat (tu b),s]=.ok (.nx [.dat (tu a),.dat (tu b),t])
 |[],s=>⟨s,rfl⟩
 |x::xs,s=>by
  obtain⟨t,e⟩:=jhs a b xs (.dat (.int x));refine⟨t,?_⟩;have t1:evT (jaa U W P (n + 1)) U (.not (.call 14 [] (.cons (.var 2) .nil))) [.dat (tu a),.dat (tu b),.dat (.int x)]=.ok (false,[.dat (tu a),.dat (tu b),.dat (.int x)]):=jel (b:=true) (jcg (ds:=[.int x]) rfl (jpS (W:=W) (n:=n) (.int x) rfl));have e1:evSs (jaa U W P (n + 1)) U W jbb [.dat (tu a),.dat (tu b),.dat (.int x)]=.ok (.nx [.dat (tu a),.dat (tu b),.dat (.int x)]):=by
   unfold jbb;rw[jah (jeH t1)];simp only[evSs]
  simp only[juy,jaw];have e2:(putT [2] true (.int x) [.dat (tu a),.dat (tu b),s])=.ok [.dat (tu a),.dat (tu b),.dat (.int x)]:=rfl;rw[e2,R.bind_ok',e1];exact e
theorem jsb (a:List Int):CD W (n + 2) 15 [.dat (tu a),.dat (tu a)]=.ok (.dat (.bl true),[.no,.no]):=by
 rw[CD,jag (d:=⟨2,3,jbq⟩) rfl rfl];obtain⟨t,e⟩:=jhs (W:=W) (n:=n) a a a .no;have t0:evT (jaa U W P (n + 1)) U (.or (.not (.isi (.var 0) [.tuple])) (.cmp .ne (.blt .len (.var 0)) (.blt .len (.var 1)))) [.dat (tu a),.dat (tu a),.no]=.ok (false,[.dat (tu a),.dat (tu a),.no]):=by
  refine jmI rfl ?_;simp_arith[tu,bne_self_eq_false,beq_self_eq_true]
 show (evSs (jaa U W P (n + 1)) U W jbq [.dat (tu a),.dat (tu a),.no]).bind (jbD 2)=_;unfold jbq;rw[jah (jeH t0)];rw[jah (ρ':=[.dat (tu a),.dat (tu a),t]) (by
  have hi:jbB (.dat (tu a)) [.dat (tu a),.dat (tu a),.no]=.ok (a.map D.int,[],[.dat (tu a),.dat (tu a),.no]):=rfl;simp_arith[hi,e,jdg,unlk])]
 simp_arith[jrT]
 simp;rfl
noncomputable def mc:Nat->Int
 |0=>48271
 |1=>69621
 |2=>39373
 |_=>16807
noncomputable def nh (c:Int)(k:Nat):Int:=(c + 3) * mc k % 999999999989
noncomputable def jld (c:Int)(k:Nat):Int:=
 if nh c k % 6=0\/nh c k % 6=1 then nh c k * 1001 % (10 ^ 15 + 1)else if nh c k % 6=2\/nh c k % 6=3 then nh c k / 3 % 10 else if nh c k % 6=4 then 0 else 10 ^ 15
theorem jpX (c:Int)(k:Nat):0<=jld c k:=by
 unfold jld;split
 ·exact Int.emod_nonneg _ (by decide)
 ·split
  ·exact Int.emod_nonneg _ (by decide)
  ·split <;> decide
theorem jtt {a b c d r:Int}(h0:0<=r)(h6:r < 6):∃j:Int,DJ.atI [D.int 0,.int 0,.int 1,.int 1,.int 2,.int 3] r=.ok (.int j)/\DJ.atI [D.int a,.int b,.int c,.int d] j=.ok (.int (if r=0\/r=1 then a else if r=2\/r=3 then b else if r=4 then c else d)):=by
 have:r=0\/r=1\/r=2\/r=3\/r=4\/r=5:=by omega
 rcases this with rfl | rfl | rfl | rfl | rfl | rfl
 ·exact⟨0,rfl,rfl⟩
 ·exact⟨0,rfl,rfl⟩
 ·exact⟨1,rfl,rfl⟩
 ·exact⟨1,rfl,rfl⟩
 ·exact⟨2,rfl,rfl⟩
 ·exact⟨3,rfl,rfl⟩
theorem jnb (c:Int)(k:Nat)(hk:k < 4):CD W (n + 1) 16 [.dat (.int c),.dat (.int k)]=.ok (.dat (.int (jld c k)),[.no,.no]):=by
 rw[CD,jag (d:=⟨2,3,jaG⟩) rfl rfl];show (evSs (jaa U W P n) U W jaG [.dat (.int c),.dat (.int k),.no]).bind (jbD 2)=_;have e1:evE (jaa U W P n) U (.bin .mod (.bin .mul (.bin .add (.var 0) (.lit (.int 3))) (.idx (.lst (.cons (.lit (.int 48271)) (.cons (.lit (.int 69621)) (.cons (.lit (.int 39373)) (.cons (.lit (.int 16807)) .nil))))) (.var 1))) (.lit (.int 999999999989))) [.dat (.int c),.dat (.int k),.no]=.ok (.dat (.int (nh c k)),[.dat (.int c),.dat (.int k),.no]):=by
  have m:DJ.atI [D.int 48271,D.int 69621,D.int 39373,D.int 16807] (k:Int)=.ok (.int (mc k)):=by
   match k,hk with
   |0,_=>rfl
   |1,_=>rfl
   |2,_=>rfl
   |3,_=>rfl
  have b:-18446744073709551616 < mc k/\mc k < 18446744073709551616:=by
   unfold mc;split <;> decide
  simp_arith[m,if_pos (Or.inr b)]
  rfl
 unfold jaG;rw[jah (jdk e1 (by simp))]
 show (evSs (jaa U W P n) U W _ [.dat (.int c),.dat (.int k),.dat (.int (nh c k))]).bind (jbD 2)=_;have h6:nh c k % 6=0\/nh c k % 6=1\/nh c k % 6=2\/nh c k % 6=3\/nh c k % 6=4\/nh c k % 6=5:=by omega
 have f:(evSs (jaa U W P n) U W (.cons (.ret (.idx (.lst (.cons (.bin .mod (.bin .mul (.var 2) (.lit (.int 1001))) (.bin .add (.bin .pow (.lit (.int 10)) (.lit (.int 15))) (.lit (.int 1)))) (.cons (.bin .mod (.bin .fdiv (.var 2) (.lit (.int 3))) (.lit (.int 10))) (.cons (.lit (.int 0)) (.cons (.bin .pow (.lit (.int 10)) (.lit (.int 15))) .nil))))) (.idx (.lst (.cons (.lit (.int 0)) (.cons (.lit (.int 0)) (.cons (.lit (.int 1)) (.cons (.lit (.int 1)) (.cons (.lit (.int 2)) (.cons (.lit (.int 3)) .nil))))))) (.bin .mod (.var 2) (.lit (.int 6)))))) .nil) [.dat (.int c),.dat (.int k),.dat (.int (nh c k))]).bind (jbD 2)=.ok (.dat (.int (jld c k)),[.no,.no]):=by
  obtain⟨j,j1,j2⟩:=jtt (a:=nh c k * 1001 % (10 ^ 15 + 1)) (b:=nh c k / 3 % 10) (c:=0) (d:=10 ^ 15) (r:=nh c k % 6) (by omega) (by omega)
  unfold jld;generalize (if nh c k % 6=0\/nh c k % 6=1 then nh c k * 1001 % (10 ^ 15 + 1)else if nh c k % 6=2\/nh c k % 6=3 then nh c k / 3 % 10 else if nh c k % 6=4 then 0 else 10 ^ 15)=w at j2;simp only[Int.reducePow,Int.reduceAdd]at j2;simp_arith[jr4,Int.reduceAdd,j1,j2];rfl
 exact f
noncomputable def jiO (c:Int)(l:Nat):List Int:=(List.range l).map (jld c)
theorem jht (c:Int)(l:Nat)(hl:l<=4):CD W (n + 2) 17 [.dat (.int c),.dat (.int l)]=.ok (.dat (tu (jiO c l)),[.no,.no]):=by
 rw[CD,jag (d:=⟨2,2,jaR⟩) rfl rfl];have e:evE (jaa U W P (n + 1)) U jb0 [.dat (.int c),.dat (.int l)]=.ok (.tmp (.l ((List.range l).map fun k=>.int (jld c k))),[.dat (.int c),.dat (.int l)]):=by
  refine jaq (h:=fun (j:Nat)=>D.int j) (g:=fun k=>.int (jld c k)) (xs:=List.range l) (by simp_arith[jen l (by omega)]) (fun k hk=>?_) fun s=>rfl
  exact jai (G:=jaa U W P (n + 1)) (U:=U) (k:=16) (ρ:=[.dat (.int k),.dat (.int c)]) (es:=.cons (.var 1) (.cons (.var 0) .nil)) [.int c,.int k] rfl (jnb (W:=W) (n:=n) c k (by have:=List.mem_range.mp hk;omega))
 show (evSs (jaa U W P (n + 1)) U W jaR [.dat (.int c),.dat (.int l)]).bind (jbD 2)=_;unfold jaR;simp_arith[e];simp only[tu,jiO,List.map_map];rfl
end Law
namespace Law
open PySem L2 DJ
variable {W n:Nat}
theorem jnQ:∀(a:List Int),DJ.lexLt a a=false
 |[]=>rfl
 |x::a=>by simp only[DJ.lexLt,if_true,jnQ a]
theorem lt_trans:∀{a b c:List Int},DJ.lexLt a b=true->DJ.lexLt b c=true->DJ.lexLt a c=true
 |[],[],_,h,_=>by cases h
 |[],_::_,[],_,h=>by simp[DJ.lexLt]at h
 |[],_::_,_::_,_,_=>rfl
 |_::_,[],_,h,_=>by simp[DJ.lexLt]at h
 |_::_,_::_,[],_,h=>by simp[DJ.lexLt]at h
 |x::a,y::b,z::c,h1,h2=>by
  simp only[DJ.lexLt]at h1 h2 ⊢;split at h1
  ·subst_vars;split at h2
   ·subst_vars;rw[if_pos rfl];exact lt_trans h1 h2
   ·rename_i hn;rw[if_neg hn];exact h2
  ·rename_i hn;have h1:=of_decide_eq_true h1;split at h2
   ·subst_vars;rw[if_neg hn];exact decide_eq_true h1
   ·have h2:=of_decide_eq_true h2;rw[if_neg (by omega)]
    exact decide_eq_true (by omega)
theorem jhu:∀(a b:List Int),DJ.lexLt a b=true\/a=b\/DJ.lexLt b a=true
 |[],[]=>.inr (.inl rfl)
 |[],_::_=>.inl rfl
 |_::_,[]=>.inr (.inr rfl)
 |x::a,y::b=>by
  simp only[DJ.lexLt];by_cases e:x=y
  ·subst e;rw[if_pos rfl,if_pos rfl];rcases jhu a b with h | h | h
   ·exact .inl h
   ·exact .inr (.inl (by rw[h]))
   ·exact .inr (.inr h)
  ·rw[if_neg e,if_neg (Ne.symm e)];rcases Int.lt_or_gt_of_ne e with h | h
   ·exact .inl (decide_eq_true h)
   ·exact .inr (.inr (decide_eq_true h))
noncomputable def Srt (l:List (List Int)):Prop:=l.Pairwise fun a b=>DJ.lexLt a b=true
theorem ins_mem' {x y:List Int}:∀{l:List (List Int)},y∈jgU x l↔y=x\/y∈l
 |[]=>by simp[jgU]
 |z::r=>by
  simp only[jgU];split
  ·rw[juu,ins_mem' (l:=r),juu];constructor
   ·rintro (h | h | h)
    ·exact .inr (.inl h)
    ·exact .inl h
    ·exact .inr (.inr h)
   ·rintro (h | h | h)
    ·exact .inr (.inl h)
    ·exact .inl h
    ·exact .inr (.inr h)
  ·rw[juu]
theorem sort_mem {y:List Int}:∀{l:List (List Int)},y∈jbu l↔y∈l
 |[]=>by simp[jbu]
 |z::r=>by rw[jbu,ins_mem',sort_mem (l:=r),juu]
noncomputable def Wk (l:List (List Int)):Prop:=l.Pairwise fun a b=>DJ.lexLt b a=false
theorem jkX {a b:List Int}(h:DJ.lexLt a b=true):DJ.lexLt b a=false:=by
 cases e:DJ.lexLt b a with
 |false=>rfl
 |true=>
  have:=lt_trans h e;rw[jnQ]at this;cases this
theorem jkY {a b c:List Int}(h1:DJ.lexLt b a=false)(h2:DJ.lexLt c b=false):DJ.lexLt c a=false:=by
 rcases jhu a b with q | q | q
 ·rcases jhu b c with r | r | r
  ·exact jkX (lt_trans q r)
  ·rw[<-r];exact h1
  ·rw[r]at h2;cases h2
 ·rw[q];exact h2
 ·rw[q]at h1;cases h1
theorem jnR {x:List Int}:∀{l:List (List Int)},Wk l->Wk (jgU x l)
 |[],_=>by simp[jgU,Wk]
 |z::r,h=>by
  simp only[jgU];have h':=List.pairwise_cons.mp h;split
  ·rename_i hz;refine List.pairwise_cons.mpr ⟨fun y hy=>?_,jnR h'.2⟩;rcases ins_mem'.mp hy with rfl | hy
   ·exact jkX hz
   ·exact h'.1 y hy
  ·rename_i hz;have hz:DJ.lexLt z x=false:=by simpa using hz
   refine List.pairwise_cons.mpr ⟨fun y hy=>?_,h⟩;rcases List.mem_cons.mp hy with rfl | hy
   ·exact hz
   ·exact jkY hz (h'.1 y hy)
theorem jkZ:∀(l:List (List Int)),Wk (jbu l)
 |[]=>by simp[jbu,Wk]
 |x::r=>jnR (jkZ r)
noncomputable def keep (acc:List (List Int))(k:List Int):List (List Int):=if k∈acc then acc else if 0 < k.sum then acc++[k] else acc
theorem jk0:∀(ks acc:List (List Int)),Srt acc->(∀a∈acc,∀k∈ks,DJ.lexLt k a=false)->Wk ks->Srt (ks.foldl keep acc)/\∀x,x∈ks.foldl keep acc↔x∈acc\/(x∈ks/\0 < x.sum)
 |[],acc,h,_,_=>⟨h,fun x=>by simp⟩
 |k::ks,acc,h,hb,hw=>by
  have hw':=List.pairwise_cons.mp hw;rw[List.foldl_cons];have key:∀acc',acc'=keep acc k->Srt acc'/\(∀a∈acc',∀j∈ks,DJ.lexLt j a=false)/\∀x,x∈acc'↔x∈acc\/(x=k/\0 < x.sum):=by
   intro acc' e;unfold keep at e;split at e
   ·rename_i hm;subst e;refine⟨h,fun a ha j hj=>hb a ha j (jus _ hj),fun x=>⟨.inl,fun z=>?_⟩⟩;rcases z with z | ⟨rfl,_⟩
    ·exact z
    ·exact hm
   ·rename_i hm;split at e
    ·rename_i hs;subst e;refine⟨List.pairwise_append.mpr ⟨h,List.pairwise_singleton _ _,fun a ha b hb'=>?_⟩,fun a ha j hj=>?_,fun x=>?_⟩
     ·rw[List.mem_singleton.mp hb'];rcases jhu a k with q | q | q
      ·exact q
      ·exact absurd (by rw[<-q];exact ha) hm
      ·rw[hb a ha k jut]at q;cases q
     ·rcases List.mem_append.mp ha with ha | ha
      ·exact hb a ha j (jus _ hj)
      ·rw[List.mem_singleton.mp ha];exact hw'.1 j hj
     ·rw[List.mem_append,List.mem_singleton];exact⟨fun z=>z.imp id fun z=>⟨z,by rw[z];exact hs⟩,fun z=>z.imp id fun z=>z.1⟩
    ·rename_i hs;subst e;refine⟨h,fun a ha j hj=>hb a ha j (jus _ hj),fun x=>⟨.inl,fun z=>?_⟩⟩;rcases z with z | ⟨rfl,z⟩
     ·exact z
     ·exact absurd z hs
  obtain⟨k1,k2,k3⟩:=key _ rfl;obtain⟨r1,r2⟩:=jk0 ks (keep acc k) k1 k2 hw'.2;refine⟨r1,fun x=>?_⟩;rw[r2 x,k3 x,juu];constructor
  ·rintro ((z | ⟨z,s⟩) | ⟨z,s⟩)
   ·exact .inl z
   ·exact .inr ⟨.inl z,s⟩
   ·exact .inr ⟨.inr z,s⟩
  ·rintro (z | ⟨z | z,s⟩)
   ·exact .inl (.inl z)
   ·exact .inl (.inr ⟨z,s⟩)
   ·exact .inr ⟨z,s⟩
theorem jnS:∀{k:List Int},(∀x∈k,0<=x)->0<=k.sum/\(0 < k.sum↔nz k=true)
 |[],_=>by simp[nz]
 |a::k,h=>by
  have ha:=h a jut;obtain⟨i1,i2⟩:=jnS (k:=k) fun x hx=>h x (jus _ hx);have e:nz (a::k)=(a != 0 || nz k):=by simp[nz]
  rw[e,List.sum_cons];refine⟨by omega,?_⟩
  rw[Bool.or_eq_true,<-i2];by_cases z:a=0
  ·subst z;simp
  ·have:(a != 0)=true:=by simpa using z
   rw[this];constructor
   ·intro _;exact .inl rfl
   ·intro _;omega
theorem jeB:∀(ks:List (List Int)),cmpDs (ks.map tu)=true
 |[]=>rfl
 |k::ks=>by
  simp only[juy,cmpDs,jeB ks,Bool.and_true];simp only[tu,jbh,jbI]
theorem jeC:∀(ks:List (List Int)),deeps (ks.map tu)<=1
 |[]=>by simp[deeps]
 |k::ks=>by
  simp only[juy,deeps];have:=jeC ks;have h:deep (tu k)=1:=by simp only[tu,deep,jbJ]
  rw[h];exact Nat.max_le.mpr ⟨ju7 _,this⟩
theorem jnT (a b:List Int):eqD (tu a) (tu b)=decide (a=b):=by simp only[tu,eqD,jek]
theorem jtu (k:List Int)(ks:List (List Int)):inR (tu k) (.lst (ks.map tu))=.ok (decide (k∈ks)):=by
 have h1:jbh (tu k)=true:=by simp only[tu,jbh,jbI]
 have h2:deep (tu k)=1:=by simp only[tu,deep,jbJ]
 unfold inR;rw[jch,R.bind_ok',if_pos]
 ·congr 1
  rw[List.any_map,Bool.eq_iff_iff,List.any_eq_true,decide_eq_true_eq];constructor
  ·rintro⟨x,hx,e⟩;have e:eqD (tu x) (tu k)=true:=e;rw[jnT]at e;rw[<-of_decide_eq_true e];exact hx
  ·intro hk;exact⟨k,hk,by show eqD (tu k) (tu k)=true;rw[jnT];simp⟩
 ·have:=jeC ks;simp only[h1,jeB,h2,jvc,decide_eq_true_eq];exact⟨⟨⟨trivial,trivial⟩,by omega⟩,by omega⟩
theorem jnc {B S:Sl}(k:List Int)(acc:List (List Int))(ha:acc.length<=100):evSs (jaa U W P n) U W jbc [B,S,.own (.l (acc.map tu)) false false,.dat (tu k)]=.ok (.nx [B,S,.own (.l ((keep acc k).map tu)) false false,.dat (tu k)]):=by
 have t1:evT (jaa U W P n) U (.cmp .notin (.var 3) (.var 2)) [B,S,.own (.l (acc.map tu)) false false,.dat (tu k)]=.ok (!decide (k∈acc),[B,S,.own (.l (acc.map tu)) false false,.dat (tu k)]):=by
  simp_arith[]
  show ((inR (tu k) (.lst (acc.map tu))).bind fun c=>(.ok (!c):R Bool)).bind _=_;rw[jtu];rfl
 have t2:evT (jaa U W P n) U (.cmp .gt (.blt .sum (.var 3)) (.lit (.int 0))) [B,S,.own (.l (acc.map tu)) false false,.dat (tu k)]=.ok (decide (0 < k.sum),[B,S,.own (.l (acc.map tu)) false false,.dat (tu k)]):=by
  simp_arith[tu,bfD,jbk]
 have ff:fits ((acc.map tu).length + 1)=true:=jaI (by rw[juA];omega)
 unfold jbc keep;by_cases hm:k∈acc
 ·rw[decide_eq_true hm]at t1;rw[if_pos hm,jah (jeH (by simp only[evT]at t1 ⊢;rw[t1];rfl))]
  simp only[evSs]
 ·rw[decide_eq_false hm]at t1;rw[if_neg hm];have t:evT (jaa U W P n) U (.and (.cmp .notin (.var 3) (.var 2)) (.cmp .gt (.blt .sum (.var 3)) (.lit (.int 0)))) [B,S,.own (.l (acc.map tu)) false false,.dat (tu k)]=.ok (decide (0 < k.sum),[B,S,.own (.l (acc.map tu)) false false,.dat (tu k)]):=by
   rw[evT,t1,R.bind_ok'];exact t2
  by_cases hs:0 < k.sum
  ·rw[decide_eq_true hs]at t;rw[if_pos hs,jah (ρ':=[B,S,.own (.l ((acc++[k]).map tu)) false false,.dat (tu k)]) (by rw[jlb t];simp_arith[ff,List.map_append,juy,List.map_nil])]
   simp only[evSs]
  ·rw[decide_eq_false hs]at t;rw[if_neg hs,jah (jeH t)];simp only[evSs]
theorem jhv (acc:List (List Int))(k:List Int):(keep acc k).length<=acc.length + 1:=by
 unfold keep;split
 ·omega
 ·split
  ·simp
  ·omega
theorem jhw {B S:Sl}:∀(ks acc:List (List Int)) (s:Sl),acc.length + ks.length<=100->∃t,jaw (fun x r=>(putT [3] true x r).bind fun r'=>evSs (jaa U W P n) U W jbc r') (ks.map tu) [B,S,.own (.l (acc.map tu)) false false,s]=.ok (.nx [B,S,.own (.l ((ks.foldl keep acc).map tu)) false false,t])
 |[],acc,s,_=>⟨s,rfl⟩
 |k::ks,acc,s,h=>by
  rw[juB]at h;have hk:=jhv acc k;obtain⟨t,e⟩:=jhw (B:=B) (S:=S) ks (keep acc k) (.dat (tu k)) (by omega)
  refine⟨t,?_⟩;simp only[juy,jaw];have e2:(putT [3] true (tu k) [B,S,.own (.l (acc.map tu)) false false,s])=.ok [B,S,.own (.l (acc.map tu)) false false,.dat (tu k)]:=rfl;rw[e2,R.bind_ok',jnc k acc (by omega),R.bind_ok']
  exact e
theorem jk1 (x:List Int):∀(l:List (List Int)),(jgU x l).length=l.length + 1
 |[]=>rfl
 |y::r=>by
  simp only[jgU];split
  ·simp[jk1 x r]
  ·simp
theorem jeD:∀(l:List (List Int)),(jbu l).length=l.length
 |[]=>rfl
 |x::r=>by rw[jbu,jk1,jeD r,juB]
noncomputable def kp (ss:List (List Int)):List (List Int):=(jbu ss).foldl keep []
theorem jsc (b:List Int)(ss:List (List Int))(h0:∀k∈ss,k≠[])(hl:ss.length < 64):CD W (n + 1) 18 [.dat (tu b),.dat (.lst (ss.map tu))]=.ok (.dat (jr7 b (kp ss)),[.no,.no]):=by
 rw[CD,jag (d:=⟨2,4,jbr⟩) rfl rfl];obtain⟨t,e⟩:=jhw (W:=W) (n:=n) (B:=.dat (tu b)) (S:=.dat (.lst (ss.map tu))) (jbu ss) [] .no (by rw[jeD];simp;omega)
 have es:bfD .sorted (.lst (ss.map tu))=.ok (.tmp (.l ((jbu ss).map tu))):=by
  simp only[bfD,jho];exact jm9 h0 hl
 show (evSs (jaa U W P n) U W jbr [.dat (tu b),.dat (.lst (ss.map tu)),.no,.no]).bind (jbD 2)=_;unfold jbr;rw[jah (ρ':=[.dat (tu b),.dat (.lst (ss.map tu)),.own (.l ([].map tu)) false false,.no]) (by simp_arith[];rfl)]
 rw[jah (ρ':=[.dat (tu b),.dat (.lst (ss.map tu)),.own (.l ((kp ss).map tu)) false false,t]) (by simp_arith[es,e,jdg,unlk,kp])]
 simp_arith[]
 rfl
end Law
namespace Law
open PySem L2 DJ Tx
variable {W n:Nat}
noncomputable def jgH (m:Nat):List Nat:=(Nat.toDigits 10 m).map Char.toNat
theorem jpY (m:Nat):Str.ofString (toString (m:Int))=mk (jgH m):=jor (PySem.W.KIN.signs_num m)
theorem jhx {m:Nat}(h:m<=1000000000000000):1<=(jgH m).length/\(jgH m).length<=16:=by
 unfold jgH;rw[juA];refine⟨?_,(Nat.length_toDigits_le_iff (by decide) (by decide)).mpr (by omega)⟩
 by_cases h:m < 10
 ·rw[Nat.toDigits_of_lt_base h];simp
 ·rw[Nat.toDigits_of_base_le (by decide) (by omega)];simp
theorem jk2 {k:Nat}(h:k < 10):(Nat.digitChar k).toNat=48 + k:=by
 match k,h with
 |0,_=>rfl
 |1,_=>rfl
 |2,_=>rfl
 |3,_=>rfl
 |4,_=>rfl
 |5,_=>rfl
 |6,_=>rfl
 |7,_=>rfl
 |8,_=>rfl
 |9,_=>rfl
theorem jgI {m:Nat}(h:m < 10):jgH m=[48 + m]:=by
 unfold jgH;rw[Nat.toDigits_of_lt_base h,juy,List.map_nil,jk2 h]
theorem jk3 {m:Nat}(h:10<=m):jgH m=jgH (m / 10)++[48 + m % 10]:=by
 unfold jgH;rw[Nat.toDigits_of_base_le (by decide) h,List.map_append,juy,List.map_nil,jk2 (by omega)]
theorem jcK (m:Nat):∀c∈jgH m,48<=c/\c<=57:=by
 induction m using Nat.strongRecOn with
 |ind m ih=>
  intro c hc;by_cases h:m < 10
  ·rw[jgI h]at hc;have:=List.mem_singleton.mp hc;omega
  ·rw[jk3 (by omega)]at hc
   rcases List.mem_append.mp hc with hc | hc
   ·exact ih (m / 10) (by omega) c hc
   ·have:=List.mem_singleton.mp hc;omega
theorem jfE (m:Nat):∃c r,jgH m=c::r/\(c=48->m=0):=by
 induction m using Nat.strongRecOn with
 |ind m ih=>
  by_cases h:m < 10
  ·exact⟨48 + m,[],jgI h,fun e=>by omega⟩
  ·obtain⟨c,r,e,hc⟩:=ih (m / 10) (by omega)
   refine⟨c,r++[48 + m % 10],by rw[jk3 (by omega),e];rfl,fun z=>?_⟩
   have:=hc z;omega
theorem jnd {m:Nat}(h:m<=1000000000000000):PySem.intText? (mk (jgH m))=some (m:Int):=by
 have hl:=jhx h;have e:=intText_digits (x:=mk (jgH m)) (fun c hc=>jcK m c hc) (by obtain⟨c,r,e,_⟩:=jfE m;show jgH m≠[];rw[e];simp) (by rw[jaz];omega)
 rw[e];exact congrArg (fun k:Nat=>some (k:Int)) (PySem.W.KIN.val_back m)
noncomputable def jls (s:List Nat):List (List Nat)->List Nat
 |[]=>[]
 |x::r=>x++(match r with | []=>[] | y::r'=>s++jls s (y::r'))
theorem jsd (c:Nat):∀ps:List (List Nat),jl c ps=jls [c] ps
 |[]=>rfl
 |[x]=>rfl
 |x::y::r=>by
  show x++c::jl c (y::r)=x++([c]++jls [c] (y::r));rw[jsd c (y::r)];rfl
theorem jpZ (s:List Nat):∀(ps:List (List Nat)),Txt.join (mk s) (ps.map mk)=mk (jls s ps):=by
 intro ps;refine(StrLaws.glued_eq_join _ _).trans ?_;induction ps with
 |nil=>rfl
 |cons x r ih=>
  cases r with
  |nil=>show mk x=mk (x++[]);rw[juQ]
  |cons y r=>
   show mk x++mk s++Str.join (mk s) ((y::r).map mk)=_;rw[ih,jjd,jjd];show mk (x++s++jls s (y::r))=mk (x++(s++jls s (y::r)));rw[juR]
theorem jeE (s:List Nat)(B:Nat):∀(ps:List (List Nat)),(∀p∈ps,p.length<=B)->(jls s ps).length<=ps.length * (B + s.length)
 |[],_=>by simp[jls]
 |[x],h=>by
  have:=h x jut;simp only[jls,juQ,juB,juN];omega
 |x::y::r,h=>by
  have hx:=h x jut;have:=jeE s B (y::r) fun p hp=>h p (jus _ hp);show (x++(s++jls s (y::r))).length<=((y::r).length + 1) * (B + s.length);rw[juF,juF,Nat.add_mul];omega
theorem jeF {s:List Nat}{c:Nat}:∀{ps:List (List Nat)},c∈jls s ps->c∈s\/∃p∈ps,c∈p
 |[],h=>by cases h
 |[x],h=>by
  simp only[jls,juQ]at h;exact .inr ⟨x,jut,h⟩
 |x::y::r,h=>by
  have h:c∈x++(s++jls s (y::r)):=h;rcases List.mem_append.mp h with h | h
  ·exact .inr ⟨x,jut,h⟩
  ·rcases List.mem_append.mp h with h | h
   ·exact .inl h
   ·rcases jeF h with h | ⟨p,hp,h⟩
    ·exact .inl h
    ·exact .inr ⟨p,jus _ hp,h⟩
theorem jnU {α:Type}(f:α->Nat)(B:Nat):∀(l:List α),(∀x∈l,f x<=B)->(l.map f).sum<=l.length * B
 |[],_=>by simp
 |x::l,h=>by
  have hx:=h x jut;have:=jnU f B l fun y hy=>h y (jus _ hy);simp only[juy,List.sum_cons,juB,Nat.add_mul];omega
theorem jcL {s:List Nat}{ps:List (List Nat)}{B:Nat}(h:∀p∈ps,p.length<=B)(hB:ps.length * B + ps.length * s.length<=16777216):smD .join (mk s) (.lst (ps.map fun p=>.str (mk p)))=.ok (.dat (.str (mk (jls s ps)))):=by
 have e:(ps.map fun p=>D.str (mk p))=(ps.map mk).map D.str:=by rw[List.map_map];rfl
 have hl:=jnU (fun p:List Nat=>p.length) B ps h;rw[e,jpR,jpZ];rw[List.map_map,juA];have:(ps.map ((fun x:Str=>x.length) ∘ mk))=ps.map fun p=>p.length:=List.map_congr_left fun p _=>jaz p;rw[this,jaz];omega
theorem at_iff {l s:List Nat}{k:Nat}:StrLaws.At (mk l) (mk s) (mk l).length k↔k + s.length<=l.length/\(l.drop k).take s.length=s:=by
 unfold StrLaws.At;rw[StrLaws.subAt_eq,jaz,jaz,beq_iff_eq]
theorem jhy (c:Nat)(s l:List Nat):∀(ps:List (List Nat)) (a:Nat) (cuts:List Nat) (f:Nat),ps≠[]->(∀p∈ps,c ∉ p)->a<=l.length->l.drop a=jls (c::s) ps->StrLaws.ChainG (mk l) (mk (c::s)) (mk l).length a cuts f->(∀k,f<=k->¬ StrLaws.At (mk l) (mk (c::s)) (mk l).length k)->StrLaws.partsFrom (mk l) (mk (c::s)).length a cuts=ps.map mk
 |[],_,_,_,h,_,_,_,_,_=>absurd rfl h
 |p::ps,a,cuts,f,_,hf,ha,e,hc,hn=>by
  have np:c ∉ p:=hf p jut;have first:∀k,a<=k->StrLaws.At (mk l) (mk (c::s)) (mk l).length k->(l.drop a)[k - a]?=some c:=fun k hk hA=>by
   obtain⟨h1,h2⟩:=at_iff.mp hA;have:((l.drop k).take (c::s).length)[0]?=some c:=by rw[h2];rfl
   rw[List.getElem?_take_of_lt (by simp),List.getElem?_drop]at this
   rw[List.getElem?_drop,show a + (k - a)=k + 0 by omega]
   exact this
  cases ps with
  |nil=>
   have e:l.drop a=p:=by rw[e];simp[jls]
   have no:∀k,a<=k->¬ StrLaws.At (mk l) (mk (c::s)) (mk l).length k:=fun k hk hA=>by
    have:=first k hk hA
    rw[e]at this;exact np (juD this)
   cases cuts with
   |cons d r=>exact absurd hc.2.1 (no d hc.1)
   |nil=>
    show [Builtin.Str.strSub (mk l) a (mk l).length]=[mk p];congr 1;apply jor;rw[StrLaws.strSub_toList];show (l.drop a).take _=p;rw[e,jaz,List.take_of_length_le];rw[<-e,List.length_drop];exact ju7 _
  |cons q r=>
   have e:l.drop a=p++((c::s)++jls (c::s) (q::r)):=e;have hlen:l.length - a=p.length + ((c::s).length + (jls (c::s) (q::r)).length):=by
    rw[<-List.length_drop,e,juF,juF]
   have ed:l.drop (a + p.length)=(c::s)++jls (c::s) (q::r):=by
    rw[<-List.drop_drop,e,List.drop_left]
   have hA:StrLaws.At (mk l) (mk (c::s)) (mk l).length (a + p.length):=by
    refine at_iff.mpr ⟨by omega,?_⟩
    rw[ed,List.take_left]
   have lo:∀k,a<=k->StrLaws.At (mk l) (mk (c::s)) (mk l).length k->a + p.length<=k:=fun k hk hA=>by
    have:=first k hk hA
    by_cases z:k - a < p.length
    ·rw[e,juI z]at this;exact absurd (juD this) np
    ·omega
   cases cuts with
   |nil=>
    have:f=a:=hc;exact absurd hA (hn _ (by omega))
   |cons d r'=>
    obtain⟨h1,h2,h3,h4⟩:=hc;have hd:d=a + p.length:=by
     have:=lo d h1 h2;by_cases z:a + p.length < d
     ·exact absurd hA (h3 _ (by omega) z)
     ·omega
    subst hd;show Builtin.Str.strSub (mk l) a (a + p.length)::StrLaws.partsFrom (mk l) (mk (c::s)).length (a + p.length + (mk (c::s)).length) r'=mk p::(q::r).map mk;rw[jhy c s l (q::r) _ r' f (by simp) (fun x hx=>hf x (jus _ hx)) (by rw[jaz];omega) (by rw[<-List.drop_drop,ed,jaz,List.drop_left]) h4 hn]
    congr 1
    apply jor;rw[StrLaws.strSub_toList];show (l.drop a).take _=p;rw[e,show a + p.length - a=p.length by omega,List.take_left]
theorem jne {l:List Nat}(h:∀c∈l,c < 256)(x:Str):¬ Builtin.Str.strKind x < Builtin.Str.strKind (mk l):=by
 have e:(mk l).cps.all (· < 256)=true:=by
  rw[<-Array.all_toList];exact List.all_eq_true.mpr fun c hc=>decide_eq_true (h c hc)
 unfold Builtin.Str.strKind;rw[if_pos e];split
 ·omega
 ·split <;> omega
theorem jnf (c:Nat)(s:List Nat){ps:List (List Nat)}(hp:ps≠[])(hf:∀p∈ps,c ∉ p)(hs:∀x∈c::s,x < 256):Txt.split (mk (jls (c::s) ps)) (mk (c::s))=ps.map mk:=by
 obtain⟨f,hG,hn⟩:=StrLaws.occ_tight (mk (jls (c::s) ps)) (mk (c::s)) (by rw[jaz];simp)
 have key:=jhy c s (jls (c::s) ps) ps 0 _ f hp hf (Nat.zero_le _) rfl hG hn;unfold Txt.split;split
 ·rename_i h;rw[Bool.or_eq_true,decide_eq_true_eq,decide_eq_true_eq]at h;rcases h with h | h
  ·cases ho:Builtin.Str.occurrences (mk (jls (c::s) ps)) (mk (c::s)) 0 (mk (jls (c::s) ps)).length ((mk (jls (c::s) ps)).length + 1)with
   |nil=>
    rw[ho]at key;rw[<-key];show [mk (jls (c::s) ps)]=[Builtin.Str.strSub (mk (jls (c::s) ps)) 0 _];rw[StrLaws.sub_whole]
   |cons d r=>
    rw[ho]at hG;have:=hG.2.1.1;omega
  ·exact absurd h (jne hs _)
 ·split
  ·rename_i he;rw[List.isEmpty_iff.mp he]at key;rw[<-key];show [mk (jls (c::s) ps)]=[Builtin.Str.strSub (mk (jls (c::s) ps)) 0 _];rw[StrLaws.sub_whole]
  ·rw[StrLaws.partsBetween_eq];exact key
end Law
namespace Law
open PySem L2 DJ Tx
variable {W n:Nat}
section
variable {G:Calls}{ρ ρ1 ρ2:Rho}{a b:E}
theorem jp0 {f:Sm}{x:Str}{v w:Vl}{d:D}(ha:evE G U a ρ=.ok (.dat (.str x),ρ1))(hb:evE G U b ρ1=.ok (v,ρ2))(hd:deref v ρ2=.ok d)(h:smD f x d=.ok w):evE G U (.sm f a b) ρ=.ok (w,ρ2):=by
 simp only[evE,ha,hb,R.bind_ok',jnN,hd,h]
theorem jdl {d:D}:evE G U (.lit d) ρ=.ok (.dat d,ρ):=by rw[evE]
theorem jng {i:Nat}{d:D}(h:ρ[i]?=some (.dat d)):evE G U (.var i) ρ=.ok (.dat d,ρ):=by rw[evE,h]
end
noncomputable abbrev Fan:=List Int×List (List Int)
noncomputable def Nm (x:Int):Prop:=0<=x/\x<=1000000000000000
noncomputable def GT (l:Nat)(k:List Int):Prop:=k.length=l/\∀x∈k,Nm x
noncomputable def GF (l:Nat)(f:Fan):Prop:=GT l f.1/\(∀k∈f.2,GT l k/\nz k=true)/\Srt f.2/\f.2.length<=4
noncomputable def nT (x:Int):List Nat:=jgH x.toNat
noncomputable def tT (k:List Int):List Nat:=jls [44] (k.map nT)
noncomputable def fT (f:Fan):List Nat:=jls [43] ((f.1::f.2).map tT)
noncomputable def sT (fs:List Fan):List Nat:=jls [32,124,32] (fs.map fT)
noncomputable def fD (f:Fan):D:=jr7 f.1 f.2
theorem jfF {x:Int}(h:Nm x):1<=(nT x).length/\(nT x).length<=16:=jhx (by have:=h.2;omega)
theorem jfG {l:Nat}{k:List Int}(h4:l<=4)(h:GT l k):(tT k).length<=68:=by
 have:=jeE [44] 16 (k.map nT) fun p hp=>by
  obtain⟨x,hx,rfl⟩:=List.mem_map.mp hp;exact(jfF (h.2 x hx)).2
 rw[juA,h.1]at this;have e:l * (16 + [44].length)<=4 * 17:=Nat.mul_le_mul_right 17 h4;exact jva this e
theorem jfH {f:Fan}{l:Nat}(h:GF l f):∀k∈f.1::f.2,GT l k:=fun k hk=>by
 rcases List.mem_cons.mp hk with rfl | hk
 ·exact h.1
 ·exact(h.2.1 k hk).1
theorem jhz {l:Nat}{f:Fan}(h4:l<=4)(h:GF l f):(fT f).length<=345:=by
 have:=jeE [43] 68 ((f.1::f.2).map tT) fun p hp=>by
  obtain⟨k,hk,rfl⟩:=List.mem_map.mp hp;exact jfG h4 (jfH h k hk)
 rw[juA,juB]at this;have e:(f.2.length + 1) * (68 + [43].length)<=5 * 69:=Nat.mul_le_mul_right 69 (by have:=h.2.2.2;omega)
 exact jva this e
theorem jse {l:Nat}{fs:List Fan}(h4:l<=4)(h:∀f∈fs,GF l f)(hn:fs.length<=48):(sT fs).length<=16704:=by
 have:=jeE [32,124,32] 345 (fs.map fT) fun p hp=>by
  obtain⟨f,hf,rfl⟩:=List.mem_map.mp hp;exact jhz h4 (h f hf)
 rw[juA]at this;have e:fs.length * (345 + [32,124,32].length)<=48 * 348:=Nat.mul_le_mul_right 348 hn;exact jva this e
theorem jsf {x:Int}(h:Nm x):x.natAbs.log2 < 1920:=by
 have h1:=h.1;have h2:=h.2;by_cases z:x.natAbs=0
 ·rw[z];decide
 ·have:x.natAbs.log2 < 64:=(Nat.log2_lt z).mpr (by omega)
  omega
theorem bf_str {x:Int}(h:Nm x):bfD .str (.int x)=.ok (.dat (.str (mk (nT x)))):=by
 show (if x.natAbs.log2 < 1920 then R.ok (Vl.dat (.str (Str.ofString (toString x))))else .stk)=_;rw[if_pos (jsf h)];have e:x=(x.toNat:Int):=by have:=h.1;omega
 unfold nT;rw[<-jpY,<-e]
theorem jgJ:CD (W + 2) (n + 1) 6 [.dat (.int 1000000000000000)]=.ok (.dat (.str (mk (nT 1000000000000000))),[.no]):=by kernel_rfl
theorem jp1 (x:Int)(h:Nm x):CD (W + 2) (n + 1) 6 [.dat (.int x)]=.ok (.dat (.str (mk (nT x))),[.no]):=by
 by_cases z:x=1000000000000000
 ·subst z;exact jgJ
 ·have hlt:¬ (1000000000000000<=x):=by have:=h.2;omega
  rw[CD,jag (d:=⟨1,2,jaE⟩) rfl rfl];show (evSs (jaa U (W + 2) P n) U (W + 2) jaE [.dat (.int x),.no]).bind (jbD 1)=_;unfold jaE;rw[jah (ρ':=[.dat (.int x),.own (.l []) false false]) (by simp_arith[])]
  have t:evT (jaa U (W + 2) P n) U (.cmp .ge (.var 0) (.lit (.int 1000000000000000))) [.dat (.int x),.own (.l []) false false]=.ok (false,[.dat (.int x),.own (.l []) false false]):=by
   simp_arith[decide_eq_false hlt]
  rw[jah (ρ':=[.dat (.int x),.own (.l []) false false]) (by simp only[evS,jcx,t,R.bind_ok',jvd,if_false])]
  rw[jah (ρ':=[.dat (.int x),.own (.l [.str (mk (nT x))]) false false]) (by simp_arith[bf_str h];rfl)]
  have e:smD .rjn "" (.lst [.str (mk (nT x))])=.ok (.dat (.str (mk (nT x)))):=by
   show (if (([mk (nT x)].map (·.length)).sum + [mk (nT x)].length * ("":Str).length<=16777216)then R.ok (Vl.dat (.str (Txt.join "" [mk (nT x)])))else .stk)=_;rw[if_pos]
   ·rfl
   ·have:=(jfF h).2;have e1:([mk (nT x)].map (·.length)).sum=(nT x).length:=by simp[jaz]
    have e2:[mk (nT x)].length * ("":Str).length=0:=by rfl
    omega
  rw[jb7 (jc9 (jp0 (d:=.lst [.str (mk (nT x))]) jdl (by rw[evE];rfl) rfl e))]
  rfl
theorem jp2 {l:Nat}(k:List Int)(h4:l<=4)(h:GT l k):CD (W + 2) (n + 2) 7 [.dat (tu k)]=.ok (.dat (.str (mk (tT k))),[.no]):=by
 rw[CD,jag (d:=⟨1,1,jaP⟩) rfl rfl];have e:evE (jaa U (W + 2) P (n + 1)) U jbY [.dat (tu k)]=.ok (.tmp (.l (k.map fun x=>.str (mk (nT x)))),[.dat (tu k)]):=by
  refine jaq (h:=D.int) (g:=fun x=>.str (mk (nT x))) (xs:=k) rfl (fun x hx=>?_) fun s=>rfl;exact jai [.int x] rfl (jp1 (W:=W) (n:=n) x (h.2 x hx))
 have ej:smD .join "," (.lst (k.map fun x=>.str (mk (nT x))))=.ok (.dat (.str (mk (tT k)))):=by
  have:=jcL (s:=[44]) (ps:=k.map nT) (B:=16) (fun p hp=>by
   obtain⟨x,hx,rfl⟩:=List.mem_map.mp hp;exact(jfF (h.2 x hx)).2) (by rw[juA,h.1];simp only[juB,juN];omega)
  rw[List.map_map]at this;exact this
 show (evSs (jaa U (W + 2) P (n + 1)) U (W + 2) jaP [.dat (tu k)]).bind (jbD 1)=_;unfold jaP;rw[jb7 (jc9 (jp0 jdl e rfl ej))];rfl
theorem jnh {l:Nat}(f:Fan)(h4:l<=4)(h:GF l f):smD .join "+" (.lst ((f.1::f.2).map fun k=>.str (mk (tT k))))=.ok (.dat (.str (mk (fT f)))):=by
 have:=jcL (s:=[43]) (ps:=(f.1::f.2).map tT) (B:=68) (fun p hp=>by
  obtain⟨k,hk,rfl⟩:=List.mem_map.mp hp;exact jfG h4 (jfH h k hk)) (by have:=h.2.2.2;rw[juA,juB];simp only[juB,juN];omega)
 rw[List.map_map]at this;exact this
theorem jp3 {l:Nat}(f:Fan)(h4:l<=4)(h:GF l f):CD (W + 2) (n + 3) 8 [.dat (fD f)]=.ok (.dat (.str (mk (fT f))),[.no]):=by
 rw[CD,jag (d:=⟨1,1,jbm⟩) rfl rfl];have ff:fits (1 + (f.2.map tu).length)=true:=jaI (by have:=h.2.2.2;rw[juA];omega)
 have e:evE (jaa U (W + 2) P (n + 2)) U jcz [.dat (fD f)]=.ok (.tmp (.l ((f.1::f.2).map fun k=>.str (mk (tT k)))),[.dat (fD f)]):=by
  refine jaq (h:=tu) (g:=fun k=>.str (mk (tT k))) (xs:=f.1::f.2) ?_ (fun k hk=>?_) fun s=>rfl
  ·simp_arith[fD,jr7,ff,juy,List.singleton_append]
  ·exact jai [tu k] rfl (jp2 (W:=W) (n:=n) k h4 (jfH h k hk))
 show (evSs (jaa U (W + 2) P (n + 2)) U (W + 2) jbm [.dat (fD f)]).bind (jbD 1)=_;unfold jbm;rw[jb7 (jc9 (jp0 jdl e rfl (jnh f h4 h)))];rfl
theorem jhA {l:Nat}(fs:List Fan)(h4:l<=4)(h:∀f∈fs,GF l f)(hn:fs.length<=48):smD .join " | " (.lst (fs.map fun f=>.str (mk (fT f))))=.ok (.dat (.str (mk (sT fs)))):=by
 have:=jcL (s:=[32,124,32]) (ps:=fs.map fT) (B:=345) (fun p hp=>by
  obtain⟨f,hf,rfl⟩:=List.mem_map.mp hp;exact jhz h4 (h f hf)) (by rw[juA];simp only[juB,juN];omega)
 rw[List.map_map]at this;exact this
noncomputable def sD (fs:List Fan):D:=.tup (fs.map fD)
noncomputable def txt (fs:List Fan):List Nat:=match fs with
 |[]=>[45]
 |_::_=>sT fs
theorem jp4 {l:Nat}(fs:List Fan)(h4:l<=4)(h:∀f∈fs,GF l f)(hn:fs.length<=48):CD (W + 2) (n + 4) 9 [.dat (sD fs)]=.ok (.dat (.str (mk (txt fs))),[.no]):=by
 rw[CD,jag (d:=⟨1,1,jbn⟩) rfl rfl];show (evSs (jaa U (W + 2) P (n + 3)) U (W + 2) jbn [.dat (sD fs)]).bind (jbD 1)=_;unfold jbn;cases fs with
 |nil=>rfl
 |cons f fs=>
  have e:evE (jaa U (W + 2) P (n + 3)) U jcA [.dat (sD (f::fs))]=.ok (.tmp (.l ((f::fs).map fun f=>.str (mk (fT f)))),[.dat (sD (f::fs))]):=by
   refine jaq (h:=fD) (g:=fun f=>.str (mk (fT f))) (xs:=f::fs) rfl (fun f hf=>?_) fun s=>rfl;exact jai [fD f] rfl (jp3 (W:=W) (n:=n) f h4 (h f hf))
  have t:evT (jaa U (W + 2) P (n + 3)) U (.cmp .eq (.blt .len (.var 0)) (.lit (.int 0))) [.dat (sD (f::fs))]=.ok (false,[.dat (sD (f::fs))]):=by
   simp_arith[sD]
   congr 2
  rw[jah (jeH t),jb7 (jc9 (jp0 jdl e rfl (jhA (f::fs) h4 h hn)))];rfl
end Law
namespace Law
open PySem L2 DJ Tx
variable {W n:Nat}
section
variable {G:Calls}{ρ ρ1 ρ2:Rho}{a b:E}
theorem jsg {x y:List Nat}(ha:evE G U a ρ=.ok (.dat (.str (mk x)),ρ1))(hb:evE G U b ρ1=.ok (.dat (.str (mk y)),ρ2))(h:x.length + y.length<=100000):evE G U (.bin .add a b) ρ=.ok (.dat (.str (mk (x++y))),ρ2):=by
 simp only[evE,ha,hb,R.bind_ok',jam,jhj,jjd];rw[if_pos (jaI (by rw[jaz,jaz];omega))]
 rfl
theorem jni {ks:List (List Int)}(h:ks≠[]):(ks.flatMap fun k=>43::tT k)=43::jls [43] (ks.map tT):=by
 induction ks with
 |nil=>exact absurd rfl h
 |cons k ks ih=>
  cases ks with
  |nil=>simp[jls]
  |cons k2 ks=>
   rw[List.flatMap_cons,ih (by simp)]
   rfl
end
theorem jnj {l:Nat}(k:List Int)(h4:l<=4)(h:GT l k):smD .join "," (.lst (k.map fun x=>.str (mk (nT x))))=.ok (.dat (.str (mk (tT k)))):=by
 have:=jcL (s:=[44]) (ps:=k.map nT) (B:=16) (fun p hp=>by
  obtain⟨x,hx,rfl⟩:=List.mem_map.mp hp;exact(jfF (h.2 x hx)).2) (by rw[juA,h.1];simp only[juB,juN];omega)
 rw[List.map_map]at this;exact this
theorem jk4 {G:Calls}{A B C D':Sl}{l:Nat}(w:List Nat)(k:List Int)(h4:l<=4)(h:GT l k)(hw:w.length<=1000):evSs G U W ja0 [A,B,C,D',.dat (.str (mk w)),.dat (tu k)]=.ok (.nx [A,B,C,D',.dat (.str (mk (w++43::tT k))),.dat (tu k)]):=by
 have e:evE G U jcl [A,B,C,D',.dat (.str (mk w)),.dat (tu k)]=.ok (.tmp (.l (k.map fun x=>.str (mk (nT x)))),[A,B,C,D',.dat (.str (mk w)),.dat (tu k)]):=by
  refine jaq (h:=D.int) (g:=fun x=>.str (mk (nT x))) (xs:=k) rfl (fun x hx=>?_) fun s=>rfl;show evE G U (.blt .str (.var 0)) [.dat (.int x)]=_;simp_arith[bf_str (h.2 x hx)];rfl
 have hl:=jfG h4 h;have e1:evE G U (.bin .add (.var 4) (.lit (.str "+"))) [A,B,C,D',.dat (.str (mk w)),.dat (tu k)]=.ok (.dat (.str (mk (w++[43]))),[A,B,C,D',.dat (.str (mk w)),.dat (tu k)]):=jsg (x:=w) (y:=[43]) (jng rfl) jdl (by simp only[juB,juN];omega)
 have e2:=jsg e1 (jp0 jdl e rfl (jnj k h4 h)) (by rw[juF,juB,juN];omega)
 unfold ja0;rw[jah (jdk e2 (by simp))]
 simp only[evSs,List.set_cons_succ,List.set_cons_zero,juR,List.singleton_append]
theorem jfI {G:Calls}{A B C D':Sl}{l:Nat}(h4:l<=4):∀(ks:List (List Int)) (w:List Nat) (s:Sl),(∀k∈ks,GT l k)->w.length + 69 * ks.length<=1000->∃t,jaw (fun x r=>(putT [5] true x r).bind fun r'=>evSs G U W ja0 r') (ks.map tu) [A,B,C,D',.dat (.str (mk w)),s]=.ok (.nx [A,B,C,D',.dat (.str (mk (w++ks.flatMap fun k=>43::tT k))),t])
 |[],w,s,_,_=>⟨s,by simp only[List.map_nil,jaw,List.flatMap_nil,juQ]⟩
 |k::ks,w,s,h,hw=>by
  rw[juB]at hw;have hk:=h k jut;have hl:=jfG h4 hk;obtain⟨t,e⟩:=jfI (G:=G) (A:=A) (B:=B) (C:=C) (D':=D') h4 ks (w++43::tT k) (.dat (tu k)) (fun j hj=>h j (jus _ hj)) (by rw[juF,juB];omega)
  refine⟨t,?_⟩;simp only[juy,jaw];have e2:(putT [5] true (tu k) [A,B,C,D',.dat (.str (mk w)),s])=.ok [A,B,C,D',.dat (.str (mk w)),.dat (tu k)]:=rfl;rw[e2,R.bind_ok',jk4 w k h4 hk (by omega),R.bind_ok']
  simp only[];rw[e,List.flatMap_cons,juR]
noncomputable def jcM (t:List Nat):D:=.str (mk t)
theorem jnk {G:Calls}{A s4 s5:Sl}{l:Nat}(acc:List (List Nat))(f:Fan)(h4:l<=4)(h:GF l f)(ha:acc.length<=1000):∃t4 t5,evSs G U W ja1 [A,.own (.l (acc.map jcM)) false false,.dat (tu f.1),.dat (.tup (f.2.map tu)),s4,s5]=.ok (.nx [A,.own (.l ((acc++[fT f]).map jcM)) false false,.dat (tu f.1),.dat (.tup (f.2.map tu)),t4,t5]):=by
 have h5:=h.2.2.2;obtain⟨t,e⟩:=jfI (W:=W) (G:=G) (A:=A) (B:=.own (.l (acc.map jcM)) false false) (C:=.dat (tu f.1)) (D':=.dat (.tup (f.2.map tu))) h4 (f.1::f.2) [] s5 (jfH h) (by rw[juB];simp only[juN];omega)
 rw[List.nil_append,jni (by simp)]at e
 refine⟨.dat (.str (mk (43::fT f))),t,?_⟩;have ff:fits (1 + (f.2.map tu).length)=true:=jaI (by rw[juA];omega)
 unfold ja1;rw[jah (ρ':=[A,.own (.l (acc.map jcM)) false false,.dat (tu f.1),.dat (.tup (f.2.map tu)),.dat (.str (mk [])),s5]) (by simp_arith[];rfl)]
 rw[jah (ρ':=[A,.own (.l (acc.map jcM)) false false,.dat (tu f.1),.dat (.tup (f.2.map tu)),.dat (.str (mk (43::fT f))),t]) (by
  have hi:evI G U (.seq (.bin .add (.tup (.cons (.var 2) .nil)) (.var 3))) [A,.own (.l (acc.map jcM)) false false,.dat (tu f.1),.dat (.tup (f.2.map tu)),.dat (.str (mk [])),s5]=.ok ((f.1::f.2).map tu,[],[A,.own (.l (acc.map jcM)) false false,.dat (tu f.1),.dat (.tup (f.2.map tu)),.dat (.str (mk [])),s5]):=by
   simp_arith[ff,juy,List.singleton_append]
  rw[evS,hi,R.bind_ok'];simp only[];rw[e];rfl)]
 have hl:=jhz h4 h;have es:jhV (.str (mk (43::fT f))) (some 1) none=.ok (.dat (jcM (fT f))):=by
  rw[jkM,if_pos (jaI (by rw[jaz,juB];omega))]
  have:=jhP (43::fT f) 1 (by simp)
  exact congrArg (fun z=>R.ok (Vl.dat (D.str z))) this
 have fa:fits ((acc.map jcM).length + 1)=true:=jaI (by rw[juA];omega)
 rw[jah (ρ':=[A,.own (.l ((acc++[fT f]).map jcM)) false false,.dat (tu f.1),.dat (.tup (f.2.map tu)),.dat (.str (mk (43::fT f))),t]) (by
  simp only[evS,evE,evO,juL,juM,R.bind_ok',jam,es,jga,fa,if_true,List.set_cons_succ,List.set_cons_zero,List.map_append,juy,List.map_nil])]
 simp only[evSs]
theorem jfJ {G:Calls}{A:Sl}{l:Nat}(h4:l<=4):∀(fs:List Fan) (acc:List (List Nat)) (s2 s3 s4 s5:Sl),(∀f∈fs,GF l f)->acc.length + fs.length<=1000->∃t2 t3 t4 t5,jaw (fun x r=>(putT [2,3] false x r).bind fun r'=>evSs G U W ja1 r') (fs.map fD) [A,.own (.l (acc.map jcM)) false false,s2,s3,s4,s5]=.ok (.nx [A,.own (.l ((acc++fs.map fT).map jcM)) false false,t2,t3,t4,t5])
 |[],acc,s2,s3,s4,s5,_,_=>⟨s2,s3,s4,s5,by simp only[List.map_nil,jaw,juQ]⟩
 |f::fs,acc,s2,s3,s4,s5,h,ha=>by
  rw[juB]at ha;obtain⟨u4,u5,e1⟩:=jnk (W:=W) (G:=G) (A:=A) (s4:=s4) (s5:=s5) acc f h4 (h f jut) (by omega)
  obtain⟨t2,t3,t4,t5,e⟩:=jfJ (G:=G) (A:=A) h4 fs (acc++[fT f]) (.dat (tu f.1)) (.dat (.tup (f.2.map tu))) u4 u5 (fun g hg=>h g (jus _ hg)) (by simp only[juF,juB,juN];omega)
  refine⟨t2,t3,t4,t5,?_⟩;simp only[juy,jaw];have e2:(putT [2,3] false (fD f) [A,.own (.l (acc.map jcM)) false false,s2,s3,s4,s5])=.ok [A,.own (.l (acc.map jcM)) false false,.dat (tu f.1),.dat (.tup (f.2.map tu)),s4,s5]:=rfl;rw[e2,R.bind_ok',e1,R.bind_ok'];simp only[];rw[e,juR];rfl
theorem jsh (f:Fan):jbh (fD f)=true/\deep (fD f)<=3:=by
 have h1:jbh (tu f.1)=true:=by simp only[tu,jbh,jbI]
 have h2:deep (tu f.1)=1:=by simp only[tu,deep,jbJ]
 have h3:=jeC f.2;simp only[fD,jr7,jbh,cmpDs,h1,jeB,deep,deeps,h2,Bool.and_self,true_and];have h4:deeps (f.2.map tu) + 1<=2:=by omega
 exact Nat.succ_le_succ (Nat.max_le.mpr ⟨by decide,Nat.max_le.mpr ⟨h4,Nat.zero_le _⟩⟩)
theorem jk5:∀(fs:List Fan),cmpDs (fs.map fD)=true/\deeps (fs.map fD)<=3
 |[]=>⟨rfl,Nat.zero_le _⟩
 |f::fs=>by
  obtain⟨h1,h2⟩:=jsh f;obtain⟨h3,h4⟩:=jk5 fs;simp only[juy,cmpDs,deeps,h1,h3,Bool.and_self,true_and];exact Nat.max_le.mpr ⟨h2,h4⟩
theorem jsi {l:Nat}(fs:List Fan)(h4:l<=4)(h:∀f∈fs,GF l f)(hn:fs.length<=48):CD W (n + 1) 20 [.dat (sD fs)]=.ok (.dat (.str (mk (txt fs))),[.no]):=by
 rw[CD,jag (d:=⟨1,6,ja6⟩) rfl rfl];show (evSs (jaa U W P n) U W ja6 [.dat (sD fs),.no,.no,.no,.no,.no]).bind (jbD 1)=_;unfold ja6;cases fs with
 |nil=>rfl
 |cons f fs=>
  have ec:eqR (sD (f::fs)) (.tup [])=.ok false:=by
   obtain⟨h1,h2⟩:=jk5 (f::fs);unfold eqR sD;rw[if_pos]
   ·rfl
   ·have h5:deep (D.tup ((f::fs).map fD))<=12:=by rw[deep];omega
    have h6:jbh (D.tup ((f::fs).map fD))=true:=by rw[jbh];exact h1
    rw[h6,decide_eq_true h5];rfl
  have t:evT (jaa U W P n) U (.cmp .eq (.var 0) (.tup .nil)) [.dat (sD (f::fs)),.no,.no,.no,.no,.no]=.ok (false,[.dat (sD (f::fs)),.no,.no,.no,.no,.no]):=by
   simp_arith[ec]
  obtain⟨t2,t3,t4,t5,e⟩:=jfJ (W:=W) (G:=jaa U W P n) (A:=.dat (sD (f::fs))) h4 (f::fs) [] .no .no .no .no h (by simp only[juN,juB]at hn ⊢;omega)
  rw[jah (jeH t)];rw[jah (ρ':=[.dat (sD (f::fs)),.own (.l ([].map jcM)) false false,.no,.no,.no,.no]) (by simp_arith[];rfl)]
  rw[jah (ρ':=[.dat (sD (f::fs)),.own (.l (((f::fs).map fT).map jcM)) false false,t2,t3,t4,t5]) (by
   have hi:evI (jaa U W P n) U (.seq (.var 0)) [.dat (sD (f::fs)),.own (.l ([].map jcM)) false false,.no,.no,.no,.no]=.ok ((f::fs).map fD,[],[.dat (sD (f::fs)),.own (.l ([].map jcM)) false false,.no,.no,.no,.no]):=rfl;rw[evS,hi,R.bind_ok'];simp only[];rw[e];rfl)]
  have ej:=jhA (f::fs) h4 h hn;have em:(((f::fs).map fT).map jcM)=(f::fs).map fun f=>.str (mk (fT f)):=by rw[List.map_map];rfl
  rw[<-em]at ej;rw[jb7 (jc9 (jp0 (v:=.slot 1) jdl (by rw[evE];rfl) rfl ej))]
  rfl
end Law
namespace Law
open PySem L2 DJ Tx
variable {W n:Nat}
theorem jsj {t:List Nat}(h:t.length<=100000):bfD .len (.str (mk t))=.ok (.dat (.int t.length)):=by
 rw[jhk,if_pos (jaI (by rw[jaz];omega)),jaz]
theorem jsk {c:Nat}(h:48<=c/\c<=57):Txt.contains "0123456789" ⟨#[c]⟩=true:=by
 rw[jos,decide_eq_true_eq];have e:("0123456789":Str).cps.toList=[48,49,50,51,52,53,54,55,56,57]:=by decide +kernel
 rw[e];simp only[juu,juS,or_false];omega
theorem jtv {c:Nat}(h:c≠48):((⟨#[c]⟩:Str) == "0")=false:=by
 rw[beq_eq_false_iff_ne];intro z;have z:(⟨#[c]⟩:Str)=⟨#[48]⟩:=z;injection z with z
 injection z with z
 injection z with z
 exact h z
theorem jp5 (x:Int)(h:Nm x):CD W (n + 1) 10 [.dat (.str (mk (nT x)))]=.ok (.dat (.int x),[.no]):=by
 rw[CD,jag (d:=⟨1,2,jaF⟩) rfl rfl];show (evSs (jaa U W P n) U W jaF [.dat (.str (mk (nT x))),.no]).bind (jbD 1)=_;obtain⟨hl1,hl2⟩:=jfF h;obtain⟨h0,h1⟩:=h;have hm:x.toNat<=1000000000000000:=by omega
 have hd:∀c∈nT x,48<=c/\c<=57:=jcK x.toNat;obtain⟨c,r,ec,hc⟩:=jfE x.toNat;have ec:nT x=c::r:=ec;have ei:PySem.intText? (mk (nT x))=some x:=by
  have:=jnd hm;rw[show ((x.toNat:Nat):Int)=x by omega]at this
  exact this
 have hz:c=48->nT x=[48]:=fun z=>by unfold nT;rw[hc z];exact jgI (by decide)
 generalize nT x=t at *;have hln:=jsj (t:=t) (by omega)
 have t1:evT (jaa U W P n) U (.or (.cmp .lt (.blt .len (.var 0)) (.lit (.int 1))) (.cmp .gt (.blt .len (.var 0)) (.lit (.int 16)))) [.dat (.str (mk t)),.no]=.ok (false,[.dat (.str (mk t)),.no]):=by
  refine jmI ?_ ?_
  ·simp only[evT,evE,juL,R.bind_ok',jam,hln,jkH,decide_eq_false (show ¬ ((t.length:Int) < 1)by omega)]
  ·simp only[evT,evE,juL,R.bind_ok',jam,hln,jgc,decide_eq_false (show ¬ ((16:Int) < t.length)by omega)]
 have e2:evE (jaa U W P n) U jbK [.dat (.str (mk t)),.no]=.ok (.tmp (.l (t.map fun _=>.bl true)),[.dat (.str (mk t)),.no]):=by
  refine jaq (h:=fun c=>D.str ⟨#[c]⟩) (g:=fun _=>.bl true) (xs:=t) ?_ (fun c hc=>?_) fun s=>rfl
  ·simp only[evI,evE,juL,R.bind_ok',jdH];rw[if_pos (jaI (by rw[jaz];omega))]
  ·show evE (jaa U W P n) U (.cmp .isin (.var 0) (.lit (.str "0123456789"))) [.dat (.str ⟨#[c]⟩)]=.ok (.dat (.bl true),[.dat (.str ⟨#[c]⟩)]);simp only[evE,juL,R.bind_ok',jam,cmD,inX,jsk (hd c hc)]
 have t2:=jel (jpT (g:=fun _=>true) e2);rw[List.all_eq_true.mpr fun _ _=>rfl]at t2;have hx:jk8 (.str (mk t)) (.int 0)=.ok (.str ⟨#[c]⟩):=by
  rw[jkI];unfold atC;rw[if_pos (jaI (by rw[jaz];omega)),ec]
  rfl
 have t3:evT (jaa U W P n) U (.and (.cmp .eq (.idx (.var 0) (.lit (.int 0))) (.lit (.str "0"))) (.cmp .ne (.var 0) (.lit (.str "0")))) [.dat (.str (mk t)),.no]=.ok (false,[.dat (.str (mk t)),.no]):=by
  by_cases z:c=48
  ·rw[hz z];rfl
  ·simp only[evT,evE,juL,R.bind_ok',jam,hx,jm1,jm2,jtv z,jvd,if_false]
 have e4:evE (jaa U W P n) U (.blt .int (.var 0)) [.dat (.str (mk t)),.no]=.ok (.dat (.int x),[.dat (.str (mk t)),.no]):=by
  simp only[evE,juL,R.bind_ok',jam,bfD];rw[if_pos (by rw[jaz];omega),ei]
  rfl
 have t5:evT (jaa U W P n) U (.cmp .gt (.var 1) (.lit (.int 1000000000000000))) [.dat (.str (mk t)),.dat (.int x)]=.ok (false,[.dat (.str (mk t)),.dat (.int x)]):=by
  simp only[evT,evE,juL,juM,R.bind_ok',jam,jgc,decide_eq_false (show ¬ ((1000000000000000:Int) < x)by omega)]
 unfold jaF;rw[jah (jeH t1),jah (jeH t2),jah (jeH t3),jah (jdk e4 (by simp))]
 show (evSs (jaa U W P n) U W _ [.dat (.str (mk t)),.dat (.int x)]).bind (jbD 1)=_;rw[jah (jeH t5)];rfl
theorem jgK {G:Calls}{ρ:Rho}{z:Str}{c:Nat}{s:List Nat}{ps:List (List Nat)}(h0:ρ[0]?=some (.dat (.str (mk (jls (c::s) ps)))))(hz:z=mk (c::s))(hp:ps≠[])(hf:∀p∈ps,c ∉ p)(hs:∀x∈c::s,x < 256)(hl:(jls (c::s) ps).length<=100000)(hn:ps.length<=1000):evI G U (.seq (.sm .splt (.var 0) (.lit (.str z)))) ρ=.ok (ps.map jcM,[],ρ):=by
 have e:smD .splt (mk (jls (c::s) ps)) (.str z)=.ok (.tmp (.l (ps.map jcM))):=by
  rw[jkL,hz,jnf c s hp hf hs,List.map_map,if_pos]
  ·rfl
  ·rw[jaI (by rw[jaz];omega),jaI (by rw[juA];omega),jaz]
   rfl
 have e1:=jp0 (f:=.splt) (jng (G:=G) h0) (jdl (d:=.str z)) rfl e;rw[evI,e1];rfl
theorem jp6 {x:Int}{c:Nat}(h:c < 48\/57 < c):c ∉ nT x:=fun z=>by
 have:=jcK x.toNat c z;omega
theorem jnV {k:List Int}{c:Nat}(h:c∈tT k):c=44\/(48<=c/\c<=57):=by
 rcases jeF h with h | ⟨p,hp,h⟩
 ·exact .inl (List.mem_singleton.mp h)
 ·obtain⟨x,_,rfl⟩:=List.mem_map.mp hp;exact .inr (jcK x.toNat c h)
theorem jnW {f:Fan}{c:Nat}(h:c∈fT f):c=43\/c=44\/(48<=c/\c<=57):=by
 rcases jeF h with h | ⟨p,hp,h⟩
 ·exact .inl (List.mem_singleton.mp h)
 ·obtain⟨x,_,rfl⟩:=List.mem_map.mp hp;exact .inr (jnV h)
theorem jp7 {l:Nat}(k:List Int)(h1:1<=l)(h4:l<=4)(h:GT l k):CD W (n + 2) 11 [.dat (.str (mk (tT k)))]=.ok (.dat (tu k),[.no]):=by
 rw[CD,jag (d:=⟨1,1,jaQ⟩) rfl rfl];have hl:=jfG h4 h;have e:evE (jaa U W P (n + 1)) U jbZ [.dat (.str (mk (tT k)))]=.ok (.tmp (.l (k.map D.int)),[.dat (.str (mk (tT k)))]):=by
  refine jaq (h:=fun x=>jcM (nT x)) (g:=D.int) (xs:=k) ?_ (fun x hx=>?_) fun s=>rfl
  ·have:=jgK (G:=jaa U W P (n + 1)) (ρ:=[.dat (.str (mk (tT k)))]) (z:=",") (c:=44) (s:=[]) (ps:=k.map nT) rfl rfl (by
    intro z;have:=h.1;rw[List.map_eq_nil_iff.mp z]at this;simp at this;omega) (fun p hp=>by obtain⟨x,_,rfl⟩:=List.mem_map.mp hp;exact jp6 (.inl (by decide))) (by decide) (by show (tT k).length<=_;omega) (by rw[juA,h.1];omega)
   rw[List.map_map]at this;exact this
  ·exact jai [.str (mk (nT x))] rfl (jp5 (W:=W) (n:=n) x (h.2 x hx))
 show (evSs (jaa U W P (n + 1)) U W jaQ [.dat (.str (mk (tT k)))]).bind (jbD 1)=_;unfold jaQ;rw[jb7 (jc9 (jf9 e))];rfl
theorem jp8 {l:Nat}(f:Fan)(h1:1<=l)(h4:l<=4)(h:GF l f):CD W (n + 3) 12 [.dat (.str (mk (fT f)))]=.ok (.dat (fD f),[.no]):=by
 rw[CD,jag (d:=⟨1,2,jbo⟩) rfl rfl];have hl:=jhz h4 h;have h5:=h.2.2.2;have e:evE (jaa U W P (n + 2)) U jcB [.dat (.str (mk (fT f))),.no]=.ok (.tmp (.l ((f.1::f.2).map tu)),[.dat (.str (mk (fT f))),.no]):=by
  refine jaq (h:=fun k=>jcM (tT k)) (g:=tu) (xs:=f.1::f.2) ?_ (fun k hk=>?_) fun s=>rfl
  ·have:=jgK (G:=jaa U W P (n + 2)) (ρ:=[.dat (.str (mk (fT f))),.no]) (z:="+") (c:=43) (s:=[]) (ps:=(f.1::f.2).map tT) rfl rfl (by simp) (fun p hp=>by
    obtain⟨k,_,rfl⟩:=List.mem_map.mp hp;exact fun z=>by have:=jnV z;omega) (by decide) (by show (fT f).length<=_;omega) (by rw[juA,juB];omega)
   rw[List.map_map]at this;exact this
  ·exact jai [.str (mk (tT k))] rfl (jp7 (W:=W) (n:=n) k h1 h4 (jfH h k hk))
 show (evSs (jaa U W P (n + 2)) U W jbo [.dat (.str (mk (fT f))),.no]).bind (jbD 1)=_;unfold jbo;rw[jah (jrU e (by simp))]
 show (evSs (jaa U W P (n + 2)) U W _ [.dat (.str (mk (fT f))),.own (.l ((f.1::f.2).map tu)) false false]).bind (jbD 1)=_;have hc:cut ((f.1::f.2).map tu) (some (1:Int)) none=f.2.map tu:=by
  rw[jem];exact congrArg _ (jhm (f.1::f.2) 1)
 have ha:DJ.atI ((f.1::f.2).map tu) 0=.ok (tu f.1):=rfl;generalize (f.1::f.2).map tu=xs at *;simp_arith[hc,ha];rfl
theorem jnX:∀{ks:List (List Int)},Srt ks->jtr ks=true
 |[],_=>rfl
 |[_],_=>rfl
 |a::b::r,h=>by
  obtain⟨h1,h2⟩:=List.pairwise_cons.mp h;have:=jnX h2;unfold jtr at this ⊢;show (DJ.lexLt a b && _)=true;rw[h1 b jut];exact this
theorem GT.tal {l:Nat}{k:List Int}(h:GT l k):Tal l k:=⟨h.1,fun x hx=>(h.2 x hx).1⟩
theorem jnl {l:Nat}{f:Fan}(h1:1<=l)(h4:l<=4)(h:GF l f):jlc (fD f)=true:=by
 show (jiR (tu f.1) && jcD (.tup (f.2.map tu)) (jhn (tu f.1)))=true;rw[jkS h.1.tal h1 h4,jeA,h.1.1];simp only[jcD,jkV,jnX h.2.2.1,Bool.and_true,Bool.true_and];refine List.all_eq_true.mpr fun x hx=>?_;obtain⟨k,hk,rfl⟩:=List.mem_map.mp hx;obtain⟨a1,a2⟩:=h.2.1 k hk;unfold jgG;rw[jna a1.tal h1 h4,jhp,a2];rfl
theorem jnY {l:Nat}{f:Fan}(h:GF l f):fl (fD f)=l:=by
 show jhn (tu f.1)=l;rw[jeA,h.1.1]
theorem jnm {l:Nat}{fs:List Fan}(h1:1<=l)(h4:l<=4)(h:∀f∈fs,GF l f):jqi (sD fs)=true:=by
 simp only[sD,jqi,jvc];refine⟨List.all_eq_true.mpr fun x hx=>?_,List.all_eq_true.mpr fun x hx=>?_⟩
 ·obtain⟨f,hf,rfl⟩:=List.mem_map.mp hx;exact jnl h1 h4 (h f hf)
 ·obtain⟨f,hf,rfl⟩:=List.mem_map.mp hx;cases fs with
  |nil=>cases hf
  |cons g gs=>
   rw[juy,List.headD_cons,jnY (h f hf),jnY (h g jut)];exact beq_self_eq_true _
theorem jsl (f:Fan):san (fD f)=true:=by
 simp only[fD,jr7,san,sans,jnP,Bool.true_and,Bool.and_true];exact jey fun x hx=>by
  obtain⟨k,_,rfl⟩:=List.mem_map.mp hx;exact jnP k
theorem jsm (fs:List Fan):san (sD fs)=true:=by
 simp only[sD,san];exact jey fun x hx=>by
  obtain⟨f,_,rfl⟩:=List.mem_map.mp hx;exact jsl f
theorem jp9 {l:Nat}(fs:List Fan)(h1:1<=l)(h4:l<=4)(h:∀f∈fs,GF l f)(hn:fs.length<=48):CD W (n + 7) 13 [.dat (.str (mk (txt fs)))]=.ok (.dat (sD fs),[.no]):=by
 rw[CD,jag (d:=⟨1,2,jbp⟩) rfl rfl];cases fs with
 |nil=>rfl
 |cons f fs=>
  have hl:=jse h4 h hn;have ht:txt (f::fs)=sT (f::fs):=rfl;rw[ht];have ne:(mk (sT (f::fs)) == "-")=false:=by
   rw[beq_eq_false_iff_ne];intro z;have z:mk (sT (f::fs))=mk [45]:=z;have z:sT (f::fs)=[45]:=by
    have:=congrArg (fun s:Str=>s.cps.toList) z;exact this
   have:45∈sT (f::fs):=by rw[z];exact List.mem_singleton.mpr rfl
   rcases jeF this with q | ⟨p,hp,q⟩
   ·simp at q
   ·obtain⟨g,_,rfl⟩:=List.mem_map.mp hp;have:=jnW q;omega
  have t1:evT (jaa U W P (n + 6)) U (.cmp .eq (.var 0) (.lit (.str "-"))) [.dat (.str (mk (sT (f::fs)))),.no]=.ok (false,[.dat (.str (mk (sT (f::fs)))),.no]):=by
   simp only[evT,evE,juL,R.bind_ok',jam,jm1,jm2,ne]
  have e:evE (jaa U W P (n + 6)) U jcC [.dat (.str (mk (sT (f::fs)))),.no]=.ok (.tmp (.l ((f::fs).map fD)),[.dat (.str (mk (sT (f::fs)))),.no]):=by
   refine jaq (h:=fun g=>jcM (fT g)) (g:=fD) (xs:=f::fs) ?_ (fun g hg=>?_) fun s=>rfl
   ·have:=jgK (G:=jaa U W P (n + 6)) (ρ:=[.dat (.str (mk (sT (f::fs)))),.no]) (z:=" | ") (c:=32) (s:=[124,32]) (ps:=(f::fs).map fT) rfl rfl (by simp) (fun p hp=>by
     obtain⟨k,_,rfl⟩:=List.mem_map.mp hp;exact fun z=>by have:=jnW z;omega) (by decide) (by show (sT (f::fs)).length<=_;omega) (by rw[juA];omega)
    rw[List.map_map]at this;exact this
   ·exact jai [.str (mk (fT g))] rfl (jp8 (W:=W) (n:=n + 3) g h1 h4 (h g hg))
  have t2:evT (jaa U W P (n + 6)) U (.not (.call 5 [] (.cons (.var 1) .nil))) [.dat (.str (mk (sT (f::fs)))),.dat (sD (f::fs))]=.ok (!jqi (sD (f::fs)),[.dat (.str (mk (sT (f::fs)))),.dat (sD (f::fs))]):=jel (jcg (ds:=[sD (f::fs)]) rfl (jts (W:=W) (n:=n) _ (jsm _)));rw[jnm h1 h4 h]at t2;show (evSs (jaa U W P (n + 6)) U W jbp [.dat (.str (mk (sT (f::fs)))),.no]).bind (jbD 1)=_;unfold jbp;rw[jah (jeH t1),jah (jdk (jf9 e) (by simp))]
  show (evSs (jaa U W P (n + 6)) U W _ [.dat (.str (mk (sT (f::fs)))),.dat (sD (f::fs))]).bind (jbD 1)=_;rw[jah (jeH t2)];rfl
end Law
namespace Law
open PySem L2 DJ Tx
variable {W n:Nat}
theorem jqa (c:Int)(k:Nat):jld c k<=1000000000000000:=by
 unfold jld;simp only[Int.reducePow,Int.reduceAdd];split
 ·have:=Int.emod_lt_of_pos (nh c k * 1001) (show (0:Int) < 1000000000000001 by decide)
  omega
 ·split
  ·have:=Int.emod_lt_of_pos (nh c k / 3) (show (0:Int) < 10 by decide)
   omega
  ·split <;> decide
theorem jk6 (c:Int)(l:Nat):GT l (jiO c l):=⟨by simp[jiO],fun x hx=>by
 obtain⟨k,_,rfl⟩:=List.mem_map.mp hx;exact⟨jpX c k,jqa c k⟩⟩
noncomputable def cF (c:Int)(k:Nat):Int:=c / 10 + (k:Int) * k * 7919
noncomputable def stF (c:Int)(l k:Nat):List Int:=if c / 5 % 2=0 then (jiO (cF c k) l).map (· % 3)else jiO (cF c k) l
theorem jnZ (c:Int)(l k:Nat):GT l (stF c l k):=by
 unfold stF;have h:=jk6 (cF c k) l;split
 ·refine⟨by rw[juA];exact h.1,fun x hx=>?_⟩
  obtain⟨y,_,rfl⟩:=List.mem_map.mp hx;have h1:=Int.emod_nonneg y (show (3:Int)≠0 by decide)
  have h2:=Int.emod_lt_of_pos y (show (0:Int) < 3 by decide)
  exact⟨h1,by omega⟩
 ·exact h
noncomputable def jat (c:Int)(l:Nat):List (List Int):=(List.range (c % 5).toNat).map (stF c l)
noncomputable def jk7 (l:Nat)(c:Int):Fan:=(jiO (c / 3) l,kp (jat c l))
theorem jfK:∀(ks acc:List (List Int)),(ks.foldl keep acc).length<=acc.length + ks.length
 |[],acc=>ju7 _
 |k::ks,acc=>by
  have h1:=jfK ks (keep acc k);have h2:=jhv acc k;rw[List.foldl_cons,juB];omega
theorem jqb (l:Nat)(c:Int):GF l (jk7 l c):=by
 have hs:∀k∈jat c l,GT l k:=fun k hk=>by
  obtain⟨j,_,rfl⟩:=List.mem_map.mp hk;exact jnZ c l j
 obtain⟨h1,h2⟩:=jk0 (jbu (jat c l)) [] List.Pairwise.nil (fun a ha=>by cases ha) (jkZ _)
 refine⟨jk6 _ _,fun k hk=>?_,h1,?_⟩
 ·rcases (h2 k).mp hk with z | ⟨z,s⟩
  ·cases z
  ·have hk:=hs k (sort_mem.mp z);exact⟨hk,(jnS fun x hx=>(hk.2 x hx).1).2.mp s⟩
 ·have:=jfK (jbu (jat c l)) [];rw[jeD]at this;have e:(jat c l).length<=4:=by
   unfold jat;rw[juA,List.length_range];have:=Int.emod_lt_of_pos c (show (0:Int) < 5 by decide)
   omega
  simp only[juN]at this;exact jva this (by omega)
section
variable {S0 S2:Sl}
theorem e0B {G:Calls}{c x:Int}{ρ:Rho}(h3:ρ[3]?=some (.dat (.int c)))(h5:ρ[5]?=some (.dat (.int x)))(bk:-18446744073709551616 < x/\x < 18446744073709551616):evE G U (.bin .add (.bin .fdiv (.var 3) (.lit (.int 10))) (.bin .mul (.bin .mul (.var 5) (.var 5)) (.lit (.int 7919)))) ρ=.ok (.dat (.int (c / 10 + x * x * 7919)),ρ):=by
 simp_arith[h3,h5,if_pos (Or.inl bk)]
theorem juq {G:Calls}{ρ:Rho}(t:List Int)(h:ρ[6]?=some (.dat (tu t))):evE G U jbM ρ=.ok (.tmp (.l (t.map fun x=>.int (x % 3))),ρ):=by
 refine jaq (h:=D.int) (g:=fun x=>.int (x % 3)) (xs:=t) (by simp only[evI,evE,h,R.bind_ok'];rfl) (fun x _=>?_) fun s=>rfl
 show evE G U (.bin .mod (.var 0) (.lit (.int 3))) [.dat (.int x)]=_;simp_arith[];rfl
theorem jiP (c:Int)(l k:Nat)(hl:l<=4)(hk:k < 6)(acc:List (List Int))(ha:acc.length<=100)(s6:Sl):evSs (jaa U W P (n + 2)) U W jaS [S0,.dat (.int l),S2,.dat (.int c),.own (.l (acc.map tu)) false false,.dat (.int k),s6]=.ok (.nx [S0,.dat (.int l),S2,.dat (.int c),.own (.l ((acc++[stF c l k]).map tu)) false false,.dat (.int k),.dat (tu (stF c l k))]):=by
 have bk:-18446744073709551616 < (k:Int)/\(k:Int) < 18446744073709551616:=by omega
 have e0:evE (jaa U W P (n + 2)) U (.bin .add (.bin .fdiv (.var 3) (.lit (.int 10))) (.bin .mul (.bin .mul (.var 5) (.var 5)) (.lit (.int 7919)))) [S0,.dat (.int l),S2,.dat (.int c),.own (.l (acc.map tu)) false false,.dat (.int k),s6]=.ok (.dat (.int (cF c k)),[S0,.dat (.int l),S2,.dat (.int c),.own (.l (acc.map tu)) false false,.dat (.int k),s6]):=by
  exact e0B (x:=(k:Int)) rfl rfl bk
 have e1:=jai (G:=jaa U W P (n + 2)) (U:=U) (k:=17) (ρ:=[S0,.dat (.int l),S2,.dat (.int c),.own (.l (acc.map tu)) false false,.dat (.int k),s6]) (es:=.cons (.bin .add (.bin .fdiv (.var 3) (.lit (.int 10))) (.bin .mul (.bin .mul (.var 5) (.var 5)) (.lit (.int 7919)))) (.cons (.var 1) .nil)) [.int (cF c k),.int l] (as2 e0 rfl) (jht (W:=W) (n:=n) (cF c k) l hl);unfold jaS;rw[jah (jdk e1 (by simp))]
 show evSs (jaa U W P (n + 2)) U W _ [S0,.dat (.int l),S2,.dat (.int c),.own (.l (acc.map tu)) false false,.dat (.int k),.dat (tu (jiO (cF c k) l))]=_;have ff:fits ((acc.map tu).length + 1)=true:=jaI (by rw[juA];omega)
 have fin:∀t:List Int,evSs (jaa U W P (n + 2)) U W (.cons (.app 4 (.var 6)) .nil) [S0,.dat (.int l),S2,.dat (.int c),.own (.l (acc.map tu)) false false,.dat (.int k),.dat (tu t)]=.ok (.nx [S0,.dat (.int l),S2,.dat (.int c),.own (.l ((acc++[t]).map tu)) false false,.dat (.int k),.dat (tu t)]):=fun t=>by
  simp_arith[ff]
  rw[List.map_append];rfl
 unfold stF;generalize jiO (cF c k) l=t;have tt:evT (jaa U W P (n + 2)) U (.cmp .eq (.bin .mod (.bin .fdiv (.var 3) (.lit (.int 5))) (.lit (.int 2))) (.lit (.int 0))) [S0,.dat (.int l),S2,.dat (.int c),.own (.l (acc.map tu)) false false,.dat (.int k),.dat (tu t)]=.ok (c / 5 % 2 == 0,[S0,.dat (.int l),S2,.dat (.int c),.own (.l (acc.map tu)) false false,.dat (.int k),.dat (tu t)]):=by simp_arith[]
 by_cases h:c / 5 % 2=0
 ·rw[show (c / 5 % 2 == 0)=true from by simpa using h]at tt
  rw[if_pos h];have e2:evE (jaa U W P (n + 2)) U jbM [S0,.dat (.int l),S2,.dat (.int c),.own (.l (acc.map tu)) false false,.dat (.int k),.dat (tu t)]=.ok (.tmp (.l (t.map fun x=>.int (x % 3))),[S0,.dat (.int l),S2,.dat (.int c),.own (.l (acc.map tu)) false false,.dat (.int k),.dat (tu t)]):=juq t rfl;rw[jah (ρ':=[S0,.dat (.int l),S2,.dat (.int c),.own (.l (acc.map tu)) false false,.dat (.int k),.dat (tu (t.map (· % 3)))]) (by
   rw[jlb tt];simp only[if_true];rw[jah (jdk (jf9 e2) (by simp))]
   simp only[evSs,tu,List.map_map,List.set_cons_succ,List.set_cons_zero];rfl)]
  exact fin _
 ·rw[show (c / 5 % 2 == 0)=false from by simpa using h]at tt
  rw[if_neg h];rw[jah (jeH tt)];exact fin _
theorem jdK (c:Int)(l:Nat)(hl:l<=4):∀(ks:List Nat) (acc:List (List Int)) (s5 s6:Sl),(∀k∈ks,k < 6)->acc.length + ks.length<=100->∃t5 t6,jaw (fun x r=>(putT [5] true x r).bind fun r'=>evSs (jaa U W P (n + 2)) U W jaS r') (ks.map fun (j:Nat)=>D.int j) [S0,.dat (.int l),S2,.dat (.int c),.own (.l (acc.map tu)) false false,s5,s6]=.ok (.nx [S0,.dat (.int l),S2,.dat (.int c),.own (.l ((acc++ks.map (stF c l)).map tu)) false false,t5,t6])
 |[],acc,s5,s6,_,_=>⟨s5,s6,by simp[jaw]⟩
 |k::ks,acc,s5,s6,hk,ha=>by
  rw[juB]at ha;obtain⟨t5,t6,e⟩:=jdK c l hl ks (acc++[stF c l k]) (.dat (.int k)) (.dat (tu (stF c l k))) (fun j hj=>hk j (jus _ hj)) (by simp;omega)
  refine⟨t5,t6,?_⟩;simp only[juy,jaw];have e2:(putT [5] true (.int k) [S0,.dat (.int l),S2,.dat (.int c),.own (.l (acc.map tu)) false false,s5,s6])=.ok [S0,.dat (.int l),S2,.dat (.int c),.own (.l (acc.map tu)) false false,.dat (.int k),s6]:=rfl;rw[e2,R.bind_ok',jiP c l k hl (hk k jut) acc (by omega),R.bind_ok']
  simp only[];rw[e,juR];rfl
end
theorem jnn {S0:Sl}(c:Int)(l:Nat)(h1:1<=l)(hl:l<=4)(acc:List Fan)(ha:acc.length<=100)(s4 s5 s6:Sl):∃t4 t5 t6,evSs (jaa U W P (n + 2)) U W jbd [S0,.dat (.int l),.own (.l (acc.map fD)) false false,.dat (.int c),s4,s5,s6]=.ok (.nx [S0,.dat (.int l),.own (.l ((acc++[jk7 l c]).map fD)) false false,.dat (.int c),t4,t5,t6]):=by
 have hm:c % 5=(((c % 5).toNat:Nat):Int):=by omega
 obtain⟨t5,t6,e⟩:=jdK (W:=W) (n:=n) (S0:=S0) (S2:=.own (.l (acc.map fD)) false false) c l hl (List.range (c % 5).toNat) [] s5 s6 (fun k hk=>by have:=List.mem_range.mp hk;omega) (by simp;omega)
 rw[List.nil_append]at e;have e:jaw (fun x r=>(putT [5] true x r).bind fun r'=>evSs (jaa U W P (n + 2)) U W jaS r') ((List.range (c % 5).toNat).map fun (j:Nat)=>D.int j) [S0,.dat (.int l),.own (.l (acc.map fD)) false false,.dat (.int c),.own (.l []) false false,s5,s6]=.ok (.nx [S0,.dat (.int l),.own (.l (acc.map fD)) false false,.dat (.int c),.own (.l ((jat c l).map tu)) false false,t5,t6]):=e;refine⟨.dat (.lst ((jat c l).map tu)),t5,t6,?_⟩;have hs:∀k∈jat c l,k.length=l:=fun k hk=>by
  obtain⟨j,_,rfl⟩:=List.mem_map.mp hk;exact(jnZ c l j).1
 have hsl:(jat c l).length<=4:=by
  unfold jat;rw[juA,List.length_range];omega
 unfold jbd;rw[jah (ρ':=[S0,.dat (.int l),.own (.l (acc.map fD)) false false,.dat (.int c),.own (.l []) false false,s5,s6]) (by simp_arith[])]
 rw[jah (ρ':=[S0,.dat (.int l),.own (.l (acc.map fD)) false false,.dat (.int c),.own (.l ((jat c l).map tu)) false false,t5,t6]) (by
  have hr:jd8 (.int (c % 5))=.ok ((List.range (c % 5).toNat).map fun (j:Nat)=>D.int j):=by
   conv=>lhs;rw[hm]
   exact jen _ (by omega)
  simp_arith[hr,e,jdg,unlk])]
 have ef:evE (jaa U W P (n + 2)) U (.bin .fdiv (.var 3) (.lit (.int 3))) [S0,.dat (.int l),.own (.l (acc.map fD)) false false,.dat (.int c),.own (.l ((jat c l).map tu)) false false,t5,t6]=.ok (.dat (.int (c / 3)),[S0,.dat (.int l),.own (.l (acc.map fD)) false false,.dat (.int c),.own (.l ((jat c l).map tu)) false false,t5,t6]):=by simp_arith[]
 have e1:=jai (G:=jaa U W P (n + 2)) (U:=U) (k:=17) (ρ:=[S0,.dat (.int l),.own (.l (acc.map fD)) false false,.dat (.int c),.own (.l ((jat c l).map tu)) false false,t5,t6]) (es:=.cons (.bin .fdiv (.var 3) (.lit (.int 3))) (.cons (.var 1) .nil)) [.int (c / 3),.int l] (as2 ef rfl) (jht (W:=W) (n:=n) (c / 3) l hl);have eg:=jsc (W:=W) (n:=n + 1) (jiO (c / 3) l) (jat c l) (fun k hk z=>by have:=hs k hk;rw[z]at this;simp at this;omega) (by omega)
 have e2:evE (jaa U W P (n + 2)) U (.call 18 [] (.cons (.call 17 [] (.cons (.bin .fdiv (.var 3) (.lit (.int 3))) (.cons (.var 1) .nil))) (.cons (.var 4) .nil))) [S0,.dat (.int l),.own (.l (acc.map fD)) false false,.dat (.int c),.own (.l ((jat c l).map tu)) false false,t5,t6]=.ok (.dat (fD (jk7 l c)),[S0,.dat (.int l),.own (.l (acc.map fD)) false false,.dat (.int c),.dat (.lst ((jat c l).map tu)),t5,t6]):=by
  rw[evE,as2 (v2:=.slot 4) e1 (by rw[evE];rfl),R.bind_ok']
  have ep:jaB [] [Vl.dat (tu (jiO (c / 3) l)),.slot 4] [S0,.dat (.int l),.own (.l (acc.map fD)) false false,.dat (.int c),.own (.l ((jat c l).map tu)) false false,t5,t6]=.ok ([.dat (tu (jiO (c / 3) l)),.dat (.lst ((jat c l).map tu))],[none,none],[S0,.dat (.int l),.own (.l (acc.map fD)) false false,.dat (.int c),.dat (.lst ((jat c l).map tu)),t5,t6]):=rfl;rw[ep,R.bind_ok'];show (CD W (n + 2) 18 [.dat (tu (jiO (c / 3) l)),.dat (.lst ((jat c l).map tu))]).bind _=_;rw[eg];rfl
 have ff:fits ((acc.map fD).length + 1)=true:=jaI (by rw[juA];omega)
 rw[jah (ρ':=[S0,.dat (.int l),.own (.l ((acc++[jk7 l c]).map fD)) false false,.dat (.int c),.dat (.lst ((jat c l).map tu)),t5,t6]) (by
  rw[evS];simp only[juL,juM,e2,R.bind_ok',jga,ff,if_true,List.set_cons_succ,List.set_cons_zero,List.map_append,juy,List.map_nil])]
 simp only[evSs]
theorem set_loop {S0:Sl}(l:Nat)(h1:1<=l)(hl:l<=4):∀(cs:List Int) (acc:List Fan) (s3 s4 s5 s6:Sl),acc.length + cs.length<=100->∃t3 t4 t5 t6,jaw (fun x r=>(putT [3] true x r).bind fun r'=>evSs (jaa U W P (n + 2)) U W jbd r') (cs.map D.int) [S0,.dat (.int l),.own (.l (acc.map fD)) false false,s3,s4,s5,s6]=.ok (.nx [S0,.dat (.int l),.own (.l ((acc++cs.map (jk7 l)).map fD)) false false,t3,t4,t5,t6])
 |[],acc,s3,s4,s5,s6,_=>⟨s3,s4,s5,s6,by simp only[List.map_nil,jaw,juQ]⟩
 |c::cs,acc,s3,s4,s5,s6,ha=>by
  rw[juB]at ha;obtain⟨u4,u5,u6,e1⟩:=jnn (W:=W) (n:=n) (S0:=S0) c l h1 hl acc (by omega) s4 s5 s6
  obtain⟨t3,t4,t5,t6,e⟩:=set_loop (S0:=S0) l h1 hl cs (acc++[jk7 l c]) (.dat (.int c)) u4 u5 u6 (by simp only[juF,juB,juN];omega)
  refine⟨t3,t4,t5,t6,?_⟩;simp only[juy,jaw];have e2:(putT [3] true (.int c) [S0,.dat (.int l),.own (.l (acc.map fD)) false false,s3,s4,s5,s6])=.ok [S0,.dat (.int l),.own (.l (acc.map fD)) false false,.dat (.int c),s4,s5,s6]:=rfl;rw[e2,R.bind_ok',e1,R.bind_ok'];simp only[];rw[e,juR];rfl
theorem jsn (cs:List Int)(l:Nat)(h1:1<=l)(hl:l<=4)(hc:cs.length<=48):CD W (n + 3) 19 [.dat (.lst (cs.map D.int)),.dat (.int l)]=.ok (.dat (sD (cs.map (jk7 l))),[.no,.no]):=by
 rw[CD,jag (d:=⟨2,7,jbs⟩) rfl rfl];obtain⟨t3,t4,t5,t6,e⟩:=set_loop (W:=W) (n:=n) (S0:=.dat (.lst (cs.map D.int))) l h1 hl cs [] .no .no .no .no (by simp only[juN];omega)
 rw[List.nil_append]at e;show (evSs (jaa U W P (n + 2)) U W jbs [.dat (.lst (cs.map D.int)),.dat (.int l),.no,.no,.no,.no,.no]).bind (jbD 2)=_;unfold jbs;rw[jah (ρ':=[.dat (.lst (cs.map D.int)),.dat (.int l),.own (.l ([].map fD)) false false,.no,.no,.no,.no]) (by simp_arith[];rfl)]
 rw[jah (ρ':=[.dat (.lst (cs.map D.int)),.dat (.int l),.own (.l ((cs.map (jk7 l)).map fD)) false false,t3,t4,t5,t6]) (by simp_arith[e,jdg,unlk])]
 simp_arith[]
 rfl
end Law
namespace Law
open PySem L2 DJ Tx
variable {W n:Nat}
theorem jhB:∀(ss:List (List Int)),jdx (ss.map tu) (ss.map tu)=ss.map fun k=>.tup [tu k,tu k]
 |[]=>by simp[jdx]
 |k::ss=>by simp only[juy,jdx,jhB ss]
theorem jfL {A B C D':Sl}:∀(ss:List (List Int)) (s4 s5:Sl),∃t4 t5,jaw (fun x r=>(putT [4,5] false x r).bind fun r'=>evSs (jaa U W P (n + 2)) U W jaJ r') (ss.map fun k=>.tup [tu k,tu k]) [A,B,C,D',s4,s5]=.ok (.nx [A,B,C,D',t4,t5])
 |[],s4,s5=>⟨s4,s5,rfl⟩
 |k::ss,s4,s5=>by
  obtain⟨t4,t5,e⟩:=jfL (A:=A) (B:=B) (C:=C) (D':=D') ss (.dat (tu k)) (.dat (tu k));refine⟨t4,t5,?_⟩;have t:=jel (jcg (G:=jaa U W P (n + 2)) (U:=U) (k:=15) (ρ:=[A,B,C,D',.dat (tu k),.dat (tu k)]) (es:=.cons (.var 4) (.cons (.var 5) .nil)) [tu k,tu k] rfl (jsb (W:=W) (n:=n) k));have e1:evSs (jaa U W P (n + 2)) U W jaJ [A,B,C,D',.dat (tu k),.dat (tu k)]=.ok (.nx [A,B,C,D',.dat (tu k),.dat (tu k)]):=by
   unfold jaJ;rw[jah (jeH t)];simp only[evSs]
  simp only[juy,jaw];have e2:(putT [4,5] false (.tup [tu k,tu k]) [A,B,C,D',s4,s5])=.ok [A,B,C,D',.dat (tu k),.dat (tu k)]:=rfl;rw[e2,R.bind_ok',e1,R.bind_ok'];exact e
theorem jiQ (fs:List Fan)(k:Nat)(f:Fan)(hk:(fs.map fD)[k]?=some (fD f))(s3 s4 s5:Sl):∃t4 t5,evSs (jaa U W P (n + 2)) U W jaK [.dat (sD fs),.dat (sD fs),.dat (.int k),s3,s4,s5]=.ok (.nx [.dat (sD fs),.dat (sD fs),.dat (.int k),.dat (.tup (f.2.map tu)),t4,t5]):=by
 have g:=jup hk;have e:∀(j:Nat) (s3:Sl),j=0\/j=1->evE (jaa U W P (n + 2)) U (.idx (.var j) (.var 2)) [.dat (sD fs),.dat (sD fs),.dat (.int k),s3,s4,s5]=.ok (.dat (fD f),[.dat (sD fs),.dat (sD fs),.dat (.int k),s3,s4,s5]):=fun j s3 hj=>by
  rcases hj with rfl | rfl
  ·simp_arith[sD,g]
  ·simp_arith[sD,g]
 have e0:∀(j:Nat) (s3:Sl),j=0\/j=1->evE (jaa U W P (n + 2)) U (.idx (.idx (.var j) (.var 2)) (.lit (.int 0))) [.dat (sD fs),.dat (sD fs),.dat (.int k),s3,s4,s5]=.ok (.dat (tu f.1),[.dat (sD fs),.dat (sD fs),.dat (.int k),s3,s4,s5]):=fun j s3 hj=>by
  rw[evE,e j s3 hj,R.bind_ok',jdl];rfl
 have e1:∀(j:Nat) (s3:Sl),j=0\/j=1->evE (jaa U W P (n + 2)) U (.idx (.idx (.var j) (.var 2)) (.lit (.int 1))) [.dat (sD fs),.dat (sD fs),.dat (.int k),s3,s4,s5]=.ok (.dat (.tup (f.2.map tu)),[.dat (sD fs),.dat (sD fs),.dat (.int k),s3,s4,s5]):=fun j s3 hj=>by
  rw[evE,e j s3 hj,R.bind_ok',jdl];rfl
 have t1:evT (jaa U W P (n + 2)) U (.or (.not (.isi (.idx (.var 0) (.var 2)) [.tuple])) (.or (.cmp .ne (.blt .len (.idx (.var 0) (.var 2))) (.lit (.int 2))) (.not (.call 15 [] (.cons (.idx (.idx (.var 0) (.var 2)) (.lit (.int 0))) (.cons (.idx (.idx (.var 1) (.var 2)) (.lit (.int 0))) .nil)))))) [.dat (sD fs),.dat (sD fs),.dat (.int k),s3,s4,s5]=.ok (false,[.dat (sD fs),.dat (sD fs),.dat (.int k),s3,s4,s5]):=by
  refine jmI (jel (b:=true) ?_) (jmI ?_ (jel (b:=true) (jcg (ds:=[tu f.1,tu f.1]) (as2 (e0 0 s3 (.inl rfl)) (e0 1 s3 (.inr rfl))) (jsb (W:=W) (n:=n) f.1))))
  ·rw[evT,e 0 s3 (.inl rfl)];rfl
  ·simp only[evT,evE]at e ⊢;have:=e 0 s3 (.inl rfl);simp only[juL]at this ⊢;rw[this];rfl
 obtain⟨t4,t5,el⟩:=jfL (W:=W) (n:=n) (A:=.dat (sD fs)) (B:=.dat (sD fs)) (C:=.dat (.int k)) (D':=.dat (.tup (f.2.map tu))) f.2 s4 s5;refine⟨t4,t5,?_⟩;have e3:evE (jaa U W P (n + 2)) U (.var 3) [.dat (sD fs),.dat (sD fs),.dat (.int k),.dat (.tup (f.2.map tu)),s4,s5]=.ok (.dat (.tup (f.2.map tu)),[.dat (sD fs),.dat (sD fs),.dat (.int k),.dat (.tup (f.2.map tu)),s4,s5]):=jng rfl;have t2:evT (jaa U W P (n + 2)) U (.or (.not (.isi (.var 3) [.tuple])) (.cmp .ne (.blt .len (.var 3)) (.blt .len (.idx (.idx (.var 1) (.var 2)) (.lit (.int 1)))))) [.dat (sD fs),.dat (sD fs),.dat (.int k),.dat (.tup (f.2.map tu)),s4,s5]=.ok (false,[.dat (sD fs),.dat (sD fs),.dat (.int k),.dat (.tup (f.2.map tu)),s4,s5]):=by
  refine jmI rfl ?_;have h1:evE (jaa U W P (n + 2)) U (.blt .len (.var 3)) [.dat (sD fs),.dat (sD fs),.dat (.int k),.dat (.tup (f.2.map tu)),s4,s5]=.ok (.dat (.int (f.2.map tu).length),[.dat (sD fs),.dat (sD fs),.dat (.int k),.dat (.tup (f.2.map tu)),s4,s5]):=rfl;have h2:evE (jaa U W P (n + 2)) U (.blt .len (.idx (.idx (.var 1) (.var 2)) (.lit (.int 1)))) [.dat (sD fs),.dat (sD fs),.dat (.int k),.dat (.tup (f.2.map tu)),s4,s5]=.ok (.dat (.int (f.2.map tu).length),[.dat (sD fs),.dat (sD fs),.dat (.int k),.dat (.tup (f.2.map tu)),s4,s5]):=by
   rw[evE,e1 1 _ (.inr rfl)];rfl
  rw[evT,h1,R.bind_ok',h2];simp only[R.bind_ok',jam,jrV,jrW,beq_self_eq_true,Bool.not_true]
 unfold jaK;rw[jah (jeH t1),jah (jdk (e1 0 s3 (.inl rfl)) (by simp))]
 show evSs (jaa U W P (n + 2)) U W _ [.dat (sD fs),.dat (sD fs),.dat (.int k),.dat (.tup (f.2.map tu)),s4,s5]=_;rw[jah (jeH t2)];rw[jah (ρ':=[.dat (sD fs),.dat (sD fs),.dat (.int k),.dat (.tup (f.2.map tu)),t4,t5]) (by
  have hi:evI (jaa U W P (n + 2)) U (.zip (.var 3) (.idx (.idx (.var 1) (.var 2)) (.lit (.int 1)))) [.dat (sD fs),.dat (sD fs),.dat (.int k),.dat (.tup (f.2.map tu)),s4,s5]=.ok (f.2.map fun k=>.tup [tu k,tu k],[],[.dat (sD fs),.dat (sD fs),.dat (.int k),.dat (.tup (f.2.map tu)),s4,s5]):=by
   rw[evI,e3,R.bind_ok',e1 1 _ (.inr rfl),R.bind_ok'];simp only[jdF,R.bind_ok',jhB,juQ]
  rw[evS,hi,R.bind_ok'];simp only[];rw[el];rfl)]
 simp only[evSs]
theorem jdL (fs:List Fan):∀(ks:List Nat) (s2 s3 s4 s5:Sl),(∀k∈ks,k < fs.length)->∃t2 t3 t4 t5,jaw (fun x r=>(putT [2] true x r).bind fun r'=>evSs (jaa U W P (n + 2)) U W jaK r') (ks.map fun (j:Nat)=>D.int j) [.dat (sD fs),.dat (sD fs),s2,s3,s4,s5]=.ok (.nx [.dat (sD fs),.dat (sD fs),t2,t3,t4,t5])
 |[],s2,s3,s4,s5,_=>⟨s2,s3,s4,s5,rfl⟩
 |k::ks,s2,s3,s4,s5,h=>by
  have hk:=h k jut;have hg:(fs.map fD)[k]?=some (fD fs[k]):=by rw[jux,jur hk];rfl
  obtain⟨u4,u5,e1⟩:=jiQ (W:=W) (n:=n) fs k fs[k] hg s3 s4 s5;obtain⟨t2,t3,t4,t5,e⟩:=jdL fs ks (.dat (.int k)) (.dat (.tup (fs[k].2.map tu))) u4 u5 fun j hj=>h j (jus _ hj);refine⟨t2,t3,t4,t5,?_⟩;simp only[juy,jaw];have e2:(putT [2] true (.int k) [.dat (sD fs),.dat (sD fs),s2,s3,s4,s5])=.ok [.dat (sD fs),.dat (sD fs),.dat (.int k),s3,s4,s5]:=rfl;rw[e2,R.bind_ok',e1,R.bind_ok'];exact e
theorem jqc (fs:List Fan)(hn:fs.length<=48):CD W (n + 3) 21 [.dat (sD fs),.dat (sD fs)]=.ok (.dat (.bl true),[.no,.no]):=by
 rw[CD,jag (d:=⟨2,6,jaT⟩) rfl rfl];obtain⟨t2,t3,t4,t5,e⟩:=jdL (W:=W) (n:=n) fs (List.range fs.length) .no .no .no .no fun k hk=>List.mem_range.mp hk;show (evSs (jaa U W P (n + 2)) U W jaT [.dat (sD fs),.dat (sD fs),.no,.no,.no,.no]).bind (jbD 2)=_;have t1:evT (jaa U W P (n + 2)) U (.or (.not (.isi (.var 0) [.tuple])) (.cmp .ne (.blt .len (.var 0)) (.blt .len (.var 1)))) [.dat (sD fs),.dat (sD fs),.no,.no,.no,.no]=.ok (false,[.dat (sD fs),.dat (sD fs),.no,.no,.no,.no]):=by
  refine jmI rfl ?_;simp_arith[sD,beq_self_eq_true]
 unfold jaT;rw[jah (jeH t1)];rw[jah (ρ':=[.dat (sD fs),.dat (sD fs),t2,t3,t4,t5]) (by
  have hr:jd8 (.int ((fs.map fD).length:Int))=.ok ((List.range fs.length).map fun (j:Nat)=>D.int j):=by rw[juA];exact jen _ (by omega)
  have hi:evI (jaa U W P (n + 2)) U (.rng1 (.blt .len (.var 1))) [.dat (sD fs),.dat (sD fs),.no,.no,.no,.no]=.ok ((List.range fs.length).map fun (j:Nat)=>D.int j,[],[.dat (sD fs),.dat (sD fs),.no,.no,.no,.no]):=by
   simp_arith[sD,hr]
  rw[evS,hi,R.bind_ok'];simp only[];rw[e];rfl)]
 simp_arith[]
 rfl
theorem jso {l:Nat}(fs:List Fan)(h1:1<=l)(h4:l<=4)(h:∀f∈fs,GF l f)(hn:fs.length<=48):CD (W + 2) (n + 8) 22 [.dat (sD fs)]=.ok (.dat (.bl true),[.no]):=by
 rw[CD,jag (d:=⟨1,3,ja7⟩) rfl rfl];have e1:=jai (G:=jaa U (W + 2) P (n + 7)) (U:=U) (k:=20) (ρ:=[.dat (sD fs),.no,.no]) (es:=.cons (.var 0) .nil) [sD fs] rfl (jsi (W:=W + 2) (n:=n + 6) fs h4 h hn);have e2:=jai (G:=jaa U (W + 2) P (n + 7)) (U:=U) (k:=9) (ρ:=[.dat (sD fs),.dat (.str (mk (txt fs))),.no]) (es:=.cons (.var 0) .nil) [sD fs] rfl (jp4 (W:=W) (n:=n + 3) fs h4 h hn);have e3:=jai (G:=jaa U (W + 2) P (n + 7)) (U:=U) (k:=13) (ρ:=[.dat (sD fs),.dat (.str (mk (txt fs))),.dat (.str (mk (txt fs)))]) (es:=.cons (.var 1) .nil) [.str (mk (txt fs))] rfl (jp9 (W:=W + 2) (n:=n) fs h1 h4 h hn);have e4:=jai (G:=jaa U (W + 2) P (n + 7)) (U:=U) (k:=21) (ρ:=[.dat (sD fs),.dat (.str (mk (txt fs))),.dat (.str (mk (txt fs)))]) (es:=.cons (.call 13 [] (.cons (.var 1) .nil)) (.cons (.var 0) .nil)) [sD fs,sD fs] (as2 e3 rfl) (jqc (W:=W + 2) (n:=n + 4) fs hn);show (evSs (jaa U (W + 2) P (n + 7)) U (W + 2) ja7 [.dat (sD fs),.no,.no]).bind (jbD 1)=_;unfold ja7;rw[jah (jdk e1 (by simp))]
 show (evSs (jaa U (W + 2) P (n + 7)) U (W + 2) _ [.dat (sD fs),.dat (.str (mk (txt fs))),.no]).bind (jbD 1)=_;rw[jah (jdk e2 (by simp))]
 show (evSs (jaa U (W + 2) P (n + 7)) U (W + 2) _ [.dat (sD fs),.dat (.str (mk (txt fs))),.dat (.str (mk (txt fs)))]).bind (jbD 1)=_;have e5:evE (jaa U (W + 2) P (n + 7)) U (.cmp .eq (.var 2) (.var 1)) [.dat (sD fs),.dat (.str (mk (txt fs))),.dat (.str (mk (txt fs)))]=.ok (.dat (.bl true),[.dat (sD fs),.dat (.str (mk (txt fs))),.dat (.str (mk (txt fs)))]):=by
  simp only[evE,juL,juM,R.bind_ok',jam,jm1,jm2,beq_self_eq_true]
 rw[jb7 (jc9 (jmJ rfl (jmJ e5 e4)))];rfl
theorem jhC {A B C D' E':Sl}{l:Nat}(h1:1<=l)(h4:l<=4):∀(ss:List (List Fan)) (s:Sl),(∀fs∈ss,(∀f∈fs,GF l f)/\fs.length<=48)->∃t,jaw (fun x r=>(putT [5] true x r).bind fun r'=>evSs (jaa U (W + 2) P (n + 8)) U (W + 2) jeo r') (ss.map sD) [A,B,C,D',E',s]=.ok (.nx [A,B,C,D',E',t])
 |[],s,_=>⟨s,rfl⟩
 |fs::ss,s,h=>by
  obtain⟨t,e⟩:=jhC (A:=A) (B:=B) (C:=C) (D':=D') (E':=E') h1 h4 ss (.dat (sD fs)) fun g hg=>h g (jus _ hg);obtain⟨g1,g2⟩:=h fs jut;refine⟨t,?_⟩;have tt:=jel (jcg (G:=jaa U (W + 2) P (n + 8)) (U:=U) (k:=22) (ρ:=[A,B,C,D',E',.dat (sD fs)]) (es:=.cons (.var 5) .nil) [sD fs] rfl (jso (W:=W) (n:=n) fs h1 h4 g1 g2));have e1:evSs (jaa U (W + 2) P (n + 8)) U (W + 2) jeo [A,B,C,D',E',.dat (sD fs)]=.ok (.nx [A,B,C,D',E',.dat (sD fs)]):=by
   unfold jeo;rw[jah (jeH tt)];simp only[evSs]
  simp only[juy,jaw];have e2:(putT [5] true (sD fs) [A,B,C,D',E',s])=.ok [A,B,C,D',E',.dat (sD fs)]:=rfl;rw[e2,R.bind_ok',e1,R.bind_ok'];exact e
theorem jtw (ns:List Int)(hW:64<=W):∃fin,CD W (n + 9) 23 [.dat (.lst (ns.map .int))]=.ok (.dat (.bl true),fin):=by
 obtain⟨w,rfl⟩:∃w,W=w + 2:=⟨W - 2,by omega⟩
 rw[CD,jag (d:=⟨1,6,jkO⟩) rfl rfl];have ec:cut (ns.map D.int) none (some (48:Int))=(ns.take 48).map D.int:=by rw[jem];exact congrArg _ (jhl ns 48)
 have ee:evE (jaa U (w + 2) P (n + 8)) U jkN [.dat (.lst (ns.map .int)),.no,.no,.no,.no,.no]=.ok (.tmp (.l ((ns.take 48).map fun x=>.int (x % 10 ^ 30))),[.dat (.lst (ns.map .int)),.no,.no,.no,.no,.no]):=by
  refine jaq (h:=D.int) (g:=fun x=>.int (x % 10 ^ 30)) (xs:=ns.take 48) (by simp_arith[ec]) (fun x _=>?_) fun s=>rfl
  show evE (jaa U (w + 2) P (n + 8)) U (.bin .mod (.var 0) (.bin .pow (.lit (.int 10)) (.lit (.int 30)))) [.dat (.int x)]=_;simp_arith[jr5];rfl
 obtain⟨cs,hcs,hc0⟩:∃cs:List Int,((ns.take 48).map fun x=>D.int (x % 10 ^ 30))=cs.map D.int/\cs.length<=48:=⟨(ns.take 48).map (· % 10 ^ 30),by simp only[List.map_map];rfl,by rw[juA,List.length_take];omega⟩
 rw[hcs]at ee;obtain⟨l,hl⟩:∃l:Nat,(l:Int)=1 + cs.sum % 4:=⟨(1 + cs.sum % 4).toNat,by omega⟩
 have h1:1<=l:=by omega
 have h4:l<=4:=by omega
 have es:=jsn (W:=w + 2) (n:=n + 5) cs l h1 h4 hc0;have hg:∀f∈cs.map (jk7 l),GF l f:=fun f hf=>by
  obtain⟨c,_,rfl⟩:=List.mem_map.mp hf;exact jqb l c
 have hgl:(cs.map (jk7 l)).length<=48:=by rw[juA];exact hc0
 generalize hfs:cs.map (jk7 l)=fs at es hg hgl;obtain⟨t,el⟩:=jhC (W:=w) (n:=n) (A:=.dat (.lst (ns.map .int))) (B:=.dat (.lst (cs.map D.int))) (C:=.dat (.int l)) (D':=.dat (sD fs)) (E':=.dat (sD (fs.take (fs.length / 2)))) h1 h4 [fs,fs.reverse,fs.take (fs.length / 2),[],fs] .no (fun gs hm=>by
  simp only[juu,juS,or_false]at hm;rcases hm with rfl | rfl | rfl | rfl | rfl
  ·exact⟨hg,hgl⟩
  ·exact⟨fun f hf=>hg f (List.mem_reverse.mp hf),by rw[List.length_reverse];exact hgl⟩
  ·exact⟨fun f hf=>hg f (List.mem_of_mem_take hf),by rw[List.length_take];omega⟩
  ·exact⟨fun f hf=>(by cases hf),Nat.zero_le _⟩
  ·exact⟨hg,hgl⟩)
 refine⟨[.no],?_⟩;show (evSs (jaa U (w + 2) P (n + 8)) U (w + 2) jkO [.dat (.lst (ns.map .int)),.no,.no,.no,.no,.no]).bind (jbD 1)=_;unfold jkO;rw[jah (jrU ee (by simp))]
 show (evSs (jaa U (w + 2) P (n + 8)) U (w + 2) _ [.dat (.lst (ns.map .int)),.own (.l (cs.map D.int)) false false,.no,.no,.no,.no]).bind (jbD 1)=_;rw[jah (ρ':=[.dat (.lst (ns.map .int)),.own (.l (cs.map D.int)) false false,.dat (.int l),.no,.no,.no]) (by simp_arith[bfD,jbk];rw[hl])]
 have e2:evE (jaa U (w + 2) P (n + 8)) U (.call 19 [] (.cons (.var 1) (.cons (.var 2) .nil))) [.dat (.lst (ns.map .int)),.own (.l (cs.map D.int)) false false,.dat (.int l),.no,.no,.no]=.ok (.dat (sD fs),[.dat (.lst (ns.map .int)),.dat (.lst (cs.map D.int)),.dat (.int l),.no,.no,.no]):=by
  rw[evE,as2 (v1:=.slot 1) (v2:=.dat (.int l)) (by rw[evE];rfl) (jng rfl),R.bind_ok']
  have ep:jaB [] [Vl.slot 1,.dat (.int l)] [.dat (.lst (ns.map .int)),.own (.l (cs.map D.int)) false false,.dat (.int l),.no,.no,.no]=.ok ([.dat (.lst (cs.map D.int)),.dat (.int l)],[none,none],[.dat (.lst (ns.map .int)),.dat (.lst (cs.map D.int)),.dat (.int l),.no,.no,.no]):=rfl;rw[ep,R.bind_ok'];show (CD (w + 2) (n + 8) 19 [.dat (.lst (cs.map D.int)),.dat (.int l)]).bind _=_;rw[es];rfl
 rw[jah (jdk e2 (by simp))]
 show (evSs (jaa U (w + 2) P (n + 8)) U (w + 2) _ [.dat (.lst (ns.map .int)),.dat (.lst (cs.map D.int)),.dat (.int l),.dat (sD fs),.no,.no]).bind (jbD 1)=_;have hcut:cut (fs.map fD) none (some (((fs.map fD).length:Int) / 2))=(fs.take (fs.length / 2)).map fD:=by
  rw[jem,juA];exact congrArg _ (jhl fs (fs.length / 2))
 rw[jah (ρ':=[.dat (.lst (ns.map .int)),.dat (.lst (cs.map D.int)),.dat (.int l),.dat (sD fs),.dat (sD (fs.take (fs.length / 2))),.no]) (by
  simp_arith[sD,hcut])]
 rw[jah (ρ':=[.dat (.lst (ns.map .int)),.dat (.lst (cs.map D.int)),.dat (.int l),.dat (sD fs),.dat (sD (fs.take (fs.length / 2))),t]) (by
  have hi:evI (jaa U (w + 2) P (n + 8)) U (.seq (.lst (.cons (.var 3) (.cons (.blt .revt (.var 3)) (.cons (.var 4) (.cons (.tup .nil) (.cons (.var 3) .nil))))))) [.dat (.lst (ns.map .int)),.dat (.lst (cs.map D.int)),.dat (.int l),.dat (sD fs),.dat (sD (fs.take (fs.length / 2))),.no]=.ok ([fs,fs.reverse,fs.take (fs.length / 2),[],fs].map sD,[],[.dat (.lst (ns.map .int)),.dat (.lst (cs.map D.int)),.dat (.int l),.dat (sD fs),.dat (sD (fs.take (fs.length / 2))),.no]):=by
   simp_arith[sD,jkG]
   rw[<-List.map_reverse];rfl
  rw[evS,hi,R.bind_ok'];simp only[];rw[el];rfl)]
 simp_arith[]
 rfl
end Law
namespace Law
open PySem L2 DJ
theorem ja2 {K:Frag}{mg:Str->Option Value}{d:DefS}{b:Ss}{i f:Nat}{oc:Value}{od an:Option Addr}{sl:Array (Option Value)}{kV doc pm cd ct:Value}(x:Str)(e:d.name=x)(hm:mg x=some (.ref f))(l:K.lookup f=some ⟨oc,od,.func (PySem.W.fnOf x x (defArgs d.st) (defBody d.st) (defScope d.st) .none kV doc pm an cd ct),sl⟩)
  (c:PySem.W.codeIn K cd x=true) (k:PySem.W.keepIn K (.ref f)=true) (hb:BindP d) (hs:FnScope d.N d.ps (defScope d.st)) (ht:(mapO (trS T 60 false (defScope d.st).names d.N) (defBody d.st)).map toSs=some b) (hP:P[i]?=some ⟨d.ps.length,d.N.length,b⟩) :
  ∃f fd,mg d.name=some (.ref f)/\Fun K d.name d.name d.st f fd/\BindP d/\FnScope d.N d.ps (defScope d.st)/\∃ss,mapO (trS T 60 false (defScope d.st).names d.N) (defBody d.st)=some ss/\P[i]?=some ⟨d.ps.length,d.N.length,toSs ss⟩:=by
 subst e;obtain⟨ss,e1,e2⟩:=Option.map_eq_some_iff.mp ht;exact⟨f,_,hm,jqS l c k,hb,hs,ss,e1,by rw[e2];exact hP⟩
theorem jsp {K:Frag}{C:Addr}{v:ClassData}(h:PySem.W.clsIn K C=some v):(PySem.W.clsIn K C).isSome=true:=by rw[h];rfl
end Law
open PySem PySem.W PyProof.Rows Law DJ
set_option maxRecDepth 100000 in
set_option maxHeartbeats 0 in
theorem PySem.Challenge.cw_tallysets_k04_sets_written_holds : PySem.Challenge.rw_tallysets_k04_sets_written.Holds := by
 w_on;o_law;k_head;(case hw=>w_witness2)
 k_fill
 refine' DJ.jkw (l:=PySem.Challenge.rw_tallysets_k04_sets_written) (cl:=[?C0,?C1]) (U:=Law.U) (T:=Law.T) (DS:=Law.DS) (P:=Law.P) (fuel:=60) (W:=64) (n:=9) (i:=23) (x:="_law_script") (dl:=Law.d_law) rfl rfl ⟨rfl,by decide,by decide⟩ (fun w h Y=>PySem.W.kIn_of Y) rfl rfl rfl ?F (fun ns hl=>Law.jtw (W:=64) (n:=0) ns (ju7 _))
 case F=>
  intro w mg h X G;refine' ⟨rfl,rfl,rfl,(jcE (mg_none_of X G ?z0) (jcE (mg_none_of X G ?z1) (jcE (mg_none_of X G ?z2) (jcE (mg_none_of X G ?z3) (jcE (mg_none_of X G ?z4) (jcE (mg_none_of X G ?z5) (jcE (mg_none_of X G ?z6) (jcE (mg_none_of X G ?z7) (jcE (mg_none_of X G ?z8) (jcE (mg_none_of X G ?z9) (jcE (mg_none_of X G ?z10) (jcE (mg_none_of X G ?z11) (jcE (mg_none_of X G ?z12) (jcE (mg_none_of X G ?z13) (jcE (mg_none_of X G ?z14) (jcE (mg_none_of X G ?z15) (jcE (mg_none_of X G ?z16) (jcE (mg_none_of X G ?z17) (jcE (mg_none_of X G ?z18) (jcE (mg_none_of X G ?z19) (jcE (mg_none_of X G ?z20) jtb))))))))))))))))))))),?cons,From.at (jay ⟨?C0,rfl,mg_of X G ?e0⟩ (jay ⟨?C1,rfl,mg_of X G ?e1⟩ jku)),⟨(jcE ⟨?ga0,?hk0,?ca0,?y0,?y1,?mo0,?mb0,?m0_0,?mv0,jsp ?cd_0,?ty0⟩ (jcE ⟨?ga1,?hk1,?ca1,?y0,?y1,?mo1,?mb1,?m1_1,?mv1,jsp ?cd_1,?ty1⟩ jtb)),fun i j C D hi hj=>From.at (Q:=fun i C=>∀(j:Nat) (D:Addr),([?C0,?C1]:List Addr)[j]?=some D->mroIn _ C (.ref D)=some (Law.U i j)) (jay (From.at (jay ?m0_0 (jay ?m0_1 jku))) (jay (From.at (jay ?m1_0 (jay ?m1_1 jku))) jku)) i C hi j D hj⟩,(jcE ⟨⟨[.type "ValueError",.type "Exception",.type "BaseException",.type "object"],_,"ValueError.__new__",_,?xx0,F.excBase_ValueError⟩,"TallyError",?e0⟩ (jcE ⟨⟨[.type "ValueError",.type "Exception",.type "BaseException",.type "object"],_,"ValueError.__new__",_,?xx1,F.excBase_ValueError⟩,"NoText",?e1⟩ jtb)),From.at (jay (ja2 "is_number" rfl (mg_of X G ?a0) ?l0 ?c0 ?k0 jgw jgu jgv rfl) (jay (ja2 "is_tally" rfl (mg_of X G ?a1) ?l1 ?c1 ?k1 jir jip jiq rfl) (jay (ja2 "is_tally_as_long" rfl (mg_of X G ?a2) ?l2 ?c2 ?k2 jco jcm jcn rfl) (jay (ja2 "are_steps" rfl (mg_of X G ?a3) ?l3 ?c3 ?k3 jgz jgx jgy rfl) (jay (ja2 "is_fan" rfl (mg_of X G ?a4) ?l4 ?c4 ?k4 jm5 jm3 jm4 rfl) (jay (ja2 "is_set" rfl (mg_of X G ?a5) ?l5 ?c5 ?k5 jm8 jm6 jm7 rfl) (jay (ja2 "show_number" rfl (mg_of X G ?a6) ?l6 ?c6 ?k6 jer jep jeq rfl) (jay (ja2 "show_tally" rfl (mg_of X G ?a7) ?l7 ?c7 ?k7 jfr jfp jfq rfl) (jay (ja2 "show_fan" rfl (mg_of X G ?a8) ?l8 ?c8 ?k8 jiu jis jit rfl) (jay (ja2 "show_set" rfl (mg_of X G ?a9) ?l9 ?c9 ?k9 jix jiv jiw rfl) (jay (ja2 "read_number" rfl (mg_of X G ?a10) ?l10 ?c10 ?k10 jeu jes jet rfl) (jay (ja2 "read_tally" rfl (mg_of X G ?a11) ?l11 ?c11 ?k11 jfu jfs jft rfl) (jay (ja2 "read_fan" rfl (mg_of X G ?a12) ?l12 ?c12 ?k12 jiA jiy jiz rfl) (jay (ja2 "read_set" rfl (mg_of X G ?a13) ?l13 ?c13 ?k13 jiD jiB jiC rfl) (jay (ja2 "_law_whole" rfl (mg_of X G ?a14) ?l14 ?c14 ?k14 jfx jfv jfw rfl) (jay (ja2 "_law_row" rfl (mg_of X G ?a15) ?l15 ?c15 ?k15 jiG jiE jiF rfl) (jay (ja2 "_law_number" rfl (mg_of X G ?a16) ?l16 ?c16 ?k16 jex jev jew rfl) (jay (ja2 "_law_tally" rfl (mg_of X G ?a17) ?l17 ?c17 ?k17 jfA jfy jfz rfl) (jay (ja2 "_law_fan" rfl (mg_of X G ?a18) ?l18 ?c18 ?k18 jiJ jiH jiI rfl) (jay (ja2 "_law_set" rfl (mg_of X G ?a19) ?l19 ?c19 ?k19 jiM jiK jiL rfl) (jay (ja2 "_law_text" rfl (mg_of X G ?a20) ?l20 ?c20 ?k20 jgC jgA jgB rfl) (jay (ja2 "_law_alike" rfl (mg_of X G ?a21) ?l21 ?c21 ?k21 jfD jfB jfC rfl) (jay (ja2 "_law_told" rfl (mg_of X G ?a22) ?l22 ?c22 ?k22 jgF jgD jgE rfl) (jay (ja2 "law" rfl (mg_of X G ?a23) ?l23 ?c23 ?k23 jto jtm jtn rfl) jku))))))))))))))))))))))))⟩;case cons=>
   intro x d hx;simp only[Law.T,List.lookup_cons]at hx;split at hx
   ·rename_i e;cases hx;have e:x="MOST_NUMBERS":=by simpa using e
    subst e;refine' ⟨_,.int 4,mg_of X G ?qc0,⟨_,?rc0⟩,fun _ _=>by simp only[Rep]⟩
    case qc0=>k_is
    case rc0=>rfl
   split at hx
   ·rename_i e;cases hx;have e:x="NO_FANS":=by simpa using e
    subst e;refine' ⟨_,.str "-",mg_of X G ?qc1,⟨_,?rc1⟩,fun _ _=>by simp only[Rep]⟩
    case qc1=>k_is
    case rc1=>rfl
   split at hx
   ·rename_i e;cases hx;have e:x="FIGURES":=by simpa using e
    subst e;refine' ⟨_,.str "0123456789",mg_of X G ?qc2,⟨_,?rc2⟩,fun _ _=>by simp only[Rep]⟩
    case qc2=>k_is
    case rc2=>rfl
   split at hx
   ·rename_i e;cases hx;have e:x="GREATEST_READ":=by simpa using e
    subst e;refine' ⟨_,.int 1000000000000000,mg_of X G ?qc3,⟨_,?rc3⟩,fun _ _=>by simp only[Rep]⟩
    case qc3=>k_is
    case rc3=>rfl
   split at hx
   ·rename_i e;cases hx;have e:x="FIGURES_READ":=by simpa using e
    subst e;refine' ⟨_,.int 16,mg_of X G ?qc4,⟨_,?rc4⟩,fun _ _=>by simp only[Rep]⟩
    case qc4=>k_is
    case rc4=>rfl
   split at hx
   ·rename_i e;cases hx;have e:x="SHOWN_AT_ONCE":=by simpa using e
    subst e;refine' ⟨_,.int 1000000000000000,mg_of X G ?qc5,⟨_,?rc5⟩,fun _ _=>by simp only[Rep]⟩
    case qc5=>k_is
    case rc5=>rfl
   split at hx
   ·rename_i e;cases hx;have e:x="FIGURES_AT_ONCE":=by simpa using e
    subst e;refine' ⟨_,.int 15,mg_of X G ?qc6,⟨_,?rc6⟩,fun _ _=>by simp only[Rep]⟩
    case qc6=>k_is
    case rc6=>rfl
   ·cases hx
  all_goals (try first | k_is | (dsimp only;k_is))
  all_goals (try first | k_is | (dsimp only;k_is))
  all_goals (try first | k_exc | (dsimp only;k_exc))
