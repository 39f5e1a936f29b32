import PyProof.Rows.All
import Wide.All
import OpenK.AllK
import Wide.FinOn
import Lean
import PyProof.EqAt
import PyProof.EqKinds
import PyProof.TupleCall
import PySem.Challenge.RW_tallysets_k32_whole_balances_all
open List renaming getElem?_eq_getElem → jtH, mem_cons_of_mem → jtI, mem_cons_self → jtJ, mem_cons → jtK, size_toArray → jtL, getElem?_set → jtM, getElem?_map → jtN, map_cons → jtO, getD_eq_getElem?_getD → jtP, length_map → jtQ, length_cons → jtR, mem_append_right → jtS, mem_of_getElem? → jtT, getElem?_append_right → jtU, length_append → jtV, filterMap_cons → jtW, getElem?_eq_none → jtX, getElem?_append_left → jtY, getElem?_set_ne → jtZ, getElem?_cons_zero → jt0, getElem?_cons_succ → jt1, length_nil → jt2, mem_append_left → jt3, length_set → jt4, append_nil → jt5, append_assoc → jt6, not_mem_nil → jt7
open PySem renaming wpAny_bind → jt8, wpAny_pure → jt9, wpAny_ite_false → jua, wpAny_of_eq → jub, wpAny_newObj_type → juc, wpAny_holding → jud, wpAny_field → jue, wpAny_mono → juf
open PySem.Heap renaming get?_push_of_some → jug, lt_size → juh, get?_push_size → jui, get?_update_self → juj, get?_update_other → juk
open Nat renaming le_refl → jul, lt_of_lt_of_le → jum, ne_of_lt → jun, le_trans → juo, lt_irrefl → jup
open Bool renaming and_eq_true → juq, false_eq_true → jur, false_ne_true → jus
set_option linter.all false
set_option maxRecDepth 100000
set_option Elab.async false
set_option maxHeartbeats 4000000
set_option bootstrap.genMatcherCode false
set_option genSizeOfSpec false
set_option compiler.extract_closed false
local macro_rules | `(tactic| omega)=>`(tactic| first | lia | omega +splitDisjunctions)
set_option hygiene false
local macro_rules
| `(@0)=>`(by omega)
| `(@1)=>`(⟨rfl,rfl,rfl,by decide +kernel,rfl,by decide +kernel,by decide +kernel⟩)
| `(@2)=>`(model prog w)
| `(@3)=>`([.dat (.lst (r.map D.int)),.dat d1,.dat (tu f),.own (.l ((sb r f).map D.int)) false false])
| `(@4)=>`(model X.prog X.w)
| `(@5)=>`([.dat (cD A),.dat (tu [t]),.dat (.lst (F.map tu))])
| `(@6)=>`(by decide +kernel)
| `(@7)=>`(Str×NameKind)
| `(@8)=>`(.dat (tu [A.getD j 0]))
| `(@9)=>`(List Int)
| `(@10)=>`(.lst (ns.map D.int))
| `(@11)=>`(by simp)
| `(@12)=>`([.dat (tu A),.dat (.int t),.own (.l (A.map fun a=>tu [a])) false false])
| `(@13)=>`(cxComp X N scope s' H' fp E)
| `(@14)=>`(.asg 7 (.bin .add (.bin .mul (.bin .mod (.bin .add (.bin .add (.idx (.var 2) (.var 6)) (.bin .mul (.bin .mul (.var 5) (.var 5)) (.lit (.int 16807)))) (.bin .mul (.lit (.int 3)) (.var 5))) (.lit (.int 2147483629))) (.idx (.lst (.cons (.lit (.int 48271)) (.cons (.lit (.int 69621)) (.cons (.lit (.int 39373)) (.cons (.lit (.int 16807)) .nil))))) (.bin .mod (.var 5) (.lit (.int 4))))) (.lit (.int 7))))
set_option hygiene true
namespace L2
open PySem PySem.Spec PyProof.Rows
noncomputable abbrev Key:=Sum Int Str
noncomputable def jha:Key->Value->Bool
 |.inl k,v=>Value.isInt k v
 |.inr x,v=>Value.isStrOf x v
noncomputable def js4 (w:World):Key->Int
 |.inl k=>hashInt k
 |.inr x=>hashStr w x
theorem jao:∀{k:Key}{v:Value},jha k v=true->(∃i t,k=Sum.inl i/\v=Value.int i t)\/(∃x t,k=Sum.inr x/\v=Value.str x t)
 |.inl i,v,h=>by
  obtain⟨t,e⟩:=Value.isInt_shape (k:=i) (v:=v) h;exact .inl ⟨i,t,rfl,e⟩
 |.inr x,v,h=>by
  obtain⟨t,e⟩:=Value.isStrOf_shape (x:=x) (v:=v) h;exact .inr ⟨x,t,rfl,e⟩
theorem jii (i:Int)(t:Tok):jha (.inl i) (.int i t)=true:=by simp[jha,Value.isInt]
theorem jij (x:Str)(t:Tok):jha (.inr x) (.str x t)=true:=by simp[jha,Value.isStrOf]
theorem jpk (a b:Int):decide ((Sum.inl a:Key)=Sum.inl b)=(a==b):=by
 by_cases e:a=b
 ·subst e;simp
 ·have h:¬ (Sum.inl a:Key)=Sum.inl b:=fun q=>e (Sum.inl.inj q);rw[decide_eq_false h];exact(beq_eq_false_iff_ne.mpr e).symm
theorem jpl (a b:Str):decide ((Sum.inr a:Key)=Sum.inr b)=decide (a=b):=by
 by_cases e:a=b
 ·subst e;simp
 ·have h:¬ (Sum.inr a:Key)=Sum.inr b:=fun q=>e (Sum.inr.inj q);rw[decide_eq_false h,decide_eq_false e]
theorem jpm (a:Int)(b:Str):decide ((Sum.inl a:Key)=Sum.inr b)=false:=decide_eq_false (fun q=>nomatch q)
theorem jpn (a:Str)(b:Int):decide ((Sum.inr a:Key)=Sum.inl b)=false:=decide_eq_false (fun q=>nomatch q)
noncomputable def jaW (prog:Program)(w:World):PySem.KeyKind prog w Key where
 is:=jha
 hash:=js4 w
 inj:=fun v a b ha hb=>by
  rcases jao ha with ⟨i,t,rfl,rfl⟩ | ⟨x,t,rfl,rfl⟩
  ·rcases jao hb with ⟨j,u,rfl,e⟩ | ⟨y,u,rfl,e⟩
   ·injection e with e1 _;rw[e1]
   ·exact nomatch e
  ·rcases jao hb with ⟨j,u,rfl,e⟩ | ⟨y,u,rfl,e⟩
   ·exact nomatch e
   ·injection e with e1 _;rw[e1]
 byValue:=fun k v h=>by
  rcases jao h with ⟨i,t,rfl,rfl⟩ | ⟨x,t,rfl,rfl⟩ <;> rfl
 pyHash:=fun hv h=>by
  rcases jao hv with ⟨i,t,rfl,rfl⟩ | ⟨x,t,rfl,rfl⟩
  ·exact wpAny_pyHash_int h
  ·exact wpAny_pyHash_str h
 eqBool:=fun hu hv h=>by
  rcases jao hu with ⟨i,t,rfl,rfl⟩ | ⟨x,t,rfl,rfl⟩
  ·rcases jao hv with ⟨j,u,rfl,rfl⟩ | ⟨y,u,rfl,rfl⟩
   ·rw[jpk]at h;exact wpAny_eqBool_int h
   ·rw[jpm]at h;exact SeqAt.EqAt.int_str i t y u _ _ _ _ h
  ·rcases jao hv with ⟨j,u,rfl,rfl⟩ | ⟨y,u,rfl,rfl⟩
   ·rw[jpn]at h;exact SeqAt.EqAt.str_int x t j u _ _ _ _ h
   ·rw[jpl]at h;exact wpAny_eqBool_str h
 «strs»:=fun k x t v h=>by
  rcases jao h with ⟨i,u,rfl,e⟩ | ⟨y,u,rfl,e⟩
  ·exact nomatch e
  ·injection e with e1 _
   subst e1;cases v <;> rfl
theorem jfr (prog:Program)(w:World)(i:Int)(t:Tok):(jaW prog w).is (.inl i) (.int i t)=true:=jii i t
theorem jfs (prog:Program)(w:World)(x:Str)(t:Tok):(jaW prog w).is (.inr x) (.str x t)=true:=jij x t
end L2
namespace L2
open PySem PySem.Spec PyProof.Rows
inductive V where
 |non | bl (b:Bool) | int (i:Int) | str (x:Str) | byt (b:Array UInt8) | flt (b:UInt64) | ref (a:Addr) | ty (n:String)
 deriving DecidableEq
noncomputable def RelV:V->Value->Prop
 |.non,u=>u=Value.none
 |.bl b,u=>u=Value.bool b
 |.int i,u=>∃t,u=Value.int i t
 |.str x,u=>∃t,u=Value.str x t
 |.byt b,u=>∃t,u=Value.bytes b t
 |.flt b,u=>∃t,u=Value.float b t
 |.ref a,u=>u=Value.ref a
 |.ty n,u=>u=Value.type n
noncomputable abbrev Vals:List V->List Value->Prop:=Paired RelV
theorem Vals.length {xs:List V}{us:List Value}(r:Vals xs us):xs.length=us.length:=Paired.length r
theorem Vals.get:∀{xs:List V}{us:List Value}{i:Nat}{x:V},Vals xs us->xs[i]?=some x->∃u,us[i]?=some u/\RelV x u
 |_,_,_,_,.nil,e=>by simp at e
 |_,_,0,_,.cons r _,e=>by simp at e;subst e;exact⟨_,rfl,r⟩
 |_,_,i+1,x,.cons _ t,e=>by
  obtain⟨u,h1,h2⟩:=Vals.get (i:=i) (x:=x) t (by simpa using e)
  exact⟨u,by simpa using h1,h2⟩
theorem Vals.set {x:V}{u:Value}(r:RelV x u):∀{xs:List V}{us:List Value} (i:Nat),Vals xs us->Vals (xs.set i x) (us.set i u)
 |_,_,_,.nil=>.nil
 |_,_,0,.cons _ t=>.cons r t
 |_,_,i+1,.cons q t=>.cons q (Vals.set r i t)
theorem Vals.append {xs ys:List V}{us ws:List Value}(h:Vals xs us)(s:Vals ys ws):Vals (xs++ys) (us++ws):=by
 induction h with
 |nil=>exact s
 |cons r t ih=>exact .cons r ih
theorem Vals.take:∀{xs:List V}{us:List Value} (n:Nat),Vals xs us->Vals (xs.take n) (us.take n)
 |_,_,0,_=>.nil
 |_,_,_+1,.nil=>.nil
 |_,_,n+1,.cons r t=>.cons r (Vals.take n t)
theorem Vals.drop:∀{xs:List V}{us:List Value} (n:Nat),Vals xs us->Vals (xs.drop n) (us.drop n)
 |_,_,0,r=>r
 |_,_,_+1,.nil=>.nil
 |_,_,n+1,.cons _ t=>Vals.drop n t
noncomputable def jsK:Option V->Option Value->Prop
 |some v,some u=>RelV v u
 |none,none=>True
 |_,_=>False
noncomputable def KV {κ:Type}:List (κ×V)->List (κ×Value)->Prop:=Paired fun (p:κ×V) (q:κ×Value)=>p.1=q.1/\RelV p.2 q.2
noncomputable def kV:Key->V
 |.inl i=>.int i
 |.inr x=>.str x
inductive HO where
 |lst (xs:List V)
 |tup (xs:List V)
 |dK (kvs:List (Key×V)) | dT (kvs:List (List Key×Addr×Value)) (ep:Nat)
 |set (S:Int->Bool) (n:Nat)
 |ins (C dx:Addr) (fs:List (Str×V))
 |own (x:Addr)
 |xd (fs:List (Str×V))
 |met (f x:Addr)
 |rng (lo hi:Int)
 |frz (o:Obj) (u:HO)
 |tbl (ps:Array Value)
 |ext (φ:Heap->Prop)
noncomputable abbrev Hp:=Addr->Option HO
noncomputable def upd (H:Hp)(a:Addr)(o:HO):Hp:=fun b=>if b=a then some o else H b
theorem jah {H:Hp}{a:Addr}{o:HO}:upd H a o a=some o:=by unfold upd;rw[if_pos rfl]
theorem jac {H:Hp}{a b:Addr}{o:HO}(h:b≠a):upd H a o b=H b:=by unfold upd;rw[if_neg h]
theorem jab {H:Hp}{a b:Addr}{o:HO}(h:H a=some o)(h':H b=none):a≠b:=by
 intro e;subst e;rw[h]at h';cases h'
section
variable (P:Program) (w:World)
noncomputable def ObjOk (H:Hp)(h:Heap)(a:Addr):HO->Prop
 |.lst xs=>xs.length<=sizeLine/\∃(its:List Value) (n:Nat),Vals xs its/\h.get? a=some { cls:=.type "list",data:=.seq its.toArray n }
 |.tup xs=>xs.length<=sizeLine/\∃its:List Value,Vals xs its/\IsTup h a its.toArray
 |.dK kvs=>kvs.length<=sizeLine/\(a==sysModules)=false/\∃vs,KV kvs vs/\h.DictOf (jaW P w) a vs
 |.dT xs ep=>(a==sysModules)=false/\∃o es,h.get? a=some o/\o.ExactDict/\o.data=.dict es ep/\es.toList=xs.map (entryOfKey (tupleKind (jaW P w)))
 |.set S n=>h.SetOf (intKind P w) a S n
 |.ins C dx fs=>H dx=some (.own a)/\fs.length<=1000/\dx≠a/\h.get? a=some (PySem.W.instObj C dx) /\
   ∃mA,h.Ns1 dx mA/\(∀f,jsK (fs.lookup f) (mA f))/\PySem.Within mA (fs.map (·.1))
 |.own _=>∃o,h.get? a=some o
 |.xd fs=>∃mA,h.Ns1 a mA/\∀f,jsK (fs.lookup f) (mA f)
 |.rng lo hi=>∃t u v,h.get? a=some { cls:=.type "range",data:=.fields #[.int lo t,.int hi u,.int 1 v] }
 |.frz o u=>h.get? a=some o/\ObjOk H h a u
 |.tbl ps=>h.get? a=some { cls:=.none,data:=.fields ps }
 |.met f x=>h.get? a=some (PySem.W.methodObj (.ref f) (.ref x))
 |.ext φ=>φ h/\(∃o,h.get? a=some o)/\∀h1 h2:Heap,φ h1->(∀o,h1.get? a=some o->h2.get? a=some o)->φ h2
noncomputable def HOk (H:Hp)(h:Heap):Prop:=∀a o,H a=some o->ObjOk P w H h a o
end
section
variable {P:Program}{w:World}{H H':Hp}{h h':Heap}{a:Addr}{o:HO}
theorem ObjOk.lt (x:ObjOk P w H h a o):a<h.objs.size:=by
 cases o with
 |lst xs=>obtain⟨_,_,_,_,e⟩:=x;exact juh e
 |tup xs=>obtain⟨_,_,_,p⟩:=x;exact p.lt
 |dK kvs=>obtain⟨_,_,_,_,o,_,_,e,_⟩:=x;exact juh e
 |dT kvs ep=>obtain⟨_,o,_,e,_⟩:=x;exact juh e
 |set S n=>obtain⟨o,_,_,_,e,_⟩:=x;exact juh e
 |ins C dx fs=>obtain⟨_,_,_,e,_⟩:=x;exact juh e
 |own y=>obtain⟨_,e⟩:=x;exact juh e
 |xd fs=>obtain⟨_,⟨_,_,_,e,_⟩,_⟩:=x;exact juh e
 |rng lo hi=>obtain⟨_,_,_,e⟩:=x;exact juh e
 |frz ob u=>obtain⟨e,_⟩:=x;exact juh e
 |tbl ps=>exact juh (show h.get? a=some _ from x)
 |met f y=>exact juh (show h.get? a=some _ from x)
 |ext φ=>obtain⟨_,⟨_,e⟩,_⟩:=x;exact juh e
theorem Paired.mapP {α β:Type}{F G:α->β->Prop}{l₁:List α}{l₂:List β}(h:Paired F l₁ l₂)(f:∀a b,F a b->G a b):Paired G l₁ l₂:=by
 induction h with
 |nil=>exact .nil
 |cons r t ih=>exact .cons (f _ _ r) ih
theorem ObjOk.stay (x:ObjOk P w H h a o)(k:∀b u,(b=a\/H b=some (.own a))->h.get? b=some u->h'.get? b=some u)
  (ho:∀b,H b=some (.own a)->H' b=some (.own a)) (ht:∀b xs,H b=some (.tup xs)->H' b=some (.tup xs)):ObjOk P w H' h' a o:=by
 induction o with
 |lst xs=>obtain⟨z,its,n,r,e⟩:=x;exact⟨z,its,n,r,k _ _ (.inl rfl) e⟩
 |tup xs=>obtain⟨z,its,r,ob,e,c⟩:=x;exact⟨z,its,r,ob,k _ _ (.inl rfl) e,c⟩
 |dK kvs=>obtain⟨z,y,vs,r,ob,es,ep,e,c⟩:=x;exact⟨z,y,vs,r,ob,es,ep,k _ _ (.inl rfl) e,c⟩
 |dT kvs ep0=>
  obtain⟨y,ob,es,e,c⟩:=x;exact⟨y,ob,es,k _ _ (.inl rfl) e,c⟩
 |set S n=>obtain⟨ob,es,ep,t,e,c⟩:=x;exact⟨ob,es,ep,t,k _ _ (.inl rfl) e,c⟩
 |ins C dx fs=>
  obtain⟨d,z,ne,e,mA,⟨od,es,ep,e2,c⟩,r⟩:=x;exact⟨ho _ d,z,ne,k _ _ (.inl rfl) e,mA,⟨od,es,ep,k _ _ (.inr d) e2,c⟩,r⟩
 |own y=>obtain⟨ob,e⟩:=x;exact⟨ob,k _ _ (.inl rfl) e⟩
 |xd fs=>obtain⟨mA,⟨od,es,ep,e,c⟩,r⟩:=x;exact⟨mA,⟨od,es,ep,k _ _ (.inl rfl) e,c⟩,r⟩
 |rng lo hi=>obtain⟨t,u,v,e⟩:=x;exact⟨t,u,v,k _ _ (.inl rfl) e⟩
 |frz ob u ih=>obtain⟨e,q⟩:=x;exact⟨k _ _ (.inl rfl) e,ih q⟩
 |tbl ps=>
  have e:h.get? a=some { cls:=.none,data:=.fields ps }:=x;show h'.get? a=some { cls:=.none,data:=.fields ps };exact k a _ (.inl rfl) e
 |met f y=>
  have e:h.get? a=some (PySem.W.methodObj (.ref f) (.ref y)):=x;show h'.get? a=some (PySem.W.methodObj (.ref f) (.ref y));exact k a _ (.inl rfl) e
 |ext φ=>obtain⟨p,⟨o,e⟩,st⟩:=x;exact⟨st _ _ p fun o q=>k _ _ (.inl rfl) q,⟨o,k _ _ (.inl rfl) e⟩,st⟩
theorem HOk.lt (x:HOk P w H h)(e:H a=some o):a<h.objs.size:=(x a o e).lt
theorem HOk.fresh (x:HOk P w H h)(e:h.objs.size<=a):H a=none:=by
 cases q:H a with
 |none=>rfl
 |some u=>exact absurd (jum (x.lt q) e) (jup _)
theorem HOk.kept (x:HOk P w H h)(k:∀b u,h.get? b=some u->h'.get? b=some u):HOk P w H h':=fun a o e=>
 (x a o e).stay (fun b u _ q=>k b u q) (fun _ q=>q) fun _ _ q=>q
theorem HOk.laid (x:HOk P w H h)(k:∀b u,h.get? b=some u->h'.get? b=some u)(hp:h.objs.size<=a)(new:ObjOk P w (upd H a o) h' a o):HOk P w (upd H a o) h':=fun b u e=>by
 have hn:=x.fresh hp;by_cases hb:b=a
 ·subst hb;rw[jah]at e;cases e;exact new
 ·rw[jac hb]at e;exact(x b u e).stay (fun c v _ q=>k c v q) (fun c q=>by rw[jac (jab q hn)];exact q) fun c xs q=>by rw[jac (jab q hn)];exact q
end
noncomputable def Rd (H:Hp)(a:Addr)(u:HO):Prop:=H a=some u\/∃o,H a=some (.frz o u)
theorem Rd.ok {P:Program}{w:World}{H:Hp}{h:Heap}{a:Addr}{u:HO}(r:Rd H a u)(x:HOk P w H h):ObjOk P w H h a u:=by
 rcases r with r | ⟨o,r⟩
 ·exact x a u r
 ·obtain⟨_,q⟩:=x a _ r;exact q
noncomputable def Mut:Option HO->Prop
 |some (.lst _)=>True
 |some (.dK _)=>True
 |some (.dT _ _)=>True
 |some (.set _ _)=>True
 |some (.ins _ _ _)=>True
 |some (.ext _)=>True
 |_=>False
section
variable {P:Program}{w:World}{H:Hp}{h h':Heap}{x e:Addr}{o':HO}
theorem HOk.write (ok:HOk P w H h)(mu:Mut (H x))(he:e=x\/H e=some (.own x))(k:∀b u,b≠e->h.get? b=some u->h'.get? b=some u)(heo:∃u,h'.get? e=some u)
  (new:ObjOk P w (upd H x o') h' x o'):HOk P w (upd H x o') h':=fun b u q=>by
 have nown:∀c y,H c=some (.own y)->c≠x:=fun c y r z=>by subst z;rw[r]at mu;exact mu
 have ntup:∀c xs,H c=some (.tup xs)->c≠x:=fun c xs r z=>by subst z;rw[r]at mu;exact mu
 by_cases hb:b=x
 ·subst hb;rw[jah]at q;cases q;exact new
 ·rw[jac hb]at q;by_cases hbe:b=e
  ·have q':H b=some (.own x):=by
    rcases he with z | z
    ·exact absurd (hbe.trans z) hb
    ·rw[hbe];exact z
   rw[q]at q';cases q';obtain⟨v,hv⟩:=heo;exact⟨v,by rw[hbe];exact hv⟩
  ·refine(ok b u q).stay (fun c v hc r=>k c v ?_ r) (fun c r=>by rw[jac (nown c b r)];exact r) fun c xs r=>by rw[jac (ntup c xs r)];exact r
   rcases hc with rfl | hc
   ·exact hbe
   ·rintro rfl;rcases he with z | z
    ·exact nown c b hc z
    ·rw[hc]at z;cases z;exact hb rfl
end
structure Un (fs ex:List Addr)(H H':Hp)(h h':Heap):Prop where
 keep:∀b o,h.get? b=some o->H b=none->b ∉ fs->b ∉ ex->h'.get? b=some o
 slot:∀b o,h.get? b=some o->H b=none->b∈fs->b ∉ ex->∃sl,h'.get? b=some { o with slots:=sl }
 free:∀b o,h.get? b=some o->H b=none->b ∉ ex->H' b=none
 there:∀b o,h.get? b=some o->b ∉ ex->∃o',h'.get? b=some o'
 tups:∀b xs,H b=some (.tup xs)->H' b=some (.tup xs)
 frzs:∀b o u,H b=some (.frz o u)->H' b=some (.frz o u)
 tbls:∀b ps,H b=some (.tbl ps)->∃more,H' b=some (.tbl (ps++more))
section
variable {fs fs' ex ex':List Addr}{H H1 H2:Hp}{h h1 h2 h':Heap}{a x e:Addr}{o:HO}
theorem Un.any (u:Un fs ex H H1 h h1){b:Addr}{ob:Obj}(q:h.get? b=some ob)(n:H b=none)(hx:b ∉ ex):∃sl,h1.get? b=some { ob with slots:=sl }:=by
 by_cases hb:b∈fs
 ·exact u.slot b ob q n hb hx
 ·exact⟨ob.slots,u.keep b ob q n hb hx⟩
theorem Un.kept (k:∀b u,h.get? b=some u->h'.get? b=some u):Un fs ex H H h h':=
 ⟨fun b ob q _ _ _=>k b ob q,fun b ob q _ _ _=>⟨ob.slots,k b ob q⟩,fun _ _ _ n _=>n,fun b ob q _=>⟨ob,k b ob q⟩,fun _ _ q=>q,fun _ _ _ q=>q,fun _ ps q=>⟨#[],by rw[q];simp⟩⟩
theorem Un.refl:Un fs ex H H h h:=Un.kept fun _ _ q=>q
theorem Un.laid (k:∀b u,h.get? b=some u->h'.get? b=some u)(hp:h.objs.size<=a)(hn:H a=none):Un fs ex H (upd H a o) h h' where
 keep:=fun b u q _ _ _=>k b u q
 slot:=fun b u q _ _ _=>⟨u.slots,k b u q⟩
 free:=fun b u q n _=>by rw[jac (jun (jum (juh q) hp))];exact n
 there:=fun b u q _=>⟨u,k b u q⟩
 tups:=fun b xs q=>by rw[jac (jab q hn)];exact q
 frzs:=fun b u xs q=>by rw[jac (jab q hn)];exact q
 tbls:=fun b ps q=>⟨#[],by rw[jac (jab q hn),q];simp⟩
theorem Un.write (mu:Mut (H x))(he:e=x\/H e=some (.own x))(k:∀b u,b≠e->h.get? b=some u->h'.get? b=some u)(heo:∃u,h'.get? e=some u):Un fs ex H (upd H x o) h h':=by
 have hx:∀b,H b=none->b≠x:=fun b n z=>by subst z;rw[n]at mu;exact mu
 have hb:∀b,H b=none->b≠e:=fun b n z=>by
  subst z;rcases he with r | r
  ·exact hx b n r
  ·rw[n]at r;cases r
 have hm:∀b u,H b=some u->¬ Mut (some u)->b≠x:=fun b u q nm z=>by subst z;rw[q]at mu;exact nm mu
 refine⟨fun b u q n _ _=>k b u (hb b n) q,fun b u q n _ _=>⟨u.slots,k b u (hb b n) q⟩,fun b u q n _=>by rw[jac (hx b n)];exact n,fun b u q _=>?_,
  fun b xs q=>by rw[jac (hm b _ q fun z=>z)];exact q,fun b u xs q=>by rw[jac (hm b _ q fun z=>z)];exact q,fun b ps q=>⟨#[],by rw[jac (hm b _ q fun z=>z),q];simp⟩⟩
 by_cases hbe:b=e
 ·subst hbe;exact heo
 ·exact⟨u,k b u hbe q⟩
end
noncomputable def trk (h:Heap)(H:Hp):List Addr:=(List.range h.objs.size).filter fun a=>(H a).isSome
noncomputable def jkF (h:Heap)(H:Hp):Heap:=PySem.W.hideAll h (trk h H)
theorem jik (h:Heap)(H:Hp):(jkF h H).objs.size=h.objs.size:=PySem.W.hideAll_size _ _
theorem jkG {h:Heap}{H:Hp}{b:Addr}{o:Obj}(e:h.get? b=some o)(n:H b=none):(jkF h H).get? b=some o:=
 PySem.W.hideAll_get _ e fun hm=>by
  have q:(H b).isSome=true:=(List.mem_filter.mp hm).2;rw[n]at q;simp at q
theorem jm6 {h:Heap}{H:Hp}{b:Addr}{o:Obj}(e:(jkF h H).get? b=some o):h.get? b=some o/\H b=none:=by
 have e':h.get? b=some o:=PySem.W.of_hideAll (trk h H) e;refine⟨e',?_⟩;cases q:H b with
 |none=>rfl
 |some x=>
  have hm:b∈trk h H:=List.mem_filter.mpr ⟨List.mem_range.mpr (juh e'),by simp[q]⟩
  have z:(jkF h H).get? b=none:=PySem.W.hideAll_none (trk h H) hm;rw[z]at e;cases e
noncomputable def jm7 (g h:Heap)(L:Addr):List (Addr×Obj):=(List.range h.objs.size).filterMap fun a=>if a=L\/(g.get? a).isSome=true then none else (h.get? a).map fun o=>(a,o)
noncomputable def jbl (g h:Heap)(L d:Addr):List (Addr×Obj):=(jm7 g h L).filter fun p=>decide (p.1≠d)
end L2
namespace L2
open PySem PySem.Spec PyProof.Rows
structure Mod (K:PySem.W.Frag)(mg:Str->Option Value)(base:Heap):Prop where
 kin:K.In base
 glob:base.Ns mainGlobals mg
 blt:∃mb,base.Ns builtinsNs mb/\∀x:Str,x≠"__name__"->mb x=bootBuiltins x
 nolimit:base.NoLimit
structure Cx where
 prog:Program
 w:World
 K:PySem.W.Frag
 mg:Str->Option Value
 base:Heap
 A:Around
 N:List Str
 s₀:Shared
 H₀:Hp
 env:Env
 outer:List Env
 stack:List Env
 ex:List Addr
 fn:Str->Bool
 calm:Bool
 pn:List (Addr×Obj)
 xe:Value->Shared->Prop
noncomputable def frs (l:List Env):List Addr:=l.filterMap (·.frame)
noncomputable abbrev Cx.fs (X:Cx):List Addr:=frs X.outer
noncomputable def Vis (sc:Scope)(x:Str):Prop:=sc.names.lookup x=some .local\/sc.names.lookup x=some .cell\/sc.names.lookup x=some .free
noncomputable def Loc (sc:Scope)(x:Str):Prop:=sc.names.lookup x=some .local\/sc.names.lookup x=some .cell
noncomputable def Look (env:Env)(h:Heap)(m:Str->Option Value)(x:Str)(u:Value):Prop:=
 (env.kindOf x=some .local/\m x=some u)\/((env.kindOf x=some .cell\/env.kindOf x=some .free)/\∃c,env.cells.lookup x=some c/\h.IsCell c (some u))
structure Cx.Ok (X:Cx):Prop where
 mod:Mod X.K X.mg X.base
 kind:X.env.scope.kind=.function
 glob:X.env.globals=mainGlobals
 blt:X.env.builtins=builtinsNs
 above:X.s₀.heap.objs.size<=X.env.locals
 inj:∀x y c,X.env.cells.lookup x=some c->X.env.cells.lookup y=some c->x=y
 has:∀x,(X.env.kindOf x=some .cell\/X.env.kindOf x=some .free)->∃c,X.env.cells.lookup x=some c
 cab:∀x c,X.fn x=true->X.env.cells.lookup x=some c->X.s₀.heap.objs.size<=c
 hd:X.calm=true->X.A.handled=none
 frames:X.A.frames=some X.stack
 stk:X.stack=X.outer\/(X.stack=X.env::X.outer/\X.env.frame=some X.env.locals)
 exf:∀b∈X.ex,b≠X.env.locals/\∀x c,X.env.cells.lookup x=some c->c≠b
 bs:∀b o,X.base.get? b=some o->X.s₀.heap.get? b=some o/\X.H₀ b=none
 bsz:X.base.objs.size<=X.s₀.heap.objs.size
 noex:∀b o,X.base.get? b=some o->b ∉ X.ex
 exfs:∀b∈X.ex,b ∉ X.fs
 funs:X.s₀.heap.FunFrames X.base X.outer
 frf:∀b∈X.fs,X.H₀ b=none
structure Inv (X:Cx)(pins:List (Addr×Obj))(σ:List (Option V))(H:Hp)(s:Shared):Prop where
 ok:X.Ok
 os:s.os=X.s₀.os
 bare:AllBare s.gens
 base:Un X.fs X.ex X.H₀ H X.s₀.heap s.heap
 loc:∃m,s.heap.Ns X.env.locals m/\∀(i:Nat) (x:Str) (v:V),X.N[i]?=some x->σ[i]?=some (some v)->Vis X.env.scope x->∃u,RelV v u/\Look X.env s.heap m x u
 cell:∀x c,X.env.cells.lookup x=some c->∃v,s.heap.IsCell c v
 free:H X.env.locals=none
 freeC:∀x c,X.env.cells.lookup x=some c->H c=none
 pin:∀p∈X.pn++pins,s.heap.get? p.1=some p.2/\H p.1=none/\p.1≠X.env.locals/\p.1 ∉ X.fs/\∀v,p.2.data≠.cell v
 hok:HOk X.prog X.w H s.heap
 len:σ.length=X.N.length
section
variable {X:Cx}{pins:List (Addr×Obj)}{σ:List (Option V)}{H H':Hp}{s:Shared}{h':Heap}
theorem Cx.Ok.nofr (ok:X.Ok){b:Addr}{o:Obj}(e:X.base.get? b=some o):b ∉ X.fs:=fun hb=>by
 have:=(ok.funs.mem hb).1;rw[e]at this;cases this
theorem Inv.bs (I:Inv X pins σ H s):∀b o,X.base.get? b=some o->s.heap.get? b=some o/\H b=none:=fun b o e=>
 ⟨I.base.keep b o (I.ok.bs b o e).1 (I.ok.bs b o e).2 (I.ok.nofr e) (I.ok.noex b o e),I.base.free b o (I.ok.bs b o e).1 (I.ok.bs b o e).2 (I.ok.noex b o e)⟩
theorem Inv.bk (I:Inv X pins σ H s):∀b o,X.base.get? b=some o->s.heap.get? b=some o:=fun b o e=>(I.bs b o e).1
theorem Inv.mod (I:Inv X pins σ H s):Mod X.K X.mg X.base:=I.ok.mod
theorem Inv.kIn (I:Inv X pins σ H s):X.K.In s.heap:=I.ok.mod.kin.keeps I.bk
theorem Inv.lt (I:Inv X pins σ H s):X.env.locals<s.heap.objs.size:=let ⟨_,hn,_⟩:=I.loc;hn.lt
theorem Inv.sz (I:Inv X pins σ H s):X.s₀.heap.objs.size<=s.heap.objs.size:=juo I.ok.above (Nat.le_of_lt I.lt)
theorem Inv.nofs (I:Inv X pins σ H s){a:Addr}(h:s.heap.objs.size<=a):a ∉ X.fs:=fun hb=>by
 obtain⟨_,o,ho,_⟩:=I.ok.funs.mem hb;exact absurd (jum (juh ho) (juo I.sz h)) (jup _)
theorem Inv.cne (I:Inv X pins σ H s):∀x c,X.env.cells.lookup x=some c->c≠X.env.locals:=fun x c e z=>by
 obtain⟨v,o,ho,hd⟩:=I.cell x c e;obtain⟨m,⟨o',es,ep,ho',hd',_⟩,_⟩:=I.loc;rw[z,ho']at ho;cases ho;rw[hd']at hd;cases hd
theorem Inv.funs (I:Inv X pins σ H s):s.heap.FunFrames X.base X.outer:=by
 have all:∀(l:List Env),(∀b∈frs l,b∈X.fs)->X.s₀.heap.FunFrames X.base l->s.heap.FunFrames X.base l:=by
  intro l;induction l with
  |nil=>intro _ _;trivial
  |cons env r ih=>
   intro hs hl;obtain⟨hk,⟨L,o,hf,hn,ho,hd⟩,hr⟩:=hl;have hL:L∈X.fs:=hs L (by unfold frs;rw[jtW,hf];exact jtJ)
   obtain⟨sl,e⟩:=I.base.slot L o ho (I.ok.frf L hL) hL fun z=>I.ok.exfs L z hL;exact⟨hk,⟨L,_,hf,hn,e,hd⟩,ih (fun b hb=>hs b (by unfold frs;rw[jtW,hf];exact jtI _ hb)) hr⟩
 exact all X.outer (fun _ hb=>hb) I.ok.funs
theorem Inv.stack (I:Inv X pins σ H s):s.heap.FunFrames X.base X.stack:=by
 rcases I.ok.stk with e | ⟨e,hf⟩
 ·rw[e];exact I.funs
 ·rw[e];obtain⟨m,hn,_⟩:=I.loc;refine .cons (by rw[I.ok.kind];decide) hf hn ?_ I.funs
  exact Heap.get?_none_of_le (juo I.ok.bsz I.ok.above)
theorem Inv.stkSub (I:Inv X pins σ H s):∀b∈frs X.stack,b∈X.env.locals::X.fs:=fun b hb=>by
 rcases I.ok.stk with e | ⟨e,hf⟩
 ·rw[e]at hb;exact jtI _ hb
 ·rw[e]at hb;unfold frs at hb;rw[jtW,hf]at hb;exact hb
theorem Inv.stkFree (I:Inv X pins σ H s):∀b∈frs X.stack,H b=none:=fun b hb=>by
 rcases List.mem_cons.mp (I.stkSub b hb)with e | hb
 ·rw[e];exact I.free
 ·obtain⟨_,o,ho,_⟩:=I.ok.funs.mem hb;exact I.base.free b o ho (I.ok.frf b hb) fun z=>I.ok.exfs b z hb
theorem Inv.step {g':Array GenState}{t':Nat}{d':Drawn}{ch:List Addr}(I:Inv X pins σ H s)
  (hch:∀b∈ch,(b∈X.ex\/X.s₀.heap.objs.size<=b)/\b≠X.env.locals/\(∀x c,X.env.cells.lookup x=some c->c≠b)/\∀p∈X.pn++pins,p.1≠b)
  (keep:∀b o,b≠X.env.locals->b ∉ X.fs->b ∉ ch->s.heap.get? b=some o->H b=none->h'.get? b=some o)
  (slot:∀b o,b≠X.env.locals->b∈X.fs->b ∉ ch->s.heap.get? b=some o->H b=none->∃sl,h'.get? b=some { o with slots:=sl }) (free:∀b o,b ∉ ch->s.heap.get? b=some o->H b=none->H' b=none)
  (there:∀b o,b ∉ ch->s.heap.get? b=some o->∃o',h'.get? b=some o')
  (tups:∀b xs,H b=some (.tup xs)->H' b=some (.tup xs)) (frzs:∀b o u,H b=some (.frz o u)->H' b=some (.frz o u)) (tbls:∀b ps,H b=some (.tbl ps)->∃more,H' b=some (.tbl (ps++more)))
  (ns:∀m,s.heap.Ns X.env.locals m->h'.Ns X.env.locals m) (hok:HOk X.prog X.w H' h') (hg:AllBare g') :
  Inv X pins σ H' { s with heap:=h',gens:=g',drawn:=d',toks:=t' }:=by
 have neL:∀b o,X.s₀.heap.get? b=some o->b≠X.env.locals:=fun b o e=>jun (jum (juh e) I.ok.above);have neC:∀b o,X.s₀.heap.get? b=some o->b ∉ X.ex->b ∉ ch:=fun b o e hx hb=>by
  rcases (hch b hb).1 with z | z
  ·exact hx z
  ·exact absurd (jum (juh e) z) (jup _)
 have cellK:∀x c,X.env.cells.lookup x=some c->∀v,s.heap.IsCell c v->h'.IsCell c v:=fun x c e v ⟨o,ho,hd⟩=>by
  have nch:c ∉ ch:=fun z=>(hch c z).2.2.1 x c e rfl;by_cases hc:c∈X.fs
  ·obtain⟨sl,q⟩:=slot c o (I.cne x c e) hc nch ho (I.freeC x c e);exact⟨_,q,hd⟩
  ·exact⟨o,keep c o (I.cne x c e) hc nch ho (I.freeC x c e),hd⟩
 refine⟨I.ok,I.os,hg,⟨fun b o e n hb hx=>?_,fun b o e n hb hx=>?_,fun b o e n hx=>?_,fun b o e hx=>?_,fun b xs e=>tups b xs (I.base.tups b xs e),fun b o xs e=>frzs b o xs (I.base.frzs b o xs e),fun b ps e=>?_⟩,?_,fun x c e=>?_,?_,fun x c e=>?_,fun p hp=>?_,hok,I.len⟩
 ·exact keep b o (neL b o e) hb (neC b o e hx) (I.base.keep b o e n hb hx) (I.base.free b o e n hx)
 ·obtain⟨sl,e1⟩:=I.base.slot b o e n hb hx;obtain⟨sl',e2⟩:=slot b _ (neL b o e) hb (neC b o e hx) e1 (I.base.free b o e n hx);exact⟨sl',e2⟩
 ·obtain⟨o',e1⟩:=I.base.there b o e hx;exact free b o' (neC b o e hx) e1 (I.base.free b o e n hx)
 ·obtain⟨o',e1⟩:=I.base.there b o e hx;exact there b o' (neC b o e hx) e1
 ·obtain⟨m1,e1⟩:=I.base.tbls b ps e;obtain⟨m2,e2⟩:=tbls b _ e1;exact⟨m1++m2,by rw[e2,Array.append_assoc]⟩
 ·obtain⟨m,hn,hl⟩:=I.loc;refine⟨m,ns m hn,fun i x v e1 e2 e3=>?_⟩;obtain⟨u,r,l⟩:=hl i x v e1 e2 e3;refine⟨u,r,?_⟩;rcases l with l | ⟨k,c,e,z⟩
  ·exact .inl l
  ·exact .inr ⟨k,c,e,cellK x c e _ z⟩
 ·obtain⟨v,z⟩:=I.cell x c e;exact⟨v,cellK x c e v z⟩
 ·obtain⟨m,⟨o,_,_,ho,_⟩,_⟩:=I.loc;exact free _ o (fun z=>(hch _ z).2.1 rfl) ho I.free
 ·obtain⟨v,o,ho,hd⟩:=I.cell x c e;exact free c o (fun z=>(hch c z).2.2.1 x c e rfl) ho (I.freeC x c e)
 ·obtain⟨e,n,ne,nf,d⟩:=I.pin p hp;have nch:p.1 ∉ ch:=fun z=>(hch p.1 z).2.2.2 p hp rfl;exact⟨keep p.1 p.2 ne nf nch e n,free p.1 p.2 nch e n,ne,nf,d⟩
theorem Inv.un {t':Nat}(I:Inv X pins σ H s)(u:Un X.fs [] H H' s.heap h')(hok:HOk X.prog X.w H' h'):Inv X pins σ H' { s with heap:=h',toks:=t' }:=by
 obtain⟨m,⟨o,es,ep,ho,r⟩,_⟩:=id I.loc;obtain⟨sl,hL⟩:=u.any ho I.free @11
 exact I.step (g':=s.gens) (d':=s.drawn) (ch:=[]) (fun _ z=>nomatch z) (fun b o _ hb _ e n=>u.keep b o e n hb @11) (fun b o _ hb _ e n=>u.slot b o e n hb @11) (fun b o _ e n=>u.free b o e n @11) (fun b o _ e=>u.there b o e @11) u.tups u.frzs u.tbls (fun m' hm=>by
  obtain⟨o',es',ep',ho',r'⟩:=hm;rw[ho]at ho';cases ho';exact⟨_,es',ep',hL,r'⟩) hok I.bare
theorem Inv.call {g':Array GenState}{t':Nat}{d':Drawn}{ch:List Addr}(I:Inv X pins σ H s)(u:Un (frs X.stack) ch H H' s.heap h')(hok:HOk X.prog X.w H' h')(hg:AllBare g')
  (hch:∀b∈ch,(b∈X.ex\/X.s₀.heap.objs.size<=b)/\b≠X.env.locals/\(∀x c,X.env.cells.lookup x=some c->c≠b)/\∀p∈X.pn++pins,p.1≠b) :
  Inv X pins σ H' { s with heap:=h',gens:=g',drawn:=d',toks:=t' }:=by
 obtain⟨m,⟨o,es,ep,ho,r⟩,_⟩:=id I.loc;obtain⟨sl,hL⟩:=u.any ho I.free fun z=>(hch _ z).2.1 rfl;exact I.step (ch:=ch) hch (fun b o hL hb hc e n=>u.keep b o e n (fun z=>(List.mem_cons.mp (I.stkSub b z)).elim hL hb) hc) (fun b o _ _ hc e n=>u.any e n hc) (fun b o hc e n=>u.free b o e n hc) (fun b o hc e=>u.there b o e hc) u.tups u.frzs u.tbls (fun m' hm=>by
  obtain⟨o',es',ep',ho',r'⟩:=hm;rw[ho]at ho';cases ho';exact⟨_,es',ep',hL,r'⟩) hok hg
theorem Inv.turned {t':Nat}{it:Addr}(I:Inv X pins σ H s)(k:∀b o,b≠it->s.heap.get? b=some o->h'.get? b=some o)(hn:H it=none)(hL:it≠X.env.locals)
  (h1:it∈X.ex\/X.s₀.heap.objs.size<=it) (h2:∀x c,X.env.cells.lookup x=some c->c≠it) (h3:∀p∈X.pn++pins,p.1≠it):Inv X pins σ H { s with heap:=h',toks:=t' }:=by
 have nit:∀b u,H b=some u->b≠it:=fun b u e z=>by rw[z,hn]at e;cases e
 refine I.step (g':=s.gens) (d':=s.drawn) (ch:=[it]) (fun b hb=>?_) (fun b o _ _ hc e _=>k b o (fun z=>hc (by simp[z])) e) (fun b o _ _ hc e _=>⟨o.slots,k b o (fun z=>hc (by simp[z])) e⟩) (fun _ _ _ _ n=>n)
  (fun b o hc e=>⟨o,k b o (fun z=>hc (by simp[z])) e⟩) (fun _ _ e=>e) (fun _ _ _ e=>e) (fun b ps e=>⟨#[],by rw[e];simp⟩) (fun m hm=>?_) (fun b u e=>?_) I.bare
 ·have e:b=it:=by simpa using hb
  subst e;exact⟨h1,hL,h2,h3⟩
 ·obtain⟨o,es,ep,ho,r⟩:=hm;exact⟨o,es,ep,k _ o (Ne.symm hL) ho,r⟩
 ·refine(I.hok b u e).stay (fun c v hc q=>k c v ?_ q) (fun _ q=>q) fun _ _ q=>q;rcases hc with z | z
  ·rw[z];exact nit b u e
  ·exact nit c _ z
theorem Inv.tok (I:Inv X pins σ H s)(t:Nat):Inv X pins σ H { s with toks:=t }:=I.un (h':=s.heap) (t':=t) Un.refl I.hok
theorem Inv.kept {t':Nat}(I:Inv X pins σ H s)(k:∀b u,s.heap.get? b=some u->h'.get? b=some u):Inv X pins σ H { s with heap:=h',toks:=t' }:=I.un (Un.kept k) (I.hok.kept k)
theorem Inv.laid {a:Addr}{o:HO}{t':Nat}(I:Inv X pins σ H s)(k:∀b u,s.heap.get? b=some u->h'.get? b=some u)(hp:s.heap.objs.size<=a)(new:ObjOk X.prog X.w (upd H a o) h' a o) :
  Inv X pins σ (upd H a o) { s with heap:=h',toks:=t' }:=I.un (Un.laid k hp (I.hok.fresh hp)) (I.hok.laid k hp new)
theorem Inv.write {x e:Addr}{o:HO}{t':Nat}(I:Inv X pins σ H s)(mu:Mut (H x))(he:e=x\/H e=some (.own x))(k:∀b u,b≠e->s.heap.get? b=some u->h'.get? b=some u)(heo:∃u,h'.get? e=some u)
  (new:ObjOk X.prog X.w (upd H x o) h' x o):Inv X pins σ (upd H x o) { s with heap:=h',toks:=t' }:=I.un (Un.write mu he k heo) (I.hok.write mu he k heo new)
theorem Inv.pins_of {pins':List (Addr×Obj)}(I:Inv X pins σ H s)(h:∀p∈pins',s.heap.get? p.1=some p.2/\H p.1=none/\p.1≠X.env.locals/\p.1 ∉ X.fs/\∀v,p.2.data≠.cell v):Inv X pins' σ H s:=
 ⟨I.ok,I.os,I.bare,I.base,I.loc,I.cell,I.free,I.freeC,fun p hp=>(List.mem_append.mp hp).elim (fun z=>I.pin p (jt3 _ z)) (h p),I.hok,I.len⟩
theorem jdS {N:List Str}(hN:N.Nodup){i j:Nat}{x:Str}(a:N[i]?=some x)(b:N[j]?=some x):i=j:=by
 obtain⟨h1,e1⟩:=List.getElem?_eq_some_iff.mp a;obtain⟨h2,e2⟩:=List.getElem?_eq_some_iff.mp b;exact(List.getElem_inj hN).mp (e1.trans e2.symm)
theorem jil {M:Model}{A:Around}{E:Value->Shared->Prop}{i:Nat}{x:Str}{v:V}{u:Value}{Q:Unit->Shared->Prop}(I:Inv X pins σ H s)(hN:X.N.Nodup)(hi:X.N[i]?=some x)(hx:Loc X.env.scope x)(r:RelV v u)
  (h:∀s',Inv X pins (σ.set i (some v)) H s'->(∃a,Heap.SameBut a s.heap s'.heap/\(a=X.env.locals\/X.env.cells.lookup x=some a))->Q () s') (hf:X.fn x=true\/X.env.scope.names.lookup x=some .local:=by first | exact .inl rfl | exact .inr rfl | assumption):wpAny M A (storeName X.env x u) Q E s:=by
 obtain⟨m,hn,hl⟩:=id I.loc;have hcls:(X.env.scope.kind == .class || (X.env.scope.kind == .module&&X.env.locals != X.env.globals))=false:=by rw[I.ok.kind];rfl
 have hiσ:i<σ.length:=by rw[I.len];exact(List.getElem?_eq_some_iff.mp hi).1
 have cne:=I.cne;have tracked:∀{a:Addr}{h':Heap},(∃o,s.heap.get? a=some o/\H a=none)->Heap.SameBut a s.heap h'->HOk X.prog X.w H h':=fun {a h'} ha hs b ob e=>by
  obtain⟨_,_,hfree⟩:=ha;refine(I.hok b ob e).stay (fun c w' hc q=>(hs.2 c ?_).trans q) (fun _ q=>q) fun _ _ q=>q;rintro rfl;rcases hc with rfl | hc
  ·rw[hfree]at e;cases e
  ·rw[hfree]at hc;cases hc
 rcases hx with hk | hk
 ·refine wpAny_storeName_local hk hn (fun h' hn' hs=>?_) hcls;obtain⟨oL,_,_,hoL,_⟩:=id hn;refine h _ ⟨I.ok,I.os,I.bare,⟨fun b o e n hb hx=>?_,fun b o e n hb hx=>?_,I.base.free,fun b o e hx=>?_,I.base.tups,I.base.frzs,I.base.tbls⟩,⟨_,hn',fun j y v' e1 e2 e3=>?_⟩,fun y c e=>?_,I.free,I.freeC,fun p hp=>?_,tracked ⟨oL,hoL,I.free⟩ hs,by simpa using I.len⟩ ⟨_,hs,.inl rfl⟩
  ·exact(hs.2 b (jun (jum (juh e) I.ok.above))).trans (I.base.keep b o e n hb hx)
  ·obtain⟨sl,e1⟩:=I.base.slot b o e n hb hx;exact⟨sl,(hs.2 b (jun (jum (juh e) I.ok.above))).trans e1⟩
  ·obtain⟨o',e1⟩:=I.base.there b o e hx;exact⟨o',(hs.2 b (jun (jum (juh e) I.ok.above))).trans e1⟩
  ·by_cases hj:j=i
   ·subst hj;rw[hi]at e1;cases e1;rw[List.getElem?_set_self hiσ]at e2;cases e2;exact⟨u,r,.inl ⟨hk,by simp⟩⟩
   ·rw[jtZ (Ne.symm hj)]at e2;obtain⟨u',r',q⟩:=hl j y v' e1 e2 e3;refine⟨u',r',?_⟩;rcases q with ⟨k,e⟩ | ⟨k,c,e,z⟩
    ·refine .inl ⟨k,?_⟩;have:y≠x:=fun e=>hj (jdS hN e1 (e ▸ hi));simp[this,e]
    ·exact .inr ⟨k,c,e,z.sameBut hs (cne y c e)⟩
  ·obtain⟨w',z⟩:=I.cell y c e;exact⟨w',z.sameBut hs (cne y c e)⟩
  ·obtain⟨e,n,ne,nf,d⟩:=I.pin p hp;exact⟨(hs.2 p.1 ne).trans e,n,ne,nf,d⟩
 ·have hfn:X.fn x=true:=by
   rcases hf with z | z
   ·exact z
   ·rw[z]at hk;cases hk
  obtain⟨c,hc⟩:=I.ok.has x (.inl hk);obtain⟨w',z⟩:=I.cell x c hc;refine wpAny_storeName_cell I.ok.kind hk hc z (fun h' hc' hs=>?_);obtain⟨oc,hoc,hocd⟩:=id z;refine h { s with heap:=h' } ⟨I.ok,I.os,I.bare,⟨fun b o e n hb hx=>?_,fun b o e n hb hx=>?_,I.base.free,fun b o e hx=>?_,I.base.tups,I.base.frzs,I.base.tbls⟩,⟨m,hn.sameBut hs (Ne.symm (cne x c hc)),fun j y v' e1 e2 e3=>?_⟩,fun y c' e=>?_,I.free,I.freeC,fun p hp=>?_,tracked ⟨oc,hoc,I.freeC x c hc⟩ hs,by simpa using I.len⟩ ⟨c,hs,.inr hc⟩
  ·exact(hs.2 b (jun (jum (juh e) (I.ok.cab x c hfn hc)))).trans (I.base.keep b o e n hb hx)
  ·obtain⟨sl,e1⟩:=I.base.slot b o e n hb hx;exact⟨sl,(hs.2 b (jun (jum (juh e) (I.ok.cab x c hfn hc)))).trans e1⟩
  ·obtain⟨o',e1⟩:=I.base.there b o e hx;exact⟨o',(hs.2 b (jun (jum (juh e) (I.ok.cab x c hfn hc)))).trans e1⟩
  ·by_cases hj:j=i
   ·subst hj;rw[hi]at e1;cases e1;rw[List.getElem?_set_self hiσ]at e2;cases e2;exact⟨u,r,.inr ⟨.inl hk,c,hc,hc'⟩⟩
   ·rw[jtZ (Ne.symm hj)]at e2;obtain⟨u',r',q⟩:=hl j y v' e1 e2 e3;refine⟨u',r',?_⟩;rcases q with q | ⟨k,c',e,z'⟩
    ·exact .inl q
    ·refine .inr ⟨k,c',e,z'.sameBut hs ?_⟩;rintro rfl;exact hj (jdS hN e1 (I.ok.inj _ _ _ e hc ▸ hi))
  ·by_cases hcc:c'=c
   ·subst hcc;exact⟨_,hc'⟩
   ·obtain⟨w2,z2⟩:=I.cell y c' e;exact⟨w2,z2.sameBut hs hcc⟩
  ·obtain⟨e,n,ne,nf,d⟩:=I.pin p hp;refine⟨(hs.2 p.1 ?_).trans e,n,ne,nf,d⟩;intro q;rw[q,hoc]at e;have q':oc=p.2:=Option.some.inj e;exact d w' (by rw[<-q'];exact hocd)
theorem jdT {M:Model}{A:Around}{E:Value->Shared->Prop}{i:Nat}{x:Str}{v:V}{u:Value}{Q:Unit->Shared->Prop}(I:Inv X pins σ H s)(hN:X.N.Nodup)(hi:X.N[i]?=some x)(hx:Loc X.env.scope x)(r:RelV v u)
  (h:∀s',Inv X pins (σ.set i (some v)) H s'->Q () s') (hf:X.fn x=true\/X.env.scope.names.lookup x=some .local:=by first | exact .inl rfl | exact .inr rfl | assumption):wpAny M A (storeName X.env x u) Q E s:=
 jil I hN hi hx r (fun s' I' _=>h s' I') hf
theorem Inv.call' {s':Shared}{ch:List Addr}(I:Inv X pins σ H s)(ho:s'.os=s.os)(u:Un (frs X.stack) ch H H' s.heap s'.heap)(hok:HOk X.prog X.w H' s'.heap)(hg:AllBare s'.gens)
  (hch:∀b∈ch,(b∈X.ex\/X.s₀.heap.objs.size<=b)/\b≠X.env.locals/\(∀x c,X.env.cells.lookup x=some c->c≠b)/\∀p∈X.pn++pins,p.1≠b):Inv X pins σ H' s':=by
 obtain⟨h',g',d',t',o'⟩:=s';have e:o'=s.os:=ho;subst e;exact I.call (g':=g') (t':=t') (d':=d') u hok hg hch
end
noncomputable abbrev XK:=Value->Option Addr->Hp->Prop
noncomputable abbrev St:=List (Option V)
noncomputable abbrev VK:=V->Hp->Prop
noncomputable abbrev TE:=St->Hp->VK->Prop
noncomputable abbrev TT:=St->Hp->(Bool->Hp->Prop)->Prop
noncomputable abbrev TA:=St->Hp->(List V->Hp->Prop)->Prop
structure Ends where
 nx:St->Hp->Prop
 rt:VK
 bk:St->Hp->Prop:=fun _ _=>False
 ct:St->Hp->Prop:=fun _ _=>False
noncomputable abbrev TS:=Ends->St->Hp->Prop
inductive EP (X:Cx) (pins:List (Addr×Obj)) (σ:St) (Q:VK) (u:Value) (s':Shared):Prop
 |mk (v:_) (H':_):(Inv X pins σ H' s')->(RelV v u)->(Q v H')->EP X pins σ Q u s'
noncomputable def TP (X:Cx)(pins:List (Addr×Obj))(σ:St)(Q:Bool->Hp->Prop)(b:Bool)(s':Shared):Prop:=∃H',Inv X pins σ H' s'/\Q b H'
inductive AP (X:Cx) (pins:List (Addr×Obj)) (σ:St) (Q:List V->Hp->Prop) (us:List Value) (s':Shared):Prop
 |mk (vs:_) (H':_):(Inv X pins σ H' s')->(Vals vs us)->(Q vs H')->AP X pins σ Q us s'
noncomputable def SP (X:Cx)(pins:List (Addr×Obj))(D:Ends)(f:Flow)(s':Shared):Prop:=
 match f with
 |.next=>∃σ' H',Inv X pins σ' H' s'/\D.nx σ' H'
 |.brk=>∃σ' H',Inv X pins σ' H' s'/\D.bk σ' H'
 |.cont=>∃σ' H',Inv X pins σ' H' s'/\D.ct σ' H'
 |.ret u=>∃v σ' H',Inv X pins σ' H' s'/\RelV v u/\D.rt v H'
noncomputable def PE (X:Cx)(e:Expr)(t:TE):Prop:=
 ∀(pins:List (Addr×Obj)) (s:Shared) (σ:St) (H:Hp) (Q:VK),Inv X pins σ H s->t σ H Q->wpAny @4 X.A (eval e X.env) (EP X pins σ Q) X.xe s
noncomputable def PT (X:Cx)(e:Expr)(t:TT):Prop:=
 ∀(pins:List (Addr×Obj)) (s:Shared) (σ:St) (H:Hp) (Q:Bool->Hp->Prop),Inv X pins σ H s->t σ H Q->wpAny @4 X.A (isTrue e X.env (eval e X.env)) (TP X pins σ Q) X.xe s
noncomputable def PW (X:Cx)(e:Expr)(t:TT):Prop:=
 ∀(whole:Sem Value) (pins:List (Addr×Obj)) (s:Shared) (σ:St) (H:Hp) (Q:Bool->Hp->Prop),Inv X pins σ H s->t σ H Q->wpAny @4 X.A (isTrue e X.env whole) (TP X pins σ Q) X.xe s
theorem PW.pt {X:Cx}{e:Expr}{t:TT}(h:PW X e t):PT X e t:=h _
noncomputable def PA (X:Cx)(es:List Expr)(t:TA):Prop:=
 ∀(pos:Pos) (pins:List (Addr×Obj)) (s:Shared) (σ:St) (H:Hp) (Q:List V->Hp->Prop),Inv X pins σ H s->t σ H Q->wpAny @4 X.A (spliced (backTo pos (starEach es X.env))) (AP X pins σ Q) X.xe s
noncomputable def PS (X:Cx)(st:Stmt)(t:TS):Prop:=
 ∀(pins:List (Addr×Obj)) (s:Shared) (σ:St) (H:Hp) (D:Ends),Inv X pins σ H s->t D σ H->wpAny @4 X.A (exec st X.env) (SP X pins D) X.xe s
noncomputable def PSs (X:Cx)(st:List Stmt)(t:TS):Prop:=
 ∀(pins:List (Addr×Obj)) (s:Shared) (σ:St) (H:Hp) (D:Ends),Inv X pins σ H s->t D σ H->wpAny @4 X.A (execs st X.env) (SP X pins D) X.xe s
theorem thn {α:Type}{t:Sem α}{Q Q':α->Shared->Prop}{M:Model}{A:Around}{E:Value->Shared->Prop}{s:Shared}(h:wpAny M A t Q E s)(hQ:∀a s,Q a s->Q' a s):wpAny M A t Q' E s:=juf h hQ fun _ _ x=>x
end L2
namespace L2
open PySem PySem.Spec PyProof.Rows
section
variable {X:Cx}
noncomputable def jpd (i:Nat):TE:=fun σ H Q=>∃v,σ[i]?=some (some v)/\Q v H
noncomputable def tC (v:V):TE:=fun _ H Q=>Q v H
theorem jgh {i:Nat}{x:Str}{pos:Pos}(hN:X.N[i]?=some x)(hv:Vis X.env.scope x)(hd:(x == ("__debug__":Str))=false:=by decide)(hcd:(x == ("__classdict__":Str))=false:=by decide):PE X (.Name x pos) (jpd i):=by
 intro pins s σ H Q I h;obtain⟨v,e,h⟩:=h;obtain⟨m,hn,hl⟩:=I.loc;obtain⟨u,r,l⟩:=hl i x v hN e hv;have fin:EP X pins σ Q u s:=⟨v,H,I,r,h⟩;rcases l with ⟨hk,hm⟩ | ⟨hk,c,hc,hcell⟩
 ·exact wpAny_Name (wpAny_loadName_local I.ok.kind hk hn hm fin) hd
 ·rcases hk with hk | hk
  ·exact wpAny_Name (wpAny_loadName_cell I.ok.kind hk hc hcell fin) hd
  ·exact wpAny_Name (wpAny_loadName_free I.ok.kind hk hc hcell fin hcd) hd
theorem jpo {i j pos}:PE X (.Constant (.int i) j pos) (tC (.int i)):=fun _ _ _ H _ I h=>wpAny_Constant_int ⟨.int i,H,I.tok _,⟨_,rfl⟩,h⟩
theorem jrt {b j pos}:PE X (.Constant (.bool b) j pos) (tC (.bl b)):=fun _ _ _ H _ I h=>Constant_bool ⟨.bl b,H,I,rfl,h⟩
theorem jpp {j pos}:PE X (.Constant .none j pos) (tC .non):=fun _ _ _ H _ I h=>Constant_none ⟨.non,H,I,rfl,h⟩
theorem jpq {x j pos}:PE X (.Constant (.str x) j pos) (tC (.str x)):=fun _ _ _ H _ I h=>Calls.Constant_str ⟨.str x,H,I.tok _,⟨_,rfl⟩,h⟩
noncomputable def Gl (X:Cx)(x:Str):Prop:=X.env.kindOf x=some .globalImplicit
theorem jft {E:Value->Shared->Prop}{pins:List (Addr×Obj)}{s:Shared}{σ:St}{H:Hp}{x:Str}{u:Value}{pos:Pos}{Q:Value->Shared->Prop}(I:Inv X pins σ H s)(hg:Gl X x)(hm:X.mg x=some u)(h:Q u s)
  (hd:(x == ("__debug__":Str))=false:=by decide):wpAny @4 X.A (eval (.Name x pos) X.env) Q E s:=
 Calls.Name_function_global I.ok.kind hg (Calls.loadGlobal_global (by rw[I.ok.glob];exact I.mod.glob.keeps I.bk) hm h) hd
theorem jdE {E:Value->Shared->Prop}{pins:List (Addr×Obj)}{s:Shared}{σ:St}{H:Hp}{x:Str}{u:Value}{pos:Pos}{Q:Value->Shared->Prop}(I:Inv X pins σ H s)(hg:Gl X x)(hm:X.mg x=none)(hv:bootBuiltins x=some u)(h:Q u s)
  (hn:x≠"__name__":=by decide) (hd:(x == ("__debug__":Str))=false:=by decide):wpAny @4 X.A (eval (.Name x pos) X.env) Q E s:=by
 obtain⟨mb,h1,h2⟩:=I.mod.blt;exact Calls.Name_function_global I.ok.kind hg (Calls.loadGlobal_builtin (by rw[I.ok.glob];exact I.mod.glob.keeps I.bk) hm (by rw[I.ok.blt];exact h1.keeps I.bk) ((h2 x hn).trans hv) h) hd
theorem jim {x:Str}{v:V}{u:Value}{pos:Pos}(hg:Gl X x)(hm:X.mg x=some u)(r:RelV v u)(hd:(x == ("__debug__":Str))=false:=by decide):PE X (.Name x pos) (tC v):=
 fun _ _ _ H _ I h=>jft I hg hm ⟨v,H,I,r,h⟩ hd
theorem jm8 {x:Str}{v:V}{u:Value}{pos:Pos}(hg:Gl X x)(hm:X.mg x=none)(hv:bootBuiltins x=some u)(r:RelV v u)(hn:x≠"__name__":=by decide)(hd:(x == ("__debug__":Str))=false:=by decide):PE X (.Name x pos) (tC v):=
 fun _ _ _ H _ I h=>jdE I hg hm hv ⟨v,H,I,r,h⟩ hn hd
variable {a b:Expr}{ta tb:TE}{pos:Pos}
variable {tA tB':TT}{jbl:List Expr}
noncomputable def jsL (t u:TT):TT:=fun σ H Q=>t σ H fun c H1=>if c=true then u σ H1 Q else Q false H1
noncomputable def tOr (t u:TT):TT:=fun σ H Q=>t σ H fun c H1=>if c=true then Q true H1 else u σ H1 Q
noncomputable def jsM (t:TT):TT:=fun σ H Q=>t σ H fun c H1=>Q (!c) H1
theorem jm9 (ha:PT X a tA):PW X (.BoolOp .And [a] pos) tA:=by
 intro wh pins s σ H Q I h;refine isTrue_and (thn (ha pins s σ H Q I h) fun c s1 e=>?_);cases c with
 |true=>exact isTrue_and_nil e
 |false=>exact e
theorem jpr (ha:PT X a tA):PW X (.BoolOp .Or [a] pos) tA:=by
 intro wh pins s σ H Q I h;refine isTrue_or (thn (ha pins s σ H Q I h) fun c s1 e=>?_);cases c with
 |false=>exact isTrue_or_nil e
 |true=>exact e
theorem jps (ha:PT X a tA)(hb:PW X (.BoolOp .And (b::jbl) pos) tB'):PW X (.BoolOp .And (a::b::jbl) pos) (jsL tA tB'):=by
 intro wh pins s σ H Q I h;refine isTrue_and (thn (ha pins s σ H _ I h) fun c s1 hzz=>?_);obtain⟨H1,I1,q1⟩:=hzz;cases c with
 |true=>exact hb wh pins s1 σ H1 Q I1 q1
 |false=>exact⟨H1,I1,q1⟩
theorem jru (ha:PT X a tA)(hb:PW X (.BoolOp .Or (b::jbl) pos) tB'):PW X (.BoolOp .Or (a::b::jbl) pos) (tOr tA tB'):=by
 intro wh pins s σ H Q I h;refine isTrue_or (thn (ha pins s σ H _ I h) fun c s1 hzz=>?_);obtain⟨H1,I1,q1⟩:=hzz;cases c with
 |true=>exact⟨H1,I1,q1⟩
 |false=>exact hb wh pins s1 σ H1 Q I1 q1
theorem jpt (ha:PT X a tA):PT X (.UnaryOp .Not a pos) (jsM tA):=by
 intro pins s σ H Q I h;exact isTrue_not (ha pins s σ H (fun c H1=>Q (!c) H1) I h)
noncomputable def jpu (ta tb:TE):TE:=fun σ H Q=>ta σ H fun x H1=>∃c,x=.bl c/\if c=true then tb σ H1 Q else Q (.bl false) H1
noncomputable def jsN (ta tb:TE):TE:=fun σ H Q=>ta σ H fun x H1=>∃c,x=.bl c/\if c=true then Q (.bl true) H1 else tb σ H1 Q
noncomputable def jpv (ta:TE):TE:=fun σ H Q=>ta σ H fun x H1=>∃c,x=.bl c/\Q (.bl (!c)) H1
theorem jmw {op}{t:TE}(h:PE X a t):PE X (.BoolOp op [a] pos) t:=fun pins s σ H Q I hw=>BoolOp_one (h pins s σ H Q I hw)
theorem jpw (ha:PE X a ta)(hb:PE X (.BoolOp .And (b::jbl) pos) tb):PE X (.BoolOp .And (a::b::jbl) pos) (jpu ta tb):=by
 intro pins s σ H Q I h;refine BoolOp_and (thn (ha pins s σ H _ I h) fun v s1 hzz=>?_);obtain⟨x,H1,I1,r1,q1⟩:=hzz;obtain⟨c,rfl,q1⟩:=q1;cases r1;refine wpAny_truthy_bool ?_;cases c with
 |true=>exact hb pins s1 σ H1 Q I1 q1
 |false=>exact⟨.bl false,H1,I1,rfl,q1⟩
theorem jrv (ha:PE X a ta)(hb:PE X (.BoolOp .Or (b::jbl) pos) tb):PE X (.BoolOp .Or (a::b::jbl) pos) (jsN ta tb):=by
 intro pins s σ H Q I h;refine BoolOp_or (thn (ha pins s σ H _ I h) fun v s1 hzz=>?_);obtain⟨x,H1,I1,r1,q1⟩:=hzz;obtain⟨c,rfl,q1⟩:=q1;cases r1;refine wpAny_truthy_bool ?_;cases c with
 |false=>exact hb pins s1 σ H1 Q I1 q1
 |true=>exact⟨.bl true,H1,I1,rfl,q1⟩
theorem jpx (ha:PE X a ta):PE X (.UnaryOp .Not a pos) (jpv ta):=by
 intro pins s σ H Q I h;refine UnaryOp_ (thn (ha pins s σ H _ I h) fun v s1 hzz=>?_);obtain⟨x,H1,I1,r1,q1⟩:=hzz;obtain⟨c,rfl,q1⟩:=q1;cases r1;exact not_of (wpAny_truthy_bool ⟨.bl (!c),H1,I1,rfl,q1⟩)
noncomputable def tIf (t:TT)(ta tb:TE):TE:=fun σ H Q=>t σ H fun c H1=>if c=true then ta σ H1 Q else tb σ H1 Q
theorem jkH {c:Expr}(hc:PT X c tA)(ha:PE X a ta)(hb:PE X b tb):PE X (.IfExp c a b pos) (tIf tA ta tb):=by
 intro pins s σ H Q I h;refine wpAny_IfExp (thn (hc pins s σ H _ I h) fun d s1 hzz=>?_);obtain⟨H1,I1,q1⟩:=hzz;cases d with
 |true=>exact ha pins s1 σ H1 Q I1 q1
 |false=>exact hb pins s1 σ H1 Q I1 q1
end
end L2
namespace L2
open PySem PySem.Spec PyProof.Rows
noncomputable def SqL (K:PySem.W.Frag)(H:Hp)(a:Addr)(xs:List V):Prop:=
 Rd H a (.lst xs) \/
  ∃(o:Obj) (its:Array Value) (n:Nat),K.lookup a=some o/\o.cls=.type "list"/\o.dict=none/\o.data=.seq its n/\its.size<=sizeLine/\Vals xs its.toList
noncomputable def SqT (K:PySem.W.Frag)(H:Hp)(a:Addr)(xs:List V):Prop:=
 Rd H a (.tup xs) \/
  ∃(o:Obj) (its:Array Value) (n:Nat),K.lookup a=some o/\o.cls=.type "tuple"/\o.data=.seq its n/\its.size<=sizeLine/\Vals xs its.toList
noncomputable def js5:Value->Option V
 |.none=>some .non
 |.bool b=>some (.bl b)
 |.int i _=>some (.int i)
 |.str x _=>some (.str x)
 |.bytes b _=>some (.byt b)
 |.float b _=>some (.flt b)
 |.ref a=>some (.ref a)
 |.type n=>some (.ty n)
 |_=>none
theorem RelV.abs {x:V}{u:Value}(r:RelV x u):js5 u=some x:=by
 cases x with
 |non=>cases r;rfl
 |bl _=>cases r;rfl
 |int _=>obtain⟨t,rfl⟩:=r;rfl
 |str _=>obtain⟨t,rfl⟩:=r;rfl
 |byt _=>obtain⟨t,rfl⟩:=r;rfl
 |flt _=>obtain⟨t,rfl⟩:=r;rfl
 |ref _=>cases r;rfl
 |ty _=>cases r;rfl
theorem RelV.inj {x y:V}{u:Value}(r:RelV x u)(q:RelV y u):x=y:=Option.some.inj (r.abs.symm.trans q.abs)
theorem Vals.inj {xs ys:List V}{us:List Value}(h:Vals xs us)(h':Vals ys us):xs=ys:=by
 induction h generalizing ys with
 |nil=>cases h';rfl
 |cons r t ih=>
  cases h' with
  |cons r' t'=>rw[r.inj r',ih t']
section
variable {X:Cx}{pins:List (Addr×Obj)}{σ:St}{H:Hp}{s:Shared}{a:Addr}{xs ys:List V}
theorem SqL.of {K:PySem.W.Frag}(h:H a=some (.lst xs)):SqL K H a xs:=.inl (.inl h)
theorem Inv.list (I:Inv X pins σ H s)(h:SqL X.K H a xs):∃its:List Value,Vals xs its/\PlainL s.heap a its.toArray/\xs.length<=sizeLine:=by
 rcases h with h | ⟨o,its,n,hk,hc,hd,hs,hz,r⟩
 ·obtain⟨z,its,n,r,e⟩:=h.ok I.hok;exact⟨its,r,⟨_,n,e,rfl,rfl,rfl⟩,z⟩
 ·refine⟨its.toList,r,⟨o,n,I.kIn a o hk,hc,hd,by simpa using hs⟩,?_⟩
  have e:=r.length;simp only[Array.length_toList]at e;omega
theorem Inv.tuple (I:Inv X pins σ H s)(h:SqT X.K H a xs):∃its:List Value,Vals xs its/\IsTup s.heap a its.toArray/\xs.length<=sizeLine:=by
 rcases h with h | ⟨o,its,n,hk,hc,hs,hz,r⟩
 ·obtain⟨z,its,r,p⟩:=h.ok I.hok;exact⟨its,r,p,z⟩
 ·refine⟨its.toList,r,⟨o,I.kIn a o hk,hc,n,by simpa using hs⟩,?_⟩
  have e:=r.length;simp only[Array.length_toList]at e;omega
theorem Inv.list_inj (I:Inv X pins σ H s)(h:SqL X.K H a xs)(h':SqL X.K H a ys):xs=ys:=by
 obtain⟨its,r,⟨o,n,e,_,_,d⟩,_⟩:=I.list h;obtain⟨its',r',⟨o',n',e',_,_,d'⟩,_⟩:=I.list h';rw[e]at e';cases e';rw[d]at d';injection d' with d1 _
 have:its=its':=by simpa using congrArg Array.toList d1
 subst this;exact r.inj r'
theorem Inv.tuple_inj (I:Inv X pins σ H s)(h:SqT X.K H a xs)(h':SqT X.K H a ys):xs=ys:=by
 obtain⟨its,r,⟨o,e,_,n,d⟩,_⟩:=I.tuple h;obtain⟨its',r',⟨o',e',_,n',d'⟩,_⟩:=I.tuple h';rw[e]at e';cases e';rw[d]at d';injection d' with d1 _
 have:its=its':=by simpa using congrArg Array.toList d1
 subst this;exact r.inj r'
end
section
variable {X:Cx}{pins:List (Addr×Obj)}{σ:St}{H:Hp}{s:Shared}{E:Value->Shared->Prop}
end
section
variable {X:Cx}{st:Stmt}{jbl:List Stmt}{t u:TS}{e:Expr}{te:TE}{pos:Pos}
noncomputable def jpy:TS:=fun D σ H=>D.nx σ H
noncomputable def js6 (t u:TS):TS:=fun D σ H=>t { D with nx:=u D } σ H
theorem jna:PSs X [] jpy:=fun _ _ σ H _ I h=>wpAny_execs_nil ⟨σ,H,I,h⟩
theorem jkI (h1:PS X st t)(h2:PSs X jbl u):PSs X (st::jbl) (js6 t u):=by
 intro pins s σ H D I h;refine wpAny_execs_cons (thn (h1 pins s σ H { D with nx:=u D } I h) fun f s1 q=>?_)
 cases f with
 |next=>
  obtain⟨σ',H',I',q⟩:=q;exact h2 pins s1 σ' H' D I' q
 |ret v=>exact q
 |brk=>exact q
 |cont=>exact q
noncomputable def jpz:TS:=fun D σ H=>D.bk σ H
noncomputable def jrw:TS:=fun D σ H=>D.ct σ H
theorem jnb:PS X (.Pass pos) jpy:=fun _ _ σ H _ I h=>wpAny_Pass ⟨σ,H,I,h⟩
theorem jkJ:PS X (.Break pos) jpz:=fun _ _ σ H _ I h=>wpAny_Break ⟨σ,H,I,h⟩
theorem jfu:PS X (.Continue pos) jrw:=fun _ _ σ H _ I h=>wpAny_Continue ⟨σ,H,I,h⟩
theorem Inv.quiet {pins:List (Addr×Obj)}{σ:St}{H:Hp}{s:Shared}(I:Inv X pins σ H s):interactive X.env=false:=by simp[interactive,I.ok.kind]
noncomputable def jrx (te:TE):TS:=fun D σ H=>te σ H fun _ H1=>D.nx σ H1
theorem jfv (he:PE X e te)(hs:swapsWith e none pos.line X.env=pure false:=by rfl):PS X (.Expr e pos) (jrx te):=by
 intro pins s σ H D I h;exact wpAny_Expr_any (thn (he pins s σ H _ I h) fun v s1 ⟨x,H1,I1,r1,q1⟩=>⟨σ,H1,I1,q1⟩) I.quiet hs
noncomputable def js7 (te:TE):TS:=fun D σ H=>te σ H D.rt
theorem jpA (he:PE X e te):PS X (.Return (some e) pos) (js7 te):=by
 intro pins s σ H D I h;exact wpAny_Return_some (thn (he pins s σ H _ I h) fun v s1 ⟨x,H1,I1,r1,q1⟩=>⟨x,σ,H1,I1,r1,q1⟩)
noncomputable def jry:TS:=fun D _ H=>D.rt .non H
theorem jnc:PS X (.Return none pos) jry:=fun _ _ σ H _ I h=>wpAny_Return_none ⟨.non,σ,H,I,rfl,h⟩
noncomputable def js8 (c:TT)(t u:TS):TS:=fun D σ H=>c σ H fun b H1=>if b=true then t D σ H1 else u D σ H1
theorem jrz {c:Expr}{a b:List Stmt}{tc:TT}(hc:PT X c tc)(ha:PSs X a t)(hb:PSs X b u):PS X (.If c a b pos) (js8 tc t u):=by
 intro pins s σ H D I h;refine wpAny_If (thn (hc pins s σ H _ I h) fun d s1 hzz=>?_);obtain⟨H1,I1,q1⟩:=hzz;cases d with
 |true=>exact ha pins s1 σ H1 D I1 q1
 |false=>exact hb pins s1 σ H1 D I1 q1
end
noncomputable abbrev TG:=V->St->Hp->(St->Hp->Prop)->Prop
noncomputable abbrev TGs:=List V->St->Hp->(St->Hp->Prop)->Prop
noncomputable def PG (X:Cx)(target:Expr)(t:TG):Prop:=
 ∀(pins:List (Addr×Obj)) (s:Shared) (σ:St) (H:Hp) (v:V) (u:Value) (Q:St->Hp->Prop),Inv X pins σ H s->RelV v u->t v σ H Q ->
  wpAny @4 X.A (assign target X.env u) (fun _ s'=>∃σ' H',Inv X pins σ' H' s'/\Q σ' H') X.xe s
noncomputable def PGs (X:Cx)(ts:List Expr)(t:TGs):Prop:=
 ∀(pins:List (Addr×Obj)) (s:Shared) (σ:St) (H:Hp) (vs:List V) (us:List Value) (Q:St->Hp->Prop),Inv X pins σ H s->Vals vs us->t vs σ H Q ->
  wpAny @4 X.A (assignInOrder ((assignEach ts X.env).map (·.2)) us) (fun _ s'=>∃σ' H',Inv X pins σ' H' s'/\Q σ' H') X.xe s
noncomputable abbrev jrA:=V->V->V->Hp->(Hp->Prop)->Prop
noncomputable def jrk (X:Cx)(t:jrA):Prop:=
 ∀(pins:List (Addr×Obj)) (s:Shared) (σ:St) (H:Hp) (o i v:V) (ov iv u:Value) (Q:Hp->Prop),Inv X pins σ H s->RelV o ov->RelV i iv->RelV v u->t o i v H Q ->
  wpAny @4 X.A (setItem ov iv u) (fun _ s'=>∃H',Inv X pins σ H' s'/\Q H') X.xe s
section
variable {X:Cx}{pos:Pos}
noncomputable def jnd (i:Nat):TG:=fun v σ H Q=>Q (σ.set i (some v)) H
theorem jin {i:Nat}{x:Str}(hN:X.N.Nodup)(hi:X.N[i]?=some x)(hx:Loc X.env.scope x)(hf:X.fn x=true\/X.env.scope.names.lookup x=some .local:=by first | exact .inl rfl | exact .inr rfl | assumption):PG X (.Name x pos) (jnd i):=by
 intro pins s σ H v u Q I r h;exact wpAny_assign_Name (jdT I hN hi hx r (fun s' I'=>⟨_,H,I',h⟩) hf)
noncomputable def jsO:TGs:=fun vs σ H Q=>vs=[]/\Q σ H
noncomputable def jpB (t:TG)(u:TGs):TGs:=fun vs σ H Q=>∃v r,vs=v::r/\t v σ H fun σ' H'=>u r σ' H' Q
theorem jne:PGs X [] jsO:=by
 intro pins s σ H vs us Q I r h;obtain⟨e,h⟩:=h;subst e;cases r;exact assignInOrder_nil ⟨σ,H,I,h⟩
theorem jkK {e:Expr}{es:List Expr}{t:TG}{u:TGs}(h1:PG X e t)(h2:PGs X es u)
  (hs:(assignEach (e::es) X.env).map (·.2)=assign e X.env::(assignEach es X.env).map (·.2):=by rfl):PGs X (e::es) (jpB t u):=by
 intro pins s σ H vs us Q I r h;obtain⟨v,vr,e1,h⟩:=h;subst e1;cases r with
 |cons r rr=>
  rw[hs];refine assignInOrder_cons (thn (h1 pins s σ H _ _ _ I r h) fun _ s1 hzz=>?_);obtain⟨σ1,H1,I1,q1⟩:=hzz;exact h2 pins s1 σ1 H1 _ _ Q I1 rr q1
noncomputable def js9 (K:PySem.W.Frag)(n:Nat)(t:TGs):TG:=fun v σ H Q=>∃a xs,v=.ref a/\SqT K H a xs/\xs.length=n/\t xs σ H Q
theorem jmx {es:List Expr}{k:Nat}{t:TGs}{n:Nat}(hc:X.calm=true)(h:PGs X es t)
  (hn:(assignEach es X.env).length=n:=by rfl) (hst:(assignEach es X.env).findIdx? (·.1)=none:=by rfl):PG X (.Tuple es k pos) (js9 X.K n t):=by
 intro pins s σ H v u Q I r hw;obtain⟨a,xs,e1,hq,hl,hw⟩:=hw;subst e1;cases r;obtain⟨its,rv,ht,hz⟩:=I.tuple hq;refine assign_Tuple_tuple (I.ok.hd hc) ht (by simp[hn,<-hl,rv.length]) hst fun h' hx=>?_
 have I1:Inv X pins σ H { s with heap:=h' }:=I.kept (t':=s.toks) fun b o e=>hx b o (jun (juh e)) e
 exact h pins _ σ H xs _ Q I1 (by simpa using rv) hw
noncomputable def jta (to ti:TE)(t:jrA):TG:=fun v σ H Q=>to σ H fun o H1=>ti σ H1 fun i H2=>t o i v H2 fun H3=>Q σ H3
theorem jpC {o i:Expr}{to ti:TE}{t:jrA}(ho:PE X o to)(hi:PE X i ti)(hs:jrk X t)
  (ha:∀v,assign (.Subscript o i pos) X.env v=(do
   let ov <-holding [v] (eval o X.env)
   let iv <-holding [v,ov] (eval i X.env)
   standAt pos
   holding [v,ov,iv] (setItem ov iv v)
   release [v,ov,iv] []):=by intro _;rfl):PG X (.Subscript o i pos) (jta to ti t):=by
 intro pins s σ H v u Q I r h;rw[ha];refine jt8 (jud (thn (ho pins s σ H _ I h) fun ov s1 hzz=>?_));obtain⟨x,H1,I1,r1,q1⟩:=hzz;refine jt8 (jud (thn (hi pins s1 σ H1 _ I1 q1) fun iv s2 hzz=>?_));obtain⟨y,H2,I2,r2,q2⟩:=hzz;refine jt8 (wpAny_standAt (jt8 (jud (thn (hs pins s2 σ H2 x y v ov iv u _ I2 r1 r2 r q2) fun _ s3 hzz=>?_))));obtain⟨H3,I3,q3⟩:=hzz;exact wpAny_release ⟨σ,H3,I3,q3⟩
noncomputable def jsP (te:TE)(g:TG):TS:=fun D σ H=>te σ H fun x H1=>g x σ H1 D.nx
theorem jmy {tg e:Expr}{te:TE}{g:TG}(he:PE X e te)(hg:PG X tg g)(hs:swapsWithSole [tg] e pos.line X.env=pure false:=by rfl)(hw:swappedStores [tg] e X.env=pure none:=by rfl)
  (h1:(assignEach [tg] X.env).map (·.2)=[assign tg X.env]:=by rfl):PS X (.Assign [tg] e pos) (jsP te g):=by
 intro pins s σ H D I h;refine wpAny_Assign_stores (thn (he pins s σ H _ I h) fun v s1 hzz=>?_) hs hw;obtain⟨x,H1,I1,r1,q1⟩:=hzz;rw[h1];exact thn (hg pins s1 σ H1 x v _ I1 r1 q1) fun _ s2 q=>q
theorem jpD {i:Nat}{x:Str}{e:Expr}{te:TE}{pos':Pos}(hN:X.N.Nodup)(hi:X.N[i]?=some x)(hx:Loc X.env.scope x)(he:PE X e te)(hs:swapsWith e (some (.Name x pos')) pos.line X.env=pure false:=by rfl)(hf:X.fn x=true\/X.env.scope.names.lookup x=some .local:=by first | exact .inl rfl | exact .inr rfl | assumption) :
  PS X (.Assign [.Name x pos'] e pos) (jsP te (jnd i)):=by
 intro pins s σ H D I h;refine wpAny_Assign_Name (thn (he pins s σ H _ I h) fun v s1 hzz=>?_) hs;obtain⟨y,H1,I1,r1,q1⟩:=hzz;exact jdT I1 hN hi hx r1 (fun s2 I2=>⟨_,H1,I2,q1⟩) hf
end
section
variable {X:Cx}{pos:Pos}
noncomputable def jpE (c:TT)(tb:TS):TS:=fun D σ H=>∃W:Nat->St->Hp->Prop,(∃m,W m σ H)/\∀m σ H,W m σ H ->
 c σ H fun b H1=>if b=true then ∃N:St->Hp->Prop,(∀σ' H',N σ' H'->∃m',m'<m/\W m' σ' H')/\tb { D with nx:=N,ct:=N,bk:=D.nx } σ H1 else D.nx σ H1
theorem jkL {c:Expr}{body:List Stmt}{tc:TT}{tb:TS}(hp:PassesOwn @4 X.A X.env X.xe)(hc:PT X c tc)(hb:PSs X body tb):PS X (.While c body [] pos) (jpE tc tb):=by
 intro pins s σ H D I h;obtain⟨W,⟨m0,w0⟩,turn⟩:=h;refine wpAny_While (codeAny_whileLoop (fun n s'=>∃σ' H',Inv X pins σ' H' s'/\W n σ' H') ?_ m0 ⟨σ,H,I,w0⟩);rintro n s1 ⟨σ1,H1,I1,w1⟩;refine wpAny_passesOwn hp (thn (hc pins s1 σ1 H1 _ I1 (turn n σ1 H1 w1)) fun b s2 hzz=>?_);obtain⟨H2,I2,q2⟩:=hzz;cases b with
 |true=>
  obtain⟨N,hN,q2⟩:=q2;rw[if_pos rfl];refine wpAny_passesOwn hp (thn (hb pins s2 σ1 H2 _ I2 q2) fun f s3 q3=>?_);cases f with
  |next=>
   obtain⟨σ3,H3,I3,n3⟩:=q3;obtain⟨m',hm,w3⟩:=hN σ3 H3 n3;exact⟨m',hm,σ3,H3,I3,w3⟩
  |cont=>
   obtain⟨σ3,H3,I3,n3⟩:=q3;obtain⟨m',hm,w3⟩:=hN σ3 H3 n3;exact⟨m',hm,σ3,H3,I3,w3⟩
  |brk=>exact q3
  |ret v=>exact q3
 |false=>
  rw[if_neg jus];exact wpAny_execs_nil ⟨σ1,H2,I2,q2⟩
end
structure It where
 go:Nat->Hp->Prop
 yld:Nat->Hp->V->Hp->Prop
 stop:Nat->Hp->Prop
noncomputable def FpOk (X:Cx)(pins:List (Addr×Obj))(H:Hp)(b:Addr):Prop:=
 H b=none/\b≠X.env.locals/\b ∉ X.fs/\(b∈X.ex\/X.s₀.heap.objs.size<=b)/\(∀x c,X.env.cells.lookup x=some c->c≠b)/\∀p∈X.pn++pins,p.1≠b
theorem Inv.fpOk {X:Cx}{pins:List (Addr×Obj)}{σ:St}{H H':Hp}{s:Shared}{b:Addr}(I:Inv X pins σ H s)(hb:s.heap.objs.size<=b)(hn:H' b=none):FpOk X pins H' b:=by
 refine⟨hn,Nat.ne_of_gt (jum I.lt hb),I.nofs hb,.inr (juo I.sz hb),fun x c e z=>?_,fun p hp z=>?_⟩
 ·obtain⟨v,q⟩:=I.cell x c e;exact absurd (jum q.lt (by rw[z];exact hb)) (jup _)
 ·exact absurd (jum (juh (I.pin p hp).1) (by rw[z];exact hb)) (jup _)
structure Turn (P:Program)(w:World)(K:PySem.W.Frag)(tg:Expr)(J:It)(fp:List Addr)(it:Addr)(tn:Nat->Heap->Prop):Prop where
 mem:it∈fp
 obj:∀i h,tn i h->∀b∈fp,∃o,h.get? b=some o/\∀v,o.data≠.cell v
 keep:∀i h h',tn i h->(∀b∈fp,∀o,h.get? b=some o->h'.get? b=some o)->tn i h'
 item:∀(X:Cx),X.prog=P->X.w=w->X.K=K->X.calm=true->∀(i:Nat) (pins:List (Addr×Obj)) (s:Shared) (σ:St) (H:Hp) (E:Value->Shared->Prop),Inv X pins σ H s->(∀b∈fp,FpOk X pins H b)->tn i s.heap->J.go i H ->
  wpAny (model P w) X.A (pyNext (.ref it)) (fun r s1=>∃u,r=some u /\
   wpAny (model P w) X.A (letOwnedTupleGo tg (.ref it) u) (fun _ s2=>∃x H',Inv X pins σ H' s2/\RelV x u/\J.yld i H x H'/\tn (i+1) s2.heap/\∀b∈fp,H' b=none) E s1) E s
 done:∀(X:Cx),X.prog=P->X.w=w->X.K=K->X.calm=true->∀(i:Nat) (pins:List (Addr×Obj)) (s:Shared) (σ:St) (H:Hp) (E:Value->Shared->Prop),Inv X pins σ H s->(∀b∈fp,FpOk X pins H b)->tn i s.heap->J.stop i H ->
  wpAny (model P w) X.A (pyNext (.ref it)) (fun r s1=>r=none/\Inv X pins σ H s1) E s
 self:∀(A:Around) (i:Nat) (s:Shared) (Q:Value->Shared->Prop) (E:Value->Shared->Prop),tn i s.heap->Q (.ref it) s->wpAny (model P w) A (pyIter (.ref it)) Q E s
noncomputable abbrev TI:=St->Hp->(It->Hp->Prop)->Prop
inductive PIE (X:Cx) (pins:List (Addr×Obj)) (σ:St) (tg:Expr) (R:It->Hp->Prop) (itv:Value) (s2:Shared):Prop
 |mk (it:Addr) (fp:List Addr) (tn:Nat->Heap->Prop) (J:It) (H':Hp):(itv=.ref it)->(Inv X pins σ H' s2)->(Turn X.prog X.w X.K tg J fp it tn)->(tn 0 s2.heap)->((∀b∈fp,FpOk X pins H' b))->(R J H')->PIE X pins σ tg R itv s2
noncomputable def PI (X:Cx)(tg iter:Expr)(wi:TI):Prop:=
 ∀(pins:List (Addr×Obj)) (s:Shared) (σ:St) (H:Hp) (R:It->Hp->Prop),Inv X pins σ H s->wi σ H R ->
  wpAny @4 X.A (eval iter X.env) (fun v s1=>wpAny @4 X.A (pyIter v) (PIE X pins σ tg R) X.xe s1) X.xe s
theorem jkM {M:Model}{A:Around}{E:Value->Shared->Prop}{s:Shared}{tg:Expr}{it:Addr}{u:Value}{o:Obj}{n:String}{vs:Array Value}{Q:Unit->Shared->Prop}(ho:s.heap.get? it=some o)(hc:o.cls=.type n)(hd:o.data=.fields vs)
  (hn:["enumerate","zip","dict_itemiterator","dict_reverseitemiterator","odict_iterator","itertools.zip_longest","itertools.pairwise"].contains n=false) (hQ:Q () s):wpAny M A (letOwnedTupleGo tg (.ref it) u) Q E s:=by
 unfold letOwnedTupleGo;cases tg <;> first
  |exact jt9 hQ
  |(cases u <;> first
    |exact jt9 hQ
    |(refine jt8 (wpAny_load ho ?_)
      rw[hc,hd];show wpAny M A (if (["enumerate","zip","dict_itemiterator","dict_reverseitemiterator","odict_iterator","itertools.zip_longest","itertools.pairwise"].contains n && vs[0]? == some (rawInt _))=true then _ else _) Q E s;rw[if_neg (by intro h;rw[hn,Bool.false_and]at h;cases h)]
      exact jt9 hQ))
noncomputable def Itl (K:PySem.W.Frag)(a:Addr):It:=
 ⟨fun i H=>∃xs x,SqL K H a xs/\xs[i]?=some x,fun i H x H'=>H'=H/\∀xs,SqL K H a xs->xs[i]?=some x,fun i H=>∃xs,SqL K H a xs/\xs.length<=i⟩
noncomputable def Itt (K:PySem.W.Frag)(a:Addr):It:=
 ⟨fun i H=>∃xs x,SqT K H a xs/\xs[i]?=some x,fun i H x H'=>H'=H/\∀xs,SqT K H a xs->xs[i]?=some x,fun i H=>∃xs,SqT K H a xs/\xs.length<=i⟩
noncomputable def Itr (lo:Int)(n:Nat):It:=⟨fun i _=>i<n,fun i H x H'=>H'=H/\x=.int (lo+i),fun i _=>n<=i⟩
theorem jio {P:Program}{w:World}{K:PySem.W.Frag}{tg:Expr}(a it:Addr):Turn P w K tg (Itl K a) [it] it (fun i h=>h.IsListIter it a i) where
 mem:=by simp
 obj:=fun i h st b hb=>by
  have e:b=it:=by simpa using hb
  subst e;obtain⟨o,e,c,d⟩:=st;exact⟨o,e,fun v z=>by rw[d]at z;cases z⟩
 keep:=fun i h h' st k=>st.at fun o e=>k it @11 o e
 item:=by
  intro X hP hw hK hc i pins s σ H E I hf st hg;subst hP hw hK;obtain⟨xs,x,hq,hx⟩:=hg;obtain⟨its,rv,p,hz⟩:=I.list hq;obtain⟨u,hu,ru⟩:=rv.get hx;obtain⟨f0,f1,f2,f3,f4,f5⟩:=hf it @11
  refine wpAny_pyNext_list_item st p.isList (x:=u) (by simpa using hu) fun h' st' sb=>?_
  have I1:Inv X pins σ H { s with heap:=h' }:=I.turned (t':=s.toks) (fun b o hb e=>(sb.2 b hb).trans e) f0 f1 f3 f4 f5
  obtain⟨o,e,c,d⟩:=id st';exact⟨u,rfl,jkM (s:={ s with heap:=h' }) e c d (by decide) ⟨x,H,I1,ru,⟨rfl,fun ys hy=>by rw[I.list_inj hy hq];exact hx⟩,st',fun b hb=>(hf b hb).1⟩⟩
 done:=by
  intro X hP hw hK hc i pins s σ H E I hf st hg;subst hP hw hK;obtain⟨xs,hq,hx⟩:=hg;obtain⟨its,rv,p,hz⟩:=I.list hq;obtain⟨f0,f1,f2,f3,f4,f5⟩:=hf it @11
  have hl:=rv.length;exact wpAny_pyNext_list_end (I.ok.hd hc) st p.isList (by simp;omega) fun h' eb=>⟨rfl,I.turned (t':=s.toks) (fun b o hb e=>eb b o hb e) f0 f1 f3 f4 f5⟩
 self:=fun _ _ _ _ _ st h=>wpAny_pyIter_listiter st h
theorem jhb {P:Program}{w:World}{K:PySem.W.Frag}{tg:Expr}(a it:Addr):Turn P w K tg (Itt K a) [it] it (fun i h=>h.IsTupleIter it a i) where
 mem:=by simp
 obj:=fun i h st b hb=>by
  have e:b=it:=by simpa using hb
  subst e;obtain⟨o,e,c,d⟩:=st;exact⟨o,e,fun v z=>by rw[d]at z;cases z⟩
 keep:=fun i h h' st k=>st.at fun o e=>k it @11 o e
 item:=by
  intro X hP hw hK hc i pins s σ H E I hf st hg;subst hP hw hK;obtain⟨xs,x,hq,hx⟩:=hg;obtain⟨its,rv,p,hz⟩:=I.tuple hq;obtain⟨u,hu,ru⟩:=rv.get hx;obtain⟨f0,f1,f2,f3,f4,f5⟩:=hf it @11
  refine wpAny_pyNext_tuple_item st (show s.heap.IsTuple a its.toArray from p) (x:=u) (by simpa using hu) fun h' st' sb=>?_
  have I1:Inv X pins σ H { s with heap:=h' }:=I.turned (t':=s.toks) (fun b o hb e=>(sb.2 b hb).trans e) f0 f1 f3 f4 f5
  obtain⟨o,e,c,d⟩:=id st';exact⟨u,rfl,jkM (s:={ s with heap:=h' }) e c d (by decide) ⟨x,H,I1,ru,⟨rfl,fun ys hy=>by rw[I.tuple_inj hy hq];exact hx⟩,st',fun b hb=>(hf b hb).1⟩⟩
 done:=by
  intro X hP hw hK hc i pins s σ H E I hf st hg;subst hP hw hK;obtain⟨xs,hq,hx⟩:=hg;obtain⟨its,rv,p,hz⟩:=I.tuple hq;obtain⟨f0,f1,f2,f3,f4,f5⟩:=hf it @11
  have hl:=rv.length;exact wpAny_pyNext_tuple_end (I.ok.hd hc) st (show s.heap.IsTuple a its.toArray from p) (by simp;omega) fun h' eb=>⟨rfl,I.turned (t':=s.toks) (fun b o hb e=>eb b o hb e) f0 f1 f3 f4 f5⟩
 self:=fun _ _ _ _ _ st h=>wpAny_pyIter_tupleiter st h
theorem jhc {P:Program}{w:World}{K:PySem.W.Frag}{tg:Expr}(it:Addr)(lo:Int)(n:Nat):Turn P w K tg (Itr lo n) [it] it (fun i h=>IsRangeIter h it (lo+(i:Nat) * 1) ((n:Int) - (i:Nat)) 1) where
 mem:=by simp
 obj:=fun i h st b hb=>by
  have e:b=it:=by simpa using hb
  subst e;exact⟨_,st,fun v z=>by
   have z':Data.fields _=Data.cell v:=z;cases z'⟩
 keep:=fun i h h' st k=>k it @11 _ st
 item:=by
  intro X hP hw hK hc i pins s σ H E I hf st hg;subst hP hw hK;obtain⟨f0,f1,f2,f3,f4,f5⟩:=hf it @11
  have W:=Walks.range (prog:=X.prog) (w:=X.w) (I.ok.hd hc) it lo 1 n;refine W.item i s _ _ hg st fun v h' tk hv st' kk=>?_;obtain⟨t,rfl⟩:=hv;have I1:Inv X pins σ H { s with heap:=h',toks:=tk }:=I.turned (fun b o hb e=>kk b o (by simpa using hb) e) f0 f1 f3 f4 f5
  refine⟨_,rfl,jkM (s:={ s with heap:=h',toks:=tk }) (n:="range_iterator") st' rfl rfl (by decide) ⟨.int (lo + i),H,I1,⟨t,?_⟩,⟨rfl,rfl⟩,st',fun b hb=>(hf b hb).1⟩⟩
  rw[Int.mul_one]
 done:=by
  intro X hP hw hK hc i pins s σ H E I hf st hg;subst hP hw hK;obtain⟨f0,f1,f2,f3,f4,f5⟩:=hf it @11
  exact wpAny_pyNext_range_end (I.ok.hd hc) st (by have:n<=i:=hg;omega) fun h' eb=>⟨rfl,I.turned (t':=s.toks) (fun b o hb e=>eb b o hb e) f0 f1 f3 f4 f5⟩
 self:=fun _ _ _ _ _ st h=>wpAny_pyIter_rangeiter st h
end L2
namespace L2
open PySem PySem.Spec PyProof.Rows
section
variable {X:Cx}{tg:Expr}
theorem jkN {pins:List (Addr×Obj)}{σ:St}{H:Hp}{s:Shared}{R:It->Hp->Prop}{E:Value->Shared->Prop}{lo hi:Int}{t u v:Tok}{tk:Nat}(I:Inv X pins σ H s)(h1:-(2 ^ 62)<=lo)(h2:lo<2 ^ 62)(h3:-(2 ^ 62)<=hi)(h4:hi<2 ^ 62)
  (q:R (Itr lo (hi - lo).toNat) H):wpAny @4 X.A (pyIter (.ref s.heap.objs.size)) (PIE X pins σ tg R) E { s with heap:=s.heap.push { cls:=.type "range",data:=.fields #[.int lo t,.int hi u,.int 1 v] },toks:=tk }:=by
 refine wpAny_pyIter_range (IsRange.new ..) (small_one h1 h2 h3 h4) ?_;have I1:Inv X pins σ H { s with heap:=s.heap.push { cls:=.type "range",data:=.fields #[.int lo t,.int hi u,.int 1 v] },toks:=tk }:=I.kept fun b o e=>jug _ e
 refine⟨(s.heap.push { cls:=.type "range",data:=.fields #[.int lo t,.int hi u,.int 1 v] }).objs.size,[(s.heap.push { cls:=.type "range",data:=.fields #[.int lo t,.int hi u,.int 1 v] }).objs.size],_,_,H,rfl,
  I1.kept (t':=tk) fun b o e=>jug _ e,jhc _ lo (hi - lo).toNat,?_,fun b hb=>?_,q⟩
 ·have e1:lo+((0:Nat):Int) * 1=lo:=by simp
  have e2:(((hi - lo).toNat:Nat):Int) - ((0:Nat):Int)=Builtin.Range.rangeSize lo hi 1:=by rw[rangeSize_one];split <;> omega
  show IsRangeIter _ _ (lo+((0:Nat):Int) * 1) ((((hi - lo).toNat:Nat):Int) - ((0:Nat):Int)) 1;rw[e1,e2];exact jui _ rfl
 ·have e:b=(s.heap.push { cls:=.type "range",data:=.fields #[.int lo t,.int hi u,.int 1 v] }).objs.size:=by simpa using hb
  subst e;exact I1.fpOk (jul _) (I1.hok.fresh (jul _))
noncomputable def jrB (ta:TA):TI:=fun σ H R=>ta σ H fun vs H1=>∃j:Int,vs=[.int j]/\-(2 ^ 62)<=j/\j<2 ^ 62/\R (Itr 0 j.toNat) H1
theorem jip {a:Expr}{ta:TA}{p pos:Pos}(hg:Gl X "range")(hm:X.mg "range"=none)(ha:PA X [a] ta)(hs:starEach [a] X.env=[(false,eval a X.env)]:=by rfl):PI X tg (.Call (.Name "range" p) [a] [] pos) (jrB ta):=by
 intro pins s σ H R I h;refine Call_ (jdE I hg hm boot_range (PyProof.Rows.callWith_type1 (thn (ha pos pins s σ H _ I h) fun us s1 hzz=>?_) hs rfl));obtain⟨vs,H1,I1,r1,q1⟩:=hzz;obtain⟨j,e,q1,q2,q⟩:=q1;subst e;cases r1 with
 |cons r rr=>
  cases rr;obtain⟨t,rfl⟩:=r;exact call_range_1 (jkN I1 @0 @0 q1 q2 (by simpa using q))
noncomputable def jbX (fp:List Addr)(h:Heap):List (Addr×Obj):=fp.filterMap fun b=>(h.get? b).map fun o=>(b,o)
theorem jbm {fp:List Addr}{h:Heap}{b:Addr}{o:Obj}(hb:b∈fp)(e:h.get? b=some o):(b,o)∈jbX fp h:=List.mem_filterMap.mpr ⟨b,hb,by rw[e];rfl⟩
theorem jiq {fp:List Addr}{h:Heap}{p:Addr×Obj}(hp:p∈jbX fp h):p.1∈fp/\h.get? p.1=some p.2:=by
 obtain⟨b,hb,e⟩:=List.mem_filterMap.mp hp;cases q:h.get? b with
 |none=>rw[q]at e;cases e
 |some o=>
  rw[q]at e;have e':(b,o)=p:=Option.some.inj e;subst e';exact⟨hb,q⟩
theorem Inv.pinned {pins:List (Addr×Obj)}{σ:St}{H:Hp}{s:Shared}{fp:List Addr}(I:Inv X pins σ H s)(hf:∀b∈fp,FpOk X pins H b)(ho:∀b∈fp,∃o,s.heap.get? b=some o/\∀v,o.data≠.cell v):Inv X (pins++jbX fp s.heap) σ H s:=
 I.pins_of fun p hp=>(List.mem_append.mp hp).elim (fun z=>I.pin p (jtS _ z)) fun z=>by
  obtain⟨hb,e⟩:=jiq z;obtain⟨f0,f1,f2,_⟩:=hf p.1 hb;obtain⟨o,e',d⟩:=ho p.1 hb;rw[e]at e';cases e';exact⟨e,f0,f1,f2,d⟩
theorem Inv.unpinned {pins pl:List (Addr×Obj)}{σ:St}{H:Hp}{s:Shared}(I:Inv X (pins++pl) σ H s):Inv X pins σ H s:=I.pins_of fun p hp=>I.pin p (jtS _ (jt3 _ hp))
end
end L2
namespace L2
open PySem PySem.Spec PyProof.Rows
noncomputable abbrev R2:=V->V->Hp->VK->Prop
noncomputable def OpR (X:Cx)(f:Value->Value->Sem Value)(r:R2):Prop:=
 ∀(pins:List (Addr×Obj)) (s:Shared) (σ:St) (H:Hp) (x y:V) (v u:Value) (Q:VK),Inv X pins σ H s->RelV x v->RelV y u->r x y H Q ->
  wpAny @4 X.A (f v u) (EP X pins σ Q) X.xe s
noncomputable def UnR (X:Cx)(f:Value->Sem Value)(r:V->Hp->VK->Prop):Prop:=
 ∀(pins:List (Addr×Obj)) (s:Shared) (σ:St) (H:Hp) (x:V) (v:Value) (Q:VK),Inv X pins σ H s->RelV x v->r x H Q ->
  wpAny @4 X.A (f v) (EP X pins σ Q) X.xe s
noncomputable def CallR (X:Cx)(f:Value)(r:List V->Hp->VK->Prop):Prop:=
 ∀(pins:List (Addr×Obj)) (s:Shared) (σ:St) (H:Hp) (xs:List V) (us:List Value) (Q:VK),Inv X pins σ H s->Vals xs us->r xs H Q ->
  wpAny @4 X.A (call f us) (EP X pins σ Q) X.xe s
noncomputable def jtb (X:Cx)(r:V->Hp->(Bool->Hp->Prop)->Prop):Prop:=
 ∀(pins:List (Addr×Obj)) (s:Shared) (σ:St) (H:Hp) (x:V) (v:Value) (Q:Bool->Hp->Prop),Inv X pins σ H s->RelV x v->r x H Q ->
  wpAny @4 X.A (truthy v) (TP X pins σ Q) X.xe s
noncomputable def tOp (r:R2)(ta tb:TE):TE:=fun σ H Q=>ta σ H fun x H1=>tb σ H1 fun y H2=>r x y H2 Q
noncomputable def tUn (r:V->Hp->VK->Prop)(ta:TE):TE:=fun σ H Q=>ta σ H fun x H1=>r x H1 Q
noncomputable def rI (C:Int->Int->Prop)(g:Int->Int->V):R2:=fun x y H Q=>∃i j,x=.int i/\y=.int j/\C i j/\Q (g i j) H
noncomputable def rI0 (g:Int->Int->V):R2:=fun x y H Q=>∃i j,x=.int i/\y=.int j/\Q (g i j) H
noncomputable def rU (g:Int->V):V->Hp->VK->Prop:=fun x H Q=>∃i,x=.int i/\Q (g i) H
section
variable {X:Cx}{a b c:Expr}{ta tb tc:TE}{pos:Pos}
theorem jrC (ha:PE X a ta)(hb:PE X b tb){pins:List (Addr×Obj)}{s:Shared}{σ:St}{H:Hp}{R:V->V->Hp->Prop}(I:Inv X pins σ H s)
  (h:ta σ H fun x H1=>tb σ H1 fun y H2=>R x y H2) {Q:Value->Shared->Prop}{f:Value->Value->Sem Value}
  (hf:∀v u s2 x y H2,Inv X pins σ H2 s2->RelV x v->RelV y u->R x y H2->wpAny @4 X.A (f v u) Q X.xe s2) :
  wpAny @4 X.A (eval a X.env) (fun v s₁=>wpAny @4 X.A (eval b X.env) (fun u s₂=>wpAny @4 X.A (f v u) Q X.xe s₂) X.xe s₁) X.xe s:=by
 refine thn (ha pins s σ H _ I h) fun v s1 hzz=>?_;obtain⟨x,H1,I1,r1,q1⟩:=hzz;refine thn (hb pins s1 σ H1 _ I1 q1) fun u s2 hzz=>?_;obtain⟨y,H2,I2,r2,q2⟩:=hzz;exact hf v u s2 x y H2 I2 r1 r2 q2
theorem jrD {op:Operator}{r:R2}(ho:OpR X (binaryOp op) r)(ha:PE X a ta)(hb:PE X b tb):PE X (.BinOp a op b pos) (tOp r ta tb):=by
 intro pins s σ H Q I h;exact wpAny_BinOp (jrC ha hb I h fun v u s2 x y H2 I2 rx ry q=>ho pins s2 σ H2 x y v u Q I2 rx ry q)
theorem jrE {op:UnaryOp}{r:V->Hp->VK->Prop}(ho:UnR X (unaryOp op) r)(ha:PE X a ta):PE X (.UnaryOp op a pos) (tUn r ta):=by
 intro pins s σ H Q I h;exact UnaryOp_ (thn (ha pins s σ H _ I h) fun v s1 ⟨x,H1,I1,r1,q1⟩=>ho pins s1 σ H1 x v Q I1 r1 q1)
theorem opI {f:Value->Value->Sem Value}{C:Int->Int->Prop}{g:Int->Int->Int}
  (rule:∀(i j:Int) (t u:Tok) (s:Shared) (Q:Value->Shared->Prop) (E:Value->Shared->Prop),C i j->Q (.int (g i j) s.toks) { s with toks:=s.toks+1 }->wpAny @4 X.A (f (.int i t) (.int j u)) Q E s) :
  OpR X f (rI C fun i j=>.int (g i j)):=by
 intro pins s σ H x y v u Q I rx ry h;obtain⟨i,j,rfl,rfl,hc,q⟩:=h;obtain⟨t,rfl⟩:=rx;obtain⟨t',rfl⟩:=ry;exact rule i j t t' s _ _ hc ⟨.int (g i j),H,I.tok _,⟨_,rfl⟩,q⟩
theorem jsQ {f:Value->Value->Sem Value}{g:Int->Int->Int}
  (rule:∀(i j:Int) (t u:Tok) (s:Shared) (Q:Value->Shared->Prop) (E:Value->Shared->Prop),Q (.int (g i j) s.toks) { s with toks:=s.toks+1 }->wpAny @4 X.A (f (.int i t) (.int j u)) Q E s) :
  OpR X f (rI0 fun i j=>.int (g i j)):=by
 intro pins s σ H x y v u Q I rx ry h;obtain⟨i,j,rfl,rfl,q⟩:=h;obtain⟨t,rfl⟩:=rx;obtain⟨t',rfl⟩:=ry;exact rule i j t t' s _ _ ⟨.int (g i j),H,I.tok _,⟨_,rfl⟩,q⟩
theorem jrl {f:Value->Value->Sem Value}{g:Int->Int->Bool}
  (rule:∀(i j:Int) (t u:Tok) (s:Shared) (Q:Value->Shared->Prop) (E:Value->Shared->Prop),Q (.bool (g i j)) s->wpAny @4 X.A (f (.int i t) (.int j u)) Q E s) :
  OpR X f (rI0 fun i j=>.bl (g i j)):=by
 intro pins s σ H x y v u Q I rx ry h;obtain⟨i,j,rfl,rfl,q⟩:=h;obtain⟨t,rfl⟩:=rx;obtain⟨t',rfl⟩:=ry;exact rule i j t t' s _ _ ⟨.bl (g i j),H,I,rfl,q⟩
noncomputable def jtc (i j:Int):Prop:=0<=j/\j<=1000000/\i.natAbs<2 ^ 64
noncomputable def CMul (i j:Int):Prop:=(-(2 ^ 64)<i/\i<2 ^ 64)\/(-(2 ^ 64)<j/\j<2 ^ 64)
theorem CMul.ok {i j:Int}(h:CMul i j):IntMulOk i j:=by
 rcases h with ⟨h1,h2⟩ | ⟨h1,h2⟩
 ·exact .of_left (intBits_le_64 h1 h2)
 ·exact .of_right (intBits_le_64 h1 h2)
theorem jpF:OpR X (binaryOp .Add) (rI0 fun i j=>.int (i+j)):=jsQ fun _ _ _ _ _ _ _ q=>add_int q
theorem jpG:OpR X (binaryOp .Sub) (rI0 fun i j=>.int (i - j)):=jsQ fun _ _ _ _ _ _ _ q=>sub_int q
theorem jpH:OpR X (binaryOp .Mult) (rI CMul fun i j=>.int (i * j)):=opI fun _ _ _ _ _ _ _ hc q=>mul_int q hc.ok
theorem jpI:OpR X (binaryOp .Mod) (rI (fun _ j=>0<j) fun i j=>.int (i%j)):=opI fun i j _ _ _ _ _ hc q=>by
 have h1:(0:Int)<j:=hc;exact mod_int' @0 (by rw[Int.fmod_eq_emod_of_nonneg i @0];exact q)
theorem jpJ:OpR X (binaryOp .Pow) (rI jtc fun i j=>.int (i ^ j.toNat)):=opI fun _ _ _ _ _ _ _ hc q=>pow_int_small hc.1 hc.2.1 hc.2.2 q
theorem unI {f:Value->Sem Value}{g:Int->Int}
  (rule:∀(i:Int) (t:Tok) (s:Shared) (Q:Value->Shared->Prop) (E:Value->Shared->Prop),Q (.int (g i) s.toks) { s with toks:=s.toks+1 }->wpAny @4 X.A (f (.int i t)) Q E s) :
  UnR X f (rU fun i=>.int (g i)):=by
 intro pins s σ H x v Q I rx h;obtain⟨i,rfl,q⟩:=h;obtain⟨t,rfl⟩:=rx;exact rule i t s _ _ ⟨.int (g i),H,I.tok _,⟨_,rfl⟩,q⟩
theorem jpK:UnR X (unaryOp .USub) (rU fun i=>.int (-i)):=unI fun _ _ _ _ _ q=>neg_int q
end
section
variable {X:Cx}{a b c:Expr}{ta tb tc:TE}{pos:Pos}
theorem jmz {pins:List (Addr×Obj)}{σ:St}{H:Hp}{s:Shared}{Q:VK}{k k':Bool}(I:Inv X pins σ H s)(q:Q (.bl k) H)(e:k=k'):EP X pins σ Q (.bool k') s:=by
 subst e;exact⟨.bl k,H,I,rfl,q⟩
theorem jrF:OpR X (compareOp .Lt) (rI0 fun i j=>.bl (decide (i<j))):=jrl fun _ _ _ _ _ _ _ q=>lt_int q
theorem jrG:OpR X (compareOp .LtE) (rI0 fun i j=>.bl (decide (i<=j))):=jrl fun _ _ _ _ _ _ _ q=>le_int q
theorem jrH:OpR X (compareOp .Gt) (rI0 fun i j=>.bl (decide (j<i))):=jrl fun _ _ _ _ _ _ _ q=>gt_int q
theorem jrI:OpR X (compareOp .GtE) (rI0 fun i j=>.bl (decide (j<=i))):=jrl fun _ _ _ _ _ _ _ q=>ge_int q
theorem jpL:OpR X (compareOp .Is) (fun x y H Q=>y=.non/\Q (.bl (decide (x=.non))) H):=by
 intro pins s σ H x y v u Q I rx ry h;obtain⟨rfl,q⟩:=h;cases ry;refine is_none_gen (jmz I q ?_);cases x <;> first
  |(cases rx;rfl)
  |(obtain⟨t,rfl⟩:=rx;rfl)
theorem jnf:OpR X (compareOp .IsNot) (fun x y H Q=>y=.non/\Q (.bl (!decide (x=.non))) H):=by
 intro pins s σ H x y v u Q I rx ry h;obtain⟨rfl,q⟩:=h;cases ry;refine isnot_none_gen (jmz I q ?_);cases x <;> first
  |(cases rx;rfl)
  |(obtain⟨t,rfl⟩:=rx;rfl)
theorem jng {op:CmpOp}{r:R2}(ho:OpR X (compareOp op) r)(ha:PE X a ta)(hb:PE X b tb)(hm:behindInMarks op b=false):PE X (.Compare a [op] [b] pos) (tOp r ta tb):=by
 intro pins s σ H Q I h;exact wpAny_Compare1 (jrC ha hb I h fun v u s2 x y H2 I2 rx ry q=>ho pins s2 σ H2 x y v u Q I2 rx ry q) hm
noncomputable def jrJ (t:TE):TT:=fun σ H Q=>t σ H fun x H'=>∃k,x=.bl k/\Q k H'
theorem jnh {op:CmpOp}{r:R2}(ho:OpR X (compareOp op) r)(ha:PE X a ta)(hb:PE X b tb)(hm:behindInMarks op b=false):PT X (.Compare a [op] [b] pos) (jrJ (tOp r ta tb)):=by
 intro pins s σ H Q I h;refine wpAny_isTrue_Compare1 (thn (ha pins s σ H _ I h) fun v s1 ⟨x,H1,I1,r1,q1⟩=>thn (hb pins s1 σ H1 _ I1 q1) fun u s2 ⟨y,H2,I2,r2,q2⟩=>
  thn (ho pins s2 σ H2 x y v u _ I2 r1 r2 q2) fun c s3 ⟨z,H3,I3,r3,k,e,q3⟩=>?_) hm
 subst e;cases r3;exact wpAny_truthy_bool ⟨H3,I3,q3⟩
noncomputable def jrK (K:PySem.W.Frag)(x:V)(H:Hp)(k:Bool):Prop:=
 match x with
 |.non=>k=false
 |.bl b=>k=b
 |.int i=>k=(i != 0)
 |.str y=>y.length<=sizeLine/\k=((y.length:Int) != 0)
 |.byt y=>y.size<=sizeLine/\k=((y.size:Int) != 0)
 |.ref p=>(∃xs,SqL K H p xs/\k=!xs.isEmpty)\/(∃xs,SqT K H p xs/\k=!xs.isEmpty)\/∃kvs,H p=some (.dK kvs)/\k=!kvs.isEmpty
 |_=>False
theorem jhd {κ:Type}{kvs:List (κ×V)}{vs:List (κ×Value)}(r:KV kvs vs):(!vs.isEmpty)=!kvs.isEmpty:=by
 cases r <;> rfl
theorem jdF {xs:List V}{its:List Value}(r:Vals xs its):(!its.toArray.isEmpty)=!xs.isEmpty:=by
 cases r <;> simp
theorem jcx:(sizeLine:Nat)<2 ^ 63:=by rw[sizeLine_eq];decide
theorem jpM:jtb X (fun x H Q=>∃k,jrK X.K x H k/\Q k H):=by
 intro pins s σ H x v Q I rx h;obtain⟨k,e,q⟩:=h;have hl:=jcx;have hs:sizeLine=16777216:=sizeLine_eq;cases x with
 |non=>
  cases rx;have e':k=false:=e;subst e';exact truthy_none ⟨H,I,q⟩
 |bl b=>
  cases rx;have e':k=b:=e;subst e';exact wpAny_truthy_bool ⟨H,I,q⟩
 |int i=>
  obtain⟨t,rfl⟩:=rx;have e':k=(i != 0):=e;subst e';exact PySem.P.truthy_int ⟨H,I,q⟩
 |str y=>
  obtain⟨t,rfl⟩:=rx;obtain⟨hy,e'⟩:y.length<=sizeLine/\k=((y.length:Int) != 0):=e;subst e';exact PySem.P.truthy_str @0 ⟨H,I.tok _,q⟩
 |byt y=>
  obtain⟨t,rfl⟩:=rx;obtain⟨hy,e'⟩:y.size<=sizeLine/\k=((y.size:Int) != 0):=e;subst e';exact PySem.W.truthy_bytes @0 ⟨H,I.tok _,q⟩
 |ref p=>
  cases rx;have e':(∃xs,SqL X.K H p xs/\k=!xs.isEmpty)\/(∃xs,SqT X.K H p xs/\k=!xs.isEmpty)\/∃kvs,H p=some (.dK kvs)/\k=!kvs.isEmpty:=e;rcases e' with ⟨xs,hx,e'⟩ | ⟨xs,hx,e'⟩ | ⟨kvs,hx,e'⟩
  ·subst e';obtain⟨its,r,pl,hz⟩:=I.list hx;have hlen:=r.length;exact wpAny_truthy_list pl.isList (by simp only[jtL];omega) ⟨H,I.tok _,by rw[jdF r];exact q⟩
  ·subst e';obtain⟨its,r,pl,hz⟩:=I.tuple hx;have hlen:=r.length;exact truthy_tuple pl (by simp only[jtL];omega) ⟨H,I.tok _,by rw[jdF r];exact q⟩
  ·subst e';obtain⟨hz,hS,vs,r,m⟩:kvs.length<=sizeLine/\(p==sysModules)=false/\∃vs,KV kvs vs/\s.heap.DictOf (jaW X.prog X.w) p vs:=I.hok p _ hx;have hlen:kvs.length=vs.length:=Paired.length r;exact wpAny_truthy_dict hS m @0 ⟨H,I.tok _,by rw[jhd r];exact q⟩
 |_=>exact(show False from e).elim
theorem jkO (ha:PE X a ta)(he:∀whole,isTrue a X.env whole=(do let v <-whole;standAt a.pos;holding [v] (truthy v))) :
  PT X a (fun σ H Q=>ta σ H fun x H'=>∃k,jrK X.K x H' k/\Q k H'):=by
 intro pins s σ H Q I h;exact isTrue_plain (thn (ha pins s σ H _ I h) fun v s1 ⟨x,H1,I1,r1,q1⟩=>jpM pins s1 σ H1 x v Q I1 r1 q1) (he _)
theorem jhe:OpR X (binaryOp .Add) (fun x y H Q=>∃i j,x=.str i/\y=.str j/\i.length+j.length<=sizeLine/\Q (.str (i++j)) H):=by
 intro pins s σ H x y v u Q I rx ry h;obtain⟨i,j,rfl,rfl,hz,q⟩:=h;obtain⟨t,rfl⟩:=rx;obtain⟨t',rfl⟩:=ry;exact add_str (fun t' tk=>⟨.str (i++j),H,I.tok _,⟨_,rfl⟩,q⟩) hz
theorem jbW {x:V}{us:List Value}(r:Vals [x] us):∃u,us=[u]/\RelV x u:=by
 cases r with
 |cons r1 r2=>cases r2;exact⟨_,rfl,r1⟩
theorem jrL {x y:V}{us:List Value}(r:Vals [x,y] us):∃u w',us=[u,w']/\RelV x u/\RelV y w':=by
 cases r with
 |cons r1 r2=>
  cases r2 with
  |cons r3 r4=>cases r4;exact⟨_,_,rfl,r1,r3⟩
theorem jkP:CallR X (.builtin "abs") (fun xs H Q=>∃i,xs=[.int i]/\Q (.int (if i < 0 then -i else i)) H):=by
 intro pins s σ H xs us Q I r h;obtain⟨i,rfl,q⟩:=h;obtain⟨u,rfl,t,rfl⟩:=jbW r;exact call_abs_int fun u tk=>⟨.int (if i<0 then -i else i),H,I.tok _,⟨_,rfl⟩,q⟩
theorem jir:CallR X (.type "int") (fun xs H Q=>(∃i,xs=[.int i]/\Q (.int i) H)\/∃k,xs=[.bl k]/\Q (.int (if k then 1 else 0)) H):=by
 intro pins s σ H xs us Q I r h;rcases h with ⟨i,rfl,q⟩ | ⟨k,rfl,q⟩
 ·obtain⟨u,rfl,t,rfl⟩:=jbW r;exact call_int_int ⟨.int i,H,I,⟨_,rfl⟩,q⟩
 ·obtain⟨u,rfl,r1⟩:=jbW r;cases r1;exact call_int_bool ⟨.int (if k then 1 else 0),H,I.tok _,⟨_,rfl⟩,q⟩
end
end L2
namespace L2
open PySem PySem.Spec PyProof.Rows
section
variable {prog:Program}{w:World}{A:Around}{E:Value->Shared->Prop}{s:Shared}{K:PySem.W.Frag}{x dx C f:Addr}{mA:Str->Option Value}{name:Str}{v:Value}
end
section
variable {P:Program}{w:World}{H H':Hp}{h h':Heap}{a C dx:Addr}{fs fs':List (Str×V)}
end
section
variable {X:Cx}{pins:List (Addr×Obj)}{σ:St}{H:Hp}{s:Shared}{a C dx:Addr}{fs:List (Str×V)}{f:Str}{v:V}{A:Around}{E:Value->Shared->Prop}
end
section
variable {X:Cx}{o e value:Expr}{f:Str}{pos pos' tpos:Pos}{ta tv:TE}
end
section
variable {X:Cx}{pins:List (Addr×Obj)}{σ:St}{H:Hp}{s:Shared}{A:Around}{E:Value->Shared->Prop}{Q:Value->Shared->Prop}{c:Value}{b:Bool}
end
end L2
namespace L2
open PySem PySem.Spec PyProof.Rows
structure Room (k:Nat)(A:Around):Prop where
 hd:A.handled=none
 dp:A.depth+3 * k+5<recursionLimit
 un:A.units+16 * k+200<cLine
theorem Room.deeper {k:Nat}{A:Around}(r:Room (k+1) A)(env:Env):Room k (A.deeper env):=
 ⟨r.hd,by have:=r.dp;show A.depth+1+3 * k+5<_;omega,by have:=r.un;show A.units+3+16 * k+200<_;omega⟩
theorem Room.depth {k:Nat}{A:Around}(r:Room k A):A.depth<recursionLimit:=by have:=r.dp;omega
theorem Room.units {k:Nat}{A:Around}(r:Room k A):A.units+64<cLine:=by have:=r.un;omega
noncomputable def jpe:TA:=fun _ H Q=>Q [] H
noncomputable def jis (ta:TE)(tr:TA):TA:=fun σ H Q=>ta σ H fun x H1=>tr σ H1 fun xs H2=>Q (x::xs) H2
section
variable {X:Cx}{e:Expr}{es:List Expr}{te:TE}{t:TA}{pos:Pos}
theorem jbC:PA X [] jpe:=fun _ _ _ _ H Q I h=>Calls.spliced_nil ⟨[],H,I,.nil,h⟩
theorem jaC (ha:PE X e te)(hr:PA X es t)(hs:starEach (e::es) X.env=(false,eval e X.env)::starEach es X.env:=by rfl):PA X (e::es) (jis te t):=by
 intro pos pins s σ H Q I h;rw[hs];show wpAny _ _ (spliced ((false,eval e X.env)::backTo pos (starEach es X.env))) _ _ s;refine Calls.spliced_cons (thn (ha pins s σ H _ I h) fun u s1 hzz=>?_);obtain⟨x,H1,I1,r1,q1⟩:=hzz;exact thn (hr pos pins s1 σ H1 _ I1 q1) fun us s2 ⟨xs,H2,I2,r2,q2⟩=>⟨x::xs,H2,I2,.cons r1 r2,q2⟩
noncomputable def jtd (t:TA):TE:=fun σ H Q=>t σ H fun xs H1=>xs.length<=sizeLine/\∀p,H1 p=none->Q (.ref p) (upd H1 p (.tup xs))
noncomputable def jte (t:TA):TE:=fun σ H Q=>t σ H fun xs H1=>xs.length<=sizeLine/\∀p,H1 p=none->Q (.ref p) (upd H1 p (.lst xs))
theorem jmA {x1}(h:PA X es t):PE X (.Tuple es x1 pos) (jtd t):=by
 intro pins s σ H Q I hq;refine wpAny_Tuple_spliced (thn (h pos pins s σ H _ I hq) fun us s1 ⟨xs,H1,I1,r,z,q⟩=>⟨by rw[<-r.length];exact z,?_⟩)
 have hf:H1 s1.heap.objs.size=none:=I1.hok.fresh (jul _);refine⟨.ref s1.heap.objs.size,upd H1 s1.heap.objs.size (.tup xs),I1.laid (t':=s1.toks) (fun b u e=>jug _ e) (jul _) ?_,rfl,q _ hf⟩;exact⟨z,us,r,⟨_,jui _ rfl,rfl,_,rfl⟩⟩
theorem jpN (h:PA X es t):PE X (.List es pos) (jte t):=by
 intro pins s σ H Q I hq;refine wpAny_List_spliced (thn (h pos pins s σ H _ I hq) fun us s1 ⟨xs,H1,I1,r,z,q⟩=>⟨by rw[<-r.length];exact z,?_⟩)
 have hf:H1 s1.heap.objs.size=none:=I1.hok.fresh (jul _);refine⟨.ref s1.heap.objs.size,upd H1 s1.heap.objs.size (.lst xs),I1.laid (t':=s1.toks) (fun b u e=>jug _ e) (jul _) ?_,rfl,q _ hf⟩;exact⟨z,us,0,r,jui _ rfl⟩
end
noncomputable abbrev Sp:=List V->Hp->VK->XK->Prop
noncomputable abbrev CXT:=List Env->Hp->Shared->XK->Value->Shared->Prop
structure Env0 (P:Program)(w:World)(K:PySem.W.Frag)(mg:Str->Option Value)(base:Heap)(A:Around)(outer:List Env)(s:Shared)(H:Hp):Prop where
 frames:A.frames=some outer
 mod:Mod K mg base
 bs:∀b o,base.get? b=some o->s.heap.get? b=some o/\H b=none
 bsz:base.objs.size<=s.heap.objs.size
 funs:s.heap.FunFrames base outer
 frf:∀b∈frs outer,H b=none
 hok:HOk P w H s.heap
 bare:AllBare s.gens
inductive CE (outer:List Env) (P:Program) (w:World) (H:Hp) (s:Shared) (Q:VK) (u:Value) (s':Shared):Prop
 |mk (v:_) (H':_):(s'.os=s.os)->(AllBare s'.gens)->(Un (frs outer) [] H H' s.heap s'.heap)->(HOk P w H' s'.heap)->(RelV v u)->(Q v H')->CE outer P w H s Q u s'
noncomputable def CR (CX:CXT)(outer:List Env)(P:Program)(w:World)(H:Hp)(s:Shared)(Q:VK)(E:XK)(r:Result)(s':Shared):Prop:=
 match r with
 |.ok (.ret u)=>CE outer P w H s Q u s'
 |.ok _=>False
 |.error e=>CX outer H s E e s'
structure FnOk (P:Program)(w:World)(K:PySem.W.Frag)(mg:Str->Option Value)(base:Heap)(CX:CXT)(k:Nat)(f:Addr)(fd:FuncData)(ps:List Str)(sp:Sp):Prop where
 len:∀vs H Q E,sp vs H Q E->vs.length=ps.length
 run:∀(A:Around) (outer:List Env) (s:Shared) (H:Hp) (args:Args) (us:List Value) (vs:List V) (Q:VK) (E:XK),Room k A->Env0 P w K mg base A outer s H->BindsTo s fd args (ps.zip us)->Vals vs us->sp vs H Q E ->
  codeAny (model P w) A (.call (.ref f) args) (CR CX outer P w H s Q E) s
section
variable {X:Cx}{pins:List (Addr×Obj)}{σ:St}{H:Hp}{s s':Shared}
theorem Inv.env0 (I:Inv X pins σ H s):Env0 X.prog X.w X.K X.mg X.base X.A X.stack s H:=
 ⟨I.ok.frames,I.ok.mod,I.bs,juo I.ok.bsz I.sz,I.stack,I.stkFree,I.hok,I.bare⟩
theorem Inv.after {Q:VK}{u:Value}(I:Inv X pins σ H s)(h:CE X.stack X.prog X.w H s Q u s'):EP X pins σ Q u s':=by
 obtain⟨v,H',os,bare,un,hok,r,q⟩:=h;obtain⟨hh,g,d,t,os'⟩:=s';obtain rfl:os'=s.os:=os;exact⟨v,H',I.call (h':=hh) (g':=g) (d':=d) (t':=t) (ch:=[]) un hok bare (fun b z=>absurd z @11),r,q⟩
end
noncomputable def Binds (K:PySem.W.Frag)(fd:FuncData)(ps:List Str)(ds:List Value):Prop:=
 ∀(s:Shared) (us:List Value),K.In s.heap->(us++ds).length=ps.length->BindsTo s fd ⟨us,[]⟩ (ps.zip (us++ds))
theorem Binds.all {K:PySem.W.Frag}{fd:FuncData}{ps:List Str}(h:∀us:List Value,us.length=ps.length->bindArgs fd ⟨us,[]⟩=pure (ps.zip us)):Binds K fd ps []:=fun s us _ hl=>by
 rw[jt5]at hl ⊢;exact .of_eq (h us hl)
section
variable {X:Cx}{CX:CXT}{k:Nat}{f C:Addr}{fd:FuncData}{ps:List Str}{sp:Sp}{dvs:List V}{ds:List Value}{E:XK}{x m:Str}{p pos apos:Pos}{e o:Expr}{es:List Expr}{ta:TE}{t:TA}
end
section
variable {X:Cx}{CX:CXT}{k:Nat}{f C:Addr}{fd:FuncData}{ps ks:List Str}{sp:Sp}{E:XK}{x m:Str}{p pos apos kpos:Pos}{e o:Expr}{es:List Expr}{kws:List Keyword}{te ta:TE}{t tk:TA}{nm:Option Str}
variable {g:List Value->List Value->List Value}{gV:List V->List V->List V}
end
structure FnScope (N P:List Str)(sc:Scope):Prop where
 kind:sc.kind=.function
 co:sc.isCoroutine=false
 gen:sc.isGenerator=false
 nd:N.Nodup
 pre:N.take P.length=P
 par:∀x∈P,sc.names.lookup x=some .local\/sc.names.lookup x=some .cell
 nofree:∀y∈sc.names,y.2≠.free
theorem jer {kindOf:Str->Option NameKind}{x:Str}:∀{binds:List (Str×Value)}{m:Str->Option Value},(∀v,(x,v) ∉ binds)->bindL kindOf binds m x=m x
 |[],_,_=>rfl
 |(n,v)::r,m,h=>by
  unfold bindL;rw[jer fun w hw=>h w (jtI _ hw)];split
  ·have:x≠n:=by rintro rfl;exact h v jtJ
   simp[this]
  ·rfl
theorem jes {kindOf:Str->Option NameKind}{x:Str}:∀{binds:List (Str×Value)}{m:Str->Option Value},(∀v,(x,v) ∉ binds)->bindC kindOf binds m x=m x
 |[],_,_=>rfl
 |(n,v)::r,m,h=>by
  unfold bindC;rw[jes fun w hw=>h w (jtI _ hw)];split
  ·rfl
  ·have:x≠n:=by rintro rfl;exact h v jtJ
   simp[this]
theorem jet {kindOf:Str->Option NameKind}{x:Str}{v:Value}:∀{P:List Str}{vs:List Value}{i:Nat}{m:Str->Option Value},P.Nodup->P[i]?=some x->vs[i]?=some v->kindOf x=some .local ->
  bindL kindOf (P.zip vs) m x=some v
 |[],_,_,_,_,h,_,_=>by simp at h
 |_::_,[],_,_,_,_,h,_=>by simp at h
 |p::P,w::vs,0,m,nd,h1,h2,hk=>by
  simp at h1 h2;subst h1;subst h2;show bindL kindOf ((p,w)::P.zip vs) m p=_;unfold bindL;rw[jer fun v hv=>(List.nodup_cons.mp nd).1 (List.of_mem_zip hv).1,if_pos hk];simp
 |p::P,w::vs,i+1,m,nd,h1,h2,hk=>by
  show bindL kindOf ((p,w)::P.zip vs) m x=_;unfold bindL;exact jet (i:=i) (List.nodup_cons.mp nd).2 (by simpa using h1) (by simpa using h2) hk
theorem jeu {kindOf:Str->Option NameKind}{x:Str}{v:Value}:∀{P:List Str}{vs:List Value}{i:Nat}{m:Str->Option Value},P.Nodup->P[i]?=some x->vs[i]?=some v->kindOf x≠some .local ->
  bindC kindOf (P.zip vs) m x=some v
 |[],_,_,_,_,h,_,_=>by simp at h
 |_::_,[],_,_,_,_,h,_=>by simp at h
 |p::P,w::vs,0,m,nd,h1,h2,hk=>by
  simp at h1 h2;subst h1;subst h2;show bindC kindOf ((p,w)::P.zip vs) m p=_;unfold bindC;rw[jes fun v hv=>(List.nodup_cons.mp nd).1 (List.of_mem_zip hv).1,if_neg hk];simp
 |p::P,w::vs,i+1,m,nd,h1,h2,hk=>by
  show bindC kindOf ((p,w)::P.zip vs) m x=_;unfold bindC;exact jeu (i:=i) (List.nodup_cons.mp nd).2 (by simpa using h1) (by simpa using h2) hk
noncomputable def start (N:List Str)(vs:List V):St:=vs.map some++List.replicate (N.length - vs.length) none
noncomputable def jhf (CX:CXT)(P:Program)(w:World)(K:PySem.W.Frag)(mg:Str->Option Value)(base:Heap)(N:List Str)(qual:Str)(scope:Scope)(f:Addr)(cd:Value)(A:Around)(outer:List Env)(s:Shared)(H:Hp)(E:XK):Cx where
 prog:=P
 w:=w
 K:=K
 mg:=mg
 base:=base
 A:=A.deeper (envOfC qual scope s.heap.objs.size f cd)
 N:=N
 s₀:=s
 H₀:=H
 env:=envOfC qual scope s.heap.objs.size f cd
 outer:=outer
 stack:=envOfC qual scope s.heap.objs.size f cd::outer
 ex:=[]
 calm:=true
 fn:=fun _=>true
 pn:=[]
 xe:=fun e s'=>wpAny (model P w) (A.deeper (envOfC qual scope s.heap.objs.size f cd)) (leaving (envOfC qual scope s.heap.objs.size f cd) e) (fun _ s''=>CX outer H s E e s'') (fun e' s''=>CX outer H s E e' s'') s'
theorem jgi {sc:Scope}{n:Nat}{x:Str}(h:sc.names.lookup x=some .cell):∃c,(cellsFrom n sc.names []).lookup x=some c:=by
 have q:=PySem.W.cellsFrom_some sc.names n [] (.inl h);exact Option.isSome_iff_exists.mp q
theorem jit {CX:CXT}{P:Program}{w:World}{K:PySem.W.Frag}{mg:Str->Option Value}{base:Heap}{N ps:List Str}{qual:Str}{scope:Scope}{f:Addr}{cd:Value}{A:Around}{outer:List Env}{s s1:Shared}{H:Hp}{E:XK}{us:List Value}{vs:List V}
  (S:FnScope N ps scope) (hd:A.handled=none) (e0:Env0 P w K mg base A outer s H) (hl:vs.length=ps.length) (r:Vals vs us)
  (x:InCallC s s.heap.objs.size (bindL (envOfC qual scope s.heap.objs.size f cd).kindOf (ps.zip us) fun _=>none) (cellsFrom (s.heap.objs.size+1) scope.names []) (bindC (envOfC qual scope s.heap.objs.size f cd).kindOf (ps.zip us) fun _=>none) s1) :
  Inv (jhf CX P w K mg base N qual scope f cd A outer s H E) [] (start N vs) H s1:=by
 have hpl:ps.length<=N.length:=by have:=congrArg List.length S.pre;rw[List.length_take]at this;omega
 obtain⟨h1,tk,rfl,hk⟩:=x.done;have noA:∀b:Addr,b ∉ (jhf CX P w K mg base N qual scope f cd A outer s H E).ex:=fun b z=>absurd (show b∈([]:List Addr)from z) @11
 refine⟨⟨e0.mod,S.kind,rfl,rfl,jul _,fun y z c h1 h2=>?_,fun y hy=>?_,fun y c _ h=>?_,fun _=>hd,Around.frames_deeper e0.frames,.inr ⟨rfl,rfl⟩,fun b z=>absurd z (noA b),e0.bs,e0.bsz,fun b _ _=>noA b,fun b z=>absurd z (noA b),e0.funs,e0.frf⟩,
  rfl,e0.bare,Un.kept hk,⟨_,x.toInCall.ns,fun i y v h1 h2 h3=>?_⟩,fun y c h=>⟨_,x.cell y c h⟩,e0.hok.fresh (jul _),fun y c h=>?_,fun p hp=>absurd (show p∈([]:List (Addr×Obj))from hp) @11,e0.hok.kept hk,?_⟩
 ·exact name_of_addr x.apart (PySem.mem_of_lookup h1) (PySem.mem_of_lookup h2)
 ·have hy:scope.names.lookup y=some .cell\/scope.names.lookup y=some .free:=hy;rcases hy with hy | hy
  ·exact jgi hy
  ·exact absurd rfl (S.nofree _ (PySem.mem_of_lookup hy))
 ·exact Nat.le_of_lt (x.above y c (PySem.mem_of_lookup h))
 ·have hi:i<vs.length:=by
   unfold start at h2;by_cases hi:i<vs.length
   ·exact hi
   ·rw[jtU (by simpa using hi)]at h2
    rw[List.getElem?_replicate]at h2;split at h2 <;> cases h2
  have ha:vs[i]?=some v:=by
   unfold start at h2;rw[jtY (by simpa using hi),jtN]at h2
   cases e:vs[i]? with
   |none=>rw[e]at h2;cases h2
   |some a=>rw[e]at h2;cases h2;rfl
  obtain⟨u,hu,rv⟩:=r.get ha;have hp:ps[i]?=some y:=by
   rw[<-S.pre,List.getElem?_take_of_lt @0];exact h1
  have ndP:ps.Nodup:=by rw[<-S.pre];exact S.nd.sublist (List.take_sublist _ _)
  refine⟨u,rv,?_⟩;rcases S.par y (jtT hp)with k | k
  ·exact .inl ⟨k,jet ndP hp hu k⟩
  ·obtain⟨c,e⟩:=jgi (n:=s.heap.objs.size+1) k;refine .inr ⟨.inl k,c,e,?_⟩;have q:=x.cell y c e;rw[jeu ndP hp hu (by show scope.names.lookup y≠_;rw[k];decide)]at q
   exact q
 ·exact e0.hok.fresh (Nat.le_of_lt (x.above y c (PySem.mem_of_lookup h)))
 ·unfold start;show _=N.length;rw[jtV,jtQ,List.length_replicate];omega
theorem jrM {CX:CXT}{P:Program}{w:World}{K:PySem.W.Frag}{mg:Str->Option Value}{base:Heap}{k:Nat}{f:Addr}{name qual:Str}{params:Arguments}{body:List Stmt}{scope:Scope}{dV kV doc pm cdv ct oc:Value}{an od:Option Addr}
  {osl:Array (Option Value)}{N ps:List Str}{sp:Sp} (lk:K.lookup f=some ⟨oc,od,.func (PySem.W.fnOf name qual params body scope dV kV doc pm an cdv ct),osl⟩) (hcd:PySem.W.codeIn K cdv qual=true) (S:FnScope N ps scope)
  (len:∀vs H Q E,sp vs H Q E->vs.length=ps.length)
  (hbody:∀(A:Around) (outer:List Env) (s:Shared) (H:Hp) (vs:List V) (Q:VK) (E:XK),Room k (A.deeper (envOfC qual scope s.heap.objs.size f cdv))->sp vs H Q E ->
   ∃t,PSs (jhf CX P w K mg base N qual scope f cdv A outer s H E) body t/\t { nx:=fun _ H'=>Q .non H',rt:=Q } (start N vs) H) :
  FnOk P w K mg base CX (k+1) f (PySem.W.fnOf name qual params body scope dV kV doc pm an cdv ct) ps sp:=by
 refine⟨len,fun A outer s H args us vs Q E hr e0 hb r hsp=>?_⟩;have hl:=len _ _ _ _ hsp;have KX:K.In s.heap:=e0.mod.kin.keeps fun b o e=>(e0.bs b o e).1;have lim:s.heap.NoLimit:=e0.mod.nolimit.keeps fun b o e=>(e0.bs b o e).1;have hkind:∀y∈ps.zip us,scope.names.lookup y.1=some .local\/(scope.names.lookup y.1=some .cell/\((cellsFrom (s.heap.objs.size+1) scope.names []).lookup y.1).isSome=true):=fun ⟨n,v⟩ hy=>by
  rcases S.par n (List.of_mem_zip hy).1 with q | q
  ·exact .inl q
  ·exact .inr ⟨q,PySem.W.cellsFrom_some _ _ _ (.inl q)⟩
 refine codeAny_call_function hr.depth (KX _ _ lk) rfl S.co S.gen rfl (PySem.W.codeRec_of KX hcd) (hb _ _ _ _ ?_);refine wpAny_newFunctionEnv_cells S.kind hkind fun env he s1 x=>?_;subst he;refine⟨lim.keeps x.toInCall.keep,codeAny_func ?_⟩;obtain⟨t,ht,hq⟩:=hbody A outer s H vs Q E (hr.deeper _) hsp;have I:Inv (jhf CX P w K mg base N qual scope f cdv A outer s H E) [] (start N vs) H s1:=jit S hr.hd e0 hl r x;refine juf (ht [] s1 (start N vs) H _ I hq) (fun fl s' hs=>?_) fun e s' hs=>hs;have fin:∀{σ':St}{H':Hp}{v:V}{u:Value},Inv (jhf CX P w K mg base N qual scope f cdv A outer s H E) [] σ' H' s'->RelV v u->Q v H'->CE outer P w H s Q u s':=
  fun {σ' H' v u} J rv q=>⟨v,H',J.os,J.bare,J.base,J.hok,rv,q⟩
 cases fl with
 |ret u=>
  obtain⟨v,σ',H',J,rv,q⟩:=hs;exact fin J rv q
 |next=>
  obtain⟨σ',H',J,q⟩:=hs;exact fin (v:=V.non) (u:=Value.none) J rfl q
 |brk=>
  obtain⟨_,_,_,q⟩:=hs;exact False.elim q
 |cont=>
  obtain⟨_,_,_,q⟩:=hs;exact False.elim q
end L2
namespace L2
open PySem PySem.Spec PyProof.Rows
section
variable {X:Cx}{x:Str}{p pos:Pos}{e:Expr}{es:List Expr}{t:TA}{id T:String}{r:List V->Hp->VK->Prop}
noncomputable def tCB (r:List V->Hp->VK->Prop)(t:TA):TE:=fun σ H Q=>t σ H fun vs H1=>r vs H1 Q
theorem jaY (hc:CallR X (.builtin id) r)(hg:Gl X x)(hm:X.mg x=none)(hv:bootBuiltins x=some (.builtin id))(ha:PA X (e::es) t)(hn:x≠"__name__":=by decide)(hdb:(x == ("__debug__":Str))=false:=by decide)
  (he:starEach (e::es) X.env=(false,eval e X.env)::starEach es X.env:=by rfl) (hpl:(backTo pos (starEach es X.env)).any (·.1)=false:=by rfl):PE X (.Call (.Name x p) (e::es) [] pos) (tCB r t):=by
 intro pins s σ H Q I h;refine wpAny_Call_Name_kw (jdE I hg hm hv ?_ hn hdb);exact PyProof.Rows.callWith_builtin1 (thn (ha pos pins s σ H _ I h) fun us s1 ⟨vs,H1,I1,r1,q1⟩=>hc pins s1 σ H1 vs us Q I1 r1 q1) he hpl
theorem jbG (hc:CallR X (.type T) r)(hg:Gl X x)(hm:X.mg x=none)(hv:bootBuiltins x=some (.type T))(ha:PA X (e::es) t)(hn:x≠"__name__":=by decide)(hdb:(x == ("__debug__":Str))=false:=by decide)
  (he:starEach (e::es) X.env=(false,eval e X.env)::starEach es X.env:=by rfl) (hpl:(backTo pos (starEach es X.env)).any (·.1)=false:=by rfl):PE X (.Call (.Name x p) (e::es) [] pos) (tCB r t):=by
 intro pins s σ H Q I h;refine wpAny_Call_Name_kw (jdE I hg hm hv ?_ hn hdb);exact PyProof.Rows.callWith_type1 (thn (ha pos pins s σ H _ I h) fun us s1 ⟨vs,H1,I1,r1,q1⟩=>hc pins s1 σ H1 vs us Q I1 r1 q1) he hpl
end
end L2
namespace HT
open PySem PyProof.Rows
noncomputable def lexLt:List Int->List Int->Bool
 |[],[]=>false
 |[],_::_=>true
 |_::_,[]=>false
 |x::xs,y::ys=>if x=y then lexLt xs ys else decide (x<y)
theorem jdG (x y:Int)(xs ys:List Int):lexLt (x::xs) (y::ys)=if x=y then lexLt xs ys else decide (x<y):=rfl
theorem jdU:lexLt [] []=false:=rfl
theorem jdu (y:Int)(ys:List Int):lexLt [] (y::ys)=true:=rfl
theorem jdv (x:Int)(xs:List Int):lexLt (x::xs) []=false:=rfl
theorem jkQ (A:Around)(s:Shared)(a:Int)(t:Tok)(c:Int)(u:Tok):∃e,SeqAt.EqAt A s (.int a t) (.int c u) e/\(e=true↔a=c):=
 ⟨(a==c),SeqAt.EqAt.int_int a t c u,by simp⟩
theorem jkR (A:Around)(s:Shared)(a:Int)(t:Tok)(c:Int)(u:Tok)(prog:Program)(w:World)(E:Value->Shared->Prop)(Q:Value->Shared->Prop)(h:Q (.bool (decide (a<c))) s) :
  wpAny @2 A (richCompare .Lt (.int a t) (.int c u)) Q E s:=
 (PyProof.Rows.lt_int h:wpAny @2 A (compareOp .Lt (.int a t) (.int c u)) Q E s)
section
open PySem.SeqAt
open PySem.AutoSeq1 (wpAny_loadPart')
open PySem.MeetsSeq PySem.MeetsSeq2 PySem.MeetsSeq3
theorem jdV (l b:Addr)(items items2:Array Value)(n n2:Nat)(dd dd2:Option Addr)(sl sl2:Array (Option Value))(ns ms:List Int)(hi:IntsAre items.toList ns)(hj:IntsAre items2.toList ms) :
  Meets (Builtin.«tuple.__lt__» ⟨[.ref l,.ref b],[]⟩)
   (fun _ R s=>s.heap.get? l=some { cls:=.type "tuple",dict:=dd,data:=.seq items n,slots:=sl }/\s.heap.get? b=some { cls:=.type "tuple",dict:=dd2,data:=.seq items2 n2,slots:=sl2 } /\
    R (.ok (.ret (.bool (lexLt ns ms)))) s):=
 .of_wp fun prog w A R s h=>by
  obtain⟨hp,g,d,tk,os⟩:=s;obtain⟨hl,hb,h⟩:=h;have f2:=AutoSeq1.sub_tuple_tuple;have z1:items.size=ns.length:=by rw[<-hi.length];simp
  have z2:items2.size=ms.length:=by rw[<-hj.length];simp
  wp_walk using wpAny_loadPart' hl,wpAny_loadPart' hb,wpAny_forIn_list _ (fun jbl b s'=>b.1=none/\s'=⟨hp,g,d,tk,os⟩/\∃(vs ws:List Value) (ns' ms':List Int),jbl=vs.zip ws /\
   IntsAre vs ns'/\IntsAre ws ms'/\ns'.length+items2.size=ms'.length+items.size/\R (.ok (.ret (.bool (lexLt ns' ms')))) ⟨hp,g,d,tk,os⟩) _
  case turn=>
   rintro⟨y,x⟩ jbl b s' ⟨hb',rfl,vs,ws,ns',ms',hz,hvi,hwi,hlen,hR⟩;cases hvi with
   |nil=>rw[List.zip_nil_left]at hz;cases hz
   |cons a t hvi'=>
    cases hwi with
    |nil=>rw[List.zip_nil_right]at hz;cases hz
    |cons c u hwi'=>
     rw[List.zip_cons_cons]at hz;injection hz with hyx hrest
     injection hyx with hy hx
     subst hy hx;rw[jdG]at hR;simp only[jtR]at hlen;obtain⟨e,he,hiff⟩:=jkQ A.in1 ⟨hp,g,d,tk,os⟩ a t c u;refine jt8 (he prog w _ _ ?_);cases e with
     |true=>
      rw[if_pos (hiff.mp rfl)]at hR;wp_walk;exact⟨rfl,rfl,_,_,_,_,hrest,hvi',hwi',by omega,hR⟩
     |false=>
      rw[if_neg (fun q=>absurd (hiff.mpr q) jus)]at hR;have hri:=jkR A.in1 ⟨hp,g,d,tk,os⟩ a t c u prog w;wp_walk using hri;exact⟨_,rfl,by simpa using hR⟩
  case fin=>
   rintro⟨b1,b2⟩ s' ⟨hb',rfl,vs,ws,ns',ms',hz,hvi,hwi,hlen,hR⟩;simp only at hb';subst hb';have hv:lexLt ns' ms'=decide (items.size<items2.size):=by
    cases hvi with
    |nil=>
     cases hwi with
     |nil=>
      simp only[jt2]at hlen;rw[jdU];exact(decide_eq_false @0).symm
     |cons c u hw=>
      simp only[jt2,jtR]at hlen;rw[jdu];exact(decide_eq_true @0).symm
    |cons a t hv=>
     cases hwi with
     |nil=>
      simp only[jt2,jtR]at hlen;rw[jdv];exact(decide_eq_false @0).symm
     |cons c u hw=>
      rw[List.zip_cons_cons]at hz;cases hz
   rw[hv]at hR;wp_walk;exact⟨_,rfl,by simpa[Builtin.Tuple.tupleCompareSizes] using hR⟩
  case h=>
   exact⟨rfl,rfl,items.toList,items2.toList,ns,ms,rfl,hi,hj,by omega,h⟩
end
section
variable {prog:Program}{w:World}{A:Around}{E:Value->Shared->Prop}{s:Shared}
theorem jhg {l b:Addr}{items items2:Array Value}{ns ms:List Int}{Q:Value->Shared->Prop}(hl:IsTup s.heap l items)(hb:IsTup s.heap b items2)(hi:IntsAre items.toList ns)(hj:IntsAre items2.toList ms)
  (hu:A.units<cLine) (h:Q (.bool (lexLt ns ms)) s):wpAny @2 A (compareOp .Lt (.ref l) (.ref b)) Q E s:=by
 obtain⟨⟨cls,dd,data,sl⟩,ho,hc,n,hd⟩:=id hl;obtain⟨⟨cls2,dd2,data2,sl2⟩,ho2,hc2,n2,hd2⟩:=id hb;simp only at hc hd hc2 hd2;subst hc hd hc2 hd2;exact richCompare_meets_room (op:=.Lt) ⟨_,ho,rfl⟩ ⟨_,ho2,rfl⟩ PySem.F.slot_tuple_lt PySem.F.entry_tuple_lt (PySem.F.args_tuple_lt_2 _ _) (jdV l b items items2 n n2 dd dd2 sl sl2 ns ms hi hj)
  ⟨ho,ho2,show Value.bool (lexLt ns ms)≠Value.notImplemented/\Q (.bool (lexLt ns ms)) s from⟨(fun x=>nomatch x),h⟩⟩ hu
theorem jni {t b:Addr}{vs ws:List Value}{Q:Value->Shared->Prop}(ht:IsTup s.heap t vs.toArray)(hb:IsTup s.heap b ws.toArray)(hv:vs≠[])
  (h1:ws=[]->Q (.ref t) s) (h2:ws≠[]->Q (.ref s.heap.objs.size) { s with heap:=s.heap.push { cls:=.type "tuple",data:=.seq (vs++ws).toArray } })
  (hsz:vs.length+ws.length<=sizeLine):wpAny @2 A (binaryOp .Add (.ref t) (.ref b)) Q E s:=by
 obtain⟨⟨cls,dd,data,sl⟩,ho,hc,n,hd⟩:=id ht;obtain⟨⟨cls2,dd2,data2,sl2⟩,ho2,hc2,n2,hd2⟩:=id hb;simp only at hc hd hc2 hd2;subst hc hd hc2 hd2;have e:vs.toArray++ws.toArray=(vs++ws).toArray:=by simp
 by_cases hw:ws=[]
 ·exact concat_meets ⟨_,ho,rfl⟩ ⟨_,ho2,rfl⟩ noFill_tuple_add seq_tuple_add PySem.F.slot_tuple_add PySem.F.entry_tuple_add (PySem.F.args_tuple_add_2 _ _)
   (tuple_addW1 t b vs.toArray ws.toArray n n2 dd dd2 sl sl2 (by simpa using hv) (by simp[hw])) ⟨ho,ho2,h1 hw⟩
 ·refine concat_meets ⟨_,ho,rfl⟩ ⟨_,ho2,rfl⟩ noFill_tuple_add seq_tuple_add PySem.F.slot_tuple_add PySem.F.entry_tuple_add (PySem.F.args_tuple_add_2 _ _)
   (tuple_addW2 t b vs.toArray ws.toArray n n2 dd dd2 sl sl2 (by simpa using hv) (by simpa using hw) (by rw[jtL,jtL];exact hsz)) ⟨ho,ho2,?_⟩
  rw[e];exact h2 hw
noncomputable def sIx (n d:Nat):Option Int->Nat
 |none=>d
 |some v=>if v<0 then (v+(n:Int)).toNat else min v.toNat n
theorem jpO (n d:Nat)(hd:d<=n)(o:Option Int):sIx n d o<=n:=by
 cases o with
 |none=>exact hd
 |some v=>
  show (if v<0 then (v+(n:Int)).toNat else min v.toNat n)<=n;by_cases hv:v<0
  ·rw[if_pos hv];omega
  ·rw[if_neg hv];exact Nat.min_le_right _ _
theorem jiu (v:Int)(n d:Nat):(if v<0 then max (v+(n:Int)) 0 else min v (n:Int))=((sIx n d (some v):Nat):Int):=by
 show (if v<0 then max (v+(n:Int)) 0 else min v (n:Int))=(((if v<0 then (v+(n:Int)).toNat else min v.toNat n):Nat):Int);by_cases hv:v<0
 ·simp only[if_pos hv];omega
 ·simp only[if_neg hv];omega
theorem jhh (lo hi:Option Int)(n:Nat):Builtin.Slice.sliceAdjust lo hi 1 (n:Int)=(((sIx n 0 lo:Nat):Int),((sIx n n hi:Nat):Int)):=by
 have h1:¬ ((1:Int)<0):=by omega
 unfold Builtin.Slice.sliceAdjust;simp only[h1,if_false];refine Prod.ext ?_ ?_
 ·cases lo with
  |none=>rfl
  |some v=>exact jiu v n 0
 ·cases hi with
  |none=>rfl
  |some v=>exact jiu v n n
theorem jhi (i j:Nat):Builtin.Slice.slicePlaces (i:Int) (j:Int) 1=j - i:=by
 unfold Builtin.Slice.slicePlaces;have h1:(1:Int)>0:=by omega
 simp only[h1,if_true,Int.ediv_one];split <;> omega
theorem jdH {v:Value}{o:Option Int}{Q:Option Int->Shared->Prop}(p:IsPart v o)(h:Q o s):wpAny @2 A (Builtin.Slice.slicePartIndex v) Q E s:=by
 cases p with
 |none=>exact slicePart_none h
 |int i t=>exact slicePart_int h
theorem jbD {sl:Addr}{vl vu:Value}{lo hi:Option Int}{n:Nat}{Q:Int×Int×Nat->Shared->Prop}(hs:s.heap.IsSliceOf sl vl vu .none)(pl:IsPart vl lo)(pu:IsPart vu hi)
  (h:Q (((sIx n 0 lo:Nat):Int),1,sIx n n hi - sIx n 0 lo) s):wpAny @2 A (Builtin.Slice.sliceApplied (.ref sl) (pure (n:Int))) Q E s:=by
 obtain⟨os,hos,hcs,hds⟩:=id hs;unfold Builtin.Slice.sliceApplied Builtin.Slice.sliceFields;refine jt8 (jt8 (jue hos hds (x:=vl) rfl (jt8 (jue hos hds (x:=vu) rfl (jt8 (jue hos hds (x:=.none) rfl (jt9 ?_)))))));refine jt8 (slicePart_none ?_);show wpAny _ _ (if ((1:Int)==0)=true then _ else _) _ _ s;rw[if_neg (by decide)]
 refine jt8 (jdH pl (jt8 (jdH pu (jt8 (jt9 ?_)))));show wpAny _ _ (match Builtin.Slice.sliceAdjust lo hi 1 (n:Int)with | (lo,hi)=>pure (lo,(1:Int),Builtin.Slice.slicePlaces lo hi 1)) _ _ s
 rw[jhh lo hi n];show wpAny _ _ (pure (((sIx n 0 lo:Nat):Int),(1:Int),Builtin.Slice.slicePlaces ((sIx n 0 lo:Nat):Int) ((sIx n n hi:Nat):Int) 1)) _ _ s;rw[jhi];exact jt9 h
theorem jkS (xs:Array Value)(i k:Nat):((List.range k).filterMap fun (m:Nat)=>xs[((i:Int)+(m:Int) * 1).toNat]?).toArray=((xs.toList.drop i).take k).toArray:=by
 have e:(fun (m:Nat)=>xs[((i:Int)+(m:Int) * 1).toNat]?)=fun m=>xs[i+m]?:=by
  funext m
  have:((i:Int)+(m:Int) * 1).toNat=i+m:=by omega
  rw[this]
 rw[e];have:=pick_run xs i k;rw[List.filterMap_map]at this;have e2:((fun x=>xs[x]?) ∘ fun x=>i+x)=fun m=>xs[i+m]?:=rfl;rw[e2]at this;rw[this]
theorem jcq {t sl:Addr}{items:Array Value}{vl vu:Value}{lo hi:Option Int}{Q:Value->Shared->Prop}(ht:IsTup s.heap t items)(hs:s.heap.IsSliceOf sl vl vu .none)(pl:IsPart vl lo)(pu:IsPart vu hi)
  (hw:¬ (sIx items.size 0 lo=0/\sIx items.size items.size hi=items.size))
  (h:Q (.ref s.heap.objs.size) { s with heap:=s.heap.push { cls:=.type "tuple",data:=.seq ((items.toList.drop (sIx items.size 0 lo)).take (sIx items.size items.size hi - sIx items.size 0 lo)).toArray } })
  (hsz:items.size<=sizeLine):wpAny @2 A (getItem (.ref t) (.ref sl)) Q E s:=by
 have htake:sizeOk (.seq ((items.toList.drop (sIx items.size 0 lo)).take (sIx items.size items.size hi - sIx items.size 0 lo)).toArray):=by
  show ((items.toList.drop (sIx items.size 0 lo)).take (sIx items.size items.size hi - sIx items.size 0 lo)).toArray.size<=sizeLine;rw[jtL,List.length_take,List.length_drop,Array.length_toList];exact juo (Nat.min_le_right _ _) (juo (Nat.sub_le _ _) hsz)
 have hj:sIx items.size items.size hi<=items.size:=jpO _ _ (jul _) hi;obtain⟨os,hos,hcs,hds⟩:=id hs;have hTs:s.TypeIs (.ref sl) "slice":=⟨os,hos,hcs⟩;unfold getItem;try with_reducible refine jud ?_
 first | refine jt8 (jt9 ?_) | skip
 refine jt8 (wpAny_sequenceKey ht.typeIs (by decide) ?_)
 refine jt8 (wpAny_callSpecial?_slot (name:=Str.ofString "__getitem__") ht.typeIs PyProof.Rows.slot_tuple_getitem
  (wpAny_call_entry PyProof.Rows.slot_tuple_getitem ht.typeIs entry_tuple_getitem ?_ (args_tuple_getitem _ _)))
 show wpAny _ _ (Builtin.Tuple.tupleItemsOf (.ref t) >>= _) _ _ s;refine jt8 (tupleItemsOf_ ht ?_);refine jt8 (wpAny_typeOf hTs ?_);rw[if_pos (by decide)]
 refine jt8 (jbD hs pl pu ?_);have hno:¬ ((((sIx items.size 0 lo:Nat):Int)==0&&(1:Int)==1&&(sIx items.size items.size hi - sIx items.size 0 lo)==items.size)=true):=by
  intro q;rw[juq,juq]at q;have q1:((sIx items.size 0 lo:Nat):Int)=0:=eq_of_beq q.1.1;have q2:sIx items.size items.size hi - sIx items.size 0 lo=items.size:=eq_of_beq q.2;exact hw ⟨by omega,by omega⟩
 show wpAny _ _ (if (((sIx items.size 0 lo:Nat):Int)==0&&(1:Int)==1&&(sIx items.size items.size hi - sIx items.size 0 lo)==items.size)=true then _ else _) _ _ s;rw[if_neg hno,jkS];first
  |exact jt8 (m:=Builtin.Tuple.tupleExact _) (juc (jt9 ⟨_,rfl,jt9 h⟩) htake)
  |exact jt8 (m:=Builtin.Tuple.tupleExact _) (juc (jt8 (jt9 (jt9 ⟨_,rfl,jt9 h⟩))) htake)
  |exact jt8 (jt8 (m:=Builtin.Tuple.tupleExact _) (juc (jt9 (jt9 ⟨_,rfl,jt9 h⟩)) htake))
  |exact jt8 (jt8 (m:=Builtin.Tuple.tupleExact _) (juc (jt9 ⟨_,rfl,jt9 h⟩) htake))
end
end HT
namespace L2
open PySem PySem.Spec PyProof.Rows
noncomputable abbrev TO:=St->Hp->(Option Int->Hp->Prop)->Prop
noncomputable def PO (X:Cx)(e:Option Expr)(t:TO):Prop:=
 ∀(pins:List (Addr×Obj)) (s:Shared) (σ:St) (H:Hp) (Q:Option Int->Hp->Prop),Inv X pins σ H s->t σ H Q ->
  wpAny @4 X.A (evalPart e X.env) (fun u s'=>∃o H',Inv X pins σ H' s'/\IsPart u o/\Q o H') X.xe s
noncomputable def jnj:TO:=fun _ H Q=>Q none H
noncomputable def jrN (t:TE):TO:=fun σ H Q=>t σ H fun x H1=>∃i,x=.int i/\Q (some i) H1
theorem jdI {ns:List Int}:∀{us:List Value},Vals (ns.map V.int) us->IntsAre us ns:=by
 induction ns with
 |nil=>intro us r;rw[List.map_nil]at r;cases r;exact .nil
 |cons n ns ih=>
  intro us r;rw[jtO]at r;cases r with
  |cons r1 r2=>
   obtain⟨t,e⟩:=r1;subst e;exact .cons n t (ih r2)
section
variable {X:Cx}{e:Expr}{te:TE}{lo hi:Option Expr}{tl th:TO}{pos p2:Pos}
theorem jnk:PO X none jnj:=by
 intro pins s σ H Q I h;rw[evalPart_none];exact jt9 ⟨none,H,I,.none,h⟩
theorem jnl (h:PE X e te):PO X (some e) (jrN te):=by
 intro pins s σ H Q I hw;rw[evalPart_some];refine thn (h pins s σ H _ I hw) fun u s1 hzz=>?_;obtain⟨x,H1,I1,r1,q1⟩:=hzz;obtain⟨i,rfl,q⟩:=q1;obtain⟨t,rfl⟩:=r1;exact⟨some i,H1,I1,.int i t,q⟩
noncomputable def SlR (X:Cx)(r:V->Option Int->Option Int->Hp->VK->Prop):Prop:=
 ∀(pins:List (Addr×Obj)) (s:Shared) (σ:St) (H:Hp) (x:V) (v vl vu:Value) (lo hi:Option Int) (sl:Addr) (Q:VK),Inv X pins σ H s->RelV x v->s.heap.IsSliceOf sl vl vu .none->IsPart vl lo->IsPart vu hi->r x lo hi H Q ->
  ∃T id,typeLookup (.type T) "__getitem__"=pure (some (.builtin id))/\s.TypeIs v T/\wpAny @4 X.A (getItem v (.ref sl)) (EP X pins σ Q) X.xe s
theorem SlR.or {r r':V->Option Int->Option Int->Hp->VK->Prop}(h:SlR X r)(h':SlR X r'):SlR X (fun x lo hi H Q=>r x lo hi H Q\/r' x lo hi H Q):=by
 intro pins s σ H x v vl vu lo hi sl Q I rx hs pl pu q;rcases q with q | q
 ·exact h pins s σ H x v vl vu lo hi sl Q I rx hs pl pu q
 ·exact h' pins s σ H x v vl vu lo hi sl Q I rx hs pl pu q
noncomputable def tSl (r:V->Option Int->Option Int->Hp->VK->Prop)(te:TE)(tl th:TO):TE:=fun σ H Q=>te σ H fun x H1=>tl σ H1 fun l H2=>th σ H2 fun u H3=>r x l u H3 Q
theorem jkT {r:V->Option Int->Option Int->Hp->VK->Prop}(hr:SlR X r)(he:PE X e te)(hl:PO X lo tl)(hu:PO X hi th):PE X (.Subscript e (.Slice lo hi none p2) pos) (tSl r te tl th):=by
 intro pins s σ H Q I h;refine Subscript_ (thn (he pins s σ H _ I h) fun v s1 hzz=>?_);obtain⟨x,H1,I1,r1,q1⟩:=hzz;refine wpAny_Slice (thn (hl pins s1 σ H1 _ I1 q1) fun vl s2 ⟨l,H2,I2,pl,q2⟩=>thn (hu pins s2 σ H2 _ I2 q2) fun vu s3 hzz=>?_);obtain⟨u,H3,I3,pu,q3⟩:=hzz;rw[evalPart_none];refine jt9 ?_;have I4:Inv X pins σ H3 { s3 with heap:=s3.heap.push { cls:=.type "slice",data:=.fields #[vl,vu,.none] } }:=I3.kept (t':=s3.toks) fun b ob q=>jug _ q
 obtain⟨T,id,hT,ht,hg⟩:=hr pins { s3 with heap:=s3.heap.push { cls:=.type "slice",data:=.fields #[vl,vu,.none] } } σ H3 x v vl vu l u s3.heap.objs.size Q I4 r1 (Heap.IsSliceOf.new ..) pl pu q3
 show wpAny @4 X.A (subscriptTail e (.Slice lo hi none p2) v (.ref s3.heap.objs.size)) (EP X pins σ Q) X.xe { s3 with heap:=s3.heap.push { cls:=.type "slice",data:=.fields #[vl,vu,.none] } }
 exact tail_any (ops:=[.ref s3.heap.objs.size,v]) ht hT hg (by with_unfolding_all rfl)
noncomputable def jmB (xs:List V)(lo hi:Option Int):List V:=(xs.drop (HT.sIx xs.length 0 lo)).take (HT.sIx xs.length xs.length hi - HT.sIx xs.length 0 lo)
theorem jcS (xs:List V)(lo hi:Option Int):(jmB xs lo hi).length<=xs.length:=by
 unfold jmB;rw[List.length_take,List.length_drop];exact juo (Nat.min_le_right _ _) (Nat.sub_le _ _)
noncomputable def jtf (K:PySem.W.Frag):V->Option Int->Option Int->Hp->VK->Prop:=fun x lo hi H Q=>∃a xs,x=.ref a/\SqT K H a xs /\
 ¬ (HT.sIx xs.length 0 lo=0/\HT.sIx xs.length xs.length hi=xs.length)/\∀p,H p=none->Q (.ref p) (upd H p (.tup (jmB xs lo hi)))
theorem sl_tup:SlR X (jtf X.K):=by
 intro pins s σ H x v vl vu lo hi sl Q I rx hs pl pu h;obtain⟨a,xs,rfl,hx,hw,q⟩:=h;cases rx;obtain⟨its,r,ht,hz⟩:=I.tuple hx;have hlen:its.toArray.size=xs.length:=by rw[jtL];exact r.length.symm
 refine⟨"tuple",_,PyProof.Rows.slot_tuple_getitem.lookup,ht.typeIs,?_⟩;refine HT.jcq ht hs pl pu (by rw[hlen];exact hw) ?_ (by rw[hlen];exact hz)
 rw[hlen];refine⟨.ref s.heap.objs.size,_,I.laid (t':=s.toks) (o:=.tup (jmB xs lo hi)) (fun b ob q=>jug _ q) (jul _) ?_,rfl,q _ (I.hok.fresh (jul _))⟩;exact⟨juo (jcS xs lo hi) hz,_,(r.drop (HT.sIx xs.length 0 lo)).take (HT.sIx xs.length xs.length hi - HT.sIx xs.length 0 lo),IsTup.new _ _⟩
noncomputable def jtg (K:PySem.W.Frag):R2:=fun x y H Q=>∃a b ns ms,x=.ref a/\y=.ref b/\SqT K H a (ns.map V.int)/\SqT K H b (ms.map V.int)/\Q (.bl (HT.lexLt ns ms)) H
theorem jpP (hu:X.A.units<cLine):OpR X (compareOp .Lt) (jtg X.K):=by
 intro pins s σ H x y v u Q I rx ry h;obtain⟨a,b,ns,ms,rfl,rfl,ha,hb,q⟩:=h;cases rx;cases ry;obtain⟨its,r1,p1,_⟩:=I.tuple ha;obtain⟨its2,r2,p2,_⟩:=I.tuple hb;have i1:IntsAre its.toArray.toList ns:=jdI r1;have i2:IntsAre its2.toArray.toList ms:=jdI r2;exact HT.jhg p1 p2 i1 i2 hu ⟨.bl (HT.lexLt ns ms),H,I,rfl,q⟩
noncomputable def jrO (K:PySem.W.Frag):R2:=fun x y H Q=>∃a b xs ys,x=.ref a/\y=.ref b/\SqT K H a xs/\SqT K H b ys/\xs≠[]/\xs.length+ys.length<=sizeLine /\
 (ys=[]->Q (.ref a) H)/\(ys≠[]->∀p,H p=none->Q (.ref p) (upd H p (.tup (xs++ys))))
theorem Vals.nil_iff {xs:List V}{us:List Value}(r:Vals xs us):us=[]↔xs=[]:=by
 cases r with
 |nil=>simp
 |cons _ _=>simp
theorem jnm:OpR X (binaryOp .Add) (jrO X.K):=by
 intro pins s σ H x y v u Q I rx ry h;obtain⟨a,b,xs,ys,rfl,rfl,ha,hb,hx,hz,q1,q2⟩:=h;cases rx;cases ry;obtain⟨its,r1,p1,_⟩:=I.tuple ha;obtain⟨its2,r2,p2,_⟩:=I.tuple hb;refine HT.jni p1 p2 (fun z=>hx (r1.nil_iff.mp z)) (fun z=>⟨.ref a,H,I,rfl,q1 (r2.nil_iff.mp z)⟩) (fun z=>?_) (by rw[<-r1.length,<-r2.length];exact hz)
 refine⟨.ref s.heap.objs.size,_,I.laid (t':=s.toks) (o:=.tup (xs++ys)) (fun b ob q=>jug _ q) (jul _) ?_,rfl,q2 (fun w=>z (r2.nil_iff.mpr w)) _ (I.hok.fresh (jul _))⟩;exact⟨by rw[jtV];exact hz,_,r1.append r2,IsTup.new _ _⟩
end
end L2
namespace L2
open PySem PySem.Spec PyProof.Rows
noncomputable def ixN (n:Nat)(i:Int):Option Nat:=if 0<=i then (if i<n then some i.toNat else none)else if -(n:Int)<=i then some (i+n).toNat else none
noncomputable def atI {α:Type}(xs:List α)(i:Int):Option α:=(ixN xs.length i).bind fun j=>xs[j]?
theorem jiv {n:Nat}{i:Int}{j:Nat}(h:ixN n i=some j):seqIndex? i n=some j/\j<n/\-(n:Int)<=i/\i<n:=by
 unfold ixN at h;by_cases h0:0<=i
 ·rw[if_pos h0]at h;by_cases h1:i<n
  ·rw[if_pos h1]at h;have e:i.toNat=j:=Option.some.inj h;exact⟨by rw[seqIndex_of h0 h1,e],by omega,by omega,h1⟩
  ·rw[if_neg h1]at h;cases h
 ·rw[if_neg h0]at h;by_cases h1:-(n:Int)<=i
  ·rw[if_pos h1]at h;have e:(i+n).toNat=j:=Option.some.inj h;exact⟨by rw[seqIndex_neg @0 h1,e],by omega,h1,by omega⟩
  ·rw[if_neg h1]at h;cases h
theorem jfw {α:Type}{xs:List α}{i:Int}{v:α}(h:atI xs i=some v):∃j,seqIndex? i xs.length=some j/\xs[j]?=some v/\j<xs.length/\-(xs.length:Int)<=i/\i<xs.length:=by
 unfold atI at h;cases e:ixN xs.length i with
 |none=>rw[e]at h;cases h
 |some j=>
  rw[e]at h;obtain⟨h1,h2,h3,h4⟩:=jiv e;exact⟨j,h1,h,h2,h3,h4⟩
noncomputable def jiw (b:Expr):Prop:=∀o i,subscripted b false o i=operate [o,i] (getItem o i)
noncomputable def IxR (X:Cx)(r:R2):Prop:=
 ∀(value slice:Expr) (pins:List (Addr×Obj)) (s:Shared) (σ:St) (H:Hp) (x y:V) (v u:Value) (Q:VK),Inv X pins σ H s->RelV x v->RelV y u->r x y H Q ->
  subscripted slice false v u=operate [v,u] (getItem v u)->wpAny @4 X.A (subscriptTail value slice v u) (EP X pins σ Q) X.xe s
noncomputable def MtR (X:Cx)(id:String)(r:V->List V->Hp->VK->Prop):Prop:=
 ∀(pins:List (Addr×Obj)) (s:Shared) (σ:St) (H:Hp) (x:V) (xs:List V) (v:Value) (us:List Value) (Q:VK),Inv X pins σ H s->RelV x v->Vals xs us->r x xs H Q ->
  wpAny @4 X.A (call (.builtin id) (v::us)) (EP X pins σ Q) X.xe s
section
variable {X:Cx}{a b:Expr}{ta tb:TE}{pos:Pos}
theorem IxR.or {r r':R2}(h:IxR X r)(h':IxR X r'):IxR X (fun x y H Q=>r x y H Q\/r' x y H Q):=by
 intro value slice pins s σ H x y v u Q I rx ry q hs;rcases q with q | q
 ·exact h value slice pins s σ H x y v u Q I rx ry q hs
 ·exact h' value slice pins s σ H x y v u Q I rx ry q hs
theorem jrP {r:R2}(hr:IxR X r)(ha:PE X a ta)(hb:PE X b tb)(hs:jiw b):PE X (.Subscript a b pos) (tOp r ta tb):=by
 intro pins s σ H Q I h;exact Subscript_ (jrC ha hb I h fun v u s2 x y H2 I2 rx ry q=>hr a b pins s2 σ H2 x y v u Q I2 rx ry q (hs _ _))
noncomputable def jsR (K:PySem.W.Frag):R2:=fun x y H Q=>∃p xs i v,x=.ref p/\y=.int i/\SqL K H p xs/\atI xs i=some v/\Q v H
noncomputable def jsS (K:PySem.W.Frag):R2:=fun x y H Q=>∃p xs i v,x=.ref p/\y=.int i/\SqT K H p xs/\atI xs i=some v/\Q v H
noncomputable def jsT:R2:=fun x y H Q=>∃z i c,x=.str z/\y=.int i/\z.length<=sizeLine/\atI z.cps.toList i=some c/\Q (.str ⟨#[c]⟩) H
theorem ix_list:IxR X (jsR X.K):=by
 intro value slice pins s σ H x y v u Q I rx ry h hs;obtain⟨p,xs,i,z,rfl,rfl,hq,he,q⟩:=h;cases rx;obtain⟨t,rfl⟩:=ry;obtain⟨its,r,pl,hz⟩:=I.list hq;obtain⟨j,h1,h2,h3,h4,h5⟩:=jfw he;obtain⟨w,ew,rw'⟩:=r.get h2;have hl:=r.length;have hn:=jcx;have fin:EP X pins σ Q w s:=⟨z,H,I,rw',q⟩;by_cases h0:0<=i
 ·have hj:i.toNat=j:=by
   rw[seqIndex_of h0 h5]at h1;exact Option.some.inj h1
  exact item_listR pl.isList h0 @0 (by rw[hj];simpa using ew) fin hs
 ·have hj:(i+(its.toArray.size:Int)).toNat=j:=by
   rw[seqIndex_neg @0 h4]at h1
   rw[jtL,<-hl];exact Option.some.inj h1
  exact subscriptTail_builtinR (x:=w) pl.isList.typeIs slot_list_getitem.lookup
   (wpAny_getItem_list_neg (Q:=fun r s'=>r=w/\EP X pins σ Q r s') pl.isList @0 (by rw[jtL] <;> omega) @0 (by rw[hj];simpa using ew) ⟨rfl,fin⟩) hs
theorem ix_tup:IxR X (jsS X.K):=by
 intro value slice pins s σ H x y v u Q I rx ry h hs;obtain⟨p,xs,i,z,rfl,rfl,hq,he,q⟩:=h;cases rx;obtain⟨t,rfl⟩:=ry;obtain⟨its,r,pl,hz⟩:=I.tuple hq;obtain⟨j,h1,h2,h3,h4,h5⟩:=jfw he;obtain⟨w,ew,rw'⟩:=r.get h2;have hl:=r.length;have hn:=jcx;have fin:EP X pins σ Q w s:=⟨z,H,I,rw',q⟩;exact subscriptTail_builtinR (x:=w) pl.typeIs slot_tuple_getitem.lookup
  (getItem_tuple (j:=j) (Q:=fun r s'=>r=w/\EP X pins σ Q r s') pl @0 @0 (by rw[jtL,<-hl];exact h1) (by simpa using ew) ⟨rfl,fin⟩) hs
theorem jpQ:IxR X jsT:=by
 intro value slice pins s σ H x y v u Q I rx ry h hs;obtain⟨z,i,c,rfl,rfl,hz,he,q⟩:=h;obtain⟨t,rfl⟩:=rx;obtain⟨t',rfl⟩:=ry;obtain⟨j,h1,h2,h3,h4,h5⟩:=jfw he;have hl:z.cps.toList.length=z.length:=by simp[Str.length]
 rw[hl]at h1 h4 h5;have hn:=jcx;exact tail_any (typeIs_str s z t) slot_str_getitem.lookup (getItem_str (c:=c) (by
  have e1:decide (i < -(2 ^ 63:Int))=false:=decide_eq_false @0
  have e2:decide (i>=2 ^ 63)=false:=decide_eq_false @0
  rw[e1,e2,Bool.or_false]) (by rw[h1];simpa using h2) ⟨.str ⟨#[c]⟩,H,I.tok _,⟨_,rfl⟩,q⟩) hs
noncomputable def rIx (K:PySem.W.Frag):R2:=fun x y H Q=>jsR K x y H Q\/jsS K x y H Q\/jsT x y H Q
theorem jpR:IxR X (rIx X.K):=ix_list.or (ix_tup.or jpQ)
theorem jhj (its:List Value)(n j:Nat)(u:Value):Obj.mapSeq (·.setIfInBounds j u) { cls:=.type "list",data:=.seq its.toArray n }={ cls:=.type "list",data:=.seq (its.set j u).toArray n }:=by
 simp[Obj.mapSeq]
theorem Inv.lst {pins:List (Addr×Obj)}{σ:St}{H:Hp}{s:Shared}{p:Addr}{xs:List V}(I:Inv X pins σ H s)(h:H p=some (.lst xs)) :
  ∃(its:List Value) (n:Nat),Vals xs its/\s.heap.get? p=some { cls:=.type "list",data:=.seq its.toArray n }/\xs.length<=sizeLine:=by
 obtain⟨z,its,n,r,e⟩:=I.hok p _ h;exact⟨its,n,r,e,z⟩
theorem Inv.lstUpd {pins:List (Addr×Obj)}{σ:St}{H:Hp}{s:Shared}{p:Addr}{xs ys:List V}{its its':List Value}{n n':Nat}{f:Obj->Obj}(I:Inv X pins σ H s)(h:H p=some (.lst xs))
  (ho:s.heap.get? p=some { cls:=.type "list",data:=.seq its.toArray n }) (hf:f { cls:=.type "list",data:=.seq its.toArray n }={ cls:=.type "list",data:=.seq its'.toArray n' }) (r:Vals ys its') (hz:ys.length<=sizeLine) (t:Nat) :
  Inv X pins σ (upd H p (.lst ys)) { s with heap:=s.heap.update p f,toks:=t }:=by
 have e:(s.heap.update p f).get? p=some { cls:=.type "list",data:=.seq its'.toArray n' }:=by
  rw[juj f ho (by rw[hf] <;> rfl),hf]
 refine I.write (x:=p) (e:=p) (by rw[h];trivial) (.inl rfl) (fun b u hb q=>(juk _ _ (Ne.symm hb)).trans q) ⟨_,e⟩ ?_
 exact⟨hz,its',n',r,e⟩
noncomputable def jpS:V->V->V->Hp->(Hp->Prop)->Prop:=fun o i v H Q=>∃p xs k j,o=.ref p/\i=.int k/\H p=some (.lst xs)/\ixN xs.length k=some j/\Q (upd H p (.lst (xs.set j v)))
theorem jkU:jrk X jpS:=by
 intro pins s σ H o i v ov iv u Q I ro ri rv h;obtain⟨p,xs,k,j,rfl,rfl,hp,hj,q⟩:=h;cases ro;obtain⟨t,rfl⟩:=ri;obtain⟨its,n,r,ho,hz⟩:=I.lst hp;obtain⟨h1,h2,h3,h4⟩:=jiv hj;have hl:=r.length;have hn:=jcx;have I':Inv X pins σ (upd H p (.lst (xs.set j v))) { s with heap:=s.heap.update p (Obj.mapSeq (·.setIfInBounds j u)) }:=
  I.lstUpd hp ho (jhj its n j u) (r.set rv j) (by rw[jt4];exact hz) s.toks
 by_cases h0:0<=k
 ·have hk:k.toNat=j:=by
   rw[seqIndex_of h0 h4]at h1;exact Option.some.inj h1
  exact PySem.W.ki_setAt ho h0 @0 (by rw[jtL,<-hl];exact h4) (by rw[hk];exact⟨_,I',q⟩)
 ·have hk:(k+(its.toArray.size:Int)).toNat=j:=by
   rw[seqIndex_neg @0 h3]at h1
   rw[jtL,<-hl];exact Option.some.inj h1
  exact PySem.W.ki_setBack ho @0 (by rw[jtL,<-hl];exact h3) @0 (by rw[hk];exact⟨_,I',q⟩)
theorem jev (lo hi:Option Int)(n:Nat):(sliceBounds lo hi none n).1=((HT.sIx n 0 lo:Nat):Int)/\(sliceBounds lo hi none n).2.1=((HT.sIx n n hi:Nat):Int)/\(sliceBounds lo hi none n).2.2=1:=by
 refine⟨?_,?_,rfl⟩
 ·cases lo with
  |none=>simp[sliceBounds,HT.sIx]
  |some i=>
   simp only[sliceBounds,HT.sIx,Option.getD_none,show (1:Int)>0 by decide,if_true]
   by_cases h:i<0
   ·simp only[h,if_true] <;> omega
   ·simp only[h,if_false] <;> omega
 ·cases hi with
  |none=>simp[sliceBounds,HT.sIx]
  |some i=>
   simp only[sliceBounds,HT.sIx,Option.getD_none,show (1:Int)>0 by decide,if_true]
   by_cases h:i<0
   ·simp only[h,if_true] <;> omega
   ·simp only[h,if_false] <;> omega
theorem jdW (its:List Value)(lo hi:Option Int):slicePick its.toArray lo hi none=((its.drop (HT.sIx its.length 0 lo)).take (HT.sIx its.length its.length hi - HT.sIx its.length 0 lo)).toArray:=by
 obtain⟨h1,h2,h3⟩:=jev lo hi its.toArray.size;unfold slicePick;rw[h1,h2,h3];simp only[sliceRange_one,pick_run,jtL] <;> rfl
noncomputable def jth (K:PySem.W.Frag):V->Option Int->Option Int->Hp->VK->Prop:=fun x lo hi H Q=>∃a xs,x=.ref a/\SqL K H a xs/\∀p,H p=none->Q (.ref p) (upd H p (.lst (jmB xs lo hi)))
theorem jnn:SlR X (jth X.K):=by
 intro pins s σ H x v vl vu lo hi sl Q I rx hs pl pu h;obtain⟨a,xs,rfl,hx,q⟩:=h;cases rx;obtain⟨its,r,ht,hz⟩:=I.list hx;have hlen:=r.length;refine⟨"list",_,slot_list_getitem.lookup,ht.isList.typeIs,?_⟩;refine wpAny_getItem_list_slice ht.isList hs pl pu .none @11 ?_ (by rw[jtL] <;> omega)
 rw[jdW,<-hlen];refine⟨.ref s.heap.objs.size,_,I.laid (t':=s.toks) (o:=.lst (jmB xs lo hi)) (fun b ob q=>jug _ q) (jul _) ?_,rfl,q _ (I.hok.fresh (jul _))⟩;exact⟨juo (jcS xs lo hi) hz,_,0,(r.drop (HT.sIx xs.length 0 lo)).take (HT.sIx xs.length xs.length hi - HT.sIx xs.length 0 lo),jui _ rfl⟩
theorem call_len_seq:CallR X (.builtin "len") (fun xs H Q=>∃p ys,xs=[.ref p]/\(SqL X.K H p ys\/SqT X.K H p ys)/\Q (.int ys.length) H):=by
 intro pins s σ H xs us Q I r h;obtain⟨p,ys,rfl,hq,q⟩:=h;obtain⟨u,rfl,rx⟩:=jbW r;cases rx;have hn:=jcx;rcases hq with hq | hq
 ·obtain⟨its,r',pl,hz⟩:=I.list hq;have hlen:=r'.length;exact Calls.call_len_list pl.isList (by simp only[jtL] <;> omega) ⟨.int ys.length,H,I.tok _,⟨s.toks+1,by rw[jtL,hlen]⟩,q⟩
 ·obtain⟨its,r',pl,hz⟩:=I.tuple hq;have hlen:=r'.length;exact len_tuple pl (by simp only[jtL] <;> omega) ⟨.int ys.length,H,I.tok _,⟨s.toks+1,by rw[jtL,hlen]⟩,q⟩
theorem jew:CallR X (.builtin "len") (fun xs H Q=>∃z,xs=[.str z]/\z.length<=sizeLine/\Q (.int z.length) H):=by
 intro pins s σ H xs us Q I r h;obtain⟨z,rfl,hz,q⟩:=h;obtain⟨u,rfl,t,rfl⟩:=jbW r;have hn:=jcx;exact len_str @0 ⟨.int z.length,H,I.tok _,⟨_,rfl⟩,q⟩
theorem CallR.or {f:Value}{r r':List V->Hp->VK->Prop}(h:CallR X f r)(h':CallR X f r'):CallR X f (fun xs H Q=>r xs H Q\/r' xs H Q):=by
 intro pins s σ H xs us Q I rs q;rcases q with q | q
 ·exact h pins s σ H xs us Q I rs q
 ·exact h' pins s σ H xs us Q I rs q
theorem jex:CallR X (.type "list") (fun xs H Q=>∃p ys,xs=[.ref p]/\(SqL X.K H p ys\/SqT X.K H p ys)/\∀l,H l=none->Q (.ref l) (upd H l (.lst ys))):=by
 intro pins s σ H xs us Q I r h;obtain⟨p,ys,rfl,hq,q⟩:=h;obtain⟨u,rfl,rx⟩:=jbW r;cases rx;have fin:∀(its:List Value),Vals ys its->ys.length<=sizeLine->∀(h':Heap) (c':Nat),(∀b o',s.heap.get? b=some o'->h'.get? b=some o') ->
   h'.get? s.heap.objs.size=some { cls:=.type "list",dict:=none,data:=.seq its.toArray c',slots:=#[] }->EP X pins σ Q (.ref s.heap.objs.size) { s with heap:=h' }:=fun its r' hz h' c' kp e=>
  ⟨.ref s.heap.objs.size,_,I.laid (t':=s.toks) kp (jul _) (show ObjOk X.prog X.w _ h' _ (.lst ys)from⟨hz,its,c',r',e⟩),rfl,q _ (I.hok.fresh (jul _))⟩
 rcases hq with hq | hq
 ·obtain⟨its,r',pl,hz⟩:=I.list hq;have hlen:=r'.length;obtain⟨o,ho,hc,n,hd⟩:=pl.isList;exact call_list_seq p (.inl rfl) ho hc hd (fun h' c' kp e=>fin its r' hz h' c' kp e) (by simp only[jtL] <;> omega)
 ·obtain⟨its,r',pl,hz⟩:=I.tuple hq;have hlen:=r'.length;obtain⟨o,ho,hc,n,hd⟩:=pl;exact call_list_seq p (.inr rfl) ho hc hd (fun h' c' kp e=>fin its r' hz h' c' kp e) (by simp only[jtL] <;> omega)
theorem jdX:CallR X (.type "tuple") (fun xs H Q=>∃p ys,xs=[.ref p]/\((SqL X.K H p ys/\∀l,H l=none->Q (.ref l) (upd H l (.tup ys)))\/(SqT X.K H p ys/\Q (.ref p) H))):=by
 intro pins s σ H xs us Q I r h;obtain⟨p,ys,rfl,h⟩:=h;obtain⟨u,rfl,rx⟩:=jbW r;cases rx;rcases h with ⟨hq,q⟩ | ⟨hq,q⟩
 ·obtain⟨its,r',pl,hz⟩:=I.list hq;have hlen:=r'.length;refine call_tuple_list pl.isList (fun h' kp=>?_) (by simp only[jtL] <;> omega)
  have I1:Inv X pins σ H { s with heap:=h' }:=I.kept (t':=s.toks) kp
  have I2:Inv X pins σ (upd H h'.objs.size (.tup ys)) { s with heap:=h'.push { cls:=.type "tuple",data:=.seq its.toArray } }:=
   I1.laid (t':=s.toks) (fun b o e=>jug _ e) (jul _) (show ObjOk X.prog X.w _ _ _ (.tup ys)from⟨hz,its,r',IsTup.new _ _⟩)
  exact⟨.ref h'.objs.size,_,I2,rfl,q _ (I1.hok.fresh (jul _))⟩
 ·obtain⟨its,r',pl,hz⟩:=I.tuple hq;exact call_tuple_same pl ⟨.ref p,H,I,rfl,q⟩
noncomputable def tyV (K:PySem.W.Frag)(T:String)(x:V)(H:Hp):Prop:=match x with
 |.str _=>T="str"
 |.int _=>T="int"
 |.ref p=>(T="list"/\∃xs,SqL K H p xs)\/(T="tuple"/\∃o,K.lookup p=some o/\o.cls=.type "tuple"/\o.dict=none) \/
   (T="dict"/\((∃kvs,H p=some (.dK kvs))\/∃kvs ep,H p=some (.dT kvs ep)))\/(T="set"/\∃S n,H p=some (.set S n))
 |_=>False
theorem jmC {pins:List (Addr×Obj)}{σ:St}{H:Hp}{s:Shared}{T:String}{x:V}{v:Value}(I:Inv X pins σ H s)(r:RelV x v)(ty:tyV X.K T x H) :
  s.TypeIs v T/\∀a,v=.ref a->∃ob,s.heap.get? a=some ob/\ob.dict=none:=by
 cases x with
 |str z=>
  obtain⟨t,rfl⟩:=r;cases (show T="str" from ty);exact⟨typeIs_str s z t,fun _ e=>nomatch e⟩
 |int i=>
  obtain⟨t,rfl⟩:=r;cases (show T="int" from ty);exact⟨typeIs_int s i t,fun _ e=>nomatch e⟩
 |ref p=>
  cases r;rcases ty with ⟨rfl,xs,hq⟩ | ⟨rfl,o,hk,hc,hd⟩ | ⟨rfl,hk⟩ | ⟨rfl,S,n,hk⟩
  ·obtain⟨its,_,pl,_⟩:=I.list hq;refine⟨pl.isList.typeIs,fun a e=>?_⟩;cases e;obtain⟨o,n,e,c,hd,_⟩:=pl;exact⟨o,e,hd⟩
  ·refine⟨⟨o,I.kIn p o hk,hc⟩,fun a e=>?_⟩;cases e;exact⟨o,I.kIn _ o hk,hd⟩
  ·have z:∃o,s.heap.get? p=some o/\o.ExactDict:=by
    rcases hk with ⟨kvs,hk⟩ | ⟨kvs,ep0,hk⟩
    ·obtain⟨_,_,_,_,o,_,_,e,ex,_⟩:=I.hok p _ hk;exact⟨o,e,ex⟩
    ·obtain⟨_,o,_,e,ex,_⟩:=I.hok p _ hk;exact⟨o,e,ex⟩
   obtain⟨o,e,ex⟩:=z;refine⟨⟨o,e,ex.1⟩,fun a e2=>?_⟩;cases e2;exact⟨o,e,ex.2.1⟩
  ·obtain⟨o,_,_,_,e,ex,_⟩:=I.hok p _ hk;refine⟨⟨o,e,ex.1⟩,fun a e2=>?_⟩;cases e2;exact⟨o,e,ex.2.1⟩
 |_=>exact False.elim ty
noncomputable def jti (K:PySem.W.Frag)(T:String)(r:V->List V->Hp->VK->Prop)(to:TE):TE:=fun σ H Q=>to σ H fun x H1=>tyV K T x H1/\r x [] H1 Q
noncomputable def tBM (K:PySem.W.Frag)(T:String)(r:V->List V->Hp->VK->Prop)(to:TE)(t:TA):TE:=fun σ H Q=>to σ H fun x H1=>tyV K T x H1/\t σ H1 fun xs H2=>r x xs H2 Q
variable {o e:Expr}{es:List Expr}{to:TE}{t:TA}{name:Str}{apos cpos:Pos}{T id:String}{r:V->List V->Hp->VK->Prop}
theorem jpT (pa:PlainAttrs T)(slot:Slot T name id)(hty:typeOf (.builtin id)=pure (.type "method_descriptor"))(hm:MtR X id r)(ho:PE X o to)
  (hbase:attributeBase o name X.env (eval o X.env)=eval o X.env:=by rfl) (hline:(apos.endLine==cpos.line)=true:=by rfl):PE X (.Call (.Attribute o name apos) [] [] cpos) (jti X.K T r to):=by
 intro pins s σ H Q I h;refine wpAny_Call_method0_late hbase hline (thn (ho pins s σ H _ I h) fun v s1 hzz=>?_);obtain⟨x,H1,I1,r1,ty,q1⟩:=hzz;obtain⟨h1,h2⟩:=jmC I1 r1 ty;exact⟨T,id,pa,slot,hty,h1,h2,Calls.callWith_builtin rfl (PySem.evalArgs_none (hm pins s1 σ H1 x [] v [] Q I1 r1 .nil q1))⟩
theorem jpU (pa:PlainAttrs T)(slot:Slot T name id)(hty:typeOf (.builtin id)=pure (.type "method_descriptor"))(hm:MtR X id r)(ho:PE X o to)(ha:PA X (e::es) t)
  (hbase:attributeBase o name X.env (eval o X.env)=eval o X.env:=by rfl)
  (hfew:((backTo cpos (starEach (e::es) X.env)).all (fun x=>!x.1)&&(backToKw cpos (keywordEach [] X.env)).all (fun x=>x.1.isSome)
   && decide ((e::es).length+([]:List Keyword).length+(if ([]:List Keyword).isEmpty then 0 else 1)<30))=true:=by rfl)
  (hline:(apos.endLine==cpos.line)=true:=by rfl) (hs:starEach (e::es) X.env=(false,eval e X.env)::starEach es X.env:=by rfl) (hplain:(backTo cpos (starEach es X.env)).any (·.1)=false:=by rfl) :
  PE X (.Call (.Attribute o name apos) (e::es) [] cpos) (tBM X.K T r to t):=by
 intro pins s σ H Q I h;refine wpAny_Call_method_late hbase hfew hline rfl (thn (ho pins s σ H _ I h) fun v s1 hzz=>?_);obtain⟨x,H1,I1,r1,ty,q1⟩:=hzz;obtain⟨h1,h2⟩:=jmC I1 r1 ty;refine⟨T,id,pa,slot,hty,h1,h2,?_⟩;have hA:=ha cpos pins s1 σ H1 _ I1 q1;rw[hs]at hA ⊢;refine Calls.callWith_builtin (by show (false || (backTo cpos (starEach es X.env)).any (·.1))=false;rw[hplain] <;> rfl) (Calls.evalArgs_plain ?_)
 exact thn hA fun us s2 ⟨vs,H2,I2,r2,q2⟩=>hm pins s2 σ H2 x vs v us Q I2 r1 r2 q2
end
end L2
namespace L2
open PySem PySem.Spec PyProof.Rows
noncomputable def MtM (X:Cx)(id:String)(r:V->List V->Hp->VK->Prop):Prop:=
 ∀(pins:List (Addr×Obj)) (s:Shared) (σ:St) (H:Hp) (x:V) (xs:List V) (v:Value) (us:List Value) (Q:VK),Inv X pins σ H s->RelV x v->Vals xs us->r x xs H Q ->
  wpAny @4 X.A (call (.builtin id) (v::us)) (EP X pins σ Q) X.xe s
theorem Vals.one {x:V}{us:List Value}(h:Vals [x] us):∃u,us=[u]/\RelV x u:=by
 cases h with
 |cons r h=>cases h;exact⟨_,rfl,r⟩
theorem Vals.zero:∀{us:List Value},Vals [] us->us=[]
 |_,.nil=>rfl
theorem Vals.dropLast {xs:List V}{us:List Value}(h:Vals xs us):Vals xs.dropLast us.dropLast:=by
 induction h with
 |nil=>exact .nil
 |cons r t ih=>
  cases t with
  |nil=>exact .nil
  |cons q t'=>exact .cons r ih
theorem Vals.reverse {xs:List V}{us:List Value}(h:Vals xs us):Vals xs.reverse us.reverse:=by
 induction h with
 |nil=>exact .nil
 |cons r t ih=>rw[List.reverse_cons,List.reverse_cons];exact Vals.append ih (.cons r .nil)
theorem Vals.rep {xs:List V}{us:List Value}(h:Vals xs us):∀k:Nat,Vals (List.replicate k xs).flatten (List.replicate k us).flatten
 |0=>.nil
 |k+1=>by
  rw[List.replicate_succ,List.replicate_succ,List.flatten_cons,List.flatten_cons];exact Vals.append h (Vals.rep h k)
theorem jhk {α:Type}(l:List α):l.eraseIdx (l.length - 1)=l.dropLast:=by
 induction l with
 |nil=>rfl
 |cons a r ih=>
  cases r with
  |nil=>rfl
  |cons b r=>
   have e:(a::b::r).length - 1=((b::r).length - 1)+1:=by
    rfl
   rw[e,List.eraseIdx_cons_succ,ih];all_goals rfl
theorem jcT (its:List Value):∀(k:Nat) (acc:List Value),
  List.foldl (fun x1 x2=>x1++x2) acc.toArray (List.replicate k its.toArray)=(acc++(List.replicate k its).flatten).toArray
 |0,acc=>by simp
 |k+1,acc=>by
  have e:acc.toArray++its.toArray=(acc++its).toArray:=by simp
  have e2:(acc++its)++(List.replicate k its).flatten=acc++(List.replicate (k+1) its).flatten:=by
   rw[List.replicate_succ,List.flatten_cons,jt6]
  rw[<-e2,<-jcT its k (acc++its),<-e,List.replicate_succ,List.foldl_cons]
section
variable {X:Cx}{pins:List (Addr×Obj)}{σ:St}{H:Hp}{s:Shared}{l b:Addr}{xs ys zs:List V}
theorem Inv.lset {its its':List Value}{n:Nat}{f:Array Value->Array Value}{t':Nat}(I:Inv X pins σ H s)(hH:H l=some (.lst xs))
  (e:s.heap.get? l=some { cls:=.type "list",data:=.seq its.toArray n }) (hf:f its.toArray=its'.toArray) (hv:Vals ys its') (hz:ys.length<=sizeLine) :
  Inv X pins σ (upd H l (.lst ys)) { s with heap:=s.heap.update l (Obj.mapSeq f),toks:=t' }:=by
 have q:=PySem.IsL.update e f;rw[hf]at q;refine I.write (x:=l) (e:=l) (by rw[hH];exact trivial) (.inl rfl) (fun b' u hb hu=>(juk s.heap (Obj.mapSeq f) (Ne.symm hb)).trans hu) ⟨_,q⟩ ?_
 exact⟨hz,its',_,hv,q⟩
theorem Inv.lnew {its:List Value}{t':Nat}(I:Inv X pins σ H s)(hv:Vals ys its)(hz:ys.length<=sizeLine) :
  Inv X pins σ (upd H s.heap.objs.size (.lst ys)) { s with heap:=s.heap.push { cls:=.type "list",data:=.seq its.toArray },toks:=t' }:=
 I.laid (fun _ _ q=>jug _ q) (jul _) ⟨hz,its,0,hv,jui _ rfl⟩
theorem Inv.fresh (I:Inv X pins σ H s):H s.heap.objs.size=none:=I.hok.fresh (jul _)
theorem Inv.lstM (I:Inv X pins σ H s)(hH:H l=some (.lst xs)):xs.length<=sizeLine/\∃(its:List Value) (n:Nat),Vals xs its/\xs.length=its.length/\s.heap.get? l=some { cls:=.type "list",data:=.seq its.toArray n }:=by
 obtain⟨z,its,n,r,e⟩:=I.hok l _ hH;exact⟨z,its,n,r,r.length,e⟩
theorem jdY {n:Nat}(h:n<=sizeLine):Builtin.List.listTooLong n=false:=by
 unfold Builtin.List.listTooLong;exact decide_eq_false @0
end
section
variable {X:Cx}
noncomputable def jno:V->List V->Hp->VK->Prop:=fun x vs H Q=>∃l xs y,x=.ref l/\vs=[y]/\H l=some (.lst xs)/\xs.length<sizeLine/\Q .non (upd H l (.lst (xs++[y])))
theorem jey:MtM X "list.append" jno:=by
 intro pins s σ H x vs v us Q I rx rv h;obtain⟨l,xs,y,rfl,rfl,hH,hz,q⟩:=h;cases rx;obtain⟨u,rfl,ru⟩:=rv.one;obtain⟨z,its,n,r,hl,e⟩:=I.lstM hH;refine call_meets F.slot_list_append ⟨_,e,rfl⟩ F.entry_list_append (F.args_list_append_2 _ _) (PySem.list_append l its.toArray n u (by rw[jtL];omega)) ⟨e,?_⟩
 refine⟨.non,_,I.lset (its':=its++[u]) hH e @11 (r.append (.cons ru .nil)) ?_,rfl,q⟩
 rw[jtV,List.length_singleton];omega
noncomputable def jtj:V->List V->Hp->VK->Prop:=fun x vs H Q=>∃l xs y,x=.ref l/\vs=[]/\H l=some (.lst xs)/\xs[xs.length - 1]?=some y/\Q y (upd H l (.lst xs.dropLast))
theorem jpV:MtM X "list.pop" jtj:=by
 intro pins s σ H x vs v us Q I rx rv h;obtain⟨l,xs,y,rfl,rfl,hH,hy,q⟩:=h;cases rx;have hus:=rv.zero;subst hus;obtain⟨z,its,n,r,hl,e⟩:=I.lstM hH;obtain⟨u,hu,ru⟩:=r.get hy;have hy':its.toArray[its.toArray.size - 1]?=some u:=by
  show its.toArray[its.length - 1]?=some u;rw[<-Array.getElem?_toList,<-hl];exact hu
 refine call_meets F.slot_list_pop ⟨_,e,rfl⟩ F.entry_list_pop (F.args_list_pop_1 _) (MeetsSeq.list_pop_last l its.toArray n u hy' (by rw[jtL];omega)) ⟨e,?_⟩
 refine⟨y,_,I.lset (its':=its.dropLast) hH e ?_ r.dropLast ?_,ru,q⟩
 ·show its.toArray.eraseIdxIfInBounds (its.toArray.size - 1)=its.dropLast.toArray;rw[jtL,List.eraseIdxIfInBounds_toArray,jhk]
 ·rw[List.length_dropLast];omega
theorem jfx {α:Type}(xs:List α)(k:Nat):(List.replicate k xs).flatten.length=k * xs.length:=by
 induction k with
 |zero=>simp
 |succ k ih=>rw[List.replicate_succ,List.flatten_cons,jtV,ih,Nat.succ_mul,Nat.add_comm]
end
section
variable {prog:Program}{w:World}{A:Around}{E:Value->Shared->Prop}{s:Shared}
set_option maxRecDepth 100000 in
end
section
variable {X:Cx}
end
end L2
namespace Att
open PySem PySem.W PySem.Calls PyProof.Rows
theorem jcU {P:Params}{h:Heap}:∀(ns:List Int) (vs:List Value),WellAll P h vs (ns.map WData.int)->IntsAre vs ns:=by
 intro ns;induction ns with
 |nil=>
  intro vs w;rw[List.map_nil]at w;cases w;exact .nil
 |cons n ns ih=>
  intro vs w;rw[jtO]at w;cases w with
  |cons a b=>
   cases a;exact .cons _ _ (ih _ b)
theorem jix {l:OpenLaw}{n:Nat}(hn:l.most=some n){P:Params}{h:Heap}{args:List WData}{vals:List Value}
  (hpre:l.row.toRowW.claim.pre args=true) (hwl:WellAll P h vals args) :
  ∃a vs ns,vals=[Value.ref a]/\args=[WData.list (ns.map WData.int)]/\h.get? a=some { cls:=.type "list",data:=.seq vs.toArray }/\IntsAre vs ns/\ns.length<=n:=by
 have hsh:WShape.hasAll [] args [.list .int]=true:=(pre_splitW hpre).1;have hc:l.pre.holds [] { args:=args }=true:=(pre_splitW hpre).2;obtain⟨d,r,rfl,h1,h2⟩:=hasAllW_cons hsh;obtain rfl:=hasAllW_nil h2;obtain⟨xs,rfl,h3⟩:=hasW_list h1;obtain⟨ns,rfl⟩:=items_int h3;have hlen:ns.length<=n:=by
  unfold OpenLaw.pre at hc;have h4:(WTm.not (.lt (.lit (.int (n:Int))) (.len (.arg 0)))).holds [] { args:=[.list (ns.map .int)] }=true:=by
   have h4:=(holds_andW hc).1;rw[hn]at h4;exact h4
  have h5:=condW_of h4 (w_not (w_lt w_lit (w_len_list (w_arg rfl))));rw[jtQ]at h5;refine Nat.le_of_not_lt fun q=>?_;have q':(n:Int)<((ns.length:Nat):Int):=by omega
  first
   |(rw[decide_eq_true q']at h5;exact absurd h5 (by decide))
   |(simp at h5;omega)
 cases hwl with
 |cons w1 w2=>
  cases w2;cases w1 with
  |list ho hall=>exact⟨_,_,ns,rfl,rfl,ho,jcU ns _ hall,hlen⟩
theorem jiy (l:OpenLaw)(args:List WData):l.row.toRowW.claim.post args (.bool true) args=true:=
 postW_of (r:=l.row.toRowW) (X:=(true==true))
  (show WShape.has [] (.bool true) .bool=true by first | rfl | decide | simp[WShape.has,WShape.arms,WShape.armsAll])
  (show (WTm.eq .res (.lit (.bool true))).value [] { args:=args,res:=some (.bool true),after:=args }=some (.bool (true==true))from w_eq_bool (w_res rfl) w_lit) rfl
theorem jfy {l:OpenLaw}{n:Nat}{q:Program}{loose:List Str}{XP:(Str->Option Value)->Heap->Prop}{YP:World->Heap->Prop}{d:DefRec}
  (hn:l.most=some n) (hdf:d.params.defaults=[])
  (call:∀(w:World) (s₀ s₁:Shared) (mg mb:Str->Option Value) (fa:Addr) (o:Obj) (pm cd doc:Value) (a:Addr) (vs:List Value) (ns:List Int),
   Ground q loose [] XP w s₀ mg mb s₁.heap->YP w s₁.heap ->
   s₁.heap.get? fa=some o->o.data=.func (docDef d.name d.params d.body d.scope pm cd doc)->s₁.heap.CodeRec cd d.name->mg d.name=some (.ref fa) ->
   s₁.heap.get? a=some { cls:=.type "list",data:=.seq vs.toArray }->IntsAre vs ns->ns.length<=n->s₁.gens=#[] ->
   codeAny (model l.prog w) callerA (.call (.ref fa) ⟨[.ref a],[]⟩) (fun r s'=>r=.ok (.ret (.bool true))/\OldK s₁.heap s'.heap/\s'.os=s₁.os/\AllBare s'.gens) s₁) :
  WalkO q loose XP YP l.row.toRowW d [] (fun f vs=>PySem.call f vs):=by
 intro w s₀ s₁ mg mb G Y fa o pm cd doc dV kV ho hd hcd hD hmg hg args vals as hpre hlay hrd hwl hlo;obtain rfl:dV=.none:=Dflts.none hD hdf;obtain rfl:kV=.none:=Dflts.noKw hD;obtain⟨a,vs,ns,rfl,rfl,hobj,hints,hlen⟩:=jix hn hpre hwl;refine enter_call (codeAny_mono (call w s₀ s₁ mg mb fa o pm cd doc a vs ns G Y ho (fd_plain hd) hcd hmg hobj hints hlen hg) fun r s' hq=>?_);obtain⟨rfl,h2,h3,h4⟩:=hq;exact⟨.inl ⟨.bool true,.bool true,[],rfl,fun _=>rfl,.bool true,jiy l _,fun _=>⟨List.Pairwise.nil,fun _ hm=>(nomatch hm)⟩⟩,h2,h3,h4⟩
section
variable {prog:Program}{w:World}{A:Around}{E:Value->Shared->Prop}{s:Shared}{K:Frag}
end
end Att
namespace L2
open PySem PySem.Spec PyProof.Rows
theorem jiz {vs:List Value}{ns:List Int}(h:IntsAre vs ns):Vals (ns.map V.int) vs:=by
 induction h with
 |nil=>exact .nil
 |cons n t h ih=>exact .cons ⟨t,rfl⟩ ih
noncomputable def jrQ (H:Hp):Prop:=∀b,H b=none\/∃o xs,H b=some (.frz o (.lst xs))
theorem jkV {P:Program}{w:World}{K:PySem.W.Frag}{mg mb:Str->Option Value}{CX:CXT}{k:Nat}{fa a:Addr}{fd:FuncData}{x:Str}{sp:Sp}{s₁:Shared}{vs:List Value}{ns:List Int}
  (KX:K.In s₁.heap) (hns:s₁.heap.Ns mainGlobals mg) (hb:s₁.heap.Ns builtinsNs mb) (hbb:∀x:Str,x≠"__name__"->mb x=bootBuiltins x) (hlim:s₁.heap.NoLimit) (hg:s₁.gens=#[])
  (ha:s₁.heap.get? a=some { cls:=.type "list",data:=.seq vs.toArray }) (hi:IntsAre vs ns) (hl:ns.length<=sizeLine) (hr:Room k callerA)
  (F:∀base:Heap,K.In base->base.Ns mainGlobals mg->FnOk P w K mg base CX k fa fd [x] sp) (hbind:∀(s:Shared) (u:Value),BindsTo s fd ⟨[u],[]⟩ [(x,u)])
  (hsp:∀H:Hp,jrQ H->SqL K H a (ns.map V.int)->sp [.ref a] H (fun v _=>v=.bl true) fun _ _ _=>False)
  (hCX:∀H e s',CX [] H s₁ (fun _ _ _=>False) e s'->False) :
  codeAny (model P w) callerA (.call (.ref fa) ⟨[.ref a],[]⟩) (fun r s'=>r=.ok (.ret (.bool true))/\OldK s₁.heap s'.heap/\s'.os=s₁.os/\AllBare s'.gens) s₁:=by
 have rv:=jiz hi;have lenV:=hi.length;have core:∀H:Hp,jrQ H->SqL K H a (ns.map V.int)->HOk P w H s₁.heap->(∀b,H b≠none->b=a)->(H a≠none->K.lookup a=none) ->
   codeAny (model P w) callerA (.call (.ref fa) ⟨[.ref a],[]⟩) (fun r s'=>r=.ok (.ret (.bool true))/\OldK s₁.heap s'.heap/\s'.os=s₁.os/\AllBare s'.gens) s₁:=by
  intro H hO hS hok hA hK;have base_of:∀{b:Addr}{o:Obj},s₁.heap.get? b=some o->H b=none->(jkF s₁.heap H).get? b=some o:=fun e n=>jkG e n;have noA:∀{b:Addr}{o:Obj}{es:Array DictEntry}{ep:Nat},s₁.heap.get? b=some o->o.data=.dict es ep->H b=none:=fun {b o es ep} e d=>by
   cases q:H b with
   |none=>rfl
   |some u=>
    have e':b=a:=hA b (by rw[q];simp)
    subst e';rw[ha]at e;cases e;have d':Data.seq vs.toArray _=Data.dict es ep:=d;cases d'
  have nsK:∀{b:Addr}{m:Str->Option Value},s₁.heap.Ns b m->(jkF s₁.heap H).Ns b m:=fun {b m} ⟨o,es,ep,e,d,r⟩=>⟨o,es,ep,base_of e (noA e d),d,r⟩;have hKb:K.In (jkF s₁.heap H):=fun b o e=>base_of (KX b o e) (by
   cases q:H b with
   |none=>rfl
   |some u=>
    have e':b=a:=hA b (by rw[q];simp)
    subst e';rw[hK (by rw[q];simp)]at e;cases e)
  have hM:Mod K mg (jkF s₁.heap H):=⟨hKb,nsK hns,⟨mb,nsK hb,hbb⟩,let ⟨mc,h1,h2⟩:=hlim;⟨mc,nsK h1,h2⟩⟩;have e0:Env0 P w K mg (jkF s₁.heap H) callerA [] s₁ H:=⟨rfl,hM,fun b o e=>jm6 e,Nat.le_of_eq (jik _ _),trivial,fun b hb=>absurd (show b∈([]:List Addr)from hb) @11,hok,.of_eq hg⟩
  refine codeAny_mono ((F _ hKb (nsK hns)).run callerA [] s₁ H ⟨[.ref a],[]⟩ [.ref a] [.ref a] _ _ hr e0 (hbind s₁ (.ref a)) (.cons rfl .nil) (hsp H hO hS)) fun r s' h=>?_;cases r with
  |error e=>exact(hCX H e s' h).elim
  |ok fl=>
   cases fl with
   |next=>exact False.elim h
   |brk=>exact False.elim h
   |cont=>exact False.elim h
   |ret u=>
    obtain⟨v,H',os,bare,un,hok',r',q⟩:=h;have q':v=.bl true:=q;subst q';obtain rfl:u=Value.bool true:=r';refine⟨rfl,OldK.of_keep fun b o e=>?_,os,bare⟩;cases q:H b with
    |none=>exact un.keep b o e q (by intro z;exact absurd (show b∈([]:List Addr)from z) (by simp)) (by simp)
    |some u=>
     rcases hO b with z | ⟨ob,xs,z⟩
     ·rw[q]at z;cases z
     ·have z2:=un.frzs b ob _ z;obtain⟨e1,_⟩:=hok b _ z;obtain⟨e2,_⟩:=hok' b _ z2;rw[e]at e1;cases e1;exact e2
 cases hk:K.lookup a with
 |some o=>
  have e:=KX a o hk;rw[ha]at e;cases e;refine core (fun _=>none) (fun _=>.inl rfl) (.inr ⟨_,vs.toArray,_,hk,rfl,rfl,rfl,by rw[jtL,lenV];exact hl,by simpa using rv⟩) (fun b u z=>by have z':(none:Option HO)=some u:=z;cases z') (fun b z=>absurd rfl z) fun z=>absurd rfl z
 |none=>
  refine core (fun b=>if b=a then some (.frz { cls:=.type "list",data:=.seq vs.toArray } (.lst (ns.map V.int)))else none) (fun b=>?_) (.inl (.inr ⟨{ cls:=.type "list",data:=.seq vs.toArray },if_pos rfl⟩)) (fun b u z=>?_) (fun b z=>?_) fun _=>hk
  ·by_cases hb:b=a
   ·exact .inr ⟨_,_,if_pos hb⟩
   ·exact .inl (if_neg hb)
  ·by_cases hb:b=a
   ·have z':=(if_pos hb).symm.trans z;cases z';subst hb;exact⟨ha,by rw[jtQ];exact hl,vs,_,rv,ha⟩
   ·have z':=(if_neg hb).symm.trans z;cases z'
  ·by_cases hb:b=a
   ·exact hb
   ·exact absurd (if_neg hb) z
end L2
namespace L2
open PySem PySem.Spec PyProof.Rows
theorem jnp {l:PySem.W.OpenLaw}{n k:Nat}{q:Program}{loose:List Str}{XP:(Str->Option Value)->Heap->Prop}{YP:World->Heap->Prop}{d:DefRec}{K:Params->PySem.W.Frag}{CX:World->CXT}{sp:World->Sp}{x:Str}
  (hn:l.most=some n) (hn2:n<=sizeLine) (hdf:d.params.defaults=[]) (hr:Room k callerA)
  (hY:∀(w:World) (h:Heap),YP w h->(K w.params).In h)
  (F:∀(w:World) (mg:Str->Option Value) (fa:Addr) (h:Heap),(K w.params).In h->h.Ns mainGlobals mg->mg d.name=some (.ref fa) ->
   ∃fd:FuncData,(∀(s:Shared) (u:Value),BindsTo s fd ⟨[u],[]⟩ [(x,u)]) /\
    ∀base:Heap,(K w.params).In base->base.Ns mainGlobals mg->FnOk l.prog w (K w.params) mg base (CX w) k fa fd [x] (sp w))
  (hsp:∀(w:World) (H:Hp) (a:Addr) (ns:List Int),ns.length<=n->jrQ H->SqL (K w.params) H a (ns.map V.int)->sp w [.ref a] H (fun v _=>v=.bl true) fun _ _ _=>False)
  (hCX:∀(w:World) (H:Hp) (s:Shared) (e:Value) (s':Shared),CX w [] H s (fun _ _ _=>False) e s'->False) :
  PySem.W.WalkO q loose XP YP l.row.toRowW d [] (fun f vs=>PySem.call f vs):=by
 refine Att.jfy hn hdf fun w s₀ s₁ mg mb fa o pm cd doc a vs ns G Y ho hd hcd hmg hobj hints hlen hg=>?_;have KX:=hY w _ Y;obtain⟨fd,hb,hF⟩:=F w mg fa _ KX G.T.g hmg;exact jkV KX G.T.g G.T.b G.T.builtins G.T.nolimit hg hobj hints (juo hlen hn2) hr hF hb (fun H hO hS=>hsp w H a ns hlen hO hS) fun H e s'=>hCX w H s₁ e s'
end L2
namespace L2
open PySem PySem.Spec PyProof.Rows
noncomputable def defArgs (s:Stmt):Arguments:=match s with
 |.FunctionDef _ a _ _ _ _ _ _ _ _=>a
 |_=>{ posonlyargs:=[],args:=[],vararg:=none,kwonlyargs:=[],kw_defaults:=[],kwarg:=none,defaults:=[] }
noncomputable def defBody (s:Stmt):List Stmt:=match s with
 |.FunctionDef _ _ b _ _ _ _ _ _ _=>b
 |_=>[]
noncomputable def defScope (s:Stmt):Scope:=match s with
 |.FunctionDef _ _ _ _ _ _ sc _ _ _=>sc
 |_=>{ kind:=.function,names:=[],isGenerator:=false,isCoroutine:=false }
structure Fun (K:PySem.W.Frag)(x qual:Str)(st:Stmt)(f:Addr)(fd:FuncData):Prop where
 ex:∃(oc:Value) (od:Option Addr) (kV doc pm:Value) (an:Option Addr) (cdv ct:Value) (osl:Array (Option Value)),
  fd=PySem.W.fnOf x qual (defArgs st) (defBody st) (defScope st) .none kV doc pm an cdv ct/\K.lookup f=some ⟨oc,od,.func fd,osl⟩/\PySem.W.codeIn K cdv qual=true
 kp:PySem.W.keepIn K (.ref f)=true
section
variable {P:Program}{w:World}{K:PySem.W.Frag}{mg:Str->Option Value}{base:Heap}
theorem Fun.binds {x qual:Str}{st:Stmt}{f:Addr}{fd:FuncData}{ps:List Str}(F:Fun K x qual st f fd)
  (h:∀(kV doc pm:Value) (an:Option Addr) (cdv ct:Value) (us:List Value),us.length=ps.length->bindArgs (PySem.W.fnOf x qual (defArgs st) (defBody st) (defScope st) .none kV doc pm an cdv ct) ⟨us,[]⟩=pure (ps.zip us)):Binds K fd ps []:=by
 obtain⟨oc,od,kV,doc,pm,an,cdv,ct,osl,rfl,lk,hcd⟩:=F.ex;exact .all (h kV doc pm an cdv ct)
theorem jpW {x qual:Str}{st:Stmt}{f:Addr}{oc:Value}{od an:Option Addr}{osl:Array (Option Value)}{kV doc pm cdv ct:Value}(l:K.lookup f=some ⟨oc,od,.func (PySem.W.fnOf x qual (defArgs st) (defBody st) (defScope st) .none kV doc pm an cdv ct),osl⟩)
  (c:PySem.W.codeIn K cdv qual=true) (k:PySem.W.keepIn K (.ref f)=true):Fun K x qual st f (PySem.W.fnOf x qual (defArgs st) (defBody st) (defScope st) .none kV doc pm an cdv ct):=⟨⟨oc,od,kV,doc,pm,an,cdv,ct,osl,rfl,l,c⟩,k⟩
end
section
variable {X:Cx}
end
noncomputable def Same (H H':Hp):Prop:=∀b o,H b=some o->H' b=some o
theorem Same.refl (H:Hp):Same H H:=fun _ _ h=>h
theorem Same.trans {H H1 H2:Hp}(a:Same H H1)(b:Same H1 H2):Same H H2:=fun c o h=>b c o (a c o h)
theorem Same.free {H H':Hp}(e:Same H H'){l:Addr}(h:H' l=Option.none):H l=Option.none:=by
 cases q:H l with
 |none=>rfl
 |some o=>
  rw[e l o q]at h;cases h
end L2
namespace TM
open PySem
theorem noFill_tuple_mul:fillsNumberSlot (.type "tuple") "mul"=pure false:=
 fillsNumberSlot_seq (id:="tuple.__mul__") (r:=some (.builtin "tuple.__rmul__")) PySem.F.slot_tuple_mul.lookup @6 PySem.F.slot_tuple_rmul.lookup @6
theorem repeat_tuple:seqRepeat? (.type "tuple")=pure (some (.builtin "tuple.__mul__")):=by
 unfold seqRepeat?;rw[seqSlot_of (T:="tuple") (name:="__mul__") (id:="tuple.__mul__") PySem.F.slot_tuple_mul.lookup @6,seqSlot_of (T:="tuple") (name:="__rmul__") (id:="tuple.__rmul__") PySem.F.slot_tuple_rmul.lookup @6]
 rfl
theorem int_rmul_tuple (a:Int)(t:Tok)(l:Addr)(items:Array Value)(n:Nat)(dd:Option Addr)(sl:Array (Option Value)) :
  Meets (Builtin.«int.__rmul__» ⟨[.int a t,.ref l],[]⟩) (fun _ R s=>s.heap.get? l=some { cls:=.type "tuple",dict:=dd,data:=.seq items n,slots:=sl }/\R (.ok (.ret Value.notImplemented)) s):=
 .of_wp fun prog w A R s h=>by obtain⟨hp,g,d,tk,os⟩:=s;obtain⟨hl,h⟩:=h;wp_walk;exact⟨_,rfl,h⟩
theorem tuple_mul_same (l:Addr)(items:Array Value)(n:Nat)(x:Int)(u:Tok)(dd:Option Addr)(sl:Array (Option Value))(hc0:¬(decide (x < -2 ^ 63) || decide (x>=2 ^ 63))=true)(hc1:(items.isEmpty || x==1)=true) :
  Meets (Builtin.«tuple.__mul__» ⟨[.ref l,.int x u],[]⟩) (fun _ R s=>s.heap.get? l=some { cls:=.type "tuple",dict:=dd,data:=.seq items n,slots:=sl }/\R (.ok (.ret (Value.ref l))) s):=
 .of_wp fun prog w A R s h=>by
  obtain⟨hp,g,d,tk,os⟩:=s;obtain⟨hl,h⟩:=h;have f1:=AutoSeq1.idx_int;have f2:=AutoSeq1.sub_tuple_tuple;wp_walk using wpAny_loadPart' hl;rw[if_neg hc0];wp_walk using wpAny_loadPart' hl;exact⟨_,rfl,h⟩
theorem tuple_mul_new (l:Addr)(items:Array Value)(n:Nat)(x:Int)(u:Tok)(dd:Option Addr)(sl:Array (Option Value))(hc0:¬(decide (x < -2 ^ 63) || decide (x>=2 ^ 63))=true)(hc1:¬(items.isEmpty || x==1)=true)
  (hc2:¬(decide (x<=0) || items.isEmpty)=true) (hc3:¬(↑items.size * x>(2 ^ 63 - 1) / 8)) (hc4:¬Builtin.Tuple.tupleTooMany (↑items.size * x)=true) (hsz:(List.foldl (fun x1 x2=>x1++x2) #[] (List.replicate x.toNat items)).size<=sizeLine) :
  Meets (Builtin.«tuple.__mul__» ⟨[.ref l,.int x u],[]⟩) (fun _ R s=>s.heap.get? l=some { cls:=.type "tuple",dict:=dd,data:=.seq items n,slots:=sl }/\R (.ok (.ret (Value.ref s.heap.objs.size))) { s with heap:=s.heap.push { cls:=Value.type "tuple",data:=Data.seq (List.foldl (fun x1 x2=>x1++x2) #[] (List.replicate x.toNat items)) },toks:=s.toks }):=
 .of_wp fun prog w A R s h=>by
  obtain⟨hp,g,d,tk,os⟩:=s;obtain⟨hl,h⟩:=h;have f1:=AutoSeq1.idx_int;have f2:=AutoSeq1.sub_tuple_tuple;wp_walk using wpAny_loadPart' hl;rw[if_neg hc0];wp_walk using wpAny_loadPart' hl;rw[if_neg hc3];wp_walk using wpAny_loadPart' hl;exact⟨_,rfl,h⟩
theorem tuple_mul_none (l:Addr)(items:Array Value)(n:Nat)(x:Int)(u:Tok)(dd:Option Addr)(sl:Array (Option Value))(hc0:¬(decide (x < -2 ^ 63) || decide (x>=2 ^ 63))=true)(hc1:¬(items.isEmpty || x==1)=true)
  (hc2:(decide (x<=0) || items.isEmpty)=true) :
  Meets (Builtin.«tuple.__mul__» ⟨[.ref l,.int x u],[]⟩) (fun _ R s=>s.heap.get? l=some { cls:=.type "tuple",dict:=dd,data:=.seq items n,slots:=sl }/\R (.ok (.ret (Value.ref s.heap.objs.size))) { s with heap:=s.heap.push { cls:=Value.type "tuple",data:=Data.seq #[] },toks:=s.toks }):=
 .of_wp fun prog w A R s h=>by
  obtain⟨hp,g,d,tk,os⟩:=s;obtain⟨hl,h⟩:=h;have f1:=AutoSeq1.idx_int;have f2:=AutoSeq1.sub_tuple_tuple;wp_walk using wpAny_loadPart' hl;rw[if_neg hc0];wp_walk using wpAny_loadPart' hl;exact⟨_,rfl,h⟩
end TM
namespace L2
open PySem PySem.Spec PyProof.Rows
section
variable {X:Cx}
theorem jkW:OpR X (binaryOp .Add) (fun x y H Q=>∃a b ys,x=.ref a/\y=.ref b/\SqT X.K H a []/\SqT X.K H b ys/\Q (.ref b) H):=by
 intro pins s σ H x y v u Q I rx ry h;obtain⟨a,b,ys,rfl,rfl,ha,hb,q⟩:=h;cases rx;cases ry;obtain⟨its,r1,p1,_⟩:=I.tuple ha;obtain⟨its2,r2,p2,_⟩:=I.tuple hb;obtain rfl:its=[]:=r1.nil_iff.mpr rfl;obtain⟨⟨cls,dd,data,sl⟩,ho,hc,n,hd⟩:=id p1;obtain⟨⟨cls2,dd2,data2,sl2⟩,ho2,hc2,n2,hd2⟩:=id p2;simp only at hc hd hc2 hd2;subst hc hd hc2 hd2;exact concat_meets ⟨_,ho,rfl⟩ ⟨_,ho2,rfl⟩ noFill_tuple_add seq_tuple_add PySem.F.slot_tuple_add PySem.F.entry_tuple_add (PySem.F.args_tuple_add_2 _ _)
   (tuple_addW0 a b ([]:List Value).toArray its2.toArray n n2 dd dd2 sl sl2 rfl) ⟨ho,ho2,⟨.ref b,H,I,rfl,q⟩⟩
theorem jnq:OpR X (binaryOp .Add) (fun x y H Q=>∃a b xs ys,x=.ref a/\y=.ref b/\SqL X.K H a xs/\SqL X.K H b ys/\xs.length+ys.length<=sizeLine/\∀p,H p=none->Q (.ref p) (upd H p (.lst (xs++ys)))):=by
 intro pins s σ H x y v u Q I rx ry h;obtain⟨a,b,xs,ys,rfl,rfl,ha,hb,hz,q⟩:=h;cases rx;cases ry;obtain⟨its,r1,⟨⟨cls,dd,data,sl⟩,n,ho,hc,hdd,hd⟩,_⟩:=I.list ha;obtain⟨its2,r2,⟨⟨cls2,dd2,data2,sl2⟩,n2,ho2,hc2,hdd2,hd2⟩,_⟩:=I.list hb;simp only at hc hd hc2 hd2;subst hc hd hc2 hd2;refine concat_meets ⟨_,ho,rfl⟩ ⟨_,ho2,rfl⟩ noFill_list_add seq_list_add PySem.F.slot_list_add PySem.F.entry_list_add (PySem.F.args_list_add_2 _ _)
   (list_addW a b its.toArray its2.toArray n n2 dd dd2 sl sl2 (by rw[jtL,jtL,<-r1.length,<-r2.length];exact hz)) ⟨ho,ho2,?_⟩
 have e:its.toArray++its2.toArray=(its++its2).toArray:=by simp
 rw[e];exact⟨.ref _,_,I.lnew (t':=s.toks) (r1.append r2) (by rw[jtV];exact hz),rfl,q _ I.fresh⟩
theorem jnr:OpR X (binaryOp .Mult) (fun x y H Q=>∃a k xs,x=.ref a/\y=.int k/\SqT X.K H a xs/\0<=k/\k<=16777216/\xs.length * k.toNat<=sizeLine /\
  ((xs.isEmpty || k==1)=true->Q (.ref a) H)/\((xs.isEmpty || k==1)=false->∀p,H p=none->Q (.ref p) (upd H p (.tup (List.replicate k.toNat xs).flatten)))):=by
 intro pins s σ H x y v u Q I rx ry h;obtain⟨a,k,xs,rfl,rfl,ha,h0,h1,hz,q1,q2⟩:=h;cases rx;obtain⟨t,rfl⟩:=ry;obtain⟨its,r1,p1,_⟩:=I.tuple ha;have hlen:=r1.length;obtain⟨⟨cls,dd,data,sl⟩,ho,hc,n,hd⟩:=id p1;simp only at hc hd;subst hc hd;have hc0:¬(decide (k < -2 ^ 63) || decide (k>=2 ^ 63))=true:=by
  simp only[Bool.or_eq_true,decide_eq_true_eq];omega
 have hem:its.toArray.isEmpty=xs.isEmpty:=by cases r1 <;> simp
 refine wpAny_binaryOp_repeat_ref (T:="tuple") (U:="int") (by decide) ⟨_,ho,rfl⟩ (fun s'=>typeIs_int s' k t) TM.noFill_tuple_mul PySem.F.fills_int_mul PySem.F.slot_int_rmul TM.repeat_tuple PySem.F.slot_int_index.lookup
  (call_meets PySem.F.slot_int_rmul (typeIs_int s k t) PySem.F.entry_int_rmul (PySem.F.args_int_rmul_2 _ _) (TM.int_rmul_tuple k t a its.toArray n dd sl) ⟨ho,rfl,⟨_,ho,rfl⟩,?_⟩)
 cases hc:(xs.isEmpty || k==1)with
 |true=>
  exact call_meets PySem.F.slot_tuple_mul ⟨_,ho,rfl⟩ PySem.F.entry_tuple_mul (PySem.F.args_tuple_mul_2 _ _) (TM.tuple_mul_same a its.toArray n k t dd sl hc0 (by rw[hem];exact hc)) ⟨ho,⟨.ref a,H,I,rfl,q1 hc⟩⟩
 |false=>
  have q:=q2 hc;have hxe:xs.isEmpty=false:=(Bool.or_eq_false_iff.mp hc).1;by_cases hk:k<=0
  ·have hk0:k.toNat=0:=by omega
   refine call_meets PySem.F.slot_tuple_mul ⟨_,ho,rfl⟩ PySem.F.entry_tuple_mul (PySem.F.args_tuple_mul_2 _ _) (TM.tuple_mul_none a its.toArray n k t dd sl hc0 (by rw[hem,hc];exact jus) (by rw[hem,hxe];simp[hk])) ⟨ho,?_⟩
   refine⟨.ref s.heap.objs.size,_,I.laid (t':=s.toks) (o:=.tup (List.replicate k.toNat xs).flatten) (fun b ob q=>jug _ q) (jul _) ?_,rfl,q _ (I.hok.fresh (jul _))⟩;rw[hk0];exact⟨Nat.zero_le _,[],.nil,IsTup.new _ _⟩
  ·have hn:(List.foldl (fun x1 x2=>x1++x2) #[] (List.replicate k.toNat its.toArray))=(List.replicate k.toNat its).flatten.toArray:=by
    have:=jcT its k.toNat [];rw[List.nil_append]at this;exact this
   have hl2:(List.replicate k.toNat xs).flatten.length<=sizeLine:=by rw[jfx,Nat.mul_comm];exact hz
   have hprod:(its.toArray.size:Int) * k<=sizeLine:=by
    rw[jtL,<-hlen];have:((xs.length * k.toNat:Nat):Int)<=sizeLine:=by exact_mod_cast hz
    rw[Int.natCast_mul,Int.toNat_of_nonneg h0]at this;exact this
   have hs24:(sizeLine:Int)=16777216:=by rw[sizeLine_eq];rfl
   refine call_meets PySem.F.slot_tuple_mul ⟨_,ho,rfl⟩ PySem.F.entry_tuple_mul (PySem.F.args_tuple_mul_2 _ _) (TM.tuple_mul_new a its.toArray n k t dd sl hc0 (by rw[hem,hc];exact jus) (by rw[hem,hxe];simp;omega) @0
    (by unfold Builtin.Tuple.tupleTooMany;simp only[decide_eq_true_eq];omega) (by rw[hn,jtL,jfx,<-hlen,Nat.mul_comm];exact hz)) ⟨ho,?_⟩
   rw[hn];refine⟨.ref s.heap.objs.size,_,I.laid (t':=s.toks) (o:=.tup (List.replicate k.toNat xs).flatten) (fun b ob q=>jug _ q) (jul _) ?_,rfl,q _ (I.hok.fresh (jul _))⟩;exact⟨hl2,_,r1.rep k.toNat,IsTup.new _ _⟩
theorem jb5 {prog:Program}{w:World}{A:Around}{E:Value->Shared->Prop}{s:Shared}{t sl:Addr}{items:Array Value}{vl vu:Value}{lo hi:Option Int}{Q:Value->Shared->Prop}(ht:IsTup s.heap t items)(hs:s.heap.IsSliceOf sl vl vu .none)(pl:IsPart vl lo)(pu:IsPart vu hi)
  (hw:HT.sIx items.size 0 lo=0/\HT.sIx items.size items.size hi=items.size) (h:Q (.ref t) s):wpAny @2 A (getItem (.ref t) (.ref sl)) Q E s:=by
 obtain⟨os,hos,hcs,hds⟩:=id hs;have hTs:s.TypeIs (.ref sl) "slice":=⟨os,hos,hcs⟩;unfold getItem;try with_reducible refine jud ?_
 first | refine jt8 (jt9 ?_) | skip
 refine jt8 (wpAny_sequenceKey ht.typeIs (by decide) ?_)
 refine jt8 (wpAny_callSpecial?_slot (name:=Str.ofString "__getitem__") ht.typeIs PyProof.Rows.slot_tuple_getitem
  (wpAny_call_entry PyProof.Rows.slot_tuple_getitem ht.typeIs entry_tuple_getitem ?_ (args_tuple_getitem _ _)))
 show wpAny _ _ (Builtin.Tuple.tupleItemsOf (.ref t) >>= _) _ _ s;refine jt8 (tupleItemsOf_ ht ?_);refine jt8 (wpAny_typeOf hTs ?_);rw[if_pos (by decide)]
 refine jt8 (HT.jbD hs pl pu ?_);have hyes:(((HT.sIx items.size 0 lo:Nat):Int)==0&&(1:Int)==1&&(HT.sIx items.size items.size hi - HT.sIx items.size 0 lo)==items.size)=true:=by
  rw[hw.1,hw.2];simp
 show wpAny _ _ (if (((HT.sIx items.size 0 lo:Nat):Int)==0&&(1:Int)==1&&(HT.sIx items.size items.size hi - HT.sIx items.size 0 lo)==items.size)=true then _ else _) _ _ s;rw[if_pos hyes];refine jt8 (m:=Builtin.Tuple.tupleIsExact _) ?_;unfold Builtin.Tuple.tupleIsExact;refine jt8 (wpAny_typeOf ht.typeIs ?_);refine jt9 ?_;rw[if_pos (by rfl)]
 exact jt8 (wpAny_rule (jt9 ⟨_,rfl,jt9 h⟩))
theorem sl_tupW:SlR X (fun x lo hi H Q=>∃a xs,x=.ref a/\SqT X.K H a xs/\(HT.sIx xs.length 0 lo=0/\HT.sIx xs.length xs.length hi=xs.length)/\Q (.ref a) H):=by
 intro pins s σ H x v vl vu lo hi sl Q I rx hs pl pu h;obtain⟨a,xs,rfl,hx,hw,q⟩:=h;cases rx;obtain⟨its,r,ht,hz⟩:=I.tuple hx;have hlen:its.toArray.size=xs.length:=by rw[jtL];exact r.length.symm
 refine⟨"tuple",_,PyProof.Rows.slot_tuple_getitem.lookup,ht.typeIs,?_⟩;exact jb5 ht hs pl pu (by rw[hlen];exact hw) ⟨.ref a,H,I,rfl,q⟩
theorem Inv.big {pins:List (Addr×Obj)}{σ:St}{H:Hp}{s:Shared}(I:Inv X pins σ H s):sysModules<s.heap.objs.size:=by
 have h:mainGlobals<s.heap.objs.size:=(I.mod.glob.keeps I.bk).lt;exact Nat.lt_trans (by decide) h
theorem jgj {P:Program}{w:World}{H:Hp}(h:Heap)(hb:sysModules < h.objs.size):ObjOk P w H (h.push { cls:=.type "dict",data:=.dict #[] }) h.objs.size (.dT [] 0):=
 ⟨beq_eq_false_iff_ne.mpr (Ne.symm (jun hb)),_,#[],jui _ rfl,⟨rfl,rfl,rfl⟩,rfl,rfl⟩
noncomputable def jpX:TE:=fun _ H Q=>∀p,H p=none->Q (.ref p) (upd H p (.dT [] 0))
theorem jkX {pos:Pos}:PE X (.Dict [] [] pos) jpX:=fun pins s σ H Q I h=>
 wpAny_Dict_empty ⟨.ref s.heap.objs.size,_,I.laid (a:=s.heap.objs.size) (o:=.dT [] 0) (t':=s.toks) (fun _ _ q=>jug _ q) (jul _) (jgj s.heap I.big),rfl,h _ (I.hok.fresh (jul _))⟩
noncomputable def trV:V->Option Bool
 |.bl b=>some b
 |.int i=>some (i != 0)
 |_=>none
theorem jiA {prog:Program}{w:World}{A:Around}{x:V}{v:Value}{b:Bool}(r:RelV x v)(h:trV x=some b){s:Shared}{Q:Bool->Shared->Prop}{E:Value->Shared->Prop}(q:Q b s):wpAny @2 A (truthy v) Q E s:=by
 cases x with
 |bl c=>
  cases (show v=Value.bool c from r);cases h;exact wpAny_truthy_bool q
 |int i=>
  obtain⟨t,rfl⟩:=(show ∃t,v=Value.int i t from r);cases h;exact PySem.P.truthy_int q
 |_=>cases h
theorem jcc {pins:List (Addr×Obj)}{σ:St}{H:Hp}{s:Shared}{p:Addr}{ys:List V}(hc:X.calm=true)(I:Inv X pins σ H s)(h:SqL X.K H p ys\/SqT X.K H p ys){A:Around}(hA:A.handled=none){Q:Value->Shared->Prop}{E:Value->Shared->Prop}
  (q:∀(its:List Value) (I':Addr) (fp wr:List Addr) (St:Nat->Heap->Prop) (h2:Heap),Vals ys its->Walks X.prog X.w A I' fp wr ys.length (fun i v=>its[i]?=some v) St->St 0 h2->(∀b∈fp,b<h2.objs.size) ->
   (∀h' tk,(∀b o,b ∉ wr->h2.get? b=some o->h'.get? b=some o)->Inv X pins σ H { s with heap:=h',toks:=tk })->Q (.ref I') { s with heap:=h2 }):wpAny @4 A (pyIter (.ref p)) Q E s:=by
 have back:∀(o:Obj) (h':Heap) (tk:Nat),(∀b ob,b ∉ [s.heap.objs.size]->(s.heap.push o).get? b=some ob->h'.get? b=some ob)->Inv X pins σ H { s with heap:=h',toks:=tk }:=fun o h' tk kp=>
  I.kept fun b ob e=>kp b ob (by simpa using jun (juh e)) (jug _ e)
 rcases h with h | h
 ·obtain⟨its,r,pl,hz⟩:=I.list h;have hlen:its.toArray.size=ys.length:=by rw[jtL];exact r.length.symm
  have hlt:p<s.heap.objs.size:=by obtain⟨o,n,e,_⟩:=pl;exact juh e
  refine wpAny_pyIter_list pl.isList ?_;have W:=Walks.list (prog:=X.prog) (w:=X.w) hA s.heap.objs.size p (jun hlt) its.toArray;rw[hlen]at W;refine q its s.heap.objs.size _ _ (fun i h=>h.IsListIter s.heap.objs.size p i/\h.IsList p its.toArray) _ r (by simpa using W) ⟨⟨_,jui _ rfl,rfl,rfl⟩,pl.isList.push _⟩ (fun b hb=>?_) (fun h' tk kp=>back _ h' tk kp)
  rw[Heap.size_push];rcases List.mem_cons.mp hb with rfl | hb
  ·exact Nat.lt_succ_self _
  ·have:b=p:=by simpa using hb
   subst this;exact Nat.lt_succ_of_lt hlt
 ·obtain⟨its,r,pl,hz⟩:=I.tuple h;have hlen:its.toArray.size=ys.length:=by rw[jtL];exact r.length.symm
  have hlt:p<s.heap.objs.size:=pl.lt;have pl':s.heap.IsTuple p its.toArray:=pl;refine wpAny_pyIter_tuple pl' ?_;have W:=Walks.tuple (prog:=X.prog) (w:=X.w) hA s.heap.objs.size p (jun hlt) its.toArray;rw[hlen]at W;refine q its s.heap.objs.size _ _ (fun i h=>h.IsTupleIter s.heap.objs.size p i/\h.IsTuple p its.toArray) _ r (by simpa using W) ⟨⟨_,jui _ rfl,rfl,rfl⟩,?_⟩ (fun b hb=>?_) (fun h' tk kp=>back _ h' tk kp)
  ·obtain⟨o,e,c⟩:=pl';exact⟨o,jug _ e,c⟩
  ·rw[Heap.size_push];rcases List.mem_cons.mp hb with rfl | hb
   ·exact Nat.lt_succ_self _
   ·have:b=p:=by simpa using hb
    subst this;exact Nat.lt_succ_of_lt hlt
theorem jez {ys:List V}{bs:List Bool}(h:ys.map trV=bs.map some):(List.range ys.length).all (fun i=>((ys[i]?).bind trV).getD false)=bs.all id/\(List.range ys.length).any (fun i=>((ys[i]?).bind trV).getD false)=bs.any id:=by
 have hl:ys.length=bs.length:=by simpa using congrArg List.length h
 have hg:∀i:Nat,((ys[i]?).bind trV).getD false=(bs[i]?).getD false:=fun i=>by
  have e:(ys.map trV)[i]?=(bs.map some)[i]?:=by rw[h]
  rw[jtN,jtN]at e;cases q:ys[i]? with
  |none=>rw[q]at e;cases q2:bs[i]? with
   |none=>rfl
   |some b=>rw[q2]at e;cases e
  |some y=>rw[q]at e;cases q2:bs[i]? with
   |none=>rw[q2]at e;cases e
   |some b=>rw[q2]at e;simp at e;simp[e]
 have ea:(List.range ys.length).map (fun i=>((ys[i]?).bind trV).getD false)=bs:=by
  apply List.ext_getElem?;intro i;rw[jtN];by_cases hi:i<ys.length
  ·rw[List.getElem?_range hi];have hb:i<bs.length:=by omega
   rw[Option.map_some,hg i,jtH hb];rfl
  ·rw[jtX (by simpa using hi),jtX @0]
   rfl
 constructor
 ·conv=>rhs;rw[<-ea]
  rw[List.all_map];rfl
 ·conv=>rhs;rw[<-ea]
  rw[List.any_map];rfl
theorem jeA (hc:X.calm=true)(all:Bool):CallR X (.builtin (if all then "all" else "any")) (fun xs H Q=>∃(p:Addr) (ys:List V) (bs:List Bool),xs=[.ref p]/\(SqL X.K H p ys\/SqT X.K H p ys)/\ys.map trV=bs.map some/\Q (.bl (if all then bs.all id else bs.any id)) H):=by
 intro pins s σ H xs us Q I r h;obtain⟨p,ys,bs,rfl,hq,hb,q⟩:=h;obtain⟨u,rfl,rx⟩:=jbW r;cases rx;have hA:X.A.in1.handled=none:=I.ok.hd hc;have tro:∀its:List Value,Vals ys its->TruthOf X.prog X.w X.A.in1 (fun i v=>its[i]?=some v) (fun i=>((ys[i]?).bind trV).getD false):=fun its rv i v s Q E hP hQ=>by
  have hlen:=rv.length;have hi:i<ys.length:=by rw[hlen];exact(List.getElem?_eq_some_iff.mp hP).1
  obtain⟨u,e1,e2⟩:=rv.get (jtH hi);rw[hP]at e1;cases e1;have e:(ys.map trV)[i]?=(bs.map some)[i]?:=by rw[hb]
  rw[jtN,jtN,jtH hi]at e;cases q2:bs[i]? with
  |none=>rw[q2]at e;cases e
  |some b=>
   rw[q2]at e;have e:trV ys[i]=some b:=by simpa using e
   refine jiA e2 e ?_;have:((ys[i]?).bind trV).getD false=b:=by rw[jtH hi];simp[e]
   rw[<-this];exact hQ
 cases all with
 |true=>
  refine call_all_walk (jcc hc I hq hA fun its I' fp wr St h2 rv W st hfp back=>⟨I',fp,wr,_,_,St,_,rfl,W,st,tro its rv,fun h' tk kp=>?_⟩);rw[(jez hb).1];exact⟨.bl _,H,back h' tk kp,rfl,q⟩
 |false=>
  refine call_any_walk (jcc hc I hq hA fun its I' fp wr St h2 rv W st hfp back=>⟨I',fp,wr,_,_,St,_,rfl,W,st,tro its rv,fun h' tk kp=>?_⟩);rw[(jez hb).2];exact⟨.bl _,H,back h' tk kp,rfl,q⟩
end
end L2
namespace L2
open PySem PySem.Spec PyProof.Rows PySem.W PySem.Builtin PySem.Builtin.Getset_descriptor
structure ECls (K:Frag)(C:Addr):Prop where
 ga:findIn K (.ref C) "__getattribute__"=some (some (.builtin "BaseException.__getattribute__"))
 hk:findIn K (.ref C) "__getattr__"=some none
 ca:findIn K (.ref C) "__class__"=some (some (.builtin "object.__class__"))
 gs:specialIn K (.builtin "object.__class__") "__get__"=some (some (.builtin "getset_descriptor.__get__"))
 tk:takesIn K (.builtin "object.__class__")=some true
 mo:mroIn K C (.type "object")=some true
 mb:mroIn K C (.type "BaseException")=some true
 ms:mroIn K C (.ref C)=some true
 mv:mroIn K C (.type "ValueError")=some true
 cd:(clsIn K C).isSome=true
 ty:typeIn K (.ref C)=some (.type "type")
section
variable {prog:Program}{w:World}{A:Around}{E:Value->Shared->Prop}{s:Shared}{K:Frag}{x C:Addr}{ox:Obj}
inductive TyAt (h:Heap) (x C:Addr):Prop
 |mk (o:_):(h.get? x=some o)->(o.cls=.ref C)->TyAt h x C
theorem TyAt.looks {M:Model}{h:Heap}(t:TyAt h x C):Looks M h (typeOf (.ref x)) (.ref C):=by
 obtain⟨o,e,hc⟩:=t;have z:=(Looks.ld (M:=M) (part:=none) e).andThen (f:=fun o=>pure o.cls) Looks.now;rw[hc]at z;exact z
theorem jiB {M:Model}{nameV:Value}{Q:Unit->Shared->Prop}(X:K.In s.heap)(e:ECls K C)(I:TyAt s.heap x C)(hq:Q () s) :
  wpAny M A (checkBuiltinCall "BaseException.__getattribute__" ⟨[.ref x,nameV],[]⟩) Q E s:=by
 have k1:builtinKind "BaseException.__getattribute__"=some .slot:=by decide +kernel
 have k2:splitId "BaseException.__getattribute__"=some ("BaseException","__getattribute__"):=by decide +kernel
 have ha:=F.args_bexc_ga (.ref x) nameV;have L0:=I.looks (M:=M);have L1:=looks_mroIn (M:=M) X e.mb;simp only[checkBuiltinCall,k1,k2];refine jt8 ?_;unfold isInstance;obtain⟨hh,g,d,t,os⟩:=s;refine jt8 (L0.at (L1.at ?_));repeat (first | wp_step)
 exact hq
theorem jkY {M:Model}{h:Heap}(X:K.In h)(e:ECls K C)(x:Addr):Looks M h (Builtin.ObjectAttr.find (.ref x) (.ref C) "__class__") (.bind (.builtin "getset_descriptor.__get__") (.builtin "object.__class__")):=by
 have a1:=looks_findIn (M:=M) X e.ca;have a2:=looks_specialIn (M:=M) X e.gs;have a3:=looks_takesIn (M:=M) X e.tk;refine a1.andThen (Looks.andThen (a:=some (Value.builtin "getset_descriptor.__get__")) (by unfold Builtin.ObjectAttr.getOf;exact a2) ?_)
 exact Looks.andThen (a:=some (.builtin "getset_descriptor.__get__",.builtin "object.__class__")) (a3.andThen Looks.now) (Looks.tag Looks.now)
theorem jns {R:Result->Shared->Prop}(X:K.In s.heap)(e:ECls K C)(I:TyAt s.heap x C)(h:R (.ok (.ret (.ref C))) s) :
  codeAny @2 A (.call (.builtin "getset_descriptor.__get__") ⟨[.builtin "object.__class__",.ref x,.ref C],[]⟩) R s:=by
 have T0:=I.looks (M:=model prog w);have T1:=looks_mroIn (M:=model prog w) X e.mo;obtain⟨hp,ge,dr,tk,os⟩:=s;refine codeAny_call_builtin KF.slot_gs.plain KF.entry_gs ?_;refine KF.slot_gs.check _ _ _ _ _ _ _ _ KF.type_class (KF.args_gs _ _ _) ?_;unfold Builtin.«getset_descriptor.__get__»;unfold descrGet;rw[dga_obj];refine jt8 (jt9 ?_);unfold descrGetter;unfold descrCheckInstance;unfold descrNameAndClass;unfold isInstance;simp only[KF.owner_class];repeat lk
 refine⟨Code.quiet_builtin _ @6,codeAny_builtin KF.entry_class ?_⟩
 unfold Builtin.«object.__class__»;unfold shownTypeOf;repeat lk
 exact h
theorem jiC {Q:Option Value->Shared->Prop}(X:K.In s.heap)(e:ECls K C)(I:TyAt s.heap x C)(h:Q (some (.ref C)) { s with toks:=s.toks + 1 }):wpAny @2 A (getAttr? (.ref x) "__class__") Q E s:=by
 obtain⟨hh,g,d,t,os⟩:=s;have L0:=I.looks (M:=model prog w);have L1:=looks_findIn (M:=model prog w) X e.ga;have L2':=looks_findIn (M:=model prog w) X e.hk;have L3:=jkY (M:=model prog w) X e x;unfold getAttr? getAttrBy? getAttrBy;refine jt8 (wpAny_mkText (jt8 (wpAny_attempt ?_)));refine jud (jt8 (L0.at (jt8 (L1.at ?_))));have hx2:(Value.builtin "BaseException.__getattribute__" == Value.builtin "object.__getattribute__")=false:=by decide +kernel
 simp only[hx2,Bool.and_false,jur,if_false];unfold getAttrByItsOwn hookBefore;simp only[onTheHeap,if_true];refine jt8 (L2'.at (jt8 (wpAny_attempt (jud ?_))));unfold callGetattribute boundAndCalled;simp only[Bool.false_and,jur,if_false];rw[F.attr_ValueError.ga.bind];refine jt8 (jt9 ?_);refine wpAny_call (codeAny_call_builtin F.attr_ValueError.ga.plain F.entry_bexc_ga (jiB X e I ?_));unfold Builtin.«object.__getattribute__»;refine jt8 (jub (a:=(Value.ref x,[Value.str "__class__" t])) rfl ?_);dsimp only;refine jt8 (jub (a:=("__class__":Str)) rfl ?_);refine jt8 (L0.at (jt8 (L3.at ?_)));dsimp only;unfold Builtin.ObjectAttr.bindTo;dsimp only;refine jt8 (jud (wpAny_call (jns (s:=⟨hh,g,d,t + 1,os⟩) X e I ?_)));dsimp only;refine jt9 ?_;dsimp only;exact jt9 (jt9 h)
theorem ECls.isTy {M:Model}{h:Heap}(e:ECls K C)(X:K.In h):Looks M h (isType (.ref C)) true:=by
 obtain⟨cd,hcd⟩:=Option.isSome_iff_exists.mp e.cd;unfold clsIn at hcd;split at hcd
 ·rename_i ho;intro A' Q' E' s' k q;unfold isType;unfold loadHead;exact jt8 (wpAny_loadPart (k _ _ (X _ _ ho)) (jt9 q))
 ·cases hcd
theorem jkZ (e:ECls K C):KitX K (.ref x) (.ref C) (fun h=>TyAt h x C) where
 ty:=fun _ _ _ I=>I.looks
 it:=fun _ _ X _=>e.isTy X
 ne:=fun h tp dd its n sl X htp=>by
  obtain⟨cd,hcd⟩:=Option.isSome_iff_exists.mp e.cd;refine Bool.eq_false_iff.mpr fun q=>?_;have z:C=tp:=Value.ref.inj (beq_iff_eq.mp q);subst z;unfold clsIn at hcd;split at hcd
  ·rename_i ho;cases (X _ _ ho).symm.trans htp
  ·cases hcd
 ca:=fun X I k=>jiC X e I k
end
end L2
namespace L2
open PySem PySem.Spec PyProof.Rows PySem.Builtin.SmallTypes
noncomputable def Sit (b:Bool)(h:Heap)(it l:Addr)(k:Nat)(xs:Array Value):Prop:=(b=true/\h.IsListIter it l k/\h.IsList l xs)\/(b=false/\h.IsTupleIter it l k/\h.IsTuple l xs)
noncomputable def Sq (b:Bool)(h:Heap)(l:Addr)(xs:Array Value):Prop:=(b=true/\h.IsList l xs)\/(b=false/\h.IsTuple l xs)
theorem Sit.at {b:Bool}{h h':Heap}{it l:Addr}{k:Nat}{xs:Array Value}(S:Sit b h it l k xs)(h1:∀o,h.get? it=some o->h'.get? it=some o)(h2:∀o,h.get? l=some o->h'.get? l=some o):Sit b h' it l k xs:=by
 rcases S with ⟨e,⟨o,a,r⟩,⟨o',a',r'⟩⟩ | ⟨e,⟨o,a,r⟩,⟨o',a',r'⟩⟩
 ·exact .inl ⟨e,⟨o,h1 o a,r⟩,⟨o',h2 o' a',r'⟩⟩
 ·exact .inr ⟨e,⟨o,h1 o a,r⟩,⟨o',h2 o' a',r'⟩⟩
theorem Sit.obj {b:Bool}{h:Heap}{it l:Addr}{k:Nat}{xs:Array Value}(S:Sit b h it l k xs):(∃o,h.get? it=some o/\∀v,o.data≠.cell v)/\∃o,h.get? l=some o/\(o.cls=.type "list"\/o.cls=.type "tuple"):=by
 rcases S with ⟨_,⟨o,a,_,d⟩,⟨o',a',c,_⟩⟩ | ⟨_,⟨o,a,_,d⟩,⟨o',a',c,_⟩⟩
 ·exact⟨⟨o,a,fun v z=>by rw[d]at z;cases z⟩,⟨o',a',.inl c⟩⟩
 ·exact⟨⟨o,a,fun v z=>by rw[d]at z;cases z⟩,⟨o',a',.inr c⟩⟩
section
variable {prog:Program}{w:World}{A:Around}{E:Value->Shared->Prop}{s:Shared}
theorem jhl {it t:Addr}{k:Nat}{xs:Array Value}{x:Value}{Q:Value->Shared->Prop}(I:s.heap.IsTupleIter it t k)(T:s.heap.IsTuple t xs)(hx:xs[k]?=some x)
  (go:∀h',h'.IsTupleIter it t (k+1)->Heap.SameBut it s.heap h'->Q x { s with heap:=h' }):wpAny @2 A (nextOf (.ref it)) Q E s:=by
 have ty:=I.typeIs;obtain⟨ob,e1,e2,e3⟩:=I;obtain⟨tb,f1,_,n,f3⟩:=T;unfold nextOf;refine jt8 (wpAny_callSpecial?_slot (name:=Str.ofString "__next__") ty F.slot_tuple_iterator_next (wpAny_call_entry F.slot_tuple_iterator_next ty F.entry_tuple_iterator_next ?_ (F.args_tuple_iterator_next_1 _)));show wpAny @2 _ (field (.ref it) 0 >>= _) _ _ s;refine jt8 (jue e1 e3 (x:=.ref t) rfl ?_);show wpAny @2 _ (if (Value.ref t == Value.none)=true then _ else _) _ _ s;rw[if_neg (show ¬((Value.ref t == Value.none)=true)from jus)];show wpAny @2 _ (field (.ref it) 1 >>= _) _ _ s;refine jt8 (jue e1 e3 (x:=.int k 0) rfl ?_);show wpAny @2 _ (seqItems? (.ref t) >>= _) _ _ s;refine jt8 (wpAny_seqItems f1 f3 ?_);simp only[hx,Int.toNat_natCast];refine jt8 (wpAny_setField e1 e3 @11 (jt9 ⟨x,rfl,jt9 (go _ ⟨_,juj _ e1 (Obj.isFreed_of_fields (Obj.data_mapFields e3 _)),(Obj.cls_mapFields ..).trans e2,?_⟩ (Heap.SameBut.update ..))⟩))
 rw[Obj.data_mapFields e3];simp[rawInt]
theorem jhm {it t:Addr}{k:Nat}{xs:Array Value}{Q:Value->Shared->Prop}(hh:A.handled=none)(I:s.heap.IsTupleIter it t k)(T:s.heap.IsTuple t xs)(hx:xs[k]?=none)
  (go:∀h' e,Heap.ExtBut it s.heap h'->(∃o,h'.get? e=some o/\o.cls=.type "StopIteration")->E (.ref e) { s with heap:=h' }):wpAny @2 A (nextOf (.ref it)) Q E s:=by
 have ty:=I.typeIs;obtain⟨ob,e1,e2,e3⟩:=I;obtain⟨tb,f1,_,n,f3⟩:=T;unfold nextOf;refine jt8 (wpAny_callSpecial?_slot (name:=Str.ofString "__next__") ty F.slot_tuple_iterator_next (wpAny_call_entry F.slot_tuple_iterator_next ty F.entry_tuple_iterator_next ?_ (F.args_tuple_iterator_next_1 _)));show wpAny @2 _ (field (.ref it) 0 >>= _) _ _ s;refine jt8 (jue e1 e3 (x:=.ref t) rfl ?_);show wpAny @2 _ (if (Value.ref t == Value.none)=true then _ else _) _ _ s;rw[if_neg (show ¬((Value.ref t == Value.none)=true)from jus)];show wpAny @2 _ (field (.ref it) 1 >>= _) _ _ s;refine jt8 (jue e1 e3 (x:=.int k 0) rfl ?_);show wpAny @2 _ (seqItems? (.ref t) >>= _) _ _ s;refine jt8 (wpAny_seqItems f1 f3 ?_);simp only[hx,Int.toNat_natCast];refine jt8 (wpAny_rule (jt8 (wpAny_setField e1 e3 @11 (show wpAny @2 _ (newExc (.type "StopIteration") [] >>= _) _ _ _ from jt8 ?_))))
 simp only[newTuple,newExc];refine jt8 (juc (jt8 (m:=firstArgMember _ _) (jub (a:=Value.none) (by first | rfl | (simp only[firstArgMember];rfl)) (juc ?_ (by size_fits)))) (by size_fits))
 simp only[raiseNew];refine jt8 (wpAny_handled (by
  first | rw[show A.in1.handled=none from hh] | rw[hh]
  exact jt8 (jt9 (wpAny_throw (go _ _ (((Heap.SameBut.update ..).extBut.push _).push _) ⟨_,jui _ rfl,rfl⟩)))))
theorem jcI {b:Bool}{it l:Addr}{k:Nat}{xs:Array Value}{x:Value}{Q:Value->Shared->Prop}(S:Sit b s.heap it l k xs)(ne:l≠it)(hx:xs[k]?=some x)
  (go:∀h',Sit b h' it l (k+1) xs->Heap.SameBut it s.heap h'->Q x { s with heap:=h' }):wpAny @2 A (nextOf (.ref it)) Q E s:=by
 rcases S with ⟨e,I,L⟩ | ⟨e,I,L⟩
 ·exact wpAny_nextOf_list_item I L hx fun h' I' sb=>go h' (.inl ⟨e,I',L.extBut sb.extBut ne⟩) sb
 ·exact jhl I L hx fun h' I' sb=>go h' (.inr ⟨e,I',L.extBut sb.extBut ne⟩) sb
theorem jcJ {b:Bool}{it l:Addr}{k:Nat}{xs:Array Value}{Q:Value->Shared->Prop}(hh:A.handled=none)(S:Sit b s.heap it l k xs)(hx:xs[k]?=none)
  (go:∀h' e,Heap.ExtBut it s.heap h'->(∃o,h'.get? e=some o/\o.cls=.type "StopIteration")->E (.ref e) { s with heap:=h' }):wpAny @2 A (nextOf (.ref it)) Q E s:=by
 rcases S with ⟨_,I,L⟩ | ⟨_,I,L⟩
 ·exact wpAny_nextOf_list_end hh I L hx go
 ·exact jhm hh I L hx go
structure Zs (b1 b2:Bool)(h:Heap)(z TI TO i1 i2 l1 l2:Addr)(k:Nat)(xs ys:Array Value)(f:Value):Prop where
 zi:IsZip h z TI TO f
 ti:IsPair h TI (.ref i1) (.ref i2)
 to_:∃a b,IsPair h TO a b
 s1:Sit b1 h i1 l1 k xs
 s2:Sit b2 h i2 l2 k ys
theorem jnt {b1 b2:Bool}{z TI TO i1 i2 l1 l2:Addr}{k:Nat}{xs ys:Array Value}{x y:Value}{Q:Value->Shared->Prop}(D:ZipApart z TI TO i1 i2 l1 l2)(S:Zs b1 b2 s.heap z TI TO i1 i2 l1 l2 k xs ys .none)(hx:xs[k]?=some x)(hy:ys[k]?=some y)
  (go:∀h',Zs b1 b2 h' z TI TO i1 i2 l1 l2 (k+1) xs ys (rawInt s.heap.objs.size)->IsPair h' s.heap.objs.size x y->(∀c o,c≠z->c≠TO->c≠i1->c≠i2->s.heap.get? c=some o->h'.get? c=some o)->Q (.ref s.heap.objs.size) { s with heap:=h' }) :
  wpAny @2 A (Builtin.«zip.__next__» ⟨[.ref z],[]⟩) (fun fin s'=>∃v,fin=.done (.ret v)/\Q v s') E s:=by
 obtain⟨zi,ti,⟨a,b,to_⟩,s1,s2⟩:=S;show wpAny @2 _ (field (.ref z) 2 >>= _) _ _ _;refine jt8 (jue zi rfl (x:=.bool false) rfl ?_);show wpAny @2 _ (field (.ref z) 3 >>= _) _ _ _;refine jt8 (jue zi rfl (x:=.ref TI) rfl (jt8 (wpAny_seqItems ti rfl ?_)));show wpAny @2 _ (ownedTupleIsFree (.ref z) >>= _) _ _ _;refine jt8 ?_;unfold ownedTupleIsFree;refine jt8 (jue zi rfl (x:=.none) rfl (jt9 ?_));simp only[if_true];refine jt8 (wpAny_rule (jt8 (jue zi rfl (x:=.ref TO) rfl (jt8 (wpAny_setField_rec zi @11 fun g1 y1 u1=>?_)))))
 replace y1:IsZip g1 z TI TO .ellipsis:=y1;refine jt8 ?_;simp only[List.forIn_cons,List.forIn_nil,List.zipIdx_cons,List.zipIdx_nil];refine jt8 (jt8 (wpAny_onRaise (show wpAny @2 _ (nextOf (.ref i1) >>= _) _ _ _ from jt8 ?_)));refine jcI (s1.at (fun o e=>u1.extBut _ o D.i1z e) fun o e=>u1.extBut _ o D.l1z e) D.l1i1 hx fun g2 y2 u2=>jt9 ?_;have t2:IsPair g2 TO a b:=u2.extBut _ _ D.TOi1 (u1.extBut _ _ D.TOz to_);refine jt8 (wpAny_seqItems t2 rfl (jt8 (wpAny_updateSeq_pair t2 fun g3 t3 u3=>jt8 (wpAny_letGo (jt9 ?_)))));replace t3:IsPair g3 TO x b:=t3;refine jt8 (jt8 (wpAny_onRaise (show wpAny @2 _ (nextOf (.ref i2) >>= _) _ _ _ from jt8 ?_)));refine jcI (s2.at (fun o e=>u3.extBut _ o D.TOi2.symm (u2.extBut _ o D.i12.symm (u1.extBut _ o D.i2z e))) fun o e=>u3.extBut _ o D.l2TO (u2.extBut _ o D.l2i1 (u1.extBut _ o D.l2z e))) D.l2i2 hy fun g4 y4 u4=>jt9 ?_;have t4:IsPair g4 TO x b:=u4.extBut _ _ D.TOi2 t3;refine jt8 (wpAny_seqItems t4 rfl (jt8 (wpAny_updateSeq_pair t4 fun g5 t5 u5=>jt8 (wpAny_letGo (jt9 (jt9 ?_))))));replace t5:IsPair g5 TO x y:=t5;refine jt8 (wpAny_seqItems t5 rfl (jt8 (wpAny_newTuple ?_)));have sz:g5.objs.size=s.heap.objs.size:=by rw[u5.1,u4.1,u3.1,u2.1,u1.1]
 have z5:IsZip g5 z TI TO .ellipsis:=u5.extBut _ _ D.TOz.symm (u4.extBut _ _ D.i2z.symm (u3.extBut _ _ D.TOz.symm (u2.extBut _ _ D.i1z.symm y1)));have k5:∀c o,c≠z->c≠TO->c≠i1->c≠i2->s.heap.get? c=some o->g5.get? c=some o:=fun c o c1 c2 c3 c4 e=>u5.extBut c o c2 (u4.extBut c o c4 (u3.extBut c o c2 (u2.extBut c o c3 (u1.extBut c o c1 e))));have a5:Sit b1 g5 i1 l1 (k + 1) xs:=y2.at (fun o e=>u5.extBut _ o D.TOi1.symm (u4.extBut _ o D.i12 (u3.extBut _ o D.TOi1.symm e))) fun o e=>u5.extBut _ o D.l1TO (u4.extBut _ o D.l1i2 (u3.extBut _ o D.l1TO e));have b5:Sit b2 g5 i2 l2 (k + 1) ys:=y4.at (fun o e=>u5.extBut _ o D.TOi2.symm e) fun o e=>u5.extBut _ o D.l2TO e;have lz:z < g5.objs.size:=juh z5;show wpAny @2 _ (ownedTupleHandOut (.ref z) (.ref g5.objs.size) >>= _) _ _ _;refine jt8 ?_;unfold ownedTupleHandOut;refine jt8 (wpAny_setField_rec (show IsZip (g5.push { cls:=.type "tuple",data:=.seq #[x,y] }) z TI TO .ellipsis from jug _ z5) @11 fun g7 z7 u7=>?_)
 replace z7:IsZip g7 z TI TO (rawInt g5.objs.size):=z7;refine wpAny_setField_rec z7 @11 fun g8 z8 u8=>?_
 replace z8:IsZip g8 z TI TO (rawInt g5.objs.size):=z8;have up:∀c o,c≠z->g5.get? c=some o->g8.get? c=some o:=fun c o c1 e=>u8.extBut c o c1 (u7.extBut c o c1 (jug _ e));have p8:IsPair g8 g5.objs.size x y:=u8.extBut _ _ (Nat.ne_of_gt lz) (u7.extBut _ _ (Nat.ne_of_gt lz) (jui _ rfl));rw[sz]at z8 p8;refine jt9 ⟨.ref g5.objs.size,rfl,?_⟩;rw[sz];exact go g8 ⟨z8,up _ _ D.TIz (k5 _ _ D.TIz D.TITO D.TIi1 D.TIi2 ti),⟨x,y,up _ _ D.TOz t5⟩,a5.at (fun o e=>up _ o D.i1z e) (fun o e=>up _ o D.l1z e),b5.at (fun o e=>up _ o D.i2z e) (fun o e=>up _ o D.l2z e)⟩ p8 fun c o c1 c2 c3 c4 e=>up c o c1 (k5 c o c1 c2 c3 c4 e)
theorem jk0 {b1 b2:Bool}{z TI TO i1 i2 l1 l2:Addr}{k:Nat}{xs ys:Array Value}{Q:Fin->Shared->Prop}(hh:A.handled=none)(D:ZipApart z TI TO i1 i2 l1 l2)(S:Zs b1 b2 s.heap z TI TO i1 i2 l1 l2 k xs ys .none)(he:xs[k]?=none\/ys[k]?=none)
  (go:∀h' e,(∀c o,c≠z->c≠TO->c≠i1->c≠i2->s.heap.get? c=some o->h'.get? c=some o)->(∃o,h'.get? e=some o/\o.cls=.type "StopIteration")->E (.ref e) { s with heap:=h' }) :
  wpAny @2 A (Builtin.«zip.__next__» ⟨[.ref z],[]⟩) Q E s:=by
 obtain⟨zi,ti,⟨a,b,to_⟩,s1,s2⟩:=S;show wpAny @2 _ (field (.ref z) 2 >>= _) _ _ _;refine jt8 (jue zi rfl (x:=.bool false) rfl ?_);show wpAny @2 _ (field (.ref z) 3 >>= _) _ _ _;refine jt8 (jue zi rfl (x:=.ref TI) rfl (jt8 (wpAny_seqItems ti rfl ?_)));show wpAny @2 _ (ownedTupleIsFree (.ref z) >>= _) _ _ _;refine jt8 ?_;unfold ownedTupleIsFree;refine jt8 (jue zi rfl (x:=.none) rfl (jt9 ?_));simp only[if_true];refine jt8 (wpAny_rule (jt8 (jue zi rfl (x:=.ref TO) rfl (jt8 (wpAny_setField_rec zi @11 fun g1 y1 u1=>?_)))))
 replace y1:IsZip g1 z TI TO .ellipsis:=y1;refine jt8 ?_;simp only[List.forIn_cons,List.forIn_nil,List.zipIdx_cons,List.zipIdx_nil];refine jt8 (jt8 (wpAny_onRaise (show wpAny @2 _ (nextOf (.ref i1) >>= _) _ _ _ from jt8 ?_)));have s1':=s1.at (h':=g1) (fun o e=>u1.extBut _ o D.i1z e) fun o e=>u1.extBut _ o D.l1z e;cases hx:xs[k]? with
 |none=>
  refine jcJ hh s1' hx fun g2 ea u2 hzz=>?_;obtain⟨oe,q1,q2⟩:=hzz;have z2:IsZip g2 z TI TO .ellipsis:=u2 _ _ D.i1z.symm y1;have ne:ea≠z:=fun q=>by subst q;rw[z2]at q1;cases q1;simp at q2
  exact wpAny_setField_rec z2 @11 fun g3 _ u3=>go g3 ea (fun c o c1 _ c3 _ q=>u3.extBut _ _ c1 (u2 _ _ c3 (u1.extBut _ _ c1 q))) ⟨oe,u3.extBut _ _ ne q1,q2⟩
 |some x=>
  have hy:ys[k]?=none:=by
   rcases he with h | h
   ·rw[hx]at h;cases h
   ·exact h
  refine jcI s1' D.l1i1 hx fun g2 y2 u2=>jt9 ?_;have t2:IsPair g2 TO a b:=u2.extBut _ _ D.TOi1 (u1.extBut _ _ D.TOz to_);refine jt8 (wpAny_seqItems t2 rfl (jt8 (wpAny_updateSeq_pair t2 fun g3 t3 u3=>jt8 (wpAny_letGo (jt9 ?_)))));refine jt8 (jt8 (wpAny_onRaise (show wpAny @2 _ (nextOf (.ref i2) >>= _) _ _ _ from jt8 ?_)));refine jcJ hh (s2.at (fun o e=>u3.extBut _ o D.TOi2.symm (u2.extBut _ o D.i12.symm (u1.extBut _ o D.i2z e))) fun o e=>u3.extBut _ o D.l2TO (u2.extBut _ o D.l2i1 (u1.extBut _ o D.l2z e))) hy fun g4 ea u4 hzz=>?_;obtain⟨oe,q1,q2⟩:=hzz;have z4:IsZip g4 z TI TO .ellipsis:=u4 _ _ D.i2z.symm (u3.extBut _ _ D.TOz.symm (u2.extBut _ _ D.i1z.symm y1));have ne:ea≠z:=fun q=>by subst q;rw[z4]at q1;cases q1;simp at q2
  exact wpAny_setField_rec z4 @11 fun g5 _ u5=>go g5 ea (fun c o c1 c2 c3 c4 q=>u5.extBut _ _ c1 (u4 _ _ c4 (u3.extBut _ _ c2 (u2.extBut _ _ c3 (u1.extBut _ _ c1 q))))) ⟨oe,u5.extBut _ _ ne q1,q2⟩
theorem jhn {b1 b2:Bool}{z TI TO i1 i2 l1 l2:Addr}{k:Nat}{xs ys:Array Value}{x y:Value}{Q:Option Value->Shared->Prop}(D:ZipApart z TI TO i1 i2 l1 l2)(S:Zs b1 b2 s.heap z TI TO i1 i2 l1 l2 k xs ys .none)(hx:xs[k]?=some x)(hy:ys[k]?=some y)
  (go:∀h',Zs b1 b2 h' z TI TO i1 i2 l1 l2 (k+1) xs ys (rawInt s.heap.objs.size)->IsPair h' s.heap.objs.size x y->(∀c o,c≠z->c≠TO->c≠i1->c≠i2->s.heap.get? c=some o->h'.get? c=some o)->Q (some (.ref s.heap.objs.size)) { s with heap:=h' }) :
  wpAny @2 A (pyNext (.ref z)) Q E s:=by
 have ty:s.TypeIs (.ref z) "zip":=⟨_,S.zi,rfl⟩;unfold pyNext;exact jt8 (wpAny_attempt (wpAny_callSpecial?_slot (name:=Str.ofString "__next__") ty F.slot_zip_next (wpAny_call_entry F.slot_zip_next ty F.entry_zip_next (jnt D S hx hy fun h' q1 q2 q3=>jt9 (go h' q1 q2 q3)) (F.args_zip_next_1 _))))
theorem jho {b1 b2:Bool}{z TI TO i1 i2 l1 l2:Addr}{k:Nat}{xs ys:Array Value}{Q:Option Value->Shared->Prop}(hh:A.handled=none)(D:ZipApart z TI TO i1 i2 l1 l2)(S:Zs b1 b2 s.heap z TI TO i1 i2 l1 l2 k xs ys .none)(he:xs[k]?=none\/ys[k]?=none)
  (go:∀h',(∀c o,c≠z->c≠TO->c≠i1->c≠i2->s.heap.get? c=some o->h'.get? c=some o)->Q none { s with heap:=h' }):wpAny @2 A (pyNext (.ref z)) Q E s:=by
 have ty:s.TypeIs (.ref z) "zip":=⟨_,S.zi,rfl⟩;unfold pyNext;refine jt8 (wpAny_attempt (wpAny_callSpecial?_slot (name:=Str.ofString "__next__") ty F.slot_zip_next (wpAny_call_entry F.slot_zip_next ty F.entry_zip_next (jk0 hh D S he fun h' ea hk ⟨o,ho,hc⟩=>?_) (F.args_zip_next_1 _))));exact jt8 (wpAny_isInstance (T:="StopIteration") (b:=true) ⟨o,ho,hc⟩ isSubtype_stop (jt9 (go _ hk)))
end
end L2
namespace L2
open PySem PySem.Spec PyProof.Rows
noncomputable def itO (b:Bool)(l:Addr):Obj:=if b then { cls:=.type "list_iterator",data:=.fields #[.ref l,.int 0 0] } else { cls:=.type "tuple_iterator",data:=.fields #[.ref l,.int 0 0] }
theorem Sq.push {b:Bool}{h:Heap}{l:Addr}{xs:Array Value}(S:Sq b h l xs)(o:Obj):Sq b (h.push o) l xs:=by
 rcases S with ⟨e,L⟩ | ⟨e,L⟩
 ·exact .inl ⟨e,L.push o⟩
 ·exact .inr ⟨e,L.push o⟩
theorem jcV {prog:Program}{w:World}{A:Around}{E:Value->Shared->Prop}{s:Shared}{b:Bool}{l:Addr}{xs:Array Value}{Q:Value->Shared->Prop}(S:Sq b s.heap l xs)
  (go:Q (.ref s.heap.objs.size) { s with heap:=s.heap.push (itO b l) }):wpAny @2 A (pyIter (.ref l)) Q E s:=by
 rcases S with ⟨e,L⟩ | ⟨e,L⟩
 ·subst e;exact wpAny_pyIter_list L go
 ·subst e;exact wpAny_pyIter_tuple L go
theorem Sit.new {b:Bool}{h h':Heap}{it l:Addr}{xs:Array Value}(S:Sq b h l xs)(e:h'.get? it=some (itO b l))(k:∀o,h.get? l=some o->h'.get? l=some o):Sit b h' it l 0 xs:=by
 rcases S with ⟨z,⟨o,a,r⟩⟩ | ⟨z,⟨o,a,r⟩⟩
 ·subst z;exact .inl ⟨rfl,⟨_,e,rfl,rfl⟩,⟨o,k o a,r⟩⟩
 ·subst z;exact .inr ⟨rfl,⟨_,e,rfl,rfl⟩,⟨o,k o a,r⟩⟩
noncomputable abbrev zA (h:Heap)(b1:Bool)(l1:Addr):Heap:=h.push (itO b1 l1)
noncomputable abbrev zB (h:Heap)(b1 b2:Bool)(l1 l2:Addr):Heap:=(zA h b1 l1).push (itO b2 l2)
noncomputable abbrev zC (h:Heap)(b1 b2:Bool)(l1 l2:Addr):Heap:=(zB h b1 b2 l1 l2).push { cls:=.type "tuple",data:=.seq #[.ref h.objs.size,.ref (zA h b1 l1).objs.size] }
noncomputable abbrev zD (h:Heap)(b1 b2:Bool)(l1 l2:Addr):Heap:=(zC h b1 b2 l1 l2).push { cls:=.type "tuple",data:=.seq #[.none,.none] }
noncomputable abbrev zE (h:Heap)(b1 b2:Bool)(l1 l2:Addr):Heap:=(zD h b1 b2 l1 l2).push { cls:=.type "zip",data:=.fields #[.none,.bool false,.bool false,.ref (zB h b1 b2 l1 l2).objs.size,.ref (zC h b1 b2 l1 l2).objs.size] }
theorem jnu (b1 b2:Bool)(l1 l2:Addr)(xs ys:Array Value):Meets (Builtin.«zip.__new__» ⟨[.type "zip",.ref l1,.ref l2],[]⟩) (fun _ R s=>Sq b1 s.heap l1 xs/\Sq b2 s.heap l2 ys/\R (.ok (.ret (.ref (zD s.heap b1 b2 l1 l2).objs.size))) { s with heap:=zE s.heap b1 b2 l1 l2 }):=
 .of_wp fun prog w A R s h=>by
  obtain⟨hp,g,d,tk,os⟩:=s;obtain⟨S1,S2,h⟩:=h;have hsub:=sub_zip;have T1:Sq b1 (Shared.heap ⟨hp,g,d,tk,os⟩) l1 xs:=S1;have T2:Sq b2 (Shared.heap ⟨hp.push (itO b1 l1),g,d,tk,os⟩) l2 ys:=Sq.push S2 _;wp_walk using jcV T1,jcV T2;exact⟨_,rfl,h⟩
section
variable {prog:Program}{w:World}{A:Around}{E:Value->Shared->Prop}{s:Shared}
theorem jk1 {b1 b2:Bool}{l1 l2:Addr}{xs ys:Array Value}{Q:Value->Shared->Prop}(S1:Sq b1 s.heap l1 xs)(S2:Sq b2 s.heap l2 ys)
  (go:∀h',Zs b1 b2 h' (s.heap.objs.size+4) (s.heap.objs.size+2) (s.heap.objs.size+3) s.heap.objs.size (s.heap.objs.size+1) l1 l2 0 xs ys .none->(∀c o,s.heap.get? c=some o->h'.get? c=some o)->Q (.ref (s.heap.objs.size+4)) { s with heap:=h' }) :
  wpAny @2 A (call (.type "zip") [.ref l1,.ref l2]) Q E s:=by
 refine callType_new F.called_zip (by decide) (F.typeCall_zip_2 _ _) (F.newCall_zip_2 _ _) (fun obj=>F.args_object_init_3 obj _ _) F.entry_zip_new (jnu b1 b2 l1 l2 xs ys) ⟨S1,S2,?_⟩
 have n1:(zA s.heap b1 l1).objs.size=s.heap.objs.size+1:=Heap.size_push ..;have n2:(zB s.heap b1 b2 l1 l2).objs.size=s.heap.objs.size+2:=by rw[Heap.size_push,n1]
 have n3:(zC s.heap b1 b2 l1 l2).objs.size=s.heap.objs.size+3:=by rw[Heap.size_push,n2]
 have n4:(zD s.heap b1 b2 l1 l2).objs.size=s.heap.objs.size+4:=by rw[Heap.size_push,n3]
 have up:∀c o,s.heap.get? c=some o->(zE s.heap b1 b2 l1 l2).get? c=some o:=fun c o e=>jug _ (jug _ (jug _ (jug _ (jug _ e))));have g5:(zE s.heap b1 b2 l1 l2).get? (zD s.heap b1 b2 l1 l2).objs.size=some _:=jui _ rfl;have g4:(zE s.heap b1 b2 l1 l2).get? (zC s.heap b1 b2 l1 l2).objs.size=some _:=jug _ (jui _ rfl);have g3:(zE s.heap b1 b2 l1 l2).get? (zB s.heap b1 b2 l1 l2).objs.size=some _:=jug _ (jug _ (jui _ rfl));have g2:(zE s.heap b1 b2 l1 l2).get? (zA s.heap b1 l1).objs.size=some (itO b2 l2):=jug _ (jug _ (jug _ (jui _ (by cases b2 <;> rfl))))
 have g1:(zE s.heap b1 b2 l1 l2).get? s.heap.objs.size=some (itO b1 l1):=jug _ (jug _ (jug _ (jug _ (jui _ (by cases b1 <;> rfl)))))
 show _/\_;rw[n2,n3,n4]at g5;rw[n1,n2]at g3;rw[n3]at g4;rw[n1]at g2;rw[n4];exact⟨⟨_,g5,rfl⟩,go _ ⟨g5,g3,⟨_,_,g4⟩,Sit.new S1 g1 (up l1),Sit.new S2 g2 (up l2)⟩ up⟩
end
noncomputable def SqB (K:PySem.W.Frag)(b:Bool)(H:Hp)(a:Addr)(xs:List V):Prop:=(b=true/\SqL K H a xs)\/(b=false/\SqT K H a xs)
noncomputable def Itz (K:PySem.W.Frag)(b1 b2:Bool)(l1 l2:Addr):It where
 go i H:=∃xs ys x y,SqB K b1 H l1 xs/\SqB K b2 H l2 ys/\xs[i]?=some x/\ys[i]?=some y
 yld i H v H':=∃p x y,v=.ref p/\H p=none/\H'=upd H p (.tup [x,y])/\(∀xs,SqB K b1 H l1 xs->xs[i]?=some x)/\∀ys,SqB K b2 H l2 ys->ys[i]?=some y
 stop i H:=∃xs ys,SqB K b1 H l1 xs/\SqB K b2 H l2 ys/\(xs.length<=i\/ys.length<=i)
section
variable {X:Cx}{pins:List (Addr×Obj)}{σ:St}{H:Hp}{s:Shared}{b:Bool}{a:Addr}{xs ys:List V}
theorem Inv.sqb (I:Inv X pins σ H s)(h:SqB X.K b H a xs):∃its:List Value,Vals xs its/\Sq b s.heap a its.toArray/\xs.length<=sizeLine:=by
 rcases h with ⟨e,h⟩ | ⟨e,h⟩
 ·obtain⟨its,r,p,z⟩:=I.list h;exact⟨its,r,.inl ⟨e,p.isList⟩,z⟩
 ·obtain⟨its,r,p,z⟩:=I.tuple h;exact⟨its,r,.inr ⟨e,p⟩,z⟩
theorem Inv.sqb_inj (I:Inv X pins σ H s)(h:SqB X.K b H a xs)(h':SqB X.K b H a ys):xs=ys:=by
 rcases h with ⟨e,h⟩ | ⟨e,h⟩
 ·rcases h' with ⟨e',h'⟩ | ⟨e',h'⟩
  ·exact I.list_inj h h'
  ·rw[e]at e';cases e'
 ·rcases h' with ⟨e',h'⟩ | ⟨e',h'⟩
  ·rw[e]at e';cases e'
  ·exact I.tuple_inj h h'
theorem Inv.turnedN {h':Heap}{t':Nat}{fp:List Addr}(I:Inv X pins σ H s)(k:∀b o,b ∉ fp->s.heap.get? b=some o->h'.get? b=some o)(hf:∀b∈fp,FpOk X pins H b):Inv X pins σ H { s with heap:=h',toks:=t' }:=by
 have nit:∀b u,H b=some u->b ∉ fp:=fun b u e z=>by rw[(hf b z).1]at e;cases e
 refine I.call' (ch:=fp) rfl ⟨fun b o e _ _ hc=>k b o hc e,fun b o e _ _ hc=>⟨o.slots,k b o hc e⟩,fun _ _ _ n _=>n,fun b o e hc=>⟨o,k b o hc e⟩,fun _ _ e=>e,fun _ _ _ e=>e,fun b ps e=>⟨#[],by rw[e];simp⟩⟩ (fun b u e=>?_) I.bare fun b hb=>?_
 ·refine(I.hok b u e).stay (fun c v hc q=>k c v ?_ q) (fun _ q=>q) fun _ _ q=>q;rcases hc with z | z
  ·rw[z];exact nit b u e
  ·exact nit c _ z
 ·obtain⟨_,f1,_,f3,f4,f5⟩:=hf b hb;exact⟨f3,f1,f4,f5⟩
end
theorem Inv.turnedP {X:Cx}{pins:List (Addr×Obj)}{σ:St}{H:Hp}{s:Shared}{h':Heap}{t':Nat}{fp:List Addr}{x y:V}{u v:Value}(I:Inv X pins σ H s)(k:∀b o,b ∉ fp->s.heap.get? b=some o->h'.get? b=some o)(hf:∀b∈fp,FpOk X pins H b)
  (rx:RelV x u) (ry:RelV y v) (pr:IsPair h' s.heap.objs.size u v):Inv X pins σ (upd H s.heap.objs.size (.tup [x,y])) { s with heap:=h',toks:=t' }:=by
 have hn:H s.heap.objs.size=none:=I.hok.fresh (jul _);have nit:∀b u,H b=some u->b ∉ fp:=fun b u e z=>by rw[(hf b z).1]at e;cases e
 refine I.call' (ch:=fp) rfl ⟨fun b o e _ _ hc=>k b o hc e,fun b o e _ _ hc=>⟨o.slots,k b o hc e⟩,fun b o e n _=>?_,fun b o e hc=>⟨o,k b o hc e⟩,fun b xs e=>?_,fun b o w e=>?_,fun b ps e=>⟨#[],?_⟩⟩ (fun b w e=>?_) I.bare fun b hb=>?_
 ·rw[jac (jun (juh e))];exact n
 ·rw[jac (jab e hn)];exact e
 ·rw[jac (jab e hn)];exact e
 ·rw[jac (jab e hn),e];simp
 ·by_cases hb:b=s.heap.objs.size
  ·subst hb;rw[jah]at e;cases e;exact⟨by rw[sizeLine_eq];show 2<=16777216;decide,[u,v],.cons rx (.cons ry .nil),_,pr,rfl,_,rfl⟩
  ·rw[jac hb]at e;refine(I.hok b w e).stay (fun c v hc q=>k c v ?_ q) (fun c q=>?_) fun c ts q=>?_
   ·rcases hc with z | z
    ·rw[z];exact nit b w e
    ·exact nit c _ z
   ·rw[jac (jab q hn)];exact q
   ·rw[jac (jab q hn)];exact q
 ·obtain⟨_,f1,_,f3,f4,f5⟩:=hf b hb;exact⟨f3,f1,f4,f5⟩
structure Zi (b1 b2:Bool)(h:Heap)(z TI TO i1 i2 l1 l2:Addr)(k:Nat)(f:Value):Prop where
 zi:IsZip h z TI TO f
 ti:IsPair h TI (.ref i1) (.ref i2)
 to_:∃a b,IsPair h TO a b
 s1:(b1=true/\h.IsListIter i1 l1 k)\/(b1=false/\h.IsTupleIter i1 l1 k)
 s2:(b2=true/\h.IsListIter i2 l2 k)\/(b2=false/\h.IsTupleIter i2 l2 k)
section
variable {b1 b2:Bool}{h h':Heap}{z TI TO i1 i2 l1 l2:Addr}{k:Nat}{f:Value}{xs ys:Array Value}
theorem Zs.zi' (S:Zs b1 b2 h z TI TO i1 i2 l1 l2 k xs ys f):Zi b1 b2 h z TI TO i1 i2 l1 l2 k f:=⟨S.zi,S.ti,S.to_,S.s1.imp (fun q=>⟨q.1,q.2.1⟩) (fun q=>⟨q.1,q.2.1⟩),S.s2.imp (fun q=>⟨q.1,q.2.1⟩) (fun q=>⟨q.1,q.2.1⟩)⟩
theorem jgk {b:Bool}{it l:Addr}(q:(b=true/\h.IsListIter it l k)\/(b=false/\h.IsTupleIter it l k))(S:Sq b h l xs):Sit b h it l k xs:=by
 rcases q with ⟨e,q⟩ | ⟨e,q⟩
 ·rcases S with ⟨e',S⟩ | ⟨e',S⟩
  ·exact .inl ⟨e,q,S⟩
  ·rw[e]at e';cases e'
 ·rcases S with ⟨e',S⟩ | ⟨e',S⟩
  ·rw[e]at e';cases e'
  ·exact .inr ⟨e,q,S⟩
theorem Zi.zs (S:Zi b1 b2 h z TI TO i1 i2 l1 l2 k f)(S1:Sq b1 h l1 xs)(S2:Sq b2 h l2 ys):Zs b1 b2 h z TI TO i1 i2 l1 l2 k xs ys f:=⟨S.zi,S.ti,S.to_,jgk S.s1 S1,jgk S.s2 S2⟩
theorem Zi.at (S:Zi b1 b2 h z TI TO i1 i2 l1 l2 k f)(q:∀b∈[z,TI,TO,i1,i2],∀o,h.get? b=some o->h'.get? b=some o):Zi b1 b2 h' z TI TO i1 i2 l1 l2 k f:=by
 obtain⟨zi,ti,⟨a,b,to_⟩,s1,s2⟩:=S;refine⟨q z @11 _ zi,q TI @11 _ ti,⟨a,b,q TO @11 _ to_⟩,?_,?_⟩
 ·rcases s1 with ⟨e,o,r1,r2⟩ | ⟨e,o,r1,r2⟩
  ·exact .inl ⟨e,o,q i1 @11 o r1,r2⟩
  ·exact .inr ⟨e,o,q i1 @11 o r1,r2⟩
 ·rcases s2 with ⟨e,o,r1,r2⟩ | ⟨e,o,r1,r2⟩
  ·exact .inl ⟨e,o,q i2 @11 o r1,r2⟩
  ·exact .inr ⟨e,o,q i2 @11 o r1,r2⟩
theorem jcr {b:Bool}{it l:Addr}(q:(b=true/\h.IsListIter it l k)\/(b=false/\h.IsTupleIter it l k)):∃o,h.get? it=some o/\∀v,o.data≠.cell v:=by
 rcases q with ⟨_,o,r1,_,r2⟩ | ⟨_,o,r1,_,r2⟩ <;> exact⟨o,r1,fun v z=>by rw[r2]at z;cases z⟩
end
theorem jk2 {P:Program}{w:World}{K:PySem.W.Frag}{es:List Expr}{n:Nat}{pos:Pos}{b1 b2:Bool}{z TI TO i1 i2 l1 l2:Addr}(D:ZipApart z TI TO i1 i2 l1 l2) :
  Turn P w K (.Tuple es n pos) (Itz K b1 b2 l1 l2) [z,TI,TO,i1,i2] z (fun i h=>Zi b1 b2 h z TI TO i1 i2 l1 l2 i .none) where
 mem:=by simp
 obj:=fun i h st b hb=>by
  obtain⟨zi,ti,⟨a,c,to_⟩,s1,s2⟩:=st;simp only[jtK,jt7,or_false]at hb;rcases hb with rfl | rfl | rfl | rfl | rfl
  ·exact⟨_,zi,fun v q=>by simp at q⟩
  ·exact⟨_,ti,fun v q=>by simp at q⟩
  ·exact⟨_,to_,fun v q=>by simp at q⟩
  ·exact jcr s1
  ·exact jcr s2
 keep:=fun i h h' st k=>st.at k
 item:=by
  intro X hP hw hK hc i pins s σ H E I hf st hg;subst hP hw hK;obtain⟨xs,ys,x,y,q1,q2,hx,hy⟩:=hg;obtain⟨as,r1,S1,_⟩:=I.sqb q1;obtain⟨bs,r2,S2,_⟩:=I.sqb q2;obtain⟨u1,hu1,ru1⟩:=r1.get hx;obtain⟨u2,hu2,ru2⟩:=r2.get hy;refine jhn D (st.zs S1 S2) (x:=u1) (y:=u2) (by simpa using hu1) (by simpa using hu2) fun h1 st1 pr kp=>⟨_,rfl,?_⟩
  refine wpAny_letOwnedTupleGo_zip st1.zi fun h2 zi2 sb2=>?_;have zlt:z<s.heap.objs.size:=juh st.zi;have kp2:∀b o,b ∉ [z,TI,TO,i1,i2]->s.heap.get? b=some o->h2.get? b=some o:=fun b o hb e=>by
   simp only[jtK,jt7,or_false,not_or]at hb;exact sb2.extBut b o hb.1 (kp b o hb.1 hb.2.2.1 hb.2.2.2.1 hb.2.2.2.2 e)
  have pr2:IsPair h2 s.heap.objs.size u1 u2:=sb2.extBut _ _ (Nat.ne_of_gt zlt) pr;have hn:H s.heap.objs.size=none:=I.hok.fresh (jul _);have I3:Inv X pins σ (upd H s.heap.objs.size (.tup [x,y])) { s with heap:=h2 }:=I.turnedP (t':=s.toks) kp2 hf ru1 ru2 pr2
  have fin:∀b∈[z,TI,TO,i1,i2],b<s.heap.objs.size:=fun b hb=>by
   obtain⟨zi,ti,⟨a,c,to_⟩,s1,s2⟩:=st;simp only[jtK,jt7,or_false]at hb;rcases hb with rfl | rfl | rfl | rfl | rfl
   ·exact juh zi
   ·exact juh ti
   ·exact juh to_
   ·obtain⟨o,e,_⟩:=jcr s1;exact juh e
   ·obtain⟨o,e,_⟩:=jcr s2;exact juh e
  have st2:Zi b1 b2 h2 z TI TO i1 i2 l1 l2 (i+1) .none:=by
   obtain⟨_,ti,⟨a,c,to_⟩,s1,s2⟩:=st1.zi';refine⟨zi2,sb2.extBut _ _ D.TIz ti,⟨a,c,sb2.extBut _ _ D.TOz to_⟩,?_,?_⟩
   ·rcases s1 with ⟨e,o,r1,r2⟩ | ⟨e,o,r1,r2⟩
    ·exact .inl ⟨e,o,sb2.extBut _ _ D.i1z r1,r2⟩
    ·exact .inr ⟨e,o,sb2.extBut _ _ D.i1z r1,r2⟩
   ·rcases s2 with ⟨e,o,r1,r2⟩ | ⟨e,o,r1,r2⟩
    ·exact .inl ⟨e,o,sb2.extBut _ _ D.i2z r1,r2⟩
    ·exact .inr ⟨e,o,sb2.extBut _ _ D.i2z r1,r2⟩
  refine⟨.ref s.heap.objs.size,_,I3,rfl,⟨_,x,y,rfl,hn,rfl,fun xs' q=>?_,fun ys' q=>?_⟩,st2,fun b hb=>?_⟩
  ·rw[I.sqb_inj q q1];exact hx
  ·rw[I.sqb_inj q q2];exact hy
  ·rw[jac (jun (fin b hb))];exact(hf b hb).1
 done:=by
  intro X hP hw hK hc i pins s σ H E I hf st hg;subst hP hw hK;obtain⟨xs,ys,q1,q2,hl⟩:=hg;obtain⟨as,r1,S1,_⟩:=I.sqb q1;obtain⟨bs,r2,S2,_⟩:=I.sqb q2;have e1:=r1.length;have e2:=r2.length;refine jho (I.ok.hd hc) D (st.zs S1 S2) ?_ fun h' kp=>⟨rfl,I.turnedN (t':=s.toks) (fun b o hb e=>?_) hf⟩
  ·rcases hl with hl | hl
   ·exact .inl (by simp;omega)
   ·exact .inr (by simp;omega)
  ·simp only[jtK,jt7,or_false,not_or]at hb;exact kp b o hb.1 hb.2.2.1 hb.2.2.2.1 hb.2.2.2.2 e
 self:=fun _ _ _ _ _ st h=>wpAny_pyIter_zip st.zi h
noncomputable def jtk (K:PySem.W.Frag)(ta:TA):TI:=fun σ H R=>ta σ H fun vs H1=>∃l1 l2 b1 b2 xs ys,vs=[.ref l1,.ref l2]/\SqB K b1 H1 l1 xs/\SqB K b2 H1 l2 ys/\(xs.length<=sizeLine->ys.length<=sizeLine->R (Itz K b1 b2 l1 l2) H1)
theorem jpY {X:Cx}{es:List Expr}{n:Nat}{pos':Pos}{a b:Expr}{ta:TA}{p pos:Pos}(hg:Gl X "zip")(hm:X.mg "zip"=none)(ha:PA X [a,b] ta)(hs:starEach [a,b] X.env=(false,eval a X.env)::starEach [b] X.env)(hs2:(backTo pos (starEach [b] X.env)).any (·.1)=false) :
  PI X (.Tuple es n pos') (.Call (.Name "zip" p) [a,b] [] pos) (jtk X.K ta):=by
 intro pins s σ H R I h;have hv:bootBuiltins "zip"=some (.type "zip"):=by decide +kernel
 refine wpAny_Call_Name_kw (jdE I hg hm hv ?_ (by decide) (by decide))
 refine PyProof.Rows.callWith_type1 (thn (ha pos pins s σ H _ I h) fun us s1 ⟨vs,H1,I1,r1,q1⟩=>?_) hs hs2;obtain⟨l1,l2,b1,b2,xs,ys,rfl,q1,q2,q⟩:=q1;cases r1 with
 |cons r rr=>
  cases rr with
  |cons r' rr=>
   cases rr;cases r;cases r';obtain⟨as,v1,S1,z1⟩:=I1.sqb q1;obtain⟨bs,v2,S2,z2⟩:=I1.sqb q2;refine jk1 S1 S2 fun h' st kp=>?_;refine wpAny_pyIter_zip st.zi ?_;have n1:l1<s1.heap.objs.size:=by
    rcases S1 with ⟨_,o,e,_⟩ | ⟨_,o,e,_⟩ <;> exact juh e
   have n2:l2<s1.heap.objs.size:=by
    rcases S2 with ⟨_,o,e,_⟩ | ⟨_,o,e,_⟩ <;> exact juh e
   refine⟨_,_,_,_,H1,rfl,I1.kept (t':=s1.toks) kp,jk2 (zipApart_new n1 n2),st.zi',fun b hb=>?_,q z1 z2⟩;have hb':s1.heap.objs.size<=b:=by
    simp only[jtK,jt7,or_false]at hb;rcases hb with rfl | rfl | rfl | rfl | rfl
    ·exact Nat.le_add_right _ _
    ·exact Nat.le_add_right _ _
    ·exact Nat.le_add_right _ _
    ·exact jul _
    ·exact Nat.le_add_right _ _
   exact I1.fpOk hb' (I1.hok.fresh hb')
end L2
namespace L2
open PySem PySem.Spec PyProof.Rows
noncomputable def FlyA (B:Heap)(l:List Env)(e:Addr)(cls a0:Value)(h:Heap):Prop:=∃fl,B.StaysIn h/\B.get? e=none/\h.FunFrames B l/\h.TracedAtW B e cls a0 fl
section
variable {B h:Heap}{l:List Env}{e:Addr}{cls a0:Value}
theorem FlyA.of (x:Heap.FlyingW B l e cls a0 h):FlyA B l e cls a0 h:=⟨.none,x⟩
theorem FlyA.held {L:Addr}(x:Heap.HeldW B l e cls a0 L h):FlyA B l e cls a0 h:=⟨_,x⟩
theorem FlyA.stays (x:FlyA B l e cls a0 h):B.StaysIn h:=let ⟨_,k,_⟩:=x;k
theorem FlyA.new (x:FlyA B l e cls a0 h):B.get? e=none:=let ⟨_,_,k,_⟩:=x;k
end
section
variable {M:Model}{A:Around}{E:Value->Shared->Prop}{s:Shared}{B:Heap}{e:Addr}{cls a0:Value}
theorem jgl {env env':Env}{outer:List Env}{L:Addr}{Q:Unit->Shared->Prop}(hfr:A.frames=some (env::outer))(hf:env.frame=some L)(hf':env'.frame=some L)(x:FlyA B (env::outer) e cls a0 s.heap)
  (hQ:∀h',Heap.HeldW B (env::outer) e cls a0 L h'->s.heap.UpToSlots h'->Q () { s with heap:=h' }):wpAny M A (noteFrame (.ref e) env') Q E s:=by
 have ee:noteFrame (.ref e) env'=noteFrame (.ref e) env:=by
  unfold noteFrame PySem.frameOf;rw[hf,hf']
 rw[ee];obtain⟨fl,hb,hn,hl,ht⟩:=x;by_cases hfl:(fl==rawInt L)=true
 ·have hfl:fl=rawInt L:=by simpa using hfl
  subst hfl;exact wpAny_noteFrame_againW hf ht (hQ s.heap ⟨hb,hn,hl,ht⟩ (Heap.UpToSlots.refl _))
 ·obtain⟨oe,vs,T,oT,ts,he,⟨hcls,h0⟩,hd,h1,hnT,hTe,hT,hdT,h3⟩:=ht;subst hcls;unfold noteFrame;simp only[hf];refine jt8 (jue he hd h1 ?_);rw[if_pos (show (Value.ref T != Value.none)=true from by simp)]
  refine jt8 (jue hT hdT h3 ?_);rw[if_neg hfl];refine jt8 (wpAny_setField hT hdT (Array.getElem?_eq_some_iff.mp h3).1 ?_);have other:∀b,b≠T->(s.heap.update T (Obj.mapFields (·.setIfInBounds 3 Value.none))).get? b=s.heap.get? b:=fun b hb=>juk _ _ (Ne.symm hb);have noRec:∀b o,s.heap.get? b=some o->(∀vs,o.data≠.fields vs)->b≠T:=fun b o hb hnf q=>by
   rw[q,hT]at hb;injection hb with hb;subst hb;exact hnf ts hdT
  exact wpAny_entryW hfr (hl.of_keeps fun b o hb hnf=>⟨o,(other b (noRec b o hb hnf)).trans hb,rfl⟩) hf ((other e (Ne.symm hTe)).trans he)
   (fun b o hbo=>(other b fun q=>by rw[q,hnT]at hbo;cases hbo).trans (hb b o hbo)) hn hd (Array.getElem?_eq_some_iff.mp h1).1 h0
   fun h' ⟨x1,x2,x3,x4⟩=>hQ h' ⟨x1,hn,x2,x3⟩ fun b o hb hnf=>x4 b o ((other b (noRec b o hb hnf)).trans hb) hnf
theorem jk3 {l:List Env}{w:String}{env':Env}{Q:Value->Shared->Prop}(x:FlyA B l e cls a0 s.heap)(hE:∀h',FlyA B l e cls a0 h'->s.heap.UpToSlots h'->E (.ref e) { s with heap:=h' }):wpAny M A (PySem.passOn w (.ref e) env':Sem Value) Q E s:=by
 obtain⟨fl,hb,hn,hl,oe,vs,T,oT,ts,he,hc,hd,h1,hnT,hTe,hT,hdT,h3⟩:=x;have hsz3:3<ts.size:=(Array.getElem?_eq_some_iff.mp h3).1;have other:∀b,b≠T->(s.heap.update T (Obj.mapFields (·.setIfInBounds 3 (env'.frame.elim Value.none fun f=>rawInt f)))).get? b=s.heap.get? b:=
  fun b hb=>juk _ _ (Ne.symm hb)
 have noRec:∀b o,s.heap.get? b=some o->(∀vs,o.data≠.fields vs)->b≠T:=fun b o hb hnf q=>by
  rw[q,hT]at hb;injection hb with hb;subst hb;exact hnf ts hdT
 unfold PySem.passOn;refine jt8 (jue he hd h1 ?_);rw[if_neg (show ¬ ((Value.ref T==Value.none)=true)from by simp)]
 unfold setFlight;refine jt8 (jt8 (jue he hd h1 ?_));rw[if_pos (show (Value.ref T != Value.none)=true from by simp)]
 refine wpAny_setField hT hdT hsz3 (wpAny_throw (hE _ ⟨env'.frame.elim Value.none fun f=>rawInt f,fun b o hbo=>(other b fun q=>by rw[q,hnT]at hbo;cases hbo).trans (hb b o hbo),hn,
  hl.of_keeps fun b o hb hnf=>⟨o,(other b (noRec b o hb hnf)).trans hb,rfl⟩,
  oe,vs,T,_,_,(other e (Ne.symm hTe)).trans he,hc,hd,h1,hnT,hTe,juj _ hT (Obj.isFreed_of_fields (Obj.data_mapFields hdT _)),Obj.data_mapFields hdT _,by simp[hsz3]⟩
  fun b o hb hnf=>⟨o.slots,(other b (noRec b o hb hnf)).trans hb⟩))
theorem jgm {C:Addr}{h h':Heap}:∀{l:List Env},h.FunFrames B l->C ∉ l.filterMap (·.frame)->Heap.SameBut C h h'->h'.FunFrames B l
 |[],_,_,_=>trivial
 |env::r,⟨k,⟨L,o,hf,hB,ho,hd⟩,t⟩,hC,sb=>by
  rw[jtW,hf]at hC;exact⟨k,⟨L,o,hf,hB,(sb.2 L fun z=>hC (by simp[z])).trans ho,hd⟩,jgm t (fun z=>hC (jtI _ z)) sb⟩
theorem FlyA.but {l:List Env}{C:Addr}{h h':Heap}{m:Str->Option Value}(x:FlyA B l e cls a0 h)(hn:h.Ns C m)(hB:B.get? C=none)(hC:C ∉ l.filterMap (·.frame))(sb:Heap.SameBut C h h'):FlyA B l e cls a0 h':=by
 obtain⟨fl,k1,k2,k3,oe,vs,T,oT,ts,he,hc,hd,h1,hnT,hTe,hT,hdT,h3⟩:=x;obtain⟨oC,es,ep,hoC,hdC,_⟩:=hn;have ne:∀{b:Addr}{o:Obj}{ws:Array Value},h.get? b=some o->o.data=.fields ws->b≠C:=fun {b o ws} q1 q2 z=>by
  rw[z,hoC]at q1;cases q1;rw[hdC]at q2;cases q2
 exact⟨fl,fun b o q=>(sb.2 b fun z=>by rw[z,hB]at q;cases q).trans (k1 b o q),k2,jgm k3 hC sb,oe,vs,T,oT,ts,(sb.2 e (ne he hd)).trans he,hc,hd,h1,hnT,hTe,(sb.2 T (ne hT hdT)).trans hT,hdT,h3⟩
end
end L2
namespace L2
open PySem PySem.Spec PyProof.Rows
open AutoSeq1 (wpAny_loadPart')
theorem jiD {prog:Program}{w:World}{A:Around}{b:Bool}{it l:Addr}(hh:A.handled=none)(ne:l≠it)(xs:Array Value):Draws prog w A it [it,l] xs.size (fun i v=>xs[i]?=some v) (fun i h=>Sit b h it l i xs) where
 live:=fun _ _ st=>by obtain⟨⟨o,e,_⟩,_⟩:=st.obj;exact⟨o,e⟩
 frame:=fun _ _ _ st k=>st.at (fun o e=>k it @11 o e) (fun o e=>k l @11 o e)
 item:=fun i s Q E hi st q=>jcI st ne (x:=xs[i]) (by simp[hi]) fun h' st' sb=>q _ h' s.toks (by simp[hi]) st' sb
 done:=fun s Q E st q=>jcJ hh st @11 q
theorem Sq.look {b:Bool}{h:Heap}{l:Addr}{xs:Array Value}(S:Sq b h l xs):∃o,h.get? l=some o:=by
 rcases S with ⟨_,o,e,_⟩ | ⟨_,o,e,_⟩ <;> exact⟨o,e⟩
noncomputable abbrev eN (h:Heap)(b:Bool)(l:Addr):Heap:=(h.push (itO b l)).push { cls:=.type "enumerate",data:=.fields #[.none,.bool false,.ref h.objs.size,rawInt 0,.none,.none] }
theorem jk4 (b:Bool)(l:Addr)(xs:Array Value):Meets (Builtin.«enumerate.__new__» ⟨[.type "enumerate",.ref l],[]⟩) (fun _ R s=>Sq b s.heap l xs/\R (.ok (.ret (.ref (s.heap.push (itO b l)).objs.size))) { s with heap:=eN s.heap b l }):=
 .of_wp fun prog w A R s h=>by
  obtain⟨hp,g,d,tk,os⟩:=s;obtain⟨S,h⟩:=h;have hsub:=sub_enumerate;have T:Sq b (Shared.heap ⟨hp,g,d,tk,os⟩) l xs:=S;obtain⟨o,hl⟩:=T.look;wp_walk using wpAny_loadPart' hl;refine wpAny_stack_any fun st=>jt9 ?_;split
  ·rename_i c _ _ _ _ _;cases (c == Value.type "enumerate")
   ·wp_walk using wpAny_loadPart' hl,jcV T
    exact⟨_,rfl,h⟩
   ·wp_walk using wpAny_loadPart' hl,jcV T
    exact⟨_,rfl,h⟩
  ·wp_walk using wpAny_loadPart' hl,jcV T
   exact⟨_,rfl,h⟩
theorem jiE {prog:Program}{w:World}{A:Around}{E:Value->Shared->Prop}{s:Shared}{b:Bool}{l:Addr}{xs:Array Value}{Q:Value->Shared->Prop}(S:Sq b s.heap l xs)
  (go:∀h',IsEnum h' (s.heap.objs.size+1) s.heap.objs.size 0 .none->Sit b h' s.heap.objs.size l 0 xs->(∀c o,s.heap.get? c=some o->h'.get? c=some o)->Q (.ref (s.heap.objs.size+1)) { s with heap:=h' }) :
  wpAny @2 A (call (.type "enumerate") [.ref l]) Q E s:=by
 refine callType_new F.called_enumerate (by decide) (F.typeCall_enumerate_1 _) (F.newCall_enumerate_1 _) (fun obj=>F.args_object_init_2 obj _) F.entry_enumerate_new (jk4 b l xs) ⟨S,?_⟩
 have n1:(s.heap.push (itO b l)).objs.size=s.heap.objs.size+1:=Heap.size_push ..;have g1:IsEnum (eN s.heap b l) (s.heap.push (itO b l)).objs.size s.heap.objs.size 0 .none:=jui _ rfl;have g2:(eN s.heap b l).get? s.heap.objs.size=some (itO b l):=jug _ (jui _ (by cases b <;> rfl))
 have up:∀c o,s.heap.get? c=some o->(eN s.heap b l).get? c=some o:=fun c o e=>jug _ (jug _ e);show _/\_;rw[n1]at g1 ⊢;exact⟨⟨_,g1,rfl⟩,go _ g1 (Sit.new S g2 (up l)) up⟩
structure Ei (b:Bool)(h:Heap)(e it l:Addr)(k:Nat):Prop where
 en:∃old,IsEnum h e it k old
 s1:(b=true/\h.IsListIter it l k)\/(b=false/\h.IsTupleIter it l k)
noncomputable def Ite (K:PySem.W.Frag)(b:Bool)(l:Addr):It where
 go i H:=∃xs x,SqB K b H l xs/\xs[i]?=some x
 yld i H v H':=∃p x,v=.ref p/\H p=none/\H'=upd H p (.tup [.int i,x])/\∀xs,SqB K b H l xs->xs[i]?=some x
 stop i H:=∃xs,SqB K b H l xs/\xs.length<=i
theorem jiF {P:Program}{w:World}{K:PySem.W.Frag}{es:List Expr}{n:Nat}{pos:Pos}{b:Bool}{e it l:Addr}(d1:e≠it)(d2:l≠e)(d3:l≠it) :
  Turn P w K (.Tuple es n pos) (Ite K b l) [e,it] e (fun i h=>Ei b h e it l i) where
 mem:=by simp
 obj:=fun i h st c hc=>by
  obtain⟨⟨_,en⟩,s1⟩:=st;rcases List.mem_cons.mp hc with rfl | hc
  ·exact⟨_,en,fun v q=>by simp at q⟩
  ·rw[List.mem_singleton.mp hc];exact jcr s1
 keep:=fun i h h' st k=>by
  obtain⟨⟨old,en⟩,s1⟩:=st;refine⟨⟨old,k e @11 _ en⟩,?_⟩
  rcases s1 with ⟨z,o,r1,r2⟩ | ⟨z,o,r1,r2⟩
  ·exact .inl ⟨z,o,k it @11 o r1,r2⟩
  ·exact .inr ⟨z,o,k it @11 o r1,r2⟩
 item:=by
  intro X hP hw hK hc i pins s σ H E I hf st hg;subst hP hw hK;obtain⟨xs,x,q1,hx⟩:=hg;obtain⟨as,r1,S1,_⟩:=I.sqb q1;obtain⟨u,hu,ru⟩:=r1.get hx;obtain⟨⟨old,en⟩,s1⟩:=st;have nf:e ∉ [it,l]:=by
   intro q;rcases List.mem_cons.mp q with q | q
   ·exact d1 q
   ·exact d2 (List.mem_singleton.mp q).symm
  have hi:i<as.toArray.size:=by
   have:=(List.getElem?_eq_some_iff.mp hu).1;simpa using this
  refine wpAny_pyNext_enum_itemD (jiD (A:=X.A.in1) (I.ok.hd hc) d3 as.toArray) en (jgk s1 S1) hi d1 nf fun y h1 tk hy eo st1 pr sz kp=>⟨_,rfl,?_⟩;have hy:y=u:=by
   have:as.toArray[i]?=some u:=by simpa using hu
   rw[this]at hy;cases hy;rfl
  subst hy;refine wpAny_letOwnedTupleGo_enum eo fun h2 en2 sb2=>?_;have elt:e<s.heap.objs.size:=juh en;obtain⟨o1,hit,_⟩:=jcr s1;have ilt:it<s.heap.objs.size:=juh hit;have kp2:∀c o,c ∉ [e,it]->s.heap.get? c=some o->h2.get? c=some o:=fun c o hc q=>by
   simp only[jtK,jt7,or_false,not_or]at hc;exact sb2.extBut c o hc.1 (kp c o hc.1 hc.2 q)
  have pr2:IsPair h2 s.heap.objs.size (.int i tk) y:=sb2.extBut _ _ (Nat.ne_of_gt elt) pr;have hn:H s.heap.objs.size=none:=I.hok.fresh (jul _);have I3:Inv X pins σ (upd H s.heap.objs.size (.tup [.int i,x])) { s with heap:=h2,toks:=tk+1 }:=I.turnedP (t':=tk+1) kp2 hf ⟨tk,rfl⟩ ru pr2
  have st2:Ei b h2 e it l (i+1):=by
   refine⟨⟨y,en2⟩,?_⟩;rcases st1 with ⟨z,⟨o,r1,r2⟩,_⟩ | ⟨z,⟨o,r1,r2⟩,_⟩
   ·exact .inl ⟨z,o,sb2.extBut _ _ d1.symm r1,r2⟩
   ·exact .inr ⟨z,o,sb2.extBut _ _ d1.symm r1,r2⟩
  refine⟨.ref s.heap.objs.size,_,I3,rfl,⟨_,x,rfl,hn,rfl,fun xs' q=>?_⟩,st2,fun c hc=>?_⟩
  ·rw[I.sqb_inj q q1];exact hx
  ·have lt:c<s.heap.objs.size:=by
    rcases List.mem_cons.mp hc with rfl | z
    ·exact elt
    ·rw[List.mem_singleton.mp z];exact ilt
   rw[jac (jun lt)];exact(hf c hc).1
 done:=by
  intro X hP hw hK hc i pins s σ H E I hf st hg;subst hP hw hK;obtain⟨xs,q1,hl⟩:=hg;obtain⟨as,r1,S1,_⟩:=I.sqb q1;have e1:=r1.length;obtain⟨⟨old,en⟩,s1⟩:=st;have T:s.TypeIs (.ref e) "enumerate":=⟨_,en,rfl⟩;unfold pyNext;refine jt8 (wpAny_attempt (wpAny_callSpecial?_slot (name:=Str.ofString "__next__") T F.slot_enumerate_next (wpAny_call_entry F.slot_enumerate_next T F.entry_enumerate_next ?_ (F.args_enumerate_next_1 _))));show wpAny _ _ (field (.ref e) 2 >>= _) _ _ _;refine jt8 (jue en rfl (x:=.ref it) rfl ?_);refine jt8 (jcJ (I.ok.hd hc) (jgk s1 S1) (by simp;omega) fun h' ea ex hx=>?_)
  obtain⟨o,ho,oc⟩:=hx;refine jt8 (wpAny_isInstance (T:="StopIteration") (b:=true) ⟨o,ho,oc⟩ isSubtype_stop ?_);exact jt9 ⟨rfl,I.turnedN (t':=s.toks) (fun c o hb q=>ex c o (fun z=>hb (by rw[z];simp)) q) hf⟩
 self:=fun _ _ _ _ _ st h=>by
  obtain⟨⟨_,en⟩,_⟩:=st;exact wpAny_pyIter_enum en h
noncomputable def jrR (K:PySem.W.Frag)(ta:TA):TI:=fun σ H R=>ta σ H fun vs H1=>∃l b xs,vs=[.ref l]/\SqB K b H1 l xs/\(xs.length<=sizeLine->R (Ite K b l) H1)
theorem jnv {X:Cx}{es:List Expr}{n:Nat}{pos':Pos}{a:Expr}{ta:TA}{p pos:Pos}(hg:Gl X "enumerate")(hm:X.mg "enumerate"=none)(ha:PA X [a] ta)(hs:starEach [a] X.env=(false,eval a X.env)::starEach [] X.env) :
  PI X (.Tuple es n pos') (.Call (.Name "enumerate" p) [a] [] pos) (jrR X.K ta):=by
 intro pins s σ H R I h;have hv:bootBuiltins "enumerate"=some (.type "enumerate"):=by decide +kernel
 refine wpAny_Call_Name_kw (jdE I hg hm hv ?_ (by decide) (by decide))
 refine PyProof.Rows.callWith_type1 (thn (ha pos pins s σ H _ I h) fun us s1 hz=>?_) hs rfl;obtain⟨vs,H1,I1,r1,q1⟩:=hz;obtain⟨l,b,xs,rfl,q1,q⟩:=q1;cases r1 with
 |cons r rr=>
  cases rr;cases r;obtain⟨as,v1,S1,z1⟩:=I1.sqb q1;refine jiE S1 fun h' en st kp=>?_;refine wpAny_pyIter_enum en ?_;obtain⟨o,ho⟩:=S1.look;have n1:l<s1.heap.objs.size:=juh ho;refine⟨_,[s1.heap.objs.size+1,s1.heap.objs.size],fun i h=>Ei b h (s1.heap.objs.size+1) s1.heap.objs.size l i,_,H1,rfl,I1.kept (t':=s1.toks) kp,jiF (Nat.succ_ne_self _) (jun (Nat.lt_succ_of_lt n1)) (jun n1),⟨⟨_,en⟩,st.imp (fun q=>⟨q.1,q.2.1⟩) (fun q=>⟨q.1,q.2.1⟩)⟩,fun c hc=>?_,q z1⟩;have hc':s1.heap.objs.size<=c:=by
   rcases List.mem_cons.mp hc with rfl | hc
   ·exact Nat.le_succ _
   ·rw[List.mem_singleton.mp hc];exact jul _
  exact I1.fpOk hc' (I1.hok.fresh hc')
theorem jnw {X:Cx}:OpR X (binaryOp .Mult) (fun x y H Q=>∃l k xs,x=.ref l/\y=.int k/\SqL X.K H l xs/\0<=k/\k<=16777216/\xs.length * k.toNat<=sizeLine/\∀p,H p=none->Q (.ref p) (upd H p (.lst (List.replicate k.toNat xs).flatten))):=by
 intro pins s σ H x y v u Q I rx ry h;obtain⟨l,k,xs,rfl,rfl,hH,h1,h2,hz,q⟩:=h;cases rx;obtain⟨t,rfl⟩:=ry;obtain⟨its,r,⟨⟨cls,dd,data,sl⟩,n,e,hc,hdd,hd⟩,_⟩:=I.list hH;simp only at hc hd;subst hc hd;have hl:=r.length;have hlen:its.toArray.size * k.toNat<=sizeLine:=by rw[jtL,<-hl];exact hz
 have hcap:¬ its.toArray.size * k.toNat>(2 ^ 63 - 1) / 8:=by
  have:(sizeLine:Nat)<=(2 ^ 63 - 1) / 8:=by decide
  omega
 have hfit:¬ (!Builtin.List.listFitsIndex k)=true:=by
  rw[fitsIndex_both @0 @0]
  exact jus
 have hlong:¬ Builtin.List.listTooLong (its.toArray.size * k.toNat)=true:=by
  rw[jdY hlen];exact jus
 have hnew:List.foldl (fun x1 x2=>x1++x2) #[] (List.replicate (if its.toArray.isEmpty=true then 0 else k.toNat) its.toArray)=(List.replicate k.toNat its).flatten.toArray:=by
  have f0:=fun m=>jcT its m [];simp only[List.nil_append]at f0;rw[f0];cases its with
  |nil=>simp
  |cons a r'=>rw[if_neg (by simp)]
 refine wpAny_binaryOp_repeat_ref (T:="list") (U:="int") (by decide) ⟨_,e,rfl⟩ (fun s'=>typeIs_int s' k t) noFill_list_mul F.fills_int_mul F.slot_int_rmul repeat_list F.slot_int_index.lookup
  (call_meets F.slot_int_rmul (typeIs_int s k t) F.entry_int_rmul (F.args_int_rmul_2 _ _) (lm_int_rmul_list_any k t l its.toArray n dd sl)
   ⟨e,rfl,⟨_,e,rfl⟩,call_meets F.slot_list_mul ⟨_,e,rfl⟩ F.entry_list_mul (F.args_list_mul_2 _ _) (lm_list_mul_any l its.toArray n dd sl k t hfit hcap hlong) ⟨e,?_⟩⟩)
 rw[hnew];exact⟨.ref _,_,I.lnew (t':=s.toks) (r.rep k.toNat) (by rw[jfx,Nat.mul_comm];exact hz),rfl,q _ I.fresh⟩
end L2
namespace L2
open PySem PySem.Spec PyProof.Rows
open Builtin
theorem jcB (l:Addr)(items:Array Value)(n:Nat)(d:Option Addr)(sl:Array (Option Value))(b:Bool)(hc2:¬Builtin.List.listTooLong (items.size * (if b=true then (1:Int)else 0).toNat)=true)(hc1:¬items.size * (if b=true then (1:Int)else 0).toNat>(2 ^ 63 - 1) / 8) :
  Meets (Builtin.«list.__mul__» ⟨[.ref l,.bool b],[]⟩) (fun _ R s=>s.heap.get? l=some { cls:=.type "list",dict:=d,data:=.seq items n,slots:=sl }/\R (.ok (.ret (Value.ref s.heap.objs.size))) { s with heap:=s.heap.push { cls:=Value.type "list",data:=Data.seq (List.foldl (fun x1 x2=>x1++x2) #[] (List.replicate (if items.isEmpty=true then 0 else (if b=true then (1:Int)else 0).toNat) items)) },toks:=s.toks }):=
 .of_wp fun prog w A R s h=>by
  obtain⟨hp,g,d,tk,os⟩:=s;obtain⟨hl,h⟩:=h;have hsz:=AutoListH.joined_fits hc2;have hc0:¬(!Builtin.List.listFitsIndex (if b=true then (1:Int)else 0))=true:=by cases b <;> decide
  wp_walk;refine jua (decide_eq_false (Nat.not_lt.mpr hsz)) ?_;wp_walk;exact⟨_,rfl,h⟩
theorem jbH (b:Bool)(l:Addr)(items:Array Value)(n:Nat)(d:Option Addr)(sl:Array (Option Value)) :
  Meets (Builtin.«int.__rmul__» ⟨[.bool b,.ref l],[]⟩) (fun _ R s=>s.heap.get? l=some { cls:=.type "list",dict:=d,data:=.seq items n,slots:=sl }/\R (.ok (.ret Value.notImplemented)) s):=
 .of_wp fun prog w A R s h=>by obtain⟨hp,g,d,tk,os⟩:=s;obtain⟨hl,h⟩:=h;wp_walk;exact⟨_,rfl,h⟩
theorem jnx {X:Cx}:OpR X (binaryOp .Mult) (fun x y H Q=>∃l b xs,x=.ref l/\y=.bl b/\SqL X.K H l xs/\xs.length<=sizeLine/\∀p,H p=none->Q (.ref p) (upd H p (.lst (if b then xs else [])))):=by
 intro pins s σ H x y v u Q I rx ry h;obtain⟨l,b,xs,rfl,rfl,hH,hz,q⟩:=h;cases rx;cases ry;obtain⟨its,r,⟨⟨cls,dd,data,sl⟩,n,e,hc,hdd,hd⟩,_⟩:=I.list hH;simp only at hc hd;subst hc hd;have hl:=r.length;have hlen:its.toArray.size * (if b=true then (1:Int)else 0).toNat<=sizeLine:=by
  rw[jtL,<-hl];cases b <;> simp <;> first | exact hz | skip
 have hcap:¬ its.toArray.size * (if b=true then (1:Int)else 0).toNat>(2 ^ 63 - 1) / 8:=by
  have:(sizeLine:Nat)<=(2 ^ 63 - 1) / 8:=by decide
  omega
 have hlong:¬ Builtin.List.listTooLong (its.toArray.size * (if b=true then (1:Int)else 0).toNat)=true:=by
  rw[jdY hlen];exact jus
 have hnew:List.foldl (fun x1 x2=>x1++x2) #[] (List.replicate (if its.toArray.isEmpty=true then 0 else (if b=true then (1:Int)else 0).toNat) its.toArray)=(if b then its else []).toArray:=by
  cases b with
  |false=>simp
  |true=>cases its with
   |nil=>simp
   |cons a r'=>simp
 refine wpAny_binaryOp_repeat_ref (T:="list") (U:="bool") (by decide) ⟨_,e,rfl⟩ (fun s'=>rfl) noFill_list_mul F.fills_bool_mul F.slot_bool_rmul repeat_list F.slot_bool_index.lookup
  (call_meets F.slot_bool_rmul rfl F.entry_int_rmul (F.args_int_rmul_2 _ _) (jbH b l its.toArray n dd sl)
   ⟨e,rfl,⟨_,e,rfl⟩,call_meets F.slot_list_mul ⟨_,e,rfl⟩ F.entry_list_mul (F.args_list_mul_2 _ _) (jcB l its.toArray n dd sl b hlong hcap) ⟨e,?_⟩⟩)
 rw[hnew];refine⟨.ref _,_,I.lnew (t':=s.toks) (ys:=if b then xs else []) ?_ ?_,rfl,q _ I.fresh⟩
 ·cases b <;> first | exact r | exact .nil
 ·cases b <;> first | exact hz | exact Nat.zero_le _
end L2
namespace L2
open PySem PySem.Spec PyProof.Rows
section
variable {X:Cx}
end
section
variable {X:Cx}
end
end L2
namespace Tx
open PySem
end Tx
namespace Tx
open PySem
noncomputable abbrev mk (l:List Nat):Str:=⟨l.toArray⟩
end Tx
namespace L2
open PySem PySem.Spec PyProof.Rows
noncomputable def SubH (h h':Heap):Prop:=∀b o,h.get? b=some o->h'.get? b=some o
theorem SubH.refl {h:Heap}:SubH h h:=fun _ _ e=>e
theorem SubH.trans {h h1 h2:Heap}(a:SubH h h1)(b:SubH h1 h2):SubH h h2:=fun c o e=>b c o (a c o e)
theorem SubH.push {h:Heap}(o:Obj):SubH h (h.push o):=fun _ _ e=>jug _ e
structure Itb (prog:Program)(w:World)(A:Around)(it:Value)(T:String)(h:Heap)(n:Nat)(P:Nat->Value->Prop)(wr0:List Addr):Prop where
 nl:T≠"list"
 nt:T≠"tuple"
 ty:∀s:Shared,SubH h s.heap->s.TypeIs it T
 ref:∀a,it=.ref a->a<h.objs.size
 iter:∀(s:Shared) (S:Addr) (Q E:Value->Shared->Prop),SubH h s.heap->h.objs.size<=S->S<s.heap.objs.size ->
  (∀(I:Addr) (fp wr:List Addr) (St:Nat->Heap->Prop) (h':Heap) (tk:Nat) (dr:Drawn),s.toks<=tk->SubH s.heap h'->Walks prog w A I fp wr n P St->St 0 h'->S ∉ fp->(∀b∈wr,b∈wr0\/s.heap.objs.size<=b)->Q (.ref I) { s with heap:=h',toks:=tk,drawn:=dr }) ->
  wpAny @2 A (pyIter it) Q E s
 hint:∀(s:Shared) (Q:Bool->Shared->Prop) (E:Value->Shared->Prop),SubH h s.heap->(∀b tk,s.toks<=tk->Q b { s with toks:=tk })->wpAny @2 A (Builtin.List.listLengthHint it) Q E s
structure Bhd (wr0:List Addr)(S:Addr)(s s':Shared):Prop where
 heap:∀b o,b≠S->b ∉ wr0->s.heap.get? b=some o->s'.heap.get? b=some o
 gens:s'.gens=s.gens
 os:s'.os=s.os
section
variable {prog:Program}{w:World}{A:Around}{it:Value}{T:String}{h:Heap}{n:Nat}{P:Nat->Value->Prop}{wr0:List Addr}
theorem jeB {s:Shared}{R:Result->Shared->Prop}(Y:Itb prog w A.in1 it T h n P wr0)(hh:SubH h s.heap)(hn:n<=sizeLine)(S:Addr)(res:Value)(c₀:Nat)(hS0:h.objs.size<=S)
  (hS:s.heap.get? S=some { cls:=Value.type "list",data:=Data.seq #[] c₀ })
  (hR:∀(s':Shared) (acc':Array Value) (c':Nat),Bhd wr0 S s s'->s'.heap.get? S=some { cls:=Value.type "list",data:=Data.seq acc' c' }->ItemsOf P acc' n->R (Except.ok (Flow.ret res)) s') :
  wpAny @2 A.in1 (Builtin.List.listExtendWith (Value.ref S) it res)
   (fun fin s'=>match fin with
    |Fin.done f=>R (Except.ok f) s'
    |Fin.again c'=>c'.quiet=true/\codeAny (model prog w) A c' R s')
   (fun e s'=>R (Except.error e) s') s:=by
 have hsame:Builtin.List.listSameRef (Value.ref S) it=false:=by
  cases it <;> try rfl
  rename_i a;have:=Y.ref a rfl;simp only[Builtin.List.listSameRef];exact beq_eq_false_iff_ne.mpr (Nat.ne_of_gt (jum this hS0))
 have htl:(Value.type T == Value.type "list")=false:=by
  rw[beq_eq_false_iff_ne];intro z;injection z with z;exact Y.nl z
 have htt:(Value.type T == Value.type "tuple")=false:=by
  rw[beq_eq_false_iff_ne];intro z;injection z with z;exact Y.nt z
 unfold Builtin.List.listExtendWith;refine jt8 (wpAny_typeOf (Y.ty s hh) ?_);rw[hsame,htl,htt];refine jua rfl ?_;refine jt8 (Y.iter s S _ _ hh hS0 (juh hS) fun I fp wr St h' tk dr htk hsub W hst hSf hwr=>?_);refine jt8 (jud (Y.hint _ _ _ (hh.trans hsub) fun b tk2 htk2=>?_));have hS1:h'.get? S=some { cls:=Value.type "list",data:=Data.seq #[] c₀ }:=hsub S _ hS;have fin:∀(s1:Shared) (c:Nat),s1.gens=s.gens->s1.os=s.os->(∀b o,b≠S->h'.get? b=some o->s1.heap.get? b=some o)->s1.heap.get? S=some { cls:=Value.type "list",data:=Data.seq #[] c } ->
   codeAny @2 A (Code.builtin "list.extend.loop" { pos:=[Value.ref S,Value.ref I,res] }) R s1:=fun s1 c hg ho hk hS2=>by
  refine codeAny_extend_loopS W.toS hn S hSf res n 0 s1 #[] c rfl (Nat.zero_le _) (W.frame 0 h' s1.heap hst fun b hb o e=>hk b o (fun z=>hSf (z ▸ hb)) e) hS2 ⟨rfl,fun j v e=>by simp at e⟩ fun s' acc' c' hm hS' hit=>?_
  refine hR s' acc' c' ⟨fun b o hb hw e=>hm.heap b o ?_ (hk b o hb (hsub b o e)),hm.gens.trans hg,hm.os.trans ho⟩ hS' hit;intro z;rcases List.mem_cons.mp z with z | z
  ·exact hb z
  ·rcases hwr b z with z | z
   ·exact hw z
   ·exact absurd (juh e) (Nat.not_lt.mpr z)
 have go:∀(s1:Shared) (c:Nat),s1.gens=s.gens->s1.os=s.os->(∀b o,b≠S->h'.get? b=some o->s1.heap.get? b=some o)->s1.heap.get? S=some { cls:=Value.type "list",data:=Data.seq #[] c } ->
   wpAny @2 A.in1 (again (Code.builtin "list.extend.loop" { pos:=[Value.ref S,Value.ref I,res] }))
   (fun fin s'=>match fin with
    |Fin.done f=>R (Except.ok f) s'
    |Fin.again c'=>c'.quiet=true/\codeAny (model prog w) A c' R s')
   (fun e s'=>R (Except.error e) s') s1:=fun s1 c hg ho hk hS2=>jt9 ⟨plainId_quiet F.plain_extend_loop _,fin s1 c hg ho hk hS2⟩
 split
 ·refine jt8 (wpAny_rule ?_);refine jt8 ?_;unfold Builtin.List.listTouch;refine jt8 (listUpdate_at hS1 rfl ?_ (by simp[sizeLine_eq]) (by simp[sizeLine_eq]))
  have e1:=juj (Obj.mapSeq fun x=>x.push Value.none) hS1 rfl;refine listUpdate_at e1 rfl ?_ (by simp[sizeLine_eq]) (by simp[sizeLine_eq])
  have e2:=juj (Obj.mapSeq fun x=>x.pop) e1 rfl;refine go _ _ rfl rfl (fun b o hb e=>?_) e2;exact(juk _ _ (Ne.symm hb)).trans ((juk _ _ (Ne.symm hb)).trans e)
 ·exact go _ c₀ rfl rfl (fun b o _ e=>e) hS1
theorem jeC {s:Shared}{R:Result->Shared->Prop}(Y:Itb prog w A.in1 it T h n P wr0)(hh:SubH h s.heap)(hn:n<=sizeLine)(S:Addr)(hS0:h.objs.size<=S)
  (hS:s.heap.get? S=some { cls:=Value.type "list",data:=Data.seq #[] })
  (hR:∀(s':Shared) (acc':Array Value) (c':Nat),Bhd wr0 S s s'->s'.heap.get? S=some { cls:=Value.type "list",data:=Data.seq acc' c' }->ItemsOf P acc' n->R (Except.ok (Flow.ret Value.none)) s') :
  wpAny @2 A.in1 (Builtin.«list.__init__» { pos:=[Value.ref S,it] })
   (fun fin s'=>match fin with
    |Fin.done f=>R (Except.ok f) s'
    |Fin.again c'=>c'.quiet=true/\codeAny (model prog w) A c' R s')
   (fun e s'=>R (Except.error e) s') s:=by
 unfold Builtin.«list.__init__»;show wpAny @2 A.in1 (do
    let old <-Builtin.List.listItems (Value.ref S)
    Builtin.List.listUpdate (Value.ref S) fun x=>#[]
    letGo old.toList.reverse
    Builtin.List.listExtendWith (Value.ref S) it Value.none) _ _ s
 refine jt8 ?_;unfold Builtin.List.listItems;refine jt8 (wpAny_seqItems hS rfl (jt9 ?_));refine jt8 (listUpdate_at hS rfl ?_ (by simp[sizeLine_eq]) (by simp[sizeLine_eq]))
 refine jt8 (wpAny_letGo ?_);have hS2:=juj (Obj.mapSeq fun x=>#[]) hS rfl;have oth:∀b o,b≠S->s.heap.get? b=some o->(s.heap.update S (Obj.mapSeq fun x=>#[])).get? b=some o:=fun b o hb e=>(juk _ _ (Ne.symm hb)).trans e;refine jeB Y (fun b o e=>oth b o (jun (jum (juh e) hS0)) (hh b o e)) hn S _ _ hS0 hS2 fun s' acc' c' bh hS' hit=>?_;exact hR s' acc' c' ⟨fun b o hb hw e=>bh.heap b o hb hw (oth b o hb e),bh.gens,bh.os⟩ hS' hit
theorem jeD {s:Shared}{Q E:Value->Shared->Prop}(Y:Itb prog w A.in1.in1 it T s.heap n P wr0)(hn:n<=sizeLine)
  (hQ:∀(s':Shared) (acc':Array Value) (c':Nat),Bhd wr0 s.heap.objs.size s s'->s'.heap.get? s.heap.objs.size=some { cls:=Value.type "list",data:=Data.seq acc' c' }->ItemsOf P acc' n->Q (.ref s.heap.objs.size) s') :
  wpAny @2 A (call (Value.type "list") [it]) Q E s:=by
 refine callType_codes (Q₁:=fun obj s₁=>obj=.ref s.heap.objs.size/\s₁={ s with heap:=s.heap.push { cls:=Value.type "list",data:=Data.seq #[] } }) F.called_list (F.typeCall_list_1 it) F.entry_list_init (code_list_new it ⟨rfl,rfl⟩) fun obj s₁ h₁=>?_
 obtain⟨rfl,rfl⟩:=h₁;have hS:=jui s.heap (o:={ cls:=Value.type "list",data:=Data.seq #[] }) rfl;refine⟨⟨_,hS,rfl⟩,F.args_list_init_2 _ it,jeC Y (SubH.push _) hn _ (jul _) hS fun s' acc' c' bh hS' hit=>⟨rfl,hQ s' acc' c' ⟨fun b o hb hw e=>bh.heap b o hb hw (jug _ e),bh.gens,bh.os⟩ hS' hit⟩⟩
theorem jhp {s:Shared}{Q:List Value->Shared->Prop}{E:Value->Shared->Prop}(Y:Itb prog w A.in1 it T s.heap n P wr0)(hn:n<=sizeLine)
  (hQ:∀(s':Shared) (acc:Array Value),(∀b o,b ∉ wr0->s.heap.get? b=some o->s'.heap.get? b=some o)->s.heap.objs.size<=s'.heap.objs.size->s'.gens=s.gens->s'.os=s.os->ItemsOf P acc n->Q acc.toList s') :
  wpAny @2 A (collect it) Q E s:=by
 unfold collect;refine jt8 (wpAny_runValue (codeAny_builtin F.entry_proto_collect ?_));rw[Around.under_plainId F.plain_proto_collect];unfold Builtin.«proto.collect» newList;refine jt8 (juc (jt9 ⟨plainId_quiet F.plain_list_iadd _,codeAny_builtin F.entry_list_iadd ?_⟩) (by simp[sizeOk]))
 rw[Around.under_plainId F.plain_list_iadd];unfold Builtin.«list.__iadd__»;show wpAny @2 A.in1 (Builtin.List.listExtendWith (Value.ref s.heap.objs.size) it (Value.ref s.heap.objs.size)) _ _ _;have hS:=jui s.heap (o:={ cls:=Value.type "list",data:=Data.seq #[] }) rfl;refine jeB (R:=fun r s'=>match r with
   |Except.ok (Flow.ret v)=>wpAny (model prog w) A (match v with
     |Value.ref a=>do
      let __do_lift <-load a
      match __do_lift.data with
       |Data.seq xs epoch=>pure xs.toList
       |x=>unsupported "internal:collect"
     |x=>unsupported "internal:collect") Q E s'
   |Except.ok _=>False
   |Except.error e=>E e s') Y (SubH.push _) hn _ _ _ (jul _) hS fun s' acc' c' bh hS' hit=>?_
 refine jt8 (wpAny_load hS' (jt9 ?_));exact hQ s' acc' (fun b o hb e=>bh.heap b o (jun (juh e)) hb (jug _ e)) (Nat.le_of_lt (juh hS')) bh.gens bh.os hit
theorem jk5:typeLookup (Value.type "list_reverseiterator") (Str.ofString "__len__")=pure none:=by rfl
theorem jny:typeLookup (Value.type "list_reverseiterator") (Str.ofString "__length_hint__")=pure (some (Value.builtin "list_reverseiterator.__length_hint__")):=by rfl
theorem jpZ:isSubtype (Value.type "list_reverseiterator") (Value.type "list_reverseiterator")=pure true:=by rfl
theorem jnz {s:Shared}{l I:Addr}{items:Array Value}{A:Around}(hA:A.handled=none)(hI:s.heap.IsRevIter I l ((items.size:Int) - 1))(hl:s.heap.IsList l items)(ne:l≠I) :
  Itb prog w A (.ref I) "list_reverseiterator" s.heap items.size (fun i v=>items[items.size - 1 - i]?=some v) [I] where
 nl:=by decide
 nt:=by decide
 ty:=fun s' k=>by
  obtain⟨o,e,c⟩:=hI.typeIs;exact⟨o,k _ _ e,c⟩
 ref:=fun a z=>by
  cases z;obtain⟨o,e,c⟩:=hI.typeIs;exact juh e
 iter:=fun s' S Q E k h1 h2 q=>by
  have W:=Walks.listRev (prog:=prog) (w:=w) hA I l ne items;obtain⟨o1,e1,c1,d1⟩:=hI;obtain⟨o2,e2,c2⟩:=hl;have st:0<=items.size/\s'.heap.IsRevIter I l ((items.size:Int) - 1 - (0:Nat))/\s'.heap.IsList l items:=⟨Nat.zero_le _,⟨o1,k _ _ e1,c1,by simpa using d1⟩,o2,k _ _ e2,c2⟩
  refine W.self 0 s' Q E st (q I _ _ _ s'.heap s'.toks s'.drawn (jul _) SubH.refl W st (fun z=>?_) fun b hb=>.inl hb);rcases List.mem_cons.mp z with rfl | z
  ·exact absurd (juh e1) (Nat.not_lt.mpr h1)
  ·have:S=l:=by simpa using z
   subst this;exact absurd (juh e2) (Nat.not_lt.mpr h1)
 hint:=fun s' Q E k q=>by
  obtain⟨o1,e1,c1,d1⟩:=hI;have ty:s'.TypeIs (.ref I) "list_reverseiterator":=⟨o1,k _ _ e1,c1⟩;unfold Builtin.List.listLengthHint;refine jt8 (wpAny_specialOf ty jk5 ?_);refine jua rfl ?_;refine jua rfl ?_;refine jt8 (wpAny_specialOf ty jny ?_);refine jt8 (wpAny_isInstance ty jpZ ?_);refine jua rfl ?_;refine wpAny_ite_true rfl ?_;refine jua rfl ?_;exact jt9 (q false s'.toks (jul _))
end
end L2
namespace L2
open PySem PySem.Spec PyProof.Rows
noncomputable def del (H:Hp)(b:Addr):Hp:=fun a=>if a=b then none else H a
theorem jbY {H:Hp}{b a:Addr}(h:a≠b):del H b a=H a:=if_neg h
theorem jk6 {H:Hp}{b:Addr}:del H b b=none:=if_pos rfl
theorem jnA {H:Hp}{b:Addr}{o:HO}(h:H b=none):del (upd H b o) b=H:=by
 funext a
 unfold del upd;by_cases e:a=b
 ·simp[e,h]
 ·simp[e]
section
variable {X:Cx}{pins:List (Addr×Obj)}{σ:St}{H:Hp}{s:Shared}
theorem Inv.gone (I:Inv X pins σ H s){b:Addr}{φ:Heap->Prop}(hb:H b=some (.ext φ))(h0:X.s₀.heap.objs.size<=b){s':Shared}(k:∀c o,c≠b->s.heap.get? c=some o->s'.heap.get? c=some o)(hg:s'.gens=s.gens)(ho:s'.os=s.os):Inv X pins σ (del H b) s':=by
 have ne0:∀c o,X.s₀.heap.get? c=some o->c≠b:=fun c o e=>jun (jum (juh e) h0);have neN:∀c,H c=none->c≠b:=fun c e z=>by rw[z,hb]at e;cases e
 refine⟨I.ok,ho.trans I.os,by rw[hg];exact I.bare,⟨fun c o e n h1 h2=>k c o (ne0 c o e) (I.base.keep c o e n h1 h2),fun c o e n h1 h2=>?_,fun c o e n h1=>?_,fun c o e h1=>?_,fun c xs e=>?_,fun c o u e=>?_,fun c ps e=>?_⟩,?_,fun x c e=>?_,?_,fun x c e=>?_,fun p hp=>?_,fun a o e=>?_,I.len⟩
 ·obtain⟨sl,q⟩:=I.base.slot c o e n h1 h2;exact⟨sl,k c _ (ne0 c o e) q⟩
 ·rw[jbY (ne0 c o e)];exact I.base.free c o e n h1
 ·obtain⟨o',q⟩:=I.base.there c o e h1;exact⟨o',k c _ (ne0 c o e) q⟩
 ·have q:=I.base.tups c xs e;rw[jbY (fun z=>by rw[z,hb]at q;cases q)];exact q
 ·have q:=I.base.frzs c o u e;rw[jbY (fun z=>by rw[z,hb]at q;cases q)];exact q
 ·obtain⟨m,q⟩:=I.base.tbls c ps e;exact⟨m,by rw[jbY (fun z=>by rw[z,hb]at q;cases q)];exact q⟩
 ·obtain⟨m,hn,hl⟩:=I.loc;obtain⟨o,es,ep,e1,e2,e3,e4⟩:=hn;refine⟨m,⟨o,es,ep,k _ _ (neN _ I.free) e1,e2,e3,e4⟩,fun i x v h1 h2 h3=>?_⟩;obtain⟨u,r,lk⟩:=hl i x v h1 h2 h3;refine⟨u,r,lk.imp id fun ⟨h4,c,h5,o,h6⟩=>⟨h4,c,h5,o,k _ _ (neN _ (I.freeC x c h5)) h6.1,h6.2⟩⟩
 ·obtain⟨v,o,h6⟩:=I.cell x c e;exact⟨v,o,k _ _ (neN _ (I.freeC x c e)) h6.1,h6.2⟩
 ·rw[jbY (neN _ I.free)];exact I.free
 ·rw[jbY (neN _ (I.freeC x c e))];exact I.freeC x c e
 ·obtain⟨h1,h2,h3⟩:=I.pin p hp;exact⟨k _ _ (neN _ h2) h1,by rw[jbY (neN _ h2)];exact h2,h3⟩
 ·have hne:a≠b:=fun z=>by rw[z,jk6]at e;cases e
  rw[jbY hne]at e;refine(I.hok a o e).stay (fun c u hc q=>k c u (fun z=>?_) q) (fun c hc=>?_) fun c xs hc=>?_
  ·rcases hc with hc | hc
   ·exact hne (hc.symm.trans z)
   ·rw[z,hb]at hc;cases hc
  ·rw[jbY (fun z=>by rw[z,hb]at hc;cases hc)];exact hc
  ·rw[jbY (fun z=>by rw[z,hb]at hc;cases hc)];exact hc
theorem Inv.track (I:Inv X pins σ H s){a:Addr}{o:HO}(hn:H a=none)(h0:X.s₀.heap.objs.size<=a)(hL:a≠X.env.locals)(hC:∀x c,X.env.cells.lookup x=some c->c≠a)(hP:∀p∈X.pn++pins,p.1≠a)(new:ObjOk X.prog X.w (upd H a o) s.heap a o):Inv X pins σ (upd H a o) s:=by
 have ne0:∀c o,X.s₀.heap.get? c=some o->c≠a:=fun c o e=>jun (jum (juh e) h0);refine⟨I.ok,I.os,I.bare,⟨I.base.keep,I.base.slot,fun c u e n h1=>?_,I.base.there,fun c xs e=>?_,fun c u v e=>?_,fun c ps e=>?_⟩,I.loc,I.cell,?_,fun x c e=>?_,fun p hp=>?_,fun b u e=>?_,I.len⟩
 ·rw[jac (ne0 c u e)];exact I.base.free c u e n h1
 ·have q:=I.base.tups c xs e;rw[jac (jab q hn)];exact q
 ·have q:=I.base.frzs c u v e;rw[jac (jab q hn)];exact q
 ·obtain⟨m,q⟩:=I.base.tbls c ps e;exact⟨m,by rw[jac (jab q hn)];exact q⟩
 ·rw[jac (Ne.symm hL)];exact I.free
 ·rw[jac (hC x c e)];exact I.freeC x c e
 ·obtain⟨h1,h2,h3⟩:=I.pin p hp;exact⟨h1,by rw[jac (hP p hp)];exact h2,h3⟩
 ·by_cases hb:b=a
  ·subst hb;rw[jah]at e;cases e;exact new
  ·rw[jac hb]at e;exact(I.hok b u e).stay (fun c v _ q=>q) (fun c q=>by rw[jac (jab q hn)];exact q) fun c xs q=>by rw[jac (jab q hn)];exact q
theorem Inv.above (I:Inv X pins σ H s):X.s₀.heap.objs.size<=s.heap.objs.size:=by
 obtain⟨m,hn,_⟩:=I.loc;exact juo I.ok.above (Nat.le_of_lt hn.lt)
theorem Inv.new (I:Inv X pins σ H s){a:Addr}(ha:s.heap.objs.size<=a):X.s₀.heap.objs.size<=a/\a≠X.env.locals/\(∀x c,X.env.cells.lookup x=some c->c≠a)/\(∀p∈X.pn++pins,p.1≠a)/\H a=none:=by
 refine⟨juo I.above ha,fun z=>?_,fun x c e z=>?_,fun p hp z=>?_,I.hok.fresh ha⟩
 ·obtain⟨m,hn,_⟩:=I.loc;rw[z]at ha;exact jup _ (jum hn.lt ha)
 ·obtain⟨v,o,h6,_⟩:=I.cell x c e;rw[<-z]at ha;exact jup _ (jum (juh h6) ha)
 ·have h6:=(I.pin p hp).1;rw[<-z]at ha;exact jup _ (jum (juh h6) ha)
theorem Inv.goneLaid (I:Inv X pins σ H s){b a:Addr}{φ:Heap->Prop}{o:HO}(hb:H b=some (.ext φ))(h0:X.s₀.heap.objs.size<=b){s':Shared}(k:∀c o,c≠b->s.heap.get? c=some o->s'.heap.get? c=some o)(hg:s'.gens=s.gens)(ho:s'.os=s.os)(ha:s.heap.objs.size<=a)(new:ObjOk X.prog X.w (upd (del H b) a o) s'.heap a o):Inv X pins σ (upd (del H b) a o) s':=by
 obtain⟨n0,n1,n2,n3,n4⟩:=I.new ha;exact(I.gone hb h0 k hg ho).track (by unfold del;split <;> first | rfl | exact n4) n0 n1 n2 n3 new
noncomputable def jiG (X:Cx)(I p:Addr)(n:Nat):Heap->Prop:=fun h=>h.IsRevIter I p ((n:Int) - 1)/\X.s₀.heap.objs.size<=I/\p≠I
theorem jdw:CallR X (.type "reversed") (fun xs H Q=>∃p ys,xs=[.ref p]/\SqL X.K H p ys/\∀I,H I=none->Q (.ref I) (upd H I (.ext (jiG X I p ys.length)))):=by
 intro pins s σ H xs us Q I r h;obtain⟨p,ys,rfl,hq,q⟩:=h;obtain⟨u,rfl,rx⟩:=jbW r;cases rx;obtain⟨its,r',pl,hz⟩:=I.list hq;have hlen:=r'.length;refine call_reversed_list pl.isList ?_;have hp:p≠s.heap.objs.size:=by obtain⟨o,n,e,_⟩:=pl;exact jun (juh e)
 refine⟨.ref s.heap.objs.size,_,I.laid (t':=s.toks) (o:=.ext (jiG X s.heap.objs.size p ys.length)) (fun b o e=>jug _ e) (jul _) ⟨⟨⟨_,jui s.heap rfl,rfl,?_⟩,I.above,hp⟩,⟨_,jui s.heap rfl⟩,?_⟩,rfl,q _ (I.hok.fresh (jul _))⟩
 ·rw[jtL,<-hlen];rfl
 ·rintro h1 h2 ⟨⟨o,e,c⟩,z⟩ k;exact⟨⟨o,k _ e,c⟩,z⟩
theorem jiH {its:List Value}{acc:Array Value}(h:ItemsOf (fun i v=>its.toArray[its.toArray.size - 1 - i]?=some v) acc its.toArray.size):acc.toList=its.reverse:=by
 obtain⟨h1,h2⟩:=h;simp only[jtL]at h1 h2;apply List.ext_getElem?;intro i;by_cases hi:i<acc.size
 ·have:=h2 i acc[i] (by simp[hi])
  rw[List.getElem?_reverse @0]
  rw[Array.getElem?_toList,Array.getElem?_eq_getElem hi];simpa using this.symm
 ·rw[jtX (by simp;omega),jtX]
  simp;omega
theorem jdZ (hc:X.calm=true):CallR X (.type "list") (fun xs H Q=>∃I p ys,xs=[.ref I]/\H I=some (.ext (jiG X I p ys.length))/\SqL X.K H p ys/\∀l,del H I l=none->Q (.ref l) (upd (del H I) l (.lst ys.reverse))):=by
 intro pins s σ H xs us Q I r h;obtain⟨J,p,ys,rfl,hJ,hq,q⟩:=h;obtain⟨u,rfl,rx⟩:=jbW r;cases rx;obtain⟨its,r',pl,hz⟩:=I.list hq;have hlen:=r'.length;obtain⟨⟨hr,h0,hne⟩,_,_⟩:=I.hok J _ hJ;have hA:X.A.in1.in1.handled=none:=I.ok.hd hc;have hsz:its.toArray.size=ys.length:=by rw[jtL];exact hlen.symm
 refine jeD (jnz (items:=its.toArray) hA (by rw[hsz];exact hr) pl.isList hne) (by rw[hsz];exact hz) fun s' acc c' bh e it=>?_
 have ea:=jiH it;have ha:acc=its.reverse.toArray:=by rw[<-ea]
 refine⟨.ref s.heap.objs.size,_,I.goneLaid (o:=.lst ys.reverse) hJ h0 (fun c o z e=>bh.heap c o (jun (juh e)) (by simpa using z) e) bh.gens bh.os (jul _) ⟨by simpa using hz,its.reverse,c',r'.reverse,by rw[e,ha]⟩,rfl,q _ ?_⟩
 unfold del;split
 ·rfl
 ·exact I.hok.fresh (jul _)
end
end L2
namespace L2
open PySem PySem.Spec PyProof.Rows
open Builtin Builtin.Str Builtin.Int
section
variable {X:Cx}
end
end L2
namespace RT
open PySem PySem.Spec PyProof.Rows L2
end RT
namespace RT
open PySem PySem.Spec PyProof.Rows L2
noncomputable def obj (l:Addr)(i:Int):Obj:={ cls:=.type "reversed",data:=.fields #[.ref l,rawInt i] }
section
variable {prog:Program}{w:World}{A:Around}{E:Value->Shared->Prop}{s:Shared}
end
section
variable {X:Cx}{pins:List (Addr×Obj)}{σ:L2.St}{H:Hp}{s:Shared}
end
end RT
namespace KG
open PySem PyProof.Rows
noncomputable def jfz:Bool->Keyed->Array Keyed->Nat->Nat->Nat->StateT SortSt Sem (Option Nat):=sortPriv% PySem.Builtin.gallop
noncomputable def jk7:Array Keyed->Array Keyed->StateT SortSt Sem (Array Keyed):=sortPriv% PySem.Builtin.mergeLo
noncomputable def jk8:Array Keyed->Array Keyed->StateT SortSt Sem (Array Keyed):=sortPriv% PySem.Builtin.mergeHi
structure Cmp (prog:Program)(w:World)(A:Around)(s:Shared)(κ:SortKind)(P:Keyed->Prop)(lt:Keyed->Keyed->Bool):Prop where
 ask:∀x y,P x->P y->∀{E:Value->Shared->Prop}{Q:Bool->Shared->Prop},Q (lt x y) s->wpAny @2 A (keyLt' κ x.1 y.1) Q E s
 asym:∀x y,lt x y=true->lt y x=false
 trans:∀x y z,lt y x=false->lt z y=false->lt z x=false
noncomputable abbrev St (κ:SortKind)(a:Array Keyed)(p:Array (Nat×Nat×Nat))(g:Nat):SortSt:=SortSt.mk' κ a p g none
section
variable {prog:Program}{w:World}{A:Around}{E:Value->Shared->Prop}{s:Shared}{κ:SortKind}{P:Keyed->Prop}{lt:Keyed->Keyed->Bool}{a:Array Keyed}{p:Array (Nat×Nat×Nat)}{g:Nat}
theorem jp0 (C:Cmp prog w A s κ P lt){x y:Keyed}{Q:Option Bool->SortSt->Prop}(hx:P x)(hy:P y)(h:Q (some (lt x y)) (St κ a p g)):wpS @2 A E s (lt' x y) Q (St κ a p g):=by
 rw[lt'_eq];refine wpS_bind (wpS_get ?_);exact wpS_bind (wpS_lift (wpAny_attempt (C.ask x y hx hy ⟨rfl,wpS_pure h⟩)))
theorem jas {b:Array Keyed}{i:Nat}(hi:i<b.size){Q:Keyed->SortSt->Prop}{st:SortSt}(h:Q b[i] st):wpS @2 A E s (elem' b i) Q st:=by
 rw[elem'_eq,getElem?_pos b i hi];exact wpS_pure h
theorem jp1 (C:Cmp prog w A s κ P lt)(hP:∀x∈a,P x){i j:Nat}(hi:i<a.size)(hj:j<a.size){Q:Option Bool->SortSt->Prop}(h:Q (some (lt a[i] a[j])) (St κ a p g)):wpS @2 A E s (ltAt' i j) Q (St κ a p g):=by
 rw[ltAt'_eq];refine wpS_bind (wpS_get ?_);exact wpS_bind (jas (b:=a) hi (wpS_bind (jas (b:=a) hj (jp0 C (hP _ (Array.getElem_mem hi)) (hP _ (Array.getElem_mem hj)) h))))
theorem jdJ {r:String}{Q:Unit->SortSt->Prop}{st:SortSt}(h:Q () st):wpS @2 A E s (liftM (rule r)) Q st:=wpS_lift (wpAny_rule ⟨rfl,h⟩)
variable {left:Bool}{key:Keyed}{arr:Array Keyed}{base n hint:Nat}{bey:Nat->Bool}
structure Bey (P:Keyed->Prop)(lt:Keyed->Keyed->Bool)(left:Bool)(key:Keyed)(arr:Array Keyed)(base n:Nat)(bey:Nat->Bool):Prop where
 pk:P key
 sz:base+n<=arr.size
 all:∀x∈arr,P x
 eq:∀i (h:base+i<arr.size),i<n->bey i=if left then lt arr[base+i] key else !lt key arr[base+i]
 anti:∀i j,i<=j->j<n->bey j=true->bey i=true
theorem jiI (C:Cmp prog w A s κ P lt)(B:Bey P lt left key arr base n bey){i:Nat}(hi:i<n){Q:Option Bool->SortSt->Prop}(h:Q (some (bey i)) (St κ a p g)) :
  wpS @2 A E s (elem' arr (base+i) >>= fun x=>if left=true then lt' x key else lt' key x >>= fun r=>pure (r.map fun b=>!b)) Q (St κ a p g):=by
 have hz:=B.sz;have hi':base+i<arr.size:=by omega
 refine wpS_bind (jas hi' ?_);have hx:=B.all _ (Array.getElem_mem hi');have e:=B.eq i hi' hi;cases left with
 |true=>exact jp0 C hx B.pk (by rw[e]at h;exact h)
 |false=>exact wpS_bind (jp0 C B.pk hx (wpS_pure (by rw[e]at h;exact h)))
theorem jiJ {f:Nat->Option (Option Nat)×Nat×Nat->StateT SortSt Sem (ForInStep (Option (Option Nat)×Nat×Nat))}{st:SortSt}
  (f0:∀x lo hi (Q:ForInStep (Option (Option Nat)×Nat×Nat)->SortSt->Prop),lo>=hi->Q (.done (none,lo,hi)) st->wpS @2 A E s (f x (none,lo,hi)) Q st)
  (f1:∀x lo hi (Q:ForInStep (Option (Option Nat)×Nat×Nat)->SortSt->Prop),lo<hi->hi<=n->Q (.yield (if bey (lo+(hi - lo) / 2)=true then (none,lo+(hi - lo) / 2+1,hi)else (none,lo,lo+(hi - lo) / 2))) st->wpS @2 A E s (f x (none,lo,hi)) Q st)
  (anti:∀i j,i<=j->j<n->bey j=true->bey i=true) {lo hi:Nat} (h1:lo<=hi) (h2:hi<=n) (h3:∀i,i<lo->bey i=true) (h4:∀i,hi<=i->i<n->bey i=false) {Q:Option (Option Nat)×Nat×Nat->SortSt->Prop}
  (h:∀k,k<=n->(∀i,i<k->bey i=true)->(∀i,k<=i->i<n->bey i=false)->Q (none,k,k) st):wpS @2 A E s (forIn [0:n] (none,lo,hi) f) Q st:=by
 refine wpS_forRange (I:=fun t c st'=>st'=st/\∃l u,c=(none,l,u)/\l<=u/\u<=n/\u - l<=n - t/\(∀i,i<l->bey i=true)/\∀i,u<=i->i<n->bey i=false) ?_ ?_ ⟨rfl,lo,hi,rfl,h1,h2,by omega,h3,h4⟩
 ·rintro x c st' - hx ⟨rfl,l,u,rfl,a1,a2,a3,a4,a5⟩;by_cases hl:l>=u
  ·refine f0 x l u _ hl ?_;have:l=u:=by omega
   subst this;exact h l a2 a4 a5
  ·refine f1 x l u _ @0 a2 ?_
   by_cases hb:bey (l+(u - l) / 2)=true
   ·rw[if_pos hb];exact⟨rfl,_,_,rfl,by omega,a2,by omega,fun i hi=>anti i _ @0 @0 hb,a5⟩
   ·rw[if_neg hb];exact⟨rfl,_,_,rfl,by omega,by omega,by omega,a4,fun i hi hn=>by
     cases hc:bey i with
     |false=>rfl
     |true=>exact absurd (anti _ i hi hn hc) hb⟩
 ·rintro c st' ⟨rfl,l,u,rfl,a1,a2,a3,a4,a5⟩;have:l=u:=by omega
  subst this;exact h l a2 a4 a5
theorem jiK {f:Nat->Option (Option Nat)×Nat×Nat->StateT SortSt Sem (ForInStep (Option (Option Nat)×Nat×Nat))}{st:SortSt}{stp:Nat->Bool}{mx:Nat}
  (f0:∀x l o (Q:ForInStep (Option (Option Nat)×Nat×Nat)->SortSt->Prop),o>=mx->Q (.done (none,l,o)) st->wpS @2 A E s (f x (none,l,o)) Q st)
  (f1:∀x l o (Q:ForInStep (Option (Option Nat)×Nat×Nat)->SortSt->Prop),o<mx->(stp o=true->Q (.done (none,l,o)) st)->(stp o=false->Q (.yield (none,o,2 * o+1)) st)->wpS @2 A E s (f x (none,l,o)) Q st)
  (h1:1<=mx) (h2:mx<=n) {Q:Option (Option Nat)×Nat×Nat->SortSt->Prop}
  (h:∀l o,l<mx->l<o->(l=0\/stp l=false)->(mx<=o\/stp o=true)->Q (none,l,o) st):wpS @2 A E s (forIn [0:n] (none,0,1) f) Q st:=by
 refine wpS_forRange (I:=fun t c st'=>st'=st/\∃l o,c=(none,l,o)/\t+1<=o/\l<mx/\l<o/\(l=0\/stp l=false)) ?_ ?_ ⟨rfl,0,1,rfl,by omega,by omega,by omega,.inl rfl⟩
 ·rintro x c st' - hx ⟨rfl,l,o,rfl,a1,a2,a3,a4⟩;by_cases ho:o>=mx
  ·exact f0 x l o _ ho (h l o a2 a3 a4 (.inl ho))
  ·exact f1 x l o _ @0 (fun z=>h l o a2 a3 a4 (.inr z)) fun z=>⟨rfl,_,_,rfl,by omega,by omega,by omega,.inr z⟩
 ·rintro c st' ⟨rfl,l,o,rfl,a1,a2,a3,a4⟩;exact h l o a2 a3 a4 (.inl @0)
theorem jgn (C:Cmp prog w A s κ P lt)(B:Bey P lt left key arr base n bey)(hh:hint<n){Q:Option Nat->SortSt->Prop}
  (h:∀k,k<=n->(∀i,i<k->bey i=true)->(∀i,k<=i->i<n->bey i=false)->Q (some k) (St κ a p g)):wpS @2 A E s (jfz left key arr base n hint) Q (St κ a p g):=by
 have no:∀i j,i<=j->j<n->bey i=false->bey j=false:=fun i j hi hj hf=>by
  cases hc:bey j with
  |false=>rfl
  |true=>rw[B.anti i j hi hj hc]at hf;cases hf
 refine wpS_bind (jiI C B hh ?_);dsimp only;by_cases hb:bey hint=true
 ·rw[if_pos hb];refine wpS_bind (jiK (stp:=fun o=>!bey (hint+o)) (mx:=n - hint) (fun x l o Q ho q=>?_) (fun x l o Q ho q1 q2=>?_) @0 @0 fun l o a1 a2 a3 a4=>?_)
  ·dsimp only;rw[if_pos ho];exact wpS_pure q
  ·dsimp only;rw[if_neg @0]
   refine wpS_bind (jiI C B @0 ?_)
   dsimp only;by_cases hc:bey (hint+o)=true
   ·rw[if_neg (by simp[hc])];exact wpS_pure (q2 (by simp[hc]))
   ·rw[if_pos (by simp[hc])];exact wpS_pure (q1 (by simp[hc]))
  ·dsimp only;have hl:bey (hint+l)=true:=by
    rcases a3 with rfl | a3
    ·exact hb
    ·simpa using a3
   refine wpS_bind (jiJ (bey:=bey) (fun x l o Q ho q=>?_) (fun x l o Q ho ho2 q=>?_) B.anti @0 @0 (fun i hi=>B.anti i _ @0 @0 hl) (fun i hi hn=>?_) fun k k1 k2 k3=>?_)
   ·dsimp only;rw[if_pos ho];exact wpS_pure q
   ·dsimp only;rw[if_neg @0]
    refine wpS_bind (jiI C B @0 ?_)
    dsimp only;split
    ·rename_i z;rw[if_pos z]at q;exact wpS_pure q
    ·rename_i z;rw[if_neg z]at q;exact wpS_pure q
   ·rcases a4 with a4 | a4
    ·omega
    ·by_cases ho:n - hint<=o
     ·omega
     ·exact no (hint+o) i @0 hn (by simpa using a4)
   ·exact wpS_pure (h k k1 k2 k3)
 ·rw[if_neg hb];have hb:bey hint=false:=by simpa using hb
  refine wpS_bind (jiK (stp:=fun o=>bey (hint - o)) (mx:=hint+1) (fun x l o Q ho q=>?_) (fun x l o Q ho q1 q2=>?_) @0 @0 fun l o a1 a2 a3 a4=>?_)
  ·dsimp only;rw[if_pos ho];exact wpS_pure q
  ·dsimp only;rw[if_neg @0]
   refine wpS_bind (jiI C B @0 ?_)
   dsimp only;split
   ·rename_i z;exact wpS_pure (q1 z)
   ·rename_i z;exact wpS_pure (q2 (by simpa using z))
  ·dsimp only;have hl:bey (hint - l)=false:=by
    rcases a3 with rfl | a3
    ·exact hb
    ·exact a3
   refine wpS_bind (jiJ (bey:=bey) (fun x l o Q ho q=>?_) (fun x l o Q ho ho2 q=>?_) B.anti @0 @0 (fun i hi=>?_) (fun i hi hn=>no _ i hi hn hl) fun k k1 k2 k3=>?_)
   ·dsimp only;rw[if_pos ho];exact wpS_pure q
   ·dsimp only;rw[if_neg @0]
    refine wpS_bind (jiI C B @0 ?_)
    dsimp only;split
    ·rename_i z;rw[if_pos z]at q;exact wpS_pure q
    ·rename_i z;rw[if_neg z]at q;exact wpS_pure q
   ·rcases a4 with a4 | a4
    ·omega
    ·by_cases ho:hint+1<=o
     ·omega
     ·exact B.anti i (hint - o) @0 @0 a4
   ·exact wpS_pure (h k k1 k2 k3)
end
end KG
namespace KG
open PySem PyProof.Rows
noncomputable def Le (lt:Keyed->Keyed->Bool)(u v:Keyed):Prop:=lt v u=false
noncomputable def Srt (lt:Keyed->Keyed->Bool)(l:List Keyed):Prop:=l.Pairwise (Le lt)
structure Od (lt:Keyed->Keyed->Bool):Prop where
 asym:∀x y,lt x y=true->lt y x=false
 trans:∀x y z,lt y x=false->lt z y=false->lt z x=false
structure ML (lt:Keyed->Keyed->Bool)(xs ys out:List Keyed)(i j:Nat):Prop where
 perm:out.Perm (xs.take i++ys.take j)
 srt:Srt lt out
 ba:∀u∈out,∀v∈xs.drop i,Le lt u v
 bb:∀u∈out,∀v∈ys.drop j,Le lt u v
section
variable {lt:Keyed->Keyed->Bool}{xs ys out:List Keyed}{i j k:Nat}
theorem ML.symm (M:ML lt xs ys out i j):ML lt ys xs out j i:=⟨M.perm.trans List.perm_append_comm,M.srt,M.bb,M.ba⟩
theorem ML.mvA (M:ML lt xs ys out i j)(hx:Srt lt xs)(h:∀u∈(xs.drop i).take k,∀v∈ys.drop j,Le lt u v):ML lt xs ys (out++(xs.drop i).take k) (i+k) j:=by
 have e:xs.drop i=(xs.drop i).take k++xs.drop (i+k):=by rw[<-List.drop_drop];exact(List.take_append_drop k _).symm
 have sd:((xs.drop i).take k++xs.drop (i+k)).Pairwise (Le lt):=by rw[<-e];exact hx.sublist (List.drop_sublist _ _)
 obtain⟨s1,s2,s3⟩:=List.pairwise_append.mp sd;refine⟨?_,List.pairwise_append.mpr ⟨M.srt,s1,fun u hu v hv=>M.ba u hu v (List.mem_of_mem_take hv)⟩,fun u hu v hv=>?_,fun u hu v hv=>?_⟩
 ·rw[List.take_add];refine(M.perm.append_right _).trans ?_;rw[jt6,jt6];exact List.Perm.append_left _ List.perm_append_comm
 ·rcases List.mem_append.mp hu with hu | hu
  ·exact M.ba u hu v (by rw[e];exact jtS _ hv)
  ·exact s3 u hu v hv
 ·rcases List.mem_append.mp hu with hu | hu
  ·exact M.bb u hu v hv
  ·exact h u hu v hv
theorem jfA (O:Od lt)(hx:Srt lt xs){i:Nat}(hi:i<xs.length){c:Keyed}(h:Le lt c xs[i]):∀v∈xs.drop i,Le lt c v:=by
 intro v hv;rw[List.drop_eq_getElem_cons hi]at hv;rcases List.mem_cons.mp hv with rfl | hv
 ·exact h
 ·have:=hx.sublist (List.drop_sublist i xs);rw[List.drop_eq_getElem_cons hi]at this;exact O.trans _ _ _ h ((List.pairwise_cons.mp this).1 v hv)
theorem jp2 {i:Nat}(hi:i<xs.length):(xs.drop i).take 1=[xs[i]]:=by rw[List.drop_eq_getElem_cons hi];rfl
theorem ML.stA (O:Od lt)(M:ML lt xs ys out i j)(hx:Srt lt xs)(hy:Srt lt ys)(hi:i<xs.length)(hj:j<ys.length)(h:Le lt xs[i] ys[j]):ML lt xs ys (out++[xs[i]]) (i+1) j:=by
 have:=M.mvA (k:=1) hx fun u hu v hv=>by
  rw[jp2 hi]at hu;cases List.mem_singleton.mp hu;exact jfA O hy hj h v hv
 rwa [jp2 hi]at this
theorem ML.stB (O:Od lt)(M:ML lt xs ys out i j)(hx:Srt lt xs)(hy:Srt lt ys)(hi:i<xs.length)(hj:j<ys.length)(h:Le lt ys[j] xs[i]):ML lt xs ys (out++[ys[j]]) i (j+1):=(M.symm.stA O hy hx hj hi h).symm
theorem ML.rnA (O:Od lt)(M:ML lt xs ys out i j)(hx:Srt lt xs)(hy:Srt lt ys)(hj:j<ys.length)(h:∀t,t<k->∀(hi:i+t<xs.length),Le lt xs[i+t] ys[j]):ML lt xs ys (out++(xs.drop i).take k) (i+k) j:=
 M.mvA hx fun u hu v hv=>by
  obtain⟨t,ht,e⟩:=List.getElem_of_mem hu;have h1:=ht;simp only[List.length_take,List.length_drop]at h1;rw[List.getElem_take,List.getElem_drop]at e;rw[<-e];exact jfA O hy hj (h t @0 @0) v hv
theorem ML.rnB (O:Od lt)(M:ML lt xs ys out i j)(hx:Srt lt xs)(hy:Srt lt ys)(hi:i<xs.length)(h:∀t,t<k->∀(hj:j+t<ys.length),Le lt ys[j+t] xs[i]):ML lt xs ys (out++(ys.drop j).take k) i (j+k):=(M.symm.rnA O hy hx hi h).symm
noncomputable def Mrg (lt:Keyed->Keyed->Bool)(xs ys r:List Keyed):Prop:=r.Perm (xs++ys)/\Srt lt r
theorem ML.fin (M:ML lt xs ys out i j)(hx:Srt lt xs)(hy:Srt lt ys)(h:∀u∈xs.drop i,∀v∈ys.drop j,Le lt u v):Mrg lt xs ys (out++xs.drop i++ys.drop j):=by
 refine⟨?_,List.pairwise_append.mpr ⟨List.pairwise_append.mpr ⟨M.srt,hx.sublist (List.drop_sublist _ _),M.ba⟩,hy.sublist (List.drop_sublist _ _),fun u hu v hv=>?_⟩⟩
 ·refine((M.perm.append_right _).append_right _).trans ?_;have e1:xs++ys=(xs.take i++xs.drop i)++(ys.take j++ys.drop j):=by rw[List.take_append_drop,List.take_append_drop]
  rw[e1,jt6,jt6,jt6];refine List.Perm.append_left _ ?_;rw[<-jt6,<-jt6];exact List.Perm.append_right _ List.perm_append_comm
 ·rcases List.mem_append.mp hu with hu | hu
  ·exact M.bb u hu v hv
  ·exact h u hu v hv
theorem ML.finA (M:ML lt xs ys out i j)(hx:Srt lt xs)(hy:Srt lt ys)(h:xs.length<=i):Mrg lt xs ys (out++ys.drop j):=by
 have:=M.fin hx hy (by rw[List.drop_eq_nil_of_le h];exact fun u hu=>absurd hu (jt7))
 rwa [List.drop_eq_nil_of_le h,jt5]at this
theorem Mrg.symm {r:List Keyed}(h:Mrg lt ys xs r):Mrg lt xs ys r:=⟨h.1.trans List.perm_append_comm,h.2⟩
theorem ML.finB (M:ML lt xs ys out i j)(hx:Srt lt xs)(hy:Srt lt ys)(h:ys.length<=j):Mrg lt xs ys (out++xs.drop i):=(M.symm.finA hy hx h).symm
theorem ML.finL (M:ML lt xs ys out i j)(hx:Srt lt xs)(hy:Srt lt ys)(hi:i+1=xs.length)(h:∀v∈ys,Le lt v (xs[i]' @0)):Mrg lt xs ys (out++ys.drop j++xs.drop i):=
 (M.symm.fin hy hx fun u hu v hv=>by
  rw[List.drop_eq_getElem_cons (by omega:i<xs.length),List.drop_eq_nil_of_le @0]at hv
  cases List.mem_singleton.mp hv;exact h u (List.mem_of_mem_drop hu)).symm
end
end KG
namespace KG
open PySem PyProof.Rows
section
variable {prog:Program}{w:World}{A:Around}{E:Value->Shared->Prop}{s:Shared}{κ:SortKind}{P:Keyed->Prop}{lt:Keyed->Keyed->Bool}{a:Array Keyed}{p:Array (Nat×Nat×Nat)}{g:Nat}
theorem Cmp.od (C:Cmp prog w A s κ P lt):Od lt:=⟨C.asym,C.trans⟩
structure Lo (lt:Keyed->Keyed->Bool)(P:Keyed->Prop)(x y:Array Keyed):Prop where
 px:∀u∈x,P u
 py:∀u∈y,P u
 sx:Srt lt x.toList
 sy:Srt lt y.toList
 x1:1<=x.size
 y1:1<=y.size
 low:lt y[0] x[0]=true
 top:∀v∈y,lt v x[x.size - 1]=true
noncomputable abbrev Fn (lt:Keyed->Keyed->Bool)(x y r:Array Keyed):Prop:=Mrg lt x.toList y.toList r.toList
structure MI (lt:Keyed->Keyed->Bool)(x y out:Array Keyed)(i j:Nat):Prop where
 ml:ML lt x.toList y.toList out.toList i j
 hi:i+1<x.size
 hj:j<y.size
variable {x y out:Array Keyed}{i j k:Nat}
theorem jiL (x:Array Keyed)(i k:Nat):(x.extract i (i+k)).toList=(x.toList.drop i).take k:=by
 rw[Array.toList_extract,List.extract_eq_take_drop,Nat.add_sub_cancel_left]
theorem jdK (x:Array Keyed)(i:Nat):(x.extract i).toList=x.toList.drop i:=by
 rw[Array.toList_extract,List.extract_eq_take_drop,<-Array.length_toList,List.take_of_length_le (by rw[List.length_drop];omega)]
theorem Lo.topL (H:Lo lt P x y)(O:Od lt)(hi:i+1=x.size):∀v∈y.toList,Le lt v (x.toList[i]'(by simp;omega)):=fun v hv=>by
 have e:x.toList[i]'(by simp;omega)=x[x.size - 1]'(by have:=H.x1;omega):=by
  rw[Array.getElem_toList];congr 1;omega
 rw[e];exact O.asym _ _ (H.top v (Array.mem_toList_iff.mp hv))
theorem MI.b1 (O:Od lt)(H:Lo lt P x y)(M:ML lt x.toList y.toList out.toList i j)(hi:i<x.size)(hj:j<y.size)(h:Le lt y[j] x[i]):ML lt x.toList y.toList (out.push y[j]).toList i (j+1):=by
 have:=M.stB O H.sx H.sy (by simpa using hi) (by simpa using hj) (by simpa using h)
 simpa using this
theorem MI.a1 (O:Od lt)(H:Lo lt P x y)(M:ML lt x.toList y.toList out.toList i j)(hi:i<x.size)(hj:j<y.size)(h:Le lt x[i] y[j]):ML lt x.toList y.toList (out.push x[i]).toList (i+1) j:=by
 have:=M.stA O H.sx H.sy (by simpa using hi) (by simpa using hj) (by simpa using h)
 simpa using this
theorem MI.ak (O:Od lt)(H:Lo lt P x y)(M:ML lt x.toList y.toList out.toList i j)(hj:j<y.size)(h:∀t,t<k->∀(hi:i+t<x.size),Le lt x[i+t] y[j]):ML lt x.toList y.toList (out++x.extract i (i+k)).toList (i+k) j:=by
 rw[Array.toList_append,jiL];exact M.rnA O H.sx H.sy (by simpa using hj) fun t ht hi=>by simpa using h t ht (by simpa using hi)
theorem MI.bk (O:Od lt)(H:Lo lt P x y)(M:ML lt x.toList y.toList out.toList i j)(hi:i<x.size)(h:∀t,t<k->∀(hj:j+t<y.size),Le lt y[j+t] x[i]):ML lt x.toList y.toList (out++y.extract j (j+k)).toList i (j+k):=by
 rw[Array.toList_append,jiL];exact M.rnB O H.sx H.sy (by simpa using hi) fun t ht hj=>by simpa using h t ht (by simpa using hj)
theorem MI.fB (H:Lo lt P x y)(M:ML lt x.toList y.toList out.toList i j)(hj:j=y.size):Fn lt x y (out++x.extract i++y.extract j):=by
 have:=M.finB H.sx H.sy (by simp[hj])
 show Mrg lt _ _ (out++x.extract i++y.extract j).toList;rw[Array.toList_append,Array.toList_append,jdK,jdK,List.drop_eq_nil_of_le (as:=y.toList) (by simp[hj]),jt5]
 exact this
theorem MI.fA (H:Lo lt P x y)(M:ML lt x.toList y.toList out.toList i j)(hi:i=x.size):Fn lt x y (out++x.extract i++y.extract j):=by
 have:=M.finA H.sx H.sy (by simp[hi])
 show Mrg lt _ _ (out++x.extract i++y.extract j).toList;rw[Array.toList_append,Array.toList_append,jdK,jdK,List.drop_eq_nil_of_le (as:=x.toList) (by simp[hi]),jt5]
 exact this
theorem MI.fL (O:Od lt)(H:Lo lt P x y)(M:ML lt x.toList y.toList out.toList i j)(hi:i+1=x.size):Fn lt x y (out++y.extract j++x.extract i):=by
 have:=M.finL H.sx H.sy (by simpa using hi) (H.topL O hi)
 show Mrg lt _ _ (out++y.extract j++x.extract i).toList;rw[Array.toList_append,Array.toList_append,jdK,jdK];exact this
noncomputable def Seg (lt:Keyed->Keyed->Bool)(b:Array Keyed)(lo hi:Nat):Prop:=∀i j (hj:j<b.size) (hi':i<j),lo<=i->j<hi->Le lt b[i] b[j]
theorem Od.refl (O:Od lt)(u:Keyed):Le lt u u:=by
 cases h:lt u u with
 |false=>exact h
 |true=>exact O.asym _ _ h
theorem Seg.le {b:Array Keyed}{lo hi:Nat}(O:Od lt)(S:Seg lt b lo hi){i j:Nat}(hj:j<b.size)(hij:i<=j)(h1:lo<=i)(h2:j<hi):Le lt (b[i]' @0) b[j]:=by
 rcases Nat.eq_or_lt_of_le hij with rfl | h
 ·exact O.refl _
 ·exact S i j hj h h1 h2
theorem jgo {b:Array Keyed}(h:Srt lt b.toList):Seg lt b 0 b.size:=fun i j hj hij _ _=>by
 have:=List.pairwise_iff_getElem.mp h i j (by simp;omega) (by simpa using hj) hij
 simpa using this
theorem gd {b:Array Keyed}{i:Nat}{d:Keyed}(h:i<b.size):b.getD i d=b[i]:=by simp[Array.getD,h]
theorem jiM (C:Cmp prog w A s κ P lt){key:Keyed}{b:Array Keyed}{base n hint:Nat}(hk:P key)(hP:∀u∈b,P u)(hz:base+n<=b.size)(S:Seg lt b base (base+n))(hh:hint<n){Q:Option Nat->SortSt->Prop}
  (h:∀k,k<=n->(∀t,t<k->∀(h:base+t<b.size),Le lt b[base+t] key)->(∀t,k<=t->t<n->∀(h:base+t<b.size),lt key b[base+t]=true)->Q (some k) (St κ a p g)):wpS @2 A E s (jfz false key b base n hint) Q (St κ a p g):=by
 refine jgn (bey:=fun t=>!lt key (b.getD (base+t) key)) C ⟨hk,hz,hP,fun i h _=>by simp[gd h],fun i j hij hj hb=>?_⟩ hh fun k k1 k2 k3=>h k k1 (fun t ht hb=>?_) fun t ht hn hb=>?_
 ·have h1:base+j<b.size:=by omega
  have h2:base+i<b.size:=by omega
  simp only[gd h1,gd h2,Bool.not_eq_true']at hb ⊢;exact C.trans _ _ _ (S.le C.od h1 @0 @0 @0) hb
 ·have:=k2 t ht;simpa[gd hb,Le] using this
 ·have:=k3 t ht hn;simpa[gd hb] using this
theorem jiN (C:Cmp prog w A s κ P lt){key:Keyed}{b:Array Keyed}{base n hint:Nat}(hk:P key)(hP:∀u∈b,P u)(hz:base+n<=b.size)(S:Seg lt b base (base+n))(hh:hint<n){Q:Option Nat->SortSt->Prop}
  (h:∀k,k<=n->(∀t,t<k->∀(h:base+t<b.size),lt b[base+t] key=true)->(∀t,k<=t->t<n->∀(h:base+t<b.size),Le lt key b[base+t])->Q (some k) (St κ a p g)):wpS @2 A E s (jfz true key b base n hint) Q (St κ a p g):=by
 refine jgn (bey:=fun t=>lt (b.getD (base+t) key) key) C ⟨hk,hz,hP,fun i h _=>by simp[gd h],fun i j hij hj hb=>?_⟩ hh fun k k1 k2 k3=>h k k1 (fun t ht hb=>?_) fun t ht hn hb=>?_
 ·have h1:base+j<b.size:=by omega
  have h2:base+i<b.size:=by omega
  simp only[gd h1,gd h2]at hb ⊢;cases hc:lt b[base+i] key with
  |true=>rfl
  |false=>rw[C.trans _ _ _ hc (S.le C.od h1 (by omega) (by omega) (by omega))]at hb;cases hb
 ·have:=k2 t ht;simpa[gd hb] using this
 ·have:=k3 t ht hn;simpa[gd hb,Le] using this
theorem Seg.sub {b:Array Keyed}{lo hi lo' hi':Nat}(S:Seg lt b lo hi)(h1:lo<=lo')(h2:hi'<=hi):Seg lt b lo' hi':=fun i j hj hij a1 a2=>S i j hj hij @0 @0
theorem jiO (C:Cmp prog w A s κ P lt)(H:Lo lt P x y){Q:Array Keyed->SortSt->Prop}(h:∀r g',Fn lt x y r->Q r (St κ a p g')):wpS @2 A E s (jk7 x y) Q (St κ a p g):=by
 have O:=C.od;have x1:=H.x1;have y1:=H.y1;refine wpS_bind (jdJ ?_);dsimp only;refine wpS_bind (jas (b:=y) H.y1 ?_);have M0:ML lt x.toList y.toList (#[]:Array Keyed).toList 0 0:=⟨by simp,List.Pairwise.nil,fun u hu=>by simp at hu,fun u hu=>by simp at hu⟩
 have M1:=MI.b1 O H M0 x1 y1 (C.asym _ _ H.low);by_cases e1:1=y.size
 ·rw[if_pos (by simpa using e1)]
  exact wpS_pure (h _ _ (MI.fB H M1 e1))
 rw[if_neg (by simpa using e1)]
 by_cases e2:0+1=x.size
 ·rw[if_pos (by simpa using e2)]
  exact wpS_pure (h _ _ (MI.fL O H M1 e2))
 rw[if_neg (by simpa using e2)]
 refine wpS_bind (wpS_get ?_);refine wpS_bind (wpS_mono (wpS_forRange (I:=fun t c st'=>∃g' out i j mg,st'=St κ a p g'/\c=(none,out,i,j,mg)/\MI lt x y out i j/\t+1<=i+j) (Q:=fun c st'=>∃g' r jbl,st'=St κ a p g'/\c=(some r,jbl)/\Fn lt x y r) ?_ ?_ ⟨g,_,0,1,_,rfl,rfl,⟨M1,by omega,by omega⟩,by omega⟩) ?_)
 ·rintro t c st' - ht ⟨g',out,i,j,mg,rfl,rfl,M,hs⟩;dsimp only;refine wpS_bind (wpS_mono (wpS_forRange (I:=fun t' c st'=>st'=St κ a p g'/\∃out' i' j' ac bc,c=(none,out',i',j',ac,bc)/\MI lt x y out' i' j'/\i+j+t'<=i'+j') (Q:=fun c st'=>st'=St κ a p g'/\((∃r jbl,c=(some r,jbl)/\Fn lt x y r)\/∃out' i' j' ac bc,c=(none,out',i',j',ac,bc)/\MI lt x y out' i' j'/\i+j+1<=i'+j')) ?_ ?_ ⟨rfl,_,i,j,_,_,rfl,M,by omega⟩) ?_)
  ·rintro t' c st' - ht' ⟨rfl,out',i',j',ac,bc,rfl,M',hs'⟩;dsimp only;have hi:=M'.hi;have hj:=M'.hj;refine wpS_bind (jas (b:=y) hj (wpS_bind (jas (b:=x) @0 (wpS_bind (jp0 C (H.py _ (Array.getElem_mem _)) (H.px _ (Array.getElem_mem _)) ?_)))))
   dsimp only;by_cases hb:lt y[j'] x[i']=true
   ·rw[if_pos hb];refine wpS_bind (jas (b:=y) hj ?_);have M2:=MI.b1 O H M'.ml @0 hj (C.asym _ _ hb)
    by_cases e:j'+1=y.size
    ·rw[if_pos (by simpa using e)]
     exact wpS_pure ⟨rfl,.inl ⟨_,_,rfl,MI.fB H M2 e⟩⟩
    ·rw[if_neg (by simpa using e)]
     split
     ·exact wpS_pure ⟨rfl,.inr ⟨_,_,_,_,_,rfl,⟨M2,by omega,by omega⟩,by omega⟩⟩
     ·exact wpS_pure ⟨rfl,_,_,_,_,_,rfl,⟨M2,by omega,by omega⟩,by omega⟩
   ·rw[if_neg hb];refine wpS_bind (jas (b:=x) @0 ?_)
    have M2:=MI.a1 O H M'.ml @0 hj (by simpa[Le] using hb)
    by_cases e:i'+1+1=x.size
    ·rw[if_pos (by simpa using e)]
     exact wpS_pure ⟨rfl,.inl ⟨_,_,rfl,MI.fL O H M2 e⟩⟩
    ·rw[if_neg (by simpa using e)]
     split
     ·exact wpS_pure ⟨rfl,.inr ⟨_,_,_,_,_,rfl,⟨M2,by omega,by omega⟩,by omega⟩⟩
     ·exact wpS_pure ⟨rfl,_,_,_,_,_,rfl,⟨M2,by omega,by omega⟩,by omega⟩
  ·rintro c st' ⟨rfl,out',i',j',ac,bc,rfl,M',hs'⟩;exact⟨rfl,.inr ⟨_,_,_,_,_,rfl,M',by omega⟩⟩
  ·rintro c st' ⟨rfl,⟨r,jbl,rfl,hF⟩ | ⟨out',i',j',ac,bc,rfl,M',hs'⟩⟩
   ·exact wpS_pure ⟨g',r,_,rfl,rfl,hF⟩
   ·dsimp only;refine wpS_bind (jdJ ?_);refine wpS_bind (wpS_mono (wpS_forRange (I:=fun _ c st'=>∃g2 o2 i2 j2 mg2 ac2 bc2,st'=St κ a p g2/\c=(none,o2,i2,j2,mg2,ac2,bc2)/\MI lt x y o2 i2 j2/\i+j+1<=i2+j2) (Q:=fun c st'=>∃g2,st'=St κ a p g2/\((∃r jbl,c=(some r,jbl)/\Fn lt x y r)\/∃o2 i2 j2 mg2 ac2 bc2,c=(none,o2,i2,j2,mg2,ac2,bc2)/\MI lt x y o2 i2 j2/\i+j+1<=i2+j2)) ?_ ?_ ⟨g',_,_,_,_,_,_,rfl,rfl,M',hs'⟩) ?_)
    ·rintro t2 c st2 - ht2 ⟨g2,o2,i2,j2,mg2,ac2,bc2,rfl,rfl,M2,hs2⟩;dsimp only;have hi:=M2.hi;have hj:=M2.hj;have pj:=H.py _ (Array.getElem_mem hj);rcases Nat.lt_or_ge 1 mg2 with hmg | hmg
     focus
      rw[if_pos hmg]
     rotate_left
     focus
      rw[if_neg @0]
     all_goals
      refine wpS_bind (wpS_modify ?_);show wpS _ _ _ _ _ _ (St κ a p _);refine wpS_bind (jas (b:=y) hj (wpS_bind (jiM C pj H.px @0 ((jgo H.sx).sub (Nat.zero_le _) @0) @0 fun k k0 k1 k2=>?_)))
      dsimp only;rcases Nat.eq_zero_or_pos k with hk | hk
      focus
       subst hk;rw[if_neg @0]
       have M3:=M2.ml;have hi3:=hi;have h3:lt y[j2] x[i2]=true:=k2 0 (jul _) @0 @0
      rotate_left
      focus
       rw[if_pos hk];have M3:=MI.ak O H M2.ml hj k1;by_cases e3:i2+k+1=x.size
       ·rw[if_pos (by simpa using e3)]
        exact wpS_pure ⟨_,rfl,.inl ⟨_,_,rfl,MI.fL O H M3 e3⟩⟩
       rw[if_neg (by simpa using e3)]
       by_cases e4:i2+k=x.size
       ·rw[if_pos (by simpa using e4)]
        exact wpS_pure ⟨_,rfl,.inl ⟨_,_,rfl,MI.fA H M3 e4⟩⟩
       rw[if_neg (by simpa using e4)]
       have hi3:i2+k+1<x.size:=by omega
       have h3:lt y[j2] x[i2+k]=true:=k2 k (jul _) @0 @0
      all_goals
       refine wpS_bind (jas (b:=y) hj ?_);have M4:=MI.b1 O H M3 @0 hj (C.asym _ _ h3)
       by_cases e5:j2+1=y.size
       ·rw[if_pos (by simpa using e5)]
        exact wpS_pure ⟨_,rfl,.inl ⟨_,_,rfl,MI.fB H M4 e5⟩⟩
       rw[if_neg (by simpa using e5)]
       refine wpS_bind (jas (b:=x) @0 (wpS_bind (jiN C (H.px _ (Array.getElem_mem _)) H.py @0 ((jgo H.sy).sub (Nat.zero_le _) @0) @0 fun m m0 m1 m2=>?_)))
       dsimp only;rcases Nat.eq_zero_or_pos m with hm | hm
       focus
        subst hm;rw[if_neg @0]
        have M5:=M4;have hj5:j2+1<y.size:=by omega
        have h5:=m2 0 (jul _) @0 @0
       rotate_left
       focus
        rw[if_pos hm];have M5:=MI.bk O H M4 @0 fun t ht hj=>C.asym _ _ (m1 t ht hj)
        by_cases e6:j2+1+m=y.size
        ·rw[if_pos (by simpa using e6)]
         exact wpS_pure ⟨_,rfl,.inl ⟨_,_,rfl,MI.fB H M5 e6⟩⟩
        rw[if_neg (by simpa using e6)]
        have hj5:j2+1+m<y.size:=by omega
        have h5:=m2 m (jul _) @0 hj5
       all_goals
        refine wpS_bind (jas (b:=x) @0 ?_)
        have M6:=MI.a1 O H M5 @0 hj5 h5
        split
        ·rename_i z;exact wpS_pure ⟨_,rfl,.inl ⟨_,_,rfl,MI.fL O H M6 (eq_of_beq z)⟩⟩
        ·rename_i z;have z:=mt beq_iff_eq.mpr z;split
         ·exact wpS_pure ⟨_,rfl,.inr ⟨_,_,_,_,_,_,rfl,⟨M6,by omega,hj5⟩,by omega⟩⟩
         ·exact wpS_pure ⟨_,_,_,_,_,_,_,rfl,rfl,⟨M6,by omega,hj5⟩,by omega⟩
    ·rintro c st' ⟨g2,o2,i2,j2,mg2,ac2,bc2,rfl,rfl,M2,hs2⟩;exact⟨g2,rfl,.inr ⟨_,_,_,_,_,_,rfl,M2,hs2⟩⟩
    ·rintro c st' ⟨g2,rfl,⟨r,jbl,rfl,hF⟩ | ⟨o2,i2,j2,mg2,ac2,bc2,rfl,M2,hs2⟩⟩
     ·exact wpS_pure ⟨g2,r,_,rfl,rfl,hF⟩
     ·dsimp only;refine wpS_bind (wpS_modify (wpS_pure ⟨mg2+1,_,_,_,_,rfl,rfl,M2,by omega⟩))
 ·rintro c st' ⟨g',out,i,j,mg,rfl,rfl,M,hs⟩;have:=M.hi;have:=M.hj;omega
 ·rintro c st' ⟨g',r,jbl,rfl,rfl,hF⟩;exact wpS_pure (h r g' hF)
end
end KG
namespace KG
open PySem PyProof.Rows
section
variable {prog:Program}{w:World}{A:Around}{E:Value->Shared->Prop}{s:Shared}{κ:SortKind}{P:Keyed->Prop}{lt:Keyed->Keyed->Bool}{a:Array Keyed}{p:Array (Nat×Nat×Nat)}{g:Nat}
variable {x y out:Array Keyed}{na nb k:Nat}
noncomputable def fl (lt:Keyed->Keyed->Bool)(u v:Keyed):Bool:=lt v u
theorem Od.fl (O:Od lt):Od (fl lt):=⟨fun x y h=>O.asym y x h,fun x y z h1 h2=>O.trans z y x h2 h1⟩
theorem Srt.rev {l:List Keyed}(h:Srt lt l):Srt (fl lt) l.reverse:=List.pairwise_reverse.mpr h
noncomputable abbrev MH (lt:Keyed->Keyed->Bool)(x y out:Array Keyed)(na nb:Nat):Prop:=ML (fl lt) x.toList.reverse y.toList.reverse out.toList (x.size - na) (y.size - nb)
theorem jcd {x:Array Keyed}{na:Nat}(h0:0<na)(h1:na<=x.size):x.toList.reverse[x.size - na]'(by simp;omega)=x[na - 1]' @0:=by
 rw[List.getElem_reverse,Array.getElem_toList];congr 1;rw[Array.length_toList];omega
theorem jd0 (x:Array Keyed){na:Nat}(h:na<=x.size):(x.toList.reverse.drop (x.size - na)).reverse=(x.extract 0 na).toList:=by
 rw[List.drop_reverse,List.reverse_reverse,Array.toList_extract,List.extract_eq_take_drop,Array.length_toList];congr 1;omega
theorem jmD (x:Array Keyed){at_ na:Nat}(h:at_<=na)(h2:na<=x.size):((x.extract at_ na).reverse).toList=(x.toList.reverse.drop (x.size - na)).take (na - at_):=by
 rw[Array.toList_reverse,Array.toList_extract,List.extract_eq_take_drop,List.drop_reverse,Array.length_toList,show x.size - (x.size - na)=na by omega,List.take_reverse]
 congr 1
 rw[List.length_take,Array.length_toList,List.drop_take];congr 1
 ·omega
 ·congr 1;omega
theorem MH.a1 (O:Od lt)(H:Lo lt P x y)(M:MH lt x y out na nb)(h0:0<na)(h1:na<=x.size)(g0:0<nb)(g1:nb<=y.size)(h:Le lt (y[nb - 1]' @0) (x[na - 1]' @0)):MH lt x y (out.push (x[na - 1]' @0)) (na - 1) nb:=by
 have:=M.stA O.fl H.sx.rev H.sy.rev (by simp;omega) (by simp;omega) (by rw[jcd h0 h1,jcd g0 g1];exact h)
 rw[jcd h0 h1,show x.size - na+1=x.size - (na - 1)by omega]at this
 show ML _ _ _ (out.push _).toList _ _;rw[Array.toList_push];exact this
theorem MH.b1 (O:Od lt)(H:Lo lt P x y)(M:MH lt x y out na nb)(h0:0<na)(h1:na<=x.size)(g0:0<nb)(g1:nb<=y.size)(h:Le lt (x[na - 1]' @0) (y[nb - 1]' @0)):MH lt x y (out.push (y[nb - 1]' @0)) na (nb - 1):=by
 have:=M.stB O.fl H.sx.rev H.sy.rev (by simp;omega) (by simp;omega) (by rw[jcd h0 h1,jcd g0 g1];exact h)
 rw[jcd g0 g1,show y.size - nb+1=y.size - (nb - 1)by omega]at this
 show ML _ _ _ (out.push _).toList _ _;rw[Array.toList_push];exact this
theorem jp3 {x:Array Keyed}{na t:Nat}(h1:na<=x.size)(ht:t<na)(hi:x.size - na+t<x.toList.reverse.length):x.toList.reverse[x.size - na+t]=x[na - 1 - t]' @0:=by
 rw[List.getElem_reverse,Array.getElem_toList];congr 1;rw[Array.length_toList];omega
theorem MH.ak (O:Od lt)(H:Lo lt P x y)(M:MH lt x y out na nb)(hk:k<=na)(h1:na<=x.size)(g0:0<nb)(g1:nb<=y.size)(h:∀t,k<=t->∀(ht:t<na),Le lt (y[nb - 1]' @0) (x[t]' @0)):MH lt x y (out++(x.extract k na).reverse) k nb:=by
 have:=M.rnA (k:=na - k) O.fl H.sx.rev H.sy.rev (by simp;omega) fun t ht hi=>by
  rw[jcd g0 g1,jp3 h1 @0 hi]
  exact h _ @0 @0
 rw[show x.size - na+(na - k)=x.size - k by omega]at this
 show ML _ _ _ (out++_).toList _ _;rw[Array.toList_append,jmD x hk h1];exact this
theorem MH.bk (O:Od lt)(H:Lo lt P x y)(M:MH lt x y out na nb)(hk:k<=nb)(h0:0<na)(h1:na<=x.size)(g1:nb<=y.size)(h:∀t,k<=t->∀(ht:t<nb),Le lt (x[na - 1]' @0) (y[t]' @0)):MH lt x y (out++(y.extract k nb).reverse) na k:=by
 have:=M.rnB (k:=nb - k) O.fl H.sx.rev H.sy.rev (by simp;omega) fun t ht hi=>by
  rw[jcd h0 h1,jp3 g1 @0 hi]
  exact h _ @0 @0
 rw[show y.size - nb+(nb - k)=y.size - k by omega]at this
 show ML _ _ _ (out++_).toList _ _;rw[Array.toList_append,jmD y hk g1];exact this
theorem Mrg.rev {r:List Keyed}(h:Mrg (fl lt) x.toList.reverse y.toList.reverse r):Mrg lt x.toList y.toList r.reverse:=
 ⟨(List.reverse_perm r).trans (h.1.trans ((List.reverse_perm _).append (List.reverse_perm _))),List.pairwise_reverse.mpr h.2⟩
theorem MH.f0 (H:Lo lt P x y)(M:MH lt x y out na nb)(h1:na<=x.size)(g1:nb<=y.size)(h:na=0\/nb=0):Fn lt x y (x.extract 0 na++y.extract 0 nb++out.reverse):=by
 show Mrg lt _ _ (x.extract 0 na++y.extract 0 nb++out.reverse).toList;rw[Array.toList_append,Array.toList_append,Array.toList_reverse];rcases h with h | h
 ·have:=(M.finA H.sx.rev H.sy.rev (by simp[h])).rev
  rw[List.reverse_append,jd0 y g1]at this;have e:(x.extract 0 na).toList=[]:=by rw[h];simp
  rw[e,List.nil_append];exact this
 ·have:=(M.finB H.sx.rev H.sy.rev (by simp[h])).rev
  rw[List.reverse_append,jd0 x h1]at this;have e:(y.extract 0 nb).toList=[]:=by rw[h];simp
  rw[e,jt5];exact this
theorem MH.f1 (O:Od lt)(H:Lo lt P x y)(M:MH lt x y out na nb)(h1:na<=x.size)(h:nb=1):Fn lt x y (y.extract 0 nb++x.extract 0 na++out.reverse):=by
 subst h;have y1:=H.y1;have x1:=H.x1;show Mrg lt _ _ (y.extract 0 1++x.extract 0 na++out.reverse).toList;rw[Array.toList_append,Array.toList_append,Array.toList_reverse];have:=(M.symm.finL H.sy.rev H.sx.rev (by simp;omega) fun v hv=>by
  rw[jcd @0 y1]
  have hv:v∈x.toList:=List.mem_reverse.mp hv;exact jfA O H.sx (i:=0) (by simp;omega) (c:=y[0]) (by simpa[Le] using O.asym _ _ H.low) v (by simpa using hv)).symm.rev
 rw[List.reverse_append,List.reverse_append,jd0 x h1,jd0 y y1,<-jt6]at this;exact this
structure MHI (lt:Keyed->Keyed->Bool)(x y out:Array Keyed)(na nb:Nat):Prop where
 mh:MH lt x y out na nb
 a0:0<na
 a1:na<=x.size
 b0:1<nb
 b1:nb<=y.size
theorem jiP (C:Cmp prog w A s κ P lt)(H:Lo lt P x y){Q:Array Keyed->SortSt->Prop}(h:∀r g',Fn lt x y r->Q r (St κ a p g')):wpS @2 A E s (jk8 x y) Q (St κ a p g):=by
 have O:=C.od;have x1:=H.x1;have y1:=H.y1;refine wpS_bind (jdJ ?_);dsimp only;refine wpS_bind (jas (b:=x) (i:=x.size - 1) @0 ?_)
 have M0:MH lt x y #[] x.size y.size:=⟨by simp,List.Pairwise.nil,fun u hu=>by simp at hu,fun u hu=>by simp at hu⟩
 have M1:=MH.a1 O H M0 x1 (jul _) y1 (jul _) (O.asym _ _ (H.top _ (Array.getElem_mem _)));by_cases e1:x.size - 1=0
 ·rw[if_pos (by simpa using e1)]
  exact wpS_pure (h _ _ (MH.f0 H M1 @0 (jul _) (.inl e1)))
 rw[if_neg (by simpa using e1)]
 by_cases e2:y.size=1
 ·rw[if_pos (by simpa using e2)]
  exact wpS_pure (h _ _ (MH.f1 O H M1 @0 e2))
 rw[if_neg (by simpa using e2)]
 refine wpS_bind (wpS_get ?_);refine wpS_bind (wpS_mono (wpS_forRange (I:=fun t c st'=>∃g' na nb out mg,st'=St κ a p g'/\c=(none,na,nb,out,mg)/\MHI lt x y out na nb/\na+nb+t+1<=x.size+y.size) (Q:=fun c st'=>∃g' r jbl,st'=St κ a p g'/\c=(some r,jbl)/\Fn lt x y r) ?_ ?_ ⟨g,_,_,_,_,rfl,rfl,⟨M1,by omega,by omega,by omega,by omega⟩,by omega⟩) ?_)
 ·rintro t c st' - ht ⟨g',na,nb,out,mg,rfl,rfl,M,hs⟩;dsimp only;refine wpS_bind (wpS_mono (wpS_forRange (I:=fun t' c st'=>st'=St κ a p g'/\∃na' nb' out' ac bc,c=(none,na',nb',out',ac,bc)/\MHI lt x y out' na' nb'/\na'+nb'+t'<=na+nb) (Q:=fun c st'=>st'=St κ a p g'/\((∃r jbl,c=(some r,jbl)/\Fn lt x y r)\/∃na' nb' out' ac bc,c=(none,na',nb',out',ac,bc)/\MHI lt x y out' na' nb'/\na'+nb'+1<=na+nb)) ?_ ?_ ⟨rfl,_,_,_,_,_,rfl,M,by omega⟩) ?_)
  ·rintro t' c st' - ht' ⟨rfl,na',nb',out',ac,bc,rfl,⟨M',a0,a1,b0,b1⟩,hs'⟩;dsimp only;refine wpS_bind (jas (b:=y) @0 (wpS_bind (jas (b:=x) @0 (wpS_bind (jp0 C (H.py _ (Array.getElem_mem _)) (H.px _ (Array.getElem_mem _)) ?_)))))
   dsimp only;by_cases hb:lt (y[nb' - 1]' @0) (x[na' - 1]' @0)=true
   ·rw[if_pos hb];refine wpS_bind (jas (b:=x) @0 ?_)
    have M2:=MH.a1 O H M' a0 a1 @0 b1 (C.asym _ _ hb)
    by_cases e:na' - 1=0
    ·rw[if_pos (by simpa using e)]
     exact wpS_pure ⟨rfl,.inl ⟨_,_,rfl,MH.f0 H M2 @0 b1 (.inl e)⟩⟩
    ·rw[if_neg (by simpa using e)]
     split
     ·exact wpS_pure ⟨rfl,.inr ⟨_,_,_,_,_,rfl,⟨M2,by omega,by omega,b0,b1⟩,by omega⟩⟩
     ·exact wpS_pure ⟨rfl,_,_,_,_,_,rfl,⟨M2,by omega,by omega,b0,b1⟩,by omega⟩
   ·rw[if_neg hb];refine wpS_bind (jas (b:=y) @0 ?_)
    have M2:=MH.b1 O H M' a0 a1 @0 b1 (by simpa[Le] using hb)
    by_cases e:nb' - 1=1
    ·rw[if_pos (by simpa using e)]
     exact wpS_pure ⟨rfl,.inl ⟨_,_,rfl,MH.f1 O H M2 a1 e⟩⟩
    ·rw[if_neg (by simpa using e)]
     split
     ·exact wpS_pure ⟨rfl,.inr ⟨_,_,_,_,_,rfl,⟨M2,a0,a1,by omega,by omega⟩,by omega⟩⟩
     ·exact wpS_pure ⟨rfl,_,_,_,_,_,rfl,⟨M2,a0,a1,by omega,by omega⟩,by omega⟩
  ·rintro c st' ⟨rfl,na',nb',out',ac,bc,rfl,M',hs'⟩;exact⟨rfl,.inr ⟨_,_,_,_,_,rfl,M',by omega⟩⟩
  ·rintro c st' ⟨rfl,⟨r,jbl,rfl,hF⟩ | ⟨na',nb',out',ac,bc,rfl,M',hs'⟩⟩
   ·exact wpS_pure ⟨g',r,_,rfl,rfl,hF⟩
   ·dsimp only;refine wpS_bind (jdJ ?_);refine wpS_bind (wpS_mono (wpS_forRange (I:=fun _ c st'=>∃g2 n2 m2 o2 mg2 ac2 bc2,st'=St κ a p g2/\c=(none,n2,m2,o2,mg2,ac2,bc2)/\MHI lt x y o2 n2 m2/\n2+m2+1<=na+nb) (Q:=fun c st'=>∃g2,st'=St κ a p g2/\((∃r jbl,c=(some r,jbl)/\Fn lt x y r)\/∃n2 m2 o2 mg2 ac2 bc2,c=(none,n2,m2,o2,mg2,ac2,bc2)/\MHI lt x y o2 n2 m2/\n2+m2+1<=na+nb)) ?_ ?_ ⟨g',_,_,_,_,_,_,rfl,rfl,M',hs'⟩) ?_)
    ·rintro t2 c st2 - ht2 ⟨g2,n2,m2,o2,mg2,ac2,bc2,rfl,rfl,⟨M2,a0,a1,b0,b1⟩,hs2⟩;dsimp only;have pj:=H.py _ (Array.getElem_mem (show m2 - 1<y.size by omega))
     rcases Nat.lt_or_ge 1 mg2 with hmg | hmg
     focus
      rw[if_pos hmg]
     rotate_left
     focus
      rw[if_neg @0]
     all_goals
      refine wpS_bind (wpS_modify ?_);show wpS _ _ _ _ _ _ (St κ a p _);refine wpS_bind (jas (b:=y) @0 (wpS_bind (jiM C pj H.px @0 ((jgo H.sx).sub (Nat.zero_le _) @0) @0 fun k k0 k1 k2=>?_)))
      dsimp only;rcases Nat.eq_or_lt_of_le k0 with hk | hk
      focus
       rw[if_neg @0]
       have M3:=M2;have hk0:0<n2:=a0;have hk1:n2<=n2:=jul _;have h3:Le lt (x[n2 - 1]' @0) (y[m2 - 1]' @0):=by have:=k1 (n2 - 1) @0 @0;simpa using this
      rotate_left
      focus
       rw[if_pos @0]
       have M3:=MH.ak O H M2 k0 a1 @0 b1 fun t h1 h2=>O.asym _ _ (by have:=k2 t h1 h2 @0;simpa using this)
       by_cases e3:k=0
       ·rw[if_pos (by simpa using e3)]
        exact wpS_pure ⟨_,rfl,.inl ⟨_,_,rfl,MH.f0 H M3 @0 b1 (.inl e3)⟩⟩
       rw[if_neg (by simpa using e3)]
       have hk0:0<k:=by omega
       have hk1:k<=n2:=k0;have h3:Le lt (x[k - 1]' @0) (y[m2 - 1]' @0):=by have:=k1 (k - 1) @0 @0;simpa using this
      all_goals
       refine wpS_bind (jas (b:=y) @0 ?_)
       have M4:=MH.b1 O H M3 hk0 @0 @0 b1 h3
       by_cases e5:m2 - 1=1
       ·rw[if_pos (by simpa using e5)]
        exact wpS_pure ⟨_,rfl,.inl ⟨_,_,rfl,MH.f1 O H M4 @0 e5⟩⟩
       rw[if_neg (by simpa using e5)]
       refine wpS_bind (jas (b:=x) @0 (wpS_bind (jiN C (H.px _ (Array.getElem_mem _)) H.py @0 ((jgo H.sy).sub (Nat.zero_le _) @0) @0 fun m m0 m1 m3=>?_)))
       dsimp only;rcases Nat.eq_or_lt_of_le m0 with hm | hm
       focus
        rw[if_neg @0]
        have M5:=M4;have j0:1<m2 - 1:=by omega
        have j1:m2 - 1<=m2 - 1:=jul _;have h5:=C.asym _ _ (m1 (m2 - 1 - 1) @0 @0)
        simp only[Nat.zero_add]at h5
       rotate_left
       focus
        rw[if_pos @0]
        have M5:=MH.bk O H M4 m0 hk0 @0 @0 fun t h1 h2=>by have:=m3 t h1 h2 @0;simpa using this
        by_cases e6:m=1
        ·rw[if_pos (by simpa using e6)]
         exact wpS_pure ⟨_,rfl,.inl ⟨_,_,rfl,MH.f1 O H M5 @0 e6⟩⟩
        rw[if_neg (by simpa using e6)]
        by_cases e7:m=0
        ·rw[if_pos (by simpa using e7)]
         exact wpS_pure ⟨_,rfl,.inl ⟨_,_,rfl,MH.f0 H M5 @0 @0 (.inr e7)⟩⟩
        rw[if_neg (by simpa using e7)]
        have j0:1<m:=by omega
        have j1:m<=m2 - 1:=m0;have h5:=C.asym _ _ (m1 (m - 1) @0 @0)
        simp only[Nat.zero_add]at h5
       all_goals
        refine wpS_bind (jas (b:=x) @0 ?_)
        have M6:=MH.a1 O H M5 hk0 @0 @0 @0 h5
        split
        ·rename_i z;exact wpS_pure ⟨_,rfl,.inl ⟨_,_,rfl,MH.f0 H M6 @0 @0 (.inl (eq_of_beq z))⟩⟩
        ·rename_i z;have z:=mt beq_iff_eq.mpr z;split
         ·exact wpS_pure ⟨_,rfl,.inr ⟨_,_,_,_,_,_,rfl,⟨M6,by omega,by omega,j0,by omega⟩,by omega⟩⟩
         ·exact wpS_pure ⟨_,_,_,_,_,_,_,rfl,rfl,⟨M6,by omega,by omega,j0,by omega⟩,by omega⟩
    ·rintro c st' ⟨g2,n2,m2,o2,mg2,ac2,bc2,rfl,rfl,M2,hs2⟩;exact⟨g2,rfl,.inr ⟨_,_,_,_,_,_,rfl,M2,hs2⟩⟩
    ·rintro c st' ⟨g2,rfl,⟨r,jbl,rfl,hF⟩ | ⟨n2,m2,o2,mg2,ac2,bc2,rfl,M2,hs2⟩⟩
     ·exact wpS_pure ⟨g2,r,_,rfl,rfl,hF⟩
     ·dsimp only;refine wpS_bind (wpS_modify (wpS_pure ⟨mg2+1,_,_,_,_,rfl,rfl,M2,by omega⟩))
 ·rintro c st' ⟨g',na,nb,out,mg,rfl,rfl,M,hs⟩;have:=M.a0;omega
 ·rintro c st' ⟨g',r,jbl,rfl,rfl,hF⟩;exact wpS_pure (h r g' hF)
end
end KG
namespace KG
open PySem PyProof.Rows
theorem jp4 (sa:Nat):∀(l:List Keyed) (n:Nat) (b:Array Keyed) (t:Nat),((l.zipIdx n).foldl (fun a (q:Keyed×Nat)=>a.setIfInBounds (sa+q.2) q.1) b)[t]?=if sa+n<=t/\t<sa+n+l.length/\t<b.size then l[t - (sa+n)]? else b[t]?:=by
 intro l;induction l with
 |nil=>intro n b t;rw[if_neg (by simp;omega)];rfl
 |cons x l ih=>
  intro n b t;rw[List.zipIdx_cons,List.foldl_cons,ih (n+1),Array.size_setIfInBounds,Array.getElem?_setIfInBounds];simp only[jtR];by_cases h1:t=sa+n
  ·subst h1;rw[if_neg @0,if_pos rfl]
   by_cases h2:sa+n<b.size
   ·rw[if_pos @0,if_pos @0];simp
   ·rw[if_neg @0,if_neg @0]
    simp;omega
  ·rw[if_neg (show ¬ sa+n=t from fun z=>h1 z.symm)];by_cases h2:sa+(n+1)<=t/\t<sa+(n+1)+l.length/\t<b.size
   ·rw[if_pos h2,if_pos @0,show t - (sa+n)=(t - (sa+(n+1)))+1 by omega,jt1]
   ·rw[if_neg h2,if_neg @0]
section
variable {prog:Program}{w:World}{A:Around}{E:Value->Shared->Prop}{s:Shared}{κ:SortKind}{P:Keyed->Prop}{lt:Keyed->Keyed->Bool}{a:Array Keyed}{p:Array (Nat×Nat×Nat)}{g:Nat}
theorem jrS {st st':SortSt}{Q:PUnit->SortSt->Prop}(h:Q ⟨⟩ st'):wpS @2 A E s (set st':StateT SortSt Sem PUnit) Q st:=by
 unfold wpS;rw[StateT.run_set];exact jt9 ⟨rfl,h⟩
structure Wb (lt:Keyed->Keyed->Bool)(a a':Array Keyed)(lo hi:Nat):Prop where
 perm:a'.Perm a
 out:∀t,t<lo\/hi<=t->a'[t]?=a[t]?
 seg:Seg lt a' lo hi
 mem:∀t,lo<=t->t<hi->∃t',lo<=t'/\t'<hi/\a'[t]?=a[t']?
theorem jrT {lo sb hi:Nat}(h1:lo<=sb)(h2:sb<=hi)(h3:hi<=a.size){m:Array Keyed}(F:Fn lt (a.extract lo sb) (a.extract sb hi) m) :
  Wb lt a (m.toList.zipIdx.foldl (fun a (q:Keyed×Nat)=>a.setIfInBounds (lo+q.2) q.1) a) lo hi:=by
 have exy:(a.extract lo sb).toList++(a.extract sb hi).toList=(a.toList.drop lo).take (hi - lo):=by
  rw[Array.toList_extract,Array.toList_extract,List.extract_eq_take_drop,List.extract_eq_take_drop,show hi - lo=(sb - lo)+(hi - sb)by omega,List.take_add,List.drop_drop,show lo+(sb - lo)=sb by omega]
 have fp:m.toList.Perm ((a.toList.drop lo).take (hi - lo)):=by rw[<-exy];exact F.1
 have ml:m.toList.length=hi - lo:=by rw[fp.length_eq,List.length_take,List.length_drop,Array.length_toList];omega
 have at_:∀t:Nat,(m.toList.zipIdx.foldl (fun a (q:Keyed×Nat)=>a.setIfInBounds (lo+q.2) q.1) a)[t]?=if lo<=t/\t<hi then m.toList[t - lo]? else a[t]?:=fun t=>by
  rw[jp4,ml];by_cases hc:lo<=t/\t<hi
  ·rw[if_pos @0,if_pos hc];rfl
  ·rw[if_neg @0,if_neg hc]
 generalize (m.toList.zipIdx.foldl (fun a (q:Keyed×Nat)=>a.setIfInBounds (lo+q.2) q.1) a)=a' at at_;have sz:a'.size=a.size:=by
  have g1:∀t,a'[t]?=none↔a[t]?=none:=fun t=>by
   rw[at_];split
   ·rw[List.getElem?_eq_none_iff,Array.getElem?_eq_none_iff];constructor <;> (intro z;omega)
   ·exact Iff.rfl
  have g2:=g1 a.size;have g3:=g1 a'.size;simp only[Array.getElem?_eq_none_iff]at g2 g3;omega
 refine⟨?_,fun t ht=>by rw[at_,if_neg @0],fun i j hj hij a1 a2=>?_,fun t t1 t2=>?_⟩
 ·have e1:a'.toList=a.toList.take lo++(m.toList++a.toList.drop hi):=by
   apply List.ext_getElem?;intro t;rw[Array.getElem?_toList,at_,List.getElem?_append,List.length_take,Array.length_toList,List.getElem?_append,ml];by_cases c1:t<lo
   ·rw[if_neg @0,if_pos @0,List.getElem?_take,if_pos c1,Array.getElem?_toList]
   ·rw[if_neg (show ¬ t<min lo a.size by omega),show min lo a.size=lo by omega]
    by_cases c2:t<hi
    ·rw[if_pos @0,if_pos @0]
    ·rw[if_neg @0,if_neg @0,List.getElem?_drop,Array.getElem?_toList]
     congr 1;omega
  have e2:a.toList=a.toList.take lo++((a.toList.drop lo).take (hi - lo)++a.toList.drop hi):=by
   have:a.toList.drop hi=(a.toList.drop lo).drop (hi - lo):=by rw[List.drop_drop];congr 1;omega
   rw[this,List.take_append_drop,List.take_append_drop]
  rw[Array.perm_iff_toList_perm,e1];refine List.Perm.trans ?_ (List.Perm.of_eq e2.symm);exact List.Perm.append_left _ (List.Perm.append_right _ fp)
 ·have gi:=at_ i;have gj:=at_ j;rw[if_pos @0,getElem?_pos a' _ @0,jtH @0]at gi
  rw[if_pos @0,getElem?_pos a' _ @0,jtH @0]at gj
  rw[Option.some.inj gi,Option.some.inj gj];exact List.pairwise_iff_getElem.mp F.2 _ _ @0 @0 @0
 ·have ht:t - lo<m.toList.length:=by omega
  have hm:=fp.mem_iff.mp (List.getElem_mem ht);obtain⟨u,hu,e⟩:=List.getElem_of_mem hm;have hu':=hu;rw[List.length_take,List.length_drop,Array.length_toList]at hu';rw[List.getElem_take,List.getElem_drop,Array.getElem_toList]at e;refine⟨lo+u,by omega,by omega,?_⟩
  rw[at_,if_pos @0,jtH ht,<-e,getElem?_pos a _ @0]
theorem jiQ (C:Cmp prog w A s κ P lt)(hP:∀u∈a,P u){i sa na sb nb pw pw2:Nat}(h1:p[i]?=some (sa,na,pw))(h2:p[i+1]?=some (sb,nb,pw2))(hsb:sb=sa+na)(n1:1<=na)(n2:1<=nb)(hz:sb+nb<=a.size)(S1:Seg lt a sa sb)(S2:Seg lt a sb (sb+nb))
  {Q:Bool->SortSt->Prop} (h:∀a' g',a'.Perm a->(∀t,t<sa\/sb+nb<=t->a'[t]?=a[t]?)->Seg lt a' sa (sb+nb)->Q true (St κ a' ((p.setIfInBounds i (sa,na+nb,pw)).eraseIdxIfInBounds (i+1)) g')):wpS @2 A E s (mergeAt' i) Q (St κ a p g):=by
 have O:=C.od;refine wpS_bind (wpS_get ?_);dsimp only;rw[h1,h2];dsimp only;refine wpS_bind (jrS ?_);show wpS _ _ _ _ _ _ (St κ a _ g);have hb0:sb<a.size:=by omega
 refine wpS_bind (jas (b:=a) hb0 (wpS_bind (jiM C (hP _ (Array.getElem_mem hb0)) hP @0 (S1.sub (jul _) @0) @0 fun k k0 k1 k2=>?_)))
 dsimp only;have lowA:∀i,sa<=i->i<sa+k->∀j (hj:j<a.size) (hi:i<a.size),sb<=j->j<sb+nb->Le lt a[i] a[j]:=fun i hi1 hi2 j hj hi hj1 hj2=>by
  have h3:=k1 (i - sa) @0 @0
  have e:sa+(i - sa)=i:=by omega
  simp only[e]at h3;exact O.trans _ _ _ h3 (S2.le O hj hj1 (jul _) hj2)
 by_cases e1:na - k=0
 ·rw[if_pos (by simpa using e1)]
  refine wpS_pure (h a g (Array.Perm.refl _) (fun _ _=>rfl) fun i j hj hij hi1 hj2=>?_);by_cases c1:j<sb
  ·exact S1 i j hj hij hi1 c1
  ·by_cases c2:i<sb
   ·exact lowA i hi1 @0 j hj @0 @0 hj2
   ·exact S2 i j hj hij @0 hj2
 rw[if_neg (by simpa using e1)]
 have hl:sa+k+(na - k) - 1<a.size:=by omega
 refine wpS_bind (jas (b:=a) hl (wpS_bind (jiN C (hP _ (Array.getElem_mem hl)) hP hz S2 @0 fun m m0 m1 m2=>?_)))
 dsimp only;have el:sa+k+(na - k) - 1=sb - 1:=by omega
 have topB:∀i,sa<=i->i<sb->∀j (hj:j<a.size) (hi:i<a.size),sb+m<=j->j<sb+nb->Le lt a[i] a[j]:=fun i hi1 hi2 j hj hi hj1 hj2=>by
  have h3:=m2 (j - sb) @0 @0 @0
  have e:sb+(j - sb)=j:=by omega
  simp only[e,el]at h3;exact O.trans _ _ _ (S1.le O @0 @0 hi1 @0) h3
 by_cases e2:m=0
 ·rw[if_pos (by simpa using e2)]
  refine wpS_pure (h a g (Array.Perm.refl _) (fun _ _=>rfl) fun i j hj hij hi1 hj2=>?_);by_cases c1:j<sb
  ·exact S1 i j hj hij hi1 c1
  ·by_cases c2:i<sb
   ·exact topB i hi1 c2 j hj @0 @0 hj2
   ·exact S2 i j hj hij @0 hj2
 rw[if_neg (by simpa using e2)]
 have sgx:∀{l u},(∀i j (hj:j<a.size) (hi:i<j),l<=i->j<u->Le lt a[i] a[j])->u<=a.size->Srt lt (a.extract l u).toList:=fun {l u} hs hu=>by
  refine List.pairwise_iff_getElem.mpr fun i j hi hj hij=>?_;have:j<u - l:=by simp at hj;omega
  rw[Array.getElem_toList,Array.getElem_toList,Array.getElem_extract,Array.getElem_extract];exact hs _ _ @0 @0 @0 @0
 have xsz:(a.extract (sa+k) sb).size=na - k:=by rw[Array.size_extract];omega
 have ysz:(a.extract sb (sb+m)).size=m:=by rw[Array.size_extract];omega
 have H:Lo lt P (a.extract (sa+k) sb) (a.extract sb (sb+m)):=by
  have me:∀{l u:Nat}{v:Keyed},v∈a.extract l u->v∈a:=fun {l u v} hu=>by
   obtain⟨t,ht,rfl⟩:=Array.getElem_of_mem hu;rw[Array.getElem_extract];exact Array.getElem_mem _
  refine⟨fun u hu=>hP u (me hu),fun u hu=>hP u (me hu),sgx (S1.sub @0 (jul _)) @0,sgx (S2.sub (jul _) @0) @0,by omega,by omega,?_,fun v hv=>?_⟩
  ·rw[Array.getElem_extract,Array.getElem_extract];exact k2 k (jul _) @0 @0
  ·obtain⟨t,ht,rfl⟩:=Array.getElem_of_mem hv;rw[Array.getElem_extract,Array.getElem_extract];have h3:=m1 t @0 @0
   have e:sa+k+((a.extract (sa+k) sb).size - 1)=sa+k+(na - k) - 1:=by omega
   simp only[e];exact h3
 have fin:∀(mg:Array Keyed) (g':Nat),Fn lt (a.extract (sa+k) sb) (a.extract sb (sb+m)) mg->Q true (St κ (mg.toList.zipIdx.foldl (fun a (q:Keyed×Nat)=>a.setIfInBounds (sa+k+q.2) q.1) a) ((p.setIfInBounds i (sa,na+nb,pw)).eraseIdxIfInBounds (i+1)) g'):=fun mg g' F=>by
  have W:=jrT @0 @0 @0 F
  have sz:=W.perm.size_eq;refine h _ g' W.perm (fun t ht=>W.out t @0) fun i j hj hij hi1 hj2=>?_
  have frm:∀t (ht:t<_),(t<sa+k\/sb+m<=t)->(mg.toList.zipIdx.foldl (fun a (q:Keyed×Nat)=>a.setIfInBounds (sa+k+q.2) q.1) a)[t]=a[t]' @0:=fun t ht hc=>by
   have:=W.out t hc;rw[getElem?_pos _ t ht,getElem?_pos a t @0]at this
   exact Option.some.inj this
  have frm2:∀t (ht:t<_),sa+k<=t->t<sb+m->∃t',∃(h1:sa+k<=t') (h2:t'<sb+m),(mg.toList.zipIdx.foldl (fun a (q:Keyed×Nat)=>a.setIfInBounds (sa+k+q.2) q.1) a)[t]=a[t']' @0:=fun t ht h1 h2=>by
   obtain⟨t',q1,q2,q3⟩:=W.mem t h1 h2;rw[getElem?_pos _ t ht,getElem?_pos a t' @0]at q3
   exact⟨t',q1,q2,Option.some.inj q3⟩
  by_cases c1:j<sa+k
  ·rw[frm i @0 @0,frm j hj @0]
   exact S1 i j @0 hij hi1 @0
  ·by_cases c2:sb+m<=i
   ·rw[frm i @0 @0,frm j hj @0]
    exact S2 i j @0 hij @0 hj2
   ·by_cases c3:i<sa+k
    ·rw[frm i @0 (.inl c3)]
     by_cases c4:j<sb+m
     ·obtain⟨t',q1,q2,q3⟩:=frm2 j hj @0 c4
      rw[q3];by_cases c5:t'<sb
      ·exact S1 i t' @0 @0 hi1 c5
      ·exact lowA i hi1 c3 t' @0 @0 @0 @0
     ·rw[frm j hj @0]
      exact topB i hi1 @0 j @0 @0 @0 hj2
    ·by_cases c4:j<sb+m
     ·exact W.seg i j hj hij @0 c4
     ·obtain⟨t',q1,q2,q3⟩:=frm2 i @0 @0 @0
      rw[q3,frm j hj @0]
      by_cases c5:t'<sb
      ·exact topB t' @0 c5 j @0 @0 @0 hj2
      ·exact S2 t' j @0 @0 @0 hj2
 split
 ·exact wpS_bind (jiO C H fun r g' F=>wpS_bind (wpS_modify (wpS_bind (wpS_get (wpS_pure (fin r g' F))))))
 ·exact wpS_bind (jiP C H fun r g' F=>wpS_bind (wpS_modify (wpS_bind (wpS_get (wpS_pure (fin r g' F))))))
end
end KG
namespace KG
open PySem PyProof.Rows
noncomputable def el (a:Array Keyed)(t:Nat):Keyed:=a.getD t (Value.none,Value.none)
theorem el_eq {a:Array Keyed}{t:Nat}(h:t<a.size):el a t=a[t]:=gd h
theorem jfB {a b:Array Keyed}{t u:Nat}(h:a[t]?=b[u]?):el a t=el b u:=by
 unfold el;rw[Array.getD_eq_getD_getElem?,Array.getD_eq_getD_getElem?,h]
section
variable {prog:Program}{w:World}{A:Around}{E:Value->Shared->Prop}{s:Shared}{κ:SortKind}{P:Keyed->Prop}{lt:Keyed->Keyed->Bool}{a b c:Array Keyed}{p:Array (Nat×Nat×Nat)}{g lo hi i j n k:Nat}
noncomputable def Up (lt:Keyed->Keyed->Bool)(a:Array Keyed)(lo hi:Nat):Prop:=∀i j,lo<=i->i<=j->j<hi->Le lt (el a i) (el a j)
noncomputable def Dn (lt:Keyed->Keyed->Bool)(a:Array Keyed)(lo hi:Nat):Prop:=∀i j,lo<=i->i<=j->j<hi->Le lt (el a j) (el a i)
noncomputable def Eq2 (lt:Keyed->Keyed->Bool)(a:Array Keyed)(lo hi:Nat):Prop:=∀i j,lo<=i->i<hi->lo<=j->j<hi->Le lt (el a i) (el a j)
noncomputable def Sim (lt:Keyed->Keyed->Bool)(a b:Array Keyed):Prop:=∀t,Le lt (el a t) (el b t)/\Le lt (el b t) (el a t)
structure Kp (a b:Array Keyed)(lo hi:Nat):Prop where
 perm:b.Perm a
 out:∀t,t<lo\/hi<=t->b[t]?=a[t]?
theorem Kp.refl:Kp a a lo hi:=⟨Array.Perm.refl _,fun _ _=>rfl⟩
theorem Kp.trans (h1:Kp a b lo hi)(h2:Kp b c lo hi):Kp a c lo hi:=⟨h2.perm.trans h1.perm,fun t ht=>(h2.out t ht).trans (h1.out t ht)⟩
theorem Kp.all (K:Kp a b lo hi)(hP:∀u∈a,P u):∀u∈b,P u:=fun u hu=>hP u (K.perm.mem_iff.mp hu)
theorem Up.seg (h:Up lt a lo hi):Seg lt a lo hi:=fun i j hj hij a1 a2=>by
 have:=h i j a1 @0 a2
 rwa [el_eq @0,el_eq hj]at this
theorem Up.succ (O:Od lt)(h:Up lt a lo hi)(h1:lo<hi)(hs:Le lt (el a (hi - 1)) (el a hi)):Up lt a lo (hi+1):=fun i j a1 a2 a3=>by
 by_cases hj:j<hi
 ·exact h i j a1 a2 hj
 ·have:j=hi:=by omega
  subst this;by_cases e:i=j
  ·subst e;exact O.refl _
  ·exact O.trans _ _ _ (h i (j - 1) a1 @0 @0) hs
theorem Dn.succ (O:Od lt)(h:Dn lt a lo hi)(h1:lo<hi)(hs:Le lt (el a hi) (el a (hi - 1))):Dn lt a lo (hi+1):=fun i j a1 a2 a3=>by
 by_cases hj:j<hi
 ·exact h i j a1 a2 hj
 ·have:j=hi:=by omega
  subst this;by_cases e:i=j
  ·subst e;exact O.refl _
  ·exact O.trans _ _ _ hs (h i (j - 1) a1 @0 @0)
theorem jp5 (O:Od lt):Up lt a lo (lo+1):=fun i j a1 a2 a3=>by
 have:i=j:=by omega
 subst this;exact O.refl _
theorem Eq2.dn (h:Eq2 lt a lo hi):Dn lt a lo hi:=fun i j a1 a2 a3=>h j i @0 a3 a1 @0
theorem Up.eq2 (O:Od lt)(h:Up lt a lo hi)(hs:Le lt (el a (hi - 1)) (el a lo)):Eq2 lt a lo hi:=fun i j a1 a2 a3 a4=>O.trans _ _ _ (h i (hi - 1) a1 @0 @0) (O.trans _ _ _ hs (h lo j (jul _) a3 a4))
theorem jk9 (hj:j<=a.size)(t:Nat):el (mirror a i j ((j - i) / 2)) t=if i<=t/\t<j then el a (i+j - 1 - t)else el a t:=by
 have:=getElem?_mirror_all (i:=i) hj t;split
 ·rename_i h;rw[if_pos h]at this;exact jfB this
 ·rename_i h;rw[if_neg h]at this;exact jfB this
theorem jla (h1:lo<=i)(h2:j<=hi)(hj:j<=a.size):Kp a (mirror a i j ((j - i) / 2)) lo hi:=⟨mirror_perm _ _ _ _,fun t ht=>by rw[getElem?_mirror_all hj,if_neg @0]⟩
theorem jgp (O:Od lt)(hj:j<=a.size)(h:Eq2 lt a i j):Sim lt a (mirror a i j ((j - i) / 2)):=fun t=>by
 rw[jk9 hj];split
 ·exact⟨h _ _ @0 @0 @0 @0,h _ _ @0 @0 @0 @0⟩
 ·exact⟨O.refl _,O.refl _⟩
theorem Sim.dn (O:Od lt)(S:Sim lt a b)(h:Dn lt a lo hi):Dn lt b lo hi:=fun i j a1 a2 a3=>O.trans _ _ _ (S j).2 (O.trans _ _ _ (h i j a1 a2 a3) (S i).1)
theorem Dn.rev (hh:hi<=a.size)(h:Dn lt a lo hi):Up lt (mirror a lo hi ((hi - lo) / 2)) lo hi:=fun i j a1 a2 a3=>by
 rw[jk9 hh,jk9 hh,if_pos @0,if_pos @0]
 exact h _ _ @0 @0 @0
theorem jlb {Q:Unit->SortSt->Prop}(h:Q () (St κ (mirror a i j ((j - i) / 2)) p g)):wpS @2 A E s (reverseSlice' i j) Q (St κ a p g):=wpS_modify h
theorem jhq (C:Cmp prog w A s κ P lt)(hP:∀x∈a,P x)(hi:i<a.size)(hj:j<a.size){Q:Option Bool->SortSt->Prop}(h:Q (some (lt (el a i) (el a j))) (St κ a p g)):wpS @2 A E s (ltAt' i j) Q (St κ a p g):=
 jp1 C hP hi hj (by rw[el_eq hi,el_eq hj]at h;exact h)
theorem Eq2.one (O:Od lt):Eq2 lt a lo (lo+1):=fun i j a1 a2 a3 a4=>by
 have:i=j:=by omega
 subst this;exact O.refl _
theorem Eq2.succ (O:Od lt)(h:Eq2 lt a lo hi)(h1:lo<hi)(h2:Le lt (el a (hi - 1)) (el a hi))(h3:Le lt (el a hi) (el a (hi - 1))):Eq2 lt a lo (hi+1):=fun i j a1 a2 a3 a4=>by
 by_cases c1:i=hi
 ·subst c1;by_cases c2:j=i
  ·subst c2;exact O.refl _
  ·exact O.trans _ _ _ h3 (h _ j @0 @0 a3 @0)
 ·by_cases c2:j=hi
  ·subst c2;exact O.trans _ _ _ (h i _ a1 @0 @0 @0) h2
  ·exact h i j a1 @0 a3 @0
theorem jp6 (O:Od lt)(hj:j<=a.size)(h0:i<j)(h:Eq2 lt a i j)(hs:Le lt (el a j) (el a (j - 1))):Le lt (el (mirror a i j ((j - i) / 2)) j) (el (mirror a i j ((j - i) / 2)) (j - 1)):=by
 rw[jk9 hj j,if_neg @0]
 exact O.trans _ _ _ hs ((jgp O hj h) (j - 1)).1
theorem jnB (C:Cmp prog w A s κ P lt)(hP:∀u∈a,P u){nrem:Nat}(h1:1<=nrem)(hz:lo+nrem<=a.size){Q:Option Nat->SortSt->Prop}
  (h:∀n b,1<=n->n<=nrem->Kp a b lo (lo+nrem)->Up lt b lo (lo+n)->Q (some n) (St κ b p g)):wpS @2 A E s (countRun' lo nrem) Q (St κ a p g):=by
 have O:=C.od;refine wpS_bind (wpS_mono (wpS_forRange (I:=fun t c st'=>st'=St κ a p g/\c=(none,t)/\1<=t/\Up lt a lo (lo+t)) (Q:=fun c st'=>st'=St κ a p g/\∃n,c=(none,n)/\1<=n/\n<=nrem/\Up lt a lo (lo+n)/\(n<nrem->lt (el a (lo+n)) (el a (lo+n - 1))=true)) ?_ ?_ ⟨rfl,rfl,jul _,jp5 O⟩) ?_)
 ·rintro t c st' ht1 ht ⟨rfl,rfl,a1,a2⟩;dsimp only;refine wpS_bind (jhq C hP @0 @0 ?_)
  dsimp only;by_cases hb:lt (el a (lo+t)) (el a (lo+t - 1))=true
  ·rw[if_pos hb];exact wpS_pure ⟨rfl,t,rfl,a1,by omega,a2,fun _=>hb⟩
  ·rw[if_neg hb];exact wpS_pure ⟨rfl,rfl,by omega,a2.succ (hi:=lo+t) O @0 (by simpa[Le] using hb)⟩
 ·rintro c st' ⟨rfl,rfl,a1,a2⟩;rw[show max 1 nrem=nrem by omega]at a2 ⊢
  exact⟨rfl,nrem,rfl,h1,jul _,a2,fun z=>absurd z (jup _)⟩
 rintro c st' ⟨rfl,n,rfl,a1,a2,a3,a4⟩;dsimp only;by_cases e1:n=nrem
 ·rw[if_pos (by simpa using e1)]
  exact wpS_pure (h n a a1 a2 Kp.refl a3)
 rw[if_neg (by simpa using e1)]
 have a4:=a4 @0
 rcases Nat.lt_or_ge 1 n with hn | hn
 focus
  rw[if_pos hn];refine wpS_bind (jhq C hP @0 @0 ?_)
  dsimp only;by_cases hb:lt (el a lo) (el a (lo+n - 1))=true
  ·rw[if_pos hb];exact wpS_pure (h n a a1 a2 Kp.refl a3)
  rw[if_neg hb];have q:=a3.eq2 O (by simpa[Le] using hb)
  refine wpS_bind (jlb ?_);have D2:=((jgp O @0 q).dn O q.dn).succ O @0 (jp6 O @0 @0 q (C.asym _ _ a4))
  have K:=jla (a:=a) (lo:=lo) (hi:=lo+nrem) (i:=lo) (j:=lo+n) (jul _) @0 @0
 rotate_left
 focus
  rw[if_neg @0]
  have D2:Dn lt a lo (lo+n+1):=Dn.succ O (by rw[show n=1 by omega];exact(Eq2.one O).dn) @0 (C.asym _ _ a4)
  have K:Kp a a lo (lo+nrem):=Kp.refl
 all_goals
  refine wpS_bind (jdJ ?_);refine wpS_bind (wpS_mono (wpS_forRange (I:=fun t c st'=>∃b q,st'=St κ b p g/\c=(none,t,q)/\q+1<=t/\Kp a b lo (lo+nrem)/\Dn lt b lo (lo+t)/\Eq2 lt b (lo+t - (q+1)) (lo+t)) (Q:=fun c st'=>∃b n q,st'=St κ b p g/\c=(none,n,q)/\n<=nrem/\q+1<=n/\Kp a b lo (lo+nrem)/\Dn lt b lo (lo+n)/\Eq2 lt b (lo+n - (q+1)) (lo+n)) ?_ ?_ ⟨_,0,rfl,rfl,by omega,K,D2,by rw[show lo+(n+1) - (0+1)=lo+n by omega];exact Eq2.one O⟩) ?_)
  ·rintro t c st' ht1 ht ⟨b,q,rfl,rfl,q1,K',D',Q'⟩;dsimp only;have sz:=K'.perm.size_eq;have hP':=K'.all hP;refine wpS_bind (jhq C hP' @0 @0 ?_)
   dsimp only;by_cases hb:lt (el b (lo+t)) (el b (lo+t - 1))=true
   ·rw[if_pos hb];by_cases hq:q>0
    ·rw[if_pos hq];refine wpS_bind (jlb (wpS_pure ⟨_,0,rfl,rfl,by omega,K'.trans (jla @0 @0 @0),((jgp O @0 Q').dn O D').succ (hi:=lo+t) O @0 (jp6 O @0 @0 Q' (C.asym _ _ hb)),?_⟩))
     rw[show lo+(t+1) - (0+1)=lo+t by omega];exact Eq2.one O
    ·rw[if_neg hq];refine wpS_pure ⟨_,0,rfl,rfl,by omega,K',D'.succ (hi:=lo+t) O @0 (C.asym _ _ hb),?_⟩
     rw[show lo+(t+1) - (0+1)=lo+t by omega];exact Eq2.one O
   ·rw[if_neg hb];refine wpS_bind (jhq C hP' @0 @0 ?_)
    dsimp only;by_cases hc:lt (el b (lo+t - 1)) (el b (lo+t))=true
    ·rw[if_pos hc];exact wpS_pure ⟨b,t,q,rfl,rfl,by omega,q1,K',D',Q'⟩
    ·rw[if_neg hc];have hb:Le lt (el b (lo+t - 1)) (el b (lo+t)):=by simpa[Le] using hb
     have hc:Le lt (el b (lo+t)) (el b (lo+t - 1)):=by simpa[Le] using hc
     refine wpS_pure ⟨b,q+1,rfl,rfl,by omega,K',D'.succ (hi:=lo+t) O @0 hc,?_⟩
     rw[show lo+(t+1) - (q+1+1)=lo+t - (q+1)by omega]
     exact Q'.succ (hi:=lo+t) O @0 hb hc
  ·rintro c st' ⟨b,q,rfl,rfl,q1,K',D',Q'⟩;rw[show max (n+1) nrem=nrem by omega]at *
   exact⟨b,nrem,q,rfl,rfl,jul _,q1,K',D',Q'⟩
  rintro c st' ⟨b,n',q,rfl,rfl,n1,q1,K',D',Q'⟩;dsimp only;have sz:=K'.perm.size_eq;rcases Nat.eq_zero_or_pos q with hq | hq
  focus
   rw[if_neg @0]
   have D3:=D';have K2:=K';have sz2:=sz
  rotate_left
  focus
   rw[if_pos hq];refine wpS_bind (jlb ?_);have D3:=(jgp O @0 Q').dn O D'
   have K2:=K'.trans (jla (a:=b) (i:=lo+n' - (q+1)) (j:=lo+n') @0 @0 @0)
   have sz2:=K2.perm.size_eq
  all_goals
   refine wpS_bind (jlb ?_);have U:=D3.rev @0
   have K3:=K2.trans (jla (i:=lo) (j:=lo+n') (jul _) @0 @0)
   refine wpS_bind (wpS_mono (wpS_forRange (I:=fun t c st'=>∃d,st'=St κ d p g/\c=(none,t)/\1<=t/\Kp a d lo (lo+nrem)/\Up lt d lo (lo+t)) (Q:=fun c st'=>∃d n,st'=St κ d p g/\c=(none,n)/\1<=n/\n<=nrem/\Kp a d lo (lo+nrem)/\Up lt d lo (lo+n)) ?_ ?_ ⟨_,rfl,rfl,by omega,K3,U⟩) ?_)
   ·rintro t c st' ht1 ht ⟨d,rfl,rfl,t1,Kd,Ud⟩;dsimp only;have szd:=Kd.perm.size_eq;refine wpS_bind (jhq C (Kd.all hP) @0 @0 ?_)
    dsimp only;by_cases hb:lt (el d (lo+t)) (el d (lo+t - 1))=true
    ·rw[if_pos hb];exact wpS_pure ⟨d,t,rfl,rfl,t1,by omega,Kd,Ud⟩
    ·rw[if_neg hb];exact wpS_pure ⟨d,rfl,rfl,by omega,Kd,Ud.succ (hi:=lo+t) O @0 (by simpa[Le] using hb)⟩
   ·rintro c st' ⟨d,rfl,rfl,t1,Kd,Ud⟩;rw[show max n' nrem=nrem by omega]at *
    exact⟨d,nrem,rfl,rfl,t1,jul _,Kd,Ud⟩
   ·rintro c st' ⟨d,m,rfl,rfl,t1,t2,Kd,Ud⟩;exact wpS_pure (h m d t1 t2 Kd Ud)
end
end KG
namespace KG
open PySem PyProof.Rows
section
variable {prog:Program}{w:World}{A:Around}{E:Value->Shared->Prop}{s:Shared}{κ:SortKind}{P:Keyed->Prop}{lt:Keyed->Keyed->Bool}{a b c:Array Keyed}{p:Array (Nat×Nat×Nat)}{g lo hi i j n k:Nat}
theorem jrU {src d:Nat}(hs:src<a.size)(hd:d<=src)(t:Nat):el (bubble a src d) t=if t=src - d then el a src else if src - d<t/\t<=src then el a (t - 1)else el a t:=by
 have:=getElem?_bubble hs d hd t;by_cases h1:t=src - d
 ·rw[if_pos h1]at this ⊢;exact jfB this
 ·rw[if_neg h1]at this ⊢;by_cases h2:src - d<t/\t<=src
  ·rw[if_pos h2]at this ⊢;exact jfB this
  ·rw[if_neg h2]at this ⊢;exact jfB this
theorem jrV {src d:Nat}(hs:src<a.size)(hd:d<=src)(h1:lo<=src - d)(h2:src<hi):Kp a (bubble a src d) lo hi:=⟨bubble_perm _ _ _,fun t ht=>by rw[getElem?_bubble hs d hd,if_neg @0,if_neg @0]⟩
theorem jrW (C:Cmp prog w A s κ P lt)(hP:∀u∈a,P u){ok:Nat}(h1:1<=ok)(hok:ok<=n)(hz:lo+n<=a.size)(U:Up lt a lo (lo+ok)){Q:Bool->SortSt->Prop}(h:∀b,Kp a b lo (lo+n)->Up lt b lo (lo+n)->Q true (St κ b p g)):wpS @2 A E s (binarySort' lo n ok) Q (St κ a p g):=by
 have O:=C.od;have e0:max ok 1=ok:=by omega
 refine wpS_bind (wpS_mono (wpS_forRange (I:=fun k c st'=>∃b,st'=St κ b p g/\c=(none,())/\Kp a b lo (lo+n)/\Up lt b lo (lo+k)) (Q:=fun c st'=>∃b,st'=St κ b p g/\c=(none,())/\Kp a b lo (lo+n)/\Up lt b lo (lo+n)) ?_ ?_ ⟨a,rfl,rfl,Kp.refl,by rw[e0];exact U⟩) ?_)
 ·rintro k c st' hk1 hk ⟨b,rfl,rfl,K,Ub⟩;dsimp only;have sz:=K.perm.size_eq;have hP':=K.all hP;refine wpS_bind (wpS_mono (wpS_forRange (I:=fun t c st'=>st'=St κ b p g/\∃l r,c=(none,l,r)/\l<=r/\r<=k/\r - l<=k - t/\(∀i,i<l->Le lt (el b (lo+i)) (el b (lo+k)))/\∀i,r<=i->i<k->lt (el b (lo+k)) (el b (lo+i))=true) (Q:=fun c st'=>st'=St κ b p g/\∃l,c=(none,l,l)/\l<=k/\(∀i,i<l->Le lt (el b (lo+i)) (el b (lo+k)))/\∀i,l<=i->i<k->lt (el b (lo+k)) (el b (lo+i))=true) ?_ ?_ ⟨rfl,0,k,rfl,by omega,by omega,by omega,fun i hi=>by omega,fun i h1 h2=>by omega⟩) ?_)
  ·rintro t c st' - ht ⟨rfl,l,r,rfl,l1,l2,l3,l4,l5⟩;dsimp only;by_cases hl:l>=r
   ·rw[if_pos hl];have:l=r:=by omega
    subst this;exact wpS_pure ⟨rfl,l,rfl,l2,l4,l5⟩
   ·rw[if_neg hl];refine wpS_bind (jhq C hP' @0 @0 ?_)
    dsimp only;by_cases hb:lt (el b (lo+k)) (el b (lo+(l+r) / 2))=true
    ·rw[if_pos hb];refine wpS_pure ⟨rfl,_,_,rfl,by omega,by omega,by omega,l4,fun i i1 i2=>?_⟩
     cases hc:lt (el b (lo+k)) (el b (lo+i))with
     |true=>rfl
     |false=>
      have:=O.trans _ _ _ (Ub (lo+(l+r) / 2) (lo+i) @0 @0 @0) hc
      rw[this]at hb;cases hb
    ·rw[if_neg hb];exact wpS_pure ⟨rfl,_,_,rfl,by omega,by omega,by omega,fun i hi=>O.trans _ _ _ (Ub (lo+i) (lo+(l+r) / 2) @0 @0 @0) (by simpa using hb),l5⟩
  ·rintro c st' ⟨rfl,l,r,rfl,l1,l2,l3,l4,l5⟩;have:l=r:=by omega
   subst this;exact⟨rfl,l,rfl,l2,l4,l5⟩
  ·rintro c st' ⟨rfl,l,rfl,l2,l4,l5⟩;dsimp only;refine wpS_bind (wpS_modify (wpS_pure ⟨_,rfl,rfl,K.trans (jrV @0 @0 @0 @0),?_⟩))
   show Up lt (bubble b (lo+k) (lo+k - (lo+l))) lo (lo+(k+1));intro i j a1 a2 a3;have e:=jrU (a:=b) (src:=lo+k) (d:=lo+k - (lo+l)) @0 @0
   have e2:lo+k - (lo+k - (lo+l))=lo+l:=by omega
   rw[e2]at e;have low:∀t,lo<=t->t<lo+l->Le lt (el b t) (el b (lo+k)):=fun t t1 t2=>by have:=l4 (t - lo) @0;rwa [show lo+(t - lo)=t by omega]at this
   have top:∀t,lo+l<=t->t<lo+k->Le lt (el b (lo+k)) (el b t):=fun t t1 t2=>by have:=O.asym _ _ (l5 (t - lo) @0 @0);rwa [show lo+(t - lo)=t by omega]at this
   rw[e i,e j];by_cases i1:i=lo+l
   ·rw[if_pos i1];by_cases j1:j=lo+l
    ·rw[if_pos j1];exact O.refl _
    ·rw[if_neg j1,if_pos @0]
     exact top _ @0 @0
   ·rw[if_neg i1];by_cases j1:j=lo+l
    ·rw[if_pos j1,if_neg @0]
     exact low i a1 @0
    ·rw[if_neg j1];by_cases i2:lo+l<i/\i<=lo+k
     ·rw[if_pos i2,if_pos @0]
      exact Ub _ _ @0 @0 @0
     ·rw[if_neg i2];by_cases j2:lo+l<j/\j<=lo+k
      ·rw[if_pos j2];exact Ub _ _ a1 @0 @0
      ·rw[if_neg j2];exact Ub _ _ a1 a2 @0
 ·rintro c st' ⟨b,rfl,rfl,K,Ub⟩;rw[show max (max ok 1) n=n by omega]at Ub
  exact⟨b,rfl,rfl,K,Ub⟩
 ·rintro c st' ⟨b,rfl,rfl,K,Ub⟩;exact wpS_pure (h b K Ub)
end
end KG
namespace KG
open PySem PyProof.Rows
section
variable {prog:Program}{w:World}{A:Around}{E:Value->Shared->Prop}{s:Shared}{κ:SortKind}{P:Keyed->Prop}{lt:Keyed->Keyed->Bool}{a b c:Array Keyed}{p:Array (Nat×Nat×Nat)}{g lo hi i j n k:Nat}
noncomputable def Rn (lt:Keyed->Keyed->Bool)(a:Array Keyed):List (Nat×Nat×Nat)->Nat->Nat->Prop
 |[],b,e=>b=e
 |q::r,b,e=>q.1=b/\1<=q.2.1/\Up lt a b (b+q.2.1)/\Rn lt a r (b+q.2.1) e
theorem Rn.app {l1 l2:List (Nat×Nat×Nat)}:∀{b e:Nat},Rn lt a (l1++l2) b e↔∃m,Rn lt a l1 b m/\Rn lt a l2 m e:=by
 induction l1 with
 |nil=>intro b e;exact⟨fun h=>⟨b,rfl,h⟩,fun ⟨m,h1,h2⟩=>by cases h1;exact h2⟩
 |cons q r ih=>
  intro b e;constructor
  ·rintro⟨h1,h2,h3,h4⟩;obtain⟨m,m1,m2⟩:=ih.mp h4;exact⟨m,⟨h1,h2,h3,m1⟩,m2⟩
  ·rintro⟨m,⟨h1,h2,h3,m1⟩,m2⟩;exact⟨h1,h2,h3,ih.mpr ⟨m,m1,m2⟩⟩
theorem Rn.len {l:List (Nat×Nat×Nat)}:∀{b e:Nat},Rn lt a l b e->b+l.length<=e:=by
 induction l with
 |nil=>intro b e h;exact Nat.le_of_eq h
 |cons q r ih=>rintro b e ⟨h1,h2,h3,h4⟩;have:=ih h4;rw[jtR];omega
theorem Up.of (h:Up lt a lo hi)(e:∀t,lo<=t->t<hi->b[t]?=a[t]?):Up lt b lo hi:=fun i j a1 a2 a3=>by
 rw[jfB (e i a1 @0),jfB (e j @0 a3)];exact h i j a1 a2 a3
theorem Rn.of {l:List (Nat×Nat×Nat)}:∀{lo hi:Nat},Rn lt a l lo hi->(∀t,lo<=t->t<hi->b[t]?=a[t]?)->Rn lt b l lo hi:=by
 induction l with
 |nil=>intro lo hi h e;exact h
 |cons q r ih=>
  rintro lo hi ⟨h1,h2,h3,h4⟩ e;have:=Rn.len h4;exact⟨h1,h2,h3.of fun t t1 t2=>e t t1 @0,ih h4 fun t t1 t2=>e t @0 t2⟩
theorem jp7 (O:Od lt)(h:Seg lt a lo hi)(hh:hi<=a.size):Up lt a lo hi:=fun i j a1 a2 a3=>by
 rw[el_eq @0,el_eq @0];exact h.le O @0 a2 a1 a3
theorem jmE (C:Cmp prog w A s κ P lt)(hP:∀u∈a,P u){e:Nat}(hR:Rn lt a p.toList 0 e)(he:e<=a.size)(hi:i+1<p.size){Q:Bool->SortSt->Prop}
  (h:∀b p' g',Kp a b 0 e->Rn lt b p'.toList 0 e->p'.size+1=p.size->Q true (St κ b p' g')):wpS @2 A E s (mergeAt' i) Q (St κ a p g):=by
 have O:=C.od;obtain⟨⟨sa,na,pw⟩,h1⟩:∃q,p[i]?=some q:=⟨_,getElem?_pos p i @0⟩
 obtain⟨⟨sb,nb,pw2⟩,h2⟩:∃q,p[i+1]?=some q:=⟨_,getElem?_pos p (i+1) hi⟩;have l1:p.toList[i]?=some (sa,na,pw):=by rw[Array.getElem?_toList];exact h1
 have l2:p.toList[i+1]?=some (sb,nb,pw2):=by rw[Array.getElem?_toList];exact h2
 have el:p.toList=p.toList.take i++((sa,na,pw)::(sb,nb,pw2)::p.toList.drop (i+2)):=by
  have hi1:i<p.toList.length:=by simp;omega
  have hi2:i+1<p.toList.length:=by simpa using hi
  rw[jtH hi1]at l1;rw[jtH hi2]at l2;rw[<-Option.some.inj l1,<-Option.some.inj l2,<-List.drop_eq_getElem_cons hi2,<-List.drop_eq_getElem_cons hi1,List.take_append_drop]
 have tl:(p.toList.take i).length=i:=by rw[List.length_take,Array.length_toList];omega
 rw[el]at hR;obtain⟨m,r1,r2,r3,r4,r5,r6,r7,r8⟩:=Rn.app.mp hR;simp only at r2 r3 r4 r5 r6 r7 r8;have rl:=Rn.len r8;have rl1:=Rn.len r1;refine jiQ C hP h1 h2 @0 r3 r6 @0 (by rw[r5,r2];exact r4.seg) (by rw[r5];exact r7.seg) fun b g' pm ot sg=>?_
 have sz:=pm.size_eq;have e2:((p.setIfInBounds i (sa,na+nb,pw)).eraseIdxIfInBounds (i+1)).toList=p.toList.take i++((sa,na+nb,pw)::p.toList.drop (i+2)):=by
  rw[Array.toList_eraseIdxIfInBounds,Array.toList_setIfInBounds];conv=>lhs;rw[el]
  rw[List.set_append_right _ _ @0,tl,Nat.sub_self,List.set_cons_zero,List.eraseIdx_append_of_length_le @0,tl,show i+1 - i=1 by omega]
  rfl
 refine h b _ g' ⟨pm,fun t ht=>ot t @0⟩ ?_ ?_
 ·rw[e2];refine Rn.app.mpr ⟨m,r1.of fun t _ t2=>ot t @0,r2,by show 1<=na+nb;omega,?_,?_⟩
  ·show Up lt b m (m+(na+nb));have:=jp7 O sg @0
   rwa [r2,show sb+nb=m+(na+nb)by omega]at this
  ·show Rn lt b _ (m+(na+nb)) e;rw[show m+(na+nb)=m+na+nb by omega]
   exact r8.of fun t t1 _=>ot t @0
 ·rw[<-Array.length_toList,e2,jtV,tl,jtR,List.length_drop,Array.length_toList];omega
theorem Rn.pw {f:Nat×Nat×Nat->Nat×Nat×Nat}(hf:∀q,(f q).1=q.1/\(f q).2.1=q.2.1){l:List (Nat×Nat×Nat)}:∀{k lo hi:Nat},Rn lt a l lo hi->Rn lt a (l.modify k f) lo hi:=by
 induction l with
 |nil=>intro k lo hi h;cases k <;> exact h
 |cons q r ih=>
  rintro k lo hi ⟨h1,h2,h3,h4⟩;cases k with
  |zero=>exact⟨(hf q).1.trans h1,by rw[(hf q).2];exact h2,by rw[(hf q).2];exact h3,by rw[(hf q).2];exact h4⟩
  |succ k=>exact⟨h1,h2,h3,ih h4⟩
theorem Kp.up (K:Kp a b lo hi){lo' hi':Nat}(h1:lo'<=lo)(h2:hi<=hi'):Kp a b lo' hi':=⟨K.perm,fun t ht=>K.out t @0⟩
theorem jnC {α:Type}{c:Prop}[Decidable c]{m1 m2:StateT SortSt Sem α}{Q:α->SortSt->Prop}{st:SortSt}(h1:c->wpS @2 A E s m1 Q st)(h2:¬c->wpS @2 A E s m2 Q st):wpS @2 A E s (if c then m1 else m2) Q st:=by
 split
 ·exact h1 (by assumption)
 ·exact h2 (by assumption)
theorem Rn.push {q:Nat×Nat×Nat}{p:Array (Nat×Nat×Nat)}(h:Rn lt a p.toList 0 lo)(h1:q.1=lo)(h2:1<=q.2.1)(U:Up lt a lo (lo+q.2.1)):Rn lt a (p.push q).toList 0 (lo+q.2.1):=by
 rw[Array.toList_push];exact Rn.app.mpr ⟨lo,h,h1,h2,U,rfl⟩
theorem jp8 {c:Prop}[Decidable c]{k:Nat}(h:1<k):(if c then k - 2 - 1 else k - 2)+1<k:=by split <;> omega
theorem r_sort (C:Cmp prog w A s κ P lt)(hP:∀u∈a,P u){Q:Unit->SortSt->Prop}(h:∀b p' g',b.Perm a->Up lt b 0 b.size->Q () (St κ b p' g')):wpS @2 A E s sortRuns' Q (St κ a #[] g):=by
 have O:=C.od;refine wpS_bind (wpS_get ?_);dsimp only;refine wpS_bind (wpS_mono (wpS_forRange (I:=fun t c st'=>∃b p' g' lo,st'=St κ b p' g'/\c=(none,lo)/\b.Perm a/\Rn lt b p'.toList 0 lo/\lo<=a.size/\t<=lo) (Q:=fun c st'=>∃b p' g',st'=St κ b p' g'/\c=(none,a.size)/\b.Perm a/\Rn lt b p'.toList 0 a.size) ?_ ?_ ⟨a,#[],g,0,rfl,rfl,Array.Perm.refl _,rfl,Nat.zero_le _,jul _⟩) ?_)
 ·rintro t c st' - ht ⟨b,p',g',lo,rfl,rfl,pm,hR,l1,l2⟩;dsimp only;have sz:=pm.size_eq;have hPb:∀u∈b,P u:=fun u hu=>hP u (pm.mem_iff.mp hu);by_cases hl:lo>=a.size
  ·rw[if_pos hl];have:lo=a.size:=by omega
   subst this;exact wpS_pure ⟨b,p',g',rfl,rfl,pm,hR⟩
  rw[if_neg hl];refine wpS_bind (jnB C hPb @0 @0 fun n d n1 n2 K U=>?_)
  dsimp only;refine jnC (fun hn=>?_) fun hn=>?_;focus
   refine wpS_bind (jdJ ?_);refine wpS_bind (jrW C (K.all hPb) n1 @0 (by have:=K.perm.size_eq;omega) U fun d2 Kx U2=>?_)
   rw[if_neg @11]
   have K2:Kp b d2 lo a.size:=(K.up (jul _) @0).trans (Kx.up (jul _) @0)
  rotate_left
  focus
   obtain⟨d2,hd⟩:∃d2,d2=d:=⟨_,rfl⟩;subst hd;have U2:=U;have K2:Kp b d2 lo a.size:=K.up (jul _) @0
  all_goals
   refine wpS_bind (wpS_get ?_);have pm2:=K2.perm.trans pm;have hR2:Rn lt d2 p'.toList 0 lo:=hR.of fun t _ t2=>K2.out t (.inl t2);have sz2:=pm2.size_eq;dsimp only;rcases hb:p'.back? with _ | ⟨s1,n1',z⟩
   ·dsimp only;exact wpS_bind (wpS_modify (wpS_pure ⟨d2,_,g',_,rfl,rfl,pm2,hR2.push rfl (by dsimp only;omega) U2,by omega,by omega⟩))
   ·dsimp only;refine wpS_bind (wpS_mono (wpS_forRange (I:=fun _ c st'=>∃b2 p2 g2,st'=St κ b2 p2 g2/\c=(none,())/\Kp d2 b2 0 lo/\Rn lt b2 p2.toList 0 lo) (Q:=fun c st'=>∃b2 p2 g2,st'=St κ b2 p2 g2/\c=(none,())/\Kp d2 b2 0 lo/\Rn lt b2 p2.toList 0 lo) ?_ (fun c st' h=>h) ⟨d2,p',g',rfl,rfl,Kp.refl,hR2⟩) ?_)
    ·rintro t2 c st2 - ht2 ⟨b2,p2,g2,rfl,rfl,K3,R3⟩;refine wpS_bind (wpS_get ?_);dsimp only;by_cases hp:p2.size>1
     ·obtain⟨⟨q1,q2,older⟩,hq⟩:∃q,p2[p2.size - 2]?=some q:=⟨_,getElem?_pos p2 _ @0⟩
      rw[if_pos hp,hq];dsimp only;refine jnC (fun _=>wpS_pure ⟨b2,p2,g2,rfl,rfl,K3,R3⟩) fun _=>?_;have sz3:=K3.perm.size_eq;refine wpS_bind (jmE C (K3.all (K2.all hPb)) R3 @0 @0 fun b3 p3 g3 K4 R4 s3=>?_)
      rw[if_neg @11]
      exact wpS_pure ⟨b3,p3,g3,rfl,rfl,K3.trans K4,R4⟩
     ·rw[if_neg hp];exact wpS_pure ⟨b2,p2,g2,rfl,rfl,K3,R3⟩
    ·rintro c st2 ⟨b2,p2,g2,rfl,rfl,K3,R3⟩;dsimp only;refine wpS_bind (wpS_modify (wpS_bind (wpS_modify (wpS_pure ⟨b2,_,g2,_,rfl,rfl,K3.perm.trans pm2,Rn.push (by rw[Array.toList_modify];refine Rn.pw ?_ R3;exact fun q=>⟨rfl,rfl⟩) rfl (by dsimp only;omega) (U2.of fun t t1 _=>K3.out t (.inr t1)),by omega,by omega⟩))))
 ·rintro c st' ⟨b,p',g',lo,rfl,rfl,pm,hR,l1,l2⟩;have:lo=a.size:=by omega
  subst this;exact⟨b,p',g',rfl,rfl,pm,hR⟩
 ·rintro c st' ⟨b,p',g',rfl,rfl,pm,hR⟩;dsimp only;have l0:=Rn.len hR;rw[Array.length_toList]at l0;refine wpS_bind (wpS_mono (wpS_forRange (I:=fun t c st'=>∃b2 p2 g2,st'=St κ b2 p2 g2/\c=(none,())/\b2.Perm a/\Rn lt b2 p2.toList 0 a.size/\(p2.size<=1\/p2.size+t<=a.size)) (Q:=fun c st'=>∃b2 p2 g2,st'=St κ b2 p2 g2/\c=(none,())/\b2.Perm a/\Rn lt b2 p2.toList 0 a.size/\p2.size<=1) ?_ ?_ ⟨b,p',g',rfl,rfl,pm,hR,.inr @0⟩) ?_)
  ·rintro t2 c st2 - ht2 ⟨b2,p2,g2,rfl,rfl,pm2,R2,hp⟩;refine wpS_bind (wpS_get ?_);dsimp only;refine jnC (fun h1=>wpS_pure ⟨b2,p2,g2,rfl,rfl,pm2,R2,h1⟩) fun h1=>?_;have h1:1<p2.size:=Nat.lt_of_not_le h1;refine wpS_bind (jmE C (fun u hu=>hP u (pm2.mem_iff.mp hu)) R2 (Nat.le_of_eq pm2.size_eq.symm) (jp8 h1) fun b3 p3 g3 K4 R4 s3=>?_);rw[if_neg @11]
   exact wpS_pure ⟨b3,p3,g3,rfl,rfl,K4.perm.trans pm2,R4,by omega⟩
  ·rintro c st2 ⟨b2,p2,g2,rfl,rfl,pm2,R2,hp⟩;exact⟨b2,p2,g2,rfl,rfl,pm2,R2,by omega⟩
  ·rintro c st2 ⟨b2,p2,g2,rfl,rfl,pm2,R2,hp⟩;refine wpS_pure (h b2 p2 g2 pm2 ?_);rw[pm2.size_eq];rw[<-Array.length_toList]at hp;match hl:p2.toList,R2,hp with
   |[],R2,_=>
    have R2:0=a.size:=R2;exact fun i j a1 a2 a3=>by omega
   |[q],R2,_=>
    obtain⟨r1,r2,r3,r4⟩:=R2;have r4:0+q.2.1=a.size:=r4;rwa [r4]at r3
end
end KG
namespace HS
open PySem
noncomputable def g:Nat->Nat->Nat
 |0,a=>a
 |n+1,a=>5 * g n a+1
noncomputable abbrev lp (mask i p:Nat):Nat×Nat:=SetTable.leap mask i p
noncomputable def run (mask i:Nat):List Nat:=(List.range (SetTable.runEnd mask i+1 - i)).map (i + ·)
noncomputable def pth (mask:Nat):Nat->Nat->Nat->List Nat
 |0,_,_=>[]
 |N+1,i,p=>run mask i++pth mask N (lp mask i p).1 (lp mask i p).2
noncomputable def it (mask:Nat):Nat->Nat×Nat->Nat×Nat
 |0,s=>s
 |n+1,s=>it mask n (lp mask s.1 s.2)
end HS
namespace HS
open PySem
noncomputable def lst (mask:Nat)(p:SetTable.Probe)(N:Nat):List Nat:=(List.range (p.more+1)).map (p.j + ·)++pth mask N (lp mask p.i p.perturb).1 (lp mask p.i p.perturb).2
end HS
namespace HS
open PySem
end HS
namespace HS
open PySem PySem.Spec PyProof.Rows L2
noncomputable def tkz (prog:Program)(w:World)(Z:List Int->Addr->Prop):HeapKind prog w @9 where
 is:=fun h k a=>(tupleKind (intKind prog w)).is h k a/\Z k a
 hash:=(tupleKind (intKind prog w)).hash
 draws:=(tupleKind (intKind prog w)).draws
 room:=(tupleKind (intKind prog w)).room
 inj:=fun h1 h2=>(tupleKind (intKind prog w)).inj h1.1 h2.1
 keeps:=fun h1 h2 h3 h4=>⟨(tupleKind (intKind prog w)).keeps h1.1 h2 h3 h4,h1.2⟩
 pyHash:=fun h1 h2 q=>(tupleKind (intKind prog w)).pyHash h1 h2.1 q
 eqBool:=fun h1 h2 h3 q=>(tupleKind (intKind prog w)).eqBool h1 h2.1 h3.1 q
 quiet:=fun h1 q=>(tupleKind (intKind prog w)).quiet h1.1 q
section
variable {prog:Program}{w:World}{Z:List Int->Addr->Prop}{A:Around}{E:Value->Shared->Prop}{s:Shared}
noncomputable def El (prog:Program)(w:World)(Z:List Int->Addr->Prop)(h:Heap)(k:List Int)(e:Int×Value):Prop:=∃b,e=((tkz prog w Z).hash k,.ref b)/\(tkz prog w Z).is h k b
end
end HS
namespace HS
open PySem PySem.Spec PyProof.Rows L2
section
variable {prog:Program}{w:World}{Z:List Int->Addr->Prop}{A:Around}{E:Value->Shared->Prop}{s:Shared}
end
end HS
namespace HS
open PySem PySem.Spec PyProof.Rows L2
section
variable {prog:Program}{w:World}{Z:List Int->Addr->Prop}{A:Around}{E:Value->Shared->Prop}{s:Shared}
theorem jlc {h h':Heap}{k:List Int}{b:Addr}(hb:(tkz prog w Z).is h k b)(e:∀o,h.get? b=some o->h'.get? b=some o):(tkz prog w Z).is h' k b:=by
 obtain⟨⟨o,items,n,h1,h2⟩,z⟩:=hb;exact⟨⟨o,items,n,e o h1,h2⟩,z⟩
end
end HS
namespace HS
open PySem PySem.Spec PyProof.Rows L2
section
variable {prog:Program}{w:World}{Z:List Int->Addr->Prop}{A:Around}{E:Value->Shared->Prop}{s:Shared}
theorem items_int {ks:List Int}{vs:List Value}(h:PySem.ItemsAre (intKind prog w) ks vs):∀v∈vs,∃i t,v=Value.int i t:=by
 induction h with
 |nil=>intro v hv;cases hv
 |cons hk _ ih=>
  intro v hv;rcases List.mem_cons.mp hv with rfl | hv
  ·rename_i k _ _ _;have hk:Value.isInt k v=true:=hk;cases v <;> simp[Value.isInt]at hk
   exact⟨_,_,rfl⟩
  ·exact ih v hv
end
end HS
namespace HS
open PySem PySem.Spec PyProof.Rows L2
end HS
namespace HS
open PySem PySem.Spec PyProof.Rows L2
section
variable {prog:Program}{w:World}{Z:List Int->Addr->Prop}{A:Around}{E:Value->Shared->Prop}{s:Shared}
end
end HS
namespace HS
open PySem PySem.Spec PyProof.Rows L2
section
variable {prog:Program}{w:World}{Z:List Int->Addr->Prop}{A:Around}{E:Value->Shared->Prop}{s:Shared}
end
end HS
namespace HS
open PySem PySem.Spec PyProof.Rows L2
noncomputable def lx:List Int->List Int->Bool
 |[],[]=>false
 |[],_::_=>true
 |_::_,[]=>false
 |x::xs,y::ys=>if x=y then lx xs ys else decide (x<y)
theorem jfC:∀{a b:List Int},lx a b=true->lx b a=false
 |[],[],h=>by simp[lx]at h
 |[],_::_,_=>rfl
 |_::_,[],h=>by simp[lx]at h
 |x::xs,y::ys,h=>by
  simp only[lx]at h ⊢;by_cases e:x=y
  ·rw[if_pos e]at h;rw[if_pos e.symm];exact jfC h
  ·rw[if_neg e]at h;rw[if_neg (Ne.symm e)];simp at h ⊢;omega
theorem jiR:∀{a b:List Int},lx a b=false->lx b a=false->a=b
 |[],[],_,_=>rfl
 |[],_::_,h,_=>by simp[lx]at h
 |_::_,[],_,h=>by simp[lx]at h
 |x::xs,y::ys,h,h'=>by
  simp only[lx]at h h';by_cases e:x=y
  ·rw[if_pos e]at h;rw[if_pos e.symm]at h';rw[e,jiR h h']
  ·rw[if_neg e]at h;rw[if_neg (Ne.symm e)]at h';simp at h h';omega
theorem jd1:∀{a b c:List Int},lx b a=false->lx c b=false->lx c a=false
 |[],_,[],_,_=>rfl
 |[],_,_::_,_,_=>rfl
 |_::_,[],_,h,_=>by simp[lx]at h
 |x::xs,y::ys,[],_,h'=>by simp[lx]at h'
 |x::xs,y::ys,z::zs,h,h'=>by
  simp only[lx]at h h' ⊢;by_cases e:y=x
  ·rw[if_pos e]at h;subst e;by_cases e2:z=y
   ·rw[if_pos e2]at h' ⊢;exact jd1 h h'
   ·rw[if_neg e2]at h' ⊢;exact h'
  ·rw[if_neg e]at h;by_cases e2:z=y
   ·rw[if_pos e2]at h';subst e2;rw[if_neg e];exact h
   ·rw[if_neg e2]at h';simp at h h';rw[if_neg @0];simp;omega
section
variable {prog:Program}{w:World}{Z:List Int->Addr->Prop}{A:Around}{E:Value->Shared->Prop}{s:Shared}
theorem jld {fin:Bool}{Q:Bool->Shared->Prop}:∀{xs ys:List Int}{us vs:List Value} (i:Nat),PySem.ItemsAre (intKind prog w) xs us->PySem.ItemsAre (intKind prog w) ys vs->fin=decide (xs.length<ys.length)->Q (lx xs ys) s->W.KatLex prog w A true fin Q (us.zip vs) i s:=by
 intro xs ys us vs i hx;induction hx generalizing ys vs i with
 |nil=>
  intro hy hf q;cases hy with
  |nil=>exact W.kat_nil (by rw[hf];exact q)
  |cons _ _=>exact W.kat_nil (by rw[hf];exact q)
 |@cons x u xs us hu pu ih=>
  intro hy hf q;cases hy with
  |nil=>exact W.kat_nil (by rw[hf];exact q)
  |@cons y v ys vs hv pv=>
  have hu:Value.isInt x u=true:=hu;have hv:Value.isInt y v=true:=hv;obtain⟨t,rfl⟩:∃t,u=.int x t:=by cases u <;> simp[Value.isInt]at hu;rw[hu];exact⟨_,rfl⟩
  obtain⟨t',rfl⟩:∃t,v=.int y t:=by cases v <;> simp[Value.isInt]at hv;rw[hv];exact⟨_,rfl⟩
  rw[List.zip_cons_cons];refine W.kat_cons (wpAny_eqBool_int ?_);by_cases e:x=y
  ·have:(x==y)=true:=by simpa using e
   rw[this];refine W.kat_yes (ih (i+1) pv (by rw[hf];simp) ?_)
   simp only[lx,if_pos e]at q;exact q
  ·have:(x==y)=false:=by simpa using e
   rw[this];simp only[lx,if_neg e]at q;refine W.kat_no ?_;by_cases hi:i=0
   ·subst hi;exact oneLt_int q
   ·have:(true&&i==0)=false:=by simp[hi]
    rw[this];exact W.kat_one _ _ (lt_int q)
theorem jp9 {b:Bool}{x y:Addr}{kx ky:List Int}{Q:Bool->Shared->Prop}(hx:(tkz prog w Z).is s.heap kx x)(hy:(tkz prog w Z).is s.heap ky y)(q:Q (lx kx ky) s):wpAny @2 A (keyLt' (tuples' true) (.ref x) (.ref y)) Q E s:=by
 obtain⟨⟨ox,ix,nx,h1,h2,h3,h4⟩,_⟩:=hx;obtain⟨⟨oy,iy,ny,g1,g2,g3,g4⟩,_⟩:=hy;refine W.kat_lt h1 h3 g1 g3 (jld 0 h4 g4 ?_ q);have l:∀{ks:List Int}{vs:List Value},PySem.ItemsAre (intKind prog w) ks vs->ks.length=vs.length:=fun {ks vs} h=>by
  induction h with
  |nil=>rfl
  |cons _ _ ih=>simp[ih]
 have:=l h4;have:=l g4;simp at *;rw[show ix.size=kx.length by omega,show iy.size=ky.length by omega]
theorem jle {h:Heap}:∀{kss:List @9}{vs:List Value},Paired (fun k v=>∃b,v=Value.ref b/\(tkz prog w Z).is h k b) kss vs->(∀k∈kss,k≠[])->∃fs,W.KatTups h vs fs/\fs.length=vs.length/\∀f∈fs,∃i t,f=Value.int i t:=by
 intro kss vs p;induction p with
 |nil=>intro _;exact⟨[],by rw[W.KatTups.eq_1];trivial,rfl,fun _ h=>by cases h⟩
 |@cons k _ kss vs hd p ih=>
  intro hk;obtain⟨b,e,⟨o,items,n,h1,h2,h3,h4⟩,_⟩:=hd;obtain⟨fs,g1,g2,g3⟩:=ih fun k' hk'=>hk k' (jtI _ hk');have hne:=hk k jtJ;cases k with
  |nil=>exact absurd rfl hne
  |cons a ks=>
   generalize hl:items.toList=l at h4;cases h4 with
   |cons hv hr=>
    rename_i v l;refine⟨v::fs,?_,by simp[g2],fun f hf=>?_⟩
    ·rw[W.KatTups.eq_2];exact⟨⟨b,o,items,n,e,h1,h2,h3,by rw[<-Array.getElem?_toList,hl];rfl⟩,g1⟩
    ·rcases List.mem_cons.mp hf with rfl | hf
     ·have hv:Value.isInt a f=true:=hv;cases f <;> simp[Value.isInt]at hv
      exact⟨_,_,rfl⟩
     ·exact g3 f hf
noncomputable def keyOf (h:Heap):Value->List Int
 |.ref b=>match h.get? b with
  |some o=>match o.data with
   |.seq items _=>items.toList.map numOf
   |_=>[]
  |none=>[]
 |_=>[]
theorem jqa {h:Heap}{k:List Int}{b:Addr}(hb:(tkz prog w Z).is h k b):keyOf h (.ref b)=k:=by
 obtain⟨⟨o,items,nn,h1,h2,h3,h4⟩,zz⟩:=hb;clear zz;unfold keyOf;dsimp only;rw[h1];dsimp only;rw[h3];dsimp only;generalize items.toList=vs at h4;induction h4 with
 |nil=>rfl
 |cons hv _ ih=>
  rw[jtO,ih];congr 1;rename_i _ v _ _ _;have hv:Value.isInt _ v=true:=hv;cases v <;> simp[Value.isInt]at hv
  exact hv
theorem jiS {h:Heap}:∀{vs:List Value},(∀v∈vs,∃b,v=Value.ref b/\(tkz prog w Z).is h (keyOf h v) b)->Paired (fun k v=>∃b,v=Value.ref b/\(tkz prog w Z).is h k b) (vs.map (keyOf h)) vs
 |[],_=>.nil
 |v::vs,hv=>.cons (hv v jtJ) (jiS fun u hu=>hv u (jtI _ hu))
theorem jgq {h:Heap}{kss:List @9}{vs:List Value}(K:Paired (fun k v=>∃b,v=Value.ref b/\(tkz prog w Z).is h k b) kss vs):vs.map (keyOf h)=kss/\∀v∈vs,∃b,v=Value.ref b/\(tkz prog w Z).is h (keyOf h v) b:=by
 induction K with
 |nil=>exact⟨rfl,fun v hv=>absurd hv jt7⟩
 |cons hx _ ih=>
  obtain⟨b,rfl,hb⟩:=hx;have e:=jqa hb;exact⟨by rw[jtO,ih.1,e],fun v hv=>(List.mem_cons.mp hv).elim (fun z=>by subst z;exact⟨b,rfl,by rw[e];exact hb⟩) (ih.2 v)⟩
theorem jlf {h h':Heap}{kss kss':List @9}{vs vs':List Value}(K:Paired (fun k v=>∃b,v=Value.ref b/\(tkz prog w Z).is h k b) kss vs)(K1:Paired (fun k v=>∃b,v=Value.ref b/\(tkz prog w Z).is h' k b) kss vs)(p:vs'.Perm vs)(K2:Paired (fun k v=>∃b,v=Value.ref b/\(tkz prog w Z).is h' k b) kss' vs'):Paired (fun k v=>∃b,v=Value.ref b/\(tkz prog w Z).is h k b) kss' vs':=by
 obtain⟨e,hv⟩:=jgq K;have e1:=List.map_inj_left.mp (e.trans (jgq K1).1.symm);rw[<-(jgq K2).1,<-List.map_congr_left fun v hv'=>e1 v (p.mem_iff.mp hv')];exact jiS fun v hv'=>hv v (p.mem_iff.mp hv')
theorem jgr:∀vs:List Value,vs.zip vs=vs.map fun v=>(v,v)
 |[]=>rfl
 |x::r=>by rw[List.zip_cons_cons,jgr r];rfl
theorem jlg {D:Addr}{vs:List Value}{n:Nat}{kss:List @9}{P:PySem.Fin->Shared->Prop}(hD:s.heap.get? D=some (seqObj "list" vs.toArray n))(h2:2<=vs.length)(hsl:vs.length<=sizeLine)
  (hK:Paired (fun k v=>∃b,v=Value.ref b/\(tkz prog w Z).is s.heap k b) kss vs) (hk0:∀k∈kss,k≠[])
  (q:∀(h':Heap) (c:Nat) (kss':List @9) (vs':List Value),vs'.Perm vs->kss'.Perm kss->kss'.Pairwise (fun a b=>lx b a=false)->Paired (fun k v=>∃b,v=Value.ref b/\(tkz prog w Z).is s.heap k b) kss' vs'->h'.get? D=some (W.listOf vs'.toArray c)->(∀b o,b≠D->s.heap.get? b=some o->h'.get? b=some o)->P (Fin.done (Flow.ret Value.none)) { s with heap:=h' }) :
  wpAny @2 A (Builtin.«list.sort» { pos:=[.ref D] }) P E s:=by
 have hsl':vs.toArray.size<=sizeLine:=by simpa using hsl
 have nD:∀{b:Addr}{k:List Int},(tkz prog w Z).is s.heap k b->b≠D:=fun {b k} ⟨⟨o,items,nn,h1,h2,h3,_⟩,_⟩ z=>by
  rw[z,hD]at h1;cases h1;exact absurd h2 (by intro z;injection z with z;exact absurd z (by decide))
 rw[list_sort_plain];refine jt8 ?_;unfold Builtin.List.listItems;refine jt8 (wpAny_seqItems hD rfl (jt9 ?_));refine jt8 (listUpdate_at hD rfl ?_ hsl' @11)
 have u1:=juj (Obj.mapSeq fun _=>(#[]:Array Value)) hD rfl;refine jt8 (seqEpoch_at u1 rfl ?_);refine jt8 (wpAny_newTuple ?_ (by simpa using hsl'))
 refine jt8 (wpAny_newList ?_ @11)
 refine jud ?_;have u2:=jug { cls:=Value.type "list",data:=Data.seq ([]:List Value).toArray } (jug { cls:=Value.type "tuple",data:=Data.seq vs.toArray.toList.toArray } u1);have kept:∀b o,b≠D->s.heap.get? b=some o->(((s.heap.update D (Obj.mapSeq fun _=>(#[]:Array Value))).push { cls:=Value.type "tuple",data:=Data.seq vs.toArray.toList.toArray }).push { cls:=Value.type "list",data:=Data.seq ([]:List Value).toArray }).get? b=some o:=fun b o hb e=>jug _ (jug _ ((juk _ _ (Ne.symm hb)).trans e));generalize ((s.heap.update D (Obj.mapSeq fun _=>(#[]:Array Value))).push { cls:=Value.type "tuple",data:=Data.seq vs.toArray.toList.toArray }).push { cls:=Value.type "list",data:=Data.seq ([]:List Value).toArray }=h6 at u2 kept;have hlt:¬ vs.toArray.size < 2:=by rw[jtL];omega
 rw[if_neg hlt,if_neg hlt];have hK':Paired (fun k v=>∃b,v=Value.ref b/\(tkz prog w Z).is h6 k b) kss vs:=Paired.mapP hK fun k v ⟨b,e,hb⟩=>⟨b,e,jlc hb fun o z=>kept b o (nD hb) z⟩;obtain⟨fs,hfs,hfl,hfi⟩:=jle hK' hk0;refine jt8 (W.kat_kind (s:={ heap:=h6,gens:=s.gens,drawn:=s.drawn,toks:=s.toks,os:=s.os }) (T:=.type "int") hfs @0 (fun v hv=>?_) (by decide) ?_)
 ·obtain⟨i,t,rfl⟩:=hfi v hv;intro A' Q' E' s' _ qq;exact wpAny_typeOf (T:="int") rfl qq
 obtain⟨ek,hv⟩:=jgq hK;have zl:(vs.toArray.zip vs.toArray).toList=vs.map fun v=>(v,v):=by
  rw[Array.toList_zip];exact jgr vs
 have hP:∀u∈vs.toArray.zip vs.toArray,∃b,u.1=Value.ref b/\u.2=u.1/\(tkz prog w Z).is s.heap (keyOf s.heap u.1) b:=fun u hu=>by
  have hu:u∈(vs.toArray.zip vs.toArray).toList:=Array.mem_toList_iff.mpr hu;rw[zl]at hu;obtain⟨v,v1,rfl⟩:=List.mem_map.mp hu;obtain⟨b,e,hb⟩:=hv v v1;exact⟨b,e,rfl,hb⟩
 refine jt8 (juf (KG.r_sort (s:={ heap:=h6,gens:=s.gens,drawn:=s.drawn,toks:=s.toks,os:=s.os }) (κ:=tuples' true) (g:=7) (P:=fun u=>∃b,u.1=Value.ref b/\u.2=u.1/\(tkz prog w Z).is s.heap (keyOf s.heap u.1) b) (lt:=fun u v=>lx (keyOf s.heap u.1) (keyOf s.heap v.1)) (Q:=fun _ st'=>∃b p' g',st'=KG.St (tuples' true) b p' g'/\b.Perm (vs.toArray.zip vs.toArray)/\KG.Up (fun u v=>lx (keyOf s.heap u.1) (keyOf s.heap v.1)) b 0 b.size)
  ⟨fun x y hx hy E' Q' q'=>?_,fun x y h=>jfC h,fun x y z h1 h2=>jd1 h1 h2⟩ hP fun b p' g' pm U=>⟨b,p',g',rfl,pm,U⟩) (fun r s' hr=>?_) fun _ _ e=>e)
 ·obtain⟨bx,e1,_,k1⟩:=hx;obtain⟨by',e2,_,k2⟩:=hy;rw[e1]at k1;rw[e2]at k2;rw[e1,e2]at q' ⊢;exact jp9 (b:=true) (jlc k1 fun o z=>kept bx o (nD k1) z) (jlc k2 fun o z=>kept by' o (nD k2) z) q'
 obtain⟨⟨⟩,st'⟩:=r;obtain⟨rfl,b,p',g',e,pm,U⟩:=hr;have e:st'=KG.St (tuples' true) b p' g':=e;subst e;have pl:=Array.perm_iff_toList_perm.mp pm;have bz:b.size=vs.length:=by rw[pm.size_eq,<-Array.length_toList,zl,jtQ]
 have hb:∀u∈b.toList,∃c,u.1=Value.ref c/\u.2=u.1/\(tkz prog w Z).is s.heap (keyOf s.heap u.1) c:=fun u hu=>hP u (pm.mem_iff.mp (Array.mem_toList_iff.mp hu));have vp:(b.toList.map (·.2)).Perm vs:=by
  have:=pl.map (·.2);rwa [zl,List.map_map,show ((fun x:Keyed=>x.2) ∘ fun v=>(v,v))=id from rfl,List.map_id]at this
 refine jt8 (seqEpoch_at u2 rfl ?_);refine jt8 (listUpdate_at u2 rfl ?_ (by simp[sizeLine_eq]) (by show (Array.map (fun x:Keyed=>x.2) b).size<=_;rw[Array.size_map,bz];omega))
 obtain⟨c,u3⟩:∃c,(h6.update D (Obj.mapSeq fun _=>Array.map (fun x:Keyed=>x.2) b)).get? D=some (W.listOf (b.toList.map (·.2)).toArray c):=by
  rw[show (b.toList.map (·.2)).toArray=Array.map (fun x:Keyed=>x.2) b by apply Array.ext';simp]
  exact⟨_,juj _ u2 rfl⟩
 refine jua @11 (jt9 ?_)
 refine q _ c ((b.toList.map (·.2)).map (keyOf s.heap)) (b.toList.map (·.2)) vp ?_ ?_ (jiS fun v hv'=>?_) u3 fun b' o hb' e=>(juk _ _ (Ne.symm hb')).trans (kept b' o hb' e)
 ·have:=vp.map (keyOf s.heap);rwa [ek]at this
 ·rw[List.map_map,List.pairwise_iff_getElem];intro i j hi hj hij;rw[jtQ]at hi hj;have:=U i j (Nat.zero_le _) (Nat.le_of_lt hij) (by simpa using hj)
  rw[KG.el_eq (by simpa using hi),KG.el_eq (by simpa using hj)]at this
  obtain⟨_,_,e1,_⟩:=hb b.toList[i] (List.getElem_mem hi);obtain⟨_,_,e2,_⟩:=hb b.toList[j] (List.getElem_mem hj);rw[List.getElem_map,List.getElem_map];show lx (keyOf s.heap b.toList[j].2) (keyOf s.heap b.toList[i].2)=false;rw[e1,e2];exact this
 ·obtain⟨u,hu,rfl⟩:=List.mem_map.mp hv';obtain⟨c,e1,e2,e3⟩:=hb u hu;rw[e2];exact⟨c,e1,e3⟩
theorem jfD {D:Addr}{vs:List Value}{n:Nat}{P:PySem.Fin->Shared->Prop}(hD:s.heap.get? D=some (seqObj "list" vs.toArray n))(h2:vs.length < 2)
  (q:∀(h':Heap) (c:Nat),h'.get? D=some (W.listOf vs.toArray c)->(∀b o,b≠D->s.heap.get? b=some o->h'.get? b=some o)->P (Fin.done (Flow.ret Value.none)) { s with heap:=h' }) :
  wpAny @2 A (Builtin.«list.sort» { pos:=[.ref D] }) P E s:=by
 have hsl:vs.toArray.size<=sizeLine:=by rw[sizeLine_eq];simp;omega
 rw[list_sort_plain];refine jt8 ?_;unfold Builtin.List.listItems;refine jt8 (wpAny_seqItems hD rfl (jt9 ?_));refine jt8 (listUpdate_at hD rfl ?_ hsl @11)
 have u1:=juj (Obj.mapSeq fun _=>(#[]:Array Value)) hD rfl;refine jt8 (seqEpoch_at u1 rfl ?_);refine jt8 (wpAny_newTuple ?_ (by simpa using hsl))
 refine jt8 (wpAny_newList ?_ @11)
 refine jud ?_;have hlt:vs.toArray.size<2:=by simpa using h2
 rw[if_pos hlt];refine jt8 (jt9 ?_);have hrun:((if vs.toArray.size<2 then pure ()else sortRuns').run (SortSt.mk' general' (vs.toArray.zip vs.toArray) #[] 7 none):Sem _)=pure ((),SortSt.mk' general' (vs.toArray.zip vs.toArray) #[] 7 none):=by
  rw[if_pos hlt];rfl
 refine jt8 (jub hrun ?_);have hs1:arrOf (SortSt.mk' general' (vs.toArray.zip vs.toArray) #[] 7 none)=vs.toArray.zip vs.toArray:=rfl;have hs2:failedOf (SortSt.mk' general' (vs.toArray.zip vs.toArray) #[] 7 none)=none:=rfl;have hsz:Array.map (fun x=>x.snd) (vs.toArray.zip vs.toArray)=vs.toArray:=by
  apply Array.ext';simp;clear hs1 hrun hlt u1 hsl q h2 hD;induction vs with
  |nil=>rfl
  |cons x r ih=>simp[ih]
 simp only[hs1,hs2,hsz];have u2:=jug { cls:=Value.type "list",data:=Data.seq ([]:List Value).toArray } (jug { cls:=Value.type "tuple",data:=Data.seq vs.toArray.toList.toArray } u1);refine jt8 (seqEpoch_at u2 rfl ?_);refine jt8 (listUpdate_at u2 rfl ?_ (by simp[sizeLine_eq]) (by simp at hsl ⊢;omega))
 have u3:=juj (Obj.mapSeq fun _=>vs.toArray) u2 rfl;refine jua @11 (jt9 ?_)
 refine q _ _ u3 fun b o hb e=>?_;exact(juk _ _ (Ne.symm hb)).trans (jug _ (jug _ ((juk _ _ (Ne.symm hb)).trans e)))
end
end HS
namespace HS
open PySem PySem.Spec PyProof.Rows L2
noncomputable def Rise (l:List @9):Prop:=l.Pairwise fun a b=>lx b a=false
theorem jcW:∀{l l':List @9},l.Perm l'->Rise l->Rise l'->l=l'
 |[],l',h,_,_=>(List.Perm.nil_eq h)
 |a::l,[],h,_,_=>by have:=h.length_eq;simp at this
 |a::l,b::l',h,h1,h2=>by
  have hab:a=b:=by
   have ha:a∈b::l':=h.mem_iff.mp jtJ;have hb:b∈a::l:=h.mem_iff.mpr jtJ;rcases List.mem_cons.mp ha with e | ha
   ·exact e
   ·rcases List.mem_cons.mp hb with e | hb
    ·exact e.symm
    ·exact jiR ((List.pairwise_cons.mp h2).1 a ha) ((List.pairwise_cons.mp h1).1 b hb)
  subst hab;rw[jcW (List.Perm.cons_inv h) (List.pairwise_cons.mp h1).2 (List.pairwise_cons.mp h2).2]
section
variable {prog:Program}{w:World}{Z:List Int->Addr->Prop}{A:Around}{E:Value->Shared->Prop}{s:Shared}
noncomputable abbrev Kys (prog:Program)(w:World)(Z:List Int->Addr->Prop)(h:Heap)(kss:List @9)(vs:List Value):Prop:=Paired (fun k v=>∃b,v=Value.ref b/\(tkz prog w Z).is h k b) kss vs
theorem jdL {x:Value}{L:Addr}{m:Str->Option Value}{vs:List Value}{kss:List @9}{Q:Value->Shared->Prop}(hL:s.heap.Ns L m)(hK:Kys prog w Z s.heap kss vs)(hk0:∀k∈kss,k≠[])(h64:vs.length<4000)
  (hcol:∀{Q':List Value->Shared->Prop},(∀s1:Shared,SubH s.heap s1.heap->s.heap.objs.size<=s1.heap.objs.size->s1.gens=s.gens->s1.os=s.os->Q' vs s1)->wpAny @2 A.in1 (collect x) Q' E s)
  (q:∀(s':Shared) (D:Addr) (c:Nat) (kss':List @9) (vs':List Value),s.heap.objs.size<=D->kss'.Perm kss->Rise kss'->Kys prog w Z s.heap kss' vs'->s'.heap.get? D=some (W.listOf vs'.toArray c)->s'.heap.Ns L m->(∀b o,b≠L->s.heap.get? b=some o->s'.heap.get? b=some o)->s'.gens=s.gens->s'.os=s.os->Q (.ref D) s') :
  wpAny @2 A (call (Value.builtin "sorted") [x]) Q E s:=by
 have hsl:vs.length<=sizeLine:=by rw[sizeLine_eq];omega
 refine Calls.call_function_entry kind_sorted plain_sorted entry_sorted (args_sorted1 x) ?_;unfold Builtin.sorted;refine jt8 (jt9 ?_);refine jt8 (hcol fun s1 k1 kz g1 o1=>?_);refine jt8 (wpAny_newList ?_ hsl);have hD:=jui s1.heap (o:=seqObj "list" vs.toArray 0) rfl;have hK1:Kys prog w Z (s1.heap.push (seqObj "list" vs.toArray 0)) kss vs:=Paired.mapP hK fun k v ⟨b,e,hb⟩=>⟨b,e,jlc hb fun o z=>jug _ (k1 b o z)⟩;have hL1:(s1.heap.push (seqObj "list" vs.toArray 0)).Ns L m:=by
  obtain⟨o,es,ep,e1,e2⟩:=hL;exact⟨o,es,ep,jug _ (k1 _ _ e1),e2⟩
 have hLD:s1.heap.objs.size≠L:=by
  obtain⟨o,es,ep,e1,e2⟩:=hL;exact Nat.ne_of_gt (juh (k1 _ _ e1))
 have hkl:kss.length=vs.length:=Paired.length hK;refine jt8 (jud (wpAny_call_entry slot_list_sort ⟨_,hD,rfl⟩ entry_list_sort ?_ (args_list_sort _)));by_cases h2:2<=vs.length
 ·refine jlg hD h2 hsl hK1 hk0 fun h' c kss' vs' hv hp hr hK2 e3 k3=>⟨_,rfl,jt9 ⟨_,rfl,?_⟩⟩;refine q { s1 with heap:=h' } s1.heap.objs.size c _ _ kz hp hr (jlf hK hK1 hv hK2) e3 ?_ (fun b o hb e=>?_) g1 o1
  ·obtain⟨o,es,ep,e1,e2⟩:=hL1;exact⟨o,es,ep,k3 _ _ (Ne.symm hLD) e1,e2⟩
  ·exact k3 b o (jun (jum (juh e) kz)) (jug _ (k1 b o e))
 ·refine jfD hD @0 fun h' c e3 k3=>⟨_,rfl,jt9 ⟨_,rfl,?_⟩⟩
  refine q { s1 with heap:=h' } s1.heap.objs.size c kss vs kz (.refl _) ?_ hK e3 ?_ (fun b o hb e=>?_) g1 o1
  ·match kss,hkl with
   |[],_=>exact List.Pairwise.nil
   |[a],_=>exact List.pairwise_singleton _ _
   |_::_::_,hkl=>simp at hkl;omega
  ·obtain⟨o,es,ep,e1,e2⟩:=hL1;exact⟨o,es,ep,k3 _ _ (Ne.symm hLD) e1,e2⟩
  ·exact k3 b o (jun (jum (juh e) kz)) (jug _ (k1 b o e))
end
end HS
namespace L2
open PySem PySem.Spec PyProof.Rows HS
section
variable {X:Cx}{pins:List (Addr×Obj)}{σ:St}{H:Hp}{s:Shared}
theorem Inv.keptL (I:Inv X pins σ H s){m:Str->Option Value}(hl:∀(i:Nat) (x:Str) (v:V),X.N[i]?=some x->σ[i]?=some (some v)->Vis X.env.scope x->∃u,RelV v u/\Look X.env s.heap m x u){s':Shared}(k:∀b o,b≠X.env.locals->s.heap.get? b=some o->s'.heap.get? b=some o)(hn:s'.heap.Ns X.env.locals m)(hg:s'.gens=s.gens)(ho:s'.os=s.os):Inv X pins σ H s':=by
 have ne0:∀c o,X.s₀.heap.get? c=some o->c≠X.env.locals:=fun c o e=>jun (jum (juh e) I.ok.above);have neH:∀c u,H c=some u->c≠X.env.locals:=fun c u e z=>by rw[z,I.free]at e;cases e
 have neC:∀c v,s.heap.IsCell c v->c≠X.env.locals:=fun c v ⟨o,e1,e2⟩ z=>by
  obtain⟨m',⟨o',es,ep,h1,h2,_⟩,_⟩:=I.loc;rw[z,h1]at e1;cases e1;rw[h2]at e2;cases e2
 refine⟨I.ok,ho.trans I.os,by rw[hg];exact I.bare,⟨fun c o e n h1 h2=>k c o (ne0 c o e) (I.base.keep c o e n h1 h2),fun c o e n h1 h2=>?_,I.base.free,fun c o e h1=>?_,I.base.tups,I.base.frzs,I.base.tbls⟩,⟨m,hn,fun i x v h1 h2 h3=>?_⟩,fun x c e=>?_,I.free,I.freeC,fun p hp=>?_,fun a o e=>?_,I.len⟩
 ·obtain⟨sl,q⟩:=I.base.slot c o e n h1 h2;exact⟨sl,k c _ (ne0 c o e) q⟩
 ·obtain⟨o',q⟩:=I.base.there c o e h1;exact⟨o',k c _ (ne0 c o e) q⟩
 ·obtain⟨u,r,lk⟩:=hl i x v h1 h2 h3;exact⟨u,r,lk.imp id fun ⟨h4,c,h5,o,h6⟩=>⟨h4,c,h5,o,k _ _ (neC c _ ⟨o,h6⟩) h6.1,h6.2⟩⟩
 ·obtain⟨v,o,h6⟩:=I.cell x c e;exact⟨v,o,k _ _ (neC c _ ⟨o,h6⟩) h6.1,h6.2⟩
 ·obtain⟨h1,h2,h3,h4⟩:=I.pin p hp;exact⟨k _ _ h3 h1,h2,h3,h4⟩
 ·refine(I.hok a o e).stay (fun c u hc q=>k c u ?_ q) (fun c hc=>hc) fun c xs hc=>hc;rcases hc with rfl | hc
  ·exact neH _ _ e
  ·exact neH _ _ hc
theorem Inv.laidL (I:Inv X pins σ H s){m:Str->Option Value}(hl:∀(i:Nat) (x:Str) (v:V),X.N[i]?=some x->σ[i]?=some (some v)->Vis X.env.scope x->∃u,RelV v u/\Look X.env s.heap m x u){s':Shared}(k:∀b o,b≠X.env.locals->s.heap.get? b=some o->s'.heap.get? b=some o)(hn:s'.heap.Ns X.env.locals m)(hg:s'.gens=s.gens)(ho:s'.os=s.os)
  {a:Addr}{o:HO} (ha:s.heap.objs.size<=a) (new:ObjOk X.prog X.w (upd H a o) s'.heap a o):Inv X pins σ (upd H a o) s':=by
 obtain⟨n0,n1,n2,n3,n4⟩:=I.new ha;exact(I.keptL hl k hn hg ho).track n4 n0 n1 n2 n3 new
noncomputable def KysV (Z:List Int->Addr->Prop)(kss:List @9)(vs:List V):Prop:=Paired (fun k v=>∃b,v=V.ref b/\Z k b) kss vs
noncomputable def Zok (K:PySem.W.Frag)(H:Hp)(Z:List Int->Addr->Prop):Prop:=∀k b,Z k b->SqT K H b (k.map V.int)
theorem jiT {P:Program}{w:World}{k:List Int}{us:List Value}(h:Vals (k.map V.int) us):PySem.ItemsAre (intKind P w) k us:=by
 induction k generalizing us with
 |nil=>cases h;exact .nil
 |cons i k ih=>
  cases h with
  |cons h p=>
   obtain⟨t,rfl⟩:=h;exact .cons (by show Value.isInt i (.int i t)=true;simp[Value.isInt]) (ih p)
theorem Inv.tkey (I:Inv X pins σ H s){Z:List Int->Addr->Prop}(hZ:Zok X.K H Z){k:List Int}{b:Addr}(h:Z k b):(tkz X.prog X.w Z).is s.heap k b:=by
 obtain⟨its,r,⟨o,e1,e2,n,e3⟩,hz⟩:=I.tuple (hZ k b h);exact⟨⟨o,its.toArray,n,e1,e2,e3,jiT r⟩,h⟩
theorem Inv.kys (I:Inv X pins σ H s){Z:List Int->Addr->Prop}(hZ:Zok X.K H Z):∀{kss:List @9}{vs:List V}{us:List Value},KysV Z kss vs->Vals vs us->Kys X.prog X.w Z s.heap kss us:=by
 intro kss vs us h;induction h generalizing us with
 |nil=>intro q;cases q;exact .nil
 |cons hd p ih=>
  intro q;cases q with
  |cons r q=>
   obtain⟨b,e,h⟩:=hd;subst e;cases r;exact .cons ⟨b,rfl,I.tkey hZ h⟩ (ih q)
theorem jgs {P:Program}{w:World}{Z:List Int->Addr->Prop}{h:Heap}:∀{kss:List @9}{us:List Value},Kys P w Z h kss us->∃ws,KysV Z kss ws/\Vals ws us:=by
 intro kss us p;induction p with
 |nil=>exact⟨[],.nil,.nil⟩
 |cons hd p ih=>
  obtain⟨b,e,h⟩:=hd;obtain⟨ws,h1,h2⟩:=ih;subst e;exact⟨V.ref b::ws,.cons ⟨b,rfl,h.2⟩ h1,.cons rfl h2⟩
inductive rSrtL_I (X:Cx) (xs:List V) (H:Hp) (Q:VK):Prop
 |mk (p:_) (vs:_) (kss:_) (Z:_):(xs=[.ref p])->(SqL X.K H p vs)->(Zok X.K H Z)->(KysV Z kss vs)->((∀k∈kss,k≠[]))->(vs.length<4000)->(∀kss' ws,kss'.Perm kss->Rise kss'->KysV Z kss' ws->∀l,H l=none->Q (.ref l) (upd H l (.lst ws)))->rSrtL_I X xs H Q
noncomputable def rSrtL (X:Cx):List V->Hp->VK->Prop:=fun xs H Q=>rSrtL_I X xs H Q
theorem jeE:CallR X (.builtin "sorted") (rSrtL X):=by
 intro pins s σ H xs us Q I r h;obtain⟨p,vs,kss,Z,rfl,hq,hZ,hK,hk0,h64,q⟩:=h;obtain⟨u,rfl,rx⟩:=jbW r;cases rx;obtain⟨its,r',pl,hz⟩:=I.list hq;have hlen:=r'.length;obtain⟨m,hns,hl⟩:=id I.loc;have hKs:=I.kys hZ hK r';refine jdL (Z:=Z) hns hKs hk0 @0 (fun {Q'} q'=>?_) fun s' D c kss' vs' hD hp hr hK' e n' k' g o=>?_
 ·refine collect_list pl.isList (q' _ (fun b o e=>?_) ?_ rfl rfl) @0
  ·have hlt:=juh e;rw[juk _ _ (Nat.ne_of_gt hlt)];exact jug _ e
  ·rw[Heap.size_update,Heap.size_push];exact Nat.le_succ _
 ·obtain⟨ws,w1,w2⟩:=jgs hK';have hwl:ws.length<=sizeLine:=by
   have h1:=w2.length;have h2:=Paired.length hK';have h3:=hp.length_eq;have h4:=Paired.length hK;rw[h1,<-h2,h3,h4];exact hz
  exact⟨.ref D,_,I.laidL (o:=.lst ws) hl k' n' g o hD ⟨hwl,vs',c,w2,e⟩,rfl,q kss' ws hp hr w1 D (I.hok.fresh hD)⟩
end
end L2
namespace HD
open PySem PySem.Spec PyProof.Rows L2
section
variable {prog:Program}{w:World}{A:Around}{E:Value->Shared->Prop}{s:Shared}{I d:Addr}{o:Obj}{es:Array DictEntry}{ep i:Nat}
theorem jgt:Builtin.Dict_items.ownsTuple "dict_keyiterator"=false:=by decide
theorem k_item {Q:Option Value->Shared->Prop}(hit:s.heap.IsKeyIter I d i es.size ep)(hg:s.heap.get? d=some o)(hd:o.data=.dict es ep)(hi:i<es.size)
  (go:∀h',h'.IsKeyIter I d (i+1) es.size ep->Heap.SameBut I s.heap h'->Q (some es[i].key) { s with heap:=h' }):wpAny @2 A (pyNext (.ref I)) Q E s:=by
 have ty:=hit.typeIs;obtain⟨ob,e1,e2,e3⟩:=hit;unfold pyNext;refine jt8 (wpAny_attempt (wpAny_callSpecial?_slot ty F.slot_dict_keyiterator_next (wpAny_call_entry F.slot_dict_keyiterator_next ty F.entry_dict_keyiterator_next (jt8 (jt9 (jt8 (jt8 (jt8 (wpAny_typeNameOfWhole_keyiter ty (jt9 (jt8 (wpAny_fieldsOf e1 e3 ?_)))))))) ) (F.args_dict_keyiterator_next_1 _))));simp only[jgt,jur,if_false];refine jua rfl (jt8 (jt9 (jt8 (wpAny_dictEntries hg hd (jua @11 (jt8 (jt9 (jt8 (wpAny_dictEpoch hg hd (jua @11 (jt9 ?_)))))))))))
 simp only[show ¬(i:Int)<0 by omega,if_false,Int.toNat_natCast,Array.getElem?_eq_getElem hi]
 have u1:=juj (Obj.mapFields fun x=>x.setIfInBounds 1 (rawInt ((i:Int)+1))) e1 (by obtain⟨c,dd,da,sl⟩:=ob;cases e3;rfl)
 have f1:(Obj.mapFields (fun x=>x.setIfInBounds 1 (rawInt ((i:Int)+1))) ob).data=.fields #[.ref d,.int ((i+1:Nat):Int) 0,.int es.size 0,.int ep 0]:=by obtain⟨c,dd,da,sl⟩:=ob;cases e3;rfl
 have c1:(Obj.mapFields (fun x=>x.setIfInBounds 1 (rawInt ((i:Int) + 1))) ob).cls=.type "dict_keyiterator":=by obtain⟨c,dd,da,sl⟩:=ob;cases e3;exact e2
 have it1:(s.heap.update I (Obj.mapFields fun x=>x.setIfInBounds 1 (rawInt ((i:Int)+1)))).IsKeyIter I d (i+1) es.size ep:=⟨_,u1,c1,f1⟩;refine jt8 (jt8 (wpAny_typeNameOfWhole_keyiter ty (jt9 (jt8 (wpAny_isOneOf_keyiter ty ?_)))));simp only[jgt,jur,if_false,Nat.zero_add];refine jt8 (wpAny_setField e1 e3 @11 (jt8 (jud (jt8 (wpAny_isOneOf_keyiter it1.typeIs ?_)))))
 exact jt9 (jt9 ⟨_,rfl,jt9 (go _ it1 ⟨by rw[Heap.size_update],fun b hb=>juk _ _ (Ne.symm hb)⟩)⟩)
theorem k_stop {Q:Option Value->Shared->Prop}(hh:A.handled=none)(hit:s.heap.IsKeyIter I d es.size es.size ep)(hg:s.heap.get? d=some o)(hd:o.data=.dict es ep)
  (go:∀h',Heap.ExtBut I s.heap h'->Q none { s with heap:=h' }):wpAny @2 A (pyNext (.ref I)) Q E s:=by
 have ty:=hit.typeIs;obtain⟨ob,e1,e2,e3⟩:=hit;have fin:∀(h':Heap) (e:Addr),Heap.ExtBut I s.heap h'->(∃o,h'.get? e=some o/\o.cls=.type "StopIteration")->wpAny @2 A (do
   let d <-isInstance (.ref e) (.type "StopIteration")
   if d=true then pure none else throw (.ref e)) Q E { s with heap:=h' }:=fun h' e hk ⟨o,ho,hc⟩=>jt8 (wpAny_isInstance (T:="StopIteration") (b:=true) ⟨o,ho,hc⟩ isSubtype_stop (jt9 (go _ hk)))
 unfold pyNext;refine jt8 (wpAny_attempt (wpAny_callSpecial?_slot ty F.slot_dict_keyiterator_next (wpAny_call_entry F.slot_dict_keyiterator_next ty F.entry_dict_keyiterator_next (jt8 (jt9 (jt8 (jt8 (jt8 (wpAny_typeNameOfWhole_keyiter ty (jt9 (jt8 (wpAny_fieldsOf e1 e3 ?_)))))))) ) (F.args_dict_keyiterator_next_1 _))));simp only[jgt,jur,if_false];refine jua rfl (jt8 (jt9 (jt8 (wpAny_dictEntries hg hd (jua @11 (jt8 (jt9 (jt8 (wpAny_dictEpoch hg hd (jua @11 (jt9 ?_)))))))))))
 simp only[show ¬((es.size:Nat):Int)<0 by omega,if_false,Int.toNat_natCast,Array.getElem?_eq_none (jul es.size)]
 refine jt8 (jt8 (wpAny_typeNameOfWhole_keyiter ty (jt9 ?_)));simp only[jgt,jur,if_false];refine jt8 (wpAny_setField e1 e3 @11 (show wpAny @2 _ (newExc (.type "StopIteration") [] >>= _) _ _ _ from jt8 ?_))
 simp only[newTuple,newExc];refine jt8 (juc (jt8 (m:=firstArgMember _ _) (jub (a:=Value.none) (by first | rfl | (simp only[firstArgMember];rfl)) (juc ?_ (by size_fits)))) (by size_fits))
 simp only[raiseNew];refine jt8 (wpAny_handled (by
  first | rw[show A.in1.handled=none from hh] | rw[hh]
  exact jt8 (jt9 (wpAny_throw (fin _ _ (((Heap.SameBut.update ..).extBut.push _).push _) ⟨_,jui _ rfl,rfl⟩)))))
theorem jhr (hh:A.handled=none)(ne:d≠I)(hd:o.data=.dict es ep) :
  Walks prog w A I [I,d] [I] es.size (fun i v=>∃h:i<es.size,v=es[i].key) (fun i h=>i<=es.size/\h.IsKeyIter I d i es.size ep/\h.get? d=some o) where
 sub:=fun b hb=>by have:=List.mem_singleton.mp hb;subst this;simp
 frame:=fun i h h' z k=>by
  obtain⟨h1,⟨ob,e1,e2⟩,h3⟩:=z;exact⟨h1,⟨ob,k I @11 ob e1,e2⟩,k d @11 o h3⟩
 item:=fun i s Q E hi z q=>by
  obtain⟨h1,h2,h3⟩:=z;refine k_item h2 h3 hd hi fun h' g1 g2=>?_;exact q _ h' s.toks ⟨hi,rfl⟩ ⟨hi,g1,(g2.2 d ne).trans h3⟩ fun b o hb e=>(g2.2 b (by simpa using hb)).trans e
 done:=fun s Q E z q=>k_stop hh z.2.1 z.2.2 hd fun h' g=>q h' s.toks fun b o hb e=>g b o (by simpa using hb) e
 self:=fun i s Q E z q=>wpAny_pyIter_keyiter z.2.1 q
theorem k_iter {Q:Value->Shared->Prop}(h0:(d==sysModules)=false)(hg:s.heap.get? d=some o)(hx:o.ExactDict)(hd:o.data=.dict es ep)
  (q:Q (.ref s.heap.objs.size) { s with heap:=s.heap.push { cls:=.type "dict_keyiterator",data:=.fields #[.ref d,.int (0:Nat) 0,.int es.size 0,.int ep 0] } }):wpAny @2 A (pyIter (.ref d)) Q E s:=by
 have ty:s.TypeIs (.ref d) "dict":=⟨o,hg,hx.1⟩;refine wpAny_pyIter_slot ty F.slot_dict_iter (wpAny_call_entry F.slot_dict_iter ty F.entry_dict_iter (jt8 (jt8 (wpAny_notOrdered_dict ty (jt8 (jt9 (jt9 (jt8 (jt9 (jt8 ?_))))))))) (F.args_dict_iter_1 _));unfold Builtin.Dict.showsAll;refine jua (by rw[h0];rfl) (jt9 (jt8 (wpAny_dictEntries hg hd (jt8 (wpAny_dictEpoch hg hd (jt8 (juc (jt9 ⟨_,rfl,"dict_keyiterator",_,⟨_,jui _ rfl,rfl⟩,F.slot_dict_keyiterator_next.lookup,q⟩))))))))
end
end HD
namespace L2
open PySem PySem.Spec PyProof.Rows
noncomputable def Itk (a:Addr)(xs:List (List Key×Addr×Value))(ep:Nat):It:=⟨fun i H=>H a=some (.dT xs ep)/\i<xs.length,fun i H x H'=>H'=H/\∃y,xs[i]?=some y/\x=.ref y.2.1,fun i H=>H a=some (.dT xs ep)/\i=xs.length⟩
theorem jiU {P:Program}{w:World}{K:PySem.W.Frag}{tg:Expr}{it:Addr}(a:Addr)(xs:List (List Key×Addr×Value))(ep:Nat) :
  Turn P w K tg (Itk a xs ep) [it] it (fun i h=>h.IsKeyIter it a i xs.length ep) where
 mem:=by simp
 obj:=fun i h st b hb=>by
  have e:b=it:=by simpa using hb
  subst e;obtain⟨o,e,c,d⟩:=st;exact⟨o,e,fun v z=>by rw[d]at z;cases z⟩
 keep:=fun i h h' st k=>by
  obtain⟨o,e,r⟩:=st;exact⟨o,k it @11 o e,r⟩
 item:=by
  intro X hP hw hK hc i pins s σ H E I hf st hg;subst hP hw hK;obtain⟨f0,f1,f2,f3,f4,f5⟩:=hf it @11
  obtain⟨hq,hi⟩:=hg;obtain⟨h0,o,es,hg,hx,hd,hes⟩:=(show ObjOk X.prog X.w H s.heap a (.dT xs ep)from I.hok a _ hq);have hsz:es.size=xs.length:=by rw[<-Array.length_toList,hes,jtQ]
  have hi2:i<es.size:=by rw[hsz];exact hi
  have ek:es[i].key=.ref xs[i].2.1:=by
   have e1:es.toList[i]?=some es[i]:=by rw[Array.getElem?_toList,Array.getElem?_eq_getElem hi2]
   rw[hes,jtN,jtH hi]at e1;exact(congrArg DictEntry.key (Option.some.inj e1)).symm
  rw[<-hsz]at st;refine HD.k_item st hg hd hi2 fun h' g1 g2=>?_;have I1:Inv X pins σ H { s with heap:=h' }:=I.turned (fun b o hb e=>(g2.2 b (by simpa using hb)).trans e) f0 f1 f3 f4 f5
  obtain⟨o,e,oc,d⟩:=id g1;refine⟨_,rfl,jkM (s:={ s with heap:=h' }) e oc d (by decide) ⟨.ref xs[i].2.1,H,I1,ek,⟨rfl,xs[i],jtH hi,rfl⟩,?_,fun b hb=>(hf b hb).1⟩⟩
  rw[<-hsz];exact g1
 done:=by
  intro X hP hw hK hc i pins s σ H E I hf st hg;subst hP hw hK;obtain⟨f0,f1,f2,f3,f4,f5⟩:=hf it @11
  obtain⟨hq,hi⟩:=hg;subst hi;obtain⟨h0,o,es,hg,hx,hd,hes⟩:=(show ObjOk X.prog X.w H s.heap a (.dT xs ep)from I.hok a _ hq);have hsz:es.size=xs.length:=by rw[<-Array.length_toList,hes,jtQ]
  rw[<-hsz]at st;exact HD.k_stop (I.ok.hd hc) st hg hd fun h' g=>⟨rfl,I.turned (fun b o hb e=>g b o (by simpa using hb) e) f0 f1 f3 f4 f5⟩
 self:=fun A i s Q E z q=>wpAny_pyIter_keyiter z q
end L2
namespace HD
open PySem PySem.Spec PyProof.Rows L2 HS
theorem jlh:typeLookup (Value.type "dict") (Str.ofString "__len__")=pure (some (Value.builtin "dict.__len__")):=by rfl
theorem jiV:isSubtype (Value.type "dict") (Value.type "dict")=pure true:=by rfl
section
variable {prog:Program}{w:World}{A:Around}{s:Shared}
theorem itb_dict {a:Addr}{o:Obj}{es:Array DictEntry}{ep:Nat}(hh:A.handled=none)(h0:(a==sysModules)=false)(hg:s.heap.get? a=some o)(hx:o.ExactDict)(hd:o.data=.dict es ep) :
  Itb prog w A (.ref a) "dict" s.heap es.size (fun i v=>∃h:i < es.size,v=es[i].key) [] where
 nl:=by decide
 nt:=by decide
 ty:=fun s' k=>⟨o,k _ _ hg,hx.1⟩
 ref:=fun b z=>by cases z;exact juh hg
 iter:=fun s' S Q E k h1 h2 q=>by
  have hal:a<s'.heap.objs.size:=juh (k _ _ hg);refine k_iter h0 (k _ _ hg) hx hd ?_;refine q s'.heap.objs.size _ _ _ _ s'.toks s'.drawn (jul _) (SubH.push _) (jhr hh (jun hal) hd) ⟨Nat.zero_le _,⟨_,jui _ rfl,rfl,rfl⟩,jug _ (k _ _ hg)⟩ (fun z=>?_) fun b hb=>?_
  ·rcases List.mem_cons.mp z with z | z
   ·rw[z]at h2;exact absurd h2 (jup _)
   ·have:S=a:=by simpa using z
    rw[this]at h1;exact absurd (juh hg) (Nat.not_lt.mpr h1)
  ·have hb:=List.mem_singleton.mp hb;rw[hb];exact .inr (jul _)
 hint:=fun s' Q E k q=>by
  have ty:s'.TypeIs (.ref a) "dict":=⟨o,k _ _ hg,hx.1⟩;unfold Builtin.List.listLengthHint;refine jt8 (wpAny_specialOf ty jlh ?_);refine jt8 (wpAny_isInstance ty jiV ?_);refine jua rfl ?_;refine wpAny_ite_true rfl ?_;refine jt8 (wpAny_typeOf ty ?_);exact jt9 (q false s'.toks (jul _))
end
end HD
namespace L2
open PySem PySem.Spec PyProof.Rows HS
section
variable {X:Cx}
inductive rSrtU (X:Cx) (xs:List V) (H:Hp) (Q:VK):Prop
 |l (h:rSrtL X xs H Q):rSrtU X xs H Q
 |d (a:_) (ys:_) (ep:_) (kss:_) (Z:_):(xs=[.ref a])->(H a=some (.dT ys ep))->(Zok X.K H Z)->(KysV Z kss (ys.map fun x=>V.ref x.2.1))->((∀k∈kss,k≠[]))->(ys.length<4000)->(∀kss' ws,kss'.Perm kss->Rise kss'->KysV Z kss' ws->∀l,H l=none->Q (.ref l) (upd H l (.lst ws)))->rSrtU X xs H Q
theorem jiW (ys:List (List Key×Addr×Value)):Vals (ys.map fun x=>V.ref x.2.1) (ys.map fun x=>Value.ref x.2.1):=by
 induction ys with
 |nil=>exact .nil
 |cons y ys ih=>exact .cons rfl ih
theorem jeF (hc:X.calm=true):CallR X (.builtin "sorted") (rSrtU X):=by
 intro pins s σ H xs us Q I r h;cases h with
 |l h=>exact jeE pins s σ H xs us Q I r h
 |d a ys ep kss Z e0 hq hZ hK hk0 h64 q=>
  subst e0;obtain⟨u,rfl,rx⟩:=jbW r;cases rx;obtain⟨h0,o,es,hg,hx,hd,hes⟩:=(show ObjOk X.prog X.w H s.heap a (.dT ys ep)from I.hok a _ hq);have hsz:es.size=ys.length:=by rw[<-Array.length_toList,hes,jtQ]
  have hA:X.A.in1.in1.handled=none:=I.ok.hd hc;obtain⟨m,hns,hl⟩:=id I.loc;have hKs:=I.kys hZ hK (jiW ys);refine jdL (Z:=Z) hns hKs hk0 (by rw[jtQ];exact h64) (fun {Q'} q'=>?_) fun s' D c kss' vs' hD hp hr hK' e n' k' g o=>?_
  ·refine jhp (HD.itb_dict hA h0 hg hx hd) (by rw[sizeLine_eq];omega) fun s1 acc hk hle hgg hoo hit=>?_
   have:acc.toList=ys.map fun x=>Value.ref x.2.1:=by
    obtain⟨h1,h2⟩:=hit;apply List.ext_getElem?;intro i;by_cases hi:i<acc.size
    ·obtain⟨hi2,e2⟩:=h2 i acc[i] (by simp[hi])
     have hi3:i<ys.length:=by omega
     have e3:es[i]=entryOfKey (tupleKind (jaW X.prog X.w)) ys[i]:=by
      have:=congrArg (fun l=>l[i]?) hes;simp only[jtN]at this;rw[jtH (by simpa using hi2),jtH hi3]at this
      simpa using this
     rw[jtN,jtH hi3,jtH (by simpa using hi)]
     show some acc[i]=_;rw[e2,e3];rfl
    ·rw[jtX (by simpa using hi),jtX (by rw[jtQ];omega)]
   rw[this];exact q' s1 (fun b o e=>hk b o @11 e) hle hgg hoo
  ·obtain⟨ws,w1,w2⟩:=jgs hK';have hwl:ws.length<=sizeLine:=by
    have h1:=w2.length;have h2:=Paired.length hK';have h3:=hp.length_eq;have h4:=Paired.length hK;rw[jtQ]at h4;rw[sizeLine_eq];omega
   exact⟨.ref D,_,I.laidL (o:=.lst ws) hl k' n' g o hD ⟨hwl,vs',c,w2,e⟩,rfl,q kss' ws hp hr w1 D (I.hok.fresh hD)⟩
end
end L2
namespace HD
open PySem PySem.Spec PyProof.Rows L2 HS
section
variable {prog:Program}{w:World}{A:Around}{E:Value->Shared->Prop}{s:Shared}{I d v:Addr}{o:Obj}{es:Array DictEntry}{ep i:Nat}
end
end HD
namespace L2
open PySem PySem.Spec PyProof.Rows HS
section
variable {X:Cx}
end
end L2
namespace HD
open PySem PySem.Spec PyProof.Rows L2
section
variable {prog:Program}{w:World}{A:Around}{E:Value->Shared->Prop}{s:Shared}{d:Addr}{o:Obj}{es:Array DictEntry}{ep:Nat}
theorem jiX (hd:(d==sysModules)=false) :
  MeetsIn prog w (Builtin.«dict.__len__» ⟨[.ref d],[]⟩) (fun _ R s=>∃o es ep,s.heap.get? d=some o/\o.data=.dict es ep/\R (.ok (.ret (.int es.size s.toks))) { s with toks:=s.toks+1 }):=
 .of_wp fun A R s z=>by
  obtain⟨o,es,ep,ho,hdat,h⟩:=z;show wpAny _ _ (dictSize d >>= _) _ _ s;unfold dictSize;refine jt8 (jt8 (wpAny_dictEntries ho hdat (jt9 ?_)));show wpAny _ _ (Builtin.Dict.pendingCount d >>= _) _ _ s;refine jt8 (wpAny_pendingCount_other hd ?_);refine wpAny_ret_mkInt ?_;rw[Nat.add_zero];exact h
theorem len_body {Q:Value->Shared->Prop}(hd:(d==sysModules)=false)(hg:s.heap.get? d=some o)(hx:o.ExactDict)(hdat:o.data=.dict es ep)(hfit:(es.size:Int)<2 ^ 63)
  (h:Q (.int es.size (s.toks+1)) { s with toks:=s.toks+1+1 }):wpAny @2 A (Builtin.«len» ⟨[.ref d],[]⟩) (fun fin s'=>∃r,fin=.done (.ret r)/\Q r s') E s:=by
 have ty:s.TypeIs (.ref d) "dict":=⟨o,hg,hx.1⟩;unfold Builtin.«len»;refine jt8 (m:=oneArg "len" _) (jt9 ?_);refine jt8 (m:=callSpecial? (.ref d) (Str.ofString "__len__")) (wpAny_callSpecial?_slot (name:=Str.ofString "__len__") ty F.slot_dict_len
  (call_meetsIn F.slot_dict_len ty F.entry_dict_len (F.args_dict_len_1 _) (jiX hd) ⟨o,es,ep,hg,hdat,?_⟩))
 show wpAny _ _ _ _ _ { s with toks:=s.toks+1 }
 refine jt8 (jud (jt9 ?_));refine jt8 (wpAny_letGo ?_);show wpAny _ _ (if ((es.size:Nat):Int)<0 then _ else _) _ _ _;rw[if_neg @0]
 show wpAny _ _ (if ((es.size:Nat):Int)>=2 ^ 63 then _ else _) _ _ _;rw[if_neg @0]
 exact jt8 (wpAny_mkInt (jt9 ⟨_,rfl,h⟩))
end
end HD
namespace L2
open PySem PySem.Spec PyProof.Rows
section
variable {X:Cx}
theorem jiY:CallR X (.builtin "len") (fun xs H Q=>∃a ys ep,xs=[.ref a]/\H a=some (.dT ys ep)/\ys.length<=sizeLine/\Q (.int ys.length) H):=by
 intro pins s σ H xs us Q I r h;obtain⟨a,ys,ep,rfl,hq,hz,q⟩:=h;obtain⟨u,rfl,rx⟩:=jbW r;cases rx;have hn:=jcx;obtain⟨h0,o,es,hg,hx,hd,hes⟩:=(show ObjOk X.prog X.w H s.heap a (.dT ys ep)from I.hok a _ hq);have hsz:es.size=ys.length:=by rw[<-Array.length_toList,hes,jtQ]
 exact Calls.call_function_entry kind_len plain_len entry_len (args_len1 _) (HD.len_body h0 hg hx hd @0 ⟨.int ys.length,H,I.tok _,⟨_,by rw[hsz]⟩,q⟩)
end
end L2
namespace HD
open PySem PySem.Spec PyProof.Rows L2
section
variable {prog:Program}{w:World}{A:Around}{E:Value->Shared->Prop}
theorem jeG {I ax:Addr}{items:Array Value}(hh:A.handled=none)(hne:ax≠I):∀(n i:Nat) (s:Shared) (Q:List Value->Shared->Prop),(s.heap.IsListIter I ax i/\s.heap.IsList ax items)->i+n<=items.size ->
  (∀h' tk,(h'.IsListIter I ax (i+n)/\h'.IsList ax items)->(∀b o,b≠I->s.heap.get? b=some o->h'.get? b=some o)->Q ((items.toList.drop i).take n) { s with heap:=h',toks:=tk })->wpAny @2 A (draw (.ref I) n) Q E s
 |0,i,s,Q,hit,_,hQ=>by
  show wpAny _ _ (pure []) Q E s;exact jt9 (by simpa using hQ s.heap s.toks hit fun b o _ e=>e)
 |n+1,i,s,Q,hit,hle,hQ=>by
  have hlt:i<items.size:=by omega
  have W:=Walks.list (prog:=prog) (w:=w) (A:=A) hh I ax hne items;show wpAny _ _ (pyNext (.ref I) >>= _) Q E s;refine jt8 (W.item i s _ _ hlt hit fun v h1 tk hv st k=>?_);have ev:v=items[i]:=by
   have:items[i]?=some items[i]:=by simp[hlt]
   rw[this]at hv;exact(Option.some.inj hv).symm
  subst ev;refine jt8 (jud (jeG hh hne n (i+1) { s with heap:=h1,toks:=tk } _ st @0 fun h2 tk2 st2 k2=>jt9 ?_))
  have hd:items.toList.drop i=items[i]::items.toList.drop (i+1):=by simp[List.drop_eq_getElem_cons,hlt]
  have:=hQ h2 tk2 (by rw[show i+(n+1)=i+1+n by omega];exact st2) fun b o hb e=>k2 b o hb (k b o (by simpa using hb) e)
  rw[hd,List.take_succ_cons]at this;exact this
variable {s:Shared}
theorem jcC {ax:Addr}{items:Array Value}{Q:List Value->Shared->Prop}(hh:A.handled=none)(hl:s.heap.IsList ax items)
  (hQ:∀h' tk,Heap.ExtBut s.heap.objs.size s.heap h'->Q items.toList { s with heap:=h',toks:=tk }):wpAny @2 A (unpackItems (.ref ax) items.size none) Q E s:=by
 have hlt:ax≠s.heap.objs.size:=by obtain⟨o,ho,_⟩:=hl;exact jun (juh ho)
 unfold unpackItems;refine jt8 ?_;unfold notIterableAtAll;refine jt8 (wpAny_specialOf hl.typeIs slot_list_iter.lookup ?_);refine jt9 ?_;simp only[jur,if_false];refine jt8 (jud (wpAny_pyIter_list hl ?_));refine jt8 (jud (jeG hh hlt items.size 0 _ _ ⟨⟨_,jui _ rfl,rfl,rfl⟩,hl.push _⟩ @0 fun h1 tk st k=>?_))
 have hall:List.take items.size (List.drop 0 items.toList)=items.toList:=by
  rw[List.drop_zero];exact List.take_of_length_le @11
 rw[hall];rw[if_neg @11]
 have W:=Walks.list (prog:=prog) (w:=w) (A:=A) hh s.heap.objs.size ax hlt items;refine jt8 (jud (W.done { s with heap:=h1,toks:=tk } _ _ (by simpa using st) fun h2 tk2 k2=>?_))
 simp only[Option.isSome_none,jur,if_false];refine jt9 (hQ h2 tk2 fun b o hb e=>k2 b o (by simpa using hb) (k b o hb (jug _ e)))
theorem assign_Tuple_list {env:Env}{elts:List Expr}{x1}{pos:Pos}{ax:Addr}{items:Array Value}{Q:Unit->Shared->Prop}(hh:A.handled=none)(hl:s.heap.IsList ax items)
  (hn:(assignEach elts env).length=items.size) (hstar:(assignEach elts env).findIdx? (·.1)=none)
  (h:∀h' tk,Heap.ExtBut s.heap.objs.size s.heap h'->wpAny @2 A (assignInOrder ((assignEach elts env).map (·.2)) items.toList) Q E { s with heap:=h',toks:=tk }) :
  wpAny @2 A (assign (.Tuple elts x1 pos) env (.ref ax)) Q E s:=by
 rw[assign_Tuple];refine jt8 (wpAny_standAt ?_);unfold unpack;rw[hn,hstar];exact jt8 (jud (jcC hh hl h))
end
end HD
namespace L2
open PySem PySem.Spec PyProof.Rows
section
variable {X:Cx}{pos:Pos}
noncomputable def jtl (K:PySem.W.Frag)(n:Nat)(t:TGs):TG:=fun v σ H Q=>∃a xs,v=.ref a/\(SqT K H a xs\/SqL K H a xs)/\xs.length=n/\t xs σ H Q
theorem jqb {es:List Expr}{k:Nat}{t:TGs}{n:Nat}(hc:X.calm=true)(h:PGs X es t)
  (hn:(assignEach es X.env).length=n) (hst:(assignEach es X.env).findIdx? (·.1)=none):PG X (.Tuple es k pos) (jtl X.K n t):=by
 intro pins s σ H v u Q I r hw;obtain⟨a,xs,e1,hq,hl,hw⟩:=hw;rcases hq with hq | hq
 ·exact jmx (n:=n) hc h hn hst pins s σ H v u Q I r ⟨a,xs,e1,hq,hl,hw⟩
 ·subst e1;cases r;obtain⟨its,rv,pl,hz⟩:=I.list hq;refine HD.assign_Tuple_list (I.ok.hd hc) pl.isList (by simp[hn,<-hl,rv.length]) hst fun h' tk hx=>?_
  have I1:Inv X pins σ H { s with heap:=h',toks:=tk }:=I.kept (t':=tk) fun b o e=>hx b o (jun (juh e)) e
  exact h pins _ σ H xs _ Q I1 (by simpa using rv) hw
end
end L2
namespace DJ
open PySem
inductive D where
 |non | bl (b:Bool) | int (i:Int) | str (x:Str) | tup (xs:List D) | lst (xs:List D) | dct (ks vs:List D) | exc (c:Nat)
 deriving Inhabited
inductive R (α:Type) where
 |ok (a:α) | err (c:Nat) | stk
namespace R
noncomputable def bind {α β:Type}(x:R α)(f:α->R β):R β:=match x with
 |ok a=>f a
 |err c=>err c
 |stk=>stk
noncomputable def noErr {α:Type}:R α->R α
 |ok a=>ok a
 |_=>stk
noncomputable def pass {α:Type}(x:Bool)(r:R α):R α:=if x then r else r.noErr
end R
inductive Op where | add | sub | mul | fdiv | mod | pow
inductive Cm where | eq | ne | lt | le | gt | ge | isn | notn
 |isin | notin
inductive Bf where | len | tuple | list | all | any | sum | min | max | sorted | ssorted | abs | int | revl | revt
inductive Ty where | int | bool | str | tuple | list | dict | exc (c:Nat) | verr
 deriving DecidableEq
mutual
inductive E where
 |lit (d:D)
 |emp
 |dis (k v:E)
 |var (i:Nat)
 |bin (o:Op) (a b:E)
 |neg (a:E)
 |cmp (o:Cm) (a b:E)
 |and (a b:E) | or (a b:E) | not (a:E) | ite (c a b:E)
 |tup (es:Es) | lst (es:Es)
 |idx (a b:E) | slc (a:E) (lo hi:Oe)
 |call (f:Nat) (fl:List Bool) (es:Es)
 |blt (f:Bf) (a:E)
 |isi (a:E) (ks:List Ty)
 |comp (elt:E) (tg:List Nat) (one:Bool) (n:Nat) (caps:List Nat) (it:It) (c:Oe) (x:Bool)
 |pop (i:Nat)
inductive Es where
 |nil | cons (e:E) (es:Es)
inductive Oe where
 |none | some (e:E)
inductive It where
 |seq (e:E) | rng1 (a:E)
 |zip (a b:E)
 |enum (a:E)
end
mutual
inductive S where
 |ret (e:E) | retN | expr (e:E) | asg (i:Nat) (e:E) | unp (is:List Nat) (e:E)
 |app (i:Nat) (e:E) | ext (i:Nat) (e:E)
 |sub (i:Nat) (k e:E)
 |ife (c:E) (a b:Ss) | loop (tg:List Nat) (one:Bool) (it:It) (b:Ss) | whl (c:E) (b:Ss)
 |brk | cnt | pas | rai (c:Nat) (e:E)
inductive Ss where
 |nil | cons (s:S) (ss:Ss)
end
inductive O where | l (xs:List D) | d (ks vs:List D)
noncomputable def O.toD:O->D
 |.l xs=>.lst xs
 |.d ks vs=>.dct ks vs
inductive Sl where | no | dat (d:D) | own (o:O) (lent lock:Bool)
noncomputable abbrev Rho:=List Sl
inductive Vl where | dat (d:D) | tmp (o:O) | slot (i:Nat)
inductive Fl where | nx (ρ:Rho) | rt (v:Vl) (ρ:Rho) | bk (ρ:Rho) | ct (ρ:Rho)
mutual
noncomputable def eqD:D->D->Bool
 |.non,y=>match y with
  |.non=>true
  |_=>false
 |.bl a,y=>match y with
  |.bl b=>a==b
  |.int b=>(if a then 1 else 0)==b
  |_=>false
 |.int a,y=>match y with
  |.bl b=>a==(if b then 1 else 0)
  |.int b=>a==b
  |_=>false
 |.str a,y=>match y with
  |.str b=>a==b
  |_=>false
 |.tup a,y=>match y with
  |.tup b=>eqDs a b
  |_=>false
 |.lst a,y=>match y with
  |.lst b=>eqDs a b
  |_=>false
 |.dct _ _,_=>false
 |.exc _,_=>false
noncomputable def eqDs:List D->List D->Bool
 |[],[]=>true
 |a::as,b::bs=>eqD a b&&eqDs as bs
 |_,_=>false
end
mutual
noncomputable def jbO:D->Bool
 |.non=>true
 |.bl _=>true
 |.int _=>true
 |.str _=>true
 |.tup a=>cmpDs a
 |.lst a=>cmpDs a
 |_=>false
noncomputable def cmpDs:List D->Bool
 |[]=>true
 |a::as=>jbO a&&cmpDs as
end
mutual
noncomputable def deep:D->Nat
 |.tup a=>deeps a+1
 |.lst a=>deeps a+1
 |_=>0
noncomputable def deeps:List D->Nat
 |[]=>0
 |a::as=>Nat.max (deep a) (deeps as)
end
noncomputable def jbc (n:Nat):Bool:=n<=16777216
noncomputable def opZ (a b:Int):Op->R Vl
 |.add=>.ok (.dat (.int (a+b)))
 |.sub=>.ok (.dat (.int (a - b)))
 |.mul=>if (-(2 ^ 64)<a/\a<2 ^ 64)\/(-(2 ^ 64)<b/\b<2 ^ 64)then .ok (.dat (.int (a * b)))else .stk
 |.fdiv=>if 0<b/\b<2 ^ 64 then .ok (.dat (.int (a / b)))else .stk
 |.mod=>if 0<b then .ok (.dat (.int (a%b)))else .stk
 |.pow=>if 0<=b/\b<=1000000/\a.natAbs<2 ^ 64 then .ok (.dat (.int (a ^ b.toNat)))else .stk
noncomputable def opC (v:R Vl):Op->R Vl
 |.add=>v
 |_=>.stk
noncomputable def opM (v:R Vl):Op->R Vl
 |.mul=>v
 |_=>.stk
noncomputable def opD (o:Op)(x y:D):R Vl:=match x with
 |.int a=>match y with
  |.int b=>opZ a b o
  |_=>.stk
 |.tup a=>match y with
  |.tup b=>opC (if jbc (a.length+b.length)then .ok (.dat (.tup (a++b)))else .stk) o
  |.int b=>opM (if 0<=b/\b<=16777216/\jbc (a.length * b.toNat)then .ok (.dat (.tup (List.replicate b.toNat a).flatten))else .stk) o
  |_=>.stk
 |.lst a=>match y with
  |.lst b=>opC (if jbc (a.length+b.length)then .ok (.tmp (.l (a++b)))else .stk) o
  |.int b=>opM (if 0<=b/\b<=16777216/\jbc (a.length * b.toNat)then .ok (.tmp (.l (List.replicate b.toNat a).flatten))else .stk) o
  |.bl b=>opM (if jbc a.length then .ok (.tmp (.l (if b then a else [])))else .stk) o
  |_=>.stk
 |.str a=>match y with
  |.str b=>opC (if jbc (a.length+b.length)then .ok (.dat (.str (a++b)))else .stk) o
  |_=>.stk
 |_=>.stk
noncomputable def jrm:D->R D
 |.int a=>.ok (.int (-a))
 |_=>.stk
noncomputable def jbF:D->R Bool
 |.non=>.ok false
 |.bl b=>.ok b
 |.int i=>.ok (i != 0)
 |.tup xs=>.ok (!xs.isEmpty)
 |.lst xs=>.ok (!xs.isEmpty)
 |_=>.stk
noncomputable def keyOf:D->Option (Sum Int Str)
 |.int i=>some (.inl i)
 |.str x=>some (.inr x)
 |_=>none
noncomputable def jhs:List D->Option (List (Sum Int Str))
 |[]=>some []
 |d::r=>match keyOf d,jhs r with
  |some k,some ks=>some (k::ks)
  |_,_=>none
noncomputable def keyD:D->Option (List (Sum Int Str))
 |.tup ds=>jhs ds
 |_=>none
noncomputable def isK (k:List (Sum Int Str))(y:D):Bool:=decide (keyD y=some k)
noncomputable def jpf (ks:List D)(k:List (Sum Int Str)):Bool:=ks.any (isK k)
noncomputable def jmF (k:List (Sum Int Str)):List D->List D->Option D
 |y::ks,v::vs=>if isK k y then some v else jmF k ks vs
 |_,_=>none
noncomputable def jqc (k:List (Sum Int Str))(d:D):List D->List D->List D
 |y::ks,v::vs=>(if isK k y then d else v)::jqc k d ks vs
 |_,vs=>vs
noncomputable def jnD (ks vs:List D)(kd:D)(k:List (Sum Int Str))(v:D):O:=if jpf ks k then .d ks (jqc k v ks vs)else .d (ks++[kd]) (vs++[v])
noncomputable def jaD:List D->Option @9
 |[]=>some []
 |.int i::r=>(jaD r).map (i::·)
 |_::_=>none
noncomputable def lexLt:List Int->List Int->Bool
 |[],[]=>false
 |[],_::_=>true
 |_::_,[]=>false
 |x::xs,y::ys=>if x=y then lexLt xs ys else decide (x<y)
noncomputable def ltD:D->D->R Bool
 |.int a,.int b=>.ok (decide (a<b))
 |.tup a,.tup b=>match jaD a,jaD b with
  |some x,some y=>.ok (lexLt x y)
  |_,_=>.stk
 |_,_=>.stk
noncomputable def jat:D->R (List D)
 |.tup xs=>.ok xs
 |.lst xs=>.ok xs
 |_=>.stk
noncomputable def eqR (a b:D):R Bool:=if jbO a&&jbO b&&deep a<=12&&deep b<=12 then .ok (eqD a b)else .stk
noncomputable def inR (a b:D):R Bool:=(jat b).bind fun ys=>if jbO a&&cmpDs ys&&deep a<=12&&deeps ys<=12 then .ok (ys.any fun y=>eqD y a)else .stk
noncomputable def inK (ks:List D):Option (List (Sum Int Str))->R Bool
 |some k=>.ok (jpf ks k)
 |none=>.stk
noncomputable def inD (a b:D):R Bool:=match b with
 |.dct ks _=>inK ks (keyD a)
 |b=>inR a b
noncomputable def jqd (f:Int->Int->Bool)(x y:D):R Bool:=match x with
 |.int a=>match y with
  |.int b=>.ok (f a b)
  |_=>.stk
 |_=>.stk
noncomputable def isN:D->Bool
 |.non=>true
 |_=>false
noncomputable def cmD (o:Cm)(a b:D):R Bool:=match o with
 |.eq=>eqR a b
 |.ne=>(eqR a b).bind fun c=>.ok (!c)
 |.lt=>ltD a b
 |.gt=>jqd (fun a b=>decide (b<a)) a b
 |.le=>jqd (fun a b=>decide (a<=b)) a b
 |.ge=>jqd (fun a b=>decide (b<=a)) a b
 |.isn=>if isN b then .ok (isN a)else .stk
 |.notn=>if isN b then .ok (!isN a)else .stk
 |.isin=>inD a b
 |.notin=>(inD a b).bind fun c=>.ok (!c)
noncomputable def atI (xs:List D)(i:Int):R D:=
 if 0<=i then (match xs[i.toNat]? with | some d=>.ok d | none=>.stk)
 else if 0<=i+xs.length then (match xs[(i+xs.length).toNat]? with | some d=>.ok d | none=>.stk)else .stk
noncomputable def atC (x:Str)(i:Int):R D:=
 if jbc x.length then
  (match (if 0<=i then x.cps.toList[i.toNat]? else if 0<=i+x.length then x.cps.toList[(i+x.length).toNat]? else none)with | some c=>.ok (.str ⟨#[c]⟩) | none=>.stk)
 else .stk
noncomputable def jpg (ks vs:List D):Option (List (Sum Int Str))->R D
 |some k=>match jmF k ks vs with
  |some v=>.ok v
  |none=>.stk
 |none=>.stk
noncomputable def jht:D->D->R D
 |.tup xs,.int i=>atI xs i
 |.lst xs,.int i=>atI xs i
 |.str x,.int i=>atC x i
 |.dct ks vs,k=>jpg ks vs (keyD k)
 |_,_=>.stk
noncomputable def sIx (n d:Nat):Option Int->Nat
 |none=>d
 |some v=>if v<0 then (v+n).toNat else min v.toNat n
noncomputable def cut {α:Type}(xs:List α)(lo hi:Option Int):List α:=(xs.drop (sIx xs.length 0 lo)).take (sIx xs.length xs.length hi - sIx xs.length 0 lo)
noncomputable def jiZ:D->Option Int->Option Int->R Vl
 |.tup xs,lo,hi=>.ok (.dat (.tup (cut xs lo hi)))
 |.lst xs,lo,hi=>.ok (.tmp (.l (cut xs lo hi)))
 |_,_,_=>.stk
noncomputable def jau:List D->Option (List Bool)
 |[]=>some []
 |.bl b::r=>(jau r).map (b::·)
 |.int i::r=>(jau r).map ((i != 0)::·)
 |_::_=>none
noncomputable def jkC:List Int->Int->Int
 |[],m=>m
 |x::r,m=>jkC r (if x<m then x else m)
noncomputable def jih:List Int->Int->Int
 |[],m=>m
 |x::r,m=>jih r (if x>m then x else m)
noncomputable def ji0 (x:List Int):List @9->List @9
 |[]=>[x]
 |y::r=>if lexLt y x then y::ji0 x r else x::y::r
noncomputable def jbn:List @9->List @9
 |[]=>[]
 |x::r=>ji0 x (jbn r)
noncomputable def jnE:List @9->List @9
 |[]=>[]
 |x::r=>if r.contains x then jnE r else x::jnE r
noncomputable def jaN:List D->Option (List @9)
 |[]=>some []
 |.tup xs::r=>match jaD xs,jaN r with
  |some k,some ks=>some (k::ks)
  |_,_=>none
 |_::_=>none
noncomputable def jrn (k:List Int):D:=.tup (k.map .int)
noncomputable def jcX (kss:List @9):R Vl:=if kss.all (fun k=>!k.isEmpty)&&kss.length<4000 then .ok (.tmp (.l ((jbn kss).map jrn)))else .stk
noncomputable def jnF (a:Int)(n:Nat):List D:=(List.range n).map fun (k:Nat)=>D.int (a+(k:Int))
noncomputable def bfD (f:Bf)(d:D):R Vl:=match f with
 |.abs=>match d with
  |.int i=>.ok (.dat (.int (if i<0 then -i else i)))
  |_=>.stk
 |.int=>match d with
  |.int i=>.ok (.dat (.int i))
  |.bl b=>.ok (.dat (.int (if b then 1 else 0)))
  |_=>.stk
 |.len=>match d with
  |.str x=>if jbc x.length then .ok (.dat (.int x.length))else .stk
  |.dct ks _=>.ok (.dat (.int ks.length))
  |d=>(jat d).bind fun xs=>.ok (.dat (.int xs.length))
 |.tuple=>(jat d).bind fun xs=>.ok (.dat (.tup xs))
 |.list=>(jat d).bind fun xs=>.ok (.tmp (.l xs))
 |.all=>(jat d).bind fun xs=>match jau xs with | some bs=>.ok (.dat (.bl (bs.all id))) | none=>.stk
 |.any=>(jat d).bind fun xs=>match jau xs with | some bs=>.ok (.dat (.bl (bs.any id))) | none=>.stk
 |.sum=>(jat d).bind fun xs=>match jaD xs with | some ns=>.ok (.dat (.int ns.sum)) | none=>.stk
 |.min=>(jat d).bind fun xs=>match jaD xs with | some (n::ns)=>.ok (.dat (.int (jkC ns n))) | _=>.stk
 |.max=>(jat d).bind fun xs=>match jaD xs with | some (n::ns)=>.ok (.dat (.int (jih ns n))) | _=>.stk
 |.sorted=>match d with
  |.lst xs=>match jaN xs with | some kss=>jcX kss | none=>.stk
  |.dct ks _=>match jaN ks with | some kss=>jcX kss | none=>.stk
  |_=>.stk
 |.ssorted=>(jat d).bind fun xs=>match jaN xs with | some kss=>jcX (jnE kss) | none=>.stk
 |.revl=>match d with
  |.lst xs=>.ok (.tmp (.l xs.reverse))
  |_=>.stk
 |.revt=>match d with
  |.lst xs=>.ok (.dat (.tup xs.reverse))
  |.tup xs=>.ok (.dat (.tup xs.reverse))
  |_=>.stk
noncomputable def tyB:D->Ty->Bool
 |.bl _,t=>t == .bool || t == .int
 |.int _,t=>t == .int
 |.str _,t=>t == .str
 |.tup _,t=>t == .tuple
 |.lst _,t=>t == .list
 |.dct _ _,t=>t == .dict
 |_,_=>false
noncomputable def tyP (d:D):Ty->R Bool
 |.exc _=>.stk
 |.verr=>.stk
 |t=>.ok (tyB d t)
section
variable (U:Nat->Nat->Bool)
noncomputable def jph (d:D)(t:Ty):R Bool:=match d with
 |.exc c=>match t with
  |.exc k=>.ok (U c k)
  |.verr=>.ok true
  |_=>.stk
 |d=>tyP d t
noncomputable def jaj:D->List Ty->R Bool
 |_,[]=>.ok false
 |d,t::r=>(jph U d t).bind fun b=>if b then .ok true else jaj d r
end
noncomputable def jeH:D->R (List D)
 |.int n=>if -16777216<=n/\n<=16777216 then .ok (jnF 0 n.toNat)else .stk
 |_=>.stk
noncomputable def jeI:List D->List D->List D
 |a::as,b::bs=>.tup [a,b]::jeI as bs
 |_,_=>[]
noncomputable def jdx:Int->List D->List D
 |_,[]=>[]
 |k,x::r=>.tup [.int k,x]::jdx (k+1) r
noncomputable def deref (v:Vl)(ρ:Rho):R D:=match v with
 |.dat d=>.ok d
 |.tmp o=>.ok o.toD
 |.slot i=>match ρ[i]? with | some (.own o _ _)=>.ok o.toD | _=>.stk
noncomputable def toD (v:Vl)(ρ:Rho):R (D×Rho):=match v with
 |.dat d=>.ok (d,ρ)
 |.tmp o=>.ok (o.toD,ρ)
 |.slot i=>match ρ[i]? with
  |some (.own o false false)=>.ok (o.toD,ρ.set i (.dat o.toD))
  |some (.dat d)=>.ok (d,ρ)
  |_=>.stk
noncomputable def jgu (v:Vl)(ρ:Rho):R (Sl×Rho):=match v with
 |.tmp o=>.ok (.own o false false,ρ)
 |v=>(toD v ρ).bind fun p=>.ok (.dat p.1,p.2)
noncomputable def putT (tg:List Nat)(one:Bool)(d:D)(ρ:Rho):R Rho:=match one,tg,d with
 |true,[i],d=>.ok (ρ.set i (.dat d))
 |false,is,.tup xs=>if is.length=xs.length then .ok ((is.zip xs).foldl (fun r p=>r.set p.1 (.dat p.2)) ρ)else .stk
 |_,_,_=>.stk
noncomputable def jan (v:Vl)(ρ:Rho):R (List D×List Nat×Rho):=match v with
 |.dat d=>(jat d).bind fun xs=>.ok (xs,[],ρ)
 |.tmp (.l xs)=>.ok (xs,[],ρ)
 |.slot i=>match ρ[i]? with
  |some (.own (.l xs) _ true)=>.ok (xs,[],ρ)
  |some (.own (.l xs) f false)=>.ok (xs,[i],ρ.set i (.own (.l xs) f true))
  |_=>.stk
 |_=>.stk
noncomputable def jaX (v:Vl)(ρ:Rho):R (List D×List Nat×Rho):=match v with
 |.dat (.dct ks _)=>.ok (ks,[],ρ)
 |.tmp (.d ks _)=>.ok (ks,[],ρ)
 |.slot i=>match ρ[i]? with
  |some (.own (.d ks _) _ true)=>.ok (ks,[],ρ)
  |some (.own (.d ks vs) f false)=>.ok (ks,[i],ρ.set i (.own (.d ks vs) f true))
  |_=>jan (.slot i) ρ
 |v=>jan v ρ
noncomputable def unlk:List Nat->Rho->Rho
 |[],ρ=>ρ
 |i::r,ρ=>unlk r (match ρ[i]? with | some (.own o f _)=>ρ.set i (.own o f false) | _=>ρ)
noncomputable def jhu (ls:List Nat):Fl->Fl
 |.nx ρ=>.nx (unlk ls ρ)
 |.bk ρ=>.bk (unlk ls ρ)
 |.ct ρ=>.ct (unlk ls ρ)
 |.rt v ρ=>.rt v (unlk ls ρ)
noncomputable def compGo (f:D->Rho->R (Option D×Rho)):List D->Rho->R (List D×Rho)
 |[],ρ=>.ok ([],ρ)
 |x::xs,ρ=>(f x ρ).bind fun p=>(compGo f xs p.2).bind fun q=>.ok (match p.1 with | some d=>d::q.1 | none=>q.1,q.2)
noncomputable def jce (ρ:Rho)(caps:List Nat):Rho:=caps.map fun i=>match ρ[i]? with | some s=>s | none=>.no
noncomputable def jdt (nt:Nat)(caps:List Nat)(ρ:Rho):Rho:=List.replicate nt .no++jce ρ caps
noncomputable def jaB:List Nat->Nat->Rho->Rho->Rho
 |[],_,_,ρ=>ρ
 |j::r,k,inn,ρ=>jaB r (k+1) inn (match inn[k]? with | some s=>ρ.set j s | none=>ρ)
noncomputable def jeJ (lend:Bool)(v:Vl)(ρ:Rho):R (Sl×Option (Nat×Bool×Bool)×Rho):=match lend,v with
 |true,.slot i=>match ρ[i]? with
  |some (.own o f k)=>.ok (.own o true k,some (i,f,k),ρ.set i .no)
  |_=>.stk
 |_,v=>(toD v ρ).bind fun p=>.ok (.dat p.1,none,p.2)
noncomputable def jak:List Bool->List Vl->Rho->R (List Sl×List (Option (Nat×Bool×Bool))×Rho)
 |_,[],ρ=>.ok ([],[],ρ)
 |fl,v::vs,ρ=>(jeJ (fl.headD false) v ρ).bind fun p=>(jak fl.tail vs p.2.2).bind fun q=>.ok (p.1::q.1,p.2.1::q.2.1,q.2.2)
noncomputable def jbd:List (Option (Nat×Bool×Bool))->List Sl->Rho->Rho
 |[],_,ρ=>ρ
 |_,[],ρ=>ρ
 |none::r,_::fs,ρ=>jbd r fs ρ
 |some (i,f,k)::r,s::fs,ρ=>jbd r fs (match s with | .own o _ _=>ρ.set i (.own o f k) | _=>ρ)
noncomputable def jtm:Sl->Sl
 |.own o true k=>.own o true k
 |_=>.no
noncomputable def jcY:Vl->R Bool
 |.dat (.bl b)=>.ok b
 |_=>.stk
noncomputable abbrev Calls:=Nat->List Sl->R (Vl×List Sl)
section
variable (G:Calls) (U:Nat->Nat->Bool)
mutual
noncomputable def evE:E->Rho->R (Vl×Rho)
 |.lit d,ρ=>.ok (.dat d,ρ)
 |.emp,ρ=>.ok (.tmp (.d [] []),ρ)
 |.dis k v,ρ=>(evE k ρ).bind fun p=>(toD p.1 p.2).bind fun a=>(evE v a.2).bind fun q=>(toD q.1 q.2).bind fun b=>if (keyD a.1).isSome then .ok (.tmp (.d [a.1] [b.1]),b.2)else .stk
 |.var i,ρ=>match ρ[i]? with | some (.dat d)=>.ok (.dat d,ρ) | some (.own _ _ _)=>.ok (.slot i,ρ) | _=>.stk
 |.bin o a b,ρ=>(evE a ρ).bind fun p=>(evE b p.2).bind fun q=>(deref p.1 q.2).bind fun x=>(deref q.1 q.2).bind fun y=>(opD o x y).bind fun v=>.ok (v,q.2)
 |.neg a,ρ=>(evE a ρ).bind fun p=>(deref p.1 p.2).bind fun x=>(jrm x).bind fun d=>.ok (.dat d,p.2)
 |.cmp o a b,ρ=>(evE a ρ).bind fun p=>(evE b p.2).bind fun q=>(deref p.1 q.2).bind fun x=>(deref q.1 q.2).bind fun y=>(cmD o x y).bind fun c=>.ok (.dat (.bl c),q.2)
 |.and a b,ρ=>(evE a ρ).bind fun p=>(jcY p.1).bind fun t=>if t then (evE b p.2).bind fun q=>(jcY q.1).bind fun u=>.ok (.dat (.bl u),q.2)else .ok (.dat (.bl false),p.2)
 |.or a b,ρ=>(evE a ρ).bind fun p=>(jcY p.1).bind fun t=>if t then .ok (.dat (.bl true),p.2)else (evE b p.2).bind fun q=>(jcY q.1).bind fun u=>.ok (.dat (.bl u),q.2)
 |.not a,ρ=>(evE a ρ).bind fun p=>(jcY p.1).bind fun t=>.ok (.dat (.bl (!t)),p.2)
 |.ite c a b,ρ=>(evT c ρ).bind fun t=>if t.1 then evE a t.2 else evE b t.2
 |.tup es,ρ=>(evEs es ρ).bind fun p=>if jbc p.1.length then .ok (.dat (.tup p.1),p.2)else .stk
 |.lst es,ρ=>(evEs es ρ).bind fun p=>if jbc p.1.length then .ok (.tmp (.l p.1),p.2)else .stk
 |.idx a b,ρ=>(evE a ρ).bind fun p=>(evE b p.2).bind fun q=>(deref p.1 q.2).bind fun x=>(deref q.1 q.2).bind fun y=>(jht x y).bind fun d=>.ok (.dat d,q.2)
 |.slc a lo hi,ρ=>(evE a ρ).bind fun p=>(evO lo p.2).bind fun l=>(evO hi l.2).bind fun h=>(deref p.1 h.2).bind fun x=>(jiZ x l.1 h.1).bind fun v=>.ok (v,h.2)
 |.call f fl es,ρ=>(evAs es ρ).bind fun p=>(jak fl p.1 p.2).bind fun q=>(G f q.1).bind fun r=>.ok (r.1,jbd q.2.1 r.2 q.2.2)
 |.blt f a,ρ=>(evE a ρ).bind fun p=>(deref p.1 p.2).bind fun x=>(bfD f x).bind fun v=>.ok (v,p.2)
 |.isi a ks,ρ=>(evE a ρ).bind fun p=>(deref p.1 p.2).bind fun x=>(jaj U x ks).bind fun b=>.ok (.dat (.bl b),p.2)
 |.comp elt tg one n caps it c x,ρ=>(evI it ρ).bind fun t=>((compGo (fun x r=>(putT tg one x (jdt n caps r)).bind fun r'=>
   match c with
   |.none=>(evE elt r').bind fun p=>(toD p.1 p.2).bind fun q=>.ok (some q.1,jaB caps n q.2 r)
   |.some k=>(evT k r').bind fun b=>if b.1 then (evE elt b.2).bind fun p=>(toD p.1 p.2).bind fun q=>.ok (some q.1,jaB caps n q.2 r)else .ok (none,jaB caps n b.2 r)) t.1 t.2.2).pass x).bind fun ys=>.ok (.tmp (.l ys.1),unlk t.2.1 ys.2)
 |.pop i,ρ=>match ρ[i]? with
  |some (.own (.l xs) f false)=>match xs.getLast? with
   |some d=>.ok (.dat d,ρ.set i (.own (.l xs.dropLast) f false))
   |none=>.stk
  |_=>.stk
noncomputable def evT:E->Rho->R (Bool×Rho)
 |.and a b,ρ=>(evT a ρ).bind fun p=>if p.1 then evT b p.2 else .ok (false,p.2)
 |.or a b,ρ=>(evT a ρ).bind fun p=>if p.1 then .ok (true,p.2)else evT b p.2
 |.not a,ρ=>(evT a ρ).bind fun p=>.ok (!p.1,p.2)
 |.cmp o a b,ρ=>(evE a ρ).bind fun p=>(evE b p.2).bind fun q=>(deref p.1 q.2).bind fun x=>(deref q.1 q.2).bind fun y=>(cmD o x y).bind fun c=>.ok (c,q.2)
 |.var i,ρ=>match ρ[i]? with | some (.dat d)=>(jbF d).bind fun b=>.ok (b,ρ) | some (.own o _ _)=>(jbF o.toD).bind fun b=>.ok (b,ρ) | _=>.stk
 |.isi a ks,ρ=>(evE a ρ).bind fun p=>(deref p.1 p.2).bind fun x=>(jaj U x ks).bind fun b=>.ok (b,p.2)
 |.call f fl es,ρ=>(evAs es ρ).bind fun p=>(jak fl p.1 p.2).bind fun q=>(G f q.1).bind fun r=>(deref r.1 []).bind fun d=>(jbF d).bind fun b=>.ok (b,jbd q.2.1 r.2 q.2.2)
 |.blt f a,ρ=>(evE a ρ).bind fun p=>(deref p.1 p.2).bind fun x=>(bfD f x).bind fun v=>(deref v []).bind fun d=>(jbF d).bind fun b=>.ok (b,p.2)
 |.idx a b,ρ=>(evE a ρ).bind fun p=>(evE b p.2).bind fun q=>(deref p.1 q.2).bind fun x=>(deref q.1 q.2).bind fun y=>(jht x y).bind fun d=>(jbF d).bind fun t=>.ok (t,q.2)
 |.lit d,ρ=>(jbF d).bind fun b=>.ok (b,ρ)
 |.bin o a b,ρ=>(evE a ρ).bind fun p=>(evE b p.2).bind fun q=>(deref p.1 q.2).bind fun x=>(deref q.1 q.2).bind fun y=>(opD o x y).bind fun v=>(deref v []).bind fun d=>(jbF d).bind fun t=>.ok (t,q.2)
 |.slc a lo hi,ρ=>(evE a ρ).bind fun p=>(evO lo p.2).bind fun l=>(evO hi l.2).bind fun h=>(deref p.1 h.2).bind fun x=>(jiZ x l.1 h.1).bind fun v=>(deref v []).bind fun d=>(jbF d).bind fun b=>.ok (b,h.2)
 |.emp,_=>.stk
 |.dis _ _,_=>.stk
 |.neg _,_=>.stk
 |.ite _ _ _,_=>.stk
 |.tup _,_=>.stk
 |.lst _,_=>.stk
 |.comp _ _ _ _ _ _ _ _,_=>.stk
 |.pop _,_=>.stk
noncomputable def evEs:Es->Rho->R (List D×Rho)
 |.nil,ρ=>.ok ([],ρ)
 |.cons e es,ρ=>(evE e ρ).bind fun p=>(toD p.1 p.2).bind fun q=>(evEs es q.2).bind fun r=>.ok (q.1::r.1,r.2)
noncomputable def evAs:Es->Rho->R (List Vl×Rho)
 |.nil,ρ=>.ok ([],ρ)
 |.cons e es,ρ=>(evE e ρ).bind fun p=>(evAs es p.2).bind fun r=>.ok (p.1::r.1,r.2)
noncomputable def evO:Oe->Rho->R (Option Int×Rho)
 |.none,ρ=>.ok (none,ρ)
 |.some e,ρ=>(evE e ρ).bind fun p=>match p.1 with | .dat (.int i)=>.ok (some i,p.2) | _=>.stk
noncomputable def evI:It->Rho->R (List D×List Nat×Rho)
 |.seq e,ρ=>(evE e ρ).bind fun p=>jaX p.1 p.2
 |.rng1 a,ρ=>(evE a ρ).bind fun p=>(deref p.1 p.2).bind fun x=>(jeH x).bind fun xs=>.ok (xs,[],p.2)
 |.zip a b,ρ=>(evE a ρ).bind fun p=>(evE b p.2).bind fun q=>(jan p.1 q.2).bind fun x=>(jan q.1 x.2.2).bind fun y=>.ok (jeI x.1 y.1,x.2.1++y.2.1,y.2.2)
 |.enum a,ρ=>(evE a ρ).bind fun p=>(jan p.1 p.2).bind fun x=>.ok (jdx 0 x.1,x.2.1,x.2.2)
end
noncomputable def jnG (g:Rho->R Fl):Fl->R Fl
 |.nx ρ=>g ρ
 |r=>.ok r
noncomputable def ja6 (f:D->Rho->R Fl):List D->Rho->R Fl
 |[],ρ=>.ok (.nx ρ)
 |x::xs,ρ=>(f x ρ).bind fun r=>match r with
  |.nx ρ'=>ja6 f xs ρ'
  |.ct ρ'=>ja6 f xs ρ'
  |.bk ρ'=>.ok (.nx ρ')
  |.rt v ρ'=>.ok (.rt v ρ')
noncomputable def jbZ (c:Rho->R (Bool×Rho))(f:Rho->R Fl):Nat->Rho->R Fl
 |0,_=>.stk
 |n+1,ρ=>(c ρ).bind fun b=>if b.1 then (f b.2).bind fun r=>match r with
  |.nx ρ'=>jbZ c f n ρ'
  |.ct ρ'=>jbZ c f n ρ'
  |.bk ρ'=>.ok (.nx ρ')
  |.rt v ρ'=>.ok (.rt v ρ')else .ok (.nx b.2)
noncomputable def jli (v:Vl)(ρ:Rho):R Fl:=match v with
 |.dat d=>.ok (.rt (.dat d) ρ)
 |.tmp o=>.ok (.rt (.tmp o) ρ)
 |.slot i=>match ρ[i]? with | some (.own o false false)=>.ok (.rt (.tmp o) (ρ.set i .no)) | _=>.stk
variable (W:Nat)
mutual
noncomputable def evS:S->Rho->R Fl
 |.ret e,ρ=>(evE G U e ρ).bind fun p=>jli p.1 p.2
 |.retN,ρ=>.ok (.rt (.dat .non) ρ)
 |.expr e,ρ=>(evE G U e ρ).bind fun p=>.ok (.nx p.2)
 |.asg i e,ρ=>(evE G U e ρ).bind fun p=>(jgu p.1 p.2).bind fun q=>if i<q.2.length then .ok (.nx (q.2.set i q.1))else .stk
 |.unp is e,ρ=>(evE G U e ρ).bind fun p=>(deref p.1 p.2).bind fun d=>(jat d).bind fun xs=>(putT is false (.tup xs) p.2).bind fun ρ'=>.ok (.nx ρ')
 |.app i e,ρ=>match ρ[i]? with
  |some (.own (.l _) _ _)=>(evE G U e ρ).bind fun p=>(toD p.1 p.2).bind fun q=>match q.2[i]? with
   |some (.own (.l xs) f false)=>if jbc (xs.length+1)then .ok (.nx (q.2.set i (.own (.l (xs++[q.1])) f false)))else .stk
   |_=>.stk
  |_=>.stk
 |.ext i e,ρ=>match ρ[i]? with
  |some (.own (.l _) _ _)=>(evE G U e ρ).bind fun p=>(deref p.1 p.2).bind fun x=>(jat x).bind fun ys=>match p.2[i]? with
   |some (.own (.l xs) f false)=>if jbc (xs.length+ys.length)then .ok (.nx (p.2.set i (.own (.l (xs++ys)) f false)))else .stk
   |_=>.stk
  |_=>.stk
 |.sub i k e,ρ=>(evE G U e ρ).bind fun p=>(toD p.1 p.2).bind fun q=>match q.2[i]? with
  |some (.own (.l _) _ _)=>(evE G U k q.2).bind fun kd=>match kd.2[i]?,kd.1 with
   |some (.own (.l xs) f false),.dat (.int j)=>if 0<=j/\j<xs.length then .ok (.nx (kd.2.set i (.own (.l (xs.set j.toNat q.1)) f false)))else .stk
   |_,_=>.stk
  |some (.own (.d _ _) _ _)=>(evE G U k q.2).bind fun kd=>(toD kd.1 kd.2).bind fun kq=>match kq.2[i]?,keyD kq.1 with
   |some (.own (.d ks vs) f false),some key=>if jbc (ks.length+1)then .ok (.nx (kq.2.set i (.own (jnD ks vs kq.1 key q.1) f false)))else .stk
   |_,_=>.stk
  |_=>.stk
 |.ife c a b,ρ=>(evT G U c ρ).bind fun t=>if t.1 then evSs a t.2 else evSs b t.2
 |.loop tg one it b,ρ=>(evI G U it ρ).bind fun t=>(ja6 (fun x r=>(putT tg one x r).bind fun r'=>evSs b r') t.1 t.2.2).bind fun r=>.ok (jhu t.2.1 r)
 |.whl c b,ρ=>jbZ (fun r=>evT G U c r) (fun r=>evSs b r) W ρ
 |.brk,ρ=>.ok (.bk ρ)
 |.cnt,ρ=>.ok (.ct ρ)
 |.pas,ρ=>.ok (.nx ρ)
 |.rai _ _,_=>.stk
noncomputable def evSs:Ss->Rho->R Fl
 |.nil,ρ=>.ok (.nx ρ)
 |.cons s ss,ρ=>(evS s ρ).bind (jnG fun ρ'=>evSs ss ρ')
end
end
structure Def where
 ps:Nat
 n:Nat
 body:Ss
noncomputable def finL (k:Nat)(ρ:Rho):List Sl:=(List.range k).map fun j=>match ρ[j]? with | some s=>jtm s | none=>.no
noncomputable def jcZ (k:Nat):Fl->R (Vl×List Sl)
 |.rt v ρ=>.ok (v,finL k ρ)
 |.nx ρ=>.ok (.dat .non,finL k ρ)
 |_=>.stk
noncomputable def jaa (U:Nat->Nat->Bool)(W:Nat)(P:List Def):Nat->Calls
 |0=>fun _ _=>.stk
 |n+1=>fun f xs=>match P[f]? with
  |none=>.stk
  |some d=>if xs.length=d.ps then (evSs (jaa U W P n) U W d.body (xs++List.replicate (d.n - d.ps) .no)).bind (jcZ d.ps)else .stk
end DJ
namespace DJ
open PySem PySem.Spec PyProof.Rows L2
noncomputable abbrev Frag:=PySem.W.Frag
structure Kn where
 K:Frag
 cl:List Addr
noncomputable def KT (K:Frag)(a:Addr)(xs:List V):Prop:=∃(o:Obj) (its:Array Value) (n:Nat),K.lookup a=some o/\o.cls=.type "tuple"/\o.data=.seq its n/\its.size<=sizeLine/\Vals xs its.toList
noncomputable def KL (K:Frag)(a:Addr)(xs:List V):Prop:=∃(o:Obj) (its:Array Value) (n:Nat),K.lookup a=some o/\o.cls=.type "list"/\o.dict=none/\o.data=.seq its n/\its.size<=sizeLine/\Vals xs its.toList
noncomputable def FT (K:Frag)(F:Addr->Prop)(H:Hp)(a:Addr)(xs:List V):Prop:=(F a/\Rd H a (.tup xs))\/KT K a xs
noncomputable def FL (K:Frag)(F:Addr->Prop)(H:Hp)(a:Addr)(xs:List V):Prop:=(F a/\Rd H a (.lst xs))\/KL K a xs
theorem FT.sq {K:Frag}{F:Addr->Prop}{H:Hp}{a:Addr}{xs:List V}(h:FT K F H a xs):SqT K H a xs:=h.imp (·.2) id
theorem FL.sq {K:Frag}{F:Addr->Prop}{H:Hp}{a:Addr}{xs:List V}(h:FL K F H a xs):SqL K H a xs:=h.imp (·.2) id
noncomputable def jmG (a C:Addr)(h:Heap):Prop:=∃o vs,h.get? a=some o/\o.cls=.ref C/\o.data=.fields vs
structure DicI (ks:List D)(xs:List (List Key×Addr×Value))(us ws:List V):Prop where
 us:us=xs.map fun x=>V.ref x.2.1
 ws:Vals ws (xs.map (·.2.2))
 ks:ks.map keyD=xs.map fun x=>some x.1
 nd:(xs.map (·.1)).Nodup
 sz:xs.length<=sizeLine
section
variable (Z:Kn) (F:Addr->Prop) (H:Hp)
mutual
noncomputable def Rep:D->V->Prop
 |.non,v=>v=.non
 |.bl b,v=>v=.bl b
 |.int i,v=>v=.int i
 |.str x,v=>v=.str x
 |.tup ds,v=>∃a vs,v=.ref a/\FT Z.K F H a vs/\Reps ds vs
 |.lst ds,v=>∃a vs,v=.ref a/\FL Z.K F H a vs/\Reps ds vs
 |.dct ks vs,v=>∃a us ws xs,v=.ref a/\F a/\(∃ep,H a=some (.dT xs ep))/\Reps ks us/\Reps vs ws/\DicI ks xs us ws
 |.exc c,v=>∃a C,v=.ref a/\F a/\Z.cl[c]?=some C/\H a=some (.ext (jmG a C))
noncomputable def Reps:List D->List V->Prop
 |[],vs=>vs=[]
 |d::ds,vs=>∃v r,vs=v::r/\Rep d v/\Reps ds r
end
noncomputable def HasO (l:Addr):O->Prop
 |.l xs=>∃vs,H l=some (.lst vs)/\Reps Z F H xs vs
 |.d ks vs=>∃us ws xs,(∃ep,H l=some (.dT xs ep))/\Reps Z F H ks us/\Reps Z F H vs ws/\DicI ks xs us ws
end
noncomputable def Keep (F F':Addr->Prop)(H H':Hp):Prop:=∀a,F a->F' a/\H' a=H a
theorem Keep.rd {F F':Addr->Prop}{H H':Hp}(k:Keep F F' H H'){a:Addr}{u:HO}(h:F a/\Rd H a u):F' a/\Rd H' a u:=by
 obtain⟨f,e⟩:=k a h.1;refine⟨f,?_⟩;unfold Rd;rw[e];exact h.2
theorem Keep.refl {F:Addr->Prop}{H:Hp}:Keep F F H H:=fun _ h=>⟨h,rfl⟩
theorem Keep.trans {F F1 F2:Addr->Prop}{H H1 H2:Hp}(a:Keep F F1 H H1)(b:Keep F1 F2 H1 H2):Keep F F2 H H2:=fun x h=>by
 obtain⟨f1,e1⟩:=a x h;obtain⟨f2,e2⟩:=b x f1;exact⟨f2,e2.trans e1⟩
section
variable {Z:Kn}{F F':Addr->Prop}{H H':Hp}
mutual
theorem Rep.mono (k:Keep F F' H H'):∀{d:D}{v:V},Rep Z F H d v->Rep Z F' H' d v
 |.non,_,h=>by simpa only[Rep] using h
 |.bl _,_,h=>by simpa only[Rep] using h
 |.int _,_,h=>by simpa only[Rep] using h
 |.str _,_,h=>by simpa only[Rep] using h
 |.tup ds,v,h=>by
  simp only[Rep]at h ⊢;obtain⟨a,vs,e,q,r⟩:=h;exact⟨a,vs,e,q.imp k.rd id,Reps.mono k r⟩
 |.lst ds,v,h=>by
  simp only[Rep]at h ⊢;obtain⟨a,vs,e,q,r⟩:=h;exact⟨a,vs,e,q.imp k.rd id,Reps.mono k r⟩
 |.dct ks vs,v,h=>by
  simp only[Rep]at h ⊢;obtain⟨a,us,ws,xs,e,q,h1,r1,r2,i⟩:=h;obtain⟨f,e'⟩:=k a q;exact⟨a,us,ws,xs,e,f,h1.imp fun _ h=>e'.trans h,Reps.mono k r1,Reps.mono k r2,i⟩
 |.exc c,v,h=>by
  simp only[Rep]at h ⊢;obtain⟨a,C,e,q,h1,r⟩:=h;obtain⟨f,e'⟩:=k a q;exact⟨a,C,e,f,h1,e'.trans r⟩
theorem Reps.mono (k:Keep F F' H H'):∀{ds:List D}{vs:List V},Reps Z F H ds vs->Reps Z F' H' ds vs
 |[],_,h=>by simpa only[Reps] using h
 |d::ds,vs,h=>by
  simp only[Reps]at h ⊢;obtain⟨v,r,e,h1,h2⟩:=h;exact⟨v,r,e,Rep.mono k h1,Reps.mono k h2⟩
end
theorem HasO.mono (k:Keep F F' H H'){l:Addr}(e:H' l=H l):∀{o:O},HasO Z F H l o->HasO Z F' H' l o
 |.l xs,⟨vs,h1,h2⟩=>⟨vs,e.trans h1,h2.mono k⟩
 |.d ks vs,⟨us,ws,xs,h1,h2,h3,i⟩=>⟨us,ws,xs,h1.imp fun _ h=>e.trans h,h2.mono k,h3.mono k,i⟩
theorem HasO.some {l:Addr}{o:O}(h:HasO Z F H l o):∃u,H l=Option.some u:=by
 cases o with
 |l xs=>obtain⟨vs,e,_⟩:=h;exact⟨_,e⟩
 |d ks vs=>obtain⟨us,ws,xs,⟨_,e⟩,_⟩:=h;exact⟨_,e⟩
theorem Reps.length:∀{ds:List D}{vs:List V},Reps Z F H ds vs->ds.length=vs.length
 |[],vs,h=>by simp only[Reps]at h;subst h;rfl
 |d::ds,vs,h=>by
  simp only[Reps]at h;obtain⟨v,r,rfl,_,h2⟩:=h;rw[jtR,jtR,Reps.length h2]
theorem Reps.get:∀{ds:List D}{vs:List V}{i:Nat}{d:D},Reps Z F H ds vs->ds[i]?=some d->∃v,vs[i]?=some v/\Rep Z F H d v
 |[],_,_,_,_,e=>by simp at e
 |x::ds,vs,0,d,h,e=>by
  simp only[Reps]at h;obtain⟨v,r,rfl,h1,_⟩:=h;simp at e;subst e;exact⟨v,rfl,h1⟩
 |x::ds,vs,i+1,d,h,e=>by
  simp only[Reps]at h;obtain⟨v,r,rfl,_,h2⟩:=h;obtain⟨u,e1,e2⟩:=Reps.get (i:=i) h2 (by simpa using e)
  exact⟨u,by simpa using e1,e2⟩
theorem Reps.append:∀{ds es:List D}{vs us:List V},Reps Z F H ds vs->Reps Z F H es us->Reps Z F H (ds++es) (vs++us)
 |[],_,_,_,h,h'=>by simp only[Reps]at h;subst h;exact h'
 |d::ds,es,vs,us,h,h'=>by
  simp only[Reps]at h;obtain⟨v,r,rfl,h1,h2⟩:=h;show Reps Z F H (d::(ds++es)) (v::(r++us));simp only[Reps];exact⟨v,_,rfl,h1,Reps.append h2 h'⟩
theorem Reps.drop:∀{ds:List D}{vs:List V} (n:Nat),Reps Z F H ds vs->Reps Z F H (ds.drop n) (vs.drop n)
 |_,_,0,h=>h
 |[],vs,n+1,h=>by simp only[Reps]at h;subst h;simp[Reps]
 |d::ds,vs,n+1,h=>by
  simp only[Reps]at h;obtain⟨v,r,rfl,h1,h2⟩:=h;exact Reps.drop n h2
theorem Reps.take:∀{ds:List D}{vs:List V} (n:Nat),Reps Z F H ds vs->Reps Z F H (ds.take n) (vs.take n)
 |_,_,0,h=>by simp[Reps]
 |[],vs,n+1,h=>by simp only[Reps]at h;subst h;simp[Reps]
 |d::ds,vs,n+1,h=>by
  simp only[Reps]at h;obtain⟨v,r,rfl,h1,h2⟩:=h;simp only[List.take_succ_cons,Reps];exact⟨v,_,rfl,h1,Reps.take n h2⟩
theorem Reps.set {d:D}{v:V}(hd:Rep Z F H d v):∀{ds:List D}{vs:List V} (i:Nat),Reps Z F H ds vs->Reps Z F H (ds.set i d) (vs.set i v)
 |[],vs,i,h=>by simp only[Reps]at h;subst h;simp[Reps]
 |e::ds,vs,0,h=>by
  simp only[Reps]at h;obtain⟨u,r,rfl,h1,h2⟩:=h;simp only[List.set_cons_zero,Reps];exact⟨v,_,rfl,hd,h2⟩
 |e::ds,vs,i+1,h=>by
  simp only[Reps]at h;obtain⟨u,r,rfl,h1,h2⟩:=h;simp only[List.set_cons_succ,Reps];exact⟨u,_,rfl,h1,Reps.set hd i h2⟩
theorem Reps.one {d:D}{v:V}(hd:Rep Z F H d v):Reps Z F H [d] [v]:=by simp only[Reps];exact⟨v,[],rfl,hd,rfl⟩
theorem Reps.nil:Reps Z F H [] []:=by simp only[Reps]
theorem Reps.cons {d:D}{v:V}{ds:List D}{vs:List V}(hd:Rep Z F H d v)(h:Reps Z F H ds vs):Reps Z F H (d::ds) (v::vs):=by simp only[Reps];exact⟨v,vs,rfl,hd,h⟩
theorem Reps.uncons {d:D}{ds:List D}{us:List V}(h:Reps Z F H (d::ds) us):∃v vs,us=v::vs/\Rep Z F H d v/\Reps Z F H ds vs:=by simpa only[Reps] using h
theorem Reps.reverse {ds:List D}{vs:List V}(h:Reps Z F H ds vs):Reps Z F H ds.reverse vs.reverse:=by
 induction ds generalizing vs with
 |nil=>simp only[Reps]at h;subst h;exact .nil
 |cons d ds ih=>
  simp only[Reps]at h;obtain⟨v,r,rfl,h1,h2⟩:=h;rw[List.reverse_cons,List.reverse_cons];exact(ih h2).append (.one h1)
theorem Reps.dropLast {ds:List D}{vs:List V}(h:Reps Z F H ds vs):Reps Z F H ds.dropLast vs.dropLast:=by
 rw[List.dropLast_eq_take,List.dropLast_eq_take,h.length];exact h.take _
theorem Reps.rep {ds:List D}{vs:List V}(h:Reps Z F H ds vs):∀k:Nat,Reps Z F H (List.replicate k ds).flatten (List.replicate k vs).flatten
 |0=>.nil
 |k+1=>by
  rw[List.replicate_succ,List.replicate_succ,List.flatten_cons,List.flatten_cons];exact h.append (Reps.rep h k)
end
noncomputable def Dom (F:Addr->Prop)(H:Hp):Prop:=∀a,F a->∃o,H a=some o
structure Bs where
 hp:Hp
 lent:Nat->Option Addr
noncomputable def OwR (Z:Kn)(B:Bs)(F:Addr->Prop)(H:Hp)(i:Nat)(o:O)(f:Bool)(l:Addr):Prop:=¬F l/\HasO Z F H l o/\(f=true->B.lent i=some l)/\(f=false->B.hp l=none)
structure SR (Z:Kn)(B:Bs)(F:Addr->Prop)(H:Hp)(σ:L2.St)(ρ:Rho):Prop where
 dom:Dom F H
 len:ρ.length=σ.length
 dat:∀(i:Nat) (d:D),ρ[i]?=some (.dat d)->∃v,σ[i]?=some (some v)/\Rep Z F H d v
 own:∀(i:Nat) (o:O) (f k:Bool),ρ[i]?=some (.own o f k)->∃l,σ[i]?=some (some (.ref l))/\OwR Z B F H i o f l
 one:∀(i j:Nat) (o o':O) (f k f' k':Bool) (l:Addr),i≠j->ρ[i]?=some (.own o f k)->ρ[j]?=some (.own o' f' k')->σ[i]?=some (some (.ref l))->σ[j]?≠some (some (.ref l))
 base:∀b,H b=none->B.hp b=none
inductive Ow (σ:L2.St) (ρ:Rho) (b:Addr):Prop
 |mk (i:Nat) (o:O) (f:Bool) (k:Bool):(ρ[i]?=some (.own o f k))->(σ[i]?=some (some (.ref b)))->Ow σ ρ b
inductive Mb (σ:L2.St) (ρ:Rho) (b:Addr):Prop
 |mk (i:Nat) (o:O) (f:Bool):(ρ[i]?=some (.own o f false))->(σ[i]?=some (some (.ref b)))->Mb σ ρ b
theorem Mb.ow {σ:L2.St}{ρ:Rho}{b:Addr}(h:Mb σ ρ b):Ow σ ρ b:=let ⟨i,o,f,h1,h2⟩:=h;⟨i,o,f,false,h1,h2⟩
structure Go (σ:L2.St)(ρ:Rho)(F:Addr->Prop)(H:Hp)(σ':L2.St)(ρ':Rho)(F':Addr->Prop)(H':Hp):Prop where
 stay:∀b o,H b=some o->¬Mb σ ρ b->H' b=some o
 sub:∀a,F a->F' a
 new:∀a,F' a->F a\/H a=none\/Mb σ ρ a
 ow:∀(j:Nat) (o:O) (f k:Bool) (b:Addr),ρ'[j]?=some (.own o f k)->σ'[j]?=some (some (.ref b))->(∃o0 k0,ρ[j]?=some (.own o0 f k0)/\σ[j]?=some (some (.ref b))/\(k0=true->k=true))\/H b=none
 there:∀b o,H b=some o->∃o',H' b=some o'
section
variable {Z:Kn}{B:Bs}{F F1 F2:Addr->Prop}{H H1 H2:Hp}{σ σ1 σ2:L2.St}{ρ ρ1 ρ2:Rho}
theorem SR.noF (r:SR Z B F H σ ρ){b:Addr}(h:Ow σ ρ b):¬F b:=by
 obtain⟨i,o,f,k,h1,h2⟩:=h;obtain⟨l,e,w⟩:=r.own i o f k h1;rw[h2]at e;cases e;exact w.1
theorem SR.there (r:SR Z B F H σ ρ){b:Addr}(h:Ow σ ρ b):∃u,H b=some u:=by
 obtain⟨i,o,f,k,h1,h2⟩:=h;obtain⟨l,e,w⟩:=r.own i o f k h1;rw[h2]at e;cases e;exact w.2.1.some
theorem Go.mb (g:Go σ ρ F H σ1 ρ1 F1 H1){b:Addr}(h:Mb σ1 ρ1 b):Mb σ ρ b\/H b=none:=by
 obtain⟨i,o,f,h1,h2⟩:=h;rcases g.ow i o f false b h1 h2 with ⟨o0,k0,e1,e2,e3⟩ | z
 ·cases k0 with
  |false=>exact .inl ⟨i,o0,f,e1,e2⟩
  |true=>exact absurd (e3 rfl) (by decide)
 ·exact .inr z
theorem Go.owA (g:Go σ ρ F H σ1 ρ1 F1 H1){b:Addr}(h:Ow σ1 ρ1 b):Ow σ ρ b\/H b=none:=by
 obtain⟨i,o,f,k,h1,h2⟩:=h;rcases g.ow i o f k b h1 h2 with ⟨o0,k0,e1,e2,e3⟩ | z
 ·exact .inl ⟨i,o0,f,k0,e1,e2⟩
 ·exact .inr z
theorem Go.self {j:Nat}{o:O}{f k:Bool}{b:Addr}(h1:ρ[j]?=some (.own o f k))(h2:σ[j]?=some (some (.ref b))):(∃o0 k0,ρ[j]?=some (.own o0 f k0)/\σ[j]?=some (some (.ref b))/\(k0=true->k=true))\/H b=none:=.inl ⟨o,k,h1,h2,id⟩
theorem Go.refl:Go σ ρ F H σ ρ F H:=⟨fun _ _ h _=>h,fun _ h=>h,fun _ h=>.inl h,fun _ _ _ _ _ h1 h2=>Go.self h1 h2,fun _ o h=>⟨o,h⟩⟩
theorem Go.trans (a:Go σ ρ F H σ1 ρ1 F1 H1)(b:Go σ1 ρ1 F1 H1 σ2 ρ2 F2 H2):Go σ ρ F H σ2 ρ2 F2 H2:=by
 have back:∀{c:Addr},H1 c=none->H c=none:=fun {c} h1=>by
  cases q:H c with
  |none=>rfl
  |some o=>obtain⟨u,e⟩:=a.there c o q;rw[h1]at e;cases e
 refine⟨fun c o h n=>b.stay c o (a.stay c o h n) fun m=>?_,fun c h=>b.sub c (a.sub c h),fun c h=>?_,fun j o f k c h1 h2=>?_,fun c o h=>let ⟨o1,h1⟩:=a.there c o h;b.there c o1 h1⟩
 ·rcases a.mb m with z | z
  ·exact n z
  ·rw[h]at z;cases z
 ·rcases b.new c h with z | z | z
  ·exact a.new c z
  ·exact .inr (.inl (back z))
  ·exact .inr ((a.mb z).elim .inr .inl)
 ·rcases b.ow j o f k c h1 h2 with ⟨o0,k0,e1,e2,e3⟩ | z
  ·rcases a.ow j o0 f k0 c e1 e2 with ⟨o1,k1,q1,q2,q3⟩ | z
   ·exact .inl ⟨o1,k1,q1,q2,fun w=>e3 (q3 w)⟩
   ·exact .inr z
  ·exact .inr (back z)
theorem Go.free (g:Go σ ρ F H σ1 ρ1 F1 H1){l:Addr}(h:H1 l=none):H l=none:=by
 cases q:H l with
 |none=>rfl
 |some o=>obtain⟨u,e⟩:=g.there l o q;rw[h]at e;cases e
theorem Go.keep (g:Go σ ρ F H σ1 ρ1 F1 H1)(r:SR Z B F H σ ρ):Keep F F1 H H1:=fun a h=>by
 obtain⟨o,e⟩:=r.dom a h;exact⟨g.sub a h,(g.stay a o e fun m=>r.noF m.ow h).trans e.symm⟩
theorem Go.side (g:Go σ ρ F H σ1 ρ1 F1 H1){l:Addr}{o:HO}(h:H l=some o)(hF:¬F l)(hO:¬Ow σ ρ l):H1 l=some o/\¬F1 l/\¬Ow σ1 ρ1 l:=by
 refine⟨g.stay l o h fun m=>hO m.ow,fun z=>?_,fun z=>?_⟩
 ·rcases g.new l z with q | q | q
  ·exact hF q
  ·rw[h]at q;cases q
  ·exact hO q.ow
 ·rcases g.owA z with q | q
  ·exact hO q
  ·rw[h]at q;cases q
structure Ext (F:Addr->Prop)(H:Hp)(F':Addr->Prop)(H':Hp):Prop where
 sub:∀a,F a->F' a
 same:Same H H'
 new:∀a,F' a->F a\/H a=none
 dom:∀a,F' a->∃o,H' a=some o
theorem Ext.refl (d:Dom F H):Ext F H F H:=⟨fun _ h=>h,Same.refl _,fun _ h=>.inl h,d⟩
theorem Ext.trans (a:Ext F H F1 H1)(b:Ext F1 H1 F2 H2):Ext F H F2 H2:=
 ⟨fun x h=>b.sub x (a.sub x h),a.same.trans b.same,fun x h=>(b.new x h).elim (a.new x) fun n=>.inr (a.same.free n),b.dom⟩
theorem Ext.keep (a:Ext F H F1 H1)(d:Dom F H):Keep F F1 H H1:=fun x h=>by
 obtain⟨o,e⟩:=d x h;exact⟨a.sub x h,(a.same x o e).trans e.symm⟩
theorem Ext.newF {p:Addr}{o:HO}(d:Dom F H)(h:H p=none):Ext F H (fun a=>F a\/a=p) (upd H p o):=
 ⟨fun _ h=>.inl h,fun b u e=>by rw[jac (jab e h)];exact e,fun a q=>q.imp id fun (e:a=p)=>by rw[e];exact h,fun a q=>by
  rcases q with q | rfl
  ·obtain⟨u,e⟩:=d a q;exact⟨u,by rw[jac (jab e h)];exact e⟩
  ·exact⟨o,jah⟩⟩
theorem Ext.newO {p:Addr}{o:HO}(d:Dom F H)(h:H p=none):Ext F H F (upd H p o):=
 ⟨fun _ h=>h,fun b u e=>by rw[jac (jab e h)];exact e,fun a q=>.inl q,fun a q=>by
  obtain⟨u,e⟩:=d a q;exact⟨u,by rw[jac (jab e h)];exact e⟩⟩
theorem Ext.go (e:Ext F H F1 H1):Go σ ρ F H σ ρ F1 H1:=⟨fun b o h _=>e.same b o h,e.sub,fun a h=>(e.new a h).imp id .inl,fun _ _ _ _ _ h1 h2=>Go.self h1 h2,fun b o h=>⟨o,e.same b o h⟩⟩
theorem SR.ext (r:SR Z B F H σ ρ)(e:Ext F H F1 H1):SR Z B F1 H1 σ ρ where
 dom:=e.dom
 len:=r.len
 dat:=fun i d h=>let ⟨v,h1,h2⟩:=r.dat i d h;⟨v,h1,h2.mono (e.keep r.dom)⟩
 own:=fun i o f k h=>by
  obtain⟨l,h1,h2,h3,h4⟩:=r.own i o f k h;obtain⟨u,hu⟩:=h3.some;refine⟨l,h1,fun z=>?_,h3.mono (e.keep r.dom) ((e.same l u hu).trans hu.symm),h4⟩;rcases e.new l z with z | z
  ·exact h2 z
  ·rw[hu]at z;cases z
 one:=r.one
 base:=fun b h=>r.base b (e.same.free h)
theorem SR.put (r:SR Z B F H σ ρ){i:Nat}{d:D}{v:V}(h:Rep Z F H d v):SR Z B F H (σ.set i (some v)) (ρ.set i (.dat d)) where
 dom:=r.dom
 len:=by simp[r.len]
 dat:=fun j e hj=>by
  rw[jtM]at hj ⊢;by_cases hij:i=j
  ·subst hij;rw[if_pos rfl]at hj ⊢;rw[<-r.len];split at hj
   ·rename_i hl;cases hj;exact⟨v,by rw[if_pos hl],h⟩
   ·cases hj
  ·rw[if_neg hij]at hj ⊢;exact r.dat j e hj
 own:=fun j o f k hj=>by
  rw[jtM]at hj ⊢;by_cases hij:i=j
  ·subst hij;rw[if_pos rfl]at hj;split at hj <;> cases hj
  ·rw[if_neg hij]at hj ⊢;exact r.own j o f k hj
 one:=fun j k o o' f kk f' kk' l hjk hj hk=>by
  rw[jtM]at hj hk;rw[jtM,jtM];by_cases h1:i=j
  ·rw[if_pos h1]at hj;split at hj <;> cases hj
  ·by_cases h2:i=k
   ·rw[if_pos h2]at hk;split at hk <;> cases hk
   ·rw[if_neg h1]at hj ⊢;rw[if_neg h2]at hk ⊢;exact r.one j k o o' f kk f' kk' l hjk hj hk
 base:=r.base
theorem Go.put {i:Nat}{d:D}{v:V}:Go σ ρ F H (σ.set i (some v)) (ρ.set i (.dat d)) F H:=by
 refine⟨fun _ _ h _=>h,fun _ h=>h,fun _ h=>.inl h,fun j o f k b h1 h2=>?_,fun _ o h=>⟨o,h⟩⟩;rw[jtM]at h1 h2;by_cases hij:i=j
 ·rw[if_pos hij]at h1;split at h1 <;> cases h1
 ·rw[if_neg hij]at h1 h2;exact Go.self h1 h2
theorem SR.putOwn (r:SR Z B F H σ ρ){i:Nat}{o:O}{l:Addr}(hF:¬F l)(hO:¬Ow σ ρ l)(hb:B.hp l=none)(h:HasO Z F H l o):SR Z B F H (σ.set i (some (.ref l))) (ρ.set i (.own o false false)) where
 dom:=r.dom
 len:=by simp[r.len]
 dat:=fun j e hj=>by
  rw[jtM]at hj ⊢;by_cases hij:i=j
  ·subst hij;rw[if_pos rfl]at hj;split at hj <;> cases hj
  ·rw[if_neg hij]at hj ⊢;exact r.dat j e hj
 own:=fun j o' f k hj=>by
  rw[jtM]at hj ⊢;by_cases hij:i=j
  ·subst hij;rw[if_pos rfl]at hj ⊢;rw[<-r.len];split at hj
   ·rename_i hl';cases hj;exact⟨l,by rw[if_pos hl'],hF,h,(fun z=>by cases z),fun _=>hb⟩
   ·cases hj
  ·rw[if_neg hij]at hj ⊢;exact r.own j o' f k hj
 one:=fun j k o1 o2 f1 k1 f2 k2 m hjk hj hk=>by
  rw[jtM]at hj hk;rw[jtM,jtM];by_cases h1:i=j
  ·subst h1;rw[if_neg hjk]at hk ⊢;rw[if_pos rfl];intro q z;split at q
   ·cases q;exact hO ⟨k,_,_,_,hk,z⟩
   ·cases q
  ·by_cases h2:i=k
   ·subst h2;rw[if_neg h1]at hj ⊢;rw[if_pos rfl];intro q z;split at z
    ·cases z;exact hO ⟨j,_,_,_,hj,q⟩
    ·cases z
   ·rw[if_neg h1]at hj ⊢;rw[if_neg h2]at hk ⊢;exact r.one j k _ _ _ _ _ _ m hjk hj hk
 base:=r.base
theorem Go.putOwn (g:Go σ ρ F H σ ρ1 F1 H1){i:Nat}{o:O}{l:Addr}(hn:H l=none):Go σ ρ F H (σ.set i (some (.ref l))) (ρ1.set i (.own o false false)) F1 H1:=by
 refine⟨g.stay,g.sub,g.new,fun j o' f k b h1 h2=>?_,g.there⟩;rw[jtM]at h1 h2;by_cases hij:i=j
 ·rw[if_pos hij]at h2;split at h2
  ·cases h2;exact .inr hn
  ·cases h2
 ·rw[if_neg hij]at h1 h2;exact g.ow j o' f k b h1 h2
noncomputable def Le (ρ' ρ:Rho):Prop:=ρ'.length=ρ.length/\(∀(i:Nat) d,ρ'[i]?=some (.dat d)->ρ[i]?=some (.dat d))/\(∀(i:Nat) o f k,ρ'[i]?=some (.own o f k)->ρ[i]?=some (.own o f k))
theorem Le.no {i:Nat}:Le (ρ.set i .no) ρ:=by
 refine⟨by simp,fun j d h=>?_,fun j o f k h=>?_⟩
 ·rw[jtM]at h;by_cases e:i=j
  ·rw[if_pos e]at h;split at h <;> cases h
  ·rw[if_neg e]at h;exact h
 ·rw[jtM]at h;by_cases e:i=j
  ·rw[if_pos e]at h;split at h <;> cases h
  ·rw[if_neg e]at h;exact h
theorem SR.weak (r:SR Z B F H σ ρ)(h:Le ρ1 ρ):SR Z B F H σ ρ1:=
 ⟨r.dom,h.1.trans r.len,fun i d q=>r.dat i d (h.2.1 i d q),fun i o f k q=>r.own i o f k (h.2.2 i o f k q),fun i j o o' f k f' k' l hij h1 h2=>r.one i j o o' f k f' k' l hij (h.2.2 _ _ _ _ h1) (h.2.2 _ _ _ _ h2),r.base⟩
theorem Go.weak (h:Le ρ1 ρ):Go σ ρ F H σ ρ1 F H:=
 ⟨fun _ _ h _=>h,fun _ h=>h,fun _ h=>.inl h,fun i o f k b h1 h2=>Go.self (h.2.2 _ _ _ _ h1) h2,fun _ o h=>⟨o,h⟩⟩
theorem SR.frz (r:SR Z B F H σ ρ){i:Nat}{o:O}{f k:Bool}{l:Addr}(h:ρ[i]?=some (.own o f k))(hl:σ[i]?=some (some (.ref l))) :
  Keep F (fun a=>F a\/a=l) H H/\SR Z B (fun a=>F a\/a=l) H σ (ρ.set i (.dat o.toD))/\Rep Z (fun a=>F a\/a=l) H o.toD (.ref l):=by
 obtain⟨l',h1,h2,h3,h4⟩:=r.own i o f k h;rw[hl]at h1;cases h1;have kp:Keep F (fun a=>F a\/a=l) H H:=fun a q=>⟨.inl q,rfl⟩;have hi:i<ρ.length:=(List.getElem?_eq_some_iff.mp h).1;have rp:Rep Z (fun a=>F a\/a=l) H o.toD (.ref l):=by
  cases o with
  |l xs=>
   obtain⟨vs,e,q⟩:=h3;simp only[O.toD,Rep];exact⟨l,vs,rfl,.inl ⟨.inr rfl,.inl e⟩,q.mono kp⟩
  |d ks vs=>
   obtain⟨us,ws,xs,e1,e2,e3,i⟩:=h3;simp only[O.toD,Rep];exact⟨l,us,ws,xs,rfl,.inr rfl,e1,e2.mono kp,e3.mono kp,i⟩
 refine⟨kp,⟨fun a q=>q.elim (r.dom a) fun (e:a=l)=>by rw[e];exact h3.some,by simp[r.len],fun j d hj=>?_,fun j o' f' k' hj=>?_,fun j jj o1 o2 f1 k1 f2 k2 m hjk hj hk=>?_,r.base⟩,rp⟩
 ·rw[jtM]at hj;by_cases hij:i=j
  ·subst hij;rw[if_pos rfl,if_pos hi]at hj;cases hj;exact⟨_,hl,rp⟩
  ·rw[if_neg hij]at hj;obtain⟨v,e1,e2⟩:=r.dat j d hj;exact⟨v,e1,e2.mono kp⟩
 ·rw[jtM]at hj;by_cases hij:i=j
  ·subst hij;rw[if_pos rfl,if_pos hi]at hj;cases hj
  ·rw[if_neg hij]at hj;obtain⟨l',e1,e2,e3,e4⟩:=r.own j o' f' k' hj;refine⟨l',e1,fun z=>z.elim e2 fun z=>?_,e3.mono kp rfl,e4⟩;subst z;exact r.one i j _ _ _ _ _ _ l' hij h hj hl e1
 ·rw[jtM]at hj hk;by_cases h1:i=j
  ·subst h1;rw[if_pos rfl,if_pos hi]at hj;cases hj
  ·by_cases h2:i=jj
   ·subst h2;rw[if_pos rfl,if_pos hi]at hk;cases hk
   ·rw[if_neg h1]at hj;rw[if_neg h2]at hk;exact r.one j jj _ _ _ _ _ _ m hjk hj hk
theorem Go.frz {i:Nat}{o:O}{f:Bool}{l:Addr}{d:D}(h:ρ[i]?=some (.own o f false))(hl:σ[i]?=some (some (.ref l))):Go σ ρ F H σ (ρ.set i (.dat d)) (fun a=>F a\/a=l) H:=by
 refine⟨fun _ _ h _=>h,fun _ h=>.inl h,fun a q=>q.imp id fun (e:a=l)=>.inr ⟨i,o,f,h,by rw[e];exact hl⟩,fun j o' f' k' b h1 h2=>?_,fun _ o h=>⟨o,h⟩⟩
 rw[jtM]at h1;by_cases e:i=j
 ·rw[if_pos e]at h1;split at h1 <;> cases h1
 ·rw[if_neg e]at h1;exact Go.self h1 h2
theorem SR.wr (r:SR Z B F H σ ρ){i:Nat}{o o':O}{f k:Bool}{l:Addr}{u:HO}(h:ρ[i]?=some (.own o f k))(hi:σ[i]?=some (some (.ref l)))(q:Keep F F H (upd H l u)->HasO Z F (upd H l u) l o')(k':Bool) :
  Keep F F H (upd H l u)/\SR Z B F (upd H l u) σ (ρ.set i (.own o' f k')):=by
 obtain⟨l',h1,h2,h3,h4⟩:=r.own i o f k h;rw[hi]at h1;cases h1;have kp:Keep F F H (upd H l u):=fun a q=>⟨q,jac fun z=>h2 (z ▸ q)⟩;have q:=q kp;have hlt:i<ρ.length:=(List.getElem?_eq_some_iff.mp h).1;refine⟨kp,fun a q=>?_,by simp[r.len],fun j d hj=>?_,fun j o1 f1 k1 hj=>?_,fun j jj o1 o2 f1 k1 f2 k2 m hjk hj hk=>?_,fun b hb=>r.base b (by
  unfold upd at hb;split at hb
  ·cases hb
  ·exact hb)⟩
 ·obtain⟨o,e⟩:=r.dom a q;exact⟨o,(kp a q).2.trans e⟩
 ·rw[jtM]at hj;by_cases hij:i=j
  ·subst hij;rw[if_pos rfl,if_pos hlt]at hj;cases hj
  ·rw[if_neg hij]at hj;obtain⟨v,e1,e2⟩:=r.dat j d hj;exact⟨v,e1,e2.mono kp⟩
 ·rw[jtM]at hj;by_cases hij:i=j
  ·subst hij;rw[if_pos rfl,if_pos hlt]at hj;cases hj;exact⟨l,hi,h2,q,h4⟩
  ·rw[if_neg hij]at hj;obtain⟨l',e1,e2,e3,e4⟩:=r.own j o1 f1 k1 hj;refine⟨l',e1,e2,e3.mono kp (jac fun z=>?_),e4⟩;subst z;exact r.one i j _ _ _ _ _ _ l' hij h hj hi e1
 ·have back:∀{j:Nat}{o1:O}{f1 k1:Bool},(ρ.set i (.own o' f k'))[j]?=some (.own o1 f1 k1)->∃o2 f2 k2,ρ[j]?=some (.own o2 f2 k2):=fun {j o1 f1 k1} hj=>by
   rw[jtM]at hj;by_cases hij:i=j
   ·subst hij;exact⟨_,_,_,h⟩
   ·rw[if_neg hij]at hj;exact⟨_,_,_,hj⟩
  obtain⟨_,_,_,hj'⟩:=back hj;obtain⟨_,_,_,hk'⟩:=back hk;exact r.one j jj _ _ _ _ _ _ m hjk hj' hk'
theorem Go.wr {i:Nat}{o o':O}{f:Bool}{l:Addr}{u:HO}(h:ρ[i]?=some (.own o f false))(hi:σ[i]?=some (some (.ref l))):Go σ ρ F H σ (ρ.set i (.own o' f false)) F (upd H l u):=by
 have hm:Mb σ ρ l:=⟨i,o,f,h,hi⟩;refine⟨fun b w e n=>by rw[jac fun z=>n (by rw[z];exact hm)];exact e,fun _ h=>h,fun _ h=>.inl h,fun j o1 f1 k1 b h1 h2=>?_,fun b w e=>?_⟩
 ·rw[jtM]at h1;by_cases e:i=j
  ·subst e;rw[if_pos rfl]at h1;split at h1
   ·cases h1;exact .inl ⟨o,false,h,h2,id⟩
   ·cases h1
  ·rw[if_neg e]at h1;exact Go.self h1 h2
 ·by_cases z:b=l
  ·exact⟨u,by rw[z];exact jah⟩
  ·exact⟨w,by rw[jac z];exact e⟩
theorem Go.lock {i:Nat}{o:O}{f k:Bool}(h:ρ[i]?=some (.own o f k)):Go σ ρ F H σ (ρ.set i (.own o f true)) F H:=by
 refine⟨fun _ _ h _=>h,fun _ h=>h,fun _ h=>.inl h,fun j o1 f1 k1 b h1 h2=>?_,fun _ o h=>⟨o,h⟩⟩;rw[jtM]at h1;by_cases e:i=j
 ·subst e;rw[if_pos rfl]at h1;split at h1
  ·cases h1;exact .inl ⟨o,k,h,h2,fun _=>rfl⟩
  ·cases h1
 ·rw[if_neg e]at h1;exact Go.self h1 h2
theorem SR.lock (r:SR Z B F H σ ρ){i:Nat}{o:O}{f k:Bool}(h:ρ[i]?=some (.own o f k))(k':Bool):SR Z B F H σ (ρ.set i (.own o f k')):=by
 have back:∀{j:Nat}{o1:O}{f1 k1:Bool},(ρ.set i (.own o f k'))[j]?=some (.own o1 f1 k1)->∃k2,ρ[j]?=some (.own o1 f1 k2):=fun {j o1 f1 k1} hj=>by
  rw[jtM]at hj;by_cases hij:i=j
  ·subst hij;rw[if_pos rfl]at hj;split at hj
   ·cases hj;exact⟨k,h⟩
   ·cases hj
  ·rw[if_neg hij]at hj;exact⟨_,hj⟩
 refine⟨r.dom,by simp[r.len],fun j d hj=>?_,fun j o1 f1 k1 hj=>?_,fun j jj o1 o2 f1 k1 f2 k2 m hjk hj hk=>?_,r.base⟩
 ·rw[jtM]at hj;by_cases hij:i=j
  ·rw[if_pos hij]at hj;split at hj <;> cases hj
  ·rw[if_neg hij]at hj;exact r.dat j d hj
 ·obtain⟨k2,e⟩:=back hj;exact r.own j o1 f1 k2 e
 ·obtain⟨_,e1⟩:=back hj;obtain⟨_,e2⟩:=back hk;exact r.one j jj _ _ _ _ _ _ m hjk e1 e2
theorem SR.oth (r:SR Z B F H σ ρ){p:Addr}{u:HO}(h1:¬F p)(h2:¬Ow σ ρ p):Keep F F H (upd H p u)/\SR Z B F (upd H p u) σ ρ:=by
 have kp:Keep F F H (upd H p u):=fun a q=>⟨q,jac fun z=>h1 (z ▸ q)⟩;refine⟨kp,fun a q=>?_,r.len,fun j d hj=>?_,fun j o f k hj=>?_,r.one,fun b hb=>r.base b (by
  unfold upd at hb;split at hb
  ·cases hb
  ·exact hb)⟩
 ·obtain⟨u,e⟩:=r.dom a q;exact⟨u,(kp a q).2.trans e⟩
 ·obtain⟨v,e1,e2⟩:=r.dat j d hj;exact⟨v,e1,e2.mono kp⟩
 ·obtain⟨l',e1,e2,e3,e4⟩:=r.own j o f k hj;refine⟨l',e1,e2,e3.mono kp (jac fun z=>?_),e4⟩;subst z;exact h2 ⟨j,o,f,k,hj,e1⟩
end
end DJ
namespace DJ
open PySem PySem.Spec PyProof.Rows L2
theorem R.bind_assoc {α β γ:Type}(r:R α)(f:α->R β)(g:β->R γ):(r.bind f).bind g=r.bind fun a=>(f a).bind g:=by cases r <;> rfl
theorem R.bind_ok' {α β:Type}(a:α)(f:α->R β):(R.ok a).bind f=f a:=rfl
theorem R.bind_ok {α β:Type}{r:R α}{f:α->R β}{b:β}(h:r.bind f=.ok b):∃a,r=.ok a/\f a=.ok b:=by
 cases r with
 |ok a=>exact⟨a,rfl,h⟩
 |err c=>cases h
 |stk=>cases h
noncomputable def Ok {α:Type}(W:Nat->Prop)(r:R α)(Q:α->Prop):Prop:=match r with
 |.ok d=>Q d
 |.err c=>W c
 |.stk=>False
theorem Ok.bind {α β:Type}{W:Nat->Prop}{r:R α}{f:α->R β}{Q:β->Prop}(h:Ok W (r.bind f) Q):Ok W r fun a=>Ok W (f a) Q:=by
 cases r with
 |ok a=>exact h
 |err c=>exact h
 |stk=>exact h
theorem Ok.imp {α:Type}{W W':Nat->Prop}{r:R α}{Q Q':α->Prop}(h:Ok W r Q)(w:∀c,W c->W' c)(k:∀a,Q a->Q' a):Ok W' r Q':=by
 cases r with
 |ok a=>exact k a h
 |err c=>exact w c h
 |stk=>exact h
theorem Ok.pure {α:Type}{W:Nat->Prop}{r:R α}{Q:α->Prop}(h:Ok W r Q)(hn:∀c,r≠.err c):∃a,r=.ok a/\Q a:=by
 cases r with
 |ok a=>exact⟨a,rfl,h⟩
 |err c=>exact absurd rfl (hn c)
 |stk=>exact h.elim
structure FlyC (X:Cx)(pins:List (Addr×Obj))(ea:Addr)(cls:Value)(H':Hp)(s':Shared):Prop where
 ex:∃a0 B,FlyA B X.stack ea cls a0 s'.heap/\(∀b o,X.s₀.heap.get? b=some o->b ∉ frs X.stack->b ∉ X.ex->∃o',B.get? b=some o')/\(∀x c,X.fn x=true->X.env.cells.lookup x=some c->∃o',B.get? c=some o') /\
  (∀p∈X.pn++pins,∃o',B.get? p.1=some o')/\(∀a o,H' a=some o->∃o',B.get? a=some o')
 free:H' ea=none
structure Stl (σ:L2.St)(ρ:Rho)(H H':Hp):Prop where
 stay:∀b o,H b=some o->¬Mb σ ρ b->H' b=some o
 there:∀b o,H b=some o->∃o',H' b=some o'
noncomputable def XW (Z:Kn)(X:Cx)(σ:L2.St)(ρ:Rho)(H:Hp)(c:Nat):Prop:=∀(pins:List (Addr×Obj)) (H':Hp) (s':Shared) (ea C:Addr),Z.cl[c]?=some C->Inv X pins σ H' s'->Stl σ ρ H H'->FlyC X pins ea (.ref C) H' s'->X.xe (.ref ea) s'
theorem Stl.go {σ σ1:L2.St}{ρ ρ1:Rho}{F F1:Addr->Prop}{H H1 H2:Hp}(g:Go σ ρ F H σ1 ρ1 F1 H1)(s:Stl σ1 ρ1 H1 H2):Stl σ ρ H H2 where
 stay b o e n:=s.stay b o (g.stay b o e n) fun m=>by
  rcases g.mb m with q | q
  ·exact n q
  ·rw[e]at q;cases q
 there b o e:=by
  obtain⟨o1,e1⟩:=g.there b o e;exact s.there b o1 e1
theorem XW.mono {Z:Kn}{X:Cx}{σ:L2.St}{ρ ρ1:Rho}{F F1:Addr->Prop}{H H1:Hp}{c:Nat}(h:XW Z X σ ρ H c)(g:Go σ ρ F H σ ρ1 F1 H1):XW Z X σ ρ1 H1 c:=
 fun pins H' s' ea C e I q y=>h pins H' s' ea C e I (q.go g) y
noncomputable def RV (Z:Kn)(F':Addr->Prop)(H0 H':Hp)(σ:L2.St)(ρ':Rho):Vl->V->Prop
 |.dat d,v=>Rep Z F' H' d v
 |.tmp o,v=>∃l,v=.ref l/\¬F' l/\¬Ow σ ρ' l/\H0 l=none/\HasO Z F' H' l o
 |.slot i,v=>σ[i]?=some (some v)
noncomputable def Post (Z:Kn)(B:Bs)(σ:L2.St)(ρ:Rho)(F:Addr->Prop)(H:Hp)(Q:VK)(p:Vl×Rho):Prop:=∀v F' H',Go σ ρ F H σ p.2 F' H'->SR Z B F' H' σ p.2->RV Z F' H H' σ p.2 p.1 v->Q v H'
inductive tE_I (Z:Kn) (X:Cx) (B:Bs) (f:Rho->R (Vl×Rho)) (σ:L2.St) (H:L2.Hp) (Q:L2.VK):Prop
 |mk (F:_) (ρ:_):(SR Z B F H σ ρ)->(Ok (XW Z X σ ρ H) (f ρ) (Post Z B σ ρ F H Q))->tE_I Z X B f σ H Q
noncomputable def tE (Z:Kn)(X:Cx)(B:Bs)(f:Rho->R (Vl×Rho)):TE:=fun σ H Q=>tE_I Z X B f σ H Q
inductive tT_I (Z:Kn) (X:Cx) (B:Bs) (f:Rho->R (Bool×Rho)) (σ:L2.St) (H:L2.Hp) (Q:(Bool->L2.Hp->Prop)):Prop
 |mk (F:_) (ρ:_):(SR Z B F H σ ρ)->(Ok (XW Z X σ ρ H) (f ρ) fun p=>∀F' H',Go σ ρ F H σ p.2 F' H'->SR Z B F' H' σ p.2->Q p.1 H')->tT_I Z X B f σ H Q
noncomputable def tT (Z:Kn)(X:Cx)(B:Bs)(f:Rho->R (Bool×Rho)):TT:=fun σ H Q=>tT_I Z X B f σ H Q
theorem PE.imp {X:Cx}{e:Expr}{t t':TE}(h:PE X e t)(k:∀σ H Q,t' σ H Q->t σ H Q):PE X e t':=fun pins s σ H Q I q=>h pins s σ H Q I (k σ H Q q)
theorem PT.imp {X:Cx}{e:Expr}{t t':TT}(h:PT X e t)(k:∀σ H Q,t' σ H Q->t σ H Q):PT X e t':=fun pins s σ H Q I q=>h pins s σ H Q I (k σ H Q q)
theorem PI.imp {X:Cx}{tg e:Expr}{t t':TI}(h:PI X tg e t)(k:∀σ H R,t' σ H R->t σ H R):PI X tg e t':=fun pins s σ H R I q=>h pins s σ H R I (k σ H R q)
theorem PO.imp {X:Cx}{e:Option Expr}{t t':TO}(h:PO X e t)(k:∀σ H Q,t' σ H Q->t σ H Q):PO X e t':=fun pins s σ H Q I q=>h pins s σ H Q I (k σ H Q q)
theorem PS.imp {X:Cx}{e:Stmt}{t t':TS}(h:PS X e t)(k:∀D σ H,t' D σ H->t D σ H):PS X e t':=fun pins s σ H D I q=>h pins s σ H D I (k D σ H q)
theorem PSs.imp {X:Cx}{e:List Stmt}{t t':TS}(h:PSs X e t)(k:∀D σ H,t' D σ H->t D σ H):PSs X e t':=fun pins s σ H D I q=>h pins s σ H D I (k D σ H q)
section
variable {Z:Kn}{X:Cx}{B:Bs}{σ:L2.St}{ρ ρ1:Rho}{F F1:Addr->Prop}{H H1:Hp}
theorem tE.congr {f g:Rho->R (Vl×Rho)}(h:∀ρ,f ρ=g ρ):tE Z X B f=tE Z X B g:=by rw[show f=g from funext h]
theorem tT.congr {f g:Rho->R (Bool×Rho)}(h:∀ρ,f ρ=g ρ):tT Z X B f=tT Z X B g:=by rw[show f=g from funext h]
theorem Post.ext {Q:VK}{p:Vl×Rho}(h:Post Z B σ ρ F H Q p)(g:Go σ ρ F H σ ρ1 F1 H1):Post Z B σ ρ1 F1 H1 Q p:=fun v F' H' g' r' q=>by
 refine h v F' H' (g.trans g') r' ?_;obtain⟨w,ρ'⟩:=p;cases w with
 |dat d=>exact q
 |tmp o=>obtain⟨l,e,h1,h2,h3,h4⟩:=q;exact⟨l,e,h1,h2,g.free h3,h4⟩
 |slot i=>exact q
end
end DJ
namespace DJ
open PySem PySem.Spec PyProof.Rows L2
inductive TgsOk (X:Cx):List Expr->List Nat->Prop where
 |nil:TgsOk X [] []
 |cons {x:Str}{pos:Pos}{i:Nat}{es:List Expr}{is:List Nat}:X.N[i]?=some x->Loc X.env.scope x->(X.fn x=true\/X.env.scope.names.lookup x=some .local)->TgsOk X es is->TgsOk X (.Name x pos::es) (i::is)
inductive TgOk (X:Cx):Expr->List Nat->Bool->Prop where
 |one {x:Str}{pos:Pos}{i:Nat}:X.N[i]?=some x->Loc X.env.scope x->(X.fn x=true\/X.env.scope.names.lookup x=some .local)->TgOk X (.Name x pos) [i] true
 |many {es:List Expr}{k:Nat}{pos:Pos}{is:List Nat}:TgsOk X es is->TgOk X (.Tuple es k pos) is false
noncomputable def gNs:List Nat->TGs
 |[]=>jsO
 |i::is=>jpB (jnd i) (gNs is)
noncomputable def jkD (is:List Nat)(vs:List V)(σ:L2.St):L2.St:=(is.zip vs).foldl (fun r p=>r.set p.1 (some p.2)) σ
theorem ji1:∀{is:List Nat}{vs:List V}{σ:L2.St}{H:Hp}{Q:L2.St->Hp->Prop},is.length=vs.length->Q (jkD is vs σ) H->gNs is vs σ H Q
 |[],[],_,_,_,_,q=>⟨rfl,q⟩
 |[],_::_,_,_,_,e,_=>by simp at e
 |_::_,[],_,_,_,e,_=>by simp at e
 |i::is,v::vs,σ,H,Q,e,q=>⟨v,vs,rfl,ji1 (is:=is) (vs:=vs) (σ:=σ.set i (some v)) (H:=H) (Q:=Q) (by simpa using e) q⟩
theorem TgsOk.pgs {X:Cx}(nd:X.N.Nodup){es:List Expr}{is:List Nat}(h:TgsOk X es is):PGs X es (gNs is):=by
 induction h with
 |nil=>exact jne
 |cons h1 h2 h3 _ ih=>exact jkK (jin nd h1 h2 h3) ih
theorem TgsOk.lens {X:Cx}{es:List Expr}{is:List Nat}(h:TgsOk X es is):(assignEach es X.env).length=is.length/\(assignEach es X.env).findIdx? (·.1)=none:=by
 induction h with
 |nil=>exact⟨rfl,rfl⟩
 |@cons x pos i es is _ _ _ _ ih=>
  have e:assignEach (Expr.Name x pos::es) X.env=(false,assign (.Name x pos) X.env)::assignEach es X.env:=rfl;rw[e];refine⟨by simp[ih.1],?_⟩
  rw[List.findIdx?_cons];simp[ih.2]
section
variable {Z:Kn}{B:Bs}{F:Addr->Prop}{H:Hp}
theorem SR.putN:∀{is:List Nat}{ds:List D}{vs:List V}{σ:L2.St}{ρ:Rho},SR Z B F H σ ρ->Reps Z F H ds vs ->
  SR Z B F H (jkD is vs σ) ((is.zip ds).foldl (fun r p=>r.set p.1 (.dat p.2)) ρ)/\Go σ ρ F H (jkD is vs σ) ((is.zip ds).foldl (fun r p=>r.set p.1 (.dat p.2)) ρ) F H
 |[],_,_,_,_,r,_=>by simpa[jkD] using⟨r,Go.refl⟩
 |_::_,[],vs,_,_,r,h=>by
  simp only[Reps]at h;subst h;simpa[jkD] using⟨r,Go.refl⟩
 |i::is,d::ds,vs,σ,ρ,r,h=>by
  simp only[Reps]at h;obtain⟨v,us,rfl,h1,h2⟩:=h;simp only[jkD,List.zip_cons_cons,List.foldl_cons];obtain⟨a,b⟩:=SR.putN (is:=is) (r.put (i:=i) h1) h2;exact⟨a,Go.put.trans b⟩
end
theorem jgv:∀{is:List Nat}{vs:List V}{σ:L2.St}{j:Nat},j ∉ is->(jkD is vs σ)[j]?=σ[j]?
 |[],_,_,_,_=>by simp[jkD]
 |_::_,[],_,_,_=>by simp[jkD]
 |i::is,v::vs,σ,j,h=>by
  simp only[jtK,not_or]at h;have:=jgv (is:=is) (vs:=vs) (σ:=σ.set i (some v)) h.2;simp only[jkD,List.zip_cons_cons,List.foldl_cons]at this ⊢;rw[this,jtZ (Ne.symm h.1)]
theorem jtn {Z:Kn}{X:Cx}{tg:Expr}{tgs:List Nat}{one:Bool}(hZ:X.K=Z.K)(hc:one=false->X.calm=true)(nd:X.N.Nodup)(T:TgOk X tg tgs one){pins:List (Addr×Obj)}{s:Shared}{σ:L2.St}{ρ ρ':Rho}{B:Bs}{F:Addr->Prop}{H:Hp}{d:D}{v:V}{u:Value}
  (I:Inv X pins σ H s) (r:SR Z B F H σ ρ) (rp:Rep Z F H d v) (rv:RelV v u) (hp:putT tgs one d ρ=.ok ρ') :
  wpAny @4 X.A (assign tg X.env u) (fun _ s'=>∃σ',Inv X pins σ' H s'/\SR Z B F H σ' ρ'/\Go σ ρ F H σ' ρ' F H/\∀i:Nat,i ∉ tgs->σ'[i]?=σ[i]?) X.xe s:=by
 cases T with
 |@one x pos i h1 h2 h3=>
  simp only[putT]at hp;cases hp;refine thn (jin nd h1 h2 h3 pins s σ H v u (fun σ' H'=>(SR Z B F H σ' (ρ.set i (.dat d))/\Go σ ρ F H σ' (ρ.set i (.dat d)) F H/\∀j:Nat,j ∉ [i]->σ'[j]?=σ[j]?)/\H'=H) I rv ⟨⟨r.put rp,Go.put,fun j hj=>jtZ (fun z=>hj (by simp[z]))⟩,rfl⟩) fun _ s' ⟨σ',H',I',q,e⟩=>?_
  subst e;exact⟨σ',I',q⟩
 |many h=>
  cases d with
  |tup ds=>
   simp only[putT]at hp;split at hp
   ·rename_i hl;cases hp;simp only[Rep]at rp;obtain⟨a,vs,rfl,ft,rs⟩:=rp;have hvl:vs.length=tgs.length:=by rw[hl,rs.length]
    refine thn (jmx (n:=tgs.length) (hc rfl) (h.pgs nd) h.lens.1 h.lens.2 pins s σ H (.ref a) u (fun σ' H'=>(SR Z B F H σ' ((tgs.zip ds).foldl (fun r p=>r.set p.1 (.dat p.2)) ρ)/\Go σ ρ F H σ' ((tgs.zip ds).foldl (fun r p=>r.set p.1 (.dat p.2)) ρ) F H/\∀j:Nat,j ∉ tgs->σ'[j]?=σ[j]?)/\H'=H) I rv ⟨a,vs,rfl,(by rw[hZ];exact ft.sq),hvl,ji1 hvl.symm ⟨⟨(r.putN rs).1,(r.putN rs).2,fun j hj=>jgv hj⟩,rfl⟩⟩) fun _ s' hzz=>?_
    obtain⟨σ',H',I',q,e⟩:=hzz;subst e;exact⟨σ',I',q⟩
   ·cases hp
  |_=>simp only[putT]at hp <;> cases hp
structure GK (F0:Addr->Prop)(H0:Hp)(ls:List Addr)(F:Addr->Prop)(H:Hp):Prop where
 keep:Keep F0 F H0 H
 ls:∀l∈ls,H l=H0 l
theorem GK.refl {F0:Addr->Prop}{H0:Hp}{ls:List Addr}:GK F0 H0 ls F0 H0:=⟨Keep.refl,fun _ _=>rfl⟩
theorem GK.ext {F0 F F1:Addr->Prop}{H0 H H1:Hp}{ls:List Addr}(g:GK F0 H0 ls F H)(d:Dom F H)(hl:∀l∈ls,∃o,H0 l=some o)(e:Ext F H F1 H1):GK F0 H0 ls F1 H1:=
 ⟨g.keep.trans (e.keep d),fun l h=>by
  obtain⟨o,q⟩:=hl l h;rw[e.same l o ((g.ls l h).trans q),q]⟩
theorem GK.go {Z:Kn}{B:Bs}{F0 F F1:Addr->Prop}{H0 H H1:Hp}{ls:List Addr}{σ σ1:L2.St}{ρ ρ1:Rho}(g:GK F0 H0 ls F H)(hl:∀l∈ls,∃o,H0 l=some o)(r:SR Z B F H σ ρ)(e:Go σ ρ F H σ1 ρ1 F1 H1)(hm:∀l∈ls,¬Mb σ ρ l):GK F0 H0 ls F1 H1:=
 ⟨g.keep.trans (e.keep r),fun l h=>by
  obtain⟨o,q⟩:=hl l h;rw[e.stay l o ((g.ls l h).trans q) (hm l h),q]⟩
noncomputable def ItmG (Z:Kn)(G:(Addr->Prop)->Hp->Prop)(J:L2.It)(xs:List D):Prop:=xs.length<=sizeLine/\∀F H,G F H->Dom F H ->
 (∀(i:Nat) (x:D),xs[i]?=some x->J.go i H/\∀v H2,J.yld i H v H2->∃F2,Ext F H F2 H2/\Rep Z F2 H2 x v)/\J.stop xs.length H
structure Wk (P:Program)(w:World)(Z:Kn)(tg:Expr)(F0:Addr->Prop)(H0:Hp)(ls:List Addr)(xs:List D)(fp:List Addr)(it:Addr)(tn:Nat->Heap->Prop):Prop where
 mem:it∈fp
 len:xs.length<=sizeLine
 lst:∀l∈ls,∃o,H0 l=some o
 obj:∀i h,tn i h->∀b∈fp,∃o,h.get? b=some o/\∀v,o.data≠.cell v
 keep:∀i h h',tn i h->(∀b∈fp,∀o,h.get? b=some o->h'.get? b=some o)->tn i h'
 self:∀(A:Around) (i:Nat) (s:Shared) (Q:Value->Shared->Prop) (E:Value->Shared->Prop),tn i s.heap->Q (.ref it) s->wpAny (model P w) A (pyIter (.ref it)) Q E s
 take:∀(X:Cx),X.prog=P->X.w=w->X.K=Z.K->X.calm=true->X.N.Nodup->∀tgs one,TgOk X tg tgs one ->
  ∀(i:Nat) (pins:List (Addr×Obj)) (s:Shared) (σ:L2.St) (ρ ρ':Rho) (B:Bs) (F:Addr->Prop) (H:Hp) (x:D),Inv X pins σ H s->SR Z B F H σ ρ->GK F0 H0 ls F H->(∀b∈fp,FpOk X pins H b)->tn i s.heap->xs[i]?=some x->putT tgs one x ρ=.ok ρ' ->
  wpAny (model P w) X.A (pyNext (.ref it)) (fun r s1=>∃u,r=some u/\wpAny (model P w) X.A (letOwnedTupleGo tg (.ref it) u) (fun _ s2=>wpAny (model P w) X.A (assign tg X.env u)
   (fun _ s3=>∃σ3 F3 H3,Inv X pins σ3 H3 s3/\SR Z B F3 H3 σ3 ρ'/\Go σ ρ F H σ3 ρ' F3 H3/\GK F0 H0 ls F3 H3/\tn (i+1) s3.heap/\(∀b∈fp,H3 b=none)/\∀j:Nat,j ∉ tgs->σ3[j]?=σ[j]?) X.xe s2) X.xe s1) X.xe s
 done:∀(X:Cx),X.prog=P->X.w=w->X.K=Z.K->X.calm=true->∀(pins:List (Addr×Obj)) (s:Shared) (σ:L2.St) (F:Addr->Prop) (H:Hp),Inv X pins σ H s->Dom F H->GK F0 H0 ls F H->(∀b∈fp,FpOk X pins H b)->tn xs.length s.heap ->
  wpAny (model P w) X.A (pyNext (.ref it)) (fun r s1=>r=none/\Inv X pins σ H s1) X.xe s
theorem ItmG.wk {P:Program}{w:World}{Z:Kn}{K:Frag}{tg:Expr}{F0:Addr->Prop}{H0:Hp}{ls:List Addr}{J:L2.It}{xs:List D}{fp:List Addr}{it:Addr}{tn:Nat->Heap->Prop}(h:ItmG Z (GK F0 H0 ls) J xs)(hK:K=Z.K)(hl:∀l∈ls,∃o,H0 l=some o)(T:Turn P w K tg J fp it tn):Wk P w Z tg F0 H0 ls xs fp it tn where
 mem:=T.mem
 len:=h.1
 lst:=hl
 obj:=T.obj
 keep:=T.keep
 self:=T.self
 done:=fun X h1 h2 h3 hc pins s σ F H I dm g fo st=>T.done X h1 h2 (h3.trans hK.symm) hc _ pins s σ H X.xe I fo st (h.2 F H g dm).2
 take:=by
  intro X h1 h2 h3 hc nd tgs one tk i pins s σ ρ ρ' B F H x I r g fo st hx hp;obtain⟨g1,g2⟩:=(h.2 F H g r.dom).1 i x hx;refine thn (T.item X h1 h2 (h3.trans hK.symm) hc i pins s σ H X.xe I fo st g1) fun o s1 hz=>?_;obtain⟨u,ho,h⟩:=hz;refine⟨u,ho,thn h fun _ s2 hz=>?_⟩;obtain⟨v,H2,I2,rv,y,st2,fr2⟩:=hz;obtain⟨F2,ex,rp⟩:=g2 v H2 y;subst h1 h2;have fo2:∀b∈fp,FpOk X pins H2 b:=fun b hb=>⟨fr2 b hb,(fo b hb).2⟩;have I2':=I2.pinned fo2 (T.obj _ _ st2);refine thn (jtn h3 (fun _=>hc) nd tk I2' (r.ext ex) rp rv hp) fun _ s3 hzz=>?_;obtain⟨σ3,I3,r3,g3,ho3⟩:=hzz;refine⟨σ3,F2,H2,I3.unpinned,r3,ex.go.trans g3,g.ext r.dom hl ex,T.keep _ _ _ st2 fun b hb o e=>(I3.pin (b,o) (jtS _ (jtS _ (jbm hb e)))).1,fr2,ho3⟩
section
variable {K:Frag}{F F':Addr->Prop}{H H':Hp}
theorem FL.keep {a:Addr}{xs:List V}(k:Keep F F' H H')(h:FL K F H a xs):FL K F' H' a xs:=h.imp k.rd id
theorem FT.keep {a:Addr}{xs:List V}(k:Keep F F' H H')(h:FT K F H a xs):FT K F' H' a xs:=h.imp k.rd id
end
theorem jlj {Z:Kn}{G:(Addr->Prop)->Hp->Prop}{xs:List D}{vs:List V}{a:Addr}(len:xs.length<=sizeLine)(hG:∀F H,G F H->Dom F H->SqL Z.K H a vs/\Reps Z F H xs vs):ItmG Z G (Itl Z.K a) xs:=
 ⟨len,fun F H g dm=>by
  obtain⟨q,r⟩:=hG F H g dm;refine⟨fun i x hx=>?_,⟨vs,q,by rw[r.length];exact jul _⟩⟩
  obtain⟨v,e,rp⟩:=r.get hx;refine⟨⟨vs,v,q,e⟩,fun u H2 y=>?_⟩;obtain⟨rfl,y⟩:=y;have:=y vs q;rw[e]at this;cases this;exact⟨F,Ext.refl dm,rp⟩⟩
theorem jnH {Z:Kn}{G:(Addr->Prop)->Hp->Prop}{xs:List D}{vs:List V}{a:Addr}(len:xs.length<=sizeLine)(hG:∀F H,G F H->Dom F H->SqT Z.K H a vs/\Reps Z F H xs vs):ItmG Z G (Itt Z.K a) xs:=
 ⟨len,fun F H g dm=>by
  obtain⟨q,r⟩:=hG F H g dm;refine⟨fun i x hx=>?_,⟨vs,q,by rw[r.length];exact jul _⟩⟩
  obtain⟨v,e,rp⟩:=r.get hx;refine⟨⟨vs,v,q,e⟩,fun u H2 y=>?_⟩;obtain⟨rfl,y⟩:=y;have:=y vs q;rw[e]at this;cases this;exact⟨F,Ext.refl dm,rp⟩⟩
theorem jnI (lo:Int)(n:Nat):(jnF lo n).length=n:=by unfold jnF;rw[jtQ,List.length_range]
theorem jnJ {Z:Kn}{G:(Addr->Prop)->Hp->Prop}{lo:Int}{n:Nat}(hn:n<=sizeLine):ItmG Z G (Itr lo n) (jnF lo n):=by
 have hl:=jnI lo n;refine⟨by rw[hl];exact hn,fun F H g dm=>⟨fun i x hx=>?_,by rw[hl];exact jul n⟩⟩
 unfold jnF at hx;rw[jtN]at hx;cases e:(List.range n)[i]? with
 |none=>rw[e]at hx;cases hx
 |some k=>
  rw[e]at hx;obtain⟨h1,h2⟩:=List.getElem?_eq_some_iff.mp e;rw[List.length_range]at h1;rw[List.getElem_range]at h2;subst h2;cases hx;refine⟨h1,fun u H2 y=>?_⟩;obtain⟨rfl,rfl⟩:=y;exact⟨F,Ext.refl dm,by simp only[Rep]⟩
end DJ
namespace DJ
open PySem PySem.Spec PyProof.Rows L2
noncomputable def RepB (Z:Kn)(F:Addr->Prop)(H:Hp)(d:D)(v:V):Prop:=Rep Z F H d v\/∃l o,v=.ref l/\d=o.toD/\HasO Z F H l o
section
variable {Z:Kn}{X:Cx}{B:Bs}{σ:L2.St}{ρ ρ1 ρ2:Rho}{F F1 F2:Addr->Prop}{H H0 H1 H2:Hp}{w:Vl}{v:V}
theorem RV.go (h:RV Z F1 H0 H1 σ ρ1 w v)(r:SR Z B F1 H1 σ ρ1)(g:Go σ ρ1 F1 H1 σ ρ2 F2 H2):RV Z F2 H0 H2 σ ρ2 w v:=by
 cases w with
 |dat d=>exact Rep.mono (g.keep r) h
 |tmp o=>
  obtain⟨l,e,h1,h2,h3,h4⟩:=h;obtain⟨u,hu⟩:=h4.some;obtain⟨a,b,c⟩:=g.side hu h1 h2;exact⟨l,e,b,c,h3,h4.mono (g.keep r) (a.trans hu.symm)⟩
 |slot i=>exact h
theorem RV.base (h:RV Z F1 H0 H1 σ ρ1 w v)(k:∀l,H0 l=none->H l=none):RV Z F1 H H1 σ ρ1 w v:=by
 cases w with
 |dat d=>exact h
 |tmp o=>obtain⟨l,e,h1,h2,h3,h4⟩:=h;exact⟨l,e,h1,h2,k l h3,h4⟩
 |slot i=>exact h
theorem jaZ {d:D}(h:RV Z F1 H0 H1 σ ρ1 w v)(r:SR Z B F1 H1 σ ρ1)(hd:deref w ρ1=.ok d):RepB Z F1 H1 d v:=by
 cases w with
 |dat d'=>cases hd;exact .inl h
 |tmp o=>cases hd;obtain⟨l,e,_,_,_,h4⟩:=h;exact .inr ⟨l,o,e,rfl,h4⟩
 |slot i=>
  simp only[deref]at hd;split at hd
  ·rename_i o f k e;cases hd;obtain⟨l,e1,_,e3,_⟩:=r.own i o f k e;have h:σ[i]?=some (some v):=h;rw[h]at e1;cases e1;exact .inr ⟨l,o,rfl,rfl,e3⟩
  ·cases hd
theorem jaE {c:Nat}:deref w ρ1≠.err c:=by
 cases w with
 |dat d=>intro z;cases z
 |tmp o=>intro z;cases z
 |slot i=>
  simp only[deref];split <;> (intro z;cases z)
theorem O.rep {l:Addr}{o:O}(h:HasO Z F H l o)(hF:F l):Rep Z F H o.toD (.ref l):=by
 cases o with
 |l xs=>
  obtain⟨vs,e,q⟩:=h;simp only[O.toD,Rep];exact⟨l,vs,rfl,.inl ⟨hF,.inl e⟩,q⟩
 |d ks vs=>
  obtain⟨us,ws,xs,e1,e2⟩:=h;simp only[O.toD,Rep];exact⟨l,us,ws,xs,rfl,hF,e1,e2⟩
theorem SR.frzT (r:SR Z B F1 H1 σ ρ1){l:Addr}{o:O}(hO:¬Ow σ ρ1 l)(h:HasO Z F1 H1 l o):SR Z B (fun a=>F1 a\/a=l) H1 σ ρ1/\Rep Z (fun a=>F1 a\/a=l) H1 o.toD (.ref l):=by
 have kp:Keep F1 (fun a=>F1 a\/a=l) H1 H1:=fun a q=>⟨.inl q,rfl⟩;refine⟨⟨fun a q=>q.elim (r.dom a) fun (e:a=l)=>by rw[e];exact h.some,r.len,fun i d e=>let ⟨v,e1,e2⟩:=r.dat i d e;⟨v,e1,e2.mono kp⟩,fun i o f k e=>?_,r.one,r.base⟩,O.rep (h.mono kp rfl) (.inr rfl)⟩
 obtain⟨l',e1,e2,e3,e4⟩:=r.own i o f k e;refine⟨l',e1,fun z=>z.elim e2 fun z=>?_,e3.mono kp rfl,e4⟩;subst z;exact hO ⟨i,o,f,k,e,e1⟩
theorem Go.frzT (g:Go σ ρ F H σ ρ1 F1 H1){l:Addr}(hn:H l=none):Go σ ρ F H σ ρ1 (fun a=>F1 a\/a=l) H1:=
 ⟨g.stay,fun a h=>.inl (g.sub a h),fun a h=>h.elim (g.new a) fun (e:a=l)=>.inr (.inl (by rw[e];exact hn)),g.ow,g.there⟩
theorem jcy {d:D}(h:RV Z F1 H H1 σ ρ1 w v)(r:SR Z B F1 H1 σ ρ1)(g:Go σ ρ F H σ ρ1 F1 H1)(hd:toD w ρ1=.ok (d,ρ2)):∃F2,Go σ ρ F H σ ρ2 F2 H1/\SR Z B F2 H1 σ ρ2/\Rep Z F2 H1 d v/\Keep F1 F2 H1 H1:=by
 cases w with
 |dat d'=>cases hd;exact⟨F1,g,r,h,Keep.refl⟩
 |tmp o=>
  cases hd;obtain⟨l,rfl,h1,h2,h3,h4⟩:=h;obtain⟨a,b⟩:=r.frzT h2 h4;exact⟨_,g.frzT h3,a,b,fun a q=>⟨.inl q,rfl⟩⟩
 |slot i=>
  have h:σ[i]?=some (some v):=h;simp only[toD]at hd;split at hd
  ·rename_i o e;cases hd;obtain⟨l,e1,_⟩:=r.own i o _ _ e;rw[h]at e1;cases e1;obtain⟨a,b,c⟩:=r.frz e h;exact⟨_,g.trans (Go.frz e h),b,c,a⟩
  ·rename_i d' e;cases hd;obtain⟨v',e1,e2⟩:=r.dat i d e;rw[h]at e1;cases e1;exact⟨F1,g,r,e2,Keep.refl⟩
  ·cases hd
theorem jbs {c:Nat}:toD w ρ1≠.err c:=by
 cases w with
 |dat d=>intro z;cases z
 |tmp o=>intro z;cases z
 |slot i=>
  simp only[toD];split <;> (intro z;cases z)
end
section
variable {Z:Kn}{F F1:Addr->Prop}{H H1:Hp}{x:V}
theorem RepB.flat {d:D}(h:RepB Z F H d x)(hd:∀o:O,d≠o.toD):Rep Z F H d x:=by
 rcases h with h | ⟨_,o,_,e,_⟩
 ·exact h
 ·exact absurd e (hd o)
theorem RepB.int {i:Int}(h:RepB Z F H (.int i) x):x=.int i:=by have:=h.flat (fun o z=>by cases o <;> cases z);simpa only[Rep] using this
theorem RepB.bl {b:Bool}(h:RepB Z F H (.bl b) x):x=.bl b:=by have:=h.flat (fun o z=>by cases o <;> cases z);simpa only[Rep] using this
theorem RepB.str {s:Str}(h:RepB Z F H (.str s) x):x=.str s:=by have:=h.flat (fun o z=>by cases o <;> cases z);simpa only[Rep] using this
theorem RepB.non (h:RepB Z F H .non x):x=.non:=by have:=h.flat (fun o z=>by cases o <;> cases z);simpa only[Rep] using this
theorem RepB.tup {ds:List D}(h:RepB Z F H (.tup ds) x):∃a vs,x=.ref a/\FT Z.K F H a vs/\Reps Z F H ds vs:=by have:=h.flat (fun o z=>by cases o <;> cases z);simpa only[Rep] using this
theorem RepB.lst {ds:List D}(h:RepB Z F H (.lst ds) x):∃a vs,x=.ref a/\SqL Z.K H a vs/\Reps Z F H ds vs:=by
 rcases h with h | ⟨l,o,e1,e2,e3⟩
 ·simp only[Rep]at h;obtain⟨a,vs,e,q,r⟩:=h;exact⟨a,vs,e,q.sq,r⟩
 ·cases o with
  |l xs=>
   cases e2;obtain⟨vs,e,q⟩:=e3;exact⟨l,vs,e1,SqL.of e,q⟩
  |d ks vs=>cases e2
theorem RepB.dct {ks vs:List D}(h:RepB Z F H (.dct ks vs) x):∃a us ws xs,x=.ref a/\(∃ep,H a=some (.dT xs ep))/\Reps Z F H ks us/\Reps Z F H vs ws/\DicI ks xs us ws:=by
 rcases h with h | ⟨l,o,e1,e2,e3⟩
 ·simp only[Rep]at h;obtain⟨a,us,ws,xs,e,_,h1⟩:=h;exact⟨a,us,ws,xs,e,h1⟩
 ·cases o with
  |l xs=>cases e2
  |d ks' vs'=>cases e2;obtain⟨us,ws,xs,h1⟩:=e3;exact⟨l,us,ws,xs,e1,h1⟩
theorem jbi {d:D}{xs:List D}(h:RepB Z F H d x)(hs:jat d=.ok xs):∃p vs,x=.ref p/\(SqL Z.K H p vs\/SqT Z.K H p vs)/\Reps Z F H xs vs:=by
 cases d with
 |tup ds=>cases hs;obtain⟨a,vs,e,ft,r⟩:=h.tup;exact⟨a,vs,e,.inr ft.sq,r⟩
 |lst ds=>cases hs;obtain⟨a,vs,e,ft,r⟩:=h.lst;exact⟨a,vs,e,.inl ft,r⟩
 |_=>cases hs
end
noncomputable def PostV (Z:Kn)(F:Addr->Prop)(H:Hp)(Q:VK)(w:Vl):Prop:=∀v F' H',Ext F H F' H'->(∀σ ρ B,SR Z B F H σ ρ->RV Z F' H H' σ ρ w v)->Q v H'
section
variable {Z:Kn}{B:Bs}{σ:L2.St}{ρ:Rho}{F:Addr->Prop}{H:Hp}{Q:VK}
theorem PostV.sc {d:D}{v:V}(h:PostV Z F H Q (.dat d))(dm:Dom F H)(r:Rep Z F H d v):Q v H:=h v F H (Ext.refl dm) fun _ _ _ _=>r
theorem PostV.int {i:Int}(h:PostV Z F H Q (.dat (.int i)))(dm:Dom F H):Q (.int i) H:=h.sc dm (by simp only[Rep])
theorem PostV.bl {i:Bool}(h:PostV Z F H Q (.dat (.bl i)))(dm:Dom F H):Q (.bl i) H:=h.sc dm (by simp only[Rep])
theorem PostV.tupOld {ds:List D}{a:Addr}{vs:List V}(h:PostV Z F H Q (.dat (.tup ds)))(dm:Dom F H)(f:FT Z.K F H a vs)(r:Reps Z F H ds vs):Q (.ref a) H:=h.sc dm (by simp only[Rep];exact⟨a,vs,rfl,f,r⟩)
theorem PostV.tup {ds:List D}{vs:List V}(h:PostV Z F H Q (.dat (.tup ds)))(dm:Dom F H)(r:Reps Z F H ds vs):∀p,H p=none->Q (.ref p) (upd H p (.tup vs)):=fun p hp=>by
 have ex:=Ext.newF (o:=.tup vs) dm hp;refine h _ _ _ ex fun _ _ _ _=>?_;show Rep _ _ _ _ _;simp only[Rep];exact⟨p,vs,rfl,.inl ⟨.inr rfl,.inl jah⟩,r.mono (ex.keep dm)⟩
theorem PostV.lst {ds:List D}{vs:List V}(h:PostV Z F H Q (.tmp (.l ds)))(dm:Dom F H)(r:Reps Z F H ds vs):∀p,H p=none->Q (.ref p) (upd H p (.lst vs)):=fun p hp=>by
 have ex:=Ext.newO (o:=.lst vs) dm hp;refine h _ _ _ ex fun σ ρ B sr=>⟨p,rfl,fun z=>?_,fun z=>?_,hp,vs,jah,r.mono (ex.keep dm)⟩
 ·obtain⟨o,e⟩:=dm p z;rw[hp]at e;cases e
 ·obtain⟨u,e⟩:=sr.there z;rw[hp]at e;cases e
end
theorem Post.toV {Z:Kn}{B:Bs}{σ:L2.St}{ρ ρ1:Rho}{F F1:Addr->Prop}{H H1:Hp}{Q:VK}{w:Vl}(h:Post Z B σ ρ F H Q (w,ρ1))(g:Go σ ρ F H σ ρ1 F1 H1)(r:SR Z B F1 H1 σ ρ1)(hw:∀i,w≠.slot i):PostV Z F1 H1 Q w:=fun v F' H' e q=>by
 refine h v F' H' (g.trans e.go) (r.ext e) ?_;exact(q σ ρ1 B r).base fun l z=>g.free z
inductive rD2_I (Z:Kn) (g:D->D->R Vl) (x:L2.V) (y:L2.V) (H:L2.Hp) (Q:L2.VK):Prop
 |mk (F:_) (dx:_) (dy:_) (w:_):(Dom F H)->(RepB Z F H dx x)->(RepB Z F H dy y)->(g dx dy=.ok w)->(PostV Z F H Q w)->rD2_I Z g x y H Q
noncomputable def rD2 (Z:Kn)(g:D->D->R Vl):R2:=fun x y H Q=>rD2_I Z g x y H Q
inductive rD1_I (Z:Kn) (g:D->R Vl) (x:V) (H:Hp) (Q:VK):Prop
 |mk (F:_) (dx:_) (w:_):(Dom F H)->(RepB Z F H dx x)->(g dx=.ok w)->(PostV Z F H Q w)->rD1_I Z g x H Q
noncomputable def rD1 (Z:Kn)(g:D->R Vl):V->Hp->VK->Prop:=fun x H Q=>rD1_I Z g x H Q
section
variable {Z:Kn}{X:Cx}{B:Bs}{σ:L2.St}{H:Hp}{Q:VK}
theorem tE.two {fa fb:Rho->R (Vl×Rho)}{g:D->D->R Vl}(hg:∀x y c,g x y≠.err c)(hs:∀x y i,g x y≠.ok (.slot i))
  (h:tE Z X B (fun ρ=>(fa ρ).bind fun p=>(fb p.2).bind fun q=>(deref p.1 q.2).bind fun x=>(deref q.1 q.2).bind fun y=>(g x y).bind fun v=>.ok (v,q.2)) σ H Q) :
  tOp (rD2 Z g) (tE Z X B fa) (tE Z X B fb) σ H Q:=by
 obtain⟨F,ρ,r,h⟩:=h;refine⟨F,ρ,r,h.bind.imp (fun _ w=>w) fun p h1 v F1 H1 g1 r1 q1=>⟨F1,p.2,r1,h1.bind.imp (fun c w=>w.mono g1) fun q h2 u F2 H2 g2 r2 q2=>?_⟩⟩;obtain⟨x,ex,h3⟩:=h2.bind.pure fun c=>jaE;obtain⟨y,ey,h4⟩:=h3.bind.pure fun c=>jaE;obtain⟨w,ew,h5⟩:=h4.bind.pure fun c=>hg x y c;have g12:=g1.trans g2;exact⟨F2,x,y,w,r2.dom,jaZ (q1.go r1 g2) r2 ex,jaZ q2 r2 ey,ew,Post.toV h5 g12 r2 fun i z=>hs x y i (by rw[ew,z])⟩
theorem tE.one {fa:Rho->R (Vl×Rho)}{g:D->R Vl}(hg:∀x c,g x≠.err c)(hs:∀x i,g x≠.ok (.slot i))(h:tE Z X B (fun ρ=>(fa ρ).bind fun p=>(deref p.1 p.2).bind fun x=>(g x).bind fun v=>.ok (v,p.2)) σ H Q):tUn (rD1 Z g) (tE Z X B fa) σ H Q:=by
 obtain⟨F,ρ,r,h⟩:=h;refine⟨F,ρ,r,h.bind.imp (fun _ w=>w) fun p h1 v F1 H1 g1 r1 q1=>?_⟩;obtain⟨x,ex,h3⟩:=h1.bind.pure fun c=>jaE;obtain⟨w,ew,h5⟩:=h3.bind.pure fun c=>hg x c;exact⟨F1,x,w,r1.dom,jaZ q1 r1 ex,ew,Post.toV h5 g1 r1 fun i z=>hs x i (by rw[ew,z])⟩
end
end DJ
namespace DJ
open PySem PySem.Spec PyProof.Rows L2
section
variable {Z:Kn}{X:Cx}{pins:List (Addr×Obj)}{σ:L2.St}{F:Addr->Prop}{H:Hp}{s:Shared}
theorem jlk {d:D}{k:Key}{v:V}{u:Value}(e:keyOf d=some k)(r:Rep Z F H d v)(ru:RelV v u):(jaW X.prog X.w).is k u=true:=by
 cases d with
 |int i=>cases e;simp only[Rep]at r;subst r;obtain⟨t,rfl⟩:=ru;exact jfr _ _ i t
 |str x=>cases e;simp only[Rep]at r;subst r;obtain⟨t,rfl⟩:=ru;exact jfs _ _ x t
 |_=>cases e
theorem jgw:∀{ds:List D}{ks:List Key}{vs:List V}{us:List Value},jhs ds=some ks->Reps Z F H ds vs->Vals vs us->ItemsAre (jaW X.prog X.w) ks us
 |[],ks,vs,us,e,r,rv=>by
  cases e;simp only[Reps]at r;subst r;cases rv;exact .nil
 |d::ds,ks,vs,us,e,r,rv=>by
  obtain⟨v,vs,rfl,r1,r2⟩:=r.uncons;cases rv with
  |cons h t=>
   unfold jhs at e;split at e
   ·rename_i k ks' e1 e2;cases e;exact .cons (jlk e1 r1 h) (jgw e2 r2 t)
   ·cases e
theorem jeK (hK:X.K=Z.K)(I:Inv X pins σ H s){d:D}{k:List Key}{b:Addr}(e:keyD d=some k)(r:Rep Z F H d (.ref b)):(tupleKind (jaW X.prog X.w)).is s.heap k b:=by
 cases d with
 |tup ds=>
  simp only[Rep]at r;obtain⟨a,vs,z,ft,rs⟩:=r;cases z;obtain⟨its,rv,⟨o,h1,h2,n,h3⟩,_⟩:=I.tuple (show SqT X.K H b vs by rw[hK];exact ft.sq)
  exact⟨o,its.toArray,n,h1,h2,h3,jgw e rs (by simpa using rv)⟩
 |_=>cases e
theorem jd2 {d:D}{k:List Key}{v:V}(e:keyD d=some k)(r:Rep Z F H d v):∃b,v=.ref b:=by
 cases d with
 |tup ds=>simp only[Rep]at r;obtain⟨a,vs,z,_⟩:=r;exact⟨a,z⟩
 |_=>cases e
theorem ji2 (hK:X.K=Z.K)(I:Inv X pins σ H s):∀{ks:List D}{xs:List (List Key×Addr×Value)},Reps Z F H ks (xs.map fun x=>V.ref x.2.1)->(ks.map keyD=xs.map fun x=>some x.1)->∀x∈xs,(tupleKind (jaW X.prog X.w)).is s.heap x.1 x.2.1
 |[],xs,r,e,x,hx=>by
  cases xs with
  |nil=>cases hx
  |cons y ys=>cases e
 |d::ks,xs,r,e,x,hx=>by
  cases xs with
  |nil=>cases hx
  |cons y ys=>
   obtain⟨v,vs,z,r1,r2⟩:=r.uncons;cases z;rw[jtO,jtO]at e;injection e with e1 e2
   rcases List.mem_cons.mp hx with q | hx
   ·subst q;exact jeK hK I e1 r1
   ·exact ji2 hK I r2 e2 x hx
theorem jgx (hK:X.K=Z.K)(I:Inv X pins σ H s){a:Addr}{ks:List D}{us ws:List V}{xs:List (List Key×Addr×Value)}{ep:Nat}(e:H a=some (.dT xs ep))(r:Reps Z F H ks us)(i:DicI ks xs us ws):(a==sysModules)=false/\s.heap.DictOfH (tupleKind (jaW X.prog X.w)) a xs:=by
 obtain⟨h0,o,es,h1,h2,h3,h4⟩:=(show ObjOk X.prog X.w H s.heap a (.dT xs ep)from I.hok a _ e);exact⟨h0,o,es,ep,h1,h2,h3,h4,ji2 hK I (by rw[<-i.us];exact r) i.ks,i.nd⟩
theorem jfE {ks:List D}{xs:List (List Key×Addr×Value)}{k:List Key}:(ks.map keyD=xs.map fun x=>some x.1)->jpf ks k=(atKey xs k).isSome:=by
 intro e;unfold jpf atKey;rw[Option.isSome_map,List.isSome_find?];have h1:ks.any (isK k)=(ks.map keyD).any fun y=>decide (y=some k):=by rw[List.any_map];rfl
 rw[h1,e,List.any_map];congr 1;funext x;show decide (some x.1=some k)=decide (x.1=k);simp
theorem jqe (hK:X.K=Z.K)(hu:X.A.units+64<cLine)(I:Inv X pins σ H s){d:D}{ks vs:List D}{x y:V}{u w:Value}{b:Bool}(hd:RepB Z F H d x)(he:RepB Z F H (.dct ks vs) y)(rx:RelV x u)(ry:RelV y w)(hb:inK ks (keyD d)=.ok b)(neg:Bool){Q:Value->Shared->Prop}{E:Value->Shared->Prop}
  (q:∀s',Inv X pins σ H s'->Q (.bool (if neg then !b else b)) s'):wpAny @4 X.A (compareOp (if neg then .NotIn else .In) u w) Q E s:=by
 cases ek:keyD d with
 |none=>rw[ek]at hb;cases hb
 |some k=>
  rw[ek]at hb;cases hb;obtain⟨a,us,ws,xs,rfl,⟨ep,e⟩,r1,r2,i⟩:=he.dct;cases ry;have hd':Rep Z F H d x:=hd.flat (fun o z=>by subst z;cases o <;> cases ek)
  obtain⟨b,rfl⟩:=jd2 ek hd';cases rx;obtain⟨h0,dd⟩:=jgx hK I e r1 i;have kk:=jeK hK I ek hd';have hr:(tupleKind (jaW X.prog X.w)).room X.A.in1:=tupleKind_room_in1 @0
  cases neg with
  |false=>exact wpAny_in_heap hr kk h0 dd (by rw[<-jfE i.ks];exact q _ (I.tok _))
  |true=>exact wpAny_notIn_heap hr kk h0 dd (by rw[<-jfE i.ks];exact q _ (I.tok _))
theorem ji3 {k:List Key}{d:D}{v:V}{r:Value}(rv:Rep Z F H d v)(ru:RelV v r):∀{ks vs:List D}{xs:List (List Key×Addr×Value)}{ws:List V},(ks.map keyD=xs.map fun x=>some x.1)->Reps Z F H vs ws->Vals ws (xs.map (·.2.2))->∃ws',Reps Z F H (jqc k d ks vs) ws'/\Vals ws' ((xs.map (putAt k r)).map (·.2.2))
 |[],vs,xs,ws,e,h,h'=>by
  cases xs with
  |nil=>exact⟨ws,by cases vs <;> exact h,h'⟩
  |cons y ys=>cases e
 |y::ks,vs,xs,ws,e,h,h'=>by
  cases xs with
  |nil=>cases e
  |cons p ps=>
   rw[jtO]at h';cases vs with
   |nil=>simp only[Reps]at h;subst h;cases h'
   |cons v0 vs=>
    obtain⟨w0,ws0,rfl,g1,g2⟩:=h.uncons;rw[jtO,jtO]at e;injection e with e1 e2
    cases h' with
    |cons q1 q2=>
     obtain⟨ws',a1,a2⟩:=ji3 rv ru e2 g2 q2;by_cases hk:p.1=k
     ·refine⟨v::ws',?_,?_⟩
      ·have:isK k y=true:=by unfold isK;rw[e1,hk];exact decide_eq_true rfl
       unfold jqc;rw[if_pos this];exact .cons rv a1
      ·rw[jtO,jtO];have:(putAt k r p).2.2=r:=by unfold putAt;rw[if_pos hk]
       rw[this];exact .cons ru a2
     ·refine⟨w0::ws',?_,?_⟩
      ·have:¬isK k y=true:=by
        unfold isK;rw[e1];intro z;exact hk (Option.some.inj (of_decide_eq_true z))
       unfold jqc;rw[if_neg this];exact .cons g1 a1
      ·rw[jtO,jtO];have:(putAt k r p).2.2=p.2.2:=by unfold putAt;rw[if_neg hk]
       rw[this];exact .cons q1 a2
theorem jhv {k:List Key}{r:Value}(xs:List (List Key×Addr×Value)):(xs.map (putAt k r)).map (fun x=>some x.1)=xs.map fun x=>some x.1:=by
 rw[List.map_map];apply List.map_congr_left;intro x _;show some (putAt k r x).1=some x.1;unfold putAt;split <;> rfl
theorem jhw {k:List Key}{r:Value}(xs:List (List Key×Addr×Value)):(xs.map (putAt k r)).map (fun x=>V.ref x.2.1)=xs.map fun x=>V.ref x.2.1:=by
 rw[List.map_map];apply List.map_congr_left;intro x _;show V.ref (putAt k r x).2.1=_;unfold putAt;split <;> rfl
theorem jnK {l:Addr}{ks vs:List D}{us ws:List V}{xs:List (List Key×Addr×Value)}{kd d:D}{k:List Key}{b:Addr}{v:V}{r:Value}(he:∃ep,H l=some (.dT (storedH xs k b r) ep))(r1:Reps Z F H ks us)(r2:Reps Z F H vs ws)(i:DicI ks xs us ws)(ek:keyD kd=some k)(rk:Rep Z F H kd (.ref b))(rv:Rep Z F H d v)(ru:RelV v r)(hz:xs.length+1<=sizeLine)
  (nd:((storedH xs k b r).map (·.1)).Nodup):HasO Z F H l (jnD ks vs kd k d):=by
 have hh:=jfE (k:=k) i.ks;unfold jnD;cases hs:(atKey xs k).isSome with
 |true=>
  have e:storedH xs k b r=xs.map (putAt k r):=by unfold storedH;rw[hs];rfl
  rw[e]at he nd;rw[hh,hs,if_pos rfl];obtain⟨ws',a1,a2⟩:=ji3 (k:=k) rv ru i.ks r2 i.ws;exact⟨us,ws',_,he,r1,a1,⟨by rw[jhw];exact i.us,a2,by rw[jhv];exact i.ks,nd,by rw[jtQ];exact i.sz⟩⟩
 |false=>
  have e:storedH xs k b r=xs++[(k,b,r)]:=by unfold storedH;rw[hs];rfl
  rw[e]at he nd;rw[hh,hs,if_neg (by decide)]
  refine⟨us++[.ref b],ws++[v],_,he,r1.append (.one rk),r2.append (.one rv),⟨?_,?_,?_,nd,by simpa using hz⟩⟩
  ·rw[List.map_append,i.us];rfl
  ·rw[List.map_append];exact i.ws.append (.cons ru .nil)
  ·rw[List.map_append,List.map_append,i.ks];show _++[keyD kd]=_;rw[ek];rfl
end
end DJ
namespace DJ
open PySem PySem.Spec PyProof.Rows L2
noncomputable def jhx (env:Env):List @7->List (Str×Addr)->List (Str×Addr)
 |[],cs=>cs
 |(n,k)::r,cs=>jhx env r (if k == .free then (n,(env.cells.lookup n).getD 0)::cs else cs)
theorem jnL {env:Env}:∀(names:List @7) (cs:List (Str×Addr)),(∀x∈names,x.2=.free->∃c,env.cells.lookup x.1=some c) ->
  (forIn names cs fun (x:Str×NameKind) (cs:List (Str×Addr))=>(match x with
   |(name,kind)=>if (kind==NameKind.free)=true then (do let a <-cellOf env name;pure (ForInStep.yield ((name,a)::cs)))else pure (ForInStep.yield cs):Sem (ForInStep (List (Str×Addr)))))=(pure (jhx env names cs):Sem _):=by
 intro names;induction names with
 |nil=>intro cs _;rfl
 |cons x r ih=>
  intro cs h;obtain⟨n,k⟩:=x;rw[List.forIn_cons];have ih':=fun cs=>ih cs fun x hx=>h x (jtI _ hx);by_cases hk:(k==NameKind.free)=true
  ·obtain⟨c,hc⟩:=h (n,k) jtJ (by simpa using hk)
   have e1:cellOf env n=pure c:=by
    have hc:env.cells.lookup n=some c:=hc;unfold cellOf;rw[hc]
   simp only[hk,if_true,e1];have hc:env.cells.lookup n=some c:=hc;simp only[jhx,hk,if_true,hc,Option.getD_some];exact ih' _
  ·simp only[hk,jhx];exact ih' _
theorem ji4 {scope:Scope}{env:Env}(h:∀x∈scope.names,x.2=.free->∃c,env.cells.lookup x.1=some c):closureFor scope env=pure (jhx env scope.names []):=by
 have:=jnL scope.names [] h;unfold closureFor;simp only;rw[this];rfl
theorem jbt {env:Env}:∀(names:List @7) (cs:List (Str×Addr)),(∀x∈names,x.2=.free->∃c,env.cells.lookup x.1=some c)->(∀n c,cs.lookup n=some c->env.cells.lookup n=some c) ->
  ∀n c,(jhx env names cs).lookup n=some c->env.cells.lookup n=some c
 |[],_,_,h2,n,c,e=>h2 n c e
 |(y,k)::r,cs,h1,h2,n,c,e=>by
  refine jbt r _ (fun x hx=>h1 x (jtI _ hx)) (fun m b q=>?_) n c e;by_cases hk:(k==NameKind.free)=true
  ·rw[if_pos hk]at q;obtain⟨b',hb⟩:=h1 (y,k) jtJ (by simpa using hk)
   have hb:env.cells.lookup y=some b':=hb;rw[hb,List.lookup_cons]at q;by_cases e:m=y
   ·subst e;simp at q;subst q;exact hb
   ·have:(m==y)=false:=by simpa using e
    rw[this]at q;exact h2 m b q
  ·rw[if_neg hk]at q;exact h2 m b q
theorem jd3 {env:Env}:∀(names:List @7) (cs:List (Str×Addr)) (n:Str),(∃c,cs.lookup n=some c)\/(n,NameKind.free)∈names->∃c,(jhx env names cs).lookup n=some c
 |[],cs,n,h=>h.elim id fun h=>by simp at h
 |(y,k)::r,cs,n,h=>by
  refine jd3 r _ n ?_;have keep:(∃c,cs.lookup n=some c)->∃c,(if k==NameKind.free then (y,(env.cells.lookup y).getD 0)::cs else cs).lookup n=some c:=fun ⟨c,e⟩=>by
   split
   ·rw[List.lookup_cons];split
    ·exact⟨_,rfl⟩
    ·exact⟨c,e⟩
   ·exact⟨c,e⟩
  rcases h with h | h
  ·exact .inl (keep h)
  ·rcases List.mem_cons.mp h with h | h
   ·cases h;refine .inl ⟨(env.cells.lookup y).getD 0,?_⟩;rw[if_pos (by rfl),List.lookup_cons]
    simp
   ·exact .inr h
theorem ja4 {c:Str->NameKind->Bool}{x:Str}:∀(names:List @7),(names.map fun (p:Str×NameKind)=>match p with | (n,k)=>if c n k=true then (n,NameKind.cell)else (n,k)).lookup x=(names.lookup x).map fun k=>if c x k=true then NameKind.cell else k
 |[]=>rfl
 |(n,k)::r=>by
  rw[jtO,List.lookup_cons];have ih:=ja4 (c:=c) (x:=x) r;by_cases e:x=n
  ·subst e;by_cases hc:c x k=true
   ·simp[hc]
   ·simp[hc]
  ·have e':(x==n)=false:=by simpa using e
   by_cases hc:c n k=true
   ·simp only[hc,if_true,List.lookup_cons,e'];exact ih
   ·simp only[hc,jur,if_false,List.lookup_cons,e'];exact ih
section
variable {x:Str}{c:Addr}
theorem jb6 (n:Nat)(y:Str)(k:NameKind)(r:List @7)(cs:List (Str×Addr)):cellsFrom n ((y,k)::r) cs=if k == .cell then cellsFrom (n+1) r ((y,n)::cs)else cellsFrom n r cs:=rfl
theorem ji5 (h:Heap)(y:Str)(k:NameKind)(r:List @7):pushCells h ((y,k)::r)=if k == .cell then pushCells (h.push { cls:=.type "cell",data:=.cell none }) r else pushCells h r:=rfl
theorem jb7 {y:Str}{n:Addr}{cs:List (Str×Addr)}(h:((y,n)::cs).lookup x=some c):(x=y/\c=n)\/(x≠y/\cs.lookup x=some c):=by
 rw[List.lookup_cons]at h;by_cases e:x=y
 ·subst e;simp at h;exact .inl ⟨rfl,h.symm⟩
 ·have:(x==y)=false:=by simpa using e
  rw[this]at h;exact .inr ⟨e,h⟩
theorem jcK:∀(names:List @7) (n:Nat) (cs:List (Str×Addr)),(cellsFrom n names cs).lookup x=some c->n<=c\/cs.lookup x=some c
 |[],n,cs,h=>.inr h
 |(y,k)::r,n,cs,h=>by
  rw[jb6]at h;split at h
  ·rcases jcK r _ _ h with h | h
   ·exact .inl @0
   ·rcases jb7 h with ⟨_,e⟩ | ⟨_,h⟩
    ·exact .inl (e ▸ jul _)
    ·exact .inr h
  ·exact jcK r _ _ h
theorem ji6:∀(names:List @7) (n:Nat) (cs:List (Str×Addr)),(∀x c,cs.lookup x=some c->c<n)->(∀x y c,cs.lookup x=some c->cs.lookup y=some c->x=y)->∀x y c,(cellsFrom n names cs).lookup x=some c->(cellsFrom n names cs).lookup y=some c->x=y
 |[],n,cs,_,h=>h
 |(y,k)::r,n,cs,h1,h2=>by
  rw[jb6];split
  ·refine ji6 r (n+1) _ (fun a b q=>?_) fun a a' b q q'=>?_
   ·rcases jb7 q with ⟨_,e⟩ | ⟨_,q⟩
    ·rw[e];exact Nat.lt_succ_self _
    ·exact Nat.lt_succ_of_lt (h1 a b q)
   ·rcases jb7 q with ⟨e,e1⟩ | ⟨_,q⟩ <;> rcases jb7 q' with ⟨e',e2⟩ | ⟨_,q'⟩
    ·rw[e,e']
    ·exact absurd (h1 a' b q') (by rw[e1];exact jup _)
    ·exact absurd (h1 a b q) (by rw[e2];exact jup _)
    ·exact h2 a a' b q q'
  ·exact ji6 r n cs h1 h2
theorem jfF:∀(names:List @7) (h:Heap) (cs:List (Str×Addr)),(∀x c,cs.lookup x=some c->∃v,h.IsCell c v)->∀x c,(cellsFrom h.objs.size names cs).lookup x=some c->∃v,(pushCells h names).IsCell c v
 |[],h,cs,k=>k
 |(y,k)::r,h,cs,q=>by
  rw[jb6,ji5];split
  ·have e:h.objs.size + 1=(h.push { cls:=.type "cell",data:=.cell none }).objs.size:=by rw[Heap.size_push]
   rw[e];refine jfF r _ _ fun a b z=>?_;rcases jb7 z with ⟨_,e⟩ | ⟨_,z⟩
   ·subst e;exact⟨none,_,jui _ rfl,rfl⟩
   ·obtain⟨v,z⟩:=q a b z;exact⟨v,z.keeps fun b o e=>jug _ e⟩
  ·exact jfF r h cs q
theorem ji7:∀(names:List @7) (n:Nat) (cs:List (Str×Addr)),(∀y∈names,y.1=x->y.2≠.cell)->(cellsFrom n names cs).lookup x=cs.lookup x
 |[],n,cs,_=>rfl
 |(y,k)::r,n,cs,h=>by
  rw[jb6];split
  ·rename_i hk;rw[ji7 r _ _ fun z hz=>h z (jtI _ hz),List.lookup_cons];have hne:x≠y:=fun e=>h (y,k) jtJ e.symm (by simpa using hk)
   have:(x==y)=false:=by simpa using hne
   rw[this]
  ·exact ji7 r _ _ fun z hz=>h z (jtI _ hz)
theorem jnM {n0:Nat}:∀(names:List @7) (n:Nat) (cs:List (Str×Addr)),n0<=n->(∀c,cs.lookup x=some c->n0<=c)->(cellsFrom n names cs).lookup x=some c->n0<=c
 |[],n,cs,_,h,e=>h c e
 |(y,k)::r,n,cs,hn,h,e=>by
  rw[jb6]at e;split at e
  ·refine jnM r _ _ @0 (fun b z=>?_) e
   rcases jb7 z with ⟨_,e⟩ | ⟨_,z⟩
   ·rw[e];exact hn
   ·exact h b z
  ·exact jnM r _ _ hn h e
theorem ji8:∀(names:List @7) (n:Nat) (cs:List (Str×Addr)),(x,NameKind.cell)∈names->(cellsFrom n names cs).lookup x=some c->n<=c
 |[],n,cs,h,_=>by cases h
 |(y,k)::r,n,cs,h,e=>by
  rw[jb6]at e;rcases List.mem_cons.mp h with h | h
  ·cases h;rw[if_pos (by rfl)]at e
   refine jnM r _ _ (Nat.le_succ _) (fun b z=>?_) e;rcases jb7 z with ⟨_,e⟩ | ⟨z,_⟩
   ·rw[e];exact jul _
   ·exact absurd rfl z
  ·split at e
   ·exact Nat.le_of_succ_le (ji8 r _ _ h e)
   ·exact ji8 r _ _ h e
theorem jc0 {M:Model}{A:Around}{E:Value->Shared->Prop}{Q:List (Str×Addr)->Shared->Prop}:∀(names:List @7) (cs:List (Str×Addr)) (s:Shared),Q (cellsFrom s.heap.objs.size names cs) { s with heap:=pushCells s.heap names } ->
  wpAny M A (forIn names cs fun (x:Str×NameKind) (__s:List (Str×Addr))=>(match x with
    |(name,kind)=>if (kind == NameKind.cell)=true then (do let a <-alloc { cls:=.type "cell",data:=.cell none };pure (ForInStep.yield ((name,a)::__s)))else pure (ForInStep.yield __s):Sem (ForInStep (List (Str×Addr))))) Q E s
 |[],cs,s,h=>jt9 h
 |(y,k)::r,cs,s,h=>by
  rw[jb6,ji5]at h;rw[List.forIn_cons];by_cases hk:(k==NameKind.cell)=true
  ·rw[if_pos hk,if_pos hk]at h;simp only[hk,if_true];refine jt8 (jt8 (wpAny_alloc (jt9 ?_)));have:=jc0 (M:=M) (A:=A) (E:=E) (Q:=Q) r ((y,s.heap.objs.size)::cs) { s with heap:=s.heap.push { cls:=.type "cell",data:=.cell none } } (by rw[Heap.size_push];exact h)
   exact this
  ·rw[if_neg hk,if_neg hk]at h;simp only[hk];exact jt8 (jt9 (jc0 r cs s h))
theorem jhy {M:Model}{A:Around}{E:Value->Shared->Prop}{s:Shared}{scope:Scope}{g:Addr}{cl:List (Str×Addr)}{qual:Str}{env:Env}{Q:Env->Shared->Prop}
  (h:Q (newEnv scope s.heap.objs.size g (cellsFrom (s.heap.objs.size + 1) scope.names cl) qual none .none (some env) builtinsNs) { s with heap:=pushCells (s.heap.push { cls:=.type "dict",data:=.dict #[] }) scope.names }) :
  wpAny M A (newFunctionEnv scope g cl [] qual none .none (some env)) Q E s:=by
 unfold newFunctionEnv;refine jt8 (wpAny_alloc ?_);refine jt8 (jc0 scope.names cl _ ?_);refine jt8 (jt9 (jt9 ?_));rw[Heap.size_push];exact h
end
noncomputable def cxComp (X:Cx)(N:List Str)(scope:Scope)(s:Shared)(H:Hp)(fp:List Addr)(xe:Value->Shared->Prop):Cx:=
 { X with N:=N,s₀:=s,H₀:=H,env:=compEnvC scope (cellsFrom (s.heap.objs.size+1) scope.names (jhx X.env scope.names [])) s.heap.objs.size X.env,outer:=X.stack,ex:=fp,fn:=fun x=>scope.names.lookup x==some .cell,pn:=[],xe:=xe }
structure CompOk (X:Cx)(scope:Scope)(N cn:List Str)(nt:Nat)(caps:List Nat):Prop where
 kind:scope.kind=.function
 cell:∀y∈scope.names,y.2=.cell->scope.names.lookup y.1=some .cell
 names:∀y∈scope.names,y.2=.local->scope.names.lookup y.1=some .local
 free:∀y∈scope.names,y.2=.free->X.env.scope.names.lookup y.1=some .cell\/X.env.scope.names.lookup y.1=some .free
 nd:N.Nodup
 split:∃tn,N=tn++cn/\tn.length=nt
 clen:cn.length=caps.length
 at_:∀(k j:Nat) (x:Str),cn[k]?=some x->caps[k]?=some j->X.N[j]?=some x/\scope.names.lookup x=some .free
section
variable {X:Cx}{scope:Scope}{N cn:List Str}{nt:Nat}{caps:List Nat}{pins:List (Addr×Obj)}{σ:L2.St}{H:Hp}{s:Shared}{fp:List Addr}{E:Value->Shared->Prop}
noncomputable def jll (nt:Nat)(caps:List Nat)(σ:L2.St):L2.St:=List.replicate nt none++caps.map fun j=>(σ[j]?).getD none
theorem CompOk.cells (C:CompOk X scope N cn nt caps)(I:Inv X pins σ H s):∀y∈scope.names,y.2=.free->∃c,X.env.cells.lookup y.1=some c:=fun y hy e=>I.ok.has y.1 (C.free y hy e)
theorem ji9 (C:CompOk X scope N cn nt caps)(I:Inv X pins σ H s)(fo:∀b∈fp,FpOk X pins H b)(ft:∀b∈fp,b<s.heap.objs.size):(cxComp X N scope s H fp E).Ok where
 mod:=I.ok.mod
 kind:=C.kind
 glob:=I.ok.glob
 blt:=I.ok.blt
 above:=jul _
 inj:=ji6 _ _ _ (fun x c h=>by
  obtain⟨v,z⟩:=I.cell x c (jbt _ _ (C.cells I) (fun _ _ z=>by simp at z) _ _ h)
  obtain⟨o,e,_⟩:=z;exact Nat.lt_succ_of_lt (juh e)) fun x y c h1 h2=>I.ok.inj x y c (jbt _ _ (C.cells I) (fun _ _ z=>by simp at z) _ _ h1) (jbt _ _ (C.cells I) (fun _ _ z=>by simp at z) _ _ h2)
 has:=fun x hx=>by
  have fin:(x,NameKind.free)∈scope.names\/scope.names.lookup x=some .cell->∃c,(cellsFrom (s.heap.objs.size+1) scope.names (jhx X.env scope.names [])).lookup x=some c:=fun z=>by
   refine Option.isSome_iff_exists.mp (PySem.W.cellsFrom_some _ _ _ ?_);rcases z with z | z
   ·obtain⟨c,e⟩:=jd3 (env:=X.env) scope.names [] x (.inr z);exact .inr (by rw[e];rfl)
   ·exact .inl z
  refine fin ?_;have hx':(relabel scope X.env).names.lookup x=some .cell\/(relabel scope X.env).names.lookup x=some .free:=hx;unfold relabel at hx';simp only at hx';rw[ja4 (c:=fun n k=>k == .free&&X.env.scope.kind == .function&&X.env.kindOf n==some .cell)]at hx';cases e:scope.names.lookup x with
  |none=>rw[e]at hx';simp at hx'
  |some k=>
   have hm:=PySem.mem_of_lookup e;by_cases hk:k=.free
   ·subst hk;exact .inl hm
   ·rw[e]at hx';have hk':(k==NameKind.free)=false:=by simpa using hk
    simp only[hk',Bool.false_and,jur,if_false,Option.map_some,Option.some.injEq]at hx';rcases hx' with hx' | hx'
    ·subst hx';exact .inr rfl
    ·exact absurd hx' hk
 cab:=fun x c h hc=>by
  have h:(scope.names.lookup x==some .cell)=true:=h;exact Nat.le_of_succ_le (ji8 _ _ _ (PySem.mem_of_lookup (by simpa using h)) hc)
 hd:=I.ok.hd
 frames:=I.ok.frames
 stk:=.inl rfl
 exf:=fun b hb=>⟨jun (ft b hb),fun x c h=>by
  rcases jcK _ _ _ h with h | h
  ·intro z;subst z;exact absurd (Nat.lt_trans (ft c hb) (Nat.lt_of_succ_le h)) (jup _)
  ·exact(fo b hb).2.2.2.2.1 x c (jbt _ _ (C.cells I) (fun _ _ z=>by simp at z) _ _ h)⟩
 bs:=I.bs
 bsz:=juo I.ok.bsz I.sz
 noex:=fun b o e hb=>by
  rcases (fo b hb).2.2.2.1 with z | z
  ·exact I.ok.noex b o e z
  ·exact absurd (jum (juh e) (juo I.ok.bsz z)) (jup _)
 exfs:=fun b hb hs=>by
  rcases List.mem_cons.mp (I.stkSub b hs)with z | z
  ·exact(fo b hb).2.1 z
  ·exact(fo b hb).2.2.1 z
 funs:=I.stack
 frf:=I.stkFree
theorem jlm (C:CompOk X scope N cn nt caps)(I:Inv X pins σ H s)(fo:∀b∈fp,FpOk X pins H b)(ft:∀b∈fp,b<s.heap.objs.size){h1:Heap}{m0:Str->Option Value}{tk:Nat}(hns:h1.Ns s.heap.objs.size m0)
  (kp:∀b o,s.heap.get? b=some o->h1.get? b=some o) (hcl:∀x c,(cellsFrom (s.heap.objs.size+1) scope.names (jhx X.env scope.names [])).lookup x=some c->∃v,h1.IsCell c v):Inv (cxComp X N scope s H fp E) [] (jll nt caps σ) H { s with heap:=h1,toks:=tk }:=by
 have sub:=jbt (env:=X.env) scope.names [] (C.cells I) (fun _ _ z=>by simp at z)
 refine⟨ji9 C I fo ft,rfl,I.bare,Un.kept kp,⟨m0,hns,fun i x v h1' h2 h3=>?_⟩,fun x c e=>?_,I.hok.fresh (jul _),fun x c e=>(jcK _ _ _ e).elim (fun z=>I.hok.fresh (Nat.le_of_succ_le z)) fun e=>I.freeC x c (sub x c e),fun p hp=>absurd (show p∈([]:List (Addr×Obj))from hp) @11,I.hok.kept kp,?_⟩
 ·obtain⟨tn,eN,hl⟩:=C.split;have h1':N[i]?=some x:=h1';have hi:nt<=i:=by
   refine Nat.le_of_not_lt fun hlt=>?_;unfold jll at h2;rw[jtY (by simpa using hlt),List.getElem?_replicate,if_pos hlt]at h2
   cases h2
  unfold jll at h2;rw[jtU (by simpa using hi),List.length_replicate,jtN]at h2
  rw[eN,jtU @0,hl]at h1'
  cases e:caps[i - nt]? with
  |none=>rw[e]at h2;cases h2
  |some j=>
   rw[e]at h2;obtain⟨hj,hf⟩:=C.at_ _ j x h1' e;have h2':(σ[j]?).getD none=some v:=Option.some.inj h2;have h2'':σ[j]?=some (some v):=by
    cases q:σ[j]? with
    |none=>rw[q]at h2';cases h2'
    |some o=>rw[q]at h2';simp at h2';rw[h2']
   have hm:=PySem.mem_of_lookup hf;have hk:=C.free _ hm rfl;obtain⟨m,hn,hl'⟩:=I.loc;obtain⟨u,r,lk⟩:=hl' j x v hj h2'' (.inr hk);refine⟨u,r,?_⟩;rcases lk with ⟨k1,_⟩ | ⟨_,c,hc,hcell⟩
   ·have k1:X.env.scope.names.lookup x=some .local:=k1;rw[k1]at hk;rcases hk with z | z <;> cases z
   ·obtain⟨c',hc'⟩:=jd3 (env:=X.env) scope.names [] x (.inr hm);have hcc:=sub x c' hc';rw[hc]at hcc;cases hcc;refine .inr ⟨?_,c,(ji7 _ _ _ fun y hy ey z=>?_).trans hc',?_⟩
    ·show (relabel scope X.env).names.lookup x=some .cell\/(relabel scope X.env).names.lookup x=some .free;unfold relabel;simp only;rw[ja4 (c:=fun n k=>k == .free&&X.env.scope.kind == .function&&X.env.kindOf n==some .cell),hf];simp only[Option.map_some];split
     ·exact .inl rfl
     ·exact .inr rfl
    ·have:=C.cell y hy z;rw[ey,hf]at this;cases this
    ·exact hcell.keeps kp
 ·exact hcl x c e
 ·obtain⟨tn,eN,hl⟩:=C.split;show (jll nt caps σ).length=N.length;unfold jll;rw[eN,jtV,jtV,List.length_replicate,jtQ,hl,C.clen]
end
theorem jeL {prog:Program}{w:World}{A:Around}{R:Result->Shared->Prop}{s:Shared}{elt target iter:Expr}{ifs:List Expr}{scope:Scope}{pos:Pos}{it acc:Value}{env:Env}(I:Nat->Shared->Prop)
  (turn:∀n s,I n s->wpAny @2 A (pyNext it) (fun r s₁=>match r with
   |none=>R (.ok .next) s₁
   |some v=>wpAny (model prog w) A (letOwnedTupleGo target it v) (fun _ s₁'=>wpAny (model prog w) A (assign target env v) (fun _ s₂=>
     wpAny @2 A (forIn ifs true fun c r=>if r=true then do let ok <-isTrue c env (eval c env);pure (ForInStep.yield ok)else pure (ForInStep.yield r)) (fun ok s₃=>
      if ok=true then wpAny @2 A (eval elt env) (fun x s₄=>
       wpAny @2 A (call (.builtin "list.append") [acc,x]) (fun _ s₅=>∃m,m < n/\I m s₅) (notedBy @2 A env fun e s'=>R (.error e) s') s₄) (notedBy @2 A env fun e s'=>R (.error e) s') s₃
      else ∃m,m<n/\I m s₃) (notedBy @2 A env fun e s'=>R (.error e) s') s₂) (notedBy @2 A env fun e s'=>R (.error e) s') s₁') (notedBy @2 A env fun e s'=>R (.error e) s') s₁) (notedBy @2 A env fun e s'=>R (.error e) s') s)
  (n:Nat) (h:I n s) :
  codeAny @2 A (.compLoop (.ListComp elt [⟨target,iter,ifs,0⟩] scope pos) 0 it acc env) R s:=by
 refine codeAny_loop rfl I (fun n s hI=>?_) n h;show wpAny _ A ((compTurn (.ListComp elt [⟨target,iter,ifs,0⟩] scope pos) 0 it acc env).onRaise (fun x=>do noteFrame x env;theTreesLotGoes x)) _ _ s
 refine wpAny_noted ?_;rw[compTurn_list];refine jt8 (wpAny_standAt (jt8 (juf (turn n s hI) (fun r s₁ h₁=>?_) fun _ _ h'=>h')));cases r with
 |none=>exact jt9 h₁
 |some v=>
  refine jt8 (juf h₁ (fun _ s₁' h₁'=>?_) fun _ _ h'=>h');refine jt8 (juf h₁' (fun _ s₂ h₂=>jt8 (juf h₂ (fun ok s₃ h₃=>?_) fun _ _ h'=>h')) fun _ _ h'=>h');cases ok with
  |false=>exact jt9 ⟨rfl,h₃⟩
  |true=>
   exact jt8 (jt8 (juf h₃ (fun x s₄ h₄=>jt8 (juf h₄ (fun _ s₅ h₅=>jt9 (jt9 ⟨rfl,h₅⟩)) fun _ _ h'=>h')) fun _ _ h'=>h'))
theorem jd4 {tgs:List Nat}{one:Bool}{x:D}{ρ:Rho}{c:Nat}:putT tgs one x ρ≠.err c:=by
 unfold putT;split
 ·intro z;cases z
 ·split <;> (intro z;cases z)
 ·intro z;cases z
theorem jln {tgs:List Nat}{one:Bool}{x:D}{ρ ρ':Rho}(h:putT tgs one x ρ=.ok ρ'):ρ'.length=ρ.length/\∀i:Nat,i ∉ tgs->ρ'[i]?=ρ[i]?:=by
 have fold:∀(ps:List (Nat×D)) (ρ:Rho),(ps.foldl (fun r p=>r.set p.1 (.dat p.2)) ρ).length=ρ.length/\∀i:Nat,i ∉ ps.map (·.1)->(ps.foldl (fun r p=>r.set p.1 (Sl.dat p.2)) ρ)[i]?=ρ[i]?:=by
  intro ps;induction ps with
  |nil=>intro ρ;exact⟨rfl,fun _ _=>rfl⟩
  |cons p ps ih=>
   intro ρ;obtain⟨e1,e2⟩:=ih (ρ.set p.1 (.dat p.2));refine⟨by rw[List.foldl_cons,e1,jt4],fun i hi=>?_⟩
   rw[jtO,jtK,not_or]at hi;rw[List.foldl_cons,e2 i hi.2,jtZ (Ne.symm hi.1)]
 unfold putT at h;split at h
 ·cases h;refine⟨jt4 ..,fun i hi=>?_⟩;rw[jtZ];intro z;exact hi (by simp[z])
 ·split at h
  ·cases h;rename_i hl;obtain⟨e1,e2⟩:=fold (tgs.zip _) ρ;refine⟨e1,fun i hi=>e2 i ?_⟩;rw[List.map_fst_zip (Nat.le_of_eq hl)];exact hi
  ·cases h
 ·cases h
theorem jgy {nt:Nat}{caps:List Nat}{ρ:Rho}{i:Nat}(h:i<nt):(jdt nt caps ρ)[i]?=some .no:=by
 unfold jdt;rw[jtY (by simpa using h),List.getElem?_replicate,if_pos h]
theorem jeM {nt:Nat}{caps:List Nat}{ρ:Rho}{k j:Nat}(h:caps[k]?=some j):(jdt nt caps ρ)[nt+k]?=some (match ρ[j]? with | some s=>s | none=>.no):=by
 unfold jdt jce;rw[jtU @11,List.length_replicate,Nat.add_sub_cancel_left,jtN,h]
 rfl
theorem jcL {nt:Nat}{caps:List Nat}{ρ:Rho}:(jdt nt caps ρ).length=nt+caps.length:=by unfold jdt jce;simp
theorem jja {nt:Nat}{caps:List Nat}{σ:L2.St}{k j:Nat}(h:caps[k]?=some j):(jll nt caps σ)[nt+k]?=some ((σ[j]?).getD none):=by
 unfold jll;rw[jtU @11,List.length_replicate,Nat.add_sub_cancel_left,jtN,h]
 rfl
theorem jaO:∀{caps:List Nat}{k:Nat}{inn ρ:Rho}{j:Nat},j ∉ caps->(jaB caps k inn ρ)[j]?=ρ[j]?
 |[],_,_,_,_,_=>rfl
 |i::r,k,inn,ρ,j,h=>by
  rw[jtK,not_or]at h;simp only[jaB];rw[jaO h.2];split
  ·rw[jtZ (Ne.symm h.1)]
  ·rfl
theorem jeN:∀{caps:List Nat}{k:Nat}{inn ρ:Rho},(jaB caps k inn ρ).length=ρ.length
 |[],_,_,_=>rfl
 |i::r,k,inn,ρ=>by
  simp only[jaB];rw[jeN];split
  ·rw[jt4]
  ·rfl
theorem jgz:∀{caps:List Nat}{k m:Nat}{inn ρ:Rho}{j:Nat}{s:Sl},caps.Nodup->caps[m]?=some j->j<ρ.length->inn[k+m]?=some s->(jaB caps k inn ρ)[j]?=some s
 |[],_,_,_,_,_,_,_,h,_,_=>by simp at h
 |i::r,k,0,inn,ρ,j,s,nd,h,hj,hs=>by
  have e:i=j:=by simpa using h
  subst e;simp only[jaB];rw[jaO (List.nodup_cons.mp nd).1];rw[Nat.add_zero]at hs;rw[hs];simp only;rw[List.getElem?_set_self hj]
 |i::r,k,m+1,inn,ρ,j,s,nd,h,hj,hs=>by
  simp only[jaB];refine jgz (m:=m) (List.nodup_cons.mp nd).2 (by simpa using h) ?_ (by rw[show k+1+m=k+(m+1)by omega];exact hs)
  split
  ·rw[jt4];exact hj
  ·exact hj
section
variable {X:Cx}{scope:Scope}{N cn:List Str}{nt:Nat}{caps:List Nat}{pins:List (Addr×Obj)}{Z:Kn}{σ σ':L2.St}{ρ:Rho}{B:Bs}{F:Addr->Prop}{H:Hp}{s:Shared}{fp:List Addr}
theorem CompOk.capsNd (C:CompOk X scope N cn nt caps):caps.Nodup:=by
 refine List.pairwise_iff_getElem.mpr fun i j hi hj hij z=>?_;have h1:caps[i]?=some caps[i]:=jtH hi;have h2:caps[j]?=some caps[i]:=by rw[z];exact jtH hj
 have li:i<cn.length:=by rw[C.clen];exact hi
 have lj:j<cn.length:=by rw[C.clen];exact hj
 have c1:cn[i]?=some cn[i]:=jtH (by rw[C.clen];exact hi)
 have c2:cn[j]?=some cn[j]:=jtH (by rw[C.clen];exact hj)
 have e1:=(C.at_ i _ _ c1 h1).1;have e2:=(C.at_ j _ _ c2 h2).1;rw[e1]at e2;have e3:cn[i]=cn[j]:=Option.some.inj e2;obtain⟨tn,eN,hl⟩:=C.split;have f1:N[tn.length+i]?=some cn[i]:=by rw[eN,jtU @0,Nat.add_sub_cancel_left];exact c1
 have f2:N[tn.length+j]?=some cn[i]:=by rw[eN,jtU @0,Nat.add_sub_cancel_left,e3];exact c2
 have:=jdS C.nd f1 f2;omega
noncomputable def jc1 (nt:Nat)(caps:List Nat)(B:Bs):Bs:=⟨B.hp,fun k=>if nt<=k then (caps[k - nt]?).bind B.lent else none⟩
theorem jbP {i:Nat}{o:O}{f k:Bool}(h:(jdt nt caps ρ)[i]?=some (.own o f k)):∃m j,i=nt+m/\caps[m]?=some j/\ρ[j]?=some (.own o f k):=by
 have hn:nt<=i:=by
  refine Nat.le_of_not_lt fun hlt=>?_;rw[jgy hlt]at h;cases h
 obtain⟨m,rfl⟩:∃m,i=nt+m:=⟨i - nt,by omega⟩
 cases e:caps[m]? with
 |none=>
  have:=(List.getElem?_eq_some_iff.mp h).1;rw[jcL]at this;have:=List.getElem?_eq_none_iff.mp e;omega
 |some j=>
  rw[jeM e]at h;refine⟨m,j,rfl,e,?_⟩;cases q:ρ[j]? with
  |none=>rw[q]at h;cases h
  |some t=>rw[q]at h;cases h;rfl
theorem jlo {i:Nat}{d:D}(h:(jdt nt caps ρ)[i]?=some (.dat d)):∃m j,i=nt+m/\caps[m]?=some j/\ρ[j]?=some (.dat d):=by
 have hn:nt<=i:=by
  refine Nat.le_of_not_lt fun hlt=>?_;rw[jgy hlt]at h;cases h
 obtain⟨m,rfl⟩:∃m,i=nt+m:=⟨i - nt,by omega⟩
 cases e:caps[m]? with
 |none=>
  have:=(List.getElem?_eq_some_iff.mp h).1;rw[jcL]at this;have:=List.getElem?_eq_none_iff.mp e;omega
 |some j=>
  rw[jeM e]at h;refine⟨m,j,rfl,e,?_⟩;cases q:ρ[j]? with
  |none=>rw[q]at h;cases h
  |some t=>rw[q]at h;cases h;rfl
noncomputable def Agr (nt:Nat)(caps:List Nat)(σ σ':L2.St):Prop:=σ'.length=nt+caps.length/\∀m j,caps[m]?=some j->σ'[nt+m]?=some ((σ[j]?).getD none)
theorem Agr.at (a:Agr nt caps σ σ'){m j:Nat}{v:V}(h:caps[m]?=some j):σ'[nt+m]?=some (some v)↔σ[j]?=some (some v):=by
 rw[a.2 m j h];constructor
 ·intro z;cases q:σ[j]? with
  |none=>rw[q]at z;cases z
  |some o=>rw[q]at z;simp at z;rw[z]
 ·intro z;rw[z];rfl
theorem jjb (nd:caps.Nodup)(a:Agr nt caps σ σ')(r:SR Z B F H σ ρ):SR Z (jc1 nt caps B) F H σ' (jdt nt caps ρ):=by
 refine⟨r.dom,by rw[jcL,a.1],fun i d h=>?_,fun i o f k h=>?_,fun i j o o' f k f' k' l hij h1 h2 q1 q2=>?_,r.base⟩
 ·obtain⟨m,j,rfl,hc,e⟩:=jlo h;obtain⟨v,e1,e2⟩:=r.dat j d e;exact⟨v,(a.at hc).mpr e1,e2⟩
 ·obtain⟨m,j,rfl,hc,e⟩:=jbP h;obtain⟨l,e1,e2,e3,e4,e5⟩:=r.own j o f k e;refine⟨l,(a.at hc).mpr e1,e2,e3,fun z=>?_,e5⟩;simp only[jc1,if_pos (Nat.le_add_right nt m),Nat.add_sub_cancel_left,hc,Option.bind_some];exact e4 z
 ·obtain⟨m1,j1,rfl,c1,e1⟩:=jbP h1;obtain⟨m2,j2,rfl,c2,e2⟩:=jbP h2;refine r.one j1 j2 o o' f k f' k' l (fun z=>hij ?_) e1 e2 ((a.at c1).mp q1) ((a.at c2).mp q2);subst z;have h1:=(List.getElem?_eq_some_iff.mp c1).1;have:=(List.getElem?_inj h1 nd).mp (c1.trans c2.symm);omega
theorem jfG (a:Agr nt caps σ σ'){b:Addr}(h:Mb σ' (jdt nt caps ρ) b):Mb σ ρ b:=by
 obtain⟨i,o,f,h1,h2⟩:=h;obtain⟨m,j,rfl,hc,e⟩:=jbP h1;exact⟨j,o,f,e,(a.at hc).mp h2⟩
theorem jjc (nd:caps.Nodup){σ4:L2.St}{inn:Rho}{F4:Addr->Prop}{H4:Hp}(a:Agr nt caps σ σ')(a4:Agr nt caps σ σ4)(r:SR Z B F H σ ρ)(hc:∀j∈caps,j<ρ.length)
  (r4:SR Z (jc1 nt caps B) F4 H4 σ4 inn) (g:Go σ' (jdt nt caps ρ) F H σ4 inn F4 H4):SR Z B F4 H4 σ (jaB caps nt inn ρ)/\Go σ ρ F H σ (jaB caps nt inn ρ) F4 H4:=by
 have r0:=jjb nd a r;have kp:=g.keep r0;have hlen:inn.length=nt+caps.length:=by rw[r4.len,a4.1]
 have inB:∀{m j:Nat},caps[m]?=some j->∃s,inn[nt+m]?=some s/\(jaB caps nt inn ρ)[j]?=some s:=fun {m j} h=>by
  have hm:=(List.getElem?_eq_some_iff.mp h).1;have e:inn[nt+m]?=some inn[nt+m]:=jtH @0
  exact⟨_,e,jgz nd h (hc j (jtT h)) e⟩
 have side:∀{j:Nat}{o:O}{f k:Bool}{l:Addr},j ∉ caps->ρ[j]?=some (.own o f k)->σ[j]?=some (some (.ref l))->¬Ow σ' (jdt nt caps ρ) l:=fun {j o f k l} hj h1 h2 z=>by
  obtain⟨i,o',f',k',q1,q2⟩:=z;obtain⟨m,j',rfl,hc',e⟩:=jbP q1;refine r.one j j' _ _ _ _ _ _ l (fun z=>hj (by rw[z];exact jtT hc')) h1 e h2 ((a.at hc').mp q2)
 have ow:∀(j:Nat) (o:O) (f k:Bool) (b:Addr),(jaB caps nt inn ρ)[j]?=some (.own o f k)->σ[j]?=some (some (.ref b))->(∃o0 k0,ρ[j]?=some (.own o0 f k0)/\σ[j]?=some (some (.ref b))/\(k0=true->k=true))\/H b=none:=fun j o f k b h1 h2=>by
  by_cases hj:j∈caps
  ·obtain⟨m,hm⟩:=List.mem_iff_getElem?.mp hj;obtain⟨sl,e1,e2⟩:=inB hm;rw[h1]at e2;cases e2;rcases g.ow _ o f k b e1 ((a4.at hm).mpr h2)with ⟨o0,k0,q1,q2,q3⟩ | z
   ·obtain⟨m',j',e,hc',q⟩:=jbP q1;have:m'=m:=by omega
    subst this;rw[hm]at hc';cases hc';exact .inl ⟨o0,k0,q,h2,q3⟩
   ·exact .inr z
  ·rw[jaO hj]at h1;exact Go.self h1 h2
 refine⟨⟨r4.dom,by rw[jeN];exact r.len,fun j d h=>?_,fun j o f k h=>?_,fun i j o o' f k f' k' l hij h1 h2 q1 q2=>?_,r4.base⟩,⟨fun b o h n=>g.stay b o h fun m=>n (jfG a m),g.sub,fun b h=>(g.new b h).imp id fun z=>z.imp id (jfG a),ow,g.there⟩⟩
 ·by_cases hj:j∈caps
  ·obtain⟨m,hm⟩:=List.mem_iff_getElem?.mp hj;obtain⟨sl,e1,e2⟩:=inB hm;rw[h]at e2;cases e2;obtain⟨v,q1,q2⟩:=r4.dat _ d e1;exact⟨v,(a4.at hm).mp q1,q2⟩
  ·rw[jaO hj]at h;obtain⟨v,q1,q2⟩:=r.dat j d h;exact⟨v,q1,q2.mono kp⟩
 ·by_cases hj:j∈caps
  ·obtain⟨m,hm⟩:=List.mem_iff_getElem?.mp hj;obtain⟨sl,e1,e2⟩:=inB hm;rw[h]at e2;cases e2;obtain⟨l,q1,q2,q3,q4,q5⟩:=r4.own _ o f k e1;refine⟨l,(a4.at hm).mp q1,q2,q3,fun z=>?_,q5⟩;have:=q4 z;simpa only[jc1,if_pos (Nat.le_add_right nt m),Nat.add_sub_cancel_left,hm,Option.bind_some] using this
  ·rw[jaO hj]at h;obtain⟨l,q1,q2,q3,q4⟩:=r.own j o f k h;obtain⟨u,hu⟩:=q3.some;obtain⟨s1,s2,s3⟩:=g.side hu q2 (side hj h q1);exact⟨l,q1,s2,q3.mono kp (s1.trans hu.symm),q4⟩
 ·by_cases hi:i∈caps
  ·obtain⟨m,hm⟩:=List.mem_iff_getElem?.mp hi;obtain⟨sl,e1,e2⟩:=inB hm;rw[h1]at e2;cases e2;by_cases hj:j∈caps
   ·obtain⟨m',hm'⟩:=List.mem_iff_getElem?.mp hj;obtain⟨sl',e1',e2'⟩:=inB hm';rw[h2]at e2';cases e2';refine r4.one (nt+m) (nt+m') _ _ _ _ _ _ l (fun z=>hij ?_) e1 e1' ((a4.at hm).mpr q1) ((a4.at hm').mpr q2);have:m=m':=by omega
    subst this;rw[hm]at hm';cases hm';rfl
   ·rw[jaO hj]at h2;rcases ow i o f k l (by rw[<-h1]) q1 with ⟨o0,k0,z1,z2,_⟩ | z
    ·exact r.one i j _ _ _ _ _ _ l hij z1 h2 z2 q2
    ·obtain⟨l',w1,_,w3,_⟩:=r.own j _ _ _ h2;rw[q2]at w1;cases w1;obtain⟨u,hu⟩:=w3.some;rw[hu]at z;cases z
  ·rw[jaO hi]at h1;by_cases hj:j∈caps
   ·rcases ow j o' f' k' l h2 q2 with ⟨o0,k0,z1,z2,_⟩ | z
    ·exact r.one i j _ _ _ _ _ _ l hij h1 z1 q1 z2
    ·obtain⟨l',w1,_,w3,_⟩:=r.own i _ _ _ h1;rw[q1]at w1;cases w1;obtain⟨u,hu⟩:=w3.some;rw[hu]at z;cases z
   ·rw[jaO hj]at h2;exact r.one i j _ _ _ _ _ _ l hij h1 h2 q1 q2
theorem jjd {E:Value->Shared->Prop}(C:CompOk X scope N cn nt caps)(I:Inv X pins σ H s)(fo:∀b∈fp,FpOk X pins H b)(ft:∀b∈fp,b<s.heap.objs.size){pins':List (Addr×Obj)}{H':Hp}(hp:∀b∈fp,∀p∈pins',p.1≠b)(hn:∀b∈fp,H' b=none) :
  ∀b∈fp,FpOk (cxComp X N scope s H fp E) pins' H' b:=fun b hb=>by
 have ok:=ji9 (E:=E) C I fo ft;exact⟨hn b hb,(fun e=>(ok.exf b hb).1 e),fun z=>ok.exfs b hb z,.inl hb,fun x c h=>(ok.exf b hb).2 x c h,fun p h=>hp b hb p (by simpa[cxComp] using h)⟩
end
end DJ
namespace DJ
open PySem PySem.Spec PyProof.Rows L2
noncomputable def jc2 (tgs:List Nat)(one:Bool)(nt:Nat)(caps:List Nat)(fc:Option (Rho->R (Bool×Rho)))(fe:Rho->R (Vl×Rho))(x:D)(r:Rho):R (Option D×Rho):=
 (putT tgs one x (jdt nt caps r)).bind fun r'=>match fc with
  |none=>(fe r').bind fun p=>(toD p.1 p.2).bind fun q=>.ok (some q.1,jaB caps nt q.2 r)
  |some g=>(g r').bind fun b=>if b.1 then (fe b.2).bind fun p=>(toD p.1 p.2).bind fun q=>.ok (some q.1,jaB caps nt q.2 r)else .ok (none,jaB caps nt b.2 r)
section
variable {X:Cx}{scope:Scope}{N cn:List Str}{nt:Nat}{caps:List Nat}{pins:List (Addr×Obj)}{Z:Kn}{σ:L2.St}{ρ:Rho}{B:Bs}{F:Addr->Prop}{H:Hp}{s:Shared}{fp:List Addr}
inductive CompI (X:Cx) (N:List Str) (scope:Scope) (fp:List Addr) (nt:Nat) (caps:List Nat) (σ:L2.St) (Z:Kn) (B:Bs) (ρ:Rho) (F:Addr->Prop) (H:Hp) (ls:List Addr) (tn:Nat->Heap->Prop) (f:D->Rho->R (Option D×Rho)) (xs:List D) (rs:R (List D×Rho)) (s3:Shared) (H3:Hp) (E:Value->Shared->Prop) (l:Addr) (k:Nat) (s':Shared):Prop
 |mk (i:Nat) (σ':L2.St) (F':Addr->Prop) (H':Hp) (ρ1:Rho) (yi:List D) (vs:List V):k=xs.length+1 - i->i<=xs.length->Inv (cxComp X N scope s3 H3 fp E) [] σ' H' s'->Agr nt caps σ σ'->SR Z B F' H' σ ρ1 ->
    Go σ ρ F H σ ρ1 F' H'->GK F H ls F' H'->tn i s'.heap->(∀b∈fp,H' b=none)->((compGo f (xs.drop i) ρ1).bind fun q=>.ok (yi++q.1,q.2))=rs->¬F' l->¬Ow σ ρ1 l->H' l=some (.lst vs)->Reps Z F' H' yi vs->yi.length<=i->CompI X N scope fp nt caps σ Z B ρ F H ls tn f xs rs s3 H3 E l k s'
theorem jgA {elt tg iter:Expr}{ks:List Expr}{pos:Pos}{tgs:List Nat}{one:Bool}{fc:Option (Rho->R (Bool×Rho))}{fe:Rho->R (Vl×Rho)}{xs:List D}{rs:R (List D×Rho)}{ls:List Addr}{it:Addr}{tn:Nat->Heap->Prop}{RR:Value->Addr->Result->Shared->Prop}
  (hZ:X.K=Z.K) (hc:X.calm=true) (C:CompOk X scope N cn nt caps) (I:Inv X pins σ H s) (r:SR Z B F H σ ρ) (W:Wk X.prog X.w Z tg F H ls xs fp it tn) (hls:∀l∈ls,¬Mb σ ρ l) (st0:tn 0 s.heap) (fo:∀b∈fp,FpOk X pins H b)
  (hT:∀s' H' E,TgOk @13 tg tgs one) (hlow:∀i∈tgs,i<nt) (hcap:∀j∈caps,j<ρ.length)
  (hE:∀s' H' E B',PE @13 elt (tE Z @13 B' fe))
  (hK:(ks=[]/\fc=none)\/∃k g,ks=[k]/\fc=some g/\∀s' H' E B',PT @13 k (tT Z @13 B' g))
  (hY:compGo (jc2 tgs one nt caps fc fe) xs ρ=rs) (hk:rs≠.stk)
  (hRR:∀(ys:List D) (ρE:Rho) (E:Value->Shared->Prop) (s3:Shared) (l:Addr) (σ':L2.St) (F':Addr->Prop) (H':Hp) (s':Shared) (vs:List V),rs=.ok (ys,ρE)->H l=none->Inv X pins σ (upd H l (.lst [])) s3->Inv (cxComp X N scope s3 (upd H l (.lst [])) fp E) [] σ' H' s'->Go σ ρ F H σ ρE F' H'->SR Z B F' H' σ ρE->¬F' l->¬Ow σ ρE l->H' l=some (.lst vs)->Reps Z F' H' ys vs ->
   RR (.ref l) s3.heap.objs.size (.ok .next) s')
  (hRX:∀(c:Nat) (E:Value->Shared->Prop) (s3:Shared) (l:Addr) (σ':L2.St) (H':Hp) (s':Shared) (pins':List (Addr×Obj)) (ea Cc:Addr),rs=.err c->H l=none->Inv X pins σ (upd H l (.lst [])) s3->Z.cl[c]?=some Cc->Inv (cxComp X N scope s3 (upd H l (.lst [])) fp E) pins' σ' H' s'->Stl σ ρ H H'->FlyC (cxComp X N scope s3 (upd H l (.lst [])) fp E) pins' ea (.ref Cc) H' s' ->
   notedBy @4 X.A (cxComp X N scope s3 (upd H l (.lst [])) fp E).env (fun e s''=>RR (.ref l) s3.heap.objs.size (.error e) s'') (.ref ea) s') {E:Value->Shared->Prop} :
  wpAny @4 X.A (newList []) (fun acc s₃=>wpAny @4 X.A (newFunctionEnv scope X.env.globals (jhx X.env scope.names []) [] X.env.qual none .none (some X.env)) (fun cenv s₄=>
   codeAny @4 X.A (.compStart (.ListComp elt [⟨tg,iter,ks,0⟩] scope pos) 0 (.ref it) acc { cenv with scope:=relabel scope X.env }) (RR acc cenv.locals) s₄) E s₃) E s:=by
 have nd:=C.capsNd;refine juc ?_;have ft:∀b∈fp,b<s.heap.objs.size:=fun b hb=>by
  obtain⟨o,e,_⟩:=W.obj _ _ st0 b hb;exact juh e
 have hl:H s.heap.objs.size=none:=I.hok.fresh (jul _);have I3:Inv X pins σ (upd H s.heap.objs.size (.lst [])) { s with heap:=s.heap.push { cls:=.type "list",dict:=none,data:=.seq ([]:List Value).toArray } }:=
  I.laid (t':=s.toks) (fun b u e=>jug _ e) (jul _) ⟨Nat.zero_le _,[],0,.nil,jui _ rfl⟩
 have ex3:Ext F H F (upd H s.heap.objs.size (.lst [])):=Ext.newO r.dom hl;have r3:SR Z B F (upd H s.heap.objs.size (.lst [])) σ ρ:=r.ext ex3;have fo3:∀b∈fp,FpOk X pins (upd H s.heap.objs.size (.lst [])) b:=fun b hb=>⟨by rw[jac (jun (ft b hb))];exact(fo b hb).1,(fo b hb).2⟩
 have st3:tn 0 (s.heap.push { cls:=.type "list",dict:=none,data:=.seq ([]:List Value).toArray }):=W.keep _ _ _ st0 fun b hb o e=>jug _ e;have nFl:¬F s.heap.objs.size:=fun z=>by
  obtain⟨o,e⟩:=r.dom _ z;rw[hl]at e;cases e
 have nOl:¬Ow σ ρ s.heap.objs.size:=fun z=>by
  obtain⟨o,e⟩:=r.there z;rw[hl]at e;cases e
 have ft3:∀b∈fp,b < (s.heap.push { cls:=.type "list",dict:=none,data:=.seq ([]:List Value).toArray }).objs.size:=fun b hb=>by
  rw[Heap.size_push];exact Nat.lt_succ_of_lt (ft b hb)
 revert I3 r3 ex3 fo3 st3 ft3
 generalize hs3:({ s with heap:=s.heap.push { cls:=.type "list",dict:=none,data:=.seq ([]:List Value).toArray } }:Shared)=s3
 have e3:s3.heap=s.heap.push { cls:=.type "list",dict:=none,data:=.seq ([]:List Value).toArray }:=by rw[<-hs3]
 rw[<-e3];generalize hl0:s.heap.objs.size=l at hl nFl nOl;generalize hH3:upd H l (.lst [])=H3;intro I3 ex3 r3 fo3 st3 ft3;have hl3:H3 l=some (.lst []):=by rw[<-hH3];exact jah
 refine jhy ?_;have hsb₁:∀b o,(s3.heap.push { cls:=.type "dict",data:=.dict #[] }).get? b=some o->(pushCells (s3.heap.push { cls:=.type "dict",data:=.dict #[] }) scope.names).get? b=some o:=pushCells_keeps _ _;have hcl:∀x c,(cellsFrom (s3.heap.objs.size + 1) scope.names (jhx X.env scope.names [])).lookup x=some c->∃v,(pushCells (s3.heap.push { cls:=.type "dict",data:=.dict #[] }) scope.names).IsCell c v:=by
  have:=jfF scope.names (s3.heap.push { cls:=.type "dict",data:=.dict #[] }) (jhx X.env scope.names []) fun x c e=>by
   obtain⟨v,z⟩:=I3.cell x c (jbt _ _ (C.cells I3) (fun _ _ z=>by simp at z) _ _ e)
   exact⟨v,z.keeps fun b o e=>jug _ e⟩
  rwa [Heap.size_push]at this
 have hns₁:(pushCells (s3.heap.push { cls:=.type "dict",data:=.dict #[] }) scope.names).Ns s3.heap.objs.size fun _=>none:=Heap.Ns.keeps ⟨_,_,_,jui _ rfl,rfl,(fun e he=>by simp at he),fun _=>rfl⟩ hsb₁
 revert hsb₁ hcl hns₁
 generalize hh1:pushCells (s3.heap.push { cls:=.type "dict",data:=.dict #[] }) scope.names=h₁;intro hsb₁ hcl hns₁;have kp:∀b o,s3.heap.get? b=some o->h₁.get? b=some o:=fun b o e=>hsb₁ b o (jug _ e);let EE:Value->Shared->Prop:=notedBy @4 X.A (cxComp X N scope s3 H3 fp (fun _ _=>False)).env (fun e s''=>RR (.ref l) s3.heap.objs.size (.error e) s'');have IY:=jlm (fp:=fp) (E:=EE) C I3 fo3 ft3 (tk:=s3.toks) hns₁ kp hcl;have aY:Agr nt caps σ (jll nt caps σ):=⟨by unfold jll;simp,fun m j h=>jja h⟩
 have hrl:ρ.length=σ.length:=r.len;have loop:∀s₄:Shared,s₄={ s3 with heap:=h₁,toks:=s3.toks } ->
   codeAny @4 X.A (.compLoop (.ListComp elt [⟨tg,iter,ks,0⟩] scope pos) 0 (.ref it) (.ref l) (cxComp X N scope s3 H3 fp EE).env) (RR (.ref l) s3.heap.objs.size) s₄:=by
  rintro s₄ rfl;let P:=CompI X N scope fp nt caps σ Z B ρ F H ls tn (jc2 tgs one nt caps fc fe) xs rs s3 H3 EE l;refine jeL P ?_ (xs.length+1)
   ⟨0,_,F,H3,ρ,[],[],rfl,Nat.zero_le _,IY,aY,r3,ex3.go,GK.refl.ext r.dom W.lst ex3,W.keep _ _ _ st3 (fun b _ o e=>kp b o e),fun b hb=>(fo3 b hb).1,(by rw[List.drop_zero,hY];cases rs with | ok q=>rfl | err c=>rfl | stk=>rfl),nFl,nOl,hl3,.nil,jul _⟩
  rintro k s' ⟨i,σ',F',H',ρ1,yi,vs,rfl,hi,I',a',r',g',gk',st',fr',hZ',nF',nO',hl',rep',hyi⟩;have fo':=jjd (E:=EE) C I3 fo3 ft3 (pins':=[]) (H':=H') (fun b _ p h=>by simp at h) fr'
  by_cases hlt:i<xs.length
  ·have hx:xs[i]?=some xs[i]:=jtH hlt;let jbl (p:Option D×Rho):R (List D×Rho):=(compGo (jc2 tgs one nt caps fc fe) (xs.drop (i+1)) p.2).bind fun q=>.ok (yi++(match p.1 with | some d=>d::q.1 | none=>q.1),q.2)
   have hZ2:(jc2 tgs one nt caps fc fe xs[i] ρ1).bind jbl=rs:=by
    rw[<-hZ',List.drop_eq_getElem_cons hlt];simp only[compGo,R.bind_assoc,R.bind_ok',jbl] <;> rfl
   clear hZ';unfold jc2 at hZ2;cases hp:putT tgs one xs[i] (jdt nt caps ρ1)with
   |err c=>exact absurd hp jd4
   |stk=>rw[hp]at hZ2;exact absurd hZ2.symm hk
   |ok ρ2=>
   rw[hp,R.bind_ok']at hZ2;have r0:=jjb nd a' r';refine juf (W.take (cxComp X N scope s3 H3 fp EE) rfl rfl hZ hc C.nd tgs one (hT s3 H3 EE) i [] s' σ' _ ρ2 _ F' H' _ I' r0 gk' fo' st' hx hp) (fun q s1 hzz=>?_) fun _ _ z=>z;obtain⟨u,hq,h1⟩:=hzz;subst hq;refine juf h1 (fun _ s2 h2=>juf h2 (fun _ s4 hzz=>?_) fun _ _ z=>z) fun _ _ z=>z;obtain⟨σ4,F4,H4,I4,r4,g4,gk4,st4,fr4,ag4⟩:=hzz;have foY:∀b∈fp,FpOk (cxComp X N scope s3 H3 fp EE) [] H4 b:=jjd C I3 fo3 ft3 (pins':=[]) (H':=H4) (fun b _ p h=>by simp at h) fr4
   have I4p:=I4.pinned foY (W.obj _ _ st4);obtain⟨pl,pg⟩:=jln hp;have a4:Agr nt caps σ σ4:=by
    refine⟨?_,fun m j h=>?_⟩
    ·rw[<-r4.len,pl,jcL]
    ·rw[ag4 (nt+m) fun z=>absurd (hlow _ z) @0];exact a'.2 m j h
   have hc1:∀j∈caps,j<ρ1.length:=fun j hj=>by rw[r'.len,<-hrl];exact hcap j hj
   have hls1:∀l∈ls,¬Mb σ ρ1 l:=fun l hl z=>by
    rcases g'.mb z with z | z
    ·exact hls l hl z
    ·obtain⟨o,e⟩:=W.lst l hl;rw[e]at z;cases z
   have back:∀{inn:Rho}{F5:Addr->Prop}{H5:Hp},SR Z (jc1 nt caps B) F5 H5 σ4 inn->Go σ4 ρ2 F4 H4 σ4 inn F5 H5->SR Z B F5 H5 σ (jaB caps nt inn ρ1)/\Go σ ρ1 F' H' σ (jaB caps nt inn ρ1) F5 H5:=fun {inn F5 H5} r5 g5=>jjc nd a' a4 r' hc1 r5 (g4.trans g5);have pinK:∀{s5:Shared}{H5:Hp},Inv (cxComp X N scope s3 H3 fp EE) ([]++jbX fp s4.heap) σ4 H5 s5->tn (i+1) s5.heap/\∀b∈fp,H5 b=none:=fun {s5 H5} I5=>by
    refine⟨W.keep _ _ _ st4 fun b hb o e=>(I5.pin (b,o) (jtS _ (jtS _ (jbm hb e)))).1,fun b hb=>?_⟩;obtain⟨ob,e,_⟩:=W.obj _ _ st4 b hb;exact(I5.pin (b,ob) (jtS _ (jtS _ (jbm hb e)))).2.1
   have exc:∀{c:Nat}{ρ5:Rho}{F5:Addr->Prop}{H5:Hp},rs=.err c->Go σ4 ρ2 F4 H4 σ4 ρ5 F5 H5->XW Z (cxComp X N scope s3 H3 fp EE) σ4 ρ5 H5 c:=fun {c ρ5 F5 H5} e g5 pins' H6 s6 ea Cc hC I6 stl fly=>by
    have st2:Stl σ' (jdt nt caps ρ1) H' H6:=Stl.go g4 (Stl.go g5 stl);have st1:Stl σ ρ1 H' H6:=⟨fun b o e n=>st2.stay b o e fun m=>n (jfG a' m),st2.there⟩;subst hH3;exact hRX c EE s3 l σ4 H6 s6 pins' ea Cc e hl I3 hC I6 (Stl.go g' st1) fly
   have skip:∀(s5:Shared) (inn:Rho) (F5:Addr->Prop) (H5:Hp),Inv (cxComp X N scope s3 H3 fp EE) ([]++jbX fp s4.heap) σ4 H5 s5->SR Z (jc1 nt caps B) F5 H5 σ4 inn->Go σ4 ρ2 F4 H4 σ4 inn F5 H5->jbl (none,jaB caps nt inn ρ1)=rs->∃m,m<xs.length+1 - i/\P m s5:=by
    intro s5 inn F5 H5 I5 r5 g5 eo;obtain⟨rB,gB⟩:=back r5 g5;obtain⟨st5,fr5⟩:=pinK I5;obtain⟨l1,l2,l3⟩:=gB.side hl' nF' nO';exact⟨xs.length+1 - (i+1),Nat.sub_lt_sub_left (Nat.lt_succ_of_lt hlt) (Nat.lt_succ_self i),i+1,σ4,F5,H5,_,yi,vs,rfl,hlt,I5.unpinned,a4,rB,g'.trans gB,gk'.go W.lst r' gB hls1,st5,fr5,eo,l2,l3,l1,rep'.mono (gB.keep r'),by omega⟩
   have elt_:∀(s5:Shared) (ρ5:Rho) (F5:Addr->Prop) (H5:Hp),Inv (cxComp X N scope s3 H3 fp EE) ([]++jbX fp s4.heap) σ4 H5 s5->SR Z (jc1 nt caps B) F5 H5 σ4 ρ5->Go σ4 ρ2 F4 H4 σ4 ρ5 F5 H5 ->
     ((fe ρ5).bind fun p=>(toD p.1 p.2).bind fun q=>(.ok (some q.1,jaB caps nt q.2 ρ1):R (Option D×Rho))).bind jbl=rs ->
     wpAny @4 X.A (eval elt (cxComp X N scope s3 H3 fp EE).env) (fun x s₄=>wpAny @4 X.A (call (.builtin "list.append") [.ref l,x]) (fun _ s₅=>∃m,m < xs.length + 1 - i/\P m s₅) EE s₄) EE s5:=by
    intro s5 ρ5 F5 H5 I5 r5 g5 ho;refine juf (hE s3 H3 EE (jc1 nt caps B) ([]++jbX fp s4.heap) s5 σ4 H5 (fun v H6=>∃(q:D×Rho) (F6:Addr->Prop),jbl (some q.1,jaB caps nt q.2 ρ1)=rs/\Go σ4 ρ2 F4 H4 σ4 q.2 F6 H6/\SR Z (jc1 nt caps B) F6 H6 σ4 q.2/\Rep Z F6 H6 q.1 v) I5 ⟨F5,ρ5,r5,?_⟩) (fun u s6 hzz=>?_) fun _ _ z=>z
    ·cases hd:fe ρ5 with
     |stk=>rw[hd]at ho;exact absurd ho.symm hk
     |err c=>rw[hd]at ho;exact exc ho.symm g5
     |ok p=>
      rw[hd,R.bind_ok']at ho;intro v F6 H6 g6 r6 rv6;cases hq:toD p.1 p.2 with
      |stk=>rw[hq]at ho;exact absurd ho.symm hk
      |err c=>exact absurd hq jbs
      |ok q=>
       rw[hq,R.bind_ok',R.bind_ok']at ho;obtain⟨F7,g7,r7,rp,_⟩:=jcy (rv6.base fun l z=>g5.free z) r6 (g5.trans g6) hq;exact⟨q,F7,ho,g7,r7,rp⟩
    ·obtain⟨v,H6,I6,rv,q,F6,ho,g6,r6,rp6⟩:=hzz;obtain⟨rB,gB⟩:=back r6 g6;obtain⟨l1,l2,l3⟩:=gB.side hl' nF' nO';have hvl:vs.length<sizeLine:=by
      have:=rep'.length;have:=W.len;omega
     refine juf (jey (X:=cxComp X N scope s3 H3 fp EE) ([]++jbX fp s4.heap) s6 σ4 H6 (.ref l) [v] (.ref l) [u] (fun _ H7=>H7=upd H6 l (.lst (vs++[v]))) I6 rfl (.cons rv .nil) ⟨l,vs,v,rfl,rfl,l1,hvl,rfl⟩) (fun _ s7 hzz=>?_) fun _ _ z=>z;obtain⟨_,H7,I7,_,e7⟩:=hzz;subst e7;obtain⟨kp7,r7⟩:=rB.oth (u:=.lst (vs++[v])) l2 l3;obtain⟨st7,fr7⟩:=pinK I7;have gA:Go σ ρ F H σ (jaB caps nt q.2 ρ1) F6 (upd H6 l (.lst (vs++[v]))):=by
      have g0:=g'.trans gB;refine⟨fun b ob e n=>?_,g0.sub,g0.new,g0.ow,fun b ob e=>?_⟩
      ·rw[jac (jab e hl)];exact g0.stay b ob e n
      ·rw[jac (jab e hl)];exact g0.there b ob e
     have gkA:GK F H ls F6 (upd H6 l (.lst (vs++[v]))):=by
      have gk0:=gk'.go W.lst r' gB hls1;refine⟨gk0.keep.trans kp7,fun b hb=>?_⟩;obtain⟨ob,e⟩:=W.lst b hb;rw[jac (jab e hl)];exact gk0.ls b hb
     refine⟨xs.length+1 - (i+1),Nat.sub_lt_sub_left (Nat.lt_succ_of_lt hlt) (Nat.lt_succ_self i),i+1,σ4,F6,_,_,yi++[q.1],vs++[v],rfl,hlt,I7.unpinned,a4,r7,gA,gkA,st7,fr7,?_,l2,l3,jah,((rep'.mono (gB.keep r')).mono kp7).append (.one (rp6.mono kp7)),by rw[jtV,List.length_singleton];omega⟩
     rw[<-ho];simp only[jbl,jt6,List.cons_append,List.nil_append]
   rcases hK with ⟨rfl,rfl⟩ | ⟨k,g,rfl,rfl,hkc⟩
   ·refine wpAny_tests_nil ?_;rw[if_pos rfl];exact elt_ s4 ρ2 F4 H4 I4p r4 Go.refl hZ2
   ·refine wpAny_tests_one ?_;refine juf (hkc s3 H3 EE (jc1 nt caps B) ([]++jbX fp s4.heap) s4 σ4 H4 (fun b' H5=>∃(b:Bool×Rho) (F5:Addr->Prop),b'=b.1/\((if b.1 then (fe b.2).bind fun p=>(toD p.1 p.2).bind fun q=>.ok (some q.1,jaB caps nt q.2 ρ1)else .ok (none,jaB caps nt b.2 ρ1):R (Option D×Rho))).bind jbl=rs/\Go σ4 ρ2 F4 H4 σ4 b.2 F5 H5/\SR Z (jc1 nt caps B) F5 H5 σ4 b.2) I4p ⟨F4,ρ2,r4,?_⟩) (fun b' s5 hzz=>?_) fun _ _ z=>z
    ·dsimp only at hZ2;cases hb:g ρ2 with
     |stk=>rw[hb]at hZ2;exact absurd hZ2.symm hk
     |err c=>rw[hb]at hZ2;exact exc hZ2.symm Go.refl
     |ok b=>
      rw[hb,R.bind_ok']at hZ2;exact fun F5 H5 g5 r5=>⟨b,F5,rfl,hZ2,g5,r5⟩
    ·obtain⟨H5,I5,b,F5,eb,ho,g5,r5⟩:=hzz;subst eb;cases hb1:b.1 with
     |true=>
      rw[if_pos rfl];rw[hb1,if_pos rfl]at ho;exact elt_ s5 b.2 F5 H5 I5 r5 g5 ho
     |false=>
      rw[if_neg (by decide)]
      rw[hb1,if_neg (by decide),R.bind_ok']at ho
      exact skip s5 b.2 F5 H5 I5 r5 g5 ho
  ·have hie:i=xs.length:=by omega
   subst hie;rw[List.drop_eq_nil_of_le (jul _)]at hZ';have hZ':(.ok (yi++[],ρ1):R (List D×Rho))=rs:=hZ';rw[jt5]at hZ';refine juf (W.done (cxComp X N scope s3 H3 fp EE) rfl rfl hZ hc [] s' σ' F' H' I' r'.dom gk' fo' st') (fun q s1 hzz=>?_) fun _ _ z=>z;obtain⟨hq,I1⟩:=hzz;subst hq;subst hH3;exact hRR yi ρ1 EE s3 l σ' F' H' s1 vs hZ'.symm hl I3 I1 g' r' nF' nO' hl' rep'
 exact codeAny_compStart_list (loop _ rfl) (W.self _ 0 _ _ _ (W.keep _ _ _ st3 fun b _ o e=>kp b o e) (loop _ rfl))
end
end DJ
namespace DJ
open PySem PySem.Spec PyProof.Rows L2
theorem jaH {n:Nat}(h:jbc n=true):n<=sizeLine:=by
 unfold jbc at h;rw[sizeLine_eq];simpa using h
noncomputable def Op.py:Op->Operator
 |.add=>.Add | .sub=>.Sub | .mul=>.Mult | .fdiv=>.FloorDiv | .mod=>.Mod | .pow=>.Pow
noncomputable def jmH:R Vl->Prop
 |.ok (.slot _)=>False
 |.err _=>False
 |_=>True
theorem jbu {c:Prop}[Decidable c]{r:R Vl}(h:jmH r):jmH (if c then r else .stk):=by
 split
 ·exact h
 ·trivial
theorem jlp {a b:Int}{o:Op}:jmH (opZ a b o):=by
 cases o <;> first | trivial | exact jbu trivial
theorem jd5 {v:R Vl}{o:Op}(h:jmH v):jmH (opC v o):=by
 cases o <;> first | exact h | trivial
theorem jd6 {v:R Vl}{o:Op}(h:jmH v):jmH (opM v o):=by
 cases o <;> first | exact h | trivial
theorem jgB {o:Op}{x y:D}:jmH (opD o x y):=by
 cases x with
 |int a=>cases y with
  |int b=>exact jlp
  |_=>trivial
 |tup a=>cases y with
  |tup b=>exact jd5 (jbu trivial)
  |int b=>exact jd6 (jbu trivial)
  |_=>trivial
 |lst a=>cases y with
  |lst b=>exact jd5 (jbu trivial)
  |bl b=>exact jd6 (jbu trivial)
  |int b=>exact jd6 (jbu trivial)
  |_=>trivial
 |str a=>cases y with
  |str b=>exact jd5 (jbu trivial)
  |_=>trivial
 |_=>trivial
theorem jnN {o:Op}{x y:D}{c:Nat}:opD o x y≠.err c:=fun h=>by
 have:=jgB (o:=o) (x:=x) (y:=y);rw[h]at this;exact this
theorem jlq {o:Op}{x y:D}{i:Nat}:opD o x y≠.ok (.slot i):=fun h=>by
 have:=jgB (o:=o) (x:=x) (y:=y);rw[h]at this;exact this
theorem jcz {w:Vl}{p:Prop}(h:(.stk:R Vl)=.ok w):p:=nomatch h
theorem jb0 {c:Prop}[Decidable c]{v w:Vl}(h:(if c then .ok v else .stk:R Vl)=.ok w):c/\v=w:=by
 split at h
 ·cases h;exact⟨‹_›,rfl⟩
 ·exact jcz h
theorem jje {v:R Vl}{w:Vl}{o:Op}(h:opC v o=.ok w):o=.add/\v=.ok w:=by
 cases o with
 |add=>exact⟨rfl,h⟩
 |_=>exact jcz h
theorem jjf {v:R Vl}{w:Vl}{o:Op}(h:opM v o=.ok w):o=.mul/\v=.ok w:=by
 cases o with
 |mul=>exact⟨rfl,h⟩
 |_=>exact jcz h
section
variable {Z:Kn}{X:Cx}
noncomputable def jrX (i j:Int):Prop:=0<j/\j<2 ^ 64
theorem jlr:OpR X (binaryOp .FloorDiv) (rI jrX fun i j=>.int (i / j)):=opI fun i j _ _ _ _ _ hc q=>by
 have h1:(0:Int)<j:=hc.1;have h2:j<2 ^ 64:=hc.2;refine floordiv_int @0 (by rw[Int.fdiv_eq_ediv_of_nonneg i @0];exact q) (.inl (PyProof.noPylong_of_log2 ?_))
 have h3:j.natAbs<2 ^ 64:=by omega
 have h4:j.natAbs.log2<64:=(Nat.log2_lt @0).mpr h3
 omega
theorem jrY (hZ:X.K=Z.K)(o:Op):OpR X (binaryOp o.py) (rD2 Z (opD o)):=by
 intro pins s σ H x y v u Q I rx ry h;obtain⟨F,dx,dy,w,dm,bx,by_,hw,h⟩:=h;have sqT:∀{a:Addr}{vs:List V},FT Z.K F H a vs->SqT X.K H a vs:=fun q=>by rw[hZ];exact q.sq
 cases dx with
 |int i=>
  cases dy with
  |int j=>
   cases bx.int;cases by_.int;cases o with
   |add=>cases hw;exact jpF pins s σ H _ _ v u Q I rx ry ⟨_,_,rfl,rfl,h.int dm⟩
   |sub=>cases hw;exact jpG pins s σ H _ _ v u Q I rx ry ⟨_,_,rfl,rfl,h.int dm⟩
   |mul=>obtain⟨hf,rfl⟩:=jb0 hw;exact jpH pins s σ H _ _ v u Q I rx ry ⟨_,_,rfl,rfl,hf,h.int dm⟩
   |fdiv=>obtain⟨hf,rfl⟩:=jb0 hw;exact jlr pins s σ H _ _ v u Q I rx ry ⟨_,_,rfl,rfl,hf,h.int dm⟩
   |mod=>obtain⟨hf,rfl⟩:=jb0 hw;exact jpI pins s σ H _ _ v u Q I rx ry ⟨_,_,rfl,rfl,hf,h.int dm⟩
   |pow=>obtain⟨hf,rfl⟩:=jb0 hw;exact jpJ pins s σ H _ _ v u Q I rx ry ⟨_,_,rfl,rfl,hf,h.int dm⟩
  |_=>exact jcz hw
 |tup as=>
  cases dy with
  |tup bs=>
   obtain⟨rfl,hw⟩:=jje hw;obtain⟨hf,rfl⟩:=jb0 hw;obtain⟨a,vs,rfl,ft,ra⟩:=bx.tup;obtain⟨b,us,rfl,fu,rb⟩:=by_.tup;have hl:vs.length+us.length<=sizeLine:=by rw[<-ra.length,<-rb.length];exact jaH hf
   by_cases hv:vs=[]
   ·subst hv;have ea:as=[]:=List.eq_nil_of_length_eq_zero (by rw[ra.length];rfl)
    subst ea;exact jkW pins s σ H _ _ v u Q I rx ry ⟨a,b,us,rfl,rfl,sqT ft,sqT fu,h.tupOld dm fu rb⟩
   ·refine jnm pins s σ H _ _ v u Q I rx ry ⟨a,b,vs,us,rfl,rfl,sqT ft,sqT fu,hv,hl,fun e=>?_,fun _=>h.tup dm (ra.append rb)⟩;subst e;have eb:bs=[]:=List.eq_nil_of_length_eq_zero (by rw[rb.length];rfl)
    subst eb;rw[jt5]at h;exact h.tupOld dm ft ra
  |int k=>
   obtain⟨rfl,hw⟩:=jjf hw;obtain⟨hf,rfl⟩:=jb0 hw;obtain⟨h0,h1,h2⟩:=hf;obtain⟨a,vs,rfl,ft,ra⟩:=bx.tup;cases by_.int;have hem:vs.isEmpty=as.isEmpty:=by
    have:=ra.length;cases vs <;> cases as <;> simp_all
   refine jnr pins s σ H _ _ v u Q I rx ry ⟨a,k,vs,rfl,rfl,sqT ft,h0,h1,by rw[<-ra.length];exact jaH h2,fun e=>?_,fun e=>h.tup dm (ra.rep k.toNat)⟩
   rw[hem]at e;have hsame:(List.replicate k.toNat as).flatten=as:=by
    rcases Bool.or_eq_true_iff.mp e with e | e
    ·have:as=[]:=by simpa using e
     subst this;simp
    ·have:k=1:=by simpa using e
     subst this;simp
   rw[hsame]at h;exact h.tupOld dm ft ra
  |_=>exact jcz hw
 |lst as=>
  cases dy with
  |lst bs=>
   obtain⟨rfl,hw⟩:=jje hw;obtain⟨hf,rfl⟩:=jb0 hw;obtain⟨a,vs,rfl,ft,ra⟩:=bx.lst;obtain⟨b,us,rfl,fu,rb⟩:=by_.lst;have hl:vs.length+us.length<=sizeLine:=by rw[<-ra.length,<-rb.length];exact jaH hf
   exact jnq pins s σ H _ _ v u Q I rx ry ⟨a,b,vs,us,rfl,rfl,(by rw[hZ];exact ft),(by rw[hZ];exact fu),hl,h.lst dm (ra.append rb)⟩
  |int k=>
   obtain⟨rfl,hw⟩:=jjf hw;obtain⟨hf,rfl⟩:=jb0 hw;obtain⟨h0,h1,h2⟩:=hf;obtain⟨a,vs,rfl,ft,ra⟩:=bx.lst;cases by_.int;exact jnw pins s σ H _ _ v u Q I rx ry ⟨a,k,vs,rfl,rfl,(by rw[hZ];exact ft),h0,h1,by rw[<-ra.length];exact jaH h2,h.lst dm (ra.rep k.toNat)⟩
  |bl k=>
   obtain⟨rfl,hw⟩:=jjf hw;obtain⟨hf,rfl⟩:=jb0 hw;obtain⟨a,vs,rfl,ft,ra⟩:=bx.lst;cases by_.bl;refine jnx pins s σ H _ _ v u Q I rx ry ⟨a,k,vs,rfl,rfl,(by rw[hZ];exact ft),by rw[<-ra.length];exact jaH hf,h.lst dm ?_⟩
   cases k with
   |true=>exact ra
   |false=>simp only[Reps,jur,if_false]
  |_=>exact jcz hw
 |str x=>
  cases dy with
  |str y=>
   obtain⟨rfl,hw⟩:=jje hw;obtain⟨hf,rfl⟩:=jb0 hw;cases bx.str;cases by_.str;exact jhe pins s σ H _ _ v u Q I rx ry ⟨_,_,rfl,rfl,jaH hf,h.sc dm (by simp only[Rep])⟩
  |_=>exact jcz hw
 |_=>exact jcz hw
end
section
variable {Z:Kn}{X:Cx}{pins:List (Addr×Obj)}{s:Shared}{σ:L2.St}{H:Hp}{F:Addr->Prop}
theorem RepB.isTup (hZ:X.K=Z.K)(I:Inv X pins σ H s){ds:List D}{v:V}{u:Value}(h:RepB Z F H (.tup ds) v)(r:RelV v u):∃a vs its,u=.ref a/\Reps Z F H ds vs/\Vals vs its/\s.heap.IsTuple a its.toArray:=by
 obtain⟨a,vs,rfl,ft,rr⟩:=h.tup;cases r;obtain⟨its,rv,p,_⟩:=I.tuple (show SqT X.K H a vs by rw[hZ];exact ft.sq)
 exact⟨a,vs,its,rfl,rr,rv,p⟩
theorem RepB.isLst (hZ:X.K=Z.K)(I:Inv X pins σ H s){ds:List D}{v:V}{u:Value}(h:RepB Z F H (.lst ds) v)(r:RelV v u):∃a vs its,u=.ref a/\Reps Z F H ds vs/\Vals vs its/\s.heap.IsList a its.toArray:=by
 obtain⟨a,vs,rfl,ft,rr⟩:=h.lst;cases r;obtain⟨its,rv,p,_⟩:=I.list (show SqL X.K H a vs by rw[hZ];exact ft)
 exact⟨a,vs,its,rfl,rr,rv,p.isList⟩
theorem jjg {h:Heap}{a:Addr}{x y:Array Value}(p:h.IsTuple a x)(q:h.IsTuple a y):x=y:=by
 obtain⟨o,e,_,n,d⟩:=p;obtain⟨o',e',_,n',d'⟩:=q;rw[e]at e';cases e';rw[d]at d';cases d';rfl
theorem jjh {h:Heap}{a:Addr}{x y:Array Value}(p:h.IsList a x)(q:h.IsList a y):x=y:=by
 obtain⟨o,e,_,n,d⟩:=p;obtain⟨o',e',_,n',d'⟩:=q;rw[e]at e';cases e';rw[d]at d';cases d';rfl
mutual
theorem jcM (hZ:X.K=Z.K)(I:Inv X pins σ H s):∀{d e:D}{v w:V}{u:Value},RepB Z F H d v->RepB Z F H e w->RelV v u->RelV w u->jbO d=true->jbO e=true->d=e
 |.non,e,v,w,u,hd,he,rv,rw',cd,ce=>by
  cases hd.non;cases rv;cases e with
  |non=>rfl
  |bl b=>cases he.bl;cases rw'
  |int i=>cases he.int;obtain⟨t,z⟩:=rw';cases z
  |str x=>cases he.str;obtain⟨t,z⟩:=rw';cases z
  |tup xs=>obtain⟨a,vs,its,z,_⟩:=he.isTup hZ I rw';cases z
  |lst xs=>obtain⟨a,vs,its,z,_⟩:=he.isLst hZ I rw';cases z
  |dct _ _=>cases ce
  |exc _=>cases ce
 |.bl b,e,v,w,u,hd,he,rv,rw',cd,ce=>by
  cases hd.bl;cases rv;cases e with
  |non=>cases he.non;cases rw'
  |bl b'=>cases he.bl;cases rw';rfl
  |int i=>cases he.int;obtain⟨t,z⟩:=rw';cases z
  |str x=>cases he.str;obtain⟨t,z⟩:=rw';cases z
  |tup xs=>obtain⟨a,vs,its,z,_⟩:=he.isTup hZ I rw';cases z
  |lst xs=>obtain⟨a,vs,its,z,_⟩:=he.isLst hZ I rw';cases z
  |dct _ _=>cases ce
  |exc _=>cases ce
 |.int i,e,v,w,u,hd,he,rv,rw',cd,ce=>by
  cases hd.int;obtain⟨t,rfl⟩:=rv;cases e with
  |non=>cases he.non;cases rw'
  |bl b'=>cases he.bl;cases rw'
  |int i=>cases he.int;obtain⟨t,z⟩:=rw';cases z;rfl
  |str x=>cases he.str;obtain⟨t,z⟩:=rw';cases z
  |tup xs=>obtain⟨a,vs,its,z,_⟩:=he.isTup hZ I rw';cases z
  |lst xs=>obtain⟨a,vs,its,z,_⟩:=he.isLst hZ I rw';cases z
  |dct _ _=>cases ce
  |exc _=>cases ce
 |.str i,e,v,w,u,hd,he,rv,rw',cd,ce=>by
  cases hd.str;obtain⟨t,rfl⟩:=rv;cases e with
  |non=>cases he.non;cases rw'
  |bl b'=>cases he.bl;cases rw'
  |int i=>cases he.int;obtain⟨t,z⟩:=rw';cases z
  |str x=>cases he.str;obtain⟨t,z⟩:=rw';cases z;rfl
  |tup xs=>obtain⟨a,vs,its,z,_⟩:=he.isTup hZ I rw';cases z
  |lst xs=>obtain⟨a,vs,its,z,_⟩:=he.isLst hZ I rw';cases z
  |dct _ _=>cases ce
  |exc _=>cases ce
 |.tup ds,e,v,w,u,hd,he,rv,rw',cd,ce=>by
  obtain⟨a,vs,its,rfl,rr,rs,p⟩:=hd.isTup hZ I rv;cases e with
  |non=>cases he.non;cases rw'
  |bl b'=>cases he.bl;cases rw'
  |int i=>cases he.int;obtain⟨t,z⟩:=rw';cases z
  |str x=>cases he.str;obtain⟨t,z⟩:=rw';cases z
  |tup xs=>
   obtain⟨b,vs',its',z,rr',rs',p'⟩:=he.isTup hZ I rw';cases z;have:=jjg p p';have:its=its':=by simpa using this
   subst this;simp only[jbO]at cd ce;rw[reps_same hZ I rr rr' rs rs' cd ce]
  |lst xs=>obtain⟨b,vs',its',z,rr',rs',p'⟩:=he.isLst hZ I rw';cases z;exact absurd rfl (SeqAt.ne_of_list_tuple p' p)
  |dct _ _=>cases ce
  |exc _=>cases ce
 |.lst ds,e,v,w,u,hd,he,rv,rw',cd,ce=>by
  obtain⟨a,vs,its,rfl,rr,rs,p⟩:=hd.isLst hZ I rv;cases e with
  |non=>cases he.non;cases rw'
  |bl b'=>cases he.bl;cases rw'
  |int i=>cases he.int;obtain⟨t,z⟩:=rw';cases z
  |str x=>cases he.str;obtain⟨t,z⟩:=rw';cases z
  |tup xs=>obtain⟨b,vs',its',z,rr',rs',p'⟩:=he.isTup hZ I rw';cases z;exact absurd rfl (SeqAt.ne_of_list_tuple p p')
  |lst xs=>
   obtain⟨b,vs',its',z,rr',rs',p'⟩:=he.isLst hZ I rw';cases z;have:=jjh p p';have:its=its':=by simpa using this
   subst this;simp only[jbO]at cd ce;rw[reps_same hZ I rr rr' rs rs' cd ce]
  |dct _ _=>cases ce
  |exc _=>cases ce
 |.dct _ _,_,_,_,_,_,_,_,_,cd,_=>by cases cd
 |.exc _,_,_,_,_,_,_,_,_,cd,_=>by cases cd
theorem reps_same (hZ:X.K=Z.K)(I:Inv X pins σ H s):∀{ds es:List D}{vs ws:List V}{us:List Value},Reps Z F H ds vs->Reps Z F H es ws->Vals vs us->Vals ws us->cmpDs ds=true->cmpDs es=true->ds=es
 |[],es,vs,ws,us,hd,he,rv,rw',cd,ce=>by
  simp only[Reps]at hd;subst hd;cases rv;cases rw';cases es with
  |nil=>rfl
  |cons e es=>obtain⟨_,_,z,_⟩:=he.uncons;cases z
 |d::ds,es,vs,ws,us,hd,he,rv,rw',cd,ce=>by
  obtain⟨v,vs',rfl,h1,h2⟩:=hd.uncons;cases rv with
  |cons r1 r2=>
   cases rw' with
   |cons q1 q2=>
    cases es with
    |nil=>simp only[Reps]at he;cases he
    |cons e es=>
     obtain⟨w,ws',z,g1,g2⟩:=he.uncons;cases z;simp only[cmpDs,juq]at cd ce;rw[jcM hZ I (.inl h1) (.inl g1) r1 q1 cd.1 ce.1,reps_same hZ I h2 g2 r2 q2 cd.2 ce.2]
end
mutual
theorem jd7:∀{d:D},jbO d=true->eqD d d=true
 |.non,_=>rfl
 |.bl b,_=>by simp[eqD]
 |.int i,_=>by simp[eqD]
 |.str x,_=>by simp[eqD]
 |.tup xs,h=>by simp only[jbO]at h;simp only[eqD];exact eqDs_refl h
 |.lst xs,h=>by simp only[jbO]at h;simp only[eqD];exact eqDs_refl h
 |.dct _ _,h=>by cases h
 |.exc _,h=>by cases h
theorem eqDs_refl:∀{ds:List D},cmpDs ds=true->eqDs ds ds=true
 |[],_=>rfl
 |d::ds,h=>by
  simp only[cmpDs,juq]at h;simp only[eqDs,juq];exact⟨jd7 h.1,eqDs_refl h.2⟩
end
theorem jbv:∀{ds es:List D},eqDs ds es=(decide (ds.length=es.length)&&(List.range (min ds.length es.length)).all fun j=>eqD (ds.getD j .non) (es.getD j .non))
 |[],[]=>rfl
 |[],_::_=>by simp[eqDs]
 |_::_,[]=>by simp[eqDs]
 |d::ds,e::es=>by
  have ih:=jbv (ds:=ds) (es:=es);simp only[eqDs,ih,jtR,Nat.succ_min_succ,List.range_succ_eq_map,List.all_cons,List.getD_cons_zero,List.all_map,Function.comp_def,List.getD_cons_succ,Nat.add_right_cancel_iff];cases eqD d e <;> cases decide (ds.length=es.length) <;> simp
theorem Reps.vals {ds:List D}{vs:List V}{us:List Value}(h:Reps Z F H ds vs)(r:Vals vs us){j:Nat}(hj:j<us.length):∃v,Rep Z F H (ds.getD j .non) v/\RelV v us[j]/\ds.length=us.length:=by
 have l1:=h.length;have l2:=r.length;obtain⟨v,e1,e2⟩:=h.get (jtH (show j<ds.length by omega))
 obtain⟨u,e3,e4⟩:=r.get e1;rw[jtH hj]at e3;cases e3;refine⟨v,?_,e4,by omega⟩
 rw[jtP,jtH (show j<ds.length by omega)]
 exact e2
theorem jaP:∀{ds:List D}{j:Nat},cmpDs ds=true->jbO (ds.getD j .non)=true
 |[],j,_=>by simp[jbO]
 |d::ds,0,h=>by simp only[cmpDs,juq]at h;simpa using h.1
 |d::ds,j+1,h=>by
  simp only[cmpDs,juq]at h;rw[List.getD_cons_succ];exact jaP h.2
theorem jbI:∀{ds:List D}{j:Nat},deep (ds.getD j .non)<=deeps ds
 |[],j=>by simp[deep]
 |d::ds,0=>by simp only[deeps,List.getD_cons_zero];exact Nat.le_max_left _ _
 |d::ds,j+1=>by
  rw[List.getD_cons_succ];simp only[deeps];exact juo jbI (Nat.le_max_right _ _)
open SeqAt in
theorem jfH (hZ:X.K=Z.K)(I:Inv X pins σ H s):∀(n:Nat) {A:Around}{d e:D}{v w:V}{u u':Value},deep d<=n->A.units+n<cLine->RepB Z F H d v->RepB Z F H e w->RelV v u->RelV w u'->jbO d=true->jbO e=true->RcAt A s u u' (eqD d e)/\EqAt A s u u' (eqD d e):=by
 intro n;induction n with
 |zero=>
  intro A d e v w u u' hn hu hd he rv rw' cd ce;have hu:A.units<cLine:=by omega
  cases d with
  |non=>
   cases hd.non;cases rv;cases e with
   |non=>cases he.non;cases rw';exact⟨RcAt.none_none,EqAt.same _⟩
   |bl b=>cases he.bl;cases rw';exact⟨RcAt.none_bool b,EqAt.none_bool b⟩
   |int i=>cases he.int;obtain⟨t,rfl⟩:=rw';exact⟨RcAt.none_int i t,EqAt.none_int i t⟩
   |str x=>cases he.str;obtain⟨t,rfl⟩:=rw';exact⟨RcAt.none_str x t,EqAt.none_str x t⟩
   |tup xs=>obtain⟨a,vs,its,rfl,_,_,p⟩:=he.isTup hZ I rw';exact⟨RcAt.none_tuple p hu,EqAt.none_tuple p hu⟩
   |lst xs=>obtain⟨a,vs,its,rfl,_,_,p⟩:=he.isLst hZ I rw';exact⟨RcAt.none_list p hu,EqAt.none_list p hu⟩
   |dct _ _=>cases ce
   |exc _=>cases ce
  |bl b0=>
   cases hd.bl;cases rv;cases e with
   |non=>cases he.non;cases rw';exact⟨RcAt.bool_none b0,EqAt.bool_none b0⟩
   |bl b=>cases he.bl;cases rw';exact⟨RcAt.bool_bool b0 b,EqAt.bool_bool b0 b⟩
   |int i=>cases he.int;obtain⟨t,rfl⟩:=rw';exact⟨RcAt.bool_int b0 i t,EqAt.bool_int b0 i t⟩
   |str x=>cases he.str;obtain⟨t,rfl⟩:=rw';exact⟨RcAt.bool_str b0 x t,EqAt.bool_str b0 x t⟩
   |tup xs=>obtain⟨a,vs,its,rfl,_,_,p⟩:=he.isTup hZ I rw';exact⟨RcAt.bool_tuple b0 p hu,EqAt.bool_tuple b0 p hu⟩
   |lst xs=>obtain⟨a,vs,its,rfl,_,_,p⟩:=he.isLst hZ I rw';exact⟨RcAt.bool_list b0 p hu,EqAt.bool_list b0 p hu⟩
   |dct _ _=>cases ce
   |exc _=>cases ce
  |int i0=>
   cases hd.int;obtain⟨t0,rfl⟩:=rv;cases e with
   |non=>cases he.non;cases rw';exact⟨RcAt.int_none i0 t0,EqAt.int_none i0 t0⟩
   |bl b=>cases he.bl;cases rw';exact⟨RcAt.int_bool i0 t0 b,EqAt.int_bool i0 t0 b⟩
   |int i=>cases he.int;obtain⟨t,rfl⟩:=rw';exact⟨RcAt.int_int i0 t0 i t,EqAt.int_int i0 t0 i t⟩
   |str x=>cases he.str;obtain⟨t,rfl⟩:=rw';exact⟨RcAt.int_str i0 t0 x t,EqAt.int_str i0 t0 x t⟩
   |tup xs=>obtain⟨a,vs,its,rfl,_,_,p⟩:=he.isTup hZ I rw';exact⟨RcAt.int_tuple i0 t0 p hu,EqAt.int_tuple i0 t0 p hu⟩
   |lst xs=>obtain⟨a,vs,its,rfl,_,_,p⟩:=he.isLst hZ I rw';exact⟨RcAt.int_list i0 t0 p hu,EqAt.int_list i0 t0 p hu⟩
   |dct _ _=>cases ce
   |exc _=>cases ce
  |str i0=>
   cases hd.str;obtain⟨t0,rfl⟩:=rv;cases e with
   |non=>cases he.non;cases rw';exact⟨RcAt.str_none i0 t0,EqAt.str_none i0 t0⟩
   |bl b=>cases he.bl;cases rw';exact⟨RcAt.str_bool i0 t0 b,EqAt.str_bool i0 t0 b⟩
   |int i=>cases he.int;obtain⟨t,rfl⟩:=rw';exact⟨RcAt.str_int i0 t0 i t,EqAt.str_int i0 t0 i t⟩
   |str x=>cases he.str;obtain⟨t,rfl⟩:=rw';exact⟨RcAt.str_str i0 t0 x t,EqAt.str_str i0 t0 x t⟩
   |tup xs=>obtain⟨a,vs,its,rfl,_,_,p⟩:=he.isTup hZ I rw';exact⟨RcAt.str_tuple i0 t0 p hu,EqAt.str_tuple i0 t0 p hu⟩
   |lst xs=>obtain⟨a,vs,its,rfl,_,_,p⟩:=he.isLst hZ I rw';exact⟨RcAt.str_list i0 t0 p hu,EqAt.str_list i0 t0 p hu⟩
   |dct _ _=>cases ce
   |exc _=>cases ce
  |tup _=>simp[deep]at hn
  |lst _=>simp[deep]at hn
  |dct _ _=>cases cd
  |exc _=>cases cd
 |succ n ih=>
  intro A d e v w u u' hn hu hd he rv rw' cd ce;have hu0:A.units<cLine:=by omega
  have hu1:A.in1.units+n<cLine:=by show A.units+1+n<cLine;omega
  have flat:deep d=0->RcAt A s u u' (eqD d e)/\EqAt A s u u' (eqD d e):=fun h0=>ih @0 @0 hd he rv rw' cd ce
  cases d with
  |non=>exact flat rfl
  |bl _=>exact flat rfl
  |int _=>exact flat rfl
  |str _=>exact flat rfl
  |dct _ _=>cases cd
  |exc _=>cases cd
  |tup ds=>
   obtain⟨a,vs,its,rfl,rr,rs,p⟩:=hd.isTup hZ I rv;cases e with
   |non=>cases he.non;cases rw';exact⟨RcAt.tuple_none p hu0,EqAt.tuple_none p hu0⟩
   |bl b=>cases he.bl;cases rw';exact⟨RcAt.tuple_bool b p hu0,EqAt.tuple_bool b p hu0⟩
   |int i=>cases he.int;obtain⟨t,rfl⟩:=rw';exact⟨RcAt.tuple_int i t p hu0,EqAt.tuple_int i t p hu0⟩
   |str x=>cases he.str;obtain⟨t,rfl⟩:=rw';exact⟨RcAt.tuple_str x t p hu0,EqAt.tuple_str x t p hu0⟩
   |lst xs=>obtain⟨b,vs',its',rfl,_,_,p'⟩:=he.isLst hZ I rw';exact⟨RcAt.tuple_list p p' hu0,EqAt.tuple_list p p' hu0⟩
   |dct _ _=>cases ce
   |exc _=>cases ce
   |tup es=>
    obtain⟨b,vs',its',rfl,rr',rs',p'⟩:=he.isTup hZ I rw';simp only[jbO]at cd ce;simp only[deep]at hn;have l1:ds.length=its.length:=by rw[rr.length,rs.length]
    have l2:es.length=its'.length:=by rw[rr'.length,rs'.length]
    have key:RcAt A s (.ref a) (.ref b) (eqD (.tup ds) (.tup es)):=by
     have:=RcAt.tuples (A:=A) (e:=fun j=>eqD (ds.getD j .non) (es.getD j .non)) p p' hu0 fun j h1 h2=>by
      obtain⟨v1,q1,q2,_⟩:=rr.vals rs (j:=j) (by simpa using h1)
      obtain⟨v2,q3,q4,_⟩:=rr'.vals rs' (j:=j) (by simpa using h2)
      exact(ih (juo jbI @0) hu1 (.inl q1) (.inl q3) (by simpa using q2) (by simpa using q4) (jaP cd) (jaP ce)).2
     simp only[eqD];rw[jbv,Bool.and_comm];simp only[jtL,<-l1,<-l2]at this;have e2:(ds.length==es.length)=decide (ds.length=es.length):=by rw[Bool.beq_eq_decide_eq]
     rw[<-e2];exact this
    refine⟨key,?_⟩;by_cases hab:a=b
    ·subst hab;rw[jcM hZ I hd he rv rw' (by simpa only[jbO] using cd) (by simpa only[jbO] using ce),jd7 (by simpa only[jbO] using ce)]
     exact EqAt.same _
    ·exact EqAt.of_refs hab key
  |lst ds=>
   obtain⟨a,vs,its,rfl,rr,rs,p⟩:=hd.isLst hZ I rv;cases e with
   |non=>cases he.non;cases rw';exact⟨RcAt.list_none p hu0,EqAt.list_none p hu0⟩
   |bl b=>cases he.bl;cases rw';exact⟨RcAt.list_bool b p hu0,EqAt.list_bool b p hu0⟩
   |int i=>cases he.int;obtain⟨t,rfl⟩:=rw';exact⟨RcAt.list_int i t p hu0,EqAt.list_int i t p hu0⟩
   |str x=>cases he.str;obtain⟨t,rfl⟩:=rw';exact⟨RcAt.list_str x t p hu0,EqAt.list_str x t p hu0⟩
   |tup xs=>obtain⟨b,vs',its',rfl,_,_,p'⟩:=he.isTup hZ I rw';exact⟨RcAt.list_tuple p p' hu0,EqAt.list_tuple p p' hu0⟩
   |dct _ _=>cases ce
   |exc _=>cases ce
   |lst es=>
    obtain⟨b,vs',its',rfl,rr',rs',p'⟩:=he.isLst hZ I rw';simp only[jbO]at cd ce;simp only[deep]at hn;have l1:ds.length=its.length:=by rw[rr.length,rs.length]
    have l2:es.length=its'.length:=by rw[rr'.length,rs'.length]
    have key:RcAt A s (.ref a) (.ref b) (eqD (.lst ds) (.lst es)):=by
     by_cases hsz:its.length=its'.length
     ·have:=RcAt.lists (A:=A) (e:=fun j=>eqD (ds.getD j .non) (es.getD j .non)) p p' (by simpa using hsz) hu0 fun j h1 h2=>by
       obtain⟨v1,q1,q2,_⟩:=rr.vals rs (j:=j) (by simpa using h1)
       obtain⟨v2,q3,q4,_⟩:=rr'.vals rs' (j:=j) (by simpa using h2)
       exact(ih (juo jbI @0) hu1 (.inl q1) (.inl q3) (by simpa using q2) (by simpa using q4) (jaP cd) (jaP ce)).2
      simp only[eqD];have hl:ds.length=es.length:=by omega
      rw[jbv,decide_eq_true hl,Bool.true_and,<-hl,Nat.min_self];simp only[jtL,<-l1]at this;exact this
     ·have:=RcAt.lists_lengths (A:=A) p p' (by simpa using hsz) hu0
      simp only[eqD];rw[jbv,decide_eq_false @0,Bool.false_and]
      exact this
    refine⟨key,?_⟩;by_cases hab:a=b
    ·subst hab;rw[jcM hZ I hd he rv rw' (by simpa only[jbO] using cd) (by simpa only[jbO] using ce),jd7 (by simpa only[jbO] using ce)]
     exact EqAt.same _
    ·exact EqAt.of_refs hab key
end
end DJ
namespace DJ
open PySem PySem.Spec PyProof.Rows L2
noncomputable def bD (g:D->D->R Bool):D->D->R Vl:=fun x y=>(g x y).bind fun c=>.ok (.dat (.bl c))
noncomputable def Cm.py:Cm->CmpOp
 |.eq=>.Eq | .ne=>.NotEq | .lt=>.Lt | .le=>.LtE | .gt=>.Gt | .ge=>.GtE | .isn=>.Is | .notn=>.IsNot
 |.isin=>.In | .notin=>.NotIn
theorem jgC:∀x y:List Int,lexLt x y=HT.lexLt x y
 |[],[]=>rfl
 |[],_::_=>rfl
 |_::_,[]=>rfl
 |x::xs,y::ys=>by
  rw[HT.jdG];simp only[lexLt];rw[jgC xs ys]
theorem jbw {Z:Kn}{F:Addr->Prop}{H:Hp}:∀{ds:List D}{ns:List Int}{vs:List V},jaD ds=some ns->Reps Z F H ds vs->vs=ns.map V.int
 |[],ns,vs,h,r=>by simp only[Reps]at r;cases h;exact r
 |d::ds,ns,vs,h,r=>by
  simp only[Reps]at r;obtain⟨v,us,rfl,r1,r2⟩:=r;cases d with
  |int i=>
   simp only[jaD]at h;cases q:jaD ds with
   |none=>rw[q]at h;cases h
   |some ms=>
    rw[q]at h;cases h;simp only[Rep]at r1;rw[r1,jbw q r2];rfl
  |_=>cases h
theorem jc3 {d:D}{c:Nat}:jat d≠.err c:=by cases d <;> (intro z;cases z)
theorem jji {x y:D}{c:Nat}:eqR x y≠.err c:=by unfold eqR;split <;> (intro z;cases z)
theorem jnO {x y:D}{c:Nat}:inR x y≠.err c:=by
 intro h;unfold inR at h;cases e:jat y with
 |ok ys=>rw[e,R.bind_ok']at h;split at h <;> cases h
 |err c=>exact jc3 e
 |stk=>rw[e]at h;cases h
theorem jnP {ks:List D}{o:Option (List (Sum Int Str))}{c:Nat}:inK ks o≠.err c:=by cases o <;> (intro h;cases h)
theorem jjj {x y:D}{c:Nat}:inD x y≠.err c:=by
 cases y with
 |dct ks vs=>exact jnP
 |_=>simp only[inD];exact jnO
theorem jnQ {x y:D}{c:Nat}:ltD x y≠.err c:=by
 intro h;unfold ltD at h;split at h <;> first | cases h | (split at h <;> cases h)
theorem jd8 {f:Int->Int->Bool}{x y:D}{c:Nat}:jqd f x y≠.err c:=by
 intro h;cases x with
 |int a=>cases y with
  |int b=>cases h
  |_=>cases h
 |_=>cases h
theorem jfI {f:Int->Int->Bool}{x y:D}{c:Bool}(h:jqd f x y=.ok c):∃a b,x=.int a/\y=.int b/\c=f a b:=by
 cases x with
 |int a=>cases y with
  |int b=>cases h;exact⟨a,b,rfl,rfl,rfl⟩
  |_=>cases h
 |_=>cases h
theorem jjk {r:R Bool}{c:Nat}(hr:r≠.err c):(r.bind fun c=>(.ok (!c):R Bool))≠.err c:=by
 intro h;cases r with
 |ok b=>cases h
 |err c'=>cases h;exact hr rfl
 |stk=>cases h
theorem jmI {x:D}(h:isN x=true):x=.non:=by
 cases x with
 |non=>rfl
 |_=>cases h
theorem jnR {o:Cm}{x y:D}{c:Nat}:cmD o x y≠.err c:=by
 cases o with
 |eq=>exact jji
 |ne=>exact jjk jji
 |lt=>exact jnQ
 |gt=>exact jd8
 |le=>exact jd8
 |ge=>exact jd8
 |isn=>intro h;unfold cmD at h;dsimp only at h;split at h <;> cases h
 |notn=>intro h;unfold cmD at h;dsimp only at h;split at h <;> cases h
 |isin=>exact jjj
 |notin=>exact jjk jjj
section
variable {Z:Kn}{X:Cx}{pins:List (Addr×Obj)}{s:Shared}{σ:L2.St}{H:Hp}{F:Addr->Prop}
theorem jmJ {d e:D}{b:Bool}(h:eqR d e=.ok b):b=eqD d e/\jbO d=true/\jbO e=true/\deep d<=12/\deep e<=12:=by
 unfold eqR at h;split at h
 ·rename_i hc;simp only[juq,decide_eq_true_eq]at hc;cases h;exact⟨rfl,hc.1.1.1,hc.1.1.2,hc.1.2,hc.2⟩
 ·cases h
theorem jqf (hZ:X.K=Z.K)(hu:X.A.units+64<cLine)(I:Inv X pins σ H s){d e:D}{x y:V}{u w:Value}{b:Bool}(hd:RepB Z F H d x)(he:RepB Z F H e y)(rx:RelV x u)(ry:RelV y w)(hb:eqR d e=.ok b){Q:Value->Shared->Prop}{E:Value->Shared->Prop}(q:Q (.bool b) s) :
  wpAny @4 X.A (compareOp .Eq u w) Q E s:=by
 obtain⟨rfl,c1,c2,d1,d2⟩:=jmJ hb;exact(jfH hZ I 12 (A:=X.A) d1 @0 hd he rx ry c1 c2).1 X.prog X.w E Q q
theorem jqg (hZ:X.K=Z.K)(hu:X.A.units+64<cLine)(I:Inv X pins σ H s){d e:D}{x y:V}{u w:Value}{b:Bool}(hd:RepB Z F H d x)(he:RepB Z F H e y)(rx:RelV x u)(ry:RelV y w)(hb:inR d e=.ok b)(neg:Bool){Q:Value->Shared->Prop}{E:Value->Shared->Prop}(q:Q (.bool (if neg then !b else b)) s) :
  wpAny @4 X.A (compareOp (if neg then .NotIn else .In) u w) Q E s:=by
 unfold inR at hb;obtain⟨ys,hs,hb⟩:=R.bind_ok hb;split at hb
 ·rename_i hc;simp only[juq,decide_eq_true_eq]at hc;obtain⟨⟨⟨c1,c2⟩,d1⟩,d2⟩:=hc;cases hb;obtain⟨p,vs,rfl,hq,rr⟩:=jbi he hs;cases ry;have hj:∀(its:List Value),Vals vs its->∃ef:Value->Bool,(∀z,z∈its.toArray->SeqAt.EqAt X.A.in1 s z u (ef z))/\its.toArray.any ef=ys.any fun z=>eqD z d:=fun its rv=>by
   classical
   let Pz:Value->D->Prop:=fun z e0=>jbO e0=true/\deep e0<=12/\∃v0,Rep Z F H e0 v0/\RelV v0 z
   have uq:∀{z:Value}{e1 e2:D},Pz z e1->Pz z e2->e1=e2:=fun ⟨a1,_,v1,a3,a4⟩ ⟨b1,_,v2,b3,b4⟩=>jcM hZ I (.inl a3) (.inl b3) a4 b4 a1 b1;let ef:Value->Bool:=fun z=>if h:∃e0,Pz z e0 then eqD h.choose d else false;have efE:∀{z:Value}{e0:D},Pz z e0->ef z=eqD e0 d:=fun {z e0} h=>by
    have hx:∃e0,Pz z e0:=⟨e0,h⟩;simp only[ef,dif_pos hx];rw[uq hx.choose_spec h]
   have l1:ys.length=its.length:=by rw[rr.length,rv.length]
   have at_:∀j (hj:j<its.length),Pz its[j] (ys.getD j .non):=fun j hj=>by
    obtain⟨v1,q1,q2,_⟩:=rr.vals rv hj;exact⟨jaP c2,juo jbI d2,v1,q1,q2⟩
   refine⟨ef,fun z hz=>?_,?_⟩
   ·have hz:z∈its:=by simpa using hz
    obtain⟨j,hj,rfl⟩:=List.getElem_of_mem hz;have hp:=at_ j hj;rw[efE hp];obtain⟨a1,a2,v0,a3,a4⟩:=hp;exact(jfH hZ I 12 (A:=X.A.in1) a2 (by show X.A.units+1+12<cLine;omega) (.inl a3) hd a4 rx a1 c1).2
   ·rw[<-Array.any_toList];have hmap:its.map ef=ys.map fun z=>eqD z d:=by
     apply List.ext_getElem
     ·simp[l1]
     ·intro j h1 h2;rw[List.getElem_map,List.getElem_map];have h1:j<its.length:=by simpa using h1
      have:=efE (at_ j h1);rw[this,jtP,jtH @0]
      rfl
    have e1:its.any ef=(its.map ef).any id:=by rw[List.any_map];rfl
    have e2:(ys.any fun z=>eqD z d)=(ys.map fun z=>eqD z d).any id:=by rw[List.any_map];rfl
    rw[e2,<-hmap,<-e1]
  rcases hq with hq | hq
  ·obtain⟨its,rv,pl,_⟩:=I.list (show SqL X.K H p vs by rw[hZ];exact hq)
   obtain⟨ef,f1,f2⟩:=hj its rv;cases neg with
   |false=>exact SeqAt.in_listAt ef pl.isList f1 (by rw[f2];exact q)
   |true=>exact SeqAt.notIn_listAt ef pl.isList f1 (by rw[f2];exact q)
  ·obtain⟨its,rv,pl,_⟩:=I.tuple (show SqT X.K H p vs by rw[hZ];exact hq)
   obtain⟨ef,f1,f2⟩:=hj its rv;cases neg with
   |false=>exact SeqAt.in_tupleAt ef (show s.heap.IsTuple p its.toArray from pl) f1 (by rw[f2];exact q)
   |true=>exact SeqAt.notIn_tupleAt ef (show s.heap.IsTuple p its.toArray from pl) f1 (by rw[f2];exact q)
 ·cases hb
theorem jjl (hZ:X.K=Z.K)(hu:X.A.units+64<cLine)(I:Inv X pins σ H s){d e:D}{x y:V}{u w:Value}{b:Bool}(hd:RepB Z F H d x)(he:RepB Z F H e y)(rx:RelV x u)(ry:RelV y w)(hb:inD d e=.ok b)(neg:Bool){Q:Value->Shared->Prop}{E:Value->Shared->Prop}(q:∀s',Inv X pins σ H s'->Q (.bool (if neg then !b else b)) s') :
  wpAny @4 X.A (compareOp (if neg then .NotIn else .In) u w) Q E s:=by
 cases e with
 |dct ks vs=>exact jqe hZ hu I hd he rx ry hb neg q
 |_=>simp only[inD]at hb;exact jqg hZ hu I hd he rx ry hb neg (q s I)
open SeqAt in
theorem jrZ (hZ:X.K=Z.K)(I:Inv X pins σ H s){A:Around}{d e:D}{v w:V}{u u':Value}(hn:deep d<=12)(hu:A.units+13<cLine)(hd:RepB Z F H d v)(he:RepB Z F H e w)(rv:RelV v u)(rw':RelV w u')(cd:jbO d=true)(ce:jbO e=true):RcNeAt A s u u' (!eqD d e):=by
 have hu0:A.units<cLine:=by omega
 have items:∀{ds es:List D}{vs vs':List V}{its its':List Value},Reps Z F H ds vs->Vals vs its->Reps Z F H es vs'->Vals vs' its'->deeps ds<=12->cmpDs ds=true->cmpDs es=true->∀j (h1:j<its.toArray.size) (h2:j<its'.toArray.size),EqAt A.in1 s its.toArray[j] its'.toArray[j] (eqD (ds.getD j .non) (es.getD j .non)):=fun rr rs rr' rs' hdp cds ces j h1 h2=>by
  obtain⟨v1,q1,q2,_⟩:=rr.vals rs (j:=j) (by simpa using h1)
  obtain⟨v2,q3,q4,_⟩:=rr'.vals rs' (j:=j) (by simpa using h2)
  exact(jfH hZ I 12 (juo jbI hdp) (by show A.units+1+12<cLine;omega) (.inl q1) (.inl q3) (by simpa using q2) (by simpa using q4) (jaP cds) (jaP ces)).2
 cases d with
 |non=>
  cases hd.non;cases rv;cases e with
  |non=>
   cases he.non;cases rw';exact RcNeAt.none_none
  |bl y=>
   cases he.bl;cases rw';exact RcNeAt.none_bool y
  |int y=>
   cases he.int;obtain⟨t2,rfl⟩:=rw';exact RcNeAt.none_int y t2
  |str y=>
   cases he.str;obtain⟨t2,rfl⟩:=rw';exact RcNeAt.none_str y t2
  |tup y=>
   obtain⟨a2,vs2,its2,rfl,rr2,rs2,p2⟩:=he.isTup hZ I rw';exact RcNeAt.none_tuple p2 hu0
  |lst y=>
   obtain⟨a2,vs2,its2,rfl,rr2,rs2,p2⟩:=he.isLst hZ I rw';exact RcNeAt.none_list p2 hu0
  |dct _ _=>cases ce
  |exc _=>cases ce
 |bl x=>
  cases hd.bl;cases rv;cases e with
  |non=>
   cases he.non;cases rw';exact RcNeAt.bool_none x
  |bl y=>
   cases he.bl;cases rw';exact RcNeAt.bool_bool x y
  |int y=>
   cases he.int;obtain⟨t2,rfl⟩:=rw';exact RcNeAt.bool_int x y t2
  |str y=>
   cases he.str;obtain⟨t2,rfl⟩:=rw';exact RcNeAt.bool_str x y t2
  |tup y=>
   obtain⟨a2,vs2,its2,rfl,rr2,rs2,p2⟩:=he.isTup hZ I rw';exact RcNeAt.bool_tuple x p2 hu0
  |lst y=>
   obtain⟨a2,vs2,its2,rfl,rr2,rs2,p2⟩:=he.isLst hZ I rw';exact RcNeAt.bool_list x p2 hu0
  |dct _ _=>cases ce
  |exc _=>cases ce
 |int x=>
  cases hd.int;obtain⟨t1,rfl⟩:=rv;cases e with
  |non=>
   cases he.non;cases rw';exact RcNeAt.int_none x t1
  |bl y=>
   cases he.bl;cases rw';exact RcNeAt.int_bool x t1 y
  |int y=>
   cases he.int;obtain⟨t2,rfl⟩:=rw';exact RcNeAt.int_int x t1 y t2
  |str y=>
   cases he.str;obtain⟨t2,rfl⟩:=rw';exact RcNeAt.int_str x t1 y t2
  |tup y=>
   obtain⟨a2,vs2,its2,rfl,rr2,rs2,p2⟩:=he.isTup hZ I rw';exact RcNeAt.int_tuple x t1 p2 hu0
  |lst y=>
   obtain⟨a2,vs2,its2,rfl,rr2,rs2,p2⟩:=he.isLst hZ I rw';exact RcNeAt.int_list x t1 p2 hu0
  |dct _ _=>cases ce
  |exc _=>cases ce
 |str x=>
  cases hd.str;obtain⟨t1,rfl⟩:=rv;cases e with
  |non=>
   cases he.non;cases rw';exact RcNeAt.str_none x t1
  |bl y=>
   cases he.bl;cases rw';exact RcNeAt.str_bool x t1 y
  |int y=>
   cases he.int;obtain⟨t2,rfl⟩:=rw';exact RcNeAt.str_int x t1 y t2
  |str y=>
   cases he.str;obtain⟨t2,rfl⟩:=rw';exact RcNeAt.str_str x t1 y t2
  |tup y=>
   obtain⟨a2,vs2,its2,rfl,rr2,rs2,p2⟩:=he.isTup hZ I rw';exact RcNeAt.str_tuple x t1 p2 hu0
  |lst y=>
   obtain⟨a2,vs2,its2,rfl,rr2,rs2,p2⟩:=he.isLst hZ I rw';exact RcNeAt.str_list x t1 p2 hu0
  |dct _ _=>cases ce
  |exc _=>cases ce
 |tup x=>
  obtain⟨a1,vs1,its1,rfl,rr1,rs1,p1⟩:=hd.isTup hZ I rv;cases e with
  |non=>
   cases he.non;cases rw';exact RcNeAt.tuple_none p1 hu0
  |bl y=>
   cases he.bl;cases rw';exact RcNeAt.tuple_bool y p1 hu0
  |int y=>
   cases he.int;obtain⟨t2,rfl⟩:=rw';exact RcNeAt.tuple_int y t2 p1 hu0
  |str y=>
   cases he.str;obtain⟨t2,rfl⟩:=rw';exact RcNeAt.tuple_str y t2 p1 hu0
  |tup y=>
   obtain⟨a2,vs2,its2,rfl,rr2,rs2,p2⟩:=he.isTup hZ I rw';simp only[jbO]at cd ce;simp only[deep]at hn;have l1:x.length=its1.length:=by rw[rr1.length,rs1.length]
   have l2:y.length=its2.length:=by rw[rr2.length,rs2.length]
   have:=RcNeAt.tuples (A:=A) (e:=fun j=>eqD (x.getD j .non) (y.getD j .non)) p1 p2 hu0 (items rr1 rs1 rr2 rs2 @0 cd ce)
   simp only[eqD];rw[jbv,Bool.and_comm];simp only[jtL,<-l1,<-l2]at this;have e2:(x.length==y.length)=decide (x.length=y.length):=by rw[Bool.beq_eq_decide_eq]
   rw[<-e2];exact this
  |lst y=>
   obtain⟨a2,vs2,its2,rfl,rr2,rs2,p2⟩:=he.isLst hZ I rw';exact RcNeAt.tuple_list p1 p2 hu0
  |dct _ _=>cases ce
  |exc _=>cases ce
 |lst x=>
  obtain⟨a1,vs1,its1,rfl,rr1,rs1,p1⟩:=hd.isLst hZ I rv;cases e with
  |non=>
   cases he.non;cases rw';exact RcNeAt.list_none p1 hu0
  |bl y=>
   cases he.bl;cases rw';exact RcNeAt.list_bool y p1 hu0
  |int y=>
   cases he.int;obtain⟨t2,rfl⟩:=rw';exact RcNeAt.list_int y t2 p1 hu0
  |str y=>
   cases he.str;obtain⟨t2,rfl⟩:=rw';exact RcNeAt.list_str y t2 p1 hu0
  |tup y=>
   obtain⟨a2,vs2,its2,rfl,rr2,rs2,p2⟩:=he.isTup hZ I rw';exact RcNeAt.list_tuple p1 p2 hu0
  |lst y=>
   obtain⟨a2,vs2,its2,rfl,rr2,rs2,p2⟩:=he.isLst hZ I rw';simp only[jbO]at cd ce;simp only[deep]at hn;have l1:x.length=its1.length:=by rw[rr1.length,rs1.length]
   have l2:y.length=its2.length:=by rw[rr2.length,rs2.length]
   by_cases hsz:its1.length=its2.length
   ·have:=RcNeAt.lists (A:=A) (e:=fun j=>eqD (x.getD j .non) (y.getD j .non)) p1 p2 (by simpa using hsz) hu0 (items rr1 rs1 rr2 rs2 @0 cd ce)
    simp only[eqD];have hl:x.length=y.length:=by omega
    rw[jbv,decide_eq_true hl,Bool.true_and,<-hl,Nat.min_self];simp only[jtL,<-l1]at this;exact this
   ·have:=RcNeAt.lists_lengths (A:=A) p1 p2 (by simpa using hsz) hu0
    simp only[eqD];rw[jbv,decide_eq_false @0,Bool.false_and]
    exact this
  |dct _ _=>cases ce
  |exc _=>cases ce
 |dct _ _=>cases cd
 |exc _=>cases cd
theorem jqh (hZ:X.K=Z.K)(hu:X.A.units+64<cLine)(I:Inv X pins σ H s){d e:D}{x y:V}{u w:Value}{b:Bool}(hd:RepB Z F H d x)(he:RepB Z F H e y)(rx:RelV x u)(ry:RelV y w)(hb:eqR d e=.ok b){Q:Value->Shared->Prop}{E:Value->Shared->Prop}(q:Q (.bool (!b)) s) :
  wpAny @4 X.A (compareOp .NotEq u w) Q E s:=by
 obtain⟨rfl,c1,c2,d1,d2⟩:=jmJ hb;exact jrZ hZ I d1 @0 hd he rx ry c1 c2 X.prog X.w E Q q
theorem jr0 (hZ:X.K=Z.K)(hu:X.A.units+64<cLine)(o:Cm):OpR X (compareOp o.py) (rD2 Z (bD (cmD o))):=by
 intro pins s σ H x y v u Q I rx ry h;obtain⟨F,dx,dy,w,dm,bx,by_,hw,h⟩:=h;unfold bD at hw;obtain⟨c,hc,hw⟩:=R.bind_ok hw;cases hw;have fin:∀k:Bool,k=c->EP X pins σ Q (.bool k) s:=fun k e=>by subst e;exact⟨.bl k,H,I,rfl,h.bl dm⟩
 have isn:isN dx=decide (x=.non):=by
  cases dx with
  |non=>cases bx.non;rfl
  |bl b=>cases bx.bl;rfl
  |int b=>cases bx.int;rfl
  |str b=>cases bx.str;rfl
  |tup b=>obtain⟨a,vs,rfl,_⟩:=bx.tup;rfl
  |lst b=>obtain⟨a,vs,rfl,_⟩:=bx.lst;rfl
  |dct ks vs=>obtain⟨a,_,_,_,rfl,_⟩:=bx.dct;rfl
  |exc b=>
   have:=bx.flat (fun o z=>by cases o <;> cases z)
   simp only[Rep]at this;obtain⟨a,C,rfl,_⟩:=this;rfl
 cases o with
 |eq=>exact jqf hZ hu I bx by_ rx ry hc (fin _ rfl)
 |ne=>
  obtain⟨b,hb,hc⟩:=R.bind_ok hc;cases hc;exact jqh hZ hu I bx by_ rx ry hb (fin _ rfl)
 |lt=>
  have hc:ltD dx dy=.ok c:=hc;unfold ltD at hc;split at hc
  ·cases hc;cases bx.int;cases by_.int;exact jrF pins s σ H _ _ v u Q I rx ry ⟨_,_,rfl,rfl,h.bl dm⟩
  ·split at hc
   ·rename_i as bs ns ms e1 e2;cases hc;obtain⟨a,vs,rfl,ft,ra⟩:=bx.tup;obtain⟨b,us,rfl,fu,rb⟩:=by_.tup;cases jbw e1 ra;cases jbw e2 rb;refine jpP @0 pins s σ H _ _ v u Q I rx ry ⟨a,b,ns,ms,rfl,rfl,(by rw[hZ];exact ft.sq),(by rw[hZ];exact fu.sq),?_⟩
    rw[<-jgC];exact h.bl dm
   ·cases hc
  ·cases hc
 |gt=>
  obtain⟨_,_,rfl,rfl,rfl⟩:=jfI hc;cases bx.int;cases by_.int;exact jrH pins s σ H _ _ v u Q I rx ry ⟨_,_,rfl,rfl,h.bl dm⟩
 |le=>
  obtain⟨_,_,rfl,rfl,rfl⟩:=jfI hc;cases bx.int;cases by_.int;exact jrG pins s σ H _ _ v u Q I rx ry ⟨_,_,rfl,rfl,h.bl dm⟩
 |ge=>
  obtain⟨_,_,rfl,rfl,rfl⟩:=jfI hc;cases bx.int;cases by_.int;exact jrI pins s σ H _ _ v u Q I rx ry ⟨_,_,rfl,rfl,h.bl dm⟩
 |isn=>
  have hc:(if isN dy then .ok (isN dx)else .stk:R Bool)=.ok c:=hc;split at hc
  ·rename_i hn;cases jmI hn;cases hc;cases by_.non;refine jpL pins s σ H _ _ v u Q I rx ry ⟨rfl,?_⟩;rw[<-isn];exact h.bl dm
  ·cases hc
 |notn=>
  have hc:(if isN dy then .ok (!isN dx)else .stk:R Bool)=.ok c:=hc;split at hc
  ·rename_i hn;cases jmI hn;cases hc;cases by_.non;refine jnf pins s σ H _ _ v u Q I rx ry ⟨rfl,?_⟩;rw[<-isn];exact h.bl dm
  ·cases hc
 |isin=>exact jjl hZ hu I bx by_ rx ry hc false fun s' I'=>⟨.bl _,H,I',rfl,h.bl dm⟩
 |notin=>
  obtain⟨b,hb,hc⟩:=R.bind_ok hc;cases hc;exact jjl hZ hu I bx by_ rx ry hb true fun s' I'=>⟨.bl _,H,I',rfl,h.bl dm⟩
end
end DJ
namespace L2
open PySem PySem.Spec PyProof.Rows
section
variable {X:Cx}
theorem ja7 {ns:List Int}{its:List Value}(rv:Vals (ns.map V.int) its):∀i v,its[i]?=some v->∃t,v=Value.int (ns.getD i 0) t:=fun i v hP=>by
 have hlen:=rv.length;have hi:i<ns.length:=by have:=(List.getElem?_eq_some_iff.mp hP).1;rw[jtQ]at hlen;omega
 obtain⟨u,e1,e2⟩:=rv.get (i:=i) (x:=.int ns[i]) (by rw[jtN,jtH hi];rfl)
 rw[hP]at e1;cases e1;obtain⟨t,e⟩:=e2;refine⟨t,?_⟩;rw[e,jtP,jtH hi];rfl
theorem jc4 (ns:List Int):∀k,k<=ns.length->preSum (fun i=>ns.getD i 0) k=(ns.take k).sum
 |0,_=>by simp[preSum]
 |k+1,h=>by
  rw[preSum,jc4 ns k @0,List.take_succ_eq_append_getElem @0,List.sum_append]
  simp[jtP,jtH (show k<ns.length by omega)]
theorem jls (hc:X.calm=true):CallR X (.builtin "sum") (fun xs H Q=>∃(p:Addr) (ns:List Int),xs=[.ref p]/\(SqL X.K H p (ns.map V.int)\/SqT X.K H p (ns.map V.int))/\Q (.int ns.sum) H):=by
 intro pins s σ H xs us Q I r h;obtain⟨p,ns,rfl,hq,q⟩:=h;obtain⟨u,rfl,rx⟩:=jbW r;cases rx;have hA:X.A.in1.handled=none:=I.ok.hd hc;refine call_sum_walkG (jcc hc I hq hA fun its I' fp wr St h2 rv W st hfp back=>⟨I',fp,wr,_,_,St,fun i=>ns.getD i 0,rfl,W,st,hfp,ja7 rv,fun h' tk t' kp=>?_⟩);refine⟨.int ns.sum,H,back h' tk kp,⟨t',?_⟩,q⟩;rw[jtQ,jc4 ns _ (jul _),List.take_length]
theorem jjm (hc:X.calm=true):CallR X (.builtin "min") (fun xs H Q=>∃(p:Addr) (ns:List Int),xs=[.ref p]/\(SqL X.K H p (ns.map V.int)\/SqT X.K H p (ns.map V.int))/\0 < ns.length/\∀M,M∈ns->(∀a∈ns,M<=a)->Q (.int M) H):=by
 intro pins s σ H xs us Q I r h;obtain⟨p,ns,rfl,hq,hn,q⟩:=h;obtain⟨u,rfl,rx⟩:=jbW r;cases rx;have hA:X.A.in1.handled=none:=I.ok.hd hc;refine call_min_walk (jcc hc I hq hA fun its I' fp wr St h2 rv W st hfp back=>⟨I',fp,wr,_,_,St,_,rfl,W,st,hfp,by rw[jtQ];exact hn,CmpOf.ints_lt (fun i=>ns.getD i 0) (ja7 rv),fun v h' tk hP kp=>?_⟩)
 obtain⟨t,rfl⟩:=ja7 rv _ _ hP;obtain⟨h1,h2⟩:=argBest_lt (fun i=>ns.getD i 0) ((ns.map V.int).length - 1);rw[jtQ]at h1 h2 ⊢;refine⟨.int _,H,back h' tk kp,⟨t,rfl⟩,q _ (getD_mem @0) fun a ha=>?_⟩
 obtain⟨j,hj,rfl⟩:=mem_getD ha;exact h2 j @0
theorem jjn (hc:X.calm=true):CallR X (.builtin "max") (fun xs H Q=>∃(p:Addr) (ns:List Int),xs=[.ref p]/\(SqL X.K H p (ns.map V.int)\/SqT X.K H p (ns.map V.int))/\0 < ns.length/\∀M,M∈ns->(∀a∈ns,a<=M)->Q (.int M) H):=by
 intro pins s σ H xs us Q I r h;obtain⟨p,ns,rfl,hq,hn,q⟩:=h;obtain⟨u,rfl,rx⟩:=jbW r;cases rx;have hA:X.A.in1.handled=none:=I.ok.hd hc;refine call_max_walk (jcc hc I hq hA fun its I' fp wr St h2 rv W st hfp back=>⟨I',fp,wr,_,_,St,_,rfl,W,st,hfp,by rw[jtQ];exact hn,CmpOf.ints_gt (fun i=>ns.getD i 0) (ja7 rv),fun v h' tk hP kp=>?_⟩)
 obtain⟨t,rfl⟩:=ja7 rv _ _ hP;obtain⟨h1,h2⟩:=argBest_gt (fun i=>ns.getD i 0) ((ns.map V.int).length - 1);rw[jtQ]at h1 h2 ⊢;refine⟨.int _,H,back h' tk kp,⟨t,rfl⟩,q _ (getD_mem @0) fun a ha=>?_⟩
 obtain⟨j,hj,rfl⟩:=mem_getD ha;exact h2 j @0
end
end L2
namespace DJ
open PySem PySem.Spec PyProof.Rows L2
theorem jeO:∀(r:List Int) (m:Int),jkC r m∈m::r/\∀a∈m::r,jkC r m<=a
 |[],m=>by simp[jkC]
 |x::r,m=>by
  simp only[jkC];obtain⟨h1,h2⟩:=jeO r (if x<m then x else m);have hz:((if x<m then x else m)=x\/(if x<m then x else m)=m)/\(if x<m then x else m)<=x/\(if x<m then x else m)<=m:=by split <;> omega
  generalize (if x<m then x else m)=z at h1 h2 hz ⊢;refine⟨?_,fun a ha=>?_⟩
  ·rcases List.mem_cons.mp h1 with h | h
   ·rw[h];rcases hz.1 with e | e <;> rw[e] <;> simp
   ·exact jtI _ (jtI _ h)
  ·have h0:=h2 _ jtJ;rcases List.mem_cons.mp ha with rfl | ha
   ·omega
   ·rcases List.mem_cons.mp ha with rfl | ha
    ·omega
    ·exact h2 a (jtI _ ha)
theorem jeP:∀(r:List Int) (m:Int),jih r m∈m::r/\∀a∈m::r,a<=jih r m
 |[],m=>by simp[jih]
 |x::r,m=>by
  simp only[jih];obtain⟨h1,h2⟩:=jeP r (if x>m then x else m);have hz:((if x>m then x else m)=x\/(if x>m then x else m)=m)/\(if x>m then x else m)>=x/\(if x>m then x else m)>=m:=by split <;> omega
  generalize (if x>m then x else m)=z at h1 h2 hz ⊢;refine⟨?_,fun a ha=>?_⟩
  ·rcases List.mem_cons.mp h1 with h | h
   ·rw[h];rcases hz.1 with e | e <;> rw[e] <;> simp
   ·exact jtI _ (jtI _ h)
  ·have h0:=h2 _ jtJ;rcases List.mem_cons.mp ha with rfl | ha
   ·omega
   ·rcases List.mem_cons.mp ha with rfl | ha
    ·omega
    ·exact h2 a (jtI _ ha)
theorem jcf {Z:Kn}{F:Addr->Prop}{H:Hp}:∀{ds:List D}{bs:List Bool}{vs:List V},jau ds=some bs->Reps Z F H ds vs->vs.map trV=bs.map some
 |[],ns,vs,h,r=>by simp only[Reps]at r;subst r;cases h;rfl
 |d::ds,ns,vs,h,r=>by
  simp only[Reps]at r;obtain⟨v,us,rfl,r1,r2⟩:=r;cases d with
  |int i=>
   simp only[jau]at h;cases q:jau ds with
   |none=>rw[q]at h;cases h
   |some ms=>
    rw[q]at h;cases h;simp only[Rep]at r1;subst r1;rw[jtO,jtO,jcf q r2];rfl
  |bl i=>
   simp only[jau]at h;cases q:jau ds with
   |none=>rw[q]at h;cases h
   |some ms=>
    rw[q]at h;cases h;simp only[Rep]at r1;subst r1;rw[jtO,jtO,jcf q r2];rfl
  |_=>cases h
section
variable {Z:Kn}{X:Cx}
theorem jfJ (hZ:X.K=Z.K){H:Hp}{p:Addr}{vs:List V}(h:SqL Z.K H p vs\/SqT Z.K H p vs):SqL X.K H p vs\/SqT X.K H p vs:=by rw[hZ];exact h
theorem jqi (hZ:X.K=Z.K):∀x H Q,rD1 Z (bfD .len) x H Q->((fun xs H Q=>((∃p ys,xs=[.ref p]/\(SqL X.K H p ys\/SqT X.K H p ys)/\Q (.int ys.length) H)\/(∃z,xs=[.str z]/\z.length<=sizeLine/\Q (.int z.length) H))\/∃a ys ep,xs=[.ref a]/\H a=some (.dT ys ep)/\ys.length<=sizeLine/\Q (.int ys.length) H):List V->Hp->VK->Prop) [x] H Q:=by
 intro x H Q hz1;obtain⟨F,d,w,dm,rp,hw,h⟩:=hz1;have key:∀xs,jat d=.ok xs->w=.dat (.int xs.length)->((fun xs H Q=>((∃p ys,xs=[.ref p]/\(SqL X.K H p ys\/SqT X.K H p ys)/\Q (.int ys.length) H)\/(∃z,xs=[.str z]/\z.length<=sizeLine/\Q (.int z.length) H))\/∃a ys ep,xs=[.ref a]/\H a=some (.dT ys ep)/\ys.length<=sizeLine/\Q (.int ys.length) H):List V->Hp->VK->Prop) [x] H Q:=fun xs hs e=>by
  subst e;obtain⟨p,vs,rfl,q,r⟩:=jbi rp hs;refine .inl (.inl ⟨p,vs,rfl,jfJ hZ q,?_⟩);rw[<-r.length];exact h.int dm
 cases d with
 |str z=>
  simp only[bfD]at hw;split at hw
  ·rename_i hf;cases hw;cases rp.str;exact .inl (.inr ⟨z,rfl,jaH hf,h.int dm⟩)
  ·cases hw
 |tup xs=>simp only[bfD,jat,R.bind_ok']at hw;cases hw;exact key xs rfl rfl
 |lst xs=>simp only[bfD,jat,R.bind_ok']at hw;cases hw;exact key xs rfl rfl
 |dct ks vs=>
  simp only[bfD]at hw;cases hw;obtain⟨a,us,ws,ys,rfl,⟨ep,ea⟩,r1,_,i⟩:=rp.dct;have hl:ks.length=ys.length:=by rw[r1.length,i.us,jtQ]
  rw[hl]at h;exact .inr ⟨a,ys,ep,rfl,ea,i.sz,h.int dm⟩
 |_=>simp only[bfD,jat]at hw;cases hw
theorem jlt (hZ:X.K=Z.K):∀x H Q,rD1 Z (bfD .tuple) x H Q->(fun xs H Q=>∃p ys,xs=[.ref p]/\((SqL X.K H p ys/\∀l,H l=none->Q (.ref l) (upd H l (.tup ys)))\/(SqT X.K H p ys/\Q (.ref p) H)):List V->Hp->VK->Prop) [x] H Q:=by
 intro x H Q hz1;obtain⟨F,d,w,dm,rp,hw,h⟩:=hz1;simp only[bfD]at hw;obtain⟨xs,hs,hw⟩:=R.bind_ok hw;cases hw;cases d with
 |tup ds=>
  cases hs;obtain⟨a,vs,rfl,ft,r⟩:=rp.tup;exact⟨a,vs,rfl,.inr ⟨by rw[hZ];exact ft.sq,h.tupOld dm ft r⟩⟩
 |lst ds=>
  cases hs;obtain⟨a,vs,rfl,ft,r⟩:=rp.lst;exact⟨a,vs,rfl,.inl ⟨by rw[hZ];exact ft,h.tup dm r⟩⟩
 |_=>cases hs
theorem jnS (hZ:X.K=Z.K):∀x H Q,rD1 Z (bfD .list) x H Q->(fun xs H Q=>∃p ys,xs=[.ref p]/\(SqL X.K H p ys\/SqT X.K H p ys)/\∀l,H l=none->Q (.ref l) (upd H l (.lst ys)):List V->Hp->VK->Prop) [x] H Q:=by
 intro x H Q hz1;obtain⟨F,d,w,dm,rp,hw,h⟩:=hz1;simp only[bfD]at hw;obtain⟨xs,hs,hw⟩:=R.bind_ok hw;cases hw;obtain⟨p,vs,rfl,q,r⟩:=jbi rp hs;exact⟨p,vs,rfl,jfJ hZ q,h.lst dm r⟩
theorem jmK (hZ:X.K=Z.K)(all:Bool):∀x H Q,rD1 Z (bfD (if all then .all else .any)) x H Q->(fun xs H Q=>∃(p:Addr) (ys:List V) (bs:List Bool),xs=[.ref p]/\(SqL X.K H p ys\/SqT X.K H p ys)/\ys.map trV=bs.map some/\Q (.bl (if all then bs.all id else bs.any id)) H:List V->Hp->VK->Prop) [x] H Q:=by
 intro x H Q hz1;obtain⟨F,d,w,dm,rp,hw,h⟩:=hz1;cases all with
 |true=>
  simp only[if_true,bfD]at hw;obtain⟨xs,hs,hw⟩:=R.bind_ok hw;obtain⟨p,vs,rfl,q,r⟩:=jbi rp hs;cases e:jau xs with
  |none=>rw[e]at hw;cases hw
  |some bs=>rw[e]at hw;cases hw;exact⟨p,vs,bs,rfl,jfJ hZ q,jcf e r,h.bl dm⟩
 |false=>
  simp only[jur,if_false,bfD]at hw;obtain⟨xs,hs,hw⟩:=R.bind_ok hw;obtain⟨p,vs,rfl,q,r⟩:=jbi rp hs;cases e:jau xs with
  |none=>rw[e]at hw;cases hw
  |some bs=>rw[e]at hw;cases hw;exact⟨p,vs,bs,rfl,jfJ hZ q,jcf e r,h.bl dm⟩
theorem jqj (hZ:X.K=Z.K):∀x H Q,rD1 Z (bfD .sum) x H Q->(fun xs H Q=>∃(p:Addr) (ns:List Int),xs=[.ref p]/\(SqL X.K H p (ns.map V.int)\/SqT X.K H p (ns.map V.int))/\Q (.int ns.sum) H:List V->Hp->VK->Prop) [x] H Q:=by
 intro x H Q hz1;obtain⟨F,d,w,dm,rp,hw,h⟩:=hz1;simp only[bfD]at hw;obtain⟨xs,hs,hw⟩:=R.bind_ok hw;obtain⟨p,vs,rfl,q,r⟩:=jbi rp hs;cases e:jaD xs with
 |none=>rw[e]at hw;cases hw
 |some ns=>
  rw[e]at hw;cases hw;cases jbw e r;exact⟨p,ns,rfl,jfJ hZ q,h.int dm⟩
theorem jqk (hZ:X.K=Z.K):∀x H Q,rD1 Z (bfD .min) x H Q->(fun xs H Q=>∃(p:Addr) (ns:List Int),xs=[.ref p]/\(SqL X.K H p (ns.map V.int)\/SqT X.K H p (ns.map V.int))/\0<ns.length/\∀M,M∈ns->(∀a∈ns,M<=a)->Q (.int M) H:List V->Hp->VK->Prop) [x] H Q:=by
 intro x H Q hz1;obtain⟨F,d,w,dm,rp,hw,h⟩:=hz1;simp only[bfD]at hw;obtain⟨xs,hs,hw⟩:=R.bind_ok hw;obtain⟨p,vs,rfl,q,r⟩:=jbi rp hs;cases e:jaD xs with
 |none=>rw[e]at hw;cases hw
 |some ns=>
  rw[e]at hw;cases ns with
  |nil=>cases hw
  |cons n ns=>
   cases hw;cases jbw e r;refine⟨p,n::ns,rfl,jfJ hZ q,by simp,fun M h1 h2=>?_⟩
   obtain⟨g1,g2⟩:=jeO ns n;have:M=jkC ns n:=by have:=g2 M h1;have:=h2 _ g1;omega
   rw[this];exact h.int dm
theorem jql (hZ:X.K=Z.K):∀x H Q,rD1 Z (bfD .max) x H Q->(fun xs H Q=>∃(p:Addr) (ns:List Int),xs=[.ref p]/\(SqL X.K H p (ns.map V.int)\/SqT X.K H p (ns.map V.int))/\0<ns.length/\∀M,M∈ns->(∀a∈ns,a<=M)->Q (.int M) H:List V->Hp->VK->Prop) [x] H Q:=by
 intro x H Q hz1;obtain⟨F,d,w,dm,rp,hw,h⟩:=hz1;simp only[bfD]at hw;obtain⟨xs,hs,hw⟩:=R.bind_ok hw;obtain⟨p,vs,rfl,q,r⟩:=jbi rp hs;cases e:jaD xs with
 |none=>rw[e]at hw;cases hw
 |some ns=>
  rw[e]at hw;cases ns with
  |nil=>cases hw
  |cons n ns=>
   cases hw;cases jbw e r;refine⟨p,n::ns,rfl,jfJ hZ q,by simp,fun M h1 h2=>?_⟩
   obtain⟨g1,g2⟩:=jeP ns n;have:M=jih ns n:=by have:=g2 M h1;have:=h2 _ g1;omega
   rw[this];exact h.int dm
theorem jqm:∀x H Q,rD1 Z (bfD .abs) x H Q->(fun xs H Q=>∃i,xs=[.int i]/\Q (.int (if i<0 then -i else i)) H:List V->Hp->VK->Prop) [x] H Q:=by
 intro x H Q hz1;obtain⟨F,d,w,dm,rp,hw,h⟩:=hz1;cases d <;> simp only[bfD]at hw <;> cases hw
 cases rp.int;exact⟨_,rfl,h.int dm⟩
theorem jqn:∀x H Q,rD1 Z (bfD .int) x H Q->(fun xs H Q=>(∃i,xs=[.int i]/\Q (.int i) H)\/∃k,xs=[.bl k]/\Q (.int (if k then 1 else 0)) H:List V->Hp->VK->Prop) [x] H Q:=by
 intro x H Q hz1;obtain⟨F,d,w,dm,rp,hw,h⟩:=hz1;cases d <;> simp only[bfD]at hw <;> cases hw
 ·cases rp.bl;exact .inr ⟨_,rfl,h.int dm⟩
 ·cases rp.int;exact .inl ⟨_,rfl,h.int dm⟩
noncomputable def jeQ:R Vl->Prop
 |.ok (.slot _)=>False
 |.err _=>False
 |_=>True
theorem jcs (kss:List @9):jeQ (jcX kss):=by
 unfold jcX;split <;> trivial
theorem jjo {c:Prop}[Decidable c]{r:R Vl}(h:jeQ r):jeQ (if c then r else .stk):=by
 split
 ·exact h
 ·trivial
theorem jaQ {d:D}{f:List D->R Vl}(h:∀xs,jeQ (f xs)):jeQ ((jat d).bind f):=by
 cases d with
 |tup xs=>exact h xs
 |lst xs=>exact h xs
 |_=>trivial
theorem jeR (f:Bf)(x:D):jeQ (bfD f x):=by
 cases f with
 |abs=>cases x <;> trivial
 |int=>cases x <;> trivial
 |len=>cases x with
  |str x=>exact jjo trivial
  |_=>trivial
 |tuple=>exact jaQ fun _=>trivial
 |list=>exact jaQ fun _=>trivial
 |all=>
  refine jaQ fun xs=>?_;cases jau xs <;> trivial
 |any=>
  refine jaQ fun xs=>?_;cases jau xs <;> trivial
 |sum=>
  refine jaQ fun xs=>?_;cases jaD xs <;> trivial
 |min=>
  refine jaQ fun xs=>?_;cases jaD xs with
  |none=>trivial
  |some ns=>cases ns <;> trivial
 |max=>
  refine jaQ fun xs=>?_;cases jaD xs with
  |none=>trivial
  |some ns=>cases ns <;> trivial
 |sorted=>cases x with
  |lst xs=>
   show jeQ (match jaN xs with | some kss=>jcX kss | none=>.stk)
   cases jaN xs with
   |none=>trivial
   |some k=>exact jcs k
  |dct xs ys=>
   show jeQ (match jaN xs with | some kss=>jcX kss | none=>.stk)
   cases jaN xs with
   |none=>trivial
   |some k=>exact jcs k
  |_=>trivial
 |ssorted=>
  refine jaQ fun xs=>?_;cases jaN xs with
  |none=>trivial
  |some k=>exact jcs _
 |revl=>cases x <;> trivial
 |revt=>cases x <;> trivial
theorem jnT {f:Bf}{x:D}{c:Nat}:bfD f x≠.err c:=by
 intro h;have:=jeR f x;rw[h]at this;exact this
theorem jlu {f:Bf}{x:D}{i:Nat}:bfD f x≠.ok (.slot i):=by
 intro h;have:=jeR f x;rw[h]at this;exact this
end
end DJ
namespace DJ
open PySem PySem.Spec PyProof.Rows L2
structure Tab where
 defs:List Str
 flags:List (List Bool)
 cons:List (Str×D)
 excs:List Str
 quiet:Bool
 deep:Bool
structure TopX (X:Cx):Prop where
 fn:∀x,X.fn x=true
 st:X.stack=X.env::X.outer
 fr:X.env.frame=some X.env.locals
noncomputable def knd (sc:List @7)(x:Str):Nat:=match sc.lookup x with
 |some .local=>1
 |some .cell=>1
 |some .free=>1
 |some .globalImplicit=>2
 |_=>0
noncomputable def jdy (N:List Str)(x:Str):Option Nat:=N.findIdx? (· == x)
noncomputable def mapO {α β:Type}(f:α->Option β):List α->Option (List β)
 |[]=>some []
 |a::as=>match f a,mapO f as with
  |some b,some bs=>some (b::bs)
  |_,_=>none
section
variable {α β γ δ ε:Type}
theorem jaf {a:α}{p:Prop}(h:(none:Option α)=some a):p:=nomatch h
theorem jal {a:Option α}{f:α->γ}{c:γ}(h:a.map f=some c):∃x,a=some x/\f x=c:=Option.map_eq_some_iff.mp h
theorem jag {a:Option α}{f:α->Option γ}{c:γ}(h:a.bind f=some c):∃x,a=some x/\f x=some c:=Option.bind_eq_some_iff.mp h
noncomputable def o2 (a:Option α)(b:Option β)(f:α->β->γ):Option γ:=a.bind fun x=>b.map (f x)
theorem jb1 {a:Option α}{b:Option β}{f:α->β->γ}{c:γ}(h:o2 a b f=some c):∃x y,a=some x/\b=some y/\f x y=c:=by
 obtain⟨x,h1,h⟩:=jag h;obtain⟨y,h2,h⟩:=jal h;exact⟨x,y,h1,h2,h⟩
noncomputable def o3 (a:Option α)(b:Option β)(c:Option γ)(f:α->β->γ->δ):Option δ:=a.bind fun x=>o2 b c (f x)
theorem jcA {a:Option α}{b:Option β}{c:Option γ}{f:α->β->γ->δ}{d:δ}(h:o3 a b c f=some d):∃x y z,a=some x/\b=some y/\c=some z/\f x y z=d:=by
 obtain⟨x,h1,h⟩:=jag h;obtain⟨y,z,h⟩:=jb1 h;exact⟨x,y,z,h1,h⟩
noncomputable def o4 (a:Option α)(b:Option β)(c:Option γ)(d:Option δ)(f:α->β->γ->δ->ε):Option ε:=a.bind fun x=>o3 b c d (f x)
theorem jqo {a:Option α}{b:Option β}{c:Option γ}{d:Option δ}{f:α->β->γ->δ->ε}{e:ε}(h:o4 a b c d f=some e):∃x y z w,a=some x/\b=some y/\c=some z/\d=some w/\f x y z w=e:=by
 obtain⟨x,h1,h⟩:=jag h;obtain⟨y,z,w,h⟩:=jcA h;exact⟨x,y,z,w,h1,h⟩
noncomputable def gd (b:Bool)(o:Option α):Option α:=if b then none else o
theorem jam {b:Bool}{o:Option α}{c:α}(h:gd b o=some c):b=false/\o=some c:=by
 cases b with
 |true=>exact jaf h
 |false=>exact⟨rfl,h⟩
noncomputable def alt (b:Bool)(o o':Option α):Option α:=if b then o else o'
theorem jap {b:Bool}{o o':Option α}{c:α}(h:alt b o o'=some c):b=true/\o=some c\/o'=some c:=by
 cases b with
 |true=>exact .inl ⟨rfl,h⟩
 |false=>exact .inr h
noncomputable def jnU (a:Option α)(f:α->Option β)(r:Option β):Option β:=match a with
 |some x=>f x
 |none=>r
theorem jbQ {a:Option α}{f:α->Option β}{r:Option β}{c:β}(h:jnU a f r=some c):(∃x,a=some x/\f x=some c)\/r=some c:=by
 cases a with
 |some x=>exact .inl ⟨x,rfl,h⟩
 |none=>exact .inr h
noncomputable def jjp:List α->Option α
 |[a]=>some a
 |_=>none
theorem ja0 {as:List α}{a:α}(h:jjp as=some a):as=[a]:=by
 cases as with
 |nil=>exact jaf h
 |cons x r=>
  cases r with
  |nil=>cases h;rfl
  |cons y r=>exact jaf h
noncomputable def jsU:List α->Option (α×α)
 |[a,b]=>some (a,b)
 |_=>none
theorem jlv {as:List α}{p:α×α}(h:jsU as=some p):as=[p.1,p.2]:=by
 cases as with
 |nil=>exact jaf h
 |cons x r=>
  cases r with
  |nil=>exact jaf h
  |cons y r=>
   cases r with
   |nil=>cases h;rfl
   |cons z r=>exact jaf h
theorem jbR {as:List α}(h:(!as.isEmpty)=false):as=[]:=by
 cases as with
 |nil=>rfl
 |cons a r=>cases h
theorem jbJ {a b:Bool}(h:(a || b)=false):a=false/\b=false:=by
 cases a with
 |true=>cases h
 |false=>exact⟨rfl,h⟩
theorem jb2 {a:Bool}(h:(!a)=false):a=true:=by
 cases a with
 |true=>rfl
 |false=>cases h
end
theorem jfK {a b:Nat}(h:(a != b)=false):a=b:=by simpa using h
theorem jb8 {a b:Str}(h:(a==b)=true):a=b:=by simpa using h
noncomputable def jhz:Expr->Option Str
 |.Name x _=>some x
 |_=>none
theorem ja1 {e:Expr}{x:Str}(h:jhz e=some x):∃p,e=.Name x p:=by
 cases e with
 |Name y p=>cases h;exact⟨p,rfl⟩
 |_=>exact jaf h
noncomputable def jlw:Expr->Option (List Expr)
 |.Tuple es _ _=>some es
 |_=>none
theorem jc5 {e:Expr}{p:List Expr}(h:jlw e=some p):∃k q,e=.Tuple p k q:=by
 cases e with
 |Tuple es k q=>cases h;exact⟨k,q,rfl⟩
 |_=>exact jaf h
noncomputable def jgD:List E->Es
 |[]=>.nil
 |e::es=>.cons e (jgD es)
noncomputable def jd9 (x:Str):Bool:=x == "__debug__" || x == "__classdict__" || x == "__name__"
noncomputable def bltNames:List Str:=["isinstance","len","tuple","list","all","any","range","int","bool","str","dict","sum","min","max","sorted","set","abs","reversed","zip","ValueError","enumerate"]
inductive CXD_I (P:Program) (w:World) (outer:List PySem.Env) (H:L2.Hp) (s:PySem.Shared) (E:L2.XK) (e:PySem.Value) (s':PySem.Shared):Prop
 |mk (ea:Addr) (cls:Value) (a0:Value) (H':Hp) (B:Heap):(e=.ref ea)->(s'.os=s.os)->(AllBare s'.gens)->(Un (frs outer) [] H H' s.heap s'.heap)->(HOk P w H' s'.heap)->(Heap.FlyingW B outer ea cls a0 s'.heap)->((∀b o,s.heap.get? b=some o->b ∉ frs outer->∃o',B.get? b=some o'))->((∀a o,H' a=some o->∃o',B.get? a=some o'))->(H' ea=none)->(E cls none H')->CXD_I P w outer H s E e s'
noncomputable def CXD (P:Program)(w:World):CXT:=fun outer H s E e s'=>CXD_I P w outer H s E e s'
inductive spD_I (Z:Kn) (G:Calls) (i:Nat) (vs:List L2.V) (H:L2.Hp) (Q:L2.VK) (E:L2.XK):Prop
 |mk (B:Bs) (F:Addr->Prop) (sls:List Sl):(SR Z B F H (vs.map some) sls)->(B.hp=H)->((∀(k:Nat) (l:Addr),B.lent k=some l->(vs.map some)[k]?=some (some (.ref l))))->(Ok (fun c=>∀C H',Z.cl[c]?=some C->Stl (vs.map some) sls H H'->E (.ref C) none H') (G i sls) fun r=>∀v F' H',(∀i,r.1≠.slot i)->Go (vs.map some) sls F H (vs.map some) r.2 F' H'->SR Z B F' H' (vs.map some) r.2->RV Z F' H H' (vs.map some) r.2 r.1 v->Q v H')->spD_I Z G i vs H Q E
noncomputable def spD (Z:Kn)(G:Calls)(i:Nat):Sp:=fun vs H Q E=>spD_I Z G i vs H Q E
structure XD (T:Tab)(G:Calls)(U:Nat->Nat->Bool)(Z:Kn)(n:Nat)(X:Cx)(sc:List (Str×NameKind)):Prop where
 hK:X.K=Z.K
 calm:T.quiet=false->X.calm=true
 nd:X.N.Nodup
 room:T.quiet=false->Room n X.A
 un:X.A.units+64<cLine
 sc:∀x,X.env.scope.names.lookup x=sc.lookup x\/(sc.lookup x=some .free/\X.env.scope.names.lookup x=some .cell)
 blt:∀x∈bltNames,X.mg x=none
 defs:∀(i:Nat) (nm:Str),T.defs[i]?=some nm->∃f fd ps,X.mg nm=some (.ref f)/\PySem.W.keepIn X.K (.ref f)=true/\Binds X.K fd ps []/\FnOk X.prog X.w X.K X.mg X.base (CXD X.prog X.w) n f fd ps (spD Z G i)
 cons:∀x d,T.cons.lookup x=some d->∃u v,X.mg x=some u/\RelV v u/\∀F H,Rep Z F H d v
 excs:∀(i:Nat) (nm:Str),T.excs[i]?=some nm->∃C,Z.cl[i]?=some C/\X.mg nm=some (.ref C)
 ecl:∀C∈Z.cl,ECls X.K C
 sub:∀(i j:Nat) (C D:Addr),Z.cl[i]?=some C->Z.cl[j]?=some D->PySem.W.mroIn X.K C (.ref D)=some (U i j)
 top:T.deep=false->TopX X
section
variable {T:Tab}{G:Calls}{U:Nat->Nat->Bool}{Z:Kn}{n:Nat}{X:Cx}{sc:List (Str×NameKind)}
theorem XD.vis (D:XD T G U Z n X sc){x:Str}(h:knd sc x=1):Vis X.env.scope x:=by
 have h':sc.lookup x=some .local\/sc.lookup x=some .cell\/sc.lookup x=some .free:=by
  unfold knd at h;split at h <;> simp_all
 unfold Vis;rcases D.sc x with e | ⟨_,e⟩
 ·rw[e];exact h'
 ·exact .inr (.inl e)
theorem XD.gl (D:XD T G U Z n X sc){x:Str}(h:knd sc x=2):Gl X x:=by
 have h':sc.lookup x=some .globalImplicit:=by
  unfold knd at h;split at h <;> simp_all
 show X.env.scope.names.lookup x=some .globalImplicit;rcases D.sc x with e | ⟨e,_⟩
 ·rw[e];exact h'
 ·rw[h']at e;cases e
end
theorem jaI {N:List Str}{x:Str}{i:Nat}(h:jdy N x=some i):N[i]?=some x:=by
 unfold jdy at h;obtain⟨hi,h1,_⟩:=List.findIdx?_eq_some_iff_getElem.mp h;rw[jtH hi];simpa using h1
theorem jaw {α β:Type}{f:α->Option β}{a:α}{as:List α}{bs:List β}(h:mapO f (a::as)=some bs):∃b bs',f a=some b/\mapO f as=some bs'/\bs=b::bs':=by
 simp only[mapO]at h;split at h
 ·rename_i b bs' h1 h2;cases h;exact⟨b,bs',h1,h2,rfl⟩
 ·cases h
theorem jad {e:Expr}{es:List Expr}{env:Env}(h:∀a p,e≠.Starred a p):starEach (e::es) env=(false,eval e env)::starEach es env:=by
 cases e <;> first | rfl | exact absurd rfl (h _ _)
theorem jea {pos:Pos}:∀{l:List (Bool×Sem Value)},l.any (·.1)=false->(backTo pos l).any (·.1)=false:=by
 intro l h;unfold backTo;rw[List.any_map];exact h
theorem jcN {env:Env}:∀{es:List Expr},(∀e∈es,∀a p,e≠.Starred a p)->(starEach es env).any (·.1)=false
 |[],_=>rfl
 |e::es,h=>by
  rw[jad (h e jtJ),List.any_cons];exact jcN fun x hx=>h x (jtI _ hx)
theorem jfq {x:Str}(h:jd9 x=false):(x == ("__debug__":Str))=false/\x≠"__name__":=by
 unfold jd9 at h;simp only[Bool.or_eq_false_iff]at h;refine⟨h.1.1,fun z=>?_⟩;subst z;exact absurd h.2 (by decide)
theorem jlx {x:Str}(h:jd9 x=false):(x == ("__classdict__":Str))=false:=by
 unfold jd9 at h;simp only[Bool.or_eq_false_iff]at h;exact h.1.2
section
variable {Z:Kn}{X:Cx}{B:Bs}{σ:L2.St}{ρ ρ1:Rho}{F F1:Addr->Prop}{H H1:Hp}
theorem tT.toE {f:Rho->R (Bool×Rho)}{Q:Bool->Hp->Prop}(h:tT Z X B f σ H Q):tE Z X B (fun ρ=>(f ρ).bind fun b=>.ok (.dat (.bl b.1),b.2)) σ H (fun x H'=>∃k,x=.bl k/\Q k H'):=by
 obtain⟨F,ρ,r,h⟩:=h;refine⟨F,ρ,r,?_⟩;show Ok _ ((f ρ).bind _) _;cases e:f ρ with
 |ok b=>
  rw[e]at h;intro v F' H' g r' q;have q:Rep Z F' H' (.bl b.1) v:=q;simp only[Rep]at q;exact⟨b.1,q,h F' H' g r'⟩
 |err c=>rw[e]at h;exact h
 |stk=>rw[e]at h;exact h
theorem jqp {K:Frag}(hK:K=Z.K){d:D}{v:V}{b:Bool}(h:RepB Z F H d v)(ht:jbF d=.ok b):jrK K v H b:=by
 cases d with
 |non=>cases h.non;cases ht;rfl
 |bl c=>cases h.bl;cases ht;rfl
 |int i=>cases h.int;cases ht;rfl
 |str s=>cases ht
 |tup ds=>
  obtain⟨a,vs,rfl,ft,r⟩:=h.tup;cases ht;refine .inr (.inl ⟨vs,(by rw[hK];exact ft.sq),?_⟩)
  have:=r.length;cases vs <;> cases ds <;> simp_all
 |lst ds=>
  obtain⟨a,vs,rfl,ft,r⟩:=h.lst;cases ht;refine .inl ⟨vs,(by rw[hK];exact ft),?_⟩
  have:=r.length;cases vs <;> cases ds <;> simp_all
 |dct _ _=>cases ht
 |exc c=>cases ht
theorem jjq {d:D}{c:Nat}:jbF d≠.err c:=by cases d <;> (intro z;cases z)
noncomputable def trF (f:Rho->R (Vl×Rho))(ρ:Rho):R (Bool×Rho):=(f ρ).bind fun p=>(deref p.1 p.2).bind fun d=>(jbF d).bind fun b=>.ok (b,p.2)
theorem jr1 (hK:X.K=Z.K){e:Expr}{f:Rho->R (Vl×Rho)}(h:PE X e (tE Z X B f))(he:∀whole,isTrue e X.env whole=(do let v <-whole;standAt e.pos;holding [v] (truthy v))):PT X e (tT Z X B (trF f)):=by
 refine PT.imp (jkO h he) fun σ H Q q=>?_;obtain⟨F,ρ,r,q⟩:=q;refine⟨F,ρ,r,q.bind.imp (fun _ w=>w) fun p h1 v F' H' g r' rp=>?_⟩;obtain⟨d,hd,h2⟩:=h1.bind.pure fun c=>jaE;obtain⟨b,hb,h3⟩:=h2.bind.pure fun c=>jjq;exact⟨b,jqp hK (jaZ rp r' hd) hb,h3 F' H' g r'⟩
theorem jqq {e:Expr}:PT X e (tT Z X B fun _=>.stk):=fun _ _ _ _ _ _ h=>by
 obtain⟨_,_,_,h⟩:=h;exact False.elim h
theorem jnV {fa fb:Rho->R (Vl×Rho)}{Q:VK}(h:tE Z X B (fun ρ=>(fa ρ).bind fun p=>(jcY p.1).bind fun t=>if t then (fb p.2).bind fun q=>(jcY q.1).bind fun u=>.ok (.dat (.bl u),q.2)else .ok (.dat (.bl false),p.2)) σ H Q):jpu (tE Z X B fa) (tE Z X B fb) σ H Q:=by
 obtain⟨F,ρ,r,h⟩:=h;refine⟨F,ρ,r,h.bind.imp (fun _ w=>w) fun p h1 v F1 H1 g1 r1 q1=>?_⟩;obtain⟨w,ρ1⟩:=p;cases w with
 |dat d=>
  cases d with
  |bl b=>
   have q1:Rep Z F1 H1 (.bl b) v:=q1;simp only[Rep]at q1;subst q1;refine⟨b,rfl,?_⟩;cases b with
   |true=>
    rw[if_pos rfl];refine⟨F1,ρ1,r1,(show Ok (XW Z X σ ρ H) ((fb ρ1).bind _) _ from h1).bind.imp (fun c w=>w.mono g1) fun q h2 u F2 H2 g2 r2 q2=>?_⟩;obtain⟨w2,ρ2⟩:=q;cases w2 with
    |dat d2=>
     cases d2 with
     |bl c=>exact h2 u F2 H2 (g1.trans g2) r2 q2
     |_=>exact False.elim h2
    |_=>exact False.elim h2
   |false=>
    rw[if_neg (by decide)]
    exact h1 _ F1 H1 g1 r1 (show Rep Z F1 H1 (.bl false) _ by simp only[Rep])
  |_=>exact False.elim h1
 |_=>exact False.elim h1
theorem jqr {fa fb:Rho->R (Vl×Rho)}{Q:VK}(h:tE Z X B (fun ρ=>(fa ρ).bind fun p=>(jcY p.1).bind fun t=>if t then .ok (.dat (.bl true),p.2)else (fb p.2).bind fun q=>(jcY q.1).bind fun u=>.ok (.dat (.bl u),q.2)) σ H Q):jsN (tE Z X B fa) (tE Z X B fb) σ H Q:=by
 obtain⟨F,ρ,r,h⟩:=h;refine⟨F,ρ,r,h.bind.imp (fun _ w=>w) fun p h1 v F1 H1 g1 r1 q1=>?_⟩;obtain⟨w,ρ1⟩:=p;cases w with
 |dat d=>
  cases d with
  |bl b=>
   have q1:Rep Z F1 H1 (.bl b) v:=q1;simp only[Rep]at q1;subst q1;refine⟨b,rfl,?_⟩;cases b with
   |false=>
    rw[if_neg (by decide)]
    refine⟨F1,ρ1,r1,(show Ok (XW Z X σ ρ H) ((fb ρ1).bind _) _ from h1).bind.imp (fun c w=>w.mono g1) fun q h2 u F2 H2 g2 r2 q2=>?_⟩;obtain⟨w2,ρ2⟩:=q;cases w2 with
    |dat d2=>
     cases d2 with
     |bl c=>exact h2 u F2 H2 (g1.trans g2) r2 q2
     |_=>exact False.elim h2
    |_=>exact False.elim h2
   |true=>
    rw[if_pos rfl];exact h1 _ F1 H1 g1 r1 (show Rep Z F1 H1 (.bl true) _ by simp only[Rep])
  |_=>exact False.elim h1
 |_=>exact False.elim h1
theorem jnW {fa:Rho->R (Vl×Rho)}{Q:VK}(h:tE Z X B (fun ρ=>(fa ρ).bind fun p=>(jcY p.1).bind fun t=>.ok (.dat (.bl (!t)),p.2)) σ H Q):jpv (tE Z X B fa) σ H Q:=by
 obtain⟨F,ρ,r,h⟩:=h;refine⟨F,ρ,r,h.bind.imp (fun _ w=>w) fun p h1 v F1 H1 g1 r1 q1=>?_⟩;obtain⟨w,ρ1⟩:=p;cases w with
 |dat d=>
  cases d with
  |bl b=>
   have q1:Rep Z F1 H1 (.bl b) v:=q1;simp only[Rep]at q1;subst q1;exact⟨b,rfl,h1 _ F1 H1 g1 r1 (show Rep Z F1 H1 (.bl (!b)) _ by simp only[Rep])⟩
  |_=>exact False.elim h1
 |_=>exact False.elim h1
theorem jly {fa fb:Rho->R (Bool×Rho)}{Q:Bool->Hp->Prop}(h:tT Z X B (fun ρ=>(fa ρ).bind fun p=>if p.1 then fb p.2 else .ok (false,p.2)) σ H Q):jsL (tT Z X B fa) (tT Z X B fb) σ H Q:=by
 obtain⟨F,ρ,r,h⟩:=h;refine⟨F,ρ,r,h.bind.imp (fun _ w=>w) fun p h1 F1 H1 g1 r1=>?_⟩;obtain⟨b,ρ1⟩:=p;cases b with
 |true=>rw[if_pos rfl]at h1 ⊢;exact⟨F1,ρ1,r1,h1.imp (fun c w=>w.mono g1) fun y h2 F2 H2 g2 r2=>h2 F2 H2 (g1.trans g2) r2⟩
 |false=>rw[if_neg jus]at h1 ⊢;exact h1 F1 H1 g1 r1
theorem jnX {fa fb:Rho->R (Bool×Rho)}{Q:Bool->Hp->Prop}(h:tT Z X B (fun ρ=>(fa ρ).bind fun p=>if p.1 then .ok (true,p.2)else fb p.2) σ H Q):tOr (tT Z X B fa) (tT Z X B fb) σ H Q:=by
 obtain⟨F,ρ,r,h⟩:=h;refine⟨F,ρ,r,h.bind.imp (fun _ w=>w) fun p h1 F1 H1 g1 r1=>?_⟩;obtain⟨b,ρ1⟩:=p;cases b with
 |false=>rw[if_neg jus]at h1 ⊢;exact⟨F1,ρ1,r1,h1.imp (fun c w=>w.mono g1) fun y h2 F2 H2 g2 r2=>h2 F2 H2 (g1.trans g2) r2⟩
 |true=>rw[if_pos rfl]at h1 ⊢;exact h1 F1 H1 g1 r1
theorem jlz {fa:Rho->R (Bool×Rho)}{Q:Bool->Hp->Prop}(h:tT Z X B (fun ρ=>(fa ρ).bind fun p=>.ok (!p.1,p.2)) σ H Q):jsM (tT Z X B fa) σ H Q:=by
 obtain⟨F,ρ,r,h⟩:=h;exact⟨F,ρ,r,h.bind.imp (fun _ w=>w) fun b h1 F1 H1 g1 r1=>h1 F1 H1 g1 r1⟩
theorem jqs {fc:Rho->R (Bool×Rho)}{fa fb:Rho->R (Vl×Rho)}{Q:VK}(h:tE Z X B (fun ρ=>(fc ρ).bind fun t=>if t.1 then fa t.2 else fb t.2) σ H Q):tIf (tT Z X B fc) (tE Z X B fa) (tE Z X B fb) σ H Q:=by
 obtain⟨F,ρ,r,h⟩:=h;refine⟨F,ρ,r,h.bind.imp (fun _ w=>w) fun p h1 F1 H1 g1 r1=>?_⟩;obtain⟨b,ρ1⟩:=p;cases b with
 |true=>rw[if_pos rfl]at h1 ⊢;exact⟨F1,ρ1,r1,h1.imp (fun c w=>w.mono g1) fun y h2=>Post.ext h2 g1⟩
 |false=>rw[if_neg jus]at h1 ⊢;exact⟨F1,ρ1,r1,h1.imp (fun c w=>w.mono g1) fun y h2=>Post.ext h2 g1⟩
end
noncomputable def jeS (f:E->E->E):List E->Option E
 |[]=>none
 |[e]=>some e
 |e::es=>(jeS f es).map (f e)
section
variable {G:Calls}{U:Nat->Nat->Bool}{Z:Kn}{X:Cx}{B:Bs}
theorem jjr {vs:List Expr}{es:List E}{E':E}{pos:Pos}(h:Paired (fun e E'=>PE X e (tE Z X B (evE G U E'))/\PT X e (tT Z X B (evT G U E'))) vs es)(hf:jeS .and es=some E') :
  PE X (.BoolOp .And vs pos) (tE Z X B (evE G U E'))/\PW X (.BoolOp .And vs pos) (tT Z X B (evT G U E')):=by
 induction h generalizing E' with
 |nil=>cases hf
 |@cons e E1 vs es h1 hr ih=>
  cases hr with
  |nil=>cases hf;exact⟨jmw h1.1,jm9 h1.2⟩
  |@cons e2 E2 vs es h2 hr=>
   simp only[jeS]at hf;cases q:jeS .and (E2::es)with
   |none=>rw[q]at hf;cases hf
   |some E3=>
    have hf':E'=.and E1 E3:=by
     rw[q]at hf;exact(Option.some.inj hf).symm
    subst hf';obtain⟨i1,i2⟩:=ih q;refine⟨PE.imp (jpw h1.1 i1) fun σ H Q z=>jnV (by simpa only[evE] using z),fun whole pins s σ H Q I z=>jps h1.2 i2 whole pins s σ H Q I (jly (by simpa only[evT] using z))⟩
theorem jmL {vs:List Expr}{es:List E}{E':E}{pos:Pos}(h:Paired (fun e E'=>PE X e (tE Z X B (evE G U E'))/\PT X e (tT Z X B (evT G U E'))) vs es)(hf:jeS .or es=some E') :
  PE X (.BoolOp .Or vs pos) (tE Z X B (evE G U E'))/\PW X (.BoolOp .Or vs pos) (tT Z X B (evT G U E')):=by
 induction h generalizing E' with
 |nil=>cases hf
 |@cons e E1 vs es h1 hr ih=>
  cases hr with
  |nil=>cases hf;exact⟨jmw h1.1,jpr h1.2⟩
  |@cons e2 E2 vs es h2 hr=>
   simp only[jeS]at hf;cases q:jeS .or (E2::es)with
   |none=>rw[q]at hf;cases hf
   |some E3=>
    have hf':E'=.or E1 E3:=by
     rw[q]at hf;exact(Option.some.inj hf).symm
    subst hf';obtain⟨i1,i2⟩:=ih q;refine⟨PE.imp (jrv h1.1 i1) fun σ H Q z=>jqr (by simpa only[evE] using z),fun whole pins s σ H Q I z=>jru h1.2 i2 whole pins s σ H Q I (jnX (by simpa only[evT] using z))⟩
end
end DJ
namespace DJ
open PySem PySem.Spec PyProof.Rows L2
section
variable {Z:Kn}{X:Cx}{B:Bs}{σ:L2.St}{ρ ρ0 ρ1 ρ2:Rho}{F F0 F1 F2:Addr->Prop}{H H0 H1 H2:Hp}{w:Vl}{v:V}
noncomputable def RW (Z:Kn)(F':Addr->Prop)(H0 H':Hp)(σ:L2.St)(ρ':Rho):Vl->V->Prop
 |.dat d,v=>Rep Z F' H' d v
 |.tmp o,v=>∃l,v=.ref l/\¬Ow σ ρ' l/\H0 l=none/\HasO Z F' H' l o
 |.slot i,v=>σ[i]?=some (some v)
theorem RV.weak (h:RV Z F H0 H σ ρ w v):RW Z F H0 H σ ρ w v:=by
 cases w with
 |dat d=>exact h
 |tmp o=>obtain⟨l,a,_,b,c,d⟩:=h;exact⟨l,a,b,c,d⟩
 |slot i=>exact h
theorem RW.go (h:RW Z F1 H0 H1 σ ρ1 w v)(r:SR Z B F1 H1 σ ρ1)(g:Go σ ρ1 F1 H1 σ ρ2 F2 H2):RW Z F2 H0 H2 σ ρ2 w v:=by
 cases w with
 |dat d=>exact Rep.mono (g.keep r) h
 |tmp o=>
  obtain⟨l,e,h2,h3,h4⟩:=h;obtain⟨u,hu⟩:=h4.some;refine⟨l,e,fun z=>?_,h3,h4.mono (g.keep r) ((g.stay l u hu fun m=>h2 m.ow).trans hu.symm)⟩;rcases g.owA z with q | q
  ·exact h2 q
  ·rw[hu]at q;cases q
 |slot i=>exact h
theorem RW.keep (h:RW Z F1 H0 H1 σ ρ1 w v)(k:Keep F1 F2 H1 H1)(hO:∀b,Ow σ ρ2 b->Ow σ ρ1 b):RW Z F2 H0 H1 σ ρ2 w v:=by
 cases w with
 |dat d=>exact Rep.mono k h
 |tmp o=>obtain⟨l,e,h2,h3,h4⟩:=h;exact⟨l,e,fun z=>h2 (hO l z),h3,h4.mono k rfl⟩
 |slot i=>exact h
theorem RW.base (h:RW Z F1 H0 H1 σ ρ1 w v)(k:∀l,H0 l=none->H l=none):RW Z F1 H H1 σ ρ1 w v:=by
 cases w with
 |dat d=>exact h
 |tmp o=>obtain⟨l,e,h2,h3,h4⟩:=h;exact⟨l,e,h2,k l h3,h4⟩
 |slot i=>exact h
noncomputable def Sub (ρ' ρ:Rho):Prop:=∀(i:Nat) o f k,ρ'[i]?=some (.own o f k)->ρ[i]?=some (.own o f k)
theorem Sub.set {i:Nat}{s:Sl}(hs:∀o f k,s≠.own o f k):Sub (ρ.set i s) ρ:=fun j o f k h=>by
 rw[jtM]at h;by_cases e:i=j
 ·rw[if_pos e]at h;split at h
  ·cases h;exact absurd rfl (hs _ _ _)
  ·cases h
 ·rw[if_neg e]at h;exact h
theorem Sub.trans (a:Sub ρ2 ρ1)(b:Sub ρ1 ρ):Sub ρ2 ρ:=fun i o f k h=>b i o f k (a i o f k h)
theorem Sub.ow (a:Sub ρ1 ρ){b:Addr}(h:Ow σ ρ1 b):Ow σ ρ b:=let ⟨i,o,f,k,h1,h2⟩:=h;⟨i,o,f,k,a i o f k h1,h2⟩
theorem jnY {ρ':Rho}{d:D}(h:RW Z F1 H H1 σ ρ' w v)(sb:Sub ρ1 ρ')(r:SR Z B F1 H1 σ ρ1)(g:Go σ ρ F H σ ρ1 F1 H1)(hd:toD w ρ1=.ok (d,ρ2)) :
  ∃F2,Go σ ρ F H σ ρ2 F2 H1/\SR Z B F2 H1 σ ρ2/\Rep Z F2 H1 d v/\Keep F1 F2 H1 H1/\Sub ρ2 ρ1/\(∀j:Nat,ρ1[j]?=some .no->ρ2[j]?=some .no)/\(∀a,F2 a->F1 a\/¬Ow σ ρ' a\/∃(j:Nat) (o:O),ρ1[j]?=some (.own o false false)/\σ[j]?=some (some (.ref a))):=by
 cases w with
 |dat d'=>cases hd;exact⟨F1,g,r,h,Keep.refl,fun _ _ _ _ h=>h,fun _ h=>h,fun a h1=>.inl h1⟩
 |tmp o=>
  cases hd;obtain⟨l,rfl,h2,h3,h4⟩:=h;obtain⟨a,b⟩:=r.frzT (fun z=>h2 (sb.ow z)) h4;refine⟨_,g.frzT h3,a,b,fun a q=>⟨.inl q,rfl⟩,fun _ _ _ _ h=>h,fun _ h=>h,fun x h5=>?_⟩;rcases h5 with h5 | h5
  ·exact .inl h5
  ·rw[h5];exact .inr (.inl h2)
 |slot i=>
  have h:σ[i]?=some (some v):=h;simp only[toD]at hd;split at hd
  ·rename_i o e;cases hd;obtain⟨l,e1,_⟩:=r.own i o _ _ e;rw[h]at e1;cases e1;obtain⟨a,b,c⟩:=r.frz e h;refine⟨_,g.trans (Go.frz e h),b,c,a,Sub.set (fun _ _ _ z=>by cases z),fun j hj=>?_,fun x h5=>?_⟩
   ·rw[jtM];split
    ·rename_i z;subst z;rw[e]at hj;cases hj
    ·exact hj
   ·rcases h5 with h5 | h5
    ·exact .inl h5
    ·rw[h5];exact .inr (.inr ⟨i,o,e,h⟩)
  ·rename_i d' e;cases hd;obtain⟨v',e1,e2⟩:=r.dat i d e;rw[h]at e1;cases e1;exact⟨F1,g,r,e2,Keep.refl,fun _ _ _ _ h=>h,fun _ h=>h,fun a h1=>.inl h1⟩
  ·cases hd
end
inductive tL_I (Z:Kn) (X:Cx) (B:Bs) (f:Rho->R (List D×Rho)) (σ:L2.St) (H:L2.Hp) (Q:(List L2.V->L2.Hp->Prop)):Prop
 |mk (F:_) (ρ:_):(SR Z B F H σ ρ)->(Ok (XW Z X σ ρ H) (f ρ) fun p=>∀vs F' H',Go σ ρ F H σ p.2 F' H'->SR Z B F' H' σ p.2->Reps Z F' H' p.1 vs->Q vs H')->tL_I Z X B f σ H Q
noncomputable def tL (Z:Kn)(X:Cx)(B:Bs)(f:Rho->R (List D×Rho)):TA:=fun σ H Q=>tL_I Z X B f σ H Q
noncomputable def RWs (Z:Kn)(F':Addr->Prop)(H0 H':Hp)(σ:L2.St)(ρ':Rho):List Vl->List V->Prop:=Paired (RW Z F' H0 H' σ ρ')
inductive tAs_I (Z:Kn) (X:Cx) (B:Bs) (f:Rho->R (List Vl×Rho)) (σ:L2.St) (H:L2.Hp) (Q:(List L2.V->L2.Hp->Prop)):Prop
 |mk (F:_) (ρ:_):(SR Z B F H σ ρ)->(Ok (XW Z X σ ρ H) (f ρ) fun p=>∀vs F' H',Go σ ρ F H σ p.2 F' H'->SR Z B F' H' σ p.2->RWs Z F' H H' σ p.2 p.1 vs->Q vs H')->tAs_I Z X B f σ H Q
noncomputable def tAs (Z:Kn)(X:Cx)(B:Bs)(f:Rho->R (List Vl×Rho)):TA:=fun σ H Q=>tAs_I Z X B f σ H Q
section
variable {Z:Kn}{X:Cx}{B:Bs}{G:Calls}{U:Nat->Nat->Bool}
theorem jjs {es:List Expr}{Es':List E}(hp:Paired (fun e E'=>PE X e (tE Z X B (evE G U E'))/\∀a p,e≠.Starred a p) es Es'):PA X es (tL Z X B (evEs G U (jgD Es'))):=by
 induction hp with
 |nil=>
  intro pos pins s σ H Q I h;obtain⟨F,ρ,r,h⟩:=h;exact jbC pos pins s σ H Q I (h [] F H Go.refl r .nil)
 |cons h1 h2 ih=>
  intro pos pins s σ H Q I h;refine jaC h1.1 ih (jad h1.2) pos pins s σ H Q I ?_;obtain⟨F,ρ,r,h⟩:=h;simp only[jgD,evEs]at h;refine⟨F,ρ,r,h.bind.imp (fun _ w=>w) fun p h1 v F1 H1 g1 r1 q1=>?_⟩;obtain⟨q,hq,h2⟩:=h1.bind.pure fun c=>jbs;obtain⟨F2,g2,r2,rp,_⟩:=jcy q1 r1 g1 hq;refine⟨F2,q.2,r2,h2.bind.imp (fun c w=>w.mono g2) fun s3 h3 vs F3 H3 g3 r3 q3=>?_⟩;exact h3 (v::vs) F3 H3 (g2.trans g3) r3 (.cons (rp.mono (g3.keep r2)) q3)
theorem RWs.base {σ:L2.St}{ρ1:Rho}{F1:Addr->Prop}{H H0 H1:Hp}{ws:List Vl}{vs:List V}(h:RWs Z F1 H0 H1 σ ρ1 ws vs)(k:∀l,H0 l=none->H l=none):RWs Z F1 H H1 σ ρ1 ws vs:=Paired.mapP h fun _ _ x=>x.base k
theorem RWs.keep {σ:L2.St}{ρ1:Rho}{F1 F2:Addr->Prop}{H0 H1:Hp}{ws:List Vl}{vs:List V}(h:RWs Z F1 H0 H1 σ ρ1 ws vs)(k:Keep F1 F2 H1 H1):RWs Z F2 H0 H1 σ ρ1 ws vs:=Paired.mapP h fun _ _ x=>x.keep k fun _ z=>z
theorem jnZ {es:List Expr}{Es':List E}(hp:Paired (fun e E'=>PE X e (tE Z X B (evE G U E'))/\∀a p,e≠.Starred a p) es Es'):PA X es (tAs Z X B (evAs G U (jgD Es'))):=by
 induction hp with
 |nil=>
  intro pos pins s σ H Q I h;obtain⟨F,ρ,r,h⟩:=h;exact jbC pos pins s σ H Q I (h [] F H Go.refl r .nil)
 |cons h1 h2 ih=>
  intro pos pins s σ H Q I h;refine jaC h1.1 ih (jad h1.2) pos pins s σ H Q I ?_;obtain⟨F,ρ,r,h⟩:=h;simp only[jgD,evAs]at h;refine⟨F,ρ,r,h.bind.imp (fun _ w=>w) fun p h1 v F1 H1 g1 r1 q1=>⟨F1,p.2,r1,h1.bind.imp (fun c w=>w.mono g1) fun s3 h3 vs F3 H3 g3 r3 q3=>?_⟩⟩;exact h3 (v::vs) F3 H3 (g1.trans g3) r3 (.cons (q1.weak.go r1 g3) (q3.base fun l z=>g1.free z))
end
section
variable {Z:Kn}{B:Bs}{σ:L2.St}{ρ ρ0 ρ1 ρ2:Rho}{F F0 F1 F2:Addr->Prop}{H H0:Hp}
inductive PassR (Z:Kn) (F2:Addr->Prop) (H:Hp) (σ:L2.St) (ρ ρ2:Rho):Sl->Option (Nat×Bool×Bool)->V->Prop where
 |dat {d:D}{v:V}:Rep Z F2 H d v->PassR Z F2 H σ ρ ρ2 (.dat d) none v
 |own {o:O}{i:Nat}{f k:Bool}{l:Addr}:σ[i]?=some (some (.ref l))->ρ[i]?=some (.own o f k)->ρ2[i]?=some .no->¬F2 l->HasO Z F2 H l o->PassR Z F2 H σ ρ ρ2 (.own o true k) (some (i,f,k)) (.ref l)
noncomputable def lentIx:List (Option (Nat×Bool×Bool))->List Nat
 |[]=>[]
 |some (i,_,_)::r=>i::lentIx r
 |none::r=>lentIx r
inductive PassRs (Z:Kn) (F2:Addr->Prop) (H:Hp) (σ:L2.St) (ρ ρ2:Rho):List Sl->List (Option (Nat×Bool×Bool))->List V->Prop where
 |nil:PassRs Z F2 H σ ρ ρ2 [] [] []
 |cons {s:Sl}{b:Option (Nat×Bool×Bool)}{v:V}{ss:List Sl}{bs:List (Option (Nat×Bool×Bool))}{vs:List V}:PassR Z F2 H σ ρ ρ2 s b v->PassRs Z F2 H σ ρ ρ2 ss bs vs->PassRs Z F2 H σ ρ ρ2 (s::ss) (b::bs) (v::vs)
theorem jjt {l:Bool}{w:Vl}{c:Nat}:jeJ l w ρ≠.err c:=by
 intro h;unfold jeJ at h;split at h
 ·split at h <;> cases h
 ·cases q:toD w ρ with
  |ok p=>rw[q]at h;cases h
  |err c=>exact absurd q jbs
  |stk=>rw[q]at h;cases h
theorem jc6:∀{fl:List Bool}{ws:List Vl}{ρ:Rho}{c:Nat},jak fl ws ρ≠.err c
 |_,[],_,_=>by simp[jak]
 |fl,w::ws,ρ,c=>by
  intro h;simp only[jak]at h;cases q:jeJ (fl.headD false) w ρ with
  |ok p=>
   rw[q,R.bind_ok']at h;cases q2:jak fl.tail ws p.2.2 with
   |ok r=>rw[q2]at h;cases h
   |err c=>exact jc6 q2
   |stk=>rw[q2]at h;cases h
  |err c=>exact jjt q
  |stk=>rw[q]at h;cases h
inductive PassO (Z:Kn) (B:Bs) (F0:Addr->Prop) (H0 H:Hp) (σ:L2.St) (ρ ρ0 ρ1 ρ2:Rho) (F1:Addr->Prop) (sls:List Sl) (back:List (Option (Nat×Bool×Bool))) (vs:List V):Prop
 |mk (F2:Addr->Prop):(Go σ ρ0 F0 H0 σ ρ2 F2 H)->(SR Z B F2 H σ ρ2)->(Keep F1 F2 H H)->(Sub ρ2 ρ)->(PassRs Z F2 H σ ρ ρ2 sls back vs)->((lentIx back).Nodup)->((∀i∈lentIx back,∃o f k,ρ1[i]?=some (.own o f k)))->((∀i:Nat,ρ1[i]?=some .no->ρ2[i]?=some .no))->((∀l,(∃(i:Nat) (o:O) (f kk:Bool),ρ[i]?=some (Sl.own o f kk)/\σ[i]?=some (some (V.ref l))/\ρ1[i]?=some Sl.no)->¬F1 l->¬F2 l))->PassO Z B F0 H0 H σ ρ ρ0 ρ1 ρ2 F1 sls back vs
theorem jfL:∀{fl:List Bool}{ws:List Vl}{vs:List V}{ρ1 ρ2:Rho}{F1:Addr->Prop}{sls:List Sl}{back:List (Option (Nat×Bool×Bool))},RWs Z F1 H0 H σ ρ ws vs->SR Z B F1 H σ ρ1->Go σ ρ0 F0 H0 σ ρ1 F1 H->SR Z B F H σ ρ->Keep F F1 H H->Sub ρ1 ρ ->
  jak fl ws ρ1=.ok (sls,back,ρ2) ->
  PassO Z B F0 H0 H σ ρ ρ0 ρ1 ρ2 F1 sls back vs
 |fl,[],vs,ρ1,ρ2,F1,sls,back,rw',r1,g1,r,kp,sb,h=>by
  cases rw';simp only[jak]at h;cases h;exact⟨F1,g1,r1,Keep.refl,sb,.nil,List.nodup_nil,fun _ h=>absurd h (by simp[lentIx]),fun _ h=>h,fun _ _ h=>h⟩
 |fl,w::ws,vs,ρ1,ρ2,F1,sls,back,rw',r1,g1,r,kp,sb,h=>by
  cases rw' with
  |@cons _ v _ vs' q1 q2=>
  simp only[jak]at h;obtain⟨p,hp,h⟩:=R.bind_ok h;obtain⟨q,hq,h⟩:=R.bind_ok h;cases h;unfold jeJ at hp;split at hp
  ·
   rename_i i hfl;split at hp
   ·rename_i o f k e;cases hp;have q1:σ[i]?=some (some v):=q1;obtain⟨l,e1,e2,e3,e4⟩:=r1.own i o f k e;rw[q1]at e1;cases e1;have hi:i<ρ1.length:=(List.getElem?_eq_some_iff.mp e).1;have le:Le (ρ1.set i .no) ρ1:=Le.no;have rA:SR Z B F1 H σ (ρ1.set i .no):=r1.weak le;have gA:Go σ ρ0 F0 H0 σ (ρ1.set i .no) F1 H:=g1.trans (Go.weak le);have sbA:Sub (ρ1.set i .no) ρ1:=Sub.set (fun _ _ _ z=>by cases z)
    obtain⟨F2,g2,r2,k2,s2,p2,n2,i2,no2,f2⟩:=jfL q2 rA gA r kp (sbA.trans sb) hq;have ei:=sb i o f k e;have noI:(ρ1.set i .no)[i]?=some .no:=List.getElem?_set_self hi;refine⟨F2,g2,r2,k2,s2,.cons (.own q1 ei (no2 i noI) (f2 l ⟨i,o,f,k,ei,q1,noI⟩ e2) (e3.mono k2 rfl)) p2,?_,?_,?_,?_⟩
    ·simp only[lentIx];refine List.nodup_cons.mpr ⟨fun z=>?_,n2⟩;obtain⟨o',f',k',e'⟩:=i2 i z;rw[noI]at e';cases e'
    ·intro j hj;simp only[lentIx]at hj;rcases List.mem_cons.mp hj with rfl | hj
     ·exact⟨o,f,k,e⟩
     ·obtain⟨o',f',k',e'⟩:=i2 j hj;exact⟨o',f',k',sbA j o' f' k' e'⟩
    ·intro j hj;refine no2 j ?_;rw[jtM];split
     ·rename_i z;subst z;exact absurd (e.symm.trans hj) @11
     ·exact hj
    ·rintro l' ⟨j,o',f',kk',a1,a2,a3⟩ hn;refine f2 l' ⟨j,o',f',kk',a1,a2,?_⟩ hn;rw[jtM];split
     ·rename_i z;subst z;exact absurd (e.symm.trans a3) @11
     ·exact a3
   ·cases hp
  ·
   obtain⟨t,ht,hp⟩:=R.bind_ok hp;cases hp;obtain⟨FA,gA,rA,rp,kA,sA,noA,nA⟩:=jnY q1 sb r1 g1 ht;have q2A:RWs Z FA H0 H σ ρ ws vs':=RWs.keep q2 kA;have fA:∀l,(∃(i:Nat) (o:O) (f kk:Bool),ρ[i]?=some (Sl.own o f kk)/\σ[i]?=some (some (V.ref l))/\ρ1[i]?=some Sl.no)->¬F1 l->¬FA l:=fun l hx hn z=>by
    obtain⟨i,o,f,kk,a1,a2,a3⟩:=hx;rcases nA l z with z | z | ⟨j,oj,z1,z2⟩
    ·exact hn z
    ·exact z ⟨i,o,f,kk,a1,a2⟩
    ·refine r.one i j _ _ _ _ _ _ l (fun e=>?_) a1 (sb j oj _ _ z1) a2 z2;subst e;rw[a3]at z1;cases z1
   obtain⟨F2,g2,r2,k2,s2,p2,n2,i2,no2,f2⟩:=jfL q2A rA gA r (kp.trans kA) (sA.trans sb) hq;refine⟨F2,g2,r2,kA.trans k2,s2,.cons (.dat (rp.mono k2)) p2,?_,?_,fun j hj=>no2 j (noA j hj),?_⟩
   ·simp only[lentIx];exact n2
   ·intro j hj;simp only[lentIx]at hj;obtain⟨o',f',k',e'⟩:=i2 j hj;exact⟨o',f',k',sA j o' f' k' e'⟩
   ·rintro l ⟨i,o,f,kk,a1,a2,a3⟩ hn;exact f2 l ⟨i,o,f,kk,a1,a2,noA i a3⟩ (fA l ⟨i,o,f,kk,a1,a2,a3⟩ hn)
theorem PassRs.len {sls:List Sl}{back:List (Option (Nat×Bool×Bool))}{vs:List V}(h:PassRs Z F2 H σ ρ ρ2 sls back vs):sls.length=vs.length/\back.length=vs.length:=by
 induction h with
 |nil=>exact⟨rfl,rfl⟩
 |cons _ _ ih=>simp[ih.1,ih.2]
theorem PassRs.get {sls:List Sl}{back:List (Option (Nat×Bool×Bool))}{vs:List V}(h:PassRs Z F2 H σ ρ ρ2 sls back vs):∀{k:Nat}{s:Sl},sls[k]?=some s->∃b v,back[k]?=some b/\vs[k]?=some v/\PassR Z F2 H σ ρ ρ2 s b v:=by
 induction h with
 |nil=>intro k s e;simp at e
 |@cons s0 b0 v0 ss bs vs h1 _ ih=>
  intro k s e;cases k with
  |zero=>simp at e;subst e;exact⟨b0,v0,rfl,rfl,h1⟩
  |succ k=>simp at e;simpa using ih e
theorem jbS:∀{back:List (Option (Nat×Bool×Bool))}{k i:Nat}{f g:Bool},back[k]?=some (some (i,f,g))->i∈lentIx back
 |[],k,i,f,g,h=>by simp at h
 |none::r,0,i,f,g,h=>by simp at h
 |none::r,k+1,i,f,g,h=>by simp at h;simp only[lentIx];exact jbS h
 |some (j,a,b)::r,0,i,f,g,h=>by
  simp at h;simp[lentIx,h.1]
 |some (j,a,b)::r,k+1,i,f,g,h=>by simp at h;simp only[lentIx];exact jtI _ (jbS h)
theorem jhA {back:List (Option (Nat×Bool×Bool))}{k k' i:Nat}{f g f' g':Bool}(n:(lentIx back).Nodup)(h:back[k]?=some (some (i,f,g)))(h':back[k']?=some (some (i,f',g'))):k=k':=by
 induction back generalizing k k' with
 |nil=>cases h
 |cons x r ih=>
  cases x with
  |none=>
   cases k with
   |zero=>cases h
   |succ k=>
    cases k' with
    |zero=>cases h'
    |succ k'=>rw[ih n h h']
  |some x=>
   have n:=List.nodup_cons.mp n;cases k with
   |zero=>
    cases k' with
    |zero=>rfl
    |succ k'=>cases h;exact absurd (jbS (back:=r) h') n.1
   |succ k=>
    cases k' with
    |zero=>cases h';exact absurd (jbS (back:=r) h) n.1
    |succ k'=>rw[ih n.2 h h']
theorem jc7:∀{back:List (Option (Nat×Bool×Bool))}{fin:List Sl}{ρ:Rho},(jbd back fin ρ).length=ρ.length
 |[],fin,ρ=>by simp[jbd]
 |_::_,[],ρ=>by simp[jbd]
 |none::r,s::fs,ρ=>by simp only[jbd];exact jc7
 |some (i,f,k)::r,s::fs,ρ=>by
  simp only[jbd];rw[jc7];split <;> simp
theorem jbK:∀{back:List (Option (Nat×Bool×Bool))}{fin:List Sl}{ρ:Rho}{i:Nat}{s:Sl},(jbd back fin ρ)[i]?=some s->ρ[i]?=some s\/∃(k:Nat) (o:O) (f k' f0 k0:Bool),back[k]?=some (some (i,f0,k0))/\fin[k]?=some (.own o f k')/\s=.own o f0 k0
 |[],fin,ρ,i,s,h=>by simp[jbd]at h;exact .inl h
 |_::_,[],ρ,i,s,h=>by simp[jbd]at h;exact .inl h
 |none::r,s0::fs,ρ,i,s,h=>by
  simp only[jbd]at h;rcases jbK h with h | ⟨k,o,f,k',f0,k0,h1,h2,h3⟩
  ·exact .inl h
  ·exact .inr ⟨k+1,o,f,k',f0,k0,by simpa using h1,by simpa using h2,h3⟩
 |some (j,f,g)::r,s0::fs,ρ,i,s,h=>by
  simp only[jbd]at h;rcases jbK h with hx | ⟨k,o,f,k',f0,k0,h1,h2,h3⟩
  ·clear h;cases s0 with
   |own o f1 k1=>
    simp only at hx;rw[jtM]at hx;split at hx
    ·rename_i e;subst e;split at hx
     ·cases hx;exact .inr ⟨0,o,f1,k1,f,g,rfl,rfl,rfl⟩
     ·cases hx
    ·exact .inl hx
   |no=>exact .inl hx
   |dat d=>exact .inl hx
  ·exact .inr ⟨k+1,o,f,k',f0,k0,by simpa using h1,by simpa using h2,h3⟩
noncomputable def jc8 (H:Hp)(sls:List Sl)(vs:List V):Bs:=⟨H,fun k=>match sls[k]?,vs[k]? with
 |some (.own _ _ _),some (.ref l)=>some l
 |_,_=>none⟩
theorem jfM {sls:List Sl}{vs:List V}(k:Nat)(l:Addr)(h:(jc8 H sls vs).lent k=some l):(vs.map some)[k]?=some (some (.ref l)):=by
 unfold jc8 at h;simp only at h;split at h
 ·rename_i h1 h2;cases h;rw[jtN,h2];rfl
 ·cases h
theorem PassRs.own {sls:List Sl}{back:List (Option (Nat×Bool×Bool))}{vs:List V}(h:PassRs Z F2 H σ ρ ρ2 sls back vs){k:Nat}{o:O}{f g:Bool}(e:sls[k]?=some (.own o f g)) :
  ∃(i:Nat) (f0:Bool) (l:Addr),back[k]?=some (some (i,f0,g))/\vs[k]?=some (.ref l)/\f=true/\σ[i]?=some (some (.ref l))/\ρ[i]?=some (.own o f0 g)/\ρ2[i]?=some .no/\¬F2 l/\HasO Z F2 H l o:=by
 obtain⟨b,v,h1,h2,h3⟩:=h.get e;cases h3 with
 |own a1 a2 a3 a4 a5=>exact⟨_,_,_,h1,h2,rfl,a1,a2,a3,a4,a5⟩
theorem PassRs.backOf {sls:List Sl}{back:List (Option (Nat×Bool×Bool))}{vs:List V}(h:PassRs Z F2 H σ ρ ρ2 sls back vs){k i:Nat}{f0 k0:Bool}(e:back[k]?=some (some (i,f0,k0))) :
  ∃(o:O) (l:Addr),sls[k]?=some (.own o true k0)/\vs[k]?=some (.ref l)/\σ[i]?=some (some (.ref l))/\ρ[i]?=some (.own o f0 k0)/\ρ2[i]?=some .no:=by
 have hl:k<sls.length:=by
  rw[h.len.1,<-h.len.2];exact(List.getElem?_eq_some_iff.mp e).1
 obtain⟨b,v,h1,h2,h3⟩:=h.get (jtH hl);rw[e]at h1;cases h1;have es:=jtH hl;generalize sls[k]=s at h3 es;cases h3 with
 |own a1 a2 a3 a4 a5=>exact⟨_,_,es,h2,a1,a2,a3⟩
theorem jn0 {sls:List Sl}{back:List (Option (Nat×Bool×Bool))}{vs:List V}(r:SR Z B F H σ ρ)(r2:SR Z B F2 H σ ρ2)(h:PassRs Z F2 H σ ρ ρ2 sls back vs)(hn:(lentIx back).Nodup):SR Z (jc8 H sls vs) F2 H (vs.map some) sls where
 dom:=r2.dom
 len:=by simp[h.len.1]
 dat i d e:=by
  obtain⟨b,v,h1,h2,h3⟩:=h.get e;cases h3 with
  |dat q=>exact⟨v,by rw[jtN,h2];rfl,q⟩
 own i o f k e:=by
  obtain⟨j,f0,l,h1,h2,h3,h4,h5,h6,h7,h8⟩:=h.own e;refine⟨l,by rw[jtN,h2];rfl,h7,h8,fun _=>?_,fun z=>?_⟩
  ·simp only[jc8,e,h2]
  ·rw[h3]at z;cases z
 one i j o o' f k f' k' l ne e e' q q':=by
  obtain⟨a,f0,l1,h1,h2,h3,h4,h5,h6,h7,h8⟩:=h.own e;obtain⟨a',f0',l1',h1',h2',h3',h4',h5',h6',h7',h8'⟩:=h.own e';rw[jtN,h2]at q;rw[jtN,h2']at q';cases q;cases q';refine r.one a a' _ _ _ _ _ _ l (fun z=>ne ?_) h5 h5' h4 h4';subst z;exact jhA hn h1 h1'
 base b z:=z
theorem jlA {sls:List Sl}{back:List (Option (Nat×Bool×Bool))}{vs:List V}{H':Hp}(h:PassRs Z F2 H σ ρ ρ2 sls back vs)(st:Stl (vs.map some) sls H H'):Stl σ ρ H H':=
 ⟨fun b o e n=>st.stay b o e fun ⟨k,o',f,e1,e2⟩=>n (by
  obtain⟨i,f0,l,h1,h2,h3,h4,h5,_⟩:=h.own e1;rw[jtN,h2]at e2;cases e2;exact⟨i,o',f0,h5,h4⟩),st.there⟩
theorem jn1 {sls fin:List Sl}{back:List (Option (Nat×Bool×Bool))}{vs:List V}{F':Addr->Prop}{H':Hp}(g:Go σ ρ0 F0 H0 σ ρ F H)(r:SR Z B F H σ ρ)(gp:Go σ ρ0 F0 H0 σ ρ2 F2 H)(r2:SR Z B F2 H σ ρ2)(sb:Sub ρ2 ρ)(h:PassRs Z F2 H σ ρ ρ2 sls back vs)
  (gc:Go (vs.map some) sls F2 H (vs.map some) fin F' H') (rc:SR Z (jc8 H sls vs) F' H' (vs.map some) fin) (rs:SR Z (jc8 H sls vs) F2 H (vs.map some) sls) :
  Go σ ρ0 F0 H0 σ (jbd back fin ρ2) F' H'/\SR Z B F' H' σ (jbd back fin ρ2)/\∀w v,(∀i,w≠.slot i)->RV Z F' H H' (vs.map some) fin w v->RV Z F' H0 H' σ (jbd back fin ρ2) w v:=by
 have own3:∀(i:Nat) (o:O) (f k:Bool),(jbd back fin ρ2)[i]?=some (.own o f k)->∃o0,ρ[i]?=some (.own o0 f k):=fun i o f k e=>by
  rcases jbK e with e | ⟨m,o1,f1,k1,f0,k0,h1,h2,h3⟩
  ·exact⟨o,sb i o f k e⟩
  ·cases h3;obtain⟨o2,l,_,_,_,h7,_⟩:=h.backOf h1;exact⟨o2,h7⟩
 have mbC:∀b,Mb (vs.map some) sls b->Mb σ ρ b:=fun b ⟨k,o,f,e1,e2⟩=>by
  obtain⟨i,f0,l,h1,h2,h3,h4,h5,_⟩:=h.own e1;rw[jtN,h2]at e2;cases e2;exact⟨i,o,f0,h5,h4⟩
 have owC:∀b,Ow (vs.map some) sls b->∃(i:Nat) (o:O) (f k:Bool),ρ[i]?=some (.own o f k)/\σ[i]?=some (some (.ref b))/\ρ2[i]?=some .no:=fun b ⟨k,o,f,k',e1,e2⟩=>by
  obtain⟨i,f0,l,h1,h2,h3,h4,h5,h6,_⟩:=h.own e1;rw[jtN,h2]at e2;cases e2;exact⟨i,o,f0,k',h5,h4,h6⟩
 have kp:=gc.keep rs;refine⟨⟨fun b o e n=>?_,fun a q=>gc.sub a (gp.sub a q),fun a q=>?_,fun j o f k b e1 e2=>?_,fun b o e=>?_⟩,⟨rc.dom,?_,fun i d e=>?_,fun i o f k e=>?_,fun i j o o' f k f' k' l ne e e' q=>?_,fun b z=>?_⟩,fun w v hw q=>?_⟩
 ·refine gc.stay b o (g.stay b o e n) fun z=>?_;rcases g.mb (mbC b z)with q | q
  ·exact n q
  ·rw[e]at q;cases q
 ·rcases gc.new a q with q | q | q
  ·exact gp.new a q
  ·exact .inr (.inl (g.free q))
  ·rcases g.mb (mbC a q)with q | q
   ·exact .inr (.inr q)
   ·exact .inr (.inl q)
 ·obtain⟨o0,e0⟩:=own3 j o f k e1;exact g.ow j o0 f k b e0 e2
 ·obtain⟨o1,e1⟩:=g.there b o e;exact gc.there b o1 e1
 ·rw[jc7];exact r2.len
 ·rcases jbK e with e | ⟨m,o1,f1,k1,f0,k0,h1,h2,h3⟩
  ·obtain⟨v,e1,e2⟩:=r2.dat i d e;exact⟨v,e1,e2.mono kp⟩
  ·cases h3
 ·rcases jbK e with e | ⟨m,o1,f1,k1,f0,k0,h1,h2,h3⟩
  ·obtain⟨l,e1,e2,e3,e4⟩:=r2.own i o f k e;have no:¬Ow (vs.map some) sls l:=fun z=>by
    obtain⟨j,o',f',k',q1,q2,q3⟩:=owC l z;refine r.one i j _ _ _ _ _ _ l (fun e'=>?_) (sb i o f k e) q1 e1 q2;subst e';rw[e]at q3;cases q3
   obtain⟨u,hu⟩:=e3.some;obtain⟨a,b,_⟩:=gc.side hu e2 no;exact⟨l,e1,b,e3.mono kp (a.trans hu.symm),e4⟩
  ·cases h3;obtain⟨o2,l,h4,h5,h6,h7,_⟩:=h.backOf h1;obtain⟨l',q1,q2,q3,q4⟩:=rc.own m _ _ _ h2;rw[jtN,h5]at q1;cases q1;obtain⟨l2,z1,_,_,z4⟩:=r.own i o2 _ _ h7;rw[h6]at z1;cases z1;exact⟨l,h6,q2,q3,z4⟩
 ·obtain⟨o1,e1⟩:=own3 i o f k e;obtain⟨o2,e2⟩:=own3 j o' f' k' e';exact r.one i j _ _ _ _ _ _ l ne e1 e2 q
 ·exact r.base b (gc.free z)
 ·cases w with
  |dat d=>exact q
  |tmp o=>
   obtain⟨l,e,h1,h2,h3,h4⟩:=q;refine⟨l,e,h1,fun z=>?_,g.free h3,h4⟩;obtain⟨j,o',f',k',z1,z2⟩:=z;obtain⟨o0,z0⟩:=own3 j o' f' k' z1;obtain⟨u,hu⟩:=r.there ⟨j,o0,f',k',z0,z2⟩;rw[h3]at hu;cases hu
  |slot i=>exact absurd rfl (hw i)
end
end DJ
namespace DJ
open PySem PySem.Spec PyProof.Rows L2
noncomputable def EX (X:Cx)(σ:L2.St):XK:=fun cls _ H'=>∀(pins:List (Addr×Obj)) (s':Shared) (ea:Addr),Inv X pins σ H' s'->FlyC X pins ea cls H' s'->X.xe (.ref ea) s'
theorem jqt {X:Cx}{pins:List (Addr×Obj)}{σ:L2.St}{H:Hp}{s s':Shared}{e:Value}{E:XK}(I:Inv X pins σ H s)(h:CXD X.prog X.w X.stack H s E e s'):∃ea cls H',e=.ref ea/\Inv X pins σ H' s'/\FlyC X pins ea cls H' s'/\E cls none H':=by
 obtain⟨ea,cls,a0,H',B,rfl,os,bare,un,hok,fl,hB,hB2,hn,q⟩:=h;refine⟨ea,cls,H',rfl,I.call' os un hok bare fun b z=>absurd z @11,⟨⟨a0,B,.of fl,fun b o e n nx=>?_,fun x c hf hc=>?_,fun p hp=>?_,hB2⟩,hn⟩,q⟩
 ·obtain⟨o',e'⟩:=I.base.there b o e nx;exact hB b o' e' n
 ·obtain⟨v,o,ho,hd⟩:=I.cell x c hc;refine hB c o ho fun z=>?_;rcases List.mem_cons.mp (I.stkSub c z)with z | z
  ·exact I.cne x c hc z
  ·have h1:=I.ok.cab x c hf hc;obtain⟨_,o',h2,_⟩:=I.ok.funs.mem z;exact absurd (juh h2) (Nat.not_lt.mpr h1)
 ·obtain⟨h1,h2,h3,h4,_⟩:=I.pin p hp;refine hB p.1 p.2 h1 fun z=>?_;rcases List.mem_cons.mp (I.stkSub p.1 z)with z | z
  ·exact h3 z
  ·exact h4 z
noncomputable def jju (X:Cx)(sp:Sp)(t:TA):TE:=fun σ H Q=>t σ H fun vs H1=>sp vs H1 Q (EX X σ)
section
variable {X:Cx}{k:Nat}{f:Addr}{fd:FuncData}{ps:List Str}{sp:Sp}{x:Str}{p pos:Pos}{e:Expr}{es:List Expr}{t:TA}
theorem jjv {pins:List (Addr×Obj)}{σ:L2.St}{H:Hp}{s:Shared}{Q:VK}{us:List Value}{vs:List V}(F:FnOk X.prog X.w X.K X.mg X.base (CXD X.prog X.w) k f fd ps sp)(hr:Room k X.A)(hb:Binds X.K fd ps [])
  (I:Inv X pins σ H s) (r:Vals vs us) (h:sp vs H Q (EX X σ)):wpAny @4 X.A (call (.ref f) us) (EP X pins σ Q) X.xe s:=by
 have hl:(us++[]).length=ps.length:=by rw[jt5,<-r.length];exact F.len _ _ _ _ h
 have hbt:=hb s us I.kIn hl;rw[jt5]at hbt;refine wpAny_call (codeAny_mono (F.run X.A X.stack s H ⟨us,[]⟩ us vs Q (EX X σ) hr I.env0 hbt r h) fun r s' hq=>?_);cases r with
 |error e=>
  obtain⟨ea,cls,H',rfl,I',fl,q⟩:=jqt I hq;exact q pins s' ea I' fl
 |ok fl=>
  cases fl with
  |ret u=>exact I.after hq
  |next=>exact False.elim hq
  |brk=>exact False.elim hq
  |cont=>exact False.elim hq
theorem jlB (F:FnOk X.prog X.w X.K X.mg X.base (CXD X.prog X.w) k f fd ps sp)(hr:Room k X.A)(hg:Gl X x)(hm:X.mg x=some (.ref f))(hk:PySem.W.keepIn X.K (.ref f)=true)(hb:Binds X.K fd ps [])
  (ha:PA X (e::es) t) (hdb:(x == ("__debug__":Str))=false) (he:starEach (e::es) X.env=(false,eval e X.env)::starEach es X.env) (hpl:(backTo pos (starEach es X.env)).any (·.1)=false) :
  PE X (.Call (.Name x p) (e::es) [] pos) (jju X sp t):=by
 intro pins s σ H Q I h;refine wpAny_Call_Name_kw (jft I hg hm ?_ hdb);refine PySem.W.callWith_K (h₀:=X.base) I.ok.mod.kin hk (thn (ha pos pins s σ H _ I h) fun us s1 ⟨vs,H1,I1,r,q⟩=>⟨I1.kIn,?_⟩) he hpl;exact jjv F hr hb I1 r q
theorem jjw (F:FnOk X.prog X.w X.K X.mg X.base (CXD X.prog X.w) k f fd ps sp)(hr:Room k X.A)(hg:Gl X x)(hm:X.mg x=some (.ref f))(hk:PySem.W.keepIn X.K (.ref f)=true)(hb:Binds X.K fd ps [])
  (hdb:(x == ("__debug__":Str))=false):PE X (.Call (.Name x p) [] [] pos) (jju X sp jpe):=by
 intro pins s σ H Q I h;refine wpAny_Call_Name_kw (jft I hg hm ?_ hdb);exact PySem.W.callWith_K0 I.kIn hk (jjv (us:=[]) F hr hb I .nil h)
end
section
variable {T:Tab}{G:Calls}{U:Nat->Nat->Bool}{Z:Kn}{m:Nat}{X:Cx}{sc:List (Str×NameKind)}{B:Bs}
theorem jlC (D:XD T G U Z m X sc)(hq:T.quiet=false){f:Str}{k:Nat}{fl:List Bool}{p pos:Pos}{args:List Expr}{es:List E}(hf:knd sc f=2)(hb:jd9 f=false)(hk:jdy T.defs f=some k)
  (h:Paired (fun e E'=>PE X e (tE Z X B (evE G U E'))/\∀a p,e≠.Starred a p) args es):PE X (.Call (.Name f p) args [] pos) (tE Z X B (evE G U (.call k fl (jgD es)))):=by
 obtain⟨fa,fd,ps,hm,hkp,hbd,hF⟩:=D.defs k f (jaI hk);have key:∀σ H Q,tE Z X B (evE G U (.call k fl (jgD es))) σ H Q->jju X (spD Z G k) (tAs Z X B (evAs G U (jgD es))) σ H Q:=by
  intro σ H Q hz1;obtain⟨F,ρ,r,q⟩:=hz1;simp only[evE]at q;refine⟨F,ρ,r,q.bind.imp (fun _ w=>w) fun p1 h1 vs F1 H1 g1 r1 w1=>?_⟩;obtain⟨pp,hp,h2⟩:=h1.bind.pure fun c=>jc6;obtain⟨sls,back,ρ2⟩:=pp;obtain⟨F2,g2,r2,k2,s2,p2,n2,_,_,_⟩:=jfL w1 r1 g1 r1 Keep.refl (fun _ _ _ _ h=>h) hp;have rs:=jn0 r1 r2 p2 n2;refine⟨jc8 H1 sls vs,F2,sls,rs,rfl,jfM,h2.bind.imp (fun c w C H' hC hH pins s' ea I' fly=>?_) fun rr h3 v F' H' hns gc rc rv=>?_⟩
  ·exact w pins H' s' ea C hC I' (Stl.go g1 (jlA p2 hH)) fly
  ·obtain⟨a,b,c⟩:=jn1 g1 r1 g2 r2 s2 p2 gc rc rs;exact h3 v F' H' a b (c _ _ hns rv)
 have hns:∀e∈args,∀a p,e≠.Starred a p:=by
  clear key;induction h with
  |nil=>intro e he;simp at he
  |cons h1 _ ih=>
   intro e he;rcases List.mem_cons.mp he with rfl | he
   ·exact h1.2
   ·exact ih e he
 have hpa:=jnZ h;cases args with
 |nil=>
  cases h;refine PE.imp (jjw hF (D.room hq) (D.gl hf) hm hkp hbd (jfq hb).1) fun σ H Q q=>?_;obtain⟨F,ρ,r,z⟩:=key σ H Q q;simp only[jgD,evAs]at z;exact z [] F H Go.refl r .nil
 |cons e es'=>
  exact PE.imp (jlB hF (D.room hq) (D.gl hf) hm hkp hbd hpa (jfq hb).1 (jad (hns e jtJ)) (jea (jcN fun x hx=>hns x (jtI _ hx)))) key
theorem jn2 {e:Expr}{d:D}{v:V}(h:PE X e (tC v))(hr:∀F H,Rep Z F H d v):PE X e (tE Z X B (evE G U (.lit d))):=by
 refine PE.imp h fun σ H Q q=>?_;obtain⟨F,ρ,r,q⟩:=q;simp only[evE]at q;exact q v F H Go.refl r (hr F H)
theorem jlD (D:XD T G U Z m X sc){x:Str}{pos:Pos}{i:Nat}(hk:knd sc x=1)(hi:X.N[i]?=some x)(hb:jd9 x=false):PE X (.Name x pos) (tE Z X B (evE G U (.var i))):=by
 refine PE.imp (jgh (X:=X) (pos:=pos) hi (D.vis hk) (jfq hb).1 (jlx hb)) fun σ H Q q=>?_;obtain⟨F,ρ,r,q⟩:=q;simp only[evE]at q;split at q
 ·rename_i d e;obtain⟨v,e1,e2⟩:=r.dat i d e;exact⟨v,e1,q v F H Go.refl r e2⟩
 ·rename_i o f k e;obtain⟨l,e1,_⟩:=r.own i o f k e;exact⟨_,e1,q _ F H Go.refl r e1⟩
 ·exact False.elim q
theorem jn3 {es:List Expr}{Es':List E}{k:Nat}{pos:Pos}(h:Paired (fun e E'=>PE X e (tE Z X B (evE G U E'))/\∀a p,e≠.Starred a p) es Es'):PE X (.Tuple es k pos) (tE Z X B (evE G U (.tup (jgD Es')))):=by
 refine PE.imp (jmA (jjs h)) fun σ H Q hzz=>?_;obtain⟨F,ρ,r,z⟩:=hzz;simp only[evE]at z;refine⟨F,ρ,r,z.bind.imp (fun _ w=>w) fun p h1 vs F' H' g r' rs=>?_⟩;split at h1
 ·rename_i hf;exact⟨by rw[<-rs.length];exact jaH hf,(Post.toV h1 g r' (fun _ z=>by cases z)).tup r'.dom rs⟩
 ·exact False.elim h1
theorem jn4 {es:List Expr}{Es':List E}{pos:Pos}(h:Paired (fun e E'=>PE X e (tE Z X B (evE G U E'))/\∀a p,e≠.Starred a p) es Es'):PE X (.List es pos) (tE Z X B (evE G U (.lst (jgD Es')))):=by
 refine PE.imp (jpN (jjs h)) fun σ H Q hzz=>?_;obtain⟨F,ρ,r,z⟩:=hzz;simp only[evE]at z;refine⟨F,ρ,r,z.bind.imp (fun _ w=>w) fun p h1 vs F' H' g r' rs=>?_⟩;split at h1
 ·rename_i hf;exact⟨by rw[<-rs.length];exact jaH hf,(Post.toV h1 g r' (fun _ z=>by cases z)).lst r'.dom rs⟩
 ·exact False.elim h1
theorem jn5 {pos:Pos}:PE X (.Dict [] [] pos) (tE Z X B (evE G U .emp)):=by
 refine PE.imp jkX fun σ H Q hzz=>?_;obtain⟨F,ρ,r,z⟩:=hzz;simp only[evE]at z;intro p hp;have ex:=Ext.newO (o:=.dT [] 0) r.dom hp;refine z _ _ _ ex.go (r.ext ex) ⟨p,rfl,fun q=>?_,fun q=>?_,hp,[],[],[],⟨_,jah⟩,.nil,.nil,rfl,.nil,rfl,.nil,Nat.zero_le _⟩
 ·obtain⟨o,e⟩:=r.dom p q;rw[hp]at e;cases e
 ·obtain⟨o,e⟩:=r.there q;rw[hp]at e;cases e
end
theorem jmM {Z:Kn}{F:Addr->Prop}{H:Hp}{ds:List D}{vs:List V}{i:Int}{d:D}(r:Reps Z F H ds vs)(h:atI ds i=.ok d):∃v,L2.atI vs i=some v/\Rep Z F H d v:=by
 have hl:=r.length;unfold atI at h;unfold L2.atI ixN;split at h
 ·rename_i h0;split at h
  ·rename_i d' e;cases h;obtain⟨v,e1,e2⟩:=r.get e;have hlt:=(List.getElem?_eq_some_iff.mp e1).1;refine⟨v,?_,e2⟩;rw[if_pos h0,if_pos @0]
   exact e1
  ·cases h
 ·rename_i h0;split at h
  ·rename_i h1;split at h
   ·rename_i d' e;cases h;obtain⟨v,e1,e2⟩:=r.get e;refine⟨v,?_,e2⟩;rw[if_neg h0,if_pos @0]
    rw[hl]at e1;exact e1
   ·cases h
  ·cases h
theorem jjx {ds:List D}{i:Int}{c:Nat}:atI ds i≠.err c:=by
 intro e;unfold atI at e;split at e <;> (try split at e) <;> (try split at e) <;> cases e
theorem jn6 {x:Str}{i:Int}{c:Nat}:atC x i≠.err c:=by
 intro e;unfold atC at e;split at e
 ·split at e <;> cases e
 ·cases e
theorem jqu {x:Str}{i:Int}{d:D}(h:atC x i=.ok d):∃c,d=.str ⟨#[c]⟩/\x.length<=sizeLine/\L2.atI x.cps.toList i=some c:=by
 unfold atC at h;split at h
 ·rename_i hf;have hl:x.cps.toList.length=x.length:=by simp[Str.length]
  split at h
  ·rename_i c e;cases h;refine⟨c,rfl,jaH hf,?_⟩;unfold L2.atI ixN;rw[hl];by_cases h0:0<=i
   ·rw[if_pos h0]at e;have hlt:=(List.getElem?_eq_some_iff.mp e).1;rw[if_pos h0,if_pos @0]
    exact e
   ·rw[if_neg h0]at e;split at e
    ·rename_i h1;rw[if_neg h0,if_pos @0]
     exact e
    ·cases e
  ·cases h
 ·cases h
theorem jlE {x y:D}{c:Nat}:jht x y≠.err c:=by
 intro e;unfold jht at e;split at e
 ·exact jjx e
 ·exact jjx e
 ·exact jn6 e
 ·unfold jpg at e;split at e
  ·split at e <;> cases e
  ·cases e
 ·cases e
theorem jjy {Z:Kn}{F:Addr->Prop}{H:Hp}{k:List Key}{d:D}:∀{ks vs:List D}{xs:List (List Key×Addr×Value)}{ws:List V},(ks.map keyD=xs.map fun x=>some x.1)->Reps Z F H vs ws->Vals ws (xs.map (·.2.2))->jmF k ks vs=some d->∃p v,atKey xs k=some p/\Rep Z F H d v/\RelV v p.2
 |[],vs,xs,ws,e,r,hv,g=>by cases g
 |y::ks,vs,xs,ws,e,r,hv,g=>by
  cases xs with
  |nil=>cases e
  |cons p ps=>
   rw[jtO]at hv;cases vs with
   |nil=>cases g
   |cons v0 vs=>
    obtain⟨w0,ws0,rfl,g1,g2⟩:=r.uncons;rw[jtO,jtO]at e;injection e with e1 e2
    cases hv with
    |cons q1 q2=>
     unfold jmF at g;have hk:isK k y=decide (p.1=k):=by
      unfold isK;rw[e1];simp
     unfold atKey;rw[List.find?_cons];by_cases h:p.1=k
     ·rw[hk,if_pos (decide_eq_true h)]at g;cases g;rw[decide_eq_true h];exact⟨p.2,w0,rfl,g1,q1⟩
     ·rw[hk,if_neg (by rw[decide_eq_false h];exact jus)]at g
      rw[decide_eq_false h];exact jjy e2 g2 q2 g
noncomputable def jro (x y:D):R Vl:=(jht x y).bind fun d=>.ok (.dat d)
theorem jr2 {Z:Kn}{X:Cx}(hK:X.K=Z.K)(hu:X.A.units+64<cLine):IxR X (rD2 Z jro):=by
 intro value slice pins s σ H x y v u Q I rx ry h hs;obtain⟨F,dx,dy,w,dm,bx,by_,hg,h⟩:=h;obtain⟨d,e,hg⟩:=R.bind_ok hg;cases hg;by_cases hdc:∃ks vs,dx=.dct ks vs
 ·obtain⟨ks,vs,rfl⟩:=hdc;have e:jpg ks vs (keyD dy)=.ok d:=by cases dy <;> exact e
  unfold jpg at e;split at e
  ·rename_i k ek;split at e
   ·rename_i d' eg;cases e;obtain⟨a,us,ws,xs,rfl,⟨ep,ea⟩,r1,r2,i⟩:=bx.dct;cases rx;have hd':Rep Z F H dy y:=by_.flat (fun o z=>by subst z;cases o <;> cases ek)
    obtain⟨b,rfl⟩:=jd2 ek hd';cases ry;obtain⟨h0,dd⟩:=jgx hK I ea r1 i;obtain⟨p,w,e1,rp,rw'⟩:=jjy i.ks r2 i.ws eg;exact subscriptTail_builtinR (x:=p.2) dd.typeIs PySem.F.slot_dict_getitem.lookup
     (wpAny_getItem_heap (Q:=fun r s'=>r=p.2/\EP X pins σ Q r s') (tupleKind_room_in1 @0) (jeK hK I ek hd') dd e1 ⟨rfl,w,H,I.tok _,rw',h.sc dm rp⟩) hs
   ·cases e
  ·cases e
 refine jpR value slice pins s σ H x y v u Q I rx ry ?_ hs;cases dx with
 |tup ds=>
  cases dy with
  |int i=>
   obtain⟨a,vs,rfl,ft,r⟩:=bx.tup;cases by_.int;obtain⟨w,e1,rp⟩:=jmM r e;exact .inr (.inl ⟨a,vs,i,w,rfl,rfl,(by rw[hK];exact ft.sq),e1,h.sc dm rp⟩)
  |_=>cases e
 |lst ds=>
  cases dy with
  |int i=>
   obtain⟨a,vs,rfl,ft,r⟩:=bx.lst;cases by_.int;obtain⟨w,e1,rp⟩:=jmM r e;exact .inl ⟨a,vs,i,w,rfl,rfl,(by rw[hK];exact ft),e1,h.sc dm rp⟩
  |_=>cases e
 |str z=>
  cases dy with
  |int i=>
   cases bx.str;cases by_.int;obtain⟨c,rfl,e1,e2⟩:=jqu e;exact .inr (.inr ⟨z,i,c,rfl,rfl,e1,e2,h.sc dm (by simp only[Rep])⟩)
  |_=>cases e
 |dct ks vs=>exact absurd ⟨ks,vs,rfl⟩ hdc
 |_=>cases e
theorem jlF {i:Expr}(h:∀a b c d,i≠.Slice a b c d):jiw i:=fun o v=>by
 cases i <;> first | rfl | exact absurd rfl (h _ _ _ _)
theorem jgE (n d:Nat)(o:Option Int):sIx n d o=HT.sIx n d o:=by cases o <;> rfl
theorem jjz {Z:Kn}{F:Addr->Prop}{H:Hp}{ds:List D}{vs:List V}(r:Reps Z F H ds vs)(lo hi:Option Int):Reps Z F H (cut ds lo hi) (jmB vs lo hi):=by
 unfold cut jmB;rw[jgE,jgE,r.length];exact(r.drop _).take _
inductive rD3_I (Z:Kn) (g:D->Option Int->Option Int->R Vl) (x:V) (lo:Option Int) (hi:Option Int) (H:Hp) (Q:VK):Prop
 |mk (F:_) (dx:_) (w:_):(Dom F H)->(RepB Z F H dx x)->(g dx lo hi=.ok w)->(PostV Z F H Q w)->rD3_I Z g x lo hi H Q
noncomputable def rD3 (Z:Kn)(g:D->Option Int->Option Int->R Vl):V->Option Int->Option Int->Hp->VK->Prop:=fun x lo hi H Q=>rD3_I Z g x lo hi H Q
theorem jr3 {Z:Kn}{X:Cx}(hK:X.K=Z.K):SlR X (rD3 Z jiZ):=by
 intro pins s σ H x v vl vu lo hi sl Q I rx hs pl pu h;obtain⟨F,dx,w,dm,bx,hg,h⟩:=h;refine(sl_tup.or (sl_tupW.or jnn)) pins s σ H x v vl vu lo hi sl Q I rx hs pl pu ?_;cases dx with
 |tup ds=>
  cases hg;obtain⟨a,vs,rfl,ft,r⟩:=bx.tup;by_cases hw:HT.sIx vs.length 0 lo=0/\HT.sIx vs.length vs.length hi=vs.length
  ·refine .inr (.inl ⟨a,vs,rfl,(by rw[hK];exact ft.sq),hw,?_⟩)
   have e:cut ds lo hi=ds:=by
    unfold cut;rw[jgE,jgE,r.length,hw.1,hw.2,<-r.length];simp
   rw[e]at h;exact h.tupOld dm ft r
  ·exact .inl ⟨a,vs,rfl,(by rw[hK];exact ft.sq),hw,h.tup dm (jjz r lo hi)⟩
 |lst ds=>
  cases hg;obtain⟨a,vs,rfl,ft,r⟩:=bx.lst;exact .inr (.inr ⟨a,vs,rfl,(by rw[hK];exact ft),h.lst dm (jjz r lo hi)⟩)
 |_=>cases hg
inductive tO_I (Z:Kn) (X:Cx) (B:Bs) (f:Rho->R (Option Int×Rho)) (σ:L2.St) (H:L2.Hp) (Q:(Option Int->L2.Hp->Prop)):Prop
 |mk (F:_) (ρ:_):(SR Z B F H σ ρ)->(Ok (XW Z X σ ρ H) (f ρ) fun o=>∀F' H',Go σ ρ F H σ o.2 F' H'->SR Z B F' H' σ o.2->Q o.1 H')->tO_I Z X B f σ H Q
noncomputable def tO (Z:Kn)(X:Cx)(B:Bs)(f:Rho->R (Option Int×Rho)):TO:=fun σ H Q=>tO_I Z X B f σ H Q
section
variable {G:Calls}{U:Nat->Nat->Bool}{Z:Kn}{X:Cx}{B:Bs}
theorem jqv:PO X none (tO Z X B (evO G U .none)):=PO.imp jnk fun σ H Q ⟨F,ρ,r,q⟩=>by
 simp only[evO]at q;exact q F H Go.refl r
theorem jqw {e:Expr}{E':E}(h:PE X e (tE Z X B (evE G U E'))):PO X (some e) (tO Z X B (evO G U (.some E'))):=PO.imp (jnl h) fun σ H Q ⟨F,ρ,r,q⟩=>by
 simp only[evO]at q;refine⟨F,ρ,r,q.bind.imp (fun _ w=>w) fun p h1 v F' H' g r' rp=>?_⟩;obtain⟨w,ρ'⟩:=p;cases w with
 |dat d=>
  cases d with
  |int i=>
   have rp:Rep Z F' H' (.int i) v:=rp;simp only[Rep]at rp;exact⟨i,rp,h1 F' H' g r'⟩
  |_=>exact False.elim h1
 |_=>exact False.elim h1
theorem jlG {x:D}{l h:Option Int}{c:Nat}:jiZ x l h≠.err c:=by cases x <;> (intro z;first | cases z | (simp only[jiZ]at z;split at z <;> cases z))
theorem jjA {x:D}{l h:Option Int}{i:Nat}:jiZ x l h≠.ok (.slot i):=by cases x <;> (intro z;first | cases z | (simp only[jiZ]at z;split at z <;> cases z))
theorem tE.slice {σ:L2.St}{H:Hp}{Q:VK}{fa:Rho->R (Vl×Rho)}{fl fh:Rho->R (Option Int×Rho)}(h:tE Z X B (fun ρ=>(fa ρ).bind fun p=>(fl p.2).bind fun l=>(fh l.2).bind fun h=>(deref p.1 h.2).bind fun x=>(jiZ x l.1 h.1).bind fun v=>.ok (v,h.2)) σ H Q):tSl (rD3 Z jiZ) (tE Z X B fa) (tO Z X B fl) (tO Z X B fh) σ H Q:=by
 obtain⟨F,ρ,r,h⟩:=h;refine⟨F,ρ,r,h.bind.imp (fun _ w=>w) fun p h1 v F1 H1 g1 r1 rp=>⟨F1,p.2,r1,h1.bind.imp (fun c w=>w.mono g1) fun l h2 F2 H2 g2 r2=>⟨F2,l.2,r2,h2.bind.imp (fun c w=>w.mono (g1.trans g2)) fun u h3 F3 H3 g3 r3=>?_⟩⟩⟩;obtain⟨x,ex,h4⟩:=h3.bind.pure fun c=>jaE;obtain⟨w,ew,h5⟩:=h4.bind.pure fun c=>jlG;exact⟨F3,x,w,r3.dom,jaZ (rp.go r1 (g2.trans g3)) r3 ex,ew,Post.toV h5 ((g1.trans g2).trans g3) r3 fun i z=>jjA (by rw[ew,z])⟩
end
end DJ
namespace DJ
open PySem PySem.Spec PyProof.Rows L2
section
variable {Z:Kn}{X:Cx}{B:Bs}{σ σ':L2.St}{ρ ρ':Rho}{F F':Addr->Prop}{H H':Hp}
theorem Go.newW (g:Go σ ρ F H σ' ρ' F' H'){p:Addr}{u:HO}(hn:H p=none):Go σ ρ F H σ' ρ' F' (upd H' p u):=by
 refine⟨fun b o h n=>?_,g.sub,g.new,g.ow,fun b o h=>?_⟩
 ·rw[jac (jab h hn)];exact g.stay b o h n
 ·rw[jac (jab h hn)];exact g.there b o h
inductive tDis (Z:Kn) (tk tv:TE) (σ:L2.St) (H:Hp) (Q:VK):Prop
 |mk:(∀p,H p=none->tk σ (upd H p (.dT [] 0)) fun x H1=>tv σ H1 fun y H2=>H2 p=some (.dT [] 0)/\∃F b kd key,x=.ref b/\keyD kd=some key/\Rep Z F H2 kd (.ref b)/\∀r ep,RelV y r->Q (.ref p) (upd H2 p (.dT [(key,b,r)] ep)))->tDis Z tk tv σ H Q
theorem jqx (hK:X.K=Z.K)(hu:X.A.units+64<cLine){k v:Expr}{tk tv:TE}{pos:Pos}(hk:PE X k tk)(hv:PE X v tv):PE X (.Dict [some k] [v] pos) (tDis Z tk tv):=by
 intro pins s σ H Q I h;obtain⟨h⟩:=h;have hn:=I.hok.fresh (jul s.heap.objs.size);have I1:=I.laid (a:=s.heap.objs.size) (o:=.dT [] 0) (h':=s.heap.push { cls:=.type "dict",data:=.dict #[] }) (t':=s.toks) (fun _ _ q=>jug _ q) (jul _) (jgj s.heap I.big);refine wpAny_Dict_any rfl rfl @11 (by show 1<=15;omega) (pairTrees_cons_walk (thn (hk pins _ σ _ _ I1 (h _ hn)) fun u s1 hzz=>?_))
 obtain⟨x,H1,I2,rx,q1⟩:=hzz;refine thn (hv pins s1 σ H1 _ I2 q1) fun w2 s2 hzz=>?_;obtain⟨y,H2,I3,ry,e,F,b,kd,key,rfl,ek,rk,q2⟩:=hzz;cases rx;refine pairTrees_nil_walk ?_;obtain⟨h0,dd⟩:=jgx (F:=F) (ks:=[]) (us:=[]) (ws:=[]) hK I3 e .nil ⟨rfl,.nil,rfl,.nil,Nat.zero_le _⟩;unfold storeAll;rw[List.forIn_cons];refine jt8 (jt8 (wpAny_dictSet_heap (hsz:=Nat.zero_le _) (show X.A.units<cLine by omega) (jeK hK I3 ek rk) dd fun h' dd' hs=>jt9 ?_))
 show wpAny _ _ (forIn [] _ _) _ _ _;rw[List.forIn_nil];obtain⟨q0,es,ep,hq,g2,g3,g4,_,g5⟩:=dd';exact jt9 ⟨.ref s.heap.objs.size,_,I3.write (x:=s.heap.objs.size) (e:=s.heap.objs.size) (o:=.dT [(key,b,w2)] ep) (by rw[e];exact True.intro) (.inl rfl) (fun b q hb z=>(hs.2 b hb).trans z) ⟨q0,hq⟩ ⟨h0,q0,es,hq,g2,g3,g4⟩,rfl,q2 w2 ep ry⟩
variable {G:Calls}{U:Nat->Nat->Bool}
theorem jn7 (hK:X.K=Z.K)(hu:X.A.units+64<cLine){k v:Expr}{Ek Ev:E}{pos:Pos}(hk:PE X k (tE Z X B (evE G U Ek)))(hv:PE X v (tE Z X B (evE G U Ev))):PE X (.Dict [some k] [v] pos) (tE Z X B (evE G U (.dis Ek Ev))):=by
 refine PE.imp (jqx hK hu hk hv) fun σ H Q hzz=>?_;obtain⟨F,ρ,r,z⟩:=hzz;simp only[evE]at z;refine⟨fun p hp=>?_⟩;have ex:=Ext.newO (o:=.dT [] 0) r.dom hp;have nF:¬F p:=fun q=>by
  obtain⟨o,e⟩:=r.dom p q;rw[hp]at e;cases e
 have nO:¬Ow σ ρ p:=fun q=>by
  obtain⟨o,e⟩:=r.there q;rw[hp]at e;cases e
 refine⟨F,ρ,r.ext ex,z.bind.imp (fun c w=>w.mono (F:=F) ex.go) fun pk h1 x F2 H2 g2 r2 rx=>?_⟩;obtain⟨a,ha,h2⟩:=h1.bind.pure fun c=>jbs;obtain⟨F3,g3,r3,ra,_⟩:=jcy rx r2 g2 ha;refine⟨F3,a.2,r3,h2.bind.imp (fun c w=>w.mono (F:=F) (ex.go.trans g3)) fun pv h3 y F4 H4 g4 r4 ry=>?_⟩;obtain⟨b,hb,h4⟩:=h3.bind.pure fun c=>jbs;obtain⟨F5,g5,r5,rb,_⟩:=jcy ry r4 g4 hb;obtain⟨s1,s2,s3⟩:=(g3.trans g5).side (jah:upd H p (.dT [] 0) p=some _) nF nO;split at h4
 ·rename_i hs;obtain⟨key,ek⟩:=Option.isSome_iff_exists.mp hs;obtain⟨c,rfl⟩:=jd2 ek ra;have ra':=ra.mono (g5.keep r3);refine⟨s1,F5,c,a.1,key,rfl,ek,ra',fun rr ep ru=>?_⟩;obtain⟨kp,sr⟩:=r5.oth (u:=.dT [(key,c,rr)] ep) s2 s3;have hz:(1:Nat)<=sizeLine:=by rw[sizeLine_eq];omega
  refine h4 (.ref p) F5 _ (((ex.go (F:=F)).trans (g3.trans g5)).newW hp) sr ⟨p,rfl,s2,s3,hp,[.ref c],[y],[(key,c,rr)],⟨_,jah⟩,.one (ra'.mono kp),.one (rb.mono kp),⟨rfl,.cons ru .nil,by simp[ek],by simp,hz⟩⟩
 ·exact False.elim h4
end
end DJ
namespace DJ
open PySem PySem.Spec PyProof.Rows L2
section
variable {Z:Kn}{B:Bs}{F F1 F2:Addr->Prop}{H H0 H1 H2:Hp}{σ σ1 σ2:L2.St}{ρ ρ1 ρ2:Rho}
theorem jeb:∀{lk:List Nat}{ρ:Rho}{j:Nat}{o:O}{f k:Bool},(unlk lk ρ)[j]?=some (.own o f k)->ρ[j]?=some (.own o f k)\/(j∈lk/\k=false/\∃k',ρ[j]?=some (.own o f k'))
 |[],_,_,_,_,_,h=>.inl h
 |i::r,ρ,j,o,f,k,h=>by
  simp only[unlk]at h;have one:∀{k1:Bool},(match ρ[i]? with | some (.own o f _)=>ρ.set i (.own o f false) | _=>ρ)[j]?=some (.own o f k1)->ρ[j]?=some (.own o f k1)\/(j=i/\k1=false/\∃k',ρ[j]?=some (.own o f k')):=fun {k1} h=>by
   split at h
   ·rename_i o' f' k' e;rw[jtM]at h;by_cases hij:i=j
    ·subst hij;rw[if_pos rfl]at h;split at h
     ·cases h;exact .inr ⟨rfl,rfl,k',e⟩
     ·cases h
    ·rw[if_neg hij]at h;exact .inl h
   ·exact .inl h
  rcases jeb h with h | ⟨h1,h2,k',h3⟩
  ·rcases one h with h | ⟨h1,h2,h3⟩
   ·exact .inl h
   ·exact .inr ⟨by simp[h1],h2,h3⟩
  ·rcases one h3 with h3 | ⟨_,_,h3⟩
   ·exact .inr ⟨jtI _ h1,h2,k',h3⟩
   ·exact .inr ⟨jtI _ h1,h2,h3⟩
theorem SR.unlk:∀{lk:List Nat}{ρ:Rho},SR Z B F H σ ρ->SR Z B F H σ (unlk lk ρ)
 |[],_,r=>r
 |i::lk,ρ,r=>by
  simp only[DJ.unlk];refine SR.unlk (lk:=lk) ?_;split
  ·rename_i o f k e;exact r.lock e false
  ·exact r
theorem Ow.unlk {lk:List Nat}{b:Addr}(h:Ow σ (unlk lk ρ) b):Ow σ ρ b:=by
 obtain⟨i,o,f,k,h1,h2⟩:=h;rcases jeb h1 with h | ⟨_,_,k',h⟩
 ·exact⟨i,o,f,k,h,h2⟩
 ·exact⟨i,o,f,k',h,h2⟩
theorem Go.unlk {lk:List Nat}(g:Go σ ρ F H σ2 ρ2 F2 H2)(hl:∀i∈lk,∃o f,ρ[i]?=some (.own o f false)):Go σ ρ F H σ2 (unlk lk ρ2) F2 H2:=by
 refine⟨g.stay,g.sub,g.new,fun j o f k b h1 h2=>?_,g.there⟩;rcases jeb h1 with h | ⟨hj,hk,k',h⟩
 ·exact g.ow j o f k b h h2
 ·rcases g.ow j o f k' b h h2 with ⟨o0,k0,a,c,d⟩ | q
  ·obtain⟨o1,f1,e⟩:=hl j hj;rw[a]at e;cases e;exact .inl ⟨o0,false,a,c,fun z=>by cases z⟩
  ·exact .inr q
structure Wlk (Z:Kn)(B:Bs)(F:Addr->Prop)(H:Hp)(σ:L2.St)(ρ ρ2:Rho)(v:V)(xs:List D)(lk:List Nat)(ls:List Addr)(b:Bool)(a:Addr)(vs:List V):Prop where
 eq:v=.ref a
 sq:SqB Z.K b H a vs
 rp:Reps Z F H xs vs
 sr:SR Z B F H σ ρ2
 go:Go σ ρ F H σ ρ2 F H
 on:∀l∈ls,(∃o,H l=some o)/\¬Mb σ ρ2 l
 lk:∀i∈lk,∃o f,ρ[i]?=some (.own o f false)
 up:∀(i:Nat) o f,ρ2[i]?=some (.own o f false)->ρ[i]?=some (.own o f false)
 good:∀F' H',GK F H ls F' H'->SqB Z.K b H' a vs/\Reps Z F' H' xs vs
theorem SR.notMb (r:SR Z B F H σ ρ){i:Nat}{o:O}{f:Bool}{l:Addr}(e:ρ[i]?=some (.own o f true))(hl:σ[i]?=some (some (.ref l))):¬Mb σ ρ l:=by
 rintro⟨j,o',f',h1,h2⟩;by_cases hij:i=j
 ·subst hij;rw[e]at h1;cases h1
 ·exact r.one i j _ _ _ _ _ _ l hij e h1 hl h2
theorem jcg {w:Vl}{v:V}{xs:List D}{lk:List Nat}(h:RV Z F H0 H σ ρ w v)(r:SR Z B F H σ ρ)(hi:jan w ρ=.ok (xs,lk,ρ2)):∃ls b a vs,Wlk Z B F H σ ρ ρ2 v xs lk ls b a vs:=by
 cases w with
 |dat d=>
  obtain⟨ys,hs,hi⟩:=R.bind_ok hi;cases hi;have h:Rep Z F H d v:=h;cases d with
  |tup ds=>
   cases hs;simp only[Rep]at h;obtain⟨a,vs,rfl,ft,rs⟩:=h;exact⟨[],false,a,vs,rfl,.inr ⟨rfl,ft.sq⟩,rs,r,Go.refl,fun _ z=>absurd z @11,fun _ z=>absurd z @11,fun _ _ _ h=>h,fun F' H' g=>⟨.inr ⟨rfl,(ft.keep g.keep).sq⟩,rs.mono g.keep⟩⟩
  |lst ds=>
   cases hs;simp only[Rep]at h;obtain⟨a,vs,rfl,ft,rs⟩:=h;exact⟨[],true,a,vs,rfl,.inl ⟨rfl,ft.sq⟩,rs,r,Go.refl,fun _ z=>absurd z @11,fun _ z=>absurd z @11,fun _ _ _ h=>h,fun F' H' g=>⟨.inl ⟨rfl,(ft.keep g.keep).sq⟩,rs.mono g.keep⟩⟩
  |_=>cases hs
 |tmp o=>
  cases o with
  |l ys=>
   cases hi;obtain⟨l,rfl,h1,h2,h3,us,h4,h5⟩:=h;refine⟨[l],true,l,us,rfl,.inl ⟨rfl,SqL.of h4⟩,h5,r,Go.refl,fun l' z=>?_,fun _ z=>absurd z @11,fun _ _ _ h=>h,fun F' H' g=>⟨.inl ⟨rfl,SqL.of ((g.ls l @11).trans h4)⟩,h5.mono g.keep⟩⟩
   have e:l'=l:=by simpa using z
   subst e;exact⟨⟨_,h4⟩,fun m=>h2 m.ow⟩
  |d ks vs=>cases hi
 |slot i=>
  have h:σ[i]?=some (some v):=h;simp only[jan]at hi;split at hi
  ·rename_i ys f e;cases hi;obtain⟨l,e1,e2,⟨us,h4,h5⟩,_⟩:=r.own i _ _ _ e;rw[h]at e1;cases e1;refine⟨[l],true,l,us,rfl,.inl ⟨rfl,SqL.of h4⟩,h5,r,Go.refl,fun l' z=>?_,fun _ z=>absurd z @11,fun _ _ _ h=>h,fun F' H' g=>⟨.inl ⟨rfl,SqL.of ((g.ls l @11).trans h4)⟩,h5.mono g.keep⟩⟩
   have q:l'=l:=by simpa using z
   subst q;exact⟨⟨_,h4⟩,r.notMb e h⟩
  ·rename_i ys f e;cases hi;obtain⟨l,e1,e2,⟨us,h4,h5⟩,_⟩:=r.own i _ _ _ e;rw[h]at e1;cases e1;have hlt:i<ρ.length:=(List.getElem?_eq_some_iff.mp e).1;have r2:=r.lock e true;refine⟨[l],true,l,us,rfl,.inl ⟨rfl,SqL.of h4⟩,h5,r2,Go.lock e,fun l' z=>?_,fun j z=>?_,fun j o f' hj=>?_,fun F' H' g=>⟨.inl ⟨rfl,SqL.of ((g.ls l @11).trans h4)⟩,h5.mono g.keep⟩⟩
   ·have q:l'=l:=by simpa using z
    subst q;exact⟨⟨_,h4⟩,r2.notMb (List.getElem?_set_self hlt) h⟩
   ·have q:j=i:=by simpa using z
    subst q;exact⟨_,_,e⟩
   ·rw[jtM]at hj;split at hj
    ·(first | cases hj | (split at hj <;> cases hj))
    ·exact hj
  ·cases hi
theorem jbT {w:Vl}{c:Nat}:jan w ρ≠.err c:=by
 cases w with
 |dat d=>cases d <;> (intro z;cases z)
 |tmp o=>cases o <;> (intro z;cases z)
 |slot i=>
  simp only[jan];split <;> (intro z;cases z)
end
structure WlkD (Z:Kn)(B:Bs)(F:Addr->Prop)(H:Hp)(σ:L2.St)(ρ ρ2:Rho)(v:V)(ks:List D)(lk:List Nat)(ls:List Addr)(a:Addr)(xs:List (List Key×Addr×Value))(ep:Nat):Prop where
 eq:v=.ref a
 sq:H a=some (.dT xs ep)
 len:ks.length<=sizeLine
 sr:SR Z B F H σ ρ2
 go:Go σ ρ F H σ ρ2 F H
 on:∀l∈ls,(∃o,H l=some o)/\¬Mb σ ρ2 l
 lk:∀i∈lk,∃o f,ρ[i]?=some (.own o f false)
 good:∀F' H',GK F H ls F' H'->H' a=some (.dT xs ep)/\Reps Z F' H' ks (xs.map fun x=>V.ref x.2.1)
theorem jjB {ks:List D}{us ws:List V}{xs:List (List Key×Addr×Value)}(r:Reps Z F H ks us)(i:DicI ks xs us ws):ks.length<=sizeLine:=by
 rw[r.length,i.us,jtQ];exact i.sz
theorem jlH {ks vs:List D}{v:V}(h:Rep Z F H (.dct ks vs) v)(r:SR Z B F H σ ρ):∃ls a xs ep,WlkD Z B F H σ ρ ρ v ks [] ls a xs ep:=by
 simp only[Rep]at h;obtain⟨a,us,ws,xs,rfl,hF,⟨ep,e⟩,r1,r2,i⟩:=h;refine⟨[],a,xs,ep,rfl,e,jjB r1 i,r,Go.refl,fun _ z=>absurd z @11,fun _ z=>absurd z @11,fun F' H' g=>⟨(g.keep a hF).2.trans e,?_⟩⟩
 rw[<-i.us];exact r1.mono g.keep
theorem jec {ks vs:List D}{l:Addr}{ρ2:Rho}{lk:List Nat}(h:HasO Z F H l (.d ks vs))(r2:SR Z B F H σ ρ2)(g:Go σ ρ F H σ ρ2 F H)(hm:¬Mb σ ρ2 l)(hl:∀i∈lk,∃o f,ρ[i]?=some (.own o f false)):∃ls a xs ep,WlkD Z B F H σ ρ ρ2 (.ref l) ks lk ls a xs ep:=by
 obtain⟨us,ws,xs,⟨ep,e⟩,r1,r3,i⟩:=h;refine⟨[l],l,xs,ep,rfl,e,jjB r1 i,r2,g,fun l' z=>?_,hl,fun F' H' g=>⟨(g.ls l @11).trans e,?_⟩⟩
 ·have q:l'=l:=by simpa using z
  subst q;exact⟨⟨_,e⟩,hm⟩
 ·rw[<-i.us];exact r1.mono g.keep
structure ItR (Z:Kn)(B:Bs)(σ:L2.St)(ρ:Rho)(F:Addr->Prop)(H:Hp)(ρ1:Rho)(F1:Addr->Prop)(H1:Hp)(lk:List Nat)(ls:List Addr):Prop where
 go:Go σ ρ F H σ ρ1 F1 H1
 sr:SR Z B F1 H1 σ ρ1
 un:∀σ2 ρ2 F2 H2,Go σ ρ1 F1 H1 σ2 ρ2 F2 H2->Go σ ρ F H σ2 (unlk lk ρ2) F2 H2
 on:∀l∈ls,(∃o,H1 l=some o)/\¬Mb σ ρ1 l
inductive tI_I (Z:Kn) (X:Cx) (B:Bs) (f:Rho->R (List D×List Nat×Rho)) (σ:L2.St) (H:L2.Hp) (R:(L2.It->L2.Hp->Prop)):Prop
 |mk (F:_) (ρ:_):(SR Z B F H σ ρ)->(Ok (XW Z X σ ρ H) (f ρ) fun t=>∀F' H' J ls,ItR Z B σ ρ F H t.2.2 F' H' t.2.1 ls->ItmG Z (GK F' H' ls) J t.1->R J H')->tI_I Z X B f σ H R
noncomputable def tI (Z:Kn)(X:Cx)(B:Bs)(f:Rho->R (List D×List Nat×Rho)):TI:=fun σ H R=>tI_I Z X B f σ H R
theorem jqy {X:Cx}{tg:Expr}{pins:List (Addr×Obj)}{σ:L2.St}{H1:Hp}{s1:Shared}{R:L2.It->Hp->Prop}{a:Addr}(I1:Inv X pins σ H1 s1)(q1:(∃xs,SqL X.K H1 a xs/\(xs.length<=sizeLine->R (Itl X.K a) H1))\/(∃xs,SqT X.K H1 a xs/\(xs.length<=sizeLine->R (Itt X.K a) H1))) :
  wpAny @4 X.A (pyIter (.ref a)) (PIE X pins σ tg R) X.xe s1:=by
 rcases q1 with ⟨xs,hq,q⟩ | ⟨xs,hq,q⟩
 ·obtain⟨its,rv,p,hz⟩:=I1.list hq;refine wpAny_pyIter_list p.isList ⟨s1.heap.objs.size,[s1.heap.objs.size],_,_,H1,rfl,I1.kept (t':=s1.toks) fun b o e=>jug _ e,jio a _,⟨_,jui _ rfl,rfl,rfl⟩,fun b hb=>?_,q hz⟩;obtain rfl:b=s1.heap.objs.size:=by simpa using hb
  exact I1.fpOk (jul _) (I1.hok.fresh (jul _))
 ·obtain⟨its,rv,p,hz⟩:=I1.tuple hq;refine wpAny_pyIter_tuple (show s1.heap.IsTuple a its.toArray from p) ⟨s1.heap.objs.size,[s1.heap.objs.size],_,_,H1,rfl,I1.kept (t':=s1.toks) fun b o e=>jug _ e,jhb a _,⟨_,jui _ rfl,rfl,rfl⟩,fun b hb=>?_,q hz⟩;obtain rfl:b=s1.heap.objs.size:=by simpa using hb
  exact I1.fpOk (jul _) (I1.hok.fresh (jul _))
inductive iX (K:Frag) (R:L2.It->Hp->Prop) (x:V) (H1:Hp):Prop
 |dk (a:Addr) (xs:List (List Key×Addr×Value)) (ep:Nat):x=.ref a->H1 a=some (.dT xs ep)->R (Itk a xs ep) H1->iX K R x H1
 |sq (a:Addr):x=.ref a->((∃xs,SqL K H1 a xs/\(xs.length<=sizeLine->R (Itl K a) H1))\/(∃xs,SqT K H1 a xs/\(xs.length<=sizeLine->R (Itt K a) H1)))->iX K R x H1
noncomputable def jr4 (K:Frag)(tl:TE):TI:=fun σ H R=>tl σ H fun x H1=>iX K R x H1
theorem jn8 {X:Cx}{tg l:Expr}{tl:TE}(hl:PE X l tl):PI X tg l (jr4 X.K tl):=by
 intro pins s σ H R I h;refine thn (hl pins s σ H _ I h) fun v s1 hzz=>?_;obtain⟨x,H1,I1,r1,q1⟩:=hzz;have fp:∀b∈[s1.heap.objs.size],FpOk X pins H1 b:=fun b hb=>by
  obtain rfl:b=s1.heap.objs.size:=by simpa using hb
  exact I1.fpOk (jul _) (I1.hok.fresh (jul _))
 cases q1 with
 |dk a xs ep e hq q=>
  subst e;cases r1;obtain⟨h0,o,es,hg,hx,hd,hes⟩:=(show ObjOk X.prog X.w H1 s1.heap a (.dT xs ep)from I1.hok a _ hq);have hsz:es.size=xs.length:=by rw[<-Array.length_toList,hes,jtQ]
  exact HD.k_iter h0 hg hx hd ⟨s1.heap.objs.size,[s1.heap.objs.size],_,_,H1,rfl,I1.kept (t':=s1.toks) fun b o e=>jug _ e,jiU a xs ep,⟨_,jui _ rfl,rfl,by rw[<-hsz]⟩,fp,q⟩
 |sq a e q1=>
  subst e;cases r1;exact jqy I1 q1
theorem jlI {Z:Kn}{G:(Addr->Prop)->Hp->Prop}{a:Addr}{ks:List D}{xs:List (List Key×Addr×Value)}{ep:Nat}(len:ks.length<=sizeLine)(hG:∀F H,G F H->Dom F H->H a=some (.dT xs ep)/\Reps Z F H ks (xs.map fun x=>V.ref x.2.1)):ItmG Z G (Itk a xs ep) ks:=by
 refine⟨len,fun F H g dm=>?_⟩;obtain⟨h1,h2⟩:=hG F H g dm;have hl:=h2.length;rw[jtQ]at hl;refine⟨fun i x hx=>?_,h1,hl⟩;obtain⟨v,e1,e2⟩:=h2.get hx;have hlt:i<xs.length:=by rw[<-hl];exact(List.getElem?_eq_some_iff.mp hx).1
 refine⟨⟨h1,hlt⟩,fun u H2 y=>?_⟩;obtain⟨rfl,y,e3,rfl⟩:=y;rw[jtN,e3]at e1;cases e1;exact⟨F,Ext.refl dm,e2⟩
theorem jn9 {Z:Kn}{G:(Addr->Prop)->Hp->Prop}{b1 b2:Bool}{l1 l2:Addr}{xs ys:List D}{vs us:List V}(len:xs.length<=sizeLine)(hG:∀F H,G F H->Dom F H->(SqB Z.K b1 H l1 vs/\Reps Z F H xs vs)/\SqB Z.K b2 H l2 us/\Reps Z F H ys us):ItmG Z G (Itz Z.K b1 b2 l1 l2) (jeI xs ys):=by
 have hz:∀(xs ys:List D),(jeI xs ys).length=min xs.length ys.length:=by
  intro xs;induction xs with
  |nil=>intro ys;simp[jeI]
  |cons x xs ih=>
   intro ys;cases ys with
   |nil=>simp[jeI]
   |cons y ys=>simp only[jeI,jtR,ih ys];omega
 have hg:∀(xs ys:List D) (i:Nat) (d:D),(jeI xs ys)[i]?=some d->∃a b,xs[i]?=some a/\ys[i]?=some b/\d=.tup [a,b]:=by
  intro xs;induction xs with
  |nil=>intro ys i d h;simp[jeI]at h
  |cons x xs ih=>
   intro ys i d h;cases ys with
   |nil=>simp[jeI]at h
   |cons y ys=>
    simp only[jeI]at h;cases i with
    |zero=>simp at h;exact⟨x,y,rfl,rfl,h.symm⟩
    |succ i=>simpa using ih ys i d (by simpa using h)
 refine⟨by rw[hz];omega,fun F H g dm=>?_⟩
 obtain⟨⟨q1,r1⟩,q2,r2⟩:=hG F H g dm;refine⟨fun i d hd=>?_,⟨vs,us,q1,q2,?_⟩⟩
 ·obtain⟨a,b,ha,hb,rfl⟩:=hg xs ys i d hd;obtain⟨v,e1,p1⟩:=r1.get ha;obtain⟨u,e2,p2⟩:=r2.get hb;refine⟨⟨vs,us,v,u,q1,q2,e1,e2⟩,fun w H2 y=>?_⟩;obtain⟨p,x',y',rfl,hp,rfl,z1,z2⟩:=y;have e3:=z1 vs q1;rw[e1]at e3;cases e3;have e4:=z2 us q2;rw[e2]at e4;cases e4;have ex:=Ext.newF (o:=.tup [v,u]) dm hp;refine⟨_,ex,?_⟩;simp only[Rep];have kp:=ex.keep dm;exact⟨p,[v,u],rfl,.inl ⟨.inr rfl,.inl jah⟩,.cons (p1.mono kp) (.one (p2.mono kp))⟩
 ·rw[hz,<-r1.length,<-r2.length];omega
theorem jgF (xs:List D)(k:Int):(jdx k xs).length=xs.length:=by
 induction xs generalizing k with
 |nil=>rfl
 |cons x xs ih=>simp only[jdx,jtR,ih]
theorem jlJ {xs:List D}{k:Int}{i:Nat}{d:D}(h:(jdx k xs)[i]?=some d):∃a,xs[i]?=some a/\d=.tup [.int (k+i),a]:=by
 induction xs generalizing k i with
 |nil=>cases h
 |cons x xs ih=>
  cases i with
  |zero=>cases h;exact⟨x,rfl,by simp⟩
  |succ i=>
   obtain⟨a,h1,h2⟩:=ih (k:=k+1) (i:=i) h;exact⟨a,h1,by rw[h2,show k+1+(i:Int)=k+((i+1:Nat):Int)by omega]⟩
theorem jlK {Z:Kn}{G:(Addr->Prop)->Hp->Prop}{b:Bool}{l:Addr}{xs:List D}{vs:List V}(len:xs.length<=sizeLine)(hG:∀F H,G F H->Dom F H->SqB Z.K b H l vs/\Reps Z F H xs vs):ItmG Z G (Ite Z.K b l) (jdx 0 xs):=by
 refine⟨by rw[jgF];exact len,fun F H g dm=>?_⟩
 obtain⟨q1,r1⟩:=hG F H g dm;refine⟨fun i d hd=>?_,⟨vs,q1,?_⟩⟩
 ·obtain⟨a,ha,rfl⟩:=jlJ hd;obtain⟨v,e1,p1⟩:=r1.get ha;refine⟨⟨vs,v,q1,e1⟩,fun w H2 y=>?_⟩;obtain⟨p,x',rfl,hp,rfl,z1⟩:=y;have e3:=z1 vs q1;rw[e1]at e3;cases e3;have ex:=Ext.newF (o:=.tup [.int i,v]) dm hp;refine⟨_,ex,?_⟩;simp only[Rep];have kp:=ex.keep dm;exact⟨p,[.int i,v],rfl,.inl ⟨.inr rfl,.inl jah⟩,.cons (by simp only[Rep,Int.zero_add]) (.one (p1.mono kp))⟩
 ·rw[jgF,<-r1.length];omega
section
variable {T:Tab}{G:Calls}{U:Nat->Nat->Bool}{Z:Kn}{m:Nat}{X:Cx}{sc:List (Str×NameKind)}{B:Bs}
theorem ItR.plain {σ:L2.St}{ρ ρ1:Rho}{F F1:Addr->Prop}{H H1:Hp}(g:Go σ ρ F H σ ρ1 F1 H1)(r:SR Z B F1 H1 σ ρ1):ItR Z B σ ρ F H ρ1 F1 H1 [] []:=⟨g,r,fun σ2 ρ2 F2 H2 g2=>g.trans g2,fun _ z=>absurd z @11⟩
theorem jlL (hK:X.K=Z.K){σ:L2.St}{ρ ρ1:Rho}{F F':Addr->Prop}{H H':Hp}{R:L2.It->Hp->Prop}{w:Vl}{v:V}
  (h1:Ok (XW Z X σ ρ H) (jan w ρ1) fun t=>∀F' H' J ls,ItR Z B σ ρ F H t.2.2 F' H' t.2.1 ls->ItmG Z (GK F' H' ls) J t.1->R J H') (g:Go σ ρ F H σ ρ1 F' H') (r':SR Z B F' H' σ ρ1) (rv:RV Z F' H H' σ ρ1 w v) :
  ∃a,v=.ref a/\((∃xs,SqL X.K H' a xs/\(xs.length<=sizeLine->R (Itl X.K a) H'))\/(∃xs,SqT X.K H' a xs/\(xs.length<=sizeLine->R (Itt X.K a) H'))):=by
 obtain⟨t,ht,h2⟩:=h1.pure fun c=>jbT;obtain⟨xs,lk,ρ2⟩:=t;obtain⟨ls,b,a,vs,W⟩:=jcg rv r' ht;have ir:ItR Z B σ ρ F H ρ2 F' H' lk ls:=⟨g.trans W.go,W.sr,fun σ2 ρ3 F3 H3 g3=>g.trans ((W.go.trans g3).unlk W.lk),W.on⟩;refine⟨a,W.eq,?_⟩;rw[hK];rcases W.sq with ⟨rfl,sq⟩ | ⟨rfl,sq⟩
 ·refine .inl ⟨vs,sq,fun hz=>h2 F' H' _ ls ir (jlj (vs:=vs) (by rw[W.rp.length];exact hz) fun F2 H2 gk _=>?_)⟩
  obtain⟨s1,s2⟩:=W.good F2 H2 gk;rcases s1 with ⟨_,s1⟩ | ⟨z,_⟩
  ·exact⟨s1,s2⟩
  ·cases z
 ·refine .inr ⟨vs,sq,fun hz=>h2 F' H' _ ls ir (jnH (vs:=vs) (by rw[W.rp.length];exact hz) fun F2 H2 gk _=>?_)⟩
  obtain⟨s1,s2⟩:=W.good F2 H2 gk;rcases s1 with ⟨z,_⟩ | ⟨_,s1⟩
  ·cases z
  ·exact⟨s1,s2⟩
theorem jch {σ:L2.St}{ρ ρ1 ρ2:Rho}{F F':Addr->Prop}{H H':Hp}{R:L2.It->Hp->Prop}{v:V}{K:Frag}{ks:List D}{lk:List Nat}
  (h1:∀F' H' J ls,ItR Z B σ ρ F H ρ2 F' H' lk ls->ItmG Z (GK F' H' ls) J ks->R J H') (g:Go σ ρ F H σ ρ1 F' H') (h:∃ls a xs ep,WlkD Z B F' H' σ ρ1 ρ2 v ks lk ls a xs ep):iX K R v H':=by
 obtain⟨ls,a,xs,ep,W⟩:=h;refine .dk a xs ep W.eq W.sq (h1 F' H' _ ls ⟨g.trans W.go,W.sr,fun σ2 ρ3 F3 H3 g3=>g.trans ((W.go.trans g3).unlk W.lk),W.on⟩ (jlI W.len fun F2 H2 gk _=>W.good F2 H2 gk))
theorem jqz (hK:X.K=Z.K){tg l:Expr}{f:Rho->R (Vl×Rho)}(hl:PE X l (tE Z X B f)):PI X tg l (tI Z X B fun ρ=>(f ρ).bind fun p=>jaX p.1 p.2):=by
 refine PI.imp (jn8 hl) fun σ H R hzz=>?_;obtain⟨F,ρ,r,q⟩:=hzz;refine⟨F,ρ,r,q.bind.imp (fun _ w=>w) fun p h1 v F' H' g r' rv=>?_⟩;obtain⟨w,ρ1⟩:=p;have sq:∀{w:Vl},RV Z F' H H' σ ρ1 w v->Ok (XW Z X σ ρ H) (jan w ρ1) (fun t=>∀F' H' J ls,ItR Z B σ ρ F H t.2.2 F' H' t.2.1 ls->ItmG Z (GK F' H' ls) J t.1->R J H')->iX X.K R v H':=fun {w} rv h=>by
  obtain⟨a,e,q⟩:=jlL hK h g r' rv;exact .sq a e q
 cases w with
 |dat d=>
  cases d with
  |dct ks vs=>
   have h1:Ok (XW Z X σ ρ H) (.ok (ks,([]:List Nat),ρ1)) _:=h1;exact jch h1 g (jlH rv r')
  |_=>exact sq rv h1
 |tmp o=>
  cases o with
  |l xs=>exact sq rv h1
  |d ks vs=>
   have h1:Ok (XW Z X σ ρ H) (.ok (ks,([]:List Nat),ρ1)) _:=h1;obtain⟨l,rfl,h2,h3,h4,h5⟩:=rv;exact jch h1 g (jec h5 r' Go.refl (fun m=>h3 m.ow) (fun _ z=>absurd z @11))
 |slot i=>
  by_cases hd:∃ks vs f k,ρ1[i]?=some (.own (.d ks vs) f k)
  ·obtain⟨ks,vs,f,k,e⟩:=hd;have rv:σ[i]?=some (some v):=rv;obtain⟨l,e1,e2,h4,_⟩:=r'.own i _ _ _ e;rw[rv]at e1;cases e1;cases k with
   |true=>
    have e3:jaX (.slot i) ρ1=.ok (ks,[],ρ1):=by simp only[jaX,e]
    have h1:Ok (XW Z X σ ρ H) (jaX (.slot i) ρ1) _:=h1;rw[e3]at h1;exact jch h1 g (jec h4 r' Go.refl (r'.notMb e rv) (fun _ z=>absurd z @11))
   |false=>
    have e3:jaX (.slot i) ρ1=.ok (ks,[i],ρ1.set i (.own (.d ks vs) f true)):=by simp only[jaX,e]
    have h1:Ok (XW Z X σ ρ H) (jaX (.slot i) ρ1) _:=h1;rw[e3]at h1;have hlt:i<ρ1.length:=(List.getElem?_eq_some_iff.mp e).1;have r2:=r'.lock e true;refine jch h1 g (jec h4 r2 (Go.lock e) (r2.notMb (List.getElem?_set_self hlt) rv) fun j z=>?_);have q:j=i:=by simpa using z
    subst q;exact⟨_,_,e⟩
  ·have e:jaX (.slot i) ρ1=jan (.slot i) ρ1:=by
    simp only[jaX];split
    ·exact absurd ⟨_,_,_,_,‹_›⟩ hd
    ·exact absurd ⟨_,_,_,_,‹_›⟩ hd
    ·rfl
   have h1:Ok (XW Z X σ ρ H) (jaX (.slot i) ρ1) _:=h1;rw[e]at h1;exact sq rv h1
theorem jjC {x:D}{c:Nat}:jeH x≠.err c:=by
 cases x <;> (intro z;simp only[jeH]at z;try split at z) <;> cases z
theorem joa {tg a:Expr}{p pos:Pos}{f:Rho->R (Vl×Rho)}(hg:Gl X "range")(hm:X.mg "range"=none)(h:PE X a (tE Z X B f))(ns:∀e q,a≠.Starred e q) :
  PI X tg (.Call (.Name "range" p) [a] [] pos) (tI Z X B fun ρ=>(f ρ).bind fun p=>(deref p.1 p.2).bind fun x=>(jeH x).bind fun xs=>.ok (xs,[],p.2)):=by
 refine PI.imp (jip hg hm (jaC h jbC (jad ns)) (jad ns)) fun σ H R hzz=>?_;obtain⟨F,ρ,r,q⟩:=hzz;refine⟨F,ρ,r,q.bind.imp (fun _ w=>w) fun p h1 v F' H' g r' rv=>?_⟩;obtain⟨x,ex,h2⟩:=h1.bind.pure fun c=>jaE;obtain⟨xs,exs,h3⟩:=h2.bind.pure fun c=>jjC;have rb:=jaZ rv r' ex;cases x with
 |int n=>
  simp only[jeH]at exs;split at exs
  ·rename_i hn;cases exs;cases rb.int;exact⟨n,rfl,by omega,by omega,h3 F' H' _ [] (ItR.plain g r') (jnJ (by rw[sizeLine_eq];omega))⟩
  ·cases exs
 |_=>cases exs
theorem job (hK:X.K=Z.K){es:List Expr}{n:Nat}{pos':Pos}{a b:Expr}{p pos:Pos}{f f':Rho->R (Vl×Rho)}(hg:Gl X "zip")(hm:X.mg "zip"=none)(h:PE X a (tE Z X B f))(ns:∀e q,a≠.Starred e q)(h':PE X b (tE Z X B f'))(ns':∀e q,b≠.Starred e q) :
  PI X (.Tuple es n pos') (.Call (.Name "zip" p) [a,b] [] pos) (tI Z X B fun ρ=>(f ρ).bind fun p=>(f' p.2).bind fun q=>(jan p.1 q.2).bind fun x=>(jan q.1 x.2.2).bind fun y=>.ok (jeI x.1 y.1,x.2.1++y.2.1,y.2.2)):=by
 refine PI.imp (jpY hg hm (jaC h (jaC h' jbC (jad ns')) (jad ns)) (jad ns) (jea (jcN fun x hx=>by
  have:x=b:=by simpa using hx
  subst this;exact ns'))) fun σ H R ⟨F,ρ,r,q⟩=>?_
 refine⟨F,ρ,r,q.bind.imp (fun _ w=>w) fun p h1 v F1 H1 g1 r1 rv=>⟨F1,p.2,r1,h1.bind.imp (fun c w=>w.mono g1) fun q h2 u F2 H2 g2 r2 ru=>?_⟩⟩;obtain⟨t,ht,h3⟩:=h2.bind.pure fun c=>jbT;obtain⟨t',ht',h4⟩:=h3.bind.pure fun c=>jbT;obtain⟨xs,lk1,ρ3⟩:=t;obtain⟨ys,lk2,ρ4⟩:=t';obtain⟨ls1,b1,a1,vs1,W1⟩:=jcg (rv.go r1 g2) r2 ht;obtain⟨ls2,b2,a2,vs2,W2⟩:=jcg (ru.go r2 W1.go) W1.sr ht';have g12:=g1.trans g2;have ir:ItR Z B σ ρ F H ρ4 F2 H2 (lk1++lk2) (ls1++ls2):=by
  refine⟨g12.trans (W1.go.trans W2.go),W2.sr,fun σ5 ρ5 F5 H5 g5=>g12.trans (((W1.go.trans W2.go).trans g5).unlk fun i hi=>?_),fun l hl=>?_⟩
  ·rcases List.mem_append.mp hi with hi | hi
   ·exact W1.lk i hi
   ·obtain⟨o,f,e⟩:=W2.lk i hi;exact⟨o,f,W1.up i o f e⟩
  ·rcases List.mem_append.mp hl with hl | hl
   ·obtain⟨⟨o,e⟩,nm⟩:=W1.on l hl;refine⟨⟨o,e⟩,fun z=>?_⟩;rcases W2.go.mb z with z | z
    ·exact nm z
    ·rw[e]at z;cases z
   ·exact W2.on l hl
 refine⟨a1,a2,b1,b2,vs1,vs2,by rw[W1.eq,W2.eq],(by rw[hK];exact W1.sq),(by rw[hK];exact W2.sq),fun z1 z2=>?_⟩
 rw[hK];refine h4 F2 H2 _ (ls1++ls2) ir (jn9 (by rw[W1.rp.length];exact z1) fun F5 H5 gk _=>⟨W1.good F5 H5 ⟨gk.keep,fun l hl=>gk.ls l (jt3 _ hl)⟩,W2.good F5 H5 ⟨gk.keep,fun l hl=>gk.ls l (jtS _ hl)⟩⟩)
theorem jlM (hK:X.K=Z.K){es:List Expr}{n:Nat}{pos':Pos}{a:Expr}{p pos:Pos}{f:Rho->R (Vl×Rho)}(hg:Gl X "enumerate")(hm:X.mg "enumerate"=none)(h:PE X a (tE Z X B f))(ns:∀e q,a≠.Starred e q) :
  PI X (.Tuple es n pos') (.Call (.Name "enumerate" p) [a] [] pos) (tI Z X B fun ρ=>(f ρ).bind fun p=>(jan p.1 p.2).bind fun x=>.ok (jdx 0 x.1,x.2.1,x.2.2)):=by
 refine PI.imp (jnv hg hm (jaC h jbC (jad ns)) (jad ns)) fun σ H R hzz=>?_;obtain⟨F,ρ,r,q⟩:=hzz;refine⟨F,ρ,r,q.bind.imp (fun _ w=>w) fun p h1 v F' H' g r' rv=>?_⟩;obtain⟨t,ht,h2⟩:=h1.bind.pure fun c=>jbT;obtain⟨xs,lk,ρ2⟩:=t;obtain⟨ls,b,a,vs,W⟩:=jcg rv r' ht;have ir:ItR Z B σ ρ F H ρ2 F' H' lk ls:=⟨g.trans W.go,W.sr,fun σ2 ρ3 F3 H3 g3=>g.trans ((W.go.trans g3).unlk W.lk),W.on⟩;refine⟨a,b,vs,by rw[W.eq],(by rw[hK];exact W.sq),fun hz=>?_⟩
 rw[hK];exact h2 F' H' _ ls ir (jlK (by rw[W.rp.length];exact hz) fun F2 H2 gk _=>W.good F2 H2 gk)
end
end DJ
namespace DJ
open PySem PySem.Spec PyProof.Rows L2
noncomputable def Ty.py:Ty->String
 |.int=>"int" | .bool=>"bool" | .str=>"str" | .tuple=>"tuple" | .list=>"list" | .dict=>"dict" | .exc _=>"?" | .verr=>"ValueError"
noncomputable def clV (Z:Kn):Ty->Option V
 |.exc k=>(Z.cl[k]?).map V.ref
 |t=>some (.ty t.py)
noncomputable def jpi (Z:Kn):List Ty->Option (List V):=mapO (clV Z)
structure Ecs (U:Nat->Nat->Bool)(Z:Kn):Prop where
 ecl:∀C∈Z.cl,ECls Z.K C
 sub:∀(i j:Nat) (C D:Addr),Z.cl[i]?=some C->Z.cl[j]?=some D->PySem.W.mroIn Z.K C (.ref D)=some (U i j)
theorem XD.ecs {T:Tab}{G:Calls}{U:Nat->Nat->Bool}{Z:Kn}{n:Nat}{X:Cx}{sc:List @7}(D:XD T G U Z n X sc):Ecs U Z:=⟨by rw[<-D.hK];exact D.ecl,by rw[<-D.hK];exact D.sub⟩
section
variable {U:Nat->Nat->Bool}{Z:Kn}
theorem joc (S:Ecs U Z){i j:Nat}{C D:Addr}(hi:Z.cl[i]?=some C)(hj:Z.cl[j]?=some D):PySem.W.kitOne Z.K (.ref C) (.ref D)=some (U i j):=by
 have hs:=S.sub i j C D hi hj;have e':=S.ecl D (jtT hj);unfold PySem.W.kitOne;split
 ·rename_i z;cases beq_iff_eq.mp z;rw[(S.ecl C (jtT hi)).ms]at hs;exact hs
 ·unfold PySem.W.kitCls;simp only;rw[if_pos (by rw[juq];exact⟨e'.cd,by rw[e'.ty];rfl⟩)]
  exact hs
theorem jlN (S:Ecs U Z){i:Nat}{C:Addr}(hi:Z.cl[i]?=some C):PySem.W.kitOne Z.K (.ref C) (.type "ValueError")=some true:=by
 have e:=S.ecl C (jtT hi);unfold PySem.W.kitOne;split
 ·rfl
 ·unfold PySem.W.kitCls;simp only;rw[if_pos @6]
  exact e.mv
noncomputable def nmT:Ty->String
 |.int=>"int"
 |.bool=>"bool"
 |.str=>"str"
 |.tuple=>"tuple"
 |.list=>"list"
 |_=>"dict"
noncomputable def jto:Ty->Bool
 |.exc _=>false
 |.verr=>false
 |_=>true
theorem jc9 {K:Frag}{t:Value}{d:D}(ht:∀k,jto k=true->PySem.W.kitOne K t (.type (nmT k))=some (tyB d k))(k:Ty)(c:V)(cv:Value)(b:Bool)(hb:tyP d k=.ok b)(hc:clV Z k=some c)(rc:RelV c cv):PySem.W.kitOne K t cv=some b:=by
 cases k with
 |exc _=>cases hb
 |verr=>cases hb
 |int=>cases hb;cases hc;cases (show cv=Value.type _ from rc);exact ht .int rfl
 |bool=>cases hb;cases hc;cases (show cv=Value.type _ from rc);exact ht .bool rfl
 |str=>cases hb;cases hc;cases (show cv=Value.type _ from rc);exact ht .str rfl
 |tuple=>cases hb;cases hc;cases (show cv=Value.type _ from rc);exact ht .tuple rfl
 |list=>cases hb;cases hc;cases (show cv=Value.type _ from rc);exact ht .list rfl
 |dict=>cases hb;cases hc;cases (show cv=Value.type _ from rc);exact ht .dict rfl
theorem jqA (S:Ecs U Z){X:Cx}(hK:X.K=Z.K){pins:List (Addr×Obj)}{s:Shared}{σ:L2.St}{F:Addr->Prop}{H:Hp}{d:D}{x:V}{u:Value}(I:Inv X pins σ H s)(rp:RepB Z F H d x)(rx:RelV x u) :
  ∃(t:Value) (P:Heap->Prop),PySem.W.KitX X.K u t P/\P s.heap/\u≠.builtin "__main__.__loader__#opaque"/\∀(k:Ty) (c:V) (cv:Value) (b:Bool),jph U d k=.ok b->clV Z k=some c->RelV c cv->PySem.W.kitOne X.K t cv=some b:=by
 cases d with
 |non=>
  cases rp.non;cases (show u=Value.none from rx);refine⟨_,_,PySem.W.kitx_none,True.intro,(fun z=>nomatch z),jc9 fun k hk=>by cases k <;> first | rfl | cases hk⟩
 |bl y=>
  cases rp.bl;cases (show u=Value.bool y from rx);refine⟨_,_,PySem.W.kitx_bool,True.intro,(fun z=>nomatch z),jc9 fun k hk=>by cases k <;> first | rfl | cases hk⟩
 |int i=>
  cases rp.int;obtain⟨t',rfl⟩:=(show ∃t,u=Value.int i t from rx);refine⟨_,_,PySem.W.kitx_int,True.intro,(fun z=>nomatch z),jc9 fun k hk=>by cases k <;> first | rfl | cases hk⟩
 |str y=>
  cases rp.str;obtain⟨t',rfl⟩:=(show ∃t,u=Value.str y t from rx);refine⟨_,_,PySem.W.kitx_str,True.intro,(fun z=>nomatch z),jc9 fun k hk=>by cases k <;> first | rfl | cases hk⟩
 |tup ds=>
  obtain⟨a,vs,rfl,ft,r⟩:=rp.tup;cases (show u=Value.ref a from rx);obtain⟨its,_,p,_⟩:=I.tuple (by rw[hK];exact ft.sq)
  obtain⟨o,h1,h2,_⟩:=p;refine⟨_,_,PySem.W.kitx_tuple,⟨o,h1,h2⟩,(fun z=>nomatch z),jc9 fun k hk=>by cases k <;> first | rfl | cases hk⟩
 |lst ds=>
  obtain⟨a,vs,rfl,ft,r⟩:=rp.lst;cases (show u=Value.ref a from rx);obtain⟨its,_,⟨o,n,h1,h2,_⟩,_⟩:=I.list (by rw[hK];exact ft)
  refine⟨_,_,PySem.W.kitx_list,⟨o,h1,h2⟩,(fun z=>nomatch z),jc9 fun k hk=>by cases k <;> first | rfl | cases hk⟩
 |dct ks vs=>
  obtain⟨a,us,ws,xs,rfl,⟨ep,e⟩,_⟩:=rp.dct;cases (show u=Value.ref a from rx);obtain⟨_,o,es,h1,h2,_⟩:=(show ObjOk X.prog X.w H s.heap a (.dT xs ep)from I.hok a _ e);refine⟨_,_,PySem.W.kitx_dict,⟨o,h1,h2.1⟩,(fun z=>nomatch z),jc9 fun k hk=>by cases k <;> first | rfl | cases hk⟩
 |exc c=>
  have rp:=rp.flat (fun o z=>by cases o <;> cases z)
  simp only[Rep]at rp;obtain⟨a,C,rfl,_,hC,e⟩:=rp;cases (show u=Value.ref a from rx);obtain⟨⟨o,vs,h1,h2,_⟩,_⟩:=(show ObjOk X.prog X.w H s.heap a (.ext (jmG a C))from I.hok a _ e);have ec:=S.ecl C (jtT hC);refine⟨_,_,jkZ (K:=X.K) (by rw[hK];exact ec),⟨o,h1,h2⟩,(fun z=>nomatch z),fun k c' cv b hb hc rc=>?_⟩
  rw[hK];cases k with
  |exc j=>
   cases hb;simp only[clV]at hc;cases hj:Z.cl[j]? with
   |none=>rw[hj]at hc;cases hc
   |some D=>
    rw[hj]at hc;cases hc;cases (show cv=Value.ref D from rc);exact joc S hC hj
  |verr=>
   cases hb;cases hc;cases (show cv=Value.type _ from rc);exact jlN S hC
  |_=>cases hb
theorem jjD {K:Frag}{t:Value}{d:D}(h:∀(k:Ty) (c:V) (cv:Value) (b:Bool),jph U d k=.ok b->clV Z k=some c->RelV c cv->PySem.W.kitOne K t cv=some b):∀{ks:List Ty}{cs:List V}{cvs:List Value}{b:Bool},jaj U d ks=.ok b->jpi Z ks=some cs->Vals cs cvs->PySem.W.kitAny K t cvs=some b
 |[],cs,cvs,b,h1,h2,h3=>by
  cases h2;cases h3;cases h1;rfl
 |k::ks,cs,cvs,b,h1,h2,h3=>by
  obtain⟨c,cs',e1,e2,rfl⟩:=jaw h2;cases h3 with
  |@cons _ cv _ cvs' r1 r2=>
   simp only[jaj]at h1;obtain⟨b1,q1,h1⟩:=R.bind_ok h1;have z:=h k c cv b1 q1 e1 r1;unfold PySem.W.kitAny;rw[z];cases b1 with
   |true=>cases h1;rfl
   |false=>exact jjD h h1 e2 r2
theorem jod {d:D}{t:Ty}{c:Nat}:tyP d t≠.err c:=by cases t <;> (intro z;cases z)
theorem jlO {d:D}{t:Ty}{c:Nat}:jph U d t≠.err c:=by
 cases d with
 |exc e=>cases t <;> (intro z;cases z)
 |_=>exact jod
theorem jeT {d:D}{c:Nat}:∀{ks:List Ty},jaj U d ks≠.err c
 |[],z=>by cases z
 |k::ks,z=>by
  simp only[jaj]at z;cases e:jph U d k with
  |ok b=>
   rw[e,R.bind_ok']at z;cases b with
   |true=>cases z
   |false=>exact jeT z
  |err c'=>exact jlO e
  |stk=>rw[e]at z;cases z
noncomputable def jmN (Z:Kn)(ks:List Ty)(y:V)(H:Hp):Prop:=(∃k,ks=[k]/\clV Z k=some y)\/∃p cs,y=.ref p/\jpi Z ks=some cs/\H p=some (.tup cs)
theorem jlP (S:Ecs U Z){X:Cx}(hK:X.K=Z.K){ks:List Ty}:CallR X (.builtin "isinstance") (fun xs H Q=>∃x y F d b,xs=[x,y]/\jmN Z ks y H/\RepB Z F H d x/\jaj U d ks=.ok b/\Q (.bl b) H):=by
 intro pins s σ H xs us Q I r h;obtain⟨x,y,F,d,b,rfl,hy,rp,hb,q⟩:=h;obtain⟨u,w',rfl,rx,ry⟩:=jrL r;obtain⟨t,P,kx,hp,hne,ho⟩:=jqA S hK I rp rx;rcases hy with ⟨k,rfl,hc⟩ | ⟨p,cs,rfl,hc,hH⟩
 ·have hb1:jph U d k=.ok b:=by
   simp only[jaj]at hb;obtain⟨b1,e,hb⟩:=R.bind_ok hb;cases b1 <;> cases hb <;> exact e
  exact PySem.W.kia_one kx I.kIn hp (ho k y w' b hb1 hc ry) hne fun tk=>⟨.bl b,H,I.tok tk,rfl,q⟩
 ·cases (show w'=Value.ref p from ry);obtain⟨_,its,rv,o,h1,h2,n,h3⟩:=(show ObjOk X.prog X.w H s.heap p (.tup cs)from I.hok p _ hH);obtain⟨ocls,odict,odata,oslots⟩:=o;cases h2;cases h3;exact PySem.W.kia_tup kx I.kIn hp h1 (jjD ho hb hc rv) hne fun tk=>⟨.bl b,H,I.tok tk,rfl,q⟩
end
noncomputable def jr5 (T:Tab)(x:Str):Option Ty:=if x="int" then some .int else if x="bool" then some .bool else if x="str" then some .str else if x="tuple" then some .tuple else if x="list" then some .list else if x="dict" then some .dict else if x="ValueError" then some .verr else (jdy T.excs x).map .exc
section
variable {T:Tab}{G:Calls}{U:Nat->Nat->Bool}{Z:Kn}{m:Nat}{X:Cx}{sc:List (Str×NameKind)}{B:Bs}
theorem jqB (D:XD T G U Z m X sc){x:Str}{t:Ty}{pos:Pos}(hk:knd sc x=2)(hb:jd9 x=false)(h:jr5 T x=some t):∃v,clV Z t=some v/\PE X (.Name x pos) (tC v):=by
 have blt:∀{n:String}{y:Str},y∈bltNames->bootBuiltins y=some (.type n)->x=y->PE X (.Name x pos) (tC (.ty n)):=fun {n y} h1 h2 e=>by
  subst e;exact jm8 (D.gl hk) (D.blt _ h1) h2 rfl (jfq hb).2 (jfq hb).1
 unfold jr5 at h;split at h
 ·rename_i e;cases h;exact⟨_,rfl,blt @6 @6 e⟩
 ·split at h
  ·rename_i e;cases h;exact⟨_,rfl,blt @6 @6 e⟩
  ·split at h
   ·rename_i e;cases h;exact⟨_,rfl,blt @6 @6 e⟩
   ·split at h
    ·rename_i e;cases h;exact⟨_,rfl,blt @6 @6 e⟩
    ·split at h
     ·rename_i e;cases h;exact⟨_,rfl,blt @6 @6 e⟩
     ·split at h
      ·rename_i e;cases h;exact⟨_,rfl,blt @6 @6 e⟩
      ·split at h
       ·rename_i e;cases h;exact⟨_,rfl,blt @6 @6 e⟩
       ·cases q:jdy T.excs x with
        |none=>rw[q]at h;cases h
        |some i=>
         rw[q]at h;cases h;obtain⟨C,h1,h2⟩:=D.excs i x (jaI q);exact⟨.ref C,by simp[clV,h1],jim (D.gl hk) h2 rfl (jfq hb).1⟩
noncomputable def jlQ (T:Tab)(sc:List @7)(e:Expr):Option Ty:=(jhz e).bind fun x=>gd (jd9 x || knd sc x != 2) (jr5 T x)
noncomputable def jjE (T:Tab)(sc:List @7)(e:Expr):Option (List Ty):=jnU (jlw e) (mapO (jlQ T sc)) ((jlQ T sc e).map fun t=>[t])
theorem jgG (D:XD T G U Z m X sc){e:Expr}{t:Ty}(h:jlQ T sc e=some t):(∃v,clV Z t=some v/\PE X e (tC v))/\∀a p,e≠.Starred a p:=by
 replace h:=jag h;obtain⟨x,hx,h⟩:=h;obtain⟨p,rfl⟩:=ja1 hx;replace h:=jam h;obtain⟨hc,h⟩:=h;obtain⟨c1,c2⟩:=jbJ hc;exact⟨jqB D (jfK c2) c1 h,fun _ _ z=>by cases z⟩
noncomputable def tCs:List V->TA
 |[]=>jpe
 |v::vs=>jis (tC v) (tCs vs)
theorem jmO:∀{vs:List V}{σ:L2.St}{H:Hp}{Q:List V->Hp->Prop},Q vs H->tCs vs σ H Q
 |[],_,_,_,q=>q
 |v::vs,σ,H,Q,q=>jmO (vs:=vs) (Q:=fun xs H1=>Q (v::xs) H1) q
theorem jjF (D:XD T G U Z m X sc):∀{es:List Expr}{ks:List Ty},mapO (jlQ T sc) es=some ks->∃cs,jpi Z ks=some cs/\PA X es (tCs cs)
 |[],ks,h=>by cases h;exact⟨[],rfl,jbC⟩
 |e::es,ks,h=>by
  obtain⟨k,ks',h1,h2,rfl⟩:=jaw h;obtain⟨⟨v,e1,e2⟩,ns⟩:=jgG D h1;obtain⟨cs,e3,e4⟩:=jjF D h2;refine⟨v::cs,?_,jaC e2 e4 (jad ns)⟩;simp only[jpi,mapO]at e3 ⊢;rw[e1,e3]
theorem jgH:∀{ks:List Ty}{cs:List V},jpi Z ks=some cs->cs.length=ks.length
 |[],cs,h=>by cases h;rfl
 |k::ks,cs,h=>by
  obtain⟨c,cs',_,q2,rfl⟩:=jaw h;rw[jtR,jtR,jgH q2]
noncomputable def tCA (Z:Kn)(ks:List Ty):TE:=fun σ H Q=>(∀y,jmN Z ks y H->Q y H)/\∀p cs,H p=none->jpi Z ks=some cs->Q (.ref p) (upd H p (.tup cs))
theorem joe (D:XD T G U Z m X sc){e:Expr}{ks:List Ty}(hl:ks.length<=100)(h:jjE T sc e=some ks):PE X e (tCA Z ks)/\∀a p,e≠.Starred a p:=by
 replace h:=jbQ h;rcases h with ⟨es,he,h⟩ | h
 ·obtain⟨k,p,rfl⟩:=jc5 he;obtain⟨cs,e1,e2⟩:=jjF D h;refine⟨PE.imp (jmA e2) fun σ H Q q=>jmO ⟨?_,fun p hp=>q.2 p cs hp e1⟩,fun _ _ z=>by cases z⟩
  rw[jgH e1,sizeLine_eq];omega
 ·replace h:=jal h;obtain⟨t,q,rfl⟩:=h;obtain⟨⟨v,e1,e2⟩,ns⟩:=jgG D q;exact⟨PE.imp e2 fun σ H Q z=>z.1 v (.inl ⟨t,rfl,e1⟩),ns⟩
theorem jof (D:XD T G U Z m X sc){a e:Expr}{E1:E}{ks:List Ty}{p pos:Pos}(hf:knd sc "isinstance"=2)(hl:ks.length<=100)(h:PE X a (tE Z X B (evE G U E1)))(ns:∀e q,a≠.Starred e q)(hks:jjE T sc e=some ks) :
  PE X (.Call (.Name "isinstance" p) [a,e] [] pos) (tE Z X B (evE G U (.isi E1 ks))):=by
 obtain⟨hp,ns2⟩:=joe D hl hks;refine PE.imp (jaY (jlP D.ecs D.hK (ks:=ks)) (D.gl hf) (D.blt _ @6) @6 (jaC h (jaC hp jbC (jad ns2)) (jad ns)) (by decide) (by decide) (jad ns) (jea (jcN fun x hx=>by
  have:x=e:=by simpa using hx
  subst this;exact ns2))) fun σ H Q ⟨F,ρ,r,q⟩=>?_
 simp only[evE]at q;refine⟨F,ρ,r,q.bind.imp (fun _ w=>w) fun p1 h1 v F' H' g r' rv=>?_⟩;obtain⟨x,ex,h2⟩:=h1.bind.pure fun c=>jaE;obtain⟨b,eb,h3⟩:=h2.bind.pure fun c=>jeT;have rb:=jaZ rv r' ex;refine⟨fun y hy=>⟨v,y,F',x,b,rfl,hy,rb,eb,h3 _ F' H' g r' (by show Rep _ _ _ _ _;simp only[Rep])⟩,fun p cs hp hcs=>?_⟩
 have e:=Ext.newO (o:=.tup cs) r'.dom hp;have kp:=e.keep r'.dom;refine⟨v,.ref p,F',x,b,rfl,.inr ⟨p,cs,rfl,hcs,jah⟩,?_,eb,h3 _ F' _ (g.trans e.go) (r'.ext e) (by show Rep _ _ _ _ _;simp only[Rep])⟩
 rcases rb with rb | ⟨l,o,e1,e2,e3⟩
 ·exact .inl (rb.mono kp)
 ·obtain⟨w,hw⟩:=e3.some;exact .inr ⟨l,o,e1,e2,e3.mono kp (by rw[jac (jab hw hp)])⟩
theorem jog (D:XD T G U Z m X sc){x:Str}{i:Nat}{pos apos cpos:Pos}(hk:knd sc x=1)(hi:X.N[i]?=some x)(hb:jd9 x=false)(hline:(apos.endLine == cpos.line)=true):PE X (.Call (.Attribute (.Name x pos) "pop" apos) [] [] cpos) (tE Z X B (evE G U (.pop i))):=by
 have hbase:attributeBase (.Name x pos) "pop" X.env (eval (.Name x pos) X.env)=eval (.Name x pos) X.env:=rfl;refine PE.imp (jpT PySem.F.plainAttrs_list PySem.F.slot_list_pop PySem.F.type_list_pop jpV (jgh (X:=X) (pos:=pos) hi (D.vis hk) (jfq hb).1 (jlx hb)) hbase hline) fun σ H Q hzz=>?_;obtain⟨F,ρ,r,q⟩:=hzz;simp only[evE]at q;split at q
 ·rename_i xs f e;split at q
  ·rename_i d hd;obtain⟨l,e1,e2,⟨vs,e3,e4⟩,e5⟩:=r.own i _ _ _ e;refine⟨.ref l,e1,.inl ⟨rfl,vs,SqL.of e3⟩,?_⟩;have hl:=e4.length;rw[List.getLast?_eq_getElem?]at hd;obtain⟨v,hv,rp⟩:=e4.get hd;rw[hl]at hv;refine⟨l,vs,v,rfl,rfl,e3,hv,?_⟩;have wr:=r.wr (o':=.l xs.dropLast) (u:=.lst vs.dropLast) e e1 (fun kp=>⟨vs.dropLast,jah,(e4.mono kp).dropLast⟩) false;obtain⟨kp,sr⟩:=wr;exact q v F _ (Go.wr e e1) sr (rp.mono kp)
  ·exact False.elim q
 ·exact False.elim q
end
end DJ
namespace DJ
open PySem PySem.Spec PyProof.Rows L2
theorem jjG {M:Model}{A:Around}{E E':Value->Shared->Prop}{s:Shared}{B:Heap}{env:Env}{outer:List Env}{L e:Addr}{cls a0:Value}{Q:Shared->Prop}(hfr:A.frames=some (env::outer))(hf:env.frame=some L)(x:FlyA B (env::outer) e cls a0 s.heap)
  (hQ:∀h',Heap.FlyingW B (env::outer) e cls a0 h'->s.heap.UpToSlots h'->Q { s with heap:=h' }):wpAny M A (noteFrame (.ref e) env) (fun _ s₂=>wpAny M A (setFlight (.ref e) none) (fun _ s₃=>Q s₃) E s₂) E' s:=
 jgl hfr hf hf x fun h1 held up1=>wpAny_landsW held fun h2 fl up2=>hQ h2 fl (up1.trans up2)
theorem jhB {M:Model}{A:Around}{E:Value->Shared->Prop}{s:Shared}{B:Heap}{env:Env}{outer:List Env}{L e:Addr}{cls a0:Value}{Q:Unit->Shared->Prop}(hfr:A.frames=some (env::outer))(hf:env.frame=some L)(x:FlyA B (env::outer) e cls a0 s.heap)
  (hQ:∀h',Heap.FlyingW B outer e cls a0 h'->s.heap.UpToSlots h'->Q () { s with heap:=h' }):wpAny M A (leaving env (.ref e)) Q E s:=by
 unfold leaving;refine jt8 (jjG (Q:=fun s=>Q () s) hfr hf x fun h' fl up=>?_);obtain⟨k1,k2,⟨_,_,k3⟩,k4⟩:=fl;exact hQ h' ⟨k1,k2,k3,k4⟩ up
theorem jmP {P:Program}{w:World}{H:Hp}{h:Heap}{a:Addr}{o:HO}(x:ObjOk P w H h a o):∃u,h.get? a=some u:=by
 cases o with
 |lst xs=>obtain⟨_,_,_,_,e⟩:=x;exact⟨_,e⟩
 |tup xs=>obtain⟨_,_,_,o,e,_⟩:=x;exact⟨_,e⟩
 |dK kvs=>obtain⟨_,_,_,_,o,_,_,e,_⟩:=x;exact⟨_,e⟩
 |dT kvs ep=>obtain⟨_,o,_,e,_⟩:=x;exact⟨_,e⟩
 |set S n=>obtain⟨o,_,_,_,e,_⟩:=x;exact⟨_,e⟩
 |ins C dx fs=>obtain⟨_,_,_,e,_⟩:=x;exact⟨_,e⟩
 |own y=>obtain⟨_,e⟩:=x;exact⟨_,e⟩
 |xd fs=>obtain⟨_,⟨_,_,_,e,_⟩,_⟩:=x;exact⟨_,e⟩
 |rng lo hi=>obtain⟨_,_,_,e⟩:=x;exact⟨_,e⟩
 |frz ob u=>obtain⟨e,_⟩:=x;exact⟨_,e⟩
 |tbl ps=>exact⟨_,(show h.get? a=some _ from x)⟩
 |met f y=>exact⟨_,(show h.get? a=some _ from x)⟩
 |ext φ=>obtain⟨_,⟨_,e⟩,_⟩:=x;exact⟨_,e⟩
theorem jjH {h base B:Heap}:∀{l:List Env},h.FunFrames base l->(∀b∈frs l,B.get? b=none)->h.FunFrames B l
 |[],_,_=>trivial
 |env::r,⟨k,⟨L,o,hf,_,ho,hd⟩,t⟩,hB=>⟨k,⟨L,o,hf,hB L (by simp[frs,hf]),ho,hd⟩,jjH t fun b hb=>hB b (by
  unfold frs at hb ⊢;rw[jtW,hf];exact jtI _ hb)⟩
structure Has (X:Cx)(pins:List (Addr×Obj))(H':Hp)(B:Heap):Prop where
 s0:∀b o,X.s₀.heap.get? b=some o->b ∉ frs X.stack->b ∉ X.ex->∃o',B.get? b=some o'
 cl:∀x c,X.fn x=true->X.env.cells.lookup x=some c->∃o',B.get? c=some o'
 pn:∀p∈X.pn++pins,∃o',B.get? p.1=some o'
 tr:∀a o,H' a=some o->∃o',B.get? a=some o'
section
variable {X:Cx}{pins:List (Addr×Obj)}{σ:L2.St}{H:Hp}{s:Shared}{B h':Heap}
theorem Inv.cellNot (I:Inv X pins σ H s){x:Str}{c:Addr}(hf:X.fn x=true)(hc:X.env.cells.lookup x=some c):c ∉ frs X.stack:=fun z=>by
 rcases List.mem_cons.mp (I.stkSub c z)with z | z
 ·exact I.cne x c hc z
 ·have h1:=I.ok.cab x c hf hc;obtain⟨_,o',h2,_⟩:=I.ok.funs.mem z;exact absurd (juh h2) (Nat.not_lt.mpr h1)
theorem Has.made (I:Inv X pins σ H s):Has X pins H (PySem.W.hideAll s.heap (frs X.stack)) where
 s0 b o e n nx:=by
  obtain⟨o',e'⟩:=I.base.there b o e nx;exact⟨o',PySem.W.hideAll_get _ e' n⟩
 cl x c hf hc:=by
  obtain⟨v,o,ho,_⟩:=I.cell x c hc;exact⟨o,PySem.W.hideAll_get _ ho (Inv.cellNot I hf hc)⟩
 pn p hp:=by
  obtain⟨h1,h2,h3,h4,_⟩:=I.pin p hp;refine⟨p.2,PySem.W.hideAll_get _ h1 fun z=>?_⟩;rcases List.mem_cons.mp (I.stkSub p.1 z)with z | z
  ·exact h3 z
  ·exact h4 z
 tr a o e:=by
  obtain⟨u,hu⟩:=jmP (I.hok a o e);exact⟨u,PySem.W.hideAll_get _ hu fun z=>by rw[I.stkFree a z]at e;cases e⟩
theorem Inv.flownP {t':Nat}(I:Inv X pins σ H s)(hfn:∀x,X.fn x=true)(Hs:Has X pins H B)(k:B.StaysIn s.heap)(k':B.StaysIn h')(Pr:Addr->Prop)(h1:∀b∈X.fs,Pr b)(h2:Pr X.env.locals)(up:∀b o,Pr b->s.heap.get? b=some o->(∀vs,o.data≠.fields vs)->∃sl,h'.get? b=some { o with slots:=sl }):Inv X pins σ H { s with heap:=h',toks:=t' }:=by
 have same:∀{b:Addr}{o:Obj},(∃o',B.get? b=some o')->s.heap.get? b=some o->h'.get? b=some o:=fun {b o} ⟨o',e⟩ q=>by
  have:=k b o' e;rw[q]at this;cases this;exact k' b o e
 have notS:∀{b:Addr}{o:Obj},X.s₀.heap.get? b=some o->b ∉ X.fs->b ∉ frs X.stack:=fun {b o} e n z=>by
  rcases List.mem_cons.mp (I.stkSub b z)with z | z
  ·have:=juh e;rw[z]at this;exact absurd this (Nat.not_lt.mpr I.ok.above)
  ·exact n z
 have cellK:∀{x:Str}{c:Addr}{v:Option Value},X.env.cells.lookup x=some c->s.heap.IsCell c v->h'.IsCell c v:=fun {x c v} hc ⟨o,ho,hd⟩=>⟨o,same (Hs.cl x c (hfn x) hc) ho,hd⟩;refine⟨I.ok,I.os,I.bare,⟨fun b o e n hb hx=>same (Hs.s0 b o e (notS e hb) hx) (I.base.keep b o e n hb hx),fun b o e n hb hx=>?_,I.base.free,fun b o e hx=>?_,I.base.tups,I.base.frzs,I.base.tbls⟩,?_,fun x c hc=>?_,I.free,I.freeC,fun p hp=>?_,fun a u e=>?_,I.len⟩
 ·obtain⟨sl,q⟩:=I.base.slot b o e n hb hx;obtain⟨_,o2,q2,q3⟩:=I.funs.mem hb;rw[q]at q2;cases q2;exact let ⟨sl',q'⟩:=up b _ (h1 b hb) q q3;⟨sl',q'⟩
 ·obtain⟨o',q⟩:=I.base.there b o e hx;by_cases hb:b∈X.fs
  ·obtain⟨_,o2,q2,q3⟩:=I.funs.mem hb;rw[q]at q2;cases q2;exact let ⟨sl',q'⟩:=up b _ (h1 b hb) q q3;⟨_,q'⟩
  ·exact⟨o',same (Hs.s0 b o e (notS e hb) hx) q⟩
 ·obtain⟨m,hn,hl⟩:=I.loc;have hn':h'.Ns X.env.locals m:=by
   obtain⟨o,es,ep,ho,hd,r⟩:=hn;obtain⟨sl,hs⟩:=up _ o h2 ho fun vs q=>by rw[hd]at q;cases q
   exact⟨_,es,ep,hs,hd,r⟩
  refine⟨m,hn',fun i x v h1 h2 h3=>?_⟩;obtain⟨u,ru,lk⟩:=hl i x v h1 h2 h3;refine⟨u,ru,?_⟩;rcases lk with lk | ⟨h4,c,h5,h6⟩
  ·exact .inl lk
  ·exact .inr ⟨h4,c,h5,cellK h5 h6⟩
 ·obtain⟨v,q⟩:=I.cell x c hc;exact⟨v,cellK hc q⟩
 ·obtain⟨h1,h2⟩:=I.pin p hp;exact⟨same (Hs.pn p hp) h1,h2⟩
 ·refine(I.hok a u e).stay (fun c w' hc q=>same (Hs.tr c (if c=a then u else .own a) ?_) q) (fun _ q=>q) fun _ _ q=>q;by_cases hca:c=a
  ·rw[if_pos hca,hca];exact e
  ·rw[if_neg hca];rcases hc with z | z
   ·exact absurd z hca
   ·exact z
theorem Inv.flown {t':Nat}(I:Inv X pins σ H s)(hfn:∀x,X.fn x=true)(Hs:Has X pins H B)(k:B.StaysIn s.heap)(k':B.StaysIn h')(up:s.heap.UpToSlots h'):Inv X pins σ H { s with heap:=h',toks:=t' }:=
 Inv.flownP I hfn Hs k k' (fun _=>True) (fun _ _=>trivial) trivial fun b o _=>up b o
end
end DJ
namespace DJ
open PySem PySem.Spec PyProof.Rows L2
theorem jgI {α:Type}{x:Bool}:(R.stk:R α).pass x=.stk:=by cases x <;> rfl
theorem ja2 {α:Type}{x:Bool}{a:α}:(R.ok a).pass x=.ok a:=by cases x <;> rfl
theorem jgJ {α β:Type}{x:Bool}{c:Nat}{W:Nat->Prop}{f:α->R β}{Q:β->Prop}(h:Ok W (((R.err c:R α).pass x).bind f) Q):x=true/\W c:=by
 cases x with
 |true=>exact⟨rfl,h⟩
 |false=>exact False.elim h
theorem Un.sameBut {fs ex:List Addr}{H H':Hp}{h h1 h2:Heap}{C:Addr}(u:Un fs ex H H' h h1)(hC:h.objs.size<=C)(s:Heap.SameBut C h1 h2):Un fs ex H H' h h2:=by
 have ne:∀b o,h.get? b=some o->b≠C:=fun b o e=>jun (jum (juh e) hC);refine⟨fun b o e n hb hx=>(s.2 b (ne b o e)).trans (u.keep b o e n hb hx),fun b o e n hb hx=>?_,u.free,fun b o e hx=>?_,u.tups,u.frzs,u.tbls⟩
 ·obtain⟨sl,q⟩:=u.slot b o e n hb hx;exact⟨sl,(s.2 b (ne b o e)).trans q⟩
 ·obtain⟨o',q⟩:=u.there b o e hx;exact⟨o',(s.2 b (ne b o e)).trans q⟩
theorem HOk.sameBut {P:Program}{w:World}{H:Hp}{h1 h2:Heap}{C:Addr}(k:HOk P w H h1)(n:H C=none)(s:Heap.SameBut C h1 h2):HOk P w H h2:=fun b ob e=>by
 refine(k b ob e).stay (fun c w' hc q=>(s.2 c ?_).trans q) (fun _ q=>q) fun _ _ q=>q;rintro rfl;rcases hc with rfl | hc
 ·rw[n]at e;cases e
 ·rw[n]at hc;cases hc
section
variable {X:Cx}{scope:Scope}{N cn:List Str}{nt:Nat}{caps:List Nat}{B:Bs}{Z:Kn}{elt tg iter:Expr}{ks:List Expr}{pos:Pos}{tgs:List Nat}{one:Bool}{fi:Rho->R (List D×List Nat×Rho)}{fc:Option (Rho->R (Bool×Rho))}{fe:Rho->R (Vl×Rho)}
theorem jed {pins:List (Addr×Obj)}{σ:L2.St}{H1:Hp}{s3:Shared}{fp:List Addr}(I3:Inv X pins σ H1 s3)(fo:∀b∈fp,(b∈X.ex\/X.s₀.heap.objs.size<=b)/\b≠X.env.locals/\(∀x c,X.env.cells.lookup x=some c->c≠b)/\∀p∈X.pn++pins,p.1≠b)
  {σ':L2.St}{H':Hp}{s':Shared}{E:Value->Shared->Prop}{pins':List (Addr×Obj)} (IY:Inv (cxComp X N scope s3 H1 fp E) pins' σ' H' s') {h':Heap} (sb:Heap.SameBut s3.heap.objs.size s'.heap h'):Inv X pins σ H' { s' with heap:=h' }:=
 I3.call' IY.os (Un.sameBut IY.base (jul _) sb) (HOk.sameBut IY.hok IY.free sb) IY.bare fo
theorem jgK {pins pins':List (Addr×Obj)}{σ σ':L2.St}{H1 H':Hp}{s3 s':Shared}{fp:List Addr}{E:Value->Shared->Prop}{ea:Addr}{cls acc:Value}{use:Option (Value->Sem Unit)}{Q:Value->Shared->Prop}(Tp:TopX X)(I3:Inv X pins σ H1 s3)
  (fo:∀b∈fp,(b∈X.ex\/X.s₀.heap.objs.size<=b)/\b≠X.env.locals/\(∀x c,X.env.cells.lookup x=some c->c≠b)/\∀p∈X.pn++pins,p.1≠b) (IY:Inv (cxComp X N scope s3 H1 fp E) pins' σ' H' s') (fly:FlyC (cxComp X N scope s3 H1 fp E) pins' ea cls H' s')
  (k:∀s'',Inv X pins σ H' s''->FlyC X pins ea cls H' s''->X.xe (.ref ea) s'') :
  notedBy @4 X.A (cxComp X N scope s3 H1 fp E).env (fun e s''=>compPost @4 X.A X.xe use Q acc s3.heap.objs.size (.error e) s'') (.ref ea) s':=by
 obtain⟨⟨a0,B,fl,c1,c2,c3,c4⟩,hn⟩:=fly;have IX:Inv X pins σ H' s':=jed I3 fo IY (Heap.SameBut.refl _ _);have old:∀{b:Addr}{o:Obj},s3.heap.get? b=some o->b ∉ frs X.stack->b ∉ fp->∃o',(PySem.W.hideAll B [s3.heap.objs.size]).get? b=some o':=fun {b o} e n nf=>by
  obtain⟨o',q⟩:=c1 b o e n nf;exact⟨o',PySem.W.hideAll_get _ q fun z=>absurd (List.mem_singleton.mp z) (jun (juh e))⟩
 have Hs:Has X pins H' (PySem.W.hideAll B [s3.heap.objs.size]):=by
  refine⟨fun b o e n nx=>?_,fun x c hf hc=>?_,fun p hp=>?_,fun a o e=>?_⟩
  ·obtain⟨o',e'⟩:=I3.base.there b o e nx;exact old e' n fun z=>(fo b z).1.elim nx fun q=>absurd (juh e) (Nat.not_lt.mpr q)
  ·obtain⟨v,o,ho,_⟩:=I3.cell x c hc;exact old ho (Inv.cellNot I3 hf hc) fun z=>(fo c z).2.2.1 x c hc rfl
  ·obtain⟨h1,h2,h3,h4,_⟩:=I3.pin p hp;refine old h1 (fun z=>?_) fun z=>(fo p.1 z).2.2.2 p hp rfl;rcases List.mem_cons.mp (I3.stkSub p.1 z)with z | z
   ·exact h3 z
   ·exact h4 z
  ·obtain⟨o',q⟩:=c4 a o e;refine⟨o',PySem.W.hideAll_get _ q fun z=>?_⟩;rw[List.mem_singleton.mp z,show H' s3.heap.objs.size=none from IY.free]at e;cases e
 have hst:=Tp.st;have nC:s3.heap.objs.size ∉ frs X.stack:=fun z=>by
  obtain⟨_,o,q,_⟩:=I3.stack.mem z;exact absurd (juh q) (jup _)
 have fl2:FlyA (PySem.W.hideAll B [s3.heap.objs.size]) (X.env::X.outer) ea cls a0 s'.heap:=by
  obtain⟨f,k1,k2,k3,oe,vs,T,oT,ts,he,hc,hd,h1,hnT,r⟩:=fl;have sub:∀{b:Addr},B.get? b=none->(PySem.W.hideAll B [s3.heap.objs.size]).get? b=none:=fun {b} q=>by
   cases e:(PySem.W.hideAll B [s3.heap.objs.size]).get? b with
   |none=>rfl
   |some o=>rw[PySem.W.of_hideAll _ e]at q;cases q
  refine⟨f,fun b o e=>k1 b o (PySem.W.of_hideAll _ e),sub k2,?_,oe,vs,T,oT,ts,he,hc,hd,h1,sub hnT,r⟩;rw[<-hst];exact jjH k3 fun b hb=>sub (k3.mem hb).1
 obtain⟨m,hns,_⟩:=IY.loc;have hns:s'.heap.Ns s3.heap.objs.size m:=hns;have frm:X.A.frames=some (X.env::X.outer):=by rw[<-hst];exact I3.ok.frames
 refine jgl (L:=X.env.locals) frm Tp.fr (show (cxComp X N scope s3 H1 fp E).env.frame=some X.env.locals from Tp.fr) fl2 fun h4 held up4=>?_;have fin:∃m,h4.Ns s3.heap.objs.size m/\∀h',Heap.SameBut s3.heap.objs.size h4 h'->∀cenv:Env,cenv.locals=s3.heap.objs.size->wpAny @4 X.A (PySem.passOn "comprehension.variables-let-go" (.ref ea) cenv:Sem Value) (fun _ _=>False) X.xe { s' with heap:=h' }:=by
  refine⟨m,up4.ns hns,fun h' sb cenv _=>?_⟩;refine jk3 (s:={ s' with heap:=h' }) (FlyA.but (FlyA.held held) (up4.ns hns) (PySem.W.hideAll_none _ (List.mem_singleton.mpr rfl)) (by rw[<-hst];exact nC) sb) fun h6 fl6 up6=>?_
  have I6:Inv X pins σ H' { s' with heap:=h6 }:=Inv.flownP (t':=s'.toks) IX Tp.fn Hs fl2.stays fl6.stays (fun b=>b≠s3.heap.objs.size) (fun b hb z=>nC (by rw[<-z,hst];unfold frs;rw[jtW,Tp.fr];exact jtI _ hb))
   (fun z=>nC (by rw[<-z,hst];unfold frs;rw[jtW,Tp.fr];exact jtJ)) fun b o nb e nf=>by
    obtain⟨sl,q⟩:=up4 b o e nf;obtain⟨sl2,q2⟩:=up6 b _ ((sb.2 b nb).trans q) nf;exact⟨sl2,q2⟩
  exact k _ I6 ⟨⟨a0,_,by rw[hst];exact fl6,Hs.s0,Hs.cl,Hs.pn,Hs.tr⟩,hn⟩
 cases use <;> exact fin
theorem CompOk.capLt (C:CompOk X scope N cn nt caps):∀j∈caps,j<X.N.length:=fun j hj=>by
 obtain⟨k,hk,e⟩:=List.getElem_of_mem hj;have hk':k<cn.length:=by rw[C.clen];exact hk
 obtain⟨h1,_⟩:=C.at_ k j cn[k] (jtH hk') (by rw[jtH hk,e])
 exact(List.getElem?_eq_some_iff.mp h1).1
theorem joh (hK:X.K=Z.K)(hc:X.calm=true)(C:CompOk X scope N cn nt caps)(hi:PI X tg iter (tI Z X B fi))
  (hT:∀s' H' fp E,TgOk @13 tg tgs one) (hlow:∀i∈tgs,i<nt)
  (hE:∀s' H' fp E B',PE @13 elt (tE Z @13 B' fe)) {xx:Bool} (Tp:xx=true->TopX X)
  (hk:(ks=[]/\fc=none)\/∃k g,ks=[k]/\fc=some g/\∀s' H' fp E B',PT @13 k (tT Z @13 B' g)) (hs:∀x,foldedSetIterable iter X.env x=pure x) :
  PE X (.ListComp elt [⟨tg,iter,ks,0⟩] scope pos) (tE Z X B fun ρ=>(fi ρ).bind fun t=>((compGo (jc2 tgs one nt caps fc fe) t.1 t.2.2).pass xx).bind fun ys=>.ok (.tmp (.l ys.1),unlk t.2.1 ys.2)):=by
 intro pins s σ H Q I hz1;obtain⟨F,ρ,r,h⟩:=hz1;rw[eval_ListComp];refine wpAny_comprehension_free (use:=none) rfl hs (ji4 (C.cells I)) C.kind C.names ?_;refine thn (hi pins s σ H (fun J H'=>∃(F':Addr->Prop) (t:List D×List Nat×Rho) (ls:List Addr),ItR Z B σ ρ F H t.2.2 F' H' t.2.1 ls/\ItmG Z (GK F' H' ls) J t.1/\Ok (XW Z X σ ρ H) (((compGo (jc2 tgs one nt caps fc fe) t.1 t.2.2).pass xx).bind fun ys=>.ok (.tmp (.l ys.1),unlk t.2.1 ys.2)) (Post Z B σ ρ F H Q)) I
  ⟨F,ρ,r,h.bind.imp (fun _ w=>w) fun t h1 F' H' J ls ir im=>⟨F',t,ls,ir,im,h1⟩⟩) fun v s1 h1=>thn h1 fun itv s2 hzz=>?_
 obtain⟨it,fp,tn,J,H2,e,I2,Tn,st2,f2,F2,t,ls,ir,im,q2⟩:=hzz;subst e;have fo:∀b∈fp,(b∈X.ex\/X.s₀.heap.objs.size<=b)/\b≠X.env.locals/\(∀x c,X.env.cells.lookup x=some c->c≠b)/\∀p∈X.pn++pins,p.1≠b:=fun b hb=>by
  obtain⟨f0,f1,f3,f4,f5,f6⟩:=f2 b hb;exact⟨f4,f1,f5,f6⟩
 refine jgA (fc:=fc) (RR:=fun acc C'=>compPost @4 X.A X.xe none (EP X pins σ Q) acc C') hK hc C I2 ir.sr (im.wk hK (fun l hl=>(ir.on l hl).1) Tn) (fun l hl=>(ir.on l hl).2) st2 f2 (fun s' H' E=>hT s' H' fp E) hlow (fun j hj=>?_) (fun s' H' E B'=>hE s' H' fp E B') ?_ rfl (fun z=>?_) ?_ ?_
 ·rw[ir.sr.len,I2.len];exact C.capLt j hj
 ·rcases hk with z | ⟨k,g,e1,e2,hk⟩
  ·exact .inl z
  ·exact .inr ⟨k,g,e1,e2,fun s' H' E B'=>hk s' H' fp E B'⟩
 ·rw[z,jgI]at q2;exact q2
 ·intro ys ρE E s3 l σ' F' H' s' vs hY hl I3 IY gE rE nF nO hl' rp;rw[hY,ja2]at q2;have q2:Post Z B σ ρ F H Q (.tmp (.l ys),unlk t.2.1 ρE):=q2;obtain⟨m,hn,_⟩:=IY.loc;refine⟨m,hn,fun h' sb=>?_⟩;exact⟨.ref l,H',jed I3 fo IY sb,rfl,q2 _ F' H' (ir.un σ ρE F' H' gE) rE.unlk ⟨l,rfl,nF,fun z=>nO z.unlk,ir.go.free hl,vs,hl',rp⟩⟩
 ·intro c E s3 l σ' H' s' pins' ea Cc hY hl I3 hC IY stl fly;rw[hY]at q2;obtain⟨hx,q2⟩:=jgJ q2;exact jgK (Tp hx) I3 fo IY fly fun s'' I'' fl''=>q2 pins H' s'' ea Cc hC I'' (Stl.go ir.go stl) fl''
end
theorem XD.comp {T:Tab}{G:Calls}{U:Nat->Nat->Bool}{Z:Kn}{n:Nat}{X:Cx}{sc:List @7}(D:XD T G U Z n X sc){scope:Scope}{N:List Str}{s:Shared}{H:Hp}{fp:List Addr}{E:Value->Shared->Prop}(nd:N.Nodup):XD { T with deep:=true } G U Z n (cxComp X N scope s H fp E) scope.names where
 hK:=D.hK
 calm:=D.calm
 nd:=nd
 room:=D.room
 un:=D.un
 sc:=fun x=>by
  show (relabel scope X.env).names.lookup x=_\/_/\(relabel scope X.env).names.lookup x=_;unfold relabel;simp only;rw[ja4 (c:=fun n k=>k == .free&&X.env.scope.kind == .function&&X.env.kindOf n==some .cell)];cases e:scope.names.lookup x with
  |none=>exact .inl rfl
  |some k=>
   simp only[Option.map_some];split
   ·rename_i h;simp only[juq,beq_iff_eq]at h;exact .inr ⟨by rw[h.1.1],rfl⟩
   ·exact .inl rfl
 blt:=D.blt
 defs:=D.defs
 cons:=D.cons
 excs:=D.excs
 ecl:=D.ecl
 sub:=D.sub
 top:=fun z=>nomatch z
section
variable {T:Tab}{G:Calls}{U:Nat->Nat->Bool}{Z:Kn}{m:Nat}{X:Cx}{sc:List (Str×NameKind)}{B:Bs}
theorem tE.blt {f:Bf}{E1:E}{σ:L2.St}{H:Hp}{Q:VK}{rr:List V->Hp->VK->Prop}(hr:∀x H Q,rD1 Z (bfD f) x H Q->rr [x] H Q)(h:tE Z X B (evE G U (.blt f E1)) σ H Q):tCB rr (jis (tE Z X B (evE G U E1)) jpe) σ H Q:=by
 have h2:tE Z X B (fun ρ=>(evE G U E1 ρ).bind fun p=>(deref p.1 p.2).bind fun x=>(bfD f x).bind fun v=>.ok (v,p.2)) σ H Q:=by simpa only[evE] using h
 obtain⟨F,ρ,r,h3⟩:=tE.one (fun x c=>jnT) (fun x i=>jlu) h2;exact⟨F,ρ,r,h3.imp (fun _ w=>w) fun p q v F' H' g r' rv=>hr v H' Q (q v F' H' g r' rv)⟩
theorem jjI:∀(a b:List Int),lexLt a b=HS.lx a b
 |[],[]=>rfl
 |[],_::_=>rfl
 |_::_,[]=>rfl
 |x::xs,y::ys=>by simp only[lexLt,HS.lx,jjI xs ys]
theorem jda (x:List Int):∀(l:List @9),(ji0 x l).Perm (x::l)
 |[]=>.refl _
 |y::r=>by
  simp only[ji0];split
  ·exact((jda x r).cons y).trans (.swap x y r)
  ·exact .refl _
theorem jaA:∀(l:List @9),(jbn l).Perm l
 |[]=>.refl _
 |x::r=>(jda x (jbn r)).trans ((jaA r).cons x)
theorem jeU {x:List Int}:∀{l:List @9},HS.Rise l->HS.Rise (ji0 x l)
 |[],_=>List.pairwise_singleton _ _
 |y::r,h=>by
  obtain⟨h1,h2⟩:=List.pairwise_cons.mp h;simp only[ji0];split
  ·rename_i e;refine List.pairwise_cons.mpr ⟨fun z hz=>?_,jeU h2⟩;rcases List.mem_cons.mp ((jda x r).mem_iff.mp hz)with rfl | hz
   ·rw[jjI]at e;exact HS.jfC e
   ·exact h1 z hz
  ·rename_i e;have e:HS.lx y x=false:=by rw[<-jjI];simpa using e
   refine List.pairwise_cons.mpr ⟨fun z hz=>?_,h⟩;rcases List.mem_cons.mp hz with rfl | hz
   ·exact e
   ·exact HS.jd1 e (h1 z hz)
theorem jct:∀(l:List @9),HS.Rise (jbn l)
 |[]=>List.Pairwise.nil
 |x::r=>jeU (jct r)
noncomputable def Zf (Z:Kn)(F:Addr->Prop)(H:Hp)(k:List Int)(b:Addr):Prop:=FT Z.K F H b (k.map V.int)
theorem jee {F:Addr->Prop}{H:Hp}:∀{ds:List D}{kss:List @9}{vs:List V},jaN ds=some kss->Reps Z F H ds vs->KysV (Zf Z F H) kss vs
 |[],kss,vs,h,r=>by simp only[Reps]at r;subst r;cases h;exact .nil
 |d::ds,kss,vs,h,r=>by
  obtain⟨v,us,rfl,r1,r2⟩:=r.uncons;cases d with
  |tup xs=>
   simp only[jaN]at h;split at h
   ·rename_i k ks e1 e2;cases h;simp only[Rep]at r1;obtain⟨a,ws,rfl,ft,rr⟩:=r1;cases jbw e1 rr;exact .cons ⟨a,rfl,ft⟩ (jee e2 r2)
   ·cases h
  |_=>cases h
theorem jeV {F:Addr->Prop}{H:Hp}{kss:List @9}{vs:List V}(h:KysV (Zf Z F H) kss vs):Reps Z F H (kss.map jrn) vs:=by
 induction h with
 |nil=>exact .nil
 |@cons k _ _ _ h p ih=>
  obtain⟨b,e,h⟩:=h;subst e;refine .cons ?_ ih;simp only[jrn,Rep];refine⟨b,_,rfl,h,?_⟩;clear h p ih;induction k with
  |nil=>exact .nil
  |cons i k ih=>exact .cons (by simp only[Rep]) ih
theorem jgL:∀{ds:List D}{kss:List @9},jaN ds=some kss->kss.length=ds.length
 |[],kss,h=>by cases h;rfl
 |d::ds,kss,h=>by
  cases d with
  |tup xs=>
   simp only[jaN]at h;split at h
   ·rename_i k ks e1 e2;cases h;rw[jtR,jtR,jgL e2]
   ·cases h
  |_=>cases h
theorem jeW {kss:List @9}{w:Vl}(h:jcX kss=.ok w):w=.tmp (.l ((jbn kss).map jrn))/\(∀k∈kss,k≠[])/\kss.length<4000:=by
 unfold jcX at h;split at h
 ·rename_i hc;cases h;simp only[juq,List.all_eq_true,decide_eq_true_eq]at hc;refine⟨rfl,fun k hk z=>?_,hc.2⟩;have:=hc.1 k hk;rw[z]at this;cases this
 ·cases h
theorem jmQ (hZ:X.K=Z.K){F:Addr->Prop}{H:Hp}:Zok X.K H (Zf Z F H):=fun k b h=>by rw[hZ];exact h.sq
theorem jjJ (hZ:X.K=Z.K):∀x H Q,rD1 Z (bfD .sorted) x H Q->rSrtU X [x] H Q:=by
 intro x H Q hz1;obtain⟨F,d,w,dm,rp,hw,h⟩:=hz1;cases d with
 |lst xs=>
  simp only[bfD]at hw;cases e:jaN xs with
  |none=>rw[e]at hw;cases hw
  |some kss=>
   rw[e]at hw;obtain⟨rfl,h1,h2⟩:=jeW hw;obtain⟨a,vs,rfl,ft,r⟩:=rp.lst;refine .l ⟨a,vs,kss,Zf Z F H,rfl,by rw[hZ];exact ft,jmQ hZ,jee e r,h1,by rw[<-r.length,<-jgL e];exact h2,fun kss' ws hp hr hk l hl=>?_⟩
   rw[HS.jcW (hp.trans (jaA kss).symm) hr (jct kss)]at hk;exact h.lst dm (jeV hk) l hl
 |dct ks vs=>
  simp only[bfD]at hw;cases e:jaN ks with
  |none=>rw[e]at hw;cases hw
  |some kss=>
   rw[e]at hw;obtain⟨rfl,h1,h2⟩:=jeW hw;obtain⟨a,us,ws,ys,rfl,⟨ep,ft⟩,r,_,i⟩:=rp.dct;have hK:=jee e r;rw[i.us]at hK;have hl2:=Paired.length hK;rw[jtQ]at hl2;refine .d a ys ep kss (Zf Z F H) rfl ft (jmQ hZ) hK h1 (by rw[<-hl2];exact h2) fun kss' ws hp hr hk l hl=>?_
   rw[HS.jcW (hp.trans (jaA kss).symm) hr (jct kss)]at hk;exact h.lst dm (jeV hk) l hl
 |_=>simp only[bfD,jat]at hw;cases hw
theorem jmR:∀{ks ys:List @9},ks.Nodup->(∀y∈ks,y∈ys)->ks.length<=ys.length
 |[],_,_,_=>Nat.zero_le _
 |x::ks,ys,nd,h=>by
  obtain⟨h1,h2⟩:=List.nodup_cons.mp nd;have hx:=h x jtJ;have:=jmR (ys:=ys.erase x) h2 fun y hy=>(List.mem_erase_of_ne (show y≠x from fun e=>h1 (by rw[<-e];exact hy))).mpr (h y (jtI _ hy))
  rw[List.length_erase_of_mem hx]at this;have:=List.length_pos_of_mem hx;rw[jtR];omega
noncomputable def jsV (quiet:Bool)(f:Str):Option Bf:=
 alt (f == "len") (some .len) <|
 alt (f == "tuple") (some .tuple) <|
 alt (f == "list") (some .list) <|
 alt (f == "abs") (some .abs) <|
 alt (f == "int") (some .int) <|
 gd quiet <|
 alt (f == "all") (some .all) <|
 alt (f == "any") (some .any) <|
 alt (f == "sum") (some .sum) <|
 alt (f == "min") (some .min) <|
 alt (f == "max") (some .max) <|
 alt (f == "sorted") (some .sorted) <|
 none
theorem joi (D:XD T G U Z m X sc){f:Str}{g:Bf}{a:Expr}{E1:E}{p pos:Pos}(hf:knd sc f=2)(hb:jd9 f=false)(S:PE X a (tE Z X B (evE G U E1)))(ns:∀e q,a≠.Starred e q)(hg:jsV T.quiet f=some g) :
  PE X (.Call (.Name f p) [a] [] pos) (tE Z X B (evE G U (.blt g E1))):=by
 have hpa:PA X [a] (jis (tE Z X B (evE G U E1)) jpe):=jaC S jbC (jad ns);have he:starEach [a] X.env=(false,eval a X.env)::starEach [] X.env:=jad ns;have hd:=(jfq hb).1;have hn:=(jfq hb).2;rcases jap hg with ⟨e,hg⟩ | hg
 ·cases hg;cases jb8 e;exact PE.imp (jaY ((call_len_seq.or jew).or jiY) (D.gl hf) (D.blt _ @6) PySem.boot_len hpa hn hd he rfl) fun σ H Q q=>tE.blt (jqi D.hK) q
 rcases jap hg with ⟨e,hg⟩ | hg
 ·cases hg;cases jb8 e;exact PE.imp (jbG jdX (D.gl hf) (D.blt _ @6) @6 hpa hn hd he rfl) fun σ H Q q=>tE.blt (jlt D.hK) q
 rcases jap hg with ⟨e,hg⟩ | hg
 ·cases hg;cases jb8 e;exact PE.imp (jbG jex (D.gl hf) (D.blt _ @6) @6 hpa hn hd he rfl) fun σ H Q q=>tE.blt (jnS D.hK) q
 rcases jap hg with ⟨e,hg⟩ | hg
 ·cases hg;cases jb8 e;exact PE.imp (jaY jkP (D.gl hf) (D.blt _ @6) @6 hpa hn hd he rfl) fun σ H Q q=>tE.blt jqm q
 rcases jap hg with ⟨e,hg⟩ | hg
 ·cases hg;cases jb8 e;exact PE.imp (jbG jir (D.gl hf) (D.blt _ @6) @6 hpa hn hd he rfl) fun σ H Q q=>tE.blt jqn q
 obtain⟨hq,hg⟩:=jam hg;have hc:X.calm=true:=D.calm hq;rcases jap hg with ⟨e,hg⟩ | hg
 ·cases hg;cases jb8 e;exact PE.imp (jaY (jeA hc true) (D.gl hf) (D.blt _ @6) @6 hpa hn hd he rfl) fun σ H Q q=>tE.blt (f:=.all) (jmK D.hK true) q
 rcases jap hg with ⟨e,hg⟩ | hg
 ·cases hg;cases jb8 e;exact PE.imp (jaY (jeA hc false) (D.gl hf) (D.blt _ @6) @6 hpa hn hd he rfl) fun σ H Q q=>tE.blt (f:=.any) (jmK D.hK false) q
 rcases jap hg with ⟨e,hg⟩ | hg
 ·cases hg;cases jb8 e;exact PE.imp (jaY (jls hc) (D.gl hf) (D.blt _ @6) @6 hpa hn hd he rfl) fun σ H Q q=>tE.blt (jqj D.hK) q
 rcases jap hg with ⟨e,hg⟩ | hg
 ·cases hg;cases jb8 e;exact PE.imp (jaY (jjm hc) (D.gl hf) (D.blt _ @6) @6 hpa hn hd he rfl) fun σ H Q q=>tE.blt (jqk D.hK) q
 rcases jap hg with ⟨e,hg⟩ | hg
 ·cases hg;cases jb8 e;exact PE.imp (jaY (jjn hc) (D.gl hf) (D.blt _ @6) @6 hpa hn hd he rfl) fun σ H Q q=>tE.blt (jql D.hK) q
 rcases jap hg with ⟨e,hg⟩ | hg
 ·cases hg;cases jb8 e;exact PE.imp (jaY (jeF hc) (D.gl hf) (D.blt _ @6) @6 hpa hn hd he rfl) fun σ H Q q=>tE.blt (jjJ D.hK) q
 exact jaf hg
theorem joj {K:Frag}{H:Hp}{I a:Addr}{o:HO}{vs:List V}(h:SqL K H a vs)(hn:H I=none):SqL K (upd H I o) a vs:=by
 rcases h with (h | ⟨u,h⟩) | h
 ·exact .inl (.inl (by rw[jac (jab h hn)];exact h))
 ·exact .inl (.inr ⟨u,by rw[jac (jab h hn)];exact h⟩)
 ·exact .inr h
noncomputable def jok (X:Cx):List V->Hp->VK->Prop:=fun xs H Q=>∃p ys,xs=[.ref p]/\SqL X.K H p ys/\∀I,H I=none->Q (.ref I) (upd H I (.ext (jiG X I p ys.length)))
noncomputable def jol (X:Cx):List V->Hp->VK->Prop:=fun xs H Q=>∃I p ys,xs=[.ref I]/\H I=some (.ext (jiG X I p ys.length))/\SqL X.K H p ys/\∀l,del H I l=none->Q (.ref l) (upd (del H I) l (.lst ys.reverse))
theorem jom (hZ:X.K=Z.K):∀x H Q,rD1 Z (bfD .revl) x H Q->jok X [x] H fun v H'=>jol X [v] H' Q:=by
 intro x H Q hz1;obtain⟨F,d,w,dm,rp,hw,h⟩:=hz1;cases d with
 |lst xs=>
  simp only[bfD]at hw;cases hw;obtain⟨a,vs,rfl,ft,r⟩:=rp.lst;have sq:SqL X.K H a vs:=by rw[hZ];exact ft
  refine⟨a,vs,rfl,sq,fun I hI=>⟨I,a,vs,rfl,jah,joj sq hI,fun l hl=>?_⟩⟩;rw[jnA hI]at hl ⊢;exact h.lst dm r.reverse l hl
 |_=>simp only[bfD,jat]at hw;cases hw
noncomputable def jon (f g:Str):Option Bf:=
 alt (f == "list" && g == "reversed") (some .revl) <|
 none
theorem jqC {a b c d:Str}(h:(a==b&&c==d)=true):a=b/\c=d:=by simpa using h
theorem jlR (D:XD T G U Z m X sc)(hq:T.quiet=false){f g:Str}{bf:Bf}{b:Expr}{E1:E}{p p2 pos pos2:Pos}(hf:knd sc f=2)(hb:jd9 f=false)(hg:knd sc g=2)(hb2:jd9 g=false)(S:PE X b (tE Z X B (evE G U E1)))(ns:∀e q,b≠.Starred e q)(hn:jon f g=some bf) :
  PE X (.Call (.Name f p) [.Call (.Name g p2) [b] [] pos2] [] pos) (tE Z X B (evE G U (.blt bf E1))):=by
 have hc:X.calm=true:=D.calm hq;have hpa:PA X [b] (jis (tE Z X B (evE G U E1)) jpe):=jaC S jbC (jad ns);have he:starEach [b] X.env=(false,eval b X.env)::starEach [] X.env:=jad ns;have ns2:∀e q,(.Call (.Name g p2) [b] [] pos2:Expr)≠.Starred e q:=fun e q z=>by cases z
 have he2:starEach [.Call (.Name g p2) [b] [] pos2] X.env=(false,eval (.Call (.Name g p2) [b] [] pos2) X.env)::starEach [] X.env:=jad ns2;have hd:=(jfq hb).1;have hnm:=(jfq hb).2;have hd2:=(jfq hb2).1;have hnm2:=(jfq hb2).2;rcases jap hn with ⟨e,hn⟩ | hn
 ·cases hn;obtain⟨rfl,rfl⟩:=jqC e;have pin:=jbG (p:=p2) (pos:=pos2) (show CallR X (.type "reversed") (jok X)from jdw) (D.gl hg) (D.blt _ @6) @6 hpa hnm2 hd2 he rfl
  exact PE.imp (jbG (p:=p) (pos:=pos) (show CallR X (.type "list") (jol X)from jdZ hc) (D.gl hf) (D.blt _ @6) @6 (jaC pin jbC he2) hnm hd he2 rfl) fun σ H Q q=>tE.blt (f:=.revl) (rr:=fun xs H Q=>jok X xs H fun v H'=>jol X [v] H' Q) (jom D.hK) q
 exact jaf hn
end
end DJ
namespace DJ
open PySem PySem.Spec PyProof.Rows L2
noncomputable def jsW:Operator->Option Op
 |.Add=>some .add | .Sub=>some .sub | .Mult=>some .mul | .FloorDiv=>some .fdiv | .Mod=>some .mod | .Pow=>some .pow
 |_=>none
noncomputable def jsX:CmpOp->Option Cm
 |.Eq=>some .eq | .NotEq=>some .ne | .Lt=>some .lt | .LtE=>some .le | .Gt=>some .gt | .GtE=>some .ge | .Is=>some .isn | .IsNot=>some .notn
 |.In=>some .isin | .NotIn=>some .notin
noncomputable def jdb (e:Expr):Option (List Str×Bool):=jnU (jhz e) (fun x=>some ([x],true)) ((jlw e).bind fun es=>(mapO jhz es).map fun xs=>(xs,false))
theorem jjK {e:Expr}{xs:List Str}{one:Bool}(h:jdb e=some (xs,one)):(∃x p,e=.Name x p/\xs=[x]/\one=true)\/∃es k p,e=.Tuple es k p/\mapO jhz es=some xs/\one=false:=by
 replace h:=jbQ h;rcases h with ⟨x,hx,h⟩ | h
 ·obtain⟨p,rfl⟩:=ja1 hx;cases h;exact .inl ⟨x,p,rfl,rfl,rfl⟩
 ·replace h:=jag h;obtain⟨es,he,h⟩:=h;obtain⟨k,p,rfl⟩:=jc5 he;replace h:=jal h;obtain⟨ys,hy,h⟩:=h;cases h;exact .inr ⟨es,k,p,rfl,hy,rfl⟩
noncomputable def ndp (xs:List Str):Bool:=match xs with
 |[]=>true
 |x::r=>!r.contains x&&ndp r
noncomputable def jgM:Expr->Option (Str×List Expr)
 |.Call f as ks _=>gd (!ks.isEmpty) ((jhz f).map fun x=>(x,as))
 |_=>none
theorem jdM {e:Expr}{p:Str×List Expr}(h:jgM e=some p):∃np pos,e=.Call (.Name p.1 np) p.2 [] pos:=by
 cases e with
 |Call f as ks pos=>
  replace h:=jam h;obtain⟨hk,h⟩:=h;replace h:=jal h;obtain⟨x,hx,rfl⟩:=h;obtain⟨np,rfl⟩:=ja1 hx;cases jbR hk;exact⟨np,pos,rfl⟩
 |_=>exact jaf h
section
variable (T:Tab)
noncomputable def jr6 (tr:Expr->Option E)(as:List Expr):Option It:=match as with
 |[a]=>(tr a).map .rng1
 |_=>none
noncomputable def isB (sc:List @7)(f:Str):Bool:=knd sc f==2&&(jdy T.defs f).isNone
noncomputable def jsY (sc:List @7)(tr:Expr->Option E)(one:Bool)(e:Expr)(c:Str×List Expr):Option It:=
 alt (c.1 == "range" && isB T sc c.1) (jr6 tr c.2) <|
 alt (c.1 == "zip" && isB T sc c.1) (gd one ((jsU c.2).bind fun p=>o2 (tr p.1) (tr p.2) .zip)) <|
 alt (c.1 == "enumerate" && isB T sc c.1) (gd one ((jjp c.2).bind fun a=>(tr a).map .enum)) <|
 (tr e).map .seq
noncomputable def jpj (sc:List @7)(tr:Expr->Option E)(one:Bool)(e:Expr):Option It:=match jgM e with
 |some c=>jsY T sc tr one e c
 |none=>(tr e).map .seq
noncomputable def jr7 (tr:Expr->Option E):Option Expr->Option Oe
 |none=>some Oe.none
 |some e=>(tr e).map Oe.some
noncomputable def jjL (tr:Expr->Option E):List Expr->Option Oe
 |[]=>some Oe.none
 |[k]=>(tr k).map Oe.some
 |_=>none
noncomputable def jjM (sc:List @7)(f:Str)(as:List Expr):Option (Bf×Expr):=
 (jjp as).bind fun c=>(jgM c).bind fun p=>(jjp p.2).bind fun b=>gd (T.quiet || jd9 p.1 || knd sc p.1 != 2 || (jdy T.defs p.1).isSome) ((jon f p.1).map fun bf=>(bf,b))
noncomputable def jtp:Const->Option D
 |.none=>some .non
 |.bool v=>some (.bl v)
 |.int i=>some (.int i)
 |.str x=>some (.str x)
 |_=>none
noncomputable def jr8 (sc:List @7)(N:List Str)(x:Str):Option E:=
 gd (jd9 x) (alt (knd sc x==1) ((jdy N x).map .var) (gd (knd sc x != 2) ((T.cons.lookup x).map .lit)))
noncomputable def unE:UnaryOp->Option (E->E)
 |.USub=>some .neg
 |.Not=>some .not
 |_=>none
noncomputable def boE:PySem.BoolOp->E->E->E
 |.And=>.and
 |.Or=>.or
noncomputable def joo:Expr->Option (Option Expr×Option Expr×Option Expr)
 |.Slice a b c _=>some (a,b,c)
 |_=>none
theorem jjN {e:Expr}{p:Option Expr×Option Expr×Option Expr}(h:joo e=some p):∃q,e=.Slice p.1 p.2.1 p.2.2 q:=by
 cases e with
 |Slice a b c q=>cases h;exact⟨q,rfl⟩
 |_=>exact jaf h
noncomputable def jr9:Expr->Option (Expr×Str×Pos)
 |.Attribute v m p=>some (v,m,p)
 |_=>none
theorem jgN {e:Expr}{p:Expr×Str×Pos}(h:jr9 e=some p):e=.Attribute p.1 p.2.1 p.2.2:=by
 cases e with
 |Attribute v m p=>cases h;rfl
 |_=>exact jaf h
noncomputable def jsa (tr:Expr->Option E)(a i:Expr):Option E:=match joo i with
 |none=>o2 (tr a) (tr i) .idx
 |some p=>gd p.2.2.isSome (o3 (tr a) (jr7 tr p.1) (jr7 tr p.2.1) .slc)
noncomputable def jtq (sc:List @7)(tr:Expr->Option E)(f:Str)(a b:Expr):Option E:=
 alt (f == "isinstance") ((jjE T sc b).bind fun ks=>gd (!decide (ks.length<=100)) ((tr a).map fun a=>.isi a ks)) <|
 none
noncomputable def jsb (sc:List @7)(tr:Expr->Option E)(f:Str)(as:List Expr):Option E:=match jjM T sc f as with
 |some p=>(tr p.2).map (.blt p.1)
 |none=>match as with
  |[a]=>o2 (jsV T.quiet f) (tr a) .blt
  |[a,b]=>jtq T sc tr f a b
  |_=>none
noncomputable def jsc (sc:List @7)(tr:Expr->Option E)(f:Str)(as:List Expr):Option E:=
 gd (jd9 f || knd sc f != 2) (match jdy T.defs f with
  |some k=>gd T.quiet ((mapO tr as).map fun es=>.call k ((T.flags[k]?).getD []) (jgD es))
  |none=>jsb T sc tr f as)
noncomputable def jtr (sc:List @7)(N:List Str)(tr:Expr->Option E)(as:List Expr)(pos:Pos)(p:Expr×Str×Pos):Option E:=
 (jhz p.1).bind fun x=>gd (jd9 x || knd sc x != 1 || !(p.2.1 == "pop") || !(p.2.2.endLine == pos.line) || !as.isEmpty) ((jdy N x).map .pop)
noncomputable def fnE (sc:List @7)(N:List Str)(tr:Expr->Option E)(as:List Expr)(pos:Pos)(f:Expr):Option E:=
 jnU (jhz f) (fun f=>jsc T sc tr f as) <| (jr9 f).bind (jtr sc N tr as pos)
noncomputable def jsd (tr:Expr->Option E):List (Option Expr)->List Expr->Option E
 |[],[]=>some .emp
 |[some k],[v]=>o2 (tr k) (tr v) .dis
 |_,_=>none
noncomputable def jqD (sc:List @7)(scope:Scope)(xs cn:List Str):Bool:=
 T.quiet || !(scope.kind == .function) || !(scope.names.all fun p=>p.2 != .cell || scope.names.lookup p.1==some .cell) || !(scope.names.all fun p=>p.2 != .local || scope.names.lookup p.1==some .local)
     || !(ndp (xs++cn)) || !(xs.all fun x=>scope.names.lookup x==some .local || scope.names.lookup x==some .cell) || !(cn.all fun x=>scope.names.lookup x==some .free&&(sc.lookup x==some .cell || sc.lookup x==some .free))
noncomputable def jdz (scope:Scope):List Str:=(scope.names.filter fun p=>p.2 == .free).map (·.1)
noncomputable def jqE (tr trI:List @7->List Str->Expr->Option E)(sc:List @7)(N:List Str)(elt:Expr)(scope:Scope)(g:Comprehension):Option E:=
 gd (!(g.is_async==0)) ((jdb g.target).bind fun p=>gd (jqD T sc scope p.1 (jdz scope)) (o4 (mapO (jdy N) (jdz scope)) (jpj T sc (tr sc N) p.2 g.iter) (trI scope.names (p.1++jdz scope) elt) (jjL (trI scope.names (p.1++jdz scope)) g.ifs)
  fun caps it elt c=>.comp elt (List.range p.1.length) p.2 p.1.length caps it c (!T.deep)))
noncomputable def jts (tr trI:List @7->List Str->Expr->Option E)(sc:List @7)(N:List Str):Expr->Option E
 |.Constant c _ _=>(jtp c).map .lit
 |.Name x _=>jr8 T sc N x
 |.BinOp l o r _=>o3 (jsW o) (tr sc N l) (tr sc N r) .bin
 |.UnaryOp o a _=>o2 (unE o) (tr sc N a) fun f a=>f a
 |.BoolOp o vs _=>(mapO (tr sc N) vs).bind (jeS (boE o))
 |.Compare a os cs _=>o2 (jjp os) (jjp cs) Prod.mk |>.bind fun p=>gd (behindInMarks p.1 p.2) (o3 (jsX p.1) (tr sc N a) (tr sc N p.2) .cmp)
 |.IfExp c a b _=>o3 (tr sc N c) (tr sc N a) (tr sc N b) .ite
 |.Tuple es _ _=>(mapO (tr sc N) es).map fun es=>.tup (jgD es)
 |.List es _=>(mapO (tr sc N) es).map fun es=>.lst (jgD es)
 |.Dict ks vs _=>jsd (tr sc N) ks vs
 |.Subscript a i _=>jsa (tr sc N) a i
 |.Call f as ks pos=>gd (!ks.isEmpty) (fnE T sc N (tr sc N) as pos f)
 |.ListComp elt gens scope _=>(jjp gens).bind (jqE T tr trI sc N elt scope)
 |_=>none
end
noncomputable def trE:Tab->Nat->List @7->List Str->Expr->Option E
 |_,0=>fun _ _ _=>none
 |T,n+1=>jts T (trE T n) (trE { T with deep:=true } n)
theorem jop {op:Operator}{o:Op}(h:jsW op=some o):op=o.py:=by cases op <;> cases h <;> rfl
theorem joq {op:CmpOp}{o:Cm}(h:jsX op=some o):op=o.py:=by cases op <;> cases h <;> rfl
noncomputable def Lr {α:Type}(r r':R α):Prop:=r=.stk\/r=r'
theorem Lr.refl {α:Type}{r:R α}:Lr r r:=.inr rfl
theorem Lr.bind {α β:Type}{r r':R α}{f g:α->R β}(h:Lr r r')(k:∀a,Lr (f a) (g a)):Lr (r.bind f) (r'.bind g):=by
 rcases h with rfl | rfl
 ·exact .inl rfl
 ·cases r with
  |ok a=>exact k a
  |err c=>exact .inr rfl
  |stk=>exact .inl rfl
theorem Lr.ok {α:Type}{W:Nat->Prop}{r r':R α}{Q:α->Prop}(h:Lr r r')(q:Ok W r Q):Ok W r' Q:=by
 rcases h with rfl | rfl
 ·exact False.elim q
 ·exact q
theorem Lr.deref {v:Vl}{ρ:Rho}:Lr (deref v []) (deref v ρ):=by
 cases v with
 |dat d=>exact .inr rfl
 |tmp o=>exact .inr rfl
 |slot i=>exact .inl (by simp[DJ.deref])
structure Says (G:Calls)(U:Nat->Nat->Bool)(Z:Kn)(X:Cx)(e:Expr)(E':E):Prop where
 pe:∀B,PE X e (tE Z X B (evE G U E'))
 pt:∀B,PT X e (tT Z X B (evT G U E'))
 ns:∀a p,e≠.Starred a p
section
variable {T:Tab}{G:Calls}{U:Nat->Nat->Bool}{Z:Kn}{m:Nat}{X:Cx}{sc:List (Str×NameKind)}
theorem jgO {α β:Type}{f:α->Option β}:∀{as:List α}{bs:List β},mapO f as=some bs->as.length=bs.length
 |[],bs,h=>by cases h;rfl
 |a::as,bs,h=>by
  obtain⟨b,bs',_,h2,rfl⟩:=jaw h;rw[jtR,jtR,jgO h2]
theorem jb9 {α β:Type}{f:α->Option β}{P:α->β->Prop}(k:∀a b,f a=some b->P a b):∀{as:List α}{bs:List β},mapO f as=some bs->Paired P as bs
 |[],bs,h=>by cases h;exact .nil
 |a::as,bs,h=>by
  obtain⟨b,bs',h1,h2,rfl⟩:=jaw h;exact .cons (k a b h1) (jb9 k h2)
theorem jgP {α β:Type}{f:α->Option β}:∀{as:List α}{bs:List β}{i:Nat}{a:α}{b:β},mapO f as=some bs->as[i]?=some a->bs[i]?=some b->f a=some b
 |[],_,_,_,_,_,e,_=>by simp at e
 |x::as,bs,i,a,b,h,e1,e2=>by
  obtain⟨y,bs',h1,h2,rfl⟩:=jaw h;cases i with
  |zero=>simp at e1 e2;rw[<-e1,<-e2];exact h1
  |succ i=>exact jgP h2 (by simpa using e1) (by simpa using e2)
theorem Says.mk' (hK:X.K=Z.K){e:Expr}{E':E}(pe:∀B,PE X e (tE Z X B (evE G U E')))(he:∀whole,isTrue e X.env whole=(do let v <-whole;standAt e.pos;holding [v] (truthy v)))(ns:∀a p,e≠.Starred a p)(hl:∀ρ,Lr (evT G U E' ρ) (trF (evE G U E') ρ)):Says G U Z X e E':=
 ⟨pe,fun B=>PT.imp (jr1 hK (pe B) he) fun σ H Q ⟨F,ρ,r,q⟩=>⟨F,ρ,r,(hl ρ).ok q⟩,ns⟩
theorem Lr.none {α:Type}{r:R α}:Lr .stk r:=.inl rfl
theorem jgQ {n:Nat}(D:XD T G U Z m X sc)(ih:∀e E',trE T n sc X.N e=some E'->Says G U Z X e E'){iter tg:Expr}{it:It}{one:Bool}(h1:one=false->∃es k pos,tg=.Tuple es k pos)(h:jpj T sc (trE T n sc X.N) one iter=some it)(B:Bs) :
  PI X tg iter (tI Z X B (evI G U it)):=by
 have gen:∀{e:Expr}{it:It},(trE T n sc X.N e).map It.seq=some it->PI X tg e (tI Z X B (evI G U it)):=fun {e it} h=>by
  cases q:trE T n sc X.N e with
  |none=>rw[q]at h;cases h
  |some E'=>
   rw[q]at h;cases h;have:=jqz (tg:=tg) D.hK ((ih e E' q).pe B);have ev:(fun ρ=>(evE G U E' ρ).bind fun p=>jaX p.1 p.2)=evI G U (.seq E'):=by funext ρ;simp only[evI]
   rwa [ev]at this
 unfold jpj at h;cases hc:jgM iter with
 |none=>rw[hc]at h;exact gen h
 |some c=>
  rw[hc]at h;obtain⟨p,pos,rfl⟩:=jdM hc;obtain⟨f,as⟩:=c;replace h:jsY T sc (trE T n sc X.N) one _ (f,as)=some it:=h;replace h:=jap h;rcases h with ⟨hf,h⟩ | h
  ·simp only[isB,juq,beq_iff_eq]at hf;obtain⟨hf,hk,_⟩:=hf;subst hf;cases as with
   |nil=>exact jaf h
   |cons a r=>
    cases r with
    |nil=>
     replace h:=jal h;obtain⟨E',q,rfl⟩:=h;have S:=ih a E' q;have:=joa (tg:=tg) (p:=p) (pos:=pos) (D.gl hk) (D.blt _ @6) (S.pe B) S.ns
     rwa [show (fun ρ=>(evE G U E' ρ).bind fun p=>(deref p.1 p.2).bind fun x=>(jeH x).bind fun xs=>R.ok (xs,([]:List Nat),p.2))=evI G U (.rng1 E')by funext ρ;simp only[evI]]at this
    |cons b r=>
     exact jaf h
  replace h:=jap h;rcases h with ⟨hf,h⟩ | h
  ·simp only[isB,juq,beq_iff_eq]at hf;obtain⟨hf,hk,_⟩:=hf;subst hf;replace h:=jam h;obtain⟨ho,h⟩:=h;replace h:=jag h;obtain⟨⟨a,b⟩,h2,h⟩:=h;cases jlv h2;obtain⟨es,k,pos',rfl⟩:=h1 ho;replace h:=jb1 h;obtain⟨Ea,Eb,qa,qb,rfl⟩:=h;have Sa:=ih a Ea qa;have Sb:=ih b Eb qb;have:=job (es:=es) (n:=k) (pos':=pos') (p:=p) (pos:=pos) D.hK (D.gl hk) (D.blt _ @6) (Sa.pe B) Sa.ns (Sb.pe B) Sb.ns
   rwa [show (fun ρ=>(evE G U Ea ρ).bind fun p=>(evE G U Eb p.2).bind fun q=>(jan p.1 q.2).bind fun x=>(jan q.1 x.2.2).bind fun y=>R.ok (jeI x.1 y.1,x.2.1++y.2.1,y.2.2))=evI G U (.zip Ea Eb)by funext ρ;simp only[evI]]at this
  replace h:=jap h;rcases h with ⟨hf,h⟩ | h
  ·simp only[isB,juq,beq_iff_eq]at hf;obtain⟨hf,hk,_⟩:=hf;subst hf;replace h:=jam h;obtain⟨ho,h⟩:=h;replace h:=jag h;obtain⟨a,h2,h⟩:=h;cases ja0 h2;obtain⟨es,k,pos',rfl⟩:=h1 ho;replace h:=jal h;obtain⟨E',q,rfl⟩:=h;have S:=ih a E' q;have:=jlM (es:=es) (n:=k) (pos':=pos') (p:=p) (pos:=pos) D.hK (D.gl hk) (D.blt _ @6) (S.pe B) S.ns
   rwa [show (fun ρ=>(evE G U E' ρ).bind fun p=>(jan p.1 p.2).bind fun x=>R.ok (jdx 0 x.1,x.2.1,x.2.2))=evI G U (.enum E')by funext ρ;simp only[evI]]at this
  exact gen h
theorem jdN {n:Nat}{N:List Str}{one:Bool}{iter:Expr}{it:It}(h:jpj T sc (trE T n sc N) one iter=some it):∀a b c,iter≠.Set a b c:=by
 intro a b c z;subst z;cases n with
 |zero=>exact jaf h
 |succ n=>exact jaf h
theorem jeX:∀{xs:List Str},ndp xs=true->xs.Nodup
 |[],_=>List.nodup_nil
 |x::r,h=>by
  simp only[ndp,juq,Bool.not_eq_true']at h;refine List.nodup_cons.mpr ⟨fun z=>?_,jeX h.2⟩;rw[List.contains_iff_mem.mpr z]at h;exact absurd h.1 (by decide)
theorem jjO {es:List Expr}{xs:List Str}(h:mapO jhz es=some xs):∃ps:List Pos,es.length=xs.length/\ps.length=xs.length/\es=(xs.zip ps).map fun p=>Expr.Name p.1 p.2:=by
 induction es generalizing xs with
 |nil=>cases h;exact⟨[],rfl,rfl,rfl⟩
 |cons e es ih=>
  obtain⟨x,xs',h1,h2,rfl⟩:=jaw h;obtain⟨ps,l1,l2,e2⟩:=ih h2;obtain⟨pos,rfl⟩:=ja1 h1;exact⟨pos::ps,by simp[l1],by simp[l2],by simp[e2]⟩
theorem jmS {X:Cx}:∀(xs:List Str) (ps:List Pos) (k:Nat),ps.length=xs.length->(∀(i:Nat) x,xs[i]?=some x->X.N[k+i]?=some x/\L2.Loc X.env.scope x/\(X.fn x=true\/X.env.scope.names.lookup x=some .local)) ->
  TgsOk X ((xs.zip ps).map fun p=>Expr.Name p.1 p.2) ((List.range xs.length).map (k + ·))
 |[],_,_,_,_=>.nil
 |x::xs,[],_,h,_=>by simp at h
 |x::xs,p::ps,k,h,hN=>by
  obtain⟨a,b⟩:=hN 0 x rfl;have ih:=jmS (X:=X) xs ps (k+1) (by simpa using h) fun i y hy=>by
   have:=hN (i+1) y (by simpa using hy)
   rwa [show k+(i+1)=k+1+i by omega]at this
  rw[jtR,List.range_succ_eq_map,jtO,List.map_map];have e:(List.range xs.length).map ((k + ·) ∘ Nat.succ)=(List.range xs.length).map (k+1 + ·):=by
   apply List.map_congr_left;intro i _;show k+(i+1)=k+1+i;omega
  rw[e];exact .cons a b.1 b.2 ih
theorem jeY {e:Expr}{env:Env}(h:∀a b c,e≠.Set a b c):∀x,foldedSetIterable e env x=pure x:=fun x=>by
 unfold foldedSetIterable;cases e <;> first | rfl | exact absurd rfl (h _ _ _)
theorem jeZ {scope:Scope}{env:Env}{x:Str}(h:scope.names.lookup x=some .local):(relabel scope env).names.lookup x=some .local:=by
 unfold relabel;simp only;rw[ja4 (c:=fun n k=>k == .free&&env.scope.kind == .function&&env.kindOf n==some .cell),h];rfl
theorem jlS {scope:Scope}{env:Env}{x:Str}(h:scope.names.lookup x=some .cell):(relabel scope env).names.lookup x=some .cell:=by
 unfold relabel;simp only;rw[ja4 (c:=fun n k=>k == .free&&env.scope.kind == .function&&env.kindOf n==some .cell),h];rfl
structure CompD (X:Cx)(G:Calls)(U:Nat->Nat->Bool)(Z:Kn)(scope:Scope)(N cn:List Str)(nt:Nat)(caps:List Nat)(elt tg iter:Expr)(ks:List Expr)(tgs:List Nat)(one:Bool)(it:It)(fc:Option (Rho->R (Bool×Rho)))(Ee:E):Prop where
 C:CompOk X scope N cn nt caps
 hT:∀s' H' fp E,TgOk @13 tg tgs one
 hlow:∀i∈tgs,i<nt
 hi:∀B,PI X tg iter (tI Z X B (evI G U it))
 hE:∀s' H' fp E B',PE @13 elt (tE Z @13 B' (evE G U Ee))
 hK:(ks=[]/\fc=none)\/∃k g,ks=[k]/\fc=some g/\∀s' H' fp E B',PT @13 k (tT Z @13 B' g)
 hs:∀x,foldedSetIterable iter X.env x=pure x
theorem jjP {n:Nat}(D:XD T G U Z m X sc)(ih:∀(X:Cx) (sc:List @7) (e:Expr) (E':E),XD T G U Z m X sc->trE T n sc X.N e=some E'->Says G U Z X e E')(ihI:∀(X:Cx) (sc:List @7) (e:Expr) (E':E),XD { T with deep:=true } G U Z m X sc->trE { T with deep:=true } n sc X.N e=some E'->Says G U Z X e E')
  {elt tg iter:Expr}{ks:List Expr}{scope:Scope}{xs:List Str}{one:Bool}{caps:List Nat}{it:It}{Ee:E}{Ec:Oe} (htg:jdb tg=some (xs,one))
  (c1:scope.kind=.function) (c2:∀y∈scope.names,y.2=.cell->scope.names.lookup y.1=some .cell) (c3:∀y∈scope.names,y.2=.local->scope.names.lookup y.1=some .local) (c4:(xs++jdz scope).Nodup)
  (c5:∀x∈xs,scope.names.lookup x=some .local\/scope.names.lookup x=some .cell) (c6:∀x∈jdz scope,scope.names.lookup x=some .free/\(sc.lookup x=some .cell\/sc.lookup x=some .free))
  (hcaps:mapO (jdy X.N) (jdz scope)=some caps) (hit:jpj T sc (trE T n sc X.N) one iter=some it) (helt:trE { T with deep:=true } n scope.names (xs++jdz scope) elt=some Ee)
  (hks:jjL (trE { T with deep:=true } n scope.names (xs++jdz scope)) ks=some Ec) (xx:Bool) :
  ∃N cn fc,CompD X G U Z scope N cn xs.length caps elt tg iter ks (List.range xs.length) one it fc Ee /\
   ∀ρ,evE G U (.comp Ee (List.range xs.length) one xs.length caps it Ec xx) ρ=(evI G U it ρ).bind fun t=>((compGo (jc2 (List.range xs.length) one xs.length caps fc (evE G U Ee)) t.1 t.2.2).pass xx).bind fun ys=>.ok (.tmp (.l ys.1),unlk t.2.1 ys.2):=by
 generalize hcn:jdz scope=cn at *;have C:CompOk X scope (xs++cn) cn xs.length caps:=by
  refine⟨c1,c2,c3,fun y hy e=>?_,c4,⟨xs,rfl,rfl⟩,jgO hcaps,fun k j x h1 h2=>⟨jaI (jgP hcaps h1 h2),(c6 x (jtT h1)).1⟩⟩;have hm:y.1∈cn:=by
   rw[<-hcn];exact List.mem_map.mpr ⟨y,List.mem_filter.mpr ⟨hy,by simp[e]⟩,rfl⟩
  have:=(c6 y.1 hm).2;rcases D.sc y.1 with z | ⟨_,z⟩
  ·rw[z];exact this
  ·exact .inl z
 have hT:∀s' H' fp E,TgOk (cxComp X (xs++cn) scope s' H' fp E) tg (List.range xs.length) one:=fun s' H' fp E=>by
  have hN:∀(i:Nat) x,xs[i]?=some x->(xs++cn)[i]?=some x/\L2.Loc (relabel scope X.env) x/\((scope.names.lookup x==some .cell)=true\/(relabel scope X.env).names.lookup x=some .local):=fun i x e=>⟨by rw[jtY (List.getElem?_eq_some_iff.mp e).1];exact e,(c5 x (jtT e)).elim (fun z=>⟨.inl (jeZ z),.inr (jeZ z)⟩) fun z=>⟨.inr (jlS z),.inl (by rw[z];rfl)⟩⟩
  rcases jjK htg with ⟨x,p,rfl,rfl,rfl⟩ | ⟨es,k,p,rfl,q,rfl⟩
  ·obtain⟨a,b⟩:=hN 0 x rfl;exact .one a b.1 b.2
  ·obtain⟨ps,l1,l2,e⟩:=jjO q;rw[e];have:=jmS (X:=cxComp X (xs++cn) scope s' H' fp E) xs ps 0 l2 fun i x hx=>by
    rw[Nat.zero_add];exact hN i x hx
   simp only[Nat.zero_add,List.map_id']at this;exact .many this
 have hone:one=false->∃es k pos,tg=.Tuple es k pos:=fun ho=>by
  subst ho;rcases jjK htg with ⟨x,p,_,_,z⟩ | ⟨es,k,p,e,_⟩
  ·cases z
  ·exact⟨es,k,p,e⟩
 have hlow:∀i∈List.range xs.length,i<xs.length:=fun i h=>List.mem_range.mp h;have hi:∀B,PI X tg iter (tI Z X B (evI G U it)):=fun B=>jgQ (tg:=tg) D (fun e E' h=>ih X sc e E' D h) hone hit B;have hE:∀s' H' fp E B',PE (cxComp X (xs++cn) scope s' H' fp E) elt (tE Z (cxComp X (xs++cn) scope s' H' fp E) B' (evE G U Ee)):=fun s' H' fp E B'=>(ihI (cxComp X (xs++cn) scope s' H' fp E) scope.names elt Ee (D.comp c4) helt).pe B';have hs:=jeY (env:=X.env) (jdN hit);cases ks with
 |nil=>
  cases hks;exact⟨xs++cn,cn,none,⟨C,hT,hlow,hi,hE,.inl ⟨rfl,rfl⟩,hs⟩,fun ρ=>by simp only[evE];rfl⟩
 |cons k r=>
  cases r with
  |nil=>
   simp only[jjL]at hks;cases q:trE { T with deep:=true } n scope.names (xs++cn) k with
   |none=>rw[q]at hks;cases hks
   |some Ek=>
    rw[q]at hks;cases hks;exact⟨xs++cn,cn,some (evT G U Ek),⟨C,hT,hlow,hi,hE,.inr ⟨k,evT G U Ek,rfl,rfl,fun s' H' fp E B'=>(ihI (cxComp X (xs++cn) scope s' H' fp E) scope.names k Ek (D.comp c4) q).pt B'⟩,hs⟩,fun ρ=>by simp only[evE];rfl⟩
  |cons k2 r2=>cases hks
end
end DJ
namespace DJ
open PySem PySem.Spec PyProof.Rows L2
variable {T:Tab}{G:Calls}{U:Nat->Nat->Bool}{Z:Kn}{m:Nat}
theorem je0 {n:Nat}{X:Cx}{sc:List @7}(D:XD T G U Z m X sc)(ih:∀(X:Cx) (sc:List @7) (e:Expr) (E':E),XD T G U Z m X sc->trE T n sc X.N e=some E'->Says G U Z X e E')(ihI:∀(X:Cx) (sc:List @7) (e:Expr) (E':E),XD { T with deep:=true } G U Z m X sc->trE { T with deep:=true } n sc X.N e=some E'->Says G U Z X e E')
  {elt:Expr}{gens:List Comprehension}{scope:Scope}{pos:Pos}{E':E} (h:trE T (n+1) sc X.N (.ListComp elt gens scope pos)=some E') :
  T.quiet=false/\∃tg iter ks N cn nt caps tgs one it fc Ee Ec,gens=[⟨tg,iter,ks,0⟩]/\E'=.comp Ee tgs one nt caps it Ec (!T.deep)/\CompD X G U Z scope N cn nt caps elt tg iter ks tgs one it fc Ee /\
   ∀ρ,evE G U E' ρ=(evI G U it ρ).bind fun t=>((compGo (jc2 tgs one nt caps fc (evE G U Ee)) t.1 t.2.2).pass (!T.deep)).bind fun ys=>.ok (.tmp (.l ys.1),unlk t.2.1 ys.2):=by
 obtain⟨⟨tg,iter,ks,a⟩,hg,h⟩:=jag (show (jjp gens).bind (jqE T (trE T n) (trE { T with deep:=true } n) sc X.N elt scope)=some E' from h)
 cases ja0 hg;replace h:=jam h;obtain⟨ha,h⟩:=h;have ha:a=0:=by simpa using ha
 subst ha;replace h:=jag h;obtain⟨⟨xs,one⟩,htg,h⟩:=h;replace h:=jam h;obtain⟨hc,h⟩:=h;replace h:=jqo h;obtain⟨caps,it,Ee,Ec,hcaps,hit,helt,hks,rfl⟩:=h;simp only[jqD,Bool.or_eq_false_iff,Bool.not_eq_false',beq_iff_eq]at hc;obtain⟨⟨⟨⟨⟨⟨c0,c1⟩,c2⟩,c3⟩,c4⟩,c5⟩,c6⟩:=hc;obtain⟨N,cn,fc,cd,ev⟩:=jjP (Ec:=Ec) D ih ihI htg c1 (fun y hy z=>by
  have:=List.all_eq_true.mp c2 y hy;rw[z]at this;simpa using this) (fun y hy z=>by
  have:=List.all_eq_true.mp c3 y hy;rw[z]at this;simpa using this) (jeX c4) (fun x hx=>by simpa using List.all_eq_true.mp c5 x hx) (fun x hx=>by simpa using List.all_eq_true.mp c6 x hx) hcaps hit helt hks (!T.deep)
 exact⟨c0,tg,iter,ks,N,cn,xs.length,caps,_,one,it,fc,Ee,Ec,rfl,rfl,cd,ev⟩
theorem jlT {f:Str}{args:List Expr}{bf:Bf}{b:Expr}(h:jjM T sc f args=some (bf,b)):∃g p2 pos2,args=[.Call (.Name g p2) [b] [] pos2]/\T.quiet=false/\jd9 g=false/\knd sc g=2/\jon f g=some bf:=by
 replace h:=jag h;obtain⟨c,h1,h⟩:=h;cases ja0 h1;replace h:=jag h;obtain⟨⟨g,as⟩,h2,h⟩:=h;obtain⟨np,pos,rfl⟩:=jdM h2;replace h:=jag h;obtain⟨b',h3,h⟩:=h;have h3:=ja0 h3;replace h:=jam h;obtain⟨hc,h⟩:=h;replace h:=jal h;obtain⟨bf',q,e⟩:=h;cases e;replace hc:=jbJ hc;obtain⟨hc,_⟩:=hc;replace hc:=jbJ hc;obtain⟨hc,c3⟩:=hc;replace hc:=jbJ hc;obtain⟨c1,c2⟩:=hc;refine⟨g,np,pos,?_,c1,c2,jfK c3,q⟩;rw[show as=[b] from h3]
theorem Says.nt {X:Cx}{e:Expr}{E':E}(pe:∀B,PE X e (tE Z X B (evE G U E')))(hT:∀ρ,evT G U E' ρ=.stk)(ns:∀a p,e≠.Starred a p):Says G U Z X e E':=
 ⟨pe,fun B=>by rw[tT.congr hT];exact jqq,ns⟩
theorem jor {X:Cx}{sc:List @7}(D:XD T G U Z m X sc){a:Expr}{Ea:E}{pos:Pos}(S:Says G U Z X a Ea):Says G U Z X (.UnaryOp .USub a pos) (.neg Ea):=by
 refine Says.nt (fun B=>PE.imp (jrE jpK (S.pe B)) fun σ H Q z=>?_) (fun ρ=>by simp only[evT]) (fun _ _ z=>by cases z)
 have z2:tE Z X B (fun ρ=>(evE G U Ea ρ).bind fun p=>(deref p.1 p.2).bind fun x=>((fun x=>(jrm x).bind fun d=>R.ok (Vl.dat d)) x).bind fun v=>.ok (v,p.2)) σ H Q:=by simpa only[evE,R.bind_assoc,R.bind_ok'] using z
 obtain⟨F,ρ,r',h3⟩:=tE.one (g:=fun x=>(jrm x).bind fun d=>R.ok (Vl.dat d)) (fun x c w=>by cases x <;> cases w) (fun x i w=>by cases x <;> cases w) z2
 refine⟨F,ρ,r',h3.imp (fun _ w=>w) fun d p v F' H' e r2 q=>?_⟩;obtain⟨F3,d3,w,dm,rp,hw,h4⟩:=p v F' H' e r2 q;cases d3 with
 |int i=>cases hw;cases rp.int;exact⟨i,rfl,h4.int dm⟩
 |_=>cases hw
theorem lrB {g:Bf}{Ea:E}(ρ:Rho):Lr (evT G U (.blt g Ea) ρ) (trF (evE G U (.blt g Ea)) ρ):=by
 simp only[evT,trF,evE,R.bind_assoc,R.bind_ok'];exact Lr.refl.bind fun _=>Lr.refl.bind fun _=>Lr.refl.bind fun _=>Lr.deref.bind fun _=>Lr.refl
theorem lrO {o:Op}{a b:E}(ρ:Rho):Lr (evT G U (.bin o a b) ρ) (trF (evE G U (.bin o a b)) ρ):=by
 simp only[evT,trF,evE,R.bind_assoc,R.bind_ok'];exact Lr.refl.bind fun _=>Lr.refl.bind fun _=>Lr.refl.bind fun _=>Lr.refl.bind fun _=>Lr.refl.bind fun _=>Lr.deref.bind fun _=>Lr.refl
theorem jdc:∀(n:Nat) (T:Tab) (X:Cx) (sc:List @7) (e:Expr) (E':E),XD T G U Z m X sc->trE T n sc X.N e=some E'->Says G U Z X e E':=by
 intro n;induction n with
 |zero=>intro T X sc e E' D h;exact jaf h
 |succ n ihT=>
  intro T X sc e E' D h;have ih:=ihT T;have hK:=D.hK;have ih1:∀e E',trE T n sc X.N e=some E'->Says G U Z X e E':=fun e E' h=>ih X sc e E' D h;have lit:∀{e:Expr}{d:DJ.D}{v:V},PE X e (tC v)->(∀whole,isTrue e X.env whole=(do let v <-whole;standAt e.pos;holding [v] (truthy v)))->(∀a p,e≠.Starred a p)->(∀F H,Rep Z F H d v)->Says G U Z X e (.lit d):=fun {e d v} h1 h2 h3 h4=>
   Says.mk' hK (fun B=>jn2 h1 h4) h2 h3 fun ρ=>by simp only[evT,trF,evE,R.bind_ok',deref];exact Lr.refl
  have prd:∀{vs:List Expr}{es:List E},mapO (trE T n sc X.N) vs=some es->∀B,Paired (fun e E'=>PE X e (tE Z X B (evE G U E'))/\PT X e (tT Z X B (evT G U E'))) vs es:=fun q B=>jb9 (fun e E' z=>⟨(ih1 _ _ z).pe B,(ih1 _ _ z).pt B⟩) q;have prn:∀{vs:List Expr}{es:List E},mapO (trE T n sc X.N) vs=some es->∀B,Paired (fun e E'=>PE X e (tE Z X B (evE G U E'))/\∀a p,e≠.Starred a p) vs es:=fun q B=>jb9 (fun e E' z=>⟨(ih1 _ _ z).pe B,(ih1 _ _ z).ns⟩) q;have h0:=h;cases e with
  |Constant c k pos=>
   replace h:=jal h;obtain⟨d,hl,rfl⟩:=h;cases c with
   |none=>cases hl;exact lit jpp (fun _=>rfl) (fun _ _ z=>by cases z) fun _ _=>by simp only[Rep]
   |bool v=>cases hl;exact lit jrt (fun _=>rfl) (fun _ _ z=>by cases z) fun _ _=>by simp only[Rep]
   |int i=>cases hl;exact lit jpo (fun _=>rfl) (fun _ _ z=>by cases z) fun _ _=>by simp only[Rep]
   |str x=>cases hl;exact lit jpq (fun _=>rfl) (fun _ _ z=>by cases z) fun _ _=>by simp only[Rep]
   |_=>exact jaf hl
  |Name x pos=>
   replace h:=jam h;obtain⟨hb,h⟩:=h;replace h:=jap h;rcases h with ⟨hk,h⟩ | h
   ·replace h:=jal h;obtain⟨i,q,rfl⟩:=h;refine Says.mk' hK (fun B=>jlD (pos:=pos) D (by simpa using hk) (jaI q) hb) (fun _=>rfl) (fun _ _ z=>by cases z) fun ρ=>?_
    simp only[evT,trF,evE];cases e:ρ[i]? with
    |none=>exact Lr.none
    |some s=>
     cases s with
     |no=>exact Lr.none
     |_=>simp only[R.bind_ok',deref,e];exact Lr.refl
   ·replace h:=jam h;obtain⟨hk,h⟩:=h;replace h:=jal h;obtain⟨d,q,rfl⟩:=h;obtain⟨u,v,hm,rv,rp⟩:=D.cons x d q;exact lit (jim (D.gl (jfK hk)) hm rv (jfq hb).1) (fun _=>rfl) (fun _ _ z=>by cases z) rp
  |BinOp l op r pos=>
   replace h:=jcA h;obtain⟨o,El,Er,ho,hl,hr,rfl⟩:=h;have Sl:=ih1 _ _ hl;have Sr:=ih1 _ _ hr;cases jop ho;refine Says.mk' hK (fun B=>PE.imp (jrD (jrY hK o) (Sl.pe B) (Sr.pe B)) fun σ H Q q=>tE.two (fun _ _ _=>jnN) (fun _ _ _=>jlq) (by simpa only[evE] using q)) (fun _=>rfl) (fun _ _ z=>by cases z) lrO
  |UnaryOp o a pos=>
   replace h:=jb1 h;obtain⟨f,Ea,ho,q,rfl⟩:=h;have S:=ih1 _ _ q;cases o with
   |USub=>cases ho;exact jor D S
   |Not=>
    cases ho;exact⟨fun B=>PE.imp (jpx (S.pe B)) fun σ H Q z=>jnW (by simpa only[evE] using z),fun B=>PT.imp (jpt (S.pt B)) fun σ H Q z=>jlz (by simpa only[evT] using z),fun _ _ z=>by cases z⟩
   |_=>exact jaf ho
  |BoolOp o vs pos=>
   replace h:=jag h;obtain⟨es,q,h⟩:=h;cases o with
   |And=>exact⟨fun B=>(jjr (prd q B) h).1,fun B=>(jjr (prd q B) h).2.pt,fun _ _ z=>by cases z⟩
   |Or=>exact⟨fun B=>(jmL (prd q B) h).1,fun B=>(jmL (prd q B) h).2.pt,fun _ _ z=>by cases z⟩
  |Compare a os cs pos=>
   replace h:=jag h;obtain⟨⟨op,c⟩,h1,h⟩:=h;replace h1:=jb1 h1;obtain⟨op',c',e1,e2,e3⟩:=h1;cases e3;cases ja0 e1;cases ja0 e2;replace h:=jam h;obtain⟨hmk,h⟩:=h;replace h:=jcA h;obtain⟨o,Ea,Ec,ho,ha,hc,rfl⟩:=h;have Sa:=ih1 _ _ ha;have Sc:=ih1 _ _ hc;cases joq ho;have ok:=jr0 (X:=X) hK D.un o;have be:∀x y c,bD (cmD o) x y≠.err c:=fun x y c z=>by
    unfold bD at z;cases e:cmD o x y with
    |ok b=>rw[e]at z;cases z
    |err c'=>exact jnR e
    |stk=>rw[e]at z;cases z
   have bs:∀x y i,bD (cmD o) x y≠.ok (.slot i):=fun x y i z=>by
    unfold bD at z;obtain⟨b,_,z⟩:=R.bind_ok z;cases z
   refine⟨fun B=>PE.imp (jng ok (Sa.pe B) (Sc.pe B) hmk) fun σ H Q q=>tE.two be bs (by simpa only[evE,bD,R.bind_assoc,R.bind_ok'] using q),fun B=>PT.imp (jnh ok (Sa.pe B) (Sc.pe B) hmk) fun σ H Q q=>?_,fun _ _ z=>by cases z⟩
   have q2:=tT.toE (by simpa only[evT] using q)
   simp only[R.bind_assoc,R.bind_ok']at q2;exact tE.two be bs (by simpa only[bD,R.bind_assoc,R.bind_ok'] using q2)
  |IfExp c a b pos=>
   replace h:=jcA h;obtain⟨Ec,Ea,Eb,hc,ha,hb,rfl⟩:=h;have Sc:=ih1 _ _ hc;have Sa:=ih1 _ _ ha;have Sb:=ih1 _ _ hb;exact Says.nt (fun B=>PE.imp (jkH (Sc.pt B) (Sa.pe B) (Sb.pe B)) fun σ H Q z=>jqs (by simpa only[evE] using z)) (fun ρ=>by simp only[evT]) fun _ _ z=>by cases z
  |Tuple es k pos=>
   replace h:=jal h;obtain⟨Es',q,rfl⟩:=h;exact Says.nt (fun B=>jn3 (prn q B)) (fun ρ=>by simp only[evT]) fun _ _ z=>by cases z
  |List es pos=>
   replace h:=jal h;obtain⟨Es',q,rfl⟩:=h;exact Says.nt (fun B=>jn4 (prn q B)) (fun ρ=>by simp only[evT]) fun _ _ z=>by cases z
  |Dict ks vs pos=>
   replace h:jsd (trE T n sc X.N) ks vs=some E':=h;unfold jsd at h;split at h
   ·cases h;exact Says.nt (fun B=>jn5) (fun ρ=>by simp only[evT]) fun _ _ z=>by cases z
   ·replace h:=jb1 h;obtain⟨a,b,ha,hb,rfl⟩:=h;exact Says.nt (fun B=>jn7 D.hK D.un ((ih1 _ _ ha).pe B) ((ih1 _ _ hb).pe B)) (fun ρ=>by simp only[evT]) fun _ _ z=>by cases z
   ·cases h
  |Subscript a i pos=>
   replace h:jsa (trE T n sc X.N) a i=some E':=h;unfold jsa at h;cases hs:joo i with
   |some p=>
    rw[hs]at h;obtain⟨lo,hi,st⟩:=p;obtain⟨p2,rfl⟩:=jjN hs;replace h:=jam h;obtain⟨hst,h⟩:=h;cases st with
    |some _=>cases hst
    |none=>
    replace h:=jcA h;obtain⟨Ea,Elo,Ehi,ha,hlo,hhi,rfl⟩:=h;have Sa:=ih1 _ _ ha;have part:∀{o:Option Expr}{O:Oe},jr7 (trE T n sc X.N) o=some O->∀B,PO X o (tO Z X B (evO G U O)):=fun {o O} z B=>by
     cases o with
     |none=>cases z;exact jqv
     |some e=>
      obtain⟨E',q,rfl⟩:=jal z;exact jqw ((ih1 _ _ q).pe B)
    refine Says.mk' hK (fun B=>PE.imp (jkT (jr3 hK) (Sa.pe B) (part hlo B) (part hhi B)) fun σ H Q q=>tE.slice (by simpa only[evE] using q)) (fun _=>rfl) (fun _ _ z=>by cases z) fun ρ=>?_
    simp only[evT,trF,evE,R.bind_assoc,R.bind_ok'];exact Lr.refl.bind fun _=>Lr.refl.bind fun _=>Lr.refl.bind fun _=>Lr.refl.bind fun _=>Lr.refl.bind fun _=>Lr.deref.bind fun _=>Lr.refl
   |none=>
    rw[hs]at h;replace h:=jb1 h;obtain⟨Ea,Ei,ha,hi',rfl⟩:=h;have Sa:=ih1 _ _ ha;have Si:=ih1 _ _ hi';refine Says.mk' hK (fun B=>PE.imp (jrP (jr2 hK D.un) (Sa.pe B) (Si.pe B) (jlF fun a b c d z=>by subst z;cases hs)) fun σ H Q q=>tE.two (fun x y c z=>?_) (fun x y i z=>?_) (by simpa only[evE,jro,R.bind_assoc,R.bind_ok'] using q)) (fun _=>rfl) (fun _ _ z=>by cases z) fun ρ=>?_
    ·unfold jro at z;cases e:jht x y with
     |ok d=>rw[e]at z;cases z
     |err c'=>exact jlE e
     |stk=>rw[e]at z;cases z
    ·unfold jro at z;obtain⟨d,_,z⟩:=R.bind_ok z;cases z
    ·simp only[evT,trF,evE,R.bind_assoc,R.bind_ok',deref];exact Lr.refl
  |Call fn args ks pos=>
   replace h:=jam h;obtain⟨hks,h⟩:=h;cases jbR hks;replace h:=jbQ h;rcases h with ⟨f,hn,h⟩ | h
   ·obtain⟨p,rfl⟩:=ja1 hn;replace h:=jam h;obtain⟨hc,h⟩:=h;replace hc:=jbJ hc;obtain⟨hb,hf⟩:=hc;have hf:=jfK hf;cases hk:jdy T.defs f with
    |some k=>
     rw[hk]at h;replace h:=jam h;obtain⟨hq,h⟩:=h;replace h:=jal h;obtain⟨es,q,rfl⟩:=h;refine Says.mk' hK (fun B=>jlC D hq hf hb hk (prn q B)) (fun _=>rfl) (fun _ _ z=>by cases z) fun ρ=>?_
     simp only[evT,trF,evE,R.bind_assoc,R.bind_ok'];exact Lr.refl.bind fun _=>Lr.refl.bind fun _=>Lr.refl.bind fun _=>Lr.deref.bind fun _=>Lr.refl
    |none=>
     rw[hk]at h;replace h:jsb T sc (trE T n sc X.N) f args=some E':=h;unfold jsb at h;cases hnest:jjM T sc f args with
     |some p'=>
      rw[hnest]at h;obtain⟨bf,b⟩:=p';replace h:=jal h;obtain⟨Eb,q,rfl⟩:=h;have S:=ih1 _ _ q;obtain⟨g,p2,pos2,rfl,hq,hb2,hg2,hnf⟩:=jlT hnest;exact Says.mk' hK (fun B=>jlR (p:=p) (pos:=pos) D hq hf hb hg2 hb2 (S.pe B) S.ns hnf) (fun _=>rfl) (fun _ _ z=>by cases z) lrB
     |none=>
      rw[hnest]at h;cases args with
      |nil=>exact jaf h
      |cons a r=>
       cases r with
       |nil=>
        replace h:=jb1 h;obtain⟨g,Ea,hg,ha,rfl⟩:=h;have S:=ih1 _ _ ha;exact Says.mk' hK (fun B=>joi (p:=p) (pos:=pos) D hf hb (S.pe B) S.ns hg) (fun _=>rfl) (fun _ _ z=>by cases z) lrB
       |cons b r=>
        cases r with
        |cons c r=>exact jaf h
        |nil=>
         replace h:=jap h;rcases h with ⟨hfi,h⟩ | h
         ·cases jb8 hfi;replace h:=jag h;obtain⟨ks,hks,h⟩:=h;replace h:=jam h;obtain⟨hl,h⟩:=h;replace h:=jal h;obtain⟨Ea,ha,rfl⟩:=h;have S:=ih1 _ _ ha;refine Says.mk' hK (fun B=>jof (p:=p) (pos:=pos) D hf (of_decide_eq_true (jb2 hl)) (S.pe B) S.ns hks) (fun _=>rfl) (fun _ _ z=>by cases z) fun ρ=>?_
          simp only[evT,trF,evE,R.bind_assoc,R.bind_ok',deref,jbF];exact Lr.refl
         exact jaf h
   replace h:=jag h;obtain⟨⟨v,m',apos⟩,hn,h⟩:=h;cases jgN hn;replace h:=jag h;obtain⟨x,hv,h⟩:=h;obtain⟨xp,rfl⟩:=ja1 hv;replace h:=jam h;obtain⟨hc,h⟩:=h;replace h:=jal h;obtain⟨i,q,rfl⟩:=h;replace hc:=jbJ hc;obtain⟨hc,c5⟩:=hc;replace hc:=jbJ hc;obtain⟨hc,c4⟩:=hc;replace hc:=jbJ hc;obtain⟨hc,c3⟩:=hc;replace hc:=jbJ hc;obtain⟨c1,c2⟩:=hc;cases jbR c5;cases jb8 (jb2 c3);exact Says.nt (fun B=>jog D (jfK c2) (jaI q) c1 (jb2 c4)) (fun ρ=>by simp only[evT]) fun _ _ z=>by cases z
  |ListComp elt gens scope pos=>
   obtain⟨hq,tg,iter,ks,N,cn,nt,caps,tgs,one,it,fc,Ee,Ec,e1,rfl,cd,ev⟩:=je0 D ih (ihT _) h0;cases e1;refine Says.nt (fun B=>?_) (fun ρ=>by simp only[evT]) fun _ _ z=>by cases z
   have:=joh (pos:=pos) hK (D.calm hq) cd.C (cd.hi B) cd.hT cd.hlow cd.hE (xx:=!T.deep) (fun z=>D.top (by cases e:T.deep with | false=>rfl | true=>rw[e]at z;cases z)) cd.hK cd.hs
   rw[tE.congr ev];exact this
  |_=>exact jaf h
end DJ
namespace DJ
open PySem PySem.Spec PyProof.Rows L2
section
variable {X:Cx}{pins:List (Addr×Obj)}{σ:L2.St}{H:Hp}{s:Shared}{B h':Heap}
theorem Inv.freeOf (I:Inv X pins σ H s){a:Addr}(h:s.heap.get? a=none):H a=none:=by
 cases e:H a with
 |none=>rfl
 |some o=>
  obtain⟨u,q⟩:=jmP (I.hok a o e);rw[h]at q;cases q
theorem jdO {E:XK}{ea:Addr}{cls a0:Value}(I:Inv X pins σ H s)(hfn:∀x,X.fn x=true)(hex:X.ex=[])(hst:X.stack=X.env::X.outer)(Hs:Has X pins H B)(k:B.StaysIn s.heap)(fl:Heap.FlyingW B X.outer ea cls a0 h')(up:s.heap.UpToSlots h')(hn:H ea=none)(q:E cls none H) :
  CXD X.prog X.w X.outer X.H₀ X.s₀ E (.ref ea) { s with heap:=h' }:=by
 have I':Inv X pins σ H { s with heap:=h' }:=Inv.flown (t':=s.toks) I hfn Hs k fl.1 up
 have b:=I'.base;rw[hex]at b;refine⟨ea,cls,a0,H,B,rfl,I'.os,I'.bare,b,I'.hok,fl,fun b o e n=>Hs.s0 b o e (fun z=>?_) (by rw[hex];simp),Hs.tr,hn,q⟩
 rcases List.mem_cons.mp (I.stkSub b z)with z | z
 ·have:=juh e;rw[z]at this;exact absurd this (Nat.not_lt.mpr I.ok.above)
 ·exact n z
end
section
variable {P:Program}{w:World}{K:Frag}{mg:Str->Option Value}{base:Heap}{N:List Str}{qual:Str}{scope:Scope}{f:Addr}{cd:Value}{A:Around}{outer:List Env}{s s':Shared}{H H':Hp}{E:XK}{pins:List (Addr×Obj)}{σ:L2.St}{ea:Addr}{cls:Value}
theorem jqF (I:Inv (jhf (CXD P w) P w K mg base N qual scope f cd A outer s H E) pins σ H' s')(fl:FlyC (jhf (CXD P w) P w K mg base N qual scope f cd A outer s H E) pins ea cls H' s')(q:E cls none H'):(jhf (CXD P w) P w K mg base N qual scope f cd A outer s H E).xe (.ref ea) s':=by
 obtain⟨⟨a0,B,fly,c1,c2,c3,c4⟩,hn⟩:=fl;refine jhB (B:=B) (cls:=cls) (a0:=a0) I.ok.frames rfl fly fun h'' fl'' up=>?_;exact jdO I (fun _=>rfl) rfl rfl ⟨c1,c2,c3,c4⟩ fly.stays fl'' up hn q
theorem jos {h':Heap}{vs:List Value}(I:Inv (jhf (CXD P w) P w K mg base N qual scope f cd A outer s H E) pins σ H' s')(mk:Heap.MadeExcOf s'.heap h' ea cls vs)(q:E cls none H'):(jhf (CXD P w) P w K mg base N qual scope f cd A outer s H E).xe (.ref ea) { s' with heap:=h' }:=by
 have Hs:=Has.made I;have I':Inv (jhf (CXD P w) P w K mg base N qual scope f cd A outer s H E) pins σ H' { s' with heap:=h' }:=I.kept (t':=s'.toks) mk.keeps
 refine wpAny_leaves_madeW (base:=PySem.W.hideAll s'.heap (frs (jhf (CXD P w) P w K mg base N qual scope f cd A outer s H E).stack)) (h:=s'.heap) I.ok.frames rfl (fun b o e=>PySem.W.of_hideAll _ e) (jjH I.stack fun b hb=>PySem.W.hideAll_none _ hb) mk fun h'' t fl'' _ _ up=>?_;exact jdO I' (fun _=>rfl) rfl rfl Hs (fun b o e=>mk.keeps b o (PySem.W.of_hideAll _ e)) fl'' up (Inv.freeOf I mk.new) q
end
structure Rcl (K:Frag)(C:Addr):Prop where
 ex:∃(bmB:List Value) (B newId initId:String),PySem.W.excIn K C bmB newId=true/\ExcBaseFacts B newId initId bmB
 nm:∃x,PySem.W.nsIn K mainGlobals x=some (some (.ref C))
noncomputable def XM (Z:Kn)(X:Cx)(σ:L2.St)(ρ:Rho)(H:Hp)(c:Nat):Prop:=∀(pins:List (Addr×Obj)) (H1:Hp) (s1:Shared) (h':Heap) (ea C:Addr) (vs:List Value),Z.cl[c]?=some C->Inv X pins σ H1 s1->Stl σ ρ H H1->Heap.MadeExcOf s1.heap h' ea (.ref C) vs->X.xe (.ref ea) { s1 with heap:=h' }
end DJ
namespace DJ
open PySem PySem.Spec PyProof.Rows L2
noncomputable def FlP (Z:Kn)(B:Bs)(σ:L2.St)(ρ:Rho)(F:Addr->Prop)(H:Hp)(D:Ends):Fl->Prop
 |.nx ρ'=>∀σ' F' H',Go σ ρ F H σ' ρ' F' H'->SR Z B F' H' σ' ρ'->D.nx σ' H'
 |.bk ρ'=>∀σ' F' H',Go σ ρ F H σ' ρ' F' H'->SR Z B F' H' σ' ρ'->D.bk σ' H'
 |.ct ρ'=>∀σ' F' H',Go σ ρ F H σ' ρ' F' H'->SR Z B F' H' σ' ρ'->D.ct σ' H'
 |.rt v ρ'=>∀u σ' F' H',(∀i,v≠.slot i)->Go σ ρ F H σ' ρ' F' H'->SR Z B F' H' σ' ρ'->RV Z F' B.hp H' σ' ρ' v u->D.rt u H'
noncomputable def XS (Z:Kn)(X:Cx)(σ:L2.St)(ρ:Rho)(F:Addr->Prop)(H:Hp)(c:Nat):Prop:=∀σ' ρ' F' H',Go σ ρ F H σ' ρ' F' H'->XW Z X σ' ρ' H' c/\XM Z X σ' ρ' H' c
inductive tS_I (Z:Kn) (X:Cx) (B:Bs) (f:Rho->R Fl) (D:L2.Ends) (σ:L2.St) (H:L2.Hp):Prop
 |mk (F:_) (ρ:_):(SR Z B F H σ ρ)->(Ok (XS Z X σ ρ F H) (f ρ) (FlP Z B σ ρ F H D))->tS_I Z X B f D σ H
noncomputable def tS (Z:Kn)(X:Cx)(B:Bs)(f:Rho->R Fl):TS:=fun D σ H=>tS_I Z X B f D σ H
inductive tSx_I (Z:Kn) (X:Cx) (B:Bs) (f:Rho->R Fl) (D:L2.Ends) (σ:L2.St) (H:L2.Hp):Prop
 |mk (F:_) (ρ:_):(SR Z B F H σ ρ)->(Ok (XW Z X σ ρ H) (f ρ) (FlP Z B σ ρ F H D))->tSx_I Z X B f D σ H
noncomputable def tSx (Z:Kn)(X:Cx)(B:Bs)(f:Rho->R Fl):TS:=fun D σ H=>tSx_I Z X B f D σ H
section
variable {Z:Kn}{X:Cx}{B:Bs}{σ σ1:L2.St}{ρ ρ1:Rho}{F F1:Addr->Prop}{H H1:Hp}{D:Ends}
theorem XS.xw {c:Nat}(h:XS Z X σ ρ F H c):XW Z X σ ρ H c:=(h σ ρ F H Go.refl).1
theorem XS.mono {c:Nat}(h:XS Z X σ ρ F H c)(g:Go σ ρ F H σ1 ρ1 F1 H1):XS Z X σ1 ρ1 F1 H1 c:=fun σ' ρ' F' H' g'=>h σ' ρ' F' H' (g.trans g')
theorem FlP.go {fl:Fl}(h:FlP Z B σ ρ F H D fl)(g:Go σ ρ F H σ1 ρ1 F1 H1):FlP Z B σ1 ρ1 F1 H1 D fl:=by
 cases fl with
 |nx ρ'=>exact fun σ' F' H' g' r=>h σ' F' H' (g.trans g') r
 |bk ρ'=>exact fun σ' F' H' g' r=>h σ' F' H' (g.trans g') r
 |ct ρ'=>exact fun σ' F' H' g' r=>h σ' F' H' (g.trans g') r
 |rt v ρ'=>exact fun u σ' F' H' n g' r q=>h u σ' F' H' n (g.trans g') r q
theorem PS.x {s:Stmt}{f:Rho->R Fl}(h:PS X s (tSx Z X B f)):PS X s (tS Z X B f):=PS.imp h fun D σ H ⟨F,ρ,r,q⟩=>⟨F,ρ,r,q.imp (fun c w=>w.xw) fun _ z=>z⟩
theorem Inv.track {pins:List (Addr×Obj)}{s:Shared}{a:Addr}{o:HO}(I:Inv X pins σ H s)(hn:H a=none)(h0:X.s₀.heap.get? a=none)(hL:a≠X.env.locals)(hc:∀x c,X.env.cells.lookup x=some c->c≠a)(hp:∀p∈X.pn++pins,p.1≠a)
  (ok:ObjOk X.prog X.w (upd H a o) s.heap a o):Inv X pins σ (upd H a o) s:=by
 refine⟨I.ok,I.os,I.bare,⟨I.base.keep,I.base.slot,fun b ob e q hx=>?_,I.base.there,fun b xs e=>?_,fun b ob u e=>?_,fun b ps e=>?_⟩,I.loc,I.cell,?_,fun x c e=>?_,fun p hp'=>?_,fun b u e=>?_,I.len⟩
 ·rw[jac (fun z=>by rw[z,h0]at e;cases e)];exact I.base.free b ob e q hx
 ·have:=I.base.tups b xs e;rw[jac (jab this hn)];exact this
 ·have:=I.base.frzs b ob u e;rw[jac (jab this hn)];exact this
 ·obtain⟨more,this⟩:=I.base.tbls b ps e;exact⟨more,by rw[jac (jab this hn)];exact this⟩
 ·rw[jac (Ne.symm hL)];exact I.free
 ·rw[jac (hc x c e)];exact I.freeC x c e
 ·obtain⟨e,q,r⟩:=I.pin p hp';exact⟨e,by rw[jac (hp p hp')];exact q,r⟩
 ·by_cases hb:b=a
  ·subst hb;rw[jah]at e;cases e;exact ok
  ·rw[jac hb]at e;refine(I.hok b u e).stay (fun c w' hc q=>q) (fun c q=>?_) fun c ts q=>?_
   ·rw[jac (jab q hn)];exact q
   ·rw[jac (jab q hn)];exact q
end
section
variable {X:Cx}{pins pins':List (Addr×Obj)}{σ:L2.St}{H:Hp}{s:Shared}{E':Value->Shared->Prop}{ea:Addr}
end
end DJ
namespace DJ
open PySem PySem.Spec PyProof.Rows L2
section
variable {G:Calls}{U:Nat->Nat->Bool}{Z:Kn}{X:Cx}{B:Bs}
theorem RV.unlk {F:Addr->Prop}{H0 H:Hp}{σ:L2.St}{ρ:Rho}{lk:List Nat}{w:Vl}{v:V}(h:RV Z F H0 H σ ρ w v):RV Z F H0 H σ (unlk lk ρ) w v:=by
 cases w with
 |dat d=>exact h
 |tmp o=>obtain⟨l,e,h1,h2,h3,h4⟩:=h;exact⟨l,e,h1,fun z=>h2 z.unlk,h3,h4⟩
 |slot i=>exact h
theorem jlU {v:Vl}{ρ:Rho}{c:Nat}:jli v ρ≠.err c:=by
 cases v with
 |dat d=>intro z;cases z
 |tmp o=>intro z;cases z
 |slot i=>
  simp only[jli];split <;> (intro z;cases z)
theorem jqG {e:Expr}{f:Rho->R (Vl×Rho)}{pos:Pos}(h:PE X e (tE Z X B f)):PS X (.Return (some e) pos) (tSx Z X B fun ρ=>(f ρ).bind fun p=>jli p.1 p.2):=by
 refine PS.imp (jpA h) fun D σ H hzz=>?_;obtain⟨F,ρ,r,q⟩:=hzz;refine⟨F,ρ,r,q.bind.imp (fun _ w=>w) fun p h1 v F' H' g r' rv=>?_⟩;obtain⟨fl,hf,h2⟩:=h1.pure fun c=>jlU;obtain⟨w,ρ'⟩:=p;cases w with
 |dat d=>cases hf;exact h2 v σ F' H' (fun _ z=>by cases z) g r' rv
 |tmp o=>cases hf;exact h2 v σ F' H' (fun _ z=>by cases z) g r' (rv.base r.base)
 |slot i=>
  have rv:σ[i]?=some (some v):=rv;simp only[jli]at hf;split at hf
  ·rename_i o e;cases hf;obtain⟨l,e1,e2,e3,e4⟩:=r'.own i o _ _ e;rw[rv]at e1;cases e1;refine h2 (.ref l) σ F' H' (fun _ z=>by cases z) (g.trans (Go.weak Le.no)) (r'.weak Le.no) ⟨l,rfl,e2,fun z=>?_,e4.2 rfl,e3⟩
   obtain⟨j,o',f',k',z1,z2⟩:=z;rw[jtM]at z1;by_cases hij:i=j
   ·rw[if_pos hij]at z1;split at z1 <;> cases z1
   ·rw[if_neg hij]at z1;exact r'.one i j _ _ _ _ _ _ l hij e z1 rv z2
  ·cases hf
theorem jot {pos:Pos}:PS X (.Return none pos) (tSx Z X B fun ρ=>.ok (.rt (.dat .non) ρ)):=by
 refine PS.imp jnc fun D σ H hzz=>?_;obtain⟨F,ρ,r,q⟩:=hzz;exact q .non σ F H (fun _ z=>by cases z) Go.refl r (by show Rep _ _ _ _ _;simp only[Rep])
theorem jou {pos:Pos}:PS X (.Pass pos) (tSx Z X B fun ρ=>.ok (.nx ρ)):=PS.imp jnb fun D σ H ⟨F,ρ,r,q⟩=>q σ F H Go.refl r
theorem jqH {pos:Pos}:PS X (.Break pos) (tSx Z X B fun ρ=>.ok (.bk ρ)):=PS.imp jkJ fun D σ H ⟨F,ρ,r,q⟩=>q σ F H Go.refl r
theorem jqI {pos:Pos}:PS X (.Continue pos) (tSx Z X B fun ρ=>.ok (.ct ρ)):=PS.imp jfu fun D σ H ⟨F,ρ,r,q⟩=>q σ F H Go.refl r
theorem jov {e:Expr}{f:Rho->R (Vl×Rho)}{pos:Pos}(h:PE X e (tE Z X B f))(hs:swapsWith e none pos.line X.env=pure false):PS X (.Expr e pos) (tSx Z X B fun ρ=>(f ρ).bind fun p=>.ok (.nx p.2)):=by
 refine PS.imp (jfv h hs) fun D σ H hzz=>?_;obtain⟨F,ρ,r,q⟩:=hzz;exact⟨F,ρ,r,q.bind.imp (fun _ w=>w) fun p h1 v F' H' g r' rv=>h1 σ F' H' g r'⟩
theorem jlV {v:Vl}{ρ:Rho}{c:Nat}:jgu v ρ≠.err c:=by
 cases v with
 |dat d=>intro z;cases z
 |tmp o=>intro z;cases z
 |slot i=>
  simp only[jgu];intro z;cases e:toD (.slot i) ρ with
  |ok p=>rw[e]at z;cases z
  |err c=>exact jbs e
  |stk=>rw[e]at z;cases z
theorem jow {σ:L2.St}{ρ ρ1 ρ2:Rho}{F F1:Addr->Prop}{H H1:Hp}{w:Vl}{v:V}{s:Sl}{i:Nat}(rv:RV Z F1 H H1 σ ρ1 w v)(r:SR Z B F H σ ρ)(r1:SR Z B F1 H1 σ ρ1)(g:Go σ ρ F H σ ρ1 F1 H1)(h:jgu w ρ1=.ok (s,ρ2)) :
  ∃F2,Go σ ρ F H (σ.set i (some v)) (ρ2.set i s) F2 H1/\SR Z B F2 H1 (σ.set i (some v)) (ρ2.set i s):=by
 have dat:∀{w:Vl},RV Z F1 H H1 σ ρ1 w v->(toD w ρ1).bind (fun p=>(.ok (.dat p.1,p.2):R (Sl×Rho)))=.ok (s,ρ2)->∃F2,Go σ ρ F H (σ.set i (some v)) (ρ2.set i s) F2 H1/\SR Z B F2 H1 (σ.set i (some v)) (ρ2.set i s):=fun {w} rv h=>by
  obtain⟨p,hp,h⟩:=R.bind_ok h;cases h;obtain⟨F2,g2,r2,rp,_⟩:=jcy rv r1 g hp;exact⟨F2,g2.trans Go.put,r2.put rp⟩
 cases w with
 |dat d=>exact dat rv h
 |slot j=>exact dat rv h
 |tmp o=>
  cases h;obtain⟨l,rfl,h1,h2,h3,h4⟩:=rv;exact⟨F1,g.putOwn h3,r1.putOwn h1 h2 (r.base l h3) h4⟩
theorem jqJ {e:Expr}{f:Rho->R (Vl×Rho)}{i:Nat}{x:Str}{pos pos':Pos}(nd:X.N.Nodup)(hi:X.N[i]?=some x)(hx:Loc X.env.scope x)(hf:X.fn x=true\/X.env.scope.names.lookup x=some .local)(h:PE X e (tE Z X B f))
  (hs:swapsWith e (some (.Name x pos')) pos.line X.env=pure false):PS X (.Assign [.Name x pos'] e pos) (tSx Z X B fun ρ=>(f ρ).bind fun p=>(jgu p.1 p.2).bind fun q=>if i<q.2.length then .ok (.nx (q.2.set i q.1))else .stk):=by
 refine PS.imp (jpD nd hi hx h hs hf) fun D σ H hzz=>?_;obtain⟨F,ρ,r,q⟩:=hzz;refine⟨F,ρ,r,q.bind.imp (fun _ w=>w) fun p h1 v F' H' g r' rv=>?_⟩;obtain⟨t,ht,h2⟩:=h1.bind.pure fun c=>jlV;split at h2
 ·obtain⟨F2,g2,r2⟩:=jow (i:=i) rv r r' g ht;exact h2 _ F2 H' g2 r2
 ·exact False.elim h2
theorem jse {c:Expr}{a b:List Stmt}{pos:Pos}{fc:Rho->R (Bool×Rho)}{fa fb:Rho->R Fl}(hc:PT X c (tT Z X B fc))(ha:PSs X a (tS Z X B fa))(hb:PSs X b (tS Z X B fb)):PS X (.If c a b pos) (tS Z X B fun ρ=>(fc ρ).bind fun t=>if t.1 then fa t.2 else fb t.2):=by
 refine PS.imp (jrz hc ha hb) fun D σ H hzz=>?_;obtain⟨F,ρ,r,q⟩:=hzz;refine⟨F,ρ,r,q.bind.imp (fun _ w=>w.xw) fun t p F' H' g r'=>?_⟩;obtain⟨b,ρ1⟩:=t;cases b with
 |true=>rw[if_pos rfl]at p ⊢;exact⟨F',ρ1,r',p.imp (fun _ w=>w.mono g) fun fl z=>z.go g⟩
 |false=>rw[if_neg jus]at p ⊢;exact⟨F',ρ1,r',p.imp (fun _ w=>w.mono g) fun fl z=>z.go g⟩
theorem jqK:PSs X [] (tS Z X B fun ρ=>.ok (.nx ρ)):=PSs.imp jna fun D σ H ⟨F,ρ,r,q⟩=>q σ F H Go.refl r
theorem jox {s:Stmt}{ss:List Stmt}{f g:Rho->R Fl}(h1:PS X s (tS Z X B f))(h2:PSs X ss (tS Z X B g)):PSs X (s::ss) (tS Z X B fun ρ=>(f ρ).bind (jnG g)):=by
 refine PSs.imp (jkI h1 h2) fun D σ H hzz=>?_;obtain⟨F,ρ,r,q⟩:=hzz;refine⟨F,ρ,r,q.bind.imp (fun _ w=>w) fun fl p=>?_⟩;cases fl with
 |nx ρ'=>exact fun σ' F' H' g' r'=>⟨F',ρ',r',p.imp (fun _ w=>w.mono g') fun fl z=>z.go g'⟩
 |bk ρ'=>exact p
 |ct ρ'=>exact p
 |rt v ρ'=>exact p
theorem jqL (hK:X.K=Z.K){x:Str}{i:Nat}{e:Expr}{f:Rho->R (Vl×Rho)}{xp apos cpos pos:Pos}(hv:PE X (.Name x xp) (jpd i))(h:PE X e (tE Z X B f))(ns:∀a p,e≠.Starred a p)(hline:(apos.endLine==cpos.line)=true) :
  PS X (.Expr (.Call (.Attribute (.Name x xp) "append" apos) [e] [] cpos) pos) (tSx Z X B fun ρ=>match ρ[i]? with
   |some (.own (.l _) _ _)=>(f ρ).bind fun p=>(toD p.1 p.2).bind fun q=>match q.2[i]? with
    |some (.own (.l xs) f false)=>if jbc (xs.length+1)then .ok (.nx (q.2.set i (.own (.l (xs++[q.1])) f false)))else .stk
    |_=>.stk
   |_=>.stk):=by
 have hbase:attributeBase (.Name x xp) "append" X.env (eval (.Name x xp) X.env)=eval (.Name x xp) X.env:=rfl;have he:=jad (es:=[]) (env:=X.env) ns;refine PS.imp (jfv (jpU PySem.F.plainAttrs_list PySem.F.slot_list_append PySem.F.type_list_append jey hv (jaC h jbC he) hbase (by rw[he];rfl) hline he rfl) rfl) fun D σ H hzz=>?_
 obtain⟨F,ρ,r,q⟩:=hzz;try dsimp only at q
 split at q
 ·rename_i x0 f0 k0 e0;obtain⟨l,e1,_,⟨us,e3,_⟩,_⟩:=r.own i _ _ _ e0;refine⟨.ref l,e1,.inl ⟨rfl,us,SqL.of e3⟩,F,ρ,r,q.bind.imp (fun _ w=>w) fun p h1 v F1 H1 g1 r1 rv=>?_⟩;obtain⟨t,ht,h2⟩:=h1.bind.pure fun c=>jbs;obtain⟨F2,g2,r2,rp,_⟩:=jcy rv r1 g1 ht;split at h2
  ·rename_i xs f1 e2;split at h2
   ·rename_i hfit;obtain⟨l2,a1,a2,⟨vs,a3,a4⟩,a5⟩:=r2.own i _ _ _ e2;rw[e1]at a1;cases a1;have hl:=a4.length;have hz:=jaH hfit;refine⟨l,vs,v,rfl,rfl,a3,by omega,?_⟩
    obtain⟨kp,sr⟩:=r2.wr (o':=.l (xs++[t.1])) (u:=.lst (vs++[v])) e2 e1 (fun kp=>⟨vs++[v],jah,(a4.mono kp).append (.one (rp.mono kp))⟩) false;exact h2 σ F2 _ (g2.trans (Go.wr e2 e1)) sr
   ·exact False.elim h2
  ·exact False.elim h2
 ·exact False.elim q
end
inductive ForI (X:Cx) (pins:List (Addr×Obj)) (Z:Kn) (B:Bs) (σ:L2.St) (ρ1:Rho) (F2:Addr->Prop) (H2:Hp) (ls fp:List Addr) (tn:Nat->Heap->Prop) (n:Nat) (Rest:Nat->Rho->Prop) (k:Nat) (s':Shared):Prop
 |mk (i:Nat) (σ':L2.St) (F':Addr->Prop) (H':Hp) (ρ':Rho):k=n - i->i<=n->Inv X pins σ' H' s'->SR Z B F' H' σ' ρ'->Go σ ρ1 F2 H2 σ' ρ' F' H'->GK F2 H2 ls F' H'->tn i s'.heap->(∀b∈fp,H' b=none)->Rest i ρ'->ForI X pins Z B σ ρ1 F2 H2 ls fp tn n Rest k s'
theorem jqM {Z:Kn}{X:Cx}{B:Bs}{tg iter:Expr}{body:List Stmt}{pos:Pos}{tgs:List Nat}{one:Bool}{fi:Rho->R (List D×List Nat×Rho)}{fb:Rho->R Fl}(hK:X.K=Z.K)(hp:PassesOwn @4 X.A X.env X.xe)(hc:X.calm=true)(nd:X.N.Nodup)
  (hi:PI X tg iter (tI Z X B fi)) (hT:TgOk X tg tgs one) (hb:PSs X body (tS Z X B fb)) (hs:∀x,foldedSetIterable iter X.env x=pure x) :
  PS X (.For tg iter body [] pos) (tS Z X B fun ρ=>(fi ρ).bind fun t=>(ja6 (fun x r=>(putT tgs one x r).bind fun r'=>fb r') t.1 t.2.2).bind fun r=>.ok (jhu t.2.1 r)):=by
 intro pins s σ H D I hz1;obtain⟨F,ρ,r,h⟩:=hz1;refine wpAny_For (thn (hi pins s σ H (fun J H'=>∃(F':Addr->Prop) (t:List DJ.D×List Nat×Rho) (ls:List Addr),ItR Z B σ ρ F H t.2.2 F' H' t.2.1 ls/\ItmG Z (GK F' H' ls) J t.1/\Ok (XS Z X σ ρ F H) ((ja6 (fun x r=>(putT tgs one x r).bind fun r'=>fb r') t.1 t.2.2).bind fun r=>.ok (jhu t.2.1 r)) (FlP Z B σ ρ F H D)) I
  ⟨F,ρ,r,h.bind.imp (fun c w=>w.xw) fun t h1 F' H' J ls ir im=>⟨F',t,ls,ir,im,h1⟩⟩) fun v s1 h1=>thn h1 fun itv s2 hzz=>?_) hs
 obtain⟨it,fp,tn,J,H2,e,I2,T,st2,f2,F2,t,ls,ir,im,q2⟩:=hzz;subst e;obtain⟨xs,lk,ρ1⟩:=t;have W:=im.wk hK (fun l hl=>(ir.on l hl).1) T;have stat:∀{H':Hp},(∀b∈fp,H' b=none)->∀b∈fp,FpOk X pins H' b:=fun hn b hb=>⟨hn b hb,(f2 b hb).2⟩;let Rest:=fun (i:Nat) (ρ':Rho)=>Ok (XS Z X σ ρ F H) ((ja6 (fun x r=>(putT tgs one x r).bind fun r'=>fb r') (xs.drop i) ρ').bind fun r=>.ok (jhu lk r)) (FlP Z B σ ρ F H D);refine codeAny_forLoop_any (ForI X pins Z B σ ρ1 F2 H2 ls fp tn xs.length Rest) ?_ xs.length
  ⟨0,σ,F2,H2,ρ1,rfl,Nat.zero_le _,I2,ir.sr,Go.refl,GK.refl,st2,fun b hb=>(f2 b hb).1,q2⟩
 rintro n s3 ⟨i,σ3,F3,H3,ρ3,rfl,hi3,I3,r3,g3,gk3,st3,fr3,q3⟩;by_cases hlt:i<xs.length
 ·have hx:xs[i]?=some xs[i]:=jtH hlt;have q3:Ok (XS Z X σ ρ F H) ((ja6 (fun x r=>(putT tgs one x r).bind fun r'=>fb r') (xs.drop i) ρ3).bind fun r=>.ok (jhu lk r)) (FlP Z B σ ρ F H D):=q3;rw[List.drop_eq_getElem_cons hlt]at q3;simp only[ja6,R.bind_assoc]at q3;cases hp3:putT tgs one xs[i] ρ3 with
  |err c=>exact absurd hp3 jd4
  |stk=>rw[hp3]at q3;exact False.elim q3
  |ok ρ4=>
   rw[hp3,R.bind_ok']at q3;have q3:=q3.bind;refine wpAny_passesOwn hp (thn (W.take X rfl rfl hK hc nd tgs one hT i pins s3 σ3 ρ3 ρ4 B F3 H3 _ I3 r3 gk3 (stat fr3) st3 hx hp3) fun o s4 hzz=>?_);obtain⟨u,ho,h4⟩:=hzz;subst ho;refine wpAny_passesOwn hp (thn h4 fun _ s5 h5=>wpAny_passesOwn hp (thn h5 fun _ s6 hzz=>?_));obtain⟨σ6,F6,H6,I6,r6,g6,gk6,st6,fr6,_⟩:=hzz;have I6':=I6.pinned (stat fr6) (W.obj _ _ st6);have gA:Go σ ρ1 F2 H2 σ6 ρ4 F6 H6:=g3.trans g6;have gF:Go σ ρ F H σ6 ρ4 F6 H6:=ir.go.trans gA;have hm6:∀l∈ls,¬Mb σ6 ρ4 l:=fun l hl z=>by
    obtain⟨⟨o,e⟩,nm⟩:=ir.on l hl;rcases gA.mb z with z | z
    ·exact nm z
    ·rw[e]at z;cases z
   refine wpAny_passesOwn hp (thn (hb _ s6 σ6 H6 (Ends.mk (fun σ' H'=>∃F' ρ',SR Z B F' H' σ' ρ'/\Go σ6 ρ4 F6 H6 σ' ρ' F' H'/\Rest (i+1) ρ') D.rt D.nx (fun σ' H'=>∃F' ρ',SR Z B F' H' σ' ρ'/\Go σ6 ρ4 F6 H6 σ' ρ' F' H'/\Rest (i+1) ρ')) I6' ⟨F6,ρ4,r6,q3.imp (fun _ w=>w.mono gF) fun fl z=>?_⟩) fun f s7 q7=>?_)
   ·cases fl with
    |nx ρ'=>exact fun σ' F' H' g r'=>⟨F',ρ',r',g,z⟩
    |ct ρ'=>exact fun σ' F' H' g r'=>⟨F',ρ',r',g,z⟩
    |bk ρ'=>exact fun σ' F' H' g r'=>z σ' F' H' (ir.un σ' ρ' F' H' (gA.trans g)) r'.unlk
    |rt w ρ'=>exact fun u σ' F' H' n g r' rv=>z u σ' F' H' n (ir.un σ' ρ' F' H' (gA.trans g)) r'.unlk rv.unlk
   ·have again:∀{σ7:L2.St}{H7:Hp},Inv X (pins++jbX fp s6.heap) σ7 H7 s7->(∃F' ρ',SR Z B F' H7 σ7 ρ'/\Go σ6 ρ4 F6 H6 σ7 ρ' F' H7/\Rest (i+1) ρ') ->
      ∃m,m<xs.length - i/\ForI X pins Z B σ ρ1 F2 H2 ls fp tn xs.length Rest m s7:=fun {σ7 H7} I7 hzz=>by
     obtain⟨F7,ρ7,r7,g7,q7⟩:=hzz;refine⟨xs.length - (i+1),Nat.sub_lt_sub_left hlt (Nat.lt_succ_self i),i+1,σ7,F7,H7,ρ7,rfl,hlt,I7.unpinned,r7,gA.trans g7,gk6.go W.lst r6 g7 hm6,W.keep _ _ _ st6 fun b hb o e=>(I7.pin (b,o) (jtS _ (jtS _ (jbm hb e)))).1,fun b hb=>?_,q7⟩;obtain⟨o,e,d⟩:=W.obj _ _ st6 b hb;exact(I7.pin (b,o) (jtS _ (jtS _ (jbm hb e)))).2.1
    cases f with
    |next=>obtain⟨σ7,H7,I7,n7⟩:=q7;exact again I7 n7
    |cont=>obtain⟨σ7,H7,I7,n7⟩:=q7;exact again I7 n7
    |brk=>obtain⟨σ7,H7,I7,q7⟩:=q7;exact⟨σ7,H7,I7.unpinned,q7⟩
    |ret v=>obtain⟨x7,σ7,H7,I7,r7,q7⟩:=q7;exact⟨x7,σ7,H7,I7.unpinned,r7,q7⟩
 ·have hie:i=xs.length:=by omega
  subst hie;have q3:Ok (XS Z X σ ρ F H) ((ja6 (fun x r=>(putT tgs one x r).bind fun r'=>fb r') (xs.drop xs.length) ρ3).bind fun r=>.ok (jhu lk r)) (FlP Z B σ ρ F H D):=q3;rw[List.drop_eq_nil_of_le (jul _)]at q3;have q3:FlP Z B σ ρ F H D (.nx (unlk lk ρ3)):=q3;refine wpAny_passesOwn hp (thn (W.done X rfl rfl hK hc pins s3 σ3 F3 H3 I3 r3.dom gk3 (stat fr3) st3) fun o s4 hzz=>?_);obtain⟨ho,I4⟩:=hzz;subst ho;exact wpAny_execs_nil ⟨σ3,H3,I4,q3 σ3 F3 H3 (ir.un σ3 ρ3 F3 H3 g3) r3.unlk⟩
end DJ
namespace L2
open PySem PySem.Spec PyProof.Rows
section
variable {X:Cx}
noncomputable def jlW (X:Cx):V->List V->Hp->VK->Prop:=fun x vs H Q=>∃l b xs zs,x=.ref l/\vs=[.ref b]/\H l=some (.lst xs)/\(SqL X.K H b zs\/SqT X.K H b zs)/\xs.length+zs.length<=sizeLine/\Q .non (upd H l (.lst (xs++zs)))
theorem jhC:MtM X "list.extend" (jlW X):=by
 intro pins s σ H x vs v us Q I rx rv h;obtain⟨l,b,xs,zs,rfl,rfl,hH,hB,hz,q⟩:=h;cases rx;obtain⟨u,rfl,ru⟩:=rv.one;cases ru;obtain⟨z,its,n,r,hl,e⟩:=I.lstM hH;have fin:∀its2:List Value,Vals zs its2->zs.length=its2.length->EP X pins σ Q .none { s with heap:=s.heap.update l (Obj.mapSeq fun x=>x++its2.toArray) }:=fun its2 r2 hl2=>by
  refine⟨.non,_,I.lset (its':=its++its2) hH e @11 (r.append r2) ?_,rfl,q⟩
  rw[jtV];omega
 have go:∀(T:String) (o2:Obj) (its2:List Value) (n2:Nat),(T="list"\/T="tuple")->s.heap.get? b=some o2->o2.cls=.type T->o2.data=.seq its2.toArray n2->Vals zs its2->wpAny @4 X.A (call (.builtin "list.extend") [.ref l,.ref b]) (EP X pins σ Q) X.xe s:=fun T o2 its2 n2 hT ho2 hc2 hd2 r2=>by
  have hl2:=r2.length;refine wpAny_call_entry F.slot_list_extend ⟨_,e,rfl⟩ F.entry_list_extend ?_ (F.args_list_extend_2 _ _);show wpAny _ _ (Builtin.List.listExtendWith (.ref l) (.ref b) .none) _ _ _;unfold Builtin.List.listExtendWith;refine jt8 (wpAny_typeOf (T:=T) ⟨o2,ho2,hc2⟩ ?_);have hc:(Builtin.List.listSameRef (.ref l) (.ref b) || Value.type T == Value.type "list" || Value.type T == Value.type "tuple")=true:=by
   rcases hT with rfl | rfl <;> simp
  rw[if_pos hc];refine jt8 (jt8 (wpAny_seqItems ho2 hd2 (jt9 ?_)));refine jt8 (jt8 (wpAny_seqItems e rfl (jt9 ?_)));have long:¬ (!its.toArray.isEmpty&&Builtin.List.listTooLong (its.toArray.size+its2.toArray.size))=true:=by
   rw[jdY (by rw[jtL,jtL];omega),Bool.and_false]
   exact jus
  rw[if_neg long];refine jt8 (wpAny_updateSeq e rfl (jt9 ⟨.none,rfl,fin its2 r2 hl2⟩) (by rw[jtL];omega) (by rw[Array.size_append,jtL,jtL];omega))
 rcases hB with hB | hB
 ·obtain⟨its2,r2,⟨o2,n2,ho2,hc2,_,hd2⟩,_⟩:=I.list hB;exact go "list" o2 its2 n2 (.inl rfl) ho2 hc2 hd2 r2
 ·obtain⟨its2,r2,⟨o2,ho2,hc2,n2,hd2⟩,_⟩:=I.tuple hB;exact go "tuple" o2 its2 n2 (.inr rfl) ho2 hc2 hd2 r2
end
end L2
namespace DJ
open PySem PySem.Spec PyProof.Rows L2
section
variable {Z:Kn}{X:Cx}{B:Bs}
noncomputable def jsf (fe:Rho->R (Vl×Rho))(i:Nat)(ρ:Rho):R Fl:=match ρ[i]? with
 |some (.own (.l _) _ _)=>(fe ρ).bind fun p=>(deref p.1 p.2).bind fun x=>(jat x).bind fun ys=>match p.2[i]? with
  |some (.own (.l xs) f false)=>if jbc (xs.length+ys.length)then .ok (.nx (p.2.set i (.own (.l (xs++ys)) f false)))else .stk
  |_=>.stk
 |_=>.stk
theorem jqN (hK:X.K=Z.K){x:Str}{i:Nat}{e:Expr}{fe:Rho->R (Vl×Rho)}{xp apos cpos pos:Pos}(hv:PE X (.Name x xp) (jpd i))(h:PE X e (tE Z X B fe))(ns:∀a p,e≠.Starred a p)(hline:(apos.endLine==cpos.line)=true) :
  PS X (.Expr (.Call (.Attribute (.Name x xp) "extend" apos) [e] [] cpos) pos) (tSx Z X B (jsf fe i)):=by
 have hbase:attributeBase (.Name x xp) "extend" X.env (eval (.Name x xp) X.env)=eval (.Name x xp) X.env:=rfl;have he:=jad (es:=[]) (env:=X.env) ns;refine PS.imp (jfv (jpU PySem.F.plainAttrs_list PySem.F.slot_list_extend PySem.F.type_list_extend jhC hv (jaC h jbC he) hbase (by rw[he];rfl) hline he rfl) rfl) fun D σ H hzz=>?_
 obtain⟨F,ρ,r,q⟩:=hzz;unfold jsf at q;split at q
 ·rename_i x0 f0 k0 e0;obtain⟨l,e1,_,⟨us,e3,_⟩,_⟩:=r.own i _ _ _ e0;refine⟨.ref l,e1,.inl ⟨rfl,us,SqL.of e3⟩,F,ρ,r,q.bind.imp (fun _ w=>w) fun p h1 v F1 H1 g1 r1 rv=>?_⟩;obtain⟨t,ht,h2⟩:=h1.bind.pure fun c=>jaE;obtain⟨ys,hy,h3⟩:=h2.bind.pure fun c=>jc3;obtain⟨b,ws,rfl,sq,rp⟩:=jbi (jaZ rv r1 ht) hy;split at h3
  ·rename_i xs f1 e2;split at h3
   ·rename_i hfit;obtain⟨l2,a1,a2,⟨vs,a3,a4⟩,a5⟩:=r1.own i _ _ _ e2;rw[e1]at a1;cases a1;have hl:=a4.length;have hl2:=rp.length;have hz:=jaH hfit;refine⟨l,b,vs,ws,rfl,rfl,a3,by rw[hK];exact sq,by omega,?_⟩
    obtain⟨kp,sr⟩:=r1.wr (o':=.l (xs++ys)) (u:=.lst (vs++ws)) e2 e1 (fun kp=>⟨vs++ws,jah,(a4.mono kp).append (rp.mono kp)⟩) false;exact h3 σ F1 _ (g1.trans (Go.wr e2 e1)) sr
   ·exact False.elim h3
  ·exact False.elim h3
 ·exact False.elim q
inductive rSetD (Z:Kn) (o i v:V) (H:Hp) (Q:Hp->Prop):Prop
 |mk (F:Addr->Prop) (a b:Addr) (ks:List D) (us ws:List V) (xs:List (List Key×Addr×Value)) (ep:Nat) (kd:D) (k:List Key):o=.ref a->i=.ref b->H a=some (.dT xs ep)->Reps Z F H ks us->DicI ks xs us ws->keyD kd=some k->Rep Z F H kd (.ref b)->(∀r ep,RelV v r->((storedH xs k b r).map (·.1)).Nodup->Q (upd H a (.dT (storedH xs k b r) ep)))->rSetD Z o i v H Q
theorem jlX (hK:X.K=Z.K)(hu:X.A.units+64<cLine):jrk X (rSetD Z):=by
 intro pins s σ H o i v ov iv u Q I ro ri rv h;obtain⟨F,a,b,ks,us,ws,xs,ep0,kd,k,rfl,rfl,e,r1,ii,ek,rk,q⟩:=h;cases ro;cases ri;obtain⟨h0,dd⟩:=jgx hK I e r1 ii;refine wpAny_setItem_heap (hsz:=ii.sz) (tupleKind_room_in1 @0) (jeK hK I ek rk) dd fun h' dd' hs=>?_
 obtain⟨q0,es,ep,hq,h2,h3,h4,_,h5⟩:=dd';exact⟨_,I.write (x:=a) (e:=a) (o:=.dT (storedH xs k b u) ep) (by rw[e];exact True.intro) (.inl rfl) (fun b q hb z=>(hs.2 b hb).trans z) ⟨q0,hq⟩ ⟨h0,q0,es,hq,h2,h3,h4⟩,q u ep rv h5⟩
theorem jlY (hK:X.K=Z.K)(hu:X.A.units+64<cLine):jrk X fun o i v H Q=>jpS o i v H Q\/rSetD Z o i v H Q:=fun pins s σ H o i v ov iv u Q I ro ri rv h=>
 h.elim (jkU pins s σ H o i v ov iv u Q I ro ri rv) (jlX hK hu pins s σ H o i v ov iv u Q I ro ri rv)
noncomputable def jsg (fe fk:Rho->R (Vl×Rho))(i:Nat)(ρ:Rho):R Fl:=(fe ρ).bind fun p=>(toD p.1 p.2).bind fun q=>match q.2[i]? with
 |some (.own (.l _) _ _)=>(fk q.2).bind fun kd=>match kd.2[i]?,kd.1 with
  |some (.own (.l xs) f false),.dat (.int j)=>if 0<=j/\j<xs.length then .ok (.nx (kd.2.set i (.own (.l (xs.set j.toNat q.1)) f false)))else .stk
  |_,_=>.stk
 |some (.own (.d _ _) _ _)=>(fk q.2).bind fun kd=>(toD kd.1 kd.2).bind fun kq=>match kq.2[i]?,keyD kq.1 with
  |some (.own (.d ks vs) f false),some key=>if jbc (ks.length+1)then .ok (.nx (kq.2.set i (.own (jnD ks vs kq.1 key q.1) f false)))else .stk
  |_,_=>.stk
 |_=>.stk
theorem jqO (hK:X.K=Z.K)(hu:X.A.units+64<cLine){x:Str}{i:Nat}{k e:Expr}{fk fe:Rho->R (Vl×Rho)}{xp spos pos:Pos}(hv:PE X (.Name x xp) (jpd i))(hk:PE X k (tE Z X B fk))(h:PE X e (tE Z X B fe))(hs:swapsWith e (some (.Subscript (.Name x xp) k spos)) pos.line X.env=pure false)(hsl:∀a b c d,k≠.Slice a b c d)
  (hw:swappedStores [.Subscript (.Name x xp) k spos] e X.env=pure none):PS X (.Assign [.Subscript (.Name x xp) k spos] e pos) (tSx Z X B (jsg fe fk i)):=by
 refine PS.imp (jmy h (jpC hv hk (jlY hK hu) (by intro v;cases k <;> first | rfl | exact absurd rfl (hsl _ _ _ _))) hs hw rfl) fun D σ H hzz=>?_
 obtain⟨F,ρ,r,q⟩:=hzz;unfold jsg at q;refine⟨F,ρ,r,q.bind.imp (fun _ w=>w) fun p h1 v F1 H1 g1 r1 rv=>?_⟩;obtain⟨t,ht,h2⟩:=h1.bind.pure fun c=>jbs;obtain⟨F2,g2,r2,rp,_⟩:=jcy rv r1 g1 ht;split at h2
 ·rename_i x0 f0 k0 e0;obtain⟨l,e1,_⟩:=r2.own i _ _ _ e0;refine⟨.ref l,e1,F2,t.2,r2,h2.bind.imp (fun c w=>w.mono g2) fun kd h3 kv F3 H3 g3 r3 rk=>?_⟩;split at h3
  ·rename_i xs f1 j e2 ek;split at h3
   ·rename_i hj;obtain⟨l2,a1,a2,⟨vs,a3,a4⟩,a5⟩:=r3.own i _ _ _ e2;rw[e1]at a1;cases a1;have hk0:kv=.int j:=by
     obtain⟨kw,kρ⟩:=kd;simp only at ek;subst ek;have rk:Rep Z F3 H3 (.int j) kv:=rk;simpa only[Rep] using rk
    subst hk0;have hl:=a4.length;have hix:ixN vs.length j=some j.toNat:=by
     unfold ixN;rw[if_pos hj.1,if_pos @0]
    refine .inl ⟨l,vs,j,j.toNat,rfl,rfl,a3,hix,?_⟩;have rp3:=rp.mono (g3.keep r2);obtain⟨kp,sr⟩:=r3.wr (o':=.l (xs.set j.toNat t.1)) (u:=.lst (vs.set j.toNat v)) e2 e1 (fun kp=>⟨vs.set j.toNat v,jah,(a4.mono kp).set (rp3.mono kp) _⟩) false;exact h3 σ F3 _ ((g2.trans g3).trans (Go.wr e2 e1)) sr
   ·exact False.elim h3
  ·exact False.elim h3
 ·rename_i x0 x1 f0 k0 e0;obtain⟨l,e1,_⟩:=r2.own i _ _ _ e0;refine⟨.ref l,e1,F2,t.2,r2,h2.bind.imp (fun c w=>w.mono g2) fun kd h3 kv F3 H3 g3 r3 rk=>?_⟩;obtain⟨kq,hkq,h4⟩:=h3.bind.pure fun c=>jbs;obtain⟨F4,g4,r4,rp4,_⟩:=jcy rk r3 g3 hkq;split at h4
  ·rename_i ks vs f1 key e2 ek;split at h4
   ·rename_i hfit;obtain⟨l2,a1,a2,⟨us,ws,xs,⟨ep0,a3⟩,b1,b2,ii⟩,a5⟩:=r4.own i _ _ _ e2;rw[e1]at a1;cases a1;obtain⟨b,rfl⟩:=jd2 ek rp4;have rp5:=rp.mono (g4.keep r2);refine .inr ⟨F4,l,b,ks,us,ws,xs,ep0,kq.1,key,rfl,rfl,a3,b1,ii,ek,rp4,fun rr ep ru nd=>?_⟩;have hl:ks.length=xs.length:=by rw[b1.length,ii.us,jtQ]
    have hz:=jaH hfit;obtain⟨kp,sr⟩:=r4.wr (o':=jnD ks vs kq.1 key t.1) (u:=.dT (storedH xs key b rr) ep) e2 e1 (fun kp=>jnK ⟨_,jah⟩ (b1.mono kp) (b2.mono kp) ii ek (rp4.mono kp) (rp5.mono kp) ru @0 nd) false
    exact h4 σ F4 _ ((g2.trans g4).trans (Go.wr e2 e1)) sr
   ·exact False.elim h4
  ·exact False.elim h4
 ·exact False.elim h2
theorem jqP (hK:X.K=Z.K)(hc:X.calm=true)(nd:X.N.Nodup){es:List Expr}{kk:Nat}{tp pos:Pos}{is:List Nat}{e:Expr}{f:Rho->R (Vl×Rho)}(hT:TgsOk X es is)(h:PE X e (tE Z X B f))(hs:swapsWith e (some (.Tuple es kk tp)) pos.line X.env=pure false)(hw:swappedStores [.Tuple es kk tp] e X.env=pure none) :
  PS X (.Assign [.Tuple es kk tp] e pos) (tSx Z X B fun ρ=>(f ρ).bind fun p=>(deref p.1 p.2).bind fun d=>(jat d).bind fun xs=>(putT is false (.tup xs) p.2).bind fun ρ'=>.ok (.nx ρ')):=by
 refine PS.imp (jmy h (jqb (n:=is.length) hc (hT.pgs nd) hT.lens.1 hT.lens.2) hs hw rfl) fun D σ H hzz=>?_;obtain⟨F,ρ,r,q⟩:=hzz;refine⟨F,ρ,r,q.bind.imp (fun _ w=>w) fun p h1 v F1 H1 g1 r1 rv=>?_⟩;obtain⟨d,hd,h2⟩:=h1.bind.pure fun c=>jaE;obtain⟨xs,hx,h2⟩:=h2.bind.pure fun c=>jc3;obtain⟨ρ',hp,h3⟩:=h2.bind.pure fun c=>jd4;have rb:=jaZ rv r1 hd;obtain⟨a,vs,rfl,sq,rs⟩:=jbi rb hx;simp only[putT]at hp;split at hp
 ·rename_i hl;cases hp;have hvl:vs.length=is.length:=by rw[hl,rs.length]
  exact⟨a,vs,rfl,(by rw[hK];exact sq.symm),hvl,ji1 hvl.symm (h3 _ F1 H1 (g1.trans (r1.putN rs).2) (r1.putN rs).1)⟩
 ·cases hp
theorem jqQ {W:Nat}(hp:PassesOwn @4 X.A X.env X.xe){c:Expr}{body:List Stmt}{pos:Pos}{fc:Rho->R (Bool×Rho)}{fb:Rho->R Fl}(hc:PT X c (tT Z X B fc))(hb:PSs X body (tS Z X B fb)) :
  PS X (.While c body [] pos) (tS Z X B fun ρ=>jbZ fc fb W ρ):=by
 refine PS.imp (jkL hp hc hb) fun D σ H hzz=>?_;obtain⟨F,ρ,r,q⟩:=hzz;refine⟨fun n σ1 H1=>∃F1 ρ1,Go σ ρ F H σ1 ρ1 F1 H1/\SR Z B F1 H1 σ1 ρ1/\Ok (XS Z X σ ρ F H) (jbZ fc fb n ρ1) (FlP Z B σ ρ F H D),⟨W,F,ρ,Go.refl,r,q⟩,?_⟩;rintro n σ1 H1 ⟨F1,ρ1,g1,r1,q1⟩;cases n with
 |zero=>exact False.elim q1
 |succ n=>
  simp only[jbZ]at q1;refine⟨F1,ρ1,r1,q1.bind.imp (fun _ w=>(w.mono g1).xw) fun t h2 F2 H2 g2 r2=>?_⟩;obtain⟨b,ρ2⟩:=t;cases b with
  |false=>
   rw[if_neg jus]at h2 ⊢;exact h2 σ1 F2 H2 (g1.trans g2) r2
  |true=>
   rw[if_pos rfl]at h2 ⊢;refine⟨fun σ3 H3=>∃F3 ρ3,Go σ ρ F H σ3 ρ3 F3 H3/\SR Z B F3 H3 σ3 ρ3/\Ok (XS Z X σ ρ F H) (jbZ fc fb n ρ3) (FlP Z B σ ρ F H D),fun σ3 H3 w=>⟨n,Nat.lt_succ_self n,w⟩,F2,ρ2,r2,h2.bind.imp (fun _ w=>w.mono (g1.trans g2)) fun fl z=>?_⟩;have g12:=g1.trans g2;cases fl with
   |nx ρ'=>exact fun σ' F' H' g r'=>⟨F',ρ',g12.trans g,r',z⟩
   |ct ρ'=>exact fun σ' F' H' g r'=>⟨F',ρ',g12.trans g,r',z⟩
   |bk ρ'=>exact fun σ' F' H' g r'=>z σ' F' H' (g12.trans g) r'
   |rt v ρ'=>exact fun u σ' F' H' nsl g r' rv=>z u σ' F' H' nsl (g12.trans g) r' rv
end
end DJ
namespace DJ
open PySem PySem.Spec PyProof.Rows L2
theorem jhD {X:Cx}{scope:Scope}{N cn:List Str}{nt:Nat}{caps:List Nat}{Z:Kn}{B:Bs}{elt tg iter:Expr}{ks:List Expr}{pos spos py:Pos}{tgs:List Nat}{one:Bool}{fi:Rho->R (List D×List Nat×Rho)}{fc:Option (Rho->R (Bool×Rho))}{fe:Rho->R (Vl×Rho)}{y:Str}{j:Nat}
  (hK:X.K=Z.K) (nd:X.N.Nodup) (hj:X.N[j]?=some y) (hy:Loc X.env.scope y) (hf:X.fn y=true\/X.env.scope.names.lookup y=some .local) (hsw:swapsWith (.ListComp elt [⟨tg,iter,ks,0⟩] scope pos) (some (.Name y py)) spos.line X.env=pure true)
  (hc:X.calm=true) (C:CompOk X scope N cn nt caps) (hi:PI X tg iter (tI Z X B fi))
  (hT:∀s' H' fp E,TgOk @13 tg tgs one) (hlow:∀i∈tgs,i<nt)
  (hE:∀s' H' fp E B',PE @13 elt (tE Z @13 B' fe)) {xx:Bool} (Tp:xx=true->TopX X)
  (hk:(ks=[]/\fc=none)\/∃k g,ks=[k]/\fc=some g/\∀s' H' fp E B',PT @13 k (tT Z @13 B' g)) (hs:∀x,foldedSetIterable iter X.env x=pure x) :
  PS X (.Assign [.Name y py] (.ListComp elt [⟨tg,iter,ks,0⟩] scope pos) spos) (tSx Z X B fun ρ=>((fi ρ).bind fun t=>((compGo (jc2 tgs one nt caps fc fe) t.1 t.2.2).pass xx).bind fun ys=>(.ok (.tmp (.l ys.1),unlk t.2.1 ys.2):R (Vl×Rho))).bind fun p=>(jgu p.1 p.2).bind fun q=>if j<q.2.length then .ok (.nx (q.2.set j q.1))else .stk):=by
 intro pins s σ H D I hz1;obtain⟨F,ρ,r,h⟩:=hz1;rw[exec_Assign_Name_used _ _ _ _ hsw];refine jt8 (wpAny_standAt (jt8 ?_));show wpAny _ X.A (do let _ <-comprehension (.ListComp elt [⟨tg,iter,ks,0⟩] scope pos) scope X.env _ (newList []) false (eval iter X.env) (some (assign (.Name y py) X.env))) _ _ s
 refine jt8 (juf (wpAny_comprehension_free (use:=some (assign (.Name y py) X.env)) (Q:=fun _ s'=>SP X pins D .next s') rfl hs (ji4 (C.cells I)) C.kind C.names ?_) (fun _ s' hq=>jt9 (jt9 hq)) fun _ _ e=>e);simp only[R.bind_assoc,R.bind_ok']at h;refine thn (hi pins s σ H (fun J H'=>∃(F':Addr->Prop) (t:List DJ.D×List Nat×Rho) (ls:List Addr),ItR Z B σ ρ F H t.2.2 F' H' t.2.1 ls/\ItmG Z (GK F' H' ls) J t.1/\Ok (XW Z X σ ρ H) (((compGo (jc2 tgs one nt caps fc fe) t.1 t.2.2).pass xx).bind fun ys=>(jgu (.tmp (.l ys.1)) (unlk t.2.1 ys.2)).bind fun q=>if j<q.2.length then .ok (.nx (q.2.set j q.1))else .stk) (FlP Z B σ ρ F H D)) I
  ⟨F,ρ,r,h.bind.imp (fun _ w=>w) fun t h1 F' H' J ls ir im=>⟨F',t,ls,ir,im,h1⟩⟩) fun v s1 h1=>thn h1 fun itv s2 hzz=>?_
 obtain⟨it,fp,tn,J,H2,e,I2,Tn,st2,f2,F2,t,ls,ir,im,q2⟩:=hzz;subst e;have fo:∀b∈fp,(b∈X.ex\/X.s₀.heap.objs.size<=b)/\b≠X.env.locals/\(∀x c,X.env.cells.lookup x=some c->c≠b)/\∀p∈X.pn++pins,p.1≠b:=fun b hb=>by
  obtain⟨f0,f1,f3,f4,f5,f6⟩:=f2 b hb;exact⟨f4,f1,f5,f6⟩
 refine jgA (fc:=fc) (RR:=fun acc C'=>compPost @4 X.A X.xe (some (assign (.Name y py) X.env)) (fun _ s'=>SP X pins D .next s') acc C') hK hc C I2 ir.sr (im.wk hK (fun l hl=>(ir.on l hl).1) Tn) (fun l hl=>(ir.on l hl).2) st2 f2 (fun s' H' E=>hT s' H' fp E) hlow (fun i hi=>?_) (fun s' H' E B'=>hE s' H' fp E B') ?_ rfl (fun z=>?_) ?_ ?_
 ·rw[ir.sr.len,I2.len];exact C.capLt i hi
 ·rcases hk with z | ⟨k,g,e1,e2,hk⟩
  ·exact .inl z
  ·exact .inr ⟨k,g,e1,e2,fun s' H' E B'=>hk s' H' fp E B'⟩
 ·rw[z,jgI]at q2;exact q2
 ·intro ys ρE E s3 l σ' F' H' s' vs hY hl I3 IY gE rE nF nO hl' rp;rw[hY,ja2]at q2;have q2:Ok (XW Z X σ ρ H) (if j<(unlk t.2.1 ρE).length then .ok (.nx ((unlk t.2.1 ρE).set j (.own (.l ys) false false)))else .stk) (FlP Z B σ ρ F H D):=q2;split at q2
  ·have q2:FlP Z B σ ρ F H D (.nx ((unlk t.2.1 ρE).set j (.own (.l ys) false false))):=q2
   ·obtain⟨m,hn,_⟩:=IY.loc;obtain⟨oC,es,ep,eC,dC,rC⟩:=id hn;have eC:s'.heap.get? s3.heap.objs.size=some oC:=eC;have IX:Inv X pins σ H' s':=jed I3 fo IY (Heap.SameBut.refl _ _);have hCf:H' s3.heap.objs.size=none:=IY.free;have hCL:s3.heap.objs.size≠X.env.locals:=Nat.ne_of_gt I3.lt;have hCs:X.s₀.heap.objs.size<=s3.heap.objs.size:=I3.sz;have hCx:∀x c,X.env.cells.lookup x=some c->c≠s3.heap.objs.size:=fun x c e z=>by
     obtain⟨v,w⟩:=I3.cell x c e;exact absurd w.lt (by rw[z];exact jup _)
    have hCp:∀p∈X.pn++pins,p.1≠s3.heap.objs.size:=fun p hp z=>by
     have:=juh (I3.pin p hp).1;rw[z]at this;exact absurd this (jup _)
    have IP:Inv X (pins++[(s3.heap.objs.size,oC)]) σ H' s':=IX.pins_of fun p hp=>(List.mem_append.mp hp).elim (fun z=>IX.pin p (jtS _ z)) fun z=>by
     have e:p=(s3.heap.objs.size,oC):=by simpa using z
     subst e;exact⟨eC,hCf,hCL,I3.nofs (jul _),fun v z=>by rw[dC]at z;cases z⟩
    have hlH:H l=none:=ir.go.free hl;have r':SR Z B F' H' (σ.set j (some (.ref l))) ((unlk t.2.1 ρE).set j (.own (.l ys) false false)):=rE.unlk.putOwn nF (fun z=>nO z.unlk) (r.base l hlH) ⟨vs,hl',rp⟩;have g':Go σ ρ F H (σ.set j (some (.ref l))) ((unlk t.2.1 ρE).set j (.own (.l ys) false false)) F' H':=(ir.un σ ρE F' H' gE).putOwn hlH;show wpAny _ X.A (assign (.Name y py) X.env (.ref l)) _ _ _;refine wpAny_assign_Name (jdT IP nd hj hy (v:=.ref l) rfl (fun s4 I4=>?_) hf);have e4:s4.heap.get? s3.heap.objs.size=some oC:=(I4.pin (s3.heap.objs.size,oC) @11).1
    refine⟨m,⟨oC,es,ep,e4,dC,rC⟩,fun h5 sb=>?_⟩;have I5:Inv X pins (σ.set j (some (.ref l))) H' { s4 with heap:=h5 }:=(I4.unpinned).turned (t':=s4.toks) (it:=s3.heap.objs.size) (fun b o hb e=>(sb.2 b hb).trans e) hCf hCL (.inr hCs) hCx hCp
    exact⟨_,H',I5,q2 _ F' H' g' r'⟩
  ·exact False.elim q2
 ·intro c E s3 l σ' H' s' pins' ea Cc hY hl I3 hC IY stl fly;rw[hY]at q2;obtain⟨hx,q2⟩:=jgJ q2;exact jgK (Tp hx) I3 fo IY fly fun s'' I'' fl''=>q2 pins H' s'' ea Cc hC I'' (Stl.go ir.go stl) fl''
noncomputable def toSs:List S->Ss
 |[]=>.nil
 |s::ss=>.cons s (toSs ss)
noncomputable def jmT (sc:List @7)(x:Str):Bool:=sc.lookup x==some .local || sc.lookup x==some .cell
noncomputable def je1:Expr->Bool
 |.ListComp ..=>false
 |.SetComp ..=>false
 |.DictComp ..=>false
 |_=>true
noncomputable def isTup:Expr->Bool
 |.Tuple ..=>true
 |_=>false
noncomputable def jsh:Expr->Bool
 |.Slice ..=>true
 |_=>false
section
variable (T:Tab)
noncomputable def joy (e:Expr):Option (Str×Str×List Expr):=match e with
 |.Call f as ks pos=>gd (!ks.isEmpty) ((jr9 f).bind fun p=>gd (!(p.2.2.endLine==pos.line)) ((jhz p.1).map fun x=>(x,p.2.1,as)))
 |_=>none
theorem jjQ {e:Expr}{p:Str×Str×List Expr}(h:joy e=some p):∃xp apos cpos,e=.Call (.Attribute (.Name p.1 xp) p.2.1 apos) p.2.2 [] cpos/\(apos.endLine==cpos.line)=true:=by
 cases e with
 |Call f as ks pos=>
  replace h:=jam h;obtain⟨hk,h⟩:=h;cases jbR hk;replace h:=jag h;obtain⟨⟨v,m,apos⟩,hf,h⟩:=h;cases jgN hf;replace h:=jam h;obtain⟨hl,h⟩:=h;replace h:=jal h;obtain⟨x,hx,rfl⟩:=h;obtain⟨np,rfl⟩:=ja1 hx;exact⟨np,apos,pos,rfl,jb2 hl⟩
 |_=>exact jaf h
noncomputable def jqR:Expr->Option (Expr×Expr)
 |.Subscript v k _=>some (v,k)
 |_=>none
theorem jjR {e:Expr}{p:Expr×Expr}(h:jqR e=some p):∃q,e=.Subscript p.1 p.2 q:=by
 cases e with
 |Subscript v k q=>cases h;exact⟨q,rfl⟩
 |_=>exact jaf h
noncomputable def jtt (tr:Expr->Option E)(q:Bool)(sc:List @7)(N:List Str)(e t:Expr):Option S:=
 jnU (jhz t) (fun x=>gd (!jmT sc x) (o2 (jdy N x) (tr e) .asg)) <|
 jnU (jlw t) (fun es=>gd (q || !je1 e || isTup e) ((mapO jhz es).bind fun xs=>gd (!xs.all (jmT sc)) (o2 (mapO (jdy N) xs) (tr e) .unp))) <|
 jnU (jqR t) (fun p=>(jhz p.1).bind fun x=>gd (jd9 x || knd sc x != 1 || !je1 e || jsh p.2) (o3 (jdy N x) (tr p.2) (tr e) .sub)) <|
 none
noncomputable def jsZ (tr:Expr->Option E)(i:Nat)(m:Str)(as:List Expr):Option S:=
 alt (m == "append") ((jjp as).bind fun e=>(tr e).map (.app i)) <|
 alt (m == "extend") ((jjp as).bind fun e=>(tr e).map (.ext i)) <|
 none
noncomputable def joz (tr:Expr->Option E)(sc:List @7)(N:List Str)(e:Expr):Option S:=match joy e with
 |some p=>gd (jd9 p.1 || knd sc p.1 != 1) ((jdy N p.1).bind fun i=>jsZ tr i p.2.1 p.2.2)
 |none=>gd (!je1 e) ((tr e).map .expr)
noncomputable def jtu (n:Nat)(trs:Bool->List @7->List Str->Stmt->Option S)(q:Bool)(sc:List @7)(N:List Str):Stmt->Option S
 |.Return v _=>match v with
  |some e=>(trE { T with quiet:=q } n sc N e).map .ret
  |none=>some .retN
 |.Pass _=>some .pas
 |.Break _=>some .brk
 |.Continue _=>some .cnt
 |.Assign ts e _=>(jjp ts).bind (jtt (trE { T with quiet:=q } n sc N) q sc N e)
 |.While c body oe _=>gd (q || !oe.isEmpty) (o2 (trE { T with quiet:=q } n sc N c) (mapO (trs q sc N) body) fun c b=>.whl c (toSs b))
 |.If c a b _=>o3 (trE { T with quiet:=q } n sc N c) (mapO (trs q sc N) a) (mapO (trs q sc N) b) fun c a b=>.ife c (toSs a) (toSs b)
 |.For tg iter body oe _=>gd (q || !oe.isEmpty) ((jdb tg).bind fun p=>gd (!p.1.all (jmT sc)) (o3 (mapO (jdy N) p.1) (jpj { T with quiet:=q } sc (trE { T with quiet:=q } n sc N) p.2 iter) (mapO (trs q sc N) body) fun is it b=>.loop is p.2 it (toSs b)))
 |.Expr e _=>joz (trE { T with quiet:=q } n sc N) sc N e
 |_=>none
noncomputable def trS:Nat->Bool->List @7->List Str->Stmt->Option S
 |0=>fun _ _ _ _=>none
 |n+1=>jtu T n (trS n)
end
structure XT (T:Tab)(G:Calls)(U:Nat->Nat->Bool)(Z:Kn)(n:Nat)(X:Cx)(sc:List (Str×NameKind)):Prop extends XD T G U Z n X sc where
 fn:∀x,X.fn x=true
 own:T.quiet=false->PassesOwn @4 X.A X.env X.xe
 hex:X.ex=[]
 hst:X.stack=X.env::X.outer
 hfr:X.env.frame=some X.env.locals
 rcl:∀C∈Z.cl,Rcl Z.K C
variable {T:Tab}{G:Calls}{U:Nat->Nat->Bool}{Z:Kn}{m W:Nat}
theorem XT.loc {X:Cx}{sc:List @7}(D:XT T G U Z m X sc){x:Str}(h:jmT sc x=true):L2.Loc X.env.scope x:=by
 unfold jmT at h;simp only[Bool.or_eq_true,beq_iff_eq]at h;unfold L2.Loc;rcases D.sc x with e | ⟨e,_⟩
 ·rw[e];exact h
 ·rw[e]at h;rcases h with z | z <;> cases z
theorem jfN {X:Cx}{sc:List @7}(D:XT T G U Z m X sc):∀{xs:List Str}{ps:List Pos}{is:List Nat},ps.length=xs.length->xs.all (jmT sc)=true->mapO (jdy X.N) xs=some is->TgsOk X ((xs.zip ps).map fun p=>Expr.Name p.1 p.2) is
 |[],_,is,_,_,h=>by cases h;exact .nil
 |x::xs,[],_,h,_,_=>by simp at h
 |x::xs,p::ps,is,h,ha,hm=>by
  obtain⟨i,is',h1,h2,rfl⟩:=jaw hm;simp only[List.all_cons,juq]at ha;exact .cons (jaI h1) (D.loc ha.1) (.inl (D.fn x)) (jfN D (by simpa using h) ha.2 h2)
theorem jqS {X:Cx}{sc:List @7}(D:XT T G U Z m X sc){tg:Expr}{xs:List Str}{one:Bool}{is:List Nat}(ht:jdb tg=some (xs,one))(ha:xs.all (jmT sc)=true)(hm:mapO (jdy X.N) xs=some is):TgOk X tg is one/\(one=false->∃es k pos,tg=.Tuple es k pos):=by
 rcases jjK ht with ⟨x,p,rfl,rfl,rfl⟩ | ⟨es,k,p,rfl,q,rfl⟩
 ·obtain⟨i,is',h1,h2,rfl⟩:=jaw hm;cases h2;simp only[List.all_cons,List.all_nil,Bool.and_true]at ha;exact⟨.one (jaI h1) (D.loc ha) (.inl (D.fn x)),fun z=>by cases z⟩
 ·obtain⟨ps,l1,l2,e⟩:=jjO q;refine⟨?_,fun _=>⟨_,_,_,rfl⟩⟩;rw[e];exact .many (jfN D l2 ha hm)
theorem jcO {e:Expr}(h:je1 e=true){t:Option Expr}{l:Nat}{env:Env}:swapsWith e t l env=pure false:=by
 unfold swapsWith;cases e <;> first | rfl | cases h
theorem tS.congr {X:Cx}{B:Bs}{f g:Rho->R Fl}(h:∀ρ,f ρ=g ρ):tS Z X B f=tS Z X B g:=by rw[show f=g from funext h]
theorem tSx.congr {X:Cx}{B:Bs}{f g:Rho->R Fl}(h:∀ρ,f ρ=g ρ):tSx Z X B f=tSx Z X B g:=by rw[show f=g from funext h]
theorem jjS {X:Cx}{B:Bs}{n:Nat}{q:Bool}{sc:List @7}(ih:∀s S',trS T n q sc X.N s=some S'->PS X s (tS Z X B (evS G U W S'))):∀{ss:List Stmt}{Ss':List S},mapO (trS T n q sc X.N) ss=some Ss'->PSs X ss (tS Z X B (evSs G U W (toSs Ss')))
 |[],Ss',h=>by
  cases h;rw[tS.congr (g:=fun ρ=>.ok (.nx ρ)) fun ρ=>by simp only[toSs,evSs]]
  exact jqK
 |s::ss,Ss',h=>by
  obtain⟨S1,Sr,h1,h2,rfl⟩:=jaw h;have:=jox (ih s S1 h1) (jjS ih h2);rw[tS.congr (g:=fun ρ=>(evS G U W S1 ρ).bind (jnG (evSs G U W (toSs Sr)))) fun ρ=>by simp only[toSs,evSs]]
  exact this
end DJ
namespace DJ
open PySem PySem.Spec PyProof.Rows L2
variable {T:Tab}{G:Calls}{U:Nat->Nat->Bool}{Z:Kn}{m W:Nat}
theorem PS.cg {X:Cx}{B:Bs}{s:Stmt}{f g:Rho->R Fl}(h:PS X s (tS Z X B g))(e:∀ρ,f ρ=g ρ):PS X s (tS Z X B f):=by
 rw[tS.congr e];exact h
theorem PS.cgx {X:Cx}{B:Bs}{s:Stmt}{f g:Rho->R Fl}(h:PS X s (tSx Z X B g))(e:∀ρ,f ρ=g ρ):PS X s (tSx Z X B f):=by
 rw[tSx.congr e];exact h
theorem joA {n:Nat}{X:Cx}{sc:List @7}{B:Bs}{q:Bool}(D:XT { T with quiet:=q } G U Z m X sc){x:Str}{px pos:Pos}{e:Expr}{i:Nat}{E':E}(hl:jmT sc x=true)(hi:jdy X.N x=some i)(he:trE { T with quiet:=q } n sc X.N e=some E') :
  PS X (.Assign [.Name x px] e pos) (tS Z X B (evS G U W (.asg i E'))):=by
 have S:=jdc n _ X sc e E' D.toXD he;have hK:=D.hK;have hN:=jaI hi;have hx:=D.loc hl;rw[tS.congr (g:=fun ρ=>(evE G U E' ρ).bind fun p=>(jgu p.1 p.2).bind fun q=>if i<q.2.length then .ok (.nx (q.2.set i q.1))else .stk) fun ρ=>by simp only[evS]]
 refine PS.x ?_;have plain:swapsWith e (some (.Name x px)) pos.line X.env=pure false->PS X (.Assign [.Name x px] e pos) (tSx Z X B fun ρ=>(evE G U E' ρ).bind fun p=>(jgu p.1 p.2).bind fun q=>if i<q.2.length then .ok (.nx (q.2.set i q.1))else .stk):=fun hs=>jqJ D.nd hN hx (.inl (D.fn x)) (S.pe B) hs;cases hp:je1 e with
 |true=>exact plain (jcO hp)
 |false=>
 cases n with
 |zero=>exact jaf he
 |succ n=>
 cases e with
 |ListComp elt gens scope cpos=>
  obtain⟨hq,tg,iter,ks,N,cn,nt,caps,tgs,one,it,fc,Ee,Ec,rfl,rfl,cd,ev⟩:=je0 D.toXD (jdc n _) (jdc n _) he;have hsw:swapsWith (.ListComp elt [⟨tg,iter,ks,0⟩] scope cpos) (some (.Name x px)) pos.line X.env=pure (X.env.blockKind == .function&&X.env.kindOf x==some .local&&px.line==(Expr.ListComp elt [⟨tg,iter,ks,0⟩] scope cpos).pos.line && !(scope.names.any fun p=>p.1==x&&(p.2 == .local || p.2 == .cell))):=rfl;generalize (X.env.blockKind == .function&&X.env.kindOf x==some .local&&px.line==(Expr.ListComp elt [⟨tg,iter,ks,0⟩] scope cpos).pos.line && !(scope.names.any fun p=>p.1==x&&(p.2 == .local || p.2 == .cell)))=bb at hsw;cases bb with
  |false=>exact plain hsw
  |true=>
   have:=jhD (pos:=cpos) (spos:=pos) (py:=px) hK D.nd hN hx (.inl (D.fn x)) hsw (D.calm hq) cd.C (cd.hi B) cd.hT cd.hlow cd.hE (xx:=!T.deep) (fun z=>D.top (by cases e:T.deep with | false=>rfl | true=>rw[e]at z;cases z)) cd.hK cd.hs
   rw[tSx.congr (f:=fun ρ=>(evE G U (E.comp Ee tgs one nt caps it Ec (!T.deep)) ρ).bind _) (g:=_) fun ρ=>?_]
   ·exact this
   ·rw[ev ρ]
 |SetComp a b c d=>exact jaf he
 |DictComp a b c d f=>exact jaf he
 |_=>cases hp
theorem joB {n:Nat}{X:Cx}{sc:List @7}{B:Bs}{q:Bool}(D:XT { T with quiet:=q } G U Z m X sc){x m':Str}{xp apos cpos pos:Pos}{as:List Expr}{i:Nat}{S':S}(hv:PE X (.Name x xp) (jpd i))(hline:(apos.endLine==cpos.line)=true)(h:jsZ (trE { T with quiet:=q } n sc X.N) i m' as=some S') :
  PS X (.Expr (.Call (.Attribute (.Name x xp) m' apos) as [] cpos) pos) (tS Z X B (evS G U W S')):=by
 have hK:=D.hK;have ih:∀{e E'},trE { T with quiet:=q } n sc X.N e=some E'->Says G U Z X e E':=fun {e E'} h=>jdc n _ X sc e E' D.toXD h
 refine PS.x ?_;replace h:=jap h;rcases h with ⟨hm,h⟩ | h
 ·cases jb8 hm;replace h:=jag h;obtain⟨e,h1,h⟩:=h;cases ja0 h1;replace h:=jal h;obtain⟨E',he,rfl⟩:=h;have S:=ih he;rw[tSx.congr (g:=fun ρ=>match ρ[i]? with
   |some (.own (.l _) _ _)=>(evE G U E' ρ).bind fun p=>(toD p.1 p.2).bind fun q=>match q.2[i]? with
    |some (.own (.l xs) f false)=>if jbc (xs.length+1)then .ok (.nx (q.2.set i (.own (.l (xs++[q.1])) f false)))else .stk
    |_=>.stk
   |_=>.stk) fun ρ=>by simp only[evS] <;> rfl]
  exact jqL hK hv (S.pe B) S.ns hline
 replace h:=jap h;rcases h with ⟨hm,h⟩ | h
 ·cases jb8 hm;replace h:=jag h;obtain⟨e,h1,h⟩:=h;cases ja0 h1;replace h:=jal h;obtain⟨E',he,rfl⟩:=h;have S:=ih he;exact PS.cgx (jqN hK hv (S.pe B) S.ns hline) fun ρ=>by simp only[evS,jsf] <;> rfl
 exact jaf h
theorem joC:∀(n:Nat) (X:Cx) (sc:List @7) (B:Bs) (q:Bool) (s:Stmt) (S':S),XT { T with quiet:=q } G U Z m X sc->trS T n q sc X.N s=some S'->PS X s (tS Z X B (evS G U W S')):=by
 intro n;induction n with
 |zero=>intro X sc B q s S' D h;exact jaf h
 |succ n ih=>
  intro X sc B q s S' D h;have ihX:∀{ss:List Stmt}{Ss':List S},mapO (trS T n q sc X.N) ss=some Ss'->PSs X ss (tS Z X B (evSs G U W (toSs Ss'))):=jjS fun s S' h=>ih X sc B q s S' D h;have sa:∀{e E'},trE { T with quiet:=q } n sc X.N e=some E'->Says G U Z X e E':=fun {e E'} h=>jdc n _ X sc e E' D.toXD h
  have hK:=D.hK;cases s with
  |Return v pos=>
   cases v with
   |some e=>
    replace h:=jal h;obtain⟨E',w,rfl⟩:=h;exact PS.cg (PS.x (jqG ((sa w).pe B))) fun ρ=>by simp only[evS] <;> rfl
   |none=>
    cases h;exact PS.cg (PS.x jot) fun ρ=>by simp only[evS] <;> rfl
  |Pass pos=>
   cases h;exact PS.cg (PS.x jou) fun ρ=>by simp only[evS] <;> rfl
  |Break pos=>
   cases h;exact PS.cg (PS.x jqH) fun ρ=>by simp only[evS] <;> rfl
  |Continue pos=>
   cases h;exact PS.cg (PS.x jqI) fun ρ=>by simp only[evS] <;> rfl
  |Assign ts e pos=>
   replace h:=jag h;obtain⟨t,ht,h⟩:=h;cases ja0 ht;replace h:=jbQ h;rcases h with ⟨x,hx,h⟩ | h
   ·obtain⟨px,rfl⟩:=ja1 hx;replace h:=jam h;obtain⟨hl,h⟩:=h;replace h:=jb1 h;obtain⟨i,E',hi,he,rfl⟩:=h;exact joA D (jb2 hl) hi he
   replace h:=jbQ h;rcases h with ⟨es,hx,h⟩ | h
   ·obtain⟨k,tp,rfl⟩:=jc5 hx;replace h:=jam h;obtain⟨hq,h⟩:=h;replace hq:=jbJ hq;obtain⟨hq,hnt⟩:=hq;replace hq:=jbJ hq;obtain⟨hq,hpl⟩:=hq;replace h:=jag h;obtain⟨xs,hxs,h⟩:=h;replace h:=jam h;obtain⟨hl,h⟩:=h;replace h:=jb1 h;obtain⟨is,E',h1,he,rfl⟩:=h;obtain⟨ps,l1,l2,ee⟩:=jjO hxs;have hT:TgsOk X es is:=by rw[ee];exact jfN D l2 (jb2 hl) h1
    have hw:swappedStores [.Tuple es k tp] e X.env=pure none:=by
     cases e <;> first | rfl | cases hnt
    refine PS.x ?_;exact PS.cgx (jqP hK (D.calm hq) D.nd hT ((sa he).pe B) (jcO (jb2 hpl)) hw) fun ρ=>by simp only[evS] <;> rfl
   replace h:=jbQ h;rcases h with ⟨⟨v,k⟩,hx,h⟩ | h
   ·obtain⟨sp,rfl⟩:=jjR hx;replace h:=jag h;obtain⟨x,hx,h⟩:=h;obtain⟨xp,rfl⟩:=ja1 hx;replace h:=jam h;obtain⟨hc,h⟩:=h;replace hc:=jbJ hc;obtain⟨hc,hsl⟩:=hc;replace hc:=jbJ hc;obtain⟨hc,hpl⟩:=hc;replace hc:=jbJ hc;obtain⟨hb,hk⟩:=hc;replace h:=jcA h;obtain⟨i,Ek,E',hi,hek,he,rfl⟩:=h;have hv:PE X (.Name x xp) (jpd i):=jgh (jaI hi) (D.vis (jfK hk)) (jfq hb).1 (jlx hb);refine PS.x ?_;exact PS.cgx (jqO D.hK D.un hv ((sa hek).pe B) ((sa he).pe B) (jcO (jb2 hpl)) (fun a b c d z=>by subst z;cases hsl) rfl) fun ρ=>by simp only[evS,jsg] <;> rfl
   exact jaf h
  |While c body oe pos=>
   replace h:=jam h;obtain⟨hq,h⟩:=h;replace hq:=jbJ hq;obtain⟨hq,ho⟩:=hq;cases jbR ho;replace h:=jb1 h;obtain⟨Ec,Sb,hc,hb,rfl⟩:=h;exact PS.cg (jqQ (D.own hq) ((sa hc).pt B) (ihX hb)) fun ρ=>by simp only[evS] <;> rfl
  |If c a b pos=>
   replace h:=jcA h;obtain⟨Ec,Sa,Sb,hc,ha,hb,rfl⟩:=h;exact PS.cg (jse ((sa hc).pt B) (ihX ha) (ihX hb)) fun ρ=>by simp only[evS] <;> rfl
  |For tg iter body oe pos=>
   replace h:=jam h;obtain⟨hq,h⟩:=h;replace hq:=jbJ hq;obtain⟨hq,ho⟩:=hq;cases jbR ho;replace h:=jag h;obtain⟨⟨xs,one⟩,ht,h⟩:=h;replace h:=jam h;obtain⟨hl,h⟩:=h;replace h:=jcA h;obtain⟨is,it,Sb,h1,h2,h3,rfl⟩:=h;obtain⟨hT,hone⟩:=jqS D ht (jb2 hl) h1;have hi:=jgQ (tg:=tg) D.toXD (fun e E' z=>sa z) hone h2 B;exact PS.cg (jqM hK (D.own hq) (D.calm hq) D.nd hi hT (ihX h3) (jeY (jdN h2))) fun ρ=>by simp only[evS] <;> rfl
  |Expr e pos=>
   replace h:joz (trE { T with quiet:=q } n sc X.N) sc X.N e=some S':=h
   unfold joz at h;cases ha:joy e with
   |some p=>
    rw[ha]at h;obtain⟨x,m',as⟩:=p;obtain⟨xp,apos,cpos,rfl,hline⟩:=jjQ ha;replace h:=jam h;obtain⟨hc,h⟩:=h;replace hc:=jbJ hc;obtain⟨hb,hk⟩:=hc;replace h:=jag h;obtain⟨i,hi,h⟩:=h;exact joB D (jgh (jaI hi) (D.vis (jfK hk)) (jfq hb).1 (jlx hb)) hline h
   |none=>
    rw[ha]at h;replace h:=jam h;obtain⟨hp,h⟩:=h;replace h:=jal h;obtain⟨E',w,rfl⟩:=h;refine PS.x ?_;exact PS.cgx (jov ((sa w).pe B) (jcO (jb2 hp))) fun ρ=>by simp only[evS] <;> rfl
  |_=>exact jaf h
end DJ
namespace DJ
open PySem PySem.Spec PyProof.Rows L2
structure DefS where
 name:Str
 N:List Str
 ps:List Str
 st:Stmt
theorem jsi {α:Type}{P:α->Prop}:∀x∈([]:List α),P x:=fun _ h=>nomatch h
theorem jdA {α:Type}{P:α->Prop}{a:α}{l:List α}(h:P a)(t:∀x∈l,P x):∀x∈a::l,P x:=List.forall_mem_cons.mpr ⟨h,t⟩
noncomputable def From {α:Type}(Q:Nat->α->Prop)(k:Nat)(l:List α):Prop:=∀(i:Nat) (d:α),l[i]?=some d->Q (k+i) d
theorem joD {α:Type}{Q:Nat->α->Prop}{k:Nat}:From Q k []:=fun _ _ h=>by cases h
theorem jbx {α:Type}{Q:Nat->α->Prop}{k:Nat}{a:α}{l:List α}(h:Q k a)(t:From Q (k+1) l):From Q k (a::l):=fun i d e=>by
 cases i with
 |zero=>cases e;exact h
 |succ i=>
  have:=t i d e;rwa [Nat.add_assoc,Nat.add_comm 1 i]at this
theorem From.at {α:Type}{Q:Nat->α->Prop}{l:List α}(h:From Q 0 l):∀(i:Nat) (d:α),l[i]?=some d->Q i d:=fun i d e=>by
 have:=h i d e;rwa [Nat.zero_add]at this
theorem jtv {α:Type}{P:List α->Prop}(h:P []):∀us:List α,us.length=0->P us
 |[],_=>h
theorem jrp {α:Type}{P:List α->Prop}{n:Nat}(h:∀a (r:List α),r.length=n->P (a::r)):∀us:List α,us.length=n+1->P us
 |a::r,e=>h a r (Nat.succ.inj e)
theorem joE {α:Type}{P:List α->Prop}(h:∀a,P [a]):∀us:List α,us.length=1->P us:=jrp fun a=>jtv (P:=fun r=>P (a::r)) (h a)
theorem jkE {α:Type}{P:List α->Prop}(h:∀a b,P [a,b]):∀us:List α,us.length=2->P us:=jrp fun a=>joE (P:=fun r=>P (a::r)) (h a)
theorem jrq {α:Type}{P:List α->Prop}(h:∀a b c,P [a,b,c]):∀us:List α,us.length=3->P us:=jrp fun a=>jkE (P:=fun r=>P (a::r)) (h a)
theorem jtw {α:Type}{P:List α->Prop}(h:∀a b c d,P [a,b,c,d]):∀us:List α,us.length=4->P us:=jrp fun a=>jrq (P:=fun r=>P (a::r)) (h a)
noncomputable def BindP (d:DefS):Prop:=∀(kV doc pm:Value) (an:Option Addr) (cdv ct:Value) (us:List Value),us.length=d.ps.length->bindArgs (PySem.W.fnOf d.name d.name (defArgs d.st) (defBody d.st) (defScope d.st) .none kV doc pm an cdv ct) ⟨us,[]⟩=pure (d.ps.zip us)
structure Prog (K:Frag)(mg:Str->Option Value)(Z:Kn)(U:Nat->Nat->Bool)(T:Tab)(DS:List DefS)(P:List Def)(fuel:Nat):Prop where
 hK:K=Z.K
 loud:T.quiet=false
 tab:T.defs=DS.map (·.name)
 blt:∀x∈bltNames,mg x=none
 cons:∀x d,T.cons.lookup x=some d->∃u v,mg x=some u/\RelV v u/\∀F H,Rep Z F H d v
 excs:∀(i:Nat) (nm:Str),T.excs[i]?=some nm->∃C,Z.cl[i]?=some C/\mg nm=some (.ref C)
 ecs:Ecs U Z
 rcl:∀C∈Z.cl,Rcl Z.K C
 fns:∀(i:Nat) (d:DefS),DS[i]?=some d->∃f fd,mg d.name=some (.ref f)/\Fun K d.name d.name d.st f fd/\BindP d/\FnScope d.N d.ps (defScope d.st) /\
  ∃ss,mapO (trS T fuel false (defScope d.st).names d.N) (defBody d.st)=some ss/\P[i]?=some ⟨d.ps.length,d.N.length,toSs ss⟩
section
variable {Z:Kn}{B:Bs}{F F':Addr->Prop}{H H':Hp}{N:List Str}{vs:List V}{sls:List Sl}{n:Nat}{σ':L2.St}{ρ':Rho}
theorem jcu {i:Nat}{s:Sl}(hs:s≠.no)(h:(sls++List.replicate n Sl.no)[i]?=some s):sls[i]?=some s:=by
 by_cases hi:i<sls.length
 ·rwa [jtY hi]at h
 ·rw[jtU @0,List.getElem?_replicate]at h
  split at h
  ·cases h;exact absurd rfl hs
  ·cases h
theorem jjT {i:Nat}{v:V}(h:vs[i]?=some v):(start N vs)[i]?=some (some v):=by
 unfold L2.start;rw[jtY (by rw[jtQ];exact(List.getElem?_eq_some_iff.mp h).1),jtN,h]
 rfl
theorem jbU {i:Nat}(hi:i<vs.length):(start N vs)[i]?=(vs.map some)[i]?:=by
 rw[jjT (jtH hi),jtN,jtH hi];rfl
theorem jlZ (hN:vs.length<=N.length)(r:SR Z B F H (vs.map some) sls):SR Z B F H (start N vs) (sls++List.replicate (N.length - sls.length) .no):=by
 have hl:sls.length=vs.length:=by have:=r.len;simpa using this
 have lt:∀{i:Nat}{s:Sl},sls[i]?=some s->i<vs.length:=fun h=>by rw[<-hl];exact(List.getElem?_eq_some_iff.mp h).1
 refine⟨r.dom,?_,fun i d h=>?_,fun i o f k h=>?_,fun i j o o' f k f' k' l ne h h'=>?_,r.base⟩
 ·unfold L2.start;simp[hl]
 ·have h:=jcu (by intro z;cases z) h
  rw[jbU (lt h)];exact r.dat i d h
 ·have h:=jcu (by intro z;cases z) h
  rw[jbU (lt h)];exact r.own i o f k h
 ·have h:=jcu (by intro z;cases z) h
  have h':=jcu (by intro z;cases z) h'
  rw[jbU (lt h),jbU (lt h')];exact r.one i j _ _ _ _ _ _ l ne h h'
theorem jef (hl:sls.length=vs.length){b:Addr}(h:Mb (start N vs) (sls++List.replicate n .no) b):Mb (vs.map some) sls b:=by
 obtain⟨i,o,f,h1,h2⟩:=h;have h1:=jcu (by intro z;cases z) h1
 rw[jbU (by rw[<-hl];exact(List.getElem?_eq_some_iff.mp h1).1)]at h2
 exact⟨i,o,f,h1,h2⟩
theorem jl0 {k:Nat}{ρ:Rho}{j:Nat}{o:O}{f g:Bool}(h:(finL k ρ)[j]?=some (.own o f g)):f=true/\ρ[j]?=some (.own o true g)/\j<k:=by
 unfold finL at h;rw[jtN]at h;have hj:j<k:=by
  refine Nat.lt_of_not_le fun z=>?_;rw[jtX (by simpa using z)]at h
  cases h
 rw[jtH (by simpa using hj),List.getElem_range]at h
 simp only[Option.map_some]at h;split at h
 ·rename_i s e;rw[e];cases s with
  |no=>cases h
  |dat d=>cases h
  |own o1 f1 g1=>
   cases f1 with
   |true=>cases h;exact⟨rfl,rfl,hj⟩
   |false=>cases h
 ·cases h
theorem jl1 {k:Nat}{ρ:Rho}{j:Nat}{d:D}:(finL k ρ)[j]?≠some (.dat d):=by
 intro h;unfold finL at h;rw[jtN]at h;cases e:(List.range k)[j]? with
 |none=>rw[e]at h;cases h
 |some i=>
  rw[e]at h;simp only[Option.map_some]at h;split at h
  ·rename_i s _;cases s with
   |no=>cases h
   |dat d=>cases h
   |own o1 f1 g1=>cases f1 <;> cases h
  ·cases h
theorem jmU (hl:sls.length=vs.length)(hB:∀(k:Nat) (l:Addr),B.lent k=some l->(vs.map some)[k]?=some (some (.ref l)))(g:Go (start N vs) (sls++List.replicate n .no) F H σ' ρ' F' H')(r:SR Z B F' H' σ' ρ') :
  Go (vs.map some) sls F H (vs.map some) (finL vs.length ρ') F' H'/\SR Z B F' H' (vs.map some) (finL vs.length ρ')/\∀w u H0,(∀i,w≠.slot i)->RV Z F' H0 H' σ' ρ' w u->RV Z F' H0 H' (vs.map some) (finL vs.length ρ') w u:=by
 have own:∀{j:Nat}{o:O}{f k:Bool},(finL vs.length ρ')[j]?=some (.own o f k)->f=true/\ρ'[j]?=some (.own o true k)/\j<vs.length/\∃l,σ'[j]?=some (some (.ref l))/\(vs.map some)[j]?=some (some (.ref l))/\OwR Z B F' H' j o true l:=fun {j o f k} h=>by
  obtain⟨rfl,e,hj⟩:=jl0 h;obtain⟨l,e1,e2⟩:=r.own j o _ _ e;exact⟨rfl,e,hj,l,e1,hB j l (e2.2.2.1 rfl),e2⟩
 refine⟨⟨fun b o e nm=>g.stay b o e fun z=>nm (jef hl z),g.sub,fun a ha=>?_,fun j o f k b h1 h2=>?_,g.there⟩,⟨r.dom,by simp[finL],fun i d h=>absurd h jl1,fun i o f k h=>?_,fun i j o o' f k f' k' l ne h h' q q'=>?_,r.base⟩,fun w u H0 hw rv=>?_⟩
 ·rcases g.new a ha with q | q | q
  ·exact .inl q
  ·exact .inr (.inl q)
  ·exact .inr (.inr (jef hl q))
 ·obtain⟨rfl,e,hj,l,e1,e2,_⟩:=own h1;rw[h2]at e2;cases e2;rcases g.ow j o true k b e e1 with ⟨o0,k0,a1,a2,a3⟩ | q
  ·have a1:=jcu (by intro z;cases z) a1
   rw[jbU hj]at a2;exact .inl ⟨o0,k0,a1,a2,a3⟩
  ·exact .inr q
 ·obtain⟨rfl,e,hj,l,e1,e2,e3⟩:=own h;exact⟨l,e2,e3⟩
 ·obtain⟨rfl,e,hj,l1,e1,e2,_⟩:=own h;obtain⟨rfl,e',hj',l1',e1',e2',_⟩:=own h';rw[q]at e2;cases e2;rw[q']at e2';cases e2';exact r.one i j _ _ _ _ _ _ l ne e e' e1 e1'
 ·cases w with
  |dat d=>exact rv
  |tmp o=>
   obtain⟨l,e,h1,h2,h3,h4⟩:=rv;refine⟨l,e,h1,fun z=>h2 ?_,h3,h4⟩;obtain⟨j,o',f',k',z1,z2⟩:=z;obtain⟨rfl,e,hj,l1,e1,e2,_⟩:=own z1;rw[z2]at e2;cases e2;exact⟨j,o',_,k',e,e1⟩
  |slot i=>exact absurd rfl (hw i)
end
theorem Stl.start {N:List Str}{vs:List V}{sls:List Sl}{n:Nat}{H H':Hp}(hl:sls.length=vs.length)(s:Stl (start N vs) (sls++List.replicate n .no) H H'):Stl (vs.map some) sls H H':=⟨fun b o e nm=>s.stay b o e fun z=>nm (jef hl z),s.there⟩
theorem joF {Pr:Program}{w:World}{K:Frag}{mg:Str->Option Value}{base:Heap}{Z:Kn}{U:Nat->Nat->Bool}{T:Tab}{DS:List DefS}{P:List Def}{fuel W:Nat}(R:Prog K mg Z U T DS P fuel) :
  ∀(n i:Nat) (d:DefS) (f:Addr) (fd:FuncData),DS[i]?=some d->mg d.name=some (.ref f)->Fun K d.name d.name d.st f fd->FnOk Pr w K mg base (CXD Pr w) n f fd d.ps (spD Z (jaa U W P n) i):=by
 intro n;induction n with
 |zero=>
  intro i d f fd hd hm h2;refine⟨fun vs H Q E h=>?_,fun A outer s H args us vs Q E hr e0 hb hv h=>?_⟩
  ·obtain⟨B,F,sls,_,_,_,h⟩:=h;exact False.elim h
  ·obtain⟨B,F,sls,_,_,_,h⟩:=h;exact False.elim h
 |succ n ih=>
  intro i d f fd hd hm h2;obtain⟨f0,fd0,g1,g2,h3,h4,ss,h5,h6⟩:=R.fns i d hd;have hsl:∀{B:Bs}{F:Addr->Prop}{H:Hp}{vs:List V}{sls:List Sl},SR Z B F H (vs.map some) sls->sls.length=vs.length:=fun r=>by have:=r.len;simpa using this
  have hlen:∀vs H Q E,spD Z (jaa U W P (n+1)) i vs H Q E->vs.length=d.ps.length:=fun vs H Q E ⟨B,F,sls,r,_,_,h⟩=>by
   simp only[jaa,h6]at h;split at h
   ·rename_i hl;rw[<-hsl r];exact hl
   ·exact False.elim h
  obtain⟨oc,od,kV,doc,pm,an,cdv,ct,osl,rfl,lk,hcd⟩:=h2.ex;refine jrM lk hcd h4 hlen fun A outer s H vs Q E hr hsp=>?_;obtain⟨B,F,sls,r,hB1,hB2,h⟩:=hsp;have hls:=hsl r;simp only[jaa,h6]at h;split at h
  ·rename_i hl;have hpl:d.ps.length<=d.N.length:=by have:=congrArg List.length h4.pre;rw[List.length_take]at this;omega
   have hT:{ T with quiet:=false }=T:=by
    obtain⟨a,b,c,e,q,dp⟩:=T;have:q=false:=R.loud;subst this;rfl
   have D:XT { T with quiet:=false } (jaa U W P n) U Z n (jhf (CXD Pr w) Pr w K mg base d.N d.name (defScope d.st) f cdv A outer s H E) (defScope d.st).names:=by
    refine { hK:=R.hK,calm:=fun _=>rfl,nd:=h4.nd,room:=fun _=>hr,un:=hr.units,sc:=fun x=>.inl rfl,blt:=R.blt,defs:=fun j nm hj=>?_,cons:=R.cons,excs:=R.excs,ecl:=?_,sub:=?_,top:=fun _=>⟨fun _=>rfl,rfl,rfl⟩,fn:=fun _=>rfl,own:=fun _=>PassesOwn.leaving,hex:=rfl,hst:=rfl,hfr:=rfl,rcl:=R.rcl }
    ·have hj:T.defs[j]?=some nm:=hj;rw[R.tab,jtN]at hj;cases q:DS[j]? with
     |none=>rw[q]at hj;cases hj
     |some d'=>
      rw[q]at hj;cases hj;obtain⟨f',fd',a1,a2,a3,_⟩:=R.fns j d' q;exact⟨f',fd',d'.ps,a1,a2.kp,a2.binds a3,ih j d' f' fd' q a1 a2⟩
    ·show ∀C∈Z.cl,ECls K C;rw[R.hK];exact R.ecs.ecl
    ·show ∀(i j:Nat) (C D:Addr),Z.cl[i]?=some C->Z.cl[j]?=some D->PySem.W.mroIn K C (.ref D)=some (U i j);rw[R.hK];exact R.ecs.sub
   refine⟨_,jjS (B:=B) (W:=W) (fun s' S' hs=>joC fuel _ _ B false s' S' D hs) h5,?_⟩;have hN:d.N.length - d.ps.length=d.N.length - sls.length:=by rw[hl]
   have sr:=jlZ (N:=d.N) (by rw[<-hls,hl];exact hpl) r
   rw[<-hN]at sr;refine⟨F,_,sr,h.bind.imp (fun c wc=>?_) fun fl z=>?_⟩
   ·intro σ1 ρ1 F1 H1 g1;refine⟨fun pins H' s' ea C hC I stl fly=>jqF I fly (wc C H' hC (Stl.start hls (Stl.go g1 stl))),fun pins H' s' h' ea C us hC I stl mk=>jos I mk (wc C H' hC (Stl.start hls (Stl.go g1 stl)))⟩
   ·have hk:d.ps.length=vs.length:=by rw[<-hl,hls]
    cases fl with
    |nx ρ'=>
     intro σ' F' H' g r';obtain⟨a,b,c⟩:=jmU hls hB2 g r';rw[<-hk]at a b;exact z .non F' H' (fun _ z=>by cases z) a b (by show Rep _ _ _ _ _;simp only[Rep])
    |rt v ρ'=>
     intro u σ' F' H' ns g r' rv;obtain⟨a,b,c⟩:=jmU hls hB2 g r';have rv':=c v u B.hp ns rv;rw[hB1]at rv';rw[<-hk]at a b rv';exact z u F' H' ns a b rv'
    |bk ρ'=>exact False.elim z
    |ct ρ'=>exact False.elim z
  ·exact False.elim h
theorem jqT {Z:Kn}{H:Hp}{a:Addr}{ns:List Int}{G:Calls}{i:Nat}{fin:List Sl}(h:G i [.dat (.lst (ns.map .int))]=.ok (.dat (.bl true),fin))(hS:SqL Z.K H a (ns.map V.int)) :
  spD Z G i [.ref a] H (fun v _=>v=.bl true) fun _ _ _=>False:=by
 have rs:∀(F:Addr->Prop) (ms:List Int),Reps Z F H (ms.map D.int) (ms.map V.int):=fun F ms=>by
  induction ms with
  |nil=>exact .nil
  |cons m ms ih=>exact .cons (by simp only[Rep]) ih
 have rl:∃F:Addr->Prop,Dom F H/\FL Z.K F H a (ns.map V.int):=by
  rcases hS with h | h
  ·refine⟨fun b=>b=a,fun b e=>?_,.inl ⟨rfl,h⟩⟩;have e:b=a:=e;subst e;rcases h with h | ⟨o,h⟩
   ·exact⟨_,h⟩
   ·exact⟨_,h⟩
  ·exact⟨fun _=>False,fun b e=>e.elim,.inr h⟩
 obtain⟨F,dm,fl⟩:=rl;refine⟨⟨H,fun _=>none⟩,F,[.dat (.lst (ns.map .int))],⟨dm,rfl,fun j d e=>?_,fun j o f k e=>?_,fun j j' o o' f k f' k' l _ e=>?_,fun _ z=>z⟩,rfl,(fun _ _ z=>nomatch z),?_⟩
 ·cases j with
  |zero=>simp at e;subst e;exact⟨_,rfl,by simp only[Rep];exact⟨a,_,rfl,fl,rs F ns⟩⟩
  |succ j=>simp at e
 ·cases j with
  |zero=>simp at e
  |succ j=>simp at e
 ·cases j with
  |zero=>simp at e
  |succ j=>simp at e
 ·rw[h];intro v F' H' _ _ _ rp;have rp:Rep Z F' H' (.bl true) v:=rp;simpa only[Rep] using rp
theorem jjU {l:PySem.W.OpenLaw}{q:Program}{loose:List Str}{XP:(Str->Option Value)->Heap->Prop}{YP:World->Heap->Prop}{d:DefRec}{K:Params->Frag}{cl:List Addr}{U:Nat->Nat->Bool}{T:Tab}{DS:List DefS}{P:List Def}{fuel W n i:Nat}{x:Str}{dl:DefS}
  (hn:l.most=some 63) (hdf:d.params.defaults=[]) (hr:Room n callerA) (hY:∀(w:World) (h:Heap),YP w h->(K w.params).In h) (hi:DS[i]?=some dl) (hnm:dl.name=d.name) (hps:dl.ps=[x])
  (hP:∀(w:World) (mg:Str->Option Value) (h:Heap),(K w.params).In h->h.Ns mainGlobals mg->Prog (K w.params) mg ⟨K w.params,cl⟩ U T DS P fuel)
  (hlaw:∀ns:List Int,ns.length<=63->∃fin,jaa U W P n i [.dat (.lst (ns.map .int))]=.ok (.dat (.bl true),fin)) :
  PySem.W.WalkO q loose XP YP l.row.toRowW d [] (fun f vs=>PySem.call f vs):=by
 refine L2.jnp (n:=63) (k:=n) (x:=x) (CX:=fun w=>CXD l.prog w) (sp:=fun w=>spD ⟨K w.params,cl⟩ (jaa U W P n) i) hn (by decide) hdf hr hY (fun w mg fa h KX G hmg=>?_) (fun w H a ns hl _ hS=>?_) fun w H s e s' hx=>?_
 ·have R:=hP w mg h KX G;obtain⟨f,fd,h1,h2,h3,h4,_⟩:=R.fns i dl hi;have h1':=h1;rw[hnm,hmg]at h1;cases h1;refine⟨fd,fun s u=>?_,fun base kb nb=>?_⟩
  ·obtain⟨oc,od,kV,doc,pm,an,cdv,ct,osl,rfl,lk,hcd⟩:=h2.ex;refine .of_eq ?_;have:=h3 kV doc pm an cdv ct [u] (by rw[hps];rfl)
   rw[hps]at this;exact this
  ·have R':=hP w mg base kb nb;have:=joF (Pr:=l.prog) (w:=w) (base:=base) (W:=W) R' n i dl fa fd hi h1' h2;rw[hps]at this;exact this
 ·obtain⟨fin,hf⟩:=hlaw ns hl;exact jqT hf hS
 ·obtain⟨ea,cls,a0,H',B,_,_,_,_,_,_,_,_,_,z⟩:=hx;exact z
end DJ
namespace DJ
theorem jjV (g:Rho->R Fl)(ρ:Rho):jnG g (.nx ρ)=g ρ:=rfl
theorem jjW (g:Rho->R Fl)(v:Vl)(ρ:Rho):jnG g (.rt v ρ)=.ok (.rt v ρ):=rfl
theorem joG (g:Rho->R Fl)(ρ:Rho):jnG g (.bk ρ)=.ok (.bk ρ):=rfl
theorem joH (g:Rho->R Fl)(ρ:Rho):jnG g (.ct ρ)=.ok (.ct ρ):=rfl
theorem jai {U:Nat->Nat->Bool}{W:Nat}{P:List Def}{n f:Nat}{xs:List Sl}{d:Def}(h:P[f]?=some d)(hl:xs.length=d.ps) :
  jaa U W P (n+1) f xs=(evSs (jaa U W P n) U W d.body (xs++List.replicate (d.n - d.ps) .no)).bind (jcZ d.ps):=by
 simp only[jaa,h,if_pos hl]
theorem jca:∀{ds:List D}{ρ:Rho},jak [] (ds.map Vl.dat) ρ=.ok (ds.map Sl.dat,ds.map (fun _=>none),ρ)
 |[],ρ=>rfl
 |d::ds,ρ=>by
  simp only[jtO,jak,List.headD_nil,jeJ,toD,R.bind_ok',List.tail_nil,jca]
theorem jbV:∀{ds:List D}{fin:List Sl}{ρ:Rho},jbd (ds.map fun _=>none) fin ρ=ρ
 |[],fin,ρ=>by simp[jbd]
 |d::ds,[],ρ=>by simp[jbd]
 |d::ds,s::fin,ρ=>by simp only[jtO,jbd];exact jbV
section
variable {G:Calls}{U:Nat->Nat->Bool}{ρ:Rho}{k:Nat}{es:Es}{fin:List Sl}
theorem jaF (ds:List D){v:Vl}(he:evAs G U es ρ=.ok (ds.map Vl.dat,ρ))(hG:G k (ds.map Sl.dat)=.ok (v,fin)):evE G U (.call k [] es) ρ=.ok (v,ρ):=by
 simp only[evE,he,R.bind_ok',jca,hG,jbV]
theorem jeg (ds:List D){b:Bool}(he:evAs G U es ρ=.ok (ds.map Vl.dat,ρ))(hG:G k (ds.map Sl.dat)=.ok (.dat (.bl b),fin)):evT G U (.call k [] es) ρ=.ok (b,ρ):=by
 simp only[evT,he,R.bind_ok',jca,hG,jbV,deref,jbF]
end
theorem ja5 {α:Type}{f:D->Rho->R (Option D×Rho)}{h:α->D}{g:α->D}{ρ:Rho}:∀{xs:List α},(∀x∈xs,f (h x) ρ=.ok (some (g x),ρ))->compGo f (xs.map h) ρ=.ok (xs.map g,ρ)
 |[],_=>rfl
 |x::xs,e=>by
  simp only[jtO,compGo,e x jtJ,R.bind_ok',ja5 fun y hy=>e y (jtI _ hy)]
theorem jcP:∀(as bs:List Int),jeI (as.map D.int) (bs.map D.int)=(as.zip bs).map fun p=>.tup [.int p.1,.int p.2]
 |[],_=>by simp[jeI]
 |_::_,[]=>by simp[jeI]
 |a::as,b::bs=>by simp only[jtO,jeI,jcP as bs,List.zip_cons_cons]
theorem jbo:∀(ns:List Int),jaD (ns.map D.int)=some ns
 |[]=>rfl
 |n::ns=>by simp only[jtO,jaD,jbo ns,Option.map_some]
theorem jdd {α:Type}{g:α->Bool}:∀(xs:List α),jau (xs.map fun x=>.bl (g x))=some (xs.map g)
 |[]=>rfl
 |x::xs=>by simp only[jtO,jau,jdd xs,Option.map_some]
theorem je2:∀(ns:List Int),cmpDs (ns.map D.int)=true
 |[]=>rfl
 |n::ns=>by simp only[jtO,cmpDs,jbO,je2 ns,Bool.and_self]
theorem je3:∀(ns:List Int),deeps (ns.map D.int)=0
 |[]=>rfl
 |n::ns=>by simp only[jtO,deeps,deep,je3 ns];rfl
noncomputable def tu (ns:List Int):D:=.tup (ns.map .int)
theorem je4 {f:D->Rho->R Fl}(I:Nat->Rho->Prop):∀{xs:List D}{i:Nat}{ρ:Rho},I i ρ->(∀(j:Nat) x ρ,xs[j]?=some x->I (i+j) ρ->∃ρ',f x ρ=.ok (.nx ρ')/\I (i+j+1) ρ')->∃ρ',ja6 f xs ρ=.ok (.nx ρ')/\I (i+xs.length) ρ'
 |[],i,ρ,h,_=>⟨ρ,rfl,by simpa using h⟩
 |x::xs,i,ρ,h,st=>by
  obtain⟨ρ1,e1,h1⟩:=st 0 x ρ rfl h;obtain⟨ρ2,e2,h2⟩:=je4 I (xs:=xs) (i:=i+1) h1 fun j y ρ hy hI=>by
   have:=st (j+1) y ρ (by simpa using hy) (by rwa [show i+(j+1)=i+1+j by omega])
   rwa [show i+(j+1)+1=i+1+j+1 by omega]at this
  refine⟨ρ2,?_,by rw[jtR];rwa [show i+(xs.length+1)=i+1+xs.length by omega]⟩
  simp only[ja6,e1,R.bind_ok'];exact e2
end DJ
namespace DJ
section
variable {G:Calls}{U:Nat->Nat->Bool}{W:Nat}{ρ ρ':Rho}{s:S}{ss a:Ss}{c e e':E}{i:Nat}{b:Bool}
theorem jae (h:evS G U W s ρ=.ok (.nx ρ')):evSs G U W (.cons s ss) ρ=evSs G U W ss ρ':=by simp only[evSs,h,R.bind_ok',jjV]
theorem jcD {v:Vl}(h:evS G U W s ρ=.ok (.rt v ρ')):evSs G U W (.cons s ss) ρ=.ok (.rt v ρ'):=by simp only[evSs,h,R.bind_ok',jjW]
theorem jjX (h:evT G U c ρ=.ok (false,ρ)):evS G U W (.ife c a .nil) ρ=.ok (.nx ρ):=by simp only[evS,h,R.bind_ok',jur,if_false,evSs]
theorem jci {d:D}(h:evE G U e ρ=.ok (.dat d,ρ'))(hi:i<ρ'.length):evS G U W (.asg i e) ρ=.ok (.nx (ρ'.set i (.dat d))):=by simp only[evS,h,R.bind_ok',jgu,toD,if_pos hi]
theorem jjY {o:O}(h:evE G U e ρ=.ok (.tmp o,ρ'))(hi:i<ρ'.length):evS G U W (.asg i e) ρ=.ok (.nx (ρ'.set i (.own o false false))):=by simp only[evS,h,R.bind_ok',jgu,if_pos hi]
theorem jhE {d:D}(h:evE G U e ρ=.ok (.dat d,ρ')):evS G U W (.ret e) ρ=.ok (.rt (.dat d) ρ'):=by simp only[evS,h,R.bind_ok',jli]
theorem joI (h:evT G U c ρ=.ok (b,ρ')):evT G U (.not c) ρ=.ok (!b,ρ'):=by simp only[evT,h,R.bind_ok']
theorem jtx {c':E}(h:evT G U c ρ=.ok (false,ρ))(h':evT G U c' ρ=.ok (b,ρ')):evT G U (.or c c') ρ=.ok (b,ρ'):=by simp only[evT,h,R.bind_ok',jur,if_false,h']
theorem jeh {xs:List D}(h:evE G U e ρ=.ok (.tmp (.l xs),ρ')):evE G U (.blt .tuple e) ρ=.ok (.dat (.tup xs),ρ'):=by simp only[evE,h,R.bind_ok',deref,O.toD,bfD,jat]
theorem jsj {xs:List D}{ns:List Int}(h:evE G U e ρ=.ok (.tmp (.l xs),ρ'))(hi:jaD xs=some ns):evE G U (.blt .sum e) ρ=.ok (.dat (.int ns.sum),ρ'):=by simp only[evE,h,R.bind_ok',deref,O.toD,bfD,jat,hi]
end
end DJ
namespace DJ
open PySem
section
variable {d:D}{o:O}{i:Nat}{ρ:Rho}{xs:List D}{b:Bool}
theorem jaR:deref (.dat d) ρ=.ok d:=rfl
theorem jde:deref (.tmp o) ρ=.ok o.toD:=rfl
theorem jhF:deref (.slot i) ρ=(match ρ[i]? with | some (.own o _ _)=>.ok o.toD | _=>.stk):=rfl
theorem jdf:toD (.dat d) ρ=.ok (d,ρ):=rfl
theorem joJ:toD (.tmp o) ρ=.ok (o.toD,ρ):=rfl
theorem jl2:toD (.slot i) ρ=(match ρ[i]? with | some (.own o false false)=>.ok (o.toD,ρ.set i (.dat o.toD)) | some (.dat d)=>.ok (d,ρ) | _=>.stk):=rfl
theorem jl3:jgu (.dat d) ρ=.ok (.dat d,ρ):=rfl
theorem jl4:jgu (.tmp o) ρ=.ok (.own o false false,ρ):=rfl
theorem jjZ:jgu (.slot i) ρ=(toD (.slot i) ρ).bind fun p=>.ok (.dat p.1,p.2):=rfl
theorem joK:(O.l xs).toD=.lst xs:=rfl
theorem jl5:jli (.dat d) ρ=.ok (.rt (.dat d) ρ):=rfl
theorem jl6:jli (.tmp o) ρ=.ok (.rt (.tmp o) ρ):=rfl
theorem jj0:jli (.slot i) ρ=(match ρ[i]? with | some (.own o false false)=>.ok (.rt (.tmp o) (ρ.set i .no)) | _=>.stk):=rfl
theorem jgR:jcY (.dat (.bl b))=.ok b:=rfl
theorem jj1:jat (.tup xs)=.ok xs:=rfl
theorem jdg:jat (.lst xs)=.ok xs:=rfl
theorem jhG:jan (.dat (.tup xs)) ρ=.ok (xs,[],ρ):=rfl
theorem jhH:jan (.dat (.lst xs)) ρ=.ok (xs,[],ρ):=rfl
theorem jhI:jan (.tmp (.l xs)) ρ=.ok (xs,[],ρ):=rfl
theorem jfO:jan (.slot i) ρ=(match ρ[i]? with
  |some (.own (.l xs) _ true)=>.ok (xs,[],ρ)
  |some (.own (.l xs) f false)=>.ok (xs,[i],ρ.set i (.own (.l xs) f true))
  |_=>.stk):=rfl
theorem joL {k:Nat}{v:Vl}:jcZ k (.rt v ρ)=.ok (v,finL k ρ):=rfl
theorem joM {k:Nat}:jcZ k (.nx ρ)=.ok (.dat .non,finL k ρ):=rfl
theorem jfP {lo hi:Option Int}:jiZ (.tup xs) lo hi=.ok (.dat (.tup (cut xs lo hi))):=rfl
theorem jcQ {a b:Int}:opD .add (.int a) (.int b)=.ok (.dat (.int (a+b))):=rfl
theorem jl7 {a b:Int}:opD .sub (.int a) (.int b)=.ok (.dat (.int (a - b))):=rfl
theorem jcj {a b:Int}:opD .mul (.int a) (.int b)=if (-(2 ^ 64)<a/\a<2 ^ 64)\/(-(2 ^ 64)<b/\b<2 ^ 64)then .ok (.dat (.int (a * b)))else .stk:=rfl
theorem jck {a b:Int}:opD .fdiv (.int a) (.int b)=if 0<b/\b<2 ^ 64 then .ok (.dat (.int (a / b)))else .stk:=rfl
theorem jaJ {a b:Int}:opD .mod (.int a) (.int b)=if 0<b then .ok (.dat (.int (a%b)))else .stk:=rfl
theorem jl8 {a b:List D}:opD .add (.tup a) (.tup b)=if jbc (a.length+b.length)then .ok (.dat (.tup (a++b)))else .stk:=rfl
theorem jl9 {a b:List D}:opD .add (.lst a) (.lst b)=if jbc (a.length+b.length)then .ok (.tmp (.l (a++b)))else .stk:=rfl
theorem jma {a b:PySem.Str}:opD .add (.str a) (.str b)=if jbc (a.length+b.length)then .ok (.dat (.str (a++b)))else .stk:=rfl
theorem jgS {a:List D}{b:Int}:opD .mul (.tup a) (.int b)=if 0<=b/\b<=16777216/\jbc (a.length * b.toNat)then .ok (.dat (.tup (List.replicate b.toNat a).flatten))else .stk:=rfl
theorem jmb:bfD .len (.lst xs)=.ok (.dat (.int xs.length)):=rfl
theorem jmc:bfD .len (.tup xs)=.ok (.dat (.int xs.length)):=rfl
theorem jhJ:bfD .tuple (.lst xs)=.ok (.dat (.tup xs)):=rfl
theorem jhK:bfD .tuple (.tup xs)=.ok (.dat (.tup xs)):=rfl
theorem jj2:bfD .list (.lst xs)=.ok (.tmp (.l xs)):=rfl
theorem jj3:bfD .list (.tup xs)=.ok (.tmp (.l xs)):=rfl
theorem jj4:bfD .revl (.lst xs)=.ok (.tmp (.l xs.reverse)):=rfl
theorem jj5:bfD .revt (.lst xs)=.ok (.dat (.tup xs.reverse)):=rfl
theorem jmd {a:Int}:bfD .abs (.int a)=.ok (.dat (.int (if a<0 then -a else a))):=rfl
theorem jme {a:Int}:bfD .int (.int a)=.ok (.dat (.int a)):=rfl
theorem jmf:bfD .int (.bl b)=.ok (.dat (.int (if b then 1 else 0))):=rfl
theorem jsk {a c:D}:cmD .eq a c=eqR a c:=rfl
theorem jsl {a c:D}:cmD .ne a c=(eqR a c).bind fun c=>.ok (!c):=rfl
theorem joN {a c:Int}:cmD .lt (.int a) (.int c)=.ok (decide (a<c)):=rfl
theorem jei {a c:Int}:cmD .gt (.int a) (.int c)=.ok (decide (c<a)):=rfl
theorem jj6 {a c:Int}:cmD .le (.int a) (.int c)=.ok (decide (a<=c)):=rfl
theorem joO {a c:Int}:cmD .ge (.int a) (.int c)=.ok (decide (c<=a)):=rfl
theorem jsm {a c:Int}:eqR (.int a) (.int c)=.ok (a==c):=rfl
theorem jsn {a c:PySem.Str}:eqR (.str a) (.str c)=.ok (a==c):=rfl
theorem joP {j:Int}:jht (.tup xs) (.int j)=atI xs j:=rfl
theorem joQ {j:Int}:jht (.lst xs) (.int j)=atI xs j:=rfl
theorem joR {x:PySem.Str}{j:Int}:jht (.str x) (.int j)=atC x j:=rfl
theorem jty {x:D}:atI (x::xs) 0=.ok x:=rfl
theorem jtz {x y:D}:atI (x::y::xs) 1=.ok y:=rfl
theorem jtA {x y z:D}:atI (x::y::z::xs) 2=.ok z:=rfl
theorem js0 {k:Nat}{x:D}(h:xs[k]?=some x):atI xs (k:Int)=.ok x:=by
 unfold atI;rw[if_pos (Int.natCast_nonneg k),Int.toNat_natCast,h]
theorem jso:jbF (.bl b)=.ok b:=rfl
theorem jqU {a:Int}:jbF (.int a)=.ok (a != 0):=rfl
theorem jqV:jbF (.tup xs)=.ok (!xs.isEmpty):=rfl
theorem jqW:jbF (.lst xs)=.ok (!xs.isEmpty):=rfl
theorem jqX:jbF .non=.ok false:=rfl
theorem jsp {a:Int}:jrm (.int a)=.ok (.int (-a)):=rfl
theorem jhL {U:Nat->Nat->Bool}:jaj U .non [.int]=.ok false:=rfl
theorem jfQ {U:Nat->Nat->Bool}:jaj U .non [.bool]=.ok false:=rfl
theorem jhM {U:Nat->Nat->Bool}:jaj U .non [.str]=.ok false:=rfl
theorem je5 {U:Nat->Nat->Bool}:jaj U .non [.tuple]=.ok false:=rfl
theorem jfR {U:Nat->Nat->Bool}:jaj U .non [.list]=.ok false:=rfl
theorem jfS {U:Nat->Nat->Bool}:jaj U .non [.dict]=.ok false:=rfl
theorem jj7 {U:Nat->Nat->Bool}:jaj U (.bl b) [.int]=.ok true:=rfl
theorem jhN {U:Nat->Nat->Bool}:jaj U (.bl b) [.bool]=.ok true:=rfl
theorem jj8 {U:Nat->Nat->Bool}:jaj U (.bl b) [.str]=.ok false:=rfl
theorem jfT {U:Nat->Nat->Bool}:jaj U (.bl b) [.tuple]=.ok false:=rfl
theorem jhO {U:Nat->Nat->Bool}:jaj U (.bl b) [.list]=.ok false:=rfl
theorem jhP {U:Nat->Nat->Bool}:jaj U (.bl b) [.dict]=.ok false:=rfl
theorem jhQ {U:Nat->Nat->Bool}{a:Int}:jaj U (.int a) [.int]=.ok true:=rfl
theorem jfU {U:Nat->Nat->Bool}{a:Int}:jaj U (.int a) [.bool]=.ok false:=rfl
theorem jhR {U:Nat->Nat->Bool}{a:Int}:jaj U (.int a) [.str]=.ok false:=rfl
theorem je6 {U:Nat->Nat->Bool}{a:Int}:jaj U (.int a) [.tuple]=.ok false:=rfl
theorem jfV {U:Nat->Nat->Bool}{a:Int}:jaj U (.int a) [.list]=.ok false:=rfl
theorem jfW {U:Nat->Nat->Bool}{a:Int}:jaj U (.int a) [.dict]=.ok false:=rfl
theorem jhS {U:Nat->Nat->Bool}{x:PySem.Str}:jaj U (.str x) [.int]=.ok false:=rfl
theorem jfX {U:Nat->Nat->Bool}{x:PySem.Str}:jaj U (.str x) [.bool]=.ok false:=rfl
theorem jhT {U:Nat->Nat->Bool}{x:PySem.Str}:jaj U (.str x) [.str]=.ok true:=rfl
theorem je7 {U:Nat->Nat->Bool}{x:PySem.Str}:jaj U (.str x) [.tuple]=.ok false:=rfl
theorem jfY {U:Nat->Nat->Bool}{x:PySem.Str}:jaj U (.str x) [.list]=.ok false:=rfl
theorem jfZ {U:Nat->Nat->Bool}{x:PySem.Str}:jaj U (.str x) [.dict]=.ok false:=rfl
theorem jhU {U:Nat->Nat->Bool}:jaj U (.tup xs) [.int]=.ok false:=rfl
theorem jf0 {U:Nat->Nat->Bool}:jaj U (.tup xs) [.bool]=.ok false:=rfl
theorem jhV {U:Nat->Nat->Bool}:jaj U (.tup xs) [.str]=.ok false:=rfl
theorem je8 {U:Nat->Nat->Bool}:jaj U (.tup xs) [.tuple]=.ok true:=rfl
theorem jf1 {U:Nat->Nat->Bool}:jaj U (.tup xs) [.list]=.ok false:=rfl
theorem jf2 {U:Nat->Nat->Bool}:jaj U (.tup xs) [.dict]=.ok false:=rfl
theorem jhW {U:Nat->Nat->Bool}:jaj U (.lst xs) [.int]=.ok false:=rfl
theorem jf3 {U:Nat->Nat->Bool}:jaj U (.lst xs) [.bool]=.ok false:=rfl
theorem jhX {U:Nat->Nat->Bool}:jaj U (.lst xs) [.str]=.ok false:=rfl
theorem je9 {U:Nat->Nat->Bool}:jaj U (.lst xs) [.tuple]=.ok false:=rfl
theorem jf4 {U:Nat->Nat->Bool}:jaj U (.lst xs) [.list]=.ok true:=rfl
theorem jf5 {U:Nat->Nat->Bool}:jaj U (.lst xs) [.dict]=.ok false:=rfl
theorem jsq:jbc 0=true:=rfl
theorem jsr:jbc 1=true:=rfl
theorem jss:jbc 2=true:=rfl
theorem jst:jbc 3=true:=rfl
theorem jsu:jbc 4=true:=rfl
theorem jsv:jbc 5=true:=rfl
theorem jsw:jbc 6=true:=rfl
theorem jsx:jbc 7=true:=rfl
theorem jsy:jbc 8=true:=rfl
theorem jsz:jbc 9=true:=rfl
theorem jqY:jbc 10=true:=rfl
theorem jj9 {lo hi:Option Int}:jiZ (.lst xs) lo hi=.ok (.tmp (.l (cut xs lo hi))):=rfl
theorem jmg {x:PySem.Str}:bfD .len (.str x)=if jbc x.length then .ok (.dat (.int x.length))else .stk:=rfl
theorem jhY:jaX (.dat (.tup xs)) ρ=.ok (xs,[],ρ):=rfl
theorem jhZ:jaX (.dat (.lst xs)) ρ=.ok (xs,[],ρ):=rfl
theorem jh0:jaX (.tmp (.l xs)) ρ=.ok (xs,[],ρ):=rfl
theorem jf6:jaX (.slot i) ρ=(match ρ[i]? with
  |some (.own (.d ks _) _ true)=>.ok (ks,[],ρ)
  |some (.own (.d ks vs) f false)=>.ok (ks,[i],ρ.set i (.own (.d ks vs) f true))
  |_=>jan (.slot i) ρ):=rfl
end
section
variable {G:Calls}{U:Nat->Nat->Bool}{W:Nat}
theorem jej {α:Type}{xx:Bool}{elt:E}{caps:List Nat}{it:DJ.It}{ρ:Rho}{xs:List α}{h g:α->D}(hi:evI G U it ρ=.ok (xs.map h,[],ρ))(hE:∀x∈xs,evE G U elt (.dat (h x)::jce ρ caps)=.ok (.dat (g x),.dat (h x)::jce ρ caps))
  (hB:∀s,jaB caps 1 (s::jce ρ caps) ρ=ρ):evE G U (.comp elt [0] true 1 caps it .none xx) ρ=.ok (.tmp (.l (xs.map g)),ρ):=by
 simp only[evE,hi,R.bind_ok'];rw[ja5 (g:=g)]
 ·rw[ja2];rfl
 ·intro x hx;have:=hE x hx;simp only[putT,jdt,List.replicate,List.cons_append,List.nil_append,List.set_cons_zero,R.bind_ok',this,toD,hB]
theorem jmV:opD .pow (.int 10) (.int 15)=.ok (.dat (.int (10 ^ 15))):=by
 show (if 0<=(15:Int)/\(15:Int)<=1000000/\(10:Int).natAbs<2 ^ 64 then R.ok (Vl.dat (.int (10 ^ (15:Int).toNat)))else R.stk)=_;rw[if_pos (by decide)]
 rfl
theorem jek {α β:Type}(f:α->β)(xs:List α)(lo hi:Option Int):cut (xs.map f) lo hi=(cut xs lo hi).map f:=by
 unfold cut;rw[jtQ,List.map_take,List.map_drop]
theorem jgT {α:Type}(xs:List α)(k:Nat):cut xs none (some (k:Int))=xs.take k:=by
 show List.take ((if (k:Int)<0 then ((k:Int)+xs.length).toNat else min (k:Int).toNat xs.length) - 0) (List.drop 0 xs)=_;rw[if_neg @0,Int.toNat_natCast,List.drop_zero,Nat.sub_zero,List.take_eq_take_iff]
 omega
theorem jgU (k:Nat)(h:k<=16777216):jeH (.int k)=.ok ((List.range k).map fun (j:Nat)=>D.int j):=by
 show (if -16777216<=(k:Int)/\(k:Int)<=16777216 then R.ok (jnF 0 (k:Int).toNat)else R.stk)=_;rw[if_pos @0]
 simp[jnF]
theorem jby {n:Nat}(h:n<=16777216):jbc n=true:=by simp[jbc];exact h
theorem jqZ {α:Type}{h:α->D}{i:Nat}{ys:List α}{c:α}{f:Bool}{ρ:Rho}(e:ρ[i]?=some (.own (.l ((ys++[c]).map h)) f false)):evE G U (.pop i) ρ=.ok (.dat (h c),ρ.set i (.own (.l (ys.map h)) f false)):=by
 simp only[evE,e,List.map_append,jtO,List.map_nil,List.getLast?_append,List.getLast?_singleton,Option.some_or,List.dropLast_concat]
theorem jka {α:Type}{xs:List α}(h:0<xs.length):∃ys c,xs=ys++[c]:=by
 rcases List.eq_nil_or_concat xs with rfl | ⟨ys,c,e⟩
 ·simp at h
 ·exact⟨ys,c,by simpa using e⟩
theorem joS {xs:List D}(h1:cmpDs xs=true)(h2:deeps xs<=11):eqR (.lst xs) (.lst [])=.ok xs.isEmpty:=by
 unfold eqR;have h3:(jbO (.lst xs)&&jbO (.lst [])&&decide (deep (.lst xs)<=12)&&decide (deep (.lst [])<=12))=true:=by
  have h4:decide (deep (.lst xs)<=12)=true:=decide_eq_true (by simp only[deep];omega)
  rw[h4];simp only[jbO,h1,cmpDs];rfl
 rw[if_pos h3];cases xs <;> rfl
end
end DJ
local macro_rules | `(tactic| simp_arith[$xs,*])=>do
  let l<-("DJ.evSs DJ.evS DJ.evE DJ.evT DJ.evEs DJ.evAs DJ.evO DJ.evI jt0 jt1 List.set_cons_zero List.set_cons_succ jtR jt2 Nat.reduceAdd Nat.reduceLT Nat.lt_add_one Nat.zero_lt_succ DJ.R.bind_ok' DJ.jaR DJ.jde DJ.jhF DJ.jdf DJ.joJ DJ.jl2 DJ.jl3 DJ.jl4 DJ.jjZ DJ.joK DJ.jl5 DJ.jl6 DJ.jj0 DJ.jgR DJ.jj1 DJ.jdg DJ.jhG DJ.jhH DJ.jhI DJ.jfO DJ.joL DJ.joM DJ.jfP DJ.jj9 DJ.jjV DJ.jjW DJ.joG DJ.joH DJ.jcQ DJ.jl7 DJ.jcj DJ.jck DJ.jaJ DJ.jl8 DJ.jl9 DJ.jma DJ.jgS DJ.jmb DJ.jmc DJ.jhJ DJ.jhK DJ.jj2 DJ.jj3 DJ.jj4 DJ.jj5 DJ.jmd DJ.jme DJ.jmf DJ.jsk DJ.jsl DJ.joN DJ.jei DJ.jj6 DJ.joO DJ.jsm DJ.jsn DJ.joP DJ.joQ DJ.joR DJ.jty DJ.jtz DJ.jtA DJ.jso DJ.jqU DJ.jqV DJ.jqW DJ.jqX DJ.jsp DJ.jhL DJ.jsq DJ.jsr DJ.jss DJ.jst DJ.jsu DJ.jsv DJ.jsw DJ.jsx DJ.jsy DJ.jsz DJ.jqY DJ.jfQ DJ.jhM DJ.je5 DJ.jfR DJ.jfS DJ.jj7 DJ.jhN DJ.jj8 DJ.jfT DJ.jhO DJ.jhP DJ.jhQ DJ.jfU DJ.jhR DJ.je6 DJ.jfV DJ.jfW DJ.jhS DJ.jfX DJ.jhT DJ.je7 DJ.jfY DJ.jfZ DJ.jhU DJ.jf0 DJ.jhV DJ.je8 DJ.jf1 DJ.jf2 DJ.jhW DJ.jf3 DJ.jhX DJ.je9 DJ.jf4 DJ.jf5 if_true jur if_false Bool.not_true Bool.not_false Int.reducePow Int.reduceNeg Int.reduceLT Int.reduceLE and_self or_true true_or and_true true_and DJ.jmg DJ.jhY DJ.jhZ DJ.jh0 DJ.jf6".splitOn " ").toArray.mapM fun s=>`(Lean.Parser.Tactic.simpLemma| $(Lean.mkIdent s.toName):term)
  `(tactic| simp only[$l,*,$xs,*])
namespace Law
open PySem L2 DJ
noncomputable def top (i:Nat):Stmt:=PySem.Challenge.pw_tallysets_k32_whole_balances_all.main.body.getD i (.Pass ⟨0,0,0,0⟩)
noncomputable def d_at_most:DefS:=⟨"at_most",["one","other"],["one","other"],top 1⟩
noncomputable def jdh:E:=.comp (.cmp .le (.var 0) (.var 1)) [0,1] false 2 [] (.zip (.var 0) (.var 1)) .none true
noncomputable def jbL:Ss:=
 .cons (.ret (.blt .all (jdh))) (
 .nil)
noncomputable def d_weight:DefS:=⟨"weight",["weights","one"],["weights","one"],top 2⟩
noncomputable def jcv:E:=.comp (.bin .mul (.var 0) (.var 1)) [0,1] false 2 [] (.zip (.var 0) (.var 1)) .none true
noncomputable def jcl:Ss:=
 .cons (.ret (.blt .sum (jcv))) (
 .nil)
noncomputable def d_raised:DefS:=⟨"raised",["row","place"],["row","place"],top 4⟩
noncomputable def jcm:Ss:=
 .cons (.ret (.bin .add (.bin .add (.slc (.var 0) .none (.some (.var 1))) (.tup (.cons (.bin .add (.idx (.var 0) (.var 1)) (.lit (.int 1))) .nil))) (.slc (.var 0) (.some (.bin .add (.var 1) (.lit (.int 1)))) .none))) (
 .nil)
noncomputable def d_without:DefS:=⟨"without",["one","other"],["one","other"],top 5⟩
noncomputable def jdi:E:=.comp (.bin .sub (.var 0) (.var 1)) [0,1] false 2 [] (.zip (.var 0) (.var 1)) .none true
noncomputable def jbM:Ss:=
 .cons (.ret (.blt .tuple (jdi))) (
 .nil)
noncomputable def d_is_above:DefS:=⟨"is_above",["row","leasts","least"],["row","leasts"],top 6⟩
noncomputable def jbf:Ss:=
 .cons (.ife (.call 0 [] (.cons (.var 2) (.cons (.var 0) .nil))) (.cons (.ret (.lit (.bl true))) (
  .nil)) (.nil)) (
 .nil)
noncomputable def jbp:Ss:=
 .cons (.loop [2] true (.seq (.var 1)) jbf) (
 .cons (.ret (.lit (.bl false))) (
 .nil))
noncomputable def d_grown:DefS:=⟨"grown",["level","columns","leasts","further","row","lack","place","column","longer"],["level","columns","leasts"],top 7⟩
noncomputable def jcn:Ss:=
 .cons (.ife (.cmp .gt (.call 1 [] (.cons (.var 5) (.cons (.var 7) .nil))) (.lit (.int 0))) (.cons (.asg 8 (.call 2 [] (.cons (.var 4) (.cons (.var 6) .nil)))) (
  .cons (.ife (.and (.cmp .notin (.var 8) (.var 3)) (.not (.call 4 [] (.cons (.var 8) (.cons (.var 2) .nil))))) (.cons (.sub 3 (.var 8) (.call 3 [] (.cons (.var 5) (.cons (.var 7) .nil)))) (
   .nil)) (.nil)) (
  .nil))) (.nil)) (
 .nil)
noncomputable def jco:Ss:=
 .cons (.asg 5 (.idx (.var 0) (.var 4))) (
 .cons (.loop [6,7] false (.enum (.var 1)) jcn) (
 .nil))
noncomputable def jdj:Ss:=
 .cons (.asg 3 (.emp)) (
 .cons (.loop [4] true (.seq (.var 0)) jco) (
 .cons (.ret (.var 3)) (
 .nil)))
noncomputable def d_least_rows:DefS:=⟨"least_rows",["level","columns","leasts","found"],["level","columns","leasts"],top 8⟩
noncomputable def jbj:E:=.comp (.var 0) [0] true 1 [0] (.seq (.var 0)) (.some (.not (.blt .any (.idx (.var 1) (.var 0))))) true
noncomputable def jaK:Ss:=
 .cons (.ext 3 (jbj)) (
 .cons (.asg 0 (.call 5 [] (.cons (.var 0) (.cons (.var 1) (.cons (.bin .add (.var 2) (.var 3)) .nil))))) (
 .nil))
noncomputable def jaS:Ss:=
 .cons (.asg 3 (.lst (.nil))) (
 .cons (.whl (.cmp .gt (.blt .len (.var 0)) (.lit (.int 0))) jaK) (
 .cons (.ret (.blt .sorted (.var 3))) (
 .nil)))
noncomputable def d_column_loops:DefS:=⟨"column_loops",["columns","noughts","level","place","column"],["columns"],top 9⟩
noncomputable def jbE:E:=.comp (.neg (.var 0)) [0] true 1 [] (.seq (.var 4)) .none true
noncomputable def jaz:Ss:=
 .cons (.sub 2 (.call 2 [] (.cons (.var 1) (.cons (.var 3) .nil))) (.blt .tuple (jbE))) (
 .nil)
noncomputable def jax:Ss:=
 .cons (.asg 1 (.bin .mul (.tup (.cons (.lit (.int 0)) .nil)) (.blt .len (.var 0)))) (
 .cons (.asg 2 (.emp)) (
 .cons (.loop [3,4] false (.enum (.var 0)) jaz) (
 .cons (.ret (.call 6 [] (.cons (.var 2) (.cons (.var 0) (.cons (.lst (.nil)) .nil))))) (
 .nil))))
noncomputable def d_column_leasts:DefS:=⟨"column_leasts",["columns","total","loops"],["columns","total","loops"],top 10⟩
noncomputable def jav:Ss:=
 .cons (.ret (.call 6 [] (.cons (.dis (.bin .mul (.tup (.cons (.lit (.int 0)) .nil)) (.blt .len (.var 0))) (.var 1)) (.cons (.var 0) (.cons (.var 2) .nil))))) (
 .nil)
noncomputable def d_columns_of:DefS:=⟨"columns_of",["values"],["values"],top 11⟩
noncomputable def jb3:E:=.comp (.tup (.cons (.var 0) .nil)) [0] true 1 [] (.seq (.var 0)) .none true
noncomputable def jaT:Ss:=
 .cons (.ret (jb3)) (
 .nil)
noncomputable def d_loops_of:DefS:=⟨"loops_of",["values"],["values"],top 12⟩
noncomputable def jbq:Ss:=
 .cons (.ret (.blt .tuple (.call 7 [] (.cons (.call 9 [] (.cons (.var 0) .nil)) .nil)))) (
 .nil)
noncomputable def d_leasts_of:DefS:=⟨"leasts_of",["values","total","columns"],["values","total"],top 13⟩
noncomputable def ja8:Ss:=
 .cons (.asg 2 (.call 9 [] (.cons (.var 0) .nil))) (
 .cons (.ret (.blt .tuple (.call 8 [] (.cons (.var 2) (.cons (.tup (.cons (.var 1) .nil)) (.cons (.call 7 [] (.cons (.var 2) .nil)) .nil)))))) (
 .nil))
noncomputable def d__law_deck:DefS:=⟨"_law_deck",["_law_cells","_law_many","_law_own","_law_row","_law_deck_here","_law_k","_law_at","_law_one"],["_law_cells","_law_many"],top 15⟩
noncomputable def jbz:E:=.comp (.bin .mul (.var 0) (.blt .int (.cmp .ge (.var 0) (.bin .pow (.lit (.int 10)) (.lit (.int 15)))))) [0] true 1 [] (.seq (.var 2)) .none true
noncomputable def ja3:Ss:=
 .cons (.asg 6 (.bin .mod (.var 5) (.blt .len (.var 2)))) (
 .cons @14 (
 .cons (.app 4 (.idx (.lst (.cons (.bin .mod (.bin .mul (.var 7) (.var 7)) (.lit (.int 2147483629))) (.cons (.bin .mod (.idx (.var 3) (.var 6)) (.bin .pow (.lit (.int 10)) (.lit (.int 15)))) .nil))) (.blt .int (.cmp .ne (.idx (.var 3) (.var 6)) (.lit (.int 0)))))) (
 .cons (.sub 3 (.var 6) (.bin .fdiv (.idx (.var 3) (.var 6)) (.bin .pow (.lit (.int 10)) (.lit (.int 15))))) (
 .nil))))
noncomputable def ja9:Ss:=
 .cons (.asg 2 (.bin .add (.blt .list (.var 0)) (.bin .mul (.lst (.cons (.lit (.int 0)) .nil)) (.blt .int (.cmp .eq (.blt .len (.var 0)) (.lit (.int 0))))))) (
 .cons (.asg 3 (jbz)) (
 .cons (.asg 4 (.lst (.nil))) (
 .cons (.loop [5] true (.rng1 (.var 1)) ja3) (
 .cons (.ret (.blt .revl (.var 4))) (
 .nil)))))
noncomputable def d__law_values:DefS:=⟨"_law_values",["_law_deck_here","_law_cell","_law_many","_law_most","_law_found","_law_k"],["_law_deck_here"],top 16⟩
noncomputable def jba:Ss:=
 .cons (.app 4 (.bin .sub (.bin .mod (.pop 0) (.bin .add (.bin .mul (.lit (.int 2)) (.var 3)) (.lit (.int 1)))) (.var 3))) (
 .nil)
noncomputable def jaG:Ss:=
 .cons (.asg 1 (.pop 0)) (
 .cons (.asg 2 (.bin .add (.lit (.int 1)) (.bin .mod (.var 1) (.lit (.int 5))))) (
 .cons (.asg 3 (.idx (.lst (.cons (.lit (.int 8)) (.cons (.lit (.int 8)) (.cons (.lit (.int 8)) (.cons (.lit (.int 4)) (.cons (.lit (.int 3)) .nil)))))) (.bin .sub (.var 2) (.lit (.int 1))))) (
 .cons (.asg 4 (.lst (.nil))) (
 .cons (.loop [5] true (.rng1 (.var 2)) jba) (
 .cons (.ife (.cmp .eq (.bin .mod (.bin .fdiv (.var 1) (.lit (.int 5))) (.lit (.int 5))) (.lit (.int 1))) (.cons (.sub 4 (.bin .mod (.bin .fdiv (.var 1) (.lit (.int 25))) (.var 2)) (.lit (.int 0))) (
  .nil)) (.nil)) (
 .cons (.ife (.cmp .eq (.bin .mod (.bin .fdiv (.var 1) (.lit (.int 5))) (.lit (.int 5))) (.lit (.int 2))) (.cons (.sub 4 (.bin .mod (.bin .fdiv (.var 1) (.lit (.int 25))) (.var 2)) (.idx (.var 4) (.lit (.int 0)))) (
  .nil)) (.nil)) (
 .cons (.ret (.blt .tuple (.var 4))) (
 .nil))))))))
noncomputable def d__law_bound:DefS:=⟨"_law_bound",["_law_values_here"],["_law_values_here"],top 17⟩
noncomputable def jaU:Ss:=
 .cons (.ret (.idx (.lst (.cons (.lit (.int 30)) (.cons (.lit (.int 30)) (.cons (.lit (.int 12)) (.cons (.lit (.int 6)) (.cons (.lit (.int 4)) .nil)))))) (.bin .sub (.blt .len (.var 0)) (.lit (.int 1))))) (
 .nil)
noncomputable def d__law_drawn_row:DefS:=⟨"_law_drawn_row",["_law_values_here","_law_cells","_law_bound_here","_law_row","_law_total","_law_cell","_law_at"],["_law_values_here","_law_cells"],top 18⟩
noncomputable def jbg:E:=.comp (.lit (.int 0)) [0] true 1 [] (.seq (.var 0)) .none true
noncomputable def jar:Ss:=
 .cons (.asg 6 (.bin .mod (.var 5) (.blt .len (.var 0)))) (
 .cons (.ife (.cmp .le (.blt .abs (.bin .add (.var 4) (.idx (.var 0) (.var 6)))) (.var 2)) (.cons (.sub 3 (.var 6) (.bin .add (.idx (.var 3) (.var 6)) (.lit (.int 1)))) (
  .cons (.asg 4 (.bin .add (.var 4) (.idx (.var 0) (.var 6)))) (
  .nil))) (.nil)) (
 .nil))
noncomputable def jaq:Ss:=
 .cons (.asg 2 (.call 14 [] (.cons (.var 0) .nil))) (
 .cons (.asg 3 (jbg)) (
 .cons (.asg 4 (.lit (.int 0))) (
 .cons (.loop [5] true (.seq (.var 1)) jar) (
 .cons (.ret (.lst (.cons (.var 3) (.cons (.var 4) .nil)))) (
 .nil)))))
noncomputable def d__law_taken:DefS:=⟨"_law_taken",["_law_row","_law_some","_law_one","_law_left"],["_law_row","_law_some"],top 19⟩
noncomputable def jaL:E:=.comp (.bin .sub (.var 0) (.var 1)) [0,1] false 2 [] (.zip (.var 0) (.var 2)) .none true
noncomputable def jaM:Ss:=
 .cons (.asg 3 (jaL)) (
 .cons (.ife (.and (.cmp .eq (.blt .len (.var 2)) (.blt .len (.var 0))) (.and (.cmp .ge (.blt .min (.var 3)) (.lit (.int 0))) (.cmp .ge (.blt .min (.var 2)) (.lit (.int 0))))) (.cons (.ret (.lst (.cons (.var 3) (.cons (.blt .sum (.var 2)) .nil)))) (
  .nil)) (.nil)) (
 .nil))
noncomputable def jaV:Ss:=
 .cons (.loop [2] true (.seq (.var 1)) jaM) (
 .cons (.ret (.lst (.cons (.lst (.nil)) (.cons (.lit (.int 0)) .nil)))) (
 .nil))
noncomputable def d__law_all:DefS:=⟨"_law_all",["_law_values_here","_law_row","_law_total","_law_loops","_law_left","_law_many"],["_law_values_here","_law_row","_law_total","_law_loops"],top 20⟩
noncomputable def jbh:Ss:=
 .cons (.unp [4,5] (.call 16 [] (.cons (.var 4) (.cons (.var 3) .nil)))) (
 .cons (.ife (.or (.cmp .eq (.var 4) (.lst (.nil))) (.cmp .lt (.var 5) (.lit (.int 1)))) (.cons (.ret (.lit (.bl false))) (
  .nil)) (.nil)) (
 .nil))
noncomputable def jbr:Ss:=
 .cons (.unp [4,5] (.call 16 [] (.cons (.var 1) (.cons (.call 11 [] (.cons (.var 0) (.cons (.var 2) .nil))) .nil)))) (
 .cons (.ife (.cmp .eq (.var 4) (.lst (.nil))) (.cons (.ret (.lit (.bl false))) (
  .nil)) (.nil)) (
 .cons (.whl (.cmp .gt (.blt .max (.var 4)) (.lit (.int 0))) jbh) (
 .cons (.ret (.lit (.bl true))) (
 .nil))))
noncomputable def d_law:DefS:=⟨"law",["_law_script","_law_deck_here","_law_values_here","_law_cells","_law_loops","_law_many","_law_row","_law_total"],["_law_script"],top 21⟩
noncomputable def jf7:Ss:=
 .cons (.unp [6,7] (.call 15 [] (.cons (.var 2) (.cons (.slc (.var 3) .none (.some (.var 5))) .nil)))) (
 .cons (.ife (.not (.call 17 [] (.cons (.var 2) (.cons (.var 6) (.cons (.var 7) (.cons (.var 4) .nil)))))) (.cons (.ret (.lit (.bl false))) (
  .nil)) (.nil)) (
 .nil))
noncomputable def jkb:Ss:=
 .cons (.asg 1 (.call 12 [] (.cons (.slc (.var 0) .none (.some (.lit (.int 63)))) (.cons (.lit (.int 63)) .nil)))) (
 .cons (.asg 2 (.call 13 [true] (.cons (.var 1) .nil))) (
 .cons (.asg 3 (.blt .revl (.var 1))) (
 .cons (.asg 4 (.call 10 [] (.cons (.var 2) .nil))) (
 .cons (.loop [5] true (.seq (.lst (.cons (.bin .mod (.idx (.var 1) (.lit (.int 0))) (.lit (.int 50))) (.cons (.blt .len (.var 3)) (.cons (.bin .mod (.idx (.var 1) (.lit (.int 1))) (.lit (.int 9))) .nil))))) jf7) (
 .cons (.ret (.lit (.bl true))) (
 .nil))))))
noncomputable def T:Tab:=⟨"at_most"::"weight"::"raised"::"without"::"is_above"::"grown"::"least_rows"::"column_loops"::"column_leasts"::"columns_of"::"loops_of"::"leasts_of"::"_law_deck"::"_law_values"::"_law_bound"::"_law_drawn_row"::"_law_taken"::"_law_all"::"law"::[],[]::[]::[]::[]::[]::[]::[]::[]::[]::[]::[]::[]::[]::[true]::[]::[]::[]::[]::[]::[],[],[],false,false⟩
noncomputable def U (i j:Nat):Bool:=(([]:List (List Bool)).getD i []).getD j false
noncomputable def DS:List DefS:=[d_at_most,d_weight,d_raised,d_without,d_is_above,d_grown,d_least_rows,d_column_loops,d_column_leasts,d_columns_of,d_loops_of,d_leasts_of,d__law_deck,d__law_values,d__law_bound,d__law_drawn_row,d__law_taken,d__law_all,d_law]
noncomputable def P:List Def:=⟨2,2,jbL⟩::⟨2,2,jcl⟩::⟨2,2,jcm⟩::⟨2,2,jbM⟩::⟨2,3,jbp⟩::⟨3,9,jdj⟩::⟨3,4,jaS⟩::⟨1,5,jax⟩::⟨3,3,jav⟩::⟨1,1,jaT⟩::⟨1,1,jbq⟩::⟨2,3,ja8⟩::⟨2,8,ja9⟩::⟨1,6,jaG⟩::⟨1,1,jaU⟩::⟨2,7,jaq⟩::⟨2,4,jaV⟩::⟨4,6,jbr⟩::⟨1,8,jkb⟩::[]
theorem jkc:FnScope d_at_most.N d_at_most.ps (defScope d_at_most.st):=@1
theorem jkd:(mapO (trS T 60 false (defScope d_at_most.st).names d_at_most.N) (defBody d_at_most.st)).map toSs=some jbL:=by kernel_rfl
theorem jke:BindP d_at_most:=fun _ _ _ _ _ _=>jkE fun _ _=>rfl
theorem jmh:FnScope d_weight.N d_weight.ps (defScope d_weight.st):=@1
theorem jmi:(mapO (trS T 60 false (defScope d_weight.st).names d_weight.N) (defBody d_weight.st)).map toSs=some jcl:=by kernel_rfl
theorem jmj:BindP d_weight:=fun _ _ _ _ _ _=>jkE fun _ _=>rfl
theorem jmk:FnScope d_raised.N d_raised.ps (defScope d_raised.st):=@1
theorem jml:(mapO (trS T 60 false (defScope d_raised.st).names d_raised.N) (defBody d_raised.st)).map toSs=some jcm:=by kernel_rfl
theorem jmm:BindP d_raised:=fun _ _ _ _ _ _=>jkE fun _ _=>rfl
theorem jkf:FnScope d_without.N d_without.ps (defScope d_without.st):=@1
theorem jkg:(mapO (trS T 60 false (defScope d_without.st).names d_without.N) (defBody d_without.st)).map toSs=some jbM:=by kernel_rfl
theorem jkh:BindP d_without:=fun _ _ _ _ _ _=>jkE fun _ _=>rfl
theorem jh1:FnScope d_is_above.N d_is_above.ps (defScope d_is_above.st):=@1
theorem jh2:(mapO (trS T 60 false (defScope d_is_above.st).names d_is_above.N) (defBody d_is_above.st)).map toSs=some jbp:=by kernel_rfl
theorem jh3:BindP d_is_above:=fun _ _ _ _ _ _=>jkE fun _ _=>rfl
theorem joT:FnScope d_grown.N d_grown.ps (defScope d_grown.st):=@1
theorem joU:(mapO (trS T 60 false (defScope d_grown.st).names d_grown.N) (defBody d_grown.st)).map toSs=some jdj:=by kernel_rfl
theorem joV:BindP d_grown:=fun _ _ _ _ _ _=>jrq fun _ _ _=>rfl
theorem jfa:FnScope d_least_rows.N d_least_rows.ps (defScope d_least_rows.st):=@1
theorem jfb:(mapO (trS T 60 false (defScope d_least_rows.st).names d_least_rows.N) (defBody d_least_rows.st)).map toSs=some jaS:=by kernel_rfl
theorem jfc:BindP d_least_rows:=fun _ _ _ _ _ _=>jrq fun _ _ _=>rfl
theorem jdB:FnScope d_column_loops.N d_column_loops.ps (defScope d_column_loops.st):=@1
theorem jdC:(mapO (trS T 60 false (defScope d_column_loops.st).names d_column_loops.N) (defBody d_column_loops.st)).map toSs=some jax:=by kernel_rfl
theorem jdD:BindP d_column_loops:=fun _ _ _ _ _ _=>joE fun _=>rfl
theorem jdk:FnScope d_column_leasts.N d_column_leasts.ps (defScope d_column_leasts.st):=@1
theorem jdl:(mapO (trS T 60 false (defScope d_column_leasts.st).names d_column_leasts.N) (defBody d_column_leasts.st)).map toSs=some jav:=by kernel_rfl
theorem jdm:BindP d_column_leasts:=fun _ _ _ _ _ _=>jrq fun _ _ _=>rfl
theorem jfd:FnScope d_columns_of.N d_columns_of.ps (defScope d_columns_of.st):=@1
theorem jfe:(mapO (trS T 60 false (defScope d_columns_of.st).names d_columns_of.N) (defBody d_columns_of.st)).map toSs=some jaT:=by kernel_rfl
theorem jff:BindP d_columns_of:=fun _ _ _ _ _ _=>joE fun _=>rfl
theorem jh4:FnScope d_loops_of.N d_loops_of.ps (defScope d_loops_of.st):=@1
theorem jh5:(mapO (trS T 60 false (defScope d_loops_of.st).names d_loops_of.N) (defBody d_loops_of.st)).map toSs=some jbq:=by kernel_rfl
theorem jh6:BindP d_loops_of:=fun _ _ _ _ _ _=>joE fun _=>rfl
theorem jf8:FnScope d_leasts_of.N d_leasts_of.ps (defScope d_leasts_of.st):=@1
theorem jf9:(mapO (trS T 60 false (defScope d_leasts_of.st).names d_leasts_of.N) (defBody d_leasts_of.st)).map toSs=some ja8:=by kernel_rfl
theorem jga:BindP d_leasts_of:=fun _ _ _ _ _ _=>jkE fun _ _=>rfl
theorem jgb:FnScope d__law_deck.N d__law_deck.ps (defScope d__law_deck.st):=@1
theorem jgc:(mapO (trS T 60 false (defScope d__law_deck.st).names d__law_deck.N) (defBody d__law_deck.st)).map toSs=some ja9:=by kernel_rfl
theorem jgd:BindP d__law_deck:=fun _ _ _ _ _ _=>jkE fun _ _=>rfl
theorem jel:FnScope d__law_values.N d__law_values.ps (defScope d__law_values.st):=@1
theorem jem:(mapO (trS T 60 false (defScope d__law_values.st).names d__law_values.N) (defBody d__law_values.st)).map toSs=some jaG:=by kernel_rfl
theorem jen:BindP d__law_values:=fun _ _ _ _ _ _=>joE fun _=>rfl
theorem jfg:FnScope d__law_bound.N d__law_bound.ps (defScope d__law_bound.st):=@1
theorem jfh:(mapO (trS T 60 false (defScope d__law_bound.st).names d__law_bound.N) (defBody d__law_bound.st)).map toSs=some jaU:=by kernel_rfl
theorem jfi:BindP d__law_bound:=fun _ _ _ _ _ _=>joE fun _=>rfl
theorem jcE:FnScope d__law_drawn_row.N d__law_drawn_row.ps (defScope d__law_drawn_row.st):=@1
theorem jcF:(mapO (trS T 60 false (defScope d__law_drawn_row.st).names d__law_drawn_row.N) (defBody d__law_drawn_row.st)).map toSs=some jaq:=by kernel_rfl
theorem jcG:BindP d__law_drawn_row:=fun _ _ _ _ _ _=>jkE fun _ _=>rfl
theorem jfj:FnScope d__law_taken.N d__law_taken.ps (defScope d__law_taken.st):=@1
theorem jfk:(mapO (trS T 60 false (defScope d__law_taken.st).names d__law_taken.N) (defBody d__law_taken.st)).map toSs=some jaV:=by kernel_rfl
theorem jfl:BindP d__law_taken:=fun _ _ _ _ _ _=>jkE fun _ _=>rfl
theorem jh7:FnScope d__law_all.N d__law_all.ps (defScope d__law_all.st):=@1
theorem jh8:(mapO (trS T 60 false (defScope d__law_all.st).names d__law_all.N) (defBody d__law_all.st)).map toSs=some jbr:=by kernel_rfl
theorem jh9:BindP d__law_all:=fun _ _ _ _ _ _=>jtw fun _ _ _ _=>rfl
theorem jsA:FnScope d_law.N d_law.ps (defScope d_law.st):=@1
theorem jsB:(mapO (trS T 60 false (defScope d_law.st).names d_law.N) (defBody d_law.st)).map toSs=some jkb:=by kernel_rfl
theorem jsC:BindP d_law:=fun _ _ _ _ _ _=>joE fun _=>rfl
end Law
namespace Law
open PySem L2 DJ
variable {W n:Nat}
noncomputable abbrev CD (W n:Nat):Calls:=jaa U W P n
theorem jki (ns:List Int):tu ns=.tup (ns.map D.int):=rfl
theorem jcw:∀{vs:List Vl}{ds:List D}{ρ:Rho},Paired (fun v d=>(∀i,v≠.slot i)/\deref v []=.ok d) vs ds->jak [] vs ρ=.ok (ds.map Sl.dat,ds.map (fun _=>none),ρ)
 |_,_,ρ,.nil=>rfl
 |v::vs,d::ds,ρ,.cons ⟨h1,h2⟩ p=>by
  cases v with
  |dat x=>cases h2;simp only[jtO,jak,List.headD_nil,jeJ,toD,R.bind_ok',List.tail_nil,jcw p]
  |tmp o=>cases h2;simp only[jtO,jak,List.headD_nil,jeJ,toD,R.bind_ok',List.tail_nil,jcw p]
  |slot i=>exact absurd rfl (h1 i)
theorem jdn {G:Calls}{ρ ρ':Rho}{k:Nat}{es:Es}{fin:List Sl}{v:Vl}{vs:List Vl}{ds:List D}(he:evAs G U es ρ=.ok (vs,ρ'))(hp:Paired (fun v d=>(∀i,v≠.slot i)/\deref v []=.ok d) vs ds)(hG:G k (ds.map Sl.dat)=.ok (v,fin)):evE G U (.call k [] es) ρ=.ok (v,ρ'):=by
 simp only[evE,he,R.bind_ok',jcw hp,hG,jbV]
theorem pd {d:D}:(∀i,Vl.dat d≠.slot i)/\deref (.dat d) []=.ok d:=⟨(fun _ z=>by cases z),rfl⟩
theorem pt {xs:List D}:(∀i,Vl.tmp (.l xs)≠.slot i)/\deref (.tmp (.l xs)) []=.ok (.lst xs):=⟨(fun _ z=>by cases z),rfl⟩
section
variable {G:Calls}{ρ ρ1 ρ2 ρ3:Rho}{a b c:E}{v1 v2 v3:Vl}
theorem as1 (h:evE G U a ρ=.ok (v1,ρ1)):evAs G U (.cons a .nil) ρ=.ok ([v1],ρ1):=by simp only[evAs,h,R.bind_ok']
theorem as2 (h:evE G U a ρ=.ok (v1,ρ1))(h2:evE G U b ρ1=.ok (v2,ρ2)):evAs G U (.cons a (.cons b .nil)) ρ=.ok ([v1,v2],ρ2):=by simp only[evAs,h,h2,R.bind_ok']
theorem as3 (h:evE G U a ρ=.ok (v1,ρ1))(h2:evE G U b ρ1=.ok (v2,ρ2))(h3:evE G U c ρ2=.ok (v3,ρ3)):evAs G U (.cons a (.cons b (.cons c .nil))) ρ=.ok ([v1,v2,v3],ρ3):=by simp only[evAs,h,h2,h3,R.bind_ok']
end
theorem jq0 {ns:List Int}{ρ:Rho}:jan (.dat (tu ns)) ρ=.ok (ns.map D.int,[],ρ):=rfl
theorem jdo {xx:Bool}{G:Calls}{elt:E}{as bs:List Int}{g:Int->Int->D}(he:∀p∈as.zip bs,(evE G U elt [.dat (.int p.1),.dat (.int p.2)])=.ok (.dat (g p.1 p.2),[.dat (.int p.1),.dat (.int p.2)])) :
  evE G U (.comp elt [0,1] false 2 [] (.zip (.var 0) (.var 1)) .none xx) [.dat (tu as),.dat (tu bs)]=.ok (.tmp (.l ((as.zip bs).map fun p=>g p.1 p.2)),[.dat (tu as),.dat (tu bs)]):=by
 simp only[evE,evI,jt0,jt1,R.bind_ok',jan,jki,jat,jcP,jt5];rw[ja5 (g:=fun p:Int×Int=>g p.1 p.2)]
 ·rw[ja2];rfl
 ·intro p hp;have:=he p hp;simp only[putT,jdt,jce,List.map_nil,jt5,List.replicate,jtR,jt2,List.zip_cons_cons,List.zip_nil_right,List.foldl_cons,List.foldl_nil,List.set_cons_zero,List.set_cons_succ,if_true,R.bind_ok',this,toD,jaB]
noncomputable def ad (a b:List Int):List Int:=(a.zip b).map fun p=>p.1+p.2
theorem jdp {α:Type}{f:D->Rho->R (Option D×Rho)}{h g:α->D}{p:α->Bool}{ρ:Rho}:∀{xs:List α},(∀x∈xs,f (h x) ρ=.ok (if p x then some (g x)else none,ρ))->compGo f (xs.map h) ρ=.ok ((xs.filter p).map g,ρ)
 |[],_=>rfl
 |x::xs,e=>by
  simp only[jtO,compGo,e x jtJ,R.bind_ok',jdp fun y hy=>e y (jtI _ hy),List.filter_cons];cases p x <;> rfl
noncomputable def nz (k:List Int):Bool:=(k.map (· != 0)).any id
theorem jia:∀(k:List Int),jau (k.map D.int)=some (k.map (· != 0))
 |[]=>rfl
 |a::r=>by simp only[jtO,jau,jia r,Option.map_some]
noncomputable def jtB (b:List Int)(ss:List @9):D:=.tup [tu b,.tup (ss.map tu)]
theorem jgV:∀(l:List @9),jaN (l.map tu)=some l
 |[]=>rfl
 |k::l=>by simp only[jtO,tu,jaN,jbo];rw[jgV l]
theorem jq1:∀(k:Nat),(List.replicate k [D.int 0]).flatten=(List.replicate k (0:Int)).map D.int
 |0=>rfl
 |k+1=>by simp only[List.replicate_succ,List.flatten_cons,jq1 k,jtO,List.singleton_append]
noncomputable abbrev Fan:=List Int×List @9
noncomputable def fD (f:Fan):D:=jtB f.1 f.2
noncomputable def sD (fs:List Fan):D:=.tup (fs.map fD)
theorem js1 {a b:List Int}{w k:Nat}(ha:a.length=w)(hb:b.length=w)(hk:k<w):(ad a b).getD k 0=a.getD k 0+b.getD k 0:=by
 unfold ad;simp only[jtP,jtN,List.getElem?_zip_eq_some,List.zip_eq_zipWith,List.getElem?_zipWith];rw[jtH (show k<a.length by omega),jtH (show k<b.length by omega)]
 rfl
theorem jmW {G:Calls}{W:Nat}{i:Nat}{e:E}{ρ ρ':Rho}{xs ys:List D}{d:D}{f f' k':Bool}(h:evE G U e ρ=.ok (.dat d,ρ'))(h0:ρ[i]?=some (.own (.l ys) f' k'))(hi:ρ'[i]?=some (.own (.l xs) f false))(hl:jbc (xs.length+1)=true):evS G U W (.app i e) ρ=.ok (.nx (ρ'.set i (.own (.l (xs++[d])) f false))):=by
 simp only[evS,h0,h,R.bind_ok',jdf,hi];rw[if_pos hl]
theorem jgW {x y:List Int}:∀{l:List @9},y∈ji0 x l->y=x\/y∈l
 |[],h=>by simp[ji0]at h;exact .inl h
 |z::r,h=>by
  simp only[ji0]at h;split at h
  ·rcases List.mem_cons.mp h with h | h
   ·exact .inr (by simp[h])
   ·rcases jgW h with h | h
    ·exact .inl h
    ·exact .inr (jtI _ h)
  ·rcases List.mem_cons.mp h with h | h
   ·exact .inl h
   ·exact .inr h
theorem jib {y:List Int}:∀{l:List @9},y∈jbn l->y∈l
 |[],h=>by simp[jbn]at h
 |z::r,h=>by
  simp only[jbn]at h;rcases jgW h with h | h
  ·simp[h]
  ·exact jtI _ (jib h)
theorem jgX {x:List Int}:∀{l:List @9},(ji0 x l).length=l.length+1
 |[]=>rfl
 |z::r=>by
  simp only[ji0];split
  ·simp[jgX]
  ·simp
theorem jic:∀{l:List @9},(jbn l).length=l.length
 |[]=>rfl
 |z::r=>by simp[jbn,jgX,jic]
theorem jtF {a b c i:Int}(h0:0<=i)(h1:i<3):∃m,(m=a\/m=b\/m=c)/\DJ.atI [D.int a,D.int b,D.int c] i=.ok (.int m):=by
 have:i=0\/i=1\/i=2:=by omega
 rcases this with rfl | rfl | rfl
 ·exact⟨a,.inl rfl,rfl⟩
 ·exact⟨b,.inr (.inl rfl),rfl⟩
 ·exact⟨c,.inr (.inr rfl),rfl⟩
end Law
namespace Law
open PySem L2 DJ
variable {W n:Nat}
noncomputable def le (a b:List Int):Bool:=(a.zip b).all fun p=>decide (p.1<=p.2)
noncomputable def sb (a b:List Int):List Int:=(a.zip b).map fun p=>p.1 - p.2
noncomputable def wt (w v:List Int):Int:=((w.zip v).map fun p=>p.1 * p.2).sum
theorem jmn (a b:List Int):CD W (n+1) 0 [.dat (tu a),.dat (tu b)]=.ok (.dat (.bl (le a b)),[.no,.no]):=by
 rw[CD,jai (d:=⟨2,2,jbL⟩) rfl rfl];have hc:evE (jaa U W P n) U jdh [.dat (tu a),.dat (tu b)]=_:=jdo (g:=fun a b=>.bl (decide (a<=b))) fun p hp=>rfl;show (evSs (jaa U W P n) U W jbL [.dat (tu a),.dat (tu b)]).bind (jcZ 2)=_;simp only[jbL];simp_arith[hc,bfD,jdd (g:=fun p:Int×Int=>decide (p.1<=p.2)),List.all_map];rfl
noncomputable abbrev Bd:List Int->List Int->Prop:=Paired (fun x y:Int=>0<=x/\x<=y)
theorem jbk (w v:Int)(ws vs:List Int):wt (w::ws) (v::vs)=w * v+wt ws vs:=by
 unfold wt;rw[List.zip_cons_cons,jtO,List.sum_cons]
theorem Bd.sm {v m:List Int}(h:Bd v m):∀x∈v,0<=x:=by
 induction h with
 |nil=>intro x hx;cases hx
 |cons r _ ih=>
  intro x hx;rcases List.mem_cons.mp hx with rfl | hx
  ·exact r.1
  ·exact ih x hx
theorem Bd.self {m:List Int}(h:∀x∈m,0<=x):Bd m m:=by
 induction m with
 |nil=>exact .nil
 |cons x m ih=>exact .cons ⟨h x jtJ,Int.le_refl _⟩ (ih fun y hy=>h y (jtI _ hy))
theorem Bd.len {v m:List Int}(h:Bd v m):v.length=m.length:=by
 induction h with
 |nil=>rfl
 |cons _ _ ih=>rw[jtR,jtR,ih]
theorem jkj {v m:List Int}(hl:v.length=m.length)(h0:∀x∈v,0<=x)(h:le v m=true):Bd v m:=by
 induction v generalizing m with
 |nil=>
  cases m with
  |nil=>exact .nil
  |cons _ _=>cases hl
 |cons x v ih=>
  cases m with
  |nil=>cases hl
  |cons y m=>
   have e:le (x::v) (y::m)=(decide (x<=y)&&le v m):=rfl;rw[e,juq,decide_eq_true_eq]at h;exact .cons ⟨h0 x jtJ,h.1⟩ (ih (Nat.succ.inj hl) (fun z hz=>h0 z (jtI _ hz)) h.2)
theorem Bd.le {v m:List Int}(h:Bd v m):le v m=true:=by
 induction h with
 |nil=>rfl
 |@cons x y v m r _ ih=>
  have e:Law.le (x::v) (y::m)=(decide (x<=y)&&Law.le v m):=rfl;rw[e,ih,decide_eq_true r.2];rfl
theorem joW (w:List Int):∀{v u:List Int},v.length=u.length->wt w (ad v u)=wt w v+wt w u:=by
 induction w with
 |nil=>intro v u _;rfl
 |cons a w ih=>
  intro v u h;cases v with
  |nil=>cases u with
   |nil=>rfl
   |cons _ _=>cases h
  |cons x v=>
   cases u with
   |nil=>cases h
   |cons y u=>
    have e:ad (x::v) (y::u)=(x+y)::ad v u:=rfl;rw[e,jbk,jbk,jbk,ih (Nat.succ.inj h),Int.mul_add];omega
theorem js2 {v s:List Int}(h:v.length=s.length):(ad v s).length=v.length:=by
 unfold ad;rw[jtQ,List.length_zip];omega
theorem Bd.up {v u m:List Int}(h:Bd v u):Bd u m->Bd v m:=by
 induction h generalizing m with
 |nil=>exact id
 |cons r _ ih=>
  intro h;cases h with
  |cons r' t'=>exact .cons ⟨r.1,by omega⟩ (ih t')
noncomputable def zs (l:Nat):List Int:=List.replicate l 0
theorem jdq (a:List Int):ad a []=[]:=by unfold ad;rw[List.zip_nil_right];rfl
theorem jcb (x y:Int)(a b:List Int):ad (x::a) (y::b)=(x+y)::ad a b:=rfl
theorem jsD (a:List Int):∀b,ad a b=ad b a:=by
 induction a with
 |nil=>intro b;rw[jdq];rfl
 |cons x a ih=>
  intro b;cases b with
  |nil=>rw[jdq];rfl
  |cons y b=>rw[jcb,jcb,ih,Int.add_comm]
theorem jrr (a:List Int):∀b c,ad (ad a b) c=ad a (ad b c):=by
 induction a with
 |nil=>intro b c;rfl
 |cons x a ih=>
  intro b c;cases b with
  |nil=>rw[jdq];show []=ad (x::a) [];rw[jdq]
  |cons y b=>
   cases c with
   |nil=>rw[jdq,jdq,jdq]
   |cons z c=>rw[jcb,jcb,jcb,jcb,ih,Int.add_assoc]
theorem jtC (a:List Int):∀{l:Nat},a.length=l->ad a (zs l)=a:=by
 induction a with
 |nil=>intro l h;rfl
 |cons x a ih=>
  intro l h;subst h;show (x+0)::ad a (zs a.length)=_;rw[ih rfl,Int.add_zero]
end Law
namespace Law
open PySem L2 DJ
noncomputable def up (r:List Int)(j:Nat):List Int:=r.set j (r.getD j 0+1)
theorem jdP (r:List Int)(j:Nat):(up r j).length=r.length:=jt4
theorem jq2 (x:Int)(r:List Int):up (x::r) 0=(x+1)::r:=rfl
theorem jq3 (x:Int)(r:List Int)(j:Nat):up (x::r) (j+1)=x::up r j:=by
 show (x::r).set (j+1) ((x::r).getD (j+1) 0+1)=_;rw[List.set_cons_succ];rfl
theorem jdQ:∀{r:List Int}{j:Nat},j<r.length->(up r j).sum=r.sum+1
 |[],j,h=>by cases h
 |x::r,0,_=>by rw[jq2,List.sum_cons,List.sum_cons];omega
 |x::r,j+1,h=>by rw[jq3,List.sum_cons,List.sum_cons,jdQ (Nat.lt_of_succ_lt_succ h)];omega
theorem jid:∀{A r:List Int}{j:Nat},A.length=r.length->j<r.length->wt A (up r j)=wt A r+A.getD j 0
 |[],r,j,hl,h=>by rw[<-hl]at h;cases h
 |a::A,[],j,hl,h=>by cases h
 |a::A,x::r,0,hl,h=>by
  rw[jq2,jbk,jbk,Int.mul_add];show a * x+a * 1+wt A r=a * x+wt A r+a;omega
 |a::A,x::r,j+1,hl,h=>by
  rw[jq3,jbk,jbk,jid (Nat.succ.inj hl) (Nat.lt_of_succ_lt_succ h)];show a * x+(wt A r+A.getD j 0)=a * x+wt A r+A.getD j 0;omega
theorem jmo {r:List Int}{j:Nat}(h:∀x∈r,0<=x):∀x∈up r j,0<=x:=fun x hx=>by
 rcases List.mem_or_eq_of_mem_set hx with hx | rfl
 ·exact h x hx
 ·rw[jtP];cases e:r[j]? with
  |none=>show (0:Int)<=0+1;omega
  |some y=>have:=h y (jtT e);show 0<=y+1;omega
theorem jq4:∀{r:List Int}{j:Nat},(∀x∈r,0<=x)->Bd r (up r j)
 |[],j,_=>.nil
 |x::r,0,h=>by
  rw[jq2];exact .cons ⟨h x jtJ,by omega⟩ (Bd.self fun y hy=>h y (jtI _ hy))
 |x::r,j+1,h=>by
  rw[jq3];exact .cons ⟨h x jtJ,Int.le_refl _⟩ (jq4 fun y hy=>h y (jtI _ hy))
theorem jsE {s:Int}{r m:List Int}(h:Bd r m):∀{A:List Int},A.length=m.length->0<s * (wt A m - wt A r)->∃j,j<r.length/\0<s * A.getD j 0/\Bd (up r j) m:=by
 induction h with
 |nil=>
  intro A hl hp;cases A with
  |nil=>simp[wt]at hp
  |cons _ _=>cases hl
 |@cons x y r m h t ih=>
  intro A hl hp;cases A with
  |nil=>cases hl
  |cons a A=>
   rw[jbk,jbk]at hp;by_cases h1:0<s * (wt A m - wt A r)
   ·obtain⟨j,h2,h3,h4⟩:=ih (Nat.succ.inj hl) h1;refine⟨j+1,Nat.succ_lt_succ h2,h3,?_⟩;rw[jq3];exact .cons h h4
   ·have hd:0<s * (a * (y - x)):=by
     have e:s * (a * y+wt A m - (a * x+wt A r))=s * (a * (y - x))+s * (wt A m - wt A r):=by
      rw[<-Int.mul_add,Int.mul_sub a y x];congr 1;omega
     omega
    have hxy:0<y - x:=by
     by_cases hq:y - x=0
     ·rw[hq,Int.mul_zero,Int.mul_zero]at hd;omega
     ·omega
    have ha:0<s * a:=by
     rw[<-Int.mul_assoc]at hd;by_cases hn:0<s * a
     ·exact hn
     ·have:s * a * (y - x)<=0:=Int.mul_nonpos_of_nonpos_of_nonneg @0 @0
      omega
    refine⟨0,Nat.zero_lt_succ _,ha,?_⟩;rw[jq2];exact .cons ⟨by omega,by omega⟩ t
theorem jcp {r m:List Int}(h:Bd r m):0<=r.sum/\r.sum<=m.sum/\(r.sum=m.sum->r=m):=by
 induction h with
 |nil=>exact⟨Int.le_refl _,Int.le_refl _,fun _=>rfl⟩
 |@cons x y r m h t ih=>
  obtain⟨i1,i2,i3⟩:=ih;rw[List.sum_cons,List.sum_cons];refine⟨by omega,by omega,fun e=>?_⟩
  have:x=y:=by omega
  rw[this,i3 @0]
theorem Bd.trans' {a b c:List Int}(h:Bd a b)(h':Bd b c):Bd a c:=h.up h'
structure Sol (A:List Int)(t:Int)(r:List Int):Prop where
 len:r.length=A.length
 nn:∀x∈r,0<=x
 eq:wt A r=t
noncomputable def Least (A:List Int)(t:Int)(z:Bool)(m:List Int):Prop:=Sol A t m/\(z=true->m.sum≠0)/\∀m',Bd m' m->Sol A t m'->(z=true->m'.sum≠0)->m'=m
theorem jcR {A:List Int}{t:Int}{z:Bool}:∀(k:Nat) {c:List Int},c.sum.toNat<=k->Sol A t c->(z=true->c.sum≠0)->∃m,Bd m c/\Least A t z m
 |k,c,hk,hs,hz=>by
  by_cases h:∃m',Bd m' c/\Sol A t m'/\(z=true->m'.sum≠0)/\m'≠c
  ·obtain⟨m',h1,h2,h3,h4⟩:=h;obtain⟨b1,b2,b3⟩:=jcp h1;have hlt:m'.sum<c.sum:=by
    by_cases e:m'.sum=c.sum
    ·exact absurd (b3 e) h4
    ·omega
   cases k with
   |zero=>omega
   |succ k=>
    obtain⟨m,g1,g2⟩:=jcR k (c:=m') @0 h2 h3
    exact⟨m,g1.trans' h1,g2⟩
  ·exact⟨c,Bd.self hs.nn,hs,hz,fun m' h1 h2 h3=>Classical.byContradiction fun h4=>h ⟨m',h1,h2,h3,h4⟩⟩
termination_by k=>k
end Law
namespace Law
open PySem L2 DJ
theorem Bd.sb' {v m:List Int}(h:Bd v m):Bd (sb m v) m/\ad v (sb m v)=m:=by
 induction h with
 |nil=>exact⟨.nil,rfl⟩
 |@cons x y v m r _ ih=>
  have e:Law.sb (y::m) (x::v)=(y - x)::Law.sb m v:=rfl;have e2:ad (x::v) ((y - x)::Law.sb m v)=(x+(y - x))::ad v (Law.sb m v):=rfl;rw[e,e2,ih.2,show x+(y - x)=y by omega]
  exact⟨.cons ⟨by omega,by omega⟩ ih.1,rfl⟩
theorem jgY:∀{a b:List Int},a.length=b.length->(ad a b).sum=a.sum+b.sum
 |[],[],_=>rfl
 |[],b::bs,h=>by cases h
 |a::as,[],h=>by cases h
 |a::as,b::bs,h=>by
  rw[jcb,List.sum_cons,List.sum_cons,List.sum_cons,jgY (Nat.succ.inj h)];omega
noncomputable def abv (x:List Int)(F:List @9):Bool:=F.any fun f=>le f x
noncomputable def jkk (A:List Int)(F:List @9)(s:Int)(r:List Int):List Nat->List @9->List @9
 |[],acc=>acc
 |j::js,acc=>jkk A F s r js (if 0<s * A.getD j 0/\up r j ∉ acc/\abv (up r j) F=false then acc++[up r j] else acc)
noncomputable def jbe (A:List Int)(t:Int)(F:List @9):List @9->List @9->List @9
 |[],acc=>acc
 |r::rs,acc=>jbe A t F rs (jkk A F (t - wt A r) r (List.range A.length) acc)
theorem jgZ {A:List Int}{F:List @9}{s:Int}{r x:List Int}:∀{js:List Nat}{acc:List @9},x∈jkk A F s r js acc↔x∈acc\/∃j∈js,0<s * A.getD j 0/\x=up r j/\abv x F=false
 |[],acc=>by simp[jkk]
 |j::js,acc=>by
  rw[jkk,jgZ];constructor
  ·rintro (h | ⟨i,h1,h2⟩)
   ·split at h
    ·rename_i hc;rcases List.mem_append.mp h with h | h
     ·exact .inl h
     ·have e:=List.mem_singleton.mp h;exact .inr ⟨j,jtJ,hc.1,e,by rw[e];exact hc.2.2⟩
    ·exact .inl h
   ·exact .inr ⟨i,jtI _ h1,h2⟩
  ·rintro (h | ⟨i,h1,h2,h3,h4⟩)
   ·left
    split
    ·exact jt3 _ h
    ·exact h
   ·rcases List.mem_cons.mp h1 with rfl | h1
    ·left
     split
     ·rw[h3];exact jtS _ (List.mem_singleton.mpr rfl)
     ·rename_i hc;by_cases hin:up r i∈acc
      ·rw[h3];exact hin
      ·exact absurd ⟨h2,hin,by rw[<-h3];exact h4⟩ hc
    ·exact .inr ⟨i,h1,h2,h3,h4⟩
theorem jkl {A:List Int}{F:List @9}{s:Int}{r:List Int}:∀{js:List Nat}{acc:List @9},acc.Nodup->(jkk A F s r js acc).Nodup
 |[],acc,h=>h
 |j::js,acc,h=>by
  rw[jkk];refine jkl ?_;split
  ·rename_i hc;rw[List.nodup_append];exact⟨h,by simp,fun x hx y hy=>by rw[List.mem_singleton.mp hy];intro e;subst e;exact hc.2.1 hx⟩
  ·exact h
theorem grOut_mem {A:List Int}{t:Int}{F:List @9}{x:List Int}:∀{rs acc:List @9},x∈jbe A t F rs acc↔x∈acc\/∃r∈rs,∃j,j<A.length/\0<(t - wt A r) * A.getD j 0/\x=up r j/\abv x F=false
 |[],acc=>by simp[jbe]
 |r::rs,acc=>by
  rw[jbe,grOut_mem,jgZ];constructor
  ·rintro ((h | ⟨j,h1,h2⟩) | ⟨q,h1,h2⟩)
   ·exact .inl h
   ·exact .inr ⟨r,jtJ,j,List.mem_range.mp h1,h2⟩
   ·exact .inr ⟨q,jtI _ h1,h2⟩
  ·rintro (h | ⟨q,h1,j,h2,h3⟩)
   ·exact .inl (.inl h)
   ·rcases List.mem_cons.mp h1 with rfl | h1
    ·exact .inl (.inr ⟨j,List.mem_range.mpr h2,h3⟩)
    ·exact .inr ⟨q,h1,j,h2,h3⟩
theorem jg0 {A:List Int}{t:Int}{F:List @9}:∀{rs acc:List @9},acc.Nodup->(jbe A t F rs acc).Nodup
 |[],acc,h=>h
 |r::rs,acc,h=>by rw[jbe];exact jg0 (jkl h)
noncomputable def fnd (A:List Int)(t:Int)(L F:List @9):List @9:=F++L.filter fun r=>decide (wt A r=t)
noncomputable def run (A:List Int)(t:Int)(F0 L0:List @9):Nat->List @9×List @9
 |0=>(L0,[])
 |n+1=>(jbe A t (F0++fnd A t (run A t F0 L0 n).1 (run A t F0 L0 n).2) (run A t F0 L0 n).1 [],fnd A t (run A t F0 L0 n).1 (run A t F0 L0 n).2)
structure Ini (A:List Int)(t B:Int)(z:Bool)(F0 L0:List (List Int))(n0:Nat):Prop where
 t0:z=true->t=0/\F0=[]/\n0=1
 row:∀r∈L0,r.length=A.length/\(∀x∈r,0<=x)/\r.sum=n0
 nd:L0.Nodup
 bd:∀r∈L0,-B<=t - wt A r/\t - wt A r<=B
 ab:∀j,-B<=A.getD j 0/\A.getD j 0<=B
 lp:∀f∈F0,Sol A 0 f/\f.sum≠0
 all:z=false->∀m,Least A 0 true m->m∈F0
 st:∀m,Sol A t m->(z=true->m.sum≠0)->∃r∈L0,Bd r m
section
variable {A:List Int}{t B:Int}{z:Bool}{F0 L0:List (List Int)}{n0:Nat}
theorem jbb (h:Ini A t B z F0 L0 n0):∀n,∀r∈(run A t F0 L0 n).1,(r.length=A.length/\(∀x∈r,0<=x)/\r.sum=n0+n)/\-B<=t - wt A r/\t - wt A r<=B
 |0,r,hr=>by
  obtain⟨h1,h2,h3⟩:=h.row r hr;exact⟨⟨h1,h2,by rw[h3];omega⟩,h.bd r hr⟩
 |n+1,r,hr=>by
  rcases grOut_mem.mp hr with hr | ⟨q,hq,j,hj,hs,rfl,ha⟩
  ·cases hr
  ·obtain⟨⟨h1,h2,h3⟩,h4,h5⟩:=jbb h n q hq;have hj':j<q.length:=by rw[h1];exact hj
   refine⟨⟨by rw[jdP,h1],jmo h2,by rw[jdQ hj',h3];omega⟩,?_⟩
   rw[jid h1.symm hj',show t - (wt A q+A.getD j 0)=t - wt A q - A.getD j 0 by omega]
   obtain⟨b1,b2⟩:=h.ab j;generalize A.getD j 0=a at hs b1 b2 ⊢;generalize t - wt A q=s at hs h4 h5 ⊢;have hsa:(0<s/\0<a)\/(s<0/\a<0):=by
    rcases Int.lt_trichotomy s 0 with c | c | c
    ·right
     refine⟨c,?_⟩;by_cases ha:a<0
     ·exact ha
     ·have:=Int.mul_nonpos_of_nonpos_of_nonneg (show s<=0 by omega) (show 0<=a by omega)
      omega
    ·rw[c,Int.zero_mul]at hs;omega
    ·left
     refine⟨c,?_⟩;by_cases ha:0<a
     ·exact ha
     ·have:=Int.mul_nonpos_of_nonneg_of_nonpos (show 0<=s by omega) (show a<=0 by omega)
      omega
   omega
theorem jq5 (h:Ini A t B z F0 L0 n0):∀n,(run A t F0 L0 n).1.Nodup
 |0=>h.nd
 |n+1=>jg0 List.nodup_nil
theorem jdr (h:Ini A t B z F0 L0 n0):∀n,∀r∈(run A t F0 L0 n).2,Sol A t r/\(n0:Int)<=r.sum/\r.sum<n0+n
 |0,r,hr=>by cases hr
 |n+1,r,hr=>by
  rcases List.mem_append.mp hr with hr | hr
  ·obtain⟨h1,h2,h3⟩:=jdr h n r hr;exact⟨h1,h2,by omega⟩
  ·obtain⟨h1,h2⟩:=List.mem_filter.mp hr;obtain⟨⟨g1,g2,g3⟩,_⟩:=jbb h n r h1;exact⟨⟨g1,g2,of_decide_eq_true h2⟩,by omega,by omega⟩
theorem jg1 (h:Ini A t B z F0 L0 n0):∀n,(run A t F0 L0 n).2.Nodup
 |0=>List.nodup_nil
 |n+1=>by
  show (fnd A t _ _).Nodup;unfold fnd;rw[List.nodup_append];refine⟨jg1 h n,(jq5 h n).filter _,fun x hx y hy e=>?_⟩;subst e;have h1:=(jdr h n x hx).2.2;have h2:=(jbb h n x (List.mem_filter.mp hy).1).1.2.2;omega
theorem jq6 {x:List Int}{F:List @9}(h:abv x F=false){f:List Int}(hf:f∈F):¬Bd f x:=fun hb=>by
 have:=List.any_eq_false.mp h f hf;exact this hb.le
theorem jeo (h:Ini A t B z F0 L0 n0){m:List Int}(hm:Least A t z m):∀n,m∈(run A t F0 L0 n).2\/((n0+n:Int)<=m.sum/\∃r∈(run A t F0 L0 n).1,Bd r m)
 |0=>by
  obtain⟨r,h1,h2⟩:=h.st m hm.1 hm.2.1;have:=(jcp h2).2.1;have h3:=(h.row r h1).2.2;exact .inr ⟨by omega,r,h1,h2⟩
 |n+1=>by
  rcases jeo h hm n with hf | ⟨hle,r,hr,hb⟩
  ·exact .inl (jt3 _ hf)
  ·obtain⟨⟨g1,g2,g3⟩,_⟩:=jbb h n r hr;by_cases he:wt A r=t
   ·have:r=m:=hm.2.2 r hb ⟨g1,g2,he⟩ fun hz=>by have:=(h.t0 hz).2.2;omega
    rw[<-this];exact .inl (jtS _ (List.mem_filter.mpr ⟨hr,decide_eq_true he⟩))
   ·have hne:t - wt A r≠0:=by omega
    have hp:0<(t - wt A r) * (wt A m - wt A r):=by
     rw[hm.1.eq];rcases Int.lt_or_gt_of_ne hne with c | c
     ·exact Int.mul_pos_of_neg_of_neg c c
     ·exact Int.mul_pos c c
    obtain⟨j,h1,h2,h3⟩:=jsE hb (by rw[hm.1.len]) hp
    cases ha:abv (up r j) (F0++fnd A t (run A t F0 L0 n).1 (run A t F0 L0 n).2)with
    |false=>
     have hin:up r j∈(run A t F0 L0 (n+1)).1:=grOut_mem.mpr (.inr ⟨r,hr,j,by rw[<-g1];exact h1,h2,rfl,ha⟩)
     have:=(jcp h3).2.1;rw[jdQ h1]at this;exact .inr ⟨by omega,_,hin,h3⟩
    |true=>
     obtain⟨f,hf,hfl⟩:=List.any_eq_true.mp ha;rcases List.mem_append.mp hf with hf | hf
     ·cases z with
      |true=>rw[(h.t0 rfl).2.1]at hf;cases hf
      |false=>
       obtain⟨fs,fz⟩:=h.lp f hf;have fb:Bd f m:=(jkj (by rw[fs.len,jdP,g1]) fs.nn hfl).trans' h3
       obtain⟨d1,d2⟩:Bd (sb m f) m/\ad f (sb m f)=m:=fb.sb';have hw:wt A (sb m f)=t:=by
        have:=joW A (v:=f) (u:=sb m f) (by rw[d1.len,fb.len])
        rw[d2,hm.1.eq,fs.eq]at this;omega
       have e:=hm.2.2 (sb m f) d1 ⟨by rw[d1.len,hm.1.len],d1.sm,hw⟩ fun z=>by cases z
       have hs:(ad f (sb m f)).sum=f.sum+(sb m f).sum:=jgY (by rw[d1.len,fb.len])
       rw[d2,e]at hs;omega
     ·obtain⟨fs,f1,_⟩:=jdr h (n+1) f hf;have fb:Bd f m:=(jkj (by rw[fs.len,jdP,g1]) fs.nn hfl).trans' h3
      have e:=hm.2.2 f fb fs fun hz=>by have:=(h.t0 hz).2.2;omega
      rw[<-e];exact .inl hf
end
end Law
namespace Law
open PySem L2 DJ
theorem jep:∀(N:Nat) {l:List Int},l.Nodup->(∀x∈l,0<=x/\x<N)->l.length<=N
 |0,l,_,h=>by
  cases l with
  |nil=>exact jul _
  |cons x l=>have:=h x jtJ;omega
 |N+1,l,hn,h=>by
  by_cases hm:(N:Int)∈l
  ·have:=jep N (hn.erase (N:Int)) fun x hx=>by
    obtain⟨h1,h2⟩:=(List.Nodup.mem_erase_iff hn).mp hx;have:=h x h2;omega
   rw[List.length_erase_of_mem hm]at this;omega
  ·have:=jep N hn fun x hx=>by
    have h1:=h x hx;have h2:x≠N:=fun e=>hm (e ▸ hx);omega
   omega
section
variable {A:List Int}{t B:Int}{z:Bool}{F0 L0:List (List Int)}{n0:Nat}
theorem jg2 (h:Ini A t B z F0 L0 n0):∀n,∀r∈(run A t F0 L0 n).1,∃f:Nat->List Int,f n=r/\(∀i,i<=n->f i∈(run A t F0 L0 i).1)/\∀i j,i<=j->j<=n->Bd (f i) (f j)
 |0,r,hr=>⟨fun _=>r,rfl,fun i hi=>by rw[Nat.le_zero.mp hi];exact hr,fun i j _ _=>Bd.self (jbb h 0 r hr).1.2.1⟩
 |n+1,r,hr=>by
  rcases grOut_mem.mp hr with hr' | ⟨q,hq,j,hj,hs,e,ha⟩
  ·cases hr'
  ·obtain⟨f,f1,f2,f3⟩:=jg2 h n q hq;have hqn:=(jbb h n q hq).1.2.1;refine⟨fun i=>if i<=n then f i else r,if_neg @0,fun i hi=>?_,fun i k hik hk=>?_⟩
   ·dsimp only;by_cases hi2:i<=n
    ·rw[if_pos hi2];exact f2 i hi2
    ·rw[if_neg hi2,show i=n+1 by omega];exact hr
   ·dsimp only;by_cases hk2:k<=n
    ·rw[if_pos @0,if_pos hk2];exact f3 i k hik hk2
    ·rw[if_neg hk2];by_cases hi2:i<=n
     ·rw[if_pos hi2,e];have:=f3 i n hi2 (jul _);rw[f1]at this;exact this.trans' (jq4 hqn)
     ·rw[if_neg hi2];exact Bd.self (jbb h (n+1) r hr).1.2.1
theorem jq7 {g:Nat->Int}{n:Nat}(hb:∀i,i<=n->-B<=g i/\g i<=B)(hn:2 * B+1<=n):∃i j,i<j/\j<=n/\g i=g j:=by
 refine Classical.byContradiction fun hno=>?_;have hnd:((List.range (n+1)).map fun i=>g i+B).Nodup:=by
  rw[List.Nodup,List.pairwise_map];refine List.Pairwise.imp_of_mem (fun {a b} ha hb' hab e=>?_) List.pairwise_lt_range;have:=List.mem_range.mp hb';exact hno ⟨a,b,hab,by omega,by omega⟩
 have:=jep (2 * B+1).toNat hnd fun x hx=>by
  obtain⟨i,hi,rfl⟩:=List.mem_map.mp hx;have:=List.mem_range.mp hi;have:=hb i @0
  omega
 rw[jtQ,List.length_range]at this;have:=hb 0 (Nat.zero_le _);omega
theorem joX (h:Ini A t B z F0 L0 n0){n:Nat}(hn:2 * B+1<=n):(run A t F0 L0 n).1=[]:=by
 refine List.eq_nil_iff_forall_not_mem.mpr fun r hr=>?_;obtain⟨f,f1,f2,f3⟩:=jg2 h n r hr;obtain⟨i,j,hij,hj,e⟩:=jq7 (g:=fun i=>t - wt A (f i)) (fun i hi=>(jbb h i (f i) (f2 i hi)).2) hn;have bij:=f3 i j @0 hj
 obtain⟨⟨i1,i2,i3⟩,_⟩:=jbb h i (f i) (f2 i @0)
 obtain⟨⟨j1,j2,j3⟩,_⟩:=jbb h j (f j) (f2 j hj);obtain⟨d1,d2⟩:=bij.sb';have dl:(f i).length=(sb (f j) (f i)).length:=by rw[d1.len,bij.len]
 have hw:wt A (sb (f j) (f i))=0:=by
  have:=joW A dl;rw[d2]at this;have e:t - wt A (f i)=t - wt A (f j):=e;omega
 have hs:=jgY dl;rw[d2]at hs;have hd:Sol A 0 (sb (f j) (f i)):=⟨by rw[d1.len,j1],d1.sm,hw⟩
 obtain⟨m,mb,ml⟩:=jcR (A:=A) (t:=0) (z:=true) _ (jul _) hd (fun _=>by omega)
 have hmj:Bd m (f j):=mb.trans' d1;have hmem:m∈F0++(run A t F0 L0 j).2:=by
  cases z with
  |false=>exact jt3 _ (h.all rfl m ml)
  |true=>
   obtain⟨t0,_,hn0⟩:=h.t0 rfl;subst t0;rcases jeo h ml j with hf | ⟨hle,_⟩
   ·exact jtS _ hf
   ·have:=(jcp mb).2.1;omega
 obtain⟨k,rfl⟩:∃k,j=k+1:=⟨j - 1,by omega⟩
 rcases grOut_mem.mp (f2 (k+1) hj)with hr' | ⟨q,hq,p,hp,hs',e',ha⟩
 ·cases hr'
 ·exact jq6 ha hmem hmj
theorem jkm (h:Ini A t B z F0 L0 n0){n:Nat}(hn:(run A t F0 L0 n).1=[]){c:List Int}(hc:Sol A t c)(hz:z=true->c.sum≠0):∃m∈(run A t F0 L0 n).2,Bd m c:=by
 obtain⟨m,mb,ml⟩:=jcR _ (jul _) hc hz;rcases jeo h ml n with hf | ⟨_,r,hr,_⟩
 ·exact⟨m,hf,mb⟩
 ·rw[hn]at hr;cases hr
theorem jkn (h:Ini A t B z F0 L0 n0){n:Nat}(hn:(run A t F0 L0 n).1=[]){m:List Int}(ml:Least A t z m):m∈(run A t F0 L0 n).2:=by
 rcases jeo h ml n with hf | ⟨_,r,hr,_⟩
 ·exact hf
 ·rw[hn]at hr;cases hr
end
noncomputable def tri:Nat->Nat->Nat
 |0,_=>1
 |k+1,s=>((List.range (s+1)).map fun i=>tri k (s - i)).sum
noncomputable def enm:Nat->Nat->List @9
 |0,_=>[[]]
 |k+1,s=>(List.range (s+1)).flatMap fun i=>(enm k (s - i)).map ((i:Int)::·)
theorem jko:∀(k s:Nat),(enm k s).length=tri k s
 |0,_=>rfl
 |k+1,s=>by
  rw[enm,tri,List.length_flatMap];congr 1;refine List.map_congr_left fun i _=>?_;rw[jtQ,jko k]
theorem jkp:∀{r:List Int}{s:Nat},(∀x∈r,0<=x)->r.sum<=s->r∈enm r.length s
 |[],s,_,_=>List.mem_singleton.mpr rfl
 |x::r,s,h,hs=>by
  have hx:=h x jtJ;have hr:∀y∈r,0<=y:=fun y hy=>h y (jtI _ hy);rw[List.sum_cons]at hs;have h0:0<=r.sum:=(jcp (Bd.self hr)).1;refine List.mem_flatMap.mpr ⟨x.toNat,List.mem_range.mpr @0,List.mem_map.mpr ⟨r,jkp hr @0,?_⟩⟩
  congr 1
  omega
theorem jg3 {k s:Nat}{L:List @9}(nd:L.Nodup)(h:∀r∈L,r.length=k/\(∀x∈r,0<=x)/\r.sum<=s):L.length<=tri k s:=by
 rw[<-jko];refine jmR nd fun r hr=>?_;obtain⟨h1,h2,h3⟩:=h r hr;rw[<-h1];exact jkp h2 h3
theorem joY:tri 1 61<4000/\tri 2 61<4000/\tri 3 25<4000/\tri 4 13<4000/\tri 5 9<4000:=by decide +kernel
theorem jmp:tri 1 62<1000000/\tri 2 62<1000000/\tri 3 26<1000000/\tri 4 14<1000000/\tri 5 10<1000000:=by decide +kernel
end Law
namespace Law
open PySem L2 DJ
variable {W n:Nat}
theorem jsF {C:List Int}{kn:Nat}{c:Int}(h:C[kn]?=some c):DJ.atI (C.map D.int) (kn:Int)=.ok (.int c):=js0 (by rw[jtN,h];rfl)
section
variable {G:Calls}{ρ ρ1 ρ2:Rho}{a b c e e' x y:E}{dx dy d:D}{v:Vl}{bb:Bool}{o:Op}{oc:Cm}
theorem jay (h:evE G U x ρ=.ok (.dat dx,ρ1))(h2:evE G U y ρ1=.ok (.dat dy,ρ2))(ho:opD o dx dy=.ok v):evE G U (.bin o x y) ρ=.ok (v,ρ2):=by simp only[evE,h,h2,R.bind_ok',jaR,ho]
theorem jrs (h:evE G U x ρ=.ok (.dat dx,ρ1))(h2:evE G U y ρ1=.ok (.dat dy,ρ2))(ho:jht dx dy=.ok d):evE G U (.idx x y) ρ=.ok (.dat d,ρ2):=by simp only[evE,h,h2,R.bind_ok',jaR,ho]
theorem joZ {xs:List D}(h:evE G U x ρ=.ok (.tmp (.l xs),ρ1))(h2:evE G U y ρ1=.ok (.dat dy,ρ2))(ho:jht (.lst xs) dy=.ok d):evE G U (.idx x y) ρ=.ok (.dat d,ρ2):=by simp only[evE,h,h2,R.bind_ok',jaR,jde,joK,ho]
theorem jmX (h:evE G U x ρ=.ok (.dat dx,ρ1))(h2:evE G U y ρ1=.ok (.dat dy,ρ2))(ho:cmD oc dx dy=.ok bb):evT G U (.cmp oc x y) ρ=.ok (bb,ρ2):=by simp only[evT,h,h2,R.bind_ok',jaR,ho]
theorem jtG (h:evE G U x ρ=.ok (.dat dx,ρ1))(h2:evE G U y ρ1=.ok (.dat dy,ρ2))(ho:cmD oc dx dy=.ok bb):evE G U (.cmp oc x y) ρ=.ok (.dat (.bl bb),ρ2):=by simp only[evE,h,h2,R.bind_ok',jaR,ho]
theorem jcH {i:Nat}(h:ρ[i]?=some (.dat d)):evE G U (.var i) ρ=.ok (.dat d,ρ):=by simp only[evE,h]
theorem jmq {s t:Ss}(h:evT G U c ρ=.ok (bb,ρ1)):evS G U W (.ife c s t) ρ=(if bb then evSs G U W s ρ1 else evSs G U W t ρ1):=by simp only[evS,h,R.bind_ok']
theorem jmr {b':Bool}(h:evT G U c ρ=.ok (true,ρ1))(h':evT G U a ρ1=.ok (b',ρ2)):evT G U (.and c a) ρ=.ok (b',ρ2):=by simp only[evT,h,R.bind_ok',if_true,h']
theorem jmY (h:evT G U c ρ=.ok (false,ρ1)):evT G U (.and c a) ρ=.ok (false,ρ1):=by simp only[evT,h,R.bind_ok',jur,if_false]
end
theorem jkq {xs:List Int}{i:Int}(h0:0<=i)(h1:i<xs.length):∃m,m∈xs/\DJ.atI (xs.map D.int) i=.ok (.int m):=by
 obtain⟨k,rfl⟩:∃k:Nat,i=k:=⟨i.toNat,by omega⟩
 have hk:k<xs.length:=by omega
 exact⟨xs[k],List.getElem_mem hk,js0 (by rw[jtN,jtH hk];rfl)⟩
theorem jsG {G:Calls}{ρ ρ1 ρ2:Rho}{x y:E}{b:Bool}(h:evE G U x ρ=.ok (.dat (.bl true),ρ1))(h':evE G U y ρ1=.ok (.dat (.bl b),ρ2)):evE G U (.and x y) ρ=.ok (.dat (.bl b),ρ2):=by
 simp only[evE,h,R.bind_ok',jgR,if_true,h']
section
variable {G:Calls}
theorem jb4 {tg:List Nat}{one:Bool}{b:Ss}{x:D}{xs:List D}{ρ ρ1 ρ2:Rho}(hp:putT tg one x ρ=.ok ρ1)(h:evSs G U W b ρ1=.ok (.nx ρ2)):ja6 (fun x r=>(putT tg one x r).bind fun r'=>evSs G U W b r') (x::xs) ρ=ja6 (fun x r=>(putT tg one x r).bind fun r'=>evSs G U W b r') xs ρ2:=by
 rw[ja6,hp,R.bind_ok',h,R.bind_ok']
theorem jmZ {tg:List Nat}{one:Bool}{b:Ss}{x:D}{xs:List D}{ρ ρ1 ρ2:Rho}{v:Vl}(hp:putT tg one x ρ=.ok ρ1)(h:evSs G U W b ρ1=.ok (.rt v ρ2)):ja6 (fun x r=>(putT tg one x r).bind fun r'=>evSs G U W b r') (x::xs) ρ=.ok (.rt v ρ2):=by
 rw[ja6,hp,R.bind_ok',h,R.bind_ok']
end
theorem jfm:∀(k:List Int),jhs (k.map D.int)=some (k.map Sum.inl)
 |[]=>rfl
 |x::k=>by simp only[jtO,jhs,keyOf,jfm k]
theorem jbA (k:List Int):keyD (tu k)=some (k.map Sum.inl):=jfm k
theorem jkr {a b:List Int}(h:a.map (Sum.inl (β:=PySem.Str))=b.map Sum.inl):a=b:=by
 induction a generalizing b with
 |nil=>cases b with
  |nil=>rfl
  |cons _ _=>cases h
 |cons x a ih=>cases b with
  |nil=>cases h
  |cons y b=>
   rw[jtO,jtO]at h;injection h with h1 h2
   cases h1;rw[ih h2]
theorem jge (rows:List @9)(x:List Int):jpf (rows.map tu) (x.map Sum.inl)=decide (x∈rows):=by
 unfold jpf;rw[List.any_map];cases h:rows.any (isK (x.map Sum.inl) ∘ tu)with
 |true=>
  obtain⟨y,hy,e⟩:=List.any_eq_true.mp h;have e:decide (keyD (tu y)=some (x.map Sum.inl))=true:=e;rw[jbA]at e;cases jkr (Option.some.inj (of_decide_eq_true e));exact(decide_eq_true hy).symm
 |false=>
  refine(decide_eq_false fun hx=>?_).symm;have:rows.any (isK (x.map Sum.inl) ∘ tu)=true:=List.any_eq_true.mpr ⟨x,hx,by show decide (keyD (tu x)=_)=true;rw[jbA];exact decide_eq_true rfl⟩
  rw[h]at this;cases this
theorem jq8 {G:Calls}{elt:E}{as bs:List Int}{g:Int->Int->D}{i j:Nat}{ρ:Rho}(hi:ρ[i]?=some (.dat (tu as)))(hj:ρ[j]?=some (.dat (tu bs)))(he:∀p∈as.zip bs,(evE G U elt [.dat (.int p.1),.dat (.int p.2)])=.ok (.dat (g p.1 p.2),[.dat (.int p.1),.dat (.int p.2)])) :
  evE G U (.comp elt [0,1] false 2 [] (.zip (.var i) (.var j)) .none true) ρ=.ok (.tmp (.l ((as.zip bs).map fun p=>g p.1 p.2)),ρ):=by
 simp only[evE,evI,hi,hj,R.bind_ok',jan,jki,jat,jcP,jt5];rw[ja5 (g:=fun p:Int×Int=>g p.1 p.2)]
 ·rw[ja2];rfl
 ·intro p hp;have:=he p hp;simp only[putT,jdt,jce,List.map_nil,jt5,List.replicate,jtR,jt2,List.zip_cons_cons,List.zip_nil_right,List.foldl_cons,List.foldl_nil,List.set_cons_zero,List.set_cons_succ,if_true,R.bind_ok',this,toD,jaB]
theorem jks {G:Calls}{ρ ρ1:Rho}{x:E}{d:D}(h:evE G U x ρ=.ok (.dat d,ρ1)):evE G U (.tup (.cons x .nil)) ρ=.ok (.dat (.tup [d]),ρ1):=by
 rw[evE,evEs,h];rfl
theorem jtD (s a:Int)(hs:-1000<=s/\s<=1000):CD W (n+1) 1 [.dat (tu [s]),.dat (tu [a])]=.ok (.dat (.int (s * a)),[.no,.no]):=by
 rw[CD,jai (d:=⟨2,2,jcl⟩) rfl rfl];have hc:evE (jaa U W P n) U jcv [.dat (tu [s]),.dat (tu [a])]=_:=jdo (g:=fun a b=>.int (a * b)) fun p hp=>by
  have:p=(s,a):=by simpa using hp
  subst this;exact jay (jcH (i:=0) rfl) (jcH (i:=1) rfl) (by rw[jcj,if_pos (.inl @0)])
 show (evSs (jaa U W P n) U W jcl [.dat (tu [s]),.dat (tu [a])]).bind (jcZ 2)=_;simp only[jcl];have e:evE (jaa U W P n) U (.blt .sum jcv) [.dat (tu [s]),.dat (tu [a])]=.ok (.dat (.int (s * a)),[.dat (tu [s]),.dat (tu [a])]):=by
  rw[jsj (ns:=[s * a]) hc rfl];simp
 rw[jcD (jhE e)];rfl
theorem jie (s a:Int):CD W (n+1) 3 [.dat (tu [s]),.dat (tu [a])]=.ok (.dat (tu [s - a]),[.no,.no]):=by
 rw[CD,jai (d:=⟨2,2,jbM⟩) rfl rfl];have hc:evE (jaa U W P n) U jdi [.dat (tu [s]),.dat (tu [a])]=_:=jdo (g:=fun a b=>.int (a - b)) fun p hp=>rfl;show (evSs (jaa U W P n) U W jbM [.dat (tu [s]),.dat (tu [a])]).bind (jcZ 2)=_;simp only[jbM];rw[jcD (jhE (jeh hc))];rfl
theorem jms {α:Type}(xs:List α)(k:Nat)(h:k<=xs.length):cut xs (some (k:Int)) none=xs.drop k:=by
 show List.take (xs.length - (if (k:Int)<0 then ((k:Int)+xs.length).toNat else min (k:Int).toNat xs.length)) (List.drop (if (k:Int)<0 then ((k:Int)+xs.length).toNat else min (k:Int).toNat xs.length) xs)=_;rw[if_neg @0,Int.toNat_natCast,Nat.min_eq_left h]
 exact List.take_of_length_le (by rw[List.length_drop];exact jul _)
theorem jfn (a b:List Int)(h:a.length+b.length<=5000):opD .add (tu a) (tu b)=.ok (.dat (tu (a++b))):=by
 have f:jbc ((a.map D.int).length+(b.map D.int).length)=true:=jby (by rw[jtQ,jtQ];omega)
 rw[show tu (a++b)=.tup (a.map D.int++b.map D.int)by rw[tu,List.map_append]]
 show (if jbc ((a.map D.int).length+(b.map D.int).length)=true then R.ok (Vl.dat (.tup (a.map D.int++b.map D.int)))else .stk)=_;rw[if_pos f]
theorem jg4 (r:List Int)(j:Nat)(hj:j<r.length)(hl:r.length<=1000):CD W (n+1) 2 [.dat (tu r),.dat (.int j)]=.ok (.dat (tu (up r j)),[.no,.no]):=by
 rw[CD,jai (d:=⟨2,2,jcm⟩) rfl rfl];have i1:DJ.atI (r.map D.int) (j:Int)=.ok (.int r[j]):=jsF (jtH hj);have e1:evE (jaa U W P n) U (.slc (.var 0) .none (.some (.var 1))) [.dat (tu r),.dat (.int j)]=.ok (.dat (tu (r.take j)),[.dat (tu r),.dat (.int j)]):=by
  simp_arith[tu,jfP,jek,jgT]
 have e2:evE (jaa U W P n) U (.tup (.cons (.bin .add (.idx (.var 0) (.var 1)) (.lit (.int 1))) .nil)) [.dat (tu r),.dat (.int j)]=.ok (.dat (tu [r[j]+1]),[.dat (tu r),.dat (.int j)]):=by
  have:=jay (G:=jaa U W P n) (o:=.add) (y:=.lit (.int 1)) (jrs (jcH (ρ:=[.dat (tu r),.dat (.int j)]) (i:=0) rfl) (jcH (i:=1) rfl) i1) (dy:=.int 1) rfl rfl;exact jks this
 have e3:evE (jaa U W P n) U (.slc (.var 0) (.some (.bin .add (.var 1) (.lit (.int 1)))) .none) [.dat (tu r),.dat (.int j)]=.ok (.dat (tu (r.drop (j+1))),[.dat (tu r),.dat (.int j)]):=by
  simp_arith[tu,jfP,jek]
  rw[show (j:Int)+1=((j+1:Nat):Int)by omega,jms r (j+1) hj]
 have o1:=jfn (r.take j) [r[j]+1] (by simp;omega)
 have o2:=jfn (r.take j++[r[j]+1]) (r.drop (j+1)) (by simp;omega)
 have he:r.take j++[r[j]+1]++r.drop (j+1)=up r j:=by
  unfold up;rw[jtP,jtH hj,List.set_eq_take_append_cons_drop,if_pos hj];simp
 rw[he]at o2;show (evSs (jaa U W P n) U W jcm [.dat (tu r),.dat (.int j)]).bind (jcZ 2)=_;unfold jcm;rw[jcD (jhE (jay (jay e1 e2 o1) e3 o2))];rfl
theorem jdR {x:List Int}{d:D}:∀(F:List @9) (x2:Sl),∃y2,ja6 (fun x r=>(putT [2] true x r).bind fun r'=>evSs (jaa U W P (n+1)) U W jbf r') (F.map tu) [.dat (tu x),.dat d,x2]=(if abv x F then .ok (.rt (.dat (.bl true)) [.dat (tu x),.dat d,y2])else .ok (.nx [.dat (tu x),.dat d,y2]))
 |[],x2=>⟨x2,rfl⟩
 |f::F,x2=>by
  have t1:=jeg (G:=jaa U W P (n+1)) (U:=U) (k:=0) (es:=.cons (.var 2) (.cons (.var 0) .nil)) (ρ:=[.dat (tu x),.dat d,.dat (tu f)]) [tu f,tu x] rfl (jmn (W:=W) (n:=n) f x);cases hle:le f x with
  |true=>
   rw[hle]at t1;refine⟨.dat (tu f),?_⟩;rw[show abv x (f::F)=true by unfold abv;rw[List.any_cons,hle];rfl,if_pos rfl,jtO]
   refine jmZ (ρ1:=[.dat (tu x),.dat d,.dat (tu f)]) rfl ?_;unfold jbf;rw[jcD (v:=.dat (.bl true)) (ρ':=[.dat (tu x),.dat d,.dat (tu f)]) (by rw[jmq t1,if_pos rfl];rfl)]
  |false=>
   rw[hle]at t1;obtain⟨y2,e⟩:=jdR F (.dat (tu f));refine⟨y2,?_⟩;rw[show abv x (f::F)=abv x F by unfold abv;rw[List.any_cons,hle];rfl,jtO,jb4 (ρ1:=[.dat (tu x),.dat d,.dat (tu f)]) (ρ2:=[.dat (tu x),.dat d,.dat (tu f)]) rfl (by
    unfold jbf;rw[jae (jjX t1),evSs])]
   exact e
theorem jo0 (x:List Int)(F:List @9):CD W (n+2) 4 [.dat (tu x),.dat (.lst (F.map tu))]=.ok (.dat (.bl (abv x F)),[.no,.no]):=by
 rw[CD,jai (d:=⟨2,3,jbp⟩) rfl rfl];obtain⟨y2,e⟩:=jdR (W:=W) (n:=n) (x:=x) (d:=.lst (F.map tu)) F .no;show (evSs (jaa U W P (n+1)) U W jbp [.dat (tu x),.dat (.lst (F.map tu)),.no]).bind (jcZ 2)=_;unfold jbp;have hi:evI (jaa U W P (n+1)) U (.seq (.var 1)) [.dat (tu x),.dat (.lst (F.map tu)),.no]=.ok (F.map tu,[],[.dat (tu x),.dat (.lst (F.map tu)),.no]):=rfl;cases ha:abv x F with
 |true=>
  rw[ha,if_pos rfl]at e;rw[jcD (v:=.dat (.bl true)) (ρ':=[.dat (tu x),.dat (.lst (F.map tu)),y2]) (by rw[evS,hi,R.bind_ok',e];rfl)]
  rfl
 |false=>
  rw[ha,if_neg (by decide)]at e
  rw[jae (ρ':=[.dat (tu x),.dat (.lst (F.map tu)),y2]) (by rw[evS,hi,R.bind_ok',e];rfl)]
  rfl
end Law
namespace Law
open PySem L2 DJ
variable {W n:Nat}
noncomputable def lk (A:List Int)(t:Int)(r:List Int):D:=tu [t - wt A r]
noncomputable def lvD (A:List Int)(t:Int)(L:List @9):D:=.dct (L.map tu) (L.map (lk A t))
noncomputable def cD (A:List Int):D:=.lst (A.map fun a=>tu [a])
noncomputable abbrev gS (A:List Int)(t:Int)(L F acc:List @9)(x4 x5 x6 x7 x8:Sl):Rho:=[.dat (lvD A t L),.dat (cD A),.dat (.lst (F.map tu)),.own (.d (acc.map tu) (acc.map (lk A t))) false false,x4,x5,x6,x7,x8]
structure Ac (A:List Int)(s:Nat)(acc:List (List Int)):Prop where
 nd:acc.Nodup
 row:∀r∈acc,r.length=A.length/\(∀x∈r,0<=x)/\r.sum<=s
theorem Ac.few {A:List Int}{s:Nat}{acc:List @9}(h:Ac A s acc)(hs:tri A.length s<1000000):acc.length<1000000:=Nat.lt_of_le_of_lt (jg3 h.nd h.row) hs
section
variable {A:List Int}{t:Int}{L F:List (List Int)}{s:Nat}{r:List Int}
theorem jq9 {acc:List @9}{j:Nat}{x8:Sl}(hA:A.length<=1000)(hr:r.length=A.length)(hb:-1000<=t - wt A r/\t - wt A r<=1000)(hj:j<A.length)(hl:acc.length<1000000) :
  ∃y8,evSs (jaa U W P (n+2)) U W jcn (gS A t L F acc (.dat (tu r)) (.dat (lk A t r)) (.dat (.int j)) @8 x8) =
   .ok (.nx (gS A t L F (if 0<(t - wt A r) * A.getD j 0/\up r j ∉ acc/\abv (up r j) F=false then acc++[up r j] else acc) (.dat (tu r)) (.dat (lk A t r)) (.dat (.int j)) @8 y8)):=by
 have e1:=jaF (G:=jaa U W P (n+2)) (U:=U) (k:=1) (es:=.cons (.var 5) (.cons (.var 7) .nil)) (ρ:=gS A t L F acc (.dat (tu r)) (.dat (lk A t r)) (.dat (.int j)) @8 x8) [lk A t r,tu [A.getD j 0]] rfl (jtD (W:=W) (n:=n+1) (t - wt A r) (A.getD j 0) hb);have t1:=jmX (oc:=.gt) (y:=.lit (.int 0)) e1 rfl jei;unfold jcn;by_cases h1:0<(t - wt A r) * A.getD j 0
 ·rw[decide_eq_true h1]at t1;have e2:=jaF (G:=jaa U W P (n+2)) (U:=U) (k:=2) (es:=.cons (.var 4) (.cons (.var 6) .nil)) (ρ:=gS A t L F acc (.dat (tu r)) (.dat (lk A t r)) (.dat (.int j)) @8 x8) [tu r,.int j] rfl (jg4 (W:=W) (n:=n+1) r j @0 @0)
  have t2:evT (jaa U W P (n+2)) U (.cmp .notin (.var 8) (.var 3)) (gS A t L F acc (.dat (tu r)) (.dat (lk A t r)) (.dat (.int j)) @8 (.dat (tu (up r j))))=.ok (!decide (up r j∈acc),gS A t L F acc (.dat (tu r)) (.dat (lk A t r)) (.dat (.int j)) @8 (.dat (tu (up r j)))):=by
   simp_arith[cmD,O.toD,inD,jbA,inK,jge]
  have t3:=joI (jeg (G:=jaa U W P (n+2)) (U:=U) (k:=4) (es:=.cons (.var 8) (.cons (.var 2) .nil)) (ρ:=gS A t L F acc (.dat (tu r)) (.dat (lk A t r)) (.dat (.int j)) @8 (.dat (tu (up r j)))) [tu (up r j),.lst (F.map tu)] rfl (jo0 (W:=W) (n:=n) (up r j) F));by_cases h2:up r j∈acc
  ·rw[decide_eq_true h2]at t2;refine⟨.dat (tu (up r j)),?_⟩;rw[if_neg (fun z=>z.2.1 h2)];rw[jae (ρ':=gS A t L F acc (.dat (tu r)) (.dat (lk A t r)) (.dat (.int j)) @8 (.dat (tu (up r j)))) (by
    rw[jmq t1,if_pos rfl,jae (ρ':=gS A t L F acc (.dat (tu r)) (.dat (lk A t r)) (.dat (.int j)) @8 (.dat (tu (up r j)))) (by rw[jci e2 @11];rfl),jae (jjX (jmY t2)),evSs]),evSs]
  ·rw[decide_eq_false h2]at t2;have t4:=jmr t2 t3;cases h3:abv (up r j) F with
   |true=>
    rw[h3]at t4;refine⟨.dat (tu (up r j)),?_⟩;rw[if_neg (fun z=>by cases z.2.2)]
    rw[jae (ρ':=gS A t L F acc (.dat (tu r)) (.dat (lk A t r)) (.dat (.int j)) @8 (.dat (tu (up r j)))) (by
     rw[jmq t1,if_pos rfl,jae (ρ':=gS A t L F acc (.dat (tu r)) (.dat (lk A t r)) (.dat (.int j)) @8 (.dat (tu (up r j)))) (by rw[jci e2 @11];rfl),jae (jjX t4),evSs]),evSs]
   |false=>
    rw[h3]at t4;refine⟨.dat (tu (up r j)),?_⟩;rw[if_pos ⟨h1,h2,rfl⟩];have e3:=jaF (G:=jaa U W P (n+2)) (U:=U) (k:=3) (es:=.cons (.var 5) (.cons (.var 7) .nil)) (ρ:=gS A t L F acc (.dat (tu r)) (.dat (lk A t r)) (.dat (.int j)) @8 (.dat (tu (up r j)))) [lk A t r,tu [A.getD j 0]] rfl (jie (W:=W) (n:=n+1) (t - wt A r) (A.getD j 0));have ek:evE (jaa U W P (n+2)) U (.var 8) (gS A t L F acc (.dat (tu r)) (.dat (lk A t r)) (.dat (.int j)) @8 (.dat (tu (up r j))))=.ok (.dat (tu (up r j)),gS A t L F acc (.dat (tu r)) (.dat (lk A t r)) (.dat (.int j)) @8 (.dat (tu (up r j)))):=rfl;have hw:tu [t - wt A r - A.getD j 0]=lk A t (up r j):=by
     unfold lk;rw[jid hr.symm @0,show t - (wt A r+A.getD j 0)=t - wt A r - A.getD j 0 by omega]
    rw[hw]at e3;have f1:jbc ((acc.map tu).length+1)=true:=jby (by rw[jtQ];omega)
    rw[jae (ρ':=gS A t L F (acc++[up r j]) (.dat (tu r)) (.dat (lk A t r)) (.dat (.int j)) @8 (.dat (tu (up r j)))) (by
     rw[jmq t1,if_pos rfl,jae (ρ':=gS A t L F acc (.dat (tu r)) (.dat (lk A t r)) (.dat (.int j)) @8 (.dat (tu (up r j)))) (by rw[jci e2 @11];rfl)]
     rw[jae (ρ':=gS A t L F (acc++[up r j]) (.dat (tu r)) (.dat (lk A t r)) (.dat (.int j)) @8 (.dat (tu (up r j)))) (by
      rw[jmq t4,if_pos (show (!false)=true from rfl),jae (ρ':=gS A t L F (acc++[up r j]) (.dat (tu r)) (.dat (lk A t r)) (.dat (.int j)) @8 (.dat (tu (up r j)))) (by
       rw[evS];simp only[e3,ek,jt0,jt1,R.bind_ok',toD,jbA,jnD,jge,decide_eq_false h2];rw[if_pos f1];simp only[gS,List.map_append,jtO,List.map_nil];rfl),evSs]),evSs]),evSs]
 ·rw[decide_eq_false h1]at t1;refine⟨x8,?_⟩;rw[if_neg (fun z=>h1 z.1),jae (jjX t1),evSs]
theorem jra {acc:List @9}{j:Nat}(h:Ac A s acc)(hr:r.length=A.length)(hn:∀x∈r,0<=x)(hs:r.sum+1<=s)(hj:j<A.length):Ac A s (if 0<(t - wt A r) * A.getD j 0/\up r j ∉ acc/\abv (up r j) F=false then acc++[up r j] else acc):=by
 split
 ·rename_i hc;refine⟨?_,fun x hx=>?_⟩
  ·rw[List.nodup_append];exact⟨h.nd,by simp,fun x hx y hy=>by rw[List.mem_singleton.mp hy];intro e;subst e;exact hc.2.1 hx⟩
  ·rcases List.mem_append.mp hx with hx | hx
   ·exact h.row x hx
   ·rw[List.mem_singleton.mp hx];exact⟨by rw[jdP,hr],jmo hn,by rw[jdQ @0];exact hs⟩
 ·exact h
theorem js3 (hA:A.length<=1000)(hT:tri A.length s<1000000)(hr:r.length=A.length)(hn:∀x∈r,0<=x)(hs:r.sum+1<=s)(hb:-1000<=t - wt A r/\t - wt A r<=1000):∀(js:List Nat) (acc:List @9) (x6 x7 x8:Sl),(∀j∈js,j<A.length)->Ac A s acc ->
  Ac A s (jkk A F (t - wt A r) r js acc)/\∃y6 y7 y8,ja6 (fun x r=>(putT [6,7] false x r).bind fun r'=>evSs (jaa U W P (n+2)) U W jcn r') (js.map fun (j:Nat)=>D.tup [.int (j:Int),tu [A.getD j 0]]) (gS A t L F acc (.dat (tu r)) (.dat (lk A t r)) x6 x7 x8)=.ok (.nx (gS A t L F (jkk A F (t - wt A r) r js acc) (.dat (tu r)) (.dat (lk A t r)) y6 y7 y8))
 |[],acc,x6,x7,x8,_,h=>⟨h,x6,x7,x8,rfl⟩
 |j::js,acc,x6,x7,x8,hj,h=>by
  obtain⟨y8,e⟩:=jq9 (W:=W) (n:=n) (L:=L) (F:=F) (x8:=x8) hA hr hb (hj j jtJ) (h.few hT);obtain⟨h2,z6,z7,z8,e2⟩:=js3 hA hT hr hn hs hb js _ (.dat (.int j)) @8 y8 (fun i hi=>hj i (jtI _ hi)) (jra (t:=t) (F:=F) h hr hn hs (hj j jtJ));refine⟨h2,z6,z7,z8,?_⟩;rw[jtO,jb4 (ρ1:=gS A t L F acc (.dat (tu r)) (.dat (lk A t r)) (.dat (.int j)) @8 x8) rfl e];exact e2
theorem jeq:∀{L:List @9}{r:List Int},r∈L->jmF (r.map Sum.inl) (L.map tu) (L.map (lk A t))=some (lk A t r)
 |u::L,r,h=>by
  rw[jtO,jtO,jmF];have e:isK (r.map Sum.inl) (tu u)=decide (u=r):=by
   show decide (keyD (tu u)=some (r.map Sum.inl))=_;rw[jbA];by_cases h:u=r
   ·subst h;simp
   ·rw[decide_eq_false h,decide_eq_false fun z=>h (jkr (Option.some.inj z))]
  rw[e];by_cases h2:u=r
  ·rw[decide_eq_true h2,if_pos rfl,h2]
  ·rw[decide_eq_false h2,if_neg (by decide)]
   exact jeq ((List.mem_cons.mp h).resolve_left fun z=>h2 z.symm)
theorem jds:∀(A:List Int) (k:Nat),jdx (k:Int) (A.map fun a=>tu [a])=(List.range A.length).map fun j=>D.tup [.int ((k+j:Nat):Int),tu [A.getD j 0]]
 |[],k=>rfl
 |a::A,k=>by
  rw[jtO,jdx,show (k:Int)+1=((k+1:Nat):Int)by omega,jds A (k+1),jtR,List.range_succ_eq_map,jtO,List.map_map]
  congr 1
  refine List.map_congr_left fun j _=>?_;show D.tup [.int ((k+1+j:Nat):Int),tu [A.getD j 0]]=D.tup [.int ((k+(j+1):Nat):Int),tu [(a::A).getD (j+1) 0]];rw[show k+1+j=k+(j+1)by omega]
  rfl
theorem jrb (hA:A.length<=1000)(hT:tri A.length s<1000000):∀(rs acc:List @9) (x4 x5 x6 x7 x8:Sl),(∀r∈rs,r∈L)->(∀r∈rs,(r.length=A.length/\(∀x∈r,0<=x)/\r.sum+1<=s)/\-1000<=t - wt A r/\t - wt A r<=1000)->Ac A s acc ->
  ∃y4 y5 y6 y7 y8,ja6 (fun x r=>(putT [4] true x r).bind fun r'=>evSs (jaa U W P (n+2)) U W jco r') (rs.map tu) (gS A t L F acc x4 x5 x6 x7 x8)=.ok (.nx (gS A t L F (jbe A t F rs acc) y4 y5 y6 y7 y8))
 |[],acc,x4,x5,x6,x7,x8,_,_,_=>⟨x4,x5,x6,x7,x8,rfl⟩
 |r::rs,acc,x4,x5,x6,x7,x8,hm,hr,h=>by
  obtain⟨⟨h1,h2,h3⟩,h4⟩:=hr r jtJ;obtain⟨g1,z6,z7,z8,e⟩:=js3 (W:=W) (n:=n) (L:=L) (F:=F) hA hT h1 h2 h3 h4 (List.range A.length) acc x6 x7 x8 (fun j hj=>List.mem_range.mp hj) h;obtain⟨y4,y5,y6,y7,y8,e2⟩:=jrb hA hT rs _ (.dat (tu r)) (.dat (lk A t r)) z6 z7 z8 (fun q hq=>hm q (jtI _ hq)) (fun q hq=>hr q (jtI _ hq)) g1;refine⟨y4,y5,y6,y7,y8,?_⟩;have ei:evE (jaa U W P (n+2)) U (.idx (.var 0) (.var 4)) (gS A t L F acc (.dat (tu r)) x5 x6 x7 x8)=.ok (.dat (lk A t r),gS A t L F acc (.dat (tu r)) x5 x6 x7 x8):=by
   refine jrs (jcH (i:=0) rfl) (jcH (i:=4) rfl) ?_;show jpg (L.map tu) (L.map (lk A t)) (keyD (tu r))=_;rw[jbA];show (match jmF (r.map Sum.inl) (L.map tu) (L.map (lk A t))with | some v=>R.ok v | none=>.stk)=_
   rw[jeq (hm r jtJ)]
  have es:evSs (jaa U W P (n+2)) U W jco (gS A t L F acc (.dat (tu r)) x5 x6 x7 x8)=.ok (.nx (gS A t L F (jkk A F (t - wt A r) r (List.range A.length) acc) (.dat (tu r)) (.dat (lk A t r)) z6 z7 z8)):=by
   unfold jco;rw[jae (ρ':=gS A t L F acc (.dat (tu r)) (.dat (lk A t r)) x6 x7 x8) (by rw[jci ei @11];rfl)]
   have hi:evI (jaa U W P (n+2)) U (.enum (.var 1)) (gS A t L F acc (.dat (tu r)) (.dat (lk A t r)) x6 x7 x8)=.ok ((List.range A.length).map (fun (j:Nat)=>D.tup [.int (j:Int),tu [A.getD j 0]]),[],gS A t L F acc (.dat (tu r)) (.dat (lk A t r)) x6 x7 x8):=by
    have:=jds A 0;simp only[Nat.zero_add]at this;rw[<-this];rfl
   rw[jae (ρ':=gS A t L F (jkk A F (t - wt A r) r (List.range A.length) acc) (.dat (tu r)) (.dat (lk A t r)) z6 z7 z8) (by
    rw[evS,hi,R.bind_ok',e];rfl),evSs]
  rw[jtO,jb4 (ρ1:=gS A t L F acc (.dat (tu r)) x5 x6 x7 x8) rfl es];exact e2
end
theorem jo1 {A:List Int}{t:Int}{L F:List @9}{s:Nat}(hA:A.length<=1000)(hT:tri A.length s<1000000)(hr:∀r∈L,(r.length=A.length/\(∀x∈r,0<=x)/\r.sum+1<=s)/\-1000<=t - wt A r/\t - wt A r<=1000) :
  CD W (n+3) 5 [.dat (lvD A t L),.dat (cD A),.dat (.lst (F.map tu))]=.ok (.tmp (.d ((jbe A t F L []).map tu) ((jbe A t F L []).map (lk A t))),[.no,.no,.no]):=by
 rw[CD,jai (d:=⟨3,9,jdj⟩) rfl rfl];obtain⟨y4,y5,y6,y7,y8,e⟩:=jrb (W:=W) (n:=n) (A:=A) (t:=t) (L:=L) (F:=F) hA hT L [] .no .no .no .no .no (fun r h=>h) hr ⟨List.nodup_nil,fun r h=>by cases h⟩
 show (evSs (jaa U W P (n+2)) U W jdj [.dat (lvD A t L),.dat (cD A),.dat (.lst (F.map tu)),.no,.no,.no,.no,.no,.no]).bind (jcZ 3)=_;unfold jdj;rw[jae (ρ':=gS A t L F [] .no .no .no .no .no) rfl];rw[jae (ρ':=gS A t L F (jbe A t F L []) y4 y5 y6 y7 y8) (by
  rw[evS,show evI (jaa U W P (n+2)) U (.seq (.var 0)) (gS A t L F [] .no .no .no .no .no)=.ok (L.map tu,[],gS A t L F [] .no .no .no .no .no)from rfl,R.bind_ok',e];rfl)]
 rw[jcD (v:=.tmp (.d ((jbe A t F L []).map tu) ((jbe A t F L []).map (lk A t)))) (ρ':=[.dat (lvD A t L),.dat (cD A),.dat (.lst (F.map tu)),.no,y4,y5,y6,y7,y8]) (by simp_arith[])]
 rfl
end Law
namespace Law
open PySem L2 DJ
variable {W n:Nat}
theorem jg5 {c:Rho->R (Bool×Rho)}{f:Rho->R Fl}(I:Nat->Rho->Prop)(Q:Rho->Prop)(h:∀k ρ,I k ρ->(c ρ=.ok (false,ρ)/\Q ρ)\/(c ρ=.ok (true,ρ)/\∃ρ' k',k'<k/\f ρ=.ok (.nx ρ')/\I k' ρ')):∀{m k:Nat}{ρ:Rho},k<m->I k ρ->∃ρ',jbZ c f m ρ=.ok (.nx ρ')/\Q ρ':=by
 intro m;induction m with
 |zero=>intro k ρ hk;omega
 |succ m ih=>
  intro k ρ hk hI;rcases h k ρ hI with ⟨h1,h2⟩ | ⟨h1,ρ',k',h3,h4,h5⟩
  ·exact⟨ρ,by rw[jbZ,h1];rfl,h2⟩
  ·obtain⟨ρ2,e,q⟩:=ih (show k'<m by omega) h5
   refine⟨ρ2,?_,q⟩;rw[jbZ,h1];show R.bind (f ρ) _=_;rw[h4];exact e
noncomputable abbrev rS (A:List Int)(F0 fd:List @9)(X0:Sl):Rho:=[X0,.dat (cD A),.dat (.lst (F0.map tu)),.own (.l (fd.map tu)) false false]
noncomputable def IsL (A:List Int)(t:Int)(L:List @9)(X0:Sl):Prop:=X0=.dat (lvD A t L)\/X0=.own (.d (L.map tu) (L.map (lk A t))) false false
section
variable {A:List Int}{t:Int}{L F0 fd:List (List Int)}{X0:Sl}{G:Calls}
theorem jo2 (h:IsL A t L X0):evT G U (.cmp .gt (.blt .len (.var 0)) (.lit (.int 0))) (rS A F0 fd X0)=.ok (decide (0<(L.length:Int)),rS A F0 fd X0):=by
 have e:evE G U (.blt .len (.var 0)) (rS A F0 fd X0)=.ok (.dat (.int (L.length:Int)),rS A F0 fd X0):=by
  rcases h with rfl | rfl
  ·show R.ok (Vl.dat (.int ((L.map tu).length:Int)),_)=_;rw[jtQ]
  ·show R.ok (Vl.dat (.int ((L.map tu).length:Int)),_)=_;rw[jtQ]
 exact jmX e rfl jei
theorem jkt {r:List Int}{X:Sl}(hr:r∈L)(hX:X=.dat (lvD A t L)\/∃k,X=.own (.d (L.map tu) (L.map (lk A t))) false k):evT G U (.not (.blt .any (.idx (.var 1) (.var 0)))) [.dat (tu r),X]=.ok (decide (wt A r=t),[.dat (tu r),X]):=by
 have hg:jht (lvD A t L) (tu r)=.ok (lk A t r):=by
  show jpg (L.map tu) (L.map (lk A t)) (keyD (tu r))=_;rw[jbA];show (match jmF (r.map Sum.inl) (L.map tu) (L.map (lk A t))with | some v=>R.ok v | none=>.stk)=_
  rw[jeq hr]
 have ei:evE G U (.idx (.var 1) (.var 0)) [.dat (tu r),X]=.ok (.dat (lk A t r),[.dat (tu r),X]):=by
  rcases hX with rfl | ⟨k,rfl⟩
  ·exact jrs (jcH (i:=1) rfl) (jcH (i:=0) rfl) hg
  ·show R.bind (jht (lvD A t L) (tu r)) _=_;rw[hg];rfl
 have ea:evT G U (.blt .any (.idx (.var 1) (.var 0))) [.dat (tu r),X]=.ok (!decide (wt A r=t),[.dat (tu r),X]):=by
  rw[evT,ei];show R.ok ((t - wt A r != 0) || false,[.dat (tu r),X])=_;rw[Bool.or_false];congr 2;by_cases h:wt A r=t
  ·rw[decide_eq_true h,h,Int.sub_self];rfl
  ·rw[decide_eq_false h];show (t - wt A r != 0)=true;rw[bne_iff_ne];omega
 have:=joI ea;rwa [Bool.not_not]at this
theorem jo3 (h:IsL A t L X0):evE G U jbj (rS A F0 fd X0)=.ok (.tmp (.l ((L.filter fun r=>decide (wt A r=t)).map tu)),rS A F0 fd X0):=by
 unfold jbj;rcases h with rfl | rfl
 ·rw[evE,show evI G U (.seq (.var 0)) (rS A F0 fd (.dat (lvD A t L)))=.ok (L.map tu,[],rS A F0 fd (.dat (lvD A t L)))from rfl];simp only[R.bind_ok'];rw[jdp (h:=tu) (g:=tu) (p:=fun r=>decide (wt A r=t))]
  ·rw[ja2];rfl
  ·intro r hr;have ep:putT [0] true (tu r) (jdt 1 [0] (rS A F0 fd (.dat (lvD A t L))))=.ok [.dat (tu r),.dat (lvD A t L)]:=rfl;rw[ep,R.bind_ok',jkt hr (.inl rfl),R.bind_ok'];by_cases hd:wt A r=t
   ·rw[decide_eq_true hd];rfl
   ·rw[decide_eq_false hd];rfl
 ·rw[evE,show evI G U (.seq (.var 0)) (rS A F0 fd (.own (.d (L.map tu) (L.map (lk A t))) false false))=.ok (L.map tu,[0],rS A F0 fd (.own (.d (L.map tu) (L.map (lk A t))) false true))from rfl];simp only[R.bind_ok'];rw[jdp (h:=tu) (g:=tu) (p:=fun r=>decide (wt A r=t))]
  ·rw[ja2];rfl
  ·intro r hr;have ep:putT [0] true (tu r) (jdt 1 [0] (rS A F0 fd (.own (.d (L.map tu) (L.map (lk A t))) false true)))=.ok [.dat (tu r),.own (.d (L.map tu) (L.map (lk A t))) false true]:=rfl;rw[ep,R.bind_ok',jkt hr (.inr ⟨_,rfl⟩),R.bind_ok'];by_cases hd:wt A r=t
   ·rw[decide_eq_true hd];rfl
   ·rw[decide_eq_false hd];rfl
theorem jo4 {s:Nat}(h:IsL A t L X0)(hA:A.length<=1000)(hT:tri A.length s<1000000)(hr:∀r∈L,(r.length=A.length/\(∀x∈r,0<=x)/\r.sum+1<=s)/\-1000<=t - wt A r/\t - wt A r<=1000)(hl:F0.length+(fnd A t L fd).length<=1000000) :
  ∃X,IsL A t (jbe A t (F0++fnd A t L fd) L []) X/\evSs (jaa U W P (n+3)) U W jaK (rS A F0 fd X0)=.ok (.nx (rS A F0 (fnd A t L fd) X)):=by
 refine⟨.own (.d ((jbe A t (F0++fnd A t L fd) L []).map tu) ((jbe A t (F0++fnd A t L fd) L []).map (lk A t))) false false,.inr rfl,?_⟩;have ec:=jo3 (G:=jaa U W P (n+3)) (F0:=F0) (fd:=fd) h;have f1:jbc ((fd.map tu).length+((L.filter fun r=>decide (wt A r=t)).map tu).length)=true:=jby (by
  rw[jtQ,jtQ];unfold fnd at hl;rw[jtV]at hl;omega)
 unfold jaK;rw[jae (ρ':=rS A F0 (fnd A t L fd) X0) (by
  rw[evS];simp only[jt0,jt1,ec,R.bind_ok',jde,joK,jdg];rw[if_pos f1,<-List.map_append];rfl)]
 have cg:jaa U W P (n+3) 5 [.dat (lvD A t L),.dat (cD A),.dat (.lst ((F0++fnd A t L fd).map tu))]=.ok (.tmp (.d ((jbe A t (F0++fnd A t L fd) L []).map tu) ((jbe A t (F0++fnd A t L fd) L []).map (lk A t))),[.no,.no,.no]):=jo1 (W:=W) (n:=n) hA hT hr;have f2:jbc ((F0.map tu).length+((fnd A t L fd).map tu).length)=true:=jby (by rw[jtQ,jtQ];omega)
 have ea:evE (jaa U W P (n+3)) U (.bin .add (.var 2) (.var 3)) (rS A F0 (fnd A t L fd) X0)=.ok (.tmp (.l ((F0++fnd A t L fd).map tu)),rS A F0 (fnd A t L fd) X0):=by
  rw[evE,show evE (jaa U W P (n+3)) U (.var 2) (rS A F0 (fnd A t L fd) X0)=.ok (.dat (.lst (F0.map tu)),rS A F0 (fnd A t L fd) X0)from rfl,R.bind_ok',show evE (jaa U W P (n+3)) U (.var 3) (rS A F0 (fnd A t L fd) X0)=.ok (.slot 3,rS A F0 (fnd A t L fd) X0)from rfl,R.bind_ok'];show R.bind (opC (if jbc ((F0.map tu).length+((fnd A t L fd).map tu).length)=true then R.ok (Vl.tmp (.l (F0.map tu++(fnd A t L fd).map tu)))else .stk) .add) _=_;rw[if_pos f2,<-List.map_append];rfl
 have ev:∃ρ',evE (jaa U W P (n+3)) U (.call 5 [] (.cons (.var 0) (.cons (.var 1) (.cons (.bin .add (.var 2) (.var 3)) .nil)))) (rS A F0 (fnd A t L fd) X0)=.ok (.tmp (.d ((jbe A t (F0++fnd A t L fd) L []).map tu) ((jbe A t (F0++fnd A t L fd) L []).map (lk A t))),rS A F0 (fnd A t L fd) ρ'):=by
  rcases h with rfl | rfl
  ·refine⟨.dat (lvD A t L),?_⟩;have he:=as3 (show evE (jaa U W P (n+3)) U (.var 0) (rS A F0 (fnd A t L fd) (.dat (lvD A t L)))=.ok (.dat (lvD A t L),rS A F0 (fnd A t L fd) (.dat (lvD A t L)))from rfl) (show evE (jaa U W P (n+3)) U (.var 1) (rS A F0 (fnd A t L fd) (.dat (lvD A t L)))=.ok (.dat (cD A),rS A F0 (fnd A t L fd) (.dat (lvD A t L)))from rfl) ea;have hp:jak [] [.dat (lvD A t L),.dat (cD A),.tmp (.l ((F0++fnd A t L fd).map tu))] (rS A F0 (fnd A t L fd) (.dat (lvD A t L)))=.ok ([.dat (lvD A t L),.dat (cD A),.dat (.lst ((F0++fnd A t L fd).map tu))],[none,none,none],rS A F0 (fnd A t L fd) (.dat (lvD A t L))):=rfl;rw[evE,he,R.bind_ok',hp,R.bind_ok',cg];rfl
  ·refine⟨.dat (lvD A t L),?_⟩;have he:=as3 (show evE (jaa U W P (n+3)) U (.var 0) (rS A F0 (fnd A t L fd) (.own (.d (L.map tu) (L.map (lk A t))) false false))=.ok (.slot 0,rS A F0 (fnd A t L fd) (.own (.d (L.map tu) (L.map (lk A t))) false false))from rfl) (show evE (jaa U W P (n+3)) U (.var 1) (rS A F0 (fnd A t L fd) (.own (.d (L.map tu) (L.map (lk A t))) false false))=.ok (.dat (cD A),rS A F0 (fnd A t L fd) (.own (.d (L.map tu) (L.map (lk A t))) false false))from rfl) ea;have hp:jak [] [.slot 0,.dat (cD A),.tmp (.l ((F0++fnd A t L fd).map tu))] (rS A F0 (fnd A t L fd) (.own (.d (L.map tu) (L.map (lk A t))) false false))=.ok ([.dat (lvD A t L),.dat (cD A),.dat (.lst ((F0++fnd A t L fd).map tu))],[none,none,none],rS A F0 (fnd A t L fd) (.dat (lvD A t L))):=rfl;rw[evE,he,R.bind_ok',hp,R.bind_ok',cg];rfl
 obtain⟨Y,ev⟩:=ev;rw[jae (ρ':=rS A F0 (fnd A t L fd) (.own (.d ((jbe A t (F0++fnd A t L fd) L []).map tu) ((jbe A t (F0++fnd A t L fd) L []).map (lk A t))) false false)) (by rw[jjY ev @11];rfl),evSs]
end
end Law
namespace Law
open PySem L2 DJ
variable {W n:Nat}
structure Okb (l:Nat)(B:Int):Prop where
 b:0<=B/\B<=900
 k:1<=l/\l<=1000
 t:tri l (2 * B+2).toNat<1000000
 f:tri l (2 * B+1).toNat<4000
section
variable {A:List Int}{t B:Int}{z:Bool}{F0 L0:List (List Int)}{n0:Nat}
theorem jku (h:Ini A t B z F0 L0 n0)(o:Okb A.length B)(hn:n0<=1){m:Nat}(hm:(m:Int)<=2 * B+1):(run A t F0 L0 m).2.length<4000:=by
 refine Nat.lt_of_le_of_lt (jg3 (jg1 h m) fun r hr=>?_) o.f;obtain⟨h1,h2,h3⟩:=jdr h m r hr;have:=o.b;exact⟨h1.len,h1.nn,by omega⟩
theorem jkv (h:Ini A t B z F0 L0 n0)(o:Okb A.length B)(hn:n0<=1)(hF:F0.length<4000)(hW:2 * B+3<=W) :
  ∃N,(run A t F0 L0 N).1=[]/\(N:Int)<=2 * B+1/\CD W (n+4) 6 [.dat (lvD A t L0),.dat (cD A),.dat (.lst (F0.map tu))]=.ok (.tmp (.l ((jbn (run A t F0 L0 N).2).map tu)),[.no,.no,.no]):=by
 have hB:=o.b;rw[CD,jai (d:=⟨3,4,jaS⟩) rfl rfl];have wl:=jg5 (c:=fun r=>evT (jaa U W P (n+3)) U (.cmp .gt (.blt .len (.var 0)) (.lit (.int 0))) r) (f:=fun r=>evSs (jaa U W P (n+3)) U W jaK r)
  (fun k ρ=>∃(m:Nat) (X:Sl),(k:Int)=2 * B+1 - m/\IsL A t (run A t F0 L0 m).1 X/\ρ=rS A F0 (run A t F0 L0 m).2 X)
  (fun ρ=>∃(m:Nat) (X:Sl),(run A t F0 L0 m).1=[]/\(m:Int)<=2 * B+1/\IsL A t (run A t F0 L0 m).1 X/\ρ=rS A F0 (run A t F0 L0 m).2 X) (fun k ρ hk=>by
   obtain⟨m,X,h1,h2,rfl⟩:=hk;have tc:=jo2 (G:=jaa U W P (n+3)) (F0:=F0) (fd:=(run A t F0 L0 m).2) h2;by_cases hL:(run A t F0 L0 m).1=[]
   ·left
    rw[hL]at tc;exact⟨tc,m,X,hL,by omega,h2,rfl⟩
   ·right
    have hpos:0<(run A t F0 L0 m).1.length:=List.length_pos_iff.mpr hL;have hm:(m:Int)<2 * B+1:=by
     by_cases hc:2 * B+1<=(m:Int)
     ·exact absurd (joX h hc) hL
     ·omega
    rw[decide_eq_true @0]at tc
    have hf:(run A t F0 L0 (m+1)).2.length<4000:=jku h o hn @0
    obtain⟨X',h3,e⟩:=jo4 (W:=W) (n:=n) (s:=(2 * B+2).toNat) h2 o.k.2 o.t (fun r hr=>by
     obtain⟨⟨g1,g2,g3⟩,g4,g5⟩:=jbb h m r hr;exact⟨⟨g1,g2,by omega⟩,by omega,by omega⟩) (F0:=F0) (fd:=(run A t F0 L0 m).2) (by
     have:(fnd A t (run A t F0 L0 m).1 (run A t F0 L0 m).2).length<4000:=hf;omega)
    exact⟨tc,_,k - 1,by omega,e,m+1,X',by omega,h3,rfl⟩)
  (m:=W) (k:=(2 * B+1).toNat) (ρ:=rS A F0 [] (.dat (lvD A t L0))) @0 ⟨0,.dat (lvD A t L0),by omega,.inl rfl,rfl⟩
 obtain⟨ρ',e,N,X,h1,h2,hX,rfl⟩:=wl;refine⟨N,h1,h2,?_⟩;show (evSs (jaa U W P (n+3)) U W jaS [.dat (lvD A t L0),.dat (cD A),.dat (.lst (F0.map tu)),.no]).bind (jcZ 3)=_;unfold jaS;rw[jae (ρ':=rS A F0 [] (.dat (lvD A t L0))) rfl];rw[jae (ρ':=rS A F0 (run A t F0 L0 N).2 X) (by rw[evS];exact e)]
 have hs:jcX (run A t F0 L0 N).2=.ok (.tmp (.l ((jbn (run A t F0 L0 N).2).map tu))):=by
  unfold jcX;rw[if_pos]
  ·rfl
  ·rw[juq,List.all_eq_true];refine⟨fun k hk=>?_,decide_eq_true (jku h o hn h2)⟩;have h5:=(jdr h N k hk).1.len;have:=o.k.1;cases k with
   |nil=>simp at h5;omega
   |cons a b=>rfl
 have es:evE (jaa U W P (n+3)) U (.blt .sorted (.var 3)) (rS A F0 (run A t F0 L0 N).2 X)=.ok (.tmp (.l ((jbn (run A t F0 L0 N).2).map tu)),rS A F0 (run A t F0 L0 N).2 X):=by
  simp_arith[O.toD,bfD,jgV,hs]
 rw[evSs,evS,es];rcases hX with rfl | rfl
 ·rfl
 ·rfl
end
end Law
namespace Law
open PySem L2 DJ
variable {W n:Nat}
theorem jg6 {l:Nat}(hl:l<=1000):opD .mul (.tup [.int 0]) (.int (l:Int))=.ok (.dat (tu (zs l))):=by
 rw[jgS,if_pos ⟨by omega,by omega,jby (by rw[List.length_singleton];omega)⟩,Int.toNat_natCast,jq1]
 rfl
theorem jbN (l:Nat):(zs l).length=l:=List.length_replicate
theorem jo5 (l:Nat):∀x∈zs l,0<=x:=fun x hx=>by rw[(List.mem_replicate.mp hx).2];exact Int.le_refl _
theorem jg7:∀l:Nat,(zs l).sum=0
 |0=>rfl
 |l+1=>by
  show (0:Int)+(zs l).sum=0;rw[jg7 l];rfl
theorem jif:∀(A:List Int),wt A (zs A.length)=0
 |[]=>rfl
 |a::A=>by
  show wt (a::A) (0::zs A.length)=0;rw[jbk,jif A,Int.mul_zero];rfl
noncomputable def uns (k:Nat):List @9:=(List.range k).map (up (zs k))
theorem jrc {r:List Int}{i j:Nat}(hi:i<r.length):(up r j).getD i 0=if j=i then r.getD i 0+1 else r.getD i 0:=by
 unfold up;rw[jtP,jtM];split
 ·rename_i e;subst e;rw[if_pos hi];rfl
 ·rw[jtP]
theorem jrd (k i:Nat):(zs k).getD i 0=0:=by
 rw[jtP];cases e:(zs k)[i]? with
 |none=>rfl
 |some x=>exact(List.mem_replicate.mp (jtT e)).2
theorem jm0 (k:Nat):(uns k).Nodup:=by
 unfold uns;rw[List.Nodup,List.pairwise_map];refine List.Pairwise.imp_of_mem (fun {a b} ha hb hab e=>?_) List.nodup_range;have h1:a<(zs k).length:=by rw[jbN];exact List.mem_range.mp ha
 have:=congrArg (fun r=>r.getD a 0) e;simp only[jrc h1,jrd]at this;rw[if_pos trivial,if_neg (fun z=>hab z.symm)]at this;omega
theorem jre:∀{m:List Int},(∀x∈m,0<=x)->m.sum≠0->∃j,j<m.length/\Bd (up (zs m.length) j) m
 |[],_,h=>absurd rfl h
 |x::m,hn,h=>by
  have hx:=hn x jtJ;have hm:∀y∈m,0<=y:=fun y hy=>hn y (jtI _ hy);by_cases hx0:x=0
  ·rw[List.sum_cons,hx0]at h;obtain⟨j,h1,h2⟩:=jre hm @0
   refine⟨j+1,Nat.succ_lt_succ h1,?_⟩;show Bd (up (0::zs m.length) (j+1)) (x::m);rw[jq3];exact .cons ⟨Int.le_refl _,hx⟩ h2
  ·refine⟨0,Nat.zero_lt_succ _,?_⟩;show Bd (up (0::zs m.length) 0) (x::m);rw[jq2];refine .cons ⟨by omega,by omega⟩ ?_
   have hz:∀{m:List Int},(∀y∈m,0<=y)->Bd (zs m.length) m:=fun {m} hm=>by
    induction m with
    |nil=>exact .nil
    |cons y m ih=>exact .cons ⟨Int.le_refl _,hm y jtJ⟩ (ih fun q hq=>hm q (jtI _ hq))
   exact hz hm
theorem jm1:∀{m:List Int},(∀y∈m,0<=y)->Bd (zs m.length) m
 |[],_=>.nil
 |y::m,h=>.cons ⟨Int.le_refl _,h y jtJ⟩ (jm1 fun q hq=>h q (jtI _ hq))
theorem jfo {A:List Int}{B:Int}(hb:∀j,-B<=A.getD j 0/\A.getD j 0<=B):Ini A 0 B true [] (uns A.length) 1:=by
 have hw:∀r∈uns A.length,∃j,j<A.length/\r=up (zs A.length) j:=fun r hr=>by
  obtain⟨j,hj,rfl⟩:=List.mem_map.mp hr;exact⟨j,List.mem_range.mp hj,rfl⟩
 refine⟨fun _=>⟨rfl,rfl,rfl⟩,fun r hr=>?_,jm0 _,fun r hr=>?_,hb,fun f hf=>(by cases hf),fun z=>(by cases z),fun m hm hz=>?_⟩
 ·obtain⟨j,hj,rfl⟩:=hw r hr;exact⟨by rw[jdP,jbN],jmo (jo5 _),by rw[jdQ (by rw[jbN];exact hj),jg7];rfl⟩
 ·obtain⟨j,hj,rfl⟩:=hw r hr;rw[jid (jbN _).symm (by rw[jbN];exact hj),jif]
  have:=hb j;omega
 ·obtain⟨j,h1,h2⟩:=jre hm.nn (hz rfl);rw[hm.len]at h1 h2;exact⟨_,List.mem_map.mpr ⟨j,List.mem_range.mpr h1,rfl⟩,h2⟩
theorem jig {A:List Int}{t B:Int}{F0:List @9}(hb:∀j,-B<=A.getD j 0/\A.getD j 0<=B)(ht:-B<=t/\t<=B)(h1:∀f∈F0,Sol A 0 f/\f.sum≠0)(h2:∀m,Least A 0 true m->m∈F0):Ini A t B false F0 [zs A.length] 0:=by
 refine⟨fun z=>(by cases z),fun r hr=>?_,by simp,fun r hr=>?_,hb,h1,fun _=>h2,fun m hm _=>⟨_,List.mem_singleton.mpr rfl,?_⟩⟩
 ·rw[List.mem_singleton.mp hr];exact⟨jbN _,jo5 _,jg7 _⟩
 ·rw[List.mem_singleton.mp hr,jif];omega
 ·rw[<-hm.len];exact jm1 hm.nn
theorem jm2 (A:List Int):CD W (n+1) 9 [.dat (tu A)]=.ok (.tmp (.l (A.map fun a=>tu [a])),[.no]):=by
 rw[CD,jai (d:=⟨1,1,jaT⟩) rfl rfl];have hc:evE (jaa U W P n) U jb3 [.dat (tu A)]=.ok (.tmp (.l (A.map fun a=>tu [a])),[.dat (tu A)]):=
  jej (h:=D.int) (g:=fun a=>tu [a]) (xs:=A) rfl (fun a ha=>jks rfl) fun s=>rfl
 show (evSs (jaa U W P n) U W jaT [.dat (tu A)]).bind (jcZ 1)=_;unfold jaT;rw[evSs,evS,hc];rfl
noncomputable abbrev cS (A:List Int)(acc:List @9)(x3 x4:Sl):Rho:=[.dat (cD A),.dat (tu (zs A.length)),.own (.d (acc.map tu) (acc.map (lk A 0))) false false,x3,x4]
theorem jkw {A:List Int}(hA:A.length<=1000):∀(js:List Nat) (acc:List @9) (x3 x4:Sl),(∀j∈js,j<A.length)->(acc++js.map (up (zs A.length))).Nodup->acc.length+js.length<=1000 ->
  ∃y3 y4,ja6 (fun x r=>(putT [3,4] false x r).bind fun r'=>evSs (jaa U W P (n+1)) U W jaz r') (js.map fun (j:Nat)=>D.tup [.int (j:Int),tu [A.getD j 0]]) (cS A acc x3 x4)=.ok (.nx (cS A (acc++js.map (up (zs A.length))) y3 y4))
 |[],acc,x3,x4,_,_,_=>⟨x3,x4,by simp only[List.map_nil,jt5];rfl⟩
 |j::js,acc,x3,x4,hj,hn,hl=>by
  have e0:acc++(j::js).map (up (zs A.length))=(acc++[up (zs A.length) j])++js.map (up (zs A.length)):=by simp
  have hk:up (zs A.length) j ∉ acc:=fun h=>(List.nodup_append.mp hn).2.2 _ h _ jtJ rfl;have hjA:=hj j jtJ;rw[e0]at hn ⊢;rw[jtR]at hl;obtain⟨y3,y4,e⟩:=jkw hA js (acc++[up (zs A.length) j]) (.dat (.int j)) @8 (fun i hi=>hj i (jtI _ hi)) hn (by simp;omega)
  refine⟨y3,y4,?_⟩;have e2:=jaF (G:=jaa U W P (n+1)) (U:=U) (k:=2) (es:=.cons (.var 1) (.cons (.var 3) .nil)) (ρ:=cS A acc (.dat (.int j)) @8) [tu (zs A.length),.int j] rfl (jg4 (W:=W) (n:=n) (zs A.length) j (by rw[jbN];exact hjA) (by rw[jbN];exact hA))
  have hc:evE (jaa U W P (n+1)) U jbE (cS A acc (.dat (.int j)) @8)=.ok (.tmp (.l ([A.getD j 0].map fun a=>D.int (-a))),cS A acc (.dat (.int j)) @8):=
   jej (h:=D.int) (g:=fun a=>D.int (-a)) (xs:=[A.getD j 0]) rfl (fun a ha=>rfl) fun s=>rfl
  have hw:D.tup ([A.getD j 0].map fun a=>D.int (-a))=lk A 0 (up (zs A.length) j):=by
   unfold lk;rw[jid (jbN _).symm (by rw[jbN];exact hjA),jif]
   show D.tup [.int (-(A.getD j 0))]=D.tup [.int (0 - (0+A.getD j 0))];rw[show (0:Int) - (0+A.getD j 0)=-(A.getD j 0)by omega]
  have et:=jeh hc;rw[hw]at et;have f1:jbc ((acc.map tu).length+1)=true:=jby (by rw[jtQ];omega)
  have es:evSs (jaa U W P (n+1)) U W jaz (cS A acc (.dat (.int j)) @8)=.ok (.nx (cS A (acc++[up (zs A.length) j]) (.dat (.int j)) @8)):=by
   unfold jaz;rw[jae (ρ':=cS A (acc++[up (zs A.length) j]) (.dat (.int j)) @8) (by
    rw[evS];simp only[et,e2,jt0,jt1,R.bind_ok',toD,jbA,jnD,jge,decide_eq_false hk];rw[if_pos f1];simp only[cS,List.map_append,jtO,List.map_nil];rfl),evSs]
  rw[jtO,jb4 (ρ1:=cS A acc (.dat (.int j)) @8) rfl es];exact e
theorem jmt {A:List Int}{B:Int}(hb:∀j,-B<=A.getD j 0/\A.getD j 0<=B)(o:Okb A.length B)(hW:2 * B+3<=W):∃N,(run A 0 [] (uns A.length) N).1=[]/\(N:Int)<=2 * B+1/\CD W (n+5) 7 [.dat (cD A)]=.ok (.tmp (.l ((jbn (run A 0 [] (uns A.length) N).2).map tu)),[.no]):=by
 obtain⟨N,h1,h2,e⟩:=jkv (W:=W) (n:=n) (jfo hb) o (jul _) @11 hW
 refine⟨N,h1,h2,?_⟩;have hA:=o.k.2;rw[CD,jai (d:=⟨1,5,jax⟩) rfl rfl];obtain⟨y3,y4,el⟩:=jkw (W:=W) (n:=n+3) hA (List.range A.length) [] .no .no (fun j hj=>List.mem_range.mp hj) (jm0 _) (by simp;omega)
 show (evSs (jaa U W P (n+4)) U W jax [.dat (cD A),.no,.no,.no,.no]).bind (jcZ 1)=_;unfold jax;have elen:evE (jaa U W P (n+4)) U (.blt .len (.var 0)) [.dat (cD A),.no,.no,.no,.no]=.ok (.dat (.int (A.length:Int)),[.dat (cD A),.no,.no,.no,.no]):=by
  show R.ok (Vl.dat (.int ((A.map fun a=>tu [a]).length:Int)),_)=_;rw[jtQ]
 have em:=jay (o:=.mul) (G:=jaa U W P (n+4)) (x:=.tup (.cons (.lit (.int 0)) .nil)) (ρ:=[.dat (cD A),.no,.no,.no,.no]) (dx:=.tup [.int 0]) rfl elen (jg6 hA);rw[jae (ρ':=[.dat (cD A),.dat (tu (zs A.length)),.no,.no,.no]) (by rw[jci em @11];rfl)]
 rw[jae (ρ':=cS A [] .no .no) rfl];have hi:evI (jaa U W P (n+4)) U (.enum (.var 0)) (cS A [] .no .no)=.ok ((List.range A.length).map (fun (j:Nat)=>D.tup [.int (j:Int),tu [A.getD j 0]]),[],cS A [] .no .no):=by
  have:=jds A 0;simp only[Nat.zero_add]at this;rw[<-this];rfl
 rw[jae (ρ':=cS A (uns A.length) y3 y4) (by
  rw[evS,hi,R.bind_ok',el];rfl)]
 have he:evAs (jaa U W P (n+4)) U (.cons (.var 2) (.cons (.var 0) (.cons (.lst .nil) .nil))) (cS A (uns A.length) y3 y4)=.ok ([.slot 2,.dat (cD A),.tmp (.l [])],cS A (uns A.length) y3 y4):=rfl;have hp:jak [] [.slot 2,.dat (cD A),.tmp (.l [])] (cS A (uns A.length) y3 y4)=.ok ([.dat (lvD A 0 (uns A.length)),.dat (cD A),.dat (.lst [])],[none,none,none],[.dat (cD A),.dat (tu (zs A.length)),.dat (lvD A 0 (uns A.length)),y3,y4]):=rfl;have ec:jaa U W P (n+4) 6 [.dat (lvD A 0 (uns A.length)),.dat (cD A),.dat (.lst [])]=.ok (.tmp (.l ((jbn (run A 0 [] (uns A.length) N).2).map tu)),[.no,.no,.no]):=e;have ev:evE (jaa U W P (n+4)) U (.call 6 [] (.cons (.var 2) (.cons (.var 0) (.cons (.lst .nil) .nil)))) (cS A (uns A.length) y3 y4)=.ok (.tmp (.l ((jbn (run A 0 [] (uns A.length) N).2).map tu)),[.dat (cD A),.dat (tu (zs A.length)),.dat (lvD A 0 (uns A.length)),y3,y4]):=by
  rw[evE,he,R.bind_ok',hp,R.bind_ok',ec];rfl
 rw[evSs,evS,ev];rfl
end Law
namespace Law
open PySem L2 DJ
variable {W n:Nat}
structure Lp (A:List Int)(F:List (List Int)):Prop where
 sol:∀f∈F,Sol A 0 f/\f.sum≠0
 all:∀m,Least A 0 true m->m∈F
 few:F.length<4000
section
variable {A:List Int}{B:Int}
theorem jsH (hb:∀j,-B<=A.getD j 0/\A.getD j 0<=B)(o:Okb A.length B){N:Nat}(h1:(run A 0 [] (uns A.length) N).1=[])(h2:(N:Int)<=2 * B+1):Lp A (jbn (run A 0 [] (uns A.length) N).2):=by
 have I:=jfo (A:=A) hb;refine⟨fun f hf=>?_,fun m hm=>(jaA _).mem_iff.mpr (jkn I h1 hm),?_⟩
 ·obtain⟨g1,g2,_⟩:=jdr I N f ((jaA _).mem_iff.mp hf);exact⟨g1,by omega⟩
 ·rw[(jaA _).length_eq];exact jku I o (jul _) h2
theorem Lp.has {F:List @9}(h:Lp A F){c:List Int}(hc:Sol A 0 c)(hz:c.sum≠0):∃f∈F,Bd f c:=by
 obtain⟨m,mb,ml⟩:=jcR (z:=true) _ (jul _) hc fun _=>hz;exact⟨m,h.all m ml,mb⟩
theorem jfp (hb:∀j,-B<=A.getD j 0/\A.getD j 0<=B)(o:Okb A.length B)(hW:2 * B+3<=W):∃F,Lp A F/\CD W (n+5) 7 [.dat (cD A)]=.ok (.tmp (.l (F.map tu)),[.no]):=by
 obtain⟨N,h1,h2,e⟩:=jmt (W:=W) (n:=n) hb o hW;exact⟨_,jsH hb o h1 h2,e⟩
theorem jo6 (hb:∀j,-B<=A.getD j 0/\A.getD j 0<=B)(o:Okb A.length B)(hW:2 * B+3<=W):∃F,Lp A F/\CD W (n+6) 10 [.dat (tu A)]=.ok (.dat (.tup (F.map tu)),[.no]):=by
 obtain⟨F,hF,e⟩:=jfp (W:=W) (n:=n) hb o hW;refine⟨F,hF,?_⟩;rw[CD,jai (d:=⟨1,1,jbq⟩) rfl rfl];have e9:=jaF (G:=jaa U W P (n+5)) (U:=U) (k:=9) (es:=.cons (.var 0) .nil) (ρ:=[.dat (tu A)]) [tu A] rfl (jm2 (W:=W) (n:=n+4) A);have e7:=jdn (G:=jaa U W P (n+5)) (k:=7) (es:=.cons (.call 9 [] (.cons (.var 0) .nil)) .nil) (ds:=[cD A]) (as1 e9) (.cons pt .nil) e;show (evSs (jaa U W P (n+5)) U W jbq [.dat (tu A)]).bind (jcZ 1)=_;unfold jbq;rw[jcD (jhE (jeh e7))];rfl
theorem jkx {t:Int}{F:List @9}(hb:∀j,-B<=A.getD j 0/\A.getD j 0<=B)(ht:-B<=t/\t<=B)(o:Okb A.length B)(hF:Lp A F)(hW:2 * B+3<=W) :
  ∃M:List @9,(∀m∈M,Sol A t m)/\(∀c,Sol A t c->∃m∈M,Bd m c)/\CD W (n+5) 8 @5=.ok (.tmp (.l (M.map tu)),[.no,.no,.no]):=by
 have I:=jig (A:=A) hb ht hF.sol hF.all;obtain⟨N,h1,h2,e⟩:=jkv (W:=W) (n:=n) I o (Nat.zero_le _) hF.few hW;refine⟨jbn (run A t F [zs A.length] N).2,fun m hm=>(jdr I N m ((jaA _).mem_iff.mp hm)).1,fun c hc=>?_,?_⟩
 ·obtain⟨m,h3,h4⟩:=jkm I h1 hc fun z=>by cases z
  exact⟨m,(jaA _).mem_iff.mpr h3,h4⟩
 have hA:=o.k.2;rw[CD,jai (d:=⟨3,3,jav⟩) rfl rfl];have elen:evE (jaa U W P (n+4)) U (.blt .len (.var 0)) @5=.ok (.dat (.int (A.length:Int)),@5):=by
  show R.ok (Vl.dat (.int ((A.map fun a=>tu [a]).length:Int)),_)=_;rw[jtQ]
 have em:=jay (o:=.mul) (G:=jaa U W P (n+4)) (x:=.tup (.cons (.lit (.int 0)) .nil)) (ρ:=@5) (dx:=.tup [.int 0]) rfl elen (jg6 hA);have ed:evE (jaa U W P (n+4)) U (.dis (.bin .mul (.tup (.cons (.lit (.int 0)) .nil)) (.blt .len (.var 0))) (.var 1)) @5=.ok (.tmp (.d [tu (zs A.length)] [tu [t]]),@5):=by
  rw[evE,em,R.bind_ok'];show R.bind (R.ok (tu (zs A.length),(@5:Rho))) _=_;rw[R.bind_ok'];show (if (keyD (tu (zs A.length))).isSome=true then R.ok (Vl.tmp (.d [tu (zs A.length)] [tu [t]]),(@5:Rho))else .stk)=_;rw[jbA];rfl
 have he:=as3 ed (show evE (jaa U W P (n+4)) U (.var 0) @5=.ok (.dat (cD A),@5)from rfl) (show evE (jaa U W P (n+4)) U (.var 2) @5=.ok (.dat (.lst (F.map tu)),@5)from rfl);have hp:jak [] [.tmp (.d [tu (zs A.length)] [tu [t]]),.dat (cD A),.dat (.lst (F.map tu))] @5=.ok ([.dat (.dct [tu (zs A.length)] [tu [t]]),.dat (cD A),.dat (.lst (F.map tu))],[none,none,none],@5):=rfl;have hl:lvD A t [zs A.length]=.dct [tu (zs A.length)] [tu [t]]:=by
  show D.dct [tu (zs A.length)] [lk A t (zs A.length)]=_;unfold lk;rw[jif,Int.sub_zero]
 rw[hl]at e;have ec:jaa U W P (n+4) 6 [.dat (.dct [tu (zs A.length)] [tu [t]]),.dat (cD A),.dat (.lst (F.map tu))]=_:=e;have ev:evE (jaa U W P (n+4)) U (.call 6 [] (.cons (.dis (.bin .mul (.tup (.cons (.lit (.int 0)) .nil)) (.blt .len (.var 0))) (.var 1)) (.cons (.var 0) (.cons (.var 2) .nil)))) @5=.ok (.tmp (.l ((jbn (run A t F [zs A.length] N).2).map tu)),@5):=by
  rw[evE,he,R.bind_ok',hp,R.bind_ok',ec];rfl
 show (evSs (jaa U W P (n+4)) U W jav @5).bind (jcZ 3)=_;unfold jav;rw[evSs,evS,ev];rfl
theorem jmu {t:Int}(hb:∀j,-B<=A.getD j 0/\A.getD j 0<=B)(ht:-B<=t/\t<=B)(o:Okb A.length B)(hW:2 * B+3<=W) :
  ∃M:List @9,(∀m∈M,Sol A t m)/\(∀c,Sol A t c->∃m∈M,Bd m c)/\CD W (n+6) 11 [.dat (tu A),.dat (.int t)]=.ok (.dat (.tup (M.map tu)),[.no,.no]):=by
 obtain⟨F,hF,e7⟩:=jfp (W:=W) (n:=n) hb o hW;obtain⟨M,h1,h2,e8⟩:=jkx (W:=W) (n:=n) hb ht o hF hW;refine⟨M,h1,h2,?_⟩;rw[CD,jai (d:=⟨2,3,ja8⟩) rfl rfl];have e9:=jaF (G:=jaa U W P (n+5)) (U:=U) (k:=9) (es:=.cons (.var 0) .nil) (ρ:=[.dat (tu A),.dat (.int t),.no]) [tu A] rfl (jm2 (W:=W) (n:=n+4) A);show (evSs (jaa U W P (n+5)) U W ja8 [.dat (tu A),.dat (.int t),.no]).bind (jcZ 2)=_;unfold ja8;rw[jae (ρ':=@12) (by rw[jjY e9 @11];rfl)]
 have g7:jaa U W P (n+5) 7 [.dat (cD A)]=.ok (.tmp (.l (F.map tu)),[.no]):=e7;have i7:evE (jaa U W P (n+5)) U (.call 7 [] (.cons (.var 2) .nil)) @12=.ok (.tmp (.l (F.map tu)),[.dat (tu A),.dat (.int t),.dat (cD A)]):=by
  rw[evE,show evAs (jaa U W P (n+5)) U (.cons (.var 2) .nil) @12=.ok ([.slot 2],@12)from rfl,R.bind_ok',show jak [] [.slot 2] @12=.ok ([.dat (cD A)],[none],[.dat (tu A),.dat (.int t),.dat (cD A)])from rfl,R.bind_ok',g7];rfl
 have he:=as3 (show evE (jaa U W P (n+5)) U (.var 2) @12=.ok (.slot 2,@12)from rfl) (jks (x:=.var 1) (d:=.int t) rfl) i7;have hp:jak [] [.slot 2,.dat (.tup [.int t]),.tmp (.l (F.map tu))] [.dat (tu A),.dat (.int t),.dat (cD A)]=.ok ([.dat (cD A),.dat (.tup [.int t]),.dat (.lst (F.map tu))],[none,none,none],[.dat (tu A),.dat (.int t),.dat (cD A)]):=rfl;have g8:jaa U W P (n+5) 8 [.dat (cD A),.dat (.tup [.int t]),.dat (.lst (F.map tu))]=.ok (.tmp (.l (M.map tu)),[.no,.no,.no]):=e8;have ev:evE (jaa U W P (n+5)) U (.call 8 [] (.cons (.var 2) (.cons (.tup (.cons (.var 1) .nil)) (.cons (.call 7 [] (.cons (.var 2) .nil)) .nil)))) @12=.ok (.tmp (.l (M.map tu)),[.dat (tu A),.dat (.int t),.dat (cD A)]):=by
  rw[evE,he,R.bind_ok',hp,R.bind_ok',g8];rfl
 rw[jcD (jhE (jeh ev))];rfl
end
end Law
namespace Law
open PySem L2 DJ
variable {W n:Nat}
theorem jg8 {a b:Int}(h:0<=a/\a<2 ^ 60):opD .mul (.int a) (.int b)=.ok (.dat (.int (a * b))):=by
 rw[jcj,if_pos (.inl @0)]
theorem jgf {a b:Int}(h:0<=b/\b<=2 ^ 60):opD .mul (.int a) (.int b)=.ok (.dat (.int (a * b))):=by
 rw[jcj,if_pos (.inr @0)]
theorem jo7 {G:Calls}{c0 c1 x6 x7:Sl}{o r d:List Int}{k:Nat}(hk:k<63)(ho:1<=o.length)(ho2:o.length<=63)(hr:r.length=o.length)(hd:d.length<=63) :
  ∃z:Int,∃r':List Int,∃y6 y7,0<=z/\r'.length=o.length/\evSs G U W ja3 [c0,c1,.own (.l (o.map D.int)) false false,.own (.l (r.map D.int)) false false,.own (.l (d.map D.int)) false false,.dat (.int k),x6,x7]=.ok (.nx [c0,c1,.own (.l (o.map D.int)) false false,.own (.l (r'.map D.int)) false false,.own (.l ((d++[z]).map D.int)) false false,.dat (.int k),y6,y7]):=by
 obtain⟨a,ha⟩:∃a:Int,a=(k:Int)%(o.length:Int):=⟨_,rfl⟩;have a0:0<=a:=by rw[ha];exact Int.emod_nonneg _ @0
 have a1:a<o.length:=by rw[ha];exact Int.emod_lt_of_pos _ @0
 obtain⟨w,_,hw⟩:=jkq (xs:=o) a0 a1;obtain⟨q,_,hq⟩:=jkq (xs:=r) (i:=a) a0 @0
 obtain⟨m,hm,hc⟩:=jkq (xs:=[48271,69621,39373,16807]) (i:=(k:Int)%4) @0 (by show (k:Int)%4<4;omega)
 have hc:DJ.atI [D.int 48271,D.int 69621,D.int 39373,D.int 16807] ((k:Int)%4)=.ok (.int m):=hc;have hm:0<=m/\m<=69621:=by
  simp only[jtK,jt7,or_false]at hm;omega
 unfold ja3;obtain⟨T,hT,hp⟩:∃T:Int,(0<T/\T<2 ^ 64)/\opD .pow (.int 10) (.int 15)=.ok (.dat (.int T)):=⟨10 ^ 15,by omega,jmV⟩
 obtain⟨y,hy⟩:∃y:Int,y=(w+k * k * 16807+3 * k)%2147483629:=⟨_,rfl⟩;have y0:0<=y/\y<2147483629:=by omega
 have hone:0<=y * m+7/\y * m+7<2 ^ 60:=by
  have h1:0<=y * m:=Int.mul_nonneg y0.1 hm.1;have h2:y * m<=2147483629 * 69621:=Int.mul_le_mul @0 hm.2 hm.1 @0
  omega
 have s1:evS G U W (.asg 6 (.bin .mod (.var 5) (.blt .len (.var 2)))) [c0,c1,.own (.l (o.map D.int)) false false,.own (.l (r.map D.int)) false false,.own (.l (d.map D.int)) false false,.dat (.int k),x6,x7]=.ok (.nx [c0,c1,.own (.l (o.map D.int)) false false,.own (.l (r.map D.int)) false false,.own (.l (d.map D.int)) false false,.dat (.int k),.dat (.int a),x7]):=by
  simp_arith[O.toD,jtQ]
  rw[if_pos @0,<-ha]
  rfl
 have s2:evS G U W @14 [c0,c1,.own (.l (o.map D.int)) false false,.own (.l (r.map D.int)) false false,.own (.l (d.map D.int)) false false,.dat (.int k),.dat (.int a),x7]=.ok (.nx [c0,c1,.own (.l (o.map D.int)) false false,.own (.l (r.map D.int)) false false,.own (.l (d.map D.int)) false false,.dat (.int k),.dat (.int a),.dat (.int (y * m+7))]):=by
  have hix:evE G U (.idx (.var 2) (.var 6)) [c0,c1,.own (.l (o.map D.int)) false false,.own (.l (r.map D.int)) false false,.own (.l (d.map D.int)) false false,.dat (.int k),.dat (.int a),x7]=.ok (.dat (.int w),[c0,c1,.own (.l (o.map D.int)) false false,.own (.l (r.map D.int)) false false,.own (.l (d.map D.int)) false false,.dat (.int k),.dat (.int a),x7]):=by simp_arith[O.toD,hw]
  have hmd:∀x b:Int,0<b->opD .mod (.int x) (.int b)=.ok (.dat (.int (x%b))):=fun x b hb=>by rw[jaJ,if_pos hb]
  have e:=jay (G:=G) (o:=.add) (jay (o:=.mul) (jay (o:=.mod) (y:=.lit (.int 2147483629)) (jay (o:=.add) (jay (o:=.add) hix (jay (o:=.mul) (y:=.lit (.int 16807)) (jay (o:=.mul) (x:=.var 5) (y:=.var 5) (jcH (i:=5) rfl) (jcH (i:=5) rfl) (jg8 (a:=(k:Int)) @0)) rfl (jgf @0)) jcQ) (jay (o:=.mul) (x:=.lit (.int 3)) (y:=.var 5) rfl (jcH (i:=5) rfl) (jg8 (a:=3) @0)) jcQ) rfl (hmd _ _ @0)) (joZ (x:=.lst (.cons (.lit (.int 48271)) (.cons (.lit (.int 69621)) (.cons (.lit (.int 39373)) (.cons (.lit (.int 16807)) .nil))))) rfl (jay (o:=.mod) (x:=.var 5) (y:=.lit (.int 4)) (jcH (i:=5) rfl) rfl (hmd _ _ @0)) hc) (jgf (b:=m) @0)) (y:=.lit (.int 7)) rfl jcQ
  rw[<-hy]at e;exact jci e @11
 rw[jae s1,jae s2];have e3:∃z:Int,0<=z/\evE G U (.idx (.lst (.cons (.bin .mod (.bin .mul (.var 7) (.var 7)) (.lit (.int 2147483629))) (.cons (.bin .mod (.idx (.var 3) (.var 6)) (.bin .pow (.lit (.int 10)) (.lit (.int 15)))) .nil))) (.blt .int (.cmp .ne (.idx (.var 3) (.var 6)) (.lit (.int 0))))) [c0,c1,.own (.l (o.map D.int)) false false,.own (.l (r.map D.int)) false false,.own (.l (d.map D.int)) false false,.dat (.int k),.dat (.int a),.dat (.int (y * m+7))]=.ok (.dat (.int z),[c0,c1,.own (.l (o.map D.int)) false false,.own (.l (r.map D.int)) false false,.own (.l (d.map D.int)) false false,.dat (.int k),.dat (.int a),.dat (.int (y * m+7))]):=by
  have hb:(q==0)=false\/(q==0)=true:=by cases (q==0) <;> simp
  rcases hb with hb | hb
  ·refine⟨q%T,Int.emod_nonneg _ @0,?_⟩
   simp_arith[O.toD,hq,jg8 hone,hp,jaJ,if_pos hT.1,hb,Bool.not_false,Bool.not_true,if_true,jur,if_false]
  ·refine⟨(y * m+7) * (y * m+7)%2147483629,Int.emod_nonneg _ @0,?_⟩
   simp_arith[O.toD,hq,jg8 hone,hp,jaJ,if_pos hT.1,hb,Bool.not_false,Bool.not_true,if_true,jur,if_false]
 obtain⟨z,z0,e3⟩:=e3;refine⟨z,r.set a.toNat (q / T),.dat (.int a),.dat (.int (y * m+7)),z0,by rw[jt4];exact hr,?_⟩
 rw[jae (jmW e3 rfl rfl (jby (by rw[jtQ];omega)))]
 have s4:evS G U W (.sub 3 (.var 6) (.bin .fdiv (.idx (.var 3) (.var 6)) (.bin .pow (.lit (.int 10)) (.lit (.int 15))))) [c0,c1,.own (.l (o.map D.int)) false false,.own (.l (r.map D.int)) false false,.own (.l (d.map D.int++[.int z])) false false,.dat (.int k),.dat (.int a),.dat (.int (y * m+7))]=.ok (.nx [c0,c1,.own (.l (o.map D.int)) false false,.own (.l ((r.map D.int).set a.toNat (.int (q / T)))) false false,.own (.l (d.map D.int++[.int z])) false false,.dat (.int k),.dat (.int a),.dat (.int (y * m+7))]):=by
  have hf:opD .fdiv (.int q) (.int T)=.ok (.dat (.int (q / T))):=by rw[jck,if_pos hT]
  rw[evS];simp_arith[O.toD,hq,hp,hf];rw[if_pos (by rw[jtQ];omega)]
 simp only[List.set_cons_zero,List.set_cons_succ];rw[jae s4,List.map_set,List.map_append];rfl
theorem jo8 {G:Calls}{c0 c1:Sl}{o:List Int}(ho:1<=o.length)(ho2:o.length<=63):∀(ks:List Nat) (r d:List Int) (x5 x6 x7:Sl),(∀k∈ks,k<63)->r.length=o.length->d.length+ks.length<=63->(∀x∈d,0<=x) ->
  ∃(r' d':List Int) (y5 y6 y7:Sl),d'.length=d.length+ks.length/\(∀x∈d',0<=x)/\ja6 (fun x r=>(putT [5] true x r).bind fun r'=>evSs G U W ja3 r') (ks.map fun (k:Nat)=>D.int k) [c0,c1,.own (.l (o.map D.int)) false false,.own (.l (r.map D.int)) false false,.own (.l (d.map D.int)) false false,x5,x6,x7]=.ok (.nx [c0,c1,.own (.l (o.map D.int)) false false,.own (.l (r'.map D.int)) false false,.own (.l (d'.map D.int)) false false,y5,y6,y7]):=by
 intro ks;induction ks with
 |nil=>intro r d x5 x6 x7 _ _ _ hd;exact⟨r,d,x5,x6,x7,rfl,hd,rfl⟩
 |cons k ks ih=>
  intro r d x5 x6 x7 hk hr hl hd;rw[jtR]at hl;obtain⟨z,r1,y6,y7,z0,hr1,e1⟩:=jo7 (W:=W) (G:=G) (c0:=c0) (c1:=c1) (x6:=x6) (x7:=x7) (hk k jtJ) ho ho2 hr (d:=d) @0
  obtain⟨r2,d2,w5,w6,w7,h1,h2,e2⟩:=ih r1 (d++[z]) (.dat (.int k)) y6 y7 (fun j hj=>hk j (jtI _ hj)) hr1 (by rw[jtV,List.length_singleton];omega) fun x hx=>(List.mem_append.mp hx).elim (hd x) fun h=>by rw[List.mem_singleton.mp h];exact z0
  refine⟨r2,d2,w5,w6,w7,by rw[h1,jtV,List.length_singleton,jtR];omega,h2,?_⟩
  rw[jtO,jb4 (ρ1:=[c0,c1,.own (.l (o.map D.int)) false false,.own (.l (r.map D.int)) false false,.own (.l (d.map D.int)) false false,.dat (.int k),x6,x7]) rfl e1];exact e2
theorem jrf (ns:List Int)(hn:ns.length<=63):∃d:List Int,d.length=63/\(∀x∈d,0<=x)/\CD W (n+1) 12 [.dat @10,.dat (.int 63)]=.ok (.tmp (.l (d.map D.int)),[.no,.no]):=by
 rw[CD,jai (d:=⟨2,8,ja9⟩) rfl rfl];obtain⟨o,ho,ho2,e1⟩:∃o:List Int,1<=o.length/\o.length<=63/\evS (jaa U W P n) U W (.asg 2 (.bin .add (.blt .list (.var 0)) (.bin .mul (.lst (.cons (.lit (.int 0)) .nil)) (.blt .int (.cmp .eq (.blt .len (.var 0)) (.lit (.int 0))))))) [.dat @10,.dat (.int 63),.no,.no,.no,.no,.no,.no]=.ok (.nx [.dat @10,.dat (.int 63),.own (.l (o.map D.int)) false false,.no,.no,.no,.no,.no]):=by
  cases ns with
  |nil=>exact⟨[0],by decide,by decide,rfl⟩
  |cons x r=>
   refine⟨x::r,by simp,hn,?_⟩
   have h1:(((x::r).map D.int).length:Int)≠0:=by rw[jtQ,jtR];omega
   simp_arith[O.toD,jdg,beq_eq_false_iff_ne.mpr h1,bfD]
   have hm:opD .mul (.lst [D.int 0]) (.int 0)=.ok (.tmp (.l [])):=rfl;simp_arith[hm,O.toD];rw[if_pos (jby (by simp at hn ⊢;omega))]
   simp only[jt5];rfl
 have e2:∃r:List Int,r.length=o.length/\evE (jaa U W P n) U jbz [.dat @10,.dat (.int 63),.own (.l (o.map D.int)) false false,.no,.no,.no,.no,.no]=.ok (.tmp (.l (r.map D.int)),[.dat @10,.dat (.int 63),.own (.l (o.map D.int)) false false,.no,.no,.no,.no,.no]):=by
  refine⟨o.map fun x=>x * (if decide ((10:Int) ^ 15<=x)then 1 else 0),jtQ _,?_⟩;rw[List.map_map];unfold jbz;rw[evE,show evI (jaa U W P n) U (.seq (.var 2)) [.dat @10,.dat (.int 63),.own (.l (o.map D.int)) false false,.no,.no,.no,.no,.no]=.ok (o.map D.int,[2],[.dat @10,.dat (.int 63),.own (.l (o.map D.int)) false true,.no,.no,.no,.no,.no])from rfl];simp only[R.bind_ok'];rw[ja5 (g:=fun x=>D.int (x * (if decide ((10:Int) ^ 15<=x)then 1 else 0)))]
  ·rw[ja2];rfl
  ·intro x hx;have hcm:cmD .ge (.int x) (.int (10 ^ 15))=.ok (decide ((10:Int) ^ 15<=x)):=rfl;have he:evE (jaa U W P n) U (.bin .mul (.var 0) (.blt .int (.cmp .ge (.var 0) (.bin .pow (.lit (.int 10)) (.lit (.int 15)))))) [.dat (.int x)]=.ok (.dat (.int (x * (if decide ((10:Int) ^ 15<=x)then 1 else 0))),[.dat (.int x)]):=by
    simp only[evE,jt0,R.bind_ok',jaR,jmV,hcm,bfD,jgf (a:=x) (b:=if decide ((10:Int) ^ 15<=x)=true then 1 else 0) (by split <;> decide)]
   simp only[putT,jdt,jce,List.map_nil,jt5,List.replicate,jtR,jt2,List.zip_cons_cons,List.zip_nil_right,List.foldl_cons,List.foldl_nil,List.set_cons_zero,List.set_cons_succ,if_true,R.bind_ok',he,toD,jaB]
 obtain⟨r,hr,e2⟩:=e2;show ∃d:List Int,d.length=63/\(∀x∈d,0<=x)/\(evSs (jaa U W P n) U W ja9 [.dat @10,.dat (.int 63),.no,.no,.no,.no,.no,.no]).bind (jcZ 2)=_;unfold ja9;rw[jae e1,jae (ρ':=[.dat @10,.dat (.int 63),.own (.l (o.map D.int)) false false,.own (.l (r.map D.int)) false false,.no,.no,.no,.no]) (by rw[evS,e2];rfl),jae (ρ':=[.dat @10,.dat (.int 63),.own (.l (o.map D.int)) false false,.own (.l (r.map D.int)) false false,.own (.l []) false false,.no,.no,.no]) rfl]
 obtain⟨r',d,y5,y6,y7,h1,h2,e3⟩:=jo8 (W:=W) (G:=jaa U W P n) (c0:=.dat @10) (c1:=.dat (.int 63)) ho ho2 (List.range 63) r [] .no .no .no (fun k hk=>List.mem_range.mp hk) hr @11 fun x hx=>absurd hx jt7
 rw[List.map_nil]at e3;rw[jae (ρ':=[.dat @10,.dat (.int 63),.own (.l (o.map D.int)) false false,.own (.l (r'.map D.int)) false false,.own (.l (d.map D.int)) false false,y5,y6,y7]) (by
  have hi:evI (jaa U W P n) U (.rng1 (.var 1)) [.dat @10,.dat (.int 63),.own (.l (o.map D.int)) false false,.own (.l (r.map D.int)) false false,.own (.l []) false false,.no,.no,.no]=.ok ((List.range 63).map fun (k:Nat)=>D.int k,[],[.dat @10,.dat (.int 63),.own (.l (o.map D.int)) false false,.own (.l (r.map D.int)) false false,.own (.l []) false false,.no,.no,.no]):=by
   have:=jgU 63 @0
   rw[show ((63:Nat):Int)=63 from rfl]at this;simp_arith[this]
  rw[evS,hi,R.bind_ok',e3];rfl)]
 refine⟨d.reverse,by rw[List.length_reverse,h1];rfl,fun x hx=>h2 x (List.mem_reverse.mp hx),?_⟩
 rw[jcD (v:=.tmp (.l (d.reverse.map D.int))) (ρ':=[.dat @10,.dat (.int 63),.own (.l (o.map D.int)) false false,.own (.l (r'.map D.int)) false false,.own (.l (d.map D.int)) false false,y5,y6,y7]) (by
  rw[evS];simp_arith[O.toD,bfD];rw[List.map_reverse])]
 rfl
end Law
namespace Law
open PySem L2 DJ
variable {W n:Nat}
noncomputable def Km (k:Nat)(m b:Int):Prop:=(k=1/\m=8/\b=30)\/(k=2/\m=8/\b=30)\/(k=3/\m=8/\b=12)\/(k=4/\m=4/\b=6)\/(k=5/\m=3/\b=4)
theorem Km.ok {k:Nat}{m b:Int}(h:Km k m b):Okb k b:=by
 obtain⟨f1,f2,f3,f4,f5⟩:=joY;obtain⟨t1,t2,t3,t4,t5⟩:=jmp;rcases h with ⟨rfl,rfl,rfl⟩ | ⟨rfl,rfl,rfl⟩ | ⟨rfl,rfl,rfl⟩ | ⟨rfl,rfl,rfl⟩ | ⟨rfl,rfl,rfl⟩
 ·exact⟨by decide,by decide,t1,f1⟩
 ·exact⟨by decide,by decide,t2,f2⟩
 ·exact⟨by decide,by decide,t3,f3⟩
 ·exact⟨by decide,by decide,t4,f4⟩
 ·exact⟨by decide,by decide,t5,f5⟩
theorem Km.le {k:Nat}{m b:Int}(h:Km k m b):(0<=m/\m<=b/\m<=8/\b<=30)\/(0<=m/\m<=b):=by
 rcases h with ⟨rfl,rfl,rfl⟩ | ⟨rfl,rfl,rfl⟩ | ⟨rfl,rfl,rfl⟩ | ⟨rfl,rfl,rfl⟩ | ⟨rfl,rfl,rfl⟩ <;> exact .inr (by decide)
theorem Km.bd {A:List Int}{m b:Int}(h:Km A.length m b)(hA:∀a∈A,-m<=a/\a<=m):∀j,-b<=A.getD j 0/\A.getD j 0<=b:=fun j=>by
 have hl:0<=m/\m<=b:=by
  rcases h.le with q | q
  ·exact⟨q.1,q.2.1⟩
  ·exact q
 rw[jtP];cases e:A[j]? with
 |none=>show -b<=0/\0<=b;omega
 |some a=>
  have:=hA a (jtT e);show -b<=a/\a<=b;omega
theorem jrg {k:Nat}(h:1<=k/\k<=5):∃m b,Km k m b/\DJ.atI [D.int 8,D.int 8,D.int 8,D.int 4,D.int 3] ((k:Int) - 1)=.ok (.int m)/\DJ.atI [D.int 30,D.int 30,D.int 12,D.int 6,D.int 4] ((k:Int) - 1)=.ok (.int b):=by
 have:k=1\/k=2\/k=3\/k=4\/k=5:=by omega
 rcases this with rfl | rfl | rfl | rfl | rfl
 ·exact⟨8,30,.inl ⟨rfl,rfl,rfl⟩,rfl,rfl⟩
 ·exact⟨8,30,.inr (.inl ⟨rfl,rfl,rfl⟩),rfl,rfl⟩
 ·exact⟨8,12,.inr (.inr (.inl ⟨rfl,rfl,rfl⟩)),rfl,rfl⟩
 ·exact⟨4,6,.inr (.inr (.inr (.inl ⟨rfl,rfl,rfl⟩))),rfl,rfl⟩
 ·exact⟨3,4,.inr (.inr (.inr (.inr ⟨rfl,rfl,rfl⟩))),rfl,rfl⟩
theorem jo9 {A:List Int}(h:1<=A.length/\A.length<=5):∃m b,Km A.length m b/\CD W (n+1) 14 [.dat (tu A)]=.ok (.dat (.int b),[.no]):=by
 obtain⟨m,b,hk,_,e⟩:=jrg h;refine⟨m,b,hk,?_⟩;rw[CD,jai (d:=⟨1,1,jaU⟩) rfl rfl];have el:evE (jaa U W P n) U (.blt .len (.var 0)) [.dat (tu A)]=.ok (.dat (.int (A.length:Int)),[.dat (tu A)]):=by
  show R.ok (Vl.dat (.int ((A.map D.int).length:Int)),_)=_;rw[jtQ]
 have ei:=joZ (G:=jaa U W P n) (x:=.lst (.cons (.lit (.int 30)) (.cons (.lit (.int 30)) (.cons (.lit (.int 12)) (.cons (.lit (.int 6)) (.cons (.lit (.int 4)) .nil)))))) rfl (jay (o:=.sub) (y:=.lit (.int 1)) (dy:=.int 1) el rfl rfl) e;show (evSs (jaa U W P n) U W jaU [.dat (tu A)]).bind (jcZ 1)=_;unfold jaU;rw[jcD (jhE ei)];rfl
end Law
namespace Law
open PySem L2 DJ
variable {W n:Nat}
noncomputable abbrev vlS (ys:List Int)(c k m:Int)(fd:List Int)(x5:Sl):Rho:=[.own (.l (ys.map D.int)) true false,.dat (.int c),.dat (.int k),.dat (.int m),.own (.l (fd.map D.int)) false false,x5]
theorem jm3 {G:Calls}{ys:List Int}{c k m v:Int}{fd:List Int}{x5:Sl}{e:E}(hk:0<k)(hl:(fd.length:Int)=k)(he:evE G U e (vlS ys c k m fd x5)=.ok (.dat (.int v),vlS ys c k m fd x5)) :
  ∃fd':List Int,fd'.length=fd.length/\(∀x∈fd',x∈fd\/x=v)/\evS G U W (.sub 4 (.bin .mod (.bin .fdiv (.var 1) (.lit (.int 25))) (.var 2)) e) (vlS ys c k m fd x5)=.ok (.nx (vlS ys c k m fd' x5)):=by
 have hm0:=Int.emod_nonneg (c / 25) (show k≠0 by omega)
 have hm1:=Int.emod_lt_of_pos (c / 25) hk;refine⟨fd.set (c / 25%k).toNat v,jt4,fun x hx=>List.mem_or_eq_of_mem_set hx,?_⟩;have ek:evE G U (.bin .mod (.bin .fdiv (.var 1) (.lit (.int 25))) (.var 2)) (vlS ys c k m fd x5)=.ok (.dat (.int (c / 25%k)),vlS ys c k m fd x5):=jay (jay (o:=.fdiv) (x:=.var 1) (y:=.lit (.int 25)) (dy:=.int 25) (jcH (i:=1) rfl) rfl (by rw[jck,if_pos (by decide)])) (jcH (i:=2) rfl) (by rw[jaJ,if_pos hk])
 rw[evS,he,R.bind_ok'];show R.bind (R.ok (D.int v,vlS ys c k m fd x5)) _=_;rw[R.bind_ok'];show R.bind (evE G U (.bin .mod (.bin .fdiv (.var 1) (.lit (.int 25))) (.var 2)) (vlS ys c k m fd x5)) _=_;rw[ek,R.bind_ok'];show (if 0<=c / 25%k/\c / 25%k<((fd.map D.int).length:Int)then R.ok (Fl.nx ((vlS ys c k m fd x5).set 4 (.own (.l ((fd.map D.int).set (c / 25%k).toNat (.int v))) false false)))else .stk)=_;rw[if_pos ⟨hm0,by rw[jtQ];omega⟩,<-List.map_set]
 rfl
theorem jmv (xs:List Int)(hx:6<=xs.length):∃(A ys:List Int) (m b:Int),Km A.length m b/\(∀a∈A,-m<=a/\a<=m)/\(ys.length+6>=xs.length/\ys.length<=xs.length)/\CD W (n+1) 13 [.own (.l (xs.map .int)) true false]=.ok (.dat (tu A),[.own (.l (ys.map .int)) true false]):=by
 obtain⟨x1,c,rfl⟩:=jka (show 0<xs.length by omega)
 simp at hx;obtain⟨k,hk⟩:∃k:Nat,(k:Int)=1+c%5:=⟨(1+c%5).toNat,by omega⟩
 have hk5:1<=k/\k<=5:=by omega
 obtain⟨m,b,hkm,ea,_⟩:=jrg hk5;have hm8:0<=m/\m<=8:=by
  rcases hkm with ⟨_,rfl,_⟩ | ⟨_,rfl,_⟩ | ⟨_,rfl,_⟩ | ⟨_,rfl,_⟩ | ⟨_,rfl,_⟩ <;> decide
 rw[CD,jai (d:=⟨1,6,jaG⟩) rfl rfl];have lp:=je4 (f:=fun x r=>(putT [5] true x r).bind fun r'=>evSs (jaa U W P n) U W jba r')
  (fun j ρ=>∃(ys fd:List Int) (x5:Sl),ρ=vlS ys c k m fd x5/\ys.length+j=x1.length/\fd.length=j/\∀a∈fd,-m<=a/\a<=m)
  (xs:=(List.range k).map fun (j:Nat)=>D.int j) (i:=0) (ρ:=vlS x1 c k m [] .no) ⟨x1,[],.no,rfl,rfl,rfl,by simp⟩ (fun j x ρ hxj h=>by
   obtain⟨ys,fd,x5,e,h1,h2,h3⟩:=h;subst e;have hj:j<k:=by
    have:=(List.getElem?_eq_some_iff.mp hxj).1;simpa using this
   obtain⟨ys',d,rfl⟩:=jka (show 0<ys.length by omega)
   refine⟨vlS ys' c k m (fd++[d%(2 * m+1) - m]) (.dat x),?_,ys',fd++[d%(2 * m+1) - m],.dat x,rfl,by simp at h1;omega,by simp;omega,fun a ha=>?_⟩
   ·have ep:putT [5] true x (vlS (ys'++[d]) c k m fd x5)=.ok (vlS (ys'++[d]) c k m fd (.dat x)):=rfl;have e0:evE (jaa U W P n) U (.pop 0) (vlS (ys'++[d]) c k m fd (.dat x))=.ok (.dat (.int d),vlS ys' c k m fd (.dat x)):=jqZ rfl;have e1:=jay (o:=.sub) (y:=.var 3) (jay (o:=.mod) e0 (jay (o:=.add) (y:=.lit (.int 1)) (dy:=.int 1) (jay (o:=.mul) (x:=.lit (.int 2)) (y:=.var 3) (dx:=.int 2) rfl (jcH (i:=3) rfl) (by rw[jcj,if_pos (.inl (by decide))])) rfl rfl) (by rw[jaJ,if_pos @0])) (jcH (i:=3) rfl) rfl
    rw[ep,R.bind_ok'];unfold jba;rw[jae (jmW (ys:=fd.map D.int) (xs:=fd.map D.int) (f:=false) (f':=false) (k':=false) e1 rfl rfl (jby (by rw[jtQ];omega))),evSs]
    show R.ok (Fl.nx (vlS ys' c k m fd (.dat x) |>.set 4 _))=_;have hmp:(fd++[d%(2 * m+1) - m]).map D.int=fd.map D.int++[.int (d%(2 * m+1) - m)]:=by simp
    unfold vlS;rw[hmp];rfl
   ·rcases List.mem_append.mp ha with ha | ha
    ·exact h3 a ha
    ·have e1:a=d%(2 * m+1) - m:=by simpa using ha
     have q0:=Int.emod_nonneg d (show 2 * m+1≠0 by omega)
     have q1:=Int.emod_lt_of_pos d (show 0<2 * m+1 by omega)
     omega)
 obtain⟨ρ1,e1,ys,fd,x5,rfl,h1,h2,h3⟩:=lp;rw[jtQ,List.length_range,Nat.zero_add]at h1 h2;have t1:∀(fd:List Int) (v:Int),evT (jaa U W P n) U (.cmp .eq (.bin .mod (.bin .fdiv (.var 1) (.lit (.int 5))) (.lit (.int 5))) (.lit (.int v))) (vlS ys c k m fd x5)=.ok (c / 5%5==v,vlS ys c k m fd x5):=fun fd v=>jmX (jay (o:=.mod) (y:=.lit (.int 5)) (dy:=.int 5) (jay (o:=.fdiv) (x:=.var 1) (y:=.lit (.int 5)) (dy:=.int 5) (jcH (i:=1) rfl) rfl (by rw[jck,if_pos (by decide)])) rfl (by rw[jaJ,if_pos (by decide)])) rfl rfl
 obtain⟨f2,g1,g2,s6⟩:∃f2:List Int,f2.length=k/\(∀a∈f2,-m<=a/\a<=m)/\evS (jaa U W P n) U W (.ife (.cmp .eq (.bin .mod (.bin .fdiv (.var 1) (.lit (.int 5))) (.lit (.int 5))) (.lit (.int 1))) (.cons (.sub 4 (.bin .mod (.bin .fdiv (.var 1) (.lit (.int 25))) (.var 2)) (.lit (.int 0))) .nil) .nil) (vlS ys c k m fd x5)=.ok (.nx (vlS ys c k m f2 x5)):=by
  have t:=t1 fd 1;cases hc:(c / 5%5==1)with
  |false=>rw[hc]at t;exact⟨fd,h2,h3,jjX t⟩
  |true=>
   rw[hc]at t;obtain⟨f',l1,l2,l3⟩:=jm3 (W:=W) (G:=jaa U W P n) (ys:=ys) (c:=c) (k:=k) (m:=m) (v:=0) (fd:=fd) (x5:=x5) (e:=.lit (.int 0)) @0 @0 rfl
   refine⟨f',by omega,fun a ha=>?_,?_⟩
   ·rcases l2 a ha with q | q
    ·exact h3 a q
    ·omega
   ·rw[jmq t,if_pos rfl,jae l3,evSs]
 obtain⟨f3,g3,g4,s7⟩:∃f3:List Int,f3.length=k/\(∀a∈f3,-m<=a/\a<=m)/\evS (jaa U W P n) U W (.ife (.cmp .eq (.bin .mod (.bin .fdiv (.var 1) (.lit (.int 5))) (.lit (.int 5))) (.lit (.int 2))) (.cons (.sub 4 (.bin .mod (.bin .fdiv (.var 1) (.lit (.int 25))) (.var 2)) (.idx (.var 4) (.lit (.int 0)))) .nil) .nil) (vlS ys c k m f2 x5)=.ok (.nx (vlS ys c k m f3 x5)):=by
  have t:=t1 f2 2;cases hc:(c / 5%5==2)with
  |false=>rw[hc]at t;exact⟨f2,g1,g2,jjX t⟩
  |true=>
   rw[hc]at t;obtain⟨a0,r0,rfl⟩:∃a0 r0,f2=a0::r0:=by
    cases f2 with
    |nil=>simp at g1;omega
    |cons a b=>exact⟨a,b,rfl⟩
   obtain⟨f',l1,l2,l3⟩:=jm3 (W:=W) (G:=jaa U W P n) (ys:=ys) (c:=c) (k:=k) (m:=m) (v:=a0) (fd:=a0::r0) (x5:=x5) (e:=.idx (.var 4) (.lit (.int 0))) @0 @0 rfl
   refine⟨f',by omega,fun a ha=>?_,?_⟩
   ·rcases l2 a ha with q | q
    ·exact g2 a q
    ·rw[q];exact g2 a0 jtJ
   ·rw[jmq t,if_pos rfl,jae l3,evSs]
 refine⟨f3,ys,m,b,by rw[g3];exact hkm,g4,by simp;omega,?_⟩
 show (evSs (jaa U W P n) U W jaG [.own (.l ((x1++[c]).map .int)) true false,.no,.no,.no,.no,.no]).bind (jcZ 1)=_;unfold jaG;have e0:evE (jaa U W P n) U (.pop 0) [.own (.l ((x1++[c]).map .int)) true false,.no,.no,.no,.no,.no]=.ok (.dat (.int c),[.own (.l (x1.map .int)) true false,.no,.no,.no,.no,.no]):=jqZ rfl;rw[jae (ρ':=[.own (.l (x1.map .int)) true false,.dat (.int c),.no,.no,.no,.no]) (by rw[jci e0 @11];rfl)]
 have ek:=jay (G:=jaa U W P n) (o:=.add) (x:=.lit (.int 1)) (dx:=.int 1) (ρ:=[.own (.l (x1.map .int)) true false,.dat (.int c),.no,.no,.no,.no]) rfl (jay (o:=.mod) (x:=.var 1) (y:=.lit (.int 5)) (dy:=.int 5) (jcH (i:=1) rfl) rfl (by rw[jaJ,if_pos (by decide)])) rfl
 rw[jae (ρ':=[.own (.l (x1.map .int)) true false,.dat (.int c),.dat (.int k),.no,.no,.no]) (by rw[jci ek @11,<-hk];rfl)]
 have em:=joZ (G:=jaa U W P n) (x:=.lst (.cons (.lit (.int 8)) (.cons (.lit (.int 8)) (.cons (.lit (.int 8)) (.cons (.lit (.int 4)) (.cons (.lit (.int 3)) .nil)))))) (ρ:=[.own (.l (x1.map .int)) true false,.dat (.int c),.dat (.int k),.no,.no,.no]) rfl (jay (o:=.sub) (x:=.var 2) (y:=.lit (.int 1)) (dy:=.int 1) (jcH (i:=2) rfl) rfl rfl) ea;rw[jae (ρ':=[.own (.l (x1.map .int)) true false,.dat (.int c),.dat (.int k),.dat (.int m),.no,.no]) (by rw[jci em @11];rfl)]
 rw[jae (ρ':=vlS x1 c k m [] .no) rfl];rw[jae (ρ':=vlS ys c k m fd x5) (by
  have hi:evI (jaa U W P n) U (.rng1 (.var 2)) (vlS x1 c k m [] .no)=.ok ((List.range k).map fun (j:Nat)=>D.int j,[],vlS x1 c k m [] .no):=by
   show R.bind (jeH (.int (k:Int))) _=_;rw[jgU k @0]
   rfl
  rw[evS,hi,R.bind_ok',e1];rfl)]
 rw[jae s6,jae s7];rfl
end Law
namespace Law
open PySem L2 DJ
variable {W n:Nat}
noncomputable abbrev dS (A:List Int)(cs:D)(b:Int)(r:List Int)(t:Int)(x5 x6:Sl):Rho:=[.dat (tu A),.dat cs,.dat (.int b),.own (.l (r.map D.int)) false false,.dat (.int t),x5,x6]
theorem jpa {G:Calls}{A:List Int}{cs:D}{b t c:Int}{r:List Int}{x6:Sl}(hA:1<=A.length/\A.length<=1000)(h:Sol A t r)(ht:-b<=t/\t<=b) :
  ∃r' t' y6,Sol A t' r'/\(-b<=t'/\t'<=b)/\r'.sum<=r.sum+1/\evSs G U W jar (dS A cs b r t (.dat (.int c)) x6)=.ok (.nx (dS A cs b r' t' (.dat (.int c)) y6)):=by
 obtain⟨j,hj⟩:∃j:Nat,(j:Int)=c%A.length:=⟨(c%A.length).toNat,by have:=Int.emod_nonneg c (show (A.length:Int)≠0 by omega);omega⟩
 have hjl:j<A.length:=by have:=Int.emod_lt_of_pos c (show (0:Int)<A.length by omega);omega
 have hjr:j<r.length:=by rw[h.len];exact hjl
 have el:evE G U (.blt .len (.var 0)) (dS A cs b r t (.dat (.int c)) x6)=.ok (.dat (.int (A.length:Int)),dS A cs b r t (.dat (.int c)) x6):=by
  show R.ok (Vl.dat (.int ((A.map D.int).length:Int)),_)=_;rw[jtQ]
 have e6:=jay (o:=.mod) (x:=.var 5) (jcH (ρ:=dS A cs b r t (.dat (.int c)) x6) (i:=5) rfl) el (by rw[jaJ,if_pos @0])
 rw[<-hj]at e6;unfold jar;rw[jae (ρ':=dS A cs b r t (.dat (.int c)) (.dat (.int j))) (by rw[jci e6 @11];rfl)]
 have iA:DJ.atI (A.map D.int) (j:Int)=.ok (.int A[j]):=jsF (jtH hjl);have ir:DJ.atI (r.map D.int) (j:Int)=.ok (.int r[j]):=jsF (jtH hjr);have gA:A.getD j 0=A[j]:=by rw[jtP,jtH hjl];rfl
 have gr:r.getD j 0=r[j]:=by rw[jtP,jtH hjr];rfl
 have ea:∀r:List Int,evE G U (.bin .add (.var 4) (.idx (.var 0) (.var 6))) (dS A cs b r t (.dat (.int c)) (.dat (.int j)))=.ok (.dat (.int (t+A[j])),dS A cs b r t (.dat (.int c)) (.dat (.int j))):=fun r=>jay (o:=.add) (jcH (i:=4) rfl) (jrs (jcH (i:=0) rfl) (jcH (i:=6) rfl) iA) rfl;have eb:evE G U (.blt .abs (.bin .add (.var 4) (.idx (.var 0) (.var 6)))) (dS A cs b r t (.dat (.int c)) (.dat (.int j)))=.ok (.dat (.int (if t+A[j]<0 then -(t+A[j])else t+A[j])),dS A cs b r t (.dat (.int c)) (.dat (.int j))):=by
  rw[evE,ea r];rfl
 have tc:=jmX (oc:=.le) (y:=.var 2) eb (jcH (i:=2) rfl) jj6;by_cases hc:(if t+A[j]<0 then -(t+A[j])else t+A[j])<=b
 ·rw[decide_eq_true hc]at tc;refine⟨up r j,t+A[j],.dat (.int j),⟨by rw[jdP,h.len],jmo h.nn,by rw[jid h.len.symm hjr,h.eq,gA]⟩,?_,by rw[jdQ hjr];exact Int.le_refl _,?_⟩
  ·split at hc <;> omega
  ·have ev:evE G U (.bin .add (.idx (.var 3) (.var 6)) (.lit (.int 1))) (dS A cs b r t (.dat (.int c)) (.dat (.int j)))=.ok (.dat (.int (r[j]+1)),dS A cs b r t (.dat (.int c)) (.dat (.int j))):=by
    refine jay (o:=.add) (dx:=.int r[j]) (dy:=.int 1) ?_ rfl rfl;show R.bind (DJ.atI (r.map D.int) (j:Int)) _=_;rw[ir];rfl
   rw[jae (ρ':=dS A cs b (up r j) (t+A[j]) (.dat (.int c)) (.dat (.int j))) (by
    rw[jmq tc,if_pos rfl];rw[jae (ρ':=dS A cs b (up r j) t (.dat (.int c)) (.dat (.int j))) (by
     rw[evS,ev,R.bind_ok'];show (if 0<=(j:Int)/\(j:Int)<((r.map D.int).length:Int)then R.ok (Fl.nx ((dS A cs b r t (.dat (.int c)) (.dat (.int j))).set 3 (.own (.l ((r.map D.int).set (j:Int).toNat (.int (r[j]+1)))) false false)))else .stk)=_;rw[if_pos ⟨by omega,by rw[jtQ];omega⟩,<-List.map_set,Int.toNat_natCast]
     unfold up;rw[gr];rfl)]
    rw[jae (ρ':=dS A cs b (up r j) (t+A[j]) (.dat (.int c)) (.dat (.int j))) (by rw[jci (ea (up r j)) @11];rfl),evSs]),evSs]
 ·rw[decide_eq_false hc]at tc;exact⟨r,t,.dat (.int j),h,ht,by omega,by rw[jae (jjX tc),evSs]⟩
theorem jky {G:Calls}{A:List Int}{cs:D}{b:Int}(hA:1<=A.length/\A.length<=1000):∀(xs:List Int) (r:List Int) (t:Int) (x5 x6:Sl),Sol A t r->(-b<=t/\t<=b) ->
  ∃r' t' y5 y6,Sol A t' r'/\(-b<=t'/\t'<=b)/\r'.sum<=r.sum+xs.length/\ja6 (fun x r=>(putT [5] true x r).bind fun r'=>evSs G U W jar r') (xs.map D.int) (dS A cs b r t x5 x6)=.ok (.nx (dS A cs b r' t' y5 y6))
 |[],r,t,x5,x6,h,ht=>⟨r,t,x5,x6,h,ht,by simp,rfl⟩
 |x::xs,r,t,x5,x6,h,ht=>by
  obtain⟨r1,t1,z6,g1,g2,g3,e1⟩:=jpa (W:=W) (G:=G) (cs:=cs) (c:=x) (x6:=x6) hA h ht;obtain⟨r2,t2,y5,y6,q1,q2,q3,e2⟩:=jky hA xs r1 t1 (.dat (.int x)) z6 g1 g2;refine⟨r2,t2,y5,y6,q1,q2,by rw[jtR];omega,?_⟩
  rw[jtO,jb4 (ρ1:=dS A cs b r t (.dat (.int x)) x6) rfl e1];exact e2
theorem jpb {A:List Int}{m b:Int}(hk:Km A.length m b)(cs:List Int):∃(r:List Int) (t:Int),Sol A t r/\(-b<=t/\t<=b)/\r.sum<=cs.length/\CD W (n+2) 15 [.dat (tu A),.dat (.lst (cs.map D.int))]=.ok (.tmp (.l [.lst (r.map D.int),.int t]),[.no,.no]):=by
 have hk5:1<=A.length/\A.length<=5:=by rcases hk with q | q | q | q | q <;> omega
 have hb0:0<=b:=(hk.ok).b.1;obtain⟨m',b',hk',e14⟩:=jo9 (W:=W) (n:=n) hk5;have hbb:b'=b:=by
  rcases hk with ⟨q1,q2,q3⟩ | ⟨q1,q2,q3⟩ | ⟨q1,q2,q3⟩ | ⟨q1,q2,q3⟩ | ⟨q1,q2,q3⟩ <;> rcases hk' with ⟨p1,p2,p3⟩ | ⟨p1,p2,p3⟩ | ⟨p1,p2,p3⟩ | ⟨p1,p2,p3⟩ | ⟨p1,p2,p3⟩ <;> omega
 subst hbb;obtain⟨r,t,y5,y6,g1,g2,g3,e⟩:=jky (W:=W) (G:=jaa U W P (n+1)) (A:=A) (cs:=.lst (cs.map D.int)) (b:=b') ⟨hk5.1,by omega⟩ cs (zs A.length) 0 .no .no ⟨jbN _,jo5 _,jif A⟩ @0
 rw[jg7]at g3;refine⟨r,t,g1,g2,by omega,?_⟩
 rw[CD,jai (d:=⟨2,7,jaq⟩) rfl rfl];show (evSs (jaa U W P (n+1)) U W jaq [.dat (tu A),.dat (.lst (cs.map D.int)),.no,.no,.no,.no,.no]).bind (jcZ 2)=_;unfold jaq;have ec:=jaF (G:=jaa U W P (n+1)) (U:=U) (k:=14) (es:=.cons (.var 0) .nil) (ρ:=[.dat (tu A),.dat (.lst (cs.map D.int)),.no,.no,.no,.no,.no]) [tu A] rfl e14;rw[jae (ρ':=[.dat (tu A),.dat (.lst (cs.map D.int)),.dat (.int b'),.no,.no,.no,.no]) (by rw[jci ec @11];rfl)]
 have hc:evE (jaa U W P (n+1)) U jbg [.dat (tu A),.dat (.lst (cs.map D.int)),.dat (.int b'),.no,.no,.no,.no]=.ok (.tmp (.l (A.map fun _=>D.int 0)),[.dat (tu A),.dat (.lst (cs.map D.int)),.dat (.int b'),.no,.no,.no,.no]):=
  jej (h:=D.int) (g:=fun _=>D.int 0) (xs:=A) rfl (fun a ha=>rfl) fun s=>rfl
 rw[show (A.map fun _=>D.int 0)=(zs A.length).map D.int by rw[zs,List.map_replicate,List.map_const']]at hc
 rw[jae (ρ':=[.dat (tu A),.dat (.lst (cs.map D.int)),.dat (.int b'),.own (.l ((zs A.length).map D.int)) false false,.no,.no,.no]) (by rw[jjY hc @11];rfl)]
 rw[jae (ρ':=dS A (.lst (cs.map D.int)) b' (zs A.length) 0 .no .no) rfl];rw[jae (ρ':=dS A (.lst (cs.map D.int)) b' r t y5 y6) (by
  rw[evS,show evI (jaa U W P (n+1)) U (.seq (.var 1)) (dS A (.lst (cs.map D.int)) b' (zs A.length) 0 .no .no)=.ok (cs.map D.int,[],dS A (.lst (cs.map D.int)) b' (zs A.length) 0 .no .no)from rfl,R.bind_ok',e];rfl)]
 rfl
end Law
namespace Law
open PySem L2 DJ
variable {W n:Nat}
theorem jkz:∀(r:List Int) (m:Int),decide (0<=jkC r m)=(m::r).all fun x=>decide (0<=x)
 |[],m=>by
  show decide (0<=m)=(decide (0<=m)&&true);rw[Bool.and_true]
 |x::r,m=>by
  show decide (0<=jkC r (if x<m then x else m))=_;rw[jkz r];simp only[List.all_cons];by_cases h:x<m
  ·rw[if_pos h];by_cases h0:0<=x
   ·rw[decide_eq_true h0,decide_eq_true (show 0<=m by omega)];simp
   ·rw[decide_eq_false h0];simp
  ·rw[if_neg h];by_cases h0:0<=m
   ·rw[decide_eq_true h0,decide_eq_true (show 0<=x by omega)];simp
   ·rw[decide_eq_false h0];simp
theorem jrh {G:Calls}{ρ:Rho}{i:Nat}{xs:List Int}{d:D}(hd:jat d=.ok (xs.map D.int))(h0:xs≠[])(hv:∃v,evE G U (.var i) ρ=.ok (v,ρ)/\deref v ρ=.ok d):evT G U (.cmp .ge (.blt .min (.var i)) (.lit (.int 0))) ρ=.ok (xs.all fun x=>decide (0<=x),ρ):=by
 obtain⟨v,h1,h2⟩:=hv;cases xs with
 |nil=>exact absurd rfl h0
 |cons a r=>
  have e:evE G U (.blt .min (.var i)) ρ=.ok (.dat (.int (jkC r a)),ρ):=by
   rw[evE,h1,R.bind_ok',h2,R.bind_ok'];show R.bind (R.bind (jat d) _) _=_;rw[hd,R.bind_ok',jbo];rfl
  rw[<-jkz];exact jmX e rfl rfl
theorem jri {r f:List Int}(h:r.length=f.length):((sb r f).all fun x=>decide (0<=x))=le f r:=by
 induction r generalizing f with
 |nil=>
  cases f with
  |nil=>rfl
  |cons _ _=>cases h
 |cons a r ih=>
  cases f with
  |nil=>cases h
  |cons b f=>
   show (decide (0<=a - b)&&(sb r f).all fun x=>decide (0<=x))=(decide (b<=a)&&le f r);rw[ih (Nat.succ.inj h)];congr 1;exact decide_eq_decide.mpr ⟨fun _=>by omega,fun _=>by omega⟩
theorem jtE {G:Calls}{r f:List Int}{ρ:Rho}(h0:ρ[0]?=some (.dat (.lst (r.map D.int))))(h2:ρ[2]?=some (.dat (tu f))):evE G U jaL ρ=.ok (.tmp (.l ((sb r f).map D.int)),ρ):=by
 unfold jaL;have hm:(sb r f).map D.int=(r.zip f).map fun p=>D.int (p.1 - p.2):=by simp only[sb,List.map_map];rfl
 rw[hm];simp only[evE,evI,h0,h2,R.bind_ok',jan,jki,jat,jcP,jt5];rw[ja5 (g:=fun p:Int×Int=>D.int (p.1 - p.2))]
 ·rw[ja2];rfl
 ·intro p hp;rfl
theorem jkA {r:List Int}{d1:D}(hr:1<=r.length):∀(F:List @9) (x2 x3:Sl),(∀f∈F,f.length=r.length/\∀x∈f,0<=x)->(∃f∈F,Bd f r) ->
  ∃f∈F,Bd f r/\ja6 (fun x r=>(putT [2] true x r).bind fun r'=>evSs (jaa U W P n) U W jaM r') (F.map tu) [.dat (.lst (r.map D.int)),.dat d1,x2,x3]=.ok (.rt (.tmp (.l [.lst ((sb r f).map D.int),.int f.sum])) [.dat (.lst (r.map D.int)),.dat d1,.dat (tu f),.dat (.lst ((sb r f).map D.int))])
 |[],x2,x3,_,h=>by obtain⟨f,hf,_⟩:=h;cases hf
 |f::F,x2,x3,hF,h=>by
  obtain⟨hl,hn⟩:=hF f jtJ;have ez:=jtE (G:=jaa U W P n) (r:=r) (f:=f) (ρ:=[.dat (.lst (r.map D.int)),.dat d1,.dat (tu f),x3]) rfl rfl;have hsl:(sb r f).length=r.length:=by unfold sb;rw[jtQ,List.length_zip,hl,Nat.min_self]
  have s1:evS (jaa U W P n) U W (.asg 3 jaL) [.dat (.lst (r.map D.int)),.dat d1,.dat (tu f),x3]=.ok (.nx @3):=by rw[jjY ez @11];rfl
  have t1:evT (jaa U W P n) U (.cmp .eq (.blt .len (.var 2)) (.blt .len (.var 0))) @3=.ok (true,@3):=by
   refine jmX (ρ1:=@3) (dx:=.int (f.length:Int)) (dy:=.int (r.length:Int)) ?_ ?_ ?_
   ·show R.ok (Vl.dat (.int ((f.map D.int).length:Int)),_)=_;rw[jtQ]
   ·show R.ok (Vl.dat (.int ((r.map D.int).length:Int)),_)=_;rw[jtQ]
   ·rw[hl];show R.ok ((r.length:Int)==(r.length:Int))=_;rw[beq_self_eq_true]
  have t2:=jrh (G:=jaa U W P n) (i:=3) (xs:=sb r f) (d:=.lst ((sb r f).map D.int)) (ρ:=@3) rfl (fun z=>by rw[z]at hsl;simp at hsl;omega) ⟨.slot 3,rfl,rfl⟩
  have t3:=jrh (G:=jaa U W P n) (i:=2) (xs:=f) (d:=tu f) (ρ:=@3) rfl (fun z=>by rw[z]at hl;simp at hl;omega) ⟨.dat (tu f),rfl,rfl⟩
  rw[jri hl.symm]at t2;rw[show (f.all fun x=>decide (0<=x))=true from List.all_eq_true.mpr fun x hx=>decide_eq_true (hn x hx)]at t3;cases hle:le f r with
  |true=>
   rw[hle]at t2;have hb:Bd f r:=jkj hl hn hle;refine⟨f,jtJ,hb,?_⟩;rw[jtO];refine jmZ (ρ1:=[.dat (.lst (r.map D.int)),.dat d1,.dat (tu f),x3]) rfl ?_;unfold jaM;rw[jae s1];have es:evE (jaa U W P n) U (.blt .sum (.var 2)) [.dat (.lst (r.map D.int)),.dat d1,.dat (tu f),.dat (.lst ((sb r f).map D.int))]=.ok (.dat (.int f.sum),[.dat (.lst (r.map D.int)),.dat d1,.dat (tu f),.dat (.lst ((sb r f).map D.int))]):=by
    simp_arith[bfD,tu,jbo]
   have er:evE (jaa U W P n) U (.lst (.cons (.var 3) (.cons (.blt .sum (.var 2)) .nil))) @3=.ok (.tmp (.l [.lst ((sb r f).map D.int),.int f.sum]),[.dat (.lst (r.map D.int)),.dat d1,.dat (tu f),.dat (.lst ((sb r f).map D.int))]):=by
    rw[evE,evEs,show evE (jaa U W P n) U (.var 3) @3=.ok (.slot 3,@3)from rfl,R.bind_ok',show toD (.slot 3) @3=.ok (.lst ((sb r f).map D.int),[.dat (.lst (r.map D.int)),.dat d1,.dat (tu f),.dat (.lst ((sb r f).map D.int))])from rfl,R.bind_ok',evEs,es];rfl
   rw[jcD (v:=.tmp (.l [.lst ((sb r f).map D.int),.int f.sum])) (ρ':=[.dat (.lst (r.map D.int)),.dat d1,.dat (tu f),.dat (.lst ((sb r f).map D.int))]) (by
    rw[jmq (jmr t1 (jmr t2 t3)),if_pos rfl];rw[evSs,evS,er];rfl)]
  |false=>
   rw[hle]at t2;obtain⟨g,hg,hgb,e⟩:=jkA hr F (.dat (tu f)) (.own (.l ((sb r f).map D.int)) false false) (fun q hq=>hF q (jtI _ hq)) (by
    obtain⟨q,hq,hb⟩:=h;rcases List.mem_cons.mp hq with rfl | hq
    ·rw[hb.le]at hle;cases hle
    ·exact⟨q,hq,hb⟩)
   refine⟨g,jtI _ hg,hgb,?_⟩;rw[jtO,jb4 (ρ1:=[.dat (.lst (r.map D.int)),.dat d1,.dat (tu f),x3]) (ρ2:=@3) rfl (by
    unfold jaM;rw[jae s1,jae (jjX (jmr t1 (jmY t2))),evSs])]
   exact e
theorem jkB {r:List Int}{F:List @9}(hr:1<=r.length)(hF:∀f∈F,f.length=r.length/\∀x∈f,0<=x)(h:∃f∈F,Bd f r) :
  ∃f∈F,Bd f r/\CD W (n+1) 16 [.dat (.lst (r.map D.int)),.dat (.tup (F.map tu))]=.ok (.tmp (.l [.lst ((sb r f).map D.int),.int f.sum]),[.no,.no]):=by
 obtain⟨f,h1,h2,e⟩:=jkA (W:=W) (n:=n) (d1:=.tup (F.map tu)) hr F .no .no hF h;refine⟨f,h1,h2,?_⟩;rw[CD,jai (d:=⟨2,4,jaV⟩) rfl rfl];show (evSs (jaa U W P n) U W jaV [.dat (.lst (r.map D.int)),.dat (.tup (F.map tu)),.no,.no]).bind (jcZ 2)=_;unfold jaV;rw[jcD (v:=.tmp (.l [.lst ((sb r f).map D.int),.int f.sum])) (ρ':=[.dat (.lst (r.map D.int)),.dat (.tup (F.map tu)),.dat (tu f),.dat (.lst ((sb r f).map D.int))]) (by
  rw[evS,show evI (jaa U W P n) U (.seq (.var 1)) [.dat (.lst (r.map D.int)),.dat (.tup (F.map tu)),.no,.no]=.ok (F.map tu,[],[.dat (.lst (r.map D.int)),.dat (.tup (F.map tu)),.no,.no])from rfl,R.bind_ok',e];rfl)]
 rfl
end Law
namespace Law
open PySem L2 DJ
variable {W n:Nat}
theorem jg9:∀(r:List Int) (a:Int),jih r a∈a::r
 |[],a=>jtJ
 |x::r,a=>by
  show jih r (if x>a then x else a)∈a::x::r;have:=jg9 r (if x>a then x else a);rcases List.mem_cons.mp this with h | h
  ·rw[h];split
   ·exact jtI _ jtJ
   ·exact jtJ
  ·exact jtI _ (jtI _ h)
theorem jm4:∀{l:List Int}{x:Int},(∀y∈l,0<=y)->x∈l->x<=l.sum
 |y::l,x,hn,hx=>by
  have h0:0<=l.sum:=(jcp (Bd.self fun q hq=>hn q (jtI _ hq))).1;have hy:=hn y jtJ;rw[List.sum_cons];rcases List.mem_cons.mp hx with rfl | hx
  ·omega
  ·have:=jm4 (fun q hq=>hn q (jtI _ hq)) hx;omega
noncomputable abbrev aS (A r:List Int)(t:Int)(F:List @9)(x4 x5:Sl):Rho:=[.dat (tu A),.dat (.lst (r.map D.int)),.dat (.int t),.dat (.tup (F.map tu)),x4,x5]
theorem jrj {G:Calls}{A r:List Int}{t:Int}{F:List @9}{l:List Int}{x5:Sl}(h:1<=l.length):evT G U (.cmp .eq (.var 4) (.lst .nil)) (aS A r t F (.dat (.lst (l.map D.int))) x5)=.ok (false,aS A r t F (.dat (.lst (l.map D.int))) x5):=by
 have hq:eqR (.lst (l.map D.int)) (.lst [])=.ok false:=by
  rw[joS (je2 l) (by rw[je3];decide)]
  cases l with
  |nil=>simp at h
  |cons a b=>rfl
 show R.bind (eqR (.lst (l.map D.int)) (.lst [])) _=_;rw[hq];rfl
theorem jm5 {A l f:List Int}{t s:Int}(hl:Sol A t l)(hf:Sol A s f)(hb:Bd f l):Sol A (t - s) (sb l f)/\(sb l f).sum=l.sum - f.sum:=by
 obtain⟨d1,d2⟩:=hb.sb';have dl:f.length=(sb l f).length:=by rw[d1.len,hb.len]
 have h1:=joW A dl;have h2:=jgY dl;rw[d2]at h1 h2;have e1:=hl.eq;have e2:=hf.eq;exact⟨⟨by rw[d1.len,hl.len],d1.sm,by omega⟩,by omega⟩
theorem jpc {A r:List Int}{t:Int}{F:List @9}(hA:1<=A.length)(hF:Lp A F){l:List Int}{x5:Sl}(hl:Sol A 0 l)(hW:l.sum.toNat<W) :
  ∃y4 y5,evS (jaa U W P (n+1)) U W (.whl (.cmp .gt (.blt .max (.var 4)) (.lit (.int 0))) jbh) (aS A r t F (.dat (.lst (l.map D.int))) x5)=.ok (.nx (aS A r t F y4 y5)):=by
 have wl:=jg5 (c:=fun r=>evT (jaa U W P (n+1)) U (.cmp .gt (.blt .max (.var 4)) (.lit (.int 0))) r) (f:=fun r=>evSs (jaa U W P (n+1)) U W jbh r)
  (fun k ρ=>∃(l:List Int) (x5:Sl),Sol A 0 l/\l.sum.toNat=k/\ρ=aS A r t F (.dat (.lst (l.map D.int))) x5)
  (fun ρ=>∃y4 y5,ρ=aS A r t F y4 y5) (fun k ρ hk=>by
   obtain⟨l,x5,h1,h2,rfl⟩:=hk;obtain⟨a,q,rfl⟩:∃a q,l=a::q:=by
    cases l with
    |nil=>have:=h1.len;simp at this;omega
    |cons a b=>exact⟨a,b,rfl⟩
   have em:evE (jaa U W P (n+1)) U (.blt .max (.var 4)) (aS A r t F (.dat (.lst ((a::q).map D.int))) x5)=.ok (.dat (.int (jih q a)),aS A r t F (.dat (.lst ((a::q).map D.int))) x5):=by
    have hb:bfD .max (.lst ((a::q).map D.int))=.ok (.dat (.int (jih q a))):=by
     simp only[bfD,jat,R.bind_ok',jbo]
    rw[evE,show evE (jaa U W P (n+1)) U (.var 4) (aS A r t F (.dat (.lst ((a::q).map D.int))) x5)=.ok (.dat (.lst ((a::q).map D.int)),aS A r t F (.dat (.lst ((a::q).map D.int))) x5)from rfl,R.bind_ok',jaR,R.bind_ok',hb];rfl
   have tc:=jmX (oc:=.gt) (y:=.lit (.int 0)) em rfl jei;by_cases hm:0<jih q a
   ·right
    rw[decide_eq_true hm]at tc;have hs:=jm4 h1.nn (jg9 q a);obtain⟨f,hf,hb,ec⟩:=jkB (W:=W) (n:=n) (r:=a::q) (F:=F) @11 (fun f hf=>⟨by rw[(hF.sol f hf).1.len,h1.len],(hF.sol f hf).1.nn⟩) (hF.has h1 @0)
    obtain⟨g1,g2⟩:=hF.sol f hf;obtain⟨s1,s2⟩:=jm5 h1 g1 hb;have hf0:=(jcp hb).1;have hs0:=(jcp (Bd.self s1.nn)).1;refine⟨tc,aS A r t F (.dat (.lst ((sb (a::q) f).map D.int))) (.dat (.int f.sum)),(sb (a::q) f).sum.toNat,by omega,?_,sb (a::q) f,.dat (.int f.sum),by simpa using s1,rfl,rfl⟩
    have e16:=jaF (G:=jaa U W P (n+1)) (U:=U) (k:=16) (es:=.cons (.var 4) (.cons (.var 3) .nil)) (ρ:=aS A r t F (.dat (.lst ((a::q).map D.int))) x5) [.lst ((a::q).map D.int),.tup (F.map tu)] rfl ec;unfold jbh;rw[jae (ρ':=aS A r t F (.dat (.lst ((sb (a::q) f).map D.int))) (.dat (.int f.sum))) (by rw[evS,e16];rfl)]
    have n1:=jrj (G:=jaa U W P (n+1)) (A:=A) (r:=r) (t:=t) (F:=F) (l:=sb (a::q) f) (x5:=.dat (.int f.sum)) (by rw[s1.len];exact hA)
    have n2:evT (jaa U W P (n+1)) U (.cmp .lt (.var 5) (.lit (.int 1))) (aS A r t F (.dat (.lst ((sb (a::q) f).map D.int))) (.dat (.int f.sum)))=.ok (false,aS A r t F (.dat (.lst ((sb (a::q) f).map D.int))) (.dat (.int f.sum))):=by
     refine jmX (jcH (i:=5) rfl) rfl ?_;show R.ok (decide (f.sum<1))=_;rw[decide_eq_false @0]
    rw[jae (jjX (jtx n1 n2)),evSs]
   ·left
    rw[decide_eq_false hm]at tc;exact⟨tc,_,_,rfl⟩)
  (m:=W) (k:=l.sum.toNat) (ρ:=aS A r t F (.dat (.lst (l.map D.int))) x5) hW ⟨l,x5,hl,rfl,rfl⟩
 obtain⟨ρ',e,y4,y5,rfl⟩:=wl;exact⟨y4,y5,by rw[evS];exact e⟩
theorem jsI {A r:List Int}{m b t:Int}{F:List @9}(hk:Km A.length m b)(hA:∀a∈A,-m<=a/\a<=m)(hF:Lp A F)(hr:Sol A t r)(ht:-b<=t/\t<=b)(hs:r.sum<=63)(hW:70<=W) :
  CD W (n+7) 17 [.dat (tu A),.dat (.lst (r.map D.int)),.dat (.int t),.dat (.tup (F.map tu))]=.ok (.dat (.bl true),[.no,.no,.no,.no]):=by
 have o:=hk.ok;have hb30:b<=30:=by rcases hk with ⟨_,_,q⟩ | ⟨_,_,q⟩ | ⟨_,_,q⟩ | ⟨_,_,q⟩ | ⟨_,_,q⟩ <;> omega
 obtain⟨M,h1,h2,e11⟩:=jmu (W:=W) (n:=n) (hk.bd hA) ht o @0
 obtain⟨f,hf,hb,ec⟩:=jkB (W:=W) (n:=n+5) (r:=r) (F:=M) (by rw[hr.len];exact o.k.1) (fun f hf=>⟨by rw[(h1 f hf).len,hr.len],(h1 f hf).nn⟩) (h2 r hr)
 obtain⟨s1,s2⟩:=jm5 hr (h1 f hf) hb;rw[Int.sub_self]at s1;have hf0:=(jcp hb).1;obtain⟨y4,y5,el⟩:=jpc (W:=W) (n:=n+5) (r:=r) (t:=t) (x5:=.dat (.int f.sum)) o.k.1 hF s1 @0
 rw[CD,jai (d:=⟨4,6,jbr⟩) rfl rfl];show (evSs (jaa U W P (n+6)) U W jbr (aS A r t F .no .no)).bind (jcZ 4)=_;unfold jbr;have c11:=jaF (G:=jaa U W P (n+6)) (U:=U) (k:=11) (es:=.cons (.var 0) (.cons (.var 2) .nil)) (ρ:=aS A r t F .no .no) [tu A,.int t] rfl e11;have c16:=jaF (G:=jaa U W P (n+6)) (U:=U) (k:=16) (es:=.cons (.var 1) (.cons (.call 11 [] (.cons (.var 0) (.cons (.var 2) .nil))) .nil)) (ρ:=aS A r t F .no .no) [.lst (r.map D.int),.tup (M.map tu)] (as2 rfl c11) ec;rw[jae (ρ':=aS A r t F (.dat (.lst ((sb r f).map D.int))) (.dat (.int f.sum))) (by rw[evS,c16];rfl)]
 rw[jae (jjX (jrj (by rw[s1.len];exact o.k.1))),jae el]
 rfl
end Law
namespace Law
open PySem L2 DJ
variable {W n:Nat}
noncomputable abbrev wS (ns ys A cs:List Int)(F:List @9)(x5 x6 x7:Sl):Rho:=[.dat @10,.own (.l (ys.map D.int)) false false,.dat (tu A),.own (.l (cs.map D.int)) false false,.dat (.tup (F.map tu)),x5,x6,x7]
theorem jgg {ns ys A cs:List Int}{F:List @9}{m b v:Int}{x6 x7:Sl}(hk:Km A.length m b)(hA:∀a∈A,-m<=a/\a<=m)(hF:Lp A F)(hc:cs.length<=63)(hW:70<=W) :
  ∃y6 y7,evSs (jaa U W P (n+7)) U W jf7 (wS ns ys A cs F (.dat (.int v)) x6 x7)=.ok (.nx (wS ns ys A cs F (.dat (.int v)) y6 y7)):=by
 obtain⟨r,t,h1,h2,h3,e15⟩:=jpb (W:=W) (n:=n+5) hk (cut cs none (some v));have hl:(cut cs none (some v)).length<=63:=by
  unfold cut;rw[List.length_take,List.length_drop];omega
 have e17:=jsI (W:=W) (n:=n) hk hA hF h1 h2 @0 hW
 refine⟨.dat (.lst (r.map D.int)),.dat (.int t),?_⟩;have es:evE (jaa U W P (n+7)) U (.slc (.var 3) .none (.some (.var 5))) (wS ns ys A cs F (.dat (.int v)) x6 x7)=.ok (.tmp (.l ((cut cs none (some v)).map D.int)),wS ns ys A cs F (.dat (.int v)) x6 x7):=by
  rw[<-jek];rfl
 have c15:=jdn (G:=jaa U W P (n+7)) (k:=15) (es:=.cons (.var 2) (.cons (.slc (.var 3) .none (.some (.var 5))) .nil)) (ds:=[tu A,.lst ((cut cs none (some v)).map D.int)]) (as2 (show evE (jaa U W P (n+7)) U (.var 2) (wS ns ys A cs F (.dat (.int v)) x6 x7)=.ok (.dat (tu A),wS ns ys A cs F (.dat (.int v)) x6 x7)from rfl) es) (.cons pd (.cons pt .nil)) e15;unfold jf7;rw[jae (ρ':=wS ns ys A cs F (.dat (.int v)) (.dat (.lst (r.map D.int))) (.dat (.int t))) (by rw[evS,c15];rfl)]
 have t1:=joI (jeg (G:=jaa U W P (n+7)) (U:=U) (k:=17) (es:=.cons (.var 2) (.cons (.var 6) (.cons (.var 7) (.cons (.var 4) .nil)))) (ρ:=wS ns ys A cs F (.dat (.int v)) (.dat (.lst (r.map D.int))) (.dat (.int t))) [tu A,.lst (r.map D.int),.int t,.tup (F.map tu)] rfl e17);rw[jae (jjX t1),evSs]
theorem jsJ (ns:List Int)(hW:70<=W):∃fin,CD W (n+8) 18 [.dat (.lst (ns.map .int))]=.ok (.dat (.bl true),fin):=by
 obtain⟨xs,hx,_,e1⟩:=jrf (W:=W) (n:=n+6) (ns.take 63) (by rw[List.length_take];omega)
 obtain⟨A,ys,m,b,hk,hA,hy,e13⟩:=jmv (W:=W) (n:=n+6) xs @0
 have o:=hk.ok;have hb30:b<=30:=by rcases hk with ⟨_,_,q⟩ | ⟨_,_,q⟩ | ⟨_,_,q⟩ | ⟨_,_,q⟩ | ⟨_,_,q⟩ <;> omega
 obtain⟨F,hF,e10⟩:=jo6 (W:=W) (n:=n+1) (hk.bd hA) o @0
 obtain⟨d0,d1,yr,rfl⟩:∃d0 d1 yr,ys=d0::d1::yr:=by
  match ys,hy with
  |[],hy=>simp at hy;omega
  |[a],hy=>simp at hy;omega
  |a::c::r,_=>exact⟨a,c,r,rfl⟩
 refine⟨[.no],?_⟩;rw[CD,jai (d:=⟨1,8,jkb⟩) rfl rfl];show (evSs (jaa U W P (n+7)) U W jkb [.dat @10,.no,.no,.no,.no,.no,.no,.no]).bind (jcZ 1)=_;unfold jkb;have es:evE (jaa U W P (n+7)) U (.slc (.var 0) .none (.some (.lit (.int 63)))) [.dat @10,.no,.no,.no,.no,.no,.no,.no]=.ok (.tmp (.l ((ns.take 63).map D.int)),[.dat @10,.no,.no,.no,.no,.no,.no,.no]):=by
  simp_arith[jj9,jek]
  rw[show (63:Int)=((63:Nat):Int)from rfl,jgT]
 have c12:=jdn (G:=jaa U W P (n+7)) (k:=12) (es:=.cons (.slc (.var 0) .none (.some (.lit (.int 63)))) (.cons (.lit (.int 63)) .nil)) (ds:=[.lst ((ns.take 63).map D.int),.int 63]) (as2 es rfl) (.cons pt (.cons pd .nil)) e1;rw[jae (ρ':=[.dat @10,.own (.l (xs.map D.int)) false false,.no,.no,.no,.no,.no,.no]) (by rw[evS,c12];rfl)]
 have g13:jaa U W P (n+7) 13 [.own (.l (xs.map .int)) true false]=_:=e13;have c13:evE (jaa U W P (n+7)) U (.call 13 [true] (.cons (.var 1) .nil)) [.dat @10,.own (.l (xs.map D.int)) false false,.no,.no,.no,.no,.no,.no]=.ok (.dat (tu A),[.dat @10,.own (.l ((d0::d1::yr).map D.int)) false false,.no,.no,.no,.no,.no,.no]):=by
  rw[evE,show evAs (jaa U W P (n+7)) U (.cons (.var 1) .nil) [.dat @10,.own (.l (xs.map D.int)) false false,.no,.no,.no,.no,.no,.no]=.ok ([.slot 1],[.dat @10,.own (.l (xs.map D.int)) false false,.no,.no,.no,.no,.no,.no])from rfl,R.bind_ok',show jak [true] [.slot 1] [.dat @10,.own (.l (xs.map D.int)) false false,.no,.no,.no,.no,.no,.no]=.ok ([.own (.l (xs.map D.int)) true false],[some (1,false,false)],[.dat @10,.no,.no,.no,.no,.no,.no,.no])from rfl,R.bind_ok',g13];rfl
 rw[jae (ρ':=[.dat @10,.own (.l ((d0::d1::yr).map D.int)) false false,.dat (tu A),.no,.no,.no,.no,.no]) (by rw[jci c13 @11];rfl)]
 obtain⟨cs,hcs⟩:∃cs,cs=(d0::d1::yr).reverse:=⟨_,rfl⟩;have hcl:cs.length<=63:=by rw[hcs,List.length_reverse];omega
 have er:evE (jaa U W P (n+7)) U (.blt .revl (.var 1)) [.dat @10,.own (.l ((d0::d1::yr).map D.int)) false false,.dat (tu A),.no,.no,.no,.no,.no]=.ok (.tmp (.l (cs.map D.int)),[.dat @10,.own (.l ((d0::d1::yr).map D.int)) false false,.dat (tu A),.no,.no,.no,.no,.no]):=by
  rw[hcs,List.map_reverse];rfl
 rw[jae (ρ':=[.dat @10,.own (.l ((d0::d1::yr).map D.int)) false false,.dat (tu A),.own (.l (cs.map D.int)) false false,.no,.no,.no,.no]) (by rw[jjY er @11];rfl)]
 have c10:=jaF (G:=jaa U W P (n+7)) (U:=U) (k:=10) (es:=.cons (.var 2) .nil) (ρ:=[.dat @10,.own (.l ((d0::d1::yr).map D.int)) false false,.dat (tu A),.own (.l (cs.map D.int)) false false,.no,.no,.no,.no]) [tu A] rfl e10;rw[jae (ρ':=wS ns (d0::d1::yr) A cs F .no .no .no) (by rw[jci c10 @11];rfl)]
 have md:∀x k:Int,0<k->opD .mod (.int x) (.int k)=.ok (.dat (.int (x%k))):=fun x k hk=>by rw[jaJ,if_pos hk]
 have i0:evE (jaa U W P (n+7)) U (.idx (.var 1) (.lit (.int 0))) (wS ns (d0::d1::yr) A cs F .no .no .no)=.ok (.dat (.int d0),wS ns (d0::d1::yr) A cs F .no .no .no):=rfl;have i1:evE (jaa U W P (n+7)) U (.idx (.var 1) (.lit (.int 1))) (wS ns (d0::d1::yr) A cs F .no .no .no)=.ok (.dat (.int d1),wS ns (d0::d1::yr) A cs F .no .no .no):=rfl;have il:evE (jaa U W P (n+7)) U (.blt .len (.var 3)) (wS ns (d0::d1::yr) A cs F .no .no .no)=.ok (.dat (.int (cs.length:Int)),wS ns (d0::d1::yr) A cs F .no .no .no):=by
  show R.ok (Vl.dat (.int ((cs.map D.int).length:Int)),_)=_;rw[jtQ]
 have m0:=jay (o:=.mod) (y:=.lit (.int 50)) (dy:=.int 50) i0 rfl (md d0 50 (by decide))
 have m1:=jay (o:=.mod) (y:=.lit (.int 9)) (dy:=.int 9) i1 rfl (md d1 9 (by decide))
 have hi:evI (jaa U W P (n+7)) U (.seq (.lst (.cons (.bin .mod (.idx (.var 1) (.lit (.int 0))) (.lit (.int 50))) (.cons (.blt .len (.var 3)) (.cons (.bin .mod (.idx (.var 1) (.lit (.int 1))) (.lit (.int 9))) .nil))))) (wS ns (d0::d1::yr) A cs F .no .no .no)=.ok ([.int (d0%50),.int (cs.length:Int),.int (d1%9)],[],wS ns (d0::d1::yr) A cs F .no .no .no):=by
  rw[evI,evE,evEs,m0,R.bind_ok',jdf,R.bind_ok',evEs,il,R.bind_ok',jdf,R.bind_ok',evEs,m1,R.bind_ok',jdf,R.bind_ok',evEs];rfl
 obtain⟨p6,p7,t1⟩:=jgg (W:=W) (n:=n) (ns:=ns) (ys:=d0::d1::yr) (v:=d0%50) (x6:=.no) (x7:=.no) hk hA hF hcl hW;obtain⟨q6,q7,t2⟩:=jgg (W:=W) (n:=n) (ns:=ns) (ys:=d0::d1::yr) (v:=(cs.length:Int)) (x6:=p6) (x7:=p7) hk hA hF hcl hW;obtain⟨r6,r7,t3⟩:=jgg (W:=W) (n:=n) (ns:=ns) (ys:=d0::d1::yr) (v:=d1%9) (x6:=q6) (x7:=q7) hk hA hF hcl hW;rw[jae (ρ':=wS ns (d0::d1::yr) A cs F (.dat (.int (d1%9))) r6 r7) (by
  rw[evS,hi,R.bind_ok',jb4 (ρ1:=wS ns (d0::d1::yr) A cs F (.dat (.int (d0%50))) .no .no) rfl t1,jb4 (ρ1:=wS ns (d0::d1::yr) A cs F (.dat (.int (cs.length:Int))) p6 p7) rfl t2,jb4 (ρ1:=wS ns (d0::d1::yr) A cs F (.dat (.int (d1%9))) q6 q7) rfl t3];rfl)]
 rfl
end Law
namespace Law
open PySem L2 DJ
theorem jbB {K:Frag}{mg:Str->Option Value}{d:DefS}{b:Ss}{i f:Nat}{oc:Value}{od an:Option Addr}{sl:Array (Option Value)}{kV doc pm cd ct:Value}(x:Str)(e:d.name=x)(hm:mg x=some (.ref f))(l:K.lookup f=some ⟨oc,od,.func (PySem.W.fnOf x x (defArgs d.st) (defBody d.st) (defScope d.st) .none kV doc pm an cd ct),sl⟩)
  (c:PySem.W.codeIn K cd x=true) (k:PySem.W.keepIn K (.ref f)=true) (hb:BindP d) (hs:FnScope d.N d.ps (defScope d.st)) (ht:(mapO (trS T 60 false (defScope d.st).names d.N) (defBody d.st)).map toSs=some b) (hP:P[i]?=some ⟨d.ps.length,d.N.length,b⟩) :
  ∃f fd,mg d.name=some (.ref f)/\Fun K d.name d.name d.st f fd/\BindP d/\FnScope d.N d.ps (defScope d.st)/\∃ss,mapO (trS T 60 false (defScope d.st).names d.N) (defBody d.st)=some ss/\P[i]?=some ⟨d.ps.length,d.N.length,toSs ss⟩:=by
 subst e;obtain⟨ss,e1,e2⟩:=Option.map_eq_some_iff.mp ht;exact⟨f,_,hm,jpW l c k,hb,hs,ss,e1,by rw[e2];exact hP⟩
end Law
open PySem PySem.W PyProof.Rows Law DJ
def PySem.W.Fast.tw13876584513804357288:Nat:=0
def PySem.W.Fast.tw4408675958222079511:Nat:=0
def PySem.W.Fast.tw9863000132981236525:Nat:=0
def PySem.W.Fast.tw1551882621309630252:Nat:=0
def PySem.W.Fast.tw8763237451038091978:Nat:=0
def PySem.W.Fast.tw9727550087138140049:Nat:=0
def PySem.W.Fast.tw15324136440363519220:Nat:=0
def PySem.W.Fast.tw16983869723269220199:Nat:=0
def PySem.W.Fast.tw11472619031641421322:Nat:=0
def PySem.W.Fast.tw7156595612461888851:Nat:=0
def PySem.W.Fast.tw10312627296993714645:Nat:=0
def PySem.W.Fast.tw17191919892681469296:Nat:=0
def PySem.W.Fast.tw9974621410662049468:Nat:=0
def PySem.W.Fast.tw10647478400986988224:Nat:=0
def PySem.W.Fast.tw2129004242298298306:Nat:=0
def PySem.W.Fast.tw17197713266757251532:Nat:=0
def PySem.W.Fast.tw2789019433426166357:Nat:=0
def PySem.W.Fast.tw9131623447925438372:Nat:=0
def PySem.W.Fast.tw6851521744164077728:Nat:=0
def PySem.W.Fast.tw5065524449009969257:Nat:=0
def PySem.W.Fast.tw4542992929019987476:Nat:=0
def PySem.W.Fast.tw6024279815692163467:Nat:=0
def PySem.W.Fast.tw516057980920299309:Nat:=0
def PySem.W.Fast.tw18415510977230239509:Nat:=0
def PySem.W.Fast.tw14814232570483103478:Nat:=0
set_option maxRecDepth 100000 in
set_option maxHeartbeats 0 in
theorem PySem.Challenge.cw_tallysets_k32_whole_balances_all_holds : PySem.Challenge.rw_tallysets_k32_whole_balances_all.Holds := by
 w_on;o_law;k_head;(case hw=>w_witness2)
 k_fill
 refine' DJ.jjU (l:=PySem.Challenge.rw_tallysets_k32_whole_balances_all) (cl:=[]) (U:=Law.U) (T:=Law.T) (DS:=Law.DS) (P:=Law.P) (fuel:=60) (W:=70) (n:=8) (i:=18) (x:="_law_script") (dl:=Law.d_law) rfl rfl ⟨rfl,by decide,by decide⟩ (fun w h Y=>PySem.W.kIn_of Y) rfl rfl rfl ?F (fun ns hl=>Law.jsJ (W:=70) (n:=0) ns (jul _))
 case F=>
  intro w mg h X G;refine' ⟨rfl,rfl,rfl,(jdA (mg_none_of X G ?z0) (jdA (mg_none_of X G ?z1) (jdA (mg_none_of X G ?z2) (jdA (mg_none_of X G ?z3) (jdA (mg_none_of X G ?z4) (jdA (mg_none_of X G ?z5) (jdA (mg_none_of X G ?z6) (jdA (mg_none_of X G ?z7) (jdA (mg_none_of X G ?z8) (jdA (mg_none_of X G ?z9) (jdA (mg_none_of X G ?z10) (jdA (mg_none_of X G ?z11) (jdA (mg_none_of X G ?z12) (jdA (mg_none_of X G ?z13) (jdA (mg_none_of X G ?z14) (jdA (mg_none_of X G ?z15) (jdA (mg_none_of X G ?z16) (jdA (mg_none_of X G ?z17) (jdA (mg_none_of X G ?z18) (jdA (mg_none_of X G ?z19) (jdA (mg_none_of X G ?z20) jsi))))))))))))))))))))),?cons,From.at joD,⟨jsi,fun i j C D hi hj=>From.at (Q:=fun i C=>∀(j:Nat) (D:Addr),([]:List Addr)[j]?=some D->mroIn _ C (.ref D)=some (Law.U i j)) joD i C hi j D hj⟩,jsi,From.at (jbx (jbB "at_most" rfl (mg_of X G ?a0) ?l0 ?c0 ?k0 jke jkc jkd rfl) (jbx (jbB "weight" rfl (mg_of X G ?a1) ?l1 ?c1 ?k1 jmj jmh jmi rfl) (jbx (jbB "raised" rfl (mg_of X G ?a2) ?l2 ?c2 ?k2 jmm jmk jml rfl) (jbx (jbB "without" rfl (mg_of X G ?a3) ?l3 ?c3 ?k3 jkh jkf jkg rfl) (jbx (jbB "is_above" rfl (mg_of X G ?a4) ?l4 ?c4 ?k4 jh3 jh1 jh2 rfl) (jbx (jbB "grown" rfl (mg_of X G ?a5) ?l5 ?c5 ?k5 joV joT joU rfl) (jbx (jbB "least_rows" rfl (mg_of X G ?a6) ?l6 ?c6 ?k6 jfc jfa jfb rfl) (jbx (jbB "column_loops" rfl (mg_of X G ?a7) ?l7 ?c7 ?k7 jdD jdB jdC rfl) (jbx (jbB "column_leasts" rfl (mg_of X G ?a8) ?l8 ?c8 ?k8 jdm jdk jdl rfl) (jbx (jbB "columns_of" rfl (mg_of X G ?a9) ?l9 ?c9 ?k9 jff jfd jfe rfl) (jbx (jbB "loops_of" rfl (mg_of X G ?a10) ?l10 ?c10 ?k10 jh6 jh4 jh5 rfl) (jbx (jbB "leasts_of" rfl (mg_of X G ?a11) ?l11 ?c11 ?k11 jga jf8 jf9 rfl) (jbx (jbB "_law_deck" rfl (mg_of X G ?a12) ?l12 ?c12 ?k12 jgd jgb jgc rfl) (jbx (jbB "_law_values" rfl (mg_of X G ?a13) ?l13 ?c13 ?k13 jen jel jem rfl) (jbx (jbB "_law_bound" rfl (mg_of X G ?a14) ?l14 ?c14 ?k14 jfi jfg jfh rfl) (jbx (jbB "_law_drawn_row" rfl (mg_of X G ?a15) ?l15 ?c15 ?k15 jcG jcE jcF rfl) (jbx (jbB "_law_taken" rfl (mg_of X G ?a16) ?l16 ?c16 ?k16 jfl jfj jfk rfl) (jbx (jbB "_law_all" rfl (mg_of X G ?a17) ?l17 ?c17 ?k17 jh9 jh7 jh8 rfl) (jbx (jbB "law" rfl (mg_of X G ?a18) ?l18 ?c18 ?k18 jsC jsA jsB rfl) joD)))))))))))))))))))⟩;case cons=>
   intro x d hx;cases hx
  all_goals (try first | k_is | (dsimp only;k_is))
  all_goals (try first | k_is | (dsimp only;k_is))
