import PyProof.Rows.All
import Wide.All
import OpenK.AllK
import Wide.FinOn
import PyProof.EqAt
import PyProof.EqKinds
import PyProof.TupleCall
import KE.BitLaws
import KE.OsGo
import Open.SpecLaws
import PyProof.ZipIter
import KE.KMinBuiltin
import KE.KTryMore
import KE.KTryOn
import Sp21Spec
import KE.KItemsList
import KE.RegKTryMore
import PySem.Challenge.RW_tilewise_s05_small
set_option Elab.async false
set_option linter.all false
set_option maxRecDepth 100000
namespace L2
open PySem PySem.Spec PyProof.Rows
abbrev Key:=Sum Int Str
def zH:Key->Value->Bool
 | .inl k,v=>Value.isInt k v
 | .inr x,v=>Value.isStrOf x v
def keyH (w:World):Key->Int
 | .inl k=>hashInt k
 | .inr x=>hashStr w x
theorem keyIs_shape:∀{k:Key}{v:Value},zH k v=true->(∃i t,k=Sum.inl i/\v=Value.int i t)\/(∃x t,k=Sum.inr x/\v=Value.str x t)
 | .inl i,v,h=>by
  obtain ⟨t,e⟩:=Value.isInt_shape (k:=i) (v:=v) h;exact .inl ⟨i,t,rfl,e⟩
 | .inr x,v,h=>by
  obtain ⟨t,e⟩:=Value.isStrOf_shape (x:=x) (v:=v) h;exact .inr ⟨x,t,rfl,e⟩
theorem zI (a b:Int):decide ((Sum.inl a:Key)=Sum.inl b)=(a==b):=by
 by_cases e:a=b
 ·subst e;simp
 ·have h:¬(Sum.inl a:Key)=Sum.inl b:=λq=>e (Sum.inl.inj q);rw [decide_eq_false h];exact (beq_eq_false_iff_ne.mpr e).symm
theorem zJ (a b:Str):decide ((Sum.inr a:Key)=Sum.inr b)=decide (a=b):=by
 by_cases e:a=b
 ·subst e;simp
 ·have h:¬(Sum.inr a:Key)=Sum.inr b:=λq=>e (Sum.inr.inj q);rw [decide_eq_false h,decide_eq_false e]
theorem zK (a:Int)(b:Str):decide ((Sum.inl a:Key)=Sum.inr b)=false:=decide_eq_false (λq=>nomatch q)
theorem zM (a:Str)(b:Int):decide ((Sum.inr a:Key)=Sum.inl b)=false:=decide_eq_false (λq=>nomatch q)
def uC (prog:Program)(w:World):PySem.KeyKind prog w Key where
 is:=zH
 hash:=keyH w
 inj:=λv a b ha hb=>by
  rcases keyIs_shape ha with ⟨i,t,rfl,rfl⟩ | ⟨x,t,rfl,rfl⟩
  ·rcases keyIs_shape hb with ⟨j,u,rfl,e⟩ | ⟨y,u,rfl,e⟩
   ·injection e with e1 _;rw [e1]
   ·exact nomatch e
  ·rcases keyIs_shape hb with ⟨j,u,rfl,e⟩ | ⟨y,u,rfl,e⟩
   ·exact nomatch e
   ·injection e with e1 _;rw [e1]
 byValue:=λk v h=>by
  rcases keyIs_shape h with ⟨i,t,rfl,rfl⟩ | ⟨x,t,rfl,rfl⟩ <;> rfl
 pyHash:=λhv h=>by
  rcases keyIs_shape hv with ⟨i,t,rfl,rfl⟩ | ⟨x,t,rfl,rfl⟩
  ·exact wpAny_pyHash_int h
  ·exact wpAny_pyHash_str h
 eqBool:=λhu hv h=>by
  rcases keyIs_shape hu with ⟨i,t,rfl,rfl⟩ | ⟨x,t,rfl,rfl⟩
  ·rcases keyIs_shape hv with ⟨j,u,rfl,rfl⟩ | ⟨y,u,rfl,rfl⟩
   ·rw [zI] at h;exact wpAny_eqBool_int h
   ·rw [zK] at h;exact SeqAt.EqAt.int_str i t y u _ _ _ _ h
  ·rcases keyIs_shape hv with ⟨j,u,rfl,rfl⟩ | ⟨y,u,rfl,rfl⟩
   ·rw [zM] at h;exact SeqAt.EqAt.str_int x t j u _ _ _ _ h
   ·rw [zJ] at h;exact wpAny_eqBool_str h
 «strs»:=λk x t v h=>by
  rcases keyIs_shape h with ⟨i,u,rfl,e⟩ | ⟨y,u,rfl,e⟩
  ·exact nomatch e
  ·injection e with e1 _;subst e1;cases v <;> rfl
end L2
namespace L2
open PySem PySem.Spec PyProof.Rows
inductive V where
 | non | bl (b:Bool) | int (i:Int) | str (x:Str) | byt (b:Array UInt8) | flt (b:UInt64) | ref (a:Addr) | ty (n:String)
 deriving DecidableEq
def RelV:V->Value->Prop
 | .non,u=>u=Value.none
 | .bl b,u=>u=Value.bool b
 | .int i,u=>∃t,u=Value.int i t
 | .str x,u=>∃t,u=Value.str x t
 | .byt b,u=>∃t,u=Value.bytes b t
 | .flt b,u=>∃t,u=Value.float b t
 | .ref a,u=>u=Value.ref a
 | .ty n,u=>u=Value.type n
abbrev Vals:List V->List Value->Prop:=Paired RelV
theorem Vals.length {xs:List V}{us:List Value} (r:Vals xs us):xs.length=us.length:=Paired.length r
theorem Vals.get:∀{xs:List V}{us:List Value}{i:Nat}{x:V},Vals xs us->xs[i]?=some x->∃u,us[i]?=some u/\RelV x u
 | _,_,_,_,.nil,e=>by simp at e
 | _,_,0,_,.cons r _,e=>by simp at e;subst e;exact ⟨_,rfl,r⟩
 | _,_,i+1,x,.cons _ t,e=>by
  obtain ⟨u,h1,h2⟩:=Vals.get (i:=i) (x:=x) t (by simpa using e);exact ⟨u,by simpa using h1,h2⟩
theorem Vals.set {x:V}{u:Value} (r:RelV x u):∀{xs:List V}{us:List Value} (i:Nat),Vals xs us->Vals (xs.set i x) (us.set i u)
 | _,_,_,.nil=>.nil
 | _,_,0,.cons _ t=>.cons r t
 | _,_,i+1,.cons q t=>.cons q (Vals.set r i t)
theorem Vals.append:∀{xs ys:List V}{us ws:List Value},Vals xs us->Vals ys ws->Vals (xs++ys) (us++ws)
 | _,_,_,_,.nil,s=>s
 | _,_,_,_,.cons r t,s=>.cons r (Vals.append t s)
theorem Vals.take:∀{xs:List V}{us:List Value} (n:Nat),Vals xs us->Vals (xs.take n) (us.take n)
 | _,_,0,_=>.nil
 | _,_,_+1,.nil=>.nil
 | _,_,n+1,.cons r t=>.cons r (Vals.take n t)
theorem Vals.drop:∀{xs:List V}{us:List Value} (n:Nat),Vals xs us->Vals (xs.drop n) (us.drop n)
 | _,_,0,r=>r
 | _,_,_+1,.nil=>.nil
 | _,_,n+1,.cons _ t=>Vals.drop n t
theorem Vals.none_of:∀{xs:List V}{us:List Value}{i:Nat},Vals xs us->xs[i]?=none->us[i]?=none:=fun {xs us i} r e=>by
 have h1:=r.length;have h2:xs.length<=i:=List.getElem?_eq_none_iff.mp e;exact List.getElem?_eq_none_iff.mpr (by omega)
def RelO:Option V->Option Value->Prop
 | some v,some u=>RelV v u
 | none,none=>True
 | _,_=>False
def KV {κ:Type}:List (κ×V)->List (κ×Value)->Prop:=Paired λ(p:κ×V) (q:κ×Value)=>p.1=q.1/\RelV p.2 q.2
def kV:Key->V
 | .inl i=>.int i
 | .inr x=>.str x
inductive HO where
 | lst (xs:List V)
 | tup (xs:List V)
 | dK (kvs:List (Key×V)) | dT (kvs:List (List Key×V))
 | set (S:Int->Bool) (n:Nat)
 | ins (C dx:Addr) (fs:List (Str×V))
 | own (x:Addr)
 | xd (fs:List (Str×V))
 | met (f x:Addr)
 | rng (lo hi:Int)
 | frz (o:Obj) (u:HO)
 | tbl (ps:Array Value)
 | ext (φ:Heap->Prop)
abbrev Hp:=Addr->Option HO
def upd (H:Hp)(a:Addr)(o:HO):Hp:=λb=>if b=a then some o else H b
theorem upd_same {H:Hp}{a:Addr}{o:HO}:upd H a o a=some o:=by unfold upd;rw [if_pos rfl]
theorem upd_ne {H:Hp}{a b:Addr}{o:HO} (h:b≠a):upd H a o b=H b:=by unfold upd;rw [if_neg h]
theorem ne_of_none {H:Hp}{a b:Addr}{o:HO} (h:H a=some o) (h':H b=none):a≠b:=by
 intro e;subst e;rw [h] at h';cases h'
section
variable (P:Program)(w:World)
def ObjOk (H:Hp)(h:Heap)(a:Addr):HO->Prop
 | .lst xs=>xs.length<=sizeLine/\∃(its:List Value) (n:Nat),Vals xs its/\h.get? a=some { cls:=.type "list",data:=.seq its.toArray n }
 | .tup xs=>xs.length<=sizeLine/\∃its:List Value,Vals xs its/\IsTup h a its.toArray
 | .dK kvs=>kvs.length<=sizeLine/\(a==sysModules)=false/\∃vs,KV kvs vs/\h.DictOf (uC P w) a vs
 | .dT kvs=>kvs.length<=sizeLine/\(a==sysModules)=false/\∃xs:List (List Key×Addr×Value),
   Paired (λ(p:List Key×V) (q:List Key×Addr×Value)=>p.1=q.1/\H q.2.1=some (.tup (p.1.map kV))/\RelV p.2 q.2.2) kvs xs /\
   ∃o es ep,h.get? a=some o/\o.ExactDict/\o.data=.dict es ep/\es.toList=xs.map (entryOfKey (tupleKind (uC P w)))/\(xs.map (·.1)).Nodup
 | .set S n=>h.SetOf (intKind P w) a S n
 | .ins C dx fs=>H dx=some (.own a)/\fs.length<=1000/\dx≠a/\h.get? a=some (W.instObj C dx) /\
   ∃mA,h.Ns1 dx mA/\(∀f,RelO (fs.lookup f) (mA f))/\PySem.Within mA (fs.map (·.1))
 | .own _=>∃o,h.get? a=some o
 | .xd fs=>∃mA,h.Ns1 a mA/\∀f,RelO (fs.lookup f) (mA f)
 | .rng lo hi=>∃t u v,h.get? a=some { cls:=.type "range",data:=.fields #[.int lo t,.int hi u,.int 1 v] }
 | .frz o u=>h.get? a=some o/\ObjOk H h a u
 | .tbl ps=>h.get? a=some { cls:=.none,data:=.fields ps }
 | .met f x=>h.get? a=some (W.methodObj (.ref f) (.ref x))
 | .ext φ=>φ h/\(∃o,h.get? a=some o)/\∀h1 h2:Heap,φ h1->(∀o,h1.get? a=some o->h2.get? a=some o)->φ h2
def HOk (H:Hp)(h:Heap):Prop:=∀a o,H a=some o->ObjOk P w H h a o
end
section
variable {P:Program}{w:World}{H H':Hp}{h h':Heap}{a:Addr}{o:HO}
theorem ObjOk.lt (x:ObjOk P w H h a o):a<h.objs.size:=by
 cases o with
 | lst xs=>obtain ⟨_,_,_,_,e⟩:=x;exact Heap.lt_size e
 | tup xs=>obtain ⟨_,_,_,p⟩:=x;exact p.lt
 | dK kvs=>obtain ⟨_,_,_,_,o,_,_,e,_⟩:=x;exact Heap.lt_size e
 | dT kvs=>obtain ⟨_,_,_,_,o,_,_,e,_⟩:=x;exact Heap.lt_size e
 | set S n=>obtain ⟨o,_,_,_,e,_⟩:=x;exact Heap.lt_size e
 | ins C dx fs=>obtain ⟨_,_,_,e,_⟩:=x;exact Heap.lt_size e
 | own y=>obtain ⟨_,e⟩:=x;exact Heap.lt_size e
 | xd fs=>obtain ⟨_,⟨_,_,_,e,_⟩,_⟩:=x;exact Heap.lt_size e
 | rng lo hi=>obtain ⟨_,_,_,e⟩:=x;exact Heap.lt_size e
 | frz ob u=>obtain ⟨e,_⟩:=x;exact Heap.lt_size e
 | tbl ps=>exact Heap.lt_size (show h.get? a=some _ from x)
 | met f y=>exact Heap.lt_size (show h.get? a=some _ from x)
 | ext φ=>obtain ⟨_,⟨_,e⟩,_⟩:=x;exact Heap.lt_size e
theorem Paired.mapP {α β:Type}{F G:α->β->Prop}:∀{l₁:List α}{l₂:List β},Paired F l₁ l₂->(∀a b,F a b->G a b)->Paired G l₁ l₂
 | _,_,.nil,_=>.nil
 | _,_,.cons r t,f=>.cons (f _ _ r) (Paired.mapP t f)
theorem ObjOk.stay (x:ObjOk P w H h a o)(k:∀b u,(b=a\/H b=some (.own a))->h.get? b=some u->h'.get? b=some u)
  (ho:∀b,H b=some (.own a)->H' b=some (.own a)) (ht:∀b xs,H b=some (.tup xs)->H' b=some (.tup xs)):ObjOk P w H' h' a o:=by
 induction o with
 | lst xs=>obtain ⟨z,its,n,r,e⟩:=x;exact ⟨z,its,n,r,k _ _ (.inl rfl) e⟩
 | tup xs=>obtain ⟨z,its,r,ob,e,c⟩:=x;exact ⟨z,its,r,ob,k _ _ (.inl rfl) e,c⟩
 | dK kvs=>obtain ⟨z,y,vs,r,ob,es,ep,e,c⟩:=x;exact ⟨z,y,vs,r,ob,es,ep,k _ _ (.inl rfl) e,c⟩
 | dT kvs =>
  obtain ⟨z,y,xs,r,ob,es,ep,e,c⟩:=x;exact ⟨z,y,xs,Paired.mapP r λp q z=>⟨z.1,ht _ _ z.2.1,z.2.2⟩,ob,es,ep,k _ _ (.inl rfl) e,c⟩
 | set S n=>obtain ⟨ob,es,ep,t,e,c⟩:=x;exact ⟨ob,es,ep,t,k _ _ (.inl rfl) e,c⟩
 | ins C dx fs =>
  obtain ⟨d,z,ne,e,mA,⟨od,es,ep,e2,c⟩,r⟩:=x;exact ⟨ho _ d,z,ne,k _ _ (.inl rfl) e,mA,⟨od,es,ep,k _ _ (.inr d) e2,c⟩,r⟩
 | own y=>obtain ⟨ob,e⟩:=x;exact ⟨ob,k _ _ (.inl rfl) e⟩
 | xd fs=>obtain ⟨mA,⟨od,es,ep,e,c⟩,r⟩:=x;exact ⟨mA,⟨od,es,ep,k _ _ (.inl rfl) e,c⟩,r⟩
 | rng lo hi=>obtain ⟨t,u,v,e⟩:=x;exact ⟨t,u,v,k _ _ (.inl rfl) e⟩
 | frz ob u ih=>obtain ⟨e,q⟩:=x;exact ⟨k _ _ (.inl rfl) e,ih q⟩
 | tbl ps =>
  have e:h.get? a=some { cls:=.none,data:=.fields ps }:=x;show h'.get? a=some { cls:=.none,data:=.fields ps };exact k a _ (.inl rfl) e
 | met f y =>
  have e:h.get? a=some (W.methodObj (.ref f) (.ref y)):=x;show h'.get? a=some (W.methodObj (.ref f) (.ref y));exact k a _ (.inl rfl) e
 | ext φ=>obtain ⟨p,⟨o,e⟩,st⟩:=x;exact ⟨st _ _ p λo q=>k _ _ (.inl rfl) q,⟨o,k _ _ (.inl rfl) e⟩,st⟩
theorem HOk.lt (x:HOk P w H h)(e:H a=some o):a<h.objs.size:=(x a o e).lt
theorem HOk.fresh (x:HOk P w H h)(e:h.objs.size<=a):H a=none:=by
 cases q:H a with
 | none=>rfl
 | some u=>exact absurd (Nat.lt_of_lt_of_le (x.lt q) e) (Nat.lt_irrefl _)
theorem HOk.kept (x:HOk P w H h)(k:∀b u,h.get? b=some u->h'.get? b=some u):HOk P w H h':=λa o e =>
 (x a o e).stay (λb u _ q=>k b u q) (λ_ q=>q) λ_ _ q=>q
theorem HOk.laid (x:HOk P w H h)(k:∀b u,h.get? b=some u->h'.get? b=some u)(hp:h.objs.size<=a)(new:ObjOk P w (upd H a o) h' a o):HOk P w (upd H a o) h':=λb u e=>by
 have hn:=x.fresh hp;by_cases hb:b=a
 ·subst hb;rw [upd_same] at e;cases e;exact new
 ·rw [upd_ne hb] at e;exact (x b u e).stay (λc v _ q=>k c v q) (λc q=>by rw [upd_ne (ne_of_none q hn)];exact q) λc xs q=>by rw [upd_ne (ne_of_none q hn)];exact q
end
def Rd (H:Hp)(a:Addr)(u:HO):Prop:=H a=some u\/∃o,H a=some (.frz o u)
theorem Rd.ok {P:Program}{w:World}{H:Hp}{h:Heap}{a:Addr}{u:HO} (r:Rd H a u) (x:HOk P w H h):ObjOk P w H h a u:=by
 rcases r with r | ⟨o,r⟩
 ·exact x a u r
 ·obtain ⟨_,q⟩:=x a _ r;exact q
def Mut:Option HO->Prop
 | some (.lst _)=>True
 | some (.dK _)=>True
 | some (.dT _)=>True
 | some (.set _ _)=>True
 | some (.ins _ _ _)=>True
 | some (.ext _)=>True
 | _=>False
section
variable {P:Program}{w:World}{H:Hp}{h h':Heap}{x e:Addr}{o':HO}
theorem HOk.write (ok:HOk P w H h)(mu:Mut (H x))(he:e=x\/H e=some (.own x))(k:∀b u,b≠e->h.get? b=some u->h'.get? b=some u)(heo:∃u,h'.get? e=some u)
  (new:ObjOk P w (upd H x o') h' x o'):HOk P w (upd H x o') h':=λb u q=>by
 have nown:∀c y,H c=some (.own y)->c≠x:=λc y r z=>by subst z;rw [r] at mu;exact mu
 have ntup:∀c xs,H c=some (.tup xs)->c≠x:=λc xs r z=>by subst z;rw [r] at mu;exact mu
 by_cases hb:b=x
 ·subst hb;rw [upd_same] at q;cases q;exact new
 ·rw [upd_ne hb] at q;by_cases hbe:b=e
  ·have q':H b=some (.own x):=by
    rcases he with z | z
    ·exact absurd (hbe.trans z) hb
    ·rw [hbe];exact z
   rw [q] at q';cases q';obtain ⟨v,hv⟩:=heo;exact ⟨v,by rw [hbe];exact hv⟩
  ·refine (ok b u q).stay (λc v hc r=>k c v ?_ r) (λc r=>by rw [upd_ne (nown c b r)];exact r) λc xs r=>by rw [upd_ne (ntup c xs r)];exact r
   rcases hc with rfl | hc
   ·exact hbe
   ·rintro rfl;rcases he with z | z
    ·exact nown c b hc z
    ·rw [hc] at z;cases z;exact hb rfl
end
structure Un (fs ex:List Addr)(H H':Hp)(h h':Heap):Prop where
 keep:∀b o,h.get? b=some o->H b=none->b ∉ fs->b ∉ ex->h'.get? b=some o
 slot:∀b o,h.get? b=some o->H b=none->b∈fs->b ∉ ex->∃sl,h'.get? b=some { o with slots:=sl }
 free:∀b o,h.get? b=some o->H b=none->b ∉ ex->H' b=none
 there:∀b o,h.get? b=some o->b ∉ ex->∃o',h'.get? b=some o'
 tups:∀b xs,H b=some (.tup xs)->H' b=some (.tup xs)
 frzs:∀b o u,H b=some (.frz o u)->H' b=some (.frz o u)
 tbls:∀b ps,H b=some (.tbl ps)->∃more,H' b=some (.tbl (ps++more))
section
variable {fs fs' ex ex':List Addr}{H H1 H2:Hp}{h h1 h2 h':Heap}{a x e:Addr}{o:HO}
theorem Un.any (u:Un fs ex H H1 h h1){b:Addr}{ob:Obj} (q:h.get? b=some ob) (n:H b=none) (hx:b ∉ ex):∃sl,h1.get? b=some { ob with slots:=sl }:=by
 by_cases hb:b∈fs
 ·exact u.slot b ob q n hb hx
 ·exact ⟨ob.slots,u.keep b ob q n hb hx⟩
theorem Un.kept (k:∀b u,h.get? b=some u->h'.get? b=some u):Un fs ex H H h h' :=
 ⟨λb ob q _ _ _=>k b ob q,λb ob q _ _ _=>⟨ob.slots,k b ob q⟩,λ_ _ _ n _=>n,λb ob q _=>⟨ob,k b ob q⟩,λ_ _ q=>q,λ_ _ _ q=>q,λ_ ps q=>⟨#[],by rw [q];simp⟩⟩
theorem Un.refl:Un fs ex H H h h:=Un.kept λ_ _ q=>q
theorem Un.laid (k:∀b u,h.get? b=some u->h'.get? b=some u)(hp:h.objs.size<=a)(hn:H a=none):Un fs ex H (upd H a o) h h' where
 keep:=λb u q _ _ _=>k b u q
 slot:=λb u q _ _ _=>⟨u.slots,k b u q⟩
 free:=λb u q n _=>by rw [upd_ne (Nat.ne_of_lt (Nat.lt_of_lt_of_le (Heap.lt_size q) hp))];exact n
 there:=λb u q _=>⟨u,k b u q⟩
 tups:=λb xs q=>by rw [upd_ne (ne_of_none q hn)];exact q
 frzs:=λb u xs q=>by rw [upd_ne (ne_of_none q hn)];exact q
 tbls:=λb ps q=>⟨#[],by rw [upd_ne (ne_of_none q hn),q];simp⟩
theorem Un.write (mu:Mut (H x))(he:e=x\/H e=some (.own x))(k:∀b u,b≠e->h.get? b=some u->h'.get? b=some u)(heo:∃u,h'.get? e=some u):Un fs ex H (upd H x o) h h':=by
 have hx:∀b,H b=none->b≠x:=λb n z=>by subst z;rw [n] at mu;exact mu
 have hb:∀b,H b=none->b≠e:=λb n z=>by
  subst z;rcases he with r | r
  ·exact hx b n r
  ·rw [n] at r;cases r
 have hm:∀b u,H b=some u->¬Mut (some u)->b≠x:=λb u q nm z=>by subst z;rw [q] at mu;exact nm mu
 refine ⟨λb u q n _ _=>k b u (hb b n) q,λb u q n _ _=>⟨u.slots,k b u (hb b n) q⟩,λb u q n _=>by rw [upd_ne (hx b n)];exact n,λb u q _=>?_,
  λb xs q=>by rw [upd_ne (hm b _ q λz=>z)];exact q,λb u xs q=>by rw [upd_ne (hm b _ q λz=>z)];exact q,λb ps q=>⟨#[],by rw [upd_ne (hm b _ q λz=>z),q];simp⟩⟩
 by_cases hbe:b=e
 ·subst hbe;exact heo
 ·exact ⟨u,k b u hbe q⟩
theorem Un.mono (u:Un fs ex H H1 h h1)(hs:∀b∈fs,b∈fs')(hx:∀b∈ex,b∈ex'):Un fs' ex' H H1 h h1 :=
 ⟨λb ob q n hb he=>u.keep b ob q n (λz=>hb (hs b z)) λz=>he (hx b z),λ_ _ q n _ he=>u.any q n λz=>he (hx _ z),λb ob q n he=>u.free b ob q n λz=>he (hx b z),λb ob q he=>u.there b ob q λz=>he (hx b z),u.tups,u.frzs,u.tbls⟩
end
def trk (h:Heap)(H:Hp):List Addr:=(List.range h.objs.size).filter λa=>(H a).isSome
def hidT (h:Heap)(H:Hp):Heap:=W.hideAll h (trk h H)
theorem uD (h:Heap)(H:Hp):(hidT h H).objs.size=h.objs.size:=W.hideAll_size _ _
theorem wA {h:Heap}{H:Hp}{b:Addr}{o:Obj} (e:h.get? b=some o) (n:H b=none):(hidT h H).get? b=some o :=
 W.hideAll_get _ e λhm=>by
  have q:(H b).isSome=true:=(List.mem_filter.mp hm).2;rw [n] at q;simp at q
theorem yw {h:Heap}{H:Hp}{b:Addr}{o:Obj} (e:(hidT h H).get? b=some o):h.get? b=some o/\H b=none:=by
 have e':h.get? b=some o:=W.of_hideAll (trk h H) e;refine ⟨e',?_⟩;cases q:H b with
 | none=>rfl
 | some x =>
  have hm:b∈trk h H:=List.mem_filter.mpr ⟨List.mem_range.mpr (Heap.lt_size e'),by simp [q]⟩;have z:(hidT h H).get? b=none:=W.hideAll_none (trk h H) hm;rw [z] at e;cases e
def allNews (g h:Heap)(L:Addr):List (Addr×Obj):=(List.range h.objs.size).filterMap λa=>if a=L\/(g.get? a).isSome=true then none else (h.get? a).map λo=>(a,o)
def rest (g h:Heap)(L d:Addr):List (Addr×Obj):=(allNews g h L).filter λp=>decide (p.1≠d)
end L2
namespace L2
open PySem PySem.Spec PyProof.Rows
structure Mod (K:W.Frag)(mg:Str->Option Value)(base:Heap):Prop where
 kin:K.In base
 glob:base.Ns mainGlobals mg
 blt:∃mb,base.Ns builtinsNs mb/\∀x:Str,x≠"__name__"->mb x=bootBuiltins x
 nolimit:base.NoLimit
structure Cx where
 prog:Program
 w:World
 K:W.Frag
 mg:Str->Option Value
 base:Heap
 A:Around
 N:List Str
 s₀:Shared
 H₀:Hp
 env:Env
 outer:List Env
 stack:List Env
 ex:List Addr
 fn:Str->Bool
 calm:Bool
 pn:List (Addr×Obj)
 xe:Value->Shared->Prop
def frs (l:List Env):List Addr:=l.filterMap (·.frame)
abbrev Cx.fs (X:Cx):List Addr:=frs X.outer
def Vis (sc:Scope)(x:Str):Prop:=sc.names.lookup x=some .local\/sc.names.lookup x=some .cell\/sc.names.lookup x=some .free
def Loc (sc:Scope)(x:Str):Prop:=sc.names.lookup x=some .local\/sc.names.lookup x=some .cell
def Look (env:Env)(h:Heap)(m:Str->Option Value)(x:Str)(u:Value):Prop :=
 (env.kindOf x=some .local/\m x=some u)\/((env.kindOf x=some .cell\/env.kindOf x=some .free)/\∃c,env.cells.lookup x=some c/\h.IsCell c (some u))
structure Cx.Ok (X:Cx):Prop where
 mod:Mod X.K X.mg X.base
 kind:X.env.scope.kind=.function
 glob:X.env.globals=mainGlobals
 blt:X.env.builtins=builtinsNs
 above:X.s₀.heap.objs.size<=X.env.locals
 inj:∀x y c,X.env.cells.lookup x=some c->X.env.cells.lookup y=some c->x=y
 has:∀x,(X.env.kindOf x=some .cell\/X.env.kindOf x=some .free)->∃c,X.env.cells.lookup x=some c
 cab:∀x c,X.fn x=true->X.env.cells.lookup x=some c->X.s₀.heap.objs.size<=c
 hd:X.calm=true->X.A.handled=none
 frames:X.A.frames=some X.stack
 stk:X.stack=X.outer\/(X.stack=X.env::X.outer/\X.env.frame=some X.env.locals)
 exf:∀b∈X.ex,b≠X.env.locals/\∀x c,X.env.cells.lookup x=some c->c≠b
 bs:∀b o,X.base.get? b=some o->X.s₀.heap.get? b=some o/\X.H₀ b=none
 bsz:X.base.objs.size<=X.s₀.heap.objs.size
 noex:∀b o,X.base.get? b=some o->b ∉ X.ex
 exfs:∀b∈X.ex,b ∉ X.fs
 funs:X.s₀.heap.FunFrames X.base X.outer
 frf:∀b∈X.fs,X.H₀ b=none
structure Inv (X:Cx)(pins:List (Addr×Obj))(σ:List (Option V))(H:Hp)(s:Shared):Prop where
 ok:X.Ok
 os:s.os=X.s₀.os
 bare:AllBare s.gens
 base:Un X.fs X.ex X.H₀ H X.s₀.heap s.heap
 loc:∃m,s.heap.Ns X.env.locals m/\∀(i:Nat) (x:Str) (v:V),X.N[i]?=some x->σ[i]?=some (some v)->Vis X.env.scope x->∃u,RelV v u/\Look X.env s.heap m x u
 cell:∀x c,X.env.cells.lookup x=some c->∃v,s.heap.IsCell c v
 free:H X.env.locals=none
 freeC:∀x c,X.env.cells.lookup x=some c->H c=none
 pin:∀p∈X.pn++pins,s.heap.get? p.1=some p.2/\H p.1=none/\p.1≠X.env.locals/\p.1 ∉ X.fs/\∀v,p.2.data≠.cell v
 hok:HOk X.prog X.w H s.heap
 len:σ.length=X.N.length
section
variable {X:Cx}{pins:List (Addr×Obj)}{σ:List (Option V)}{H H':Hp}{s:Shared}{h':Heap}
theorem Cx.Ok.nofr (ok:X.Ok){b:Addr}{o:Obj} (e:X.base.get? b=some o):b ∉ X.fs:=λhb=>by
 have:=(ok.funs.mem hb).1;rw [e] at this;cases this
theorem Inv.bs (I:Inv X pins σ H s):∀b o,X.base.get? b=some o->s.heap.get? b=some o/\H b=none:=λb o e =>
 ⟨I.base.keep b o (I.ok.bs b o e).1 (I.ok.bs b o e).2 (I.ok.nofr e) (I.ok.noex b o e),I.base.free b o (I.ok.bs b o e).1 (I.ok.bs b o e).2 (I.ok.noex b o e)⟩
theorem Inv.bk (I:Inv X pins σ H s):∀b o,X.base.get? b=some o->s.heap.get? b=some o:=λb o e=>(I.bs b o e).1
theorem Inv.mod (I:Inv X pins σ H s):Mod X.K X.mg X.base:=I.ok.mod
theorem Inv.kIn (I:Inv X pins σ H s):X.K.In s.heap:=I.ok.mod.kin.keeps I.bk
theorem Inv.nolimit (I:Inv X pins σ H s):s.heap.NoLimit:=I.ok.mod.nolimit.keeps I.bk
theorem Inv.lt (I:Inv X pins σ H s):X.env.locals<s.heap.objs.size:=let ⟨_,hn,_⟩:=I.loc;hn.lt
theorem Inv.sz (I:Inv X pins σ H s):X.s₀.heap.objs.size<=s.heap.objs.size:=Nat.le_trans I.ok.above (Nat.le_of_lt I.lt)
theorem Inv.nofs (I:Inv X pins σ H s){a:Addr}(h:s.heap.objs.size<=a):a ∉ X.fs:=λhb=>by
 obtain ⟨_,o,ho,_⟩:=I.ok.funs.mem hb;exact absurd (Nat.lt_of_lt_of_le (Heap.lt_size ho) (Nat.le_trans I.sz h)) (Nat.lt_irrefl _)
theorem Inv.cne (I:Inv X pins σ H s):∀x c,X.env.cells.lookup x=some c->c≠X.env.locals:=λx c e z=>by
 obtain ⟨v,o,ho,hd⟩:=I.cell x c e;obtain ⟨m,⟨o',es,ep,ho',hd',_⟩,_⟩:=I.loc;rw [z,ho'] at ho;cases ho;rw [hd'] at hd;cases hd
theorem Inv.funs (I:Inv X pins σ H s):s.heap.FunFrames X.base X.outer:=by
 have all:∀(l:List Env),(∀b∈frs l,b∈X.fs)->X.s₀.heap.FunFrames X.base l->s.heap.FunFrames X.base l:=by
  intro l
  induction l with
  | nil=>intro _ _;trivial
  | cons env r ih =>
   intro hs hl;obtain ⟨hk,⟨L,o,hf,hn,ho,hd⟩,hr⟩:=hl;have hL:L∈X.fs:=hs L (by unfold frs;rw [List.filterMap_cons,hf];exact List.mem_cons_self);obtain ⟨sl,e⟩:=I.base.slot L o ho (I.ok.frf L hL) hL λz=>I.ok.exfs L z hL;exact ⟨hk,⟨L,_,hf,hn,e,hd⟩,ih (λb hb=>hs b (by unfold frs;rw [List.filterMap_cons,hf];exact List.mem_cons_of_mem _ hb)) hr⟩
 exact all X.outer (λ_ hb=>hb) I.ok.funs
theorem Inv.stack (I:Inv X pins σ H s):s.heap.FunFrames X.base X.stack:=by
 rcases I.ok.stk with e | ⟨e,hf⟩
 ·rw [e];exact I.funs
 ·rw [e];obtain ⟨m,hn,_⟩:=I.loc;refine .cons (by rw [I.ok.kind];decide) hf hn ?_ I.funs;exact Heap.get?_none_of_le (Nat.le_trans I.ok.bsz I.ok.above)
theorem Inv.stkSub (I:Inv X pins σ H s):∀b∈frs X.stack,b∈X.env.locals::X.fs:=λb hb=>by
 rcases I.ok.stk with e | ⟨e,hf⟩
 ·rw [e] at hb;exact List.mem_cons_of_mem _ hb
 ·rw [e] at hb;unfold frs at hb;rw [List.filterMap_cons,hf] at hb;exact hb
theorem Inv.stkFree (I:Inv X pins σ H s):∀b∈frs X.stack,H b=none:=λb hb=>by
 rcases List.mem_cons.mp (I.stkSub b hb) with e | hb
 ·rw [e];exact I.free
 ·obtain ⟨_,o,ho,_⟩:=I.ok.funs.mem hb;exact I.base.free b o ho (I.ok.frf b hb) λz=>I.ok.exfs b z hb
theorem Inv.step {g':Array GenState}{t':Nat}{d':Drawn}{ch:List Addr} (I:Inv X pins σ H s)
  (hch:∀b∈ch,(b∈X.ex\/X.s₀.heap.objs.size<=b)/\b≠X.env.locals/\(∀x c,X.env.cells.lookup x=some c->c≠b)/\∀p∈X.pn++pins,p.1≠b)
  (keep:∀b o,b≠X.env.locals->b ∉ X.fs->b ∉ ch->s.heap.get? b=some o->H b=none->h'.get? b=some o)
  (slot:∀b o,b≠X.env.locals->b∈X.fs->b ∉ ch->s.heap.get? b=some o->H b=none->∃sl,h'.get? b=some { o with slots:=sl }) (free:∀b o,b ∉ ch->s.heap.get? b=some o->H b=none->H' b=none)
  (there:∀b o,b ∉ ch->s.heap.get? b=some o->∃o',h'.get? b=some o')
  (tups:∀b xs,H b=some (.tup xs)->H' b=some (.tup xs)) (frzs:∀b o u,H b=some (.frz o u)->H' b=some (.frz o u)) (tbls:∀b ps,H b=some (.tbl ps)->∃more,H' b=some (.tbl (ps++more)))
  (ns:∀m,s.heap.Ns X.env.locals m->h'.Ns X.env.locals m) (hok:HOk X.prog X.w H' h') (hg:AllBare g') :
  Inv X pins σ H' { s with heap:=h',gens:=g',drawn:=d',toks:=t' }:=by
 have neL:∀b o,X.s₀.heap.get? b=some o->b≠X.env.locals:=λb o e=>Nat.ne_of_lt (Nat.lt_of_lt_of_le (Heap.lt_size e) I.ok.above);have neC:∀b o,X.s₀.heap.get? b=some o->b ∉ X.ex->b ∉ ch:=λb o e hx hb=>by
  rcases (hch b hb).1 with z | z
  ·exact hx z
  ·exact absurd (Nat.lt_of_lt_of_le (Heap.lt_size e) z) (Nat.lt_irrefl _)
 have cellK:∀x c,X.env.cells.lookup x=some c->∀v,s.heap.IsCell c v->h'.IsCell c v:=λx c e v ⟨o,ho,hd⟩=>by
  have nch:c ∉ ch:=λz=>(hch c z).2.2.1 x c e rfl;by_cases hc:c∈X.fs
  ·obtain ⟨sl,q⟩:=slot c o (I.cne x c e) hc nch ho (I.freeC x c e);exact ⟨_,q,hd⟩
  ·exact ⟨o,keep c o (I.cne x c e) hc nch ho (I.freeC x c e),hd⟩
 refine ⟨I.ok,I.os,hg,⟨λb o e n hb hx=>?_,λb o e n hb hx=>?_,λb o e n hx=>?_,λb o e hx=>?_,λb xs e=>tups b xs (I.base.tups b xs e),λb o xs e=>frzs b o xs (I.base.frzs b o xs e),λb ps e=>?_⟩,?_,λx c e=>?_,?_,λx c e=>?_,λp hp=>?_,hok,I.len⟩
 ·exact keep b o (neL b o e) hb (neC b o e hx) (I.base.keep b o e n hb hx) (I.base.free b o e n hx)
 ·obtain ⟨sl,e1⟩:=I.base.slot b o e n hb hx;obtain ⟨sl',e2⟩:=slot b _ (neL b o e) hb (neC b o e hx) e1 (I.base.free b o e n hx);exact ⟨sl',e2⟩
 ·obtain ⟨o',e1⟩:=I.base.there b o e hx;exact free b o' (neC b o e hx) e1 (I.base.free b o e n hx)
 ·obtain ⟨o',e1⟩:=I.base.there b o e hx;exact there b o' (neC b o e hx) e1
 ·obtain ⟨m1,e1⟩:=I.base.tbls b ps e;obtain ⟨m2,e2⟩:=tbls b _ e1;exact ⟨m1++m2,by rw [e2,Array.append_assoc]⟩
 ·obtain ⟨m,hn,hl⟩:=I.loc;refine ⟨m,ns m hn,λi x v e1 e2 e3=>?_⟩;obtain ⟨u,r,l⟩:=hl i x v e1 e2 e3;refine ⟨u,r,?_⟩;rcases l with l | ⟨k,c,e,z⟩
  ·exact .inl l
  ·exact .inr ⟨k,c,e,cellK x c e _ z⟩
 ·obtain ⟨v,z⟩:=I.cell x c e;exact ⟨v,cellK x c e v z⟩
 ·obtain ⟨m,⟨o,_,_,ho,_⟩,_⟩:=I.loc;exact free _ o (λz=>(hch _ z).2.1 rfl) ho I.free
 ·obtain ⟨v,o,ho,hd⟩:=I.cell x c e;exact free c o (λz=>(hch c z).2.2.1 x c e rfl) ho (I.freeC x c e)
 ·obtain ⟨e,n,ne,nf,d⟩:=I.pin p hp;have nch:p.1 ∉ ch:=λz=>(hch p.1 z).2.2.2 p hp rfl;exact ⟨keep p.1 p.2 ne nf nch e n,free p.1 p.2 nch e n,ne,nf,d⟩
theorem Inv.un {t':Nat}(I:Inv X pins σ H s)(u:Un X.fs [] H H' s.heap h')(hok:HOk X.prog X.w H' h'):Inv X pins σ H' { s with heap:=h',toks:=t' }:=by
 obtain ⟨m,⟨o,es,ep,ho,r⟩,_⟩:=id I.loc;obtain ⟨sl,hL⟩:=u.any ho I.free (by simp);exact I.step (g':=s.gens) (d':=s.drawn) (ch:=[]) (λ_ z=>nomatch z) (λb o _ hb _ e n=>u.keep b o e n hb (by simp)) (λb o _ hb _ e n=>u.slot b o e n hb (by simp)) (λb o _ e n=>u.free b o e n (by simp)) (λb o _ e=>u.there b o e (by simp)) u.tups u.frzs u.tbls (λm' hm=>by
  obtain ⟨o',es',ep',ho',r'⟩:=hm;rw [ho] at ho';cases ho';exact ⟨_,es',ep',hL,r'⟩) hok I.bare
theorem Inv.call {g':Array GenState}{t':Nat}{d':Drawn}{ch:List Addr} (I:Inv X pins σ H s) (u:Un (frs X.stack) ch H H' s.heap h') (hok:HOk X.prog X.w H' h') (hg:AllBare g')
  (hch:∀b∈ch,(b∈X.ex\/X.s₀.heap.objs.size<=b)/\b≠X.env.locals/\(∀x c,X.env.cells.lookup x=some c->c≠b)/\∀p∈X.pn++pins,p.1≠b) :
  Inv X pins σ H' { s with heap:=h',gens:=g',drawn:=d',toks:=t' }:=by
 obtain ⟨m,⟨o,es,ep,ho,r⟩,_⟩:=id I.loc;obtain ⟨sl,hL⟩:=u.any ho I.free λz=>(hch _ z).2.1 rfl;exact I.step (ch:=ch) hch (λb o hL hb hc e n=>u.keep b o e n (λz=>(List.mem_cons.mp (I.stkSub b z)).elim hL hb) hc) (λb o _ _ hc e n=>u.any e n hc) (λb o hc e n=>u.free b o e n hc) (λb o hc e=>u.there b o e hc) u.tups u.frzs u.tbls (λm' hm=>by
  obtain ⟨o',es',ep',ho',r'⟩:=hm;rw [ho] at ho';cases ho';exact ⟨_,es',ep',hL,r'⟩) hok hg
theorem Inv.turned {t':Nat}{it:Addr} (I:Inv X pins σ H s) (k:∀b o,b≠it->s.heap.get? b=some o->h'.get? b=some o) (hn:H it=none) (hL:it≠X.env.locals)
  (h1:it∈X.ex\/X.s₀.heap.objs.size<=it) (h2:∀x c,X.env.cells.lookup x=some c->c≠it) (h3:∀p∈X.pn++pins,p.1≠it):Inv X pins σ H { s with heap:=h',toks:=t' }:=by
 have nit:∀b u,H b=some u->b≠it:=λb u e z=>by rw [z,hn] at e;cases e
 refine I.step (g':=s.gens) (d':=s.drawn) (ch:=[it]) (λb hb=>?_) (λb o _ _ hc e _=>k b o (λz=>hc (by simp [z])) e) (λb o _ _ hc e _=>⟨o.slots,k b o (λz=>hc (by simp [z])) e⟩) (λ_ _ _ _ n=>n)
  (λb o hc e=>⟨o,k b o (λz=>hc (by simp [z])) e⟩) (λ_ _ e=>e) (λ_ _ _ e=>e) (λb ps e=>⟨#[],by rw [e];simp⟩) (λm hm=>?_) (λb u e=>?_) I.bare
 ·have e:b=it:=by simpa using hb
  subst e;exact ⟨h1,hL,h2,h3⟩
 ·obtain ⟨o,es,ep,ho,r⟩:=hm;exact ⟨o,es,ep,k _ o (Ne.symm hL) ho,r⟩
 ·refine (I.hok b u e).stay (λc v hc q=>k c v ?_ q) (λ_ q=>q) λ_ _ q=>q;rcases hc with z | z
  ·rw [z];exact nit b u e
  ·exact nit c _ z
theorem Inv.tok (I:Inv X pins σ H s)(t:Nat):Inv X pins σ H { s with toks:=t }:=I.un (h':=s.heap) (t':=t) Un.refl I.hok
theorem Inv.kept {t':Nat}(I:Inv X pins σ H s)(k:∀b u,s.heap.get? b=some u->h'.get? b=some u):Inv X pins σ H { s with heap:=h',toks:=t' }:=I.un (Un.kept k) (I.hok.kept k)
theorem Inv.laid {a:Addr}{o:HO}{t':Nat} (I:Inv X pins σ H s) (k:∀b u,s.heap.get? b=some u->h'.get? b=some u) (hp:s.heap.objs.size<=a) (new:ObjOk X.prog X.w (upd H a o) h' a o) :
  Inv X pins σ (upd H a o) { s with heap:=h',toks:=t' }:=I.un (Un.laid k hp (I.hok.fresh hp)) (I.hok.laid k hp new)
theorem Inv.write {x e:Addr}{o:HO}{t':Nat} (I:Inv X pins σ H s) (mu:Mut (H x)) (he:e=x\/H e=some (.own x)) (k:∀b u,b≠e->s.heap.get? b=some u->h'.get? b=some u) (heo:∃u,h'.get? e=some u)
  (new:ObjOk X.prog X.w (upd H x o) h' x o):Inv X pins σ (upd H x o) { s with heap:=h',toks:=t' }:=I.un (Un.write mu he k heo) (I.hok.write mu he k heo new)
theorem Inv.weak {σ':List (Option V)}(I:Inv X pins σ H s)(hl:σ'.length=σ.length)(w:∀(i:Nat) v,σ'[i]?=some (some v)->σ[i]?=some (some v)):Inv X pins σ' H s :=
 ⟨I.ok,I.os,I.bare,I.base,let ⟨m,hn,hl'⟩:=I.loc;⟨m,hn,λi x v e1 e2 e3=>hl' i x v e1 (w i v e2) e3⟩,I.cell,I.free,I.freeC,I.pin,I.hok,hl.trans I.len⟩
theorem Inv.pins_of {pins':List (Addr×Obj)}(I:Inv X pins σ H s)(h:∀p∈pins',s.heap.get? p.1=some p.2/\H p.1=none/\p.1≠X.env.locals/\p.1 ∉ X.fs/\∀v,p.2.data≠.cell v):Inv X pins' σ H s :=
 ⟨I.ok,I.os,I.bare,I.base,I.loc,I.cell,I.free,I.freeC,λp hp=>(List.mem_append.mp hp).elim (λz=>I.pin p (List.mem_append_left _ z)) (h p),I.hok,I.len⟩
theorem nodup_ix {N:List Str}(hN:N.Nodup){i j:Nat}{x:Str} (a:N[i]?=some x) (b:N[j]?=some x):i=j:=by
 obtain ⟨h1,e1⟩:=List.getElem?_eq_some_iff.mp a;obtain ⟨h2,e2⟩:=List.getElem?_eq_some_iff.mp b;exact (List.getElem_inj hN).mp (e1.trans e2.symm)
theorem store_ok2 {M:Model}{A:Around}{E:Value->Shared->Prop}{i:Nat}{x:Str}{v:V}{u:Value}{Q:Unit->Shared->Prop} (I:Inv X pins σ H s) (hN:X.N.Nodup) (hi:X.N[i]?=some x) (hx:Loc X.env.scope x) (r:RelV v u)
  (h:∀s',Inv X pins (σ.set i (some v)) H s'->(∃a,Heap.SameBut a s.heap s'.heap/\(a=X.env.locals\/X.env.cells.lookup x=some a))->Q () s') (hf:X.fn x=true\/X.env.scope.names.lookup x=some .local:=by first | exact .inl rfl | exact .inr rfl | assumption):wpAny M A (storeName X.env x u) Q E s:=by
 obtain ⟨m,hn,hl⟩:=id I.loc;have hcls:(X.env.scope.kind==.class||(X.env.scope.kind==.module&&X.env.locals != X.env.globals))=false:=by rw [I.ok.kind];rfl
 have hiσ:i<σ.length:=by rw [I.len];exact (List.getElem?_eq_some_iff.mp hi).1
 have cne:=I.cne;have tracked:∀{a:Addr}{h':Heap},(∃o,s.heap.get? a=some o/\H a=none)->Heap.SameBut a s.heap h'->HOk X.prog X.w H h':=fun {a h'} ha hs b ob e=>by
  obtain ⟨_,_,hfree⟩:=ha;refine (I.hok b ob e).stay (λc w' hc q=>(hs.2 c ?_).trans q) (λ_ q=>q) λ_ _ q=>q;rintro rfl;rcases hc with rfl | hc
  ·rw [hfree] at e;cases e
  ·rw [hfree] at hc;cases hc
 rcases hx with hk | hk
 ·refine wpAny_storeName_local hk hn (λh' hn' hs=>?_) hcls;obtain ⟨oL,_,_,hoL,_⟩:=id hn;refine h _ ⟨I.ok,I.os,I.bare,⟨λb o e n hb hx=>?_,λb o e n hb hx=>?_,I.base.free,λb o e hx=>?_,I.base.tups,I.base.frzs,I.base.tbls⟩,⟨_,hn',λj y v' e1 e2 e3=>?_⟩,λy c e=>?_,I.free,I.freeC,λp hp=>?_,tracked ⟨oL,hoL,I.free⟩ hs,by simpa using I.len⟩ ⟨_,hs,.inl rfl⟩
  ·exact (hs.2 b (Nat.ne_of_lt (Nat.lt_of_lt_of_le (Heap.lt_size e) I.ok.above))).trans (I.base.keep b o e n hb hx)
  ·obtain ⟨sl,e1⟩:=I.base.slot b o e n hb hx;exact ⟨sl,(hs.2 b (Nat.ne_of_lt (Nat.lt_of_lt_of_le (Heap.lt_size e) I.ok.above))).trans e1⟩
  ·obtain ⟨o',e1⟩:=I.base.there b o e hx;exact ⟨o',(hs.2 b (Nat.ne_of_lt (Nat.lt_of_lt_of_le (Heap.lt_size e) I.ok.above))).trans e1⟩
  ·by_cases hj:j=i
   ·subst hj;rw [hi] at e1;cases e1;rw [List.getElem?_set_self hiσ] at e2;cases e2;exact ⟨u,r,.inl ⟨hk,by simp⟩⟩
   ·rw [List.getElem?_set_ne (Ne.symm hj)] at e2;obtain ⟨u',r',q⟩:=hl j y v' e1 e2 e3;refine ⟨u',r',?_⟩;rcases q with ⟨k,e⟩ | ⟨k,c,e,z⟩
    ·refine .inl ⟨k,?_⟩;have:y≠x:=λe=>hj (nodup_ix hN e1 (e▸hi));simp [this,e]
    ·exact .inr ⟨k,c,e,z.sameBut hs (cne y c e)⟩
  ·obtain ⟨w',z⟩:=I.cell y c e;exact ⟨w',z.sameBut hs (cne y c e)⟩
  ·obtain ⟨e,n,ne,nf,d⟩:=I.pin p hp;exact ⟨(hs.2 p.1 ne).trans e,n,ne,nf,d⟩
 ·have hfn:X.fn x=true:=by
   rcases hf with z | z
   ·exact z
   ·rw [z] at hk;cases hk
  obtain ⟨c,hc⟩:=I.ok.has x (.inl hk);obtain ⟨w',z⟩:=I.cell x c hc;refine wpAny_storeName_cell I.ok.kind hk hc z (λh' hc' hs=>?_);obtain ⟨oc,hoc,hocd⟩:=id z;refine h { s with heap:=h' } ⟨I.ok,I.os,I.bare,⟨λb o e n hb hx=>?_,λb o e n hb hx=>?_,I.base.free,λb o e hx=>?_,I.base.tups,I.base.frzs,I.base.tbls⟩,⟨m,hn.sameBut hs (Ne.symm (cne x c hc)),λj y v' e1 e2 e3=>?_⟩,λy c' e=>?_,I.free,I.freeC,λp hp=>?_,tracked ⟨oc,hoc,I.freeC x c hc⟩ hs,by simpa using I.len⟩ ⟨c,hs,.inr hc⟩
  ·exact (hs.2 b (Nat.ne_of_lt (Nat.lt_of_lt_of_le (Heap.lt_size e) (I.ok.cab x c hfn hc)))).trans (I.base.keep b o e n hb hx)
  ·obtain ⟨sl,e1⟩:=I.base.slot b o e n hb hx;exact ⟨sl,(hs.2 b (Nat.ne_of_lt (Nat.lt_of_lt_of_le (Heap.lt_size e) (I.ok.cab x c hfn hc)))).trans e1⟩
  ·obtain ⟨o',e1⟩:=I.base.there b o e hx;exact ⟨o',(hs.2 b (Nat.ne_of_lt (Nat.lt_of_lt_of_le (Heap.lt_size e) (I.ok.cab x c hfn hc)))).trans e1⟩
  ·by_cases hj:j=i
   ·subst hj;rw [hi] at e1;cases e1;rw [List.getElem?_set_self hiσ] at e2;cases e2;exact ⟨u,r,.inr ⟨.inl hk,c,hc,hc'⟩⟩
   ·rw [List.getElem?_set_ne (Ne.symm hj)] at e2;obtain ⟨u',r',q⟩:=hl j y v' e1 e2 e3;refine ⟨u',r',?_⟩;rcases q with q | ⟨k,c',e,z'⟩
    ·exact .inl q
    ·refine .inr ⟨k,c',e,z'.sameBut hs ?_⟩;rintro rfl;exact hj (nodup_ix hN e1 (I.ok.inj _ _ _ e hc▸hi))
  ·by_cases hcc:c'=c
   ·subst hcc;exact ⟨_,hc'⟩
   ·obtain ⟨w2,z2⟩:=I.cell y c' e;exact ⟨w2,z2.sameBut hs hcc⟩
  ·obtain ⟨e,n,ne,nf,d⟩:=I.pin p hp;refine ⟨(hs.2 p.1 ?_).trans e,n,ne,nf,d⟩;intro q;rw [q,hoc] at e;have q':oc=p.2:=Option.some.inj e;exact d w' (by rw [<- q'];exact hocd)
theorem store_ok {M:Model}{A:Around}{E:Value->Shared->Prop}{i:Nat}{x:Str}{v:V}{u:Value}{Q:Unit->Shared->Prop} (I:Inv X pins σ H s) (hN:X.N.Nodup) (hi:X.N[i]?=some x) (hx:Loc X.env.scope x) (r:RelV v u)
  (h:∀s',Inv X pins (σ.set i (some v)) H s'->Q () s') (hf:X.fn x=true\/X.env.scope.names.lookup x=some .local:=by first | exact .inl rfl | exact .inr rfl | assumption):wpAny M A (storeName X.env x u) Q E s :=
 store_ok2 I hN hi hx r (λs' I' _=>h s' I') hf
theorem Inv.call' {s':Shared}{ch:List Addr} (I:Inv X pins σ H s) (ho:s'.os=s.os) (u:Un (frs X.stack) ch H H' s.heap s'.heap) (hok:HOk X.prog X.w H' s'.heap) (hg:AllBare s'.gens)
  (hch:∀b∈ch,(b∈X.ex\/X.s₀.heap.objs.size<=b)/\b≠X.env.locals/\(∀x c,X.env.cells.lookup x=some c->c≠b)/\∀p∈X.pn++pins,p.1≠b):Inv X pins σ H' s':=by
 obtain ⟨h',g',d',t',o'⟩:=s';have e:o'=s.os:=ho;subst e;exact I.call (g':=g') (t':=t') (d':=d') u hok hg hch
end
abbrev XK:=Value->Option Addr->Hp->Prop
abbrev St:=List (Option V)
abbrev VK:=V->Hp->Prop
abbrev TE:=St->Hp->VK->Prop
abbrev TT:=St->Hp->(Bool->Hp->Prop)->Prop
abbrev TA:=St->Hp->(List V->Hp->Prop)->Prop
structure Ends where
 nx:St->Hp->Prop
 rt:VK
 bk:St->Hp->Prop:=λ_ _=>False
 ct:St->Hp->Prop:=λ_ _=>False
abbrev TS:=Ends->St->Hp->Prop
inductive EP (X:Cx)(pins:List (Addr×Obj))(σ:St)(Q:VK)(u:Value)(s':Shared):Prop
 | mk (v H'):(Inv X pins σ H' s')->(RelV v u)->(Q v H')->EP X pins σ Q u s'
inductive TP (X:Cx)(pins:List (Addr×Obj))(σ:St)(Q:Bool->Hp->Prop)(b:Bool)(s':Shared):Prop
 | mk (H'):(Inv X pins σ H' s')->(Q b H')->TP X pins σ Q b s'
inductive AP (X:Cx)(pins:List (Addr×Obj))(σ:St)(Q:List V->Hp->Prop)(us:List Value)(s':Shared):Prop
 | mk (vs H'):(Inv X pins σ H' s')->(Vals vs us)->(Q vs H')->AP X pins σ Q us s'
def SP (X:Cx)(pins:List (Addr×Obj))(D:Ends)(f:Flow)(s':Shared):Prop :=
 match f with
 | .next=>∃σ' H',Inv X pins σ' H' s'/\D.nx σ' H'
 | .brk=>∃σ' H',Inv X pins σ' H' s'/\D.bk σ' H'
 | .cont=>∃σ' H',Inv X pins σ' H' s'/\D.ct σ' H'
 | .ret u=>∃v σ' H',Inv X pins σ' H' s'/\RelV v u/\D.rt v H'
def PE (X:Cx)(e:Expr)(t:TE):Prop :=
 ∀(pins:List (Addr×Obj)) (s:Shared) (σ:St) (H:Hp) (Q:VK),Inv X pins σ H s->t σ H Q->wpAny (model X.prog X.w) X.A (eval e X.env) (EP X pins σ Q) X.xe s
def PT (X:Cx)(e:Expr)(t:TT):Prop :=
 ∀(pins:List (Addr×Obj)) (s:Shared) (σ:St) (H:Hp) (Q:Bool->Hp->Prop),Inv X pins σ H s->t σ H Q->wpAny (model X.prog X.w) X.A (isTrue e X.env (eval e X.env)) (TP X pins σ Q) X.xe s
def PW (X:Cx)(e:Expr)(t:TT):Prop :=
 ∀(whole:Sem Value) (pins:List (Addr×Obj)) (s:Shared) (σ:St) (H:Hp) (Q:Bool->Hp->Prop),Inv X pins σ H s->t σ H Q->wpAny (model X.prog X.w) X.A (isTrue e X.env whole) (TP X pins σ Q) X.xe s
theorem PW.pt {X:Cx}{e:Expr}{t:TT} (h:PW X e t):PT X e t:=h _
def PA (X:Cx)(es:List Expr)(t:TA):Prop :=
 ∀(pos:Pos) (pins:List (Addr×Obj)) (s:Shared) (σ:St) (H:Hp) (Q:List V->Hp->Prop),Inv X pins σ H s->t σ H Q->wpAny (model X.prog X.w) X.A (spliced (backTo pos (starEach es X.env))) (AP X pins σ Q) X.xe s
def PS (X:Cx)(st:Stmt)(t:TS):Prop :=
 ∀(pins:List (Addr×Obj)) (s:Shared) (σ:St) (H:Hp) (D:Ends),Inv X pins σ H s->t D σ H->wpAny (model X.prog X.w) X.A (exec st X.env) (SP X pins D) X.xe s
def PSs (X:Cx)(st:List Stmt)(t:TS):Prop :=
 ∀(pins:List (Addr×Obj)) (s:Shared) (σ:St) (H:Hp) (D:Ends),Inv X pins σ H s->t D σ H->wpAny (model X.prog X.w) X.A (execs st X.env) (SP X pins D) X.xe s
theorem thn {α:Type}{t:Sem α}{Q Q':α->Shared->Prop}{M:Model}{A:Around}{E:Value->Shared->Prop}{s:Shared} (h:wpAny M A t Q E s) (hQ:∀a s,Q a s->Q' a s):wpAny M A t Q' E s:=wpAny_mono h hQ λ_ _ x=>x
end L2
namespace L2
open PySem PySem.Spec PyProof.Rows
section
variable {X:Cx}
inductive tVar (i:Nat)(σ:L2.St)(H:Hp)(Q:VK):Prop
 | mk (v):(σ[i]?=some (some v))->(Q v H)->tVar i σ H Q
def tC (v:V):TE:=λ_ H Q=>Q v H
theorem zO {i:Nat}{x:Str}{pos:Pos} (hN:X.N[i]?=some x) (hv:Vis X.env.scope x) (hd:(x==("__debug__":Str))=false:=by decide) (hcd:(x==("__classdict__":Str))=false:=by decide):PE X (.Name x pos) (tVar i):=by
 intro pins s σ H Q I h;obtain ⟨v,e,h⟩:=h;obtain ⟨m,hn,hl⟩:=I.loc;obtain ⟨u,r,l⟩:=hl i x v hN e hv;have fin:EP X pins σ Q u s:=⟨v,H,I,r,h⟩
 rcases l with ⟨hk,hm⟩ | ⟨hk,c,hc,hcell⟩
 ·exact wpAny_Name (wpAny_loadName_local I.ok.kind hk hn hm fin) hd
 ·rcases hk with hk | hk
  ·exact wpAny_Name (wpAny_loadName_cell I.ok.kind hk hc hcell fin) hd
  ·exact wpAny_Name (wpAny_loadName_free I.ok.kind hk hc hcell fin hcd) hd
theorem pe_int {i j pos}:PE X (.Constant (.int i) j pos) (tC (.int i)):=λ_ _ _ H _ I h=>wpAny_Constant_int ⟨.int i,H,I.tok _,⟨_,rfl⟩,h⟩
def Gl (X:Cx)(x:Str):Prop:=X.env.kindOf x=some .globalImplicit
theorem ld_glob {E:Value->Shared->Prop}{pins:List (Addr×Obj)}{s:Shared}{σ:St}{H:Hp}{x:Str}{u:Value}{pos:Pos}{Q:Value->Shared->Prop} (I:Inv X pins σ H s) (hg:Gl X x) (hm:X.mg x=some u) (h:Q u s)
  (hd:(x==("__debug__":Str))=false:=by decide):wpAny (model X.prog X.w) X.A (eval (.Name x pos) X.env) Q E s :=
 Calls.Name_function_global I.ok.kind hg (Calls.loadGlobal_global (by rw [I.ok.glob];exact I.mod.glob.keeps I.bk) hm h) hd
theorem ld_blt {E:Value->Shared->Prop}{pins:List (Addr×Obj)}{s:Shared}{σ:St}{H:Hp}{x:Str}{u:Value}{pos:Pos}{Q:Value->Shared->Prop} (I:Inv X pins σ H s) (hg:Gl X x) (hm:X.mg x=none) (hv:bootBuiltins x=some u) (h:Q u s)
  (hn:x≠"__name__":=by decide) (hd:(x==("__debug__":Str))=false:=by decide):wpAny (model X.prog X.w) X.A (eval (.Name x pos) X.env) Q E s:=by
 obtain ⟨mb,h1,h2⟩:=I.mod.blt;exact Calls.Name_function_global I.ok.kind hg (Calls.loadGlobal_builtin (by rw [I.ok.glob];exact I.mod.glob.keeps I.bk) hm (by rw [I.ok.blt];exact h1.keeps I.bk) ((h2 x hn).trans hv) h) hd
theorem bj {x:Str}{v:V}{u:Value}{pos:Pos} (hg:Gl X x) (hm:X.mg x=some u) (r:RelV v u) (hd:(x==("__debug__":Str))=false:=by decide):PE X (.Name x pos) (tC v) :=
 λ_ _ _ H _ I h=>ld_glob I hg hm ⟨v,H,I,r,h⟩ hd
variable {a b:Expr}{ta tb:TE}{pos:Pos}
inductive tB_x (Q:Bool->Hp->Prop)(x:V)(H1:Hp):Prop
 | mk (c):(x=.bl c)->(Q c H1)->tB_x Q x H1
def tB (t:TE):TT:=λσ H Q=>t σ H λx H1=>tB_x Q x H1
theorem uE {e:Expr}{t:TE} (h:PE X e t) (he:∀whole,isTrue e X.env whole=(do let v <- whole;standAt e.pos;holding [v] (truthy v)):=by intro _;rfl):PT X e (tB t):=by
 intro pins s σ H Q I hw;refine isTrue_plain (thn (h pins s σ H _ I hw) λv s1 hz=>?_) (he _);obtain ⟨x,H1,I1,r1,q1⟩:=hz;obtain ⟨d,rfl,q⟩:=q1;cases r1;exact wpAny_truthy_bool ⟨H1,I1,q⟩
variable {tA tB':TT}{rest:List Expr}
def tAnd (t u:TT):TT:=λσ H Q=>t σ H λc H1=>if c=true then u σ H1 Q else Q false H1
def tOr (t u:TT):TT:=λσ H Q=>t σ H λc H1=>if c=true then Q true H1 else u σ H1 Q
def tNot (t:TT):TT:=λσ H Q=>t σ H λc H1=>Q (!c) H1
theorem yx (ha:PT X a tA):PW X (.BoolOp .And [a] pos) tA:=by
 intro wh pins s σ H Q I h;refine isTrue_and (thn (ha pins s σ H Q I h) λc s1 e=>?_);cases c with
 | true=>exact isTrue_and_nil e
 | false=>exact e
theorem uF (ha:PT X a tA):PW X (.BoolOp .Or [a] pos) tA:=by
 intro wh pins s σ H Q I h;refine isTrue_or (thn (ha pins s σ H Q I h) λc s1 e=>?_);cases c with
 | false=>exact isTrue_or_nil e
 | true=>exact e
theorem zP (ha:PT X a tA)(hb:PW X (.BoolOp .And (b::rest) pos) tB'):PW X (.BoolOp .And (a::b::rest) pos) (tAnd tA tB'):=by
 intro wh pins s σ H Q I h;refine isTrue_and (thn (ha pins s σ H _ I h) λc s1 hz=>?_);obtain ⟨H1,I1,q1⟩:=hz;cases c with
 | true=>exact hb wh pins s1 σ H1 Q I1 q1
 | false=>exact ⟨H1,I1,q1⟩
theorem yy (ha:PT X a tA)(hb:PW X (.BoolOp .Or (b::rest) pos) tB'):PW X (.BoolOp .Or (a::b::rest) pos) (tOr tA tB'):=by
 intro wh pins s σ H Q I h;refine isTrue_or (thn (ha pins s σ H _ I h) λc s1 hz=>?_);obtain ⟨H1,I1,q1⟩:=hz;cases c with
 | true=>exact ⟨H1,I1,q1⟩
 | false=>exact hb wh pins s1 σ H1 Q I1 q1
theorem rW (ha:PT X a tA):PT X (.UnaryOp .Not a pos) (tNot tA):=by
 intro pins s σ H Q I h;exact isTrue_not (thn (ha pins s σ H _ I h) λc s1 hz=>by obtain ⟨H1,I1,q1⟩:=hz;exact ⟨H1,I1,q1⟩)
inductive uG (tb:TE)(σ:L2.St)(Q:VK)(x:V)(H1:Hp):Prop
 | mk (c):(x=.bl c)->(if c=true then tb σ H1 Q else Q (.bl false) H1)->uG tb σ Q x H1
def AO (ta tb:TE):TE:=λσ H Q=>ta σ H λx H1=>uG tb σ Q x H1
theorem ya {op}{t:TE} (h:PE X a t):PE X (.BoolOp op [a] pos) t:=λpins s σ H Q I hw=>BoolOp_one (h pins s σ H Q I hw)
theorem oK (ha:PE X a ta)(hb:PE X (.BoolOp .And (b::rest) pos) tb):PE X (.BoolOp .And (a::b::rest) pos) (AO ta tb):=by
 intro pins s σ H Q I h;refine BoolOp_and (thn (ha pins s σ H _ I h) λv s1 hz=>?_);obtain ⟨x,H1,I1,r1,q1⟩:=hz;obtain ⟨c,rfl,q1⟩:=q1;cases r1;refine wpAny_truthy_bool ?_;cases c with
 | true=>exact hb pins s1 σ H1 Q I1 q1
 | false=>exact ⟨.bl false,H1,I1,rfl,q1⟩
def tIf (t:TT)(ta tb:TE):TE:=λσ H Q=>t σ H λc H1=>if c=true then ta σ H1 Q else tb σ H1 Q
theorem mC {c:Expr}(hc:PT X c tA)(ha:PE X a ta)(hb:PE X b tb):PE X (.IfExp c a b pos) (tIf tA ta tb):=by
 intro pins s σ H Q I h;refine wpAny_IfExp (thn (hc pins s σ H _ I h) λd s1 hz=>?_);obtain ⟨H1,I1,q1⟩:=hz;cases d with
 | true=>exact ha pins s1 σ H1 Q I1 q1
 | false=>exact hb pins s1 σ H1 Q I1 q1
end
end L2
namespace L2
open PySem PySem.Spec PyProof.Rows
def SqL (K:W.Frag)(H:Hp)(a:Addr)(xs:List V):Prop :=
 Rd H a (.lst xs) \/
  ∃(o:Obj) (its:Array Value) (n:Nat),K.lookup a=some o/\o.cls=.type "list"/\o.dict=none/\o.data=.seq its n/\its.size<=sizeLine/\Vals xs its.toList
def SqT (K:W.Frag)(H:Hp)(a:Addr)(xs:List V):Prop :=
 Rd H a (.tup xs) \/
  ∃(o:Obj) (its:Array Value) (n:Nat),K.lookup a=some o/\o.cls=.type "tuple"/\o.data=.seq its n/\its.size<=sizeLine/\Vals xs its.toList
def absV:Value->Option V
 | .none=>some .non
 | .bool b=>some (.bl b)
 | .int i _=>some (.int i)
 | .str x _=>some (.str x)
 | .bytes b _=>some (.byt b)
 | .float b _=>some (.flt b)
 | .ref a=>some (.ref a)
 | .type n=>some (.ty n)
 | _=>none
theorem RelV.abs {x:V}{u:Value} (r:RelV x u):absV u=some x:=by
 cases x with
 | non=>cases r;rfl
 | bl _=>cases r;rfl
 | int _=>obtain ⟨t,rfl⟩:=r;rfl
 | str _=>obtain ⟨t,rfl⟩:=r;rfl
 | byt _=>obtain ⟨t,rfl⟩:=r;rfl
 | flt _=>obtain ⟨t,rfl⟩:=r;rfl
 | ref _=>cases r;rfl
 | ty _=>cases r;rfl
theorem RelV.inj {x y:V}{u:Value} (r:RelV x u) (q:RelV y u):x=y:=Option.some.inj (r.abs.symm.trans q.abs)
theorem Vals.inj:∀{xs ys:List V}{us:List Value},Vals xs us->Vals ys us->xs=ys
 | _,_,_,.nil,.nil=>rfl
 | _,_,_,.cons r t,.cons r' t'=>by rw [r.inj r',Vals.inj t t']
section
variable {X:Cx}{pins:List (Addr×Obj)}{σ:St}{H:Hp}{s:Shared}{a:Addr}{xs ys:List V}
theorem SqL.of {K:W.Frag}(h:H a=some (.lst xs)):SqL K H a xs:=.inl (.inl h)
theorem SqT.of {K:W.Frag}(h:H a=some (.tup xs)):SqT K H a xs:=.inl (.inl h)
theorem Inv.list (I:Inv X pins σ H s)(h:SqL X.K H a xs):∃its:List Value,Vals xs its/\PlainL s.heap a its.toArray/\xs.length<=sizeLine:=by
 rcases h with h | ⟨o,its,n,hk,hc,hd,hs,hz,r⟩
 ·obtain ⟨z,its,n,r,e⟩:=h.ok I.hok;exact ⟨its,r,⟨_,n,e,rfl,rfl,rfl⟩,z⟩
 ·refine ⟨its.toList,r,⟨o,n,I.kIn a o hk,hc,hd,by simpa using hs⟩,?_⟩;have e:=r.length;simp only [Array.length_toList] at e;omega
theorem Inv.tuple (I:Inv X pins σ H s)(h:SqT X.K H a xs):∃its:List Value,Vals xs its/\IsTup s.heap a its.toArray/\xs.length<=sizeLine:=by
 rcases h with h | ⟨o,its,n,hk,hc,hs,hz,r⟩
 ·obtain ⟨z,its,r,p⟩:=h.ok I.hok;exact ⟨its,r,p,z⟩
 ·refine ⟨its.toList,r,⟨o,I.kIn a o hk,hc,n,by simpa using hs⟩,?_⟩;have e:=r.length;simp only [Array.length_toList] at e;omega
theorem Inv.list_inj (I:Inv X pins σ H s)(h:SqL X.K H a xs)(h':SqL X.K H a ys):xs=ys:=by
 obtain ⟨its,r,⟨o,n,e,_,_,d⟩,_⟩:=I.list h;obtain ⟨its',r',⟨o',n',e',_,_,d'⟩,_⟩:=I.list h';rw [e] at e';cases e';rw [d] at d';injection d' with d1 _;have:its=its':=by simpa using congrArg Array.toList d1
 subst this;exact r.inj r'
end
abbrev Cx.wish (X:Cx)(E:Value->Shared->Prop):Cx:={ X with xe:=E }
abbrev Cx.nox (X:Cx):Cx:=X.wish λ_ _=>False
theorem Cx.Ok.wish {X:Cx}(ok:X.Ok)(E:Value->Shared->Prop):(X.wish E).Ok :=
 ⟨ok.mod,ok.kind,ok.glob,ok.blt,ok.above,ok.inj,ok.has,ok.cab,ok.hd,ok.frames,ok.stk,ok.exf,ok.bs,ok.bsz,ok.noex,ok.exfs,ok.funs,ok.frf⟩
theorem Cx.Ok.unwish {X:Cx}{E:Value->Shared->Prop} (ok:(X.wish E).Ok):X.Ok :=
 ⟨ok.mod,ok.kind,ok.glob,ok.blt,ok.above,ok.inj,ok.has,ok.cab,ok.hd,ok.frames,ok.stk,ok.exf,ok.bs,ok.bsz,ok.noex,ok.exfs,ok.funs,ok.frf⟩
section
variable {X:Cx}{pins:List (Addr×Obj)}{σ:St}{H:Hp}{s:Shared}{E:Value->Shared->Prop}
theorem Inv.wish (I:Inv X pins σ H s)(E:Value->Shared->Prop):Inv (X.wish E) pins σ H s:=⟨I.ok.wish E,I.os,I.bare,I.base,I.loc,I.cell,I.free,I.freeC,I.pin,I.hok,I.len⟩
theorem Inv.unwish (I:Inv (X.wish E) pins σ H s):Inv X pins σ H s:=⟨I.ok.unwish,I.os,I.bare,I.base,I.loc,I.cell,I.free,I.freeC,I.pin,I.hok,I.len⟩
theorem SP.unwish {D:Ends}{f:Flow}{s':Shared} (h:SP (X.wish E) pins D f s'):SP X pins D f s':=by
 cases f with
 | next=>obtain ⟨σ',H',I,q⟩:=h;exact ⟨σ',H',I.unwish,q⟩
 | brk=>obtain ⟨σ',H',I,q⟩:=h;exact ⟨σ',H',I.unwish,q⟩
 | cont=>obtain ⟨σ',H',I,q⟩:=h;exact ⟨σ',H',I.unwish,q⟩
 | ret u=>obtain ⟨v,σ',H',I,r,q⟩:=h;exact ⟨v,σ',H',I.unwish,r,q⟩
theorem PSs.nox {st:List Stmt}{t:TS} (h:PSs X.nox st t):PSs X st t:=λpins s σ H D I hw =>
 wpAny_mono (h pins s σ H D (I.wish _) hw) (λ_ _ q=>q.unwish) λ_ _ z=>False.elim z
end
section
variable {X:Cx}{st:Stmt}{rest:List Stmt}{t u:TS}{e:Expr}{te:TE}{pos:Pos}
def AQ:TS:=λD σ H=>D.nx σ H
def tSeq (t u:TS):TS:=λD σ H=>t { D with nx:=u D } σ H
theorem bc:PSs X [] AQ:=λ_ _ σ H _ I h=>wpAny_execs_nil ⟨σ,H,I,h⟩
theorem ac (h1:PS X st t)(h2:PSs X rest u):PSs X (st::rest) (tSeq t u):=by
 intro pins s σ H D I h;refine wpAny_execs_cons (thn (h1 pins s σ H { D with nx:=u D } I h) λf s1 q=>?_);cases f with
 | next =>
  obtain ⟨σ',H',I',q⟩:=q;exact h2 pins s1 σ' H' D I' q
 | ret v=>exact q
 | brk=>exact q
 | cont=>exact q
theorem af (h1:PS X st t):PSs X [st] t:=by
 intro pins s σ H D I h;refine wpAny_execs_cons (thn (h1 pins s σ H D I h) λf s1 q=>?_);cases f with
 | next=>exact wpAny_execs_nil q
 | ret v=>exact q
 | brk=>exact q
 | cont=>exact q
theorem Inv.quiet {pins:List (Addr×Obj)}{σ:St}{H:Hp}{s:Shared} (I:Inv X pins σ H s):interactive X.env=false:=by simp [interactive,I.ok.kind]
def AR (te:TE):TS:=λD σ H=>te σ H λ_ H1=>D.nx σ H1
theorem bd (he:PE X e te)(hs:swapsWith e none pos.line X.env=pure false:=by rfl):PS X (.Expr e pos) (AR te):=by
 intro pins s σ H D I h;refine wpAny_Expr_any (thn (he pins s σ H _ I h) λv s1 hz=>?_) I.quiet hs;obtain ⟨x,H1,I1,r1,q1⟩:=hz;exact ⟨σ,H1,I1,q1⟩
def tRet (te:TE):TS:=λD σ H=>te σ H D.rt
theorem ao (he:PE X e te):PS X (.Return (some e) pos) (tRet te):=by
 intro pins s σ H D I h;refine wpAny_Return_some (thn (he pins s σ H _ I h) λv s1 hz=>?_);obtain ⟨x,H1,I1,r1,q1⟩:=hz;exact ⟨x,σ,H1,I1,r1,q1⟩
def tIfS (c:TT)(t u:TS):TS:=λD σ H=>c σ H λb H1=>if b=true then t D σ H1 else u D σ H1
theorem di {c:Expr}{a b:List Stmt}{tc:TT} (hc:PT X c tc) (ha:PSs X a t) (hb:PSs X b u):PS X (.If c a b pos) (tIfS tc t u):=by
 intro pins s σ H D I h;refine wpAny_If (thn (hc pins s σ H _ I h) λd s1 hz=>?_);obtain ⟨H1,I1,q1⟩:=hz;cases d with
 | true=>exact ha pins s1 σ H1 D I1 q1
 | false=>exact hb pins s1 σ H1 D I1 q1
def zQ:TS:=λ_ _ _=>False
theorem uH {sts:List Stmt}:PSs X sts zQ:=λ_ _ _ _ _ _ h=>h.elim
end
abbrev TG:=V->St->Hp->(St->Hp->Prop)->Prop
abbrev TGs:=List V->St->Hp->(St->Hp->Prop)->Prop
def PG (X:Cx)(target:Expr)(t:TG):Prop :=
 ∀(pins:List (Addr×Obj)) (s:Shared) (σ:St) (H:Hp) (v:V) (u:Value) (Q:St->Hp->Prop),Inv X pins σ H s->RelV v u->t v σ H Q ->
  wpAny (model X.prog X.w) X.A (assign target X.env u) (λ_ s'=>∃σ' H',Inv X pins σ' H' s'/\Q σ' H') X.xe s
def PGs (X:Cx)(ts:List Expr)(t:TGs):Prop :=
 ∀(pins:List (Addr×Obj)) (s:Shared) (σ:St) (H:Hp) (vs:List V) (us:List Value) (Q:St->Hp->Prop),Inv X pins σ H s->Vals vs us->t vs σ H Q ->
  wpAny (model X.prog X.w) X.A (assignInOrder ((assignEach ts X.env).map (·.2)) us) (λ_ s'=>∃σ' H',Inv X pins σ' H' s'/\Q σ' H') X.xe s
abbrev TIp:=V->V->Hp->VK->Prop
def PIp (X:Cx)(op:Operator)(t:TIp):Prop :=
 ∀(pins:List (Addr×Obj)) (s:Shared) (σ:St) (H:Hp) (x y:V) (v u:Value) (Q:VK),Inv X pins σ H s->RelV x v->RelV y u->t x y H Q ->
  wpAny (model X.prog X.w) X.A (inplaceOp op v u) (EP X pins σ Q) X.xe s
section
variable {X:Cx}{pos:Pos}
def aA (i:Nat):TG:=λv σ H Q=>Q (σ.set i (some v)) H
theorem pg_name {i:Nat}{x:Str} (hN:X.N.Nodup) (hi:X.N[i]?=some x) (hx:Loc X.env.scope x) (hf:X.fn x=true\/X.env.scope.names.lookup x=some .local:=by first | exact .inl rfl | exact .inr rfl | assumption):PG X (.Name x pos) (aA i):=by
 intro pins s σ H v u Q I r h;exact wpAny_assign_Name (store_ok I hN hi hx r (λs' I'=>⟨_,H,I',h⟩) hf)
def gNil:TGs:=λvs σ H Q=>vs=[]/\Q σ H
inductive bp (t:TG)(u:TGs)(vs:List V)(σ:L2.St)(H:Hp)(Q:L2.St->Hp->Prop):Prop
 | mk (v r):(vs=v::r)->(t v σ H λσ' H'=>u r σ' H' Q)->bp t u vs σ H Q
theorem bn:PGs X [] gNil:=by
 intro pins s σ H vs us Q I r h;obtain ⟨e,h⟩:=h;subst e;cases r;exact assignInOrder_nil ⟨σ,H,I,h⟩
theorem am {e:Expr}{es:List Expr}{t:TG}{u:TGs} (h1:PG X e t) (h2:PGs X es u)
  (hs:(assignEach (e::es) X.env).map (·.2)=assign e X.env::(assignEach es X.env).map (·.2):=by rfl):PGs X (e::es) (bp t u):=by
 intro pins s σ H vs us Q I r h;obtain ⟨v,vr,e1,h⟩:=h;subst e1;cases r with
 | cons r rr =>
  rw [hs];refine assignInOrder_cons (thn (h1 pins s σ H _ _ _ I r h) λ_ s1 hz=>?_);obtain ⟨σ1,H1,I1,q1⟩:=hz;exact h2 pins s1 σ1 H1 _ _ Q I1 rr q1
inductive gTup (K:W.Frag)(n:Nat)(t:TGs)(v:V)(σ:L2.St)(H:Hp)(Q:L2.St->Hp->Prop):Prop
 | mk (a xs):(v=.ref a)->(SqT K H a xs)->(xs.length=n)->(t xs σ H Q)->gTup K n t v σ H Q
theorem bT {es:List Expr}{k:Nat}{t:TGs}{n:Nat} (hc:X.calm=true) (h:PGs X es t)
  (hn:(assignEach es X.env).length=n:=by rfl) (hst:(assignEach es X.env).findIdx? (·.1)=none:=by rfl):PG X (.Tuple es k pos) (gTup X.K n t):=by
 intro pins s σ H v u Q I r hw;obtain ⟨a,xs,e1,hq,hl,hw⟩:=hw;subst e1;cases r;obtain ⟨its,rv,ht,hz⟩:=I.tuple hq;refine assign_Tuple_tuple (I.ok.hd hc) ht (by simp [hn,<- hl,rv.length]) hst λh' hx=>?_;have I1:Inv X pins σ H { s with heap:=h' }:=I.kept (t':=s.toks) λb o e=>hx b o (Nat.ne_of_lt (Heap.lt_size e)) e;exact h pins _ σ H xs _ Q I1 (by simpa using rv) hw
def tAsg (te:TE)(g:TG):TS:=λD σ H=>te σ H λx H1=>g x σ H1 D.nx
theorem rX {tg e:Expr}{te:TE}{g:TG} (he:PE X e te) (hg:PG X tg g) (hs:swapsWithSole [tg] e pos.line X.env=pure false:=by rfl) (hw:swappedStores [tg] e X.env=pure none:=by rfl)
  (h1:(assignEach [tg] X.env).map (·.2)=[assign tg X.env]:=by rfl):PS X (.Assign [tg] e pos) (tAsg te g):=by
 intro pins s σ H D I h;refine wpAny_Assign_stores (thn (he pins s σ H _ I h) λv s1 hz=>?_) hs hw;obtain ⟨x,H1,I1,r1,q1⟩:=hz;rw [h1];exact thn (hg pins s1 σ H1 x v _ I1 r1 q1) λ_ s2 q=>q
theorem zU {i:Nat}{x:Str}{e:Expr}{te:TE}{pos':Pos} (hN:X.N.Nodup) (hi:X.N[i]?=some x) (hx:Loc X.env.scope x) (he:PE X e te) (hs:swapsWith e (some (.Name x pos')) pos.line X.env=pure false:=by rfl) (hf:X.fn x=true\/X.env.scope.names.lookup x=some .local:=by first | exact .inl rfl | exact .inr rfl | assumption) :
  PS X (.Assign [.Name x pos'] e pos) (tAsg te (aA i)):=by
 intro pins s σ H D I h;refine wpAny_Assign_Name (thn (he pins s σ H _ I h) λv s1 hz=>?_) hs;obtain ⟨y,H1,I1,r1,q1⟩:=hz;exact store_ok I1 hN hi hx r1 (λs2 I2=>⟨_,H1,I2,q1⟩) hf
inductive tAug (i:Nat)(te:TE)(ti:TIp)(D:Ends)(σ:L2.St)(H:Hp):Prop
 | mk (x):(σ[i]?=some (some x))->(te σ H λy H1=>ti x y H1 λz H2=>D.nx (σ.set i (some z)) H2)->tAug i te ti D σ H
theorem ps_aug {i:Nat}{x:Str}{e:Expr}{te:TE}{op:Operator}{ti:TIp}{pos':Pos} (hN:X.N.Nodup) (hi:X.N[i]?=some x) (hx:Loc X.env.scope x) (he:PE X e te) (ho:PIp X op ti) (hf:X.fn x=true\/X.env.scope.names.lookup x=some .local:=by first | exact .inl rfl | exact .inr rfl | assumption) :
  PS X (.AugAssign (.Name x pos') op e pos) (tAug i te ti):=by
 intro pins s σ H D I h;obtain ⟨v,e1,h⟩:=h;obtain ⟨m,hn,hl⟩:=I.loc;have vis:Vis X.env.scope x:=by rcases hx with k | k;exact .inl k;exact .inr (.inl k)
 obtain ⟨u,r,l⟩:=hl i x v hi e1 vis;refine wpAny_AugAssign_Name ?_;have go:wpAny (model X.prog X.w) X.A (eval e X.env) (λw s₂=>wpAny (model X.prog X.w) X.A (inplaceOp op u w) (λr s₃=>wpAny (model X.prog X.w) X.A (storeName X.env x r) (λ_=>SP X pins D .next) X.xe s₃) X.xe s₂) X.xe s:=by
  refine thn (he pins s σ H _ I h) λw s1 hz=>?_;obtain ⟨y,H1,I1,r1,q1⟩:=hz;refine thn (ho pins s1 σ H1 v y u w _ I1 r r1 q1) λz s2 hz=>?_;obtain ⟨zv,H2,I2,r2,q2⟩:=hz;exact store_ok I2 hN hi hx r2 (λs3 I3=>⟨_,H2,I3,q2⟩) hf
 rcases l with ⟨hk,hm⟩ | ⟨hk,c,hc,hcell⟩
 ·exact wpAny_loadName_local I.ok.kind hk hn hm go
 ·rcases hk with hk | hk
  ·exact wpAny_loadName_cell I.ok.kind hk hc hcell go
  ·rcases hx with k | k
   ·have:X.env.scope.names.lookup x=some .free:=hk;rw [k] at this;cases this
   ·have:X.env.scope.names.lookup x=some .free:=hk;rw [k] at this;cases this
inductive ipI (f:Int->Int->Int)(x:V)(y:V)(H:Hp)(Q:VK):Prop
 | mk (i j):(x=.int i)->(y=.int j)->(Q (.int (f i j)) H)->ipI f x y H Q
theorem rY:PIp X .Add (ipI λi j=>i+j):=by
 intro pins s σ H x y v u Q I r1 r2 h;obtain ⟨i,j,e1,e2,q⟩:=h;subst e1;subst e2;obtain ⟨t,rfl⟩:=r1;obtain ⟨t',rfl⟩:=r2;exact iadd_int ⟨.int _,H,I.tok _,⟨_,rfl⟩,q⟩
end
section
variable {X:Cx}{pos:Pos}
def zV (c:TT)(tb:TS):TS:=λD σ H=>∃W:Nat->St->Hp->Prop,(∃m,W m σ H)/\∀m σ H,W m σ H ->
 c σ H λb H1=>if b=true then ∃N:St->Hp->Prop,(∀σ' H',N σ' H'->∃m',m'<m/\W m' σ' H')/\tb { D with nx:=N,ct:=N,bk:=D.nx } σ H1 else D.nx σ H1
theorem g7 {c:Expr}{body:List Stmt}{tc:TT}{tb:TS} (hp:PassesOwn (model X.prog X.w) X.A X.env X.xe) (hc:PT X c tc) (hb:PSs X body tb):PS X (.While c body [] pos) (zV tc tb):=by
 intro pins s σ H D I h;obtain ⟨W,⟨m0,w0⟩,turn⟩:=h;refine wpAny_While (codeAny_whileLoop (λn s'=>∃σ' H',Inv X pins σ' H' s'/\W n σ' H') ?_ m0 ⟨σ,H,I,w0⟩);rintro n s1 ⟨σ1,H1,I1,w1⟩;refine wpAny_passesOwn hp (thn (hc pins s1 σ1 H1 _ I1 (turn n σ1 H1 w1)) λb s2 hz=>?_);obtain ⟨H2,I2,q2⟩:=hz;cases b with
 | true =>
  obtain ⟨N,hN,q2⟩:=q2;rw [if_pos rfl];refine wpAny_passesOwn hp (thn (hb pins s2 σ1 H2 _ I2 q2) λf s3 q3=>?_);cases f with
  | next =>
   obtain ⟨σ3,H3,I3,n3⟩:=q3;obtain ⟨m',hm,w3⟩:=hN σ3 H3 n3;exact ⟨m',hm,σ3,H3,I3,w3⟩
  | cont =>
   obtain ⟨σ3,H3,I3,n3⟩:=q3;obtain ⟨m',hm,w3⟩:=hN σ3 H3 n3;exact ⟨m',hm,σ3,H3,I3,w3⟩
  | brk=>exact q3
  | ret v=>exact q3
 | false =>
  rw [if_neg Bool.false_ne_true];exact wpAny_execs_nil ⟨σ1,H2,I2,q2⟩
end
structure It where
 go:Nat->Hp->Prop
 yld:Nat->Hp->V->Hp->Prop
 stop:Nat->Hp->Prop
def FpOk (X:Cx)(pins:List (Addr×Obj))(H:Hp)(b:Addr):Prop :=
 H b=none/\b≠X.env.locals/\b ∉ X.fs/\(b∈X.ex\/X.s₀.heap.objs.size<=b)/\(∀x c,X.env.cells.lookup x=some c->c≠b)/\∀p∈X.pn++pins,p.1≠b
theorem Inv.fpOk {X:Cx}{pins:List (Addr×Obj)}{σ:St}{H H':Hp}{s:Shared}{b:Addr} (I:Inv X pins σ H s) (hb:s.heap.objs.size<=b) (hn:H' b=none):FpOk X pins H' b:=by
 refine ⟨hn,Nat.ne_of_gt (Nat.lt_of_lt_of_le I.lt hb),I.nofs hb,.inr (Nat.le_trans I.sz hb),λx c e z=>?_,λp hp z=>?_⟩
 ·obtain ⟨v,q⟩:=I.cell x c e;exact absurd (Nat.lt_of_lt_of_le q.lt (by rw [z];exact hb)) (Nat.lt_irrefl _)
 ·exact absurd (Nat.lt_of_lt_of_le (Heap.lt_size (I.pin p hp).1) (by rw [z];exact hb)) (Nat.lt_irrefl _)
structure Turn (P:Program)(w:World)(K:W.Frag)(tg:Expr)(J:It)(fp:List Addr)(it:Addr)(tn:Nat->Heap->Prop):Prop where
 mem:it∈fp
 obj:∀i h,tn i h->∀b∈fp,∃o,h.get? b=some o/\∀v,o.data≠.cell v
 keep:∀i h h',tn i h->(∀b∈fp,∀o,h.get? b=some o->h'.get? b=some o)->tn i h'
 item:∀(X:Cx),X.prog=P->X.w=w->X.K=K->X.calm=true->∀(i:Nat) (pins:List (Addr×Obj)) (s:Shared) (σ:St) (H:Hp) (E:Value->Shared->Prop),Inv X pins σ H s->(∀b∈fp,FpOk X pins H b)->tn i s.heap->J.go i H ->
  wpAny (model P w) X.A (pyNext (.ref it)) (λr s1=>∃u,r=some u /\
   wpAny (model P w) X.A (letOwnedTupleGo tg (.ref it) u) (λ_ s2=>∃x H',Inv X pins σ H' s2/\RelV x u/\J.yld i H x H'/\tn (i+1) s2.heap/\∀b∈fp,H' b=none) E s1) E s
 done:∀(X:Cx),X.prog=P->X.w=w->X.K=K->X.calm=true->∀(i:Nat) (pins:List (Addr×Obj)) (s:Shared) (σ:St) (H:Hp) (E:Value->Shared->Prop),Inv X pins σ H s->(∀b∈fp,FpOk X pins H b)->tn i s.heap->J.stop i H ->
  wpAny (model P w) X.A (pyNext (.ref it)) (λr s1=>r=none/\Inv X pins σ H s1) E s
 self:∀(A:Around) (i:Nat) (s:Shared) (Q:Value->Shared->Prop) (E:Value->Shared->Prop),tn i s.heap->Q (.ref it) s->wpAny (model P w) A (pyIter (.ref it)) Q E s
abbrev TI:=St->Hp->(It->Hp->Prop)->Prop
inductive PIE (X:Cx)(pins:List (Addr×Obj))(σ:St)(tg:Expr)(R:It->Hp->Prop)(itv:Value)(s2:Shared):Prop
 | mk (it:Addr) (fp:List Addr) (tn:Nat->Heap->Prop) (J:It) (H':Hp):(itv=.ref it)->(Inv X pins σ H' s2)->(Turn X.prog X.w X.K tg J fp it tn)->(tn 0 s2.heap)->((∀b∈fp,FpOk X pins H' b))->(R J H')->PIE X pins σ tg R itv s2
def PI (X:Cx)(tg iter:Expr)(wi:TI):Prop :=
 ∀(pins:List (Addr×Obj)) (s:Shared) (σ:St) (H:Hp) (R:It->Hp->Prop),Inv X pins σ H s->wi σ H R ->
  wpAny (model X.prog X.w) X.A (eval iter X.env) (λv s1=>wpAny (model X.prog X.w) X.A (pyIter v) (PIE X pins σ tg R) X.xe s1) X.xe s
theorem yz {M:Model}{A:Around}{E:Value->Shared->Prop}{s:Shared}{tg:Expr}{it:Addr}{u:Value}{o:Obj}{n:String}{vs:Array Value}{Q:Unit->Shared->Prop} (ho:s.heap.get? it=some o) (hc:o.cls=.type n) (hd:o.data=.fields vs)
  (hn:["enumerate","zip","dict_itemiterator","dict_reverseitemiterator","odict_iterator","itertools.zip_longest","itertools.pairwise"].contains n=false) (hQ:Q () s):wpAny M A (letOwnedTupleGo tg (.ref it) u) Q E s:=by
 unfold letOwnedTupleGo;cases tg <;> first
  | exact wpAny_pure hQ
  | (cases u <;> first
    | exact wpAny_pure hQ
    | (refine wpAny_bind (wpAny_load ho ?_)
       rw [hc,hd];show wpAny M A (if (["enumerate","zip","dict_itemiterator","dict_reverseitemiterator","odict_iterator","itertools.zip_longest","itertools.pairwise"].contains n&&vs[0]?==some (rawInt _))=true then _ else _) Q E s;rw [if_neg (by intro h;rw [hn,Bool.false_and] at h;cases h)];exact wpAny_pure hQ))
def Itl (K:W.Frag)(a:Addr):It :=
 ⟨λi H=>∃xs x,SqL K H a xs/\xs[i]?=some x,λi H x H'=>H'=H/\∀xs,SqL K H a xs->xs[i]?=some x,λi H=>∃xs,SqL K H a xs/\xs.length<=i⟩
def Itr (lo:Int)(n:Nat):It:=⟨λi _=>i<n,λi H x H'=>H'=H/\x=.int (lo+i),λi _=>n<=i⟩
theorem uI {P:Program}{w:World}{K:W.Frag}{tg:Expr} (a it:Addr):Turn P w K tg (Itl K a) [it] it (λi h=>h.IsListIter it a i) where
 mem:=by simp
 obj:=λi h st b hb=>by
  have e:b=it:=by simpa using hb
  subst e;obtain ⟨o,e,c,d⟩:=st;exact ⟨o,e,λv z=>by rw [d] at z;cases z⟩
 keep:=λi h h' st k=>st.at λo e=>k it (by simp) o e
 item:=by
  intro X hP hw hK hc i pins s σ H E I hf st hg;subst hP hw hK;obtain ⟨xs,x,hq,hx⟩:=hg;obtain ⟨its,rv,p,hz⟩:=I.list hq;obtain ⟨u,hu,ru⟩:=rv.get hx;obtain ⟨f0,f1,f2,f3,f4,f5⟩:=hf it (by simp);refine wpAny_pyNext_list_item st p.isList (x:=u) (by simpa using hu) λh' st' sb=>?_;have I1:Inv X pins σ H { s with heap:=h' }:=I.turned (t':=s.toks) (λb o hb e=>(sb.2 b hb).trans e) f0 f1 f3 f4 f5;obtain ⟨o,e,c,d⟩:=id st';exact ⟨u,rfl,yz (s:={ s with heap:=h' }) e c d (by decide) ⟨x,H,I1,ru,⟨rfl,λys hy=>by rw [I.list_inj hy hq];exact hx⟩,st',λb hb=>(hf b hb).1⟩⟩
 done:=by
  intro X hP hw hK hc i pins s σ H E I hf st hg;subst hP hw hK;obtain ⟨xs,hq,hx⟩:=hg;obtain ⟨its,rv,p,hz⟩:=I.list hq;obtain ⟨f0,f1,f2,f3,f4,f5⟩:=hf it (by simp);have hl:=rv.length;exact wpAny_pyNext_list_end (I.ok.hd hc) st p.isList (by simp;omega) λh' eb=>⟨rfl,I.turned (t':=s.toks) (λb o hb e=>eb b o hb e) f0 f1 f3 f4 f5⟩
 self:=λ_ _ _ _ _ st h=>wpAny_pyIter_listiter st h
theorem tG {P:Program}{w:World}{K:PySem.W.Frag}{tg:Expr} (it:Addr) (lo:Int) (n:Nat):Turn P w K tg (Itr lo n) [it] it (λi h=>IsRangeIter h it (lo+(i:Nat)*1) ((n:Int)-(i:Nat)) 1) where
 mem:=by simp
 obj:=λi h st b hb=>by
  have e:b=it:=by simpa using hb
  subst e;exact ⟨_,st,λv z=>by
   have z':Data.fields _=Data.cell v:=z;cases z'⟩
 keep:=λi h h' st k=>k it (by simp) _ st
 item:=by
  intro X hP hw hK hc i pins s σ H E I hf st hg;subst hP hw hK;obtain ⟨f0,f1,f2,f3,f4,f5⟩:=hf it (by simp);have W:=Walks.range (prog:=X.prog) (w:=X.w) (I.ok.hd hc) it lo 1 n;refine W.item i s _ _ hg st λv h' tk hv st' kk=>?_;obtain ⟨t,rfl⟩:=hv;have I1:Inv X pins σ H { s with heap:=h',toks:=tk }:=I.turned (λb o hb e=>kk b o (by simpa using hb) e) f0 f1 f3 f4 f5;refine ⟨_,rfl,yz (s:={ s with heap:=h',toks:=tk }) (n:="range_iterator") st' rfl rfl (by decide) ⟨.int (lo+i),H,I1,⟨t,?_⟩,⟨rfl,rfl⟩,st',λb hb=>(hf b hb).1⟩⟩;rw [Int.mul_one]
 done:=by
  intro X hP hw hK hc i pins s σ H E I hf st hg;subst hP hw hK;obtain ⟨f0,f1,f2,f3,f4,f5⟩:=hf it (by simp);exact wpAny_pyNext_range_end (I.ok.hd hc) st (by have:n<=i:=hg;omega) λh' eb=>⟨rfl,I.turned (t':=s.toks) (λb o hb e=>eb b o hb e) f0 f1 f3 f4 f5⟩
 self:=λ_ _ _ _ _ st h=>wpAny_pyIter_rangeiter st h
end L2
namespace L2
open PySem PySem.Spec PyProof.Rows
section
variable {X:Cx}{tg:Expr}
inductive uJ (K:W.Frag)(R:It->Hp->Prop)(x:V)(H1:Hp):Prop
 | mk (a):(x=.ref a)->((∃xs,SqL K H1 a xs))->(R (Itl K a) H1)->uJ K R x H1
def AU (K:W.Frag)(tl:TE):TI:=λσ H R=>tl σ H λx H1=>uJ K R x H1
theorem aQ {l:Expr}{tl:TE} (hl:PE X l tl):PI X tg l (AU X.K tl):=by
 intro pins s σ H R I h;refine thn (hl pins s σ H _ I h) λv s1 hz=>?_;obtain ⟨x,H1,I1,r1,q1⟩:=hz;obtain ⟨a,e,⟨xs,hq⟩,q⟩:=q1;subst e;cases r1;obtain ⟨its,rv,p,hz⟩:=I1.list hq;refine wpAny_pyIter_list p.isList ?_;refine ⟨s1.heap.objs.size,[s1.heap.objs.size],_,_,H1,rfl,I1.kept (t':=s1.toks) λb o e=>Heap.get?_push_of_some _ e,uI a _,⟨_,Heap.get?_push_size _ rfl,rfl,rfl⟩,λb hb=>?_,q⟩;have e:b=s1.heap.objs.size:=by simpa using hb
 subst e;exact I1.fpOk (Nat.le_refl _) (I1.hok.fresh (Nat.le_refl _))
theorem rZ {pins:List (Addr×Obj)}{σ:St}{H:Hp}{s:Shared}{R:It->Hp->Prop}{E:Value->Shared->Prop}{lo hi:Int}{t u v:Tok}{tk:Nat} (I:Inv X pins σ H s) (h1:-(2 ^ 62)<=lo) (h2:lo<2 ^ 62) (h3:-(2 ^ 62)<=hi) (h4:hi<2 ^ 62)
  (q:R (Itr lo (hi-lo).toNat) H):wpAny (model X.prog X.w) X.A (pyIter (.ref s.heap.objs.size)) (PIE X pins σ tg R) E { s with heap:=s.heap.push { cls:=.type "range",data:=.fields #[.int lo t,.int hi u,.int 1 v] },toks:=tk }:=by
 refine wpAny_pyIter_range (IsRange.new ..) (small_one h1 h2 h3 h4) ?_;have I1:Inv X pins σ H { s with heap:=s.heap.push { cls:=.type "range",data:=.fields #[.int lo t,.int hi u,.int 1 v] },toks:=tk }:=I.kept λb o e=>Heap.get?_push_of_some _ e;refine ⟨(s.heap.push { cls:=.type "range",data:=.fields #[.int lo t,.int hi u,.int 1 v] }).objs.size,[(s.heap.push { cls:=.type "range",data:=.fields #[.int lo t,.int hi u,.int 1 v] }).objs.size],_,_,H,rfl,
  I1.kept (t':=tk) λb o e=>Heap.get?_push_of_some _ e,tG _ lo (hi-lo).toNat,?_,λb hb=>?_,q⟩
 ·have e1:lo+((0:Nat):Int)*1=lo:=by simp
  have e2:(((hi-lo).toNat:Nat):Int)-((0:Nat):Int)=Builtin.Range.rangeSize lo hi 1:=by rw [rangeSize_one];split <;> omega
  show IsRangeIter _ _ (lo+((0:Nat):Int)*1) ((((hi-lo).toNat:Nat):Int)-((0:Nat):Int)) 1;rw [e1,e2];exact Heap.get?_push_size _ rfl
 ·have e:b=(s.heap.push { cls:=.type "range",data:=.fields #[.int lo t,.int hi u,.int 1 v] }).objs.size:=by simpa using hb
  subst e;exact I1.fpOk (Nat.le_refl _) (I1.hok.fresh (Nat.le_refl _))
inductive uK (R:It->Hp->Prop)(vs:List V)(H1:Hp):Prop
 | mk (j:Int):(vs=[.int j])->(-(2 ^ 62)<=j)->(j<2 ^ 62)->(R (Itr 0 j.toNat) H1)->uK R vs H1
def AV (ta:TA):TI:=λσ H R=>ta σ H λvs H1=>uK R vs H1
inductive uL (R:It->Hp->Prop)(vs:List V)(H1:Hp):Prop
 | mk (i j:Int):(vs=[.int i,.int j])->((-(2 ^ 62)<=i/\i<2 ^ 62/\-(2 ^ 62)<=j/\j<2 ^ 62))->(R (Itr i (j-i).toNat) H1)->uL R vs H1
def AW (ta:TA):TI:=λσ H R=>ta σ H λvs H1=>uL R vs H1
theorem cn {a:Expr}{ta:TA}{p pos:Pos} (hg:Gl X "range") (hm:X.mg "range"=none) (ha:PA X [a] ta) (hs:starEach [a] X.env=[(false,eval a X.env)]:=by rfl):PI X tg (.Call (.Name "range" p) [a] [] pos) (AV ta):=by
 intro pins s σ H R I h;refine Call_ (ld_blt I hg hm boot_range (PyProof.Rows.callWith_type1 (thn (ha pos pins s σ H _ I h) λus s1 hz=>?_) hs rfl));obtain ⟨vs,H1,I1,r1,q1⟩:=hz;obtain ⟨j,e,q1,q2,q⟩:=q1;subst e;cases r1 with
 | cons r rr =>
  cases rr;obtain ⟨t,rfl⟩:=r;exact call_range_1 (rZ I1 (by omega) (by omega) q1 q2 (by simpa using q))
theorem uM {a b:Expr}{ta:TA}{p pos:Pos} (hg:Gl X "range") (hm:X.mg "range"=none) (ha:PA X [a,b] ta) (hs:starEach [a,b] X.env=[(false,eval a X.env),(false,eval b X.env)]:=by rfl) (hs2:starEach [b] X.env=[(false,eval b X.env)]:=by rfl) :
  PI X tg (.Call (.Name "range" p) [a,b] [] pos) (AW ta):=by
 intro pins s σ H R I h;refine Call_ (ld_blt I hg hm boot_range (PyProof.Rows.callWith_type1 (thn (ha pos pins s σ H _ I h) λus s1 ⟨vs,H1,I1,r1,q1⟩=>?_) (by rw [hs,hs2]) (by rw [hs2];rfl)));obtain ⟨i,j,e,⟨q1,q2,q3,q4⟩,q⟩:=q1;subst e;cases r1 with
 | cons r rr =>
  cases rr with
  | cons r' rr =>
   cases rr;obtain ⟨t,rfl⟩:=r;obtain ⟨t',rfl⟩:=r';exact call_range_2 (rZ I1 q1 q2 q3 q4 q)
def forW (J:It)(g:TG)(tb:TS)(D:Ends)(σ:St)(H1:Hp):Prop:=∃W:Nat->Nat->St->Hp->Prop,(∃m,W 0 m σ H1)/\∀i m σ H,W i m σ H ->
 (J.stop i H/\D.nx σ H)\/(J.go i H/\∃N:St->Hp->Prop,(∀σ' H',N σ' H'->∃m',m'<m/\W (i+1) m' σ' H')/\∀x H',J.yld i H x H'->g x σ H' λσ2 H2=>tb { D with nx:=N,ct:=N,bk:=D.nx } σ2 H2)
def tFor (wi:TI)(g:TG)(tb:TS):TS:=λD σ H=>wi σ H λJ H1=>forW J g tb D σ H1
def lW (fp:List Addr)(h:Heap):List (Addr×Obj):=fp.filterMap λb=>(h.get? b).map λo=>(b,o)
theorem fH {fp:List Addr}{h:Heap}{b:Addr}{o:Obj} (hb:b∈fp) (e:h.get? b=some o):(b,o)∈lW fp h:=List.mem_filterMap.mpr ⟨b,hb,by rw [e];rfl⟩
theorem uN {fp:List Addr}{h:Heap}{p:Addr×Obj} (hp:p∈lW fp h):p.1∈fp/\h.get? p.1=some p.2:=by
 obtain ⟨b,hb,e⟩:=List.mem_filterMap.mp hp;cases q:h.get? b with
 | none=>rw [q] at e;cases e
 | some o =>
  rw [q] at e;have e':(b,o)=p:=Option.some.inj e;subst e';exact ⟨hb,q⟩
theorem Inv.pinned {pins:List (Addr×Obj)}{σ:St}{H:Hp}{s:Shared}{fp:List Addr} (I:Inv X pins σ H s) (hf:∀b∈fp,FpOk X pins H b) (ho:∀b∈fp,∃o,s.heap.get? b=some o/\∀v,o.data≠.cell v):Inv X (pins++lW fp s.heap) σ H s :=
 I.pins_of λp hp=>(List.mem_append.mp hp).elim (λz=>I.pin p (List.mem_append_right _ z)) λz=>by
  obtain ⟨hb,e⟩:=uN z;obtain ⟨f0,f1,f2,_⟩:=hf p.1 hb;obtain ⟨o,e',d⟩:=ho p.1 hb;rw [e] at e';cases e';exact ⟨e,f0,f1,f2,d⟩
theorem Inv.unpinned {pins pl:List (Addr×Obj)}{σ:St}{H:Hp}{s:Shared} (I:Inv X (pins++pl) σ H s):Inv X pins σ H s:=I.pins_of λp hp=>I.pin p (List.mem_append_right _ (List.mem_append_left _ hp))
theorem bU {iter:Expr}{body:List Stmt}{wi:TI}{g:TG}{tb:TS}{pos:Pos} (hp:PassesOwn (model X.prog X.w) X.A X.env X.xe) (hc:X.calm=true) (hi:PI X tg iter wi) (hg:PG X tg g) (hb:PSs X body tb)
  (hs:∀x,foldedSetIterable iter X.env x=pure x:=by intro _;rfl):PS X (.For tg iter body [] pos) (tFor wi g tb):=by
 intro pins s σ H D I h;refine wpAny_For (thn (hi pins s σ H _ I h) λv s1 h1=>thn h1 λitv s2 h2=>?_) hs;obtain ⟨it,fp,tn,J,H2,e,I2,T,st2,f2,W,⟨m0,w0⟩,turn⟩:=h2;subst e;have stat:∀{H':Hp},(∀b∈fp,H' b=none)->∀b∈fp,FpOk X pins H' b:=λhn b hb=>⟨hn b hb,(f2 b hb).2⟩
 refine codeAny_forLoop_any (λn s'=>∃i σ' H',Inv X pins σ' H' s'/\tn i s'.heap/\(∀b∈fp,H' b=none)/\W i n σ' H') ?_ m0 ⟨0,σ,H2,I2,st2,λb hb=>(f2 b hb).1,w0⟩;rintro n s3 ⟨i,σ3,H3,I3,st3,fr3,w3⟩;rcases turn i n σ3 H3 w3 with ⟨stop,qn⟩ | ⟨go,N,hN,step⟩
 ·refine wpAny_passesOwn hp (thn (T.done X rfl rfl rfl hc i pins s3 σ3 H3 X.xe I3 (stat fr3) st3 stop) λr s4 hz=>?_);obtain ⟨hr,I4⟩:=hz;subst hr;exact wpAny_execs_nil ⟨σ3,H3,I4,qn⟩
 ·refine wpAny_passesOwn hp (thn (T.item X rfl rfl rfl hc i pins s3 σ3 H3 X.xe I3 (stat fr3) st3 go) λr s4 hz=>?_);obtain ⟨u,hr,h4⟩:=hz;subst hr;refine wpAny_passesOwn hp (thn h4 λ_ s5 hz=>?_);obtain ⟨x,H5,I5,r5,y5,st5,fr5⟩:=hz;have I5':=I5.pinned (stat fr5) (T.obj _ _ st5);refine wpAny_passesOwn hp (thn (hg _ s5 σ3 H5 x u _ I5' r5 (step x H5 y5)) λ_ s6 hz=>?_);obtain ⟨σ6,H6,I6,q6⟩:=hz;refine wpAny_passesOwn hp (thn (hb _ s6 σ6 H6 _ I6 q6) λf s7 q7=>?_);have again:∀{σ7:St}{H7:Hp},Inv X (pins++lW fp s5.heap) σ7 H7 s7->N σ7 H7->∃m,m<n/\∃i σ' H',Inv X pins σ' H' s7/\tn i s7.heap/\(∀b∈fp,H' b=none)/\W i m σ' H':=fun {σ7 H7} I7 n7=>by
   obtain ⟨m',hm,w7⟩:=hN σ7 H7 n7;refine ⟨m',hm,i+1,σ7,H7,I7.unpinned,T.keep _ _ _ st5 λb hb o e=>(I7.pin (b,o) (List.mem_append_right _ (List.mem_append_right _ (fH hb e)))).1,λb hb=>?_,w7⟩;obtain ⟨o,e,d⟩:=T.obj _ _ st5 b hb;exact (I7.pin (b,o) (List.mem_append_right _ (List.mem_append_right _ (fH hb e)))).2.1
  cases f with
  | next=>obtain ⟨σ7,H7,I7,n7⟩:=q7;exact again I7 n7
  | cont=>obtain ⟨σ7,H7,I7,n7⟩:=q7;exact again I7 n7
  | brk=>obtain ⟨σ7,H7,I7,q7⟩:=q7;exact ⟨σ7,H7,I7.unpinned,q7⟩
  | ret v=>obtain ⟨x7,σ7,H7,I7,r7,q7⟩:=q7;exact ⟨x7,σ7,H7,I7.unpinned,r7,q7⟩
end
theorem dH {K:W.Frag}{a:Addr}{xs:List V}{g:TG}{tb:TS}{D:Ends}{σ:St}{H:Hp} (Pv:Nat->St->Hp->Prop) (h0:Pv 0 σ H) (hl:∀i σ H,i<=xs.length->Pv i σ H->SqL K H a xs)
  (hs:∀i x σ H,xs[i]?=some x->Pv i σ H->g x σ H λσ2 H2=>tb { D with nx:=Pv (i+1),ct:=Pv (i+1),bk:=D.nx } σ2 H2) (hd:∀σ H,Pv xs.length σ H->D.nx σ H) :
  forW (Itl K a) g tb D σ H:=by
 refine ⟨λi m σ H=>m=xs.length-i/\i<=xs.length/\Pv i σ H,⟨xs.length,by simp,Nat.zero_le _,h0⟩,?_⟩;rintro i m σ H ⟨rfl,hi,p⟩;have q:=hl i σ H hi p;by_cases hlt:i<xs.length
 ·refine .inr ⟨⟨xs,xs[i],q,by simp [hlt]⟩,Pv (i+1),λσ' H' p'=>⟨xs.length-(i+1),by omega,rfl,hlt,p'⟩,λx H' y=>?_⟩;obtain ⟨e,y⟩:=y;subst e;exact hs i x σ _ (y xs q) p
 ·have e:i=xs.length:=by omega
  subst e;exact .inl ⟨⟨xs,q,Nat.le_refl _⟩,hd σ H p⟩
theorem j5 {lo:Int}{n:Nat}{g:TG}{tb:TS}{D:Ends}{σ:St}{H:Hp} (Pv:Nat->St->Hp->Prop) (h0:Pv 0 σ H)
  (hs:∀i σ H,i<n->Pv i σ H->g (.int (lo+i)) σ H λσ2 H2=>tb { D with nx:=Pv (i+1),ct:=Pv (i+1),bk:=D.nx } σ2 H2) (hd:∀σ H,Pv n σ H->D.nx σ H) :
  forW (Itr lo n) g tb D σ H:=by
 refine ⟨λi m σ H=>m=n-i/\i<=n/\Pv i σ H,⟨n,by simp,Nat.zero_le _,h0⟩,?_⟩;rintro i m σ H ⟨rfl,hi,p⟩;by_cases hlt:i<n
 ·refine .inr ⟨hlt,Pv (i+1),λσ' H' p'=>⟨n-(i+1),by omega,rfl,hlt,p'⟩,λx H' y=>?_⟩;obtain ⟨e,y⟩:=y;subst e y;exact hs i σ _ hlt p
 ·have e:i=n:=by omega
  subst e;exact .inl ⟨Nat.le_refl _,hd σ H p⟩
end L2
namespace L2
open PySem PySem.Spec PyProof.Rows
abbrev R2:=V->V->Hp->VK->Prop
def OpR (X:Cx)(f:Value->Value->Sem Value)(r:R2):Prop :=
 ∀(pins:List (Addr×Obj)) (s:Shared) (σ:St) (H:Hp) (x y:V) (v u:Value) (Q:VK),Inv X pins σ H s->RelV x v->RelV y u->r x y H Q ->
  wpAny (model X.prog X.w) X.A (f v u) (EP X pins σ Q) X.xe s
def UnR (X:Cx)(f:Value->Sem Value)(r:V->Hp->VK->Prop):Prop :=
 ∀(pins:List (Addr×Obj)) (s:Shared) (σ:St) (H:Hp) (x:V) (v:Value) (Q:VK),Inv X pins σ H s->RelV x v->r x H Q ->
  wpAny (model X.prog X.w) X.A (f v) (EP X pins σ Q) X.xe s
def lB (X:Cx)(f:Value)(r:List V->Hp->VK->Prop):Prop :=
 ∀(pins:List (Addr×Obj)) (s:Shared) (σ:St) (H:Hp) (xs:List V) (us:List Value) (Q:VK),Inv X pins σ H s->Vals xs us->r xs H Q ->
  wpAny (model X.prog X.w) X.A (call f us) (EP X pins σ Q) X.xe s
def tOp (r:R2)(ta tb:TE):TE:=λσ H Q=>ta σ H λx H1=>tb σ H1 λy H2=>r x y H2 Q
def tUn (r:V->Hp->VK->Prop)(ta:TE):TE:=λσ H Q=>ta σ H λx H1=>r x H1 Q
inductive rI (C:Int->Int->Prop)(g:Int->Int->V)(x:V)(y:V)(H:Hp)(Q:VK):Prop
 | mk (i j):(x=.int i)->(y=.int j)->(C i j)->(Q (g i j) H)->rI C g x y H Q
inductive rI0 (g:Int->Int->V)(x:V)(y:V)(H:Hp)(Q:VK):Prop
 | mk (i j):(x=.int i)->(y=.int j)->(Q (g i j) H)->rI0 g x y H Q
inductive rU (g:Int->V)(x:V)(H:Hp)(Q:VK):Prop
 | mk (i):(x=.int i)->(Q (g i) H)->rU g x H Q
section
variable {X:Cx}{a b c:Expr}{ta tb tc:TE}{pos:Pos}
theorem binT (ha:PE X a ta)(hb:PE X b tb){pins:List (Addr×Obj)}{s:Shared}{σ:St}{H:Hp}{R:V->V->Hp->Prop} (I:Inv X pins σ H s)
  (h:ta σ H λx H1=>tb σ H1 λy H2=>R x y H2) {Q:Value->Shared->Prop}{f:Value->Value->Sem Value}
  (hf:∀v u s2 x y H2,Inv X pins σ H2 s2->RelV x v->RelV y u->R x y H2->wpAny (model X.prog X.w) X.A (f v u) Q X.xe s2) :
  wpAny (model X.prog X.w) X.A (eval a X.env) (λv s₁=>wpAny (model X.prog X.w) X.A (eval b X.env) (λu s₂=>wpAny (model X.prog X.w) X.A (f v u) Q X.xe s₂) X.xe s₁) X.xe s:=by
 refine thn (ha pins s σ H _ I h) λv s1 hz=>?_;obtain ⟨x,H1,I1,r1,q1⟩:=hz;refine thn (hb pins s1 σ H1 _ I1 q1) λu s2 hz=>?_;obtain ⟨y,H2,I2,r2,q2⟩:=hz;exact hf v u s2 x y H2 I2 r1 r2 q2
theorem aj {op:Operator}{r:R2} (ho:OpR X (binaryOp op) r) (ha:PE X a ta) (hb:PE X b tb):PE X (.BinOp a op b pos) (tOp r ta tb):=by
 intro pins s σ H Q I h;exact wpAny_BinOp (binT ha hb I h λv u s2 x y H2 I2 rx ry q=>ho pins s2 σ H2 x y v u Q I2 rx ry q)
theorem j6 {op:UnaryOp}{r:V->Hp->VK->Prop} (ho:UnR X (unaryOp op) r) (ha:PE X a ta):PE X (.UnaryOp op a pos) (tUn r ta):=by
 intro pins s σ H Q I h;refine UnaryOp_ (thn (ha pins s σ H _ I h) λv s1 hz=>?_);obtain ⟨x,H1,I1,r1,q1⟩:=hz;exact ho pins s1 σ H1 x v Q I1 r1 q1
theorem opI {f:Value->Value->Sem Value}{C:Int->Int->Prop}{g:Int->Int->Int}
  (rule:∀(i j:Int) (t u:Tok) (s:Shared) (Q:Value->Shared->Prop) (E:Value->Shared->Prop),C i j->Q (.int (g i j) s.toks) { s with toks:=s.toks+1 }->wpAny (model X.prog X.w) X.A (f (.int i t) (.int j u)) Q E s) :
  OpR X f (rI C λi j=>.int (g i j)):=by
 intro pins s σ H x y v u Q I rx ry h;obtain ⟨i,j,rfl,rfl,hc,q⟩:=h;obtain ⟨t,rfl⟩:=rx;obtain ⟨t',rfl⟩:=ry;exact rule i j t t' s _ _ hc ⟨.int (g i j),H,I.tok _,⟨_,rfl⟩,q⟩
theorem opI0 {f:Value->Value->Sem Value}{g:Int->Int->Int}
  (rule:∀(i j:Int) (t u:Tok) (s:Shared) (Q:Value->Shared->Prop) (E:Value->Shared->Prop),Q (.int (g i j) s.toks) { s with toks:=s.toks+1 }->wpAny (model X.prog X.w) X.A (f (.int i t) (.int j u)) Q E s) :
  OpR X f (rI0 λi j=>.int (g i j)):=by
 intro pins s σ H x y v u Q I rx ry h;obtain ⟨i,j,rfl,rfl,q⟩:=h;obtain ⟨t,rfl⟩:=rx;obtain ⟨t',rfl⟩:=ry;exact rule i j t t' s _ _ ⟨.int (g i j),H,I.tok _,⟨_,rfl⟩,q⟩
theorem opB0 {f:Value->Value->Sem Value}{g:Int->Int->Bool}
  (rule:∀(i j:Int) (t u:Tok) (s:Shared) (Q:Value->Shared->Prop) (E:Value->Shared->Prop),Q (.bool (g i j)) s->wpAny (model X.prog X.w) X.A (f (.int i t) (.int j u)) Q E s) :
  OpR X f (rI0 λi j=>.bl (g i j)):=by
 intro pins s σ H x y v u Q I rx ry h;obtain ⟨i,j,rfl,rfl,q⟩:=h;obtain ⟨t,rfl⟩:=rx;obtain ⟨t',rfl⟩:=ry;exact rule i j t t' s _ _ ⟨.bl (g i j),H,I,rfl,q⟩
def CDiv (i j:Int):Prop:=0<j/\j<1073741824
def CPow (i j:Int):Prop:=0<=j/\j<=1000000/\i.natAbs<2 ^ 64
def CMul (i j:Int):Prop:=(-(2 ^ 64)<i/\i<2 ^ 64)\/(-(2 ^ 64)<j/\j<2 ^ 64)
theorem CMul.ok {i j:Int}(h:CMul i j):IntMulOk i j:=by
 rcases h with ⟨h1,h2⟩ | ⟨h1,h2⟩
 ·exact .of_left (intBits_le_64 h1 h2)
 ·exact .of_right (intBits_le_64 h1 h2)
theorem tI (k:Nat):(0:Int)<=2 ^ k:=by
 rw [two_pow_cast];exact Int.natCast_nonneg _
theorem aO:OpR X (binaryOp .Add) (rI0 λi j=>.int (i+j)):=opI0 λ_ _ _ _ _ _ _ q=>add_int q
theorem bK:OpR X (binaryOp .Sub) (rI0 λi j=>.int (i-j)):=opI0 λ_ _ _ _ _ _ _ q=>sub_int q
theorem be:OpR X (binaryOp .Mult) (rI CMul λi j=>.int (i*j)):=opI λ_ _ _ _ _ _ _ hc q=>mul_int q hc.ok
theorem eU:OpR X (binaryOp .FloorDiv) (rI CDiv λi j=>.int (i/j)):=opI λi j _ _ _ _ _ hc q=>by
 have h1:(0:Int)<j:=hc.1;have h2:j<1073741824:=hc.2;exact floordiv_int (by omega) (by rw [Int.fdiv_eq_ediv_of_nonneg i (by omega)];exact q) (.inl (PyProof.noPylong_small (by omega)))
theorem zW:OpR X (binaryOp .Mod) (rI (λ_ j=>0<j) λi j=>.int (i % j)):=opI λi j _ _ _ _ _ hc q=>by
 have h1:(0:Int)<j:=hc;exact mod_int' (by omega) (by rw [Int.fmod_eq_emod_of_nonneg i (by omega)];exact q)
theorem eP:OpR X (binaryOp .LShift) (rI CPow λi j=>.int (i*2 ^ j.toNat)):=opI λ_ _ _ _ _ _ _ hc q=>lshift_int_small hc.1 hc.2.1 hc.2.2 q
theorem lX:OpR X (binaryOp .RShift) (rI (λ_ j=>0<=j) λi j=>.int (i/2 ^ j.toNat)):=opI λi j _ _ _ _ _ hc q =>
 rshift_int hc (by rw [Int.fdiv_eq_ediv_of_nonneg i (tI _)];exact q)
theorem yb:OpR X (binaryOp .BitAnd) (rI0 λi j=>.int (Builtin.bitAnd i j)):=opI0 λ_ _ _ _ _ _ _ q=>and_int q
theorem yA:OpR X (binaryOp .BitOr) (rI0 λi j=>.int (Builtin.bitOr i j)):=opI0 λ_ _ _ _ _ _ _ q=>or_int q
theorem unI {f:Value->Sem Value}{g:Int->Int}
  (rule:∀(i:Int) (t:Tok) (s:Shared) (Q:Value->Shared->Prop) (E:Value->Shared->Prop),Q (.int (g i) s.toks) { s with toks:=s.toks+1 }->wpAny (model X.prog X.w) X.A (f (.int i t)) Q E s) :
  UnR X f (rU λi=>.int (g i)):=by
 intro pins s σ H x v Q I rx h;obtain ⟨i,rfl,q⟩:=h;obtain ⟨t,rfl⟩:=rx;exact rule i t s _ _ ⟨.int (g i),H,I.tok _,⟨_,rfl⟩,q⟩
theorem eV:UnR X (unaryOp .USub) (rU λi=>.int (-i)):=unI λ_ _ _ _ _ q=>neg_int q
end
def scal:V->V->Bool
 | .non,.non=>true | .non,.int _=>true | .int _,.non=>true | .non,.bl _=>true | .bl _,.non=>true | .non,.str _=>true | .str _,.non=>true
 | .int _,.int _=>true | .bl _,.bl _=>true | .str _,.str _=>true | .byt _,.byt _=>true
 | .int _,.str _=>true | .str _,.int _=>true | .bl _,.str _=>true | .str _,.bl _=>true
 | _,_=>false
def rEq:R2:=λx y H Q=>scal x y=true/\Q (.bl (decide (x=y))) H
def rNe:R2:=λx y H Q=>scal x y=true/\Q (.bl (!decide (x=y))) H
theorem uO {i j:Int}:decide (V.int i=V.int j)=(i==j):=by
 rw [Bool.eq_iff_iff];simp
theorem dec_bl {i j:Bool}:decide (V.bl i=V.bl j)=(i==j):=by
 rw [Bool.eq_iff_iff];simp
theorem uP {i j:Str}:decide (V.str i=V.str j)=(i==j):=by
 rw [Bool.eq_iff_iff];simp
theorem uQ {i j:Array UInt8}:decide (V.byt i=V.byt j)=(i.toList==j.toList):=by
 rw [Bool.eq_iff_iff];cases i;cases j;simp
section
variable {X:Cx}{a b c:Expr}{ta tb tc:TE}{pos:Pos}
theorem fin_bl {pins:List (Addr×Obj)}{σ:St}{H:Hp}{s:Shared}{Q:VK}{k k':Bool} (I:Inv X pins σ H s) (q:Q (.bl k) H) (e:k=k'):EP X pins σ Q (.bool k') s:=by
 subst e;exact ⟨.bl k,H,I,rfl,q⟩
theorem qv:OpR X (compareOp .Eq) rEq:=by
 intro pins s σ H x y v u Q I rx ry h;obtain ⟨hs,q⟩:=h;cases x with
 | non =>
  cases rx;cases y with
  | non=>cases ry;exact PySem.EqNone.eq_none_none (fin_bl I q (by simp))
  | bl j=>cases ry;exact PySem.EqNone.eq_none_bool (fin_bl I q (by simp))
  | int j=>obtain ⟨t',rfl⟩:=ry;exact PySem.EqNone.eq_none_int (fin_bl I q (by simp))
  | str j=>obtain ⟨t',rfl⟩:=ry;exact PySem.EqNone.eq_none_str (fin_bl I q (by simp))
  | _=>exact absurd (show false=true from hs) Bool.false_ne_true
 | bl i =>
  cases rx;cases y with
  | non=>cases ry;exact PySem.EqNone.eq_bool_none (fin_bl I q (by simp))
  | bl j=>cases ry;exact eq_bool (fin_bl I q dec_bl)
  | str j=>obtain ⟨t',rfl⟩:=ry;exact PySem.EqMixed.eq_bool_str (fin_bl I q (by simp))
  | _=>exact absurd (show false=true from hs) Bool.false_ne_true
 | int i =>
  obtain ⟨t,rfl⟩:=rx;cases y with
  | non=>cases ry;exact PySem.EqNone.eq_int_none (fin_bl I q (by simp))
  | int j=>obtain ⟨t',rfl⟩:=ry;exact eq_int (fin_bl I q uO)
  | str j=>obtain ⟨t',rfl⟩:=ry;exact PySem.EqMixed.eq_int_str (fin_bl I q (by simp))
  | _=>exact absurd (show false=true from hs) Bool.false_ne_true
 | str i =>
  obtain ⟨t,rfl⟩:=rx;cases y with
  | non=>cases ry;exact PySem.EqNone.eq_str_none (fin_bl I q (by simp))
  | bl j=>cases ry;exact PySem.EqMixed.eq_str_bool (fin_bl I q (by simp))
  | int j=>obtain ⟨t',rfl⟩:=ry;exact PySem.EqMixed.eq_str_int (fin_bl I q (by simp))
  | str j=>obtain ⟨t',rfl⟩:=ry;exact eq_str (fin_bl I q uP)
  | _=>exact absurd (show false=true from hs) Bool.false_ne_true
 | byt i =>
  obtain ⟨t,rfl⟩:=rx;cases y with
  | byt j=>obtain ⟨t',rfl⟩:=ry;exact W.eq_bytes (fin_bl I q uQ)
  | _=>exact absurd (show false=true from hs) Bool.false_ne_true
 | _=>cases y <;> exact absurd (show false=true from hs) Bool.false_ne_true
theorem zX:OpR X (compareOp .NotEq) rNe:=by
 intro pins s σ H x y v u Q I rx ry h;obtain ⟨hs,q⟩:=h;cases x with
 | non =>
  cases rx;cases y with
  | non=>cases ry;exact PySem.EqNone.ne_none_none (fin_bl I q (by simp))
  | bl j=>cases ry;exact PySem.EqNone.ne_none_bool (fin_bl I q (by simp))
  | int j=>obtain ⟨t',rfl⟩:=ry;exact PySem.EqNone.ne_none_int (fin_bl I q (by simp))
  | str j=>obtain ⟨t',rfl⟩:=ry;exact PySem.EqNone.ne_none_str (fin_bl I q (by simp))
  | _=>exact absurd (show false=true from hs) Bool.false_ne_true
 | bl i =>
  cases rx;cases y with
  | non=>cases ry;exact PySem.EqNone.ne_bool_none (fin_bl I q (by simp))
  | bl j=>cases ry;exact ne_bool (fin_bl I q (congrArg not dec_bl))
  | str j=>obtain ⟨t',rfl⟩:=ry;exact PySem.EqMixed.ne_bool_str (fin_bl I q (by simp))
  | _=>exact absurd (show false=true from hs) Bool.false_ne_true
 | int i =>
  obtain ⟨t,rfl⟩:=rx;cases y with
  | non=>cases ry;exact PySem.EqNone.ne_int_none (fin_bl I q (by simp))
  | int j=>obtain ⟨t',rfl⟩:=ry;exact ne_int (fin_bl I q (congrArg not uO))
  | str j=>obtain ⟨t',rfl⟩:=ry;exact PySem.EqMixed.ne_int_str (fin_bl I q (by simp))
  | _=>exact absurd (show false=true from hs) Bool.false_ne_true
 | str i =>
  obtain ⟨t,rfl⟩:=rx;cases y with
  | non=>cases ry;exact PySem.EqNone.ne_str_none (fin_bl I q (by simp))
  | bl j=>cases ry;exact PySem.EqMixed.ne_str_bool (fin_bl I q (by simp))
  | int j=>obtain ⟨t',rfl⟩:=ry;exact PySem.EqMixed.ne_str_int (fin_bl I q (by simp))
  | str j=>obtain ⟨t',rfl⟩:=ry;exact ne_str (fin_bl I q (congrArg not uP))
  | _=>exact absurd (show false=true from hs) Bool.false_ne_true
 | byt i =>
  obtain ⟨t,rfl⟩:=rx;cases y with
  | byt j=>obtain ⟨t',rfl⟩:=ry;exact W.ne_bytes (fin_bl I q (congrArg not uQ))
  | _=>exact absurd (show false=true from hs) Bool.false_ne_true
 | _=>cases y <;> exact absurd (show false=true from hs) Bool.false_ne_true
theorem g9:OpR X (compareOp .Lt) (rI0 λi j=>.bl (decide (i<j))):=opB0 λ_ _ _ _ _ _ _ q=>lt_int q
theorem iX:OpR X (compareOp .LtE) (rI0 λi j=>.bl (decide (i<=j))):=opB0 λ_ _ _ _ _ _ _ q=>le_int q
theorem zY:OpR X (compareOp .Gt) (rI0 λi j=>.bl (decide (j<i))):=opB0 λ_ _ _ _ _ _ _ q=>gt_int q
theorem yB:OpR X (compareOp .GtE) (rI0 λi j=>.bl (decide (j<=i))):=opB0 λ_ _ _ _ _ _ _ q=>ge_int q
theorem cK (b:Expr){op:CmpOp}(h:op≠.In:=by decide)(h2:op≠.NotIn:=by decide):behindInMarks op b=false:=by
 have e1:(op==CmpOp.In)=false:=by cases op <;> first | rfl | exact absurd rfl h
 have e2:(op==CmpOp.NotIn)=false:=by cases op <;> first | rfl | exact absurd rfl h2
 cases b <;> simp [behindInMarks,e1,e2]
theorem uR {op:CmpOp}{r:R2} (ho:OpR X (compareOp op) r) (ha:PE X a ta) (hb:PE X b tb) (hm:behindInMarks op b=false):PE X (.Compare a [op] [b] pos) (tOp r ta tb):=by
 intro pins s σ H Q I h;exact wpAny_Compare1 (binT ha hb I h λv u s2 x y H2 I2 rx ry q=>ho pins s2 σ H2 x y v u Q I2 rx ry q) hm
inductive uS (Q:Bool->Hp->Prop)(x:V)(H':Hp):Prop
 | mk (k):(x=.bl k)->(Q k H')->uS Q x H'
def z6 (t:TE):TT:=λσ H Q=>t σ H λx H'=>uS Q x H'
theorem aC {op:CmpOp}{r:R2} (ho:OpR X (compareOp op) r) (ha:PE X a ta) (hb:PE X b tb) (hm:behindInMarks op b=false):PT X (.Compare a [op] [b] pos) (z6 (tOp r ta tb)):=by
 intro pins s σ H Q I h;refine wpAny_isTrue_Compare1 (thn (ha pins s σ H _ I h) λv s1 ⟨x,H1,I1,r1,q1⟩=>thn (hb pins s1 σ H1 _ I1 q1) λu s2 ⟨y,H2,I2,r2,q2⟩ =>
  thn (ho pins s2 σ H2 x y v u _ I2 r1 r2 q2) λc s3 ⟨z,H3,I3,r3,k,e,q3⟩=>?_) hm
 subst e;cases r3;exact wpAny_truthy_bool ⟨H3,I3,q3⟩
inductive r6 (r':R2)(tc:TE)(σ:L2.St)(Q:VK)(y:V)(z:V)(H3:Hp):Prop
 | mk (k):(z=.bl k)->((if k=true then tc σ H3 λw' H4=>r' y w' H4 Q else Q (.bl false) H3))->r6 r' tc σ Q y z H3
def yc (r r':R2)(ta tb tc:TE):TE:=λσ H Q=>ta σ H λx H1=>tb σ H1 λy H2=>r x y H2 λz H3=>r6 r' tc σ Q y z H3
theorem hU {op op':CmpOp}{r r':R2} (ho:OpR X (compareOp op) r) (ho':OpR X (compareOp op') r') (ha:PE X a ta) (hb:PE X b tb) (hc:PE X c tc)
  (hm:lastMarks [op,op'] [b,c]=false:=by with_unfolding_all rfl):PE X (.Compare a [op,op'] [b,c] pos) (yc r r' ta tb tc):=by
 intro pins s σ H Q I h;refine Compare_chain (thn (ha pins s σ H _ I h) λv s1 ⟨x,H1,I1,r1,q1⟩=>chain_link (thn (hb pins s1 σ H1 _ I1 q1) λu s2 ⟨y,H2,I2,r2,q2⟩ =>
  thn (ho pins s2 σ H2 x y v u _ I2 r1 r2 q2) λd s3 ⟨z,H3,I3,r3,k,e,q3⟩=>?_)) hm
 subst e;cases r3;refine wpAny_truthy_bool ?_;cases k with
 | false=>exact ite_ff ⟨.bl false,H3,I3,rfl,q3⟩
 | true=>exact ite_tt (chain_last (thn (hc pins s3 σ H3 _ I3 q3) λw' s4 ⟨z',H4,I4,r4,q4⟩=>ho' pins s4 σ H4 y z' u w' Q I4 r2 r4 q4))
theorem wB {op op':CmpOp}{r r':R2} (ho:OpR X (compareOp op) r) (ho':OpR X (compareOp op') r') (ha:PE X a ta) (hb:PE X b tb) (hc:PE X c tc)
  (hm:lastMarks [op,op'] [b,c]=false:=by with_unfolding_all rfl):PT X (.Compare a [op,op'] [b,c] pos) (z6 (yc r r' ta tb tc)):=by
 intro pins s σ H Q I h;refine isTrue_chain (thn (ha pins s σ H _ I h) λv s1 ⟨x,H1,I1,r1,q1⟩=>test_link (thn (hb pins s1 σ H1 _ I1 q1) λu s2 ⟨y,H2,I2,r2,q2⟩ =>
  thn (ho pins s2 σ H2 x y v u _ I2 r1 r2 q2) λd s3 ⟨z,H3,I3,r3,k,e,q3⟩=>?_)) hm
 subst e;cases r3;refine wpAny_truthy_bool ?_;cases k with
 | false =>
  obtain ⟨k',e',q'⟩:=q3;cases e';exact ite_ff ⟨H3,I3,q'⟩
 | true =>
  refine ite_tt (test_last (thn (hc pins s3 σ H3 _ I3 q3) λw' s4 hz=>?_));obtain ⟨z',H4,I4,r4,q4⟩:=hz;refine thn (ho' pins s4 σ H4 y z' u w' _ I4 r2 r4 q4) λd' s5 hz=>?_;obtain ⟨z2,H5,I5,r5,k2,e2,q5⟩:=hz;subst e2;cases r5;exact wpAny_truthy_bool ⟨H5,I5,q5⟩
theorem uT:(sizeLine:Nat)<2 ^ 63:=by rw [sizeLine_eq];decide
theorem wC {x:V}{us:List Value} (r:Vals [x] us):∃u,us=[u]/\RelV x u:=by
 cases r with
 | cons r1 r2=>cases r2;exact ⟨_,rfl,r1⟩
theorem z7 {x y:V}{us:List Value} (r:Vals [x,y] us):∃u w',us=[u,w']/\RelV x u/\RelV y w':=by
 cases r with
 | cons r1 r2 =>
  cases r2 with
  | cons r3 r4=>cases r4;exact ⟨_,_,rfl,r1,r3⟩
theorem wD:lB X (.builtin "abs") (λxs H Q=>∃i,xs=[.int i]/\Q (.int (if i<0 then -i else i)) H):=by
 intro pins s σ H xs us Q I r h;obtain ⟨i,rfl,q⟩:=h;obtain ⟨u,rfl,t,rfl⟩:=wC r;exact call_abs_int λu tk=>⟨.int (if i<0 then -i else i),H,I.tok _,⟨_,rfl⟩,q⟩
theorem uU (hc:X.calm=true):lB X (.builtin "max") (λxs H Q=>∃i j,xs=[.int i,.int j]/\Q (.int (if j > i then j else i)) H):=by
 intro pins s σ H xs us Q I r h;obtain ⟨i,j,rfl,q⟩:=h;obtain ⟨u,w',rfl,⟨t,rfl⟩,⟨t',rfl⟩⟩:=z7 r;refine max_two_ints (I.ok.hd hc) λh' tk k=>⟨_,H,I.kept k,?_,q⟩
 by_cases hj:j > i
 ·rw [if_pos hj,if_pos hj];exact ⟨_,rfl⟩
 ·rw [if_neg hj,if_neg hj];exact ⟨_,rfl⟩
theorem j7 (hc:X.calm=true):lB X (.builtin "min") (λxs H Q=>∃i j,xs=[.int i,.int j]/\Q (.int (if j<i then j else i)) H):=by
 intro pins s σ H xs us Q I r h;obtain ⟨i,j,rfl,q⟩:=h;obtain ⟨u,w',rfl,⟨t,rfl⟩,⟨t',rfl⟩⟩:=z7 r;refine min_two_ints (I.ok.hd hc) λh' tk k=>⟨_,H,I.kept k,?_,q⟩
 by_cases hj:j<i
 ·rw [if_pos hj,if_pos hj];exact ⟨_,rfl⟩
 ·rw [if_neg hj,if_neg hj];exact ⟨_,rfl⟩
end
end L2
namespace L2
open PySem PySem.Spec PyProof.Rows
structure ObjM (h:Heap)(x dx C:Addr)(mA:Str->Option Value):Prop where
 obj:h.get? x=some (W.instObj C dx)
 ns:h.Ns1 dx mA
 ne:dx≠x
theorem uV {h:Heap}{dx:Addr}{mA:Str->Option Value} (n:h.Ns1 dx mA):∃od,h.get? dx=some od/\∀name,W.lookIn name od=some (mA name):=by
 obtain ⟨o,es,ep,ho,hd,hk,_,hm⟩:=n;refine ⟨o,ho,λname=>?_⟩;have e:=hm name;unfold nsFind findBy at e;rw [<- Array.find?_toList] at e;unfold W.lookIn;rw [hd];dsimp only;split
 ·rename_i y q;rw [q] at e;exact congrArg some e
 ·rename_i q;rw [q] at e;have a:es.toList.any (·.refKey)=false:=by
   rw [List.any_eq_false];intro y hy;obtain ⟨z,t,hkey⟩:=hk y (Array.mem_toList_iff.mp hy);simp [DictEntry.refKey,hkey]
  have a':¬es.toList.any (·.refKey)=true:=by rw [a];exact Bool.false_ne_true
  rw [if_neg a'];exact congrArg some e
theorem ObjM.look {h:Heap}{x dx C:Addr}{mA:Str->Option Value} (I:ObjM h x dx C mA):∃od,W.InstAt h x (W.instObj C dx) C (some od)/\∀name,W.lookIn name od=some (mA name) :=
 let ⟨od,ho,hl⟩:=uV I.ns
 ⟨od,⟨I.obj,rfl,rfl,ho⟩,hl⟩
section
variable {prog:Program}{w:World}{A:Around}{E:Value->Shared->Prop}{s:Shared}{K:W.Frag}{x dx C f:Addr}{mA:Str->Option Value}{name:Str}{v:Value}
theorem yC {expr:Bool}{Q:Value->Shared->Prop} (X:K.In s.heap) (I:ObjM s.heap x dx C mA) (hg:W.plainGet K C name=true) (hh:W.hasDictIn K C=true)
  (ha:W.findIn K (.ref C) name=some none) (hv:mA name=some v) (hv':W.handedIn v=true) (h:Q v { s with toks:=s.toks+1 }) :
  wpAny (model prog w) A (getAttr (.ref x) name expr) Q E s:=by
 obtain ⟨od,J,hl⟩:=I.look;exact W.get_value X J (W.plainGet_of hg).1 (W.findObj_own hh ha rfl (by rw [hl,hv])) hv' h
theorem wE {pl:Sem Bool}{Q:Value×List Value->Shared->Prop} (X:K.In s.heap) (I:ObjM s.heap x dx C mA) (hg:W.plainGet K C name=true)
  (hf:W.findIn K (.ref C) name=some (some (.ref f))) (ht:W.isFn K (.ref f)=true) (hv:mA name=none) (h:Q (.ref f,[.ref x]) s) :
  wpAny (model prog w) A (getMethod (.ref x) name pl) Q E s:=by
 obtain ⟨od,J,hl⟩:=I.look;exact W.method_fn X J (W.plainGet_of hg).1 (W.plainGet_of hg).2 hf (beq_iff_eq.mp ht) (by show (W.lookIn name od).map (·.isSome)=some false;rw [hl,hv];rfl) h
theorem yD {ns:List Str}{Q:Unit->Shared->Prop} (X:K.In s.heap) (I:ObjM s.heap x dx C mA)
  (hs:W.findIn K (.ref C) "__setattr__"=some (some (.builtin "object.__setattr__"))) (hp:W.plainOver K C=true) (ht:W.takerIn K C name=some none) (hh:W.hasDictIn K C=true)
  (hw:PySem.Within mA ns) (hsz:ns.length<=sizeLine)
  (h:∀h',ObjM h' x dx C (λy=>if y=name then some v else mA y)->Heap.SameBut dx s.heap h'->Q () { s with heap:=h',toks:=s.toks+2 }) :
  wpAny (model prog w) A (setAttr (.ref x) name v) Q E s:=by
 obtain ⟨od,J,hl⟩:=I.look;refine W.set_plain X J hs (W.osa_open (s:={ s with toks:=s.toks+1 }) (r:=none) X J hp ht λb=>?_);obtain ⟨cd,hc,hd'⟩:=W.any_some hh;have hx:s.heap.get? x=some ⟨.ref C,some dx,.plain,#[]⟩:=I.obj;refine wpAny_bind (wpAny_pure (wpAny_bind (wpAny_bind (wpAny_loadPart hx (wpAny_bind (W.Looks.here (s:={ s with toks:=s.toks+1 }) (W.looks_clsIn X hc) ?_))))));rw [hd'];refine wpAny_pure (a:=some dx) (wpAny_bind (wpAny_pure (wpAny_bind ?_)));refine wpAny_nsSet1 (s:={ s with toks:=s.toks+1 }) I.ns λh' hn2 hs2=>?_;obtain ⟨oD,esD,epD,hoD,hdD,hcD⟩:=hn2.count (PySem.Within.cons name v hw);refine wpAny_bind (wpAny_lookBehind hoD (by rw [hdD];exact pastItsLine_dict (Nat.le_trans hcD (by rw [List.length_cons];omega))) ?_);exact wpAny_pure (h _ ⟨(hs2.2 _ (Ne.symm I.ne)).trans I.obj,hn2,I.ne⟩ hs2)
theorem wF {R:Result->Shared->Prop}{vs:List Value}{kw:List (Str×Value)} (X:K.In s.heap) (hm:W.makesIn K C=true)
  (hi:W.findIn K (.ref C) "__init__"=some (some (.ref f))) (hf:W.typeIn K (.ref f)=some (.type "function"))
  (h:codeAny (model prog w) (A.under (.builtin "type.__call__" ⟨.ref C::vs,kw⟩)) (.call (.ref f) ⟨.ref (s.heap.objs.size+1)::vs,kw⟩) (W.InitBack (s.heap.objs.size+1) R)
   { s with heap:=(s.heap.push W.emptyDict).push (W.instObj C s.heap.objs.size) }) :
  codeAny (model prog w) A (.call (.ref C) ⟨vs,kw⟩) R s:=by
 obtain ⟨hh,g,d,t,os⟩:=s;exact W.make_core (W.makes_of X hm) (W.looks_findIn X hi) (λself=>W.bind_fn X self hf) (.inl rfl) h
end
def putF (f:Str)(v:V):List (Str×V)->List (Str×V)
 | []=>[(f,v)]
 | (g,x)::r=>if g=f then (g,v)::r else (g,x)::putF f v r
theorem j8 (f g:Str)(v:V):∀fs:List (Str×V),(putF f v fs).lookup g=if g=f then some v else fs.lookup g
 | []=>by
  show List.lookup g [(f,v)]=_;by_cases h:g=f
  ·have hb:(g==f)=true:=beq_iff_eq.mpr h;simp only [List.lookup,hb,if_pos h]
  ·have hb:(g==f)=false:=beq_eq_false_iff_ne.mpr h;simp only [List.lookup,hb,if_neg h]
 | (k,x)::r=>by
  have ih:=j8 f g v r;rw [show putF f v ((k,x)::r)=(if k=f then (k,v)::r else (k,x)::putF f v r) from rfl];by_cases hk:k=f
  ·rw [if_pos hk];by_cases h:g=k
   ·have hb:(g==k)=true:=beq_iff_eq.mpr h;simp only [List.lookup,hb,if_pos (h.trans hk)]
   ·have hb:(g==k)=false:=beq_eq_false_iff_ne.mpr h;simp only [List.lookup,hb,if_neg (λe:g=f=>h (e.trans hk.symm))]
  ·rw [if_neg hk];by_cases h:g=k
   ·have hb:(g==k)=true:=beq_iff_eq.mpr h;simp only [List.lookup,hb,if_neg (λe:g=f=>hk (h.symm.trans e))]
   ·have hb:(g==k)=false:=beq_eq_false_iff_ne.mpr h;simp only [List.lookup,hb];exact ih
theorem j9 (f:Str)(v:V):∀fs:List (Str×V),f∈(putF f v fs).map (·.1)/\∀g,g∈fs.map (·.1)->g∈(putF f v fs).map (·.1)
 | []=>⟨by simp [putF],λg h=>by simp at h⟩
 | (k,x)::r=>by
  obtain ⟨i1,i2⟩:=j9 f v r;rw [show putF f v ((k,x)::r)=(if k=f then (k,v)::r else (k,x)::putF f v r) from rfl];by_cases hk:k=f
  ·rw [if_pos hk];subst hk;exact ⟨by simp,λg h=>by simpa using h⟩
  ·rw [if_neg hk];refine ⟨?_,λg h=>?_⟩
   ·rw [List.map_cons];exact List.mem_cons_of_mem _ i1
   ·rw [List.map_cons] at h ⊢;rcases List.mem_cons.mp h with e | e
    ·exact List.mem_cons.mpr (.inl e)
    ·exact List.mem_cons_of_mem _ (i2 g e)
theorem length_putF (f:Str)(v:V):∀fs:List (Str×V),(putF f v fs).length<=fs.length+1
 | []=>by simp [putF]
 | (k,x)::r=>by
  have ih:=length_putF f v r;rw [show putF f v ((k,x)::r)=(if k=f then (k,v)::r else (k,x)::putF f v r) from rfl];by_cases hk:k=f
  ·rw [if_pos hk,List.length_cons,List.length_cons];omega
  ·rw [if_neg hk,List.length_cons,List.length_cons];omega
theorem RelO.some_of {v:V}{o:Option Value} (r:RelO (some v) o):∃u,o=some u/\RelV v u:=by
 cases o with
 | none=>exact (show False from r).elim
 | some u=>exact ⟨u,rfl,r⟩
theorem RelO.none_of {o:Option Value}(r:RelO none o):o=none:=by
 cases o with
 | none=>rfl
 | some u=>exact (show False from r).elim
theorem handed_of {v:V}{u:Value} (r:RelV v u):W.handedIn u=true:=by
 cases v with
 | non=>cases (show u=Value.none from r);rfl
 | bl b=>cases (show u=Value.bool b from r);rfl
 | int i=>obtain ⟨t,e⟩:=(show ∃t,u=Value.int i t from r);cases e;rfl
 | str x=>obtain ⟨t,e⟩:=(show ∃t,u=Value.str x t from r);cases e;rfl
 | byt b=>obtain ⟨t,e⟩:=(show ∃t,u=Value.bytes b t from r);cases e;rfl
 | flt b=>obtain ⟨t,e⟩:=(show ∃t,u=Value.float b t from r);cases e;rfl
 | ref a=>cases (show u=Value.ref a from r);rfl
 | ty n=>cases (show u=Value.type n from r);rfl
section
variable {P:Program}{w:World}{H H':Hp}{h h':Heap}{a C dx:Addr}{fs fs':List (Str×V)}
theorem qw (hok:HOk P w H h)(e:H a=some (.ins C dx fs)):∃mA,ObjM h a dx C mA/\(∀f,RelO (fs.lookup f) (mA f))/\PySem.Within mA (fs.map (·.1))/\fs.length<=1000/\H dx=some (.own a):=by
 obtain ⟨d,z,ne,ob,mA,n,r,q⟩:=(show ObjOk P w H h a (.ins C dx fs) from hok a _ e)
 exact ⟨mA,⟨ob,n,ne⟩,r,q,z,d⟩
end
structure Cls (K:W.Frag)(C:Addr):Prop where
 pg:W.plainGet K C Str.empty=true
 hd:W.hasDictIn K C=true
 po:W.plainOver K C=true
 sa:W.findIn K (.ref C) "__setattr__"=some (some (.builtin "object.__setattr__"))
theorem Cls.get {K:W.Frag}{C:Addr} (c:Cls K C) (f:Str):W.plainGet K C f=true:=c.pg
def bg (K:W.Frag)(C:Addr)(f:Str):Prop:=W.findIn K (.ref C) f=some none
theorem bg.taker {K:W.Frag}{C:Addr}{f:Str} (n:bg K C f):W.takerIn K C f=some none:=by
 unfold W.takerIn;rw [show W.findIn K (.ref C) f=some none from n];rfl
structure Meth (K:W.Frag)(C:Addr)(m:Str)(f:Addr):Prop where
 at_:W.findIn K (.ref C) m=some (some (.ref f))
 fn:W.isFn K (.ref f)=true
 kp:W.keepIn K (.ref f)=true
section
variable {X:Cx}{pins:List (Addr×Obj)}{σ:St}{H:Hp}{s:Shared}{a C dx:Addr}{fs:List (Str×V)}{f:Str}{v:V}{A:Around}{E:Value->Shared->Prop}
theorem lY {b:Bool}{Q:Value->Shared->Prop} (I:Inv X pins σ H s) (e:H a=some (.ins C dx fs)) (c:Cls X.K C) (n:bg X.K C f) (l:fs.lookup f=some v)
  (h:∀u s',Inv X pins σ H s'->RelV v u->Q u s'):wpAny (model X.prog X.w) A (getAttr (.ref a) f b) Q E s:=by
 obtain ⟨mA,O,r,_,_,_⟩:=qw I.hok e;obtain ⟨u,hu,ru⟩:=RelO.some_of (v:=v) (o:=mA f) (by rw [<- l];exact r f);exact yC I.kIn O (c.get f) c.hd n hu (handed_of ru) (h u _ (I.tok _) ru)
theorem lZ {m:Str}{g:Addr}{pl:Sem Bool}{Q:Value×List Value->Shared->Prop} (I:Inv X pins σ H s) (e:H a=some (.ins C dx fs)) (c:Cls X.K C) (k:Meth X.K C m g) (l:fs.lookup m=none)
  (h:Q (.ref g,[.ref a]) s):wpAny (model X.prog X.w) A (getMethod (.ref a) m pl) Q E s:=by
 obtain ⟨mA,O,r,_,_,_⟩:=qw I.hok e;have hn:mA m=none:=RelO.none_of (by rw [<- l];exact r m);exact wE I.kIn O (c.get m) k.at_ k.fn hn h
theorem l4 {y:V}{u:Value}{Q:Unit->Shared->Prop} (I:Inv X pins σ H s) (e:H a=some (.ins C dx fs)) (c:Cls X.K C) (n:bg X.K C f) (hl:fs.length<1000) (ry:RelV y u)
  (h:∀s',Inv X pins σ (upd H a (.ins C dx (putF f y fs))) s'->Q () s'):wpAny (model X.prog X.w) A (setAttr (.ref a) f u) Q E s:=by
 obtain ⟨mA,O,r,wi,_,ho⟩:=qw I.hok e;have hz:(fs.map (·.1)).length<=sizeLine:=by rw [List.length_map,sizeLine_eq];omega
 refine yD I.kIn O c.sa c.po n.taker c.hd wi hz λh' O' sb=>h _ ?_;have hd:∃o,h'.get? dx=some o:=let ⟨o,_,_,e',_⟩:=O'.ns;⟨o,e'⟩
 refine I.write (x:=a) (e:=dx) (by rw [e];exact True.intro) (.inr ho) (λb q hb z=>(sb.2 b hb).trans z) hd ?_;refine ⟨by rw [upd_ne O.ne];exact ho,?_,O.ne,O'.obj,_,O'.ns,λg=>?_,λg hg=>?_⟩
 ·have:=length_putF f y fs;omega
 ·show RelO ((putF f y fs).lookup g) (if g=f then some u else mA g);rw [j8];by_cases q:g=f
  ·rw [if_pos q,if_pos q];exact ry
  ·rw [if_neg q,if_neg q];exact r g
 ·by_cases q:g=f
  ·rw [q];exact (j9 f y fs).1
  ·refine (j9 f y fs).2 g (wi g λz=>hg ?_);show (if g=f then some u else mA g)=none;rw [if_neg q];exact z
theorem Inv.made (I:Inv X pins σ H s):Inv X pins σ (upd (upd H s.heap.objs.size (.own (s.heap.objs.size+1))) (s.heap.objs.size+1) (.ins C s.heap.objs.size []))
  { s with heap:=(s.heap.push W.emptyDict).push (W.instObj C s.heap.objs.size) }:=by
 have e1:(s.heap.push W.emptyDict).get? s.heap.objs.size=some W.emptyDict:=Heap.get?_push_size s.heap rfl;have e2:((s.heap.push W.emptyDict).push (W.instObj C s.heap.objs.size)).get? (s.heap.objs.size+1)=some (W.instObj C s.heap.objs.size):=by
  have:=Heap.get?_push_size (s.heap.push W.emptyDict) (o:=W.instObj C s.heap.objs.size) rfl;rwa [Heap.size_push] at this
 have e3:(s.heap.push W.emptyDict).Ns s.heap.objs.size (λ_=>none):=⟨W.emptyDict,#[],_,e1,rfl,(λe he=>absurd he (by simp)),λ_=>rfl⟩
 have I1:=I.laid (a:=s.heap.objs.size) (o:=.own (s.heap.objs.size+1)) (h':=s.heap.push W.emptyDict) (t':=s.toks) (λb u q=>Heap.get?_push_of_some _ q) (Nat.le_refl _) ⟨_,e1⟩;refine I1.laid (a:=s.heap.objs.size+1) (o:=.ins C s.heap.objs.size []) (t':=s.toks) (λb u q=>Heap.get?_push_of_some _ q) (Nat.le_of_eq (Heap.size_push _ _)) ?_;have ne:s.heap.objs.size≠s.heap.objs.size+1:=Nat.ne_of_lt (Nat.lt_succ_self _);refine ⟨by rw [upd_ne ne,upd_same],Nat.zero_le _,ne,e2,λ_=>none,(Heap.Ns1.of_empty e3).at λo q=>Heap.get?_push_of_some _ q,λ_=>True.intro,λy hy=>absurd rfl hy⟩
theorem attr_of {prog:Program}{w:World}{env:Env}{e:Expr}{f:Str}{pos:Pos}{s:Shared}{Q:Value->Shared->Prop} (hb:attributeBase e f env (eval e env)=eval e env)
  (h:wpAny (model prog w) A (eval e env) (λo s₁=>wpAny (model prog w) A (getAttr o f true) Q E s₁) E s):wpAny (model prog w) A (eval (.Attribute e f pos) env) Q E s :=
 Attribute_any_ h (by rw [arm_eval_Attribute,hb])
end
inductive yd (K:W.Frag)(f:Str)(Q:VK)(x:V)(H1:Hp):Prop
 | mk (a C dx fs v):(x=.ref a)->(H1 a=some (.ins C dx fs))->(Cls K C)->(bg K C f)->(fs.lookup f=some v)->(Q v H1)->yd K f Q x H1
def tFld (K:W.Frag)(ta:TE)(f:Str):TE:=λσ H Q=>ta σ H λx H1=>yd K f Q x H1
inductive ye (K:W.Frag)(f:Str)(D:Ends)(σ:L2.St)(y:V)(x:V)(H2:Hp):Prop
 | mk (a C dx fs):(x=.ref a)->(H2 a=some (.ins C dx fs))->(Cls K C)->(bg K C f)->(fs.length<1000)->(D.nx σ (upd H2 a (.ins C dx (putF f y fs))))->ye K f D σ y x H2
def sFld (K:W.Frag)(ta tv:TE)(f:Str):TS:=λD σ H=>tv σ H λy H1=>ta σ H1 λx H2=>ye K f D σ y x H2
def InOp (X:Cx)(op:Operator)(rd:V->V->Hp->VK->Prop):Prop :=
 ∀(pins:List (Addr×Obj)) (s:Shared) (σ:St) (H:Hp) (x y:V) (u v:Value) (Q:VK),Inv X pins σ H s->RelV x u->RelV y v->rd x y H Q->wpAny (model X.prog X.w) X.A (inplaceOp op u v) (EP X pins σ Q) X.xe s
inductive oQ (K:W.Frag)(tv:TE)(rd:V->V->Hp->VK->Prop)(f:Str)(D:Ends)(σ:L2.St)(x:V)(H1:Hp):Prop
 | mk (a C dx fs v):(x=.ref a)->(H1 a=some (.ins C dx fs))->(Cls K C)->(bg K C f)->(fs.lookup f=some v)->(tv σ H1 λy H2=>rd v y H2 λz H3=>∃dx' fs',H3 a=some (.ins C dx' fs')/\fs'.length<1000/\D.nx σ (upd H3 a (.ins C dx' (putF f z fs'))))->oQ K tv rd f D σ x H1
def yE (K:W.Frag)(ta tv:TE)(rd:V->V->Hp->VK->Prop)(f:Str):TS:=λD σ H=>ta σ H λx H1=>oQ K tv rd f D σ x H1
section
variable {X:Cx}{o e value:Expr}{f:Str}{pos pos' tpos:Pos}{ta tv:TE}
theorem ap (he:PE X e ta)(hb:attributeBase e f X.env (eval e X.env)=eval e X.env):PE X (.Attribute e f pos) (tFld X.K ta f):=by
 intro pins s σ H Q I h;refine attr_of hb (thn (he pins s σ H _ I h) λu s1 hz=>?_);obtain ⟨x,H1,I1,rx,a,C,dx,fs,v,ex,ea,c,n,l,q⟩:=hz;subst ex;obtain rfl:u=Value.ref a:=rx;exact lY I1 ea c n l λu' s2 I2 ru=>⟨v,H1,I2,ru,q⟩
theorem bC (ha:PE X o ta)(hv:PE X value tv)(hs:swapsWith value (some (.Attribute o f pos')) pos.line X.env=pure false):PS X (.Assign [.Attribute o f pos'] value pos) (sFld X.K ta tv f):=by
 intro pins s σ H D I h;refine plainObj_wpAny_Assign_Attribute (thn (hv pins s σ H _ I h) λu s1 hz=>?_) hs;obtain ⟨y,H1,I1,ry,q⟩:=hz;refine thn (ha pins s1 σ H1 _ I1 q) λov s2 hz=>?_;obtain ⟨x,H2,I2,rx,a,C,dx,fs,ex,ea,c,n,l,q2⟩:=hz;subst ex;obtain rfl:ov=Value.ref a:=rx;exact l4 I2 ea c n l ry λs3 I3=>⟨σ,_,I3,q2⟩
theorem bq {op:Operator}{rd:V->V->Hp->VK->Prop} (ha:PE X o ta) (hv:PE X value tv) (hop:InOp X op rd):PS X (.AugAssign (.Attribute o f tpos) op value pos) (yE X.K ta tv rd f):=by
 intro pins s σ H D I h;refine wpAny_AugAssign_AttributeAny (thn (ha pins s σ H _ I h) λov s1 hz=>?_);obtain ⟨x,H1,I1,rx,a,C,dx,fs,v,ex,ea,c,n,l,q⟩:=hz;subst ex;obtain rfl:ov=Value.ref a:=rx;refine lY I1 ea c n l λu s2 I2 ru=>thn (hv pins s2 σ H1 _ I2 q) λw3 s3 hz=>?_;obtain ⟨y,H2,I3,ry,q3⟩:=hz;refine thn (hop pins s3 σ H2 v y u w3 _ I3 ru ry q3) λw4 s4 hz=>?_;obtain ⟨z,H3,I4,rz,dx',fs',ea',l',q4⟩:=hz;exact l4 I4 ea' c n l' rz λs5 I5=>⟨σ,_,I5,q4⟩
inductive rAdd (x:V)(y:V)(H:Hp)(Q:VK):Prop
 | mk (i j):(x=.int i)->(y=.int j)->(Q (.int (i+j)) H)->rAdd x y H Q
inductive rSub (x:V)(y:V)(H:Hp)(Q:VK):Prop
 | mk (i j):(x=.int i)->(y=.int j)->(Q (.int (i-j)) H)->rSub x y H Q
theorem oV:InOp X .Add rAdd:=by
 rintro pins s σ H x y u v Q I rx ry ⟨i,j,rfl,rfl,q⟩;obtain ⟨t,rfl⟩:=(show ∃t,u=Value.int i t from rx)
 obtain ⟨t',rfl⟩:=(show ∃t',v=Value.int j t' from ry)
 exact PyProof.Rows.iadd_int ⟨.int (i+j),H,I.tok _,⟨_,rfl⟩,q⟩
theorem yf:InOp X .Sub rSub:=by
 rintro pins s σ H x y u v Q I rx ry ⟨i,j,rfl,rfl,q⟩;obtain ⟨t,rfl⟩:=(show ∃t,u=Value.int i t from rx)
 obtain ⟨t',rfl⟩:=(show ∃t',v=Value.int j t' from ry)
 exact PyProof.Rows.isub_int ⟨.int (i-j),H,I.tok _,⟨_,rfl⟩,q⟩
end
section
variable {X:Cx}{pins:List (Addr×Obj)}{σ:St}{H:Hp}{s:Shared}{A:Around}{E:Value->Shared->Prop}{Q:Value->Shared->Prop}{c:Value}{b:Bool}
end
end L2
namespace L2
open PySem PySem.Spec PyProof.Rows
structure Room (k:Nat)(A:Around):Prop where
 hd:A.handled=none
 dp:A.depth+3*k+5<recursionLimit
 un:A.units+16*k+200<cLine
theorem Room.mono {j k:Nat}{A:Around} (r:Room k A) (h:j<=k):Room j A:=⟨r.hd,by have:=r.dp;omega,by have:=r.un;omega⟩
theorem Room.deeper {k:Nat}{A:Around} (r:Room (k+1) A) (env:Env):Room k (A.deeper env) :=
 ⟨r.hd,by have:=r.dp;show A.depth+1+3*k+5<_;omega,by have:=r.un;show A.units+3+16*k+200<_;omega⟩
theorem tJ {A:Around}{C:Addr}{us:List Value}{kw:List (Str×Value)}:(A.under (.builtin "type.__call__" ⟨.ref C::us,kw⟩)).depth=A.depth+1:=by
 first | rfl | simp [Around.under,Code.weight,Code.isCreation,Code.isGuard,Code.isCaller,Code.frames,Code.isFrame,guardIds]
theorem tK {A:Around}{C:Addr}{us:List Value}{kw:List (Str×Value)}:(A.under (.builtin "type.__call__" ⟨.ref C::us,kw⟩)).units=A.units+1:=by
 first | rfl | simp [Around.under,Code.cUnits,Code.frames,Code.isFrame]
theorem Room.make {k:Nat}{A:Around} (r:Room (k+1) A) (C:Addr) (us:List Value) (kw:List (Str×Value)):Room k (A.under (.builtin "type.__call__" ⟨.ref C::us,kw⟩)) :=
 ⟨r.hd,by have:=r.dp;rw [tJ];omega,by have:=r.un;rw [tK];omega⟩
theorem Room.depth {k:Nat}{A:Around} (r:Room k A):A.depth<recursionLimit:=by have:=r.dp;omega
theorem Room.units {k:Nat}{A:Around} (r:Room k A):A.units+64<cLine:=by have:=r.un;omega
def tNil:TA:=λ_ H Q=>Q [] H
def dI (ta:TE)(tr:TA):TA:=λσ H Q=>ta σ H λx H1=>tr σ H1 λxs H2=>Q (x::xs) H2
section
variable {X:Cx}{e:Expr}{es:List Expr}{te:TE}{t:TA}{pos:Pos}
theorem ad:PA X [] tNil:=λ_ _ _ _ H Q I h=>Calls.spliced_nil ⟨[],H,I,.nil,h⟩
theorem aa (ha:PE X e te)(hr:PA X es t)(hs:starEach (e::es) X.env=(false,eval e X.env)::starEach es X.env:=by rfl):PA X (e::es) (dI te t):=by
 intro pos pins s σ H Q I h;rw [hs];show wpAny _ _ (spliced ((false,eval e X.env)::backTo pos (starEach es X.env))) _ _ s;refine Calls.spliced_cons (thn (ha pins s σ H _ I h) λu s1 hz=>?_);obtain ⟨x,H1,I1,r1,q1⟩:=hz;refine thn (hr pos pins s1 σ H1 _ I1 q1) λus s2 hz=>?_;obtain ⟨xs,H2,I2,r2,q2⟩:=hz;exact ⟨x::xs,H2,I2,.cons r1 r2,q2⟩
def tTup (t:TA):TE:=λσ H Q=>t σ H λxs H1=>xs.length<=sizeLine/\∀p,H1 p=none->Q (.ref p) (upd H1 p (.tup xs))
def tLst (t:TA):TE:=λσ H Q=>t σ H λxs H1=>xs.length<=sizeLine/\∀p,H1 p=none->Q (.ref p) (upd H1 p (.lst xs))
theorem yg {x1}(h:PA X es t):PE X (.Tuple es x1 pos) (tTup t):=by
 intro pins s σ H Q I hq;refine wpAny_Tuple_spliced (thn (h pos pins s σ H _ I hq) λus s1 hz=>?_);obtain ⟨xs,H1,I1,r,z,q⟩:=hz;refine ⟨by rw [<- r.length];exact z,?_⟩;have hf:H1 s1.heap.objs.size=none:=I1.hok.fresh (Nat.le_refl _);refine ⟨.ref s1.heap.objs.size,upd H1 s1.heap.objs.size (.tup xs),I1.laid (t':=s1.toks) (λb u e=>Heap.get?_push_of_some _ e) (Nat.le_refl _) ?_,rfl,q _ hf⟩;exact ⟨z,us,r,⟨_,Heap.get?_push_size _ rfl,rfl,_,rfl⟩⟩
theorem bD (h:PA X es t):PE X (.List es pos) (tLst t):=by
 intro pins s σ H Q I hq;refine wpAny_List_spliced (thn (h pos pins s σ H _ I hq) λus s1 hz=>?_);obtain ⟨xs,H1,I1,r,z,q⟩:=hz;refine ⟨by rw [<- r.length];exact z,?_⟩;have hf:H1 s1.heap.objs.size=none:=I1.hok.fresh (Nat.le_refl _);refine ⟨.ref s1.heap.objs.size,upd H1 s1.heap.objs.size (.lst xs),I1.laid (t':=s1.toks) (λb u e=>Heap.get?_push_of_some _ e) (Nat.le_refl _) ?_,rfl,q _ hf⟩;exact ⟨z,us,0,r,Heap.get?_push_size _ rfl⟩
end
abbrev Sp:=List V->Hp->VK->XK->Prop
abbrev CXT:=List Env->Hp->Shared->XK->Value->Shared->Prop
structure Env0 (P:Program)(w:World)(K:W.Frag)(mg:Str->Option Value)(base:Heap)(A:Around)(outer:List Env)(s:Shared)(H:Hp):Prop where
 frames:A.frames=some outer
 mod:Mod K mg base
 bs:∀b o,base.get? b=some o->s.heap.get? b=some o/\H b=none
 bsz:base.objs.size<=s.heap.objs.size
 funs:s.heap.FunFrames base outer
 frf:∀b∈frs outer,H b=none
 hok:HOk P w H s.heap
 bare:AllBare s.gens
inductive CE (outer:List Env)(P:Program)(w:World)(H:Hp)(s:Shared)(Q:VK)(u:Value)(s':Shared):Prop
 | mk (v H'):(s'.os=s.os)->(AllBare s'.gens)->(Un (frs outer) [] H H' s.heap s'.heap)->(HOk P w H' s'.heap)->(RelV v u)->(Q v H')->CE outer P w H s Q u s'
def CR (CX:CXT)(outer:List Env)(P:Program)(w:World)(H:Hp)(s:Shared)(Q:VK)(E:XK)(r:Result)(s':Shared):Prop :=
 match r with
 | .ok (.ret u)=>CE outer P w H s Q u s'
 | .ok _=>False
 | .error e=>CX outer H s E e s'
structure FnOk (P:Program)(w:World)(K:W.Frag)(mg:Str->Option Value)(base:Heap)(CX:CXT)(k:Nat)(f:Addr)(fd:FuncData)(ps:List Str)(sp:Sp):Prop where
 len:∀vs H Q E,sp vs H Q E->vs.length=ps.length
 run:∀(A:Around) (outer:List Env) (s:Shared) (H:Hp) (args:Args) (us:List Value) (vs:List V) (Q:VK) (E:XK),Room k A->Env0 P w K mg base A outer s H->BindsTo s fd args (ps.zip us)->Vals vs us->sp vs H Q E ->
  codeAny (model P w) A (.call (.ref f) args) (CR CX outer P w H s Q E) s
theorem Env0.make {P:Program}{w:World}{K:W.Frag}{mg:Str->Option Value}{base:Heap}{A:Around}{outer:List Env}{s:Shared}{H:Hp} (e:Env0 P w K mg base A outer s H) (C:Addr) (us:List Value) (kw:List (Str×Value)) :
  Env0 P w K mg base (A.under (.builtin "type.__call__" ⟨.ref C::us,kw⟩)) outer s H:=⟨by first | exact e.frames | (simpa [Around.under,Code.envs,Code.isFrame,pushEnvs] using e.frames),e.mod,e.bs,e.bsz,e.funs,e.frf,e.hok,e.bare⟩
section
variable {X:Cx}{pins:List (Addr×Obj)}{σ:St}{H:Hp}{s s':Shared}
theorem Inv.env0 (I:Inv X pins σ H s):Env0 X.prog X.w X.K X.mg X.base X.A X.stack s H :=
 ⟨I.ok.frames,I.ok.mod,I.bs,Nat.le_trans I.ok.bsz I.sz,I.stack,I.stkFree,I.hok,I.bare⟩
theorem Inv.after {Q:VK}{u:Value} (I:Inv X pins σ H s) (h:CE X.stack X.prog X.w H s Q u s'):EP X pins σ Q u s':=by
 obtain ⟨v,H',os,bare,un,hok,r,q⟩:=h;obtain ⟨hh,g,d,t,os'⟩:=s';obtain rfl:os'=s.os:=os;exact ⟨v,H',I.call (h':=hh) (g':=g) (d':=d) (t':=t) (ch:=[]) un hok bare (λb z=>absurd z (by simp)),r,q⟩
end
def iY (sp:Sp)(dvs:List V)(E:XK)(t:TA):TE:=λσ H Q=>t σ H λvs H1=>sp (vs++dvs) H1 Q E
inductive uW (C:Addr)(m:Str)(sp:Sp)(dvs:List V)(E:XK)(t:TA)(σ:L2.St)(Q:VK)(x:V)(H1:Hp):Prop
 | mk (a dx fs):(x=.ref a)->(H1 a=some (.ins C dx fs))->(fs.lookup m=none)->(t σ H1 λvs H2=>sp (x::(vs++dvs)) H2 Q E)->uW C m sp dvs E t σ Q x H1
def wG (C:Addr)(m:Str)(sp:Sp)(dvs:List V)(E:XK)(ta:TE)(t:TA):TE:=λσ H Q=>ta σ H λx H1=>uW C m sp dvs E t σ Q x H1
def wH (C:Addr)(sp:Sp)(dvs:List V)(E:XK)(t:TA):TE:=λσ H Q=>t σ H λvs H1=>∀x dx,H1 x=none->H1 dx=none->dx≠x ->
 sp (.ref x::(vs++dvs)) (upd (upd H1 dx (.own x)) x (.ins C dx [])) (λv H2=>v=.non/\Q (.ref x) H2) E
def ka (K:W.Frag)(fd:FuncData)(ps:List Str)(ds:List Value):Prop :=
 ∀(s:Shared) (us:List Value),K.In s.heap->(us++ds).length=ps.length->BindsTo s fd ⟨us,[]⟩ (ps.zip (us++ds))
theorem ka.all {K:W.Frag}{fd:FuncData}{ps:List Str} (h:∀us:List Value,us.length=ps.length->bindArgs fd ⟨us,[]⟩=pure (ps.zip us)):ka K fd ps []:=λs us _ hl=>by
 rw [List.append_nil] at hl ⊢;exact .of_eq (h us hl)
def cy (CX:CXT)(X:Cx)(E:XK):Prop:=∀(pins:List (Addr×Obj)) (σ:St) (H:Hp) (s:Shared) (e:Value) (s':Shared),Inv X pins σ H s->CX X.stack H s E e s'->X.xe e s'
section
variable {X:Cx}{CX:CXT}{k:Nat}{f C:Addr}{fd:FuncData}{ps:List Str}{sp:Sp}{dvs:List V}{ds:List Value}{E:XK}{x m:Str}{p pos apos:Pos}{e o:Expr}{es:List Expr}{ta:TE}{t:TA}
theorem uX {pins:List (Addr×Obj)}{σ:St}{H:Hp}{s:Shared}{Q:VK}{us:List Value}{vs:List V} (F:FnOk X.prog X.w X.K X.mg X.base CX k f fd ps sp) (hr:Room k X.A) (hb:ka X.K fd ps ds) (hd:Vals dvs ds) (hx:cy CX X E)
  (I:Inv X pins σ H s) (r:Vals vs us) (h:sp (vs++dvs) H Q E):wpAny (model X.prog X.w) X.A (call (.ref f) us) (EP X pins σ Q) X.xe s:=by
 have r2:Vals (vs++dvs) (us++ds):=r.append hd;have hl:(us++ds).length=ps.length:=by rw [<- r2.length];exact F.len _ _ _ _ h
 refine wpAny_call (codeAny_mono (F.run X.A X.stack s H ⟨us,[]⟩ (us++ds) (vs++dvs) Q E hr I.env0 (hb s us I.kIn hl) r2 h) λr s' hq=>?_);cases r with
 | error e=>exact hx pins σ H s e s' I hq
 | ok fl =>
  cases fl with
  | ret u=>exact I.after hq
  | next=>exact False.elim hq
  | brk=>exact False.elim hq
  | cont=>exact False.elim hq
theorem yF (F:FnOk X.prog X.w X.K X.mg X.base CX k f fd ps sp)(hr:Room k X.A)(hg:Gl X x)(hm:X.mg x=some (.ref f))(hk:W.keepIn X.K (.ref f)=true)(hb:ka X.K fd ps ds)(hd:Vals dvs ds)(hx:cy CX X E)
  (ha:PA X (e::es) t) (hdb:(x==("__debug__":Str))=false:=by decide) (he:starEach (e::es) X.env=(false,eval e X.env)::starEach es X.env:=by rfl) (hpl:(backTo pos (starEach es X.env)).any (·.1)=false:=by rfl) :
  PE X (.Call (.Name x p) (e::es) [] pos) (iY sp dvs E t):=by
 intro pins s σ H Q I h;refine wpAny_Call_Name_kw (ld_glob I hg hm ?_ hdb);refine W.callWith_K (h₀:=X.base) I.ok.mod.kin hk (thn (ha pos pins s σ H _ I h) λus s1 hz=>?_) he hpl;obtain ⟨vs,H1,I1,r,q⟩:=hz;refine ⟨I1.kIn,?_⟩;exact uX F hr hb hd hx I1 r q
theorem yG {pl:Sem Bool}(he:PE X o ta)(c:Cls X.K C)(hm:Meth X.K C m f)(F:FnOk X.prog X.w X.K X.mg X.base CX k f fd ps sp)(hr:Room k X.A)(hb:ka X.K fd ps ds)(hd:Vals dvs ds)(hx:cy CX X E)(ha:PA X (e::es) t)
  (hst:starEach (e::es) X.env=(false,eval e X.env)::starEach es X.env:=by rfl) (hpl:(backTo pos (starEach es X.env)).any (·.1)=false:=by rfl)
  (ht:eval (.Call (.Attribute o m apos) (e::es) [] pos) X.env=(do
   let ov <- eval o X.env
   standAt apos.atName
   let (f,first) <- holding [ov] (getMethod ov m pl)
   callWith pos f first (backTo pos (starEach (e::es) X.env)) (backToKw pos (keywordEach [] X.env))):=by rfl) :
  PE X (.Call (.Attribute o m apos) (e::es) [] pos) (wG C m sp dvs E ta t):=by
 intro pins s σ H Q I h;refine W.methodCall_KW (pl:=pl) (thn (he pins s σ H _ I h) λu s1 hz=>?_) ht;obtain ⟨x,H1,I1,rx,a,dx,fs,ex,ea,l,q⟩:=hz;subst ex;obtain rfl:u=Value.ref a:=rx;refine lZ I1 ea c hm l ?_;refine W.callWith_K (first:=[.ref a]) (h₀:=X.base) I.ok.mod.kin hm.kp (thn (ha pos pins s1 σ H1 _ I1 q) λus s2 hz=>?_) hst hpl;obtain ⟨vs,H2,I2,r,q2⟩:=hz;refine ⟨I2.kIn,?_⟩;exact uX (us:=.ref a::us) (vs:=.ref a::vs) F hr hb hd hx I2 (.cons rfl r) q2
theorem wI {pl:Sem Bool}(he:PE X o ta)(c:Cls X.K C)(hm:Meth X.K C m f)(F:FnOk X.prog X.w X.K X.mg X.base CX k f fd ps sp)(hr:Room k X.A)(hb:ka X.K fd ps ds)(hd:Vals dvs ds)(hx:cy CX X E)
  (ht:eval (.Call (.Attribute o m apos) [] [] pos) X.env=(do
   let ov <- eval o X.env
   standAt apos.atName
   let (f,first) <- holding [ov] (getMethod ov m pl)
   callWith pos f first (backTo pos (starEach [] X.env)) (backToKw pos (keywordEach [] X.env))):=by rfl) :
  PE X (.Call (.Attribute o m apos) [] [] pos) (wG C m sp dvs E ta tNil):=by
 intro pins s σ H Q I h;refine W.methodCall_KW (pl:=pl) (thn (he pins s σ H _ I h) λu s1 hz=>?_) ht;obtain ⟨x,H1,I1,rx,a,dx,fs,ex,ea,l,q⟩:=hz;subst ex;obtain rfl:u=Value.ref a:=rx;refine lZ I1 ea c hm l ?_;exact W.callWith_K0 (first:=[.ref a]) I1.kIn hm.kp (uX (us:=[.ref a]) (vs:=[.ref a]) F hr hb hd hx I1 (.cons rfl .nil) q)
structure Mk (K:W.Frag)(C f:Addr):Prop where
 makes:W.makesIn K C=true
 init:W.findIn K (.ref C) "__init__"=some (some (.ref f))
 fn:W.isFn K (.ref f)=true
 kp:W.keepIn K (.ref C)=true
theorem run_make {pins:List (Addr×Obj)}{σ:St}{H:Hp}{s:Shared}{Q:VK}{us:List Value}{vs:List V} (M:Mk X.K C f) (F:FnOk X.prog X.w X.K X.mg X.base CX k f fd ps sp) (hr:Room (k+1) X.A) (hb:ka X.K fd ps ds) (hd:Vals dvs ds)
  (hx:cy CX X E) (I:Inv X pins σ H s) (r:Vals vs us)
  (h:∀x dx,H x=none->H dx=none->dx≠x->sp (.ref x::(vs++dvs)) (upd (upd H dx (.own x)) x (.ins C dx [])) (λv H2=>v=.non/\Q (.ref x) H2) E) :
  wpAny (model X.prog X.w) X.A (call (.ref C) us) (EP X pins σ Q) X.xe s:=by
 have hq:=h (s.heap.objs.size+1) s.heap.objs.size (I.hok.fresh (Nat.le_succ _)) (I.hok.fresh (Nat.le_refl _)) (Nat.ne_of_lt (Nat.lt_succ_self _));have I2:=Inv.made (C:=C) I;have r2:Vals (V.ref (s.heap.objs.size+1)::(vs++dvs)) (Value.ref (s.heap.objs.size+1)::(us++ds)):=.cons rfl (r.append hd);have hl:(Value.ref (s.heap.objs.size+1)::us++ds).length=ps.length:=by
  have e:=r2.length;rw [F.len _ _ _ _ hq] at e;exact e.symm
 refine wpAny_call (wF (f:=f) I.kIn M.makes M.init (beq_iff_eq.mp M.fn) (codeAny_mono (F.run _ X.stack _ _ ⟨Value.ref (s.heap.objs.size+1)::us,[]⟩ (Value.ref (s.heap.objs.size+1)::(us++ds)) _ _ E (hr.make C us [])
  (I2.env0.make C us []) (hb _ (Value.ref (s.heap.objs.size+1)::us) I2.kIn hl) r2 hq) λr s' hq'=>?_))
 cases r with
 | error e=>exact hx pins σ _ _ e s' I2 hq'
 | ok fl =>
  cases fl with
  | ret u =>
   obtain ⟨v,H',I3,rv,ev,q3⟩:=I2.after hq';subst ev;exact ⟨rv,⟨V.ref (s.heap.objs.size+1),H',I3,rfl,q3⟩⟩
  | next=>exact False.elim hq'
  | brk=>exact False.elim hq'
  | cont=>exact False.elim hq'
theorem yH (M:Mk X.K C f)(F:FnOk X.prog X.w X.K X.mg X.base CX k f fd ps sp)(hr:Room (k+1) X.A)(hg:Gl X x)(hm:X.mg x=some (.ref C))(hb:ka X.K fd ps ds)(hd:Vals dvs ds)(hx:cy CX X E)
  (ha:PA X (e::es) t) (hdb:(x==("__debug__":Str))=false:=by decide) (he:starEach (e::es) X.env=(false,eval e X.env)::starEach es X.env:=by rfl) (hpl:(backTo pos (starEach es X.env)).any (·.1)=false:=by rfl) :
  PE X (.Call (.Name x p) (e::es) [] pos) (wH C sp dvs E t):=by
 intro pins s σ H Q I h;refine wpAny_Call_Name_kw (ld_glob I hg hm ?_ hdb);refine W.callWith_K (h₀:=X.base) I.ok.mod.kin M.kp (thn (ha pos pins s σ H _ I h) λus s1 hz=>?_) he hpl;obtain ⟨vs,H1,I1,r,q⟩:=hz;refine ⟨I1.kIn,?_⟩;exact run_make M F hr hb hd hx I1 r q
theorem wJ (M:Mk X.K C f)(F:FnOk X.prog X.w X.K X.mg X.base CX k f fd ps sp)(hr:Room (k+1) X.A)(hg:Gl X x)(hm:X.mg x=some (.ref C))(hb:ka X.K fd ps ds)(hd:Vals dvs ds)(hx:cy CX X E)
  (hdb:(x==("__debug__":Str))=false:=by decide):PE X (.Call (.Name x p) [] [] pos) (wH C sp dvs E tNil):=by
 intro pins s σ H Q I h;refine wpAny_Call_Name_kw (ld_glob I hg hm ?_ hdb);exact W.callWith_K0 I.kIn M.kp (run_make (us:=[]) M F hr hb hd hx I .nil h)
end
section
variable {X:Cx}{CX:CXT}{k:Nat}{f C:Addr}{fd:FuncData}{ps ks:List Str}{sp:Sp}{E:XK}{x m:Str}{p pos apos kpos:Pos}{e o:Expr}{es:List Expr}{kws:List Keyword}{te ta:TE}{t tk:TA}{nm:Option Str}
variable {g:List Value->List Value->List Value}{gV:List V->List V->List V}
end
structure FnScope (N P:List Str)(sc:Scope):Prop where
 kind:sc.kind=.function
 co:sc.isCoroutine=false
 gen:sc.isGenerator=false
 nd:N.Nodup
 pre:N.take P.length=P
 par:∀x∈P,sc.names.lookup x=some .local\/sc.names.lookup x=some .cell
 nofree:∀y∈sc.names,y.2≠.free
theorem oX {kindOf:Str->Option NameKind}{x:Str}:∀{binds:List (Str×Value)}{m:Str->Option Value},(∀v,(x,v) ∉ binds)->bindL kindOf binds m x=m x
 | [],_,_=>rfl
 | (n,v)::r,m,h=>by
  unfold bindL;rw [oX λw hw=>h w (List.mem_cons_of_mem _ hw)];split
  ·have:x≠n:=by rintro rfl;exact h v List.mem_cons_self
   simp [this]
  ·rfl
theorem bindC_out {kindOf:Str->Option NameKind}{x:Str}:∀{binds:List (Str×Value)}{m:Str->Option Value},(∀v,(x,v) ∉ binds)->bindC kindOf binds m x=m x
 | [],_,_=>rfl
 | (n,v)::r,m,h=>by
  unfold bindC;rw [bindC_out λw hw=>h w (List.mem_cons_of_mem _ hw)];split
  ·rfl
  ·have:x≠n:=by rintro rfl;exact h v List.mem_cons_self
   simp [this]
theorem bindL_get {kindOf:Str->Option NameKind}{x:Str}{v:Value}:∀{P:List Str}{vs:List Value}{i:Nat}{m:Str->Option Value},P.Nodup->P[i]?=some x->vs[i]?=some v->kindOf x=some .local ->
  bindL kindOf (P.zip vs) m x=some v
 | [],_,_,_,_,h,_,_=>by simp at h
 | _::_,[],_,_,_,_,h,_=>by simp at h
 | p::P,w::vs,0,m,nd,h1,h2,hk=>by
  simp at h1 h2;subst h1;subst h2;show bindL kindOf ((p,w)::P.zip vs) m p=_;unfold bindL;rw [oX λv hv=>(List.nodup_cons.mp nd).1 (List.of_mem_zip hv).1,if_pos hk];simp
 | p::P,w::vs,i+1,m,nd,h1,h2,hk=>by
  show bindL kindOf ((p,w)::P.zip vs) m x=_;unfold bindL;exact bindL_get (i:=i) (List.nodup_cons.mp nd).2 (by simpa using h1) (by simpa using h2) hk
theorem oY {kindOf:Str->Option NameKind}{x:Str}{v:Value}:∀{P:List Str}{vs:List Value}{i:Nat}{m:Str->Option Value},P.Nodup->P[i]?=some x->vs[i]?=some v->kindOf x≠some .local ->
  bindC kindOf (P.zip vs) m x=some v
 | [],_,_,_,_,h,_,_=>by simp at h
 | _::_,[],_,_,_,_,h,_=>by simp at h
 | p::P,w::vs,0,m,nd,h1,h2,hk=>by
  simp at h1 h2;subst h1;subst h2;show bindC kindOf ((p,w)::P.zip vs) m p=_;unfold bindC;rw [bindC_out λv hv=>(List.nodup_cons.mp nd).1 (List.of_mem_zip hv).1,if_neg hk];simp
 | p::P,w::vs,i+1,m,nd,h1,h2,hk=>by
  show bindC kindOf ((p,w)::P.zip vs) m x=_;unfold bindC;exact oY (i:=i) (List.nodup_cons.mp nd).2 (by simpa using h1) (by simpa using h2) hk
def start (N:List Str)(vs:List V):St:=vs.map some++List.replicate (N.length-vs.length) none
def cxOf (CX:CXT)(P:Program)(w:World)(K:W.Frag)(mg:Str->Option Value)(base:Heap)(N:List Str)(qual:Str)(scope:Scope)(f:Addr)(cd:Value)(A:Around)(outer:List Env)(s:Shared)(H:Hp)(E:XK):Cx where
 prog:=P
 w:=w
 K:=K
 mg:=mg
 base:=base
 A:=A.deeper (envOfC qual scope s.heap.objs.size f cd)
 N:=N
 s₀:=s
 H₀:=H
 env:=envOfC qual scope s.heap.objs.size f cd
 outer:=outer
 stack:=envOfC qual scope s.heap.objs.size f cd::outer
 ex:=[]
 calm:=true
 fn:=λ_=>true
 pn:=[]
 xe:=λe s'=>wpAny (model P w) (A.deeper (envOfC qual scope s.heap.objs.size f cd)) (leaving (envOfC qual scope s.heap.objs.size f cd) e) (λ_ s''=>CX outer H s E e s'') (λe' s''=>CX outer H s E e' s'') s'
theorem cell_has {sc:Scope}{n:Nat}{x:Str} (h:sc.names.lookup x=some .cell):∃c,(cellsFrom n sc.names []).lookup x=some c:=by
 have q:=W.cellsFrom_some sc.names n [] (.inl h);exact Option.isSome_iff_exists.mp q
theorem oZ {CX:CXT}{P:Program}{w:World}{K:W.Frag}{mg:Str->Option Value}{base:Heap}{N ps:List Str}{qual:Str}{scope:Scope}{f:Addr}{cd:Value}{A:Around}{outer:List Env}{s s1:Shared}{H:Hp}{E:XK}{us:List Value}{vs:List V}
  (S:FnScope N ps scope) (hd:A.handled=none) (e0:Env0 P w K mg base A outer s H) (hl:vs.length=ps.length) (r:Vals vs us)
  (x:InCallC s s.heap.objs.size (bindL (envOfC qual scope s.heap.objs.size f cd).kindOf (ps.zip us) λ_=>none) (cellsFrom (s.heap.objs.size+1) scope.names []) (bindC (envOfC qual scope s.heap.objs.size f cd).kindOf (ps.zip us) λ_=>none) s1) :
  Inv (cxOf CX P w K mg base N qual scope f cd A outer s H E) [] (start N vs) H s1:=by
 have hpl:ps.length<=N.length:=by have:=congrArg List.length S.pre;rw [List.length_take] at this;omega
 obtain ⟨h1,tk,rfl,hk⟩:=x.done;have noA:∀b:Addr,b ∉ (cxOf CX P w K mg base N qual scope f cd A outer s H E).ex:=λb z=>absurd (show b∈([]:List Addr) from z) (by simp);refine ⟨⟨e0.mod,S.kind,rfl,rfl,Nat.le_refl _,λy z c h1 h2=>?_,λy hy=>?_,λy c _ h=>?_,λ_=>hd,Around.frames_deeper e0.frames,.inr ⟨rfl,rfl⟩,λb z=>absurd z (noA b),e0.bs,e0.bsz,λb _ _=>noA b,λb z=>absurd z (noA b),e0.funs,e0.frf⟩,
  rfl,e0.bare,Un.kept hk,⟨_,x.toInCall.ns,λi y v h1 h2 h3=>?_⟩,λy c h=>⟨_,x.cell y c h⟩,e0.hok.fresh (Nat.le_refl _),λy c h=>?_,λp hp=>absurd (show p∈([]:List (Addr×Obj)) from hp) (by simp),e0.hok.kept hk,?_⟩
 ·exact name_of_addr x.apart (PySem.mem_of_lookup h1) (PySem.mem_of_lookup h2)
 ·have hy:scope.names.lookup y=some .cell\/scope.names.lookup y=some .free:=hy;rcases hy with hy | hy
  ·exact cell_has hy
  ·exact absurd rfl (S.nofree _ (PySem.mem_of_lookup hy))
 ·exact Nat.le_of_lt (x.above y c (PySem.mem_of_lookup h))
 ·have hi:i<vs.length:=by
   unfold start at h2;by_cases hi:i<vs.length
   ·exact hi
   ·rw [List.getElem?_append_right (by simpa using hi)] at h2;rw [List.getElem?_replicate] at h2;split at h2 <;> cases h2
  have ha:vs[i]?=some v:=by
   unfold start at h2;rw [List.getElem?_append_left (by simpa using hi),List.getElem?_map] at h2;cases e:vs[i]? with
   | none=>rw [e] at h2;cases h2
   | some a=>rw [e] at h2;cases h2;rfl
  obtain ⟨u,hu,rv⟩:=r.get ha;have hp:ps[i]?=some y:=by
   rw [<- S.pre,List.getElem?_take_of_lt (by omega)];exact h1
  have ndP:ps.Nodup:=by rw [<- S.pre];exact S.nd.sublist (List.take_sublist _ _)
  refine ⟨u,rv,?_⟩;rcases S.par y (List.mem_of_getElem? hp) with k | k
  ·exact .inl ⟨k,bindL_get ndP hp hu k⟩
  ·obtain ⟨c,e⟩:=cell_has (n:=s.heap.objs.size+1) k;refine .inr ⟨.inl k,c,e,?_⟩;have q:=x.cell y c e;rw [oY ndP hp hu (by show scope.names.lookup y≠_;rw [k];decide)] at q;exact q
 ·exact e0.hok.fresh (Nat.le_of_lt (x.above y c (PySem.mem_of_lookup h)))
 ·unfold start;show _=N.length;rw [List.length_append,List.length_map,List.length_replicate];omega
theorem yI {CX:CXT}{P:Program}{w:World}{K:W.Frag}{mg:Str->Option Value}{base:Heap}{k:Nat}{f:Addr}{name qual:Str}{params:Arguments}{body:List Stmt}{scope:Scope}{dV kV doc pm cdv ct oc:Value}{an od:Option Addr}
  {osl:Array (Option Value)}{N ps:List Str}{sp:Sp} (lk:K.lookup f=some ⟨oc,od,.func (W.fnOf name qual params body scope dV kV doc pm an cdv ct),osl⟩) (hcd:W.codeIn K cdv qual=true) (S:FnScope N ps scope)
  (len:∀vs H Q E,sp vs H Q E->vs.length=ps.length)
  (hbody:∀(A:Around) (outer:List Env) (s:Shared) (H:Hp) (vs:List V) (Q:VK) (E:XK),Room k (A.deeper (envOfC qual scope s.heap.objs.size f cdv))->sp vs H Q E ->
   ∃t,PSs (cxOf CX P w K mg base N qual scope f cdv A outer s H E) body t/\t { nx:=λ_ H'=>Q .non H',rt:=Q } (start N vs) H) :
  FnOk P w K mg base CX (k+1) f (W.fnOf name qual params body scope dV kV doc pm an cdv ct) ps sp:=by
 refine ⟨len,λA outer s H args us vs Q E hr e0 hb r hsp=>?_⟩;have hl:=len _ _ _ _ hsp;have KX:K.In s.heap:=e0.mod.kin.keeps λb o e=>(e0.bs b o e).1;have lim:s.heap.NoLimit:=e0.mod.nolimit.keeps λb o e=>(e0.bs b o e).1;have hkind:∀y∈ps.zip us,scope.names.lookup y.1=some .local\/(scope.names.lookup y.1=some .cell/\((cellsFrom (s.heap.objs.size+1) scope.names []).lookup y.1).isSome=true):=λ⟨n,v⟩ hy=>by
  rcases S.par n (List.of_mem_zip hy).1 with q | q
  ·exact .inl q
  ·exact .inr ⟨q,W.cellsFrom_some _ _ _ (.inl q)⟩
 refine codeAny_call_function hr.depth (KX _ _ lk) rfl S.co S.gen rfl (W.codeRec_of KX hcd) (hb _ _ _ _ ?_);refine wpAny_newFunctionEnv_cells S.kind hkind λenv he s1 x=>?_;subst he;refine ⟨lim.keeps x.toInCall.keep,codeAny_func ?_⟩;obtain ⟨t,ht,hq⟩:=hbody A outer s H vs Q E (hr.deeper _) hsp;have I:Inv (cxOf CX P w K mg base N qual scope f cdv A outer s H E) [] (start N vs) H s1:=oZ S hr.hd e0 hl r x;refine wpAny_mono (ht [] s1 (start N vs) H _ I hq) (λfl s' hs=>?_) λe s' hs=>hs;have fin:∀{σ':St}{H':Hp}{v:V}{u:Value},Inv (cxOf CX P w K mg base N qual scope f cdv A outer s H E) [] σ' H' s'->RelV v u->Q v H'->CE outer P w H s Q u s' :=
  fun {σ' H' v u} J rv q=>⟨v,H',J.os,J.bare,J.base,J.hok,rv,q⟩
 cases fl with
 | ret u =>
  obtain ⟨v,σ',H',J,rv,q⟩:=hs;exact fin J rv q
 | next =>
  obtain ⟨σ',H',J,q⟩:=hs;exact fin (v:=V.non) (u:=Value.none) J rfl q
 | brk =>
  obtain ⟨_,_,_,q⟩:=hs;exact False.elim q
 | cont =>
  obtain ⟨_,_,_,q⟩:=hs;exact False.elim q
end L2
namespace L2
open PySem PySem.Spec PyProof.Rows
section
variable {X:Cx}{x:Str}{p pos:Pos}{e:Expr}{es:List Expr}{t:TA}{id T:String}{r:List V->Hp->VK->Prop}
def tCB (r:List V->Hp->VK->Prop)(t:TA):TE:=λσ H Q=>t σ H λvs H1=>r vs H1 Q
theorem aw (hc:lB X (.builtin id) r)(hg:Gl X x)(hm:X.mg x=none)(hv:bootBuiltins x=some (.builtin id))(ha:PA X (e::es) t)(hn:x≠"__name__":=by decide)(hdb:(x==("__debug__":Str))=false:=by decide)
  (he:starEach (e::es) X.env=(false,eval e X.env)::starEach es X.env:=by rfl) (hpl:(backTo pos (starEach es X.env)).any (·.1)=false:=by rfl):PE X (.Call (.Name x p) (e::es) [] pos) (tCB r t):=by
 intro pins s σ H Q I h;refine wpAny_Call_Name_kw (ld_blt I hg hm hv ?_ hn hdb);refine PyProof.Rows.callWith_builtin1 (thn (ha pos pins s σ H _ I h) λus s1 hz=>?_) he hpl;obtain ⟨vs,H1,I1,r1,q1⟩:=hz;exact hc pins s1 σ H1 vs us Q I1 r1 q1
theorem cP (hc:lB X (.type T) r)(hg:Gl X x)(hm:X.mg x=none)(hv:bootBuiltins x=some (.type T))(ha:PA X (e::es) t)(hn:x≠"__name__":=by decide)(hdb:(x==("__debug__":Str))=false:=by decide)
  (he:starEach (e::es) X.env=(false,eval e X.env)::starEach es X.env:=by rfl) (hpl:(backTo pos (starEach es X.env)).any (·.1)=false:=by rfl):PE X (.Call (.Name x p) (e::es) [] pos) (tCB r t):=by
 intro pins s σ H Q I h;refine wpAny_Call_Name_kw (ld_blt I hg hm hv ?_ hn hdb);refine PyProof.Rows.callWith_type1 (thn (ha pos pins s σ H _ I h) λus s1 hz=>?_) he hpl;obtain ⟨vs,H1,I1,r1,q1⟩:=hz;exact hc pins s1 σ H1 vs us Q I1 r1 q1
end
end L2
namespace HT
open PySem PyProof.Rows
section
open PySem.SeqAt
open PySem.AutoSeq1 (wpAny_loadPart')
open PySem.MeetsSeq PySem.MeetsSeq2 PySem.MeetsSeq3
end
section
variable {prog:Program}{w:World}{A:Around}{E:Value->Shared->Prop}{s:Shared}
def sIx (n d:Nat):Option Int->Nat
 | none=>d
 | some v=>if v<0 then (v+(n:Int)).toNat else min v.toNat n
theorem sIx_none (n d:Nat):sIx n d none=d:=rfl
theorem sIx_nat (n d k:Nat):sIx n d (some (k:Int))=min k n:=by
 show (if (k:Int)<0 then ((k:Int)+(n:Int)).toNat else min (k:Int).toNat n)=min k n;rw [if_neg (by omega),Int.toNat_natCast]
end
end HT
namespace L2
open PySem PySem.Spec PyProof.Rows
abbrev TO:=St->Hp->(Option Int->Hp->Prop)->Prop
def PO (X:Cx)(e:Option Expr)(t:TO):Prop :=
 ∀(pins:List (Addr×Obj)) (s:Shared) (σ:St) (H:Hp) (Q:Option Int->Hp->Prop),Inv X pins σ H s->t σ H Q ->
  wpAny (model X.prog X.w) X.A (evalPart e X.env) (λu s'=>∃o H',Inv X pins σ H' s'/\IsPart u o/\Q o H') X.xe s
def kb:TO:=λ_ H Q=>Q none H
inductive uY (Q:Option Int->Hp->Prop)(x:V)(H1:Hp):Prop
 | mk (i):(x=.int i)->(Q (some i) H1)->uY Q x H1
def mD (t:TE):TO:=λσ H Q=>t σ H λx H1=>uY Q x H1
theorem l5 {ns:List Int}:∀{us:List Value},Vals (ns.map V.int) us->IntsAre us ns:=by
 induction ns with
 | nil=>intro us r;rw [List.map_nil] at r;cases r;exact .nil
 | cons n ns ih =>
  intro us r;rw [List.map_cons] at r;cases r with
  | cons r1 r2 =>
   obtain ⟨t,e⟩:=r1;subst e;exact .cons n t (ih r2)
section
variable {X:Cx}{e:Expr}{te:TE}{lo hi:Option Expr}{tl th:TO}{pos p2:Pos}
theorem bo:PO X none kb:=by
 intro pins s σ H Q I h;rw [evalPart_none];exact wpAny_pure ⟨none,H,I,.none,h⟩
theorem aI (h:PE X e te):PO X (some e) (mD te):=by
 intro pins s σ H Q I hw;rw [evalPart_some];refine thn (h pins s σ H _ I hw) λu s1 hz=>?_;obtain ⟨x,H1,I1,r1,q1⟩:=hz;obtain ⟨i,rfl,q⟩:=q1;obtain ⟨t,rfl⟩:=r1;exact ⟨some i,H1,I1,.int i t,q⟩
def SlR (X:Cx)(r:V->Option Int->Option Int->Hp->VK->Prop):Prop :=
 ∀(pins:List (Addr×Obj)) (s:Shared) (σ:St) (H:Hp) (x:V) (v vl vu:Value) (lo hi:Option Int) (sl:Addr) (Q:VK),Inv X pins σ H s->RelV x v->s.heap.IsSliceOf sl vl vu .none->IsPart vl lo->IsPart vu hi->r x lo hi H Q ->
  ∃T id,typeLookup (.type T) "__getitem__"=pure (some (.builtin id))/\s.TypeIs v T/\wpAny (model X.prog X.w) X.A (getItem v (.ref sl)) (EP X pins σ Q) X.xe s
def tSl (r:V->Option Int->Option Int->Hp->VK->Prop)(te:TE)(tl th:TO):TE:=λσ H Q=>te σ H λx H1=>tl σ H1 λl H2=>th σ H2 λu H3=>r x l u H3 Q
theorem aD {r:V->Option Int->Option Int->Hp->VK->Prop}(hr:SlR X r)(he:PE X e te)(hl:PO X lo tl)(hu:PO X hi th):PE X (.Subscript e (.Slice lo hi none p2) pos) (tSl r te tl th):=by
 intro pins s σ H Q I h;refine Subscript_ (thn (he pins s σ H _ I h) λv s1 hz=>?_);obtain ⟨x,H1,I1,r1,q1⟩:=hz;refine wpAny_Slice (thn (hl pins s1 σ H1 _ I1 q1) λvl s2 hz=>?_);obtain ⟨l,H2,I2,pl,q2⟩:=hz;refine thn (hu pins s2 σ H2 _ I2 q2) λvu s3 hz=>?_;obtain ⟨u,H3,I3,pu,q3⟩:=hz;rw [evalPart_none];refine wpAny_pure ?_;have I4:Inv X pins σ H3 { s3 with heap:=s3.heap.push { cls:=.type "slice",data:=.fields #[vl,vu,.none] } }:=I3.kept (t':=s3.toks) λb ob q=>Heap.get?_push_of_some _ q;obtain ⟨T,id,hT,ht,hg⟩:=hr pins { s3 with heap:=s3.heap.push { cls:=.type "slice",data:=.fields #[vl,vu,.none] } } σ H3 x v vl vu l u s3.heap.objs.size Q I4 r1 (Heap.IsSliceOf.new ..) pl pu q3;show wpAny (model X.prog X.w) X.A (subscriptTail e (.Slice lo hi none p2) v (.ref s3.heap.objs.size)) (EP X pins σ Q) X.xe { s3 with heap:=s3.heap.push { cls:=.type "slice",data:=.fields #[vl,vu,.none] } };exact tail_any (ops:=[.ref s3.heap.objs.size,v]) ht hT hg (by with_unfolding_all rfl)
def cutV (xs:List V)(lo hi:Option Int):List V:=(xs.drop (HT.sIx xs.length 0 lo)).take (HT.sIx xs.length xs.length hi-HT.sIx xs.length 0 lo)
theorem qx (xs:List V)(lo hi:Option Int):(cutV xs lo hi).length<=xs.length:=by
 unfold cutV;rw [List.length_take,List.length_drop];omega
end
end L2
namespace L2
open PySem PySem.Spec PyProof.Rows
def ixN (n:Nat)(i:Int):Option Nat:=if 0<=i then (if i<n then some i.toNat else none) else if -(n:Int)<=i then some (i+n).toNat else none
def atI {α:Type}(xs:List α)(i:Int):Option α:=(ixN xs.length i).bind λj=>xs[j]?
theorem yJ {n:Nat}{i:Int}{j:Nat} (h:ixN n i=some j):seqIndex? i n=some j/\j<n/\-(n:Int)<=i/\i<n:=by
 unfold ixN at h;by_cases h0:0<=i
 ·rw [if_pos h0] at h;by_cases h1:i<n
  ·rw [if_pos h1] at h;have e:i.toNat=j:=Option.some.inj h;exact ⟨by rw [seqIndex_of h0 h1,e],by omega,by omega,h1⟩
  ·rw [if_neg h1] at h;cases h
 ·rw [if_neg h0] at h;by_cases h1:-(n:Int)<=i
  ·rw [if_pos h1] at h;have e:(i+n).toNat=j:=Option.some.inj h;exact ⟨by rw [seqIndex_neg (by omega) h1,e],by omega,h1,by omega⟩
  ·rw [if_neg h1] at h;cases h
theorem atI_get {α:Type}{xs:List α}{i:Int}{v:α} (h:atI xs i=some v):∃j,seqIndex? i xs.length=some j/\xs[j]?=some v/\j<xs.length/\-(xs.length:Int)<=i/\i<xs.length:=by
 unfold atI at h;cases e:ixN xs.length i with
 | none=>rw [e] at h;cases h
 | some j =>
  rw [e] at h;obtain ⟨h1,h2,h3,h4⟩:=yJ e;exact ⟨j,h1,h,h2,h3,h4⟩
theorem eY {α:Type}{xs:List α}{j:Nat}{v:α} (h:xs[j]?=some v):atI xs (j:Int)=some v:=by
 have hj:j<xs.length:=(List.getElem?_eq_some_iff.mp h).1;have e:ixN xs.length (j:Int)=some j:=by
  unfold ixN;rw [if_pos (by omega),if_pos (by omega)];simp
 unfold atI;rw [e];exact h
theorem wK {α:Type}(xs:List α)(v:α):atI (xs++[v]) (-1)=some v:=by
 have hl:(xs++[v]).length=xs.length+1:=by simp
 have e:ixN (xs++[v]).length (-1)=some xs.length:=by
  unfold ixN;rw [hl,if_neg (by decide),if_pos (by omega)];congr 1;omega
 unfold atI;rw [e];show (xs++[v])[xs.length]?=some v;simp
def uZ (b:Expr):Prop:=∀o i,subscripted b false o i=operate [o,i] (getItem o i)
def IxR (X:Cx)(r:R2):Prop :=
 ∀(value slice:Expr) (pins:List (Addr×Obj)) (s:Shared) (σ:St) (H:Hp) (x y:V) (v u:Value) (Q:VK),Inv X pins σ H s->RelV x v->RelV y u->r x y H Q ->
  subscripted slice false v u=operate [v,u] (getItem v u)->wpAny (model X.prog X.w) X.A (subscriptTail value slice v u) (EP X pins σ Q) X.xe s
def MtR (X:Cx)(id:String)(r:V->List V->Hp->VK->Prop):Prop :=
 ∀(pins:List (Addr×Obj)) (s:Shared) (σ:St) (H:Hp) (x:V) (xs:List V) (v:Value) (us:List Value) (Q:VK),Inv X pins σ H s->RelV x v->Vals xs us->r x xs H Q ->
  wpAny (model X.prog X.w) X.A (call (.builtin id) (v::us)) (EP X pins σ Q) X.xe s
section
variable {X:Cx}{a b:Expr}{ta tb:TE}{pos:Pos}
theorem AX {r:R2}(hr:IxR X r)(ha:PE X a ta)(hb:PE X b tb)(hs:uZ b):PE X (.Subscript a b pos) (tOp r ta tb):=by
 intro pins s σ H Q I h;exact Subscript_ (binT ha hb I h λv u s2 x y H2 I2 rx ry q=>hr a b pins s2 σ H2 x y v u Q I2 rx ry q (hs _ _))
inductive rIxL (K:W.Frag)(x:V)(y:V)(H:Hp)(Q:VK):Prop
 | mk (p xs i v):(x=.ref p)->(y=.int i)->(SqL K H p xs)->(atI xs i=some v)->(Q v H)->rIxL K x y H Q
inductive rIxT (K:W.Frag)(x:V)(y:V)(H:Hp)(Q:VK):Prop
 | mk (p xs i v):(x=.ref p)->(y=.int i)->(SqT K H p xs)->(atI xs i=some v)->(Q v H)->rIxT K x y H Q
theorem ay:IxR X (rIxL X.K):=by
 intro value slice pins s σ H x y v u Q I rx ry h hs;obtain ⟨p,xs,i,z,rfl,rfl,hq,he,q⟩:=h;cases rx;obtain ⟨t,rfl⟩:=ry;obtain ⟨its,r,pl,hz⟩:=I.list hq;obtain ⟨j,h1,h2,h3,h4,h5⟩:=atI_get he;obtain ⟨w,ew,rw'⟩:=r.get h2;have hl:=r.length;have hn:=uT;have fin:EP X pins σ Q w s:=⟨z,H,I,rw',q⟩
 by_cases h0:0<=i
 ·have hj:i.toNat=j:=by
   rw [seqIndex_of h0 h5] at h1;exact Option.some.inj h1
  exact item_listR pl.isList h0 (by omega) (by rw [hj];simpa using ew) fin hs
 ·have hj:(i+(its.toArray.size:Int)).toNat=j:=by
   rw [seqIndex_neg (by omega) h4] at h1;rw [List.size_toArray,<- hl];exact Option.some.inj h1
  exact subscriptTail_builtinR (x:=w) pl.isList.typeIs slot_list_getitem.lookup
   (wpAny_getItem_list_neg (Q:=λr s'=>r=w/\EP X pins σ Q r s') pl.isList (by omega) (by rw [List.size_toArray] <;> omega) (by omega) (by rw [hj];simpa using ew) ⟨rfl,fin⟩) hs
theorem bV:IxR X (rIxT X.K):=by
 intro value slice pins s σ H x y v u Q I rx ry h hs;obtain ⟨p,xs,i,z,rfl,rfl,hq,he,q⟩:=h;cases rx;obtain ⟨t,rfl⟩:=ry;obtain ⟨its,r,pl,hz⟩:=I.tuple hq;obtain ⟨j,h1,h2,h3,h4,h5⟩:=atI_get he;obtain ⟨w,ew,rw'⟩:=r.get h2;have hl:=r.length;have hn:=uT;have fin:EP X pins σ Q w s:=⟨z,H,I,rw',q⟩
 exact subscriptTail_builtinR (x:=w) pl.typeIs slot_tuple_getitem.lookup
  (getItem_tuple (j:=j) (Q:=λr s'=>r=w/\EP X pins σ Q r s') pl (by omega) (by omega) (by rw [List.size_toArray,<- hl];exact h1) (by simpa using ew) ⟨rfl,fin⟩) hs
theorem o0 (lo hi:Option Int)(n:Nat):(sliceBounds lo hi none n).1=((HT.sIx n 0 lo:Nat):Int)/\(sliceBounds lo hi none n).2.1=((HT.sIx n n hi:Nat):Int)/\(sliceBounds lo hi none n).2.2=1:=by
 refine ⟨?_,?_,rfl⟩
 ·cases lo with
  | none=>simp [sliceBounds,HT.sIx]
  | some i =>
   simp only [sliceBounds,HT.sIx,Option.getD_none,show (1:Int) > 0 by decide,if_true];by_cases h:i<0
   ·simp only [h,if_true] <;> omega
   ·simp only [h,if_false] <;> omega
 ·cases hi with
  | none=>simp [sliceBounds,HT.sIx]
  | some i =>
   simp only [sliceBounds,HT.sIx,Option.getD_none,show (1:Int) > 0 by decide,if_true];by_cases h:i<0
   ·simp only [h,if_true] <;> omega
   ·simp only [h,if_false] <;> omega
theorem mE (its:List Value)(lo hi:Option Int):slicePick its.toArray lo hi none=((its.drop (HT.sIx its.length 0 lo)).take (HT.sIx its.length its.length hi-HT.sIx its.length 0 lo)).toArray:=by
 obtain ⟨h1,h2,h3⟩:=o0 lo hi its.toArray.size;unfold slicePick;rw [h1,h2,h3];simp only [sliceRange_one,pick_run,List.size_toArray] <;> rfl
inductive rSlL (K:W.Frag)(x:V)(lo:Option Int)(hi:Option Int)(H:Hp)(Q:VK):Prop
 | mk (a xs):(x=.ref a)->(SqL K H a xs)->(∀p,H p=none->Q (.ref p) (upd H p (.lst (cutV xs lo hi))))->rSlL K x lo hi H Q
theorem aR:SlR X (rSlL X.K):=by
 intro pins s σ H x v vl vu lo hi sl Q I rx hs pl pu h;obtain ⟨a,xs,rfl,hx,q⟩:=h;cases rx;obtain ⟨its,r,ht,hz⟩:=I.list hx;have hlen:=r.length;refine ⟨"list",_,slot_list_getitem.lookup,ht.isList.typeIs,?_⟩;refine wpAny_getItem_list_slice ht.isList hs pl pu .none (by simp) ?_ (by rw [List.size_toArray] <;> omega);rw [mE,<- hlen];refine ⟨.ref s.heap.objs.size,_,I.laid (t':=s.toks) (o:=.lst (cutV xs lo hi)) (λb ob q=>Heap.get?_push_of_some _ q) (Nat.le_refl _) ?_,rfl,q _ (I.hok.fresh (Nat.le_refl _))⟩;exact ⟨Nat.le_trans (qx xs lo hi) hz,_,0,(r.drop (HT.sIx xs.length 0 lo)).take (HT.sIx xs.length xs.length hi-HT.sIx xs.length 0 lo),Heap.get?_push_size _ rfl⟩
def z8:V->Bool
 | .non=>true
 | .bl _=>true
 | .int _=>true
 | .str _=>true
 | _=>false
def eqV:V->V->Bool
 | .non,.non=>true
 | .bl a,.bl b=>a==b
 | .bl a,.int b=>(if a then 1 else 0)==b
 | .int a,.bl b=>a==(if b then 1 else 0)
 | .int a,.int b=>a==b
 | .str a,.str b=>a==b
 | _,_=>false
def inV (x:V)(xs:List V):Bool:=xs.any λy=>eqV y x
inductive rIn (K:W.Frag)(neg:Bool)(x:V)(y:V)(H:Hp)(Q:VK):Prop
 | mk (p xs):(y=.ref p)->((SqL K H p xs\/SqT K H p xs))->(z8 x=true)->(xs.all z8=true)->(Q (.bl (if neg then !inV x xs else inV x xs)) H)->rIn K neg x y H Q
theorem ak:lB X (.builtin "len") (λxs H Q=>∃p ys,xs=[.ref p]/\(SqL X.K H p ys\/SqT X.K H p ys)/\Q (.int ys.length) H):=by
 intro pins s σ H xs us Q I r h;obtain ⟨p,ys,rfl,hq,q⟩:=h;obtain ⟨u,rfl,rx⟩:=wC r;cases rx;have hn:=uT;rcases hq with hq | hq
 ·obtain ⟨its,r',pl,hz⟩:=I.list hq;have hlen:=r'.length;exact Calls.call_len_list pl.isList (by simp only [List.size_toArray] <;> omega) ⟨.int ys.length,H,I.tok _,⟨s.toks+1,by rw [List.size_toArray,hlen]⟩,q⟩
 ·obtain ⟨its,r',pl,hz⟩:=I.tuple hq;have hlen:=r'.length;exact len_tuple pl (by simp only [List.size_toArray] <;> omega) ⟨.int ys.length,H,I.tok _,⟨s.toks+1,by rw [List.size_toArray,hlen]⟩,q⟩
theorem bL:lB X (.type "list") (λxs H Q=>∃p ys,xs=[.ref p]/\(SqL X.K H p ys\/SqT X.K H p ys)/\∀l,H l=none->Q (.ref l) (upd H l (.lst ys))):=by
 intro pins s σ H xs us Q I r h;obtain ⟨p,ys,rfl,hq,q⟩:=h;obtain ⟨u,rfl,rx⟩:=wC r;cases rx;have fin:∀(its:List Value),Vals ys its->ys.length<=sizeLine->∀(h':Heap) (c':Nat),(∀b o',s.heap.get? b=some o'->h'.get? b=some o') ->
   h'.get? s.heap.objs.size=some { cls:=.type "list",dict:=none,data:=.seq its.toArray c',slots:=#[] }->EP X pins σ Q (.ref s.heap.objs.size) { s with heap:=h' }:=λits r' hz h' c' kp e =>
  ⟨.ref s.heap.objs.size,_,I.laid (t':=s.toks) kp (Nat.le_refl _) (show ObjOk X.prog X.w _ h' _ (.lst ys) from ⟨hz,its,c',r',e⟩),rfl,q _ (I.hok.fresh (Nat.le_refl _))⟩
 rcases hq with hq | hq
 ·obtain ⟨its,r',pl,hz⟩:=I.list hq;have hlen:=r'.length;obtain ⟨o,ho,hc,n,hd⟩:=pl.isList;exact call_list_seq p (.inl rfl) ho hc hd (λh' c' kp e=>fin its r' hz h' c' kp e) (by simp only [List.size_toArray] <;> omega)
 ·obtain ⟨its,r',pl,hz⟩:=I.tuple hq;have hlen:=r'.length;obtain ⟨o,ho,hc,n,hd⟩:=pl;exact call_list_seq p (.inr rfl) ho hc hd (λh' c' kp e=>fin its r' hz h' c' kp e) (by simp only [List.size_toArray] <;> omega)
theorem mF:lB X (.type "tuple") (λxs H Q=>∃p ys,xs=[.ref p]/\((SqL X.K H p ys/\∀l,H l=none->Q (.ref l) (upd H l (.tup ys)))\/(SqT X.K H p ys/\Q (.ref p) H))):=by
 intro pins s σ H xs us Q I r h;obtain ⟨p,ys,rfl,h⟩:=h;obtain ⟨u,rfl,rx⟩:=wC r;cases rx;rcases h with ⟨hq,q⟩ | ⟨hq,q⟩
 ·obtain ⟨its,r',pl,hz⟩:=I.list hq;have hlen:=r'.length;refine call_tuple_list pl.isList (λh' kp=>?_) (by simp only [List.size_toArray] <;> omega);have I1:Inv X pins σ H { s with heap:=h' }:=I.kept (t':=s.toks) kp;have I2:Inv X pins σ (upd H h'.objs.size (.tup ys)) { s with heap:=h'.push { cls:=.type "tuple",data:=.seq its.toArray } } :=
   I1.laid (t':=s.toks) (λb o e=>Heap.get?_push_of_some _ e) (Nat.le_refl _) (show ObjOk X.prog X.w _ _ _ (.tup ys) from ⟨hz,its,r',IsTup.new _ _⟩)
  exact ⟨.ref h'.objs.size,_,I2,rfl,q _ (I1.hok.fresh (Nat.le_refl _))⟩
 ·obtain ⟨its,r',pl,hz⟩:=I.tuple hq;exact call_tuple_same pl ⟨.ref p,H,I,rfl,q⟩
def tyV (K:W.Frag)(T:String)(x:V)(H:Hp):Prop:=match x with
 | .str _=>T="str"
 | .int _=>T="int"
 | .ref p=>(T="list"/\∃xs,SqL K H p xs)\/(T="tuple"/\∃o,K.lookup p=some o/\o.cls=.type "tuple"/\o.dict=none) \/
   (T="dict"/\((∃kvs,H p=some (.dK kvs))\/∃kvs,H p=some (.dT kvs)))\/(T="set"/\∃S n,H p=some (.set S n))
 | _=>False
theorem z9 {pins:List (Addr×Obj)}{σ:St}{H:Hp}{s:Shared}{T:String}{x:V}{v:Value} (I:Inv X pins σ H s) (r:RelV x v) (ty:tyV X.K T x H) :
  s.TypeIs v T/\∀a,v=.ref a->∃ob,s.heap.get? a=some ob/\ob.dict=none:=by
 cases x with
 | str z =>
  obtain ⟨t,rfl⟩:=r;cases (show T="str" from ty);exact ⟨typeIs_str s z t,λ_ e=>nomatch e⟩
 | int i =>
  obtain ⟨t,rfl⟩:=r;cases (show T="int" from ty);exact ⟨typeIs_int s i t,λ_ e=>nomatch e⟩
 | ref p =>
  cases r;rcases ty with ⟨rfl,xs,hq⟩ | ⟨rfl,o,hk,hc,hd⟩ | ⟨rfl,hk⟩ | ⟨rfl,S,n,hk⟩
  ·obtain ⟨its,_,pl,_⟩:=I.list hq;refine ⟨pl.isList.typeIs,λa e=>?_⟩;cases e;obtain ⟨o,n,e,c,hd,_⟩:=pl;exact ⟨o,e,hd⟩
  ·refine ⟨⟨o,I.kIn p o hk,hc⟩,λa e=>?_⟩;cases e;exact ⟨o,I.kIn _ o hk,hd⟩
  ·have z:∃o,s.heap.get? p=some o/\o.ExactDict:=by
    rcases hk with ⟨kvs,hk⟩ | ⟨kvs,hk⟩
    ·obtain ⟨_,_,_,_,o,_,_,e,ex,_⟩:=I.hok p _ hk;exact ⟨o,e,ex⟩
    ·obtain ⟨_,_,_,_,o,_,_,e,ex,_⟩:=I.hok p _ hk;exact ⟨o,e,ex⟩
   obtain ⟨o,e,ex⟩:=z;refine ⟨⟨o,e,ex.1⟩,λa e2=>?_⟩;cases e2;exact ⟨o,e,ex.2.1⟩
  ·obtain ⟨o,_,_,_,e,ex,_⟩:=I.hok p _ hk;refine ⟨⟨o,e,ex.1⟩,λa e2=>?_⟩;cases e2;exact ⟨o,e,ex.2.1⟩
 | _=>exact False.elim ty
def tBM (K:W.Frag)(T:String)(r:V->List V->Hp->VK->Prop)(to:TE)(t:TA):TE:=λσ H Q=>to σ H λx H1=>tyV K T x H1/\t σ H1 λxs H2=>r x xs H2 Q
variable {o e:Expr}{es:List Expr}{to:TE}{t:TA}{name:Str}{apos cpos:Pos}{T id:String}{r:V->List V->Hp->VK->Prop}
theorem lC (pa:PlainAttrs T)(slot:Slot T name id)(hty:typeOf (.builtin id)=pure (.type "method_descriptor"))(hm:MtR X id r)(ho:PE X o to)(ha:PA X (e::es) t)
  (hbase:attributeBase o name X.env (eval o X.env)=eval o X.env:=by rfl)
  (hfew:((backTo cpos (starEach (e::es) X.env)).all (λx=>!x.1)&&(backToKw cpos (keywordEach [] X.env)).all (λx=>x.1.isSome)
   && decide ((e::es).length+([]:List Keyword).length+(if ([]:List Keyword).isEmpty then 0 else 1)<30))=true:=by rfl)
  (hline:(apos.endLine==cpos.line)=true:=by rfl) (hs:starEach (e::es) X.env=(false,eval e X.env)::starEach es X.env:=by rfl) (hplain:(backTo cpos (starEach es X.env)).any (·.1)=false:=by rfl) :
  PE X (.Call (.Attribute o name apos) (e::es) [] cpos) (tBM X.K T r to t):=by
 intro pins s σ H Q I h;refine wpAny_Call_method_late hbase hfew hline rfl (thn (ho pins s σ H _ I h) λv s1 hz=>?_);obtain ⟨x,H1,I1,r1,ty,q1⟩:=hz;obtain ⟨h1,h2⟩:=z9 I1 r1 ty;refine ⟨T,id,pa,slot,hty,h1,h2,?_⟩;have hA:=ha cpos pins s1 σ H1 _ I1 q1;rw [hs] at hA ⊢;refine Calls.callWith_builtin (by show (false||(backTo cpos (starEach es X.env)).any (·.1))=false;rw [hplain] <;> rfl) (Calls.evalArgs_plain ?_);refine thn hA λus s2 hz=>?_;obtain ⟨vs,H2,I2,r2,q2⟩:=hz;exact hm pins s2 σ H2 x vs v us Q I2 r1 r2 q2
end
end L2
namespace L2
open PySem PySem.Spec PyProof.Rows
def MtM (X:Cx)(id:String)(r:V->List V->Hp->VK->Prop):Prop :=
 ∀(pins:List (Addr×Obj)) (s:Shared) (σ:St) (H:Hp) (x:V) (xs:List V) (v:Value) (us:List Value) (Q:VK),Inv X pins σ H s->RelV x v->Vals xs us->r x xs H Q ->
  wpAny (model X.prog X.w) X.A (call (.builtin id) (v::us)) (EP X pins σ Q) X.xe s
theorem Vals.one:∀{x:V}{us:List Value},Vals [x] us->∃u,us=[u]/\RelV x u
 | _,_,.cons r .nil=>⟨_,rfl,r⟩
theorem Vals.reverse {xs:List V}{us:List Value} (h:Vals xs us):Vals xs.reverse us.reverse:=by
 induction h with
 | nil=>exact .nil
 | cons r t ih=>rw [List.reverse_cons,List.reverse_cons];exact Vals.append ih (.cons r .nil)
theorem Vals.rep {xs:List V}{us:List Value} (h:Vals xs us):∀k:Nat,Vals (List.replicate k xs).flatten (List.replicate k us).flatten
 | 0=>.nil
 | k+1=>by
  rw [List.replicate_succ,List.replicate_succ,List.flatten_cons,List.flatten_cons];exact Vals.append h (Vals.rep h k)
theorem o5 (its:List Value):∀(k:Nat) (acc:List Value),
  List.foldl (λx1 x2=>x1++x2) acc.toArray (List.replicate k its.toArray)=(acc++(List.replicate k its).flatten).toArray
 | 0,acc=>by simp
 | k+1,acc=>by
  have e:acc.toArray++its.toArray=(acc++its).toArray:=by simp
  have e2:(acc++its)++(List.replicate k its).flatten=acc++(List.replicate (k+1) its).flatten:=by
   rw [List.replicate_succ,List.flatten_cons,List.append_assoc]
  rw [<- e2,<- o5 its k (acc++its),<- e,List.replicate_succ,List.foldl_cons]
section
variable {X:Cx}{pins:List (Addr×Obj)}{σ:St}{H:Hp}{s:Shared}{l b:Addr}{xs ys zs:List V}
theorem Inv.lset {its its':List Value}{n:Nat}{f:Array Value->Array Value}{t':Nat} (I:Inv X pins σ H s) (hH:H l=some (.lst xs))
  (e:s.heap.get? l=some { cls:=.type "list",data:=.seq its.toArray n }) (hf:f its.toArray=its'.toArray) (hv:Vals ys its') (hz:ys.length<=sizeLine) :
  Inv X pins σ (upd H l (.lst ys)) { s with heap:=s.heap.update l (Obj.mapSeq f),toks:=t' }:=by
 have q:=PySem.IsL.update e f;rw [hf] at q;refine I.write (x:=l) (e:=l) (by rw [hH];exact trivial) (.inl rfl) (λb' u hb hu=>(Heap.get?_update_other s.heap (Obj.mapSeq f) (Ne.symm hb)).trans hu) ⟨_,q⟩ ?_;exact ⟨hz,its',_,hv,q⟩
theorem Inv.lnew {its:List Value}{t':Nat} (I:Inv X pins σ H s) (hv:Vals ys its) (hz:ys.length<=sizeLine) :
  Inv X pins σ (upd H s.heap.objs.size (.lst ys)) { s with heap:=s.heap.push { cls:=.type "list",data:=.seq its.toArray },toks:=t' } :=
 I.laid (λ_ _ q=>Heap.get?_push_of_some _ q) (Nat.le_refl _) ⟨hz,its,0,hv,Heap.get?_push_size _ rfl⟩
theorem Inv.fresh (I:Inv X pins σ H s):H s.heap.objs.size=none:=I.hok.fresh (Nat.le_refl _)
theorem Inv.lstM (I:Inv X pins σ H s)(hH:H l=some (.lst xs)):xs.length<=sizeLine/\∃(its:List Value) (n:Nat),Vals xs its/\xs.length=its.length/\s.heap.get? l=some { cls:=.type "list",data:=.seq its.toArray n }:=by
 obtain ⟨z,its,n,r,e⟩:=I.hok l _ hH;exact ⟨z,its,n,r,r.length,e⟩
theorem jO {n:Nat}(h:n<=sizeLine):Builtin.List.listTooLong n=false:=by
 unfold Builtin.List.listTooLong;exact decide_eq_false (by omega)
end
section
variable {X:Cx}
inductive u4 (x:V)(vs:List V)(H:Hp)(Q:VK):Prop
 | mk (l xs y):(x=.ref l)->(vs=[y])->(H l=some (.lst xs))->(xs.length<sizeLine)->(Q .non (upd H l (.lst (xs++[y]))))->u4 x vs H Q
theorem cp:MtM X "list.append" u4:=by
 intro pins s σ H x vs v us Q I rx rv h;obtain ⟨l,xs,y,rfl,rfl,hH,hz,q⟩:=h;cases rx;obtain ⟨u,rfl,ru⟩:=rv.one;obtain ⟨z,its,n,r,hl,e⟩:=I.lstM hH;refine call_meets F.slot_list_append ⟨_,e,rfl⟩ F.entry_list_append (F.args_list_append_2 _ _) (PySem.list_append l its.toArray n u (by rw [List.size_toArray];omega)) ⟨e,?_⟩;refine ⟨.non,_,I.lset (its':=its++[u]) hH e (by simp) (r.append (.cons ru .nil)) ?_,rfl,q⟩;rw [List.length_append,List.length_singleton];omega
inductive u5 (x:V)(vs:List V)(H:Hp)(Q:VK):Prop
 | mk (l b xs zs):(x=.ref l)->(vs=[.ref b])->(H l=some (.lst xs))->(H b=some (.lst zs))->(xs.length+zs.length<=sizeLine)->(Q .non (upd H l (.lst (xs++zs))))->u5 x vs H Q
theorem o6:MtM X "list.extend" u5:=by
 intro pins s σ H x vs v us Q I rx rv h;obtain ⟨l,b,xs,zs,rfl,rfl,hH,hB,hz,q⟩:=h;cases rx;obtain ⟨u,rfl,ru⟩:=rv.one;cases ru;obtain ⟨z,its,n,r,hl,e⟩:=I.lstM hH;obtain ⟨z2,its2,n2,r2,hl2,e2⟩:=I.lstM hB;have hsz:its.toArray.size+its2.toArray.size<=sizeLine:=by rw [List.size_toArray,List.size_toArray];omega
 have hlong:¬(!its.toArray.isEmpty&&Builtin.List.listTooLong (its.toArray.size+its2.toArray.size))=true:=by
  rw [jO hsz,Bool.and_false];exact Bool.false_ne_true
 refine call_meets F.slot_list_extend ⟨_,e,rfl⟩ F.entry_list_extend (F.args_list_extend_2 _ _)
  (AutoSeq1.list_extend_list_list_0 l its.toArray n b its2.toArray n2 hlong (by rw [List.size_toArray];omega) (by omega)) ⟨e,e2,?_⟩
 refine ⟨.non,_,I.lset (its':=its++its2) hH e (by simp) (r.append r2) ?_,rfl,q⟩;rw [List.length_append];omega
inductive rCat (x:V)(y:V)(H:Hp)(Q:VK):Prop
 | mk (l b xs zs):(x=.ref l)->(y=.ref b)->(H l=some (.lst xs))->(H b=some (.lst zs))->(xs.length+zs.length<=sizeLine)->(∀p,H p=none->Q (.ref p) (upd H p (.lst (xs++zs))))->rCat x y H Q
theorem cW:OpR X (binaryOp .Add) rCat:=by
 intro pins s σ H x y v u Q I rx ry h;obtain ⟨l,b,xs,zs,rfl,rfl,hH,hB,hz,q⟩:=h;cases rx;cases ry;obtain ⟨z,its,n,r,hl,e⟩:=I.lstM hH;obtain ⟨z2,its2,n2,r2,hl2,e2⟩:=I.lstM hB;refine PySem.P.add_list e e2 ?_ (by rw [List.size_toArray,List.size_toArray];omega);have ea:its.toArray++its2.toArray=(its++its2).toArray:=by simp
 rw [ea];exact ⟨.ref _,_,I.lnew (t':=s.toks) (r.append r2) (by rw [List.length_append];omega),rfl,q _ I.fresh⟩
inductive rRep (x:V)(y:V)(H:Hp)(Q:VK):Prop
 | mk (l k xs):(x=.ref l)->(y=.int k)->(H l=some (.lst xs))->(-(2 ^ 63)<=k)->(k<2 ^ 63)->(xs.length*k.toNat<=sizeLine)->(∀p,H p=none->Q (.ref p) (upd H p (.lst (List.replicate k.toNat xs).flatten)))->rRep x y H Q
theorem yK {α:Type}(xs:List α)(k:Nat):(List.replicate k xs).flatten.length=k*xs.length:=by
 induction k with
 | zero=>simp
 | succ k ih=>rw [List.replicate_succ,List.flatten_cons,List.length_append,ih,Nat.succ_mul,Nat.add_comm]
theorem yh:OpR X (binaryOp .Mult) rRep:=by
 intro pins s σ H x y v u Q I rx ry h;obtain ⟨l,k,xs,rfl,rfl,hH,h1,h2,hz,q⟩:=h;cases rx;obtain ⟨t,rfl⟩:=ry;obtain ⟨z,its,n,r,hl,e⟩:=I.lstM hH;have hlen:its.toArray.size*k.toNat<=sizeLine:=by rw [List.size_toArray,<- hl];exact hz
 have hcap:¬its.toArray.size*k.toNat > (2 ^ 63-1)/8:=by
  have:(sizeLine:Nat)<=(2 ^ 63-1)/8:=by decide
  omega
 have hfit:¬(!Builtin.List.listFitsIndex k)=true:=by
  rw [fitsIndex_both h1 h2];exact Bool.false_ne_true
 have hlong:¬Builtin.List.listTooLong (its.toArray.size*k.toNat)=true:=by
  rw [jO hlen];exact Bool.false_ne_true
 have hnew:List.foldl (λx1 x2=>x1++x2) #[] (List.replicate (if its.toArray.isEmpty=true then 0 else k.toNat) its.toArray)=(List.replicate k.toNat its).flatten.toArray:=by
  have f0:∀m:Nat,List.foldl (λx1 x2=>x1++x2) #[] (List.replicate m its.toArray)=(List.replicate m its).flatten.toArray:=λm=>by
   have:=o5 its m [];rw [List.nil_append] at this;exact this
  rw [f0];cases its with
  | nil=>simp
  | cons a r'=>rw [if_neg (by simp)]
 refine wpAny_binaryOp_repeat_ref (T:="list") (U:="int") (by decide) ⟨_,e,rfl⟩ (λs'=>typeIs_int s' k t) noFill_list_mul F.fills_int_mul F.slot_int_rmul repeat_list F.slot_int_index.lookup
  (call_meets F.slot_int_rmul (typeIs_int s k t) F.entry_int_rmul (F.args_int_rmul_2 _ _) (int___rmul___int_list k t l its.toArray n)
   ⟨e,rfl,⟨_,e,rfl⟩,call_meets F.slot_list_mul ⟨_,e,rfl⟩ F.entry_list_mul (F.args_list_mul_2 _ _) (AutoListH.list___mul___list_int_3 l its.toArray n k t hfit hcap hlong) ⟨e,?_⟩⟩)
 rw [hnew];exact ⟨.ref _,_,I.lnew (t':=s.toks) (r.rep k.toNat) (by rw [yK,Nat.mul_comm];exact hz),rfl,q _ I.fresh⟩
end
section
variable {prog:Program}{w:World}{A:Around}{E:Value->Shared->Prop}{s:Shared}
theorem tN {a c n:Nat}(hac:a<=c)(hc:c<=n):sliceBounds (some (a:Int)) (some (c:Int)) none n=((a:Int),(c:Int),1):=by
 simp only [sliceBounds,Option.getD_none];have h1:¬((a:Int)<0):=by omega
 have h2:¬((c:Int)<0):=by omega
 simp only [h1,h2,if_false,show (1:Int) > 0 by decide,if_true];congr 1
 ·omega
 ·congr 1;omega
set_option maxRecDepth 100000 in
theorem setItem_slice {l b sl:Addr}{items new:Array Value}{n n2:Nat}{vl vu:Value}{a c:Nat}{Q:Unit->Shared->Prop}
  (e:s.heap.get? l=some { cls:=.type "list",data:=.seq items n }) (e2:s.heap.get? b=some { cls:=.type "list",data:=.seq new n2 }) (hne:l≠b)
  (hs:s.heap.IsSliceOf sl vl vu .none) (pl:IsPart vl (some (a:Int))) (pu:IsPart vu (some (c:Int))) (hac:a<=c) (hc:c<=items.size)
  (hsz:items.size+new.size<=sizeLine) (h:Q () { s with heap:=s.heap.update l (Obj.mapSeq λxs=>xs.extract 0 a++new++xs.extract c xs.size) }) :
  wpAny (model prog w) A (setItem (.ref l) (.ref sl) (.ref b)) Q E s:=by
 have hl:s.heap.IsList l items:=PySem.IsL.isList e;have hb:s.heap.IsList b new:=PySem.IsL.isList e2;obtain ⟨os,hos,hcs,hds⟩:=id hs;have hTs:s.TypeIs (.ref sl) "slice":=⟨os,hos,hcs⟩
 have hstep:¬((rawPart none==rawInt 0)=true):=Bool.false_ne_true;have hsame:Builtin.List.listSameRef (.ref l) (.ref b)=false:=by
  unfold Builtin.List.listSameRef;exact beq_eq_false_iff_ne.mpr hne
 have hmax:(max (a:Int) (c:Int)).toNat=c:=by omega
 have hz':((λxs:Array Value=>xs.extract 0 a++new++xs.extract c xs.size) items).size<=sizeLine+1:=by
  simp only [Array.size_append,Array.size_extract];omega
 unfold setItem
 try with_reducible refine wpAny_holding ?_
 first | refine wpAny_bind (wpAny_pure ?_) | skip
 refine wpAny_bind (wpAny_sequenceKey hl.typeIs (by decide) ?_);refine wpAny_bind (wpAny_callSpecial?_slot (name:=Str.ofString "__setitem__") hl.typeIs slot_list_setitem
  (wpAny_call_entry slot_list_setitem hl.typeIs entry_list_setitem ?_ (args_list_setitem _ _ _)))
 show wpAny _ _ (Builtin.List.listSubscript? (.ref sl) >>= _) _ _ s;refine wpAny_bind ?_;unfold Builtin.List.listSubscript?;refine wpAny_bind (wpAny_specialOf hTs slice_no_index ?_);simp only [Option.isNone_none,if_true];refine wpAny_pure ?_;show wpAny _ _ (typeOf (.ref sl) >>= _) _ _ s;refine wpAny_bind (wpAny_typeOf hTs ?_)
 first
  | rw [if_neg (by decide)]
  | refine W.KFB.if_not (by decide) ?_
 rw [listSliceParts_eq];refine wpAny_bind (wpAny_bind (wpAny_field hos hds (x:=.none) rfl (wpAny_bind (wpAny_listPart .none ?_))));rw [if_neg hstep];refine wpAny_bind (wpAny_field hos hds (x:=vl) rfl (wpAny_bind (wpAny_listPart pl ?_)));refine wpAny_bind (wpAny_field hos hds (x:=vu) rfl (wpAny_bind (wpAny_listPart pu (wpAny_pure ?_))))
 first
  | simp only [hsame,Bool.false_eq_true,if_false]
  | refine W.KFB.if_not hsame ?_
  | (dsimp only
     rw [if_neg (by rw [hsame];exact Bool.false_ne_true)])
 refine wpAny_bind (m:=Builtin.List.listAllItems (.ref b) "must assign iterable to extended slice") ?_;unfold Builtin.List.listAllItems;refine wpAny_bind (wpAny_typeOf hb.typeIs ?_)
 first
  | refine W.KFB.if_so (by decide) ?_
  | rw [if_pos (by decide)]
  | simp only [beq_self_eq_true,Bool.true_or,if_true]
 unfold Builtin.List.listItems;refine wpAny_bind (wpAny_seqItems e2 rfl (wpAny_pure ?_));refine wpAny_bind (wpAny_bind (wpAny_seqItems e rfl (wpAny_pure ?_)));refine wpAny_bind (wpAny_of_eq ((sliceIndices_raw (some (a:Int)) (some (c:Int)) none items.size (by simp)).trans (congrArg (pure:Int×Int×Int->Sem (Int×Int×Int)) (tN hac hc))) ?_);show wpAny _ _ (if ((1:Int)==1)=true then _ else _) _ _ s;rw [if_pos (by decide)];refine wpAny_bind (wpAny_rule ?_)
 first
  | simp only [jO hsz,Bool.false_eq_true,if_false]
  | refine W.KFB.if_not (jO hsz) ?_
 first | refine wpAny_bind (wpAny_pure ?_) | skip
 show wpAny _ _ (updateSeq l (λxs=>xs.extract 0 ((a:Int)).toNat++new++xs.extract (max (a:Int) (c:Int)).toNat xs.size) >>= _) _ _ s;rw [hmax,Int.toNat_natCast];refine wpAny_bind (wpAny_updateSeq (hz:=Nat.le_trans (Nat.le_add_right _ _) hsz) (_hz':=hz') e rfl ?_);refine wpAny_bind (wpAny_letGo ?_)
 first
  | exact wpAny_bind (wpAny_pure (wpAny_pure ⟨.none,rfl,wpAny_pure h⟩))
  | exact wpAny_pure ⟨.none,rfl,wpAny_pure h⟩
end
section
variable {X:Cx}
end
end L2
namespace L2
open PySem PySem.Spec PyProof.Rows
theorem Vals.ints:∀{ns:List Int}{us:List Value},Vals (ns.map V.int) us->IntsAre us ns
 | [],us,h=>by
  rw [List.map_nil] at h;cases h;exact IntsAre.nil
 | n::ns,us,h=>by
  rw [List.map_cons] at h;cases h with
  | cons r t =>
   obtain ⟨k,rfl⟩:=r;exact IntsAre.cons n k (Vals.ints t)
theorem Vals.ref1 {a:Addr}{us:List Value} (r:Vals [V.ref a] us):us=[Value.ref a]:=by
 cases r with
 | cons r t =>
  cases t;cases r;rfl
section
variable {prog:Program}{w:World}{A:Around}{E:Value->Shared->Prop}{s:Shared}{l:Addr}{its:List Value}{ns:List Int}{Q:Value->Shared->Prop}
theorem yL (hh:A.handled=none)(hl:s.heap.IsList l its.toArray)(hi:IntsAre its ns)
  (h:∀h' tk t',(∀b o,s.heap.get? b=some o->h'.get? b=some o)->Q (.int ns.sum t') { s with heap:=h',toks:=tk }):wpAny (model prog w) A (call (.builtin "sum") [.ref l]) Q E s:=by
 obtain ⟨xs,e⟩:=hi.allInts.items;have hn:numsOf (intItems xs).toList=ns:=by rw [<- e];exact hi.numsOf
 rw [nums_intItems] at hn;rw [e] at hl;refine PySem.sum_intListG hh hl λh' tk t' hk=>?_;have:=h h' tk t' hk;rw [preSum_eq,List.take_of_length_le (by simp),hn];exact this
theorem yM (hh:A.handled=none)(hl:s.heap.IsList l its.toArray)(hi:IntsAre its ns)(hne:0<ns.length)
  (h:∀h' tk M t',(∀b o,s.heap.get? b=some o->h'.get? b=some o)->M∈ns->(∀a,a∈ns->M<=a)->Q (.int M t') { s with heap:=h',toks:=tk }):wpAny (model prog w) A (call (.builtin "min") [.ref l]) Q E s:=by
 obtain ⟨xs,e⟩:=hi.allInts.items;have hn:numsOf (intItems xs).toList=ns:=by rw [<- e];exact hi.numsOf
 rw [nums_intItems] at hn;subst hn;rw [e] at hl;have hsz:0<xs.size:=by simpa using hne
 refine PySem.min_intList hh hl hsz λv h' tk hv hk=>?_;obtain ⟨t,rfl⟩:=intItems_at hv;obtain ⟨h1,h2⟩:=argBest_lt (numAt xs) (xs.size-1);refine h h' tk _ t hk ?_ λa ha=>?_
 ·rw [numAt_eq];exact PySem.getD_mem (by rw [List.length_map,Array.length_toList];omega)
 ·obtain ⟨j,hj,rfl⟩:=mem_getD ha;rw [List.length_map,Array.length_toList] at hj;rw [<- numAt_eq];exact h2 j (by omega)
end
section
variable {X:Cx}
inductive rSum (K:W.Frag)(vs:List V)(H:Hp)(Q:VK):Prop
 | mk (a:Addr) (ns:List Int):(vs=[V.ref a])->(SqL K H a (ns.map V.int))->(Q (.int ns.sum) H)->rSum K vs H Q
inductive rMin (K:W.Frag)(vs:List V)(H:Hp)(Q:VK):Prop
 | mk (a:Addr) (ns:List Int):(vs=[V.ref a])->(SqL K H a (ns.map V.int))->(0<ns.length)->(∀m,m∈ns->(∀y,y∈ns->m<=y)->Q (.int m) H)->rMin K vs H Q
theorem Aa (hc:X.calm=true):lB X (.builtin "sum") (rSum X.K):=by
 intro pins s σ H vs us Q I r h;obtain ⟨a,ns,rfl,hs,q⟩:=h;obtain ⟨its,rv,hl,_⟩:=I.list hs;rw [Vals.ref1 r];exact yL (I.ok.hd hc) hl.isList rv.ints λh' tk t' hk=>⟨.int _,H,I.kept hk,⟨_,rfl⟩,q⟩
theorem Ab (hc:X.calm=true):lB X (.builtin "min") (rMin X.K):=by
 intro pins s σ H vs us Q I r h;obtain ⟨a,ns,rfl,hs,hne,q⟩:=h;obtain ⟨its,rv,hl,_⟩:=I.list hs;rw [Vals.ref1 r];exact yM (I.ok.hd hc) hl.isList rv.ints hne λh' tk m t' hk h1 h2=>⟨.int _,H,I.kept hk,⟨_,rfl⟩,q m h1 h2⟩
end
section
variable {X:Cx}
end
section
variable {X:Cx}
end
section
variable {X:Cx}
end
mutual
inductive Dp (K:W.Frag)(H:Hp):V->PyData->Prop
 | non:Dp K H .non .none
 | bl (b:Bool):Dp K H (.bl b) (.bool b)
 | int (i:Int):Dp K H (.int i) (.int i)
 | str (x:Str):Dp K H (.str x) (.str x)
 | lst {a:Addr}{xs:List V}{ds:List PyData}:SqL K H a xs->DpAll K H xs ds->Dp K H (.ref a) (.list ds)
 | tup {a:Addr}{xs:List V}{ds:List PyData}:SqT K H a xs->DpAll K H xs ds->Dp K H (.ref a) (.tuple ds)
inductive DpAll (K:W.Frag)(H:Hp):List V->List PyData->Prop
 | nil:DpAll K H [] []
 | cons {v:V}{vs:List V}{d:PyData}{ds:List PyData}:Dp K H v d->DpAll K H vs ds->DpAll K H (v::vs) (d::ds)
end
section
variable {X:Cx}{pins:List (Addr×Obj)}{σ:St}{H:Hp}{s:Shared}
mutual
theorem Dp.reads (I:Inv X pins σ H s):∀(d:PyData) (v:V) (u:Value),Dp X.K H v d->RelV v u->∃as,Reads s.heap u d as
 | .none,_,_,h,r=>by
  cases h;cases r;exact ⟨_,Reads.none⟩
 | .bool b,_,_,h,r=>by
  cases h;cases r;exact ⟨_,Reads.bool b⟩
 | .int i,_,_,h,r=>by
  cases h;obtain ⟨t,rfl⟩:=r;exact ⟨_,Reads.int i t⟩
 | .str x,_,_,h,r=>by
  cases h;obtain ⟨t,rfl⟩:=r;exact ⟨_,Reads.str x t⟩
 | .list ds,_,_,h,r=>by
  cases h with
  | lst hs ha =>
   cases r;obtain ⟨its,rv,⟨o,n,ho,hc,_,hd⟩,_⟩:=I.list hs;obtain ⟨as,hr⟩:=Dp.readsAll I ds _ its ha rv;exact ⟨_,Reads.list ho hc hd hr⟩
 | .tuple ds,_,_,h,r=>by
  cases h with
  | tup hs ha =>
   cases r;obtain ⟨its,rv,⟨o,ho,hc,n,hd⟩,_⟩:=I.tuple hs;obtain ⟨as,hr⟩:=Dp.readsAll I ds _ its ha rv;exact ⟨_,Reads.tuple ho hc hd hr⟩
 | .dict _,_,_,h,_=>by cases h
theorem Dp.readsAll (I:Inv X pins σ H s):∀(ds:List PyData) (vs:List V) (us:List Value),DpAll X.K H vs ds->Vals vs us->∃as,ReadsAll s.heap us ds as
 | [],_,_,h,r=>by
  cases h;cases r;exact ⟨_,ReadsAll.nil⟩
 | d::ds,_,_,h,r=>by
  cases h with
  | cons h1 h2 =>
   cases r with
   | cons r1 r2 =>
    obtain ⟨as,q1⟩:=Dp.reads I d _ _ h1 r1;obtain ⟨bs,q2⟩:=Dp.readsAll I ds _ _ h2 r2;exact ⟨_,ReadsAll.cons q1 q2⟩
end
end
section
variable {X:Cx}
inductive rNeD (K:W.Frag)(x:V)(y:V)(H:Hp)(Q:VK):Prop
 | mk (d e):(Dp K H x d)->(Dp K H y e)->(SeqAt.shaped d=true)->(SeqAt.shaped e=true)->(Q (.bl (!PyData.eqv d e)) H)->rNeD K x y H Q
theorem yi (hu:X.A.units+64<cLine):OpR X (compareOp .NotEq) (rNeD X.K):=by
 intro pins s σ H x y v u Q I rx ry h;obtain ⟨d,e,hd,he,sd,se,q⟩:=h;obtain ⟨as,r1⟩:=Dp.reads I d x v hd rx;obtain ⟨bs,r2⟩:=Dp.reads I e y u he ry;exact SeqAt.compareNe_shaped r1 r2 sd se hu ⟨.bl _,H,I,rfl,q⟩
end
end L2
namespace L2
open PySem PySem.Spec PyProof.Rows
abbrev yj (h:Heap)(c:Addr)(v:Option Value):Prop:=h.IsCell c v
def relS (scope sc:Scope):Scope :=
 { scope with names:=scope.names.map λ(n,k)=>if (k==.free&&sc.kind==.function&&sc.names.lookup n==some .cell) then (n,.cell) else (n,k) }
def aK (cells:List (Str×Addr)):List (Str×NameKind)->List (Str×Addr)->List (Str×Addr)
 | [],acc=>acc
 | (n,k)::r,acc=>if k==.free then aK cells r ((n,(cells.lookup n).getD 0)::acc) else aK cells r acc
theorem jq (env:Env)(f:Str×NameKind->List (Str×Addr)->Sem (ForInStep (List (Str×Addr))))
  (hf:∀n k c,f (n,k) c=if k==.free then (do let a <- cellOf env n;pure (.yield ((n,a)::c))) else pure (.yield c)) :
  ∀(names:List (Str×NameKind)) (acc:List (Str×Addr)),(∀y∈names,y.2=.free->∃c,env.cells.lookup y.1=some c)->forIn names acc f=pure (aK env.cells names acc)
 | [],acc,_=>by rw [List.forIn_nil];rfl
 | (n,k)::r,acc,h=>by
  rw [List.forIn_cons,hf];have ih:=λacc=>jq env f hf r acc λy hy=>h y (List.mem_cons_of_mem _ hy);unfold aK;by_cases hk:(k==NameKind.free)=true
  ·rw [if_pos hk,if_pos hk];obtain ⟨c,hc⟩:=h (n,k) List.mem_cons_self (by simpa using hk);have e:cellOf env n=pure c:=by unfold cellOf;rw [hc]
   rw [e];have e2:(env.cells.lookup n).getD 0=c:=by rw [hc];rfl
   rw [e2];exact ih _
  ·rw [if_neg hk,if_neg hk];exact ih _
theorem l6 {scope:Scope}{env:Env} (h:∀y∈scope.names,y.2=.free->∃c,env.cells.lookup y.1=some c):closureFor scope env=pure (aK env.cells scope.names []):=by
 simp only [closureFor];rw [jq env _ (λn k c=>rfl) scope.names [] h];rfl
theorem mem_lookup {α:Type}:∀{l:List (Str×α)}{n:Str}{c:α},(n,c)∈l->∃c',l.lookup n=some c'
 | (k,v)::r,n,c,h=>by
  rw [List.lookup_cons];cases hb:n==k with
  | true=>exact ⟨_,rfl⟩
  | false =>
   rcases List.mem_cons.mp h with e | h
   ·cases e;simp at hb
   ·exact mem_lookup h
theorem cloFrom_mem {cells:List (Str×Addr)}:∀{names:List (Str×NameKind)}{acc:List (Str×Addr)}{n:Str}{c:Addr},(n,c)∈aK cells names acc->(n,c)∈acc\/((n,.free)∈names/\c=(cells.lookup n).getD 0)
 | [],_,_,_,h=>.inl h
 | (m,k)::r,acc,n,c,h=>by
  unfold aK at h;split at h
  ·rename_i hk;have hk:k=.free:=by simpa using hk
   rcases cloFrom_mem h with h | ⟨h1,h2⟩
   ·rcases List.mem_cons.mp h with e | h
    ·cases e;exact .inr ⟨hk▸List.mem_cons_self,rfl⟩
    ·exact .inl h
   ·exact .inr ⟨List.mem_cons_of_mem _ h1,h2⟩
  ·rcases cloFrom_mem h with h | ⟨h1,h2⟩
   ·exact .inl h
   ·exact .inr ⟨List.mem_cons_of_mem _ h1,h2⟩
theorem cloFrom_acc {cells:List (Str×Addr)}:∀{names:List (Str×NameKind)}{acc:List (Str×Addr)}{p:Str×Addr},p∈acc->p∈aK cells names acc
 | [],_,_,h=>h
 | (m,k)::r,acc,p,h=>by
  unfold aK;split
  ·exact cloFrom_acc (List.mem_cons_of_mem _ h)
  ·exact cloFrom_acc h
theorem cloFrom_has {cells:List (Str×Addr)}:∀{names:List (Str×NameKind)}{acc:List (Str×Addr)}{n:Str},(n,.free)∈names->(n,(cells.lookup n).getD 0)∈aK cells names acc
 | (m,k)::r,acc,n,h=>by
  unfold aK;rcases List.mem_cons.mp h with e | h
  ·cases e;exact cloFrom_acc List.mem_cons_self
  ·split
   ·exact cloFrom_has h
   ·exact cloFrom_has h
theorem cells_mem:∀{names:List (Str×NameKind)}{h:Heap}{acc:List (Str×Addr)}{x:Str}{c:Addr},(x,c)∈cellsFrom h.objs.size names acc ->
  (x,c)∈acc\/((x,.cell)∈names/\h.objs.size<=c/\yj (pushCells h names) c none)
 | [],_,_,_,_,h=>.inl h
 | (n,k)::r,h,acc,x,c,hm=>by
  unfold cellsFrom at hm;unfold pushCells;split at hm
  ·rename_i hk;rw [if_pos hk];have hk:k=.cell:=by simpa using hk
   rw [<- Heap.size_push h { cls:=.type "cell",data:=.cell none }] at hm;rcases cells_mem hm with hm | ⟨h1,h2,h3⟩
   ·rcases List.mem_cons.mp hm with e | hm
    ·cases e;exact .inr ⟨hk▸List.mem_cons_self,Nat.le_refl _,_,pushCells_keeps r _ _ _ (Heap.get?_push_size _ rfl),rfl⟩
    ·exact .inl hm
   ·rw [Heap.size_push] at h2;exact .inr ⟨List.mem_cons_of_mem _ h1,Nat.le_of_succ_le h2,h3⟩
  ·rename_i hk;rw [if_neg hk];rcases cells_mem hm with hm | ⟨h1,h2,h3⟩
   ·exact .inl hm
   ·exact .inr ⟨List.mem_cons_of_mem _ h1,h2,h3⟩
theorem hV:∀{names:List (Str×NameKind)}{n:Nat}{acc:List (Str×Addr)}{p:Str×Addr},p∈acc->p∈cellsFrom n names acc
 | [],_,_,_,h=>h
 | (m,k)::r,n,acc,p,h=>by
  unfold cellsFrom;split
  ·exact hV (List.mem_cons_of_mem _ h)
  ·exact hV h
theorem kc:∀{names:List (Str×NameKind)}{n:Nat}{acc:List (Str×Addr)}{x:Str},(x,.cell)∈names->∃c,(x,c)∈cellsFrom n names acc
 | (m,k)::r,n,acc,x,h=>by
  unfold cellsFrom;rcases List.mem_cons.mp h with e | h
  ·cases e;exact ⟨n,hV List.mem_cons_self⟩
  ·split
   ·exact kc h
   ·exact kc h
theorem cells_inj:∀{names:List (Str×NameKind)}{h:Heap}{acc:List (Str×Addr)}{x y:Str}{c:Addr},(∀p∈acc,p.2<h.objs.size)->(∀x y c,(x,c)∈acc->(y,c)∈acc->x=y) ->
  (x,c)∈cellsFrom h.objs.size names acc->(y,c)∈cellsFrom h.objs.size names acc->x=y
 | [],_,_,_,_,_,_,hi,h1,h2=>hi _ _ _ h1 h2
 | (n,k)::r,h,acc,x,y,c,hl,hi,h1,h2=>by
  unfold cellsFrom at h1 h2;split at h1
  ·rename_i hk;rw [if_pos hk] at h2;rw [<- Heap.size_push h { cls:=.type "cell",data:=.cell none }] at h1 h2;refine cells_inj (h:=h.push _) (λp hp=>?_) (λx y c a b=>?_) h1 h2
   ·rw [Heap.size_push];rcases List.mem_cons.mp hp with rfl | hp
    ·exact Nat.lt_succ_self _
    ·exact Nat.lt_succ_of_lt (hl p hp)
   ·rcases List.mem_cons.mp a with e | a <;> rcases List.mem_cons.mp b with e' | b
    ·cases e;cases e';rfl
    ·cases e;exact absurd (hl _ b) (Nat.lt_irrefl _)
    ·cases e';exact absurd (hl _ a) (Nat.lt_irrefl _)
    ·exact hi _ _ _ a b
  ·rename_i hk;rw [if_neg hk] at h2;exact cells_inj hl hi h1 h2
theorem newEnv_comp {M:Model}{A:Around}{E:Value->Shared->Prop}{s:Shared}{scope:Scope}{globals:Addr}{closure:List (Str×Addr)}{qual:Str}{func:Option Addr}{code:Value}{around:Env}{builtins:Addr}{Q:Env->Shared->Prop}
  (h:Q (newEnv scope s.heap.objs.size globals (cellsFrom (s.heap.objs.size+1) scope.names closure) qual func code (some around) builtins)
   { s with heap:=pushCells (s.heap.push { cls:=.type "dict",data:=.dict #[] }) scope.names }) :
  wpAny M A (newFunctionEnv scope globals closure [] qual func code (some around) builtins) Q E s:=by
 simp only [newFunctionEnv,Option.isSome_some,if_true];refine wpAny_bind (wpAny_alloc ?_);refine wpAny_bind (wpAny_layCells _ (λn k c=>rfl) scope.names closure _ _ ?_);rw [show ({ s with heap:=s.heap.push { cls:=.type "dict",data:=.dict #[] } }:Shared).heap.objs.size=s.heap.objs.size+1 from Heap.size_push ..];rw [List.forIn_nil];exact wpAny_bind (wpAny_pure (wpAny_pure h))
theorem gu {sc:Scope}:∀{names:List (Str×NameKind)}{x:Str}{k:NameKind},
  (names.map λ(n,k)=>if (k==NameKind.free&&sc.kind==.function&&sc.names.lookup n==some .cell) then (n,NameKind.cell) else (n,k)).lookup x=some k ->
  ∃k',names.lookup x=some k'/\(k=k'\/(k'=.free/\k=.cell))
 | [],_,_,h=>by simp at h
 | (n,k₀)::r,x,k,h=>by
  have ih:=@gu sc r x k;have h':List.lookup x ((if (k₀==NameKind.free&&sc.kind==.function&&sc.names.lookup n==some .cell)=true then (n,NameKind.cell) else (n,k₀))::(r.map _))=some k:=h;cases hx:x==n with
  | true =>
   simp only [List.lookup_cons,hx];by_cases hc:(k₀==NameKind.free&&sc.kind==.function&&sc.names.lookup n==some .cell)=true
   ·rw [if_pos hc] at h';simp only [List.lookup_cons,hx] at h';cases h';simp only [Bool.and_eq_true,beq_iff_eq] at hc;exact ⟨k₀,rfl,.inr ⟨hc.1.1,rfl⟩⟩
   ·rw [if_neg hc] at h';simp only [List.lookup_cons,hx] at h';cases h';exact ⟨_,rfl,.inl rfl⟩
  | false =>
   simp only [List.lookup_cons,hx];by_cases hc:(k₀==NameKind.free&&sc.kind==.function&&sc.names.lookup n==some .cell)=true
   ·rw [if_pos hc] at h';simp only [List.lookup_cons,hx] at h';exact ih h'
   ·rw [if_neg hc] at h';simp only [List.lookup_cons,hx] at h';exact ih h'
structure BlkOk (N:List Str)(sc scope:Scope)(own:List (Str×Nat)):Prop where
 kind:scope.kind=.function
 uniq:∀y∈scope.names,scope.names.lookup y.1=some y.2
 ix:∀p∈own,N[p.2]?=some p.1
 free:∀y∈scope.names,y.2=.free->sc.names.lookup y.1=some .cell\/sc.names.lookup y.1=some .free
 own:∀y∈scope.names,y.2=.local\/y.2=.cell->y.1∈own.map (·.1)\/y.1 ∉ N
def wipe (σ:St):List Nat->St
 | []=>σ
 | v::vs=>(wipe σ vs).set v none
theorem wipe_length (σ:St):∀vs:List Nat,(wipe σ vs).length=σ.length
 | []=>rfl
 | v::vs=>by unfold wipe;rw [List.length_set,wipe_length σ vs]
theorem hZ {σ:St}{i:Nat}{x:V}:∀{vs:List Nat},(wipe σ vs)[i]?=some (some x)->σ[i]?=some (some x)/\i ∉ vs
 | [],h=>⟨h,by simp⟩
 | v::vs,h=>by
  unfold wipe at h;by_cases hi:v=i
  ·subst hi;by_cases hv:v<(wipe σ vs).length
   ·rw [List.getElem?_set_self hv] at h;cases h
   ·rw [List.getElem?_eq_none (by simpa using hv)] at h;cases h
  ·rw [List.getElem?_set_ne hi] at h;obtain ⟨h1,h2⟩:=hZ h;exact ⟨h1,by simp only [List.mem_cons,not_or];exact ⟨λe=>hi e.symm,h2⟩⟩
abbrev Cx.blk (X:Cx)(s:Shared)(H:Hp)(scope:Scope)(cenv:Env)(fp:List Addr):Cx:={ X with s₀:=s,H₀:=H,env:=cenv,outer:=X.stack,ex:=fp,fn:=λx=>scope.names.lookup x==some .cell,pn:=[],xe:=λ_ _=>False }
section
variable {X:Cx}{pins:List (Addr×Obj)}{σ:St}{H:Hp}{s:Shared}
theorem kd {scope:Scope}{own:List (Str×Nat)}{fp:List Addr} (I:Inv X pins σ H s) (ok:BlkOk X.N X.env.scope scope own) (hN:X.N.Nodup) (hfp:∀b∈fp,FpOk X pins H b/\b<s.heap.objs.size) :
  Inv (X.blk s H scope (compEnvC scope (cellsFrom (s.heap.objs.size+1) scope.names (aK X.env.cells scope.names [])) s.heap.objs.size X.env) fp) [] (wipe σ (own.map (·.2))) H { s with heap:=pushCells (s.heap.push { cls:=.type "dict",data:=.dict #[] }) scope.names }:=by
 have hfree:∀y∈scope.names,y.2=.free->∃c,X.env.cells.lookup y.1=some c:=λy hy e=>by
  rcases ok.free y hy e with k | k
  ·exact I.ok.has _ (.inl k)
  ·exact I.ok.has _ (.inr k)
 generalize hcenv:compEnvC scope (cellsFrom (s.heap.objs.size+1) scope.names (aK X.env.cells scope.names [])) s.heap.objs.size X.env=cenv;have kp:∀b o,s.heap.get? b=some o->(pushCells (s.heap.push { cls:=.type "dict",data:=.dict #[] }) scope.names).get? b=some o:=λb o e=>pushCells_keeps _ _ _ _ (Heap.get?_push_of_some _ e);have hL:cenv.locals=s.heap.objs.size:=by rw [<- hcenv];rfl
 have hcl:cenv.cells=cellsFrom (s.heap.objs.size+1) scope.names (aK X.env.cells scope.names []):=by rw [<- hcenv];rfl
 have hsc:cenv.scope=relS scope X.env.scope:=by rw [<- hcenv];rfl
 rw [<- Heap.size_push s.heap { cls:=.type "dict",data:=.dict #[] }] at hcl;have cm:∀{y c},(y,c)∈aK X.env.cells scope.names []->X.env.cells.lookup y=some c/\c<s.heap.objs.size:=fun {y c} hm=>by
  rcases cloFrom_mem hm with hm | ⟨h1,rfl⟩
  ·cases hm
  ·obtain ⟨c,hc⟩:=hfree _ h1 rfl;rw [hc];obtain ⟨w,z⟩:=I.cell _ _ hc;exact ⟨rfl,z.lt⟩
 have mem:∀{y c},cenv.cells.lookup y=some c->(X.env.cells.lookup y=some c/\c<s.heap.objs.size)\/(s.heap.objs.size+1<=c/\yj (pushCells (s.heap.push { cls:=.type "dict",data:=.dict #[] }) scope.names) c none):=fun {y c} e=>by
  rw [hcl] at e;rcases cells_mem (PySem.mem_of_lookup e) with hm | ⟨_,h2,h3⟩
  ·exact .inl (cm hm)
  ·rw [Heap.size_push] at h2;exact .inr ⟨h2,h3⟩
 have look:∀{y},scope.names.lookup y=some .free->∃c,cenv.cells.lookup y=some c/\X.env.cells.lookup y=some c:=fun {y} hl=>by
  have hy:(y,NameKind.free)∈scope.names:=PySem.mem_of_lookup hl;obtain ⟨c',e'⟩:=mem_lookup (hV (names:=scope.names) (n:=(s.heap.push { cls:=.type "dict",data:=.dict #[] }).objs.size) (cloFrom_has (cells:=X.env.cells) (acc:=[]) hy));rw [<- hcl] at e';refine ⟨c',e',?_⟩;rw [hcl] at e';rcases cells_mem (PySem.mem_of_lookup e') with hm | ⟨h1,_,_⟩
  ·exact (cm hm).1
  ·have:=ok.uniq _ h1;rw [hl] at this;cases this
 have okB:(X.blk s H scope cenv fp).Ok:=by
  refine ⟨I.ok.mod,by show cenv.scope.kind=_;rw [hsc];exact ok.kind,by show cenv.globals=_;rw [<- hcenv];exact I.ok.glob,by show cenv.builtins=_;rw [<- hcenv];exact I.ok.blt,by show s.heap.objs.size<=cenv.locals;rw [hL];exact Nat.le_refl _,
   λy z c e1 e2=>?_,λy hy=>?_,λy c z e=>?_,I.ok.hd,I.ok.frames,.inl rfl,λb hb=>⟨?_,λy c e z=>?_⟩,I.bs,Nat.le_trans I.ok.bsz I.sz,λb o e hb=>?_,λb hb z=>?_,I.stack,I.stkFree⟩
  ·have e1:cenv.cells.lookup y=some c:=e1;have e2:cenv.cells.lookup z=some c:=e2;rw [hcl] at e1 e2;refine cells_inj (λp hp=>?_) (λy z c a b=>I.ok.inj y z c (cm a).1 (cm b).1) (PySem.mem_of_lookup e1) (PySem.mem_of_lookup e2);rw [Heap.size_push];exact Nat.lt_succ_of_lt (cm (y:=p.1) (c:=p.2) hp).2
  ·show ∃c,cenv.cells.lookup y=some c;have key:∀k,cenv.kindOf y=some k->(k=.cell\/k=.free)->∃c,cenv.cells.lookup y=some c:=λk hk hk'=>by
    unfold Env.kindOf at hk;rw [hsc] at hk;obtain ⟨k',e,r⟩:=gu hk;have:k'=.cell\/k'=.free:=by
     rcases r with rfl | ⟨rfl,_⟩
     ·exact hk'
     ·exact .inr rfl
    rcases this with rfl | rfl
    ·obtain ⟨c,hm⟩:=kc (n:=(s.heap.push { cls:=.type "dict",data:=.dict #[] }).objs.size) (acc:=aK X.env.cells scope.names []) (PySem.mem_of_lookup e);obtain ⟨c',e'⟩:=mem_lookup hm;exact ⟨c',by rw [hcl];exact e'⟩
    ·obtain ⟨c,h1,_⟩:=look e;exact ⟨c,h1⟩
   rcases hy with hy | hy
   ·exact key _ hy (.inl rfl)
   ·exact key _ hy (.inr rfl)
  ·have z:(scope.names.lookup y==some NameKind.cell)=true:=z;have z:scope.names.lookup y=some .cell:=by simpa using z
   have e:cenv.cells.lookup y=some c:=e;rw [hcl] at e;rcases cells_mem (PySem.mem_of_lookup e) with hm | ⟨_,h2,_⟩
   ·rcases cloFrom_mem hm with hm | ⟨h1,_⟩
    ·cases hm
    ·have q:=ok.uniq _ h1;rw [z] at q;cases q
   ·rw [Heap.size_push] at h2;exact Nat.le_of_succ_le h2
  ·show b≠cenv.locals;rw [hL];exact Nat.ne_of_lt (hfp b hb).2
  ·have e:cenv.cells.lookup y=some c:=e;rcases mem e with ⟨h1,_⟩ | ⟨h1,_⟩
   ·exact (hfp b hb).1.2.2.2.2.1 y c h1 z
   ·have h2:s.heap.objs.size+1<=b:=by rw [<- z];exact h1
    exact absurd (Nat.lt_of_lt_of_le (hfp b hb).2 (Nat.le_of_succ_le h2)) (Nat.lt_irrefl _)
  ·rcases (hfp b hb).1.2.2.2.1 with z | z
   ·exact I.ok.noex b o e z
   ·exact absurd (Nat.lt_of_lt_of_le (Heap.lt_size e) (Nat.le_trans I.ok.bsz z)) (Nat.lt_irrefl _)
  ·rcases List.mem_cons.mp (I.stkSub b z) with z | z
   ·exact (hfp b hb).1.2.1 z
   ·exact (hfp b hb).1.2.2.1 z
 refine ⟨okB,rfl,I.bare,Un.kept kp,⟨λ_=>none,?_,λi y av e1 e2 e3=>?_⟩,λy c e=>?_,?_,λy c e=>?_,λp hp=>?_,I.hok.kept kp,by rw [wipe_length];exact I.len⟩
 ·show Heap.Ns _ cenv.locals _;rw [hL];exact Heap.Ns.keeps (Heap.Ns.new ..) λb o e=>pushCells_keeps _ _ _ _ e
 ·obtain ⟨e2,hne⟩:=hZ e2;have hfr:scope.names.lookup y=some .free/\(cenv.kindOf y=some .cell\/cenv.kindOf y=some .free):=by
   have key:∀k,cenv.scope.names.lookup y=some k->k=.local\/k=.cell\/k=.free->scope.names.lookup y=some .free/\(cenv.kindOf y=some .cell\/cenv.kindOf y=some .free):=λk hk hk'=>by
    have hk0:=hk;rw [hsc] at hk;obtain ⟨k',e,r⟩:=gu hk;have no:¬(k'=.local\/k'=.cell):=λhh=>by
     rcases ok.own _ (PySem.mem_of_lookup e) hh with e' | e'
     ·obtain ⟨p,hp,hpy⟩:=List.mem_map.mp e';have e3:=ok.ix p hp;have:p.1=y:=hpy;rw [this] at e3;exact hne (List.mem_map.mpr ⟨p,hp,nodup_ix hN e3 e1⟩)
     ·exact e' (List.mem_of_getElem? e1)
    rcases r with rfl | ⟨rfl,rfl⟩
    ·rcases hk' with rfl | rfl | rfl
     ·exact absurd (.inl rfl) no
     ·exact absurd (.inr rfl) no
     ·exact ⟨e,.inr hk0⟩
    ·exact ⟨e,.inl hk0⟩
   have e3:Vis cenv.scope y:=e3;rcases e3 with e3 | e3 | e3
   ·exact key _ e3 (.inl rfl)
   ·exact key _ e3 (.inr (.inl rfl))
   ·exact key _ e3 (.inr (.inr rfl))
  obtain ⟨m,hn,hl⟩:=I.loc;have hvis:Vis X.env.scope y:=(ok.free _ (PySem.mem_of_lookup hfr.1) rfl).elim (λk=>.inr (.inl k)) (λk=>.inr (.inr k));obtain ⟨w,r,q⟩:=hl i y av e1 e2 hvis;refine ⟨w,r,.inr ⟨hfr.2,?_⟩⟩;obtain ⟨c,h1,h2⟩:=look hfr.1;rcases q with ⟨k,_⟩ | ⟨_,c',e',z⟩
  ·have k:X.env.scope.names.lookup y=some .local:=k;rcases ok.free _ (PySem.mem_of_lookup hfr.1) rfl with k' | k' <;> rw [show X.env.scope.names.lookup y=_ from k'] at k <;> cases k
  ·rw [h2] at e';cases e';exact ⟨c,h1,z.keeps kp⟩
 ·have e:cenv.cells.lookup y=some c:=e;rcases mem e with ⟨h1,_⟩ | ⟨_,z⟩
  ·obtain ⟨w,z⟩:=I.cell y c h1;exact ⟨w,z.keeps kp⟩
  ·exact ⟨_,z⟩
 ·show H cenv.locals=none;rw [hL];exact I.hok.fresh (Nat.le_refl _)
 ·have e:cenv.cells.lookup y=some c:=e;rcases mem e with ⟨h1,_⟩ | ⟨h1,_⟩
  ·exact I.freeC y c h1
  ·exact I.hok.fresh (Nat.le_of_succ_le h1)
 ·exact absurd (show p∈([]:List (Addr×Obj))++[] from hp) (by simp)
theorem yk {E:Value->Shared->Prop}{D:Addr}{xs:List V}{y:V}{v:Value}{Q:Value->Shared->Prop} (I:Inv X pins σ H s) (hD:H D=some (.lst xs)) (hz:xs.length<sizeLine) (r:RelV y v)
  (h:∀s',Inv X pins σ (upd H D (.lst (xs++[y]))) s'->Q .none s'):wpAny (model X.prog X.w) X.A (call (.builtin "list.append") [.ref D,v]) Q E s:=by
 obtain ⟨hz',its,n,ri,e⟩:=I.hok D _ hD;have hl:=ri.length;refine append_at (hsz:=by rw [List.size_toArray];omega) e λh' sb ho'=>?_;refine h { s with heap:=h' } (I.write (t':=s.toks) (by rw [hD];trivial) (.inl rfl) (λb u hb q=>(sb.2 b hb).trans q) ⟨_,ho'⟩ ⟨by rw [List.length_append];exact hz,its++[v],n+1,ri.append (.cons r .nil),?_⟩);rw [ho'];simp
def PTs (X:Cx)(ifs:List Expr)(t:TT):Prop :=
 ∀(pins:List (Addr×Obj)) (s:Shared) (σ:St) (H:Hp) (Q:Bool->Hp->Prop),Inv X pins σ H s->t σ H Q ->
  wpAny (model X.prog X.w) X.A (forIn ifs true λc r=>if r=true then do let ok <- isTrue c X.env (eval c X.env);pure (ForInStep.yield ok) else pure (ForInStep.yield r)) (TP X pins σ Q) X.xe s
def tYes:TT:=λ_ H Q=>Q true H
theorem ke:PTs X [] tYes:=λ_ _ _ H _ I h=>wpAny_tests_nil ⟨H,I,h⟩
end
theorem thnF {α:Type}{t:Sem α}{Q Q':α->Shared->Prop}{M:Model}{A:Around}{E:Value->Shared->Prop}{s:Shared} (h:wpAny M A t Q (λ_ _=>False) s) (hQ:∀a s,Q a s->Q' a s):wpAny M A t Q' E s:=wpAny_mono h hQ λ_ _ z=>False.elim z
theorem jr {prog:Program}{w:World}{A:Around}{R:Result->Shared->Prop}{s:Shared}{elt target iter:Expr}{ifs:List Expr}{scope:Scope}{pos:Pos}{it acc:Value}{env:Env} (I:Nat->Shared->Prop)
  (turn:∀n s,I n s->wpAny (model prog w) A (pyNext it) (λr s₁=>match r with
   | none=>R (.ok .next) s₁
   | some v=>wpAny (model prog w) A (letOwnedTupleGo target it v) (λ_ s₁'=>wpAny (model prog w) A (assign target env v) (λ_ s₂ =>
     wpAny (model prog w) A (forIn ifs true λc r=>if r=true then do let ok <- isTrue c env (eval c env);pure (ForInStep.yield ok) else pure (ForInStep.yield r)) (λok s₃ =>
      if ok=true then wpAny (model prog w) A (eval elt env) (λx s₄ =>
       wpAny (model prog w) A (call (.builtin "list.append") [acc,x]) (λ_ s₅=>∃m,m<n/\I m s₅) (notedBy (model prog w) A env λe s'=>R (.error e) s') s₄) (notedBy (model prog w) A env λe s'=>R (.error e) s') s₃
      else ∃m,m<n/\I m s₃) (notedBy (model prog w) A env λe s'=>R (.error e) s') s₂) (notedBy (model prog w) A env λe s'=>R (.error e) s') s₁') (notedBy (model prog w) A env λe s'=>R (.error e) s') s₁) (notedBy (model prog w) A env λe s'=>R (.error e) s') s)
  (n:Nat) (h:I n s) :
  codeAny (model prog w) A (.compLoop (.ListComp elt [⟨target,iter,ifs,0⟩] scope pos) 0 it acc env) R s:=by
 refine codeAny_loop rfl I (λn s hI=>?_) n h;show wpAny _ A ((compTurn (.ListComp elt [⟨target,iter,ifs,0⟩] scope pos) 0 it acc env).onRaise (λx=>do noteFrame x env;theTreesLotGoes x)) _ _ s;refine wpAny_noted ?_;rw [compTurn_list];refine wpAny_bind (wpAny_standAt (wpAny_bind (wpAny_mono (turn n s hI) (λr s₁ h₁=>?_) λ_ _ h'=>h')));cases r with
 | none=>exact wpAny_pure h₁
 | some v =>
  refine wpAny_bind (wpAny_mono h₁ (λ_ s₁' h₁'=>?_) λ_ _ h'=>h');refine wpAny_bind (wpAny_mono h₁' (λ_ s₂ h₂=>wpAny_bind (wpAny_mono h₂ (λok s₃ h₃=>?_) λ_ _ h'=>h')) λ_ _ h'=>h');cases ok with
  | false=>exact wpAny_pure ⟨rfl,h₃⟩
  | true =>
   exact wpAny_bind (wpAny_bind (wpAny_mono h₃ (λx s₄ h₄=>wpAny_bind (wpAny_mono h₄ (λ_ s₅ h₅=>wpAny_pure (wpAny_pure ⟨rfl,h₅⟩)) λ_ _ h'=>h')) λ_ _ h'=>h'))
section
variable {X:Cx}
def lcW (J:It)(g:TG)(tt:TT)(te:TE)(vs:List Nat)(σ:St)(D:Addr)(Qd:Hp->Prop)(H1:Hp):Prop:=∃W:Nat->Nat->Hp->Prop,(∃m,W 0 m (upd H1 D (.lst [])))/\∀i m H,W i m H ->
 (J.stop i H/\Qd H)\/(J.go i H/\∃Nx:Hp->Prop,(∀H',Nx H'->∃m',m'<m/\W (i+1) m' H')/\∀x H',J.yld i H x H'->g x (wipe σ vs) H' λσ2 H2=>wipe σ2 vs=wipe σ vs/\tt σ2 H2 λb H3 =>
  if b=true then te σ2 H3 λy H4=>∃acc,H4 D=some (.lst acc)/\acc.length<sizeLine/\Nx (upd H4 D (.lst (acc++[y]))) else Nx H3)
def tLc (wi:TI)(g:TG)(tt:TT)(te:TE)(vs:List Nat):TE:=λσ H Q=>wi σ H λJ H1=>∀D,H1 D=none->lcW J g tt te vs σ D (Q (.ref D)) H1
theorem lc_core {pins:List (Addr×Obj)}{s:Shared}{σ:St}{H:Hp}{Q:VK}{elt tg iter:Expr}{ifs:List Expr}{scope:Scope}{own:List (Str×Nat)}{pos pos':Pos}{wi:TI}{g:TG}{tt:TT}{te:TE}{use:Option (Value->Sem Unit)}{Qf:Value->Shared->Prop}
  (hc:X.calm=true) (hN:X.N.Nodup) (I:Inv X pins σ H s) (hi:PI X tg iter wi) (ok:BlkOk X.N X.env.scope scope own)
  (hg:∀(s:Shared) (H:Hp) (C:Addr) (cl:List (Str×Addr)) (fp:List Addr),PG (X.blk s H scope (compEnvC scope cl C X.env) fp) tg g) (ht:∀(s:Shared) (H:Hp) (C:Addr) (cl:List (Str×Addr)) (fp:List Addr),PTs (X.blk s H scope (compEnvC scope cl C X.env) fp) ifs tt)
  (he:∀(s:Shared) (H:Hp) (C:Addr) (cl:List (Str×Addr)) (fp:List Addr),PE (X.blk s H scope (compEnvC scope cl C X.env) fp) elt te) (hs:∀x,foldedSetIterable iter X.env x=pure x)
  (h:tLc wi g tt te (own.map (·.2)) σ H Q)
  (hRR:∀D C s' m H',Inv X pins σ H' s'->Q (.ref D) H'->s'.heap.Ns C m->FpOk X pins H' C->compPost (model X.prog X.w) X.A X.xe use Qf (.ref D) C (.ok .next) s') :
  wpAny (model X.prog X.w) X.A (comprehension (.ListComp elt [⟨tg,iter,ifs,0⟩] scope pos) scope X.env pos' (newList []) false (eval iter X.env) use) Qf X.xe s:=by
 have hfree:∀y∈scope.names,y.2=.free->∃c,X.env.cells.lookup y.1=some c:=λy hy e=>by
  rcases ok.free y hy e with k | k
  ·exact I.ok.has _ (.inl k)
  ·exact I.ok.has _ (.inr k)
 refine wpAny_comprehension_free (use:=use) rfl hs (l6 hfree) ok.kind (λy hy e=>by rw [ok.uniq y hy,e])
  (thn (hi pins s σ H _ I h) λxv s1 hx=>thn hx λitv s2 h2=>?_)
 obtain ⟨it,fp,tn,J,H2,e,I2,T,st2,f2,q⟩:=h2;subst e;refine wpAny_newObj_type (newEnv_comp ?_) (by show 0<=sizeLine;decide);generalize hD:s2.heap.objs.size=D;have hDn:H2 D=none:=I2.hok.fresh (Nat.le_of_eq hD);obtain ⟨W,⟨m0,w0⟩,turn⟩:=q D hDn;generalize hs3:({ s2 with heap:=s2.heap.push { cls:=.type "list",data:=.seq ([]:List Value).toArray } }:Shared)=s3;have I3:Inv X pins σ (upd H2 D (.lst [])) s3:=by
  rw [<- hs3];refine I2.laid (t':=s2.toks) (λb o e=>Heap.get?_push_of_some _ e) (Nat.le_of_eq hD) ⟨Nat.zero_le _,[],0,.nil,?_⟩;rw [<- hD];exact Heap.get?_push_size _ rfl
 have h3:s3.heap=s2.heap.push { cls:=.type "list",data:=.seq ([]:List Value).toArray }:=by rw [<- hs3]
 have sz:∀b∈fp,b<s2.heap.objs.size:=λb hb=>by
  obtain ⟨o,e,_⟩:=T.obj _ _ st2 b hb;exact Heap.lt_size e
 have f3:∀b∈fp,FpOk X pins (upd H2 D (.lst [])) b/\b<s3.heap.objs.size:=λb hb=>by
  have hlt:=sz b hb;refine ⟨⟨?_,(f2 b hb).2⟩,by rw [h3,Heap.size_push];exact Nat.lt_succ_of_lt hlt⟩;rw [upd_ne (by rw [<- hD];exact Nat.ne_of_lt hlt)];exact (f2 b hb).1
 have st3:tn 0 s3.heap:=T.keep _ _ _ st2 λb _ o e=>by rw [h3];exact Heap.get?_push_of_some _ e
 have I4:=kd I3 ok hN f3;have pg:=hg s3 (upd H2 D (.lst [])) s3.heap.objs.size (cellsFrom (s3.heap.objs.size+1) scope.names (aK X.env.cells scope.names [])) fp;have pt:=ht s3 (upd H2 D (.lst [])) s3.heap.objs.size (cellsFrom (s3.heap.objs.size+1) scope.names (aK X.env.cells scope.names [])) fp;have pe:=he s3 (upd H2 D (.lst [])) s3.heap.objs.size (cellsFrom (s3.heap.objs.size+1) scope.names (aK X.env.cells scope.names [])) fp;show codeAny _ _ (.compStart (.ListComp elt [⟨tg,iter,ifs,0⟩] scope pos) 0 (.ref it) (.ref D) (compEnvC scope (cellsFrom (s3.heap.objs.size+1) scope.names (aK X.env.cells scope.names [])) s3.heap.objs.size X.env)) (compPost (model X.prog X.w) X.A X.xe use Qf (.ref D) s3.heap.objs.size) { s3 with heap:=pushCells (s3.heap.push { cls:=.type "dict",data:=.dict #[] }) scope.names };have nfp:∀b∈fp,(upd H2 D (.lst [])) b=none:=λb hb=>(f3 b hb).1.1;generalize hce:compEnvC scope (cellsFrom (s3.heap.objs.size+1) scope.names (aK X.env.cells scope.names [])) s3.heap.objs.size X.env=ce at I4 pg pt pe ⊢;have cL:ce.locals=s3.heap.objs.size:=by subst hce;rfl
 generalize hH3:upd H2 D (.lst [])=H3 at I3 I4 pg pt pe w0 nfp f3;generalize hs4:({ s3 with heap:=pushCells (s3.heap.push { cls:=.type "dict",data:=.dict #[] }) scope.names }:Shared)=s4 at I4 ⊢;have st4:tn 0 s4.heap:=T.keep _ _ _ st3 λb _ o e=>by rw [<- hs4];exact pushCells_keeps _ _ _ _ (Heap.get?_push_of_some _ e)
 have stat:∀{σ':St}{H':Hp}{s':Shared},Inv (X.blk s3 H3 scope ce fp) [] σ' H' s'->(∀b∈fp,H' b=none)->∀b∈fp,FpOk (X.blk s3 H3 scope ce fp) [] H' b:=fun {σ' H' s'} I' hn b hb =>
  ⟨hn b hb,(I'.ok.exf b hb).1,I'.ok.exfs b hb,.inl hb,λx c e=>(I'.ok.exf b hb).2 x c e,λp hp=>absurd (show p∈([]:List (Addr×Obj))++[] from hp) (by simp)⟩
 have loop:codeAny (model X.prog X.w) X.A (.compLoop (.ListComp elt [⟨tg,iter,ifs,0⟩] scope pos) 0 (.ref it) (.ref D) ce) (compPost (model X.prog X.w) X.A X.xe use Qf (.ref D) s3.heap.objs.size) s4:=by
  refine jr (λn s'=>∃i H',Inv (X.blk s3 H3 scope ce fp) [] (wipe σ (own.map (·.2))) H' s'/\tn i s'.heap/\(∀b∈fp,H' b=none)/\W i n H') ?_ m0 ⟨0,H3,I4,st4,nfp,w0⟩;rintro n s5 ⟨i,H5,I5,st5,n5,w5⟩;rcases turn i n H5 w5 with ⟨stop,qq⟩ | ⟨go,Nx,hNx,step⟩
  ·have td:=T.done (X.blk s3 H3 scope ce fp) rfl rfl rfl hc i [] s5 _ H5 (λ_ _=>False) I5 (stat I5 n5) st5 stop;refine thnF td λr s6 hz=>?_;obtain ⟨hr,I6⟩:=hz;subst hr;have I7:Inv X pins σ H5 s6:=I3.call' (ch:=fp) I6.os I6.base I6.hok I6.bare λb hb=>⟨(f3 b hb).1.2.2.2.1,(f3 b hb).1.2.1,(f3 b hb).1.2.2.2.2.1,(f3 b hb).1.2.2.2.2.2⟩
   have nC:H5 s3.heap.objs.size=none:=by
    have z:H5 ce.locals=none:=I6.free;rw [cL] at z;exact z
   obtain ⟨m,hn,_⟩:=I6.loc;have hn:s6.heap.Ns ce.locals m:=hn;rw [cL] at hn;exact hRR D s3.heap.objs.size s6 m H5 I7 qq hn (I3.fpOk (Nat.le_refl _) nC)
  ·have ti:=T.item (X.blk s3 H3 scope ce fp) rfl rfl rfl hc i [] s5 _ H5 (λ_ _=>False) I5 (stat I5 n5) st5 go;refine thnF ti λr s6 hz=>?_;obtain ⟨u,hr,h6⟩:=hz;subst hr;refine thnF h6 λ_ s7 hz=>?_;obtain ⟨x,H7,I7,r7,y7,st7,n7⟩:=hz;have I7':=I7.pinned (stat I7 n7) (T.obj _ _ st7);refine thnF (pg _ s7 _ H7 x u _ I7' r7 (step x H7 y7)) λ_ s8 hz=>?_;obtain ⟨σ8,H8,I8,hw8,q8⟩:=hz;refine thnF (pt _ s8 σ8 H8 _ I8 q8) λb s9 hz=>?_;obtain ⟨H9,I9,q9⟩:=hz;have fin:∀{s':Shared}{H':Hp},Inv (X.blk s3 H3 scope ce fp) ([]++lW fp s7.heap) σ8 H' s'->Nx H'->∃m,m<n/\∃i H',Inv (X.blk s3 H3 scope ce fp) [] (wipe σ (own.map (·.2))) H' s'/\tn i s'.heap/\(∀b∈fp,H' b=none)/\W i m H':=fun {s' H'} I' nx=>by
    obtain ⟨m',hm,w'⟩:=hNx H' nx;have pin':∀b∈fp,∀o,s7.heap.get? b=some o->s'.heap.get? b=some o/\H' b=none:=λb hb o e =>
     let z:=I'.pin (b,o) (List.mem_append_right _ (List.mem_append_right _ (fH hb e)))
     ⟨z.1,z.2.1⟩
    have hl:(wipe σ (own.map (·.2))).length=σ8.length:=by rw [<- hw8,wipe_length]
    refine ⟨m',hm,i+1,H',(I'.unpinned (pins:=[])).weak hl (λj v e=>?_),T.keep _ _ _ st7 λb hb o e=>(pin' b hb o e).1,λb hb=>?_,w'⟩
    ·rw [<- hw8] at e;exact (hZ e).1
    ·obtain ⟨o,e,_⟩:=T.obj _ _ st7 b hb;exact (pin' b hb o e).2
   cases b with
   | false =>
    simp only [Bool.false_eq_true,if_false] at q9 ⊢;exact fin I9 q9
   | true =>
    simp only [if_true] at q9 ⊢;refine thnF (pe _ s9 σ8 H9 _ I9 q9) λz s10 hz=>?_;obtain ⟨yv,H10,I10,r10,acc,hD10,hz10,nx⟩:=hz;exact yk (X:=X.blk s3 H3 scope ce fp) I10 hD10 hz10 r10 λs11 I11=>fin I11 nx
 exact codeAny_compStart_list loop (T.self X.A 0 _ _ _ st4 loop)
theorem Ac {elt tg iter:Expr}{ifs:List Expr}{scope:Scope}{own:List (Str×Nat)}{pos:Pos}{wi:TI}{g:TG}{tt:TT}{te:TE} (hc:X.calm=true) (hN:X.N.Nodup) (hi:PI X tg iter wi) (ok:BlkOk X.N X.env.scope scope own)
  (hg:∀(s:Shared) (H:Hp) (C:Addr) (cl:List (Str×Addr)) (fp:List Addr),PG (X.blk s H scope (compEnvC scope cl C X.env) fp) tg g) (ht:∀(s:Shared) (H:Hp) (C:Addr) (cl:List (Str×Addr)) (fp:List Addr),PTs (X.blk s H scope (compEnvC scope cl C X.env) fp) ifs tt)
  (he:∀(s:Shared) (H:Hp) (C:Addr) (cl:List (Str×Addr)) (fp:List Addr),PE (X.blk s H scope (compEnvC scope cl C X.env) fp) elt te) (hs:∀x,foldedSetIterable iter X.env x=pure x:=by intro _;rfl) :
  PE X (.ListComp elt [⟨tg,iter,ifs,0⟩] scope pos) (tLc wi g tt te (own.map (·.2))):=by
 intro pins s σ H Q I h;rw [eval_ListComp];refine lc_core hc hN I hi ok hg ht he hs h λD C s' m H' I' q hn f=>⟨m,hn,λh'' sb=>?_⟩
 obtain ⟨f0,f1,f2,f3,f4,f5⟩:=f;exact ⟨.ref D,H',I'.turned (t':=s'.toks) (λb o hb e=>(sb.2 b hb).trans e) f0 f1 f3 f4 f5,rfl,q⟩
theorem wL {i:Nat}{y:Str}{py:Pos}{elt tg iter:Expr}{ifs:List Expr}{scope:Scope}{own:List (Str×Nat)}{pos spos:Pos}{wi:TI}{g:TG}{tt:TT}{te:TE} (hc:X.calm=true) (hN:X.N.Nodup) (hy:X.N[i]?=some y) (hyl:X.env.scope.names.lookup y=some .local)
  (hsw:swapsWith (.ListComp elt [⟨tg,iter,ifs,0⟩] scope pos) (some (.Name y py)) spos.line X.env=pure true) (hi:PI X tg iter wi) (ok:BlkOk X.N X.env.scope scope own)
  (hg:∀(s:Shared) (H:Hp) (C:Addr) (cl:List (Str×Addr)) (fp:List Addr),PG (X.blk s H scope (compEnvC scope cl C X.env) fp) tg g) (ht:∀(s:Shared) (H:Hp) (C:Addr) (cl:List (Str×Addr)) (fp:List Addr),PTs (X.blk s H scope (compEnvC scope cl C X.env) fp) ifs tt)
  (he:∀(s:Shared) (H:Hp) (C:Addr) (cl:List (Str×Addr)) (fp:List Addr),PE (X.blk s H scope (compEnvC scope cl C X.env) fp) elt te) (hs:∀x,foldedSetIterable iter X.env x=pure x:=by intro _;rfl) :
  PS X (.Assign [.Name y py] (.ListComp elt [⟨tg,iter,ifs,0⟩] scope pos) spos) (tAsg (tLc wi g tt te (own.map (·.2))) (aA i)):=by
 intro pins s σ H D I h;rw [exec_Assign_Name_used _ _ _ _ hsw];refine wpAny_bind (wpAny_standAt (wpAny_bind ?_));show wpAny _ X.A (do let _ <- comprehension (.ListComp elt [⟨tg,iter,ifs,0⟩] scope pos) scope X.env (firstIterPos [⟨tg,iter,ifs,0⟩] pos) (newList []) false (eval iter X.env) (some (assign (.Name y py) X.env))) _ _ s;have h:tLc wi g tt te (own.map (·.2)) σ H (λx H1=>aA i x σ H1 D.nx):=h;refine wpAny_bind (thn (lc_core (Qf:=λ_ s'=>SP X pins D .next s') hc hN I hi ok hg ht he hs h λL C s' m H' I' q hn f=>?_) λ_ s' hq=>wpAny_pure (wpAny_pure hq));show wpAny _ _ (assign (.Name y py) X.env (.ref L)) _ _ _;refine wpAny_assign_Name (store_ok2 (v:=V.ref L) I' hN hy (.inl hyl) rfl (λs2 I2 hz=>?_) (.inr hyl));obtain ⟨a,sb,ha⟩:=hz;obtain ⟨f0,f1,f2,f3,f4,f5⟩:=f;have haC:C≠a:=by
  rcases ha with z | z
  ·rw [z];exact f1
  ·exact λe=>f4 y a z e.symm
 refine ⟨m,hn.sameBut sb haC,λh3 sb3=>?_⟩;exact ⟨_,H',I2.turned (t':=s2.toks) (λb o hb e=>(sb3.2 b hb).trans e) f0 f1 f3 f4 f5,q⟩
theorem u6 {elt:Expr}{gs:List Comprehension}{scope:Scope}{pos py:Pos}{y:Str}{l:Nat}{env:Env} (hk:env.scope.kind=.function) (hy:env.scope.names.lookup y=some .local) (hl:(py.line==pos.line)=true)
  (ha:(scope.names.any λ(n,k)=>n==y&&(k==.local||k==.cell))=false):swapsWith (.ListComp elt gs scope pos) (some (.Name y py)) l env=pure true:=by
 have ky:env.kindOf y=some .local:=hy;have hb:env.blockKind=.function:=by unfold Env.blockKind;rw [hk];rfl
 unfold swapsWith;simp only [hb,ky,ha,Expr.pos,hl];rfl
end
theorem mG {lo:Int}{n:Nat}{g:TG}{tt:TT}{te:TE}{vs:List Nat}{σ:St}{H1:Hp}{D:Addr}{Qd:Hp->Prop} (Pv:Nat->Hp->Prop) (h0:Pv 0 (upd H1 D (.lst [])))
  (hs:∀i H,i<n->Pv i H->g (.int (lo+i)) (wipe σ vs) H λσ2 H2=>wipe σ2 vs=wipe σ vs/\tt σ2 H2 λb H3 =>
   if b=true then te σ2 H3 λy H4=>∃acc,H4 D=some (.lst acc)/\acc.length<sizeLine/\Pv (i+1) (upd H4 D (.lst (acc++[y]))) else Pv (i+1) H3) (hd:∀H,Pv n H->Qd H) :
  lcW (Itr lo n) g tt te vs σ D Qd H1:=by
 refine ⟨λi m H=>m=n-i/\i<=n/\Pv i H,⟨n,by simp,Nat.zero_le _,h0⟩,?_⟩;rintro i m H ⟨rfl,hi,p⟩;by_cases hlt:i<n
 ·refine .inr ⟨hlt,Pv (i+1),λH' p'=>⟨n-(i+1),by omega,rfl,hlt,p'⟩,λx H' y=>?_⟩;obtain ⟨e,y⟩:=y;subst e y;exact hs i _ hlt p
 ·have e:i=n:=by omega
  subst e;exact .inl ⟨Nat.le_refl _,hd H p⟩
theorem mH {K:W.Frag}{a:Addr}{xs:List V}{g:TG}{tt:TT}{te:TE}{vs:List Nat}{σ:St}{H1:Hp}{D:Addr}{Qd:Hp->Prop} (Pv:Nat->Hp->Prop) (h0:Pv 0 (upd H1 D (.lst []))) (hl:∀i H,i<=xs.length->Pv i H->SqL K H a xs)
  (hs:∀i x H,xs[i]?=some x->Pv i H->g x (wipe σ vs) H λσ2 H2=>wipe σ2 vs=wipe σ vs/\tt σ2 H2 λb H3 =>
   if b=true then te σ2 H3 λy H4=>∃acc,H4 D=some (.lst acc)/\acc.length<sizeLine/\Pv (i+1) (upd H4 D (.lst (acc++[y]))) else Pv (i+1) H3) (hd:∀H,Pv xs.length H->Qd H) :
  lcW (Itl K a) g tt te vs σ D Qd H1:=by
 refine ⟨λi m H=>m=xs.length-i/\i<=xs.length/\Pv i H,⟨xs.length,by simp,Nat.zero_le _,h0⟩,?_⟩;rintro i m H ⟨rfl,hi,p⟩;have q:=hl i H hi p;by_cases hlt:i<xs.length
 ·refine .inr ⟨⟨xs,xs[i],q,by simp [hlt]⟩,Pv (i+1),λH' p'=>⟨xs.length-(i+1),by omega,rfl,hlt,p'⟩,λx H' y=>?_⟩;obtain ⟨e,y⟩:=y;subst e;exact hs i x _ (y xs q) p
 ·have e:i=xs.length:=by omega
  subst e;exact .inl ⟨⟨xs,q,Nat.le_refl _⟩,hd H p⟩
def blkC (N:List Str)(sc scope:Scope)(own:List (Str×Nat)):Bool :=
 (match scope.kind with | .function=>true | _=>false)&&(scope.names.all λy=>decide (scope.names.lookup y.1=some y.2))&&(own.all λp=>decide (N[p.2]?=some p.1)) &&
  (scope.names.all λy=>match y.2 with
   | .free=>(match sc.names.lookup y.1 with | some .cell=>true | some .free=>true | _=>false)
   | .local=>decide (y.1∈own.map (·.1))||decide (y.1 ∉ N)
   | .cell=>decide (y.1∈own.map (·.1))||decide (y.1 ∉ N)
   | _=>true)
theorem h7 {N:List Str}{sc scope:Scope}{own:List (Str×Nat)} (h:blkC N sc scope own=true):BlkOk N sc scope own:=by
 unfold blkC at h;simp only [Bool.and_eq_true,List.all_eq_true,decide_eq_true_eq] at h;obtain ⟨⟨⟨h1,h2⟩,h3⟩,h4⟩:=h;refine ⟨?_,h2,h3,λy hy e=>?_,λy hy e=>?_⟩
 ·split at h1
  ·assumption
  ·cases h1
 ·have q:=h4 y hy;simp only [e] at q;split at q <;> first | exact .inl (by assumption) | exact .inr (by assumption) | cases q
 ·have q:=h4 y hy;rcases e with e | e <;> (simp only [e,Bool.or_eq_true,decide_eq_true_eq] at q;exact q)
end L2
namespace L2
open PySem PySem.Spec PyProof.Rows
section
variable {prog:Program}{w:World}{A:Around}{R:Result->Shared->Prop}{s:Shared}{elt t0 i0 t1 i1:Expr}{ifs0 ifs1:List Expr}{scope:Scope}{pos:Pos}{it acc:Value}{env:Env}
end
section
variable {X:Cx}
end
end L2
namespace L2
open PySem PySem.Spec PyProof.Rows
section
variable {κ:Type}[DecidableEq κ]
theorem KV.length {kvs:List (κ×V)}{vs:List (κ×Value)} (r:KV kvs vs):kvs.length=vs.length:=Paired.length r
end
section
variable {P:Program}{w:World}{H:Hp}{h:Heap}{a:Addr}
end
section
variable {X:Cx}{pins:List (Addr×Obj)}{σ:St}{H:Hp}{s:Shared}{a:Addr}{y v:V}{u r:Value}{o:Option V}{A:Around}{E:Value->Shared->Prop}
end
section
variable {X:Cx}{pins:List (Addr×Obj)}{σ:St}{H:Hp}{s:Shared}{a:Addr}{kvs:List (Key×V)}{k:Key}{u:Value}{A:Around}{E:Value->Shared->Prop}
end
section
variable {X:Cx}{o i e value:Expr}{pos pos' tpos:Pos}{td ty tv:TE}
end
section
variable {X:Cx}{pos:Pos}
end
structure M1 (X:Cx)(o:Expr)(m:Str)(apos:Pos)(e:Expr)(cpos:Pos):Prop where
 base:attributeBase o m X.env (eval o X.env)=eval o X.env
 few:((backTo cpos (starEach [e] X.env)).all (λx=>!x.1)&&(backToKw cpos (keywordEach [] X.env)).all (λx=>x.1.isSome)
  && decide (([e]:List Expr).length+([]:List Keyword).length+(if ([]:List Keyword).isEmpty then 0 else 1)<30))=true
 line:(apos.endLine==cpos.line)=true
 trees:backTo cpos (starEach [e] X.env)=[(false,eval e X.env)]
structure M2 (X:Cx)(o:Expr)(m:Str)(apos:Pos)(e f:Expr)(cpos:Pos):Prop where
 base:attributeBase o m X.env (eval o X.env)=eval o X.env
 few:((backTo cpos (starEach [e,f] X.env)).all (λx=>!x.1)&&(backToKw cpos (keywordEach [] X.env)).all (λx=>x.1.isSome)
  && decide (([e,f]:List Expr).length+([]:List Keyword).length+(if ([]:List Keyword).isEmpty then 0 else 1)<30))=true
 line:(apos.endLine==cpos.line)=true
 trees:backTo cpos (starEach [e,f] X.env)=[(false,eval e X.env),(false,eval f X.env)]
section
variable {X:Cx}{pins:List (Addr×Obj)}{σ:St}{H:Hp}{s:Shared}{a:Addr}{y d:V}{u r:Value}{o:Option V}{A:Around}{E:Value->Shared->Prop}
end
section
variable {X:Cx}{o e f:Expr}{apos cpos:Pos}{td ty tx:TE}
end
section
variable {X:Cx}{pins:List (Addr×Obj)}{σ:St}{H:Hp}{s:Shared}{a:Addr}{kvs:List (Key×V)}{A:Around}{E:Value->Shared->Prop}
end
section
variable {X:Cx}{pins:List (Addr×Obj)}{σ:St}{H:Hp}{s:Shared}{a:Addr}{y:V}{u:Value}{A:Around}{E:Value->Shared->Prop}
end
end L2
namespace L2
open PySem PySem.Spec PyProof.Rows
section
variable {prog:Program}{w:World}{A:Around}{E:Value->Shared->Prop}
end
section
variable {X:Cx}
end
end L2
namespace L2
open PySem PySem.Spec PyProof.Rows
section
variable {X:Cx}{pins:List (Addr×Obj)}{σ:St}{H:Hp}{s:Shared}{h':Heap}
theorem Inv.turnedL {t':Nat}{ch:List Addr} (I:Inv X pins σ H s) (k:∀b o,b ∉ ch->s.heap.get? b=some o->h'.get? b=some o) (hf:∀b∈ch,FpOk X pins H b):Inv X pins σ H { s with heap:=h',toks:=t' }:=by
 have nit:∀b u,H b=some u->b ∉ ch:=λb u e z=>by
  have q:=(hf b z).1;rw [q] at e;cases e
 refine I.step (g':=s.gens) (d':=s.drawn) (ch:=ch) (λb hb=>⟨(hf b hb).2.2.2.1,(hf b hb).2.1,(hf b hb).2.2.2.2.1,(hf b hb).2.2.2.2.2⟩) (λb o _ _ hc e _=>k b o hc e) (λb o _ _ hc e _=>⟨o.slots,k b o hc e⟩)
  (λ_ _ _ _ n=>n) (λb o hc e=>⟨o,k b o hc e⟩) (λ_ _ e=>e) (λ_ _ _ e=>e) (λb ps e=>⟨#[],by rw [e];simp⟩) (λm hm=>?_) (λb u e=>?_) I.bare
 ·obtain ⟨o,es,ep,ho,r⟩:=hm;exact ⟨o,es,ep,k _ o (λz=>(hf _ z).2.1 rfl) ho,r⟩
 ·refine (I.hok b u e).stay (λc v hc q=>k c v ?_ q) (λ_ q=>q) λ_ _ q=>q;rcases hc with z | z
  ·rw [z];exact nit b u e
  ·exact nit c _ z
theorem Inv.turnedNew {t':Nat}{ch:List Addr}{T:Addr}{ob:HO} (I:Inv X pins σ H s) (k:∀b o,b ∉ ch->s.heap.get? b=some o->h'.get? b=some o) (hf:∀b∈ch,FpOk X pins H b) (hT:s.heap.objs.size<=T)
  (new:ObjOk X.prog X.w (upd H T ob) h' T ob):Inv X pins σ (upd H T ob) { s with heap:=h',toks:=t' }:=by
 have hn:H T=none:=I.hok.fresh hT;have nit:∀b u,H b=some u->b ∉ ch:=λb u e z=>by
  have q:=(hf b z).1;rw [q] at e;cases e
 refine I.step (g':=s.gens) (d':=s.drawn) (ch:=ch) (λb hb=>⟨(hf b hb).2.2.2.1,(hf b hb).2.1,(hf b hb).2.2.2.2.1,(hf b hb).2.2.2.2.2⟩) (λb o _ _ hc e _=>k b o hc e) (λb o _ _ hc e _=>⟨o.slots,k b o hc e⟩)
  (λb o _ e n=>?_) (λb o hc e=>⟨o,k b o hc e⟩) (λb xs e=>?_) (λb o u e=>?_) (λb ps e=>⟨#[],?_⟩) (λm hm=>?_) (λb u e=>?_) I.bare
 ·rw [upd_ne (Nat.ne_of_lt (Nat.lt_of_lt_of_le (Heap.lt_size e) hT))];exact n
 ·rw [upd_ne (ne_of_none e hn)];exact e
 ·rw [upd_ne (ne_of_none e hn)];exact e
 ·rw [upd_ne (ne_of_none e hn),e];simp
 ·obtain ⟨o,es,ep,ho,r⟩:=hm;exact ⟨o,es,ep,k _ o (λz=>(hf _ z).2.1 rfl) ho,r⟩
 ·by_cases hb:b=T
  ·subst hb;rw [upd_same] at e;cases e;exact new
  ·rw [upd_ne hb] at e;refine (I.hok b u e).stay (λc v hc q=>k c v ?_ q) (λc q=>by rw [upd_ne (ne_of_none q hn)];exact q) λc xs q=>by rw [upd_ne (ne_of_none q hn)];exact q
   rcases hc with z | z
   ·rw [z];exact nit b u e
   ·exact nit c _ z
end
section
variable {X:Cx}
theorem Ad {tg:Expr}{pins:List (Addr×Obj)}{σ:St}{H:Hp}{s:Shared}{R:It->Hp->Prop}{J:It}{tn:Nat->Heap->Prop}{tk:Nat} (I:Inv X pins σ H s) (o:Obj)
  (T:Turn X.prog X.w X.K tg J [s.heap.objs.size] s.heap.objs.size tn) (st:tn 0 (s.heap.push o)) (q:R J H):PIE X pins σ tg R (.ref s.heap.objs.size) { s with heap:=s.heap.push o,toks:=tk }:=by
 refine ⟨s.heap.objs.size,[s.heap.objs.size],tn,J,H,rfl,I.kept λb ob e=>Heap.get?_push_of_some _ e,T,st,λb hb=>?_,q⟩;have e:b=s.heap.objs.size:=by simpa using hb
 subst e;exact I.fpOk (Nat.le_refl _) (I.hok.fresh (Nat.le_refl _))
end
def Itc (lo c:Int)(n:Nat):It:=⟨λi _=>i<n,λi H x H'=>H'=H/\x=.int (lo+(i:Nat)*c),λi _=>n<=i⟩
theorem qy {P:Program}{w:World}{K:PySem.W.Frag}{tg:Expr} (it:Addr) (lo c:Int) (n:Nat):Turn P w K tg (Itc lo c n) [it] it (λi h=>IsRangeIter h it (lo+(i:Nat)*c) ((n:Int)-(i:Nat)) c) where
 mem:=by simp
 obj:=λi h st b hb=>by
  have e:b=it:=by simpa using hb
  subst e;exact ⟨_,st,λv z=>nomatch z⟩
 keep:=λi h h' st k=>k it (by simp) _ st
 item:=by
  intro X hP hw hK hc i pins s σ H E I hf st hg;subst hP hw hK;obtain ⟨f0,f1,f2,f3,f4,f5⟩:=hf it (by simp);have W:=Walks.range (prog:=X.prog) (w:=X.w) (I.ok.hd hc) it lo c n;refine W.item i s _ _ hg st λv h' tk hv st' kk=>?_;obtain ⟨t,rfl⟩:=hv;have I1:Inv X pins σ H { s with heap:=h',toks:=tk }:=I.turned (λb o hb e=>kk b o (by simpa using hb) e) f0 f1 f3 f4 f5;exact ⟨_,rfl,yz (s:={ s with heap:=h',toks:=tk }) (n:="range_iterator") st' rfl rfl (by decide) ⟨.int (lo+(i:Nat)*c),H,I1,⟨t,rfl⟩,⟨rfl,rfl⟩,st',λb hb=>(hf b hb).1⟩⟩
 done:=by
  intro X hP hw hK hc i pins s σ H E I hf st hg;subst hP hw hK;obtain ⟨f0,f1,f2,f3,f4,f5⟩:=hf it (by simp);exact wpAny_pyNext_range_end (I.ok.hd hc) st (by have:n<=i:=hg;omega) λh' eb=>⟨rfl,I.turned (t':=s.toks) (λb o hb e=>eb b o hb e) f0 f1 f3 f4 f5⟩
 self:=λA i s Q E st h=>wpAny_pyIter_rangeiter st h
def RgC (i j c:Int)(n:Nat):Prop:=c≠0/\c.natAbs<1073741824/\Builtin.Range.small i j c=true/\Builtin.Range.rangeSize i j c=n
theorem RgC.neg {i j:Int}(ha:-(2 ^ 62)<=i)(ha':i<2 ^ 62)(hb:-(2 ^ 62)<=j)(hb':j<2 ^ 62):RgC i j (-1) (i-j).toNat :=
 ⟨by decide,by decide,W.small_down ha ha' hb hb',W.rangeSize_downNat i j⟩
inductive u7 (R:It->Hp->Prop)(vs:List V)(H1:Hp):Prop
 | mk (i j c:Int) (n:Nat):(vs=[.int i,.int j,.int c])->(RgC i j c n)->(R (Itc i c n) H1)->u7 R vs H1
def AY (ta:TA):TI:=λσ H R=>ta σ H λvs H1=>u7 R vs H1
section
variable {X:Cx}{tg:Expr}
theorem ia {a b c:Expr}{ta:TA}{p pos:Pos} (hg:Gl X "range") (hm:X.mg "range"=none) (ha:PA X [a,b,c] ta)
  (hs:starEach [a,b,c] X.env=(false,eval a X.env)::starEach [b,c] X.env:=by rfl) (hpl:(backTo pos (starEach [b,c] X.env)).any (·.1)=false:=by rfl) :
  PI X tg (.Call (.Name "range" p) [a,b,c] [] pos) (AY ta):=by
 intro pins s σ H R I h;refine Call_ (ld_blt I hg hm boot_range (PyProof.Rows.callWith_type1 (thn (ha pos pins s σ H _ I h) λus s1 hz=>?_) hs hpl));obtain ⟨vs,H1,I1,r1,q1⟩:=hz;obtain ⟨i,j,k,n,e,⟨c0,c1,c2,c3⟩,q⟩:=q1;subst e;cases r1 with
 | cons r rr =>
  cases rr with
  | cons r' rr =>
   cases rr with
   | cons r'' rr =>
    cases rr;obtain ⟨t,rfl⟩:=r;obtain ⟨t',rfl⟩:=r';obtain ⟨t'',rfl⟩:=r'';refine call_range_3 c0 ?_ (.inl (PyProof.noPylong_small c1));refine wpAny_pyIter_range (IsRange.new ..) c2 ?_;have I2:Inv X pins σ H1 { s1 with heap:=s1.heap.push { cls:=.type "range",data:=.fields #[.int i t,.int j t',.int k t''] } }:=I1.kept (t':=s1.toks) λb o e=>Heap.get?_push_of_some _ e;refine Ad (tk:=s1.toks) I2 _ (qy _ i k n) ?_ q;have e1:i+((0:Nat):Int)*k=i:=by simp
    have e2:(n:Int)-((0:Nat):Int)=Builtin.Range.rangeSize i j k:=by rw [c3];simp
    show IsRangeIter _ _ (i+((0:Nat):Int)*k) ((n:Int)-((0:Nat):Int)) k;rw [e1,e2];exact Heap.get?_push_size _ rfl
end
theorem fI {lo c:Int}{n:Nat}{g:TG}{tb:TS}{D:Ends}{σ:St}{H:Hp} (Pv:Nat->St->Hp->Prop) (h0:Pv 0 σ H)
  (hs:∀i σ H,i<n->Pv i σ H->g (.int (lo+(i:Nat)*c)) σ H λσ2 H2=>tb { D with nx:=Pv (i+1),ct:=Pv (i+1),bk:=D.nx } σ2 H2) (hd:∀σ H,Pv n σ H->D.nx σ H) :
  forW (Itc lo c n) g tb D σ H:=by
 refine ⟨λi m σ H=>m=n-i/\i<=n/\Pv i σ H,⟨n,by simp,Nat.zero_le _,h0⟩,?_⟩;rintro i m σ H ⟨rfl,hi,p⟩;by_cases hlt:i<n
 ·refine .inr ⟨hlt,Pv (i+1),λσ' H' p'=>⟨n-(i+1),by omega,rfl,hlt,p'⟩,λx H' y=>?_⟩;obtain ⟨e,y⟩:=y;subst e y;exact hs i σ _ hlt p
 ·have e:i=n:=by omega
  subst e;exact .inl ⟨Nat.le_refl _,hd σ H p⟩
section
variable {X:Cx}{tg:Expr}
end
section
variable {prog:Program}{w:World}{A:Around}{E:Value->Shared->Prop}{s:Shared}
end
section
variable {X:Cx}{pins:List (Addr×Obj)}{σ:St}{H:Hp}{s:Shared}{d:Addr}{o:Obj}
end
section
variable {P:Program}{w:World}{K:W.Frag}{tg:Expr}{d:Addr}{o:Obj}{es:Array DictEntry}{ep:Nat}
end
section
variable {X:Cx}{tg e:Expr}{td:TE}{apos cpos:Pos}
end
def Ite (K:W.Frag)(a:Addr):It :=
 ⟨λi H=>∃(xs:List V) (x:V),SqL K H a xs/\xs[i]?=some x,λi H v H'=>∃T x,v=.ref T/\H T=none/\H'=upd H T (.tup [.int (i:Nat),x])/\∀xs,SqL K H a xs->xs[i]?=some x,λi H=>∃xs:List V,SqL K H a xs/\xs.length<=i⟩
theorem u8 {P:Program}{w:World}{K:W.Frag}{elts:List Expr}{kk:Nat}{tpos:Pos} (a e it:Addr) :
  Turn P w K (.Tuple elts kk tpos) (Ite K a) [e,it] e (λi h=>(∃old,IsEnum h e it ((i:Nat):Int) old)/\h.IsListIter it a i/\e≠it) where
 mem:=by simp
 obj:=λi h st b hb=>by
  obtain ⟨⟨old,he⟩,⟨o,ho,hc,hd⟩,_⟩:=st;have e':b=e\/b=it:=by simpa using hb
  rcases e' with z | z
  ·rw [z];exact ⟨_,he,λv q=>nomatch q⟩
  ·rw [z];exact ⟨o,ho,λv q=>by rw [hd] at q;cases q⟩
 keep:=λi h h' st k=>let ⟨⟨old,he⟩,hi,hne⟩:=st;⟨⟨old,k e (by simp) _ he⟩,hi.at λo q=>k it (by simp) o q,hne⟩
 item:=by
  intro X hP hw hK hc i pins s σ H E I hf st hg;subst hP hw hK;obtain ⟨⟨old,he⟩,hit,hne⟩:=st;obtain ⟨xs,x,hq,hx⟩:=hg;obtain ⟨its,rv,p,hz⟩:=I.list hq;obtain ⟨u,hu,ru⟩:=rv.get hx;have hel:e<s.heap.objs.size:=Heap.lt_size he;have hil:it<s.heap.objs.size:=by obtain ⟨_,q,_⟩:=hit;exact Heap.lt_size q
  refine wpAny_pyNext_enum_item he hit p.isList (x:=u) (by simpa using hu) hne λh' ho hit' hT hsz hk=>?_;refine ⟨_,rfl,wpAny_letOwnedTupleGo_enum (s:={ s with heap:=h',toks:=s.toks+1 }) ho λh'' he' sb=>?_⟩;have hT2:h''.get? s.heap.objs.size=some { cls:=.type "tuple",data:=.seq #[.int i s.toks,u] }:=(sb.2 _ (Nat.ne_of_gt hel)).trans hT;have new:ObjOk X.prog X.w (upd H s.heap.objs.size (.tup [.int (i:Nat),x])) h'' s.heap.objs.size (.tup [.int (i:Nat),x]) :=
   ⟨by show 2<=sizeLine;decide,[.int i s.toks,u],.cons ⟨_,rfl⟩ (.cons ru .nil),⟨_,hT2,rfl,_,rfl⟩⟩
  have I1:Inv X pins σ (upd H s.heap.objs.size (.tup [.int (i:Nat),x])) { s with heap:=h'',toks:=s.toks+1 } :=
   I.turnedNew (ch:=[e,it]) (λb ob hb q=>(sb.2 b (λz=>hb (by simp [z]))).trans (hk b ob (λz=>hb (by simp [z])) (λz=>hb (by simp [z])) q)) hf (Nat.le_refl _) new
  refine ⟨.ref s.heap.objs.size,_,I1,rfl,⟨_,x,rfl,I.hok.fresh (Nat.le_refl _),rfl,λys hy=>by rw [I.list_inj hy hq];exact hx⟩,⟨⟨u,?_⟩,hit'.at λo q=>(sb.2 it (Ne.symm hne)).trans q,hne⟩,λb hb=>?_⟩
  ·have e1:((i+1:Nat):Int)=(i:Int)+1:=by omega
   rw [e1];exact he'
  ·have hb':b<s.heap.objs.size:=by
    have e':b=e\/b=it:=by simpa using hb
    rcases e' with z | z
    ·rw [z];exact hel
    ·rw [z];exact hil
   rw [upd_ne (Nat.ne_of_lt hb')];exact (hf b hb).1
 done:=by
  intro X hP hw hK hc i pins s σ H E I hf st hg;subst hP hw hK;obtain ⟨⟨old,he⟩,hit,hne⟩:=st;obtain ⟨xs,hq,hx⟩:=hg;obtain ⟨its,rv,p,hz⟩:=I.list hq;obtain ⟨f0,f1,f2,f3,f4,f5⟩:=hf it (by simp);have hl:=rv.length;exact wpAny_pyNext_enum_end (I.ok.hd hc) he hit p.isList (by simp;omega) λh' eb=>⟨rfl,I.turned (t':=s.toks) (λb o hb q=>eb b o hb q) f0 f1 f3 f4 f5⟩
 self:=λA i s Q E st h=>let ⟨⟨_,he⟩,_⟩:=st;wpAny_pyIter_enum he h
inductive u9 (K:W.Frag)(R:It->Hp->Prop)(vs:List V)(H1:Hp):Prop
 | mk (a xs):(vs=[.ref a])->(SqL K H1 a xs)->(R (Ite K a) H1)->u9 K R vs H1
def AZ (K:W.Frag)(ta:TA):TI:=λσ H R=>ta σ H λvs H1=>u9 K R vs H1
theorem qz {X:Cx}{e:Expr}{ta:TA}{p pos tpos:Pos}{elts:List Expr}{kk:Nat} (hg:Gl X "enumerate") (hm:X.mg "enumerate"=none) (ha:PA X [e] ta) (hs:starEach [e] X.env=[(false,eval e X.env)]:=by rfl) :
  PI X (.Tuple elts kk tpos) (.Call (.Name "enumerate" p) [e] [] pos) (AZ X.K ta):=by
 intro pins s σ H R I h;refine Call_ (ld_blt I hg hm boot_enumerate (PyProof.Rows.callWith_type1 (thn (ha pos pins s σ H _ I h) λus s1 hz=>?_) hs rfl));obtain ⟨vs,H1,I1,r1,q1⟩:=hz;obtain ⟨a,xs,ex,hq,q⟩:=q1;subst ex;cases r1 with
 | cons r rr =>
  cases rr;cases r;obtain ⟨its,rv,p',hz⟩:=I1.list hq;refine call_enumerate_list p'.isList λh' he hit hsz hk=>wpAny_pyIter_enum he ?_;have I2:Inv X pins σ H1 { s1 with heap:=h' }:=I1.kept (t':=s1.toks) hk;refine ⟨s1.heap.objs.size+1,[s1.heap.objs.size+1,s1.heap.objs.size],_,_,H1,rfl,I2,u8 a (s1.heap.objs.size+1) s1.heap.objs.size,⟨⟨.none,he⟩,hit,Nat.succ_ne_self _⟩,λb hb=>?_,q⟩;have e':b=s1.heap.objs.size+1\/b=s1.heap.objs.size:=by simpa using hb
  have hle:s1.heap.objs.size<=b:=by
   rcases e' with z | z
   ·rw [z];exact Nat.le_add_right _ _
   ·rw [z];exact Nat.le_refl _
  exact I1.fpOk hle (I1.hok.fresh hle)
theorem boot_zip5:bootBuiltins "zip"=some (.type "zip"):=by decide +kernel
def Itz (K:W.Frag)(a b:Addr):It :=
 ⟨λi H=>∃(xs ys:List V) (x y:V),SqL K H a xs/\SqL K H b ys/\xs[i]?=some x/\ys[i]?=some y,
  λi H v H'=>∃T x y,v=.ref T/\H T=none/\H'=upd H T (.tup [x,y])/\(∀xs,SqL K H a xs->xs[i]?=some x)/\∀ys,SqL K H b ys->ys[i]?=some y,
  λi H=>∃xs ys:List V,SqL K H a xs/\SqL K H b ys/\(xs.length<=i\/ys.length<=i)⟩
theorem wM {P:Program}{w:World}{K:W.Frag}{elts:List Expr}{kk:Nat}{tpos:Pos}{a b z TI TO i1 i2:Addr} (D:ZipApart z TI TO i1 i2 a b) :
  Turn P w K (.Tuple elts kk tpos) (Itz K a b) [z,TI,TO,i1,i2] z (λi h=>IsZip h z TI TO .none/\IsPair h TI (.ref i1) (.ref i2)/\(∃x y,IsPair h TO x y)/\h.IsListIter i1 a i/\h.IsListIter i2 b i) where
 mem:=by simp
 obj:=λi h st c hc=>by
  obtain ⟨hz,hTI,⟨x,y,hTO⟩,⟨o1,e1,_,d1⟩,⟨o2,e2,_,d2⟩⟩:=st;have e':c=z\/c=TI\/c=TO\/c=i1\/c=i2:=by simpa using hc
  rcases e' with q | q | q | q | q
  ·rw [q];exact ⟨_,hz,λv q=>nomatch q⟩
  ·rw [q];exact ⟨_,hTI,λv q=>nomatch q⟩
  ·rw [q];exact ⟨_,hTO,λv q=>nomatch q⟩
  ·rw [q];exact ⟨o1,e1,λv q=>by rw [d1] at q;cases q⟩
  ·rw [q];exact ⟨o2,e2,λv q=>by rw [d2] at q;cases q⟩
 keep:=λi h h' st k=>by
  obtain ⟨hz,hTI,⟨x,y,hTO⟩,h1,h2⟩:=st;exact ⟨k z (by simp) _ hz,k TI (by simp) _ hTI,⟨x,y,k TO (by simp) _ hTO⟩,h1.at λo q=>k i1 (by simp) o q,h2.at λo q=>k i2 (by simp) o q⟩
 item:=by
  intro X hP hw hK hc i pins s σ H E I hf st hg;subst hP hw hK;obtain ⟨hz,hTI,⟨x0,y0,hTO⟩,h1,h2⟩:=st;obtain ⟨xs,ys,x,y,hqx,hqy,hx,hy⟩:=hg;obtain ⟨its,rv,p,_⟩:=I.list hqx;obtain ⟨its2,rv2,p2,_⟩:=I.list hqy;obtain ⟨u,hu,ru⟩:=rv.get hx;obtain ⟨u2,hu2,ru2⟩:=rv2.get hy;have hzl:z<s.heap.objs.size:=Heap.lt_size hz;refine wpAny_pyNext_zip_item D hz hTI hTO h1 h2 p.isList p2.isList (x:=u) (y:=u2) (by simpa using hu) (by simpa using hu2) λh' z' TO' h1' h2' hT hsz hk=>?_;refine ⟨_,rfl,wpAny_letOwnedTupleGo_zip (s:={ s with heap:=h' }) z' λh'' z'' sb=>?_⟩;have hT2:h''.get? s.heap.objs.size=some { cls:=.type "tuple",data:=.seq #[u,u2] }:=(sb.2 _ (Nat.ne_of_gt hzl)).trans hT;have new:ObjOk X.prog X.w (upd H s.heap.objs.size (.tup [x,y])) h'' s.heap.objs.size (.tup [x,y]) :=
   ⟨by show 2<=sizeLine;decide,[u,u2],.cons ru (.cons ru2 .nil),⟨_,hT2,rfl,_,rfl⟩⟩
  have I1:Inv X pins σ (upd H s.heap.objs.size (.tup [x,y])) { s with heap:=h'' } :=
   I.turnedNew (t':=s.toks) (ch:=[z,TI,TO,i1,i2]) (λc o hb q=>(sb.2 c (λq'=>hb (by simp [q']))).trans (hk c o (λq'=>hb (by simp [q'])) (λq'=>hb (by simp [q'])) (λq'=>hb (by simp [q'])) (λq'=>hb (by simp [q'])) q)) hf (Nat.le_refl _) new
  refine ⟨.ref s.heap.objs.size,_,I1,rfl,⟨_,x,y,rfl,I.hok.fresh (Nat.le_refl _),rfl,λl hl=>by rw [I.list_inj hl hqx];exact hx,λl hl=>by rw [I.list_inj hl hqy];exact hy⟩,⟨z'',?_,⟨u,u2,?_⟩,?_,?_⟩,λc hcm=>?_⟩
  ·exact (sb.2 _ D.TIz).trans (hk _ _ D.TIz D.TITO D.TIi1 D.TIi2 hTI)
  ·exact (sb.2 _ D.TOz).trans TO'
  ·exact h1'.at λo q=>(sb.2 _ D.i1z).trans q
  ·exact h2'.at λo q=>(sb.2 _ D.i2z).trans q
  ·have hlt:c<s.heap.objs.size:=by
    have e':c=z\/c=TI\/c=TO\/c=i1\/c=i2:=by simpa using hcm
    rcases e' with q | q | q | q | q
    ·rw [q];exact hzl
    ·rw [q];exact Heap.lt_size hTI
    ·rw [q];exact Heap.lt_size hTO
    ·rw [q];obtain ⟨_,e1,_⟩:=h1;exact Heap.lt_size e1
    ·rw [q];obtain ⟨_,e2,_⟩:=h2;exact Heap.lt_size e2
   rw [upd_ne (Nat.ne_of_lt hlt)];exact (hf c hcm).1
 done:=by
  intro X hP hw hK hc i pins s σ H E I hf st hg;subst hP hw hK;obtain ⟨hz,hTI,⟨x0,y0,hTO⟩,h1,h2⟩:=st;obtain ⟨xs,ys,hqx,hqy,hend⟩:=hg;obtain ⟨its,rv,p,_⟩:=I.list hqx;obtain ⟨its2,rv2,p2,_⟩:=I.list hqy;have l1:=rv.length;have l2:=rv2.length;have he:its.toArray[i]?=none\/its2.toArray[i]?=none:=by
   rcases hend with q | q
   ·exact .inl (by simp;omega)
   ·exact .inr (by simp;omega)
  exact wpAny_pyNext_zip_end (I.ok.hd hc) D hz hTI hTO h1 h2 p.isList p2.isList he λh' hk=>⟨rfl,I.turnedL (t':=s.toks) (ch:=[z,TI,TO,i1,i2]) (λc o hb q =>
   hk c o (λq'=>hb (by simp [q'])) (λq'=>hb (by simp [q'])) (λq'=>hb (by simp [q'])) (λq'=>hb (by simp [q'])) q) hf⟩
 self:=λA i s Q E st h=>wpAny_pyIter_zip st.1 h
inductive yl (K:W.Frag)(R:It->Hp->Prop)(vs:List V)(H1:Hp):Prop
 | mk (a b xs ys):(vs=[.ref a,.ref b])->(SqL K H1 a xs)->(SqL K H1 b ys)->(R (Itz K a b) H1)->yl K R vs H1
def iZip (K:W.Frag)(ta:TA):TI:=λσ H R=>ta σ H λvs H1=>yl K R vs H1
theorem ib {X:Cx}{e e2:Expr}{ta:TA}{p pos tpos:Pos}{elts:List Expr}{kk:Nat} (hg:Gl X "zip") (hm:X.mg "zip"=none) (ha:PA X [e,e2] ta)
  (hs:starEach [e,e2] X.env=(false,eval e X.env)::starEach [e2] X.env:=by rfl) (hpl:(backTo pos (starEach [e2] X.env)).any (·.1)=false:=by rfl) :
  PI X (.Tuple elts kk tpos) (.Call (.Name "zip" p) [e,e2] [] pos) (iZip X.K ta):=by
 intro pins s σ H R I h;refine Call_ (ld_blt I hg hm boot_zip5 (PyProof.Rows.callWith_type1 (thn (ha pos pins s σ H _ I h) λus s1 hz=>?_) hs hpl));obtain ⟨vs,H1,I1,r1,q1⟩:=hz;obtain ⟨a,b,xs,ys,ex,hqx,hqy,q⟩:=q1;subst ex;cases r1 with
 | cons r rr =>
  cases rr with
  | cons r' rr =>
   cases rr;cases r;cases r';obtain ⟨its,rv,p1,_⟩:=I1.list hqx;obtain ⟨its2,rv2,p2,_⟩:=I1.list hqy;have la:a<s1.heap.objs.size:=p1.lt;have lb:b<s1.heap.objs.size:=p2.lt;refine call_zip_2 p1.isList p2.isList λh' hz hTI hTO h1 h2 hsz hk=>wpAny_pyIter_zip hz ?_;have I2:Inv X pins σ H1 { s1 with heap:=h' }:=I1.kept (t':=s1.toks) hk;refine ⟨s1.heap.objs.size+4,[s1.heap.objs.size+4,s1.heap.objs.size+2,s1.heap.objs.size+3,s1.heap.objs.size,s1.heap.objs.size+1],_,_,H1,rfl,I2,wM (W.ktu_apart s1.heap.objs.size a b la lb),⟨hz,hTI,⟨_,_,hTO⟩,h1,h2⟩,λc hcm=>?_,q⟩;have e':c=s1.heap.objs.size+4\/c=s1.heap.objs.size+2\/c=s1.heap.objs.size+3\/c=s1.heap.objs.size\/c=s1.heap.objs.size+1:=by simpa using hcm
   have hle:s1.heap.objs.size<=c:=by
    rcases e' with z | z | z | z | z
    ·rw [z];exact Nat.le_add_right _ _
    ·rw [z];exact Nat.le_add_right _ _
    ·rw [z];exact Nat.le_add_right _ _
    ·rw [z];exact Nat.le_refl _
    ·rw [z];exact Nat.le_add_right _ _
   exact I1.fpOk hle (I1.hok.fresh hle)
end L2
section
namespace Bits
open PySem PyProof.Rows
theorem nat_and_mul_pow (k:Nat):∀a b:Nat,a<2 ^ k->a &&& (b*2 ^ k)=0:=by
 induction k with
 | zero =>
  intro a b h;have h0:a=0:=by
   rw [Nat.pow_zero] at h;omega
  subst h0;simp
 | succ k ih =>
  intro a b h;have hm:(b*2 ^ (k+1))=(b*2 ^ k)*2:=by rw [Nat.pow_succ,Nat.mul_assoc]
  have hlt:a/2<2 ^ k:=by
   rw [Nat.pow_succ] at h;generalize 2 ^ k=m at h ⊢;omega
  have i:=ih (a/2) b hlt;rw [hm];generalize b*2 ^ k=B at i ⊢;have e:(a &&& (B*2))/2=a/2 &&& (B*2)/2:=Nat.and_div_two;have e2:(B*2)/2=B:=by omega
  have o:=@Nat.and_mod_two_eq_one a (B*2);rw [e2,i] at e;omega
theorem kf (m k:Nat):(m:Int)*2 ^ k=((m*2 ^ k:Nat):Int):=by
 rw [two_pow_cast]
 first
  | exact (Int.natCast_mul _ _).symm
  | simp
theorem bitOr_join {a b:Int}{k:Nat} (h0:0<=a) (h1:a<2 ^ k) (hb:0<=b):Builtin.bitOr a (b*2 ^ k)=a+b*2 ^ k:=by
 obtain ⟨n,rfl⟩:=Int.eq_ofNat_of_zero_le h0;obtain ⟨m,rfl⟩:=Int.eq_ofNat_of_zero_le hb;have hn:n<2 ^ k:=by
  rw [two_pow_cast] at h1;omega
 have e:Builtin.bitAnd (n:Int) ((m*2 ^ k:Nat):Int)=0:=by
  rw [bitAnd_pp (by omega) (by omega),Int.toNat_natCast,Int.toNat_natCast,nat_and_mul_pow k n m hn] <;> rfl
 rw [kf,bitOr_and,e];omega
theorem bitOr_pp {x y:Int}(hx:0<=x)(hy:0<=y):Builtin.bitOr x y=((x.toNat ||| y.toNat:Nat):Int):=by
 have e:=nat_or_add_and x.toNat y.toNat;rw [bitOr_and,bitAnd_pp hx hy];omega
end Bits
end
section
namespace TL
open PySem PySem.Builtin PySem.Builtin.Str PySem.StrLaws
abbrev tl (x:Str):List Nat:=x.cps.toList
theorem ym (x:Str):x.length=(tl x).length:=by simp [tl,Str.length]
def pre (S l:List Nat):Bool:=l.take S.length==S
def par (S:List Nat):List Nat->List Nat->Option (List Nat×List Nat)
 | _,[]=>none
 | acc,c::r=>if pre S (c::r)=true then some (acc,(c::r).drop S.length) else par S (acc++[c]) r
theorem Ae {x y:Str}(hy:tl y≠[])(i:Nat):At x y x.length i↔pre (tl y) ((tl x).drop i)=true:=by
 have hx:=ym x;have hl:=ym y;constructor
 ·intro h;have h2:=h.2;rw [subAt_eq,hl] at h2;exact h2
 ·intro h;have e:((tl x).drop i).take (tl y).length=tl y:=eq_of_beq h;have e1:=congrArg List.length e;rw [List.length_take,List.length_drop] at e1;have e2:0<(tl y).length:=List.length_pos_iff.mpr hy;refine ⟨by omega,?_⟩;rw [subAt_eq,hl];exact h
theorem no_at {x y:Str}(hy:tl y≠[]){i:Nat}(h:¬At x y x.length i):pre (tl y) ((tl x).drop i)=false:=by
 cases hp:pre (tl y) ((tl x).drop i) with
 | false=>rfl
 | true=>exact absurd ((Ae hy i).mpr hp) h
end TL
end
namespace L2
open PySem PySem.Spec PyProof.Rows
section
variable {X:Cx}{pins:List (Addr×Obj)}{σ:St}{H:Hp}{s:Shared}{Q:VK}
end
section
variable {X:Cx}
end
section
variable {X:Cx}{o e:Expr}{to te:TE}
end
end L2
namespace L2
open PySem PySem.Spec PyProof.Rows
section
variable {X:Cx}
end
end L2
namespace Att
open PySem PySem.W PySem.Calls PyProof.Rows
theorem ints_of_wellAll {P:Params}{h:Heap}:∀(ns:List Int) (vs:List Value),WellAll P h vs (ns.map WData.int)->IntsAre vs ns:=by
 intro ns
 induction ns with
 | nil =>
  intro vs w;rw [List.map_nil] at w;cases w;exact .nil
 | cons n ns ih =>
  intro vs w;rw [List.map_cons] at w;cases w with
  | cons a b =>
   cases a;exact .cons _ _ (ih _ b)
section
variable {prog:Program}{w:World}{A:Around}{E:Value->Shared->Prop}{s:Shared}{K:Frag}
end
end Att
namespace L2
open PySem PySem.Spec PyProof.Rows
theorem kg:∀{vs:List Value}{ns:List Int},IntsAre vs ns->Vals (ns.map V.int) vs
 | _,_,.nil=>.nil
 | _,_,.cons n t h=>.cons ⟨t,rfl⟩ (kg h)
def Only (H:Hp):Prop:=∀b,H b=none\/∃o xs,H b=some (.frz o (.lst xs))
end L2
namespace L2
open PySem PySem.Spec PyProof.Rows
end L2
namespace L2
open PySem PySem.Spec PyProof.Rows
def bX (s:Stmt)(j:Nat):Stmt:=match s with
 | .ClassDef _ _ _ body _ _ _ _ _ _ _=>body.getD j (.Pass ⟨0,0,0,0⟩)
 | _=>.Pass ⟨0,0,0,0⟩
def dJ (s:Stmt):Arguments:=match s with
 | .FunctionDef _ a _ _ _ _ _ _ _ _=>a
 | _=>{ posonlyargs:=[],args:=[],vararg:=none,kwonlyargs:=[],kw_defaults:=[],kwarg:=none,defaults:=[] }
def bG (s:Stmt):List Stmt:=match s with
 | .FunctionDef _ _ b _ _ _ _ _ _ _=>b
 | _=>[]
def ae (s:Stmt):Scope:=match s with
 | .FunctionDef _ _ _ _ _ _ sc _ _ _=>sc
 | _=>{ kind:=.function,names:=[],isGenerator:=false,isCoroutine:=false }
abbrev CX0:CXT:=λ_ _ _ _ _ _=>False
abbrev E0:XK:=λ_ _ _=>False
theorem gv {X:Cx}:cy CX0 X E0:=λ_ _ _ _ _ _ _ h=>h.elim
structure Fun (K:W.Frag)(x qual:Str)(st:Stmt)(f:Addr)(fd:FuncData):Prop where
 ex:∃(oc:Value) (od:Option Addr) (kV doc pm:Value) (an:Option Addr) (cdv ct:Value) (osl:Array (Option Value)),
  fd=W.fnOf x qual (dJ st) (bG st) (ae st) .none kV doc pm an cdv ct/\K.lookup f=some ⟨oc,od,.func fd,osl⟩/\W.codeIn K cdv qual=true
 kp:W.keepIn K (.ref f)=true
section
variable {P:Program}{w:World}{K:W.Frag}{mg:Str->Option Value}{base:Heap}
theorem Fun.ok {x qual:Str}{st:Stmt}{f:Addr}{fd:FuncData}{N ps:List Str}{k:Nat}{sp:Sp} (F:Fun K x qual st f fd) (S:FnScope N ps (ae st)) (len:∀vs H Q E,sp vs H Q E->vs.length=ps.length)
  (hbody:∀(cdv:Value) (A:Around) (outer:List Env) (s:Shared) (H:Hp) (vs:List V) (Q:VK) (E:XK),Room k (A.deeper (envOfC qual (ae st) s.heap.objs.size f cdv))->sp vs H Q E ->
   ∃t,PSs (cxOf CX0 P w K mg base N qual (ae st) f cdv A outer s H E).nox (bG st) t/\t { nx:=λ_ H'=>Q .non H',rt:=Q } (start N vs) H):FnOk P w K mg base CX0 (k+1) f fd ps sp:=by
 obtain ⟨oc,od,kV,doc,pm,an,cdv,ct,osl,rfl,lk,hcd⟩:=F.ex;refine yI lk hcd S len λA outer s H vs Q E hr hsp=>?_;obtain ⟨t,h,q⟩:=hbody cdv A outer s H vs Q E hr hsp;exact ⟨t,h.nox,q⟩
theorem Fun.binds {x qual:Str}{st:Stmt}{f:Addr}{fd:FuncData}{ps:List Str} (F:Fun K x qual st f fd)
  (h:∀(kV doc pm:Value) (an:Option Addr) (cdv ct:Value) (us:List Value),us.length=ps.length->bindArgs (W.fnOf x qual (dJ st) (bG st) (ae st) .none kV doc pm an cdv ct) ⟨us,[]⟩=pure (ps.zip us)):ka K fd ps []:=by
 obtain ⟨oc,od,kV,doc,pm,an,cdv,ct,osl,rfl,lk,hcd⟩:=F.ex;exact .all (h kV doc pm an cdv ct)
theorem va {x qual:Str}{st:Stmt}{f:Addr}{oc:Value}{od an:Option Addr}{osl:Array (Option Value)}{kV doc pm cdv ct:Value} (l:K.lookup f=some ⟨oc,od,.func (W.fnOf x qual (dJ st) (bG st) (ae st) .none kV doc pm an cdv ct),osl⟩)
  (c:W.codeIn K cdv qual=true) (k:W.keepIn K (.ref f)=true):Fun K x qual st f (W.fnOf x qual (dJ st) (bG st) (ae st) .none kV doc pm an cdv ct):=⟨⟨oc,od,kV,doc,pm,an,cdv,ct,osl,rfl,l,c⟩,k⟩
end
section
variable {X:Cx}
theorem pv (i:Nat){x:Str}{pos:Pos} (hN:X.N[i]?=some x:=by rfl) (hv:Vis X.env.scope x:=by first | exact Or.inl rfl | exact Or.inr (Or.inl rfl) | exact Or.inr (Or.inr rfl)) (hd:(x==("__debug__":Str))=false:=by decide)
  (hcd:(x==("__classdict__":Str))=false:=by decide):PE X (.Name x pos) (tVar i):=zO hN hv hd hcd
end
theorem iteF {A B:Prop}(h:B):if false=true then A else B:=by
 rw [if_neg Bool.false_ne_true];exact h
theorem iteT {A B:Prop}(h:A):if true=true then A else B:=by
 rw [if_pos rfl];exact h
theorem ite2 {c A B:Prop}[Decidable c](h1:c->A)(h2:¬c->B):if c then A else B:=by
 by_cases h:c
 ·rw [if_pos h];exact h1 h
 ·rw [if_neg h];exact h2 h
def Same (H H':Hp):Prop:=∀b o,H b=some o->H' b=some o
theorem Same.refl (H:Hp):Same H H:=λ_ _ h=>h
theorem Same.trans {H H1 H2:Hp}(a:Same H H1)(b:Same H1 H2):Same H H2:=λc o h=>b c o (a c o h)
theorem Same.free {H H':Hp}(e:Same H H'){l:Addr}(h:H' l=Option.none):H l=Option.none:=by
 cases q:H l with
 | none=>rfl
 | some o =>
  rw [e l o q] at h;cases h
theorem Same.seq {K:W.Frag}{H H':Hp}{a:Addr}{xs:List V} (e:Same H H') (h:SqL K H a xs):SqL K H' a xs:=by
 rcases h with (h | ⟨o,h⟩) | h
 ·exact .inl (.inl (e _ _ h))
 ·exact .inl (.inr ⟨o,e _ _ h⟩)
 ·exact .inr h
section
variable {κ:Type}[DecidableEq κ]
end
theorem bx {xs:List V}{z:Int}{j:Nat}{v:V} (e:z=(j:Int)) (h:xs[j]?=some v):atI xs z=some v:=by
 rw [e];exact eY h
theorem Same.made {H H1:Hp}{x dx C:Addr} (nx:H x=Option.none) (nd:H dx=Option.none) (k:∀b o,(upd (upd H dx (.own x)) x (.ins C dx [])) b=some o->b≠x->H1 b=some o):Same H H1:=λb o e =>
 k b o (by rw [upd_ne (ne_of_none e nx),upd_ne (ne_of_none e nd)];exact e) (ne_of_none e nx)
end L2
namespace TW
open PySem PySem.Spec PyProof.Rows L2
inductive Arg where
 | int (i:Int)
 | nums (l:List Int)
def Arg.data:Arg->W.WData
 | .int i=>.int i
 | .nums l=>.list (l.map .int)
def ArgV (h:Heap):Arg->Value->V->Prop
 | .int i,u,v=>(∃t,u=Value.int i t)/\v=.int i
 | .nums l,u,v=>∃(a:Addr) (vs:List Value),u=Value.ref a/\v=.ref a/\h.get? a=some { cls:=.type "list",data:=.seq vs.toArray }/\IntsAre vs l
inductive mI (h:Heap):List Arg->List Value->List V->Prop
 | nil:mI h [] [] []
 | cons {x xs u us v vs}:ArgV h x u v->mI h xs us vs->mI h (x::xs) (u::us) (v::vs)
theorem r8 {P:Params}{h:Heap}:∀(xs:List Arg) (us:List Value),W.WellAll P h us (xs.map Arg.data)->∃vs,mI h xs us vs
 | [],us,w=>by
  rw [List.map_nil] at w;cases w;exact ⟨[],.nil⟩
 | x::xs,us,w=>by
  rw [List.map_cons] at w;cases w with
  | cons a b =>
   obtain ⟨vs,hv⟩:=r8 xs _ b;cases x with
   | int i =>
    have a:W.Well P h _ (W.WData.int i):=a;cases a;exact ⟨.int i::vs,.cons ⟨⟨_,rfl⟩,rfl⟩ hv⟩
   | nums l =>
    have a:W.Well P h _ (W.WData.list (l.map .int)):=a;cases a with
    | list ho hall=>exact ⟨.ref _::vs,.cons ⟨_,_,rfl,rfl,ho,Att.ints_of_wellAll l _ hall⟩ hv⟩
theorem mI.vals {h:Heap}:∀{xs:List Arg}{us:List Value}{vs:List V},mI h xs us vs->Vals vs us
 | _,_,_,.nil=>.nil
 | _,_,_,.cons (x:=.int i) a b=>.cons (by obtain ⟨h1,rfl⟩:=a;exact h1) b.vals
 | _,_,_,.cons (x:=.nums l) a b=>.cons (by obtain ⟨p,_,h1,rfl,_⟩:=a;exact h1) b.vals
theorem mI.length {h:Heap}:∀{xs:List Arg}{us:List Value}{vs:List V},mI h xs us vs->us.length=xs.length/\vs.length=xs.length
 | _,_,_,.nil=>⟨rfl,rfl⟩
 | _,_,_,.cons a b=>⟨congrArg (·+1) b.length.1,congrArg (·+1) b.length.2⟩
def ArgH (K:W.Frag)(H:Hp):Arg->V->Prop
 | .int i,v=>v=.int i
 | .nums l,v=>∃a,v=.ref a/\SqL K H a (l.map V.int)
inductive o7 (K:W.Frag)(H:Hp):List Arg->List V->Prop
 | nil:o7 K H [] []
 | cons {x xs v vs}:ArgH K H x v->o7 K H xs vs->o7 K H (x::xs) (v::vs)
theorem kh:∀{vs:List Value}{ns ms:List Int},IntsAre vs ns->IntsAre vs ms->ns=ms
 | _,_,_,.nil,h=>by cases h;rfl
 | _,_,_,.cons n t h,k=>by
  cases k with
  | cons m u k=>rw [kh h k]
def listsOf {h:Heap}:List Arg->List V->List (Addr×List Int)
 | .nums l::xs,.ref a::vs=>(a,l)::listsOf (h:=h) xs vs
 | _::xs,_::vs=>listsOf (h:=h) xs vs
 | _,_=>[]
theorem iZ {h:Heap}:∀{xs:List Arg}{us:List Value}{vs:List V},mI h xs us vs->∀p∈listsOf (h:=h) xs vs,∃ws,h.get? p.1=some { cls:=.type "list",data:=.seq ws.toArray }/\IntsAre ws p.2/\Arg.nums p.2∈xs
 | _,_,_,.nil,p,hp=>by cases hp
 | _,_,_,.cons (x:=.int i) a b,p,hp=>by
  obtain ⟨_,rfl⟩:=a;obtain ⟨ws,h1,h2,h3⟩:=iZ b p hp;exact ⟨ws,h1,h2,List.mem_cons_of_mem _ h3⟩
 | _,_,_,.cons (x:=.nums l) a b,p,hp=>by
  obtain ⟨q,ws,_,rfl,h1,h2⟩:=a;rcases List.mem_cons.mp (show p∈(q,l)::listsOf (h:=h) _ _ from hp) with e | hp
  ·subst e;exact ⟨ws,h1,h2,List.mem_cons_self⟩
  ·obtain ⟨ws,h1,h2,h3⟩:=iZ b p hp;exact ⟨ws,h1,h2,List.mem_cons_of_mem _ h3⟩
theorem mJ {K:W.Frag}{h:Heap}{H:Hp}:∀{xs:List Arg}{us:List Value}{vs:List V},mI h xs us vs->(∀p∈listsOf (h:=h) xs vs,SqL K H p.1 (p.2.map V.int))->o7 K H xs vs
 | _,_,_,.nil,_=>.nil
 | _,_,_,.cons (x:=.int i) a b,hs=>.cons a.2 (mJ b (by obtain ⟨_,rfl⟩:=a;exact hs))
 | _,_,_,.cons (x:=.nums l) a b,hs=>by
  obtain ⟨q,ws,_,rfl,h1,h2⟩:=a;exact .cons ⟨q,rfl,hs (q,l) List.mem_cons_self⟩ (mJ b λp hp=>hs p (List.mem_cons_of_mem _ hp))
def H0 (K:W.Frag)(h:Heap)(L:List (Addr×List Int)):Hp:=λb=>if (K.lookup b).isNone=true then (match L.find? (λp=>decide (p.1=b)) with
 | some p=>(match h.get? b with
  | some o=>some (.frz o (.lst (p.2.map V.int)))
  | none=>none)
 | none=>none) else none
theorem o8 {K:W.Frag}{h:Heap}{L:List (Addr×List Int)}{b:Addr}{u:HO} (e:H0 K h L b=some u):∃p∈L,p.1=b/\∃o,h.get? b=some o/\u=.frz o (.lst (p.2.map V.int))/\K.lookup b=none:=by
 unfold H0 at e;split at e
 ·rename_i hk;split at e
  ·rename_i p hp;split at e
   ·rename_i o ho;have e':=Option.some.inj e;subst e';exact ⟨p,List.mem_of_find?_eq_some hp,by simpa using List.find?_some hp,o,ho,rfl,by simpa using hk⟩
   ·cases e
  ·cases e
 ·cases e
theorem H0_at {K:W.Frag}{h:Heap}{L:List (Addr×List Int)} (hL:∀p∈L,∃ws,h.get? p.1=some { cls:=.type "list",data:=.seq ws.toArray }/\IntsAre ws p.2) {p:Addr×List Int} (hp:p∈L) (hk:K.lookup p.1=none) :
  ∃o,H0 K h L p.1=some (.frz o (.lst (p.2.map V.int))):=by
 cases e:L.find? (λq=>decide (q.1=p.1)) with
 | none=>exact absurd (List.find?_eq_none.mp e p hp) (by simp)
 | some q =>
  have hq:=List.mem_of_find?_eq_some e;have hqp:q.1=p.1:=by simpa using List.find?_some e
  obtain ⟨ws,g1,i1⟩:=hL p hp;obtain ⟨ws',g2,i2⟩:=hL q hq;rw [hqp,g1] at g2;have ew:ws=ws':=by
   have:=Option.some.inj g2;injection this with _ _ z _;injection z with z _;have z2:=congrArg Array.toList z;simpa using z2
  subst ew;have el:=kh i1 i2;refine ⟨{ cls:=.type "list",data:=.seq ws.toArray },?_⟩;unfold H0;rw [if_pos (by rw [hk];rfl),e];dsimp only;rw [g1,el]
theorem vc {P:Program}{w:World}{K:W.Frag}{mg mb:Str->Option Value}{CX:CXT}{k:Nat}{fa:Addr}{fd:FuncData}{ps:List Str}{sp:Sp}{s₁:Shared}{xs:List Arg}{us:List Value}{vs:List V}{ans:List Int}
  (KX:K.In s₁.heap) (hns:s₁.heap.Ns mainGlobals mg) (hb:s₁.heap.Ns builtinsNs mb) (hbb:∀x:Str,x≠"__name__"->mb x=bootBuiltins x) (hlim:s₁.heap.NoLimit) (hg:s₁.gens=#[])
  (hA:mI s₁.heap xs us vs) (hl:∀l,Arg.nums l∈xs->l.length<=sizeLine) (hr:Room k callerA)
  (F:∀base:Heap,K.In base->base.Ns mainGlobals mg->FnOk P w K mg base CX k fa fd ps sp) (hbind:∀s:Shared,BindsTo s fd ⟨us,[]⟩ (ps.zip us))
  (hsp:∀H:Hp,Only H->o7 K H xs vs->sp vs H (λv H'=>∃p,v=.ref p/\SqL K H' p (ans.map V.int)) λ_ _ _=>False)
  (hCX:∀H e s',CX [] H s₁ (λ_ _ _=>False) e s'->False) :
  codeAny (model P w) callerA (.call (.ref fa) ⟨us,[]⟩) (λr s'=>∃p o ws n,r=.ok (.ret (.ref p))/\s'.heap.get? p=some o/\o.cls=.type "list"/\o.data=.seq ws n/\IntsAre ws.toList ans/\OldK s₁.heap s'.heap/\s'.os=s₁.os/\AllBare s'.gens) s₁:=by
 have hL:=iZ hA;generalize hLe:listsOf (h:=s₁.heap) xs vs=L at hL;have hL2:∀p∈L,∃ws,s₁.heap.get? p.1=some { cls:=.type "list",data:=.seq ws.toArray }/\IntsAre ws p.2:=λp hp=>let ⟨ws,a,b,_⟩:=hL p hp;⟨ws,a,b⟩
 have hOnly:Only (H0 K s₁.heap L):=λb=>by
  cases q:H0 K s₁.heap L b with
  | none=>exact .inl rfl
  | some u =>
   obtain ⟨p,_,_,o,_,rfl,_⟩:=o8 q;exact .inr ⟨o,_,rfl⟩
 have hok:HOk P w (H0 K s₁.heap L) s₁.heap:=λb u e=>by
  obtain ⟨p,hp,rfl,o,ho,rfl,_⟩:=o8 e;obtain ⟨ws,g,i,m⟩:=hL p hp;have rv:=kg i;refine ⟨ho,by rw [List.length_map];exact hl _ m,ws,0,rv,g⟩
 have hArgs:o7 K (H0 K s₁.heap L) xs vs:=mJ hA λp hp=>by
  rw [hLe] at hp;obtain ⟨ws,g,i,m⟩:=hL p hp;cases hk:K.lookup p.1 with
  | none =>
   obtain ⟨o,e⟩:=H0_at hL2 hp hk;exact .inl (.inr ⟨o,e⟩)
  | some o =>
   have e:=KX p.1 o hk;rw [g] at e;cases e;exact .inr ⟨_,ws.toArray,_,hk,rfl,rfl,rfl,by rw [List.size_toArray,i.length];exact hl _ m,by simpa using kg i⟩
 generalize hH:H0 K s₁.heap L=H at hOnly hok hArgs;have base_of:∀{b:Addr}{o:Obj},s₁.heap.get? b=some o->H b=none->(hidT s₁.heap H).get? b=some o:=λe n=>wA e n;have noA:∀{b:Addr}{o:Obj}{es:Array DictEntry}{ep:Nat},s₁.heap.get? b=some o->o.data=.dict es ep->H b=none:=fun {b o es ep} e d=>by
  cases q:H b with
  | none=>rfl
  | some u =>
   rw [<- hH] at q;obtain ⟨p,hp,rfl,o',ho,rfl,_⟩:=o8 q;obtain ⟨ws,g,_⟩:=hL p hp;rw [g] at e;cases e;have d':Data.seq ws.toArray _=Data.dict es ep:=d;cases d'
 have nsK:∀{b:Addr}{m:Str->Option Value},s₁.heap.Ns b m->(hidT s₁.heap H).Ns b m:=fun {b m} ⟨o,es,ep,e,d,r⟩=>⟨o,es,ep,base_of e (noA e d),d,r⟩
 have hKb:K.In (hidT s₁.heap H):=λb o e=>base_of (KX b o e) (by
  cases q:H b with
  | none=>rfl
  | some u =>
   rw [<- hH] at q;obtain ⟨p,hp,rfl,o',ho,rfl,hn⟩:=o8 q;rw [hn] at e;cases e)
 have hM:Mod K mg (hidT s₁.heap H):=⟨hKb,nsK hns,⟨mb,nsK hb,hbb⟩,let ⟨mc,h1,h2⟩:=hlim;⟨mc,nsK h1,h2⟩⟩
 have e0:Env0 P w K mg (hidT s₁.heap H) callerA [] s₁ H:=⟨rfl,hM,λb o e=>yw e,Nat.le_of_eq (uD _ _),trivial,λb hb=>absurd (show b∈([]:List Addr) from hb) (by simp),hok,.of_eq hg⟩
 refine codeAny_mono ((F _ hKb (nsK hns)).run callerA [] s₁ H ⟨us,[]⟩ us vs _ _ hr e0 (hbind s₁) hA.vals (hsp H hOnly hArgs)) λr s' h=>?_;cases r with
 | error e=>exact (hCX H e s' h).elim
 | ok fl =>
  cases fl with
  | next=>exact False.elim h
  | brk=>exact False.elim h
  | cont=>exact False.elim h
  | ret u =>
   obtain ⟨v,H',os,bare,un,hok',r',p,rfl,hq⟩:=h;obtain rfl:u=Value.ref p:=r';have hOld:OldK s₁.heap s'.heap:=OldK.of_keep λb o e=>by
    cases q:H b with
    | none=>exact un.keep b o e q (by intro z;exact absurd (show b∈([]:List Addr) from z) (by simp)) (by simp)
    | some u =>
     rcases hOnly b with z | ⟨ob,xs,z⟩
     ·rw [q] at z;cases z
     ·have z2:=un.frzs b ob _ z;obtain ⟨e1,_⟩:=hok b _ z;obtain ⟨e2,_⟩:=hok' b _ z2;rw [e] at e1;cases e1;exact e2
   rcases hq with hq | ⟨o,its,n,hk,hc,hd,hda,_,hvs⟩
   ·obtain ⟨_,its,n,rv,g⟩:=hq.ok hok';exact ⟨p,_,its.toArray,n,rfl,g,rfl,rfl,by simpa using l5 rv,hOld,os,bare⟩
   ·have g:=KX p o hk;have hne:H p=none:=by
     cases q:H p with
     | none=>rfl
     | some u =>
      rw [<- hH] at q;obtain ⟨_,_,rfl,_,_,_,hn⟩:=o8 q;rw [hn] at hk;cases hk
    have g':=un.keep p o g hne (by intro z;exact absurd (show p∈([]:List Addr) from z) (by simp)) (by simp);exact ⟨p,o,its,n,rfl,g',hc,hda,l5 hvs,hOld,os,bare⟩
theorem l7 {R:W.WRecords}{cl:Str->Option Addr}{h:Heap}:∀{vs:List Value}{ns:List Int},IntsAre vs ns->W.ReadsAllW R cl h vs (ns.map .int) []
 | _,_,.nil=>.nil
 | _,_,.cons n t k=>.cons (as:=[]) (bs:=[]) (.int n t) (l7 k)
theorem vd {r:W.OpenSpec}{k:Nat}{q:Program}{loose:List Str}{XP:(Str->Option Value)->Heap->Prop}{YP:World->Heap->Prop}{d:DefRec}{K:Params->W.Frag}{CX:CXT}{sp:W.Frag->Sp}{ps:List Str}
  (hdf:d.params.defaults=[]) (hr:Room k callerA)
  (hY:∀(w:World) (h:Heap),YP w h->(K w.params).In h)
  (F:∀(w:World) (mg:Str->Option Value) (fa:Addr) (h:Heap),(K w.params).In h->h.Ns mainGlobals mg->mg d.name=some (.ref fa) ->
   ∃fd:FuncData,(∀(s:Shared) (us:List Value),us.length=ps.length->BindsTo s fd ⟨us,[]⟩ (ps.zip us)) /\
    ∀base:Heap,(K w.params).In base->base.Ns mainGlobals mg->FnOk r.prog w (K w.params) mg base CX k fa fd ps (sp (K w.params)))
  (hreq:∀args:List W.WData,r.pre args=true->∃(xs:List Arg) (ans:List Int),args=xs.map Arg.data/\xs.length=ps.length/\(∀l,Arg.nums l∈xs->l.length<=sizeLine)/\r.post args (.list (ans.map .int))=true /\
   ∀(K:W.Frag) (H:Hp) (vs:List V),Only H->o7 K H xs vs->sp K vs H (λv H'=>∃p,v=.ref p/\SqL K H' p (ans.map V.int)) λ_ _ _=>False)
  (hCX:∀(H:Hp) (s:Shared) (e:Value) (s':Shared),CX [] H s (λ_ _ _=>False) e s'->False) :
  W.WalkOS q loose XP YP r d [] (λf vs=>PySem.call f vs):=by
 intro w s₀ s₁ mg mb G Y fa o pm cd doc dV kV ho hd hcd hD hmg hg args vals as hpre hlay hrd hwl hlo;have KX:=hY w _ Y;obtain ⟨xs,ans,rfl,hxl,hlen,hpost,hsp⟩:=hreq args hpre;obtain ⟨vs,hA⟩:=r8 xs vals hwl;obtain ⟨fd,hb,hF⟩:=F w mg fa _ KX G.T.g hmg;refine W.enter_call (codeAny_mono (vc KX G.T.g G.T.b G.T.builtins G.T.nolimit hg hA hlen hr hF (λs=>hb s vals (by rw [hA.length.1,hxl])) (λH hO hH=>hsp (K w.params) H vs hO hH) λH e s'=>hCX H s₁ e s') λres s' hq=>?_);obtain ⟨p,o,ws,n,rfl,g,hc,hda,hi,h2,h3,h4⟩:=hq;exact ⟨.inl ⟨.ref p,.list (ans.map .int),[p],rfl,λ_=>rfl,.list g hc hda (l7 hi),hpost,λz=>absurd z Bool.false_ne_true⟩,h2,h3,h4⟩
end TW
namespace TW
open PySem PySem.Spec PyProof.Rows L2
def jJ {α:Type}(xs:List α)(i c:Nat):List α:=(List.range ((xs.length-i+c-1)/c)).filterMap λm=>xs[i+m*c]?
theorem qA (n i c:Nat)(hc:0<c):(if ((min i n:Nat):Int)<(n:Int) then ((n:Int)-((min i n:Nat):Int)+(c:Int)-1)/(c:Int) else 0).toNat=(n-i+c-1)/c:=by
 by_cases h:i<n
 ·rw [Nat.min_eq_left (by omega),if_pos (by omega)];have e:(n:Int)-(i:Int)+(c:Int)-1=((n-i+c-1:Nat):Int):=by omega
  rw [e,<- Int.natCast_ediv,Int.toNat_natCast]
 ·rw [Nat.min_eq_right (by omega),if_neg (by omega),show n-i=0 by omega,Nat.div_eq_of_lt (by omega)];rfl
theorem ki (n i c:Nat)(hc:0<c):sliceBounds (some (i:Int)) none (some (c:Int)) n=(((min i n:Nat):Int),(n:Int),(c:Int)):=by
 have h1:(c:Int) > 0:=by omega
 have h2:¬((i:Int)<0):=by omega
 simp only [sliceBounds,Option.getD_some,h1,if_true,h2,if_false];refine Prod.ext ?_ rfl;show max 0 (min (i:Int) (n:Int))=((min i n:Nat):Int);omega
theorem range_step (n i c:Nat)(hc:0<c):sliceRange ((min i n:Nat):Int) (n:Int) (c:Int)=(List.range ((n-i+c-1)/c)).map λm=>i+m*c:=by
 have h1:(c:Int) > 0:=by omega
 unfold sliceRange;simp only [h1,if_true];rw [qA n i c hc];refine List.map_congr_left λm hm=>?_;have hm:m<(n-i+c-1)/c:=by simpa using hm
 have hi:i<n:=by
  rcases Nat.lt_or_ge i n with q | q
  ·exact q
  ·rw [show n-i=0 by omega,Nat.div_eq_of_lt (by omega)] at hm;exact absurd hm (Nat.not_lt_zero _)
 rw [Nat.min_eq_left (by omega),Int.mul_comm,<- Int.natCast_mul,<- Int.natCast_add,Int.toNat_natCast]
theorem lD (its:List Value)(i c:Nat)(hc:0<c):slicePick its.toArray (some (i:Int)) none (some (c:Int))=(jJ its i c).toArray:=by
 unfold slicePick jJ;rw [List.size_toArray,ki its.length i c hc];dsimp only;rw [range_step its.length i c hc,List.filterMap_map];refine congrArg List.toArray (congrFun (congrArg List.filterMap ?_) _);funext m;simp
theorem kj {xs:List V}{us:List Value} (r:Vals xs us):∀ix:List Nat,Vals (ix.filterMap λm=>xs[m]?) (ix.filterMap λm=>us[m]?)
 | []=>.nil
 | m::ix=>by
  rw [List.filterMap_cons,List.filterMap_cons];cases e:xs[m]? with
  | none =>
   rw [r.none_of e];exact kj r ix
  | some x =>
   obtain ⟨u,hu,ru⟩:=r.get e;rw [hu];exact .cons ru (kj r ix)
theorem ve {xs:List V}{us:List Value} (r:Vals xs us) (i c:Nat):Vals (jJ xs i c) (jJ us i c):=by
 unfold jJ;rw [r.length];have e1:(List.range ((us.length-i+c-1)/c)).filterMap (λm=>xs[i+m*c]?)=((List.range ((us.length-i+c-1)/c)).map λm=>i+m*c).filterMap λk=>xs[k]?:=by rw [List.filterMap_map];rfl
 have e2:(List.range ((us.length-i+c-1)/c)).filterMap (λm=>us[i+m*c]?)=((List.range ((us.length-i+c-1)/c)).map λm=>i+m*c).filterMap λk=>us[k]?:=by rw [List.filterMap_map];rfl
 rw [e1,e2];exact kj r _
theorem kl {α:Type}(xs:List α)(i c:Nat)(hc:0<c):(jJ xs i c).length<=xs.length:=by
 refine Nat.le_trans (List.length_filterMap_le _ _) ?_;rw [List.length_range];rcases Nat.eq_zero_or_pos (xs.length-i) with z | z
 ·rw [z,Nat.div_eq_of_lt (by omega)];omega
 ·have:(xs.length-i+c-1)/c<=xs.length-i:=by
   rw [Nat.div_le_iff_le_mul_add_pred hc];have:xs.length-i<=c*(xs.length-i):=Nat.le_mul_of_pos_left _ hc;omega
  omega
section
variable {X:Cx}{e l st:Expr}{te tl ts:TE}{pos p2:Pos}
inductive vf (K:W.Frag)(Q:VK)(x:V)(y:V)(z:V)(H3:Hp):Prop
 | mk (a:Addr) (xs:List V) (i c:Nat):(x=.ref a)->(y=.int i)->(z=.int c)->(0<c)->(SqL K H3 a xs)->(∀p,H3 p=none->Q (.ref p) (upd H3 p (.lst (jJ xs i c))))->vf K Q x y z H3
def Af (K:W.Frag)(te tl ts:TE):TE:=λσ H Q=>te σ H λx H1=>tl σ H1 λy H2=>ts σ H2 λz H3=>vf K Q x y z H3
theorem km (he:PE X e te)(hl:PE X l tl)(hs:PE X st ts):PE X (.Subscript e (.Slice (some l) none (some st) p2) pos) (Af X.K te tl ts):=by
 intro pins s σ H Q I h;refine Subscript_ (thn (he pins s σ H _ I h) λv s1 hz=>?_);obtain ⟨x,H1,I1,r1,q1⟩:=hz;refine wpAny_Slice ?_;rw [evalPart_some,evalPart_none,evalPart_some];refine thn (hl pins s1 σ H1 _ I1 q1) λvl s2 hz=>?_;obtain ⟨y,H2,I2,r2,q2⟩:=hz;refine wpAny_pure (thn (hs pins s2 σ H2 _ I2 q2) λvs s3 hz=>?_);obtain ⟨z,H3,I3,r3,q3⟩:=hz;obtain ⟨a,xs,i,c,rfl,rfl,rfl,hc,hx,q⟩:=q3;obtain ⟨t2,rfl⟩:=r2;obtain ⟨t3,rfl⟩:=r3;cases r1;generalize hs4:({ s3 with heap:=s3.heap.push { cls:=.type "slice",data:=.fields #[.int (i:Int) t2,.none,.int (c:Int) t3] } }:Shared)=s4;have I4:Inv X pins σ H3 s4:=by rw [<- hs4];exact I3.kept (t':=s3.toks) λb ob q=>Heap.get?_push_of_some _ q
 have hsl:s4.heap.IsSliceOf s3.heap.objs.size (.int (i:Int) t2) .none (.int (c:Int) t3):=by rw [<- hs4];exact Heap.IsSliceOf.new ..
 obtain ⟨its,r,ht,hz⟩:=I4.list hx;have hlen:=r.length;have hg:wpAny (model X.prog X.w) X.A (getItem (.ref a) (.ref s3.heap.objs.size)) (EP X pins σ Q) X.xe s4:=by
  refine wpAny_getItem_list_slice ht.isList hsl (.int _ _) .none (.int _ _) (by intro z;have:=Option.some.inj z;omega) ?_ (by rw [List.size_toArray] <;> omega);rw [lD its i c hc];refine ⟨.ref s4.heap.objs.size,_,I4.laid (t':=s4.toks) (o:=.lst (jJ xs i c)) (λb ob q=>Heap.get?_push_of_some _ q) (Nat.le_refl _) ?_,rfl,q _ (I4.hok.fresh (Nat.le_refl _))⟩;exact ⟨Nat.le_trans (kl xs i c hc) hz,_,0,ve r i c,Heap.get?_push_size _ rfl⟩
 show wpAny (model X.prog X.w) X.A (subscriptTail e (.Slice (some l) none (some st) p2) (.ref a) (.ref s3.heap.objs.size)) (EP X pins σ Q) X.xe s4;exact tail_any (ops:=[.ref a,.ref s3.heap.objs.size]) ht.isList.typeIs slot_list_getitem.lookup hg (by with_unfolding_all rfl)
end
section
variable {prog:Program}{w:World}{A:Around}{E:Value->Shared->Prop}{s:Shared}
theorem dL {b:Addr}{its2:Array Value}{Q:Array Value->Shared->Prop} (hb:s.heap.IsList b its2) (h:Q its2 s) :
  wpAny (model prog w) A (Builtin.List.listItems (.ref b)) Q E s:=by
 obtain ⟨o,ho,hc,n,hd⟩:=id hb;unfold Builtin.List.listItems;exact wpAny_bind (wpAny_seqItems ho hd (wpAny_pure h))
theorem qB {b:Addr}{its2:Array Value}{m:String}{Q:Array Value->Shared->Prop} (hb:s.heap.IsList b its2) (h:Q its2 s) :
  wpAny (model prog w) A (Builtin.List.listAllItems (.ref b) m) Q E s:=by
 have hT:s.TypeIs (.ref b) "list":=hb.typeIs;unfold Builtin.List.listAllItems;refine wpAny_bind (wpAny_typeOf hT ?_);rw [if_pos (by decide)];exact dL hb h
theorem f8:∀(l:List (Nat×Value)) (xs:Array Value),(l.foldl (λxs (k,x)=>xs.setIfInBounds k x) xs).size=xs.size
 | [],_=>rfl
 | (k,x)::l,xs=>by
  rw [List.foldl_cons,f8 l];simp
theorem setItem_slice {l sl b:Addr}{items its2:Array Value}{n:Nat}{vl vu vst:Value}{lo hi sp:Option Int}{Q:Unit->Shared->Prop}
  (ho:s.heap.get? l=some { cls:=.type "list",data:=.seq items n }) (hs:s.heap.IsSliceOf sl vl vu vst) (pl:IsPart vl lo) (pu:IsPart vu hi) (pst:IsPart vst sp) (h0:sp≠some 0)
  (hb:s.heap.IsList b its2) (hsz:items.size<=sizeLine)
  (h1:(sliceBounds lo hi sp items.size).2.2=1->items.size+its2.size<=sizeLine/\Q () { s with heap:=s.heap.update l (Obj.mapSeq λxs=>xs.extract 0 (sliceBounds lo hi sp items.size).1.toNat++its2++xs.extract (max (sliceBounds lo hi sp items.size).1 (sliceBounds lo hi sp items.size).2.1).toNat xs.size) })
  (h2:¬(sliceBounds lo hi sp items.size).2.2=1->its2.size=(sliceRange (sliceBounds lo hi sp items.size).1 (sliceBounds lo hi sp items.size).2.1 (sliceBounds lo hi sp items.size).2.2).length /\
   Q () { s with heap:=s.heap.update l (Obj.mapSeq λxs=>((sliceRange (sliceBounds lo hi sp items.size).1 (sliceBounds lo hi sp items.size).2.1 (sliceBounds lo hi sp items.size).2.2).zip its2.toList).foldl (λxs (k,x)=>xs.setIfInBounds k x) xs) }) :
  wpAny (model prog w) A (setItem (.ref l) (.ref sl) (.ref b)) Q E s:=by
 obtain ⟨os,hos,hcs,hds⟩:=id hs;have hTs:s.TypeIs (.ref sl) "slice":=⟨os,hos,hcs⟩
 have hTl:s.TypeIs (.ref l) "list":=⟨_,ho,rfl⟩
 unfold setItem
 try with_reducible refine wpAny_holding ?_
 first | refine wpAny_bind (wpAny_pure ?_) | skip
 refine wpAny_bind (wpAny_sequenceKey hTl (by decide) ?_);refine wpAny_bind (wpAny_callSpecial?_slot (name:=Str.ofString "__setitem__") hTl slot_list_setitem
  (wpAny_call_entry slot_list_setitem hTl entry_list_setitem ?_ (args_list_setitem _ _ _)))
 show wpAny _ _ (Builtin.List.listSubscript? (.ref sl) >>= _) _ _ s;refine wpAny_bind ?_;unfold Builtin.List.listSubscript?;refine wpAny_bind (wpAny_specialOf hTs slice_no_index ?_);simp only [Option.isNone_none,if_true];refine wpAny_pure ?_;show wpAny _ _ (typeOf (.ref sl) >>= _) _ _ s;refine wpAny_bind (wpAny_typeOf hTs ?_);rw [if_neg (by decide)];rw [listSliceParts_eq];have hstep:¬((rawPart sp==rawInt 0)=true):=by
  cases sp with
  | none=>exact Bool.false_ne_true
  | some c =>
   intro hh;have:c=0:=by simpa [rawPart,rawInt] using hh
   exact h0 (by rw [this])
 refine wpAny_bind (wpAny_bind (wpAny_field hos hds (x:=vst) rfl (wpAny_bind (wpAny_listPart pst ?_))));rw [if_neg hstep];refine wpAny_bind (wpAny_field hos hds (x:=vl) rfl (wpAny_bind (wpAny_listPart pl ?_)));refine wpAny_bind (wpAny_field hos hds (x:=vu) rfl (wpAny_bind (wpAny_listPart pu (wpAny_pure ?_))));dsimp only;split
 all_goals
  first
   | refine wpAny_bind (dL hb ?_)
   | refine wpAny_bind (qB hb ?_)
  refine wpAny_bind (dL (PySem.IsL.isList (n:=n) ho) ?_);refine wpAny_bind (wpAny_of_eq (sliceIndices_raw lo hi sp items.size h0) ?_);generalize sliceBounds lo hi sp items.size=B at h1 h2;by_cases hB:B.2.2=1
  ·obtain ⟨hz,hq⟩:=h1 hB;rw [if_pos (by rw [hB];rfl)];refine wpAny_bind (wpAny_rule ?_);rw [if_neg (by unfold Builtin.List.listTooLong;simp;omega)];refine wpAny_bind (wpAny_updateSeq (a:=l) ho rfl ?_ (by omega) ?_)
   ·refine wpAny_bind (wpAny_letGo (wpAny_pure ⟨.none,rfl,wpAny_pure hq⟩))
   ·rw [Array.size_append,Array.size_append,Array.size_extract,Array.size_extract];omega
  ·obtain ⟨hz,hq⟩:=h2 hB;rw [if_neg (by simpa using hB),if_neg (by simpa using hz)];refine wpAny_bind (wpAny_rule ?_);refine wpAny_bind (wpAny_updateSeq (a:=l) ho rfl ?_ ?_ ?_)
   ·refine wpAny_bind (wpAny_letGo (wpAny_pure ⟨.none,rfl,wpAny_pure hq⟩))
   ·exact hsz
   ·rw [f8];omega
end
def setFrom {α:Type}:List α->List α->Nat->Nat->List α
 | xs,[],_,_=>xs
 | xs,z::zs,i,c=>setFrom (xs.set i z) zs (i+c) c
theorem setFrom_length {α:Type}:∀(zs xs:List α) (i c:Nat),(setFrom xs zs i c).length=xs.length
 | [],_,_,_=>rfl
 | z::zs,xs,i,c=>by
  show (setFrom (xs.set i z) zs (i+c) c).length=_;rw [setFrom_length zs,List.length_set]
theorem setFrom_get {α:Type}{c:Nat} (hc:0<c):∀(zs xs:List α) (i j:Nat),(setFrom xs zs i c)[j]?=if i<=j/\(j-i) % c=0/\(j-i)/c<zs.length/\j<xs.length then zs[(j-i)/c]? else xs[j]?
 | [],xs,i,j=>by
  rw [if_neg (by intro z;exact absurd z.2.2.1 (Nat.not_lt_zero _))];rfl
 | z::zs,xs,i,j=>by
  show (setFrom (xs.set i z) zs (i+c) c)[j]?=_;rw [setFrom_get hc zs (xs.set i z) (i+c) j,List.length_set];by_cases hj:j<xs.length
  ·by_cases h1:j=i
   ·subst h1;rw [if_neg (by omega),if_pos (by simp [hj])];simp [hj]
   ·by_cases h2:i<=j/\(j-i) % c=0
    ·have h3:c<=j-i:=by
      rcases Nat.lt_or_ge (j-i) c with q | q
      ·rw [Nat.mod_eq_of_lt q] at h2;omega
      ·exact q
     have e:j-i=(j-(i+c))+c:=by omega
     have e1:(j-i) % c=(j-(i+c)) % c:=by rw [e,Nat.add_mod_right]
     have e2:(j-i)/c=(j-(i+c))/c+1:=by rw [e,Nat.add_div_right _ hc]
     rw [e1] at h2;rw [e1,e2];by_cases h4:(j-(i+c))/c<zs.length
     ·rw [if_pos ⟨by omega,h2.2,h4,hj⟩,if_pos ⟨h2.1,h2.2,by simpa using h4,hj⟩];simp
     ·rw [if_neg (λq=>h4 q.2.2.1),if_neg (λq=>h4 (by simpa using q.2.2.1)),List.getElem?_set_ne (λq=>h1 q.symm)]
    ·have h2':¬(i+c<=j/\(j-(i+c)) % c=0):=by
      intro q;have e:j-i=(j-(i+c))+c:=by omega
      exact h2 ⟨by omega,by rw [e,Nat.add_mod_right];exact q.2⟩
     rw [if_neg (λq=>h2' ⟨q.1,q.2.1⟩),if_neg (λq=>h2 ⟨q.1,q.2.1⟩),List.getElem?_set_ne (λq=>h1 q.symm)]
  ·rw [if_neg (λq=>hj q.2.2.2),if_neg (λq=>hj q.2.2.2),List.getElem?_eq_none (by rw [List.length_set];omega),List.getElem?_eq_none (by omega)]
theorem ic:∀(zs xs:List Value) (i c:Nat),((((List.range zs.length).map λm=>i+m*c).zip zs).foldl (λ(xs:Array Value) (k,x)=>xs.setIfInBounds k x) xs.toArray)=(setFrom xs zs i c).toArray
 | [],xs,i,c=>rfl
 | z::zs,xs,i,c=>by
  rw [List.length_cons,List.range_succ_eq_map,List.map_cons,List.map_map,List.zip_cons_cons,List.foldl_cons];have e1:(xs.toArray.setIfInBounds (i+0*c) z)=(xs.set i z).toArray:=by simp
  have e2:((λm=>i+m*c) ∘ Nat.succ)=λm=>(i+c)+m*c:=by
   funext m;show i+(m+1)*c=i+c+m*c;rw [Nat.add_mul,Nat.one_mul];omega
  dsimp only;rw [e1,e2];exact ic zs (xs.set i z) (i+c) c
theorem vals_setFrom:∀{zs:List V}{ws:List Value}{xs:List V}{us:List Value} (i c:Nat),Vals zs ws->Vals xs us->Vals (TW.setFrom xs zs i c) (TW.setFrom us ws i c)
 | _,_,_,_,_,_,.nil,r=>r
 | _,_,_,_,i,c,.cons q t,r=>vals_setFrom (i+c) c t (r.set q i)
theorem setFrom_one {α:Type}(xs zs:List α)(i:Nat)(hi:i<=xs.length)(hz:zs.length=xs.length-i):xs.take i++zs=setFrom xs zs i 1:=by
 apply List.ext_getElem?;intro j;rw [setFrom_get (by decide),Nat.mod_one,Nat.div_one];by_cases hj:j<i
 ·rw [List.getElem?_append_left (by rw [List.length_take];omega),List.getElem?_take,if_pos hj,if_neg (by omega)]
 ·have hl:(xs.take i).length=i:=by rw [List.length_take];omega
  rw [List.getElem?_append_right (by omega),hl];by_cases hx:j<xs.length
  ·rw [if_pos ⟨by omega,rfl,by omega,hx⟩]
  ·rw [if_neg (λq=>hx q.2.2.2),List.getElem?_eq_none (by omega),List.getElem?_eq_none (by omega)]
section
variable {X:Cx}{o l u st:Expr}{to tl tu ts:TE}{pos p2:Pos}
inductive vg (K:W.Frag)(v:V)(σ:L2.St)(Q:L2.St->Hp->Prop)(x:V)(y:V)(z:V)(H3:Hp):Prop
 | mk (a b:Addr) (xs zs:List V) (i c:Nat):(x=.ref a)->(v=.ref b)->(y=.int i)->(z=.int c)->(0<c)->(i<=xs.length)->(H3 a=some (.lst xs))->(SqL K H3 b zs)->(zs.length=(xs.length-i+c-1)/c)->(xs.length+zs.length<=sizeLine)->(Q σ (upd H3 a (.lst (setFrom xs zs i c))))->vg K v σ Q x y z H3
def A1 (K:W.Frag)(to tl ts:TE):TG:=λv σ H Q=>to σ H λx H1=>tl σ H1 λy H2=>ts σ H2 λz H3=>vg K v σ Q x y z H3
theorem qC (ho:PE X o to)(hl:PE X l tl)(hs:PE X st ts)
  (ha:∀v,assign (.Subscript o (.Slice (some l) none (some st) p2) pos) X.env v=(do
   let ov <- holding [v] (eval o X.env)
   let iv <- holding [v,ov] (eval (.Slice (some l) none (some st) p2) X.env)
   standAt pos
   holding [v,ov,iv] (setItem ov iv v)
   release [v,ov,iv] []):=by intro _;rfl):PG X (.Subscript o (.Slice (some l) none (some st) p2) pos) (A1 X.K to tl ts):=by
 intro pins s σ H v uv Q I rv h;rw [ha];refine wpAny_bind (wpAny_holding (thn (ho pins s σ H _ I h) λov s1 hz=>?_));obtain ⟨x,H1,I1,r1,q1⟩:=hz;refine wpAny_bind (wpAny_holding (wpAny_Slice ?_));rw [evalPart_some,evalPart_none,evalPart_some];refine thn (hl pins s1 σ H1 _ I1 q1) λvl s2 hz=>?_;obtain ⟨y,H2,I2,r2,q2⟩:=hz;refine wpAny_pure (thn (hs pins s2 σ H2 _ I2 q2) λvs s3 hz=>?_);obtain ⟨z,H3,I3,r3,q3⟩:=hz;obtain ⟨a,b,xs,zs,i,c,rfl,rfl,rfl,rfl,hc,hi,hH,hb,hz,hsz,q⟩:=q3;obtain ⟨t2,rfl⟩:=r2;obtain ⟨t3,rfl⟩:=r3;cases r1;cases rv;generalize hs4:({ s3 with heap:=s3.heap.push { cls:=.type "slice",data:=.fields #[.int (i:Int) t2,.none,.int (c:Int) t3] } }:Shared)=s4;have I4:Inv X pins σ H3 s4:=by rw [<- hs4];exact I3.kept (t':=s3.toks) λb ob q=>Heap.get?_push_of_some _ q
 have hsl:s4.heap.IsSliceOf s3.heap.objs.size (.int (i:Int) t2) .none (.int (c:Int) t3):=by rw [<- hs4];exact Heap.IsSliceOf.new ..
 obtain ⟨zx,its,n,r,hlen,e⟩:=I4.lstM hH;obtain ⟨its2,r2,ht2,hz2⟩:=I4.list hb;have hlen2:=r2.length;refine wpAny_bind (wpAny_standAt (wpAny_bind (wpAny_holding ?_)));have eB:sliceBounds (some (i:Int)) none (some (c:Int)) its.toArray.size=(((min i its.length:Nat):Int),(its.length:Int),(c:Int)):=by rw [List.size_toArray];exact ki its.length i c hc
 have fin:∀f:Array Value->Array Value,f its.toArray=(setFrom its its2 i c).toArray ->
   wpAny (model X.prog X.w) X.A (release [Value.ref b,Value.ref a,Value.ref s3.heap.objs.size] []) (λ_ s'=>∃σ' H',Inv X pins σ' H' s'/\Q σ' H') X.xe { s4 with heap:=s4.heap.update a (Obj.mapSeq f) }:=λf hf =>
  wpAny_release ⟨σ,_,I4.lset (t':=s4.toks) hH e hf (vals_setFrom i c r2 r) (by rw [setFrom_length];exact zx),q⟩
 refine setItem_slice (lo:=some (i:Int)) (hi:=none) (sp:=some (c:Int)) e hsl (.int _ _) .none (.int _ _) (by intro z;have:=Option.some.inj z;omega) ht2.isList (by rw [List.size_toArray];omega) ?_ ?_
 ·rw [eB];dsimp only;intro h1;have hc1:c=1:=by omega
  subst hc1;refine ⟨by rw [List.size_toArray,List.size_toArray];omega,fin _ ?_⟩;have e1:(((min i its.length:Nat):Int)).toNat=i:=by rw [Int.toNat_natCast];omega
  have e2:(max ((min i its.length:Nat):Int) (its.length:Int)).toNat=its.length:=by omega
  rw [e1,e2,<- setFrom_one its its2 i (by omega) (by rw [<- hlen2,hz];rw [<- hlen];omega)];simp
 ·rw [eB];dsimp only;intro h1;rw [range_step its.length i c hc];have hz':its2.length=(its.length-i+c-1)/c:=by rw [<- hlen2,hz,hlen]
  refine ⟨by rw [List.size_toArray,List.length_map,List.length_range,hz'],fin _ ?_⟩;rw [<- hz'];exact ic its2 its i c
def js {α:Type}(xs zs:List α)(lo hi:Nat):List α:=xs.take lo++zs++xs.drop (max lo hi)
theorem qD {xs zs:List V}{us ws:List Value} (lo hi:Nat) (r:Vals xs us) (q:Vals zs ws):Vals (TW.js xs zs lo hi) (TW.js us ws lo hi) :=
 ((r.take lo).append q).append (r.drop _)
inductive yn (K:W.Frag)(v:V)(σ:L2.St)(Q:L2.St->Hp->Prop)(x:V)(y:V)(z:V)(H3:Hp):Prop
 | mk (a b:Addr) (xs zs:List V) (i j:Nat):(x=.ref a)->(v=.ref b)->(y=.int i)->(z=.int j)->(i<=xs.length)->(j<=xs.length)->(H3 a=some (.lst xs))->(SqL K H3 b zs)->(xs.length+zs.length<=sizeLine)->(Q σ (upd H3 a (.lst (js xs zs i j))))->yn K v σ Q x y z H3
def gCut (K:W.Frag)(to tl tu:TE):TG:=λv σ H Q=>to σ H λx H1=>tl σ H1 λy H2=>tu σ H2 λz H3=>yn K v σ Q x y z H3
theorem tO {n i j:Nat}(hi:i<=n)(hj:j<=n):sliceBounds (some (i:Int)) (some (j:Int)) none n=((i:Int),(j:Int),1):=by
 have h1:((1:Int) > 0):=by omega
 have h2:¬((i:Int)<0):=by omega
 have h3:¬((j:Int)<0):=by omega
 simp only [sliceBounds,Option.getD_none,h1,if_true,h2,h3,if_false];refine Prod.ext ?_ (Prod.ext ?_ rfl)
 ·show max 0 (min (i:Int) (n:Int))=(i:Int);omega
 ·show max 0 (min (j:Int) (n:Int))=(j:Int);omega
end
end TW
namespace TW
open PySem PyProof.Rows
theorem o9 (a b c:Value):checkTypeCall "zip" ⟨[a,b,c],[]⟩=pure ():=by kernel_rfl
theorem qE (a b c:Value):checkBuiltinCall "zip.__new__" ⟨[.type "zip",a,b,c],[]⟩=pure ():=by kernel_rfl
theorem wN (a b c d:Value):argsOk "object.__init__" ⟨[a,b,c,d],[]⟩:=by
 unfold argsOk;rw [signature?_of (id:="object.__init__") (n:=['_','_','t','i','n','i','_','_']) (o:=['t','c','e','j','b','o']) (by kernel_rfl) F.owner_object];kernel_rfl
abbrev aM (h:Heap)(T:Addr)(a b c:Value):Prop:=h.get? T=some { cls:=.type "tuple",data:=.seq #[a,b,c] }
section
variable {prog:Program}{w:World}{A:Around}{E:Value->Shared->Prop}{s:Shared}
theorem kn {T:Addr}{a b c x:Value}{k:Nat}{Q:Unit->Shared->Prop} (g:aM s.heap T a b c)
  (h:∀h',h'.get? T=some { cls:=.type "tuple",data:=.seq ((#[a,b,c]:Array Value).setIfInBounds k x) }->Heap.SameBut T s.heap h'->Q () { s with heap:=h' }) :
  wpAny (model prog w) A (updateSeq T λl=>l.setIfInBounds k x) Q E s:=by
 refine wpAny_updateSeq g rfl (h _ ?_ (Heap.SameBut.update ..));rw [Heap.get?_update_self _ g rfl];simp [Obj.mapSeq]
structure Apart3 (z TI TO i1 i2 i3 l1 l2 l3:Addr):Prop where
 it:∀i∈[i1,i2,i3],i≠z/\i≠TO/\i≠TI
 ti:TI≠z/\TI≠TO
 to_:TO≠z
 ab:i1≠i2/\i1≠i3/\i2≠i3
 ls:∀l∈[l1,l2,l3],l≠z/\l≠TO/\l≠i1/\l≠i2/\l≠i3
theorem Apart3.n1 {z TI TO i1 i2 i3 l1 l2 l3:Addr}(D:Apart3 z TI TO i1 i2 i3 l1 l2 l3):i1≠z/\i1≠TO/\i1≠TI:=D.it i1 (by simp)
theorem Apart3.n2 {z TI TO i1 i2 i3 l1 l2 l3:Addr}(D:Apart3 z TI TO i1 i2 i3 l1 l2 l3):i2≠z/\i2≠TO/\i2≠TI:=D.it i2 (by simp)
theorem Apart3.n3 {z TI TO i1 i2 i3 l1 l2 l3:Addr}(D:Apart3 z TI TO i1 i2 i3 l1 l2 l3):i3≠z/\i3≠TO/\i3≠TI:=D.it i3 (by simp)
theorem Apart3.m1 {z TI TO i1 i2 i3 l1 l2 l3:Addr}(D:Apart3 z TI TO i1 i2 i3 l1 l2 l3):l1≠z/\l1≠TO/\l1≠i1/\l1≠i2/\l1≠i3:=D.ls l1 (by simp)
theorem Apart3.m2 {z TI TO i1 i2 i3 l1 l2 l3:Addr}(D:Apart3 z TI TO i1 i2 i3 l1 l2 l3):l2≠z/\l2≠TO/\l2≠i1/\l2≠i2/\l2≠i3:=D.ls l2 (by simp)
theorem Apart3.m3 {z TI TO i1 i2 i3 l1 l2 l3:Addr}(D:Apart3 z TI TO i1 i2 i3 l1 l2 l3):l3≠z/\l3≠TO/\l3≠i1/\l3≠i2/\l3≠i3:=D.ls l3 (by simp)
def lF (z TO i1 i2 i3:Addr)(h h':Heap):Prop:=∀p ob,p≠z->p≠TO->p≠i1->p≠i2->p≠i3->h.get? p=some ob->h'.get? p=some ob
theorem vh {z TI TO i1 i2 i3 l1 l2 l3:Addr}{k:Nat}{xs ys zs:Array Value}{x y u a b c:Value}{Q:Value->Shared->Prop} (D:Apart3 z TI TO i1 i2 i3 l1 l2 l3)
  (gz:IsZip s.heap z TI TO .none) (gI:aM s.heap TI (.ref i1) (.ref i2) (.ref i3)) (gO:aM s.heap TO a b c)
  (h1:s.heap.IsListIter i1 l1 k) (h2:s.heap.IsListIter i2 l2 k) (h3:s.heap.IsListIter i3 l3 k) (hl1:s.heap.IsList l1 xs) (hl2:s.heap.IsList l2 ys) (hl3:s.heap.IsList l3 zs)
  (hx:xs[k]?=some x) (hy:ys[k]?=some y) (hu:zs[k]?=some u)
  (fin:∀h',IsZip h' z TI TO (rawInt s.heap.objs.size)->aM h' TO x y u->h'.IsListIter i1 l1 (k+1)->h'.IsListIter i2 l2 (k+1)->h'.IsListIter i3 l3 (k+1)->aM h' s.heap.objs.size x y u->h'.objs.size=s.heap.objs.size+1 ->
   lF z TO i1 i2 i3 s.heap h'->Q (.ref s.heap.objs.size) { s with heap:=h' }) :
  wpAny (model prog w) A (Builtin.«zip.__next__» ⟨[.ref z],[]⟩) (λr s'=>∃v,r=.done (.ret v)/\Q v s') E s:=by
 obtain ⟨n1z,n1O,n1I⟩:=D.n1;obtain ⟨n2z,n2O,n2I⟩:=D.n2;obtain ⟨n3z,n3O,n3I⟩:=D.n3;obtain ⟨n12,n13,n23⟩:=D.ab;obtain ⟨m1z,m1O,m11,m12,m13⟩:=D.m1;obtain ⟨m2z,m2O,m21,m22,m23⟩:=D.m2;obtain ⟨m3z,m3O,m31,m32,m33⟩:=D.m3;have nOz:=D.to_;show wpAny _ _ (field (.ref z) 2 >>= _) _ _ s;refine wpAny_bind (wpAny_field gz rfl (x:=.bool false) rfl ?_);show wpAny _ _ (field (.ref z) 3 >>= _) _ _ s;refine wpAny_bind (wpAny_field gz rfl (x:=.ref TI) rfl ?_);refine wpAny_bind (wpAny_seqItems gI rfl ?_);show wpAny _ _ (Builtin.SmallTypes.ownedTupleIsFree (.ref z) >>= _) _ _ s;refine wpAny_bind ?_;unfold Builtin.SmallTypes.ownedTupleIsFree;refine wpAny_bind (wpAny_field gz rfl (x:=.none) rfl (wpAny_pure ?_));simp only [if_true];refine wpAny_bind (wpAny_rule (wpAny_bind (wpAny_field gz rfl (x:=.ref TO) rfl ?_)));refine wpAny_bind (wpAny_setField_rec gz (by simp) λhA gA sA=>?_);replace gA:IsZip hA z TI TO .ellipsis:=gA;refine wpAny_bind ?_;simp only [List.zipIdx_cons,List.zipIdx_nil,List.forIn_cons,List.forIn_nil];refine wpAny_bind (wpAny_bind (wpAny_onRaise ?_));show wpAny _ _ (Builtin.SmallTypes.nextOf (.ref i1) >>= _) _ _ _;refine wpAny_bind (wpAny_nextOf_list_item (h1.extBut sA.extBut n1z) (hl1.extBut sA.extBut m1z) hx λhB iB sB=>wpAny_pure ?_);have oB:aM hB TO a b c:=sB.extBut _ _ (Ne.symm n1O) (sA.extBut _ _ nOz gO);refine wpAny_bind (wpAny_seqItems oB rfl (wpAny_bind (kn oB λhC oC sC=>?_)));replace oC:aM hC TO x b c:=oC;refine wpAny_bind (wpAny_letGo (wpAny_pure ?_));refine wpAny_bind (wpAny_bind (wpAny_onRaise ?_));show wpAny _ _ (Builtin.SmallTypes.nextOf (.ref i2) >>= _) _ _ _;refine wpAny_bind (wpAny_nextOf_list_item (((h2.extBut sA.extBut n2z).extBut sB.extBut (Ne.symm n12)).extBut sC.extBut n2O)
  (((hl2.extBut sA.extBut m2z).extBut sB.extBut m21).extBut sC.extBut m2O) hy λhD iD sD=>wpAny_pure ?_)
 have oD:aM hD TO x b c:=sD.extBut _ _ (Ne.symm n2O) oC;refine wpAny_bind (wpAny_seqItems oD rfl (wpAny_bind (kn oD λhE oE sE=>?_)));replace oE:aM hE TO x y c:=oE;refine wpAny_bind (wpAny_letGo (wpAny_pure ?_));refine wpAny_bind (wpAny_bind (wpAny_onRaise ?_));show wpAny _ _ (Builtin.SmallTypes.nextOf (.ref i3) >>= _) _ _ _;refine wpAny_bind (wpAny_nextOf_list_item (((((h3.extBut sA.extBut n3z).extBut sB.extBut (Ne.symm n13)).extBut sC.extBut n3O).extBut sD.extBut (Ne.symm n23)).extBut sE.extBut n3O)
  (((((hl3.extBut sA.extBut m3z).extBut sB.extBut m31).extBut sC.extBut m3O).extBut sD.extBut m32).extBut sE.extBut m3O) hu λhF iF sF=>wpAny_pure ?_)
 have oF:aM hF TO x y c:=sF.extBut _ _ (Ne.symm n3O) oE;refine wpAny_bind (wpAny_seqItems oF rfl (wpAny_bind (kn oF λhG oG sG=>?_)));replace oG:aM hG TO x y u:=oG;refine wpAny_bind (wpAny_letGo (wpAny_pure (wpAny_pure ?_)));refine wpAny_bind (wpAny_seqItems oG rfl (wpAny_bind (wpAny_newTuple ?_)));have sz:hG.objs.size=s.heap.objs.size:=by rw [sG.1,sF.1,sE.1,sD.1,sC.1,sB.1,sA.1]
 have gG:IsZip hG z TI TO .ellipsis:=sG.extBut _ _ (Ne.symm nOz) (sF.extBut _ _ (Ne.symm n3z) (sE.extBut _ _ (Ne.symm nOz) (sD.extBut _ _ (Ne.symm n2z) (sC.extBut _ _ (Ne.symm nOz) (sB.extBut _ _ (Ne.symm n1z) gA)))));have kG:lF z TO i1 i2 i3 s.heap hG:=λp ob p1 p2 p3 p4 p5 q =>
  sG.extBut _ _ p2 (sF.extBut _ _ p5 (sE.extBut _ _ p2 (sD.extBut _ _ p4 (sC.extBut _ _ p2 (sB.extBut _ _ p3 (sA.extBut _ _ p1 q))))))
 have j1:hG.IsListIter i1 l1 (k+1):=((((iB.extBut sC.extBut n1O).extBut sD.extBut n12).extBut sE.extBut n1O).extBut sF.extBut n13).extBut sG.extBut n1O;have j2:hG.IsListIter i2 l2 (k+1):=((iD.extBut sE.extBut n2O).extBut sF.extBut n23).extBut sG.extBut n2O;have j3:hG.IsListIter i3 l3 (k+1):=iF.extBut sG.extBut n3O;have zlt:z<hG.objs.size:=Heap.lt_size gG;show wpAny _ _ (Builtin.SmallTypes.ownedTupleHandOut (.ref z) (.ref hG.objs.size) >>= _) _ _ _;refine wpAny_bind ?_;unfold Builtin.SmallTypes.ownedTupleHandOut;have gP:IsZip (hG.push { cls:=.type "tuple",data:=.seq #[x,y,u] }) z TI TO .ellipsis:=Heap.get?_push_of_some _ gG;refine wpAny_bind (wpAny_setField_rec gP (by simp) λhR gR sR=>?_);replace gR:IsZip hR z TI TO (rawInt hG.objs.size):=gR;refine wpAny_setField_rec gR (by simp) λhS gS sS=>?_;replace gS:IsZip hS z TI TO (rawInt hG.objs.size):=gS;have up:∀p ob,p≠z->hG.get? p=some ob->hS.get? p=some ob:=λp ob p1 q=>sS.extBut _ _ p1 (sR.extBut _ _ p1 (Heap.get?_push_of_some _ q));have tS:aM hS hG.objs.size x y u:=sS.extBut _ _ (Nat.ne_of_gt zlt) (sR.extBut _ _ (Nat.ne_of_gt zlt) (Heap.get?_push_size _ rfl));have zS:hS.objs.size=hG.objs.size+1:=by rw [sS.1,sR.1,Heap.size_push]
 rw [sz] at gS tS zS;refine wpAny_pure ⟨_,rfl,?_⟩;show Q (.ref hG.objs.size) _;rw [sz];exact fin hS gS (up _ _ nOz oG) (j1.at λob q=>up _ ob n1z q) (j2.at λob q=>up _ ob n2z q) (j3.at λob q=>up _ ob n3z q) tS zS λp ob p1 p2 p3 p4 p5 q=>up p ob p1 (kG p ob p1 p2 p3 p4 p5 q)
theorem vi {z TI TO i1 i2 i3 l1 l2 l3:Addr}{k:Nat}{xs ys zs:Array Value}{a b c:Value}{Q:Fin->Shared->Prop} (calm:A.handled=none) (D:Apart3 z TI TO i1 i2 i3 l1 l2 l3)
  (gz:IsZip s.heap z TI TO .none) (gI:aM s.heap TI (.ref i1) (.ref i2) (.ref i3)) (gO:aM s.heap TO a b c)
  (h1:s.heap.IsListIter i1 l1 k) (h2:s.heap.IsListIter i2 l2 k) (h3:s.heap.IsListIter i3 l3 k) (hl1:s.heap.IsList l1 xs) (hl2:s.heap.IsList l2 ys) (hl3:s.heap.IsList l3 zs)
  (ends:xs[k]?=none\/ys[k]?=none\/zs[k]?=none)
  (fin:∀h' e,lF z TO i1 i2 i3 s.heap h'->(∃ob,h'.get? e=some ob/\ob.cls=.type "StopIteration")->E (.ref e) { s with heap:=h' }) :
  wpAny (model prog w) A (Builtin.«zip.__next__» ⟨[.ref z],[]⟩) Q E s:=by
 obtain ⟨n1z,n1O,n1I⟩:=D.n1;obtain ⟨n2z,n2O,n2I⟩:=D.n2;obtain ⟨n3z,n3O,n3I⟩:=D.n3;obtain ⟨n12,n13,n23⟩:=D.ab;obtain ⟨m1z,m1O,m11,m12,m13⟩:=D.m1;obtain ⟨m2z,m2O,m21,m22,m23⟩:=D.m2;obtain ⟨m3z,m3O,m31,m32,m33⟩:=D.m3;have nOz:=D.to_;have noz:∀{h:Heap}{e:Addr}{ob:Obj},IsZip h z TI TO .ellipsis->h.get? e=some ob->ob.cls=.type "StopIteration"->e≠z:=fun {h e ob} g q qc he=>by
  subst he;rw [g] at q;cases q;simp at qc
 show wpAny _ _ (field (.ref z) 2 >>= _) _ _ s;refine wpAny_bind (wpAny_field gz rfl (x:=.bool false) rfl ?_);show wpAny _ _ (field (.ref z) 3 >>= _) _ _ s;refine wpAny_bind (wpAny_field gz rfl (x:=.ref TI) rfl ?_);refine wpAny_bind (wpAny_seqItems gI rfl ?_);show wpAny _ _ (Builtin.SmallTypes.ownedTupleIsFree (.ref z) >>= _) _ _ s;refine wpAny_bind ?_;unfold Builtin.SmallTypes.ownedTupleIsFree;refine wpAny_bind (wpAny_field gz rfl (x:=.none) rfl (wpAny_pure ?_));simp only [if_true];refine wpAny_bind (wpAny_rule (wpAny_bind (wpAny_field gz rfl (x:=.ref TO) rfl ?_)));refine wpAny_bind (wpAny_setField_rec gz (by simp) λhA gA sA=>?_);replace gA:IsZip hA z TI TO .ellipsis:=gA;refine wpAny_bind ?_;simp only [List.zipIdx_cons,List.zipIdx_nil,List.forIn_cons,List.forIn_nil];refine wpAny_bind (wpAny_bind (wpAny_onRaise ?_));show wpAny _ _ (Builtin.SmallTypes.nextOf (.ref i1) >>= _) _ _ _;cases hx:xs[k]? with
 | none =>
  refine wpAny_bind (wpAny_nextOf_list_end calm (h1.extBut sA.extBut n1z) (hl1.extBut sA.extBut m1z) hx λhB e sB ⟨ob,qe,qc⟩=>?_);have gB:IsZip hB z TI TO .ellipsis:=sB _ _ (Ne.symm n1z) gA;exact wpAny_setField_rec gB (by simp) λhC _ sC=>fin hC e (λp o p1 p2 p3 p4 p5 q=>sC.extBut _ _ p1 (sB _ _ p3 (sA.extBut _ _ p1 q))) ⟨ob,sC.extBut _ _ (noz gB qe qc) qe,qc⟩
 | some x =>
  refine wpAny_bind (wpAny_nextOf_list_item (h1.extBut sA.extBut n1z) (hl1.extBut sA.extBut m1z) hx λhB iB sB=>wpAny_pure ?_);have oB:aM hB TO a b c:=sB.extBut _ _ (Ne.symm n1O) (sA.extBut _ _ nOz gO);refine wpAny_bind (wpAny_seqItems oB rfl (wpAny_bind (kn oB λhC oC sC=>?_)));replace oC:aM hC TO x b c:=oC;refine wpAny_bind (wpAny_letGo (wpAny_pure ?_));refine wpAny_bind (wpAny_bind (wpAny_onRaise ?_));show wpAny _ _ (Builtin.SmallTypes.nextOf (.ref i2) >>= _) _ _ _;have t2:=((h2.extBut sA.extBut n2z).extBut sB.extBut (Ne.symm n12)).extBut sC.extBut n2O;have u2:=((hl2.extBut sA.extBut m2z).extBut sB.extBut m21).extBut sC.extBut m2O;have gC:IsZip hC z TI TO .ellipsis:=sC.extBut _ _ (Ne.symm nOz) (sB.extBut _ _ (Ne.symm n1z) gA);cases hy:ys[k]? with
  | none =>
   refine wpAny_bind (wpAny_nextOf_list_end calm t2 u2 hy λhD e sD ⟨ob,qe,qc⟩=>?_);have gD:IsZip hD z TI TO .ellipsis:=sD _ _ (Ne.symm n2z) gC;exact wpAny_setField_rec gD (by simp) λhE _ sE=>fin hE e (λp o p1 p2 p3 p4 p5 q=>sE.extBut _ _ p1 (sD _ _ p4 (sC.extBut _ _ p2 (sB.extBut _ _ p3 (sA.extBut _ _ p1 q))))) ⟨ob,sE.extBut _ _ (noz gD qe qc) qe,qc⟩
  | some y =>
   have hu:zs[k]?=none:=by
    rcases ends with q | q | q
    ·rw [hx] at q;cases q
    ·rw [hy] at q;cases q
    ·exact q
   refine wpAny_bind (wpAny_nextOf_list_item t2 u2 hy λhD iD sD=>wpAny_pure ?_);have oD:aM hD TO x b c:=sD.extBut _ _ (Ne.symm n2O) oC;refine wpAny_bind (wpAny_seqItems oD rfl (wpAny_bind (kn oD λhE oE sE=>?_)));refine wpAny_bind (wpAny_letGo (wpAny_pure ?_));refine wpAny_bind (wpAny_bind (wpAny_onRaise ?_));show wpAny _ _ (Builtin.SmallTypes.nextOf (.ref i3) >>= _) _ _ _;have gE:IsZip hE z TI TO .ellipsis:=sE.extBut _ _ (Ne.symm nOz) (sD.extBut _ _ (Ne.symm n2z) gC);refine wpAny_bind (wpAny_nextOf_list_end calm (((((h3.extBut sA.extBut n3z).extBut sB.extBut (Ne.symm n13)).extBut sC.extBut n3O).extBut sD.extBut (Ne.symm n23)).extBut sE.extBut n3O)
    (((((hl3.extBut sA.extBut m3z).extBut sB.extBut m31).extBut sC.extBut m3O).extBut sD.extBut m32).extBut sE.extBut m3O) hu λhF e sF ⟨ob,qe,qc⟩=>?_)
   have gF:IsZip hF z TI TO .ellipsis:=sF _ _ (Ne.symm n3z) gE;exact wpAny_setField_rec gF (by simp) λhG _ sG=>fin hG e (λp o p1 p2 p3 p4 p5 q=>sG.extBut _ _ p1 (sF _ _ p5 (sE.extBut _ _ p2 (sD.extBut _ _ p4 (sC.extBut _ _ p2 (sB.extBut _ _ p3 (sA.extBut _ _ p1 q))))))) ⟨ob,sG.extBut _ _ (noz gF qe qc) qe,qc⟩
theorem ko {z TI TO i1 i2 i3 l1 l2 l3:Addr}{k:Nat}{xs ys zs:Array Value}{x y u a b c:Value}{Q:Option Value->Shared->Prop} (D:Apart3 z TI TO i1 i2 i3 l1 l2 l3)
  (gz:IsZip s.heap z TI TO .none) (gI:aM s.heap TI (.ref i1) (.ref i2) (.ref i3)) (gO:aM s.heap TO a b c)
  (h1:s.heap.IsListIter i1 l1 k) (h2:s.heap.IsListIter i2 l2 k) (h3:s.heap.IsListIter i3 l3 k) (hl1:s.heap.IsList l1 xs) (hl2:s.heap.IsList l2 ys) (hl3:s.heap.IsList l3 zs)
  (hx:xs[k]?=some x) (hy:ys[k]?=some y) (hu:zs[k]?=some u)
  (fin:∀h',IsZip h' z TI TO (rawInt s.heap.objs.size)->aM h' TO x y u->h'.IsListIter i1 l1 (k+1)->h'.IsListIter i2 l2 (k+1)->h'.IsListIter i3 l3 (k+1)->aM h' s.heap.objs.size x y u->h'.objs.size=s.heap.objs.size+1 ->
   lF z TO i1 i2 i3 s.heap h'->Q (some (.ref s.heap.objs.size)) { s with heap:=h' }):wpAny (model prog w) A (pyNext (.ref z)) Q E s:=by
 have ty:s.TypeIs (.ref z) "zip":=⟨_,gz,rfl⟩
 unfold pyNext;refine wpAny_bind (wpAny_attempt (wpAny_callSpecial?_slot (name:=Str.ofString "__next__") ty F.slot_zip_next (wpAny_call_entry F.slot_zip_next ty F.entry_zip_next ?_ (F.args_zip_next_1 _))));exact vh D gz gI gO h1 h2 h3 hl1 hl2 hl3 hx hy hu λh' b1 b2 b3 b4 b5 b6 b7 b8=>wpAny_pure (fin h' b1 b2 b3 b4 b5 b6 b7 b8)
theorem pyNext_zip3_end {z TI TO i1 i2 i3 l1 l2 l3:Addr}{k:Nat}{xs ys zs:Array Value}{a b c:Value}{Q:Option Value->Shared->Prop} (calm:A.handled=none) (D:Apart3 z TI TO i1 i2 i3 l1 l2 l3)
  (gz:IsZip s.heap z TI TO .none) (gI:aM s.heap TI (.ref i1) (.ref i2) (.ref i3)) (gO:aM s.heap TO a b c)
  (h1:s.heap.IsListIter i1 l1 k) (h2:s.heap.IsListIter i2 l2 k) (h3:s.heap.IsListIter i3 l3 k) (hl1:s.heap.IsList l1 xs) (hl2:s.heap.IsList l2 ys) (hl3:s.heap.IsList l3 zs)
  (ends:xs[k]?=none\/ys[k]?=none\/zs[k]?=none)
  (fin:∀h',lF z TO i1 i2 i3 s.heap h'->Q none { s with heap:=h' }):wpAny (model prog w) A (pyNext (.ref z)) Q E s:=by
 have ty:s.TypeIs (.ref z) "zip":=⟨_,gz,rfl⟩
 unfold pyNext;refine wpAny_bind (wpAny_attempt (wpAny_callSpecial?_slot (name:=Str.ofString "__next__") ty F.slot_zip_next (wpAny_call_entry F.slot_zip_next ty F.entry_zip_next ?_ (F.args_zip_next_1 _))));refine vi calm D gz gI gO h1 h2 h3 hl1 hl2 hl3 ends λh' e kz ⟨ob,qe,qc⟩=>?_;refine wpAny_bind (wpAny_isInstance (T:="StopIteration") (b:=true) ⟨ob,qe,qc⟩ isSubtype_stop (wpAny_pure (fin _ kz)))
abbrev zA (h:Heap)(l:Addr):Heap:=h.push { cls:=.type "list_iterator",data:=.fields #[.ref l,.int 0 0] }
abbrev zT (h:Heap)(l1 l2 l3:Addr):Heap:=(zA (zA (zA h l1) l2) l3).push { cls:=.type "tuple",data:=.seq #[.ref h.objs.size,.ref (zA h l1).objs.size,.ref (zA (zA h l1) l2).objs.size] }
abbrev zN (h:Heap)(l1 l2 l3:Addr):Heap:=(zT h l1 l2 l3).push { cls:=.type "tuple",data:=.seq #[.none,.none,.none] }
abbrev zZ (h:Heap)(l1 l2 l3:Addr):Heap:=(zN h l1 l2 l3).push { cls:=.type "zip",data:=.fields #[.none,.bool false,.bool false,.ref (zA (zA (zA h l1) l2) l3).objs.size,.ref (zT h l1 l2 l3).objs.size] }
theorem tP (l1 l2 l3:Addr)(xs ys zs:Array Value) :
  Meets (Builtin.«zip.__new__» ⟨[.type "zip",.ref l1,.ref l2,.ref l3],[]⟩) (λ_ R s=>s.heap.IsList l1 xs/\s.heap.IsList l2 ys/\s.heap.IsList l3 zs /\
   R (.ok (.ret (.ref (zN s.heap l1 l2 l3).objs.size))) { s with heap:=zZ s.heap l1 l2 l3 }) :=
 .of_wp λprog w A R s h=>by
  obtain ⟨hp,g,d,tk,os⟩:=s;obtain ⟨hl1,hl2,hl3,h⟩:=h;have hsub:=sub_zip;have q1:Heap.IsList (Shared.heap ⟨hp,g,d,tk,os⟩) l1 xs:=hl1;have q2:Heap.IsList (Shared.heap ⟨hp.push { cls:=.type "list_iterator",data:=.fields #[.ref l1,.int 0 0] },g,d,tk,os⟩) l2 ys:=Heap.IsList.push hl2 _;have q3:Heap.IsList (Shared.heap ⟨(hp.push { cls:=.type "list_iterator",data:=.fields #[.ref l1,.int 0 0] }).push { cls:=.type "list_iterator",data:=.fields #[.ref l2,.int 0 0] },g,d,tk,os⟩) l3 zs:=Heap.IsList.push (Heap.IsList.push hl3 _) _
  wp_walk using wpAny_pyIter_list q1,wpAny_pyIter_list q2,wpAny_pyIter_list q3
  exact ⟨_,rfl,h⟩
theorem pc {l1 l2 l3:Addr}{xs ys zs:Array Value}{Q:Value->Shared->Prop} (hl1:s.heap.IsList l1 xs) (hl2:s.heap.IsList l2 ys) (hl3:s.heap.IsList l3 zs)
  (h:∀h',IsZip h' (s.heap.objs.size+5) (s.heap.objs.size+3) (s.heap.objs.size+4) .none->aM h' (s.heap.objs.size+3) (.ref s.heap.objs.size) (.ref (s.heap.objs.size+1)) (.ref (s.heap.objs.size+2)) ->
   aM h' (s.heap.objs.size+4) .none .none .none->h'.IsListIter s.heap.objs.size l1 0->h'.IsListIter (s.heap.objs.size+1) l2 0->h'.IsListIter (s.heap.objs.size+2) l3 0 ->
   (∀p ob,s.heap.get? p=some ob->h'.get? p=some ob)->Q (.ref (s.heap.objs.size+5)) { s with heap:=h' }) :
  wpAny (model prog w) A (call (.type "zip") [.ref l1,.ref l2,.ref l3]) Q E s:=by
 refine callType_new F.called_zip (by decide) (o9 _ _ _) (qE _ _ _) (λobj=>wN obj _ _ _) F.entry_zip_new (tP l1 l2 l3 xs ys zs) ⟨hl1,hl2,hl3,?_⟩;have z1:(zA s.heap l1).objs.size=s.heap.objs.size+1:=Heap.size_push ..;have z2:(zA (zA s.heap l1) l2).objs.size=s.heap.objs.size+2:=by rw [Heap.size_push,z1]
 have z3:(zA (zA (zA s.heap l1) l2) l3).objs.size=s.heap.objs.size+3:=by rw [Heap.size_push,z2]
 have z4:(zT s.heap l1 l2 l3).objs.size=s.heap.objs.size+4:=by rw [Heap.size_push,z3]
 have z5:(zN s.heap l1 l2 l3).objs.size=s.heap.objs.size+5:=by rw [Heap.size_push,z4]
 have g6:(zZ s.heap l1 l2 l3).get? (zN s.heap l1 l2 l3).objs.size=some _:=Heap.get?_push_size _ rfl;have g5:(zZ s.heap l1 l2 l3).get? (zT s.heap l1 l2 l3).objs.size=some _:=Heap.get?_push_of_some _ (Heap.get?_push_size _ rfl);have g4:(zZ s.heap l1 l2 l3).get? (zA (zA (zA s.heap l1) l2) l3).objs.size=some _:=Heap.get?_push_of_some _ (Heap.get?_push_of_some _ (Heap.get?_push_size _ rfl));have g3:(zZ s.heap l1 l2 l3).get? (zA (zA s.heap l1) l2).objs.size=some _:=Heap.get?_push_of_some _ (Heap.get?_push_of_some _ (Heap.get?_push_of_some _ (Heap.get?_push_size _ rfl)));have g2:(zZ s.heap l1 l2 l3).get? (zA s.heap l1).objs.size=some _:=Heap.get?_push_of_some _ (Heap.get?_push_of_some _ (Heap.get?_push_of_some _ (Heap.get?_push_of_some _ (Heap.get?_push_size _ rfl))));have g1:(zZ s.heap l1 l2 l3).get? s.heap.objs.size=some _:=Heap.get?_push_of_some _ (Heap.get?_push_of_some _ (Heap.get?_push_of_some _ (Heap.get?_push_of_some _ (Heap.get?_push_of_some _ (Heap.get?_push_size _ rfl)))));show _/\_;rw [z3,z4,z5] at g6;rw [z1,z2,z3] at g4;rw [z4] at g5;rw [z2] at g3;rw [z1] at g2;rw [z5];exact ⟨⟨_,g6,rfl⟩,h _ g6 g4 g5 ⟨_,g1,rfl,rfl⟩ ⟨_,g2,rfl,rfl⟩ ⟨_,g3,rfl,rfl⟩ λp ob q =>
  Heap.get?_push_of_some _ (Heap.get?_push_of_some _ (Heap.get?_push_of_some _ (Heap.get?_push_of_some _ (Heap.get?_push_of_some _ (Heap.get?_push_of_some _ q)))))⟩
end
end TW
namespace TW
open PySem PySem.Spec PyProof.Rows L2
def Itz3 (K:W.Frag)(a b c:Addr):It :=
 ⟨λi H=>∃(xs ys zs:List V) (x y z:V),SqL K H a xs/\SqL K H b ys/\SqL K H c zs/\xs[i]?=some x/\ys[i]?=some y/\zs[i]?=some z,
  λi H v H'=>∃T x y z,v=.ref T/\H T=none/\H'=upd H T (.tup [x,y,z])/\(∀xs,SqL K H a xs->xs[i]?=some x)/\(∀ys,SqL K H b ys->ys[i]?=some y)/\∀zs,SqL K H c zs->zs[i]?=some z,
  λi H=>∃xs ys zs:List V,SqL K H a xs/\SqL K H b ys/\SqL K H c zs/\(xs.length<=i\/ys.length<=i\/zs.length<=i)⟩
theorem vj {P:Program}{w:World}{K:W.Frag}{elts:List Expr}{kk:Nat}{tpos:Pos}{a b c z TI TO i1 i2 i3:Addr} (D:Apart3 z TI TO i1 i2 i3 a b c) :
  Turn P w K (.Tuple elts kk tpos) (Itz3 K a b c) [z,TI,TO,i1,i2,i3] z
   (λi h=>IsZip h z TI TO .none/\aM h TI (.ref i1) (.ref i2) (.ref i3)/\(∃x y u,aM h TO x y u)/\h.IsListIter i1 a i/\h.IsListIter i2 b i/\h.IsListIter i3 c i) where
 mem:=by simp
 obj:=λi h st p hp=>by
  obtain ⟨gz,gI,⟨x,y,u,gO⟩,⟨o1,e1,_,d1⟩,⟨o2,e2,_,d2⟩,⟨o3,e3,_,d3⟩⟩:=st;have e':p=z\/p=TI\/p=TO\/p=i1\/p=i2\/p=i3:=by simpa using hp
  rcases e' with q | q | q | q | q | q
  ·rw [q];exact ⟨_,gz,λv q=>nomatch q⟩
  ·rw [q];exact ⟨_,gI,λv q=>nomatch q⟩
  ·rw [q];exact ⟨_,gO,λv q=>nomatch q⟩
  ·rw [q];exact ⟨o1,e1,λv q=>by rw [d1] at q;cases q⟩
  ·rw [q];exact ⟨o2,e2,λv q=>by rw [d2] at q;cases q⟩
  ·rw [q];exact ⟨o3,e3,λv q=>by rw [d3] at q;cases q⟩
 keep:=λi h h' st k=>by
  obtain ⟨gz,gI,⟨x,y,u,gO⟩,h1,h2,h3⟩:=st;exact ⟨k z (by simp) _ gz,k TI (by simp) _ gI,⟨x,y,u,k TO (by simp) _ gO⟩,h1.at λo q=>k i1 (by simp) o q,h2.at λo q=>k i2 (by simp) o q,h3.at λo q=>k i3 (by simp) o q⟩
 item:=by
  intro X hP hw hK hc i pins s σ H E I hf st hg;subst hP hw hK;obtain ⟨gz,gI,⟨x0,y0,u0,gO⟩,h1,h2,h3⟩:=st;obtain ⟨xs,ys,zs,x,y,u,hqx,hqy,hqz,hx,hy,hu⟩:=hg;obtain ⟨its,rv,p1,_⟩:=I.list hqx;obtain ⟨its2,rv2,p2,_⟩:=I.list hqy;obtain ⟨its3,rv3,p3,_⟩:=I.list hqz;obtain ⟨w1,hw1,ru1⟩:=rv.get hx;obtain ⟨w2,hw2,ru2⟩:=rv2.get hy;obtain ⟨w3,hw3,ru3⟩:=rv3.get hu;have hzl:z<s.heap.objs.size:=Heap.lt_size gz;refine ko D gz gI gO h1 h2 h3 p1.isList p2.isList p3.isList (x:=w1) (y:=w2) (u:=w3) (by simpa using hw1) (by simpa using hw2) (by simpa using hw3) λh' z' TO' h1' h2' h3' hT hsz hk=>?_;refine ⟨_,rfl,wpAny_letOwnedTupleGo_zip (s:={ s with heap:=h' }) z' λh'' z'' sb=>?_⟩;have hT2:h''.get? s.heap.objs.size=some { cls:=.type "tuple",data:=.seq #[w1,w2,w3] }:=(sb.2 _ (Nat.ne_of_gt hzl)).trans hT;have new:ObjOk X.prog X.w (upd H s.heap.objs.size (.tup [x,y,u])) h'' s.heap.objs.size (.tup [x,y,u]) :=
   ⟨by show 3<=sizeLine;decide,[w1,w2,w3],.cons ru1 (.cons ru2 (.cons ru3 .nil)),⟨_,hT2,rfl,_,rfl⟩⟩
  have I1:Inv X pins σ (upd H s.heap.objs.size (.tup [x,y,u])) { s with heap:=h'' } :=
   I.turnedNew (t':=s.toks) (ch:=[z,TI,TO,i1,i2,i3]) (λp o hb q=>(sb.2 p (λq'=>hb (by simp [q']))).trans (hk p o (λq'=>hb (by simp [q'])) (λq'=>hb (by simp [q'])) (λq'=>hb (by simp [q'])) (λq'=>hb (by simp [q'])) (λq'=>hb (by simp [q'])) q)) hf (Nat.le_refl _) new
  obtain ⟨tIz,tIO⟩:=D.ti;have tOz:=D.to_;obtain ⟨n1z,n1O,n1I⟩:=D.n1;obtain ⟨n2z,n2O,n2I⟩:=D.n2;obtain ⟨n3z,n3O,n3I⟩:=D.n3;refine ⟨.ref s.heap.objs.size,_,I1,rfl,⟨_,x,y,u,rfl,I.hok.fresh (Nat.le_refl _),rfl,λl hl=>by rw [I.list_inj hl hqx];exact hx,λl hl=>by rw [I.list_inj hl hqy];exact hy,λl hl=>by rw [I.list_inj hl hqz];exact hu⟩,⟨z'',?_,⟨w1,w2,w3,?_⟩,?_,?_,?_⟩,λp hpm=>?_⟩
  ·exact (sb.2 _ tIz).trans (hk _ _ tIz tIO (Ne.symm n1I) (Ne.symm n2I) (Ne.symm n3I) gI)
  ·exact (sb.2 _ tOz).trans TO'
  ·exact h1'.at λo q=>(sb.2 _ n1z).trans q
  ·exact h2'.at λo q=>(sb.2 _ n2z).trans q
  ·exact h3'.at λo q=>(sb.2 _ n3z).trans q
  ·have hlt:p<s.heap.objs.size:=by
    have e':p=z\/p=TI\/p=TO\/p=i1\/p=i2\/p=i3:=by simpa using hpm
    rcases e' with q | q | q | q | q | q
    ·rw [q];exact hzl
    ·rw [q];exact Heap.lt_size gI
    ·rw [q];exact Heap.lt_size gO
    ·rw [q];obtain ⟨_,e1,_⟩:=h1;exact Heap.lt_size e1
    ·rw [q];obtain ⟨_,e2,_⟩:=h2;exact Heap.lt_size e2
    ·rw [q];obtain ⟨_,e3,_⟩:=h3;exact Heap.lt_size e3
   rw [upd_ne (Nat.ne_of_lt hlt)];exact (hf p hpm).1
 done:=by
  intro X hP hw hK hc i pins s σ H E I hf st hg;subst hP hw hK;obtain ⟨gz,gI,⟨x0,y0,u0,gO⟩,h1,h2,h3⟩:=st;obtain ⟨xs,ys,zs,hqx,hqy,hqz,hend⟩:=hg;obtain ⟨its,rv,p1,_⟩:=I.list hqx;obtain ⟨its2,rv2,p2,_⟩:=I.list hqy;obtain ⟨its3,rv3,p3,_⟩:=I.list hqz;have l1:=rv.length;have l2:=rv2.length;have l3:=rv3.length;have he:its.toArray[i]?=none\/its2.toArray[i]?=none\/its3.toArray[i]?=none:=by
   rcases hend with q | q | q
   ·exact .inl (by simp;omega)
   ·exact .inr (.inl (by simp;omega))
   ·exact .inr (.inr (by simp;omega))
  exact pyNext_zip3_end (I.ok.hd hc) D gz gI gO h1 h2 h3 p1.isList p2.isList p3.isList he λh' hk=>⟨rfl,I.turnedL (t':=s.toks) (ch:=[z,TI,TO,i1,i2,i3]) (λp o hb q =>
   hk p o (λq'=>hb (by simp [q'])) (λq'=>hb (by simp [q'])) (λq'=>hb (by simp [q'])) (λq'=>hb (by simp [q'])) (λq'=>hb (by simp [q'])) q) hf⟩
 self:=λA i s Q E st h=>wpAny_pyIter_zip st.1 h
inductive vk (K:W.Frag)(R:It->Hp->Prop)(vs:List V)(H1:Hp):Prop
 | mk (a b c xs ys zs):(vs=[.ref a,.ref b,.ref c])->(SqL K H1 a xs)->(SqL K H1 b ys)->(SqL K H1 c zs)->(R (Itz3 K a b c) H1)->vk K R vs H1
def A2 (K:W.Frag)(ta:TA):TI:=λσ H R=>ta σ H λvs H1=>vk K R vs H1
theorem qF {X:Cx}{e e2 e3:Expr}{ta:TA}{p pos tpos:Pos}{elts:List Expr}{kk:Nat} (hg:Gl X "zip") (hm:X.mg "zip"=none) (ha:PA X [e,e2,e3] ta)
  (hs:starEach [e,e2,e3] X.env=(false,eval e X.env)::starEach [e2,e3] X.env:=by rfl) (hpl:(backTo pos (starEach [e2,e3] X.env)).any (·.1)=false:=by rfl) :
  PI X (.Tuple elts kk tpos) (.Call (.Name "zip" p) [e,e2,e3] [] pos) (A2 X.K ta):=by
 intro pins s σ H R I h;refine Call_ (ld_blt I hg hm boot_zip5 (PyProof.Rows.callWith_type1 (thn (ha pos pins s σ H _ I h) λus s1 hz=>?_) hs hpl));obtain ⟨vs,H1,I1,r1,q1⟩:=hz;obtain ⟨a,b,c,xs,ys,zs,ex,hqx,hqy,hqz,q⟩:=q1;subst ex;obtain ⟨u1,u2,u3,rfl,r,r',r''⟩:∃u1 u2 u3,us=[u1,u2,u3]/\RelV (.ref a) u1/\RelV (.ref b) u2/\RelV (.ref c) u3:=by
  cases r1 with
  | cons r rr =>
   cases rr with
   | cons r' rr =>
    cases rr with
    | cons r'' rr =>
     cases rr;exact ⟨_,_,_,rfl,r,r',r''⟩
 cases r;cases r';cases r'';obtain ⟨its,rv,p1,_⟩:=I1.list hqx;obtain ⟨its2,rv2,p2,_⟩:=I1.list hqy;obtain ⟨its3,rv3,p3,_⟩:=I1.list hqz;have la:a<s1.heap.objs.size:=p1.lt;have lb:b<s1.heap.objs.size:=p2.lt;have lc:c<s1.heap.objs.size:=p3.lt;refine pc p1.isList p2.isList p3.isList λh' hz hTI hTO h1 h2 h3 hk=>wpAny_pyIter_zip hz ?_;have I2:Inv X pins σ H1 { s1 with heap:=h' }:=I1.kept (t':=s1.toks) hk;have D:Apart3 (s1.heap.objs.size+5) (s1.heap.objs.size+3) (s1.heap.objs.size+4) s1.heap.objs.size (s1.heap.objs.size+1) (s1.heap.objs.size+2) a b c:=by
  generalize s1.heap.objs.size=n at *;have hA:∀l:Addr,l<n->l≠n+5/\l≠n+4/\l≠n/\l≠n+1/\l≠n+2:=λl hl =>
   ⟨Nat.ne_of_lt (Nat.lt_of_lt_of_le hl (Nat.le_add_right n 5)),Nat.ne_of_lt (Nat.lt_of_lt_of_le hl (Nat.le_add_right n 4)),Nat.ne_of_lt hl,Nat.ne_of_lt (Nat.lt_of_lt_of_le hl (Nat.le_add_right n 1)),Nat.ne_of_lt (Nat.lt_of_lt_of_le hl (Nat.le_add_right n 2))⟩
  refine ⟨λi hi=>?_,⟨?_,?_⟩,?_,⟨?_,?_,?_⟩,λl hl=>?_⟩
  ·have e':i=n\/i=n+1\/i=n+2:=by simpa using hi
   rcases e' with q | q | q
   ·subst q;exact ⟨Nat.ne_of_lt (Nat.lt_add_of_pos_right (by decide)),Nat.ne_of_lt (Nat.lt_add_of_pos_right (by decide)),Nat.ne_of_lt (Nat.lt_add_of_pos_right (by decide))⟩
   ·subst q;exact ⟨Nat.ne_of_lt (Nat.add_lt_add_left (by decide) n),Nat.ne_of_lt (Nat.add_lt_add_left (by decide) n),Nat.ne_of_lt (Nat.add_lt_add_left (by decide) n)⟩
   ·subst q;exact ⟨Nat.ne_of_lt (Nat.add_lt_add_left (by decide) n),Nat.ne_of_lt (Nat.add_lt_add_left (by decide) n),Nat.ne_of_lt (Nat.add_lt_add_left (by decide) n)⟩
  ·exact Nat.ne_of_lt (Nat.add_lt_add_left (by decide) n)
  ·exact Nat.ne_of_lt (Nat.add_lt_add_left (by decide) n)
  ·exact Nat.ne_of_lt (Nat.add_lt_add_left (by decide) n)
  ·exact Nat.ne_of_lt (Nat.lt_add_of_pos_right (by decide))
  ·exact Nat.ne_of_lt (Nat.lt_add_of_pos_right (by decide))
  ·exact Nat.ne_of_lt (Nat.add_lt_add_left (by decide) n)
  ·have e':l=a\/l=b\/l=c:=by simpa using hl
   rcases e' with q | q | q
   ·subst q;exact hA _ la
   ·subst q;exact hA _ lb
   ·subst q;exact hA _ lc
 refine ⟨s1.heap.objs.size+5,[s1.heap.objs.size+5,s1.heap.objs.size+3,s1.heap.objs.size+4,s1.heap.objs.size,s1.heap.objs.size+1,s1.heap.objs.size+2],_,_,H1,rfl,I2,vj D,⟨hz,hTI,⟨_,_,_,hTO⟩,h1,h2,h3⟩,λp hpm=>?_,q⟩;have e':p=s1.heap.objs.size+5\/p=s1.heap.objs.size+3\/p=s1.heap.objs.size+4\/p=s1.heap.objs.size\/p=s1.heap.objs.size+1\/p=s1.heap.objs.size+2:=by simpa using hpm
 have hle:s1.heap.objs.size<=p:=by
  rcases e' with z | z | z | z | z | z
  ·rw [z];exact Nat.le_add_right _ _
  ·rw [z];exact Nat.le_add_right _ _
  ·rw [z];exact Nat.le_add_right _ _
  ·rw [z];exact Nat.le_refl _
  ·rw [z];exact Nat.le_add_right _ _
  ·rw [z];exact Nat.le_add_right _ _
 exact I1.fpOk hle (I1.hok.fresh hle)
end TW
namespace TW
open PySem PySem.Spec PyProof.Rows L2
section
variable {X:Cx}
inductive rIn (g:Int->Int->Int)(x:V)(y:V)(H:Hp)(Q:VK):Prop
 | mk (i j):(x=.int i)->(y=.int j)->(Q (.int (g i j)) H)->rIn g x y H Q
theorem yo:InOp X .BitAnd (rIn Builtin.bitAnd):=by
 rintro pins s σ H x y u v Q I rx ry ⟨i,j,rfl,rfl,q⟩;obtain ⟨t,rfl⟩:=(show ∃t,u=Value.int i t from rx)
 obtain ⟨t',rfl⟩:=(show ∃t',v=Value.int j t' from ry)
 exact PyProof.Rows.iand_int ⟨.int (Builtin.bitAnd i j),H,I.tok _,⟨_,rfl⟩,q⟩
theorem vm:InOp X .FloorDiv (λx y H Q=>∃i j,x=.int i/\y=.int j/\CDiv i j/\Q (.int (i/j)) H):=by
 rintro pins s σ H x y u v Q I rx ry ⟨i,j,rfl,rfl,hc,q⟩;obtain ⟨t,rfl⟩:=(show ∃t,u=Value.int i t from rx)
 obtain ⟨t',rfl⟩:=(show ∃t',v=Value.int j t' from ry)
 refine PyProof.Rows.ifloordiv_int (by have:=hc.1;omega) ?_ (.inl (PyProof.noPylong_small (by have:=hc.1;have:=hc.2;omega)));rw [Int.fdiv_eq_ediv_of_nonneg _ (by have:=hc.1;omega)];exact ⟨.int (i/j),H,I.tok _,⟨_,rfl⟩,q⟩
theorem A3:PIp X .BitOr (rIn Builtin.bitOr):=by
 intro pins s σ H x y v u Q I rx ry h;obtain ⟨i,j,rfl,rfl,q⟩:=h;obtain ⟨t,rfl⟩:=(show ∃t,v=Value.int i t from rx)
 obtain ⟨t',rfl⟩:=(show ∃t',u=Value.int j t' from ry)
 exact PyProof.Rows.ior_int ⟨.int (Builtin.bitOr i j),H,I.tok _,⟨_,rfl⟩,q⟩
theorem yN:OpR X (binaryOp .LShift) (rI (λi j=>0<=j/\(Builtin.Int.intBits i:Int)+j<=2 ^ 27) λi j=>.int (i*2 ^ j.toNat)):=opI λ_ _ _ _ _ _ _ hc q=>lshift_int hc.1 hc.2 q
end
def kq (D:Addr)(H H':Hp):Prop:=∀b o,b≠D->H b=some o->H' b=some o
theorem kq.of {D:Addr}{H H':Hp} (h:Same H H'):kq D H H':=λb o _ e=>h b o e
theorem kq.upd {D:Addr}{H:Hp}{o:HO}:kq D H (upd H D o):=λb u n e=>by rw [upd_ne n];exact e
theorem same_upd {H:Hp}{p:Addr}{o:HO} (h:H p=none):Same H (upd H p o):=λb u e=>by rw [upd_ne (ne_of_none e h)];exact e
structure AtTurn (D:Addr)(H1:Hp)(R:Nat->V->Hp->Prop)(i:Nat)(H:Hp):Prop where
 same:Same H1 H
 acc:∃acc:List V,H D=some (.lst acc)/\acc.length=i/\∀j v,acc[j]?=some v->R j v H
theorem AtTurn.start {D:Addr}{H1:Hp}{R:Nat->V->Hp->Prop} (h:H1 D=none):AtTurn D H1 R 0 (upd H1 D (.lst [])) :=
 ⟨same_upd h,[],upd_same,rfl,λj v e=>by simp at e⟩
theorem AtTurn.next {D:Addr}{H1 H H4:Hp}{R:Nat->V->Hp->Prop}{i:Nat}{y:V} (hD:H1 D=none) (stay:∀i v H H',R i v H->kq D H H'->R i v H') (A:AtTurn D H1 R i H) (s:Same H H4) (hn:i<sizeLine) (hy:R i y H4) :
  ∃acc,H4 D=some (.lst acc)/\acc.length<sizeLine/\AtTurn D H1 R (i+1) (upd H4 D (.lst (acc++[y]))):=by
 obtain ⟨s1,acc,h1,h2,h3⟩:=A;refine ⟨acc,s _ _ h1,by omega,λb o e=>?_,acc++[y],upd_same,by rw [List.length_append,h2];rfl,λj v e=>?_⟩
 ·rw [upd_ne (ne_of_none e hD)];exact s _ _ (s1 _ _ e)
 ·refine stay j v H4 _ ?_ kq.upd;by_cases hj:j<acc.length
  ·rw [List.getElem?_append_left hj] at e;exact stay j v H H4 (h3 j v e) (kq.of s)
  ·rw [List.getElem?_append_right (by omega)] at e;have e0:j-acc.length=0:=by
    rcases Nat.eq_zero_or_pos (j-acc.length) with z | z
    ·exact z
    ·rw [List.getElem?_eq_none (by simp;omega)] at e;cases e
   rw [e0] at e;have ev:y=v:=Option.some.inj e;have ej:j=i:=by omega
   rw [<- ev,ej];exact hy
def jt (f:Nat->Int):Nat->V->Hp->Prop:=λi v _=>v=.int (f i)
theorem r9 {acc:List V}{f:Nat->Int}{n:Nat} (hl:acc.length=n) (h:∀(j:Nat) (v:V),acc[j]?=some v->v=V.int (f j)):acc=((List.range n).map f).map V.int:=by
 apply List.ext_getElem?;intro j;by_cases hj:j<acc.length
 ·rw [List.getElem?_eq_getElem hj,h j _ (List.getElem?_eq_getElem hj)];have:j<n:=by omega
  simp [this]
 ·rw [List.getElem?_eq_none (by omega),List.getElem?_eq_none (by simp;omega)]
theorem yp {K:W.Frag}{a b:Addr}{xs ys:List V}{g:TG}{tt:TT}{te:TE}{vs:List Nat}{σ:L2.St}{H1:Hp}{D:Addr}{Qd:Hp->Prop} (Pv:Nat->Hp->Prop) (h0:Pv 0 (upd H1 D (.lst []))) (hl:∀i H,Pv i H->SqL K H a xs/\SqL K H b ys)
  (hs:∀i x y T H,xs[i]?=some x->ys[i]?=some y->H T=none->Pv i H->g (.ref T) (wipe σ vs) (upd H T (.tup [x,y])) λσ2 H2=>wipe σ2 vs=wipe σ vs/\tt σ2 H2 λb H3 =>
   if b=true then te σ2 H3 λy H4=>∃acc,H4 D=some (.lst acc)/\acc.length<sizeLine/\Pv (i+1) (upd H4 D (.lst (acc++[y]))) else Pv (i+1) H3) (hd:∀H,Pv (min xs.length ys.length) H->Qd H) :
  lcW (Itz K a b) g tt te vs σ D Qd H1:=by
 refine ⟨λi m H=>m=min xs.length ys.length-i/\i<=min xs.length ys.length/\Pv i H,⟨min xs.length ys.length,by simp,Nat.zero_le _,h0⟩,?_⟩;rintro i m H ⟨rfl,hi,p⟩;obtain ⟨q1,q2⟩:=hl i H p;by_cases hlt:i<min xs.length ys.length
 ·have hx:i<xs.length:=by omega
  have hy:i<ys.length:=by omega
  refine .inr ⟨⟨xs,ys,xs[i],ys[i],q1,q2,by simp [hx],by simp [hy]⟩,Pv (i+1),λH' p'=>⟨min xs.length ys.length-(i+1),by omega,rfl,hlt,p'⟩,λx H' y=>?_⟩;obtain ⟨T,x1,y1,rfl,hT,rfl,e1,e2⟩:=y;exact hs i x1 y1 T H (e1 xs q1) (e2 ys q2) hT p
 ·have e:i=min xs.length ys.length:=by omega
  subst e;exact .inl ⟨⟨xs,ys,q1,q2,by omega⟩,hd H p⟩
theorem yO {K:W.Frag}{a b c:Addr}{xs ys zs:List V}{g:TG}{tt:TT}{te:TE}{vs:List Nat}{σ:L2.St}{H1:Hp}{D:Addr}{Qd:Hp->Prop} (Pv:Nat->Hp->Prop) (h0:Pv 0 (upd H1 D (.lst []))) (hl:∀i H,Pv i H->SqL K H a xs/\SqL K H b ys/\SqL K H c zs)
  (hs:∀i x y z T H,xs[i]?=some x->ys[i]?=some y->zs[i]?=some z->H T=none->Pv i H->g (.ref T) (wipe σ vs) (upd H T (.tup [x,y,z])) λσ2 H2=>wipe σ2 vs=wipe σ vs/\tt σ2 H2 λb H3 =>
   if b=true then te σ2 H3 λy H4=>∃acc,H4 D=some (.lst acc)/\acc.length<sizeLine/\Pv (i+1) (upd H4 D (.lst (acc++[y]))) else Pv (i+1) H3) (hd:∀H,Pv (min xs.length (min ys.length zs.length)) H->Qd H) :
  lcW (Itz3 K a b c) g tt te vs σ D Qd H1:=by
 refine ⟨λi m H=>m=min xs.length (min ys.length zs.length)-i/\i<=min xs.length (min ys.length zs.length)/\Pv i H,⟨min xs.length (min ys.length zs.length),by simp,Nat.zero_le _,h0⟩,?_⟩;rintro i m H ⟨rfl,hi,p⟩;obtain ⟨q1,q2,q3⟩:=hl i H p;by_cases hlt:i<min xs.length (min ys.length zs.length)
 ·have hx:i<xs.length:=by omega
  have hy:i<ys.length:=by omega
  have hz:i<zs.length:=by omega
  refine .inr ⟨⟨xs,ys,zs,xs[i],ys[i],zs[i],q1,q2,q3,by simp [hx],by simp [hy],by simp [hz]⟩,Pv (i+1),λH' p'=>⟨min xs.length (min ys.length zs.length)-(i+1),by omega,rfl,hlt,p'⟩,λx H' y=>?_⟩;obtain ⟨T,x1,y1,z1,rfl,hT,rfl,e1,e2,e3⟩:=y;exact hs i x1 y1 z1 T H (e1 xs q1) (e2 ys q2) (e3 zs q3) hT p
 ·have e:i=min xs.length (min ys.length zs.length):=by omega
  subst e;exact .inl ⟨⟨xs,ys,zs,q1,q2,q3,by omega⟩,hd H p⟩
end TW
namespace TW
open PySem PySem.Spec PyProof.Rows L2
theorem wO (a d:Value):argsOk "min" ⟨[a],[(Str.ofString "default",d)]⟩:=by unfold argsOk;kernel_rfl
theorem wP (a d:Value):argsOk "max" ⟨[a],[(Str.ofString "default",d)]⟩:=by unfold argsOk;kernel_rfl
theorem wQ:(toString "min"++toString ".loop":String)="min.loop":=by decide
theorem wR:(toString "max"++toString ".loop":String)="max.loop":=by decide
section
variable {prog:Program}{w:World}{A:Around}{R:Result->Shared->Prop}{I S:Addr}{fp wr:List Addr}{n:Nat}{P:Nat->Value->Prop}{St:Nat->Heap->Prop}{d:Value}
theorem wS (W:Walks prog w A.in1 I fp wr n P St)(bt:Nat->Nat->Bool)(hcmp:CmpOf prog w A.in1 .Lt P bt)(nS:S ∉ fp) :
  ∀(k j:Nat) (s:Shared) (vb:Value) (c:Nat),n-(j+1)=k->j+1<=n->St (j+1) s.heap->P (argBest bt j) vb->s.heap.get? S=some { cls:=.type "list",dict:=none,data:=.seq #[vb,vb] c,slots:=#[] } ->
  (∀v h' tk,P (argBest bt (n-1)) v->(∀b o,b ∉ wr->b≠S->s.heap.get? b=some o->h'.get? b=some o)->R (.ok (.ret v)) { s with heap:=h',toks:=tk }) ->
  codeAny (model prog w) A (.builtin "min.loop" ⟨[.ref I,.none,.ref S],[(Str.ofString "default",d)]⟩) R s:=by
 have nW:S ∉ wr:=λh=>nS (W.sub _ h);intro k
 induction k with
 | zero =>
  intro j s vb c hk hj st pb gS fin;have en:j+1=n:=by omega
  refine codeAny_builtin PySem.F.entry_min_loop ?_;rw [Around.under_plainId PySem.F.plain_min_loop _];show wpAny _ A.in1 (seqItems? (.ref S) >>= _) _ _ s;refine wpAny_bind (wpAny_seqItems gS rfl ?_);show wpAny _ A.in1 (tryCatch (pyNext (.ref I)) _ >>= _) _ _ s;refine wpAny_bind (wpAny_tryCatch (W.done s _ _ (en▸st) λh1 t1 k1=>?_));show wpAny _ A.in1 (updateSeq S (λ_=>#[]) >>= _) _ _ _;refine wpAny_bind ?_;refine wpAny_updateSeq (k1 S _ nW gS) rfl (wpAny_bind (wpAny_letGo (wpAny_pure ?_)));exact fin vb _ t1 (by rw [<- en];exact pb) λb o bw bS e=>(Heap.get?_update_other _ _ (Ne.symm bS)).trans (k1 b o bw e)
 | succ k ih =>
  intro j s vb c hk hj st pb gS fin;have lt:j+1<n:=by omega
  refine codeAny_builtin PySem.F.entry_min_loop ?_;rw [Around.under_plainId PySem.F.plain_min_loop _];show wpAny _ A.in1 (seqItems? (.ref S) >>= _) _ _ s;refine wpAny_bind (wpAny_seqItems gS rfl ?_);show wpAny _ A.in1 (tryCatch (pyNext (.ref I)) _ >>= _) _ _ s;refine wpAny_bind (wpAny_tryCatch (W.item (j+1) s _ _ lt st λv h1 t1 pv st1 k1=>?_));have gS1:=k1 S _ nW gS;show wpAny _ A.in1 (tryCatch (holding [v,v] (richCompare .Lt v vb >>= _)) _ >>= _) _ _ _;refine wpAny_bind (wpAny_tryCatch (wpAny_holding (wpAny_bind (hcmp (j+1) (argBest bt j) v vb _ _ _ pv pb ?_))));refine wpAny_bind (wpAny_holding (wpAny_truthy_bool ?_));refine wpAny_bind (wpAny_letGo (wpAny_pure ?_));cases hb:bt (j+1) (argBest bt j) with
  | true =>
   simp only [if_true];refine wpAny_bind (wpAny_updateSeq gS1 rfl (wpAny_bind (wpAny_letGo ?_)));rw [wQ];refine wpAny_pure ⟨plainId_quiet PySem.F.plain_min_loop _,ih (j+1) _ v _ (by omega) lt (W.frame _ _ _ st1 λb bf o e=>(Heap.get?_update_other _ _ (λq:S=b=>nS (by rw [q];exact bf))).trans e) (by simp only [argBest,hb,if_true];exact pv) (Heap.get?_update_self _ gS1 rfl) λv2 h2 t2 p2 k2=>?_⟩;exact fin v2 h2 t2 p2 λb o bw bS e=>k2 b o bw bS ((Heap.get?_update_other _ _ (Ne.symm bS)).trans (k1 b o bw e))
  | false =>
   simp only [Bool.false_eq_true,if_false];refine wpAny_bind (wpAny_letGo ?_);rw [wQ];refine wpAny_pure ⟨plainId_quiet PySem.F.plain_min_loop _,ih (j+1) _ vb c (by omega) lt st1 (by simp only [argBest,hb,Bool.false_eq_true,if_false];exact pb) gS1 λv2 h2 t2 p2 k2=>fin v2 h2 t2 p2 λb o bw bS e=>k2 b o bw bS (k1 b o bw e)⟩
theorem wT (W:Walks prog w A.in1 I fp wr n P St)(bt:Nat->Nat->Bool)(hcmp:CmpOf prog w A.in1 .Lt P bt)(nS:S ∉ fp){s:Shared}{c:Nat} (st:St 0 s.heap)
  (gS:s.heap.get? S=some { cls:=.type "list",dict:=none,data:=.seq #[] c,slots:=#[] })
  (fin0:n=0->∀h' tk,(∀b o,b ∉ wr->b≠S->s.heap.get? b=some o->h'.get? b=some o)->R (.ok (.ret d)) { s with heap:=h',toks:=tk })
  (fin:0<n->∀v h' tk,P (argBest bt (n-1)) v->(∀b o,b ∉ wr->b≠S->s.heap.get? b=some o->h'.get? b=some o)->R (.ok (.ret v)) { s with heap:=h',toks:=tk }) :
  codeAny (model prog w) A (.builtin "min.loop" ⟨[.ref I,.none,.ref S],[(Str.ofString "default",d)]⟩) R s:=by
 have nW:S ∉ wr:=λh=>nS (W.sub _ h);refine codeAny_builtin PySem.F.entry_min_loop ?_;rw [Around.under_plainId PySem.F.plain_min_loop _];show wpAny _ A.in1 (seqItems? (.ref S) >>= _) _ _ s;refine wpAny_bind (wpAny_seqItems gS rfl ?_);show wpAny _ A.in1 (tryCatch (pyNext (.ref I)) _ >>= _) _ _ s;rcases Nat.eq_zero_or_pos n with z | z
 ·refine wpAny_bind (wpAny_tryCatch (W.done s _ _ (z▸st) λh1 t1 k1=>?_));show wpAny _ A.in1 (rule _ >>= _) _ _ _;exact wpAny_bind (wpAny_rule (wpAny_pure (fin0 z h1 t1 λb o bw _ e=>k1 b o bw e)))
 ·refine wpAny_bind (wpAny_tryCatch (W.item 0 s _ _ z st λv h1 t1 pv st1 k1=>?_));have gS1:=k1 S _ nW gS;show wpAny _ A.in1 (updateSeq S (λ_=>#[v,v]) >>= _) _ _ _;refine wpAny_bind (wpAny_updateSeq gS1 rfl ?_);rw [wQ];refine wpAny_pure ⟨plainId_quiet PySem.F.plain_min_loop _,wS W bt hcmp nS _ 0 _ v _ rfl z (W.frame _ _ _ st1 λb bf o e=>(Heap.get?_update_other _ _ (λq:S=b=>nS (by rw [q];exact bf))).trans e) pv (Heap.get?_update_self _ gS1 rfl) λv2 h2 t2 p2 k2=>?_⟩;exact fin z v2 h2 t2 p2 λb o bw bS e=>k2 b o bw bS ((Heap.get?_update_other _ _ (Ne.symm bS)).trans (k1 b o bw e))
theorem wU (W:Walks prog w A.in1 I fp wr n P St)(bt:Nat->Nat->Bool)(hcmp:CmpOf prog w A.in1 .Gt P bt)(nS:S ∉ fp) :
  ∀(k j:Nat) (s:Shared) (vb:Value) (c:Nat),n-(j+1)=k->j+1<=n->St (j+1) s.heap->P (argBest bt j) vb->s.heap.get? S=some { cls:=.type "list",dict:=none,data:=.seq #[vb,vb] c,slots:=#[] } ->
  (∀v h' tk,P (argBest bt (n-1)) v->(∀b o,b ∉ wr->b≠S->s.heap.get? b=some o->h'.get? b=some o)->R (.ok (.ret v)) { s with heap:=h',toks:=tk }) ->
  codeAny (model prog w) A (.builtin "max.loop" ⟨[.ref I,.none,.ref S],[(Str.ofString "default",d)]⟩) R s:=by
 have nW:S ∉ wr:=λh=>nS (W.sub _ h);intro k
 induction k with
 | zero =>
  intro j s vb c hk hj st pb gS fin;have en:j+1=n:=by omega
  refine codeAny_builtin PySem.F.entry_max_loop ?_;rw [Around.under_plainId PySem.F.plain_max_loop _];show wpAny _ A.in1 (seqItems? (.ref S) >>= _) _ _ s;refine wpAny_bind (wpAny_seqItems gS rfl ?_);show wpAny _ A.in1 (tryCatch (pyNext (.ref I)) _ >>= _) _ _ s;refine wpAny_bind (wpAny_tryCatch (W.done s _ _ (en▸st) λh1 t1 k1=>?_));show wpAny _ A.in1 (updateSeq S (λ_=>#[]) >>= _) _ _ _;refine wpAny_bind ?_;refine wpAny_updateSeq (k1 S _ nW gS) rfl (wpAny_bind (wpAny_letGo (wpAny_pure ?_)));exact fin vb _ t1 (by rw [<- en];exact pb) λb o bw bS e=>(Heap.get?_update_other _ _ (Ne.symm bS)).trans (k1 b o bw e)
 | succ k ih =>
  intro j s vb c hk hj st pb gS fin;have lt:j+1<n:=by omega
  refine codeAny_builtin PySem.F.entry_max_loop ?_;rw [Around.under_plainId PySem.F.plain_max_loop _];show wpAny _ A.in1 (seqItems? (.ref S) >>= _) _ _ s;refine wpAny_bind (wpAny_seqItems gS rfl ?_);show wpAny _ A.in1 (tryCatch (pyNext (.ref I)) _ >>= _) _ _ s;refine wpAny_bind (wpAny_tryCatch (W.item (j+1) s _ _ lt st λv h1 t1 pv st1 k1=>?_));have gS1:=k1 S _ nW gS;show wpAny _ A.in1 (tryCatch (holding [v,v] (richCompare .Gt v vb >>= _)) _ >>= _) _ _ _;refine wpAny_bind (wpAny_tryCatch (wpAny_holding (wpAny_bind (hcmp (j+1) (argBest bt j) v vb _ _ _ pv pb ?_))));refine wpAny_bind (wpAny_holding (wpAny_truthy_bool ?_));refine wpAny_bind (wpAny_letGo (wpAny_pure ?_));cases hb:bt (j+1) (argBest bt j) with
  | true =>
   simp only [if_true];refine wpAny_bind (wpAny_updateSeq gS1 rfl (wpAny_bind (wpAny_letGo ?_)));rw [wR];refine wpAny_pure ⟨plainId_quiet PySem.F.plain_max_loop _,ih (j+1) _ v _ (by omega) lt (W.frame _ _ _ st1 λb bf o e=>(Heap.get?_update_other _ _ (λq:S=b=>nS (by rw [q];exact bf))).trans e) (by simp only [argBest,hb,if_true];exact pv) (Heap.get?_update_self _ gS1 rfl) λv2 h2 t2 p2 k2=>?_⟩;exact fin v2 h2 t2 p2 λb o bw bS e=>k2 b o bw bS ((Heap.get?_update_other _ _ (Ne.symm bS)).trans (k1 b o bw e))
  | false =>
   simp only [Bool.false_eq_true,if_false];refine wpAny_bind (wpAny_letGo ?_);rw [wR];refine wpAny_pure ⟨plainId_quiet PySem.F.plain_max_loop _,ih (j+1) _ vb c (by omega) lt st1 (by simp only [argBest,hb,Bool.false_eq_true,if_false];exact pb) gS1 λv2 h2 t2 p2 k2=>fin v2 h2 t2 p2 λb o bw bS e=>k2 b o bw bS (k1 b o bw e)⟩
theorem wV (W:Walks prog w A.in1 I fp wr n P St)(bt:Nat->Nat->Bool)(hcmp:CmpOf prog w A.in1 .Gt P bt)(nS:S ∉ fp){s:Shared}{c:Nat} (st:St 0 s.heap)
  (gS:s.heap.get? S=some { cls:=.type "list",dict:=none,data:=.seq #[] c,slots:=#[] })
  (fin0:n=0->∀h' tk,(∀b o,b ∉ wr->b≠S->s.heap.get? b=some o->h'.get? b=some o)->R (.ok (.ret d)) { s with heap:=h',toks:=tk })
  (fin:0<n->∀v h' tk,P (argBest bt (n-1)) v->(∀b o,b ∉ wr->b≠S->s.heap.get? b=some o->h'.get? b=some o)->R (.ok (.ret v)) { s with heap:=h',toks:=tk }) :
  codeAny (model prog w) A (.builtin "max.loop" ⟨[.ref I,.none,.ref S],[(Str.ofString "default",d)]⟩) R s:=by
 have nW:S ∉ wr:=λh=>nS (W.sub _ h);refine codeAny_builtin PySem.F.entry_max_loop ?_;rw [Around.under_plainId PySem.F.plain_max_loop _];show wpAny _ A.in1 (seqItems? (.ref S) >>= _) _ _ s;refine wpAny_bind (wpAny_seqItems gS rfl ?_);show wpAny _ A.in1 (tryCatch (pyNext (.ref I)) _ >>= _) _ _ s;rcases Nat.eq_zero_or_pos n with z | z
 ·refine wpAny_bind (wpAny_tryCatch (W.done s _ _ (z▸st) λh1 t1 k1=>?_));show wpAny _ A.in1 (rule _ >>= _) _ _ _;exact wpAny_bind (wpAny_rule (wpAny_pure (fin0 z h1 t1 λb o bw _ e=>k1 b o bw e)))
 ·refine wpAny_bind (wpAny_tryCatch (W.item 0 s _ _ z st λv h1 t1 pv st1 k1=>?_));have gS1:=k1 S _ nW gS;show wpAny _ A.in1 (updateSeq S (λ_=>#[v,v]) >>= _) _ _ _;refine wpAny_bind (wpAny_updateSeq gS1 rfl ?_);rw [wR];refine wpAny_pure ⟨plainId_quiet PySem.F.plain_max_loop _,wU W bt hcmp nS _ 0 _ v _ rfl z (W.frame _ _ _ st1 λb bf o e=>(Heap.get?_update_other _ _ (λq:S=b=>nS (by rw [q];exact bf))).trans e) pv (Heap.get?_update_self _ gS1 rfl) λv2 h2 t2 p2 k2=>?_⟩;exact fin z v2 h2 t2 p2 λb o bw bS e=>k2 b o bw bS ((Heap.get?_update_other _ _ (Ne.symm bS)).trans (k1 b o bw e))
end
section
variable {prog:Program}{w:World}{A:Around}{E:Value->Shared->Prop}{s:Shared}{l:Addr}{its:List Value}{ns:List Int}{d:Value}{Q:Value->Shared->Prop}
theorem A4 (hh:A.handled=none)(hl:s.heap.IsList l its.toArray)(hi:IntsAre its ns)
  (h0:ns=[]->∀h' tk,(∀b o,s.heap.get? b=some o->h'.get? b=some o)->Q d { s with heap:=h',toks:=tk })
  (h:∀h' tk M t',(∀b o,s.heap.get? b=some o->h'.get? b=some o)->M∈ns->(∀a,a∈ns->M<=a)->Q (.int M t') { s with heap:=h',toks:=tk }) :
  wpAny (model prog w) A (call (.builtin "min") [.ref l] [(Str.ofString "default",d)]) Q E s:=by
 obtain ⟨xs,e⟩:=hi.allInts.items;have hn:numsOf (intItems xs).toList=ns:=by rw [<- e];exact hi.numsOf
 rw [nums_intItems] at hn;subst hn;rw [e] at hl;refine kmb_tree PySem.F.kind_min PySem.F.plain_min PySem.F.entry_min (wO _ _) ?_;show wpAny _ A.in1 (Builtin.Builtins.bindParams "min" ["key","default"] 0 ⟨[],[(Str.ofString "default",d)]⟩ >>= _) _ _ s;refine wpAny_bind (wpAny_of_eq (show Builtin.Builtins.bindParams "min" ["key","default"] 0 ⟨[],[(Str.ofString "default",d)]⟩=pure [none,some d] from rfl) (wpAny_bind (wpAny_pure ?_)));refine wpAny_bind (iter_intList hl λs2 e2 st hfp hlI=>wpAny_bind (wpAny_newObj_type ?_));subst e2;rw [wQ];generalize hsz:(s.heap.push { cls:=.type "list_iterator",data:=.fields #[.ref l,.int 0 0] }).objs.size=S;have nS:S ∉ [s.heap.objs.size,l]:=λhm=>Nat.lt_irrefl _ (hsz▸hfp _ hm);have W:=Walks.list (prog:=prog) (w:=w) (A:=A.in1) hh s.heap.objs.size l hlI (intItems xs);refine wpAny_pure ⟨plainId_quiet PySem.F.plain_min_loop _,wT W (λi j=>decide (numAt xs i<numAt xs j)) (CmpOf.ints_lt (numAt xs) (λ_ _=>intItems_at)) nS (W.frame _ _ _ st λb _ o e=>Heap.get?_push_of_some _ e) (by rw [<- hsz];exact Heap.get?_push_size _ rfl) (λz h' tk hk=>?_) λz v h' tk hP hk=>?_⟩
 ·have z':xs.size=0:=by simpa [intItems] using z
  refine h0 (by rw [Array.eq_empty_of_size_eq_zero z'];rfl) h' tk (old_kept λb o bw e=>hk b o bw (by rw [<- hsz];exact Nat.ne_of_lt (Heap.lt_size e)) (Heap.get?_push_of_some _ e))
 ·have hP:(intItems xs)[argBest (λi j=>decide (numAt xs i<numAt xs j)) (xs.size-1)]?=some v:=by simpa [intItems] using hP
  have z':0<xs.size:=by simpa [intItems] using z
  obtain ⟨t,rfl⟩:=intItems_at hP;obtain ⟨q1,q2⟩:=argBest_lt (numAt xs) (xs.size-1);refine h h' tk _ t (old_kept λb o bw e=>hk b o bw (by rw [<- hsz];exact Nat.ne_of_lt (Heap.lt_size e)) (Heap.get?_push_of_some _ e)) ?_ λa ha=>?_
  ·rw [numAt_eq];exact PySem.getD_mem (by rw [List.length_map,Array.length_toList];omega)
  ·obtain ⟨j,hj,rfl⟩:=mem_getD ha;rw [List.length_map,Array.length_toList] at hj;rw [<- numAt_eq];exact q2 j (by omega)
theorem A5 (hh:A.handled=none)(hl:s.heap.IsList l its.toArray)(hi:IntsAre its ns)
  (h0:ns=[]->∀h' tk,(∀b o,s.heap.get? b=some o->h'.get? b=some o)->Q d { s with heap:=h',toks:=tk })
  (h:∀h' tk M t',(∀b o,s.heap.get? b=some o->h'.get? b=some o)->M∈ns->(∀a,a∈ns->a<=M)->Q (.int M t') { s with heap:=h',toks:=tk }) :
  wpAny (model prog w) A (call (.builtin "max") [.ref l] [(Str.ofString "default",d)]) Q E s:=by
 obtain ⟨xs,e⟩:=hi.allInts.items;have hn:numsOf (intItems xs).toList=ns:=by rw [<- e];exact hi.numsOf
 rw [nums_intItems] at hn;subst hn;rw [e] at hl;refine kmb_tree PySem.F.kind_max PySem.F.plain_max PySem.F.entry_max (wP _ _) ?_;show wpAny _ A.in1 (Builtin.Builtins.bindParams "max" ["key","default"] 0 ⟨[],[(Str.ofString "default",d)]⟩ >>= _) _ _ s;refine wpAny_bind (wpAny_of_eq (show Builtin.Builtins.bindParams "max" ["key","default"] 0 ⟨[],[(Str.ofString "default",d)]⟩=pure [none,some d] from rfl) (wpAny_bind (wpAny_pure ?_)));refine wpAny_bind (iter_intList hl λs2 e2 st hfp hlI=>wpAny_bind (wpAny_newObj_type ?_));subst e2;rw [wR];generalize hsz:(s.heap.push { cls:=.type "list_iterator",data:=.fields #[.ref l,.int 0 0] }).objs.size=S;have nS:S ∉ [s.heap.objs.size,l]:=λhm=>Nat.lt_irrefl _ (hsz▸hfp _ hm);have W:=Walks.list (prog:=prog) (w:=w) (A:=A.in1) hh s.heap.objs.size l hlI (intItems xs);refine wpAny_pure ⟨plainId_quiet PySem.F.plain_max_loop _,wV W (λi j=>decide (numAt xs i > numAt xs j)) (CmpOf.ints_gt (numAt xs) (λ_ _=>intItems_at)) nS (W.frame _ _ _ st λb _ o e=>Heap.get?_push_of_some _ e) (by rw [<- hsz];exact Heap.get?_push_size _ rfl) (λz h' tk hk=>?_) λz v h' tk hP hk=>?_⟩
 ·have z':xs.size=0:=by simpa [intItems] using z
  refine h0 (by rw [Array.eq_empty_of_size_eq_zero z'];rfl) h' tk (old_kept λb o bw e=>hk b o bw (by rw [<- hsz];exact Nat.ne_of_lt (Heap.lt_size e)) (Heap.get?_push_of_some _ e))
 ·have hP:(intItems xs)[argBest (λi j=>decide (numAt xs i > numAt xs j)) (xs.size-1)]?=some v:=by simpa [intItems] using hP
  have z':0<xs.size:=by simpa [intItems] using z
  obtain ⟨t,rfl⟩:=intItems_at hP;obtain ⟨q1,q2⟩:=argBest_gt (numAt xs) (xs.size-1);refine h h' tk _ t (old_kept λb o bw e=>hk b o bw (by rw [<- hsz];exact Nat.ne_of_lt (Heap.lt_size e)) (Heap.get?_push_of_some _ e)) ?_ λa ha=>?_
  ·rw [numAt_eq];exact PySem.getD_mem (by rw [List.length_map,Array.length_toList];omega)
  ·obtain ⟨j,hj,rfl⟩:=mem_getD ha;rw [List.length_map,Array.length_toList] at hj;rw [<- numAt_eq];exact q2 j (by omega)
end
section
variable {X:Cx}{x:Str}{p pos kpos:Pos}{e e2:Expr}{t:TA}{td:TE}{id:String}
inductive Ag (K:W.Frag)(vs:List V)(z:V)(H:Hp)(Q:VK):Prop
 | mk (a:Addr) (ns:List Int) (d:Int):(vs=[V.ref a])->(z=.int d)->(SqL K H a (ns.map V.int))->((ns=[]->Q (.int d) H))->(∀m,m∈ns->(∀y,y∈ns->m<=y)->Q (.int m) H)->Ag K vs z H Q
inductive Ah (K:W.Frag)(vs:List V)(z:V)(H:Hp)(Q:VK):Prop
 | mk (a:Addr) (ns:List Int) (d:Int):(vs=[V.ref a])->(z=.int d)->(SqL K H a (ns.map V.int))->((ns=[]->Q (.int d) H))->(∀m,m∈ns->(∀y,y∈ns->y<=m)->Q (.int m) H)->Ah K vs z H Q
def tCBD (r:List V->V->Hp->VK->Prop)(t:TA)(td:TE):TE:=λσ H Q=>t σ H λvs H1=>td σ H1 λz H2=>r vs z H2 Q
theorem vn {r:List V->V->Hp->VK->Prop}(hc:∀(pins:List (Addr×Obj)) (s:Shared) (σ:L2.St) (H:Hp) (vs:List V) (us:List Value) (z:V) (u:Value) (Q:VK),Inv X pins σ H s->Vals vs us->RelV z u->r vs z H Q->wpAny (model X.prog X.w) X.A (call (.builtin id) us [(Str.ofString "default",u)]) (EP X pins σ Q) X.xe s)
  (hg:Gl X x) (hm:X.mg x=none) (hv:bootBuiltins x=some (.builtin id)) (ha:PA X [e] t) (hd:PE X e2 td) (hn:x≠"__name__":=by decide) (hdb:(x==("__debug__":Str))=false:=by decide)
  (he:starEach [e] X.env=[(false,eval e X.env)]:=by rfl):PE X (.Call (.Name x p) [e] [⟨some "default",e2,kpos⟩] pos) (tCBD r t td):=by
 intro pins s σ H Q I h;refine wpAny_Call_Name_kw (ld_blt I hg hm hv ?_ hn hdb);refine callWith_kw (thn (ha pos pins s σ H _ I h) λus s1 ⟨vs,H1,I1,r1,q1⟩=>?_) (by rw [he];rfl) (by rw [he];rfl);refine kws_cons (thn (hd pins s1 σ H1 _ I1 q1) λu s2 hz=>?_);obtain ⟨z,H2,I2,r2,q2⟩:=hz;exact kws_nil (hc pins s2 σ H2 vs us z u Q I2 r1 r2 q2)
theorem yP (hc:X.calm=true)(pins:List (Addr×Obj))(s:Shared)(σ:L2.St)(H:Hp)(vs:List V)(us:List Value)(z:V)(u:Value)(Q:VK)(I:Inv X pins σ H s)(r:Vals vs us)(rz:RelV z u)(h:Ag X.K vs z H Q) :
  wpAny (model X.prog X.w) X.A (call (.builtin "min") us [(Str.ofString "default",u)]) (EP X pins σ Q) X.xe s:=by
 obtain ⟨a,ns,d,rfl,rfl,hs,q0,q⟩:=h;obtain ⟨its,rv,hl,_⟩:=I.list hs;obtain ⟨t,rfl⟩:=rz;rw [Vals.ref1 r];exact A4 (I.ok.hd hc) hl.isList rv.ints (λen h' tk hk=>⟨.int d,H,I.kept hk,⟨_,rfl⟩,q0 en⟩) λh' tk m t' hk h1 h2=>⟨.int m,H,I.kept hk,⟨_,rfl⟩,q m h1 h2⟩
theorem yQ (hc:X.calm=true)(pins:List (Addr×Obj))(s:Shared)(σ:L2.St)(H:Hp)(vs:List V)(us:List Value)(z:V)(u:Value)(Q:VK)(I:Inv X pins σ H s)(r:Vals vs us)(rz:RelV z u)(h:Ah X.K vs z H Q) :
  wpAny (model X.prog X.w) X.A (call (.builtin "max") us [(Str.ofString "default",u)]) (EP X pins σ Q) X.xe s:=by
 obtain ⟨a,ns,d,rfl,rfl,hs,q0,q⟩:=h;obtain ⟨its,rv,hl,_⟩:=I.list hs;obtain ⟨t,rfl⟩:=rz;rw [Vals.ref1 r];exact A5 (I.ok.hd hc) hl.isList rv.ints (λen h' tk hk=>⟨.int d,H,I.kept hk,⟨_,rfl⟩,q0 en⟩) λh' tk m t' hk h1 h2=>⟨.int m,H,I.kept hk,⟨_,rfl⟩,q m h1 h2⟩
end
end TW
namespace TW
open PySem PySem.Spec PyProof.Rows L2
theorem us0 {p:List Value->Prop}(h:p []):∀us:List Value,us.length=0->p us
 | [],_=>h
theorem usS {p:List Value->Prop}{n:Nat} (h:∀a us,us.length=n->p (a::us)):∀us:List Value,us.length=n+1->p us
 | a::us,z=>h a us (Nat.succ.inj z)
theorem us1 {p:List Value->Prop}(h:∀a,p [a]):∀us:List Value,us.length=1->p us:=usS λa=>us0 (h a)
theorem us2 {p:List Value->Prop}(h:∀a b,p [a,b]):∀us:List Value,us.length=2->p us:=usS λa=>us1 (h a)
theorem us3 {p:List Value->Prop}(h:∀a b c,p [a,b,c]):∀us:List Value,us.length=3->p us:=usS λa=>us2 (h a)
theorem us4 {p:List Value->Prop}(h:∀a b c d,p [a,b,c,d]):∀us:List Value,us.length=4->p us:=usS λa=>us3 (h a)
theorem us5 {p:List Value->Prop}(h:∀a b c d e,p [a,b,c,d,e]):∀us:List Value,us.length=5->p us:=usS λa=>us4 (h a)
theorem us6 {p:List Value->Prop}(h:∀a b c d e f,p [a,b,c,d,e,f]):∀us:List Value,us.length=6->p us:=usS λa=>us5 (h a)
def Ans (H:Hp)(l:List V)(Q:VK):Prop:=∀p H',Same H H'->H p=none->H' p=some (.lst l)->Q (.ref p) H'
theorem _root_.L2.Same.upd' {H H1:Hp}{p:Addr}{o:HO} (s:Same H H1) (h:H p=none):Same H (upd H1 p o):=λb u e=>by rw [upd_ne (ne_of_none e h)];exact s b u e
theorem _root_.L2.Same.new {H H1:Hp}{p:Addr}{o:HO} (s:Same H H1) (h:H1 p=none):Same H (upd H1 p o):=s.upd' (s.free h)
theorem cA {l:List Int}{i:Nat}{x:V} (h:(l.map V.int)[i]?=some x):∃z,l[i]?=some z/\x=.int z:=by
 rw [List.getElem?_map] at h;cases e:l[i]? with
 | none=>rw [e] at h;cases h
 | some z=>rw [e] at h;exact ⟨z,rfl,(Option.some.inj h).symm⟩
theorem wW (l:List Int):(List.range l.length).map (λi=>l.getD i 0)=l:=by
 apply List.ext_getElem
 ·simp
 ·intro i h1 h2;simp [List.getD_eq_getElem?_getD,h2]
theorem wX {acc:List V}{l:List Int} (hl:acc.length=l.length) (h:∀(j:Nat) (v:V),acc[j]?=some v->v=V.int (l.getD j 0)):acc=l.map V.int:=by
 have:=r9 (f:=λi=>l.getD i 0) hl h;rw [wW] at this;exact this
theorem cQ (D:Addr)(f:Nat->Int):∀(i:Nat) (v:V) (H H':Hp),jt f i v H->kq D H H'->jt f i v H':=λ_ _ _ _ h _=>h
theorem AtTurn.ints {D:Addr}{H1 H:Hp}{l:List Int} (A:AtTurn D H1 (jt λi=>l.getD i 0) l.length H):H D=some (.lst (l.map V.int)):=by
 obtain ⟨acc,h1,h2,h3⟩:=A.acc;rw [h1,wX h2 h3]
theorem ju {te:TE}{ws:List Nat}{σ:L2.St}{Q':VK}{B:Hp->Prop}:(λ(σ2:L2.St) (H2:Hp)=>wipe σ2 ws=wipe σ ws/\tYes σ2 H2 λb H3=>if b=true then te σ2 H3 Q' else B H3)=λσ2 H2=>wipe σ2 ws=wipe σ ws/\te σ2 H2 Q':=by
 funext σ2 H2;simp [tYes]
theorem i4 {K:W.Frag}{a b:Addr}{us vs:List Int}{g:TG}{te:TE}{ws:List Nat}{σ:L2.St}{H1:Hp}{D:Addr}{Qd:Hp->Prop} (F:Int->Int->Int) (hD:H1 D=none) (hx:SqL K H1 a (us.map V.int)) (hy:SqL K H1 b (vs.map V.int)) (hz:us.length<=sizeLine)
  (hs:∀(u v:Int) (T:Addr) (H:Hp) (Q':VK),H T=none->Same H1 H->(∀H4,Same H H4->Q' (.int (F u v)) H4)->g (.ref T) (wipe σ ws) (upd H T (.tup [.int u,.int v])) λσ2 H2=>wipe σ2 ws=wipe σ ws/\te σ2 H2 Q')
  (hd:∀H,Same H1 H->H D=some (.lst (((us.zip vs).map λp=>F p.1 p.2).map V.int))->Qd H) :
  lcW (Itz K a b) g tYes te ws σ D Qd H1:=by
 have hlen:(((us.zip vs).map λp=>F p.1 p.2)).length=min us.length vs.length:=by simp
 refine yp (xs:=us.map V.int) (ys:=vs.map V.int) (AtTurn D H1 (jt λi=>((us.zip vs).map λp=>F p.1 p.2).getD i 0)) (AtTurn.start hD) (λi H A=>⟨A.same.seq hx,A.same.seq hy⟩) (λi x y T H ex ey hT A=>?_) (λH A=>?_)
 ·obtain ⟨u,eu,rfl⟩:=cA ex;obtain ⟨v,ev,rfl⟩:=cA ey;rw [ju];refine hs u v T H _ hT A.same λH4 s4=>A.next hD (cQ D _) s4 (by have:=(List.getElem?_eq_some_iff.mp eu).1;omega) ?_;show V.int _=V.int _;dsimp only;rw [List.getD_eq_getElem?_getD,List.getElem?_map,(List.getElem?_zip_eq_some (z:=(u,v))).mpr ⟨eu,ev⟩];rfl
 ·refine hd H A.same (AtTurn.ints (D:=D) (H1:=H1) ?_);rw [hlen];simpa using A
theorem mL {K:W.Frag}{a b c:Addr}{us vs zs:List Int}{g:TG}{te:TE}{ws:List Nat}{σ:L2.St}{H1:Hp}{D:Addr}{Qd:Hp->Prop} (F:Int->Int->Int->Int) (hD:H1 D=none) (hx:SqL K H1 a (us.map V.int)) (hy:SqL K H1 b (vs.map V.int)) (hw:SqL K H1 c (zs.map V.int)) (hz:us.length<=sizeLine)
  (hs:∀(u v z:Int) (T:Addr) (H:Hp) (Q':VK),H T=none->Same H1 H->(∀H4,Same H H4->Q' (.int (F u v z)) H4)->g (.ref T) (wipe σ ws) (upd H T (.tup [.int u,.int v,.int z])) λσ2 H2=>wipe σ2 ws=wipe σ ws/\te σ2 H2 Q')
  (hd:∀H,Same H1 H->H D=some (.lst (((us.zip (vs.zip zs)).map λp=>F p.1 p.2.1 p.2.2).map V.int))->Qd H) :
  lcW (Itz3 K a b c) g tYes te ws σ D Qd H1:=by
 have hlen:((us.zip (vs.zip zs)).map λp=>F p.1 p.2.1 p.2.2).length=min us.length (min vs.length zs.length):=by simp
 refine yO (xs:=us.map V.int) (ys:=vs.map V.int) (zs:=zs.map V.int) (AtTurn D H1 (jt λi=>((us.zip (vs.zip zs)).map λp=>F p.1 p.2.1 p.2.2).getD i 0)) (AtTurn.start hD) (λi H A=>⟨A.same.seq hx,A.same.seq hy,A.same.seq hw⟩) (λi x y z T H ex ey ez hT A=>?_) (λH A=>?_)
 ·obtain ⟨u,eu,rfl⟩:=cA ex;obtain ⟨v,ev,rfl⟩:=cA ey;obtain ⟨z,ew,rfl⟩:=cA ez;rw [ju];refine hs u v z T H _ hT A.same λH4 s4=>A.next hD (cQ D _) s4 (by have:=(List.getElem?_eq_some_iff.mp eu).1;omega) ?_;show V.int _=V.int _;dsimp only;rw [List.getD_eq_getElem?_getD,List.getElem?_map,(List.getElem?_zip_eq_some (z:=(u,v,z))).mpr ⟨eu,(List.getElem?_zip_eq_some (z:=(v,z))).mpr ⟨ev,ew⟩⟩];rfl
 ·refine hd H A.same (AtTurn.ints (D:=D) (H1:=H1) ?_);rw [hlen];simpa using A
inductive aB (K:W.Frag)(mg:Str->Option Value)(x:Str)(st:Stmt):Prop
 | mk (f fd):(Fun K x x st f fd)->(mg x=some (.ref f))->aB K mg x st
inductive OkF (P:Program)(w:World)(K:W.Frag)(mg:Str->Option Value)(base:Heap)(CX:CXT)(k:Nat)(x:Str)(ps:List Str)(sp:Sp):Prop
 | mk (f fd):(mg x=some (.ref f))->(W.keepIn K (.ref f)=true)->(ka K fd ps [])->(FnOk P w K mg base CX k f fd ps sp)->OkF P w K mg base CX k x ps sp
section
variable {P:Program}{w:World}{K:W.Frag}{mg:Str->Option Value}{base:Heap}
theorem aB.ok {x:Str}{st:Stmt}{N ps:List Str}{k:Nat}{sp:Sp} (D:aB K mg x st) (S:FnScope N ps (ae st))
  (hbody:∀(f:Addr) (cdv:Value) (A:Around) (outer:List Env) (s:Shared) (H:Hp) (vs:List V) (Q:VK) (E:XK),Room k (A.deeper (envOfC x (ae st) s.heap.objs.size f cdv))->sp vs H Q E ->
   ∃t,PSs (cxOf CX0 P w K mg base N x (ae st) f cdv A outer s H E).nox (bG st) t/\t { nx:=λ_ H'=>Q .non H',rt:=Q } (start N vs) H)
  (hb:∀(kV doc pm:Value) (an:Option Addr) (cdv ct:Value) (us:List Value),us.length=ps.length->bindArgs (W.fnOf x x (dJ st) (bG st) (ae st) .none kV doc pm an cdv ct) ⟨us,[]⟩=pure (ps.zip us):=by first | exact λ_ _ _ _ _ _=>TW.us1 λ_=>rfl | exact λ_ _ _ _ _ _=>TW.us2 λ_ _=>rfl | exact λ_ _ _ _ _ _=>TW.us3 λ_ _ _=>rfl | exact λ_ _ _ _ _ _=>TW.us5 λ_ _ _ _ _=>rfl | exact λ_ _ _ _ _ _=>TW.us4 λ_ _ _ _=>rfl | exact λ_ _ _ _ _ _=>TW.us0 rfl | exact λ_ _ _ _ _ _=>TW.us6 λ_ _ _ _ _ _=>rfl)
  (len:∀vs H Q E,sp vs H Q E->vs.length=ps.length:=by intro _ _ _ _ h;cases h;subst_vars;rfl):OkF P w K mg base CX0 (k+1) x ps sp:=by
 obtain ⟨f,fd,F,hm⟩:=D;exact ⟨f,fd,hm,F.kp,F.binds hb,F.ok S len λcdv A outer s H vs Q E hr h=>hbody f cdv A outer s H vs Q E hr h⟩
end
section
variable {X:Cx}{CX:CXT}{k:Nat}{ps:List Str}{sp:Sp}{E:XK}{x:Str}{p pos:Pos}{e:Expr}{es:List Expr}{t:TA}
theorem pe_f (h:OkF X.prog X.w X.K X.mg X.base CX k x ps sp)(hr:Room k X.A)(hg:Gl X x)(hx:cy CX X E)(ha:PA X (e::es) t)(hdb:(x==("__debug__":Str))=false:=by decide)
  (he:starEach (e::es) X.env=(false,eval e X.env)::starEach es X.env:=by rfl) (hpl:(backTo pos (starEach es X.env)).any (·.1)=false:=by rfl):PE X (.Call (.Name x p) (e::es) [] pos) (iY sp [] E t):=by
 obtain ⟨f,fd,hm,kp,b,G⟩:=h;exact yF G hr hg hm kp b .nil hx ha hdb he hpl
theorem az (h:OkF X.prog X.w X.K X.mg X.base CX0 k x ps sp)(hr:Room k X.A)(hg:Gl X x)(ha:PA X (e::es) t)(hdb:(x==("__debug__":Str))=false:=by decide)
  (he:starEach (e::es) X.env=(false,eval e X.env)::starEach es X.env:=by rfl) (hpl:(backTo pos (starEach es X.env)).any (·.1)=false:=by rfl):PE X (.Call (.Name x p) (e::es) [] pos) (iY sp [] E0 t) :=
 pe_f h hr hg gv ha hdb he hpl
end
theorem line_ge {n:Nat}(h:n<=16000000):n<=sizeLine:=by rw [sizeLine_eq];omega
def yR (N P:List Str)(sc:Scope):Bool:=decide (sc.kind=.function)&&(!sc.isCoroutine&&(!sc.isGenerator&&(decide N.Nodup&&(decide (N.take P.length=P)&&(P.all (λx=>decide (sc.names.lookup x=some .local\/sc.names.lookup x=some .cell))&&sc.names.all λy=>decide (y.2≠.free))))))
theorem _root_.L2.FnScope.ck {N P:List Str}{sc:Scope} (h:yR N P sc=true:=by kernel_rfl):FnScope N P sc:=by
 obtain ⟨a,h⟩:=Bool.and_eq_true_iff.mp h;obtain ⟨b,h⟩:=Bool.and_eq_true_iff.mp h;obtain ⟨c,h⟩:=Bool.and_eq_true_iff.mp h;obtain ⟨d,h⟩:=Bool.and_eq_true_iff.mp h;obtain ⟨e,h⟩:=Bool.and_eq_true_iff.mp h;obtain ⟨f,g⟩:=Bool.and_eq_true_iff.mp h;exact ⟨of_decide_eq_true a,Bool.not_eq_true' _ |>.mp b,Bool.not_eq_true' _ |>.mp c,of_decide_eq_true d,of_decide_eq_true e,λx hx=>of_decide_eq_true (List.all_eq_true.mp f x hx),λy hy=>of_decide_eq_true (List.all_eq_true.mp g y hy)⟩
end TW
namespace TW
open PySem PySem.Spec PyProof.Rows L2
structure UnB (fs:List Addr)(H H':Hp)(h B:Heap):Prop where
 keep:∀b o,h.get? b=some o->H b=none->b ∉ fs->B.get? b=some o
 free:∀b o,h.get? b=some o->H b=none->H' b=none
 there:∀b o,h.get? b=some o->b ∉ fs->∃o',B.get? b=some o'
 tups:∀b xs,H b=some (.tup xs)->H' b=some (.tup xs)
 frzs:∀b o u,H b=some (.frz o u)->H' b=some (.frz o u)
 tbls:∀b ps,H b=some (.tbl ps)->∃more,H' b=some (.tbl (ps++more))
def qG (fs:List Addr)(h h':Heap):Prop:=∀b o,h.get? b=some o->b∈fs->∃sl,h'.get? b=some { o with slots:=sl }
theorem UnB.un {fs:List Addr}{H H':Hp}{h B h':Heap} (u:UnB fs H H' h B) (st:B.StaysIn h') (sl:qG fs h h'):Un fs [] H H' h h' where
 keep:=λb o e n hb _=>st b o (u.keep b o e n hb)
 slot:=λb o e _ hb _=>sl b o e hb
 free:=λb o e n _=>u.free b o e n
 there:=λb o e _=>by
  by_cases hb:b∈fs
  ·obtain ⟨s,q⟩:=sl b o e hb;exact ⟨_,q⟩
  ·obtain ⟨o',q⟩:=u.there b o e hb;exact ⟨o',st _ _ q⟩
 tups:=u.tups
 frzs:=u.frzs
 tbls:=u.tbls
inductive CX1 (P:Program)(w:World)(outer:List Env)(H:Hp)(s:Shared)(E:XK)(e:Value)(s':Shared):Prop
 | mk (a:Addr) (cls a0:Value) (B:Heap) (H':Hp):(e=.ref a)->(s'.os=s.os)->(AllBare s'.gens)->(UnB (frs outer) H H' s.heap B)->(qG (frs outer) s.heap s'.heap)->((∀b∈frs outer,H' b=none))->(HOk P w H' B)->(Heap.FlyingW B outer a cls a0 s'.heap)->(E cls none H')->CX1 P w outer H s E e s'
inductive qH (B:Heap)(a:Addr)(cls:Value)(L:Addr)(h:Heap):Prop
 | fresh (oe:Obj) (vs:Array Value) (a0:Value):h.get? a=some oe->oe.cls=cls->oe.data=.fields vs->vs[1]?=some .none->vs[0]?=some a0->qH B a cls L h
 | fly (a0:Value):h.TracedW B a cls a0->qH B a cls L h
 | held (a0:Value):h.TracedAtW B a cls a0 (rawInt L)->qH B a cls L h
structure FlyAt (X:Cx)(E:XK)(a:Addr)(cls:Value)(B:Heap)(H':Hp)(s':Shared):Prop where
 os:s'.os=X.s₀.os
 bare:AllBare s'.gens
 un:UnB X.fs X.H₀ H' X.s₀.heap B
 slots:qG X.fs X.s₀.heap s'.heap
 frs:∀b∈frs X.stack,H' b=none
 hok:HOk X.prog X.w H' B
 ns:∃m,s'.heap.Ns X.env.locals m
 stays:B.StaysIn s'.heap
 new:B.get? a=none
 funs:s'.heap.FunFrames B X.stack
 wish:E cls none H'
inductive XFly (X:Cx)(E:XK)(e:Value)(s':Shared):Prop
 | mk (a:Addr) (cls:Value) (B:Heap) (H':Hp):(e=.ref a)->(FlyAt X E a cls B H' s')->(qH B a cls X.env.locals s'.heap)->XFly X E e s'
structure Plain (X:Cx):Prop where
 ex:X.ex=[]
 pn:X.pn=[]
 stk:X.stack=X.env::X.outer
 fr:X.env.frame=some X.env.locals
theorem au {CX:CXT}{P:Program}{w:World}{K:W.Frag}{mg:Str->Option Value}{base:Heap}{N:List Str}{qual:Str}{scope:Scope}{f:Addr}{cd:Value}{A:Around}{outer:List Env}{s:Shared}{H:Hp}{E:XK} :
  Plain (cxOf CX P w K mg base N qual scope f cd A outer s H E):=⟨rfl,rfl,rfl,rfl⟩
section
variable {X:Cx}{E:XK}{a:Addr}{cls:Value}{B:Heap}{H':Hp}{s':Shared}
theorem sg (Pl:Plain X){b:Addr}(h:b∈X.fs):b∈frs X.stack:=by
 rw [Pl.stk];unfold L2.frs;rw [List.filterMap_cons,Pl.fr];exact List.mem_cons_of_mem _ h
theorem mM (Pl:Plain X):X.env.locals∈frs X.stack:=by
 rw [Pl.stk];unfold L2.frs;rw [List.filterMap_cons,Pl.fr];exact List.mem_cons_self
theorem FlyAt.move (F:FlyAt X E a cls B H' s')(Pl:Plain X){h':Heap}(st:B.StaysIn h')(fu:h'.FunFrames B X.stack)(up:s'.heap.UpToSlots h'):FlyAt X E a cls B H' { s' with heap:=h' } where
 os:=F.os
 bare:=F.bare
 un:=F.un
 slots:=λb o e hb=>by
  obtain ⟨sl,q⟩:=F.slots b o e hb;obtain ⟨_,o2,q2,nf⟩:=F.funs.mem (sg Pl hb);rw [q] at q2;cases q2;obtain ⟨sl2,q3⟩:=up b _ q nf;exact ⟨sl2,q3⟩
 frs:=F.frs
 hok:=F.hok
 ns:=F.ns.imp λ_ h=>up.ns h
 stays:=st
 new:=F.new
 funs:=fu
 wish:=F.wish
theorem FlyAt.note {M:Model}{Ex:Value->Shared->Prop}{Q:Unit->Shared->Prop} (F:FlyAt X E a cls B H' s') (G:qH B a cls X.env.locals s'.heap) (Pl:Plain X) {A:Around} (hfr:A.frames=some X.stack)
  (hQ:∀h' a0,FlyAt X E a cls B H' { s' with heap:=h' }->h'.TracedAtW B a cls a0 (rawInt X.env.locals)->Q () { s' with heap:=h' }):wpAny M A (noteFrame (.ref a) X.env) Q Ex s':=by
 have hl:s'.heap.FunFrames B (X.env::X.outer):=by rw [<- Pl.stk];exact F.funs
 rw [Pl.stk] at hfr;cases G with
 | fresh oe vs a0 he hc hd h1 h0 =>
  unfold noteFrame;simp only [Pl.fr];refine wpAny_bind (wpAny_field he hd h1 ?_);rw [if_neg (by decide)];refine wpAny_entryW hfr hl Pl.fr he F.stays F.new hd (Array.getElem?_eq_some_iff.mp h1).1 h0 λh' ⟨k1,k2,k3,k4⟩=>?_;rw [hc] at k3;exact hQ h' a0 (F.move Pl k1 (by rw [Pl.stk];exact k2) k4) k3
 | fly a0 ht =>
  refine wpAny_noteFrame_onW hfr hl Pl.fr ht F.stays F.new λh' hz=>?_;obtain ⟨k1,k2,k3,k4⟩:=hz;exact hQ h' a0 (F.move Pl k1 (by rw [Pl.stk];exact k2) k4) k3
 | held a0 ht=>exact wpAny_noteFrame_againW Pl.fr ht (hQ s'.heap a0 F ht)
theorem FlyAt.land {M:Model}{Ex:Value->Shared->Prop}{Q:Unit->Shared->Prop}{a0 fl:Value} (F:FlyAt X E a cls B H' s') (ht:s'.heap.TracedAtW B a cls a0 fl) (Pl:Plain X) {A:Around}
  (hQ:∀h',FlyAt X E a cls B H' { s' with heap:=h' }->h'.TracedW B a cls a0->Q () { s' with heap:=h' }):wpAny M A (setFlight (.ref a) none) Q Ex s' :=
 wpAny_setFlight_noneW F.stays F.funs ht λh' k1 k2 k3 k4=>hQ h' (F.move Pl k1 k2 λb o e n=>⟨o.slots,k4 b o e n⟩) k3
theorem qI {h B:Heap}{a:Addr}{cls a0 fl:Value} (ht:h.TracedAtW B a cls a0 fl):∃oe vs T,h.get? a=some oe/\oe.data=.fields vs/\vs[1]?=some (.ref T):=by
 obtain ⟨oe,vs,T,_,_,he,_,hd,h1,_⟩:=ht;exact ⟨oe,vs,T,he,hd,h1⟩
theorem XFly.leave {M:Model}{Ex:Value->Shared->Prop}{e:Value} (x:XFly X E e s') (Pl:Plain X) {A:Around} (hfr:A.frames=some X.stack):wpAny M A (leaving X.env e) (λ_ s''=>CX1 X.prog X.w X.outer X.H₀ X.s₀ E e s'') Ex s':=by
 obtain ⟨a,cls,B,H',rfl,F,G⟩:=x;unfold leaving;refine wpAny_bind (F.note G Pl hfr λh' a0 F' ht=>F'.land ht Pl λh2 F2 ht2=>?_);have fu:h2.FunFrames B (X.env::X.outer):=by rw [<- Pl.stk];exact F2.funs
 exact ⟨a,cls,a0,B,H',rfl,F2.os,F2.bare,F2.un,F2.slots,λb hb=>F2.frs b (sg Pl hb),F2.hok,⟨F2.stays,F2.new,fu.2.2,ht2⟩,F2.wish⟩
theorem dw (Pl:Plain X)(hfr:X.A.frames=some X.stack):PassesOwn (model X.prog X.w) X.A X.env (XFly X E):=by
 rintro e s' ⟨a,cls,B,H',rfl,F,G⟩;refine F.note G Pl hfr λh' a0 F' ht=>?_;obtain ⟨oe,vs,T,he,hd,h1⟩:=qI ht
 show wpAny _ _ (do if (<- field (.ref a) 1)==.none then unsupported "frame.own-activation:exception-without-traceback"
                    setFlight (.ref a) X.env.frame) _ _ _
 refine wpAny_bind (wpAny_field he hd h1 ?_);rw [if_neg (show ¬((Value.ref T==Value.none)=true) from by simp)];rw [Pl.fr];obtain ⟨oe,vs,T,oT,ts,he,hc,hd,h1,hnT,hTe,hT,hdT,h3⟩:=ht;have hsz3:3<ts.size:=(Array.getElem?_eq_some_iff.mp h3).1;have other:∀b,b≠T->(h'.update T (Obj.mapFields (·.setIfInBounds 3 (rawInt X.env.locals)))).get? b=h'.get? b:=λb hb=>Heap.get?_update_other _ _ (Ne.symm hb);have noR:∀b o,h'.get? b=some o->(∀vs,o.data≠.fields vs)->b≠T:=λb o hb hnf q=>by
  rw [q,hT] at hb;cases hb;exact hnf ts hdT
 unfold setFlight;refine wpAny_bind (wpAny_field he hd h1 ?_);rw [if_pos (show (Value.ref T != Value.none)=true from by simp)];refine wpAny_setField hT hdT hsz3 ⟨a,cls,B,H',rfl,F'.move Pl (λb o q=>(other b λz=>by rw [z,hnT] at q;cases q).trans (F'.stays b o q)) (F'.funs.of_keeps λb o q nf=>⟨o,(other b (noR b o q nf)).trans q,rfl⟩) (λb o q nf=>⟨o.slots,(other b (noR b o q nf)).trans q⟩),.held a0 ?_⟩;exact ⟨oe,vs,T,_,_,(other a (Ne.symm hTe)).trans he,hc,hd,h1,hnT,hTe,Heap.get?_update_self _ hT (Obj.isFreed_of_fields (Obj.data_mapFields hdT _)),Obj.data_mapFields hdT _,by simp [hsz3]⟩
theorem bH (Pl:Plain X):cy (CX1 X.prog X.w) (X.wish (XFly X E)) E:=by
 rintro pins σ H s e s' I ⟨a,cls,a0,B,H',rfl,os,bare,un,sl,fr,hok,fl,wish⟩;have I:Inv X pins σ H s:=I.unwish;have noex:∀b,b ∉ X.ex:=λb z=>by rw [Pl.ex] at z;cases z
 have nstk:∀b o,X.s₀.heap.get? b=some o->b ∉ X.fs->b ∉ frs X.stack:=λb o e hb z=>by
  rcases List.mem_cons.mp (I.stkSub b z) with q | q
  ·exact Nat.lt_irrefl _ (Nat.lt_of_lt_of_le (q▸Heap.lt_size e) I.ok.above)
  ·exact hb q
 refine ⟨a,cls,B,H',rfl,⟨os.trans I.os,bare,⟨λb o e n hb=>?_,λb o e n=>?_,λb o e hb=>?_,λb xs e=>un.tups b xs (I.base.tups b xs e),λb o u e=>un.frzs b o u (I.base.frzs b o u e),λb ps e=>?_⟩,λb o e hb=>?_,fr,hok,?_,fl.1,fl.2.1,fl.2.2.1,wish⟩,.fly a0 fl.2.2.2⟩
 ·exact un.keep b o (I.base.keep b o e n hb (noex b)) (I.base.free b o e n (noex b)) (nstk b o e hb)
 ·obtain ⟨o',q⟩:=I.base.there b o e (noex b);exact un.free b o' q (I.base.free b o e n (noex b))
 ·obtain ⟨o',q⟩:=I.base.there b o e (noex b);exact un.there b o' q (nstk b o e hb)
 ·obtain ⟨m1,e1⟩:=I.base.tbls b ps e;obtain ⟨m2,e2⟩:=un.tbls b _ e1;exact ⟨m1++m2,by rw [e2,Array.append_assoc]⟩
 ·obtain ⟨s1,q1⟩:=I.base.slot b o e (I.ok.frf b hb) hb (noex b);obtain ⟨s2,q2⟩:=sl b _ q1 (sg Pl hb);exact ⟨s2,q2⟩
 ·obtain ⟨m,⟨o,es,ep,ho,hd,r⟩,_⟩:=I.loc;obtain ⟨s2,q2⟩:=sl _ o ho (mM (X:=X) Pl);exact ⟨m,_,es,ep,q2,hd,r⟩
end
theorem A6 {x:List Value}{y:List (Option Value)}{f} (h:W.excIn.match_1 (λ_ _=>Bool) x y f (λ_ _=>false)=true)
   : ∃C' bm k0 k1 k2 k3 n k5,x=.ref C'::bm/\y=[k0,k1,k2,k3,some (.builtin n),k5]/\f C' bm k0 k1 k2 k3 n k5=true:=by
 rcases x with _ | ⟨v,bm⟩
 ·exact Bool.noConfusion h
 cases v with
 | ref a =>
  rcases y with _ | ⟨k0,_ | ⟨k1,_ | ⟨k2,_ | ⟨k3,_ | ⟨_ | ⟨v⟩,y⟩⟩⟩⟩⟩ <;> try exact Bool.noConfusion h
  cases v with
  | builtin n =>
   rcases y with _ | ⟨k5,_ | ⟨k6,y⟩⟩ <;> try exact Bool.noConfusion h
   exact ⟨_,_,_,_,_,_,_,_,rfl,rfl,h⟩
  | _=>exact Bool.noConfusion h
 | _=>exact Bool.noConfusion h
theorem wY {c:Prop}[Decidable c]{f:c->Bool}(h:dite c f (λ_=>false)=true):∃e,f e=true:=by
 by_cases e:c
 ·exact ⟨e,(dif_pos e).symm.trans h⟩
 ·exact Bool.noConfusion ((dif_neg e).symm.trans h)
theorem Ai {x:Option Obj}{f} (h:W.excIn.match_6 (λ_=>Bool) x f (λ_=>false)=true):∃dd cd sl,x=some ⟨.type "type",dd,.cls cd,sl⟩/\f dd cd sl=true:=by
 rcases x with _ | ⟨c,dd,da,sl⟩
 ·exact Bool.noConfusion h
 cases c with
 | type s =>
  delta W.excIn.match_6 W.nsOkIn._sparseCasesOn_4 W.excIn._sparseCasesOn_6 at h;obtain ⟨rfl,h⟩:=wY h;cases da with
  | cls cd=>exact ⟨_,_,_,rfl,h⟩
  | _=>exact Bool.noConfusion h
 | _=>exact Bool.noConfusion h
structure ExcAt (K:W.Frag)(mg:Str->Option Value)(x:Str)(C:Addr):Prop where
 mg:mg x=some (.ref C)
 ex:W.excIn K C [.type "Exception",.type "BaseException",.type "object"] "Exception.__new__"=true
inductive yq (h:Heap)(C:Addr):Prop
 | mk (bm N nm q bs hdct sn sub ab col dd k0 k1 k2 k3 k5 mN) (hC:h.get? C=some (excClassObj nm q C N bs bm hdct sn sub ab col dd k0 k1 k2 k3 k5 "Exception.__new__")) (hN:h.Ns N mN) (hi:mN "__init__"=none) (T:OwnTail h [.type "Exception",.type "BaseException",.type "object"] bm):yq h C
theorem ExcAt.obj {K:W.Frag}{mg:Str->Option Value}{x:Str}{C:Addr}{h:Heap} (c:ExcAt K mg x C) (X:K.In h):yq h C:=by
 obtain ⟨dd,cd,sl,ho,q⟩:=Ai c.ex;obtain ⟨C',bm,k0,k1,k2,k3,n,k5,hm,hs,q⟩:=A6 q;simp only [Bool.and_eq_true,beq_iff_eq,Bool.not_eq_true'] at q;obtain ⟨⟨⟨⟨⟨rfl,rfl⟩,hdel⟩,ht⟩,hok⟩,hni⟩:=q;obtain ⟨nm,bs,mro,ns,qn,hd,sn,sub,ab,col,del⟩:=cd;obtain ⟨l⟩:=sl;cases hm;cases hdel;cases hs;exact ⟨bm,ns,nm,qn,bs,hd,sn,sub,ab,col,dd,k0,k1,k2,k3,k5,_,X _ _ ho,.of_isNs (W.isNs_of_in X hok),W.nsMap_none_of_in X hok hni,W.tail_of_in X ht⟩
def Aj (E:XK)(C:Addr):TS:=λ_ _ H=>E (.ref C) none H
theorem cj {X:Cx}{E:XK}{x:Str}{C:Addr}{np cpos pos:Pos} (Pl:Plain X) (hc:X.calm=true) (hg:Gl X x) (c:ExcAt X.K X.mg x C) (hd:(x==("__debug__":Str))=false:=by decide) :
  PS (X.wish (XFly X E)) (.Raise (some (.Call (.Name x np) [] [] cpos)) none pos) (Aj E C):=by
 intro pins s σ H D I h;have I0:Inv X pins σ H s:=I.unwish;obtain ⟨bm,N,nm,q,bs,hdct,sn,sub,ab,col,dd,k0,k1,k2,k3,k5,mN,hC,hN,hni,T⟩:=c.obj I0.kIn;refine wpAny_Raise_call_subT (C:=C) (nm:=nm) (q:=q) (N:=N) (bs:=bs) (bm:=bm) (hdct:=hdct) (sn:=sn) (sub:=sub) (ab:=ab) (col:=col) (dd:=dd) (k0:=k0) (k1:=k1) (k2:=k2) (k3:=k3) (k5:=k5)
  PySem.F.excBase_Exception (mN:=mN) (T.hasType PySem.F.excBase_Exception.hasBase) (I0.ok.hd hc) rfl hni (ld_glob (X:=X) I0 hg c.mg ⟨rfl,?_⟩ hd)
 refine evalArgs_empty ⟨rfl,Nat.zero_le _,hC,hN,T,λh' e hx=>?_⟩;obtain ⟨t,he,htn,ht⟩:=hx.there;have noex:∀b,b ∉ X.ex:=λb z=>by rw [Pl.ex] at z;cases z
 have nstk:∀b o,X.s₀.heap.get? b=some o->b ∉ X.fs->b ∉ frs X.stack:=λb o e hb z=>by
  rcases List.mem_cons.mp (I0.stkSub b z) with q | q
  ·exact Nat.lt_irrefl _ (Nat.lt_of_lt_of_le (q▸Heap.lt_size e) I0.ok.above)
  ·exact hb q
 refine ⟨e,.ref C,W.hideAll s.heap (frs X.stack),H,rfl,⟨I0.os,I0.bare,⟨λb o q n hb=>?_,λb o q n=>I0.base.free b o q n (noex b),λb o q hb=>?_,I0.base.tups,I0.base.frzs,I0.base.tbls⟩,λb o q hb=>?_,I0.stkFree,λb u q=>?_,?_,λb o q=>hx.keeps b o (W.of_hideAll _ q),?_,?_,h⟩,.fresh _ _ _ he rfl rfl rfl rfl⟩
 ·exact W.hideAll_get _ (I0.base.keep b o q n hb (noex b)) (nstk b o q hb)
 ·obtain ⟨o',q'⟩:=I0.base.there b o q (noex b);exact ⟨o',W.hideAll_get _ q' (nstk b o q hb)⟩
 ·obtain ⟨s1,q1⟩:=I0.base.slot b o q (I0.ok.frf b hb) hb (noex b);exact ⟨s1,hx.keeps _ _ q1⟩
 ·refine (I0.hok b u q).stay (λc' v hc' q'=>W.hideAll_get _ q' λz=>?_) (λ_ z=>z) λ_ _ z=>z;have zn:=I0.stkFree c' z;rcases hc' with r | r
  ·rw [r,q] at zn;cases zn
  ·rw [r] at zn;cases zn
 ·obtain ⟨m,hn,_⟩:=I0.loc;exact ⟨m,hn.keeps hx.keeps⟩
 ·cases z:(W.hideAll s.heap (frs X.stack)).get? e with
  | none=>rfl
  | some o=>have:=W.of_hideAll _ z;rw [hx.new] at this;cases this
 ·refine (W.funFrames_hide I0.stack λenv he' b hb=>List.mem_filterMap.mpr ⟨env,he',hb⟩).of_keeps λb o q _=>⟨o,hx.keeps b o q,rfl⟩
section
variable {P:Program}{w:World}{K:W.Frag}{mg:Str->Option Value}{base:Heap}
theorem PSs.fly {X:Cx}{st:List Stmt}{t:TS}{E':Value->Shared->Prop} (h:PSs (X.wish E') st t) (k:∀(pins:List (Addr×Obj)) (s:Shared) (σ:L2.St) (H:Hp),Inv X pins σ H s->∀e s',E' e s'->X.xe e s'):PSs X st t:=λpins s σ H D I hw =>
 wpAny_mono (h pins s σ H D (I.wish _) hw) (λ_ _ q=>q.unwish) (k pins s σ H I)
theorem aB.okx {x:Str}{st:Stmt}{N ps:List Str}{k:Nat}{sp:Sp} (D:aB K mg x st) (S:FnScope N ps (ae st))
  (hbody:∀(f:Addr) (cdv:Value) (A:Around) (outer:List Env) (s:Shared) (H:Hp) (vs:List V) (Q:VK) (E:XK),Room k (A.deeper (envOfC x (ae st) s.heap.objs.size f cdv))->sp vs H Q E->∀X:Cx,X=cxOf (CX1 P w) P w K mg base N x (ae st) f cdv A outer s H E ->
   ∃t,PSs (X.wish (XFly X E)) (bG st) t/\t { nx:=λ_ H'=>Q .non H',rt:=Q } (start N vs) H)
  (hb:∀(kV doc pm:Value) (an:Option Addr) (cdv ct:Value) (us:List Value),us.length=ps.length->bindArgs (W.fnOf x x (dJ st) (bG st) (ae st) .none kV doc pm an cdv ct) ⟨us,[]⟩=pure (ps.zip us):=by first | exact λ_ _ _ _ _ _=>TW.us1 λ_=>rfl | exact λ_ _ _ _ _ _=>TW.us2 λ_ _=>rfl | exact λ_ _ _ _ _ _=>TW.us3 λ_ _ _=>rfl | exact λ_ _ _ _ _ _=>TW.us5 λ_ _ _ _ _=>rfl | exact λ_ _ _ _ _ _=>TW.us4 λ_ _ _ _=>rfl | exact λ_ _ _ _ _ _=>TW.us0 rfl | exact λ_ _ _ _ _ _=>TW.us6 λ_ _ _ _ _ _=>rfl)
  (len:∀vs H Q E,sp vs H Q E->vs.length=ps.length:=by intro _ _ _ _ h;cases h;subst_vars;rfl):OkF P w K mg base (CX1 P w) (k+1) x ps sp:=by
 obtain ⟨f,fd,F,hm⟩:=D;refine ⟨f,fd,hm,F.kp,F.binds hb,?_⟩;obtain ⟨oc,od,kV,doc,pm,an,cdv,ct,osl,rfl,lk,hcd⟩:=F.ex;refine yI lk hcd S len λA outer s H vs Q E hr hsp=>?_;obtain ⟨t,h,q⟩:=hbody f cdv A outer s H vs Q E hr hsp _ rfl;exact ⟨t,PSs.fly h λpins s1 σ H1 I e s' z=>z.leave au I.ok.frames,q⟩
end
abbrev Cx.inEx (X:Cx)(e:Value):Cx:={ X with A:=X.A.mark (some e),calm:=false }
theorem yS {X:Cx}{e:Value} (ok:X.Ok):(Cx.inEx X e).Ok:=⟨ok.mod,ok.kind,ok.glob,ok.blt,ok.above,ok.inj,ok.has,ok.cab,(λz=>nomatch z),ok.frames,ok.stk,ok.exf,ok.bs,ok.bsz,ok.noex,ok.exfs,ok.funs,ok.frf⟩
theorem FlyAt.inv {X:Cx}{E:XK}{a:Addr}{cls:Value}{B:Heap}{H':Hp}{s':Shared}{e:Value} (F:FlyAt X E a cls B H' s') (Pl:Plain X) (ok:X.Ok) (hc:X.env.cells=[]):Inv (Cx.inEx X e) [] (List.replicate X.N.length none) H' s':=by
 have u:=F.un.un F.stays F.slots;obtain ⟨m,hn⟩:=F.ns;refine ⟨yS ok,F.os,F.bare,u.mono (λ_ z=>z) (λb z=>by cases z),⟨m,hn,λi x v _ h2 _=>?_⟩,λx c h=>?_,F.frs _ (mM Pl),λx c h=>?_,λp hp=>?_,F.hok.kept F.stays,List.length_replicate ..⟩
 ·rw [List.getElem?_replicate] at h2;split at h2 <;> cases h2
 ·have h:X.env.cells.lookup x=some c:=h;rw [hc] at h;cases h
 ·have h:X.env.cells.lookup x=some c:=h;rw [hc] at h;cases h
 ·have hp:p∈X.pn++[]:=hp;rw [Pl.pn] at hp;cases hp
theorem inEx_back {X:Cx}{pins:List (Addr×Obj)}{σ:L2.St}{H:Hp}{s:Shared}{e:Value} (ok:X.Ok) (I:Inv (Cx.inEx X e) pins σ H s):Inv X pins σ H s:=⟨ok,I.os,I.bare,I.base,I.loc,I.cell,I.free,I.freeC,I.pin,I.hok,I.len⟩
theorem SP.inEx {X:Cx}{D:Ends}{f:Flow}{s':Shared}{e:Value} (ok:X.Ok) (h:SP (Cx.inEx X e) [] D f s'):SP X [] D f s':=by
 cases f with
 | next=>obtain ⟨σ',H',I,q⟩:=h;exact ⟨σ',H',inEx_back ok I,q⟩
 | brk=>obtain ⟨σ',H',I,q⟩:=h;exact ⟨σ',H',inEx_back ok I,q⟩
 | cont=>obtain ⟨σ',H',I,q⟩:=h;exact ⟨σ',H',inEx_back ok I,q⟩
 | ret u=>obtain ⟨v,σ',H',I,r,q⟩:=h;exact ⟨v,σ',H',inEx_back ok I,r,q⟩
def PSs0 (X:Cx)(st:List Stmt)(t:TS):Prop:=∀(s:Shared) (σ:L2.St) (H:Hp) (D:Ends),Inv X [] σ H s->t D σ H->wpAny (model X.prog X.w) X.A (execs st X.env) (SP X [] D) X.xe s
def tTry (N:List Str)(E2:XK)(C1 C2:Addr)(tb t1 t2:TS):TS:=λD σ H=>tb D σ H/\∀cls d H',E2 cls d H'->(cls=.ref C1/\t1 D (List.replicate N.length none) H')\/(cls=.ref C2/\t2 D (List.replicate N.length none) H')
theorem yT {X:Cx}{E2:XK}{body:List Stmt}{x1 x2:Str}{p1 p2 q1 q2 pos:Pos}{b1 b2:Stmt}{r1 r2:List Stmt}{C1 C2:Addr}{tb t1 t2:TS} (Pl:Plain X) (hcl:X.env.cells=[]) (hxe:X.xe=λ_ _=>False)
  (g1:Gl X x1) (g2:Gl X x2) (m1:X.mg x1=some (.ref C1)) (m2:X.mg x2=some (.ref C2)) (e11:W.exmOne X.K (.ref C1) (.ref C1)=some true) (e21:W.exmOne X.K (.ref C2) (.ref C1)=some false) (e22:W.exmOne X.K (.ref C2) (.ref C2)=some true)
  (hb:PSs (X.wish (XFly X E2)) body tb) (h1:∀e,PSs (Cx.inEx X e) (b1::r1) t1) (h2:∀e,PSs (Cx.inEx X e) (b2::r2) t2)
  (d1:(x1==("__debug__":Str))=false:=by decide) (d2:(x2==("__debug__":Str))=false:=by decide) :
  PSs0 X [.Try body [.ExceptHandler (some (.Name x1 p1)) none (b1::r1) q1,.ExceptHandler (some (.Name x2 p2)) none (b2::r2) q2] [] [] pos] (tTry X.N E2 C1 C2 tb t1 t2):=by
 intro s σ H D I ⟨w1,w2⟩;have hfr:X.A.frames=some X.stack:=I.ok.frames;have look:∀{cls a0 fl:Value}{B h:Heap}{a:Addr},h.TracedAtW B a cls a0 fl->W.Looks (model X.prog X.w) h (typeOf (.ref a)) cls:=λht=>by
  obtain ⟨ob,hob,hc⟩:=ht.there;subst hc;exact (W.Looks.ld hob).andThen .now
 have suite:∀{a:Addr}{cls a0:Value}{B:Heap}{H':Hp}{s':Shared}{b0:Stmt}{r:List Stmt}{t:TS}{pos':Pos}{Q:Result->Shared->Prop},FlyAt X E2 a cls B H' s'->s'.heap.TracedW B a cls a0->(∀e,PSs (Cx.inEx X e) (b0::r) t)->t D (List.replicate X.N.length none) H' ->
   (∀f s'',SP X [] D f s''->Q (.ok f) s'')->codeAny (model X.prog X.w) (X.A.mark (some (.ref a))) (.handlers (.ref a) [.ExceptHandler none none (b0::r) pos'] X.env) Q s':=by
  intro a cls a0 B H' s' b0 r t pos' Q F ht hs ht2 hq;refine codeAny_handlers_suite (F.land ht.at Pl λh' F' ht'=>?_);have I':=F'.inv (e:=.ref a) Pl I.ok hcl;refine wpAny_mono (hs (.ref a) [] _ _ H' D I' ht2) (λf s'' z=>hq f s'' (SP.inEx I.ok z)) λe s'' z=>?_;have z:X.xe e s'':=z;rw [hxe] at z;exact z.elim
 have name:∀{a:Addr}{cls:Value}{B:Heap}{H':Hp}{s':Shared}{x:Str}{C:Addr}{pos':Pos}{Q:Value->Shared->Prop}{Ex:Value->Shared->Prop},FlyAt X E2 a cls B H' s'->Gl X x->X.mg x=some (.ref C)->(x==("__debug__":Str))=false->Q (.ref C) s'->wpAny (model X.prog X.w) (X.A.mark (some (.ref a))) (eval (.Name x pos') X.env) Q Ex s' :=
  λF hg hm hd q=>ld_glob (X:=Cx.inEx X _) (F.inv Pl I.ok hcl) hg hm q hd
 have kin:∀{a:Addr}{cls:Value}{B:Heap}{H':Hp}{s':Shared},FlyAt X E2 a cls B H' s'->X.K.In s'.heap:=λF=>(F.inv (e:=.none) Pl I.ok hcl).kIn;have fin:∀{f:Flow}{s1:Shared},SP X [] D f s1->(match f with | .next=>wpAny (model X.prog X.w) X.A (execs [] X.env) (SP X [] D) X.xe s1 | f=>SP X [] D f s1):=fun {f s1} z=>by
  cases f with
  | next=>exact wpAny_execs_nil z
  | ret v=>exact z
  | brk=>exact z
  | cont=>exact z
 refine wpAny_execs_cons (wpAny_Try_except ?_);refine wpAny_mono (hb [] s σ H D (I.wish _) w1) (λf s1 z=>?_) λe s1 z=>?_
 ·have z:=SP.unwish z;cases f with
  | next=>exact wpAny_execs_nil (wpAny_execs_nil z)
  | ret v=>exact z
  | brk=>exact z
  | cont=>exact z
 ·obtain ⟨a,cls,B,H',rfl,F,G⟩:=z;refine F.note G Pl hfr λh2' a0 F2 t2'=>F2.land t2' Pl λh3 F3 t3=>?_;rcases w2 cls none H' F.wish with ⟨rfl,wt⟩ | ⟨rfl,wt⟩
  ·refine wpAny_handleBy_cons (codeAny_handlers_test (name F3 g1 m1 d1 ((W.exm_one (kin F3) (look t3.at) e11).here ?_))) (by intro q;cases q);exact suite F3 t3 h1 wt λf s4 z=>fin z
  ·refine wpAny_handleBy_cons (codeAny_handlers_test (name F3 g1 m1 d1 ((W.exm_one (kin F3) (look t3.at) e21).here ?_))) (by intro q;cases q);refine wpAny_handleBy_cons (codeAny_handlers_test (name F3 g2 m2 d2 ((W.exm_one (kin F3) (look t3.at) e22).here ?_))) (by intro q;cases q);exact suite F3 t3 h2 wt λf s4 z=>fin z
theorem Fun.ok0 {P:Program}{w:World}{K:W.Frag}{mg:Str->Option Value}{base:Heap}{x qual:Str}{st:Stmt}{f:Addr}{fd:FuncData}{N ps:List Str}{k:Nat}{sp:Sp} (F:Fun K x qual st f fd) (S:FnScope N ps (ae st))
  (hbody:∀(cdv:Value) (A:Around) (outer:List Env) (s:Shared) (H:Hp) (vs:List V) (Q:VK) (E:XK),Room k (A.deeper (envOfC qual (ae st) s.heap.objs.size f cdv))->sp vs H Q E->∀X:Cx,X=(cxOf CX0 P w K mg base N qual (ae st) f cdv A outer s H E).nox ->
   ∃t,PSs0 X (bG st) t/\t { nx:=λ_ H'=>Q .non H',rt:=Q } (start N vs) H)
  (len:∀vs H Q E,sp vs H Q E->vs.length=ps.length:=by intro _ _ _ _ h;cases h;subst_vars;rfl):FnOk P w K mg base CX0 (k+1) f fd ps sp:=by
 obtain ⟨oc,od,kV,doc,pm,an,cdv,ct,osl,rfl,lk,hcd⟩:=F.ex;refine ⟨len,λA outer s H args us vs Q E hr e0 hb r hsp=>?_⟩;have hl:=len _ _ _ _ hsp;have KX:K.In s.heap:=e0.mod.kin.keeps λb o e=>(e0.bs b o e).1;have lim:s.heap.NoLimit:=e0.mod.nolimit.keeps λb o e=>(e0.bs b o e).1;have hkind:∀y∈ps.zip us,(ae st).names.lookup y.1=some .local\/((ae st).names.lookup y.1=some .cell/\((cellsFrom (s.heap.objs.size+1) (ae st).names []).lookup y.1).isSome=true):=λ⟨n,v⟩ hy=>by
  rcases S.par n (List.of_mem_zip hy).1 with q | q
  ·exact .inl q
  ·exact .inr ⟨q,W.cellsFrom_some _ _ _ (.inl q)⟩
 refine codeAny_call_function hr.depth (KX _ _ lk) rfl S.co S.gen rfl (W.codeRec_of KX hcd) (hb _ _ _ _ ?_);refine wpAny_newFunctionEnv_cells S.kind hkind λenv he s1 x=>?_;subst he;refine ⟨lim.keeps x.toInCall.keep,codeAny_func ?_⟩;obtain ⟨t,ht,hq⟩:=hbody cdv A outer s H vs Q E (hr.deeper _) hsp _ rfl;have I:Inv (cxOf CX0 P w K mg base N qual (ae st) f cdv A outer s H E) [] (start N vs) H s1:=oZ S hr.hd e0 hl r x;refine wpAny_mono (ht s1 (start N vs) H _ (I.wish _) hq) (λfl s' hs=>?_) λe s' hs=>hs.elim;have hs:=SP.unwish hs;have fin:∀{σ':L2.St}{H':Hp}{v:V}{u:Value},Inv (cxOf CX0 P w K mg base N qual (ae st) f cdv A outer s H E) [] σ' H' s'->RelV v u->Q v H'->CE outer P w H s Q u s' :=
  fun {σ' H' v u} J rv q=>⟨v,H',J.os,J.bare,J.base,J.hok,rv,q⟩
 cases fl with
 | ret u =>
  obtain ⟨v,σ',H',J,rv,q⟩:=hs;exact fin J rv q
 | next =>
  obtain ⟨σ',H',J,q⟩:=hs;exact fin (v:=V.non) (u:=Value.none) J rfl q
 | brk =>
  obtain ⟨_,_,_,q⟩:=hs;exact False.elim q
 | cont =>
  obtain ⟨_,_,_,q⟩:=hs;exact False.elim q
end TW
namespace TW
def pick (xs:List Int)(i s n:Nat):List Int:=(List.range n).map λm=>xs.getD (i+m*s) 0
theorem bi (xs:List Int)(i s n:Nat):(pick xs i s n).length=n:=by simp [pick]
theorem dy {xs:List Int}{i s n m:Nat} (h:m<n):(pick xs i s n).getD m 0=xs.getD (i+m*s) 0:=by
 simp [pick,List.getD_eq_getElem?_getD,h]
def aE (ev:List Int)(count:Nat):List Int:=if (ev.drop 1).length<count then ev.drop 1++[ev.getD (ev.length-1) 0] else ev.drop 1
def kr (d:List Int):List Int:=((d.take 1++d).zip (d++d.drop (d.length-1))).map λp=>(p.1+p.2+2)/4
def pd (od ev ri:List Int):List Int:=(od.zip (ev.zip ri)).map λp=>p.1-(p.2.1+p.2.2)/2
def ie (x:List Int):List Int:=if x.length<2 then x else
 let ev:=pick x 0 2 ((x.length+1)/2)
 let od:=pick x 1 2 (x.length/2)
 let d:=pd od ev (aE ev od.length)
 (ev.zip (kr d)).map (λp=>p.1+p.2)++d
def ig (y:List Int):List Int:=if y.length<2 then y else
 let d:=y.drop ((y.length+1)/2)
 let ev:=((y.take ((y.length+1)/2)).zip (kr d)).map λp=>p.1-p.2
 let od:=(d.zip (ev.zip (aE ev d.length))).map λp=>p.1+(p.2.1+p.2.2)/2
 (List.range y.length).map λi=>if i % 2=0 then ev.getD (i/2) 0 else od.getD (i/2) 0
theorem aP {xs:List Int}{i:Nat} (h:i<xs.length):xs[i]=xs.getD i 0:=by simp [List.getD_eq_getElem?_getD,h]
theorem cX (d:List Int):(kr d).length=if d.length=0 then 0 else d.length+1:=by
 simp only [kr,List.length_map,List.length_zip,List.length_append,List.length_take,List.length_drop];split <;> omega
theorem l9 {d:List Int}{i:Nat} (h0:0<d.length) (h:i<d.length+1):(kr d).getD i 0=(Sp21.near d i+2)/4:=by
 have hl:i<(kr d).length:=by rw [cX,if_neg (by omega)];omega
 rw [<- aP hl];simp only [kr,Sp21.near,List.getElem_map,List.getElem_zip];have e1:(d.take 1++d)[i]'(by simp;omega)=d.getD (i-1) 0:=by
  rw [List.getElem_append];have h1:(d.take 1).length=1:=by simp;omega
  by_cases hi:i=0
  ·subst hi;rw [dif_pos (by omega),List.getElem_take,aP]
  ·rw [dif_neg (by omega),aP];simp [h1]
 have e2:(d++d.drop (d.length-1))[i]'(by simp;omega)=d.getD (min i (d.length-1)) 0:=by
  rw [List.getElem_append];by_cases hi:i<d.length
  ·rw [dif_pos hi,aP,Nat.min_eq_left (by omega)]
  ·rw [dif_neg hi,List.getElem_drop,aP,Nat.min_eq_right (by omega)];congr 1;omega
 rw [e1,e2]
theorem bF {ev:List Int}{c:Nat} (h:0<ev.length) (hc:c<=ev.length) (hc2:ev.length<=c+1):(aE ev c).length=c:=by
 unfold aE;split
 ·rename_i h1;simp at h1 ⊢;omega
 ·rename_i h1;simp at h1 ⊢;omega
theorem f9 {ev:List Int}{c i:Nat} (h:0<ev.length) (hc:c<=ev.length) (hc2:ev.length<=c+1) (hi:i<c):(aE ev c).getD i 0=ev.getD (min (i+1) (ev.length-1)) 0:=by
 have hl:i<(aE ev c).length:=by rw [bF h hc hc2];exact hi
 unfold aE;split
 ·rename_i h1;simp at h1;rw [List.getD_eq_getElem?_getD,List.getElem?_append];by_cases q:i<(ev.drop 1).length
  ·rw [if_pos q];simp at q;rw [List.getElem?_drop,<- List.getD_eq_getElem?_getD];congr 1;omega
  ·rw [if_neg q];simp at q;have:i-(ev.drop 1).length=0:=by simp;omega
   rw [this];simp only [List.getElem?_cons_zero,Option.getD_some];congr 1;omega
 ·rename_i h1;simp at h1;rw [List.getD_eq_getElem?_getD,List.getElem?_drop,<- List.getD_eq_getElem?_getD];congr 1;omega
theorem wZ {x:List Int}(h:2<=x.length):pd (pick x 1 2 (x.length/2)) (pick x 0 2 ((x.length+1)/2)) (aE (pick x 0 2 ((x.length+1)/2)) (x.length/2))=Sp21.differences x:=by
 have le:(pick x 0 2 ((x.length+1)/2)).length=(x.length+1)/2:=bi _ _ _ _;have lr:=bF (ev:=pick x 0 2 ((x.length+1)/2)) (c:=x.length/2) (by omega) (by omega) (by omega);apply List.ext_getElem
 ·simp only [pd,Sp21.differences,List.length_map,List.length_zip,lr,bi,List.length_range];omega
 ·intro i h1 h2;simp only [Sp21.differences,List.length_map,List.length_range] at h2;simp only [pd,Sp21.differences,List.getElem_map,List.getElem_zip,List.getElem_range,aP];rw [dy h2,dy (by omega),f9 (by omega) (by omega) (by omega) h2,le,dy (by omega)];unfold Sp21.look;have e1:1+i*2=2*i+1:=by omega
  have e2:0+i*2=2*i:=by omega
  have e3:(if 2*i+2<x.length then x.getD (2*i+2) 0 else x.getD (x.length-2) 0)=x.getD (0+min (i+1) ((x.length+1)/2-1)*2) 0:=by
   split
   ·congr 1;omega
   ·congr 1;omega
  rw [e1,e2,e3]
theorem kt (x:List Int):ie x=Sp21.halve x:=by
 unfold ie Sp21.halve;split
 ·rfl
 ·rename_i h;simp only [bi];rw [wZ (by omega)];have ld:(Sp21.differences x).length=x.length/2:=by simp [Sp21.differences]
  congr 1;apply List.ext_getElem
  ·simp only [List.length_map,List.length_zip,bi,cX,ld,List.length_range];rw [if_neg (by omega)];omega
  ·intro i h1 h2;simp only [List.length_map,List.length_range] at h2;simp only [List.getElem_map,List.getElem_zip,List.getElem_range,aP];rw [dy h2,l9 (by omega) (by omega)];have e2:0+i*2=2*i:=by omega
   rw [e2]
theorem ku (y:List Int):ig y=Sp21.whole y:=by
 unfold ig Sp21.whole;split
 ·rfl
 ·rename_i h;have ld:(y.drop ((y.length+1)/2)).length=y.length/2:=by simp;omega
  have ev:((y.take ((y.length+1)/2)).zip (kr (y.drop ((y.length+1)/2)))).map (λp=>p.1-p.2) =
    (List.range ((y.length+1)/2)).map λ(i:Nat)=>y.getD i 0-(Sp21.near (y.drop ((y.length+1)/2)) i+2)/4:=by
   apply List.ext_getElem
   ·simp only [List.length_map,List.length_zip,cX,ld,List.length_range,List.length_take];rw [if_neg (by omega)];omega
   ·intro i h1 h2;simp only [List.length_map,List.length_range] at h2;simp only [List.getElem_map,List.getElem_zip,List.getElem_range,aP];rw [l9 (by omega) (by omega)];congr 1;rw [List.getD_eq_getElem?_getD,List.getElem?_take,if_pos h2,<- List.getD_eq_getElem?_getD]
  dsimp only;rw [ev];generalize hE:((List.range ((y.length+1)/2)).map λ(i:Nat)=>y.getD i 0-(Sp21.near (y.drop ((y.length+1)/2)) i+2)/4)=E;have lE:E.length=(y.length+1)/2:=by rw [<- hE];simp
  have lr:=bF (ev:=E) (c:=(y.drop ((y.length+1)/2)).length) (by omega) (by omega) (by omega);apply List.map_congr_left;intro i hi;have hi:i<y.length:=by simpa using hi
  split
  ·rfl
  ·rename_i ho;have hi2:i/2<y.length/2:=by omega
   have hl:i/2<(((y.drop ((y.length+1)/2)).zip (E.zip (aE E (y.drop ((y.length+1)/2)).length))).map λp=>p.1+(p.2.1+p.2.2)/2).length:=by
    rw [ld] at lr;simp only [List.length_map,List.length_zip,ld,lE,lr];omega
   rw [<- aP hl];simp only [List.getElem_map,List.getElem_zip,aP];rw [f9 (by omega) (by omega) (by omega) (by omega),lE]
end TW
namespace TW
open Sp21 (bitsOf value bytesOf)
theorem bitsOf_length (n m:Nat):(bitsOf n m).length=n:=by simp [bitsOf]
theorem qJ (m:Nat):bitsOf 0 m=[]:=rfl
theorem bitsOf_lt {n m x:Nat}(h:x∈bitsOf n m):x<2:=by
 unfold bitsOf at h;obtain ⟨i,_,rfl⟩:=List.mem_map.mp h;omega
theorem bitsOf_getElem {n m i:Nat}(h:i<(bitsOf n m).length):(bitsOf n m)[i]=m/2 ^ (n-1-i) % 2:=by simp [bitsOf]
theorem cJ (a b x y:Nat)(hy:y<2 ^ b):bitsOf (a+b) (x*2 ^ b+y)=bitsOf a x++bitsOf b y:=by
 apply List.ext_getElem
 ·simp [bitsOf_length]
 ·intro i h1 h2;rw [bitsOf_length] at h1;rw [bitsOf_getElem,List.getElem_append];split
  ·rename_i h;rw [bitsOf_length] at h;rw [bitsOf_getElem];have e:a+b-1-i=b+(a-1-i):=by omega
   rw [e,Nat.pow_add,<- Nat.div_div_eq_div_mul,Nat.mul_comm x,Nat.mul_add_div (Nat.two_pow_pos b),Nat.div_eq_of_lt hy,Nat.add_zero]
  ·rename_i h;rw [bitsOf_length] at h;rw [bitsOf_getElem,bitsOf_length];have hi:i-a<b:=by omega
   have e:a+b-1-i=b-1-(i-a):=by omega
   rw [e];obtain ⟨k,hk⟩:∃k,b=(b-1-(i-a))+1+k:=⟨i-a,by omega⟩
   have e2:x*2 ^ b=2 ^ (b-1-(i-a))*(2*(x*2 ^ k)):=by
    conv=>lhs;rw [hk,Nat.pow_add,Nat.pow_add,Nat.pow_one]
    rw [Nat.mul_left_comm x,Nat.mul_assoc (2 ^ _)]
   rw [e2,Nat.mul_add_div (Nat.two_pow_pos _),Nat.add_comm,Nat.add_mul_mod_self_left]
theorem i5 (a b m:Nat):bitsOf (a+b) m=bitsOf a (m/2 ^ b)++bitsOf b (m % 2 ^ b):=by
 rw [<- cJ a b _ _ (Nat.mod_lt _ (Nat.two_pow_pos b)),Nat.mul_comm,Nat.div_add_mod]
theorem qK (l:List Nat):∀n:Nat,l.foldl (λ(n c:Nat)=>2*n+c) n=n*2 ^ l.length+value l:=by
 induction l with
 | nil=>intro n;simp [value]
 | cons x r ih =>
  intro n;unfold value;rw [List.foldl_cons,List.foldl_cons,ih,ih (2*0+x),List.length_cons,Nat.pow_succ,Nat.add_mul];have:2*n*2 ^ r.length=n*(2 ^ r.length*2):=by rw [Nat.mul_comm 2 n,Nat.mul_assoc,Nat.mul_comm 2]
  rw [this];simp only [Nat.mul_zero,Nat.zero_add];omega
theorem cq (a b:List Nat):value (a++b)=value a*2 ^ b.length+value b:=by
 rw [show value (a++b)=(a++b).foldl (λ(n c:Nat)=>2*n+c) 0 from rfl,List.foldl_append,qK b];rfl
theorem qL (k:Nat):value (List.replicate k 0)=0:=by
 induction k with
 | zero=>rfl
 | succ k ih =>
  rw [List.replicate_succ,show (0:Nat)::List.replicate k 0=[0]++List.replicate k 0 from rfl,cq,ih];simp [value]
theorem pf (n m:Nat):value (bitsOf n m)=m % 2 ^ n:=by
 induction n generalizing m with
 | zero=>simp [qJ,value,Nat.mod_one]
 | succ n ih =>
  rw [i5 n 1,cq,ih,bitsOf_length];have e:bitsOf 1 (m % 2 ^ 1)=[m % 2]:=by simp [bitsOf,List.range_succ]
  rw [e,show value [m % 2]=m % 2 by simp [value]];rw [Nat.pow_one,Nat.pow_succ,Nat.mul_comm (2 ^ n) 2,Nat.mod_mul];omega
theorem bu {n m:Nat}(h:m<2 ^ n):value (bitsOf n m)=m:=by rw [pf,Nat.mod_eq_of_lt h]
def byteAt (b:List Nat)(i:Nat):Nat:=value ((List.range 8).map λ(j:Nat)=>b.getD (8*i+j) 0)
theorem fJ (b:List Nat):bytesOf b=(List.range ((b.length+7)/8)).map (byteAt b):=rfl
theorem lG (b:List Nat):(bytesOf b).length=(b.length+7)/8:=by simp [bytesOf]
theorem jv {x:Nat}(hx:x<256)(t:List Nat):bytesOf (bitsOf 8 x++t)=x::bytesOf t:=by
 rw [fJ,fJ];have hl:(bitsOf 8 x++t).length=8+t.length:=by simp [bitsOf_length]
 have e:(8+t.length+7)/8=(t.length+7)/8+1:=by omega
 rw [hl,e,List.range_succ_eq_map,List.map_cons,List.map_map];refine congr (congrArg List.cons ?_) ?_
 ·have e8:((List.range 8).map λ(j:Nat)=>(bitsOf 8 x++t).getD (8*0+j) 0)=bitsOf 8 x:=by
   apply List.ext_getElem
   ·simp [bitsOf_length]
   ·intro j h1 h2;rw [bitsOf_length] at h2;rw [List.getElem_map,List.getElem_range,List.getD_eq_getElem?_getD,Nat.mul_zero,Nat.zero_add,List.getElem?_append_left (by rw [bitsOf_length];exact h2),
     List.getElem?_eq_getElem (by rw [bitsOf_length];exact h2),Option.getD_some]
  unfold byteAt;rw [e8,bu hx]
 ·apply List.map_congr_left;intro i _;show byteAt (bitsOf 8 x++t) (i+1)=byteAt t i;unfold byteAt;refine congrArg value (List.map_congr_left λj _=>?_);rw [List.getD_eq_getElem?_getD,List.getD_eq_getElem?_getD,List.getElem?_append_right (by rw [bitsOf_length];omega),bitsOf_length];congr 2;omega
theorem pi {l:List Nat}(h:∀x∈l,x<256)(t:List Nat):bytesOf (l.flatMap (bitsOf 8)++t)=l++bytesOf t:=by
 induction l with
 | nil=>rfl
 | cons x r ih =>
  rw [List.flatMap_cons,List.append_assoc,jv (h x (by simp)),ih λy hy=>h y (by simp [hy]),List.cons_append]
theorem jw {held rest:Nat}(h8:held<8)(hr:rest<2 ^ held):bytesOf (bitsOf held rest)=if held=0 then [] else [rest*2 ^ (8-held)]:=by
 split
 ·rename_i h;subst h;rw [fJ,bitsOf_length];rfl
 ·rename_i h;rw [fJ,bitsOf_length,show (held+7)/8=1 by omega,show List.range 1=[0] from rfl,List.map_cons,List.map_nil];congr 1;unfold byteAt;have e8:((List.range 8).map λ(j:Nat)=>(bitsOf held rest).getD (8*0+j) 0)=bitsOf held rest++List.replicate (8-held) 0:=by
   apply List.ext_getElem
   ·simp [bitsOf_length];omega
   ·intro j h1 h2;rw [List.getElem_map,List.getElem_range,List.getD_eq_getElem?_getD,Nat.mul_zero,Nat.zero_add,List.getElem_append];split
    ·rename_i hj;rw [List.getElem?_eq_getElem hj,Option.getD_some]
    ·rename_i hj;rw [List.getElem?_eq_none (by omega),Option.getD_none];simp
  rw [e8,cq,bu hr,qL,List.length_replicate,Nat.add_zero]
theorem eZ (l:List Nat):(l.flatMap (bitsOf 8)).length=8*l.length:=by
 induction l with
 | nil=>rfl
 | cons x r ih =>
  rw [List.flatMap_cons,List.length_append,bitsOf_length,List.length_cons,ih];omega
structure Wr (done:List Nat)(rest held:Nat)(B:List Nat):Prop where
 bits:B=done.flatMap (bitsOf 8)++bitsOf held rest
 lt:rest<2 ^ held
 byte:∀x∈done,x<256
theorem Wr.empty:Wr [] 0 0 []:=⟨rfl,by decide,by simp⟩
theorem Wr.tell {done B:List Nat}{rest held:Nat} (h:Wr done rest held B) {v many:Nat} (hv:v<2 ^ many):Wr done (rest*2 ^ many+v) (held+many) (B++bitsOf many v) where
 bits:=by rw [h.bits,cJ _ _ _ _ hv,List.append_assoc]
 lt:=by
  have:rest+1<=2 ^ held:=h.lt;have:=Nat.mul_le_mul_right (2 ^ many) this;rw [Nat.add_mul,Nat.one_mul,<- Nat.pow_add] at this;omega
 byte:=h.byte
theorem Wr.drain {done B:List Nat}{rest held:Nat} (h:Wr done rest held B) (h8:8<=held):Wr (done++[rest/2 ^ (held-8)]) (rest % 2 ^ (held-8)) (held-8) B where
 bits:=by
  rw [h.bits,List.flatMap_append,List.flatMap_singleton,List.append_assoc,<- i5,show 8+(held-8)=held by omega]
 lt:=Nat.mod_lt _ (Nat.two_pow_pos _)
 byte:=by
  intro x hx;rcases List.mem_append.mp hx with q | q
  ·exact h.byte x q
  ·rw [List.mem_singleton.mp q];have hl:=h.lt;rw [Nat.div_lt_iff_lt_mul (Nat.two_pow_pos _),show (256:Nat)=2 ^ 8 from rfl,<- Nat.pow_add,show 8+(held-8)=held by omega];exact hl
theorem Wr.all {done B:List Nat}{rest held:Nat} (h:Wr done rest held B) (h8:held<8):bytesOf B=done++if held=0 then [] else [rest*2 ^ (8-held)]:=by
 rw [h.bits,pi h.byte,jw h8 h.lt]
theorem Wr.length {done B:List Nat}{rest held:Nat} (h:Wr done rest held B):B.length=8*done.length+held:=by
 rw [h.bits,List.length_append,bitsOf_length,eZ]
end TW
namespace TW
open Sp21 (bitsOf value bytesOf parameter tell next code1 bandBits)
theorem kv (q:Nat):bitsOf q (2 ^ q-1)=List.replicate q 1:=by
 apply List.ext_getElem
 ·simp [bitsOf_length]
 ·intro i h1 h2;rw [bitsOf_length] at h1;rw [bitsOf_getElem,List.getElem_replicate];have e:2 ^ q-1=(2 ^ (i+1)-1)*2 ^ (q-1-i)+(2 ^ (q-1-i)-1):=by
   have e1:2 ^ q=2 ^ (i+1)*2 ^ (q-1-i):=by rw [<- Nat.pow_add];congr 1;omega
   have h1:=Nat.two_pow_pos (q-1-i);rw [e1,Nat.sub_mul,Nat.one_mul];have:2 ^ (q-1-i)<=2 ^ (i+1)*2 ^ (q-1-i):=Nat.le_mul_of_pos_left _ (Nat.two_pow_pos _);omega
  have h1:=Nat.two_pow_pos (q-1-i);rw [e,Nat.mul_comm,Nat.mul_add_div h1,Nat.div_eq_of_lt (by omega),Nat.add_zero,Nat.pow_succ];have:=Nat.two_pow_pos i;omega
theorem pj (q:Nat):bitsOf (q+1) ((2 ^ q-1)*2)=List.replicate q 1++[0]:=by
 have h:=cJ q 1 (2 ^ q-1) 0 (by decide);rw [Nat.pow_one] at h;rw [show (2 ^ q-1)*2=(2 ^ q-1)*2+0 from rfl];rw [h,kv];rfl
theorem i6 {k m:Nat}(h:m/2 ^ k<24):tell k m=bitsOf (m/2 ^ k+1) ((2 ^ (m/2 ^ k)-1)*2)++bitsOf k (m % 2 ^ k):=by
 unfold tell;simp only [if_pos h];rw [pj,List.append_assoc];rfl
theorem tell_long {k m:Nat}(h:¬m/2 ^ k<24):tell k m=bitsOf 24 (2 ^ 24-1)++bitsOf 24 m:=by
 unfold tell;simp only [if_neg h];rw [kv]
theorem parameter_eq {a c k:Nat}(hk:k<64)(h:a<=c*2 ^ k)(hn:∀j,j<k->¬a<=c*2 ^ j):parameter a c=k:=by
 unfold parameter;have:(List.range 64).find? (λ(k:Nat)=>decide (a<=c*2 ^ k))=some k:=by
  rw [List.find?_range_eq_some];exact ⟨by simpa using h,by simpa using hk,λj hj=>by simpa using hn j hj⟩
 rw [this];rfl
theorem jx {a c:Nat}(h:a<=c*2 ^ 63):parameter a c<64:=by
 unfold parameter;cases e:(List.range 64).find? (λ(k:Nat)=>decide (a<=c*2 ^ k)) with
 | none =>
  rw [List.find?_range_eq_none] at e;exact absurd h (by simpa using e 63 (by decide))
 | some k =>
  rw [List.find?_range_eq_some] at e;simpa using e.2.1
theorem qM {k m:Nat}(hk:k<64):(tell k m).length<=88:=by
 by_cases h:m/2 ^ k<24
 ·rw [i6 h,List.length_append,bitsOf_length,bitsOf_length];omega
 ·rw [tell_long h,List.length_append,bitsOf_length,bitsOf_length];omega
structure Paced (n a c:Nat):Prop where
 a_le:a<=16+n*2 ^ 24
 c_pos:1<=c
 c_lt:c<64
theorem Paced.start:Paced 0 16 1:=⟨by decide,by decide,by decide⟩
theorem Paced.next {n a c:Nat}(h:Paced n a c){z:Int}(hz:z.natAbs<=2 ^ 24):Paced (n+1) (next a c z).1 (next a c z).2:=by
 obtain ⟨h1,h2,h3⟩:=h;unfold Sp21.next;dsimp only;split
 ·exact ⟨by dsimp only;omega,by dsimp only;omega,by dsimp only;omega⟩
 ·exact ⟨by dsimp only;omega,by dsimp only;omega,by dsimp only;omega⟩
theorem Paced.fits {n a c:Nat}(h:Paced n a c)(hn:n<=2 ^ 20):a<=c*2 ^ 63:=by
 obtain ⟨h1,h2,h3⟩:=h;have:1*2 ^ 63<=c*2 ^ 63:=Nat.mul_le_mul_right _ h2;omega
theorem sh {z:Int}(h1:-(2 ^ 23)<=z)(h2:z<2 ^ 23):code1 z<2 ^ 24:=by
 unfold code1;split <;> omega
theorem e7 (a c:Nat):bandBits a c []=[]:=rfl
theorem bz (a c:Nat)(z:Int)(l:List Int):bandBits a c (z::l)=tell (parameter a c) (code1 z)++bandBits (next a c z).1 (next a c z).2 l:=rfl
def aU:Nat->Nat->List Int->Nat×Nat
 | a,c,[]=>(a,c)
 | a,c,z::l=>aU (next a c z).1 (next a c z).2 l
theorem ga:∀(l:List Int) (a c:Nat) (z:Int),aU a c (l++[z])=next (aU a c l).1 (aU a c l).2 z
 | [],_,_,_=>rfl
 | y::l,a,c,z=>ga l (next a c y).1 (next a c y).2 z
theorem ii:∀(l:List Int) (a c:Nat) (z:Int),bandBits a c (l++[z])=bandBits a c l++tell (parameter (aU a c l).1 (aU a c l).2) (code1 z)
 | [],a,c,z=>by
  rw [List.nil_append,bz,e7,e7,List.append_nil];rfl
 | y::l,a,c,z=>by
  rw [List.cons_append,bz,ii l,bz,List.append_assoc];rfl
theorem fb:∀(l:List Int) (n a c:Nat),Paced n a c->(∀z∈l,z.natAbs<=2 ^ 24)->Paced (n+l.length) (aU a c l).1 (aU a c l).2
 | [],n,a,c,h,_=>h
 | z::l,n,a,c,h,hz=>by
  have:=fb l (n+1) _ _ (h.next (z:=z) (hz z (by simp))) λy hy=>hz y (by simp [hy]);rw [List.length_cons,show n+(l.length+1)=n+1+l.length by omega];exact this
theorem cR:∀(l:List Int) (n a c:Nat),Paced n a c->n+l.length<=2 ^ 20->(∀z∈l,z.natAbs<=2 ^ 24)->(bandBits a c l).length<=88*l.length
 | [],n,a,c,h,_,_=>Nat.zero_le _
 | z::l,n,a,c,h,hn,hz=>by
  have hn':n+(l.length+1)<=2 ^ 20:=hn;have h1:=qM (k:=parameter a c) (m:=code1 z) (jx (h.fits (by omega)));have h2:=cR l (n+1) _ _ (h.next (z:=z) (hz z (by simp))) (by omega) λy hy=>hz y (by simp [hy]);rw [bz,List.length_append,List.length_cons];omega
end TW
namespace TW
open Sp21 (Grid halve turn onRows onColumns up corners forward Part last bands numbersOf)
theorem ax {xs:List Int}{i:Nat} (h:i<xs.length):xs[i]=xs.getD i 0:=by simp [List.getD_eq_getElem?_getD,h]
def Rect (g:Grid)(w h:Nat):Prop:=g.length=h/\∀r∈g,r.length=w
def cell (g:Grid)(y x:Nat):Int:=(g.getD y []).getD x 0
theorem Rect.row {g:Grid}{w h y:Nat} (R:Rect g w h) (hy:y<h):(g.getD y []).length=w:=by
 have hl:y<g.length:=by rw [R.1];exact hy
 rw [List.getD_eq_getElem?_getD,List.getElem?_eq_getElem hl,Option.getD_some];exact R.2 _ (List.getElem_mem hl)
theorem cell_eq {g:Grid}{y x:Nat} (hy:y<g.length) (hx:x<(g[y]).length):cell g y x=(g[y])[x]:=by
 simp [cell,List.getD_eq_getElem?_getD,hy,hx]
theorem Rect.ext {g g':Grid}{w h:Nat} (R:Rect g w h) (R':Rect g' w h) (hc:∀y x,y<h->x<w->cell g y x=cell g' y x):g=g':=by
 apply List.ext_getElem
 ·rw [R.1,R'.1]
 ·intro y h1 h2;have l1:=R.2 _ (List.getElem_mem h1);have l2:=R'.2 _ (List.getElem_mem h2);apply List.ext_getElem
  ·rw [l1,l2]
  ·intro x q1 q2;rw [<- cell_eq h1 q1,<- cell_eq h2 q2];exact hc y x (by rw [<- R.1];exact h1) (by rw [<- l1];exact q1)
theorem Rect.head {g:Grid}{w h:Nat} (R:Rect g w h) (hh:0<h):(g.headD []).length=w:=by
 cases g with
 | nil=>have:=R.1;simp at this;omega
 | cons r t=>exact R.2 r (by simp)
theorem Rect.turn {g:Grid}{w h:Nat} (R:Rect g w h) (hh:0<h):Rect (turn g) h w:=by
 unfold Sp21.turn;rw [R.head hh];refine ⟨by simp,λr hr=>?_⟩;obtain ⟨i,_,rfl⟩:=List.mem_map.mp hr;rw [List.length_map,R.1]
theorem cell_turn {g:Grid}{w h y x:Nat} (R:Rect g w h) (hh:0<h) (hy:y<w) (hx:x<h):cell (turn g) y x=cell g x y:=by
 unfold Sp21.turn cell;rw [R.head hh];have hxl:x<g.length:=by rw [R.1];exact hx
 simp [List.getD_eq_getElem?_getD,hy,hxl]
theorem getD_map_row {g:Grid}{f:List Int->List Int}{y:Nat} (hy:y<g.length):(g.map f).getD y []=f (g.getD y []):=by
 simp [List.getD_eq_getElem?_getD,hy]
theorem Rect.map {g:Grid}{w h w':Nat} (R:Rect g w h) (f:List Int->List Int) (hf:∀l,l.length=w->(f l).length=w'):Rect (g.map f) w' h:=by
 refine ⟨by rw [List.length_map,R.1],λr hr=>?_⟩;obtain ⟨l,hl,rfl⟩:=List.mem_map.mp hr;exact hf l (R.2 l hl)
theorem bA (f:List Int->List Int)(w h:Nat)(g:Grid):(onRows f w h g).length=g.length:=by simp [onRows]
theorem fK (f:List Int->List Int){w h y:Nat}{g:Grid} (hy:y<g.length):(onRows f w h g).getD y []=if y<h then f ((g.getD y []).take w)++(g.getD y []).drop w else g.getD y []:=by
 have hl:y<(onRows f w h g).length:=by rw [bA];exact hy
 rw [List.getD_eq_getElem?_getD,List.getElem?_eq_getElem hl,Option.getD_some];have e:g.getD y []=g[y]:=by simp [List.getD_eq_getElem?_getD,hy]
 rw [e];simp [onRows]
theorem Rect.onRows {g:Grid}{w h w':Nat} (R:Rect g w h) (f:List Int->List Int) (h':Nat) (hw:w'<=w) (hf:∀l,l.length=w'->(f l).length=w'):Rect (onRows f w' h' g) w h:=by
 refine ⟨by rw [bA,R.1],λr hr=>?_⟩;obtain ⟨y,hy,rfl⟩:=List.getElem_of_mem hr;have hy':y<g.length:=by rw [bA] at hy;exact hy
 have e:(Sp21.onRows f w' h' g)[y]=(Sp21.onRows f w' h' g).getD y []:=by simp [List.getD_eq_getElem?_getD,hy]
 have hr:=R.row (y:=y) (by rw [<- R.1];exact hy');rw [e,fK f hy'];split
 ·rw [List.length_append,List.length_drop,hf _ (by rw [List.length_take,hr];omega),hr];omega
 ·exact hr
theorem gx {g:Grid}{w h w' h' y x:Nat} (R:Rect g w h) (f:List Int->List Int) (hw:w'<=w) (hf:∀l,l.length=w'->(f l).length=w') (hy:y<h) :
  cell (onRows f w' h' g) y x=if y<h'/\x<w' then (f ((g.getD y []).take w')).getD x 0 else cell g y x:=by
 have hr:=R.row hy;have hl:(f ((g.getD y []).take w')).length=w':=hf _ (by rw [List.length_take,hr];omega);unfold cell;rw [fK f (by rw [R.1];exact hy)];by_cases h1:y<h'
 ·by_cases h2:x<w'
  ·rw [if_pos h1,if_pos ⟨h1,h2⟩,List.getD_eq_getElem?_getD,List.getElem?_append_left (by omega),<- List.getD_eq_getElem?_getD]
  ·rw [if_pos h1,if_neg (λq=>h2 q.2),List.getD_eq_getElem?_getD,List.getElem?_append_right (by omega),hl,List.getElem?_drop,<- List.getD_eq_getElem?_getD];congr 1;omega
 ·rw [if_neg h1,if_neg (λq=>h1 q.1)]
def sub (g:Grid)(w h:Nat):Grid:=(g.take h).map (·.take w)
theorem Rect.sub {g:Grid}{w h w' h':Nat} (R:Rect g w h) (hw:w'<=w) (hh:h'<=h):Rect (sub g w' h') w' h':=by
 refine ⟨by rw [TW.sub,List.length_map,List.length_take,R.1];omega,λr hr=>?_⟩;obtain ⟨l,hl,rfl⟩:=List.mem_map.mp hr;rw [List.length_take,R.2 l (List.mem_of_mem_take hl)];omega
theorem vo {g:Grid}{w' h' y:Nat} (hl:h'<=g.length) (hy:y<h'):(sub g w' h').getD y []=(g.getD y []).take w':=by
 have:y<g.length:=by omega
 simp [sub,List.getD_eq_getElem?_getD,hy,this]
theorem mO {g:Grid}{w' h' y x:Nat} (hl:h'<=g.length) (hy:y<h') (hx:x<w'):cell (sub g w' h') y x=cell g y x:=by
 unfold cell;rw [vo hl hy,List.getD_eq_getElem?_getD,List.getElem?_take,if_pos hx,<- List.getD_eq_getElem?_getD]
theorem aF (x:List Int):(Sp21.differences x).length=x.length/2:=by simp [Sp21.differences]
theorem cs (x:List Int):(halve x).length=x.length:=by
 unfold halve;split
 ·rfl
 ·rename_i h;simp [aF];omega
def halveCorner (c:Grid):Grid:=turn ((turn (c.map halve)).map halve)
def stepG (g:Grid)(c:Nat×Nat):Grid:=onColumns halve c.1 c.2 (onRows halve c.1 c.2 g)
theorem Rect.halveCorner {c:Grid}{w h:Nat} (R:Rect c w h) (hw:0<w) (hh:0<h):Rect (halveCorner c) w h :=
 (((R.map halve (w':=w) λl hl=>by rw [cs,hl]).turn hh).map halve (w':=h) λl hl=>by rw [cs,hl]).turn hw
theorem dM (n:Nat):∀l:List Int,l.length=n->(halve l).length=n:=λl h=>by rw [cs,h]
theorem Rect.stepG {g:Grid}{w h cw ch:Nat} (R:Rect g w h) (hw:cw<=w) (hh:ch<=h) (h0:0<cw) (h1:0<ch):Rect (stepG g (cw,ch)) w h:=by
 have R1:=R.onRows halve ch hw (dM cw);exact ((R1.turn (by omega)).onRows halve cw hh (dM ch)).turn (by omega)
theorem i7 {g:Grid}{w h cw ch y x:Nat} (R:Rect g w h) (hw:cw<=w) (hh:ch<=h) (h0:0<cw) (h1:0<ch) (hy:y<h) (hx:x<w) :
  cell (stepG g (cw,ch)) y x=if y<ch/\x<cw then cell (halveCorner (sub g cw ch)) y x else cell g y x:=by
 have R1:=R.onRows halve ch hw (dM cw);have RT:=R1.turn (by omega);have R2:=RT.onRows halve cw hh (dM ch);have C:=R.sub hw hh;have C1:=C.map halve (dM cw);have CT:=C1.turn h1;have C2:=CT.map halve (dM ch);show cell (turn (onRows halve ch cw (turn (onRows halve cw ch g)))) y x=_;rw [cell_turn R2 (by omega) hy hx,gx RT halve hh (dM ch) hx];by_cases q:y<ch/\x<cw
 ·rw [if_pos ⟨q.2,q.1⟩,if_pos q];show _=cell (turn ((turn ((sub g cw ch).map halve)).map halve)) y x;rw [cell_turn C2 h0 q.1 q.2];have e:((turn (onRows halve cw ch g)).getD x []).take ch=(turn ((sub g cw ch).map halve)).getD x []:=by
   have l1:((turn (onRows halve cw ch g)).getD x []).length=h:=RT.row hx;have l2:((turn ((sub g cw ch).map halve)).getD x []).length=ch:=CT.row q.2;apply List.ext_getElem
   ·rw [List.length_take,l1,l2];omega
   ·intro j j1 j2;have hj:j<ch:=by omega
    have a1:(((turn (onRows halve cw ch g)).getD x []).take ch)[j]=cell (turn (onRows halve cw ch g)) x j:=by
     rw [List.getElem_take];exact ax (by omega)
    have a2:((turn ((sub g cw ch).map halve)).getD x [])[j]=cell (turn ((sub g cw ch).map halve)) x j:=by
     exact ax (by omega)
    rw [a1,a2,cell_turn R1 (by omega) hx (by omega),cell_turn C1 h1 q.2 hj,gx R halve hw (dM cw) (by omega),if_pos ⟨hj,q.2⟩];show _=(((sub g cw ch).map halve).getD j []).getD x 0;rw [getD_map_row (by rw [C.1];exact hj),vo (by rw [R.1];exact hh) hj]
  rw [e];show _=(((turn ((sub g cw ch).map halve)).map halve).getD x []).getD y 0;rw [getD_map_row (by rw [CT.1];exact q.2)]
 ·rw [if_neg (λz=>q ⟨z.2,z.1⟩),if_neg q,cell_turn R1 (by omega) hx hy,gx R halve hw (dM cw) hy,if_neg q]
theorem bO {g:Grid}{w h:Nat}{p:Part} (R:Rect g w h) (hx:p.x+p.w<=w) (hy:p.y+p.h<=h) :
  numbersOf g p=(List.range p.h).flatMap λj=>(List.range p.w).map λi=>cell g (p.y+j) (p.x+i):=by
 unfold numbersOf;have e:(g.drop p.y).take p.h=(List.range p.h).map λj=>g.getD (p.y+j) []:=by
  apply List.ext_getElem
  ·rw [List.length_take,List.length_drop,R.1,List.length_map,List.length_range];omega
  ·intro j j1 j2;rw [List.length_map,List.length_range] at j2;have:p.y+j<g.length:=by rw [R.1];omega
   simp [List.getD_eq_getElem?_getD,this]
 rw [e,List.flatMap_map];refine congrArg List.flatten (List.map_congr_left λj hj=>?_);have hj:j<p.h:=by simpa using hj
 have hr:=R.row (y:=p.y+j) (by omega);apply List.ext_getElem
 ·rw [List.length_take,List.length_drop,hr,List.length_map,List.length_range];omega
 ·intro i i1 i2;rw [List.length_map,List.length_range] at i2;rw [List.getElem_take,List.getElem_drop,List.getElem_map,List.getElem_range];exact ax (by omega)
theorem kx {g g':Grid}{w h w' h':Nat}{p:Part} (R:Rect g w h) (R':Rect g' w' h') (hx:p.x+p.w<=w) (hy:p.y+p.h<=h) (hx':p.x+p.w<=w') (hy':p.y+p.h<=h')
  (hc:∀j i,j<p.h->i<p.w->cell g (p.y+j) (p.x+i)=cell g' (p.y+j) (p.x+i)):numbersOf g p=numbersOf g' p:=by
 rw [bO R hx hy,bO R' hx' hy'];refine congrArg List.flatten (List.map_congr_left λj hj=>List.map_congr_left λi hi=>?_);exact hc j i (by simpa using hj) (by simpa using hi)
theorem up_pos {n:Nat}(h:0<n):0<up n:=by unfold up;omega
theorem up_le {n:Nat}(h:0<n):up n<=n:=by unfold up;omega
theorem i8:∀(k cw ch:Nat) {g:Grid}{w h:Nat},Rect g w h->cw<=w->ch<=h->0<cw->0<ch ->
  Rect ((corners k cw ch).foldl stepG g) w h/\∀y x,y<h->x<w->¬(y<ch/\x<cw)->cell ((corners k cw ch).foldl stepG g) y x=cell g y x
 | 0,_,_,g,w,h,R,_,_,_,_=>⟨R,λ_ _ _ _ _=>rfl⟩
 | k+1,cw,ch,g,w,h,R,hw,hh,h0,h1=>by
  have R1:=R.stepG hw hh h0 h1;have u0:=up_le h0;have u1:=up_le h1;obtain ⟨a,b⟩:=i8 k (up cw) (up ch) R1 (by omega) (by omega) (up_pos h0) (up_pos h1);refine ⟨a,λy x hy hx q=>?_⟩;show cell ((corners k (up cw) (up ch)).foldl stepG (stepG g (cw,ch))) y x=_;rw [b y x hy hx (λz=>q ⟨by omega,by omega⟩),i7 R hw hh h0 h1 hy hx,if_neg q]
def threeBands (hd:Grid)(a b:Nat):List (List Int):=[((hd.take b).map (·.drop a)).flatten,((hd.drop b).map (·.take a)).flatten,((hd.drop b).map (·.drop a)).flatten]
def tileBands:Nat->Grid->Nat->Nat->List (List Int)
 | 0,c,_,_=>[c.flatten]
 | k+1,c,w,h=>tileBands k (sub (halveCorner c) (up w) (up h)) (up w) (up h)++threeBands (halveCorner c) (up w) (up h)
def threeParts (w h:Nat):List Part:=[⟨up w,0,w-up w,up h⟩,⟨0,up h,up w,h-up h⟩,⟨up w,up h,w-up w,h-up h⟩]
theorem fL (k w h:Nat):bands (k+1) w h=bands k (up w) (up h)++threeParts w h:=by
 unfold bands;simp only [last,corners,List.reverse_cons,List.flatMap_append,List.flatMap_singleton,List.cons_append];rfl
theorem mP {hd:Grid}{w h:Nat} (R:Rect hd w h) (hw:0<w) (hh:0<h):(threeParts w h).map (numbersOf hd)=threeBands hd (up w) (up h):=by
 have u0:=up_le hw;have u1:=up_le hh;unfold threeParts threeBands numbersOf;simp only [List.map_cons,List.map_nil,List.drop_zero];have tk:(hd.drop (up h)).take (h-up h)=hd.drop (up h):=List.take_of_length_le (by rw [List.length_drop,R.1];omega);rw [tk];refine congr (congrArg List.cons ?_) (congr (congrArg List.cons rfl) (congr (congrArg List.cons ?_) rfl))
 ·refine congrArg List.flatten (List.map_congr_left λr hr=>List.take_of_length_le ?_);rw [List.length_drop,R.2 r (List.mem_of_mem_take hr)];omega
 ·refine congrArg List.flatten (List.map_congr_left λr hr=>List.take_of_length_le ?_);rw [List.length_drop,R.2 r (List.mem_of_mem_drop hr)];omega
theorem ma:∀(k cw ch:Nat) {g:Grid}{w h:Nat},Rect g w h->cw<=w->ch<=h->0<cw->0<ch ->
  (bands k cw ch).map (numbersOf ((corners k cw ch).foldl stepG g))=tileBands k (sub g cw ch) cw ch
 | 0,cw,ch,g,w,h,R,hw,hh,h0,h1=>by
  simp [bands,last,corners,tileBands,numbersOf,sub,List.flatMap]
 | k+1,cw,ch,g,w,h,R,hw,hh,h0,h1=>by
  have R1:=R.stepG hw hh h0 h1;have u0:=up_le h0;have u1:=up_le h1;have C:=(R.sub hw hh).halveCorner h0 h1;obtain ⟨RF,keep⟩:=i8 k (up cw) (up ch) R1 (by omega) (by omega) (up_pos h0) (up_pos h1);have ih:=ma k (up cw) (up ch) R1 (by omega) (by omega) (up_pos h0) (up_pos h1);have es:sub (stepG g (cw,ch)) (up cw) (up ch)=sub (halveCorner (sub g cw ch)) (up cw) (up ch):=by
   refine Rect.ext (R1.sub (by omega) (by omega)) (C.sub u0 u1) λy x hy hx=>?_;rw [mO (by rw [R1.1];omega) hy hx,mO (by rw [C.1];omega) hy hx,i7 R hw hh h0 h1 (by omega) (by omega),if_pos ⟨by omega,by omega⟩]
  have et:(threeParts cw ch).map (numbersOf ((corners k (up cw) (up ch)).foldl stepG (stepG g (cw,ch))))=(threeParts cw ch).map (numbersOf (halveCorner (sub g cw ch))):=by
   refine List.map_congr_left λp hp=>?_;have hp':p.x+p.w<=cw/\p.y+p.h<=ch/\(up cw<=p.x\/up ch<=p.y):=by
    simp [threeParts] at hp;rcases hp with rfl | rfl | rfl <;> dsimp only <;> omega
   obtain ⟨p1,p2,p3⟩:=hp';refine kx RF C (by omega) (by omega) p1 p2 λj i hj hi=>?_;rw [keep _ _ (by omega) (by omega) (by omega),i7 R hw hh h0 h1 (by omega) (by omega),if_pos ⟨by omega,by omega⟩]
  rw [fL,List.map_append,tileBands];show (bands k (up cw) (up ch)).map (numbersOf ((corners k (up cw) (up ch)).foldl stepG (stepG g (cw,ch))))++_=_;rw [ih,es];congr 1;show (threeParts cw ch).map (numbersOf ((corners k (up cw) (up ch)).foldl stepG (stepG g (cw,ch))))=_;rw [et,mP C h0 h1]
theorem vp {g:Grid}{w h:Nat} (R:Rect g w h):sub g w h=g:=by
 unfold sub;rw [List.take_of_length_le (by rw [R.1];exact Nat.le_refl _)]
 conv=>rhs;rw [<- List.map_id g]
 exact List.map_congr_left λr hr=>by rw [List.take_of_length_le (by rw [R.2 r hr];exact Nat.le_refl _)];rfl
theorem mQ {g:Grid}{w h:Nat} (k:Nat) (R:Rect g w h) (hw:0<w) (hh:0<h):(bands k w h).map (numbersOf (forward k w h g))=tileBands k g w h:=by
 have:=ma k w h R (Nat.le_refl _) (Nat.le_refl _) hw hh;rw [vp R] at this;exact this
end TW
namespace TW
open Sp21 (Grid apart mix unmix together bands numbersOf forward bandBits bytesOf tileCode two)
def cutRows (p:List Int)(w h:Nat):Grid:=(List.range h).map λi=>(p.drop (i*w)).take w
theorem qN {p:List Int}{w h i:Nat} (hi:i<h):(cutRows p w h).getD i []=(p.drop (i*w)).take w:=by
 simp [cutRows,List.getD_eq_getElem?_getD,hi]
theorem qO {w h y x:Nat}(hy:y<h)(hx:x<w):y*w+x<w*h:=by
 have:(y+1)*w<=h*w:=Nat.mul_le_mul_right w hy;rw [Nat.add_mul,Nat.one_mul,Nat.mul_comm h w] at this;omega
theorem Rect.cutRows {p:List Int}{w h:Nat} (hp:p.length=w*h):Rect (cutRows p w h) w h:=by
 refine ⟨by simp [TW.cutRows],λr hr=>?_⟩;obtain ⟨i,hi,rfl⟩:=List.mem_map.mp hr;have hi:i<h:=by simpa using hi
 rw [List.length_take,List.length_drop,hp];have:(i+1)*w<=h*w:=Nat.mul_le_mul_right w hi;rw [Nat.add_mul,Nat.one_mul,Nat.mul_comm h w] at this;omega
theorem aW {p:List Int}{w h y x:Nat} (hy:y<h) (hx:x<w):cell (cutRows p w h) y x=p.getD (y*w+x) 0:=by
 unfold cell;rw [qN hy,List.getD_eq_getElem?_getD,List.getElem?_take,if_pos hx,List.getElem?_drop,<- List.getD_eq_getElem?_getD]
def pq (l:List Int)(kinds n k:Nat):List Int:=pick l k kinds n
theorem si (kinds w h:Nat)(l:List Int):apart kinds w h l=((List.range kinds).map λk=>pq l kinds (w*h) k).map λp=>cutRows p w h:=by
 unfold apart;rw [List.map_map];refine List.map_congr_left λk _=>?_;have RL:Rect ((List.range h).map λ(y:Nat)=>(List.range w).map λ(x:Nat)=>l.getD ((y*w+x)*kinds+k) 0) w h:=by
  refine ⟨by simp,λr hr=>?_⟩;obtain ⟨i,hi,rfl⟩:=List.mem_map.mp hr;simp
 refine Rect.ext RL (Rect.cutRows (by simp [pq,bi])) λy x hy hx=>?_;show _=cell (cutRows (pq l kinds (w*h) k) w h) y x;rw [aW hy hx,pq,dy (qO hy hx)];simp [cell,List.getD_eq_getElem?_getD,hy,hx];congr 2;omega
def zip3 (f:Int->Int->Int->Int)(r g b:List Int):List Int:=(r.zip (g.zip b)).map λ(y:Int×Int×Int)=>f y.1 y.2.1 y.2.2
theorem zip3_length {f:Int->Int->Int->Int}{r g b:List Int}{n:Nat} (hr:r.length=n) (hg:g.length=n) (hb:b.length=n):(zip3 f r g b).length=n:=by
 simp [zip3,hr,hg,hb]
theorem aX {f:Int->Int->Int->Int}{r g b:List Int}{n i:Nat} (hr:r.length=n) (hg:g.length=n) (hb:b.length=n) (hi:i<n):(zip3 f r g b).getD i 0=f (r.getD i 0) (g.getD i 0) (b.getD i 0):=by
 have h1:i<r.length:=by omega
 have h2:i<g.length:=by omega
 have h3:i<b.length:=by omega
 rw [<- ax (by rw [zip3_length hr hg hb];exact hi),<- ax h1,<- ax h2,<- ax h3];simp [zip3]
def zip3G (f:Int->Int->Int->Int)(r g b:Grid):Grid:=(r.zip (g.zip b)).map λ(x:List Int×List Int×List Int)=>(x.1.zip (x.2.1.zip x.2.2)).map λ(y:Int×Int×Int)=>f y.1 y.2.1 y.2.2
theorem pr (f:Int->Int->Int->Int){r g b:Grid}{n y:Nat} (hr:r.length=n) (hg:g.length=n) (hb:b.length=n) (hy:y<n):(zip3G f r g b).getD y []=zip3 f (r.getD y []) (g.getD y []) (b.getD y []):=by
 have h1:y<r.length:=by omega
 have h2:y<g.length:=by omega
 have h3:y<b.length:=by omega
 have e1:r.getD y []=r[y]:=by simp [List.getD_eq_getElem?_getD,h1]
 have e2:g.getD y []=g[y]:=by simp [List.getD_eq_getElem?_getD,h2]
 have e3:b.getD y []=b[y]:=by simp [List.getD_eq_getElem?_getD,h3]
 have hl:y<(zip3G f r g b).length:=by simp only [zip3G,List.length_map,List.length_zip];omega
 have e4:(zip3G f r g b).getD y []=(zip3G f r g b)[y]:=by simp [List.getD_eq_getElem?_getD,hl]
 rw [e1,e2,e3,e4];simp [zip3G,zip3]
theorem Rect.zip3G (f:Int->Int->Int->Int){r g b:Grid}{w h:Nat} (R:Rect r w h) (G:Rect g w h) (B:Rect b w h):Rect (zip3G f r g b) w h:=by
 have hl:(TW.zip3G f r g b).length=h:=by simp [TW.zip3G,R.1,G.1,B.1]
 refine ⟨hl,λx hx=>?_⟩;obtain ⟨y,hy,rfl⟩:=List.getElem_of_mem hx;have hy':y<h:=by omega
 have e:(TW.zip3G f r g b)[y]=(TW.zip3G f r g b).getD y []:=by simp [List.getD_eq_getElem?_getD,hy]
 rw [e,pr f R.1 G.1 B.1 hy',zip3_length (R.row hy') (G.row hy') (B.row hy')]
theorem tQ (f:Int->Int->Int->Int){r g b:Grid}{w h y x:Nat} (R:Rect r w h) (G:Rect g w h) (B:Rect b w h) (hy:y<h) (hx:x<w):cell (zip3G f r g b) y x=f (cell r y x) (cell g y x) (cell b y x):=by
 show ((zip3G f r g b).getD y []).getD x 0=_;rw [pr f R.1 G.1 B.1 hy,aX (R.row hy) (G.row hy) (B.row hy) hx];rfl
theorem dz (f:Int->Int->Int->Int){r g b:List Int}{w h:Nat} (hr:r.length=w*h) (hg:g.length=w*h) (hb:b.length=w*h):zip3G f (cutRows r w h) (cutRows g w h) (cutRows b w h)=cutRows (zip3 f r g b) w h:=by
 have R:=Rect.cutRows hr;have G:=Rect.cutRows hg;have B:=Rect.cutRows hb;refine Rect.ext (Rect.zip3G f R G B) (Rect.cutRows (zip3_length hr hg hb)) λy x hy hx=>?_;rw [tQ f R G B hy hx,aW hy hx,aW hy hx,aW hy hx,aW hy hx,aX hr hg hb (qO hy hx)]
def mixed (l:List (List Int)):List (List Int):=match l with
 | r::g::b::rest=>zip3 (λr g b=>(r+2*g+b)/4) r g b::zip3 (λ_ g b=>b-g) r g b::zip3 (λr g _=>r-g) r g b::rest
 | l=>l
def unmixed (l:List (List Int)):List (List Int):=match l with
 | a::u::v::rest=>zip3 (λy u v=>v+(y-(u+v)/4)) a u v::zip3 (λy u v=>y-(u+v)/4) a u v::zip3 (λy u v=>u+(y-(u+v)/4)) a u v::rest
 | l=>l
theorem vq {l:List (List Int)}{w h:Nat} (hl:∀p∈l,p.length=w*h):mix (l.map λp=>cutRows p w h)=(mixed l).map λp=>cutRows p w h:=by
 match l,hl with
 | [],_=>rfl
 | [_],_=>rfl
 | [_,_],_=>rfl
 | r::g::b::rest,hl =>
  have hr:=hl r (by simp);have hg:=hl g (by simp);have hb:=hl b (by simp);show zip3G (λr g b=>(r+2*g+b)/4) (cutRows r w h) (cutRows g w h) (cutRows b w h)::zip3G (λ_ g b=>b-g) (cutRows r w h) (cutRows g w h) (cutRows b w h)::zip3G (λr g _=>r-g) (cutRows r w h) (cutRows g w h) (cutRows b w h)::rest.map _=_;rw [dz _ hr hg hb,dz _ hr hg hb,dz _ hr hg hb];rfl
theorem pz {l:List (List Int)}{w h:Nat} (hl:∀p∈l,p.length=w*h):unmix (l.map λp=>cutRows p w h)=(unmixed l).map λp=>cutRows p w h:=by
 match l,hl with
 | [],_=>rfl
 | [_],_=>rfl
 | [_,_],_=>rfl
 | r::g::b::rest,hl =>
  have hr:=hl r (by simp);have hg:=hl g (by simp);have hb:=hl b (by simp);show zip3G (λy u v=>v+(y-(u+v)/4)) (cutRows r w h) (cutRows g w h) (cutRows b w h)::zip3G (λy u v=>y-(u+v)/4) (cutRows r w h) (cutRows g w h) (cutRows b w h)::zip3G (λy u v=>u+(y-(u+v)/4)) (cutRows r w h) (cutRows g w h) (cutRows b w h)::rest.map _=_;rw [dz _ hr hg hb,dz _ hr hg hb,dz _ hr hg hb];rfl
theorem mixed_length {l:List (List Int)}{n:Nat} (hl:∀p∈l,p.length=n):∀p∈mixed l,p.length=n:=by
 match l,hl with
 | [],hl=>exact hl
 | [_],hl=>exact hl
 | [_,_],hl=>exact hl
 | r::g::b::rest,hl =>
  have hr:=hl r (by simp);have hg:=hl g (by simp);have hb:=hl b (by simp);intro p hp;simp [mixed] at hp;rcases hp with rfl | rfl | rfl | hp
  ·exact zip3_length hr hg hb
  ·exact zip3_length hr hg hb
  ·exact zip3_length hr hg hb
  ·exact hl p (by simp [hp])
def planes (kinds n:Nat)(l:List Int):List (List Int):=(List.range kinds).map λk=>pq l kinds n k
theorem planes_length {kinds n:Nat}{l:List Int}:∀p∈planes kinds n l,p.length=n:=by
 intro p hp;obtain ⟨k,_,rfl⟩:=List.mem_map.mp hp;exact bi _ _ _ _
def tileBits (kinds w h levels:Nat)(l:List Int):List Nat:=(mixed (planes kinds (w*h) l)).flatMap λp=>(tileBands levels (cutRows p w h) w h).flatMap (bandBits 16 1)
theorem gH {kinds w h levels:Nat}{l:List Int} (hw:0<w) (hh:0<h):tileCode kinds w h levels l =
  if (1::bytesOf (tileBits kinds w h levels l)).length<(0::l.flatMap λ(z:Int)=>two z.toNat).length then 1::bytesOf (tileBits kinds w h levels l) else 0::l.flatMap λ(z:Int)=>two z.toNat:=by
 have e:((mix (apart kinds w h l)).flatMap λ(g:Grid)=>(bands levels w h).flatMap λ(p:Sp21.Part)=>bandBits 16 1 (numbersOf (forward levels w h g) p))=tileBits kinds w h levels l:=by
  rw [si];show (mix ((planes kinds (w*h) l).map _)).flatMap _=_;rw [vq planes_length,List.flatMap_map];unfold tileBits;refine congrArg List.flatten (List.map_congr_left λp hp=>?_);have R:=Rect.cutRows (w:=w) (h:=h) (mixed_length planes_length p hp);rw [<- mQ levels R hw hh,List.flatMap_map]
 unfold tileCode;dsimp only;rw [e]
end TW
namespace TW
open Sp21 (Grid halve turn up)
def Lim (M:Int)(l:List Int):Prop:=∀z∈l,-M<=z/\z<=M
theorem Lim.getD {M:Int}{l:List Int} (h:Lim M l) (hM:0<=M) (i:Nat):-M<=l.getD i 0/\l.getD i 0<=M:=by
 by_cases hi:i<l.length
 ·rw [<- ax hi];exact h _ (List.getElem_mem hi)
 ·rw [List.getD_eq_getElem?_getD,List.getElem?_eq_none (by omega),Option.getD_none];omega
theorem Lim.look {M:Int}{l:List Int} (h:Lim M l) (hM:0<=M) (i:Nat):-M<=Sp21.look l i/\Sp21.look l i<=M:=by
 unfold Sp21.look;split
 ·exact h.getD hM i
 ·exact h.getD hM _
theorem Lim.mono {M N:Int}{l:List Int} (h:Lim M l) (hMN:M<=N):Lim N l:=λz hz=>by have:=h z hz;omega
def grow (M:Int):Int:=(12*M+6)/8
theorem grow_nonneg {M:Int}(h:0<=M):0<=grow M:=by unfold grow;omega
theorem diff_getD {x:List Int}{i:Nat} (h:i<x.length/2):(Sp21.differences x).getD i 0=x.getD (2*i+1) 0-(x.getD (2*i) 0+Sp21.look x (2*i+2))/2:=by
 rw [<- ax (by rw [aF];exact h)];simp [Sp21.differences]
theorem yU {x:List Int}{i:Nat} (h:i<x.length):Sp21.look x i=x.getD i 0:=by unfold Sp21.look;rw [if_pos h]
theorem pA {M:Int}{x:List Int} (h:Lim M x) (hM:0<=M):Lim (2*M+1) (halve x):=by
 have dl:∀i,i<x.length/2->-(2*M)<=(Sp21.differences x).getD i 0/\(Sp21.differences x).getD i 0<=2*M:=λi hi=>by
  rw [diff_getD hi];have a:=h.getD hM (2*i+1);have b:=h.getD hM (2*i);have c:=h.look hM (2*i+2);omega
 intro z hz;unfold halve at hz;split at hz
 ·have:=h z hz;omega
 ·rename_i hn;rcases List.mem_append.mp hz with q | q
  ·obtain ⟨i,hi,rfl⟩:=List.mem_map.mp q;have hi:i<(x.length+1)/2:=by simpa using hi
   unfold Sp21.near;have a:=h.getD hM (2*i);have b:=dl (i-1) (by omega);have c:=dl (min i ((Sp21.differences x).length-1)) (by rw [aF];omega);omega
  ·obtain ⟨i,hi,rfl⟩:=List.getElem_of_mem q;rw [aF] at hi;have:=dl i hi;rw [ax (by rw [aF];exact hi)];omega
theorem pB {M:Int}{x:List Int} (h:Lim M x) (hM:0<=M) {i:Nat} (hi:i<up x.length):-grow M<=(halve x).getD i 0/\(halve x).getD i 0<=grow M:=by
 unfold up at hi;by_cases hn:x.length<2
 ·have:halve x=x:=by unfold halve;rw [if_pos hn]
  rw [this];have:=h.getD hM i;unfold grow;omega
 ·have e:(halve x).getD i 0=x.getD (2*i) 0+(Sp21.near (Sp21.differences x) i+2)/4:=by
   unfold halve;rw [if_neg hn];dsimp only;rw [List.getD_eq_getElem?_getD,List.getElem?_append_left (by simpa using hi)];simp [hi]
  rw [e];unfold Sp21.near grow;have ld:=aF x;have x0:=h.getD hM (2*i);have side:∀j,(j=i\/j+1=i)->j<x.length/2->2*(Sp21.differences x).getD j 0<=3*M-x.getD (2*i) 0+1/\-(3*M)-x.getD (2*i) 0<=2*(Sp21.differences x).getD j 0:=by
   intro j hj hl;rw [diff_getD hl];have a:=h.getD hM (2*j+1);rcases hj with rfl | rfl
   ·have c:=h.look hM (2*j+2);omega
   ·have b:=h.getD hM (2*j);have e2:Sp21.look x (2*j+2)=x.getD (2*(j+1)) 0:=yU (by omega);rw [e2];omega
  have s1:2*(Sp21.differences x).getD (i-1) 0<=3*M-x.getD (2*i) 0+1/\-(3*M)-x.getD (2*i) 0<=2*(Sp21.differences x).getD (i-1) 0:=side (i-1) (by omega) (by omega);have s2:2*(Sp21.differences x).getD (min i ((Sp21.differences x).length-1)) 0<=3*M-x.getD (2*i) 0+1/\-(3*M)-x.getD (2*i) 0<=2*(Sp21.differences x).getD (min i ((Sp21.differences x).length-1)) 0 :=
   side _ (by omega) (by omega)
  omega
def LimG (M:Int)(g:Grid):Prop:=∀r∈g,Lim M r
theorem LimG.cell {M:Int}{g:Grid} (h:LimG M g) (hM:0<=M) (y x:Nat):-M<=cell g y x/\cell g y x<=M:=by
 unfold TW.cell;by_cases hy:y<g.length
 ·have e:g.getD y []=g[y]:=by simp [List.getD_eq_getElem?_getD,hy]
  rw [e];exact (h _ (List.getElem_mem hy)).getD hM x
 ·rw [List.getD_eq_getElem?_getD (l:=g),List.getElem?_eq_none (by omega),Option.getD_none];simp;omega
theorem LimG.of {M:Int}{g:Grid}{w h:Nat} (R:Rect g w h) (hc:∀y x,y<h->x<w->-M<=TW.cell g y x/\TW.cell g y x<=M):LimG M g:=by
 intro r hr z hz;obtain ⟨y,hy,rfl⟩:=List.getElem_of_mem hr;obtain ⟨x,hx,rfl⟩:=List.getElem_of_mem hz;rw [<- cell_eq hy hx];exact hc y x (by rw [<- R.1];exact hy) (by rw [<- R.2 _ (List.getElem_mem hy)];exact hx)
theorem LimG.map {M N:Int}{g:Grid} (h:LimG M g) {f:List Int->List Int} (hf:∀l,Lim M l->Lim N (f l)):LimG N (g.map f):=by
 intro r hr;obtain ⟨l,hl,rfl⟩:=List.mem_map.mp hr;exact hf l (h l hl)
theorem LimG.turn {M:Int}{g:Grid}{w h:Nat} (L:LimG M g) (hM:0<=M) (R:Rect g w h) (hh:0<h):LimG M (turn g) :=
 LimG.of (R.turn hh) λy x hy hx=>by rw [cell_turn R hh hy hx];exact L.cell hM x y
theorem LimG.halveCorner {M:Int}{c:Grid}{w h:Nat} (L:LimG M c) (hM:0<=M) (R:Rect c w h) (hw:0<w) (hh:0<h):LimG (4*M+3) (halveCorner c):=by
 have R1:=R.map halve (dM w);have L1:LimG (2*M+1) (c.map halve):=L.map λl hl=>pA hl hM;have L2:=L1.turn (by omega) R1 hh;have L3:LimG (2*(2*M+1)+1) ((Sp21.turn (c.map halve)).map halve):=L2.map λl hl=>pA hl (by omega);have L4:=L3.turn (by omega) ((R1.turn hh).map halve (dM h)) hw;have e:2*(2*M+1)+1=4*M+3:=by omega
 rw [e] at L4;exact L4
theorem LimG.corner {M:Int}{c:Grid}{w h:Nat} (L:LimG M c) (hM:0<=M) (R:Rect c w h) (hw:0<w) (hh:0<h):LimG (grow (grow M)) (sub (TW.halveCorner c) (up w) (up h)):=by
 have u0:=up_le hw;have u1:=up_le hh;have R1:=R.map halve (dM w);have RT:=R1.turn hh;have R2:=RT.map halve (dM h);have RC:=R.halveCorner hw hh;refine LimG.of (RC.sub u0 u1) λy x hy hx=>?_;rw [mO (by rw [RC.1];exact u1) hy hx];show -_<=TW.cell (Sp21.turn ((Sp21.turn (c.map halve)).map halve)) y x/\TW.cell (Sp21.turn ((Sp21.turn (c.map halve)).map halve)) y x<=_;rw [cell_turn R2 hw (by omega) (by omega)];show -_<=(((Sp21.turn (c.map halve)).map halve).getD x []).getD y 0/\(((Sp21.turn (c.map halve)).map halve).getD x []).getD y 0<=_;rw [getD_map_row (by rw [RT.1];omega)];have lc:Lim (grow M) ((Sp21.turn (c.map halve)).getD x []):=by
  have hl:((Sp21.turn (c.map halve)).getD x []).length=h:=RT.row (by omega);intro z hz;obtain ⟨j,hj,rfl⟩:=List.getElem_of_mem hz;have hjh:j<h:=by omega
  have ec:((Sp21.turn (c.map halve)).getD x [])[j]=TW.cell (Sp21.turn (c.map halve)) x j:=ax hj;rw [ec,cell_turn R1 hh (by omega) hjh];show -_<=((c.map halve).getD j []).getD x 0/\((c.map halve).getD j []).getD x 0<=_;rw [getD_map_row (by rw [R.1];exact hjh)];have er:c.getD j []=c[j]'(by rw [R.1];exact hjh):=by simp [List.getD_eq_getElem?_getD,R.1,hjh]
  exact pB (by rw [er];exact L _ (List.getElem_mem _)) hM (by rw [R.row hjh];exact hx)
 exact pB lc (grow_nonneg hM) (by rw [RT.row (by omega)];exact hy)
def yV:Nat->Int->Int
 | 0,M=>M
 | k+1,M=>max (4*M+3) (yV k (grow (grow M)))
theorem LimG.flatten {M:Int}{g:Grid} (L:LimG M g):Lim M g.flatten:=by
 intro z hz;obtain ⟨r,hr,hz⟩:=List.mem_flatten.mp hz;exact L r hr z hz
theorem tileBands_lim:∀(k:Nat) {c:Grid}{w h:Nat}{M:Int},LimG M c->0<=M->Rect c w h->0<w->0<h->∀b∈tileBands k c w h,Lim (yV k M) b
 | 0,c,w,h,M,L,hM,R,hw,hh,b,hb=>by
  have:b=c.flatten:=by simpa [tileBands] using hb
  subst this;exact L.flatten
 | k+1,c,w,h,M,L,hM,R,hw,hh,b,hb=>by
  have RC:=R.halveCorner hw hh;have LC:=L.halveCorner hM R hw hh;rcases List.mem_append.mp (show b∈tileBands k (sub (TW.halveCorner c) (up w) (up h)) (up w) (up h)++threeBands (TW.halveCorner c) (up w) (up h) from hb) with q | q
  ·exact (tileBands_lim k (L.corner hM R hw hh) (grow_nonneg (grow_nonneg hM)) (RC.sub (up_le hw) (up_le hh)) (up_pos hw) (up_pos hh) b q).mono (by show _<=max _ _;omega)
  ·have:Lim (4*M+3) b:=by
    intro z hz;simp only [threeBands,List.mem_cons,List.not_mem_nil,or_false] at q;have key:z∈(TW.halveCorner c).flatten:=by
     rcases q with rfl | rfl | rfl
     ·obtain ⟨r,hr,hz⟩:=List.mem_flatten.mp hz;obtain ⟨l,hl,rfl⟩:=List.mem_map.mp hr;exact List.mem_flatten.mpr ⟨l,List.mem_of_mem_take hl,List.mem_of_mem_drop hz⟩
     ·obtain ⟨r,hr,hz⟩:=List.mem_flatten.mp hz;obtain ⟨l,hl,rfl⟩:=List.mem_map.mp hr;exact List.mem_flatten.mpr ⟨l,List.mem_of_mem_drop hl,List.mem_of_mem_take hz⟩
     ·obtain ⟨r,hr,hz⟩:=List.mem_flatten.mp hz;obtain ⟨l,hl,rfl⟩:=List.mem_map.mp hr;exact List.mem_flatten.mpr ⟨l,List.mem_of_mem_drop hl,List.mem_of_mem_drop hz⟩
    exact LC.flatten z key
   exact this.mono (by show _<=max _ _;omega)
theorem bound_small:∀k,k<=5->yV k 65535<2 ^ 23:=by decide
end TW
namespace TW
open Sp21 (Grid halve turn up Part cut Head front joined codeOf tileCode four three bandBits bytesOf)
theorem md {α:Type}(F:Nat->Nat->α){a:Nat}(ha:0<a):∀d:Nat,(List.range (a*d)).map (λt=>F (t % a) (t/a))=(List.range d).flatMap λj=>(List.range a).map λi=>F i j
 | 0=>by simp
 | d+1=>by
  rw [Nat.mul_add,Nat.mul_one,List.range_add,List.map_append,md F ha d,List.range_succ,List.flatMap_append,List.flatMap_singleton];congr 1;rw [List.map_map];refine List.map_congr_left λi hi=>?_;have hi:i<a:=by simpa using hi
  show F ((a*d+i) % a) ((a*d+i)/a)=F i d;rw [Nat.mul_add_mod,Nat.mod_eq_of_lt hi,Nat.mul_add_div ha,Nat.div_eq_of_lt hi,Nat.add_zero]
structure HeadOk (f:Head):Prop where
 kinds:1<=f.kinds/\f.kinds<=4
 wide:1<=f.wide/\f.wide<=256
 high:1<=f.high/\f.high<=256
 e:4<=f.e/\f.e<=8
 levels:f.levels<=5
structure HeadW (f:Head):Prop where
 kinds:1<=f.kinds/\f.kinds<=4
 wide:1<=f.wide/\f.wide<=256
 high:1<=f.high/\f.high<=256
 e:f.e<=8
theorem HeadOk.w {f:Head}(h:HeadOk f):HeadW f:=⟨h.kinds,h.wide,h.high,h.e.2⟩
theorem aG {f:Head}(h:HeadW f):1<=2 ^ f.e/\2 ^ f.e<=256 :=
 ⟨Nat.pow_le_pow_right (n:=2) (i:=0) (by decide) (Nat.zero_le _),Nat.pow_le_pow_right (n:=2) (by decide) h.e⟩
theorem aZ {n s:Nat}(hs:0<s)(hn:0<n):0<(n+s-1)/s/\∀i,i<(n+s-1)/s->i*s<n:=by
 constructor
 ·exact Nat.div_pos (by omega) hs
 ·intro i hi;have h1:(i+1)*s<=n+s-1:=by
   have:=(Nat.le_div_iff_mul_le hs).mp hi;exact this
  rw [Nat.add_mul,Nat.one_mul] at h1;omega
theorem jP {n s:Nat}(hs:0<s):n<=(n+s-1)/s*s:=by
 have h1:=Nat.div_add_mod (n+s-1) s;have h2:=Nat.mod_lt (n+s-1) hs;rw [Nat.mul_comm] at h1;omega
theorem bZ {f:Head}(h:HeadW f):0<f.across:=(aZ (by have:=aG h;omega) h.wide.1).1
theorem sj {f:Head}(h:HeadW f):0<f.down:=(aZ (by have:=aG h;omega) h.high.1).1
def bE (f:Head)(i j:Nat):Part:=⟨i*2 ^ f.e,j*2 ^ f.e,min (2 ^ f.e) (f.wide-i*2 ^ f.e),min (2 ^ f.e) (f.high-j*2 ^ f.e)⟩
def places (f:Head):List Part:=(List.range f.down).flatMap λj=>(List.range f.across).map λi=>bE f i j
theorem kA {f:Head}(h:HeadW f):(List.range f.tiles).map f.part=places f :=
 md (bE f) (bZ h) f.down
theorem me {f:Head}(h:HeadW f){t:Nat}(ht:t<f.tiles):(places f)[t]?=some (f.part t):=by
 rw [<- kA h];simp [ht]
theorem w6 {f:Head}(h:HeadOk f):f.tiles<=256:=by
 have h16:2 ^ 4<=2 ^ f.e:=Nat.pow_le_pow_right (n:=2) (by decide) h.e.1;have ha:f.across<=16:=by
  unfold Sp21.Head.across;have:=aG h.w;have:=h.wide;refine Nat.le_trans (Nat.div_le_div_right (c:=2 ^ f.e) (show f.wide+2 ^ f.e-1<=256+2 ^ f.e-1 by omega)) ?_;have:(256+2 ^ f.e-1)/2 ^ f.e<17:=by
   rw [Nat.div_lt_iff_lt_mul (by omega)];omega
  omega
 have hd:f.down<=16:=by
  unfold Sp21.Head.down;have:=aG h.w;have:=h.high;refine Nat.le_trans (Nat.div_le_div_right (c:=2 ^ f.e) (show f.high+2 ^ f.e-1<=256+2 ^ f.e-1 by omega)) ?_;have:(256+2 ^ f.e-1)/2 ^ f.e<17:=by
   rw [Nat.div_lt_iff_lt_mul (by omega)];omega
  omega
 exact Nat.mul_le_mul ha hd
structure PartOk (f:Head)(p:Part):Prop where
 w:0<p.w/\p.w<=256
 h:0<p.h/\p.h<=256
 x:p.x+p.w<=f.wide
 y:p.y+p.h<=f.high
theorem tR {f:Head}(h:HeadW f){i j:Nat}(hi:i<f.across)(hj:j<f.down):PartOk f (bE f i j):=by
 have hs:=aG h;have h1:=(aZ (s:=2 ^ f.e) (by omega) h.wide.1).2 i hi;have h2:=(aZ (s:=2 ^ f.e) (by omega) h.high.1).2 j hj;unfold bE;exact ⟨by dsimp only;omega,by dsimp only;omega,by dsimp only;omega,by dsimp only;omega⟩
theorem vt {f:Head}(h:HeadW f):∀p∈places f,PartOk f p:=by
 intro p hp;obtain ⟨j,hj,hp⟩:=List.mem_flatMap.mp hp;obtain ⟨i,hi,rfl⟩:=List.mem_map.mp hp;exact tR h (by simpa using hi) (by simpa using hj)
theorem dN {f:Head}(h:HeadW f){t:Nat}(ht:t<f.tiles):PartOk f (f.part t) :=
 vt h _ (List.mem_of_getElem? (me h ht))
theorem ah {α β:Type}{g:α->List β}{n:Nat}:∀{l:List α},(∀a∈l,(g a).length=n)->(l.flatMap g).length=l.length*n
 | [],_=>by simp
 | a::r,h=>by
  rw [List.flatMap_cons,List.length_append,h a (by simp),ah λb hb=>h b (by simp [hb]),List.length_cons,Nat.add_mul,Nat.one_mul];omega
theorem pC {kinds wide high:Nat}{p:Part} (hx:p.x+p.w<=wide) (hy:p.y+p.h<=high) {y:Nat} (h:y<p.h):((p.y+y)*wide+p.x)*kinds+p.w*kinds<=kinds*wide*high:=by
 have h1:(p.y+y+1)*wide<=high*wide:=Nat.mul_le_mul_right _ (by omega);rw [Nat.add_mul,Nat.one_mul] at h1;have h2:((p.y+y)*wide+p.x+p.w)*kinds<=high*wide*kinds:=Nat.mul_le_mul_right _ (by omega);rw [Nat.add_mul] at h2;have h3:high*wide*kinds=kinds*wide*high:=by rw [Nat.mul_comm high wide,Nat.mul_comm (wide*high) kinds,Nat.mul_assoc]
 omega
theorem tT {f:Head}{p:Part}{l:List Int} (hp:PartOk f p) (hl:l.length=f.kinds*f.wide*f.high):(cut f.kinds f.wide l p).length=f.kinds*p.w*p.h:=by
 unfold cut;rw [ah (n:=p.w*f.kinds) λy hy=>?_]
 ·rw [List.length_range,Nat.mul_comm p.h,Nat.mul_comm p.w f.kinds]
 ·have hy:y<p.h:=by simpa using hy
  have:=pC (kinds:=f.kinds) hp.x hp.y hy;rw [List.length_take,List.length_drop,hl];omega
theorem flatten_rect {g:Grid}{w h:Nat} (R:Rect g w h):g.flatten.length=w*h:=by
 have:=ah (g:=λ(r:List Int)=>r) (n:=w) (l:=g) R.2;rw [R.1,Nat.mul_comm] at this;rw [<- this,List.flatMap_id']
theorem i9 {hd:Grid}{w h:Nat} (R:Rect hd w h) (hw:0<w) (hh:0<h):(threeBands hd (up w) (up h)).flatten.length+up w*up h=w*h:=by
 have u0:=up_le hw;have u1:=up_le hh;have a1:=flatten_rect (show Rect ((hd.take (up h)).map (·.drop (up w))) (w-up w) (up h) from ⟨by rw [List.length_map,List.length_take,R.1];omega,λr hr=>by
  obtain ⟨l,hl,rfl⟩:=List.mem_map.mp hr;rw [List.length_drop,R.2 l (List.mem_of_mem_take hl)]⟩)
 have a2:=flatten_rect (show Rect ((hd.drop (up h)).map (·.take (up w))) (up w) (h-up h) from ⟨by rw [List.length_map,List.length_drop,R.1],λr hr=>by
  obtain ⟨l,hl,rfl⟩:=List.mem_map.mp hr;rw [List.length_take,R.2 l (List.mem_of_mem_drop hl)];omega⟩)
 have a3:=flatten_rect (show Rect ((hd.drop (up h)).map (·.drop (up w))) (w-up w) (h-up h) from ⟨by rw [List.length_map,List.length_drop,R.1],λr hr=>by
  obtain ⟨l,hl,rfl⟩:=List.mem_map.mp hr;rw [List.length_drop,R.2 l (List.mem_of_mem_drop hl)]⟩)
 have e:(threeBands hd (up w) (up h)).flatten=((hd.take (up h)).map (·.drop (up w))).flatten++(((hd.drop (up h)).map (·.take (up w))).flatten++((hd.drop (up h)).map (·.drop (up w))).flatten):=by
  simp only [threeBands,List.flatten_cons,List.flatten_nil,List.append_nil]
 rw [e,List.length_append,List.length_append,a1,a2,a3];generalize hA:up w=A at *;generalize hB:up h=B at *;obtain ⟨c,hc⟩:∃c,w=A+c:=⟨w-A,by omega⟩
 obtain ⟨d,hd'⟩:∃d,h=B+d:=⟨h-B,by omega⟩
 rw [hc,hd',show A+c-A=c by omega,show B+d-B=d by omega,Nat.add_mul,Nat.mul_add,Nat.mul_add];omega
theorem tileBands_length:∀(k:Nat) {c:Grid}{w h:Nat},Rect c w h->0<w->0<h->(tileBands k c w h).flatten.length=w*h
 | 0,c,w,h,R,_,_=>by simp only [tileBands,List.flatten_cons,List.flatten_nil,List.append_nil];exact flatten_rect R
 | k+1,c,w,h,R,hw,hh=>by
  have RC:=R.halveCorner hw hh;have ih:=tileBands_length k (RC.sub (up_le hw) (up_le hh)) (up_pos hw) (up_pos hh);have t:=i9 RC hw hh;show (tileBands k (sub (TW.halveCorner c) (up w) (up h)) (up w) (up h)++threeBands (TW.halveCorner c) (up w) (up h)).flatten.length=_;rw [List.flatten_append,List.length_append,ih];omega
theorem cb {α β γ:Type}{g:α->List β}{m:α->List γ}{c:Nat}:∀{l:List α},(∀a∈l,(g a).length<=c*(m a).length)->(l.flatMap g).length<=c*(l.flatMap m).length
 | [],_=>by simp
 | a::r,h=>by
  have h1:=h a (by simp);have h2:=cb (l:=r) λb hb=>h b (by simp [hb]);rw [List.flatMap_cons,List.flatMap_cons,List.length_append,List.length_append,Nat.mul_add];omega
theorem kB {k w h:Nat}{c:Grid} (R:Rect c w h) (hw:0<w) (hh:0<h):∀b∈tileBands k c w h,b.length<=w*h:=by
 intro b hb;rw [<- tileBands_length k R hw hh];have:b.Sublist (tileBands k c w h).flatten:=List.sublist_flatten_of_mem hb;exact this.length_le
structure Plane (p:List Int)(w h:Nat):Prop where
 len:p.length=w*h
 lim:Lim 65535 p
theorem Plane.rect {p:List Int}{w h:Nat} (P:Plane p w h):Rect (cutRows p w h) w h:=Rect.cutRows P.len
theorem Plane.limG {p:List Int}{w h:Nat} (P:Plane p w h):LimG 65535 (cutRows p w h):=by
 intro r hr z hz;obtain ⟨i,_,rfl⟩:=List.mem_map.mp hr;exact P.lim z (List.mem_of_mem_drop (List.mem_of_mem_take hz))
theorem Plane.bands {p:List Int}{w h k:Nat} (P:Plane p w h) (hw:0<w) (hh:0<h) (hk:k<=5):∀b∈tileBands k (cutRows p w h) w h,∀z∈b,-(2 ^ 23)<=z/\z<2 ^ 23:=by
 intro b hb z hz;have:=tileBands_lim k P.limG (by decide) P.rect hw hh b hb z hz;have:=bound_small k hk;omega
theorem Plane.bits_le {p:List Int}{w h k:Nat} (P:Plane p w h) (hw:0<w) (hh:0<h) (hk:k<=5) (ha:w*h<=65536):((tileBands k (cutRows p w h) w h).flatMap (bandBits 16 1)).length<=88*(w*h):=by
 refine Nat.le_trans (cb (m:=λ(b:List Int)=>b) (c:=88) λb hb=>?_) ?_
 ·have:=kB P.rect hw hh b hb;exact cR b 0 16 1 Paced.start (by omega) λz hz=>by have:=P.bands hw hh hk b hb z hz;omega
 ·rw [List.flatMap_id',tileBands_length k P.rect hw hh];exact Nat.le_refl _
theorem w8 {xs:List Int}{i s n:Nat}{z:Int} (hb:∀m,m<n->i+m*s<xs.length) (h:z∈pick xs i s n):z∈xs:=by
 obtain ⟨m,hm,rfl⟩:=List.mem_map.mp h;have hm:m<n:=by simpa using hm
 rw [<- aP (hb m hm)];exact List.getElem_mem _
theorem cY {kinds w h:Nat}{l:List Int} (hl:l.length=kinds*w*h) (hz:∀z∈l,0<=z/\z<=65535):∀p∈planes kinds (w*h) l,p.length=w*h/\∀z∈p,0<=z/\z<=65535:=by
 intro p hp;refine ⟨planes_length p hp,λz hzp=>?_⟩;obtain ⟨k,hk,rfl⟩:=List.mem_map.mp hp;have hk:k<kinds:=by simpa using hk
 refine hz z (w8 (λm hm=>?_) hzp);have h1:(m+1)*kinds<=w*h*kinds:=Nat.mul_le_mul_right _ hm;rw [Nat.add_mul,Nat.one_mul,Nat.mul_comm (w*h),<- Nat.mul_assoc] at h1;omega
theorem zip3_lim {f:Int->Int->Int->Int}{r g b:List Int} (hf:∀x y z,x∈r->y∈g->z∈b->-65535<=f x y z/\f x y z<=65535):Lim 65535 (zip3 f r g b):=by
 intro z hz;obtain ⟨⟨x,y,w⟩,hm,rfl⟩:=List.mem_map.mp hz;have h1:=List.of_mem_zip hm;have h2:=List.of_mem_zip h1.2;exact hf x y w h1.1 h2.1 h2.2
theorem dP {l:List (List Int)}{w h:Nat} (hl:∀p∈l,p.length=w*h/\∀z∈p,0<=z/\z<=65535):∀p∈mixed l,Plane p w h:=by
 intro p hp;refine ⟨mixed_length (λq hq=>(hl q hq).1) p hp,?_⟩
 match l,hl,hp with
 | [],hl,hp=>exact λz hz=>by have:=(hl p hp).2 z hz;omega
 | [_],hl,hp=>exact λz hz=>by have:=(hl p hp).2 z hz;omega
 | [_,_],hl,hp=>exact λz hz=>by have:=(hl p hp).2 z hz;omega
 | r::g::b::rest,hl,hp =>
  have hr:=(hl r (by simp)).2;have hg:=(hl g (by simp)).2;have hb:=(hl b (by simp)).2;simp [mixed] at hp;rcases hp with rfl | rfl | rfl | hp
  ·exact zip3_lim λx y z hx hy hz=>by have:=hr x hx;have:=hg y hy;have:=hb z hz;omega
  ·exact zip3_lim λx y z hx hy hz=>by have:=hr x hx;have:=hg y hy;have:=hb z hz;omega
  ·exact zip3_lim λx y z hx hy hz=>by have:=hr x hx;have:=hg y hy;have:=hb z hz;omega
  ·exact λz hz=>by have:=(hl p (by simp [hp])).2 z hz;omega
theorem mixed_count (l:List (List Int)):(mixed l).length=l.length:=by
 match l with
 | []=>rfl
 | [_]=>rfl
 | [_,_]=>rfl
 | r::g::b::rest=>rfl
theorem kC {kinds w h levels:Nat}{l:List Int} (hw:0<w) (hh:0<h) (hk:levels<=5) (ha:w*h<=65536) (hl:l.length=kinds*w*h) (hz:∀z∈l,0<=z/\z<=65535):(tileBits kinds w h levels l).length<=88*(kinds*(w*h)):=by
 unfold tileBits;have hp:=dP (cY hl hz);refine Nat.le_trans (cb (m:=λ(p:List Int)=>p) (c:=88) λp hpm=>?_) ?_
 ·rw [(hp p hpm).len];exact (hp p hpm).bits_le hw hh hk ha
 ·rw [ah (n:=w*h) λp hpm=>(hp p hpm).len,mixed_count];simp [planes]
def Bf (n many:Nat):List Nat:=(List.range many).map λi=>n/256 ^ i % 256
theorem tell_bits {k m x:Nat}(h:x∈Sp21.tell k m):x<2:=by
 by_cases q:m/2 ^ k<24
 ·rw [i6 q] at h;rcases List.mem_append.mp h with h | h
  ·exact bitsOf_lt h
  ·exact bitsOf_lt h
 ·rw [tell_long q] at h;rcases List.mem_append.mp h with h | h
  ·exact bitsOf_lt h
  ·exact bitsOf_lt h
theorem bandBits_bits:∀(l:List Int) (a c:Nat) {x:Nat},x∈bandBits a c l->x<2
 | [],_,_,x,h=>by simp [e7] at h
 | z::l,a,c,x,h=>by
  rw [bz] at h;rcases List.mem_append.mp h with h | h
  ·exact tell_bits h
  ·exact bandBits_bits l _ _ h
theorem tileBits_bits {kinds w h levels:Nat}{l:List Int}:∀x∈tileBits kinds w h levels l,x<2:=by
 intro x hx;obtain ⟨p,_,hx⟩:=List.mem_flatMap.mp hx;obtain ⟨b,_,hx⟩:=List.mem_flatMap.mp hx;exact bandBits_bits b 16 1 hx
theorem yr {z:Int}(h:0<=z/\z<=65535):Sp21.two z.toNat=[z.toNat % 256,z.toNat/256]:=by
 unfold Sp21.two;rw [Nat.mod_eq_of_lt (show z.toNat/256<256 by omega)]
end TW
namespace TW
open Sp21 (Head headOf cutInto Bytes)
def numOf:List Nat->Nat
 | []=>0
 | x::r=>x+256*numOf r
theorem mR:∀{l:List Nat},(∀x∈l,x<256)->numOf l<256 ^ l.length
 | [],_=>by decide
 | x::r,h=>by
  have h1:=h x (by simp);have h2:=mR (l:=r) λy hy=>h y (by simp [hy]);show x+256*numOf r<256 ^ (r.length+1);rw [Nat.pow_succ];omega
theorem numOf_append:∀(a b:List Nat),numOf (a++b)=numOf a+256 ^ a.length*numOf b
 | [],b=>by simp [numOf]
 | x::a,b=>by
  show x+256*numOf (a++b)=x+256*numOf a+256 ^ (a.length+1)*numOf b;rw [numOf_append a b,Nat.pow_succ,Nat.mul_add,Nat.mul_comm (256 ^ a.length) 256,Nat.mul_assoc];omega
theorem tU (a:List Nat)(x:Nat):numOf (a++[x])=numOf a+x*256 ^ a.length:=by
 rw [numOf_append];simp [numOf,Nat.mul_comm]
theorem vv (b:List Nat)(i:Nat):numOf ((b.drop i).take 3)=b.getD i 0+256*b.getD (i+1) 0+65536*b.getD (i+2) 0:=by
 have e:∀j,b.getD (i+j) 0=(b.drop i).getD j 0:=λj=>by simp [List.getD_eq_getElem?_getD]
 have e0:=e 0;rw [Nat.add_zero] at e0;rw [e0,e 1,e 2];generalize b.drop i=l
 match l with
 | []=>rfl
 | [x]=>simp [numOf]
 | [x,y]=>simp [numOf]
 | x::y::z::r=>simp [numOf];omega
def lengthsOf (b:List Nat)(many:Nat):List Nat:=(List.range many).map λi=>numOf ((b.drop (9+3*i)).take 3)
def fc (b:List Nat):Option Head :=
 if b.length<9\/b.take 4≠[84,73,76,83] then none
 else if 1<=b.getD 4 0/\b.getD 4 0<=4/\4<=b.getD 7 0/\b.getD 7 0<=8/\b.getD 8 0<=5 then some ⟨b.getD 4 0,b.getD 5 0+1,b.getD 6 0+1,b.getD 7 0,b.getD 8 0⟩ else none
def tilesP (b:List Nat)(f:Head):Option (List Bytes) :=
 let lengths:=lengthsOf b f.tiles
 if (lengths.any λx=>x==0)=true\/9+3*f.tiles+lengths.sum+4≠b.length then none else some (cutInto lengths (b.drop (9+3*f.tiles)))
theorem ff {b:List Nat}(hb:∀x∈b,x<256)(i:Nat):b.getD i 0<256:=by
 rw [List.getD_eq_getElem?_getD];by_cases h:i<b.length
 ·rw [List.getElem?_eq_getElem h,Option.getD_some];exact hb _ (List.getElem_mem h)
 ·rw [List.getElem?_eq_none (by omega),Option.getD_none];decide
theorem headP_ok {b:List Nat}{f:Head} (hb:∀x∈b,x<256) (h:fc b=some f):HeadOk f:=by
 unfold fc at h;split at h
 ·cases h
 ·split at h
  ·rename_i q;have e:=Option.some.inj h;subst e;have h5:=ff hb 5;have h6:=ff hb 6;exact ⟨⟨q.1,q.2.1⟩,⟨by dsimp only;omega,by dsimp only;omega⟩,⟨by dsimp only;omega,by dsimp only;omega⟩,⟨q.2.2.1,q.2.2.2.1⟩,q.2.2.2.2⟩
  ·cases h
theorem tiles_pos {f:Head}(h:HeadOk f):0<f.tiles:=Nat.mul_pos (bZ h.w) (sj h.w)
theorem kD {b:List Nat}(hb:∀x∈b,x<256):headOf b=(fc b).bind λf=>(tilesP b f).map λl=>(f,l):=by
 have tl:∀f:Head,(lengthsOf b f.tiles)=(List.range f.tiles).map λ(t:Nat)=>b.getD (9+3*t) 0+256*b.getD (10+3*t) 0+65536*b.getD (11+3*t) 0:=by
  intro f;unfold lengthsOf;refine List.map_congr_left λt _=>?_;rw [vv,show 9+3*t+1=10+3*t by omega,show 9+3*t+2=11+3*t by omega]
 unfold headOf;dsimp only;by_cases h9:b.length<9\/b.take 4≠[84,73,76,83]
 ·have hP:fc b=none:=by unfold fc;rw [if_pos h9]
  rw [hP,if_pos (by rcases h9 with q | q;exact .inl (by omega);exact .inr (.inl q))];rfl
 ·have h9l:¬b.length<9:=λq=>h9 (.inl q);have h9t:¬b.take 4≠[84,73,76,83]:=λq=>h9 (.inr q);by_cases hr:1<=b.getD 4 0/\b.getD 4 0<=4/\4<=b.getD 7 0/\b.getD 7 0<=8/\b.getD 8 0<=5
  ·have hP:fc b=some ⟨b.getD 4 0,b.getD 5 0+1,b.getD 6 0+1,b.getD 7 0,b.getD 8 0⟩:=by unfold fc;rw [if_neg h9,if_pos hr]
   have hOk:=headP_ok hb hP;have hT:=tiles_pos hOk;rw [hP];show _=(tilesP b _).map _;unfold tilesP;rw [tl];by_cases h13:b.length<13
   ·rw [if_pos (.inl h13)];dsimp only;rw [if_pos (.inr (by omega))];rfl
   ·rw [if_neg (by
     intro q;rcases q with q | q | q
     ·exact h13 q
     ·exact h9t q
     ·exact q hr)]
    dsimp only;generalize hL:((List.range (Head.mk (b.getD 4 0) (b.getD 5 0+1) (b.getD 6 0+1) (b.getD 7 0) (b.getD 8 0)).tiles).map λ(t:Nat)=>b.getD (9+3*t) 0+256*b.getD (10+3*t) 0+65536*b.getD (11+3*t) 0)=L;generalize (Head.mk (b.getD 4 0) (b.getD 5 0+1) (b.getD 6 0+1) (b.getD 7 0) (b.getD 8 0)).tiles=n at *;by_cases hz:(L.any λx=>x==0)=true
    ·rw [if_pos (.inr (.inl hz)),if_pos (.inl hz)];rfl
    ·by_cases hs:9+3*n+L.sum+4≠b.length
     ·rw [if_pos (.inr (.inr (by omega))),if_pos (.inr hs)];rfl
     ·rw [if_neg (by
       intro q;rcases q with q | q | q
       ·omega
       ·exact hz q
       ·omega),if_neg (by
       intro q;rcases q with q | q
       ·exact hz q
       ·exact hs q)]
      rfl
  ·have hP:fc b=none:=by unfold fc;rw [if_neg h9,if_neg hr]
   rw [hP,if_pos (.inr (.inr hr))];rfl
end TW
namespace TW
open Sp21 (bitsOf value parameter tell next code1 size1 bandBits readBand)
theorem qP (z:Int):size1 (code1 z)=z:=by
 unfold size1 code1;split
 ·split <;> omega
 ·split <;> omega
def hear (k:Nat)(b:List Nat):Option (Int×List Nat) :=
 let q:=((b.take 24).takeWhile λ(x:Nat)=>x==1).length
 let r:=if q=24 then b.drop 24 else b.drop (q+1)
 let s:=if q=24 then 24 else k
 if b.length<q+1\/r.length<s then none
 else some (size1 (if q=24 then value (r.take 24) else q*2 ^ k+value (r.take k)),r.drop s)
def hearBand (π:Nat->Nat->Nat):Nat->Nat->Nat->List Nat->Option (List Int×List Nat)
 | 0,_,_,b=>some ([],b)
 | n+1,a,c,b=>(hear (π a c) b).bind λx=>(hearBand π n (next a c x.1).1 (next a c x.1).2 x.2).map λy=>(x.1::y.1,y.2)
theorem kE:∀(n a c:Nat) (b:List Nat),readBand n a c b=hearBand parameter n a c b
 | 0,_,_,_=>rfl
 | n+1,a,c,b=>by
  unfold readBand hearBand hear;dsimp only;generalize hq:((b.take 24).takeWhile λ(x:Nat)=>x==1).length=q;generalize (if q=24 then b.drop 24 else b.drop (q+1))=r;generalize (if q=24 then 24 else parameter a c)=s;generalize size1 (if q=24 then value (r.take 24) else q*2 ^ parameter a c+value (r.take (parameter a c)))=z;by_cases h:b.length<q+1\/r.length<s
  ·rw [if_pos h,if_pos h];rfl
  ·rw [if_neg h,if_neg h,kE n];rfl
theorem lH (q:Nat)(t:List Nat):((List.replicate q 1++0::t).takeWhile λ(x:Nat)=>x==1)=List.replicate q 1:=by
 induction q with
 | zero=>simp
 | succ q ih =>
  rw [List.replicate_succ,List.cons_append,List.takeWhile_cons];simp [ih]
theorem mS (q:Nat):((List.replicate q 1).takeWhile λ(x:Nat)=>x==1)=List.replicate q 1:=by
 induction q with
 | zero=>rfl
 | succ q ih =>
  rw [List.replicate_succ,List.takeWhile_cons];simp [ih]
theorem vw {k m:Nat}(hm:m<2 ^ 24)(rest:List Nat):hear k (tell k m++rest)=some (size1 m,rest):=by
 by_cases h:m/2 ^ k<24
 ·have e:tell k m=List.replicate (m/2 ^ k) 1++(0::bitsOf k (m % 2 ^ k)):=by unfold tell;simp only [if_pos h]
  generalize hq:m/2 ^ k=q at *;have hb:tell k m++rest=List.replicate q 1++0::(bitsOf k (m % 2 ^ k)++rest):=by rw [e,List.append_assoc,List.cons_append]
  have tk:(((tell k m++rest).take 24).takeWhile λ(x:Nat)=>x==1).length=q:=by
   rw [hb,List.take_append,List.length_replicate,List.take_of_length_le (by rw [List.length_replicate];omega)];obtain ⟨j,hj⟩:∃j,24-q=j+1:=⟨23-q,by omega⟩
   rw [hj,List.take_succ_cons,lH,List.length_replicate]
  have dr:(tell k m++rest).drop (q+1)=bitsOf k (m % 2 ^ k)++rest:=by
   rw [hb,show q+1=(List.replicate q 1).length+1 by rw [List.length_replicate],List.drop_append];simp
  have ln:(tell k m++rest).length=q+1+k+rest.length:=by
   rw [hb];simp [bitsOf_length];omega
  unfold hear;dsimp only;rw [tk,if_neg (show ¬q=24 by omega),if_neg (show ¬q=24 by omega),if_neg (show ¬q=24 by omega),dr,if_neg (by rw [ln];simp [bitsOf_length];omega)];rw [List.take_left' (bitsOf_length _ _),List.drop_left' (bitsOf_length _ _),bu (Nat.mod_lt _ (Nat.two_pow_pos k)),<- hq,Nat.mul_comm,Nat.div_add_mod]
 ·have e:tell k m=List.replicate 24 1++bitsOf 24 m:=by unfold tell;simp only [if_neg h]
  have hb:tell k m++rest=List.replicate 24 1++(bitsOf 24 m++rest):=by rw [e,List.append_assoc]
  have tk:(((tell k m++rest).take 24).takeWhile λ(x:Nat)=>x==1).length=24:=by
   rw [hb,List.take_left' (by rw [List.length_replicate]),mS,List.length_replicate]
  have dr:(tell k m++rest).drop 24=bitsOf 24 m++rest:=by rw [hb,List.drop_left' (by rw [List.length_replicate])]
  have ln:(tell k m++rest).length=48+rest.length:=by
   rw [hb];simp [bitsOf_length];omega
  unfold hear;dsimp only;rw [tk,if_pos rfl,if_pos rfl,if_pos rfl,dr,if_neg (by rw [ln];simp [bitsOf_length];omega)];rw [List.take_left' (bitsOf_length _ _),List.drop_left' (bitsOf_length _ _),bu hm]
def Meets (π:Nat->Nat->Nat):Prop:=∀a c,1<=c->a<=c*2 ^ 63->π a c=parameter a c
theorem Meets.parameter:Meets parameter:=λ_ _ _ _=>rfl
theorem dQ {π:Nat->Nat->Nat}(hπ:Meets π):∀(l:List Int) (n a c:Nat) (rest:List Nat),Paced n a c->n+l.length<=2 ^ 20->(∀z∈l,-(2 ^ 23)<=z/\z<2 ^ 23)->hearBand π l.length a c (bandBits a c l++rest)=some (l,rest)
 | [],_,_,_,_,_,_,_=>rfl
 | z::l,n,a,c,rest,P,hn,hz=>by
  have hz0:=hz z (by simp);have hn':n+(l.length+1)<=2 ^ 20:=hn;have ih:=dQ hπ l (n+1) _ _ rest (P.next (z:=z) (by omega)) (by omega) λy hy=>hz y (by simp [hy]);show (hear (π a c) (bandBits a c (z::l)++rest)).bind _=_;rw [hπ a c P.c_pos (P.fits (by omega)),bz,List.append_assoc,vw (sh hz0.1 hz0.2),qP];show (hearBand π l.length (next a c z).1 (next a c z).2 (bandBits (next a c z).1 (next a c z).2 l++rest)).map _=_;rw [ih];rfl
def hearBands (π:Nat->Nat->Nat):List Nat->List Nat->Option (List (List Int)×List Nat)
 | [],b=>some ([],b)
 | n::r,b=>(hearBand π n 16 1 b).bind λx=>(hearBands π r x.2).map λy=>(x.1::y.1,y.2)
theorem gb {π:Nat->Nat->Nat}(hπ:Meets π):∀(bs:List (List Int)) (rest:List Nat),(∀b∈bs,b.length<=2 ^ 20/\∀z∈b,-(2 ^ 23)<=z/\z<2 ^ 23)->hearBands π (bs.map (·.length)) (bs.flatMap (bandBits 16 1)++rest)=some (bs,rest)
 | [],_,_=>rfl
 | b::r,rest,h=>by
  have hb:=h b (by simp);have ih:=gb hπ r rest λy hy=>h y (by simp [hy]);show (hearBand π b.length 16 1 ((b::r).flatMap (bandBits 16 1)++rest)).bind _=_;rw [List.flatMap_cons,List.append_assoc,dQ hπ b 0 16 1 _ Paced.start (by omega) hb.2];show (hearBands π (r.map (·.length)) (r.flatMap (bandBits 16 1)++rest)).map _=_;rw [ih];rfl
theorem fg {π:Nat->Nat->Nat}:∀{n a c:Nat}{b:List Nat}{x:List Int×List Nat},hearBand π n a c b=some x->x.1.length=n
 | 0,_,_,_,x,h=>by
  have e:=Option.some.inj (show some ([],_)=some x from h);subst e;rfl
 | n+1,a,c,b,x,h=>by
  unfold hearBand at h;cases h1:hear (π a c) b with
  | none=>rw [h1] at h;cases h
  | some y =>
   rw [h1] at h;cases h2:hearBand π n (next a c y.1).1 (next a c y.1).2 y.2 with
   | none =>
    have h:(hearBand π n (next a c y.1).1 (next a c y.1).2 y.2).map _=some x:=h;rw [h2] at h;cases h
   | some w =>
    have h:(hearBand π n (next a c y.1).1 (next a c y.1).2 y.2).map _=some x:=h;rw [h2] at h;have e:=Option.some.inj h;subst e;show w.1.length+1=n+1;rw [fg h2]
end TW
namespace TW
open Sp21 (Grid halve whole turn onRows onColumns up corners forward backward Part last bands numbersOf place readBands readGrids readBand parameter)
theorem gJ (x:List Int):whole (halve x)=x:=by
 by_cases hn:x.length<2
 ·have e:halve x=x:=by unfold halve;rw [if_pos hn]
  rw [e];unfold whole;rw [if_pos hn]
 ·have ly:=cs x;have ld:=aF x;have e:halve x=((List.range ((x.length+1)/2)).map λ(i:Nat)=>x.getD (2*i) 0+(Sp21.near (Sp21.differences x) i+2)/4)++Sp21.differences x:=by
   unfold halve;rw [if_neg hn]
  have ed:(halve x).drop ((x.length+1)/2)=Sp21.differences x:=by
   rw [e,List.drop_left' (by simp)]
  have em:∀i,i<(x.length+1)/2->(halve x).getD i 0=x.getD (2*i) 0+(Sp21.near (Sp21.differences x) i+2)/4:=λi hi=>by
   rw [e,List.getD_eq_getElem?_getD,List.getElem?_append_left (by simpa using hi)];simp [hi]
  unfold whole;rw [ly,if_neg hn];dsimp only;rw [ed];have ee:((List.range ((x.length+1)/2)).map λ(i:Nat)=>(halve x).getD i 0-(Sp21.near (Sp21.differences x) i+2)/4)=(List.range ((x.length+1)/2)).map λ(i:Nat)=>x.getD (2*i) 0:=by
   refine List.map_congr_left λi hi=>?_;rw [em i (by simpa using hi)];omega
  rw [ee];have eg:∀i,i<(x.length+1)/2->((List.range ((x.length+1)/2)).map λ(i:Nat)=>x.getD (2*i) 0).getD i 0=x.getD (2*i) 0:=λi hi=>by simp [List.getD_eq_getElem?_getD,hi]
  apply List.ext_getElem
  ·simp
  ·intro i h1 h2;rw [List.getElem_map,List.getElem_range];split
   ·rename_i he;rw [eg (i/2) (by omega),ax h2];congr 1;omega
   ·rename_i ho;rw [eg (i/2) (by omega),eg (min (i/2+1) ((x.length+1)/2-1)) (by omega),diff_getD (by omega),ax h2];have ei:2*(i/2)+1=i:=by omega
    have el:Sp21.look x (2*(i/2)+2)=x.getD (2*min (i/2+1) ((x.length+1)/2-1)) 0:=by
     unfold Sp21.look;split
     ·congr 1;omega
     ·congr 1;omega
    rw [ei,el];omega
theorem jy (y:List Int):(whole y).length=y.length:=by
 unfold whole;split
 ·rfl
 ·simp
theorem Ak (n:Nat):∀l:List Int,l.length=n->(whole l).length=n:=λl h=>by rw [jy,h]
theorem ij {g:Grid}{w h:Nat} (R:Rect g w h) (hw:0<w) (hh:0<h):turn (turn g)=g:=by
 have RT:=R.turn hh;refine Rect.ext (RT.turn hw) R λy x hy hx=>?_;rw [cell_turn RT hw hy hx,cell_turn R hh hx hy]
def wholeCorner (c:Grid):Grid:=(turn ((turn c).map whole)).map whole
theorem Rect.wholeCorner {c:Grid}{w h:Nat} (R:Rect c w h) (hw:0<w) (hh:0<h):Rect (wholeCorner c) w h :=
 (((R.turn hh).map whole (Ak h)).turn hw).map whole (Ak w)
theorem fh (g:Grid):(g.map halve).map whole=g:=by
 rw [List.map_map]
 conv=>rhs;rw [<- List.map_id g]
 exact List.map_congr_left λr _=>gJ r
theorem dR {c:Grid}{w h:Nat} (R:Rect c w h) (hw:0<w) (hh:0<h):wholeCorner (halveCorner c)=c:=by
 have R1:=R.map halve (dM w);have RT:=R1.turn hh;have R2:=RT.map halve (dM h);unfold wholeCorner halveCorner;rw [ij R2 hh hw,fh,ij R1 hw hh,fh]
theorem mf {g:Grid}{w h w' h':Nat} (R:Rect g w h) (hw:w'<=w) {f f':List Int->List Int} (hf:∀l,l.length=w'->(f l).length=w') (hi:∀l,f' (f l)=l):onRows f' w' h' (onRows f w' h' g)=g:=by
 apply List.ext_getElem
 ·rw [bA,bA]
 ·intro y h1 h2;have e1:(onRows f' w' h' (onRows f w' h' g))[y]=(onRows f' w' h' (onRows f w' h' g)).getD y []:=by simp [List.getD_eq_getElem?_getD,h1]
  have e2:g[y]=g.getD y []:=by simp [List.getD_eq_getElem?_getD,h2]
  have hr:=R.row (y:=y) (by rw [<- R.1];exact h2);rw [e1,e2,fK f' (by rw [bA];exact h2),fK f h2];by_cases q:y<h'
  ·have hl:(f ((g.getD y []).take w')).length=w':=hf _ (by rw [List.length_take,hr];omega);rw [if_pos q,if_pos q,List.take_left' hl,List.drop_left' hl,hi,List.take_append_drop]
  ·rw [if_neg q,if_neg q]
def vx (g:Grid)(c:Nat×Nat):Grid:=onRows whole c.1 c.2 (onColumns whole c.1 c.2 g)
theorem qQ {g:Grid}{w h cw ch:Nat} (R:Rect g w h) (hw:cw<=w) (hh:ch<=h) (h0:0<cw) (h1:0<ch):vx (stepG g (cw,ch)) (cw,ch)=g:=by
 have R1:=R.onRows halve ch hw (dM cw);have RT:=R1.turn (by omega);have R2:=RT.onRows halve cw hh (dM ch);show onRows whole cw ch (turn (onRows whole ch cw (turn (turn (onRows halve ch cw (turn (onRows halve cw ch g)))))))=g;rw [ij R2 (by omega) (by omega),mf RT hh (dM ch) gJ,ij R1 (by omega) (by omega),mf R hw (dM cw) gJ]
theorem pD:∀(k cw ch:Nat) {g:Grid}{w h:Nat},Rect g w h->cw<=w->ch<=h->0<cw->0<ch->(corners k cw ch).reverse.foldl vx ((corners k cw ch).foldl stepG g)=g
 | 0,_,_,_,_,_,_,_,_,_,_=>by simp only [corners,List.reverse_nil,List.foldl_nil]
 | k+1,cw,ch,g,w,h,R,hw,hh,h0,h1=>by
  have R1:=R.stepG hw hh h0 h1;have u0:=up_le h0;have u1:=up_le h1;have ih:=pD k (up cw) (up ch) R1 (by omega) (by omega) (up_pos h0) (up_pos h1);rw [show corners (k+1) cw ch=(cw,ch)::corners k (up cw) (up ch) from rfl,List.foldl_cons,List.reverse_cons,List.foldl_append,ih,List.foldl_cons,List.foldl_nil];exact qQ R hw hh h0 h1
theorem jK {g:Grid}{w h:Nat} (k:Nat) (R:Rect g w h) (hw:0<w) (hh:0<h):backward k w h (forward k w h g)=g :=
 pD k w h R (Nat.le_refl _) (Nat.le_refl _) hw hh
theorem Rect.forward {g:Grid}{w h:Nat} (k:Nat) (R:Rect g w h) (hw:0<w) (hh:0<h):Rect (forward k w h g) w h :=
 (i8 k w h R (Nat.le_refl _) (Nat.le_refl _) hw hh).1
structure Fits (p:Part)(w h:Nat):Prop where
 x:p.x+p.w<=w
 y:p.y+p.h<=h
theorem last_le:∀(k:Nat) {w h:Nat},0<w->0<h->(last k w h).1<=w/\(last k w h).2<=h
 | 0,_,_,_,_=>⟨Nat.le_refl _,Nat.le_refl _⟩
 | k+1,w,h,hw,hh=>by
  have:=last_le k (up_pos hw) (up_pos hh);have u0:=up_le hw;have u1:=up_le hh;show (last k (up w) (up h)).1<=w/\(last k (up w) (up h)).2<=h;omega
theorem bands_fit:∀(k:Nat) {w h:Nat},0<w->0<h->∀p∈bands k w h,Fits p w h
 | 0,w,h,_,_,p,hp=>by
  have:p=⟨0,0,w,h⟩:=by simpa [bands,last,corners] using hp
  subst this;exact ⟨by dsimp only;omega,by dsimp only;omega⟩
 | k+1,w,h,hw,hh,p,hp=>by
  have u0:=up_le hw;have u1:=up_le hh;rw [fL] at hp;rcases List.mem_append.mp hp with q | q
  ·have:=bands_fit k (up_pos hw) (up_pos hh) p q;exact ⟨by have:=this.x;omega,by have:=this.y;omega⟩
  ·simp [threeParts] at q;rcases q with rfl | rfl | rfl
   ·exact ⟨by dsimp only;omega,by dsimp only;omega⟩
   ·exact ⟨by dsimp only;omega,by dsimp only;omega⟩
   ·exact ⟨by dsimp only;omega,by dsimp only;omega⟩
def bM (p:Part)(y x:Nat):Prop:=p.x<=x/\x<p.x+p.w/\p.y<=y/\y<p.y+p.h
theorem kF:∀(k:Nat) {w h y x:Nat},0<w->0<h->y<h->x<w->∃p∈bands k w h,bM p y x
 | 0,w,h,y,x,_,_,hy,hx=>⟨⟨0,0,w,h⟩,by simp [bands,last,corners],by unfold bM;dsimp only;omega⟩
 | k+1,w,h,y,x,hw,hh,hy,hx=>by
  have u0:=up_le hw;have u1:=up_le hh;by_cases q:y<up h/\x<up w
  ·obtain ⟨p,hp,hi⟩:=kF k (up_pos hw) (up_pos hh) q.1 q.2;exact ⟨p,by rw [fL];exact List.mem_append_left _ hp,hi⟩
  ·have:∃p∈threeParts w h,bM p y x:=by
    by_cases q1:y<up h
    ·exact ⟨⟨up w,0,w-up w,up h⟩,by simp [threeParts],by unfold bM;dsimp only;omega⟩
    ·by_cases q2:x<up w
     ·exact ⟨⟨0,up h,up w,h-up h⟩,by simp [threeParts],by unfold bM;dsimp only;omega⟩
     ·exact ⟨⟨up w,up h,w-up w,h-up h⟩,by simp [threeParts],by unfold bM;dsimp only;omega⟩
   obtain ⟨p,hp,hi⟩:=this;exact ⟨p,by rw [fL];exact List.mem_append_right _ hp,hi⟩
theorem fi (g:Grid)(p:Part)(l:List Int):(place g p l).length=g.length:=by simp [place]
theorem pE {g:Grid}{p:Part}{l:List Int}{y:Nat} (hy:y<g.length):(place g p l).getD y [] =
  if p.y<=y/\y<p.y+p.h then (g.getD y []).take p.x++((l.drop ((y-p.y)*p.w)).take p.w++(g.getD y []).drop (p.x+p.w)) else g.getD y []:=by
 have hl:y<(place g p l).length:=by rw [fi];exact hy
 rw [List.getD_eq_getElem?_getD,List.getElem?_eq_getElem hl,Option.getD_some];have e:g.getD y []=g[y]:=by simp [List.getD_eq_getElem?_getD,hy]
 rw [e];simp [place]
theorem jL {g:Grid}{w h:Nat}{p:Part} (R:Rect g w h) (F:Fits p w h):(numbersOf g p).length=p.w*p.h:=by
 rw [bO R F.x F.y,ah (n:=p.w) λj _=>by simp,List.length_range,Nat.mul_comm]
theorem pF {α:Type}{n:Nat}{F:Nat->Nat->Int}:∀{m j i:Nat},j<m->i<n->((List.range m).flatMap λj=>(List.range n).map λi=>F j i).getD (j*n+i) 0=F j i
 | 0,j,i,hj,_=>absurd hj (Nat.not_lt_zero _)
 | m+1,j,i,hj,hi=>by
  rw [List.range_succ,List.flatMap_append,List.flatMap_singleton,List.getD_eq_getElem?_getD];have hl:((List.range m).flatMap λj=>(List.range n).map λi=>F j i).length=m*n:=by rw [ah (n:=n) λj _=>by simp,List.length_range]
  by_cases q:j<m
  ·have:j*n+i<m*n:=by
    have:(j+1)*n<=m*n:=Nat.mul_le_mul_right _ q;rw [Nat.add_mul,Nat.one_mul] at this;omega
   rw [List.getElem?_append_left (by omega),<- List.getD_eq_getElem?_getD];exact pF (α:=α) q hi
  ·have e:j=m:=by omega
   subst e;rw [List.getElem?_append_right (by omega),hl,show j*n+i-j*n=i by omega];simp [hi]
theorem lI {g:Grid}{w h:Nat}{p:Part} (R:Rect g w h) (F:Fits p w h) {j i:Nat} (hj:j<p.h) (hi:i<p.w):(numbersOf g p).getD (j*p.w+i) 0=cell g (p.y+j) (p.x+i):=by
 rw [bO R F.x F.y];exact pF (α:=Unit) (F:=λj i=>cell g (p.y+j) (p.x+i)) hj hi
theorem Rect.place {g:Grid}{w h:Nat}{p:Part}{l:List Int} (R:Rect g w h) (F:Fits p w h) (hl:l.length=p.w*p.h):Rect (place g p l) w h:=by
 refine ⟨by rw [fi,R.1],λr hr=>?_⟩;obtain ⟨y,hy,rfl⟩:=List.getElem_of_mem hr;have hy':y<g.length:=by rw [fi] at hy;exact hy
 have e:(Sp21.place g p l)[y]=(Sp21.place g p l).getD y []:=by simp [List.getD_eq_getElem?_getD,hy]
 have hr:=R.row (y:=y) (by rw [<- R.1];exact hy');have hx:=F.x;rw [e,pE hy'];split
 ·rename_i q;have:(y-p.y+1)*p.w<=p.h*p.w:=Nat.mul_le_mul_right _ (by omega);rw [Nat.add_mul,Nat.one_mul,Nat.mul_comm p.h] at this;rw [List.length_append,List.length_append,List.length_take,List.length_drop,hr,List.length_take,List.length_drop,hl];omega
 ·exact hr
theorem tV {g:Grid}{w h:Nat}{p:Part}{l:List Int} (R:Rect g w h) (F:Fits p w h) (hl:l.length=p.w*p.h) {y x:Nat} (hy:y<h) :
  (bM p y x->cell (place g p l) y x=l.getD ((y-p.y)*p.w+(x-p.x)) 0)/\(¬bM p y x->cell (place g p l) y x=cell g y x):=by
 have hr:=R.row hy;have hx:=F.x;unfold cell bM;rw [pE (by rw [R.1];exact hy)];by_cases q:p.y<=y/\y<p.y+p.h
 ·have:(y-p.y+1)*p.w<=p.h*p.w:=Nat.mul_le_mul_right _ (by omega);rw [Nat.add_mul,Nat.one_mul,Nat.mul_comm p.h] at this;have l1:((g.getD y []).take p.x).length=p.x:=by rw [List.length_take,hr];omega
  have l2:((l.drop ((y-p.y)*p.w)).take p.w).length=p.w:=by rw [List.length_take,List.length_drop,hl];omega
  rw [if_pos q];constructor
  ·intro z;rw [List.getD_eq_getElem?_getD,List.getElem?_append_right (by omega),l1,List.getElem?_append_left (by omega),List.getElem?_take,if_pos (by omega),List.getElem?_drop,<- List.getD_eq_getElem?_getD]
  ·intro z;by_cases z1:x<p.x
   ·rw [List.getD_eq_getElem?_getD,List.getElem?_append_left (by omega),List.getElem?_take,if_pos z1,<- List.getD_eq_getElem?_getD]
   ·rw [List.getD_eq_getElem?_getD,List.getElem?_append_right (by omega),l1,List.getElem?_append_right (by omega),l2,List.getElem?_drop,<- List.getD_eq_getElem?_getD];congr 1;omega
 ·rw [if_neg q];exact ⟨λz=>absurd ⟨z.2.2.1,z.2.2.2⟩ q,λ_=>rfl⟩
theorem gd {F:Grid}{w h:Nat} (RF:Rect F w h):∀(ps:List Part) (g:Grid) (rest:List Nat),Rect g w h->(∀p∈ps,Fits p w h)->(∀p∈ps,(numbersOf F p).length<=2 ^ 20/\∀z∈numbersOf F p,-(2 ^ 23)<=z/\z<2 ^ 23) ->
  ∃g',readBands ps g ((ps.flatMap λp=>Sp21.bandBits 16 1 (numbersOf F p))++rest)=some (g',rest)/\Rect g' w h/\∀y x,y<h->x<w->((cell g y x=cell F y x\/∃p∈ps,bM p y x)->cell g' y x=cell F y x)
 | [],g,rest,R,_,_=>⟨g,rfl,R,λy x _ _ q=>q.elim id λ⟨p,hp,_⟩=>absurd hp (by simp)⟩
 | p::ps,g,rest,R,hf,hz=>by
  have Fp:=hf p (by simp);have Zp:=hz p (by simp);have lN:=jL RF Fp;have R1:=R.place (l:=numbersOf F p) Fp lN;obtain ⟨g',e,R',hc⟩:=gd RF ps (place g p (numbersOf F p)) rest R1 (λq hq=>hf q (by simp [hq])) λq hq=>hz q (by simp [hq]);refine ⟨g',?_,R',λy x hy hx q=>hc y x hy hx ?_⟩
  ·show (match readBand (p.w*p.h) 16 1 (((p::ps).flatMap λp=>Sp21.bandBits 16 1 (numbersOf F p))++rest) with
    | none=>none
    | some x=>readBands ps (place g p x.1) x.2)=_
   rw [List.flatMap_cons,List.append_assoc,kE,<- lN,dQ Meets.parameter _ 0 16 1 _ Paced.start (by omega) Zp.2];exact e
  ·obtain ⟨c1,c2⟩:=tV (l:=numbersOf F p) R Fp lN (y:=y) (x:=x) hy;by_cases hi:bM p y x
   ·left;rw [c1 hi];unfold bM at hi;rw [lI RF Fp (by omega) (by omega)];congr 1 <;> omega
   ·rw [c2 hi];rcases q with q | ⟨p',hp',hi'⟩
    ·exact .inl q
    ·rcases List.mem_cons.mp hp' with rfl | hp'
     ·exact absurd hi' hi
     ·exact .inr ⟨p',hp',hi'⟩
end TW
namespace TW
open Sp21 (Grid halve whole turn up bands numbersOf forward backward readBands readGrids bitsOf value bytesOf two apart together mix unmix tileCode tileRead parameter bandBits)
theorem dS:∀{l:List Nat},(∀y∈l,y<2)->value l<2 ^ l.length
 | [],_=>by decide
 | y::r,h=>by
  have h1:y<2:=h y (by simp);have h2:=dS (l:=r) λz hz=>h z (by simp [hz]);rw [show y::r=[y]++r from rfl,cq,List.length_append,show value [y]=y by simp [value],List.length_singleton,Nat.pow_add,Nat.pow_one];have:y*2 ^ r.length<=1*2 ^ r.length:=Nat.mul_le_mul_right _ (by omega);omega
theorem cZ:∀{l:List Nat},(∀y∈l,y<2)->bitsOf l.length (value l)=l
 | [],_=>rfl
 | y::r,h=>by
  have h1:y<2:=h y (by simp);have ih:=cZ (l:=r) λz hz=>h z (by simp [hz]);have hv:=dS (l:=r) λz hz=>h z (by simp [hz]);rw [show y::r=[y]++r from rfl,cq,List.length_append,show value [y]=y by simp [value],List.length_singleton,cJ _ _ _ _ hv,ih];congr 1;have:y=0\/y=1:=by omega
  rcases this with rfl | rfl <;> rfl
theorem bytes_bits:∀(n:Nat) {B:List Nat},B.length<=n->(∀y∈B,y<2)->∃pad,(bytesOf B).flatMap (bitsOf 8)=B++pad/\∀y∈pad,y=0
 | 0,B,hn,_=>⟨[],by
  have:B=[]:=List.eq_nil_of_length_eq_zero (by omega);subst this;rfl,by simp⟩
 | n+1,B,hn,hb=>by
  by_cases h8:B.length<8
  ·by_cases h0:B.length=0
   ·have:B=[]:=List.eq_nil_of_length_eq_zero h0;subst this;exact ⟨[],rfl,by simp⟩
   ·refine ⟨List.replicate (8-B.length) 0,?_,λy hy=>List.eq_of_mem_replicate hy⟩;have hv:=dS hb;have e:=jw h8 hv;rw [cZ hb,if_neg h0] at e;rw [e,List.flatMap_singleton];have e2:=cJ B.length (8-B.length) (value B) 0 (Nat.two_pow_pos _);rw [Nat.add_zero,show B.length+(8-B.length)=8 by omega,cZ hb] at e2;rw [e2];congr 1;apply List.ext_getElem
    ·simp [bitsOf_length]
    ·intro i h1 h2;rw [bitsOf_getElem,List.getElem_replicate,Nat.zero_div]
  ·have l8:(B.take 8).length=8:=by rw [List.length_take];omega
   have hb8:∀y∈B.take 8,y<2:=λy hy=>hb y (List.mem_of_mem_take hy);have hv:=dS hb8;rw [l8] at hv;have e8:=cZ hb8;rw [l8] at e8;obtain ⟨pad,e,hp⟩:=bytes_bits n (B:=B.drop 8) (by rw [List.length_drop];omega) λy hy=>hb y (List.mem_of_mem_drop hy);refine ⟨pad,?_,hp⟩;have eB:B=bitsOf 8 (value (B.take 8))++B.drop 8:=by rw [e8,List.take_append_drop]
   conv=>lhs;rw [eB,jv hv,List.flatMap_cons,e,<- List.append_assoc]
   rw [<- eB]
theorem tW {r g b:List Int}{n:Nat} (hr:r.length=n) (hg:g.length=n) (hb:b.length=n) :
  zip3 (λy u v=>v+(y-(u+v)/4)) (zip3 (λr g b=>(r+2*g+b)/4) r g b) (zip3 (λ_ g b=>b-g) r g b) (zip3 (λr g _=>r-g) r g b)=r /\
  zip3 (λy u v=>y-(u+v)/4) (zip3 (λr g b=>(r+2*g+b)/4) r g b) (zip3 (λ_ g b=>b-g) r g b) (zip3 (λr g _=>r-g) r g b)=g /\
  zip3 (λy u v=>u+(y-(u+v)/4)) (zip3 (λr g b=>(r+2*g+b)/4) r g b) (zip3 (λ_ g b=>b-g) r g b) (zip3 (λr g _=>r-g) r g b)=b:=by
 have l1:=zip3_length (f:=λr g b=>(r+2*g+b)/4) hr hg hb;have l2:=zip3_length (f:=λ_ g b=>b-g) hr hg hb;have l3:=zip3_length (f:=λr g _=>r-g) hr hg hb;refine ⟨?_,?_,?_⟩
 ·refine List.ext_getElem (by rw [zip3_length l1 l2 l3,hr]) λi h1 h2=>?_;have hi:i<n:=by omega
  rw [ax,ax,aX l1 l2 l3 hi,aX hr hg hb hi,aX hr hg hb hi,aX hr hg hb hi];omega
 ·refine List.ext_getElem (by rw [zip3_length l1 l2 l3,hg]) λi h1 h2=>?_;have hi:i<n:=by omega
  rw [ax,ax,aX l1 l2 l3 hi,aX hr hg hb hi,aX hr hg hb hi,aX hr hg hb hi];omega
 ·refine List.ext_getElem (by rw [zip3_length l1 l2 l3,hb]) λi h1 h2=>?_;have hi:i<n:=by omega
  rw [ax,ax,aX l1 l2 l3 hi,aX hr hg hb hi,aX hr hg hb hi,aX hr hg hb hi];omega
theorem ik {l:List (List Int)}{n:Nat} (hl:∀p∈l,p.length=n):unmixed (mixed l)=l:=by
 match l,hl with
 | [],_=>rfl
 | [_],_=>rfl
 | [_,_],_=>rfl
 | r::g::b::rest,hl =>
  obtain ⟨e1,e2,e3⟩:=tW (hl r (by simp)) (hl g (by simp)) (hl b (by simp));show _::_::_::rest=_;rw [e1,e2,e3]
theorem dj {l:List (List Int)}{n:Nat} (hl:∀p∈l,p.length=n):∀p∈unmixed l,p.length=n:=by
 match l,hl with
 | [],hl=>exact hl
 | [_],hl=>exact hl
 | [_,_],hl=>exact hl
 | r::g::b::rest,hl =>
  have hr:=hl r (by simp);have hg:=hl g (by simp);have hb:=hl b (by simp);intro p hp;simp [unmixed] at hp;rcases hp with rfl | rfl | rfl | hp
  ·exact zip3_length hr hg hb
  ·exact zip3_length hr hg hb
  ·exact zip3_length hr hg hb
  ·exact hl p (by simp [hp])
def weave (kinds n:Nat)(ps:List (List Int)):List Int:=(List.range (kinds*n)).map λt=>(ps.getD (t % kinds) []).getD (t/kinds) 0
theorem weave_length (kinds n:Nat)(ps:List (List Int)):(weave kinds n ps).length=kinds*n:=by simp [weave]
theorem weave_getElem {kinds n t:Nat}{ps:List (List Int)} (h:t<(weave kinds n ps).length):(weave kinds n ps)[t]=(ps.getD (t % kinds) []).getD (t/kinds) 0:=by simp [weave]
theorem qR {kinds n k:Nat}{l:List Int} (hk:k<kinds):(planes kinds n l).getD k []=pq l kinds n k:=by
 simp [planes,List.getD_eq_getElem?_getD,hk]
theorem jz {kinds n:Nat}{l:List Int} (hk:0<kinds) (hl:l.length=kinds*n):weave kinds n (planes kinds n l)=l:=by
 apply List.ext_getElem
 ·rw [weave_length,hl]
 ·intro t h1 h2;rw [weave_length] at h1;rw [weave_getElem,qR (Nat.mod_lt _ hk),pq,dy (by rw [Nat.div_lt_iff_lt_mul hk,Nat.mul_comm];exact h1),ax h2];congr 1;rw [Nat.add_comm,Nat.mul_comm];exact Nat.div_add_mod t kinds
theorem aH {α:Type}{f:α->List Int}{n:Nat}:∀{l:List α}{j i:Nat}{a:α},(∀a∈l,(f a).length=n)->l[j]?=some a->i<n->(l.flatMap f).getD (j*n+i) 0=(f a).getD i 0
 | [],j,i,a,_,h,_=>by simp at h
 | x::r,0,i,a,hl,h,hi=>by
  have e:x=a:=Option.some.inj h;subst e;rw [List.flatMap_cons,Nat.zero_mul,Nat.zero_add,List.getD_eq_getElem?_getD,List.getElem?_append_left (by rw [hl x (by simp)];exact hi),<- List.getD_eq_getElem?_getD]
 | x::r,j+1,i,a,hl,h,hi=>by
  have hx:=hl x (by simp);rw [List.flatMap_cons,List.getD_eq_getElem?_getD,List.getElem?_append_right (by rw [hx,Nat.add_mul];omega),hx,<- List.getD_eq_getElem?_getD,show (j+1)*n+i-n=j*n+i by rw [Nat.add_mul];omega];exact aH (λb hb=>hl b (by simp [hb])) (by simpa using h) hi
theorem kH {kinds w h:Nat}{ps:List (List Int)} (hk:0<kinds) (hp:∀p∈ps,p.length=w*h):together kinds w h (ps.map λp=>cutRows p w h)=weave kinds (w*h) ps:=by
 have lin:∀(y:Nat),((List.range w).flatMap λ(x:Nat)=>(List.range kinds).map λ(k:Nat)=>(((ps.map λp=>cutRows p w h).getD k []).getD y []).getD x 0).length=w*kinds:=λy=>by
  rw [ah (n:=kinds) λx _=>by simp,List.length_range]
 have ltot:(together kinds w h (ps.map λp=>cutRows p w h)).length=kinds*(w*h):=by
  unfold together;rw [ah (n:=w*kinds) λy _=>lin y,List.length_range,Nat.mul_comm kinds,Nat.mul_comm w h,Nat.mul_assoc]
 apply List.ext_getElem
 ·rw [ltot,weave_length]
 ·intro t h1 h2;rw [weave_length] at h2;have hq:t/kinds<w*h:=by rw [Nat.div_lt_iff_lt_mul hk,Nat.mul_comm];exact h2
  have hw:0<w:=by
   rcases Nat.eq_zero_or_pos w with z | z
   ·rw [z,Nat.zero_mul] at hq;exact absurd hq (Nat.not_lt_zero _)
   ·exact z
  have hy:t/kinds/w<h:=by rw [Nat.div_lt_iff_lt_mul hw,Nat.mul_comm];exact hq
  have hx:t/kinds % w<w:=Nat.mod_lt _ hw;have hm:t % kinds<kinds:=Nat.mod_lt _ hk;have et:t=(t/kinds/w)*(w*kinds)+((t/kinds % w)*kinds+t % kinds):=by
   have a1:=Nat.div_add_mod t kinds;have a2:=Nat.div_add_mod (t/kinds) w;have a3:kinds*(t/kinds)=kinds*(w*(t/kinds/w))+kinds*(t/kinds % w):=by rw [<- Nat.mul_add,a2]
   have a4:kinds*(w*(t/kinds/w))=(t/kinds/w)*(w*kinds):=by rw [<- Nat.mul_assoc,Nat.mul_comm,Nat.mul_comm kinds w]
   rw [Nat.mul_comm (t/kinds % w) kinds];omega
  rw [ax h1,weave_getElem];unfold together
  conv=>lhs;rw [et]
  rw [aH (n:=w*kinds) (a:=t/kinds/w) (λy _=>lin y) (by simp [hy]) (by
   have:(t/kinds % w+1)*kinds<=w*kinds:=Nat.mul_le_mul_right _ hx;rw [Nat.add_mul,Nat.one_mul] at this;omega)]
  rw [aH (n:=kinds) (a:=t/kinds % w) (λx _=>by simp) (by simp [hx]) hm];have e1:((List.range kinds).map λ(k:Nat)=>(((ps.map λp=>cutRows p w h).getD k []).getD (t/kinds/w) []).getD (t/kinds % w) 0).getD (t % kinds) 0=(((ps.map λp=>cutRows p w h).getD (t % kinds) []).getD (t/kinds/w) []).getD (t/kinds % w) 0:=by
   simp [List.getD_eq_getElem?_getD,hm]
  rw [e1];by_cases hk2:t % kinds<ps.length
  ·have e2:(ps.map λp=>cutRows p w h).getD (t % kinds) []=cutRows (ps.getD (t % kinds) []) w h:=by simp [List.getD_eq_getElem?_getD,hk2]
   rw [e2];show cell (cutRows (ps.getD (t % kinds) []) w h) (t/kinds/w) (t/kinds % w)=_;rw [aW hy hx];congr 1;rw [Nat.mul_comm];exact Nat.div_add_mod _ _
  ·have e2:(ps.map λp=>cutRows p w h).getD (t % kinds) []=[]:=by simp [List.getD_eq_getElem?_getD,hk2]
   have e3:ps.getD (t % kinds) []=[]:=by simp [List.getD_eq_getElem?_getD,hk2]
   rw [e2,e3];simp
theorem gf (w h:Nat):Rect (List.replicate h (List.replicate w 0)) w h:=by
 refine ⟨by simp,λr hr=>?_⟩;rw [List.eq_of_mem_replicate hr];simp
theorem gi {w h k:Nat}(hw:0<w)(hh:0<h)(hk:k<=5)(ha:w*h<=65536):∀(ps:List (List Int)) (rest:List Nat),(∀p∈ps,Plane p w h) ->
  readGrids k w h ps.length ((ps.flatMap λp=>(tileBands k (cutRows p w h) w h).flatMap (bandBits 16 1))++rest)=some (ps.map λp=>cutRows p w h)
 | [],_,_=>rfl
 | p::ps,rest,hp=>by
  have P:=hp p (by simp);have ih:=gi hw hh hk ha ps rest λq hq=>hp q (by simp [hq]);have RF:=P.rect.forward k hw hh;have eb:=mQ k P.rect hw hh;have hb:∀q∈bands k w h,(numbersOf (forward k w h (cutRows p w h)) q).length<=2 ^ 20/\∀z∈numbersOf (forward k w h (cutRows p w h)) q,-(2 ^ 23)<=z/\z<2 ^ 23:=λq hq=>by
   have hm:numbersOf (forward k w h (cutRows p w h)) q∈tileBands k (cutRows p w h) w h:=by rw [<- eb];exact List.mem_map.mpr ⟨q,hq,rfl⟩
   have:=kB P.rect hw hh _ hm;exact ⟨by omega,P.bands hw hh hk _ hm⟩
  obtain ⟨g',e,R',hc⟩:=gd RF (bands k w h) (List.replicate h (List.replicate w 0)) ((ps.flatMap λp=>(tileBands k (cutRows p w h) w h).flatMap (bandBits 16 1))++rest) (gf w h) (bands_fit k hw hh) hb;have eg:g'=forward k w h (cutRows p w h):=Rect.ext R' RF λy x hy hx=>hc y x hy hx (.inr (kF k hw hh hy hx));subst eg;have ebits:(tileBands k (cutRows p w h) w h).flatMap (bandBits 16 1)=(bands k w h).flatMap λq=>bandBits 16 1 (numbersOf (forward k w h (cutRows p w h)) q):=by rw [<- eb,List.flatMap_map]
  show (match readBands (bands k w h) (List.replicate h (List.replicate w 0)) (((p::ps).flatMap λp=>(tileBands k (cutRows p w h) w h).flatMap (bandBits 16 1))++rest) with
   | none=>none
   | some x=>(readGrids k w h ps.length x.2).map λ(r:List Grid)=>backward k w h x.1::r)=_
  rw [List.flatMap_cons,List.append_assoc,ebits,e];show (readGrids k w h ps.length ((ps.flatMap λp=>(tileBands k (cutRows p w h) w h).flatMap (bandBits 16 1))++rest)).map _=_;rw [ih,Option.map_some,jK k P.rect hw hh];rfl
structure TileOk (kinds w h levels:Nat):Prop where
 area:w*h<=65536
 kinds:0<kinds
 w:0<w
 h:0<h
 levels:levels<=5
def w9 (n:Nat)(l:List Int):Prop:=l.length=n/\∀z∈l,0<=z/\z<=65535
theorem mh {l:List Int}(hz:∀z∈l,0<=z/\z<=65535){i:Nat}(hi:i<l.length) :
  (((l.flatMap λ(z:Int)=>two z.toNat).getD (2*i) 0+256*(l.flatMap λ(z:Int)=>two z.toNat).getD (2*i+1) 0:Nat):Int)=l.getD i 0:=by
 induction l generalizing i with
 | nil=>simp at hi
 | cons z r ih =>
  have h0:=hz z (by simp);rw [List.flatMap_cons,yr h0];cases i with
  | zero =>
   simp;omega
  | succ i =>
   have e1:2*(i+1)=2*i+1+1:=by omega
   rw [e1];simp only [List.cons_append,List.nil_append,List.getD_cons_succ];exact ih (λy hy=>hz y (by simp [hy])) (by simpa using hi)
theorem qS {kinds w h levels:Nat}{l:List Int}{b:List Nat} (T:TileOk kinds w h levels) (S:w9 (kinds*(w*h)) l) (hb:tileCode kinds w h levels l=b):tileRead kinds w h levels b=some l:=by
 have hall:(l.all λ(z:Int)=>decide (0<=z)&&decide (z<=65535))=true:=by
  rw [List.all_eq_true];intro z hz;have:=S.2 z hz;simp [this.1,this.2]
 have hl3:l.length=kinds*w*h:=by rw [S.1,Nat.mul_assoc]
 have fin:∀(o:Option (List Int)),o=some l->(o.bind λ(l:List Int)=>if (l.all λ(z:Int)=>decide (0<=z)&&decide (z<=65535))=true/\tileCode kinds w h levels l=b then some l else none)=some l:=by
  rintro _ rfl;show (if _ then _ else _)=_;rw [if_pos ⟨hall,hb⟩]
 have ec:=gH (kinds:=kinds) (levels:=levels) (l:=l) T.w T.h;rw [hb] at ec;by_cases hs:(1::bytesOf (tileBits kinds w h levels l)).length<(0::l.flatMap λ(z:Int)=>two z.toNat).length
 ·rw [if_pos hs] at ec;unfold tileRead;refine fin _ ?_;rw [ec];show (readGrids levels w h kinds ((bytesOf (tileBits kinds w h levels l)).flatMap λ(x:Nat)=>bitsOf 8 x)).map _=_;obtain ⟨pad,ep,_⟩:=bytes_bits _ (Nat.le_refl _) (tileBits_bits (kinds:=kinds) (w:=w) (h:=h) (levels:=levels) (l:=l));have ep':(bytesOf (tileBits kinds w h levels l)).flatMap (λ(x:Nat)=>bitsOf 8 x)=tileBits kinds w h levels l++pad:=ep;rw [ep'];have hP:=dP (cY (kinds:=kinds) (w:=w) (h:=h) hl3 S.2);have hc:(mixed (planes kinds (w*h) l)).length=kinds:=by rw [mixed_count];simp [planes]
  have er:=gi T.w T.h T.levels T.area (mixed (planes kinds (w*h) l)) pad hP;rw [hc] at er;show (readGrids levels w h kinds (tileBits kinds w h levels l++pad)).map _=_;rw [show tileBits kinds w h levels l=(mixed (planes kinds (w*h) l)).flatMap λp=>(tileBands levels (cutRows p w h) w h).flatMap (bandBits 16 1) from rfl,er,Option.map_some,
   pz (mixed_length planes_length),ik planes_length,kH T.kinds planes_length,jz T.kinds S.1]
 ·rw [if_neg hs] at ec;unfold tileRead;refine fin _ ?_;rw [ec];show some ((List.range (kinds*w*h)).map λ(i:Nat)=>(((l.flatMap λ(z:Int)=>two z.toNat).getD (2*i) 0+256*(l.flatMap λ(z:Int)=>two z.toNat).getD (2*i+1) 0:Nat):Int))=some l;congr 1;apply List.ext_getElem
  ·simp [hl3]
  ·intro i h1 h2;rw [List.getElem_map,List.getElem_range,mh S.2 h2,ax h2]
end TW
namespace TW
open Sp21 (Grid halve whole turn up bitsOf value bytesOf two tileCode tileRead parameter bandBits together unmix)
def par (a c:Nat):Nat:=((List.range (a+1)).find? λ(k:Nat)=>decide (a<=c*2 ^ k)).getD 0
theorem Al {a c k:Nat}(hc:1<=c)(h:a<=c*2 ^ k)(hn:∀j,j<k->¬a<=c*2 ^ j):par a c=k:=by
 have hk:k<a+1:=by
  cases k with
  | zero=>omega
  | succ k =>
   have h1:=hn k (Nat.lt_succ_self k);have h2:1*2 ^ k<=c*2 ^ k:=Nat.mul_le_mul_right _ hc;have h3:k<2 ^ k:=Nat.lt_two_pow_self;omega
 unfold par;have:(List.range (a+1)).find? (λ(k:Nat)=>decide (a<=c*2 ^ k))=some k:=by
  rw [List.find?_range_eq_some];exact ⟨by simpa using h,by simpa using hk,λj hj=>by simpa using hn j hj⟩
 rw [this];rfl
theorem par_least {a c:Nat}(hc:1<=c):a<=c*2 ^ par a c/\∀j,j<par a c->¬a<=c*2 ^ j:=by
 cases e:(List.range (a+1)).find? (λ(k:Nat)=>decide (a<=c*2 ^ k)) with
 | none =>
  rw [List.find?_range_eq_none] at e;have h2:1*2 ^ a<=c*2 ^ a:=Nat.mul_le_mul_right _ hc;have h3:a<2 ^ a:=Nat.lt_two_pow_self;exact absurd (show a<=c*2 ^ a by omega) (by simpa using e a (by omega))
 | some k =>
  have ep:par a c=k:=by unfold par;rw [e];rfl
  rw [List.find?_range_eq_some] at e;rw [ep];exact ⟨by simpa using e.1,λj hj=>by simpa using e.2.2 j hj⟩
theorem vy:Meets par:=λa c hc h=>by
 obtain ⟨h1,h2⟩:=par_least (a:=a) hc;have hk:par a c<64:=by
  rcases Nat.lt_or_ge (par a c) 64 with q | q
  ·exact q
  ·exact absurd h (h2 63 (by omega))
 exact (parameter_eq hk h1 h2).symm
def bandLens:Nat->Nat->Nat->List Nat
 | 0,w,h=>[w*h]
 | k+1,w,h=>bandLens k (up w) (up h)++[(w-up w)*up h,up w*(h-up h),(w-up w)*(h-up h)]
theorem aN:∀(k w h:Nat),(bandLens k w h).length=1+3*k
 | 0,_,_=>rfl
 | k+1,w,h=>by
  show (bandLens k (up w) (up h)++_).length=_;rw [List.length_append,aN k];simp;omega
theorem dk:∀(k:Nat) {c:Grid}{w h:Nat},Rect c w h->0<w->0<h->(tileBands k c w h).map (·.length)=bandLens k w h
 | 0,c,w,h,R,_,_=>by
  show [c.flatten.length]=[w*h];rw [flatten_rect R]
 | k+1,c,w,h,R,hw,hh=>by
  have u0:=up_le hw;have u1:=up_le hh;have RC:=R.halveCorner hw hh;have ih:=dk k (RC.sub u0 u1) (up_pos hw) (up_pos hh);show (tileBands k (sub (TW.halveCorner c) (up w) (up h)) (up w) (up h)++threeBands (TW.halveCorner c) (up w) (up h)).map (·.length)=bandLens k (up w) (up h)++_;rw [List.map_append,ih];congr 1;generalize hd:TW.halveCorner c=g at *;have a1:=flatten_rect (show Rect ((g.take (up h)).map (·.drop (up w))) (w-up w) (up h) from ⟨by rw [List.length_map,List.length_take,RC.1];omega,λr hr=>by
   obtain ⟨l,hl,rfl⟩:=List.mem_map.mp hr;rw [List.length_drop,RC.2 l (List.mem_of_mem_take hl)]⟩)
  have a2:=flatten_rect (show Rect ((g.drop (up h)).map (·.take (up w))) (up w) (h-up h) from ⟨by rw [List.length_map,List.length_drop,RC.1],λr hr=>by
   obtain ⟨l,hl,rfl⟩:=List.mem_map.mp hr;rw [List.length_take,RC.2 l (List.mem_of_mem_drop hl)];omega⟩)
  have a3:=flatten_rect (show Rect ((g.drop (up h)).map (·.drop (up w))) (w-up w) (h-up h) from ⟨by rw [List.length_map,List.length_drop,RC.1],λr hr=>by
   obtain ⟨l,hl,rfl⟩:=List.mem_map.mp hr;rw [List.length_drop,RC.2 l (List.mem_of_mem_drop hl)]⟩)
  show [((g.take (up h)).map (·.drop (up w))).flatten.length,((g.drop (up h)).map (·.take (up w))).flatten.length,((g.drop (up h)).map (·.drop (up w))).flatten.length]=_;rw [a1,a2,a3]
theorem cS:∀(k:Nat) (c:Grid) (w h:Nat),(tileBands k c w h).length=1+3*k
 | 0,_,_,_=>rfl
 | k+1,c,w,h=>by
  show (tileBands k (sub (TW.halveCorner c) (up w) (up h)) (up w) (up h)++threeBands (TW.halveCorner c) (up w) (up h)).length=_;rw [List.length_append,cS k];simp [threeBands];omega
def joinG (c:Grid)(a:List (List Int))(w h:Nat):Grid :=
 ((c.zip (cutRows (a.getD 0 []) (w-up w) (up h))).map λx=>x.1++x.2)++(((cutRows (a.getD 1 []) (up w) (h-up h)).zip (cutRows (a.getD 2 []) (w-up w) (h-up h))).map λx=>x.1++x.2)
theorem bh:∀{g:Grid}{w h:Nat},Rect g w h->cutRows g.flatten w h=g:=by
 intro g w h R;have lf:=flatten_rect R;refine Rect.ext (Rect.cutRows lf) R λy x hy hx=>?_;rw [aW hy hx];have hyl:y<g.length:=by rw [R.1];exact hy
 have:=aH (f:=λ(r:List Int)=>r) (n:=w) (l:=g) (j:=y) (i:=x) (a:=g[y]) R.2 (List.getElem?_eq_getElem hyl) hx;rw [List.flatMap_id'] at this;rw [this];unfold cell;congr 1;simp [List.getD_eq_getElem?_getD,hyl]
theorem dU:∀(g:Grid) (a:Nat),((g.map (·.take a)).zip (g.map (·.drop a))).map (λx=>x.1++x.2)=g
 | [],_=>rfl
 | r::g,a=>by
  simp only [List.map_cons,List.zip_cons_cons];rw [dU g a,List.take_append_drop]
theorem qT {g:Grid}{w h:Nat} (R:Rect g w h) (hw:0<w) (hh:0<h):joinG (sub g (up w) (up h)) (threeBands g (up w) (up h)) w h=g:=by
 have u0:=up_le hw;have u1:=up_le hh;have r1:Rect ((g.take (up h)).map (·.drop (up w))) (w-up w) (up h):=⟨by rw [List.length_map,List.length_take,R.1];omega,λr hr=>by
  obtain ⟨l,hl,rfl⟩:=List.mem_map.mp hr;rw [List.length_drop,R.2 l (List.mem_of_mem_take hl)]⟩
 have r2:Rect ((g.drop (up h)).map (·.take (up w))) (up w) (h-up h):=⟨by rw [List.length_map,List.length_drop,R.1],λr hr=>by
  obtain ⟨l,hl,rfl⟩:=List.mem_map.mp hr;rw [List.length_take,R.2 l (List.mem_of_mem_drop hl)];omega⟩
 have r3:Rect ((g.drop (up h)).map (·.drop (up w))) (w-up w) (h-up h):=⟨by rw [List.length_map,List.length_drop,R.1],λr hr=>by
  obtain ⟨l,hl,rfl⟩:=List.mem_map.mp hr;rw [List.length_drop,R.2 l (List.mem_of_mem_drop hl)]⟩
 unfold joinG;have e0:(threeBands g (up w) (up h)).getD 0 []=((g.take (up h)).map (·.drop (up w))).flatten:=rfl;have e1:(threeBands g (up w) (up h)).getD 1 []=((g.drop (up h)).map (·.take (up w))).flatten:=rfl;have e2:(threeBands g (up w) (up h)).getD 2 []=((g.drop (up h)).map (·.drop (up w))).flatten:=rfl;rw [e0,e1,e2,bh r1,bh r2,bh r3];unfold sub;rw [dU,dU,List.take_append_drop]
def rowsOf:Nat->List (List Int)->Nat->Nat->Grid
 | 0,bs,w,h=>cutRows (bs.getD 0 []) w h
 | k+1,bs,w,h=>wholeCorner (joinG (rowsOf k (bs.take (1+3*k)) (up w) (up h)) (bs.drop (1+3*k)) w h)
theorem jA:∀(k:Nat) {c:Grid}{w h:Nat},Rect c w h->0<w->0<h->rowsOf k (tileBands k c w h) w h=c
 | 0,c,w,h,R,_,_=>by
  show cutRows c.flatten w h=c;exact bh R
 | k+1,c,w,h,R,hw,hh=>by
  have RC:=R.halveCorner hw hh;have ih:=jA k (RC.sub (up_le hw) (up_le hh)) (up_pos hw) (up_pos hh);have hc:=cS k (sub (TW.halveCorner c) (up w) (up h)) (up w) (up h);show wholeCorner (joinG (rowsOf k ((tileBands k (sub (TW.halveCorner c) (up w) (up h)) (up w) (up h)++threeBands (TW.halveCorner c) (up w) (up h)).take (1+3*k)) (up w) (up h))
   ((tileBands k (sub (TW.halveCorner c) (up w) (up h)) (up w) (up h)++threeBands (TW.halveCorner c) (up w) (up h)).drop (1+3*k)) w h)=c
  rw [List.take_left' hc,List.drop_left' hc,ih,qT RC hw hh,dR R hw hh]
theorem mi {c:Grid}{a:List (List Int)}{w h:Nat} (R:Rect c (up w) (up h)) (hw:0<w) (hh:0<h) (h0:(a.getD 0 []).length=(w-up w)*up h) (h1:(a.getD 1 []).length=up w*(h-up h)) (h2:(a.getD 2 []).length=(w-up w)*(h-up h)):Rect (joinG c a w h) w h:=by
 have u0:=up_le hw;have u1:=up_le hh;have r0:=Rect.cutRows (p:=a.getD 0 []) h0;have r1:=Rect.cutRows (p:=a.getD 1 []) h1;have r2:=Rect.cutRows (p:=a.getD 2 []) h2;unfold joinG;refine ⟨by rw [List.length_append,List.length_map,List.length_map,List.length_zip,List.length_zip,R.1,r0.1,r1.1,r2.1];omega,λr hr=>?_⟩;rcases List.mem_append.mp hr with q | q
 ·obtain ⟨x,hx,rfl⟩:=List.mem_map.mp q;have:=List.of_mem_zip hx;rw [List.length_append,R.2 _ this.1,r0.2 _ this.2];omega
 ·obtain ⟨x,hx,rfl⟩:=List.mem_map.mp q;have:=List.of_mem_zip hx;rw [List.length_append,r1.2 _ this.1,r2.2 _ this.2];omega
theorem aV (bs:List (List Int))(i:Nat):(bs.getD i []).length=(bs.map (·.length)).getD i 0:=by
 simp only [List.getD_eq_getElem?_getD,List.getElem?_map];cases bs[i]? <;> rfl
theorem rowsOf_rect:∀(k:Nat) {bs:List (List Int)}{w h:Nat},bs.map (·.length)=bandLens k w h->0<w->0<h->Rect (rowsOf k bs w h) w h
 | 0,bs,w,h,hl,_,_=>by
  refine Rect.cutRows ?_;rw [aV,hl];rfl
 | k+1,bs,w,h,hl,hw,hh=>by
  have hl:bs.map (·.length)=bandLens k (up w) (up h)++[(w-up w)*up h,up w*(h-up h),(w-up w)*(h-up h)]:=hl;have hc:=aN k (up w) (up h);have ht:(bs.take (1+3*k)).map (·.length)=bandLens k (up w) (up h):=by rw [List.map_take,hl,List.take_left' hc]
  have hd:(bs.drop (1+3*k)).map (·.length)=[(w-up w)*up h,up w*(h-up h),(w-up w)*(h-up h)]:=by rw [List.map_drop,hl,List.drop_left' hc]
  have R:=rowsOf_rect k ht (up_pos hw) (up_pos hh);refine (mi R hw hh ?_ ?_ ?_).wholeCorner hw hh
  ·rw [aV,hd];rfl
  ·rw [aV,hd];rfl
  ·rw [aV,hd];rfl
def heardPlane (w h k:Nat)(b:List Nat):Option (List Int×List Nat):=(hearBands par (bandLens k w h) b).map λx=>((rowsOf k x.1 w h).flatten,x.2)
def heardPlanes (w h k:Nat):Nat->List Nat->Option (List (List Int))
 | 0,_=>some []
 | n+1,b=>(heardPlane w h k b).bind λx=>(heardPlanes w h k n x.2).map λr=>x.1::r
theorem kI {p:List Int}{w h:Nat} (hp:p.length=w*h):(cutRows p w h).flatten=p:=by
 have R:=Rect.cutRows hp;have lf:=flatten_rect R;have e:=bh R;apply List.ext_getElem
 ·rw [lf,hp]
 ·intro t h1 h2;have hq:t<w*h:=by omega
  have hw:0<w:=by
   rcases Nat.eq_zero_or_pos w with z | z
   ·rw [z,Nat.zero_mul] at hq;exact absurd hq (Nat.not_lt_zero _)
   ·exact z
  have hy:t/w<h:=by rw [Nat.div_lt_iff_lt_mul hw,Nat.mul_comm];exact hq
  have hx:t % w<w:=Nat.mod_lt _ hw;have c1:=aW (p:=p) hy hx;have c2:=aW (p:=(cutRows p w h).flatten) hy hx;rw [e,c1] at c2;have et:t/w*w+t % w=t:=by rw [Nat.mul_comm];exact Nat.div_add_mod t w
  rw [et] at c2;rw [ax h1,ax h2,c2]
theorem eR {w h k:Nat}(hw:0<w)(hh:0<h)(hk:k<=5)(ha:w*h<=65536):∀(ps:List (List Int)) (rest:List Nat),(∀p∈ps,Plane p w h) ->
  heardPlanes w h k ps.length ((ps.flatMap λp=>(tileBands k (cutRows p w h) w h).flatMap (bandBits 16 1))++rest)=some ps
 | [],_,_=>rfl
 | p::ps,rest,hp=>by
  have P:=hp p (by simp);have ih:=eR hw hh hk ha ps rest λq hq=>hp q (by simp [hq]);have hb:∀b∈tileBands k (cutRows p w h) w h,b.length<=2 ^ 20/\∀z∈b,-(2 ^ 23)<=z/\z<2 ^ 23:=λb hb=>by
   have:=kB P.rect hw hh b hb;exact ⟨by omega,P.bands hw hh hk b hb⟩
  have e:=gb vy (tileBands k (cutRows p w h) w h) ((ps.flatMap λp=>(tileBands k (cutRows p w h) w h).flatMap (bandBits 16 1))++rest) hb;rw [dk k P.rect hw hh] at e;show (heardPlane w h k (((p::ps).flatMap λp=>(tileBands k (cutRows p w h) w h).flatMap (bandBits 16 1))++rest)).bind _=_;unfold heardPlane;rw [List.flatMap_cons,List.append_assoc,e,Option.map_some,jA k P.rect hw hh,kI P.len];show (heardPlanes w h k ps.length ((ps.flatMap λp=>(tileBands k (cutRows p w h) w h).flatMap (bandBits 16 1))++rest)).map _=_;rw [ih];rfl
def heard (kinds w h levels:Nat)(b:List Nat):Option (List Int):=match b with
 | 0::r=>if r.length=2*(kinds*(w*h)) then some ((List.range (kinds*(w*h))).map λ(i:Nat)=>((r.getD (2*i) 0+256*r.getD (2*i+1) 0:Nat):Int)) else none
 | 1::r=>(heardPlanes w h levels kinds (r.flatMap λ(x:Nat)=>bitsOf 8 x)).map λps=>weave kinds (w*h) (unmixed ps)
 | _=>none
def eS (kinds w h levels:Nat)(b:List Nat):Option (List Int):=(heard kinds w h levels b).bind λl=>if (∀z∈l,0<=z/\z<=65535)/\tileCode kinds w h levels l=b then some l else none
theorem heard_length {kinds w h levels:Nat}{b:List Nat}{l:List Int} (e:heard kinds w h levels b=some l):l.length=kinds*(w*h):=by
 unfold heard at e;split at e
 ·split at e
  ·have:=Option.some.inj e;subst this;simp
  ·cases e
 ·cases q:heardPlanes w h levels kinds (List.flatMap (λ(x:Nat)=>bitsOf 8 x) ‹_›) with
  | none=>rw [q] at e;cases e
  | some ps =>
   rw [q] at e;have:=Option.some.inj e;subst this;rw [weave_length]
 ·cases e
theorem heard_of {kinds w h levels:Nat}{l:List Int}{b:List Nat} (T:TileOk kinds w h levels) (S:w9 (kinds*(w*h)) l) (hb:tileCode kinds w h levels l=b):heard kinds w h levels b=some l:=by
 have hl3:l.length=kinds*w*h:=by rw [S.1,Nat.mul_assoc]
 have ec:=gH (kinds:=kinds) (levels:=levels) (l:=l) T.w T.h;rw [hb] at ec;by_cases hs:(1::bytesOf (tileBits kinds w h levels l)).length<(0::l.flatMap λ(z:Int)=>two z.toNat).length
 ·rw [if_pos hs] at ec;rw [ec];show (heardPlanes w h levels kinds ((bytesOf (tileBits kinds w h levels l)).flatMap λ(x:Nat)=>bitsOf 8 x)).map _=_;obtain ⟨pad,ep,_⟩:=bytes_bits _ (Nat.le_refl _) (tileBits_bits (kinds:=kinds) (w:=w) (h:=h) (levels:=levels) (l:=l));have ep':(bytesOf (tileBits kinds w h levels l)).flatMap (λ(x:Nat)=>bitsOf 8 x)=tileBits kinds w h levels l++pad:=ep;rw [ep'];have hP:=dP (cY (kinds:=kinds) (w:=w) (h:=h) hl3 S.2);have hc:(mixed (planes kinds (w*h) l)).length=kinds:=by rw [mixed_count];simp [planes]
  have er:=eR T.w T.h T.levels T.area (mixed (planes kinds (w*h) l)) pad hP;rw [hc] at er;rw [show tileBits kinds w h levels l=(mixed (planes kinds (w*h) l)).flatMap λp=>(tileBands levels (cutRows p w h) w h).flatMap (bandBits 16 1) from rfl,er,Option.map_some,
   ik planes_length,jz T.kinds S.1]
 ·rw [if_neg hs] at ec;rw [ec];have lr:(l.flatMap λ(z:Int)=>two z.toNat).length=2*(kinds*(w*h)):=by rw [ah (n:=2) λz _=>rfl,S.1,Nat.mul_comm]
  show (if _ then _ else _)=_;rw [if_pos lr];congr 1;apply List.ext_getElem
  ·simp [S.1]
  ·intro i h1 h2;rw [List.getElem_map,List.getElem_range,mh S.2 h2,ax h2]
theorem kJ {kinds w h:Nat}{l:List Grid}:(together kinds w h l).length=kinds*(w*h):=by
 unfold together;rw [ah (n:=w*kinds) λy _=>by rw [ah (n:=kinds) λx _=>by simp,List.length_range],List.length_range,Nat.mul_comm kinds,Nat.mul_comm w h,Nat.mul_assoc]
theorem fj {kinds w h levels:Nat}{b:List Nat}{l:List Int} (e:tileRead kinds w h levels b=some l):w9 (kinds*(w*h)) l/\tileCode kinds w h levels l=b:=by
 unfold tileRead at e;have key:∀o:Option (List Int),(∀m,o=some m->m.length=kinds*(w*h))->(o.bind λ(l:List Int)=>if (l.all λ(z:Int)=>decide (0<=z)&&decide (z<=65535))=true/\tileCode kinds w h levels l=b then some l else none)=some l->w9 (kinds*(w*h)) l/\tileCode kinds w h levels l=b:=by
  intro o ho eo;cases o with
  | none=>cases eo
  | some m =>
   have eo:(if (m.all λ(z:Int)=>decide (0<=z)&&decide (z<=65535))=true/\tileCode kinds w h levels m=b then some m else none)=some l:=eo;split at eo
   ·rename_i q;have:=Option.some.inj eo;subst this;refine ⟨⟨ho _ rfl,λz hz=>?_⟩,q.2⟩;have:=List.all_eq_true.mp q.1 z hz;simpa using this
   ·cases eo
 refine key _ ?_ e;intro m hm;split at hm
 ·have:=Option.some.inj hm;subst this;simp [Nat.mul_assoc]
 ·cases q:Sp21.readGrids levels w h kinds (List.flatMap (λ(x:Nat)=>bitsOf 8 x) ‹_›) with
  | none=>rw [q] at hm;cases hm
  | some g =>
   rw [q] at hm;have:=Option.some.inj hm;subst this;exact kJ
 ·cases hm
theorem taken_eq {kinds w h levels:Nat}(T:TileOk kinds w h levels)(b:List Nat):eS kinds w h levels b=tileRead kinds w h levels b:=by
 cases e:tileRead kinds w h levels b with
 | some l =>
  obtain ⟨S,hc⟩:=fj e;unfold eS;rw [heard_of T S hc];show (if _ then _ else _)=_;rw [if_pos ⟨S.2,hc⟩]
 | none =>
  unfold eS;cases e2:heard kinds w h levels b with
  | none=>rfl
  | some l =>
   show (if _ then _ else _)=_;split
   ·rename_i q;have:=qS T ⟨heard_length e2,q.1⟩ q.2;rw [this] at e;cases e
   ·rfl
end TW
namespace TW
open Sp21 (Head Part cut laid cutInto headOf readAll readTile readSheet joined codeOf front three four tileCode tileRead)
theorem placeAt_in {f:Head}(h:HeadW f){i j x y:Nat}(hi:i<f.across)(hj:j<f.down):bM (bE f i j) y x↔(x<f.wide/\y<f.high/\i=x/2 ^ f.e/\j=y/2 ^ f.e):=by
 have hs:=aG h;have h1:=(aZ (s:=2 ^ f.e) (by omega) h.wide.1).2 i hi;have h2:=(aZ (s:=2 ^ f.e) (by omega) h.high.1).2 j hj;unfold bM bE;dsimp only;generalize 2 ^ f.e=S at *;have hS:0<S:=by omega
 have d1:=Nat.div_add_mod x S;have d2:=Nat.mod_lt x hS;have d3:=Nat.div_add_mod y S;have d4:=Nat.mod_lt y hS;rw [Nat.mul_comm] at d1 d3;constructor
 ·rintro ⟨a,b,c,d⟩;refine ⟨by omega,by omega,?_,?_⟩
  ·refine (Nat.div_eq_of_lt_le (by omega) ?_).symm;rw [Nat.add_mul,Nat.one_mul];omega
  ·refine (Nat.div_eq_of_lt_le (by omega) ?_).symm;rw [Nat.add_mul,Nat.one_mul];omega
 ·rintro ⟨a,b,rfl,rfl⟩;omega
theorem jB (f:Head)(t:Nat):f.part t=bE f (t % f.across) (t/f.across):=rfl
theorem qU {f:Head}(h:HeadW f){t:Nat}(ht:t<f.tiles):t % f.across<f.across/\t/f.across<f.down:=by
 refine ⟨Nat.mod_lt _ (bZ h),?_⟩;rw [Nat.div_lt_iff_lt_mul (bZ h),Nat.mul_comm];exact ht
def c5 (f:Head)(y x:Nat):Nat:=(y/2 ^ f.e)*f.across+x/2 ^ f.e
theorem il {f:Head}(h:HeadW f){y x:Nat}(hy:y<f.high)(hx:x<f.wide):x/2 ^ f.e<f.across/\y/2 ^ f.e<f.down/\c5 f y x<f.tiles:=by
 have hs:=aG h;have a1:x/2 ^ f.e<f.across:=by
  unfold Sp21.Head.across;rw [Nat.div_lt_iff_lt_mul (by omega)];have:=jP (n:=f.wide) (s:=2 ^ f.e) (by omega);omega
 have a2:y/2 ^ f.e<f.down:=by
  unfold Sp21.Head.down;rw [Nat.div_lt_iff_lt_mul (by omega)];have:=jP (n:=f.high) (s:=2 ^ f.e) (by omega);omega
 refine ⟨a1,a2,?_⟩;unfold c5 Sp21.Head.tiles;have:(y/2 ^ f.e+1)*f.across<=f.down*f.across:=Nat.mul_le_mul_right _ a2;rw [Nat.add_mul,Nat.one_mul,Nat.mul_comm f.down] at this;omega
theorem vz {f:Head}(h:HeadW f){y x:Nat}(hy:y<f.high)(hx:x<f.wide):c5 f y x % f.across=x/2 ^ f.e/\c5 f y x/f.across=y/2 ^ f.e:=by
 obtain ⟨a1,a2,_⟩:=il h hy hx;unfold c5;constructor
 ·rw [Nat.mul_comm,Nat.mul_add_mod,Nat.mod_eq_of_lt a1]
 ·rw [Nat.mul_comm,Nat.mul_add_div (bZ h),Nat.div_eq_of_lt a1,Nat.add_zero]
theorem mT {f:Head}(h:HeadW f){t y x:Nat}(ht:t<f.tiles):bM (f.part t) y x↔(x<f.wide/\y<f.high/\t=c5 f y x):=by
 obtain ⟨q1,q2⟩:=qU h ht;rw [jB,placeAt_in h q1 q2];constructor
 ·rintro ⟨a,b,c,d⟩;refine ⟨a,b,?_⟩;unfold c5;rw [<- c,<- d,Nat.mul_comm];exact (Nat.div_add_mod t f.across).symm
 ·rintro ⟨a,b,rfl⟩;obtain ⟨e1,e2⟩:=vz h b a;exact ⟨a,b,e1,e2⟩
structure Tiles (f:Head)(tl:List (Part×List Int)):Prop where
 len:tl.length=f.tiles
 at_:∀t p,tl[t]?=some p->p.1=f.part t/\p.2.length=f.kinds*(p.1.w*p.1.h)
def hit (tl:List (Part×List Int))(y x:Nat):Option (Part×List Int):=tl.find? λ(t:Part×List Int)=>decide (t.1.x<=x)&&(decide (x<t.1.x+t.1.w)&&(decide (t.1.y<=y)&&decide (y<t.1.y+t.1.h)))
theorem Am {f:Head}(h:HeadW f){tl:List (Part×List Int)}(T:Tiles f tl){y x:Nat}(hy:y<f.high)(hx:x<f.wide):hit tl y x=tl[c5 f y x]?:=by
 obtain ⟨_,_,hlt⟩:=il h hy hx;have hl:c5 f y x<tl.length:=by rw [T.len];exact hlt
 have hp:∀t p,tl[t]?=some p->(((decide (p.1.x<=x)&&(decide (x<p.1.x+p.1.w)&&(decide (p.1.y<=y)&&decide (y<p.1.y+p.1.h))))=true)↔t=c5 f y x):=λt p e=>by
  have ht:t<f.tiles:=by rw [<- T.len];exact (List.getElem?_eq_some_iff.mp e).1
  rw [(T.at_ t p e).1];have:=mT h (y:=y) (x:=x) ht;unfold bM at this;simp only [Bool.and_eq_true,decide_eq_true_eq];constructor
  ·intro q;exact (this.mp q).2.2
  ·intro q;exact this.mpr ⟨hx,hy,q⟩
 rw [List.getElem?_eq_getElem hl];unfold hit;rw [List.find?_eq_some_iff_getElem];refine ⟨(hp _ _ (List.getElem?_eq_getElem hl)).mpr rfl,c5 f y x,hl,rfl,λj hj=>?_⟩;have hjl:j<tl.length:=by omega
 cases q:(decide ((tl[j]).1.x<=x)&&(decide (x<(tl[j]).1.x+(tl[j]).1.w)&&(decide ((tl[j]).1.y<=y)&&decide (y<(tl[j]).1.y+(tl[j]).1.h)))) with
 | false=>rfl
 | true =>
  have:=(hp j _ (List.getElem?_eq_getElem hjl)).mp q;omega
def fm (kinds:Nat)(tl:List (Part×List Int))(y x:Nat):List Int:=match hit tl y x with
 | some t=>(t.2.drop (((y-t.1.y)*t.1.w+(x-t.1.x))*kinds)).take kinds
 | none=>[]
theorem vA (kinds wide high:Nat)(tl:List (Part×List Int)):laid kinds wide high tl=(List.range high).flatMap λy=>(List.range wide).flatMap λx=>fm kinds tl y x:=rfl
theorem yW {w h j i:Nat}(hj:j<h)(hi:i<w)(kinds:Nat):(j*w+i)*kinds+kinds<=kinds*(w*h):=by
 have:=qO hj hi;have:(j*w+i+1)*kinds<=w*h*kinds:=Nat.mul_le_mul_right _ this;rw [Nat.add_mul,Nat.one_mul,Nat.mul_comm (w*h)] at this;exact this
theorem sk {f:Head}(h:HeadW f){tl:List (Part×List Int)}(T:Tiles f tl){y x t:Nat}{p:Part×List Int} (hy:y<f.high) (hx:x<f.wide) (ht:t=c5 f y x) (hp:tl[t]?=some p) :
  fm f.kinds tl y x=(p.2.drop (((y-p.1.y)*p.1.w+(x-p.1.x))*f.kinds)).take f.kinds/\(fm f.kinds tl y x).length=f.kinds:=by
 have e:hit tl y x=some p:=by rw [Am h T hy hx,<- ht,hp]
 have htl:t<f.tiles:=by rw [<- T.len];exact (List.getElem?_eq_some_iff.mp hp).1
 obtain ⟨a1,a2⟩:=T.at_ t p hp;have hin:=(mT h htl).mpr ⟨hx,hy,ht⟩;rw [<- a1] at hin;unfold bM at hin;have e2:fm f.kinds tl y x=(p.2.drop (((y-p.1.y)*p.1.w+(x-p.1.x))*f.kinds)).take f.kinds:=by unfold fm;rw [e]
 refine ⟨e2,?_⟩;have:=yW (w:=p.1.w) (h:=p.1.h) (j:=y-p.1.y) (i:=x-p.1.x) (by omega) (by omega) f.kinds;rw [e2,List.length_take,List.length_drop,a2];omega
theorem vB {f:Head}{tl:List (Part×List Int)} (T:Tiles f tl) {t:Nat} (ht:t<f.tiles):∃p,tl[t]?=some p:=⟨tl[t]'(by rw [T.len];exact ht),List.getElem?_eq_getElem _⟩
theorem jC {f:Head}(h:HeadW f){tl:List (Part×List Int)}(T:Tiles f tl){y x:Nat}(hy:y<f.high)(hx:x<f.wide):(fm f.kinds tl y x).length=f.kinds:=by
 obtain ⟨p,hp⟩:=vB T (il h hy hx).2.2;exact (sk h T hy hx rfl hp).2
theorem mj {f:Head}(h:HeadW f){tl:List (Part×List Int)}(T:Tiles f tl){y:Nat}(hy:y<f.high):((List.range f.wide).flatMap λx=>fm f.kinds tl y x).length=f.wide*f.kinds:=by
 rw [ah (n:=f.kinds) λx hx=>jC h T hy (by simpa using hx),List.length_range]
theorem dW {f:Head}(h:HeadW f){tl:List (Part×List Int)}(T:Tiles f tl):(laid f.kinds f.wide f.high tl).length=f.kinds*f.wide*f.high:=by
 rw [vA,ah (n:=f.wide*f.kinds) λy hy=>mj h T (by simpa using hy),List.length_range,Nat.mul_comm f.high,Nat.mul_comm f.wide]
theorem vC {f:Head}(h:HeadW f){tl:List (Part×List Int)}(T:Tiles f tl){y x k:Nat}(hy:y<f.high)(hx:x<f.wide)(hk:k<f.kinds):(laid f.kinds f.wide f.high tl).getD ((y*f.wide+x)*f.kinds+k) 0=(fm f.kinds tl y x).getD k 0:=by
 have e:(y*f.wide+x)*f.kinds+k=y*(f.wide*f.kinds)+(x*f.kinds+k):=by rw [Nat.add_mul,Nat.mul_assoc];omega
 rw [vA,e,aH (n:=f.wide*f.kinds) (a:=y) (λy hy=>mj h T (by simpa using hy)) (by simp [hy]) (by
  have:(x+1)*f.kinds<=f.wide*f.kinds:=Nat.mul_le_mul_right _ hx;rw [Nat.add_mul,Nat.one_mul] at this;omega)]
 exact aH (n:=f.kinds) (a:=x) (λx hx=>jC h T hy (by simpa using hx)) (by simp [hx]) hk
theorem xa {f:Head}(h:HeadW f){tl:List (Part×List Int)}(T:Tiles f tl){t:Nat}{p:Part×List Int} (hp:tl[t]?=some p):cut f.kinds f.wide (laid f.kinds f.wide f.high tl) (f.part t)=p.2:=by
 have htl:t<f.tiles:=by rw [<- T.len];exact (List.getElem?_eq_some_iff.mp hp).1
 obtain ⟨a1,a2⟩:=T.at_ t p hp;have PO:=dN h htl;have ll:=dW h T;have lc:=tT PO ll;have hk:0<f.kinds:=h.kinds.1;rw [a1] at a2;apply List.ext_getElem
 ·rw [lc,a2,Nat.mul_assoc]
 ·intro n h1 h2;rw [lc,Nat.mul_assoc] at h1;have hq:n/f.kinds<(f.part t).w*(f.part t).h:=by rw [Nat.div_lt_iff_lt_mul hk,Nat.mul_comm];exact h1
  have hw:0<(f.part t).w:=PO.w.1;have hj:n/f.kinds/(f.part t).w<(f.part t).h:=by rw [Nat.div_lt_iff_lt_mul hw,Nat.mul_comm];exact hq
  have hi:n/f.kinds % (f.part t).w<(f.part t).w:=Nat.mod_lt _ hw;have hm:n % f.kinds<f.kinds:=Nat.mod_lt _ hk;generalize hJ:n/f.kinds/(f.part t).w=j at *;generalize hI:n/f.kinds % (f.part t).w=i at *;generalize hM:n % f.kinds=k at *;have en:n=j*((f.part t).w*f.kinds)+(i*f.kinds+k):=by
   have b1:=Nat.div_add_mod n f.kinds;have b2:=Nat.div_add_mod (n/f.kinds) (f.part t).w;rw [hJ,hI] at b2;rw [hM] at b1;have b3:f.kinds*(n/f.kinds)=f.kinds*((f.part t).w*j)+f.kinds*i:=by rw [<- b2,Nat.mul_add]
   have b4:f.kinds*((f.part t).w*j)=j*((f.part t).w*f.kinds):=by rw [<- Nat.mul_assoc,Nat.mul_comm,Nat.mul_comm f.kinds]
   rw [Nat.mul_comm i];omega
  have rl:∀y∈List.range (f.part t).h,(((laid f.kinds f.wide f.high tl).drop ((((f.part t).y+y)*f.wide+(f.part t).x)*f.kinds)).take ((f.part t).w*f.kinds)).length=(f.part t).w*f.kinds:=λy hy=>by
   have:=pC (kinds:=f.kinds) PO.x PO.y (by simpa using hy);rw [List.length_take,List.length_drop,ll];omega
  have hik:i*f.kinds+k<(f.part t).w*f.kinds:=by
   have:(i+1)*f.kinds<=(f.part t).w*f.kinds:=Nat.mul_le_mul_right _ hi;rw [Nat.add_mul,Nat.one_mul] at this;omega
  rw [ax,ax h2];unfold cut
  conv=>lhs;rw [en]
  rw [aH (n:=(f.part t).w*f.kinds) (a:=j) rl (by simp [hj]) hik,List.getD_eq_getElem?_getD,List.getElem?_take,if_pos hik,List.getElem?_drop,<- List.getD_eq_getElem?_getD];have ex:(f.part t).x+i<f.wide:=by have:=PO.x;omega
  have ey:(f.part t).y+j<f.high:=by have:=PO.y;omega
  have eix:(((f.part t).y+j)*f.wide+(f.part t).x)*f.kinds+(i*f.kinds+k)=(((f.part t).y+j)*f.wide+((f.part t).x+i))*f.kinds+k:=by
   rw [<- Nat.add_assoc,<- Nat.add_mul,Nat.add_assoc (((f.part t).y+j)*f.wide)]
  rw [eix,vC h T ey ex hm];have hto:t=c5 f ((f.part t).y+j) ((f.part t).x+i):=((mT h htl).mp (by unfold bM;omega)).2.2;obtain ⟨e1,_⟩:=sk h T ey ex hto hp;rw [e1,a1,List.getD_eq_getElem?_getD,List.getElem?_take,if_pos hm,List.getElem?_drop,<- List.getD_eq_getElem?_getD];congr 1;rw [show (f.part t).y+j-(f.part t).y=j by omega,show (f.part t).x+i-(f.part t).x=i by omega,en,Nat.add_mul,Nat.mul_assoc];omega
end TW
namespace TW
open Sp21
theorem so {α β:Type}{g:α->Option β}:∀{l:List α}{r:List β},l.mapM g=some r->r.length=l.length/\∀(i:Nat) a,l[i]?=some a->∃b,g a=some b/\r[i]?=some b
 | [],r,h=>by
  rw [List.mapM_nil] at h;have e:[]=r:=Option.some.inj h;subst e;exact ⟨rfl,λi a z=>by simp at z⟩
 | x::l,r,h=>by
  rw [List.mapM_cons] at h;have h:(g x).bind (λb=>(l.mapM g).bind λbs=>some (b::bs))=some r:=h;obtain ⟨b,h1,h2⟩:=Option.bind_eq_some_iff.mp h;obtain ⟨bs,h3,h4⟩:=Option.bind_eq_some_iff.mp h2;cases h4;obtain ⟨e1,e2⟩:=so h3;refine ⟨by rw [List.length_cons,List.length_cons,e1],λi a z=>?_⟩;cases i with
  | zero =>
   cases z;exact ⟨b,h1,rfl⟩
  | succ i=>exact e2 i a z
theorem su {α β:Type}{g:α->Option β}:∀{l:List α}{r:List β},r.length=l.length->(∀(i:Nat) a,l[i]?=some a->g a=r[i]?)->l.mapM g=some r
 | [],r,h,_=>by
  have:r=[]:=List.eq_nil_of_length_eq_zero h;subst this;rfl
 | x::l,[],h,_=>by cases h
 | x::l,y::r,h,k=>by
  rw [List.mapM_cons];have h0:g x=some y:=k 0 x rfl;have ih:l.mapM g=some r:=su (by simpa using h) λi a z=>k (i+1) a z;show (g x).bind (λb=>(l.mapM g).bind λbs=>some (b::bs))=some (y::r);rw [h0,ih];rfl
theorem vD {α β:Type}{g:α->Option β}:∀{l:List α}{a:α},a∈l->g a=none->l.mapM g=none
 | x::l,a,h,hg=>by
  rw [List.mapM_cons];show (g x).bind (λb=>(l.mapM g).bind λbs=>some (b::bs))=none;rcases List.mem_cons.mp h with rfl | h
  ·rw [hg];rfl
  ·cases g x with
   | none=>rfl
   | some b=>rw [vD h hg];rfl
theorem qV {f:Head}{l:List Bytes}{tl:List (Part×List Int)} (h:readAll f l=some tl):tl.length=f.tiles/\∀t,t<f.tiles->∃n,readTile f l t=some n/\tl[t]?=some (f.part t,n):=by
 obtain ⟨e1,e2⟩:=so h;rw [List.length_range] at e1;refine ⟨e1,λt ht=>?_⟩;obtain ⟨b,h1,h2⟩:=e2 t t (by rw [List.getElem?_range ht]);obtain ⟨n,h3,rfl⟩:=Option.map_eq_some_iff.mp h1;exact ⟨n,h3,h2⟩
theorem tX {f:Head}{l:List Bytes}{tl:List (Part×List Int)} (h1:tl.length=f.tiles) (h2:∀t,t<f.tiles->∃n,readTile f l t=some n/\tl[t]?=some (f.part t,n)):readAll f l=some tl:=by
 refine su (by rw [List.length_range,h1]) λi a z=>?_;have hi:i<f.tiles:=by have:=(List.getElem?_eq_some_iff.mp z).1;rwa [List.length_range] at this
 rw [List.getElem?_range hi] at z;cases z;obtain ⟨n,h3,h4⟩:=h2 i hi;rw [h3,h4];rfl
theorem tY {f:Head}{l:List Bytes}{t:Nat} (ht:t<f.tiles) (h:readTile f l t=none):readAll f l=none :=
 vD (a:=t) (by simpa using ht) (by rw [h];rfl)
theorem im {f:Head}{l:List Bytes}{tl:List (Part×List Int)} (h:readAll f l=some tl):Tiles f tl:=by
 obtain ⟨e1,e2⟩:=qV h;refine ⟨e1,λt p hp=>?_⟩;have ht:t<f.tiles:=by have:=(List.getElem?_eq_some_iff.mp hp).1;omega
 obtain ⟨n,h3,h4⟩:=e2 t ht;rw [h4] at hp;cases hp;exact ⟨rfl,(fj h3).1.1⟩
end TW
namespace TW
open Sp21
def rowOf (kinds wide i:Nat):Nat:=i/kinds/wide
def vE (kinds wide i:Nat):Nat:=i/kinds % wide
def ownOf (f:Head)(i:Nat):Nat:=c5 f (rowOf f.kinds f.wide i) (vE f.kinds f.wide i)
theorem qW {f:Head}(h:HeadW f){i:Nat}(hi:i<f.kinds*f.wide*f.high):rowOf f.kinds f.wide i<f.high/\vE f.kinds f.wide i<f.wide:=by
 have hk:0<f.kinds:=h.kinds.1;have hw:0<f.wide:=h.wide.1;unfold rowOf vE;refine ⟨?_,Nat.mod_lt _ hw⟩;rw [Nat.div_lt_iff_lt_mul hw,Nat.div_lt_iff_lt_mul hk];have:f.kinds*f.wide*f.high=f.high*f.wide*f.kinds:=by rw [Nat.mul_comm f.kinds,Nat.mul_comm (f.wide*f.kinds),Nat.mul_assoc]
 omega
theorem yt {f:Head}(h:HeadW f){i:Nat}(hi:i<f.kinds*f.wide*f.high):ownOf f i<f.tiles :=
 (il h (qW h hi).1 (qW h hi).2).2.2
theorem vF {f:Head}(h:HeadW f){i t:Nat}(hi:i<f.kinds*f.wide*f.high)(ht:t<f.tiles):ownOf f i=t↔bM (f.part t) (rowOf f.kinds f.wide i) (vE f.kinds f.wide i):=by
 rw [mT h ht];have:=qW h hi;constructor
 ·intro e;exact ⟨this.2,this.1,e.symm⟩
 ·intro e;exact e.2.2.symm
theorem row_iff {f:Head}(h:HeadW f){i t j:Nat}(hi:i<f.kinds*f.wide*f.high)(ht:t<f.tiles)(hj:j<(f.part t).h) :
  ((((f.part t).y+j)*f.wide+(f.part t).x)*f.kinds<=i/\i<(((f.part t).y+j)*f.wide+(f.part t).x)*f.kinds+(f.part t).w*f.kinds)↔(ownOf f i=t/\rowOf f.kinds f.wide i=(f.part t).y+j):=by
 have hk:0<f.kinds:=h.kinds.1;have hw:0<f.wide:=h.wide.1;have PO:=dN h ht;have px:=PO.x;rw [vF h hi ht];generalize f.part t=p at *;have e1:((p.y+j)*f.wide+p.x)*f.kinds<=i↔(p.y+j)*f.wide+p.x<=i/f.kinds:=(Nat.le_div_iff_mul_le hk).symm;have e2:i<((p.y+j)*f.wide+p.x)*f.kinds+p.w*f.kinds↔i/f.kinds<(p.y+j)*f.wide+p.x+p.w:=by
  rw [<- Nat.add_mul,Nat.div_lt_iff_lt_mul hk]
 rw [e1,e2];unfold bM rowOf vE;generalize i/f.kinds=q;have dm:=Nat.div_add_mod q f.wide;have ml:=Nat.mod_lt q hw;constructor
 ·rintro ⟨a,b⟩;have hq:q/f.wide=p.y+j:=by
   rw [Nat.div_eq_iff hw];constructor <;> omega
  rw [hq,Nat.mul_comm] at dm;rw [hq];exact ⟨⟨by omega,by omega,by omega,by omega⟩,rfl⟩
 ·rintro ⟨⟨a,b,c,d⟩,e⟩;rw [e,Nat.mul_comm] at dm;exact ⟨by omega,by omega⟩
def layI (f:Head)(fin:List Int)(t j:Nat):List Int:=(List.range fin.length).map λi=>if ownOf f i<t\/(ownOf f i=t/\rowOf f.kinds f.wide i<(f.part t).y+j) then fin.getD i 0 else 0
theorem kK (f:Head)(fin:List Int)(t j:Nat):(layI f fin t j).length=fin.length:=by simp [layI]
theorem tZ {f:Head}{fin:List Int}:layI f fin 0 0=List.replicate fin.length 0:=by
 unfold layI;apply List.ext_getElem
 ·simp
 ·intro i h1 h2;have h0:(f.part 0).y=0:=by
   rw [jB];simp [bE]
  simp [h0]
theorem t5 {f:Head}{fin:List Int}{t j t' j':Nat} (h:∀i,i<fin.length->((ownOf f i<t\/(ownOf f i=t/\rowOf f.kinds f.wide i<(f.part t).y+j))↔(ownOf f i<t'\/(ownOf f i=t'/\rowOf f.kinds f.wide i<(f.part t').y+j')))):layI f fin t j=layI f fin t' j':=by
 unfold layI;apply List.map_congr_left;intro i hi;have:=h i (by simpa using hi);by_cases c:ownOf f i<t\/(ownOf f i=t/\rowOf f.kinds f.wide i<(f.part t).y+j)
 ·rw [if_pos c,if_pos (this.mp c)]
 ·rw [if_neg c,if_neg (λz=>c (this.mpr z))]
theorem vG {f:Head}(h:HeadW f){fin:List Int}(hl:fin.length=f.kinds*f.wide*f.high){t:Nat}(ht:t<f.tiles):layI f fin t (f.part t).h=layI f fin (t+1) 0:=by
 refine t5 λi hi=>?_;rw [hl] at hi;constructor
 ·rintro (a | ⟨a,_⟩)
  ·exact .inl (by omega)
  ·exact .inl (by omega)
 ·rintro (a | ⟨a,b⟩)
  ·rcases Nat.lt_or_ge (ownOf f i) t with c | c
   ·exact .inl c
   ·have e:ownOf f i=t:=by omega
    exact .inr ⟨e,((vF h hi ht).mp e).2.2.2⟩
  ·have:=yt h hi;have:=((vF h hi (by omega)).mp a).2.2.1;omega
theorem xb {f:Head}(h:HeadW f){fin:List Int}(hl:fin.length=f.kinds*f.wide*f.high):layI f fin f.tiles 0=fin:=by
 unfold layI;apply List.ext_getElem
 ·simp
 ·intro i h1 h2;rw [List.getElem_map,List.getElem_range,if_pos (.inl (yt h (by omega))),ax h2]
theorem vH {xs ys:List Int}{lo len:Nat} (hl:xs.length=ys.length) (h:lo+len<=ys.length):xs.take lo++(ys.drop lo).take len++xs.drop (lo+len)=(List.range ys.length).map λi=>if lo<=i/\i<lo+len then ys.getD i 0 else xs.getD i 0:=by
 apply List.ext_getElem
 ·simp;omega
 ·intro i h1 h2;have hi:i<ys.length:=by simpa using h2
  rw [List.getElem_map,List.getElem_range];have l1:(xs.take lo).length=lo:=by rw [List.length_take];omega
  have l2:((ys.drop lo).take len).length=len:=by rw [List.length_take,List.length_drop];omega
  by_cases a:i<lo
  ·rw [if_neg (by omega),List.getElem_append_left (by rw [List.length_append,l1];omega),List.getElem_append_left (by omega),List.getElem_take,ax (by omega)]
  ·by_cases b:i<lo+len
   ·rw [if_pos ⟨by omega,b⟩,List.getElem_append_left (by rw [List.length_append,l1,l2];omega),List.getElem_append_right (by omega),List.getElem_take,List.getElem_drop,ax (by omega)];congr 1;omega
   ·rw [if_neg (by omega),List.getElem_append_right (by rw [List.length_append,l1,l2];omega),List.getElem_drop,ax (by rw [List.length_append,l1,l2];omega)];congr 1;rw [List.length_append,l1,l2];omega
theorem xc {f:Head}(h:HeadW f){fin:List Int}(hl:fin.length=f.kinds*f.wide*f.high){t j:Nat}(ht:t<f.tiles)(hj:j<(f.part t).h) :
  (layI f fin t j).take ((((f.part t).y+j)*f.wide+(f.part t).x)*f.kinds)++(fin.drop ((((f.part t).y+j)*f.wide+(f.part t).x)*f.kinds)).take ((f.part t).w*f.kinds)++(layI f fin t j).drop ((((f.part t).y+j)*f.wide+(f.part t).x)*f.kinds+(f.part t).w*f.kinds)=layI f fin t (j+1):=by
 have PO:=dN h ht;have hin:=pC (kinds:=f.kinds) PO.x PO.y hj;rw [vH (kK _ _ _ _) (by rw [hl];exact hin)]
 conv=>rhs;unfold layI
 apply List.map_congr_left;intro i hi;have hi:i<fin.length:=by simpa using hi
 have hr:=row_iff h (hl▸hi) ht hj;have eg:(layI f fin t j).getD i 0=if ownOf f i<t\/(ownOf f i=t/\rowOf f.kinds f.wide i<(f.part t).y+j) then fin.getD i 0 else 0:=by
  unfold layI;rw [List.getD_eq_getElem?_getD,List.getElem?_map,List.getElem?_range hi];rfl
 rw [eg];by_cases c:(((f.part t).y+j)*f.wide+(f.part t).x)*f.kinds<=i/\i<(((f.part t).y+j)*f.wide+(f.part t).x)*f.kinds+(f.part t).w*f.kinds
 ·have:=hr.mp c;rw [if_pos c,if_pos (.inr ⟨this.1,by omega⟩)]
 ·rw [if_neg c];have nr:=λz=>c (hr.mpr z);by_cases d:ownOf f i<t\/(ownOf f i=t/\rowOf f.kinds f.wide i<(f.part t).y+j)
  ·rw [if_pos d,if_pos (by rcases d with d | d;exact .inl d;exact .inr ⟨d.1,by omega⟩)]
  ·rw [if_neg d,if_neg (by
    rintro (z | ⟨z,y⟩)
    ·exact d (.inl z)
    ·rcases Nat.lt_or_ge (rowOf f.kinds f.wide i) ((f.part t).y+j) with q | q
     ·exact d (.inr ⟨z,q⟩)
     ·exact nr ⟨z,by omega⟩)]
theorem mU {g:Nat->List Int}{n:Nat}:∀{m j:Nat},(∀y,y<m->(g y).length=n)->j<m->(((List.range m).flatMap g).drop (j*n)).take n=g j:=by
 intro m j hg hj;have e:List.range m=List.range j++(j::(List.range (m-j-1)).map (·+(j+1))):=by
  apply List.ext_getElem
  ·simp;omega
  ·intro i h1 h2;rw [List.getElem_range];by_cases a:i<j
   ·rw [List.getElem_append_left (by simpa using a),List.getElem_range]
   ·rw [List.getElem_append_right (by simpa using Nat.le_of_not_lt a)];simp only [List.length_range];by_cases b:i=j
    ·subst b;simp
    ·obtain ⟨k,hk⟩:∃k,i-j=k+1:=⟨i-j-1,by omega⟩
     simp only [hk,List.getElem_cons_succ,List.getElem_map,List.getElem_range];omega
 have lj:((List.range j).flatMap g).length=j*n:=by
  rw [ah (n:=n) λa ha=>hg a (by have:=List.mem_range.mp ha;omega),List.length_range]
 rw [e,List.flatMap_append,List.flatMap_cons,List.drop_left' lj,List.take_left' (hg j hj)]
theorem xf {f:Head}(h:HeadW f){tl:List (Part×List Int)}(T:Tiles f tl){t j:Nat}{p:Part×List Int} (hp:tl[t]?=some p) (hj:j<(f.part t).h) :
  (p.2.drop (j*((f.part t).w*f.kinds))).take ((f.part t).w*f.kinds)=((laid f.kinds f.wide f.high tl).drop ((((f.part t).y+j)*f.wide+(f.part t).x)*f.kinds)).take ((f.part t).w*f.kinds):=by
 have ht:t<f.tiles:=by rw [<- T.len];exact (List.getElem?_eq_some_iff.mp hp).1
 have PO:=dN h ht;have ll:=dW h T;rw [<- xa h T hp];unfold cut;rw [mU (n:=(f.part t).w*f.kinds) (λy hy=>?_) hj];have hin:=pC (kinds:=f.kinds) PO.x PO.y hy;rw [List.length_take,List.length_drop,ll];omega
end TW
namespace TW
open Sp21
theorem vI:∀(k w h:Nat),last k w h=(upTimes k w,upTimes k h)
 | 0,_,_=>rfl
 | k+1,w,h=>vI k (up w) (up h)
theorem cT:∀(k:Nat) {n:Nat},0<n->0<upTimes k n
 | 0,_,h=>h
 | k+1,_,h=>cT k (up_pos h)
theorem cc:∀(k:Nat) {n:Nat},0<n->upTimes k n<=n
 | 0,_,_=>Nat.le_refl _
 | k+1,_,h=>Nat.le_trans (cc k (up_pos h)) (up_le h)
theorem yX {a b:Nat}(h:a<=b):up a<=up b:=by
 unfold up;omega
theorem jD:∀(k:Nat) {a b:Nat},a<=b->upTimes k a<=upTimes k b
 | 0,_,_,h=>h
 | k+1,_,_,h=>jD k (yX h)
theorem jE:∀(k n:Nat),upTimes (k+1) n=up (upTimes k n)
 | 0,_=>rfl
 | k+1,n=>jE k (up n)
theorem cf:∀(k e:Nat),upTimes k (2 ^ e)=2 ^ (e-k)
 | 0,_=>rfl
 | k+1,0=>by
  show upTimes k (up 1)=_;have:=cf k 0;simpa [up] using this
 | k+1,e+1=>by
  have u:up (2 ^ (e+1))=2 ^ e:=by
   unfold up;rw [Nat.pow_succ];omega
  show upTimes k (up (2 ^ (e+1)))=_;rw [u,cf k e,Nat.add_sub_add_right]
def smallPlane (l w h:Nat)(p:List Int):List Int:=(tileBands l (cutRows p w h) w h).getD 0 []
theorem t6 (k w h:Nat):(bands k w h).head?=some ⟨0,0,(last k w h).1,(last k w h).2⟩:=rfl
theorem io {l w h:Nat}{p:List Int} (hp:p.length=w*h) (hw:0<w) (hh:0<h):smallPlane l w h p=(((forward l w h (cutRows p w h)).take (upTimes l h)).map λr=>r.take (upTimes l w)).flatten:=by
 have R:=Rect.cutRows hp;unfold smallPlane;rw [<- mQ l R hw hh,List.getD_eq_getElem?_getD,<- List.head?_eq_getElem?,List.head?_map,t6,vI];rfl
theorem mn {l w h:Nat}{g:Grid} (R:Rect g w h) (hw:0<w) (hh:0<h):Rect (((forward l w h g).take (upTimes l h)).map λr=>r.take (upTimes l w)) (upTimes l w) (upTimes l h) :=
 (R.forward l hw hh).sub (cc l hw) (cc l hh)
theorem dA {l w h:Nat}{p:List Int} (hp:p.length=w*h) (hw:0<w) (hh:0<h):(smallPlane l w h p).length=upTimes l w*upTimes l h:=by
 rw [io hp hw hh,flatten_rect (mn (Rect.cutRows hp) hw hh)]
def vJ (z:Int):Int:=max 0 (min 65535 z)
def smallNumbers (kinds w h l:Nat)(x:List Int):List Int:=(weave kinds (upTimes l w*upTimes l h) (unmixed ((mixed (planes kinds (w*h) x)).map (smallPlane l w h)))).map vJ
theorem pG {kinds w h:Nat}(l:Nat){x:List Int}(hk:0<kinds)(hw:0<w)(hh:0<h):smallTile kinds w h l x=smallNumbers kinds w h l x:=by
 have lm:=mixed_length (l:=planes kinds (w*h) x) planes_length;unfold smallTile smallNumbers;dsimp only;rw [si,show (List.range kinds).map (λk=>pq x kinds (w*h) k)=planes kinds (w*h) x from rfl,vq planes_length];have e:((mixed (planes kinds (w*h) x)).map λp=>cutRows p w h).map (λg=>((forward l w h g).take (upTimes l h)).map λr=>r.take (upTimes l w))=((mixed (planes kinds (w*h) x)).map (smallPlane l w h)).map λp=>cutRows p (upTimes l w) (upTimes l h):=by
  rw [List.map_map,List.map_map];refine List.map_congr_left λp hp=>?_;show ((forward l w h (cutRows p w h)).take (upTimes l h)).map (λr=>r.take (upTimes l w))=cutRows (smallPlane l w h p) (upTimes l w) (upTimes l h);rw [io (lm p hp) hw hh,bh (mn (Rect.cutRows (lm p hp)) hw hh)]
 have ls:∀p∈(mixed (planes kinds (w*h) x)).map (smallPlane l w h),p.length=upTimes l w*upTimes l h:=by
  intro p hp;obtain ⟨q,hq,rfl⟩:=List.mem_map.mp hp;exact dA (lm q hq) hw hh
 rw [e,pz ls,kH hk (dj ls)];rfl
theorem gK (kinds w h l:Nat)(x:List Int):(smallNumbers kinds w h l x).length=kinds*(upTimes l w*upTimes l h):=by
 unfold smallNumbers;rw [List.length_map,weave_length]
def cutN (S n i:Nat):Nat:=min S (n-i*S)
def smallN (l S n:Nat):Nat:=((n+S-1)/S-1)*upTimes l S+upTimes l (cutN S n ((n+S-1)/S-1))
structure Dim (l S n:Nat):Prop where
 sum:((List.range ((n+S-1)/S)).map λi=>upTimes l (cutN S n i)).sum=smallN l S n
 take:∀i,i<(n+S-1)/S->(((List.range ((n+S-1)/S)).map λi=>upTimes l (cutN S n i)).take i).sum=i*upTimes l S
 ceil:(smallN l S n+upTimes l S-1)/upTimes l S=(n+S-1)/S
 cut:∀i,i<(n+S-1)/S->cutN (upTimes l S) (smallN l S n) i=upTimes l (cutN S n i)
 pos:1<=smallN l S n
 le:smallN l S n<=n
theorem kL {g:Nat->Nat}{s:Nat}:∀{m:Nat},(∀i,i<m->g i=s)->((List.range m).map g).sum=m*s
 | 0,_=>by simp
 | m+1,h=>by
  rw [List.range_succ,List.map_append,List.sum_append,kL λi hi=>h i (by omega),List.map_singleton,List.sum_singleton,h m (by omega),Nat.add_mul,Nat.one_mul]
theorem dim (l:Nat){S n:Nat}(hS:0<S)(hn:0<n):Dim l S n:=by
 obtain ⟨c0,c1⟩:=aZ hS hn;have c2:=jP (n:=n) hS;obtain ⟨m,hm⟩:∃m,(n+S-1)/S=m+1:=⟨(n+S-1)/S-1,by omega⟩
 have hs:=cT l hS;have full:∀i,i<m->cutN S n i=S:=λi hi=>by
  have:=c1 (i+1) (by omega);rw [Nat.add_mul,Nat.one_mul] at this;unfold cutN;omega
 have hl:=c1 m (by omega);rw [hm,Nat.add_mul,Nat.one_mul] at c2;have lp:0<cutN S n m:=by unfold cutN;omega
 have ls:cutN S n m<=S:=by unfold cutN;omega
 have le:cutN S n m=n-m*S:=by unfold cutN;omega
 have up1:=cT l lp;have up2:=jD l ls;have up3:=cc l lp;have us:=cc l hS;have en:smallN l S n=m*upTimes l S+upTimes l (cutN S n m):=by
  unfold smallN;rw [hm,Nat.add_sub_cancel]
 have fw:∀i,i<m->upTimes l (cutN S n i)=upTimes l S:=λi hi=>by rw [full i hi]
 have hms:m*upTimes l S<=m*S:=Nat.mul_le_mul_left m us;refine ⟨?_,λi hi=>?_,?_,λi hi=>?_,by omega,by omega⟩
 ·rw [hm,List.range_succ,List.map_append,List.sum_append,kL fw,List.map_singleton,List.sum_singleton,en]
 ·rw [<- List.map_take,List.take_range,Nat.min_eq_left (by omega),kL λj hj=>fw j (by omega)]
 ·rw [hm,en,Nat.div_eq_iff hs,Nat.add_mul,Nat.one_mul];constructor <;> omega
 ·rw [en];rcases Nat.lt_or_ge i m with h | h
  ·rw [full i h];have:=Nat.mul_le_mul_right (upTimes l S) (show i+1<=m from h);rw [Nat.add_mul,Nat.one_mul] at this;unfold cutN;omega
  ·have e:i=m:=by omega
   subst e;unfold cutN at up1 up2 ⊢;omega
def smallHead (f:Head)(l:Nat):Head:=⟨f.kinds,smallN l (2 ^ f.e) f.wide,smallN l (2 ^ f.e) f.high,f.e-l,f.levels⟩
section
variable {f:Head}{l:Nat}
theorem fM (h:HeadW f):Dim l (2 ^ f.e) f.wide/\Dim l (2 ^ f.e) f.high :=
 ⟨dim l (by have:=aG h;omega) h.wide.1,dim l (by have:=aG h;omega) h.high.1⟩
theorem jF (h:HeadW f):HeadW (smallHead f l):=by
 obtain ⟨d1,d2⟩:=fM (l:=l) h;have:=d1.le;have:=d2.le;have h1:=h.wide;have h2:=h.high;have h3:=h.e;exact ⟨h.kinds,⟨d1.pos,by show smallN _ _ _<=_;omega⟩,⟨d2.pos,by show smallN _ _ _<=_;omega⟩,by show f.e-l<=8;omega⟩
theorem cv (h:HeadW f):(smallHead f l).across=f.across/\(smallHead f l).down=f.down:=by
 obtain ⟨d1,d2⟩:=fM (l:=l) h;have e1:=d1.ceil;have e2:=d2.ceil;rw [cf] at e1 e2;exact ⟨e1,e2⟩
theorem ja (h:HeadW f){t:Nat}(ht:t<f.tiles):(smallHead f l).part t=⟨t % f.across*2 ^ (f.e-l),t/f.across*2 ^ (f.e-l),upTimes l (f.part t).w,upTimes l (f.part t).h⟩:=by
 obtain ⟨d1,d2⟩:=fM (l:=l) h;obtain ⟨q1,q2⟩:=qU h ht;have e1:=d1.cut _ q1;have e2:=d2.cut _ q2;rw [cf] at e1 e2;show (⟨t % (smallHead f l).across*2 ^ (f.e-l),t/(smallHead f l).across*2 ^ (f.e-l),cutN (2 ^ (f.e-l)) (smallN l (2 ^ f.e) f.wide) (t % (smallHead f l).across),cutN (2 ^ (f.e-l)) (smallN l (2 ^ f.e) f.high) (t/(smallHead f l).across)⟩:Part)=_;rw [(cv h).1,e1,e2];rfl
def smallTiles (f:Head)(l:Nat)(tl:List (Part×List Int)):List (Part×List Int):=(tl.zip (List.range tl.length)).map λt=>((smallHead f l).part t.2,smallNumbers f.kinds t.1.1.w t.1.1.h l t.1.2)
theorem gj {tl:List (Part×List Int)}{t:Nat}{p:Part×List Int} (hp:tl[t]?=some p):(smallTiles f l tl)[t]?=some ((smallHead f l).part t,smallNumbers f.kinds p.1.w p.1.h l p.2):=by
 have ht:=(List.getElem?_eq_some_iff.mp hp).1;unfold smallTiles;rw [List.getElem?_map,show (tl.zip (List.range tl.length))[t]?=some (p,t) from List.getElem?_zip_eq_some.mpr ⟨hp,List.getElem?_range ht⟩];rfl
theorem ip (h:HeadW f){tl:List (Part×List Int)}(T:Tiles f tl):Tiles (smallHead f l) (smallTiles f l tl):=by
 have hlen:(smallTiles f l tl).length=f.tiles:=by simp [smallTiles,T.len]
 refine ⟨?_,λt p hp=>?_⟩
 ·rw [hlen];unfold Sp21.Head.tiles;rw [(cv h).1,(cv h).2]
 ·have ht:t<f.tiles:=by have:=(List.getElem?_eq_some_iff.mp hp).1;omega
  have htl:t<tl.length:=by rw [T.len];exact ht
  have e:=gj (f:=f) (l:=l) (List.getElem?_eq_getElem htl);rw [e] at hp;cases hp;refine ⟨rfl,?_⟩;obtain ⟨k1,k2⟩:=T.at_ _ _ (List.getElem?_eq_getElem htl);dsimp only;rw [gK,ja h ht,k1];rfl
theorem mV (h:HeadW f){tl:List (Part×List Int)}(T:Tiles f tl):smallSheet f l tl=⟨f.kinds,(smallHead f l).wide,(smallHead f l).high,laid f.kinds (smallHead f l).wide (smallHead f l).high (smallTiles f l tl)⟩:=by
 obtain ⟨d1,d2⟩:=fM (l:=l) h;have ew:(List.range f.across).map (λi=>upTimes l (f.part i).w)=(List.range f.across).map λi=>upTimes l (cutN (2 ^ f.e) f.wide i):=by
  refine List.map_congr_left λi hi=>?_;have hi:i<f.across:=by simpa using hi
  show upTimes l (cutN (2 ^ f.e) f.wide (i % f.across))=_;rw [Nat.mod_eq_of_lt hi]
 have eh:(List.range f.down).map (λj=>upTimes l (f.part (j*f.across)).h)=(List.range f.down).map λi=>upTimes l (cutN (2 ^ f.e) f.high i):=by
  refine List.map_congr_left λi hi=>?_;show upTimes l (cutN (2 ^ f.e) f.high (i*f.across/f.across))=_;rw [Nat.mul_div_cancel _ (bZ h)]
 unfold smallSheet;dsimp only;rw [ew,eh];have e1:((List.range f.across).map λi=>upTimes l (cutN (2 ^ f.e) f.wide i)).sum=(smallHead f l).wide:=d1.sum;have e2:((List.range f.down).map λi=>upTimes l (cutN (2 ^ f.e) f.high i)).sum=(smallHead f l).high:=d2.sum;have e3:(tl.zip (List.range tl.length)).map (λ(t:(Part×List Int)×Nat)=>((⟨(((List.range f.across).map λi=>upTimes l (cutN (2 ^ f.e) f.wide i)).take (t.2 % f.across)).sum,(((List.range f.down).map λi=>upTimes l (cutN (2 ^ f.e) f.high i)).take (t.2/f.across)).sum,((List.range f.across).map λi=>upTimes l (cutN (2 ^ f.e) f.wide i)).getD (t.2 % f.across) 0,((List.range f.down).map λi=>upTimes l (cutN (2 ^ f.e) f.high i)).getD (t.2/f.across) 0⟩:Part),smallTile f.kinds t.1.1.w t.1.1.h l t.1.2))=smallTiles f l tl:=by
  unfold smallTiles;refine List.map_congr_left λt ht=>?_;obtain ⟨⟨p,x⟩,i⟩:=t;obtain ⟨j,hj⟩:=List.mem_iff_getElem?.mp ht;obtain ⟨a1,a2⟩:=List.getElem?_zip_eq_some.mp hj;have hjl:=(List.getElem?_eq_some_iff.mp a1).1;rw [List.getElem?_range hjl] at a2;obtain rfl:j=i:=Option.some.inj a2;have hi:j<f.tiles:=by rw [<- T.len];exact hjl
  obtain ⟨q1,q2⟩:=qU h hi;obtain ⟨k1,k2⟩:=T.at_ _ _ a1;have P:=dN h hi;dsimp only at k1 ⊢;have t1:=d1.take _ q1;have t2:=d2.take _ q2;rw [cf] at t1 t2;have g1:((List.range f.across).map λi=>upTimes l (cutN (2 ^ f.e) f.wide i)).getD (j % f.across) 0=upTimes l (f.part j).w:=by
   rw [List.getD_eq_getElem?_getD,List.getElem?_map,List.getElem?_range q1];rfl
  have g2:((List.range f.down).map λi=>upTimes l (cutN (2 ^ f.e) f.high i)).getD (j/f.across) 0=upTimes l (f.part j).h:=by
   rw [List.getD_eq_getElem?_getD,List.getElem?_map,List.getElem?_range q2];rfl
  have sp:=ja (l:=l) h hi;rw [g1,g2,k1,pG l h.kinds.1 P.w.1 P.h.1,sp];congr 2
 rw [e1,e2,e3]
end
theorem yY {a d:Nat}(ha:0<a)(hd:0<d):(a*d-1) % a=a-1/\(a*d-1)/a=d-1:=by
 obtain ⟨m,rfl⟩:∃m,d=m+1:=⟨d-1,by omega⟩
 have e:a*(m+1)-1=a*m+(a-1):=by rw [Nat.mul_add,Nat.mul_one];omega
 rw [e,Nat.mul_add_mod,Nat.mod_eq_of_lt (by omega),Nat.mul_add_div ha,Nat.div_eq_of_lt (by omega)];exact ⟨rfl,rfl⟩
theorem pH {S n:Nat}(hS:0<S)(hn:0<n):((n+S-1)/S-1)*S+min S (n-((n+S-1)/S-1)*S)=n:=by
 obtain ⟨c0,c1⟩:=aZ hS hn;have c2:=jP (n:=n) hS;obtain ⟨m,hm⟩:∃m,(n+S-1)/S=m+1:=⟨(n+S-1)/S-1,by omega⟩
 have:=c1 m (by omega);rw [hm] at c2 ⊢;rw [Nat.add_mul,Nat.one_mul] at c2;rw [Nat.add_sub_cancel];omega
theorem vK {f:Head}(h:HeadW f):(f.part (f.tiles-1)).x+(f.part (f.tiles-1)).w=f.wide/\(f.part (f.tiles-1)).y+(f.part (f.tiles-1)).h=f.high:=by
 obtain ⟨e1,e2⟩:=yY (bZ h) (sj h);have hs:=aG h;show (f.across*f.down-1) % f.across*2 ^ f.e+min (2 ^ f.e) (f.wide-(f.across*f.down-1) % f.across*2 ^ f.e)=_/\(f.across*f.down-1)/f.across*2 ^ f.e+min (2 ^ f.e) (f.high-(f.across*f.down-1)/f.across*2 ^ f.e)=_;rw [e1,e2];exact ⟨pH (by omega) h.wide.1,pH (by omega) h.high.1⟩
theorem qX {f:Head}{l:Nat} (h:HeadW f):(smallHead f l).tiles=f.tiles:=by
 unfold Sp21.Head.tiles;rw [(cv h).1,(cv h).2]
end TW
namespace TW
open PySem PySem.Spec PyProof.Rows L2
theorem vL {X:Cx}{st:Stmt}{t:TS} (h:X.A.frames=some X.stack->PS X st t):PS X st t:=λpins s σ H D I hw=>h I.ok.frames pins s σ H D I hw
theorem mW {K:W.Frag}{a:Addr}{xs:List V}{g:TG}{tb:TS}{D:Ends}{σ:L2.St}{H:Hp} (Pv:Nat->L2.St->Hp->Prop) (h0:Pv 0 σ H) (hl:∀i σ H,i<=xs.length->Pv i σ H->SqL K H a xs)
  (hs:∀i x T σ H,xs[i]?=some x->H T=none->Pv i σ H->g (.ref T) σ (upd H T (.tup [.int (i:Nat),x])) λσ2 H2=>tb { D with nx:=Pv (i+1),ct:=Pv (i+1),bk:=D.nx } σ2 H2) (hd:∀σ H,Pv xs.length σ H->D.nx σ H) :
  forW (Ite K a) g tb D σ H:=by
 refine ⟨λi m σ H=>m=xs.length-i/\i<=xs.length/\Pv i σ H,⟨xs.length,by simp,Nat.zero_le _,h0⟩,?_⟩;rintro i m σ H ⟨rfl,hi,p⟩;have q:=hl i σ H hi p;by_cases hlt:i<xs.length
 ·refine .inr ⟨⟨xs,xs[i],q,by simp [hlt]⟩,Pv (i+1),λσ' H' p'=>⟨xs.length-(i+1),by omega,rfl,hlt,p'⟩,λx H' y=>?_⟩;obtain ⟨T,x1,rfl,hT,rfl,e1⟩:=y;exact hs i x1 T σ H (e1 xs q) hT p
 ·have e:i=xs.length:=by omega
  subst e;exact .inl ⟨⟨xs,q,Nat.le_refl _⟩,hd σ H p⟩
theorem yZ {K:W.Frag}{a b:Addr}{xs ys:List V}{g:TG}{tb:TS}{D:Ends}{σ:L2.St}{H:Hp} (Pv:Nat->L2.St->Hp->Prop) (h0:Pv 0 σ H) (hl:∀i σ H,i<=min xs.length ys.length->Pv i σ H->SqL K H a xs/\SqL K H b ys)
  (hs:∀i x y T σ H,xs[i]?=some x->ys[i]?=some y->H T=none->Pv i σ H->g (.ref T) σ (upd H T (.tup [x,y])) λσ2 H2=>tb { D with nx:=Pv (i+1),ct:=Pv (i+1),bk:=D.nx } σ2 H2) (hd:∀σ H,Pv (min xs.length ys.length) σ H->D.nx σ H) :
  forW (Itz K a b) g tb D σ H:=by
 refine ⟨λi m σ H=>m=min xs.length ys.length-i/\i<=min xs.length ys.length/\Pv i σ H,⟨min xs.length ys.length,by simp,Nat.zero_le _,h0⟩,?_⟩;rintro i m σ H ⟨rfl,hi,p⟩;obtain ⟨q1,q2⟩:=hl i σ H hi p;by_cases hlt:i<min xs.length ys.length
 ·have hx:i<xs.length:=by omega
  have hy:i<ys.length:=by omega
  refine .inr ⟨⟨xs,ys,xs[i],ys[i],q1,q2,by simp [hx],by simp [hy]⟩,Pv (i+1),λσ' H' p'=>⟨min xs.length ys.length-(i+1),by omega,rfl,hlt,p'⟩,λx H' y=>?_⟩;obtain ⟨T,x1,y1,rfl,hT,rfl,e1,e2⟩:=y;exact hs i x1 y1 T σ H (e1 xs q1) (e2 ys q2) hT p
 ·have e:i=min xs.length ys.length:=by omega
  subst e;exact .inl ⟨⟨xs,ys,q1,q2,by omega⟩,hd σ H p⟩
theorem pI {lo:Int}{n:Nat}{g:TG}{te:TE}{ws:List Nat}{σ:L2.St}{H1:Hp}{D:Addr}{Qd:Hp->Prop} (F:Nat->Int) (hD:H1 D=none) (hz:n<=sizeLine)
  (hs:∀(i:Nat) (H:Hp) (Q':VK),i<n->Same H1 H->(∀H4,Same H H4->Q' (.int (F i)) H4)->g (.int (lo+i)) (wipe σ ws) H λσ2 H2=>wipe σ2 ws=wipe σ ws/\te σ2 H2 Q')
  (hd:∀H,Same H1 H->H D=some (.lst (((List.range n).map F).map V.int))->Qd H) :
  lcW (Itr lo n) g tYes te ws σ D Qd H1:=by
 refine mG (AtTurn D H1 (jt F)) (AtTurn.start hD) (λi H hi A=>?_) (λH A=>?_)
 ·rw [ju];exact hs i H _ hi A.same λH4 s4=>A.next hD (cQ D _) s4 (by omega) rfl
 ·obtain ⟨acc,h1,h2,h3⟩:=A.acc;refine hd H A.same ?_;rw [h1,r9 h2 h3]
theorem sv {K:W.Frag}{a:Addr}{us:List Int}{g:TG}{te:TE}{ws:List Nat}{σ:L2.St}{H1:Hp}{D:Addr}{Qd:Hp->Prop} (F:Int->Int) (hD:H1 D=none) (hx:SqL K H1 a (us.map V.int)) (hz:us.length<=sizeLine)
  (hs:∀(i:Nat) (u:Int) (H:Hp) (Q':VK),us[i]?=some u->Same H1 H->(∀H4,Same H H4->Q' (.int (F u)) H4)->g (.int u) (wipe σ ws) H λσ2 H2=>wipe σ2 ws=wipe σ ws/\te σ2 H2 Q')
  (hd:∀H,Same H1 H->H D=some (.lst ((us.map F).map V.int))->Qd H) :
  lcW (Itl K a) g tYes te ws σ D Qd H1:=by
 refine mH (xs:=us.map V.int) (AtTurn D H1 (jt λi=>(us.map F).getD i 0)) (AtTurn.start hD) (λi H _ A=>A.same.seq hx) (λi x H ex A=>?_) (λH A=>?_)
 ·obtain ⟨u,eu,rfl⟩:=cA ex;rw [ju];refine hs i u H _ eu A.same λH4 s4=>A.next hD (cQ D _) s4 (by have:=(List.getElem?_eq_some_iff.mp eu).1;omega) ?_;show V.int _=V.int _;dsimp only;rw [List.getD_eq_getElem?_getD,List.getElem?_map,eu];rfl
 ·refine hd H A.same (AtTurn.ints (D:=D) (H1:=H1) ?_);rw [List.length_map];simpa using A
theorem aL {f:Str}{y:V}{fs:List (Str×V)}{k:Nat} (h:fs.length<=k):(putF f y fs).length<=k+1:=by
 have:=length_putF f y fs;omega
theorem bP {fs:List (Str×V)}{k:Nat} (h:fs.length<=k) (hk:k<1000:=by decide):fs.length<1000:=by omega
inductive ListOf {α:Type}(R:Hp->Addr->α->Prop)(H:Hp)(a:Addr)(l:List α):Prop
 | mk (refs:List Addr):(H a=some (.lst (refs.map V.ref)))->(refs.length=l.length)->((∀r∈refs,r≠a))->(∀(i:Nat) (r:Addr) (x:α),refs[i]?=some r->l[i]?=some x->R H r x)->ListOf R H a l
theorem ListOf.nil {α:Type}{R:Hp->Addr->α->Prop}{H:Hp}{a:Addr} (h:H a=some (.lst [])):ListOf R H a []:=⟨[],h,rfl,(λr z=>nomatch z),λi r x e _=>by simp at e⟩
theorem ListOf.same {α:Type}{R:Hp->Addr->α->Prop} (st:∀H H' r x,Same H H'->R H r x->R H' r x) {H H':Hp}{a:Addr}{l:List α} (h:ListOf R H a l) (s:Same H H'):ListOf R H' a l:=by
 obtain ⟨refs,h1,h2,h0,h3⟩:=h;exact ⟨refs,s _ _ h1,h2,h0,λi r x e1 e2=>st _ _ _ _ s (h3 i r x e1 e2)⟩
theorem ListOf.snoc {α:Type}{R:Hp->Addr->α->Prop}{H H1:Hp}{a p:Addr}{l:List α}{x:α} (h:ListOf R H a l) (s:Same H H1) (stX:∀r y o,r≠a->R H1 r y->R (upd H1 a o) r y) (st:∀r y,R H r y->R H1 r y) (hpa:p≠a) (hp:R H1 p x) :
  ∃refs:List Addr,H1 a=some (.lst (refs.map V.ref))/\refs.length=l.length/\ListOf R (upd H1 a (.lst (refs.map V.ref++[V.ref p]))) a (l++[x]):=by
 obtain ⟨refs,h1,h2,h0,h3⟩:=h;have all:∀r∈refs++[p],r≠a:=λr hr=>by
  rcases List.mem_append.mp hr with z | z
  ·exact h0 r z
  ·rw [List.mem_singleton.mp z];exact hpa
 refine ⟨refs,s _ _ h1,h2,refs++[p],?_,by rw [List.length_append,List.length_append,h2];rfl,all,λi r y e1 e2=>stX _ _ _ (all r (List.mem_of_getElem? e1)) ?_⟩
 ·rw [upd_same,List.map_append];rfl
 ·by_cases hi:i<refs.length
  ·rw [List.getElem?_append_left hi] at e1;rw [List.getElem?_append_left (by omega)] at e2;exact st _ _ (h3 i r y e1 e2)
  ·rw [List.getElem?_append_right (by omega)] at e1;rw [List.getElem?_append_right (by omega)] at e2;rw [h2] at e1;have e0:i-l.length=0:=by
    rcases Nat.eq_zero_or_pos (i-l.length) with z | z
    ·exact z
    ·rw [List.getElem?_eq_none (by simp;omega)] at e1;cases e1
   rw [e0] at e1 e2;cases e1;cases e2;exact hp
structure ClsIn (K:W.Frag)(mg:Str->Option Value)(x:Str)(C:Addr):Prop where
 cl:Cls K C
 mg:mg x=some (.ref C)
 makes:W.makesIn K C=true
 kp:W.keepIn K (.ref C)=true
inductive bW (K:W.Frag)(C:Addr)(m q:Str)(st:Stmt):Prop
 | mk (f fd):(Fun K m q st f fd)->(Meth K C m f)->bW K C m q st
inductive OkM (P:Program)(w:World)(K:W.Frag)(mg:Str->Option Value)(base:Heap)(CX:CXT)(k:Nat)(C:Addr)(m:Str)(ps:List Str)(sp:Sp):Prop
 | mk (f fd):(Meth K C m f)->(ka K fd ps [])->(FnOk P w K mg base CX k f fd ps sp)->OkM P w K mg base CX k C m ps sp
section
variable {P:Program}{w:World}{K:W.Frag}{mg:Str->Option Value}{base:Heap}
theorem bW.ok {C:Addr}{m qn:Str}{st:Stmt}{N ps:List Str}{k:Nat}{sp:Sp} (D:bW K C m qn st) (S:FnScope N ps (ae st))
  (hbody:∀(f:Addr) (cdv:Value) (A:Around) (outer:List Env) (s:Shared) (H:Hp) (vs:List V) (Q:VK) (E:XK),Room k (A.deeper (envOfC qn (ae st) s.heap.objs.size f cdv))->sp vs H Q E ->
   ∃t,PSs (cxOf CX0 P w K mg base N qn (ae st) f cdv A outer s H E).nox (bG st) t/\t { nx:=λ_ H'=>Q .non H',rt:=Q } (start N vs) H)
  (hb:∀(kV doc pm:Value) (an:Option Addr) (cdv ct:Value) (us:List Value),us.length=ps.length->bindArgs (W.fnOf m qn (dJ st) (bG st) (ae st) .none kV doc pm an cdv ct) ⟨us,[]⟩=pure (ps.zip us):=by first | exact λ_ _ _ _ _ _=>TW.us1 λ_=>rfl | exact λ_ _ _ _ _ _=>TW.us2 λ_ _=>rfl | exact λ_ _ _ _ _ _=>TW.us3 λ_ _ _=>rfl | exact λ_ _ _ _ _ _=>TW.us5 λ_ _ _ _ _=>rfl | exact λ_ _ _ _ _ _=>TW.us4 λ_ _ _ _=>rfl | exact λ_ _ _ _ _ _=>TW.us0 rfl | exact λ_ _ _ _ _ _=>TW.us6 λ_ _ _ _ _ _=>rfl)
  (len:∀vs H Q E,sp vs H Q E->vs.length=ps.length:=by intro _ _ _ _ h;cases h;subst_vars;rfl):OkM P w K mg base CX0 (k+1) C m ps sp:=by
 obtain ⟨f,fd,F,hm⟩:=D;exact ⟨f,fd,hm,F.binds hb,F.ok S len λcdv A outer s H vs Q E hr h=>hbody f cdv A outer s H vs Q E hr h⟩
theorem bW.okx {C:Addr}{m qn:Str}{st:Stmt}{N ps:List Str}{k:Nat}{sp:Sp} (D:bW K C m qn st) (S:FnScope N ps (ae st))
  (hbody:∀(f:Addr) (cdv:Value) (A:Around) (outer:List Env) (s:Shared) (H:Hp) (vs:List V) (Q:VK) (E:XK),Room k (A.deeper (envOfC qn (ae st) s.heap.objs.size f cdv))->sp vs H Q E->∀X:Cx,X=cxOf (CX1 P w) P w K mg base N qn (ae st) f cdv A outer s H E ->
   ∃t,PSs (X.wish (XFly X E)) (bG st) t/\t { nx:=λ_ H'=>Q .non H',rt:=Q } (start N vs) H)
  (hb:∀(kV doc pm:Value) (an:Option Addr) (cdv ct:Value) (us:List Value),us.length=ps.length->bindArgs (W.fnOf m qn (dJ st) (bG st) (ae st) .none kV doc pm an cdv ct) ⟨us,[]⟩=pure (ps.zip us):=by first | exact λ_ _ _ _ _ _=>TW.us1 λ_=>rfl | exact λ_ _ _ _ _ _=>TW.us2 λ_ _=>rfl | exact λ_ _ _ _ _ _=>TW.us3 λ_ _ _=>rfl | exact λ_ _ _ _ _ _=>TW.us5 λ_ _ _ _ _=>rfl | exact λ_ _ _ _ _ _=>TW.us4 λ_ _ _ _=>rfl | exact λ_ _ _ _ _ _=>TW.us0 rfl | exact λ_ _ _ _ _ _=>TW.us6 λ_ _ _ _ _ _=>rfl)
  (len:∀vs H Q E,sp vs H Q E->vs.length=ps.length:=by intro _ _ _ _ h;cases h;subst_vars;rfl):OkM P w K mg base (CX1 P w) (k+1) C m ps sp:=by
 obtain ⟨f,fd,F,hm⟩:=D;refine ⟨f,fd,hm,F.binds hb,?_⟩;obtain ⟨oc,od,kV,doc,pm,an,cdv,ct,osl,rfl,lk,hcd⟩:=F.ex;refine yI lk hcd S len λA outer s H vs Q E hr hsp=>?_;obtain ⟨t,h,q⟩:=hbody f cdv A outer s H vs Q E hr hsp _ rfl;exact ⟨t,PSs.fly h λpins s1 σ H1 I e s' z=>z.leave au I.ok.frames,q⟩
end
section
variable {X:Cx}{CX:CXT}{k:Nat}{C:Addr}{ps:List Str}{sp:Sp}{E:XK}{x m:Str}{p pos apos:Pos}{o e:Expr}{es:List Expr}{ta:TE}{t:TA}
theorem mo {pl:Sem Bool}(h:OkM X.prog X.w X.K X.mg X.base CX k C m ps sp)(c:Cls X.K C)(hr:Room k X.A)(hx:cy CX X E)(ho:PE X o ta)
  (ht:eval (.Call (.Attribute o m apos) [] [] pos) X.env=(do
   let ov <- eval o X.env
   standAt apos.atName
   let (f,first) <- holding [ov] (getMethod ov m pl)
   callWith pos f first (backTo pos (starEach [] X.env)) (backToKw pos (keywordEach [] X.env))):=by rfl) :
  PE X (.Call (.Attribute o m apos) [] [] pos) (wG C m sp [] E ta tNil):=by
 obtain ⟨f,fd,hm,b,G⟩:=h;exact wI (pl:=pl) ho c hm G hr b .nil hx ht
theorem mX {pl:Sem Bool}(h:OkM X.prog X.w X.K X.mg X.base CX k C m ps sp)(c:Cls X.K C)(hr:Room k X.A)(hx:cy CX X E)(ho:PE X o ta)(ha:PA X (e::es) t)
  (hst:starEach (e::es) X.env=(false,eval e X.env)::starEach es X.env:=by rfl) (hpl:(backTo pos (starEach es X.env)).any (·.1)=false:=by rfl)
  (ht:eval (.Call (.Attribute o m apos) (e::es) [] pos) X.env=(do
   let ov <- eval o X.env
   standAt apos.atName
   let (f,first) <- holding [ov] (getMethod ov m pl)
   callWith pos f first (backTo pos (starEach (e::es) X.env)) (backToKw pos (keywordEach [] X.env))):=by rfl) :
  PE X (.Call (.Attribute o m apos) (e::es) [] pos) (wG C m sp [] E ta t):=by
 obtain ⟨f,fd,hm,b,G⟩:=h;exact yG (pl:=pl) ho c hm G hr b .nil hx ha hst hpl ht
theorem pJ (h:OkM X.prog X.w X.K X.mg X.base CX0 k C "__init__" ps sp)(c:ClsIn X.K X.mg x C)(hr:Room (k+1) X.A)(hg:Gl X x)(ha:PA X (e::es) t)(hdb:(x==("__debug__":Str))=false:=by decide)
  (he:starEach (e::es) X.env=(false,eval e X.env)::starEach es X.env:=by rfl) (hpl:(backTo pos (starEach es X.env)).any (·.1)=false:=by rfl):PE X (.Call (.Name x p) (e::es) [] pos) (wH C sp [] E0 t):=by
 obtain ⟨f,fd,hm,b,G⟩:=h;exact yH ⟨c.makes,hm.at_,hm.fn,c.kp⟩ G hr hg c.mg b .nil gv ha hdb he hpl
theorem qY (h:OkM X.prog X.w X.K X.mg X.base CX0 k C "__init__" ps sp)(c:ClsIn X.K X.mg x C)(hr:Room (k+1) X.A)(hg:Gl X x)(hdb:(x==("__debug__":Str))=false:=by decide):PE X (.Call (.Name x p) [] [] pos) (wH C sp [] E0 tNil):=by
 obtain ⟨f,fd,hm,b,G⟩:=h;exact wJ ⟨c.makes,hm.at_,hm.fn,c.kp⟩ G hr hg c.mg b .nil gv hdb
end
end TW
namespace TW
open PySem PySem.Spec PyProof.Rows L2
theorem kM:∀l:List Int,PyData.canLayAll0 (l.map PyData.int)=true
 | []=>by simp [PyData.canLayAll0]
 | x::l=>by
  rw [List.map_cons];simp only [PyData.canLayAll0,PyData.canLay0,kM l,Bool.and_self]
theorem mq:∀l:List Int,PyData.depthAll (l.map PyData.int)=0
 | []=>by simp [PyData.depthAll]
 | x::l=>by
  rw [List.map_cons];simp only [PyData.depthAll,PyData.depth,mq l,Nat.max_self]
theorem kN (l:List Int):SeqAt.shaped (.list (l.map PyData.int))=true:=by
 unfold SeqAt.shaped;simp only [PyData.canLay0,kM,PyData.depth,mq,Bool.true_and];decide
theorem sw:∀l m:List Int,PyData.eqvAll (l.map PyData.int) (m.map PyData.int)=decide (l=m)
 | [],[]=>by simp [PyData.eqvAll]
 | [],y::m=>by simp [PyData.eqvAll]
 | x::l,[]=>by simp [PyData.eqvAll]
 | x::l,y::m=>by
  rw [List.map_cons,List.map_cons];simp only [PyData.eqvAll,PyData.eqv,sw l m];rw [Bool.eq_iff_iff];simp
theorem mY:∀{K:W.Frag}{H:Hp} (l:List Int),DpAll K H (l.map V.int) (l.map PyData.int)
 | _,_,[]=>.nil
 | _,_,x::l=>.cons (.int x) (mY l)
inductive rNeL (K:W.Frag)(x:V)(y:V)(H:Hp)(Q:VK):Prop
 | mk (a b:Addr) (l m:List Int):(x=.ref a)->(y=.ref b)->(SqL K H a (l.map V.int))->(SqL K H b (m.map V.int))->(Q (.bl (!decide (l=m))) H)->rNeL K x y H Q
theorem An {X:Cx}(hu:X.A.units+64<cLine):OpR X (compareOp .NotEq) (rNeL X.K):=by
 intro pins s σ H x y v u Q I rx ry h;obtain ⟨a,b,l,m,rfl,rfl,ha,hb,q⟩:=h;refine yi hu pins s σ H _ _ v u Q I rx ry ⟨.list (l.map PyData.int),.list (m.map PyData.int),.lst ha (mY l),.lst hb (mY m),kN l,kN m,?_⟩;have e:PyData.eqv (.list (l.map PyData.int)) (.list (m.map PyData.int))=decide (l=m):=by
  simp only [PyData.eqv,sw]
 rw [e];exact q
end TW
namespace TW
open PySem PySem.Spec PyProof.Rows L2
def dX (H:Hp)(r:Addr)(row:List Int):Prop:=H r=some (.lst (row.map V.int))
theorem bB:∀(H H':Hp) (r:Addr) (x:List Int),Same H H'->dX H r x->dX H' r x:=λ_ _ _ _ s h=>s _ _ h
theorem dY:∀(D:Addr) (H H':Hp) (r:Addr) (x:List Int),r≠D->kq D H H'->dX H r x->dX H' r x:=λD H H' r x n s h=>s _ _ n h
abbrev GridAt (H:Hp)(a:Addr)(g:List (List Int)):Prop:=ListOf dX H a g
inductive RepX {α:Type}(Rx:Hp->Addr->α->Prop)(D:Addr)(out:List α)(i:Nat)(v:V)(H:Hp):Prop
 | mk (r x):(v=.ref r)->(r≠D)->(out[i]?=some x)->(Rx H r x)->RepX Rx D out i v H
theorem RepX.stay {α:Type}{Rx:Hp->Addr->α->Prop} (stX:∀D H H' r x,r≠D->kq D H H'->Rx H r x->Rx H' r x) (D:Addr) (out:List α):∀(i:Nat) (v:V) (H H':Hp),RepX Rx D out i v H->kq D H H'->RepX Rx D out i v H' :=
 λi v H H' ⟨r,x,e,n,o,h⟩ s=>⟨r,x,e,n,o,stX D H H' r x n s h⟩
theorem AtTurn.list {α:Type}{Rx:Hp->Addr->α->Prop}{D:Addr}{H1 H:Hp}{out:List α} (A:AtTurn D H1 (RepX Rx D out) out.length H):ListOf Rx H D out:=by
 obtain ⟨acc,h1,h2,h3⟩:=A.acc;have ex:∃refs:List Addr,acc=refs.map V.ref:=by
  have:∀l:List V,(∀v∈l,∃r,v=V.ref r)->∃refs:List Addr,l=refs.map V.ref:=by
   intro l
   induction l with
   | nil=>intro _;exact ⟨[],rfl⟩
   | cons v l ih =>
    intro h;obtain ⟨r,rfl⟩:=h v List.mem_cons_self;obtain ⟨rs,rfl⟩:=ih λu hu=>h u (List.mem_cons_of_mem _ hu);exact ⟨r::rs,rfl⟩
  refine this acc λv hv=>?_;obtain ⟨i,hi,rfl⟩:=List.getElem_of_mem hv;obtain ⟨r,x,e,_⟩:=h3 i _ (List.getElem?_eq_getElem hi);exact ⟨r,e⟩
 obtain ⟨refs,rfl⟩:=ex;rw [List.length_map] at h2;refine ⟨refs,h1,h2,λr hr=>?_,λi r x e1 e2=>?_⟩
 ·obtain ⟨i,hi,rfl⟩:=List.getElem_of_mem hr;obtain ⟨r',x,e,n,_⟩:=h3 i (.ref refs[i]) (by rw [List.getElem?_map,List.getElem?_eq_getElem hi];rfl);cases e;exact n
 ·obtain ⟨r',x',e,n,o,h⟩:=h3 i (.ref r) (by rw [List.getElem?_map,e1];rfl);cases e;rw [e2] at o;cases o;exact h
section
variable {α:Type}{Rx:Hp->Addr->α->Prop}{K:W.Frag}{g:TG}{te:TE}{ws:List Nat}{σ:L2.St}{H1:Hp}{D:Addr}{Qd:Hp->Prop}
theorem fN {a:Addr}{xs:List V} (stX:∀D H H' r x,r≠D->kq D H H'->Rx H r x->Rx H' r x) (out:List α) (ho:out.length=xs.length) (hD:H1 D=none) (hx:SqL K H1 a xs) (hz:xs.length<=sizeLine)
  (hs:∀(i:Nat) (x:V) (y:α) (H:Hp) (Q':VK),xs[i]?=some x->out[i]?=some y->Same H1 H->(∃o,H D=some o)->(∀r H4,Same H H4->r≠D->Rx H4 r y->Q' (.ref r) H4)->g x (wipe σ ws) H λσ2 H2=>wipe σ2 ws=wipe σ ws/\te σ2 H2 Q')
  (hd:∀H,Same H1 H->ListOf Rx H D out->Qd H) :
  lcW (Itl K a) g tYes te ws σ D Qd H1:=by
 refine mH (xs:=xs) (AtTurn D H1 (RepX Rx D out)) (AtTurn.start hD) (λi H _ A=>A.same.seq hx) (λi x H ex A=>?_) (λH A=>hd H A.same (AtTurn.list (by rw [ho];exact A)));have hi:=(List.getElem?_eq_some_iff.mp ex).1;have ey:out[i]?=some out[i]:=List.getElem?_eq_getElem (by omega);rw [ju];obtain ⟨acc,hacc,_⟩:=A.acc;exact hs i x _ H _ ex ey A.same ⟨_,hacc⟩ λr H4 s4 n h=>A.next hD (RepX.stay stX D out) s4 (by omega) ⟨r,_,rfl,n,ey,h⟩
theorem kO {lo:Int}{n:Nat} (stX:∀D H H' r x,r≠D->kq D H H'->Rx H r x->Rx H' r x) (out:List α) (ho:out.length=n) (hD:H1 D=none) (hz:n<=sizeLine)
  (hs:∀(i:Nat) (y:α) (H:Hp) (Q':VK),i<n->out[i]?=some y->Same H1 H->(∃o,H D=some o)->(∀r H4,Same H H4->r≠D->Rx H4 r y->Q' (.ref r) H4)->g (.int (lo+i)) (wipe σ ws) H λσ2 H2=>wipe σ2 ws=wipe σ ws/\te σ2 H2 Q')
  (hd:∀H,Same H1 H->ListOf Rx H D out->Qd H) :
  lcW (Itr lo n) g tYes te ws σ D Qd H1:=by
 refine mG (AtTurn D H1 (RepX Rx D out)) (AtTurn.start hD) (λi H hi A=>?_) (λH A=>hd H A.same (AtTurn.list (by rw [ho];exact A)));have ey:out[i]?=some out[i]:=List.getElem?_eq_getElem (by omega);rw [ju];obtain ⟨acc,hacc,_⟩:=A.acc;exact hs i _ H _ hi ey A.same ⟨_,hacc⟩ λr H4 s4 n h=>A.next hD (RepX.stay stX D out) s4 (by omega) ⟨r,_,rfl,n,ey,h⟩
theorem y3 {a b:Addr}{xs ys:List V} (stX:∀D H H' r x,r≠D->kq D H H'->Rx H r x->Rx H' r x) (out:List α) (ho:out.length=min xs.length ys.length) (hD:H1 D=none) (hx:SqL K H1 a xs) (hy:SqL K H1 b ys) (hz:xs.length<=sizeLine)
  (hs:∀(i:Nat) (x y:V) (z:α) (T:Addr) (H:Hp) (Q':VK),xs[i]?=some x->ys[i]?=some y->out[i]?=some z->H T=none->Same H1 H->(∃o,H D=some o)->(∀r H4,Same H H4->r≠D->Rx H4 r z->Q' (.ref r) H4)->g (.ref T) (wipe σ ws) (upd H T (.tup [x,y])) λσ2 H2=>wipe σ2 ws=wipe σ ws/\te σ2 H2 Q')
  (hd:∀H,Same H1 H->ListOf Rx H D out->Qd H) :
  lcW (Itz K a b) g tYes te ws σ D Qd H1:=by
 refine yp (xs:=xs) (ys:=ys) (AtTurn D H1 (RepX Rx D out)) (AtTurn.start hD) (λi H A=>⟨A.same.seq hx,A.same.seq hy⟩) (λi x y T H ex ey hT A=>?_) (λH A=>hd H A.same (AtTurn.list (by rw [ho];exact A)));have hi:=(List.getElem?_eq_some_iff.mp ex).1;have hi2:=(List.getElem?_eq_some_iff.mp ey).1;have ez:out[i]?=some out[i]:=List.getElem?_eq_getElem (by omega);rw [ju];obtain ⟨acc,hacc,_⟩:=A.acc;exact hs i x y _ T H _ ex ey ez hT A.same ⟨_,hacc⟩ λr H4 s4 n h=>A.next hD (RepX.stay stX D out) s4 (by omega) ⟨r,_,rfl,n,ez,h⟩
theorem sx {a:Addr}{xs:List V} (out:List Int) (ho:out.length=xs.length) (hD:H1 D=none) (hx:SqL K H1 a xs) (hz:xs.length<=sizeLine)
  (hs:∀(i:Nat) (x:V) (y:Int) (H:Hp) (Q':VK),xs[i]?=some x->out[i]?=some y->Same H1 H->(∀H4,Same H H4->Q' (.int y) H4)->g x (wipe σ ws) H λσ2 H2=>wipe σ2 ws=wipe σ ws/\te σ2 H2 Q')
  (hd:∀H,Same H1 H->dX H D out->Qd H) :
  lcW (Itl K a) g tYes te ws σ D Qd H1:=by
 refine mH (xs:=xs) (AtTurn D H1 (jt λi=>out.getD i 0)) (AtTurn.start hD) (λi H _ A=>A.same.seq hx) (λi x H ex A=>?_) (λH A=>hd H A.same (AtTurn.ints (by rw [ho];exact A)));have hi:=(List.getElem?_eq_some_iff.mp ex).1;have ey:out[i]?=some out[i]:=List.getElem?_eq_getElem (by omega);rw [ju];refine hs i x _ H _ ex ey A.same λH4 s4=>A.next hD (cQ D _) s4 (by omega) ?_;show V.int _=V.int _;dsimp only;rw [List.getD_eq_getElem?_getD,ey];rfl
end
theorem iq {H:Hp}{p D:Addr} (h:H p=none) (hD:∃o,H D=some o):p≠D:=by
 obtain ⟨o,e⟩:=hD;exact (ne_of_none e h).symm
def AnsG (H:Hp)(g:List (List Int))(Q:VK):Prop:=∀p H',Same H H'->H p=none->GridAt H' p g->Q (.ref p) H'
theorem jQ (l:List Int)(k:Nat):cutV (l.map V.int) (some (k:Int)) none=(l.drop k).map V.int:=by
 unfold cutV;rw [HT.sIx_nat,HT.sIx_none,List.length_map,List.map_drop];by_cases h:k<=l.length
 ·rw [Nat.min_eq_left h,List.take_of_length_le (by simp)]
 ·rw [Nat.min_eq_right (by omega),List.drop_eq_nil_of_le (by simp),List.drop_eq_nil_of_le (by simp;omega)];simp
theorem sI (l:List Int)(k:Nat):cutV (l.map V.int) none (some (k:Int))=(l.take k).map V.int:=by
 unfold cutV;rw [HT.sIx_nat,HT.sIx_none,List.length_map,List.map_take,List.drop_zero,Nat.sub_zero];by_cases h:k<=l.length
 ·rw [Nat.min_eq_left h]
 ·rw [Nat.min_eq_right (by omega),List.take_of_length_le (by simp),List.take_of_length_le (by simp;omega)]
theorem dB (l:List V)(k:Nat):cutV l (some (k:Int)) none=l.drop k:=by
 unfold cutV;rw [HT.sIx_nat,HT.sIx_none];by_cases h:k<=l.length
 ·rw [Nat.min_eq_left h,List.take_of_length_le (by simp)]
 ·rw [Nat.min_eq_right (by omega),List.drop_eq_nil_of_le (by simp),List.drop_eq_nil_of_le (by omega)];simp
theorem vM (l:List V)(k:Nat):cutV l none (some (k:Int))=l.take k:=by
 unfold cutV;rw [HT.sIx_nat,HT.sIx_none,List.drop_zero,Nat.sub_zero];by_cases h:k<=l.length
 ·rw [Nat.min_eq_left h]
 ·rw [Nat.min_eq_right (by omega),List.take_of_length_le (Nat.le_refl _),List.take_of_length_le (by omega)]
theorem vN (l:List Int)(i n:Nat):cutV (l.map V.int) (some (i:Int)) (some ((i+n:Nat):Int))=((l.drop i).take n).map V.int:=by
 unfold cutV;rw [HT.sIx_nat,HT.sIx_nat,List.length_map,List.map_take,List.map_drop];by_cases h:i<=l.length
 ·rw [Nat.min_eq_left h];by_cases h2:i+n<=l.length
  ·rw [Nat.min_eq_left h2,Nat.add_sub_cancel_left]
  ·rw [Nat.min_eq_right (by omega),List.take_of_length_le (by simp),List.take_of_length_le (by simp;omega)]
 ·rw [Nat.min_eq_right (a:=i) (b:=l.length) (by omega),List.drop_eq_nil_of_le (by simp),List.drop_eq_nil_of_le (by simp;omega)];simp
theorem ListOf.part {α:Type}{R:Hp->Addr->α->Prop}{H:Hp}{a p:Addr}{l:List α}{refs:List Addr} (h1:H a=some (.lst (refs.map V.ref))) (h2:refs.length=l.length) (h0:∀r∈refs,r≠p) (h3:∀(i:Nat) (r:Addr) (x:α),refs[i]?=some r->l[i]?=some x->R H r x) {H':Hp} (st:∀r x,r∈refs->R H r x->R H' r x) (k n:Nat)
  (hp:H' p=some (.lst (((refs.drop k).take n).map V.ref))):ListOf R H' p ((l.drop k).take n):=by
 refine ⟨(refs.drop k).take n,hp,by rw [List.length_take,List.length_take,List.length_drop,List.length_drop,h2],λr hr=>h0 r (List.mem_of_mem_drop (List.mem_of_mem_take hr)),λi r x e1 e2=>?_⟩;have hi:i<n:=by
  rcases Nat.lt_or_ge i n with q | q
  ·exact q
  ·rw [List.getElem?_eq_none (by rw [List.length_take];omega)] at e1;cases e1
 rw [List.getElem?_take,if_pos hi,List.getElem?_drop] at e1 e2;exact st r x (List.mem_of_getElem? e1) (h3 _ r x e1 e2)
end TW
namespace TW
open PySem PyProof.Rows
abbrev mr (h:Heap)(z TI TO:Addr)(f0:Value)(f:Bool):Prop :=
 h.get? z=some { cls:=.type "zip",dict:=none,data:=.fields #[f0,.bool f,.bool false,.ref TI,.ref TO],slots:=#[] }
section
variable {prog:Program}{w:World}{A:Around}{E:Value->Shared->Prop}{s:Shared}
theorem alive {a:Addr}{o:Obj}{Q:Option Obj->Shared->Prop} (ho:s.heap.get? a=some o) (h:Q (some o) s):wpAny (model prog w) A (loadIfAlive a) Q E s:=by
 have h':Q (s.heap.get? a) s:=by rw [ho];exact h
 exact λ_ _ _=>h'
theorem pK {z TI TO T:Addr}{f:Bool}{oT:Obj}{Q:Bool->Shared->Prop} (gz:mr s.heap z TI TO (rawInt T) f) (gT:s.heap.get? T=some oT) (h:∀h',mr h' z TI TO (rawInt T) true->Heap.SameBut z s.heap h'->Q false { s with heap:=h' }) :
  wpAny (model prog w) A (Builtin.SmallTypes.ownedTupleIsFree (.ref z)) Q E s:=by
 unfold Builtin.SmallTypes.ownedTupleIsFree;refine wpAny_bind (wpAny_field gz rfl (x:=rawInt T) rfl ?_);show wpAny _ _ (loadIfAlive ((T:Int).toNat) >>= _) _ _ _;rw [Int.toNat_natCast];refine wpAny_bind (alive gT ?_);simp only [Option.isNone_some,Bool.false_eq_true,if_false];refine wpAny_bind (wpAny_field gz rfl (x:=.bool f) rfl ?_);cases f with
 | true =>
  rw [if_neg (show ¬((Value.bool true != Value.bool true)=true) from Bool.false_ne_true)];exact wpAny_pure (h s.heap gz (Heap.SameBut.refl _ _))
 | false =>
  rw [if_pos (show (Value.bool false != Value.bool true)=true from rfl)];refine wpAny_bind (wpAny_setField_rec gz (by simp) λh' g' s'=>?_);exact wpAny_pure (h h' g' s')
theorem xg {z TI TO i1 i2 i3 l1 l2 l3 T:Addr}{k:Nat}{f:Bool}{oT:Obj}{xs ys zs:Array Value}{x y u:Value}{Q:Value->Shared->Prop} (D:Apart3 z TI TO i1 i2 i3 l1 l2 l3)
  (gz:mr s.heap z TI TO (rawInt T) f) (gT:s.heap.get? T=some oT) (gI:aM s.heap TI (.ref i1) (.ref i2) (.ref i3))
  (h1:s.heap.IsListIter i1 l1 k) (h2:s.heap.IsListIter i2 l2 k) (h3:s.heap.IsListIter i3 l3 k) (hl1:s.heap.IsList l1 xs) (hl2:s.heap.IsList l2 ys) (hl3:s.heap.IsList l3 zs)
  (hx:xs[k]?=some x) (hy:ys[k]?=some y) (hu:zs[k]?=some u)
  (fin:∀h',mr h' z TI TO (rawInt T) true->h'.IsListIter i1 l1 (k+1)->h'.IsListIter i2 l2 (k+1)->h'.IsListIter i3 l3 (k+1)->aM h' s.heap.objs.size x y u->h'.objs.size=s.heap.objs.size+1 ->
   lF z TO i1 i2 i3 s.heap h'->(∀ob,s.heap.get? TO=some ob->h'.get? TO=some ob)->Q (.ref s.heap.objs.size) { s with heap:=h' }) :
  wpAny (model prog w) A (Builtin.«zip.__next__» ⟨[.ref z],[]⟩) (λr s'=>∃v,r=.done (.ret v)/\Q v s') E s:=by
 obtain ⟨n1z,n1O,n1I⟩:=D.n1;obtain ⟨n2z,n2O,n2I⟩:=D.n2;obtain ⟨n3z,n3O,n3I⟩:=D.n3;obtain ⟨n12,n13,n23⟩:=D.ab;obtain ⟨m1z,m1O,m11,m12,m13⟩:=D.m1;obtain ⟨m2z,m2O,m21,m22,m23⟩:=D.m2;obtain ⟨m3z,m3O,m31,m32,m33⟩:=D.m3;have nOz:=D.to_;show wpAny _ _ (field (.ref z) 2 >>= _) _ _ s;refine wpAny_bind (wpAny_field gz rfl (x:=.bool false) rfl ?_);show wpAny _ _ (field (.ref z) 3 >>= _) _ _ s;refine wpAny_bind (wpAny_field gz rfl (x:=.ref TI) rfl ?_);refine wpAny_bind (wpAny_seqItems gI rfl ?_);show wpAny _ _ (Builtin.SmallTypes.ownedTupleIsFree (.ref z) >>= _) _ _ s;refine wpAny_bind (pK gz gT λhA gA sA=>?_);simp only [Bool.false_eq_true,if_false];simp only [<- Array.forIn_toList,List.forIn_cons,List.forIn_nil];refine wpAny_bind ?_;refine wpAny_bind (wpAny_bind (wpAny_holding ?_));show wpAny _ _ (Builtin.SmallTypes.nextOf (.ref i1) >>= _) _ _ _;refine wpAny_bind (wpAny_nextOf_list_item (h1.extBut sA.extBut n1z) (hl1.extBut sA.extBut m1z) hx λhB iB sB=>wpAny_pure ?_);refine wpAny_pure ?_;refine wpAny_bind (wpAny_bind (wpAny_holding ?_));show wpAny _ _ (Builtin.SmallTypes.nextOf (.ref i2) >>= _) _ _ _;refine wpAny_bind (wpAny_nextOf_list_item ((h2.extBut sA.extBut n2z).extBut sB.extBut (Ne.symm n12)) ((hl2.extBut sA.extBut m2z).extBut sB.extBut m21) hy λhD iD sD=>wpAny_pure ?_);refine wpAny_pure ?_;refine wpAny_bind (wpAny_bind (wpAny_holding ?_));show wpAny _ _ (Builtin.SmallTypes.nextOf (.ref i3) >>= _) _ _ _;refine wpAny_bind (wpAny_nextOf_list_item (((h3.extBut sA.extBut n3z).extBut sB.extBut (Ne.symm n13)).extBut sD.extBut (Ne.symm n23)) (((hl3.extBut sA.extBut m3z).extBut sB.extBut m31).extBut sD.extBut m32) hu λhF iF sF=>wpAny_pure ?_);refine wpAny_pure (wpAny_pure ?_);refine wpAny_bind (wpAny_newTuple (hsz:=by show 3<=sizeLine;decide) ?_);have sz:hF.objs.size=s.heap.objs.size:=by rw [sF.1,sD.1,sB.1,sA.1]
 have up:∀p ob,p≠z->p≠i1->p≠i2->p≠i3->s.heap.get? p=some ob->(hF.push { cls:=.type "tuple",data:=.seq #[x,y,u] }).get? p=some ob:=λp ob p1 p2 p3 p4 q =>
  Heap.get?_push_of_some _ (sF.extBut _ _ p4 (sD.extBut _ _ p3 (sB.extBut _ _ p2 (sA.extBut _ _ p1 q))))
 refine wpAny_pure ⟨_,rfl,?_⟩;show Q (.ref hF.objs.size) _;have tS:aM (hF.push { cls:=.type "tuple",data:=.seq #[x,y,u] }) hF.objs.size x y u:=Heap.get?_push_size _ rfl;rw [sz] at tS ⊢;refine fin _ ?_ ?_ ?_ ?_ tS (by rw [Heap.size_push,sz]) (λp ob p1 _ p3 p4 p5 q=>up p ob p1 p3 p4 p5 q) λob q=>up TO ob nOz (Ne.symm n1O) (Ne.symm n2O) (Ne.symm n3O) q
 ·exact Heap.get?_push_of_some _ (sF.extBut _ _ (Ne.symm n3z) (sD.extBut _ _ (Ne.symm n2z) (sB.extBut _ _ (Ne.symm n1z) gA)))
 ·exact ((iB.extBut sD.extBut n12).extBut sF.extBut n13).at λob q=>Heap.get?_push_of_some _ q
 ·exact (iD.extBut sF.extBut n23).at λob q=>Heap.get?_push_of_some _ q
 ·exact iF.at λob q=>Heap.get?_push_of_some _ q
theorem mZ {z TI TO i1 i2 i3 l1 l2 l3 T:Addr}{k:Nat}{f:Bool}{oT:Obj}{xs:Array Value}{Q:Fin->Shared->Prop} (calm:A.handled=none) (D:Apart3 z TI TO i1 i2 i3 l1 l2 l3)
  (gz:mr s.heap z TI TO (rawInt T) f) (gT:s.heap.get? T=some oT) (gI:aM s.heap TI (.ref i1) (.ref i2) (.ref i3)) (h1:s.heap.IsListIter i1 l1 k) (hl1:s.heap.IsList l1 xs) (hx:xs[k]?=none)
  (fin:∀h' e,lF z TO i1 i2 i3 s.heap h'->(∃ob,h'.get? e=some ob/\ob.cls=.type "StopIteration")->E (.ref e) { s with heap:=h' }) :
  wpAny (model prog w) A (Builtin.«zip.__next__» ⟨[.ref z],[]⟩) Q E s:=by
 obtain ⟨n1z,n1O,n1I⟩:=D.n1;obtain ⟨m1z,m1O,m11,m12,m13⟩:=D.m1;show wpAny _ _ (field (.ref z) 2 >>= _) _ _ s;refine wpAny_bind (wpAny_field gz rfl (x:=.bool false) rfl ?_);show wpAny _ _ (field (.ref z) 3 >>= _) _ _ s;refine wpAny_bind (wpAny_field gz rfl (x:=.ref TI) rfl ?_);refine wpAny_bind (wpAny_seqItems gI rfl ?_);show wpAny _ _ (Builtin.SmallTypes.ownedTupleIsFree (.ref z) >>= _) _ _ s;refine wpAny_bind (pK gz gT λhA gA sA=>?_);simp only [Bool.false_eq_true,if_false];simp only [<- Array.forIn_toList,List.forIn_cons,List.forIn_nil];refine wpAny_bind ?_;refine wpAny_bind (wpAny_bind (wpAny_holding ?_));show wpAny _ _ (Builtin.SmallTypes.nextOf (.ref i1) >>= _) _ _ _;refine wpAny_bind (wpAny_nextOf_list_end calm (h1.extBut sA.extBut n1z) (hl1.extBut sA.extBut m1z) hx λhB e sB ⟨ob,qe,qc⟩=>?_);exact fin hB e (λp o p1 p2 p3 p4 p5 q=>sB _ _ p3 (sA.extBut _ _ p1 q)) ⟨ob,qe,qc⟩
def ZSt (h:Heap)(z TI TO i1 i2 i3 l1 l2 l3 S:Addr)(i:Nat):Prop:=aM h TI (.ref i1) (.ref i2) (.ref i3)/\h.IsListIter i1 l1 i/\h.IsListIter i2 l2 i/\h.IsListIter i3 l3 i/\(∃oO,h.get? TO=some oO) /\
 ((IsZip h z TI TO .none/\∃a b c,aM h TO a b c)\/∃(T:Addr) (oT:Obj) (f:Bool),mr h z TI TO (rawInt T) f/\h.get? T=some oT/\T≠z/\T≠TO/\T≠i1/\T≠i2/\T≠i3/\T≠S)
theorem ZSt.keep {h h':Heap}{z TI TO i1 i2 i3 l1 l2 l3 S:Addr}{i:Nat} (st:ZSt h z TI TO i1 i2 i3 l1 l2 l3 S i) (nS:S≠z/\S≠TI/\S≠TO/\S≠i1/\S≠i2/\S≠i3) (k:∀b o,b≠S->h.get? b=some o->h'.get? b=some o):ZSt h' z TI TO i1 i2 i3 l1 l2 l3 S i:=by
 obtain ⟨gI,j1,j2,j3,⟨oO,gO'⟩,g⟩:=st;obtain ⟨nz,nI,nO,n1,n2,n3⟩:=nS;refine ⟨k _ _ (Ne.symm nI) gI,j1.at λo q=>k _ o (Ne.symm n1) q,j2.at λo q=>k _ o (Ne.symm n2) q,j3.at λo q=>k _ o (Ne.symm n3) q,⟨oO,k _ _ (Ne.symm nO) gO'⟩,?_⟩;rcases g with ⟨g,a,b,c,gO⟩ | ⟨T,oT,f,g,gT,r⟩
 ·exact .inl ⟨k _ _ (Ne.symm nz) g,a,b,c,k _ _ (Ne.symm nO) gO⟩
 ·exact .inr ⟨T,oT,f,k _ _ (Ne.symm nz) g,k _ _ r.2.2.2.2.2 gT,r⟩
theorem vO {z TI TO i1 i2 i3 l1 l2 l3 S:Addr}{k:Nat}{xs ys zs:Array Value}{x y u:Value}{Q:Option Value->Shared->Prop} (D:Apart3 z TI TO i1 i2 i3 l1 l2 l3) (st:ZSt s.heap z TI TO i1 i2 i3 l1 l2 l3 S k) (hS:S<s.heap.objs.size) (hlt:z<s.heap.objs.size/\TO<s.heap.objs.size/\i1<s.heap.objs.size/\i2<s.heap.objs.size/\i3<s.heap.objs.size)
  (hl1:s.heap.IsList l1 xs) (hl2:s.heap.IsList l2 ys) (hl3:s.heap.IsList l3 zs) (hx:xs[k]?=some x) (hy:ys[k]?=some y) (hu:zs[k]?=some u)
  (fin:∀h',ZSt h' z TI TO i1 i2 i3 l1 l2 l3 S (k+1)->aM h' s.heap.objs.size x y u->h'.objs.size=s.heap.objs.size+1->lF z TO i1 i2 i3 s.heap h'->Q (some (.ref s.heap.objs.size)) { s with heap:=h' }) :
  wpAny (model prog w) A (pyNext (.ref z)) Q E s:=by
 obtain ⟨lz,lO,a1,a2,a3⟩:=hlt;obtain ⟨n1z,n1O,n1I⟩:=D.n1;obtain ⟨n2z,n2O,n2I⟩:=D.n2;obtain ⟨n3z,n3O,n3I⟩:=D.n3;obtain ⟨tIz,tIO⟩:=D.ti;have keepI:∀h',lF z TO i1 i2 i3 s.heap h'->aM s.heap TI (.ref i1) (.ref i2) (.ref i3)->aM h' TI (.ref i1) (.ref i2) (.ref i3):=λh' kz g=>kz _ _ tIz tIO (Ne.symm n1I) (Ne.symm n2I) (Ne.symm n3I) g;obtain ⟨gI,j1,j2,j3,⟨oO,gO'⟩,⟨g,a,b,c,gO⟩ | ⟨T,oT,f,g,gT,nTz,nTO,nT1,nT2,nT3,nTS⟩⟩:=st
 ·refine ko D g gI gO j1 j2 j3 hl1 hl2 hl3 hx hy hu λh' b1 b2 b3 b4 b5 b6 b7 b8=>fin h' ⟨keepI h' b8 gI,b3,b4,b5,⟨_,b2⟩,.inr ⟨s.heap.objs.size,_,false,b1,b6,?_⟩⟩ b6 b7 b8;exact ⟨Nat.ne_of_gt lz,Nat.ne_of_gt lO,Nat.ne_of_gt a1,Nat.ne_of_gt a2,Nat.ne_of_gt a3,Nat.ne_of_gt hS⟩
 ·have ty:s.TypeIs (.ref z) "zip":=⟨_,g,rfl⟩
  unfold pyNext;refine wpAny_bind (wpAny_attempt (wpAny_callSpecial?_slot (name:=Str.ofString "__next__") ty F.slot_zip_next (wpAny_call_entry F.slot_zip_next ty F.entry_zip_next ?_ (F.args_zip_next_1 _))));exact xg D g gT gI j1 j2 j3 hl1 hl2 hl3 hx hy hu λh' b1 b3 b4 b5 b6 b7 b8 b9=>wpAny_pure (fin h' ⟨keepI h' b8 gI,b3,b4,b5,⟨oO,b9 _ gO'⟩,.inr ⟨T,oT,true,b1,b8 _ _ nTz nTO nT1 nT2 nT3 gT,nTz,nTO,nT1,nT2,nT3,nTS⟩⟩ b6 b7 b8)
theorem vP {z TI TO i1 i2 i3 l1 l2 l3 S:Addr}{k:Nat}{xs ys zs:Array Value}{Q:Option Value->Shared->Prop} (calm:A.handled=none) (D:Apart3 z TI TO i1 i2 i3 l1 l2 l3) (st:ZSt s.heap z TI TO i1 i2 i3 l1 l2 l3 S k)
  (hl1:s.heap.IsList l1 xs) (hl2:s.heap.IsList l2 ys) (hl3:s.heap.IsList l3 zs) (hx:xs[k]?=none) (fin:∀h',lF z TO i1 i2 i3 s.heap h'->Q none { s with heap:=h' }) :
  wpAny (model prog w) A (pyNext (.ref z)) Q E s:=by
 obtain ⟨gI,j1,j2,j3,_,⟨g,a,b,c,gO⟩ | ⟨T,oT,f,g,gT,_⟩⟩:=st
 ·exact pyNext_zip3_end calm D g gI gO j1 j2 j3 hl1 hl2 hl3 (.inl hx) fin
 ·have ty:s.TypeIs (.ref z) "zip":=⟨_,g,rfl⟩
  unfold pyNext;refine wpAny_bind (wpAny_attempt (wpAny_callSpecial?_slot (name:=Str.ofString "__next__") ty F.slot_zip_next (wpAny_call_entry F.slot_zip_next ty F.entry_zip_next ?_ (F.args_zip_next_1 _))));refine mZ calm D g gT gI j1 hl1 hx λh' e kz ⟨ob,qe,qc⟩=>?_;exact wpAny_bind (wpAny_isInstance (T:="StopIteration") (b:=true) ⟨ob,qe,qc⟩ isSubtype_stop (wpAny_pure (fin _ kz)))
end
theorem t7:typeLookup (.type "zip") "__len__"=pure none:=by rw [typeLookup_type,builtinLookup_eq_fast];kernel_rfl
theorem qZ:typeLookup (.type "zip") "__length_hint__"=pure none:=by rw [typeLookup_type,builtinLookup_eq_fast];kernel_rfl
section
variable {prog:Program}{w:World}{A:Around}{E:Value->Shared->Prop}{s:Shared}{R:Result->Shared->Prop}
theorem zext {z TI TO S:Addr}{c0:Nat} (gz:IsZip s.heap z TI TO .none) (hSz:S≠z) (res:Value) (hS:s.heap.get? S=some { cls:=.type "list",data:=.seq #[] c0 })
  (key:∀(h:Heap) (c1:Nat),(∀b o,b≠S->s.heap.get? b=some o->h.get? b=some o)->h.get? S=some { cls:=.type "list",data:=.seq #[] c1 }->codeAny (model prog w) A (.builtin "list.extend.loop" ⟨[.ref S,.ref z,res],[]⟩) R { s with heap:=h }) :
  wpAny (model prog w) A.in1 (Builtin.List.listExtendWith (.ref S) (.ref z) res)
   (λfin s'=>match fin with | .done f=>R (.ok f) s' | .again c'=>c'.quiet=true/\codeAny (model prog w) A c' R s') (λe s'=>R (.error e) s') s:=by
 have ty:s.TypeIs (.ref z) "zip":=⟨_,gz,rfl⟩
 unfold Builtin.List.listExtendWith;refine wpAny_bind (wpAny_typeOf ty ?_);have h1:Builtin.List.listSameRef (.ref S) (.ref z)=false:=by simp [Builtin.List.listSameRef,hSz]
 have h2:(Value.type "zip"==Value.type "list")=false:=by decide
 have h3:(Value.type "zip"==Value.type "tuple")=false:=by decide
 simp only [h1,h2,h3,Bool.or_false,Bool.false_eq_true,if_false];refine wpAny_bind (wpAny_pyIter_zip gz ?_);refine wpAny_bind (wpAny_holding ?_);unfold Builtin.List.listLengthHint;refine wpAny_bind (wpAny_specialOf ty t7 ?_);show wpAny _ A.in1 (specialOf (Value.ref z) (Str.ofString "__length_hint__") >>= _) _ _ _;refine wpAny_bind (wpAny_specialOf ty qZ ?_);refine wpAny_pure ?_;show wpAny _ A.in1 (rule "list.extend.makes-room" >>= λ_=>Builtin.List.listTouch (.ref S) >>= λ_ =>
  again (.builtin "list.extend.loop" ⟨[.ref S,.ref z,res],[]⟩)) _ _ _
 refine wpAny_bind (wpAny_rule ?_);refine wpAny_bind ?_;show wpAny _ A.in1 (updateSeq S (·.push .none) >>= λ_=>updateSeq S (·.pop)) _ _ _;refine wpAny_bind (wpAny_updateSeq hS rfl ?_);have hS₂:=Heap.get?_update_self (Obj.mapSeq (·.push Value.none)) hS rfl;refine wpAny_updateSeq (hz:=by seq_fits) hS₂ rfl ?_;have hS₃:=Heap.get?_update_self (Obj.mapSeq (·.pop)) hS₂ rfl;exact wpAny_pure ⟨plainId_quiet PySem.F.plain_extend_loop _,key _ _ (λb o hb e=>(Heap.get?_update_other _ _ (Ne.symm hb)).trans ((Heap.get?_update_other _ _ (Ne.symm hb)).trans e)) hS₃⟩
theorem A7 {z TI TO S:Addr}(gz:IsZip s.heap z TI TO .none)(hSz:S≠z)(hS:s.heap.get? S=some { cls:=.type "list",data:=.seq #[] })
  (key:∀(h:Heap) (c1:Nat),(∀b o,b≠S->s.heap.get? b=some o->h.get? b=some o)->h.get? S=some { cls:=.type "list",data:=.seq #[] c1 }->codeAny (model prog w) A (.builtin "list.extend.loop" ⟨[.ref S,.ref z,.none],[]⟩) R { s with heap:=h }) :
  wpAny (model prog w) A.in1 (Builtin.«list.__init__» ⟨[.ref S,.ref z],[]⟩)
   (λfin s'=>match fin with | .done f=>R (.ok f) s' | .again c'=>c'.quiet=true/\codeAny (model prog w) A c' R s') (λe s'=>R (.error e) s') s:=by
 show wpAny _ _ (do let old <- Builtin.List.listItems (.ref S);Builtin.List.listUpdate (.ref S) (λ_=>#[]);letGo old.toList.reverse;Builtin.List.listExtendWith (.ref S) (.ref z) .none) _ _ s;refine wpAny_bind ?_;unfold Builtin.List.listItems;refine wpAny_bind (wpAny_seqItems hS rfl (wpAny_pure ?_));show wpAny _ _ (updateSeq S (λ_=>#[]) >>= λ_=>letGo (#[]:Array Value).toList.reverse >>= λ_=>Builtin.List.listExtendWith (.ref S) (.ref z) .none) _ _ s;refine wpAny_bind (wpAny_updateSeq hS rfl ?_);have hS₂:=Heap.get?_update_self (Obj.mapSeq (λ_=>(#[]:Array Value))) hS rfl;have oth:∀b o,b≠S->s.heap.get? b=some o->(s.heap.update S (Obj.mapSeq (λ_=>(#[]:Array Value)))).get? b=some o :=
  λb o hb e=>(Heap.get?_update_other _ _ (Ne.symm hb)).trans e
 refine wpAny_bind (wpAny_letGo ?_);exact zext (A:=A) (oth z _ (Ne.symm hSz) gz) hSz .none hS₂ λh c1 hk hS3=>key h c1 (λb o hb e=>hk b o hb (oth b o hb e)) hS3
theorem zcall {z TI TO:Addr}{Q:Value->Shared->Prop} (gz:IsZip s.heap z TI TO .none)
  (key:∀(h:Heap) (c1:Nat),(∀b o,s.heap.get? b=some o->h.get? b=some o)->h.get? s.heap.objs.size=some { cls:=.type "list",data:=.seq #[] c1 } ->
   ∀R:Result->Shared->Prop,(∀s',Q (.ref s.heap.objs.size) s'->R (.ok (.ret .none)) s')->codeAny (model prog w) A.in1 (.builtin "list.extend.loop" ⟨[.ref s.heap.objs.size,.ref z,.none],[]⟩) R { s with heap:=h }) :
  wpAny (model prog w) A (call (.type "list") [.ref z]) Q E s:=by
 refine callType_codes (Q₁:=λobj s₁=>obj=.ref s.heap.objs.size/\s₁={ s with heap:=s.heap.push { cls:=.type "list",data:=.seq #[] } }) PySem.F.called_list (PySem.F.typeCall_list_1 _) PySem.F.entry_list_init
  (code_list_new _ ⟨rfl,rfl⟩) λobj s₁ h₁=>?_
 obtain ⟨rfl,rfl⟩:=h₁;have hS:(s.heap.push { cls:=.type "list",data:=.seq #[] }).get? s.heap.objs.size=some { cls:=.type "list",data:=.seq #[] }:=Heap.get?_push_size _ rfl;have hz:z<s.heap.objs.size:=Heap.lt_size gz;refine ⟨⟨_,hS,rfl⟩,PySem.F.args_list_init_2 _ _,A7 (A:=A.in1) (Heap.get?_push_of_some _ gz) (Nat.ne_of_gt hz) hS λh c1 hk hS3=>?_⟩;exact key h c1 (λb o e=>hk b o (Nat.ne_of_lt (Heap.lt_size e)) (Heap.get?_push_of_some _ e)) hS3 _ λs' q=>⟨rfl,q⟩
end
end TW
namespace TW
open PySem PySem.Spec PyProof.Rows L2
def mt (H:Hp)(r:Addr)(x:Int×Int×Int):Prop:=H r=some (.tup [.int x.1,.int x.2.1,.int x.2.2])
theorem gL:∀(H H':Hp) (r:Addr) (x:Int×Int×Int),Same H H'->mt H r x->mt H' r x:=λ_ _ _ _ s h=>s _ _ h
section
variable {X:Cx}{pins:List (Addr×Obj)}{σ:L2.St}{H1:Hp}
theorem A8 {us vs ws:List Int}{z TI TO i1 i2 i3 a b c S:Addr}{A:Around}{R:Result->Shared->Prop} (hh:A.handled=none) (D:Apart3 z TI TO i1 i2 i3 a b c) (nS:S≠z/\S≠TI/\S≠TO/\S≠i1/\S≠i2/\S≠i3)
  (ha:SqL X.K H1 a (us.map V.int)) (hb:SqL X.K H1 b (vs.map V.int)) (hc:SqL X.K H1 c (ws.map V.int)) (hv:us.length=vs.length) (hw:us.length=ws.length) (hSn:H1 S=none) (res:Value)
  (fin:∀H s,Inv X pins σ H s->Same H1 H->ListOf mt H S (us.zip (vs.zip ws))->R (.ok (.ret res)) s) :
  ∀(k i:Nat) (s:Shared) (H:Hp),us.length-i=k->i<=us.length->Inv X pins σ H s->(∀p∈[z,TI,TO,i1,i2,i3],FpOk X pins H p)->ZSt s.heap z TI TO i1 i2 i3 a b c S i->Same H1 H->ListOf mt H S ((us.zip (vs.zip ws)).take i) ->
   codeAny (model X.prog X.w) A (.builtin "list.extend.loop" ⟨[.ref S,.ref z,res],[]⟩) R s:=by
 intro k
 induction k with
 | zero =>
  intro i s H hk hi I hf st s1 L;have hin:i=us.length:=by omega
  obtain ⟨its,rv,p1,_⟩:=I.list (s1.seq ha);obtain ⟨its2,rv2,p2,_⟩:=I.list (s1.seq hb);obtain ⟨its3,rv3,p3,_⟩:=I.list (s1.seq hc);refine codeAny_builtin PySem.F.entry_extend_loop ?_;rw [Around.under_plainId PySem.F.plain_extend_loop _];show wpAny _ A.in1 (pyNext (.ref z) >>= _) _ _ _;refine wpAny_bind (vP (A:=A.in1) hh D st p1.isList p2.isList p3.isList (by have:=rv.length;simp at this ⊢;omega) λh' kz=>?_);refine wpAny_pure (fin H _ (I.turnedL (t':=s.toks) (ch:=[z,TI,TO,i1,i2,i3]) (λp o hb q=>kz p o (λq'=>hb (by simp [q'])) (λq'=>hb (by simp [q'])) (λq'=>hb (by simp [q'])) (λq'=>hb (by simp [q'])) (λq'=>hb (by simp [q'])) q) hf) s1 ?_);rw [List.take_of_length_le (by simp;omega)] at L;exact L
 | succ k ih =>
  intro i s H hk hi I hf st s1 L;have hlt:i<us.length:=by omega
  obtain ⟨its,rv,p1,zz⟩:=I.list (s1.seq ha);obtain ⟨its2,rv2,p2,_⟩:=I.list (s1.seq hb);obtain ⟨its3,rv3,p3,_⟩:=I.list (s1.seq hc);obtain ⟨w1,hw1,ru1⟩:=rv.get (show (us.map V.int)[i]?=some (.int us[i]) by rw [List.getElem?_map,List.getElem?_eq_getElem hlt];rfl);obtain ⟨w2,hw2,ru2⟩:=rv2.get (show (vs.map V.int)[i]?=some (.int vs[i]) by rw [List.getElem?_map,List.getElem?_eq_getElem (by omega)];rfl);obtain ⟨w3,hw3,ru3⟩:=rv3.get (show (ws.map V.int)[i]?=some (.int ws[i]) by rw [List.getElem?_map,List.getElem?_eq_getElem (by omega)];rfl);obtain ⟨refs,g1,g2,g0,g3⟩:=id L;have hlen:refs.length=i:=by rw [g2,List.length_take,List.length_zip,List.length_zip];omega
  obtain ⟨zl,sits,n,sr,sl,se⟩:=I.lstM g1;have hSl:S<s.heap.objs.size:=Heap.lt_size se;have olt:∀p∈[z,TI,TO,i1,i2,i3],p<s.heap.objs.size:=by
   obtain ⟨gI,⟨o1,e1,_⟩,⟨o2,e2,_⟩,⟨o3,e3,_⟩,⟨oO,gO⟩,gg⟩:=st;intro p hp;have e':p=z\/p=TI\/p=TO\/p=i1\/p=i2\/p=i3:=by simpa using hp
   rcases e' with q | q | q | q | q | q
   ·rw [q];rcases gg with ⟨g,_⟩ | ⟨_,_,_,g,_⟩ <;> exact Heap.lt_size g
   ·rw [q];exact Heap.lt_size gI
   ·rw [q];exact Heap.lt_size gO
   ·rw [q];exact Heap.lt_size e1
   ·rw [q];exact Heap.lt_size e2
   ·rw [q];exact Heap.lt_size e3
  refine codeAny_builtin PySem.F.entry_extend_loop ?_;rw [Around.under_plainId PySem.F.plain_extend_loop _];show wpAny _ A.in1 (pyNext (.ref z) >>= _) _ _ _;refine wpAny_bind (vO (A:=A.in1) D st hSl ⟨olt z (by simp),olt TO (by simp),olt i1 (by simp),olt i2 (by simp),olt i3 (by simp)⟩ p1.isList p2.isList p3.isList (x:=w1) (y:=w2) (u:=w3) (by simpa using hw1) (by simpa using hw2) (by simpa using hw3) λh' st' hT hsz kz=>?_);have new:ObjOk X.prog X.w (upd H s.heap.objs.size (.tup [.int us[i],.int vs[i],.int ws[i]])) h' s.heap.objs.size (.tup [.int us[i],.int vs[i],.int ws[i]]) :=
   ⟨by show 3<=sizeLine;decide,[w1,w2,w3],.cons ru1 (.cons ru2 (.cons ru3 .nil)),⟨_,hT,rfl,_,rfl⟩⟩
  have fresh:H s.heap.objs.size=none:=I.hok.fresh (Nat.le_refl _);have I1:Inv X pins σ (upd H s.heap.objs.size (.tup [.int us[i],.int vs[i],.int ws[i]])) { s with heap:=h' } :=
   I.turnedNew (t':=s.toks) (ch:=[z,TI,TO,i1,i2,i3]) (λp o hb q=>kz p o (λq'=>hb (by simp [q'])) (λq'=>hb (by simp [q'])) (λq'=>hb (by simp [q'])) (λq'=>hb (by simp [q'])) (λq'=>hb (by simp [q'])) q) hf (Nat.le_refl _) new
  have s2:=same_upd (o:=.tup [.int us[i],.int vs[i],.int ws[i]]) fresh;obtain ⟨zl2,sits2,n2,sr2,sl2,se2⟩:=I1.lstM (s2 _ _ g1);show wpAny _ A.in1 (updateSeq S (·.push (Value.ref s.heap.objs.size)) >>= _) _ _ _;refine wpAny_bind ?_;have I2:=I1.lset (its':=sits2++[Value.ref s.heap.objs.size]) (f:=(·.push (Value.ref s.heap.objs.size))) (t':=s.toks) (s2 _ _ g1) se2 (by simp) (sr2.append (.cons (show RelV (.ref s.heap.objs.size) _ from rfl) .nil)) (by rw [List.length_append,List.length_map,hlen];rw [List.length_map] at zz;show i+1<=_;omega);have hsz2:sits2.length=i:=by rw [<- sl2,List.length_map,hlen]
  refine wpAny_updateSeq se2 rfl (wpAny_pure ⟨plainId_quiet PySem.F.plain_extend_loop _,ih (i+1) _ _ (by omega) hlt I2 (λp hp=>?_) (st'.keep nS λb o hb e=>(Heap.get?_update_other _ _ (Ne.symm hb)).trans e) ?_ ?_⟩) ?_ ?_
  ·obtain ⟨_,r⟩:=hf p hp;have nSp:p≠S:=by
    have e':p=z\/p=TI\/p=TO\/p=i1\/p=i2\/p=i3:=by simpa using hp
    obtain ⟨n1,n2,n3,n4,n5,n6⟩:=nS;rcases e' with q | q | q | q | q | q <;> rw [q] <;> (apply Ne.symm;assumption)
   refine ⟨?_,r⟩;rw [upd_ne nSp,upd_ne (Nat.ne_of_lt (olt p hp))];exact (hf p hp).1
  ·intro b o e;rw [upd_ne (ne_of_none e hSn)];exact s2 _ _ (s1 _ _ e)
  ·have ez:(us.zip (vs.zip ws)).take (i+1)=(us.zip (vs.zip ws)).take i++[(us[i],vs[i],ws[i])]:=by
    rw [List.take_succ,(List.getElem?_zip_eq_some (z:=(us[i],vs[i],ws[i]))).mpr ⟨List.getElem?_eq_getElem hlt,(List.getElem?_zip_eq_some (z:=(vs[i],ws[i]))).mpr ⟨List.getElem?_eq_getElem (by omega),List.getElem?_eq_getElem (by omega)⟩⟩];rfl
   obtain ⟨refs',k1,k2,k3⟩:=L.snoc (x:=(us[i],vs[i],ws[i])) (p:=s.heap.objs.size) s2 (λr y o hn q=>by show upd _ _ _ _=_;rw [upd_ne hn];exact q) (λr y q=>gL _ _ _ _ s2 q) (Nat.ne_of_gt hSl) upd_same;have er:refs'=refs:=by
    have e1:=(s2 _ _ g1).symm.trans k1;simp only [Option.some.injEq,HO.lst.injEq] at e1;exact ((List.map_inj_right (λx y q=>V.ref.inj q)).mp e1).symm
   rw [er] at k3;rw [ez];exact k3
  ·rw [List.size_toArray,hsz2];rw [List.length_map] at zz;omega
  ·show (sits2.toArray.push (Value.ref s.heap.objs.size)).size<=sizeLine+1;rw [Array.size_push,List.size_toArray,hsz2];rw [List.length_map] at zz;omega
inductive Ao (K:W.Frag)(Q:VK)(vs:List V)(H1:Hp):Prop
 | mk (a b c:Addr) (us ws zs:List Int):(vs=[.ref a,.ref b,.ref c])->(SqL K H1 a (us.map V.int))->(SqL K H1 b (ws.map V.int))->(SqL K H1 c (zs.map V.int))->(us.length=ws.length)->(us.length=zs.length)->(∀p H',Same H1 H'->H1 p=none->ListOf mt H' p (us.zip (ws.zip zs))->Q (.ref p) H')->Ao K Q vs H1
def tLZ (K:W.Frag)(ta:TA):TE:=λσ H Q=>ta σ H λvs H1=>Ao K Q vs H1
end
theorem rc {X:Cx}{e e2 e3:Expr}{ta:TA}{p q pos1 pos:Pos} (hc:X.calm=true) (hgl:Gl X "list") (hml:X.mg "list"=none) (hg:Gl X "zip") (hm:X.mg "zip"=none) (ha:PA X [e,e2,e3] ta)
  (hs1:starEach [.Call (.Name "zip" p) [e,e2,e3] [] pos] X.env=[(false,eval (.Call (.Name "zip" p) [e,e2,e3] [] pos) X.env)]:=by rfl)
  (hs:starEach [e,e2,e3] X.env=(false,eval e X.env)::starEach [e2,e3] X.env:=by rfl) (hpl:(backTo pos (starEach [e2,e3] X.env)).any (·.1)=false:=by rfl) :
  PE X (.Call (.Name "list" q) [.Call (.Name "zip" p) [e,e2,e3] [] pos] [] pos1) (tLZ X.K ta):=by
 intro pins s σ H Q I h;refine wpAny_Call_Name_kw (ld_blt I hgl hml boot_list ?_ (by decide) (by decide));refine PyProof.Rows.callWith_type1 ?_ hs1 rfl;rw [hs1];show wpAny _ _ (spliced [(false,eval (.Call (.Name "zip" p) [e,e2,e3] [] pos) X.env)]) _ _ s;refine Calls.spliced_cons ?_;refine Call_ (ld_blt I hg hm boot_zip5 (PyProof.Rows.callWith_type1 (thn (ha pos pins s σ H _ I h) λus s1 hz=>?_) hs hpl));obtain ⟨vs,H1,I1,r1,q1⟩:=hz;obtain ⟨a,b,c,l1,l2,l3,ex,hqx,hqy,hqz,e12,e13,fin⟩:=q1;subst ex;obtain ⟨u1,u2,u3,rfl,r,r',r''⟩:∃u1 u2 u3,us=[u1,u2,u3]/\RelV (.ref a) u1/\RelV (.ref b) u2/\RelV (.ref c) u3:=by
  cases r1 with
  | cons r rr =>
   cases rr with
   | cons r' rr =>
    cases rr with
    | cons r'' rr =>
     cases rr;exact ⟨_,_,_,rfl,r,r',r''⟩
 cases r;cases r';cases r'';obtain ⟨its,rv,p1,_⟩:=I1.list hqx;obtain ⟨its2,rv2,p2,_⟩:=I1.list hqy;obtain ⟨its3,rv3,p3,_⟩:=I1.list hqz;have la:a<s1.heap.objs.size:=p1.lt;have lb:b<s1.heap.objs.size:=p2.lt;have lc:c<s1.heap.objs.size:=p3.lt;refine pc p1.isList p2.isList p3.isList λh' hz hTI hTO h1 h2 h3 hk=>?_;have I2:Inv X pins σ H1 { s1 with heap:=h' }:=I1.kept (t':=s1.toks) hk;have D:Apart3 (s1.heap.objs.size+5) (s1.heap.objs.size+3) (s1.heap.objs.size+4) s1.heap.objs.size (s1.heap.objs.size+1) (s1.heap.objs.size+2) a b c:=by
  generalize s1.heap.objs.size=n at *;have hA:∀l:Addr,l<n->l≠n+5/\l≠n+4/\l≠n/\l≠n+1/\l≠n+2:=λl hl =>
   ⟨Nat.ne_of_lt (Nat.lt_of_lt_of_le hl (Nat.le_add_right n 5)),Nat.ne_of_lt (Nat.lt_of_lt_of_le hl (Nat.le_add_right n 4)),Nat.ne_of_lt hl,Nat.ne_of_lt (Nat.lt_of_lt_of_le hl (Nat.le_add_right n 1)),Nat.ne_of_lt (Nat.lt_of_lt_of_le hl (Nat.le_add_right n 2))⟩
  refine ⟨λi hi=>?_,⟨?_,?_⟩,?_,⟨?_,?_,?_⟩,λl hl=>?_⟩
  ·have e':i=n\/i=n+1\/i=n+2:=by simpa using hi
   rcases e' with q | q | q
   ·subst q;exact ⟨Nat.ne_of_lt (Nat.lt_add_of_pos_right (by decide)),Nat.ne_of_lt (Nat.lt_add_of_pos_right (by decide)),Nat.ne_of_lt (Nat.lt_add_of_pos_right (by decide))⟩
   ·subst q;exact ⟨Nat.ne_of_lt (Nat.add_lt_add_left (by decide) n),Nat.ne_of_lt (Nat.add_lt_add_left (by decide) n),Nat.ne_of_lt (Nat.add_lt_add_left (by decide) n)⟩
   ·subst q;exact ⟨Nat.ne_of_lt (Nat.add_lt_add_left (by decide) n),Nat.ne_of_lt (Nat.add_lt_add_left (by decide) n),Nat.ne_of_lt (Nat.add_lt_add_left (by decide) n)⟩
  ·exact Nat.ne_of_lt (Nat.add_lt_add_left (by decide) n)
  ·exact Nat.ne_of_lt (Nat.add_lt_add_left (by decide) n)
  ·exact Nat.ne_of_lt (Nat.add_lt_add_left (by decide) n)
  ·exact Nat.ne_of_lt (Nat.lt_add_of_pos_right (by decide))
  ·exact Nat.ne_of_lt (Nat.lt_add_of_pos_right (by decide))
  ·exact Nat.ne_of_lt (Nat.add_lt_add_left (by decide) n)
  ·have e':l=a\/l=b\/l=c:=by simpa using hl
   rcases e' with q | q | q
   ·subst q;exact hA _ la
   ·subst q;exact hA _ lb
   ·subst q;exact hA _ lc
 refine Calls.spliced_nil ?_;refine zcall (s:={ s1 with heap:=h' }) hz λh2' c1 hk2 hS R hR=>?_;have hn0:H1 h'.objs.size=none:=I2.hok.fresh (Nat.le_refl _);have I3:Inv X pins σ (upd H1 h'.objs.size (.lst [])) { s1 with heap:=h2' }:=I2.laid (t':=s1.toks) hk2 (Nat.le_refl _) (show ObjOk X.prog X.w _ h2' _ (.lst []) from ⟨Nat.zero_le _,[],c1,.nil,hS⟩);have z5:s1.heap.objs.size+5<h'.objs.size:=Heap.lt_size hz;have lt:∀j,j<=5->s1.heap.objs.size+j<h'.objs.size:=λj hj=>Nat.lt_of_le_of_lt (Nat.add_le_add_left hj _) z5;have hne:∀j,j<=5->h'.objs.size≠s1.heap.objs.size+j:=λj hj=>Nat.ne_of_gt (lt j hj);refine A8 (X:=X) (pins:=pins) (σ:=σ) (H1:=H1) (us:=l1) (vs:=l2) (ws:=l3) (A:=X.A.in1) (I1.ok.hd hc) D ⟨hne 5 (by decide),hne 3 (by decide),hne 4 (by decide),hne 0 (by decide),hne 1 (by decide),hne 2 (by decide)⟩ hqx hqy hqz e12 e13 hn0 .none
  (λH' s' I' sm L=>hR s' ⟨.ref h'.objs.size,H',I',rfl,fin _ _ sm hn0 L⟩) l1.length 0 _ _ (Nat.sub_zero _) (Nat.zero_le _) I3 (λpp hpm=>?_) ?_ (same_upd hn0) (ListOf.nil upd_same)
 ·have e':pp=s1.heap.objs.size+5\/pp=s1.heap.objs.size+3\/pp=s1.heap.objs.size+4\/pp=s1.heap.objs.size\/pp=s1.heap.objs.size+1\/pp=s1.heap.objs.size+2:=by simpa using hpm
  obtain ⟨j,hj,rfl⟩:∃j,j<=5/\pp=s1.heap.objs.size+j:=by
   rcases e' with z | z | z | z | z | z
   ·exact ⟨5,by decide,z⟩
   ·exact ⟨3,by decide,z⟩
   ·exact ⟨4,by decide,z⟩
   ·exact ⟨0,by decide,z⟩
   ·exact ⟨1,by decide,z⟩
   ·exact ⟨2,by decide,z⟩
  refine I1.fpOk (Nat.le_add_right _ _) ?_;rw [upd_ne (Nat.ne_of_lt (lt j hj))];exact I1.hok.fresh (Nat.le_add_right _ _)
 ·exact ⟨hk2 _ _ hTI,h1.at λo q=>hk2 _ o q,h2.at λo q=>hk2 _ o q,h3.at λo q=>hk2 _ o q,⟨_,hk2 _ _ hTO⟩,.inl ⟨hk2 _ _ hz,_,_,_,hk2 _ _ hTO⟩⟩
end TW
namespace TW
open PySem PySem.Spec PyProof.Rows L2
def okX (M:Model)(A:Around)(E:Value->Shared->Prop)(use:Option (Value->Sem Unit))(Q:Value->Shared->Prop)(acc:Value)(C:Addr)(s':Shared):Prop:=match use with
 | none=>∃m,s'.heap.Ns C m/\∀h',Heap.SameBut C s'.heap h'->Q acc { s' with heap:=h' }
 | some u=>wpAny M A (u acc) (λ_ s''=>∃m,s''.heap.Ns C m/\∀h',Heap.SameBut C s''.heap h'->Q .none { s'' with heap:=h' }) E s'
def cpX (M:Model)(A:Around)(E:Value->Shared->Prop)(use:Option (Value->Sem Unit))(Q:Value->Shared->Prop)(acc:Value)(cenv:Env)(r:Result)(s':Shared):Prop:=match r with
 | .ok _=>okX M A E use Q acc cenv.locals s'
 | .error x=>∃m,s'.heap.Ns cenv.locals m/\∀h' m',h'.Ns cenv.locals m'->Heap.SameBut cenv.locals s'.heap h'->wpAny M A (passOn "comprehension.variables-let-go" x cenv:Sem Value) (λ_ _=>False) E { s' with heap:=h' }
section
variable {M:Model}{A:Around}{E:Value->Shared->Prop}{s:Shared}{env:Env}
theorem t8 {e:Expr}{scope:Scope}{pos:Pos}{newAcc first:Sem Value}{g:Comprehension}{gs:List Comprehension}{cl:List (Str×Addr)}{use:Option (Value->Sem Unit)}{Q:Value->Shared->Prop}
  (hcl:clausesOf e=g::gs) (hs:∀x,foldedSetIterable g.iter env x=pure x) (hclos:closureFor scope env=pure cl)
  (hkind:scope.kind=.function) (hnames:∀x∈scope.names,x.2=.local->scope.names.lookup x.1=some .local)
  (h:wpAny M A first (λx s₁=>wpAny M A (pyIter x) (λit s₂=>wpAny M A newAcc (λacc s₃ =>
   wpAny M A (newFunctionEnv scope env.globals cl [] env.qual none .none (some env)) (λcenv s₄ =>
    codeAny M A (.compStart e 0 it acc { cenv with scope:=relabel scope env }) (cpX M A E use Q acc { cenv with scope:=relabel scope env }) s₄) E s₃) E s₂) E s₁) E s) :
  wpAny M A (comprehension e scope env pos newAcc false first use) Q E s:=by
 unfold comprehension;rw [hclos,hcl];refine wpAny_bind (wpAny_mono h (λx s₁ h₁=>wpAny_bind (wpAny_standAt (wpAny_bind (wpAny_of_eq (hs x) (wpAny_bind (wpAny_holding (wpAny_mono h₁ (λit s₂ h₂ =>
  wpAny_standIf (wpAny_bind (wpAny_mono h₂ (λacc s₃ h₃=>wpAny_bind (wpAny_pure (wpAny_bind (wpAny_mono h₃ (λcenv s₄ h₄=>?_) λ_ _ h'=>h')))) λ_ _ h'=>h')))
   λ_ _ h'=>h'))))))) λ_ _ h'=>h')
 dsimp only;have hv:∀x∈(scope.names.filter λx=>(x.2==.local||x.2==.cell)&&x.1 != (".0":Str)).reverse,x.2=.local ->
   Env.kindOf { cenv with scope:=relabel scope env } x.1=some .local:=λx hx hl=>lookup_relabel_local (hnames x (List.mem_filter.mp (List.mem_reverse.mp hx)).1 hl)
 refine wpAny_holding (wpAny_bind (wpAny_attempt (wpAny_holding (wpAny_run (codeAny_mono h₄ λr s' hr=>?_)))));cases r with
 | ok f =>
  cases use with
  | none =>
   obtain ⟨m,hn,hr⟩:=hr;exact wpAny_bind (wpAny_holding (wpAny_comp_letGo (cenv:={ cenv with scope:=relabel scope env }) hkind _ s' m hv hn λh' m' _ hs'=>wpAny_pure (hr h' hs')))
  | some u =>
   refine wpAny_bind (wpAny_rule (wpAny_bind (wpAny_holding (wpAny_mono hr (λ_ s'' hr'=>?_) λ_ _ h'=>h'))));obtain ⟨m,hn,hr'⟩:=hr';refine wpAny_bind (wpAny_comp_letGo (cenv:={ cenv with scope:=relabel scope env }) hkind _ s'' m (λx hx hl=>?_) hn λh' m' _ hs'=>wpAny_pure (hr' h' hs'));rcases List.mem_append.mp hx with h1 | h1
   ·exact hv x (List.mem_of_mem_drop h1) hl
   ·exact hv x (List.mem_of_mem_take h1) hl
 | error x =>
  obtain ⟨m,hn,hr⟩:=hr;exact wpAny_bind (wpAny_holding (wpAny_comp_letGo (cenv:={ cenv with scope:=relabel scope env }) hkind _ s' m hv hn λh' m' hm' hs'=>wpAny_mono (hr h' m' hm' hs') (λ_ _ f=>f.elim) λ_ _ y=>y))
end
section
variable {X:Cx}{E:XK}{a:Addr}{cls:Value}{B:Heap}{H':Hp}{s':Shared}
theorem vQ {M:Model}{A:Around}{Ex:Value->Shared->Prop}{Q:Unit->Shared->Prop}{e:Value}{env env':Env} (h:env.frame=env'.frame) (w:wpAny M A (noteFrame e env') Q Ex s'):wpAny M A (noteFrame e env) Q Ex s':=by
 have:noteFrame e env=noteFrame e env':=by
  unfold noteFrame PySem.frameOf;rw [h]
 rw [this];exact w
theorem FlyAt.note2 {M:Model}{Ex:Value->Shared->Prop}{Q:Unit->Shared->Prop} (F:FlyAt X E a cls B H' s') (G:qH B a cls X.env.locals s'.heap) (Pl:Plain X) {A:Around} (hfr:A.frames=some X.stack)
  (hQ:∀h' a0,FlyAt X E a cls B H' { s' with heap:=h' }->h'.TracedAtW B a cls a0 (rawInt X.env.locals)->s'.heap.UpToSlots h'->Q () { s' with heap:=h' }):wpAny M A (noteFrame (.ref a) X.env) Q Ex s':=by
 have hl:s'.heap.FunFrames B (X.env::X.outer):=by rw [<- Pl.stk];exact F.funs
 rw [Pl.stk] at hfr;cases G with
 | fresh oe vs a0 he hc hd h1 h0 =>
  unfold noteFrame;simp only [Pl.fr];refine wpAny_bind (wpAny_field he hd h1 ?_);rw [if_neg (by decide)];refine wpAny_entryW hfr hl Pl.fr he F.stays F.new hd (Array.getElem?_eq_some_iff.mp h1).1 h0 λh' ⟨k1,k2,k3,k4⟩=>?_;rw [hc] at k3;exact hQ h' a0 (F.move Pl k1 (by rw [Pl.stk];exact k2) k4) k3 k4
 | fly a0 ht =>
  refine wpAny_noteFrame_onW hfr hl Pl.fr ht F.stays F.new λh' hz=>?_;obtain ⟨k1,k2,k3,k4⟩:=hz;exact hQ h' a0 (F.move Pl k1 (by rw [Pl.stk];exact k2) k4) k3 k4
 | held a0 ht=>exact wpAny_noteFrame_againW Pl.fr ht (hQ s'.heap a0 F ht (Heap.UpToSlots.refl _))
theorem FlyAt.swap {C:Addr}{m m':Str->Option Value}{h':Heap}{a0 fl:Value} (F:FlyAt X E a cls B H' s') (Pl:Plain X) (ht:s'.heap.TracedAtW B a cls a0 fl) (hn:s'.heap.Ns C m) (hm:h'.Ns C m') (sb:Heap.SameBut C s'.heap h') (hC:H' C=none) (hnew:X.s₀.heap.objs.size<=C) (hstk:C ∉ L2.frs X.stack) :
  ∃B',FlyAt X E a cls B' H' { s' with heap:=h' }/\h'.TracedAtW B' a cls a0 fl:=by
 obtain ⟨oC,es,ep,hoC,hdC,_⟩:=id hn;obtain ⟨oC',es',ep',hoC',hdC',_⟩:=id hm;have nfree:oC'.isFreed=false:=by
  obtain ⟨c1,c2,dt,c4⟩:=oC';dsimp only at hdC';subst hdC';rfl
 obtain ⟨B',hB1,hB2,hB3⟩:∃B':Heap,(∀b,b≠C->B'.get? b=B.get? b)/\(∀o,B'.get? C=some o->o=oC')/\(B.get? C=none->B'.get? C=none):=by
  rcases e:B.get? C with _ | o
  ·exact ⟨B,λ_ _=>rfl,(λo q=>by rw [e] at q;cases q),λ_=>e⟩
  ·exact ⟨B.update C λ_=>oC',λb hb=>Heap.get?_update_other _ _ (Ne.symm hb),λo' q=>by rw [Heap.get?_update_self _ e nfree] at q;exact (Option.some.inj q).symm,λq=>by cases q⟩
 have none_of:∀b,B.get? b=none->B'.get? b=none:=λb q=>by
  by_cases hb:b=C
  ·rw [hb] at q ⊢;exact hB3 q
  ·rw [hB1 b hb];exact q
 have frC:∀b o,s'.heap.get? b=some o->(∃vs,o.data=.fields vs)->b≠C:=λb o e ⟨vs,q⟩ z=>by
  rw [z,hoC] at e;cases e;rw [hdC] at q;cases q
 have st:B'.StaysIn h':=λb o q=>by
  by_cases hb:b=C
  ·subst hb;rw [hB2 o q];exact hoC'
  ·rw [hB1 b hb] at q;exact (sb.2 b hb).trans (F.stays b o q)
 have old:∀b o,X.s₀.heap.get? b=some o->b≠C:=λb o e z=>Nat.lt_irrefl _ (Nat.lt_of_lt_of_le (z▸Heap.lt_size e) hnew);have funs:∀{l:List Env},C ∉ L2.frs l->s'.heap.FunFrames B l->h'.FunFrames B' l:=by
  intro l
  induction l with
  | nil=>intro _ _;trivial
  | cons env r ih =>
   rintro hc ⟨k1,⟨L,o,hf,hb,ho,hd⟩,k3⟩;unfold L2.frs at hc;rw [List.filterMap_cons,hf] at hc;have nL:L≠C:=λz=>hc (by rw [z];exact List.mem_cons_self);exact ⟨k1,⟨L,o,hf,none_of _ hb,(sb.2 L nL).trans ho,hd⟩,ih (λz=>hc (List.mem_cons_of_mem _ z)) k3⟩
 refine ⟨B',⟨F.os,F.bare,⟨λb o e n hb=>?_,F.un.free,λb o e hb=>?_,F.un.tups,F.un.frzs,F.un.tbls⟩,λb o e hb=>?_,F.frs,λb u e=>?_,?_,st,none_of _ F.new,funs hstk F.funs,F.wish⟩,?_⟩
 ·rw [hB1 b (old b o e)];exact F.un.keep b o e n hb
 ·rw [hB1 b (old b o e)];exact F.un.there b o e hb
 ·obtain ⟨sl,q⟩:=F.slots b o e hb;exact ⟨sl,(sb.2 b (old b o e)).trans q⟩
 ·refine (F.hok b u e).stay (λc v hc q=>?_) (λ_ q=>q) λ_ _ q=>q;have nc:c≠C:=λz=>by
   rcases hc with hc | hc
   ·rw [<- hc,z,hC] at e;cases e
   ·rw [z,hC] at hc;cases hc
  rw [hB1 c nc];exact q
 ·obtain ⟨mm,oL,e1,e2,hoL,r⟩:=F.ns;have nL:X.env.locals≠C:=λz=>hstk (z▸mM Pl);exact ⟨mm,oL,e1,e2,(sb.2 _ nL).trans hoL,r⟩
 ·obtain ⟨oe,vs,T,oT,ts,he,hc,hd,h1,hnT,hTe,hT,hdT,h3⟩:=ht;exact ⟨oe,vs,T,oT,ts,(sb.2 a (frC a oe he ⟨vs,hd⟩)).trans he,hc,hd,h1,none_of _ hnT,hTe,(sb.2 T (frC T oT hT ⟨ts,hdT⟩)).trans hT,hdT,h3⟩
theorem FlyAt.pass {M:Model}{A:Around}{what:String}{env:Env}{a0 fl:Value} (F:FlyAt X E a cls B H' s') (ht:s'.heap.TracedAtW B a cls a0 fl) (Pl:Plain X) (hf:env.frame=X.env.frame):wpAny M A (passOn what (.ref a) env:Sem Value) (λ_ _=>False) (XFly X E) s':=by
 obtain ⟨oe,vs,T,oT,ts,he,hc,hd,h1,hnT,hTe,hT,hdT,h3⟩:=ht;unfold PySem.passOn;refine wpAny_bind (wpAny_field he hd h1 ?_);rw [if_neg (show ¬((Value.ref T==Value.none)=true) from by simp),hf,Pl.fr];have hsz3:3<ts.size:=(Array.getElem?_eq_some_iff.mp h3).1;have other:∀b,b≠T->(s'.heap.update T (Obj.mapFields (·.setIfInBounds 3 (rawInt X.env.locals)))).get? b=s'.heap.get? b:=λb hb=>Heap.get?_update_other _ _ (Ne.symm hb);have noR:∀b o,s'.heap.get? b=some o->(∀vs,o.data≠.fields vs)->b≠T:=λb o hb hnf q=>by
  rw [q,hT] at hb;cases hb;exact hnf ts hdT
 unfold setFlight;refine wpAny_bind (wpAny_bind (wpAny_field he hd h1 ?_));rw [if_pos (show (Value.ref T != Value.none)=true from by simp)];refine wpAny_setField hT hdT hsz3 (wpAny_throw ⟨a,cls,B,H',rfl,F.move Pl (λb o q=>(other b λz=>by rw [z,hnT] at q;cases q).trans (F.stays b o q)) (F.funs.of_keeps λb o q nf=>⟨o,(other b (noR b o q nf)).trans q,rfl⟩) (λb o q nf=>⟨o.slots,(other b (noR b o q nf)).trans q⟩),.held a0 ?_⟩);exact ⟨oe,vs,T,_,_,(other a (Ne.symm hTe)).trans he,hc,hd,h1,hnT,hTe,Heap.get?_update_self _ hT (Obj.isFreed_of_fields (Obj.data_mapFields hdT _)),Obj.data_mapFields hdT _,by simp [hsz3]⟩
end
inductive XB (X0:Cx)(E:XK)(C:Addr)(e:Value)(s':Shared):Prop
 | mk (a:Addr) (cls:Value) (B:Heap) (H':Hp):(e=.ref a)->(FlyAt X0 E a cls B H' s')->(qH B a cls X0.env.locals s'.heap)->((∃m,s'.heap.Ns C m))->(H' C=none)->XB X0 E C e s'
abbrev blkX (X X0:Cx)(E:XK)(s:Shared)(H:Hp)(scope:Scope)(cl:List (Str×Addr))(C:Addr)(fp:List Addr):Cx:=(X.blk s H scope (compEnvC scope cl C X.env) fp).wish (XB X0 E C)
section
variable {X:Cx}{E:XK}
theorem xh (Pl:Plain X){pins:List (Addr×Obj)}{σ:L2.St}{H:Hp}{s:Shared}{e:Value}{s':Shared}{C:Addr}{m:Str->Option Value} (I:Inv X pins σ H s) (hx:CX1 X.prog X.w X.stack H s E e s') (hn:s.heap.Ns C m) (hC:H C=none) (hstk:C ∉ L2.frs X.stack):XB X E C e s':=by
 obtain ⟨a,cls,a0,B,H',rfl,os,bare,un,sl,fr,hok,fl,wish⟩:=hx;have noex:∀b,b ∉ X.ex:=λb z=>by rw [Pl.ex] at z;cases z
 have nstk:∀b o,X.s₀.heap.get? b=some o->b ∉ X.fs->b ∉ frs X.stack:=λb o e hb z=>by
  rcases List.mem_cons.mp (I.stkSub b z) with q | q
  ·exact Nat.lt_irrefl _ (Nat.lt_of_lt_of_le (q▸Heap.lt_size e) I.ok.above)
  ·exact hb q
 refine ⟨a,cls,B,H',rfl,⟨os.trans I.os,bare,⟨λb o e n hb=>?_,λb o e n=>?_,λb o e hb=>?_,λb xs e=>un.tups b xs (I.base.tups b xs e),λb o u e=>un.frzs b o u (I.base.frzs b o u e),λb ps e=>?_⟩,λb o e hb=>?_,fr,hok,?_,fl.1,fl.2.1,fl.2.2.1,wish⟩,.fly a0 fl.2.2.2,?_,?_⟩
 ·exact un.keep b o (I.base.keep b o e n hb (noex b)) (I.base.free b o e n (noex b)) (nstk b o e hb)
 ·obtain ⟨o',q⟩:=I.base.there b o e (noex b);exact un.free b o' q (I.base.free b o e n (noex b))
 ·obtain ⟨o',q⟩:=I.base.there b o e (noex b);exact un.there b o' q (nstk b o e hb)
 ·obtain ⟨m1,e1⟩:=I.base.tbls b ps e;obtain ⟨m2,e2⟩:=un.tbls b _ e1;exact ⟨m1++m2,by rw [e2,Array.append_assoc]⟩
 ·obtain ⟨s1,q1⟩:=I.base.slot b o e (I.ok.frf b hb) hb (noex b);obtain ⟨s2,q2⟩:=sl b _ q1 (sg Pl hb);exact ⟨s2,q2⟩
 ·obtain ⟨m,⟨o,es,ep,ho,hd,r⟩,_⟩:=I.loc;obtain ⟨s2,q2⟩:=sl _ o ho (mM (X:=X) Pl);exact ⟨m,_,es,ep,q2,hd,r⟩
 ·obtain ⟨o,es,ep,ho,hd,r⟩:=hn;exact ⟨m,o,es,ep,fl.1 _ _ (un.keep C o ho hC hstk),hd,r⟩
 ·obtain ⟨o,es,ep,ho,hd,r⟩:=hn;exact un.free C o ho hC
end
section
variable {X X0:Cx}
theorem lcx_core {E:XK}{pins:List (Addr×Obj)}{s:Shared}{σ:L2.St}{H:Hp}{Q:VK}{elt tg iter:Expr}{ifs:List Expr}{scope:Scope}{own:List (Str×Nat)}{pos pos':Pos}{wi:TI}{g:TG}{tt:TT}{te:TE}{use:Option (Value->Sem Unit)}{Qf:Value->Shared->Prop}
  (Pl:Plain X0) (eX:X=X0.wish (XFly X0 E)) (hc:X.calm=true) (hN:X.N.Nodup) (I:Inv X pins σ H s) (hi:PI X tg iter wi) (ok:BlkOk X.N X.env.scope scope own)
  (hg:∀(s:Shared) (H:Hp) (C:Addr) (cl:List (Str×Addr)) (fp:List Addr),PG (X.blk s H scope (compEnvC scope cl C X.env) fp) tg g) (ht:∀(s:Shared) (H:Hp) (C:Addr) (cl:List (Str×Addr)) (fp:List Addr),PTs (X.blk s H scope (compEnvC scope cl C X.env) fp) ifs tt)
  (he:∀(s:Shared) (H:Hp) (C:Addr) (cl:List (Str×Addr)) (fp:List Addr),cy (CX1 X.prog X.w) (blkX X X0 E s H scope cl C fp) E->PE (blkX X X0 E s H scope cl C fp) elt te) (hs:∀x,foldedSetIterable iter X.env x=pure x)
  (h:tLc wi g tt te (own.map (·.2)) σ H Q)
  (hRR:∀D C s' m H',Inv X pins σ H' s'->Q (.ref D) H'->s'.heap.Ns C m->FpOk X pins H' C->okX (model X.prog X.w) X.A X.xe use Qf (.ref D) C s') :
  wpAny (model X.prog X.w) X.A (comprehension (.ListComp elt [⟨tg,iter,ifs,0⟩] scope pos) scope X.env pos' (newList []) false (eval iter X.env) use) Qf X.xe s:=by
 have hfree:∀y∈scope.names,y.2=.free->∃c,X.env.cells.lookup y.1=some c:=λy hy e=>by
  rcases ok.free y hy e with k | k
  ·exact I.ok.has _ (.inl k)
  ·exact I.ok.has _ (.inr k)
 have hfrX:X.A.frames=some X.stack:=I.ok.frames;refine t8 rfl hs (l6 hfree) ok.kind (λy hy e=>by rw [ok.uniq y hy,e])
  (thn (hi pins s σ H _ I h) λxv s1 hx=>thn hx λitv s2 h2=>?_)
 obtain ⟨it,fp,tn,J,H2,e,I2,T,st2,f2,q⟩:=h2;subst e;refine wpAny_newObj_type (newEnv_comp ?_) (by show 0<=sizeLine;decide);generalize hD:s2.heap.objs.size=D;have hDn:H2 D=none:=I2.hok.fresh (Nat.le_of_eq hD);obtain ⟨W,⟨m0,w0⟩,turn⟩:=q D hDn;generalize hs3:({ s2 with heap:=s2.heap.push { cls:=.type "list",data:=.seq ([]:List Value).toArray } }:Shared)=s3;have I3:Inv X pins σ (upd H2 D (.lst [])) s3:=by
  rw [<- hs3];refine I2.laid (t':=s2.toks) (λb o e=>Heap.get?_push_of_some _ e) (Nat.le_of_eq hD) ⟨Nat.zero_le _,[],0,.nil,?_⟩;rw [<- hD];exact Heap.get?_push_size _ rfl
 have h3:s3.heap=s2.heap.push { cls:=.type "list",data:=.seq ([]:List Value).toArray }:=by rw [<- hs3]
 have sz:∀b∈fp,b<s2.heap.objs.size:=λb hb=>by
  obtain ⟨o,e,_⟩:=T.obj _ _ st2 b hb;exact Heap.lt_size e
 have f3:∀b∈fp,FpOk X pins (upd H2 D (.lst [])) b/\b<s3.heap.objs.size:=λb hb=>by
  have hlt:=sz b hb;refine ⟨⟨?_,(f2 b hb).2⟩,by rw [h3,Heap.size_push];exact Nat.lt_succ_of_lt hlt⟩;rw [upd_ne (by rw [<- hD];exact Nat.ne_of_lt hlt)];exact (f2 b hb).1
 have st3:tn 0 s3.heap:=T.keep _ _ _ st2 λb _ o e=>by rw [h3];exact Heap.get?_push_of_some _ e
 have I4:=kd I3 ok hN f3;have pg:=hg s3 (upd H2 D (.lst [])) s3.heap.objs.size (cellsFrom (s3.heap.objs.size+1) scope.names (aK X.env.cells scope.names [])) fp;have pt:=ht s3 (upd H2 D (.lst [])) s3.heap.objs.size (cellsFrom (s3.heap.objs.size+1) scope.names (aK X.env.cells scope.names [])) fp;have pe:=he s3 (upd H2 D (.lst [])) s3.heap.objs.size (cellsFrom (s3.heap.objs.size+1) scope.names (aK X.env.cells scope.names [])) fp;show codeAny _ _ (.compStart (.ListComp elt [⟨tg,iter,ifs,0⟩] scope pos) 0 (.ref it) (.ref D) (compEnvC scope (cellsFrom (s3.heap.objs.size+1) scope.names (aK X.env.cells scope.names [])) s3.heap.objs.size X.env)) (cpX (model X.prog X.w) X.A X.xe use Qf (.ref D) (compEnvC scope (cellsFrom (s3.heap.objs.size+1) scope.names (aK X.env.cells scope.names [])) s3.heap.objs.size X.env)) { s3 with heap:=pushCells (s3.heap.push { cls:=.type "dict",data:=.dict #[] }) scope.names };have nfp:∀b∈fp,(upd H2 D (.lst [])) b=none:=λb hb=>(f3 b hb).1.1;unfold blkX at pe;generalize hce:compEnvC scope (cellsFrom (s3.heap.objs.size+1) scope.names (aK X.env.cells scope.names [])) s3.heap.objs.size X.env=ce at I4 pg pt pe ⊢;have cL:ce.locals=s3.heap.objs.size:=by subst hce;rfl
 have cF:ce.frame=X0.env.frame:=by subst hce;subst eX;rfl
 generalize hH3:upd H2 D (.lst [])=H3 at I3 I4 pg pt pe w0 nfp f3;generalize hs4:({ s3 with heap:=pushCells (s3.heap.push { cls:=.type "dict",data:=.dict #[] }) scope.names }:Shared)=s4 at I4 ⊢;have st4:tn 0 s4.heap:=T.keep _ _ _ st3 λb _ o e=>by rw [<- hs4];exact pushCells_keeps _ _ _ _ (Heap.get?_push_of_some _ e)
 have stat:∀{σ':L2.St}{H':Hp}{s':Shared},Inv (X.blk s3 H3 scope ce fp) [] σ' H' s'->(∀b∈fp,H' b=none)->∀b∈fp,FpOk (X.blk s3 H3 scope ce fp) [] H' b:=fun {σ' H' s'} I' hn b hb =>
  ⟨hn b hb,(I'.ok.exf b hb).1,I'.ok.exfs b hb,.inl hb,λx c e=>(I'.ok.exf b hb).2 x c e,λp hp=>absurd (show p∈([]:List (Addr×Obj))++[] from hp) (by simp)⟩
 have home:∀{pins':List (Addr×Obj)}{σ':L2.St}{H':Hp}{s':Shared},Inv (X.blk s3 H3 scope ce fp) pins' σ' H' s'->Inv X pins σ H' s':=fun {pins' σ' H' s'} I' =>
  I3.call' (ch:=fp) I'.os I'.base I'.hok I'.bare λb hb=>⟨(f3 b hb).1.2.2.2.1,(f3 b hb).1.2.1,(f3 b hb).1.2.2.2.2.1,(f3 b hb).1.2.2.2.2.2⟩
 have hC:∀{pins':List (Addr×Obj)}{σ':L2.St}{H':Hp}{s':Shared},Inv (X.blk s3 H3 scope ce fp) pins' σ' H' s'->H' s3.heap.objs.size=none/\∃m,s'.heap.Ns s3.heap.objs.size m:=fun {pins' σ' H' s'} I'=>by
  have z:H' ce.locals=none:=I'.free;obtain ⟨m,hn,_⟩:=I'.loc;have hn:s'.heap.Ns ce.locals m:=hn;rw [cL] at z hn;exact ⟨z,m,hn⟩
 have hnew:X0.s₀.heap.objs.size<=s3.heap.objs.size:=by
  have:=I3.sz;subst eX;exact this
 have hstk:s3.heap.objs.size ∉ L2.frs X0.stack:=λz=>by
  have z:s3.heap.objs.size∈L2.frs X.stack:=by subst eX;exact z
  rcases List.mem_cons.mp (I3.stkSub _ z) with q | q
  ·have:=I3.lt;rw [<- q] at this;exact Nat.lt_irrefl _ this
  ·exact I3.nofs (Nat.le_refl _) q
 have pass:cy (CX1 X.prog X.w) ((X.blk s3 H3 scope ce fp).wish (XB X0 E s3.heap.objs.size)) E:=by
  rintro pins' σ' H' s' e s'' I' hx;have I':=I'.unwish;obtain ⟨z,m,hn⟩:=hC I';have Ih:=home I';subst eX;exact xh Pl Ih.unwish hx hn z hstk
 have loop:codeAny (model X.prog X.w) X.A (.compLoop (.ListComp elt [⟨tg,iter,ifs,0⟩] scope pos) 0 (.ref it) (.ref D) ce) (cpX (model X.prog X.w) X.A X.xe use Qf (.ref D) ce) s4:=by
  refine jr (λn s'=>∃i H',Inv (X.blk s3 H3 scope ce fp) [] (wipe σ (own.map (·.2))) H' s'/\tn i s'.heap/\(∀b∈fp,H' b=none)/\W i n H') ?_ m0 ⟨0,H3,I4,st4,nfp,w0⟩;rintro n s5 ⟨i,H5,I5,st5,n5,w5⟩;rcases turn i n H5 w5 with ⟨stop,qq⟩ | ⟨go,Nx,hNx,step⟩
  ·have td:=T.done (X.blk s3 H3 scope ce fp) rfl rfl rfl hc i [] s5 _ H5 (λ_ _=>False) I5 (stat I5 n5) st5 stop;refine thnF td λr s6 hz=>?_;obtain ⟨hr,I6⟩:=hz;subst hr;obtain ⟨nC,m,hn⟩:=hC I6;show okX _ _ _ _ _ _ ce.locals _;rw [cL];exact hRR D s3.heap.objs.size s6 m H5 (home I6) qq hn (I3.fpOk (Nat.le_refl _) nC)
  ·have ti:=T.item (X.blk s3 H3 scope ce fp) rfl rfl rfl hc i [] s5 _ H5 (λ_ _=>False) I5 (stat I5 n5) st5 go;refine thnF ti λr s6 hz=>?_;obtain ⟨u,hr,h6⟩:=hz;subst hr;refine thnF h6 λ_ s7 hz=>?_;obtain ⟨x,H7,I7,r7,y7,st7,n7⟩:=hz;have I7':=I7.pinned (stat I7 n7) (T.obj _ _ st7);refine thnF (pg _ s7 _ H7 x u _ I7' r7 (step x H7 y7)) λ_ s8 hz=>?_;obtain ⟨σ8,H8,I8,hw8,q8⟩:=hz;refine thnF (pt _ s8 σ8 H8 _ I8 q8) λb s9 hz=>?_;obtain ⟨H9,I9,q9⟩:=hz;have fin:∀{s':Shared}{H':Hp},Inv (X.blk s3 H3 scope ce fp) ([]++lW fp s7.heap) σ8 H' s'->Nx H'->∃m,m<n/\∃i H',Inv (X.blk s3 H3 scope ce fp) [] (wipe σ (own.map (·.2))) H' s'/\tn i s'.heap/\(∀b∈fp,H' b=none)/\W i m H':=fun {s' H'} I' nx=>by
    obtain ⟨m',hm,w'⟩:=hNx H' nx;have pin':∀b∈fp,∀o,s7.heap.get? b=some o->s'.heap.get? b=some o/\H' b=none:=λb hb o e =>
     let z:=I'.pin (b,o) (List.mem_append_right _ (List.mem_append_right _ (fH hb e)))
     ⟨z.1,z.2.1⟩
    have hl:(wipe σ (own.map (·.2))).length=σ8.length:=by rw [<- hw8,wipe_length]
    refine ⟨m',hm,i+1,H',(I'.unpinned (pins:=[])).weak hl (λj v e=>?_),T.keep _ _ _ st7 λb hb o e=>(pin' b hb o e).1,λb hb=>?_,w'⟩
    ·rw [<- hw8] at e;exact (hZ e).1
    ·obtain ⟨o,e,_⟩:=T.obj _ _ st7 b hb;exact (pin' b hb o e).2
   cases b with
   | false =>
    simp only [Bool.false_eq_true,if_false] at q9 ⊢;exact fin I9 q9
   | true =>
    simp only [if_true] at q9 ⊢;refine wpAny_mono (pe pass _ s9 σ8 H9 _ (I9.wish _) q9) (λz s10 ⟨yv,H10,I10,r10,acc,hD10,hz10,nx⟩=>?_) (λe s10 hx=>?_)
    ·exact yk (X:=X.blk s3 H3 scope ce fp) I10.unwish hD10 hz10 r10 λs11 I11=>fin I11 nx
    ·obtain ⟨a,cls,B,H',rfl,F,G,⟨m,hn⟩,nC⟩:=hx;subst eX;refine vQ cF (F.note2 G Pl hfrX λh' a0 F' ht' up=>?_);refine ⟨m,by rw [cL];exact up.ns hn,λh'' m'' hm'' sb=>?_⟩;rw [cL] at sb hm'';obtain ⟨B',F2,ht2⟩:=F'.swap Pl ht' (up.ns hn) hm'' sb nC hnew hstk;exact F2.pass ht2 Pl cF
 exact codeAny_compStart_list loop (T.self X.A 0 _ _ _ st4 loop)
theorem Ap {E:XK}{elt tg iter:Expr}{ifs:List Expr}{scope:Scope}{own:List (Str×Nat)}{pos:Pos}{wi:TI}{g:TG}{tt:TT}{te:TE} (Pl:Plain X0) (eX:X=X0.wish (XFly X0 E)) (hc:X.calm=true) (hN:X.N.Nodup) (hi:PI X tg iter wi) (ok:BlkOk X.N X.env.scope scope own)
  (hg:∀(s:Shared) (H:Hp) (C:Addr) (cl:List (Str×Addr)) (fp:List Addr),PG (X.blk s H scope (compEnvC scope cl C X.env) fp) tg g) (ht:∀(s:Shared) (H:Hp) (C:Addr) (cl:List (Str×Addr)) (fp:List Addr),PTs (X.blk s H scope (compEnvC scope cl C X.env) fp) ifs tt)
  (he:∀(s:Shared) (H:Hp) (C:Addr) (cl:List (Str×Addr)) (fp:List Addr),cy (CX1 X.prog X.w) (blkX X X0 E s H scope cl C fp) E->PE (blkX X X0 E s H scope cl C fp) elt te) (hs:∀x,foldedSetIterable iter X.env x=pure x:=by intro _;rfl) :
  PE X (.ListComp elt [⟨tg,iter,ifs,0⟩] scope pos) (tLc wi g tt te (own.map (·.2))):=by
 intro pins s σ H Q I h;rw [eval_ListComp];refine lcx_core (use:=none) Pl eX hc hN I hi ok hg ht he hs h λD C s' m H' I' q hn f=>⟨m,hn,λh'' sb=>?_⟩
 obtain ⟨f0,f1,f2,f3,f4,f5⟩:=f;exact ⟨.ref D,H',I'.turned (t':=s'.toks) (λb o hb e=>(sb.2 b hb).trans e) f0 f1 f3 f4 f5,rfl,q⟩
theorem vR {E:XK}{i:Nat}{y:Str}{py:Pos}{elt tg iter:Expr}{ifs:List Expr}{scope:Scope}{own:List (Str×Nat)}{pos spos:Pos}{wi:TI}{g:TG}{tt:TT}{te:TE} (Pl:Plain X0) (eX:X=X0.wish (XFly X0 E)) (hc:X.calm=true) (hN:X.N.Nodup) (hy:X.N[i]?=some y) (hyl:X.env.scope.names.lookup y=some .local)
  (hsw:swapsWith (.ListComp elt [⟨tg,iter,ifs,0⟩] scope pos) (some (.Name y py)) spos.line X.env=pure true) (hi:PI X tg iter wi) (ok:BlkOk X.N X.env.scope scope own)
  (hg:∀(s:Shared) (H:Hp) (C:Addr) (cl:List (Str×Addr)) (fp:List Addr),PG (X.blk s H scope (compEnvC scope cl C X.env) fp) tg g) (ht:∀(s:Shared) (H:Hp) (C:Addr) (cl:List (Str×Addr)) (fp:List Addr),PTs (X.blk s H scope (compEnvC scope cl C X.env) fp) ifs tt)
  (he:∀(s:Shared) (H:Hp) (C:Addr) (cl:List (Str×Addr)) (fp:List Addr),cy (CX1 X.prog X.w) (blkX X X0 E s H scope cl C fp) E->PE (blkX X X0 E s H scope cl C fp) elt te) (hs:∀x,foldedSetIterable iter X.env x=pure x:=by intro _;rfl) :
  PS X (.Assign [.Name y py] (.ListComp elt [⟨tg,iter,ifs,0⟩] scope pos) spos) (tAsg (tLc wi g tt te (own.map (·.2))) (aA i)):=by
 intro pins s σ H D I h;rw [exec_Assign_Name_used _ _ _ _ hsw];refine wpAny_bind (wpAny_standAt (wpAny_bind ?_));show wpAny _ X.A (do let _ <- comprehension (.ListComp elt [⟨tg,iter,ifs,0⟩] scope pos) scope X.env (firstIterPos [⟨tg,iter,ifs,0⟩] pos) (newList []) false (eval iter X.env) (some (assign (.Name y py) X.env))) _ _ s;have h:tLc wi g tt te (own.map (·.2)) σ H (λx H1=>aA i x σ H1 D.nx):=h;refine wpAny_bind (thn (lcx_core (Qf:=λ_ s'=>SP X pins D .next s') Pl eX hc hN I hi ok hg ht he hs h λL C s' m H' I' q hn f=>?_) λ_ s' hq=>wpAny_pure (wpAny_pure hq));show wpAny _ _ (assign (.Name y py) X.env (.ref L)) _ _ _;refine wpAny_assign_Name (store_ok2 (v:=V.ref L) I' hN hy (.inl hyl) rfl (λs2 I2 hz=>?_) (.inr hyl));obtain ⟨a,sb,ha⟩:=hz;obtain ⟨f0,f1,f2,f3,f4,f5⟩:=f;have haC:C≠a:=by
  rcases ha with z | z
  ·rw [z];exact f1
  ·exact λe=>f4 y a z e.symm
 refine ⟨m,hn.sameBut sb haC,λh3 sb3=>?_⟩;exact ⟨_,H',I2.turned (t':=s2.toks) (λb o hb e=>(sb3.2 b hb).trans e) f0 f1 f3 f4 f5,q⟩
end
end TW
namespace TW
open PySem PySem.Spec PyProof.Rows L2
section
variable {X:Cx}
theorem ag {i:Nat}{x:Str}{e:Expr}{te:TE}{pos pos':Pos} (hN:X.N.Nodup) (he:PE X e te) (hi:X.N[i]?=some x:=by exact rfl) (hx:Loc X.env.scope x:=by first | exact .inl rfl | exact .inr rfl) (hs:swapsWith e (some (.Name x pos')) pos.line X.env=pure false:=by rfl) (hf:X.fn x=true\/X.env.scope.names.lookup x=some .local:=by first | exact .inl rfl | exact .inr rfl | assumption) :
  PS X (.Assign [.Name x pos'] e pos) (tAsg te (aA i)):=zU hN hi hx he hs hf
theorem pg_nameA {i:Nat}{x:Str}{pos:Pos} (hN:X.N.Nodup) (hi:X.N[i]?=some x:=by exact rfl) (hx:Loc X.env.scope x:=by first | exact .inl rfl | exact .inr rfl) (hf:X.fn x=true\/X.env.scope.names.lookup x=some .local:=by first | exact .inl rfl | exact .inr rfl | assumption):PG X (.Name x pos) (aA i):=pg_name hN hi hx hf
theorem aq {a b:Expr}{ta tb:TE}{pos:Pos}{r:R2} (hr:IxR X r) (ha:PE X a ta) (hb:PE X b tb) (hs:uZ b:=by exact λ_ _=>rfl):PE X (.Subscript a b pos) (tOp r ta tb):=AX hr ha hb hs
theorem cz {elt tg iter:Expr}{scope:Scope}{own:List (Str×Nat)}{pos:Pos}{wi:TI}{g:TG}{te:TE} (hN:X.N.Nodup) (hi:PI X tg iter wi)
  (hg:∀(s:Shared) (H:Hp) (C:Addr) (cl:List (Str×Addr)) (fp:List Addr),PG (X.blk s H scope (compEnvC scope cl C X.env) fp) tg g)
  (he:∀(s:Shared) (H:Hp) (C:Addr) (cl:List (Str×Addr)) (fp:List Addr),PE (X.blk s H scope (compEnvC scope cl C X.env) fp) elt te)
  (hc:X.calm=true:=by exact rfl) (ok:blkC X.N X.env.scope scope own=true:=by kernel_rfl) (hs:∀x,foldedSetIterable iter X.env x=pure x:=by intro _;rfl) :
  PE X (.ListComp elt [⟨tg,iter,[],0⟩] scope pos) (tLc wi g tYes te (own.map (·.2))):=Ac hc hN hi (h7 ok) hg (λ_ _ _ _ _=>ke) he hs
theorem aY {i:Nat}{y:Str}{py:Pos}{elt tg iter:Expr}{scope:Scope}{own:List (Str×Nat)}{pos spos:Pos}{wi:TI}{g:TG}{te:TE} (hN:X.N.Nodup) (hi:PI X tg iter wi)
  (hg:∀(s:Shared) (H:Hp) (C:Addr) (cl:List (Str×Addr)) (fp:List Addr),PG (X.blk s H scope (compEnvC scope cl C X.env) fp) tg g)
  (he:∀(s:Shared) (H:Hp) (C:Addr) (cl:List (Str×Addr)) (fp:List Addr),PE (X.blk s H scope (compEnvC scope cl C X.env) fp) elt te)
  (hc:X.calm=true:=by exact rfl) (hy:X.N[i]?=some y:=by exact rfl) (hyl:X.env.scope.names.lookup y=some .local:=by exact rfl) (hk:X.env.scope.kind=.function:=by exact rfl) (hl:(py.line==pos.line)=true:=by exact rfl)
  (ha:(scope.names.any λ(n,k)=>n==y&&(k==.local||k==.cell))=false:=by decide +kernel) (ok:blkC X.N X.env.scope scope own=true:=by kernel_rfl) (hs:∀x,foldedSetIterable iter X.env x=pure x:=by intro _;rfl) :
  PS X (.Assign [.Name y py] (.ListComp elt [⟨tg,iter,[],0⟩] scope pos) spos) (tAsg (tLc wi g tYes te (own.map (·.2))) (aA i)):=wL hc hN hy hyl (u6 hk hyl hl ha) hi (h7 ok) hg (λ_ _ _ _ _=>ke) he hs
end
end TW
set_option maxHeartbeats 8000000
namespace T05
open PySem PySem.Spec PyProof.Rows L2 TW
variable {P:Program}{w:World}{K:W.Frag}{mg:Str->Option Value}{base:Heap}
def top (i:Nat):Stmt:=PySem.Challenge.pw_tilewise_s05_small.main.body.getD i (.Pass ⟨0,0,0,0⟩)
abbrev xi:Stmt:=top 2
abbrev sJ:Stmt:=top 3
abbrev sK:Stmt:=top 4
abbrev ir:Stmt:=top 5
abbrev iu:Stmt:=top 6
abbrev m4:Stmt:=top 7
abbrev m5:Stmt:=top 8
abbrev c6:Stmt:=top 9
abbrev c7:Stmt:=top 10
abbrev m6:Stmt:=top 13
abbrev m7:Stmt:=top 14
abbrev dZ:Stmt:=top 15
abbrev fO:Stmt:=top 16
abbrev sL:Stmt:=top 17
abbrev m8:Stmt:=top 28
abbrev m9:Stmt:=top 29
abbrev sM:Stmt:=top 30
abbrev sN:Stmt:=top 31
abbrev ng:Stmt:=top 32
abbrev jR:Stmt:=top 37
abbrev fP:Stmt:=top 38
abbrev sO:Stmt:=top 39
abbrev xj:Stmt:=top 41
abbrev jS:Stmt:=top 42
abbrev sP:Stmt:=top 43
abbrev sQ:Stmt:=top 44
abbrev jT:Stmt:=top 45
abbrev c8:Stmt:=top 46
abbrev ni:Stmt:=top 47
abbrev nj:Stmt:=top 48
abbrev sU:Stmt:=top 50
abbrev jU:Stmt:=top 51
abbrev iw:Stmt:=top 57
abbrev nl:Stmt:=top 58
abbrev xk:Stmt:=top 59
abbrev d0:Stmt:=top 60
abbrev d5:Stmt:=top 61
abbrev iy:Stmt:=top 62
abbrev iz:Stmt:=top 63
abbrev iA:Stmt:=top 65
abbrev sV:Stmt:=top 66
abbrev fQ:Stmt:=top 67
abbrev fR:Stmt:=top 68
abbrev iC:Stmt:=top 69
abbrev cB:Stmt:=top 70
abbrev d6:Stmt:=top 71
abbrev cD:Stmt:=top 72
abbrev cE:Stmt:=top 73
abbrev c9:Stmt:=top 74
abbrev d7:Stmt:=top 75
abbrev xl:Stmt:=top 76
abbrev cG:Stmt:=top 77
abbrev fS:Stmt:=top 79
abbrev fT:Stmt:=top 80
abbrev d8:Stmt:=top 81
abbrev db:Stmt:=top 82
abbrev vS:Stmt:=top 83
abbrev fU:Stmt:=bX (top 12) 0
abbrev iE:Stmt:=bX (top 26) 0
abbrev jV:Stmt:=bX (top 26) 1
abbrev d9:Stmt:=bX (top 26) 3
abbrev fV:Stmt:=bX (top 27) 0
abbrev ef:Stmt:=bX (top 54) 0
abbrev xm:Stmt:=bX (top 54) 1
abbrev iG:Stmt:=bX (top 54) 2
abbrev eC:Stmt:=bX (top 55) 0
abbrev xn:Stmt:=bX (top 55) 1
abbrev iH:Stmt:=bX (top 56) 0
abbrev iI:Stmt:=bX (top 56) 1
abbrev xo:Stmt:=bX (top 56) 2
def pL (lo hi:Int)(ns:List Int):Bool:=ns.all λn=>decide (lo<=n)&&decide (n<=hi)
inductive iJ (K:W.Frag)(vs:List V)(H:Hp)(Q:VK)(_e3:XK):Prop
 | mk (a:Addr) (ns:List Int) (lo hi:Int):(vs=[.ref a,.int lo,.int hi])->(SqL K H a (ns.map V.int))->(Q (.bl (pL lo hi ns)) H)->iJ K vs H Q _e3
theorem vT {ns:List Int}{lo m:Int} (h:(ns=[]/\m=lo)\/(m∈ns/\∀y,y∈ns->m<=y)):lo<=m↔∀n∈ns,lo<=n:=by
 rcases h with ⟨rfl,rfl⟩ | ⟨h1,h2⟩
 ·simp
 ·exact ⟨λz n hn=>Int.le_trans z (h2 n hn),λz=>z m h1⟩
theorem xp {ns:List Int}{hi m:Int} (h:(ns=[]/\m=hi)\/(m∈ns/\∀y,y∈ns->y<=m)):m<=hi↔∀n∈ns,n<=hi:=by
 rcases h with ⟨rfl,rfl⟩ | ⟨h1,h2⟩
 ·simp
 ·exact ⟨λz n hn=>Int.le_trans (h2 n hn) z,λz=>z m h1⟩
theorem pM {lo hi:Int}{ns:List Int}:pL lo hi ns=true↔(∀n∈ns,lo<=n)/\∀n∈ns,n<=hi:=by
 unfold pL;rw [List.all_eq_true];simp only [Bool.and_eq_true,decide_eq_true_eq];exact ⟨λh=>⟨λn hn=>(h n hn).1,λn hn=>(h n hn).2⟩,λh n hn=>⟨h.1 n hn,h.2 n hn⟩⟩
theorem vU:FnScope ["numbers","lowest","highest"] ["numbers","lowest","highest"] (ae jR):=.ck
theorem mv (D:aB K mg "all_between" jR)(zMin:mg "min"=none)(zMax:mg "max"=none):OkF P w K mg base CX0 1 "all_between" ["numbers","lowest","highest"] (iJ K):=by
 refine D.ok vU λ_ _ _ _ _ H _ Q E hr h=>?_;obtain ⟨a,ns,lo,hi,rfl,hS,k⟩:=h;refine ⟨_,af (ao (oK (uR yB (vn (yP rfl) (by rfl) zMin boot_min (aa (pv 0) ad) (pv 1)) (pv 1) (cK _))
  (ya (uR iX (vn (yQ rfl) (by rfl) zMax boot_max (aa (pv 0) ad) (pv 2)) (pv 2) (cK _))))),?_⟩
 have low:∀m,((ns=[]/\m=lo)\/(m∈ns/\∀y,y∈ns->m<=y))->∀M,((ns=[]/\M=hi)\/(M∈ns/\∀y,y∈ns->y<=M))->(decide (lo<=m)&&decide (M<=hi))=pL lo hi ns:=λm hm M hM=>by
  rw [Bool.eq_iff_iff,pM,Bool.and_eq_true,decide_eq_true_eq,decide_eq_true_eq,vT hm,xp hM]
 have high:∀m,((ns=[]/\m=lo)\/(m∈ns/\∀y,y∈ns->m<=y))->decide (lo<=m)=true->∀M,((ns=[]/\M=hi)\/(M∈ns/\∀y,y∈ns->y<=M))->Q (.bl (decide (M<=hi))) H:=λm hm c M hM=>by
  have e:=low m hm M hM;rw [c,Bool.true_and] at e;rw [e];exact k
 have lo2:∀m,((ns=[]/\m=lo)\/(m∈ns/\∀y,y∈ns->m<=y))->decide (lo<=m)=false->Q (.bl false) H:=λm hm c=>by
  have e:pL lo hi ns=false:=by
   rw [Bool.eq_false_iff];intro z;have:=(vT hm).mpr (pM.mp z).1;rw [decide_eq_false_iff_not] at c;exact c this
  rw [<- e];exact k
 refine ⟨_,rfl,_,rfl,a,ns,lo,rfl,rfl,hS,λen=>?_,λm h1 h2=>?_⟩
 ·refine ⟨_,rfl,_,_,rfl,rfl,_,rfl,ite2 (λc=>?_) (λc=>lo2 lo (.inl ⟨en,rfl⟩) (by simpa using c))⟩;exact ⟨_,rfl,_,rfl,a,ns,hi,rfl,rfl,hS,λen=>⟨_,rfl,_,_,rfl,rfl,high lo (.inl ⟨en,rfl⟩) c hi (.inl ⟨en,rfl⟩)⟩,λM h3 h4=>⟨_,rfl,_,_,rfl,rfl,high lo (.inl ⟨en,rfl⟩) c M (.inr ⟨h3,h4⟩)⟩⟩
 ·refine ⟨_,rfl,_,_,rfl,rfl,_,rfl,ite2 (λc=>?_) (λc=>lo2 m (.inr ⟨h1,h2⟩) (by simpa using c))⟩;exact ⟨_,rfl,_,rfl,a,ns,hi,rfl,rfl,hS,λen=>⟨_,rfl,_,_,rfl,rfl,high m (.inr ⟨h1,h2⟩) c hi (.inl ⟨en,rfl⟩)⟩,λM h3 h4=>⟨_,rfl,_,_,rfl,rfl,high m (.inr ⟨h1,h2⟩) c M (.inr ⟨h3,h4⟩)⟩⟩
def pN (x y w h:Int):List (Str×V):=putF "height" (.int h) (putF "width" (.int w) (putF "y" (.int y) (putF "x" (.int x) [])))
theorem nn (x y w h:Int):(pN x y w h).lookup ("x":Str)=some (.int x):=by kernel_rfl
theorem jW (x y w h:Int):(pN x y w h).lookup ("y":Str)=some (.int y):=by kernel_rfl
theorem iK (x y w h:Int):(pN x y w h).lookup ("width":Str)=some (.int w):=by kernel_rfl
theorem iL (x y w h:Int):(pN x y w h).lookup ("height":Str)=some (.int h):=by kernel_rfl
def bQ (C:Addr)(H:Hp)(p:Addr)(q:Sp21.Part):Prop:=∃dx,H p=some (.ins C dx (pN q.x q.y q.w q.h))
theorem jG {C:Addr}:∀(H H':Hp) (r:Addr) (x:Sp21.Part),Same H H'->bQ C H r x->bQ C H' r x:=λ_ _ _ _ s ⟨dx,h⟩=>⟨dx,s _ _ h⟩
structure PlaceTxt (K:W.Frag)(mg:Str->Option Value)(C:Addr):Prop extends ClsIn K mg "Place" C where
 nx:bg K C "x"
 ny:bg K C "y"
 nw:bg K C "width"
 nh:bg K C "height"
inductive eD (C:Addr)(vs:List V)(H:Hp)(Q:VK)(_e3:XK):Prop
 | mk (p dx:Addr) (q:Sp21.Part):(vs=[.ref p,.int q.x,.int q.y,.int q.w,.int q.h])->(H p=some (.ins C dx []))->(∀H',bQ C H' p q->(∀b o,H b=some o->b≠p->H' b=some o)->Q .non H')->eD C vs H Q _e3
inductive nu (C:Addr)(vs:List V)(H:Hp)(Q:VK)(_e3:XK):Prop
 | mk (f:Sp21.Head):(HeadOk f)->(vs=[.int f.wide,.int f.high,.int f.e])->(∀a H',Same H H'->H a=none->ListOf (bQ C) H' a (places f)->Q (.ref a) H')->nu C vs H Q _e3
theorem re:FnScope ["self","x","y","width","height"] ["self","x","y","width","height"] (ae fU):=.ck
theorem fo {C:Addr}(D:bW K C "__init__" "Place.__init__" fU)(T:PlaceTxt K mg C):OkM P w K mg base CX0 1 C "__init__" ["self","x","y","width","height"] (eD C):=by
 refine D.ok re λ_ _ _ _ _ H _ Q E hr h=>?_;obtain ⟨p,dx,q,rfl,hp,k⟩:=h;refine ⟨_,ac (bC (pv 0) (pv 1) rfl) (ac (bC (pv 0) (pv 2) rfl) (ac (bC (pv 0) (pv 3) rfl) (af (bC (pv 0) (pv 4) rfl)))),?_⟩;refine ⟨_,rfl,_,rfl,p,C,dx,_,rfl,hp,T.cl,T.nx,by decide,?_⟩;refine ⟨_,rfl,_,rfl,p,C,dx,_,rfl,upd_same,T.cl,T.ny,bP (aL (Nat.le_refl 0)),?_⟩;refine ⟨_,rfl,_,rfl,p,C,dx,_,rfl,upd_same,T.cl,T.nw,bP (aL (aL (Nat.le_refl 0))),?_⟩;refine ⟨_,rfl,_,rfl,p,C,dx,_,rfl,upd_same,T.cl,T.nh,bP (aL (aL (aL (Nat.le_refl 0)))),?_⟩;refine k _ ⟨dx,upd_same⟩ λb o e hb=>?_;rw [upd_ne hb,upd_ne hb,upd_ne hb,upd_ne hb];exact e
theorem vV {n s:Nat}(h0:0<s)(hn:0<n):Builtin.Range.rangeSize 0 (n:Int) (s:Int)=(((n+s-1)/s:Nat):Int):=by
 unfold Builtin.Range.rangeSize;rw [if_pos (by omega),if_pos (by omega)];have e:(n:Int)-0-1=((n-1:Nat):Int):=by omega
 have:(n+s-1)/s=(n-1)/s+1:=by
  rw [show n+s-1=(n-1)+s by omega,Nat.add_div_right _ h0]
 rw [e,<- Int.natCast_ediv,this];omega
theorem Aq {n s:Nat}(h0:0<s)(h1:s<=256)(hn:0<n)(hn2:n<=256):RgC 0 (n:Int) (s:Int) ((n+s-1)/s):=by
 have hq:(n+s-1)/s<=n+s-1:=Nat.div_le_self _ _;refine ⟨by omega,by omega,?_,vV h0 hn⟩;unfold Builtin.Range.small;rw [vV h0 hn];generalize (n+s-1)/s=q at hq;simp only [Builtin.Range.rangeFitsLong,Bool.and_eq_true,Bool.or_eq_true,decide_eq_true_eq,beq_iff_eq,show (s:Int) > 0 by omega,if_true];omega
theorem vW {f:Sp21.Head}(h:HeadOk f):f.across<=256:=by
 have:=aG h.w;have:=h.wide;exact Nat.div_le_of_le_mul (by omega)
theorem y4 {f:Sp21.Head}(h:HeadOk f):f.down<=256:=by
 have:=aG h.w;have:=h.high;exact Nat.div_le_of_le_mul (by omega)
theorem xq:FnScope ["wide","high","e","side","places","y","x"] ["wide","high","e"] (ae m6):=.ck
theorem pO {C:Addr}(D:aB K mg "tile_places" m6)(zR:mg "range"=none)(zMin:mg "min"=none)(T:PlaceTxt K mg C)(oI:OkM P w K mg base CX0 1 C "__init__" ["self","x","y","width","height"] (eD C)) :
  OkF P w K mg base CX0 3 "tile_places" ["wide","high","e"] (nu C):=by
 refine D.ok xq λ_ _ _ _ _ H _ Q E hr h=>?_;obtain ⟨f,hf,rfl,k⟩:=h;have hs:=aG hf.w;have hw:=hf.wide;have hh:=hf.high;have he:=hf.e;refine ⟨_,ac (ag (i:=3) xq.nd (aj eP pe_int (pv 2)))
  (ac (ag (i:=4) xq.nd (bD ad))
  (ac (bU PassesOwn.never rfl (ia rfl zR (aa pe_int (aa (pv 1) (aa (pv 3) ad)))) (pg_nameA (i:=5) xq.nd)
   (af (bU PassesOwn.never rfl (ia rfl zR (aa pe_int (aa (pv 0) (aa (pv 3) ad)))) (pg_nameA (i:=6) xq.nd)
    (af (bd (lC PySem.F.plainAttrs_list PySem.F.slot_list_append PySem.F.type_list_append cp (pv 4)
     (aa (pJ oI T.toClsIn hr rfl (aa (pv 6) (aa (pv 5) (aa (aw (j7 rfl) (by rfl) zMin boot_min (aa (pv 3) (aa (aj bK (pv 0) (pv 6)) ad)))
      (aa (aw (j7 rfl) (by rfl) zMin boot_min (aa (pv 3) (aa (aj bK (pv 1) (pv 5)) ad))) ad))))) ad)))))))
  (af (ao (pv 4))))),?_⟩
 refine ⟨_,rfl,1,f.e,rfl,rfl,⟨by omega,by omega,by decide⟩,?_⟩;have es:(1:Int)*2 ^ ((f.e:Int)).toNat=((2 ^ f.e:Nat):Int):=by
  rw [Int.one_mul,Int.toNat_natCast];exact (Int.natCast_pow 2 f.e).symm
 dsimp only;rw [es];refine ⟨Nat.zero_le _,λa ha=>?_⟩;refine ⟨_,rfl,_,rfl,0,(f.high:Int),((2 ^ f.e:Nat):Int),f.down,rfl,Aq (by omega) hs.2 hh.1 hh.2,?_⟩;refine fI (λj σ H2=>∃u v,σ=[some (.int f.wide),some (.int f.high),some (.int f.e),some (.int ((2 ^ f.e:Nat):Int)),some (.ref a),u,v]/\Same H H2 /\
  ListOf (bQ C) H2 a ((List.range j).flatMap λj=>(List.range f.across).map λi=>bE f i j)) ⟨none,none,rfl,same_upd ha,ListOf.nil upd_same⟩ ?_ ?_
 ·rintro j σ H2 hj ⟨u,v,rfl,s2,L2'⟩;refine ⟨_,rfl,_,rfl,0,(f.wide:Int),((2 ^ f.e:Nat):Int),f.across,rfl,Aq (by omega) hs.2 hw.1 hw.2,?_⟩;refine fI (λi σ H3=>∃v,σ=[some (.int f.wide),some (.int f.high),some (.int f.e),some (.int ((2 ^ f.e:Nat):Int)),some (.ref a),some (.int (0+(j:Int)*((2 ^ f.e:Nat):Int))),v]/\Same H H3 /\
   ListOf (bQ C) H3 a (((List.range j).flatMap λj=>(List.range f.across).map λi=>bE f i j)++(List.range i).map λi=>bE f i j)) ⟨v,rfl,s2,by simpa using L2'⟩ ?_ ?_
  ·rintro i σ H3 hi ⟨v,rfl,s3,L3⟩;have hx:i*2 ^ f.e<f.wide:=(aZ (by omega) hw.1).2 i hi;have hy:j*2 ^ f.e<f.high:=(aZ (by omega) hh.1).2 j hj;obtain ⟨refs,g1,g2,_,g3⟩:=id L3;refine ⟨_,rfl,.inl ⟨rfl,_,SqL.of g1⟩,?_⟩;refine ⟨_,rfl,_,rfl,_,rfl,_,rfl,_,rfl,_,_,rfl,rfl,_,_,rfl,_,rfl,_,rfl,_,rfl,_,_,rfl,rfl,_,_,rfl,λp dx np ndx ne=>?_⟩;have eqs:([.ref p,.int (0+(i:Int)*((2 ^ f.e:Nat):Int)),.int (0+(j:Int)*((2 ^ f.e:Nat):Int)),.int (if (f.wide:Int)-(0+(i:Int)*((2 ^ f.e:Nat):Int))<((2 ^ f.e:Nat):Int) then (f.wide:Int)-(0+(i:Int)*((2 ^ f.e:Nat):Int)) else ((2 ^ f.e:Nat):Int)),.int (if (f.high:Int)-(0+(j:Int)*((2 ^ f.e:Nat):Int))<((2 ^ f.e:Nat):Int) then (f.high:Int)-(0+(j:Int)*((2 ^ f.e:Nat):Int)) else ((2 ^ f.e:Nat):Int))]:List V)
     = [.ref p,.int (bE f i j).x,.int (bE f i j).y,.int (bE f i j).w,.int (bE f i j).h]:=by
    have e1:(0+(i:Int)*((2 ^ f.e:Nat):Int))=((i*2 ^ f.e:Nat):Int):=by rw [Int.zero_add,Int.natCast_mul]
    have e2:(0+(j:Int)*((2 ^ f.e:Nat):Int))=((j*2 ^ f.e:Nat):Int):=by rw [Int.zero_add,Int.natCast_mul]
    have e3:(if (f.wide:Int)-((i*2 ^ f.e:Nat):Int)<((2 ^ f.e:Nat):Int) then (f.wide:Int)-((i*2 ^ f.e:Nat):Int) else ((2 ^ f.e:Nat):Int))=((min (2 ^ f.e) (f.wide-i*2 ^ f.e):Nat):Int):=by split <;> omega
    have e4:(if (f.high:Int)-((j*2 ^ f.e:Nat):Int)<((2 ^ f.e:Nat):Int) then (f.high:Int)-((j*2 ^ f.e:Nat):Int) else ((2 ^ f.e:Nat):Int))=((min (2 ^ f.e) (f.high-j*2 ^ f.e):Nat):Int):=by split <;> omega
    rw [e1,e2,e3,e4];rfl
   refine ⟨p,dx,bE f i j,eqs,upd_same,λH4 pl kp=>⟨rfl,?_⟩⟩;have s4:Same H3 H4:=Same.made np ndx kp;obtain ⟨refs',h1,h2,h3⟩:=L3.snoc (p:=p) s4 (λr y o hn ⟨d,z⟩=>⟨d,by rw [upd_ne hn];exact z⟩) (λr y z=>jG _ _ _ _ s4 z) (ne_of_none g1 np).symm pl;have hcount:refs'.length<=65536:=by
    rw [h2,List.length_append,List.length_map,List.length_range,ah (n:=f.across) (λj _=>by rw [List.length_map,List.length_range]),List.length_range];have a1:f.across<=256:=vW hf;have:j<256:=Nat.lt_of_lt_of_le hj (y4 hf);have:=Nat.mul_le_mul (show j<=255 by omega) a1;omega
   refine ⟨a,_,_,rfl,rfl,h1,by rw [List.length_map,sizeLine_eq];omega,_,rfl,λb o z=>?_,?_⟩
   ·rw [upd_ne (ne_of_none z ha)];exact s4 _ _ (s3 _ _ z)
   ·rw [List.range_succ,List.map_append,<- List.append_assoc];exact h3
  ·rintro σ H3 ⟨v,rfl,s3,L3⟩;refine ⟨_,v,rfl,s3,?_⟩;rw [List.range_succ,List.flatMap_append];simpa using L3
 ·rintro σ H2 ⟨u,v,rfl,s2,L2'⟩;exact ⟨_,rfl,k a H2 s2 ha L2'⟩
def t9 (k w h e v:Int):List (Str×V):=putF "levels" (.int v) (putF "e" (.int e) (putF "high" (.int h) (putF "wide" (.int w) (putF "kinds" (.int k) []))))
theorem nA (k w h e v:Int):(t9 k w h e v).lookup ("kinds":Str)=some (.int k):=by kernel_rfl
theorem vX (k w h e v:Int):(t9 k w h e v).lookup ("wide":Str)=some (.int w):=by kernel_rfl
theorem vY (k w h e v:Int):(t9 k w h e v).lookup ("high":Str)=some (.int h):=by kernel_rfl
theorem nB (k w h e v:Int):(t9 k w h e v).lookup ("e":Str)=some (.int e):=by kernel_rfl
theorem rg (k w h e v:Int):(t9 k w h e v).lookup ("levels":Str)=some (.int v):=by kernel_rfl
def HeadIs (C:Addr)(H:Hp)(p:Addr)(k w h e v:Int):Prop:=∃dx,H p=some (.ins C dx (t9 k w h e v))
abbrev sW (C:Addr)(H:Hp)(p:Addr)(f:Sp21.Head):Prop:=HeadIs C H p f.kinds f.wide f.high f.e f.levels
theorem HeadIs.same {C:Addr}{H H':Hp}{p:Addr}{k w h e v:Int} (x:HeadIs C H p k w h e v) (s:Same H H'):HeadIs C H' p k w h e v:=x.imp λ_ h=>s _ _ h
structure HeadTxt (K:W.Frag)(mg:Str->Option Value)(C:Addr):Prop extends ClsIn K mg "Head" C where
 nk:bg K C "kinds"
 nw:bg K C "wide"
 nh:bg K C "high"
 ne:bg K C "e"
 nv:bg K C "levels"
def kP (k w h e v:Int):Bool:=decide (1<=k/\k<=4/\1<=w/\w<=256/\1<=h/\h<=256/\4<=e/\e<=8/\0<=v/\v<=5)
inductive jb (C:Addr)(vs:List V)(H:Hp)(Q:VK)(_e3:XK):Prop
 | mk (p dx:Addr) (k w h e v:Int):(vs=[.ref p,.int k,.int w,.int h,.int e,.int v])->(H p=some (.ins C dx []))->(∀H',HeadIs C H' p k w h e v->(∀b o,H b=some o->b≠p->H' b=some o)->Q .non H')->jb C vs H Q _e3
inductive kQ (C:Addr)(vs:List V)(H:Hp)(Q:VK)(_e3:XK):Prop
 | mk (p:Addr) (k w h e v:Int):(vs=[.ref p])->(HeadIs C H p k w h e v)->(Q (.bl (kP k w h e v)) H)->kQ C vs H Q _e3
inductive dc (CP C:Addr)(vs:List V)(H:Hp)(Q:VK)(_e3:XK):Prop
 | mk (p:Addr) (f:Sp21.Head):(vs=[.ref p])->(sW C H p f)->(HeadOk f)->(∀a H',Same H H'->H a=none->ListOf (bQ CP) H' a (places f)->Q (.ref a) H')->dc CP C vs H Q _e3
theorem uc:FnScope ["self","kinds","wide","high","e","levels"] ["self","kinds","wide","high","e","levels"] (ae iE):=.ck
theorem rh {C:Addr}(D:bW K C "__init__" "Head.__init__" iE)(T:HeadTxt K mg C):OkM P w K mg base CX0 1 C "__init__" ["self","kinds","wide","high","e","levels"] (jb C):=by
 refine D.ok uc λ_ _ _ _ _ H _ Q E hr h=>?_;obtain ⟨p,dx,k1,w1,h1,e1,v1,rfl,hp,k⟩:=h;refine ⟨_,ac (bC (pv 0) (pv 1) rfl) (ac (bC (pv 0) (pv 2) rfl) (ac (bC (pv 0) (pv 3) rfl) (ac (bC (pv 0) (pv 4) rfl) (af (bC (pv 0) (pv 5) rfl))))),?_⟩;refine ⟨_,rfl,_,rfl,p,C,dx,_,rfl,hp,T.cl,T.nk,by decide,?_⟩;refine ⟨_,rfl,_,rfl,p,C,dx,_,rfl,upd_same,T.cl,T.nw,bP (aL (Nat.le_refl 0)),?_⟩;refine ⟨_,rfl,_,rfl,p,C,dx,_,rfl,upd_same,T.cl,T.nh,bP (aL (aL (Nat.le_refl 0))),?_⟩;refine ⟨_,rfl,_,rfl,p,C,dx,_,rfl,upd_same,T.cl,T.ne,bP (aL (aL (aL (Nat.le_refl 0)))),?_⟩;refine ⟨_,rfl,_,rfl,p,C,dx,_,rfl,upd_same,T.cl,T.nv,bP (aL (aL (aL (aL (Nat.le_refl 0))))),?_⟩;refine k _ ⟨dx,upd_same⟩ λb o e hb=>?_;rw [upd_ne hb,upd_ne hb,upd_ne hb,upd_ne hb,upd_ne hb];exact e
theorem vZ:FnScope ["self"] ["self"] (ae jV):=.ck
theorem ud {C:Addr}(D:bW K C "in_range" "Head.in_range" jV)(T:HeadTxt K mg C)(cM:∃t,mg "MOST_LEVELS"=some (.int 5 t)):OkM P w K mg base CX0 1 C "in_range" ["self"] (kQ C):=by
 obtain ⟨t1,cM⟩:=cM;refine D.ok vZ λ_ _ _ _ _ H _ Q E hr h=>?_;obtain ⟨p,k1,w1,h1,e1,v1,rfl,⟨dx,hp⟩,k⟩:=h;refine ⟨_,af (ao (oK (hU iX iX pe_int (ap (pv 0) rfl) pe_int) (oK (hU iX iX pe_int (ap (pv 0) rfl) pe_int) (oK (hU iX iX pe_int (ap (pv 0) rfl) pe_int)
  (oK (hU iX iX pe_int (ap (pv 0) rfl) pe_int) (ya (hU iX iX pe_int (ap (pv 0) rfl) (bj (v:=.int 5) (by rfl) cM ⟨t1,rfl⟩)))))))),?_⟩
 have no:∀{c:Prop} [Decidable c],(¬c->kP k1 w1 h1 e1 v1=false)->¬(decide c=true)->Q (.bl false) H:=λhh hc=>by
  rw [<- hh (λz=>hc (decide_eq_true z))];exact k
 have fin:∀z:Bool,kP k1 w1 h1 e1 v1=z->Q (.bl z) H:=λz hz=>by rw [<- hz];exact k
 have rf:¬(1<=k1/\k1<=4/\1<=w1/\w1<=256/\1<=h1/\h1<=256/\4<=e1/\e1<=8/\0<=v1/\v1<=5)->kP k1 w1 h1 e1 v1=false:=λz=>decide_eq_false z;refine ⟨_,rfl,p,C,dx,_,_,rfl,hp,T.cl,T.nk,nA ..,_,_,rfl,rfl,_,rfl,ite2 (λa1=>?_) (λa1=>⟨_,rfl,iteF (no (λz=>rf (by omega)) a1)⟩)⟩;refine ⟨_,_,rfl,rfl,_,rfl,ite2 (λa2=>?_) (no (λz=>rf (by omega)))⟩;refine ⟨_,rfl,p,C,dx,_,_,rfl,hp,T.cl,T.nw,vX ..,_,_,rfl,rfl,_,rfl,ite2 (λa3=>?_) (λa1=>⟨_,rfl,iteF (no (λz=>rf (by omega)) a1)⟩)⟩;refine ⟨_,_,rfl,rfl,_,rfl,ite2 (λa4=>?_) (no (λz=>rf (by omega)))⟩;refine ⟨_,rfl,p,C,dx,_,_,rfl,hp,T.cl,T.nh,vY ..,_,_,rfl,rfl,_,rfl,ite2 (λa5=>?_) (λa1=>⟨_,rfl,iteF (no (λz=>rf (by omega)) a1)⟩)⟩;refine ⟨_,_,rfl,rfl,_,rfl,ite2 (λa6=>?_) (no (λz=>rf (by omega)))⟩;refine ⟨_,rfl,p,C,dx,_,_,rfl,hp,T.cl,T.ne,nB ..,_,_,rfl,rfl,_,rfl,ite2 (λa7=>?_) (λa1=>⟨_,rfl,iteF (no (λz=>rf (by omega)) a1)⟩)⟩;refine ⟨_,_,rfl,rfl,_,rfl,ite2 (λa8=>?_) (no (λz=>rf (by omega)))⟩;refine ⟨_,rfl,p,C,dx,_,_,rfl,hp,T.cl,T.nv,rg ..,_,_,rfl,rfl,_,rfl,ite2 (λa9=>?_) (λa1=>no (λz=>rf (by omega)) a1)⟩;refine ⟨_,_,rfl,rfl,fin _ ?_⟩;simp only [decide_eq_true_eq] at a1 a2 a3 a4 a5 a6 a7 a8 a9;unfold kP;simp only [a1,a2,a3,a4,a5,a6,a7,a8,a9,true_and]
theorem pP:FnScope ["self"] ["self"] (ae d9):=.ck
theorem iM {CP C:Addr}(D:bW K C "places" "Head.places" d9)(T:HeadTxt K mg C)(oP:OkF P w K mg base CX0 3 "tile_places" ["wide","high","e"] (nu CP)):OkM P w K mg base CX0 4 C "places" ["self"] (dc CP C):=by
 refine D.ok pP λ_ _ _ _ _ H _ Q E hr h=>?_;obtain ⟨p,f,rfl,⟨dx,hp⟩,hf,k⟩:=h;refine ⟨_,af (ao (az oP hr rfl (aa (ap (pv 0) rfl) (aa (ap (pv 0) rfl) (aa (ap (pv 0) rfl) ad))))),?_⟩;exact ⟨_,rfl,p,C,dx,_,_,rfl,hp,T.cl,T.nw,vX ..,_,rfl,p,C,dx,_,_,rfl,hp,T.cl,T.nh,vY ..,_,rfl,p,C,dx,_,_,rfl,hp,T.cl,T.ne,nB ..,f,hf,rfl,k⟩
abbrev B (b:List Nat):List V:=(Sp21.ints b).map V.int
theorem y6 {b:List Nat}{i:Nat} (h:i<b.length):(B b)[i]?=some (.int (b.getD i 0:Nat)):=by
 show ((Sp21.ints b).map V.int)[i]?=_;unfold Sp21.ints;rw [List.map_map,List.getElem?_map,List.getElem?_eq_getElem h];simp [List.getD_eq_getElem?_getD,h]
theorem f7 (b:List Nat):(B b).length=b.length:=by simp [B,Sp21.ints]
theorem Ar (b:List Nat)(i n:Nat):cutV (B b) (some (i:Int)) (some ((i+n:Nat):Int))=B ((b.drop i).take n):=by
 unfold cutV;rw [HT.sIx_nat,HT.sIx_nat,f7];show (((Sp21.ints b).map V.int).drop _).take _=((Sp21.ints ((b.drop i).take n)).map V.int);unfold Sp21.ints;rw [List.map_take,List.map_take,List.map_drop,List.map_drop];by_cases h:i<=b.length
 ·rw [Nat.min_eq_left h];by_cases h2:i+n<=b.length
  ·rw [Nat.min_eq_left h2,Nat.add_sub_cancel_left]
  ·rw [Nat.min_eq_right (by omega),List.take_of_length_le (by simp),List.take_of_length_le (by simp;omega)]
 ·rw [Nat.min_eq_right (a:=i) (b:=b.length) (by omega),List.drop_eq_nil_of_le (by simp),List.drop_eq_nil_of_le (by simp;omega)];simp
theorem B_to (b:List Nat)(n:Nat):cutV (B b) none (some (n:Int))=B (b.take n):=by
 unfold cutV;rw [HT.sIx_nat,HT.sIx_none,f7,List.drop_zero,Nat.sub_zero];show ((Sp21.ints b).map V.int).take _=(Sp21.ints (b.take n)).map V.int;unfold Sp21.ints;rw [List.map_take,List.map_take];by_cases h:n<=b.length
 ·rw [Nat.min_eq_left h]
 ·rw [Nat.min_eq_right (by omega),List.take_of_length_le (by simp),List.take_of_length_le (by simp;omega)]
def CodeAt (H:Hp)(p:Addr)(c:List Nat):Prop:=H p=some (.lst (B c))
theorem gM:∀(H H':Hp) (r:Addr) (x:List Nat),Same H H'->CodeAt H r x->CodeAt H' r x:=λ_ _ _ _ s h=>s _ _ h
def Bytes (b:List Nat):Prop:=∀x∈b,x<256
def sX (hp ca:Addr):List (Str×V):=putF "codes" (.ref ca) (putF "head" (.ref hp) [])
theorem bv (hp ca:Addr):(sX hp ca).lookup ("head":Str)=some (.ref hp):=by kernel_rfl
theorem pQ (hp ca:Addr):(sX hp ca).lookup ("codes":Str)=some (.ref ca):=by kernel_rfl
structure PartsTxt (K:W.Frag)(mg:Str->Option Value)(C:Addr):Prop extends ClsIn K mg "Parts" C where
 nh:bg K C "head"
 nc:bg K C "codes"
structure PartsAt (C CH:Addr)(H:Hp)(p:Addr)(f:Sp21.Head)(l:List (List Nat)):Prop where
 ex:∃dx hp ca,H p=some (.ins C dx (sX hp ca))/\sW CH H hp f/\ListOf CodeAt H ca l
theorem PartsAt.same {C CH:Addr}{H H':Hp}{p:Addr}{f:Sp21.Head}{l:List (List Nat)} (x:PartsAt C CH H p f l) (s:Same H H'):PartsAt C CH H' p f l:=by
 obtain ⟨dx,hp,ca,h1,h2,h3⟩:=x.ex;exact ⟨dx,hp,ca,s _ _ h1,h2.same s,h3.same gM s⟩
inductive gN (C:Addr)(vs:List V)(H:Hp)(Q:VK)(_e3:XK):Prop
 | mk (p dx hp ca:Addr):(vs=[.ref p,.ref hp,.ref ca])->(H p=some (.ins C dx []))->(∀H',(∃dx,H' p=some (.ins C dx (sX hp ca)))->(∀b o,H b=some o->b≠p->H' b=some o)->Q .non H')->gN C vs H Q _e3
inductive jX (K:W.Frag)(vs:List V)(H:Hp)(Q:VK)(_e3:XK):Prop
 | mk (a:Addr) (b:List Nat):(vs=[.ref a])->(SqL K H a (B b))->(Bytes b)->(b.length<=1000)->(∀H',Same H H'->Q (.int (numOf b:Nat)) H')->jX K vs H Q _e3
inductive nD (K:W.Frag)(C CN:Addr)(vs:List V)(H:Hp)(Q:VK)(E:XK):Prop
 | mk (a:Addr) (b:List Nat):(vs=[.ref a])->(SqL K H a (B b))->(Bytes b)->(b.length<=2000000)->((∀f,fc b=some f->∀p H',Same H H'->H p=none->sW C H' p f->Q (.ref p) H'))->((fc b=none->∀H',Same H H'->E (.ref CN) none H'))->nD K C CN vs H Q E
inductive rj (K:W.Frag)(vs:List V)(H:Hp)(Q:VK)(_e3:XK):Prop
 | mk (a:Addr) (b:List Nat) (n:Nat):(vs=[.ref a,.int n])->(SqL K H a (B b))->(Bytes b)->(b.length<=2000000)->(n<=1000)->(Ans H ((Sp21.ints (lengthsOf b n)).map V.int) Q)->rj K vs H Q _e3
inductive rk (K:W.Frag)(C CN:Addr)(vs:List V)(H:Hp)(Q:VK)(E:XK):Prop
 | mk (a h:Addr) (b:List Nat) (f:Sp21.Head):(vs=[.ref a,.ref h])->(SqL K H a (B b))->(Bytes b)->(b.length<=2000000)->(sW C H h f)->(HeadOk f)->((∀l,tilesP b f=some l->∀p H',Same H H'->H p=none->ListOf CodeAt H' p l->Q (.ref p) H'))->((tilesP b f=none->∀H',Same H H'->E (.ref CN) none H'))->rk K C CN vs H Q E
inductive nF (K:W.Frag)(CP CH CN:Addr)(vs:List V)(H:Hp)(Q:VK)(E:XK):Prop
 | mk (a:Addr) (b:List Nat):(vs=[.ref a])->(SqL K H a (B b))->(Bytes b)->(b.length<=2000000)->((∀f l,Sp21.headOf b=some (f,l)->∀p H',Same H H'->PartsAt CP CH H' p f l->Q (.ref p) H'))->((Sp21.headOf b=none->∀H',Same H H'->E (.ref CN) none H'))->nF K CP CH CN vs H Q E
theorem rm:FnScope ["self","head","codes"] ["self","head","codes"] (ae fV):=.ck
theorem pR {C:Addr}(D:bW K C "__init__" "Parts.__init__" fV)(T:PartsTxt K mg C):OkM P w K mg base CX0 1 C "__init__" ["self","head","codes"] (gN C):=by
 refine D.ok rm λ_ _ _ _ _ H _ Q E hr h=>?_;obtain ⟨p,dx,hp,ca,rfl,h1,k⟩:=h;refine ⟨_,ac (bC (pv 0) (pv 1) rfl) (af (bC (pv 0) (pv 2) rfl)),?_⟩;refine ⟨_,rfl,_,rfl,p,C,dx,_,rfl,h1,T.cl,T.nh,by decide,?_⟩;refine ⟨_,rfl,_,rfl,p,C,dx,_,rfl,upd_same,T.cl,T.nc,bP (aL (Nat.le_refl 0)),?_⟩;refine k _ ⟨dx,upd_same⟩ λb o e hb=>?_;rw [upd_ne hb,upd_ne hb];exact e
theorem xr:FnScope ["some_bytes","number","i","byte"] ["some_bytes"] (ae m8):=.ck
theorem v4 (D:aB K mg "number_of" m8)(zE:mg "enumerate"=none):OkF P w K mg base CX0 1 "number_of" ["some_bytes"] (jX K):=by
 refine D.ok xr λ_ _ _ _ _ H _ Q E hr h=>?_;obtain ⟨a,b,rfl,hS,hb,hl,k⟩:=h;refine ⟨_,ac (ag (i:=1) xr.nd pe_int)
  (ac (bU PassesOwn.never rfl (qz rfl zE (aa (pv 0) ad)) (bT rfl (am (pg_nameA (i:=2) xr.nd) (am (pg_nameA (i:=3) xr.nd) bn)))
   (af (ps_aug (i:=1) xr.nd rfl (Or.inl rfl) (aj eP (pv 3) (aj be pe_int (pv 2))) A3)))
  (af (ao (pv 1)))),?_⟩
 refine ⟨_,rfl,a,_,rfl,hS,mW (K:=K) (xs:=B b) (λi σ H2=>∃u v,σ=[some (.ref a),some (.int (numOf (b.take i):Nat)),u,v]/\Same H H2) ⟨none,none,rfl,Same.refl H⟩ (λi σ H2 _ ⟨_,_,_,s2⟩=>s2.seq hS) ?_ ?_⟩
 ·rintro i x T σ H2 hx hT ⟨u,v,rfl,s2⟩;have hi:i<b.length:=by have:=(List.getElem?_eq_some_iff.mp hx).1;rwa [f7] at this
  rw [y6 hi] at hx;cases hx;have hbyte:=ff hb i;refine ⟨T,_,rfl,SqT.of upd_same,rfl,_,_,rfl,_,_,rfl,rfl,_,rfl,_,rfl,_,rfl,_,_,rfl,rfl,.inl ⟨by decide,by decide⟩,_,_,rfl,rfl,⟨by omega,by omega,by omega⟩,_,_,rfl,rfl,some (.int (i:Nat)),some (.int (b.getD i 0:Nat)),?_,s2.new hT⟩;have e1:(8*(i:Int)).toNat=8*i:=by omega
  have e2:numOf (b.take (i+1))=numOf (b.take i)+b.getD i 0*256 ^ i:=by
   have:b.take (i+1)=b.take i++[b.getD i 0]:=by
    rw [List.take_succ,List.getElem?_eq_getElem hi];simp [List.getD_eq_getElem?_getD,hi]
   rw [this,tU,List.length_take,Nat.min_eq_left (by omega)]
  have e3:(256:Nat) ^ i=2 ^ (8*i):=by rw [Nat.pow_mul]
  have lt:numOf (b.take i)<2 ^ (8*i):=by
   have:=mR (l:=b.take i) λx hx=>hb x (List.mem_of_mem_take hx);rwa [List.length_take,Nat.min_eq_left (by omega),e3] at this
  have e4:Builtin.bitOr ((numOf (b.take i):Nat):Int) (((b.getD i 0:Nat):Int)*2 ^ (8*(i:Int)).toNat)=((numOf (b.take (i+1)):Nat):Int):=by
   rw [e1,Bits.bitOr_join (k:=8*i) (by omega) (by exact_mod_cast lt) (by omega),e2,e3]
   push_cast
   rfl
  show [some (V.ref a),some (V.int _),some (V.int _),some (V.int _)]=_;rw [e4]
 ·rintro σ H2 ⟨u,v,rfl,s2⟩;refine ⟨_,rfl,?_⟩;rw [f7,List.take_length];exact k H2 s2
theorem xt:FnScope ["coded","head"] ["coded"] (ae m9):=.ck
theorem first4 {b:List Nat}(h:4<=b.length):PyData.eqv (.tuple ((Sp21.ints (b.take 4)).map PyData.int)) (.tuple ([84,73,76,83].map PyData.int))=decide (b.take 4=[84,73,76,83]):=by
 match b,h with
 | x0::x1::x2::x3::r,_ =>
  simp only [List.take,Sp21.ints,List.map];rw [Bool.eq_iff_iff];simp [PyData.eqv,PyData.eqvAll,and_assoc];omega
theorem jc {K:W.Frag}{H:Hp}:∀(l:List Int),DpAll K H (l.map V.int) (l.map PyData.int)
 | []=>.nil
 | x::l=>.cons (.int x) (jc l)
theorem v5 {C CN:Addr}{ta:Addr} (D:aB K mg "head_of" m9) (zLen:mg "len"=none) (zTup:mg "tuple"=none) (cH:∃t,mg "HEAD_LENGTH"=some (.int 9 t)) (cF:mg "FIRST_BYTES"=some (.ref ta)) (hF:∀H,SqT K H ta ([84,73,76,83].map V.int))
  (T:HeadTxt K mg C) (cN:ExcAt K mg "NotACode" CN) (oI:OkM P w K mg base CX0 1 C "__init__" ["self","kinds","wide","high","e","levels"] (jb C)) (oR:OkM P w K mg base CX0 1 C "in_range" ["self"] (kQ C)) :
  OkF P w K mg base (CX1 P w) 3 "head_of" ["coded"] (nD K C CN):=by
 obtain ⟨t1,cH⟩:=cH;refine D.okx xt λ_ _ _ _ _ H _ Q E hr h X hX=>?_;subst hX;obtain ⟨a,b,rfl,hS,hb,hl,k1,k2⟩:=h;have hr1:Room 1 _:=hr.mono (by decide);refine ⟨_,ac (di (yy (aC g9 (aw ak (by rfl) zLen PySem.boot_len (aa (pv 0) ad)) (bj (v:=.int 9) (by rfl) cH ⟨t1,rfl⟩) (cK _))
    (uF (aC (yi hr.units) (cP mF (by rfl) zTup boot_tuple (aa (aD aR (pv 0) bo (aI pe_int)) ad)) (bj (v:=.ref ta) (by rfl) cF rfl) (cK _)))).pt
   (af (cj au rfl rfl cN)) bc)
  (ac (ag (i:=1) xt.nd (pJ oI T.toClsIn hr rfl (aa (aq ay (pv 0) pe_int) (aa (aj aO (aq ay (pv 0) pe_int) pe_int)
   (aa (aj aO (aq ay (pv 0) pe_int) pe_int) (aa (aq ay (pv 0) pe_int) (aa (aq ay (pv 0) pe_int) ad)))))))
  (ac (di (rW (uE (mo oR T.cl hr1 gv (pv 1)))) (af (cj au rfl rfl cN)) bc)
  (af (ao (pv 1))))),?_⟩
 have hlen:((B b).length:Int)=(b.length:Int):=by rw [f7]
 refine ⟨_,rfl,a,_,rfl,.inl hS,_,_,rfl,rfl,_,rfl,?_⟩;rw [hlen];refine ite2 (λc1=>?_) (λc1=>?_)
 ·have c1:b.length<9:=by have:=of_decide_eq_true c1;omega
  refine iteT (k2 ?_ H (Same.refl H));unfold fc;rw [if_pos (.inl c1)]
 ·have c1:¬b.length<9:=λz=>c1 (decide_eq_true (by omega));refine ⟨_,rfl,_,rfl,a,_,rfl,hS,λp1 hp1=>?_⟩;rw [show (4:Int)=((4:Nat):Int) from rfl,B_to];refine ⟨p1,_,rfl,.inl ⟨SqL.of upd_same,λp2 hp2=>?_⟩⟩;have s2:=(same_upd (o:=.lst (B (b.take 4))) hp1).new (o:=.tup (B (b.take 4))) hp2;refine ⟨.tuple ((Sp21.ints (b.take 4)).map PyData.int),.tuple (([84,73,76,83]:List Int).map PyData.int),.tup (SqT.of upd_same) (jc _),.tup (hF _) (jc [84,73,76,83]),?_,by decide,_,rfl,?_⟩
  ·match b,c1 with
   | x0::x1::x2::x3::r,_=>rfl
   | [],z=>exact absurd (by decide) z
   | [_],z=>exact absurd (by show 1<9;decide) z
   | [_,_],z=>exact absurd (by show 2<9;decide) z
   | [_,_,_],z=>exact absurd (by show 3<9;decide) z
  rw [first4 (by omega)];refine ite2 (λc2=>?_) (λc2=>?_)
  ·refine k2 ?_ _ s2;unfold fc;rw [if_pos (.inr (by simpa using c2))]
  ·have c2:b.take 4=[84,73,76,83]:=by simpa using c2
   have at_:∀i:Nat,i<9->atI (B b) (i:Int)=some (.int (b.getD i 0:Nat)):=λi hi=>eY (y6 (by omega));have hS2:=s2.seq hS;refine ⟨_,rfl,a,_,_,_,rfl,rfl,hS2,at_ 4 (by decide),_,rfl,a,_,_,_,rfl,rfl,hS2,at_ 5 (by decide),_,_,rfl,rfl,_,rfl,a,_,_,_,rfl,rfl,hS2,at_ 6 (by decide),_,_,rfl,rfl,_,rfl,a,_,_,_,rfl,rfl,hS2,at_ 7 (by decide),_,rfl,a,_,_,_,rfl,rfl,hS2,at_ 8 (by decide),λp dx np ndx ne=>?_⟩;refine ⟨p,dx,_,_,_,_,_,rfl,upd_same,λH3 hd kp=>⟨rfl,?_⟩⟩;have s3:=s2.trans (Same.made np ndx kp);obtain ⟨dx',g3⟩:=id hd;refine ⟨_,rfl,p,dx',_,rfl,g3,(by kernel_rfl),p,_,_,_,_,_,rfl,hd,_,rfl,?_⟩;have h5:=ff hb 5;have h6:=ff hb 6;have er:kP ((b.getD 4 0:Nat):Int) ((b.getD 5 0:Nat)+1:Int) ((b.getD 6 0:Nat)+1:Int) ((b.getD 7 0:Nat):Int) ((b.getD 8 0:Nat):Int)=decide (1<=b.getD 4 0/\b.getD 4 0<=4/\4<=b.getD 7 0/\b.getD 7 0<=8/\b.getD 8 0<=5):=by
    unfold kP;rw [Bool.eq_iff_iff,decide_eq_true_eq,decide_eq_true_eq];omega
   by_cases c3:1<=b.getD 4 0/\b.getD 4 0<=4/\4<=b.getD 7 0/\b.getD 7 0<=8/\b.getD 8 0<=5
   ·rw [er,decide_eq_true c3];refine iteF ⟨_,rfl,k1 ⟨b.getD 4 0,b.getD 5 0+1,b.getD 6 0+1,b.getD 7 0,b.getD 8 0⟩ ?_ p H3 s3 (s2.free np) ?_⟩
    ·unfold fc;rw [if_neg (by rintro (z | z);exact c1 z;exact z c2),if_pos c3]
    ·show HeadIs C H3 p _ _ _ _ _;have e5:(((b.getD 5 0+1:Nat)):Int)=((b.getD 5 0:Nat):Int)+1:=by omega
     have e6:(((b.getD 6 0+1:Nat)):Int)=((b.getD 6 0:Nat):Int)+1:=by omega
     dsimp only;rw [e5,e6];exact hd
   ·rw [er,decide_eq_false c3];refine iteT (k2 ?_ H3 s3);unfold fc;rw [if_neg (by rintro (z | z);exact c1 z;exact z c2),if_neg c3]
theorem nG (l:List Nat):(Sp21.ints l).length=l.length:=by simp [Sp21.ints]
theorem cutInto_len {α:Type}:∀(ns:List Nat) (l:List α),(Sp21.cutInto ns l).length=ns.length
 | [],_=>rfl
 | n::r,l=>congrArg (·+1) (cutInto_len r (l.drop n))
theorem kR (b:List Nat)(n:Nat):(lengthsOf b n).length=n:=by simp [lengthsOf]
theorem kS {α:Type}:∀(ns:List Nat) (l:List α) (i n:Nat),ns[i]?=some n->(Sp21.cutInto ns l)[i]?=some ((l.drop (ns.take i).sum).take n)
 | [],_,_,_,h=>by simp at h
 | m::r,l,0,n,h=>by
  have e:m=n:=Option.some.inj h;subst e;simp [Sp21.cutInto]
 | m::r,l,i+1,n,h=>by
  have ih:=kS r (l.drop m) i n h;show (Sp21.cutInto r (l.drop m))[i]?=_;rw [ih,List.drop_drop];simp
theorem sY:∀l:List Nat,(Sp21.ints l).sum=((l.sum:Nat):Int)
 | []=>rfl
 | x::l=>by
  show ((x:Int)::Sp21.ints l).sum=_;rw [List.sum_cons,List.sum_cons,sY l];omega
inductive rn (K:W.Frag)(vs:List V)(H:Hp)(Q:VK)(_e3:XK):Prop
 | mk (a:Addr) (b:List Nat):(vs=[.ref a])->(SqL K H a (B b))->(Bytes b)->(b.length<=1048576)->(Q .non H)->rn K vs H Q _e3
theorem xu {b:List Nat}(hb:Bytes b):pL 0 255 (Sp21.ints b)=true:=by
 rw [pM];have h:∀n∈Sp21.ints b,0<=n/\n<=255:=λn hn=>by
  obtain ⟨x,hx,rfl⟩:=List.mem_map.mp hn;have:=hb x hx;omega
 exact ⟨λn hn=>(h n hn).1,λn hn=>(h n hn).2⟩
theorem y8:FnScope ["coded"] ["coded"] (ae sO):=.ck
theorem xw (D:aB K mg "check_bytes" sO)(zLen:mg "len"=none)(cM:∃t,mg "MOST_BYTES"=some (.int 1048576 t))(cH:∃t,mg "HIGHEST_BYTE"=some (.int 255 t))
  (oB:OkF P w K mg base CX0 1 "all_between" ["numbers","lowest","highest"] (iJ K)):OkF P w K mg base CX0 2 "check_bytes" ["coded"] (rn K):=by
 obtain ⟨t1,cM⟩:=cM;obtain ⟨t2,cH⟩:=cH;refine D.ok y8 λ_ _ _ _ _ H _ Q E hr h=>?_;obtain ⟨a,b,rfl,hS,hb,hl,k⟩:=h;refine ⟨_,af (di (yy (aC zY (aw ak (by rfl) zLen PySem.boot_len (aa (pv 0) ad)) (bj (v:=.int 1048576) (by rfl) cM ⟨t1,rfl⟩) (cK _))
  (uF (rW (uE (az oB hr (by rfl) (aa (pv 0) (aa pe_int (aa (bj (v:=.int 255) (by rfl) cH ⟨t2,rfl⟩) ad)))))))).pt uH bc),?_⟩
 refine ⟨_,rfl,a,_,rfl,.inl hS,_,_,rfl,rfl,_,rfl,?_⟩;have e:decide ((1048576:Int)<((B b).length:Int))=false:=decide_eq_false (by rw [f7];omega);rw [e];refine iteF ⟨_,rfl,a,Sp21.ints b,0,255,rfl,hS,_,rfl,?_⟩;rw [xu hb];exact iteF k
theorem y9:FnScope ["coded","many","starts","i","start"] ["coded","many"] (ae sM):=.ck
theorem xy (D:aB K mg "table_of" sM)(zR:mg "range"=none)(cH:∃t,mg "HEAD_LENGTH"=some (.int 9 t))(oN:OkF P w K mg base CX0 1 "number_of" ["some_bytes"] (jX K)) :
  OkF P w K mg base CX0 2 "table_of" ["coded","many"] (rj K):=by
 obtain ⟨t1,cH⟩:=cH;refine D.ok y9 λ_ _ _ _ _ H _ Q E hr h=>?_;obtain ⟨a,b,n,rfl,hS,hb,hl,hn,k⟩:=h;refine ⟨_,ac (aY (i:=2) (own:=[("i",3)]) (g:=aA 3) y9.nd (cn rfl zR (aa (pv 1) ad)) (λs H C cl fp=>pg_nameA (i:=3) y9.nd) (λs H C cl fp=>aj aO (bj (v:=.int 9) (by rfl) cH ⟨t1,rfl⟩) (aj be pe_int (pv 3))))
  (af (ao (cz (own:=[("start",4)]) (g:=aA 4) (te:=iY (jX K) [] E0 (dI (tSl (rSlL K) (tVar 0) (mD (tVar 4)) (mD (tOp (rI0 λi j=>.int (i+j)) (tVar 4) (tC (.int 3))))) tNil)) y9.nd (aQ (pv 2)) (λs H C cl fp=>pg_nameA (i:=4) y9.nd) (λs H C cl fp=>az oN hr (by rfl) (aa (aD aR (pv 0) (aI (pv 4)) (aI (aj aO (pv 4) pe_int))) ad))))),?_⟩
 refine ⟨_,rfl,(n:Int),rfl,by omega,by omega,λD1 hD1=>?_⟩;refine pI (λi=>(9:Int)+3*(i:Int)) hD1 (line_ge (by omega)) (λi H2 Q' hi _ hq=>?_) (λH2 s2 g2=>?_)
 ·refine ⟨rfl,_,rfl,_,_,rfl,rfl,.inl ⟨by decide,by decide⟩,_,_,rfl,rfl,?_⟩;rw [Int.zero_add];exact hq _ (Same.refl _)
 ·rw [Int.toNat_natCast] at g2;have sA:Same H H2:=s2;refine ⟨_,rfl,D1,rfl,⟨_,SqL.of g2⟩,λD2 hD2=>?_⟩;refine sv (λst=>((numOf ((b.drop st.toNat).take 3):Nat):Int)) hD2 (SqL.of g2) (by rw [List.length_map,List.length_range];exact line_ge (by omega)) (λi u H3 Q' hu s3 hq=>?_) (λH3 s3 g3=>?_)
  ·have hi:i<n:=by have:=(List.getElem?_eq_some_iff.mp hu).1;simpa using this
   have eu:u=((9+3*i:Nat):Int):=by
    rw [List.getElem?_map,List.getElem?_range hi] at hu;have:=Option.some.inj hu;dsimp only at this;omega
   subst eu;have e3:(((9+3*i:Nat):Int)+3)=((9+3*i+3:Nat):Int):=by omega
   refine ⟨rfl,_,rfl,_,rfl,_,rfl,_,rfl,_,_,rfl,rfl,_,rfl,a,_,rfl,(sA.trans s3).seq hS,λp hp=>?_⟩;rw [e3,Ar];refine ⟨p,_,rfl,SqL.of upd_same,λx hx=>hb x (List.mem_of_mem_drop (List.mem_of_mem_take hx)),?_,λH4 s4=>?_⟩
   ·rw [List.length_take];omega
   ·rw [Int.toNat_natCast] at hq;exact hq H4 ((same_upd hp).trans s4)
  ·refine k D2 H3 (sA.trans s3) (sA.free hD2) ?_;have e:((List.range n).map λ(i:Nat)=>(9:Int)+3*(i:Int)).map (λst=>((numOf ((b.drop st.toNat).take 3):Nat):Int))=Sp21.ints (lengthsOf b n):=by
    unfold lengthsOf Sp21.ints;rw [List.map_map,List.map_map];refine List.map_congr_left λi _=>?_;show ((numOf ((b.drop ((9:Int)+3*(i:Int)).toNat).take 3):Nat):Int)=_;rw [show ((9:Int)+3*(i:Int)).toNat=9+3*i by omega];rfl
   rw [g3,e]
theorem sZ {l:List Nat}:(l.any λx=>x==0)=decide (∃x∈l,x=0):=by
 rw [Bool.eq_iff_iff,List.any_eq_true,decide_eq_true_eq];simp
theorem nH {l:List Nat}{i n:Nat} (h:l[i]?=some n):(l.take (i+1)).sum=(l.take i).sum+n:=by
 rw [List.take_succ,h];simp
theorem za:FnScope ["coded","head","many","lengths","start","codes","length"] ["coded","head"] (ae sN):=.ck
theorem xz {CP C CN:Addr}(D:aB K mg "tile_codes_of" sN)(zLen:mg "len"=none)(zMin:mg "min"=none)(zSum:mg "sum"=none)(cH:∃t,mg "HEAD_LENGTH"=some (.int 9 t))(cC:∃t,mg "CRC_LENGTH"=some (.int 4 t))(T:HeadTxt K mg C)(cN:ExcAt K mg "NotACode" CN)
  (oP:OkM P w K mg base CX0 4 C "places" ["self"] (dc CP C)) (oT:OkF P w K mg base CX0 2 "table_of" ["coded","many"] (rj K)) :
  OkF P w K mg base (CX1 P w) 5 "tile_codes_of" ["coded","head"] (rk K C CN):=by
 obtain ⟨t1,cH⟩:=cH;obtain ⟨t2,cC⟩:=cC;refine D.okx za λ_ _ _ _ _ H _ Q E hr h X hX=>?_;subst hX;obtain ⟨a,hh,b,f,rfl,hS,hb,hl,hd,hf,k1,k2⟩:=h;have hr2:Room 2 _:=hr.mono (by decide);refine ⟨_,ac (ag (i:=2) za.nd (aw ak (by rfl) zLen PySem.boot_len (aa (mo oP T.cl hr gv (pv 1)) ad)))
  (ac (ag (i:=3) za.nd (az oT hr2 rfl (aa (pv 0) (aa (pv 2) ad))))
  (ac (ag (i:=4) za.nd (aj aO (bj (v:=.int 9) (by rfl) cH ⟨t1,rfl⟩) (aj be pe_int (pv 2))))
  (ac (di (yy (aC g9 (aw (Ab rfl) (by rfl) zMin boot_min (aa (pv 3) ad)) pe_int (cK _))
    (uF (aC zX (aj aO (aj aO (pv 4) (aw (Aa rfl) (by rfl) zSum boot_sum (aa (pv 3) ad))) (bj (v:=.int 4) (by rfl) cC ⟨t2,rfl⟩)) (aw ak (by rfl) zLen PySem.boot_len (aa (pv 0) ad)) (cK _)))).pt
   (af (cj au rfl rfl cN)) bc)
  (ac (ag (i:=5) za.nd (bD ad))
  (ac (vL λhfr=>bU (dw au hfr) rfl (aQ (pv 3)) (pg_nameA (i:=6) za.nd)
   (ac (bd (lC PySem.F.plainAttrs_list PySem.F.slot_list_append PySem.F.type_list_append cp (pv 5) (aa (aD aR (pv 0) (aI (pv 4)) (aI (aj aO (pv 4) (pv 6)))) ad)))
   (af (ps_aug (i:=4) za.nd rfl (Or.inl rfl) (pv 6) rY))))
  (af (ao (pv 5)))))))),?_⟩
 obtain ⟨dx,hp⟩:=id hd;have hn:f.tiles<=256:=w6 hf;have hpl:(places f).length=f.tiles:=by rw [<- kA hf.w,List.length_map,List.length_range]
 refine ⟨_,rfl,hh,dx,_,rfl,hp,(by kernel_rfl),hh,f,rfl,hd,hf,λpa H1 s1 n1 L1=>?_⟩;obtain ⟨refs,g1,g2,_,_⟩:=L1;refine ⟨pa,_,rfl,.inl (SqL.of g1),?_⟩;rw [List.length_map,g2,hpl];refine ⟨_,rfl,_,rfl,a,b,f.tiles,rfl,s1.seq hS,hb,hl,by omega,λla H2 s2 n2 g3=>?_⟩;have sA:=s1.trans s2;generalize hlens:lengthsOf b f.tiles=lens at g3;have llen:lens.length=f.tiles:=by rw [<- hlens];exact kR _ _
 have small:∀x∈lens,x<16777216:=λx hx=>by
  rw [<- hlens] at hx;obtain ⟨i,_,rfl⟩:=List.mem_map.mp hx;have:=mR (l:=(b.drop (9+3*i)).take 3) λx hx=>hb x (List.mem_of_mem_drop (List.mem_of_mem_take hx));have l3:((b.drop (9+3*i)).take 3).length<=3:=by rw [List.length_take];omega
  have:=Nat.pow_le_pow_right (n:=256) (by decide) l3;omega
 have tp:tilesP b f=if (lens.any λx=>x==0)=true\/9+3*f.tiles+lens.sum+4≠b.length then none else some (Sp21.cutInto lens (b.drop (9+3*f.tiles))):=by
  unfold tilesP;simp only [hlens]
 refine ⟨_,rfl,_,_,rfl,rfl,.inl ⟨by decide,by decide⟩,_,_,rfl,rfl,?_⟩;have e9:(9:Int)+3*(f.tiles:Int)=((9+3*f.tiles:Nat):Int):=by omega
 dsimp only;rw [e9];have tpos:=tiles_pos hf;refine ⟨_,rfl,la,Sp21.ints lens,rfl,SqL.of g3,by rw [nG];omega,λm hm hmin=>?_⟩;obtain ⟨m0,hm0,rfl⟩:=List.mem_map.mp hm;refine ⟨_,_,rfl,rfl,_,rfl,ite2 (λc1=>?_) (λc1=>?_)⟩
 ·have c1:m0=0:=by have:=of_decide_eq_true c1;omega
  refine iteT (k2 ?_ H2 sA);rw [tp,if_pos (.inl (by rw [sZ];exact decide_eq_true ⟨m0,hm0,c1⟩))]
 ·have c1:(lens.any λx=>x==0)=false:=by
   rw [sZ];refine decide_eq_false ?_;rintro ⟨x,hx,rfl⟩;have:=hmin _ (List.mem_map.mpr ⟨0,hx,rfl⟩);exact c1 (decide_eq_true (by omega))
  refine ⟨_,rfl,_,rfl,la,Sp21.ints lens,rfl,SqL.of g3,_,_,rfl,rfl,_,_,rfl,rfl,_,rfl,a,_,rfl,.inl (sA.seq hS),rfl,_,rfl,?_⟩;rw [sY,f7];have ed:(!decide (V.int (((9+3*f.tiles:Nat):Int)+((lens.sum:Nat):Int)+4)=V.int (b.length:Int)))=decide (9+3*f.tiles+lens.sum+4≠b.length):=by
   rw [Bool.eq_iff_iff,Bool.not_eq_true',decide_eq_false_iff_not,decide_eq_true_eq];constructor
   ·intro z q;exact z (by congr 1;omega)
   ·intro z q;injection q with q;omega
  rw [ed];refine ite2 (λc2=>k2 (by rw [tp,if_pos (.inr (of_decide_eq_true c2))]) H2 sA) (λc2=>?_);have c2:9+3*f.tiles+lens.sum+4=b.length:=Decidable.of_not_not λz=>c2 (decide_eq_true z);have tp2:tilesP b f=some (Sp21.cutInto lens (b.drop (9+3*f.tiles))):=by rw [tp,if_neg (by rintro (z | z);rw [c1] at z;cases z;exact z c2)]
  refine ⟨Nat.zero_le _,λca hca=>?_⟩;have sC:=sA.new (o:=.lst []) hca;refine ⟨_,rfl,la,rfl,⟨_,SqL.of ((same_upd hca) _ _ g3)⟩,dH (K:=K) (a:=la) (xs:=(Sp21.ints lens).map V.int) (λi σ H3=>∃v,σ=[some (.ref a),some (.ref hh),some (.int f.tiles),some (.ref la),some (.int ((9+3*f.tiles+(lens.take i).sum:Nat):Int)),some (.ref ca),v]/\Same H2 H3 /\
   ListOf CodeAt H3 ca ((Sp21.cutInto lens (b.drop (9+3*f.tiles))).take i)) ⟨none,rfl,same_upd hca,ListOf.nil upd_same⟩ (λi σ H3 _ ⟨_,_,s3,_⟩=>SqL.of (s3 _ _ g3)) ?_ ?_⟩
  ·rintro i y σ H3 hy ⟨v,rfl,s3,L3⟩;obtain ⟨z,hz,rfl⟩:=cA hy;have hi:i<lens.length:=by have:=(List.getElem?_eq_some_iff.mp hz).1;rwa [nG] at this
   have hx:lens[i]?=some lens[i]:=List.getElem?_eq_getElem hi;have ez:z=((lens[i]:Nat):Int):=by
    unfold Sp21.ints at hz;rw [List.getElem?_map,hx] at hz;exact (Option.some.inj hz).symm
   subst ez;obtain ⟨refs3,r1,r2,_,_⟩:=id L3;have e2:(((9+3*f.tiles+(lens.take i).sum:Nat):Int)+((lens[i]:Nat):Int))=((9+3*f.tiles+(lens.take i).sum+lens[i]:Nat):Int):=by omega
   refine ⟨_,rfl,.inl ⟨rfl,_,SqL.of r1⟩,_,rfl,_,rfl,_,rfl,_,rfl,_,rfl,_,_,rfl,rfl,_,rfl,a,_,rfl,(sA.trans s3).seq hS,λp hp3=>?_⟩;rw [e2,Ar];have s4:=same_upd (o:=.lst (B ((b.drop (9+3*f.tiles+(lens.take i).sum)).take lens[i]))) hp3;have nc:p≠ca:=(ne_of_none r1 hp3).symm;obtain ⟨refs',h1,h2,h3⟩:=L3.snoc (p:=p) s4 (λr y o hn z=>by
     show (upd _ ca o) r=_;rw [upd_ne hn];exact z) (λr y z=>gM _ _ _ _ s4 z) nc (show CodeAt _ p _ from upd_same)
   have hcl:refs'.length<=256:=by rw [h2,List.length_take];omega
   refine ⟨ca,_,_,rfl,rfl,h1,by rw [List.length_map,sizeLine_eq];omega,?_⟩;refine ⟨_,rfl,_,rfl,_,_,rfl,rfl,some (.int ((lens[i]:Nat):Int)),?_,λb' o' z=>?_,?_⟩
   ·rw [nH hx];show [some (V.ref a),some (V.ref hh),some (V.int _),some (V.ref la),some (V.int (((9+3*f.tiles+(lens.take i).sum:Nat):Int)+((lens[i]:Nat):Int))),some (V.ref ca),some (V.int _)]=_;rw [e2,Nat.add_assoc]
   ·rw [upd_ne (ne_of_none z hca)];exact s4 _ _ (s3 _ _ z)
   ·have eg:=kS lens (b.drop (9+3*f.tiles)) i lens[i] hx;rw [List.drop_drop] at eg;rw [List.take_succ,eg];exact h3
  ·rintro σ H3 ⟨v,rfl,s3,L3⟩;refine ⟨_,rfl,k1 _ tp2 ca H3 (sA.trans s3) (sA.free hca) ?_⟩;rw [List.length_map,nG,List.take_of_length_le (by rw [cutInto_len];exact Nat.le_refl _)] at L3;exact L3
theorem xA:FnScope ["coded","head"] ["coded"] (ae ng):=.ck
theorem v6 {CP CH CN:Addr}(D:aB K mg "opened" ng)(T:PartsTxt K mg CP)(oI:OkM P w K mg base CX0 1 CP "__init__" ["self","head","codes"] (gN CP))
  (oH:OkF P w K mg base (CX1 P w) 3 "head_of" ["coded"] (nD K CH CN)) (oT:OkF P w K mg base (CX1 P w) 5 "tile_codes_of" ["coded","head"] (rk K CH CN)) :
  OkF P w K mg base (CX1 P w) 6 "opened" ["coded"] (nF K CP CH CN):=by
 refine D.okx xA λ_ _ _ _ _ H _ Q E hr h X hX=>?_;subst hX;obtain ⟨a,b,rfl,hS,hb,hl,k1,k2⟩:=h;refine ⟨_,ac (ag (i:=1) xA.nd (pe_f oH (hr.mono (by decide)) rfl (bH au) (aa (pv 0) ad)))
  (af (ao (pJ oI T.toClsIn (hr.mono (by decide)) rfl (aa (pv 1) (aa (pe_f oT hr rfl (bH au) (aa (pv 0) (aa (pv 1) ad))) ad))))),?_⟩
 have eo:=kD hb;refine ⟨_,rfl,a,b,rfl,hS,hb,hl,λf hf hp H1 s1 n1 hd=>?_,λhn H1 s1=>k2 (by rw [eo,hn];rfl) H1 s1⟩;have fok:=headP_ok hb hf;refine ⟨_,rfl,_,rfl,_,rfl,a,hp,b,f,rfl,s1.seq hS,hb,hl,hd,fok,λl ht ca H2 s2 n2 L2'=>?_,λht H2 s2=>k2 (by rw [eo,hf];show (tilesP b f).map _=none;rw [ht];rfl) H2 (s1.trans s2)⟩;intro p dx np ndx ne;refine ⟨p,dx,hp,ca,rfl,upd_same,λH3 hz kp=>?_⟩;obtain ⟨dx',g3⟩:=hz;refine ⟨rfl,?_⟩;have s3:Same H2 H3:=Same.made np ndx kp;refine k1 f l (by rw [eo,hf];show (tilesP b f).map _=_;rw [ht];rfl) p H3 ((s1.trans s2).trans s3) ⟨dx',hp,ca,g3,hd.same (s2.trans s3),L2'.same gM s3⟩
theorem jH {b:List Nat}{f:Sp21.Head}{l:List (List Nat)} (hb:Bytes b) (h:Sp21.headOf b=some (f,l)):HeadOk f/\l.length=f.tiles:=by
 rw [kD hb] at h;cases e:fc b with
 | none=>rw [e] at h;cases h
 | some g =>
  rw [e] at h;have h:(tilesP b g).map (λl=>(g,l))=some (f,l):=h;cases e2:tilesP b g with
  | none=>rw [e2] at h;cases h
  | some m =>
   rw [e2] at h;cases h;refine ⟨headP_ok hb e,?_⟩;unfold tilesP at e2;dsimp only at e2;split at e2
   ·cases e2
   ·cases e2;rw [cutInto_len,kR]
theorem v7 {ns:List Int}(h:∀n∈ns,0<=n/\n<=255):∃b:List Nat,ns=Sp21.ints b/\Bytes b/\b.length=ns.length:=by
 refine ⟨ns.map Int.toNat,?_,λx hx=>?_,by rw [List.length_map]⟩
 ·unfold Sp21.ints;rw [List.map_map]
  conv=>lhs;rw [<- List.map_id ns]
  refine List.map_congr_left λx hx=>?_;have:=h x hx;show x=((x.toNat:Nat):Int);omega
 ·obtain ⟨n,hn,rfl⟩:=List.mem_map.mp hx;have:=h n hn;omega
theorem v8 (b:List Nat):Sp21Neutral.nats (Sp21.ints b)=b:=by
 unfold Sp21Neutral.nats Sp21.ints;rw [List.map_map]
 conv=>rhs;rw [<- List.map_id b]
 exact List.map_congr_left λx _=>Int.toNat_natCast x
theorem ue {b:List Nat}(hb:Bytes b)(hl:b.length<=1048576):Sp21.bytesOk b=true:=by
 unfold Sp21.bytesOk Sp21.BYTES;rw [Bool.and_eq_true,List.all_eq_true];exact ⟨decide_eq_true hl,λx hx=>decide_eq_true (hb x hx)⟩
inductive nJ (K:W.Frag)(vs:List V)(H:Hp)(Q:VK)(_e3:XK):Prop
 | mk (a:Addr) (ev:List Int) (c:Nat):(vs=[.ref a,.int c])->(SqL K H a (ev.map V.int))->(0<ev.length)->(ev.length<=8000000)->(Ans H ((aE ev c).map V.int) Q)->nJ K vs H Q _e3
inductive nK (vs:List V)(H:Hp)(Q:VK)(_e3:XK):Prop
 | mk (a:Addr) (d:List Int):(vs=[.ref a])->(H a=some (.lst (d.map V.int)))->(d.length<=4000000)->(Ans H ((TW.kr d).map V.int) Q)->nK vs H Q _e3
inductive dC (K:W.Frag)(vs:List V)(H:Hp)(Q:VK)(_e3:XK):Prop
 | mk (a:Addr) (row:List Int):(vs=[.ref a])->(SqL K H a (row.map V.int))->(row.length<=4000000)->(Ans H ((TW.ie row).map V.int) Q)->dC K vs H Q _e3
inductive dD (K:W.Frag)(vs:List V)(H:Hp)(Q:VK)(_e3:XK):Prop
 | mk (a:Addr) (row:List Int):(vs=[.ref a])->(SqL K H a (row.map V.int))->(row.length<=4000000)->(Ans H ((TW.ig row).map V.int) Q)->dD K vs H Q _e3
theorem v9 (l:List Int):cutV (l.map V.int) (some 1) none=(l.drop 1).map V.int:=jQ l 1
theorem zb (l:List Int):cutV (l.map V.int) none (some 1)=(l.take 1).map V.int:=sI l 1
theorem xB (l:List Int):cutV (l.map V.int) (some (-1)) none=(l.drop (l.length-1)).map V.int:=by
 unfold cutV;have e:HT.sIx (l.map V.int).length 0 (some (-1))=l.length-1:=by
  show (if (-1:Int)<0 then ((-1:Int)+((l.map V.int).length:Int)).toNat else min (-1:Int).toNat (l.map V.int).length)=l.length-1;rw [if_pos (by decide),List.length_map];omega
 rw [e,HT.sIx_none,List.map_drop,List.take_of_length_le (by simp)]
theorem iO (l:List Int)(i:Nat)(hi:i<=l.length):jJ (l.map V.int) i 2=(pick l i 2 ((l.length-i+1)/2)).map V.int:=by
 have en:(l.length-i+2-1)/2=(l.length-i+1)/2:=by omega
 unfold jJ pick;rw [List.length_map,en,List.map_map];have:∀ms:List Nat,(∀m∈ms,m<(l.length-i+1)/2)->ms.filterMap (λm=>(l.map V.int)[i+m*2]?)=ms.map (V.int ∘ λm=>l.getD (i+m*2) 0):=by
  intro ms
  induction ms with
  | nil=>intro _;rfl
  | cons m ms ih =>
   intro h;have hm:i+m*2<l.length:=by have:=h m List.mem_cons_self;omega
   rw [List.filterMap_cons,List.getElem?_map,List.getElem?_eq_getElem hm,ih λq hq=>h q (List.mem_cons_of_mem _ hq),List.map_cons];simp [List.getD_eq_getElem?_getD,hm]
 exact this _ λm hm=>by simpa using hm
theorem zc:FnScope ["evens","count","right"] ["evens","count"] (ae sJ):=.ck
theorem nM (D:aB K mg "right_of_odds" sJ)(zLen:mg "len"=none):OkF P w K mg base CX0 1 "right_of_odds" ["evens","count"] (nJ K):=by
 refine D.ok zc λ_ _ _ _ _ H _ Q E hr h=>?_;obtain ⟨a,ev,c,rfl,hS,h0,hl,k⟩:=h;refine ⟨_,ac (ag (i:=2) zc.nd (aD aR (pv 0) (aI pe_int) bo))
  (ac (di (aC g9 (aw ak (by rfl) zLen PySem.boot_len (aa (pv 2) ad)) (pv 1) (cK _))
   (af (bd (lC PySem.F.plainAttrs_list PySem.F.slot_list_append PySem.F.type_list_append cp (pv 2) (aa (aq ay (pv 0) (j6 eV pe_int)) ad)))) bc)
  (af (ao (pv 2)))),?_⟩
 refine ⟨_,rfl,_,rfl,a,_,rfl,hS,λp hp=>?_⟩;rw [v9];refine ⟨_,rfl,p,_,rfl,.inl (SqL.of upd_same),_,rfl,_,_,rfl,rfl,_,rfl,ite2 (λc1=>?_) (λc1=>?_)⟩
 ·have c2:(ev.drop 1).length<c:=by
   have:=of_decide_eq_true c1;rw [List.length_map] at this;omega
  refine ⟨_,rfl,.inl ⟨rfl,_,SqL.of upd_same⟩,_,rfl,_,rfl,a,_,_,.int (ev.getD (ev.length-1) 0),rfl,rfl,(same_upd hp).seq hS,?_,p,_,_,rfl,rfl,upd_same,?_,_,rfl,?_⟩
  ·have e1:ev=ev.take (ev.length-1)++[ev.getD (ev.length-1) 0]:=by
    apply List.ext_getElem?;intro j;by_cases hj:j<ev.length-1
    ·rw [List.getElem?_append_left (by rw [List.length_take];omega),List.getElem?_take,if_pos hj]
    ·rw [List.getElem?_append_right (by rw [List.length_take];omega),List.length_take,Nat.min_eq_left (by omega)];by_cases hj2:j=ev.length-1
     ·subst hj2;rw [Nat.sub_self];simp [List.getD_eq_getElem?_getD,show ev.length-1<ev.length by omega]
     ·rw [List.getElem?_eq_none (by omega),List.getElem?_eq_none (by simp;omega)]
   have e2:ev.map V.int=(ev.take (ev.length-1)).map V.int++[V.int (ev.getD (ev.length-1) 0)]:=by
    conv=>lhs;rw [e1]
    rw [List.map_append];rfl
   rw [e2];exact wK _ _
  ·rw [List.length_map,List.length_drop];exact Nat.lt_of_lt_of_le (by omega) (line_ge (n:=8000000) (by omega))
  ·refine k p _ (λb o e=>?_) hp ?_
   ·rw [upd_ne (ne_of_none e hp),upd_ne (ne_of_none e hp)];exact e
   ·rw [upd_same];unfold aE;rw [if_pos c2,List.map_append];rfl
 ·have c2:¬(ev.drop 1).length<c:=by
   intro z;refine c1 (decide_eq_true ?_);rw [List.length_map];omega
  refine ⟨_,rfl,k p _ (same_upd hp) hp ?_⟩;rw [upd_same];unfold aE;rw [if_neg c2]
theorem zd:FnScope ["differences","before","behind","left","right"] ["differences"] (ae sK):=.ck
theorem nN (D:aB K mg "lifts" sK)(zZip:mg "zip"=none):OkF P w K mg base CX0 1 "lifts" ["differences"] nK:=by
 refine D.ok zd λ_ _ _ _ _ H _ Q E hr h=>?_;obtain ⟨a,d,rfl,ha,hl,k⟩:=h;have hz:=line_ge (n:=8000001) (by omega);refine ⟨_,ac (ag (i:=1) zd.nd (aj cW (aD aR (pv 0) bo (aI pe_int)) (pv 0)))
  (ac (ag (i:=2) zd.nd (aj cW (pv 0) (aD aR (pv 0) (aI (j6 eV pe_int)) bo)))
  (af (ao (cz (own:=[("left",3),("right",4)]) (g:=gTup K 2 (bp (aA 3) (bp (aA 4) gNil))) zd.nd (ib rfl zZip (aa (pv 1) (aa (pv 2) ad))) (λs H C cl fp=>bT rfl (am (pg_nameA (i:=3) zd.nd) (am (pg_nameA (i:=4) zd.nd) bn))) (λs H C cl fp=>aj eU (aj aO (aj aO (pv 3) (pv 4)) pe_int) pe_int))))),?_⟩
 refine ⟨_,rfl,_,rfl,a,_,rfl,SqL.of ha,λp1 hp1=>?_⟩;rw [zb];have a1:(upd H p1 (.lst ((d.take 1).map V.int))) a=some (.lst (d.map V.int)):=by rw [upd_ne (ne_of_none ha hp1)];exact ha
 refine ⟨_,rfl,p1,a,_,_,rfl,rfl,upd_same,a1,(by simp only [List.length_map,List.length_take];omega),λp2 hp2=>?_⟩;have s2:Same H (upd (upd H p1 (.lst ((d.take 1).map V.int))) p2 (.lst ((d.take 1).map V.int++d.map V.int))):=(same_upd hp1).new hp2;refine ⟨_,rfl,_,rfl,_,rfl,_,rfl,a,_,rfl,SqL.of (s2 _ _ ha),λp3 hp3=>?_⟩;rw [xB];have s3:=s2.new (o:=.lst ((d.drop (d.length-1)).map V.int)) hp3;refine ⟨a,p3,_,_,rfl,rfl,s3 _ _ ha,upd_same,(by simp only [List.length_map,List.length_drop];omega),λp4 hp4=>?_⟩;have s4:=s3.new (o:=.lst (d.map V.int++(d.drop (d.length-1)).map V.int)) hp4;rw [<- List.map_append,<- List.map_append];rw [<- List.map_append,<- List.map_append] at s4;have n42:p2≠p4:=ne_of_none (by rw [upd_ne (ne_of_none (upd_same) hp3)];exact upd_same) hp4;have g2:∀o3 o4,(upd (upd (upd (upd H p1 (.lst ((d.take 1).map V.int))) p2 (.lst ((d.take 1++d).map V.int))) p3 o3) p4 o4) p2=some (.lst ((d.take 1++d).map V.int)):=λo3 o4=>by
  rw [upd_ne n42,upd_ne (ne_of_none (upd_same) hp3)];exact upd_same
 refine ⟨_,rfl,_,rfl,p2,p4,_,_,rfl,SqL.of (g2 _ _),SqL.of upd_same,λD hD=>?_⟩;refine i4 (λu v=>(u+v+2)/4) hD (SqL.of (g2 _ _)) (SqL.of upd_same) (by rw [List.length_append,List.length_take];omega) (λu v T H' Q' hT _ hq=>?_) (λH' sm hD'=>?_)
 ·refine ⟨T,_,rfl,SqT.of upd_same,rfl,_,_,rfl,_,_,rfl,rfl,rfl,_,rfl,_,rfl,_,_,rfl,rfl,_,_,rfl,rfl,_,_,rfl,rfl,⟨by decide,by decide⟩,hq _ (same_upd hT)⟩
 ·refine k D H' (Same.trans s4 sm) (s4.free hD) ?_;rw [hD'];rfl
theorem ze:FnScope ["row","evens","odds","rights","differences","means","x","left","right","lift"] ["row"] (ae ir):=.ck
theorem kT (D:aB K mg "halve_row" ir)(zLen:mg "len"=none)(zList:mg "list"=none)(zZip:mg "zip"=none)(oR:OkF P w K mg base CX0 1 "right_of_odds" ["evens","count"] (nJ K))(oL:OkF P w K mg base CX0 1 "lifts" ["differences"] nK) :
  OkF P w K mg base CX0 2 "halve_row" ["row"] (dC K):=by
 refine D.ok ze λ_ _ _ _ _ H _ Q E hr h=>?_;obtain ⟨a,row,rfl,hS,hl,k⟩:=h;have hz:=line_ge (n:=8000001) (by omega);refine ⟨_,ac (di (aC g9 (aw ak (by rfl) zLen PySem.boot_len (aa (pv 0) ad)) pe_int (cK _))
   (af (ao (cP bL (by rfl) zList boot_list (aa (pv 0) ad)))) bc)
  (ac (ag (i:=1) ze.nd (km (pv 0) pe_int pe_int))
  (ac (ag (i:=2) ze.nd (km (pv 0) pe_int pe_int))
  (ac (ag (i:=3) ze.nd (az oR hr rfl (aa (pv 1) (aa (aw ak (by rfl) zLen PySem.boot_len (aa (pv 2) ad)) ad))))
  (ac (aY (i:=4) (own:=[("x",6),("left",7),("right",8)]) (g:=gTup K 3 (bp (aA 6) (bp (aA 7) (bp (aA 8) gNil)))) ze.nd (qF rfl zZip (aa (pv 2) (aa (pv 1) (aa (pv 3) ad)))) (λs H C cl fp=>bT rfl (am (pg_nameA (i:=6) ze.nd) (am (pg_nameA (i:=7) ze.nd) (am (pg_nameA (i:=8) ze.nd) bn)))) (λs H C cl fp=>aj bK (pv 6) (aj eU (aj aO (pv 7) (pv 8)) pe_int)))
  (ac (aY (i:=5) (own:=[("x",6),("lift",9)]) (g:=gTup K 2 (bp (aA 6) (bp (aA 9) gNil))) ze.nd (ib rfl zZip (aa (pv 1) (aa (az oL hr rfl (aa (pv 4) ad)) ad))) (λs H C cl fp=>bT rfl (am (pg_nameA (i:=6) ze.nd) (am (pg_nameA (i:=9) ze.nd) bn))) (λs H C cl fp=>aj aO (pv 6) (pv 9)))
  (af (ao (aj cW (pv 5) (pv 4))))))))),?_⟩
 refine ⟨_,rfl,a,_,rfl,.inl hS,_,_,rfl,rfl,_,rfl,ite2 (λc1=>?_) (λc1=>?_)⟩
 ·have c2:row.length<2:=by have:=of_decide_eq_true c1;rw [List.length_map] at this;omega
  refine ⟨_,rfl,a,_,rfl,.inl hS,λl hl2=>k l _ (same_upd hl2) hl2 ?_⟩;rw [upd_same];unfold TW.ie;rw [if_pos c2]
 ·have c2:¬row.length<2:=by intro z;refine c1 (decide_eq_true ?_);rw [List.length_map];omega
  refine ⟨_,rfl,a,_,0,2,rfl,rfl,rfl,by decide,hS,λp1 hp1=>?_⟩;rw [iO row 0 (Nat.zero_le _)];have s1:=same_upd (o:=.lst ((pick row 0 2 ((row.length-0+1)/2)).map V.int)) hp1;refine ⟨_,rfl,a,_,1,2,rfl,rfl,rfl,by decide,s1.seq hS,λp2 hp2=>?_⟩;rw [iO row 1 (by omega)];have en1:(row.length-0+1)/2=(row.length+1)/2:=by omega
  have en2:(row.length-1+1)/2=row.length/2:=by omega
  rw [en1,en2];rw [en1] at s1 hp2;generalize hev:pick row 0 2 ((row.length+1)/2)=ev at s1 hp2 ⊢;generalize hod:pick row 1 2 (row.length/2)=od;have lev:ev.length=(row.length+1)/2:=by rw [<- hev];exact bi _ _ _ _
  have lod:od.length=row.length/2:=by rw [<- hod];exact bi _ _ _ _
  have s2:=s1.new (o:=.lst (od.map V.int)) hp2;have g1:(upd (upd H p1 (.lst (ev.map V.int))) p2 (.lst (od.map V.int))) p1=some (.lst (ev.map V.int)):=by rw [upd_ne (ne_of_none upd_same hp2)];exact upd_same
  have g2:(upd (upd H p1 (.lst (ev.map V.int))) p2 (.lst (od.map V.int))) p2=some (.lst (od.map V.int)):=upd_same;generalize upd (upd H p1 (.lst (ev.map V.int))) p2 (.lst (od.map V.int))=H2 at s2 g1 g2 ⊢;refine ⟨_,rfl,_,rfl,p2,_,rfl,.inl (SqL.of g2),p1,ev,od.length,(by rw [List.length_map];rfl),SqL.of g1,by omega,by omega,λp3 H3 s3 n3 g3=>?_⟩;have g13:=s3 _ _ g1;have g23:=s3 _ _ g2;refine ⟨_,rfl,_,rfl,_,rfl,p2,p1,p3,_,_,_,rfl,SqL.of g23,SqL.of g13,SqL.of g3,λp4 hp4=>?_⟩;refine mL (λx l r=>x-(l+r)/2) hp4 (SqL.of g23) (SqL.of g13) (SqL.of g3) (by omega) (λu v z T H' Q' hT _ hq=>?_) (λH4 s4 g4=>?_)
  ·exact ⟨T,_,rfl,SqT.of upd_same,rfl,_,_,rfl,_,_,rfl,_,_,rfl,rfl,rfl,_,rfl,_,rfl,_,rfl,_,_,rfl,rfl,_,_,rfl,rfl,⟨by decide,by decide⟩,_,_,rfl,rfl,hq _ (same_upd hT)⟩
  ·have e4:(od.zip (ev.zip (aE ev od.length))).map (λp=>p.1-(p.2.1+p.2.2)/2)=pd od ev (aE ev od.length):=rfl;rw [e4] at g4;have ldif:(pd od ev (aE ev od.length)).length<=4000000:=by
    simp only [pd,List.length_map,List.length_zip];omega
   generalize hdf:pd od ev (aE ev od.length)=df at g4 ldif;have g14:=s4 _ _ g13;refine ⟨_,rfl,_,rfl,p4,df,rfl,g4,ldif,λp5 H5 s5 n5 g5=>?_⟩;have g15:=s5 _ _ g14;have g45:=s5 _ _ g4;refine ⟨p1,p5,_,_,rfl,SqL.of g15,SqL.of g5,λp6 hp6=>?_⟩;refine i4 (λx l=>x+l) hp6 (SqL.of g15) (SqL.of g5) (by omega) (λu v T H' Q' hT _ hq=>?_) (λH6 s6 g6=>?_)
   ·exact ⟨T,_,rfl,SqT.of upd_same,rfl,_,_,rfl,_,_,rfl,rfl,rfl,_,rfl,_,rfl,_,_,rfl,rfl,hq _ (same_upd hT)⟩
   ·have g46:=s6 _ _ g45;refine ⟨_,rfl,_,rfl,p6,p4,_,_,rfl,rfl,g6,g46,?_,λp7 hp7=>?_⟩
    ·simp only [List.length_map,List.length_zip];omega
    ·have sAll:=((s2.trans s3).trans s4).trans (s5.trans s6);refine k p7 _ (sAll.new hp7) (sAll.free hp7) ?_;rw [upd_same,<- List.map_append];unfold TW.ie;rw [if_neg c2];simp only [hev,hod,hdf]
inductive pS (vs:List V)(H:Hp)(Q:VK)(_e3:XK):Prop
 | mk (n:Int):(vs=[.int n])->(Q (.int ((n+1)/2)) H)->pS vs H Q _e3
theorem Au:FnScope ["n"] ["n"] (ae xi):=.ck
theorem je (D:aB K mg "half" xi):OkF P w K mg base CX0 1 "half" ["n"] pS:=by
 refine D.ok Au λ_ _ _ _ _ H _ Q E hr h=>?_;obtain ⟨n,rfl,k⟩:=h;refine ⟨_,af (ao (aj eU (aj aO (pv 0) pe_int) pe_int)),?_⟩;exact ⟨_,rfl,_,_,rfl,rfl,_,_,rfl,rfl,⟨by decide,by decide⟩,k⟩
inductive jY (vs:List V)(H:Hp)(Q:VK)(_e3:XK):Prop
 | mk (a:Addr) (g:List (List Int)) (i:Nat):(vs=[.ref a,.int i])->(GridAt H a g)->((∀r∈g,i<r.length))->(g.length<=100000)->(Ans H ((g.map λr=>r.getD i 0).map V.int) Q)->jY vs H Q _e3
inductive jZ (vs:List V)(H:Hp)(Q:VK)(_e3:XK):Prop
 | mk (a:Addr) (g:List (List Int)) (w h:Nat):(vs=[.ref a])->(GridAt H a g)->(Rect g w h)->(0<h)->(w<=65536)->(h<=65536)->(AnsG H (Sp21.turn g) Q)->jZ vs H Q _e3
inductive eE (vs:List V)(H:Hp)(Q:VK)(_e3:XK):Prop
 | mk (a:Addr) (g:List (List Int)) (w h:Nat):(vs=[.ref a])->(GridAt H a g)->(Rect g w h)->(0<w)->(0<h)->(w<=65536)->(h<=65536)->(AnsG H (TW.halveCorner g) Q)->eE vs H Q _e3
theorem cx {g:List (List Int)}{j:Nat} (h:j<g.length):g[j]?=some (g.getD j []):=by simp [List.getD_eq_getElem?_getD,h]
theorem xC:FnScope ["rows","i","row"] ["rows","i"] (ae m4):=.ck
theorem kU (D:aB K mg "column_at" m4):OkF P w K mg base CX0 1 "column_at" ["rows","i"] jY:=by
 refine D.ok xC λ_ _ _ _ _ H _ Q E hr h=>?_;obtain ⟨a,g,i,rfl,G,hi,hl,k⟩:=h;refine ⟨_,af (ao (cz (own:=[("row",2)]) (g:=aA 2) (te:=tOp (rIxL K) (tVar 2) (tVar 1)) xC.nd (aQ (pv 0)) (λs H C cl fp=>pg_nameA (i:=2) xC.nd) (λs H C cl fp=>aq ay (pv 2) (pv 1)))),?_⟩;obtain ⟨refs,g1,g2,g0,g3⟩:=id G;refine ⟨_,rfl,a,rfl,⟨_,SqL.of g1⟩,λD1 hD1=>?_⟩;refine sx (g.map λ(r:List Int)=>r.getD i 0) (by rw [List.length_map,List.length_map,g2]) hD1 (SqL.of g1) (by rw [List.length_map,g2];exact line_ge (by omega)) (λj x y H2 Q' hx hy s2 hq=>?_) (λH2 s2 r2=>k D1 H2 s2 hD1 r2);rw [List.getElem?_map] at hx hy;obtain ⟨r,er,rfl⟩:=Option.map_eq_some_iff.mp hx;obtain ⟨row,eg,rfl⟩:=Option.map_eq_some_iff.mp hy;have hr2:=s2 _ _ (g3 j r row er eg);have hlt:=hi row (List.mem_of_getElem? eg);exact ⟨rfl,_,rfl,_,rfl,r,_,_,_,rfl,rfl,SqL.of hr2,eY (by rw [List.getElem?_map,List.getElem?_eq_getElem hlt];simp [List.getD_eq_getElem?_getD,hlt]),hq _ (Same.refl _)⟩
theorem xD:FnScope ["rows","i"] ["rows"] (ae m5):=.ck
theorem kW (D:aB K mg "turned" m5)(zLen:mg "len"=none)(zR:mg "range"=none)(oC:OkF P w K mg base CX0 1 "column_at" ["rows","i"] jY):OkF P w K mg base CX0 2 "turned" ["rows"] jZ:=by
 refine D.ok xD λ_ _ _ _ _ H _ Q E hr h=>?_;obtain ⟨a,g,w,h,rfl,G,R,hh,hw6,hh6,k⟩:=h;refine ⟨_,af (ao (cz (own:=[("i",1)]) (g:=aA 1) (te:=iY jY [] E0 (dI (tVar 0) (dI (tVar 1) tNil))) xD.nd (cn rfl zR (aa (aw ak (by rfl) zLen PySem.boot_len (aa (aq ay (pv 0) pe_int) ad)) ad)) (λs H C cl fp=>pg_nameA (i:=1) xD.nd) (λs H C cl fp=>az oC hr (by rfl) (aa (pv 0) (aa (pv 1) ad))))),?_⟩;obtain ⟨refs,g1,g2,g0,g3⟩:=id G;have hg0:0<g.length:=by rw [R.1];exact hh
 have e0:refs[0]?=some refs[0]:=List.getElem?_eq_getElem (by omega);have r0:=g3 0 refs[0] _ e0 (cx hg0);have l0:(g.getD 0 []).length=w:=R.row hh;refine ⟨_,rfl,a,_,_,_,rfl,rfl,SqL.of g1,bx (j:=0) rfl (by rw [List.getElem?_map,e0];rfl),refs[0],_,rfl,.inl (SqL.of r0),((w:Nat):Int),by rw [List.length_map,l0],by omega,by omega,λD1 hD1=>?_⟩;have et:Sp21.turn g=(List.range w).map λi=>g.map λr=>r.getD i 0:=by
  unfold Sp21.turn;rw [R.head hh]
 rw [Int.toNat_natCast];refine kO dY (Sp21.turn g) (by rw [et,List.length_map,List.length_range]) hD1 (line_ge (by omega)) (λi y H2 Q' hi hy s2 hD2 hq=>?_) (λH2 s2 L2'=>k D1 H2 s2 hD1 L2');rw [et,List.getElem?_map,List.getElem?_range hi] at hy;have hy:=Option.some.inj hy;subst hy;rw [Int.zero_add];exact ⟨rfl,_,rfl,_,rfl,a,g,i,rfl,G.same bB s2,λr hr'=>by rw [R.2 r hr'];exact hi,by rw [R.1];omega,λp H3 s3 n3 h3=>hq p H3 s3 (iq n3 hD2) h3⟩
theorem nP:FnScope ["rows","columns","row","column"] ["rows"] (ae c6):=.ck
theorem gk (D:aB K mg "halve_corner" c6)(oT:OkF P w K mg base CX0 2 "turned" ["rows"] jZ)(oH:OkF P w K mg base CX0 2 "halve_row" ["row"] (dC K)):OkF P w K mg base CX0 3 "halve_corner" ["rows"] eE:=by
 refine D.ok nP λ_ _ _ _ _ H _ Q E hr h=>?_;obtain ⟨a,g,w,h,rfl,G,R,hw,hh,hw6,hh6,k⟩:=h;refine ⟨_,ac (ag (i:=1) nP.nd (az oT hr rfl (aa (cz (own:=[("row",2)]) (g:=aA 2) (te:=iY (dC K) [] E0 (dI (tVar 2) tNil)) nP.nd (aQ (pv 0)) (λs H C cl fp=>pg_nameA (i:=2) nP.nd) (λs H C cl fp=>az oH hr (by rfl) (aa (pv 2) ad))) ad)))
  (af (ao (az oT hr rfl (aa (cz (own:=[("column",3)]) (g:=aA 3) (te:=iY (dC K) [] E0 (dI (tVar 3) tNil)) nP.nd (aQ (pv 1)) (λs H C cl fp=>pg_nameA (i:=3) nP.nd) (λs H C cl fp=>az oH hr (by rfl) (aa (pv 3) ad))) ad)))),?_⟩
 have half_of:∀{gg:List (List Int)}{w' h':Nat},Rect gg w' h'->Rect (gg.map Sp21.halve) w' h':=λRR=>RR.map Sp21.halve λl hl=>by rw [cs,hl]
 obtain ⟨refs,g1,g2,g0,g3⟩:=id G;refine ⟨_,rfl,a,rfl,⟨_,SqL.of g1⟩,λD1 hD1=>?_⟩;refine fN dY (g.map Sp21.halve) (by rw [List.length_map,List.length_map,g2]) hD1 (SqL.of g1) (by rw [List.length_map,g2,R.1];exact line_ge (by omega)) (λj x y H2 Q' hx hy s2 hD2 hq=>?_) (λH2 s2 L2'=>?_)
 ·rw [List.getElem?_map] at hx hy;obtain ⟨r,er,rfl⟩:=Option.map_eq_some_iff.mp hx;obtain ⟨row,eg,rfl⟩:=Option.map_eq_some_iff.mp hy;have hlr:=R.2 row (List.mem_of_getElem? eg);refine ⟨rfl,_,rfl,r,row,rfl,SqL.of (s2 _ _ (g3 j r row er eg)),by omega,λp H3 s3 n3 h3=>hq p H3 s3 (iq n3 hD2) ?_⟩;rw [kt] at h3;exact h3
 ·refine ⟨D1,g.map Sp21.halve,w,h,rfl,L2',half_of R,hh,hw6,hh6,λc1 H3 s3 n3 L3=>?_⟩;have R3:=(half_of R).turn hh;obtain ⟨refs3,q1,q2,q0,q3⟩:=id L3;refine ⟨_,rfl,c1,rfl,⟨_,SqL.of q1⟩,λD4 hD4=>?_⟩;refine fN dY ((Sp21.turn (g.map Sp21.halve)).map Sp21.halve) (by rw [List.length_map,List.length_map,q2]) hD4 (SqL.of q1) (by rw [List.length_map,q2,R3.1];exact line_ge (by omega)) (λj x y H5 Q' hx hy s5 hD5 hq=>?_) (λH5 s5 L5=>?_)
  ·rw [List.getElem?_map] at hx hy;obtain ⟨r,er,rfl⟩:=Option.map_eq_some_iff.mp hx;obtain ⟨row,eg,rfl⟩:=Option.map_eq_some_iff.mp hy;have hlr:=R3.2 row (List.mem_of_getElem? eg);refine ⟨rfl,_,rfl,r,row,rfl,SqL.of (s5 _ _ (q3 j r row er eg)),by omega,λp H6 s6 n6 h6=>hq p H6 s6 (iq n6 hD5) ?_⟩;rw [kt] at h6;exact h6
  ·refine ⟨D4,_,h,w,rfl,L5,half_of R3,hw,hh6,hw6,λc2 H6 s6 n6 L6=>?_⟩;have sA:=(s2.trans s3).trans s5;exact k c2 H6 (sA.trans s6) (sA.free n6) L6
def RowF (H0:Hp)(H:Hp)(r:Addr)(x:List Int):Prop:=dX H r x/\H0 r=none
theorem iP {H0:Hp}:∀(H H':Hp) (r:Addr) (x:List Int),Same H H'->RowF H0 H r x->RowF H0 H' r x:=λ_ _ _ _ s h=>⟨s _ _ h.1,h.2⟩
theorem Av {H0:Hp}:∀(D:Addr) (H H':Hp) (r:Addr) (x:List Int),r≠D->kq D H H'->RowF H0 H r x->RowF H0 H' r x:=λD H H' r x n s h=>⟨s _ _ n h.1,h.2⟩
abbrev uf (H0 H:Hp)(a:Addr)(g:List (List Int)):Prop:=ListOf (RowF H0) H a g
def AnsF (H:Hp)(g:List (List Int))(Q:VK):Prop:=∀p H',Same H H'->H p=none->uf H H' p g->Q (.ref p) H'
inductive pT (vs:List V)(H:Hp)(Q:VK)(_e3:XK):Prop
 | mk (a:Addr) (g:List (List Int)):(vs=[.ref a])->(GridAt H a g)->(g.flatten.length<=4000000)->(Ans H (g.flatten.map V.int) Q)->pT vs H Q _e3
inductive dE (K:W.Frag)(vs:List V)(H:Hp)(Q:VK)(_e3:XK):Prop
 | mk (a:Addr) (p:List Int) (w h:Nat):(vs=[.ref a,.int w,.int h])->(SqL K H a (p.map V.int))->(w<=65536)->(h<=65536)->(AnsG H (TW.cutRows p w h) Q)->dE K vs H Q _e3
def gm (H:Hp)(r:Addr)(x:Nat×Nat):Prop:=H r=some (.tup [.int x.1,.int x.2])
theorem eF:∀(H H':Hp) (r:Addr) (x:Nat×Nat),Same H H'->gm H r x->gm H' r x:=λ_ _ _ _ s h=>s _ _ h
def bI (k w h:Nat):List (Nat×Nat):=(List.range (k+1)).map λi=>Sp21.last i w h
theorem fq:∀(i w h:Nat),Sp21.last (i+1) w h=(Sp21.up (Sp21.last i w h).1,Sp21.up (Sp21.last i w h).2)
 | 0,_,_=>rfl
 | i+1,w,h=>fq i (Sp21.up w) (Sp21.up h)
theorem last_le:∀(i:Nat) {w h:Nat},0<w->0<h->0<(Sp21.last i w h).1/\0<(Sp21.last i w h).2/\(Sp21.last i w h).1<=w/\(Sp21.last i w h).2<=h
 | 0,w,h,h1,h2=>⟨h1,h2,Nat.le_refl _,Nat.le_refl _⟩
 | i+1,w,h,h1,h2=>by
  have ih:=last_le i (up_pos h1) (up_pos h2);have u1:=up_le h1;have u2:=up_le h2;exact ⟨ih.1,ih.2.1,Nat.le_trans ih.2.2.1 u1,Nat.le_trans ih.2.2.2 u2⟩
inductive kX (vs:List V)(H:Hp)(Q:VK)(_e3:XK):Prop
 | mk (w h k:Nat):(vs=[.int w,.int h,.int k])->(k<=5)->(∀p H',Same H H'->H p=none->ListOf gm H' p (bI k w h)->Q (.ref p) H')->kX vs H Q _e3
inductive ro (K:W.Frag)(vs:List V)(H:Hp)(Q:VK)(_e3:XK):Prop
 | mk (a:Addr) (g:List (List Int)) (w h x y:Nat):(vs=[.ref a,.int x,.int y])->(GridAt H a g)->(Rect g w h)->(w<=256)->(h<=256)->(AnsF H (TW.threeBands g x y) Q)->ro K vs H Q _e3
inductive iQ (vs:List V)(H:Hp)(Q:VK)(_e3:XK):Prop
 | mk (a:Addr) (g:List (List Int)) (w h k:Nat):(vs=[.ref a,.int k])->(GridAt H a g)->(Rect g w h)->(0<w)->(0<h)->(w<=256)->(h<=256)->(k<=5)->(AnsF H (TW.tileBands k g w h) Q)->iQ vs H Q _e3
theorem jf {g:List (List Int)}{i:Nat}{row:List Int} (h:g[i]?=some row):(g.take (i+1)).flatten=(g.take i).flatten++row:=by
 rw [List.take_succ,h];simp
theorem ft (g:List (List Int))(i:Nat):(g.take i).flatten.length<=g.flatten.length:=by
 conv=>rhs;rw [<- List.take_append_drop i g]
 rw [List.flatten_append,List.length_append];omega
theorem kY (f:List Int->List Int)(hf:∀l,(f l).length<=l.length):∀(g:List (List Int)),(g.map f).flatten.length<=g.flatten.length
 | []=>Nat.le_refl _
 | r::g=>by
  have ih:=kY f hf g;have:=hf r;simp only [List.map_cons,List.flatten_cons,List.length_append];omega
theorem Aw:FnScope ["rows","numbers","row"] ["rows"] (ae xj):=.ck
theorem kZ (D:aB K mg "flat" xj):OkF P w K mg base CX0 1 "flat" ["rows"] pT:=by
 refine D.ok Aw λ_ _ _ _ _ H _ Q E hr h=>?_;obtain ⟨a,g,rfl,G,hl,k⟩:=h;refine ⟨_,ac (ag (i:=1) Aw.nd (bD ad))
  (ac (bU PassesOwn.never rfl (aQ (pv 0)) (pg_nameA (i:=2) Aw.nd)
   (af (bd (lC PySem.F.plainAttrs_list PySem.F.slot_list_extend PySem.F.type_list_extend o6 (pv 1) (aa (pv 2) ad)))))
  (af (ao (pv 1)))),?_⟩
 obtain ⟨refs,g1,g2,g0,g3⟩:=id G;refine ⟨Nat.zero_le _,λn hn=>?_⟩;have na:n≠a:=(ne_of_none g1 hn).symm;refine ⟨_,rfl,a,rfl,⟨_,SqL.of ((same_upd hn) _ _ g1)⟩,dH (K:=K) (xs:=refs.map V.ref) (λi σ H2=>∃u,σ=[some (.ref a),some (.ref n),u]/\Same H H2/\dX H2 n (g.take i).flatten) ⟨none,rfl,same_upd hn,upd_same⟩ (λi σ H2 _ ⟨_,_,s2,_⟩=>SqL.of (s2 _ _ g1)) ?_ ?_⟩
 ·rintro i x σ H2 hx ⟨u,rfl,s2,r2⟩;rw [List.getElem?_map] at hx;obtain ⟨r,er,rfl⟩:=Option.map_eq_some_iff.mp hx;have hi:i<g.length:=by have:=(List.getElem?_eq_some_iff.mp er).1;omega
  have eg:g[i]?=some g[i]:=List.getElem?_eq_getElem hi;have hr2:=s2 _ _ (g3 i r _ er eg);have e1:=jf eg;have e2:=ft g (i+1);rw [e1,List.length_append] at e2;refine ⟨_,rfl,.inl ⟨rfl,_,SqL.of r2⟩,_,rfl,n,r,_,_,rfl,rfl,r2,hr2,by rw [List.length_map,List.length_map];exact line_ge (by omega),_,rfl,λb o z=>?_,?_⟩
  ·rw [upd_ne (ne_of_none z hn)];exact s2 _ _ z
  ·show (upd H2 n _) n=_;rw [upd_same,e1,List.map_append]
 ·rintro σ H2 ⟨u,rfl,s2,r2⟩;rw [List.length_map,g2,List.take_length] at r2;exact ⟨_,rfl,k n H2 s2 hn r2⟩
theorem wa:FnScope ["numbers","width","height","i"] ["numbers","width","height"] (ae jS):=.ck
theorem fW (D:aB K mg "cut_rows" jS)(zR:mg "range"=none):OkF P w K mg base CX0 1 "cut_rows" ["numbers","width","height"] (dE K):=by
 refine D.ok wa λ_ _ _ _ _ H _ Q E hr h=>?_;obtain ⟨a,p,w,h,rfl,hS,hw,hh,k⟩:=h;refine ⟨_,af (ao (cz (own:=[("i",3)]) (g:=aA 3) (te:=tSl (rSlL K) (tVar 0) (mD (tOp (rI CMul λi j=>.int (i*j)) (tVar 3) (tVar 1))) (mD (tOp (rI CMul λi j=>.int (i*j)) (tOp (rI0 λi j=>.int (i+j)) (tVar 3) (tC (.int 1))) (tVar 1)))) wa.nd (cn rfl zR (aa (pv 2) ad)) (λs H C cl fp=>pg_nameA (i:=3) wa.nd) (λs H C cl fp=>aD aR (pv 0) (aI (aj be (pv 3) (pv 1))) (aI (aj be (aj aO (pv 3) pe_int) (pv 1)))))),?_⟩;refine ⟨_,rfl,((h:Nat):Int),rfl,by omega,by omega,λD1 hD1=>?_⟩;rw [Int.toNat_natCast];refine kO dY (TW.cutRows p w h) (by simp [TW.cutRows]) hD1 (line_ge (by omega)) (λi y H2 Q' hi hy s2 hD2 hq=>?_) (λH2 s2 L2'=>k D1 H2 s2 hD1 L2');have hy:y=(p.drop (i*w)).take w:=by
  unfold TW.cutRows at hy;rw [List.getElem?_map,List.getElem?_range hi] at hy;exact (Option.some.inj hy).symm
 subst hy;have e1:(0+(i:Int))*(w:Int)=((i*w:Nat):Int):=by rw [Int.zero_add,Int.natCast_mul]
 have e2:(0+(i:Int)+1)*(w:Int)=((i*w+w:Nat):Int):=by
  rw [Int.zero_add,Int.add_mul,Int.one_mul,Int.natCast_add,Int.natCast_mul]
 refine ⟨rfl,_,rfl,_,rfl,_,rfl,_,_,rfl,rfl,.inl ⟨by omega,by omega⟩,_,rfl,_,rfl,_,_,rfl,rfl,_,rfl,_,_,rfl,rfl,.inl ⟨by omega,by omega⟩,_,rfl,a,_,rfl,s2.seq hS,λq hq2=>?_⟩;rw [e1,e2,vN];exact hq q _ (same_upd hq2) (iq hq2 hD2) upd_same
theorem zf:FnScope ["width","height","levels","sizes","level"] ["width","height","levels"] (ae sP):=.ck
theorem j0 (D:aB K mg "corner_sizes" sP)(zR:mg "range"=none)(oH:OkF P w K mg base CX0 1 "half" ["n"] pS):OkF P w K mg base CX0 2 "corner_sizes" ["width","height","levels"] kX:=by
 refine D.ok zf λ_ _ _ _ _ H _ Q E hr h=>?_;obtain ⟨w,h,n,rfl,hn,k⟩:=h;refine ⟨_,ac (ag (i:=3) zf.nd (bD (aa (yg (aa (pv 0) (aa (pv 1) ad))) ad)))
  (ac (bU PassesOwn.never rfl (cn rfl zR (aa (pv 2) ad)) (pg_nameA (i:=4) zf.nd)
   (af (bd (lC PySem.F.plainAttrs_list PySem.F.slot_list_append PySem.F.type_list_append cp (pv 3) (aa (yg (aa (az oH hr rfl (aa (aq bV (aq ay (pv 3) (pv 4)) pe_int) ad))
    (aa (az oH hr rfl (aa (aq bV (aq ay (pv 3) (pv 4)) pe_int) ad)) ad))) ad)))))
  (af (ao (pv 3)))),?_⟩
 refine ⟨_,rfl,_,rfl,(by show 2<=sizeLine;decide),λt ht=>⟨(by show 1<=sizeLine;decide),λa ha=>?_⟩⟩;have ta:t≠a:=ne_of_none upd_same ha;have haH:H a=none:=(same_upd ht).free ha;refine ⟨_,rfl,((n:Nat):Int),rfl,by omega,by omega,?_⟩;rw [Int.toNat_natCast];refine j5 (λi σ H2=>∃u,σ=[some (.int w),some (.int h),some (.int n),some (.ref a),u]/\Same H H2/\ListOf gm H2 a (bI i w h)) ⟨none,rfl,(same_upd ht).new ha,[t],upd_same,rfl,λr hr'=>by rw [List.mem_singleton.mp hr'];exact ta,?_⟩ ?_ ?_
 ·intro i r x e1 e2;have h0:i=0:=by
   rcases Nat.eq_zero_or_pos i with z | z
   ·exact z
   ·rw [List.getElem?_eq_none (by show 1<=i;omega)] at e1;cases e1
  subst h0;cases e1;cases e2;show (upd _ a _) t=_;rw [upd_ne ta];exact upd_same
 ·rintro i σ H2 hi ⟨u,rfl,s2,L2'⟩;obtain ⟨refs,g1,g2,g0,g3⟩:=id L2';have hlen:refs.length=i+1:=by rw [g2];simp [bI]
  have er:refs[i]?=some refs[i]:=List.getElem?_eq_getElem (by omega);have es:(bI i w h)[i]?=some (Sp21.last i w h):=by simp [bI]
  have sz:=g3 i refs[i] _ er es;rw [Int.zero_add];have ai:atI (refs.map V.ref) (i:Int)=some (.ref refs[i]):=eY (by rw [List.getElem?_map,er];rfl);refine ⟨_,rfl,.inl ⟨rfl,_,SqL.of g1⟩,?_⟩;refine ⟨_,rfl,_,rfl,a,_,_,_,rfl,rfl,SqL.of g1,ai,refs[i],_,_,_,rfl,rfl,SqT.of sz,bx (j:=0) rfl rfl,_,rfl,?_⟩;refine ⟨_,rfl,_,rfl,a,_,_,_,rfl,rfl,SqL.of g1,ai,refs[i],_,_,_,rfl,rfl,SqT.of sz,bx (j:=1) rfl rfl,_,rfl,(by show 2<=sizeLine;decide),λt2 ht2=>?_⟩;have eT:(HO.tup [V.int (((((Sp21.last i w h).1:Nat):Int)+1)/2),V.int (((((Sp21.last i w h).2:Nat):Int)+1)/2)])=.tup [.int ((Sp21.last (i+1) w h).1:Nat),.int ((Sp21.last (i+1) w h).2:Nat)]:=by
   rw [fq];have e1:∀n:Nat,((n:Int)+1)/2=((Sp21.up n:Nat):Int):=λn=>by unfold Sp21.up;omega
   rw [e1,e1]
  rw [eT];have s3:=same_upd (o:=.tup [.int ((Sp21.last (i+1) w h).1:Nat),.int ((Sp21.last (i+1) w h).2:Nat)]) ht2;obtain ⟨refs',h1,h2,h3⟩:=L2'.snoc (x:=Sp21.last (i+1) w h) (p:=t2) s3 (λr y o hn z=>by show upd _ _ _ _=_;rw [upd_ne hn];exact z) (λr y z=>eF _ _ _ _ s3 z) (ne_of_none g1 ht2).symm (by show upd _ _ _ _=_;rw [upd_same]);refine ⟨a,_,_,rfl,rfl,h1,by rw [List.length_map];exact line_ge (by omega),_,rfl,λb o z=>?_,?_⟩
  ·rw [upd_ne (ne_of_none z haH)];exact s3 _ _ (s2 _ _ z)
  ·have e:bI (i+1) w h=bI i w h++[Sp21.last (i+1) w h]:=by
    unfold bI;rw [List.range_succ (n:=i+1),List.map_append];rfl
   rw [e];exact h3
 ·rintro σ H2 ⟨u,rfl,s2,L2'⟩;exact ⟨_,rfl,k a H2 s2 haH L2'⟩
theorem _root_.TW.ListOf.cat {α:Type}{R:Hp->Addr->α->Prop}{H':Hp}{p:Addr}{l1 l2:List α}{r1 r2:List Addr} (e1:r1.length=l1.length) (e2:r2.length=l2.length) (n1:∀r∈r1,r≠p) (n2:∀r∈r2,r≠p)
  (g1:∀(i:Nat) (r:Addr) (x:α),r1[i]?=some r->l1[i]?=some x->R H' r x) (g2:∀(i:Nat) (r:Addr) (x:α),r2[i]?=some r->l2[i]?=some x->R H' r x) (hp:H' p=some (.lst (r1.map V.ref++r2.map V.ref))):ListOf R H' p (l1++l2):=by
 refine ⟨r1++r2,by rw [hp,List.map_append],by rw [List.length_append,List.length_append,e1,e2],λr hr=>(List.mem_append.mp hr).elim (n1 r) (n2 r),λi r x h1 h2=>?_⟩;by_cases hi:i<r1.length
 ·rw [List.getElem?_append_left hi] at h1;rw [List.getElem?_append_left (by omega)] at h2;exact g1 i r x h1 h2
 ·rw [List.getElem?_append_right (by omega)] at h1;rw [List.getElem?_append_right (by omega)] at h2;rw [e1] at h1;exact g2 _ r x h1 h2
theorem eG {H:Hp}{g:List (List Int)}{refs:List Addr}{p:Addr} (h2:refs.length=g.length) (h3:∀(i:Nat) (r:Addr) (x:List Int),refs[i]?=some r->g[i]?=some x->dX H r x) (hp:H p=none):∀r∈refs,r≠p:=by
 intro r hr;obtain ⟨i,hi,rfl⟩:=List.getElem_of_mem hr;have:=h3 i _ _ (List.getElem?_eq_getElem hi) (List.getElem?_eq_getElem (by omega));exact ne_of_none this hp
theorem nQ {K:W.Frag}{tg:TG}{te:TE}{ws:List Nat}{σ:L2.St}{H1:Hp}{D q:Addr}{Qd:Hp->Prop}{g:List (List Int)}{refs:List Addr} (f:List Int->List Int) (hD:H1 D=none) (h2:refs.length=g.length) (h3:∀(i:Nat) (r:Addr) (x:List Int),refs[i]?=some r->g[i]?=some x->dX H1 r x) (hx:SqL K H1 q (refs.map V.ref)) (hz:g.length<=sizeLine)
  (hs:∀(r:Addr) (row:List Int) (H:Hp) (Q':VK),row∈g->Same H1 H->dX H r row->(∀p,H p=none->Q' (.ref p) (upd H p (.lst ((f row).map V.int))))->tg (.ref r) (wipe σ ws) H λσ2 H2=>wipe σ2 ws=wipe σ ws/\te σ2 H2 Q')
  (hd:∀H,Same H1 H->GridAt H D (g.map f)->Qd H) :
  lcW (Itl K q) tg tYes te ws σ D Qd H1:=by
 refine fN dY (g.map f) (by rw [List.length_map,List.length_map,h2]) hD hx (by rw [List.length_map,h2];exact hz) (λj x y H2 Q' hx hy s2 hD2 hq=>?_) hd;rw [List.getElem?_map] at hx hy;obtain ⟨r,er,rfl⟩:=Option.map_eq_some_iff.mp hx;obtain ⟨row,eg,rfl⟩:=Option.map_eq_some_iff.mp hy;exact hs r row H2 Q' (List.mem_of_getElem? eg) s2 (s2 _ _ (h3 j r row er eg)) λp hp=>hq p _ (same_upd hp) (iq hp hD2) upd_same
theorem A9 {H:Hp}{p f1 f2 f3:Addr}{l1 l2 l3:List Int}{H0:Hp} (h1:RowF H0 H f1 l1) (h2:RowF H0 H f2 l2) (h3:RowF H0 H f3 l3) (hp:H p=none):uf H0 (upd H p (.lst [.ref f1,.ref f2,.ref f3])) p [l1,l2,l3]:=by
 refine ⟨[f1,f2,f3],upd_same,rfl,λr hr=>?_,λi r x e1 e2=>iP _ _ _ _ (same_upd hp) ?_⟩
 ·have hr:r=f1\/r=f2\/r=f3:=by simpa using hr
  rcases hr with rfl | rfl | rfl
  ·exact ne_of_none h1.1 hp
  ·exact ne_of_none h2.1 hp
  ·exact ne_of_none h3.1 hp
 ·match i,e1,e2 with
  | 0,e1,e2=>cases e1;cases e2;exact h1
  | 1,e1,e2=>cases e1;cases e2;exact h2
  | 2,e1,e2=>cases e1;cases e2;exact h3
theorem zg:FnScope ["halved","width","height","right_above","left_below","right_below","row"] ["halved","width","height"] (ae sQ):=.ck
theorem s0 (D:aB K mg "three_bands" sQ)(oF:OkF P w K mg base CX0 1 "flat" ["rows"] pT):OkF P w K mg base CX0 2 "three_bands" ["halved","width","height"] (ro K):=by
 refine D.ok zg λ_ _ _ _ _ H _ Q E hr h=>?_;obtain ⟨a,g,w,h,x,y,rfl,G,R,hw,hh,k⟩:=h;refine ⟨_,ac (ag (i:=3) zg.nd (az oF hr rfl (aa (cz (own:=[("row",6)]) (g:=aA 6) (te:=tSl (rSlL K) (tVar 6) (mD (tVar 1)) kb) zg.nd (aQ (aD aR (pv 0) bo (aI (pv 2)))) (λs H C cl fp=>pg_nameA (i:=6) zg.nd) (λs H C cl fp=>aD aR (pv 6) (aI (pv 1)) bo)) ad)))
  (ac (ag (i:=4) zg.nd (az oF hr rfl (aa (cz (own:=[("row",6)]) (g:=aA 6) (te:=tSl (rSlL K) (tVar 6) kb (mD (tVar 1))) zg.nd (aQ (aD aR (pv 0) (aI (pv 2)) bo)) (λs H C cl fp=>pg_nameA (i:=6) zg.nd) (λs H C cl fp=>aD aR (pv 6) bo (aI (pv 1)))) ad)))
  (ac (ag (i:=5) zg.nd (az oF hr rfl (aa (cz (own:=[("row",6)]) (g:=aA 6) (te:=tSl (rSlL K) (tVar 6) (mD (tVar 1)) kb) zg.nd (aQ (aD aR (pv 0) (aI (pv 2)) bo)) (λs H C cl fp=>pg_nameA (i:=6) zg.nd) (λs H C cl fp=>aD aR (pv 6) (aI (pv 1)) bo)) ad)))
  (af (ao (bD (aa (pv 3) (aa (pv 4) (aa (pv 5) ad)))))))),?_⟩
 obtain ⟨refs,g1,g2,g0,g3⟩:=id G;have hz:g.length<=sizeLine:=by rw [R.1];exact line_ge (by omega)
 have hall:g.flatten.length<=65536:=by
  rw [flatten_rect R];exact Nat.mul_le_mul hw hh
 have part:∀{X:List Int->List Int} (hX:∀l,(X l).length<=l.length) (u n:Nat),(((g.drop u).take n).map X).flatten.length<=4000000:=λhX u n=>by
  have h1:=kY _ hX ((g.drop u).take n);have h2:((g.drop u).take n).flatten.length<=g.flatten.length:=by
   have e1:=ft (g.drop u) n;have e2:(g.drop u).flatten.length<=g.flatten.length:=by
    conv=>rhs;rw [<- List.take_append_drop u g]
    rw [List.flatten_append,List.length_append];omega
   omega
  omega
 refine ⟨_,rfl,_,rfl,_,rfl,a,_,rfl,SqL.of g1,λq1 hq1=>?_⟩;rw [vM,<- List.map_take];have t1:=same_upd (o:=.lst ((refs.take y).map V.ref)) hq1;have p1:(g.take y).length<=sizeLine:=by rw [List.length_take];omega
 refine ⟨q1,rfl,⟨_,SqL.of upd_same⟩,λD1 hD1=>?_⟩;refine nQ (g:=g.take y) (refs:=refs.take y) (λl=>l.drop x) hD1 (by rw [List.length_take,List.length_take,g2]) (λi r row e1 e2=>t1 _ _ (g3 i r row (by rw [List.getElem?_take] at e1;split at e1 <;> first | exact e1 | cases e1) (by rw [List.getElem?_take] at e2;split at e2 <;> first | exact e2 | cases e2))) (SqL.of upd_same) p1 (λr row H2 Q' hm sm hR hq=>?_) (λI1 s1 L1'=>?_)
 ·refine ⟨rfl,_,rfl,_,rfl,_,rfl,r,_,rfl,SqL.of hR,λp hp=>?_⟩;rw [jQ];exact hq p hp
 refine ⟨D1,_,rfl,L1',?_,λf1 J1 w1 n1 r1=>?_⟩
 ·have:=part (X:=λl=>l.drop x) (λl=>by first | (simp;done) | (simp;omega)) 0 y;simpa using this
 have v1:Same H J1:=((t1.trans s1).trans w1)
 refine ⟨_,rfl,_,rfl,_,rfl,a,_,rfl,SqL.of (v1 _ _ g1),λq2 hq2=>?_⟩;rw [dB,<- List.map_drop];have t2:=same_upd (o:=.lst ((refs.drop y).map V.ref)) hq2;have p2:(g.drop y).length<=sizeLine:=by rw [List.length_drop];omega
 refine ⟨q2,rfl,⟨_,SqL.of upd_same⟩,λD2 hD2=>?_⟩;refine nQ (g:=g.drop y) (refs:=refs.drop y) (λl=>l.take x) hD2 (by rw [List.length_drop,List.length_drop,g2]) (λi r row e1 e2=>t2 _ _ (v1 _ _ (g3 (y+i) r row (by rw [List.getElem?_drop] at e1;exact e1) (by rw [List.getElem?_drop] at e2;exact e2)))) (SqL.of upd_same) p2 (λr row H2 Q' hm sm hR hq=>?_) (λI2 s2 L2'=>?_)
 ·refine ⟨rfl,_,rfl,_,rfl,_,rfl,r,_,rfl,SqL.of hR,λp hp=>?_⟩;rw [sI];exact hq p hp
 refine ⟨D2,_,rfl,L2',?_,λf2 J2 w2 n2 r2=>?_⟩
 ·have:=part (X:=λl=>l.take x) (λl=>by first | (simp;done) | (simp;omega)) y g.length;rw [List.take_of_length_le (by rw [List.length_drop];omega)] at this;exact this
 have v2:Same H J2:=v1.trans ((t2.trans s2).trans w2);refine ⟨_,rfl,_,rfl,_,rfl,a,_,rfl,SqL.of (v2 _ _ g1),λq3 hq3=>?_⟩;rw [dB,<- List.map_drop];have t3:=same_upd (o:=.lst ((refs.drop y).map V.ref)) hq3;have p3:(g.drop y).length<=sizeLine:=by rw [List.length_drop];omega
 refine ⟨q3,rfl,⟨_,SqL.of upd_same⟩,λD3 hD3=>?_⟩;refine nQ (g:=g.drop y) (refs:=refs.drop y) (λl=>l.drop x) hD3 (by rw [List.length_drop,List.length_drop,g2]) (λi r row e1 e2=>t3 _ _ (v2 _ _ (g3 (y+i) r row (by rw [List.getElem?_drop] at e1;exact e1) (by rw [List.getElem?_drop] at e2;exact e2)))) (SqL.of upd_same) p3 (λr row H2 Q' hm sm hR hq=>?_) (λI3 s3 L3'=>?_)
 ·refine ⟨rfl,_,rfl,_,rfl,_,rfl,r,_,rfl,SqL.of hR,λp hp=>?_⟩;rw [jQ];exact hq p hp
 refine ⟨D3,_,rfl,L3',?_,λf3 J3 w3 n3 r3=>?_⟩
 ·have:=part (X:=λl=>l.drop x) (λl=>by first | (simp;done) | (simp;omega)) y g.length;rw [List.take_of_length_le (by rw [List.length_drop];omega)] at this;exact this
 have v3:Same H J3:=v2.trans ((t3.trans s3).trans w3);refine ⟨_,rfl,_,rfl,_,rfl,(by show 3<=sizeLine;decide),λp hp=>k p _ (v3.new hp) (v3.free hp) ?_⟩;exact A9 ⟨(w3 _ _ ((t3.trans s3) _ _ (w2 _ _ ((t2.trans s2) _ _ r1)))),(t1.trans s1).free n1⟩ ⟨(w3 _ _ ((t3.trans s3) _ _ r2)),(v1.trans (t2.trans s2)).free n2⟩ ⟨r3,(v2.trans (t3.trans s3)).free n3⟩ hp
theorem wb:FnScope ["rows","levels","corner","around","size","halved","row"] ["rows","levels"] (ae jT):=.ck
theorem mw (D:aB K mg "bands_of" jT)(zLen:mg "len"=none)(oS:OkF P w K mg base CX0 2 "corner_sizes" ["width","height","levels"] kX)(oH:OkF P w K mg base CX0 3 "halve_corner" ["rows"] eE)
  (oT:OkF P w K mg base CX0 2 "three_bands" ["halved","width","height"] (ro K)) (oF:OkF P w K mg base CX0 1 "flat" ["rows"] pT):OkF P w K mg base CX0 4 "bands_of" ["rows","levels"] iQ:=by
 refine D.ok wb λ_ _ _ _ _ H _ Q E hr h=>?_;obtain ⟨a,g,w,h,n,rfl,G,R,hw,hh,hw2,hh2,hn,k⟩:=h;refine ⟨_,ac (ag (i:=2) wb.nd (pv 0)) (ac (ag (i:=3) wb.nd (bD ad))
  (ac (bU PassesOwn.never rfl (aQ (aD aR (az oS (hr.mono (by omega)) rfl (aa (aw ak (by rfl) zLen PySem.boot_len (aa (aq ay (pv 0) pe_int) ad)) (aa (aw ak (by rfl) zLen PySem.boot_len (aa (pv 0) ad)) (aa (pv 1) ad)))) (aI pe_int) bo)) (pg_nameA (i:=4) wb.nd)
   (ac (ag (i:=5) wb.nd (az oH hr rfl (aa (pv 2) ad)))
   (ac (ag (i:=3) wb.nd (aj cW (az oT (hr.mono (by omega)) rfl (aa (pv 5) (aa (aq bV (pv 4) pe_int) (aa (aq bV (pv 4) pe_int) ad)))) (pv 3)))
   (af (aY (i:=2) (own:=[("row",6)]) (g:=aA 6) (te:=tSl (rSlL K) (tVar 6) kb (mD (tOp (rIxT K) (tVar 4) (tC (.int 0))))) wb.nd (aQ (aD aR (pv 5) bo (aI (aq bV (pv 4) pe_int)))) (λs H C cl fp=>pg_nameA (i:=6) wb.nd) (λs H C cl fp=>aD aR (pv 6) bo (aI (aq bV (pv 4) pe_int))))))))
  (af (ao (aj cW (bD (aa (az oF (hr.mono (by omega)) rfl (aa (pv 2) ad)) ad)) (pv 3)))))),?_⟩
 obtain ⟨refs,g1,g2,g0,g3⟩:=id G;have hg0:0<g.length:=by rw [R.1];exact hh
 have e0:refs[0]?=some refs[0]:=List.getElem?_eq_getElem (by omega);have r0:=g3 0 refs[0] _ e0 (cx hg0);have l0:(g.getD 0 []).length=w:=R.row hh;refine ⟨_,rfl,Nat.zero_le _,λn0 hn0=>?_⟩;have t0:=same_upd (o:=.lst []) hn0;refine ⟨_,rfl,a,_,_,_,rfl,rfl,SqL.of (t0 _ _ g1),bx (j:=0) rfl (by rw [List.getElem?_map,e0];rfl),refs[0],_,rfl,.inl (SqL.of (t0 _ _ r0)),_,rfl,a,_,rfl,.inl (SqL.of (t0 _ _ g1)),_,rfl,w,h,n,?_,hn,λz Hz sz nz Lz=>?_⟩
 ·rw [List.length_map,l0,List.length_map,g2,R.1];rfl
 obtain ⟨zs,z1,z2,z0,z3⟩:=id Lz;refine ⟨1,rfl,z,_,rfl,SqL.of z1,λq hq=>?_⟩;rw [show (1:Int)=((1:Nat):Int) from rfl,dB,<- List.map_drop];have tq:=same_upd (o:=.lst ((zs.drop 1).map V.ref)) hq;have sB:Same H (upd Hz q (.lst ((zs.drop 1).map V.ref))):=(t0.trans sz).trans tq;have zl:zs.length=n+1:=by rw [z2];simp [bI]
 generalize hHq:upd Hz q (.lst ((zs.drop 1).map V.ref))=Hq at sB tq ⊢;have q1:Hq q=some (.lst ((zs.drop 1).map V.ref)):=by rw [<- hHq,upd_same]
 refine ⟨q,rfl,⟨_,SqL.of q1⟩,?_⟩;refine dH (K:=K) (xs:=(zs.drop 1).map V.ref) (λi σ H2=>∃(c:List (List Int)) (ca:Addr) (ar:List (List Int)) (ra:Addr) (u v:Option V),σ=[some (.ref a),some (.int n),some (.ref ca),some (.ref ra),u,v,none]/\Same Hq H2/\GridAt H2 ca c/\Rect c (Sp21.last i w h).1 (Sp21.last i w h).2/\uf H H2 ra ar/\ar.length<=3*i/\TW.tileBands n g w h=TW.tileBands (n-i) c (Sp21.last i w h).1 (Sp21.last i w h).2++ar)
  ⟨g,a,[],n0,none,none,rfl,Same.refl _,(G.same bB sB),R,ListOf.nil (by
   have:=(sz.trans tq) n0 _ (upd_same (H:=H) (a:=n0) (o:=.lst []));exact this),Nat.le_refl _,by rw [List.append_nil];rfl⟩ (λi σ H2 _ ⟨_,_,_,_,_,_,_,s2,_⟩=>SqL.of (s2 _ _ q1)) ?_ ?_
 ·rintro i x σ H2 hx ⟨c,ca,ar,ra,u,v,rfl,s2,Gc,Rc,Ga,hal,hB⟩;rw [List.getElem?_map,List.getElem?_drop] at hx;obtain ⟨rs,ers,rfl⟩:=Option.map_eq_some_iff.mp hx;have hi:i<n:=by have:=(List.getElem?_eq_some_iff.mp ers).1;omega
  have es:(bI n w h)[1+i]?=some (Sp21.last (i+1) w h):=by
   unfold bI;rw [List.getElem?_map,List.getElem?_range (by omega),Nat.add_comm];rfl
  have siz:gm Hq rs (Sp21.last (i+1) w h):=tq _ _ (z3 _ rs _ ers es);have ll:=last_le i hw hh;have lsu:=fq i w h;generalize hcw:(Sp21.last i w h).1=cw at Rc hB ll lsu;generalize hch:(Sp21.last i w h).2=ch at Rc hB ll lsu;rw [lsu] at siz;refine ⟨_,rfl,ca,c,cw,ch,rfl,Gc,Rc,ll.1,ll.2.1,by omega,by omega,λhv H3 s3 n3 L3=>?_⟩;have RH:=Rc.halveCorner ll.1 ll.2.1;have siz3:=SqT.of (K:=K) (eF _ _ _ _ (s2.trans s3) siz);refine ⟨_,rfl,_,rfl,rs,_,_,_,rfl,rfl,siz3,bx (j:=0) rfl rfl,_,rfl,rs,_,_,_,rfl,rfl,siz3,bx (j:=1) rfl rfl,hv,TW.halveCorner c,cw,ch,Sp21.up cw,Sp21.up ch,rfl,L3,RH,by omega,by omega,λtb H4 s4 n4 L4=>?_⟩;obtain ⟨tr,b1,b2,b0,b3⟩:=id L4;obtain ⟨rr,c1,c2,c0,c3⟩:=id Ga;have s34:=s3.trans s4;refine ⟨_,rfl,tb,ra,_,_,rfl,rfl,b1,s34 _ _ c1,?_,λp hp=>?_⟩
  ·rw [List.length_map,List.length_map,b2,c2];exact line_ge (by show 3+ar.length<=16000000;omega)
  have s5:=same_upd (o:=.lst (tr.map V.ref++rr.map V.ref)) hp;have GA:uf H (upd H4 p (.lst (tr.map V.ref++rr.map V.ref))) p (TW.threeBands (TW.halveCorner c) (Sp21.up cw) (Sp21.up ch)++ar) :=
   ListOf.cat b2 c2 (eG b2 (λi r x e1 e2=>(b3 i r x e1 e2).1) hp) (eG c2 (λi r x e1 e2=>s34 _ _ (c3 i r x e1 e2).1) hp) (λi r x e1 e2=>⟨s5 _ _ (b3 i r x e1 e2).1,(sB.trans (s2.trans s3)).free (b3 i r x e1 e2).2⟩) (λi r x e1 e2=>⟨s5 _ _ (s34 _ _ (c3 i r x e1 e2).1),(c3 i r x e1 e2).2⟩) upd_same
  generalize hH5:upd H4 p (.lst (tr.map V.ref++rr.map V.ref))=H5 at s5 GA ⊢;obtain ⟨hrefs,h1,h2,h0,h3⟩:=id L3;have s45:=s4.trans s5;have siz5:=SqT.of (K:=K) (eF _ _ _ _ (s2.trans (s3.trans s45)) siz);refine ⟨_,rfl,_,rfl,rs,_,_,_,rfl,rfl,siz5,bx (j:=1) rfl rfl,_,rfl,hv,_,rfl,SqL.of (s45 _ _ h1),λq2 hq2=>?_⟩;rw [vM,<- List.map_take];have s6:=same_upd (o:=.lst ((hrefs.take (Sp21.up ch)).map V.ref)) hq2;refine ⟨q2,rfl,⟨_,SqL.of upd_same⟩,λD1 hD1=>?_⟩;refine nQ (g:=(TW.halveCorner c).take (Sp21.up ch)) (refs:=hrefs.take (Sp21.up ch)) (λl=>l.take (Sp21.up cw)) hD1 (by rw [List.length_take,List.length_take,h2]) (λi r row e1 e2=>s6 _ _ (s45 _ _ (h3 i r row (by rw [List.getElem?_take] at e1;split at e1 <;> first | exact e1 | cases e1) (by rw [List.getElem?_take] at e2;split at e2 <;> first | exact e2 | cases e2)))) (SqL.of upd_same) (by rw [List.length_take,RH.1];exact line_ge (by omega)) (λr row H6 Q' hm sm hR hq=>?_) (λH6 s7 L6=>?_)
  ·refine ⟨rfl,_,rfl,_,rfl,rs,_,_,_,rfl,rfl,SqT.of (K:=K) (eF _ _ _ _ (((s2.trans (s3.trans s45)).trans s6).trans sm) siz),bx (j:=0) rfl rfl,_,rfl,r,_,rfl,SqL.of hR,λp hp=>?_⟩;rw [sI];exact hq p hp
  ·have lsu':Sp21.last (i+1) w h=(Sp21.up cw,Sp21.up ch):=lsu;have u1:=up_le ll.1;have u2:=up_le ll.2.1;have s67:=s6.trans s7;refine ⟨TW.sub (TW.halveCorner c) (Sp21.up cw) (Sp21.up ch),D1,TW.threeBands (TW.halveCorner c) (Sp21.up cw) (Sp21.up ch)++ar,p,_,_,rfl,(s2.trans (s3.trans s45)).trans s67,L6,?_,GA.same iP s67,?_,?_⟩
   ·rw [lsu'];exact RH.sub u1 u2
   ·rw [List.length_append];show 3+ar.length<=_;omega
   ·rw [hB,lsu',show n-i=(n-(i+1))+1 by omega,<- List.append_assoc];rfl
 ·rintro σ H2 ⟨c,ca,ar,ra,u,v,rfl,s2,Gc,Rc,Ga,hal,hB⟩;have hlen:((zs.drop 1).map V.ref).length=n:=by rw [List.length_map,List.length_drop,zl];rfl
  rw [hlen] at Rc hal hB;have ll:=last_le n hw hh;refine ⟨_,rfl,ca,c,rfl,Gc,?_,λf1 H3 s3 n3 r3=>⟨(by show 1<=sizeLine;decide),λq3 hq3=>?_⟩⟩
  ·rw [flatten_rect Rc];have:(Sp21.last n w h).1*(Sp21.last n w h).2<=256*256:=Nat.mul_le_mul (by omega) (by omega);omega
  obtain ⟨rr,c1,c2,c0,c3⟩:=id Ga;have t3:=s3.new (o:=.lst [.ref f1]) hq3;refine ⟨_,rfl,q3,ra,_,_,rfl,rfl,upd_same,t3 _ _ c1,?_,λp hp=>?_⟩
  ·rw [List.length_map,c2];exact line_ge (by show 1+ar.length<=16000000;omega)
  have t4:=t3.new (o:=.lst ([V.ref f1]++rr.map V.ref)) hp;have rf:dX (upd (upd H3 q3 (.lst [.ref f1])) p (.lst ([V.ref f1]++rr.map V.ref))) f1 c.flatten:=((same_upd hq3).new hp) _ _ r3;refine k p _ (sB.trans (s2.trans t4)) ((sB.trans (s2.trans t3)).free hp) ?_;rw [hB,Nat.sub_self];refine ListOf.cat (r1:=[f1]) (l1:=[c.flatten]) rfl c2 (λr hr=>?_) (eG c2 (λi r x e1 e2=>t3 _ _ (c3 i r x e1 e2).1) hp) (λi r x e1 e2=>?_) (λi r x e1 e2=>⟨t4 _ _ (c3 i r x e1 e2).1,(c3 i r x e1 e2).2⟩) upd_same
  ·rw [List.mem_singleton.mp hr];exact ne_of_none (same_upd hq3 _ _ r3) hp
  ·match i,e1,e2 with
   | 0,e1,e2=>cases e1;cases e2;exact ⟨rf,(sB.trans s2).free n3⟩
theorem br_t {b:Bool}{p q:Prop} (h:b=true) (k:p):if b=true then p else q:=by rw [if_pos h];exact k
theorem br_f {b:Bool}{p q:Prop} (h:b=false) (k:q):if b=true then p else q:=by rw [if_neg (by rw [h];decide)];exact k
def jM (p d:Addr)(H H':Hp):Prop:=∀b o,b≠p->b≠d->H b=some o->H' b=some o
theorem jM.trans {p d:Addr}{H H1 H2:Hp} (a:jM p d H H1) (b:jM p d H1 H2):jM p d H H2:=λc o n m e=>b c o n m (a c o n m e)
theorem jM.of {p d:Addr}{H H':Hp} (s:Same H H'):jM p d H H':=λb o _ _ e=>s b o e
def nR (a c:Int):List (Str×V):=[("a",.int a),("c",.int c)]
theorem wd (a c v:Int):putF "a" (.int v) (nR a c)=nR v c:=by kernel_rfl
theorem we (a c v:Int):putF "c" (.int v) (nR a c)=nR a v:=by kernel_rfl
theorem wf (a c:Int):putF "c" (.int c) (putF "a" (.int a) [])=nR a c:=by kernel_rfl
theorem j4 (a c:Int):(nR a c).lookup ("a":Str)=some (.int a):=by kernel_rfl
theorem iR (a c:Int):(nR a c).lookup ("c":Str)=some (.int c):=by kernel_rfl
theorem iT (a c:Int):(nR a c).length<1000:=by show 2<1000;decide
def PaceAt (C:Addr)(H:Hp)(p:Addr)(a c:Nat):Prop:=∃dx,H p=some (.ins C dx (nR a c))
structure PaceTxt (K:W.Frag)(mg:Str->Option Value)(C:Addr):Prop extends ClsIn K mg "Pace" C where
 na:bg K C "a"
 nc:bg K C "c"
def cg (d:Addr)(r h:Int):List (Str×V):=[("done",.ref d),("rest",.int r),("held",.int h)]
theorem pU (d:Addr)(r h v:Int):putF "rest" (.int v) (cg d r h)=cg d v h:=by kernel_rfl
theorem pV (d:Addr)(r h v:Int):putF "held" (.int v) (cg d r h)=cg d r v:=by kernel_rfl
theorem rp (d:Addr)(r h:Int):putF "held" (.int h) (putF "rest" (.int r) (putF "done" (.ref d) []))=cg d r h:=by kernel_rfl
theorem jg (d:Addr)(r h:Int):(cg d r h).lookup ("done":Str)=some (.ref d):=by kernel_rfl
theorem fX (d:Addr)(r h:Int):(cg d r h).lookup ("rest":Str)=some (.int r):=by kernel_rfl
theorem ci (d:Addr)(r h:Int):(cg d r h).lookup ("held":Str)=some (.int h):=by kernel_rfl
theorem eI (d:Addr)(r h:Int):(cg d r h).length<1000:=by show 3<1000;decide
def WrIs (C:Addr)(H:Hp)(p d:Addr)(done:List Nat)(rest held:Nat):Prop:=p≠d/\(∃dx,H p=some (.ins C dx (cg d rest held)))/\H d=some (.lst ((Sp21.ints done).map V.int))
inductive WrAt (C:Addr)(H:Hp)(p d:Addr)(B:List Nat):Prop
 | mk (done rest held):(WrIs C H p d done rest held)->(Wr done rest held B)->(held<8)->WrAt C H p d B
theorem WrIs.same {C:Addr}{H H':Hp}{p d:Addr}{done:List Nat}{rest held:Nat} (h:WrIs C H p d done rest held) (s:Same H H'):WrIs C H' p d done rest held:=by
 obtain ⟨n,⟨dx,h1⟩,h2⟩:=h;exact ⟨n,⟨dx,s _ _ h1⟩,s _ _ h2⟩
theorem WrAt.same {C:Addr}{H H':Hp}{p d:Addr}{B:List Nat} (h:WrAt C H p d B) (s:Same H H'):WrAt C H' p d B:=by
 obtain ⟨done,rest,held,h1,h2,h3⟩:=h;exact ⟨done,rest,held,h1.same s,h2,h3⟩
structure WriterTxt (K:W.Frag)(mg:Str->Option Value)(C:Addr):Prop extends ClsIn K mg "BitWriter" C where
 nd:bg K C "done"
 nr:bg K C "rest"
 nh:bg K C "held"
theorem pW (l:List Nat)(x:Nat):Sp21.ints (l++[x])=Sp21.ints l++[(x:Int)]:=by simp [Sp21.ints]
theorem wg {x v:Nat}{m:Nat} (h:v<2 ^ m):Builtin.bitOr ((x:Int)*2 ^ m) (v:Int)=((x*2 ^ m+v:Nat):Int):=by
 have e:((x:Int)*2 ^ m)=((x*2 ^ m:Nat):Int):=by rw [Int.natCast_mul,Int.natCast_pow];rfl
 rw [e];rw [Bits.bitOr_pp (by omega) (by omega),Int.toNat_natCast,Int.toNat_natCast];congr 1;rw [Nat.mul_comm,<- Nat.two_pow_add_eq_or_of_lt h]
theorem nT (x k:Nat):Builtin.bitAnd (x:Int) ((2 ^ k-1:Nat):Int)=((x % 2 ^ k:Nat):Int):=by
 rw [bitAnd_pp (by omega) (by omega),Int.toNat_natCast,Int.toNat_natCast];rw [Nat.and_two_pow_sub_one_eq_mod]
theorem rq (k:Nat):(1:Int)*2 ^ k-1=((2 ^ k-1:Nat):Int):=by
 have:=Nat.two_pow_pos k;rw [Int.one_mul,Int.natCast_sub (by omega),Int.natCast_pow];rfl
theorem wj (x k:Nat):(x:Int)/2 ^ k=((x/2 ^ k:Nat):Int):=by
 rw [Int.natCast_ediv,Int.natCast_pow];rfl
inductive fY (C:Addr)(vs:List V)(H:Hp)(Q:VK)(_e3:XK):Prop
 | mk (p dx:Addr):(vs=[.ref p])->(H p=some (.ins C dx []))->(∀H',PaceAt C H' p 16 1->(∀b o,H b=some o->b≠p->H' b=some o)->Q .non H')->fY C vs H Q _e3
inductive k7 (C:Addr)(vs:List V)(H:Hp)(Q:VK)(_e3:XK):Prop
 | mk (p:Addr) (a c:Nat):(vs=[.ref p])->(PaceAt C H p a c)->(a<=c*2 ^ 63)->(c<=64)->(Q (.int (Sp21.parameter a c:Nat)) H)->k7 C vs H Q _e3
inductive tf (C:Addr)(vs:List V)(H:Hp)(Q:VK)(_e3:XK):Prop
 | mk (p:Addr) (a c:Nat) (z:Int):(vs=[.ref p,.int z])->(PaceAt C H p a c)->(∀H',PaceAt C H' p (Sp21.next a c z).1 (Sp21.next a c z).2->(∀b o,H b=some o->b≠p->H' b=some o)->Q .non H')->tf C vs H Q _e3
inductive fx (C:Addr)(vs:List V)(H:Hp)(Q:VK)(_e3:XK):Prop
 | mk (p dx:Addr):(vs=[.ref p])->(H p=some (.ins C dx []))->(∀d H',H d=none->WrAt C H' p d []->(∀b o,H b=some o->b≠p->H' b=some o)->Q .non H')->fx C vs H Q _e3
inductive wk (C:Addr)(vs:List V)(H:Hp)(Q:VK)(_e3:XK):Prop
 | mk (p d:Addr) (B:List Nat) (v many:Nat):(vs=[.ref p,.int v,.int many])->(WrAt C H p d B)->(v<2 ^ many)->(many<=64)->(B.length<=100000000)->(∀H',WrAt C H' p d (B++Sp21.bitsOf many v)->jM p d H H'->Q .non H')->wk C vs H Q _e3
inductive jh (C:Addr)(vs:List V)(H:Hp)(Q:VK)(_e3:XK):Prop
 | mk (p d:Addr) (B:List Nat):(vs=[.ref p])->(WrAt C H p d B)->(B.length<=100000000)->(Ans H ((Sp21.ints (Sp21.bytesOf B)).map V.int) Q)->jh C vs H Q _e3
theorem ug:FnScope ["self"] ["self"] (ae iH):=.ck
theorem k8 {C:Addr}(D:bW K C "__init__" "Pace.__init__" iH)(T:PaceTxt K mg C):OkM P w K mg base CX0 1 C "__init__" ["self"] (fY C):=by
 refine D.ok ug λ_ _ _ _ _ H _ Q E hr h=>?_;obtain ⟨p,dx,rfl,hp,k⟩:=h;refine ⟨_,ac (bC (pv 0) pe_int rfl) (af (bC (pv 0) pe_int rfl)),?_⟩;refine ⟨_,rfl,p,C,dx,_,rfl,hp,T.cl,T.na,by decide,?_⟩;refine ⟨_,rfl,p,C,dx,_,rfl,upd_same,T.cl,T.nc,bP (aL (Nat.le_refl 0)),?_⟩;refine k _ ⟨dx,by rw [upd_same,wf];rfl⟩ λb o e hb=>?_;rw [upd_ne hb,upd_ne hb];exact e
theorem Ax:FnScope ["self","z"] ["self","z"] (ae xo):=.ck
theorem wl {C:Addr}(D:bW K C "take" "Pace.take" xo)(T:PaceTxt K mg C)(zAbs:mg "abs"=none):OkM P w K mg base CX0 1 C "take" ["self","z"] (tf C):=by
 refine D.ok Ax λ_ _ _ _ _ H _ Q E hr h=>?_;obtain ⟨p,a,c,z,rfl,⟨dx,hp⟩,k⟩:=h;refine ⟨_,ac (bq (pv 0) (aw wD (by rfl) zAbs boot_abs (aa (pv 1) ad)) oV) (ac (bq (pv 0) pe_int oV)
  (af (di (aC qv (ap (pv 0) rfl) pe_int rfl) (ac (bq (pv 0) pe_int vm) (af (bq (pv 0) pe_int vm))) bc))),?_⟩
 refine ⟨_,rfl,p,C,dx,_,_,rfl,hp,T.cl,T.na,j4 _ _,_,rfl,_,rfl,_,_,rfl,rfl,dx,_,hp,iT _ _,?_⟩;rw [wd];refine ⟨_,rfl,p,C,dx,_,_,rfl,upd_same,T.cl,T.nc,iR _ _,_,_,rfl,rfl,dx,_,upd_same,iT _ _,?_⟩;rw [we];have e1:((a:Int)+if z<0 then -z else z)=((a+z.natAbs:Nat):Int):=by split <;> omega
 rw [e1];have e2:((c:Int)+1)=((c+1:Nat):Int):=by omega
 rw [e2];refine ⟨_,rfl,p,C,dx,_,_,rfl,upd_same,T.cl,T.nc,iR _ _,rfl,_,rfl,?_⟩;by_cases hc:c+1=64
 ·refine br_t (by simp;omega) ?_;refine ⟨_,rfl,p,C,dx,_,_,rfl,upd_same,T.cl,T.na,j4 _ _,_,_,rfl,rfl,⟨by decide,by decide⟩,dx,_,upd_same,iT _ _,?_⟩;rw [wd];refine ⟨_,rfl,p,C,dx,_,_,rfl,upd_same,T.cl,T.nc,iR _ _,_,_,rfl,rfl,⟨by decide,by decide⟩,dx,_,upd_same,iT _ _,?_⟩;rw [we];refine k _ ⟨dx,?_⟩ λb o e hb=>?_
  ·rw [upd_same];have:Sp21.next a c z=((a+z.natAbs)/2,(c+1)/2):=by unfold Sp21.next;simp only [if_pos hc]
   rw [this];have e3:((a+z.natAbs:Nat):Int)/2=(((a+z.natAbs)/2:Nat):Int):=by omega
   have e4:((c+1:Nat):Int)/2=(((c+1)/2:Nat):Int):=by omega
   rw [e3,e4]
  ·rw [upd_ne hb,upd_ne hb,upd_ne hb,upd_ne hb];exact e
 ·refine br_f (by simp;omega) ?_;refine k _ ⟨dx,?_⟩ λb o e hb=>?_
  ·rw [upd_same];have:Sp21.next a c z=(a+z.natAbs,c+1):=by unfold Sp21.next;simp only [if_neg hc]
   rw [this]
  ·rw [upd_ne hb,upd_ne hb];exact e
theorem pX:FnScope ["self","k"] ["self"] (ae iI):=.ck
theorem ui {C:Addr}(D:bW K C "low_bits" "Pace.low_bits" iI)(T:PaceTxt K mg C):OkM P w K mg base CX0 1 C "low_bits" ["self"] (k7 C):=by
 refine D.ok pX λ_ _ _ _ _ H _ Q E hr h=>?_;obtain ⟨p,a,c,rfl,⟨dx,hp⟩,ha,hc,k⟩:=h;refine ⟨_,ac (ag (i:=1) pX.nd pe_int) (ac (g7 PassesOwn.never (aC g9 (aj eP (ap (pv 0) rfl) (pv 1)) (ap (pv 0) rfl) rfl)
  (af (ps_aug (i:=1) pX.nd rfl (Or.inl rfl) pe_int rY))) (af (ao (pv 1)))),?_⟩
 refine ⟨λm σ H2=>∃j:Nat,m+j=64/\j<64/\σ=[some (.ref p),some (.int j)]/\H2=H/\∀i,i<j->¬a<=c*2 ^ i,⟨64,0,rfl,by decide,rfl,rfl,λi hi=>absurd hi (by omega)⟩,?_⟩;rintro m σ H2 ⟨j,hm,hj,rfl,rfl,hn⟩;refine ⟨_,rfl,p,C,dx,_,_,rfl,hp,T.cl,T.nc,iR _ _,_,rfl,_,_,rfl,rfl,⟨by omega,by omega,by omega⟩,_,rfl,p,C,dx,_,_,rfl,hp,T.cl,T.na,j4 _ _,_,_,rfl,rfl,_,rfl,?_⟩;have e1:(c:Int)*2 ^ ((j:Int)).toNat=((c*2 ^ j:Nat):Int):=by rw [Int.toNat_natCast,Int.natCast_mul,Int.natCast_pow];rfl
 rw [e1];by_cases hle:a<=c*2 ^ j
 ·refine br_f (decide_eq_false (by omega)) ?_;refine ⟨_,rfl,?_⟩;have:=parameter_eq hj hle hn;rw [this] at k;exact k
 ·refine br_t (decide_eq_true (by omega)) ?_;refine ⟨λσ H3=>σ=[some (.ref p),some (.int ((j+1:Nat):Int))]/\H3=H2,?_,?_⟩
  ·rintro σ' H' ⟨rfl,rfl⟩;have hj2:j+1<64:=by
    rcases Nat.lt_or_ge (j+1) 64 with q | q
    ·exact q
    ·have:j=63:=by omega
     subst this;exact absurd ha hle
   refine ⟨m-1,by omega,j+1,by omega,hj2,rfl,rfl,λi hi=>?_⟩;rcases Nat.lt_or_ge i j with q | q
   ·exact hn i q
   ·have:i=j:=by omega
    subst this;exact hle
  ·exact ⟨_,rfl,_,_,rfl,rfl,rfl,rfl⟩
theorem k9 {h n:Nat}(hn:n<=h):2 ^ n<=2 ^ h:=Nat.pow_le_pow_right (by decide) hn
inductive wm (vs:List V)(H:Hp)(Q:VK)(_e3:XK):Prop
 | mk (k:Nat):(vs=[.int k])->(k<=100000)->(Q (.int (2 ^ k-1:Nat)) H)->wm vs H Q _e3
inductive ji (vs:List V)(H:Hp)(Q:VK)(_e3:XK):Prop
 | mk (z:Int):(vs=[.int z])->(z.natAbs<=2 ^ 60)->(Q (.int (Sp21.code1 z:Nat)) H)->ji vs H Q _e3
inductive fy (C:Addr)(vs:List V)(H:Hp)(Q:VK)(_e3:XK):Prop
 | mk (p d:Addr) (B:List Nat) (m k:Nat):(vs=[.int m,.int k,.ref p])->(WrAt C H p d B)->(m<2 ^ 24)->(k<64)->(B.length<=90000000)->(∀H',WrAt C H' p d (B++Sp21.tell k m)->jM p d H H'->Q .non H')->fy C vs H Q _e3
inductive jj (K:W.Frag)(C:Addr)(vs:List V)(H:Hp)(Q:VK)(_e3:XK):Prop
 | mk (a p d:Addr) (B:List Nat) (l:List Int):(vs=[.ref a,.ref p])->(H a=some (.lst (l.map V.int)))->(a≠p)->(a≠d)->(WrAt C H p d B)->((∀z∈l,-(2 ^ 23)<=z/\z<2 ^ 23))->(l.length<=65536)->(B.length+88*l.length<=80000000)->(∀H',WrAt C H' p d (B++Sp21.bandBits 16 1 l)->jM p d H H'->Q .non H')->jj K C vs H Q _e3
theorem pY:FnScope ["self"] ["self"] (ae ef):=.ck
theorem nU {C:Addr}(D:bW K C "__init__" "BitWriter.__init__" ef)(T:WriterTxt K mg C):OkM P w K mg base CX0 1 C "__init__" ["self"] (fx C):=by
 refine D.ok pY λ_ _ _ _ _ H _ Q E hr h=>?_;obtain ⟨p,dx,rfl,hp,k⟩:=h;refine ⟨_,ac (bC (pv 0) (bD ad) rfl) (ac (bC (pv 0) pe_int rfl) (af (bC (pv 0) pe_int rfl))),?_⟩;refine ⟨Nat.zero_le _,λd hd=>?_⟩;have hpd:p≠d:=ne_of_none hp hd;refine ⟨_,rfl,p,C,dx,_,rfl,(same_upd hd) _ _ hp,T.cl,T.nd,by decide,?_⟩;refine ⟨_,rfl,p,C,dx,_,rfl,upd_same,T.cl,T.nr,bP (aL (Nat.le_refl 0)),?_⟩;refine ⟨_,rfl,p,C,dx,_,rfl,upd_same,T.cl,T.nh,bP (aL (aL (Nat.le_refl 0))),?_⟩;refine k d _ hd ⟨[],0,0,⟨hpd,⟨dx,?_⟩,?_⟩,Wr.empty,by decide⟩ λb o e hb=>?_
 ·rw [upd_same,rp];rfl
 ·rw [upd_ne hpd.symm,upd_ne hpd.symm,upd_ne hpd.symm,upd_same];rfl
 ·rw [upd_ne hb,upd_ne hb,upd_ne hb];exact (same_upd hd) _ _ e
theorem Ay:FnScope ["self","value","many"] ["self","value","many"] (ae xm):=.ck
theorem zh {C:Addr}(D:bW K C "tell" "BitWriter.tell" xm)(T:WriterTxt K mg C):OkM P w K mg base CX0 1 C "tell" ["self","value","many"] (wk C):=by
 refine D.ok Ay λ_ _ _ _ _ H _ Q E hr h=>?_;obtain ⟨p,d,B,v,many,rfl,⟨done,rest,held,⟨hpd,⟨dx,hp⟩,hd⟩,hW,h8⟩,hv,hm,hB,k⟩:=h;refine ⟨_,ac (bC (pv 0) (aj yA (aj eP (ap (pv 0) rfl) (pv 2)) (pv 1)) rfl)
  (ac (bq (pv 0) (pv 2) oV)
  (af (g7 PassesOwn.never (aC yB (ap (pv 0) rfl) pe_int rfl)
   (ac (bq (pv 0) pe_int yf)
   (ac (bd (lC PySem.F.plainAttrs_list PySem.F.slot_list_append PySem.F.type_list_append cp (ap (pv 0) rfl) (aa (aj lX (ap (pv 0) rfl) (ap (pv 0) rfl)) ad)))
   (af (bq (pv 0) (aj bK (aj eP pe_int (ap (pv 0) rfl)) pe_int) yo))))))),?_⟩
 have hrest:rest<256:=Nat.lt_of_lt_of_le hW.lt (by have:=k9 (show held<=8 by omega);omega);refine ⟨_,rfl,p,C,dx,_,_,rfl,hp,T.cl,T.nr,fX _ _ _,_,rfl,_,_,rfl,rfl,⟨by omega,by omega,by omega⟩,_,rfl,_,_,rfl,rfl,_,rfl,p,C,dx,_,rfl,hp,T.cl,T.nr,eI _ _ _,?_⟩;dsimp only;rw [Int.toNat_natCast,wg hv,pU];refine ⟨_,rfl,p,C,dx,_,_,rfl,upd_same,T.cl,T.nh,ci _ _ _,_,rfl,_,_,rfl,rfl,dx,_,upd_same,eI _ _ _,?_⟩;rw [pV,<- Int.natCast_add];refine ⟨λm σ H2=>∃done rest held,σ=L2.start [Str.ofString "self",Str.ofString "value",Str.ofString "many"] [.ref p,.int v,.int many]/\m=held/\WrIs C H2 p d done rest held/\Wr done rest held (B++Sp21.bitsOf many v)/\held<=72/\jM p d H H2,⟨held+many,done,_,_,rfl,rfl,⟨hpd,⟨dx,upd_same⟩,?_⟩,hW.tell hv,by omega,λb o n1 n2 e=>?_⟩,?_⟩
 ·rw [upd_ne hpd.symm,upd_ne hpd.symm];exact hd
 ·rw [upd_ne n1,upd_ne n1];exact e
 ·clear hW h8;rintro held σ H2 ⟨done,rest,_,rfl,rfl,⟨_,⟨dx,hp⟩,hd⟩,hW,hh,s2⟩;refine ⟨_,rfl,p,C,dx,_,_,rfl,hp,T.cl,T.nh,ci _ _ _,_,_,rfl,rfl,_,rfl,?_⟩;by_cases h8:8<=held
  ·refine br_t (decide_eq_true (by omega)) ⟨λσ H3=>σ=L2.start [Str.ofString "self",Str.ofString "value",Str.ofString "many"] [.ref p,.int v,.int many]/\WrIs C H3 p d (done++[rest/2 ^ (held-8)]) (rest % 2 ^ (held-8)) (held-8)/\jM p d H H3,?_,?_⟩
   ·rintro σ' H' ⟨rfl,hI,s3⟩;exact ⟨held-8,by omega,_,_,_,rfl,rfl,hI,hW.drain h8,by omega,s3⟩
   ·refine ⟨_,rfl,p,C,dx,_,_,rfl,hp,T.cl,T.nh,ci _ _ _,_,_,rfl,rfl,dx,_,hp,eI _ _ _,?_⟩;rw [pV,show (held:Int)-8=((held-8:Nat):Int) by omega];have hd2:upd H2 p (.ins C dx (cg d rest ((held-8:Nat):Int))) d=some (.lst ((Sp21.ints done).map V.int)):=by rw [upd_ne hpd.symm];exact hd
    have hlen:done.length<16000000:=by
     have:=hW.length;rw [List.length_append,bitsOf_length] at this;omega
    refine ⟨_,rfl,p,C,dx,_,_,rfl,upd_same,T.cl,T.nd,jg _ _ _,.inl ⟨rfl,_,SqL.of hd2⟩,_,rfl,p,C,dx,_,_,rfl,upd_same,T.cl,T.nr,fX _ _ _,_,rfl,p,C,dx,_,_,rfl,upd_same,T.cl,T.nh,ci _ _ _,_,_,rfl,rfl,by omega,d,_,_,rfl,rfl,hd2,?_,?_⟩
    ·rw [List.length_map];have:(Sp21.ints done).length=done.length:=by simp [Sp21.ints]
     rw [this];exact Nat.lt_of_lt_of_le hlen (line_ge (Nat.le_refl _))
    ·have hp3:upd (upd H2 p (.ins C dx (cg d rest ((held-8:Nat):Int)))) d (.lst ((Sp21.ints done).map V.int++[V.int ((rest:Int)/2 ^ (((held-8:Nat):Int)).toNat)])) p=some (.ins C dx (cg d rest ((held-8:Nat):Int))):=by rw [upd_ne hpd,upd_same]
     refine ⟨_,rfl,p,C,dx,_,_,rfl,hp3,T.cl,T.nr,fX _ _ _,_,rfl,p,C,dx,_,_,rfl,hp3,T.cl,T.nh,ci _ _ _,_,_,rfl,rfl,⟨by omega,by omega,by decide⟩,_,_,rfl,rfl,_,_,rfl,rfl,dx,_,hp3,eI _ _ _,rfl,⟨hpd,⟨dx,?_⟩,?_⟩,λb o n1 n2 e=>?_⟩
     ·rw [upd_same,pU,Int.toNat_natCast,rq,nT]
     ·rw [upd_ne hpd.symm,upd_same];rw [Int.toNat_natCast,wj,pW,List.map_append];rfl
     ·rw [upd_ne n1,upd_ne n2,upd_ne n1];exact s2 _ _ n1 n2 e
  ·refine br_f (decide_eq_false (by omega)) ?_;exact k H2 ⟨done,rest,held,⟨hpd,⟨dx,hp⟩,hd⟩,hW,by omega⟩ s2
theorem uj:FnScope ["self"] ["self"] (ae iG):=.ck
theorem rA {C:Addr}(D:bW K C "all_bytes" "BitWriter.all_bytes" iG)(T:WriterTxt K mg C)(zL:mg "list"=none):OkM P w K mg base CX0 1 C "all_bytes" ["self"] (jh C):=by
 refine D.ok uj λ_ _ _ _ _ H _ Q E hr h=>?_;obtain ⟨p,d,B,rfl,⟨done,rest,held,⟨hpd,⟨dx,hp⟩,hd⟩,hW,h8⟩,hB,k⟩:=h;refine ⟨_,ac (di (aC qv (ap (pv 0) rfl) pe_int rfl) (af (ao (cP bL (by rfl) zL boot_list (aa (ap (pv 0) rfl) ad)))) bc)
  (af (ao (aj cW (ap (pv 0) rfl) (bD (aa (aj eP (ap (pv 0) rfl) (aj bK pe_int (ap (pv 0) rfl))) ad))))),?_⟩
 have hall:=hW.all h8;have hlen:=hW.length;have hrest:rest<256:=Nat.lt_of_lt_of_le hW.lt (by have:=k9 (show held<=8 by omega);omega);refine ⟨_,rfl,p,C,dx,_,_,rfl,hp,T.cl,T.nh,ci _ _ _,rfl,_,rfl,?_⟩;by_cases h0:held=0
 ·refine br_t (decide_eq_true (by rw [h0];rfl)) ?_;refine ⟨_,rfl,p,C,dx,_,_,rfl,hp,T.cl,T.nd,jg _ _ _,_,_,rfl,.inl (SqL.of hd),λl hl=>?_⟩;rw [if_pos h0,List.append_nil] at hall;rw [hall] at k;exact k l _ (same_upd hl) hl upd_same
 ·refine br_f (decide_eq_false (by simp;omega)) ?_;refine ⟨_,rfl,p,C,dx,_,_,rfl,hp,T.cl,T.nd,jg _ _ _,_,rfl,p,C,dx,_,_,rfl,hp,T.cl,T.nr,fX _ _ _,_,rfl,p,C,dx,_,_,rfl,hp,T.cl,T.nh,ci _ _ _,_,_,rfl,rfl,_,_,rfl,rfl,⟨by omega,by omega,by omega⟩,(by show 1<=sizeLine;decide),λq hq=>?_⟩;refine ⟨d,q,_,_,rfl,rfl,(same_upd hq) _ _ hd,upd_same,?_,λr hr2=>?_⟩
  ·rw [List.length_map];have:(Sp21.ints done).length=done.length:=by simp [Sp21.ints]
   rw [this];exact line_ge (by show done.length+1<=16000000;omega)
  ·rw [if_neg h0] at hall;rw [hall,show Sp21.ints (done++[rest*2 ^ (8-held)])=Sp21.ints done++[((rest*2 ^ (8-held):Nat):Int)] from pW _ _,List.map_append] at k;refine k r _ ((same_upd hq).new hr2) ((same_upd hq).free hr2) ?_;rw [upd_same,show (8:Int)-(held:Int)=((8-held:Nat):Int) by omega];rw [Int.toNat_natCast,Int.natCast_mul,Int.natCast_pow];rfl
theorem Az:FnScope ["many"] ["many"] (ae xk):=.ck
theorem zi (D:aB K mg "ones" xk):OkF P w K mg base CX0 1 "ones" ["many"] wm:=by
 refine D.ok Az λ_ _ _ _ _ H _ Q E hr h=>?_;obtain ⟨n,rfl,hn,k⟩:=h;refine ⟨_,af (ao (aj bK (aj eP pe_int (pv 0)) pe_int)),?_⟩;refine ⟨_,rfl,_,_,rfl,rfl,⟨by omega,by omega,by decide⟩,_,_,rfl,rfl,?_⟩;dsimp only;rw [Int.toNat_natCast,rq];exact k
theorem uk:FnScope ["z"] ["z"] (ae iw):=.ck
theorem rB (D:aB K mg "unsigned" iw):OkF P w K mg base CX0 1 "unsigned" ["z"] ji:=by
 refine D.ok uk λ_ _ _ _ _ H _ Q E hr h=>?_;obtain ⟨z,rfl,hz,k⟩:=h;refine ⟨_,af (ao (mC (aC yB (pv 0) pe_int rfl) (aj be pe_int (pv 0)) (aj bK (aj be (j6 eV pe_int) (pv 0)) pe_int))),?_⟩;refine ⟨_,rfl,_,_,rfl,rfl,_,rfl,?_⟩;by_cases h0:0<=z
 ·refine br_t (decide_eq_true h0) ⟨_,rfl,_,_,rfl,rfl,.inl ⟨by decide,by decide⟩,?_⟩;have e:(Sp21.code1 z:Nat)=2*z.toNat:=by unfold Sp21.code1;rw [if_pos h0]
  rw [e,show ((2*z.toNat:Nat):Int)=2*z by omega] at k;exact k
 ·refine br_f (decide_eq_false h0) ⟨_,rfl,_,rfl,_,_,rfl,rfl,.inl ⟨by decide,by decide⟩,_,_,rfl,rfl,?_⟩;have e:(Sp21.code1 z:Nat)=(-2*z-1).toNat:=by unfold Sp21.code1;rw [if_neg h0]
  rw [e,show (((-2*z-1).toNat:Nat):Int)=-2*z-1 by omega] at k;exact k
theorem pZ:FnScope ["m","k","writer","q"] ["m","k","writer"] (ae d0):=.ck
theorem WrAt.obj {C:Addr}{H:Hp}{p d:Addr}{B:List Nat} (h:WrAt C H p d B):∃dx fs,H p=some (.ins C dx fs)/\fs.lookup ("tell":Str)=none/\fs.lookup ("all_bytes":Str)=none:=by
 obtain ⟨done,rest,held,⟨_,⟨dx,h1⟩,_⟩,_⟩:=h;exact ⟨dx,_,h1,(by kernel_rfl),(by kernel_rfl)⟩
theorem nV {C:Addr}(D:aB K mg "tell_number" d0)(T:WriterTxt K mg C)(cL:∃t,mg "LONGEST"=some (.int 24 t))(oO:OkF P w K mg base CX0 1 "ones" ["many"] wm)(oT:OkM P w K mg base CX0 1 C "tell" ["self","value","many"] (wk C)) :
  OkF P w K mg base CX0 2 "tell_number" ["m","k","writer"] (fy C):=by
 obtain ⟨tL,cL⟩:=cL;refine D.ok pZ λ_ _ _ _ _ H _ Q E hr h=>?_;obtain ⟨p,d,B,m,n,rfl,hW,hm,hn,hB,k⟩:=h;refine ⟨_,ac (ag (i:=3) pZ.nd (aj lX (pv 0) (pv 1)))
  (af (di (aC g9 (pv 3) (bj (v:=.int 24) (by rfl) cL ⟨tL,rfl⟩) rfl)
   (ac (bd (mX oT T.cl hr gv (pv 2) (aa (aj eP (az oO hr rfl (aa (pv 3) ad)) pe_int) (aa (aj aO (pv 3) pe_int) ad))))
    (af (bd (mX oT T.cl hr gv (pv 2) (aa (aj yb (pv 0) (az oO hr rfl (aa (pv 1) ad))) (aa (pv 1) ad))))))
   (ac (bd (mX oT T.cl hr gv (pv 2) (aa (az oO hr rfl (aa (bj (v:=.int 24) (by rfl) cL ⟨tL,rfl⟩) ad)) (aa (bj (v:=.int 24) (by rfl) cL ⟨tL,rfl⟩) ad))))
    (af (bd (mX oT T.cl hr gv (pv 2) (aa (pv 0) (aa (bj (v:=.int 24) (by rfl) cL ⟨tL,rfl⟩) ad)))))))),?_⟩
 refine ⟨_,rfl,_,rfl,_,_,rfl,rfl,by omega,?_⟩;dsimp only;rw [Int.toNat_natCast,wj];obtain ⟨dx,fs,hp,hnt,_⟩:=hW.obj;refine ⟨_,rfl,_,_,rfl,rfl,_,rfl,?_⟩;by_cases hq:m/2 ^ n<24
 ·refine br_t (decide_eq_true (by omega)) ?_;refine ⟨_,rfl,p,dx,fs,rfl,hp,hnt,_,rfl,m/2 ^ n,rfl,by omega,_,_,rfl,rfl,⟨by decide,by decide,?_⟩,_,rfl,_,_,rfl,rfl,p,d,B,(2 ^ (m/2 ^ n)-1)*2,m/2 ^ n+1,?_,hW,?_,by omega,by omega,λH1 hW1 s1=>?_⟩
  ·have:=k9 (show m/2 ^ n<=24 by omega);omega
  ·show [V.ref p,V.int (((2 ^ (m/2 ^ n)-1:Nat):Int)*2 ^ 1),V.int ((m/2 ^ n:Nat)+1)]=_;rw [show ((2 ^ (m/2 ^ n)-1:Nat):Int)*2 ^ 1=(((2 ^ (m/2 ^ n)-1)*2:Nat):Int) by omega];rfl
  ·have:=Nat.two_pow_pos (m/2 ^ n);rw [Nat.pow_succ];omega
  ·obtain ⟨dx1,fs1,hp1,hnt1,_⟩:=hW1.obj;refine ⟨_,rfl,p,dx1,fs1,rfl,hp1,hnt1,_,rfl,_,rfl,n,rfl,by omega,_,_,rfl,rfl,_,rfl,p,d,_,m % 2 ^ n,n,?_,hW1,Nat.mod_lt _ (Nat.two_pow_pos _),by omega,?_,λH2 hW2 s2=>?_⟩
   ·show [V.ref p,V.int (Builtin.bitAnd (m:Int) ((2 ^ n-1:Nat):Int)),V.int n]=_;rw [nT]
   ·rw [List.length_append,bitsOf_length];omega
   ·refine k H2 ?_ (s1.trans s2);rw [i6 hq,<- List.append_assoc];exact hW2
 ·refine br_f (decide_eq_false (by omega)) ?_;refine ⟨_,rfl,p,dx,fs,rfl,hp,hnt,24,rfl,by decide,p,d,B,2 ^ 24-1,24,rfl,hW,by decide,by decide,by omega,λH1 hW1 s1=>?_⟩;obtain ⟨dx1,fs1,hp1,hnt1,_⟩:=hW1.obj;refine ⟨_,rfl,p,dx1,fs1,rfl,hp1,hnt1,_,rfl,p,d,_,m,24,rfl,hW1,hm,by decide,?_,λH2 hW2 s2=>?_⟩
  ·rw [List.length_append,bitsOf_length];omega
  ·refine k H2 ?_ (s1.trans s2);rw [tell_long hq,<- List.append_assoc];exact hW2
theorem ul:FnScope ["band","writer","pace","z"] ["band","writer"] (ae iy):=.ck
theorem zj {l:List Int}(hl:∀z∈l,z.natAbs<=2 ^ 24):Paced l.length (aU 16 1 l).1 (aU 16 1 l).2:=by
 have:=fb l 0 16 1 Paced.start hl;rw [Nat.zero_add] at this;exact this
theorem rC {C CP:Addr}(D:aB K mg "tell_band" iy)(TP:PaceTxt K mg CP)(oI:OkM P w K mg base CX0 1 CP "__init__" ["self"] (fY CP))(oL:OkM P w K mg base CX0 1 CP "low_bits" ["self"] (k7 CP))(oT:OkM P w K mg base CX0 1 CP "take" ["self","z"] (tf CP))
  (oU:OkF P w K mg base CX0 1 "unsigned" ["z"] ji) (oN:OkF P w K mg base CX0 2 "tell_number" ["m","k","writer"] (fy C)):OkF P w K mg base CX0 3 "tell_band" ["band","writer"] (jj K C):=by
 refine D.ok ul λ_ _ _ _ _ H _ Q E hr h=>?_;obtain ⟨a,p,d,B,l,rfl,ha,nap,nad,hW,hz,hl,hB,k⟩:=h;have hr1:Room 1 _:=hr.mono (by decide);refine ⟨_,ac (ag (i:=2) ul.nd (qY oI TP.toClsIn hr rfl))
  (af (bU PassesOwn.never rfl (aQ (pv 0)) (pg_nameA (i:=3) ul.nd)
   (ac (bd (az oN hr rfl (aa (az oU hr1 rfl (aa (pv 3) ad)) (aa (mo oL TP.cl hr1 gv (pv 2)) (aa (pv 1) ad)))))
   (af (bd (mX oT TP.cl hr1 gv (pv 2) (aa (pv 3) ad))))))),?_⟩
 intro x dx hx hdx hne;refine ⟨x,dx,rfl,upd_same,λH1 hP kp=>⟨rfl,?_⟩⟩;have s1:Same H H1:=Same.made hx hdx kp;have hxp:x≠p:=by
  obtain ⟨_,_,z,_⟩:=hW.obj;exact (ne_of_none z hx).symm
 have hxd:x≠d:=by
  obtain ⟨_,_,_,⟨_,_,z⟩,_⟩:=hW;exact (ne_of_none z hx).symm
 have hxa:a≠x:=ne_of_none ha hx;have hz2:∀z∈l,z.natAbs<=2 ^ 24:=λz hm=>by have:=hz z hm;omega
 refine ⟨_,rfl,a,rfl,⟨_,SqL.of (s1 _ _ ha)⟩,?_⟩;refine dH (K:=K) (xs:=l.map V.int) (λi σ H2=>∃u,σ=[some (.ref a),some (.ref p),some (.ref x),u]/\H2 a=some (.lst (l.map V.int))/\WrAt C H2 p d (B++Sp21.bandBits 16 1 (l.take i))/\PaceAt CP H2 x (aU 16 1 (l.take i)).1 (aU 16 1 (l.take i)).2/\jM p d H H2)
  ⟨none,rfl,s1 _ _ ha,?_,hP,.of s1⟩ (λi σ H2 _ ⟨_,_,z,_⟩=>SqL.of z) ?_ ?_
 ·show WrAt C H1 p d (B++[]);rw [List.append_nil];exact hW.same s1
 ·rintro i y σ H2 hy ⟨u,rfl,ha2,hW2,⟨dx2,hP2⟩,s2⟩;obtain ⟨z,ez,rfl⟩:=cA hy;have hzm:=List.mem_of_getElem? ez;have hi:=(List.getElem?_eq_some_iff.mp ez).1;have hm:=hz z hzm;have etake:l.take (i+1)=l.take i++[z]:=by rw [List.take_succ,ez];rfl
  have hpc:=zj (l:=l.take i) (λz h=>hz2 z (List.mem_of_mem_take h));have hlt:(l.take i).length=i:=by rw [List.length_take];omega
  rw [hlt] at hpc;have hfit:=hpc.fits (by omega);have hc64:(aU 16 1 (l.take i)).2<=64:=by have:=hpc.c_lt;omega
  generalize hpa:(aU 16 1 (l.take i)).1=pa at *;generalize hpb:(aU 16 1 (l.take i)).2=pb at *;have hlow:=jx hfit;have hbits:(Sp21.bandBits 16 1 (l.take i)).length<=88*i:=by
   have:=cR (l.take i) 0 16 1 Paced.start (by rw [hlt];omega) (λz h=>hz2 z (List.mem_of_mem_take h));rw [hlt] at this;exact this
  refine ⟨_,rfl,z,rfl,by omega,_,rfl,x,dx2,_,rfl,hP2,(by kernel_rfl),x,pa,pb,rfl,⟨dx2,hP2⟩,hfit,hc64,_,rfl,p,d,_,Sp21.code1 z,Sp21.parameter pa pb,rfl,hW2,sh hm.1 hm.2,hlow,?_,λH3 hW3 s3=>?_⟩
  ·rw [List.length_append];omega
  have hP3:=s3 _ _ hxp hxd hP2;refine ⟨_,rfl,x,dx2,_,rfl,hP3,(by kernel_rfl),_,rfl,x,pa,pb,z,rfl,⟨dx2,hP3⟩,λH4 hP4 s4=>?_⟩;refine ⟨_,rfl,s4 _ _ (s3 _ _ nap nad ha2) hxa,?_,?_,λb o n1 n2 e=>s4 _ _ (s3 _ _ n1 n2 (s2 _ _ n1 n2 e)) (ne_of_none e hx)⟩
  ·rw [etake,ii,hpa,hpb,<- List.append_assoc];obtain ⟨done,rest,held,⟨n1,⟨dx5,w1⟩,w2⟩,w3,w4⟩:=hW3;exact ⟨done,rest,held,⟨n1,⟨dx5,s4 _ _ w1 hxp.symm⟩,s4 _ _ w2 hxd.symm⟩,w3,w4⟩
  ·rw [etake,ga,hpa,hpb];exact hP4
 ·rintro σ H2 ⟨u,rfl,ha2,hW2,_,s2⟩;rw [List.length_map,List.take_length] at hW2;exact k H2 hW2 s2
inductive nX (K:W.Frag)(vs:List V)(H:Hp)(Q:VK)(_e3:XK):Prop
 | mk (a:Addr) (l:List (List Int)) (n:Nat) (H0:Hp):(vs=[.ref a])->(Same H0 H)->(uf H0 H a l)->((∀p∈l,p.length=n))->(l.length<=1000)->(n<=1000000)->(∀p H',Same H H'->H p=none->uf H0 H' p (TW.mixed l)->Q (.ref p) H')->nX K vs H Q _e3
theorem nY {g:TG}{te:TE}{ws:List Nat}{σ:L2.St}{H1:Hp}{D q:Addr}{Qd:Hp->Prop}{xs ys zs:List Int} (F:Int->Int->Int->Int) (hD:H1 D=none) (L:ListOf mt H1 q (xs.zip (ys.zip zs))) (hz:xs.length<=sizeLine)
  (hs:∀(x y z:Int) (T:Addr) (H:Hp) (Q':VK),H T=some (.tup [.int x,.int y,.int z])->(∀H4,Same H H4->Q' (.int (F x y z)) H4)->g (.ref T) (wipe σ ws) H λσ2 H2=>wipe σ2 ws=wipe σ ws/\te σ2 H2 Q')
  (hd:∀H,Same H1 H->dX H D (TW.zip3 F xs ys zs)->Qd H) :
  lcW (Itl K q) g tYes te ws σ D Qd H1:=by
 obtain ⟨refs,g1,g2,g0,g3⟩:=id L;refine sx (TW.zip3 F xs ys zs) (by rw [List.length_map,g2];simp [TW.zip3]) hD (SqL.of g1) (by rw [List.length_map,g2,List.length_zip];omega) (λj x y H2 Q' hx hy s2 hq=>?_) hd;rw [List.getElem?_map] at hx;unfold TW.zip3 at hy;rw [List.getElem?_map] at hy;obtain ⟨r,er,rfl⟩:=Option.map_eq_some_iff.mp hx;obtain ⟨t,et,rfl⟩:=Option.map_eq_some_iff.mp hy;exact hs t.1 t.2.1 t.2.2 r H2 Q' (s2 _ _ (g3 j r t er et)) hq
theorem rD:∀{l:List (List Int)},l.length<3->TW.mixed l=l
 | [],_=>rfl
 | [_],_=>rfl
 | [_,_],_=>rfl
 | _::_::_::_,h=>absurd h (by simp)
theorem tj:∀{l:List (List Int)},¬l.length<3->∃x y z r,l=x::y::z::r
 | [],h=>absurd (by decide) h
 | [_],h=>absurd (by show 1<3;decide) h
 | [_,_],h=>absurd (by show 2<3;decide) h
 | x::y::z::r,_=>⟨x,y,z,r,rfl⟩
theorem zk:FnScope ["planes","points","means","blues","reds","r","g","b"] ["planes"] (ae sU):=.ck
theorem tm (D:aB K mg "mixed" sU)(zLen:mg "len"=none)(zL:mg "list"=none)(zZ:mg "zip"=none):OkF P w K mg base CX0 1 "mixed" ["planes"] (nX K):=by
 refine D.ok zk λ_ _ _ _ _ H _ Q E hr h=>?_;obtain ⟨a,l,n,H0,rfl,sH,G,hl,hk,hn,k⟩:=h;refine ⟨_,ac (di (aC g9 (aw ak (by rfl) zLen PySem.boot_len (aa (pv 0) ad)) pe_int (cK _))
   (af (ao (cP bL (by rfl) zL boot_list (aa (pv 0) ad)))) bc)
  (ac (ag (i:=1) zk.nd (rc rfl (by rfl) zL (by rfl) zZ (aa (aq ay (pv 0) pe_int) (aa (aq ay (pv 0) pe_int) (aa (aq ay (pv 0) pe_int) ad)))))
  (ac (aY (i:=2) (own:=[("r",5),("g",6),("b",7)]) (g:=gTup K 3 (bp (aA 5) (bp (aA 6) (bp (aA 7) gNil)))) zk.nd (aQ (pv 1)) (λs H C cl fp=>bT rfl (am (pg_nameA (i:=5) zk.nd) (am (pg_nameA (i:=6) zk.nd) (am (pg_nameA (i:=7) zk.nd) bn)))) (λs H C cl fp=>aj eU (aj aO (aj aO (pv 5) (aj be pe_int (pv 6))) (pv 7)) pe_int))
  (ac (aY (i:=3) (own:=[("r",5),("g",6),("b",7)]) (g:=gTup K 3 (bp (aA 5) (bp (aA 6) (bp (aA 7) gNil)))) zk.nd (aQ (pv 1)) (λs H C cl fp=>bT rfl (am (pg_nameA (i:=5) zk.nd) (am (pg_nameA (i:=6) zk.nd) (am (pg_nameA (i:=7) zk.nd) bn)))) (λs H C cl fp=>aj bK (pv 7) (pv 6)))
  (ac (aY (i:=4) (own:=[("r",5),("g",6),("b",7)]) (g:=gTup K 3 (bp (aA 5) (bp (aA 6) (bp (aA 7) gNil)))) zk.nd (aQ (pv 1)) (λs H C cl fp=>bT rfl (am (pg_nameA (i:=5) zk.nd) (am (pg_nameA (i:=6) zk.nd) (am (pg_nameA (i:=7) zk.nd) bn)))) (λs H C cl fp=>aj bK (pv 5) (pv 6)))
  (af (ao (aj cW (bD (aa (pv 2) (aa (pv 3) (aa (pv 4) ad)))) (aD aR (pv 0) (aI pe_int) bo)))))))),?_⟩
 obtain ⟨refs,g1,g2,g0,g3'⟩:=id G;have g3:∀(i:Nat) (r:Addr) (x:List Int),refs[i]?=some r->l[i]?=some x->dX H r x:=λi r x e1 e2=>(g3' i r x e1 e2).1;refine ⟨_,rfl,a,_,rfl,.inl (SqL.of g1),_,_,rfl,rfl,_,rfl,?_⟩;by_cases h3:l.length<3
 ·refine br_t (decide_eq_true (by rw [List.length_map,g2];omega)) ?_;refine ⟨_,rfl,a,_,rfl,.inl (SqL.of g1),λq hq=>k q _ (same_upd hq) hq ?_⟩;rw [rD h3];exact ⟨refs,upd_same,g2,eG g2 g3 hq,λi r x e1 e2=>iP _ _ _ _ (same_upd hq) (g3' i r x e1 e2)⟩
 ·refine br_f (decide_eq_false (by rw [List.length_map,g2];omega)) ?_;obtain ⟨x,y,z,rest,rfl⟩:=tj h3;have hx:=hl x (by simp);have hy:=hl y (by simp);have hzz:=hl z (by simp);have hz:x.length<=sizeLine:=line_ge (by omega);simp only [List.length_cons] at g2 hk;have e0:refs[0]?=some refs[0]:=List.getElem?_eq_getElem (by omega);have e1:refs[1]?=some refs[1]:=List.getElem?_eq_getElem (by omega);have e2:refs[2]?=some refs[2]:=List.getElem?_eq_getElem (by omega);have rx:=g3 0 _ x e0 rfl;have ry:=g3 1 _ y e1 rfl;have rz:=g3 2 _ z e2 rfl;refine ⟨_,rfl,a,_,_,_,rfl,rfl,SqL.of g1,bx (j:=0) rfl (by rw [List.getElem?_map,e0];rfl),_,rfl,a,_,_,_,rfl,rfl,SqL.of g1,bx (j:=1) rfl (by rw [List.getElem?_map,e1];rfl),_,rfl,a,_,_,_,rfl,rfl,SqL.of g1,bx (j:=2) rfl (by rw [List.getElem?_map,e2];rfl),
   _,_,_,x,y,z,rfl,SqL.of rx,SqL.of ry,SqL.of rz,by omega,by omega,λq H1 s1 n1 L1=>?_⟩
  have qs:∀{H2:Hp},Same H1 H2->∃xs,SqL K H2 q xs:=λss=>by obtain ⟨_,z,_⟩:=L1;exact ⟨_,SqL.of (ss _ _ z)⟩
  refine ⟨_,rfl,q,rfl,qs (Same.refl _),λD1 hD1=>?_⟩;refine nY (λr g b=>(r+2*g+b)/4) hD1 L1 hz (λx y z T H Q' hT hq=>?_) (λH2 s2 r2=>?_)
  ·exact ⟨T,_,rfl,SqT.of hT,rfl,_,_,rfl,_,_,rfl,_,_,rfl,rfl,rfl,_,rfl,_,rfl,_,_,rfl,rfl,.inl ⟨by decide,by decide⟩,_,_,rfl,rfl,_,rfl,_,_,rfl,rfl,_,_,rfl,rfl,⟨by decide,by decide⟩,hq _ (Same.refl _)⟩
  refine ⟨_,rfl,q,rfl,qs s2,λD2 hD2=>?_⟩;refine nY (λ_ g b=>b-g) hD2 (L1.same gL s2) hz (λx y z T H Q' hT hq=>?_) (λH3 s3 r3=>?_)
  ·exact ⟨T,_,rfl,SqT.of hT,rfl,_,_,rfl,_,_,rfl,_,_,rfl,rfl,rfl,_,rfl,_,rfl,_,_,rfl,rfl,hq _ (Same.refl _)⟩
  refine ⟨_,rfl,q,rfl,qs (s2.trans s3),λD3 hD3=>?_⟩;refine nY (λr g _=>r-g) hD3 (L1.same gL (s2.trans s3)) hz (λx y z T H Q' hT hq=>?_) (λH4 s4 r4=>?_)
  ·exact ⟨T,_,rfl,SqT.of hT,rfl,_,_,rfl,_,_,rfl,_,_,rfl,rfl,rfl,_,rfl,_,rfl,_,_,rfl,rfl,hq _ (Same.refl _)⟩
  have sA:Same H H4:=((s1.trans s2).trans s3).trans s4;refine ⟨_,rfl,_,rfl,_,rfl,(by show 3<=sizeLine;decide),λq2 hq2=>?_⟩;have t1:=same_upd (o:=.lst [.ref D1,.ref D2,.ref D3]) hq2;refine ⟨_,rfl,3,rfl,a,_,rfl,SqL.of (t1 _ _ (sA _ _ g1)),λq3 hq3=>?_⟩;rw [show (3:Int)=((3:Nat):Int) from rfl,dB,<- List.map_drop];have t2:=same_upd (o:=.lst ((refs.drop 3).map V.ref)) hq3;refine ⟨q2,q3,_,_,rfl,rfl,t2 _ _ upd_same,upd_same,?_,λp hp=>?_⟩
  ·rw [List.length_map,List.length_drop];exact line_ge (by show 3+(refs.length-3)<=16000000;omega)
  have t3:=same_upd (o:=.lst ([V.ref D1,.ref D2,.ref D3]++(refs.drop 3).map V.ref)) hp;have t123:=(t1.trans t2).trans t3;have all:=sA.trans t123;refine k p _ all (((sA.trans t1).trans t2).free hp) ?_;have gr:∀(i:Nat) (r:Addr) (xx:List Int),(refs.drop 3)[i]?=some r->rest[i]?=some xx->RowF H0 H r xx:=λi r xx h1 h2=>g3' (3+i) r xx (by rw [List.getElem?_drop] at h1;exact h1) (by rw [Nat.add_comm];exact h2);have gl:(refs.drop 3).length=rest.length:=by rw [List.length_drop];omega
  refine ListOf.cat (r1:=[D1,D2,D3]) (l1:=[TW.zip3 (λr g b=>(r+2*g+b)/4) x y z,TW.zip3 (λ_ g b=>b-g) x y z,TW.zip3 (λr g _=>r-g) x y z]) rfl gl (λr hr=>?_) (eG gl (λi r xx h1 h2=>((sA.trans t1).trans t2) _ _ (gr i r xx h1 h2).1) hp) (λi r xx h1 h2=>?_) (λi r xx h1 h2=>iP _ _ _ _ all (gr i r xx h1 h2)) upd_same
  ·have u1:=(t1.trans t2) _ _ ((s3.trans s4) _ _ r2);have u2:=(t1.trans t2) _ _ (s4 _ _ r3);have u3:=(t1.trans t2) _ _ r4;have hr:r=D1\/r=D2\/r=D3:=by simpa using hr
   rcases hr with rfl | rfl | rfl
   ·exact ne_of_none u1 hp
   ·exact ne_of_none u2 hp
   ·exact ne_of_none u3 hp
  ·match i,h1,h2 with
   | 0,h1,h2=>cases h1;cases h2;exact ⟨t123 _ _ ((s3.trans s4) _ _ r2),(sH.trans s1).free hD1⟩
   | 1,h1,h2=>cases h1;cases h2;exact ⟨t123 _ _ (s4 _ _ r3),(sH.trans (s1.trans s2)).free hD2⟩
   | 2,h1,h2=>cases h1;cases h2;exact ⟨t123 _ _ r4,(sH.trans ((s1.trans s2).trans s3)).free hD3⟩
inductive fZ (K:W.Frag)(vs:List V)(H:Hp)(Q:VK)(_e3:XK):Prop
 | mk (a:Addr) (l:List Int) (kinds n:Nat):(vs=[.ref a,.int kinds])->(SqL K H a (l.map V.int))->(1<=kinds)->(kinds<=4)->(l.length=kinds*n)->(0<n)->(n<=1000000)->(AnsF H (TW.planes kinds n l) Q)->fZ K vs H Q _e3
def cU (l:List Int):List Nat:=0::l.flatMap λ(z:Int)=>Sp21.two z.toNat
def zm (l:List Int):Prop:=∀z∈l,0<=z/\z<=65535
inductive rE (K:W.Frag)(vs:List V)(H:Hp)(Q:VK)(_e3:XK):Prop
 | mk (a:Addr) (l:List Int):(vs=[.ref a])->(SqL K H a (l.map V.int))->(zm l)->(l.length<=1000000)->(Ans H (B (cU l)) Q)->rE K vs H Q _e3
structure TileIn (l:List Int)(kinds w h levels:Nat):Prop where
 hk:1<=kinds/\kinds<=4
 hw:0<w/\w<=256
 hh:0<h/\h<=256
 hv:levels<=5
 hl:l.length=kinds*w*h
 hn:zm l
inductive rF (K:W.Frag)(vs:List V)(H:Hp)(Q:VK)(_e3:XK):Prop
 | mk (a:Addr) (l:List Int) (kinds w h levels:Nat):(vs=[.ref a,.int kinds,.int w,.int h,.int levels])->(SqL K H a (l.map V.int))->(TileIn l kinds w h levels)->(Ans H (B (1::Sp21.bytesOf (TW.tileBits kinds w h levels l))) Q)->rF K vs H Q _e3
inductive jk (K:W.Frag)(vs:List V)(H:Hp)(Q:VK)(_e3:XK):Prop
 | mk (a:Addr) (l:List Int) (kinds w h levels:Nat):(vs=[.ref a,.int kinds,.int w,.int h,.int levels])->(SqL K H a (l.map V.int))->(TileIn l kinds w h levels)->(Ans H (B (Sp21.tileCode kinds w h levels l)) Q)->jk K vs H Q _e3
theorem um {l:List Int}{i kinds n:Nat} (hi:i<kinds) (hl:l.length=kinds*n) (hn:0<n):jJ (l.map V.int) i kinds=(TW.pick l i kinds n).map V.int:=by
 have hle:kinds<=kinds*n:=Nat.le_mul_of_pos_right _ hn;have en:(l.length-i+kinds-1)/kinds=n:=by
  rw [hl,show kinds*n-i+kinds-1=kinds*n+(kinds-1-i) by omega,Nat.mul_add_div (by omega),Nat.div_eq_of_lt (by omega)];omega
 unfold jJ TW.pick;rw [List.length_map,en,List.map_map];have:∀ms:List Nat,(∀m∈ms,m<n)->ms.filterMap (λm=>(l.map V.int)[i+m*kinds]?)=ms.map (V.int ∘ λm=>l.getD (i+m*kinds) 0):=by
  intro ms
  induction ms with
  | nil=>intro _;rfl
  | cons m ms ih =>
   intro h;have hm:i+m*kinds<l.length:=by
    have h1:=h m List.mem_cons_self;have h2:=Nat.mul_le_mul_right kinds (show m+1<=n from h1);rw [Nat.add_mul,Nat.one_mul,Nat.mul_comm n] at h2;omega
   rw [List.filterMap_cons,List.getElem?_map,List.getElem?_eq_getElem hm,ih λq hq=>h q (List.mem_cons_of_mem _ hq),List.map_cons];simp [List.getD_eq_getElem?_getD,hm]
 exact this _ λm hm=>by simpa using hm
theorem uo:FnScope ["numbers","kinds","i"] ["numbers","kinds"] (ae iA):=.ck
theorem lh (D:aB K mg "planes_of" iA)(zR:mg "range"=none):OkF P w K mg base CX0 1 "planes_of" ["numbers","kinds"] (fZ K):=by
 refine D.ok uo λ_ _ _ _ _ H _ Q E hr h=>?_;obtain ⟨a,l,kinds,n,rfl,hS,hk1,hk4,hl,hn0,hn,k⟩:=h;refine ⟨_,af (ao (cz (own:=[("i",2)]) (g:=aA 2) (te:=Af K (tVar 0) (tVar 2) (tVar 1)) uo.nd (cn rfl zR (aa (pv 1) ad)) (λs H C cl fp=>pg_nameA (i:=2) uo.nd) (λs H C cl fp=>km (pv 0) (pv 2) (pv 1)))),?_⟩;refine ⟨_,rfl,((kinds:Nat):Int),rfl,by omega,by omega,λD1 hD1=>?_⟩;rw [Int.toNat_natCast];refine kO (Rx:=RowF H) Av (TW.planes kinds n l) (by simp [TW.planes]) hD1 (line_ge (by omega)) (λi y H2 Q' hi hy s2 hD2 hq=>?_) (λH2 s2 L2'=>k D1 H2 s2 hD1 L2');have hy:y=TW.pick l i kinds n:=by
  unfold TW.planes at hy;rw [List.getElem?_map,List.getElem?_range hi] at hy;exact (Option.some.inj hy).symm
 subst hy;refine ⟨rfl,_,rfl,_,rfl,_,rfl,a,_,i,kinds,rfl,by rw [Int.zero_add],rfl,by omega,s2.seq hS,λp hp=>?_⟩;rw [um hi hl hn0];exact hq p _ (same_upd hp) (iq hp hD2) ⟨upd_same,s2.free hp⟩
theorem zo:FnScope ["numbers","coded","number"] ["numbers"] (ae fQ):=.ck
theorem AA (a b:List Nat):B (a++b)=B a++B b:=by simp [B,Sp21.ints]
theorem wn (l:List Int):(cU l).length=1+2*l.length:=by
 unfold cU;rw [List.length_cons,ah (n:=2) (λz _=>rfl)];omega
theorem xE (D:aB K mg "plain_code" fQ):OkF P w K mg base CX0 1 "plain_code" ["numbers"] (rE K):=by
 refine D.ok zo λ_ _ _ _ _ H _ Q E hr h=>?_;obtain ⟨a,l,rfl,hS,hN,hl,k⟩:=h;refine ⟨_,ac (ag (i:=1) zo.nd (bD (aa pe_int ad)))
  (ac (bU PassesOwn.never rfl (aQ (pv 0)) (pg_nameA (i:=2) zo.nd)
   (ac (bd (lC PySem.F.plainAttrs_list PySem.F.slot_list_append PySem.F.type_list_append cp (pv 1) (aa (aj yb (pv 2) pe_int) ad)))
   (af (bd (lC PySem.F.plainAttrs_list PySem.F.slot_list_append PySem.F.type_list_append cp (pv 1) (aa (aj lX (pv 2) pe_int) ad))))))
  (af (ao (pv 1)))),?_⟩
 refine ⟨(by show 1<=sizeLine;decide),λc hc=>?_⟩;refine ⟨_,rfl,a,rfl,⟨_,(same_upd hc).seq hS⟩,?_⟩;refine dH (K:=K) (xs:=l.map V.int) (λi σ H2=>∃u,σ=[some (.ref a),some (.ref c),u]/\Same H H2/\H2 c=some (.lst (B (cU (l.take i))))) ⟨none,rfl,same_upd hc,upd_same⟩ (λi σ H2 _ ⟨_,_,s2,_⟩=>s2.seq hS) ?_ ?_
 ·rintro i x σ H2 hx ⟨u,rfl,s2,g2⟩;obtain ⟨z,ez,rfl⟩:=cA hx;have hz:=hN z (List.mem_of_getElem? ez);have hi:=(List.getElem?_eq_some_iff.mp ez).1;have et:l.take (i+1)=l.take i++[z]:=by rw [List.take_succ,ez];rfl
  have hlen:(cU (l.take i)).length<=2000001:=by rw [wn,List.length_take];omega
  refine ⟨_,rfl,.inl ⟨rfl,_,SqL.of g2⟩,_,rfl,_,_,rfl,rfl,c,_,_,rfl,rfl,g2,?_,?_⟩
  ·rw [f7];exact Nat.lt_of_le_of_lt hlen (Nat.lt_of_lt_of_le (show 2000001<16000000 by decide) (line_ge (Nat.le_refl _)))
  refine ⟨_,rfl,.inl ⟨rfl,_,SqL.of upd_same⟩,_,rfl,_,_,rfl,rfl,(show (0:Int)<=8 by decide),c,_,_,rfl,rfl,upd_same,?_,_,rfl,λb o e=>?_,?_⟩
  ·rw [List.length_append,f7];exact Nat.lt_of_le_of_lt (show _+1<=2000002 by omega) (Nat.lt_of_lt_of_le (show 2000002<16000000 by decide) (line_ge (Nat.le_refl _)))
  ·rw [upd_ne (ne_of_none e hc),upd_ne (ne_of_none e hc)];exact s2 _ _ e
  ·rw [upd_same,et];have e1:cU (l.take i++[z])=cU (l.take i)++[z.toNat % 256,z.toNat/256]:=by
    unfold cU;rw [List.flatMap_append,List.flatMap_singleton,yr hz];rfl
   rw [e1,AA];have e2:Builtin.bitAnd z 255=((z.toNat % 256:Nat):Int):=by rw [bitAnd_m8];omega
   have e3:z/2 ^ 8=((z.toNat/256:Nat):Int):=by omega
   rw [e2,show (8:Int).toNat=8 from rfl,e3,List.append_assoc];rfl
 ·rintro σ H2 ⟨u,rfl,s2,g2⟩;rw [List.length_map,List.take_length] at g2;exact ⟨_,rfl,k c H2 s2 hc g2⟩
theorem zp:FnScope ["numbers","kinds","width","height","levels","writer","plane","band"] ["numbers","kinds","width","height","levels"] (ae fR):=.ck
theorem dF {α β:Type}{g:α->List β}{l:List α}{i:Nat}{x:α} (h:l[i]?=some x):(l.take (i+1)).flatMap g=(l.take i).flatMap g++g x:=by
 rw [List.take_succ,h,List.flatMap_append];simp
theorem fz {α β:Type}(g:α->List β)(l:List α)(i:Nat):((l.take i).flatMap g).length<=(l.flatMap g).length:=by
 conv=>rhs;rw [<- List.take_append_drop i l]
 rw [List.flatMap_append,List.length_append];omega
theorem xF {C:Addr}(D:aB K mg "short_code" fR)(T:WriterTxt K mg C)(oI:OkM P w K mg base CX0 1 C "__init__" ["self"] (fx C))(oA:OkM P w K mg base CX0 1 C "all_bytes" ["self"] (jh C))(oP:OkF P w K mg base CX0 1 "planes_of" ["numbers","kinds"] (fZ K))(oM:OkF P w K mg base CX0 1 "mixed" ["planes"] (nX K))
  (oC:OkF P w K mg base CX0 1 "cut_rows" ["numbers","width","height"] (dE K)) (oB:OkF P w K mg base CX0 4 "bands_of" ["rows","levels"] iQ) (oT:OkF P w K mg base CX0 3 "tell_band" ["band","writer"] (jj K C)):OkF P w K mg base CX0 5 "short_code" ["numbers","kinds","width","height","levels"] (rF K):=by
 refine D.ok zp λ_ _ _ _ _ H _ Q E hr h=>?_;obtain ⟨a,l,kinds,w,h,n,rfl,hS,X,k⟩:=h;have hr1:Room 1 _:=hr.mono (by decide);have hr2:Room 2 _:=hr.mono (by decide);have hr3:Room 3 _:=hr.mono (by decide);refine ⟨_,ac (ag (i:=5) zp.nd (qY oI T.toClsIn hr2 rfl))
  (ac (bU PassesOwn.never rfl (aQ (az oM hr1 rfl (aa (az oP hr1 rfl (aa (pv 0) (aa (pv 1) ad))) ad))) (pg_nameA (i:=6) zp.nd)
   (af (bU PassesOwn.never rfl (aQ (az oB hr rfl (aa (az oC hr1 rfl (aa (pv 6) (aa (pv 2) (aa (pv 3) ad)))) (aa (pv 4) ad)))) (pg_nameA (i:=7) zp.nd)
    (af (bd (az oT hr3 rfl (aa (pv 7) (aa (pv 5) ad))))))))
  (af (ao (aj cW (bD (aa pe_int ad)) (mo oA T.cl hr1 gv (pv 5)))))),?_⟩
 obtain ⟨⟨hk1,hk4⟩,⟨hw0,hw2⟩,⟨hh0,hh2⟩,hv,hl,hN⟩:=X;have harea:w*h<=65536:=Nat.mul_le_mul hw2 hh2;have hl':l.length=kinds*(w*h):=by rw [hl,Nat.mul_assoc]
 intro x dx hx hdx hne;refine ⟨x,dx,rfl,upd_same,λd H1 hd hW kp=>⟨rfl,?_⟩⟩;have s1:Same H H1:=Same.made hx hdx kp;have hd0:H d=none:=by
  rcases e:H d with _ | o
  ·rfl
  ·have:upd (upd H dx (.own x)) x (.ins C dx []) d≠none:=by
    by_cases h1:d=x
    ·rw [h1,upd_same];simp
    ·rw [upd_ne h1];by_cases h2:d=dx
     ·rw [h2,upd_same];simp
     ·rw [upd_ne h2,e];simp
   exact absurd hd this
 refine ⟨_,rfl,_,rfl,a,l,kinds,w*h,rfl,s1.seq hS,hk1,hk4,hl',Nat.mul_pos hw0 hh0,by omega,λpl H2 s2 n2 G2=>?_⟩;refine ⟨pl,TW.planes kinds (w*h) l,w*h,H1,rfl,s2,G2,planes_length,?_,by omega,λml H3 s3 n3 G3=>?_⟩
 ·show ((List.range kinds).map _).length<=1000;rw [List.length_map,List.length_range];omega
 have hpl:=dP (cY (kinds:=kinds) (w:=w) (h:=h) hl hN);generalize hms:TW.mixed (TW.planes kinds (w*h) l)=ms at G3 hpl;have hmsl:ms.length=kinds:=by rw [<- hms,mixed_count];simp [TW.planes]
 have hbits:=kC (levels:=n) hw0 hh0 hv harea hl hN;have eB:TW.tileBits kinds w h n l=ms.flatMap λp=>(TW.tileBands n (TW.cutRows p w h) w h).flatMap (Sp21.bandBits 16 1):=by rw [<- hms];rfl
 have hbb:88*(kinds*(w*h))<=24000000:=by
  have:=Nat.mul_le_mul hk4 harea;omega
 rw [eB] at hbits k;obtain ⟨refs,g1,g2,g0,g3⟩:=id G3;have hm1:∀{b:Addr},H1 b=none->b≠x/\b≠d:=fun {b} hb=>by
  obtain ⟨_,_,_,⟨_,⟨_,w1⟩,w2⟩,_⟩:=hW;exact ⟨(ne_of_none w1 hb).symm,(ne_of_none w2 hb).symm⟩
 have mlN:H1 ml=none:=s2.free n3;refine ⟨ml,rfl,⟨_,SqL.of g1⟩,?_⟩;refine dH (K:=K) (xs:=refs.map V.ref) (λi σ H4=>∃u v,σ=[some (.ref a),some (.int kinds),some (.int w),some (.int h),some (.int n),some (.ref x),u,v]/\jM x d H3 H4/\WrAt C H4 x d ((ms.take i).flatMap λp=>(TW.tileBands n (TW.cutRows p w h) w h).flatMap (Sp21.bandBits 16 1)))
  ⟨none,none,rfl,jM.of (Same.refl _),hW.same (s2.trans s3)⟩ (λi σ H4 _ ⟨_,_,_,s4,_⟩=>SqL.of (s4 _ _ (hm1 mlN).1 (hm1 mlN).2 g1)) ?_ ?_
 ·rintro i y σ H4 hy ⟨u,v,rfl,s4,W4⟩;rw [List.getElem?_map] at hy;obtain ⟨r,er,rfl⟩:=Option.map_eq_some_iff.mp hy;have hi:i<ms.length:=by have:=(List.getElem?_eq_some_iff.mp er).1;omega
  have em:ms[i]?=some ms[i]:=List.getElem?_eq_getElem hi;obtain ⟨rr,rN⟩:=g3 i r _ er em;have rr4:=s4 _ _ (hm1 rN).1 (hm1 rN).2 rr;have hP:=hpl ms[i] (List.mem_of_getElem? em);generalize hpm:ms[i]=pm at em rr rr4 hP;refine ⟨_,rfl,_,rfl,_,rfl,r,pm,w,h,rfl,SqL.of rr4,by omega,by omega,λcr H5 s5 n5 G5=>?_⟩;refine ⟨_,rfl,cr,_,w,h,n,rfl,G5,Rect.cutRows hP.len,hw0,hh0,hw2,hh2,hv,λbl H6 s6 n6 G6=>?_⟩;obtain ⟨brefs,b1,b2,b0,b3⟩:=id G6;have s56:=s5.trans s6;have hm4:∀{b:Addr},H4 b=none->b≠x/\b≠d:=fun {b} hb=>by
   obtain ⟨_,_,_,⟨_,⟨_,w1⟩,w2⟩,_⟩:=W4;exact ⟨(ne_of_none w1 hb).symm,(ne_of_none w2 hb).symm⟩
  have blN:H4 bl=none:=s5.free n6;generalize hbs:TW.tileBands n (TW.cutRows pm w h) w h=bs at b2 b3;have hband:∀b∈bs,(∀z∈b,-(2 ^ 23)<=z/\z<2 ^ 23)/\b.length<=w*h:=λb hb=>by
   rw [<- hbs] at hb;exact ⟨hP.bands hw0 hh0 hv b hb,kB (Rect.cutRows hP.len) hw0 hh0 b hb⟩
  have hsofar:((ms.take i).flatMap λp=>(TW.tileBands n (TW.cutRows p w h) w h).flatMap (Sp21.bandBits 16 1)).length<=24000000:=Nat.le_trans (fz _ ms i) (Nat.le_trans hbits hbb);have hthis:=hP.bits_le (k:=n) hw0 hh0 hv harea;rw [hbs] at hthis;generalize hsf:((ms.take i).flatMap λp=>(TW.tileBands n (TW.cutRows p w h) w h).flatMap (Sp21.bandBits 16 1))=sf at W4 hsofar;refine ⟨bl,rfl,⟨_,SqL.of b1⟩,?_⟩;refine dH (K:=K) (xs:=brefs.map V.ref) (λj σ H7=>∃v,σ=[some (.ref a),some (.int kinds),some (.int w),some (.int h),some (.int n),some (.ref x),some (.ref r),v]/\jM x d H6 H7/\WrAt C H7 x d (sf++(bs.take j).flatMap (Sp21.bandBits 16 1)))
   ⟨v,rfl,jM.of (Same.refl _),by simpa using W4.same s56⟩ (λj σ H7 _ ⟨_,_,s7,_⟩=>SqL.of (s7 _ _ (hm4 blN).1 (hm4 blN).2 b1)) ?_ ?_
  ·rintro j y σ H7 hy ⟨v,rfl,s7,W7⟩;rw [List.getElem?_map] at hy;obtain ⟨br,ebr,rfl⟩:=Option.map_eq_some_iff.mp hy;have hj:j<bs.length:=by have:=(List.getElem?_eq_some_iff.mp ebr).1;omega
   have ebs:bs[j]?=some bs[j]:=List.getElem?_eq_getElem hj;obtain ⟨bb,bN⟩:=b3 j br _ ebr ebs;have bN4:H4 br=none:=s5.free bN;have bb7:=s7 _ _ (hm4 bN4).1 (hm4 bN4).2 bb;have hbd:=hband bs[j] (List.mem_of_getElem? ebs);have hmore:=Nat.le_trans (fz (Sp21.bandBits 16 1) bs j) hthis;refine ⟨_,rfl,_,rfl,br,x,d,_,bs[j],rfl,bb7,(hm4 bN4).1,(hm4 bN4).2,W7,hbd.1,by omega,?_,λH8 W8 s8=>?_⟩
   ·rw [List.length_append];omega
   ·refine ⟨_,rfl,s7.trans s8,?_⟩;rw [dF ebs,<- List.append_assoc];exact W8
  ·rintro σ H7 ⟨v,rfl,s7,W7⟩;rw [List.length_map,b2,List.take_length] at W7;refine ⟨_,_,rfl,λb o n1 n2 e=>s7 _ _ n1 n2 (s56 _ _ (s4 _ _ n1 n2 e)),?_⟩;rw [dF em,hsf,hbs];exact W7
 ·rintro σ H4 ⟨u,v,rfl,s4,W4⟩;rw [List.length_map,g2,List.take_length] at W4;generalize hall:(ms.flatMap λp=>(TW.tileBands n (TW.cutRows p w h) w h).flatMap (Sp21.bandBits 16 1))=al at W4 k hbits;refine ⟨(by show 1<=sizeLine;decide),λq hq=>?_⟩;have t1:=same_upd (o:=.lst [.int 1]) hq;have W5:=W4.same t1;obtain ⟨dx5,fs5,hp5,_,hno⟩:=W5.obj;refine ⟨_,rfl,x,dx5,fs5,rfl,hp5,hno,x,d,al,rfl,W5,by omega,λz H6 s6 n6 g6=>?_⟩;refine ⟨q,z,_,_,rfl,rfl,s6 _ _ upd_same,g6,?_,λp hp=>?_⟩
  ·have:((Sp21.ints (Sp21.bytesOf al)).map V.int).length=(al.length+7)/8:=by rw [List.length_map];simp [Sp21.ints,lG]
   rw [this];exact line_ge (by show 1+(al.length+7)/8<=16000000;omega)
  have sF:Same H H4:=λb o e=>by
   have n1:b≠x:=ne_of_none e hx;have n2:b≠d:=ne_of_none e hd0;exact s4 _ _ n1 n2 ((s1.trans (s2.trans s3)) _ _ e)
  refine k p _ ((sF.trans (t1.trans s6)).new hp) ((sF.trans (t1.trans s6)).free hp) ?_;rw [upd_same];rfl
theorem uq:FnScope ["numbers","kinds","width","height","levels","plain","short"] ["numbers","kinds","width","height","levels"] (ae iC):=.ck
theorem rG (D:aB K mg "tile_code" iC)(zLen:mg "len"=none)(oP:OkF P w K mg base CX0 1 "plain_code" ["numbers"] (rE K))(oS:OkF P w K mg base CX0 5 "short_code" ["numbers","kinds","width","height","levels"] (rF K)):OkF P w K mg base CX0 6 "tile_code" ["numbers","kinds","width","height","levels"] (jk K):=by
 refine D.ok uq λ_ _ _ _ _ H _ Q E hr h=>?_;obtain ⟨a,l,kinds,w,h,n,rfl,hS,X,k⟩:=h;have hr1:Room 1 _:=hr.mono (by decide);refine ⟨_,ac (ag (i:=5) uq.nd (az oP hr1 rfl (aa (pv 0) ad)))
  (ac (ag (i:=6) uq.nd (az oS hr rfl (aa (pv 0) (aa (pv 1) (aa (pv 2) (aa (pv 3) (aa (pv 4) ad)))))))
  (af (ao (mC (aC g9 (aw ak (by rfl) zLen PySem.boot_len (aa (pv 6) ad)) (aw ak (by rfl) zLen PySem.boot_len (aa (pv 5) ad)) rfl) (pv 6) (pv 5))))),?_⟩
 have hll:l.length<=262144:=by
  rw [X.hl,Nat.mul_assoc];exact Nat.mul_le_mul X.hk.2 (Nat.mul_le_mul X.hw.2 X.hh.2)
 refine ⟨_,rfl,a,l,rfl,hS,X.hn,by omega,λp1 H1 s1 n1 g1=>?_⟩;refine ⟨_,rfl,_,rfl,_,rfl,_,rfl,_,rfl,a,l,kinds,w,h,n,rfl,s1.seq hS,X,λp2 H2 s2 n2 g2=>?_⟩;have ec:Sp21.tileCode kinds w h n l=if (1::Sp21.bytesOf (TW.tileBits kinds w h n l)).length<(cU l).length then 1::Sp21.bytesOf (TW.tileBits kinds w h n l) else cU l:=gH (kinds:=kinds) (levels:=n) (l:=l) X.hw.1 X.hh.1
 refine ⟨_,rfl,p2,_,rfl,.inl (SqL.of g2),_,rfl,p1,_,rfl,.inl (SqL.of (s2 _ _ g1)),_,_,rfl,rfl,_,rfl,?_⟩;by_cases hlt:(1::Sp21.bytesOf (TW.tileBits kinds w h n l)).length<(cU l).length
 ·refine br_t (decide_eq_true (by rw [f7,f7];omega)) ⟨_,rfl,k p2 H2 (s1.trans s2) (s1.free n2) ?_⟩;rw [if_pos hlt] at ec;rw [ec];exact g2
 ·refine br_f (decide_eq_false (by rw [f7,f7];omega)) ⟨_,rfl,k p1 H2 (s1.trans s2) n1 ?_⟩;rw [if_neg hlt] at ec;rw [ec];exact s2 _ _ g1
inductive gQ (K:W.Frag)(vs:List V)(H:Hp)(Q:VK)(_e3:XK):Prop
 | mk (a:Addr) (ns:List Int):(vs=[.ref a])->(SqL K H a (ns.map V.int))->(Q (.bl (pL 0 65535 ns)) H)->gQ K vs H Q _e3
theorem rH:FnScope ["numbers"] ["numbers"] (ae fP):=.ck
theorem p8 (D:aB K mg "numbers_in_range" fP)(cH:∃t,mg "HIGHEST"=some (.int 65535 t))(oB:OkF P w K mg base CX0 1 "all_between" ["numbers","lowest","highest"] (iJ K)):OkF P w K mg base CX0 2 "numbers_in_range" ["numbers"] (gQ K):=by
 obtain ⟨t1,cH⟩:=cH;refine D.ok rH λ_ _ _ _ _ H _ Q E hr h=>?_;obtain ⟨a,ns,rfl,hS,k⟩:=h;refine ⟨_,af (ao (az oB hr rfl (aa (pv 0) (aa pe_int (aa (bj (v:=.int 65535) (by rfl) cH ⟨t1,rfl⟩) ad))))),?_⟩;exact ⟨_,rfl,a,ns,0,65535,rfl,hS,k⟩
theorem eJ (f:Int->V):∀(zs xs:List Int) (i c:Nat),setFrom (xs.map f) (zs.map f) i c=(setFrom xs zs i c).map f
 | [],_,_,_=>rfl
 | z::zs,xs,i,c=>by
  show setFrom ((xs.map f).set i (f z)) (zs.map f) (i+c) c=(setFrom (xs.set i z) zs (i+c) c).map f;rw [<- List.map_set,eJ f zs]
theorem xG {row ev od:List Int}(h1:ev.length=(row.length+1)/2)(h2:od.length=row.length/2) :
  setFrom (setFrom row ev 0 2) od 1 2=(List.range row.length).map λi=>if i % 2=0 then ev.getD (i/2) 0 else od.getD (i/2) 0:=by
 apply List.ext_getElem?;intro j;rw [setFrom_get (by decide),setFrom_get (by decide),setFrom_length];by_cases hj:j<row.length
 ·rw [List.getElem?_map,List.getElem?_range hj];by_cases hp:j % 2=0
  ·rw [if_neg (by omega),if_pos (by omega)];have:(j-0)/2<ev.length:=by omega
   rw [List.getElem?_eq_getElem this];simp only [Option.map_some,if_pos hp,Nat.sub_zero];rw [aP]
  ·rw [if_pos (by omega)];have:(j-1)/2<od.length:=by omega
   rw [List.getElem?_eq_getElem this];simp only [Option.map_some,if_neg hp];rw [aP,show (j-1)/2=j/2 by omega]
 ·rw [if_neg (by omega),if_neg (by omega),List.getElem?_eq_none (by omega),List.getElem?_eq_none (by simp;omega)]
theorem zq:FnScope ["row","cut","differences","evens","rights","odds","whole","s","lift","d","left","right"] ["row"] (ae iu):=.ck
theorem rJ (D:aB K mg "whole_row" iu)(zLen:mg "len"=none)(zList:mg "list"=none)(zZip:mg "zip"=none)(oH:OkF P w K mg base CX0 1 "half" ["n"] pS)
  (oR:OkF P w K mg base CX0 1 "right_of_odds" ["evens","count"] (nJ K)) (oL:OkF P w K mg base CX0 1 "lifts" ["differences"] nK) :
  OkF P w K mg base CX0 2 "whole_row" ["row"] (dD K):=by
 refine D.ok zq λ_ _ _ _ _ H _ Q E hr h=>?_;obtain ⟨a,row,rfl,hS,hl,k⟩:=h;have hz:=line_ge (n:=8000001) (by omega);refine ⟨_,ac (di (aC g9 (aw ak (by rfl) zLen PySem.boot_len (aa (pv 0) ad)) pe_int (cK _))
   (af (ao (cP bL (by rfl) zList boot_list (aa (pv 0) ad)))) bc)
  (ac (ag (i:=1) zq.nd (az oH hr rfl (aa (aw ak (by rfl) zLen PySem.boot_len (aa (pv 0) ad)) ad)))
  (ac (ag (i:=2) zq.nd (aD aR (pv 0) (aI (pv 1)) bo))
  (ac (aY (i:=3) (own:=[("s",7),("lift",8)]) (g:=gTup K 2 (bp (aA 7) (bp (aA 8) gNil))) zq.nd (ib rfl zZip (aa (aD aR (pv 0) bo (aI (pv 1))) (aa (az oL hr rfl (aa (pv 2) ad)) ad))) (λs H C cl fp=>bT rfl (am (pg_nameA (i:=7) zq.nd) (am (pg_nameA (i:=8) zq.nd) bn))) (λs H C cl fp=>aj bK (pv 7) (pv 8)))
  (ac (ag (i:=4) zq.nd (az oR hr rfl (aa (pv 3) (aa (aw ak (by rfl) zLen PySem.boot_len (aa (pv 2) ad)) ad))))
  (ac (aY (i:=5) (own:=[("d",9),("left",10),("right",11)]) (g:=gTup K 3 (bp (aA 9) (bp (aA 10) (bp (aA 11) gNil)))) zq.nd (qF rfl zZip (aa (pv 2) (aa (pv 3) (aa (pv 4) ad)))) (λs H C cl fp=>bT rfl (am (pg_nameA (i:=9) zq.nd) (am (pg_nameA (i:=10) zq.nd) (am (pg_nameA (i:=11) zq.nd) bn)))) (λs H C cl fp=>aj aO (pv 9) (aj eU (aj aO (pv 10) (pv 11)) pe_int)))
  (ac (ag (i:=6) zq.nd (cP bL (by rfl) zList boot_list (aa (pv 0) ad)))
  (ac (rX (pv 3) (qC (pv 6) pe_int pe_int))
  (ac (rX (pv 5) (qC (pv 6) pe_int pe_int))
  (af (ao (pv 6))))))))))),?_⟩
 refine ⟨_,rfl,a,_,rfl,.inl hS,_,_,rfl,rfl,_,rfl,ite2 (λc1=>?_) (λc1=>?_)⟩
 ·have c2:row.length<2:=by have:=of_decide_eq_true c1;rw [List.length_map] at this;omega
  refine ⟨_,rfl,a,_,rfl,.inl hS,λl hl2=>k l _ (same_upd hl2) hl2 ?_⟩;rw [upd_same];unfold TW.ig;rw [if_pos c2]
 ·have c2:¬row.length<2:=by intro z;refine c1 (decide_eq_true ?_);rw [List.length_map];omega
  refine ⟨_,rfl,a,_,rfl,.inl hS,_,rfl,?_⟩;have ec:(((row.map V.int).length:Int)+1)/2=(((row.length+1)/2:Nat):Int):=by rw [List.length_map];omega
  rw [ec];refine ⟨_,rfl,_,rfl,_,rfl,a,_,rfl,hS,λp1 hp1=>?_⟩;rw [jQ];have s1:=same_upd (o:=.lst ((row.drop ((row.length+1)/2)).map V.int)) hp1;generalize hdf:row.drop ((row.length+1)/2)=df at s1 ⊢;have ldf:df.length=row.length/2:=by rw [<- hdf,List.length_drop];omega
  refine ⟨_,rfl,_,rfl,_,rfl,a,_,rfl,s1.seq hS,λp2 hp2=>?_⟩;rw [sI];have s2:=s1.new (o:=.lst ((row.take ((row.length+1)/2)).map V.int)) hp2;generalize htk:row.take ((row.length+1)/2)=tk at s2 ⊢;have ltk:tk.length=(row.length+1)/2:=by rw [<- htk,List.length_take];omega
  have g12:(upd (upd H p1 (.lst (df.map V.int))) p2 (.lst (tk.map V.int))) p1=some (.lst (df.map V.int)):=by rw [upd_ne (ne_of_none upd_same hp2)];exact upd_same
  have g22:(upd (upd H p1 (.lst (df.map V.int))) p2 (.lst (tk.map V.int))) p2=some (.lst (tk.map V.int)):=upd_same;generalize upd (upd H p1 (.lst (df.map V.int))) p2 (.lst (tk.map V.int))=H2 at s2 g12 g22 ⊢;refine ⟨_,rfl,p1,df,rfl,g12,by omega,λp3 H3 s3 n3 g3=>?_⟩;have g13:=s3 _ _ g12;have g23:=s3 _ _ g22;refine ⟨p2,p3,_,_,rfl,SqL.of g23,SqL.of g3,λp4 hp4=>?_⟩;refine i4 (λx l=>x-l) hp4 (SqL.of g23) (SqL.of g3) (by omega) (λu v T H' Q' hT _ hq=>?_) (λH4 s4 g4=>?_)
  ·exact ⟨T,_,rfl,SqT.of upd_same,rfl,_,_,rfl,_,_,rfl,rfl,rfl,_,rfl,_,rfl,_,_,rfl,rfl,hq _ (same_upd hT)⟩
  ·have lev:((tk.zip (TW.kr df)).map λp=>p.1-p.2).length=(row.length+1)/2:=by
    rw [List.length_map,List.length_zip,cX,if_neg (by omega)];omega
   generalize hev:((tk.zip (TW.kr df)).map λp=>p.1-p.2)=ev at g4 lev;have g14:=s4 _ _ g13;refine ⟨_,rfl,_,rfl,p1,_,rfl,.inl (SqL.of g14),p4,ev,df.length,(by rw [List.length_map];rfl),SqL.of g4,by omega,by omega,λp5 H5 s5 n5 g5=>?_⟩;have g15:=s5 _ _ g14;have g45:=s5 _ _ g4;have lri:(aE ev df.length).length=df.length:=bF (by omega) (by omega) (by omega);refine ⟨_,rfl,_,rfl,_,rfl,p1,p4,p5,_,_,_,rfl,SqL.of g15,SqL.of g45,SqL.of g5,λp6 hp6=>?_⟩;refine mL (λx l r=>x+(l+r)/2) hp6 (SqL.of g15) (SqL.of g45) (SqL.of g5) (by omega) (λu v z T H' Q' hT _ hq=>?_) (λH6 s6 g6=>?_)
   ·exact ⟨T,_,rfl,SqT.of upd_same,rfl,_,_,rfl,_,_,rfl,_,_,rfl,rfl,rfl,_,rfl,_,rfl,_,rfl,_,_,rfl,rfl,_,_,rfl,rfl,⟨by decide,by decide⟩,_,_,rfl,rfl,hq _ (same_upd hT)⟩
   ·have lod:((df.zip (ev.zip (aE ev df.length))).map λp=>p.1+(p.2.1+p.2.2)/2).length=row.length/2:=by
     rw [List.length_map,List.length_zip,List.length_zip,lri];omega
    generalize hod:((df.zip (ev.zip (aE ev df.length))).map λp=>p.1+(p.2.1+p.2.2)/2)=od at g6 lod;have sA:=((s2.trans s3).trans s4).trans (s5.trans s6);have g46:=s6 _ _ g45;refine ⟨_,rfl,a,_,rfl,.inl (sA.seq hS),λp7 hp7=>?_⟩;have n67:p6≠p7:=ne_of_none g6 hp7;have n47:p4≠p7:=ne_of_none g46 hp7;refine ⟨_,rfl,_,rfl,p7,p4,_,_,0,2,rfl,rfl,rfl,rfl,by decide,Nat.zero_le _,upd_same,SqL.of (by rw [upd_ne n47];exact g46),(by rw [List.length_map,List.length_map];omega),(by rw [List.length_map,List.length_map];omega),?_⟩;rw [eJ];refine ⟨_,rfl,_,rfl,p7,p6,_,_,1,2,rfl,rfl,rfl,rfl,by decide,(by rw [List.length_map,setFrom_length];omega),upd_same,SqL.of (by rw [upd_ne n67,upd_ne n67];exact g6),(by rw [List.length_map,List.length_map,setFrom_length];omega),(by rw [List.length_map,List.length_map,setFrom_length];omega),?_⟩;rw [eJ,xG lev lod];refine ⟨_,rfl,k p7 _ (λb o e=>?_) (sA.free hp7) ?_⟩
    ·have nb:=ne_of_none (sA _ _ e) hp7;rw [upd_ne nb,upd_ne nb,upd_ne nb];exact sA _ _ e
    ·rw [upd_same];unfold TW.ig;rw [if_neg c2];simp only [hdf,htk,hev,hod]
inductive eK (vs:List V)(H:Hp)(Q:VK)(_e3:XK):Prop
 | mk (a:Addr) (g:List (List Int)) (w h:Nat):(vs=[.ref a])->(GridAt H a g)->(Rect g w h)->(0<w)->(0<h)->(w<=65536)->(h<=65536)->(AnsG H (TW.wholeCorner g) Q)->eK vs H Q _e3
theorem nZ:FnScope ["rows","columns","row","column"] ["rows"] (ae c7):=.ck
theorem lJ (D:aB K mg "whole_corner" c7)(oT:OkF P w K mg base CX0 2 "turned" ["rows"] jZ)(oW:OkF P w K mg base CX0 2 "whole_row" ["row"] (dD K)):OkF P w K mg base CX0 3 "whole_corner" ["rows"] eK:=by
 refine D.ok nZ λ_ _ _ _ _ H _ Q E hr h=>?_;obtain ⟨a,g,w,h,rfl,G,R,hw,hh,hw6,hh6,k⟩:=h;refine ⟨_,ac (ag (i:=1) nZ.nd (az oT hr rfl (aa (pv 0) ad)))
  (af (ao (cz (own:=[("row",2)]) (g:=aA 2) (te:=iY (dD K) [] E0 (dI (tVar 2) tNil)) nZ.nd (aQ (az oT hr rfl (aa (Ac (own:=[("column",3)]) (g:=aA 3) (te:=iY (dD K) [] E0 (dI (tVar 3) tNil)) rfl nZ.nd (aQ (pv 1)) (h7 (by kernel_rfl)) (λs H C cl fp=>pg_nameA (i:=3) nZ.nd) (λs H C cl fp=>ke)
    (λs H C cl fp=>az oW hr (by rfl) (aa (pv 3) ad))) ad))) (λs H C cl fp=>pg_nameA (i:=2) nZ.nd) (λs H C cl fp=>az oW hr (by rfl) (aa (pv 2) ad))))),?_⟩
 have whole_of:∀{gg:List (List Int)}{w' h':Nat},Rect gg w' h'->Rect (gg.map Sp21.whole) w' h':=λRR=>RR.map Sp21.whole λl hl=>by rw [jy,hl]
 refine ⟨_,rfl,a,g,w,h,rfl,G,R,hh,hw6,hh6,λc1 H1 s1 n1 L1=>?_⟩;have R1:=R.turn hh;obtain ⟨refs,q1,q2,q0,q3⟩:=id L1;refine ⟨_,rfl,c1,rfl,⟨_,SqL.of q1⟩,λD2 hD2=>?_⟩;refine fN dY ((Sp21.turn g).map Sp21.whole) (by rw [List.length_map,List.length_map,q2]) hD2 (SqL.of q1) (by rw [List.length_map,q2,R1.1];exact line_ge (by omega)) (λj x y H2 Q' hx hy s2 hD2' hq=>?_) (λH2 s2 L2'=>?_)
 ·rw [List.getElem?_map] at hx hy;obtain ⟨r,er,rfl⟩:=Option.map_eq_some_iff.mp hx;obtain ⟨row,eg,rfl⟩:=Option.map_eq_some_iff.mp hy;have hlr:=R1.2 row (List.mem_of_getElem? eg);refine ⟨rfl,_,rfl,r,row,rfl,SqL.of (s2 _ _ (q3 j r row er eg)),by omega,λp H3 s3 n3 h3=>hq p H3 s3 (iq n3 hD2') ?_⟩;rw [ku] at h3;exact h3
 ·refine ⟨D2,_,h,w,rfl,L2',whole_of R1,hw,hh6,hw6,λc2 H3 s3 n3 L3=>?_⟩;have R3:=(whole_of R1).turn hw;obtain ⟨refs3,p1,p2,p0,p3⟩:=id L3;refine ⟨c2,rfl,⟨_,SqL.of p1⟩,λD4 hD4=>?_⟩;refine fN dY ((Sp21.turn ((Sp21.turn g).map Sp21.whole)).map Sp21.whole) (by rw [List.length_map,List.length_map,p2]) hD4 (SqL.of p1) (by rw [List.length_map,p2,R3.1];exact line_ge (by omega)) (λj x y H5 Q' hx hy s5 hD5 hq=>?_) (λH5 s5 L5=>?_)
  ·rw [List.getElem?_map] at hx hy;obtain ⟨r,er,rfl⟩:=Option.map_eq_some_iff.mp hx;obtain ⟨row,eg,rfl⟩:=Option.map_eq_some_iff.mp hy;have hlr:=R3.2 row (List.mem_of_getElem? eg);refine ⟨rfl,_,rfl,r,row,rfl,SqL.of (s5 _ _ (p3 j r row er eg)),by omega,λp H6 s6 n6 h6=>hq p H6 s6 (iq n6 hD5) ?_⟩;rw [ku] at h6;exact h6
  ·have sA:=(s1.trans s2).trans s3;exact k D4 H5 (sA.trans s5) (sA.free hD4) L5
inductive eL (vs:List V)(H:Hp)(Q:VK)(_e3:XK):Prop
 | mk (w h k:Nat):(vs=[.int w,.int h,.int k])->(0<w)->(0<h)->(w<=256)->(h<=256)->(k<=5)->(Ans H ((Sp21.ints (TW.bandLens k w h)).map V.int) Q)->eL vs H Q _e3
inductive n9 (K:W.Frag)(vs:List V)(H:Hp)(Q:VK)(_e3:XK):Prop
 | mk (a b t:Addr) (c ar:List (List Int)) (w h:Nat):(vs=[.ref a,.ref b,.ref t])->(GridAt H a c)->(GridAt H b ar)->(gm H t (w,h))->(0<w)->(0<h)->(w<=256)->(h<=256)->(Rect c (Sp21.up w) (Sp21.up h))->(3<=ar.length)->((ar.getD 0 []).length=(w-Sp21.up w)*Sp21.up h)->((ar.getD 1 []).length=Sp21.up w*(h-Sp21.up h))->((ar.getD 2 []).length=(w-Sp21.up w)*(h-Sp21.up h))->(AnsG H (TW.joinG c ar w h) Q)->n9 K vs H Q _e3
inductive oa (K:W.Frag)(vs:List V)(H:Hp)(Q:VK)(_e3:XK):Prop
 | mk (a:Addr) (bs:List (List Int)) (w h k:Nat):(vs=[.ref a,.int w,.int h,.int k])->(GridAt H a bs)->(bs.map (·.length)=TW.bandLens k w h)->(0<w)->(0<h)->(w<=256)->(h<=256)->(k<=5)->(AnsG H (TW.rowsOf k bs w h) Q)->oa K vs H Q _e3
theorem p9 {k w h i:Nat}(hi:i<=k):(bI k w h)[i]?=some (Sp21.last i w h):=by
 unfold bI;rw [List.getElem?_map,List.getElem?_range (by omega)];rfl
theorem qa {K:W.Frag}{tg:TG}{te:TE}{ws:List Nat}{σ:L2.St}{H1:Hp}{D a b:Addr}{Qd:Hp->Prop}{c1 c2:List (List Int)} (hD:H1 D=none) (G1:GridAt H1 a c1) (G2:GridAt H1 b c2) (hz:c1.length<=sizeLine)
  (hs:∀(r1 r2:Addr) (u v:List Int) (T:Addr) (H:Hp) (Q':VK),H T=none->u∈c1->v∈c2->dX (upd H T (.tup [.ref r1,.ref r2])) r1 u->dX (upd H T (.tup [.ref r1,.ref r2])) r2 v->(∀p,upd H T (.tup [.ref r1,.ref r2]) p=none->Q' (.ref p) (upd (upd H T (.tup [.ref r1,.ref r2])) p (.lst (u.map V.int++v.map V.int))))->tg (.ref T) (wipe σ ws) (upd H T (.tup [.ref r1,.ref r2])) λσ2 H2=>wipe σ2 ws=wipe σ ws/\te σ2 H2 Q')
  (hd:∀H,Same H1 H->GridAt H D ((c1.zip c2).map λx=>x.1++x.2)->Qd H) :
  lcW (Itz K a b) tg tYes te ws σ D Qd H1:=by
 obtain ⟨refs1,a1,a2,a0,a3⟩:=G1;obtain ⟨refs2,b1,b2,b0,b3⟩:=G2;refine y3 dY ((c1.zip c2).map λx=>x.1++x.2) (by rw [List.length_map,List.length_zip,List.length_map,List.length_map,a2,b2]) hD (SqL.of a1) (SqL.of b1) (by rw [List.length_map,a2];exact hz) (λi x y z T H Q' ex ey ez hT s hD' hq=>?_) hd;rw [List.getElem?_map] at ex ey ez;obtain ⟨r1,e1,rfl⟩:=Option.map_eq_some_iff.mp ex;obtain ⟨r2,e2,rfl⟩:=Option.map_eq_some_iff.mp ey;obtain ⟨⟨u,v⟩,e3,rfl⟩:=Option.map_eq_some_iff.mp ez;obtain ⟨eu,ev⟩:=(List.getElem?_zip_eq_some (z:=(u,v))).mp e3;have sT:=same_upd (o:=.tup [.ref r1,.ref r2]) hT;refine hs r1 r2 u v T H Q' hT (List.mem_of_getElem? eu) (List.mem_of_getElem? ev) (sT _ _ (s _ _ (a3 i r1 u e1 eu))) (sT _ _ (s _ _ (b3 i r2 v e2 ev))) λp hp=>hq p _ (sT.new hp) ?_ ?_
 ·obtain ⟨o,ho⟩:=hD';exact (ne_of_none (sT _ _ ho) hp).symm
 ·show upd _ _ _ _=_;rw [upd_same,List.map_append]
theorem og:FnScope ["width","height","levels","sizes","lengths","level","inner","right","below"] ["width","height","levels"] (ae c8):=.ck
theorem lK (D:aB K mg "band_lengths" c8)(zR:mg "range"=none)(oS:OkF P w K mg base CX0 2 "corner_sizes" ["width","height","levels"] kX):OkF P w K mg base CX0 3 "band_lengths" ["width","height","levels"] eL:=by
 refine D.ok og λ_ _ _ _ _ H _ Q E hr h=>?_;obtain ⟨w,h,n,rfl,hw,hh,hw2,hh2,hn,k⟩:=h;refine ⟨_,ac (ag (i:=3) og.nd (az oS hr rfl (aa (pv 0) (aa (pv 1) (aa (pv 2) ad)))))
  (ac (ag (i:=4) og.nd (bD (aa (aj be (aq bV (aq ay (pv 3) (pv 2)) pe_int) (aq bV (aq ay (pv 3) (pv 2)) pe_int)) ad)))
  (ac (bU PassesOwn.never rfl (ia rfl zR (aa (aj bK (pv 2) pe_int) (aa (j6 eV pe_int) (aa (j6 eV pe_int) ad)))) (pg_nameA (i:=5) og.nd)
   (ac (ag (i:=6) og.nd (aq ay (pv 3) (aj aO (pv 5) pe_int)))
   (ac (ag (i:=7) og.nd (aj bK (aq bV (aq ay (pv 3) (pv 5)) pe_int) (aq bV (pv 6) pe_int)))
   (ac (ag (i:=8) og.nd (aj bK (aq bV (aq ay (pv 3) (pv 5)) pe_int) (aq bV (pv 6) pe_int)))
   (af (bd (lC PySem.F.plainAttrs_list PySem.F.slot_list_extend PySem.F.type_list_extend o6 (pv 4) (aa (bD (aa (aj be (pv 7) (aq bV (pv 6) pe_int)) (aa (aj be (aq bV (pv 6) pe_int) (pv 8)) (aa (aj be (pv 7) (pv 8)) ad)))) ad))))))))
  (af (ao (pv 4))))),?_⟩
 refine ⟨_,rfl,_,rfl,_,rfl,w,h,n,rfl,hn,λz H1 s1 n1 L1=>?_⟩;obtain ⟨refs,g1,g2,g0,g3⟩:=id L1;have hl:refs.length=n+1:=by rw [g2];simp [bI]
 have at_:∀{i:Nat} (hi:i<=n),atI (refs.map V.ref) (i:Int)=some (.ref refs[i])/\gm H1 refs[i] (Sp21.last i w h):=fun {i} hi=>by
  have er:refs[i]?=some refs[i]:=List.getElem?_eq_getElem (by omega);exact ⟨eY (by rw [List.getElem?_map,er];rfl),g3 i _ _ er (p9 hi)⟩
 obtain ⟨an,sn⟩:=at_ (Nat.le_refl n);have ll:=last_le n hw hh;refine ⟨_,rfl,_,rfl,z,_,_,_,rfl,rfl,SqL.of g1,an,refs[n],_,_,_,rfl,rfl,SqT.of sn,bx (j:=0) rfl rfl,_,rfl,_,rfl,z,_,_,_,rfl,rfl,SqL.of g1,an,refs[n],_,_,_,rfl,rfl,SqT.of sn,bx (j:=1) rfl rfl,_,_,rfl,rfl,.inl ⟨by omega,by omega⟩,(by show 1<=sizeLine;decide),λc hc=>?_⟩;have t0:=same_upd (o:=.lst [.int (((Sp21.last n w h).1:Int)*((Sp21.last n w h).2:Int))]) hc;refine ⟨_,rfl,_,_,rfl,rfl,_,rfl,_,rfl,_,_,_,_,rfl,RgC.neg (by omega) (by omega) (by decide) (by decide),?_⟩;have en:((n:Int)-1 - -1).toNat=n:=by omega
 rw [en];refine fI (λj σ H3=>∃u v x y,σ=[some (.int w),some (.int h),some (.int n),some (.ref z),some (.ref c),u,v,x,y]/\Same H1 H3/\H3 c=some (.lst ((Sp21.ints (TW.bandLens j (Sp21.last (n-j) w h).1 (Sp21.last (n-j) w h).2)).map V.int))) ⟨none,none,none,none,rfl,t0,?_⟩ ?_ ?_
 ·rw [upd_same];show _=some (HO.lst [V.int (((Sp21.last n w h).1*(Sp21.last n w h).2:Nat):Int)]);rw [Int.natCast_mul]
 ·rintro j σ H3 hj ⟨u,v,x,y,rfl,s3,q3⟩;have el:(n:Int)-1+(j:Int)*-1=((n-1-j:Nat):Int):=by omega
  rw [el];have ej:n-j=n-1-j+1:=by omega
  rw [ej] at q3;have ej2:n-(j+1)=n-1-j:=by omega
  rw [ej2];obtain ⟨a0,z0⟩:=at_ (show n-1-j<=n by omega);obtain ⟨a1,z1⟩:=at_ (show n-1-j+1<=n by omega);generalize hri:refs[n-1-j]=r0 at a0 z0;generalize hrj:refs[n-1-j+1]=r1 at a1 z1;have ls:=fq (n-1-j) w h;have ll:=last_le (n-1-j) hw hh;rw [ls] at z1 q3;clear hri hrj;generalize n-1-j=i at *;generalize hA:(Sp21.last i w h).1=A0 at *;generalize hB:(Sp21.last i w h).2=B0 at *;have ua:=up_le ll.1;have ub:=up_le ll.2.1;have z0:gm H1 r0 (A0,B0):=by
   have:Sp21.last i w h=(A0,B0):=by rw [<- hA,<- hB]
   rw [this] at z0;exact z0
  refine ⟨_,rfl,_,rfl,_,_,rfl,rfl,z,_,_,_,rfl,rfl,SqL.of (s3 _ _ g1),a1,?_⟩;have y0:=SqT.of (K:=K) (s3 _ _ z0);have y1:=SqT.of (K:=K) (s3 _ _ z1);have y2:=SqL.of (K:=K) (s3 _ _ g1);refine ⟨_,rfl,_,rfl,z,_,_,_,rfl,rfl,y2,a0,r0,_,_,_,rfl,rfl,y0,bx (j:=0) rfl rfl,_,rfl,r1,_,_,_,rfl,rfl,y1,bx (j:=0) rfl rfl,_,_,rfl,rfl,?_⟩;refine ⟨_,rfl,_,rfl,z,_,_,_,rfl,rfl,y2,a0,r0,_,_,_,rfl,rfl,y0,bx (j:=1) rfl rfl,_,rfl,r1,_,_,_,rfl,rfl,y1,bx (j:=1) rfl rfl,_,_,rfl,rfl,?_⟩;refine ⟨_,rfl,.inl ⟨rfl,_,SqL.of q3⟩,?_⟩;refine ⟨_,rfl,_,rfl,r1,_,_,_,rfl,rfl,y1,bx (j:=1) rfl rfl,_,_,rfl,rfl,.inl ⟨by dsimp only;omega,by dsimp only;omega⟩,_,rfl,r1,_,_,_,rfl,rfl,y1,bx (j:=0) rfl rfl,_,rfl,_,_,rfl,rfl,.inl ⟨by dsimp only;omega,by dsimp only;omega⟩,_,rfl,_,rfl,_,_,rfl,rfl,.inl ⟨by dsimp only;omega,by dsimp only;omega⟩,(by show 3<=sizeLine;decide),λq hq=>?_⟩;refine ⟨c,q,_,_,rfl,rfl,(same_upd hq) _ _ q3,upd_same,?_,_,_,_,_,rfl,λb o e=>?_,?_⟩
  ·rw [List.length_map];have:(Sp21.ints (TW.bandLens j (Sp21.up A0) (Sp21.up B0))).length=1+3*j:=by unfold Sp21.ints;rw [List.length_map,aN]
   rw [this];exact line_ge (by show 1+3*j+3<=16000000;omega)
  ·rw [upd_ne (ne_of_none e hc)];exact (same_upd hq) _ _ (s3 _ _ e)
  ·rw [upd_same];show _=some (HO.lst ((Sp21.ints (TW.bandLens j (Sp21.up A0) (Sp21.up B0)++[(A0-Sp21.up A0)*Sp21.up B0,Sp21.up A0*(B0-Sp21.up B0),(A0-Sp21.up A0)*(B0-Sp21.up B0)])).map V.int));have eA:(A0:Int)-(Sp21.up A0:Int)=((A0-Sp21.up A0:Nat):Int):=by omega
   have eB:(B0:Int)-(Sp21.up B0:Int)=((B0-Sp21.up B0:Nat):Int):=by omega
   dsimp only;rw [eA,eB];simp [Sp21.ints,Int.natCast_mul]
 ·rintro σ H3 ⟨u,v,x,y,rfl,s3,q3⟩;rw [Nat.sub_self] at q3;exact ⟨_,rfl,k c H3 (s1.trans s3) (s1.free hc) q3⟩
theorem xH:FnScope ["corner","around","size","inner","right","below","rights_above","lefts_below","rights_below","above","left","beside"] ["corner","around","size"] (ae ni):=.ck
theorem wo (D:aB K mg "joined" ni)(zLen:mg "len"=none)(zZ:mg "zip"=none)(oC:OkF P w K mg base CX0 1 "cut_rows" ["numbers","width","height"] (dE K)):OkF P w K mg base CX0 2 "joined" ["corner","around","size"] (n9 K):=by
 refine D.ok xH λ_ _ _ _ _ H _ Q E hr h=>?_;obtain ⟨a,b,t,c,ar,w,h,rfl,G,GA,hT,hw,hh,hw2,hh2,R,h3,e0,e1,e2,k⟩:=h;refine ⟨_,ac (ag (i:=3) xH.nd (aw ak (by rfl) zLen PySem.boot_len (aa (aq ay (pv 0) pe_int) ad)))
  (ac (ag (i:=4) xH.nd (aj bK (aq bV (pv 2) pe_int) (pv 3)))
  (ac (ag (i:=5) xH.nd (aj bK (aq bV (pv 2) pe_int) (aw ak (by rfl) zLen PySem.boot_len (aa (pv 0) ad))))
  (ac (ag (i:=6) xH.nd (az oC hr rfl (aa (aq ay (pv 1) pe_int) (aa (pv 4) (aa (aw ak (by rfl) zLen PySem.boot_len (aa (pv 0) ad)) ad)))))
  (ac (ag (i:=7) xH.nd (az oC hr rfl (aa (aq ay (pv 1) pe_int) (aa (pv 3) (aa (pv 5) ad)))))
  (ac (ag (i:=8) xH.nd (az oC hr rfl (aa (aq ay (pv 1) pe_int) (aa (pv 4) (aa (pv 5) ad)))))
  (ac (aY (i:=9) (own:=[("left",10),("beside",11)]) (g:=gTup K 2 (bp (aA 10) (bp (aA 11) gNil))) (te:=tOp rCat (tVar 10) (tVar 11)) xH.nd (ib rfl zZ (aa (pv 0) (aa (pv 6) ad))) (λs H C cl fp=>bT rfl (am (pg_nameA (i:=10) xH.nd) (am (pg_nameA (i:=11) xH.nd) bn))) (λs H C cl fp=>aj cW (pv 10) (pv 11)))
  (af (ao (aj cW (pv 9) (cz (own:=[("left",10),("beside",11)]) (g:=gTup K 2 (bp (aA 10) (bp (aA 11) gNil))) (te:=tOp rCat (tVar 10) (tVar 11)) xH.nd (ib rfl zZ (aa (pv 7) (aa (pv 8) ad))) (λs H C cl fp=>bT rfl (am (pg_nameA (i:=10) xH.nd) (am (pg_nameA (i:=11) xH.nd) bn))) (λs H C cl fp=>aj cW (pv 10) (pv 11)))))))))))),?_⟩
 obtain ⟨refs,g1,g2,g0,g3⟩:=id G;obtain ⟨brefs,b1,b2,b0,b3⟩:=id GA;have uw:=up_le hw;have uh:=up_le hh;have pw:=up_pos hw;have ph:=up_pos hh;have hc0:0<c.length:=by rw [R.1];exact ph
 have er:refs[0]?=some refs[0]:=List.getElem?_eq_getElem (by omega);have r0:=g3 0 refs[0] _ er (cx hc0);have l0:(c.getD 0 []).length=Sp21.up w:=R.row ph;have eW:(w:Int)-(Sp21.up w:Int)=((w-Sp21.up w:Nat):Int):=by omega
 have eH:(h:Int)-(Sp21.up h:Int)=((h-Sp21.up h:Nat):Int):=by omega
 have clen:((refs.map V.ref).length:Int)=((Sp21.up h:Nat):Int):=by rw [List.length_map,g2,R.1]
 have ba:∀{i:Nat} (hi:i<3),atI (brefs.map V.ref) ((i:Nat):Int)=some (.ref brefs[i])/\dX H brefs[i] (ar.getD i []):=fun {i} hi=>by
  have e:brefs[i]?=some brefs[i]:=List.getElem?_eq_getElem (by omega);exact ⟨eY (by rw [List.getElem?_map,e];rfl),b3 i _ _ e (cx (by omega))⟩
 obtain ⟨x0,y0⟩:=ba (i:=0) (by decide);obtain ⟨x1,y1⟩:=ba (i:=1) (by decide);obtain ⟨x2,y2⟩:=ba (i:=2) (by decide);have lc1:∀{l:List Int}{x y:Nat},∀r∈TW.cutRows l x y,r.length<=x:=fun {l x y} r hr=>by
  unfold TW.cutRows at hr;obtain ⟨i,_,rfl⟩:=List.mem_map.mp hr;rw [List.length_take];omega
 refine ⟨_,rfl,a,_,_,_,rfl,rfl,SqL.of g1,bx (j:=0) rfl (by rw [List.getElem?_map,er];rfl),refs[0],_,rfl,.inl (SqL.of r0),?_⟩;rw [List.length_map,l0];refine ⟨_,rfl,t,_,_,_,rfl,rfl,SqT.of hT,bx (j:=0) rfl rfl,_,rfl,_,_,rfl,rfl,?_⟩;dsimp only;rw [eW];refine ⟨_,rfl,t,_,_,_,rfl,rfl,SqT.of hT,bx (j:=1) rfl rfl,_,rfl,a,_,rfl,.inl (SqL.of g1),_,_,rfl,rfl,?_⟩;dsimp only;rw [clen,eH];refine ⟨_,rfl,b,_,_,_,rfl,rfl,SqL.of b1,x0,_,rfl,_,rfl,a,_,rfl,.inl (SqL.of g1),brefs[0],ar.getD 0 [],w-Sp21.up w,Sp21.up h,by rw [clen];rfl,SqL.of y0,by omega,by omega,λp1 H1 s1 n1 L1=>?_⟩;refine ⟨_,rfl,b,_,_,_,rfl,rfl,SqL.of (s1 _ _ b1),x1,_,rfl,_,rfl,brefs[1],ar.getD 1 [],Sp21.up w,h-Sp21.up h,rfl,SqL.of (s1 _ _ y1),by omega,by omega,λp2 H2 s2 n2 L2'=>?_⟩;have s12:=s1.trans s2;refine ⟨_,rfl,b,_,_,_,rfl,rfl,SqL.of (s12 _ _ b1),x2,_,rfl,_,rfl,brefs[2],ar.getD 2 [],w-Sp21.up w,h-Sp21.up h,rfl,SqL.of (s12 _ _ y2),by omega,by omega,λp3 H3 s3 n3 L3=>?_⟩;have s123:=s12.trans s3;have G3:=G.same bB s123;have L13:=L1.same bB (s2.trans s3);have L23:=L2'.same bB s3;obtain ⟨_,z1,_⟩:=id G3;obtain ⟨_,z2,_⟩:=id L13;refine ⟨_,rfl,_,rfl,a,p1,_,_,rfl,SqL.of z1,SqL.of z2,λD1 hD1=>?_⟩;refine qa hD1 G3 L13 (by rw [R.1];exact line_ge (by omega)) (λr1 r2 u v T Hx Q' hT hu hv h1 h2 hq=>?_) (λH4 s4 L4=>?_)
 ·have:=R.2 u hu;have:=lc1 v hv;exact ⟨T,_,rfl,SqT.of upd_same,rfl,_,_,rfl,_,_,rfl,rfl,rfl,_,rfl,_,rfl,r1,r2,_,_,rfl,rfl,h1,h2,by rw [List.length_map,List.length_map];exact line_ge (by omega),hq⟩
 have L24:=L23.same bB s4;have L34:=L3.same bB s4;obtain ⟨_,z3,_⟩:=id L24;obtain ⟨_,z4,_⟩:=id L34;refine ⟨_,rfl,_,rfl,_,rfl,p2,p3,_,_,rfl,SqL.of z3,SqL.of z4,λD2 hD2=>?_⟩;refine qa hD2 L24 L34 (by show ((List.range _).map _).length<=_;rw [List.length_map,List.length_range];exact line_ge (by omega)) (λr1 r2 u v T Hx Q' hT hu hv h1 h2 hq=>?_) (λH5 s5 L5=>?_)
 ·have:=lc1 u hu;have:=lc1 v hv;exact ⟨T,_,rfl,SqT.of upd_same,rfl,_,_,rfl,_,_,rfl,rfl,rfl,_,rfl,_,rfl,r1,r2,_,_,rfl,rfl,h1,h2,by rw [List.length_map,List.length_map];exact line_ge (by omega),hq⟩
 have L45:=L4.same bB s5;obtain ⟨ra,u1,u2,u0,u3⟩:=id L45;obtain ⟨rb,v1,v2,v0,v3⟩:=id L5;refine ⟨D1,D2,_,_,rfl,rfl,u1,v1,?_,λp hp=>?_⟩
 ·rw [List.length_map,List.length_map,u2,v2,List.length_map,List.length_map,List.length_zip,List.length_zip];have:(TW.cutRows (ar.getD 1 []) (Sp21.up w) (h-Sp21.up h)).length=h-Sp21.up h:=by simp [TW.cutRows]
  rw [this,R.1];exact line_ge (by omega)
 have sA:=(s123.trans s4).trans s5;have s6:=same_upd (o:=.lst (ra.map V.ref++rb.map V.ref)) hp;refine k p _ (sA.trans s6) (sA.free hp) ?_;exact ListOf.cat u2 v2 (eG u2 u3 hp) (eG v2 v3 hp) (λi r x e1 e2=>s6 _ _ (u3 i r x e1 e2)) (λi r x e1 e2=>s6 _ _ (v3 i r x e1 e2)) upd_same
theorem eM:∀(n j w h:Nat),j<=n->(TW.bandLens n w h).take (1+3*j)=TW.bandLens j (Sp21.last (n-j) w h).1 (Sp21.last (n-j) w h).2
 | 0,j,w,h,hj=>by
  have:j=0:=by omega
  subst this;rfl
 | n+1,j,w,h,hj=>by
  by_cases e:j=n+1
  ·subst e;rw [Nat.sub_self,List.take_of_length_le (by rw [aN];omega)];rfl
  ·have ih:=eM n j (Sp21.up w) (Sp21.up h) (by omega);show ((TW.bandLens n (Sp21.up w) (Sp21.up h))++_).take (1+3*j)=_;rw [List.take_append_of_le_length (by rw [aN];omega),ih,show n+1-j=(n-j)+1 by omega];rfl
theorem xI (l:List V)(i n:Nat):cutV l (some (i:Int)) (some ((i+n:Nat):Int))=(l.drop i).take n:=by
 unfold cutV;rw [HT.sIx_nat,HT.sIx_nat];by_cases h:i<=l.length
 ·rw [Nat.min_eq_left h];by_cases h2:i+n<=l.length
  ·rw [Nat.min_eq_left h2,Nat.add_sub_cancel_left]
  ·rw [Nat.min_eq_right (by omega),List.take_of_length_le (by simp),List.take_of_length_le (by simp;omega)]
 ·rw [Nat.min_eq_right (a:=i) (b:=l.length) (by omega),List.drop_eq_nil_of_le (by simp),List.drop_eq_nil_of_le (by omega)];simp
theorem xJ:FnScope ["bands","width","height","levels","sizes","corner","level","first"] ["bands","width","height","levels"] (ae nj):=.ck
theorem wp (D:aB K mg "rows_of" nj)(zR:mg "range"=none)(oS:OkF P w K mg base CX0 2 "corner_sizes" ["width","height","levels"] kX)(oC:OkF P w K mg base CX0 1 "cut_rows" ["numbers","width","height"] (dE K))(oW:OkF P w K mg base CX0 3 "whole_corner" ["rows"] eK)
  (oJ:OkF P w K mg base CX0 2 "joined" ["corner","around","size"] (n9 K)):OkF P w K mg base CX0 4 "rows_of" ["bands","width","height","levels"] (oa K):=by
 refine D.ok xJ λ_ _ _ _ _ H _ Q E hr h=>?_;obtain ⟨a,bs,w,h,n,rfl,G,hL,hw,hh,hw2,hh2,hn,k⟩:=h;have hr1:Room 1 _:=hr.mono (by decide);have hr2:Room 2 _:=hr.mono (by decide);refine ⟨_,ac (ag (i:=4) xJ.nd (az oS hr2 rfl (aa (pv 1) (aa (pv 2) (aa (pv 3) ad)))))
  (ac (ag (i:=5) xJ.nd (az oC hr1 rfl (aa (aq ay (pv 0) pe_int) (aa (aq bV (aq ay (pv 4) (pv 3)) pe_int) (aa (aq bV (aq ay (pv 4) (pv 3)) pe_int) ad)))))
  (ac (bU PassesOwn.never rfl (ia rfl zR (aa (aj bK (pv 3) pe_int) (aa (j6 eV pe_int) (aa (j6 eV pe_int) ad)))) (pg_nameA (i:=6) xJ.nd)
   (ac (ag (i:=7) xJ.nd (aj aO pe_int (aj be pe_int (aj bK (aj bK (pv 3) pe_int) (pv 6)))))
   (af (ag (i:=5) xJ.nd (az oW hr rfl (aa (az oJ hr2 rfl (aa (pv 5) (aa (aD aR (pv 0) (aI (pv 7)) (aI (aj aO (pv 7) pe_int))) (aa (aq ay (pv 4) (pv 6)) ad)))) ad))))))
  (af (ao (pv 5))))),?_⟩
 obtain ⟨brefs,b1,b2,b0,b3⟩:=id G;have hbl:bs.length=1+3*n:=by
  have:=congrArg List.length hL;rw [List.length_map,aN] at this;exact this
 refine ⟨_,rfl,_,rfl,_,rfl,w,h,n,rfl,hn,λz H1 s1 n1 L1=>?_⟩;obtain ⟨refs,g1,g2,g0,g3⟩:=id L1;have hl:refs.length=n+1:=by rw [g2];simp [bI]
 have at_:∀{i:Nat} (hi:i<=n),atI (refs.map V.ref) (i:Int)=some (.ref refs[i])/\gm H1 refs[i] (Sp21.last i w h):=fun {i} hi=>by
  have er:refs[i]?=some refs[i]:=List.getElem?_eq_getElem (by omega);exact ⟨eY (by rw [List.getElem?_map,er];rfl),g3 i _ _ er (p9 hi)⟩
 obtain ⟨an,sn⟩:=at_ (Nat.le_refl n);have ll:=last_le n hw hh;have eb:brefs[0]?=some brefs[0]:=List.getElem?_eq_getElem (by omega);have rb:=s1 _ _ (b3 0 brefs[0] _ eb (cx (by omega)));refine ⟨_,rfl,a,_,_,_,rfl,rfl,SqL.of (s1 _ _ b1),bx (j:=0) rfl (by rw [List.getElem?_map,eb];rfl),_,rfl,_,rfl,z,_,_,_,rfl,rfl,SqL.of g1,an,refs[n],_,_,_,rfl,rfl,SqT.of sn,bx (j:=0) rfl rfl,_,rfl,_,rfl,z,_,_,_,rfl,rfl,SqL.of g1,an,refs[n],_,_,_,rfl,rfl,SqT.of sn,bx (j:=1) rfl rfl,brefs[0],bs.getD 0 [],(Sp21.last n w h).1,(Sp21.last n w h).2,rfl,SqL.of rb,by omega,by omega,λc0 H2 s2 n2 L2'=>?_⟩;refine ⟨_,rfl,_,_,rfl,rfl,_,rfl,_,rfl,_,_,_,_,rfl,RgC.neg (by omega) (by omega) (by decide) (by decide),?_⟩;have en:((n:Int)-1 - -1).toNat=n:=by omega
 rw [en];refine fI (λj σ H3=>∃c u v,σ=[some (.ref a),some (.int w),some (.int h),some (.int n),some (.ref z),some (.ref c),u,v]/\Same H2 H3/\GridAt H3 c (TW.rowsOf j (bs.take (1+3*j)) (Sp21.last (n-j) w h).1 (Sp21.last (n-j) w h).2)/\H c=none) ⟨c0,none,none,rfl,Same.refl _,?_,s1.free n2⟩ ?_ ?_
 ·show GridAt H2 c0 (TW.cutRows ((bs.take (1+3*0)).getD 0 []) (Sp21.last (n-0) w h).1 (Sp21.last (n-0) w h).2);rw [Nat.sub_zero];have:(bs.take (1+3*0)).getD 0 []=bs.getD 0 []:=by
   cases bs with
   | nil=>rfl
   | cons x r=>rfl
  rw [this];exact L2'
 ·rintro j σ H3 hj ⟨c,u,v,rfl,s3,G3,cN⟩;have el:(n:Int)-1+(j:Int)*-1=((n-1-j:Nat):Int):=by omega
  rw [el];have ej:n-j=n-1-j+1:=by omega
  have ej2:n-(j+1)=n-1-j:=by omega
  have hpre:=eM n (j+1) w h (by omega);have hpre0:=eM n j w h (by omega);rw [<- hL,<- List.map_take] at hpre hpre0;rw [ej2] at hpre ⊢;rw [ej] at G3 hpre0;obtain ⟨a0,z0⟩:=at_ (show n-1-j<=n by omega);generalize hri:refs[n-1-j]=r0 at a0 z0;have ls:=fq (n-1-j) w h;have ll:=last_le (n-1-j) hw hh;rw [ls] at G3 hpre0;have efirst:(1:Int)+3*((n:Int)-1-((n-1-j:Nat):Int))=((1+3*j:Nat):Int):=by omega
  clear hri el ej ej2;generalize n-1-j=i at *;have z0:gm H1 r0 ((Sp21.last i w h).1,(Sp21.last i w h).2):=z0;generalize hA:(Sp21.last i w h).1=A0 at *;generalize hB:(Sp21.last i w h).2=B0 at *;dsimp only at G3 hpre0;have R0:=rowsOf_rect j hpre0 (up_pos ll.1) (up_pos ll.2.1);have ua:=up_le ll.1;have ub:=up_le ll.2.1;refine ⟨_,rfl,_,_,rfl,rfl,_,rfl,_,_,rfl,rfl,_,_,rfl,rfl,.inl ⟨by decide,by decide⟩,_,_,rfl,rfl,?_⟩;dsimp only;rw [efirst];refine ⟨_,rfl,_,rfl,_,rfl,_,rfl,_,rfl,_,_,rfl,rfl,_,rfl,a,_,rfl,SqL.of ((s1.trans (s2.trans s3)) _ _ b1),λq hq=>?_⟩;rw [show ((1+3*j:Nat):Int)+3=((1+3*j+3:Nat):Int) by omega,xI,<- List.map_drop,<- List.map_take];have sH3:Same H H3:=s1.trans (s2.trans s3);have t1:=same_upd (o:=.lst (((brefs.drop (1+3*j)).take 3).map V.ref)) hq;have GQ:GridAt (upd H3 q (.lst (((brefs.drop (1+3*j)).take 3).map V.ref))) q ((bs.drop (1+3*j)).take 3) :=
   ListOf.part (H:=H) b1 b2 (λr hr=>by
    obtain ⟨i',hi',rfl⟩:=List.getElem_of_mem hr;exact ne_of_none (sH3 _ _ (b3 i' _ _ (List.getElem?_eq_getElem hi') (List.getElem?_eq_getElem (by omega)))) hq) b3 (λr x _ hx=>t1 _ _ (sH3 _ _ hx)) (1+3*j) 3 upd_same
  have e3:(bs.drop (1+3*j)).take 3=(bs.take (1+3*(j+1))).drop (1+3*j):=by
   rw [List.drop_take,show 1+3*(j+1)-(1+3*j)=3 by omega]
  have m3:((bs.drop (1+3*j)).take 3).map (·.length)=[(A0-Sp21.up A0)*Sp21.up B0,Sp21.up A0*(B0-Sp21.up B0),(A0-Sp21.up A0)*(B0-Sp21.up B0)]:=by
   rw [e3,List.map_drop,hpre];show (TW.bandLens j (Sp21.up A0) (Sp21.up B0)++_).drop (1+3*j)=_;rw [List.drop_left' (aN _ _ _)]
  have l3:((bs.drop (1+3*j)).take 3).length=3:=by
   have:=congrArg List.length m3;rw [List.length_map] at this;exact this
  have f0:(((bs.drop (1+3*j)).take 3).getD 0 []).length=(A0-Sp21.up A0)*Sp21.up B0:=by rw [aV,m3];rfl
  have f1:(((bs.drop (1+3*j)).take 3).getD 1 []).length=Sp21.up A0*(B0-Sp21.up B0):=by rw [aV,m3];rfl
  have f2:(((bs.drop (1+3*j)).take 3).getD 2 []).length=(A0-Sp21.up A0)*(B0-Sp21.up B0):=by rw [aV,m3];rfl
  have s4:=s3.new (o:=.lst (((brefs.drop (1+3*j)).take 3).map V.ref)) hq;have s14:=s2.trans s4;refine ⟨_,rfl,_,rfl,z,_,_,_,rfl,rfl,SqL.of (s14 _ _ g1),a0,c,q,r0,_,_,A0,B0,rfl,G3.same bB t1,GQ,s14 _ _ z0,ll.1,ll.2.1,by omega,by omega,R0,by omega,f0,f1,f2,λjd H4 s5 n5 L5=>?_⟩;refine ⟨jd,_,A0,B0,rfl,L5,mi R0 ll.1 ll.2.1 f0 f1 f2,ll.1,ll.2.1,by omega,by omega,λwc H5 s6 n6 L6=>?_⟩;refine ⟨wc,_,_,rfl,s4.trans (s5.trans s6),?_,(sH3.trans (t1.trans s5)).free n6⟩;have etake:(bs.take (1+3*(j+1))).take (1+3*j)=bs.take (1+3*j):=by rw [List.take_take,Nat.min_eq_left (by omega)]
  show GridAt H5 wc (TW.wholeCorner (TW.joinG (TW.rowsOf j ((bs.take (1+3*(j+1))).take (1+3*j)) (Sp21.up A0) (Sp21.up B0)) ((bs.take (1+3*(j+1))).drop (1+3*j)) A0 B0));rw [etake,<- e3];exact L6
 ·rintro σ H3 ⟨c,u,v,rfl,s3,G3,cN⟩;rw [Nat.sub_self,List.take_of_length_le (by omega)] at G3;exact ⟨_,rfl,k c H3 (s1.trans (s2.trans s3)) cN G3⟩
def bJ (t:Addr)(p r h:Int):List (Str×V):=[("told",.ref t),("place",.int p),("rest",.int r),("held",.int h)]
theorem rK (t:Addr)(p r h:Int):putF "held" (.int h) (putF "rest" (.int r) (putF "place" (.int p) (putF "told" (.ref t) [])))=bJ t p r h:=by kernel_rfl
theorem wq (t:Addr)(p r h v:Int):putF "place" (.int v) (bJ t p r h)=bJ t v r h:=by kernel_rfl
theorem qb (t:Addr)(p r h v:Int):putF "rest" (.int v) (bJ t p r h)=bJ t p v h:=by kernel_rfl
theorem qd (t:Addr)(p r h v:Int):putF "held" (.int v) (bJ t p r h)=bJ t p r v:=by kernel_rfl
theorem my (t:Addr)(p r h:Int):(bJ t p r h).lookup ("told":Str)=some (.ref t):=by kernel_rfl
theorem jl (t:Addr)(p r h:Int):(bJ t p r h).lookup ("place":Str)=some (.int p):=by kernel_rfl
theorem jm (t:Addr)(p r h:Int):(bJ t p r h).lookup ("rest":Str)=some (.int r):=by kernel_rfl
theorem dG (t:Addr)(p r h:Int):(bJ t p r h).lookup ("held":Str)=some (.int h):=by kernel_rfl
theorem cV (t:Addr)(p r h:Int):(bJ t p r h).length<1000:=by show 4<1000;decide
structure ReaderTxt (K:W.Frag)(mg:Str->Option Value)(C:Addr):Prop extends ClsIn K mg "BitReader" C where
 nt:bg K C "told"
 np:bg K C "place"
 nr:bg K C "rest"
 nh:bg K C "held"
structure RdB (told:List Nat)(place rest held:Nat)(b:List Nat):Prop where
 le:place<=told.length
 lt:rest<2 ^ held
 bits:b=Sp21.bitsOf held rest++(told.drop place).flatMap (Sp21.bitsOf 8)
 byte:∀x∈told,x<256
theorem RdB.length {told:List Nat}{place rest held:Nat}{b:List Nat} (h:RdB told place rest held b):b.length=held+8*(told.length-place):=by
 rw [h.bits,List.length_append,bitsOf_length,eZ,List.length_drop]
theorem RdB.more {told:List Nat}{place rest held:Nat}{b:List Nat} (h:RdB told place rest held b) (hp:place<told.length):RdB told (place+1) (rest*2 ^ 8+told.getD place 0) (held+8) b where
 le:=hp
 lt:=by
  have hx:told.getD place 0<256:=h.byte _ (by rw [List.getD_eq_getElem?_getD,List.getElem?_eq_getElem hp];exact List.getElem_mem hp);have:=h.lt;have e:2 ^ (held+8)=2 ^ held*256:=by rw [Nat.pow_add]
  have:(rest+1)*256<=2 ^ held*256:=Nat.mul_le_mul_right _ this;omega
 bits:=by
  have hx:told.getD place 0<2 ^ 8:=h.byte _ (by rw [List.getD_eq_getElem?_getD,List.getElem?_eq_getElem hp];exact List.getElem_mem hp);rw [cJ _ _ _ _ hx,h.bits,List.append_assoc];congr 1;rw [List.drop_eq_getElem_cons hp,List.flatMap_cons];congr 2;simp [List.getD_eq_getElem?_getD,hp]
 byte:=h.byte
theorem RdB.take {told:List Nat}{place rest held many:Nat}{b:List Nat} (h:RdB told place rest held b) (hm:many<=held):RdB told place (rest % 2 ^ (held-many)) (held-many) (b.drop many)/\Sp21.value (b.take many)=rest/2 ^ (held-many):=by
 have ec:Sp21.bitsOf held rest=Sp21.bitsOf many (rest/2 ^ (held-many))++Sp21.bitsOf (held-many) (rest % 2 ^ (held-many)):=by
  rw [<- i5,show many+(held-many)=held by omega]
 have hb:b=Sp21.bitsOf many (rest/2 ^ (held-many))++(Sp21.bitsOf (held-many) (rest % 2 ^ (held-many))++(told.drop place).flatMap (Sp21.bitsOf 8)):=by
  rw [h.bits,ec,List.append_assoc]
 refine ⟨⟨h.le,Nat.mod_lt _ (Nat.two_pow_pos _),?_,h.byte⟩,?_⟩
 ·rw [hb,List.drop_left' (bitsOf_length _ _)]
 ·rw [hb,List.take_left' (bitsOf_length _ _),bu];rw [Nat.div_lt_iff_lt_mul (Nat.two_pow_pos _),<- Nat.pow_add,show many+(held-many)=held by omega];exact h.lt
def RdIs (C:Addr)(H:Hp)(p t:Addr)(told:List Nat)(place rest held:Nat):Prop:=(∃dx,H p=some (.ins C dx (bJ t place rest held)))/\H t=some (.lst (B told))
inductive RdAt (C:Addr)(H:Hp)(p t:Addr)(b:List Nat):Prop
 | mk (told place rest held):(RdIs C H p t told place rest held)->(RdB told place rest held b)->RdAt C H p t b
theorem RdAt.same {C:Addr}{H H':Hp}{p t:Addr}{b:List Nat} (h:RdAt C H p t b) (s:Same H H'):RdAt C H' p t b:=by
 obtain ⟨told,place,rest,held,⟨⟨dx,h1⟩,h2⟩,h3⟩:=h;exact ⟨told,place,rest,held,⟨⟨dx,s _ _ h1⟩,s _ _ h2⟩,h3⟩
theorem RdAt.obj {C:Addr}{H:Hp}{p t:Addr}{b:List Nat} (h:RdAt C H p t b):∃dx fs,H p=some (.ins C dx fs)/\fs.lookup ("hear":Str)=none:=by
 obtain ⟨told,place,rest,held,⟨⟨dx,h1⟩,h2⟩,h3⟩:=h;exact ⟨dx,_,h1,(by kernel_rfl)⟩
abbrev fA (p:Addr)(H H':Hp):Prop:=∀b o,H b=some o->b≠p->H' b=some o
inductive fB (C:Addr)(vs:List V)(H:Hp)(Q:VK)(_e3:XK):Prop
 | mk (p dx t:Addr) (told:List Nat):(vs=[.ref p,.ref t])->(H p=some (.ins C dx []))->(H t=some (.lst (B told)))->((∀x∈told,x<256))->(∀H',RdAt C H' p t (told.flatMap (Sp21.bitsOf 8))->fA p H H'->Q .non H')->fB C vs H Q _e3
inductive wu (C CN:Addr)(vs:List V)(H:Hp)(Q:VK)(E:XK):Prop
 | mk (p t:Addr) (b:List Nat) (many:Nat):(vs=[.ref p,.int many])->(RdAt C H p t b)->(many<=900000)->(b.length<=900000)->((many<=b.length->∀H',RdAt C H' p t (b.drop many)->fA p H H'->Q (.int (Sp21.value (b.take many):Nat)) H'))->((b.length<many->∀H',E (.ref CN) none H'))->wu C CN vs H Q E
theorem qf:FnScope ["self","told"] ["self","told"] (ae eC):=.ck
theorem oh {C:Addr}(D:bW K C "__init__" "BitReader.__init__" eC)(T:ReaderTxt K mg C):OkM P w K mg base CX0 1 C "__init__" ["self","told"] (fB C):=by
 refine D.ok qf λ_ _ _ _ _ H _ Q E hr h=>?_;obtain ⟨p,dx,t,told,rfl,hp,ht,hb,k⟩:=h;have hpt:t≠p:=λz=>by rw [z,hp] at ht;cases ht
 refine ⟨_,ac (bC (pv 0) (pv 1) rfl) (ac (bC (pv 0) pe_int rfl) (ac (bC (pv 0) pe_int rfl) (af (bC (pv 0) pe_int rfl)))),?_⟩;refine ⟨_,rfl,_,rfl,p,C,dx,_,rfl,hp,T.cl,T.nt,by decide,?_⟩;refine ⟨_,rfl,p,C,dx,_,rfl,upd_same,T.cl,T.np,bP (aL (Nat.le_refl 0)),?_⟩;refine ⟨_,rfl,p,C,dx,_,rfl,upd_same,T.cl,T.nr,bP (aL (aL (Nat.le_refl 0))),?_⟩;refine ⟨_,rfl,p,C,dx,_,rfl,upd_same,T.cl,T.nh,bP (aL (aL (aL (Nat.le_refl 0)))),?_⟩;refine k _ ⟨told,0,0,0,⟨⟨dx,?_⟩,?_⟩,⟨Nat.zero_le _,by decide,rfl,hb⟩⟩ λb o e hb=>?_
 ·rw [upd_same,rK];rfl
 ·rw [upd_ne hpt,upd_ne hpt,upd_ne hpt,upd_ne hpt];exact ht
 ·rw [upd_ne hb,upd_ne hb,upd_ne hb,upd_ne hb];exact e
theorem AB:FnScope ["self","many","value"] ["self","many"] (ae xn):=.ck
theorem zr {C CN:Addr}(D:bW K C "hear" "BitReader.hear" xn)(T:ReaderTxt K mg C)(zLen:mg "len"=none)(cN:ExcAt K mg "NotACode" CN):OkM P w K mg base (CX1 P w) 1 C "hear" ["self","many"] (wu C CN):=by
 refine D.okx AB λ_ _ _ _ _ H _ Q E hr h X hX=>?_;subst hX;obtain ⟨p,t,b,many,rfl,hR,hm,hb,k1,k2⟩:=h;refine ⟨_,ac (vL λhfr=>g7 (dw au hfr) (aC g9 (ap (pv 0) rfl) (pv 1) rfl)
   (ac (di (aC qv (ap (pv 0) rfl) (aw ak (by rfl) zLen PySem.boot_len (aa (ap (pv 0) rfl) ad)) rfl) (af (cj au rfl rfl cN)) bc)
   (ac (bC (pv 0) (aj yA (aj yN (ap (pv 0) rfl) pe_int) (aq ay (ap (pv 0) rfl) (ap (pv 0) rfl))) rfl)
   (ac (bq (pv 0) pe_int oV) (af (bq (pv 0) pe_int oV))))))
  (ac (bq (pv 0) (pv 1) yf)
  (ac (ag (i:=2) AB.nd (aj lX (ap (pv 0) rfl) (ap (pv 0) rfl)))
  (ac (bq (pv 0) (aj bK (aj eP pe_int (ap (pv 0) rfl)) pe_int) yo)
  (af (ao (pv 2)))))),?_⟩
 obtain ⟨told,place,rest,held,⟨⟨dx,hp⟩,ht⟩,hB⟩:=hR;have hpt:t≠p:=λz=>by rw [z,hp] at ht;cases ht
 refine ⟨λm σ H2=>∃(place rest held:Nat) (dx:Addr),m=told.length-place/\σ=[some (.ref p),some (.int many),none]/\H2 p=some (.ins C dx (bJ t place rest held))/\H2 t=some (.lst (B told))/\RdB told place rest held b/\fA p H H2,⟨_,place,rest,held,dx,rfl,rfl,hp,ht,hB,λb o e _=>e⟩,?_⟩;clear hp ht hB dx place rest held;rintro m σ H2 ⟨place,rest,held,dx,rfl,rfl,hp,ht,hB,s2⟩;have hlen:=hB.length;refine ⟨_,rfl,p,C,dx,_,_,rfl,hp,T.cl,T.nh,dG _ _ _ _,_,rfl,_,_,rfl,rfl,_,rfl,?_⟩;by_cases hlt:held<many
 ·refine br_t (decide_eq_true (by omega)) ⟨λσ H3=>σ=[some (.ref p),some (.int many),none]/\∃dx,place<told.length/\H3 p=some (.ins C dx (bJ t ((place+1:Nat):Int) ((rest*2 ^ 8+told.getD place 0:Nat):Int) ((held+8:Nat):Int)))/\H3 t=some (.lst (B told))/\fA p H H3,?_,?_⟩
  ·rintro σ' H' ⟨rfl,dx',hpl,a1,a2,a3⟩;exact ⟨told.length-(place+1),by omega,place+1,_,held+8,dx',rfl,rfl,a1,a2,hB.more hpl,a3⟩
  ·refine ⟨_,rfl,p,C,dx,_,_,rfl,hp,T.cl,T.np,jl _ _ _ _,_,rfl,p,C,dx,_,_,rfl,hp,T.cl,T.nt,my _ _ _ _,t,_,rfl,.inl (SqL.of ht),rfl,_,rfl,?_⟩;by_cases hpl:place=told.length
   ·refine br_t (decide_eq_true (by rw [f7,hpl])) ?_;exact k2 (by omega) _
   ·have hpl2:place<told.length:=by have:=hB.le;omega
    refine br_f (decide_eq_false (by rw [f7];intro z;exact hpl (by have:=V.int.inj z;omega))) ?_;have hbits:(Builtin.Int.intBits (rest:Int):Int)+8<=2 ^ 27:=by
     have:=intBits_le (a:=(rest:Int)) (k:=held) (by rw [Int.natAbs_natCast];exact hB.lt);omega
    have hx:told.getD place 0<2 ^ 8:=hB.byte _ (by rw [List.getD_eq_getElem?_getD,List.getElem?_eq_getElem hpl2];exact List.getElem_mem hpl2);refine ⟨_,rfl,p,C,dx,_,_,rfl,hp,T.cl,T.nr,jm _ _ _ _,_,_,rfl,rfl,⟨by decide,hbits⟩,_,rfl,p,C,dx,_,_,rfl,hp,T.cl,T.nt,my _ _ _ _,_,rfl,p,C,dx,_,_,rfl,hp,T.cl,T.np,jl _ _ _ _,t,_,_,_,rfl,rfl,SqL.of ht,eY (y6 hpl2),_,_,rfl,rfl,_,rfl,p,C,dx,_,rfl,hp,T.cl,T.nr,cV _ _ _ _,?_⟩;dsimp only;rw [show (8:Int).toNat=8 from rfl,wg hx,qb];refine ⟨_,rfl,p,C,dx,_,_,rfl,upd_same,T.cl,T.np,jl _ _ _ _,_,_,rfl,rfl,dx,_,upd_same,cV _ _ _ _,?_⟩;rw [wq];refine ⟨_,rfl,p,C,dx,_,_,rfl,upd_same,T.cl,T.nh,dG _ _ _ _,_,_,rfl,rfl,dx,_,upd_same,cV _ _ _ _,rfl,dx,hpl2,?_,?_,λb o e hb=>?_⟩
    ·rw [upd_same,qd];rfl
    ·rw [upd_ne hpt,upd_ne hpt,upd_ne hpt];exact ht
    ·rw [upd_ne hb,upd_ne hb,upd_ne hb];exact s2 _ _ e hb
 ·refine br_f (decide_eq_false (by omega)) ?_;obtain ⟨hB2,hval⟩:=hB.take (many:=many) (by omega);have hheld:held<=b.length:=by omega
  refine ⟨_,rfl,p,C,dx,_,_,rfl,hp,T.cl,T.nh,dG _ _ _ _,_,rfl,_,_,rfl,rfl,dx,_,hp,cV _ _ _ _,?_⟩;rw [qd,show (held:Int)-(many:Int)=((held-many:Nat):Int) by omega];refine ⟨_,rfl,p,C,dx,_,_,rfl,upd_same,T.cl,T.nr,jm _ _ _ _,_,rfl,p,C,dx,_,_,rfl,upd_same,T.cl,T.nh,dG _ _ _ _,_,_,rfl,rfl,by omega,?_⟩;dsimp only;rw [Int.toNat_natCast,wj,<- hval];refine ⟨_,rfl,p,C,dx,_,_,rfl,upd_same,T.cl,T.nr,jm _ _ _ _,_,rfl,p,C,dx,_,_,rfl,upd_same,T.cl,T.nh,dG _ _ _ _,_,_,rfl,rfl,⟨by omega,by omega,by decide⟩,_,_,rfl,rfl,_,_,rfl,rfl,dx,_,upd_same,cV _ _ _ _,_,rfl,?_⟩;refine k1 (by omega) _ ⟨told,place,_,_,⟨⟨dx,?_⟩,?_⟩,hB2⟩ λb o e hb=>?_
  ·rw [upd_same,qb,Int.toNat_natCast,rq,nT]
  ·rw [upd_ne hpt,upd_ne hpt];exact ht
  ·rw [upd_ne hb,upd_ne hb];exact s2 _ _ e hb
def hearM (k:Nat)(b:List Nat):Option (Nat×List Nat) :=
 let q:=((b.take 24).takeWhile λ(x:Nat)=>x==1).length
 let r:=if q=24 then b.drop 24 else b.drop (q+1)
 let s:=if q=24 then 24 else k
 if b.length<q+1\/r.length<s then none
 else some (if q=24 then Sp21.value (r.take 24) else q*2 ^ k+Sp21.value (r.take k),r.drop s)
theorem yu (k:Nat)(b:List Nat):TW.hear k b=(hearM k b).map λx=>(Sp21.size1 x.1,x.2):=by
 unfold TW.hear hearM;dsimp only;generalize ((b.take 24).takeWhile λ(x:Nat)=>x==1).length=q;by_cases c:b.length<q+1\/(if q=24 then b.drop 24 else b.drop (q+1)).length<(if q=24 then 24 else k)
 ·rw [if_pos c,if_pos c];rfl
 ·rw [if_neg c,if_neg c];rfl
theorem li {b:List Nat}{q:Nat} (hq:q<=24) (h:b.take q=List.replicate q 1) (hs:q=24\/∀x,b[q]?=some x->x≠1):((b.take 24).takeWhile λx=>x==1).length=q:=by
 have e:b.take 24=List.replicate q 1++(b.drop q).take (24-q):=by
  rw [<- h,<- List.take_add,show q+(24-q)=24 by omega]
 rw [e,List.takeWhile_append_of_pos (by intro x hx;rw [(List.mem_replicate.mp hx).2];rfl),List.length_append,List.length_replicate];have:((b.drop q).take (24-q)).takeWhile (λx=>x==1)=[]:=by
  rcases hs with rfl | hs
  ·simp
  ·cases hd:b.drop q with
   | nil=>simp
   | cons x t =>
    have hx:b[q]?=some x:=by
     have:=List.getElem?_drop (xs:=b) (i:=q) (j:=0);rw [hd] at this;simpa using this.symm
    have hx1:=hs x hx;cases e2:24-q with
    | zero=>simp
    | succ m =>
     rw [List.take_succ_cons,List.takeWhile_cons_of_neg (by simpa using hx1)]
 rw [this];rfl
theorem rL {k q:Nat}{b:List Nat} (hq:q<24) (h:b.take q=List.replicate q 1) (hl:b.length<=q):hearM k b=none:=by
 have e:=li (b:=b) (q:=q) (by omega) h (.inr λx hx=>by rw [List.getElem?_eq_none hl] at hx;cases hx);unfold hearM;dsimp only;rw [e,if_pos (.inl (by omega))]
theorem wv {k q x:Nat}{b:List Nat} (hq:q<24) (h:b.take q=List.replicate q 1) (hx:b[q]?=some x) (hx1:x≠1):hearM k b=if (b.drop (q+1)).length<k then none else some (q*2 ^ k+Sp21.value ((b.drop (q+1)).take k),(b.drop (q+1)).drop k):=by
 have e:=li (b:=b) (q:=q) (by omega) h (.inr λy hy=>by rw [hx] at hy;cases hy;exact hx1);have hl:=(List.getElem?_eq_some_iff.mp hx).1;unfold hearM;dsimp only;rw [e,if_neg (show ¬q=24 by omega),if_neg (show ¬q=24 by omega),if_neg (show ¬q=24 by omega)];by_cases hk:(b.drop (q+1)).length<k
 ·rw [if_pos hk,if_pos (.inr hk)]
 ·rw [if_neg hk,if_neg (by omega)]
theorem ur {k:Nat}{b:List Nat} (h:b.take 24=List.replicate 24 1):hearM k b=if (b.drop 24).length<24 then none else some (Sp21.value ((b.drop 24).take 24),(b.drop 24).drop 24):=by
 have e:=li (b:=b) (q:=24) (by omega) h (.inl rfl);unfold hearM;dsimp only;rw [e,if_pos rfl,if_pos rfl,if_pos rfl];have hl:24<=b.length:=by
  have:=congrArg List.length h;rw [List.length_take,List.length_replicate] at this;omega
 by_cases hk:(b.drop 24).length<24
 ·rw [if_pos hk,if_pos (.inr hk)]
 ·rw [if_neg hk];by_cases h25:b.length<24+1
  ·rw [List.length_drop] at hk;omega
  ·rw [if_neg (by omega)]
theorem oi {k m T:Nat}{b r:List Nat} (hb:∀x∈b,x<2) (hT:b.length<=T) (h:hearM k b=some (m,r)):m<2 ^ (T+5)/\r.length<=b.length/\∀x∈r,x∈b:=by
 unfold hearM at h;dsimp only at h;have hq:((b.take 24).takeWhile λ(x:Nat)=>x==1).length<=24:=Nat.le_trans (List.takeWhile_prefix _).length_le (by rw [List.length_take];omega);generalize ((b.take 24).takeWhile λ(x:Nat)=>x==1).length=q at h hq;have p5:2 ^ (T+5)=2 ^ T*32:=by rw [Nat.pow_add]
 by_cases h24:q=24
 ·rw [if_pos h24,if_pos h24,if_pos h24] at h;split at h
  ·cases h
  ·rename_i hn;cases h;have hv:=dS (l:=(b.drop 24).take 24) λy hy=>hb y (List.mem_of_mem_drop (List.mem_of_mem_take hy));have hl:((b.drop 24).take 24).length<=T:=by rw [List.length_take,List.length_drop];omega
   have:=Nat.pow_le_pow_right (show 0<2 by decide) hl;refine ⟨by omega,by rw [List.length_drop,List.length_drop];omega,λx hx=>List.mem_of_mem_drop (List.mem_of_mem_drop hx)⟩
 ·rw [if_neg h24,if_neg h24,if_neg h24] at h;split at h
  ·cases h
  ·rename_i hn;cases h;have hv:=dS (l:=(b.drop (q+1)).take k) λy hy=>hb y (List.mem_of_mem_drop (List.mem_of_mem_take hy));have hk:k<=T:=by
    have:¬(b.drop (q+1)).length<k:=λz=>hn (.inr z);rw [List.length_drop] at this;omega
   have e:((b.drop (q+1)).take k).length=k:=by
    have:¬(b.drop (q+1)).length<k:=λz=>hn (.inr z);rw [List.length_take];omega
   rw [e] at hv;have pk:=Nat.pow_le_pow_right (show 0<2 by decide) hk;have:q*2 ^ k<=24*2 ^ k:=Nat.mul_le_mul_right _ hq;refine ⟨by omega,by rw [List.length_drop,List.length_drop];omega,λx hx=>List.mem_of_mem_drop (List.mem_of_mem_drop hx)⟩
theorem xK (m:Nat):(Sp21.size1 m).natAbs<=m:=by
 unfold Sp21.size1;split <;> omega
theorem RdAt.bits {C:Addr}{H:Hp}{p t:Addr}{b:List Nat} (h:RdAt C H p t b):∀x∈b,x<2:=by
 obtain ⟨told,place,rest,held,_,hB⟩:=h;rw [hB.bits];intro x hx;rcases List.mem_append.mp hx with hx | hx
 ·exact bitsOf_lt hx
 ·obtain ⟨y,_,hy⟩:=List.mem_flatMap.mp hx;exact bitsOf_lt hy
inductive oj (vs:List V)(H:Hp)(Q:VK)(_e3:XK):Prop
 | mk (m:Nat):(vs=[.int m])->(Q (.int (Sp21.size1 m)) H)->oj vs H Q _e3
inductive fC (C CN:Addr)(vs:List V)(H:Hp)(Q:VK)(E:XK):Prop
 | mk (p t:Addr) (b:List Nat) (k:Nat):(vs=[.int k,.ref p])->(RdAt C H p t b)->(k<=900000)->(b.length<=900000)->((∀m r,hearM k b=some (m,r)->∀H',RdAt C H' p t r->fA p H H'->Q (.int (m:Nat)) H'))->((hearM k b=none->∀H',E (.ref CN) none H'))->fC C CN vs H Q E
inductive jn (C:Addr)(vs:List V)(H:Hp)(Q:VK)(_e3:XK):Prop
 | mk (p:Addr) (a c N:Nat):(vs=[.ref p])->(PaceAt C H p a c)->(1<=c)->(c<=64)->(N<=900000)->(a<=c*2 ^ N)->(Q (.int (TW.par a c:Nat)) H)->jn C vs H Q _e3
theorem xL:FnScope ["m"] ["m"] (ae nl):=.ck
theorem ww (D:aB K mg "signed" nl):OkF P w K mg base CX0 1 "signed" ["m"] oj:=by
 refine D.ok xL λ_ _ _ _ _ H _ Q E hr h=>?_;obtain ⟨m,rfl,k⟩:=h;refine ⟨_,af (ao (mC (aC qv (aj zW (pv 0) pe_int) pe_int rfl) (aj eU (pv 0) pe_int) (aj eU (j6 eV (aj aO (pv 0) pe_int)) pe_int))),?_⟩;refine ⟨_,rfl,_,_,rfl,rfl,(show (0:Int)<2 by decide),rfl,_,rfl,?_⟩;by_cases h0:m % 2=0
 ·refine br_t (decide_eq_true (by show V.int ((m:Int) % 2)=V.int 0;rw [show (m:Int) % 2=0 by omega])) ⟨_,rfl,_,_,rfl,rfl,⟨by decide,by decide⟩,?_⟩;have e:Sp21.size1 m=(m:Int)/2:=by unfold Sp21.size1;rw [if_pos h0];omega
  rw [e] at k;exact k
 ·refine br_f (decide_eq_false (λz=>h0 (by have:=V.int.inj z;omega))) ⟨_,rfl,_,_,rfl,rfl,_,rfl,_,_,rfl,rfl,⟨by decide,by decide⟩,?_⟩;have e:Sp21.size1 m=-((m:Int)+1)/2:=by unfold Sp21.size1;rw [if_neg h0];omega
  rw [e] at k;exact k
theorem rM {C:Addr}(D:bW K C "low_bits" "Pace.low_bits" iI)(T:PaceTxt K mg C):OkM P w K mg base CX0 1 C "low_bits" ["self"] (jn C):=by
 refine D.ok pX λ_ _ _ _ _ H _ Q E hr h=>?_;obtain ⟨p,a,c,N,rfl,⟨dx,hp⟩,hc1,hc,hN,ha,k⟩:=h;refine ⟨_,ac (ag (i:=1) pX.nd pe_int) (ac (g7 PassesOwn.never (aC g9 (aj eP (ap (pv 0) rfl) (pv 1)) (ap (pv 0) rfl) rfl)
  (af (ps_aug (i:=1) pX.nd rfl (Or.inl rfl) pe_int rY))) (af (ao (pv 1)))),?_⟩
 refine ⟨λm σ H2=>∃j:Nat,m+j=N/\σ=[some (.ref p),some (.int j)]/\H2=H/\∀i,i<j->¬a<=c*2 ^ i,⟨N,0,rfl,rfl,rfl,λi hi=>absurd hi (by omega)⟩,?_⟩;rintro m σ H2 ⟨j,hm,rfl,rfl,hn⟩;refine ⟨_,rfl,p,C,dx,_,_,rfl,hp,T.cl,T.nc,iR _ _,_,rfl,_,_,rfl,rfl,⟨by omega,by omega,by omega⟩,_,rfl,p,C,dx,_,_,rfl,hp,T.cl,T.na,j4 _ _,_,_,rfl,rfl,_,rfl,?_⟩;have e1:(c:Int)*2 ^ ((j:Int)).toNat=((c*2 ^ j:Nat):Int):=by rw [Int.toNat_natCast,Int.natCast_mul,Int.natCast_pow];rfl
 rw [e1];by_cases hle:a<=c*2 ^ j
 ·refine br_f (decide_eq_false (by omega)) ⟨_,rfl,?_⟩;have:=Al hc1 hle hn;rw [this] at k;exact k
 ·refine br_t (decide_eq_true (by omega)) ⟨λσ H3=>σ=[some (.ref p),some (.int ((j+1:Nat):Int))]/\H3=H2,?_,?_⟩
  ·rintro σ' H' ⟨rfl,rfl⟩;have hj2:j<N:=by
    rcases Nat.lt_or_ge j N with q | q
    ·exact q
    ·exact absurd (Nat.le_trans ha (Nat.mul_le_mul_left _ (Nat.pow_le_pow_right (by decide) q))) hle
   refine ⟨m-1,by omega,j+1,by omega,rfl,rfl,λi hi=>?_⟩;rcases Nat.lt_or_ge i j with q | q
   ·exact hn i q
   ·have:i=j:=by omega
    subst this;exact hle
  ·exact ⟨_,rfl,_,_,rfl,rfl,rfl,rfl⟩
theorem qg:FnScope ["k","reader","q"] ["k","reader"] (ae d5):=.ck
theorem ol {C CN:Addr}(D:aB K mg "hear_number" d5)(T:ReaderTxt K mg C)(cL:∃t,mg "LONGEST"=some (.int 24 t))(oH:OkM P w K mg base (CX1 P w) 1 C "hear" ["self","many"] (wu C CN)):OkF P w K mg base (CX1 P w) 2 "hear_number" ["k","reader"] (fC C CN):=by
 obtain ⟨tL,cL⟩:=cL;refine D.okx qg λ_ _ _ _ _ H _ Q E hr h X hX=>?_;subst hX;obtain ⟨p,t,b,k,rfl,hR,hk,hb,k1,k2⟩:=h;refine ⟨_,ac (ag (i:=2) qg.nd pe_int)
  (ac (vL λhfr=>g7 (dw au hfr) (zP (aC g9 (pv 2) (bj (v:=.int 24) (by rfl) cL ⟨tL,rfl⟩) rfl) (yx (aC qv (mX oH T.cl hr (bH au) (pv 1) (aa pe_int ad)) pe_int rfl))).pt
   (af (ps_aug (i:=2) qg.nd rfl (Or.inl rfl) pe_int rY)))
  (ac (di (aC g9 (pv 2) (bj (v:=.int 24) (by rfl) cL ⟨tL,rfl⟩) rfl) (af (ao (aj yA (aj eP (pv 2) (pv 0)) (mX oH T.cl hr (bH au) (pv 1) (aa (pv 0) ad))))) bc)
  (af (ao (mX oH T.cl hr (bH au) (pv 1) (aa (bj (v:=.int 24) (by rfl) cL ⟨tL,rfl⟩) ad)))))),?_⟩
 have hbits:=hR.bits;refine ⟨λm σ H2=>∃q:Nat,m=24-q/\q<=24/\σ=[some (.int k),some (.ref p),some (.int q)]/\b.take q=List.replicate q 1/\RdAt C H2 p t (b.drop q)/\fA p H H2,⟨24,0,rfl,by decide,rfl,rfl,hR,λ_ _ e _=>e⟩,?_⟩;rintro m σ H2 ⟨q,rfl,hq,rfl,hones,hR2,s2⟩;refine ⟨_,rfl,_,_,rfl,rfl,_,rfl,?_⟩;by_cases h24:q<24
 ·refine br_t (decide_eq_true (by omega)) ?_;obtain ⟨dx,fs,hp,hno⟩:=hR2.obj;refine ⟨_,rfl,p,dx,fs,rfl,hp,hno,p,t,b.drop q,1,rfl,hR2,by decide,by rw [List.length_drop];omega,λh1 H3 hR3 s3=>?_,λh1 H3=>k2 (rL h24 hones (by rw [List.length_drop] at h1;omega)) H3⟩;have hlt:q<b.length:=by rw [List.length_drop] at h1;omega
  have eq:b[q]?=some b[q]:=List.getElem?_eq_getElem hlt;have ev:Sp21.value ((b.drop q).take 1)=b[q]:=by
   rw [List.drop_eq_getElem_cons hlt];show Sp21.value [b[q]]=b[q];simp [Sp21.value]
  rw [ev];rw [List.drop_drop] at hR3;have s23:fA p H H3:=λx o e hx=>s3 _ _ (s2 _ _ e hx) hx;refine ⟨rfl,_,rfl,?_⟩;by_cases hx1:b[q]=1
  ·refine br_t (decide_eq_true (by rw [hx1];rfl)) ⟨λσ H4=>σ=[some (.int k),some (.ref p),some (.int ((q+1:Nat):Int))]/\H4=H3,?_,⟨_,rfl,_,_,rfl,rfl,rfl,rfl⟩⟩;rintro σ' H' ⟨rfl,rfl⟩;refine ⟨24-(q+1),by omega,q+1,rfl,h24,rfl,?_,hR3,s23⟩;rw [List.take_succ,hones,eq,hx1,List.replicate_succ'];rfl
  ·refine br_f (decide_eq_false λz=>hx1 (by have:=V.int.inj z;omega)) ?_;have hM:=wv (k:=k) h24 hones eq hx1;refine ⟨_,rfl,_,_,rfl,rfl,_,rfl,br_t (decide_eq_true (by omega)) ?_⟩;obtain ⟨dx3,fs3,hp3,hno3⟩:=hR3.obj;refine ⟨_,rfl,_,rfl,_,_,rfl,rfl,⟨by omega,by omega,by rw [Int.natAbs_natCast];omega⟩,_,rfl,p,dx3,fs3,rfl,hp3,hno3,_,rfl,p,t,_,k,rfl,hR3,hk,by rw [List.length_drop];omega,λh4 H4 hR4 s4=>?_,λh4 H4=>k2 (by rw [hM,if_pos h4]) H4⟩;have hv:Sp21.value ((b.drop (q+1)).take k)<2 ^ k:=by
    have:=dS (l:=(b.drop (q+1)).take k) λy hy=>hbits y (List.mem_of_mem_drop (List.mem_of_mem_take hy));rw [List.length_take] at this;exact Nat.lt_of_lt_of_le this (Nat.pow_le_pow_right (by decide) (Nat.min_le_left _ _))
   refine ⟨_,_,rfl,rfl,?_⟩;dsimp only;rw [Int.toNat_natCast,wg hv];exact k1 _ _ (by rw [hM,if_neg (by omega)]) H4 hR4 λx o e hx=>s4 _ _ (s23 _ _ e hx) hx
 ·have hq24:q=24:=by omega
  subst hq24;have hM:=ur (k:=k) hones;refine br_f (decide_eq_false (by decide)) ⟨_,rfl,_,_,rfl,rfl,_,rfl,br_f (decide_eq_false (by decide)) ?_⟩;obtain ⟨dx3,fs3,hp3,hno3⟩:=hR2.obj;refine ⟨_,rfl,p,dx3,fs3,rfl,hp3,hno3,p,t,_,24,rfl,hR2,by decide,by rw [List.length_drop];omega,λh4 H4 hR4 s4=>?_,λh4 H4=>k2 (by rw [hM,if_pos h4]) H4⟩;exact k1 _ _ (by rw [hM,if_neg (by omega)]) H4 hR4 λx o e hx=>s4 _ _ (s2 _ _ e hx) hx
theorem zt (a c:Nat)(z:Int):(Sp21.next a c z).1<=a+z.natAbs:=by
 unfold Sp21.next;dsimp only;split
 ·exact Nat.div_le_self _ _
 ·exact Nat.le_refl _
theorem AC {a c:Nat}{z:Int} (h1:1<=c) (h2:c<64):1<=(Sp21.next a c z).2/\(Sp21.next a c z).2<64:=by
 unfold Sp21.next;dsimp only;split
 ·rename_i h;rw [h];exact ⟨(by decide:1<=32),(by decide:32<64)⟩
 ·exact ⟨by omega,by omega⟩
theorem AD {a c N:Nat}(hc:1<=c)(h:a<=c*2 ^ N):TW.par a c<=N:=by
 rcases Nat.lt_or_ge N (TW.par a c) with q | q
 ·exact absurd h ((TW.par_least hc).2 _ q)
 ·exact q
theorem hearBand_step {n a c m:Nat}{b r:List Nat} (h:hearM (TW.par a c) b=some (m,r)):TW.hearBand TW.par (n+1) a c b=(TW.hearBand TW.par n (Sp21.next a c (Sp21.size1 m)).1 (Sp21.next a c (Sp21.size1 m)).2 r).map λy=>(Sp21.size1 m::y.1,y.2):=by
 show (TW.hear (TW.par a c) b).bind _=_;rw [yu,h];rfl
theorem gU {n a c:Nat}{b:List Nat} (h:hearM (TW.par a c) b=none):TW.hearBand TW.par (n+1) a c b=none:=by
 show (TW.hear (TW.par a c) b).bind _=_;rw [yu,h];rfl
theorem RdAt.keep {C:Addr}{H H':Hp}{p t x:Addr}{b:List Nat} (h:RdAt C H p t b) (hp:p≠x) (ht:t≠x) (s:∀b o,H b=some o->b≠x->H' b=some o):RdAt C H' p t b:=by
 obtain ⟨told,place,rest,held,⟨⟨dx,h1⟩,h2⟩,h3⟩:=h;exact ⟨told,place,rest,held,⟨⟨dx,s _ _ h1 hp⟩,s _ _ h2 ht⟩,h3⟩
theorem RdAt.p_ne {C:Addr}{H:Hp}{p t x:Addr}{b:List Nat} (h:RdAt C H p t b) (hx:H x=none):p≠x/\t≠x:=by
 obtain ⟨told,place,rest,held,⟨⟨dx,h1⟩,h2⟩,h3⟩:=h;exact ⟨ne_of_none h1 hx,ne_of_none h2 hx⟩
inductive f6 (C CN:Addr)(vs:List V)(H:Hp)(Q:VK)(E:XK):Prop
 | mk (p t:Addr) (b:List Nat) (n:Nat):(vs=[.int n,.ref p])->(RdAt C H p t b)->(n<=70000)->(b.length<=800000)->((∀l r,TW.hearBand TW.par n 16 1 b=some (l,r)->∀q H',H q=none->H' q=some (.lst (l.map V.int))->RdAt C H' p t r->fA p H H'->Q (.ref q) H'))->((TW.hearBand TW.par n 16 1 b=none->∀H',E (.ref CN) none H'))->f6 C CN vs H Q E
theorem ut:FnScope ["length","reader","pace","band","i","z"] ["length","reader"] (ae iz):=.ck
theorem rO {C CN CP:Addr}(D:aB K mg "hear_band" iz)(zR:mg "range"=none)(TP:PaceTxt K mg CP)(oI:OkM P w K mg base CX0 1 CP "__init__" ["self"] (fY CP))(oL:OkM P w K mg base CX0 1 CP "low_bits" ["self"] (jn CP))(oT:OkM P w K mg base CX0 1 CP "take" ["self","z"] (tf CP))
  (oS:OkF P w K mg base CX0 1 "signed" ["m"] oj) (oN:OkF P w K mg base (CX1 P w) 2 "hear_number" ["k","reader"] (fC C CN)):OkF P w K mg base (CX1 P w) 3 "hear_band" ["length","reader"] (f6 C CN):=by
 refine D.okx ut λ_ _ _ _ _ H _ Q E hr h X hX=>?_;subst hX;obtain ⟨p,t,b,n,rfl,hR,hn,hb,k1,k2⟩:=h;have hr1:Room 1 _:=hr.mono (by decide);refine ⟨_,ac (ag (i:=2) ut.nd (qY oI TP.toClsIn hr rfl))
  (ac (ag (i:=3) ut.nd (bD ad))
  (ac (vL λhfr=>bU (dw au hfr) rfl (cn rfl zR (aa (pv 0) ad)) (pg_nameA (i:=4) ut.nd)
   (ac (ag (i:=5) ut.nd (az oS hr1 rfl (aa (pe_f oN hr rfl (bH au) (aa (mo oL TP.cl hr1 gv (pv 2)) (aa (pv 1) ad))) ad)))
   (ac (bd (lC PySem.F.plainAttrs_list PySem.F.slot_list_append PySem.F.type_list_append cp (pv 3) (aa (pv 5) ad)))
   (af (bd (mX oT TP.cl hr1 gv (pv 2) (aa (pv 5) ad)))))))
  (af (ao (pv 3))))),?_⟩
 intro x dx hx hdx hne;refine ⟨x,dx,rfl,upd_same,λH1 hP kp=>⟨rfl,?_⟩⟩;have s1:Same H H1:=Same.made hx hdx kp;refine ⟨Nat.zero_le _,λy hy=>?_⟩;have hxy:x≠y:=by
  obtain ⟨_,z⟩:=hP;exact ne_of_none z hy
 have hRp:=(hR.same s1).p_ne hy;have hRx:=hR.p_ne hx;have s1y:Same H1 (upd H1 y (.lst [])):=same_upd hy;refine ⟨_,rfl,(n:Int),rfl,by omega,by omega,?_⟩;rw [Int.toNat_natCast];refine j5 (λi σ H2=>∃(l:List Int) (a c:Nat) (r:List Nat) (u v:Option V),σ=[some (.int n),some (.ref p),some (.ref x),some (.ref y),u,v]/\l.length=i/\H2 y=some (.lst (l.map V.int))/\PaceAt CP H2 x a c/\RdAt C H2 p t r/\r.length<=b.length/\1<=c/\c<64/\a<=(i+1)*2 ^ (b.length+5) /\
   TW.hearBand TW.par n 16 1 b=(TW.hearBand TW.par (n-i) a c r).map (λz=>(l++z.1,z.2))/\fA p H H2)
  ⟨[],16,1,b,none,none,rfl,rfl,upd_same,?_,(hR.same s1).same s1y,Nat.le_refl _,by decide,by decide,?_,?_,λc o e _=>s1y _ _ (s1 _ _ e)⟩ ?_ ?_
 ·obtain ⟨d,z⟩:=hP;exact ⟨d,s1y _ _ z⟩
 ·have:2 ^ 5<=2 ^ (b.length+5):=Nat.pow_le_pow_right (by decide) (by omega);omega
 ·rw [Nat.sub_zero];cases TW.hearBand TW.par n 16 1 b <;> rfl
 ·rintro i σ H2 hi ⟨l,a,c,r,u,v,rfl,hl,hy2,⟨dx2,hP2⟩,hR2,hrl,hc1,hc64,ha,hB,s2⟩;have hpow:a<=c*2 ^ (b.length+22):=by
   have e:2 ^ (b.length+22)=2 ^ (b.length+5)*2 ^ 17:=by rw [<- Nat.pow_add]
   have e1:(i+1)*2 ^ (b.length+5)<=2 ^ 17*2 ^ (b.length+5):=Nat.mul_le_mul_right _ (by omega);have e2:1*2 ^ (b.length+22)<=c*2 ^ (b.length+22):=Nat.mul_le_mul_right _ hc1;rw [e] at e2;rw [e,Nat.mul_comm (2 ^ (b.length+5)) (2 ^ 17)] at *;omega
  have hk:=AD hc1 hpow;rw [show n-i=(n-(i+1))+1 by omega] at hB;refine ⟨_,rfl,x,dx2,_,rfl,hP2,(by kernel_rfl),x,a,c,b.length+22,rfl,⟨dx2,hP2⟩,hc1,by omega,by omega,hpow,_,rfl,p,t,r,TW.par a c,rfl,hR2,by omega,by omega,λm r' hM H3 hR3 s3=>?_,λhM H3=>k2 (by rw [hB,gU hM];rfl) H3⟩;obtain ⟨hm1,hm2,hm3⟩:=oi hR2.bits hrl hM;have hz:=xK m;have hstep:=hearBand_step (n:=n-(i+1)) hM;rw [hstep] at hB;have hyp:y≠p:=hRp.1.symm;have hxp:x≠p:=hRx.1.symm;have hy3:=s3 _ _ hy2 hyp;have hP3:=s3 _ _ hP2 hxp;refine ⟨m,rfl,?_⟩;refine ⟨_,rfl,.inl ⟨rfl,_,SqL.of hy3⟩,_,rfl,y,_,_,rfl,rfl,hy3,?_,?_⟩
  ·rw [List.length_map,hl];exact Nat.lt_of_lt_of_le (show i<70000 by omega) (line_ge (by decide))
  have sy:fA y H3 (upd H3 y (.lst (l.map V.int++[V.int (Sp21.size1 m)]))):=λq o e hq=>by rw [upd_ne hq];exact e
  have hP4:=sy _ _ hP3 hxy;refine ⟨_,rfl,x,dx2,_,rfl,hP4,(by kernel_rfl),_,rfl,x,a,c,Sp21.size1 m,rfl,⟨dx2,hP4⟩,λH5 hP5 s5=>?_⟩;have hnc:=AC (a:=a) (z:=Sp21.size1 m) hc1 hc64;have hnl:=zt a c (Sp21.size1 m);refine ⟨l++[Sp21.size1 m],_,_,r',_,_,rfl,by rw [List.length_append,hl];rfl,?_,hP5,?_,by omega,hnc.1,hnc.2,?_,?_,λq o e hq=>s5 _ _ (sy _ _ (s3 _ _ (s2 _ _ e hq) hq) ?_) ?_⟩
  ·rw [s5 _ _ upd_same hxy.symm,List.map_append];rfl
  ·exact (hR3.keep hRp.1 hRp.2 sy).keep hRx.1 hRx.2 s5
  ·rw [Nat.add_mul (i+1) 1];omega
  ·rw [hB];cases TW.hearBand TW.par (n-(i+1)) (Sp21.next a c (Sp21.size1 m)).1 (Sp21.next a c (Sp21.size1 m)).2 r' with
   | none=>rfl
   | some z=>exact congrArg some (Prod.ext (List.append_assoc l [_] z.1).symm rfl)
  ·exact ne_of_none (s1 _ _ e) hy
  ·exact ne_of_none e hx
 ·rintro σ H2 ⟨l,a,c,r,u,v,rfl,hl,hy2,_,hR2,_,_,_,_,hB,s2⟩;rw [Nat.sub_self] at hB;refine ⟨_,rfl,k1 l r (by rw [hB];show some (l++[],r)=_;rw [List.append_nil]) y H2 (s1.free hy) hy2 hR2 s2⟩
theorem tw (G:Int->Int->Int->Int)(F:Int->Int->Int->Int)(P:Int->Int->Int->Int)(f:Int->Int->Int)(hP:∀y u v,P y u v=f (F y u v) (G y u v)):∀(a u v:List Int),((TW.zip3 F a u v).zip (TW.zip3 G a u v)).map (λp=>f p.1 p.2)=TW.zip3 P a u v:=by
 intro a u v;unfold TW.zip3;rw [List.zip_map',List.map_map];apply List.map_congr_left;intro p _;exact (hP _ _ _).symm
theorem zip3_third {a u v:List Int}{n:Nat} (ha:a.length=n) (hu:u.length=n) (hv:v.length=n):TW.zip3 (λ_ _ z=>z) a u v=v:=by
 unfold TW.zip3;apply List.ext_getElem
 ·rw [List.length_map,List.length_zip,List.length_zip];omega
 ·intro i h1 h2;simp
theorem zip3_second {a u v:List Int}{n:Nat} (ha:a.length=n) (hu:u.length=n) (hv:v.length=n):TW.zip3 (λ_ y _=>y) a u v=u:=by
 unfold TW.zip3;apply List.ext_getElem
 ·rw [List.length_map,List.length_zip,List.length_zip];omega
 ·intro i h1 h2;simp
theorem unmixed_small:∀{l:List (List Int)},l.length<3->TW.unmixed l=l
 | [],_=>rfl
 | [_],_=>rfl
 | [_,_],_=>rfl
 | _::_::_::_,h=>absurd h (by simp)
inductive iU (K:W.Frag)(vs:List V)(H:Hp)(Q:VK)(_e3:XK):Prop
 | mk (a:Addr) (l:List (List Int)) (n:Nat):(vs=[.ref a])->(GridAt H a l)->((∀p∈l,p.length=n))->(l.length<=1000)->(n<=1000000)->(∀p H',Same H H'->H p=none->GridAt H' p (TW.unmixed l)->Q (.ref p) H')->iU K vs H Q _e3
def fD (kinds n:Nat)(ps:List (List Int))(i:Nat):List Int:=(List.range (kinds*n)).map λt=>if t % kinds<i then (ps.getD (t % kinds) []).getD (t/kinds) 0 else 0
theorem uu (kinds n:Nat)(ps:List (List Int)):fD kinds n ps 0=List.replicate (kinds*n) 0:=by
 unfold fD;apply List.ext_getElem
 ·simp
 ·intro i h1 h2;simp
theorem woveI_all {kinds n:Nat}(hk:0<kinds)(ps:List (List Int)):fD kinds n ps kinds=TW.weave kinds n ps:=by
 unfold fD TW.weave;apply List.map_congr_left;intro t _;rw [if_pos (Nat.mod_lt _ hk)]
theorem step_iff {i j c:Nat}(hi:i<c):(i<=j/\(j-i) % c=0)↔j % c=i:=by
 constructor
 ·rintro ⟨h1,h2⟩;have e:=Nat.div_add_mod (j-i) c;rw [h2,Nat.add_zero] at e;have ej:j=i+c*((j-i)/c):=by omega
  rw [ej,Nat.add_mul_mod_self_left,Nat.mod_eq_of_lt hi]
 ·intro h;have e:=Nat.div_add_mod j c;have e2:j-i=c*(j/c):=by omega
  exact ⟨by omega,by rw [e2,Nat.mul_mod_right]⟩
theorem xM {i j c:Nat}(hi:i<c)(h:j % c=i):(j-i)/c=j/c:=by
 have e:=Nat.div_add_mod j c;have e2:j-i=c*(j/c):=by omega
 rw [e2,Nat.mul_div_cancel_left _ (by omega)]
theorem ux {kinds n i:Nat}{ps:List (List Int)}{x:List Int} (hi:i<kinds) (hx:ps[i]?=some x) (hl:x.length=n):setFrom (fD kinds n ps i) x i kinds=fD kinds n ps (i+1):=by
 apply List.ext_getElem?;intro j;rw [setFrom_get (by omega)];have hlen:(fD kinds n ps i).length=kinds*n:=by simp [fD]
 rw [hlen];by_cases hj:j<kinds*n
 ·have hd:j/kinds<n:=by rw [Nat.div_lt_iff_lt_mul (by omega),Nat.mul_comm];exact hj
  have en:(fD kinds n ps (i+1))[j]?=some (if j % kinds<i+1 then (ps.getD (j % kinds) []).getD (j/kinds) 0 else 0):=by
   unfold fD;rw [List.getElem?_map,List.getElem?_range hj];rfl
  have eo:(fD kinds n ps i)[j]?=some (if j % kinds<i then (ps.getD (j % kinds) []).getD (j/kinds) 0 else 0):=by
   unfold fD;rw [List.getElem?_map,List.getElem?_range hj];rfl
  rw [en,eo];by_cases hm:j % kinds=i
  ·have h1:=(step_iff hi).mpr hm;rw [xM hi hm,if_pos ⟨h1.1,h1.2,by omega,hj⟩,if_pos (by omega),hm];have:ps.getD i []=x:=by rw [List.getD_eq_getElem?_getD,hx];rfl
   rw [this,List.getD_eq_getElem?_getD,List.getElem?_eq_getElem (by omega)];rfl
  ·rw [if_neg (λz=>hm ((step_iff hi).mp ⟨z.1,z.2.1⟩))];by_cases hlt:j % kinds<i
   ·rw [if_pos hlt,if_pos (by omega)]
   ·rw [if_neg hlt,if_neg (by omega)]
 ·rw [if_neg (λz=>hj z.2.2.2),List.getElem?_eq_none (by rw [hlen];omega),List.getElem?_eq_none (by simp [fD];omega)]
inductive om (K:W.Frag)(vs:List V)(H:Hp)(Q:VK)(_e3:XK):Prop
 | mk (a:Addr) (ps:List (List Int)) (n:Nat):(vs=[.ref a])->(GridAt H a ps)->(0<ps.length)->(ps.length<=4)->((∀p∈ps,p.length=n))->(0<n)->(n<=70000)->(Ans H ((TW.weave ps.length n ps).map V.int) Q)->om K vs H Q _e3
inductive dn (K:W.Frag)(CN:Addr)(vs:List V)(H:Hp)(Q:VK)(E:XK):Prop
 | mk (a:Addr) (b:List Nat) (many:Nat):(vs=[.ref a,.int many])->(SqL K H a (B b))->(b.length<=100000)->(1<=many)->((b.length=1+2*many->Ans H (((List.range many).map λ(i:Nat)=>((b.getD (2*i+1) 0+256*b.getD (2*i+2) 0:Nat):Int)).map V.int) Q))->((b.length≠1+2*many->∀H',E (.ref CN) none H'))->dn K CN vs H Q E
theorem wx:FnScope ["planes","greens","reds","blues","y","u","v","g"] ["planes"] (ae jU):=.ck
theorem mz (D:aB K mg "unmixed" jU)(zLen:mg "len"=none)(zL:mg "list"=none)(zZ:mg "zip"=none):OkF P w K mg base CX0 1 "unmixed" ["planes"] (iU K):=by
 refine D.ok wx λ_ _ _ _ _ H _ Q E hr h=>?_;obtain ⟨a,l,n,rfl,G,hl,hk,hn,k⟩:=h;refine ⟨_,ac (di (aC g9 (aw ak (by rfl) zLen PySem.boot_len (aa (pv 0) ad)) pe_int (cK _))
   (af (ao (cP bL (by rfl) zL boot_list (aa (pv 0) ad)))) bc)
  (ac (aY (i:=1) (own:=[("y",4),("u",5),("v",6)]) (g:=gTup K 3 (bp (aA 4) (bp (aA 5) (bp (aA 6) gNil)))) wx.nd (qF rfl zZ (aa (aq ay (pv 0) pe_int) (aa (aq ay (pv 0) pe_int) (aa (aq ay (pv 0) pe_int) ad)))) (λs H C cl fp=>bT rfl (am (pg_nameA (i:=4) wx.nd) (am (pg_nameA (i:=5) wx.nd) (am (pg_nameA (i:=6) wx.nd) bn)))) (λs H C cl fp=>aj bK (pv 4) (aj eU (aj aO (pv 5) (pv 6)) pe_int)))
  (ac (aY (i:=2) (own:=[("v",6),("g",7)]) (g:=gTup K 2 (bp (aA 6) (bp (aA 7) gNil))) wx.nd (ib rfl zZ (aa (aq ay (pv 0) pe_int) (aa (pv 1) ad))) (λs H C cl fp=>bT rfl (am (pg_nameA (i:=6) wx.nd) (am (pg_nameA (i:=7) wx.nd) bn))) (λs H C cl fp=>aj aO (pv 6) (pv 7)))
  (ac (aY (i:=3) (own:=[("u",5),("g",7)]) (g:=gTup K 2 (bp (aA 5) (bp (aA 7) gNil))) wx.nd (ib rfl zZ (aa (aq ay (pv 0) pe_int) (aa (pv 1) ad))) (λs H C cl fp=>bT rfl (am (pg_nameA (i:=5) wx.nd) (am (pg_nameA (i:=7) wx.nd) bn))) (λs H C cl fp=>aj aO (pv 5) (pv 7)))
  (af (ao (aj cW (bD (aa (pv 2) (aa (pv 1) (aa (pv 3) ad)))) (aD aR (pv 0) (aI pe_int) bo))))))),?_⟩
 obtain ⟨refs,g1,g2,g0,g3⟩:=id G;refine ⟨_,rfl,a,_,rfl,.inl (SqL.of g1),_,_,rfl,rfl,_,rfl,?_⟩;by_cases h3:l.length<3
 ·refine br_t (decide_eq_true (by rw [List.length_map,g2];omega)) ?_;refine ⟨_,rfl,a,_,rfl,.inl (SqL.of g1),λq hq=>k q _ (same_upd hq) hq ?_⟩;rw [unmixed_small h3];exact ⟨refs,upd_same,g2,eG g2 g3 hq,λi r x e1 e2=>(same_upd hq) _ _ (g3 i r x e1 e2)⟩
 ·refine br_f (decide_eq_false (by rw [List.length_map,g2];omega)) ?_;obtain ⟨x,y,z,rest,rfl⟩:=tj h3;have hx:=hl x (by simp);have hy:=hl y (by simp);have hzz:=hl z (by simp);have hz:x.length<=sizeLine:=line_ge (by omega);simp only [List.length_cons] at g2 hk;have e0:refs[0]?=some refs[0]:=List.getElem?_eq_getElem (by omega);have e1:refs[1]?=some refs[1]:=List.getElem?_eq_getElem (by omega);have e2:refs[2]?=some refs[2]:=List.getElem?_eq_getElem (by omega);have rx:=g3 0 _ x e0 rfl;have ry:=g3 1 _ y e1 rfl;have rz:=g3 2 _ z e2 rfl;refine ⟨_,rfl,a,_,_,_,rfl,rfl,SqL.of g1,bx (j:=0) rfl (by rw [List.getElem?_map,e0];rfl),_,rfl,a,_,_,_,rfl,rfl,SqL.of g1,bx (j:=1) rfl (by rw [List.getElem?_map,e1];rfl),_,rfl,a,_,_,_,rfl,rfl,SqL.of g1,bx (j:=2) rfl (by rw [List.getElem?_map,e2];rfl),
   _,_,_,_,_,_,rfl,SqL.of rx,SqL.of ry,SqL.of rz,λD1 hD1=>?_⟩
  refine mL (λy u v=>y-(u+v)/4) hD1 (SqL.of rx) (SqL.of ry) (SqL.of rz) hz (λu v z T H' Q' hT _ hq=>?_) (λH1 s1 q1=>?_)
  ·exact ⟨T,_,rfl,SqT.of upd_same,rfl,_,_,rfl,_,_,rfl,_,_,rfl,rfl,rfl,_,rfl,_,rfl,_,rfl,_,_,rfl,rfl,_,_,rfl,rfl,⟨by decide,by decide⟩,_,_,rfl,rfl,hq _ (same_upd hT)⟩
  have q1:H1 D1=some (.lst ((TW.zip3 (λy u v=>y-(u+v)/4) x y z).map V.int)):=q1;have lg:(TW.zip3 (λy u v=>y-(u+v)/4) x y z).length=n:=by unfold TW.zip3;rw [List.length_map,List.length_zip,List.length_zip];omega
  refine ⟨_,rfl,a,_,_,_,rfl,rfl,SqL.of (s1 _ _ g1),bx (j:=2) rfl (by rw [List.getElem?_map,e2];rfl),_,rfl,_,D1,_,_,rfl,SqL.of (s1 _ _ rz),SqL.of q1,λD2 hD2=>?_⟩;refine i4 (λv g=>v+g) hD2 (SqL.of (s1 _ _ rz)) (SqL.of q1) (line_ge (by omega)) (λu v T H' Q' hT _ hq=>?_) (λH2 s2 q2=>?_)
  ·exact ⟨T,_,rfl,SqT.of upd_same,rfl,_,_,rfl,_,_,rfl,rfl,rfl,_,rfl,_,rfl,_,_,rfl,rfl,hq _ (same_upd hT)⟩
  have s12:=s1.trans s2;refine ⟨_,rfl,a,_,_,_,rfl,rfl,SqL.of (s12 _ _ g1),bx (j:=1) rfl (by rw [List.getElem?_map,e1];rfl),_,rfl,_,D1,_,_,rfl,SqL.of (s12 _ _ ry),SqL.of (s2 _ _ q1),λD3 hD3=>?_⟩;refine i4 (λu g=>u+g) hD3 (SqL.of (s12 _ _ ry)) (SqL.of (s2 _ _ q1)) (line_ge (by omega)) (λu v T H' Q' hT _ hq=>?_) (λH3 s3 q3=>?_)
  ·exact ⟨T,_,rfl,SqT.of upd_same,rfl,_,_,rfl,_,_,rfl,rfl,rfl,_,rfl,_,rfl,_,_,rfl,rfl,hq _ (same_upd hT)⟩
  have er:(z.zip (TW.zip3 (λy u v=>y-(u+v)/4) x y z)).map (λp=>p.1+p.2)=TW.zip3 (λy u v=>v+(y-(u+v)/4)) x y z:=by
   have:=tw (λy u v=>y-(u+v)/4) (λ_ _ v=>v) (λy u v=>v+(y-(u+v)/4)) (λa b=>a+b) (λ_ _ _=>rfl) x y z;rw [zip3_third hx hy hzz] at this;exact this
  have eb:(y.zip (TW.zip3 (λy u v=>y-(u+v)/4) x y z)).map (λp=>p.1+p.2)=TW.zip3 (λy u v=>u+(y-(u+v)/4)) x y z:=by
   have:=tw (λy u v=>y-(u+v)/4) (λ_ u _=>u) (λy u v=>u+(y-(u+v)/4)) (λa b=>a+b) (λ_ _ _=>rfl) x y z;rw [zip3_second hx hy hzz] at this;exact this
  rw [er] at q2;rw [eb] at q3;have sA:Same H H3:=s12.trans s3;refine ⟨_,rfl,_,rfl,_,rfl,(by show 3<=sizeLine;decide),λp2 hp2=>?_⟩;have t1:=same_upd (o:=.lst [.ref D2,.ref D1,.ref D3]) hp2;refine ⟨_,rfl,3,rfl,a,_,rfl,SqL.of (t1 _ _ (sA _ _ g1)),λp3 hp3=>?_⟩;rw [show (3:Int)=((3:Nat):Int) from rfl,dB,<- List.map_drop];have t2:=same_upd (o:=.lst ((refs.drop 3).map V.ref)) hp3;refine ⟨p2,p3,_,_,rfl,rfl,t2 _ _ upd_same,upd_same,?_,λp hp=>?_⟩
  ·rw [List.length_map,List.length_drop];exact line_ge (by show 3+(refs.length-3)<=16000000;omega)
  have t3:=same_upd (o:=.lst ([V.ref D2,.ref D1,.ref D3]++(refs.drop 3).map V.ref)) hp;have t123:=(t1.trans t2).trans t3;have all:=sA.trans t123;refine k p _ all (((sA.trans t1).trans t2).free hp) ?_;have gr:∀(i:Nat) (r:Addr) (xx:List Int),(refs.drop 3)[i]?=some r->rest[i]?=some xx->dX H r xx:=λi r xx h1 h2=>g3 (3+i) r xx (by rw [List.getElem?_drop] at h1;exact h1) (by rw [Nat.add_comm];exact h2);have gl:(refs.drop 3).length=rest.length:=by rw [List.length_drop];omega
  refine ListOf.cat (r1:=[D2,D1,D3]) (l1:=[TW.zip3 (λy u v=>v+(y-(u+v)/4)) x y z,TW.zip3 (λy u v=>y-(u+v)/4) x y z,TW.zip3 (λy u v=>u+(y-(u+v)/4)) x y z]) rfl gl (λr hr=>?_) (eG gl (λi r xx h1 h2=>((sA.trans t1).trans t2) _ _ (gr i r xx h1 h2)) hp) (λi r xx h1 h2=>?_) (λi r xx h1 h2=>all _ _ (gr i r xx h1 h2)) upd_same
  ·have u1:=(t1.trans t2) _ _ ((s2.trans s3) _ _ q1);have u2:=(t1.trans t2) _ _ (s3 _ _ q2);have u3:=(t1.trans t2) _ _ q3;have hr:r=D2\/r=D1\/r=D3:=by simpa using hr
   rcases hr with rfl | rfl | rfl
   ·exact ne_of_none u2 hp
   ·exact ne_of_none u1 hp
   ·exact ne_of_none u3 hp
  ·match i,h1,h2 with
   | 0,h1,h2=>cases h1;cases h2;exact t123 _ _ (s3 _ _ q2)
   | 1,h1,h2=>cases h1;cases h2;exact t123 _ _ ((s2.trans s3) _ _ q1)
   | 2,h1,h2=>cases h1;cases h2;exact t123 _ _ q3
theorem flat_zeros (n:Nat):(List.replicate n [V.int 0]).flatten=(List.replicate n (0:Int)).map V.int:=by
 induction n with
 | zero=>rfl
 | succ n ih=>rw [List.replicate_succ,List.flatten_cons,ih,List.replicate_succ];rfl
theorem zu:FnScope ["planes","kinds","numbers","i","plane"] ["planes"] (ae sV):=.ck
theorem tz (D:aB K mg "woven" sV)(zLen:mg "len"=none)(zE:mg "enumerate"=none):OkF P w K mg base CX0 1 "woven" ["planes"] (om K):=by
 refine D.ok zu λ_ _ _ _ _ H _ Q E hr h=>?_;obtain ⟨a,ps,n,rfl,G,h0,h4,hl,hn0,hn,k⟩:=h;refine ⟨_,ac (ag (i:=1) zu.nd (aw ak (by rfl) zLen PySem.boot_len (aa (pv 0) ad)))
  (ac (ag (i:=2) zu.nd (aj yh (bD (aa pe_int ad)) (aj be (pv 1) (aw ak (by rfl) zLen PySem.boot_len (aa (aq ay (pv 0) pe_int) ad)))))
  (ac (bU PassesOwn.never rfl (qz rfl zE (aa (pv 0) ad)) (bT rfl (am (pg_nameA (i:=3) zu.nd) (am (pg_nameA (i:=4) zu.nd) bn)))
   (af (rX (pv 4) (qC (pv 2) (pv 3) (pv 1)))))
  (af (ao (pv 2))))),?_⟩
 obtain ⟨refs,g1,g2,g0,g3⟩:=id G;have e0:refs[0]?=some refs[0]:=List.getElem?_eq_getElem (by omega);have r0:=g3 0 _ _ e0 (List.getElem?_eq_getElem h0);have l0:(ps[0]'h0).length=n:=hl _ (List.getElem_mem h0);refine ⟨_,rfl,a,_,rfl,.inl (SqL.of g1),?_⟩;rw [List.length_map,g2];refine ⟨(by show 1<=sizeLine;decide),λq hq=>?_⟩;have sq:=same_upd (o:=.lst [.int 0]) hq;refine ⟨_,rfl,_,rfl,a,_,_,_,rfl,rfl,SqL.of (sq _ _ g1),bx (j:=0) rfl (by rw [List.getElem?_map,e0];rfl),_,_,rfl,.inl (SqL.of (sq _ _ r0)),_,_,rfl,rfl,.inl ⟨by omega,by omega⟩,?_⟩;rw [List.length_map,l0];have ek:(ps.length:Int)*(n:Int)=((ps.length*n:Nat):Int):=by rw [Int.natCast_mul]
 have hkn:ps.length*n<=4*70000:=Nat.mul_le_mul h4 hn;refine ⟨q,_,_,rfl,rfl,upd_same,by rw [ek];omega,by rw [ek];omega,?_,λp hp=>?_⟩
 ·rw [ek,Int.toNat_natCast];exact line_ge (by show 1*_<=_;omega)
 dsimp only;rw [ek,Int.toNat_natCast,flat_zeros,<- uu ps.length n ps];have sp:=sq.new (o:=.lst ((fD ps.length n ps 0).map V.int)) hp;have hnp:∀b o,H b=some o->b≠p:=λb o e=>ne_of_none (sq _ _ e) hp;refine ⟨_,rfl,a,_,rfl,SqL.of (sp _ _ g1),mW (K:=K) (xs:=refs.map V.ref) (λi σ H2=>∃u v,σ=[some (.ref a),some (.int ps.length),some (.ref p),u,v]/\Same H H2/\H2 p=some (.lst ((fD ps.length n ps i).map V.int))) ⟨none,none,rfl,sp,upd_same⟩ (λi σ H2 _ ⟨_,_,_,s2,_⟩=>SqL.of (s2 _ _ g1)) ?_ ?_⟩
 ·rintro i x T σ H2 hx hT ⟨u,v,rfl,s2,hp2⟩;rw [List.getElem?_map] at hx;obtain ⟨r,er,rfl⟩:=Option.map_eq_some_iff.mp hx;have hi:i<ps.length:=by have:=(List.getElem?_eq_some_iff.mp er).1;omega
  have ex:ps[i]?=some ps[i]:=List.getElem?_eq_getElem hi;have rr:=g3 i r _ er ex;have lx:ps[i].length=n:=hl _ (List.getElem_mem hi);have hTp:p≠T:=ne_of_none hp2 hT;have sT:=same_upd (o:=.tup [.int (i:Nat),.ref r]) hT;have lw:(fD ps.length n ps i).length=ps.length*n:=by simp [fD]
  have hle:ps.length<=ps.length*n:=Nat.le_mul_of_pos_right _ hn0;refine ⟨T,_,rfl,SqT.of upd_same,rfl,_,_,rfl,_,_,rfl,rfl,_,rfl,_,rfl,_,rfl,_,rfl,p,r,_,_,i,ps.length,rfl,rfl,rfl,rfl,h0,?_,sT _ _ hp2,SqL.of (sT _ _ (s2 _ _ rr)),?_,?_,?_⟩
  ·rw [List.length_map,lw];omega
  ·rw [List.length_map,List.length_map,lw,lx,show ps.length*n-i+ps.length-1=ps.length*n+(ps.length-1-i) by omega,Nat.mul_add_div h0,Nat.div_eq_of_lt (by omega)];rfl
  ·rw [List.length_map,List.length_map,lw,lx];exact line_ge (by omega)
  ·rw [eJ,ux hi ex lx];refine ⟨_,_,rfl,λb o e=>?_,upd_same⟩;rw [upd_ne (hnp b o e)];exact sT _ _ (s2 _ _ e)
 ·rintro σ H2 ⟨u,v,rfl,s2,hp2⟩;rw [List.length_map,g2,woveI_all h0] at hp2;exact ⟨_,rfl,k p H2 s2 (sq.free hp) hp2⟩
theorem lL:FnScope ["coded","many","low","high"] ["coded","many"] (ae cB):=.ck
theorem lq {CN:Addr}(D:aB K mg "plain_numbers" cB)(zLen:mg "len"=none)(zZ:mg "zip"=none)(cN:ExcAt K mg "NotACode" CN):OkF P w K mg base (CX1 P w) 1 "plain_numbers" ["coded","many"] (dn K CN):=by
 refine D.okx lL λ_ _ _ _ _ H _ Q E hr h X hX=>?_;subst hX;obtain ⟨a,b,many,rfl,hS,hb,hm,k1,k2⟩:=h;refine ⟨_,ac (di (aC zX (aw ak (by rfl) zLen PySem.boot_len (aa (pv 0) ad)) (aj aO pe_int (aj be pe_int (pv 1))) (cK _)) (af (cj au rfl rfl cN)) bc)
  (af (ao (cz (own:=[("low",2),("high",3)]) (g:=gTup K 2 (bp (aA 2) (bp (aA 3) gNil))) (te:=tOp (rI0 λi j=>.int (i+j)) (tVar 2) (tOp (rI CMul λi j=>.int (i*j)) (tC (.int 256)) (tVar 3))) lL.nd (ib rfl zZ (aa (km (pv 0) pe_int pe_int) (aa (km (pv 0) pe_int pe_int) ad))) (λs H C cl fp=>bT rfl (am (pg_nameA (i:=2) lL.nd) (am (pg_nameA (i:=3) lL.nd) bn))) (λs H C cl fp=>aj aO (pv 2) (aj be pe_int (pv 3)))))),?_⟩
 refine ⟨_,rfl,a,_,rfl,.inl hS,?_⟩;rw [f7];refine ⟨_,rfl,_,_,rfl,rfl,.inl ⟨by decide,by decide⟩,_,_,rfl,rfl,rfl,_,rfl,?_⟩;by_cases hl:b.length=1+2*many
 ·refine br_f (by
   show (!decide (V.int (b.length:Int)=V.int (1+2*(many:Int))))=false;rw [decide_eq_true (show V.int (b.length:Int)=V.int (1+2*(many:Int)) by rw [hl];congr 1)];rfl) ?_
  have hil:(Sp21.ints b).length=b.length:=by simp [Sp21.ints]
  refine ⟨_,rfl,a,_,1,2,rfl,rfl,rfl,by decide,hS,λp1 hp1=>?_⟩;have eB:B b=(Sp21.ints b).map V.int:=rfl;rw [eB,iO (Sp21.ints b) 1 (by omega)] at *;have en1:((Sp21.ints b).length-1+1)/2=many:=by omega
  have en2:((Sp21.ints b).length-2+1)/2=many:=by omega
  rw [en1] at *;have s1:=same_upd (o:=.lst ((pick (Sp21.ints b) 1 2 many).map V.int)) hp1;refine ⟨_,rfl,a,_,2,2,rfl,rfl,rfl,by decide,s1.seq hS,λp2 hp2=>?_⟩;rw [iO (Sp21.ints b) 2 (by omega),en2];have s2:=same_upd (o:=.lst ((pick (Sp21.ints b) 2 2 many).map V.int)) hp2;refine ⟨p1,p2,_,_,rfl,SqL.of (s2 _ _ upd_same),SqL.of upd_same,λD hD=>?_⟩;refine i4 (λu v=>u+256*v) hD (SqL.of (s2 _ _ upd_same)) (SqL.of upd_same) (line_ge (by rw [bi];omega)) (λu v T H' Q' hT _ hq=>?_) (λH3 s3 q3=>?_)
  ·exact ⟨T,_,rfl,SqT.of upd_same,rfl,_,_,rfl,_,_,rfl,rfl,rfl,_,rfl,_,rfl,_,_,rfl,rfl,.inl ⟨by decide,by decide⟩,_,_,rfl,rfl,hq _ (same_upd hT)⟩
  refine k1 hl D H3 ((s1.trans s2).trans s3) ((s1.trans s2).free hD) ?_;rw [q3];congr 3;apply List.ext_getElem
  ·simp [pick]
  ·intro i h1 h2;have hi:i<many:=by simpa using h2
   have x1:(Sp21.ints b).getD (1+i*2) 0=((b.getD (2*i+1) 0:Nat):Int):=by
    rw [show 1+i*2=2*i+1 by omega];simp [Sp21.ints,List.getD_eq_getElem?_getD,show 2*i+1<b.length by omega]
   have x2:(Sp21.ints b).getD (2+i*2) 0=((b.getD (2*i+2) 0:Nat):Int):=by
    rw [show 2+i*2=2*i+2 by omega];simp [Sp21.ints,List.getD_eq_getElem?_getD,show 2*i+2<b.length by omega]
   simp only [pick,List.getElem_map,List.getElem_zip,List.getElem_range,x1,x2]
   push_cast
   rfl
 ·refine br_t (by
   show (!decide (V.int (b.length:Int)=V.int (1+2*(many:Int))))=true;rw [decide_eq_false (λz=>hl (by have:=V.int.inj z;omega))];rfl) ?_
  exact k2 hl _
theorem tD {σ:L2.St}{H:Hp}{q r:Hp->Prop} (h:q H):tYes σ H λb H3=>if b=true then q H3 else r H3:=h
theorem hearBands_lens {π:Nat->Nat->Nat}:∀{lens:List Nat}{b:List Nat}{x:List (List Int)×List Nat},TW.hearBands π lens b=some x->x.1.map (·.length)=lens
 | [],b,x,h=>by
  have e:=Option.some.inj (show some ([],b)=some x from h);subst e;rfl
 | n::r,b,x,h=>by
  have h:(TW.hearBand π n 16 1 b).bind (λx=>(TW.hearBands π r x.2).map λy=>(x.1::y.1,y.2))=some x:=h;obtain ⟨y,h1,h2⟩:=Option.bind_eq_some_iff.mp h;obtain ⟨z,h3,rfl⟩:=Option.map_eq_some_iff.mp h2;show y.1.length::z.1.map (·.length)=_;rw [fg h1,hearBands_lens h3]
theorem zw {k w h:Nat}(hw:0<w)(hh:0<h):∀n∈TW.bandLens k w h,n<=w*h:=by
 intro n hn;have R:=gf w h;rw [<- dk k R hw hh] at hn;obtain ⟨b,hb,rfl⟩:=List.mem_map.mp hn;exact kB R hw hh b hb
theorem RdAt.lst_ne {C:Addr}{H:Hp}{p t x:Addr}{b:List Nat}{l:List V} (h:RdAt C H p t b) (hx:H x=some (.lst l)):x≠p:=by
 obtain ⟨told,place,rest,held,⟨⟨dx,h1⟩,h2⟩,h3⟩:=h;intro z;rw [z,h1] at hx;cases hx
theorem RdAt.le {C:Addr}{H:Hp}{p t:Addr}{b:List Nat} (h:RdAt C H p t b):∃o,H p=some o:=by
 obtain ⟨told,place,rest,held,⟨⟨dx,h1⟩,h2⟩,h3⟩:=h;exact ⟨_,h1⟩
theorem iV {n a c:Nat}{b r:List Nat}{l:List Int} (hb:∀x∈b,x<2) (h:TW.hearBand TW.par n a c b=some (l,r)):r.length<=b.length:=by
 induction n generalizing a c b l with
 | zero =>
  have e:=Option.some.inj (show some ([],b)=some (l,r) from h);cases e;exact Nat.le_refl _
 | succ n ih =>
  cases hM:hearM (TW.par a c) b with
  | none=>rw [gU hM] at h;cases h
  | some x =>
   obtain ⟨m,r'⟩:=x;rw [hearBand_step hM] at h;obtain ⟨z,h3,e⟩:=Option.map_eq_some_iff.mp h;cases e;obtain ⟨_,hle,hmem⟩:=oi hb (Nat.le_refl _) hM;exact Nat.le_trans (ih (λx hx=>hb x (hmem x hx)) h3) hle
structure GrowAt (C:Addr)(H:Hp)(p t D:Addr)(bs:List (List Int))(r:List Nat)(refs:List Addr)(H2:Hp):Prop where
 lst:H2 D=some (.lst (refs.map V.ref))
 len:refs.length=bs.length
 ne:∀x∈refs,x≠D
 rows:∀(j:Nat) (ref:Addr) (x:List Int),refs[j]?=some ref->bs[j]?=some x->dX H2 ref x
 rd:RdAt C H2 p t r
 same:fA p H H2
theorem GrowAt.start {C:Addr}{H:Hp}{p t D:Addr}{b:List Nat} (hR:RdAt C H p t b) (hD:H D=none):GrowAt C H p t D [] b [] (upd H D (.lst [])) :=
 ⟨upd_same,rfl,(λx z=>nomatch z),(λj ref x e _=>by simp at e),hR.same (same_upd hD),λx o e _=>same_upd hD _ _ e⟩
theorem GrowAt.next {C:Addr}{H H2 H4:Hp}{p t D q:Addr}{r r':List Nat}{bs:List (List Int)}{refs:List Addr}{l:List Int} (A:GrowAt C H p t D bs r refs H2) (nq:H2 q=none) (gq:H4 q=some (.lst (l.map V.int))) (hR4:RdAt C H4 p t r') (s4:fA p H2 H4) (hpD:p≠D/\t≠D) (hD:H D=none) :
  GrowAt C H p t D (bs++[l]) r' (refs++[q]) (upd H4 D (.lst (refs.map V.ref++[V.ref q]))) where
 lst:=by rw [upd_same,List.map_append];rfl
 len:=by rw [List.length_append,List.length_append,A.len];rfl
 ne:=λx hx=>by
  rcases List.mem_append.mp hx with h | h
  ·exact A.ne x h
  ·rw [List.mem_singleton.mp h];exact (ne_of_none A.lst nq).symm
 rows:=λj ref x h1 h2=>by
  show upd H4 D _ ref=_;have hl:=A.len;rcases Nat.lt_or_ge j refs.length with hj | hj
  ·rw [List.getElem?_append_left hj] at h1;rw [List.getElem?_append_left (by omega)] at h2;have g:=A.rows j ref x h1 h2;rw [upd_ne (A.ne ref (List.mem_of_getElem? h1))];exact s4 _ _ g (A.rd.lst_ne g)
  ·rw [List.getElem?_append_right hj] at h1;rw [List.getElem?_append_right (by omega)] at h2;have h0:j-refs.length=0:=by
    have:=(List.getElem?_eq_some_iff.mp h1).1;simp at this;omega
   rw [h0] at h1;rw [show j-bs.length=0 by omega] at h2;cases h1;cases h2;rw [upd_ne (ne_of_none A.lst nq).symm];exact gq
 rd:=hR4.keep hpD.1 hpD.2 λb o e hb=>by rw [upd_ne hb];exact e
 same:=λx o e hx=>by
  rw [upd_ne (ne_of_none e hD)];exact s4 _ _ (A.same _ _ e hx) hx
theorem GrowAt.grid {C:Addr}{H H2:Hp}{p t D:Addr}{r:List Nat}{bs:List (List Int)}{refs:List Addr} (A:GrowAt C H p t D bs r refs H2):GridAt H2 D bs:=⟨refs,A.lst,A.len,A.ne,A.rows⟩
theorem GrowAt.free {C:Addr}{H H2:Hp}{p t D:Addr}{r:List Nat}{bs:List (List Int)}{refs:List Addr} (A:GrowAt C H p t D bs r refs H2) {q:Addr} (hf:H2 q=none):H q=none:=by
 cases e:H q with
 | none=>rfl
 | some o =>
  exfalso;by_cases hq:q=p
  ·subst hq;obtain ⟨o2,z⟩:=A.rd.le;rw [hf] at z;cases z
  ·have:=A.same _ _ e hq;rw [hf] at this;cases this
structure HeardAt (C:Addr)(H:Hp)(p t D la:Addr)(lens:List Nat)(b:List Nat)(bs:List (List Int))(r:List Nat)(refs:List Addr)(H2:Hp):Prop extends GrowAt C H p t D bs r refs H2 where
 le:r.length<=b.length
 la:H2 la=some (.lst ((Sp21.ints lens).map V.int))
 heard:TW.hearBands TW.par lens b=(TW.hearBands TW.par (lens.drop bs.length) r).map λz=>(bs++z.1,z.2)
theorem HeardAt.next {C:Addr}{H H2 H4:Hp}{p t D la q:Addr}{lens b r r':List Nat}{bs:List (List Int)}{refs:List Addr}{l:List Int}{n:Nat} (A:HeardAt C H p t D la lens b bs r refs H2) (hn:lens[bs.length]?=some n) (hh:TW.hearBand TW.par n 16 1 r=some (l,r'))
  (nq:H2 q=none) (gq:H4 q=some (.lst (l.map V.int))) (hR4:RdAt C H4 p t r') (s4:fA p H2 H4) (hpD:p≠D/\t≠D) (hlD:la≠D) (hD:H D=none) :
  HeardAt C H p t D la lens b (bs++[l]) r' (refs++[q]) (upd H4 D (.lst (refs.map V.ref++[V.ref q]))) where
 toGrowAt:=A.toGrowAt.next nq gq hR4 s4 hpD hD
 le:=Nat.le_trans (iV A.rd.bits hh) A.le
 la:=by
  rw [upd_ne hlD];exact s4 _ _ A.la (A.rd.lst_ne A.la)
 heard:=by
  have hi:=(List.getElem?_eq_some_iff.mp hn).1;have e:lens.drop bs.length=n::lens.drop (bs.length+1):=by
   rw [List.drop_eq_getElem_cons hi];congr 1;rw [List.getElem?_eq_getElem hi] at hn;exact Option.some.inj hn
  have e2:TW.hearBands TW.par (n::lens.drop (bs.length+1)) r=(TW.hearBands TW.par (lens.drop (bs.length+1)) r').map λy=>(l::y.1,y.2):=by
   show (TW.hearBand TW.par n 16 1 r).bind _=_;rw [hh];rfl
  rw [A.heard,e,e2,List.length_append];cases TW.hearBands TW.par (lens.drop (bs.length+1)) r' with
  | none=>rfl
  | some z=>exact congrArg some (Prod.ext (by show bs++l::z.1=(bs++[l])++z.1;rw [List.append_assoc];rfl) rfl)
theorem HeardAt.no {C:Addr}{H H2:Hp}{p t D la:Addr}{lens b r:List Nat}{bs:List (List Int)}{refs:List Addr}{n:Nat} (A:HeardAt C H p t D la lens b bs r refs H2) (hn:lens[bs.length]?=some n) (hh:TW.hearBand TW.par n 16 1 r=none):TW.hearBands TW.par lens b=none:=by
 have hi:=(List.getElem?_eq_some_iff.mp hn).1;have e:lens.drop bs.length=n::lens.drop (bs.length+1):=by
  rw [List.drop_eq_getElem_cons hi];congr 1;rw [List.getElem?_eq_getElem hi] at hn;exact Option.some.inj hn
 have e2:TW.hearBands TW.par (n::lens.drop (bs.length+1)) r=none:=by
  show (TW.hearBand TW.par n 16 1 r).bind _=_;rw [hh];rfl
 rw [A.heard,e,e2];rfl
inductive de (C CN:Addr)(vs:List V)(H:Hp)(Q:VK)(E:XK):Prop
 | mk (p t:Addr) (b:List Nat) (w h n:Nat):(vs=[.ref p,.int w,.int h,.int n])->(RdAt C H p t b)->(b.length<=800000)->(0<w)->(0<h)->(w<=256)->(h<=256)->(n<=5)->((∀l r,TW.heardPlane w h n b=some (l,r)->∀q H',H q=none->H' q=some (.lst (l.map V.int))->RdAt C H' p t r->fA p H H'->Q (.ref q) H'))->((TW.heardPlane w h n b=none->∀H',E (.ref CN) none H'))->de C CN vs H Q E
theorem qh:FnScope ["reader","width","height","levels","bands","length"] ["reader","width","height","levels"] (ae d6):=.ck
theorem on {C CN:Addr}(D:aB K mg "heard_plane" d6)(oL:OkF P w K mg base CX0 3 "band_lengths" ["width","height","levels"] eL)(oB:OkF P w K mg base (CX1 P w) 3 "hear_band" ["length","reader"] (f6 C CN))
  (oR:OkF P w K mg base CX0 4 "rows_of" ["bands","width","height","levels"] (oa K)) (oF:OkF P w K mg base CX0 1 "flat" ["rows"] pT):OkF P w K mg base (CX1 P w) 5 "heard_plane" ["reader","width","height","levels"] (de C CN):=by
 refine D.okx qh λ_ _ _ _ _ H _ Q E hr h X hX=>?_;subst hX;obtain ⟨p,t,b,w,h,n,rfl,hR,hb,hw,hh,hw2,hh2,hn,k1,k2⟩:=h;have hr1:Room 1 _:=hr.mono (by decide);have hr3:Room 3 _:=hr.mono (by decide);refine ⟨_,ac (vR (i:=4) (own:=[("length",5)]) (g:=aA 5) (te:=iY (f6 C CN) [] E (dI (tVar 5) (dI (tVar 0) tNil))) au rfl rfl qh.nd rfl rfl (u6 rfl rfl rfl (by decide +kernel)) (aQ (az oL hr3 rfl (aa (pv 1) (aa (pv 2) (aa (pv 3) ad))))) (h7 (by kernel_rfl))
   (λs H C cl fp=>pg_nameA (i:=5) qh.nd) (λs H C cl fp=>ke) (λs H C cl fp hp=>pe_f oB hr3 rfl hp (aa (pv 5) (aa (pv 0) ad))))
  (af (ao (az oF hr1 rfl (aa (az oR hr rfl (aa (pv 4) (aa (pv 1) (aa (pv 2) (aa (pv 3) ad))))) ad)))),?_⟩
 have hwh:w*h<=256*256:=Nat.mul_le_mul hw2 hh2;refine ⟨_,rfl,_,rfl,_,rfl,w,h,n,rfl,hw,hh,hw2,hh2,hn,λla H1 s1 n1 g1=>?_⟩;have hlens:=zw (k:=n) hw hh;generalize hln:TW.bandLens n w h=lens at g1 hlens;refine ⟨la,rfl,⟨_,SqL.of g1⟩,λD1 hD1=>?_⟩;have hR1:=hR.same s1;have hpD:=hR1.p_ne hD1;have hlD:la≠D1:=ne_of_none g1 hD1;refine mH (K:=K) (xs:=(Sp21.ints lens).map V.int) (λi H2=>∃(bs:List (List Int)) (r:List Nat) (refs:List Addr),bs.length=i/\HeardAt C H1 p t D1 la lens b bs r refs H2) ⟨[],b,[],rfl,?_⟩ (λi H2 _ ⟨_,_,_,_,A⟩=>SqL.of A.la) ?_ ?_
 ·exact ⟨.start hR1 hD1,Nat.le_refl _,by rw [upd_ne hlD];exact g1,(by show _=(TW.hearBands TW.par lens b).map _;cases TW.hearBands TW.par lens b <;> rfl)⟩
 ·rintro i x H2 hx ⟨bs,r,refs,rfl,A⟩;have hx2:∃m:Nat,lens[bs.length]?=some m/\x=.int (m:Int):=by
   rw [List.getElem?_map] at hx;unfold Sp21.ints at hx;rw [List.getElem?_map] at hx;cases e:lens[bs.length]? with
   | none=>rw [e] at hx;cases hx
   | some m=>rw [e] at hx;cases hx;exact ⟨m,rfl,rfl⟩
  obtain ⟨m,hm,rfl⟩:=hx2;have hml:=hlens m (List.mem_of_getElem? hm);have hle:=A.le;refine ⟨rfl,tD ?_⟩;refine ⟨_,rfl,_,rfl,p,t,r,m,rfl,A.rd,by omega,by omega,λl r' hh q H4 nq gq hR4 s4=>?_,λhh H4=>k2 (by unfold TW.heardPlane;rw [hln,A.no hm hh];rfl) H4⟩;refine ⟨refs.map V.ref,s4 _ _ A.lst (A.rd.lst_ne A.lst),?_,bs++[l],r',refs++[q],by rw [List.length_append];rfl,A.next hm hh nq gq hR4 s4 hpD hlD hD1⟩;have:=(List.getElem?_eq_some_iff.mp hm).1;have hll:lens.length=1+3*n:=by rw [<- hln];exact aN _ _ _
  rw [List.length_map,A.len];exact Nat.lt_of_lt_of_le (show bs.length<100 by omega) (line_ge (by decide))
 ·rintro H2 ⟨bs,r,refs,hbl,A⟩;have hlen:((Sp21.ints lens).map V.int).length=lens.length:=by simp [Sp21.ints]
  rw [hlen] at hbl;have hB:=A.heard;rw [hbl,List.drop_length] at hB;have hB2:TW.hearBands TW.par lens b=some (bs,r):=by rw [hB];show some (bs++[],r)=_;rw [List.append_nil]
  have hbs:=hearBands_lens hB2;have hPl:TW.heardPlane w h n b=some ((TW.rowsOf n bs w h).flatten,r):=by unfold TW.heardPlane;rw [hln,hB2];rfl
  rw [<- hln] at hbs;have hRect:=rowsOf_rect n hbs hw hh;have hfl:=flatten_rect hRect;refine ⟨_,rfl,_,rfl,_,rfl,_,rfl,D1,bs,w,h,n,rfl,A.grid,hbs,hw,hh,hw2,hh2,hn,λq1 H3 s3 n3 g3=>?_⟩;refine ⟨q1,_,rfl,g3,by rw [hfl];omega,λq2 H4 s4 n4 g4=>?_⟩;exact k1 _ _ hPl q2 H4 (s1.free (A.free (s3.free n4))) g4 (A.rd.same (s3.trans s4)) λx o e hx=>(s3.trans s4) _ _ (A.same _ _ (s1 _ _ e) hx)
theorem gn:∀{lens b:List Nat}{x:List (List Int)×List Nat},(∀y∈b,y<2)->TW.hearBands TW.par lens b=some x->x.2.length<=b.length/\∀y∈x.2,y<2
 | [],b,x,hb,h=>by
  have e:=Option.some.inj (show some ([],b)=some x from h);subst e;exact ⟨Nat.le_refl _,hb⟩
 | n::r,b,x,hb,h=>by
  have h:(TW.hearBand TW.par n 16 1 b).bind (λx=>(TW.hearBands TW.par r x.2).map λy=>(x.1::y.1,y.2))=some x:=h;obtain ⟨y,h1,h2⟩:=Option.bind_eq_some_iff.mp h;obtain ⟨z,h3,rfl⟩:=Option.map_eq_some_iff.mp h2;obtain ⟨l,r'⟩:=y;have hl:=iV hb h1;have hm:=hearBand_mem hb h1;obtain ⟨q1,q2⟩:=gn hm h3;exact ⟨Nat.le_trans q1 hl,q2⟩
where
 hearBand_mem {n a c:Nat}{b r:List Nat}{l:List Int} (hb:∀x∈b,x<2) (h:TW.hearBand TW.par n a c b=some (l,r)):∀x∈r,x<2:=by
  induction n generalizing a c b l with
  | zero =>
   have e:=Option.some.inj (show some ([],b)=some (l,r) from h);cases e;exact hb
  | succ n ih =>
   cases hM:hearM (TW.par a c) b with
   | none=>rw [gU hM] at h;cases h
   | some x =>
    obtain ⟨m,r'⟩:=x;rw [hearBand_step hM] at h;obtain ⟨z,h3,e⟩:=Option.map_eq_some_iff.mp h;cases e;obtain ⟨_,hle,hmem⟩:=oi hb (Nat.le_refl _) hM;exact ih (λx hx=>hb x (hmem x hx)) h3
theorem oo {w h n:Nat}{b r:List Nat}{l:List Int} (hw:0<w) (hh:0<h) (hb:∀y∈b,y<2) (e:TW.heardPlane w h n b=some (l,r)):l.length=w*h/\r.length<=b.length:=by
 unfold TW.heardPlane at e;obtain ⟨x,h1,e2⟩:=Option.map_eq_some_iff.mp e;cases e2;exact ⟨flatten_rect (rowsOf_rect n (hearBands_lens h1) hw hh),(gn hb h1).1⟩
theorem jN {w h k n:Nat}{b r:List Nat}{l:List Int} (e:TW.heardPlane w h k b=some (l,r)):TW.heardPlanes w h k (n+1) b=(TW.heardPlanes w h k n r).map λx=>l::x:=by
 show (TW.heardPlane w h k b).bind _=_;rw [e];rfl
theorem lP {w h k n:Nat}{b:List Nat} (e:TW.heardPlane w h k b=none):TW.heardPlanes w h k (n+1) b=none:=by
 show (TW.heardPlane w h k b).bind _=_;rw [e];rfl
theorem cI:∀(l:List (List Int)),(TW.unmixed l).length=l.length
 | []=>rfl
 | [_]=>rfl
 | [_,_]=>rfl
 | _::_::_::_=>rfl
inductive dq (K:W.Frag)(CN:Addr)(vs:List V)(H:Hp)(Q:VK)(E:XK):Prop
 | mk (a:Addr) (b:List Nat) (kinds w h n:Nat):(vs=[.ref a,.int kinds,.int w,.int h,.int n])->(SqL K H a (B b))->((∀x∈b,x<256))->(b.length<=100000)->(1<=kinds)->(kinds<=4)->(0<w)->(0<h)->(w<=256)->(h<=256)->(n<=5)->((∀ps,TW.heardPlanes w h n kinds ((b.drop 1).flatMap (Sp21.bitsOf 8))=some ps->Ans H ((TW.weave kinds (w*h) (TW.unmixed ps)).map V.int) Q))->((TW.heardPlanes w h n kinds ((b.drop 1).flatMap (Sp21.bitsOf 8))=none->∀H',E (.ref CN) none H'))->dq K CN vs H Q E
theorem lQ:FnScope ["coded","kinds","width","height","levels","reader","i"] ["coded","kinds","width","height","levels"] (ae cD):=.ck
theorem lu {C CN:Addr}(D:aB K mg "short_numbers" cD)(zR:mg "range"=none)(T:ReaderTxt K mg C)(oI:OkM P w K mg base CX0 1 C "__init__" ["self","told"] (fB C))(oP:OkF P w K mg base (CX1 P w) 5 "heard_plane" ["reader","width","height","levels"] (de C CN))
  (oU:OkF P w K mg base CX0 1 "unmixed" ["planes"] (iU K)) (oW:OkF P w K mg base CX0 1 "woven" ["planes"] (om K)):OkF P w K mg base (CX1 P w) 6 "short_numbers" ["coded","kinds","width","height","levels"] (dq K CN):=by
 refine D.okx lQ λ_ _ _ _ _ H _ Q E hr h X hX=>?_;subst hX;obtain ⟨a,b,kinds,w,h,n,rfl,hS,hb,hbl,hk1,hk4,hw,hh,hw2,hh2,hn,k1,k2⟩:=h;have hr1:Room 1 _:=hr.mono (by decide);have hr2:Room 2 _:=hr.mono (by decide);refine ⟨_,ac (ag (i:=5) lQ.nd (pJ oI T.toClsIn hr2 rfl (aa (aD aR (pv 0) (aI pe_int) bo) ad)))
  (af (ao (az oW hr1 rfl (aa (az oU hr1 rfl (aa (Ap (own:=[("i",6)]) (g:=aA 6) (te:=iY (de C CN) [] E (dI (tVar 5) (dI (tVar 2) (dI (tVar 3) (dI (tVar 4) tNil))))) au rfl rfl lQ.nd (cn rfl zR (aa (pv 1) ad)) (h7 (by kernel_rfl))
   (λs H C cl fp=>pg_nameA (i:=6) lQ.nd) (λs H C cl fp=>ke) (λs H C cl fp hp=>pe_f oP hr rfl hp (aa (pv 5) (aa (pv 2) (aa (pv 3) (aa (pv 4) ad)))))) ad)) ad)))),?_⟩
 refine ⟨_,rfl,1,rfl,a,_,rfl,hS,λt ht=>?_⟩;rw [show (1:Int)=((1:Nat):Int) from rfl,dB];have eB:(B b).drop 1=B (b.drop 1):=by simp [B,Sp21.ints,List.map_drop]
 rw [eB];have sT:=same_upd (o:=.lst (B (b.drop 1))) ht;intro x dx hx hdx hne;have htx:t≠x:=ne_of_none upd_same hx;refine ⟨x,dx,t,b.drop 1,rfl,upd_same,?_,λy hy=>hb y (List.mem_of_mem_drop hy),λH2 hR kp=>⟨rfl,?_⟩⟩
 ·rw [upd_ne htx,upd_ne (ne_of_none upd_same hdx)];exact upd_same
 have s2:Same (upd H t (.lst (B (b.drop 1)))) H2:=Same.made hx hdx kp;have sA:=sT.trans s2;have hbit8:((b.drop 1).flatMap (Sp21.bitsOf 8)).length=8*(b.length-1):=by rw [eZ,List.length_drop]
 generalize hbits:(b.drop 1).flatMap (Sp21.bitsOf 8)=bits at *;refine ⟨_,rfl,(kinds:Int),rfl,by omega,by omega,λD1 hD1=>?_⟩;rw [Int.toNat_natCast];have hpD:=hR.p_ne hD1;refine mG (λi H3=>∃(ps:List (List Int)) (r:List Nat) (refs:List Addr),ps.length=i/\GrowAt C H2 x t D1 ps r refs H3/\r.length<=bits.length/\(∀p∈ps,p.length=w*h)/\TW.heardPlanes w h n kinds bits=(TW.heardPlanes w h n (kinds-i) r).map (λz=>ps++z)) ⟨[],bits,[],rfl,.start hR hD1,Nat.le_refl _,(λp z=>nomatch z),?_⟩ ?_ ?_
 ·rw [Nat.sub_zero];cases TW.heardPlanes w h n kinds bits <;> rfl
 ·rintro i H3 hi ⟨ps,r,refs,rfl,A,hrl,hps,hB⟩;rw [show kinds-ps.length=(kinds-(ps.length+1))+1 by omega] at hB;refine ⟨rfl,tD ?_⟩;refine ⟨_,rfl,_,rfl,_,rfl,_,rfl,x,t,r,w,h,n,rfl,A.rd,by omega,hw,hh,hw2,hh2,hn,λl r' hP q H4 nq gq hR4 s4=>?_,λhP H4=>k2 (by rw [hB,lP hP];rfl) H4⟩;have hl:=oo hw hh A.rd.bits hP;refine ⟨refs.map V.ref,s4 _ _ A.lst (A.rd.lst_ne A.lst),?_,ps++[l],r',refs++[q],by rw [List.length_append];rfl,A.next nq gq hR4 s4 hpD hD1,by omega,λp hp=>?_,?_⟩
  ·rw [List.length_map,A.len];exact Nat.lt_of_lt_of_le (show ps.length<100 by omega) (line_ge (by decide))
  ·rcases List.mem_append.mp hp with z | z
   ·exact hps p z
   ·rw [List.mem_singleton.mp z];exact hl.1
  ·rw [hB,jN hP];cases TW.heardPlanes w h n (kinds-(ps.length+1)) r' with
   | none=>rfl
   | some z=>exact congrArg some (by show ps++l::z=(ps++[l])++z;rw [List.append_assoc];rfl)
 ·rintro H3 ⟨ps,r,refs,hpl,A,_,hps,hB⟩;rw [Nat.sub_self] at hB;have hB2:TW.heardPlanes w h n kinds bits=some ps:=by rw [hB];show some (ps++[])=_;rw [List.append_nil]
  have hwh:w*h<=256*256:=Nat.mul_le_mul hw2 hh2;have hwh0:0<w*h:=Nat.mul_pos hw hh;refine ⟨D1,ps,w*h,rfl,A.grid,hps,by omega,by omega,λu H4 s4 n4 G4=>?_⟩;refine ⟨u,TW.unmixed ps,w*h,rfl,G4,by rw [cI];omega,by rw [cI];omega,dj hps,hwh0,by omega,λv H5 s5 n5 g5=>?_⟩;rw [cI,hpl] at g5;refine k1 ps hB2 v H5 (λc o e=>?_) ?_ g5
  ·have hcx:c≠x:=ne_of_none (sT _ _ e) hx;exact (s4.trans s5) _ _ (A.same _ _ (sA _ _ e) hcx)
  ·exact sA.free (A.free (s4.free n5))
theorem rP {kinds w h n x:Nat}{r:List Nat} (h0:x≠0) (h1:x≠1):TW.heard kinds w h n (x::r)=none:=by
 match x,h0,h1 with
 | 0,h0,_=>exact absurd rfl h0
 | 1,_,h1=>exact absurd rfl h1
 | _+2,_,_=>rfl
theorem uy {kinds w h n:Nat}{r:List Nat} (e:r.length=2*(kinds*(w*h))):TW.heard kinds w h n (0::r)=some ((List.range (kinds*(w*h))).map λ(i:Nat)=>((r.getD (2*i) 0+256*r.getD (2*i+1) 0:Nat):Int)):=by
 show (if _ then _ else _)=_;rw [if_pos e]
theorem oq {kinds w h n:Nat}{r:List Nat} (e:r.length≠2*(kinds*(w*h))):TW.heard kinds w h n (0::r)=none:=by
 show (if _ then _ else _)=_;rw [if_neg e]
theorem qi {kinds w h n:Nat}{r:List Nat}:TW.heard kinds w h n (1::r)=(TW.heardPlanes w h n kinds (r.flatMap (Sp21.bitsOf 8))).map λps=>TW.weave kinds (w*h) (TW.unmixed ps):=rfl
inductive du (K:W.Frag)(CN:Addr)(vs:List V)(H:Hp)(Q:VK)(E:XK):Prop
 | mk (a:Addr) (b:List Nat) (kinds w h n:Nat):(vs=[.ref a,.int kinds,.int w,.int h,.int n])->(SqL K H a (B b))->((∀x∈b,x<256))->(0<b.length)->(b.length<=100000)->(1<=kinds)->(kinds<=4)->(0<w)->(0<h)->(w<=256)->(h<=256)->(n<=5)->((∀l,TW.heard kinds w h n b=some l->Ans H (l.map V.int) Q))->((TW.heard kinds w h n b=none->∀H',E (.ref CN) none H'))->du K CN vs H Q E
inductive eN (K:W.Frag)(CN:Addr)(vs:List V)(H:Hp)(Q:VK)(E:XK):Prop
 | mk (a:Addr) (b:List Nat) (kinds w h n:Nat):(vs=[.ref a,.int kinds,.int w,.int h,.int n])->(SqL K H a (B b))->((∀x∈b,x<256))->(0<b.length)->(b.length<=100000)->(1<=kinds)->(kinds<=4)->(0<w)->(0<h)->(w<=256)->(h<=256)->(n<=5)->((∀l,TW.eS kinds w h n b=some l->Ans H (l.map V.int) Q))->((TW.eS kinds w h n b=none->∀H',E (.ref CN) none H'))->eN K CN vs H Q E
theorem xN {kinds w h n:Nat}{b:List Nat}{l:List Int} (e:TW.heard kinds w h n b=some l) (h1:∀z∈l,0<=z/\z<=65535) (h2:Sp21.tileCode kinds w h n l=b):TW.eS kinds w h n b=some l:=by
 unfold TW.eS;rw [e];show (if _ then _ else _)=_;rw [if_pos ⟨h1,h2⟩]
theorem tE {kinds w h n:Nat}{b:List Nat}{l:List Int} (e:TW.heard kinds w h n b=some l) (h1:¬((∀z∈l,0<=z/\z<=65535)/\Sp21.tileCode kinds w h n l=b)):TW.eS kinds w h n b=none:=by
 unfold TW.eS;rw [e];show (if _ then _ else _)=_;rw [if_neg h1]
theorem uz {kinds w h n:Nat}{b:List Nat} (e:TW.heard kinds w h n b=none):TW.eS kinds w h n b=none:=by
 unfold TW.eS;rw [e];rfl
theorem lR:FnScope ["coded","kinds","width","height","levels"] ["coded","kinds","width","height","levels"] (ae cE):=.ck
theorem lv {CN:Addr}(D:aB K mg "heard_numbers" cE)(cN:ExcAt K mg "NotACode" CN)(oP:OkF P w K mg base (CX1 P w) 1 "plain_numbers" ["coded","many"] (dn K CN))(oS:OkF P w K mg base (CX1 P w) 6 "short_numbers" ["coded","kinds","width","height","levels"] (dq K CN)) :
  OkF P w K mg base (CX1 P w) 7 "heard_numbers" ["coded","kinds","width","height","levels"] (du K CN):=by
 refine D.okx lR λ_ _ _ _ _ H _ Q E hr h X hX=>?_;subst hX;obtain ⟨a,b,kinds,w,h,n,rfl,hS,hb,hb0,hbl,hk1,hk4,hw,hh,hw2,hh2,hn,k1,k2⟩:=h;have hr1:Room 1 _:=hr.mono (by decide);refine ⟨_,ac (di (aC qv (aq ay (pv 0) pe_int) pe_int rfl) (af (ao (pe_f oP hr1 rfl (bH au) (aa (pv 0) (aa (aj be (aj be (pv 1) (pv 2)) (pv 3)) ad))))) bc)
  (ac (di (aC qv (aq ay (pv 0) pe_int) pe_int rfl) (af (ao (pe_f oS hr rfl (bH au) (aa (pv 0) (aa (pv 1) (aa (pv 2) (aa (pv 3) (aa (pv 4) ad)))))))) bc)
  (af (cj au rfl rfl cN))),?_⟩
 obtain ⟨x,r,rfl⟩:∃x r,b=x::r:=by
  cases b with
  | nil=>cases hb0
  | cons x r=>exact ⟨x,r,rfl⟩
 have hwh:w*h<=256*256:=Nat.mul_le_mul hw2 hh2;have hkw:kinds*w<=4*256:=Nat.mul_le_mul hk4 hw2;refine ⟨_,rfl,a,_,_,_,rfl,rfl,hS,bx (j:=0) rfl rfl,rfl,_,rfl,?_⟩;by_cases h0:x=0
 ·subst h0;refine br_t (decide_eq_true rfl) ?_;refine ⟨_,rfl,_,rfl,_,rfl,_,_,rfl,rfl,.inl ⟨by omega,by omega⟩,_,rfl,_,_,rfl,rfl,.inr ⟨by omega,by omega⟩,a,0::r,kinds*(w*h),?_,hS,hbl,Nat.mul_pos hk1 (Nat.mul_pos hw hh),λhl=>?_,λhl H'=>k2 (oq (by simp only [List.length_cons] at hl;omega)) H'⟩
  ·show [V.ref a,V.int ((kinds:Int)*(w:Int)*(h:Int))]=_;rw [show ((kinds:Int)*(w:Int)*(h:Int))=((kinds*(w*h):Nat):Int) by rw [Int.natCast_mul,Int.natCast_mul,Int.mul_assoc]]
  ·exact k1 _ (uy (by simp only [List.length_cons] at hl;omega))
 ·refine br_f (decide_eq_false λz=>h0 (by have e:V.int (x:Int)=V.int 0:=z;have:=V.int.inj e;omega)) ?_;refine ⟨_,rfl,a,_,_,_,rfl,rfl,hS,bx (j:=0) rfl rfl,rfl,_,rfl,?_⟩;by_cases h1:x=1
  ·subst h1;refine br_t (decide_eq_true rfl) ?_;refine ⟨_,rfl,_,rfl,_,rfl,_,rfl,_,rfl,a,1::r,kinds,w,h,n,rfl,hS,hb,hbl,hk1,hk4,hw,hh,hw2,hh2,hn,λps e=>?_,λe H'=>k2 (by rw [qi,show r.flatMap (Sp21.bitsOf 8)=((1::r).drop 1).flatMap (Sp21.bitsOf 8) from rfl,e];rfl) H'⟩;exact k1 _ (by rw [qi,show r.flatMap (Sp21.bitsOf 8)=((1::r).drop 1).flatMap (Sp21.bitsOf 8) from rfl,e];rfl)
  ·refine br_f (decide_eq_false λz=>h1 (by have e:V.int (x:Int)=V.int 1:=z;have:=V.int.inj e;omega)) ?_;exact k2 (rP h0 h1) _
theorem AE {a b:List Nat}:Sp21.ints a=Sp21.ints b↔a=b:=by
 constructor
 ·intro h;have:=congrArg (λl=>l.map Int.toNat) h;simpa [Sp21.ints,List.map_map,Function.comp_def] using this
 ·intro h;rw [h]
theorem scTileNumbers:FnScope ["coded","kinds","width","height","levels","numbers"] ["coded","kinds","width","height","levels"] (ae c9):=.ck
theorem lS {CN:Addr}(D:aB K mg "tile_numbers" c9)(cN:ExcAt K mg "NotACode" CN)(oH:OkF P w K mg base (CX1 P w) 7 "heard_numbers" ["coded","kinds","width","height","levels"] (du K CN))(oN:OkF P w K mg base CX0 2 "numbers_in_range" ["numbers"] (gQ K))
  (oT:OkF P w K mg base CX0 6 "tile_code" ["numbers","kinds","width","height","levels"] (jk K)):OkF P w K mg base (CX1 P w) 8 "tile_numbers" ["coded","kinds","width","height","levels"] (eN K CN):=by
 refine D.okx scTileNumbers λ_ _ _ _ _ H _ Q E hr h X hX=>?_;subst hX;obtain ⟨a,b,kinds,w,h,n,rfl,hS,hb,hb0,hbl,hk1,hk4,hw,hh,hw2,hh2,hn,k1,k2⟩:=h;have hr2:Room 2 _:=hr.mono (by decide);have hr6:Room 6 _:=hr.mono (by decide);refine ⟨_,ac (ag (i:=5) scTileNumbers.nd (pe_f oH hr rfl (bH au) (aa (pv 0) (aa (pv 1) (aa (pv 2) (aa (pv 3) (aa (pv 4) ad)))))))
  (ac (di (rW (uE (az oN hr2 (by rfl) (aa (pv 5) ad)))) (af (cj au rfl rfl cN)) bc)
  (ac (di (aC (An hr.units) (az oT hr6 rfl (aa (pv 5) (aa (pv 1) (aa (pv 2) (aa (pv 3) (aa (pv 4) ad)))))) (pv 0) (cK _)) (af (cj au rfl rfl cN)) bc)
  (af (ao (pv 5))))),?_⟩
 refine ⟨_,rfl,_,rfl,_,rfl,_,rfl,_,rfl,a,b,kinds,w,h,n,rfl,hS,hb,hb0,hbl,hk1,hk4,hw,hh,hw2,hh2,hn,λl e p H1 s1 n1 g1=>?_,λe H'=>k2 (uz e) H'⟩;have hll:=heard_length e;refine ⟨_,rfl,p,l,rfl,SqL.of g1,_,rfl,?_⟩;cases hi:pL 0 65535 l with
 | false=>exact iteT (k2 (tE e λz=>by rw [pM.mpr ⟨λx hx=>(z.1 x hx).1,λx hx=>(z.1 x hx).2⟩] at hi;cases hi) _)
 | true =>
  have hnum:zm l:=λz hz=>⟨(pM.mp hi).1 z hz,(pM.mp hi).2 z hz⟩
  refine iteF ?_;refine ⟨_,rfl,_,rfl,_,rfl,_,rfl,_,rfl,p,l,kinds,w,h,n,rfl,SqL.of g1,⟨⟨hk1,hk4⟩,⟨hw,hw2⟩,⟨hh,hh2⟩,hn,by rw [hll,Nat.mul_assoc],hnum⟩,λq H2 s2 n2 g2=>?_⟩;refine ⟨_,rfl,q,a,Sp21.ints (Sp21.tileCode kinds w h n l),Sp21.ints b,rfl,rfl,SqL.of g2,(s1.trans s2).seq hS,_,rfl,?_⟩;by_cases hc:Sp21.tileCode kinds w h n l=b
  ·refine br_f (by rw [decide_eq_true (AE.mpr hc)];rfl) ?_;exact ⟨_,rfl,k1 l (xN e hnum hc) p H2 (s1.trans s2) n1 (s2 _ _ g1)⟩
  ·refine br_t (by rw [decide_eq_false (λz=>hc (AE.mp z))];rfl) ?_;exact k2 (tE e λz=>hc z.2) _
inductive gW (K:W.Frag)(CP CH CPl CN:Addr)(vs:List V)(H:Hp)(Q:VK)(E:XK):Prop
 | mk (p r a:Addr) (f:Sp21.Head) (l:List (List Nat)) (q:Sp21.Part) (b:List Nat):(vs=[.ref p,.ref r,.ref a])->(PartsAt CP CH H p f l)->(HeadOk f)->(bQ CPl H r q)->(0<q.w)->(0<q.h)->(q.w<=256)->(q.h<=256)->(SqL K H a (B b))->((∀x∈b,x<256))->(0<b.length)->(b.length<=100000)->((∀l,TW.eS f.kinds q.w q.h f.levels b=some l->Ans H (l.map V.int) Q))->((TW.eS f.kinds q.w q.h f.levels b=none->∀H',E (.ref CN) none H'))->gW K CP CH CPl CN vs H Q E
theorem rQ:FnScope ["parts","place","one"] ["parts","place","one"] (ae fS):=.ck
theorem qj {CP CH CPl CN:Addr}(D:aB K mg "numbers_at" fS)(TP:PartsTxt K mg CP)(TH:HeadTxt K mg CH)(TPl:PlaceTxt K mg CPl)(oT:OkF P w K mg base (CX1 P w) 8 "tile_numbers" ["coded","kinds","width","height","levels"] (eN K CN)) :
  OkF P w K mg base (CX1 P w) 9 "numbers_at" ["parts","place","one"] (gW K CP CH CPl CN):=by
 refine D.okx rQ λ_ _ _ _ _ H _ Q E hr h X hX=>?_;subst hX;obtain ⟨p,r,a,f,l,q,b,rfl,pa,fok,⟨dp,gp⟩,hw,hh,hw2,hh2,hS,hb,hb0,hbl,k1,k2⟩:=h;obtain ⟨dx,hp,ca,g1,⟨dh,gh⟩,L1⟩:=pa.ex;have fk:=fok.kinds;have fv:=fok.levels;refine ⟨_,af (ao (pe_f oT hr rfl (bH au) (aa (pv 2) (aa (ap (ap (pv 0) rfl) rfl) (aa (ap (pv 1) rfl) (aa (ap (pv 1) rfl) (aa (ap (ap (pv 0) rfl) rfl) ad))))))),?_⟩;exact ⟨_,rfl,_,rfl,p,CP,dx,_,_,rfl,g1,TP.cl,TP.nh,bv ..,hp,CH,dh,_,_,rfl,gh,TH.cl,TH.nk,nA ..,_,rfl,r,CPl,dp,_,_,rfl,gp,TPl.cl,TPl.nw,iK ..,_,rfl,r,CPl,dp,_,_,rfl,gp,TPl.cl,TPl.nh,iL ..,_,rfl,p,CP,dx,_,_,rfl,g1,TP.cl,TP.nh,bv ..,hp,CH,dh,_,_,rfl,gh,TH.cl,TH.nv,rg ..,
  a,b,f.kinds,q.w,q.h,f.levels,rfl,hS,hb,hb0,hbl,fk.1,fk.2,hw,hh,hw2,hh2,fv,k1,k2⟩
inductive Due where
 | ok (r:List Int)
 | out
 | nota
def Due.ans:Due->List Int
 | .ok r=>r
 | .out=>[-8]
 | .nota=>[-2]
theorem cutInto_mem {α:Type}:∀(ns:List Nat) (l:List α) {t:List α}{x:α},t∈Sp21.cutInto ns l->x∈t->x∈l
 | [],l,t,x,h,_=>nomatch h
 | n::ns,l,t,x,h,hx=>by
  rcases List.mem_cons.mp h with rfl | h
  ·exact List.mem_of_mem_take hx
  ·exact List.mem_of_mem_drop (cutInto_mem ns (l.drop n) h hx)
theorem cutInto_each {α:Type}:∀(ns:List Nat) (l:List α),(∀n∈ns,0<n)->ns.sum<=l.length->∀t∈Sp21.cutInto ns l,0<t.length/\t.length<=l.length
 | [],l,_,_,t,h=>nomatch h
 | n::ns,l,hp,hs,t,h=>by
  rw [List.sum_cons] at hs;rcases List.mem_cons.mp h with rfl | h
  ·have:=hp n (by simp);rw [List.length_take];omega
  ·have:=cutInto_each ns (l.drop n) (λm hm=>hp m (by simp [hm])) (by rw [List.length_drop];omega) t h;rw [List.length_drop] at this;omega
theorem qk {b:List Nat}{f:Sp21.Head}{l:List (List Nat)} (hb:Bytes b) (h:Sp21.headOf b=some (f,l)):∀t∈l,Bytes t/\0<t.length/\t.length<=b.length:=by
 rw [kD hb] at h;cases e:fc b with
 | none=>rw [e] at h;cases h
 | some g =>
  rw [e] at h;have h:(tilesP b g).map (λl=>(g,l))=some (f,l):=h;cases e2:tilesP b g with
  | none=>rw [e2] at h;cases h
  | some m =>
   rw [e2] at h;cases h;unfold tilesP at e2;dsimp only at e2;split at e2
   ·cases e2
   ·rename_i hc;cases e2;intro t ht;refine ⟨λx hx=>hb x (List.mem_of_mem_drop (cutInto_mem _ _ ht hx)),?_⟩;have hl:=cutInto_each _ _ (λn hn=>?_) ?_ t ht
    ·rw [List.length_drop] at hl;omega
    ·rcases Nat.eq_zero_or_pos n with z | z
     ·exact absurd (.inl (List.any_eq_true.mpr ⟨n,hn,by rw [z];rfl⟩)) hc
     ·exact z
    ·rw [List.length_drop];have:9+3*f.tiles+(lengthsOf b f.tiles).sum+4=b.length:=Classical.byContradiction λz=>hc (.inr z);omega
theorem ql {kinds w h n:Nat}{b:List Nat}{l:List Int} (e:TW.eS kinds w h n b=some l):l.length=kinds*(w*h):=by
 unfold TW.eS at e;obtain ⟨m,h1,h2⟩:=Option.bind_eq_some_iff.mp e;split at h2
 ·cases h2;exact heard_length h1
 ·cases h2
structure PlSmall (q:Sp21.Part)(kinds wide:Nat):Prop where
 x:q.x<=256
 y:q.y<=256
 w:q.w<=256
 h:q.h<=256
 kinds:kinds<=4
 wide:wide<=256
def startAt (q:Sp21.Part)(kinds wide y:Nat):Nat:=((q.y+y)*wide+q.x)*kinds
inductive gX (C:Addr)(vs:List V)(H:Hp)(Q:VK)(_e3:XK):Prop
 | mk (p:Addr) (q:Sp21.Part) (kinds wide:Nat):(vs=[.ref p,.int kinds,.int wide])->(bQ C H p q)->(PlSmall q kinds wide)->(Ans H (((List.range q.h).map λy=>((startAt q kinds wide y:Nat):Int)).map V.int) Q)->gX C vs H Q _e3
theorem rR:FnScope ["place","kinds","wide","y"] ["place","kinds","wide"] (ae fO):=.ck
theorem qm {C:Addr}(D:aB K mg "row_starts" fO)(zR:mg "range"=none)(T:PlaceTxt K mg C):OkF P w K mg base CX0 1 "row_starts" ["place","kinds","wide"] (gX C):=by
 refine D.ok rR λ_ _ _ _ _ H _ Q E hr h=>?_;obtain ⟨p,q,kinds,wide,rfl,⟨dx,hp⟩,hq,k⟩:=h;refine ⟨_,af (ao (cz (own:=[("y",3)]) (g:=aA 3) (te:=tOp (rI CMul λi j=>.int (i*j)) (tOp (rI0 λi j=>.int (i+j)) (tOp (rI CMul λi j=>.int (i*j)) (tVar 3) (tVar 2)) (tFld K (tVar 0) "x")) (tVar 1)) rR.nd (uM rfl zR (aa (ap (pv 0) rfl) (aa (aj aO (ap (pv 0) rfl) (ap (pv 0) rfl)) ad))) (λs H C cl fp=>pg_nameA (i:=3) rR.nd) (λs H C cl fp=>aj be (aj aO (aj be (pv 3) (pv 2)) (ap (pv 0) rfl)) (pv 1)))),?_⟩;refine ⟨_,rfl,p,C,dx,_,_,rfl,hp,T.cl,T.ny,jW ..,_,rfl,p,C,dx,_,_,rfl,hp,T.cl,T.ny,jW ..,_,rfl,p,C,dx,_,_,rfl,hp,T.cl,T.nh,iL ..,_,_,rfl,rfl,_,_,rfl,?_,λD1 hD1=>?_⟩
 ·have:=hq.y;have:=hq.h;omega
 have en:((q.y:Int)+(q.h:Int)-(q.y:Int)).toNat=q.h:=by omega
 rw [en];refine pI (λy=>((startAt q kinds wide y:Nat):Int)) hD1 (line_ge (by have:=hq.h;omega)) (λi H2 Q' hi s2 hQ=>?_) (λH2 s2 g2=>k D1 H2 s2 hD1 g2);have b1:=hq.wide;have b2:=hq.kinds;refine ⟨rfl,_,rfl,_,rfl,_,_,rfl,rfl,.inr ⟨by omega,by omega⟩,_,rfl,p,C,dx,_,_,rfl,s2 _ _ hp,T.cl,T.nx,nn ..,_,_,rfl,rfl,_,rfl,_,_,rfl,rfl,.inr ⟨by omega,by omega⟩,?_⟩;have e:(((q.y:Int)+(i:Int))*(wide:Int)+(q.x:Int))*(kinds:Int)=((startAt q kinds wide i:Nat):Int):=by
  unfold startAt;simp only [Int.natCast_mul,Int.natCast_add]
 try dsimp only
 rw [e];exact hQ _ (Same.refl _)
inductive rS (K:W.Frag)(C:Addr)(vs:List V)(H:Hp)(Q:VK)(_e3:XK):Prop
 | mk (s p a:Addr) (q:Sp21.Part) (kinds wide n:Nat) (tile:List Int) (L:Nat->List Int):(vs=[.ref s,.ref p,.int kinds,.int wide,.ref a])->(H s=some (.lst ((L 0).map V.int)))->(bQ C H p q)->(PlSmall q kinds wide)->(H a=some (.lst (tile.map V.int)))->(a≠s)->(n<=300000)->((∀j,j<=q.h->(L j).length=n))->((∀j,j<q.h->startAt q kinds wide j+q.w*kinds<=n/\((tile.drop (j*(q.w*kinds))).take (q.w*kinds)).length<=300000/\(L j).take (startAt q kinds wide j)++(tile.drop (j*(q.w*kinds))).take (q.w*kinds)++(L j).drop (startAt q kinds wide j+q.w*kinds)=L (j+1)))->(∀H',H' s=some (.lst ((L q.h).map V.int))->fA s H H'->Q .non H')->rS K C vs H Q _e3
theorem uA (xs zs:List Int)(lo len:Nat):js (xs.map V.int) (zs.map V.int) lo (lo+len)=(xs.take lo++zs++xs.drop (lo+len)).map V.int:=by
 unfold js;rw [Nat.max_eq_right (by omega),List.map_append,List.map_append,List.map_take,List.map_drop]
section
variable {X:Cx}{o l u st:Expr}{to tl tu ts:TE}{pos p2:Pos}
theorem zy (ho:PE X o to)(hl:PE X l tl)(hu:PE X u tu)
  (ha:∀v,assign (.Subscript o (.Slice (some l) (some u) none p2) pos) X.env v=(do
   let ov <- holding [v] (eval o X.env)
   let iv <- holding [v,ov] (eval (.Slice (some l) (some u) none p2) X.env)
   standAt pos
   holding [v,ov,iv] (setItem ov iv v)
   release [iv,v,ov] []):=by intro _;rfl):PG X (.Subscript o (.Slice (some l) (some u) none p2) pos) (gCut X.K to tl tu):=by
 intro pins s σ H v uv Q I rv h;rw [ha];refine wpAny_bind (wpAny_holding (thn (ho pins s σ H _ I h) λov s1 hz=>?_));obtain ⟨x,H1,I1,r1,q1⟩:=hz;refine wpAny_bind (wpAny_holding (wpAny_Slice ?_));rw [evalPart_some,evalPart_none,evalPart_some];refine thn (hl pins s1 σ H1 _ I1 q1) λvl s2 hz=>?_;obtain ⟨y,H2,I2,r2,q2⟩:=hz;refine thn (hu pins s2 σ H2 _ I2 q2) λvs s3 hz=>?_;obtain ⟨z,H3,I3,r3,q3⟩:=hz;refine wpAny_pure ?_;obtain ⟨a,b,xs,zs,i,j,rfl,rfl,rfl,rfl,hi,hj,hH,hb,hsz,q⟩:=q3;obtain ⟨t2,rfl⟩:=r2;obtain ⟨t3,rfl⟩:=r3;cases r1;cases rv;generalize hs4:({ s3 with heap:=s3.heap.push { cls:=.type "slice",data:=.fields #[.int (i:Int) t2,.int (j:Int) t3,.none] } }:Shared)=s4;have I4:Inv X pins σ H3 s4:=by rw [<- hs4];exact I3.kept (t':=s3.toks) λb ob q=>Heap.get?_push_of_some _ q
 have hsl:s4.heap.IsSliceOf s3.heap.objs.size (.int (i:Int) t2) (.int (j:Int) t3) .none:=by rw [<- hs4];exact Heap.IsSliceOf.new ..
 obtain ⟨zx,its,n,r,hlen,e⟩:=I4.lstM hH;obtain ⟨its2,r2,ht2,hz2⟩:=I4.list hb;have hlen2:=r2.length;refine wpAny_bind (wpAny_standAt (wpAny_bind (wpAny_holding ?_)));have eB:sliceBounds (some (i:Int)) (some (j:Int)) none its.toArray.size=((i:Int),(j:Int),1):=by rw [List.size_toArray];exact tO (by omega) (by omega)
 have fin:∀f:Array Value->Array Value,f its.toArray=(js its its2 i j).toArray ->
   wpAny (model X.prog X.w) X.A (release [Value.ref s3.heap.objs.size,Value.ref b,Value.ref a] []) (λ_ s'=>∃σ' H',Inv X pins σ' H' s'/\Q σ' H') X.xe { s4 with heap:=s4.heap.update a (Obj.mapSeq f) }:=λf hf =>
  wpAny_release ⟨σ,_,I4.lset (t':=s4.toks) hH e hf (qD i j r r2) (by unfold js;rw [List.length_append,List.length_append,List.length_take,List.length_drop];omega),q⟩
 refine setItem_slice (lo:=some (i:Int)) (hi:=some (j:Int)) (sp:=none) e hsl (.int _ _) (.int _ _) .none (by simp) ht2.isList (by rw [List.size_toArray];omega) ?_ ?_
 ·rw [eB]
  try dsimp only
  intro h1;refine ⟨by rw [List.size_toArray,List.size_toArray];omega,fin _ ?_⟩;have e2:(max (i:Int) (j:Int)).toNat=max i j:=by omega
  rw [Int.toNat_natCast,e2];unfold js;simp;exact List.take_of_length_le (by rw [List.length_drop];exact Nat.le_refl _)
 ·rw [eB]
  try dsimp only
  intro h1;exact absurd rfl h1
end
theorem zB:FnScope ["sheet","place","kinds","wide","numbers","length","i","start"] ["sheet","place","kinds","wide","numbers"] (ae sL):=.ck
theorem xO {C:Addr}(D:aB K mg "lay_in" sL)(zE:mg "enumerate"=none)(T:PlaceTxt K mg C)(oR:OkF P w K mg base CX0 1 "row_starts" ["place","kinds","wide"] (gX C)):OkF P w K mg base CX0 2 "lay_in" ["sheet","place","kinds","wide","numbers"] (rS K C):=by
 refine D.ok zB λ_ _ _ _ _ H _ Q E hr h=>?_;obtain ⟨s,p,a,q,kinds,wide,n,tile,L,rfl,hs,⟨dx,hp⟩,hq,ha,has,hn,hL,hrow,k⟩:=h;refine ⟨_,ac (ag (i:=5) zB.nd (aj be (ap (pv 1) rfl) (pv 2)))
  (af (bU PassesOwn.never rfl (qz rfl zE (aa (az oR hr rfl (aa (pv 1) (aa (pv 2) (aa (pv 3) ad)))) ad)) (bT rfl (am (pg_nameA (i:=6) zB.nd) (am (pg_nameA (i:=7) zB.nd) bn)))
   (af (rX (aD aR (pv 4) (aI (aj be (pv 6) (pv 5))) (aI (aj be (aj aO (pv 6) pe_int) (pv 5)))) (zy (pv 0) (pv 7) (aj aO (pv 7) (pv 5))))))),?_⟩
 have b1:=hq.kinds;have b2:=hq.w;have b3:=hq.h;have hlen:q.w*kinds<=256*4:=Nat.mul_le_mul b2 b1;have el:(q.w:Int)*(kinds:Int)=((q.w*kinds:Nat):Int):=by rw [Int.natCast_mul]
 refine ⟨_,rfl,p,C,dx,_,_,rfl,hp,T.cl,T.nw,iK ..,_,rfl,_,_,rfl,rfl,.inl ⟨by omega,by omega⟩,?_⟩
 try dsimp only
 rw [el];generalize hlc:q.w*kinds=len at *;refine ⟨_,rfl,_,rfl,_,rfl,p,q,kinds,wide,rfl,⟨dx,hp⟩,hq,λra H1 s1 n1 g1=>?_⟩;have hras:ra≠s:=(ne_of_none hs n1).symm;refine ⟨ra,_,rfl,SqL.of g1,mW (K:=K) (xs:=((List.range q.h).map λy=>((startAt q kinds wide y:Nat):Int)).map V.int) (λi σ H2=>∃u v,σ=[some (.ref s),some (.ref p),some (.int kinds),some (.int wide),some (.ref a),some (.int (len:Nat)),u,v]/\H2 s=some (.lst ((L i).map V.int))/\fA s H1 H2)
  ⟨none,none,rfl,s1 _ _ hs,λb o e _=>e⟩ (λi σ H2 _ ⟨_,_,_,_,s2⟩=>SqL.of (s2 _ _ g1 hras)) ?_ ?_⟩
 ·rintro i x Tt σ H2 hx hT ⟨u,v,rfl,hs2,s2⟩;have hi:i<q.h:=by have:=(List.getElem?_eq_some_iff.mp hx).1;simpa using this
  rw [List.getElem?_map,List.getElem?_map,List.getElem?_range hi] at hx;cases hx;obtain ⟨r1,r2,r3⟩:=hrow i hi;have hLi:=hL i (by omega);have sT:=same_upd (o:=.tup [.int (i:Nat),.int (startAt q kinds wide i:Nat)]) hT;have e1:(i:Int)*(len:Int)=((i*len:Nat):Int):=by rw [Int.natCast_mul]
  have e2:((i:Int)+1)*(len:Int)=((i*len+len:Nat):Int):=by rw [Int.add_mul,Int.one_mul,Int.natCast_add,Int.natCast_mul]
  have e3:((startAt q kinds wide i:Nat):Int)+(len:Int)=((startAt q kinds wide i+len:Nat):Int):=by omega
  refine ⟨Tt,_,rfl,SqT.of upd_same,rfl,_,_,rfl,_,_,rfl,rfl,_,rfl,_,rfl,_,rfl,_,_,rfl,rfl,.inl ⟨by omega,by omega⟩,_,rfl,_,rfl,_,_,rfl,rfl,_,rfl,_,_,rfl,rfl,.inl ⟨by omega,by omega⟩,_,rfl,a,_,rfl,SqL.of (sT _ _ (s2 _ _ (s1 _ _ ha) has)),λz hz=>?_⟩;rw [e1,e2,vN];have sz:=same_upd (o:=.lst (((tile.drop (i*len)).take len).map V.int)) hz;have hs3:=sz _ _ (sT _ _ hs2);refine ⟨_,rfl,_,rfl,_,rfl,_,rfl,_,_,rfl,rfl,s,z,_,_,startAt q kinds wide i,startAt q kinds wide i+len,rfl,rfl,rfl,(by show V.int _=V.int _;rw [e3]),by rw [List.length_map];omega,by rw [List.length_map];omega,hs3,SqL.of upd_same,?_,?_⟩
  ·rw [List.length_map,List.length_map,hLi];exact line_ge (by omega)
  ·rw [uA,r3];refine ⟨_,_,rfl,upd_same,λb o e hb=>?_⟩;rw [upd_ne hb];exact sz _ _ (sT _ _ (s2 _ _ e hb))
 ·rintro σ H2 ⟨u,v,rfl,hs2,s2⟩;rw [List.length_map,List.length_map,List.length_range] at hs2;exact k H2 hs2 λb o e hb=>s2 _ _ (s1 _ _ e) hb
inductive ot (vs:List V)(H:Hp)(Q:VK)(_e3:XK):Prop
 | mk (n k:Nat):(vs=[.int n,.int k])->(k<=5)->(Q (.int (Sp21.upTimes k n:Nat)) H)->ot vs H Q _e3
def iW (q:Sp21.Part)(e k:Nat):Sp21.Part:=⟨q.x/2 ^ e*2 ^ (e-k),q.y/2 ^ e*2 ^ (e-k),Sp21.upTimes k q.w,Sp21.upTimes k q.h⟩
inductive fE (C:Addr)(vs:List V)(H:Hp)(Q:VK)(_e3:XK):Prop
 | mk (p:Addr) (q:Sp21.Part) (e k:Nat):(vs=[.ref p,.int e,.int k])->(bQ C H p q)->(e<=8)->(k<=5)->(q.x<=256)->(q.y<=256)->(∀r H',Same H H'->H r=none->bQ C H' r (iW q e k)->Q (.ref r) H')->fE C vs H Q _e3
inductive dg (K:W.Frag)(vs:List V)(H:Hp)(Q:VK)(_e3:XK):Prop
 | mk (a:Addr) (p:List Int) (w h k:Nat):(vs=[.ref a,.int w,.int h,.int k])->(SqL K H a (p.map V.int))->(p.length=w*h)->(0<w)->(0<h)->(w<=256)->(h<=256)->(k<=5)->(Ans H ((TW.smallPlane k w h p).map V.int) Q)->dg K vs H Q _e3
inductive tF (vs:List V)(H:Hp)(Q:VK)(_e3:XK):Prop
 | mk (z:Int):(vs=[.int z])->(Q (.int (TW.vJ z)) H)->tF vs H Q _e3
inductive dv (K:W.Frag)(vs:List V)(H:Hp)(Q:VK)(_e3:XK):Prop
 | mk (a:Addr) (l:List Int) (kinds w h k:Nat):(vs=[.ref a,.int kinds,.int w,.int h,.int k])->(SqL K H a (l.map V.int))->(1<=kinds)->(kinds<=4)->(0<w)->(0<h)->(w<=256)->(h<=256)->(k<=5)->(l.length=kinds*(w*h))->(Ans H ((TW.smallNumbers kinds w h k l).map V.int) Q)->dv K vs H Q _e3
theorem mixed_count (l:List (List Int)):(TW.mixed l).length=l.length:=by
 unfold TW.mixed;split <;> rfl
theorem xP:FnScope ["n","times","i"] ["n","times"] (ae m7):=.ck
theorem wy (D:aB K mg "shrunk" m7)(zR:mg "range"=none)(oH:OkF P w K mg base CX0 1 "half" ["n"] pS):OkF P w K mg base CX0 2 "shrunk" ["n","times"] ot:=by
 refine D.ok xP λ_ _ _ _ _ H _ Q E hr h=>?_;obtain ⟨n,t,rfl,ht,k⟩:=h;refine ⟨_,ac (bU PassesOwn.never rfl (cn rfl zR (aa (pv 1) ad)) (pg_nameA (i:=2) xP.nd)
   (af (ag (i:=0) xP.nd (az oH hr rfl (aa (pv 0) ad)))))
  (af (ao (pv 0))),?_⟩
 refine ⟨_,rfl,((t:Nat):Int),rfl,by omega,by omega,?_⟩;rw [Int.toNat_natCast];refine j5 (λi σ H2=>∃u,σ=[some (.int (Sp21.upTimes i n:Nat)),some (.int t),u]/\H2=H) ⟨none,rfl,rfl⟩ ?_ ?_
 ·rintro i σ H2 hi ⟨u,rfl,rfl⟩;refine ⟨_,rfl,_,rfl,⟨some (.int (0+(i:Int))),?_,rfl⟩⟩;have e:((Sp21.upTimes i n:Nat)+1:Int)/2=((Sp21.upTimes (i+1) n:Nat):Int):=by
   rw [jE];unfold Sp21.up;omega
  rw [e];rfl
 ·rintro σ H2 ⟨u,rfl,rfl⟩;exact ⟨_,rfl,k⟩
theorem qo:FnScope ["place","e","times","side","width","height"] ["place","e","times"] (ae dZ):=.ck
theorem ou {C:Addr}(D:aB K mg "small_place" dZ)(T:PlaceTxt K mg C)(oI:OkM P w K mg base CX0 1 C "__init__" ["self","x","y","width","height"] (eD C))(oS:OkF P w K mg base CX0 2 "shrunk" ["n","times"] ot) :
  OkF P w K mg base CX0 3 "small_place" ["place","e","times"] (fE C):=by
 refine D.ok qo λ_ _ _ _ _ H _ Q E hr h=>?_;obtain ⟨p,q,e,t,rfl,hp,he,ht,hx,hy,k⟩:=h;have hr1:Room 2 _:=hr;refine ⟨_,ac (ag (i:=3) qo.nd (az oS hr1 rfl (aa (aj eP pe_int (pv 1)) (aa (pv 2) ad))))
  (ac (ag (i:=4) qo.nd (az oS hr1 rfl (aa (ap (pv 0) rfl) (aa (pv 2) ad))))
  (ac (ag (i:=5) qo.nd (az oS hr1 rfl (aa (ap (pv 0) rfl) (aa (pv 2) ad))))
  (af (ao (pJ oI T.toClsIn hr rfl (aa (aj be (aj lX (ap (pv 0) rfl) (pv 1)) (pv 3)) (aa (aj be (aj lX (ap (pv 0) rfl) (pv 1)) (pv 3)) (aa (pv 4) (aa (pv 5) ad))))))))),?_⟩
 obtain ⟨dp,gp⟩:=id hp;have es:(1:Int)*2 ^ ((e:Int)).toNat=((2 ^ e:Nat):Int):=by
  rw [Int.one_mul,Int.toNat_natCast];exact (Int.natCast_pow 2 e).symm
 refine ⟨_,rfl,1,e,rfl,rfl,⟨by omega,by omega,by decide⟩,?_⟩
 try dsimp only
 rw [es];refine ⟨_,rfl,2 ^ e,t,rfl,ht,?_⟩;rw [cf];refine ⟨_,rfl,p,C,dp,_,_,rfl,gp,T.cl,T.nw,iK ..,_,rfl,q.w,t,rfl,ht,?_⟩;refine ⟨_,rfl,p,C,dp,_,_,rfl,gp,T.cl,T.nh,iL ..,_,rfl,q.h,t,rfl,ht,?_⟩;have e1:∀n:Nat,(n:Int)/2 ^ ((e:Int)).toNat*((2 ^ (e-t):Nat):Int)=((n/2 ^ e*2 ^ (e-t):Nat):Int):=λn=>by
  rw [Int.toNat_natCast,show ((2:Int) ^ e)=((2 ^ e:Nat):Int) from (Int.natCast_pow 2 e).symm,<- Int.natCast_ediv,<- Int.natCast_mul]
 have b1:2 ^ (e-t)<=2 ^ 8:=Nat.pow_le_pow_right (by decide) (by omega);have b2:∀n:Nat,n<=256->n/2 ^ e<=256:=λn hn=>Nat.le_trans (Nat.div_le_self _ _) hn;have b3:∀n:Nat,n<=256->CMul ((n:Int)/2 ^ ((e:Int)).toNat) ((2 ^ (e-t):Nat):Int):=λn hn=>.inr ⟨Int.lt_of_lt_of_le (by decide) (Int.natCast_nonneg _),Int.lt_of_le_of_lt (Int.ofNat_le.mpr b1) (by decide)⟩;refine ⟨_,rfl,p,C,dp,_,_,rfl,gp,T.cl,T.nx,nn ..,_,rfl,_,_,rfl,rfl,by omega,_,rfl,_,_,rfl,rfl,b3 _ hx,_,rfl,p,C,dp,_,_,rfl,gp,T.cl,T.ny,jW ..,_,rfl,_,_,rfl,rfl,by omega,_,rfl,_,_,rfl,rfl,b3 _ hy,_,rfl,_,rfl,λr dx nr ndx ne=>?_⟩;refine ⟨r,dx,iW q e t,?_,upd_same,λH4 pl kp=>⟨rfl,?_⟩⟩
 ·rw [e1,e1];rfl
 ·exact k r H4 (Same.made nr ndx kp) nr pl
theorem qp:FnScope ["plane","width","height","times"] ["plane","width","height","times"] (ae d7):=.ck
theorem ow (D:aB K mg "small_plane" d7)(oC:OkF P w K mg base CX0 1 "cut_rows" ["numbers","width","height"] (dE K))(oB:OkF P w K mg base CX0 4 "bands_of" ["rows","levels"] iQ):OkF P w K mg base CX0 5 "small_plane" ["plane","width","height","times"] (dg K):=by
 refine D.ok qp λ_ _ _ _ _ H _ Q E hr h=>?_;obtain ⟨a,p,w,h,t,rfl,hS,hl,hw,hh,hw2,hh2,ht,k⟩:=h;have hr1:Room 1 _:=hr.mono (by decide);refine ⟨_,af (ao (aq ay (az oB hr rfl (aa (az oC hr1 rfl (aa (pv 0) (aa (pv 1) (aa (pv 2) ad)))) (aa (pv 3) ad))) pe_int)),?_⟩;refine ⟨_,rfl,_,rfl,_,rfl,a,p,w,h,rfl,hS,by omega,by omega,λc H1 s1 n1 G1=>?_⟩;refine ⟨_,rfl,c,TW.cutRows p w h,w,h,t,rfl,G1,Rect.cutRows hl,hw,hh,hw2,hh2,ht,λb H2 s2 n2 L2'=>?_⟩;obtain ⟨refs,g1,g2,g0,g3⟩:=id L2';have hb:0<(TW.tileBands t (TW.cutRows p w h) w h).length:=by rw [cS];omega
 have r0:refs[0]?=some refs[0]:=List.getElem?_eq_getElem (by omega);have gr:=g3 0 refs[0] _ r0 (List.getElem?_eq_getElem hb);have e:TW.smallPlane t w h p=(TW.tileBands t (TW.cutRows p w h) w h)[0]:=by
  unfold TW.smallPlane;rw [List.getD_eq_getElem?_getD,List.getElem?_eq_getElem hb];rfl
 refine ⟨b,_,_,_,rfl,rfl,SqL.of g1,bx (j:=0) rfl (by rw [List.getElem?_map,r0];rfl),k _ H2 (s1.trans s2) (s1.free gr.2) ?_⟩;rw [e];exact gr.1
theorem AF:FnScope ["number"] ["number"] (ae xl):=.ck
theorem zC (D:aB K mg "held" xl)(zMin:mg "min"=none)(zMax:mg "max"=none)(cH:∃t,mg "HIGHEST"=some (.int 65535 t)):OkF P w K mg base CX0 1 "held" ["number"] tF:=by
 refine D.ok AF λ_ _ _ _ _ H _ Q E hr h=>?_;obtain ⟨z,rfl,k⟩:=h;obtain ⟨tH,cH⟩:=cH;refine ⟨_,af (ao (aw (j7 rfl) (by rfl) zMin boot_min (aa (aw (uU rfl) (by rfl) zMax boot_max (aa (pv 0) (aa pe_int ad))) (aa (bj (v:=.int 65535) (by rfl) cH ⟨tH,rfl⟩) ad)))),?_⟩;refine ⟨_,rfl,_,_,rfl,_,_,rfl,?_⟩;have e:(if (65535:Int)<(if (0:Int) > z then 0 else z) then 65535 else (if (0:Int) > z then 0 else z))=TW.vJ z:=by
  unfold TW.vJ;split <;> split at*<;> omega
 rw [e];exact k
theorem lU:FnScope ["numbers","kinds","width","height","times","planes","corners","plane","number"] ["numbers","kinds","width","height","times"] (ae cG):=.ck
theorem lA (D:aB K mg "small_numbers" cG)(oP:OkF P w K mg base CX0 1 "planes_of" ["numbers","kinds"] (fZ K))(oM:OkF P w K mg base CX0 1 "mixed" ["planes"] (nX K))(oS:OkF P w K mg base CX0 5 "small_plane" ["plane","width","height","times"] (dg K))
  (oH:OkF P w K mg base CX0 1 "held" ["number"] tF) (oW:OkF P w K mg base CX0 1 "woven" ["planes"] (om K)) (oU:OkF P w K mg base CX0 1 "unmixed" ["planes"] (iU K)):OkF P w K mg base CX0 6 "small_numbers" ["numbers","kinds","width","height","times"] (dv K):=by
 refine D.ok lU λ_ _ _ _ _ H _ Q E hr h=>?_;obtain ⟨a,l,kinds,w,h,t,rfl,hS,hk1,hk4,hw,hh,hw2,hh2,ht,hl,k⟩:=h;have hr1:Room 1 _:=hr.mono (by decide);refine ⟨_,ac (ag (i:=5) lU.nd (az oM hr1 rfl (aa (az oP hr1 rfl (aa (pv 0) (aa (pv 1) ad))) ad)))
  (ac (aY (i:=6) (own:=[("plane",7)]) (g:=aA 7) (te:=iY (dg K) [] E0 (dI (tVar 7) (dI (tVar 2) (dI (tVar 3) (dI (tVar 4) tNil))))) lU.nd (aQ (pv 5)) (λs H C cl fp=>pg_nameA (i:=7) lU.nd) (λs H C cl fp=>az oS hr (by rfl) (aa (pv 7) (aa (pv 2) (aa (pv 3) (aa (pv 4) ad))))))
  (af (ao (cz (own:=[("number",8)]) (g:=aA 8) (te:=iY tF [] E0 (dI (tVar 8) tNil)) lU.nd (aQ (az oW hr1 rfl (aa (az oU hr1 rfl (aa (pv 6) ad)) ad))) (λs H C cl fp=>pg_nameA (i:=8) lU.nd) (λs H C cl fp=>az oH hr1 (by rfl) (aa (pv 8) ad)))))),?_⟩
 have harea:w*h<=65536:=Nat.mul_le_mul hw2 hh2;have hpos:0<w*h:=Nat.mul_pos hw hh;have lp:=mixed_length (l:=TW.planes kinds (w*h) l) planes_length;have cm:(TW.mixed (TW.planes kinds (w*h) l)).length=kinds:=by rw [mixed_count];simp [TW.planes]
 refine ⟨_,rfl,_,rfl,a,l,kinds,w*h,rfl,hS,hk1,hk4,hl,hpos,by omega,λb H1 s1 n1 G1=>?_⟩;refine ⟨b,TW.planes kinds (w*h) l,w*h,H,rfl,s1,G1,planes_length,by simp [TW.planes];omega,by omega,λc H2 s2 n2 G2=>?_⟩;obtain ⟨refs,g1,g2,g0,g3⟩:=id G2;generalize hmx:TW.mixed (TW.planes kinds (w*h) l)=mx at lp cm G2 g2 g3;refine ⟨_,rfl,c,rfl,⟨_,SqL.of g1⟩,λD1 hD1=>?_⟩;refine fN dY (mx.map (TW.smallPlane t w h)) (by rw [List.length_map,List.length_map,g2]) hD1 (SqL.of g1) (by rw [List.length_map,g2,cm];exact line_ge (by omega)) (λj x y H3 Q' hx hy s3 hD3 hq=>?_) (λH3 s3 L3=>?_)
 ·rw [List.getElem?_map] at hx hy;obtain ⟨r,er,rfl⟩:=Option.map_eq_some_iff.mp hx;obtain ⟨p,ep,rfl⟩:=Option.map_eq_some_iff.mp hy;exact ⟨rfl,_,rfl,_,rfl,_,rfl,_,rfl,r,p,w,h,t,rfl,SqL.of (s3 _ _ (g3 j r p er ep).1),lp p (List.mem_of_getElem? ep),hw,hh,hw2,hh2,ht,λz H4 s4 n4 h4=>hq z H4 s4 (iq n4 hD3) h4⟩
 ·have ls:∀p∈mx.map (TW.smallPlane t w h),p.length=Sp21.upTimes t w*Sp21.upTimes t h:=by
   intro p hp;obtain ⟨q,hq,rfl⟩:=List.mem_map.mp hp;exact dA (lp q hq) hw hh
  have u1:=cc t hw;have u2:=cc t hh;have ha2:Sp21.upTimes t w*Sp21.upTimes t h<=256*256:=Nat.mul_le_mul (by omega) (by omega);have hp2:0<Sp21.upTimes t w*Sp21.upTimes t h:=Nat.mul_pos (cT t hw) (cT t hh);refine ⟨_,rfl,D1,mx.map (TW.smallPlane t w h),_,rfl,L3,ls,by rw [List.length_map,cm];omega,by omega,λu H4 s4 n4 L4=>?_⟩;have cu:(TW.unmixed (mx.map (TW.smallPlane t w h))).length=kinds:=by rw [cI,List.length_map,cm]
  refine ⟨u,_,_,rfl,L4,by omega,by omega,dj ls,hp2,by omega,λv H5 s5 n5 g5=>?_⟩;rw [cu] at g5;refine ⟨v,rfl,⟨_,SqL.of g5⟩,λD6 hD6=>?_⟩;refine sv TW.vJ hD6 (SqL.of g5) (by rw [weave_length];exact line_ge (by have:=Nat.mul_le_mul hk4 ha2;omega)) (λi z H6 Q' hz s6 hq=>?_) (λH6 s6 g6=>?_)
  ·exact ⟨rfl,_,rfl,z,rfl,hq _ (Same.refl _)⟩
  ·have sA:=((((s1.trans s2).trans s3).trans s4).trans s5)
   refine k D6 H6 (sA.trans s6) (sA.free hD6) ?_;unfold TW.smallNumbers;rw [hmx];exact g6
theorem zD {f:Sp21.Head}(h:HeadW f){t:Nat}(ht:t<f.tiles):PlSmall (f.part t) f.kinds f.wide:=by
 have PO:=dN h ht;have p1:=PO.x;have p2:=PO.y;have p3:=PO.w;have p4:=PO.h;have h1:=h.kinds;have h2:=h.wide;have h3:=h.high;exact ⟨by omega,by omega,by omega,by omega,by omega,by omega⟩
def tilesZ (f:Sp21.Head)(l:List (List Nat)):List (Sp21.Part×List Int):=(List.range f.tiles).map λt=>(f.part t,(Sp21.readTile f l t).getD (List.replicate (f.kinds*((f.part t).w*(f.part t).h)) 0))
theorem jo {f:Sp21.Head}{l:List (List Nat)}{t:Nat} (ht:t<f.tiles):(tilesZ f l)[t]?=some (f.part t,(Sp21.readTile f l t).getD (List.replicate (f.kinds*((f.part t).w*(f.part t).h)) 0)):=by
 unfold tilesZ;rw [List.getElem?_map,List.getElem?_range ht];rfl
theorem wz (f:Sp21.Head)(l:List (List Nat)):Tiles f (tilesZ f l):=by
 refine ⟨by simp [tilesZ],λt p hp=>?_⟩;have ht:t<f.tiles:=by have:=(List.getElem?_eq_some_iff.mp hp).1;simpa [tilesZ] using this
 rw [jo ht] at hp;cases hp;refine ⟨rfl,?_⟩;cases e:Sp21.readTile f l t with
 | none=>exact List.length_replicate
 | some n=>exact (fj e).1.1
theorem AG {xs:List V}{v:V} (h:xs[xs.length-1]?=some v):atI xs (-1)=some v:=by
 have hl:=(List.getElem?_eq_some_iff.mp h).1;unfold atI ixN;rw [if_neg (by decide),if_pos (by omega),show (-1+(xs.length:Int)).toNat=xs.length-1 by omega];exact h
theorem jI {f:Sp21.Head}(h:HeadW f){k t:Nat}(ht:t<f.tiles):iW (f.part t) f.e k=(smallHead f k).part t:=by
 rw [ja h ht];have hs:=aG h;unfold iW;show (⟨t % f.across*2 ^ f.e/2 ^ f.e*_,t/f.across*2 ^ f.e/2 ^ f.e*_,_,_⟩:Sp21.Part)=_;rw [Nat.mul_div_cancel _ (by omega),Nat.mul_div_cancel _ (by omega)]
inductive gY (K:W.Frag)(CP CH CPl CN:Addr)(vs:List V)(H:Hp)(Q:VK)(E:XK):Prop
 | mk (p r a:Addr) (f:Sp21.Head) (l:List (List Nat)) (q:Sp21.Part) (b:List Nat) (k:Nat):(vs=[.ref p,.ref r,.ref a,.int k])->(PartsAt CP CH H p f l)->(HeadOk f)->(k<=5)->(bQ CPl H r q)->(0<q.w)->(0<q.h)->(q.w<=256)->(q.h<=256)->(SqL K H a (B b))->((∀x∈b,x<256))->(0<b.length)->(b.length<=100000)->((∀n,TW.eS f.kinds q.w q.h f.levels b=some n->Ans H ((TW.smallNumbers f.kinds q.w q.h k n).map V.int) Q))->((TW.eS f.kinds q.w q.h f.levels b=none->∀H',E (.ref CN) none H'))->gY K CP CH CPl CN vs H Q E
def fF (f:Sp21.Head)(k:Nat)(tl:List (Sp21.Part×List Int)):List Int:=Sp21.ints [f.kinds,(smallHead f k).wide,(smallHead f k).high]++Sp21.laid f.kinds (smallHead f k).wide (smallHead f k).high (smallTiles f k tl)
inductive fG (K:W.Frag)(CP CH CN:Addr)(vs:List V)(H:Hp)(Q:VK)(E:XK):Prop
 | mk (p:Addr) (f:Sp21.Head) (l:List (List Nat)) (k:Nat):(vs=[.ref p,.int k])->(PartsAt CP CH H p f l)->(HeadOk f)->(k<=5)->(l.length=f.tiles)->((∀c∈l,Bytes c/\0<c.length/\c.length<=100000))->((∀tl,Sp21.readAll f l=some tl->Ans H ((fF f k tl).map V.int) Q))->((Sp21.readAll f l=none->∀H',E (.ref CN) none H'))->fG K CP CH CN vs H Q E
theorem rT:FnScope ["parts","place","one","times","numbers"] ["parts","place","one","times"] (ae fT):=.ck
theorem qr {CP CH CPl CN:Addr}(D:aB K mg "small_tile" fT)(TP:PartsTxt K mg CP)(TH:HeadTxt K mg CH)(TPl:PlaceTxt K mg CPl)(oA:OkF P w K mg base (CX1 P w) 9 "numbers_at" ["parts","place","one"] (gW K CP CH CPl CN))
  (oS:OkF P w K mg base CX0 6 "small_numbers" ["numbers","kinds","width","height","times"] (dv K)):OkF P w K mg base (CX1 P w) 10 "small_tile" ["parts","place","one","times"] (gY K CP CH CPl CN):=by
 refine D.okx rT λ_ _ _ _ _ H _ Q E hr h X hX=>?_;subst hX;obtain ⟨p,r,a,f,l,q,b,t,rfl,pa,fok,ht,hP,hw,hh,hw2,hh2,hS,hB,hb0,hb,k1,k2⟩:=h;have hr6:Room 6 _:=hr.mono (by decide);obtain ⟨dx,hp,ca,g1,⟨dh,gh⟩,L1⟩:=pa.ex;obtain ⟨dp,gp⟩:=id hP;have fk:=fok.kinds;refine ⟨_,ac (ag (i:=4) rT.nd (pe_f oA hr rfl (bH au) (aa (pv 0) (aa (pv 1) (aa (pv 2) ad)))))
  (af (ao (az oS hr6 rfl (aa (pv 4) (aa (ap (ap (pv 0) rfl) rfl) (aa (ap (pv 1) rfl) (aa (ap (pv 1) rfl) (aa (pv 3) ad)))))))),?_⟩
 refine ⟨_,rfl,_,rfl,_,rfl,p,r,a,f,l,q,b,rfl,pa,fok,hP,hw,hh,hw2,hh2,hS,hB,hb0,hb,λn hn z H1 s1 n1 gz=>?_,λhn H1=>k2 hn H1⟩;refine ⟨_,rfl,_,rfl,p,CP,dx,_,_,rfl,s1 _ _ g1,TP.cl,TP.nh,bv ..,hp,CH,dh,_,_,rfl,s1 _ _ gh,TH.cl,TH.nk,nA ..,_,rfl,r,CPl,dp,_,_,rfl,s1 _ _ gp,TPl.cl,TPl.nw,iK ..,_,rfl,r,CPl,dp,_,_,rfl,s1 _ _ gp,TPl.cl,TPl.nh,iL ..,_,rfl,z,n,f.kinds,q.w,q.h,t,rfl,SqL.of gz,fk.1,fk.2,hw,hh,hw2,hh2,ht,ql hn,λy H2 s2 n2 gy=>k1 n hn y H2 (s1.trans s2) (s1.free n2) gy⟩
theorem qt:FnScope ["parts","times","kinds","places","last","wide","high","numbers","place","one"] ["parts","times"] (ae d8):=.ck
theorem ox {CP CH CPl CN:Addr}(D:aB K mg "small_sheet" d8)(zZ:mg "zip"=none)(TP:PartsTxt K mg CP)(TH:HeadTxt K mg CH)(TPl:PlaceTxt K mg CPl)(oP:OkM P w K mg base CX0 4 CH "places" ["self"] (dc CPl CH))(oS:OkF P w K mg base CX0 3 "small_place" ["place","e","times"] (fE CPl))(oL:OkF P w K mg base CX0 2 "lay_in" ["sheet","place","kinds","wide","numbers"] (rS K CPl))
  (oA:OkF P w K mg base (CX1 P w) 10 "small_tile" ["parts","place","one","times"] (gY K CP CH CPl CN)):OkF P w K mg base (CX1 P w) 11 "small_sheet" ["parts","times"] (fG K CP CH CN):=by
 refine D.okx qt λ_ _ _ _ _ H _ Q E hr h X hX=>?_;subst hX;obtain ⟨p,f,l,kk,rfl,pa,fok,hkk,hll,hcs,k1,k2⟩:=h;have hr2:Room 2 _:=hr.mono (by decide);have hr3:Room 3 _:=hr.mono (by decide);have hr4:Room 4 _:=hr.mono (by decide);obtain ⟨dx,hp,ca,g1,hd,L1⟩:=pa.ex;obtain ⟨dh,gh⟩:=id hd;obtain ⟨crefs,c1,c2,c0,c3⟩:=id L1;have fk:=fok.kinds;have fe:=fok.e;refine ⟨_,ac (ag (i:=2) qt.nd (ap (ap (pv 0) rfl) rfl))
  (ac (ag (i:=3) qt.nd (mo oP TH.cl hr4 gv (ap (pv 0) rfl)))
  (ac (ag (i:=4) qt.nd (az oS hr3 rfl (aa (aq ay (pv 3) (j6 eV pe_int)) (aa (ap (ap (pv 0) rfl) rfl) (aa (pv 1) ad)))))
  (ac (ag (i:=5) qt.nd (aj aO (ap (pv 4) rfl) (ap (pv 4) rfl)))
  (ac (ag (i:=6) qt.nd (aj aO (ap (pv 4) rfl) (ap (pv 4) rfl)))
  (ac (ag (i:=7) qt.nd (aj yh (bD (aa pe_int ad)) (aj be (aj be (pv 2) (pv 5)) (pv 6))))
  (ac (vL λhfr=>bU (dw au hfr) rfl (ib rfl zZ (aa (pv 3) (aa (ap (pv 0) rfl) ad))) (bT rfl (am (pg_nameA (i:=8) qt.nd) (am (pg_nameA (i:=9) qt.nd) bn)))
   (af (bd (az oL hr2 rfl (aa (pv 7) (aa (az oS hr3 rfl (aa (pv 8) (aa (ap (ap (pv 0) rfl) rfl) (aa (pv 1) ad)))) (aa (pv 2) (aa (pv 5) (aa (pe_f oA hr rfl (bH au) (aa (pv 0) (aa (pv 8) (aa (pv 9) (aa (pv 1) ad))))) ad)))))))))
  (af (ao (aj cW (bD (aa (pv 2) (aa (pv 5) (aa (pv 6) ad)))) (pv 7)))))))))),?_⟩
 have G:=jF (l:=kk) fok.w;have eT:=qX (l:=kk) fok.w;have gw:=G.wide;have gh2:=G.high;have tp:0<f.tiles:=tiles_pos fok;have lpt:=vK G;rw [eT] at lpt;refine ⟨_,rfl,p,CP,dx,_,_,rfl,g1,TP.cl,TP.nh,bv ..,hp,CH,dh,_,_,rfl,gh,TH.cl,TH.nk,nA ..,?_⟩;refine ⟨_,rfl,p,CP,dx,_,_,rfl,g1,TP.cl,TP.nh,bv ..,hp,dh,_,rfl,gh,(by kernel_rfl),hp,f,rfl,hd,fok,λpl H2 s2 n2 L2'=>?_⟩;obtain ⟨prefs,q1,q2,q0',q3⟩:=id L2';have hpl:(places f).length=f.tiles:=by rw [<- kA fok.w,List.length_map,List.length_range]
 have hpr:prefs.length=f.tiles:=by rw [q2,hpl]
 have small:∀t,t<f.tiles->∃r,prefs[t]?=some r/\bQ CPl H2 r (f.part t):=λt ht=>by
  have er:prefs[t]?=some (prefs[t]'(by omega)):=List.getElem?_eq_getElem (by omega);exact ⟨_,er,q3 t _ _ er (me fok.w ht)⟩
 have bnd:∀t,t<f.tiles->(f.part t).x<=256/\(f.part t).y<=256:=λt ht=>by
  have PO:=dN fok.w ht;have p1:=PO.x;have p2:=PO.y;have h2:=fok.wide;have h3:=fok.high;exact ⟨by omega,by omega⟩
 obtain ⟨rl,erl,PL⟩:=small (f.tiles-1) (by omega);obtain ⟨bl1,bl2⟩:=bnd (f.tiles-1) (by omega);refine ⟨_,rfl,_,rfl,pl,_,_,_,rfl,rfl,SqL.of q1,AG (by rw [List.length_map,hpr,List.getElem?_map,erl];rfl),_,rfl,p,CP,dx,_,_,rfl,s2 _ _ g1,TP.cl,TP.nh,bv ..,hp,CH,dh,_,_,rfl,s2 _ _ gh,TH.cl,TH.ne,nB ..,_,rfl,rl,_,f.e,kk,rfl,PL,fe.2,hkk,bl1,bl2,λla H3 s3 n3 PA=>?_⟩;rw [jI fok.w (by omega)] at PA;obtain ⟨dl,gl⟩:=id PA;refine ⟨_,rfl,la,CPl,dl,_,_,rfl,gl,TPl.cl,TPl.nx,nn ..,_,rfl,la,CPl,dl,_,_,rfl,gl,TPl.cl,TPl.nw,iK ..,_,_,rfl,rfl,?_⟩;refine ⟨_,rfl,la,CPl,dl,_,_,rfl,gl,TPl.cl,TPl.ny,jW ..,_,rfl,la,CPl,dl,_,_,rfl,gl,TPl.cl,TPl.nh,iL ..,_,_,rfl,rfl,?_⟩;rw [<- Int.natCast_add,<- Int.natCast_add,lpt.1,lpt.2];refine ⟨(by show 1<=sizeLine;decide),λq0 hq0=>?_⟩;have s4:=same_upd (o:=.lst [.int 0]) hq0;refine ⟨_,rfl,_,rfl,_,_,rfl,rfl,.inl ⟨by omega,by omega⟩,_,rfl,_,_,rfl,rfl,.inr ⟨by omega,by omega⟩,?_⟩;have emul:(f.kinds:Int)*((smallHead f kk).wide:Int)*((smallHead f kk).high:Int)=((f.kinds*(smallHead f kk).wide*(smallHead f kk).high:Nat):Int):=by rw [Int.natCast_mul,Int.natCast_mul]
 have hN:f.kinds*(smallHead f kk).wide*(smallHead f kk).high<=4*256*256:=Nat.mul_le_mul (Nat.mul_le_mul fk.2 gw.2) gh2.2;rw [emul];have TZ:=wz f l;have T:=ip (l:=kk) fok.w TZ;have hfl:=dW G T;generalize hfin:Sp21.laid (smallHead f kk).kinds (smallHead f kk).wide (smallHead f kk).high (smallTiles f kk (tilesZ f l))=fin at hfl;have hfl':fin.length=f.kinds*(smallHead f kk).wide*(smallHead f kk).high:=hfl;refine ⟨q0,_,_,rfl,rfl,upd_same,by omega,by omega,?_,λnum hnum=>?_⟩
 ·rw [Int.toNat_natCast];exact line_ge (by show 1*_<=_;omega)
 rw [Int.toNat_natCast,flat_zeros,<- hfl',<- tZ (f:=smallHead f kk)];have s5:=s4.new (o:=.lst ((layI (smallHead f kk) fin 0 0).map V.int)) hnum;have s25:=s2.trans (s3.trans s5);have hn4:H3 num=none:=s4.free hnum;have hnumH:H num=none:=s2.free (s3.free hn4);have hpln:pl≠num:=ne_of_none (s3 _ _ q1) hn4;have hcan:ca≠num:=ne_of_none c1 hnumH;refine ⟨_,rfl,_,rfl,p,CP,dx,_,_,rfl,s25 _ _ g1,TP.cl,TP.nc,pQ ..,pl,ca,_,_,rfl,SqL.of ((s3.trans s5) _ _ q1),SqL.of (s25 _ _ c1),yZ (K:=K) (xs:=prefs.map V.ref) (ys:=crefs.map V.ref) (λt σ H6=>∃u v,σ=[some (.ref p),some (.int kk),some (.int f.kinds),some (.ref pl),some (.ref la),some (.int (smallHead f kk).wide),some (.int (smallHead f kk).high),some (.ref num),u,v]/\H6 num=some (.lst ((layI (smallHead f kk) fin t 0).map V.int))/\fA num H3 H6/\∀t',t'<t->Sp21.readTile f l t'≠none)
  ⟨none,none,rfl,upd_same,λb o e _=>s5 _ _ e,λt' z=>absurd z (Nat.not_lt_zero _)⟩ (λi σ H6 _ ⟨_,_,_,_,s6,_⟩=>⟨SqL.of (s6 _ _ (s3 _ _ q1) hpln),SqL.of (s6 _ _ ((s2.trans s3) _ _ c1) hcan)⟩) ?_ ?_⟩
 ·rintro i x y Tt σ H6 hx hy hT ⟨u,v,rfl,hn6,s6,hall⟩;rw [List.getElem?_map] at hx hy;obtain ⟨r,er,rfl⟩:=Option.map_eq_some_iff.mp hx;obtain ⟨c,ec,rfl⟩:=Option.map_eq_some_iff.mp hy;have hi:i<f.tiles:=by have:=(List.getElem?_eq_some_iff.mp ec).1;omega
  have hli:i<l.length:=by omega
  have hig:i<(smallHead f kk).tiles:=by rw [eT];exact hi
  obtain ⟨r',er',PR⟩:=small i hi;obtain rfl:r'=r:=Option.some.inj (er'.symm.trans er);obtain ⟨dp,gp⟩:=id PR;have gc:=c3 i c _ ec (List.getElem?_eq_getElem hli);have sT:=same_upd (o:=.tup [.ref r',.ref c]) hT;have hrn:r'≠num:=ne_of_none (s3 _ _ gp) hn4;have old3:∀b o,H3 b=some o->upd H6 Tt (.tup [.ref r',.ref c]) b=some o:=λb o e=>sT _ _ (s6 _ _ e (ne_of_none e hn4));have old:Same H (upd H6 Tt (.tup [.ref r',.ref c])):=λb o e=>old3 _ _ ((s2.trans s3) _ _ e);have hcc:=hcs l[i] (List.getElem_mem hli);have pk:=dN fok.w hi;have pg:=dN G hig;have pw:=pk.w;have ph:=pk.h;obtain ⟨b1,b2⟩:=bnd i hi;have hwh:(f.part i).w*(f.part i).h<=256*256:=Nat.mul_le_mul pw.2 ph.2;have hT2:TileOk f.kinds (f.part i).w (f.part i).h f.levels:=⟨by omega,by omega,pw.1,ph.1,fok.levels⟩
  have egD:l.getD i []=l[i]:=by rw [List.getD_eq_getElem?_getD,List.getElem?_eq_getElem hli];rfl
  have hread:Sp21.readTile f l i=TW.eS f.kinds (f.part i).w (f.part i).h f.levels l[i]:=by
   rw [taken_eq hT2,<- egD];rfl
  refine ⟨Tt,_,rfl,SqT.of upd_same,rfl,_,_,rfl,_,_,rfl,rfl,_,rfl,_,rfl,_,rfl,p,CP,dx,_,_,rfl,old _ _ g1,TP.cl,TP.nh,bv ..,hp,CH,dh,_,_,rfl,old _ _ gh,TH.cl,TH.ne,nB ..,_,rfl,r',f.part i,f.e,kk,rfl,⟨dp,old3 _ _ (s3 _ _ gp)⟩,fe.2,hkk,b1,b2,λnp H7 s7 n7 PN=>?_⟩;rw [jI fok.w hi] at PN;have hn7:=s7 _ _ (sT _ _ hn6);refine ⟨_,rfl,_,rfl,_,rfl,_,rfl,_,rfl,_,rfl,p,r',c,f,l,f.part i,l[i],kk,rfl,(pa.same old).same s7,fok,hkk,⟨dp,s7 _ _ (old3 _ _ (s3 _ _ gp))⟩,pw.1,ph.1,pw.2,ph.2,SqL.of (s7 _ _ (old _ _ gc)),hcc.1,hcc.2.1,hcc.2.2,λn hn a H8 s8 n8 g8=>?_,λhn H8=>k2 (tY hi (by rw [hread,hn])) H8⟩;have hrd:Sp21.readTile f l i=some n:=by rw [hread,hn]
  have hz0:(tilesZ f l)[i]?=some (f.part i,n):=by rw [jo hi,hrd];rfl
  have hz:=gj (f:=f) (l:=kk) hz0;have hpnn:np≠num:=(ne_of_none (sT _ _ hn6) n7).symm;refine ⟨num,np,a,(smallHead f kk).part i,f.kinds,(smallHead f kk).wide,f.kinds*(smallHead f kk).wide*(smallHead f kk).high,TW.smallNumbers f.kinds (f.part i).w (f.part i).h kk n,λj=>layI (smallHead f kk) fin i j,rfl,s8 _ _ hn7,jG _ _ _ _ s8 PN,zD G hig,g8,(ne_of_none hn7 n8).symm,by omega,λj _=>by rw [kK];exact hfl,λj hj=>⟨pC pg.x pg.y hj,?_,?_⟩,λH9 h9 s9=>?_⟩
  ·rw [List.length_take];have:=Nat.mul_le_mul pg.w.2 fk.2;omega
  ·have hrow:=xc G hfl hig hj;have tr:=xf G T hz hj;rw [hfin] at tr;rw [show ((TW.smallNumbers f.kinds (f.part i).w (f.part i).h kk n).drop (j*(((smallHead f kk).part i).w*f.kinds))).take (((smallHead f kk).part i).w*f.kinds)=_ from tr];exact hrow
  ·refine ⟨_,_,rfl,?_,λb o e hb=>s9 _ _ ((s7.trans s8) _ _ (sT _ _ (s6 _ _ e hb))) hb,λt' ht'=>?_⟩
   ·rw [<- vG G hfl hig];exact h9
   ·rcases Nat.lt_or_ge t' i with z | z
    ·exact hall t' z
    ·have:t'=i:=by omega
     subst this;rw [hrd];intro z2;cases z2
 ·rintro σ H6 ⟨u,v,rfl,hn6,s6,hall⟩;have hmin:min (prefs.map V.ref).length (crefs.map V.ref).length=(smallHead f kk).tiles:=by rw [List.length_map,List.length_map,eT];omega
  rw [hmin] at hn6 hall;rw [xb G hfl] at hn6;rw [eT] at hall;have hsome:Sp21.readAll f l=some (tilesZ f l):=by
   refine tX TZ.len λt ht=>?_;cases e:Sp21.readTile f l t with
   | none=>exact absurd e (hall t ht)
   | some n=>exact ⟨n,rfl,by rw [jo ht,e];rfl⟩
  refine ⟨_,rfl,_,rfl,_,rfl,(by show 3<=sizeLine;decide),λq7 hq7=>?_⟩;have s7:=same_upd (o:=.lst [.int f.kinds,.int (smallHead f kk).wide,.int (smallHead f kk).high]) hq7;refine ⟨_,rfl,q7,num,_,_,rfl,rfl,upd_same,s7 _ _ hn6,?_,λz hz=>?_⟩
  ·rw [List.length_map];exact line_ge (by show 3+_<=16000000;omega)
  ·have s36:Same H (upd H6 q7 (.lst [.int f.kinds,.int (smallHead f kk).wide,.int (smallHead f kk).high])):=λb o e=>s7 _ _ (s6 _ _ ((s2.trans s3) _ _ e) (ne_of_none e hnumH));refine k1 _ hsome z _ (s36.new hz) (s36.free hz) ?_;unfold fF;rw [upd_same,show Sp21.laid f.kinds (smallHead f kk).wide (smallHead f kk).high (smallTiles f kk (tilesZ f l))=fin from hfin];rfl
def bR (k:Int)(b:List Nat):Due:=if Sp21.upTo k 0 5=false then .out else match Sp21.headOf b with
 | none=>.nota
 | some (f,l)=>if f.levels<k.toNat then .out else match Sp21.readAll f l with
  | none=>.nota
  | some t=>.ok (0::fF f k.toNat t)
theorem smallDue_k {k:Int}{b:List Nat} (h:¬(0<=k/\k<=5)):bR k b=.out:=by
 unfold bR;rw [if_pos (Bool.eq_false_iff.mpr λz=>h (by unfold Sp21.upTo at z;rw [Bool.and_eq_true,decide_eq_true_eq,decide_eq_true_eq] at z;exact z))]
theorem rV {k:Int}{b:List Nat} (h:0<=k/\k<=5):bR k b=match Sp21.headOf b with
 | none=>.nota
 | some (f,l)=>if f.levels<k.toNat then .out else match Sp21.readAll f l with
  | none=>.nota
  | some t=>.ok (0::fF f k.toNat t):=by
 unfold bR;rw [if_neg (by unfold Sp21.upTo;rw [decide_eq_true h.1,decide_eq_true h.2];decide)]
inductive eO (K:W.Frag)(CO CN:Addr)(vs:List V)(H:Hp)(Q:VK)(E:XK):Prop
 | mk (t:Int) (a:Addr) (b:List Nat):(vs=[.int t,.ref a])->(SqL K H a (B b))->(Bytes b)->(b.length<=100000)->((∀r,bR t b=.ok r->∀p H',H' p=some (.lst (r.map V.int))->Q (.ref p) H'))->((bR t b=.out->∀H',E (.ref CO) none H'))->((bR t b=.nota->∀H',E (.ref CN) none H'))->eO K CO CN vs H Q E
theorem oy:FnScope ["l","coded","parts"] ["l","coded"] (ae db):=.ck
theorem lV {CP CH CO CN:Addr}(D:aB K mg "small_answer" db)(TP:PartsTxt K mg CP)(TH:HeadTxt K mg CH)(cO:ExcAt K mg "OutOfRange" CO)(cM:∃t,mg "MOST_LEVELS"=some (.int 5 t))(oC:OkF P w K mg base CX0 2 "check_bytes" ["coded"] (rn K))(oO:OkF P w K mg base (CX1 P w) 6 "opened" ["coded"] (nF K CP CH CN))
  (oS:OkF P w K mg base (CX1 P w) 11 "small_sheet" ["parts","times"] (fG K CP CH CN)):OkF P w K mg base (CX1 P w) 12 "small_answer" ["l","coded"] (eO K CO CN):=by
 refine D.okx oy λ_ _ _ _ _ H _ Q E hr h X hX=>?_;subst hX;obtain ⟨t,a,b,rfl,hS,hb,hl,k1,k2,k3⟩:=h;obtain ⟨tM,cM⟩:=cM;have hr2:Room 2 _:=hr.mono (by decide);have hr6:Room 6 _:=hr.mono (by decide);refine ⟨_,ac (bd (az oC hr2 rfl (aa (pv 1) ad)))
  (ac (di (rW (wB iX iX pe_int (pv 0) (bj (v:=.int 5) (by rfl) cM ⟨tM,rfl⟩))) (af (cj au rfl rfl cO)) bc)
  (ac (ag (i:=2) oy.nd (pe_f oO hr6 rfl (bH au) (aa (pv 1) ad)))
  (ac (di (aC zY (pv 0) (ap (ap (pv 2) rfl) rfl) (cK _)) (af (cj au rfl rfl cO)) bc)
  (af (ao (aj cW (bD (aa pe_int ad)) (pe_f oS hr rfl (bH au) (aa (pv 2) (aa (pv 0) ad))))))))),?_⟩
 refine ⟨_,rfl,a,b,rfl,hS,hb,by omega,?_⟩;refine ⟨_,rfl,_,_,rfl,rfl,_,rfl,?_⟩;by_cases h0:0<=t
 ·refine br_t (decide_eq_true h0) ?_;obtain ⟨n,rfl⟩:∃n:Nat,t=(n:Int):=⟨t.toNat,by omega⟩
  refine ⟨_,_,rfl,rfl,_,rfl,?_⟩;by_cases h1:(n:Int)<=5
  ·rw [decide_eq_true h1];refine iteF ?_;have hd:=rV (b:=b) ⟨h0,h1⟩;rw [Int.toNat_natCast] at hd;refine ⟨_,rfl,a,b,rfl,hS,hb,by omega,λf l ho p H1 s1 pa=>?_,λhno H1 s1=>k3 (by rw [hd,hno]) H1⟩;obtain ⟨fok,ltl⟩:=jH hb ho;have hcodes:=qk hb ho;obtain ⟨dx,hp,ca,g1,⟨dh,gh⟩,L1⟩:=pa.ex;rw [ho] at hd;dsimp only at hd;refine ⟨_,rfl,_,rfl,p,CP,dx,_,_,rfl,g1,TP.cl,TP.nh,bv ..,hp,CH,dh,_,_,rfl,gh,TH.cl,TH.nv,rg ..,_,_,rfl,rfl,_,rfl,?_⟩;by_cases hlv:(n:Int) > (f.levels:Int)
   ·rw [decide_eq_true hlv];rw [if_pos (by omega)] at hd;exact iteT (k2 hd H1)
   ·rw [decide_eq_false hlv];rw [if_neg (by omega)] at hd;refine iteF ⟨(by show 1<=sizeLine;decide),λq hq=>?_⟩;have s3:=same_upd (o:=.lst [.int 0]) hq;refine ⟨_,rfl,_,rfl,p,f,l,n,rfl,pa.same s3,fok,by omega,ltl,λc hcm=>⟨(hcodes c hcm).1,(hcodes c hcm).2.1,by have:=(hcodes c hcm).2.2;omega⟩,λtl htl q2 H4 s4 n4 g4=>?_,λhno H4=>k3 (by rw [hd,hno]) H4⟩;have G:=jF (l:=n) fok.w;have hlen:=dW G (ip (l:=n) fok.w (im htl));have hN:(smallHead f n).kinds*(smallHead f n).wide*(smallHead f n).high<=4*256*256:=Nat.mul_le_mul (Nat.mul_le_mul G.kinds.2 G.wide.2) G.high.2;refine ⟨q,q2,_,_,rfl,rfl,s4 _ _ upd_same,g4,?_,λz hz=>k1 _ (by rw [hd,htl]) z _ ?_⟩
    ·rw [List.length_map];unfold fF;rw [List.length_append,show (Sp21.laid f.kinds (smallHead f n).wide (smallHead f n).high (smallTiles f n tl)).length=_ from hlen];exact line_ge (by show 1+(3+_)<=16000000;omega)
    ·rw [upd_same];rfl
  ·rw [decide_eq_false h1];exact iteT (k2 (smallDue_k λz=>h1 z.2) H)
 ·refine br_f (decide_eq_false h0) ?_;exact ⟨_,rfl,iteT (k2 (smallDue_k λz=>h0 z.1) H)⟩
inductive spMain (K:W.Frag)(vs:List V)(H:Hp)(Q:VK)(_e3:XK):Prop
 | mk (t:Int) (a:Addr) (xs:List Int):(vs=[.int t,.ref a])->(SqL K H a (xs.map V.int))->(xs.length<=100000)->((∀n∈xs,0<=n/\n<=255))->(∀p H',H' p=some (.lst ((PySp21.small t xs).map V.int))->Q (.ref p) H')->spMain K vs H Q _e3
theorem due (t:Int)(b:List Nat)(hb:Bytes b)(h1:b.length<=1048576):PySp21.small t (Sp21.ints b)=(bR t b).ans:=by
 show (Sp21.spec (.small (Sp21Neutral.nats (Sp21.ints b)) t)).v::(Sp21.spec (.small (Sp21Neutral.nats (Sp21.ints b)) t)).out=_;rw [v8];unfold Sp21.spec bR;dsimp only;rw [ue hb h1,Bool.true_and];by_cases ht:Sp21.upTo t 0 5=false
 ·rw [if_pos ht,if_pos ht];rfl
 rw [if_neg ht,if_neg ht];cases e1:Sp21.headOf b with
 | none=>rfl
 | some x =>
  obtain ⟨f,l⟩:=x;have fok:=(jH hb e1).1
  try dsimp only
  by_cases hv:f.levels<t.toNat
  ·rw [if_pos hv,if_pos hv];rfl
  ·rw [if_neg hv,if_neg hv];cases e2:Sp21.readAll f l with
   | none=>rfl
   | some tl =>
    dsimp only;rw [mV fok.w (im e2)];rfl
theorem AH:FnScope ["l","coded"] ["l","coded"] (ae vS):=.ck
theorem ok_main {f CO CN:Addr}{fd:FuncData} (F:Fun K "small" "small" vS f fd) (cO:ExcAt K mg "OutOfRange" CO) (cN:ExcAt K mg "NotACode" CN) (e11:W.exmOne K (.ref CO) (.ref CO)=some true) (e21:W.exmOne K (.ref CN) (.ref CO)=some false) (e22:W.exmOne K (.ref CN) (.ref CN)=some true)
  (oA:OkF P w K mg base (CX1 P w) 12 "small_answer" ["l","coded"] (eO K CO CN)):FnOk P w K mg base CX0 13 f fd ["l","coded"] (spMain K):=by
 refine Fun.ok0 F AH λ_ _ _ _ H _ Q E hr h X hX=>?_;subst hX;obtain ⟨t,a,xs,rfl,hS,hl,hb1,k⟩:=h;obtain ⟨b,rfl,hb,hlb⟩:=v7 hb1;rw [due t b hb (by omega)] at k;refine ⟨_,yT (E2:=λcls _ _=>(cls=.ref CO/\bR t b=.out)\/(cls=.ref CN/\bR t b=.nota)) ⟨rfl,rfl,rfl,rfl⟩ rfl rfl rfl rfl cO.mg cN.mg e11 e21 e22 (af (ao (pe_f oA hr rfl (bH ⟨rfl,rfl,rfl,rfl⟩) (aa (pv 0) (aa (pv 1) ad)))))
  (λe=>af (ao (bD (aa (j6 eV pe_int) ad)))) (λe=>af (ao (bD (aa (j6 eV pe_int) ad)))),?_⟩
 refine ⟨⟨_,rfl,_,rfl,t,a,b,rfl,hS,hb,by omega,λr hr' p H' g=>?_,λhn H'=>.inl ⟨rfl,hn⟩,λhn H'=>.inr ⟨rfl,hn⟩⟩,λcls d H' z=>?_⟩
 ·rw [hr'] at k;exact k p H' g
 ·rcases z with ⟨e,hn⟩ | ⟨e,hn⟩
  ·rw [hn] at k;refine .inl ⟨e,_,rfl,(by show 1<=sizeLine;decide),λp hp=>k p _ ?_⟩;rw [upd_same];rfl
  ·rw [hn] at k;refine .inr ⟨e,_,rfl,(by show 1<=sizeLine;decide),λp hp=>k p _ ?_⟩;rw [upd_same];rfl
def gZ (tb:String->Option Builtin)(p:Program)(w:World)(n₀:Nat)(ann:Option Value):Nat->W.SharedT->Thread->Option W.SharedT
 | 0,_,_=>none
 | n+1,s,t=>match W.through t with
  | true=>some s
  | false=>match W.stepOk n₀ ann t with
   | false=>none
   | true=>match W.stepT (denote tb) p w s t with
    | some (s',t')=>gZ tb p w n₀ ann n s' t'
    | none=>none
theorem mB {tb:String->Option Builtin}{p:Program}{w:World}{n₀:Nat}{ann:Option Value}:∀{n:Nat}{s s':W.SharedT}{t:Thread},gZ tb p w n₀ ann n s t=some s'->W.topRun tb p w n₀ ann n s.abs t=some s'.abs
 | 0,_,_,_,h=>by cases h
 | n+1,s,s',t,h=>by
  unfold gZ at h;unfold W.topRun;cases he:W.through t with
  | true=>rw [he] at h;cases h;rfl
  | false =>
   rw [he] at h;cases hk:W.stepOk n₀ ann t with
   | false=>rw [hk] at h;cases h
   | true =>
    rw [hk] at h;cases hs:W.stepT (denote tb) p w s t with
    | none=>rw [hs] at h;cases h
    | some r =>
     obtain ⟨s₂,t₂⟩:=r;rw [hs] at h;rw [W.stepT_spec hs];exact mB h
noncomputable def AI (P:Params):W.BT:=(.node (W.boot_o_0 P) (.node (W.boot_o_1 P) (.node (W.boot_o_3 P) (.node (W.boot_o_7 P) .nil .nil) .nil) (.node (W.boot_o_5 P) (.node (W.boot_o_9 P) .nil .nil) .nil)) (.node (W.boot_o_2 P) (.node (W.boot_o_4 P) (.node (W.boot_o_8 P) .nil .nil) .nil) (.node (W.boot_o_6 P) (.node (W.boot_o_10 P) .nil .nil) .nil)))
noncomputable def AJ (P:Params):Life:=(W.boot_heap P).life
theorem xQ (P:Params):W.absHeap (AI P) 11 (AJ P)=W.boot_heap P:=by kernel_rfl
noncomputable def stT (w:World)(os:OsState):W.SharedT:=⟨AI w.params,11,AJ w.params,Array.mk [],W.boot_drawn,W.boot_toks,os⟩
def kept (p:Program)(h₀:Heap)(s:Shared):Bool:=W.staticsOk (PySem.importedModules p.main.body) h₀ s.heap&&W.namesBound p s.heap&&W.gensDone s&&W.laidKept h₀ s.heap
def atT (s:W.SharedT)(a:Nat):Option Obj:=match Nat.blt a s.n with
 | true=>match s.tree.get a with
  | some o=>W.alive o
  | none=>none
 | false=>none
theorem AK (s:W.SharedT)(a:Nat)(o:Obj)(h:atT s a=some o):s.abs.heap.get? a=some o:=by
 unfold atT at h;cases e:Nat.blt a s.n with
 | false=>rw [e] at h;cases h
 | true =>
  have lt:a<s.n:=Nat.le_of_ble_eq_true e;rw [e] at h;cases g:s.tree.get a with
  | none=>rw [g] at h;cases h
  | some x =>
   rw [g] at h;show (W.absHeap s.tree s.n s.life).get? a=some o;rw [W.abs_get lt g];exact h
theorem AL (s:W.SharedT):∀(as:List Nat) (os:List Obj),as.map (atT s)=os.map some->as.map s.abs.heap.get?=os.map some
 | [],[],_=>rfl
 | a::as,o::os,h=>by
  obtain ⟨h1,h2⟩:=List.cons.inj h;show _::_=_::_;rw [AK s a o h1,AL s as os h2]
 | [],_::_,h=>by cases h
 | _::_,[],h=>by cases h
theorem left_tree {p q:Program}{Xt:Shared->Bool}{K:Params->W.Frag}{as:List Nat}{ea:∀P,as=(K P).map (·.1)}{N:Nat}{ann:Option Value}
  (open_:∀w:World,(W.fencedOpening PySem.treeTable p w N).map (λs=>(s.heap,s.gens,s.drawn,s.toks))=some (W.boot_heap w.params,Array.mk [],W.boot_drawn,W.boot_toks))
  (size:∀w:World,((W.boot_heap w.params).isNs mainGlobals,(W.boot_heap w.params).objs.size,(W.boot_heap w.params).nsMap mainGlobals "__annotations__")=(true,11,ann))
  (run1:∀(w:World) (os:OsState),(gZ PySem.treeTable p w 11 ann N (stT w os) (W.topStub p)).map (λs=>(kept p (W.boot_heap w.params) s.abs,as.map (atT s)))=some (true,(K w.params).map λx=>some x.2))
  (run2:∀(w:World) (os:OsState),(gZ PySem.treeTable p w 11 ann N (stT w os) (W.topStub p)).map (λs=>W.openSeen q [] (PySem.importedModules p.main.body) Xt true s.abs)=some (W.openGood q [])) :
  W.LeftO p q [] Xt (W.Hook.obs (W.kHook K as ea)) (W.Hook.val (W.kHook K as ea)) N:=λw=>by
 obtain ⟨⟨h,gs,d,k,os⟩,e,e'⟩:=Option.map_eq_some_iff.mp (open_ w);obtain ⟨rfl,rfl,rfl,rfl⟩:h=W.boot_heap w.params/\gs=Array.mk []/\d=W.boot_drawn/\k=W.boot_toks:=by simpa only [Prod.mk.injEq] using e'
 obtain ⟨z1,z2,z3⟩:_/\_/\_:=by simpa only [Prod.mk.injEq] using size w
 obtain ⟨s,r,l⟩:=Option.map_eq_some_iff.mp (run1 w os);obtain ⟨s',r',l'⟩:=Option.map_eq_some_iff.mp (run2 w os);obtain rfl:s'=s:=Option.some.inj (r'.symm.trans r);obtain ⟨l1,l2⟩:=Prod.mk.inj l;have r2:=mB r;have ab:(stT w os).abs=⟨W.boot_heap w.params,Array.mk [],W.boot_drawn,W.boot_toks,os⟩:=congrArg (λh=>Shared.mk h (Array.mk []) W.boot_drawn W.boot_toks os) (xQ w.params);rw [ab] at r2;have t:W.topFrom PySem.treeTable p w N ⟨W.boot_heap w.params,Array.mk [],W.boot_drawn,W.boot_toks,os⟩=some s'.abs:=by
  unfold W.topFrom;dsimp only;rw [z1,z2,z3,r2];show (match kept p (W.boot_heap w.params) s'.abs with | true=>_ | false=>_)=_;rw [l1]
 unfold W.openEnds;rw [e];show (W.topFrom PySem.treeTable p w N _).map _=_;rw [t];refine congrArg some (Prod.ext l' ?_);have l3:as.map (atT s')=((K w.params).map (·.2)).map some:=by rw [l2,List.map_map];rfl
 show as.map s'.abs.heap.get?=(K w.params).map λx=>some x.2;rw [AL s' as _ l3,List.map_map];rfl
theorem qu {α β γ δ:Type}{o:Option (α×β×γ×δ)}{g:α×β×γ×δ} (h1:o.map (·.1)=some g.1) (h2:o.map (λx=>(x.2.1,x.2.2.1))=some (g.2.1,g.2.2.1)) (h3:o.map (·.2.2.2)=some g.2.2.2):o=some g:=by
 cases o with
 | none=>cases h1
 | some x =>
  obtain ⟨a,b,c,d⟩:=x;obtain ⟨a',b',c',d'⟩:=g;have e1:=Option.some.inj h1;have e2:=Option.some.inj h2;have e3:=Option.some.inj h3;dsimp only at e1 e2 e3;cases e1;cases e2;cases e3;rfl
def en (P:Params)(s:Str)(t:Tok)(v:Value):DictEntry:=⟨PyData.keyHash P s,.str s t,v⟩
def fnE (n q:Str)(st:Stmt)(pm:Value)(cd:Addr):Obj:=⟨.type "function",none,.func (W.fnOf n q (dJ st) (bG st) (ae st) .none .none .none pm none (.ref cd) .none),#[]⟩
def cdE (n q:Str)(t line k x y z a b:Nat)(u v:Value)(c d:Nat):Obj :=
 ⟨.type "code",none,.fields #[.str n t,.str q (t+1),.str "/claim/cut.py" (t+2),.int (.ofNat line) 0,.int (.ofNat k) 0,.int 0 0,.int (.ofNat x) 0,.int (.ofNat y) 0,.ref a,.bool true,.int (.ofNat z) 0,.ref b,.none,u,v,.ref c,.int (.ofNat d) 0,.int (.ofNat line) 0,.str "/claim/cut.py" (d+1)],#[]⟩
noncomputable def ch0 (P:Params):List Obj:=[
 ⟨.none,none,(.dict #[en P "type.__subclasses__.Exception.0" 363 (.int 134 0),en P "type.__subclasses__.Exception.n" 364 (.int 2 0),en P "type.__subclasses__.Exception.1" 383 (.int 147 0)] 3),#[]⟩,
 ⟨(.type "dict"),none,(.dict #[en P "__name__" 165 (.str "tilewise.sheets" 978),en P "__doc__" 166 .none,en P "__package__" 167 .none,en P "__loader__" 168 (.builtin "__main__.__loader__#opaque"),en P "__spec__" 169 .none,en P "__annotations__" 170 (.ref 6),en P "__builtins__" 171 (.ref 4),en P "__file__" 173 (.str "/claim/cut.py" 172),en P "__cached__" 174 .none,en P "_wall" 193 (.ref 21),en P "half" 202 (.ref 28),en P "right_of_odds" 211 (.ref 35),en P "lifts" 217 (.ref 40),en P "halve_row" 223 (.ref 45),en P "whole_row" 229 (.ref 50),en P "column_at" 235 (.ref 55),en P "turned" 241 (.ref 60),en P "halve_corner" 247 (.ref 65),en P "whole_corner" 253 (.ref 70),en P "Place" 290 (.ref 87),en P "tile_places" 303 (.ref 98),en P "shrunk" 312 (.ref 105),en P "small_place" 324 (.ref 112),en P "row_starts" 330 (.ref 117),en P "lay_in" 344 (.ref 124),en P "OutOfRange" 366 (.ref 134),en P "NotACode" 386 (.ref 147),en P "FIRST_BYTES" 393 (.ref 151),en P "HEAD_LENGTH" 395 (.int 9 394),en P "CRC_LENGTH" 397 (.int 4 396),en P "MOST_LEVELS" 399 (.int 5 398),en P "Head" 464 (.ref 196),en P "Parts" 495 (.ref 217),en P "number_of" 505 (.ref 228),en P "head_of" 513 (.ref 235),en P "table_of" 519 (.ref 240),en P "tile_codes_of" 532 (.ref 247),en P "opened" 540 (.ref 254),en P "HIGHEST" 544 (.int 65535 543),en P "HIGHEST_BYTE" 546 (.int 255 545),en P "MOST_BYTES" 548 (.int 1048576 547),en P "all_between" 557 (.ref 261),en P "numbers_in_range" 564 (.ref 268),en P "check_bytes" 571 (.ref 275),en P "flat" 582 (.ref 282),en P "cut_rows" 588 (.ref 287),en P "corner_sizes" 599 (.ref 294),en P "three_bands" 605 (.ref 299),en P "bands_of" 611 (.ref 304),en P "band_lengths" 626 (.ref 311),en P "joined" 632 (.ref 316),en P "rows_of" 646 (.ref 323),en P "mixed" 654 (.ref 328),en P "unmixed" 660 (.ref 333),en P "LONGEST" 664 (.int 24 663),en P "BitWriter" 710 (.ref 364),en P "BitReader" 751 (.ref 392),en P "Pace" 796 (.ref 427),en P "unsigned" 803 (.ref 438),en P "signed" 810 (.ref 445),en P "ones" 817 (.ref 452),en P "tell_number" 827 (.ref 459),en P "hear_number" 836 (.ref 466),en P "tell_band" 846 (.ref 473),en P "hear_band" 858 (.ref 480),en P "planes_of" 866 (.ref 485),en P "woven" 877 (.ref 492),en P "plain_code" 886 (.ref 499),en P "short_code" 900 (.ref 506),en P "tile_code" 913 (.ref 513),en P "plain_numbers" 919 (.ref 518),en P "heard_plane" 925 (.ref 523),en P "short_numbers" 931 (.ref 528),en P "heard_numbers" 942 (.ref 535),en P "tile_numbers" 954 (.ref 542),en P "small_plane" 964 (.ref 549),en P "held" 971 (.ref 556),en P "small_numbers" 977 (.ref 561),en P "numbers_at" 988 (.ref 568),en P "small_tile" 999 (.ref 575),en P "small_sheet" 1015 (.ref 582),en P "small_answer" 1024 (.ref 589),en P "small" 1032 (.ref 596)] 83),#[]⟩,
 cdE "half" "half" 196 5 1 0 3 181 22 23 (.ref 24) (.ref 25) 26 200,
 fnE "half" "half" xi (.str "tilewise.halving" 194) 27,
 cdE "right_of_odds" "right_of_odds" 203 7 2 0 3 181 29 30 (.ref 31) (.ref 32) 33 209,
 fnE "right_of_odds" "right_of_odds" sJ (.str "tilewise.halving" 194) 34,
 cdE "lifts" "lifts" 212 12 1 0 3 181 36 37 .none .none 38 215,
 fnE "lifts" "lifts" sK (.str "tilewise.halving" 194) 39,
 cdE "halve_row" "halve_row" 218 16 1 0 3 181 41 42 .none .none 43 221,
 fnE "halve_row" "halve_row" ir (.str "tilewise.halving" 194) 44,
 cdE "whole_row" "whole_row" 224 25 1 0 3 181 46 47 .none .none 48 227,
 fnE "whole_row" "whole_row" iu (.str "tilewise.halving" 194) 49,
 cdE "column_at" "column_at" 230 37 2 0 3 181 51 52 .none .none 53 233,
 fnE "column_at" "column_at" m4 (.str "tilewise.halving" 194) 54,
 cdE "turned" "turned" 236 39 1 0 3 181 56 57 .none .none 58 239,
 fnE "turned" "turned" m5 (.str "tilewise.halving" 194) 59]
noncomputable def ch1 (P:Params):List Obj:=[
 cdE "halve_corner" "halve_corner" 242 41 1 0 3 181 61 62 .none .none 63 245,
 fnE "halve_corner" "halve_corner" c6 (.str "tilewise.halving" 194) 64,
 cdE "whole_corner" "whole_corner" 248 44 1 0 3 181 66 67 .none .none 68 251,
 fnE "whole_corner" "whole_corner" c7 (.str "tilewise.halving" 194) 69,
 cdE "__init__" "Place.__init__" 268 50 5 0 3 181 78 79 (.ref 80) (.ref 81) 82 276,
 fnE "__init__" "Place.__init__" fU (.str "tilewise.layout" 254) 83,
 ⟨(.type "dict"),none,(.dict #[en P "__module__" 263 (.str "tilewise.layout" 254),en P "__firstlineno__" 267 (.int 48 266),en P "__init__" 278 (.ref 84),en P "__static_attributes__" 283 (.ref 85),en P "__dict__" 285 (.ref 88),en P "__weakref__" 287 (.ref 89),en P "__doc__" 288 .none] 4),#[]⟩,
 ⟨(.type "type"),none,(.cls ⟨"Place",[(.type "object")],[(.ref 87),(.type "object")],86,"Place",true,[],[],false,none,false⟩),#[none,none,(some (.str "Place" 256)),(some (.str "Place" 264)),(some (.builtin "object.__new__")),(some (.bool true))]⟩,
 ⟨(.type "getset_descriptor"),none,(.fields #[(.str "__dict__" 284),(.ref 87),(.builtin "function.__dict__"),(.builtin "function.__dict__#set")]),#[]⟩,
 ⟨(.type "getset_descriptor"),none,(.fields #[(.str "__weakref__" 286),(.ref 87),(.builtin "ExceptionGroup.__weakref__"),.none]),#[]⟩,
 cdE "tile_places" "tile_places" 291 55 3 0 3 181 92 93 (.ref 94) (.ref 95) 96 301,
 fnE "tile_places" "tile_places" m6 (.str "tilewise.layout" 254) 97,
 cdE "shrunk" "shrunk" 304 62 2 0 3 181 99 100 (.ref 101) (.ref 102) 103 310,
 fnE "shrunk" "shrunk" m7 (.str "tilewise.layout" 254) 104,
 cdE "small_place" "small_place" 313 66 3 0 3 181 106 107 (.ref 108) (.ref 109) 110 322,
 fnE "small_place" "small_place" dZ (.str "tilewise.layout" 254) 111]
noncomputable def ch2 (P:Params):List Obj:=[
 cdE "row_starts" "row_starts" 325 71 3 0 3 181 113 114 .none .none 115 328,
 fnE "row_starts" "row_starts" fO (.str "tilewise.layout" 254) 116,
 cdE "lay_in" "lay_in" 331 73 5 0 3 181 118 119 (.ref 120) (.ref 121) 122 342,
 fnE "lay_in" "lay_in" sL (.str "tilewise.layout" 254) 123,
 ⟨(.type "dict"),none,(.dict #[en P "__module__" 354 (.str "tilewise.refusals" 345),en P "__firstlineno__" 358 (.int 78 357),en P "__static_attributes__" 359 (.ref 132),en P "__weakref__" 361 (.ref 135),en P "__doc__" 362 .none] 3),#[]⟩,
 ⟨(.type "type"),none,(.cls ⟨"OutOfRange",[(.type "Exception")],[(.ref 134),(.type "Exception"),(.type "BaseException"),(.type "object")],133,"OutOfRange",true,[],[],false,none,false⟩),#[(some (.ref 125)),none,(some (.str "OutOfRange" 347)),(some (.str "OutOfRange" 355)),(some (.builtin "Exception.__new__")),(some (.bool true))]⟩,
 ⟨(.type "getset_descriptor"),none,(.fields #[(.str "__weakref__" 360),(.ref 134),(.builtin "ExceptionGroup.__weakref__"),.none]),#[]⟩,
 ⟨(.type "dict"),none,(.dict #[en P "__module__" 374 (.str "tilewise.refusals" 345),en P "__firstlineno__" 378 (.int 80 377),en P "__static_attributes__" 379 (.ref 145),en P "__weakref__" 381 (.ref 148),en P "__doc__" 382 .none] 3),#[]⟩,
 ⟨(.type "type"),none,(.cls ⟨"NotACode",[(.type "Exception")],[(.ref 147),(.type "Exception"),(.type "BaseException"),(.type "object")],146,"NotACode",true,[],[],false,none,false⟩),#[(some (.ref 138)),none,(some (.str "NotACode" 367)),(some (.str "NotACode" 375)),(some (.builtin "Exception.__new__")),(some (.bool true))]⟩,
 ⟨(.type "getset_descriptor"),none,(.fields #[(.str "__weakref__" 380),(.ref 147),(.builtin "ExceptionGroup.__weakref__"),.none]),#[]⟩,
 ⟨(.type "tuple"),none,(.seq #[(.int 84 389),(.int 73 390),(.int 76 391),(.int 83 392)] 0),#[]⟩,
 cdE "__init__" "Head.__init__" 412 89 6 0 3 181 159 160 (.ref 161) (.ref 162) 163 421,
 fnE "__init__" "Head.__init__" iE (.str "tilewise.frames" 387) 164,
 cdE "in_range" "Head.in_range" 424 96 1 0 3 181 166 167 (.ref 168) (.ref 169) 170 428,
 fnE "in_range" "Head.in_range" jV (.str "tilewise.frames" 387) 171,
 cdE "places" "Head.places" 438 102 1 0 3 181 180 181 (.ref 182) (.ref 183) 184 442]
noncomputable def ch3 (P:Params):List Obj:=[
 fnE "places" "Head.places" d9 (.str "tilewise.frames" 387) 185,
 ⟨(.type "dict"),none,(.dict #[en P "__module__" 407 (.str "tilewise.frames" 387),en P "__firstlineno__" 411 (.int 87 410),en P "__init__" 423 (.ref 165),en P "in_range" 430 (.ref 172),en P "head_bytes" 437 (.ref 179),en P "places" 444 (.ref 186),en P "answer" 451 (.ref 193),en P "__static_attributes__" 457 (.ref 194),en P "__dict__" 459 (.ref 197),en P "__weakref__" 461 (.ref 198),en P "__doc__" 462 .none] 4),#[]⟩,
 ⟨(.type "type"),none,(.cls ⟨"Head",[(.type "object")],[(.ref 196),(.type "object")],195,"Head",true,[],[],false,none,false⟩),#[none,none,(some (.str "Head" 400)),(some (.str "Head" 408)),(some (.builtin "object.__new__")),(some (.bool true))]⟩,
 ⟨(.type "getset_descriptor"),none,(.fields #[(.str "__dict__" 458),(.ref 196),(.builtin "function.__dict__"),(.builtin "function.__dict__#set")]),#[]⟩,
 ⟨(.type "getset_descriptor"),none,(.fields #[(.str "__weakref__" 460),(.ref 196),(.builtin "ExceptionGroup.__weakref__"),.none]),#[]⟩,
 cdE "__init__" "Parts.__init__" 477 109 3 0 3 181 208 209 (.ref 210) (.ref 211) 212 483,
 fnE "__init__" "Parts.__init__" fV (.str "tilewise.frames" 387) 213,
 ⟨(.type "dict"),none,(.dict #[en P "__module__" 472 (.str "tilewise.frames" 387),en P "__firstlineno__" 476 (.int 107 475),en P "__init__" 485 (.ref 214),en P "__static_attributes__" 488 (.ref 215),en P "__dict__" 490 (.ref 218),en P "__weakref__" 492 (.ref 219),en P "__doc__" 493 .none] 4),#[]⟩,
 ⟨(.type "type"),none,(.cls ⟨"Parts",[(.type "object")],[(.ref 217),(.type "object")],216,"Parts",true,[],[],false,none,false⟩),#[none,none,(some (.str "Parts" 465)),(some (.str "Parts" 473)),(some (.builtin "object.__new__")),(some (.bool true))]⟩,
 ⟨(.type "getset_descriptor"),none,(.fields #[(.str "__dict__" 489),(.ref 217),(.builtin "function.__dict__"),(.builtin "function.__dict__#set")]),#[]⟩,
 ⟨(.type "getset_descriptor"),none,(.fields #[(.str "__weakref__" 491),(.ref 217),(.builtin "ExceptionGroup.__weakref__"),.none]),#[]⟩,
 cdE "number_of" "number_of" 496 112 1 0 3 181 222 223 (.ref 224) (.ref 225) 226 503,
 fnE "number_of" "number_of" m8 (.str "tilewise.frames" 387) 227,
 cdE "head_of" "head_of" 506 117 1 0 3 181 229 230 (.ref 231) (.ref 232) 233 511,
 fnE "head_of" "head_of" m9 (.str "tilewise.frames" 387) 234,
 cdE "table_of" "table_of" 514 124 2 0 3 181 236 237 .none .none 238 517]
noncomputable def ch4 (P:Params):List Obj:=[
 fnE "table_of" "table_of" sM (.str "tilewise.frames" 387) 239,
 cdE "tile_codes_of" "tile_codes_of" 520 127 2 0 3 181 241 242 (.ref 243) (.ref 244) 245 530,
 fnE "tile_codes_of" "tile_codes_of" sN (.str "tilewise.frames" 387) 246,
 cdE "opened" "opened" 533 138 1 0 3 181 248 249 (.ref 250) (.ref 251) 252 538,
 fnE "opened" "opened" ng (.str "tilewise.frames" 387) 253,
 cdE "all_between" "all_between" 549 145 3 0 3 181 255 256 (.ref 257) (.ref 258) 259 555,
 fnE "all_between" "all_between" jR (.str "tilewise.ranges" 541) 260,
 cdE "numbers_in_range" "numbers_in_range" 558 147 1 0 3 181 262 263 (.ref 264) (.ref 265) 266 562,
 fnE "numbers_in_range" "numbers_in_range" fP (.str "tilewise.ranges" 541) 267,
 cdE "check_bytes" "check_bytes" 565 149 1 0 3 181 269 270 (.ref 271) (.ref 272) 273 569,
 fnE "check_bytes" "check_bytes" sO (.str "tilewise.ranges" 541) 274,
 cdE "flat" "flat" 574 153 1 0 3 181 276 277 (.ref 278) (.ref 279) 280 580,
 fnE "flat" "flat" xj (.str "tilewise.bands" 572) 281,
 cdE "cut_rows" "cut_rows" 583 158 3 0 3 181 283 284 .none .none 285 586,
 fnE "cut_rows" "cut_rows" jS (.str "tilewise.bands" 572) 286,
 cdE "corner_sizes" "corner_sizes" 589 160 3 0 3 181 288 289 (.ref 290) (.ref 291) 292 597]
noncomputable def ch5 (P:Params):List Obj:=[
 fnE "corner_sizes" "corner_sizes" sP (.str "tilewise.bands" 572) 293,
 cdE "three_bands" "three_bands" 600 165 3 0 3 181 295 296 .none .none 297 603,
 fnE "three_bands" "three_bands" sQ (.str "tilewise.bands" 572) 298,
 cdE "bands_of" "bands_of" 606 170 2 0 3 181 300 301 .none .none 302 609,
 fnE "bands_of" "bands_of" jT (.str "tilewise.bands" 572) 303,
 cdE "band_lengths" "band_lengths" 612 178 3 0 3 181 305 306 (.ref 307) (.ref 308) 309 624,
 fnE "band_lengths" "band_lengths" c8 (.str "tilewise.bands" 572) 310,
 cdE "joined" "joined" 627 187 3 0 3 181 312 313 .none .none 314 630,
 fnE "joined" "joined" ni (.str "tilewise.bands" 572) 315,
 cdE "rows_of" "rows_of" 633 196 4 0 3 181 317 318 (.ref 319) (.ref 320) 321 644,
 fnE "rows_of" "rows_of" nj (.str "tilewise.bands" 572) 322,
 cdE "mixed" "mixed" 649 204 1 0 3 181 324 325 .none .none 326 652,
 fnE "mixed" "mixed" sU (.str "tilewise.mixing" 647) 327,
 cdE "unmixed" "unmixed" 655 212 1 0 3 181 329 330 .none .none 331 658,
 fnE "unmixed" "unmixed" jU (.str "tilewise.mixing" 647) 332,
 cdE "__init__" "BitWriter.__init__" 677 223 1 0 3 181 341 342 (.ref 343) (.ref 344) 345 681]
noncomputable def ch6 (P:Params):List Obj:=[
 fnE "__init__" "BitWriter.__init__" ef (.str "tilewise.telling" 661) 346,
 cdE "tell" "BitWriter.tell" 684 228 3 0 3 181 348 349 (.ref 350) (.ref 351) 352 690,
 fnE "tell" "BitWriter.tell" xm (.str "tilewise.telling" 661) 353,
 cdE "all_bytes" "BitWriter.all_bytes" 693 236 1 0 3 181 355 356 (.ref 357) (.ref 358) 359 697,
 fnE "all_bytes" "BitWriter.all_bytes" iG (.str "tilewise.telling" 661) 360,
 ⟨(.type "dict"),none,(.dict #[en P "__module__" 672 (.str "tilewise.telling" 661),en P "__firstlineno__" 676 (.int 221 675),en P "__init__" 683 (.ref 347),en P "tell" 692 (.ref 354),en P "all_bytes" 699 (.ref 361),en P "__static_attributes__" 703 (.ref 362),en P "__dict__" 705 (.ref 365),en P "__weakref__" 707 (.ref 366),en P "__doc__" 708 .none] 4),#[]⟩,
 ⟨(.type "type"),none,(.cls ⟨"BitWriter",[(.type "object")],[(.ref 364),(.type "object")],363,"BitWriter",true,[],[],false,none,false⟩),#[none,none,(some (.str "BitWriter" 665)),(some (.str "BitWriter" 673)),(some (.builtin "object.__new__")),(some (.bool true))]⟩,
 ⟨(.type "getset_descriptor"),none,(.fields #[(.str "__dict__" 704),(.ref 364),(.builtin "function.__dict__"),(.builtin "function.__dict__#set")]),#[]⟩,
 ⟨(.type "getset_descriptor"),none,(.fields #[(.str "__weakref__" 706),(.ref 364),(.builtin "ExceptionGroup.__weakref__"),.none]),#[]⟩,
 cdE "__init__" "BitReader.__init__" 723 242 2 0 3 181 376 377 (.ref 378) (.ref 379) 380 728,
 fnE "__init__" "BitReader.__init__" eC (.str "tilewise.telling" 661) 381,
 cdE "hear" "BitReader.hear" 731 248 2 0 3 181 383 384 (.ref 385) (.ref 386) 387 737,
 fnE "hear" "BitReader.hear" xn (.str "tilewise.telling" 661) 388,
 ⟨(.type "dict"),none,(.dict #[en P "__module__" 718 (.str "tilewise.telling" 661),en P "__firstlineno__" 722 (.int 240 721),en P "__init__" 730 (.ref 382),en P "hear" 739 (.ref 389),en P "__static_attributes__" 744 (.ref 390),en P "__dict__" 746 (.ref 393),en P "__weakref__" 748 (.ref 394),en P "__doc__" 749 .none] 4),#[]⟩,
 ⟨(.type "type"),none,(.cls ⟨"BitReader",[(.type "object")],[(.ref 392),(.type "object")],391,"BitReader",true,[],[],false,none,false⟩),#[none,none,(some (.str "BitReader" 711)),(some (.str "BitReader" 719)),(some (.builtin "object.__new__")),(some (.bool true))]⟩,
 ⟨(.type "getset_descriptor"),none,(.fields #[(.str "__dict__" 745),(.ref 392),(.builtin "function.__dict__"),(.builtin "function.__dict__#set")]),#[]⟩]
noncomputable def ch7 (P:Params):List Obj:=[
 ⟨(.type "getset_descriptor"),none,(.fields #[(.str "__weakref__" 747),(.ref 392),(.builtin "ExceptionGroup.__weakref__"),.none]),#[]⟩,
 cdE "__init__" "Pace.__init__" 764 261 1 0 3 181 404 405 (.ref 406) (.ref 407) 408 768,
 fnE "__init__" "Pace.__init__" iH (.str "tilewise.telling" 661) 409,
 cdE "low_bits" "Pace.low_bits" 771 265 1 0 3 181 411 412 (.ref 413) (.ref 414) 415 776,
 fnE "low_bits" "Pace.low_bits" iI (.str "tilewise.telling" 661) 416,
 cdE "take" "Pace.take" 779 271 2 0 3 181 418 419 (.ref 420) (.ref 421) 422 784,
 fnE "take" "Pace.take" xo (.str "tilewise.telling" 661) 423,
 ⟨(.type "dict"),none,(.dict #[en P "__module__" 759 (.str "tilewise.telling" 661),en P "__firstlineno__" 763 (.int 259 762),en P "__init__" 770 (.ref 410),en P "low_bits" 778 (.ref 417),en P "take" 786 (.ref 424),en P "__static_attributes__" 789 (.ref 425),en P "__dict__" 791 (.ref 428),en P "__weakref__" 793 (.ref 429),en P "__doc__" 794 .none] 4),#[]⟩,
 ⟨(.type "type"),none,(.cls ⟨"Pace",[(.type "object")],[(.ref 427),(.type "object")],426,"Pace",true,[],[],false,none,false⟩),#[none,none,(some (.str "Pace" 752)),(some (.str "Pace" 760)),(some (.builtin "object.__new__")),(some (.bool true))]⟩,
 ⟨(.type "getset_descriptor"),none,(.fields #[(.str "__dict__" 790),(.ref 427),(.builtin "function.__dict__"),(.builtin "function.__dict__#set")]),#[]⟩,
 ⟨(.type "getset_descriptor"),none,(.fields #[(.str "__weakref__" 792),(.ref 427),(.builtin "ExceptionGroup.__weakref__"),.none]),#[]⟩,
 cdE "unsigned" "unsigned" 797 277 1 0 3 181 432 433 (.ref 434) (.ref 435) 436 801,
 fnE "unsigned" "unsigned" iw (.str "tilewise.telling" 661) 437,
 cdE "signed" "signed" 804 279 1 0 3 181 439 440 (.ref 441) (.ref 442) 443 808,
 fnE "signed" "signed" nl (.str "tilewise.telling" 661) 444,
 cdE "ones" "ones" 811 281 1 0 3 181 446 447 (.ref 448) (.ref 449) 450 815]
noncomputable def ch8 (P:Params):List Obj:=[
 fnE "ones" "ones" xk (.str "tilewise.telling" 661) 451,
 cdE "tell_number" "tell_number" 818 283 3 0 3 181 453 454 (.ref 455) (.ref 456) 457 825,
 fnE "tell_number" "tell_number" d0 (.str "tilewise.telling" 661) 458,
 cdE "hear_number" "hear_number" 828 291 2 0 3 181 460 461 (.ref 462) (.ref 463) 464 834,
 fnE "hear_number" "hear_number" d5 (.str "tilewise.telling" 661) 465,
 cdE "tell_band" "tell_band" 837 298 2 0 3 181 467 468 (.ref 469) (.ref 470) 471 844,
 fnE "tell_band" "tell_band" iy (.str "tilewise.telling" 661) 472,
 cdE "hear_band" "hear_band" 847 303 2 0 3 181 474 475 (.ref 476) (.ref 477) 478 856,
 fnE "hear_band" "hear_band" iz (.str "tilewise.telling" 661) 479,
 cdE "planes_of" "planes_of" 861 312 2 0 3 181 481 482 .none .none 483 864,
 fnE "planes_of" "planes_of" iA (.str "tilewise.tiles" 859) 484,
 cdE "woven" "woven" 867 314 1 0 3 181 486 487 (.ref 488) (.ref 489) 490 875,
 fnE "woven" "woven" sV (.str "tilewise.tiles" 859) 491,
 cdE "plain_code" "plain_code" 878 320 1 0 3 181 493 494 (.ref 495) (.ref 496) 497 884,
 fnE "plain_code" "plain_code" fQ (.str "tilewise.tiles" 859) 498,
 cdE "short_code" "short_code" 887 326 5 0 3 181 500 501 (.ref 502) (.ref 503) 504 898]
noncomputable def ch9 (P:Params):List Obj:=[
 fnE "short_code" "short_code" fR (.str "tilewise.tiles" 859) 505,
 cdE "tile_code" "tile_code" 901 332 5 0 3 181 507 508 (.ref 509) (.ref 510) 511 911,
 fnE "tile_code" "tile_code" iC (.str "tilewise.tiles" 859) 512,
 cdE "plain_numbers" "plain_numbers" 914 336 2 0 3 181 514 515 .none .none 516 917,
 fnE "plain_numbers" "plain_numbers" cB (.str "tilewise.tiles" 859) 517,
 cdE "heard_plane" "heard_plane" 920 340 4 0 3 181 519 520 .none .none 521 923,
 fnE "heard_plane" "heard_plane" d6 (.str "tilewise.tiles" 859) 522,
 cdE "short_numbers" "short_numbers" 926 343 5 0 3 181 524 525 .none .none 526 929,
 fnE "short_numbers" "short_numbers" cD (.str "tilewise.tiles" 859) 527,
 cdE "heard_numbers" "heard_numbers" 932 346 5 0 3 181 529 530 (.ref 531) (.ref 532) 533 940,
 fnE "heard_numbers" "heard_numbers" cE (.str "tilewise.tiles" 859) 534,
 cdE "tile_numbers" "tile_numbers" 943 352 5 0 3 181 536 537 (.ref 538) (.ref 539) 540 952,
 fnE "tile_numbers" "tile_numbers" c9 (.str "tilewise.tiles" 859) 541,
 cdE "small_plane" "small_plane" 955 359 4 0 3 181 543 544 (.ref 545) (.ref 546) 547 962,
 fnE "small_plane" "small_plane" d7 (.str "tilewise.tiles" 859) 548,
 cdE "held" "held" 965 361 1 0 3 181 550 551 (.ref 552) (.ref 553) 554 969]
noncomputable def ch10 (P:Params):List Obj:=[
 fnE "held" "held" xl (.str "tilewise.tiles" 859) 555,
 cdE "small_numbers" "small_numbers" 972 363 5 0 3 181 557 558 .none .none 559 975,
 fnE "small_numbers" "small_numbers" cG (.str "tilewise.tiles" 859) 560,
 cdE "numbers_at" "numbers_at" 980 368 3 0 3 181 562 563 (.ref 564) (.ref 565) 566 986,
 fnE "numbers_at" "numbers_at" fS (.str "tilewise.sheets" 978) 567,
 cdE "small_tile" "small_tile" 989 370 4 0 3 181 569 570 (.ref 571) (.ref 572) 573 997,
 fnE "small_tile" "small_tile" fT (.str "tilewise.sheets" 978) 574,
 cdE "small_sheet" "small_sheet" 1000 373 2 0 3 181 576 577 (.ref 578) (.ref 579) 580 1013,
 fnE "small_sheet" "small_sheet" d8 (.str "tilewise.sheets" 978) 581,
 cdE "small_answer" "small_answer" 1016 383 2 0 3 181 583 584 (.ref 585) (.ref 586) 587 1022,
 fnE "small_answer" "small_answer" db (.str "tilewise.sheets" 978) 588,
 cdE "small" "small" 1025 391 2 0 3 181 590 591 (.ref 592) (.ref 593) 594 1030,
 fnE "small" "small" vS (.str "tilewise.sheets" 978) 595]
def nth (l:List Obj)(i:Nat):Obj:=l.getD i ⟨.none,none,.plain,#[]⟩
noncomputable def hp:Params->W.Frag:=λP =>
 (nat_lit 2,nth (ch0 P) 0)::(nat_lit 3,nth (ch0 P) 1)::(nat_lit 27,nth (ch0 P) 2)::(nat_lit 28,nth (ch0 P) 3)::(nat_lit 34,nth (ch0 P) 4)::(nat_lit 35,nth (ch0 P) 5)::(nat_lit 39,nth (ch0 P) 6)::(nat_lit 40,nth (ch0 P) 7)::(nat_lit 44,nth (ch0 P) 8)::(nat_lit 45,nth (ch0 P) 9)::(nat_lit 49,nth (ch0 P) 10)::(nat_lit 50,nth (ch0 P) 11)::(nat_lit 54,nth (ch0 P) 12)::(nat_lit 55,nth (ch0 P) 13)::(nat_lit 59,nth (ch0 P) 14)::(nat_lit 60,nth (ch0 P) 15)::(nat_lit 64,nth (ch1 P) 0)::(nat_lit 65,nth (ch1 P) 1)::(nat_lit 69,nth (ch1 P) 2)::(nat_lit 70,nth (ch1 P) 3)::(nat_lit 83,nth (ch1 P) 4)::(nat_lit 84,nth (ch1 P) 5)::(nat_lit 86,nth (ch1 P) 6)::(nat_lit 87,nth (ch1 P) 7)::(nat_lit 88,nth (ch1 P) 8)::(nat_lit 89,nth (ch1 P) 9)::(nat_lit 97,nth (ch1 P) 10)::(nat_lit 98,nth (ch1 P) 11)::(nat_lit 104,nth (ch1 P) 12)::(nat_lit 105,nth (ch1 P) 13)::(nat_lit 111,nth (ch1 P) 14)::(nat_lit 112,nth (ch1 P) 15)::(nat_lit 116,nth (ch2 P) 0)::(nat_lit 117,nth (ch2 P) 1)::(nat_lit 123,nth (ch2 P) 2)::(nat_lit 124,nth (ch2 P) 3)::(nat_lit 133,nth (ch2 P) 4)::(nat_lit 134,nth (ch2 P) 5)::(nat_lit 135,nth (ch2 P) 6)::(nat_lit 146,nth (ch2 P) 7)::(nat_lit 147,nth (ch2 P) 8)::(nat_lit 148,nth (ch2 P) 9)::(nat_lit 151,nth (ch2 P) 10)::(nat_lit 164,nth (ch2 P) 11)::(nat_lit 165,nth (ch2 P) 12)::(nat_lit 171,nth (ch2 P) 13)::(nat_lit 172,nth (ch2 P) 14)::(nat_lit 185,nth (ch2 P) 15)::(nat_lit 186,nth (ch3 P) 0)::(nat_lit 195,nth (ch3 P) 1)::(nat_lit 196,nth (ch3 P) 2)::(nat_lit 197,nth (ch3 P) 3)::(nat_lit 198,nth (ch3 P) 4)::(nat_lit 213,nth (ch3 P) 5)::(nat_lit 214,nth (ch3 P) 6)::(nat_lit 216,nth (ch3 P) 7)::(nat_lit 217,nth (ch3 P) 8)::(nat_lit 218,nth (ch3 P) 9)::(nat_lit 219,nth (ch3 P) 10)::(nat_lit 227,nth (ch3 P) 11)::(nat_lit 228,nth (ch3 P) 12)::(nat_lit 234,nth (ch3 P) 13)::(nat_lit 235,nth (ch3 P) 14)::(nat_lit 239,nth (ch3 P) 15)::(nat_lit 240,nth (ch4 P) 0)::(nat_lit 246,nth (ch4 P) 1)::(nat_lit 247,nth (ch4 P) 2)::(nat_lit 253,nth (ch4 P) 3)::(nat_lit 254,nth (ch4 P) 4)::(nat_lit 260,nth (ch4 P) 5)::(nat_lit 261,nth (ch4 P) 6)::(nat_lit 267,nth (ch4 P) 7)::(nat_lit 268,nth (ch4 P) 8)::(nat_lit 274,nth (ch4 P) 9)::(nat_lit 275,nth (ch4 P) 10)::(nat_lit 281,nth (ch4 P) 11)::(nat_lit 282,nth (ch4 P) 12)::(nat_lit 286,nth (ch4 P) 13)::(nat_lit 287,nth (ch4 P) 14)::(nat_lit 293,nth (ch4 P) 15)::(nat_lit 294,nth (ch5 P) 0)::(nat_lit 298,nth (ch5 P) 1)::(nat_lit 299,nth (ch5 P) 2)::(nat_lit 303,nth (ch5 P) 3)::(nat_lit 304,nth (ch5 P) 4)::(nat_lit 310,nth (ch5 P) 5)::(nat_lit 311,nth (ch5 P) 6)::(nat_lit 315,nth (ch5 P) 7)::(nat_lit 316,nth (ch5 P) 8)::(nat_lit 322,nth (ch5 P) 9)::(nat_lit 323,nth (ch5 P) 10)::(nat_lit 327,nth (ch5 P) 11)::(nat_lit 328,nth (ch5 P) 12)::(nat_lit 332,nth (ch5 P) 13)::(nat_lit 333,nth (ch5 P) 14)::(nat_lit 346,nth (ch5 P) 15)::(nat_lit 347,nth (ch6 P) 0)::(nat_lit 353,nth (ch6 P) 1)::(nat_lit 354,nth (ch6 P) 2)::(nat_lit 360,nth (ch6 P) 3)::(nat_lit 361,nth (ch6 P) 4)::(nat_lit 363,nth (ch6 P) 5)::(nat_lit 364,nth (ch6 P) 6)::(nat_lit 365,nth (ch6 P) 7)::(nat_lit 366,nth (ch6 P) 8)::(nat_lit 381,nth (ch6 P) 9)::(nat_lit 382,nth (ch6 P) 10)::(nat_lit 388,nth (ch6 P) 11)::(nat_lit 389,nth (ch6 P) 12)::(nat_lit 391,nth (ch6 P) 13)::(nat_lit 392,nth (ch6 P) 14)::(nat_lit 393,nth (ch6 P) 15)::(nat_lit 394,nth (ch7 P) 0)::(nat_lit 409,nth (ch7 P) 1)::(nat_lit 410,nth (ch7 P) 2)::(nat_lit 416,nth (ch7 P) 3)::(nat_lit 417,nth (ch7 P) 4)::(nat_lit 423,nth (ch7 P) 5)::(nat_lit 424,nth (ch7 P) 6)::(nat_lit 426,nth (ch7 P) 7)::(nat_lit 427,nth (ch7 P) 8)::(nat_lit 428,nth (ch7 P) 9)::(nat_lit 429,nth (ch7 P) 10)::(nat_lit 437,nth (ch7 P) 11)::(nat_lit 438,nth (ch7 P) 12)::(nat_lit 444,nth (ch7 P) 13)::(nat_lit 445,nth (ch7 P) 14)::(nat_lit 451,nth (ch7 P) 15)::(nat_lit 452,nth (ch8 P) 0)::(nat_lit 458,nth (ch8 P) 1)::(nat_lit 459,nth (ch8 P) 2)::(nat_lit 465,nth (ch8 P) 3)::(nat_lit 466,nth (ch8 P) 4)::(nat_lit 472,nth (ch8 P) 5)::(nat_lit 473,nth (ch8 P) 6)::(nat_lit 479,nth (ch8 P) 7)::(nat_lit 480,nth (ch8 P) 8)::(nat_lit 484,nth (ch8 P) 9)::(nat_lit 485,nth (ch8 P) 10)::(nat_lit 491,nth (ch8 P) 11)::(nat_lit 492,nth (ch8 P) 12)::(nat_lit 498,nth (ch8 P) 13)::(nat_lit 499,nth (ch8 P) 14)::(nat_lit 505,nth (ch8 P) 15)::(nat_lit 506,nth (ch9 P) 0)::(nat_lit 512,nth (ch9 P) 1)::(nat_lit 513,nth (ch9 P) 2)::(nat_lit 517,nth (ch9 P) 3)::(nat_lit 518,nth (ch9 P) 4)::(nat_lit 522,nth (ch9 P) 5)::(nat_lit 523,nth (ch9 P) 6)::(nat_lit 527,nth (ch9 P) 7)::(nat_lit 528,nth (ch9 P) 8)::(nat_lit 534,nth (ch9 P) 9)::(nat_lit 535,nth (ch9 P) 10)::(nat_lit 541,nth (ch9 P) 11)::(nat_lit 542,nth (ch9 P) 12)::(nat_lit 548,nth (ch9 P) 13)::(nat_lit 549,nth (ch9 P) 14)::(nat_lit 555,nth (ch9 P) 15)::(nat_lit 556,nth (ch10 P) 0)::(nat_lit 560,nth (ch10 P) 1)::(nat_lit 561,nth (ch10 P) 2)::(nat_lit 567,nth (ch10 P) 3)::(nat_lit 568,nth (ch10 P) 4)::(nat_lit 574,nth (ch10 P) 5)::(nat_lit 575,nth (ch10 P) 6)::(nat_lit 581,nth (ch10 P) 7)::(nat_lit 582,nth (ch10 P) 8)::(nat_lit 588,nth (ch10 P) 9)::(nat_lit 589,nth (ch10 P) 10)::(nat_lit 595,nth (ch10 P) 11)::(nat_lit 596,nth (ch10 P) 12) ::
 []
def hpAt:List Addr:=[2,3,27,28,34,35,39,40,44,45,49,50,54,55,59,60,64,65,69,70,83,84,86,87,88,89,97,98,104,105,111,112,116,117,123,124,133,134,135,146,147,148,151,164,165,171,172,185,186,195,196,197,198,213,214,216,217,218,219,227,228,234,235,239,240,246,247,253,254,260,261,267,268,274,275,281,282,286,287,293,294,298,299,303,304,310,311,315,316,322,323,327,328,332,333,346,347,353,354,360,361,363,364,365,366,381,382,388,389,391,392,393,394,409,410,416,417,423,424,426,427,428,429,437,438,444,445,451,452,458,459,465,466,472,473,479,480,484,485,491,492,498,499,505,506,512,513,517,518,522,523,527,528,534,535,541,542,548,549,555,556,560,561,567,568,574,575,581,582,588,589,595,596]
theorem uB (P:Params):hpAt=(hp P).map (·.1):=by kernel_rfl
abbrev pw:Program:=PySem.Challenge.pw_tilewise_s05_small
def view:Program:={ pw with main:={ pw.main with body:=([0,2,3,4,5,6,7,8,9,10,12,13,14,15,16,17,19,20,22,23,24,25,26,27,28,29,30,31,32,34,35,36,37,38,39,41,42,43,44,45,46,47,48,50,51,53,54,55,56,57,58,59,60,61,62,63,65,66,67,68,69,70,71,72,73,74,75,76,77,79,80,81,82,83]:List Nat).map top } }
def Xs (s:Shared):Bool:=W.xlAt view [] s&&W.recOk [] s
noncomputable abbrev hk:W.Hook:=W.kHook hp hpAt uB
def annT:Option Value:=some (.ref 6)
noncomputable def xR (w:World)(os:OsState):=(gZ PySem.treeTable pw w 11 annT 7998 (stT w os) (W.topStub pw)).map (λs=>(kept pw (W.boot_heap w.params) s.abs,hpAt.map (atT s)))
noncomputable def xS (w:World)(_:OsState):=some (true,(hp w.params).map λx=>some x.2)
noncomputable def runL (w:World)(os:OsState):=(gZ PySem.treeTable pw w 11 annT 7998 (stT w os) (W.topStub pw)).map (λs=>W.openSeen view [] (PySem.importedModules pw.main.body) Xs true s.abs)
noncomputable def xT (w:World)(os:OsState):=(runL w os).map (·.1)
noncomputable def xU (_:World)(_:OsState):=some (PyProof.Rows.expectedOf view)
noncomputable def xV (w:World)(os:OsState):=(runL w os).map λx=>(x.2.1,x.2.2.1)
noncomputable def AM (_:World)(_:OsState):=some (PySem.bltViewBooted,true)
noncomputable def xW (w:World)(os:OsState):=(runL w os).map (·.2.2.2)
noncomputable def xX (_:World)(_:OsState):=some (true,PySem.pinGoodD (PyProof.Rows.drecsOf view),PyProof.Rows.plainGoodE view (W.looseW view []),PyProof.Rows.plainGoodD view [],W.wideGood view,W.clsGoodW view [])
theorem xY:xR=xR:=rfl
theorem xZ:xS=xS:=rfl
name_quick T05_1L for xR by xY
name_quick T05_1R for xS by xZ
theorem Ba (w:World)(os:OsState):W.Fast.T05_1L w os=W.Fast.T05_1R w os:=by kernel_rfl
theorem run1 (w:World)(os:OsState):xR w os=xS w os:=(congrFun (congrFun W.Fast.T05_1L_eq w) os).trans ((Ba w os).trans (congrFun (congrFun W.Fast.T05_1R_eq w) os).symm)
theorem x4:xT=xT:=rfl
theorem x5:xU=xU:=rfl
name_quick T05_2L for xT by x4
name_quick T05_2R for xU by x5
theorem Bb (w:World)(os:OsState):W.Fast.T05_2L w os=W.Fast.T05_2R w os:=by kernel_rfl
theorem run2 (w:World)(os:OsState):xT w os=xU w os:=(congrFun (congrFun W.Fast.T05_2L_eq w) os).trans ((Bb w os).trans (congrFun (congrFun W.Fast.T05_2R_eq w) os).symm)
theorem x6:xV=xV:=rfl
name_quick T05_3L for xV by x6
theorem Bc (w:World)(os:OsState):W.Fast.T05_3L w os=AM w os:=by kernel_rfl
theorem run3 (w:World)(os:OsState):xV w os=AM w os:=(congrFun (congrFun W.Fast.T05_3L_eq w) os).trans (Bc w os)
theorem x8:xW=xW:=rfl
theorem x9:xX=xX:=rfl
name_quick T05_4L for xW by x8
name_quick T05_4R for xX by x9
theorem Bd (w:World)(os:OsState):W.Fast.T05_4L w os=W.Fast.T05_4R w os:=by kernel_rfl
theorem run4 (w:World)(os:OsState):xW w os=xX w os:=(congrFun (congrFun W.Fast.T05_4L_eq w) os).trans ((Bd w os).trans (congrFun (congrFun W.Fast.T05_4R_eq w) os).symm)
theorem runA (w:World)(os:OsState):runL w os=some (W.openGood view []):=qu (g:=W.openGood view []) (run2 w os) (run3 w os) (run4 w os)
theorem zF:W.opening pw=W.plainProg pw.main.scope.names:=by kernel_rfl
theorem zG (s:Shared):fenceModules? pw s=some s:=by kernel_rfl
theorem AN (w:World):((W.boot_heap w.params).isNs mainGlobals,(W.boot_heap w.params).objs.size,(W.boot_heap w.params).nsMap mainGlobals "__annotations__")=(true,11,annT):=by kernel_rfl
theorem Be:W.LeftO pw view [] (λs=>W.xlAt view [] s&&W.recOk [] s) (W.Hook.obs hk) (W.Hook.val hk) 7998 :=
 left_tree (W.boot_open zF (by decide) zG) AN run1 runA
theorem oz {K:W.Frag}{f cd:Addr}{n q:Str}{st:Stmt}{pm:Value} (l:K.lookup f=some (fnE n q st pm cd)):W.keepIn K (.ref f)=true:=by
 show (match K.lookup f with | some ⟨_,_,.func _,_⟩=>true | some ⟨_,_,.cls _,_⟩=>_ | _=>false)=true;rw [l];rfl
theorem aJ {K:W.Frag}{h:Heap}{mg:Str->Option Value} (X:K.In h) (G:h.Ns mainGlobals mg) (x:Str) (st:Stmt) (f cd:Addr) (pm:Value) (a:W.nsIn K mainGlobals x=some (some (.ref f)):=by kernel_rfl) (l:K.lookup f=some (fnE x x st pm cd):=by kernel_rfl) (c:W.codeIn K (.ref cd) x=true:=by kernel_rfl):aB K mg x st :=
 ⟨f,_,va (st:=st) l c (oz l),W.mg_of X G a⟩
theorem jp (K:W.Frag)(C:Addr)(m q:Str)(st:Stmt)(f cd:Addr)(pm:Value)(a:W.findIn K (.ref C) m=some (some (.ref f)):=by kernel_rfl)(i:W.isFn K (.ref f)=true:=by kernel_rfl)(l:K.lookup f=some (fnE m q st pm cd):=by kernel_rfl)(c:W.codeIn K (.ref cd) q=true:=by kernel_rfl):bW K C m q st :=
 ⟨f,_,va (st:=st) l c (oz l),⟨a,i,oz l⟩⟩
theorem no_at {K:W.Frag}{C:Addr}{f:Str} (h:W.findIn K (.ref C) f=some none):bg K C f:=h
theorem all_mk {P:Program}{w:World}{Pm:Params}{h:Heap}{mg:Str->Option Value}{fa:Addr} (X:(hp Pm).In h) (G:h.Ns mainGlobals mg) (hfa:mg "small"=some (.ref fa)) :
  ∃fd:FuncData,(∀(s:Shared) (us:List Value),us.length=2->BindsTo s fd ⟨us,[]⟩ ((["l","coded"]:List Str).zip us))/\∀base:Heap,(hp Pm).In base->base.Ns mainGlobals mg->FnOk P w (hp Pm) mg base CX0 13 fa fd (["l","coded"]:List Str) (spMain (hp Pm)):=by
 have e:=hfa.symm.trans (W.mg_of (v:=.ref 596) X G (by kernel_rfl));cases e;have d_half:=aJ X G "half" xi 28 27 (.str "tilewise.halving" 194);have d_right_of_odds:=aJ X G "right_of_odds" sJ 35 34 (.str "tilewise.halving" 194);have d_lifts:=aJ X G "lifts" sK 40 39 (.str "tilewise.halving" 194);have d_halve_row:=aJ X G "halve_row" ir 45 44 (.str "tilewise.halving" 194);have d_whole_row:=aJ X G "whole_row" iu 50 49 (.str "tilewise.halving" 194);have d_column_at:=aJ X G "column_at" m4 55 54 (.str "tilewise.halving" 194);have d_turned:=aJ X G "turned" m5 60 59 (.str "tilewise.halving" 194);have d_halve_corner:=aJ X G "halve_corner" c6 65 64 (.str "tilewise.halving" 194);have d_whole_corner:=aJ X G "whole_corner" c7 70 69 (.str "tilewise.halving" 194);have d_tile_places:=aJ X G "tile_places" m6 98 97 (.str "tilewise.layout" 254);have d_shrunk:=aJ X G "shrunk" m7 105 104 (.str "tilewise.layout" 254);have d_small_place:=aJ X G "small_place" dZ 112 111 (.str "tilewise.layout" 254);have d_row_starts:=aJ X G "row_starts" fO 117 116 (.str "tilewise.layout" 254);have d_lay_in:=aJ X G "lay_in" sL 124 123 (.str "tilewise.layout" 254);have d_number_of:=aJ X G "number_of" m8 228 227 (.str "tilewise.frames" 387);have d_head_of:=aJ X G "head_of" m9 235 234 (.str "tilewise.frames" 387);have d_table_of:=aJ X G "table_of" sM 240 239 (.str "tilewise.frames" 387);have d_tile_codes_of:=aJ X G "tile_codes_of" sN 247 246 (.str "tilewise.frames" 387);have d_opened:=aJ X G "opened" ng 254 253 (.str "tilewise.frames" 387);have d_all_between:=aJ X G "all_between" jR 261 260 (.str "tilewise.ranges" 541);have d_numbers_in_range:=aJ X G "numbers_in_range" fP 268 267 (.str "tilewise.ranges" 541);have d_check_bytes:=aJ X G "check_bytes" sO 275 274 (.str "tilewise.ranges" 541);have d_flat:=aJ X G "flat" xj 282 281 (.str "tilewise.bands" 572);have d_cut_rows:=aJ X G "cut_rows" jS 287 286 (.str "tilewise.bands" 572);have d_corner_sizes:=aJ X G "corner_sizes" sP 294 293 (.str "tilewise.bands" 572);have d_three_bands:=aJ X G "three_bands" sQ 299 298 (.str "tilewise.bands" 572);have d_bands_of:=aJ X G "bands_of" jT 304 303 (.str "tilewise.bands" 572);have d_band_lengths:=aJ X G "band_lengths" c8 311 310 (.str "tilewise.bands" 572);have d_joined:=aJ X G "joined" ni 316 315 (.str "tilewise.bands" 572);have d_rows_of:=aJ X G "rows_of" nj 323 322 (.str "tilewise.bands" 572);have d_mixed:=aJ X G "mixed" sU 328 327 (.str "tilewise.mixing" 647);have d_unmixed:=aJ X G "unmixed" jU 333 332 (.str "tilewise.mixing" 647);have d_unsigned:=aJ X G "unsigned" iw 438 437 (.str "tilewise.telling" 661);have d_signed:=aJ X G "signed" nl 445 444 (.str "tilewise.telling" 661);have d_ones:=aJ X G "ones" xk 452 451 (.str "tilewise.telling" 661);have d_tell_number:=aJ X G "tell_number" d0 459 458 (.str "tilewise.telling" 661);have d_hear_number:=aJ X G "hear_number" d5 466 465 (.str "tilewise.telling" 661);have d_tell_band:=aJ X G "tell_band" iy 473 472 (.str "tilewise.telling" 661);have d_hear_band:=aJ X G "hear_band" iz 480 479 (.str "tilewise.telling" 661);have d_planes_of:=aJ X G "planes_of" iA 485 484 (.str "tilewise.tiles" 859);have d_woven:=aJ X G "woven" sV 492 491 (.str "tilewise.tiles" 859);have d_plain_code:=aJ X G "plain_code" fQ 499 498 (.str "tilewise.tiles" 859);have d_short_code:=aJ X G "short_code" fR 506 505 (.str "tilewise.tiles" 859);have d_tile_code:=aJ X G "tile_code" iC 513 512 (.str "tilewise.tiles" 859);have d_plain_numbers:=aJ X G "plain_numbers" cB 518 517 (.str "tilewise.tiles" 859);have d_heard_plane:=aJ X G "heard_plane" d6 523 522 (.str "tilewise.tiles" 859);have d_short_numbers:=aJ X G "short_numbers" cD 528 527 (.str "tilewise.tiles" 859);have d_heard_numbers:=aJ X G "heard_numbers" cE 535 534 (.str "tilewise.tiles" 859);have d_tile_numbers:=aJ X G "tile_numbers" c9 542 541 (.str "tilewise.tiles" 859);have d_small_plane:=aJ X G "small_plane" d7 549 548 (.str "tilewise.tiles" 859);have d_held:=aJ X G "held" xl 556 555 (.str "tilewise.tiles" 859);have d_small_numbers:=aJ X G "small_numbers" cG 561 560 (.str "tilewise.tiles" 859);have d_numbers_at:=aJ X G "numbers_at" fS 568 567 (.str "tilewise.sheets" 978);have d_small_tile:=aJ X G "small_tile" fT 575 574 (.str "tilewise.sheets" 978);have d_small_sheet:=aJ X G "small_sheet" d8 582 581 (.str "tilewise.sheets" 978);have d_small_answer:=aJ X G "small_answer" db 589 588 (.str "tilewise.sheets" 978);have t_Place:PlaceTxt (hp Pm) mg 87:=⟨⟨⟨(by kernel_rfl),(by kernel_rfl),(by kernel_rfl),(by kernel_rfl)⟩,W.mg_of X G (by kernel_rfl),(by kernel_rfl),(by kernel_rfl)⟩,(no_at (by kernel_rfl)),(no_at (by kernel_rfl)),(no_at (by kernel_rfl)),(no_at (by kernel_rfl))⟩
 have m_Place_init:=jp (hp Pm) 87 "__init__" "Place.__init__" fU 84 83 (.str "tilewise.layout" 254);have t_Head:HeadTxt (hp Pm) mg 196:=⟨⟨⟨(by kernel_rfl),(by kernel_rfl),(by kernel_rfl),(by kernel_rfl)⟩,W.mg_of X G (by kernel_rfl),(by kernel_rfl),(by kernel_rfl)⟩,(no_at (by kernel_rfl)),(no_at (by kernel_rfl)),(no_at (by kernel_rfl)),(no_at (by kernel_rfl)),(no_at (by kernel_rfl))⟩
 have m_Head_init:=jp (hp Pm) 196 "__init__" "Head.__init__" iE 165 164 (.str "tilewise.frames" 387);have m_Head_in_range:=jp (hp Pm) 196 "in_range" "Head.in_range" jV 172 171 (.str "tilewise.frames" 387);have m_Head_places:=jp (hp Pm) 196 "places" "Head.places" d9 186 185 (.str "tilewise.frames" 387);have t_Parts:PartsTxt (hp Pm) mg 217:=⟨⟨⟨(by kernel_rfl),(by kernel_rfl),(by kernel_rfl),(by kernel_rfl)⟩,W.mg_of X G (by kernel_rfl),(by kernel_rfl),(by kernel_rfl)⟩,(no_at (by kernel_rfl)),(no_at (by kernel_rfl))⟩
 have m_Parts_init:=jp (hp Pm) 217 "__init__" "Parts.__init__" fV 214 213 (.str "tilewise.frames" 387);have t_BitWriter:WriterTxt (hp Pm) mg 364:=⟨⟨⟨(by kernel_rfl),(by kernel_rfl),(by kernel_rfl),(by kernel_rfl)⟩,W.mg_of X G (by kernel_rfl),(by kernel_rfl),(by kernel_rfl)⟩,(no_at (by kernel_rfl)),(no_at (by kernel_rfl)),(no_at (by kernel_rfl))⟩
 have m_BitWriter_init:=jp (hp Pm) 364 "__init__" "BitWriter.__init__" ef 347 346 (.str "tilewise.telling" 661);have m_BitWriter_tell:=jp (hp Pm) 364 "tell" "BitWriter.tell" xm 354 353 (.str "tilewise.telling" 661);have m_BitWriter_all_bytes:=jp (hp Pm) 364 "all_bytes" "BitWriter.all_bytes" iG 361 360 (.str "tilewise.telling" 661);have t_BitReader:ReaderTxt (hp Pm) mg 392:=⟨⟨⟨(by kernel_rfl),(by kernel_rfl),(by kernel_rfl),(by kernel_rfl)⟩,W.mg_of X G (by kernel_rfl),(by kernel_rfl),(by kernel_rfl)⟩,(no_at (by kernel_rfl)),(no_at (by kernel_rfl)),(no_at (by kernel_rfl)),(no_at (by kernel_rfl))⟩
 have m_BitReader_init:=jp (hp Pm) 392 "__init__" "BitReader.__init__" eC 382 381 (.str "tilewise.telling" 661);have m_BitReader_hear:=jp (hp Pm) 392 "hear" "BitReader.hear" xn 389 388 (.str "tilewise.telling" 661);have t_Pace:PaceTxt (hp Pm) mg 427:=⟨⟨⟨(by kernel_rfl),(by kernel_rfl),(by kernel_rfl),(by kernel_rfl)⟩,W.mg_of X G (by kernel_rfl),(by kernel_rfl),(by kernel_rfl)⟩,(no_at (by kernel_rfl)),(no_at (by kernel_rfl))⟩
 have m_Pace_init:=jp (hp Pm) 427 "__init__" "Pace.__init__" iH 410 409 (.str "tilewise.telling" 661);have m_Pace_low_bits:=jp (hp Pm) 427 "low_bits" "Pace.low_bits" iI 417 416 (.str "tilewise.telling" 661);have m_Pace_take:=jp (hp Pm) 427 "take" "Pace.take" xo 424 423 (.str "tilewise.telling" 661);have e_OutOfRange:ExcAt (hp Pm) mg "OutOfRange" 134:=⟨W.mg_of X G (by kernel_rfl),(by kernel_rfl)⟩
 have e_NotACode:ExcAt (hp Pm) mg "NotACode" 147:=⟨W.mg_of X G (by kernel_rfl),(by kernel_rfl)⟩
 have e11:W.exmOne (hp Pm) (.ref 134) (.ref 134)=some true:=by kernel_rfl
 have e21:W.exmOne (hp Pm) (.ref 147) (.ref 134)=some false:=by kernel_rfl
 have e22:W.exmOne (hp Pm) (.ref 147) (.ref 147)=some true:=by kernel_rfl
 have c_HEAD_LENGTH:∃t,mg "HEAD_LENGTH"=some (.int 9 t):=⟨394,W.mg_of X G (by kernel_rfl)⟩
 have c_CRC_LENGTH:∃t,mg "CRC_LENGTH"=some (.int 4 t):=⟨396,W.mg_of X G (by kernel_rfl)⟩
 have c_MOST_LEVELS:∃t,mg "MOST_LEVELS"=some (.int 5 t):=⟨398,W.mg_of X G (by kernel_rfl)⟩
 have c_HIGHEST:∃t,mg "HIGHEST"=some (.int 65535 t):=⟨543,W.mg_of X G (by kernel_rfl)⟩
 have c_HIGHEST_BYTE:∃t,mg "HIGHEST_BYTE"=some (.int 255 t):=⟨545,W.mg_of X G (by kernel_rfl)⟩
 have c_MOST_BYTES:∃t,mg "MOST_BYTES"=some (.int 1048576 t):=⟨547,W.mg_of X G (by kernel_rfl)⟩
 have c_LONGEST:∃t,mg "LONGEST"=some (.int 24 t):=⟨663,W.mg_of X G (by kernel_rfl)⟩
 have c_FIRST_BYTES:mg "FIRST_BYTES"=some (.ref 151):=W.mg_of X G (by kernel_rfl);have u_FIRST_BYTES:(hp Pm).lookup 151=some ⟨.type "tuple",none,.seq #[.int 84 389,.int 73 390,.int 76 391,.int 83 392] 0,#[]⟩:=by kernel_rfl
 have q_FIRST_BYTES:∀H,SqT (hp Pm) H 151 (([84,73,76,83]:List Int).map V.int):=λH=>.inr ⟨_,_,_,u_FIRST_BYTES,rfl,rfl,(by show 4<=sizeLine;decide),.cons ⟨_,rfl⟩ (.cons ⟨_,rfl⟩ (.cons ⟨_,rfl⟩ (.cons ⟨_,rfl⟩ (.nil))))⟩;have z_len:mg "len"=none:=W.mg_none_of X G (by kernel_rfl);have z_min:mg "min"=none:=W.mg_none_of X G (by kernel_rfl);have z_max:mg "max"=none:=W.mg_none_of X G (by kernel_rfl);have z_sum:mg "sum"=none:=W.mg_none_of X G (by kernel_rfl);have z_range:mg "range"=none:=W.mg_none_of X G (by kernel_rfl);have z_tuple:mg "tuple"=none:=W.mg_none_of X G (by kernel_rfl);have z_enumerate:mg "enumerate"=none:=W.mg_none_of X G (by kernel_rfl);have z_list:mg "list"=none:=W.mg_none_of X G (by kernel_rfl);have z_zip:mg "zip"=none:=W.mg_none_of X G (by kernel_rfl);have z_abs:mg "abs"=none:=W.mg_none_of X G (by kernel_rfl);have lM:(hp Pm).lookup 596=some (fnE "small" "small" vS (.str "tilewise.sheets" 978) 595):=by kernel_rfl
 have F:=va (st:=vS) lM (by kernel_rfl) (oz lM);exact ⟨_,λs us hl=>match us,hl with | [_,_],_=>.of_eq rfl,λbase _ _=>ok_main F e_OutOfRange e_NotACode e11 e21 e22 (lV d_small_answer t_Parts t_Head e_OutOfRange c_MOST_LEVELS (xw d_check_bytes z_len c_MOST_BYTES c_HIGHEST_BYTE (mv d_all_between z_min z_max)) (v6 d_opened t_Parts (pR m_Parts_init t_Parts) (v5 d_head_of z_len z_tuple c_HEAD_LENGTH c_FIRST_BYTES q_FIRST_BYTES t_Head e_NotACode (rh m_Head_init t_Head) (ud m_Head_in_range t_Head c_MOST_LEVELS)) (xz d_tile_codes_of z_len z_min z_sum c_HEAD_LENGTH c_CRC_LENGTH t_Head e_NotACode (iM m_Head_places t_Head (pO d_tile_places z_range z_min t_Place (fo m_Place_init t_Place))) (xy d_table_of z_range c_HEAD_LENGTH (v4 d_number_of z_enumerate)))) (ox d_small_sheet z_zip t_Parts t_Head t_Place (iM m_Head_places t_Head (pO d_tile_places z_range z_min t_Place (fo m_Place_init t_Place))) (ou d_small_place t_Place (fo m_Place_init t_Place) (wy d_shrunk z_range (je d_half))) (xO d_lay_in z_enumerate t_Place (qm d_row_starts z_range t_Place)) (qr d_small_tile t_Parts t_Head t_Place (qj d_numbers_at t_Parts t_Head t_Place (lS d_tile_numbers e_NotACode (lv d_heard_numbers e_NotACode (lq d_plain_numbers z_len z_zip e_NotACode) (lu d_short_numbers z_range t_BitReader (oh m_BitReader_init t_BitReader) (on d_heard_plane (lK d_band_lengths z_range (j0 d_corner_sizes z_range (je d_half))) (rO d_hear_band z_range t_Pace (k8 m_Pace_init t_Pace) (rM m_Pace_low_bits t_Pace) (wl m_Pace_take t_Pace z_abs) (ww d_signed) (ol d_hear_number t_BitReader c_LONGEST (zr m_BitReader_hear t_BitReader z_len e_NotACode))) (wp d_rows_of z_range (j0 d_corner_sizes z_range (je d_half)) (fW d_cut_rows z_range) (lJ d_whole_corner (kW d_turned z_len z_range (kU d_column_at)) (rJ d_whole_row z_len z_list z_zip (je d_half) (nM d_right_of_odds z_len) (nN d_lifts z_zip))) (wo d_joined z_len z_zip (fW d_cut_rows z_range))) (kZ d_flat)) (mz d_unmixed z_len z_list z_zip) (tz d_woven z_len z_enumerate))) (p8 d_numbers_in_range c_HIGHEST (mv d_all_between z_min z_max)) (rG d_tile_code z_len (xE d_plain_code) (xF d_short_code t_BitWriter (nU m_BitWriter_init t_BitWriter) (rA m_BitWriter_all_bytes t_BitWriter z_list) (lh d_planes_of z_range) (tm d_mixed z_len z_list z_zip) (fW d_cut_rows z_range) (mw d_bands_of z_len (j0 d_corner_sizes z_range (je d_half)) (gk d_halve_corner (kW d_turned z_len z_range (kU d_column_at)) (kT d_halve_row z_len z_list z_zip (nM d_right_of_odds z_len) (nN d_lifts z_zip))) (s0 d_three_bands (kZ d_flat)) (kZ d_flat)) (rC d_tell_band t_Pace (k8 m_Pace_init t_Pace) (ui m_Pace_low_bits t_Pace) (wl m_Pace_take t_Pace z_abs) (rB d_unsigned) (nV d_tell_number t_BitWriter c_LONGEST (zi d_ones) (zh m_BitWriter_tell t_BitWriter))))))) (lA d_small_numbers (lh d_planes_of z_range) (tm d_mixed z_len z_list z_zip) (ow d_small_plane (fW d_cut_rows z_range) (mw d_bands_of z_len (j0 d_corner_sizes z_range (je d_half)) (gk d_halve_corner (kW d_turned z_len z_range (kU d_column_at)) (kT d_halve_row z_len z_list z_zip (nM d_right_of_odds z_len) (nN d_lifts z_zip))) (s0 d_three_bands (kZ d_flat)) (kZ d_flat))) (zC d_held z_min z_max c_HIGHEST) (tz d_woven z_len z_enumerate) (mz d_unmixed z_len z_list z_zip)))))⟩
abbrev rw_:W.OpenSpec:=PySem.Challenge.rw_tilewise_s05_small
theorem said:rw_.wellSaid=true:=by decide +kernel
theorem req (args:List W.WData)(h:rw_.pre args=true):∃(xs:List TW.Arg) (ans:List Int),args=xs.map TW.Arg.data/\xs.length=2/\(∀l,TW.Arg.nums l∈xs->l.length<=sizeLine)/\rw_.post args (.list (ans.map .int))=true /\
  ∀(K:W.Frag) (H:Hp) (vs:List V),Only H->TW.o7 K H xs vs->spMain K vs H (λv H'=>∃p,v=.ref p/\SqL K H' p (ans.map V.int)) λ_ _ _=>False:=by
 obtain ⟨⟨t,xs,_⟩,hw,_,rfl⟩:=(W.OpenSpec.pre_iff said args).mp h;have hw':(W.Codec.inInt (-2147483648) 2147483647 t&&((W.Codec.inNat 0 100000 xs.length&&xs.all (W.Codec.inInt 0 255))&&true))=true:=hw;have h0:=W.Codec.and_of (W.Codec.and_of hw').2;have h1:=W.Codec.and_of h0.1;have hl1:xs.length<=100000:=(W.Codec.inNat_iff.mp h1.1).2;have hi1:∀n∈xs,0<=n/\n<=255:=λn hn=>W.Codec.inInt_iff.mp (List.all_eq_true.mp h1.2 n hn);refine ⟨[.int t,.nums xs],PySp21.small t xs,rfl,rfl,λl hl=>?_,(W.OpenSpec.post_iff said hw _ []).mpr rfl,λK H vs hO hA=>?_⟩
 ·have e:TW.Arg.nums l=TW.Arg.nums xs:=by simpa using hl
  injection e with e;rw [e];exact line_ge (by omega)
 ·cases hA with
  | cons a1 hA =>
   cases hA with
   | cons a2 hA =>
    cases hA;obtain ⟨a,rfl,hq⟩:=a2;cases a1;exact ⟨t,a,xs,rfl,hq,hl1,hi1,λp H' g=>⟨p,rfl,.of g⟩⟩
theorem walk {q:Program}{loose:List Str}{XP:(Str->Option Value)->Heap->Prop}{YP:World->Heap->Prop}{d:DefRec}{K:Params->W.Frag} (hdf:d.params.defaults=[])
  (hY:∀(w:World) (h:Heap),YP w h->(K w.params).In h)
  (F:∀(w:World) (mg:Str->Option Value) (fa:Addr) (h:Heap),(K w.params).In h->h.Ns mainGlobals mg->mg d.name=some (.ref fa) ->
   ∃fd:FuncData,(∀(s:Shared) (us:List Value),us.length=2->BindsTo s fd ⟨us,[]⟩ ((["l","coded"]:List Str).zip us))/\∀base:Heap,(K w.params).In base->base.Ns mainGlobals mg->FnOk rw_.prog w (K w.params) mg base CX0 13 fa fd (["l","coded"]:List Str) (spMain (K w.params))) :
  W.WalkOS q loose XP YP rw_ d [] (λf vs=>PySem.call f vs) :=
 TW.vd (r:=rw_) (k:=13) (ps:=(["l","coded"]:List Str)) (CX:=CX0) (sp:=spMain) hdf ⟨rfl,by decide,by decide⟩ hY F req λ_ _ _ _ z=>z
end T05
open PySem PySem.W PyProof.Rows
set_option maxRecDepth 100000 in
set_option maxHeartbeats 0 in
theorem PySem.Challenge.cw_tilewise_s05_small_holds : PySem.Challenge.rw_tilewise_s05_small.Holds := by
 refine holds_os (q:=T05.view) (loose:=[]) (Xt:=λs=>xlAt T05.view [] s&&recOk [] s) (XP:=XL T05.view []) (Yf:=Hook.obs (kHook T05.hp T05.hpAt T05.uB)) (Ya:=Hook.val (kHook T05.hp T05.hpAt T05.uB)) (YP:=Hook.says (kHook T05.hp T05.hpAt T05.uB)) T05.Be (Hook.of (kHook T05.hp T05.hpAt T05.uB)) (Hook.keeps (kHook T05.hp T05.hpAt T05.uB)) (λs e=>xl_of s (Bool.and_eq_true_iff.mp e).1) XL.keeps (by rfl) (by rfl) (by rfl) (λs e=>recFacts_of (Bool.and_eq_true_iff.mp e).2) os_shapes (by decide +kernel) (by decide +kernel) ⟨rfl,rfl,rfl,rfl,rfl,by decide +kernel⟩ ⟨[.int 0,.list []],by decide +kernel,by decide +kernel⟩ ?_;exact T05.walk rfl (λw h Y=>PySem.W.kIn_of Y) λw mg fa h KX G hmg=>T05.all_mk KX G hmg
#print axioms PySem.Challenge.cw_tilewise_s05_small_holds
