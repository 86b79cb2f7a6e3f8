import PyProof.Rows.All
import Wide.All
import OpenK.AllK
import Wide.FinOn
import PyProof.EqAt
import PyProof.EqKinds
import PyProof.TupleCall
import KE.BitLaws
import Open.SpecLaws
import KE.OsHead
import KE.OsGo
import PySem.Challenge.RW_sealedrowsdesk_s09_store
open PySem.W (Frag)
set_option Elab.async false
set_option maxRecDepth 100000 in
theorem WsO:PySem.Challenge.rw_sealedrowsdesk_s09_store.wellSaid=true:=by decide +kernel
section
set_option Elab.async false
set_option linter.all false
set_option maxRecDepth 100000
namespace L2
open PySem PySem.Spec PyProof.Rows
abbrev Key:=Sum Int Str
def GV:Key->Value->Bool
 |.inl k,v=>Value.isInt k v
 |.inr x,v=>Value.isStrOf x v
def keyH (w:World):Key->Int
 |.inl k=>hashInt k
 |.inr x=>hashStr w x
theorem DZ:∀{k:Key} {v:Value},GV k v=true->(∃i t,k=Sum.inl i/\v=Value.int i t)\/(∃x t,k=Sum.inr x/\v=Value.str x t)
 |.inl i,v,h=>by
  obtain ⟨t,e⟩:=Value.isInt_shape (k:=i) (v:=v) h
  exact .inl ⟨i,t,rfl,e⟩
 |.inr x,v,h=>by
  obtain ⟨t,e⟩:=Value.isStrOf_shape (x:=x) (v:=v) h
  exact .inr ⟨x,t,rfl,e⟩
theorem key_ll (a b:Int):decide ((Sum.inl a:Key)=Sum.inl b)=(a == b):=by
 by_cases e:a=b
 ·subst e;simp
 ·have h:¬ (Sum.inl a:Key)=Sum.inl b:=λq=>e (Sum.inl.inj q)
  rw[decide_eq_false h]
  exact (beq_eq_false_iff_ne.mpr e).symm
theorem key_rr (a b:Str):decide ((Sum.inr a:Key)=Sum.inr b)=decide (a=b):=by
 by_cases e:a=b
 ·subst e;simp
 ·have h:¬ (Sum.inr a:Key)=Sum.inr b:=λq=>e (Sum.inr.inj q)
  rw[decide_eq_false h,decide_eq_false e]
theorem key_lr (a:Int)(b:Str):decide ((Sum.inl a:Key)=Sum.inr b)=false:=decide_eq_false (λq=>nomatch q)
theorem key_rl (a:Str)(b:Int):decide ((Sum.inr a:Key)=Sum.inl b)=false:=decide_eq_false (λq=>nomatch q)
def Fy (prog:Program)(w:World):PySem.KeyKind prog w Key where
 is:=GV
 hash:=keyH w
 inj:=λv a b ha hb=>by
  rcases DZ ha with ⟨i,t,rfl,rfl⟩|⟨x,t,rfl,rfl⟩
  ·rcases DZ hb with ⟨j,u,rfl,e⟩|⟨y,u,rfl,e⟩
   ·injection e with e1 _;rw[e1]
   ·exact nomatch e
  ·rcases DZ hb with ⟨j,u,rfl,e⟩|⟨y,u,rfl,e⟩
   ·exact nomatch e
   ·injection e with e1 _;rw[e1]
 byValue:=λk v h=>by
  rcases DZ h with ⟨i,t,rfl,rfl⟩|⟨x,t,rfl,rfl⟩<;>rfl
 pyHash:=λhv h=>by
  rcases DZ hv with ⟨i,t,rfl,rfl⟩|⟨x,t,rfl,rfl⟩
  ·exact wpAny_pyHash_int h
  ·exact wpAny_pyHash_str h
 eqBool:=λhu hv h=>by
  rcases DZ hu with ⟨i,t,rfl,rfl⟩|⟨x,t,rfl,rfl⟩
  ·rcases DZ hv with ⟨j,u,rfl,rfl⟩|⟨y,u,rfl,rfl⟩
   ·rw[key_ll] at h;exact wpAny_eqBool_int h
   ·rw[key_lr] at h;exact SeqAt.EqAt.int_str i t y u _ _ _ _ h
  ·rcases DZ hv with ⟨j,u,rfl,rfl⟩|⟨y,u,rfl,rfl⟩
   ·rw[key_rl] at h;exact SeqAt.EqAt.str_int x t j u _ _ _ _ h
   ·rw[key_rr] at h;exact wpAny_eqBool_str h
 «strs»:=λk x t v h=>by
  rcases DZ h with ⟨i,u,rfl,e⟩|⟨y,u,rfl,e⟩
  ·exact nomatch e
  ·injection e with e1 _
   subst e1
   cases v<;>rfl
open PySem PySem.Spec PyProof.Rows
inductive V where
 |non|bl (b:Bool)|int (i:Int)|str (x:Str)|byt (b:Array UInt8)|flt (b:UInt64)|ref (a:Addr)|ty (n:String)
 deriving DecidableEq
def RelV:V->Value->Prop
 |.non,u=>u=Value.none
 |.bl b,u=>u=Value.bool b
 |.int i,u=>∃t,u=Value.int i t
 |.str x,u=>∃t,u=Value.str x t
 |.byt b,u=>∃t,u=Value.bytes b t
 |.flt b,u=>∃t,u=Value.float b t
 |.ref a,u=>u=Value.ref a
 |.ty n,u=>u=Value.type n
abbrev Vals:List V->List Value->Prop:=Paired RelV
theorem Vals.length {xs:List V}{us:List Value}(r:Vals xs us):xs.length=us.length:=Paired.length r
theorem Vals.get:∀{xs:List V} {us:List Value} {i:Nat} {x:V},Vals xs us->xs[i]? = some x->∃u,us[i]? = some u/\RelV x u
 |_,_,_,_,.nil,e=>by simp at e
 |_,_,0,_,.cons r _,e=>by simp at e;subst e;exact ⟨_,rfl,r⟩
 |_,_,i+1,x,.cons _ t,e=>by
  obtain ⟨u,h1,h2⟩:=Vals.get (i:=i) (x:=x) t (by simpa using e)
  exact ⟨u,by simpa using h1,h2⟩
theorem Vals.set {x:V}{u:Value}(r:RelV x u):∀{xs:List V} {us:List Value} (i:Nat),Vals xs us->Vals (xs.set i x) (us.set i u)
 |_,_,_,.nil=>.nil
 |_,_,0,.cons _ t=>.cons r t
 |_,_,i+1,.cons q t=>.cons q (Vals.set r i t)
theorem Vals.append:∀{xs ys:List V} {us ws:List Value},Vals xs us->Vals ys ws->Vals (xs++ys) (us++ws)
 |_,_,_,_,.nil,s=>s
 |_,_,_,_,.cons r t,s=>.cons r (Vals.append t s)
theorem Vals.take:∀{xs:List V} {us:List Value} (n:Nat),Vals xs us->Vals (xs.take n) (us.take n)
 |_,_,0,_=>.nil
 |_,_,_+1,.nil=>.nil
 |_,_,n+1,.cons r t=>.cons r (Vals.take n t)
theorem Vals.drop:∀{xs:List V} {us:List Value} (n:Nat),Vals xs us->Vals (xs.drop n) (us.drop n)
 |_,_,0,r=>r
 |_,_,_+1,.nil=>.nil
 |_,_,n+1,.cons _ t=>Vals.drop n t
theorem Vals.none_of:∀{xs:List V} {us:List Value} {i:Nat},Vals xs us->xs[i]? = none->us[i]? = none:=λ{xs us i} r e=>by
 have h1:=r.length
 have h2:xs.length<=i:=List.getElem?_eq_none_iff.mp e
 exact List.getElem?_eq_none_iff.mpr (by lia)
def RelO:Option V->Option Value->Prop
 |some v,some u=>RelV v u
 |none,none=>True
 |_,_=>False
def KV {κ:Type}:List (κ×V)->List (κ×Value)->Prop:=Paired λ(p:κ×V)(q:κ×Value)=>p.1=q.1/\RelV p.2 q.2
def kV:Key->V
 |.inl i=>.int i
 |.inr x=>.str x
inductive HO where
 |lst (xs:List V)
 |tup (xs:List V)
 |dK (kvs:List (Key×V))|dT (kvs:List (List Key×V))
 |set (S:Int->Bool) (n:Nat)
 |ins (C dx:Addr) (fs:List (Str×V))
 |own (x:Addr)
 |xd (fs:List (Str×V))
 |met (f x:Addr)
 |rng (lo hi:Int)
 |frz (o:Obj) (u:HO)
 |tbl (ps:Array Value)
 |ext (φ:Heap->Prop)
abbrev Hp:=Addr->Option HO
def upd (H:Hp)(a:Addr)(o:HO):Hp:=λb=>if b=a then some o else H b
theorem DS {H:Hp}{a:Addr}{o:HO}:upd H a o a=some o:=by unfold upd;rw[if_pos rfl]
theorem Dz {H:Hp}{a b:Addr}{o:HO}(h:b≠a):upd H a o b=H b:=by unfold upd;rw[if_neg h]
theorem DJ {H:Hp}{a b:Addr}{o:HO}(h:H a=some o)(h':H b=none):a≠b:=by
 intro e;subst e;rw[h] at h';cases h'
section
variable (P:Program)(w:World)
def ObjOk (H:Hp)(h:Heap)(a:Addr):HO->Prop
 |.lst xs=>xs.length<=sizeLine/\∃(its:List Value)(n:Nat),Vals xs its/\h.get? a=some { cls:=.type "list",data:=.seq its.toArray n }
 |.tup xs=>xs.length<=sizeLine/\∃its:List Value,Vals xs its/\IsTup h a its.toArray
 |.dK kvs=>kvs.length<=sizeLine/\(a == sysModules)=false/\∃vs,KV kvs vs/\h.DictOf (Fy P w) a vs
 |.dT kvs=>kvs.length<=sizeLine/\(a == sysModules)=false/\∃xs:List (List Key×Addr×Value),
   Paired (λ(p:List Key×V)(q:List Key×Addr×Value)=>p.1=q.1/\H q.2.1=some (.tup (p.1.map kV))/\RelV p.2 q.2.2) kvs xs/\
   ∃o es ep,h.get? a=some o/\o.ExactDict/\o.data=.dict es ep/\es.toList=xs.map (entryOfKey (tupleKind (Fy P w)))/\(xs.map (·.1)).Nodup
 |.set S n=>h.SetOf (intKind P w) a S n
 |.ins C dx fs=>H dx=some (.own a)/\fs.length<=1000/\dx≠a/\h.get? a=some (PySem.W.instObj C dx)/\
   ∃mA,h.Ns1 dx mA/\(∀f,RelO (fs.lookup f) (mA f))/\PySem.Within mA (fs.map (·.1))
 |.own _=>∃o,h.get? a=some o
 |.xd fs=>∃mA,h.Ns1 a mA/\∀f,RelO (fs.lookup f) (mA f)
 |.rng lo hi=>∃t u v,h.get? a=some { cls:=.type "range",data:=.fields #[.int lo t,.int hi u,.int 1 v] }
 |.frz o u=>h.get? a=some o/\ObjOk H h a u
 |.tbl ps=>h.get? a=some { cls:=.none,data:=.fields ps }
 |.met f x=>h.get? a=some (PySem.W.methodObj (.ref f) (.ref x))
 |.ext φ=>φ h/\(∃o,h.get? a=some o)/\∀h1 h2:Heap,φ h1->(∀o,h1.get? a=some o->h2.get? a=some o)->φ h2
def HOk (H:Hp)(h:Heap):Prop:=∀a o,H a=some o->ObjOk P w H h a o
end
section
variable {P:Program}{w:World}{H H':Hp}{h h':Heap}{a:Addr}{o:HO}
theorem ObjOk.lt (x:ObjOk P w H h a o):a<h.objs.size:=by
 cases o with
 |lst xs=>obtain ⟨_,_,_,_,e⟩:=x;exact Heap.lt_size e
 |tup xs=>obtain ⟨_,_,_,p⟩:=x;exact p.lt
 |dK kvs=>obtain ⟨_,_,_,_,o,_,_,e,_⟩:=x;exact Heap.lt_size e
 |dT kvs=>obtain ⟨_,_,_,_,o,_,_,e,_⟩:=x;exact Heap.lt_size e
 |set S n=>obtain ⟨o,_,_,_,e,_⟩:=x;exact Heap.lt_size e
 |ins C dx fs=>obtain ⟨_,_,_,e,_⟩:=x;exact Heap.lt_size e
 |own y=>obtain ⟨_,e⟩:=x;exact Heap.lt_size e
 |xd fs=>obtain ⟨_,⟨_,_,_,e,_⟩,_⟩:=x;exact Heap.lt_size e
 |rng lo hi=>obtain ⟨_,_,_,e⟩:=x;exact Heap.lt_size e
 |frz ob u=>obtain ⟨e,_⟩:=x;exact Heap.lt_size e
 |tbl ps=>exact Heap.lt_size (show h.get? a=some _ from x)
 |met f y=>exact Heap.lt_size (show h.get? a=some _ from x)
 |ext φ=>obtain ⟨_,⟨_,e⟩,_⟩:=x;exact Heap.lt_size e
theorem Paired.mapP {α β:Type}{F G:α->β->Prop}:∀{l₁:List α} {l₂:List β},Paired F l₁ l₂->(∀a b,F a b->G a b)->Paired G l₁ l₂
 |_,_,.nil,_=>.nil
 |_,_,.cons r t,f=>.cons (f _ _ r) (Paired.mapP t f)
theorem ObjOk.stay (x:ObjOk P w H h a o)(k:∀b u,(b=a\/H b=some (.own a))->h.get? b=some u->h'.get? b=some u)
  (ho:∀b,H b=some (.own a)->H' b=some (.own a)) (ht:∀b xs,H b=some (.tup xs)->H' b=some (.tup xs)):ObjOk P w H' h' a o:=by
 induction o with
 |lst xs=>obtain ⟨z,its,n,r,e⟩:=x;exact ⟨z,its,n,r,k _ _ (.inl rfl) e⟩
 |tup xs=>obtain ⟨z,its,r,ob,e,c⟩:=x;exact ⟨z,its,r,ob,k _ _ (.inl rfl) e,c⟩
 |dK kvs=>obtain ⟨z,y,vs,r,ob,es,ep,e,c⟩:=x;exact ⟨z,y,vs,r,ob,es,ep,k _ _ (.inl rfl) e,c⟩
 |dT kvs=>
  obtain ⟨z,y,xs,r,ob,es,ep,e,c⟩:=x
  exact ⟨z,y,xs,Paired.mapP r λp q z=>⟨z.1,ht _ _ z.2.1,z.2.2⟩,ob,es,ep,k _ _ (.inl rfl) e,c⟩
 |set S n=>obtain ⟨ob,es,ep,t,e,c⟩:=x;exact ⟨ob,es,ep,t,k _ _ (.inl rfl) e,c⟩
 |ins C dx fs=>
  obtain ⟨d,z,ne,e,mA,⟨od,es,ep,e2,c⟩,r⟩:=x
  exact ⟨ho _ d,z,ne,k _ _ (.inl rfl) e,mA,⟨od,es,ep,k _ _ (.inr d) e2,c⟩,r⟩
 |own y=>obtain ⟨ob,e⟩:=x;exact ⟨ob,k _ _ (.inl rfl) e⟩
 |xd fs=>obtain ⟨mA,⟨od,es,ep,e,c⟩,r⟩:=x;exact ⟨mA,⟨od,es,ep,k _ _ (.inl rfl) e,c⟩,r⟩
 |rng lo hi=>obtain ⟨t,u,v,e⟩:=x;exact ⟨t,u,v,k _ _ (.inl rfl) e⟩
 |frz ob u ih=>obtain ⟨e,q⟩:=x;exact ⟨k _ _ (.inl rfl) e,ih q⟩
 |tbl ps=>
  have e:h.get? a=some { cls:=.none,data:=.fields ps }:=x
  show h'.get? a=some { cls:=.none,data:=.fields ps }
  exact k a _ (.inl rfl) e
 |met f y=>
  have e:h.get? a=some (PySem.W.methodObj (.ref f) (.ref y)):=x
  show h'.get? a=some (PySem.W.methodObj (.ref f) (.ref y))
  exact k a _ (.inl rfl) e
 |ext φ=>obtain ⟨p,⟨o,e⟩,st⟩:=x;exact ⟨st _ _ p λo q=>k _ _ (.inl rfl) q,⟨o,k _ _ (.inl rfl) e⟩,st⟩
theorem HOk.lt (x:HOk P w H h)(e:H a=some o):a<h.objs.size:=(x a o e).lt
theorem HOk.fresh (x:HOk P w H h)(e:h.objs.size<=a):H a=none:=by
 cases q:H a with
 |none=>rfl
 |some u=>exact absurd (Nat.lt_of_lt_of_le (x.lt q) e) (Nat.lt_irrefl _)
theorem HOk.kept (x:HOk P w H h)(k:∀b u,h.get? b=some u->h'.get? b=some u):HOk P w H h':=λa o e=>
 (x a o e).stay (λb u _ q=>k b u q) (λ_ q=>q) λ_ _ q=>q
theorem HOk.laid (x:HOk P w H h)(k:∀b u,h.get? b=some u->h'.get? b=some u)(hp:h.objs.size<=a)(new:ObjOk P w (upd H a o) h' a o):HOk P w (upd H a o) h':=λb u e=>by
 have hn:=x.fresh hp
 by_cases hb:b=a
 ·subst hb;rw[DS] at e;cases e;exact new
 ·rw[Dz hb] at e
  exact (x b u e).stay (λc v _ q=>k c v q) (λc q=>by rw[Dz (DJ q hn)];exact q) λc xs q=>by rw[Dz (DJ q hn)];exact q
end
def Rd (H:Hp)(a:Addr)(u:HO):Prop:=H a=some u\/∃o,H a=some (.frz o u)
theorem Rd.of {H:Hp}{a:Addr}{u:HO}(h:H a=some u):Rd H a u:=.inl h
theorem Rd.ok {P:Program}{w:World}{H:Hp}{h:Heap}{a:Addr}{u:HO}(r:Rd H a u)(x:HOk P w H h):ObjOk P w H h a u:=by
 rcases r with r|⟨o,r⟩
 ·exact x a u r
 ·obtain ⟨_,q⟩:=x a _ r
  exact q
def Mut:Option HO->Prop
 |some (.lst _)=>True
 |some (.dK _)=>True
 |some (.dT _)=>True
 |some (.set _ _)=>True
 |some (.ins _ _ _)=>True
 |some (.ext _)=>True
 |_=>False
section
variable {P:Program}{w:World}{H:Hp}{h h':Heap}{x e:Addr}{o':HO}
theorem HOk.write (ok:HOk P w H h)(mu:Mut (H x))(he:e=x\/H e=some (.own x))(k:∀b u,b≠e->h.get? b=some u->h'.get? b=some u)(heo:∃u,h'.get? e=some u)
  (new:ObjOk P w (upd H x o') h' x o'):HOk P w (upd H x o') h':=λb u q=>by
 have nown:∀c y,H c=some (.own y)->c≠x:=λc y r z=>by subst z;rw[r] at mu;exact mu
 have ntup:∀c xs,H c=some (.tup xs)->c≠x:=λc xs r z=>by subst z;rw[r] at mu;exact mu
 by_cases hb:b=x
 ·subst hb;rw[DS] at q;cases q;exact new
 ·rw[Dz hb] at q
  by_cases hbe:b=e
  ·have q':H b=some (.own x):=by
    rcases he with z|z
    ·exact absurd (hbe.trans z) hb
    ·rw[hbe];exact z
   rw[q] at q';cases q'
   obtain ⟨v,hv⟩:=heo
   exact ⟨v,by rw[hbe];exact hv⟩
  ·refine (ok b u q).stay (λc v hc r=>k c v ?_ r) (λc r=>by rw[Dz (nown c b r)];exact r) λc xs r=>by rw[Dz (ntup c xs r)];exact r
   rcases hc with rfl|hc
   ·exact hbe
   ·rintro rfl
    rcases he with z|z
    ·exact nown c b hc z
    ·rw[hc] at z;cases z;exact hb rfl
end
structure Un (fs ex:List Addr)(H H':Hp)(h h':Heap):Prop where
 keep:∀b o,h.get? b=some o->H b=none->b ∉ fs->b ∉ ex->h'.get? b=some o
 slot:∀b o,h.get? b=some o->H b=none->b∈fs->b ∉ ex->∃sl,h'.get? b=some { o with slots:=sl }
 free:∀b o,h.get? b=some o->H b=none->b ∉ ex->H' b=none
 there:∀b o,h.get? b=some o->b ∉ ex->∃o',h'.get? b=some o'
 tups:∀b xs,H b=some (.tup xs)->H' b=some (.tup xs)
 frzs:∀b o u,H b=some (.frz o u)->H' b=some (.frz o u)
 tbls:∀b ps,H b=some (.tbl ps)->∃more,H' b=some (.tbl (ps++more))
section
variable {fs fs' ex ex':List Addr}{H H1 H2:Hp}{h h1 h2 h':Heap}{a x e:Addr}{o:HO}
theorem Un.any (u:Un fs ex H H1 h h1){b:Addr}{ob:Obj}(q:h.get? b=some ob)(n:H b=none)(hx:b ∉ ex):∃sl,h1.get? b=some { ob with slots:=sl }:=by
 by_cases hb:b∈fs
 ·exact u.slot b ob q n hb hx
 ·exact ⟨ob.slots,u.keep b ob q n hb hx⟩
theorem Un.trans (a:Un fs ex H H1 h h1)(b:Un fs ex H1 H2 h1 h2):Un fs ex H H2 h h2 where
 keep:=λc ob q n hc hx=>b.keep c ob (a.keep c ob q n hc hx) (a.free c ob q n hx) hc hx
 slot:=λc ob q n hc hx=>by
  obtain ⟨sl,e1⟩:=a.slot c ob q n hc hx
  obtain ⟨sl',e2⟩:=b.slot c _ e1 (a.free c ob q n hx) hc hx
  exact ⟨sl',e2⟩
 free:=λc ob q n hx=>by
  obtain ⟨o',e1⟩:=a.there c ob q hx
  exact b.free c o' e1 (a.free c ob q n hx) hx
 there:=λc ob q hx=>by
  obtain ⟨o',e1⟩:=a.there c ob q hx
  exact b.there c o' e1 hx
 tups:=λc xs q=>b.tups c xs (a.tups c xs q)
 frzs:=λc ob xs q=>b.frzs c ob xs (a.frzs c ob xs q)
 tbls:=λc ps q=>by
  obtain ⟨m1,e1⟩:=a.tbls c ps q
  obtain ⟨m2,e2⟩:=b.tbls c _ e1
  exact ⟨m1++m2,by rw[e2,Array.append_assoc]⟩
theorem Un.kept (k:∀b u,h.get? b=some u->h'.get? b=some u):Un fs ex H H h h':=
 ⟨λb ob q _ _ _=>k b ob q,λb ob q _ _ _=>⟨ob.slots,k b ob q⟩,λ_ _ _ n _=>n,λb ob q _=>⟨ob,k b ob q⟩,λ_ _ q=>q,λ_ _ _ q=>q,λ_ ps q=>⟨#[],by rw[q];simp⟩⟩
theorem Un.refl:Un fs ex H H h h:=Un.kept λ_ _ q=>q
theorem Un.laid (k:∀b u,h.get? b=some u->h'.get? b=some u)(hp:h.objs.size<=a)(hn:H a=none):Un fs ex H (upd H a o) h h' where
 keep:=λb u q _ _ _=>k b u q
 slot:=λb u q _ _ _=>⟨u.slots,k b u q⟩
 free:=λb u q n _=>by rw[Dz (Nat.ne_of_lt (Nat.lt_of_lt_of_le (Heap.lt_size q) hp))];exact n
 there:=λb u q _=>⟨u,k b u q⟩
 tups:=λb xs q=>by rw[Dz (DJ q hn)];exact q
 frzs:=λb u xs q=>by rw[Dz (DJ q hn)];exact q
 tbls:=λb ps q=>⟨#[],by rw[Dz (DJ q hn),q];simp⟩
theorem Un.write (mu:Mut (H x))(he:e=x\/H e=some (.own x))(k:∀b u,b≠e->h.get? b=some u->h'.get? b=some u)(heo:∃u,h'.get? e=some u):Un fs ex H (upd H x o) h h':=by
 have hx:∀b,H b=none->b≠x:=λb n z=>by subst z;rw[n] at mu;exact mu
 have hb:∀b,H b=none->b≠e:=λb n z=>by
  subst z
  rcases he with r|r
  ·exact hx b n r
  ·rw[n] at r;cases r
 have hm:∀b u,H b=some u->¬ Mut (some u)->b≠x:=λb u q nm z=>by subst z;rw[q] at mu;exact nm mu
 refine ⟨λb u q n _ _=>k b u (hb b n) q,λb u q n _ _=>⟨u.slots,k b u (hb b n) q⟩,λb u q n _=>by rw[Dz (hx b n)];exact n,λb u q _=>?_,
  λb xs q=>by rw[Dz (hm b _ q λz=>z)];exact q,λb u xs q=>by rw[Dz (hm b _ q λz=>z)];exact q,λb ps q=>⟨#[],by rw[Dz (hm b _ q λz=>z),q];simp⟩⟩
 by_cases hbe:b=e
 ·subst hbe;exact heo
 ·exact ⟨u,k b u hbe q⟩
theorem Un.mono (u:Un fs ex H H1 h h1)(hs:∀b∈fs,b∈fs')(hx:∀b∈ex,b∈ex'):Un fs' ex' H H1 h h1:=
 ⟨λb ob q n hb he=>u.keep b ob q n (λz=>hb (hs b z)) λz=>he (hx b z),λ_ _ q n _ he=>u.any q n λz=>he (hx _ z),λb ob q n he=>u.free b ob q n λz=>he (hx b z),λb ob q he=>u.there b ob q λz=>he (hx b z),u.tups,u.frzs,u.tbls⟩
end
def trk (h:Heap)(H:Hp):List Addr:=(List.range h.objs.size).filter λa=>(H a).isSome
def ET (h:Heap)(H:Hp):Heap:=PySem.W.hideAll h (trk h H)
theorem hidT_size (h:Heap)(H:Hp):(ET h H).objs.size=h.objs.size:=PySem.W.hideAll_size _ _
theorem hidT_get {h:Heap}{H:Hp}{b:Addr}{o:Obj}(e:h.get? b=some o)(n:H b=none):(ET h H).get? b=some o:=
 PySem.W.hideAll_get _ e λhm=>by
  have q:(H b).isSome=true:=(List.mem_filter.mp hm).2
  rw[n] at q;simp at q
theorem of_hidT {h:Heap}{H:Hp}{b:Addr}{o:Obj}(e:(ET h H).get? b=some o):h.get? b=some o/\H b=none:=by
 have e':h.get? b=some o:=PySem.W.of_hideAll (trk h H) e
 refine ⟨e',?_⟩
 cases q:H b with
 |none=>rfl
 |some x=>
  have hm:b∈trk h H:=List.mem_filter.mpr ⟨List.mem_range.mpr (Heap.lt_size e'),by simp[q]⟩
  have z:(ET h H).get? b=none:=PySem.W.hideAll_none (trk h H) hm
  rw[z] at e;cases e
def allNews (g h:Heap)(L:Addr):List (Addr×Obj):=(List.range h.objs.size).filterMap λa=>if a=L\/(g.get? a).isSome=true then none else (h.get? a).map λo=>(a,o)
def rest (g h:Heap)(L d:Addr):List (Addr×Obj):=(allNews g h L).filter λp=>decide (p.1≠d)
open PySem PySem.Spec PyProof.Rows
structure Mod (K:Frag)(mg:Str->Option Value)(base:Heap):Prop where
 kin:K.In base
 glob:base.Ns mainGlobals mg
 blt:∃mb,base.Ns builtinsNs mb/\∀x:Str,x ≠ "__name__" -> mb x=bootBuiltins x
 nolimit:base.NoLimit
structure Cx where
 prog:Program
 w:World
 K:Frag
 mg:Str->Option Value
 base:Heap
 A:Around
 N:List Str
 s_0:Shared
 H_0:Hp
 env:Env
 outer:List Env
 stack:List Env
 ex:List Addr
 fn:Str->Bool
 calm:Bool
 pn:List (Addr×Obj)
 xe:Value->Shared->Prop
def frs (l:List Env):List Addr:=l.filterMap (·.frame)
abbrev Cx.fs (X:Cx):List Addr:=frs X.outer
def Vis (sc:Scope)(x:Str):Prop:=sc.names.lookup x=some .local\/sc.names.lookup x=some .cell\/sc.names.lookup x=some .free
def Loc (sc:Scope)(x:Str):Prop:=sc.names.lookup x=some .local\/sc.names.lookup x=some .cell
def Look (env:Env)(h:Heap)(m:Str->Option Value)(x:Str)(u:Value):Prop:=
 (env.kindOf x=some .local/\m x=some u)\/((env.kindOf x=some .cell\/env.kindOf x=some .free)/\∃c,env.cells.lookup x=some c/\h.IsCell c (some u))
structure Cx.Ok (X:Cx):Prop where
 mod:Mod X.K X.mg X.base
 kind:X.env.scope.kind=.function
 glob:X.env.globals=mainGlobals
 blt:X.env.builtins=builtinsNs
 above:X.s_0.heap.objs.size<=X.env.locals
 inj:∀x y c,X.env.cells.lookup x=some c->X.env.cells.lookup y=some c->x=y
 has:∀x,(X.env.kindOf x=some .cell\/X.env.kindOf x=some .free)->∃c,X.env.cells.lookup x=some c
 cab:∀x c,X.fn x=true->X.env.cells.lookup x=some c->X.s_0.heap.objs.size<=c
 hd:X.calm=true->X.A.handled=none
 frames:X.A.frames=some X.stack
 stk:X.stack=X.outer\/(X.stack=X.env :: X.outer/\X.env.frame=some X.env.locals)
 exf:∀b∈X.ex,b≠X.env.locals/\∀x c,X.env.cells.lookup x=some c->c≠b
 bs:∀b o,X.base.get? b=some o->X.s_0.heap.get? b=some o/\X.H_0 b=none
 bsz:X.base.objs.size<=X.s_0.heap.objs.size
 noex:∀b o,X.base.get? b=some o->b ∉ X.ex
 exfs:∀b∈X.ex,b ∉ X.fs
 funs:X.s_0.heap.FunFrames X.base X.outer
 frf:∀b∈X.fs,X.H_0 b=none
structure Inv (X:Cx)(pins:List (Addr×Obj))(σ:List (Option V))(H:Hp)(s:Shared):Prop where
 ok:X.Ok
 os:s.os=X.s_0.os
 bare:AllBare s.gens
 base:Un X.fs X.ex X.H_0 H X.s_0.heap s.heap
 loc:∃m,s.heap.Ns X.env.locals m/\∀(i:Nat)(x:Str)(v:V),X.N[i]? = some x->σ[i]? = some (some v)->Vis X.env.scope x->∃u,RelV v u/\Look X.env s.heap m x u
 cell:∀x c,X.env.cells.lookup x=some c->∃v,s.heap.IsCell c v
 free:H X.env.locals=none
 freeC:∀x c,X.env.cells.lookup x=some c->H c=none
 pin:∀p∈X.pn++pins,s.heap.get? p.1=some p.2/\H p.1=none/\p.1≠X.env.locals/\p.1 ∉ X.fs/\∀v,p.2.data≠.cell v
 hok:HOk X.prog X.w H s.heap
 len:σ.length=X.N.length
section
variable {X:Cx}{pins:List (Addr×Obj)}{σ:List (Option V)}{H H':Hp}{s:Shared}{h':Heap}
theorem Cx.Ok.nofr (ok:X.Ok){b:Addr}{o:Obj}(e:X.base.get? b=some o):b ∉ X.fs:=λhb=>by
 have:=(ok.funs.mem hb).1
 rw[e] at this;cases this
theorem Inv.bs (I:Inv X pins σ H s):∀b o,X.base.get? b=some o->s.heap.get? b=some o/\H b=none:=λb o e=>
 ⟨I.base.keep b o (I.ok.bs b o e).1 (I.ok.bs b o e).2 (I.ok.nofr e) (I.ok.noex b o e),I.base.free b o (I.ok.bs b o e).1 (I.ok.bs b o e).2 (I.ok.noex b o e)⟩
theorem Inv.bk (I:Inv X pins σ H s):∀b o,X.base.get? b=some o->s.heap.get? b=some o:=λb o e=>(I.bs b o e).1
theorem Inv.mod (I:Inv X pins σ H s):Mod X.K X.mg X.base:=I.ok.mod
theorem Inv.kIn (I:Inv X pins σ H s):X.K.In s.heap:=I.ok.mod.kin.keeps I.bk
theorem Inv.nolimit (I:Inv X pins σ H s):s.heap.NoLimit:=I.ok.mod.nolimit.keeps I.bk
theorem Inv.fr (I:Inv X pins σ H s):∃m,Fr X.base X.env.locals s.heap m:=
 let ⟨m,hn,_⟩:=I.loc
 ⟨m,hn,I.bk,Nat.le_trans I.ok.bsz I.ok.above⟩
theorem Inv.lt (I:Inv X pins σ H s):X.env.locals<s.heap.objs.size:=let ⟨_,hn,_⟩:=I.loc;hn.lt
theorem Inv.sz (I:Inv X pins σ H s):X.s_0.heap.objs.size<=s.heap.objs.size:=Nat.le_trans I.ok.above (Nat.le_of_lt I.lt)
theorem Inv.nofs (I:Inv X pins σ H s){a:Addr}(h:s.heap.objs.size<=a):a ∉ X.fs:=λhb=>by
 obtain ⟨_,o,ho,_⟩:=I.ok.funs.mem hb
 exact absurd (Nat.lt_of_lt_of_le (Heap.lt_size ho) (Nat.le_trans I.sz h)) (Nat.lt_irrefl _)
theorem Inv.cne (I:Inv X pins σ H s):∀x c,X.env.cells.lookup x=some c->c≠X.env.locals:=λx c e z=>by
 obtain ⟨v,o,ho,hd⟩:=I.cell x c e
 obtain ⟨m,⟨o',es,ep,ho',hd',_⟩,_⟩:=I.loc
 rw[z,ho'] at ho;cases ho;rw[hd'] at hd;cases hd
theorem Inv.funs (I:Inv X pins σ H s):s.heap.FunFrames X.base X.outer:=by
 have all:∀(l:List Env),(∀b∈frs l,b∈X.fs)->X.s_0.heap.FunFrames X.base l->s.heap.FunFrames X.base l:=by
  intro l
  induction l with
  |nil=>intro _ _;trivial
  |cons env r ih=>
   intro hs hl
   obtain ⟨hk,⟨L,o,hf,hn,ho,hd⟩,hr⟩:=hl
   have hL:L∈X.fs:=hs L (by unfold frs;rw[List.filterMap_cons,hf];exact List.mem_cons_self)
   obtain ⟨sl,e⟩:=I.base.slot L o ho (I.ok.frf L hL) hL λz=>I.ok.exfs L z hL
   exact ⟨hk,⟨L,_,hf,hn,e,hd⟩,ih (λb hb=>hs b (by unfold frs;rw[List.filterMap_cons,hf];exact List.mem_cons_of_mem _ hb)) hr⟩
 exact all X.outer (λ_ hb=>hb) I.ok.funs
theorem Inv.stack (I:Inv X pins σ H s):s.heap.FunFrames X.base X.stack:=by
 rcases I.ok.stk with e|⟨e,hf⟩
 ·rw[e];exact I.funs
 ·rw[e]
  obtain ⟨m,hn,_⟩:=I.loc
  refine .cons (by rw[I.ok.kind];decide) hf hn ?_ I.funs
  exact Heap.get?_none_of_le (Nat.le_trans I.ok.bsz I.ok.above)
theorem Inv.stkSub (I:Inv X pins σ H s):∀b∈frs X.stack,b∈X.env.locals :: X.fs:=λb hb=>by
 rcases I.ok.stk with e|⟨e,hf⟩
 ·rw[e] at hb;exact List.mem_cons_of_mem _ hb
 ·rw[e] at hb
  unfold frs at hb
  rw[List.filterMap_cons,hf] at hb
  exact hb
theorem Inv.stkFree (I:Inv X pins σ H s):∀b∈frs X.stack,H b=none:=λb hb=>by
 rcases List.mem_cons.mp (I.stkSub b hb) with e|hb
 ·rw[e];exact I.free
 ·obtain ⟨_,o,ho,_⟩:=I.ok.funs.mem hb
  exact I.base.free b o ho (I.ok.frf b hb) λz=>I.ok.exfs b z hb
theorem Inv.step {g':Array GenState}{t':Nat}{d':Drawn}{ch:List Addr}(I:Inv X pins σ H s)
  (hch:∀b∈ch,(b∈X.ex\/X.s_0.heap.objs.size<=b)/\b≠X.env.locals/\(∀x c,X.env.cells.lookup x=some c->c≠b)/\∀p∈X.pn++pins,p.1≠b)
  (keep:∀b o,b≠X.env.locals->b ∉ X.fs->b ∉ ch->s.heap.get? b=some o->H b=none->h'.get? b=some o)
  (slot:∀b o,b≠X.env.locals->b∈X.fs->b ∉ ch->s.heap.get? b=some o->H b=none->∃sl,h'.get? b=some { o with slots:=sl }) (free:∀b o,b ∉ ch->s.heap.get? b=some o->H b=none->H' b=none)
  (there:∀b o,b ∉ ch->s.heap.get? b=some o->∃o',h'.get? b=some o')
  (tups:∀b xs,H b=some (.tup xs)->H' b=some (.tup xs)) (frzs:∀b o u,H b=some (.frz o u)->H' b=some (.frz o u)) (tbls:∀b ps,H b=some (.tbl ps)->∃more,H' b=some (.tbl (ps++more)))
  (ns:∀m,s.heap.Ns X.env.locals m->h'.Ns X.env.locals m) (hok:HOk X.prog X.w H' h') (hg:AllBare g') :
  Inv X pins σ H' { s with heap:=h',gens:=g',drawn:=d',toks:=t' }:=by
 have neL:∀b o,X.s_0.heap.get? b=some o->b≠X.env.locals:=λb o e=>Nat.ne_of_lt (Nat.lt_of_lt_of_le (Heap.lt_size e) I.ok.above)
 have neC:∀b o,X.s_0.heap.get? b=some o->b ∉ X.ex->b ∉ ch:=λb o e hx hb=>by
  rcases (hch b hb).1 with z|z
  ·exact hx z
  ·exact absurd (Nat.lt_of_lt_of_le (Heap.lt_size e) z) (Nat.lt_irrefl _)
 have cellK:∀x c,X.env.cells.lookup x=some c->∀v,s.heap.IsCell c v->h'.IsCell c v:=λx c e v ⟨o,ho,hd⟩=>by
  have nch:c ∉ ch:=λz=>(hch c z).2.2.1 x c e rfl
  by_cases hc:c∈X.fs
  ·obtain ⟨sl,q⟩:=slot c o (I.cne x c e) hc nch ho (I.freeC x c e)
   exact ⟨_,q,hd⟩
  ·exact ⟨o,keep c o (I.cne x c e) hc nch ho (I.freeC x c e),hd⟩
 refine ⟨I.ok,I.os,hg,⟨λb o e n hb hx=>?_,λb o e n hb hx=>?_,λb o e n hx=>?_,λb o e hx=>?_,λb xs e=>tups b xs (I.base.tups b xs e),λb o xs e=>frzs b o xs (I.base.frzs b o xs e),λb ps e=>?_⟩,?_,λx c e=>?_,?_,λx c e=>?_,λp hp=>?_,hok,I.len⟩
 ·exact keep b o (neL b o e) hb (neC b o e hx) (I.base.keep b o e n hb hx) (I.base.free b o e n hx)
 ·obtain ⟨sl,e1⟩:=I.base.slot b o e n hb hx
  obtain ⟨sl',e2⟩:=slot b _ (neL b o e) hb (neC b o e hx) e1 (I.base.free b o e n hx)
  exact ⟨sl',e2⟩
 ·obtain ⟨o',e1⟩:=I.base.there b o e hx
  exact free b o' (neC b o e hx) e1 (I.base.free b o e n hx)
 ·obtain ⟨o',e1⟩:=I.base.there b o e hx
  exact there b o' (neC b o e hx) e1
 ·obtain ⟨m1,e1⟩:=I.base.tbls b ps e
  obtain ⟨m2,e2⟩:=tbls b _ e1
  exact ⟨m1++m2,by rw[e2,Array.append_assoc]⟩
 ·obtain ⟨m,hn,hl⟩:=I.loc
  refine ⟨m,ns m hn,λi x v e1 e2 e3=>?_⟩
  obtain ⟨u,r,l⟩:=hl i x v e1 e2 e3
  refine ⟨u,r,?_⟩
  rcases l with l|⟨k,c,e,z⟩
  ·exact .inl l
  ·exact .inr ⟨k,c,e,cellK x c e _ z⟩
 ·obtain ⟨v,z⟩:=I.cell x c e
  exact ⟨v,cellK x c e v z⟩
 ·obtain ⟨m,⟨o,_,_,ho,_⟩,_⟩:=I.loc
  exact free _ o (λz=>(hch _ z).2.1 rfl) ho I.free
 ·obtain ⟨v,o,ho,hd⟩:=I.cell x c e
  exact free c o (λz=>(hch c z).2.2.1 x c e rfl) ho (I.freeC x c e)
 ·obtain ⟨e,n,ne,nf,d⟩:=I.pin p hp
  have nch:p.1 ∉ ch:=λz=>(hch p.1 z).2.2.2 p hp rfl
  exact ⟨keep p.1 p.2 ne nf nch e n,free p.1 p.2 nch e n,ne,nf,d⟩
theorem Inv.un {t':Nat}(I:Inv X pins σ H s)(u:Un X.fs [] H H' s.heap h')(hok:HOk X.prog X.w H' h'):Inv X pins σ H' { s with heap:=h',toks:=t' }:=by
 obtain ⟨m,⟨o,es,ep,ho,r⟩,_⟩:=id I.loc
 obtain ⟨sl,hL⟩:=u.any ho I.free (by simp)
 exact I.step (g':=s.gens) (d':=s.drawn) (ch:=[]) (λ_ z=>nomatch z) (λb o _ hb _ e n=>u.keep b o e n hb (by simp)) (λb o _ hb _ e n=>u.slot b o e n hb (by simp)) (λb o _ e n=>u.free b o e n (by simp)) (λb o _ e=>u.there b o e (by simp)) u.tups u.frzs u.tbls (λm' hm=>by
  obtain ⟨o',es',ep',ho',r'⟩:=hm
  rw[ho] at ho';cases ho'
  exact ⟨_,es',ep',hL,r'⟩) hok I.bare
theorem Inv.call {g':Array GenState}{t':Nat}{d':Drawn}{ch:List Addr}(I:Inv X pins σ H s)(u:Un (frs X.stack) ch H H' s.heap h')(hok:HOk X.prog X.w H' h')(hg:AllBare g')
  (hch:∀b∈ch,(b∈X.ex\/X.s_0.heap.objs.size<=b)/\b≠X.env.locals/\(∀x c,X.env.cells.lookup x=some c->c≠b)/\∀p∈X.pn++pins,p.1≠b) :
  Inv X pins σ H' { s with heap:=h',gens:=g',drawn:=d',toks:=t' }:=by
 obtain ⟨m,⟨o,es,ep,ho,r⟩,_⟩:=id I.loc
 obtain ⟨sl,hL⟩:=u.any ho I.free λz=>(hch _ z).2.1 rfl
 exact I.step (ch:=ch) hch (λb o hL hb hc e n=>u.keep b o e n (λz=>(List.mem_cons.mp (I.stkSub b z)).elim hL hb) hc) (λb o _ _ hc e n=>u.any e n hc) (λb o hc e n=>u.free b o e n hc) (λb o hc e=>u.there b o e hc) u.tups u.frzs u.tbls (λm' hm=>by
  obtain ⟨o',es',ep',ho',r'⟩:=hm
  rw[ho] at ho';cases ho'
  exact ⟨_,es',ep',hL,r'⟩) hok hg
theorem Inv.turned {t':Nat}{it:Addr}(I:Inv X pins σ H s)(k:∀b o,b≠it->s.heap.get? b=some o->h'.get? b=some o)(hn:H it=none)(hL:it≠X.env.locals)
  (h1:it∈X.ex\/X.s_0.heap.objs.size<=it) (h2:∀x c,X.env.cells.lookup x=some c->c≠it) (h3:∀p∈X.pn++pins,p.1≠it):Inv X pins σ H { s with heap:=h',toks:=t' }:=by
 have nit:∀b u,H b=some u->b≠it:=λb u e z=>by rw[z,hn] at e;cases e
 refine I.step (g':=s.gens) (d':=s.drawn) (ch:=[it]) (λb hb=>?_) (λb o _ _ hc e _=>k b o (λz=>hc (by simp[z])) e) (λb o _ _ hc e _=>⟨o.slots,k b o (λz=>hc (by simp[z])) e⟩) (λ_ _ _ _ n=>n)
  (λb o hc e=>⟨o,k b o (λz=>hc (by simp[z])) e⟩) (λ_ _ e=>e) (λ_ _ _ e=>e) (λb ps e=>⟨#[],by rw[e];simp⟩) (λm hm=>?_) (λb u e=>?_) I.bare
 ·have e:b=it:=by simpa using hb
  subst e
  exact ⟨h1,hL,h2,h3⟩
 ·obtain ⟨o,es,ep,ho,r⟩:=hm
  exact ⟨o,es,ep,k _ o (Ne.symm hL) ho,r⟩
 ·refine (I.hok b u e).stay (λc v hc q=>k c v ?_ q) (λ_ q=>q) λ_ _ q=>q
  rcases hc with z|z
  ·rw[z];exact nit b u e
  ·exact nit c _ z
theorem Inv.tok (I:Inv X pins σ H s)(t:Nat):Inv X pins σ H { s with toks:=t }:=I.un (h':=s.heap) (t':=t) Un.refl I.hok
theorem Inv.kept {t':Nat}(I:Inv X pins σ H s)(k:∀b u,s.heap.get? b=some u->h'.get? b=some u):Inv X pins σ H { s with heap:=h',toks:=t' }:=I.un (Un.kept k) (I.hok.kept k)
theorem Inv.laid {a:Addr}{o:HO}{t':Nat}(I:Inv X pins σ H s)(k:∀b u,s.heap.get? b=some u->h'.get? b=some u)(hp:s.heap.objs.size<=a)(new:ObjOk X.prog X.w (upd H a o) h' a o) :
  Inv X pins σ (upd H a o) { s with heap:=h',toks:=t' }:=I.un (Un.laid k hp (I.hok.fresh hp)) (I.hok.laid k hp new)
theorem Inv.write {x e:Addr}{o:HO}{t':Nat}(I:Inv X pins σ H s)(mu:Mut (H x))(he:e=x\/H e=some (.own x))(k:∀b u,b≠e->s.heap.get? b=some u->h'.get? b=some u)(heo:∃u,h'.get? e=some u)
  (new:ObjOk X.prog X.w (upd H x o) h' x o):Inv X pins σ (upd H x o) { s with heap:=h',toks:=t' }:=I.un (Un.write mu he k heo) (I.hok.write mu he k heo new)
theorem Inv.weak {σ':List (Option V)}(I:Inv X pins σ H s)(hl:σ'.length = σ.length)(w:∀(i:Nat) v,σ'[i]? = some (some v)->σ[i]? = some (some v)):Inv X pins σ' H s:=
 ⟨I.ok,I.os,I.bare,I.base,let ⟨m,hn,hl'⟩:=I.loc;⟨m,hn,λi x v e1 e2 e3=>hl' i x v e1 (w i v e2) e3⟩,I.cell,I.free,I.freeC,I.pin,I.hok,hl.trans I.len⟩
theorem Inv.pins_of {pins':List (Addr×Obj)}(I:Inv X pins σ H s)(h:∀p∈pins',s.heap.get? p.1=some p.2/\H p.1=none/\p.1≠X.env.locals/\p.1 ∉ X.fs/\∀v,p.2.data≠.cell v):Inv X pins' σ H s:=
 ⟨I.ok,I.os,I.bare,I.base,I.loc,I.cell,I.free,I.freeC,λp hp=>(List.mem_append.mp hp).elim (λz=>I.pin p (List.mem_append_left _ z)) (h p),I.hok,I.len⟩
theorem Ff {N:List Str}(hN:N.Nodup){i j:Nat}{x:Str}(a:N[i]? = some x)(b:N[j]? = some x):i=j:=by
 obtain ⟨h1,e1⟩:=List.getElem?_eq_some_iff.mp a
 obtain ⟨h2,e2⟩:=List.getElem?_eq_some_iff.mp b
 exact (List.getElem_inj hN).mp (e1.trans e2.symm)
theorem FE {M:Model}{A:Around}{E:Value->Shared->Prop}{i:Nat}{x:Str}{v:V}{u:Value}{Q:Unit->Shared->Prop}(I:Inv X pins σ H s)(hN:X.N.Nodup)(hi:X.N[i]? = some x)(hx:Loc X.env.scope x)(r:RelV v u)
  (h:∀s',Inv X pins (σ.set i (some v)) H s'->(∃a,Heap.SameBut a s.heap s'.heap/\(a=X.env.locals\/X.env.cells.lookup x=some a))->Q () s') (hf:X.fn x=true\/X.env.scope.names.lookup x=some .local:=by first|exact .inl rfl|exact .inr rfl|assumption):wpAny M A (storeName X.env x u) Q E s:=by
 obtain ⟨m,hn,hl⟩:=id I.loc
 have hcls:(X.env.scope.kind == .class || (X.env.scope.kind == .module && X.env.locals != X.env.globals))=false:=by rw[I.ok.kind];rfl
 have hiσ:i<σ.length:=by rw[I.len];exact (List.getElem?_eq_some_iff.mp hi).1
 have cne:=I.cne
 have tracked:∀{a:Addr} {h':Heap},(∃o,s.heap.get? a=some o/\H a=none)->Heap.SameBut a s.heap h'->HOk X.prog X.w H h':=λ{a h'} ha hs b ob e=>by
  obtain ⟨_,_,hfree⟩:=ha
  refine (I.hok b ob e).stay (λc w' hc q=>(hs.2 c ?_).trans q) (λ_ q=>q) λ_ _ q=>q
  rintro rfl
  rcases hc with rfl|hc
  ·rw[hfree] at e;cases e
  ·rw[hfree] at hc;cases hc
 rcases hx with hk|hk
 ·refine wpAny_storeName_local hk hn (λh' hn' hs=>?_) hcls
  obtain ⟨oL,_,_,hoL,_⟩:=id hn
  refine h _ ⟨I.ok,I.os,I.bare,⟨λb o e n hb hx=>?_,λb o e n hb hx=>?_,I.base.free,λb o e hx=>?_,I.base.tups,I.base.frzs,I.base.tbls⟩,⟨_,hn',λj y v' e1 e2 e3=>?_⟩,λy c e=>?_,I.free,I.freeC,λp hp=>?_,tracked ⟨oL,hoL,I.free⟩ hs,by simpa using I.len⟩ ⟨_,hs,.inl rfl⟩
  ·exact (hs.2 b (Nat.ne_of_lt (Nat.lt_of_lt_of_le (Heap.lt_size e) I.ok.above))).trans (I.base.keep b o e n hb hx)
  ·obtain ⟨sl,e1⟩:=I.base.slot b o e n hb hx
   exact ⟨sl,(hs.2 b (Nat.ne_of_lt (Nat.lt_of_lt_of_le (Heap.lt_size e) I.ok.above))).trans e1⟩
  ·obtain ⟨o',e1⟩:=I.base.there b o e hx
   exact ⟨o',(hs.2 b (Nat.ne_of_lt (Nat.lt_of_lt_of_le (Heap.lt_size e) I.ok.above))).trans e1⟩
  ·by_cases hj:j=i
   ·subst hj
    rw[hi] at e1;cases e1
    rw[List.getElem?_set_self hiσ] at e2
    cases e2
    exact ⟨u,r,.inl ⟨hk,by simp⟩⟩
   ·rw[List.getElem?_set_ne (Ne.symm hj)] at e2
    obtain ⟨u',r',q⟩:=hl j y v' e1 e2 e3
    refine ⟨u',r',?_⟩
    rcases q with ⟨k,e⟩|⟨k,c,e,z⟩
    ·refine .inl ⟨k,?_⟩
     have:y≠x:=λe=>hj (Ff hN e1 (e ▸ hi))
     simp[this,e]
    ·exact .inr ⟨k,c,e,z.sameBut hs (cne y c e)⟩
  ·obtain ⟨w',z⟩:=I.cell y c e
   exact ⟨w',z.sameBut hs (cne y c e)⟩
  ·obtain ⟨e,n,ne,nf,d⟩:=I.pin p hp
   exact ⟨(hs.2 p.1 ne).trans e,n,ne,nf,d⟩
 ·have hfn:X.fn x=true:=by
   rcases hf with z|z
   ·exact z
   ·rw[z] at hk;cases hk
  obtain ⟨c,hc⟩:=I.ok.has x (.inl hk)
  obtain ⟨w',z⟩:=I.cell x c hc
  refine wpAny_storeName_cell I.ok.kind hk hc z (λh' hc' hs=>?_)
  obtain ⟨oc,hoc,hocd⟩:=id z
  refine h { s with heap:=h' } ⟨I.ok,I.os,I.bare,⟨λb o e n hb hx=>?_,λb o e n hb hx=>?_,I.base.free,λb o e hx=>?_,I.base.tups,I.base.frzs,I.base.tbls⟩,⟨m,hn.sameBut hs (Ne.symm (cne x c hc)),λj y v' e1 e2 e3=>?_⟩,λy c' e=>?_,I.free,I.freeC,λp hp=>?_,tracked ⟨oc,hoc,I.freeC x c hc⟩ hs,by simpa using I.len⟩ ⟨c,hs,.inr hc⟩
  ·exact (hs.2 b (Nat.ne_of_lt (Nat.lt_of_lt_of_le (Heap.lt_size e) (I.ok.cab x c hfn hc)))).trans (I.base.keep b o e n hb hx)
  ·obtain ⟨sl,e1⟩:=I.base.slot b o e n hb hx
   exact ⟨sl,(hs.2 b (Nat.ne_of_lt (Nat.lt_of_lt_of_le (Heap.lt_size e) (I.ok.cab x c hfn hc)))).trans e1⟩
  ·obtain ⟨o',e1⟩:=I.base.there b o e hx
   exact ⟨o',(hs.2 b (Nat.ne_of_lt (Nat.lt_of_lt_of_le (Heap.lt_size e) (I.ok.cab x c hfn hc)))).trans e1⟩
  ·by_cases hj:j=i
   ·subst hj
    rw[hi] at e1;cases e1
    rw[List.getElem?_set_self hiσ] at e2
    cases e2
    exact ⟨u,r,.inr ⟨.inl hk,c,hc,hc'⟩⟩
   ·rw[List.getElem?_set_ne (Ne.symm hj)] at e2
    obtain ⟨u',r',q⟩:=hl j y v' e1 e2 e3
    refine ⟨u',r',?_⟩
    rcases q with q|⟨k,c',e,z'⟩
    ·exact .inl q
    ·refine .inr ⟨k,c',e,z'.sameBut hs ?_⟩
     rintro rfl
     exact hj (Ff hN e1 (I.ok.inj _ _ _ e hc ▸ hi))
  ·by_cases hcc:c'=c
   ·subst hcc;exact ⟨_,hc'⟩
   ·obtain ⟨w2,z2⟩:=I.cell y c' e
    exact ⟨w2,z2.sameBut hs hcc⟩
  ·obtain ⟨e,n,ne,nf,d⟩:=I.pin p hp
   refine ⟨(hs.2 p.1 ?_).trans e,n,ne,nf,d⟩
   intro q
   rw[q,hoc] at e
   have q':oc=p.2:=Option.some.inj e
   exact d w' (by rw[<- q'];exact hocd)
theorem FS {M:Model}{A:Around}{E:Value->Shared->Prop}{i:Nat}{x:Str}{v:V}{u:Value}{Q:Unit->Shared->Prop}(I:Inv X pins σ H s)(hN:X.N.Nodup)(hi:X.N[i]? = some x)(hx:Loc X.env.scope x)(r:RelV v u)
  (h:∀s',Inv X pins (σ.set i (some v)) H s'->Q () s') (hf:X.fn x=true\/X.env.scope.names.lookup x=some .local:=by first|exact .inl rfl|exact .inr rfl|assumption):wpAny M A (storeName X.env x u) Q E s:=
 FE I hN hi hx r (λs' I' _=>h s' I') hf
theorem Inv.call' {s':Shared}{ch:List Addr}(I:Inv X pins σ H s)(ho:s'.os=s.os)(u:Un (frs X.stack) ch H H' s.heap s'.heap)(hok:HOk X.prog X.w H' s'.heap)(hg:AllBare s'.gens)
  (hch:∀b∈ch,(b∈X.ex\/X.s_0.heap.objs.size<=b)/\b≠X.env.locals/\(∀x c,X.env.cells.lookup x=some c->c≠b)/\∀p∈X.pn++pins,p.1≠b):Inv X pins σ H' s':=by
 obtain ⟨h',g',d',t',o'⟩:=s'
 have e:o'=s.os:=ho
 subst e
 exact I.call (g':=g') (t':=t') (d':=d') u hok hg hch
end
abbrev XK:=Value->Option Addr->Hp->Prop
abbrev St:=List (Option V)
abbrev VK:=V->Hp->Prop
abbrev TE:=St->Hp->VK->Prop
abbrev TT:=St->Hp->(Bool->Hp->Prop)->Prop
abbrev TA:=St->Hp->(List V->Hp->Prop)->Prop
structure Ends where
 nx:St->Hp->Prop
 rt:VK
 bk:St->Hp->Prop:=λ_ _=>False
 ct:St->Hp->Prop:=λ_ _=>False
abbrev TS:=Ends->St->Hp->Prop
def EP (X:Cx)(pins:List (Addr×Obj))(σ:St)(Q:VK)(u:Value)(s':Shared):Prop:=∃v H',Inv X pins σ H' s'/\RelV v u/\Q v H'
def TP (X:Cx)(pins:List (Addr×Obj))(σ:St)(Q:Bool->Hp->Prop)(b:Bool)(s':Shared):Prop:=∃H',Inv X pins σ H' s'/\Q b H'
def AP (X:Cx)(pins:List (Addr×Obj))(σ:St)(Q:List V->Hp->Prop)(us:List Value)(s':Shared):Prop:=∃vs H',Inv X pins σ H' s'/\Vals vs us/\Q vs H'
def SP (X:Cx)(pins:List (Addr×Obj))(D:Ends)(f:Flow)(s':Shared):Prop:=
 match f with
 |.next=>∃σ' H',Inv X pins σ' H' s'/\D.nx σ' H'
 |.brk=>∃σ' H',Inv X pins σ' H' s'/\D.bk σ' H'
 |.cont=>∃σ' H',Inv X pins σ' H' s'/\D.ct σ' H'
 |.ret u=>∃v σ' H',Inv X pins σ' H' s'/\RelV v u/\D.rt v H'
def PE (X:Cx)(e:Expr)(t:TE):Prop:=
 ∀(pins:List (Addr×Obj))(s:Shared)(σ:St)(H:Hp)(Q:VK),Inv X pins σ H s->t σ H Q->wpAny (model X.prog X.w) X.A (eval e X.env) (EP X pins σ Q) X.xe s
def PT (X:Cx)(e:Expr)(t:TT):Prop:=
 ∀(pins:List (Addr×Obj))(s:Shared)(σ:St)(H:Hp)(Q:Bool->Hp->Prop),Inv X pins σ H s->t σ H Q->wpAny (model X.prog X.w) X.A (isTrue e X.env (eval e X.env)) (TP X pins σ Q) X.xe s
def PW (X:Cx)(e:Expr)(t:TT):Prop:=
 ∀(whole:Sem Value)(pins:List (Addr×Obj))(s:Shared)(σ:St)(H:Hp)(Q:Bool->Hp->Prop),Inv X pins σ H s->t σ H Q->wpAny (model X.prog X.w) X.A (isTrue e X.env whole) (TP X pins σ Q) X.xe s
theorem PW.pt {X:Cx}{e:Expr}{t:TT}(h:PW X e t):PT X e t:=h _
def PA (X:Cx)(es:List Expr)(t:TA):Prop:=
 ∀(pos:Pos)(pins:List (Addr×Obj))(s:Shared)(σ:St)(H:Hp)(Q:List V->Hp->Prop),Inv X pins σ H s->t σ H Q->wpAny (model X.prog X.w) X.A (spliced (backTo pos (starEach es X.env))) (AP X pins σ Q) X.xe s
def PS (X:Cx)(st:Stmt)(t:TS):Prop:=
 ∀(pins:List (Addr×Obj))(s:Shared)(σ:St)(H:Hp)(D:Ends),Inv X pins σ H s->t D σ H->wpAny (model X.prog X.w) X.A (exec st X.env) (SP X pins D) X.xe s
def PSs (X:Cx)(st:List Stmt)(t:TS):Prop:=
 ∀(pins:List (Addr×Obj))(s:Shared)(σ:St)(H:Hp)(D:Ends),Inv X pins σ H s->t D σ H->wpAny (model X.prog X.w) X.A (execs st X.env) (SP X pins D) X.xe s
theorem thn {α:Type}{t:Sem α}{Q Q':α->Shared->Prop}{M:Model}{A:Around}{E:Value->Shared->Prop}{s:Shared}(h:wpAny M A t Q E s)(hQ:∀a s,Q a s->Q' a s):wpAny M A t Q' E s:=wpAny_mono h hQ λ_ _ x=>x
open PySem PySem.Spec PyProof.Rows
section
variable {X:Cx}
def FQ (i:Nat):TE:=λσ H Q=>∃v,σ[i]? = some (some v)/\Q v H
def tC (v:V):TE:=λ_ H Q=>Q v H
theorem pe_var {i:Nat}{x:Str}{pos:Pos}(hN:X.N[i]? = some x)(hv:Vis X.env.scope x)(hd:(x == ("__debug__" : Str))=false:=by decide)(hcd:(x == ("__classdict__" : Str))=false:=by decide):PE X (.Name x pos) (FQ i):=by
 intro pins s σ H Q I h
 obtain ⟨v,e,h⟩:=h
 obtain ⟨m,hn,hl⟩:=I.loc
 obtain ⟨u,r,l⟩:=hl i x v hN e hv
 have fin:EP X pins σ Q u s:=⟨v,H,I,r,h⟩
 rcases l with ⟨hk,hm⟩|⟨hk,c,hc,hcell⟩
 ·exact wpAny_Name (wpAny_loadName_local I.ok.kind hk hn hm fin) hd
 ·rcases hk with hk|hk
  ·exact wpAny_Name (wpAny_loadName_cell I.ok.kind hk hc hcell fin) hd
  ·exact wpAny_Name (wpAny_loadName_free I.ok.kind hk hc hcell fin hcd) hd
theorem Dh {i j pos}:PE X (.Constant (.int i) j pos) (tC (.int i)):=λ_ _ _ H _ I h=>wpAny_Constant_int ⟨.int i,H,I.tok _,⟨_,rfl⟩,h⟩
theorem Fi {b j pos}:PE X (.Constant (.bool b) j pos) (tC (.bl b)):=λ_ _ _ H _ I h=>Constant_bool ⟨.bl b,H,I,rfl,h⟩
theorem DQ {j pos}:PE X (.Constant .none j pos) (tC .non):=λ_ _ _ H _ I h=>Constant_none ⟨.non,H,I,rfl,h⟩
def Gl (X:Cx)(x:Str):Prop:=X.env.kindOf x=some .globalImplicit
theorem Fz {E:Value->Shared->Prop}{pins:List (Addr×Obj)}{s:Shared}{σ:St}{H:Hp}{x:Str}{u:Value}{pos:Pos}{Q:Value->Shared->Prop}(I:Inv X pins σ H s)(hg:Gl X x)(hm:X.mg x=some u)(h:Q u s)
  (hd:(x == ("__debug__" : Str))=false:=by decide):wpAny (model X.prog X.w) X.A (eval (.Name x pos) X.env) Q E s:=
 Calls.Name_function_global I.ok.kind hg (Calls.loadGlobal_global (by rw[I.ok.glob];exact I.mod.glob.keeps I.bk) hm h) hd
theorem EA {E:Value->Shared->Prop}{pins:List (Addr×Obj)}{s:Shared}{σ:St}{H:Hp}{x:Str}{u:Value}{pos:Pos}{Q:Value->Shared->Prop}(I:Inv X pins σ H s)(hg:Gl X x)(hm:X.mg x=none)(hv:bootBuiltins x=some u)(h:Q u s)
  (hn:x ≠ "__name__" := by decide) (hd:(x == ("__debug__" : Str))=false:=by decide):wpAny (model X.prog X.w) X.A (eval (.Name x pos) X.env) Q E s:=by
 obtain ⟨mb,h1,h2⟩:=I.mod.blt
 exact Calls.Name_function_global I.ok.kind hg (Calls.loadGlobal_builtin (by rw[I.ok.glob];exact I.mod.glob.keeps I.bk) hm (by rw[I.ok.blt];exact h1.keeps I.bk) ((h2 x hn).trans hv) h) hd
theorem D1 {x:Str}{v:V}{u:Value}{pos:Pos}(hg:Gl X x)(hm:X.mg x=some u)(r:RelV v u)(hd:(x == ("__debug__" : Str))=false:=by decide):PE X (.Name x pos) (tC v):=
 λ_ _ _ H _ I h=>Fz I hg hm ⟨v,H,I,r,h⟩ hd
variable {a b:Expr}{ta tb:TE}{pos:Pos}
def tB (t:TE):TT:=λσ H Q=>t σ H λx H1=>∃c,x=.bl c/\Q c H1
theorem Eb {e:Expr}{t:TE}(h:PE X e t)(he:∀whole,isTrue e X.env whole=(do let v <- whole;standAt e.pos;holding [v] (truthy v)):=by intro _;rfl):PT X e (tB t):=by
 intro pins s σ H Q I hw
 refine isTrue_plain (thn (h pins s σ H _ I hw) λv s1 ⟨x,H1,I1,r1,q1⟩=>?_) (he _)
 obtain ⟨d,rfl,q⟩:=q1
 cases r1
 exact wpAny_truthy_bool ⟨H1,I1,q⟩
variable {tA tB':TT}{rest:List Expr}
def G8 (t u:TT):TT:=λσ H Q=>t σ H λc H1=>if c=true then u σ H1 Q else Q false H1
def tOr (t u:TT):TT:=λσ H Q=>t σ H λc H1=>if c=true then Q true H1 else u σ H1 Q
def G4 (t:TT):TT:=λσ H Q=>t σ H λc H1=>Q (!c) H1
theorem EK (ha:PT X a tA):PW X (.BoolOp .And [a] pos) tA:=by
 intro wh pins s σ H Q I h
 refine isTrue_and (thn (ha pins s σ H Q I h) λc s1 e=>?_)
 cases c with
 |true=>exact isTrue_and_nil e
 |false=>exact e
theorem Ex (ha:PT X a tA):PW X (.BoolOp .Or [a] pos) tA:=by
 intro wh pins s σ H Q I h
 refine isTrue_or (thn (ha pins s σ H Q I h) λc s1 e=>?_)
 cases c with
 |false=>exact isTrue_or_nil e
 |true=>exact e
theorem EL (ha:PT X a tA)(hb:PW X (.BoolOp .And (b :: rest) pos) tB'):PW X (.BoolOp .And (a :: b :: rest) pos) (G8 tA tB'):=by
 intro wh pins s σ H Q I h
 refine isTrue_and (thn (ha pins s σ H _ I h) λc s1 ⟨H1,I1,q1⟩=>?_)
 cases c with
 |true=>exact hb wh pins s1 σ H1 Q I1 q1
 |false=>exact ⟨H1,I1,q1⟩
theorem ER (ha:PT X a tA)(hb:PW X (.BoolOp .Or (b :: rest) pos) tB'):PW X (.BoolOp .Or (a :: b :: rest) pos) (tOr tA tB'):=by
 intro wh pins s σ H Q I h
 refine isTrue_or (thn (ha pins s σ H _ I h) λc s1 ⟨H1,I1,q1⟩=>?_)
 cases c with
 |true=>exact ⟨H1,I1,q1⟩
 |false=>exact hb wh pins s1 σ H1 Q I1 q1
theorem Ey (ha:PT X a tA):PT X (.UnaryOp .Not a pos) (G4 tA):=by
 intro pins s σ H Q I h
 exact isTrue_not (ha pins s σ H (λc H1=>Q (!c) H1) I h)
def tAndV (ta tb:TE):TE:=λσ H Q=>ta σ H λx H1=>∃c,x=.bl c/\if c=true then tb σ H1 Q else Q (.bl false) H1
def tIf (t:TT)(ta tb:TE):TE:=λσ H Q=>t σ H λc H1=>if c=true then ta σ H1 Q else tb σ H1 Q
theorem Ee {c:Expr}(hc:PT X c tA)(ha:PE X a ta)(hb:PE X b tb):PE X (.IfExp c a b pos) (tIf tA ta tb):=by
 intro pins s σ H Q I h
 refine wpAny_IfExp (thn (hc pins s σ H _ I h) λd s1 ⟨H1,I1,q1⟩=>?_)
 cases d with
 |true=>exact ha pins s1 σ H1 Q I1 q1
 |false=>exact hb pins s1 σ H1 Q I1 q1
end
open PySem PySem.Spec PyProof.Rows
def SqL (K:Frag)(H:Hp)(a:Addr)(xs:List V):Prop:=
 Rd H a (.lst xs)\/
  ∃(o:Obj)(its:Array Value)(n:Nat),K.lookup a=some o/\o.cls=.type "list" /\ o.dict=none/\o.data=.seq its n/\its.size<=sizeLine/\Vals xs its.toList
def SqT (K:Frag)(H:Hp)(a:Addr)(xs:List V):Prop:=
 Rd H a (.tup xs)\/
  ∃(o:Obj)(its:Array Value)(n:Nat),K.lookup a=some o/\o.cls=.type "tuple" /\ o.data=.seq its n/\its.size<=sizeLine/\Vals xs its.toList
def absV:Value->Option V
 |.none=>some .non
 |.bool b=>some (.bl b)
 |.int i _=>some (.int i)
 |.str x _=>some (.str x)
 |.bytes b _=>some (.byt b)
 |.float b _=>some (.flt b)
 |.ref a=>some (.ref a)
 |.type n=>some (.ty n)
 |_=>none
theorem RelV.abs {x:V}{u:Value}(r:RelV x u):absV u=some x:=by
 cases x with
 |non=>cases r;rfl
 |bl _=>cases r;rfl
 |int _=>obtain ⟨t,rfl⟩:=r;rfl
 |str _=>obtain ⟨t,rfl⟩:=r;rfl
 |byt _=>obtain ⟨t,rfl⟩:=r;rfl
 |flt _=>obtain ⟨t,rfl⟩:=r;rfl
 |ref _=>cases r;rfl
 |ty _=>cases r;rfl
theorem RelV.inj {x y:V}{u:Value}(r:RelV x u)(q:RelV y u):x=y:=Option.some.inj (r.abs.symm.trans q.abs)
theorem Vals.inj:∀{xs ys:List V} {us:List Value},Vals xs us->Vals ys us->xs=ys
 |_,_,_,.nil,.nil=>rfl
 |_,_,_,.cons r t,.cons r' t'=>by rw[r.inj r',Vals.inj t t']
section
variable {X:Cx}{pins:List (Addr×Obj)}{σ:St}{H:Hp}{s:Shared}{a:Addr}{xs ys:List V}
theorem SqL.of {K:Frag}(h:H a=some (.lst xs)):SqL K H a xs:=.inl (.inl h)
theorem SqT.of {K:Frag}(h:H a=some (.tup xs)):SqT K H a xs:=.inl (.inl h)
theorem Inv.list (I:Inv X pins σ H s)(h:SqL X.K H a xs):∃its:List Value,Vals xs its/\PlainL s.heap a its.toArray/\xs.length<=sizeLine:=by
 rcases h with h|⟨o,its,n,hk,hc,hd,hs,hz,r⟩
 ·obtain ⟨z,its,n,r,e⟩:=h.ok I.hok
  exact ⟨its,r,⟨_,n,e,rfl,rfl,rfl⟩,z⟩
 ·refine ⟨its.toList,r,⟨o,n,I.kIn a o hk,hc,hd,by simpa using hs⟩,?_⟩
  have e:=r.length
  simp only[Array.length_toList] at e
  lia
theorem Inv.tuple (I:Inv X pins σ H s)(h:SqT X.K H a xs):∃its:List Value,Vals xs its/\IsTup s.heap a its.toArray/\xs.length<=sizeLine:=by
 rcases h with h|⟨o,its,n,hk,hc,hs,hz,r⟩
 ·obtain ⟨z,its,r,p⟩:=h.ok I.hok
  exact ⟨its,r,p,z⟩
 ·refine ⟨its.toList,r,⟨o,I.kIn a o hk,hc,n,by simpa using hs⟩,?_⟩
  have e:=r.length
  simp only[Array.length_toList] at e
  lia
theorem Inv.list_inj (I:Inv X pins σ H s)(h:SqL X.K H a xs)(h':SqL X.K H a ys):xs=ys:=by
 obtain ⟨its,r,⟨o,n,e,_,_,d⟩,_⟩:=I.list h
 obtain ⟨its',r',⟨o',n',e',_,_,d'⟩,_⟩:=I.list h'
 rw[e] at e';cases e'
 rw[d] at d'
 injection d' with d1 _
 have:its=its':=by simpa using congrArg Array.toList d1
 subst this
 exact r.inj r'
theorem Inv.tuple_inj (I:Inv X pins σ H s)(h:SqT X.K H a xs)(h':SqT X.K H a ys):xs=ys:=by
 obtain ⟨its,r,⟨o,e,_,n,d⟩,_⟩:=I.tuple h
 obtain ⟨its',r',⟨o',e',_,n',d'⟩,_⟩:=I.tuple h'
 rw[e] at e';cases e'
 rw[d] at d'
 injection d' with d1 _
 have:its=its':=by simpa using congrArg Array.toList d1
 subst this
 exact r.inj r'
end
abbrev Cx.wish (X:Cx)(E:Value->Shared->Prop):Cx:={ X with xe:=E }
abbrev Cx.nox (X:Cx):Cx:=X.wish λ_ _=>False
theorem Cx.Ok.wish {X:Cx}(ok:X.Ok)(E:Value->Shared->Prop):(X.wish E).Ok:=
 ⟨ok.mod,ok.kind,ok.glob,ok.blt,ok.above,ok.inj,ok.has,ok.cab,ok.hd,ok.frames,ok.stk,ok.exf,ok.bs,ok.bsz,ok.noex,ok.exfs,ok.funs,ok.frf⟩
theorem Cx.Ok.unwish {X:Cx}{E:Value->Shared->Prop}(ok:(X.wish E).Ok):X.Ok:=
 ⟨ok.mod,ok.kind,ok.glob,ok.blt,ok.above,ok.inj,ok.has,ok.cab,ok.hd,ok.frames,ok.stk,ok.exf,ok.bs,ok.bsz,ok.noex,ok.exfs,ok.funs,ok.frf⟩
section
variable {X:Cx}{pins:List (Addr×Obj)}{σ:St}{H:Hp}{s:Shared}{E:Value->Shared->Prop}
theorem Inv.wish (I:Inv X pins σ H s)(E:Value->Shared->Prop):Inv (X.wish E) pins σ H s:=⟨I.ok.wish E,I.os,I.bare,I.base,I.loc,I.cell,I.free,I.freeC,I.pin,I.hok,I.len⟩
theorem Inv.unwish (I:Inv (X.wish E) pins σ H s):Inv X pins σ H s:=⟨I.ok.unwish,I.os,I.bare,I.base,I.loc,I.cell,I.free,I.freeC,I.pin,I.hok,I.len⟩
theorem SP.unwish {D:Ends}{f:Flow}{s':Shared}(h:SP (X.wish E) pins D f s'):SP X pins D f s':=by
 cases f with
 |next=>obtain ⟨σ',H',I,q⟩:=h;exact ⟨σ',H',I.unwish,q⟩
 |brk=>obtain ⟨σ',H',I,q⟩:=h;exact ⟨σ',H',I.unwish,q⟩
 |cont=>obtain ⟨σ',H',I,q⟩:=h;exact ⟨σ',H',I.unwish,q⟩
 |ret u=>obtain ⟨v,σ',H',I,r,q⟩:=h;exact ⟨v,σ',H',I.unwish,r,q⟩
theorem PE.nox {e:Expr}{t:TE}(h:PE X.nox e t):PE X e t:=λpins s σ H Q I hw=>
 wpAny_mono (h pins s σ H Q (I.wish _) hw) (λ_ _ ⟨v,H',I',r,q⟩=>⟨v,H',I'.unwish,r,q⟩) λ_ _ z=>False.elim z
theorem PT.nox {e:Expr}{t:TT}(h:PT X.nox e t):PT X e t:=λpins s σ H Q I hw=>
 wpAny_mono (h pins s σ H Q (I.wish _) hw) (λ_ _ ⟨H',I',q⟩=>⟨H',I'.unwish,q⟩) λ_ _ z=>False.elim z
theorem PSs.nox {st:List Stmt}{t:TS}(h:PSs X.nox st t):PSs X st t:=λpins s σ H D I hw=>
 wpAny_mono (h pins s σ H D (I.wish _) hw) (λ_ _ q=>q.unwish) λ_ _ z=>False.elim z
end
section
variable {X:Cx}{st:Stmt}{rest:List Stmt}{t u:TS}{e:Expr}{te:TE}{pos:Pos}
def GT:TS:=λD σ H=>D.nx σ H
def G2 (t u:TS):TS:=λD σ H=>t { D with nx:=u D } σ H
theorem Dx:PSs X [] GT:=λ_ _ σ H _ I h=>wpAny_execs_nil ⟨σ,H,I,h⟩
theorem Df (h1:PS X st t)(h2:PSs X rest u):PSs X (st :: rest) (G2 t u):=by
 intro pins s σ H D I h
 refine wpAny_execs_cons (thn (h1 pins s σ H { D with nx:=u D } I h) λf s1 q=>?_)
 cases f with
 |next=>
  obtain ⟨σ',H',I',q⟩:=q
  exact h2 pins s1 σ' H' D I' q
 |ret v=>exact q
 |brk=>exact q
 |cont=>exact q
theorem Di (h1:PS X st t):PSs X [st] t:=by
 intro pins s σ H D I h
 refine wpAny_execs_cons (thn (h1 pins s σ H D I h) λf s1 q=>?_)
 cases f with
 |next=>exact wpAny_execs_nil q
 |ret v=>exact q
 |brk=>exact q
 |cont=>exact q
theorem Inv.quiet {pins:List (Addr×Obj)}{σ:St}{H:Hp}{s:Shared}(I:Inv X pins σ H s):interactive X.env=false:=by simp[interactive,I.ok.kind]
def GU (te:TE):TS:=λD σ H=>te σ H λ_ H1=>D.nx σ H1
theorem DG (he:PE X e te)(hs:swapsWith e none pos.line X.env=pure false:=by rfl):PS X (.Expr e pos) (GU te):=by
 intro pins s σ H D I h
 exact wpAny_Expr_any (thn (he pins s σ H _ I h) λv s1 ⟨x,H1,I1,r1,q1⟩=>⟨σ,H1,I1,q1⟩) I.quiet hs
def G3 (te:TE):TS:=λD σ H=>te σ H D.rt
theorem Dm (he:PE X e te):PS X (.Return (some e) pos) (G3 te):=by
 intro pins s σ H D I h
 exact wpAny_Return_some (thn (he pins s σ H _ I h) λv s1 ⟨x,H1,I1,r1,q1⟩=>⟨x,σ,H1,I1,r1,q1⟩)
def G6 (c:TT)(t u:TS):TS:=λD σ H=>c σ H λb H1=>if b=true then t D σ H1 else u D σ H1
theorem DF {c:Expr}{a b:List Stmt}{tc:TT}(hc:PT X c tc)(ha:PSs X a t)(hb:PSs X b u):PS X (.If c a b pos) (G6 tc t u):=by
 intro pins s σ H D I h
 refine wpAny_If (thn (hc pins s σ H _ I h) λd s1 ⟨H1,I1,q1⟩=>?_)
 cases d with
 |true=>exact ha pins s1 σ H1 D I1 q1
 |false=>exact hb pins s1 σ H1 D I1 q1
end
abbrev TG:=V->St->Hp->(St->Hp->Prop)->Prop
abbrev TGs:=List V->St->Hp->(St->Hp->Prop)->Prop
def PG (X:Cx)(target:Expr)(t:TG):Prop:=
 ∀(pins:List (Addr×Obj))(s:Shared)(σ:St)(H:Hp)(v:V)(u:Value)(Q:St->Hp->Prop),Inv X pins σ H s->RelV v u->t v σ H Q->
  wpAny (model X.prog X.w) X.A (assign target X.env u) (λ_ s'=>∃σ' H',Inv X pins σ' H' s'/\Q σ' H') X.xe s
def PGs (X:Cx)(ts:List Expr)(t:TGs):Prop:=
 ∀(pins:List (Addr×Obj))(s:Shared)(σ:St)(H:Hp)(vs:List V)(us:List Value)(Q:St->Hp->Prop),Inv X pins σ H s->Vals vs us->t vs σ H Q->
  wpAny (model X.prog X.w) X.A (assignInOrder ((assignEach ts X.env).map (·.2)) us) (λ_ s'=>∃σ' H',Inv X pins σ' H' s'/\Q σ' H') X.xe s
abbrev GE:=V->V->V->Hp->(Hp->Prop)->Prop
def Hd (X:Cx)(t:GE):Prop:=
 ∀(pins:List (Addr×Obj))(s:Shared)(σ:St)(H:Hp)(o i v:V)(ov iv u:Value)(Q:Hp->Prop),Inv X pins σ H s->RelV o ov->RelV i iv->RelV v u->t o i v H Q->
  wpAny (model X.prog X.w) X.A (setItem ov iv u) (λ_ s'=>∃H',Inv X pins σ H' s'/\Q H') X.xe s
section
variable {X:Cx}{pos:Pos}
def D4 (i:Nat):TG:=λv σ H Q=>Q (σ.set i (some v)) H
theorem Dr {i:Nat}{x:Str}(hN:X.N.Nodup)(hi:X.N[i]? = some x)(hx:Loc X.env.scope x)(hf:X.fn x=true\/X.env.scope.names.lookup x=some .local:=by first|exact .inl rfl|exact .inr rfl|assumption):PG X (.Name x pos) (D4 i):=by
 intro pins s σ H v u Q I r h
 exact wpAny_assign_Name (FS I hN hi hx r (λs' I'=>⟨_,H,I',h⟩) hf)
def GQ:TGs:=λvs σ H Q=>vs=[]/\Q σ H
def FO (t:TG)(u:TGs):TGs:=λvs σ H Q=>∃v r,vs=v :: r/\t v σ H λσ' H'=>u r σ' H' Q
theorem E6:PGs X [] GQ:=by
 intro pins s σ H vs us Q I r h
 obtain ⟨e,h⟩:=h
 subst e
 cases r
 exact assignInOrder_nil ⟨σ,H,I,h⟩
theorem Ed {e:Expr}{es:List Expr}{t:TG}{u:TGs}(h1:PG X e t)(h2:PGs X es u)
  (hs:(assignEach (e :: es) X.env).map (·.2)=assign e X.env :: (assignEach es X.env).map (·.2):=by rfl):PGs X (e :: es) (FO t u):=by
 intro pins s σ H vs us Q I r h
 obtain ⟨v,vr,e1,h⟩:=h
 subst e1
 cases r with
 |cons r rr=>
  rw[hs]
  refine assignInOrder_cons (thn (h1 pins s σ H _ _ _ I r h) λ_ s1 ⟨σ1,H1,I1,q1⟩=>?_)
  exact h2 pins s1 σ1 H1 _ _ Q I1 rr q1
def GD (K:Frag)(n:Nat)(t:TGs):TG:=λv σ H Q=>∃a xs,v=.ref a/\SqT K H a xs/\xs.length=n/\t xs σ H Q
theorem pg_tup {es:List Expr}{k:Nat}{t:TGs}{n:Nat}(hc:X.calm=true)(h:PGs X es t)
  (hn:(assignEach es X.env).length=n:=by rfl) (hst:(assignEach es X.env).findIdx? (·.1)=none:=by rfl):PG X (.Tuple es k pos) (GD X.K n t):=by
 intro pins s σ H v u Q I r hw
 obtain ⟨a,xs,e1,hq,hl,hw⟩:=hw
 subst e1
 cases r
 obtain ⟨its,rv,ht,hz⟩:=I.tuple hq
 refine assign_Tuple_tuple (I.ok.hd hc) ht (by simp[hn,<- hl,rv.length]) hst λh' hx=>?_
 have I1:Inv X pins σ H { s with heap:=h' }:=I.kept (t':=s.toks) λb o e=>hx b o (Nat.ne_of_lt (Heap.lt_size e)) e
 exact h pins _ σ H xs _ Q I1 (by simpa using rv) hw
def Hc (to ti:TE)(t:GE):TG:=λv σ H Q=>to σ H λo H1=>ti σ H1 λi H2=>t o i v H2 λH3=>Q σ H3
theorem EN {o i:Expr}{to ti:TE}{t:GE}(ho:PE X o to)(hi:PE X i ti)(hs:Hd X t)
  (ha:∀v,assign (.Subscript o i pos) X.env v=(do
   let ov <- holding [v] (eval o X.env)
   let iv <- holding [v,ov] (eval i X.env)
   standAt pos
   holding [v,ov,iv] (setItem ov iv v)
   release [v,ov,iv] []):=by intro _;rfl):PG X (.Subscript o i pos) (Hc to ti t):=by
 intro pins s σ H v u Q I r h
 rw[ha]
 refine wpAny_bind (wpAny_holding (thn (ho pins s σ H _ I h) λov s1 ⟨x,H1,I1,r1,q1⟩=>?_))
 refine wpAny_bind (wpAny_holding (thn (hi pins s1 σ H1 _ I1 q1) λiv s2 ⟨y,H2,I2,r2,q2⟩=>?_))
 refine wpAny_bind (wpAny_standAt (wpAny_bind (wpAny_holding (thn (hs pins s2 σ H2 x y v ov iv u _ I2 r1 r2 r q2) λ_ s3 ⟨H3,I3,q3⟩=>?_))))
 exact wpAny_release ⟨σ,H3,I3,q3⟩
def Gx (te:TE)(g:TG):TS:=λD σ H=>te σ H λx H1=>g x σ H1 D.nx
theorem EM {tg e:Expr}{te:TE}{g:TG}(he:PE X e te)(hg:PG X tg g)(hs:swapsWithSole [tg] e pos.line X.env=pure false:=by rfl)(hw:swappedStores [tg] e X.env=pure none:=by rfl)
  (h1:(assignEach [tg] X.env).map (·.2)=[assign tg X.env]:=by rfl):PS X (.Assign [tg] e pos) (Gx te g):=by
 intro pins s σ H D I h
 refine wpAny_Assign_stores (thn (he pins s σ H _ I h) λv s1 ⟨x,H1,I1,r1,q1⟩=>?_) hs hw
 rw[h1]
 exact thn (hg pins s1 σ H1 x v _ I1 r1 q1) λ_ s2 q=>q
theorem Dl {i:Nat}{x:Str}{e:Expr}{te:TE}{pos':Pos}(hN:X.N.Nodup)(hi:X.N[i]? = some x)(hx:Loc X.env.scope x)(he:PE X e te)(hs:swapsWith e (some (.Name x pos')) pos.line X.env=pure false:=by rfl)(hf:X.fn x=true\/X.env.scope.names.lookup x=some .local:=by first|exact .inl rfl|exact .inr rfl|assumption) :
  PS X (.Assign [.Name x pos'] e pos) (Gx te (D4 i)):=by
 intro pins s σ H D I h
 refine wpAny_Assign_Name (thn (he pins s σ H _ I h) λv s1 ⟨y,H1,I1,r1,q1⟩=>?_) hs
 exact FS I1 hN hi hx r1 (λs2 I2=>⟨_,H1,I2,q1⟩) hf
end
section
variable {X:Cx}{pos:Pos}
def GF (c:TT)(tb:TS):TS:=λD σ H=>∃W:Nat->St->Hp->Prop,(∃m,W m σ H)/\∀m σ H,W m σ H->
 c σ H λb H1=>if b=true then ∃N:St->Hp->Prop,(∀σ' H',N σ' H'->∃m',m'<m/\W m' σ' H')/\tb { D with nx:=N,ct:=N,bk:=D.nx } σ H1 else D.nx σ H1
theorem ps_while {c:Expr}{body:List Stmt}{tc:TT}{tb:TS}(hp:PassesOwn (model X.prog X.w) X.A X.env X.xe)(hc:PT X c tc)(hb:PSs X body tb):PS X (.While c body [] pos) (GF tc tb):=by
 intro pins s σ H D I h
 obtain ⟨W,⟨m0,w0⟩,turn⟩:=h
 refine wpAny_While (codeAny_whileLoop (λn s'=>∃σ' H',Inv X pins σ' H' s'/\W n σ' H') ?_ m0 ⟨σ,H,I,w0⟩)
 rintro n s1 ⟨σ1,H1,I1,w1⟩
 refine wpAny_passesOwn hp (thn (hc pins s1 σ1 H1 _ I1 (turn n σ1 H1 w1)) λb s2 ⟨H2,I2,q2⟩=>?_)
 cases b with
 |true=>
  obtain ⟨N,hN,q2⟩:=q2
  rw[if_pos rfl]
  refine wpAny_passesOwn hp (thn (hb pins s2 σ1 H2 _ I2 q2) λf s3 q3=>?_)
  cases f with
  |next=>
   obtain ⟨σ3,H3,I3,n3⟩:=q3
   obtain ⟨m',hm,w3⟩:=hN σ3 H3 n3
   exact ⟨m',hm,σ3,H3,I3,w3⟩
  |cont=>
   obtain ⟨σ3,H3,I3,n3⟩:=q3
   obtain ⟨m',hm,w3⟩:=hN σ3 H3 n3
   exact ⟨m',hm,σ3,H3,I3,w3⟩
  |brk=>exact q3
  |ret v=>exact q3
 |false=>
  rw[if_neg Bool.false_ne_true]
  exact wpAny_execs_nil ⟨σ1,H2,I2,q2⟩
end
structure It where
 go:Nat->Hp->Prop
 yld:Nat->Hp->V->Hp->Prop
 stop:Nat->Hp->Prop
def Ev (X:Cx)(pins:List (Addr×Obj))(H:Hp)(b:Addr):Prop:=
 H b=none/\b≠X.env.locals/\b ∉ X.fs/\(b∈X.ex\/X.s_0.heap.objs.size<=b)/\(∀x c,X.env.cells.lookup x=some c->c≠b)/\∀p∈X.pn++pins,p.1≠b
theorem Inv.fpOk {X:Cx}{pins:List (Addr×Obj)}{σ:St}{H H':Hp}{s:Shared}{b:Addr}(I:Inv X pins σ H s)(hb:s.heap.objs.size<=b)(hn:H' b=none):Ev X pins H' b:=by
 refine ⟨hn,Nat.ne_of_gt (Nat.lt_of_lt_of_le I.lt hb),I.nofs hb,.inr (Nat.le_trans I.sz hb),λx c e z=>?_,λp hp z=>?_⟩
 ·obtain ⟨v,q⟩:=I.cell x c e
  exact absurd (Nat.lt_of_lt_of_le q.lt (by rw[z];exact hb)) (Nat.lt_irrefl _)
 ·exact absurd (Nat.lt_of_lt_of_le (Heap.lt_size (I.pin p hp).1) (by rw[z];exact hb)) (Nat.lt_irrefl _)
structure Turn (P:Program)(w:World)(K:Frag)(tg:Expr)(J:It)(fp:List Addr)(it:Addr)(tn:Nat->Heap->Prop):Prop where
 mem:it∈fp
 obj:∀i h,tn i h->∀b∈fp,∃o,h.get? b=some o/\∀v,o.data≠.cell v
 keep:∀i h h',tn i h->(∀b∈fp,∀o,h.get? b=some o->h'.get? b=some o)->tn i h'
 item:∀(X:Cx),X.prog=P->X.w=w->X.K=K->X.calm=true->∀(i:Nat)(pins:List (Addr×Obj))(s:Shared)(σ:St)(H:Hp)(E:Value->Shared->Prop),Inv X pins σ H s->(∀b∈fp,Ev X pins H b)->tn i s.heap->J.go i H->
  wpAny (model P w) X.A (pyNext (.ref it)) (λr s1=>∃u,r=some u/\
   wpAny (model P w) X.A (letOwnedTupleGo tg (.ref it) u) (λ_ s2=>∃x H',Inv X pins σ H' s2/\RelV x u/\J.yld i H x H'/\tn (i+1) s2.heap/\∀b∈fp,H' b=none) E s1) E s
 done:∀(X:Cx),X.prog=P->X.w=w->X.K=K->X.calm=true->∀(i:Nat)(pins:List (Addr×Obj))(s:Shared)(σ:St)(H:Hp)(E:Value->Shared->Prop),Inv X pins σ H s->(∀b∈fp,Ev X pins H b)->tn i s.heap->J.stop i H->
  wpAny (model P w) X.A (pyNext (.ref it)) (λr s1=>r=none/\Inv X pins σ H s1) E s
 self:∀(A:Around)(i:Nat)(s:Shared)(Q:Value->Shared->Prop)(E:Value->Shared->Prop),tn i s.heap->Q (.ref it) s->wpAny (model P w) A (pyIter (.ref it)) Q E s
abbrev TI:=St->Hp->(It->Hp->Prop)->Prop
def PIE (X:Cx)(pins:List (Addr×Obj))(σ:St)(tg:Expr)(R:It->Hp->Prop)(itv:Value)(s2:Shared):Prop:=
 ∃(it:Addr)(fp:List Addr)(tn:Nat->Heap->Prop)(J:It)(H':Hp),itv=.ref it/\Inv X pins σ H' s2/\Turn X.prog X.w X.K tg J fp it tn/\tn 0 s2.heap/\(∀b∈fp,Ev X pins H' b)/\R J H'
def PI (X:Cx)(tg iter:Expr)(wi:TI):Prop:=
 ∀(pins:List (Addr×Obj))(s:Shared)(σ:St)(H:Hp)(R:It->Hp->Prop),Inv X pins σ H s->wi σ H R->
  wpAny (model X.prog X.w) X.A (eval iter X.env) (λv s1=>wpAny (model X.prog X.w) X.A (pyIter v) (PIE X pins σ tg R) X.xe s1) X.xe s
theorem FN {M:Model}{A:Around}{E:Value->Shared->Prop}{s:Shared}{tg:Expr}{it:Addr}{u:Value}{o:Obj}{n:String}{vs:Array Value}{Q:Unit->Shared->Prop}(ho:s.heap.get? it=some o)(hc:o.cls=.type n)(hd:o.data=.fields vs)
    (hn:["enumerate","zip","dict_itemiterator","dict_reverseitemiterator","odict_iterator","itertools.zip_longest","itertools.pairwise"].contains n=false) (hQ:Q () s):wpAny M A (letOwnedTupleGo tg (.ref it) u) Q E s:=by
  unfold letOwnedTupleGo
  cases tg<;>first
    |exact wpAny_pure hQ
    | (cases u<;>first
        |exact wpAny_pure hQ
        | (refine wpAny_bind (wpAny_load ho ?_)
           rw[hc,hd]
           show wpAny M A (if (["enumerate","zip","dict_itemiterator","dict_reverseitemiterator","odict_iterator","itertools.zip_longest","itertools.pairwise"].contains n && vs[0]? == some (rawInt _))=true then _ else _) Q E s
           rw[if_neg (by intro h;rw[hn,Bool.false_and] at h;cases h)]
           exact wpAny_pure hQ))
def Itl (K:Frag)(a:Addr):It:=
 ⟨λi H=>∃xs x,SqL K H a xs/\xs[i]? = some x,λi H x H'=>H'=H/\∀xs,SqL K H a xs->xs[i]? = some x,λi H=>∃xs,SqL K H a xs/\xs.length<=i⟩
def Itt (K:Frag)(a:Addr):It:=
 ⟨λi H=>∃xs x,SqT K H a xs/\xs[i]? = some x,λi H x H'=>H'=H/\∀xs,SqT K H a xs->xs[i]? = some x,λi H=>∃xs,SqT K H a xs/\xs.length<=i⟩
def Itr (lo:Int)(n:Nat):It:=⟨λi _=>i<n,λi H x H'=>H'=H/\x=.int (lo+i),λi _=>n<=i⟩
theorem turn_list {P:Program}{w:World}{K:Frag}{tg:Expr}(a it:Addr):Turn P w K tg (Itl K a) [it] it (λi h=>h.IsListIter it a i) where
 mem:=by simp
 obj:=λi h st b hb=>by
  have e:b=it:=by simpa using hb
  subst e
  obtain ⟨o,e,c,d⟩:=st
  exact ⟨o,e,λv z=>by rw[d] at z;cases z⟩
 keep:=λi h h' st k=>st.at λo e=>k it (by simp) o e
 item:=by
  intro X hP hw hK hc i pins s σ H E I hf st hg
  subst hP hw hK
  obtain ⟨xs,x,hq,hx⟩:=hg
  obtain ⟨its,rv,p,hz⟩:=I.list hq
  obtain ⟨u,hu,ru⟩:=rv.get hx
  obtain ⟨f0,f1,f2,f3,f4,f5⟩:=hf it (by simp)
  refine wpAny_pyNext_list_item st p.isList (x:=u) (by simpa using hu) λh' st' sb=>?_
  have I1:Inv X pins σ H { s with heap:=h' }:=I.turned (t':=s.toks) (λb o hb e=>(sb.2 b hb).trans e) f0 f1 f3 f4 f5
  obtain ⟨o,e,c,d⟩:=id st'
  exact ⟨u,rfl,FN (s:={ s with heap:=h' }) e c d (by decide) ⟨x,H,I1,ru,⟨rfl,λys hy=>by rw[I.list_inj hy hq];exact hx⟩,st',λb hb=>(hf b hb).1⟩⟩
 done:=by
  intro X hP hw hK hc i pins s σ H E I hf st hg
  subst hP hw hK
  obtain ⟨xs,hq,hx⟩:=hg
  obtain ⟨its,rv,p,hz⟩:=I.list hq
  obtain ⟨f0,f1,f2,f3,f4,f5⟩:=hf it (by simp)
  have hl:=rv.length
  exact wpAny_pyNext_list_end (I.ok.hd hc) st p.isList (by simp;lia) λh' eb=>⟨rfl,I.turned (t':=s.toks) (λb o hb e=>eb b o hb e) f0 f1 f3 f4 f5⟩
 self:=λ_ _ _ _ _ st h=>wpAny_pyIter_listiter st h
theorem turn_tuple {P:Program}{w:World}{K:Frag}{tg:Expr}(a it:Addr):Turn P w K tg (Itt K a) [it] it (λi h=>h.IsTupleIter it a i) where
 mem:=by simp
 obj:=λi h st b hb=>by
  have e:b=it:=by simpa using hb
  subst e
  obtain ⟨o,e,c,d⟩:=st
  exact ⟨o,e,λv z=>by rw[d] at z;cases z⟩
 keep:=λi h h' st k=>st.at λo e=>k it (by simp) o e
 item:=by
  intro X hP hw hK hc i pins s σ H E I hf st hg
  subst hP hw hK
  obtain ⟨xs,x,hq,hx⟩:=hg
  obtain ⟨its,rv,p,hz⟩:=I.tuple hq
  obtain ⟨u,hu,ru⟩:=rv.get hx
  obtain ⟨f0,f1,f2,f3,f4,f5⟩:=hf it (by simp)
  refine wpAny_pyNext_tuple_item st (show s.heap.IsTuple a its.toArray from p) (x:=u) (by simpa using hu) λh' st' sb=>?_
  have I1:Inv X pins σ H { s with heap:=h' }:=I.turned (t':=s.toks) (λb o hb e=>(sb.2 b hb).trans e) f0 f1 f3 f4 f5
  obtain ⟨o,e,c,d⟩:=id st'
  exact ⟨u,rfl,FN (s:={ s with heap:=h' }) e c d (by decide) ⟨x,H,I1,ru,⟨rfl,λys hy=>by rw[I.tuple_inj hy hq];exact hx⟩,st',λb hb=>(hf b hb).1⟩⟩
 done:=by
  intro X hP hw hK hc i pins s σ H E I hf st hg
  subst hP hw hK
  obtain ⟨xs,hq,hx⟩:=hg
  obtain ⟨its,rv,p,hz⟩:=I.tuple hq
  obtain ⟨f0,f1,f2,f3,f4,f5⟩:=hf it (by simp)
  have hl:=rv.length
  exact wpAny_pyNext_tuple_end (I.ok.hd hc) st (show s.heap.IsTuple a its.toArray from p) (by simp;lia) λh' eb=>⟨rfl,I.turned (t':=s.toks) (λb o hb e=>eb b o hb e) f0 f1 f3 f4 f5⟩
 self:=λ_ _ _ _ _ st h=>wpAny_pyIter_tupleiter st h
theorem turn_range {P:Program}{w:World}{K:Frag}{tg:Expr}(it:Addr)(lo:Int)(n:Nat):Turn P w K tg (Itr lo n) [it] it (λi h=>IsRangeIter h it (lo+(i:Nat)*1) ((n:Int)-(i:Nat)) 1) where
 mem:=by simp
 obj:=λi h st b hb=>by
  have e:b=it:=by simpa using hb
  subst e
  exact ⟨_,st,λv z=>by
   have z':Data.fields _=Data.cell v:=z
   cases z'⟩
 keep:=λi h h' st k=>k it (by simp) _ st
 item:=by
  intro X hP hw hK hc i pins s σ H E I hf st hg
  subst hP hw hK
  obtain ⟨f0,f1,f2,f3,f4,f5⟩:=hf it (by simp)
  have W:=Walks.range (prog:=X.prog) (w:=X.w) (I.ok.hd hc) it lo 1 n
  refine W.item i s _ _ hg st λv h' tk hv st' kk=>?_
  obtain ⟨t,rfl⟩:=hv
  have I1:Inv X pins σ H { s with heap:=h',toks:=tk }:=I.turned (λb o hb e=>kk b o (by simpa using hb) e) f0 f1 f3 f4 f5
  refine ⟨_,rfl,FN (s:={ s with heap:=h',toks:=tk }) (n := "range_iterator") st' rfl rfl (by decide) ⟨.int (lo+i),H,I1,⟨t,?_⟩,⟨rfl,rfl⟩,st',λb hb=>(hf b hb).1⟩⟩
  rw[Int.mul_one]
 done:=by
  intro X hP hw hK hc i pins s σ H E I hf st hg
  subst hP hw hK
  obtain ⟨f0,f1,f2,f3,f4,f5⟩:=hf it (by simp)
  exact wpAny_pyNext_range_end (I.ok.hd hc) st (by have:n<=i:=hg;lia) λh' eb=>⟨rfl,I.turned (t':=s.toks) (λb o hb e=>eb b o hb e) f0 f1 f3 f4 f5⟩
 self:=λ_ _ _ _ _ st h=>wpAny_pyIter_rangeiter st h
open PySem PySem.Spec PyProof.Rows
section
variable {X:Cx}{tg:Expr}
def GZ (K:Frag)(tl:TE):TI:=λσ H R=>tl σ H λx H1=>∃a,x=.ref a/\(∃xs,SqL K H1 a xs)/\R (Itl K a) H1
def Hb (K:Frag)(tl:TE):TI:=λσ H R=>tl σ H λx H1=>∃a,x=.ref a/\(∃xs,SqT K H1 a xs)/\R (Itt K a) H1
theorem DR {l:Expr}{tl:TE}(hl:PE X l tl):PI X tg l (GZ X.K tl):=by
 intro pins s σ H R I h
 refine thn (hl pins s σ H _ I h) λv s1 ⟨x,H1,I1,r1,q1⟩=>?_
 obtain ⟨a,e,⟨xs,hq⟩,q⟩:=q1
 subst e
 cases r1
 obtain ⟨its,rv,p,hz⟩:=I1.list hq
 refine wpAny_pyIter_list p.isList ?_
 refine ⟨s1.heap.objs.size,[s1.heap.objs.size],_,_,H1,rfl,I1.kept (t':=s1.toks) λb o e=>Heap.get?_push_of_some _ e,turn_list a _,⟨_,Heap.get?_push_size _ rfl,rfl,rfl⟩,λb hb=>?_,q⟩
 have e:b=s1.heap.objs.size:=by simpa using hb
 subst e
 exact I1.fpOk (Nat.le_refl _) (I1.hok.fresh (Nat.le_refl _))
theorem GH {l:Expr}{tl:TE}(hl:PE X l tl):PI X tg l (Hb X.K tl):=by
 intro pins s σ H R I h
 refine thn (hl pins s σ H _ I h) λv s1 ⟨x,H1,I1,r1,q1⟩=>?_
 obtain ⟨a,e,⟨xs,hq⟩,q⟩:=q1
 subst e
 cases r1
 obtain ⟨its,rv,p,hz⟩:=I1.tuple hq
 refine wpAny_pyIter_tuple (show s1.heap.IsTuple a its.toArray from p) ?_
 refine ⟨s1.heap.objs.size,[s1.heap.objs.size],_,_,H1,rfl,I1.kept (t':=s1.toks) λb o e=>Heap.get?_push_of_some _ e,turn_tuple a _,⟨_,Heap.get?_push_size _ rfl,rfl,rfl⟩,λb hb=>?_,q⟩
 have e:b=s1.heap.objs.size:=by simpa using hb
 subst e
 exact I1.fpOk (Nat.le_refl _) (I1.hok.fresh (Nat.le_refl _))
theorem FV {pins:List (Addr×Obj)}{σ:St}{H:Hp}{s:Shared}{R:It->Hp->Prop}{E:Value->Shared->Prop}{lo hi:Int}{t u v:Tok}{tk:Nat}(I:Inv X pins σ H s)(h1:-(2 ^ 62)<=lo)(h2:lo<2 ^ 62)(h3:-(2 ^ 62)<=hi)(h4:hi<2 ^ 62)
  (q:R (Itr lo (hi-lo).toNat) H):wpAny (model X.prog X.w) X.A (pyIter (.ref s.heap.objs.size)) (PIE X pins σ tg R) E { s with heap:=s.heap.push { cls:=.type "range",data:=.fields #[.int lo t,.int hi u,.int 1 v] },toks:=tk }:=by
 refine wpAny_pyIter_range (IsRange.new ..) (small_one h1 h2 h3 h4) ?_
 have I1:Inv X pins σ H { s with heap:=s.heap.push { cls:=.type "range",data:=.fields #[.int lo t,.int hi u,.int 1 v] },toks:=tk }:=I.kept λb o e=>Heap.get?_push_of_some _ e
 refine ⟨(s.heap.push { cls:=.type "range",data:=.fields #[.int lo t,.int hi u,.int 1 v] }).objs.size,[(s.heap.push { cls:=.type "range",data:=.fields #[.int lo t,.int hi u,.int 1 v] }).objs.size],_,_,H,rfl,
  I1.kept (t':=tk) λb o e=>Heap.get?_push_of_some _ e,turn_range _ lo (hi-lo).toNat,?_,λb hb=>?_,q⟩
 ·have e1:lo+((0:Nat):Int)*1=lo:=by simp
  have e2:(((hi-lo).toNat:Nat):Int)-((0:Nat):Int)=Builtin.Range.rangeSize lo hi 1:=by rw[rangeSize_one];split<;>lia
  show IsRangeIter _ _ (lo+((0:Nat):Int)*1) ((((hi-lo).toNat:Nat):Int)-((0:Nat):Int)) 1
  rw[e1,e2]
  exact Heap.get?_push_size _ rfl
 ·have e:b=(s.heap.push { cls:=.type "range",data:=.fields #[.int lo t,.int hi u,.int 1 v] }).objs.size:=by simpa using hb
  subst e
  exact I1.fpOk (Nat.le_refl _) (I1.hok.fresh (Nat.le_refl _))
def GY (ta:TA):TI:=λσ H R=>ta σ H λvs H1=>∃j:Int,vs=[.int j]/\-(2 ^ 62)<=j/\j<2 ^ 62/\R (Itr 0 j.toNat) H1
def GX (ta:TA):TI:=λσ H R=>ta σ H λvs H1=>∃i j:Int,vs=[.int i,.int j]/\(-(2 ^ 62)<=i/\i<2 ^ 62/\-(2 ^ 62)<=j/\j<2 ^ 62)/\R (Itr i (j-i).toNat) H1
theorem DK {a:Expr}{ta:TA}{p pos:Pos}(hg:Gl X "range")(hm:X.mg "range" = none)(ha:PA X [a] ta)(hs:starEach [a] X.env=[(false,eval a X.env)]:=by rfl):PI X tg (.Call (.Name "range" p) [a] [] pos) (GY ta):=by
 intro pins s σ H R I h
 refine Call_ (EA I hg hm boot_range (PyProof.Rows.callWith_type1 (thn (ha pos pins s σ H _ I h) λus s1 ⟨vs,H1,I1,r1,q1⟩=>?_) hs rfl))
 obtain ⟨j,e,q1,q2,q⟩:=q1
 subst e
 cases r1 with
 |cons r rr=>
  cases rr
  obtain ⟨t,rfl⟩:=r
  exact call_range_1 (FV I1 (by lia) (by lia) q1 q2 (by simpa using q))
theorem EC {a b:Expr}{ta:TA}{p pos:Pos}(hg:Gl X "range")(hm:X.mg "range" = none)(ha:PA X [a,b] ta)(hs:starEach [a,b] X.env=[(false,eval a X.env),(false,eval b X.env)]:=by rfl)(hs2:starEach [b] X.env=[(false,eval b X.env)]:=by rfl) :
  PI X tg (.Call (.Name "range" p) [a,b] [] pos) (GX ta):=by
 intro pins s σ H R I h
 refine Call_ (EA I hg hm boot_range (PyProof.Rows.callWith_type1 (thn (ha pos pins s σ H _ I h) λus s1 ⟨vs,H1,I1,r1,q1⟩=>?_) (by rw[hs,hs2]) (by rw[hs2];rfl)))
 obtain ⟨i,j,e,⟨q1,q2,q3,q4⟩,q⟩:=q1
 subst e
 cases r1 with
 |cons r rr=>
  cases rr with
  |cons r' rr=>
   cases rr
   obtain ⟨t,rfl⟩:=r
   obtain ⟨t',rfl⟩:=r'
   exact call_range_2 (FV I1 q1 q2 q3 q4 q)
def G7 (wi:TI)(g:TG)(tb:TS):TS:=λD σ H=>wi σ H λJ H1=>∃W:Nat->Nat->St->Hp->Prop,(∃m,W 0 m σ H1)/\∀i m σ H,W i m σ H->
 (J.stop i H/\D.nx σ H)\/(J.go i H/\∃N:St->Hp->Prop,(∀σ' H',N σ' H'->∃m',m'<m/\W (i+1) m' σ' H')/\∀x H',J.yld i H x H'->g x σ H' λσ2 H2=>tb { D with nx:=N,ct:=N,bk:=D.nx } σ2 H2)
def EW (fp:List Addr)(h:Heap):List (Addr×Obj):=fp.filterMap λb=>(h.get? b).map λo=>(b,o)
theorem ES {fp:List Addr}{h:Heap}{b:Addr}{o:Obj}(hb:b∈fp)(e:h.get? b=some o):(b,o)∈EW fp h:=List.mem_filterMap.mpr ⟨b,hb,by rw[e];rfl⟩
theorem of_pinsAt {fp:List Addr}{h:Heap}{p:Addr×Obj}(hp:p∈EW fp h):p.1∈fp/\h.get? p.1=some p.2:=by
 obtain ⟨b,hb,e⟩:=List.mem_filterMap.mp hp
 cases q:h.get? b with
 |none=>rw[q] at e;cases e
 |some o=>
  rw[q] at e
  have e':(b,o)=p:=Option.some.inj e
  subst e'
  exact ⟨hb,q⟩
theorem Inv.pinned {pins:List (Addr×Obj)}{σ:St}{H:Hp}{s:Shared}{fp:List Addr}(I:Inv X pins σ H s)(hf:∀b∈fp,Ev X pins H b)(ho:∀b∈fp,∃o,s.heap.get? b=some o/\∀v,o.data≠.cell v):Inv X (pins++EW fp s.heap) σ H s:=
 I.pins_of λp hp=>(List.mem_append.mp hp).elim (λz=>I.pin p (List.mem_append_right _ z)) λz=>by
  obtain ⟨hb,e⟩:=of_pinsAt z
  obtain ⟨f0,f1,f2,_⟩:=hf p.1 hb
  obtain ⟨o,e',d⟩:=ho p.1 hb
  rw[e] at e';cases e'
  exact ⟨e,f0,f1,f2,d⟩
theorem Inv.unpinned {pins pl:List (Addr×Obj)}{σ:St}{H:Hp}{s:Shared}(I:Inv X (pins++pl) σ H s):Inv X pins σ H s:=I.pins_of λp hp=>I.pin p (List.mem_append_right _ (List.mem_append_left _ hp))
theorem DN {iter:Expr}{body:List Stmt}{wi:TI}{g:TG}{tb:TS}{pos:Pos}(hp:PassesOwn (model X.prog X.w) X.A X.env X.xe)(hc:X.calm=true)(hi:PI X tg iter wi)(hg:PG X tg g)(hb:PSs X body tb)
  (hs:∀x,foldedSetIterable iter X.env x=pure x:=by intro _;rfl):PS X (.For tg iter body [] pos) (G7 wi g tb):=by
 intro pins s σ H D I h
 refine wpAny_For (thn (hi pins s σ H _ I h) λv s1 h1=>thn h1 λitv s2 h2=>?_) hs
 obtain ⟨it,fp,tn,J,H2,e,I2,T,st2,f2,W,⟨m0,w0⟩,turn⟩:=h2
 subst e
 have stat:∀{H':Hp},(∀b∈fp,H' b=none)->∀b∈fp,Ev X pins H' b:=λhn b hb=>⟨hn b hb,(f2 b hb).2⟩
 refine codeAny_forLoop_any (λn s'=>∃i σ' H',Inv X pins σ' H' s'/\tn i s'.heap/\(∀b∈fp,H' b=none)/\W i n σ' H') ?_ m0 ⟨0,σ,H2,I2,st2,λb hb=>(f2 b hb).1,w0⟩
 rintro n s3 ⟨i,σ3,H3,I3,st3,fr3,w3⟩
 rcases turn i n σ3 H3 w3 with ⟨stop,qn⟩|⟨go,N,hN,step⟩
 ·refine wpAny_passesOwn hp (thn (T.done X rfl rfl rfl hc i pins s3 σ3 H3 X.xe I3 (stat fr3) st3 stop) λr s4 ⟨hr,I4⟩=>?_)
  subst hr
  exact wpAny_execs_nil ⟨σ3,H3,I4,qn⟩
 ·refine wpAny_passesOwn hp (thn (T.item X rfl rfl rfl hc i pins s3 σ3 H3 X.xe I3 (stat fr3) st3 go) λr s4 ⟨u,hr,h4⟩=>?_)
  subst hr
  refine wpAny_passesOwn hp (thn h4 λ_ s5 ⟨x,H5,I5,r5,y5,st5,fr5⟩=>?_)
  have I5':=I5.pinned (stat fr5) (T.obj _ _ st5)
  refine wpAny_passesOwn hp (thn (hg _ s5 σ3 H5 x u _ I5' r5 (step x H5 y5)) λ_ s6 ⟨σ6,H6,I6,q6⟩=>?_)
  refine wpAny_passesOwn hp (thn (hb _ s6 σ6 H6 _ I6 q6) λf s7 q7=>?_)
  have again:∀{σ7:St} {H7:Hp},Inv X (pins++EW fp s5.heap) σ7 H7 s7->N σ7 H7->∃m,m<n/\∃i σ' H',Inv X pins σ' H' s7/\tn i s7.heap/\(∀b∈fp,H' b=none)/\W i m σ' H':=λ{σ7 H7} I7 n7=>by
   obtain ⟨m',hm,w7⟩:=hN σ7 H7 n7
   refine ⟨m',hm,i+1,σ7,H7,I7.unpinned,T.keep _ _ _ st5 λb hb o e=>(I7.pin (b,o) (List.mem_append_right _ (List.mem_append_right _ (ES hb e)))).1,λb hb=>?_,w7⟩
   obtain ⟨o,e,d⟩:=T.obj _ _ st5 b hb
   exact (I7.pin (b,o) (List.mem_append_right _ (List.mem_append_right _ (ES hb e)))).2.1
  cases f with
  |next=>obtain ⟨σ7,H7,I7,n7⟩:=q7;exact again I7 n7
  |cont=>obtain ⟨σ7,H7,I7,n7⟩:=q7;exact again I7 n7
  |brk=>obtain ⟨σ7,H7,I7,q7⟩:=q7;exact ⟨σ7,H7,I7.unpinned,q7⟩
  |ret v=>obtain ⟨x7,σ7,H7,I7,r7,q7⟩:=q7;exact ⟨x7,σ7,H7,I7.unpinned,r7,q7⟩
end
theorem for_list {K:Frag}{a:Addr}{xs:List V}{g:TG}{tb:TS}{D:Ends}{σ:St}{H:Hp}(Pv:Nat->St->Hp->Prop)(h0:Pv 0 σ H)(hl:∀i σ H,i<=xs.length->Pv i σ H->SqL K H a xs)
  (hs:∀i x σ H,xs[i]? = some x->Pv i σ H->g x σ H λσ2 H2=>tb { D with nx:=Pv (i+1),ct:=Pv (i+1),bk:=D.nx } σ2 H2) (hd:∀σ H,Pv xs.length σ H->D.nx σ H) :
  ∃W:Nat->Nat->St->Hp->Prop,(∃m,W 0 m σ H)/\∀i m σ H,W i m σ H->
   ((Itl K a).stop i H/\D.nx σ H)\/((Itl K a).go i H/\∃N:St->Hp->Prop,(∀σ' H',N σ' H'->∃m',m'<m/\W (i+1) m' σ' H')/\∀x H',(Itl K a).yld i H x H'->g x σ H' λσ2 H2=>tb { D with nx:=N,ct:=N,bk:=D.nx } σ2 H2):=by
 refine ⟨λi m σ H=>m=xs.length-i/\i<=xs.length/\Pv i σ H,⟨xs.length,by simp,Nat.zero_le _,h0⟩,?_⟩
 rintro i m σ H ⟨rfl,hi,p⟩
 have q:=hl i σ H hi p
 by_cases hlt:i<xs.length
 ·refine .inr ⟨⟨xs,xs[i],q,by simp[hlt]⟩,Pv (i+1),λσ' H' p'=>⟨xs.length-(i+1),by lia,rfl,hlt,p'⟩,λx H' y=>?_⟩
  obtain ⟨e,y⟩:=y
  subst e
  exact hs i x σ _ (y xs q) p
 ·have e:i=xs.length:=by lia
  subst e
  exact .inl ⟨⟨xs,q,Nat.le_refl _⟩,hd σ H p⟩
theorem for_range {lo:Int}{n:Nat}{g:TG}{tb:TS}{D:Ends}{σ:St}{H:Hp}(Pv:Nat->St->Hp->Prop)(h0:Pv 0 σ H)
  (hs:∀i σ H,i<n->Pv i σ H->g (.int (lo+i)) σ H λσ2 H2=>tb { D with nx:=Pv (i+1),ct:=Pv (i+1),bk:=D.nx } σ2 H2) (hd:∀σ H,Pv n σ H->D.nx σ H) :
  ∃W:Nat->Nat->St->Hp->Prop,(∃m,W 0 m σ H)/\∀i m σ H,W i m σ H->
   ((Itr lo n).stop i H/\D.nx σ H)\/((Itr lo n).go i H/\∃N:St->Hp->Prop,(∀σ' H',N σ' H'->∃m',m'<m/\W (i+1) m' σ' H')/\∀x H',(Itr lo n).yld i H x H'->g x σ H' λσ2 H2=>tb { D with nx:=N,ct:=N,bk:=D.nx } σ2 H2):=by
 refine ⟨λi m σ H=>m=n-i/\i<=n/\Pv i σ H,⟨n,by simp,Nat.zero_le _,h0⟩,?_⟩
 rintro i m σ H ⟨rfl,hi,p⟩
 by_cases hlt:i<n
 ·refine .inr ⟨hlt,Pv (i+1),λσ' H' p'=>⟨n-(i+1),by lia,rfl,hlt,p'⟩,λx H' y=>?_⟩
  obtain ⟨e,y⟩:=y
  subst e y
  exact hs i σ _ hlt p
 ·have e:i=n:=by lia
  subst e
  exact .inl ⟨Nat.le_refl _,hd σ H p⟩
open PySem PySem.Spec PyProof.Rows
abbrev R2:=V->V->Hp->VK->Prop
def OpR (X:Cx)(f:Value->Value->Sem Value)(r:R2):Prop:=
 ∀(pins:List (Addr×Obj))(s:Shared)(σ:St)(H:Hp)(x y:V)(v u:Value)(Q:VK),Inv X pins σ H s->RelV x v->RelV y u->r x y H Q->
  wpAny (model X.prog X.w) X.A (f v u) (EP X pins σ Q) X.xe s
def UnR (X:Cx)(f:Value->Sem Value)(r:V->Hp->VK->Prop):Prop:=
 ∀(pins:List (Addr×Obj))(s:Shared)(σ:St)(H:Hp)(x:V)(v:Value)(Q:VK),Inv X pins σ H s->RelV x v->r x H Q->
  wpAny (model X.prog X.w) X.A (f v) (EP X pins σ Q) X.xe s
def EF (X:Cx)(f:Value)(r:List V->Hp->VK->Prop):Prop:=
 ∀(pins:List (Addr×Obj))(s:Shared)(σ:St)(H:Hp)(xs:List V)(us:List Value)(Q:VK),Inv X pins σ H s->Vals xs us->r xs H Q->
  wpAny (model X.prog X.w) X.A (call f us) (EP X pins σ Q) X.xe s
def TruR (X:Cx)(r:V->Hp->(Bool->Hp->Prop)->Prop):Prop:=
 ∀(pins:List (Addr×Obj))(s:Shared)(σ:St)(H:Hp)(x:V)(v:Value)(Q:Bool->Hp->Prop),Inv X pins σ H s->RelV x v->r x H Q->
  wpAny (model X.prog X.w) X.A (truthy v) (TP X pins σ Q) X.xe s
def tOp (r:R2)(ta tb:TE):TE:=λσ H Q=>ta σ H λx H1=>tb σ H1 λy H2=>r x y H2 Q
def tUn (r:V->Hp->VK->Prop)(ta:TE):TE:=λσ H Q=>ta σ H λx H1=>r x H1 Q
def rI (C:Int->Int->Prop)(g:Int->Int->V):R2:=λx y H Q=>∃i j,x=.int i/\y=.int j/\C i j/\Q (g i j) H
def rI0 (g:Int->Int->V):R2:=λx y H Q=>∃i j,x=.int i/\y=.int j/\Q (g i j) H
def rU (g:Int->V):V->Hp->VK->Prop:=λx H Q=>∃i,x=.int i/\Q (g i) H
section
variable {X:Cx}{a b c:Expr}{ta tb tc:TE}{pos:Pos}
theorem GR (ha:PE X a ta)(hb:PE X b tb){pins:List (Addr×Obj)}{s:Shared}{σ:St}{H:Hp}{R:V->V->Hp->Prop}(I:Inv X pins σ H s)
  (h:ta σ H λx H1=>tb σ H1 λy H2=>R x y H2) {Q:Value->Shared->Prop} {f:Value->Value->Sem Value}
  (hf:∀v u s2 x y H2,Inv X pins σ H2 s2->RelV x v->RelV y u->R x y H2->wpAny (model X.prog X.w) X.A (f v u) Q X.xe s2) :
  wpAny (model X.prog X.w) X.A (eval a X.env) (λv s₁=>wpAny (model X.prog X.w) X.A (eval b X.env) (λu s₂=>wpAny (model X.prog X.w) X.A (f v u) Q X.xe s₂) X.xe s₁) X.xe s:=by
 refine thn (ha pins s σ H _ I h) λv s1 ⟨x,H1,I1,r1,q1⟩=>?_
 refine thn (hb pins s1 σ H1 _ I1 q1) λu s2 ⟨y,H2,I2,r2,q2⟩=>?_
 exact hf v u s2 x y H2 I2 r1 r2 q2
theorem Dj {op:Operator}{r:R2}(ho:OpR X (binaryOp op) r)(ha:PE X a ta)(hb:PE X b tb):PE X (.BinOp a op b pos) (tOp r ta tb):=by
 intro pins s σ H Q I h
 exact wpAny_BinOp (GR ha hb I h λv u s2 x y H2 I2 rx ry q=>ho pins s2 σ H2 x y v u Q I2 rx ry q)
theorem D5 {op:UnaryOp}{r:V->Hp->VK->Prop}(ho:UnR X (unaryOp op) r)(ha:PE X a ta):PE X (.UnaryOp op a pos) (tUn r ta):=by
 intro pins s σ H Q I h
 exact UnaryOp_ (thn (ha pins s σ H _ I h) λv s1 ⟨x,H1,I1,r1,q1⟩=>ho pins s1 σ H1 x v Q I1 r1 q1)
theorem opI {f:Value->Value->Sem Value}{C:Int->Int->Prop}{g:Int->Int->Int}
  (rule:∀(i j:Int)(t u:Tok)(s:Shared)(Q:Value->Shared->Prop)(E:Value->Shared->Prop),C i j->Q (.int (g i j) s.toks) { s with toks:=s.toks+1 }->wpAny (model X.prog X.w) X.A (f (.int i t) (.int j u)) Q E s) :
  OpR X f (rI C λi j=>.int (g i j)):=by
 intro pins s σ H x y v u Q I rx ry h
 obtain ⟨i,j,rfl,rfl,hc,q⟩:=h
 obtain ⟨t,rfl⟩:=rx
 obtain ⟨t',rfl⟩:=ry
 exact rule i j t t' s _ _ hc ⟨.int (g i j),H,I.tok _,⟨_,rfl⟩,q⟩
theorem FZ {f:Value->Value->Sem Value}{g:Int->Int->Int}
  (rule:∀(i j:Int)(t u:Tok)(s:Shared)(Q:Value->Shared->Prop)(E:Value->Shared->Prop),Q (.int (g i j) s.toks) { s with toks:=s.toks+1 }->wpAny (model X.prog X.w) X.A (f (.int i t) (.int j u)) Q E s) :
  OpR X f (rI0 λi j=>.int (g i j)):=by
 intro pins s σ H x y v u Q I rx ry h
 obtain ⟨i,j,rfl,rfl,q⟩:=h
 obtain ⟨t,rfl⟩:=rx
 obtain ⟨t',rfl⟩:=ry
 exact rule i j t t' s _ _ ⟨.int (g i j),H,I.tok _,⟨_,rfl⟩,q⟩
theorem GB {f:Value->Value->Sem Value}{g:Int->Int->Bool}
  (rule:∀(i j:Int)(t u:Tok)(s:Shared)(Q:Value->Shared->Prop)(E:Value->Shared->Prop),Q (.bool (g i j)) s->wpAny (model X.prog X.w) X.A (f (.int i t) (.int j u)) Q E s) :
  OpR X f (rI0 λi j=>.bl (g i j)):=by
 intro pins s σ H x y v u Q I rx ry h
 obtain ⟨i,j,rfl,rfl,q⟩:=h
 obtain ⟨t,rfl⟩:=rx
 obtain ⟨t',rfl⟩:=ry
 exact rule i j t t' s _ _ ⟨.bl (g i j),H,I,rfl,q⟩
def He (i j:Int):Prop:=0<j/\j<1073741824
def CPow (i j:Int):Prop:=0<=j/\j<=1000000/\i.natAbs<2 ^ 64
def CMul (i j:Int):Prop:=(-(2 ^ 64)<i/\i<2 ^ 64)\/(-(2 ^ 64)<j/\j<2 ^ 64)
theorem CMul.ok {i j:Int}(h:CMul i j):IntMulOk i j:=by
 rcases h with ⟨h1,h2⟩|⟨h1,h2⟩
 ·exact .of_left (intBits_le_64 h1 h2)
 ·exact .of_right (intBits_le_64 h1 h2)
theorem two_pow_nn (k:Nat):(0:Int)<=2 ^ k:=by
 rw[two_pow_cast]
 exact Int.natCast_nonneg _
theorem DB:OpR X (binaryOp .Add) (rI0 λi j=>.int (i+j)):=FZ λ_ _ _ _ _ _ _ q=>add_int q
theorem DV:OpR X (binaryOp .Sub) (rI0 λi j=>.int (i-j)):=FZ λ_ _ _ _ _ _ _ q=>sub_int q
theorem DY:OpR X (binaryOp .Mult) (rI CMul λi j=>.int (i*j)):=opI λ_ _ _ _ _ _ _ hc q=>mul_int q hc.ok
theorem Em:OpR X (binaryOp .FloorDiv) (rI He λi j=>.int (i/j)):=opI λi j _ _ _ _ _ hc q=>by
 have h1:(0:Int)<j:=hc.1
 have h2:j<1073741824:=hc.2
 exact floordiv_int (by lia) (by rw[Int.fdiv_eq_ediv_of_nonneg i (by lia)];exact q) (.inl (PyProof.noPylong_small (by lia)))
theorem Eg:OpR X (binaryOp .Mod) (rI (λ_ j=>0<j) λi j=>.int (i%j)):=opI λi j _ _ _ _ _ hc q=>by
 have h1:(0:Int)<j:=hc
 exact mod_int' (by lia) (by rw[Int.fmod_eq_emod_of_nonneg i (by lia)];exact q)
theorem Ea:OpR X (binaryOp .RShift) (rI (λ_ j=>0<=j) λi j=>.int (i/2 ^ j.toNat)):=opI λi j _ _ _ _ _ hc q=>
 rshift_int hc (by rw[Int.fdiv_eq_ediv_of_nonneg i (two_pow_nn _)];exact q)
theorem DW:OpR X (binaryOp .BitAnd) (rI0 λi j=>.int (Builtin.bitAnd i j)):=FZ λ_ _ _ _ _ _ _ q=>and_int q
theorem ED:OpR X (binaryOp .BitOr) (rI0 λi j=>.int (Builtin.bitOr i j)):=FZ λ_ _ _ _ _ _ _ q=>or_int q
theorem DC:OpR X (binaryOp .BitXor) (rI0 λi j=>.int (Builtin.bitXor i j)):=FZ λ_ _ _ _ _ _ _ q=>xor_int q
theorem unI {f:Value->Sem Value}{g:Int->Int}
  (rule:∀(i:Int)(t:Tok)(s:Shared)(Q:Value->Shared->Prop)(E:Value->Shared->Prop),Q (.int (g i) s.toks) { s with toks:=s.toks+1 }->wpAny (model X.prog X.w) X.A (f (.int i t)) Q E s) :
  UnR X f (rU λi=>.int (g i)):=by
 intro pins s σ H x v Q I rx h
 obtain ⟨i,rfl,q⟩:=h
 obtain ⟨t,rfl⟩:=rx
 exact rule i t s _ _ ⟨.int (g i),H,I.tok _,⟨_,rfl⟩,q⟩
theorem DT:UnR X (unaryOp .USub) (rU λi=>.int (-i)):=unI λ_ _ _ _ _ q=>neg_int q
end
def G9:V->V->Bool
 |.non,.non=>true|.non,.int _=>true|.int _,.non=>true|.non,.bl _=>true|.bl _,.non=>true|.non,.str _=>true|.str _,.non=>true
 |.int _,.int _=>true|.bl _,.bl _=>true|.str _,.str _=>true|.byt _,.byt _=>true
 |.int _,.str _=>true|.str _,.int _=>true|.bl _,.str _=>true|.str _,.bl _=>true
 |_,_=>false
def rEq:R2:=λx y H Q=>G9 x y=true/\Q (.bl (decide (x=y))) H
def rNe:R2:=λx y H Q=>G9 x y=true/\Q (.bl (!decide (x=y))) H
theorem Gq {i j:Int}:decide (V.int i=V.int j)=(i == j):=by
 rw[Bool.eq_iff_iff]
 simp
theorem GI {i j:Bool}:decide (V.bl i=V.bl j)=(i == j):=by
 rw[Bool.eq_iff_iff]
 simp
theorem Gp {i j:Str}:decide (V.str i=V.str j)=(i == j):=by
 rw[Bool.eq_iff_iff]
 simp
theorem Gr {i j:Array UInt8}:decide (V.byt i=V.byt j)=(i.toList == j.toList):=by
 rw[Bool.eq_iff_iff]
 cases i
 cases j
 simp
section
variable {X:Cx}{a b c:Expr}{ta tb tc:TE}{pos:Pos}
theorem DI {pins:List (Addr×Obj)}{σ:St}{H:Hp}{s:Shared}{Q:VK}{k k':Bool}(I:Inv X pins σ H s)(q:Q (.bl k) H)(e:k=k'):EP X pins σ Q (.bool k') s:=by
 subst e
 exact ⟨.bl k,H,I,rfl,q⟩
theorem D8:OpR X (compareOp .Eq) rEq:=by
 intro pins s σ H x y v u Q I rx ry h
 obtain ⟨hs,q⟩:=h
 cases x with
 |non=>
  cases rx
  cases y with
  |non=>cases ry;exact PySem.EqNone.eq_none_none (DI I q (by simp))
  |bl j=>cases ry;exact PySem.EqNone.eq_none_bool (DI I q (by simp))
  |int j=>obtain ⟨t',rfl⟩:=ry;exact PySem.EqNone.eq_none_int (DI I q (by simp))
  |str j=>obtain ⟨t',rfl⟩:=ry;exact PySem.EqNone.eq_none_str (DI I q (by simp))
  |_=>exact absurd (show false=true from hs) Bool.false_ne_true
 |bl i=>
  cases rx
  cases y with
  |non=>cases ry;exact PySem.EqNone.eq_bool_none (DI I q (by simp))
  |bl j=>cases ry;exact eq_bool (DI I q GI)
  |str j=>obtain ⟨t',rfl⟩:=ry;exact PySem.EqMixed.eq_bool_str (DI I q (by simp))
  |_=>exact absurd (show false=true from hs) Bool.false_ne_true
 |int i=>
  obtain ⟨t,rfl⟩:=rx
  cases y with
  |non=>cases ry;exact PySem.EqNone.eq_int_none (DI I q (by simp))
  |int j=>obtain ⟨t',rfl⟩:=ry;exact eq_int (DI I q Gq)
  |str j=>obtain ⟨t',rfl⟩:=ry;exact PySem.EqMixed.eq_int_str (DI I q (by simp))
  |_=>exact absurd (show false=true from hs) Bool.false_ne_true
 |str i=>
  obtain ⟨t,rfl⟩:=rx
  cases y with
  |non=>cases ry;exact PySem.EqNone.eq_str_none (DI I q (by simp))
  |bl j=>cases ry;exact PySem.EqMixed.eq_str_bool (DI I q (by simp))
  |int j=>obtain ⟨t',rfl⟩:=ry;exact PySem.EqMixed.eq_str_int (DI I q (by simp))
  |str j=>obtain ⟨t',rfl⟩:=ry;exact eq_str (DI I q Gp)
  |_=>exact absurd (show false=true from hs) Bool.false_ne_true
 |byt i=>
  obtain ⟨t,rfl⟩:=rx
  cases y with
  |byt j=>obtain ⟨t',rfl⟩:=ry;exact PySem.W.eq_bytes (DI I q Gr)
  |_=>exact absurd (show false=true from hs) Bool.false_ne_true
 |_=>cases y<;>exact absurd (show false=true from hs) Bool.false_ne_true
theorem GA:OpR X (compareOp .NotEq) rNe:=by
 intro pins s σ H x y v u Q I rx ry h
 obtain ⟨hs,q⟩:=h
 cases x with
 |non=>
  cases rx
  cases y with
  |non=>cases ry;exact PySem.EqNone.ne_none_none (DI I q (by simp))
  |bl j=>cases ry;exact PySem.EqNone.ne_none_bool (DI I q (by simp))
  |int j=>obtain ⟨t',rfl⟩:=ry;exact PySem.EqNone.ne_none_int (DI I q (by simp))
  |str j=>obtain ⟨t',rfl⟩:=ry;exact PySem.EqNone.ne_none_str (DI I q (by simp))
  |_=>exact absurd (show false=true from hs) Bool.false_ne_true
 |bl i=>
  cases rx
  cases y with
  |non=>cases ry;exact PySem.EqNone.ne_bool_none (DI I q (by simp))
  |bl j=>cases ry;exact ne_bool (DI I q (congrArg not GI))
  |str j=>obtain ⟨t',rfl⟩:=ry;exact PySem.EqMixed.ne_bool_str (DI I q (by simp))
  |_=>exact absurd (show false=true from hs) Bool.false_ne_true
 |int i=>
  obtain ⟨t,rfl⟩:=rx
  cases y with
  |non=>cases ry;exact PySem.EqNone.ne_int_none (DI I q (by simp))
  |int j=>obtain ⟨t',rfl⟩:=ry;exact ne_int (DI I q (congrArg not Gq))
  |str j=>obtain ⟨t',rfl⟩:=ry;exact PySem.EqMixed.ne_int_str (DI I q (by simp))
  |_=>exact absurd (show false=true from hs) Bool.false_ne_true
 |str i=>
  obtain ⟨t,rfl⟩:=rx
  cases y with
  |non=>cases ry;exact PySem.EqNone.ne_str_none (DI I q (by simp))
  |bl j=>cases ry;exact PySem.EqMixed.ne_str_bool (DI I q (by simp))
  |int j=>obtain ⟨t',rfl⟩:=ry;exact PySem.EqMixed.ne_str_int (DI I q (by simp))
  |str j=>obtain ⟨t',rfl⟩:=ry;exact ne_str (DI I q (congrArg not Gp))
  |_=>exact absurd (show false=true from hs) Bool.false_ne_true
 |byt i=>
  obtain ⟨t,rfl⟩:=rx
  cases y with
  |byt j=>obtain ⟨t',rfl⟩:=ry;exact PySem.W.ne_bytes (DI I q (congrArg not Gr))
  |_=>exact absurd (show false=true from hs) Bool.false_ne_true
 |_=>cases y<;>exact absurd (show false=true from hs) Bool.false_ne_true
theorem Fj:OpR X (compareOp .Lt) (rI0 λi j=>.bl (decide (i<j))):=GB λ_ _ _ _ _ _ _ q=>lt_int q
theorem Fk:OpR X (compareOp .LtE) (rI0 λi j=>.bl (decide (i<=j))):=GB λ_ _ _ _ _ _ _ q=>le_int q
theorem E8:OpR X (compareOp .Gt) (rI0 λi j=>.bl (decide (j<i))):=GB λ_ _ _ _ _ _ _ q=>gt_int q
theorem Fl:OpR X (compareOp .GtE) (rI0 λi j=>.bl (decide (j<=i))):=GB λ_ _ _ _ _ _ _ q=>ge_int q
theorem Ez:OpR X (compareOp .Is) (λx y H Q=>y=.non/\Q (.bl (decide (x=.non))) H):=by
 intro pins s σ H x y v u Q I rx ry h
 obtain ⟨rfl,q⟩:=h
 cases ry
 refine is_none_gen (DI I q ?_)
 cases x<;>first
  |(cases rx;rfl)
  |(obtain ⟨t,rfl⟩:=rx;rfl)
theorem E7:OpR X (compareOp .IsNot) (λx y H Q=>y=.non/\Q (.bl (!decide (x=.non))) H):=by
 intro pins s σ H x y v u Q I rx ry h
 obtain ⟨rfl,q⟩:=h
 cases ry
 refine isnot_none_gen (DI I q ?_)
 cases x<;>first
  |(cases rx;rfl)
  |(obtain ⟨t,rfl⟩:=rx;rfl)
theorem Dv (b:Expr){op:CmpOp}(h:op≠.In:=by decide)(h2:op≠.NotIn:=by decide):behindInMarks op b=false:=by
 have e1:(op == CmpOp.In)=false:=by cases op<;>first|rfl|exact absurd rfl h
 have e2:(op == CmpOp.NotIn)=false:=by cases op<;>first|rfl|exact absurd rfl h2
 cases b<;>simp[behindInMarks,e1,e2]
theorem Gi {op:CmpOp}{r:R2}(ho:OpR X (compareOp op) r)(ha:PE X a ta)(hb:PE X b tb)(hm:behindInMarks op b=false):PE X (.Compare a [op] [b] pos) (tOp r ta tb):=by
 intro pins s σ H Q I h
 exact wpAny_Compare1 (GR ha hb I h λv u s2 x y H2 I2 rx ry q=>ho pins s2 σ H2 x y v u Q I2 rx ry q) hm
def Gu (t:TE):TT:=λσ H Q=>t σ H λx H'=>∃k,x=.bl k/\Q k H'
theorem Dt {op:CmpOp}{r:R2}(ho:OpR X (compareOp op) r)(ha:PE X a ta)(hb:PE X b tb)(hm:behindInMarks op b=false):PT X (.Compare a [op] [b] pos) (Gu (tOp r ta tb)):=by
 intro pins s σ H Q I h
 refine wpAny_isTrue_Compare1 (thn (ha pins s σ H _ I h) λv s1 ⟨x,H1,I1,r1,q1⟩=>thn (hb pins s1 σ H1 _ I1 q1) λu s2 ⟨y,H2,I2,r2,q2⟩=>
  thn (ho pins s2 σ H2 x y v u _ I2 r1 r2 q2) λc s3 ⟨z,H3,I3,r3,k,e,q3⟩=>?_) hm
 subst e
 cases r3
 exact wpAny_truthy_bool ⟨H3,I3,q3⟩
def FR (r r':R2)(ta tb tc:TE):TE:=λσ H Q=>ta σ H λx H1=>tb σ H1 λy H2=>r x y H2 λz H3=>∃k,z=.bl k/\
 (if k=true then tc σ H3 λw' H4=>r' y w' H4 Q else Q (.bl false) H3)
theorem FY {op op':CmpOp}{r r':R2}(ho:OpR X (compareOp op) r)(ho':OpR X (compareOp op') r')(ha:PE X a ta)(hb:PE X b tb)(hc:PE X c tc)
  (hm:lastMarks [op,op'] [b,c]=false:=by with_unfolding_all rfl):PE X (.Compare a [op,op'] [b,c] pos) (FR r r' ta tb tc):=by
 intro pins s σ H Q I h
 refine Compare_chain (thn (ha pins s σ H _ I h) λv s1 ⟨x,H1,I1,r1,q1⟩=>chain_link (thn (hb pins s1 σ H1 _ I1 q1) λu s2 ⟨y,H2,I2,r2,q2⟩=>
  thn (ho pins s2 σ H2 x y v u _ I2 r1 r2 q2) λd s3 ⟨z,H3,I3,r3,k,e,q3⟩=>?_)) hm
 subst e
 cases r3
 refine wpAny_truthy_bool ?_
 cases k with
 |false=>exact ite_ff ⟨.bl false,H3,I3,rfl,q3⟩
 |true=>exact ite_tt (chain_last (thn (hc pins s3 σ H3 _ I3 q3) λw' s4 ⟨z',H4,I4,r4,q4⟩=>ho' pins s4 σ H4 y z' u w' Q I4 r2 r4 q4))
theorem pt_chain {op op':CmpOp}{r r':R2}(ho:OpR X (compareOp op) r)(ho':OpR X (compareOp op') r')(ha:PE X a ta)(hb:PE X b tb)(hc:PE X c tc)
  (hm:lastMarks [op,op'] [b,c]=false:=by with_unfolding_all rfl):PT X (.Compare a [op,op'] [b,c] pos) (Gu (FR r r' ta tb tc)):=by
 intro pins s σ H Q I h
 refine isTrue_chain (thn (ha pins s σ H _ I h) λv s1 ⟨x,H1,I1,r1,q1⟩=>test_link (thn (hb pins s1 σ H1 _ I1 q1) λu s2 ⟨y,H2,I2,r2,q2⟩=>
  thn (ho pins s2 σ H2 x y v u _ I2 r1 r2 q2) λd s3 ⟨z,H3,I3,r3,k,e,q3⟩=>?_)) hm
 subst e
 cases r3
 refine wpAny_truthy_bool ?_
 cases k with
 |false=>
  obtain ⟨k',e',q'⟩:=q3
  cases e'
  exact ite_ff ⟨H3,I3,q'⟩
 |true=>
  refine ite_tt (test_last (thn (hc pins s3 σ H3 _ I3 q3) λw' s4 ⟨z',H4,I4,r4,q4⟩=>thn (ho' pins s4 σ H4 y z' u w' _ I4 r2 r4 q4) λd' s5 ⟨z2,H5,I5,r5,k2,e2,q5⟩=>?_))
  subst e2
  cases r5
  exact wpAny_truthy_bool ⟨H5,I5,q5⟩
def Ge (K:Frag)(x:V)(H:Hp)(k:Bool):Prop:=
 match x with
 |.non=>k=false
 |.bl b=>k=b
 |.int i=>k=(i != 0)
 |.str y=>y.length<=sizeLine/\k=((y.length:Int) != 0)
 |.byt y=>y.size<=sizeLine/\k=((y.size:Int) != 0)
 |.ref p=>(∃xs,SqL K H p xs/\k = !xs.isEmpty)\/(∃xs,SqT K H p xs/\k = !xs.isEmpty)\/∃kvs,H p=some (.dK kvs)/\k = !kvs.isEmpty
 |_=>False
theorem isEmpty_kv {κ:Type}{kvs:List (κ×V)}{vs:List (κ×Value)}(r:KV kvs vs):(!vs.isEmpty) = !kvs.isEmpty:=by
 cases r<;>rfl
theorem Fn {xs:List V}{its:List Value}(r:Vals xs its):(!its.toArray.isEmpty) = !xs.isEmpty:=by
 cases r<;>simp
theorem EY:(sizeLine:Nat)<2 ^ 63:=by rw[sizeLine_eq];decide
theorem tru_ok:TruR X (λx H Q=>∃k,Ge X.K x H k/\Q k H):=by
 intro pins s σ H x v Q I rx h
 obtain ⟨k,e,q⟩:=h
 have hl:=EY
 have hs:sizeLine=16777216:=sizeLine_eq
 cases x with
 |non=>
  cases rx
  have e':k=false:=e
  subst e'
  exact truthy_none ⟨H,I,q⟩
 |bl b=>
  cases rx
  have e':k=b:=e
  subst e'
  exact wpAny_truthy_bool ⟨H,I,q⟩
 |int i=>
  obtain ⟨t,rfl⟩:=rx
  have e':k=(i != 0):=e
  subst e'
  exact PySem.P.truthy_int ⟨H,I,q⟩
 |str y=>
  obtain ⟨t,rfl⟩:=rx
  obtain ⟨hy,e'⟩:y.length<=sizeLine/\k=((y.length:Int) != 0):=e
  subst e'
  exact PySem.P.truthy_str (by lia) ⟨H,I.tok _,q⟩
 |byt y=>
  obtain ⟨t,rfl⟩:=rx
  obtain ⟨hy,e'⟩:y.size<=sizeLine/\k=((y.size:Int) != 0):=e
  subst e'
  exact PySem.W.truthy_bytes (by lia) ⟨H,I.tok _,q⟩
 |ref p=>
  cases rx
  have e':(∃xs,SqL X.K H p xs/\k = !xs.isEmpty)\/(∃xs,SqT X.K H p xs/\k = !xs.isEmpty)\/∃kvs,H p=some (.dK kvs)/\k = !kvs.isEmpty:=e
  rcases e' with ⟨xs,hx,e'⟩|⟨xs,hx,e'⟩|⟨kvs,hx,e'⟩
  ·subst e'
   obtain ⟨its,r,pl,hz⟩:=I.list hx
   have hlen:=r.length
   exact wpAny_truthy_list pl.isList (by simp only[List.size_toArray];lia) ⟨H,I.tok _,by rw[Fn r];exact q⟩
  ·subst e'
   obtain ⟨its,r,pl,hz⟩:=I.tuple hx
   have hlen:=r.length
   exact truthy_tuple pl (by simp only[List.size_toArray];lia) ⟨H,I.tok _,by rw[Fn r];exact q⟩
  ·subst e'
   obtain ⟨hz,hS,vs,r,m⟩:kvs.length<=sizeLine/\(p == sysModules)=false/\∃vs,KV kvs vs/\s.heap.DictOf (Fy X.prog X.w) p vs:=I.hok p _ hx
   have hlen:kvs.length=vs.length:=Paired.length r
   exact wpAny_truthy_dict hS m (by lia) ⟨H,I.tok _,by rw[isEmpty_kv r];exact q⟩
 |_=>exact (show False from e).elim
theorem pt_truth (ha:PE X a ta)(he:∀whole,isTrue a X.env whole=(do let v <- whole;standAt a.pos;holding [v] (truthy v))) :
  PT X a (λσ H Q=>ta σ H λx H'=>∃k,Ge X.K x H' k/\Q k H'):=by
 intro pins s σ H Q I h
 exact isTrue_plain (thn (ha pins s σ H _ I h) λv s1 ⟨x,H1,I1,r1,q1⟩=>tru_ok pins s1 σ H1 x v Q I1 r1 q1) (he _)
theorem vals1 {x:V}{us:List Value}(r:Vals [x] us):∃u,us=[u]/\RelV x u:=by
 cases r with
 |cons r1 r2=>cases r2;exact ⟨_,rfl,r1⟩
end
open PySem PySem.Spec PyProof.Rows
structure ObjM (h:Heap)(x dx C:Addr)(mA:Str->Option Value):Prop where
 obj:h.get? x=some (PySem.W.instObj C dx)
 ns:h.Ns1 dx mA
 ne:dx≠x
theorem lookIn_ns {h:Heap}{dx:Addr}{mA:Str->Option Value}(n:h.Ns1 dx mA):∃od,h.get? dx=some od/\∀name,PySem.W.lookIn name od=some (mA name):=by
 obtain ⟨o,es,ep,ho,hd,hk,_,hm⟩:=n
 refine ⟨o,ho,λname=>?_⟩
 have e:=hm name
 unfold nsFind findBy at e
 rw[<- Array.find?_toList] at e
 unfold PySem.W.lookIn
 rw[hd]
 dsimp only
 split
 ·rename_i y q
  rw[q] at e
  exact congrArg some e
 ·rename_i q
  rw[q] at e
  have a:es.toList.any (·.refKey)=false:=by
   rw[List.any_eq_false]
   intro y hy
   obtain ⟨z,t,hkey⟩:=hk y (Array.mem_toList_iff.mp hy)
   simp[DictEntry.refKey,hkey]
  have a':¬ es.toList.any (·.refKey)=true:=by rw[a];exact Bool.false_ne_true
  rw[if_neg a']
  exact congrArg some e
theorem ObjM.look {h:Heap}{x dx C:Addr}{mA:Str->Option Value}(I:ObjM h x dx C mA):∃od,PySem.W.InstAt h x (PySem.W.instObj C dx) C (some od)/\∀name,PySem.W.lookIn name od=some (mA name):=
 let ⟨od,ho,hl⟩:=lookIn_ns I.ns
 ⟨od,⟨I.obj,rfl,rfl,ho⟩,hl⟩
section
variable {prog:Program}{w:World}{A:Around}{E:Value->Shared->Prop}{s:Shared}{K:Frag}{x dx C f:Addr}{mA:Str->Option Value}{name:Str}{v:Value}
theorem get_map {expr:Bool}{Q:Value->Shared->Prop}(X:K.In s.heap)(I:ObjM s.heap x dx C mA)(hg:PySem.W.plainGet K C name=true)(hh:PySem.W.hasDictIn K C=true)
  (ha:PySem.W.findIn K (.ref C) name=some none) (hv:mA name=some v) (hv':PySem.W.handedIn v=true) (h:Q v { s with toks:=s.toks+1 }) :
  wpAny (model prog w) A (getAttr (.ref x) name expr) Q E s:=by
 obtain ⟨od,J,hl⟩:=I.look
 exact PySem.W.get_value X J (PySem.W.plainGet_of hg).1 (PySem.W.findObj_own hh ha rfl (by rw[hl,hv])) hv' h
theorem get_meth {pl:Sem Bool}{Q:Value×List Value->Shared->Prop}(X:K.In s.heap)(I:ObjM s.heap x dx C mA)(hg:PySem.W.plainGet K C name=true)
  (hf:PySem.W.findIn K (.ref C) name=some (some (.ref f))) (ht:PySem.W.isFn K (.ref f)=true) (hv:mA name=none) (h:Q (.ref f,[.ref x]) s) :
  wpAny (model prog w) A (getMethod (.ref x) name pl) Q E s:=by
 obtain ⟨od,J,hl⟩:=I.look
 exact PySem.W.method_fn X J (PySem.W.plainGet_of hg).1 (PySem.W.plainGet_of hg).2 hf (beq_iff_eq.mp ht) (by show (PySem.W.lookIn name od).map (·.isSome)=some false;rw[hl,hv];rfl) h
theorem set_map {ns:List Str}{Q:Unit->Shared->Prop}(X:K.In s.heap)(I:ObjM s.heap x dx C mA)
  (hs:PySem.W.findIn K (.ref C) "__setattr__" = some (some (.builtin "object.__setattr__"))) (hp:PySem.W.plainOver K C=true) (ht:PySem.W.takerIn K C name=some none) (hh:PySem.W.hasDictIn K C=true)
  (hw:PySem.Within mA ns) (hsz:ns.length<=sizeLine)
  (h:∀h',ObjM h' x dx C (λy=>if y=name then some v else mA y)->Heap.SameBut dx s.heap h'->Q () { s with heap:=h',toks:=s.toks+2 }) :
  wpAny (model prog w) A (setAttr (.ref x) name v) Q E s:=by
 obtain ⟨od,J,hl⟩:=I.look
 refine PySem.W.set_plain X J hs (PySem.W.osa_open (s:={ s with toks:=s.toks+1 }) (r:=none) X J hp ht λb=>?_)
 obtain ⟨cd,hc,hd'⟩:=PySem.W.any_some hh
 have hx:s.heap.get? x=some ⟨.ref C,some dx,.plain,#[]⟩:=I.obj
 refine wpAny_bind (wpAny_pure (wpAny_bind (wpAny_bind (wpAny_loadPart hx (wpAny_bind (PySem.W.Looks.here (s:={ s with toks:=s.toks+1 }) (PySem.W.looks_clsIn X hc) ?_))))))
 rw[hd']
 refine wpAny_pure (a:=some dx) (wpAny_bind (wpAny_pure (wpAny_bind ?_)))
 refine wpAny_nsSet1 (s:={ s with toks:=s.toks+1 }) I.ns λh' hn2 hs2=>?_
 obtain ⟨oD,esD,epD,hoD,hdD,hcD⟩:=hn2.count (PySem.Within.cons name v hw)
 refine wpAny_bind (wpAny_lookBehind hoD (by rw[hdD];exact pastItsLine_dict (Nat.le_trans hcD (by rw[List.length_cons];lia))) ?_)
 exact wpAny_pure (h _ ⟨(hs2.2 _ (Ne.symm I.ne)).trans I.obj,hn2,I.ne⟩ hs2)
theorem make_map {R:Result->Shared->Prop}{vs:List Value}{kw:List (Str×Value)}(X:K.In s.heap)(hm:PySem.W.makesIn K C=true)
  (hi:PySem.W.findIn K (.ref C) "__init__" = some (some (.ref f))) (hf:PySem.W.typeIn K (.ref f)=some (.type "function"))
  (h:codeAny (model prog w) (A.under (.builtin "type.__call__" ⟨.ref C :: vs,kw⟩)) (.call (.ref f) ⟨.ref (s.heap.objs.size+1) :: vs,kw⟩) (PySem.W.InitBack (s.heap.objs.size+1) R)
   { s with heap:=(s.heap.push PySem.W.emptyDict).push (PySem.W.instObj C s.heap.objs.size) }) :
  codeAny (model prog w) A (.call (.ref C) ⟨vs,kw⟩) R s:=by
 obtain ⟨hh,g,d,t,os⟩:=s
 exact PySem.W.make_core (PySem.W.makes_of X hm) (PySem.W.looks_findIn X hi) (λself=>PySem.W.bind_fn X self hf) (.inl rfl) h
end
def DU (f:Str)(v:V):List (Str×V)->List (Str×V)
 |[]=>[(f,v)]
 |(g,x) :: r=>if g=f then (g,v) :: r else (g,x) :: DU f v r
theorem Fb (f g:Str)(v:V):∀fs:List (Str×V),(DU f v fs).lookup g=if g=f then some v else fs.lookup g
 |[]=>by
  show List.lookup g [(f,v)]=_
  by_cases h:g=f
  ·have hb:(g == f)=true:=beq_iff_eq.mpr h
   simp only[List.lookup,hb,if_pos h]
  ·have hb:(g == f)=false:=beq_eq_false_iff_ne.mpr h
   simp only[List.lookup,hb,if_neg h]
 |(k,x) :: r=>by
  have ih:=Fb f g v r
  rw[show DU f v ((k,x) :: r)=(if k=f then (k,v) :: r else (k,x) :: DU f v r) from rfl]
  by_cases hk:k=f
  ·rw[if_pos hk]
   by_cases h:g=k
   ·have hb:(g == k)=true:=beq_iff_eq.mpr h
    simp only[List.lookup,hb,if_pos (h.trans hk)]
   ·have hb:(g == k)=false:=beq_eq_false_iff_ne.mpr h
    simp only[List.lookup,hb,if_neg (λe:g=f=>h (e.trans hk.symm))]
  ·rw[if_neg hk]
   by_cases h:g=k
   ·have hb:(g == k)=true:=beq_iff_eq.mpr h
    simp only[List.lookup,hb,if_neg (λe:g=f=>hk (h.symm.trans e))]
   ·have hb:(g == k)=false:=beq_eq_false_iff_ne.mpr h
    simp only[List.lookup,hb]
    exact ih
theorem EZ (f:Str)(v:V):∀fs:List (Str×V),f∈(DU f v fs).map (·.1)/\∀g,g∈fs.map (·.1)->g∈(DU f v fs).map (·.1)
 |[]=>⟨by simp[DU],λg h=>by simp at h⟩
 |(k,x) :: r=>by
  obtain ⟨i1,i2⟩:=EZ f v r
  rw[show DU f v ((k,x) :: r)=(if k=f then (k,v) :: r else (k,x) :: DU f v r) from rfl]
  by_cases hk:k=f
  ·rw[if_pos hk]
   subst hk
   exact ⟨by simp,λg h=>by simpa using h⟩
  ·rw[if_neg hk]
   refine ⟨?_,λg h=>?_⟩
   ·rw[List.map_cons]
    exact List.mem_cons_of_mem _ i1
   ·rw[List.map_cons] at h ⊢
    rcases List.mem_cons.mp h with e|e
    ·exact List.mem_cons.mpr (.inl e)
    ·exact List.mem_cons_of_mem _ (i2 g e)
theorem Fc (f:Str)(v:V):∀fs:List (Str×V),(DU f v fs).length<=fs.length+1
 |[]=>by simp[DU]
 |(k,x) :: r=>by
  have ih:=Fc f v r
  rw[show DU f v ((k,x) :: r)=(if k=f then (k,v) :: r else (k,x) :: DU f v r) from rfl]
  by_cases hk:k=f
  ·rw[if_pos hk,List.length_cons,List.length_cons];lia
  ·rw[if_neg hk,List.length_cons,List.length_cons];lia
theorem RelO.some_of {v:V}{o:Option Value}(r:RelO (some v) o):∃u,o=some u/\RelV v u:=by
 cases o with
 |none=>exact (show False from r).elim
 |some u=>exact ⟨u,rfl,r⟩
theorem RelO.none_of {o:Option Value}(r:RelO none o):o=none:=by
 cases o with
 |none=>rfl
 |some u=>exact (show False from r).elim
theorem handed_of {v:V}{u:Value}(r:RelV v u):PySem.W.handedIn u=true:=by
 cases v with
 |non=>cases (show u=Value.none from r);rfl
 |bl b=>cases (show u=Value.bool b from r);rfl
 |int i=>obtain ⟨t,e⟩:=(show ∃t,u=Value.int i t from r);cases e;rfl
 |str x=>obtain ⟨t,e⟩:=(show ∃t,u=Value.str x t from r);cases e;rfl
 |byt b=>obtain ⟨t,e⟩:=(show ∃t,u=Value.bytes b t from r);cases e;rfl
 |flt b=>obtain ⟨t,e⟩:=(show ∃t,u=Value.float b t from r);cases e;rfl
 |ref a=>cases (show u=Value.ref a from r);rfl
 |ty n=>cases (show u=Value.type n from r);rfl
section
variable {P:Program}{w:World}{H H':Hp}{h h':Heap}{a C dx:Addr}{fs fs':List (Str×V)}
theorem FB (hok:HOk P w H h)(e:H a=some (.ins C dx fs)):∃mA,ObjM h a dx C mA/\(∀f,RelO (fs.lookup f) (mA f))/\PySem.Within mA (fs.map (·.1))/\fs.length<=1000/\H dx=some (.own a):=by
 obtain ⟨d,z,ne,ob,mA,n,r,q⟩:=(show ObjOk P w H h a (.ins C dx fs) from hok a _ e)
 exact ⟨mA,⟨ob,n,ne⟩,r,q,z,d⟩
end
structure Cls (K:Frag)(C:Addr):Prop where
 pg:PySem.W.plainGet K C Str.empty=true
 hd:PySem.W.hasDictIn K C=true
 po:PySem.W.plainOver K C=true
 sa:PySem.W.findIn K (.ref C) "__setattr__" = some (some (.builtin "object.__setattr__"))
theorem Cls.get {K:Frag}{C:Addr}(c:Cls K C)(f:Str):PySem.W.plainGet K C f=true:=c.pg
def NoAttr (K:Frag)(C:Addr)(f:Str):Prop:=PySem.W.findIn K (.ref C) f=some none
theorem NoAttr.taker {K:Frag}{C:Addr}{f:Str}(n:NoAttr K C f):PySem.W.takerIn K C f=some none:=by
 unfold PySem.W.takerIn
 rw[show PySem.W.findIn K (.ref C) f=some none from n]
 rfl
structure Meth (K:Frag)(C:Addr)(m:Str)(f:Addr):Prop where
 at_:PySem.W.findIn K (.ref C) m=some (some (.ref f))
 fn:PySem.W.isFn K (.ref f)=true
 kp:PySem.W.keepIn K (.ref f)=true
section
variable {X:Cx}{pins:List (Addr×Obj)}{σ:St}{H:Hp}{s:Shared}{a C dx:Addr}{fs:List (Str×V)}{f:Str}{v:V}{A:Around}{E:Value->Shared->Prop}
theorem getattr_ok {b:Bool}{Q:Value->Shared->Prop}(I:Inv X pins σ H s)(e:H a=some (.ins C dx fs))(c:Cls X.K C)(n:NoAttr X.K C f)(l:fs.lookup f=some v)
  (h:∀u s',Inv X pins σ H s'->RelV v u->Q u s'):wpAny (model X.prog X.w) A (getAttr (.ref a) f b) Q E s:=by
 obtain ⟨mA,O,r,_,_,_⟩:=FB I.hok e
 obtain ⟨u,hu,ru⟩:=RelO.some_of (v:=v) (o:=mA f) (by rw[<- l];exact r f)
 exact get_map I.kIn O (c.get f) c.hd n hu (handed_of ru) (h u _ (I.tok _) ru)
theorem Fo {m:Str}{g:Addr}{pl:Sem Bool}{Q:Value×List Value->Shared->Prop}(I:Inv X pins σ H s)(e:H a=some (.ins C dx fs))(c:Cls X.K C)(k:Meth X.K C m g)(l:fs.lookup m=none)
  (h:Q (.ref g,[.ref a]) s):wpAny (model X.prog X.w) A (getMethod (.ref a) m pl) Q E s:=by
 obtain ⟨mA,O,r,_,_,_⟩:=FB I.hok e
 have hn:mA m=none:=RelO.none_of (by rw[<- l];exact r m)
 exact get_meth I.kIn O (c.get m) k.at_ k.fn hn h
theorem setattr_ok {y:V}{u:Value}{Q:Unit->Shared->Prop}(I:Inv X pins σ H s)(e:H a=some (.ins C dx fs))(c:Cls X.K C)(n:NoAttr X.K C f)(hl:fs.length<1000)(ry:RelV y u)
  (h:∀s',Inv X pins σ (upd H a (.ins C dx (DU f y fs))) s'->Q () s'):wpAny (model X.prog X.w) A (setAttr (.ref a) f u) Q E s:=by
 obtain ⟨mA,O,r,wi,_,ho⟩:=FB I.hok e
 have hz:(fs.map (·.1)).length<=sizeLine:=by rw[List.length_map,sizeLine_eq];lia
 refine set_map I.kIn O c.sa c.po n.taker c.hd wi hz λh' O' sb=>h _ ?_
 have hd:∃o,h'.get? dx=some o:=let ⟨o,_,_,e',_⟩:=O'.ns;⟨o,e'⟩
 refine I.write (x:=a) (e:=dx) (by rw[e];exact True.intro) (.inr ho) (λb q hb z=>(sb.2 b hb).trans z) hd ?_
 refine ⟨by rw[Dz O.ne];exact ho,?_,O.ne,O'.obj,_,O'.ns,λg=>?_,λg hg=>?_⟩
 ·have:=Fc f y fs;lia
 ·show RelO ((DU f y fs).lookup g) (if g=f then some u else mA g)
  rw[Fb]
  by_cases q:g=f
  ·rw[if_pos q,if_pos q];exact ry
  ·rw[if_neg q,if_neg q];exact r g
 ·by_cases q:g=f
  ·rw[q];exact (EZ f y fs).1
  ·refine (EZ f y fs).2 g (wi g λz=>hg ?_)
   show (if g=f then some u else mA g)=none
   rw[if_neg q];exact z
theorem Inv.made (I:Inv X pins σ H s):Inv X pins σ (upd (upd H s.heap.objs.size (.own (s.heap.objs.size+1))) (s.heap.objs.size+1) (.ins C s.heap.objs.size []))
  { s with heap:=(s.heap.push PySem.W.emptyDict).push (PySem.W.instObj C s.heap.objs.size) }:=by
 have e1:(s.heap.push PySem.W.emptyDict).get? s.heap.objs.size=some PySem.W.emptyDict:=Heap.get?_push_size s.heap rfl
 have e2:((s.heap.push PySem.W.emptyDict).push (PySem.W.instObj C s.heap.objs.size)).get? (s.heap.objs.size+1)=some (PySem.W.instObj C s.heap.objs.size):=by
  have:=Heap.get?_push_size (s.heap.push PySem.W.emptyDict) (o:=PySem.W.instObj C s.heap.objs.size) rfl
  rwa [Heap.size_push] at this
 have e3:(s.heap.push PySem.W.emptyDict).Ns s.heap.objs.size (λ_=>none):=⟨PySem.W.emptyDict,#[],_,e1,rfl,(λe he=>absurd he (by simp)),λ_=>rfl⟩
 have I1:=I.laid (a:=s.heap.objs.size) (o:=.own (s.heap.objs.size+1)) (h':=s.heap.push PySem.W.emptyDict) (t':=s.toks) (λb u q=>Heap.get?_push_of_some _ q) (Nat.le_refl _) ⟨_,e1⟩
 refine I1.laid (a:=s.heap.objs.size+1) (o:=.ins C s.heap.objs.size []) (t':=s.toks) (λb u q=>Heap.get?_push_of_some _ q) (Nat.le_of_eq (Heap.size_push _ _)) ?_
 have ne:s.heap.objs.size≠s.heap.objs.size+1:=Nat.ne_of_lt (Nat.lt_succ_self _)
 refine ⟨by rw[Dz ne,DS],Nat.zero_le _,ne,e2,λ_=>none,(Heap.Ns1.of_empty e3).at λo q=>Heap.get?_push_of_some _ q,λ_=>True.intro,λy hy=>absurd rfl hy⟩
theorem attr_of {prog:Program}{w:World}{env:Env}{e:Expr}{f:Str}{pos:Pos}{s:Shared}{Q:Value->Shared->Prop}(hb:attributeBase e f env (eval e env)=eval e env)
  (h:wpAny (model prog w) A (eval e env) (λo s₁=>wpAny (model prog w) A (getAttr o f true) Q E s₁) E s):wpAny (model prog w) A (eval (.Attribute e f pos) env) Q E s:=
 Attribute_any_ h (by rw[arm_eval_Attribute,hb])
end
def GK (K:Frag)(ta:TE)(f:Str):TE:=λσ H Q=>ta σ H λx H1=>∃a C dx fs v,x=.ref a/\H1 a=some (.ins C dx fs)/\Cls K C/\NoAttr K C f/\fs.lookup f=some v/\Q v H1
def Ha (K:Frag)(ta tv:TE)(f:Str):TS:=λD σ H=>tv σ H λy H1=>ta σ H1 λx H2=>∃a C dx fs,x=.ref a/\H2 a=some (.ins C dx fs)/\Cls K C/\NoAttr K C f/\fs.length<1000/\
 D.nx σ (upd H2 a (.ins C dx (DU f y fs)))
section
variable {X:Cx}{o e value:Expr}{f:Str}{pos pos' tpos:Pos}{ta tv:TE}
theorem Ds (he:PE X e ta)(hb:attributeBase e f X.env (eval e X.env)=eval e X.env):PE X (.Attribute e f pos) (GK X.K ta f):=by
 intro pins s σ H Q I h
 refine attr_of hb (thn (he pins s σ H _ I h) λu s1 ⟨x,H1,I1,rx,a,C,dx,fs,v,ex,ea,c,n,l,q⟩=>?_)
 subst ex
 obtain rfl:u=Value.ref a:=rx
 exact getattr_ok I1 ea c n l λu' s2 I2 ru=>⟨v,H1,I2,ru,q⟩
theorem DL (ha:PE X o ta)(hv:PE X value tv)(hs:swapsWith value (some (.Attribute o f pos')) pos.line X.env=pure false):PS X (.Assign [.Attribute o f pos'] value pos) (Ha X.K ta tv f):=by
 intro pins s σ H D I h
 refine plainObj_wpAny_Assign_Attribute (thn (hv pins s σ H _ I h) λu s1 ⟨y,H1,I1,ry,q⟩=>thn (ha pins s1 σ H1 _ I1 q) λov s2 ⟨x,H2,I2,rx,a,C,dx,fs,ex,ea,c,n,l,q2⟩=>?_) hs
 subst ex
 obtain rfl:ov=Value.ref a:=rx
 exact setattr_ok I2 ea c n l ry λs3 I3=>⟨σ,_,I3,q2⟩
end
open PySem PySem.Spec PyProof.Rows
structure Room (k:Nat)(A:Around):Prop where
 hd:A.handled=none
 dp:A.depth+3*k+5<recursionLimit
 un:A.units+16*k+200<cLine
theorem Room.mono {j k:Nat}{A:Around}(r:Room k A)(h:j<=k):Room j A:=⟨r.hd,by have:=r.dp;lia,by have:=r.un;lia⟩
theorem Room.deeper {k:Nat}{A:Around}(r:Room (k+1) A)(env:Env):Room k (A.deeper env):=
 ⟨r.hd,by have:=r.dp;show A.depth+1+3*k+5<_;lia,by have:=r.un;show A.units+3+16*k+200<_;lia⟩
theorem Room.in1 {k:Nat}{A:Around}(r:Room (k+1) A):Room k A.in1:=
 ⟨r.hd,by have:=r.dp;show A.depth+3*k+5<_;lia,by have:=r.un;show A.units+1+16*k+200<_;lia⟩
theorem make_depth {A:Around}{C:Addr}{us:List Value}{kw:List (Str×Value)}:(A.under (.builtin "type.__call__" ⟨.ref C :: us,kw⟩)).depth=A.depth+1:=by
 first|rfl|simp[Around.under,Code.weight,Code.isCreation,Code.isGuard,Code.isCaller,Code.frames,Code.isFrame,guardIds]
theorem make_units {A:Around}{C:Addr}{us:List Value}{kw:List (Str×Value)}:(A.under (.builtin "type.__call__" ⟨.ref C :: us,kw⟩)).units=A.units+1:=by
 first|rfl|simp[Around.under,Code.cUnits,Code.frames,Code.isFrame]
theorem Room.make {k:Nat}{A:Around}(r:Room (k+1) A)(C:Addr)(us:List Value)(kw:List (Str×Value)):Room k (A.under (.builtin "type.__call__" ⟨.ref C :: us,kw⟩)):=
 ⟨r.hd,by have:=r.dp;rw[make_depth];lia,by have:=r.un;rw[make_units];lia⟩
theorem Room.depth {k:Nat}{A:Around}(r:Room k A):A.depth<recursionLimit:=by have:=r.dp;lia
theorem Room.units {k:Nat}{A:Around}(r:Room k A):A.units+64<cLine:=by have:=r.un;lia
def Fv:TA:=λ_ H Q=>Q [] H
def FL (ta:TE)(tr:TA):TA:=λσ H Q=>ta σ H λx H1=>tr σ H1 λxs H2=>Q (x :: xs) H2
section
variable {X:Cx}{e:Expr}{es:List Expr}{te:TE}{t:TA}{pos:Pos}
theorem De:PA X [] Fv:=λ_ _ _ _ H Q I h=>Calls.spliced_nil ⟨[],H,I,.nil,h⟩
theorem Dd (ha:PE X e te)(hr:PA X es t)(hs:starEach (e :: es) X.env=(false,eval e X.env) :: starEach es X.env:=by rfl):PA X (e :: es) (FL te t):=by
 intro pos pins s σ H Q I h
 rw[hs]
 show wpAny _ _ (spliced ((false,eval e X.env) :: backTo pos (starEach es X.env))) _ _ s
 refine Calls.spliced_cons (thn (ha pins s σ H _ I h) λu s1 ⟨x,H1,I1,r1,q1⟩=>?_)
 exact thn (hr pos pins s1 σ H1 _ I1 q1) λus s2 ⟨xs,H2,I2,r2,q2⟩=>⟨x :: xs,H2,I2,.cons r1 r2,q2⟩
def G1 (t:TA):TE:=λσ H Q=>t σ H λxs H1=>xs.length<=sizeLine/\∀p,H1 p=none->Q (.ref p) (upd H1 p (.tup xs))
def G5 (t:TA):TE:=λσ H Q=>t σ H λxs H1=>xs.length<=sizeLine/\∀p,H1 p=none->Q (.ref p) (upd H1 p (.lst xs))
theorem pe_tup {x1}(h:PA X es t):PE X (.Tuple es x1 pos) (G1 t):=by
 intro pins s σ H Q I hq
 refine wpAny_Tuple_spliced (thn (h pos pins s σ H _ I hq) λus s1 ⟨xs,H1,I1,r,z,q⟩=>⟨by rw[<- r.length];exact z,?_⟩)
 have hf:H1 s1.heap.objs.size=none:=I1.hok.fresh (Nat.le_refl _)
 refine ⟨.ref s1.heap.objs.size,upd H1 s1.heap.objs.size (.tup xs),I1.laid (t':=s1.toks) (λb u e=>Heap.get?_push_of_some _ e) (Nat.le_refl _) ?_,rfl,q _ hf⟩
 exact ⟨z,us,r,⟨_,Heap.get?_push_size _ rfl,rfl,_,rfl⟩⟩
theorem DA (h:PA X es t):PE X (.List es pos) (G5 t):=by
 intro pins s σ H Q I hq
 refine wpAny_List_spliced (thn (h pos pins s σ H _ I hq) λus s1 ⟨xs,H1,I1,r,z,q⟩=>⟨by rw[<- r.length];exact z,?_⟩)
 have hf:H1 s1.heap.objs.size=none:=I1.hok.fresh (Nat.le_refl _)
 refine ⟨.ref s1.heap.objs.size,upd H1 s1.heap.objs.size (.lst xs),I1.laid (t':=s1.toks) (λb u e=>Heap.get?_push_of_some _ e) (Nat.le_refl _) ?_,rfl,q _ hf⟩
 exact ⟨z,us,0,r,Heap.get?_push_size _ rfl⟩
end
abbrev Sp:=List V->Hp->VK->XK->Prop
abbrev CXT:=List Env->Hp->Shared->XK->Value->Shared->Prop
structure Env0 (P:Program)(w:World)(K:Frag)(mg:Str->Option Value)(base:Heap)(A:Around)(outer:List Env)(s:Shared)(H:Hp):Prop where
 frames:A.frames=some outer
 mod:Mod K mg base
 bs:∀b o,base.get? b=some o->s.heap.get? b=some o/\H b=none
 bsz:base.objs.size<=s.heap.objs.size
 funs:s.heap.FunFrames base outer
 frf:∀b∈frs outer,H b=none
 hok:HOk P w H s.heap
 bare:AllBare s.gens
def CE (outer:List Env)(P:Program)(w:World)(H:Hp)(s:Shared)(Q:VK)(u:Value)(s':Shared):Prop:=
 ∃v H',s'.os=s.os/\AllBare s'.gens/\Un (frs outer) [] H H' s.heap s'.heap/\HOk P w H' s'.heap/\RelV v u/\Q v H'
def CR (CX:CXT)(outer:List Env)(P:Program)(w:World)(H:Hp)(s:Shared)(Q:VK)(E:XK)(r:Result)(s':Shared):Prop:=
 match r with
 |.ok (.ret u)=>CE outer P w H s Q u s'
 |.ok _=>False
 |.error e=>CX outer H s E e s'
structure FnOk (P:Program)(w:World)(K:Frag)(mg:Str->Option Value)(base:Heap)(CX:CXT)(k:Nat)(f:Addr)(fd:FuncData)(ps:List Str)(sp:Sp):Prop where
 len:∀vs H Q E,sp vs H Q E->vs.length=ps.length
 run:∀(A:Around)(outer:List Env)(s:Shared)(H:Hp)(args:Args)(us:List Value)(vs:List V)(Q:VK)(E:XK),Room k A->Env0 P w K mg base A outer s H->BindsTo s fd args (ps.zip us)->Vals vs us->sp vs H Q E->
  codeAny (model P w) A (.call (.ref f) args) (CR CX outer P w H s Q E) s
theorem FnOk.mono {P:Program}{w:World}{K:Frag}{mg:Str->Option Value}{base:Heap}{CX:CXT}{j k:Nat}{f:Addr}{fd:FuncData}{ps:List Str}{sp:Sp}(F:FnOk P w K mg base CX j f fd ps sp)(h:j<=k) :
  FnOk P w K mg base CX k f fd ps sp:=⟨F.len,λA outer s H args us vs Q E hr=>F.run A outer s H args us vs Q E (hr.mono h)⟩
theorem FnOk.imp {P:Program}{w:World}{K:Frag}{mg:Str->Option Value}{base:Heap}{CX:CXT}{k:Nat}{f:Addr}{fd:FuncData}{ps:List Str}{sp sp':Sp}(F:FnOk P w K mg base CX k f fd ps sp)
  (h:∀vs H Q E,sp' vs H Q E->sp vs H Q E):FnOk P w K mg base CX k f fd ps sp':=
 ⟨λvs H Q E q=>F.len vs H Q E (h _ _ _ _ q),λA outer s H args us vs Q E hr he hb hv hs=>F.run A outer s H args us vs Q E hr he hb hv (h _ _ _ _ hs)⟩
theorem Env0.make {P:Program}{w:World}{K:Frag}{mg:Str->Option Value}{base:Heap}{A:Around}{outer:List Env}{s:Shared}{H:Hp}(e:Env0 P w K mg base A outer s H)(C:Addr)(us:List Value)(kw:List (Str×Value)) :
  Env0 P w K mg base (A.under (.builtin "type.__call__" ⟨.ref C :: us,kw⟩)) outer s H:=⟨by first|exact e.frames|(simpa [Around.under,Code.envs,Code.isFrame,pushEnvs] using e.frames),e.mod,e.bs,e.bsz,e.funs,e.frf,e.hok,e.bare⟩
theorem Env0.in1 {P:Program}{w:World}{K:Frag}{mg:Str->Option Value}{base:Heap}{A:Around}{outer:List Env}{s:Shared}{H:Hp}(e:Env0 P w K mg base A outer s H) :
  Env0 P w K mg base A.in1 outer s H:=⟨e.frames,e.mod,e.bs,e.bsz,e.funs,e.frf,e.hok,e.bare⟩
section
variable {X:Cx}{pins:List (Addr×Obj)}{σ:St}{H:Hp}{s s':Shared}
theorem Inv.env0 (I:Inv X pins σ H s):Env0 X.prog X.w X.K X.mg X.base X.A X.stack s H:=
 ⟨I.ok.frames,I.ok.mod,I.bs,Nat.le_trans I.ok.bsz I.sz,I.stack,I.stkFree,I.hok,I.bare⟩
theorem Inv.after {Q:VK}{u:Value}(I:Inv X pins σ H s)(h:CE X.stack X.prog X.w H s Q u s'):EP X pins σ Q u s':=by
 obtain ⟨v,H',os,bare,un,hok,r,q⟩:=h
 obtain ⟨hh,g,d,t,os'⟩:=s'
 obtain rfl:os'=s.os:=os
 exact ⟨v,H',I.call (h':=hh) (g':=g) (d':=d) (t':=t) (ch:=[]) un hok bare (λb z=>absurd z (by simp)),r,q⟩
end
def Gw (sp:Sp)(dvs:List V)(E:XK)(t:TA):TE:=λσ H Q=>t σ H λvs H1=>sp (vs++dvs) H1 Q E
def E4 (C:Addr)(m:Str)(sp:Sp)(dvs:List V)(E:XK)(ta:TE)(t:TA):TE:=λσ H Q=>ta σ H λx H1=>∃a dx fs,x=.ref a/\H1 a=some (.ins C dx fs)/\fs.lookup m=none/\
 t σ H1 λvs H2=>sp (x :: (vs++dvs)) H2 Q E
def Gv (C:Addr)(sp:Sp)(dvs:List V)(E:XK)(t:TA):TE:=λσ H Q=>t σ H λvs H1=>∀x dx,H1 x=none->H1 dx=none->dx≠x->
 sp (.ref x :: (vs++dvs)) (upd (upd H1 dx (.own x)) x (.ins C dx [])) (λv H2=>v=.non/\Q (.ref x) H2) E
def Binds (K:Frag)(fd:FuncData)(ps:List Str)(ds:List Value):Prop:=
 ∀(s:Shared)(us:List Value),K.In s.heap->(us++ds).length=ps.length->BindsTo s fd ⟨us,[]⟩ (ps.zip (us++ds))
theorem Binds.all {K:Frag}{fd:FuncData}{ps:List Str}(h:∀us:List Value,us.length=ps.length->bindArgs fd ⟨us,[]⟩=pure (ps.zip us)):Binds K fd ps []:=λs us _ hl=>by
 rw[List.append_nil] at hl ⊢
 exact .of_eq (h us hl)
def EB (CX:CXT)(X:Cx)(E:XK):Prop:=∀(pins:List (Addr×Obj))(σ:St)(H:Hp)(s:Shared)(e:Value)(s':Shared),Inv X pins σ H s->CX X.stack H s E e s'->X.xe e s'
section
variable {X:Cx}{CX:CXT}{k:Nat}{f C:Addr}{fd:FuncData}{ps:List Str}{sp:Sp}{dvs:List V}{ds:List Value}{E:XK}{x m:Str}{p pos apos:Pos}{e o:Expr}{es:List Expr}{ta:TE}{t:TA}
theorem FU {pins:List (Addr×Obj)}{σ:St}{H:Hp}{s:Shared}{Q:VK}{us:List Value}{vs:List V}(F:FnOk X.prog X.w X.K X.mg X.base CX k f fd ps sp)(hr:Room k X.A)(hb:Binds X.K fd ps ds)(hd:Vals dvs ds)(hx:EB CX X E)
  (I:Inv X pins σ H s) (r:Vals vs us) (h:sp (vs++dvs) H Q E):wpAny (model X.prog X.w) X.A (call (.ref f) us) (EP X pins σ Q) X.xe s:=by
 have r2:Vals (vs++dvs) (us++ds):=r.append hd
 have hl:(us++ds).length=ps.length:=by rw[<- r2.length];exact F.len _ _ _ _ h
 refine wpAny_call (codeAny_mono (F.run X.A X.stack s H ⟨us,[]⟩ (us++ds) (vs++dvs) Q E hr I.env0 (hb s us I.kIn hl) r2 h) λr s' hq=>?_)
 cases r with
 |error e=>exact hx pins σ H s e s' I hq
 |ok fl=>
  cases fl with
  |ret u=>exact I.after hq
  |next=>exact False.elim hq
  |brk=>exact False.elim hq
  |cont=>exact False.elim hq
theorem pe_call (F:FnOk X.prog X.w X.K X.mg X.base CX k f fd ps sp)(hr:Room k X.A)(hg:Gl X x)(hm:X.mg x=some (.ref f))(hk:PySem.W.keepIn X.K (.ref f)=true)(hb:Binds X.K fd ps ds)(hd:Vals dvs ds)(hx:EB CX X E)
  (ha:PA X (e :: es) t) (hdb:(x == ("__debug__" : Str))=false:=by decide) (he:starEach (e :: es) X.env=(false,eval e X.env) :: starEach es X.env:=by rfl) (hpl:(backTo pos (starEach es X.env)).any (·.1)=false:=by rfl) :
  PE X (.Call (.Name x p) (e :: es) [] pos) (Gw sp dvs E t):=by
 intro pins s σ H Q I h
 refine wpAny_Call_Name_kw (Fz I hg hm ?_ hdb)
 refine PySem.W.callWith_K (h₀:=X.base) I.ok.mod.kin hk (thn (ha pos pins s σ H _ I h) λus s1 ⟨vs,H1,I1,r,q⟩=>⟨I1.kIn,?_⟩) he hpl
 exact FU F hr hb hd hx I1 r q
theorem pe_meth {pl:Sem Bool}(he:PE X o ta)(c:Cls X.K C)(hm:Meth X.K C m f)(F:FnOk X.prog X.w X.K X.mg X.base CX k f fd ps sp)(hr:Room k X.A)(hb:Binds X.K fd ps ds)(hd:Vals dvs ds)(hx:EB CX X E)(ha:PA X (e :: es) t)
  (hst:starEach (e :: es) X.env=(false,eval e X.env) :: starEach es X.env:=by rfl) (hpl:(backTo pos (starEach es X.env)).any (·.1)=false:=by rfl)
  (ht:eval (.Call (.Attribute o m apos) (e :: es) [] pos) X.env=(do
   let ov <- eval o X.env
   standAt apos.atName
   let (f,first) <- holding [ov] (getMethod ov m pl)
   callWith pos f first (backTo pos (starEach (e :: es) X.env)) (backToKw pos (keywordEach [] X.env))):=by rfl) :
  PE X (.Call (.Attribute o m apos) (e :: es) [] pos) (E4 C m sp dvs E ta t):=by
 intro pins s σ H Q I h
 refine PySem.W.methodCall_KW (pl:=pl) (thn (he pins s σ H _ I h) λu s1 ⟨x,H1,I1,rx,a,dx,fs,ex,ea,l,q⟩=>?_) ht
 subst ex
 obtain rfl:u=Value.ref a:=rx
 refine Fo I1 ea c hm l ?_
 refine PySem.W.callWith_K (first:=[.ref a]) (h₀:=X.base) I.ok.mod.kin hm.kp (thn (ha pos pins s1 σ H1 _ I1 q) λus s2 ⟨vs,H2,I2,r,q2⟩=>⟨I2.kIn,?_⟩) hst hpl
 exact FU (us:=.ref a :: us) (vs:=.ref a :: vs) F hr hb hd hx I2 (.cons rfl r) q2
theorem pe_meth0 {pl:Sem Bool}(he:PE X o ta)(c:Cls X.K C)(hm:Meth X.K C m f)(F:FnOk X.prog X.w X.K X.mg X.base CX k f fd ps sp)(hr:Room k X.A)(hb:Binds X.K fd ps ds)(hd:Vals dvs ds)(hx:EB CX X E)
  (ht:eval (.Call (.Attribute o m apos) [] [] pos) X.env=(do
   let ov <- eval o X.env
   standAt apos.atName
   let (f,first) <- holding [ov] (getMethod ov m pl)
   callWith pos f first (backTo pos (starEach [] X.env)) (backToKw pos (keywordEach [] X.env))):=by rfl) :
  PE X (.Call (.Attribute o m apos) [] [] pos) (E4 C m sp dvs E ta Fv):=by
 intro pins s σ H Q I h
 refine PySem.W.methodCall_KW (pl:=pl) (thn (he pins s σ H _ I h) λu s1 ⟨x,H1,I1,rx,a,dx,fs,ex,ea,l,q⟩=>?_) ht
 subst ex
 obtain rfl:u=Value.ref a:=rx
 refine Fo I1 ea c hm l ?_
 exact PySem.W.callWith_K0 (first:=[.ref a]) I1.kIn hm.kp (FU (us:=[.ref a]) (vs:=[.ref a]) F hr hb hd hx I1 (.cons rfl .nil) q)
structure Mk (K:Frag)(C f:Addr):Prop where
 makes:PySem.W.makesIn K C=true
 init:PySem.W.findIn K (.ref C) "__init__" = some (some (.ref f))
 fn:PySem.W.isFn K (.ref f)=true
 kp:PySem.W.keepIn K (.ref C)=true
theorem run_make {pins:List (Addr×Obj)}{σ:St}{H:Hp}{s:Shared}{Q:VK}{us:List Value}{vs:List V}(M:Mk X.K C f)(F:FnOk X.prog X.w X.K X.mg X.base CX k f fd ps sp)(hr:Room (k+1) X.A)(hb:Binds X.K fd ps ds)(hd:Vals dvs ds)
  (hx:EB CX X E) (I:Inv X pins σ H s) (r:Vals vs us)
  (h:∀x dx,H x=none->H dx=none->dx≠x->sp (.ref x :: (vs++dvs)) (upd (upd H dx (.own x)) x (.ins C dx [])) (λv H2=>v=.non/\Q (.ref x) H2) E) :
  wpAny (model X.prog X.w) X.A (call (.ref C) us) (EP X pins σ Q) X.xe s:=by
 have hq:=h (s.heap.objs.size+1) s.heap.objs.size (I.hok.fresh (Nat.le_succ _)) (I.hok.fresh (Nat.le_refl _)) (Nat.ne_of_lt (Nat.lt_succ_self _))
 have I2:=Inv.made (C:=C) I
 have r2:Vals (V.ref (s.heap.objs.size+1) :: (vs++dvs)) (Value.ref (s.heap.objs.size+1) :: (us++ds)):=.cons rfl (r.append hd)
 have hl:(Value.ref (s.heap.objs.size+1) :: us++ds).length=ps.length:=by
  have e:=r2.length
  rw[F.len _ _ _ _ hq] at e
  exact e.symm
 refine wpAny_call (make_map (f:=f) I.kIn M.makes M.init (beq_iff_eq.mp M.fn) (codeAny_mono (F.run _ X.stack _ _ ⟨Value.ref (s.heap.objs.size+1) :: us,[]⟩ (Value.ref (s.heap.objs.size+1) :: (us++ds)) _ _ E (hr.make C us [])
  (I2.env0.make C us []) (hb _ (Value.ref (s.heap.objs.size+1) :: us) I2.kIn hl) r2 hq) λr s' hq'=>?_))
 cases r with
 |error e=>exact hx pins σ _ _ e s' I2 hq'
 |ok fl=>
  cases fl with
  |ret u=>
   obtain ⟨v,H',I3,rv,ev,q3⟩:=I2.after hq'
   subst ev
   exact ⟨rv,⟨V.ref (s.heap.objs.size+1),H',I3,rfl,q3⟩⟩
  |next=>exact False.elim hq'
  |brk=>exact False.elim hq'
  |cont=>exact False.elim hq'
theorem pe_make (M:Mk X.K C f)(F:FnOk X.prog X.w X.K X.mg X.base CX k f fd ps sp)(hr:Room (k+1) X.A)(hg:Gl X x)(hm:X.mg x=some (.ref C))(hb:Binds X.K fd ps ds)(hd:Vals dvs ds)(hx:EB CX X E)
  (ha:PA X (e :: es) t) (hdb:(x == ("__debug__" : Str))=false:=by decide) (he:starEach (e :: es) X.env=(false,eval e X.env) :: starEach es X.env:=by rfl) (hpl:(backTo pos (starEach es X.env)).any (·.1)=false:=by rfl) :
  PE X (.Call (.Name x p) (e :: es) [] pos) (Gv C sp dvs E t):=by
 intro pins s σ H Q I h
 refine wpAny_Call_Name_kw (Fz I hg hm ?_ hdb)
 refine PySem.W.callWith_K (h₀:=X.base) I.ok.mod.kin M.kp (thn (ha pos pins s σ H _ I h) λus s1 ⟨vs,H1,I1,r,q⟩=>⟨I1.kIn,?_⟩) he hpl
 exact run_make M F hr hb hd hx I1 r q
end
def PK (X:Cx)(kws:List Keyword)(t:TA):Prop:=
 ∀(pos:Pos)(pins:List (Addr×Obj))(s:Shared)(σ:St)(H:Hp)(Q:List V->Hp->Prop),Inv X pins σ H s->t σ H Q->wpAny (model X.prog X.w) X.A (evalAll ((backToKw pos (keywordEach kws X.env)).map (·.2))) (AP X pins σ Q) X.xe s
section
variable {X:Cx}{CX:CXT}{k:Nat}{f C:Addr}{fd:FuncData}{ps ks:List Str}{sp:Sp}{E:XK}{x m:Str}{p pos apos kpos:Pos}{e o:Expr}{es:List Expr}{kws:List Keyword}{te ta:TE}{t tk:TA}{nm:Option Str}
theorem pk_nil:PK X [] Fv:=λ_ _ _ _ H Q I h=>wpAny_evalAll_nil ⟨[],H,I,.nil,h⟩
theorem pk_cons (ha:PE X e te)(hr:PK X kws t):PK X (⟨nm,e,kpos⟩ :: kws) (FL te t):=by
 intro pos pins s σ H Q I h
 show wpAny _ _ (evalAll ((do let v <- eval e X.env;standAt pos;pure v) :: (backToKw pos (keywordEach kws X.env)).map (·.2))) _ _ s
 refine wpAny_evalAll_cons (wpAny_bind (thn (ha pins s σ H _ I h) λu s1 ⟨x,H1,I1,r1,q1⟩=>wpAny_bind (wpAny_standAt (wpAny_pure ?_))))
 exact thn (hr pos pins s1 σ H1 _ I1 q1) λus s2 ⟨xs,H2,I2,r2,q2⟩=>⟨x :: xs,H2,I2,.cons r1 r2,q2⟩
variable {g:List Value->List Value->List Value}{gV:List V->List V->List V}
end
structure FnScope (N P:List Str)(sc:Scope):Prop where
 kind:sc.kind=.function
 co:sc.isCoroutine=false
 gen:sc.isGenerator=false
 nd:N.Nodup
 pre:N.take P.length=P
 par:∀x∈P,sc.names.lookup x=some .local\/sc.names.lookup x=some .cell
 nofree:∀y∈sc.names,y.2≠.free
theorem FH {kindOf:Str->Option NameKind}{x:Str}:∀{binds:List (Str×Value)} {m:Str->Option Value},(∀v,(x,v) ∉ binds)->bindL kindOf binds m x=m x
 |[],_,_=>rfl
 |(n,v) :: r,m,h=>by
  unfold bindL
  rw[FH λw hw=>h w (List.mem_cons_of_mem _ hw)]
  split
  ·have:x≠n:=by rintro rfl;exact h v List.mem_cons_self
   simp[this]
  ·rfl
theorem FJ {kindOf:Str->Option NameKind}{x:Str}:∀{binds:List (Str×Value)} {m:Str->Option Value},(∀v,(x,v) ∉ binds)->bindC kindOf binds m x=m x
 |[],_,_=>rfl
 |(n,v) :: r,m,h=>by
  unfold bindC
  rw[FJ λw hw=>h w (List.mem_cons_of_mem _ hw)]
  split
  ·rfl
  ·have:x≠n:=by rintro rfl;exact h v List.mem_cons_self
   simp[this]
theorem FI {kindOf:Str->Option NameKind}{x:Str}{v:Value}:∀{P:List Str} {vs:List Value} {i:Nat} {m:Str->Option Value},P.Nodup->P[i]? = some x->vs[i]? = some v->kindOf x=some .local->
  bindL kindOf (P.zip vs) m x=some v
 |[],_,_,_,_,h,_,_=>by simp at h
 |_ :: _,[],_,_,_,_,h,_=>by simp at h
 |p :: P,w :: vs,0,m,nd,h1,h2,hk=>by
  simp at h1 h2;subst h1;subst h2
  show bindL kindOf ((p,w) :: P.zip vs) m p=_
  unfold bindL
  rw[FH λv hv=>(List.nodup_cons.mp nd).1 (List.of_mem_zip hv).1,if_pos hk]
  simp
 |p :: P,w :: vs,i+1,m,nd,h1,h2,hk=>by
  show bindL kindOf ((p,w) :: P.zip vs) m x=_
  unfold bindL
  exact FI (i:=i) (List.nodup_cons.mp nd).2 (by simpa using h1) (by simpa using h2) hk
theorem FK {kindOf:Str->Option NameKind}{x:Str}{v:Value}:∀{P:List Str} {vs:List Value} {i:Nat} {m:Str->Option Value},P.Nodup->P[i]? = some x->vs[i]? = some v->kindOf x≠some .local->
  bindC kindOf (P.zip vs) m x=some v
 |[],_,_,_,_,h,_,_=>by simp at h
 |_ :: _,[],_,_,_,_,h,_=>by simp at h
 |p :: P,w :: vs,0,m,nd,h1,h2,hk=>by
  simp at h1 h2;subst h1;subst h2
  show bindC kindOf ((p,w) :: P.zip vs) m p=_
  unfold bindC
  rw[FJ λv hv=>(List.nodup_cons.mp nd).1 (List.of_mem_zip hv).1,if_neg hk]
  simp
 |p :: P,w :: vs,i+1,m,nd,h1,h2,hk=>by
  show bindC kindOf ((p,w) :: P.zip vs) m x=_
  unfold bindC
  exact FK (i:=i) (List.nodup_cons.mp nd).2 (by simpa using h1) (by simpa using h2) hk
def start (N:List Str)(vs:List V):St:=vs.map some++List.replicate (N.length-vs.length) none
def Fg (CX:CXT)(P:Program)(w:World)(K:Frag)(mg:Str->Option Value)(base:Heap)(N:List Str)(qual:Str)(scope:Scope)(f:Addr)(cd:Value)(A:Around)(outer:List Env)(s:Shared)(H:Hp)(E:XK):Cx where
 prog:=P
 w:=w
 K:=K
 mg:=mg
 base:=base
 A:=A.deeper (envOfC qual scope s.heap.objs.size f cd)
 N:=N
 s_0:=s
 H_0:=H
 env:=envOfC qual scope s.heap.objs.size f cd
 outer:=outer
 stack:=envOfC qual scope s.heap.objs.size f cd :: outer
 ex:=[]
 calm:=true
 fn:=λ_=>true
 pn:=[]
 xe:=λe s'=>wpAny (model P w) (A.deeper (envOfC qual scope s.heap.objs.size f cd)) (leaving (envOfC qual scope s.heap.objs.size f cd) e) (λ_ s''=>CX outer H s E e s'') (λe' s''=>CX outer H s E e' s'') s'
theorem Gd {sc:Scope}{n:Nat}{x:Str}(h:sc.names.lookup x=some .cell):∃c,(cellsFrom n sc.names []).lookup x=some c:=by
 have q:=PySem.W.cellsFrom_some sc.names n [] (.inl h)
 exact Option.isSome_iff_exists.mp q
theorem inv_start {CX:CXT}{P:Program}{w:World}{K:Frag}{mg:Str->Option Value}{base:Heap}{N ps:List Str}{qual:Str}{scope:Scope}{f:Addr}{cd:Value}{A:Around}{outer:List Env}{s s1:Shared}{H:Hp}{E:XK}{us:List Value}{vs:List V}
  (S:FnScope N ps scope) (hd:A.handled=none) (e0:Env0 P w K mg base A outer s H) (hl:vs.length=ps.length) (r:Vals vs us)
  (x:InCallC s s.heap.objs.size (bindL (envOfC qual scope s.heap.objs.size f cd).kindOf (ps.zip us) λ_=>none) (cellsFrom (s.heap.objs.size+1) scope.names []) (bindC (envOfC qual scope s.heap.objs.size f cd).kindOf (ps.zip us) λ_=>none) s1) :
  Inv (Fg CX P w K mg base N qual scope f cd A outer s H E) [] (start N vs) H s1:=by
 have hpl:ps.length<=N.length:=by have:=congrArg List.length S.pre;rw[List.length_take] at this;lia
 obtain ⟨h1,tk,rfl,hk⟩:=x.done
 have noA:∀b:Addr,b ∉ (Fg CX P w K mg base N qual scope f cd A outer s H E).ex:=λb z=>absurd (show b∈([]:List Addr) from z) (by simp)
 refine ⟨⟨e0.mod,S.kind,rfl,rfl,Nat.le_refl _,λy z c h1 h2=>?_,λy hy=>?_,λy c _ h=>?_,λ_=>hd,Around.frames_deeper e0.frames,.inr ⟨rfl,rfl⟩,λb z=>absurd z (noA b),e0.bs,e0.bsz,λb _ _=>noA b,λb z=>absurd z (noA b),e0.funs,e0.frf⟩,
  rfl,e0.bare,Un.kept hk,⟨_,x.toInCall.ns,λi y v h1 h2 h3=>?_⟩,λy c h=>⟨_,x.cell y c h⟩,e0.hok.fresh (Nat.le_refl _),λy c h=>?_,λp hp=>absurd (show p∈([]:List (Addr×Obj)) from hp) (by simp),e0.hok.kept hk,?_⟩
 ·exact name_of_addr x.apart (PySem.mem_of_lookup h1) (PySem.mem_of_lookup h2)
 ·have hy:scope.names.lookup y=some .cell\/scope.names.lookup y=some .free:=hy
  rcases hy with hy|hy
  ·exact Gd hy
  ·exact absurd rfl (S.nofree _ (PySem.mem_of_lookup hy))
 ·exact Nat.le_of_lt (x.above y c (PySem.mem_of_lookup h))
 ·have hi:i<vs.length:=by
   unfold start at h2
   by_cases hi:i<vs.length
   ·exact hi
   ·rw[List.getElem?_append_right (by simpa using hi)] at h2
    rw[List.getElem?_replicate] at h2
    split at h2<;>cases h2
  have ha:vs[i]? = some v:=by
   unfold start at h2
   rw[List.getElem?_append_left (by simpa using hi),List.getElem?_map] at h2
   cases e:vs[i]? with
   |none=>rw[e] at h2;cases h2
   |some a=>rw[e] at h2;cases h2;rfl
  obtain ⟨u,hu,rv⟩:=r.get ha
  have hp:ps[i]? = some y:=by
   rw[<- S.pre,List.getElem?_take_of_lt (by lia)];exact h1
  have ndP:ps.Nodup:=by rw[<- S.pre];exact S.nd.sublist (List.take_sublist _ _)
  refine ⟨u,rv,?_⟩
  rcases S.par y (List.mem_of_getElem? hp) with k|k
  ·exact .inl ⟨k,FI ndP hp hu k⟩
  ·obtain ⟨c,e⟩:=Gd (n:=s.heap.objs.size+1) k
   refine .inr ⟨.inl k,c,e,?_⟩
   have q:=x.cell y c e
   rw[FK ndP hp hu (by show scope.names.lookup y≠_;rw[k];decide)] at q
   exact q
 ·exact e0.hok.fresh (Nat.le_of_lt (x.above y c (PySem.mem_of_lookup h)))
 ·unfold start
  show _=N.length
  rw[List.length_append,List.length_map,List.length_replicate]
  lia
theorem fn_of {CX:CXT}{P:Program}{w:World}{K:Frag}{mg:Str->Option Value}{base:Heap}{k:Nat}{f:Addr}{name qual:Str}{params:Arguments}{body:List Stmt}{scope:Scope}{dV kV doc pm cdv ct oc:Value}{an od:Option Addr}
  {osl:Array (Option Value)} {N ps:List Str} {sp:Sp} (lk:K.lookup f=some ⟨oc,od,.func (PySem.W.fnOf name qual params body scope dV kV doc pm an cdv ct),osl⟩) (hcd:PySem.W.codeIn K cdv qual=true) (S:FnScope N ps scope)
  (len:∀vs H Q E,sp vs H Q E->vs.length=ps.length)
  (hbody:∀(A:Around)(outer:List Env)(s:Shared)(H:Hp)(vs:List V)(Q:VK)(E:XK),Room k (A.deeper (envOfC qual scope s.heap.objs.size f cdv))->sp vs H Q E->
   ∃t,PSs (Fg CX P w K mg base N qual scope f cdv A outer s H E) body t/\t { nx:=λ_ H'=>Q .non H',rt:=Q } (start N vs) H) :
  FnOk P w K mg base CX (k+1) f (PySem.W.fnOf name qual params body scope dV kV doc pm an cdv ct) ps sp:=by
 refine ⟨len,λA outer s H args us vs Q E hr e0 hb r hsp=>?_⟩
 have hl:=len _ _ _ _ hsp
 have KX:K.In s.heap:=e0.mod.kin.keeps λb o e=>(e0.bs b o e).1
 have lim:s.heap.NoLimit:=e0.mod.nolimit.keeps λb o e=>(e0.bs b o e).1
 have hkind:∀y∈ps.zip us,scope.names.lookup y.1=some .local\/(scope.names.lookup y.1=some .cell/\((cellsFrom (s.heap.objs.size+1) scope.names []).lookup y.1).isSome=true):=λ⟨n,v⟩ hy=>by
  rcases S.par n (List.of_mem_zip hy).1 with q|q
  ·exact .inl q
  ·exact .inr ⟨q,PySem.W.cellsFrom_some _ _ _ (.inl q)⟩
 refine codeAny_call_function hr.depth (KX _ _ lk) rfl S.co S.gen rfl (PySem.W.codeRec_of KX hcd) (hb _ _ _ _ ?_)
 refine wpAny_newFunctionEnv_cells S.kind hkind λenv he s1 x=>?_
 subst he
 refine ⟨lim.keeps x.toInCall.keep,codeAny_func ?_⟩
 obtain ⟨t,ht,hq⟩:=hbody A outer s H vs Q E (hr.deeper _) hsp
 have I:Inv (Fg CX P w K mg base N qual scope f cdv A outer s H E) [] (start N vs) H s1:=inv_start S hr.hd e0 hl r x
 refine wpAny_mono (ht [] s1 (start N vs) H _ I hq) (λfl s' hs=>?_) λe s' hs=>hs
 have fin:∀{σ':St} {H':Hp} {v:V} {u:Value},Inv (Fg CX P w K mg base N qual scope f cdv A outer s H E) [] σ' H' s'->RelV v u->Q v H'->CE outer P w H s Q u s':=
  λ{σ' H' v u} J rv q=>⟨v,H',J.os,J.bare,J.base,J.hok,rv,q⟩
 cases fl with
 |ret u=>
  obtain ⟨v,σ',H',J,rv,q⟩:=hs
  exact fin J rv q
 |next=>
  obtain ⟨σ',H',J,q⟩:=hs
  exact fin (v:=V.non) (u:=Value.none) J rfl q
 |brk=>
  obtain ⟨_,_,_,q⟩:=hs
  exact False.elim q
 |cont=>
  obtain ⟨_,_,_,q⟩:=hs
  exact False.elim q
open PySem PySem.Spec PyProof.Rows
section
variable {X:Cx}{x:Str}{p pos:Pos}{e:Expr}{es:List Expr}{t:TA}{id T:String}{r:List V->Hp->VK->Prop}
def tCB (r:List V->Hp->VK->Prop)(t:TA):TE:=λσ H Q=>t σ H λvs H1=>r vs H1 Q
theorem DE (hc:EF X (.builtin id) r)(hg:Gl X x)(hm:X.mg x=none)(hv:bootBuiltins x=some (.builtin id))(ha:PA X (e :: es) t)(hn:x ≠ "__name__" := by decide)(hdb:(x == ("__debug__" : Str))=false:=by decide)
  (he:starEach (e :: es) X.env=(false,eval e X.env) :: starEach es X.env:=by rfl) (hpl:(backTo pos (starEach es X.env)).any (·.1)=false:=by rfl):PE X (.Call (.Name x p) (e :: es) [] pos) (tCB r t):=by
 intro pins s σ H Q I h
 refine wpAny_Call_Name_kw (EA I hg hm hv ?_ hn hdb)
 exact PyProof.Rows.callWith_builtin1 (thn (ha pos pins s σ H _ I h) λus s1 ⟨vs,H1,I1,r1,q1⟩=>hc pins s1 σ H1 vs us Q I1 r1 q1) he hpl
theorem D7 (hc:EF X (.type T) r)(hg:Gl X x)(hm:X.mg x=none)(hv:bootBuiltins x=some (.type T))(ha:PA X (e :: es) t)(hn:x ≠ "__name__" := by decide)(hdb:(x == ("__debug__" : Str))=false:=by decide)
  (he:starEach (e :: es) X.env=(false,eval e X.env) :: starEach es X.env:=by rfl) (hpl:(backTo pos (starEach es X.env)).any (·.1)=false:=by rfl):PE X (.Call (.Name x p) (e :: es) [] pos) (tCB r t):=by
 intro pins s σ H Q I h
 refine wpAny_Call_Name_kw (EA I hg hm hv ?_ hn hdb)
 exact PyProof.Rows.callWith_type1 (thn (ha pos pins s σ H _ I h) λus s1 ⟨vs,H1,I1,r1,q1⟩=>hc pins s1 σ H1 vs us Q I1 r1 q1) he hpl
end
end L2
namespace HT
open PySem PyProof.Rows
section
variable {prog:Program}{w:World}{A:Around}{E:Value->Shared->Prop}{s:Shared}
def sIx (n d:Nat):Option Int->Nat
 |none=>d
 |some v=>if v<0 then (v+(n:Int)).toNat else min v.toNat n
theorem FT (n d:Nat):sIx n d none=d:=rfl
end
end HT
namespace L2
open PySem PySem.Spec PyProof.Rows
abbrev TO:=St->Hp->(Option Int->Hp->Prop)->Prop
def PO (X:Cx)(e:Option Expr)(t:TO):Prop:=
 ∀(pins:List (Addr×Obj))(s:Shared)(σ:St)(H:Hp)(Q:Option Int->Hp->Prop),Inv X pins σ H s->t σ H Q->
  wpAny (model X.prog X.w) X.A (evalPart e X.env) (λu s'=>∃o H',Inv X pins σ H' s'/\IsPart u o/\Q o H') X.xe s
def Gf:TO:=λ_ H Q=>Q none H
def GS (t:TE):TO:=λσ H Q=>t σ H λx H1=>∃i,x=.int i/\Q (some i) H1
section
variable {X:Cx}{e:Expr}{te:TE}{lo hi:Option Expr}{tl th:TO}{pos p2:Pos}
theorem DP:PO X none Gf:=by
 intro pins s σ H Q I h
 rw[evalPart_none]
 exact wpAny_pure ⟨none,H,I,.none,h⟩
theorem Dy (h:PE X e te):PO X (some e) (GS te):=by
 intro pins s σ H Q I hw
 rw[evalPart_some]
 refine thn (h pins s σ H _ I hw) λu s1 ⟨x,H1,I1,r1,q1⟩=>?_
 obtain ⟨i,rfl,q⟩:=q1
 obtain ⟨t,rfl⟩:=r1
 exact ⟨some i,H1,I1,.int i t,q⟩
def SlR (X:Cx)(r:V->Option Int->Option Int->Hp->VK->Prop):Prop:=
 ∀(pins:List (Addr×Obj))(s:Shared)(σ:St)(H:Hp)(x:V)(v vl vu:Value)(lo hi:Option Int)(sl:Addr)(Q:VK),Inv X pins σ H s->RelV x v->s.heap.IsSliceOf sl vl vu .none->IsPart vl lo->IsPart vu hi->r x lo hi H Q->
  ∃T id,typeLookup (.type T) "__getitem__" = pure (some (.builtin id))/\s.TypeIs v T/\wpAny (model X.prog X.w) X.A (getItem v (.ref sl)) (EP X pins σ Q) X.xe s
def tSl (r:V->Option Int->Option Int->Hp->VK->Prop)(te:TE)(tl th:TO):TE:=λσ H Q=>te σ H λx H1=>tl σ H1 λl H2=>th σ H2 λu H3=>r x l u H3 Q
theorem DD {r:V->Option Int->Option Int->Hp->VK->Prop}(hr:SlR X r)(he:PE X e te)(hl:PO X lo tl)(hu:PO X hi th):PE X (.Subscript e (.Slice lo hi none p2) pos) (tSl r te tl th):=by
 intro pins s σ H Q I h
 refine Subscript_ (thn (he pins s σ H _ I h) λv s1 ⟨x,H1,I1,r1,q1⟩=>?_)
 refine wpAny_Slice (thn (hl pins s1 σ H1 _ I1 q1) λvl s2 ⟨l,H2,I2,pl,q2⟩=>thn (hu pins s2 σ H2 _ I2 q2) λvu s3 ⟨u,H3,I3,pu,q3⟩=>?_)
 rw[evalPart_none]
 refine wpAny_pure ?_
 have I4:Inv X pins σ H3 { s3 with heap:=s3.heap.push { cls:=.type "slice",data:=.fields #[vl,vu,.none] } }:=I3.kept (t':=s3.toks) λb ob q=>Heap.get?_push_of_some _ q
 obtain ⟨T,id,hT,ht,hg⟩:=hr pins { s3 with heap:=s3.heap.push { cls:=.type "slice",data:=.fields #[vl,vu,.none] } } σ H3 x v vl vu l u s3.heap.objs.size Q I4 r1 (Heap.IsSliceOf.new ..) pl pu q3
 show wpAny (model X.prog X.w) X.A (subscriptTail e (.Slice lo hi none p2) v (.ref s3.heap.objs.size)) (EP X pins σ Q) X.xe { s3 with heap:=s3.heap.push { cls:=.type "slice",data:=.fields #[vl,vu,.none] } }
 exact tail_any (ops:=[.ref s3.heap.objs.size,v]) ht hT hg (by with_unfolding_all rfl)
def Ej (xs:List V)(lo hi:Option Int):List V:=(xs.drop (HT.sIx xs.length 0 lo)).take (HT.sIx xs.length xs.length hi-HT.sIx xs.length 0 lo)
theorem cutV_length (xs:List V)(lo hi:Option Int):(Ej xs lo hi).length<=xs.length:=by
 unfold Ej
 rw[List.length_take,List.length_drop]
 lia
end
open PySem PySem.Spec PyProof.Rows
def ixN (n:Nat)(i:Int):Option Nat:=if 0<=i then (if i<n then some i.toNat else none) else if -(n:Int)<=i then some (i+n).toNat else none
def atI {α:Type}(xs:List α)(i:Int):Option α:=(ixN xs.length i).bind λj=>xs[j]?
theorem Gm {n:Nat}{i:Int}{j:Nat}(h:ixN n i=some j):seqIndex? i n=some j/\j<n/\-(n:Int)<=i/\i<n:=by
 unfold ixN at h
 by_cases h0:0<=i
 ·rw[if_pos h0] at h
  by_cases h1:i<n
  ·rw[if_pos h1] at h
   have e:i.toNat=j:=Option.some.inj h
   exact ⟨by rw[seqIndex_of h0 h1,e],by lia,by lia,h1⟩
  ·rw[if_neg h1] at h;cases h
 ·rw[if_neg h0] at h
  by_cases h1:-(n:Int)<=i
  ·rw[if_pos h1] at h
   have e:(i+n).toNat=j:=Option.some.inj h
   exact ⟨by rw[seqIndex_neg (by lia) h1,e],by lia,h1,by lia⟩
  ·rw[if_neg h1] at h;cases h
theorem Gs {α:Type}{xs:List α}{i:Int}{v:α}(h:atI xs i=some v):∃j,seqIndex? i xs.length=some j/\xs[j]? = some v/\j<xs.length/\-(xs.length:Int)<=i/\i<xs.length:=by
 unfold atI at h
 cases e:ixN xs.length i with
 |none=>rw[e] at h;cases h
 |some j=>
  rw[e] at h
  obtain ⟨h1,h2,h3,h4⟩:=Gm e
  exact ⟨j,h1,h,h2,h3,h4⟩
theorem atI_nat {α:Type}{xs:List α}{j:Nat}{v:α}(h:xs[j]? = some v):atI xs (j:Int)=some v:=by
 have hj:j<xs.length:=(List.getElem?_eq_some_iff.mp h).1
 have e:ixN xs.length (j:Int)=some j:=by
  unfold ixN
  rw[if_pos (by lia),if_pos (by lia)];simp
 unfold atI;rw[e];exact h
def PlainIx (b:Expr):Prop:=∀o i,subscripted b false o i=operate [o,i] (getItem o i)
def IxR (X:Cx)(r:R2):Prop:=
 ∀(value slice:Expr)(pins:List (Addr×Obj))(s:Shared)(σ:St)(H:Hp)(x y:V)(v u:Value)(Q:VK),Inv X pins σ H s->RelV x v->RelV y u->r x y H Q->
  subscripted slice false v u=operate [v,u] (getItem v u)->wpAny (model X.prog X.w) X.A (subscriptTail value slice v u) (EP X pins σ Q) X.xe s
def MtR (X:Cx)(id:String)(r:V->List V->Hp->VK->Prop):Prop:=
 ∀(pins:List (Addr×Obj))(s:Shared)(σ:St)(H:Hp)(x:V)(xs:List V)(v:Value)(us:List Value)(Q:VK),Inv X pins σ H s->RelV x v->Vals xs us->r x xs H Q->
  wpAny (model X.prog X.w) X.A (call (.builtin id) (v :: us)) (EP X pins σ Q) X.xe s
section
variable {X:Cx}{a b:Expr}{ta tb:TE}{pos:Pos}
theorem Du {r:R2}(hr:IxR X r)(ha:PE X a ta)(hb:PE X b tb)(hs:PlainIx b):PE X (.Subscript a b pos) (tOp r ta tb):=by
 intro pins s σ H Q I h
 exact Subscript_ (GR ha hb I h λv u s2 x y H2 I2 rx ry q=>hr a b pins s2 σ H2 x y v u Q I2 rx ry q (hs _ _))
def Fw (K:Frag):R2:=λx y H Q=>∃p xs i v,x=.ref p/\y=.int i/\SqL K H p xs/\atI xs i=some v/\Q v H
def GO (K:Frag):R2:=λx y H Q=>∃p xs i v,x=.ref p/\y=.int i/\SqT K H p xs/\atI xs i=some v/\Q v H
theorem ix_list:IxR X (Fw X.K):=by
 intro value slice pins s σ H x y v u Q I rx ry h hs
 obtain ⟨p,xs,i,z,rfl,rfl,hq,he,q⟩:=h
 cases rx
 obtain ⟨t,rfl⟩:=ry
 obtain ⟨its,r,pl,hz⟩:=I.list hq
 obtain ⟨j,h1,h2,h3,h4,h5⟩:=Gs he
 obtain ⟨w,ew,rw'⟩:=r.get h2
 have hl:=r.length
 have hn:=EY
 have fin:EP X pins σ Q w s:=⟨z,H,I,rw',q⟩
 by_cases h0:0<=i
 ·have hj:i.toNat=j:=by
   rw[seqIndex_of h0 h5] at h1
   exact Option.some.inj h1
  exact item_listR pl.isList h0 (by lia) (by rw[hj];simpa using ew) fin hs
 ·have hj:(i+(its.toArray.size:Int)).toNat=j:=by
   rw[seqIndex_neg (by lia) h4] at h1
   rw[List.size_toArray,<- hl]
   exact Option.some.inj h1
  exact subscriptTail_builtinR (x:=w) pl.isList.typeIs slot_list_getitem.lookup
   (wpAny_getItem_list_neg (Q:=λr s'=>r=w/\EP X pins σ Q r s') pl.isList (by lia) (by rw[List.size_toArray]<;>lia) (by lia) (by rw[hj];simpa using ew) ⟨rfl,fin⟩) hs
theorem ix_tup:IxR X (GO X.K):=by
 intro value slice pins s σ H x y v u Q I rx ry h hs
 obtain ⟨p,xs,i,z,rfl,rfl,hq,he,q⟩:=h
 cases rx
 obtain ⟨t,rfl⟩:=ry
 obtain ⟨its,r,pl,hz⟩:=I.tuple hq
 obtain ⟨j,h1,h2,h3,h4,h5⟩:=Gs he
 obtain ⟨w,ew,rw'⟩:=r.get h2
 have hl:=r.length
 have hn:=EY
 have fin:EP X pins σ Q w s:=⟨z,H,I,rw',q⟩
 exact subscriptTail_builtinR (x:=w) pl.typeIs slot_tuple_getitem.lookup
  (getItem_tuple (j:=j) (Q:=λr s'=>r=w/\EP X pins σ Q r s') pl (by lia) (by lia) (by rw[List.size_toArray,<- hl];exact h1) (by simpa using ew) ⟨rfl,fin⟩) hs
theorem mapSeq_set (its:List Value)(n j:Nat)(u:Value):Obj.mapSeq (·.setIfInBounds j u) { cls:=.type "list",data:=.seq its.toArray n } = { cls:=.type "list",data:=.seq (its.set j u).toArray n }:=by
 simp[Obj.mapSeq]
theorem Inv.lst {pins:List (Addr×Obj)}{σ:St}{H:Hp}{s:Shared}{p:Addr}{xs:List V}(I:Inv X pins σ H s)(h:H p=some (.lst xs)) :
  ∃(its:List Value)(n:Nat),Vals xs its/\s.heap.get? p=some { cls:=.type "list",data:=.seq its.toArray n }/\xs.length<=sizeLine:=by
 obtain ⟨z,its,n,r,e⟩:=I.hok p _ h
 exact ⟨its,n,r,e,z⟩
theorem Inv.lstUpd {pins:List (Addr×Obj)}{σ:St}{H:Hp}{s:Shared}{p:Addr}{xs ys:List V}{its its':List Value}{n n':Nat}{f:Obj->Obj}(I:Inv X pins σ H s)(h:H p=some (.lst xs))
  (ho:s.heap.get? p=some { cls:=.type "list",data:=.seq its.toArray n }) (hf:f { cls:=.type "list",data:=.seq its.toArray n } = { cls:=.type "list",data:=.seq its'.toArray n' }) (r:Vals ys its') (hz:ys.length<=sizeLine) (t:Nat) :
  Inv X pins σ (upd H p (.lst ys)) { s with heap:=s.heap.update p f,toks:=t }:=by
 have e:(s.heap.update p f).get? p=some { cls:=.type "list",data:=.seq its'.toArray n' }:=by
  rw[Heap.get?_update_self f ho (by rw[hf]<;>rfl),hf]
 refine I.write (x:=p) (e:=p) (by rw[h];trivial) (.inl rfl) (λb u hb q=>(Heap.get?_update_other _ _ (Ne.symm hb)).trans q) ⟨_,e⟩ ?_
 exact ⟨hz,its',n',r,e⟩
def Gy:V->V->V->Hp->(Hp->Prop)->Prop:=λo i v H Q=>∃p xs k j,o=.ref p/\i=.int k/\H p=some (.lst xs)/\ixN xs.length k=some j/\Q (upd H p (.lst (xs.set j v)))
theorem set_list:Hd X Gy:=by
 intro pins s σ H o i v ov iv u Q I ro ri rv h
 obtain ⟨p,xs,k,j,rfl,rfl,hp,hj,q⟩:=h
 cases ro
 obtain ⟨t,rfl⟩:=ri
 obtain ⟨its,n,r,ho,hz⟩:=I.lst hp
 obtain ⟨h1,h2,h3,h4⟩:=Gm hj
 have hl:=r.length
 have hn:=EY
 have I':Inv X pins σ (upd H p (.lst (xs.set j v))) { s with heap:=s.heap.update p (Obj.mapSeq (·.setIfInBounds j u)) }:=
  I.lstUpd hp ho (mapSeq_set its n j u) (r.set rv j) (by rw[List.length_set];exact hz) s.toks
 by_cases h0:0<=k
 ·have hk:k.toNat=j:=by
   rw[seqIndex_of h0 h4] at h1
   exact Option.some.inj h1
  exact PySem.W.ki_setAt ho h0 (by lia) (by rw[List.size_toArray,<- hl];exact h4) (by rw[hk];exact ⟨_,I',q⟩)
 ·have hk:(k+(its.toArray.size:Int)).toNat=j:=by
   rw[seqIndex_neg (by lia) h3] at h1
   rw[List.size_toArray,<- hl]
   exact Option.some.inj h1
  exact PySem.W.ki_setBack ho (by lia) (by rw[List.size_toArray,<- hl];exact h3) (by lia) (by rw[hk];exact ⟨_,I',q⟩)
theorem slice_bounds (lo hi:Option Int)(n:Nat):(sliceBounds lo hi none n).1=((HT.sIx n 0 lo:Nat):Int)/\(sliceBounds lo hi none n).2.1=((HT.sIx n n hi:Nat):Int)/\(sliceBounds lo hi none n).2.2=1:=by
 refine ⟨?_,?_,rfl⟩
 ·cases lo with
  |none=>simp[sliceBounds,HT.sIx]
  |some i=>
   simp only[sliceBounds,HT.sIx,Option.getD_none,show (1:Int) > 0 by decide,if_true]
   by_cases h:i<0
   ·simp only[h,if_true]<;>lia
   ·simp only[h,if_false]<;>lia
 ·cases hi with
  |none=>simp[sliceBounds,HT.sIx]
  |some i=>
   simp only[sliceBounds,HT.sIx,Option.getD_none,show (1:Int) > 0 by decide,if_true]
   by_cases h:i<0
   ·simp only[h,if_true]<;>lia
   ·simp only[h,if_false]<;>lia
theorem slicePick_cut (its:List Value)(lo hi:Option Int):slicePick its.toArray lo hi none=((its.drop (HT.sIx its.length 0 lo)).take (HT.sIx its.length its.length hi-HT.sIx its.length 0 lo)).toArray:=by
 obtain ⟨h1,h2,h3⟩:=slice_bounds lo hi its.toArray.size
 unfold slicePick
 rw[h1,h2,h3]
 simp only[sliceRange_one,pick_run,List.size_toArray]<;>rfl
def GL (K:Frag):V->Option Int->Option Int->Hp->VK->Prop:=λx lo hi H Q=>∃a xs,x=.ref a/\SqL K H a xs/\∀p,H p=none->Q (.ref p) (upd H p (.lst (Ej xs lo hi)))
theorem sl_list:SlR X (GL X.K):=by
 intro pins s σ H x v vl vu lo hi sl Q I rx hs pl pu h
 obtain ⟨a,xs,rfl,hx,q⟩:=h
 cases rx
 obtain ⟨its,r,ht,hz⟩:=I.list hx
 have hlen:=r.length
 refine ⟨"list",_,slot_list_getitem.lookup,ht.isList.typeIs,?_⟩
 refine wpAny_getItem_list_slice ht.isList hs pl pu .none (by simp) ?_ (by rw[List.size_toArray]<;>lia)
 rw[slicePick_cut,<- hlen]
 refine ⟨.ref s.heap.objs.size,_,I.laid (t':=s.toks) (o:=.lst (Ej xs lo hi)) (λb ob q=>Heap.get?_push_of_some _ q) (Nat.le_refl _) ?_,rfl,q _ (I.hok.fresh (Nat.le_refl _))⟩
 exact ⟨Nat.le_trans (cutV_length xs lo hi) hz,_,0,(r.drop (HT.sIx xs.length 0 lo)).take (HT.sIx xs.length xs.length hi-HT.sIx xs.length 0 lo),Heap.get?_push_size _ rfl⟩
def Eh:V->Bool
 |.non=>true
 |.bl _=>true
 |.int _=>true
 |.str _=>true
 |_=>false
def eqV:V->V->Bool
 |.non,.non=>true
 |.bl a,.bl b=>a == b
 |.bl a,.int b=>(if a then 1 else 0) == b
 |.int a,.bl b=>a == (if b then 1 else 0)
 |.int a,.int b=>a == b
 |.str a,.str b=>a == b
 |_,_=>false
theorem eqAt_V {A:Around}{s:Shared}{y x:V}{u v:Value}(ry:RelV y u)(rx:RelV x v)(fy:Eh y=true)(fx:Eh x=true):SeqAt.EqAt A s u v (eqV y x):=by
 cases y with
 |non=>
  cases ry
  cases x with
  |non=>cases rx;exact SeqAt.EqAt.same _
  |bl b=>cases rx;exact SeqAt.EqAt.none_bool b
  |int b=>obtain ⟨t,rfl⟩:=rx;exact SeqAt.EqAt.none_int b t
  |str b=>obtain ⟨t,rfl⟩:=rx;exact SeqAt.EqAt.none_str b t
  |_=>exact absurd (show false=true from fx) Bool.false_ne_true
 |bl a=>
  cases ry
  cases x with
  |non=>cases rx;exact SeqAt.EqAt.bool_none a
  |bl b=>cases rx;exact SeqAt.EqAt.bool_bool a b
  |int b=>obtain ⟨t,rfl⟩:=rx;exact SeqAt.EqAt.bool_int a b t
  |str b=>obtain ⟨t,rfl⟩:=rx;exact SeqAt.EqAt.bool_str a b t
  |_=>exact absurd (show false=true from fx) Bool.false_ne_true
 |int a=>
  obtain ⟨t',rfl⟩:=ry
  cases x with
  |non=>cases rx;exact SeqAt.EqAt.int_none a t'
  |bl b=>cases rx;exact SeqAt.EqAt.int_bool a t' b
  |int b=>obtain ⟨t,rfl⟩:=rx;exact SeqAt.EqAt.int_int a t' b t
  |str b=>obtain ⟨t,rfl⟩:=rx;exact SeqAt.EqAt.int_str a t' b t
  |_=>exact absurd (show false=true from fx) Bool.false_ne_true
 |str a=>
  obtain ⟨t',rfl⟩:=ry
  cases x with
  |non=>cases rx;exact SeqAt.EqAt.str_none a t'
  |bl b=>cases rx;exact SeqAt.EqAt.str_bool a t' b
  |int b=>obtain ⟨t,rfl⟩:=rx;exact SeqAt.EqAt.str_int a t' b t
  |str b=>obtain ⟨t,rfl⟩:=rx;exact SeqAt.EqAt.str_str a t' b t
  |_=>exact absurd (show false=true from fx) Bool.false_ne_true
 |_=>exact absurd (show false=true from fy) Bool.false_ne_true
def eqU (x:V)(u:Value):Bool:=match u with
 |.none=>eqV .non x
 |.bool b=>eqV (.bl b) x
 |.int i _=>eqV (.int i) x
 |.str z _=>eqV (.str z) x
 |_=>false
theorem Fp {x y:V}{u:Value}(r:RelV y u)(f:Eh y=true):eqU x u=eqV y x:=by
 cases y with
 |non=>cases r;rfl
 |bl b=>cases r;rfl
 |int i=>obtain ⟨t,rfl⟩:=r;rfl
 |str z=>obtain ⟨t,rfl⟩:=r;rfl
 |_=>exact absurd (show false=true from f) Bool.false_ne_true
theorem EO {x:V}:∀{xs:List V} {us:List Value},Vals xs us->xs.all Eh=true->us.any (eqU x)=xs.any λy=>eqV y x
 |_,_,.nil,_=>rfl
 |y :: xs,u :: us,.cons r t,f=>by
  rw[List.all_cons,Bool.and_eq_true] at f
  rw[List.any_cons,List.any_cons,Fp r f.1,EO t f.2]
theorem En {A:Around}{s:Shared}{x:V}{v:Value}(rx:RelV x v)(fx:Eh x=true):∀{xs:List V} {us:List Value},Vals xs us->xs.all Eh=true->∀u∈us,SeqAt.EqAt A s u v (eqU x u)
 |_,_,.nil,_=>λu hu=>by cases hu
 |y :: xs,u :: us,.cons r t,f=>λu' hu=>by
  rw[List.all_cons,Bool.and_eq_true] at f
  rcases List.mem_cons.mp hu with rfl|hu
  ·rw[Fp r f.1];exact eqAt_V r rx f.1 fx
  ·exact En rx fx t f.2 u' hu
def inV (x:V)(xs:List V):Bool:=xs.any λy=>eqV y x
def rIn (K:Frag)(neg:Bool):R2:=λx y H Q=>∃p xs,y=.ref p/\(SqL K H p xs\/SqT K H p xs)/\Eh x=true/\xs.all Eh=true/\Q (.bl (if neg then !inV x xs else inV x xs)) H
theorem op_in_seq:OpR X (compareOp .In) (rIn X.K false):=by
 intro pins s σ H x y v u Q I rx ry h
 obtain ⟨p,xs,rfl,hq,fx,fs,q⟩:=h
 cases ry
 rcases hq with hq|hq
 ·obtain ⟨its,r,pl,hz⟩:=I.list hq
  refine SeqAt.in_listAt (eqU x) pl.isList (λw hw=>En rx fx r fs w (by simpa using hw)) ⟨.bl _,H,I,rfl,?_⟩
  rw[show its.toArray.any (eqU x)=its.any (eqU x) by simp,EO r fs]
  exact q
 ·obtain ⟨its,r,pl,hz⟩:=I.tuple hq
  refine SeqAt.in_tupleAt (eqU x) pl (λw hw=>En rx fx r fs w (by simpa using hw)) ⟨.bl _,H,I,rfl,?_⟩
  rw[show its.toArray.any (eqU x)=its.any (eqU x) by simp,EO r fs]
  exact q
theorem op_notIn_seq:OpR X (compareOp .NotIn) (rIn X.K true):=by
 intro pins s σ H x y v u Q I rx ry h
 obtain ⟨p,xs,rfl,hq,fx,fs,q⟩:=h
 cases ry
 rcases hq with hq|hq
 ·obtain ⟨its,r,pl,hz⟩:=I.list hq
  refine SeqAt.notIn_listAt (eqU x) pl.isList (λw hw=>En rx fx r fs w (by simpa using hw)) ⟨.bl _,H,I,rfl,?_⟩
  rw[show its.toArray.any (eqU x)=its.any (eqU x) by simp,EO r fs]
  exact q
 ·obtain ⟨its,r,pl,hz⟩:=I.tuple hq
  refine SeqAt.notIn_tupleAt (eqU x) pl (λw hw=>En rx fx r fs w (by simpa using hw)) ⟨.bl _,H,I,rfl,?_⟩
  rw[show its.toArray.any (eqU x)=its.any (eqU x) by simp,EO r fs]
  exact q
theorem call_len_seq:EF X (.builtin "len") (λxs H Q=>∃p ys,xs=[.ref p]/\(SqL X.K H p ys\/SqT X.K H p ys)/\Q (.int ys.length) H):=by
 intro pins s σ H xs us Q I r h
 obtain ⟨p,ys,rfl,hq,q⟩:=h
 obtain ⟨u,rfl,rx⟩:=vals1 r
 cases rx
 have hn:=EY
 rcases hq with hq|hq
 ·obtain ⟨its,r',pl,hz⟩:=I.list hq
  have hlen:=r'.length
  exact Calls.call_len_list pl.isList (by simp only[List.size_toArray]<;>lia) ⟨.int ys.length,H,I.tok _,⟨s.toks+1,by rw[List.size_toArray,hlen]⟩,q⟩
 ·obtain ⟨its,r',pl,hz⟩:=I.tuple hq
  have hlen:=r'.length
  exact len_tuple pl (by simp only[List.size_toArray]<;>lia) ⟨.int ys.length,H,I.tok _,⟨s.toks+1,by rw[List.size_toArray,hlen]⟩,q⟩
theorem call_list_of:EF X (.type "list") (λxs H Q=>∃p ys,xs=[.ref p]/\(SqL X.K H p ys\/SqT X.K H p ys)/\∀l,H l=none->Q (.ref l) (upd H l (.lst ys))):=by
 intro pins s σ H xs us Q I r h
 obtain ⟨p,ys,rfl,hq,q⟩:=h
 obtain ⟨u,rfl,rx⟩:=vals1 r
 cases rx
 have fin:∀(its:List Value),Vals ys its->ys.length<=sizeLine->∀(h':Heap)(c':Nat),(∀b o',s.heap.get? b=some o'->h'.get? b=some o')->
   h'.get? s.heap.objs.size=some { cls:=.type "list",dict:=none,data:=.seq its.toArray c',slots:=#[] }->EP X pins σ Q (.ref s.heap.objs.size) { s with heap:=h' }:=λits r' hz h' c' kp e=>
  ⟨.ref s.heap.objs.size,_,I.laid (t':=s.toks) kp (Nat.le_refl _) (show ObjOk X.prog X.w _ h' _ (.lst ys) from ⟨hz,its,c',r',e⟩),rfl,q _ (I.hok.fresh (Nat.le_refl _))⟩
 rcases hq with hq|hq
 ·obtain ⟨its,r',pl,hz⟩:=I.list hq
  have hlen:=r'.length
  obtain ⟨o,ho,hc,n,hd⟩:=pl.isList
  exact call_list_seq p (.inl rfl) ho hc hd (λh' c' kp e=>fin its r' hz h' c' kp e) (by simp only[List.size_toArray]<;>lia)
 ·obtain ⟨its,r',pl,hz⟩:=I.tuple hq
  have hlen:=r'.length
  obtain ⟨o,ho,hc,n,hd⟩:=pl
  exact call_list_seq p (.inr rfl) ho hc hd (λh' c' kp e=>fin its r' hz h' c' kp e) (by simp only[List.size_toArray]<;>lia)
def tyV (K:Frag)(T:String)(x:V)(H:Hp):Prop:=match x with
 |.str _=>T = "str"
 |.int _=>T = "int"
 | .ref p=>(T = "list" /\ ∃xs,SqL K H p xs)\/(T = "tuple" /\ ∃o,K.lookup p=some o/\o.cls=.type "tuple" /\ o.dict=none)\/
   (T = "dict" /\ ((∃kvs,H p=some (.dK kvs))\/∃kvs,H p=some (.dT kvs)))\/(T = "set" /\ ∃S n,H p=some (.set S n))
 |_=>False
theorem tyV_is {pins:List (Addr×Obj)}{σ:St}{H:Hp}{s:Shared}{T:String}{x:V}{v:Value}(I:Inv X pins σ H s)(r:RelV x v)(ty:tyV X.K T x H) :
  s.TypeIs v T/\∀a,v=.ref a->∃ob,s.heap.get? a=some ob/\ob.dict=none:=by
 cases x with
 |str z=>
  obtain ⟨t,rfl⟩:=r
  cases (show T = "str" from ty)
  exact ⟨typeIs_str s z t,λ_ e=>nomatch e⟩
 |int i=>
  obtain ⟨t,rfl⟩:=r
  cases (show T = "int" from ty)
  exact ⟨typeIs_int s i t,λ_ e=>nomatch e⟩
 |ref p=>
  cases r
  rcases ty with ⟨rfl,xs,hq⟩|⟨rfl,o,hk,hc,hd⟩|⟨rfl,hk⟩|⟨rfl,S,n,hk⟩
  ·obtain ⟨its,_,pl,_⟩:=I.list hq
   refine ⟨pl.isList.typeIs,λa e=>?_⟩
   cases e
   obtain ⟨o,n,e,c,hd,_⟩:=pl
   exact ⟨o,e,hd⟩
  ·refine ⟨⟨o,I.kIn p o hk,hc⟩,λa e=>?_⟩
   cases e
   exact ⟨o,I.kIn _ o hk,hd⟩
  ·have z:∃o,s.heap.get? p=some o/\o.ExactDict:=by
    rcases hk with ⟨kvs,hk⟩|⟨kvs,hk⟩
    ·obtain ⟨_,_,_,_,o,_,_,e,ex,_⟩:=I.hok p _ hk
     exact ⟨o,e,ex⟩
    ·obtain ⟨_,_,_,_,o,_,_,e,ex,_⟩:=I.hok p _ hk
     exact ⟨o,e,ex⟩
   obtain ⟨o,e,ex⟩:=z
   refine ⟨⟨o,e,ex.1⟩,λa e2=>?_⟩
   cases e2
   exact ⟨o,e,ex.2.1⟩
  ·obtain ⟨o,_,_,_,e,ex,_⟩:=I.hok p _ hk
   refine ⟨⟨o,e,ex.1⟩,λa e2=>?_⟩
   cases e2
   exact ⟨o,e,ex.2.1⟩
 |_=>exact False.elim ty
def tBM (K:Frag)(T:String)(r:V->List V->Hp->VK->Prop)(to:TE)(t:TA):TE:=λσ H Q=>to σ H λx H1=>tyV K T x H1/\t σ H1 λxs H2=>r x xs H2 Q
variable {o e:Expr}{es:List Expr}{to:TE}{t:TA}{name:Str}{apos cpos:Pos}{T id:String}{r:V->List V->Hp->VK->Prop}
theorem D2 (pa:PlainAttrs T)(slot:Slot T name id)(hty:typeOf (.builtin id)=pure (.type "method_descriptor"))(hm:MtR X id r)(ho:PE X o to)(ha:PA X (e :: es) t)
  (hbase:attributeBase o name X.env (eval o X.env)=eval o X.env:=by rfl)
  (hfew:((backTo cpos (starEach (e :: es) X.env)).all (λx=>!x.1) && (backToKw cpos (keywordEach [] X.env)).all (λx=>x.1.isSome)
   && decide ((e :: es).length+([]:List Keyword).length+(if ([]:List Keyword).isEmpty then 0 else 1)<30))=true:=by rfl)
  (hline:(apos.endLine == cpos.line)=true:=by rfl) (hs:starEach (e :: es) X.env=(false,eval e X.env) :: starEach es X.env:=by rfl) (hplain:(backTo cpos (starEach es X.env)).any (·.1)=false:=by rfl) :
  PE X (.Call (.Attribute o name apos) (e :: es) [] cpos) (tBM X.K T r to t):=by
 intro pins s σ H Q I h
 refine wpAny_Call_method_late hbase hfew hline rfl (thn (ho pins s σ H _ I h) λv s1 ⟨x,H1,I1,r1,ty,q1⟩=>?_)
 obtain ⟨h1,h2⟩:=tyV_is I1 r1 ty
 refine ⟨T,id,pa,slot,hty,h1,h2,?_⟩
 have hA:=ha cpos pins s1 σ H1 _ I1 q1
 rw[hs] at hA ⊢
 refine Calls.callWith_builtin (by show (false || (backTo cpos (starEach es X.env)).any (·.1))=false;rw[hplain]<;>rfl) (Calls.evalArgs_plain ?_)
 exact thn hA λus s2 ⟨vs,H2,I2,r2,q2⟩=>hm pins s2 σ H2 x vs v us Q I2 r1 r2 q2
end
open PySem PySem.Spec PyProof.Rows
def MtM (X:Cx)(id:String)(r:V->List V->Hp->VK->Prop):Prop:=
 ∀(pins:List (Addr×Obj))(s:Shared)(σ:St)(H:Hp)(x:V)(xs:List V)(v:Value)(us:List Value)(Q:VK),Inv X pins σ H s->RelV x v->Vals xs us->r x xs H Q->
  wpAny (model X.prog X.w) X.A (call (.builtin id) (v :: us)) (EP X pins σ Q) X.xe s
theorem Vals.one:∀{x:V} {us:List Value},Vals [x] us->∃u,us=[u]/\RelV x u
 |_,_,.cons r .nil=>⟨_,rfl,r⟩
theorem Vals.zero:∀{us:List Value},Vals [] us->us=[]
 |_,.nil=>rfl
theorem Vals.dropLast {xs:List V}{us:List Value}(h:Vals xs us):Vals xs.dropLast us.dropLast:=by
 induction h with
 |nil=>exact .nil
 |cons r t ih=>
  cases t with
  |nil=>exact .nil
  |cons q t'=>exact .cons r ih
theorem Vals.eraseIdx:∀{xs:List V} {us:List Value} (i:Nat),Vals xs us->Vals (xs.eraseIdx i) (us.eraseIdx i)
 |_,_,_,.nil=>.nil
 |_,_,0,.cons _ t=>t
 |_,_,i+1,.cons r t=>.cons r (Vals.eraseIdx i t)
theorem Vals.reverse {xs:List V}{us:List Value}(h:Vals xs us):Vals xs.reverse us.reverse:=by
 induction h with
 |nil=>exact .nil
 |cons r t ih=>rw[List.reverse_cons,List.reverse_cons];exact Vals.append ih (.cons r .nil)
theorem Vals.rep {xs:List V}{us:List Value}(h:Vals xs us):∀k:Nat,Vals (List.replicate k xs).flatten (List.replicate k us).flatten
 |0=>.nil
 |k+1=>by
  rw[List.replicate_succ,List.replicate_succ,List.flatten_cons,List.flatten_cons]
  exact Vals.append h (Vals.rep h k)
theorem FG {α:Type}:∀(l:List α)(i:Nat),(l.eraseIdx i).length<=l.length
 |[],_=>Nat.le_refl _
 |_ :: _,0=>Nat.le_succ _
 |_ :: r,i+1=>Nat.succ_le_succ (FG r i)
theorem foldl_rep (its:List Value):∀(k:Nat)(acc:List Value),
  List.foldl (λx1 x2=>x1++x2) acc.toArray (List.replicate k its.toArray)=(acc++(List.replicate k its).flatten).toArray
 |0,acc=>by simp
 |k+1,acc=>by
  have e:acc.toArray++its.toArray=(acc++its).toArray:=by simp
  have e2:(acc++its)++(List.replicate k its).flatten=acc++(List.replicate (k+1) its).flatten:=by
   rw[List.replicate_succ,List.flatten_cons,List.append_assoc]
  rw[<- e2,<- foldl_rep its k (acc++its),<- e,List.replicate_succ,List.foldl_cons]
section
variable {X:Cx}{pins:List (Addr×Obj)}{σ:St}{H:Hp}{s:Shared}{l b:Addr}{xs ys zs:List V}
theorem Inv.lset {its its':List Value}{n:Nat}{f:Array Value->Array Value}{t':Nat}(I:Inv X pins σ H s)(hH:H l=some (.lst xs))
  (e:s.heap.get? l=some { cls:=.type "list",data:=.seq its.toArray n }) (hf:f its.toArray=its'.toArray) (hv:Vals ys its') (hz:ys.length<=sizeLine) :
  Inv X pins σ (upd H l (.lst ys)) { s with heap:=s.heap.update l (Obj.mapSeq f),toks:=t' }:=by
 have q:=PySem.IsL.update e f
 rw[hf] at q
 refine I.write (x:=l) (e:=l) (by rw[hH];exact trivial) (.inl rfl) (λb' u hb hu=>(Heap.get?_update_other s.heap (Obj.mapSeq f) (Ne.symm hb)).trans hu) ⟨_,q⟩ ?_
 exact ⟨hz,its',_,hv,q⟩
theorem Inv.lnew {its:List Value}{t':Nat}(I:Inv X pins σ H s)(hv:Vals ys its)(hz:ys.length<=sizeLine) :
  Inv X pins σ (upd H s.heap.objs.size (.lst ys)) { s with heap:=s.heap.push { cls:=.type "list",data:=.seq its.toArray },toks:=t' }:=
 I.laid (λ_ _ q=>Heap.get?_push_of_some _ q) (Nat.le_refl _) ⟨hz,its,0,hv,Heap.get?_push_size _ rfl⟩
theorem Inv.fresh (I:Inv X pins σ H s):H s.heap.objs.size=none:=I.hok.fresh (Nat.le_refl _)
theorem Inv.lstM (I:Inv X pins σ H s)(hH:H l=some (.lst xs)):xs.length<=sizeLine/\∃(its:List Value)(n:Nat),Vals xs its/\xs.length=its.length/\s.heap.get? l=some { cls:=.type "list",data:=.seq its.toArray n }:=by
 obtain ⟨z,its,n,r,e⟩:=I.hok l _ hH
 exact ⟨z,its,n,r,r.length,e⟩
theorem Ga {n:Nat}(h:n<=sizeLine):Builtin.List.listTooLong n=false:=by
 unfold Builtin.List.listTooLong
 exact decide_eq_false (by lia)
end
section
variable {X:Cx}
def Gh:V->List V->Hp->VK->Prop:=λx vs H Q=>∃l xs y,x=.ref l/\vs=[y]/\H l=some (.lst xs)/\xs.length<sizeLine/\Q .non (upd H l (.lst (xs++[y])))
theorem D6:MtM X "list.append" Gh:=by
 intro pins s σ H x vs v us Q I rx rv h
 obtain ⟨l,xs,y,rfl,rfl,hH,hz,q⟩:=h
 cases rx
 obtain ⟨u,rfl,ru⟩:=rv.one
 obtain ⟨z,its,n,r,hl,e⟩:=I.lstM hH
 refine call_meets F.slot_list_append ⟨_,e,rfl⟩ F.entry_list_append (F.args_list_append_2 _ _) (PySem.list_append l its.toArray n u (by rw[List.size_toArray];lia)) ⟨e,?_⟩
 refine ⟨.non,_,I.lset (its':=its++[u]) hH e (by simp) (r.append (.cons ru .nil)) ?_,rfl,q⟩
 rw[List.length_append,List.length_singleton]
 lia
def Gg:V->List V->Hp->VK->Prop:=λx vs H Q=>∃l b xs zs,x=.ref l/\vs=[.ref b]/\H l=some (.lst xs)/\H b=some (.lst zs)/\xs.length+zs.length<=sizeLine/\Q .non (upd H l (.lst (xs++zs)))
theorem EX:MtM X "list.extend" Gg:=by
 intro pins s σ H x vs v us Q I rx rv h
 obtain ⟨l,b,xs,zs,rfl,rfl,hH,hB,hz,q⟩:=h
 cases rx
 obtain ⟨u,rfl,ru⟩:=rv.one
 cases ru
 obtain ⟨z,its,n,r,hl,e⟩:=I.lstM hH
 obtain ⟨z2,its2,n2,r2,hl2,e2⟩:=I.lstM hB
 have hsz:its.toArray.size+its2.toArray.size<=sizeLine:=by rw[List.size_toArray,List.size_toArray];lia
 have hlong:¬ (!its.toArray.isEmpty && Builtin.List.listTooLong (its.toArray.size+its2.toArray.size))=true:=by
  rw[Ga hsz,Bool.and_false]
  exact Bool.false_ne_true
 refine call_meets F.slot_list_extend ⟨_,e,rfl⟩ F.entry_list_extend (F.args_list_extend_2 _ _)
  (AutoSeq1.list_extend_list_list_0 l its.toArray n b its2.toArray n2 hlong (by rw[List.size_toArray];lia) (by lia)) ⟨e,e2,?_⟩
 refine ⟨.non,_,I.lset (its':=its++its2) hH e (by simp) (r.append r2) ?_,rfl,q⟩
 rw[List.length_append]
 lia
def GG:V->List V->Hp->VK->Prop:=λx vs H Q=>∃l xs i k y,x=.ref l/\vs=[.int i]/\H l=some (.lst xs)/\-(2 ^ 63)<=i/\i<2 ^ 63/\seqIndex? i xs.length=some k/\xs[k]? = some y/\Q y (upd H l (.lst (xs.eraseIdx k)))
theorem mt_popAt:MtM X "list.pop" GG:=by
 intro pins s σ H x vs v us Q I rx rv h
 obtain ⟨l,xs,i,k,y,rfl,rfl,hH,h1,h2,hk,hy,q⟩:=h
 cases rx
 obtain ⟨u,rfl,ru⟩:=rv.one
 obtain ⟨t,rfl⟩:=ru
 obtain ⟨z,its,n,r,hl,e⟩:=I.lstM hH
 obtain ⟨w,hw,rw'⟩:=r.get hy
 refine call_meets F.slot_list_pop ⟨_,e,rfl⟩ F.entry_list_pop (F.args_list_pop_2 _ _)
  (MeetsSeq.list_pop_at l its.toArray n i t k w (fitsIndex_both h1 h2) (by rw[List.size_toArray,<- hl];exact hk) (by rw[<- Array.getElem?_toList];exact hw) (by rw[List.size_toArray];lia)) ⟨e,?_⟩
 refine ⟨y,_,I.lset (its':=its.eraseIdx k) hH e ?_ (r.eraseIdx k) ?_,rw',q⟩
 ·show its.toArray.eraseIdxIfInBounds k=(its.eraseIdx k).toArray
  rw[List.eraseIdxIfInBounds_toArray]
 ·have:=FG xs k
  lia
def rCat:R2:=λx y H Q=>∃l b xs zs,x=.ref l/\y=.ref b/\H l=some (.lst xs)/\H b=some (.lst zs)/\xs.length+zs.length<=sizeLine/\∀p,H p=none->Q (.ref p) (upd H p (.lst (xs++zs)))
def GM:R2:=λx y H Q=>∃l k xs,x=.ref l/\y=.int k/\H l=some (.lst xs)/\-(2 ^ 63)<=k/\k<2 ^ 63/\xs.length*k.toNat<=sizeLine/\
 ∀p,H p=none->Q (.ref p) (upd H p (.lst (List.replicate k.toNat xs).flatten))
theorem len_rep {α:Type}(xs:List α)(k:Nat):(List.replicate k xs).flatten.length=k*xs.length:=by
 induction k with
 |zero=>simp
 |succ k ih=>rw[List.replicate_succ,List.flatten_cons,List.length_append,ih,Nat.succ_mul,Nat.add_comm]
theorem Ef:OpR X (binaryOp .Mult) GM:=by
 intro pins s σ H x y v u Q I rx ry h
 obtain ⟨l,k,xs,rfl,rfl,hH,h1,h2,hz,q⟩:=h
 cases rx
 obtain ⟨t,rfl⟩:=ry
 obtain ⟨z,its,n,r,hl,e⟩:=I.lstM hH
 have hlen:its.toArray.size*k.toNat<=sizeLine:=by rw[List.size_toArray,<- hl];exact hz
 have hcap:¬ its.toArray.size*k.toNat > (2 ^ 63-1)/8:=by
  have:(sizeLine:Nat)<=(2 ^ 63-1)/8:=by decide
  lia
 have hfit:¬ (!Builtin.List.listFitsIndex k)=true:=by
  rw[fitsIndex_both h1 h2]
  exact Bool.false_ne_true
 have hlong:¬ Builtin.List.listTooLong (its.toArray.size*k.toNat)=true:=by
  rw[Ga hlen]
  exact Bool.false_ne_true
 have hnew:List.foldl (λx1 x2=>x1++x2) #[] (List.replicate (if its.toArray.isEmpty=true then 0 else k.toNat) its.toArray)=(List.replicate k.toNat its).flatten.toArray:=by
  have f0:∀m:Nat,List.foldl (λx1 x2=>x1++x2) #[] (List.replicate m its.toArray)=(List.replicate m its).flatten.toArray:=λm=>by
   have:=foldl_rep its m []
   rw[List.nil_append] at this
   exact this
  rw[f0]
  cases its with
  |nil=>simp
  |cons a r'=>rw[if_neg (by simp)]
 refine wpAny_binaryOp_repeat_ref (T := "list") (U := "int") (by decide) ⟨_,e,rfl⟩ (λs'=>typeIs_int s' k t) noFill_list_mul F.fills_int_mul F.slot_int_rmul repeat_list F.slot_int_index.lookup
  (call_meets F.slot_int_rmul (typeIs_int s k t) F.entry_int_rmul (F.args_int_rmul_2 _ _) (int___rmul___int_list k t l its.toArray n)
   ⟨e,rfl,⟨_,e,rfl⟩,call_meets F.slot_list_mul ⟨_,e,rfl⟩ F.entry_list_mul (F.args_list_mul_2 _ _) (AutoListH.list___mul___list_int_3 l its.toArray n k t hfit hcap hlong) ⟨e,?_⟩⟩)
 rw[hnew]
 exact ⟨.ref _,_,I.lnew (t':=s.toks) (r.rep k.toNat) (by rw[len_rep,Nat.mul_comm];exact hz),rfl,q _ I.fresh⟩
end
open PySem PySem.Spec PyProof.Rows
theorem Vals.ints:∀{ns:List Int} {us:List Value},Vals (ns.map V.int) us->IntsAre us ns
 |[],us,h=>by
  rw[List.map_nil] at h
  cases h
  exact IntsAre.nil
 |n :: ns,us,h=>by
  rw[List.map_cons] at h
  cases h with
  |cons r t=>
   obtain ⟨k,rfl⟩:=r
   exact IntsAre.cons n k (Vals.ints t)
theorem Vals.strs:∀{xs:List Str} {us:List Value},Vals (xs.map V.str) us->StrsAre us xs
 |[],us,h=>by
  rw[List.map_nil] at h
  cases h
  exact StrsAre.nil
 |x :: xs,us,h=>by
  rw[List.map_cons] at h
  cases h with
  |cons r t=>
   obtain ⟨k,rfl⟩:=r
   exact StrsAre.cons x k (Vals.strs t)
theorem Vals.ref1 {a:Addr}{us:List Value}(r:Vals [V.ref a] us):us=[Value.ref a]:=by
 cases r with
 |cons r t=>
  cases t
  cases r
  rfl
section
variable {X:Cx}
def FW (K:Frag):V->List V->Hp->VK->Prop:=λx xs H Q=>∃(a:Addr)(ys:List V)(y:V)(j:Nat)(z:V),x=V.ref a/\xs=[y]/\SqL K H a ys/\Eh y=true/\ys.all Eh=true/\ys[j]? = some z/\eqV z y=true/\
 (∀(m:Nat)(z':V),m<j->ys[m]? = some z'->eqV z' y=false)/\Q (.int (j:Nat)) H
theorem Gn {ys:List V}(f:ys.all Eh=true){j:Nat}{z:V}(h:ys[j]? = some z):Eh z=true:=List.all_eq_true.mp f z (List.mem_of_getElem? h)
theorem mt_index:MtR X "list.index" (FW X.K):=by
 intro pins s σ H x xs v us Q I rx rxs h
 obtain ⟨a,ys,y,j,z,rfl,rfl,hs,fy,fys,hz,hzj,hno,q⟩:=h
 cases rx
 cases rxs with
 |cons ry rt=>
  rename_i uy ut
  cases rt
  obtain ⟨its,rv,⟨⟨cls,dd,data,sl⟩,n,ho,hc,hdn,hd⟩,hlen⟩:=I.list hs
  simp only at hc hd
  subst hc hd
  obtain ⟨u,hu,ru⟩:=rv.get hz
  obtain ⟨hjl,hje⟩:=List.getElem?_eq_some_iff.mp hu
  have hvl:=rv.length
  have hj:j<its.toArray.size:=by simpa using hjl
  have hsl:=sizeLine_eq
  refine call_meets PySem.F.slot_list_index ⟨_,ho,rfl⟩ PySem.F.entry_list_index (PySem.F.args_list_index_2 _ _)
   (SeqAt.list_indexAt a its.toArray n dd sl uy (eqU y) j hj (by lia) ?_ ?_) ⟨ho,λu' hu'=>En ry fy rv fys u' (by simpa using hu'),?_⟩
  ·have e1:its.toArray[j]=u:=by simpa using hje
   rw[e1,Fp ru (Gn fys hz)]
   exact hzj
  ·intro m hm hmj
   have hml:m<its.length:=by simpa using hm
   have hmy:m<ys.length:=by lia
   have hy':ys[m]? = some ys[m]:=List.getElem?_eq_getElem hmy
   obtain ⟨u2,hu2,ru2⟩:=rv.get hy'
   obtain ⟨_,hme⟩:=List.getElem?_eq_some_iff.mp hu2
   have e1:its.toArray[m]=u2:=by simpa using hme
   rw[e1,Fp ru2 (Gn fys hy')]
   exact hno m _ hmj hy'
  ·exact ⟨.int (j:Nat),H,I.tok _,⟨_,rfl⟩,q⟩
end
mutual
inductive Dp (K:Frag)(H:Hp):V->PyData->Prop
 |non:Dp K H .non .none
 |bl (b:Bool):Dp K H (.bl b) (.bool b)
 |int (i:Int):Dp K H (.int i) (.int i)
 |str (x:Str):Dp K H (.str x) (.str x)
 |lst {a:Addr} {xs:List V} {ds:List PyData}:SqL K H a xs->DpAll K H xs ds->Dp K H (.ref a) (.list ds)
 |tup {a:Addr} {xs:List V} {ds:List PyData}:SqT K H a xs->DpAll K H xs ds->Dp K H (.ref a) (.tuple ds)
inductive DpAll (K:Frag)(H:Hp):List V->List PyData->Prop
 |nil:DpAll K H [] []
 |cons {v:V} {vs:List V} {d:PyData} {ds:List PyData}:Dp K H v d->DpAll K H vs ds->DpAll K H (v :: vs) (d :: ds)
end
section
variable {X:Cx}{pins:List (Addr×Obj)}{σ:St}{H:Hp}{s:Shared}
mutual
theorem Dp.reads (I:Inv X pins σ H s):∀(d:PyData)(v:V)(u:Value),Dp X.K H v d->RelV v u->∃as,Reads s.heap u d as
 |.none,_,_,h,r=>by
  cases h
  cases r
  exact ⟨_,Reads.none⟩
 |.bool b,_,_,h,r=>by
  cases h
  cases r
  exact ⟨_,Reads.bool b⟩
 |.int i,_,_,h,r=>by
  cases h
  obtain ⟨t,rfl⟩:=r
  exact ⟨_,Reads.int i t⟩
 |.str x,_,_,h,r=>by
  cases h
  obtain ⟨t,rfl⟩:=r
  exact ⟨_,Reads.str x t⟩
 |.list ds,_,_,h,r=>by
  cases h with
  |lst hs ha=>
   cases r
   obtain ⟨its,rv,⟨o,n,ho,hc,_,hd⟩,_⟩:=I.list hs
   obtain ⟨as,hr⟩:=Dp.readsAll I ds _ its ha rv
   exact ⟨_,Reads.list ho hc hd hr⟩
 |.tuple ds,_,_,h,r=>by
  cases h with
  |tup hs ha=>
   cases r
   obtain ⟨its,rv,⟨o,ho,hc,n,hd⟩,_⟩:=I.tuple hs
   obtain ⟨as,hr⟩:=Dp.readsAll I ds _ its ha rv
   exact ⟨_,Reads.tuple ho hc hd hr⟩
 |.dict _,_,_,h,_=>by cases h
theorem Dp.readsAll (I:Inv X pins σ H s):∀(ds:List PyData)(vs:List V)(us:List Value),DpAll X.K H vs ds->Vals vs us->∃as,ReadsAll s.heap us ds as
 |[],_,_,h,r=>by
  cases h
  cases r
  exact ⟨_,ReadsAll.nil⟩
 |d :: ds,_,_,h,r=>by
  cases h with
  |cons h1 h2=>
   cases r with
   |cons r1 r2=>
    obtain ⟨as,q1⟩:=Dp.reads I d _ _ h1 r1
    obtain ⟨bs,q2⟩:=Dp.readsAll I ds _ _ h2 r2
    exact ⟨_,ReadsAll.cons q1 q2⟩
end
end
section
variable {X:Cx}
def Gz (K:Frag):R2:=λx y H Q=>∃d e,Dp K H x d/\Dp K H y e/\SeqAt.shaped d=true/\SeqAt.shaped e=true/\Q (.bl (PyData.eqv d e)) H
def GN (K:Frag):R2:=λx y H Q=>∃d e,Dp K H x d/\Dp K H y e/\SeqAt.shaped d=true/\SeqAt.shaped e=true/\Q (.bl (!PyData.eqv d e)) H
theorem op_eqD (hu:X.A.units+64<cLine):OpR X (compareOp .Eq) (Gz X.K):=by
 intro pins s σ H x y v u Q I rx ry h
 obtain ⟨d,e,hd,he,sd,se,q⟩:=h
 obtain ⟨as,r1⟩:=Dp.reads I d x v hd rx
 obtain ⟨bs,r2⟩:=Dp.reads I e y u he ry
 exact SeqAt.compareEq_shaped r1 r2 sd se hu ⟨.bl _,H,I,rfl,q⟩
theorem op_neD (hu:X.A.units+64<cLine):OpR X (compareOp .NotEq) (GN X.K):=by
 intro pins s σ H x y v u Q I rx ry h
 obtain ⟨d,e,hd,he,sd,se,q⟩:=h
 obtain ⟨as,r1⟩:=Dp.reads I d x v hd rx
 obtain ⟨bs,r2⟩:=Dp.reads I e y u he ry
 exact SeqAt.compareNe_shaped r1 r2 sd se hu ⟨.bl _,H,I,rfl,q⟩
end
open PySem PySem.Spec PyProof.Rows
abbrev GJ (h:Heap)(c:Addr)(v:Option Value):Prop:=h.IsCell c v
def relS (scope sc:Scope):Scope:=
 { scope with names:=scope.names.map λ(n,k)=>if (k == .free && sc.kind == .function && sc.names.lookup n == some .cell) then (n,.cell) else (n,k) }
def DO (cells:List (Str×Addr)):List (Str×NameKind)->List (Str×Addr)->List (Str×Addr)
 |[],acc=>acc
 |(n,k) :: r,acc=>if k == .free then DO cells r ((n,(cells.lookup n).getD 0) :: acc) else DO cells r acc
theorem E1 (env:Env)(f:Str×NameKind->List (Str×Addr)->Sem (ForInStep (List (Str×Addr))))
  (hf:∀n k c,f (n,k) c=if k == .free then (do let a <- cellOf env n;pure (.yield ((n,a) :: c))) else pure (.yield c)) :
  ∀(names:List (Str×NameKind))(acc:List (Str×Addr)),(∀y∈names,y.2=.free->∃c,env.cells.lookup y.1=some c)->forIn names acc f=pure (DO env.cells names acc)
 |[],acc,_=>by rw[List.forIn_nil];rfl
 |(n,k) :: r,acc,h=>by
  rw[List.forIn_cons,hf]
  have ih:=λacc=>E1 env f hf r acc λy hy=>h y (List.mem_cons_of_mem _ hy)
  unfold DO
  by_cases hk:(k == NameKind.free)=true
  ·rw[if_pos hk,if_pos hk]
   obtain ⟨c,hc⟩:=h (n,k) List.mem_cons_self (by simpa using hk)
   have e:cellOf env n=pure c:=by unfold cellOf;rw[hc]
   rw[e]
   have e2:(env.cells.lookup n).getD 0=c:=by rw[hc];rfl
   rw[e2]
   exact ih _
  ·rw[if_neg hk,if_neg hk]
   exact ih _
theorem closure_ok {scope:Scope}{env:Env}(h:∀y∈scope.names,y.2=.free->∃c,env.cells.lookup y.1=some c):closureFor scope env=pure (DO env.cells scope.names []):=by
 simp only[closureFor]
 rw[E1 env _ (λn k c=>rfl) scope.names [] h]
 rfl
theorem mem_lookup {α:Type}:∀{l:List (Str×α)} {n:Str} {c:α},(n,c)∈l->∃c',l.lookup n=some c'
 |(k,v) :: r,n,c,h=>by
  rw[List.lookup_cons]
  cases hb:n == k with
  |true=>exact ⟨_,rfl⟩
  |false=>
   rcases List.mem_cons.mp h with e|h
   ·cases e;simp at hb
   ·exact mem_lookup h
theorem Ep {cells:List (Str×Addr)}:∀{names:List (Str×NameKind)} {acc:List (Str×Addr)} {n:Str} {c:Addr},(n,c)∈DO cells names acc->(n,c)∈acc\/((n,.free)∈names/\c=(cells.lookup n).getD 0)
 |[],_,_,_,h=>.inl h
 |(m,k) :: r,acc,n,c,h=>by
  unfold DO at h
  split at h
  ·rename_i hk
   have hk:k=.free:=by simpa using hk
   rcases Ep h with h|⟨h1,h2⟩
   ·rcases List.mem_cons.mp h with e|h
    ·cases e;exact .inr ⟨hk ▸ List.mem_cons_self,rfl⟩
    ·exact .inl h
   ·exact .inr ⟨List.mem_cons_of_mem _ h1,h2⟩
  ·rcases Ep h with h|⟨h1,h2⟩
   ·exact .inl h
   ·exact .inr ⟨List.mem_cons_of_mem _ h1,h2⟩
theorem EJ {cells:List (Str×Addr)}:∀{names:List (Str×NameKind)} {acc:List (Str×Addr)} {p:Str×Addr},p∈acc->p∈DO cells names acc
 |[],_,_,h=>h
 |(m,k) :: r,acc,p,h=>by
  unfold DO
  split
  ·exact EJ (List.mem_cons_of_mem _ h)
  ·exact EJ h
theorem EI {cells:List (Str×Addr)}:∀{names:List (Str×NameKind)} {acc:List (Str×Addr)} {n:Str},(n,.free)∈names->(n,(cells.lookup n).getD 0)∈DO cells names acc
 |(m,k) :: r,acc,n,h=>by
  unfold DO
  rcases List.mem_cons.mp h with e|h
  ·cases e
   exact EJ List.mem_cons_self
  ·split
   ·exact EI h
   ·exact EI h
theorem Es:∀{names:List (Str×NameKind)} {h:Heap} {acc:List (Str×Addr)} {x:Str} {c:Addr},(x,c)∈cellsFrom h.objs.size names acc->
  (x,c)∈acc\/((x,.cell)∈names/\h.objs.size<=c/\GJ (pushCells h names) c none)
 |[],_,_,_,_,h=>.inl h
 |(n,k) :: r,h,acc,x,c,hm=>by
  unfold cellsFrom at hm
  unfold pushCells
  split at hm
  ·rename_i hk
   rw[if_pos hk]
   have hk:k=.cell:=by simpa using hk
   rw[<- Heap.size_push h { cls:=.type "cell",data:=.cell none }] at hm
   rcases Es hm with hm|⟨h1,h2,h3⟩
   ·rcases List.mem_cons.mp hm with e|hm
    ·cases e
     exact .inr ⟨hk ▸ List.mem_cons_self,Nat.le_refl _,_,pushCells_keeps r _ _ _ (Heap.get?_push_size _ rfl),rfl⟩
    ·exact .inl hm
   ·rw[Heap.size_push] at h2
    exact .inr ⟨List.mem_cons_of_mem _ h1,Nat.le_of_succ_le h2,h3⟩
  ·rename_i hk
   rw[if_neg hk]
   rcases Es hm with hm|⟨h1,h2,h3⟩
   ·exact .inl hm
   ·exact .inr ⟨List.mem_cons_of_mem _ h1,h2,h3⟩
theorem EE:∀{names:List (Str×NameKind)} {n:Nat} {acc:List (Str×Addr)} {p:Str×Addr},p∈acc->p∈cellsFrom n names acc
 |[],_,_,_,h=>h
 |(m,k) :: r,n,acc,p,h=>by
  unfold cellsFrom
  split
  ·exact EE (List.mem_cons_of_mem _ h)
  ·exact EE h
theorem E3:∀{names:List (Str×NameKind)} {n:Nat} {acc:List (Str×Addr)} {x:Str},(x,.cell)∈names->∃c,(x,c)∈cellsFrom n names acc
 |(m,k) :: r,n,acc,x,h=>by
  unfold cellsFrom
  rcases List.mem_cons.mp h with e|h
  ·cases e
   exact ⟨n,EE List.mem_cons_self⟩
  ·split
   ·exact E3 h
   ·exact E3 h
theorem E2:∀{names:List (Str×NameKind)} {h:Heap} {acc:List (Str×Addr)} {x y:Str} {c:Addr},(∀p∈acc,p.2<h.objs.size)->(∀x y c,(x,c)∈acc->(y,c)∈acc->x=y)->
  (x,c)∈cellsFrom h.objs.size names acc->(y,c)∈cellsFrom h.objs.size names acc->x=y
 |[],_,_,_,_,_,_,hi,h1,h2=>hi _ _ _ h1 h2
 |(n,k) :: r,h,acc,x,y,c,hl,hi,h1,h2=>by
  unfold cellsFrom at h1 h2
  split at h1
  ·rename_i hk
   rw[if_pos hk] at h2
   rw[<- Heap.size_push h { cls:=.type "cell",data:=.cell none }] at h1 h2
   refine E2 (h:=h.push _) (λp hp=>?_) (λx y c a b=>?_) h1 h2
   ·rw[Heap.size_push]
    rcases List.mem_cons.mp hp with rfl|hp
    ·exact Nat.lt_succ_self _
    ·exact Nat.lt_succ_of_lt (hl p hp)
   ·rcases List.mem_cons.mp a with e|a<;>rcases List.mem_cons.mp b with e'|b
    ·cases e;cases e';rfl
    ·cases e;exact absurd (hl _ b) (Nat.lt_irrefl _)
    ·cases e';exact absurd (hl _ a) (Nat.lt_irrefl _)
    ·exact hi _ _ _ a b
  ·rename_i hk
   rw[if_neg hk] at h2
   exact E2 hl hi h1 h2
theorem newEnv_comp {M:Model}{A:Around}{E:Value->Shared->Prop}{s:Shared}{scope:Scope}{globals:Addr}{closure:List (Str×Addr)}{qual:Str}{func:Option Addr}{code:Value}{around:Env}{builtins:Addr}{Q:Env->Shared->Prop}
  (h:Q (newEnv scope s.heap.objs.size globals (cellsFrom (s.heap.objs.size+1) scope.names closure) qual func code (some around) builtins)
   { s with heap:=pushCells (s.heap.push { cls:=.type "dict",data:=.dict #[] }) scope.names }) :
  wpAny M A (newFunctionEnv scope globals closure [] qual func code (some around) builtins) Q E s:=by
 simp only[newFunctionEnv,Option.isSome_some,if_true]
 refine wpAny_bind (wpAny_alloc ?_)
 refine wpAny_bind (wpAny_layCells _ (λn k c=>rfl) scope.names closure _ _ ?_)
 rw[show ({ s with heap:=s.heap.push { cls:=.type "dict",data:=.dict #[] } }:Shared).heap.objs.size=s.heap.objs.size+1 from Heap.size_push ..]
 rw[List.forIn_nil]
 exact wpAny_bind (wpAny_pure (wpAny_pure h))
theorem EH {sc:Scope}:∀{names:List (Str×NameKind)} {x:Str} {k:NameKind},
  (names.map λ(n,k)=>if (k == NameKind.free && sc.kind == .function && sc.names.lookup n == some .cell) then (n,NameKind.cell) else (n,k)).lookup x=some k->
  ∃k',names.lookup x=some k'/\(k=k'\/(k'=.free/\k=.cell))
 |[],_,_,h=>by simp at h
 |(n,k₀) :: r,x,k,h=>by
  have ih:=@EH sc r x k
  have h':List.lookup x ((if (k₀ == NameKind.free && sc.kind == .function && sc.names.lookup n == some .cell)=true then (n,NameKind.cell) else (n,k₀)) :: (r.map _))=some k:=h
  cases hx:x == n with
  |true=>
   simp only[List.lookup_cons,hx]
   by_cases hc:(k₀ == NameKind.free && sc.kind == .function && sc.names.lookup n == some .cell)=true
   ·rw[if_pos hc] at h'
    simp only[List.lookup_cons,hx] at h'
    cases h'
    simp only[Bool.and_eq_true,beq_iff_eq] at hc
    exact ⟨k₀,rfl,.inr ⟨hc.1.1,rfl⟩⟩
   ·rw[if_neg hc] at h'
    simp only[List.lookup_cons,hx] at h'
    cases h'
    exact ⟨_,rfl,.inl rfl⟩
  |false=>
   simp only[List.lookup_cons,hx]
   by_cases hc:(k₀ == NameKind.free && sc.kind == .function && sc.names.lookup n == some .cell)=true
   ·rw[if_pos hc] at h'
    simp only[List.lookup_cons,hx] at h'
    exact ih h'
   ·rw[if_neg hc] at h'
    simp only[List.lookup_cons,hx] at h'
    exact ih h'
structure BlkOk (N:List Str)(sc scope:Scope)(own:List (Str×Nat)):Prop where
 kind:scope.kind=.function
 uniq:∀y∈scope.names,scope.names.lookup y.1=some y.2
 ix:∀p∈own,N[p.2]? = some p.1
 free:∀y∈scope.names,y.2=.free->sc.names.lookup y.1=some .cell\/sc.names.lookup y.1=some .free
 own:∀y∈scope.names,y.2=.local\/y.2=.cell->y.1∈own.map (·.1)\/y.1 ∉ N
def wipe (σ:St):List Nat->St
 |[]=>σ
 |v :: vs=>(wipe σ vs).set v none
theorem EG (σ:St):∀vs:List Nat,(wipe σ vs).length = σ.length
 |[]=>rfl
 |v :: vs=>by unfold wipe;rw[List.length_set,EG σ vs]
theorem EV {σ:St}{i:Nat}{x:V}:∀{vs:List Nat},(wipe σ vs)[i]? = some (some x)->σ[i]? = some (some x)/\i ∉ vs
 |[],h=>⟨h,by simp⟩
 |v :: vs,h=>by
  unfold wipe at h
  by_cases hi:v=i
  ·subst hi
   by_cases hv:v<(wipe σ vs).length
   ·rw[List.getElem?_set_self hv] at h;cases h
   ·rw[List.getElem?_eq_none (by simpa using hv)] at h;cases h
  ·rw[List.getElem?_set_ne hi] at h
   obtain ⟨h1,h2⟩:=EV h
   exact ⟨h1,by simp only[List.mem_cons,not_or];exact ⟨λe=>hi e.symm,h2⟩⟩
abbrev Cx.blk (X:Cx)(s:Shared)(H:Hp)(scope:Scope)(cenv:Env)(fp:List Addr):Cx:={ X with s_0:=s,H_0:=H,env:=cenv,outer:=X.stack,ex:=fp,fn:=λx=>scope.names.lookup x == some .cell,pn:=[],xe:=λ_ _=>False }
section
variable {X:Cx}{pins:List (Addr×Obj)}{σ:St}{H:Hp}{s:Shared}
theorem block_start {scope:Scope}{own:List (Str×Nat)}{fp:List Addr}(I:Inv X pins σ H s)(ok:BlkOk X.N X.env.scope scope own)(hN:X.N.Nodup)(hfp:∀b∈fp,Ev X pins H b/\b<s.heap.objs.size) :
  Inv (X.blk s H scope (compEnvC scope (cellsFrom (s.heap.objs.size+1) scope.names (DO X.env.cells scope.names [])) s.heap.objs.size X.env) fp) [] (wipe σ (own.map (·.2))) H { s with heap:=pushCells (s.heap.push { cls:=.type "dict",data:=.dict #[] }) scope.names }:=by
 have hfree:∀y∈scope.names,y.2=.free->∃c,X.env.cells.lookup y.1=some c:=λy hy e=>by
  rcases ok.free y hy e with k|k
  ·exact I.ok.has _ (.inl k)
  ·exact I.ok.has _ (.inr k)
 generalize hcenv:compEnvC scope (cellsFrom (s.heap.objs.size+1) scope.names (DO X.env.cells scope.names [])) s.heap.objs.size X.env=cenv
 have kp:∀b o,s.heap.get? b=some o->(pushCells (s.heap.push { cls:=.type "dict",data:=.dict #[] }) scope.names).get? b=some o:=λb o e=>pushCells_keeps _ _ _ _ (Heap.get?_push_of_some _ e)
 have hL:cenv.locals=s.heap.objs.size:=by rw[<- hcenv];rfl
 have hcl:cenv.cells=cellsFrom (s.heap.objs.size+1) scope.names (DO X.env.cells scope.names []):=by rw[<- hcenv];rfl
 have hsc:cenv.scope=relS scope X.env.scope:=by rw[<- hcenv];rfl
 rw[<- Heap.size_push s.heap { cls:=.type "dict",data:=.dict #[] }] at hcl
 have cm:∀{y c},(y,c)∈DO X.env.cells scope.names []->X.env.cells.lookup y=some c/\c<s.heap.objs.size:=λ{y c} hm=>by
  rcases Ep hm with hm|⟨h1,rfl⟩
  ·cases hm
  ·obtain ⟨c,hc⟩:=hfree _ h1 rfl
   rw[hc]
   obtain ⟨w,z⟩:=I.cell _ _ hc
   exact ⟨rfl,z.lt⟩
 have mem:∀{y c},cenv.cells.lookup y=some c->(X.env.cells.lookup y=some c/\c<s.heap.objs.size)\/(s.heap.objs.size+1<=c/\GJ (pushCells (s.heap.push { cls:=.type "dict",data:=.dict #[] }) scope.names) c none):=λ{y c} e=>by
  rw[hcl] at e
  rcases Es (PySem.mem_of_lookup e) with hm|⟨_,h2,h3⟩
  ·exact .inl (cm hm)
  ·rw[Heap.size_push] at h2;exact .inr ⟨h2,h3⟩
 have look:∀{y},scope.names.lookup y=some .free->∃c,cenv.cells.lookup y=some c/\X.env.cells.lookup y=some c:=λ{y} hl=>by
  have hy:(y,NameKind.free)∈scope.names:=PySem.mem_of_lookup hl
  obtain ⟨c',e'⟩:=mem_lookup (EE (names:=scope.names) (n:=(s.heap.push { cls:=.type "dict",data:=.dict #[] }).objs.size) (EI (cells:=X.env.cells) (acc:=[]) hy))
  rw[<- hcl] at e'
  refine ⟨c',e',?_⟩
  rw[hcl] at e'
  rcases Es (PySem.mem_of_lookup e') with hm|⟨h1,_,_⟩
  ·exact (cm hm).1
  ·have:=ok.uniq _ h1
   rw[hl] at this;cases this
 have okB:(X.blk s H scope cenv fp).Ok:=by
  refine ⟨I.ok.mod,by show cenv.scope.kind=_;rw[hsc];exact ok.kind,by show cenv.globals=_;rw[<- hcenv];exact I.ok.glob,by show cenv.builtins=_;rw[<- hcenv];exact I.ok.blt,by show s.heap.objs.size<=cenv.locals;rw[hL];exact Nat.le_refl _,
   λy z c e1 e2=>?_,λy hy=>?_,λy c z e=>?_,I.ok.hd,I.ok.frames,.inl rfl,λb hb=>⟨?_,λy c e z=>?_⟩,I.bs,Nat.le_trans I.ok.bsz I.sz,λb o e hb=>?_,λb hb z=>?_,I.stack,I.stkFree⟩
  ·have e1:cenv.cells.lookup y=some c:=e1
   have e2:cenv.cells.lookup z=some c:=e2
   rw[hcl] at e1 e2
   refine E2 (λp hp=>?_) (λy z c a b=>I.ok.inj y z c (cm a).1 (cm b).1) (PySem.mem_of_lookup e1) (PySem.mem_of_lookup e2)
   rw[Heap.size_push]
   exact Nat.lt_succ_of_lt (cm (y:=p.1) (c:=p.2) hp).2
  ·show ∃c,cenv.cells.lookup y=some c
   have key:∀k,cenv.kindOf y=some k->(k=.cell\/k=.free)->∃c,cenv.cells.lookup y=some c:=λk hk hk'=>by
    unfold Env.kindOf at hk
    rw[hsc] at hk
    obtain ⟨k',e,r⟩:=EH hk
    have:k'=.cell\/k'=.free:=by
     rcases r with rfl|⟨rfl,_⟩
     ·exact hk'
     ·exact .inr rfl
    rcases this with rfl|rfl
    ·obtain ⟨c,hm⟩:=E3 (n:=(s.heap.push { cls:=.type "dict",data:=.dict #[] }).objs.size) (acc:=DO X.env.cells scope.names []) (PySem.mem_of_lookup e)
     obtain ⟨c',e'⟩:=mem_lookup hm
     exact ⟨c',by rw[hcl];exact e'⟩
    ·obtain ⟨c,h1,_⟩:=look e
     exact ⟨c,h1⟩
   rcases hy with hy|hy
   ·exact key _ hy (.inl rfl)
   ·exact key _ hy (.inr rfl)
  ·have z:(scope.names.lookup y == some NameKind.cell)=true:=z
   have z:scope.names.lookup y=some .cell:=by simpa using z
   have e:cenv.cells.lookup y=some c:=e
   rw[hcl] at e
   rcases Es (PySem.mem_of_lookup e) with hm|⟨_,h2,_⟩
   ·rcases Ep hm with hm|⟨h1,_⟩
    ·cases hm
    ·have q:=ok.uniq _ h1
     rw[z] at q;cases q
   ·rw[Heap.size_push] at h2
    exact Nat.le_of_succ_le h2
  ·show b≠cenv.locals
   rw[hL];exact Nat.ne_of_lt (hfp b hb).2
  ·have e:cenv.cells.lookup y=some c:=e
   rcases mem e with ⟨h1,_⟩|⟨h1,_⟩
   ·exact (hfp b hb).1.2.2.2.2.1 y c h1 z
   ·have h2:s.heap.objs.size+1<=b:=by rw[<- z];exact h1
    exact absurd (Nat.lt_of_lt_of_le (hfp b hb).2 (Nat.le_of_succ_le h2)) (Nat.lt_irrefl _)
  ·rcases (hfp b hb).1.2.2.2.1 with z|z
   ·exact I.ok.noex b o e z
   ·exact absurd (Nat.lt_of_lt_of_le (Heap.lt_size e) (Nat.le_trans I.ok.bsz z)) (Nat.lt_irrefl _)
  ·rcases List.mem_cons.mp (I.stkSub b z) with z|z
   ·exact (hfp b hb).1.2.1 z
   ·exact (hfp b hb).1.2.2.1 z
 refine ⟨okB,rfl,I.bare,Un.kept kp,⟨λ_=>none,?_,λi y av e1 e2 e3=>?_⟩,λy c e=>?_,?_,λy c e=>?_,λp hp=>?_,I.hok.kept kp,by rw[EG];exact I.len⟩
 ·show Heap.Ns _ cenv.locals _
  rw[hL]
  exact Heap.Ns.keeps (Heap.Ns.new ..) λb o e=>pushCells_keeps _ _ _ _ e
 ·obtain ⟨e2,hne⟩:=EV e2
  have hfr:scope.names.lookup y=some .free/\(cenv.kindOf y=some .cell\/cenv.kindOf y=some .free):=by
   have key:∀k,cenv.scope.names.lookup y=some k->k=.local\/k=.cell\/k=.free->scope.names.lookup y=some .free/\(cenv.kindOf y=some .cell\/cenv.kindOf y=some .free):=λk hk hk'=>by
    have hk0:=hk
    rw[hsc] at hk
    obtain ⟨k',e,r⟩:=EH hk
    have no:¬ (k'=.local\/k'=.cell):=λhh=>by
     rcases ok.own _ (PySem.mem_of_lookup e) hh with e'|e'
     ·obtain ⟨p,hp,hpy⟩:=List.mem_map.mp e'
      have e3:=ok.ix p hp
      have:p.1=y:=hpy
      rw[this] at e3
      exact hne (List.mem_map.mpr ⟨p,hp,Ff hN e3 e1⟩)
     ·exact e' (List.mem_of_getElem? e1)
    rcases r with rfl|⟨rfl,rfl⟩
    ·rcases hk' with rfl|rfl|rfl
     ·exact absurd (.inl rfl) no
     ·exact absurd (.inr rfl) no
     ·exact ⟨e,.inr hk0⟩
    ·exact ⟨e,.inl hk0⟩
   have e3:Vis cenv.scope y:=e3
   rcases e3 with e3|e3|e3
   ·exact key _ e3 (.inl rfl)
   ·exact key _ e3 (.inr (.inl rfl))
   ·exact key _ e3 (.inr (.inr rfl))
  obtain ⟨m,hn,hl⟩:=I.loc
  have hvis:Vis X.env.scope y:=(ok.free _ (PySem.mem_of_lookup hfr.1) rfl).elim (λk=>.inr (.inl k)) (λk=>.inr (.inr k))
  obtain ⟨w,r,q⟩:=hl i y av e1 e2 hvis
  refine ⟨w,r,.inr ⟨hfr.2,?_⟩⟩
  obtain ⟨c,h1,h2⟩:=look hfr.1
  rcases q with ⟨k,_⟩|⟨_,c',e',z⟩
  ·have k:X.env.scope.names.lookup y=some .local:=k
   rcases ok.free _ (PySem.mem_of_lookup hfr.1) rfl with k'|k'<;>rw[show X.env.scope.names.lookup y=_ from k'] at k<;>cases k
  ·rw[h2] at e';cases e'
   exact ⟨c,h1,z.keeps kp⟩
 ·have e:cenv.cells.lookup y=some c:=e
  rcases mem e with ⟨h1,_⟩|⟨_,z⟩
  ·obtain ⟨w,z⟩:=I.cell y c h1
   exact ⟨w,z.keeps kp⟩
  ·exact ⟨_,z⟩
 ·show H cenv.locals=none
  rw[hL];exact I.hok.fresh (Nat.le_refl _)
 ·have e:cenv.cells.lookup y=some c:=e
  rcases mem e with ⟨h1,_⟩|⟨h1,_⟩
  ·exact I.freeC y c h1
  ·exact I.hok.fresh (Nat.le_of_succ_le h1)
 ·exact absurd (show p∈([]:List (Addr×Obj))++[] from hp) (by simp)
theorem app_ok {E:Value->Shared->Prop}{D:Addr}{xs:List V}{y:V}{v:Value}{Q:Value->Shared->Prop}(I:Inv X pins σ H s)(hD:H D=some (.lst xs))(hz:xs.length<sizeLine)(r:RelV y v)
  (h:∀s',Inv X pins σ (upd H D (.lst (xs++[y]))) s'->Q .none s'):wpAny (model X.prog X.w) X.A (call (.builtin "list.append") [.ref D,v]) Q E s:=by
 obtain ⟨hz',its,n,ri,e⟩:=I.hok D _ hD
 have hl:=ri.length
 refine append_at (hsz:=by rw[List.size_toArray];lia) e λh' sb ho'=>?_
 refine h { s with heap:=h' } (I.write (t':=s.toks) (by rw[hD];trivial) (.inl rfl) (λb u hb q=>(sb.2 b hb).trans q) ⟨_,ho'⟩ ⟨by rw[List.length_append];exact hz,its++[v],n+1,ri.append (.cons r .nil),?_⟩)
 rw[ho']
 simp
def PTs (X:Cx)(ifs:List Expr)(t:TT):Prop:=
 ∀(pins:List (Addr×Obj))(s:Shared)(σ:St)(H:Hp)(Q:Bool->Hp->Prop),Inv X pins σ H s->t σ H Q->
  wpAny (model X.prog X.w) X.A (forIn ifs true λc r=>if r=true then do let ok <- isTrue c X.env (eval c X.env);pure (ForInStep.yield ok) else pure (ForInStep.yield r)) (TP X pins σ Q) X.xe s
def Ew:TT:=λ_ H Q=>Q true H
theorem DM:PTs X [] Ew:=λ_ _ _ H _ I h=>wpAny_tests_nil ⟨H,I,h⟩
theorem Fx {c:Expr}{t:TT}(h:PT X c t):PTs X [c] t:=λpins s σ H Q I hw=>wpAny_tests_one (h pins s σ H Q I hw)
end
theorem Fu {α:Type}{t:Sem α}{Q Q':α->Shared->Prop}{M:Model}{A:Around}{E:Value->Shared->Prop}{s:Shared}(h:wpAny M A t Q (λ_ _=>False) s)(hQ:∀a s,Q a s->Q' a s):wpAny M A t Q' E s:=wpAny_mono h hQ λ_ _ z=>False.elim z
theorem compLoop_any {prog:Program}{w:World}{A:Around}{R:Result->Shared->Prop}{s:Shared}{elt target iter:Expr}{ifs:List Expr}{scope:Scope}{pos:Pos}{it acc:Value}{env:Env}(I:Nat->Shared->Prop)
  (turn:∀n s,I n s->wpAny (model prog w) A (pyNext it) (λr s₁=>match r with
   |none=>R (.ok .next) s₁
   | some v=>wpAny (model prog w) A (letOwnedTupleGo target it v) (λ_ s₁'=>wpAny (model prog w) A (assign target env v) (λ_ s₂=>
     wpAny (model prog w) A (forIn ifs true λc r=>if r=true then do let ok <- isTrue c env (eval c env);pure (ForInStep.yield ok) else pure (ForInStep.yield r)) (λok s₃=>
      if ok=true then wpAny (model prog w) A (eval elt env) (λx s₄=>
       wpAny (model prog w) A (call (.builtin "list.append") [acc,x]) (λ_ s₅=>∃m,m<n/\I m s₅) (notedBy (model prog w) A env λe s'=>R (.error e) s') s₄) (notedBy (model prog w) A env λe s'=>R (.error e) s') s₃
      else ∃m,m<n/\I m s₃) (notedBy (model prog w) A env λe s'=>R (.error e) s') s₂) (notedBy (model prog w) A env λe s'=>R (.error e) s') s₁') (notedBy (model prog w) A env λe s'=>R (.error e) s') s₁) (notedBy (model prog w) A env λe s'=>R (.error e) s') s)
  (n:Nat) (h:I n s) :
  codeAny (model prog w) A (.compLoop (.ListComp elt [⟨target,iter,ifs,0⟩] scope pos) 0 it acc env) R s:=by
 refine codeAny_loop rfl I (λn s hI=>?_) n h
 show wpAny _ A ((compTurn (.ListComp elt [⟨target,iter,ifs,0⟩] scope pos) 0 it acc env).onRaise (λx=>do noteFrame x env;theTreesLotGoes x)) _ _ s
 refine wpAny_noted ?_
 rw[compTurn_list]
 refine wpAny_bind (wpAny_standAt (wpAny_bind (wpAny_mono (turn n s hI) (λr s₁ h₁=>?_) λ_ _ h'=>h')))
 cases r with
 |none=>exact wpAny_pure h₁
 |some v=>
  refine wpAny_bind (wpAny_mono h₁ (λ_ s₁' h₁'=>?_) λ_ _ h'=>h')
  refine wpAny_bind (wpAny_mono h₁' (λ_ s₂ h₂=>wpAny_bind (wpAny_mono h₂ (λok s₃ h₃=>?_) λ_ _ h'=>h')) λ_ _ h'=>h')
  cases ok with
  |false=>exact wpAny_pure ⟨rfl,h₃⟩
  |true=>
   exact wpAny_bind (wpAny_bind (wpAny_mono h₃ (λx s₄ h₄=>wpAny_bind (wpAny_mono h₄ (λ_ s₅ h₅=>wpAny_pure (wpAny_pure ⟨rfl,h₅⟩)) λ_ _ h'=>h')) λ_ _ h'=>h'))
section
variable {X:Cx}
def tLc (wi:TI)(g:TG)(tt:TT)(te:TE)(vs:List Nat):TE:=λσ H Q=>wi σ H λJ H1=>∀D,H1 D=none->∃W:Nat->Nat->Hp->Prop,(∃m,W 0 m (upd H1 D (.lst [])))/\∀i m H,W i m H->
 (J.stop i H/\Q (.ref D) H)\/(J.go i H/\∃Nx:Hp->Prop,(∀H',Nx H'->∃m',m'<m/\W (i+1) m' H')/\∀x H',J.yld i H x H'->g x (wipe σ vs) H' λσ2 H2=>wipe σ2 vs=wipe σ vs/\tt σ2 H2 λb H3=>
  if b=true then te σ2 H3 λy H4=>∃acc,H4 D=some (.lst acc)/\acc.length<sizeLine/\Nx (upd H4 D (.lst (acc++[y]))) else Nx H3)
theorem Gk {pins:List (Addr×Obj)}{s:Shared}{σ:St}{H:Hp}{Q:VK}{elt tg iter:Expr}{ifs:List Expr}{scope:Scope}{own:List (Str×Nat)}{pos pos':Pos}{wi:TI}{g:TG}{tt:TT}{te:TE}{use:Option (Value->Sem Unit)}{Qf:Value->Shared->Prop}
  (hc:X.calm=true) (hN:X.N.Nodup) (I:Inv X pins σ H s) (hi:PI X tg iter wi) (ok:BlkOk X.N X.env.scope scope own)
  (hg:∀(s:Shared)(H:Hp)(C:Addr)(cl:List (Str×Addr))(fp:List Addr),PG (X.blk s H scope (compEnvC scope cl C X.env) fp) tg g) (ht:∀(s:Shared)(H:Hp)(C:Addr)(cl:List (Str×Addr))(fp:List Addr),PTs (X.blk s H scope (compEnvC scope cl C X.env) fp) ifs tt)
  (he:∀(s:Shared)(H:Hp)(C:Addr)(cl:List (Str×Addr))(fp:List Addr),PE (X.blk s H scope (compEnvC scope cl C X.env) fp) elt te) (hs:∀x,foldedSetIterable iter X.env x=pure x)
  (h:tLc wi g tt te (own.map (·.2)) σ H Q)
  (hRR:∀D C s' m H',Inv X pins σ H' s'->Q (.ref D) H'->s'.heap.Ns C m->Ev X pins H' C->compPost (model X.prog X.w) X.A X.xe use Qf (.ref D) C (.ok .next) s') :
  wpAny (model X.prog X.w) X.A (comprehension (.ListComp elt [⟨tg,iter,ifs,0⟩] scope pos) scope X.env pos' (newList []) false (eval iter X.env) use) Qf X.xe s:=by
 have hfree:∀y∈scope.names,y.2=.free->∃c,X.env.cells.lookup y.1=some c:=λy hy e=>by
  rcases ok.free y hy e with k|k
  ·exact I.ok.has _ (.inl k)
  ·exact I.ok.has _ (.inr k)
 refine wpAny_comprehension_free (use:=use) rfl hs (closure_ok hfree) ok.kind (λy hy e=>by rw[ok.uniq y hy,e])
  (thn (hi pins s σ H _ I h) λxv s1 hx=>thn hx λitv s2 h2=>?_)
 obtain ⟨it,fp,tn,J,H2,e,I2,T,st2,f2,q⟩:=h2
 subst e
 refine wpAny_newObj_type (newEnv_comp ?_) (by show 0<=sizeLine;decide)
 generalize hD:s2.heap.objs.size=D
 have hDn:H2 D=none:=I2.hok.fresh (Nat.le_of_eq hD)
 obtain ⟨W,⟨m0,w0⟩,turn⟩:=q D hDn
 generalize hs3:({ s2 with heap:=s2.heap.push { cls:=.type "list",data:=.seq ([]:List Value).toArray } }:Shared)=s3
 have I3:Inv X pins σ (upd H2 D (.lst [])) s3:=by
  rw[<- hs3]
  refine I2.laid (t':=s2.toks) (λb o e=>Heap.get?_push_of_some _ e) (Nat.le_of_eq hD) ⟨Nat.zero_le _,[],0,.nil,?_⟩
  rw[<- hD]
  exact Heap.get?_push_size _ rfl
 have h3:s3.heap=s2.heap.push { cls:=.type "list",data:=.seq ([]:List Value).toArray }:=by rw[<- hs3]
 have sz:∀b∈fp,b<s2.heap.objs.size:=λb hb=>by
  obtain ⟨o,e,_⟩:=T.obj _ _ st2 b hb
  exact Heap.lt_size e
 have f3:∀b∈fp,Ev X pins (upd H2 D (.lst [])) b/\b<s3.heap.objs.size:=λb hb=>by
  have hlt:=sz b hb
  refine ⟨⟨?_,(f2 b hb).2⟩,by rw[h3,Heap.size_push];exact Nat.lt_succ_of_lt hlt⟩
  rw[Dz (by rw[<- hD];exact Nat.ne_of_lt hlt)]
  exact (f2 b hb).1
 have st3:tn 0 s3.heap:=T.keep _ _ _ st2 λb _ o e=>by rw[h3];exact Heap.get?_push_of_some _ e
 have I4:=block_start I3 ok hN f3
 have pg:=hg s3 (upd H2 D (.lst [])) s3.heap.objs.size (cellsFrom (s3.heap.objs.size+1) scope.names (DO X.env.cells scope.names [])) fp
 have pt:=ht s3 (upd H2 D (.lst [])) s3.heap.objs.size (cellsFrom (s3.heap.objs.size+1) scope.names (DO X.env.cells scope.names [])) fp
 have pe:=he s3 (upd H2 D (.lst [])) s3.heap.objs.size (cellsFrom (s3.heap.objs.size+1) scope.names (DO X.env.cells scope.names [])) fp
 show codeAny _ _ (.compStart (.ListComp elt [⟨tg,iter,ifs,0⟩] scope pos) 0 (.ref it) (.ref D) (compEnvC scope (cellsFrom (s3.heap.objs.size+1) scope.names (DO X.env.cells scope.names [])) s3.heap.objs.size X.env)) (compPost (model X.prog X.w) X.A X.xe use Qf (.ref D) s3.heap.objs.size) { s3 with heap:=pushCells (s3.heap.push { cls:=.type "dict",data:=.dict #[] }) scope.names }
 have nfp:∀b∈fp,(upd H2 D (.lst [])) b=none:=λb hb=>(f3 b hb).1.1
 generalize hce:compEnvC scope (cellsFrom (s3.heap.objs.size+1) scope.names (DO X.env.cells scope.names [])) s3.heap.objs.size X.env=ce at I4 pg pt pe ⊢
 have cL:ce.locals=s3.heap.objs.size:=by subst hce;rfl
 generalize hH3:upd H2 D (.lst [])=H3 at I3 I4 pg pt pe w0 nfp f3
 generalize hs4:({ s3 with heap:=pushCells (s3.heap.push { cls:=.type "dict",data:=.dict #[] }) scope.names }:Shared)=s4 at I4 ⊢
 have st4:tn 0 s4.heap:=T.keep _ _ _ st3 λb _ o e=>by rw[<- hs4];exact pushCells_keeps _ _ _ _ (Heap.get?_push_of_some _ e)
 have stat:∀{σ':St} {H':Hp} {s':Shared},Inv (X.blk s3 H3 scope ce fp) [] σ' H' s'->(∀b∈fp,H' b=none)->∀b∈fp,Ev (X.blk s3 H3 scope ce fp) [] H' b:=λ{σ' H' s'} I' hn b hb=>
  ⟨hn b hb,(I'.ok.exf b hb).1,I'.ok.exfs b hb,.inl hb,λx c e=>(I'.ok.exf b hb).2 x c e,λp hp=>absurd (show p∈([]:List (Addr×Obj))++[] from hp) (by simp)⟩
 have loop:codeAny (model X.prog X.w) X.A (.compLoop (.ListComp elt [⟨tg,iter,ifs,0⟩] scope pos) 0 (.ref it) (.ref D) ce) (compPost (model X.prog X.w) X.A X.xe use Qf (.ref D) s3.heap.objs.size) s4:=by
  refine compLoop_any (λn s'=>∃i H',Inv (X.blk s3 H3 scope ce fp) [] (wipe σ (own.map (·.2))) H' s'/\tn i s'.heap/\(∀b∈fp,H' b=none)/\W i n H') ?_ m0 ⟨0,H3,I4,st4,nfp,w0⟩
  rintro n s5 ⟨i,H5,I5,st5,n5,w5⟩
  rcases turn i n H5 w5 with ⟨stop,qq⟩|⟨go,Nx,hNx,step⟩
  ·have td:=T.done (X.blk s3 H3 scope ce fp) rfl rfl rfl hc i [] s5 _ H5 (λ_ _=>False) I5 (stat I5 n5) st5 stop
   refine Fu td λr s6 ⟨hr,I6⟩=>?_
   subst hr
   have I7:Inv X pins σ H5 s6:=I3.call' (ch:=fp) I6.os I6.base I6.hok I6.bare λb hb=>⟨(f3 b hb).1.2.2.2.1,(f3 b hb).1.2.1,(f3 b hb).1.2.2.2.2.1,(f3 b hb).1.2.2.2.2.2⟩
   have nC:H5 s3.heap.objs.size=none:=by
    have z:H5 ce.locals=none:=I6.free
    rw[cL] at z
    exact z
   obtain ⟨m,hn,_⟩:=I6.loc
   have hn:s6.heap.Ns ce.locals m:=hn
   rw[cL] at hn
   exact hRR D s3.heap.objs.size s6 m H5 I7 qq hn (I3.fpOk (Nat.le_refl _) nC)
  ·have ti:=T.item (X.blk s3 H3 scope ce fp) rfl rfl rfl hc i [] s5 _ H5 (λ_ _=>False) I5 (stat I5 n5) st5 go
   refine Fu ti λr s6 ⟨u,hr,h6⟩=>?_
   subst hr
   refine Fu h6 λ_ s7 ⟨x,H7,I7,r7,y7,st7,n7⟩=>?_
   have I7':=I7.pinned (stat I7 n7) (T.obj _ _ st7)
   refine Fu (pg _ s7 _ H7 x u _ I7' r7 (step x H7 y7)) λ_ s8 ⟨σ8,H8,I8,hw8,q8⟩=>?_
   refine Fu (pt _ s8 σ8 H8 _ I8 q8) λb s9 ⟨H9,I9,q9⟩=>?_
   have fin:∀{s':Shared} {H':Hp},Inv (X.blk s3 H3 scope ce fp) ([]++EW fp s7.heap) σ8 H' s'->Nx H'->∃m,m<n/\∃i H',Inv (X.blk s3 H3 scope ce fp) [] (wipe σ (own.map (·.2))) H' s'/\tn i s'.heap/\(∀b∈fp,H' b=none)/\W i m H':=λ{s' H'} I' nx=>by
    obtain ⟨m',hm,w'⟩:=hNx H' nx
    have pin':∀b∈fp,∀o,s7.heap.get? b=some o->s'.heap.get? b=some o/\H' b=none:=λb hb o e=>
     let z:=I'.pin (b,o) (List.mem_append_right _ (List.mem_append_right _ (ES hb e)))
     ⟨z.1,z.2.1⟩
    have hl:(wipe σ (own.map (·.2))).length = σ8.length:=by rw[<- hw8,EG]
    refine ⟨m',hm,i+1,H',(I'.unpinned (pins:=[])).weak hl (λj v e=>?_),T.keep _ _ _ st7 λb hb o e=>(pin' b hb o e).1,λb hb=>?_,w'⟩
    ·rw[<- hw8] at e
     exact (EV e).1
    ·obtain ⟨o,e,_⟩:=T.obj _ _ st7 b hb
     exact (pin' b hb o e).2
   cases b with
   |false=>
    simp only[Bool.false_eq_true,if_false] at q9 ⊢
    exact fin I9 q9
   |true=>
    simp only[if_true] at q9 ⊢
    refine Fu (pe _ s9 σ8 H9 _ I9 q9) λz s10 ⟨yv,H10,I10,r10,acc,hD10,hz10,nx⟩=>?_
    exact app_ok (X:=X.blk s3 H3 scope ce fp) I10 hD10 hz10 r10 λs11 I11=>fin I11 nx
 exact codeAny_compStart_list loop (T.self X.A 0 _ _ _ st4 loop)
theorem D0 {elt tg iter:Expr}{ifs:List Expr}{scope:Scope}{own:List (Str×Nat)}{pos:Pos}{wi:TI}{g:TG}{tt:TT}{te:TE}(hc:X.calm=true)(hN:X.N.Nodup)(hi:PI X tg iter wi)(ok:BlkOk X.N X.env.scope scope own)
  (hg:∀(s:Shared)(H:Hp)(C:Addr)(cl:List (Str×Addr))(fp:List Addr),PG (X.blk s H scope (compEnvC scope cl C X.env) fp) tg g) (ht:∀(s:Shared)(H:Hp)(C:Addr)(cl:List (Str×Addr))(fp:List Addr),PTs (X.blk s H scope (compEnvC scope cl C X.env) fp) ifs tt)
  (he:∀(s:Shared)(H:Hp)(C:Addr)(cl:List (Str×Addr))(fp:List Addr),PE (X.blk s H scope (compEnvC scope cl C X.env) fp) elt te) (hs:∀x,foldedSetIterable iter X.env x=pure x:=by intro _;rfl) :
  PE X (.ListComp elt [⟨tg,iter,ifs,0⟩] scope pos) (tLc wi g tt te (own.map (·.2))):=by
 intro pins s σ H Q I h
 rw[eval_ListComp]
 refine Gk hc hN I hi ok hg ht he hs h λD C s' m H' I' q hn f=>⟨m,hn,λh'' sb=>?_⟩
 obtain ⟨f0,f1,f2,f3,f4,f5⟩:=f
 exact ⟨.ref D,H',I'.turned (t':=s'.toks) (λb o hb e=>(sb.2 b hb).trans e) f0 f1 f3 f4 f5,rfl,q⟩
theorem Ei {i:Nat}{y:Str}{py:Pos}{elt tg iter:Expr}{ifs:List Expr}{scope:Scope}{own:List (Str×Nat)}{pos spos:Pos}{wi:TI}{g:TG}{tt:TT}{te:TE}(hc:X.calm=true)(hN:X.N.Nodup)(hy:X.N[i]? = some y)(hyl:X.env.scope.names.lookup y=some .local)
  (hsw:swapsWith (.ListComp elt [⟨tg,iter,ifs,0⟩] scope pos) (some (.Name y py)) spos.line X.env=pure true) (hi:PI X tg iter wi) (ok:BlkOk X.N X.env.scope scope own)
  (hg:∀(s:Shared)(H:Hp)(C:Addr)(cl:List (Str×Addr))(fp:List Addr),PG (X.blk s H scope (compEnvC scope cl C X.env) fp) tg g) (ht:∀(s:Shared)(H:Hp)(C:Addr)(cl:List (Str×Addr))(fp:List Addr),PTs (X.blk s H scope (compEnvC scope cl C X.env) fp) ifs tt)
  (he:∀(s:Shared)(H:Hp)(C:Addr)(cl:List (Str×Addr))(fp:List Addr),PE (X.blk s H scope (compEnvC scope cl C X.env) fp) elt te) (hs:∀x,foldedSetIterable iter X.env x=pure x:=by intro _;rfl) :
  PS X (.Assign [.Name y py] (.ListComp elt [⟨tg,iter,ifs,0⟩] scope pos) spos) (Gx (tLc wi g tt te (own.map (·.2))) (D4 i)):=by
 intro pins s σ H D I h
 rw[exec_Assign_Name_used _ _ _ _ hsw]
 refine wpAny_bind (wpAny_standAt (wpAny_bind ?_))
 show wpAny _ X.A (do let _ <- comprehension (.ListComp elt [⟨tg,iter,ifs,0⟩] scope pos) scope X.env (firstIterPos [⟨tg,iter,ifs,0⟩] pos) (newList []) false (eval iter X.env) (some (assign (.Name y py) X.env))) _ _ s
 have h:tLc wi g tt te (own.map (·.2)) σ H (λx H1=>D4 i x σ H1 D.nx):=h
 refine wpAny_bind (thn (Gk (Qf:=λ_ s'=>SP X pins D .next s') hc hN I hi ok hg ht he hs h λL C s' m H' I' q hn f=>?_) λ_ s' hq=>wpAny_pure (wpAny_pure hq))
 show wpAny _ _ (assign (.Name y py) X.env (.ref L)) _ _ _
 refine wpAny_assign_Name (FE (v:=V.ref L) I' hN hy (.inl hyl) rfl (λs2 I2 ⟨a,sb,ha⟩=>?_) (.inr hyl))
 obtain ⟨f0,f1,f2,f3,f4,f5⟩:=f
 have haC:C≠a:=by
  rcases ha with z|z
  ·rw[z];exact f1
  ·exact λe=>f4 y a z e.symm
 refine ⟨m,hn.sameBut sb haC,λh3 sb3=>?_⟩
 exact ⟨_,H',I2.turned (t':=s2.toks) (λb o hb e=>(sb3.2 b hb).trans e) f0 f1 f3 f4 f5,q⟩
theorem El {elt:Expr}{gs:List Comprehension}{scope:Scope}{pos py:Pos}{y:Str}{l:Nat}{env:Env}(hk:env.scope.kind=.function)(hy:env.scope.names.lookup y=some .local)(hl:(py.line == pos.line)=true)
  (ha:(scope.names.any λ(n,k)=>n == y && (k == .local || k == .cell))=false):swapsWith (.ListComp elt gs scope pos) (some (.Name y py)) l env=pure true:=by
 have ky:env.kindOf y=some .local:=hy
 have hb:env.blockKind=.function:=by unfold Env.blockKind;rw[hk];rfl
 unfold swapsWith
 simp only[hb,ky,ha,Expr.pos,hl]
 rfl
end
def DX (N:List Str)(sc scope:Scope)(own:List (Str×Nat)):Bool:=
 (match scope.kind with|.function=>true|_=>false) && (scope.names.all λy=>decide (scope.names.lookup y.1=some y.2)) && (own.all λp=>decide (N[p.2]? = some p.1)) &&
  (scope.names.all λy=>match y.2 with
   |.free=>(match sc.names.lookup y.1 with|some .cell=>true|some .free=>true|_=>false)
   |.local=>decide (y.1∈own.map (·.1)) || decide (y.1 ∉ N)
   |.cell=>decide (y.1∈own.map (·.1)) || decide (y.1 ∉ N)
   |_=>true)
theorem DH {N:List Str}{sc scope:Scope}{own:List (Str×Nat)}(h:DX N sc scope own=true):BlkOk N sc scope own:=by
 unfold DX at h
 simp only[Bool.and_eq_true,List.all_eq_true,decide_eq_true_eq] at h
 obtain ⟨⟨⟨h1,h2⟩,h3⟩,h4⟩:=h
 refine ⟨?_,h2,h3,λy hy e=>?_,λy hy e=>?_⟩
 ·split at h1
  ·assumption
  ·cases h1
 ·have q:=h4 y hy
  simp only[e] at q
  split at q<;>first|exact .inl (by assumption)|exact .inr (by assumption)|cases q
 ·have q:=h4 y hy
  rcases e with e|e<;>(simp only[e,Bool.or_eq_true,decide_eq_true_eq] at q;exact q)
open PySem PySem.Spec PyProof.Rows
section
variable {κ:Type}[DecidableEq κ]
def Et (kvs:List (κ×V))(k:κ):Option V:=(kvs.find? λkv=>decide (kv.1=k)).map (·.2)
def putK (kvs:List (κ×V))(k:κ)(v:V):List (κ×V):=
 if (kvs.any λkv=>decide (kv.1=k))=true then kvs.map (λkv=>if kv.1=k then (kv.1,v) else kv) else kvs++[(k,v)]
def G0 (kvs:List (κ×V))(k:κ):List (κ×V):=kvs.filter λkv=>decide (kv.1≠k)
theorem Fd {p:κ×V}{r:List (κ×V)}{k:κ}(e:p.1=k):Et (p :: r) k=some p.2:=by simp[Et,List.find?_cons,e]
theorem Fe {p:κ×V}{r:List (κ×V)}{k:κ}(e:¬ p.1=k):Et (p :: r) k=Et r k:=by simp[Et,List.find?_cons,e]
theorem FP (k:κ):∀kvs:List (κ×V),(kvs.any λkv=>decide (kv.1=k))=(Et kvs k).isSome
 |[]=>rfl
 |p :: r=>by
  rw[List.any_cons]
  by_cases e:p.1=k
  ·simp only[Fd e,decide_eq_true e,Bool.true_or,Option.isSome_some]
  ·rw[Fe e,decide_eq_false e,Bool.false_or];exact FP k r
theorem RelO.isSome_eq {o:Option V}{u:Option Value}(r:RelO o u):o.isSome=u.isSome:=by
 cases o with
 |none=>cases u with
  |none=>rfl
  |some _=>exact (show False from r).elim
 |some _=>cases u with
  |none=>exact (show False from r).elim
  |some _=>rfl
theorem RelO.getD {o:Option V}{u:Option Value}{d:V}{d':Value}(r:RelO o u)(rd:RelV d d'):RelV (o.getD d) (u.getD d'):=by
 cases o with
 |none=>cases u with
  |none=>exact rd
  |some _=>exact (show False from r).elim
 |some _=>cases u with
  |none=>exact (show False from r).elim
  |some _=>exact r
theorem KV.val {kvs:List (κ×V)}{vs:List (κ×Value)}(r:KV kvs vs)(k:κ):RelO (Et kvs k) (valueAt vs k):=by
 unfold KV at r
 induction r with
 |nil=>exact True.intro
 |@cons p q ps qs h t ih=>
  obtain ⟨h1,h2⟩:=h
  by_cases e:p.1=k
  ·have e':q.1=k:=h1.symm.trans e
   have b:valueAt (q :: qs) k=some q.2:=by simp[valueAt,List.find?_cons,e']
   rw[Fd e,b];exact h2
  ·have e':¬ q.1=k:=λz=>e (h1.trans z)
   have b:valueAt (q :: qs) k=valueAt qs k:=by simp[valueAt,List.find?_cons,e']
   rw[Fe e,b];exact ih
theorem KV.any {kvs:List (κ×V)}{vs:List (κ×Value)}(r:KV kvs vs)(k:κ):(kvs.any λkv=>decide (kv.1=k))=vs.any λkv=>decide (kv.1=k):=by
 unfold KV at r
 induction r with
 |nil=>rfl
 |cons h t ih=>rw[List.any_cons,List.any_cons,ih,h.1]
theorem KV.repl {kvs:List (κ×V)}{vs:List (κ×Value)}(r:KV kvs vs)(k:κ){y:V}{u:Value}(ry:RelV y u) :
  KV (kvs.map λkv=>if kv.1=k then (kv.1,y) else kv) (vs.map λkv=>if kv.1=k then (kv.1,u) else kv):=by
 unfold KV at r ⊢
 induction r with
 |nil=>exact .nil
 |@cons p q ps qs h t ih=>
  rw[List.map_cons,List.map_cons]
  refine .cons ?_ ih
  obtain ⟨h1,h2⟩:=h
  by_cases e:p.1=k
  ·rw[if_pos e,if_pos (h1.symm.trans e)];exact ⟨h1,ry⟩
  ·rw[if_neg e,if_neg (λz=>e (h1.trans z))];exact ⟨h1,h2⟩
theorem KV.put {kvs:List (κ×V)}{vs:List (κ×Value)}(r:KV kvs vs)(k:κ){y:V}{u:Value}(ry:RelV y u):KV (putK kvs k y) (stored vs k u):=by
 unfold putK stored
 rw[r.any k]
 by_cases e:(vs.any λkv=>decide (kv.1=k))=true
 ·rw[if_pos e,if_pos e];exact r.repl k ry
 ·rw[if_neg e,if_neg e];exact Paired.snoc r ⟨rfl,ry⟩
theorem KV.drop {kvs:List (κ×V)}{vs:List (κ×Value)}(r:KV kvs vs)(k:κ):KV (G0 kvs k) (without vs k):=by
 unfold KV at r ⊢
 unfold G0 without
 induction r with
 |nil=>exact .nil
 |@cons p q ps qs h t ih=>
  obtain ⟨h1,h2⟩:=h
  rw[List.filter_cons,List.filter_cons]
  by_cases e:p.1=k
  ·have a:¬ decide (p.1≠k)=true:=by simp[e]
   have b:¬ decide (q.1≠k)=true:=by simp[h1.symm.trans e]
   rw[if_neg a,if_neg b];exact ih
  ·have e':¬ q.1=k:=λz=>e (h1.trans z)
   have a:decide (p.1≠k)=true:=by simp[e]
   have b:decide (q.1≠k)=true:=by simp[e']
   rw[if_pos a,if_pos b];exact .cons ⟨h1,h2⟩ ih
theorem KV.keys {kvs:List (κ×V)}{vs:List (κ×Value)}(r:KV kvs vs):kvs.map (·.1)=vs.map (·.1):=by
 unfold KV at r
 induction r with
 |nil=>rfl
 |cons h t ih=>rw[List.map_cons,List.map_cons,ih,h.1]
theorem KV.length {kvs:List (κ×V)}{vs:List (κ×Value)}(r:KV kvs vs):kvs.length=vs.length:=Paired.length r
end
abbrev KT (H:Hp):List (List Key×V)->List (List Key×Addr×Value)->Prop:=Paired λp q=>p.1=q.1/\H q.2.1=some (.tup (p.1.map kV))/\RelV p.2 q.2.2
theorem KT.val {H:Hp}{kvs:List (List Key×V)}{xs:List (List Key×Addr×Value)}(r:KT H kvs xs)(k:List Key):RelO (Et kvs k) ((atKey xs k).map (·.2)):=by
 induction r with
 |nil=>exact True.intro
 |@cons p q ps qs h t ih=>
  obtain ⟨h1,_,h2⟩:=h
  by_cases e:p.1=k
  ·have e':q.1=k:=h1.symm.trans e
   have b:atKey (q :: qs) k=some q.2:=by simp[atKey,List.find?_cons,e']
   rw[Fd e,b];exact h2
  ·have e':¬ q.1=k:=λz=>e (h1.trans z)
   have b:atKey (q :: qs) k=atKey qs k:=by simp[atKey,List.find?_cons,e']
   rw[Fe e,b];exact ih
theorem KT.repl {H:Hp}{kvs:List (List Key×V)}{xs:List (List Key×Addr×Value)}(r:KT H kvs xs)(k:List Key){y:V}{u:Value}(ry:RelV y u) :
  KT H (kvs.map λkv=>if kv.1=k then (kv.1,y) else kv) (xs.map (putAt k u)):=by
 induction r with
 |nil=>exact .nil
 |@cons p q ps qs h t ih=>
  rw[List.map_cons,List.map_cons]
  refine .cons ?_ ih
  obtain ⟨h1,h2,h3⟩:=h
  unfold putAt
  by_cases e:p.1=k
  ·rw[if_pos e,if_pos (h1.symm.trans e)];exact ⟨h1,h2,ry⟩
  ·rw[if_neg e,if_neg (λz=>e (h1.trans z))];exact ⟨h1,h2,h3⟩
theorem KT.put {H:Hp}{kvs:List (List Key×V)}{xs:List (List Key×Addr×Value)}(r:KT H kvs xs)(k:List Key){b:Addr}{y:V}{u:Value}(hb:H b=some (.tup (k.map kV)))(ry:RelV y u) :
  KT H (putK kvs k y) (storedH xs k b u):=by
 have e:(kvs.any λkv=>decide (kv.1=k))=(atKey xs k).isSome:=by
  rw[FP,(r.val k).isSome_eq,Option.isSome_map]
 unfold putK storedH
 rw[e]
 by_cases q:(atKey xs k).isSome=true
 ·rw[if_pos q,if_pos q];exact r.repl k ry
 ·rw[if_neg q,if_neg q];exact Paired.snoc r ⟨rfl,hb,ry⟩
theorem KT.keeps {H H':Hp}{kvs:List (List Key×V)}{xs:List (List Key×Addr×Value)}(r:KT H kvs xs)(ht:∀b ys,H b=some (.tup ys)->H' b=some (.tup ys)):KT H' kvs xs:=
 Paired.mapP r λ_ _ z=>⟨z.1,ht _ _ z.2.1,z.2.2⟩
def DGet (H:Hp)(a:Addr)(y:V)(r:Option V):Prop:=
 (∃kvs k,Rd H a (.dK kvs)/\y=kV k/\r=Et kvs k)\/∃kvs k b,Rd H a (.dT kvs)/\y=.ref b/\H b=some (.tup (k.map kV))/\r=Et kvs k
def DPut (H:Hp)(a:Addr)(y v:V)(H':Hp):Prop:=
 (∃kvs k,H a=some (.dK kvs)/\y=kV k/\kvs.length<sizeLine/\H'=upd H a (.dK (putK kvs k v)))\/
 ∃kvs k b,H a=some (.dT kvs)/\y=.ref b/\H b=some (.tup (k.map kV))/\kvs.length<sizeLine/\H'=upd H a (.dT (putK kvs k v))
theorem DGet.k {H:Hp}{a:Addr}{kvs:List (Key×V)}{k:Key}(e:H a=some (.dK kvs)):DGet H a (kV k) (Et kvs k):=.inl ⟨kvs,k,.inl e,rfl,rfl⟩
theorem DGet.t {H:Hp}{a b:Addr}{kvs:List (List Key×V)}{k:List Key}(e:H a=some (.dT kvs))(eb:H b=some (.tup (k.map kV))):DGet H a (.ref b) (Et kvs k):=.inr ⟨kvs,k,b,.inl e,rfl,eb,rfl⟩
theorem DPut.k {H:Hp}{a:Addr}{kvs:List (Key×V)}{k:Key}{v:V}(e:H a=some (.dK kvs))(hl:kvs.length<sizeLine):DPut H a (kV k) v (upd H a (.dK (putK kvs k v))):=.inl ⟨kvs,k,e,rfl,hl,rfl⟩
theorem DPut.t {H:Hp}{a b:Addr}{kvs:List (List Key×V)}{k:List Key}{v:V}(e:H a=some (.dT kvs))(eb:H b=some (.tup (k.map kV)))(hl:kvs.length<sizeLine) :
  DPut H a (.ref b) v (upd H a (.dT (putK kvs k v))):=.inr ⟨kvs,k,b,e,rfl,eb,hl,rfl⟩
section
variable {X:Cx}{pins:List (Addr×Obj)}{σ:St}{H:Hp}{s:Shared}{a:Addr}{y v:V}{u r:Value}{o:Option V}{A:Around}{E:Value->Shared->Prop}
theorem Inv.big (I:Inv X pins σ H s):sysModules<s.heap.objs.size:=by
 have h:mainGlobals<s.heap.objs.size:=(I.mod.glob.keeps I.bk).lt
 exact Nat.lt_trans (by decide) h
end
def mergeK (kvs more:List (Key×V)):List (Key×V):=more.foldl (λacc kv=>putK acc kv.1 kv.2) kvs
structure M1 (X:Cx)(o:Expr)(m:Str)(apos:Pos)(e:Expr)(cpos:Pos):Prop where
 base:attributeBase o m X.env (eval o X.env)=eval o X.env
 few:((backTo cpos (starEach [e] X.env)).all (λx=>!x.1) && (backToKw cpos (keywordEach [] X.env)).all (λx=>x.1.isSome)
  && decide (([e]:List Expr).length+([]:List Keyword).length+(if ([]:List Keyword).isEmpty then 0 else 1)<30))=true
 line:(apos.endLine == cpos.line)=true
 trees:backTo cpos (starEach [e] X.env)=[(false,eval e X.env)]
structure M2 (X:Cx)(o:Expr)(m:Str)(apos:Pos)(e f:Expr)(cpos:Pos):Prop where
 base:attributeBase o m X.env (eval o X.env)=eval o X.env
 few:((backTo cpos (starEach [e,f] X.env)).all (λx=>!x.1) && (backToKw cpos (keywordEach [] X.env)).all (λx=>x.1.isSome)
  && decide (([e,f]:List Expr).length+([]:List Keyword).length+(if ([]:List Keyword).isEmpty then 0 else 1)<30))=true
 line:(apos.endLine == cpos.line)=true
 trees:backTo cpos (starEach [e,f] X.env)=[(false,eval e X.env),(false,eval f X.env)]
open PySem PySem.Spec PyProof.Rows
section
variable {X:Cx}{pins:List (Addr×Obj)}{σ:St}{H:Hp}{s:Shared}{h':Heap}
theorem Inv.turnedL {t':Nat}{ch:List Addr}(I:Inv X pins σ H s)(k:∀b o,b ∉ ch->s.heap.get? b=some o->h'.get? b=some o)(hf:∀b∈ch,Ev X pins H b):Inv X pins σ H { s with heap:=h',toks:=t' }:=by
 have nit:∀b u,H b=some u->b ∉ ch:=λb u e z=>by
  have q:=(hf b z).1
  rw[q] at e;cases e
 refine I.step (g':=s.gens) (d':=s.drawn) (ch:=ch) (λb hb=>⟨(hf b hb).2.2.2.1,(hf b hb).2.1,(hf b hb).2.2.2.2.1,(hf b hb).2.2.2.2.2⟩) (λb o _ _ hc e _=>k b o hc e) (λb o _ _ hc e _=>⟨o.slots,k b o hc e⟩)
  (λ_ _ _ _ n=>n) (λb o hc e=>⟨o,k b o hc e⟩) (λ_ _ e=>e) (λ_ _ _ e=>e) (λb ps e=>⟨#[],by rw[e];simp⟩) (λm hm=>?_) (λb u e=>?_) I.bare
 ·obtain ⟨o,es,ep,ho,r⟩:=hm
  exact ⟨o,es,ep,k _ o (λz=>(hf _ z).2.1 rfl) ho,r⟩
 ·refine (I.hok b u e).stay (λc v hc q=>k c v ?_ q) (λ_ q=>q) λ_ _ q=>q
  rcases hc with z|z
  ·rw[z];exact nit b u e
  ·exact nit c _ z
theorem Inv.turnedNew {t':Nat}{ch:List Addr}{T:Addr}{ob:HO}(I:Inv X pins σ H s)(k:∀b o,b ∉ ch->s.heap.get? b=some o->h'.get? b=some o)(hf:∀b∈ch,Ev X pins H b)(hT:s.heap.objs.size<=T)
  (new:ObjOk X.prog X.w (upd H T ob) h' T ob):Inv X pins σ (upd H T ob) { s with heap:=h',toks:=t' }:=by
 have hn:H T=none:=I.hok.fresh hT
 have nit:∀b u,H b=some u->b ∉ ch:=λb u e z=>by
  have q:=(hf b z).1
  rw[q] at e;cases e
 refine I.step (g':=s.gens) (d':=s.drawn) (ch:=ch) (λb hb=>⟨(hf b hb).2.2.2.1,(hf b hb).2.1,(hf b hb).2.2.2.2.1,(hf b hb).2.2.2.2.2⟩) (λb o _ _ hc e _=>k b o hc e) (λb o _ _ hc e _=>⟨o.slots,k b o hc e⟩)
  (λb o _ e n=>?_) (λb o hc e=>⟨o,k b o hc e⟩) (λb xs e=>?_) (λb o u e=>?_) (λb ps e=>⟨#[],?_⟩) (λm hm=>?_) (λb u e=>?_) I.bare
 ·rw[Dz (Nat.ne_of_lt (Nat.lt_of_lt_of_le (Heap.lt_size e) hT))];exact n
 ·rw[Dz (DJ e hn)];exact e
 ·rw[Dz (DJ e hn)];exact e
 ·rw[Dz (DJ e hn),e];simp
 ·obtain ⟨o,es,ep,ho,r⟩:=hm
  exact ⟨o,es,ep,k _ o (λz=>(hf _ z).2.1 rfl) ho,r⟩
 ·by_cases hb:b=T
  ·subst hb
   rw[DS] at e
   cases e
   exact new
  ·rw[Dz hb] at e
   refine (I.hok b u e).stay (λc v hc q=>k c v ?_ q) (λc q=>by rw[Dz (DJ q hn)];exact q) λc xs q=>by rw[Dz (DJ q hn)];exact q
   rcases hc with z|z
   ·rw[z];exact nit b u e
   ·exact nit c _ z
end
section
variable {X:Cx}
theorem pi_one {tg:Expr}{pins:List (Addr×Obj)}{σ:St}{H:Hp}{s:Shared}{R:It->Hp->Prop}{J:It}{tn:Nat->Heap->Prop}{tk:Nat}(I:Inv X pins σ H s)(o:Obj)
  (T:Turn X.prog X.w X.K tg J [s.heap.objs.size] s.heap.objs.size tn) (st:tn 0 (s.heap.push o)) (q:R J H):PIE X pins σ tg R (.ref s.heap.objs.size) { s with heap:=s.heap.push o,toks:=tk }:=by
 refine ⟨s.heap.objs.size,[s.heap.objs.size],tn,J,H,rfl,I.kept λb ob e=>Heap.get?_push_of_some _ e,T,st,λb hb=>?_,q⟩
 have e:b=s.heap.objs.size:=by simpa using hb
 subst e
 exact I.fpOk (Nat.le_refl _) (I.hok.fresh (Nat.le_refl _))
end
def Itc (lo c:Int)(n:Nat):It:=⟨λi _=>i<n,λi H x H'=>H'=H/\x=.int (lo+(i:Nat)*c),λi _=>n<=i⟩
theorem turn_rangeC {P:Program}{w:World}{K:Frag}{tg:Expr}(it:Addr)(lo c:Int)(n:Nat):Turn P w K tg (Itc lo c n) [it] it (λi h=>IsRangeIter h it (lo+(i:Nat)*c) ((n:Int)-(i:Nat)) c) where
 mem:=by simp
 obj:=λi h st b hb=>by
  have e:b=it:=by simpa using hb
  subst e
  exact ⟨_,st,λv z=>nomatch z⟩
 keep:=λi h h' st k=>k it (by simp) _ st
 item:=by
  intro X hP hw hK hc i pins s σ H E I hf st hg
  subst hP hw hK
  obtain ⟨f0,f1,f2,f3,f4,f5⟩:=hf it (by simp)
  have W:=Walks.range (prog:=X.prog) (w:=X.w) (I.ok.hd hc) it lo c n
  refine W.item i s _ _ hg st λv h' tk hv st' kk=>?_
  obtain ⟨t,rfl⟩:=hv
  have I1:Inv X pins σ H { s with heap:=h',toks:=tk }:=I.turned (λb o hb e=>kk b o (by simpa using hb) e) f0 f1 f3 f4 f5
  exact ⟨_,rfl,FN (s:={ s with heap:=h',toks:=tk }) (n := "range_iterator") st' rfl rfl (by decide) ⟨.int (lo+(i:Nat)*c),H,I1,⟨t,rfl⟩,⟨rfl,rfl⟩,st',λb hb=>(hf b hb).1⟩⟩
 done:=by
  intro X hP hw hK hc i pins s σ H E I hf st hg
  subst hP hw hK
  obtain ⟨f0,f1,f2,f3,f4,f5⟩:=hf it (by simp)
  exact wpAny_pyNext_range_end (I.ok.hd hc) st (by have:n<=i:=hg;lia) λh' eb=>⟨rfl,I.turned (t':=s.toks) (λb o hb e=>eb b o hb e) f0 f1 f3 f4 f5⟩
 self:=λA i s Q E st h=>wpAny_pyIter_rangeiter st h
def RgC (i j c:Int)(n:Nat):Prop:=c≠0/\c.natAbs<1073741824/\Builtin.Range.small i j c=true/\Builtin.Range.rangeSize i j c=n
theorem RgC.neg {i j:Int}(ha:-(2 ^ 62)<=i)(ha':i<2 ^ 62)(hb:-(2 ^ 62)<=j)(hb':j<2 ^ 62):RgC i j (-1) (i-j).toNat:=
 ⟨by decide,by decide,PySem.W.small_down ha ha' hb hb',PySem.W.rangeSize_downNat i j⟩
def GW (ta:TA):TI:=λσ H R=>ta σ H λvs H1=>∃(i j c:Int)(n:Nat),vs=[.int i,.int j,.int c]/\RgC i j c n/\R (Itc i c n) H1
section
variable {X:Cx}{tg:Expr}
theorem Ec {a b c:Expr}{ta:TA}{p pos:Pos}(hg:Gl X "range")(hm:X.mg "range" = none)(ha:PA X [a,b,c] ta)
  (hs:starEach [a,b,c] X.env=(false,eval a X.env) :: starEach [b,c] X.env:=by rfl) (hpl:(backTo pos (starEach [b,c] X.env)).any (·.1)=false:=by rfl) :
  PI X tg (.Call (.Name "range" p) [a,b,c] [] pos) (GW ta):=by
 intro pins s σ H R I h
 refine Call_ (EA I hg hm boot_range (PyProof.Rows.callWith_type1 (thn (ha pos pins s σ H _ I h) λus s1 ⟨vs,H1,I1,r1,q1⟩=>?_) hs hpl))
 obtain ⟨i,j,k,n,e,⟨c0,c1,c2,c3⟩,q⟩:=q1
 subst e
 cases r1 with
 |cons r rr=>
  cases rr with
  |cons r' rr=>
   cases rr with
   |cons r'' rr=>
    cases rr
    obtain ⟨t,rfl⟩:=r
    obtain ⟨t',rfl⟩:=r'
    obtain ⟨t'',rfl⟩:=r''
    refine call_range_3 c0 ?_ (.inl (PyProof.noPylong_small c1))
    refine wpAny_pyIter_range (IsRange.new ..) c2 ?_
    have I2:Inv X pins σ H1 { s1 with heap:=s1.heap.push { cls:=.type "range",data:=.fields #[.int i t,.int j t',.int k t''] } }:=I1.kept (t':=s1.toks) λb o e=>Heap.get?_push_of_some _ e
    refine pi_one (tk:=s1.toks) I2 _ (turn_rangeC _ i k n) ?_ q
    have e1:i+((0:Nat):Int)*k=i:=by simp
    have e2:(n:Int)-((0:Nat):Int)=Builtin.Range.rangeSize i j k:=by rw[c3];simp
    show IsRangeIter _ _ (i+((0:Nat):Int)*k) ((n:Int)-((0:Nat):Int)) k
    rw[e1,e2]
    exact Heap.get?_push_size _ rfl
end
theorem for_rangeC {lo c:Int}{n:Nat}{g:TG}{tb:TS}{D:Ends}{σ:St}{H:Hp}(Pv:Nat->St->Hp->Prop)(h0:Pv 0 σ H)
  (hs:∀i σ H,i<n->Pv i σ H->g (.int (lo+(i:Nat)*c)) σ H λσ2 H2=>tb { D with nx:=Pv (i+1),ct:=Pv (i+1),bk:=D.nx } σ2 H2) (hd:∀σ H,Pv n σ H->D.nx σ H) :
  ∃W:Nat->Nat->St->Hp->Prop,(∃m,W 0 m σ H)/\∀i m σ H,W i m σ H->
   ((Itc lo c n).stop i H/\D.nx σ H)\/((Itc lo c n).go i H/\∃N:St->Hp->Prop,(∀σ' H',N σ' H'->∃m',m'<m/\W (i+1) m' σ' H')/\∀x H',(Itc lo c n).yld i H x H'->g x σ H' λσ2 H2=>tb { D with nx:=N,ct:=N,bk:=D.nx } σ2 H2):=by
 refine ⟨λi m σ H=>m=n-i/\i<=n/\Pv i σ H,⟨n,by simp,Nat.zero_le _,h0⟩,?_⟩
 rintro i m σ H ⟨rfl,hi,p⟩
 by_cases hlt:i<n
 ·refine .inr ⟨hlt,Pv (i+1),λσ' H' p'=>⟨n-(i+1),by lia,rfl,hlt,p'⟩,λx H' y=>?_⟩
  obtain ⟨e,y⟩:=y
  subst e y
  exact hs i σ _ hlt p
 ·have e:i=n:=by lia
  subst e
  exact .inl ⟨Nat.le_refl _,hd σ H p⟩
def Itk (d:Addr)(o:Obj)(kvs:List (Key×V)):It:=
 ⟨λi H=>H d=some (.frz o (.dK kvs))/\i<kvs.length,λi H x H'=>H'=H/\∃k v,kvs[i]? = some (k,v)/\x=kV k,λi H=>H d=some (.frz o (.dK kvs))/\kvs.length<=i⟩
theorem boot_zip5:bootBuiltins "zip" = some (.type "zip"):=by decide +kernel
def Itz (K:Frag)(a b:Addr):It:=
 ⟨λi H=>∃(xs ys:List V)(x y:V),SqL K H a xs/\SqL K H b ys/\xs[i]? = some x/\ys[i]? = some y,
  λi H v H'=>∃T x y,v=.ref T/\H T=none/\H'=upd H T (.tup [x,y])/\(∀xs,SqL K H a xs->xs[i]? = some x)/\∀ys,SqL K H b ys->ys[i]? = some y,
  λi H=>∃xs ys:List V,SqL K H a xs/\SqL K H b ys/\(xs.length<=i\/ys.length<=i)⟩
theorem turn_zip {P:Program}{w:World}{K:Frag}{elts:List Expr}{kk:Nat}{tpos:Pos}{a b z TI TO i1 i2:Addr}(D:ZipApart z TI TO i1 i2 a b) :
  Turn P w K (.Tuple elts kk tpos) (Itz K a b) [z,TI,TO,i1,i2] z (λi h=>IsZip h z TI TO .none/\IsPair h TI (.ref i1) (.ref i2)/\(∃x y,IsPair h TO x y)/\h.IsListIter i1 a i/\h.IsListIter i2 b i) where
 mem:=by simp
 obj:=λi h st c hc=>by
  obtain ⟨hz,hTI,⟨x,y,hTO⟩,⟨o1,e1,_,d1⟩,⟨o2,e2,_,d2⟩⟩:=st
  have e':c=z\/c=TI\/c=TO\/c=i1\/c=i2:=by simpa using hc
  rcases e' with q|q|q|q|q
  ·rw[q];exact ⟨_,hz,λv q=>nomatch q⟩
  ·rw[q];exact ⟨_,hTI,λv q=>nomatch q⟩
  ·rw[q];exact ⟨_,hTO,λv q=>nomatch q⟩
  ·rw[q];exact ⟨o1,e1,λv q=>by rw[d1] at q;cases q⟩
  ·rw[q];exact ⟨o2,e2,λv q=>by rw[d2] at q;cases q⟩
 keep:=λi h h' st k=>by
  obtain ⟨hz,hTI,⟨x,y,hTO⟩,h1,h2⟩:=st
  exact ⟨k z (by simp) _ hz,k TI (by simp) _ hTI,⟨x,y,k TO (by simp) _ hTO⟩,h1.at λo q=>k i1 (by simp) o q,h2.at λo q=>k i2 (by simp) o q⟩
 item:=by
  intro X hP hw hK hc i pins s σ H E I hf st hg
  subst hP hw hK
  obtain ⟨hz,hTI,⟨x0,y0,hTO⟩,h1,h2⟩:=st
  obtain ⟨xs,ys,x,y,hqx,hqy,hx,hy⟩:=hg
  obtain ⟨its,rv,p,_⟩:=I.list hqx
  obtain ⟨its2,rv2,p2,_⟩:=I.list hqy
  obtain ⟨u,hu,ru⟩:=rv.get hx
  obtain ⟨u2,hu2,ru2⟩:=rv2.get hy
  have hzl:z<s.heap.objs.size:=Heap.lt_size hz
  refine wpAny_pyNext_zip_item D hz hTI hTO h1 h2 p.isList p2.isList (x:=u) (y:=u2) (by simpa using hu) (by simpa using hu2) λh' z' TO' h1' h2' hT hsz hk=>?_
  refine ⟨_,rfl,wpAny_letOwnedTupleGo_zip (s:={ s with heap:=h' }) z' λh'' z'' sb=>?_⟩
  have hT2:h''.get? s.heap.objs.size=some { cls:=.type "tuple",data:=.seq #[u,u2] }:=(sb.2 _ (Nat.ne_of_gt hzl)).trans hT
  have new:ObjOk X.prog X.w (upd H s.heap.objs.size (.tup [x,y])) h'' s.heap.objs.size (.tup [x,y]):=
   ⟨by show 2<=sizeLine;decide,[u,u2],.cons ru (.cons ru2 .nil),⟨_,hT2,rfl,_,rfl⟩⟩
  have I1:Inv X pins σ (upd H s.heap.objs.size (.tup [x,y])) { s with heap:=h'' }:=
   I.turnedNew (t':=s.toks) (ch:=[z,TI,TO,i1,i2]) (λc o hb q=>(sb.2 c (λq'=>hb (by simp[q']))).trans (hk c o (λq'=>hb (by simp[q'])) (λq'=>hb (by simp[q'])) (λq'=>hb (by simp[q'])) (λq'=>hb (by simp[q'])) q)) hf (Nat.le_refl _) new
  refine ⟨.ref s.heap.objs.size,_,I1,rfl,⟨_,x,y,rfl,I.hok.fresh (Nat.le_refl _),rfl,λl hl=>by rw[I.list_inj hl hqx];exact hx,λl hl=>by rw[I.list_inj hl hqy];exact hy⟩,⟨z'',?_,⟨u,u2,?_⟩,?_,?_⟩,λc hcm=>?_⟩
  ·exact (sb.2 _ D.TIz).trans (hk _ _ D.TIz D.TITO D.TIi1 D.TIi2 hTI)
  ·exact (sb.2 _ D.TOz).trans TO'
  ·exact h1'.at λo q=>(sb.2 _ D.i1z).trans q
  ·exact h2'.at λo q=>(sb.2 _ D.i2z).trans q
  ·have hlt:c<s.heap.objs.size:=by
    have e':c=z\/c=TI\/c=TO\/c=i1\/c=i2:=by simpa using hcm
    rcases e' with q|q|q|q|q
    ·rw[q];exact hzl
    ·rw[q];exact Heap.lt_size hTI
    ·rw[q];exact Heap.lt_size hTO
    ·rw[q];obtain ⟨_,e1,_⟩:=h1;exact Heap.lt_size e1
    ·rw[q];obtain ⟨_,e2,_⟩:=h2;exact Heap.lt_size e2
   rw[Dz (Nat.ne_of_lt hlt)]
   exact (hf c hcm).1
 done:=by
  intro X hP hw hK hc i pins s σ H E I hf st hg
  subst hP hw hK
  obtain ⟨hz,hTI,⟨x0,y0,hTO⟩,h1,h2⟩:=st
  obtain ⟨xs,ys,hqx,hqy,hend⟩:=hg
  obtain ⟨its,rv,p,_⟩:=I.list hqx
  obtain ⟨its2,rv2,p2,_⟩:=I.list hqy
  have l1:=rv.length
  have l2:=rv2.length
  have he:its.toArray[i]? = none\/its2.toArray[i]? = none:=by
   rcases hend with q|q
   ·exact .inl (by simp;lia)
   ·exact .inr (by simp;lia)
  exact wpAny_pyNext_zip_end (I.ok.hd hc) D hz hTI hTO h1 h2 p.isList p2.isList he λh' hk=>⟨rfl,I.turnedL (t':=s.toks) (ch:=[z,TI,TO,i1,i2]) (λc o hb q=>
   hk c o (λq'=>hb (by simp[q'])) (λq'=>hb (by simp[q'])) (λq'=>hb (by simp[q'])) (λq'=>hb (by simp[q'])) q) hf⟩
 self:=λA i s Q E st h=>wpAny_pyIter_zip st.1 h
def GP (K:Frag)(ta:TA):TI:=λσ H R=>ta σ H λvs H1=>∃a b xs ys,vs=[.ref a,.ref b]/\SqL K H1 a xs/\SqL K H1 b ys/\R (Itz K a b) H1
theorem pi_zip {X:Cx}{e e2:Expr}{ta:TA}{p pos tpos:Pos}{elts:List Expr}{kk:Nat}(hg:Gl X "zip")(hm:X.mg "zip" = none)(ha:PA X [e,e2] ta)
  (hs:starEach [e,e2] X.env=(false,eval e X.env) :: starEach [e2] X.env:=by rfl) (hpl:(backTo pos (starEach [e2] X.env)).any (·.1)=false:=by rfl) :
  PI X (.Tuple elts kk tpos) (.Call (.Name "zip" p) [e,e2] [] pos) (GP X.K ta):=by
 intro pins s σ H R I h
 refine Call_ (EA I hg hm boot_zip5 (PyProof.Rows.callWith_type1 (thn (ha pos pins s σ H _ I h) λus s1 ⟨vs,H1,I1,r1,q1⟩=>?_) hs hpl))
 obtain ⟨a,b,xs,ys,ex,hqx,hqy,q⟩:=q1
 subst ex
 cases r1 with
 |cons r rr=>
  cases rr with
  |cons r' rr=>
   cases rr
   cases r
   cases r'
   obtain ⟨its,rv,p1,_⟩:=I1.list hqx
   obtain ⟨its2,rv2,p2,_⟩:=I1.list hqy
   have la:a<s1.heap.objs.size:=p1.lt
   have lb:b<s1.heap.objs.size:=p2.lt
   refine call_zip_2 p1.isList p2.isList λh' hz hTI hTO h1 h2 hsz hk=>wpAny_pyIter_zip hz ?_
   have I2:Inv X pins σ H1 { s1 with heap:=h' }:=I1.kept (t':=s1.toks) hk
   refine ⟨s1.heap.objs.size+4,[s1.heap.objs.size+4,s1.heap.objs.size+2,s1.heap.objs.size+3,s1.heap.objs.size,s1.heap.objs.size+1],_,_,H1,rfl,I2,turn_zip (PySem.W.ktu_apart s1.heap.objs.size a b la lb),⟨hz,hTI,⟨_,_,hTO⟩,h1,h2⟩,λc hcm=>?_,q⟩
   have e':c=s1.heap.objs.size+4\/c=s1.heap.objs.size+2\/c=s1.heap.objs.size+3\/c=s1.heap.objs.size\/c=s1.heap.objs.size+1:=by simpa using hcm
   have hle:s1.heap.objs.size<=c:=by
    rcases e' with z|z|z|z|z
    ·rw[z];exact Nat.le_add_right _ _
    ·rw[z];exact Nat.le_add_right _ _
    ·rw[z];exact Nat.le_add_right _ _
    ·rw[z];exact Nat.le_refl _
    ·rw[z];exact Nat.le_add_right _ _
   exact I1.fpOk hle (I1.hok.fresh hle)
end L2
section
namespace Bits
open PySem PyProof.Rows
theorem natCast_mul_pow (m k:Nat):(m:Int)*2 ^ k=((m*2 ^ k:Nat):Int):=by
 rw[two_pow_cast]
 first
  |exact (Int.natCast_mul _ _).symm
  |simp
theorem nat_xor_add_and (m:Nat):∀n:Nat,(m ^^^ n)+2*(m &&& n)=m+n:=by
 induction m using Nat.strongRecOn with
 |_ m ih=>
  intro n
  by_cases h0:m=0
  ·subst h0
   simp
  ·have ih':=ih (m/2) (by lia) (n/2)
   rw[<- Nat.xor_div_two,<- Nat.and_div_two] at ih'
   have o1:=@Nat.xor_mod_two_eq_one m n
   have a1:=@Nat.and_mod_two_eq_one m n
   lia
theorem bitXor_pp {x y:Int}(hx:0<=x)(hy:0<=y):Builtin.bitXor x y=((x.toNat ^^^ y.toNat:Nat):Int):=by
 have e:=nat_xor_add_and x.toNat y.toNat
 rw[bitXor_and,bitAnd_pp hx hy]
 lia
theorem bitOr_pp {x y:Int}(hx:0<=x)(hy:0<=y):Builtin.bitOr x y=((x.toNat ||| y.toNat:Nat):Int):=by
 have e:=nat_or_add_and x.toNat y.toNat
 rw[bitOr_and,bitAnd_pp hx hy]
 lia
end Bits
end
section
namespace TL
open PySem PySem.Builtin PySem.Builtin.Str PySem.StrLaws
abbrev tl (x:Str):List Nat:=x.cps.toList
def pre (S l:List Nat):Bool:=l.take S.length == S
def spl (S:List Nat):Nat->List Nat->List Nat->List (List Nat)
 |_,acc,[]=>[acc]
 |0,acc,c :: r=>if pre S (c :: r)=true then acc :: spl S (S.length-1) [] r else spl S 0 (acc++[c]) r
 |k+1,acc,_ :: r=>spl S k acc r
def par (S:List Nat):List Nat->List Nat->Option (List Nat×List Nat)
 |_,[]=>none
 |acc,c :: r=>if pre S (c :: r)=true then some (acc,(c :: r).drop S.length) else par S (acc++[c]) r
end TL
end
section
set_option Elab.async false
set_option linter.all false
set_option maxRecDepth 100000
set_option maxHeartbeats 2000000
namespace L2
open PySem PySem.Spec PyProof.Rows
open PySem.W (WData Codec OpenSpec Well WellAll ReadsW ReadsAllW)
mutual
inductive Dw (K:Frag)(H:Hp):V->WData->Prop
 |non:Dw K H .non .none
 |bl (b:Bool):Dw K H (.bl b) (.bool b)
 |int (i:Int):Dw K H (.int i) (.int i)
 |str (x:Str):Dw K H (.str x) (.str x)
 |byt (b:Array UInt8):Dw K H (.byt b) (.bytes b.toList)
 |lst {a:Addr} {xs:List V} {ds:List WData}:SqL K H a xs->DwAll K H xs ds->Dw K H (.ref a) (.list ds)
 |tup {a:Addr} {xs:List V} {ds:List WData}:SqT K H a xs->DwAll K H xs ds->Dw K H (.ref a) (.tuple ds)
inductive DwAll (K:Frag)(H:Hp):List V->List WData->Prop
 |nil:DwAll K H [] []
 |cons {v:V} {vs:List V} {d:WData} {ds:List WData}:Dw K H v d->DwAll K H vs ds->DwAll K H (v :: vs) (d :: ds)
end
theorem Go {K:Frag}{H:Hp}:∀ns:List Int,DwAll K H (ns.map V.int) (ns.map WData.int)
 |[]=>.nil
 |n :: r=>.cons (.int n) (Go r)
theorem FA {K:Frag}{H:Hp}:∀(ns:List Int)(xs:List V),DwAll K H xs (ns.map WData.int)->xs=ns.map V.int
 |[],xs,h=>by
  cases h
  rfl
 |n :: r,xs,h=>by
  cases h with
  |cons h1 h2=>
   cases h1
   rw[FA r _ h2]<;>rfl
section
variable {P:Program}{w:World}{K:Frag}{H:Hp}{h:Heap}{R:PySem.W.WRecords}{cl:Str->Option Addr}
theorem sqL_at {a:Addr}{xs:List V}(hok:HOk P w H h)(KX:K.In h)(q:SqL K H a xs):∃(its:List Value)(o:Obj)(n:Nat),Vals xs its/\h.get? a=some o/\o.cls=.type "list" /\ o.data=.seq its.toArray n:=by
 rcases q with q|⟨o,its,n,e,hc,_,hd,_,hv⟩
 ·obtain ⟨_,its,n,hv,e⟩:=(show ObjOk P w H h a (.lst xs) from q.ok hok)
  exact ⟨its,_,n,hv,e,rfl,rfl⟩
 ·exact ⟨its.toList,o,n,hv,KX _ _ e,hc,by simp[hd]⟩
theorem sqT_at {a:Addr}{xs:List V}(hok:HOk P w H h)(KX:K.In h)(q:SqT K H a xs):∃(its:List Value)(o:Obj)(n:Nat),Vals xs its/\h.get? a=some o/\o.cls=.type "tuple" /\ o.data=.seq its.toArray n:=by
 rcases q with q|⟨o,its,n,e,hc,hd,_,hv⟩
 ·obtain ⟨_,its,hv,o,e,hc,n,hd⟩:=(show ObjOk P w H h a (.tup xs) from q.ok hok)
  exact ⟨its,o,n,hv,e,hc,hd⟩
 ·exact ⟨its.toList,o,n,hv,KX _ _ e,hc,by simp[hd]⟩
mutual
theorem Dw.reads (hok:HOk P w H h)(KX:K.In h):∀(d:WData)(v:V)(u:Value),Dw K H v d->RelV v u->∃as,ReadsW R cl h u d as
 |.none,_,_,x,r=>by
  cases x
  cases r
  exact ⟨_,ReadsW.none⟩
 |.bool b,_,_,x,r=>by
  cases x
  cases r
  exact ⟨_,ReadsW.bool b⟩
 |.int i,_,_,x,r=>by
  cases x
  obtain ⟨t,rfl⟩:=r
  exact ⟨_,ReadsW.int i t⟩
 |.str s,_,_,x,r=>by
  cases x
  obtain ⟨t,rfl⟩:=r
  exact ⟨_,ReadsW.str s t⟩
 |.bytes b,_,_,x,r=>by
  cases x
  obtain ⟨t,rfl⟩:=r
  exact ⟨_,ReadsW.bytes _ t⟩
 |.list ds,_,_,x,r=>by
  cases x with
  |lst hs ha=>
   cases r
   obtain ⟨its,o,n,rv,ho,hc,hd⟩:=sqL_at hok KX hs
   obtain ⟨as,hr⟩:=Dw.readsAll hok KX ds _ its ha rv
   exact ⟨_,ReadsW.list ho hc hd hr⟩
 |.tuple ds,_,_,x,r=>by
  cases x with
  |tup hs ha=>
   cases r
   obtain ⟨its,o,n,rv,ho,hc,hd⟩:=sqT_at hok KX hs
   obtain ⟨as,hr⟩:=Dw.readsAll hok KX ds _ its ha rv
   exact ⟨_,ReadsW.tuple ho hc hd hr⟩
 |.float _,_,_,x,_=>by cases x
 |.dict _,_,_,x,_=>by cases x
 |.bytearray _,_,_,x,_=>by cases x
 |.set _,_,_,x,_=>by cases x
 |.frozenset _,_,_,x,_=>by cases x
 |.obj _ _,_,_,x,_=>by cases x
theorem Dw.readsAll (hok:HOk P w H h)(KX:K.In h):∀(ds:List WData)(vs:List V)(us:List Value),DwAll K H vs ds->Vals vs us->∃as,ReadsAllW R cl h us ds as
 |[],_,_,x,r=>by
  cases x
  cases r
  exact ⟨_,ReadsAllW.nil⟩
 |d :: ds,_,_,x,r=>by
  cases x with
  |cons h1 h2=>
   cases r with
   |cons r1 r2=>
    obtain ⟨as,q1⟩:=Dw.reads hok KX d _ _ h1 r1
    obtain ⟨bs,q2⟩:=Dw.readsAll hok KX ds _ _ h2 r2
    exact ⟨_,ReadsAllW.cons q1 q2⟩
end
end
mutual
def plW:WData->Bool
 |.none=>true
 |.bool _=>true
 |.int _=>true
 |.str _=>true
 |.bytes _=>true
 |.list xs=>Eu xs
 |.tuple xs=>Eu xs
 |_=>false
def Eu:List WData->Bool
 |[]=>true
 |x :: r=>plW x && Eu r
end
theorem FX {α:Type}{f:α->WData}(h:∀a,plW (f a)=true):∀l:List α,Eu (l.map f)=true
 |[]=>rfl
 |x :: r=>by
  show (plW (f x) && Eu (r.map f))=true
  rw[h x,FX h r]<;>rfl
theorem Er:∀(c:Codec)(a:c.denote),plW (c.enc a)=true
 |.unit,_=>rfl
 |.bool,_=>rfl
 |.int _ _,_=>rfl
 |.nat _ _,_=>rfl
 |.u8,_=>rfl
 |.bytes _ _,_=>rfl
 |.text _ _ _ _,_=>rfl
 |.list _ _ c,a=>FX (λx=>Er c x) a
 |.pair c d,a=>by
  show (plW (c.enc a.1) && (plW (d.enc a.2) && true))=true
  rw[Er c a.1,Er d a.2]<;>rfl
 |.triple c d e,a=>by
  show (plW (c.enc a.1) && (plW (d.enc a.2.1) && (plW (e.enc a.2.2) && true)))=true
  rw[Er c a.1,Er d a.2.1,Er e a.2.2]<;>rfl
 |.option c,none=>rfl
 |.option c,some x=>Er c x
theorem FF:∀(cs:List Codec)(a:Codec.denoteAll cs),Eu (Codec.encAll cs a)=true
 |[],_=>rfl
 |c :: cs,a=>by
  show (plW (c.enc a.1) && Eu (Codec.encAll cs a.2))=true
  rw[Er c a.1,FF cs a.2]<;>rfl
theorem EQ:∀{xs:List WData} {d:WData},d∈xs->d.weight<=WData.weightAll xs
 |[],d,h=>absurd h (by simp)
 |x :: r,d,h=>by
  show d.weight<=x.weight+1+WData.weightAll r
  rcases List.mem_cons.mp h with e|m
  ·rw[e]
   lia
  ·have z:=EQ m
   lia
def toV:Value->V
 |.none=>.non
 |.bool b=>.bl b
 |.int i _=>.int i
 |.str x _=>.str x
 |.bytes b _=>.byt b
 |.ref a=>.ref a
 |_=>.non
def OkU (A:List Addr):Value->Prop
 |.none=>True
 |.bool _=>True
 |.int _ _=>True
 |.str _ _=>True
 |.bytes _ _=>True
 |.ref a=>a∈A
 |_=>False
theorem OkU.mono {A B:List Addr}(h:∀a∈A,a∈B):∀{u:Value},OkU A u->OkU B u:=λ{u} x=>by
 cases u with
 |ref a=>exact h a x
 |none=>trivial
 |bool b=>trivial
 |int i t=>trivial
 |str s t=>trivial
 |bytes b t=>trivial
 |_=>exact False.elim x
theorem relV_toV {A:List Addr}{u:Value}(x:OkU A u):RelV (toV u) u:=by
 cases u with
 |ref a=>rfl
 |none=>rfl
 |bool b=>rfl
 |int i t=>exact ⟨t,rfl⟩
 |str s t=>exact ⟨t,rfl⟩
 |bytes b t=>exact ⟨t,rfl⟩
 |_=>exact False.elim x
theorem Ek {A:List Addr}:∀{vs:List Value},(∀u∈vs,OkU A u)->Vals (vs.map toV) vs
 |[],_=>.nil
 |u :: r,h=>.cons (relV_toV (h u (List.mem_cons_self ..))) (Ek λx hx=>h x (List.mem_cons_of_mem _ hx))
def ArgOb (h:Heap)(A:List Addr)(a:Addr):Prop:=∃vs:List Value,vs.length<=sizeLine/\(∀u∈vs,OkU A u)/\
 (h.get? a=some { cls:=.type "list",data:=.seq vs.toArray }\/h.get? a=some { cls:=.type "tuple",data:=.seq vs.toArray })
theorem ArgOb.mono {h:Heap}{A B:List Addr}{a:Addr}(k:∀a∈A,a∈B)(x:ArgOb h A a):ArgOb h B a:=by
 obtain ⟨vs,h1,h2,h3⟩:=x
 exact ⟨vs,h1,λu hu=>(h2 u hu).mono k,h3⟩
theorem Eo {P:Params}{h:Heap}:∀{vs:List Value} {ds:List WData},WellAll P h vs ds->vs.length=ds.length
 |_,_,.nil=>rfl
 |_,_,.cons _ b=>by
  show _+1=_+1
  rw[Eo b]
theorem FC {P:Params}{h:Heap}{v:Value}{ds:List WData}(x:Well P h v (.list ds)):∃(a:Addr)(vs:List Value),v=.ref a/\h.get? a=some { cls:=.type "list",data:=.seq vs.toArray }/\WellAll P h vs ds:=by
 cases x with
 |list ho hall=>exact ⟨_,_,rfl,ho,hall⟩
theorem Fh {P:Params}{h:Heap}{v:Value}{ds:List WData}(x:Well P h v (.tuple ds)):∃(a:Addr)(vs:List Value),v=.ref a/\h.get? a=some { cls:=.type "tuple",data:=.seq vs.toArray }/\WellAll P h vs ds:=by
 cases x with
 |tuple ho hall=>exact ⟨_,_,rfl,ho,hall⟩
theorem FD {P:Params}{h:Heap}{us:List Value}{d:WData}{ds:List WData}(x:WellAll P h us (d :: ds)):∃(v:Value)(vs:List Value),us=v :: vs/\Well P h v d/\WellAll P h vs ds:=by
 cases x with
 |cons a b=>exact ⟨_,_,rfl,a,b⟩
theorem Gj {n:Nat}(h:n<=1048576):n<=sizeLine:=Nat.le_trans h (by decide)
section
variable {P:Params}{h:Heap}
mutual
theorem area_one:∀(d:WData)(v:Value),Well P h v d->plW d=true->d.weight<=1048576->∃A:List Addr,OkU A v/\∀a∈A,ArgOb h A a
 |.none,_,x,_,_=>by
  cases x
  exact ⟨[],trivial,λa m=>absurd m (by simp)⟩
 |.bool b,_,x,_,_=>by
  cases x
  exact ⟨[],trivial,λa m=>absurd m (by simp)⟩
 |.int i,_,x,_,_=>by
  cases x
  exact ⟨[],trivial,λa m=>absurd m (by simp)⟩
 |.str s,_,x,_,_=>by
  cases x
  exact ⟨[],trivial,λa m=>absurd m (by simp)⟩
 |.bytes b,_,x,_,_=>by
  cases x
  exact ⟨[],trivial,λa m=>absurd m (by simp)⟩
 |.list ds,_,x,p,z=>by
  obtain ⟨a,vs,rfl,ho,hall⟩:=FC x
  have z2:WData.weightAll ds<=1048576:=z
  obtain ⟨A,h1,h2⟩:=EU ds _ hall p λd hd=>Nat.le_trans (EQ hd) z2
  have k:∀b∈A,b∈a :: A:=λb hb=>List.mem_cons_of_mem _ hb
  refine ⟨a :: A,List.mem_cons_self ..,λb hb=>?_⟩
  rcases List.mem_cons.mp hb with e|m
  ·rw[e]
   exact ⟨vs,Gj (by rw[Eo hall];exact Nat.le_trans (PySem.W.length_le_weightAllW ds) z2),λu hu=>(h1 u hu).mono k,.inl ho⟩
  ·exact (h2 b m).mono k
 |.tuple ds,_,x,p,z=>by
  obtain ⟨a,vs,rfl,ho,hall⟩:=Fh x
  have z2:WData.weightAll ds<=1048576:=z
  obtain ⟨A,h1,h2⟩:=EU ds _ hall p λd hd=>Nat.le_trans (EQ hd) z2
  have k:∀b∈A,b∈a :: A:=λb hb=>List.mem_cons_of_mem _ hb
  refine ⟨a :: A,List.mem_cons_self ..,λb hb=>?_⟩
  rcases List.mem_cons.mp hb with e|m
  ·rw[e]
   exact ⟨vs,Gj (by rw[Eo hall];exact Nat.le_trans (PySem.W.length_le_weightAllW ds) z2),λu hu=>(h1 u hu).mono k,.inr ho⟩
  ·exact (h2 b m).mono k
 |.float _,_,_,p,_=>Bool.noConfusion (show false=true from p)
 |.dict _,_,_,p,_=>Bool.noConfusion (show false=true from p)
 |.bytearray _,_,_,p,_=>Bool.noConfusion (show false=true from p)
 |.set _,_,_,p,_=>Bool.noConfusion (show false=true from p)
 |.frozenset _,_,_,p,_=>Bool.noConfusion (show false=true from p)
 |.obj _ _,_,_,p,_=>Bool.noConfusion (show false=true from p)
theorem EU:∀(ds:List WData)(vs:List Value),WellAll P h vs ds->Eu ds=true->(∀d∈ds,d.weight<=1048576)->∃A:List Addr,(∀u∈vs,OkU A u)/\∀a∈A,ArgOb h A a
 |[],_,x,_,_=>by
  cases x
  exact ⟨[],λu m=>absurd m (by simp),λa m=>absurd m (by simp)⟩
 |d :: ds,_,x,p,z=>by
  obtain ⟨v,vs,rfl,x1,x2⟩:=FD x
  have q:plW d=true/\Eu ds=true:=Bool.and_eq_true_iff.mp p
  obtain ⟨A,a1,a2⟩:=area_one d v x1 q.1 (z d (List.mem_cons_self ..))
  obtain ⟨B,b1,b2⟩:=EU ds vs x2 q.2 λe he=>z e (List.mem_cons_of_mem _ he)
  have kA:∀b∈A,b∈A++B:=λb hb=>List.mem_append.mpr (.inl hb)
  have kB:∀b∈B,b∈A++B:=λb hb=>List.mem_append.mpr (.inr hb)
  refine ⟨A++B,λu hu=>?_,λb hb=>?_⟩
  ·rcases List.mem_cons.mp hu with e|m
   ·rw[e]
    exact a1.mono kA
   ·exact (b1 u m).mono kB
  ·rcases List.mem_append.mp hb with m|m
   ·exact (a2 b m).mono kA
   ·exact (b2 b m).mono kB
end
end
def GC (o:Obj):Option HO:=match o.data with
 | .seq vs _=>if (o.cls == Value.type "list")=true then some (.frz o (.lst (vs.toList.map toV))) else some (.frz o (.tup (vs.toList.map toV)))
 |_=>none
def D9 (K:Frag)(h:Heap)(A:List Addr):Hp:=λb=>if b∈A then (if (K.lookup b).isNone=true then (h.get? b).bind GC else none) else none
def Ft (H:Hp):Prop:=∀b,H b=none\/∃o u,H b=some (.frz o u)
theorem Gc (vs:List Value):GC { cls:=.type "list",data:=.seq vs.toArray }=some (.frz { cls:=.type "list",data:=.seq vs.toArray } (.lst (vs.map toV))):=by
 show (if (Value.type "list" == Value.type "list")=true then some (HO.frz { cls:=.type "list",data:=.seq vs.toArray } (.lst (vs.toArray.toList.map toV))) else some (HO.frz { cls:=.type "list",data:=.seq vs.toArray } (.tup (vs.toArray.toList.map toV))))=_
 rw[if_pos (beq_self_eq_true _)]
theorem Gb (vs:List Value):GC { cls:=.type "tuple",data:=.seq vs.toArray }=some (.frz { cls:=.type "tuple",data:=.seq vs.toArray } (.tup (vs.map toV))):=by
 show (if (Value.type "tuple" == Value.type "list")=true then some (HO.frz { cls:=.type "tuple",data:=.seq vs.toArray } (.lst (vs.toArray.toList.map toV))) else some (HO.frz { cls:=.type "tuple",data:=.seq vs.toArray } (.tup (vs.toArray.toList.map toV))))=_
 rw[if_neg (by decide)]
section
variable {P:Program}{w:World}{K:Frag}{h:Heap}{A:List Addr}
theorem Fa {b:Addr}{o:Obj}(hb:b∈A)(hk:K.lookup b=none)(e:h.get? b=some o):D9 K h A b=GC o:=by
 unfold D9
 rw[if_pos hb,hk,if_pos (show (none:Option Obj).isNone=true from rfl),e]<;>rfl
theorem of_argH {b:Addr}{u:HO}(q:D9 K h A b=some u):b∈A/\K.lookup b=none:=by
 unfold D9 at q
 by_cases hb:b∈A
 ·rw[if_pos hb] at q
  cases hk:K.lookup b with
  |none=>exact ⟨hb,rfl⟩
  |some o=>
   rw[hk,if_neg (by simp)] at q
   cases q
 ·rw[if_neg hb] at q
  cases q
theorem E9 (ar:∀a∈A,ArgOb h A a){b:Addr}{u:HO}(q:D9 K h A b=some u):K.lookup b=none/\∃vs:List Value,vs.length<=sizeLine/\(∀u∈vs,OkU A u)/\
    ((h.get? b=some { cls:=.type "list",data:=.seq vs.toArray }/\u=.frz { cls:=.type "list",data:=.seq vs.toArray } (.lst (vs.map toV)))\/
     (h.get? b=some { cls:=.type "tuple",data:=.seq vs.toArray }/\u=.frz { cls:=.type "tuple",data:=.seq vs.toArray } (.tup (vs.map toV)))):=by
  obtain ⟨hb,hk⟩:=of_argH q
  obtain ⟨vs,h1,h2,h3⟩:=ar b hb
  refine ⟨hk,vs,h1,h2,?_⟩
  rcases h3 with e|e
  · rw[Fa hb hk e,Gc] at q
    exact .inl ⟨e,(Option.some.inj q).symm⟩
  · rw[Fa hb hk e,Gb] at q
    exact .inr ⟨e,(Option.some.inj q).symm⟩
theorem argH_only (ar:∀a∈A,ArgOb h A a):Ft (D9 K h A):=λb=>by
 cases q:D9 K h A b with
 |none=>exact .inl rfl
 |some u=>
  obtain ⟨_,vs,_,_,⟨_,e⟩|⟨_,e⟩⟩:=E9 ar q
  ·exact .inr ⟨_,_,by rw[e]⟩
  ·exact .inr ⟨_,_,by rw[e]⟩
theorem argH_ok (ar:∀a∈A,ArgOb h A a):HOk P w (D9 K h A) h:=λb u q=>by
 obtain ⟨_,vs,h1,h2,⟨e,rfl⟩|⟨e,rfl⟩⟩:=E9 ar q
 ·exact ⟨e,by rw[List.length_map];exact h1,vs,_,Ek h2,e⟩
 ·exact ⟨e,by rw[List.length_map];exact h1,vs,Ek h2,_,e,rfl,_,rfl⟩
theorem E5 {c c':Value}{vs us:List Value}(e:(some { cls:=c,data:=.seq vs.toArray }:Option Obj)=some { cls:=c',data:=.seq us.toArray }):c=c'/\vs=us:=by
 have e1:=Option.some.inj e
 have e2:c=c':=congrArg Obj.cls e1
 have e3:Data.seq vs.toArray=Data.seq us.toArray:=congrArg Obj.data e1
 injection e3 with e4
 refine ⟨e2,?_⟩
 have e5:=congrArg Array.toList e4
 simpa using e5
theorem argL (KX:K.In h)(ar:∀a∈A,ArgOb h A a){a:Addr}{vs:List Value}(ha:a∈A)(e:h.get? a=some { cls:=.type "list",data:=.seq vs.toArray }):(∀u∈vs,OkU A u)/\SqL K (D9 K h A) a (vs.map toV):=by
 obtain ⟨us,h1,h2,h3⟩:=ar a ha
 have hu:us=vs:=by
  rcases h3 with q|q
  ·rw[e] at q
   exact (E5 q).2.symm
  ·rw[e] at q
   exact absurd (Value.type.inj (E5 q).1) (by decide)
 subst hu
 refine ⟨h2,?_⟩
 cases hk:K.lookup a with
 |none=>exact .inl (.inr ⟨_,by rw[Fa ha hk e,Gc]⟩)
 |some o=>
  have e2:=KX a o hk
  rw[e] at e2
  obtain rfl:=Option.some.inj e2
  exact .inr ⟨_,us.toArray,_,hk,rfl,rfl,rfl,by rw[List.size_toArray];exact h1,by simpa using Ek h2⟩
theorem argT (KX:K.In h)(ar:∀a∈A,ArgOb h A a){a:Addr}{vs:List Value}(ha:a∈A)(e:h.get? a=some { cls:=.type "tuple",data:=.seq vs.toArray }):(∀u∈vs,OkU A u)/\SqT K (D9 K h A) a (vs.map toV):=by
 obtain ⟨us,h1,h2,h3⟩:=ar a ha
 have hu:us=vs:=by
  rcases h3 with q|q
  ·rw[e] at q
   exact absurd (Value.type.inj (E5 q).1) (by decide)
  ·rw[e] at q
   exact (E5 q).2.symm
 subst hu
 refine ⟨h2,?_⟩
 cases hk:K.lookup a with
 |none=>exact .inl (.inr ⟨_,by rw[Fa ha hk e,Gb]⟩)
 |some o=>
  have e2:=KX a o hk
  rw[e] at e2
  obtain rfl:=Option.some.inj e2
  exact .inr ⟨_,us.toArray,_,hk,rfl,rfl,by rw[List.size_toArray];exact h1,by simpa using Ek h2⟩
mutual
theorem dw_one {Pm:Params}(KX:K.In h)(ar:∀a∈A,ArgOb h A a):∀(d:WData)(v:Value),Well Pm h v d->plW d=true->OkU A v->Dw K (D9 K h A) (toV v) d
 |.none,_,x,_,_=>by
  cases x
  exact .non
 |.bool b,_,x,_,_=>by
  cases x
  exact .bl b
 |.int i,_,x,_,_=>by
  cases x
  exact .int i
 |.str s,_,x,_,_=>by
  cases x
  exact .str s
 |.bytes b,_,x,_,_=>by
  cases x
  have z:=Dw.byt (K:=K) (H:=D9 K h A) b.toArray
  exact z
 |.list ds,_,x,p,hu=>by
  obtain ⟨a,vs,rfl,ho,hall⟩:=FC x
  obtain ⟨h2,hs⟩:=argL KX ar hu ho
  exact .lst hs (Fs KX ar ds _ hall p h2)
 |.tuple ds,_,x,p,hu=>by
  obtain ⟨a,vs,rfl,ho,hall⟩:=Fh x
  obtain ⟨h2,hs⟩:=argT KX ar hu ho
  exact .tup hs (Fs KX ar ds _ hall p h2)
 |.float _,_,_,p,_=>Bool.noConfusion (show false=true from p)
 |.dict _,_,_,p,_=>Bool.noConfusion (show false=true from p)
 |.bytearray _,_,_,p,_=>Bool.noConfusion (show false=true from p)
 |.set _,_,_,p,_=>Bool.noConfusion (show false=true from p)
 |.frozenset _,_,_,p,_=>Bool.noConfusion (show false=true from p)
 |.obj _ _,_,_,p,_=>Bool.noConfusion (show false=true from p)
theorem Fs {Pm:Params}(KX:K.In h)(ar:∀a∈A,ArgOb h A a):∀(ds:List WData)(vs:List Value),WellAll Pm h vs ds->Eu ds=true->(∀u∈vs,OkU A u)->DwAll K (D9 K h A) (vs.map toV) ds
 |[],_,x,_,_=>by
  cases x
  exact .nil
 |d :: ds,_,x,p,hu=>by
  obtain ⟨v,vs,rfl,x1,x2⟩:=FD x
  have q:plW d=true/\Eu ds=true:=Bool.and_eq_true_iff.mp p
  exact .cons (dw_one KX ar d v x1 q.1 (hu _ (List.mem_cons_self ..))) (Fs KX ar ds vs x2 q.2 λu m=>hu u (List.mem_cons_of_mem _ m))
end
end
theorem spec_call {P:Program}{w:World}{K:Frag}{mg mb:Str->Option Value}{CX:CXT}{k:Nat}{fa:Addr}{fd:FuncData}{ps:List Str}{sp:Sp}{s₁:Shared}{vals:List Value}{ds:List WData}{R:PySem.W.WRecords}{cl:Str->Option Addr}{d0:WData}
  (KX:K.In s₁.heap) (hns:s₁.heap.Ns mainGlobals mg) (hb:s₁.heap.Ns builtinsNs mb) (hbb:∀x:Str,x ≠ "__name__" -> mb x=bootBuiltins x) (hlim:s₁.heap.NoLimit) (hg:s₁.gens = #[])
  (hwl:WellAll w.params s₁.heap vals ds) (hpl:Eu ds=true) (hwt:∀d∈ds,d.weight<=1048576) (hr:Room k callerA)
  (F:∀base:Heap,K.In base->base.Ns mainGlobals mg->FnOk P w K mg base CX k fa fd ps sp) (hbind:∀(s:Shared)(us:List Value),us.length=ps.length->BindsTo s fd ⟨us,[]⟩ (ps.zip us)) (hlen:ds.length=ps.length)
  (hsp:∀(H:Hp)(xs:List V),Ft H->DwAll K H xs ds->sp xs H (λv H'=>Dw K H' v d0) λ_ _ _=>False)
  (hCX:∀H e s',CX [] H s₁ (λ_ _ _=>False) e s'->False) :
  codeAny (model P w) callerA (.call (.ref fa) ⟨vals,[]⟩) (λr s'=>∃u as,r=.ok (.ret u)/\ReadsW R cl s'.heap u d0 as/\OldK s₁.heap s'.heap/\s'.os=s₁.os/\AllBare s'.gens) s₁:=by
 obtain ⟨A,ho,ar⟩:=EU ds vals hwl hpl hwt
 have hO:Ft (D9 K s₁.heap A):=argH_only ar
 have hok:HOk P w (D9 K s₁.heap A) s₁.heap:=argH_ok ar
 have hS:=Fs KX ar ds vals hwl hpl ho
 have hV:=Ek ho
 have hK:∀b u,D9 K s₁.heap A b=some u->K.lookup b=none:=λb u q=>(E9 ar q).1
 have noA:∀{b:Addr} {o:Obj} {es:Array DictEntry} {ep:Nat},s₁.heap.get? b=some o->o.data=.dict es ep->D9 K s₁.heap A b=none:=λ{b o es ep} e d=>by
  cases q:D9 K s₁.heap A b with
  |none=>rfl
  |some u=>
   obtain ⟨_,vs,_,_,⟨e2,_⟩|⟨e2,_⟩⟩:=E9 ar q
   ·rw[e2] at e
    cases e
    have d':Data.seq vs.toArray _=Data.dict es ep:=d
    cases d'
   ·rw[e2] at e
    cases e
    have d':Data.seq vs.toArray _=Data.dict es ep:=d
    cases d'
 generalize D9 K s₁.heap A=H at hO hok hS hK noA
 have base_of:∀{b:Addr} {o:Obj},s₁.heap.get? b=some o->H b=none->(ET s₁.heap H).get? b=some o:=λe n=>hidT_get e n
 have nsK:∀{b:Addr} {m:Str->Option Value},s₁.heap.Ns b m->(ET s₁.heap H).Ns b m:=λ{b m} ⟨o,es,ep,e,d,r⟩=>⟨o,es,ep,base_of e (noA e d),d,r⟩
 have nK:∀b o,K.lookup b=some o->H b=none:=λb o e=>by
  cases q:H b with
  |none=>rfl
  |some u=>
   rw[hK b u q] at e
   cases e
 have hKb:K.In (ET s₁.heap H):=λb o e=>base_of (KX b o e) (nK b o e)
 have hM:Mod K mg (ET s₁.heap H):=⟨hKb,nsK hns,⟨mb,nsK hb,hbb⟩,let ⟨mc,h1,h2⟩:=hlim;⟨mc,nsK h1,h2⟩⟩
 have e0:Env0 P w K mg (ET s₁.heap H) callerA [] s₁ H:=⟨rfl,hM,λb o e=>of_hidT e,Nat.le_of_eq (hidT_size _ _),trivial,λb hb=>absurd (show b∈([]:List Addr) from hb) (by simp),hok,.of_eq hg⟩
 have hl:vals.length=ps.length:=by rw[Eo hwl];exact hlen
 refine codeAny_mono ((F _ hKb (nsK hns)).run callerA [] s₁ H ⟨vals,[]⟩ vals (vals.map toV) _ _ hr e0 (hbind s₁ vals hl) hV (hsp H _ hO hS)) λr s' x=>?_
 cases r with
 |error e=>exact (hCX H e s' x).elim
 |ok fl=>
  cases fl with
  |next=>exact False.elim x
  |brk=>exact False.elim x
  |cont=>exact False.elim x
  |ret u=>
   obtain ⟨v,H',os,bare,un,hok',r',q⟩:=x
   have kept:∀b o,s₁.heap.get? b=some o->s'.heap.get? b=some o:=λb o e=>by
    cases q2:H b with
    |none=>exact un.keep b o e q2 (by intro z;exact absurd (show b∈([]:List Addr) from z) (by simp)) (by simp)
    |some u2=>
     rcases hO b with z|⟨ob,u3,z⟩
     ·rw[q2] at z
      cases z
     ·have z2:=un.frzs b ob _ z
      obtain ⟨e1,_⟩:=hok b _ z
      obtain ⟨e2,_⟩:=hok' b _ z2
      rw[e] at e1
      cases e1
      exact e2
   have KX':K.In s'.heap:=λb o e=>kept b o (KX b o e)
   obtain ⟨as,hrd⟩:=Dw.reads (R:=R) (cl:=cl) hok' KX' d0 v u q r'
   exact ⟨u,as,rfl,hrd,OldK.of_keep kept,os,bare⟩
theorem layable_weight {ds:List WData}(h:WData.layableAll ds=true):∀d∈ds,d.weight<=1048576:=λd hd=>
 (PySem.W.layableW_iff.mp (List.all_eq_true.mp h d hd)).2.2
theorem Fq:∀(cs:List Codec)(a:Codec.denoteAll cs),(Codec.encAll cs a).length=cs.length
 |[],_=>rfl
 |c :: cs,a=>by
  show (Codec.encAll cs a.2).length+1=cs.length+1
  rw[Fq cs a.2]
theorem walk_spec {r:OpenSpec}{k:Nat}{q:Program}{loose:List Str}{XP:(Str->Option Value)->Heap->Prop}{YP:World->Heap->Prop}{d:DefRec}{K:Params->Frag}{CX:World->CXT}{ps:List Str}{sp:World->Sp}
  (hwell:r.wellSaid=true) (hdf:d.params.defaults=[]) (hlen:r.args.length=ps.length) (hr:Room k callerA)
  (hY:∀(w:World)(h:Heap),YP w h->(K w.params).In h)
  (F:∀(w:World)(mg:Str->Option Value)(fa:Addr)(h:Heap),YP w h->(K w.params).In h->h.Ns mainGlobals mg->mg d.name=some (.ref fa)->
   ∃fd:FuncData,(∀(s:Shared)(us:List Value),us.length=ps.length->BindsTo s fd ⟨us,[]⟩ (ps.zip us))/\
    ∀base:Heap,(K w.params).In base->base.Ns mainGlobals mg->FnOk r.prog w (K w.params) mg base (CX w) k fa fd ps (sp w))
  (hsp:∀(w:World)(H:Hp)(xs:List V)(a:Codec.denoteAll r.args),Ft H->Codec.withinAll r.args a=true->Codec.app r.args r.asked a=true->DwAll (K w.params) H xs (Codec.encAll r.args a)->
   sp w xs H (λv H'=>Dw (K w.params) H' v (r.ret.enc (Codec.app r.args r.f a))) λ_ _ _=>False)
  (hCX:∀(w:World)(H:Hp)(s:Shared)(e:Value)(s':Shared),CX w [] H s (λ_ _ _=>False) e s'->False) :
  PySem.W.WalkOS q loose XP YP r d [] (λf vs=>PySem.call f vs):=by
 intro w s_0 s₁ mg mb G Y fa o pm cd doc dV kV ho hd hcd hD hmg hg args vals as hpre hlay hrd hwl hlo
 obtain ⟨a,e1,e2⟩:=PySem.W.os_pre_some hpre
 obtain ⟨e3,hwi⟩:=Codec.encAll_of_decAll r.args args a e1
 subst e3
 have KX:=hY w _ Y
 obtain ⟨fd,hb,hF⟩:=F w mg fa _ Y KX G.T.g hmg
 refine PySem.W.enter_call (codeAny_mono (spec_call (R:=[]) (cl:=classAt s_0.heap) (d0:=r.ret.enc (Codec.app r.args r.f a)) KX G.T.g G.T.b G.T.builtins G.T.nolimit hg hwl (FF _ _) (layable_weight hlay) hr hF hb (by rw[Fq];exact hlen)
  (λH xs hO hS=>hsp w H xs a hO hwi e2 hS) λH e s'=>hCX w H s₁ e s') λr' s' hq=>?_)
 obtain ⟨u,as',rfl,h1,h2,h3,h4⟩:=hq
 exact ⟨.inl ⟨u,_,as',rfl,λ_=>rfl,h1,(OpenSpec.post_iff hwell hwi _ _).mpr rfl,λz=>Bool.noConfusion (show false=true from z)⟩,h2,h3,h4⟩
theorem walk_specK {r:OpenSpec}{k:Nat}{q:Program}{loose:List Str}{XP:(Str->Option Value)->Heap->Prop}{YP:World->Heap->Prop}{d:DefRec}{K:Params->Frag}{CX:CXT}{ps:List Str}{sp:Frag->Sp}
  (hwell:r.wellSaid=true) (hdf:d.params.defaults=[]) (hlen:r.args.length=ps.length) (hr:Room k callerA)
  (hY:∀(w:World)(h:Heap),YP w h->(K w.params).In h)
  (F:∀(w:World)(mg:Str->Option Value)(fa:Addr)(h:Heap),YP w h->(K w.params).In h->h.Ns mainGlobals mg->mg d.name=some (.ref fa)->
   ∃fd:FuncData,(∀(s:Shared)(us:List Value),us.length=ps.length->BindsTo s fd ⟨us,[]⟩ (ps.zip us))/\
    ∀base:Heap,(K w.params).In base->base.Ns mainGlobals mg->FnOk r.prog w (K w.params) mg base CX k fa fd ps (sp (K w.params)))
  (hsp:∀(K:Frag)(H:Hp)(xs:List V)(a:Codec.denoteAll r.args),Ft H->Codec.withinAll r.args a=true->Codec.app r.args r.asked a=true->DwAll K H xs (Codec.encAll r.args a)->
   sp K xs H (λv H'=>Dw K H' v (r.ret.enc (Codec.app r.args r.f a))) λ_ _ _=>False)
  (hCX:∀(H:Hp)(s:Shared)(e:Value)(s':Shared),CX [] H s (λ_ _ _=>False) e s'->False) :
  PySem.W.WalkOS q loose XP YP r d [] (λf vs=>PySem.call f vs):=
 walk_spec (K:=K) (CX:=λ_=>CX) (sp:=λw=>sp (K w.params)) hwell hdf hlen hr hY F (λw H xs a h1 h2 h3 h4=>hsp (K w.params) H xs a h1 h2 h3 h4) λ_ H s e s'=>hCX H s e s'
end L2
end
namespace L2
open PySem PySem.Spec PyProof.Rows
def inClass (s:Stmt)(j:Nat):Stmt:=match s with
 |.ClassDef _ _ _ body _ _ _ _ _ _ _=>body.getD j (.Pass ⟨0,0,0,0⟩)
 |_=>.Pass ⟨0,0,0,0⟩
def Do (s:Stmt):Arguments:=match s with
 |.FunctionDef _ a _ _ _ _ _ _ _ _=>a
 |_=>{ posonlyargs:=[],args:=[],vararg:=none,kwonlyargs:=[],kw_defaults:=[],kwarg:=none,defaults:=[] }
def Dn (s:Stmt):List Stmt:=match s with
 |.FunctionDef _ _ b _ _ _ _ _ _ _=>b
 |_=>[]
def Dg (s:Stmt):Scope:=match s with
 |.FunctionDef _ _ _ _ _ _ sc _ _ _=>sc
 |_=>{ kind:=.function,names:=[],isGenerator:=false,isCoroutine:=false }
abbrev CX0:CXT:=λ_ _ _ _ _ _=>False
abbrev E0:XK:=λ_ _ _=>False
theorem FM {X:Cx}:EB CX0 X E0:=λ_ _ _ _ _ _ _ h=>h.elim
structure Fun (K:Frag)(x qual:Str)(st:Stmt)(f:Addr)(fd:FuncData):Prop where
 ex:∃(oc:Value)(od:Option Addr)(kV doc pm:Value)(an:Option Addr)(cdv ct:Value)(osl:Array (Option Value)),
  fd=PySem.W.fnOf x qual (Do st) (Dn st) (Dg st) .none kV doc pm an cdv ct/\K.lookup f=some ⟨oc,od,.func fd,osl⟩/\PySem.W.codeIn K cdv qual=true
 kp:PySem.W.keepIn K (.ref f)=true
section
variable {P:Program}{w:World}{K:Frag}{mg:Str->Option Value}{base:Heap}
theorem Fun.ok {x qual:Str}{st:Stmt}{f:Addr}{fd:FuncData}{N ps:List Str}{k:Nat}{sp:Sp}(F:Fun K x qual st f fd)(S:FnScope N ps (Dg st))(len:∀vs H Q E,sp vs H Q E->vs.length=ps.length)
  (hbody:∀(cdv:Value)(A:Around)(outer:List Env)(s:Shared)(H:Hp)(vs:List V)(Q:VK)(E:XK),Room k (A.deeper (envOfC qual (Dg st) s.heap.objs.size f cdv))->sp vs H Q E->
   ∃t,PSs (Fg CX0 P w K mg base N qual (Dg st) f cdv A outer s H E).nox (Dn st) t/\t { nx:=λ_ H'=>Q .non H',rt:=Q } (start N vs) H):FnOk P w K mg base CX0 (k+1) f fd ps sp:=by
 obtain ⟨oc,od,kV,doc,pm,an,cdv,ct,osl,rfl,lk,hcd⟩:=F.ex
 refine fn_of lk hcd S len λA outer s H vs Q E hr hsp=>?_
 obtain ⟨t,h,q⟩:=hbody cdv A outer s H vs Q E hr hsp
 exact ⟨t,h.nox,q⟩
theorem Fun.binds {x qual:Str}{st:Stmt}{f:Addr}{fd:FuncData}{ps:List Str}(F:Fun K x qual st f fd)
  (h:∀(kV doc pm:Value)(an:Option Addr)(cdv ct:Value)(us:List Value),us.length=ps.length->bindArgs (PySem.W.fnOf x qual (Do st) (Dn st) (Dg st) .none kV doc pm an cdv ct) ⟨us,[]⟩=pure (ps.zip us)):Binds K fd ps []:=by
 obtain ⟨oc,od,kV,doc,pm,an,cdv,ct,osl,rfl,lk,hcd⟩:=F.ex
 exact .all (h kV doc pm an cdv ct)
theorem Dq {x qual:Str}{st:Stmt}{f:Addr}{oc:Value}{od an:Option Addr}{osl:Array (Option Value)}{kV doc pm cdv ct:Value}(l:K.lookup f=some ⟨oc,od,.func (PySem.W.fnOf x qual (Do st) (Dn st) (Dg st) .none kV doc pm an cdv ct),osl⟩)
  (c:PySem.W.codeIn K cdv qual=true) (k:PySem.W.keepIn K (.ref f)=true):Fun K x qual st f (PySem.W.fnOf x qual (Do st) (Dn st) (Dg st) .none kV doc pm an cdv ct):=⟨⟨oc,od,kV,doc,pm,an,cdv,ct,osl,rfl,l,c⟩,k⟩
end
section
variable {X:Cx}
theorem pv (i:Nat){x:Str}{pos:Pos}(hN:X.N[i]? = some x:=by rfl)(hv:Vis X.env.scope x:=by first | exact Or.inl rfl | exact Or.inr (Or.inl rfl) | exact Or.inr (Or.inr rfl))(hd:(x == ("__debug__" : Str))=false:=by decide)
  (hcd:(x == ("__classdict__" : Str))=false:=by decide):PE X (.Name x pos) (FQ i):=pe_var hN hv hd hcd
end
theorem iteF {A B:Prop}(h:B):if false=true then A else B:=by
 rw[if_neg Bool.false_ne_true]
 exact h
def Same (H H':Hp):Prop:=∀b o,H b=some o->H' b=some o
theorem Same.refl (H:Hp):Same H H:=λ_ _ h=>h
theorem Same.trans {H H1 H2:Hp}(a:Same H H1)(b:Same H1 H2):Same H H2:=λc o h=>b c o (a c o h)
theorem Same.free {H H':Hp}(e:Same H H'){l:Addr}(h:H' l=Option.none):H l=Option.none:=by
 cases q:H l with
 |none=>rfl
 |some o=>
  rw[e l o q] at h
  cases h
theorem Same.seq {K:Frag}{H H':Hp}{a:Addr}{xs:List V}(e:Same H H')(h:SqL K H a xs):SqL K H' a xs:=by
 rcases h with (h|⟨o,h⟩)|h
 ·exact .inl (.inl (e _ _ h))
 ·exact .inl (.inr ⟨o,e _ _ h⟩)
 ·exact .inr h
theorem at_of {xs:List V}{z:Int}{j:Nat}{v:V}(e:z=(j:Int))(h:xs[j]? = some v):atI xs z=some v:=by
 rw[e]
 exact atI_nat h
theorem Fm {α:Type}{l:List α}(hN:l.Nodup){i j:Nat}{x:α}(a:l[i]? = some x)(b:l[j]? = some x):i=j:=by
 obtain ⟨h1,e1⟩:=List.getElem?_eq_some_iff.mp a
 obtain ⟨h2,e2⟩:=List.getElem?_eq_some_iff.mp b
 exact (List.getElem_inj hN).mp (e1.trans e2.symm)
theorem Same.made {H H1:Hp}{x dx C:Addr}(nx:H x=Option.none)(nd:H dx=Option.none)(k:∀b o,(upd (upd H dx (.own x)) x (.ins C dx [])) b=some o->b≠x->H1 b=some o):Same H H1:=λb o e=>
 k b o (by rw[Dz (DJ e nx),Dz (DJ e nd)];exact e) (DJ e nx)
end L2

end
set_option Elab.async false
set_option linter.all false
set_option maxRecDepth 100000
set_option maxHeartbeats 2000000
namespace My
abbrev NL:=List Nat
abbrev LL:=List NL
open List (getElem_mem mem_append mem_of_mem_take mem_of_mem_drop getElem?_append_left getElem?_append_right range range_succ foldl_append mem_map getElem?_zipWith mem_of_getElem? all_eq_true map_map map_congr_left flatMap_append length_append mem_cons not_mem_nil map_cons map_nil flatten_cons mem_cons_self mem_cons_of_mem length_cons drop_append drop_eq_getElem_cons drop_eq_nil_of_le getElem?_eq_getElem mem_singleton length_map length_drop length_take mem_range map_append flatten_append flatten_nil append_nil take_add take_of_length_le getElem?_map getElem?_range getElem?_take ext_getElem getElem_map getElem_range length_range range_add nil_append drop_zero flatMap_cons getElem_zipWith append_assoc take_append_drop take_append length_singleton length_replicate take_length replicate mem_replicate getD_eq_getElem?_getD getElem_drop ext_getElem? nodup_cons mem_filter find?_eq_none mem_of_find?_eq_some find?_some getElem?_set_ne getElem?_set_self filter_append length_filter_le filter_cons nodup_append take_sublist mem_iff_getElem getElem?_eq_none filter_congr filter_eq_nil_iff map_set nodup_nil getElem?_of_mem size_toArray replicate_succ foldl_cons foldl_nil length_set countP_cons length_nil set_cons_zero set_cons_succ cons_append sublist_append_left mem_append_left drop_drop getElem?_drop countP_map drop_left' take_left' mem_append_right any_eq_true mem_map_of_mem)
open Nat (xor_lt_two_pow mul_comm xor_assoc xor_comm zero_add reduceAdd xor_self zero_xor not_lt_zero mul_zero and_two_pow_sub_one_eq_mod eq_of_testBit_eq testBit_mod_two_pow testBit_or testBit_xor mod_eq_of_lt lt_of_le_of_lt mod_lt lt_of_lt_of_le pow_le_pow_right not_le not_lt testBit_div_two_pow add_comm testBit_and pow_mul pow_succ mul_succ mul_le_mul_left mul_add add_sub_cancel_left min_eq_left pow_zero xor_zero min_self le_refl zero_le ne_of_lt lt_succ_iff_lt_or_eq)
open Sy22 (inv power inverses product mul mix words rounds keys shift block left big little bigOf more2 more1 block1 block2 pieces sum sum2 step2 step1 added zeros tagged times hashed filled counter tag share rowFor addRow solve places mark sealed opened shares littleOf Head headOf written isRight headOk lengthOk bitsOf Deed sector replaced ofHead headAt empty rowOf sum1 newer keyOf nonceOf record sharedBy tellsBy mendedDisk changed torn acts nameFits)
open PySem.W (Frag keepIn nsIn plainGet hasDictIn plainOver findIn makesIn fnOf codeIn isFn mg_of mg_none_of)
section
variable {A B C D E F I J L M N O R S T U W X:Type}{G:Prop}(a:A)(b:B)(c:C)(d:D)(e:E)(f:F)(g:I)(h:J)(i:L)(j:M)(k:N)(l:O)(m:R)(n:S)(o:T)(q:U)(r:W)(s:X)
theorem e_1 {p:A->Prop}(x:∃a,p a)(y:∀a,p a->G):G:=x.elim λa z=>y a z
theorem e_2 {p:A->B->Prop}(x:∃a b,p a b)(y:∀a b,p a b->G):G:=x.elim λa z=>e_1 z (y a)
theorem i_2 {p:A->B->Prop}(z:p a b):∃a b,p a b:=⟨_,_,z⟩
theorem e_3 {p:A->B->C->Prop}(x:∃a b c,p a b c)(y:∀a b c,p a b c->G):G:=x.elim λa z=>e_2 z (y a)
theorem i_3 {p:A->B->C->Prop}(z:p a b c):∃a b c,p a b c:=⟨_,_,_,z⟩
theorem e_4 {p:A->B->C->D->Prop}(x:∃a b c d,p a b c d)(y:∀a b c d,p a b c d->G):G:=x.elim λa z=>e_3 z (y a)
theorem i_4 {p:A->B->C->D->Prop}(z:p a b c d):∃a b c d,p a b c d:=⟨_,_,_,_,z⟩
theorem e_5 {p:A->B->C->D->E->Prop}(x:∃a b c d e,p a b c d e)(y:∀a b c d e,p a b c d e->G):G:=x.elim λa z=>e_4 z (y a)
theorem i_5 {p:A->B->C->D->E->Prop}(z:p a b c d e):∃a b c d e,p a b c d e:=⟨_,_,_,_,_,z⟩
theorem e_6 {p:A->B->C->D->E->F->Prop}(x:∃a b c d e f,p a b c d e f)(y:∀a b c d e f,p a b c d e f->G):G:=x.elim λa z=>e_5 z (y a)
theorem i_6 {p:A->B->C->D->E->F->Prop}(z:p a b c d e f):∃a b c d e f,p a b c d e f:=⟨_,_,_,_,_,_,z⟩
theorem e_7 {p:A->B->C->D->E->F->I->Prop}(x:∃a b c d e f g,p a b c d e f g)(y:∀a b c d e f g,p a b c d e f g->G):G:=x.elim λa z=>e_6 z (y a)
theorem i_7 {p:A->B->C->D->E->F->I->Prop}(z:p a b c d e f g):∃a b c d e f g,p a b c d e f g:=⟨_,_,_,_,_,_,_,z⟩
theorem e_8 {p:A->B->C->D->E->F->I->J->Prop}(x:∃a b c d e f g h,p a b c d e f g h)(y:∀a b c d e f g h,p a b c d e f g h->G):G:=x.elim λa z=>e_7 z (y a)
theorem i_8 {p:A->B->C->D->E->F->I->J->Prop}(z:p a b c d e f g h):∃a b c d e f g h,p a b c d e f g h:=⟨_,_,_,_,_,_,_,_,z⟩
theorem e_9 {p:A->B->C->D->E->F->I->J->L->Prop}(x:∃a b c d e f g h i,p a b c d e f g h i)(y:∀a b c d e f g h i,p a b c d e f g h i->G):G:=x.elim λa z=>e_8 z (y a)
theorem i_9 {p:A->B->C->D->E->F->I->J->L->Prop}(z:p a b c d e f g h i):∃a b c d e f g h i,p a b c d e f g h i:=⟨_,_,_,_,_,_,_,_,_,z⟩
theorem rH {p:A->B->C->D->E->F->I->J->L->M->Prop}(x:∃a b c d e f g h i j,p a b c d e f g h i j)(y:∀a b c d e f g h i j,p a b c d e f g h i j->G):G:=x.elim λa z=>e_9 z (y a)
theorem mI {p:A->B->C->D->E->F->I->J->L->M->Prop}(z:p a b c d e f g h i j):∃a b c d e f g h i j,p a b c d e f g h i j:=⟨_,_,_,_,_,_,_,_,_,_,z⟩
theorem oS {p:A->B->C->D->E->F->I->J->L->M->N->Prop}(x:∃a b c d e f g h i j k,p a b c d e f g h i j k)(y:∀a b c d e f g h i j k,p a b c d e f g h i j k->G):G:=x.elim λa z=>rH z (y a)
theorem oM {p:A->B->C->D->E->F->I->J->L->M->N->Prop}(z:p a b c d e f g h i j k):∃a b c d e f g h i j k,p a b c d e f g h i j k:=⟨_,_,_,_,_,_,_,_,_,_,_,z⟩
theorem wF {p:A->B->C->D->E->F->I->J->L->M->N->O->Prop}(x:∃a b c d e f g h i j k l,p a b c d e f g h i j k l)(y:∀a b c d e f g h i j k l,p a b c d e f g h i j k l->G):G:=x.elim λa z=>oS z (y a)
theorem Bu {p:A->B->C->D->E->F->I->J->L->M->N->O->Prop}(z:p a b c d e f g h i j k l):∃a b c d e f g h i j k l,p a b c d e f g h i j k l:=⟨_,_,_,_,_,_,_,_,_,_,_,_,z⟩
theorem y1 {p:A->B->C->D->E->F->I->J->L->M->N->O->R->Prop}(x:∃a b c d e f g h i j k l m,p a b c d e f g h i j k l m)(y:∀a b c d e f g h i j k l m,p a b c d e f g h i j k l m->G):G:=x.elim λa z=>wF z (y a)
theorem Bt {p:A->B->C->D->E->F->I->J->L->M->N->O->R->Prop}(z:p a b c d e f g h i j k l m):∃a b c d e f g h i j k l m,p a b c d e f g h i j k l m:=⟨_,_,_,_,_,_,_,_,_,_,_,_,_,z⟩
theorem Bw {p:A->B->C->D->E->F->I->J->L->M->N->O->R->S->Prop}(x:∃a b c d e f g h i j k l m n,p a b c d e f g h i j k l m n)(y:∀a b c d e f g h i j k l m n,p a b c d e f g h i j k l m n->G):G:=x.elim λa z=>y1 z (y a)
theorem yZ {p:A->B->C->D->E->F->I->J->L->M->N->O->R->S->T->Prop}(x:∃a b c d e f g h i j k l m n o,p a b c d e f g h i j k l m n o)(y:∀a b c d e f g h i j k l m n o,p a b c d e f g h i j k l m n o->G):G:=x.elim λa z=>Bw z (y a)
theorem CU {p:A->B->C->D->E->F->I->J->L->M->N->O->R->S->T->Prop}(z:p a b c d e f g h i j k l m n o):∃a b c d e f g h i j k l m n o,p a b c d e f g h i j k l m n o:=⟨_,_,_,_,_,_,_,_,_,_,_,_,_,_,_,z⟩
theorem CW {p:A->B->C->D->E->F->I->J->L->M->N->O->R->S->T->U->Prop}(x:∃a b c d e f g h i j k l m n o q,p a b c d e f g h i j k l m n o q)(y:∀a b c d e f g h i j k l m n o q,p a b c d e f g h i j k l m n o q->G):G:=x.elim λa z=>yZ z (y a)
theorem a_1 {a:Prop}(y:a->G)(x:a):G:=y x
theorem a_2 {a b:Prop}(y:a->b->G)(x:a/\b):G:=a_1 (y x.1) x.2
theorem a_3 {a b c:Prop}(y:a->b->c->G)(x:a/\b/\c):G:=a_2 (y x.1) x.2
theorem a_4 {a b c d:Prop}(y:a->b->c->d->G)(x:a/\b/\c/\d):G:=a_3 (y x.1) x.2
theorem a_5 {a b c d e:Prop}(y:a->b->c->d->e->G)(x:a/\b/\c/\d/\e):G:=a_4 (y x.1) x.2
theorem a_6 {a b c d e f:Prop}(y:a->b->c->d->e->f->G)(x:a/\b/\c/\d/\e/\f):G:=a_5 (y x.1) x.2
theorem a_7 {a b c d e f g:Prop}(y:a->b->c->d->e->f->g->G)(x:a/\b/\c/\d/\e/\f/\g):G:=a_6 (y x.1) x.2
theorem a_8 {a b c d e f g h:Prop}(y:a->b->c->d->e->f->g->h->G)(x:a/\b/\c/\d/\e/\f/\g/\h):G:=a_7 (y x.1) x.2
theorem a_9 {a b c d e f g h i:Prop}(y:a->b->c->d->e->f->g->h->i->G)(x:a/\b/\c/\d/\e/\f/\g/\h/\i):G:=a_8 (y x.1) x.2
theorem wQ {a b c d e f g h i j:Prop}(y:a->b->c->d->e->f->g->h->i->j->G)(x:a/\b/\c/\d/\e/\f/\g/\h/\i/\j):G:=a_9 (y x.1) x.2
theorem Da {a b c d e f g h i j k:Prop}(y:a->b->c->d->e->f->g->h->i->j->k->G)(x:a/\b/\c/\d/\e/\f/\g/\h/\i/\j/\k):G:=wQ (y x.1) x.2
theorem CZ {a b c d e f g h i j k l:Prop}(y:a->b->c->d->e->f->g->h->i->j->k->l->G)(x:a/\b/\c/\d/\e/\f/\g/\h/\i/\j/\k/\l):G:=Da (y x.1) x.2
theorem ze {a b c d e f g h i j k l m:Prop}(y:a->b->c->d->e->f->g->h->i->j->k->l->m->G)(x:a/\b/\c/\d/\e/\f/\g/\h/\i/\j/\k/\l/\m):G:=CZ (y x.1) x.2
theorem CY {a b c d e f g h i j k l m n:Prop}(y:a->b->c->d->e->f->g->h->i->j->k->l->m->n->G)(x:a/\b/\c/\d/\e/\f/\g/\h/\i/\j/\k/\l/\m/\n):G:=ze (y x.1) x.2
end
theorem uR (f:Nat->Nat){x n:Nat}(h:x<n):((Array.range n).map f).getD x 0=f x:=by
 simp[Array.getD,h]
theorem uD {x:Nat}(h:x<256):inv x=power x 254:=by
 unfold inv inverses
 exact uR _ h
theorem ie {b:Nat}(h:b<256):Sy22.twice b<256:=by
 have:∀b:Fin 256,Sy22.twice b.1<256:=by decide +kernel
 exact this ⟨b,h⟩
theorem aO {a b:Nat}(h:a<256)(h':b<256):a ^^^ b<256:=xor_lt_two_pow (n:=8) h h'
theorem nT {a:Nat}(h:a<256):Sy22.twice a=(2*a) ^^^ (283*(a/128)):=by
 have:∀b:Fin 256,Sy22.twice b.1=(2*b.1) ^^^ (283*(b.1/128)):=by decide +kernel
 exact this ⟨a,h⟩
theorem zx (a b:Nat):2*(a ^^^ b)=(2*a) ^^^ (2*b):=by
 have:=Nat.shiftLeft_xor_distrib (a:=a) (b:=b) (i:=1)
 simpa [Nat.shiftLeft_eq,mul_comm] using this
theorem Ah (a b:Nat):(a ^^^ b)/128=(a/128) ^^^ (b/128):=by
 have:=Nat.shiftRight_xor_distrib (a:=a) (b:=b) (i:=7)
 simpa [Nat.shiftRight_eq_div_pow] using this
theorem vR (a b c d:Nat):(a ^^^ b) ^^^ (c ^^^ d)=(a ^^^ c) ^^^ (b ^^^ d):=by
 rw[xor_assoc,xor_assoc,<- xor_assoc b c d,xor_comm b c,xor_assoc c b d]
theorem CS {x y:Nat}(hx:x<2)(hy:y<2):283*(x ^^^ y)=(283*x) ^^^ (283*y):=by
 have:∀x y:Fin 2,283*(x.1 ^^^ y.1)=(283*x.1) ^^^ (283*y.1):=by decide
 exact this ⟨x,hx⟩ ⟨y,hy⟩
theorem rK {a b:Nat}(ha:a<256)(hb:b<256):Sy22.twice (a ^^^ b)=Sy22.twice a ^^^ Sy22.twice b:=by
 rw[nT ha,nT hb,nT (aO ha hb),zx,Ah,CS (by lia) (by lia),vR]
theorem pN:∀(n:Nat) {a:Nat} (b:Nat),a<256->product n a b<256
 |0,_,_,_=>by show 0<256;lia
 |n+1,a,b,h=>by
  show (if b%2=1 then a else 0) ^^^ product n (Sy22.twice a) (b/2)<256
  refine aO ?_ (pN n _ (ie h))
  split
  ·exact h
  ·lia
theorem bF {a:Nat}(b:Nat)(h:a<256):mul a b<256:=pN 8 b h
theorem pM:∀(n:Nat) {a c:Nat} (b:Nat),a<256->c<256->product n (a ^^^ c) b=product n a b ^^^ product n c b
 |0,_,_,_,_,_=>by simp[product]
 |n+1,a,c,b,ha,hc=>by
  show (if b%2=1 then a ^^^ c else 0) ^^^ product n (Sy22.twice (a ^^^ c)) (b/2)=((if b%2=1 then a else 0) ^^^ product n (Sy22.twice a) (b/2)) ^^^ ((if b%2=1 then c else 0) ^^^ product n (Sy22.twice c) (b/2))
  rw[rK ha hc,pM n _ (ie ha) (ie hc),vR]
  split<;>simp
theorem pL:∀(n:Nat) {a:Nat} (b c:Nat),product n a (b ^^^ c)=product n a b ^^^ product n a c
 |0,_,_,_=>by simp[product]
 |n+1,a,b,c=>by
  show (if (b ^^^ c)%2=1 then a else 0) ^^^ product n (Sy22.twice a) ((b ^^^ c)/2)=((if b%2=1 then a else 0) ^^^ product n (Sy22.twice a) (b/2)) ^^^ ((if c%2=1 then a else 0) ^^^ product n (Sy22.twice a) (c/2))
  rw[Nat.xor_div_two,pL n,vR]
  congr 1
  have e:=@Nat.xor_mod_two_eq_one b c
  by_cases h1:b%2=1
  ·by_cases h2:c%2=1
   ·rw[if_neg (by lia),if_pos h1,if_pos h2];simp
   ·rw[if_pos (by lia),if_pos h1,if_neg h2];simp
  ·by_cases h2:c%2=1
   ·rw[if_pos (by lia),if_neg h1,if_pos h2];simp
   ·rw[if_neg (by lia),if_neg h1,if_neg h2];simp
theorem i7 {a c:Nat}(b:Nat)(ha:a<256)(hc:c<256):mul (a ^^^ c) b=mul a b ^^^ mul c b:=pM 8 b ha hc
theorem kS (a b c:Nat):mul a (b ^^^ c)=mul a b ^^^ mul a c:=pL 8 b c
theorem Cs {a:Nat}(h:a<256):a=(a%2) ^^^ ((a/2%2*2) ^^^ ((a/4%2*4) ^^^ ((a/8%2*8) ^^^ ((a/16%2*16) ^^^ ((a/32%2*32) ^^^ ((a/64%2*64) ^^^ (a/128%2*128))))))):=by
 have:∀a:Fin 256,a.1=(a.1%2) ^^^ ((a.1/2%2*2) ^^^ ((a.1/4%2*4) ^^^ ((a.1/8%2*8) ^^^ ((a.1/16%2*16) ^^^ ((a.1/32%2*32) ^^^ ((a.1/64%2*64) ^^^ (a.1/128%2*128))))))):=by decide +kernel
 exact this ⟨a,h⟩
def Lin (f:Nat->Nat):Prop:=∀a b,a<256->b<256->f (a ^^^ b)=f a ^^^ f b
theorem Lin.zero {f:Nat->Nat}(h:Lin f):f 0=0:=by
 have:=h 0 0 (by lia) (by lia)
 simpa using this
theorem fJ {f g:Nat->Nat}(hf:Lin f)(hg:Lin g){k:Nat}(e:f k=g k)(m:Nat):f (m%2*k)=g (m%2*k):=by
 rcases Nat.mod_two_eq_zero_or_one m with h|h
 ·rw[h,Nat.zero_mul,hf.zero,hg.zero]
 ·rw[h,Nat.one_mul,e]
theorem kU {f g:Nat->Nat}(hf:Lin f)(hg:Lin g)(h:∀i:Fin 8,f (2 ^ i.1)=g (2 ^ i.1)){a:Nat}(ha:a<256):f a=g a:=by
 have b:∀m k:Nat,k<=128->m%2*k<256:=λm k hk=>by
  rcases Nat.mod_two_eq_zero_or_one m with h|h<;>rw[h]<;>lia
 have e0:f (a%2)=g (a%2):=by have:=fJ hf hg (h 0) a;simpa using this
 have e1:=fJ hf hg (h 1) (a/2)
 have e2:=fJ hf hg (h 2) (a/4)
 have e3:=fJ hf hg (h 3) (a/8)
 have e4:=fJ hf hg (h 4) (a/16)
 have e5:=fJ hf hg (h 5) (a/32)
 have e6:=fJ hf hg (h 6) (a/64)
 have e7:=fJ hf hg (h 7) (a/128)
 have c7:=b (a/128) 128 (by lia)
 have c6:=aO (b (a/64) 64 (by lia)) c7
 have c5:=aO (b (a/32) 32 (by lia)) c6
 have c4:=aO (b (a/16) 16 (by lia)) c5
 have c3:=aO (b (a/8) 8 (by lia)) c4
 have c2:=aO (b (a/4) 4 (by lia)) c3
 have c1:=aO (b (a/2) 2 (by lia)) c2
 have step:∀{F:Nat->Nat},Lin F->F a=F (a%2) ^^^ (F (a/2%2*2) ^^^ (F (a/4%2*4) ^^^ (F (a/8%2*8) ^^^ (F (a/16%2*16) ^^^ (F (a/32%2*32) ^^^ (F (a/64%2*64) ^^^ F (a/128%2*128))))))):=λ{F} hF=>by
  have e:=congrArg F (Cs ha)
  rw[hF _ _ (by lia) c1,hF _ _ (b _ _ (by lia)) c2,hF _ _ (b _ _ (by lia)) c3,hF _ _ (b _ _ (by lia)) c4,hF _ _ (b _ _ (by lia)) c5,hF _ _ (b _ _ (by lia)) c6,hF _ _ (b _ _ (by lia)) c7] at e
  exact e
 rw[step hf,step hg,e0]
 simp only[show (2:Nat) ^ (1:Fin 8).1=2 from rfl,show (2:Nat) ^ (2:Fin 8).1=4 from rfl,show (2:Nat) ^ (3:Fin 8).1=8 from rfl,show (2:Nat) ^ (4:Fin 8).1=16 from rfl,show (2:Nat) ^ (5:Fin 8).1=32 from rfl,show (2:Nat) ^ (6:Fin 8).1=64 from rfl,show (2:Nat) ^ (7:Fin 8).1=128 from rfl] at e1 e2 e3 e4 e5 e6 e7
 rw[e1,e2,e3,e4,e5,e6,e7]
theorem wx (b:Nat):Lin λa=>mul a b:=λa c ha hc=>i7 b ha hc
theorem wv (a:Nat):Lin λb=>mul a b:=λb c _ _=>kS a b c
theorem p2 (i:Fin 8):2 ^ i.1<256:=by
 have:∀i:Fin 8,2 ^ i.1<256:=by decide
 exact this i
theorem fF {a b:Nat}(ha:a<256)(hb:b<256):mul a b=mul b a:=
 kU (wx b) (wv b) (λi=>kU (wv (2 ^ i.1)) (wx (2 ^ i.1)) (λj=>by
  have:∀i j:Fin 8,mul (2 ^ i.1) (2 ^ j.1)=mul (2 ^ j.1) (2 ^ i.1):=by decide +kernel
  exact this i j) hb) ha
theorem eG {a b c:Nat}(ha:a<256)(hb:b<256)(hc:c<256):mul a (mul b c)=mul (mul a b) c:=by
 refine kU (f:=λa=>mul a (mul b c)) (g:=λa=>mul (mul a b) c) (wx _) (λx y hx hy=>?_) (λi=>?_) ha
 ·show mul (mul (x ^^^ y) b) c=_
  rw[i7 b hx hy,i7 c (bF b hx) (bF b hy)]
 refine kU (f:=λb=>mul (2 ^ i.1) (mul b c)) (g:=λb=>mul (mul (2 ^ i.1) b) c) (λx y hx hy=>?_) (λx y hx hy=>?_) (λj=>?_) hb
 ·show mul _ (mul (x ^^^ y) c)=_
  rw[i7 c hx hy,kS]
 ·show mul (mul _ (x ^^^ y)) c=_
  rw[kS,i7 c (bF x (p2 i)) (bF y (p2 i))]
 refine kU (f:=λc=>mul (2 ^ i.1) (mul (2 ^ j.1) c)) (g:=λc=>mul (mul (2 ^ i.1) (2 ^ j.1)) c) (λx y hx hy=>?_) (wv _) (λk=>?_) hc
 ·show mul _ (mul _ (x ^^^ y))=_
  rw[kS,kS]
 ·have:∀i j k:Fin 8,mul (2 ^ i.1) (mul (2 ^ j.1) (2 ^ k.1))=mul (mul (2 ^ i.1) (2 ^ j.1)) (2 ^ k.1):=by decide +kernel
  exact this i j k
theorem dE {a:Nat}(ha:a<256):mul 1 a=a:=by
 have:∀a:Fin 256,mul 1 a.1=a.1:=by decide +kernel
 exact this ⟨a,ha⟩
theorem gC {x:Nat}(h:x<256):∀n,power x n<256
 |0=>by show 1<256;lia
 |n+1=>bF _ h
theorem dj {x:Nat}(h:x<256)(m:Nat):∀n,power x (n+m)=mul (power x n) (power x m)
 |0=>by rw[zero_add];exact (dE (gC h m)).symm
 |n+1=>by
  rw[Nat.add_right_comm]
  show mul x (power x (n+m))=mul (mul x (power x n)) (power x m)
  rw[dj h m n,eG h (gC h n) (gC h m)]
theorem xx {x:Nat}(h:x<256):power x 1=x:=by
 show mul x 1=x
 rw[fF h (by lia),dE h]
def pI (x:Nat):Nat:=
 let a2:=mul x x
 let a4:=mul a2 a2
 let a8:=mul a4 a4
 let a16:=mul a8 a8
 let a32:=mul a16 a16
 let a64:=mul a32 a32
 let a128:=mul a64 a64
 mul a128 (mul a64 (mul a32 (mul a16 (mul a8 (mul a4 a2)))))
theorem xy {x:Nat}(h:x<256):power x 254=pI x:=by
 have e2:power x 2=mul x x:=by rw[dj h 1 1,xx h]
 have d:∀n,power x (n+n)=mul (power x n) (power x n):=λn=>dj h n n
 have e4:=d 2
 have e8:=d 4
 have e16:=d 8
 have e32:=d 16
 have e64:=d 32
 have e128:=d 64
 have s:=dj h 126 128
 rw[dj h 62 64,dj h 30 32,dj h 14 16,dj h 6 8,dj h 2 4] at s
 unfold pI
 simp only[reduceAdd] at *
 rw[s,e128,e64,e32,e16,e8,e4,e2]
theorem Ay {x:Nat}(h:x<256):Sy22.sub x=(let s:=pI x;s ^^^ (Sy22.turn s 1 ^^^ (Sy22.turn s 2 ^^^ (Sy22.turn s 3 ^^^ (Sy22.turn s 4 ^^^ 0x63))))):=by
 unfold Sy22.sub Sy22.subs
 rw[uR _ h]
 dsimp only
 rw[uD h,xy h]
def SUB:NL:=[99,124,119,123,242,107,111,197,48,1,103,43,254,215,171,118,202,130,201,125,250,89,71,240,173,212,162,175,156,164,114,192,183,253,147,38,54,63,247,204,52,165,229,241,113,216,49,21,4,199,35,195,24,150,5,154,7,18,128,226,235,39,178,117,9,131,44,26,27,110,90,160,82,59,214,179,41,227,47,132,83,209,0,237,32,252,177,91,106,203,190,57,74,76,88,207,208,239,170,251,67,77,51,133,69,249,2,127,80,60,159,168,81,163,64,143,146,157,56,245,188,182,218,33,16,255,243,210,205,12,19,236,95,151,68,23,196,167,126,61,100,93,25,115,96,129,79,220,34,42,144,136,70,238,184,20,222,94,11,219,224,50,58,10,73,6,36,92,194,211,172,98,145,149,228,121,231,200,55,109,141,213,78,169,108,86,244,234,101,122,174,8,186,120,37,46,28,166,180,198,232,221,116,31,75,189,139,138,112,62,181,102,72,3,246,14,97,53,87,185,134,193,29,158,225,248,152,17,105,217,142,148,155,30,135,233,206,85,40,223,140,161,137,13,191,230,66,104,65,153,45,15,176,84,187,22]
theorem kG {x:Nat}(h:x<256):SUB.getD x 0=Sy22.sub x:=by
 have:∀x:Fin 256,SUB.getD x.1 0=(let s:=pI x.1;s ^^^ (Sy22.turn s 1 ^^^ (Sy22.turn s 2 ^^^ (Sy22.turn s 3 ^^^ (Sy22.turn s 4 ^^^ 0x63))))):=by decide +kernel
 rw[Ay h]
 exact this ⟨x,h⟩
theorem sX {x:Nat}(h:x<256):Sy22.sub x<256:=by
 rw[<- kG h]
 have:∀x:Fin 256,SUB.getD x.1 0<256:=by decide +kernel
 exact this ⟨x,h⟩
theorem ng:SUB.length=256:=by decide +kernel
def Bytes (xs:NL):Prop:=∀x∈xs,x<256
theorem Bytes.at_ {xs:NL}(h:Bytes xs)(i:Nat):xs.getD i 0<256:=by
 by_cases hi:i<xs.length
 ·rw[show xs.getD i 0=xs[i] by simp[hi]];exact h _ (getElem_mem hi)
 ·rw[show xs.getD i 0=0 by simp[hi]];lia
theorem Bytes.app {xs ys:NL}(h:Bytes xs)(h':Bytes ys):Bytes (xs++ys):=λx hx=>(mem_append.mp hx).elim (h x) (h' x)
theorem Bytes.take {xs:NL}(h:Bytes xs)(n:Nat):Bytes (xs.take n):=λx hx=>h x (mem_of_mem_take hx)
theorem Bytes.drop {xs:NL}(h:Bytes xs)(n:Nat):Bytes (xs.drop n):=λx hx=>h x (mem_of_mem_drop hx)
theorem Bytes.nil:Bytes []:=λ_ h=>by cases h
theorem Bytes.flat {w:LL}(h:∀x∈w,Bytes x):Bytes w.flatten:=λx hx=>by
 refine e_1 (List.mem_flatten.mp hx) λl=>a_2 λhl hx=>?_
 exact h l hl x hx
theorem kX (a b:Nat):a ^^^ (a ^^^ b)=b:=by rw[<- xor_assoc,xor_self,zero_xor]
theorem xlc (a b c:Nat):a ^^^ (b ^^^ c)=b ^^^ (a ^^^ c):=by rw[<- xor_assoc,xor_comm a b,xor_assoc]
theorem en {xs ys:NL}{i:Nat}(h:i<xs.length):(xs++ys).getD i 0=xs.getD i 0:=by
 simp[List.getD,getElem?_append_left h]
theorem gU {xs ys:NL}{i:Nat}(h:xs.length<=i):(xs++ys).getD i 0=ys.getD (i-xs.length) 0:=by
 simp[List.getD,getElem?_append_right h]
theorem nO {α:Type}(f:α->α)(a:α):∀n,(range (n+1)).foldl (λx (_:Nat)=>f x) a=f ((range n).foldl (λx (_:Nat)=>f x) a):=λn=>by
 rw[range_succ,foldl_append];rfl
theorem Bytes.map {xs:NL}{f:Nat->Nat}(h:Bytes xs)(hf:∀x,x<256->f x<256):Bytes (xs.map f):=λy hy=>by
 refine e_1 (mem_map.mp hy) λx=>a_2 λhx ez=>?_;subst ez
 exact hf x (h x hx)
theorem Bytes.xor {xs ys:NL}(h:Bytes xs)(h':Bytes ys):Bytes (Sy22.xor xs ys):=λz hz=>by
 unfold Sy22.xor at hz
 rw[List.mem_iff_getElem?] at hz
 obtain ⟨i,hi⟩:=hz
 rw[getElem?_zipWith] at hi
 cases e1:xs[i]? with
 |none=>rw[e1] at hi;simp at hi
 |some a=>
  cases e2:ys[i]? with
  |none=>rw[e1,e2] at hi;simp at hi
  |some b=>
   rw[e1,e2] at hi
   have:a ^^^ b=z:=by simpa using hi
   subst this
   exact aO (h a (mem_of_getElem? e1)) (h' b (mem_of_getElem? e2))
theorem jt (xs ys:NL):(Sy22.xor xs ys).length=min xs.length ys.length:=by unfold Sy22.xor;simp
theorem dD {key:NL}{i n:Nat}(h:i+n<=key.length):(Sy22.part key i n).length=n:=by unfold Sy22.part;simp;lia
theorem dm {key:NL}(h:Bytes key)(i n:Nat):Bytes (Sy22.part key i n):=(h.drop i).take n
theorem Aa {l:List Int}{n:Nat}(h:Sy22Neutral.just l n=true):(∀x∈l,0<=x/\x<=255)/\l.length=n:=by
 unfold Sy22Neutral.just at h
 rw[Bool.and_eq_true,all_eq_true] at h
 refine ⟨λx hx=>?_,by simpa using h.2⟩
 have:=h.1 x hx
 unfold Sy22Neutral.byte Sy22Neutral.within at this
 simpa using this
theorem jN (l:List Int):(Sy22Neutral.nats l).length=l.length:=by unfold Sy22Neutral.nats;simp
theorem jo {l:List Int}(h:∀x∈l,0<=x/\x<=255):Bytes (Sy22Neutral.nats l):=λy hy=>by
 unfold Sy22Neutral.nats at hy
 refine e_1 (mem_map.mp hy) λx=>a_2 λhx ez=>?_;subst ez
 have:=h x hx
 lia
theorem xF {l:List Int}(h:∀x∈l,0<=x/\x<=255):(Sy22Neutral.nats l).map (λ(n:Nat)=>(n:Int))=l:=by
 unfold Sy22Neutral.nats
 rw[map_map]
 refine (map_congr_left λx hx=>?_).trans (List.map_id l)
 have:=h x hx
 show ((x.toNat:Nat):Int)=x
 lia
theorem qA {l:List Int}{n:Nat}(h:Sy22Neutral.some_ l n=true):(∀x∈l,0<=x/\x<=255)/\l.length<=n:=by
 unfold Sy22Neutral.some_ at h
 rw[Bool.and_eq_true,all_eq_true] at h
 refine ⟨λx hx=>?_,by simpa using h.2⟩
 have:=h.1 x hx
 unfold Sy22Neutral.byte Sy22Neutral.within at this
 simpa using this
theorem iP {α:Type}:∀{l:List α} {i:Nat} {x:α},l[i]? = some x->l.take (i+1)=l.take i++[x]
 |[],i,x,h=>by simp at h
 |a :: l,0,x,h=>by
  have e:a=x:=Option.some.inj h
  subst e
  rfl
 |a :: l,i+1,x,h=>by
  have ih:=iP (l:=l) (i:=i) (x:=x) h
  show a :: l.take (i+1)=a :: l.take i++[x]
  rw[ih]
  rfl
def mD (xs:NL)(i:Nat):NL:=
 let a:=xs.getD (4*i) 0
 let b:=xs.getD (4*i+1) 0
 let c:=xs.getD (4*i+2) 0
 let d:=xs.getD (4*i+3) 0
 let w:=a ^^^ b ^^^ c ^^^ d
 [a ^^^ w ^^^ Sy22.twice (a ^^^ b),b ^^^ w ^^^ Sy22.twice (b ^^^ c),c ^^^ w ^^^ Sy22.twice (c ^^^ d),d ^^^ w ^^^ Sy22.twice (d ^^^ a)]
def jg (xs:NL)(n:Nat):NL:=(range n).flatMap (mD xs)
theorem mC (xs:NL)(n:Nat):jg xs (n+1)=jg xs n++mD xs n:=by
 unfold jg;rw[range_succ,flatMap_append];simp
theorem oJ (xs:NL):∀n,(jg xs n).length=4*n
 |0=>rfl
 |n+1=>by rw[mC,length_append,oJ xs n];rfl
theorem qg {xs:NL}(h:Bytes xs):∀n,Bytes (jg xs n)
 |0=>λ_ h=>by cases h
 |n+1=>by
  rw[mC]
  refine (qg h n).app λx hx=>?_
  simp only[mD,mem_cons,not_mem_nil,or_false] at hx
  rcases hx with rfl|rfl|rfl|rfl<;>(repeat (first|apply aO|apply ie|apply Bytes.at_|assumption))
theorem mB {a:Nat}(h:a<256):mul 1 a=a/\mul 2 a=Sy22.twice a/\mul 3 a=a ^^^ Sy22.twice a/\mul 9 a=a ^^^ Sy22.twice (Sy22.twice (Sy22.twice a))/\mul 11 a=a ^^^ (Sy22.twice a ^^^ Sy22.twice (Sy22.twice (Sy22.twice a)))/\
  mul 13 a=a ^^^ (Sy22.twice (Sy22.twice a) ^^^ Sy22.twice (Sy22.twice (Sy22.twice a)))/\mul 14 a=Sy22.twice a ^^^ (Sy22.twice (Sy22.twice a) ^^^ Sy22.twice (Sy22.twice (Sy22.twice a))):=by
 have:∀a:Fin 256,mul 1 a.1=a.1/\mul 2 a.1=Sy22.twice a.1/\mul 3 a.1=a.1 ^^^ Sy22.twice a.1/\mul 9 a.1=a.1 ^^^ Sy22.twice (Sy22.twice (Sy22.twice a.1))/\mul 11 a.1=a.1 ^^^ (Sy22.twice a.1 ^^^ Sy22.twice (Sy22.twice (Sy22.twice a.1)))/\
  mul 13 a.1=a.1 ^^^ (Sy22.twice (Sy22.twice a.1) ^^^ Sy22.twice (Sy22.twice (Sy22.twice a.1)))/\mul 14 a.1=Sy22.twice a.1 ^^^ (Sy22.twice (Sy22.twice a.1) ^^^ Sy22.twice (Sy22.twice (Sy22.twice a.1))):=by decide +kernel
 exact this ⟨a,h⟩
theorem ly {a b c d:Nat}(ha:a<256)(hb:b<256)(hc:c<256)(hd:d<256) :
  a ^^^ (a ^^^ b ^^^ c ^^^ d) ^^^ Sy22.twice (a ^^^ b)=0 ^^^ mul 2 a ^^^ mul 3 b ^^^ mul 1 c ^^^ mul 1 d:=by
 rw[rK ha hb,(mB ha).2.1,(mB hb).2.2.1,(mB hc).1,(mB hd).1]
 simp only[zero_xor,xor_assoc,kX]
 generalize Sy22.twice a=p
 generalize Sy22.twice b=q
 simp only[xor_assoc,xor_comm,xlc]
theorem zG:range 16=[0,1,2,3,4,5,6,7,8,9,10,11,12,13,14,15]:=by decide
theorem tX:range 4=[0,1,2,3]:=by decide
theorem yO (m s:NL):Sy22.mixBy m s=(range 4).flatMap λi=>(range 4).map λr=>
  0 ^^^ mul (m.getD 0 0) (s.getD (4*i+r%4) 0) ^^^ mul (m.getD 1 0) (s.getD (4*i+(r+1)%4) 0) ^^^ mul (m.getD 2 0) (s.getD (4*i+(r+2)%4) 0) ^^^ mul (m.getD 3 0) (s.getD (4*i+(r+3)%4) 0):=by
 unfold Sy22.mixBy
 rw[zG,tX]
 rfl
theorem Bo {xs:NL}(h:Bytes xs):mix xs=jg xs 4:=by
 unfold mix jg
 rw[yO]
 congr 1
 funext i
 rw[tX]
 unfold mD
 dsimp only
 have ha:=h.at_ (4*i)
 have hb:=h.at_ (4*i+1)
 have hc:=h.at_ (4*i+2)
 have hd:=h.at_ (4*i+3)
 simp only[map_cons,map_nil,List.getD_cons_zero,List.getD_cons_succ,reduceAdd,Nat.reduceMod,Nat.add_zero]
 generalize xs.getD (4*i) 0=a at *
 generalize xs.getD (4*i+1) 0=b at *
 generalize xs.getD (4*i+2) 0=c at *
 generalize xs.getD (4*i+3) 0=d at *
 have e1:=ly ha hb hc hd
 have e2:=ly hb hc hd ha
 have e3:=ly hc hd ha hb
 have e4:=ly hd ha hb hc
 rw[<- e1,<- e2,<- e3,<- e4]
 have r1:b ^^^ c ^^^ d ^^^ a=a ^^^ b ^^^ c ^^^ d:=by rw[xor_comm,<- xor_assoc,<- xor_assoc]
 have r2:c ^^^ d ^^^ a ^^^ b=b ^^^ c ^^^ d ^^^ a:=by rw[xor_comm,<- xor_assoc,<- xor_assoc]
 have r3:d ^^^ a ^^^ b ^^^ c=c ^^^ d ^^^ a ^^^ b:=by rw[xor_comm,<- xor_assoc,<- xor_assoc]
 rw[r3,r2,r1]
def iE (nk:Nat)(w:LL):LL:=
 let i:=w.length
 let t:=w.getD (i-1) []
 let u:=if i%nk=0 then Sy22.xor ((t.drop 1++t.take 1).map Sy22.sub) [power 2 (i/nk-1),0,0,0] else if 6<nk/\i%nk=4 then t.map Sy22.sub else t
 w++[Sy22.xor (w.getD (i-nk) []) u]
def wN (key:NL):Nat->LL
 |0=>(range (key.length/4)).map λ(i:Nat)=>Sy22.part key (4*i) 4
 |n+1=>iE (key.length/4) (wN key n)
theorem le (key:NL):words key=wN key (3*(key.length/4)+28):=by
 have e:∀n,(range n).foldl (λw (_:Nat)=>iE (key.length/4) w) ((range (key.length/4)).map λ(i:Nat)=>Sy22.part key (4*i) 4)=wN key n:=λn=>by
  induction n with
  |zero=>rfl
  |succ n ih=>rw[nO,ih];rfl
 exact e _
def WOk (w:LL):Prop:=∀x∈w,x.length=4/\Bytes x
theorem WOk.getD {w:LL}(h:WOk w){i:Nat}(hi:i<w.length):(w.getD i []).length=4/\Bytes (w.getD i []):=by
 rw[show w.getD i []=w[i] by simp[hi]];exact h _ (getElem_mem hi)
theorem oQ {w:LL}(h:WOk w):w.flatten.length=4*w.length:=by
 induction w with
 |nil=>rfl
 |cons a w ih=>
  rw[flatten_cons,length_append,(h a mem_cons_self).1,ih λx hx=>h x (mem_cons_of_mem _ hx),length_cons];lia
theorem mN:∀{w:LL} (j:Nat),WOk w->w.flatten.drop (4*j)=(w.drop j).flatten
 |_,0,_=>rfl
 |[],j+1,_=>by simp
 |a :: w,j+1,h=>by
  have ha:=(h a mem_cons_self).1
  rw[flatten_cons,List.drop_succ_cons,<- mN j λx hx=>h x (mem_cons_of_mem _ hx),show 4*(j+1)=a.length+4*j by lia,drop_append]
  simp
theorem uK:∀{w:LL} {j k:Nat},WOk w->j<w.length->k<4->w.flatten.getD (4*j+k) 0=(w.getD j []).getD k 0
 |[],_,_,_,h,_=>absurd h (not_lt_zero _)
 |a :: w,0,k,h,_,hk=>by
  have ha:=(h a mem_cons_self).1
  rw[flatten_cons,mul_zero,zero_add,en (by lia)];rfl
 |a :: w,j+1,k,h,hj,hk=>by
  have ha:=(h a mem_cons_self).1
  rw[flatten_cons,gU (by lia),show 4*(j+1)+k-a.length=4*j+k by lia,uK (λx hx=>h x (mem_cons_of_mem _ hx)) (by simpa using hj) hk];rfl
theorem xW {w:LL}(h:WOk w)(h0:0<w.length):w.flatten.drop (4*w.length-4)=w.getD (w.length-1) []:=by
 rw[show 4*w.length-4=4*(w.length-1) by lia,mN _ h]
 rw[drop_eq_getElem_cons (by lia),drop_eq_nil_of_le (by lia)]
 simp[List.getD,getElem?_eq_getElem (show w.length-1<w.length by lia)]
theorem yX {v:NL}(h:v.length=4):∃a b c d,v=[a,b,c,d]:=by
 match v,h with
 |[a,b,c,d],_=>exact ⟨a,b,c,d,rfl⟩
theorem wW (nk:Nat)(w:LL):(iE nk w).length=w.length+1:=by unfold iE;simp
theorem yi {nk:Nat}{w:LL}(h:WOk w)(h0:0<nk)(h1:nk<=w.length):WOk (iE nk w):=by
 intro x hx
 unfold iE at hx
 rcases mem_append.mp hx with hx|hx
 ·exact h x hx
 ·rw[mem_singleton] at hx
  subst hx
  obtain ⟨l1,b1⟩:=h.getD (show w.length-1<w.length by lia)
  obtain ⟨l2,b2⟩:=h.getD (show w.length-nk<w.length by lia)
  have hu:(if w.length%nk=0 then Sy22.xor (((w.getD (w.length-1) []).drop 1++(w.getD (w.length-1) []).take 1).map Sy22.sub) [power 2 (w.length/nk-1),0,0,0] else if 6<nk/\w.length%nk=4 then (w.getD (w.length-1) []).map Sy22.sub else w.getD (w.length-1) []).length=4/\
    Bytes (if w.length%nk=0 then Sy22.xor (((w.getD (w.length-1) []).drop 1++(w.getD (w.length-1) []).take 1).map Sy22.sub) [power 2 (w.length/nk-1),0,0,0] else if 6<nk/\w.length%nk=4 then (w.getD (w.length-1) []).map Sy22.sub else w.getD (w.length-1) []):=by
   split
   ·refine ⟨?_,((((b1.drop 1).app (b1.take 1)).map λx hx=>sX hx)).xor λx hx=>?_⟩
    ·rw[jt,length_map,length_append,length_drop,length_take,l1];rfl
    ·simp only[mem_cons,not_mem_nil,or_false] at hx
     have:=gC (show 2<256 by lia) (w.length/nk-1)
     rcases hx with rfl|rfl|rfl|rfl<;>lia
   ·split
    ·exact ⟨by simpa using l1,b1.map λx hx=>sX hx⟩
    ·exact ⟨l1,b1⟩
  exact ⟨by rw[jt,l2,hu.1];rfl,b2.xor hu.2⟩
structure KeyOk (key:NL):Prop where
 len:key.length=16\/key.length=24\/key.length=32
 bytes:Bytes key
theorem sP {key:NL}(n:Nat):(wN key n).length=key.length/4+n:=by
 induction n with
 |zero=>simp[wN]
 |succ n ih=>show (iE _ _).length=_;rw[wW,ih];lia
theorem sG {key:NL}(k:KeyOk key)(n:Nat):WOk (wN key n):=by
 have:=k.len
 induction n with
 |zero=>
  intro x hx
  refine e_1 (mem_map.mp hx) λi=>a_2 λhi ez=>?_;subst ez
  have hi:=mem_range.mp hi
  exact ⟨dD (by lia),dm k.bytes _ _⟩
 |succ n ih=>
  refine yi ih (by lia) ?_
  rw[sP];lia
theorem pR (key:NL):∀n,4*n<=key.length->((range n).map λ(i:Nat)=>Sy22.part key (4*i) 4).flatten=key.take (4*n)
 |0,_=>by simp
 |n+1,h=>by
  rw[range_succ,map_append,flatten_append,pR key n (by lia)]
  simp only[map_cons,map_nil,flatten_cons,flatten_nil,append_nil]
  unfold Sy22.part
  rw[show 4*(n+1)=4*n+4 by lia,take_add]
theorem zv {key:NL}(k:KeyOk key):(wN key 0).flatten=key:=by
 have:=k.len
 show ((range (key.length/4)).map λ(i:Nat)=>Sy22.part key (4*i) 4).flatten=key
 rw[pR key _ (by lia)]
 exact take_of_length_le (by lia)
def mS (t:NL)(c:Nat):NL:=let u:=(t.drop 1++t.take 1).map Sy22.sub;u.set 0 (u.getD 0 0 ^^^ c)
theorem yM {v u:NL}(hv:v.length=4)(hu:u.length=4):(range 4).map (λk=>u.getD k 0 ^^^ v.getD k 0)=Sy22.xor v u:=by
 refine e_4 (yX hv) λa b c d ez=>?_;subst ez
 refine e_4 (yX hu) λe f g h ez=>?_;subst ez
 rw[tX]
 simp[Sy22.xor,xor_comm]
theorem sO {t:NL}(h:t.length=4)(c:Nat):mS t c=Sy22.xor ((t.drop 1++t.take 1).map Sy22.sub) [c,0,0,0]:=by
 refine e_4 (yX h) λa b d e ez=>?_;subst ez
 simp[mS,Sy22.xor]
def BG (e u:NL)(nk:Nat):NL:=(range 4).map λk=>u.getD k 0 ^^^ e.getD (e.length-4*nk+k) 0
theorem xc {nk:Nat}{w:LL}(h:WOk w)(h0:0<nk)(h1:nk<=w.length)(hk:nk=4\/nk=6\/nk=8){c:Nat}(hc:c=power 2 ((w.length-1)/nk)) :
  (iE nk w).flatten=w.flatten++BG w.flatten (if w.length%nk=0 then mS (w.getD (w.length-1) []) c else if nk=8/\w.length%nk=4 then (w.getD (w.length-1) []).map Sy22.sub else w.getD (w.length-1) []) nk:=by
 obtain ⟨l1,b1⟩:=h.getD (show w.length-1<w.length by lia)
 obtain ⟨l2,b2⟩:=h.getD (show w.length-nk<w.length by lia)
 unfold iE
 simp only[flatten_append,flatten_cons,flatten_nil,append_nil]
 congr 1
 have hu:(if w.length%nk=0 then mS (w.getD (w.length-1) []) c else if nk=8/\w.length%nk=4 then (w.getD (w.length-1) []).map Sy22.sub else w.getD (w.length-1) []) =
   (if w.length%nk=0 then Sy22.xor (((w.getD (w.length-1) []).drop 1++(w.getD (w.length-1) []).take 1).map Sy22.sub) [power 2 (w.length/nk-1),0,0,0] else if 6<nk/\w.length%nk=4 then (w.getD (w.length-1) []).map Sy22.sub else w.getD (w.length-1) []):=by
  by_cases hm:w.length%nk=0
  ·rw[if_pos hm,if_pos hm,sO l1,hc]
   have e:(w.length-1)/nk=w.length/nk-1:=by
    rcases hk with rfl|rfl|rfl<;>lia
   rw[e]
  ·rw[if_neg hm,if_neg hm]
   have:(nk=8/\w.length%nk=4) ↔ (6<nk/\w.length%nk=4):=by
    constructor<;>(rintro ⟨h1,h2⟩;exact ⟨by lia,h2⟩)
   by_cases h8:nk=8/\w.length%nk=4
   ·rw[if_pos h8,if_pos (this.mp h8)]
   ·rw[if_neg h8,if_neg (λz=>h8 (this.mpr z))]
 rw[hu]
 generalize hU:(if w.length%nk=0 then Sy22.xor (((w.getD (w.length-1) []).drop 1++(w.getD (w.length-1) []).take 1).map Sy22.sub) [power 2 (w.length/nk-1),0,0,0] else if 6<nk/\w.length%nk=4 then (w.getD (w.length-1) []).map Sy22.sub else w.getD (w.length-1) [])=u
 have lu:u.length=4:=by
  subst hU
  split
  ·rw[jt,length_map,length_append,length_drop,length_take,l1];rfl
  ·split
   ·simpa using l1
   ·exact l1
 rw[<- yM l2 lu]
 unfold BG
 refine map_congr_left λk hk'=>?_
 have hk4:k<4:=mem_range.mp hk'
 rw[oQ h,show 4*w.length-4*nk+k=4*(w.length-nk)+k by lia,uK h (by lia) hk4]
theorem xw (n:Nat):power 2 (n+1)=Sy22.twice (power 2 n):=(mB (gC (by lia) n)).2.1
def rks (key:NL):NL:=(words key).flatten
theorem zE {key:NL}(k:KeyOk key):(rks key).length=4*key.length+112:=by
 have:=k.len
 unfold rks
 rw[le,oQ (sG k _),sP];lia
theorem mj {key:NL}(k:KeyOk key):Bytes (rks key):=by
 unfold rks
 rw[le]
 exact Bytes.flat λx hx=>(sG k _ x hx).2
theorem xU {w:LL}(h:WOk w):∀j,w.flatten.take (4*j)=(w.take j).flatten:=by
 induction w with
 |nil=>intro j;simp
 |cons a w ih=>
  intro j
  cases j with
  |zero=>simp
  |succ j=>
   have ha:=(h a mem_cons_self).1
   rw[flatten_cons,List.take_succ_cons,flatten_cons,<- ih (λx hx=>h x (mem_cons_of_mem _ hx)) j,show 4*(j+1)=a.length+4*j by lia,List.take_length_add_append]
theorem WOk.drop {w:LL}(h:WOk w)(n:Nat):WOk (w.drop n):=λx hx=>h x (mem_of_mem_drop hx)
theorem BO {w:LL}(h:WOk w)(r:Nat):((w.drop (4*r)).take 4).flatten=Sy22.part w.flatten (16*r) 16:=by
 unfold Sy22.part
 rw[show 16*r=4*(4*r) by lia,mN _ h,show 16=4*4 by rfl,xU (h.drop _)]
theorem lq {key:NL}(k:KeyOk key):(rks key).length=16*(rounds key+1)/\(rounds key=10\/rounds key=12\/rounds key=14):=by
 have:=k.len
 have h:=zE k
 unfold rounds
 lia
theorem z9 {key:NL}(k:KeyOk key):keys key=(range (rounds key+1)).map λ(r:Nat)=>Sy22.part (rks key) (16*r) 16:=by
 unfold keys
 dsimp only
 refine map_congr_left λr _=>?_
 have wok:WOk (words key):=by rw[le];exact sG k _
 exact BO wok r
theorem mG {key:NL}(k:KeyOk key){j:Nat}(hj:j<=rounds key):(keys key).getD j []=Sy22.part (rks key) (16*j) 16:=by
 rw[z9 k]
 simp[List.getD,getElem?_map,getElem?_range (show j<rounds key+1 by lia)]
structure Blk (s:NL):Prop where
 len:s.length=16
 bytes:Bytes s
def BH (s rk:NL)(a:Nat):NL:=(range 16).map λi=>s.getD i 0 ^^^ rk.getD (a+i) 0
theorem yg {a b:NL}{i:Nat}(ha:i<a.length)(hb:i<b.length):(Sy22.xor a b).getD i 0=a.getD i 0 ^^^ b.getD i 0:=by
 simp[Sy22.xor,List.getD,getElem?_zipWith,getElem?_eq_getElem ha,getElem?_eq_getElem hb]
theorem xz {b:NL}{a n i:Nat}(hi:i<n):(Sy22.part b a n).getD i 0=b.getD (a+i) 0:=by
 simp[Sy22.part,List.getD,getElem?_take,hi]
theorem wu {a b:NL}(ha:a.length=16)(hb:b.length=16)(h:∀i,i<16->a.getD i 0=b.getD i 0):a=b:=by
 refine ext_getElem (by lia) λi h1 h2=>?_
 have:=h i (by lia)
 simpa [List.getD,getElem?_eq_getElem h1,getElem?_eq_getElem h2] using this
theorem we (f:Nat->Nat){n i:Nat}(h:i<n):((range n).map f).getD i 0=f i:=by
 simp[List.getD,getElem?_map,getElem?_range h]
theorem An {s rk:NL}{a:Nat}(hs:s.length=16)(h:a+16<=rk.length):BH s rk a=Sy22.xor s (Sy22.part rk a 16):=by
 have hp:=dD (key:=rk) (i:=a) (n:=16) h
 refine wu (by simp[BH]) (by rw[jt,hs,hp];rfl) λi hi=>?_
 rw[yg (by lia) (by lia),xz hi]
 exact we _ hi
def SHIFTL:NL:=[0,5,10,15,4,9,14,3,8,13,2,7,12,1,6,11]
theorem yQ {s:NL}{f:Nat->Nat}{i:Nat}(h:i<s.length):(s.map f).getD i 0=f (s.getD i 0):=by
 simp[List.getD,getElem?_eq_getElem h]
def j6 (s:NL):NL:=(range 16).map λi=>Sy22.sub (s.getD (SHIFTL.getD i 0) 0)
theorem sY {s:NL}(h:s.length=16):shift (s.map Sy22.sub)=j6 s:=by
 unfold shift j6
 refine map_congr_left λi hi=>?_
 have hi:i<16:=mem_range.mp hi
 have e:∀i:Fin 16,i.1%4+4*((i.1/4+i.1%4)%4)=SHIFTL.getD i.1 0:=by decide
 rw[e ⟨i,hi⟩]
 have l:∀i:Fin 16,SHIFTL.getD i.1 0<16:=by decide
 exact yQ (by rw[h];exact l ⟨i,hi⟩)
theorem iR {s:NL}(h:Blk s):Blk (j6 s):=by
 refine ⟨by simp[j6],λx hx=>?_⟩
 refine e_1 (mem_map.mp hx) λi=>a_2 λ_ ez=>?_;subst ez
 exact sX (h.bytes.at_ _)
theorem qt {a b:NL}(ha:Blk a)(hb:Blk b):Blk (Sy22.xor a b):=⟨by rw[jt,ha.len,hb.len];rfl,ha.bytes.xor hb.bytes⟩
theorem vC {a:NL}(ha:Blk a):Blk (jg a 4):=⟨oJ a 4,qg ha.bytes 4⟩
theorem oq {rk:NL}{a:Nat}(hb:Bytes rk)(h:a+16<=rk.length):Blk (Sy22.part rk a 16):=⟨dD h,dm hb _ _⟩
def jT (rk s:NL):Nat->NL
 |0=>Sy22.xor s (Sy22.part rk 0 16)
 |r+1=>Sy22.xor (jg (j6 (jT rk s r)) 4) (Sy22.part rk (16*(r+1)) 16)
theorem iD {rk s:NL}(hs:Blk s)(hb:Bytes rk):∀n,16*(n+1)<=rk.length->Blk (jT rk s n)
 |0,h=>qt hs (oq hb (by lia))
 |n+1,h=>qt (vC (iR (iD hs hb n (by lia)))) (oq hb (by lia))
theorem wC {α:Type}(f:α->Nat->α)(a:α)(n:Nat):(range (n+1)).foldl f a=f ((range n).foldl f a) n:=by
 rw[range_succ,foldl_append];rfl
theorem uO {key s:NL}(k:KeyOk key)(hs:Blk s):block key s=Sy22.xor (j6 (jT (rks key) s (rounds key-1))) (Sy22.part (rks key) (16*rounds key) 16):=by
 obtain ⟨hl,hR⟩:=lq k
 have hb:=mj k
 have e:∀n,n<rounds key->(range n).foldl (λ(s:NL)(r:Nat)=>Sy22.xor (mix (shift (s.map Sy22.sub))) ((keys key).getD (r+1) [])) (Sy22.xor s ((keys key).getD 0 []))=jT (rks key) s n:=by
  intro n
  induction n with
  |zero=>intro _;show Sy22.xor s _=_;rw[mG k (by lia)];rfl
  |succ n ih=>
   intro hn
   have eb:=iD (rk:=rks key) hs hb n (by lia)
   rw[wC,ih (by lia),sY eb.len,Bo (iR eb).bytes,mG k (by lia)]
   rfl
 unfold block
 dsimp only
 have eb:=iD (rk:=rks key) hs hb (rounds key-1) (by lia)
 rw[e _ (by lia),sY eb.len,mG k (by lia)]
theorem gW {key s:NL}(k:KeyOk key)(hs:Blk s):Blk (block key s):=by
 obtain ⟨hl,hR⟩:=lq k
 have hb:=mj k
 rw[uO k hs]
 exact qt (iR (iD hs hb _ (by lia))) (oq hb (by lia))
theorem fY (x:Nat):x &&& 4294967295=x%2 ^ 32:=and_two_pow_sub_one_eq_mod x 32
theorem qp:Sy22.W32=2 ^ 32:=rfl
theorem wO (a b n:Nat):(a ||| b)%2 ^ n=(a%2 ^ n) ||| (b%2 ^ n):=by
 refine eq_of_testBit_eq λi=>?_
 simp only[testBit_mod_two_pow,testBit_or]
 cases decide (i<n)<;>simp
theorem mQ (a b n:Nat):(a ^^^ b)%2 ^ n=(a%2 ^ n) ^^^ (b%2 ^ n):=by
 refine eq_of_testBit_eq λi=>?_
 simp only[testBit_mod_two_pow,testBit_xor]
 cases decide (i<n)<;>simp
theorem vF {x k:Nat}(h:x<2 ^ 32):(x*2 ^ k ||| x/2 ^ (32-k)) &&& 4294967295=left x k:=by
 rw[fY,wO,mod_eq_of_lt (lt_of_le_of_lt (Nat.div_le_self _ _) h)]
 rfl
theorem vE {x k:Nat}(h:x<2 ^ 32):left x k<2 ^ 32:=by
 rw[<- vF h,fY];exact mod_lt _ (by decide)
theorem jV {x n i:Nat}(h:x<2 ^ n)(hi:n<=i):x.testBit i=false:=Nat.testBit_lt_two_pow (lt_of_lt_of_le h (pow_le_pow_right (by decide) hi))
theorem wZ {x:Nat}(h:x<2 ^ 32)(i:Nat):(x*2 ^ 32 ||| x).testBit i=if i<32 then x.testBit i else x.testBit (i-32):=by
 rw[testBit_or,Nat.testBit_mul_two_pow]
 by_cases hi:i<32
 ·rw[if_pos hi];simp[not_le.mpr hi]
 ·rw[if_neg hi,jV h (i:=i) (by lia)];simp[not_lt.mp hi]
theorem iN {x k:Nat}(h:x<2 ^ 32)(hk:k<32):(x*2 ^ 32 ||| x)/2 ^ k%2 ^ 32=Sy22.right x k:=by
 refine eq_of_testBit_eq λi=>?_
 unfold Sy22.right
 rw[testBit_mod_two_pow,testBit_div_two_pow,wZ h,testBit_or,testBit_div_two_pow,qp,testBit_mod_two_pow,Nat.testBit_mul_two_pow]
 by_cases hi:i<32
 ·by_cases h2:k+i<32
  ·have h3:¬ 32-k<=i:=by lia
   simp[hi,h2,h3,add_comm]
  ·have h3:32-k<=i:=by lia
   have e:k+i-32=i-(32-k):=by lia
   rw[if_neg (by lia),jV h (i:=i+k) (by lia),show i+k-32=i-(32-k) by lia]
   simp[hi,h3]
 ·rw[jV h (i:=i+k) (by lia)]
  simp[hi]
theorem w4 {x a b c:Nat}(h:x<2 ^ 32)(ha:a<32)(hb:b<32)(hc:c<32):((x*2 ^ 32 ||| x)/2 ^ a ^^^ (x*2 ^ 32 ||| x)/2 ^ b ^^^ (x*2 ^ 32 ||| x)/2 ^ c) &&& 4294967295=Sy22.right x a ^^^ (Sy22.right x b ^^^ Sy22.right x c):=by
 rw[fY,mQ,mQ,iN h ha,iN h hb,iN h hc,xor_assoc]
theorem yr {x a b c:Nat}(h:x<2 ^ 32)(ha:a<32)(hb:b<32):((x*2 ^ 32 ||| x)/2 ^ a ^^^ (x*2 ^ 32 ||| x)/2 ^ b ^^^ x/2 ^ c) &&& 4294967295=Sy22.right x a ^^^ (Sy22.right x b ^^^ x/2 ^ c):=by
 rw[fY,mQ,mQ,iN h ha,iN h hb,mod_eq_of_lt (lt_of_le_of_lt (Nat.div_le_self _ _) h),xor_assoc]
theorem rX {x:Nat}(h:x<2 ^ 32)(i:Nat):(Sy22.other x).testBit i=(decide (i<32) && !x.testBit i):=by
 unfold Sy22.other
 rw[qp,show 2 ^ 32-1-x=2 ^ 32-(x+1) by lia,Nat.testBit_two_pow_sub_succ h]
theorem Bz {e f g:Nat}(he:e<2 ^ 32)(hg:g<2 ^ 32):g ^^^ (e &&& (f ^^^ g))=(e &&& f) ^^^ (Sy22.other e &&& g):=by
 refine eq_of_testBit_eq λi=>?_
 simp only[testBit_xor,testBit_and,rX he]
 by_cases hi:i<32
 ·simp only[hi,decide_true,Bool.true_and]
  cases e.testBit i<;>cases f.testBit i<;>cases g.testBit i<;>rfl
 ·rw[jV hg (i:=i) (by lia),jV he (i:=i) (by lia)]
  simp
theorem BA {b c d:Nat}(hb:b<2 ^ 32)(hd:d<2 ^ 32):d ^^^ (b &&& (c ^^^ d))=(b &&& c) ||| (Sy22.other b &&& d):=by
 refine eq_of_testBit_eq λi=>?_
 simp only[testBit_xor,testBit_and,testBit_or,rX hb]
 by_cases hi:i<32
 ·simp only[hi,decide_true,Bool.true_and]
  cases b.testBit i<;>cases c.testBit i<;>cases d.testBit i<;>rfl
 ·rw[jV hd (i:=i) (by lia),jV hb (i:=i) (by lia)]
  simp
theorem z5 (a b c:Nat):(a &&& b) ||| (c &&& (a ||| b))=(a &&& b) ^^^ ((a &&& c) ^^^ (b &&& c)):=by
 refine eq_of_testBit_eq λi=>?_
 simp only[testBit_xor,testBit_and,testBit_or]
 cases a.testBit i<;>cases b.testBit i<;>cases c.testBit i<;>rfl
theorem z6 (b c d:Nat):(b &&& c) ||| (d &&& (b ||| c))=(b &&& c) ||| ((b &&& d) ||| (c &&& d)):=by
 refine eq_of_testBit_eq λi=>?_
 simp only[testBit_and,testBit_or]
 cases b.testBit i<;>cases c.testBit i<;>cases d.testBit i<;>rfl
theorem Bg {n b:Nat}(h:b<256):n*2 ^ 8 ||| b=256*n+b:=by
 rw[mul_comm,<- Nat.two_pow_add_eq_or_of_lt (i:=8) h]
theorem qm (k n:Nat):(range k).map (λi=>n/2 ^ (8*(k-1-i)) &&& 255)=big k n:=by
 unfold big little
 refine ext_getElem (by simp) λi h1 h2=>?_
 have hi:i<k:=by simpa using h1
 simp only[getElem_map,getElem_range,List.getElem_reverse,length_map,length_range]
 rw[show (255:Nat)=2 ^ 8-1 by rfl,and_two_pow_sub_one_eq_mod,pow_mul]
theorem cu (k n:Nat):(big k n).length=k:=by unfold big little;simp
theorem eA (k n:Nat):Bytes (big k n):=λx hx=>by
 unfold big little at hx
 rw[List.mem_reverse] at hx
 refine e_1 (mem_map.mp hx) λi=>a_2 λ_ ez=>?_;subst ez
 exact mod_lt _ (by decide)
theorem qo (b:NL)(x:Nat):bigOf (b++[x])=256*bigOf b+x:=by unfold bigOf;rw[foldl_append];rfl
theorem uQ:∀(b:NL)(n m:Nat),Bytes b->n<256 ^ m->b.foldl (λ(n x:Nat)=>256*n+x) n<256 ^ (m+b.length)
 |[],n,m,_,h=>h
 |x :: b,n,m,hb,h=>by
  have h2:=hb x mem_cons_self
  have:=uQ b (256*n+x) (m+1) (λy hy=>hb y (mem_cons_of_mem _ hy)) (by rw[pow_succ];lia)
  rw[length_cons,show m+(b.length+1)=m+1+b.length by lia]
  exact this
theorem uP {b:NL}(h:Bytes b):bigOf b<256 ^ b.length:=by
 have:=uQ b 0 0 h (by decide)
 rwa [zero_add] at this
def Ws (s:NL):Prop:=∀x∈s,x<2 ^ 32
theorem Ws.at_ {s:NL}(h:Ws s)(i:Nat):s.getD i 0<2 ^ 32:=by
 by_cases hi:i<s.length
 ·rw[show s.getD i 0=s[i] by simp[hi]];exact h _ (getElem_mem hi)
 ·rw[show s.getD i 0=0 by simp[hi]];decide
theorem Ws.snoc {s:NL}{x:Nat}(h:Ws s)(hx:x<2 ^ 32):Ws (s++[x]):=λy hy=>(mem_append.mp hy).elim (h y) λe=>by rw[mem_singleton] at e;subst e;exact hx
def sp2 (w:NL):NL:=let i:=w.length
 let x:=w.getD (i-15) 0
 let y:=w.getD (i-2) 0
 w++[((Sy22.right y 17 ^^^ (Sy22.right y 19 ^^^ (y/2 ^ 10)))+w.getD (i-7) 0+(Sy22.right x 7 ^^^ (Sy22.right x 18 ^^^ (x/2 ^ 3)))+w.getD (i-16) 0)%Sy22.W32]
def sp1 (w:NL):NL:=let i:=w.length;w++[left (w.getD (i-3) 0 ^^^ (w.getD (i-8) 0 ^^^ (w.getD (i-14) 0 ^^^ w.getD (i-16) 0))) 1]
def it {α:Type}(f:α->α)(a:α):Nat->α
 |0=>a
 |n+1=>f (it f a n)
theorem rD {α:Type}(f:α->α)(a:α):∀n,(range n).foldl (λx (_:Nat)=>f x) a=it f a n
 |0=>rfl
 |n+1=>by rw[nO,rD f a n];rfl
theorem uz (w:NL):more2 w=it sp2 w 48:=rD sp2 w 48
theorem uA (w:NL):more1 w=it sp1 w 64:=rD sp1 w 64
theorem AC {w:NL}(h:Ws w):Ws (sp2 w):=h.snoc (mod_lt _ (by decide))
theorem mR {a b:Nat}(h:a<2 ^ 32)(h':b<2 ^ 32):a ^^^ b<2 ^ 32:=xor_lt_two_pow h h'
theorem AE {w:NL}(h:Ws w):Ws (sp1 w):=h.snoc (vE (mR (h.at_ _) (mR (h.at_ _) (mR (h.at_ _) (h.at_ _)))))
theorem rB (w:NL):∀n,(it sp2 w n).length=w.length+n
 |0=>rfl
 |n+1=>by
  have e:=rB w n
  show (sp2 (it sp2 w n)).length=_
  generalize it sp2 w n=z at *
  unfold sp2
  rw[length_append,e];rfl
theorem rC (w:NL):∀n,(it sp1 w n).length=w.length+n
 |0=>rfl
 |n+1=>by
  have e:=rC w n
  show (sp1 (it sp1 w n)).length=_
  generalize it sp1 w n=z at *
  unfold sp1
  rw[length_append,e];rfl
theorem xN {w:NL}(h:Ws w):∀n,Ws (it sp2 w n)
 |0=>h
 |n+1=>AC (xN h n)
theorem xO {w:NL}(h:Ws w):∀n,Ws (it sp1 w n)
 |0=>h
 |n+1=>AE (xO h n)
def K2:NL:=[1116352408,1899447441,3049323471,3921009573,961987163,1508970993,2453635748,2870763221,3624381080,310598401,607225278,1426881987,1925078388,2162078206,2614888103,3248222580,3835390401,4022224774,264347078,604807628,770255983,1249150122,1555081692,1996064986,2554220882,2821834349,2952996808,3210313671,3336571891,3584528711,113926993,338241895,666307205,773529912,1294757372,1396182291,1695183700,1986661051,2177026350,2456956037,2730485921,2820302411,3259730800,3345764771,3516065817,3600352804,4094571909,275423344,430227734,506948616,659060556,883997877,958139571,1322822218,1537002063,1747873779,1955562222,2024104815,2227730452,2361852424,2428436474,2756734187,3204031479,3329325298]
theorem y9:Sy22.cubes=K2:=by decide +kernel
def I2:NL:=[1779033703,3144134277,1013904242,2773480762,1359893119,2600822924,528734635,1541459225]
theorem vW:Sy22.squares=I2:=by decide +kernel
def K1:NL:=[1518500249,1859775393,2400959708,3395469782]
theorem yW:Sy22.fours=K1:=by decide +kernel
def I1:NL:=[1732584193,4023233417,2562383102,271733878,3285377520]
def blk (kind:Nat)(s:NL)(b:NL):NL:=if kind=1 then block1 s b else block2 s b
def start (kind:Nat):NL:=if kind=1 then I1 else I2
def size (kind:Nat):Nat:=if kind=1 then 5 else 8
def bR (kind:Nat)(s:NL)(b:NL):NL:=(pieces 64 b).foldl (blk kind) s
theorem sW {kind:Nat}(h:kind=1\/kind=2)(b:NL):sum kind b=(bR kind (start kind) (Sy22.closed b)).flatMap (big 4):=by
 unfold sum bR start blk
 rcases h with rfl|rfl
 ·rfl
 ·show sum2 b=_
  unfold sum2
  rw[vW]
  rfl
theorem pP {k:Nat}(hk:0<k)(a b:NL)(h:a.length%k=0):pieces k (a++b)=pieces k a++pieces k b:=by
 unfold pieces
 obtain ⟨m,hm⟩:∃m,a.length=k*m:=⟨a.length/k,by rw[Nat.mul_div_cancel' (Nat.dvd_of_mod_eq_zero h)]⟩
 have e:(a++b).length/k=m+b.length/k:=by rw[length_append,hm,Nat.mul_add_div hk]
 have e2:a.length/k=m:=by rw[hm,Nat.mul_div_cancel_left _ hk]
 rw[e,e2,range_add,map_append,map_map]
 congr 1
 ·refine map_congr_left λi hi=>?_
  have hi:i<m:=mem_range.mp hi
  have:k*i+k<=k*m:=by rw[<- mul_succ];exact mul_le_mul_left k hi
  unfold Sy22.part
  rw[List.drop_append_of_le_length (by lia),List.take_append_of_le_length (by rw[length_drop];lia)]
 ·refine map_congr_left λi hi=>?_
  unfold Sy22.part
  show ((a++b).drop (k*(m+i))).take k=_
  rw[show k*(m+i)=a.length+k*i by rw[hm,mul_add],drop_append,add_sub_cancel_left,drop_eq_nil_of_le (by lia),nil_append]
theorem oP {kind:Nat}(s a b:NL)(h:a.length%64=0):bR kind s (a++b)=bR kind (bR kind s a) b:=by
 unfold bR
 rw[pP (by decide) a b h,foldl_append]
theorem xT {kind:Nat}(s b:NL)(n:Nat)(h:64*(n+1)<=b.length):bR kind s (b.take (64*(n+1)))=blk kind (bR kind s (b.take (64*n))) (Sy22.part b (64*n) 64):=by
 have e:b.take (64*(n+1))=b.take (64*n)++Sy22.part b (64*n) 64:=by rw[mul_add,Nat.mul_one,take_add];rfl
 have hl:(Sy22.part b (64*n) 64).length=64:=dD (by lia)
 rw[e,oP _ _ _ (by rw[length_take,min_eq_left (by lia)];lia)]
 show (pieces 64 _).foldl _ _=_
 have:pieces 64 (Sy22.part b (64*n) 64)=[Sy22.part b (64*n) 64]:=by
  unfold pieces
  rw[hl]
  show [Sy22.part _ (64*0) 64]=_
  rw[mul_zero]
  show [(List.drop 0 _).take 64]=_
  rw[drop_zero,take_of_length_le (by lia)]
 rw[this]
 rfl
def fg (W s:NL)(n:Nat):NL:=(range n).foldl (step2 W) s
def gG (W s:NL)(n:Nat):NL:=(range n).foldl (step1 W) s
theorem sg (W s:NL)(n:Nat):fg W s (n+1)=step2 W (fg W s n) n:=by unfold fg;rw[range_succ,foldl_append];rfl
theorem si (W s:NL)(n:Nat):gG W s (n+1)=step1 W (gG W s n) n:=by unfold gG;rw[range_succ,foldl_append];rfl
theorem Cq {v:NL}(h:v.length=8):v=[v.getD 0 0,v.getD 1 0,v.getD 2 0,v.getD 3 0,v.getD 4 0,v.getD 5 0,v.getD 6 0,v.getD 7 0]:=by
 match v,h with
 |[a,b,c,d,e,f,g,i],_=>rfl
theorem CV {v:NL}(h:v.length=5):v=[v.getD 0 0,v.getD 1 0,v.getD 2 0,v.getD 3 0,v.getD 4 0]:=by
 match v,h with
 |[a,b,c,d,e],_=>rfl
theorem ws8 {a b c d e f g h:Nat}(ha:a<2 ^ 32)(hb:b<2 ^ 32)(hc:c<2 ^ 32)(hd:d<2 ^ 32)(he:e<2 ^ 32)(hf:f<2 ^ 32)(hg:g<2 ^ 32)(hh:h<2 ^ 32):Ws [a,b,c,d,e,f,g,h]:=λx hx=>by
 simp only[mem_cons,not_mem_nil,or_false] at hx
 rcases hx with rfl|rfl|rfl|rfl|rfl|rfl|rfl|rfl<;>assumption
theorem ws5 {a b c d e:Nat}(ha:a<2 ^ 32)(hb:b<2 ^ 32)(hc:c<2 ^ 32)(hd:d<2 ^ 32)(he:e<2 ^ 32):Ws [a,b,c,d,e]:=λx hx=>by
 simp only[mem_cons,not_mem_nil,or_false] at hx
 rcases hx with rfl|rfl|rfl|rfl|rfl<;>assumption
theorem m32 (x:Nat):x%Sy22.W32<2 ^ 32:=mod_lt _ (by decide)
theorem yo {W s:NL}{t:Nat}(h:Ws s):(step2 W s t).length=8/\Ws (step2 W s t):=by
 unfold step2
 exact ⟨rfl,ws8 (m32 _) (h.at_ 0) (h.at_ 1) (h.at_ 2) (m32 _) (h.at_ 4) (h.at_ 5) (h.at_ 6)⟩
theorem yp {W s:NL}{t:Nat}(h:Ws s):(step1 W s t).length=5/\Ws (step1 W s t):=by
 unfold step1
 exact ⟨rfl,ws5 (m32 _) (h.at_ 0) (vE (h.at_ 1)) (h.at_ 2) (h.at_ 3)⟩
theorem na {W s:NL}(hl:s.length=8)(h:Ws s):∀n,(fg W s n).length=8/\Ws (fg W s n)
 |0=>⟨hl,h⟩
 |n+1=>by rw[sg];exact yo (na hl h n).2
theorem nc {W s:NL}(hl:s.length=5)(h:Ws s):∀n,(gG W s n).length=5/\Ws (gG W s n)
 |0=>⟨hl,h⟩
 |n+1=>by rw[si];exact yp (nc hl h n).2
theorem uT (s t:NL):(added s t).length=min s.length t.length/\Ws (added s t):=by
 unfold added
 refine ⟨by simp,λz hz=>?_⟩
 rw[List.mem_iff_getElem?] at hz
 obtain ⟨i,hi⟩:=hz
 rw[getElem?_zipWith] at hi
 cases e1:s[i]? with
 |none=>rw[e1] at hi;simp at hi
 |some a=>
  cases e2:t[i]? with
  |none=>rw[e1,e2] at hi;simp at hi
  |some b=>
   rw[e1,e2] at hi
   have:(a+b)%Sy22.W32=z:=by simpa using hi
   subst this
   exact m32 _
theorem AF {W:NL}{n:Nat}(h:W.length=n):sp1 W=W++[left (W.getD (n-3) 0 ^^^ W.getD (n-8) 0 ^^^ W.getD (n-14) 0 ^^^ W.getD (n-16) 0) 1]:=by
 subst h
 unfold sp1
 dsimp only
 rw[xor_assoc,xor_assoc]
theorem AD {W:NL}{n:Nat}(h:W.length=n):sp2 W=W++[(W.getD (n-16) 0+(Sy22.right (W.getD (n-15) 0) 7 ^^^ (Sy22.right (W.getD (n-15) 0) 18 ^^^ W.getD (n-15) 0/2 ^ 3))+W.getD (n-7) 0+(Sy22.right (W.getD (n-2) 0) 17 ^^^ (Sy22.right (W.getD (n-2) 0) 19 ^^^ W.getD (n-2) 0/2 ^ 10))) &&& 4294967295]:=by
 subst h
 unfold sp2
 dsimp only
 rw[fY,qp]
 congr 3
 lia
structure St (kind:Nat)(s:NL):Prop where
 len:s.length=size kind
 ws:Ws s
theorem BC {kind:Nat}(hk:kind=1\/kind=2){s:NL}(h:St kind s)(b:NL):St kind (blk kind s b):=by
 have hl:=h.len
 rcases hk with rfl|rfl
 ·have:=uT s (gG (more1 (Sy22.wordsOf b)) s 80)
  rw[(nc hl h.ws 80).1,hl] at this
  exact ⟨this.1,this.2⟩
 ·have:=uT s (fg (more2 (Sy22.wordsOf b)) s 64)
  rw[(na hl h.ws 64).1,hl] at this
  exact ⟨this.1,this.2⟩
theorem m7 {kind:Nat}(hk:kind=1\/kind=2){s:NL}(h:St kind s)(b:NL):St kind (bR kind s b):=by
 unfold bR
 generalize pieces 64 b=ps
 induction ps generalizing s with
 |nil=>exact h
 |cons x ps ih=>exact ih (BC hk h x)
theorem sZ {kind:Nat}(hk:kind=1\/kind=2):St kind (start kind):=by
 rcases hk with rfl|rfl
 ·exact ⟨rfl,by show Ws I1;unfold Ws;decide⟩
 ·exact ⟨rfl,by show Ws I2;unfold Ws;decide⟩
theorem yY {kind:Nat}{s:NL}(h:St kind s):(s.flatMap (big 4)).length=4*size kind:=by
 rw[<- h.len]
 generalize s=l
 induction l with
 |nil=>rfl
 |cons a l ih=>rw[flatMap_cons,length_append,cu,ih,length_cons];lia
theorem nQ {s t:NL}(h:s.length=t.length):(range s.length).map (λi=>(s.getD i 0+t.getD i 0) &&& 4294967295)=added s t:=by
 unfold added
 refine ext_getElem (by simp[h]) λi h1 h2=>?_
 have hi:i<s.length:=by simpa using h1
 simp only[getElem_map,getElem_range,getElem_zipWith]
 have e1:s.getD i 0=s[i]:=by simp[hi]
 have e2:t.getD i 0=t[i]'(by lia):=by simp[<- h,hi]
 rw[fY,e1,e2]
 rfl
theorem wL (s b:NL):block2 s b=added s (fg (more2 (Sy22.wordsOf b)) s 64):=by unfold block2 fg;rfl
theorem wM (s b:NL):block1 s b=added s (gG (more1 (Sy22.wordsOf b)) s 80):=by unfold block1 gG;rfl
theorem r8 (kind:Nat)(s b:NL):bR kind s (b.take (64*0))=s:=by simp[bR,pieces]
def wh (b:NL):Nat:=64*(b.length/64)
def je (kind:Nat)(b:NL):NL:=bR kind (start kind) (b.take (wh b))
def aL (b:NL):NL:=b.drop (wh b)
theorem qz {kind:Nat}(hk:kind=1\/kind=2)(b:NL):St kind (je kind b):=m7 hk (sZ hk) _
theorem vS (b:NL):wh b<=b.length:=by unfold wh;lia
theorem kZ (b:NL):(aL b).length=b.length%64:=by unfold aL wh;rw[length_drop];lia
theorem oU {b:NL}(h:Bytes b):Bytes (aL b):=h.drop _
theorem wV (b d:NL):wh (b++d)=wh b+((aL b++d).length-(aL b++d).length%64):=by
 rw[length_append,kZ]
 unfold wh
 rw[length_append]
 lia
theorem Am (b d:NL)(n:Nat):(b++d).take (wh b+n)=b.take (wh b)++(aL b++d).take n:=by
 have e:b++d=b.take (wh b)++(aL b++d):=by unfold aL;rw[<- append_assoc,take_append_drop]
 have hl:(b.take (wh b)).length=wh b:=by rw[length_take,min_eq_left (vS b)]
 rw[e,take_append,hl,add_sub_cancel_left,take_of_length_le (by lia)]
theorem zc (b d:NL)(n:Nat):(b++d).drop (wh b+n)=(aL b++d).drop n:=by
 have e:b++d=b.take (wh b)++(aL b++d):=by unfold aL;rw[<- append_assoc,take_append_drop]
 have hl:(b.take (wh b)).length=wh b:=by rw[length_take,min_eq_left (vS b)]
 rw[e,drop_append,hl,add_sub_cancel_left,drop_eq_nil_of_le (by lia),nil_append]
theorem vy (b:NL):(b.take (wh b)).length%64=0:=by rw[length_take,min_eq_left (vS b)];unfold wh;lia
theorem Az (kind:Nat)(b d:NL):bR kind (je kind b) ((aL b++d).take ((aL b++d).length-(aL b++d).length%64))=je kind (b++d):=by
 show _=bR kind (start kind) ((b++d).take (wh (b++d)))
 rw[wV,Am,oP _ _ _ (vy b)]
 rfl
theorem Ar (b d:NL):(aL b++d).drop ((aL b++d).length-(aL b++d).length%64)=aL (b++d):=by
 show _=(b++d).drop (wh (b++d))
 rw[wV,zc]
theorem zy {kind:Nat}(hk:kind=1\/kind=2)(b:NL):(bR kind (je kind b) (aL b++([128]++zeros ((119-b.length%64)%64))++big 8 (8*b.length))).flatMap (big 4)=sum kind b:=by
 rw[sW hk]
 unfold je
 rw[<- oP _ _ _ (vy b)]
 congr 2
 unfold aL Sy22.closed
 rw[<- append_assoc,<- append_assoc,take_append_drop]
 simp
theorem xf (kind:Nat):je kind []=start kind/\aL []=[]:=⟨rfl,rfl⟩
theorem wI (b:NL):(aL b++([128]++zeros ((119-b.length%64)%64))++big 8 (8*b.length)).length%64=0/\(aL b++([128]++zeros ((119-b.length%64)%64))++big 8 (8*b.length)).length<=192:=by
 rw[length_append,length_append,length_append,cu,kZ,length_singleton]
 unfold zeros
 rw[length_replicate]
 lia
theorem eN {kind:Nat}(hk:kind=1\/kind=2)(b:NL):(sum kind b).length=4*size kind:=by
 rw[sW hk]
 exact yY (m7 hk (sZ hk) _)
theorem iQ {kind:Nat}(hk:kind=1\/kind=2)(b:NL):Bytes (sum kind b):=by
 rw[sW hk,List.flatMap_def]
 refine Bytes.flat λx hx=>?_
 refine e_1 (mem_map.mp hx) λy=>a_2 λ_ ez=>?_;subst ez
 exact eA 4 y
theorem j1 (b:NL):(Sy22.wordsOf b).length=b.length/4:=by unfold Sy22.wordsOf pieces;simp
theorem sN {b:NL}(h:Bytes b):Ws (Sy22.wordsOf b):=λx hx=>by
 unfold Sy22.wordsOf pieces at hx
 refine e_1 (mem_map.mp hx) λp=>a_2 λhp ez=>?_;subst ez
 refine e_1 (mem_map.mp hp) λi=>a_2 λ_ ez=>?_;subst ez
 have h1:=uP (dm h (4*i) 4)
 have h2:(Sy22.part b (4*i) 4).length<=4:=by unfold Sy22.part;rw[length_take];lia
 have h3:256 ^ (Sy22.part b (4*i) 4).length<=256 ^ 4:=pow_le_pow_right (by decide) h2
 have:(256:Nat) ^ 4=2 ^ 32:=by decide
 lia
def nxt (v:Nat):Nat:=if v%2=1 then (v/2) ^^^ Sy22.carried else v/2
theorem uW (n x v:Nat):tagged (n+1) x v=(if x.testBit n=true then v else 0) ^^^ tagged n x (nxt v):=rfl
theorem ya (x p:Nat):(x/2 ^ p &&& 1=0) ↔ ¬ x.testBit p=true:=by
 rw[Nat.and_one_is_mod,Nat.testBit_eq_decide_div_mod_eq]
 simp
theorem BF (x:Nat):(x &&& 1=0) ↔ ¬ x%2=1:=by rw[Nat.and_one_is_mod];lia
theorem wK:Sy22.carried=299076299051606071403356588563077529600:=by decide +kernel
def iC (h y:Nat)(b:NL):Nat:=(pieces 16 b).foldl (λ(y:Nat)(x:NL)=>times (y ^^^ bigOf x) h) y
theorem t7 (a b:NL)(h:a.length%16=0):pieces 16 (a++b)=pieces 16 a++pieces 16 b:=pP (by decide) a b h
theorem uE (h y:Nat)(a b:NL)(hl:a.length%16=0):iC h y (a++b)=iC h (iC h y a) b:=by
 unfold iC
 rw[t7 a b hl,foldl_append]
theorem xQ (h y:Nat)(b:NL)(n:Nat)(hl:16*(n+1)<=b.length):iC h y (b.take (16*(n+1)))=times (iC h y (b.take (16*n)) ^^^ bigOf (Sy22.part b (16*n) 16)) h:=by
 have e:b.take (16*(n+1))=b.take (16*n)++Sy22.part b (16*n) 16:=by rw[mul_add,Nat.mul_one,take_add];rfl
 have hl2:(Sy22.part b (16*n) 16).length=16:=dD (by lia)
 rw[e,uE _ _ _ _ (by rw[length_take,min_eq_left (by lia)];lia)]
 show (pieces 16 _).foldl _ _=_
 have:pieces 16 (Sy22.part b (16*n) 16)=[Sy22.part b (16*n) 16]:=by
  unfold pieces
  rw[hl2]
  show [Sy22.part _ (16*0) 16]=_
  rw[mul_zero]
  show [(List.drop 0 _).take 16]=_
  rw[drop_zero,take_of_length_le (by lia)]
 rw[this]
 rfl
theorem xP (h y:Nat)(b:NL):iC h y (b.take (16*0))=y:=by simp[iC,pieces]
def w16 (b:NL):Nat:=16*(b.length/16)
def gY (h:Nat)(z:NL):Nat:=iC h 0 (z.take (w16 z))
def aN (z:NL):NL:=z.drop (w16 z)
theorem sQ (b:NL):w16 b<=b.length:=by unfold w16;lia
theorem kY (z:NL):(aN z).length=z.length%16:=by unfold aN w16;rw[length_drop];lia
theorem vt (b d:NL):w16 (b++d)=w16 b+((aN b++d).length-(aN b++d).length%16):=by
 rw[length_append,kY]
 unfold w16
 rw[length_append]
 lia
theorem BN (b d:NL)(n:Nat):(b++d).take (w16 b+n)=b.take (w16 b)++(aN b++d).take n:=by
 have e:b++d=b.take (w16 b)++(aN b++d):=by unfold aN;rw[<- append_assoc,take_append_drop]
 have hl:(b.take (w16 b)).length=w16 b:=by rw[length_take,min_eq_left (sQ b)]
 rw[e,take_append,hl,add_sub_cancel_left,take_of_length_le (by lia)]
theorem Ap (b d:NL)(n:Nat):(b++d).drop (w16 b+n)=(aN b++d).drop n:=by
 have e:b++d=b.take (w16 b)++(aN b++d):=by unfold aN;rw[<- append_assoc,take_append_drop]
 have hl:(b.take (w16 b)).length=w16 b:=by rw[length_take,min_eq_left (sQ b)]
 rw[e,drop_append,hl,add_sub_cancel_left,drop_eq_nil_of_le (by lia),nil_append]
theorem yl (b:NL):(b.take (w16 b)).length%16=0:=by rw[length_take,min_eq_left (sQ b)];unfold w16;lia
theorem As (h:Nat)(b d:NL):iC h (gY h b) ((aN b++d).take ((aN b++d).length-(aN b++d).length%16))=gY h (b++d):=by
 show _=iC h 0 ((b++d).take (w16 (b++d)))
 rw[vt,BN,uE _ _ _ _ (yl b)]
 rfl
theorem Aq (b d:NL):(aN b++d).drop ((aN b++d).length-(aN b++d).length%16)=aN (b++d):=by
 show _=(b++d).drop (w16 (b++d))
 rw[vt,Ap]
theorem yj {h:Nat}{z:NL}(hz:z.length%16=0):gY h z=hashed h z/\aN z=[]:=by
 have e:w16 z=z.length:=by unfold w16;lia
 unfold gY aN
 rw[e,take_length,List.drop_length]
 exact ⟨rfl,rfl⟩
theorem qi (z:NL):(filled z).length%16=0:=by
 unfold filled zeros
 rw[length_append,length_replicate]
 lia
theorem xX (z:NL):filled z=z++replicate ((16-(aN z).length%16)%16) 0:=by
 unfold filled zeros
 rw[kY,show (16-z.length%16%16)%16=(16-z.length%16)%16 by lia]
theorem wE {a:NL}(b:NL)(h:a.length%16=0):filled (a++b)=a++filled b:=by
 unfold filled
 rw[append_assoc,length_append,show (a.length+b.length)%16=b.length%16 by lia]
theorem uU (n:Nat):Bytes (zeros n):=λy hy=>by
 unfold zeros at hy
 rw[mem_replicate] at hy;lia
theorem jR {z:NL}(h:Bytes z):Bytes (filled z):=h.app (uU _)
def ks (key nonce:NL)(j:Nat):Nat:=Sy22.at_ (block key (counter nonce (j/16+2))) (j%16)
def aE (key nonce t:NL)(n:Nat):NL:=(range t.length).map λi=>t.getD i 0 ^^^ ks key nonce (n+i)
theorem gz (key nonce t:NL)(n:Nat):(aE key nonce t n).length=t.length:=by simp[aE]
theorem vK {f:Nat->NL}(hf:∀i,(f i).length=16):∀(n j:Nat),j<16*n->(((range n).map f).flatten).getD j 0=(f (j/16)).getD (j%16) 0
 |0,_,h=>by lia
 |n+1,j,h=>by
  have hl:∀n,(((range n).map f).flatten).length=16*n:=by
   intro n
   induction n with
   |zero=>rfl
   |succ n ih=>rw[range_succ,map_append,flatten_append,length_append,ih];simp[hf];lia
  rw[range_succ,map_append,flatten_append]
  simp only[map_cons,map_nil,flatten_cons,flatten_nil,append_nil]
  by_cases hj:j<16*n
  ·rw[en (by rw[hl];exact hj),vK hf n j hj]
  ·rw[gU (by rw[hl];lia),hl,show j/16=n by lia,show j%16=j-16*n by lia]
theorem xb {key nonce:NL}(hb:∀i,(block key (counter nonce i)).length=16){n j:Nat}(h:j<n):(Sy22.stream key nonce n).getD j 0=ks key nonce j:=by
 unfold Sy22.stream
 rw[getD_eq_getElem?_getD,List.getElem?_take_of_lt h,<- getD_eq_getElem?_getD,vK (f:=λi=>block key (counter nonce (i+2))) (λi=>hb _) _ _ (by lia)]
 rfl
theorem o9 {key nonce:NL}(hb:∀i,(block key (counter nonce i)).length=16)(n:Nat):(Sy22.stream key nonce n).length=n:=by
 unfold Sy22.stream
 have hl:∀m,(((range m).map λ(i:Nat)=>block key (counter nonce (i+2))).flatten).length=16*m:=by
  intro m
  induction m with
  |zero=>rfl
  |succ m ih=>rw[range_succ,map_append,flatten_append,length_append,ih];simp[hb];lia
 rw[length_take,hl]
 lia
theorem yA {key nonce:NL}(hb:∀i,(block key (counter nonce i)).length=16)(t:NL)(n:Nat):aE key nonce t n=Sy22.xor t ((Sy22.stream key nonce (n+t.length)).drop n):=by
 unfold Sy22.xor aE
 refine ext_getElem (by simp[o9 hb]) λi h1 h2=>?_
 have hi:i<t.length:=by simpa using h1
 simp only[getElem_map,getElem_range,getElem_zipWith,getElem_drop]
 have e:=xb (key:=key) (nonce:=nonce) hb (n:=n+t.length) (j:=n+i) (by lia)
 have hs:n+i<(Sy22.stream key nonce (n+t.length)).length:=by rw[o9 hb];lia
 rw[show (Sy22.stream key nonce (n+t.length)).getD (n+i) 0=(Sy22.stream key nonce (n+t.length))[n+i] by simp[hs]] at e
 rw[e,show t.getD i 0=t[i] by simp[hi]]
theorem iU {key nonce:NL}(hb:∀i,(block key (counter nonce i)).length=16)(t:NL):aE key nonce t 0=Sy22.xor t (Sy22.stream key nonce t.length):=by
 rw[yA hb,zero_add,drop_zero]
theorem Ak (n:Nat):big 4 (n%2 ^ 32)=big 4 n:=by
 unfold big little
 congr 1
 refine map_congr_left λi hi=>?_
 have hi:i<4:=mem_range.mp hi
 match i,hi with
 |0,_=>omega
 |1,_=>omega
 |2,_=>omega
 |3,_=>omega
theorem zu (a b n:Nat):(a ^^^ b)/2 ^ n=(a/2 ^ n) ^^^ (b/2 ^ n):=by
 refine eq_of_testBit_eq λi=>?_
 simp only[testBit_div_two_pow,testBit_xor]
theorem Aj (k a b:Nat):big k (a ^^^ b)=Sy22.xor (big k a) (big k b):=by
 rw[<- qm,<- qm,<- qm]
 unfold Sy22.xor
 refine ext_getElem (by simp) λi h1 h2=>?_
 simp only[getElem_map,getElem_range,getElem_zipWith]
 rw[zu]
 refine eq_of_testBit_eq λj=>?_
 simp only[testBit_and,testBit_xor]
 cases (255:Nat).testBit j<;>simp
theorem za (k n:Nat):big (k+1) n=big k (n/256)++[n%256]:=by
 unfold big little
 rw[List.range_succ_eq_map,map_cons,List.reverse_cons,pow_zero,Nat.div_one,map_map]
 congr 2
 refine map_congr_left λi _=>?_
 show n/256 ^ (i+1)%256=n/256/256 ^ i%256
 rw[Nat.div_div_eq_div_mul,pow_succ,mul_comm]
theorem mP:∀(n:Nat)(b:NL),b.length=n->Bytes b->big n (bigOf b)=b
 |0,[],_,_=>rfl
 |n+1,b,hl,hb=>by
  have hne:b≠[]:=by intro e;subst e;simp at hl
  have e:=List.dropLast_concat_getLast hne
  have hb2:Bytes b.dropLast:=λx hx=>hb x (List.dropLast_subset _ hx)
  have hx:=hb _ (List.getLast_mem hne)
  generalize b.getLast hne=x at *
  have hl2:b.dropLast.length=n:=by rw[List.length_dropLast];lia
  rw[<- e,qo,za,show (256*bigOf b.dropLast+x)/256=bigOf b.dropLast by lia,show (256*bigOf b.dropLast+x)%256=x by lia,mP n _ hl2 hb2]
theorem yb {b:NL}{n:Nat}(hl:b.length=n)(hb:Bytes b):big n (bigOf b)=b:=mP n b hl hb
theorem wU (a b:NL):Sy22.xor a b=Sy22.xor b a:=by
 unfold Sy22.xor
 exact List.zipWith_comm_of_comm (λx y=>xor_comm x y)
theorem At {key nonce w c:NL}(hl:(block key (counter nonce 1)).length=16)(hb:Bytes (block key (counter nonce 1))) :
  big 16 (hashed (bigOf (block key (zeros 16))) (filled w++(filled c++(big 8 (8*w.length)++big 8 (8*c.length)))) ^^^ bigOf (block key (counter nonce 1)))=tag key nonce w c:=by
 rw[Aj,yb hl hb,wU]
 rfl
def tw:Nat->Nat->Nat
 |0,a=>a
 |n+1,a=>tw n (Sy22.twice a)
theorem vw:∀n a,tw (n+1) a=Sy22.twice (tw n a)
 |0,a=>rfl
 |n+1,a=>vw n (Sy22.twice a)
theorem vT:∀n {a},a<256->tw n a<256
 |0,_,h=>h
 |n+1,_,h=>vT n (ie h)
theorem t6:∀n f b,b<2 ^ n->product (n+1) f b=product n f b
 |0,f,b,h=>by
  have:b=0:=by lia
  subst this
  simp[product]
 |n+1,f,b,h=>by
  have ih:=t6 n (Sy22.twice f) (b/2) (by rw[pow_succ] at h;lia)
  show (if b%2=1 then f else 0) ^^^ product (n+1) (Sy22.twice f) (b/2)=(if b%2=1 then f else 0) ^^^ product n (Sy22.twice f) (b/2)
  rw[ih]
theorem rT:∀n f b,b<2 ^ n->product (n+1) f (2 ^ n+b)=product n f b ^^^ tw n f
 |0,f,b,h=>by
  have:b=0:=by lia
  subst this
  simp[product,tw]
 |n+1,f,b,h=>by
  rw[pow_succ] at h ⊢
  have ih:=rT n (Sy22.twice f) (b/2) (by lia)
  show (if (2 ^ n*2+b)%2=1 then f else 0) ^^^ product (n+1) (Sy22.twice f) ((2 ^ n*2+b)/2)=((if b%2=1 then f else 0) ^^^ product n (Sy22.twice f) (b/2)) ^^^ tw n (Sy22.twice f)
  rw[show (2 ^ n*2+b)%2=b%2 by lia,show (2 ^ n*2+b)/2=2 ^ n+b/2 by lia,ih,xor_assoc]
def tab (f n:Nat):NL:=(range (2 ^ n)).map (product n f)
theorem mT (f n:Nat):(tab f n).length=2 ^ n:=by simp[tab]
theorem wf (a b:Nat):range (a+b)=range a++(range b).map (a + ·):=range_add ..
theorem ym (f n:Nat):tab f (n+1)=tab f n++(tab f n).map (· ^^^ tw n f):=by
 unfold tab
 rw[pow_succ,Nat.mul_two,wf,map_append,map_map,map_map]
 congr 1
 ·exact map_congr_left λb hb=>t6 n f b (mem_range.mp hb)
 ·exact map_congr_left λb hb=>rT n f b (mem_range.mp hb)
theorem o8 {f b:Nat}(h:b<256):(tab f 8).getD b 0=mul f b:=by
 unfold tab
 rw[getD_eq_getElem?_getD,getElem?_map,getElem?_range (by lia)]
 rfl
theorem aI {a:Nat}(h:a<256):inv a<256:=by
 rw[uD h];exact gC h _
theorem jx {a:Nat}(h0:a≠0)(h:a<256):mul a (inv a)=1:=by
 rw[uD h,xy h]
 have:∀a:Fin 256,a.1≠0->mul a.1 (pI a.1)=1:=by decide +kernel
 exact this ⟨a,h⟩ h0
theorem yT {a j:Nat}(h:a<256)(h0:a≠0)(hj:j<256)(e:mul a j=1):j=inv a:=by
 have h1:=eG (aI h) h hj
 rw[e,fF (aI h) h,jx h0 h,dE hj,fF (aI h) (by lia),dE (aI h)] at h1
 exact h1.symm
theorem lW {a b:Nat}(h:a≠b):a ^^^ b≠0:=by
 intro e
 have:a ^^^ (a ^^^ b)=a:=by rw[e,xor_zero]
 rw[kX] at this
 exact h this.symm
def kx (row:NL)(f:Nat)(other:NL):NL:=(range row.length).map λi=>row.getD i 0 ^^^ mul f (other.getD i 0)
theorem zd (row:NL)(f:Nat)(other:NL):(kx row f other).length=row.length:=by simp[kx]
def shN (data:LL)(k p len n:Nat):NL:=(range len).map λx=>(range n).foldl (λs j=>s ^^^ mul (inv (p ^^^ j)) (Sy22.at_ (data.getD j []) x)) 0
theorem qB (data:LL)(k p len n:Nat):(shN data k p len n).length=len:=by simp[shN]
theorem ga {f:Nat->Nat}{n i:Nat}(h:i<n):((range n).map f).getD i 0=f i:=by
 rw[getD_eq_getElem?_getD,getElem?_map,getElem?_range h];rfl
theorem yu (data:LL)(k p len n:Nat):kx (shN data k p len n) (inv (p ^^^ n)) (data.getD n [])=shN data k p len (n+1):=by
 unfold kx
 rw[qB]
 refine map_congr_left λx hx=>?_
 have hx:x<len:=mem_range.mp hx
 unfold shN
 rw[ga hx,range_succ,foldl_append]
 rfl
theorem yt (data:LL)(k p len:Nat):shN data k p len 0=replicate len 0:=by
 unfold shN
 refine ext_getElem? λi=>?_
 simp[List.getElem?_replicate]
 by_cases h:i<len<;>simp[h,getElem?_range]
theorem xi {data:LL}{k len i:Nat}(h:data.length=k):shN data k (k+i) len k=share data len i:=by
 unfold shN share
 rw[h]
theorem wP {row other:NL}{f:Nat}(h:Bytes row)(hf:f<256):Bytes (kx row f other):=λy hy=>by
 unfold kx at hy
 refine e_1 (mem_map.mp hy) λi=>a_2 λ_ ez=>?_;subst ez
 exact aO (h.at_ i) (bF _ hf)
theorem ax (a:Nat):mul a 0=0:=(wv a).zero
theorem gJ (a:Nat):mul 0 a=0:=(wx a).zero
theorem mz {a:Nat}(h:a<256):mul a 1=a:=by rw[fF h (by decide),dE h]
theorem wB {a w:Nat}(h0:a≠0)(h:a<256)(hw:w<256):mul a (mul (inv a) w)=w:=by
 rw[eG h (aI h) hw,jx h0 h,dE hw]
theorem Bs {a w:Nat}(h0:a≠0)(h:a<256)(hw:w<256):mul (inv a) (mul a w)=w:=by
 rw[eG (aI h) h hw,fF (aI h) h,jx h0 h,dE hw]
theorem ux {a b w:Nat}(ha:a<256)(hb:b<256)(hw:w<256):mul a (mul b w)=mul b (mul a w):=by
 rw[eG ha hb hw,fF ha hb,<- eG hb ha hw]
theorem gn {a w:Nat}(h0:a≠0)(h:a<256)(hw:w<256)(e:mul a w=0):w=0:=by
 rw[<- Bs h0 h hw,e,ax]
theorem uC {a:Nat}(h0:a≠0)(h:a<256):inv a≠0:=λe=>by
 have:=jx h0 h
 rw[e,ax] at this
 cases this
theorem wT {a b:Nat}(h:a ^^^ b=0):a=b:=by
 apply Classical.byContradiction
 intro ne
 exact lW ne h
def aq (f:Nat->Nat):NL->Nat
 |[]=>0
 |j :: l=>f j ^^^ aq f l
theorem qx {f:Nat->Nat}:∀{l:NL},(∀j∈l,f j<256)->aq f l<256
 |[],_=>by show 0<256;decide
 |j :: l,h=>aO (h j mem_cons_self) (qx λx hx=>h x (mem_cons_of_mem _ hx))
theorem ft {f g:Nat->Nat}:∀{l:NL},(∀j∈l,f j=g j)->aq f l=aq g l
 |[],_=>rfl
 |j :: l,h=>by
  show f j ^^^ aq f l=g j ^^^ aq g l
  rw[h j mem_cons_self,ft λx hx=>h x (mem_cons_of_mem _ hx)]
theorem rM {f:Nat->Nat}{l:NL}(h:∀j∈l,f j=0):aq f l=0:=by
 induction l with
 |nil=>rfl
 |cons j l ih=>
  show f j ^^^ aq f l=0
  rw[h j mem_cons_self,ih λx hx=>h x (mem_cons_of_mem _ hx)]
  rfl
theorem lg (f g:Nat->Nat):∀l:NL,aq (λj=>f j ^^^ g j) l=aq f l ^^^ aq g l
 |[]=>by show 0=0 ^^^ 0;decide
 |j :: l=>by
  show (f j ^^^ g j) ^^^ aq (λj=>f j ^^^ g j) l=(f j ^^^ aq f l) ^^^ (g j ^^^ aq g l)
  rw[lg f g l,vR]
theorem lh (c:Nat)(f:Nat->Nat):∀l:NL,mul c (aq f l)=aq (λj=>mul c (f j)) l
 |[]=>ax c
 |j :: l=>by
  show mul c (f j ^^^ aq f l)=mul c (f j) ^^^ aq (λj=>mul c (f j)) l
  rw[kS,lh c f l]
theorem AB (a b c:Nat):a ^^^ b=(b ^^^ c) ^^^ (a ^^^ c):=by
 rw[xor_comm b c,xor_assoc,<- xor_assoc b a c,xor_comm (b ^^^ a) c,kX,xor_comm]
theorem x8:∀(js xs:NL)(v:Nat->Nat),js.length=xs.length->js.Nodup->xs.Nodup->(∀j∈js,j<256)->(∀x∈xs,x<256)->(∀x∈xs,∀j∈js,x≠j)->(∀j∈js,v j<256)->
  (∀x∈xs,aq (λj=>mul (inv (x ^^^ j)) (v j)) js=0)->∀j∈js,v j=0
 |[],_,_,_,_,_,_,_,_,_,_=>λ_ h=>by cases h
 |j0 :: js,[],_,hl,_,_,_,_,_,_,_=>by cases hl
 |j0 :: js,x0 :: xs,v,hl,nj,nx,bj,bx,ne,bv,hS=>by
  have nj':=nodup_cons.mp nj
  have nx':=nodup_cons.mp nx
  have bj0:=bj j0 mem_cons_self
  have bx0:=bx x0 mem_cons_self
  have iv:∀x∈x0 :: xs,∀j∈j0 :: js,x ^^^ j<256/\x ^^^ j≠0:=λx hx j hj=>⟨aO (bx x hx) (bj j hj),lW (ne x hx j hj)⟩
  have hT:∀x∈x0 :: xs,aq (λj=>mul (inv (x ^^^ j)) (mul (j0 ^^^ j) (v j))) js=aq v (j0 :: js):=λx hx=>by
   have h1:mul (j0 ^^^ x) (aq (λj=>mul (inv (x ^^^ j)) (v j)) (j0 :: js))=0:=by rw[hS x hx,ax]
   rw[lh] at h1
   have h2:aq (λj=>mul (j0 ^^^ x) (mul (inv (x ^^^ j)) (v j))) (j0 :: js)=aq (λj=>v j ^^^ mul (inv (x ^^^ j)) (mul (j0 ^^^ j) (v j))) (j0 :: js):=ft λj hj=>by
    obtain ⟨i1,i2⟩:=iv x hx j hj
    have hv:=bv j hj
    have hi:=aI i1
    rw[AB j0 x j,i7 _ i1 (aO bj0 (bj j hj)),wB i2 i1 hv,ux (aO bj0 (bj j hj)) hi hv]
   rw[h2,lg] at h1
   have h3:=wT h1
   rw[h3]
   show _=mul (inv (x ^^^ j0)) (mul (j0 ^^^ j0) (v j0)) ^^^ _
   rw[xor_self,gJ,ax,zero_xor]
  have hw:∀x∈xs,aq (λj=>mul (inv (x ^^^ j)) (mul (inv (x0 ^^^ j)) (mul (j0 ^^^ j) (v j)))) js=0:=λx hx=>by
   have hxm:=mem_cons_of_mem x0 hx
   have e1:=hT x hxm
   rw[<- hT x0 mem_cons_self] at e1
   have h1:aq (λj=>mul (inv (x ^^^ j)) (mul (j0 ^^^ j) (v j)) ^^^ mul (inv (x0 ^^^ j)) (mul (j0 ^^^ j) (v j))) js=0:=by rw[lg,e1,xor_self]
   have h2:aq (λj=>mul (inv (x ^^^ j)) (mul (j0 ^^^ j) (v j)) ^^^ mul (inv (x0 ^^^ j)) (mul (j0 ^^^ j) (v j))) js=aq (λj=>mul (x ^^^ x0) (mul (inv (x ^^^ j)) (mul (inv (x0 ^^^ j)) (mul (j0 ^^^ j) (v j))))) js:=ft λj hj=>by
    have hjm:=mem_cons_of_mem j0 hj
    obtain ⟨i1,i2⟩:=iv x hxm j hjm
    obtain ⟨i3,i4⟩:=iv x0 mem_cons_self j hjm
    have hu:=bF (v j) (aO bj0 (bj j hjm))
    have hi:=aI i1
    have hi0:=aI i3
    rw[show x ^^^ x0=(x ^^^ j) ^^^ (x0 ^^^ j) by rw[xor_comm x0 j,<- xor_assoc,xor_assoc x j j,xor_self,xor_zero],i7 _ i1 i3,wB i2 i1 (bF _ hi0),ux hi hi0 hu,wB i4 i3 (bF _ hi),xor_comm]
   rw[h2,<- lh] at h1
   have bne:x ^^^ x0≠0:=lW λ(e:x=x0)=>nx'.1 (by rw[<- e];exact hx)
   refine gn bne (aO (bx x hxm) bx0) (qx λj hj=>bF _ (aI (iv x hxm j (mem_cons_of_mem _ hj)).1)) h1
  have ih:=x8 js xs (λj=>mul (inv (x0 ^^^ j)) (mul (j0 ^^^ j) (v j))) (by simpa using hl) nj'.2 nx'.2 (λj hj=>bj j (mem_cons_of_mem _ hj)) (λx hx=>bx x (mem_cons_of_mem _ hx))
   (λx hx j hj=>ne x (mem_cons_of_mem _ hx) j (mem_cons_of_mem _ hj)) (λj hj=>bF _ (aI (iv x0 mem_cons_self j (mem_cons_of_mem _ hj)).1)) hw
  have hz:∀j∈js,v j=0:=λj hj=>by
   have hjm:=mem_cons_of_mem j0 hj
   obtain ⟨i3,i4⟩:=iv x0 mem_cons_self j hjm
   have h1:=gn (uC i4 i3) (aI i3) (bF _ (aO bj0 (bj j hjm))) (ih j hj)
   exact gn (lW λ(e:j0=j)=>nj'.1 (by rw[e];exact hj)) (aO bj0 (bj j hjm)) (bv j hjm) h1
  intro j hj
  rcases mem_cons.mp hj with rfl|hj
  ·have h1:=hS x0 mem_cons_self
   have h2:aq (λj=>mul (inv (x0 ^^^ j)) (v j)) js=0:=rM λj hj=>by rw[hz j hj,ax]
   have h1:mul (inv (x0 ^^^ j)) (v j) ^^^ aq (λj=>mul (inv (x0 ^^^ j)) (v j)) js=0:=h1
   rw[h2,xor_zero] at h1
   obtain ⟨i3,i4⟩:=iv x0 mem_cons_self j hj
   exact gn (uC i4 i3) (aI i3) (bv j hj) h1
  ·exact hz j hj
theorem iF (f:Nat->Nat):∀l m:NL,aq f (l++m)=aq f l ^^^ aq f m
 |[],m=>by show aq f m=0 ^^^ aq f m;rw[zero_xor]
 |j :: l,m=>by
  show f j ^^^ aq f (l++m)=(f j ^^^ aq f l) ^^^ aq f m
  rw[iF f l m,xor_assoc]
theorem rN (f:Nat->Nat)(n:Nat):aq f (range (n+1))=aq f (range n) ^^^ f n:=by
 rw[range_succ,iF]
 show _ ^^^ (f n ^^^ 0)=_
 rw[xor_zero]
theorem nU (f g:Nat->Nat):∀l:NL,aq f (l.map g)=aq (λj=>f (g j)) l
 |[]=>rfl
 |j :: l=>by show f (g j) ^^^ _=f (g j) ^^^ _;rw[nU f g l]
theorem gi (f:Nat->Nat)(i:Nat):∀n,(∀j,j<n->j≠i->f j=0)->aq f (range n)=if i<n then f i else 0
 |0,_=>rfl
 |n+1,h=>by
  rw[rN,gi f i n λj hj=>h j (by lia)]
  by_cases h1:i<n
  ·rw[if_pos h1,if_pos (by lia),h n (by lia) (by lia),xor_zero]
  ·by_cases h2:i=n
   ·subst h2
    rw[if_neg h1,if_pos (by lia),zero_xor]
   ·rw[if_neg h1,if_neg (by lia),h n (by lia) (by lia)]
    rfl
theorem nV (f:Nat->Nat){n m:Nat}(hnm:n<=m)(h:∀j,n<=j->j<m->f j=0):aq f (range m)=aq f (range n):=by
 obtain ⟨d,rfl⟩:∃d,m=n+d:=⟨m-n,by lia⟩
 rw[range_add,iF,nU,rM λj hj=>h (n+j) (by lia) (by have:=mem_range.mp hj;lia),xor_zero]
def dot (n:Nat)(r v:Nat->Nat):Nat:=aq (λj=>mul (r j) (v j)) (range n)
abbrev Mat:=Nat->Nat->Nat
def MB (M:Mat):Prop:=∀i j,M i j<256
def VB (v:Nat->Nat):Prop:=∀j,v j<256
theorem Bx {n:Nat}{r v:Nat->Nat}(hr:∀j,r j<256):dot n r v<256:=qx λj _=>bF _ (hr j)
theorem mO {n f:Nat}{r v:Nat->Nat}(hf:f<256)(hr:∀j,r j<256)(hv:VB v):dot n (λj=>mul f (r j)) v=mul f (dot n r v):=by
 unfold dot
 rw[lh]
 exact ft λj _=>(eG hf (hr j) (hv j)).symm
theorem Ag {n g:Nat}{r b v:Nat->Nat}(hg:g<256)(hr:∀j,r j<256)(hb:∀j,b j<256)(hv:VB v):dot n (λj=>r j ^^^ mul g (b j)) v=dot n r v ^^^ mul g (dot n b v):=by
 rw[<- mO hg hb hv]
 unfold dot
 rw[<- lg]
 exact ft λj _=>i7 _ (hr j) (bF _ hg)
def elim (c:Nat)(M:Mat):Mat:=λi j=>if i=c then mul (inv (M c c)) (M c j) else M i j ^^^ mul (M i c) (mul (inv (M c c)) (M c j))
theorem xY {c:Nat}{M:Mat}(h:MB M):MB (elim c M):=λi j=>by
 unfold elim
 split
 ·exact bF _ (aI (h c c))
 ·exact aO (h i j) (bF _ (h i c))
theorem wG {N c:Nat}{M:Mat}{v:Nat->Nat}(h:MB M)(hv:VB v):dot N (elim c M c) v=mul (inv (M c c)) (dot N (M c) v):=by
 rw[<- mO (aI (h c c)) (h c) hv]
 unfold elim
 rw[show (λj=>if c=c then mul (inv (M c c)) (M c j) else M c j ^^^ mul (M c c) (mul (inv (M c c)) (M c j)))=λj=>mul (inv (M c c)) (M c j) from funext λj=>if_pos rfl]
theorem qj {N c i:Nat}{M:Mat}{v:Nat->Nat}(h:MB M)(hv:VB v)(hi:i≠c):dot N (elim c M i) v=dot N (M i) v ^^^ mul (M i c) (mul (inv (M c c)) (dot N (M c) v)):=by
 rw[<- mO (aI (h c c)) (h c) hv,<- Ag (h i c) (h i) (λj=>bF _ (aI (h c c))) hv]
 unfold elim
 rw[show (λj=>if i=c then mul (inv (M c c)) (M c j) else M i j ^^^ mul (M i c) (mul (inv (M c c)) (M c j)))=λj=>M i j ^^^ mul (M i c) (mul (inv (M c c)) (M c j)) from funext λj=>if_neg hi]
def Sol (N:Nat)(M:Mat)(I:Nat->Prop)(v:Nat->Nat):Prop:=∀i,I i->dot N (M i) v=0
theorem tp {N c:Nat}{M:Mat}{I:Nat->Prop}{v:Nat->Nat}(h:MB M)(hv:VB v)(hp:M c c≠0)(hc:I c):Sol N (elim c M) I v ↔ Sol N M I v:=by
 have ec:=wG (N:=N) (c:=c) h hv
 constructor
 ·intro s
  have h0:=s c hc
  rw[ec] at h0
  have hz:=gn (uC hp (h c c)) (aI (h c c)) (Bx (h c)) h0
  intro i hi
  by_cases e:i=c
  ·rw[e];exact hz
  ·have h1:=s i hi
   rw[qj h hv e,hz,ax,ax,xor_zero] at h1
   exact h1
 ·intro s i hi
  by_cases e:i=c
  ·rw[e,ec,s c hc,ax]
  ·rw[qj h hv e,s c hc,ax,ax,xor_zero,s i hi]
def lJ (k c:Nat)(M:Mat):Prop:=∀j,j<c->∀i,i<k->M i j=if i=j then 1 else 0
theorem rJ {k c:Nat}{M:Mat}(h:MB M)(hp:M c c≠0)(hc:c<k)(U:lJ k c M):lJ k (c+1) (elim c M):=by
 intro j hj i hi
 have hinv:=aI (h c c)
 unfold elim
 by_cases hjc:j=c
 ·subst hjc
  have e1:mul (inv (M j j)) (M j j)=1:=by rw[fF hinv (h j j),jx hp (h j j)]
  rw[e1]
  by_cases e:i=j
  ·rw[if_pos e,if_pos e]
  ·rw[if_neg e,if_neg e,mz (h i j),xor_self]
 ·have e0:M c j=0:=by rw[U j (by lia) c hc,if_neg λe=>hjc e.symm]
  rw[e0,ax,ax]
  by_cases e:i=c
  ·rw[if_pos e,if_neg (by lia)]
  ·rw[if_neg e,xor_zero,U j (by lia) i hi]
def kv (c:Nat)(M:Mat):Nat->Nat:=λj=>if j<c then M j c else if j=c then 1 else 0
theorem wA {c:Nat}{M:Mat}(h:MB M):VB (kv c M):=λj=>by
 unfold kv
 split
 ·exact h _ _
 ·split<;>decide
theorem xL {N k c i:Nat}{M:Mat}(h:MB M)(U:lJ k c M)(hN:c<N)(hi:i<k)(hz:i<c\/M i c=0):dot N (M i) (kv c M)=0:=by
 unfold dot
 rw[nV (n:=c+1) _ (by lia) λj h1 h2=>?_,rN]
 ·have e1:mul (M i c) (kv c M c)=M i c:=by
   unfold kv
   rw[if_neg (by lia),if_pos rfl,mz (h i c)]
  have e2:aq (λj=>mul (M i j) (kv c M j)) (range c)=if i<c then M i c else 0:=by
   rw[gi _ i c λj hj hne=>?_]
   ·by_cases hic:i<c
    ·rw[if_pos hic,if_pos hic,U i hic i hi,if_pos rfl]
     unfold kv
     rw[if_pos hic,dE (h i c)]
    ·rw[if_neg hic,if_neg hic]
   ·rw[U j hj i hi,if_neg λe=>hne e.symm,gJ]
  rw[e1,e2]
  by_cases hic:i<c
  ·rw[if_pos hic,xor_self]
  ·rw[if_neg hic,zero_xor]
   exact hz.resolve_left hic
 ·unfold kv
  rw[if_neg (by lia),if_neg (by lia),ax]
def vec (k x:Nat)(D:Nat->Nat):Nat->Nat:=λj=>if j<k then D j else if j=k+x then 1 else 0
theorem zh {k x:Nat}{D:Nat->Nat}(h:VB D):VB (vec k x D):=λj=>by
 unfold vec
 split
 ·exact h _
 ·split<;>decide
theorem vO {k len x:Nat}{r D:Nat->Nat}(hr:∀j,r j<256)(hx:x<len):dot (k+len) r (vec k x D)=dot k r D ^^^ r (k+x):=by
 unfold dot
 rw[range_add,iF,nU]
 congr 1
 ·exact ft λj hj=>by
   unfold vec
   rw[if_pos (mem_range.mp hj)]
 ·rw[gi _ x len λj _ hne=>?_]
  ·rw[if_pos hx]
   unfold vec
   rw[if_neg (by lia),if_pos rfl,mz (hr _)]
  ·unfold vec
   rw[if_neg (by lia),if_neg (by lia),ax]
theorem sU {k i:Nat}{M:Mat}{D:Nat->Nat}(U:lJ k k M)(hD:VB D)(hi:i<k):dot k (M i) D=D i:=by
 unfold dot
 rw[gi _ i k λj hj hne=>?_]
 ·rw[if_pos hi,U i hi i hi,if_pos rfl,dE (hD i)]
 ·rw[U j hj i hi,if_neg λe=>hne e.symm,gJ]
theorem sT {k len x:Nat}{M:Mat}{D:Nat->Nat}(h:MB M)(U:lJ k k M)(hD:VB D)(hx:x<len):Sol (k+len) M (· < k) (vec k x D) ↔ ∀i,i<k->D i=M i (k+x):=by
 constructor
 ·intro s i hi
  have:=s i hi
  rw[vO (h i) hx,sU U hD hi] at this
  exact wT this
 ·intro s i hi
  rw[vO (h i) hx,sU U hD hi,s i hi,xor_self]
def cz (M:Mat):Nat->Mat
 |0=>M
 |c+1=>elim c (cz M c)
theorem jK {M:Mat}(h:MB M):∀c,MB (cz M c)
 |0=>h
 |c+1=>xY (jK h c)
theorem oa {N:Nat}{M:Mat}{I:Nat->Prop}{v:Nat->Nat}(h:MB M)(hv:VB v):∀c,(∀b,b<c->cz M b b b≠0/\I b)->(Sol N (cz M c) I v ↔ Sol N M I v)
 |0,_=>Iff.rfl
 |c+1,hp=>(tp (jK h c) hv (hp c (by lia)).1 (hp c (by lia)).2).trans (oa h hv c λb hb=>hp b (by lia))
theorem mf {k:Nat}{M:Mat}(h:MB M):∀c,c<=k->(∀b,b<c->cz M b b b≠0)->lJ k c (cz M c)
 |0,_,_=>λj hj=>absurd hj (by lia)
 |c+1,hc,hp=>rJ (jK h c) (hp c (by lia)) (by lia) (mf h c (by lia) λb hb=>hp b (by lia))
def df (p c:Nat)(M:Mat):Mat:=λi=>if i=c then M p else if i=p then M c else M i
theorem Aw {p c:Nat}{M:Mat}(h:MB M):MB (df p c M):=λi j=>by
 unfold df
 split
 ·exact h _ _
 ·split<;>exact h _ _
theorem yn {N k p c:Nat}{M:Mat}{v:Nat->Nat}(hp:p<k)(hc:c<k):Sol N (df p c M) (· < k) v ↔ Sol N M (· < k) v:=by
 constructor
 ·intro s i hi
  by_cases e:i=p
  ·have:=s c hc
   unfold df at this
   rw[if_pos rfl] at this
   rw[e];exact this
  ·by_cases e2:i=c
   ·have:=s p hp
    unfold df at this
    by_cases e3:p=c
    ·rw[if_pos e3] at this
     rw[e2,<- e3];exact this
    ·rw[if_neg e3,if_pos rfl] at this
     rw[e2];exact this
   ·have:=s i hi
    unfold df at this
    rw[if_neg e2,if_neg e] at this
    exact this
 ·intro s i hi
  unfold df
  split
  ·exact s p hp
  ·split
   ·exact s c hc
   ·exact s i hi
theorem xa {k p c:Nat}{M:Mat}(hcp:c<=p)(hp:p<k)(hc:c<k)(U:lJ k c M):lJ k c (df p c M):=by
 intro j hj i hi
 unfold df
 by_cases e:i=c
 ·rw[if_pos e,U j hj p hp,if_neg (by lia),if_neg (by lia)]
 ·rw[if_neg e]
  by_cases e2:i=p
  ·rw[if_pos e2,U j hj c hc,if_neg (by lia),if_neg (by lia)]
  ·rw[if_neg e2];exact U j hj i hi
def aR (k len:Nat)(pl:Nat->Nat)(sh:Nat->NL):Mat:=λi j=>if j<k then (rowFor k (pl i)).getD j 0 else (sh (pl i)).getD (j-k) 0
theorem mi {k s j:Nat}(h:j<k):(rowFor k s).getD j 0=if s<k then (if s=j then 1 else 0) else inv (s ^^^ j):=by
 unfold rowFor
 rw[ga h]
theorem cB (k s:Nat):(rowFor k s).length=k:=by unfold rowFor;simp
theorem mh {k s:Nat}(hk:k<=64)(hs:s<64):Bytes (rowFor k s):=λy hy=>by
 unfold rowFor at hy
 refine e_1 (mem_map.mp hy) λj=>a_2 λhj ez=>?_;subst ez
 have hj:=mem_range.mp hj
 split
 ·split<;>decide
 ·exact aI (lt_of_lt_of_le (xor_lt_two_pow (n:=6) hs (by lia)) (by decide))
theorem rq {k len:Nat}{pl:Nat->Nat}{sh:Nat->NL}(hk:k<=64)(hp:∀i,pl i<64)(hs:∀s,Bytes (sh s)):MB (aR k len pl sh):=λi j=>by
 unfold aR
 split
 ·exact (mh hk (hp i)).at_ j
 ·exact (hs _).at_ _
theorem vP {k len i:Nat}{pl:Nat->Nat}{sh:Nat->NL}{v:Nat->Nat}(hv:VB v)(hz:∀j,k<=j->v j=0)(hi:pl i<k):dot (k+len) (aR k len pl sh i) v=v (pl i):=by
 unfold dot
 rw[nV (n:=k) _ (by lia) λj h1 _=>by rw[hz j h1,ax],gi _ (pl i) k λj hj hne=>?_]
 ·rw[if_pos hi]
  unfold aR
  rw[if_pos hi,mi hi,if_pos hi,if_pos rfl,dE (hv _)]
 ·unfold aR
  rw[if_pos hj,mi hj,if_pos hi,if_neg λe=>hne e.symm,gJ]
theorem nL {f:Nat->Nat}{p:Nat->Bool}:∀{l:NL},(∀j∈l,p j=false->f j=0)->aq f (l.filter p)=aq f l
 |[],_=>rfl
 |j :: l,h=>by
  have ih:=nL (f:=f) (p:=p) (l:=l) λx hx=>h x (mem_cons_of_mem _ hx)
  cases e:p j with
  |true=>
   rw[List.filter_cons_of_pos e]
   show f j ^^^ _=f j ^^^ _
   rw[ih]
  |false=>
   rw[List.filter_cons_of_neg (by rw[e];exact Bool.noConfusion)]
   show _=f j ^^^ _
   rw[ih,h j mem_cons_self e,zero_xor]
theorem y3 {k len i:Nat}{pl:Nat->Nat}{sh:Nat->NL}{v:Nat->Nat}(p:Nat->Bool)(hz:∀j,k<=j->v j=0)(hp:∀j,j<k->p j=false->v j=0)(hi:k<=pl i):dot (k+len) (aR k len pl sh i) v=aq (λj=>mul (inv (pl i ^^^ j)) (v j)) ((range k).filter p):=by
 unfold dot
 rw[nV (n:=k) _ (by lia) λj h1 _=>by rw[hz j h1,ax]]
 rw[nL λj hj hpj=>by rw[hp j (mem_range.mp hj) hpj,ax]]
 exact ft λj hj=>by
  have hj:=mem_range.mp hj
  unfold aR
  rw[if_pos hj,mi hj,if_neg (by lia)]
theorem r0 {k len:Nat}{pl:Nat->Nat}{sh:Nat->NL}{v:Nat->Nat}{I:Nat->Prop}(p:Nat->Bool)(xs:NL)(hk:k<=64)(hv:VB v)(hz:∀j,k<=j->v j=0)(s:Sol (k+len) (aR k len pl sh) I v)
  (hlow:∀j,j<k->p j=false->v j=0) (hx:∀x∈xs,k<=x/\x<64/\∃i,I i/\pl i=x) (nx:xs.Nodup) (hl:((range k).filter p).length=xs.length):∀j,j<k->v j=0:=by
 have hc:=x8 ((range k).filter p) xs v hl (List.nodup_range.filter _) nx (λj hj=>by have:=mem_range.mp (mem_filter.mp hj).1;lia) (λx hx'=>by have:=(hx x hx').2.1;lia)
  (λx hx' j hj e=>by have:=mem_range.mp (mem_filter.mp hj).1;have:=(hx x hx').1;lia) (λj _=>hv j) (λx hx'=>by
   obtain ⟨h1,_,i,hi,rfl⟩:=hx x hx'
   rw[<- y3 (len:=len) (sh:=sh) p hz hlow h1]
   exact s i hi)
 intro j hj
 cases e:p j with
 |false=>exact hlow j hj e
 |true=>exact hc j (mem_filter.mpr ⟨mem_range.mpr hj,e⟩)
abbrev RR:=List (NL×NL)
def mU (k:Nat)(rows:RR)(c:Nat):RR:=
  match (range k).find? λ(i:Nat)=>decide (c<=i) && (Sy22.at_ (rows.getD i ([],[])).1 c != 0) with
  |none=>rows
  |some p=>
   let a:=rows.getD c ([],[])
   let b:=rows.getD p ([],[])
   let rows:=(rows.set p a).set c b
   let f:=inv (Sy22.at_ b.1 c)
   let b:=(b.1.map (mul f),b.2.map (mul f))
   (range k).map λ(i:Nat)=>if i=c then b else
    let x:=rows.getD i ([],[])
    let g:=Sy22.at_ x.1 c
    if g=0 then x else (addRow x.1 b.1 g,addRow x.2 b.2 g)
theorem yq (k:Nat)(rows:RR):solve k rows=((range k).foldl (mU k) rows).map (λ(x:NL×NL)=>x.2):=rfl
def flat (R:RR)(i:Nat):NL:=(R.getD i ([],[])).1++(R.getD i ([],[])).2
theorem r6 {f:Nat->Nat}(h:f 0=0)(l:NL)(j:Nat):(l.map f).getD j 0=f (l.getD j 0):=by
 by_cases hj:j<l.length
 ·simp[hj]
 ·simp[hj,h]
theorem xR {f:Nat->Nat->Nat}(h:f 0 0=0){a b:NL}(hl:a.length=b.length)(j:Nat):(List.zipWith f a b).getD j 0=f (a.getD j 0) (b.getD j 0):=by
 by_cases hj:j<a.length
 ·simp[hj,<- hl]
 ·simp[hj,<- hl,h]
structure RS (k len c:Nat)(R:RR)(M M0:Mat):Prop where
 rl:R.length=k
 lens:∀i,i<k->(R.getD i ([],[])).1.length=k/\(R.getD i ([],[])).2.length=len
 b:MB M
 unit:lJ k c M
 sol:∀v,VB v->(Sol (k+len) M (· < k) v ↔ Sol (k+len) M0 (· < k) v)
 ent:∀i,i<k->∀j,j<k+len->(flat R i).getD j 0=M i j
theorem yV {k len:Nat}{a:NL×NL}{c:Nat}(h:a.1.length=k)(hc:c<k):(a.1++a.2).getD c 0=Sy22.at_ a.1 c:=by
 rw[en (by lia)];rfl
theorem zD {k len c:Nat}{R:RR}{M M0:Mat}(hc:c<k)(S:RS k len c R M M0)(ker:∀v,VB v->(∀j,k<=j->v j=0)->Sol (k+len) M0 (· < k) v->∀j,j<k->v j=0):∃M',RS k len (c+1) (mU k R c) M' M0:=by
  have at1:∀i,i<k->Sy22.at_ (R.getD i ([],[])).1 c=M i c:=λi hi=>by
    rw[<- S.ent i hi c (by lia),<- yV (k:=k) (len:=len) (S.lens i hi).1 hc];rfl
  cases hf:(range k).find? λ(i:Nat)=>decide (c<=i) && (Sy22.at_ (R.getD i ([],[])).1 c != 0) with
  |none=>
    exfalso
    rw[find?_eq_none] at hf
    have hs:Sol (k+len) M (· < k) (kv c M):=λi hi=>by
      refine xL S.b S.unit (by lia) hi ?_
      by_cases hic:i<c
      · exact .inl hic
      · refine .inr ?_
        have:=hf i (mem_range.mpr hi)
        rw[at1 i hi] at this
        simpa [show c<=i by lia] using this
    have hz:=ker (kv c M) (wA S.b) (λj hj=>by unfold kv;rw[if_neg (by lia),if_neg (by lia)]) ((S.sol _ (wA S.b)).mp hs) c hc
    unfold kv at hz
    rw[if_neg (by lia),if_pos rfl] at hz
    cases hz
  |some p=>
    have hpm:=mem_range.mp (mem_of_find?_eq_some hf)
    have hpp:=find?_some hf
    rw[Bool.and_eq_true,decide_eq_true_iff,at1 p hpm,bne_iff_ne] at hpp
    obtain ⟨hcp,hne⟩:=hpp
    have sb:MB (df p c M):=Aw S.b
    have spiv:df p c M c c=M p c:=by unfold df;rw[if_pos rfl]
    have e:mU k R c=(range k).map λ(i:Nat)=>if i=c then ((R.getD p ([],[])).1.map (mul (inv (Sy22.at_ (R.getD p ([],[])).1 c))),(R.getD p ([],[])).2.map (mul (inv (Sy22.at_ (R.getD p ([],[])).1 c)))) else
        if Sy22.at_ (((R.set p (R.getD c ([],[]))).set c (R.getD p ([],[]))).getD i ([],[])).1 c=0 then ((R.set p (R.getD c ([],[]))).set c (R.getD p ([],[]))).getD i ([],[]) else
          (addRow (((R.set p (R.getD c ([],[]))).set c (R.getD p ([],[]))).getD i ([],[])).1 ((R.getD p ([],[])).1.map (mul (inv (Sy22.at_ (R.getD p ([],[])).1 c)))) (Sy22.at_ (((R.set p (R.getD c ([],[]))).set c (R.getD p ([],[]))).getD i ([],[])).1 c),
           addRow (((R.set p (R.getD c ([],[]))).set c (R.getD p ([],[]))).getD i ([],[])).2 ((R.getD p ([],[])).2.map (mul (inv (Sy22.at_ (R.getD p ([],[])).1 c)))) (Sy22.at_ (((R.set p (R.getD c ([],[]))).set c (R.getD p ([],[]))).getD i ([],[])).1 c)):=by
      unfold mU
      rw[hf]
    have sw:∀i,i<k->i≠c->((R.set p (R.getD c ([],[]))).set c (R.getD p ([],[]))).getD i ([],[])=if i=p then R.getD c ([],[]) else R.getD i ([],[]):=λi hi hic=>by
      rw[getD_eq_getElem?_getD,getElem?_set_ne λz=>hic z.symm]
      by_cases hip:i=p
      · rw[if_pos hip,hip,getElem?_set_self (by rw[S.rl];exact hpm)];rfl
      · rw[if_neg hip,getElem?_set_ne λz=>hip z.symm,<- getD_eq_getElem?_getD]
    have gd:∀(F:Nat->NL×NL)(i:Nat),i<k->((range k).map F).getD i ([],[])=F i:=λF i hi=>by
      rw[getD_eq_getElem?_getD,getElem?_map,getElem?_range hi];rfl
    have xo:∀i,i<k->i≠c->∃q,q<k/\((R.set p (R.getD c ([],[]))).set c (R.getD p ([],[]))).getD i ([],[])=R.getD q ([],[])/\∀j,df p c M i j=M q j:=λi hi hic=>by
      rw[sw i hi hic]
      unfold df
      by_cases hip:i=p
      · exact ⟨c,hc,by rw[if_pos hip],λj=>by rw[if_neg hic,if_pos hip]⟩
      · exact ⟨i,hi,by rw[if_neg hip],λj=>by rw[if_neg hic,if_neg hip]⟩
    refine ⟨elim c (df p c M),?_,λi hi=>?_,xY sb,rJ sb (by rw[spiv];exact hne) hc (xa hcp hpm hc S.unit),λv hv=>?_,λi hi j hj=>?_⟩
    · rw[e];simp
    · rw[e,gd _ i hi]
      obtain ⟨l1,l2⟩:=S.lens p hpm
      by_cases hic:i=c
      · rw[if_pos hic]
        exact ⟨by rw[length_map,l1],by rw[length_map,l2]⟩
      · rw[if_neg hic]
        refine e_1 (xo i hi hic) λq=>a_3 λhq eq _=>?_
        rw[eq]
        obtain ⟨m1,m2⟩:=S.lens q hq
        split
        · exact ⟨m1,m2⟩
        · unfold addRow
          exact ⟨by rw[List.length_zipWith,length_map,m1,l1,min_self],by rw[List.length_zipWith,length_map,m2,l2,min_self]⟩
    · exact ((tp (I:=(· < k)) sb hv (by rw[spiv];exact hne) hc).trans (yn hpm hc)).trans (S.sol v hv)
    · unfold flat
      rw[e,gd _ i hi]
      obtain ⟨l1,l2⟩:=S.lens p hpm
      have bj:((R.getD p ([],[])).1.map (mul (inv (M p c)))++(R.getD p ([],[])).2.map (mul (inv (M p c)))).getD j 0=mul (inv (M p c)) (M p j):=by
        rw[<- map_append,r6 (ax _)]
        exact congrArg _ (S.ent p hpm j hj)
      rw[at1 p hpm]
      unfold elim
      rw[spiv,show df p c M c j=M p j by unfold df;rw[if_pos rfl]]
      by_cases hic:i=c
      · rw[if_pos hic,if_pos hic]
        exact bj
      · rw[if_neg hic,if_neg hic]
        refine e_1 (xo i hi hic) λq=>a_3 λhq eq em=>?_
        rw[eq,em,em,at1 q hq]
        obtain ⟨m1,m2⟩:=S.lens q hq
        by_cases hg:M q c=0
        · rw[if_pos hg,hg,gJ,xor_zero]
          exact S.ent q hq j hj
        · rw[if_neg hg]
          dsimp only
          unfold addRow
          rw[<- List.zipWith_append (by rw[length_map,m1,l1]),xR (by rw[ax];rfl) (by rw[length_append,length_append,length_map,length_map,m1,m2,l1,l2]),bj]
          rw[<- S.ent q hq j hj]
          rfl
theorem xp {k len:Nat}{R:RR}{M0:Mat}(S:RS k len 0 R M0 M0)(ker:∀v,VB v->(∀j,k<=j->v j=0)->Sol (k+len) M0 (· < k) v->∀j,j<k->v j=0):∀c,c<=k->∃M',RS k len c ((range c).foldl (mU k) R) M' M0
 |0,_=>⟨M0,S⟩
 |c+1,hc=>by
  obtain ⟨M',S'⟩:=xp S ker c (by lia)
  rw[range_succ,foldl_append]
  exact zD (by lia) S' ker
def bT (k t:Nat):NL:=(range k).filter λi=>t.testBit i
def sH (k m t:Nat):NL:=((range m).map (k + ·)).filter λi=>t.testBit i
def br (k m t:Nat):NL:=(sH k m t).take (k-(bT k t).length)
def dF (t n:Nat):NL:=(range n).filter λi=>!t.testBit i
theorem mr (k m t:Nat):places (k+m) t=bT k t++sH k m t:=by
 unfold places bT sH
 rw[range_add,filter_append]
theorem yG (k t:Nat):(bT k t).length<=k:=by
 have:=length_filter_le (λi=>t.testBit i) (range k)
 unfold bT
 simpa using this
theorem pK (k m t:Nat):(places (k+m) t).take k=bT k t++br k m t:=by
 rw[mr,take_append,take_of_length_le (yG k t)]
 rfl
theorem vD (p:Nat->Bool):∀l:NL,(l.filter p).length+(l.filter λi=>!p i).length=l.length
 |[]=>rfl
 |a :: l=>by
  have:=vD p l
  cases e:p a<;>simp[filter_cons,e]<;>lia
theorem oK (k t:Nat):(bT k t).length+(dF t k).length=k:=by
 have:=vD (λi=>t.testBit i) (range k)
 rw[length_range] at this
 exact this
theorem j7 {k m t:Nat}(h:k<=(places (k+m) t).length):(br k m t).length=(dF t k).length:=by
 have h1:=oK k t
 rw[mr,length_append] at h
 unfold br
 rw[length_take]
 lia
theorem gL {k m t x:Nat}(h:x∈br k m t):k<=x/\x<k+m:=by
 have h:=mem_of_mem_take h
 unfold sH at h
 refine e_1 (mem_map.mp (mem_filter.mp h).1) λi=>a_2 λhi ez=>?_;subst ez
 have:=mem_range.mp hi
 lia
theorem vm (k m:Nat):((range m).map (k + ·)).Nodup:=by
 induction m with
 |zero=>simp
 |succ m ih=>
  rw[range_succ,map_append,nodup_append]
  refine ⟨ih,by simp,λa ha b hb e=>?_⟩
  refine e_1 (mem_map.mp ha) λi=>a_2 λhi ez=>?_;subst ez
  have:=mem_range.mp hi
  simp at hb
  lia
theorem s0 (k m t:Nat):(br k m t).Nodup:=((vm k m).filter _).sublist (take_sublist _ _)
theorem gR (t n:Nat):dF t (n+1)=dF t n++if t.testBit n=true then [] else [n]:=by
 unfold dF
 rw[range_succ,filter_append]
 congr 1
 cases e:t.testBit n<;>simp[filter_cons,e]
theorem rp (t:Nat):∀n i,i<(dF t n).length->∃j,j<n/\t.testBit j=false/\(dF t j).length=i
 |0,i,h=>by simp[dF] at h
 |n+1,i,h=>by
  by_cases hi:i<(dF t n).length
  ·refine e_1 (rp t n i hi) λj=>a_3 λh1 h2 h3=>?_
   exact ⟨j,by lia,h2,h3⟩
  ·rw[gR,length_append] at h
   cases e:t.testBit n with
   |true=>rw[if_pos e] at h;simp at h;lia
   |false=>rw[if_neg (by rw[e];exact Bool.noConfusion)] at h;simp at h;exact ⟨n,by lia,e,by lia⟩
theorem mE {t a b:Nat}(h:a<=b):(dF t a).length<=(dF t b).length:=by
 induction b with
 |zero=>rw[Nat.le_zero.mp h];exact le_refl _
 |succ b ih=>
  by_cases e:a=b+1
  ·rw[e];exact le_refl _
  ·have:=ih (by lia)
   rw[gR,length_append]
   lia
def plP (k m t j:Nat):Nat:=if t.testBit j=true/\j<k then j else (br k m t).getD (dF t j).length 0
def plS (k m t i:Nat):Nat:=((places (k+m) t).take k).getD i 0
theorem jQ {l:NL}{i:Nat}(h:i<l.length):l.getD i 0∈l:=by
 rw[show l.getD i 0=l[i] by simp[h]];exact getElem_mem h
theorem pO {k m t:Nat}(hkm:k+m<=32)(j:Nat):plP k m t j<64:=by
 unfold plP
 split
 ·lia
 ·by_cases h:(dF t j).length<(br k m t).length
  ·have:=gL (jQ h);lia
  ·rw[show (br k m t).getD (dF t j).length 0=0 by simp[h]];decide
theorem rV {k m t u:Nat}(h:u<(br k m t).length):plS k m t ((bT k t).length+u)=(br k m t).getD u 0:=by
 unfold plS
 rw[pK,gU (by lia),add_sub_cancel_left]
theorem zP {k m t j:Nat}(hj:j<k)(h:t.testBit j=true):∃i,i<(bT k t).length/\plS k m t i=j:=by
 have hm:j∈bT k t:=mem_filter.mpr ⟨mem_range.mpr hj,h⟩
 obtain ⟨i,hi,e⟩:=mem_iff_getElem.mp hm
 refine ⟨i,hi,?_⟩
 unfold plS
 rw[pK,en hi]
 simp[hi,e]
theorem Bd {k m t:Nat}(hkm:k+m<=32)(i:Nat):plS k m t i<64:=by
 unfold plS
 by_cases h:i<((places (k+m) t).take k).length
 ·have hm:=mem_of_mem_take (jQ h)
  have:=mem_range.mp (mem_filter.mp hm).1
  lia
 ·rw[show ((places (k+m) t).take k).getD i 0=0 by rw[getD_eq_getElem?_getD,getElem?_eq_none (by lia)];rfl];decide
section
variable {k m t len:Nat}{sh:Nat->NL}(hkm:k+m<=32)(hs:∀s,Bytes (sh s))(hpl:k<=(places (k+m) t).length)
include hkm hs hpl
theorem CT:∀v,VB v->(∀j,k<=j->v j=0)->Sol (k+len) (aR k len (plS k m t) sh) (· < k) v->∀j,j<k->v j=0:=by
 intro v hv hz s
 have ml:=oK k t
 have sl:=j7 hpl
 refine r0 (λj=>!t.testBit j) (br k m t) (by lia) hv hz s (λj hj hp=>?_) (λx hx=>?_) (s0 k m t) sl.symm
 ·have hp:t.testBit j=true:=by simpa using hp
  refine e_1 (zP (m:=m) hj hp) λi=>a_2 λhi e=>?_
  have:=s i (by show i<k;lia)
  rw[vP hv hz (by rw[e];exact hj),e] at this
  exact this
 ·have hm:=gL hx
  obtain ⟨u,hu,e⟩:=mem_iff_getElem.mp hx
  refine ⟨hm.1,by lia,(bT k t).length+u,by show _<k;lia,?_⟩
  rw[rV hu]
  simp[hu,e]
theorem vp (c:Nat)(hc:c<k):((range k).filter λj=>decide (j<=c) && !t.testBit j)=dF t (c+1):=by
 obtain ⟨d,rfl⟩:∃d,k=c+1+d:=⟨k-(c+1),by lia⟩
 unfold dF
 rw[range_add,filter_append]
 have e1:((range (c+1)).filter λj=>decide (j<=c) && !t.testBit j)=(range (c+1)).filter λi=>!t.testBit i:=filter_congr λj hj=>by
  have:=mem_range.mp hj
  simp[show j<=c by lia]
 have e2:(((range d).map (c+1 + ·)).filter λj=>decide (j<=c) && !t.testBit j)=[]:=by
  rw[filter_eq_nil_iff]
  intro a ha
  refine e_1 (mem_map.mp ha) λi=>a_2 λ_ ez=>?_;subst ez
  simp
  lia
 rw[e1,e2,append_nil]
theorem Be (hb:MB (aR k len (plP k m t) sh)):∀c,c<k->cz (aR k len (plP k m t) sh) c c c≠0:=by
 intro c
 induction c using Nat.strongRecOn with
 |ind c ih=>
  intro hc h0
  have sl:=j7 hpl
  have U:=mf (k:=k) hb c (by lia) λb hb'=>ih b hb' (by lia)
  have Mb:=jK hb c
  have s1:Sol (k+len) (cz (aR k len (plP k m t) sh) c) (·<=c) (kv c (cz (aR k len (plP k m t) sh) c)):=λi hi=>by
   have hi:i<=c:=hi
   refine xL Mb U (by lia) (by lia) ?_
   by_cases e:i=c
   ·exact .inr (by rw[e];exact h0)
   ·exact .inl (by lia)
  have s2:=(oa hb (wA Mb) c λb hb'=>⟨ih b hb' (by lia),by show b<=c;lia⟩).mp s1
  generalize hv:kv c (cz (aR k len (plP k m t) sh) c)=v at *
  have vb:VB v:=hv ▸ wA Mb
  have vz:∀j,c<j->v j=0:=λj hj=>by rw[<- hv];unfold kv;rw[if_neg (by lia),if_neg (by lia)]
  have vc:v c=1:=by rw[<- hv];unfold kv;rw[if_neg (by lia),if_pos rfl]
  have mm:=mE (t:=t) (show c+1<=k by lia)
  have:=r0 (I:=(·<=c)) (λj=>decide (j<=c) && !t.testBit j) ((br k m t).take (dF t (c+1)).length) (by lia) vb (λj hj=>vz j (by lia)) s2 (λj hj hp=>?_) (λx hx=>?_) ((s0 k m t).sublist (take_sublist _ _)) (by rw[vp hkm hs hpl c hc,length_take];lia) c hc
  ·rw[vc] at this;cases this
  ·by_cases hjc:j<=c
   ·have hp:t.testBit j=true:=by simpa [hjc] using hp
    have h1:=s2 j hjc
    have e:plP k m t j=j:=by unfold plP;rw[if_pos ⟨hp,hj⟩]
    rw[vP vb (λj hj=>vz j (by lia)) (by rw[e];exact hj),e] at h1
    exact h1
   ·exact vz j (by lia)
  ·have hm:=gL (mem_of_mem_take hx)
   obtain ⟨u,hu,e⟩:=mem_iff_getElem.mp hx
   rw[length_take] at hu
   refine e_1 (rp t (c+1) u (by lia)) λj=>a_3 λhj hb' hjl=>?_
   refine ⟨hm.1,by lia,j,by show j<=c;lia,?_⟩
   unfold plP
   rw[if_neg (λz=>by rw[hb'] at z;cases z.1),hjl]
   rw[List.getElem_take] at e
   simp[show u<(br k m t).length by lia,e]
theorem zz {v:Nat->Nat}(s:Sol (k+len) (aR k len (plP k m t) sh) (· < k) v):Sol (k+len) (aR k len (plS k m t) sh) (· < k) v:=by
 intro i hi
 have hi:i<k:=hi
 have ml:=oK k t
 have sl:=j7 hpl
 have:∃j,j<k/\plP k m t j=plS k m t i:=by
  by_cases hA:i<(bT k t).length
  ·have e:plS k m t i=(bT k t).getD i 0:=by unfold plS;rw[pK,en hA]
   have hm:(bT k t).getD i 0∈range k/\t.testBit ((bT k t).getD i 0)=true:=mem_filter.mp (jQ hA)
   refine ⟨(bT k t).getD i 0,mem_range.mp hm.1,?_⟩
   rw[e]
   unfold plP
   rw[if_pos ⟨hm.2,mem_range.mp hm.1⟩]
  ·refine e_1 (rp t k (i-(bT k t).length) (by lia)) λj=>a_3 λh1 h2 h3=>?_
   refine ⟨j,h1,?_⟩
   have e:=rV (k:=k) (m:=m) (t:=t) (u:=i-(bT k t).length) (by lia)
   rw[show (bT k t).length+(i-(bT k t).length)=i by lia] at e
   rw[e]
   unfold plP
   rw[if_neg (λz=>by rw[h2] at z;cases z.1),h3]
 refine e_1 this λj=>a_2 λhj e=>?_;clear this
 have:=s j hj
 unfold aR at this ⊢
 rw[e] at this
 exact this
theorem tm (hb:MB (aR k len (plP k m t) sh))(hl:∀s,s<k+m->(sh s).length=len) :
  solve k (((places (k+m) t).take k).map λ(s:Nat)=>(rowFor k s,sh s))=(range k).map λi=>(range len).map λx=>cz (aR k len (plP k m t) sh) k i (k+x):=by
 have psl:((places (k+m) t).take k).length=k:=by rw[length_take];lia
 have sb:MB (aR k len (plS k m t) sh):=rq (by lia) (Bd hkm) hs
 have at_:∀i,i<k->(((places (k+m) t).take k).map λ(s:Nat)=>(rowFor k s,sh s)).getD i ([],[])=(rowFor k (plS k m t i),sh (plS k m t i)):=λi hi=>by
  unfold plS
  generalize (places (k+m) t).take k=ps at psl ⊢
  rw[getD_eq_getElem?_getD,getElem?_map,getElem?_eq_getElem (by lia),show ps.getD i 0=ps[i]'(by lia) by simp[show i<ps.length by lia]]
  rfl
 have lt_:∀i,i<k->plS k m t i<k+m:=λi hi=>by
  have hm:=mem_of_mem_take (jQ (l:=(places (k+m) t).take k) (i:=i) (by lia))
  exact mem_range.mp (mem_filter.mp hm).1
 have S:RS k len 0 (((places (k+m) t).take k).map λ(s:Nat)=>(rowFor k s,sh s)) (aR k len (plS k m t) sh) (aR k len (plS k m t) sh):=by
  refine ⟨by rw[length_map,psl],λi hi=>?_,sb,λj hj=>absurd hj (by lia),λv _=>Iff.rfl,λi hi j hj=>?_⟩
  ·rw[at_ i hi]
   exact ⟨cB _ _,hl _ (lt_ i hi)⟩
  ·unfold flat
   rw[at_ i hi]
   unfold aR
   by_cases hjk:j<k
   ·rw[if_pos hjk]
    exact en (by rw[cB];exact hjk)
   ·rw[if_neg hjk]
    show (rowFor k (plS k m t i)++sh (plS k m t i)).getD j 0=_
    rw[gU (by rw[cB];lia),cB]
 obtain ⟨M,R⟩:=xp S (CT hkm hs hpl) k (le_refl k)
 rw[yq]
 generalize hR:(range k).foldl (mU k) (((places (k+m) t).take k).map λ(s:Nat)=>(rowFor k s,sh s))=L at *
 have pv:=Be hkm hs hpl hb
 have Ub:=mf (k:=k) hb k (le_refl k) pv
 have Mb:=jK hb k
 have key:∀i,i<k->∀x,x<len->M i (k+x)=cz (aR k len (plP k m t) sh) k i (k+x):=λi hi x hx=>by
  have D:VB λi=>cz (aR k len (plP k m t) sh) k i (k+x):=λi=>Mb i _
  have s1:=(sT (k:=k) Mb Ub D hx).mpr λi _=>rfl
  have s2:=(oa hb (zh D) k λb hb'=>⟨pv b hb',hb'⟩).mp s1
  have s3:=(R.sol _ (zh D)).mpr (zz hkm hs hpl s2)
  exact ((sT R.b R.unit D hx).mp s3 i hi).symm
 refine ext_getElem (by simp[R.rl]) λi h1 h2=>?_
 have hi:i<k:=by simpa using h2
 rw[getElem_map,getElem_map,getElem_range]
 have hgi:L.getD i ([],[])=L[i]'(by rw[R.rl];exact hi):=by simp[show i<L.length by rw[R.rl];exact hi]
 obtain ⟨l1,l2⟩:=R.lens i hi
 rw[hgi] at l1 l2
 refine ext_getElem (by simp[l2]) λx h3 h4=>?_
 have hx:x<len:=by simpa using h4
 rw[getElem_map,getElem_range,<- key i hi x hx,<- R.ent i hi (k+x) (by lia)]
 unfold flat
 rw[hgi,gU (by lia),l1,add_sub_cancel_left]
 simp[show x<(L[i]'(by rw[R.rl];exact hi)).2.length by lia]
end
open PySem PySem.Spec PyProof.Rows L2
def nv (xs:NL):List V:=xs.map λ(n:Nat)=>V.int (n:Int)
theorem aw (xs:NL):(nv xs).length=xs.length:=by simp[nv]
theorem qb (xs ys:NL):nv (xs++ys)=nv xs++nv ys:=by simp[nv]
theorem de (xs:NL)(y:Nat):nv xs++[V.int (y:Int)]=nv (xs++[y]):=by simp[nv]
theorem zU (xs:NL)(n:Nat):(nv xs).take n=nv (xs.take n):=by simp[nv,List.map_take]
theorem zW (xs:NL)(n:Nat):(nv xs).drop n=nv (xs.drop n):=by simp[nv,List.map_drop]
theorem xE (xs:NL)(i y:Nat):(nv xs).set i (V.int (y:Int))=nv (xs.set i y):=by simp[nv,map_set]
theorem fE {xs:NL}{i:Nat}(h:i<xs.length):(nv xs)[i]? = some (V.int ((xs.getD i 0:Nat):Int)):=by
 simp[nv,h]
theorem Ci {xs:NL}{z:Int}(h0:0<=z)(h:z<(xs.length:Int)):atI (nv xs) z=some (V.int ((xs.getD z.toNat 0:Nat):Int)):=
 at_of (j:=z.toNat) (by lia) (fE (by lia))
theorem ca {xs:NL}{i:Nat}{x:V}(h:(nv xs)[i]? = some x):i<xs.length/\x=V.int ((xs.getD i 0:Nat):Int):=by
 have hl:i<xs.length:=by
  have:=(List.getElem?_eq_some_iff.mp h).1
  rwa [aw] at this
 rw[fE hl] at h
 exact ⟨hl,(Option.some.inj h).symm⟩
theorem uo (xs:NL)(lo hi:Option Int):Ej (nv xs) lo hi=nv ((xs.drop (HT.sIx xs.length 0 lo)).take (HT.sIx xs.length xs.length hi-HT.sIx xs.length 0 lo)):=by
 unfold Ej
 rw[aw,zW,zU]
def cut (xs:NL)(a b:Nat):NL:=(xs.drop a).take (b-a)
theorem ed {xs:NL}{a b:Int}(ha:0<=a)(hb:0<=b)(h:b<=xs.length):Ej (nv xs) (some a) (some b)=nv (cut xs a.toNat b.toNat):=by
 rw[uo]
 have e1:HT.sIx xs.length 0 (some a)=min a.toNat xs.length:=by
  show (if a<0 then _ else _)=_
  rw[if_neg (by lia)]
 have e2:HT.sIx xs.length xs.length (some b)=b.toNat:=by
  show (if b<0 then _ else _)=_
  rw[if_neg (by lia)]
  lia
 rw[e1,e2]
 unfold cut
 by_cases h2:a.toNat<=xs.length
 ·rw[min_eq_left h2]
 ·rw[Nat.min_eq_right (by lia),drop_eq_nil_of_le (le_refl _),drop_eq_nil_of_le (by lia)]
  simp
theorem bp {xs:NL}{a:Int}(ha:0<=a)(h:a<=xs.length):Ej (nv xs) (some a) none=nv (xs.drop a.toNat):=by
 rw[uo]
 have e1:HT.sIx xs.length 0 (some a)=a.toNat:=by
  show (if a<0 then _ else _)=_
  rw[if_neg (by lia)]
  lia
 rw[e1,HT.FT,take_of_length_le (by simp)]
theorem gE {xs:NL}{b:Int}(hb:0<=b)(h:b<=xs.length):Ej (nv xs) none (some b)=nv (xs.take b.toNat):=by
 rw[uo]
 have e2:HT.sIx xs.length xs.length (some b)=b.toNat:=by
  show (if b<0 then _ else _)=_
  rw[if_neg (by lia)]
  lia
 rw[e2,HT.FT]
 simp
def iv (zs:List Int):List V:=zs.map λ(z:Int)=>V.int z
theorem mH (zs:List Int):(iv zs).length=zs.length:=by simp[iv]
theorem Ab (zs:List Int)(z:Int):iv zs++[V.int z]=iv (zs++[z]):=by simp[iv]
theorem Br (zs ys:List Int):iv zs++iv ys=iv (zs++ys):=by simp[iv]
theorem wp (xs:NL):nv xs=iv (xs.map λ(n:Nat)=>(n:Int)):=by simp[iv,nv]
structure Loc (H0 H:Hp)(ls:List (Addr×HO)):Prop where
 same:Same H0 H
 nd:(ls.map (·.1)).Nodup
 at_:∀p∈ls,H0 p.1=none/\H p.1=some p.2
section
variable {H0 H H':Hp}{ls ms:List (Addr×HO)}{p:Addr}{o o':HO}
theorem Loc.start (H:Hp):Loc H H []:=⟨Same.refl H,nodup_nil,λ_ h=>by cases h⟩
theorem Loc.get (L:Loc H0 H ls)(j:Nat)(h:ls[j]? = some (p,o)):H p=some o:=(L.at_ _ (mem_of_getElem? h)).2
theorem Loc.fresh (L:Loc H0 H ls)(j:Nat)(h:ls[j]? = some (p,o)):H0 p=none:=(L.at_ _ (mem_of_getElem? h)).1
theorem Loc.calls (L:Loc H0 H ls)(M:Loc H H' ms):Loc H0 H' (ls++ms):=by
 refine ⟨L.same.trans M.same,?_,λq hq=>?_⟩
 ·rw[map_append,nodup_append]
  refine ⟨L.nd,M.nd,λa ha b hb e=>?_⟩
  subst e
  refine e_1 (mem_map.mp ha) λx=>a_2 λhx ez=>?_;subst ez
  refine e_1 (mem_map.mp hb) λy=>a_2 λhy e=>?_
  have h1:=(L.at_ x hx).2
  have h2:=(M.at_ y hy).1
  rw[e,h1] at h2
  cases h2
 ·rcases mem_append.mp hq with h|h
  ·exact ⟨(L.at_ q h).1,M.same _ _ (L.at_ q h).2⟩
  ·exact ⟨L.same.free (M.at_ q h).1,(M.at_ q h).2⟩
theorem Loc.one (hp:H p=none):Loc H (upd H p o) [(p,o)]:=by
 refine ⟨λb u e=>?_,by simp,λq hq=>?_⟩
 ·rw[Dz (DJ e hp)]
  exact e
 ·rw[mem_singleton] at hq
  subst hq
  exact ⟨hp,DS⟩
theorem Loc.new (L:Loc H0 H ls)(hp:H p=none):Loc H0 (upd H p o) (ls++[(p,o)]):=L.calls (Loc.one hp)
theorem Loc.put (L:Loc H0 H ls)(j:Nat)(h:ls[j]? = some (p,o)):Loc H0 (upd H p o') (ls.set j (p,o')):=by
 have hj:j<ls.length:=(List.getElem?_eq_some_iff.mp h).1
 have hm:(ls.set j (p,o')).map (·.1)=ls.map (·.1):=by
  rw[map_set]
  refine ext_getElem? λi=>?_
  by_cases e:j=i
  ·subst e
   rw[getElem?_set_self (by simpa using hj),getElem?_map,h]
   rfl
  ·rw[getElem?_set_ne e]
 refine ⟨λb u e=>?_,?_,λq hq=>?_⟩
 ·rw[Dz (DJ e (L.fresh j h))]
  exact L.same b u e
 ·rw[hm];exact L.nd
 ·obtain ⟨i,hi⟩:=getElem?_of_mem hq
  by_cases e:j=i
  ·subst e
   rw[getElem?_set_self hj] at hi
   cases hi
   exact ⟨L.fresh j h,DS⟩
  ·rw[getElem?_set_ne e] at hi
   have ne:q.1≠p:=λz=>e (Fm L.nd (by rw[getElem?_map,h];rfl) (by rw[getElem?_map,hi];simp[z]))
   exact ⟨(L.at_ q (mem_of_getElem? hi)).1,by rw[Dz ne];exact (L.at_ q (mem_of_getElem? hi)).2⟩
theorem Loc.sub (L:Loc H0 H ls)(h:ms.Sublist ls):Loc H0 H ms:=
 ⟨L.same,(h.map _).nodup L.nd,λq hq=>L.at_ q (h.mem hq)⟩
theorem Loc.pick (L:Loc H0 H ls)(j:Nat)(h:ls[j]? = some (p,o)):Loc H0 H [(p,o)]:=L.sub (List.singleton_sublist.mpr (mem_of_getElem? h))
theorem Loc.take (L:Loc H0 H ls)(n:Nat):Loc H0 H (ls.take n):=L.sub (take_sublist n ls)
theorem Loc.lst {K:Frag}{xs:List V}(L:Loc H0 H ls)(j:Nat)(h:ls[j]? = some (p,.lst xs)):SqL K H p xs:=SqL.of (L.get j h)
theorem Loc.arg {K:Frag}{xs:List V}(L:Loc H0 H ls)(h:SqL K H0 p xs):SqL K H p xs:=L.same.seq h
end
def zf (xs:List V)(H:Hp)(Q:VK):Prop:=xs.length<=sizeLine/\∀p,H p=none->Q (.ref p) (upd H p (.lst xs))
def wR (K:Frag):List V->Hp->VK->Prop:=λxs H Q=>∃p ys,xs=[.ref p]/\(SqL K H p ys\/SqT K H p ys)/\Q (.int ys.length) H
def sJ (K:Frag):List V->Hp->VK->Prop:=λxs H Q=>∃p ys,xs=[.ref p]/\(SqL K H p ys\/SqT K H p ys)/\∀l,H l=none->Q (.ref l) (upd H l (.lst ys))
theorem Cr {X:Cx}:EF X (.builtin "len") (wR X.K):=call_len_seq
theorem BB {X:Cx}:EF X (.type "list") (sJ X.K):=call_list_of
theorem hZ:bootBuiltins "list" = some (.type "list"):=by decide +kernel
theorem aK:bootBuiltins "len" = some (.builtin "len"):=by decide +kernel
theorem az {X:Cx}{K:Frag}(h:X.K=K):EF X (.builtin "len") (wR K):=h ▸ Cr
theorem gc {X:Cx}{K:Frag}(h:X.K=K):EF X (.type "list") (sJ K):=h ▸ BB
theorem fZ {X:Cx}{K:Frag}(h:X.K=K):IxR X (GO K):=h ▸ ix_tup
theorem ae {X:Cx}{K:Frag}(h:X.K=K):IxR X (Fw K):=h ▸ ix_list
theorem aj {X:Cx}{K:Frag}(h:X.K=K):SlR X (GL K):=h ▸ sl_list
theorem Bi {X:Cx}{K:Frag}(h:X.K=K):OpR X (compareOp .In) (rIn K false):=h ▸ op_in_seq
theorem rY {X:Cx}{K:Frag}(h:X.K=K):OpR X (compareOp .NotIn) (rIn K true):=h ▸ op_notIn_seq
section
variable {σ:L2.St}{H H0:Hp}{Q:VK}{v:V}{i:Nat}{r:R2}{ta tb:TE}{K:Frag}{ls:List (Addr×HO)}{p:Addr}{D:Ends}
theorem BX (h:σ[i]? = some (some v))(q:Q v H):FQ i σ H Q:=⟨v,h,q⟩
theorem CO (q:Q (.int ((0:Nat):Int)) H):tC (.int 0) σ H Q:=q
theorem CN {n:Nat}(q:Q (.int ((OfNat.ofNat n:Nat):Int)) H):tC (.int (OfNat.ofNat n:Int)) σ H Q:=q
theorem r_c (q:Q v H):tC v σ H Q:=q
theorem CD (q:ta σ H λx H1=>tb σ H1 λy H2=>r x y H2 Q):tOp r ta tb σ H Q:=q
theorem CA {u:V->Hp->VK->Prop}(q:ta σ H λx H1=>u x H1 Q):tUn u ta σ H Q:=q
theorem CJ {g:Int->V}{z:Int}(q:Q (g z) H):rU g (.int z) H Q:=⟨z,rfl,q⟩
theorem kj {g:Int->Int->V}{x y:Int}(q:Q (g x y) H):rI0 g (.int x) (.int y) H Q:=⟨x,y,rfl,rfl,q⟩
theorem lr {C:Int->Int->Prop}{g:Int->Int->V}{x y:Int}(c:C x y)(q:Q (g x y) H):rI C g (.int x) (.int y) H Q:=⟨x,y,rfl,rfl,c,q⟩
theorem BW {a b:Nat}(q:Q (.int ((a ^^^ b:Nat):Int)) H):rI0 (λi j=>.int (Builtin.bitXor i j)) (.int (a:Int)) (.int (b:Int)) H Q:=by
 refine kj ?_
 rw[Bits.bitXor_pp (Int.natCast_nonneg a) (Int.natCast_nonneg b),Int.toNat_natCast,Int.toNat_natCast]
 exact q
theorem Bb {a b:Nat}(q:Q (.int ((a+b:Nat):Int)) H):rI0 (λi j=>.int (i+j)) (.int (a:Int)) (.int (b:Int)) H Q:=by
 refine kj ?_
 rw[<- Int.natCast_add]
 exact q
theorem zM {a b:Nat}(h1:0<b)(h2:b<1073741824)(q:Q (.int ((a/b:Nat):Int)) H):rI He (λi j=>.int (i/j)) (.int (a:Int)) (.int (b:Int)) H Q:=by
 refine lr ⟨by lia,by lia⟩ ?_
 rw[<- Int.natCast_ediv]
 exact q
theorem A0 {a b:Nat}(h1:0<b)(q:Q (.int ((a%b:Nat):Int)) H):rI (λ_ j=>0<j) (λi j=>.int (i%j)) (.int (a:Int)) (.int (b:Int)) H Q:=by
 refine lr (by lia) ?_
 rw[<- Int.natCast_emod]
 exact q
theorem AZ {a b:Nat}(h1:a<2 ^ 64)(q:Q (.int ((a*b:Nat):Int)) H):rI CMul (λi j=>.int (i*j)) (.int (a:Int)) (.int (b:Int)) H Q:=by
 refine lr (.inl ⟨by lia,by lia⟩) ?_
 rw[<- Int.natCast_mul]
 exact q
theorem CF {a b:Nat}(q:Q (.bl (decide (a<b))) H):rI0 (λi j=>.bl (decide (i<j))) (.int (a:Int)) (.int (b:Int)) H Q:=by
 refine kj ?_
 rw[show (decide ((a:Int)<(b:Int)))=decide (a<b) by simp]
 exact q
theorem Cd {a b:Nat}(q:Q (.bl (decide (a=b))) H):rEq (.int (a:Int)) (.int (b:Int)) H Q:=by
 refine ⟨rfl,?_⟩
 rw[show decide (V.int (a:Int)=V.int (b:Int))=decide (a=b) by simp[Int.ofNat_inj]]
 exact q
theorem B4 {a b:Nat}(q:Q (.bl (!decide (a=b))) H):rNe (.int (a:Int)) (.int (b:Int)) H Q:=by
 refine ⟨rfl,?_⟩
 rw[show decide (V.int (a:Int)=V.int (b:Int))=decide (a=b) by simp[Int.ofNat_inj]]
 exact q
theorem AO {t:TE}{R:Bool->Hp->Prop}(q:t σ H λx H'=>∃k,x=.bl k/\R k H'):Gu t σ H R:=q
theorem CQ {R:Bool->Prop}{k:Bool}(q:R k):∃k',V.bl k=.bl k'/\R k':=⟨k,rfl,q⟩
theorem Cg {t u:TT}{R:Bool->Hp->Prop}(q:t σ H λc H1=>if c=true then u σ H1 R else R false H1):G8 t u σ H R:=q
theorem bZ {c A B:Prop}[Decidable c](h1:c->A)(h2:¬ c->B):if decide c=true then A else B:=by
 by_cases h:c
 ·rw[if_pos (decide_eq_true h)];exact h1 h
 ·rw[if_neg (by simpa using h)];exact h2 h
theorem gu {c A B:Prop}[Decidable c](h1:¬ c->A)(h2:c->B):if (!decide c)=true then A else B:=by
 by_cases h:c
 ·rw[if_neg (by simpa using h)];exact h2 h
 ·rw[if_pos (by simpa using h)];exact h1 h
theorem CI {xs:NL}{z:Int}(hs:SqL K H p (nv xs))(h0:0<=z)(h:z<(xs.length:Int))(q:Q (.int ((xs.getD z.toNat 0:Nat):Int)) H):Fw K (.ref p) (.int z) H Q:=
 i_4 p _ z _ ⟨rfl,rfl,hs,Ci h0 h,q⟩
theorem zk {xs:NL}{n:Nat}(hs:SqL K H p (nv xs))(h:n<xs.length)(q:Q (.int ((xs.getD n 0:Nat):Int)) H):Fw K (.ref p) (.int (n:Int)) H Q:=
 ⟨p,_,n,_,rfl,rfl,hs,at_of rfl (fE h),q⟩
theorem pF {xs:NL}{n:Nat}(hs:SqT K H p (nv xs))(h:n<xs.length)(q:Q (.int ((xs.getD n 0:Nat):Int)) H):GO K (.ref p) (.int (n:Int)) H Q:=
 ⟨p,_,n,_,rfl,rfl,hs,at_of rfl (fE h),q⟩
theorem BY {xs:List V}{R:Prop}(h:SqL K H p xs)(q:R):tyV K "list" (.ref p) H/\R:=⟨.inl ⟨rfl,_,h⟩,q⟩
theorem CP {T:String}{m:V->List V->Hp->VK->Prop}{t:TA}(q:ta σ H λx H1=>tyV K T x H1/\t σ H1 λxs H2=>m x xs H2 Q):tBM K T m ta t σ H Q:=q
theorem B3 {R:List V->Hp->Prop}(q:R [] H):Fv σ H R:=q
theorem A7 {t:TA}{R:List V->Hp->Prop}(q:ta σ H λx H1=>t σ H1 λxs H2=>R (x :: xs) H2):FL ta t σ H R:=q
theorem B5 {t:TA}(q:t σ H λxs H1=>zf xs H1 Q):G5 t σ H Q:=q
theorem aF {xs:List V}(L:Loc H0 H ls)(hz:xs.length<=sizeLine)(q:∀p H',Loc H0 H' (ls++[(p,.lst xs)])->Q (.ref p) H'):zf xs H Q:=
 ⟨hz,λp hp=>q p _ (L.new hp)⟩
theorem gB {xs:List V}{y:V}(L:Loc H0 H ls)(j:Nat)(hj:ls[j]? = some (p,.lst xs))(hz:xs.length<sizeLine)(q:∀H',Loc H0 H' (ls.set j (p,.lst (xs++[y])))->Q .non H'):Gh (.ref p) [y] H Q:=
 i_3 p xs y ⟨rfl,rfl,L.get j hj,hz,q _ (L.put j hj)⟩
theorem on {xs ys:List V}{b:Addr}(L:Loc H0 H ls)(j:Nat)(hj:ls[j]? = some (p,.lst xs))(hb:H b=some (.lst ys))(hz:xs.length+ys.length<=sizeLine)(q:∀H',Loc H0 H' (ls.set j (p,.lst (xs++ys)))->Q .non H'):Gg (.ref p) [.ref b] H Q:=
 i_4 p b xs ys ⟨rfl,rfl,L.get j hj,hb,hz,q _ (L.put j hj)⟩
theorem ap {xs:List V}{lo hi:Option Int}{a:Addr}(L:Loc H0 H ls)(h:SqL K H a xs)(q:∀p H',Loc H0 H' (ls++[(p,.lst (Ej xs lo hi))])->Q (.ref p) H'):GL K (.ref a) lo hi H Q:=
 i_2 a xs ⟨rfl,h,λp hp=>q p _ (L.new hp)⟩
theorem CC {r:V->Option Int->Option Int->Hp->VK->Prop}{te:TE}{tl th:TO}(q:te σ H λx H1=>tl σ H1 λl H2=>th σ H2 λu H3=>r x l u H3 Q):tSl r te tl th σ H Q:=q
theorem yD {R:Option Int->Hp->Prop}(q:R none H):Gf σ H R:=q
theorem AY {te:TE}{R:Option Int->Hp->Prop}(q:te σ H λx H1=>∃i,x=.int i/\R (some i) H1):GS te σ H R:=q
theorem zN {z:Int}{R:Int->Prop}(q:R z):∃i,V.int z=.int i/\R i:=⟨z,rfl,q⟩
theorem jM {xs:List V}{n:Nat}{y:V}{R:Hp->Prop}(L:Loc H0 H ls)(j:Nat)(hj:ls[j]? = some (p,.lst xs))(hn:n<xs.length)(q:∀H',Loc H0 H' (ls.set j (p,.lst (xs.set n y)))->R H'):Gy (.ref p) (.int (n:Int)) y H R:=
 ⟨p,xs,n,n,rfl,rfl,L.get j hj,by unfold ixN;rw[if_pos (by lia),if_pos (by lia)];simp,q _ (L.put j hj)⟩
theorem CM {t:TA}{f:List V->Hp->VK->Prop}(q:t σ H λvs H1=>f vs H1 Q):tCB f t σ H Q:=q
theorem B6 {xs:List V}(h:SqL K H p xs)(q:Q (.int (xs.length:Int)) H):wR K [.ref p] H Q:=
 i_2 p xs ⟨rfl,.inl h,q⟩
theorem iB {xs:List V}{a:Addr}(L:Loc H0 H ls)(h:SqL K H a xs)(q:∀p H',Loc H0 H' (ls++[(p,.lst xs)])->Q (.ref p) H'):sJ K [.ref a] H Q:=
 i_2 a xs ⟨rfl,.inl h,λp hp=>q p _ (L.new hp)⟩
theorem A9 {sp:Sp}{dvs:List V}{E:XK}{t:TA}(q:t σ H λvs H1=>sp (vs++dvs) H1 Q E):Gw sp dvs E t σ H Q:=q
theorem Cb {t:TT}(q:t σ H λc H1=>if c=true then ta σ H1 Q else tb σ H1 Q):tIf t ta tb σ H Q:=q
theorem BQ {t u:TS}(q:t { D with nx:=u D } σ H):G2 t u D σ H:=q
theorem BU {g:TG}(q:ta σ H λx H1=>g x σ H1 D.nx):Gx ta g D σ H:=q
theorem AJ {R:L2.St->Hp->Prop}(q:R (σ.set i (some v)) H):D4 i v σ H R:=q
theorem BR (q:ta σ H D.rt):G3 ta D σ H:=q
theorem AK (q:ta σ H λ_ H1=>D.nx σ H1):GU ta D σ H:=q
theorem Cy {c:TT}{t u:TS}(q:c σ H λb H1=>if b=true then t D σ H1 else u D σ H1):G6 c t u D σ H:=q
theorem AI (q:D.nx σ H):GT D σ H:=q
theorem BP {to ti:TE}{t:GE}{R:L2.St->Hp->Prop}(q:to σ H λo H1=>ti σ H1 λi H2=>t o i v H2 λH3=>R σ H3):Hc to ti t v σ H R:=q
theorem BS {wi:TI}{g:TG}{tb:TS}(q:wi σ H λJ H1=>∃W:Nat->Nat->L2.St->Hp->Prop,(∃m,W 0 m σ H1)/\∀i m σ H,W i m σ H->
 (J.stop i H/\D.nx σ H)\/(J.go i H/\∃N:L2.St->Hp->Prop,(∀σ' H',N σ' H'->∃m',m'<m/\W (i+1) m' σ' H')/\∀x H',J.yld i H x H'->g x σ H' λσ2 H2=>tb { D with nx:=N,ct:=N,bk:=D.nx } σ2 H2)):G7 wi g tb D σ H:=q
theorem AU {t:TA}{R:It->Hp->Prop}(q:t σ H λvs H1=>∃(i j c:Int) (n:Nat),vs=[.int i,.int j,.int c]/\RgC i j c n/\R (Itc i c n) H1):GW t σ H R:=q
theorem AV {t:TA}{R:It->Hp->Prop}(q:t σ H λvs H1=>∃i j:Int,vs=[.int i,.int j]/\(-(2 ^ 62)<=i/\i<2 ^ 62/\-(2 ^ 62)<=j/\j<2 ^ 62)/\R (Itr i (j-i).toNat) H1):GX t σ H R:=q
theorem AW {t:TA}{R:It->Hp->Prop}(q:t σ H λvs H1=>∃j:Int,vs=[.int j]/\-(2 ^ 62)<=j/\j<2 ^ 62/\R (Itr 0 j.toNat) H1):GY t σ H R:=q
theorem zK {tl:TE}{R:It->Hp->Prop}(q:tl σ H λx H1=>∃a,x=.ref a/\(∃xs,SqL K H1 a xs)/\R (Itl K a) H1):GZ K tl σ H R:=q
theorem yE {tl:TE}{R:It->Hp->Prop}(q:tl σ H λx H1=>∃a,x=.ref a/\(∃xs,SqT K H1 a xs)/\R (Itt K a) H1):Hb K tl σ H R:=q
theorem xu {xs:NL}(h:SqL K H p (nv xs))(q:Q (.int (xs.length:Int)) H):wR K [.ref p] H Q:=
 i_2 p (nv xs) ⟨rfl,.inl h,by rw[aw];exact q⟩
end
section
variable {g:TG}{tb:TS}{σ:L2.St}{H:Hp}{nx:L2.St->Hp->Prop}{rt:VK}{K:Frag}{a:Addr}{xs:List V}
theorem jS {lo c:Int}{n:Nat}(Pv:Nat->L2.St->Hp->Prop)(h0:Pv 0 σ H)
  (hs:∀i σ H,i<n->Pv i σ H->g (.int (lo+(i:Nat)*c)) σ H λσ2 H2=>tb { nx:=Pv (i+1),rt:=rt,bk:=nx,ct:=Pv (i+1) } σ2 H2) (hd:∀σ H,Pv n σ H->nx σ H) :
  ∃W:Nat->Nat->L2.St->Hp->Prop,(∃m,W 0 m σ H)/\∀i m σ H,W i m σ H->
   ((Itc lo c n).stop i H/\nx σ H)\/((Itc lo c n).go i H/\∃N:L2.St->Hp->Prop,(∀σ' H',N σ' H'->∃m',m'<m/\W (i+1) m' σ' H')/\∀x H',(Itc lo c n).yld i H x H'->g x σ H' λσ2 H2=>tb { nx:=N,rt:=rt,bk:=nx,ct:=N } σ2 H2):=
 for_rangeC (D:={ nx:=nx,rt:=rt }) Pv h0 hs hd
theorem cr {lo:Int}{n:Nat}(Pv:Nat->L2.St->Hp->Prop)(h0:Pv 0 σ H)
  (hs:∀i σ H,i<n->Pv i σ H->g (.int (lo+i)) σ H λσ2 H2=>tb { nx:=Pv (i+1),rt:=rt,bk:=nx,ct:=Pv (i+1) } σ2 H2) (hd:∀σ H,Pv n σ H->nx σ H) :
  ∃W:Nat->Nat->L2.St->Hp->Prop,(∃m,W 0 m σ H)/\∀i m σ H,W i m σ H->
   ((Itr lo n).stop i H/\nx σ H)\/((Itr lo n).go i H/\∃N:L2.St->Hp->Prop,(∀σ' H',N σ' H'->∃m',m'<m/\W (i+1) m' σ' H')/\∀x H',(Itr lo n).yld i H x H'->g x σ H' λσ2 H2=>tb { nx:=N,rt:=rt,bk:=nx,ct:=N } σ2 H2):=
 for_range (D:={ nx:=nx,rt:=rt }) Pv h0 hs hd
theorem ja (Pv:Nat->L2.St->Hp->Prop)(h0:Pv 0 σ H)(hl:∀i σ H,i<=xs.length->Pv i σ H->SqL K H a xs)
  (hs:∀i x σ H,xs[i]? = some x->Pv i σ H->g x σ H λσ2 H2=>tb { nx:=Pv (i+1),rt:=rt,bk:=nx,ct:=Pv (i+1) } σ2 H2) (hd:∀σ H,Pv xs.length σ H->nx σ H) :
  ∃W:Nat->Nat->L2.St->Hp->Prop,(∃m,W 0 m σ H)/\∀i m σ H,W i m σ H->
   ((Itl K a).stop i H/\nx σ H)\/((Itl K a).go i H/\∃N:L2.St->Hp->Prop,(∀σ' H',N σ' H'->∃m',m'<m/\W (i+1) m' σ' H')/\∀x H',(Itl K a).yld i H x H'->g x σ H' λσ2 H2=>tb { nx:=N,rt:=rt,bk:=nx,ct:=N } σ2 H2):=
 for_list (D:={ nx:=nx,rt:=rt }) Pv h0 hl hs hd
end
section
variable {c:TT}{tb:TS}{σ:L2.St}{H:Hp}{D:Ends}
def WGo (n t:Nat)(Pv:Nat->L2.St->Hp->Prop)(tb:TS)(nx:L2.St->Hp->Prop)(rt:VK)(σ:L2.St)(H1:Hp):Prop:=
 ∃N:L2.St->Hp->Prop,(∀σ' H',N σ' H'->∃m',m'<n-t/\∃t',t'<=n/\m'=n-t'/\Pv t' σ' H')/\tb { nx:=N,rt:=rt,bk:=nx,ct:=N } σ H1
theorem wgo {n t:Nat}{Pv:Nat->L2.St->Hp->Prop}{nx:L2.St->Hp->Prop}{rt:VK}(ht:t<n)(q:tb { nx:=Pv (t+1),rt:=rt,bk:=nx,ct:=Pv (t+1) } σ H):WGo n t Pv tb nx rt σ H:=
 ⟨Pv (t+1),λσ' H' p=>⟨n-(t+1),by lia,t+1,by lia,rfl,p⟩,q⟩
theorem Cv (Pv:Nat->L2.St->Hp->Prop)(n:Nat)(h0:Pv 0 σ H)
  (hs:∀t σ H,t<=n->Pv t σ H->c σ H λb H1=>if b=true then WGo n t Pv tb D.nx D.rt σ H1 else D.nx σ H1):GF c tb D σ H:=by
 refine ⟨λm σ H=>∃t,t<=n/\m=n-t/\Pv t σ H,⟨_,0,zero_le _,rfl,h0⟩,?_⟩
 refine λm σ H ez9=>e_1 ez9 λt=>a_3 λht ez p=>?_;clear ez9;subst ez
 exact hs t σ H ht p
end
section
variable {s:Nat}{te:TE}{σ:L2.St}{H H0 H1:Hp}{K:Frag}{a:Addr}{Q:VK}{ls:List (Addr×HO)}
def gH (J:It)(g:TG)(tt:TT)(te:TE)(vs:NL)(σ:L2.St)(H1:Hp)(Q:VK):Prop:=∀D,H1 D=none->∃W:Nat->Nat->Hp->Prop,(∃m,W 0 m (upd H1 D (.lst [])))/\∀i m H,W i m H->
 (J.stop i H/\Q (.ref D) H)\/(J.go i H/\∃Nx:Hp->Prop,(∀H',Nx H'->∃m',m'<m/\W (i+1) m' H')/\∀x H',J.yld i H x H'->g x (wipe σ vs) H' λσ2 H2=>wipe σ2 vs=wipe σ vs/\tt σ2 H2 λb H3=>
  if b=true then te σ2 H3 λy H4=>∃acc,H4 D=some (.lst acc)/\acc.length<sizeLine/\Nx (upd H4 D (.lst (acc++[y]))) else Nx H3)
theorem CH {wi:TI}{g:TG}{tt:TT}{vs:NL}(q:wi σ H λJ H1=>gH J g tt te vs σ H1 Q):tLc wi g tt te vs σ H Q:=q
theorem B9 {p:Addr}{xs:List V}{R:Addr->Prop}(h:SqL K H p xs)(q:R p):∃a,V.ref p=.ref a/\(∃xs,SqL K H a xs)/\R a:=⟨p,rfl,⟨_,h⟩,q⟩
theorem B8 {p:Addr}{xs:List V}{R:Addr->Prop}(h:SqT K H p xs)(q:R p):∃a,V.ref p=.ref a/\(∃xs,SqT K H a xs)/\R a:=⟨p,rfl,⟨_,h⟩,q⟩
theorem gK (σ:L2.St)(s:Nat)(v:Option V):wipe ((wipe σ [s]).set s v) [s]=wipe σ [s]:=by
 simp[wipe]
theorem rz {n:Nat}{f:Nat->Nat}{J:It}(L:Loc H0 H1 ls)(hz:n<=sizeLine)(xv:Nat->V)
  (hgo:∀(i:Nat)(H:Hp),i<n->Same H1 H->J.go i H) (hstop:∀(H:Hp),Same H1 H->J.stop n H) (hy:∀(i:Nat)(H H':Hp)(x:V),i<n->Same H1 H->J.yld i H x H'->H'=H/\x=xv i)
  (he:∀(i:Nat),i<n->∀(H:Hp)(D:Addr)(o:HO)(R:VK),Loc H0 H (ls++[(D,o)])->R (.int ((f i:Nat):Int)) H->te ((σ.set s none).set s (some (xv i))) H R)
  (q:∀D H',Loc H0 H' (ls++[(D,.lst (nv ((range n).map f)))])->Q (.ref D) H'):gH J (D4 s) Ew te [s] σ H1 Q:=by
 intro D hD
 have M0:Loc H1 (upd H1 D (.lst (nv ((range 0).map f)))) [(D,.lst (nv ((range 0).map f)))]:=Loc.one hD
 refine ⟨λi m H=>m=n-i/\i<=n/\Loc H1 H [(D,.lst (nv ((range i).map f)))],⟨n,by simp,zero_le _,M0⟩,?_⟩
 rintro i m H ⟨rfl,hi,M⟩
 by_cases hlt:i<n
 ·refine .inr ⟨hgo i H hlt M.same,λH'=>Loc H1 H' [(D,.lst (nv ((range (i+1)).map f)))],λH' M'=>⟨n-(i+1),by lia,rfl,hlt,M'⟩,λx H' y=>?_⟩
  obtain ⟨rfl,rfl⟩:=hy i H H' x hlt M.same y
  refine ⟨gK σ s _,?_⟩
  show te _ _ _
  refine he i hlt _ D _ _ (L.calls M) ⟨_,M.get 0 rfl,?_,?_⟩
  ·rw[aw,length_map,length_range];lia
  ·have:=M.put (o':=.lst (nv ((range i).map f)++[.int ((f i:Nat):Int)])) 0 rfl
   rw[de] at this
   rw[range_succ,map_append]
   rw[de]
   exact this
 ·have e:i=n:=by lia
  subst e
  exact .inl ⟨hstop H M.same,q D H (L.calls M)⟩
theorem rA {xs:NL}(L:Loc H0 H1 ls)(hs:SqL K H1 a (nv xs))(hz:xs.length<=sizeLine)(f:Nat->Nat)
  (he:∀(i:Nat),i<xs.length->∀(H:Hp)(D:Addr)(o:HO)(R:VK),Loc H0 H (ls++[(D,o)])->R (.int ((f i:Nat):Int)) H->te ((σ.set s none).set s (some (.int ((xs.getD i 0:Nat):Int)))) H R)
  (q:∀D H',Loc H0 H' (ls++[(D,.lst (nv ((range xs.length).map f)))])->Q (.ref D) H'):gH (Itl K a) (D4 s) Ew te [s] σ H1 Q:=
 rz L hz (λi=>.int ((xs.getD i 0:Nat):Int)) (λi H hi sm=>⟨_,_,sm.seq hs,fE hi⟩) (λH sm=>⟨_,sm.seq hs,by rw[aw];exact le_refl _⟩)
  (λi H H' x hi sm y=>⟨y.1,(ca (y.2 _ (sm.seq hs))).2⟩) he q
theorem SqT.mono {xs:List V}(h:SqT K H1 a xs)(e:Same H1 H):SqT K H a xs:=by
 rcases h with (h|⟨o,h⟩)|h
 ·exact .inl (.inl (e _ _ h))
 ·exact .inl (.inr ⟨o,e _ _ h⟩)
 ·exact .inr h
theorem Bp {xs:NL}(L:Loc H0 H1 ls)(hs:SqT K H1 a (nv xs))(hz:xs.length<=sizeLine)(f:Nat->Nat)
  (he:∀(i:Nat),i<xs.length->∀(H:Hp)(D:Addr)(o:HO)(R:VK),Loc H0 H (ls++[(D,o)])->R (.int ((f i:Nat):Int)) H->te ((σ.set s none).set s (some (.int ((xs.getD i 0:Nat):Int)))) H R)
  (q:∀D H',Loc H0 H' (ls++[(D,.lst (nv ((range xs.length).map f)))])->Q (.ref D) H'):gH (Itt K a) (D4 s) Ew te [s] σ H1 Q:=
 rz L hz (λi=>.int ((xs.getD i 0:Nat):Int)) (λi H hi sm=>⟨_,_,SqT.mono hs sm,fE hi⟩) (λH sm=>⟨_,SqT.mono hs sm,by rw[aw];exact le_refl _⟩)
  (λi H H' x hi sm y=>⟨y.1,(ca (y.2 _ (SqT.mono hs sm))).2⟩) he q
theorem yS {n:Nat}(L:Loc H0 H1 ls)(hz:n<=sizeLine)(f:Nat->Nat)
  (he:∀(i:Nat),i<n->∀(H:Hp)(D:Addr)(o:HO)(R:VK),Loc H0 H (ls++[(D,o)])->R (.int ((f i:Nat):Int)) H->te ((σ.set s none).set s (some (.int (i:Int)))) H R)
  (q:∀D H',Loc H0 H' (ls++[(D,.lst (nv ((range n).map f)))])->Q (.ref D) H'):gH (Itr 0 n) (D4 s) Ew te [s] σ H1 Q:=
 rz L hz (λi=>.int (i:Int)) (λi H hi _=>hi) (λH _=>le_refl n) (λi H H' x hi _ y=>⟨y.1,by rw[y.2,Int.zero_add]⟩) he q
theorem cA (xs:NL)(f:Nat->Nat):(range xs.length).map (λi=>f (xs.getD i 0))=xs.map f:=by
 refine ext_getElem (by simp) λi h1 h2=>?_
 have hi:i<xs.length:=by simpa using h1
 simp[hi]
end
def Cw (t:TS):TS:=λD σ H=>∃M:L2.St->Hp->Prop,t { D with nx:=M } σ H/\∀σ' H',M σ' H'->D.nx σ' H'
theorem pJ {X:Cx}{st:Stmt}{t:TS}(h:PS X st t):PS X st (Cw t):=by
 intro pins s σ H D I q
 obtain ⟨M,q,r⟩:=q
 refine thn (h pins s σ H { D with nx:=M } I q) λf s1 z=>?_
 cases f with
 |next=>obtain ⟨σ',H',I',z⟩:=z;exact ⟨σ',H',I',r _ _ z⟩
 |ret v=>exact z
 |brk=>exact z
 |cont=>exact z
def ee:List Value->NL->Bool
 |[],[]=>true
 |.int i _ :: vs,n :: ns=>(i == (n:Int)) && ee vs ns
 |_,_=>false
def eM (its:Array Value)(xs:NL):Bool:=ee its.toList xs && decide (its.size<=sizeLine)
theorem uM:∀{vs:List Value} {ns:NL},ee vs ns=true->Vals (nv ns) vs
 |[],[],_=>.nil
 |.int i t :: vs,n :: ns,h=>by
  have h:((i == (n:Int)) && ee vs ns)=true:=h
  rw[Bool.and_eq_true,beq_iff_eq] at h
  exact .cons ⟨t,by rw[h.1]⟩ (uM h.2)
 |[],_ :: _,h=>by cases h
 |.int _ _ :: _,[],h=>by cases h
 |.none :: _,[],h=>by cases h
 |.none :: _,_ :: _,h=>by cases h
 |.bool _ :: _,_,h=>by simp[ee] at h
 |.str _ _ :: _,_,h=>by simp[ee] at h
 |.ref _ :: _,_,h=>by simp[ee] at h
 |.type _ :: _,_,h=>by simp[ee] at h
 |.builtin _ :: _,_,h=>by simp[ee] at h
 |.float _ _ :: _,_,h=>by simp[ee] at h
 |.bytes _ _ :: _,_,h=>by simp[ee] at h
theorem iO {K:Frag}{a:Addr}{od:Option Addr}{its:Array Value}{n:Nat}{sl:Array (Option Value)}{xs:NL}(l:K.lookup a=some ⟨.type "tuple",od,.seq its n,sl⟩)(v:eM its xs=true)(H:Hp):SqT K H a (nv xs):=by
 unfold eM at v
 rw[Bool.and_eq_true] at v
 exact .inr ⟨_,its,n,l,rfl,rfl,of_decide_eq_true v.2,uM v.1⟩
structure Callee (P:Program)(w:World)(K:Frag)(mg:Str->Option Value)(base:Heap)(k:Nat)(x:Str)(ps:List Str)(sp:Sp):Prop where
 ex:∃f fd,FnOk P w K mg base CX0 k f fd ps sp/\mg x=some (.ref f)/\keepIn K (.ref f)=true/\Binds K fd ps []
theorem ab {X:Cx}{k:Nat}{x:Str}{ps:List Str}{sp:Sp}{p pos:Pos}{e:Expr}{es:List Expr}{t:TA}(C:Callee X.prog X.w X.K X.mg X.base k x ps sp)(hr:Room k X.A)(hg:Gl X x)(ha:PA X (e :: es) t)
  (hdb:(x == ("__debug__" : Str))=false:=by decide) (he:starEach (e :: es) X.env=(false,eval e X.env) :: starEach es X.env:=by rfl) (hpl:(backTo pos (starEach es X.env)).any (·.1)=false:=by rfl) :
  PE X (.Call (.Name x p) (e :: es) [] pos) (Gw sp [] E0 t):=by
 refine e_2 (C.ex) λf fd=>a_4 λF hm hk hb=>?_
 exact pe_call F hr hg hm hk hb .nil FM ha hdb he hpl
def pH (K:Frag):R2:=λx y H Q=>∃l b xs zs,x=.ref l/\y=.ref b/\SqL K H l xs/\SqL K H b zs/\xs.length+zs.length<=sizeLine/\∀p,H p=none->Q (.ref p) (upd H p (.lst (xs++zs)))
theorem zS {X:Cx}:OpR X (binaryOp .Add) (pH X.K):=by
 intro pins s σ H x y v u Q I rx ry h
 refine e_4 h λl b xs zs=>a_6 λez ey hH hB hz q=>?_;clear h;subst ez;subst ey
 cases rx
 cases ry
 obtain ⟨its,r,⟨⟨cls,dd,data,sl⟩,n,ho,hc,hdn,hd⟩,z⟩:=I.list hH
 obtain ⟨its2,r2,⟨⟨cls2,dd2,data2,sl2⟩,n2,ho2,hc2,hdn2,hd2⟩,z2⟩:=I.list hB
 simp only at hc hd hc2 hd2
 subst hc hd hc2 hd2
 have hl:=r.length
 have hl2:=r2.length
 have ea:its.toArray++its2.toArray=(its++its2).toArray:=by simp
 refine concat_meets ⟨_,ho,rfl⟩ ⟨_,ho2,rfl⟩ noFill_list_add seq_list_add PySem.F.slot_list_add PySem.F.entry_list_add (PySem.F.args_list_add_2 _ _) (list_addW l b its.toArray its2.toArray n n2 dd dd2 sl sl2 (by rw[size_toArray,size_toArray];lia)) ⟨ho,ho2,?_⟩
 rw[ea]
 exact ⟨.ref _,_,I.lnew (t':=s.toks) (r.append r2) (by rw[length_append];lia),rfl,q _ I.fresh⟩
theorem ao {X:Cx}{K:Frag}(h:X.K=K):OpR X (binaryOp .Add) (pH K):=h ▸ zS
theorem xG {X:Cx}{K:Frag}(h:X.K=K):MtR X "list.index" (FW K):=h ▸ mt_index
theorem mZ {X:Cx}{K:Frag}{es:List Expr}{k:Nat}{pos:Pos}{t:TGs}{n:Nat}(hK:X.K=K)(hc:X.calm=true)(h:PGs X es t)
  (hn:(assignEach es X.env).length=n:=by rfl) (hst:(assignEach es X.env).findIdx? (·.1)=none:=by rfl):PG X (.Tuple es k pos) (GD K n t):=hK ▸ pg_tup hc h hn hst
theorem mY {X:Cx}{K:Frag}{e e2:Expr}{ta:TA}{p pos tpos:Pos}{elts:List Expr}{kk:Nat}(hK:X.K=K)(hg:Gl X "zip")(hm:X.mg "zip" = none)(ha:PA X [e,e2] ta)
  (hs:starEach [e,e2] X.env=(false,eval e X.env) :: starEach [e2] X.env:=by rfl) (hpl:(backTo pos (starEach [e2] X.env)).any (·.1)=false:=by rfl) :
  PI X (.Tuple elts kk tpos) (.Call (.Name "zip" p) [e,e2] [] pos) (GP K ta):=hK ▸ pi_zip hg hm ha hs hpl
def Au (K:Frag)(ta:TE):TT:=λσ H Q=>ta σ H λx H'=>∃k,Ge K x H' k/\Q k H'
theorem rS {X:Cx}{K:Frag}{a:Expr}{ta:TE}(hK:X.K=K)(ha:PE X a ta)(he:∀whole,isTrue a X.env whole=(do let v <- whole;standAt a.pos;holding [v] (truthy v))):PT X a (Au K ta):=by
 subst hK
 exact pt_truth ha he
def BM:Int->Int->Prop:=λi j=>0<=j/\j<=1000000/\i.natAbs<2 ^ 4096
theorem Ai {a:Int}{n:Nat}(h:a.natAbs<2 ^ n):Builtin.Int.intBits a<=n:=by
 unfold Builtin.Int.intBits
 split
 ·exact zero_le _
 ·rename_i h0
  have h0:a.natAbs≠0:=by
   intro e
   exact h0 (by simpa using e)
  have:=(Nat.log2_lt h0).mpr h
  lia
theorem jw {X:Cx}:OpR X (binaryOp .LShift) (rI BM λi j=>.int (i*2 ^ j.toNat)):=opI λi j _ _ _ _ _ hc q=>by
 refine lshift_int hc.1 ?_ q
 have:=Ai hc.2.2
 have:=hc.2.1
 have:(2:Int) ^ 27=134217728:=by decide
 lia
structure Method (P:Program)(w:World)(K:Frag)(mg:Str->Option Value)(base:Heap)(k:Nat)(C:Addr)(m:Str)(ps:List Str)(sp:Sp):Prop where
 ex:∃f fd,FnOk P w K mg base CX0 k f fd ps sp/\Meth K C m f/\Binds K fd ps []
structure Maker (P:Program)(w:World)(K:Frag)(mg:Str->Option Value)(base:Heap)(k:Nat)(C:Addr)(ps:List Str)(sp:Sp):Prop where
 ex:∃f fd,FnOk P w K mg base CX0 k f fd ps sp/\Mk K C f/\Binds K fd ps []
section
variable {X:Cx}{k:Nat}{C:Addr}{m x:Str}{ps:List Str}{sp:Sp}{p pos apos:Pos}{o e:Expr}{es:List Expr}{ta:TE}{t:TA}
theorem ak {pl:Sem Bool}(c:Cls X.K C)(M:Method X.prog X.w X.K X.mg X.base k C m ps sp)(hr:Room k X.A)(he:PE X o ta)(ha:PA X (e :: es) t)
  (hst:starEach (e :: es) X.env=(false,eval e X.env) :: starEach es X.env:=by rfl) (hpl:(backTo pos (starEach es X.env)).any (·.1)=false:=by rfl)
  (ht:eval (.Call (.Attribute o m apos) (e :: es) [] pos) X.env=(do
   let ov <- eval o X.env
   standAt apos.atName
   let (f,first) <- holding [ov] (getMethod ov m pl)
   callWith pos f first (backTo pos (starEach (e :: es) X.env)) (backToKw pos (keywordEach [] X.env))):=by rfl) :
  PE X (.Call (.Attribute o m apos) (e :: es) [] pos) (E4 C m sp [] E0 ta t):=by
 refine e_2 (M.ex) λf fd=>a_3 λF hm hb=>?_
 exact pe_meth he c hm F hr hb .nil FM ha hst hpl ht
theorem iZ {pl:Sem Bool}(c:Cls X.K C)(M:Method X.prog X.w X.K X.mg X.base k C m ps sp)(hr:Room k X.A)(he:PE X o ta)
  (ht:eval (.Call (.Attribute o m apos) [] [] pos) X.env=(do
   let ov <- eval o X.env
   standAt apos.atName
   let (f,first) <- holding [ov] (getMethod ov m pl)
   callWith pos f first (backTo pos (starEach [] X.env)) (backToKw pos (keywordEach [] X.env))):=by rfl) :
  PE X (.Call (.Attribute o m apos) [] [] pos) (E4 C m sp [] E0 ta Fv):=by
 refine e_2 (M.ex) λf fd=>a_3 λF hm hb=>?_
 exact pe_meth0 he c hm F hr hb .nil FM ht
theorem pQ (hm:X.mg x=some (.ref C))(M:Maker X.prog X.w X.K X.mg X.base k C ps sp)(hr:Room (k+1) X.A)(hg:Gl X x)(ha:PA X (e :: es) t)
  (hdb:(x == ("__debug__" : Str))=false:=by decide) (he:starEach (e :: es) X.env=(false,eval e X.env) :: starEach es X.env:=by rfl) (hpl:(backTo pos (starEach es X.env)).any (·.1)=false:=by rfl) :
  PE X (.Call (.Name x p) (e :: es) [] pos) (Gv C sp [] E0 t):=by
 refine e_2 (M.ex) λf fd=>a_3 λF mk hb=>?_
 exact pe_make mk F hr hg hm hb .nil FM ha hdb he hpl
end
def zi (t:TE):TE:=λσ H Q=>∃M:VK,t σ H M/\∀v H',M v H'->Q v H'
theorem mt {X:Cx}{e:Expr}{t:TE}(h:PE X e t):PE X e (zi t):=by
 intro pins s σ H Q I q
 obtain ⟨M,q,r⟩:=q
 exact thn (h pins s σ H M I q) λu s1 ⟨v,H1,I1,rv,m⟩=>⟨v,H1,I1,rv,r v H1 m⟩
theorem mo {t:TE}{σ:L2.St}{H:Hp}{Q:VK}(M:VK)(h:t σ H M)(q:∀v H',M v H'->Q v H'):zi t σ H Q:=⟨M,h,q⟩
def er (H:Hp)(x:Addr):Hp:=λb=>if b=x then none else H b
section
variable {H0 H H':Hp}{ls ms:List (Addr×HO)}{x p:Addr}{o o':HO}{K:Frag}{xs:List V}
theorem cD {b:Addr}(h:b≠x):er H x b=H b:=if_neg h
theorem vM:er H x x=none:=if_pos rfl
theorem gb {b:Addr}(h:er H x b=some o):b≠x/\H b=some o:=by
 by_cases e:b=x
 ·rw[e,vM] at h;cases h
 ·rw[cD e] at h;exact ⟨e,h⟩
theorem Loc.self (h:H x=some o):Loc (er H x) H [(x,o)]:=by
 refine ⟨λb u e=>(gb e).2,by simp,λq hq=>?_⟩
 rw[mem_singleton] at hq
 subst hq
 exact ⟨vM,h⟩
theorem Loc.meth (L:Loc H0 H ls)(j:Nat)(hj:ls[j]? = some (x,o))(M:Loc (er H x) H' ((x,o') :: ms)):Loc H0 H' (ls.set j (x,o')++ms):=by
 have hx0:H0 x=none:=L.fresh j hj
 have hlt:j<ls.length:=(List.getElem?_eq_some_iff.mp hj).1
 have sm:Same H0 H':=λb u e=>M.same b u (by rw[cD (DJ e hx0)];exact L.same b u e)
 have hm:(ls.set j (x,o')).map (·.1)=ls.map (·.1):=by
  rw[map_set]
  refine ext_getElem? λi=>?_
  by_cases e:j=i
  ·subst e
   rw[getElem?_set_self (by simpa using hlt),getElem?_map,hj]
   rfl
  ·rw[getElem?_set_ne e]
 have nd:=M.nd
 rw[map_cons,nodup_cons] at nd
 have msn:∀q∈ms,q.1≠x/\H q.1=none:=λq hq=>by
  have h1:q.1≠x:=λe=>nd.1 (mem_map.mpr ⟨q,hq,e⟩)
  have h2:=(M.at_ q (mem_cons_of_mem _ hq)).1
  rw[cD h1] at h2
  exact ⟨h1,h2⟩
 refine ⟨sm,?_,λq hq=>?_⟩
 ·rw[map_append,nodup_append]
  refine ⟨by rw[hm];exact L.nd,nd.2,λa ha b hb e=>?_⟩
  subst e
  rw[hm] at ha
  refine e_1 (mem_map.mp ha) λy=>a_2 λhy ez=>?_;subst ez
  refine e_1 (mem_map.mp hb) λz=>a_2 λhz e=>?_
  have h1:=(L.at_ y hy).2
  have h2:=(msn z hz).2
  rw[e,h1] at h2
  cases h2
 ·rcases mem_append.mp hq with h|h
  ·obtain ⟨i,hi⟩:=getElem?_of_mem h
   by_cases e:j=i
   ·subst e
    rw[getElem?_set_self hlt] at hi
    cases hi
    exact ⟨hx0,(M.at_ _ mem_cons_self).2⟩
   ·rw[getElem?_set_ne e] at hi
    have ne:q.1≠x:=λz=>e (Fm L.nd (by rw[getElem?_map,hj];rfl) (by rw[getElem?_map,hi];simp[z]))
    have hq:=L.at_ q (mem_of_getElem? hi)
    exact ⟨hq.1,M.same _ _ (by rw[cD ne];exact hq.2)⟩
  ·exact ⟨L.same.free (msn q h).2,(M.at_ q (mem_cons_of_mem _ h)).2⟩
theorem Loc.nil (L:Loc H0 H ls):Loc H0 H []:=L.sub (List.nil_sublist _)
theorem Loc.then (L:Loc H0 H ls)(M:Loc H H' ms):Loc H0 H' ms:=L.nil.calls M
theorem ju (h:Same H H')(x:Addr):Same (er H x) (er H' x):=λb u e=>by
 obtain ⟨h1,h2⟩:=gb e
 rw[cD h1]
 exact h b u h2
theorem io (h:Same (er H x) H'):Same (er H x) (er H' x):=λb u e=>by
 obtain ⟨h1,h2⟩:=gb e
 rw[cD h1]
 exact h b u e
theorem iT (x:Addr):Same (er H x) H:=λb u e=>(gb e).2
theorem Ae (h:SqL K H p xs)(ne:p≠x):SqL K (er H x) p xs:=by
 rcases h with (h|⟨u,h⟩)|h
 ·exact .inl (.inl (by rw[cD ne];exact h))
 ·exact .inl (.inr ⟨u,by rw[cD ne];exact h⟩)
 ·exact .inr h
theorem Loc.lstE (L:Loc H0 H ls)(i j:Nat)(hx:ls[i]? = some (x,o))(hp:ls[j]? = some (p,.lst xs))(hij:i≠j:=by decide):SqL K (er H x) p xs:=by
 refine SqL.of ?_
 have ne:p≠x:=λz=>hij (Fm L.nd (by rw[getElem?_map,hx];rfl) (by rw[getElem?_map,hp];simp[z]))
 rw[cD ne]
 exact L.get j hp
theorem Loc.argE (L:Loc H0 H ls)(i:Nat)(hx:ls[i]? = some (x,o))(h:SqL K H0 p xs):SqL K (er H x) p xs:=by
 refine Same.seq (λb u e=>?_) h
 rw[cD (DJ e (L.fresh i hx))]
 exact L.same b u e
end
open Classical in
noncomputable def res (H:Hp) (av:Addr->Prop):Hp:=λb=>if av b then none else H b
section
variable {H0 H H':Hp}{ls ms:List (Addr×HO)}{x p:Addr}{o:HO}{K:Frag}{xs:List V}{av:Addr->Prop}
theorem fB {b:Addr}(h:res H av b=some o):¬ av b/\H b=some o:=by
 unfold res at h
 split at h
 ·cases h
 ·exact ⟨by assumption,h⟩
theorem d9 {b:Addr}(h:¬ av b):res H av b=H b:=if_neg h
theorem res_up:Same (res H av) H:=λb u e=>(fB e).2
theorem aH (H:Hp):res H (λ_=>False)=H:=funext λb=>if_neg id
theorem fC (h:Same (er H x) H'):Same (er (res H av) x) (er (res H' av) x):=λb u e=>by
 obtain ⟨h1,h2⟩:=gb e
 obtain ⟨h3,h4⟩:=fB h2
 rw[cD h1,d9 h3]
 exact h b u (by rw[cD h1];exact h4)
theorem oh (h:Same H H'):Same (res H av) (res H' av):=λb u e=>by
 obtain ⟨h3,h4⟩:=fB e
 rw[d9 h3]
 exact h b u h4
theorem h7 (hav:∀b,av b->H b≠none)(L:Loc (er H x) H' ((x,o) :: ms)):∀b,av b->H' b≠none:=λb hb=>by
 by_cases e:b=x
 ·rw[e,(L.at_ _ mem_cons_self).2];exact λz=>by cases z
 ·intro z
  cases q:H b with
  |none=>exact hav b hb q
  |some u=>
   have:=L.same b u (by rw[cD e];exact q)
   rw[z] at this
   cases this
theorem BD (hav:∀b,av b->H b≠none)(h:Same H H'):∀b,av b->H' b≠none:=λb hb z=>hav b hb (h.free z)
theorem Loc.lstR (L:Loc (er H x) H' ls)(hav:∀b,av b->H b≠none)(i j:Nat)(hx:ls[i]? = some (x,o))(hp:ls[j]? = some (p,.lst xs))(hij:i≠j:=by decide):SqL K (er (res H' av) x) p xs:=by
 have ne:p≠x:=λz=>hij (Fm L.nd (by rw[getElem?_map,hx];rfl) (by rw[getElem?_map,hp];simp[z]))
 refine SqL.of ?_
 rw[cD ne,d9 λz=>hav p z (by have:=L.fresh j hp;rwa [cD ne] at this)]
 exact L.get j hp
theorem AA (h:SqL K H' p xs)(hn:H p=none)(hav:∀b,av b->H b≠none)(hx:p≠x):SqL K (er (res H' av) x) p xs:=by
 have e:er (res H' av) x p=H' p:=by rw[cD hx,d9 λz=>hav p z hn]
 rcases h with (h|⟨u,h⟩)|h
 ·exact .inl (.inl (by rw[e];exact h))
 ·exact .inl (.inr ⟨u,by rw[e];exact h⟩)
 ·exact .inr h
end
section
variable {σ:L2.St}{H H0:Hp}{Q:VK}{v:V}{i:Nat}{r:R2}{ta tb:TE}{K:Frag}{ls:List (Addr×HO)}{p:Addr}{D:Ends}{R:Bool->Hp->Prop}
def BL (K:Frag)(f:Str)(x:V)(H:Hp)(Q:VK):Prop:=∃a C dx fs v,x=.ref a/\H a=some (.ins C dx fs)/\Cls K C/\NoAttr K C f/\fs.lookup f=some v/\Q v H
theorem Cc {f:Str}(q:ta σ H λx H1=>BL K f x H1 Q):GK K ta f σ H Q:=q
theorem A6 {f:Str}{a C dx:Addr}{fs:List (Str×V)}(h:H a=some (.ins C dx fs))(c:Cls K C)(n:NoAttr K C f)(l:fs.lookup f=some v)(q:Q v H):BL K f (.ref a) H Q:=⟨a,C,dx,fs,v,rfl,h,c,n,l,q⟩
def ye (K:Frag)(f:Str)(y x:V)(H:Hp)(R:Hp->Prop):Prop:=∃a C dx fs,x=.ref a/\H a=some (.ins C dx fs)/\Cls K C/\NoAttr K C f/\fs.length<1000/\R (upd H a (.ins C dx (DU f y fs)))
theorem BT {f:Str}{tv:TE}(q:tv σ H λy H1=>ta σ H1 λx H2=>ye K f y x H2 λH3=>D.nx σ H3):Ha K ta tv f D σ H:=q
theorem bY {f:Str}{a C dx:Addr}{fs:List (Str×V)}{y:V}{R:Hp->Prop}(L:Loc H0 H ls)(j:Nat)(hj:ls[j]? = some (a,.ins C dx fs))(c:Cls K C)(n:NoAttr K C f)(hl:fs.length<1000)
  (q:∀H',Loc H0 H' (ls.set j (a,.ins C dx (DU f y fs)))->R H'):ye K f y (.ref a) H R:=⟨a,C,dx,fs,rfl,L.get j hj,c,n,hl,q _ (L.put j hj)⟩
def AtM (C:Addr)(m:Str)(x:V)(H:Hp)(R:Prop):Prop:=∃a dx fs,x=.ref a/\H a=some (.ins C dx fs)/\fs.lookup m=none/\R
theorem A1 {C:Addr}{m:Str}{sp:Sp}{dvs:List V}{E:XK}{t:TA}(q:ta σ H λx H1=>AtM C m x H1 (t σ H1 λvs H2=>sp (x :: (vs++dvs)) H2 Q E)):E4 C m sp dvs E ta t σ H Q:=q
theorem Cf {C:Addr}{m:Str}{a dx:Addr}{fs:List (Str×V)}{R:Prop}(h:H a=some (.ins C dx fs))(l:fs.lookup m=none)(q:R):AtM C m (.ref a) H R:=⟨a,dx,fs,rfl,h,l,q⟩
theorem qQ {xs:List V}{a:Addr}(L:Loc H0 H ls)(h:SqT K H a xs)(q:∀p H',Loc H0 H' (ls++[(p,.lst xs)])->Q (.ref p) H'):sJ K [.ref a] H Q:=
 i_2 a xs ⟨rfl,.inr h,λp hp=>q p _ (L.new hp)⟩
def BK (C:Addr)(sp:Sp)(vs:List V)(H:Hp)(Q:VK)(E:XK):Prop:=∀x dx,H x=none->H dx=none->dx≠x->sp (.ref x :: vs) (upd (upd H dx (.own x)) x (.ins C dx [])) (λv H2=>v=.non/\Q (.ref x) H2) E
theorem A3 {C:Addr}{sp:Sp}{dvs:List V}{E:XK}{t:TA}(q:t σ H λvs H1=>BK C sp (vs++dvs) H1 Q E):Gv C sp dvs E t σ H Q:=q
theorem mn {C:Addr}{sp:Sp}{vs:List V}{E:XK}(L:Loc H0 H ls)(q:∀x dx H',Loc H0 H' (ls++[(dx,.own x),(x,.ins C dx [])])->sp (.ref x :: vs) H' (λv H2=>v=.non/\Q (.ref x) H2) E):BK C sp vs H Q E:=λx dx hx hdx ne=>by
 have L1:=L.new (o:=.own x) hdx
 have hx1:upd H dx (.own x) x=none:=by rw[Dz (λz=>ne z.symm)];exact hx
 have L2:=L1.new (o:=.ins C dx []) hx1
 rw[append_assoc] at L2
 exact q x dx _ L2
theorem pG {xs ys:List V}{a b:Addr}(L:Loc H0 H ls)(ha:SqL K H a xs)(hb:SqL K H b ys)(hz:xs.length+ys.length<=sizeLine)(q:∀p H',Loc H0 H' (ls++[(p,.lst (xs++ys))])->Q (.ref p) H'):pH K (.ref a) (.ref b) H Q:=
 i_4 a b xs ys ⟨rfl,rfl,ha,hb,hz,λp hp=>q p _ (L.new hp)⟩
theorem A8 {xs ys:List V}{a b:Addr}(L:Loc H0 H ls)(ha:H a=some (.lst xs))(hb:H b=some (.lst ys))(hz:xs.length+ys.length<=sizeLine)(q:∀p H',Loc H0 H' (ls++[(p,.lst (xs++ys))])->Q (.ref p) H'):pH K (.ref a) (.ref b) H Q:=
 pG L (SqL.of ha) (SqL.of hb) hz q
theorem ay {xs ys:NL}{a b:Addr}(L:Loc H0 H ls)(ha:SqL K H a (nv xs))(hb:SqL K H b (nv ys))(hz:xs.length+ys.length<=sizeLine)(q:∀p H',Loc H0 H' (ls++[(p,.lst (nv (xs++ys)))])->Q (.ref p) H'):pH K (.ref a) (.ref b) H Q:=
 pG L ha hb (by rw[aw,aw];exact hz) (by rw[<- qb];exact q)
theorem uJ (n:Nat)(x:V):(replicate n [x]).flatten=replicate n x:=by
 induction n with
 |zero=>rfl
 |succ n ih=>rw[replicate_succ,flatten_cons,ih,replicate_succ];rfl
theorem Bm (n x:Nat):nv (replicate n x)=replicate n (V.int (x:Int)):=by simp[nv]
theorem jn {x n:Nat}{a:Addr}(L:Loc H0 H ls)(j:Nat)(hj:ls[j]? = some (a,.lst (nv [x])))(hn:n<=sizeLine)(q:∀p H',Loc H0 H' (ls++[(p,.lst (nv (replicate n x)))])->Q (.ref p) H'):GM (.ref a) (.int (n:Int)) H Q:=by
 have:=sizeLine_eq
 refine ⟨a,n,nv [x],rfl,rfl,L.get j hj,by lia,by lia,by rw[aw];simp;lia,λp hp=>q p _ ?_⟩
 have e:(replicate (n:Int).toNat (nv [x])).flatten=nv (replicate n x):=by rw[Int.toNat_natCast,Bm];exact uJ n _
 rw[e]
 exact L.new hp
theorem AS {a b:Nat}(q:Q (.int ((a/2 ^ b:Nat):Int)) H):rI (λ_ j=>0<=j) (λi j=>.int (i/2 ^ j.toNat)) (.int (a:Int)) (.int (b:Int)) H Q:=by
 refine lr (by lia) ?_
 rw[Int.toNat_natCast,show ((a:Int)/2 ^ b)=((a/2 ^ b:Nat):Int) by rw[Int.natCast_ediv,Int.natCast_pow];rfl]
 exact q
theorem AT {a b:Nat}(h1:b<=1000000)(h2:a<2 ^ 4096)(q:Q (.int ((a*2 ^ b:Nat):Int)) H):rI BM (λi j=>.int (i*2 ^ j.toNat)) (.int (a:Int)) (.int (b:Int)) H Q:=by
 refine lr ⟨by lia,by lia,by rw[Int.natAbs_natCast];exact h2⟩ ?_
 rw[Int.toNat_natCast,Bits.natCast_mul_pow]
 exact q
theorem Ba {a b:Nat}(q:Q (.int ((a &&& b:Nat):Int)) H):rI0 (λi j=>.int (Builtin.bitAnd i j)) (.int (a:Int)) (.int (b:Int)) H Q:=by
 refine kj ?_
 rw[bitAnd_pp (Int.natCast_nonneg a) (Int.natCast_nonneg b),Int.toNat_natCast,Int.toNat_natCast]
 exact q
theorem B2 {a b:Nat}(q:Q (.int ((a ||| b:Nat):Int)) H):rI0 (λi j=>.int (Builtin.bitOr i j)) (.int (a:Int)) (.int (b:Int)) H Q:=by
 refine kj ?_
 rw[Bits.bitOr_pp (Int.natCast_nonneg a) (Int.natCast_nonneg b),Int.toNat_natCast,Int.toNat_natCast]
 exact q
theorem xt {a b:Nat}(h:b<=a)(q:Q (.int ((a-b:Nat):Int)) H):rI0 (λi j=>.int (i-j)) (.int (a:Int)) (.int (b:Int)) H Q:=by
 refine kj ?_
 rw[show (a:Int)-(b:Int)=((a-b:Nat):Int) by lia]
 exact q
theorem CG {a b:Nat}(q:Q (.bl (decide (a<=b))) H):rI0 (λi j=>.bl (decide (i<=j))) (.int (a:Int)) (.int (b:Int)) H Q:=by
 refine kj ?_
 rw[show (decide ((a:Int)<=(b:Int)))=decide (a<=b) by simp]
 exact q
theorem CK {a b:Nat}(q:Q (.bl (decide (b<a))) H):rI0 (λi j=>.bl (decide (j<i))) (.int (a:Int)) (.int (b:Int)) H Q:=by
 refine kj ?_
 rw[show (decide ((b:Int)<(a:Int)))=decide (b<a) by simp]
 exact q
theorem CL {a b:Nat}(q:Q (.bl (decide (b<=a))) H):rI0 (λi j=>.bl (decide (j<=i))) (.int (a:Int)) (.int (b:Int)) H Q:=by
 refine kj ?_
 rw[show (decide ((b:Int)<=(a:Int)))=decide (b<=a) by simp]
 exact q
theorem CB {t:TE}(q:t σ H λx H1=>∃c,x=.bl c/\R c H1):tB t σ H R:=q
theorem AR {t:TT}(q:t σ H λc H1=>R (!c) H1):G4 t σ H R:=q
theorem B0 {t u:TT}(q:t σ H λc H1=>if c=true then R true H1 else u σ H1 R):tOr t u σ H R:=q
theorem zO {r r':R2}{tc:TE}(q:ta σ H λx H1=>tb σ H1 λy H2=>r x y H2 λz H3=>∃k,z=.bl k/\(if k=true then tc σ H3 λw' H4=>r' y w' H4 Q else Q (.bl false) H3)):FR r r' ta tb tc σ H Q:=q
theorem AQ (q:ta σ H λx H'=>∃k,Ge K x H' k/\R k H'):Au K ta σ H R:=q
theorem AN {a:Nat}{R:Bool->Prop}(q:R (!decide (a=0))):∃k,Ge K (.int (a:Int)) H k/\R k:=by
 refine ⟨_,rfl,?_⟩
 have e:((a:Int) != 0) = !decide (a=0):=by
  by_cases h:a=0
  ·subst h;rfl
  ·rw[show decide (a=0)=false by simpa using h]
   simp only[bne,Bool.not_false,Bool.not_eq_true',beq_eq_false_iff_ne,ne_eq]
   lia
 rw[e]
 exact q
theorem AM {T:Addr}{x y:V}{n:Nat}{t:TGs}{R:L2.St->Hp->Prop}(h:SqT K H T [x,y])(hn:2=n)(q:t [x,y] σ H R):GD K n t (.ref T) σ H R:=⟨T,_,rfl,h,hn,q⟩
theorem zL {g:TG}{u:TGs}{v:V}{vs:List V}{R:L2.St->Hp->Prop}(q:g v σ H λσ' H'=>u vs σ' H' R):FO g u (v :: vs) σ H R:=⟨v,vs,rfl,q⟩
theorem A5 {R:L2.St->Hp->Prop}(q:R σ H):GQ [] σ H R:=⟨rfl,q⟩
theorem A4 {t:TA}{R:It->Hp->Prop}(q:t σ H λvs H1=>∃a b xs ys,vs=[.ref a,.ref b]/\SqL K H1 a xs/\SqL K H1 b ys/\R (Itz K a b) H1):GP K t σ H R:=q
theorem zH {a b:Addr}{xs ys:List V}{R:Addr->Addr->Prop}(h1:SqL K H a xs)(h2:SqL K H b ys)(q:R a b):∃a' b' xs ys,[V.ref a,V.ref b]=[.ref a',.ref b']/\SqL K H a' xs/\SqL K H b' ys/\R a' b':=⟨a,b,xs,ys,rfl,h1,h2,q⟩
theorem fX {as:List Addr}{n:Nat}{a:Addr}(hs:SqL K H p (as.map V.ref))(h:as[n]? = some a)(q:Q (.ref a) H):Fw K (.ref p) (.int (n:Int)) H Q:=
 ⟨p,_,n,_,rfl,rfl,hs,at_of rfl (by rw[getElem?_map,h];rfl),q⟩
end
section
variable {g:TG}{tb:TS}{σ:L2.St}{H:Hp}{nx:L2.St->Hp->Prop}{rt:VK}{K:Frag}{a b:Addr}{xs ys:List V}
theorem Cp (n:Nat)(hn:n=min xs.length ys.length)(Pv:Nat->L2.St->Hp->Prop)(h0:Pv 0 σ H)(hl:∀i σ H,i<=n->Pv i σ H->SqL K H a xs/\SqL K H b ys)
  (hs:∀i x y σ H T,i<n->xs[i]? = some x->ys[i]? = some y->Pv i σ H->H T=none->g (.ref T) σ (upd H T (.tup [x,y])) λσ2 H2=>tb { nx:=Pv (i+1),rt:=rt,bk:=nx,ct:=Pv (i+1) } σ2 H2) (hd:∀σ H,Pv n σ H->nx σ H) :
  ∃W:Nat->Nat->L2.St->Hp->Prop,(∃m,W 0 m σ H)/\∀i m σ H,W i m σ H->
   ((Itz K a b).stop i H/\nx σ H)\/((Itz K a b).go i H/\∃N:L2.St->Hp->Prop,(∀σ' H',N σ' H'->∃m',m'<m/\W (i+1) m' σ' H')/\∀x H',(Itz K a b).yld i H x H'->g x σ H' λσ2 H2=>tb { nx:=N,rt:=rt,bk:=nx,ct:=N } σ2 H2):=by
 refine ⟨λi m σ H=>m=n-i/\i<=n/\Pv i σ H,⟨n,by simp,zero_le _,h0⟩,?_⟩
 rintro i m σ H ⟨rfl,hi,p⟩
 obtain ⟨h1,h2⟩:=hl i σ H hi p
 by_cases hlt:i<n
 ·have hx:xs[i]? = some xs[i]:=getElem?_eq_getElem (by lia)
  have hy:ys[i]? = some ys[i]:=getElem?_eq_getElem (by lia)
  refine .inr ⟨⟨xs,ys,_,_,h1,h2,hx,hy⟩,Pv (i+1),λσ' H' p'=>⟨n-(i+1),by lia,rfl,hlt,p'⟩,?_⟩
  refine λv H' ez9=>e_3 ez9 λT x y=>a_5 λez hT ey q1 q2=>?_;clear ez9;subst ez;subst ey
  exact hs i x y σ H T hlt (q1 _ h1) (q2 _ h2) p hT
 ·have e:i=n:=by lia
  subst e
  refine .inl ⟨⟨xs,ys,h1,h2,by lia⟩,hd σ H p⟩
end
section
variable {s s2:Nat}{te:TE}{σ:L2.St}{H H0 H1:Hp}{K:Frag}{a b:Addr}{Q:VK}{ls:List (Addr×HO)}
theorem yh (σ:L2.St)(s t:Nat)(u v:Option V):wipe (((wipe σ [s,t]).set s u).set t v) [s,t]=wipe σ [s,t]:=by
 refine ext_getElem? λi=>?_
 simp only[wipe,foldl_cons,foldl_nil,List.getElem?_set,length_set]
 by_cases h1:t=i
 ·subst h1
  by_cases h3:t<σ.length
  ·simp[h3]
  ·simp[h3]
 ·by_cases h2:s=i
  ·subst h2
   simp[h1]
  ·simp[h1,h2]
theorem yR {xs ys:NL}(L:Loc H0 H1 ls)(ha:SqL K H1 a (nv xs))(hb:SqL K H1 b (nv ys))(hxy:xs.length=ys.length)(hz:xs.length<=sizeLine)(f:Nat->Nat)
  (he:∀(i:Nat),i<xs.length->∀(H:Hp)(D T:Addr)(o o':HO)(R:VK),Loc H0 H (ls++[(D,o),(T,o')])->R (.int ((f i:Nat):Int)) H->te (((wipe σ [s,s2]).set s (some (.int ((xs.getD i 0:Nat):Int)))).set s2 (some (.int ((ys.getD i 0:Nat):Int)))) H R)
  (q:∀D H',Loc H0 H' (ls++[(D,.lst (nv ((range xs.length).map f)))])->Q (.ref D) H'):gH (Itz K a b) (GD K 2 (FO (D4 s) (FO (D4 s2) GQ))) Ew te [s,s2] σ H1 Q:=by
 intro D hD
 have M0:Loc H1 (upd H1 D (.lst (nv ((range 0).map f)))) [(D,.lst (nv ((range 0).map f)))]:=Loc.one hD
 refine ⟨λi m H=>m=xs.length-i/\i<=xs.length/\Loc H1 H [(D,.lst (nv ((range i).map f)))],⟨xs.length,by simp,zero_le _,M0⟩,?_⟩
 rintro i m H ⟨rfl,hi,M⟩
 have h1:=M.arg ha
 have h2:=M.arg hb
 by_cases hlt:i<xs.length
 ·refine .inr ⟨⟨_,_,_,_,h1,h2,fE hlt,fE (by lia)⟩,λH'=>Loc H1 H' [(D,.lst (nv ((range (i+1)).map f)))],λH' M'=>⟨xs.length-(i+1),by lia,rfl,hlt,M'⟩,?_⟩
  refine λv H' ez9=>e_3 ez9 λT x y=>a_5 λez hT ey q1 q2=>?_;clear ez9;subst ez;subst ey
  obtain ⟨_,rfl⟩:=ca (q1 _ h1)
  obtain ⟨_,rfl⟩:=ca (q2 _ h2)
  have M1:=M.new (o:=.tup [V.int ((xs.getD i 0:Nat):Int),V.int ((ys.getD i 0:Nat):Int)]) hT
  refine i_2 T _ ⟨rfl,.inl (.inl (M1.get 1 rfl)),rfl,_,_,rfl,_,_,rfl,rfl,?_⟩
  refine ⟨yh σ s s2 _ _,?_⟩
  show te _ _ _
  refine he i hlt _ D T _ _ _ (L.calls M1) ⟨_,M1.get 0 rfl,?_,?_⟩
  ·rw[aw,length_map,length_range];lia
  ·have:=M1.put (o':=.lst (nv ((range i).map f)++[.int ((f i:Nat):Int)])) 0 rfl
   rw[de] at this
   rw[range_succ,map_append]
   rw[de]
   exact this.take 1
 ·have e:i=xs.length:=by lia
  subst e
  exact .inl ⟨⟨_,_,h1,h2,.inl (by rw[aw];exact le_refl _)⟩,q D H (L.calls M)⟩
theorem uB {n:Nat}{f:Nat->Nat}{J:It}(L:Loc H0 H1 ls)(hz:n<=sizeLine)(xv:Nat->V)
  (hgo:∀(i:Nat)(H:Hp),i<n->Same H1 H->J.go i H) (hstop:∀(H:Hp),Same H1 H->J.stop n H) (hy:∀(i:Nat)(H H':Hp)(x:V),i<n->Same H1 H->J.yld i H x H'->H'=H/\x=xv i)
  (he:∀(i:Nat),i<n->∀(H:Hp)(R:VK),Same H1 H->(∀H' ms,Loc H H' ms->R (.int ((f i:Nat):Int)) H')->te ((σ.set s none).set s (some (xv i))) H R)
  (q:∀D H',Loc H0 H' (ls++[(D,.lst (nv ((range n).map f)))])->Q (.ref D) H'):gH J (D4 s) Ew te [s] σ H1 Q:=by
 intro D hD
 have M0:Loc H1 (upd H1 D (.lst (nv ((range 0).map f)))) [(D,.lst (nv ((range 0).map f)))]:=Loc.one hD
 refine ⟨λi m H=>m=n-i/\i<=n/\Loc H1 H [(D,.lst (nv ((range i).map f)))],⟨n,by simp,zero_le _,M0⟩,?_⟩
 rintro i m H ⟨rfl,hi,M⟩
 by_cases hlt:i<n
 ·refine .inr ⟨hgo i H hlt M.same,λH'=>Loc H1 H' [(D,.lst (nv ((range (i+1)).map f)))],λH' M'=>⟨n-(i+1),by lia,rfl,hlt,M'⟩,λx H' y=>?_⟩
  obtain ⟨rfl,rfl⟩:=hy i H H' x hlt M.same y
  refine ⟨gK σ s _,?_⟩
  show te _ _ _
  refine he i hlt _ _ M.same λH2 ms M2=>?_
  have M3:=M.calls M2
  refine ⟨_,M3.get 0 rfl,?_,?_⟩
  ·rw[aw,length_map,length_range];lia
  ·have:=M3.put (o':=.lst (nv ((range i).map f)++[.int ((f i:Nat):Int)])) 0 rfl
   rw[de] at this
   rw[range_succ,map_append]
   rw[de]
   exact this.take 1
 ·have e:i=n:=by lia
  subst e
  exact .inl ⟨hstop H M.same,q D H (L.calls M)⟩
theorem zp {n:Nat}{lo:Int}(L:Loc H0 H1 ls)(hz:n<=sizeLine)(f:Nat->Nat)
  (he:∀(i:Nat),i<n->∀(H:Hp)(R:VK),Same H1 H->(∀H' ms,Loc H H' ms->R (.int ((f i:Nat):Int)) H')->te ((σ.set s none).set s (some (.int (lo+i)))) H R)
  (q:∀D H',Loc H0 H' (ls++[(D,.lst (nv ((range n).map f)))])->Q (.ref D) H'):gH (Itr lo n) (D4 s) Ew te [s] σ H1 Q:=
 uB L hz (λi=>.int (lo+i)) (λi H hi _=>hi) (λH _=>le_refl n) (λi H H' x hi _ y=>⟨y.1,y.2⟩) he q
theorem xK {n:Nat}{lo c:Int}(L:Loc H0 H1 ls)(hz:n<=sizeLine)(f:Nat->Nat)
  (he:∀(i:Nat),i<n->∀(H:Hp)(R:VK),Same H1 H->(∀H' ms,Loc H H' ms->R (.int ((f i:Nat):Int)) H')->te ((σ.set s none).set s (some (.int (lo+(i:Nat)*c)))) H R)
  (q:∀D H',Loc H0 H' (ls++[(D,.lst (nv ((range n).map f)))])->Q (.ref D) H'):gH (Itc lo c n) (D4 s) Ew te [s] σ H1 Q:=
 uB L hz (λi=>.int (lo+(i:Nat)*c)) (λi H hi _=>hi) (λH _=>le_refl n) (λi H H' x hi _ y=>⟨y.1,y.2⟩) he q
def dC (as:List Addr)(rows:LL):List (Addr×HO):=List.zipWith (λa r=>(a,HO.lst (nv r))) as rows
def ah (as:List Addr):List V:=as.map V.ref
theorem aJ (as:List Addr):(ah as).length=as.length:=by simp[ah]
theorem oj (as bs:List Addr):ah as++ah bs=ah (as++bs):=by simp[ah]
theorem rQ {as:List Addr}{rows:LL}{a:Addr}{r:NL}(h:as.length=rows.length):dC (as++[a]) (rows++[r])=dC as rows++[(a,.lst (nv r))]:=by
 unfold dC
 rw[List.zipWith_append h]
 rfl
structure Rows (K:Frag)(H:Hp)(p:Addr)(as:List Addr)(rows:LL):Prop where
 lst:SqL K H p (ah as)
 len:as.length=rows.length
 at_:∀(i:Nat)(a:Addr)(r:NL),as[i]? = some a->rows[i]? = some r->H a=some (.lst (nv r))
theorem Rows.mono {H H':Hp}{p:Addr}{as:List Addr}{rows:LL}(h:Rows K H p as rows)(e:Same H H'):Rows K H' p as rows:=
 ⟨e.seq h.lst,h.len,λi a r h1 h2=>e _ _ (h.at_ i a r h1 h2)⟩
theorem iz {as:List Addr}{rows:LL}{i:Nat}{a:Addr}{r:NL}(h1:as[i]? = some a)(h2:rows[i]? = some r):(dC as rows)[i]? = some (a,.lst (nv r)):=by
 unfold dC
 rw[getElem?_zipWith,h1,h2]
theorem Loc.rows {H0 H:Hp}{ls:List (Addr×HO)}{p:Addr}{as:List Addr}{rows:LL}(L:Loc H0 H ls)(h:SqL K H p (ah as))(hl:as.length=rows.length)(hm:∀x∈dC as rows,x∈ls):Rows K H p as rows:=
 ⟨h,hl,λi a r h1 h2=>(L.at_ (a,.lst (nv r)) (hm _ (mem_of_getElem? (iz h1 h2)))).2⟩
theorem vG {n:Nat}{row:Nat->NL}{J:It}(L:Loc H0 H1 ls)(hz:n<=sizeLine)(xv:Nat->V)
  (hgo:∀(i:Nat)(H:Hp),i<n->Same H1 H->J.go i H) (hstop:∀(H:Hp),Same H1 H->J.stop n H) (hy:∀(i:Nat)(H H':Hp)(x:V),i<n->Same H1 H->J.yld i H x H'->H'=H/\x=xv i)
  (he:∀(i:Nat),i<n->∀(H:Hp)(R:VK),Same H1 H->(∀p H',Loc H H' [(p,.lst (nv (row i)))]->R (.ref p) H')->te ((σ.set s none).set s (some (xv i))) H R)
  (q:∀D as H',as.length=n->Loc H0 H' (ls++(D,.lst (ah as)) :: dC as ((range n).map row))->Q (.ref D) H'):gH J (D4 s) Ew te [s] σ H1 Q:=by
 intro D hD
 refine ⟨λi m H=>m=n-i/\i<=n/\∃as,as.length=i/\Loc H1 H ((D,.lst (ah as)) :: dC as ((range i).map row)),⟨n,by simp,zero_le _,[],rfl,Loc.one hD⟩,?_⟩
 rintro i m H ⟨rfl,hi,as,hl,M⟩
 by_cases hlt:i<n
 ·refine .inr ⟨hgo i H hlt M.same,λH'=>∃as,as.length=i+1/\Loc H1 H' ((D,.lst (ah as)) :: dC as ((range (i+1)).map row)),λH' M'=>⟨n-(i+1),by lia,rfl,hlt,M'⟩,λx H' y=>?_⟩
  obtain ⟨rfl,rfl⟩:=hy i H H' x hlt M.same y
  refine ⟨gK σ s _,?_⟩
  show te _ _ _
  refine he i hlt _ _ M.same λp H2 M2=>?_
  have M3:=M.calls M2
  refine ⟨_,M3.get 0 rfl,by rw[aJ];lia,as++[p],by simp[hl],?_⟩
  have:=M3.put (o':=.lst (ah as++[V.ref p])) 0 rfl
  rw[range_succ,map_append,map_cons,map_nil,rQ (by simp[hl]),show ah (as++[p])=ah as++[V.ref p] by simp[ah]]
  exact this
 ·have e:i=n:=by lia
  subst e
  exact .inl ⟨hstop H M.same,q D as H hl (L.calls M)⟩
theorem lC {n:Nat}{lo:Int}(L:Loc H0 H1 ls)(hz:n<=sizeLine)(row:Nat->NL)
  (he:∀(i:Nat),i<n->∀(H:Hp)(R:VK),Same H1 H->(∀p H',Loc H H' [(p,.lst (nv (row i)))]->R (.ref p) H')->te ((σ.set s none).set s (some (.int (lo+i)))) H R)
  (q:∀D as H',as.length=n->Loc H0 H' (ls++(D,.lst (ah as)) :: dC as ((range n).map row))->Q (.ref D) H'):gH (Itr lo n) (D4 s) Ew te [s] σ H1 Q:=
 vG L hz (λi=>.int (lo+i)) (λi H hi _=>hi) (λH _=>le_refl n) (λi H H' x hi _ y=>⟨y.1,y.2⟩) he q
theorem zJ {xs:NL}{n:Nat}(j:Nat)(hs:SqL K H a (nv xs))(hj:j<xs.length)(e:xs.getD j 0=n)(hno:∀m,m<j->xs.getD m 0≠n)(q:Q (.int (j:Int)) H):FW K (.ref a) [.int (n:Int)] H Q:=by
 refine i_5 a (nv xs) (.int (n:Int)) j _ ⟨rfl,rfl,hs,rfl,?_,fE hj,?_,?_,q⟩
 ·rw[all_eq_true]
  intro x hx
  unfold nv at hx
  refine e_1 (mem_map.mp hx) λy=>a_2 λ_ ez=>?_;subst ez
  rfl
 ·rw[e]
  show ((n:Int) == (n:Int))=true
  exact beq_self_eq_true _
 ·intro m z hm hz
  obtain ⟨_,rfl⟩:=ca hz
  show (((xs.getD m 0:Nat):Int) == (n:Int))=false
  rw[beq_eq_false_iff_ne]
  intro e
  exact hno m hm (Int.ofNat.inj e)
end
theorem m3 {X:Cx}{K:Frag}(h:X.K=K)(hu:X.A.units+64<cLine):OpR X (compareOp .Eq) (Gz K):=h ▸ op_eqD hu
theorem kM {X:Cx}{K:Frag}(h:X.K=K)(hu:X.A.units+64<cLine):OpR X (compareOp .NotEq) (GN K):=h ▸ op_neD hu
def dts (xs:NL):List PyData:=xs.map λ(n:Nat)=>PyData.int (n:Int)
theorem lG {K:Frag}{H:Hp}:∀xs:NL,DpAll K H (nv xs) (dts xs)
 |[]=>.nil
 |x :: xs=>.cons (.int _) (lG xs)
theorem vQ:∀xs:NL,PyData.canLayAll0 (dts xs)=true
 |[]=>by simp[dts,PyData.canLayAll0]
 |x :: xs=>by
  show PyData.canLayAll0 (PyData.int (x:Int) :: dts xs)=true
  rw[PyData.canLayAll0,vQ xs]
  simp[PyData.canLay0]
theorem sf:∀xs:NL,PyData.depthAll (dts xs)<=1
 |[]=>by simp[dts,PyData.depthAll]
 |x :: xs=>by
  have:=sf xs
  show PyData.depthAll (PyData.int (x:Int) :: dts xs)<=1
  simp only[PyData.depthAll,PyData.depth]
  lia
theorem g8 (xs:NL):SeqAt.shaped (.list (dts xs))=true:=by
 unfold SeqAt.shaped
 rw[Bool.and_eq_true]
 refine ⟨by rw[PyData.canLay0];exact vQ xs,?_⟩
 have:=sf xs
 rw[decide_eq_true_iff]
 simp only[PyData.depth]
 lia
theorem m9:∀xs ys:NL,PyData.eqvAll (dts xs) (dts ys)=decide (xs=ys)
 |[],[]=>by simp[dts,PyData.eqvAll]
 |[],y :: ys=>by simp[dts,PyData.eqvAll]
 |x :: xs,[]=>by simp[dts,PyData.eqvAll]
 |x :: xs,y :: ys=>by
  show PyData.eqvAll (PyData.int (x:Int) :: dts xs) (PyData.int (y:Int) :: dts ys)=_
  rw[PyData.eqvAll,m9 xs ys]
  simp only[PyData.eqv]
  rw[Bool.eq_iff_iff]
  simp[Int.ofNat_inj]
section
variable {H:Hp}{Q:VK}{K:Frag}{a b:Addr}{xs ys:NL}
theorem pE (h1:SqL K H a (nv xs))(h2:SqL K H b (nv ys))(q:Q (.bl (!decide (xs=ys))) H):GN K (.ref a) (.ref b) H Q:=by
 refine ⟨_,_,.lst h1 (lG xs),.lst h2 (lG ys),g8 xs,g8 ys,?_⟩
 rw[show PyData.eqv (.list (dts xs)) (.list (dts ys))=PyData.eqvAll (dts xs) (dts ys) by simp only[PyData.eqv],m9]
 exact q
theorem wg (h1:SqL K H a (nv xs))(h2:SqL K H b (nv ys))(q:Q (.bl (decide (xs=ys))) H):Gz K (.ref a) (.ref b) H Q:=by
 refine ⟨_,_,.lst h1 (lG xs),.lst h2 (lG ys),g8 xs,g8 ys,?_⟩
 rw[show PyData.eqv (.list (dts xs)) (.list (dts ys))=PyData.eqvAll (dts xs) (dts ys) by simp only[PyData.eqv],m9]
 exact q
end
section
variable {s:Nat}{te:TE}{tt:TT}{σ:L2.St}{H H0 H1:Hp}{K:Frag}{a:Addr}{Q:VK}{ls:List (Addr×HO)}
theorem Bq {n:Nat}{f:Nat->Nat}{cnd:Nat->Bool}{J:It}(L:Loc H0 H1 ls)(hz:n<=sizeLine)(xv:Nat->V)
  (hgo:∀(i:Nat)(H:Hp),i<n->Same H1 H->J.go i H) (hstop:∀(H:Hp),Same H1 H->J.stop n H) (hy:∀(i:Nat)(H H':Hp)(x:V),i<n->Same H1 H->J.yld i H x H'->H'=H/\x=xv i)
  (ht:∀(i:Nat),i<n->∀(H:Hp)(D:Addr)(o:HO)(R:Bool->Hp->Prop),Loc H0 H (ls++[(D,o)])->R (cnd i) H->tt ((σ.set s none).set s (some (xv i))) H R)
  (he:∀(i:Nat),i<n->∀(H:Hp)(D:Addr)(o:HO)(R:VK),Loc H0 H (ls++[(D,o)])->R (.int ((f i:Nat):Int)) H->te ((σ.set s none).set s (some (xv i))) H R)
  (q:∀D H',Loc H0 H' (ls++[(D,.lst (nv (((range n).filter cnd).map f)))])->Q (.ref D) H'):gH J (D4 s) tt te [s] σ H1 Q:=by
 intro D hD
 have M0:Loc H1 (upd H1 D (.lst (nv (((range 0).filter cnd).map f)))) [(D,.lst (nv (((range 0).filter cnd).map f)))]:=Loc.one hD
 refine ⟨λi m H=>m=n-i/\i<=n/\Loc H1 H [(D,.lst (nv (((range i).filter cnd).map f)))],⟨n,by simp,zero_le _,M0⟩,?_⟩
 rintro i m H ⟨rfl,hi,M⟩
 by_cases hlt:i<n
 ·refine .inr ⟨hgo i H hlt M.same,λH'=>Loc H1 H' [(D,.lst (nv (((range (i+1)).filter cnd).map f)))],λH' M'=>⟨n-(i+1),by lia,rfl,hlt,M'⟩,λx H' y=>?_⟩
  obtain ⟨rfl,rfl⟩:=hy i H H' x hlt M.same y
  refine ⟨gK σ s _,?_⟩
  refine ht i hlt _ D _ _ (L.calls M) ?_
  rw[range_succ,filter_append,map_append]
  cases e:cnd i with
  |true=>
   refine ite_tt ?_
   refine he i hlt _ D _ _ (L.calls M) ⟨_,M.get 0 rfl,?_,?_⟩
   ·rw[aw,length_map]
    have:=length_filter_le cnd (range i)
    rw[length_range] at this
    lia
   ·have:=M.put (o':=.lst (nv (((range i).filter cnd).map f)++[.int ((f i:Nat):Int)])) 0 rfl
    rw[de] at this
    rw[de]
    rw[show [i].filter cnd=[i] by simp[e]]
    exact this
  |false=>
   refine ite_ff ?_
   rw[show [i].filter cnd=[] by simp[e],map_nil,append_nil]
   exact M
 ·have e:i=n:=by lia
  subst e
  exact .inl ⟨hstop H M.same,q D H (L.calls M)⟩
theorem Cl {xs:NL}(L:Loc H0 H1 ls)(hs:SqL K H1 a (nv xs))(hz:xs.length<=sizeLine)(cnd:Nat->Bool)
  (ht:∀(i:Nat),i<xs.length->∀(H:Hp)(D:Addr)(o:HO)(R:Bool->Hp->Prop),Loc H0 H (ls++[(D,o)])->R (cnd (xs.getD i 0)) H->tt ((σ.set s none).set s (some (.int ((xs.getD i 0:Nat):Int)))) H R)
  (he:∀(i:Nat),i<xs.length->∀(H:Hp)(D:Addr)(o:HO)(R:VK),Loc H0 H (ls++[(D,o)])->R (.int ((xs.getD i 0:Nat):Int)) H->te ((σ.set s none).set s (some (.int ((xs.getD i 0:Nat):Int)))) H R)
  (q:∀D H',Loc H0 H' (ls++[(D,.lst (nv (xs.filter cnd)))])->Q (.ref D) H'):gH (Itl K a) (D4 s) tt te [s] σ H1 Q:=by
 refine Bq (f:=λi=>xs.getD i 0) (cnd:=λi=>cnd (xs.getD i 0)) L hz (λi=>.int ((xs.getD i 0:Nat):Int)) (λi H hi sm=>⟨_,_,sm.seq hs,fE hi⟩) (λH sm=>⟨_,sm.seq hs,by rw[aw];exact le_refl _⟩)
  (λi H H' x hi sm y=>⟨y.1,(ca (y.2 _ (sm.seq hs))).2⟩) ht he ?_
 have e:((range xs.length).filter λi=>cnd (xs.getD i 0)).map (λi=>xs.getD i 0)=xs.filter cnd:=by
  have h1:=cA xs id
  have h2:xs.filter cnd=((range xs.length).map λi=>xs.getD i 0).filter cnd:=by rw[show ((range xs.length).map λi=>xs.getD i 0)=xs by simpa using h1]
  rw[h2,List.filter_map]
  rfl
 rw[e]
 exact q
theorem Ck {n:Nat}(L:Loc H0 H1 ls)(hz:n<=sizeLine)(cnd:Nat->Bool)
  (ht:∀(i:Nat),i<n->∀(H:Hp)(D:Addr)(o:HO)(R:Bool->Hp->Prop),Loc H0 H (ls++[(D,o)])->R (cnd i) H->tt ((σ.set s none).set s (some (.int (i:Int)))) H R)
  (he:∀(i:Nat),i<n->∀(H:Hp)(D:Addr)(o:HO)(R:VK),Loc H0 H (ls++[(D,o)])->R (.int (i:Int)) H->te ((σ.set s none).set s (some (.int (i:Int)))) H R)
  (q:∀D H',Loc H0 H' (ls++[(D,.lst (nv ((range n).filter cnd)))])->Q (.ref D) H'):gH (Itr 0 n) (D4 s) tt te [s] σ H1 Q:=by
 refine Bq (f:=λi=>i) (cnd:=cnd) L hz (λi=>.int (i:Int)) (λi H hi _=>hi) (λH _=>le_refl n) (λi H H' x hi _ y=>⟨y.1,by rw[y.2,Int.zero_add]⟩) ht he ?_
 rw[show (((range n).filter cnd).map λi=>i)=(range n).filter cnd by simp]
 exact q
theorem Ca {xs:NL}{z:Nat}(hs:SqL K H a (nv xs))(q:Q (.bl (decide (z∈xs))) H):rIn K false (.int (z:Int)) (.ref a) H Q:=by
 refine i_2 a _ ⟨rfl,.inl hs,rfl,?_,?_⟩
 ·rw[all_eq_true]
  intro x hx
  unfold nv at hx
  refine e_1 (mem_map.mp hx) λy=>a_2 λ_ ez=>?_;subst ez
  rfl
 ·have e:inV (.int (z:Int)) (nv xs)=decide (z∈xs):=by
   clear q hs
   induction xs with
   |nil=>rfl
   |cons y ys ih=>
    show (((y:Int) == (z:Int)) || inV (.int (z:Int)) (nv ys))=_
    rw[ih]
    by_cases h:z=y
    ·subst h;simp
    ·have:((y:Int) == (z:Int))=false:=by rw[beq_eq_false_iff_ne];lia
     rw[this]
     simp[h]
  rw[e]
  exact q
theorem zI {xs:NL}{p:Addr}{x:Nat}{rest:NL}(L:Loc H0 H ls)(j:Nat)(hj:ls[j]? = some (p,.lst (nv xs)))(hx:xs=x :: rest)(q:∀H',Loc H0 H' (ls.set j (p,.lst (nv rest)))->Q (.int (x:Int)) H'):GG (.ref p) [.int ((0:Nat):Int)] H Q:=by
 subst hx
 exact i_5 p _ _ 0 (.int (x:Int)) ⟨rfl,rfl,L.get j hj,by decide,by decide,by simp[seqIndex?,aw],rfl,q _ (L.put j hj)⟩
end
section
variable {H0 H H':Hp}{ls ls' ms ns:List (Addr×HO)}{K:Frag}{p:Addr}{xs:List V}
theorem tY {Q:VK}{z:Nat}{ns:NL}(hs:SqT K H p (nv ns))(q:Q (.bl (!decide (z∈ns))) H):rIn K true (.int (z:Int)) (.ref p) H Q:=by
 refine i_2 p _ ⟨rfl,.inr hs,rfl,?_,?_⟩
 ·rw[all_eq_true]
  intro x hx
  unfold nv at hx
  refine e_1 (mem_map.mp hx) λy=>a_2 λ_ ez=>?_;subst ez
  rfl
 ·have e:inV (.int (z:Int)) (nv ns)=decide (z∈ns):=by
   clear q hs
   induction ns with
   |nil=>rfl
   |cons y ys ih=>
    show (((y:Int) == (z:Int)) || inV (.int (z:Int)) (nv ys))=_
    rw[ih]
    by_cases h:z=y
    ·subst h;simp
    ·have:((y:Int) == (z:Int))=false:=by rw[beq_eq_false_iff_ne];lia
     rw[this]
     simp[h]
  show Q (.bl (!inV (.int (z:Int)) (nv ns))) H
  rw[e]
  exact q
end
theorem Loc.order3 {H0 H:Hp}{ls:List (Addr×HO)}{a b c:Addr}{x y z:HO}(L:Loc H0 H ls)(i j k:Nat)(hi:ls[i]? = some (a,x))(hj:ls[j]? = some (b,y))(hk:ls[k]? = some (c,z))(h1:i≠j)(h2:i≠k)(h3:j≠k):Loc H0 H [(a,x),(b,y),(c,z)]:=by
 have ne:∀{i j:Nat} {a b:Addr} {x y:HO},ls[i]? = some (a,x)->ls[j]? = some (b,y)->i≠j->a≠b:=λ{i j a b x y} hi hj h e=>by
  subst e
  exact h (Fm L.nd (by rw[getElem?_map,hi];rfl) (by rw[getElem?_map,hj];rfl))
 refine ⟨L.same,?_,λq hq=>?_⟩
 ·simp only[map_cons,map_nil,nodup_cons,mem_cons,not_mem_nil,or_false,not_or]
  exact ⟨⟨ne hi hj h1,ne hi hk h2⟩,ne hj hk h3,λh=>h,nodup_nil⟩
 ·rcases mem_cons.mp hq with rfl|hq
  ·exact L.at_ _ (mem_of_getElem? hi)
  ·rcases mem_cons.mp hq with rfl|hq
   ·exact L.at_ _ (mem_of_getElem? hj)
   ·rw[mem_singleton.mp hq]
    exact L.at_ _ (mem_of_getElem? hk)
theorem zR {X:Cx}{K:Frag}{e:Expr}{f:Str}{ta:TE}{pos:Pos}(h:X.K=K)(he:PE X e ta)(hb:attributeBase e f X.env (eval e X.env)=eval e X.env):PE X (.Attribute e f pos) (GK K ta f):=h ▸ Ds he hb
def wj (K:Frag):V->List V->Hp->VK->Prop:=λx xs H Q=>∃(a:Addr)(ys:List V)(y:V)(d:PyData)(ds:List PyData),x=.ref a/\xs=[y]/\SqL K H a ys/\DpAll K H ys ds/\Dp K H y d/\SeqAt.shaped d=true/\(∀e∈ds,SeqAt.shaped e=true)/\Q (.int ((ds.countP λe=>PyData.eqv e d:Nat):Int)) H
open Classical in
noncomputable def kW (h:Heap) (d:PyData) (u:Value):Bool:=if z:∃e,SeqAt.shaped e=true/\∃as,Reads h u e as then PyData.eqv z.choose d else false
theorem uS {h:Heap}{d e:PyData}{u:Value}{as:List Addr}(se:SeqAt.shaped e=true)(r:Reads h u e as):kW h d u=PyData.eqv e d:=by
 have z:∃e,SeqAt.shaped e=true/\∃as,Reads h u e as:=⟨e,se,as,r⟩
 unfold kW
 rw[dif_pos z]
 obtain ⟨s1,bs,r1⟩:=z.choose_spec
 rw[SeqAt.Reads.unique _ _ _ _ _ (SeqAt.canLay_of_shaped s1) r1 r]
theorem yd {A:Around}{s:Shared}{d:PyData}{x:Value}{bs:List Addr}(hu:A.units+64<cLine)(sd:SeqAt.shaped d=true)(rx:Reads s.heap x d bs):∀(ds:List PyData)(its:List Value)(as:List Addr),ReadsAll s.heap its ds as->(∀e∈ds,SeqAt.shaped e=true)->its.countP (kW s.heap d)=(ds.countP λe=>PyData.eqv e d)/\∀u∈its,SeqAt.EqAt A s u x (kW s.heap d u)
 |[],_,_,r,_=>by
  cases r
  exact ⟨rfl,λu hu=>by cases hu⟩
 |e :: ds,_,_,r,h=>by
  cases r with
  |cons r1 r2=>
   obtain ⟨h1,h2⟩:=yd hu sd rx ds _ _ r2 λe he=>h e (mem_cons_of_mem _ he)
   have se:=h e mem_cons_self
   refine ⟨by rw[countP_cons,countP_cons,h1,uS se r1],λu hm=>?_⟩
   rcases mem_cons.mp hm with rfl|hm
   ·rw[uS se r1]
    exact SeqAt.eqAt_reads _ _ _ _ _ _ _ _ r1 rx (SeqAt.canLay_of_shaped se) (SeqAt.canLay_of_shaped sd) (SeqAt.room_of_shaped se hu)
   ·exact h2 u hm
theorem Bn {X:Cx}{k:Nat}(hr:Room k X.A):MtR X "list.count" (wj X.K):=by
 intro pins s σ H x xs v us Q I rx rxs h
 refine e_5 h λa ys y d ds=>a_8 λez ey hs hd hy sd sds q=>?_;clear h;subst ez;subst ey
 cases rx
 cases rxs with
 |cons ry rt=>
  rename_i uy ut
  cases rt
  obtain ⟨its,rv,⟨⟨cls,dd,data,sl⟩,n,ho,hc,hdn,hdt⟩,hlen⟩:=I.list hs
  simp only at hc hdt
  subst hc hdt
  obtain ⟨bs,r1⟩:=Dp.reads I d y uy hy ry
  obtain ⟨as,r2⟩:=Dp.readsAll I ds ys its hd rv
  obtain ⟨e1,e2⟩:=yd (A:=X.A.in1) (by have:=hr.un;show X.A.units+1+64<cLine;lia) sd r1 ds its as r2 sds
  rw[<- e1] at q
  exact call_meets PySem.F.slot_list_count ⟨_,ho,rfl⟩ PySem.F.entry_list_count (PySem.F.args_list_count_2 _ _) (SeqAt.list_countAt a its.toArray n dd sl uy (kW s.heap d)) ⟨ho,λu hm=>e2 u (by simpa using hm),⟨.int _,H,I.tok _,⟨_,rfl⟩,by simpa using q⟩⟩
theorem kT {X:Cx}{K:Frag}{k:Nat}(h:X.K=K)(hr:Room k X.A):MtR X "list.count" (wj K):=h ▸ Bn hr
def Av (K:Frag)(te ts:TE):TE:=λσ H Q=>te σ H λx H1=>ts σ H1 λy H2=>y=.int (-1)/\∃a xs,x=.ref a/\SqL K H2 a xs/\∀p,H2 p=none->Q (.ref p) (upd H2 p (.lst xs.reverse))
theorem uH {α β:Type}{f g:α->Option β}:∀{l:List α},(∀x∈l,f x=g x)->l.filterMap f=l.filterMap g
 |[],_=>rfl
 |a :: l,h=>by
  rw[List.filterMap_cons,List.filterMap_cons,h a mem_cons_self,uH λx hx=>h x (mem_cons_of_mem _ hx)]
theorem yH (its:List Value):slicePick its.toArray none none (some (-1))=its.reverse.toArray:=by
 unfold slicePick sliceBounds sliceRange
 simp only[Option.getD_some,show ¬ ((-1:Int) > 0) by decide,if_false,size_toArray]
 congr 1
 have e:(if ((its.length:Int)-1 > -1) then ((its.length:Int)-1 - -1 - -1-1)/(- -1) else 0:Int).toNat=its.length:=by
  split
  ·rw[show (- -1:Int)=1 by decide,Int.ediv_one];lia
  ·lia
 rw[e]
 refine ext_getElem? λi=>?_
 rw[List.filterMap_map]
 have e2:((λx:Nat=>its.toArray[x]?) ∘ λ(k:Nat)=>((its.length:Int)-1 + -1*(k:Int)).toNat)=λ(k:Nat)=>its[((its.length:Int)-1 + -1*(k:Int)).toNat]?:=by
  funext k;simp
 rw[e2]
 have e3:(range its.length).filterMap (λ(k:Nat)=>its[((its.length:Int)-1 + -1*(k:Int)).toNat]?)=its.reverse:=by
  rw[uH (g:=λk=>its.reverse[k]?)]
  ·have:=pick_run its.reverse.toArray 0 its.length
   simpa [List.filterMap_map,Function.comp_def,take_of_length_le] using this
  ·intro k hk
   rw[mem_range] at hk
   rw[List.getElem?_reverse hk]
   congr 1
   lia
 rw[e3]
theorem Bf {X:Cx}{K:Frag}{e st:Expr}{te ts:TE}{pos p2:Pos}(hK:X.K=K)(he:PE X e te)(hs:PE X st ts):PE X (.Subscript e (.Slice none none (some st) p2) pos) (Av K te ts):=by
 subst hK
 intro pins s σ H Q I h
 refine Subscript_ (thn (he pins s σ H _ I h) λv s1 ⟨x,H1,I1,r1,q1⟩=>wpAny_Slice ?_)
 rw[evalPart_none,evalPart_some]
 refine wpAny_pure (wpAny_pure (thn (hs pins s1 σ H1 _ I1 q1) λvs s3 ⟨y,H3,I3,r3,q3⟩=>?_))
 obtain ⟨rfl,a,xs,rfl,hx,q⟩:=q3
 cases r1
 obtain ⟨t,rfl⟩:=r3
 have I4:Inv X pins σ H3 { s3 with heap:=s3.heap.push { cls:=.type "slice",data:=.fields #[.none,.none,.int (-1) t] } }:=I3.kept (t':=s3.toks) λb ob q=>Heap.get?_push_of_some _ q
 refine e_1 (I4.list hx) λits=>a_3 λr ht hz=>?_
 have hlen:=r.length
 refine tail_any (T := "list") (id:=_) (ops:=[.ref a,.ref s3.heap.objs.size]) ht.isList.typeIs slot_list_getitem.lookup ?_ (by with_unfolding_all rfl)
 refine wpAny_getItem_list_slice ht.isList (Heap.IsSliceOf.new ..) .none .none (.int (-1) t) (by simp) ?_ (by rw[size_toArray];lia)
 rw[yH]
 exact ⟨.ref _,_,I4.laid (t':=s3.toks) (o:=.lst xs.reverse) (λb ob q=>Heap.get?_push_of_some _ q) (le_refl _) ⟨by rw[List.length_reverse];exact hz,_,0,r.reverse,Heap.get?_push_size _ rfl⟩,rfl,q _ (I4.hok.fresh (le_refl _))⟩
section
variable {prog:Program}{w:World}{A:Around}{R:Result->Shared->Prop}{I l S:Addr}{its:Array Value}{dv:Value}{val:Nat->Int}
theorem Cj {a b:Int}{t u:Tok}{s:Shared}{E:Value->Shared->Prop}{Q:Value->Shared->Prop}(q:Q (.bool (decide (a > b))) s):wpAny (model prog w) A (richCompare .Gt (.int a t) (.int b u)) Q E s:=
 CmpOf.ints_gt (P:=λi v=>∃t,v=Value.int (if i=0 then a else b) t) (λi=>if i=0 then a else b) (λ_ _ h=>h) 0 1 _ _ s Q E ⟨t,rfl⟩ ⟨u,rfl⟩ q
theorem m5:(toString "max" ++ toString ".loop" : String) = "max.loop" := by decide
theorem zX (hh:A.handled=none)(hlI:l≠I)(hSI:S≠I)(hSl:S≠l)(hval:∀(i:Nat) (v:Value),its[i]? = some v->∃t:Tok,v=.int (val i) t) :
  ∀(k j:Nat)(s:Shared)(M:Int)(t:Tok)(c:Nat),its.size-(j+1)=k->j+1<=its.size->s.heap.IsListIter I l (j+1)/\s.heap.IsList l its->
   s.heap.get? S=some { cls:=.type "list",dict:=none,data:=.seq #[.int M t,.int M t] c,slots:=#[] }->(∃i,i<=j/\val i=M)->(∀i,i<=j->val i<=M)->
   (∀M t h' tk,(∃i,i<its.size/\val i=M)->(∀i,i<its.size->val i<=M)->(∀b o,b≠I->b≠S->s.heap.get? b=some o->h'.get? b=some o)->R (.ok (.ret (.int M t))) { s with heap:=h',toks:=tk })->
   codeAny (model prog w) A (.builtin "max.loop" ⟨[.ref I,.none,.ref S],[("default",dv)]⟩) R s:=by
 have W:=Walks.list (prog:=prog) (w:=w) (A:=A.in1) hh I l hlI its
 intro k
 induction k with
 |zero=>
  intro j s M t c hk hj hst hS hb hm hR
  have hn:j+1=its.size:=by lia
  apply codeAny_builtin F.entry_max_loop;rw[Around.under_plainId F.plain_max_loop _]
  show wpAny _ A.in1 (seqItems? (.ref S) >>= _) _ _ s;refine wpAny_bind (wpAny_seqItems hS rfl ?_)
  show wpAny _ A.in1 (tryCatch (pyNext (.ref I)) _ >>= _) _ _ s;refine wpAny_bind (wpAny_tryCatch (W.done s _ _ (hn ▸ hst) λh1 tk hk1=>?_))
  have hS1:=hk1 S _ (by simpa using hSI) hS
  show wpAny _ A.in1 (updateSeq S (λ_=>#[]) >>= _) _ _ _;refine wpAny_bind (wpAny_updateSeq hS1 rfl (wpAny_bind (wpAny_letGo (wpAny_pure ?_))))
  exact hR M t _ tk (hb.imp λi h=>⟨by lia,h.2⟩) (λi hi=>hm i (by lia)) λb o bI bS e=>(Heap.get?_update_other _ _ (Ne.symm bS)).trans (hk1 b o (by simpa using bI) e)
 |succ k ih=>
  intro j s M t c hk hj hst hS hb hm hR
  have hlt:j+1<its.size:=by lia
  apply codeAny_builtin F.entry_max_loop;rw[Around.under_plainId F.plain_max_loop _]
  show wpAny _ A.in1 (seqItems? (.ref S) >>= _) _ _ s;refine wpAny_bind (wpAny_seqItems hS rfl ?_)
  show wpAny _ A.in1 (tryCatch (pyNext (.ref I)) _ >>= _) _ _ s;refine wpAny_bind (wpAny_tryCatch (W.item (j+1) s _ _ hlt hst λv h1 tk hP hst1 hk1=>?_))
  obtain ⟨u,rfl⟩:=hval _ _ hP
  have hS1:=hk1 S _ (by simpa using hSI) hS
  show wpAny _ A.in1 (tryCatch (holding [.int (val (j+1)) u,.int (val (j+1)) u] (richCompare .Gt (.int (val (j+1)) u) (.int M t) >>= _)) _ >>= _) _ _ _
  refine wpAny_bind (wpAny_tryCatch (wpAny_holding (wpAny_bind (Cj (wpAny_bind (wpAny_holding (wpAny_truthy_bool (wpAny_bind (wpAny_letGo (wpAny_pure ?_))))))))))
  by_cases hc:val (j+1) > M
  ·rw[decide_eq_true hc]
   simp only[if_true]
   refine wpAny_bind (wpAny_updateSeq hS1 rfl (wpAny_bind (wpAny_letGo ?_)))
   rw[m5]
   refine wpAny_pure ⟨plainId_quiet F.plain_max_loop _,ih (j+1) _ (val (j+1)) u _ (by lia) hlt (W.frame _ _ _ hst1 λb hbf o e=>(Heap.get?_update_other _ _ (λh:S=b=>?_)).trans e) (Heap.get?_update_self _ hS1 rfl) ⟨_,le_refl _,rfl⟩ (λi hi=>?_) λM' t' h2 tk2 p1 p2 hk2=>?_⟩
   ·subst h
    rcases mem_cons.mp hbf with e|e
    ·exact hSI e
    ·exact hSl (mem_singleton.mp e)
   ·by_cases e:i=j+1
    ·rw[e];exact Int.le_refl _
    ·exact Int.le_trans (hm i (by lia)) (Int.le_of_lt hc)
   ·exact hR M' t' h2 tk2 p1 p2 λb o bI bS e=>hk2 b o bI bS ((Heap.get?_update_other _ _ (Ne.symm bS)).trans (hk1 b o (by simpa using bI) e))
  ·rw[decide_eq_false hc]
   simp only[Bool.false_eq_true,if_false]
   refine wpAny_bind (wpAny_letGo ?_)
   rw[m5]
   refine wpAny_pure ⟨plainId_quiet F.plain_max_loop _,ih (j+1) _ M t _ (by lia) hlt hst1 hS1 (hb.imp λi h=>⟨by lia,h.2⟩) (λi hi=>?_) λM' t' h2 tk2 p1 p2 hk2=>?_⟩
   ·by_cases e:i=j+1
    ·rw[e];lia
    ·exact hm i (by lia)
   ·exact hR M' t' h2 tk2 p1 p2 λb o bI bS e=>hk2 b o bI bS (hk1 b o (by simpa using bI) e)
theorem zZ (a d:Value):argsOk "max" ⟨[a],[(Str.ofString "default",d)]⟩:=by unfold argsOk;kernel_rfl
theorem zY {s:Shared}{E:Value->Shared->Prop}{Q:Value->Shared->Prop}(hh:A.handled=none)(hl:s.heap.IsList l its)(hval:∀(i:Nat) (v:Value),its[i]? = some v->∃t:Tok,v=.int (val i) t)
  (q:∀v h' tk,(∀b o,s.heap.get? b=some o->h'.get? b=some o)->(its.size=0/\v=dv\/∃M t,v=.int M t/\(∃i,i<its.size/\val i=M)/\∀i,i<its.size->val i<=M)->Q v { s with heap:=h',toks:=tk }) :
  wpAny (model prog w) A (call (.builtin "max") [.ref l] [(Str.ofString "default",dv)]) Q E s:=by
 refine e_1 (id hl) λol=>a_2 λhol hoc=>?_
 have hll:l<s.heap.objs.size:=Heap.lt_size hol
 refine kmb_tree F.kind_max F.plain_max F.entry_max (zZ _ _) ?_
 show wpAny _ A.in1 (Builtin.Builtins.bindParams "max" ["key","default"] 0 ⟨[],[(Str.ofString "default",dv)]⟩ >>= _) _ _ s
 refine wpAny_bind (wpAny_of_eq (show Builtin.Builtins.bindParams "max" ["key","default"] 0 ⟨[],[(Str.ofString "default",dv)]⟩=pure [none,some dv] from rfl) ?_)
 refine wpAny_bind (wpAny_pure (wpAny_bind (wpAny_pyIter_list hl (wpAny_bind (wpAny_newList ?_ (zero_le _))))))
 rw[m5]
 generalize hH1:s.heap.push { cls:=.type "list_iterator",data:=.fields #[.ref l,.int 0 0] }=H1
 have hS:H1.objs.size=s.heap.objs.size+1:=by rw[<- hH1];exact Heap.size_push ..
 have hlI:l≠s.heap.objs.size:=ne_of_lt hll
 have hSI:H1.objs.size≠s.heap.objs.size:=by lia
 have hSl:H1.objs.size≠l:=Nat.ne_of_gt (by rw[hS];exact Nat.lt_succ_of_lt hll)
 have keep:∀b o,s.heap.get? b=some o->(H1.push (seqObj "list" #[] 0)).get? b=some o:=λb o e=>Heap.get?_push_of_some _ (by rw[<- hH1];exact Heap.get?_push_of_some _ e)
 have hst:(H1.push (seqObj "list" #[] 0)).IsListIter s.heap.objs.size l 0/\(H1.push (seqObj "list" #[] 0)).IsList l its:=⟨⟨_,Heap.get?_push_of_some _ (by rw[<- hH1];exact Heap.get?_push_size _ rfl),rfl,rfl⟩,⟨ol,keep _ _ hol,hoc⟩⟩
 have gS:(H1.push (seqObj "list" #[] 0)).get? H1.objs.size=some (seqObj "list" #[] 0):=Heap.get?_push_size _ rfl
 have W:=Walks.list (prog:=prog) (w:=w) (A:=A.in1) hh s.heap.objs.size l hlI its
 refine wpAny_pure ⟨plainId_quiet F.plain_max_loop _,?_⟩
 apply codeAny_builtin F.entry_max_loop;rw[Around.under_plainId F.plain_max_loop _]
 show wpAny _ A.in1 (seqItems? (.ref H1.objs.size) >>= _) _ _ _;refine wpAny_bind (wpAny_seqItems gS rfl ?_)
 show wpAny _ A.in1 (tryCatch (pyNext (.ref s.heap.objs.size)) _ >>= _) _ _ _
 have old:∀b o,s.heap.get? b=some o->b≠s.heap.objs.size/\b≠H1.objs.size:=λb o e=>⟨ne_of_lt (Heap.lt_size e),ne_of_lt (by rw[hS];exact Nat.lt_succ_of_lt (Heap.lt_size e))⟩
 by_cases h0:its.size=0
 ·refine wpAny_bind (wpAny_tryCatch (W.done _ _ _ (h0 ▸ hst) λh1 tk hk1=>?_))
  show wpAny _ A.in1 (rule _ >>= _) _ _ _
  refine wpAny_bind (wpAny_rule (wpAny_pure ?_))
  exact q dv h1 tk (λb o e=>hk1 b o (by simpa using (old b o e).1) (keep b o e)) (.inl ⟨h0,rfl⟩)
 ·refine wpAny_bind (wpAny_tryCatch (W.item 0 _ _ _ (by lia) hst λv h1 tk hP hst1 hk1=>?_))
  obtain ⟨u,rfl⟩:=hval _ _ hP
  have hS1:=hk1 _ _ (by simpa using hSI) gS
  show wpAny _ A.in1 (updateSeq H1.objs.size (λ_=>#[.int (val 0) u,.int (val 0) u]) >>= _) _ _ _
  refine wpAny_bind (wpAny_updateSeq hS1 rfl ?_)
  rw[m5]
  refine wpAny_pure ⟨plainId_quiet F.plain_max_loop _,zX hh hlI hSI hSl hval _ 0 _ (val 0) u _ rfl (by lia) (W.frame _ _ _ hst1 λb hbf o e=>(Heap.get?_update_other _ _ (λh:H1.objs.size=b=>?_)).trans e) (Heap.get?_update_self _ hS1 rfl) ⟨0,le_refl _,rfl⟩ (λi hi=>?_) λM' t' h2 tk2 p1 p2 hk2=>?_⟩
  ·subst h
   rcases mem_cons.mp hbf with e|e
   ·exact hSI e
   ·exact hSl (mem_singleton.mp e)
  ·rw[show i=0 by lia];exact Int.le_refl _
  ·exact q _ h2 tk2 (λb o e=>hk2 b o (old b o e).1 (old b o e).2 ((Heap.get?_update_other _ _ (Ne.symm (old b o e).2)).trans (hk1 b o (by simpa using (old b o e).1) (keep b o e)))) (.inr ⟨M',t',rfl,p1,p2⟩)
end
def zn (K:Frag)(vs ys:List V)(H:Hp)(Q:VK):Prop:=∃(a:Addr)(ns:NL),vs=[V.ref a]/\ys=[V.int 0]/\SqL K H a (nv ns)/\Q (.int ((ns.foldl max 0:Nat):Int)) H
def zj (K:Frag)(t tk:TA):TE:=λσ H Q=>t σ H λvs H1=>tk σ H1 λys H2=>zn K vs ys H2 Q
theorem mM:∀(ns:NL)(m:Nat),(∀x∈ns,x<=ns.foldl max m)/\m<=ns.foldl max m/\(ns.foldl max m=m\/ns.foldl max m∈ns)
 |[],m=>⟨λx h=>(nomatch h),le_refl _,.inl rfl⟩
 |a :: ns,m=>by
  obtain ⟨h1,h2,h3⟩:=mM ns (max m a)
  rw[foldl_cons]
  refine ⟨λx hx=>?_,by lia,?_⟩
  ·rcases mem_cons.mp hx with rfl|hx
   ·lia
   ·exact h1 x hx
  ·rcases h3 with h|h
   ·rw[h]
    by_cases hm:m<=a
    ·exact .inr (by rw[Nat.max_eq_right hm];exact mem_cons_self)
    ·exact .inl (Nat.max_eq_left (by lia))
   ·exact .inr (mem_cons_of_mem _ h)
theorem Ct:bootBuiltins "max" = some (.builtin "max"):=by decide +kernel
theorem zQ {X:Cx}{K:Frag}{e d:Expr}{t tk:TA}{p pos kpos:Pos}(hK:X.K=K)(hc:X.calm=true)(hg:Gl X "max")(hm:X.mg "max" = none)(he:PA X [e] t)(hd:PK X [⟨some "default",d,kpos⟩] tk)
  (hb:backTo pos (starEach [e] X.env)=(false,eval e X.env) :: backTo pos (starEach [] X.env):=by rfl) (h2:(backTo pos (starEach [e] X.env)).any (·.1)=false:=by rfl):PE X (.Call (.Name "max" p) [e] [⟨some "default",d,kpos⟩] pos) (zj K t tk):=by
 subst hK
 intro pins s σ H Q I h
 refine wpAny_Call_Name_kw (EA I hg hm Ct ?_ (by decide) (by decide))
 refine callWith_kw (thn (he pos pins s σ H _ I h) λus s1 ⟨vs,H1,I1,r1,q1⟩=>thn (hd pos pins s1 σ H1 _ I1 q1) λws s2 ⟨ys,H2,I2,r2,q2⟩=>?_) hb h2 (by rfl) (by rfl)
 refine e_2 q2 λa ns=>a_4 λez ey hs q=>?_;clear q2;subst ez;subst ey
 refine e_1 (I2.list hs) λits=>a_3 λrv hl _=>?_
 rw[Vals.ref1 r1]
 obtain ⟨t0,rfl⟩:∃t0,ws=[Value.int 0 t0]:=by
  cases r2 with
  |cons r t=>
   cases t
   obtain ⟨t,rfl⟩:=r
   exact ⟨t,rfl⟩
 have hlen:=rv.length
 rw[aw] at hlen
 refine zY (val:=λi=>((ns.getD i 0:Nat):Int)) (I2.ok.hd hc) hl.isList (λi v hv=>?_) λv h' tk' hk hv=>?_
 ·obtain ⟨hi,e1⟩:=List.getElem?_eq_some_iff.mp (show its[i]? = some v by simpa using hv)
  refine e_1 (rv.get (fE (xs:=ns) (i:=i) (by lia))) λu=>a_2 λhu ru=>?_
  rw[show its[i]? = some v by simpa using hv] at hu
  cases hu
  exact ru
 ·obtain ⟨f1,f2,f3⟩:=mM ns 0
  have fin:v=Value.int 0 t0/\ns=[]\/∃t,v=Value.int ((ns.foldl max 0:Nat):Int) t:=by
   rcases hv with ⟨h0,rfl⟩|⟨M,t,rfl,⟨i,hi,rfl⟩,hM⟩
   ·exact .inl ⟨rfl,List.eq_nil_of_length_eq_zero (by simpa [hlen] using h0)⟩
   ·refine .inr ⟨t,?_⟩
    have hin:i<ns.length:=by simpa [<- hlen] using hi
    have e:ns.getD i 0=ns.foldl max 0:=by
     refine Nat.le_antisymm (f1 _ (by rw[getD_eq_getElem?_getD,getElem?_eq_getElem hin];exact getElem_mem hin)) ?_
     rcases f3 with h|h
     ·rw[h];exact zero_le _
     ·obtain ⟨j,hj,ej⟩:=mem_iff_getElem.mp h
      have:=hM j (by simpa [<- hlen] using hj)
      rw[getD_eq_getElem?_getD,getElem?_eq_getElem hj,Option.getD_some,ej] at this
      exact Int.ofNat_le.mp this
    rw[e]
  rcases fin with ⟨rfl,rfl⟩|⟨t,rfl⟩
  ·exact ⟨.int _,H2,I2.kept hk,⟨_,rfl⟩,q⟩
  ·exact ⟨.int _,H2,I2.kept hk,⟨_,rfl⟩,q⟩
set_option hygiene false in
local macro_rules | `(tactic| walk_at "cSumming")=>`(tactic| ((have cC:=T.c_Summing);(have n_kind:=T.n_Summing_kind);(have n_state:=T.n_Summing_state);(have n_waiting:=T.n_Summing_waiting);(have n_summed_length:=T.n_Summing_summed_length)))
set_option hygiene false in
local macro_rules | `(tactic| walk_at "cSealing")=>`(tactic| ((have cC:=T.c_Sealing);(have n_round_keys:=T.n_Sealing_round_keys);(have n_factor:=T.n_Sealing_factor);(have n_nonce:=T.n_Sealing_nonce);(have n_opening:=T.n_Sealing_opening);(have n_stream:=T.n_Sealing_stream);(have n_beside_length:=T.n_Sealing_beside_length);(have n_text_length:=T.n_Sealing_text_length);(have n_text_begun:=T.n_Sealing_text_begun);(have n_tagged:=T.n_Sealing_tagged);(have n_waiting:=T.n_Sealing_waiting)))
set_option hygiene false in
local macro_rules | `(tactic| walk_at "cDisk")=>`(tactic| ((have cC:=T.c_Disk);(have n_row_count:=T.n_Disk_row_count);(have n_store_id:=T.n_Disk_store_id);(have n_sectors:=T.n_Disk_sectors);(have n_heads:=T.n_Disk_heads)))
set_option hygiene false in
local macro_rules | `(tactic| walk_at "cDesk")=>`(tactic| ((have cC:=T.c_Desk);(have n_store_id:=T.n_Desk_store_id);(have n_secret:=T.n_Desk_secret);(have n_disk:=T.n_Desk_disk)))
set_option hygiene false in
local macro_rules | `(tactic| k_go0)=>`(tactic| first | (refine e_1 h λ_=>a_2 λe _=>?_;subst e;rfl) | (refine e_2 h λ_ _=>a_2 λe _=>?_;subst e;rfl) | (refine e_3 h λ_ _ _=>a_2 λe _=>?_;subst e;rfl) | (refine e_4 h λ_ _ _ _=>a_2 λe _=>?_;subst e;rfl) | (refine e_5 h λ_ _ _ _ _=>a_2 λe _=>?_;subst e;rfl) | (refine e_6 h λ_ _ _ _ _ _=>a_2 λe _=>?_;subst e;rfl) | (refine e_7 h λ_ _ _ _ _ _ _=>a_2 λe _=>?_;subst e;rfl) | (refine e_8 h λ_ _ _ _ _ _ _ _=>a_2 λe _=>?_;subst e;rfl) | (refine e_9 h λ_ _ _ _ _ _ _ _ _=>a_2 λe _=>?_;subst e;rfl) | (refine rH h λ_ _ _ _ _ _ _ _ _ _=>a_2 λe _=>?_;subst e;rfl) | (refine oS h λ_ _ _ _ _ _ _ _ _ _ _=>a_2 λe _=>?_;subst e;rfl) | (refine wF h λ_ _ _ _ _ _ _ _ _ _ _ _=>a_2 λe _=>?_;subst e;rfl) | (refine y1 h λ_ _ _ _ _ _ _ _ _ _ _ _ _=>a_2 λe _=>?_;subst e;rfl) | (refine Bw h λ_ _ _ _ _ _ _ _ _ _ _ _ _ _=>a_2 λe _=>?_;subst e;rfl) | (refine yZ h λ_ _ _ _ _ _ _ _ _ _ _ _ _ _ _=>a_2 λe _=>?_;subst e;rfl) | (refine CW h λ_ _ _ _ _ _ _ _ _ _ _ _ _ _ _ _=>a_2 λe _=>?_;subst e;rfl) | (obtain ⟨_,rfl,_⟩:=h;rfl)  | (obtain ⟨_,_,rfl,_⟩:=h;rfl)  | (obtain ⟨_,_,_,rfl,_⟩:=h;rfl)  | (obtain ⟨_,_,_,_,rfl,_⟩:=h;rfl)  | (obtain ⟨_,_,_,_,_,rfl,_⟩:=h;rfl)  | (obtain ⟨_,_,_,_,_,_,rfl,_⟩:=h;rfl)  | (obtain ⟨_,_,_,_,_,_,_,rfl,_⟩:=h;rfl)  | (obtain ⟨_,_,_,_,_,_,_,_,rfl,_⟩:=h;rfl)  | (obtain ⟨_,_,_,_,_,_,_,_,_,rfl,_⟩:=h;rfl)  | (obtain ⟨_,_,_,_,_,_,_,_,_,_,rfl,_⟩:=h;rfl)  | (obtain ⟨_,_,_,_,_,_,_,_,_,_,_,rfl,_⟩:=h;rfl))
theorem gI {X:Cx}{x:Str}{n:Int}{p:Pos}(h:∃t,X.mg x=some (.int n t))(hg:Gl X x:=by rfl)(hd:(x == ("__debug__" : Str))=false:=by decide):PE X (.Name x p) (tC (.int n)):=D1 hg h.choose_spec ⟨_,rfl⟩ hd
theorem _root_.L2.Room.m {j k:Nat}{A:Around}(r:Room k A)(h:j<=k:=by decide):Room j A:=r.mono h
local macro_rules | `(tactic| walk_at "sq")=>`(tactic| first
 |assumption
 |(apply Loc.lst (j:=0)<;>first|assumption|exact rfl)
 |(apply Loc.lst (j:=1)<;>first|assumption|exact rfl)
 |(apply Loc.lst (j:=2)<;>first|assumption|exact rfl)
 |(apply Loc.lst (j:=3)<;>first|assumption|exact rfl)
 |(apply Loc.lst (j:=4)<;>first|assumption|exact rfl)
 |(apply Loc.arg<;>assumption))
local macro_rules | `(tactic| walk_at "hp")=>`(tactic| first
 |assumption
 |(apply Loc.get (j:=0)<;>first|assumption|exact rfl)
 |(apply Loc.get (j:=1)<;>first|assumption|exact rfl)
 |(apply Loc.get (j:=2)<;>first|assumption|exact rfl)
 |(apply Loc.get (j:=3)<;>first|assumption|exact rfl)
 |(apply Loc.get (j:=4)<;>first|assumption|exact rfl))
local macro_rules | `(tactic| walk_at "bd")=>`(tactic| first
 |lia
 |decide
 |(simp only[aw,length_append,length_cons,length_nil,length_set,length_take,length_drop]<;>lia)
 |(simp only[sizeLine_eq,aw,length_append,length_cons,length_nil,length_set,length_take,length_drop]<;>lia))
local macro_rules | `(tactic| walk_at "bdW")=>`(tactic| first | exact lt_of_lt_of_le (by first | assumption | lia) (by decide +kernel) | assumption)
local macro_rules | `(tactic| walk_at "lk")=>`(tactic| rfl)
local macro_rules | `(tactic| walk_at "lt1000")=>`(tactic| exact of_decide_eq_true (by rfl))
local macro_rules | `(tactic| walk_at "fp")=>`(tactic| first
 | ((with_reducible apply bY (j:=0));(assumption);(exact rfl);(assumption);(assumption);(walk_at "lt1000"))
 | ((with_reducible apply bY (j:=1));(assumption);(exact rfl);(assumption);(assumption);(walk_at "lt1000"))
 | ((with_reducible apply bY (j:=2));(assumption);(exact rfl);(assumption);(assumption);(walk_at "lt1000")))
local macro_rules | `(tactic| walk_at "app1")=>`(tactic| first
 | ((with_reducible apply gB (j:=0));(assumption);(exact rfl);(walk_at "bd"))
 | ((with_reducible apply gB (j:=1));(assumption);(exact rfl);(walk_at "bd"))
 | ((with_reducible apply gB (j:=2));(assumption);(exact rfl);(walk_at "bd"))
 | ((with_reducible apply gB (j:=3));(assumption);(exact rfl);(walk_at "bd")))
local macro_rules | `(tactic| walk_at "step")=>`(tactic| first
 |((with_reducible apply BX);exact rfl)
 |with_reducible apply CO
 |with_reducible apply CN
 |with_reducible apply r_c
 |with_reducible apply CD
 |with_reducible apply Cc
 | ((with_reducible apply A6);(walk_at "hp");(assumption);(assumption);(walk_at "lk"))
 |with_reducible apply BT
 |with_reducible apply A1
 | ((with_reducible apply Cf);(walk_at "hp");(walk_at "lk"))
 |with_reducible apply A3
 |with_reducible apply CB
 |with_reducible apply AR
 |with_reducible apply B0
 |with_reducible apply r_andV
 |with_reducible apply zO
 |with_reducible apply AQ
 |with_reducible apply AN
 |with_reducible apply AS
 | ((with_reducible apply AT);(walk_at "bd");(walk_at "bdW"))
 |with_reducible apply Ba
 |with_reducible apply B2
 |with_reducible apply CG
 |with_reducible apply CK
 |with_reducible apply CL
 |with_reducible apply zL
 |with_reducible apply A5
 |with_reducible apply A4
 | ((with_reducible apply zH);(walk_at "sq");(walk_at "sq"))
 |with_reducible apply CA
 |with_reducible apply BW
 |with_reducible apply Bb
 |with_reducible apply CF
 |with_reducible apply Cd
 |with_reducible apply B4
 | ((with_reducible apply zM);(walk_at "bd");(walk_at "bd"))
 | ((with_reducible apply A0);(walk_at "bd"))
 | ((with_reducible apply AZ);(walk_at "bd"))
 | ((with_reducible apply r_shlN);(walk_at "bd");(walk_at "bd"))
 |with_reducible apply kj
 |with_reducible apply CJ
 |with_reducible apply AO
 |with_reducible apply CQ
 |with_reducible apply Cg
 | ((with_reducible apply zk);(walk_at "sq");(walk_at "bd"))
 | ((with_reducible apply CI);(walk_at "sq");(walk_at "bd");(walk_at "bd"))
 | ((with_reducible apply pF);(solve_by_elim);(walk_at "bd"))
 |with_reducible apply CP
 | ((with_reducible apply BY);(walk_at "sq"))
 |with_reducible apply A7
 |with_reducible apply B3
 |with_reducible apply B5
 |with_reducible apply CC
 |with_reducible apply yD
 |with_reducible apply AY
 |with_reducible apply zN
 |with_reducible apply CM
 |with_reducible apply A9
 | ((with_reducible apply xu);(walk_at "sq"))
 | ((with_reducible apply B6);(walk_at "sq"))
 |with_reducible apply Cb
 |with_reducible apply BQ
 |with_reducible apply BU
 |with_reducible apply AJ
 |with_reducible apply BR
 |with_reducible apply AK
 |with_reducible apply Cy
 |with_reducible apply AI
 |with_reducible apply BP
 |with_reducible apply BS
 |with_reducible apply AU
 |with_reducible apply AV
 |with_reducible apply AW
 |with_reducible apply zK
 |with_reducible apply yE
 |with_reducible apply CH
 | ((with_reducible apply B9);(walk_at "sq"))
 |((with_reducible apply B8);(solve_by_elim))
 |dsimp only[set_cons_zero,set_cons_succ])
local macro_rules | `(tactic| w_on)=>`(tactic| repeat walk_at "step")
local macro_rules | `(tactic| walk_at "b256")=>`(tactic| (repeat (first | assumption | apply aO | apply ie | apply Bytes.at_)))
local macro_rules | `(tactic| walk_at "app")=>`(tactic| (w_on;walk_at "app1";intro H' L';simp only[de,set_cons_zero,set_cons_succ] at L';try w_on))
local macro_rules | `(tactic| k_go)=>`(tactic| (dsimp only[Fg,L2.start,List.map,map_cons,map_nil,length_cons,length_nil,cons_append,nil_append,zero_add,reduceAdd,Nat.reduceSub,replicate_succ,List.replicate_zero];w_on))
local macro_rules | `(tactic| walk_at "new")=>`(tactic| (apply aF;(assumption);(walk_at "bd");intro p' H' L';simp only[nil_append,cons_append] at L'))
local macro_rules | `(tactic| walk_at "subl")=>`(tactic| (repeat (first | exact List.nil_sublist _ | apply List.Sublist.cons_cons | apply List.Sublist.cons)))
local macro_rules | `(tactic| walk_at "seti")=>`(tactic| first
 | ((with_reducible apply jM (j:=0));(assumption);(exact rfl);(walk_at "bd"))
 | ((with_reducible apply jM (j:=1));(assumption);(exact rfl);(walk_at "bd"))
 | ((with_reducible apply jM (j:=2));(assumption);(exact rfl);(walk_at "bd"))
 | ((with_reducible apply jM (j:=3));(assumption);(exact rfl);(walk_at "bd")))

local macro_rules | `(tactic| w_on)=>`(tactic| repeat walk_at "step")
local macro_rules | `(tactic| w_left)=>`(tactic| ((repeat walk_at "step");(refine ite_ff ?_);(repeat walk_at "step")))
local macro_rules | `(tactic| w_once)=>`(tactic| ((repeat walk_at "step");(refine ite_tt ?_);(repeat walk_at "step")))
local macro_rules | `(tactic| w_end)=>`(tactic| ((repeat walk_at "step");(refine ⟨rfl,?_⟩);(repeat walk_at "step")))
local macro_rules | `(tactic| walk_at "sc")=>`(tactic| exact ⟨rfl,rfl,rfl,by decide +kernel,rfl,by decide +kernel,by decide +kernel⟩)
section
local macro_rules | `(tactic| walk_at "step")=>`(tactic| ((with_reducible apply xt);(walk_at "bd")))
def top (i:Nat):Stmt:=PySem.Challenge.pw_sealedrowsdesk_s09_store.main.body.getD i (.Pass ⟨0,0,0,0⟩)
structure Adr where
 KEY_LENGTHS:Addr
 SUBSTITUTE:Addr
 SHIFT:Addr
 START_1:Addr
 START_2:Addr
 CONSTANTS_1:Addr
 CONSTANTS_2:Addr
 SIGN:Addr
 Summing:Addr
 Disk:Addr
 Sealing:Addr
 Desk:Addr
structure Txt (K:Frag)(mg:Str->Option Value)(ad:Adr):Prop where
 g_KEY_LENGTHS:mg "KEY_LENGTHS" = some (.ref ad.KEY_LENGTHS)
 t_KEY_LENGTHS:∀H,SqT K H ad.KEY_LENGTHS (nv [16,24,32])
 g_SUBSTITUTE:mg "SUBSTITUTE" = some (.ref ad.SUBSTITUTE)
 t_SUBSTITUTE:∀H,SqT K H ad.SUBSTITUTE (nv [99,124,119,123,242,107,111,197,48,1,103,43,254,215,171,118,202,130,201,125,250,89,71,240,173,212,162,175,156,164,114,192,183,253,147,38,54,63,247,204,52,165,229,241,113,216,49,21,4,199,35,195,24,150,5,154,7,18,128,226,235,39,178,117,9,131,44,26,27,110,90,160,82,59,214,179,41,227,47,132,83,209,0,237,32,252,177,91,106,203,190,57,74,76,88,207,208,239,170,251,67,77,51,133,69,249,2,127,80,60,159,168,81,163,64,143,146,157,56,245,188,182,218,33,16,255,243,210,205,12,19,236,95,151,68,23,196,167,126,61,100,93,25,115,96,129,79,220,34,42,144,136,70,238,184,20,222,94,11,219,224,50,58,10,73,6,36,92,194,211,172,98,145,149,228,121,231,200,55,109,141,213,78,169,108,86,244,234,101,122,174,8,186,120,37,46,28,166,180,198,232,221,116,31,75,189,139,138,112,62,181,102,72,3,246,14,97,53,87,185,134,193,29,158,225,248,152,17,105,217,142,148,155,30,135,233,206,85,40,223,140,161,137,13,191,230,66,104,65,153,45,15,176,84,187,22])
 g_SHIFT:mg "SHIFT" = some (.ref ad.SHIFT)
 t_SHIFT:∀H,SqT K H ad.SHIFT (nv [0,5,10,15,4,9,14,3,8,13,2,7,12,1,6,11])
 g_START_1:mg "START_1" = some (.ref ad.START_1)
 t_START_1:∀H,SqT K H ad.START_1 (nv [1732584193,4023233417,2562383102,271733878,3285377520])
 g_START_2:mg "START_2" = some (.ref ad.START_2)
 t_START_2:∀H,SqT K H ad.START_2 (nv [1779033703,3144134277,1013904242,2773480762,1359893119,2600822924,528734635,1541459225])
 g_CONSTANTS_1:mg "CONSTANTS_1" = some (.ref ad.CONSTANTS_1)
 t_CONSTANTS_1:∀H,SqT K H ad.CONSTANTS_1 (nv [1518500249,1859775393,2400959708,3395469782])
 g_CONSTANTS_2:mg "CONSTANTS_2" = some (.ref ad.CONSTANTS_2)
 t_CONSTANTS_2:∀H,SqT K H ad.CONSTANTS_2 (nv [1116352408,1899447441,3049323471,3921009573,961987163,1508970993,2453635748,2870763221,3624381080,310598401,607225278,1426881987,1925078388,2162078206,2614888103,3248222580,3835390401,4022224774,264347078,604807628,770255983,1249150122,1555081692,1996064986,2554220882,2821834349,2952996808,3210313671,3336571891,3584528711,113926993,338241895,666307205,773529912,1294757372,1396182291,1695183700,1986661051,2177026350,2456956037,2730485921,2820302411,3259730800,3345764771,3516065817,3600352804,4094571909,275423344,430227734,506948616,659060556,883997877,958139571,1322822218,1537002063,1747873779,1955562222,2024104815,2227730452,2361852424,2428436474,2756734187,3204031479,3329325298])
 g_SIGN:mg "SIGN" = some (.ref ad.SIGN)
 t_SIGN:∀H,SqT K H ad.SIGN (nv [83,89,50,50])
 g_BLOCK:∃t,mg "BLOCK" = some (.int 64 t)
 g_MASK:∃t,mg "MASK" = some (.int 4294967295 t)
 g_SECTOR_SIZE:∃t,mg "SECTOR_SIZE" = some (.int 512 t)
 g_HEAD_AT:∃t,mg "HEAD_AT" = some (.int 37 t)
 g_SHARE_AT:∃t,mg "SHARE_AT" = some (.int 80 t)
 g_GREATEST_NUMBER:∃t,mg "GREATEST_NUMBER" = some (.int 4611686018427387904 t)
 g_ROW_SIZE:∃t,mg "ROW_SIZE" = some (.int 12 t)
 g_DATA_SHARES:∃t,mg "DATA_SHARES" = some (.int 8 t)
 g_MORE_SHARES:∃t,mg "MORE_SHARES" = some (.int 4 t)
 g_SUM_RANGE:∃t,mg "SUM_RANGE" = some (.int 4294967296 t)
 g_TAG_LENGTH:∃t,mg "TAG_LENGTH" = some (.int 16 t)
 g_OVERFLOW:∃t,mg "OVERFLOW" = some (.int 299076299051606071403356588563077529600 t)
 g_NAME_AT:∃t,mg "NAME_AT" = some (.int 5 t)
 g_TEXT_AT:∃t,mg "TEXT_AT" = some (.int 40 t)
 g_MOST_NAME:∃t,mg "MOST_NAME" = some (.int 35 t)
 g_MOST_TEXT:∃t,mg "MOST_TEXT" = some (.int 3400 t)
 g_ID_SIZE:∃t,mg "ID_SIZE" = some (.int 8 t)
 k_Summing:mg "Summing" = some (.ref ad.Summing)
 c_Summing:Cls K ad.Summing
 n_Summing_kind:NoAttr K ad.Summing "kind"
 n_Summing_state:NoAttr K ad.Summing "state"
 n_Summing_waiting:NoAttr K ad.Summing "waiting"
 n_Summing_summed_length:NoAttr K ad.Summing "summed_length"
 k_Disk:mg "Disk" = some (.ref ad.Disk)
 c_Disk:Cls K ad.Disk
 n_Disk_row_count:NoAttr K ad.Disk "row_count"
 n_Disk_store_id:NoAttr K ad.Disk "store_id"
 n_Disk_sectors:NoAttr K ad.Disk "sectors"
 n_Disk_heads:NoAttr K ad.Disk "heads"
 k_Sealing:mg "Sealing" = some (.ref ad.Sealing)
 c_Sealing:Cls K ad.Sealing
 n_Sealing_round_keys:NoAttr K ad.Sealing "round_keys"
 n_Sealing_factor:NoAttr K ad.Sealing "factor"
 n_Sealing_nonce:NoAttr K ad.Sealing "nonce"
 n_Sealing_opening:NoAttr K ad.Sealing "opening"
 n_Sealing_stream:NoAttr K ad.Sealing "stream"
 n_Sealing_beside_length:NoAttr K ad.Sealing "beside_length"
 n_Sealing_text_length:NoAttr K ad.Sealing "text_length"
 n_Sealing_text_begun:NoAttr K ad.Sealing "text_begun"
 n_Sealing_tagged:NoAttr K ad.Sealing "tagged"
 n_Sealing_waiting:NoAttr K ad.Sealing "waiting"
 k_Desk:mg "Desk" = some (.ref ad.Desk)
 c_Desk:Cls K ad.Desk
 n_Desk_store_id:NoAttr K ad.Desk "store_id"
 n_Desk_secret:NoAttr K ad.Desk "secret"
 n_Desk_disk:NoAttr K ad.Desk "disk"
 n_range:mg "range" = none
 n_len:mg "len" = none
 n_list:mg "list" = none
 n_max:mg "max" = none
 n_zip:mg "zip" = none
section
variable {P:Program}{w:World}{K:Frag}{mg:Str->Option Value}{base:Heap}{ad:Adr}
def gM (K:Frag):Sp:=λvs H Q _=>∃b:Nat,vs=[.int (b:Int)]/\b<256/\Q (.int ((Sy22.twice b:Nat):Int)) H
abbrev ir:Stmt:=top 1
theorem xm:FnScope ["byte"] ["byte"] (Dg ir):=by walk_at "sc"
theorem xD {f:Addr}{fd:FuncData}(F:Fun K "double" "double" ir f fd)(T:Txt K mg ad)  : FnOk P w K mg base CX0 1 f fd ["byte"] (gM K):=by
 refine F.ok xm (λvs H Q E h=>?_) (λcdv A outer s H vs Q E hr h=>?_)
 ·k_go0
 refine e_1 h λb=>a_3 λez hb k=>?_;clear h;subst ez
 refine ⟨_,(Df (DF (Dt Fj (pv 0) Dh (Dv _)) (Di (Dm (Dj jw (pv 0) Dh))) Dx)
   (Di (Dm (Dj DC (Dj jw (pv 0) Dh) Dh)))),?_⟩
 w_on
 refine bZ (λhc=>?_) (λhc=>?_)
 ·w_on
  have e:Sy22.twice b=b*2 ^ 1:=by unfold Sy22.twice;rw[if_neg (by lia)];lia
  rw[e] at k
  exact k
 ·w_on
  have e:Sy22.twice b=(b*2 ^ 1) ^^^ 283:=by unfold Sy22.twice;rw[if_pos (by lia),mul_comm]
  rw[e] at k
  exact k
theorem oV {H:Hp}{Q:VK}{E:XK}{b:Nat}(h:b<256)(q:Q (.int ((Sy22.twice b:Nat):Int)) H):gM K ([.int (b:Int)]++[]) H Q E:=⟨b,rfl,h,q⟩
end
section
variable {P:Program}{w:World}{K:Frag}{mg:Str->Option Value}{base:Heap}{ad:Adr}
def laid (ls:List (List Int)):List Int:=ls.flatMap λ(l:List Int)=>(l.length:Int) :: l
theorem ka (ls:List (List Int))(l:List Int):laid (ls++[l])=(laid ls++[(l.length:Int)])++l:=by
 unfold laid
 simp
theorem z8 (l1 l2:List (List Int)):(laid l1).length<=(laid (l1++l2)).length:=by
 unfold laid
 simp
def jj (K:Frag):Sp:=λvs H Q _=>∃(a:Addr)(rs:List (Addr×List Int)),vs=[.ref a]/\SqL K H a (rs.map λr=>V.ref r.1)/\(∀r∈rs,H r.1=some (.lst (iv r.2)))/\(laid (rs.map (·.2))).length<=2000000/\∀p H',Loc H H' [(p,.lst (iv (laid (rs.map (·.2)))))]->Q (.ref p) H'
abbrev gO:Stmt:=top 92
theorem sc_lay_out:FnScope ["rows","numbers","row"] ["rows"] (Dg gO):=by walk_at "sc"
theorem wm {f:Addr}{fd:FuncData}(F:Fun K "lay_out" "lay_out" gO f fd)(T:Txt K mg ad)  : FnOk P w K mg base CX0 1 f fd ["rows"] (jj K):=by
 refine F.ok sc_lay_out (λvs H Q E h=>?_) (λcdv A outer s H vs Q E hr h=>?_)
 ·k_go0
 refine e_2 h λa rs=>a_5 λez hs hrs hz k=>?_;clear h;subst ez
 refine ⟨_,(Df (Dl (i:=1) sc_lay_out.nd rfl (Or.inl rfl) (DA De))
   (Df (DN PassesOwn.never rfl (DR (pv 0)) (Dr (i:=2) sc_lay_out.nd rfl (Or.inl rfl)) (Df (DG (D2 PySem.F.plainAttrs_list PySem.F.slot_list_append PySem.F.type_list_append D6 (pv 1) (Dd (DE (az (K:=K) rfl) (by rfl) T.n_len aK (Dd (pv 2) De)) De)))
   (Di (DG (D2 PySem.F.plainAttrs_list PySem.F.slot_list_extend PySem.F.type_list_extend EX (pv 1) (Dd (pv 2) De))))))
   (Di (Dm (pv 1))))),?_⟩
 have L0:=Loc.start H
 k_go
 apply aF L0 (by decide)
 intro p H1 L1
 w_on
 refine ja (xs:=rs.map λr=>V.ref r.1) (λi σ H'=>∃(v3:Option V),σ = [some (.ref a),some (.ref p),v3]/\Loc H H' [(p,.lst (iv (laid ((rs.take i).map (·.2)))))]) ⟨_,rfl,L1⟩ (λi σ H' _ ⟨_,_,L⟩=>L.arg hs) ?_ ?_
 ·refine λi x σ H2 hx ez9=>e_1 ez9 λv3=>a_2 λez L2=>?_;clear ez9;subst ez
  rw[getElem?_map] at hx
  obtain ⟨r,hi,rfl⟩:∃r,rs[i]? = some r/\V.ref r.1=x:=by
   cases e:rs[i]? with
   |none=>rw[e] at hx;cases hx
   |some r=>rw[e] at hx;exact ⟨r,rfl,Option.some.inj hx⟩
  have hmem:=hrs r (mem_of_getElem? hi)
  have ag:SqL K H r.1 (iv r.2):=SqL.of hmem
  have hle:=z8 ((rs.take (i+1)).map (·.2)) ((rs.drop (i+1)).map (·.2))
  rw[<- map_append,take_append_drop,iP hi,map_append,map_cons,map_nil,ka,length_append,length_append,length_singleton] at hle
  w_on
  rw[mH]
  refine gB L2 0 rfl (by rw[mH,sizeLine_eq];lia) ?_
  intro H3 L3
  rw[Ab] at L3
  w_on
  refine on L3 0 rfl (L3.same _ _ hmem) ?_ ?_
  ·rw[mH,mH,length_append,length_singleton,sizeLine_eq];lia
  intro H4 L4
  w_on
  refine ⟨_,rfl,?_⟩
  rw[iP hi,map_append,map_cons,map_nil,ka,<- Br]
  exact L4
 ·refine λσ H2 ez9=>e_1 ez9 λv3=>a_2 λez L2=>?_;clear ez9;subst ez
  rw[length_map,take_length] at L2
  w_on
  exact k p H2 L2
theorem uV {H H0:Hp}{ls:List (Addr×HO)}{Q:VK}{E:XK}{a:Addr}(rs:List (Addr×List Int))(L:Loc H0 H ls)(hs:SqL K H a (rs.map λr=>V.ref r.1))(hrs:∀r∈rs,H r.1=some (.lst (iv r.2)))(hz:(laid (rs.map (·.2))).length<=2000000)
  (q:∀p H',Loc H0 H' (ls++[(p,.lst (iv (laid (rs.map (·.2)))))])->Q (.ref p) H'):jj K ([.ref a]++[]) H Q E:=
 i_2 a rs ⟨rfl,hs,hrs,hz,λp H' M=>q p H' (L.calls M)⟩
end
section
variable {P:Program}{w:World}{K:Frag}{mg:Str->Option Value}{base:Heap}{ad:Adr}
def bU (K:Frag):Sp:=λvs H Q _=>∃(a:Addr)(b:NL),vs=[.ref a]/\SqL K H a (nv b)/\Bytes b/\b.length<=500/\Q (.int ((bigOf b:Nat):Int)) H
abbrev eT:Stmt:=top 13
theorem sc_number_of:FnScope ["data","number","byte"] ["data"] (Dg eT):=by walk_at "sc"
set_option exponentiation.threshold 5000 in
theorem vq {b:NL}(h:Bytes b)(hl:b.length<=500):bigOf b<2 ^ 4096:=by
 refine lt_of_lt_of_le (uP h) ?_
 rw[show (256:Nat)=2 ^ 8 by rfl,<- pow_mul]
 exact pow_le_pow_right (by decide) (by lia)
theorem ji {xs:NL}{i:Nat}(h:i<xs.length):xs.take (i+1)=xs.take i++[xs.getD i 0]:=iP (by simp[h])
theorem uc {f:Addr}{fd:FuncData}(F:Fun K "number_of" "number_of" eT f fd)(T:Txt K mg ad)  : FnOk P w K mg base CX0 1 f fd ["data"] (bU K):=by
 refine F.ok sc_number_of (λvs H Q E h=>?_) (λcdv A outer s H vs Q E hr h=>?_)
 ·k_go0
 refine e_2 h λa b=>a_5 λez hs hb hl q=>?_;clear h;subst ez
 refine ⟨_,(Df (Dl (i:=1) sc_number_of.nd rfl (Or.inl rfl) Dh)
   (Df (DN PassesOwn.never rfl (DR (pv 0)) (Dr (i:=2) sc_number_of.nd rfl (Or.inl rfl)) (Di (Dl (i:=1) sc_number_of.nd rfl (Or.inl rfl) (Dj ED (Dj jw (pv 1) Dh) (pv 2)))))
   (Di (Dm (pv 1))))),?_⟩
 k_go
 refine ja (xs:=nv b) (λi σ H'=>∃(v3:Option V),σ = [some (.ref a),some (.int ((bigOf (b.take i):Nat):Int)),v3]/\H'=H) ⟨_,rfl,rfl⟩ (λi σ H' _ ⟨_,_,e⟩=>e ▸ hs) ?_ ?_
 ·refine λi x σ H2 hx ez9=>e_1 ez9 λv3=>a_2 λez ey=>?_;clear ez9;subst ez;subst ey
  obtain ⟨hi,rfl⟩:=ca hx
  have hsm:=vq (hb.take i) (by rw[length_take];lia)
  w_on
  rw[ji hi,qo,<- Bg (hb.at_ i)]
  exact ⟨_,rfl,rfl⟩
 ·refine λσ H2 ez9=>e_1 ez9 λv3=>a_2 λez ey=>?_;clear ez9;subst ez;subst ey
  rw[aw,take_length]
  w_on
  exact q
theorem eJ {H:Hp}{Q:VK}{E:XK}{a:Addr}{b:NL}(hs:SqL K H a (nv b))(hb:Bytes b)(hl:b.length<=500)(q:Q (.int ((bigOf b:Nat):Int)) H):bU K ([.ref a]++[]) H Q E:=i_2 a b ⟨rfl,hs,hb,hl,q⟩
def eO (K:Frag):Sp:=λvs H Q _=>∃(x n:Nat),vs=[.int (x:Int),.int (n:Int)]/\(n=4\/n=8\/n=16)/\∀p H',Loc H H' [(p,.lst (nv (big n x)))]->Q (.ref p) H'
abbrev eF:Stmt:=top 14
theorem sc_bytes_of:FnScope ["number","count","place"] ["number","count"] (Dg eF):=by walk_at "sc"
theorem vj {f:Addr}{fd:FuncData}(F:Fun K "bytes_of" "bytes_of" eF f fd)(T:Txt K mg ad)  : FnOk P w K mg base CX0 1 f fd ["number","count"] (eO K):=by
 refine F.ok sc_bytes_of (λvs H Q E h=>?_) (λcdv A outer s H vs Q E hr h=>?_)
 ·k_go0
 refine e_2 h λx n=>a_3 λez hn k=>?_;clear h;subst ez
 refine ⟨_,(Di (Dm (D0 rfl sc_bytes_of.nd (Ec rfl T.n_range (Dd (Dj DV (pv 1) Dh) (Dd (D5 DT Dh) (Dd (D5 DT Dh) De)))) (DH (own:=[("place",2)]) (by show DX ["number","count","place"] (Dg eF) _ _=true;decide +kernel)) (λ_ _ _ _ _=>Dr (i:=2) sc_bytes_of.nd rfl (Or.inl rfl)) (λ_ _ _ _ _=>DM) (λ_ _ _ _ _=>(Dj DW (Dj Ea (pv 0) (Dj DY Dh (pv 2))) Dh))))),?_⟩
 have L0:=Loc.start H
 k_go
 have hR:RgC ((n-1:Nat):Int) (-((1:Nat):Int)) (-((1:Nat):Int)) n:=by
  rcases hn with rfl|rfl|rfl<;>exact ⟨by decide,by decide,by decide,by decide⟩
 refine i_4 _ _ _ n ⟨rfl,hR,?_⟩
 refine xK L0 (by rw[sizeLine_eq];lia) (λi=>x/2 ^ (8*(n-1-i)) &&& 255) ?_ ?_
 ·intro i hi H1 R sm r
  rw[show ((n-1:Nat):Int)+(i:Int)*(-((1:Nat):Int))=((n-1-i:Nat):Int) by lia]
  w_on
  exact r H1 [] (Loc.start H1)
 ·intro D H1 L1
  rw[qm] at L1
  exact k D H1 L1
theorem dO {H H0:Hp}{ls:List (Addr×HO)}{Q:VK}{E:XK}{x n:Nat}(L:Loc H0 H ls)(hn:n=4\/n=8\/n=16)(q:∀p H',Loc H0 H' (ls++[(p,.lst (nv (big n x)))])->Q (.ref p) H'):eO K ([.int (x:Int),.int (n:Int)]++[]) H Q E:=
 i_2 x n ⟨rfl,hn,λp H' M=>q p H' (L.calls M)⟩
end
end
local macro_rules | `(tactic| walk_at "step")=>`(tactic| ((with_reducible apply oV);(walk_at "b256")))
section
variable {P:Program}{w:World}{K:Frag}{mg:Str->Option Value}{base:Heap}{ad:Adr}
def pb (K:Frag):Sp:=λvs H Q _=>∃(a:Addr)(xs:NL),vs=[.ref a]/\SqL K H a (nv xs)/\xs.length=16/\Bytes xs/\∀p H',Loc H H' [(p,.lst (nv (jg xs 4)))]->Q (.ref p) H'
abbrev mW:Stmt:=top 8
theorem sc_mix:FnScope ["state","mixed","at","a","b","c","d","whole"] ["state"] (Dg mW):=by walk_at "sc"
theorem Cz:RgC 0 16 4 4:=⟨by decide,by decide,by decide,by decide⟩
theorem Bj {f:Addr}{fd:FuncData}(F:Fun K "mix" "mix" mW f fd)(T:Txt K mg ad)(C_double:Callee P w K mg base 1 "double" ["byte"] (gM K)):FnOk P w K mg base CX0 2 f fd ["state"] (pb K):=by
 refine F.ok sc_mix (λvs H Q E h=>?_) (λcdv A outer s H vs Q E hr h=>?_)
 ·k_go0
 refine e_2 h λa xs=>a_5 λez hs hl hb k=>?_;clear h;subst ez
 refine ⟨_,(Df (Dl (i:=1) sc_mix.nd rfl (Or.inl rfl) (DA De))
   (Df (DN PassesOwn.never rfl (Ec rfl T.n_range (Dd Dh (Dd Dh (Dd Dh De)))) (Dr (i:=2) sc_mix.nd rfl (Or.inl rfl)) (Df (Dl (i:=3) sc_mix.nd rfl (Or.inl rfl) (Du (ae (K:=K) rfl) (pv 0) (pv 2) (λ_ _=>rfl)))
   (Df (Dl (i:=4) sc_mix.nd rfl (Or.inl rfl) (Du (ae (K:=K) rfl) (pv 0) (Dj DB (pv 2) Dh) (λ_ _=>rfl)))
   (Df (Dl (i:=5) sc_mix.nd rfl (Or.inl rfl) (Du (ae (K:=K) rfl) (pv 0) (Dj DB (pv 2) Dh) (λ_ _=>rfl)))
   (Df (Dl (i:=6) sc_mix.nd rfl (Or.inl rfl) (Du (ae (K:=K) rfl) (pv 0) (Dj DB (pv 2) Dh) (λ_ _=>rfl)))
   (Df (Dl (i:=7) sc_mix.nd rfl (Or.inl rfl) (Dj DC (Dj DC (Dj DC (pv 3) (pv 4)) (pv 5)) (pv 6)))
   (Df (DG (D2 PySem.F.plainAttrs_list PySem.F.slot_list_append PySem.F.type_list_append D6 (pv 1) (Dd (Dj DC (Dj DC (pv 3) (pv 7)) (ab C_double hr.m rfl (Dd (Dj DC (pv 3) (pv 4)) De))) De)))
   (Df (DG (D2 PySem.F.plainAttrs_list PySem.F.slot_list_append PySem.F.type_list_append D6 (pv 1) (Dd (Dj DC (Dj DC (pv 4) (pv 7)) (ab C_double hr.m rfl (Dd (Dj DC (pv 4) (pv 5)) De))) De)))
   (Df (DG (D2 PySem.F.plainAttrs_list PySem.F.slot_list_append PySem.F.type_list_append D6 (pv 1) (Dd (Dj DC (Dj DC (pv 5) (pv 7)) (ab C_double hr.m rfl (Dd (Dj DC (pv 5) (pv 6)) De))) De)))
   (Di (DG (D2 PySem.F.plainAttrs_list PySem.F.slot_list_append PySem.F.type_list_append D6 (pv 1) (Dd (Dj DC (Dj DC (pv 6) (pv 7)) (ab C_double hr.m rfl (Dd (Dj DC (pv 6) (pv 3)) De))) De)))))))))))))
   (Di (Dm (pv 1))))),?_⟩
 have L0:=Loc.start H
 k_go
 apply aF L0 (by decide)
 intro p H1 L1
 w_on
 refine i_4 0 16 4 4 ⟨rfl,Cz,jS (λi σ H'=>∃(v2 v3 v4 v5 v6 v7:Option V),σ = [some (.ref a),some (.ref p),v2,v3,v4,v5,v6,v7]/\Loc H H' [(p,.lst (nv (jg xs i)))]) ⟨_,_,_,_,_,_,rfl,L1⟩ ?_ ?_⟩
 ·refine λi σ H2 hi ez9=>e_6 ez9 λv2 v3 v4 v5 v6 v7=>a_2 λez L2=>?_;clear ez9;subst ez
  have e4:(0+(i:Int)*4)=((4*i:Nat):Int):=by lia
  rw[e4]
  have hm:=oJ xs i
  walk_at "app"
  walk_at "app"
  walk_at "app"
  walk_at "app"
  rename_i H3 L3
  refine i_6 _ _ _ _ _ _ ⟨rfl,?_⟩
  rw[mC]
  simpa only[mD,append_assoc,cons_append,nil_append] using L3
 ·refine λσ H2 ez9=>e_6 ez9 λv2 v3 v4 v5 v6 v7=>a_2 λez L2=>?_;clear ez9;subst ez
  w_on
  exact k p H2 L2
theorem zw {H H0:Hp}{ls:List (Addr×HO)}{Q:VK}{E:XK}{a:Addr}{xs:NL}(L:Loc H0 H ls)(hs:SqL K H a (nv xs))(hl:xs.length=16)(hb:Bytes xs)(q:∀p H',Loc H0 H' (ls++[(p,.lst (nv (jg xs 4)))])->Q (.ref p) H'):pb K ([.ref a]++[]) H Q E:=
 i_2 a xs ⟨rfl,hs,hl,hb,λp H' M=>q p H' (L.calls M)⟩
end
section
variable {P:Program}{w:World}{K:Frag}{mg:Str->Option Value}{base:Heap}{ad:Adr}
def gt (K:Frag):Sp:=λvs H Q _=>∃(a:Addr)(key:NL),vs=[.ref a]/\SqL K H a (nv key)/\KeyOk key/\∀p H',Loc H H' [(p,.lst (nv (rks key)))]->Q (.ref p) H'
abbrev bX:Stmt:=top 10
theorem sc_expand_key:FnScope ["key","size","rounds","wanted","expanded","constant","end","word","i","byte"] ["key"] (Dg bX):=by walk_at "sc"
theorem sD {f:Addr}{fd:FuncData}(F:Fun K "expand_key" "expand_key" bX f fd)(T:Txt K mg ad)(C_double:Callee P w K mg base 1 "double" ["byte"] (gM K)):FnOk P w K mg base CX0 2 f fd ["key"] (gt K):=by
 refine F.ok sc_expand_key (λvs H Q E h=>?_) (λcdv A outer s H vs Q E hr h=>?_)
 ·k_go0
 refine e_2 h λa key=>a_4 λez hs kok k=>?_;clear h;subst ez
 refine ⟨_,(Df (Dl (i:=1) sc_expand_key.nd rfl (Or.inl rfl) (DE (az (K:=K) rfl) (by rfl) T.n_len aK (Dd (pv 0) De)))
   (Df (Dl (i:=2) sc_expand_key.nd rfl (Or.inl rfl) (Dj DB (Dj Em (pv 1) Dh) Dh))
   (Df (Dl (i:=3) sc_expand_key.nd rfl (Or.inl rfl) (Dj DY Dh (Dj DB (pv 2) Dh)))
   (Df (Dl (i:=4) sc_expand_key.nd rfl (Or.inl rfl) (D7 (gc (K:=K) rfl) (by rfl) T.n_list hZ (Dd (pv 0) De)))
   (Df (Dl (i:=5) sc_expand_key.nd rfl (Or.inl rfl) Dh)
   (Df (ps_while PassesOwn.never (Dt Fj (DE (az (K:=K) rfl) (by rfl) T.n_len aK (Dd (pv 4) De)) (pv 3) (Dv _)) (Df (Dl (i:=6) sc_expand_key.nd rfl (Or.inl rfl) (DE (az (K:=K) rfl) (by rfl) T.n_len aK (Dd (pv 4) De)))
   (Df (Dl (i:=7) sc_expand_key.nd rfl (Or.inl rfl) (DD (aj (K:=K) rfl) (pv 4) (Dy (Dj DV (pv 6) Dh)) DP))
   (Df (pJ (DF (Dt D8 (Dj Eg (pv 6) (pv 1)) Dh (Dv _)) (Df (Ei (i:=7) rfl sc_expand_key.nd rfl rfl (El rfl rfl rfl rfl) (DR (Dj (ao (K:=K) rfl) (DD (aj (K:=K) rfl) (pv 7) (Dy Dh) DP) (DD (aj (K:=K) rfl) (pv 7) DP (Dy Dh)))) (DH (own:=[("byte",9)]) (by show DX ["key","size","rounds","wanted","expanded","constant","end","word","i","byte"] (Dg bX) _ _=true;decide +kernel)) (λ_ _ _ _ _=>Dr (i:=9) sc_expand_key.nd rfl (Or.inl rfl)) (λ_ _ _ _ _=>DM) (λ_ _ _ _ _=>(Du (fZ (K:=K) rfl) (D1 (v:=.ref ad.SUBSTITUTE) rfl T.g_SUBSTITUTE rfl) (pv 9) (λ_ _=>rfl))))
   (Df (EM (Dj DC (Du (ae (K:=K) rfl) (pv 7) Dh (λ_ _=>rfl)) (pv 5)) (EN (pv 7) Dh set_list))
   (Di (Dl (i:=5) sc_expand_key.nd rfl (Or.inl rfl) (ab C_double hr.m rfl (Dd (pv 5) De)))))) (Di (DF (PW.pt (EL (Dt D8 (pv 1) Dh (Dv _)) (EK (Dt D8 (Dj Eg (pv 6) (pv 1)) Dh (Dv _))))) (Di (Ei (i:=7) rfl sc_expand_key.nd rfl rfl (El rfl rfl rfl rfl) (DR (pv 7)) (DH (own:=[("byte",9)]) (by show DX ["key","size","rounds","wanted","expanded","constant","end","word","i","byte"] (Dg bX) _ _=true;decide +kernel)) (λ_ _ _ _ _=>Dr (i:=9) sc_expand_key.nd rfl (Or.inl rfl)) (λ_ _ _ _ _=>DM) (λ_ _ _ _ _=>(Du (fZ (K:=K) rfl) (D1 (v:=.ref ad.SUBSTITUTE) rfl T.g_SUBSTITUTE rfl) (pv 9) (λ_ _=>rfl))))) Dx))))
   (Di (DN PassesOwn.never rfl (DK rfl T.n_range (Dd Dh De)) (Dr (i:=8) sc_expand_key.nd rfl (Or.inl rfl)) (Di (DG (D2 PySem.F.plainAttrs_list PySem.F.slot_list_append PySem.F.type_list_append D6 (pv 4) (Dd (Dj DC (Du (ae (K:=K) rfl) (pv 7) (pv 8) (λ_ _=>rfl)) (Du (ae (K:=K) rfl) (pv 4) (Dj DB (Dj DV (pv 6) (pv 1)) (pv 8)) (λ_ _=>rfl))) De))))))))))
   (Di (Dm (pv 4))))))))),?_⟩
 have L0:=Loc.start H
 have hlen:=kok.len
 obtain ⟨nk,hnk,hk⟩:∃nk,key.length=4*nk/\(nk=4\/nk=6\/nk=8):=by
  rcases hlen with h|h|h
  ·exact ⟨4,by lia,by lia⟩
  ·exact ⟨6,by lia,by lia⟩
  ·exact ⟨8,by lia,by lia⟩
 have hnk':key.length/4=nk:=by lia
 have tS:∀H,SqT K H ad.SUBSTITUTE (nv SUB):=T.t_SUBSTITUTE
 k_go
 apply iB L0 hs
 intro p H1 L1
 w_on
 refine Cv (λt σ H'=>∃(v6 v7 v8 v9:Option V),σ = [some (.ref a),some (.int ((key.length:Nat):Int)),some (.int ((key.length/4+6:Nat):Int)),some (.int ((16*(key.length/4+6+1):Nat):Int)),some (.ref p),some (.int ((power 2 ((nk+t-1)/nk):Nat):Int)),v6,v7,v8,v9]/\Loc H H' [(p,.lst (nv (wN key t).flatten))]) (3*nk+28) ?_ ?_
 ·refine ⟨none,none,none,none,?_,?_⟩
  ·have e:(nk+0-1)/nk=0:=by rcases hk with rfl|rfl|rfl<;>decide
   rw[e]
   rfl
  ·rw[zv kok];exact L1
 ·refine λt σ H2 ht ez9=>e_4 ez9 λv6 v7 v8 v9=>a_2 λez L2=>?_;clear ez9;subst ez
  have wok:=sG kok t
  have wl:=sP (key:=key) t
  have el:(wN key t).flatten.length=4*(nk+t):=by rw[oQ wok,wl,hnk']
  have hN:wN key (t+1)=iE nk (wN key t):=by rw[<- hnk'];rfl
  generalize hW:wN key t=W at *
  w_on
  refine bZ (λhc=>?_) (λhc=>?_)
  ·refine wgo (by lia) ?_
   w_on
   apply ap L2 (L2.lst 0 rfl)
   intro pw H3 L3
   obtain ⟨l1,b1⟩:=wok.getD (show W.length-1<W.length by lia)
   have e1:Ej (nv W.flatten) (some ((W.flatten.length:Int)-((4:Nat):Int))) none=nv (W.getD (W.length-1) []):=by
    rw[bp (by lia) (by lia),show ((W.flatten.length:Int)-((4:Nat):Int)).toNat=4*W.length-4 by lia,xW wok (by lia)]
   rw[e1] at L3
   simp only[cons_append,nil_append] at L3
   have hstep:=xc wok (show 0<nk by lia) (show nk<=W.length by lia) hk rfl
   rw[<- hN] at hstep
   generalize W.getD (W.length-1) []=tw at *
   w_on
   refine ⟨λσ H'=>∃(pu:Addr)(v8 v9:Option V),σ = [some (.ref a),some (.int ((key.length:Nat):Int)),some (.int ((key.length/4+6:Nat):Int)),some (.int ((16*(key.length/4+6+1):Nat):Int)),some (.ref p),some (.int ((power 2 ((nk+(t+1)-1)/nk):Nat):Int)),some (.int ((W.flatten.length:Nat):Int)),some (.ref pu),v8,v9]/\
    Loc H H' [(p,.lst (nv W.flatten)),(pu,.lst (nv (if W.length%nk=0 then mS tw (power 2 ((W.length-1)/nk)) else if nk=8/\W.length%nk=4 then tw.map Sy22.sub else tw)))],?_,?_⟩
   ·w_on
    have hmod:W.flatten.length%key.length=4*(W.length%nk):=by
     rw[el,hnk,Nat.mul_mod_mul_left,wl,hnk']
    rw[hmod]
    refine bZ (λhm=>?_) (λhm=>?_)
    ·have hm0:W.length%nk=0:=by lia
     rw[if_pos hm0]
     w_on
     apply ap L3 (L3.lst 1 rfl)
     intro q1 H4 L4
     rw[show Ej (nv tw) (some ((1:Nat):Int)) none=nv (tw.drop 1) from bp (by lia) (by lia)] at L4
     w_on
     apply ap L4 (L4.lst 1 rfl)
     intro q2 H5 L5
     rw[show Ej (nv tw) none (some ((1:Nat):Int))=nv (tw.take 1) from gE (by lia) (by lia)] at L5
     w_on
     apply A8 L5 (L5.get 2 rfl) (L5.get 3 rfl) (by simp only[aw,length_drop,length_take];rw[sizeLine_eq];lia)
     intro q3 H6 L6
     rw[<- qb] at L6
     w_on
     have hb2:Bytes (tw.drop 1++tw.take 1):=(b1.drop 1).app (b1.take 1)
     have hl2:(tw.drop 1++tw.take 1).length=4:=by simp[l1]
     refine rA L6 (L6.lst 4 rfl) (by rw[sizeLine_eq];lia) (λi=>Sy22.sub ((tw.drop 1++tw.take 1).getD i 0)) ?_ ?_
     ·intro i hi H7 D o R L7 r
      w_on
      refine pF (tS _) (by rw[ng];exact hb2.at_ i) ?_
      rw[kG (hb2.at_ i)]
      exact r
     ·intro D H7 L7
      rw[cA _ Sy22.sub] at L7
      replace L7:Loc H H7 [(p,.lst (nv W.flatten)),(D,.lst (nv ((tw.drop 1++tw.take 1).map Sy22.sub)))]:=L7.sub (by walk_at "subl")
      have hl3:((tw.drop 1++tw.take 1).map Sy22.sub).length=4:=by rw[length_map];exact hl2
      have hpow:=gC (show 2<256 by lia) ((nk+t-1)/nk)
      have ew:nk+t-1=W.length-1:=by lia
      w_on
      walk_at "seti"
      intro H8 L8
      rw[xE] at L8
      w_on
      refine ⟨D,v8,v9,?_,?_⟩
      ·have e2:(nk+(t+1)-1)/nk=(nk+t-1)/nk+1:=by
        rw[wl,hnk'] at hm0
        rcases hk with rfl|rfl|rfl<;>lia
       rw[e2,xw]
      ·rw[ew] at L8
       exact L8
    ·have hm0:¬ W.length%nk=0:=by lia
     have hpe:(nk+(t+1)-1)/nk=(nk+t-1)/nk:=by
      rw[wl,hnk'] at hm0
      rcases hk with rfl|rfl|rfl<;>lia
     rw[if_neg hm0]
     w_on
     have kp:∀x:Prop,nk=8/\x ↔ key.length=32/\x:=λx=>by rw[show nk=8 ↔ key.length=32 by lia]
     refine bZ (λh32=>?_) (λh32=>?_)
     ·w_on
      rw[hmod]
      refine bZ (λh16=>?_) (λh16=>?_)
      ·rw[if_pos (show nk=8/\W.length%nk=4 by lia)]
       w_on
       refine rA L3 (L3.lst 1 rfl) (by rw[sizeLine_eq];lia) (λi=>Sy22.sub (tw.getD i 0)) ?_ ?_
       ·intro i hi H7 D o R L7 r
        w_on
        refine pF (tS _) (by rw[ng];exact b1.at_ i) ?_
        rw[kG (b1.at_ i)]
        exact r
       ·intro D H7 L7
        rw[cA _ Sy22.sub] at L7
        w_on
        refine ⟨D,v8,v9,?_,L7.sub (by walk_at "subl")⟩
        rw[hpe]
      ·rw[if_neg (show ¬ (nk=8/\W.length%nk=4) by lia)]
       w_on
       exact ⟨pw,v8,v9,by rw[hpe],L3⟩
     ·rw[if_neg (show ¬ (nk=8/\W.length%nk=4) by lia)]
      refine iteF ?_
      w_on
      exact ⟨pw,v8,v9,by rw[hpe],L3⟩
   ·generalize hu:(if W.length%nk=0 then mS tw (power 2 ((W.length-1)/nk)) else if nk=8/\W.length%nk=4 then tw.map Sy22.sub else tw)=u at *
    have lu:u.length=4:=by
     subst hu
     split
     ·rw[sO l1,jt,length_map,length_append,length_drop,length_take,l1];rfl
     ·split
      ·simpa using l1
      ·exact l1
    refine λσ H4 ez9=>e_3 ez9 λpu v8' v9'=>a_2 λez L4=>?_;clear ez9;subst ez
    w_on
    refine ⟨4,rfl,by decide,by decide,cr (λi σ H'=>∃v8:Option V,σ = [some (.ref a),some (.int ((key.length:Nat):Int)),some (.int ((key.length/4+6:Nat):Int)),some (.int ((16*(key.length/4+6+1):Nat):Int)),some (.ref p),some (.int ((power 2 ((nk+(t+1)-1)/nk):Nat):Int)),some (.int ((W.flatten.length:Nat):Int)),some (.ref pu),v8,v9']/\
     Loc H H' [(p,.lst (nv (W.flatten++(range i).map λk=>u.getD k 0 ^^^ W.flatten.getD (W.flatten.length-4*nk+k) 0))),(pu,.lst (nv u))]) ⟨_,rfl,by simpa using L4⟩ ?_ ?_⟩
    ·refine λi σ H5 hi ez9=>e_1 ez9 λv8=>a_2 λez L5=>?_;clear ez9;subst ez
     have hi4:i<4:=hi
     rw[Int.zero_add]
     have hrl:((range i).map λk=>u.getD k 0 ^^^ W.flatten.getD (W.flatten.length-4*nk+k) 0).length=i:=by simp
     walk_at "app"
     rename_i H6 L6
     refine ⟨_,rfl,?_⟩
     rw[range_succ,map_append,<- append_assoc]
     have e3:(W.flatten++(range i).map λk=>u.getD k 0 ^^^ W.flatten.getD (W.flatten.length-4*nk+k) 0).getD (((W.flatten.length:Nat):Int)-((key.length:Nat):Int)+(i:Int)).toNat 0=W.flatten.getD (W.flatten.length-4*nk+i) 0:=by
      rw[show (((W.flatten.length:Nat):Int)-((key.length:Nat):Int)+(i:Int)).toNat=W.flatten.length-4*nk+i by lia]
      exact en (by lia)
     rw[e3] at L6
     exact L6
    ·refine λσ H5 ez9=>e_1 ez9 λv8=>a_2 λez L5=>?_;clear ez9;subst ez
     w_on
     refine i_4 _ _ _ _ ⟨rfl,?_⟩
     rw[hstep]
     exact L5.take 1
  ·w_on
   have et:t=3*nk+28:=by lia
   refine k p H2 ?_
   unfold rks
   rw[le,hnk',<- et,hW]
   exact L2
end
section
variable {P:Program}{w:World}{K:Frag}{mg:Str->Option Value}{base:Heap}{ad:Adr}
theorem qw {H H0:Hp}{ls:List (Addr×HO)}{Q:VK}{E:XK}{a:Addr}{key:NL}(L:Loc H0 H ls)(hs:SqL K H a (nv key))(hk:KeyOk key)(q:∀p H',Loc H0 H' (ls++[(p,.lst (nv (rks key)))])->Q (.ref p) H'):gt K ([.ref a]++[]) H Q E:=
 i_2 a key ⟨rfl,hs,hk,λp H' M=>q p H' (L.calls M)⟩
end
section
variable {P:Program}{w:World}{K:Frag}{mg:Str->Option Value}{base:Heap}{ad:Adr}
def jk (K:Frag):Sp:=λvs H Q _=>∃(a b:Addr)(s rk:NL)(n:Nat),vs=[.ref a,.ref b,.int (n:Int)]/\SqL K H a (nv s)/\SqL K H b (nv rk)/\s.length=16/\n+16<=rk.length/\∀p H',Loc H H' [(p,.lst (nv (Sy22.xor s (Sy22.part rk n 16))))]->Q (.ref p) H'
abbrev fz:Stmt:=top 9
theorem sc_add_key:FnScope ["state","round_keys","at","i"] ["state","round_keys","at"] (Dg fz):=by walk_at "sc"
theorem wo {f:Addr}{fd:FuncData}(F:Fun K "add_key" "add_key" fz f fd)(T:Txt K mg ad)  : FnOk P w K mg base CX0 1 f fd ["state","round_keys","at"] (jk K):=by
 refine F.ok sc_add_key (λvs H Q E h=>?_) (λcdv A outer s H vs Q E hr h=>?_)
 ·k_go0
 refine e_5 h λa b st rk n=>a_6 λez hs hk hl hn k=>?_;clear h;subst ez
 refine ⟨_,(Di (Dm (D0 rfl sc_add_key.nd (DK rfl T.n_range (Dd Dh De)) (DH (own:=[("i",3)]) (by show DX ["state","round_keys","at","i"] (Dg fz) _ _=true;decide +kernel)) (λ_ _ _ _ _=>Dr (i:=3) sc_add_key.nd rfl (Or.inl rfl)) (λ_ _ _ _ _=>DM) (λ_ _ _ _ _=>(Dj DC (Du (ae (K:=K) rfl) (pv 0) (pv 3) (λ_ _=>rfl)) (Du (ae (K:=K) rfl) (pv 1) (Dj DB (pv 2) (pv 3)) (λ_ _=>rfl))))))),?_⟩
 have L0:=Loc.start H
 k_go
 refine ⟨16,rfl,by decide,by decide,?_⟩
 refine yS L0 (by decide) (λi=>st.getD i 0 ^^^ rk.getD (n+i) 0) ?_ ?_
 ·intro i hi H1 D o R L1 r
  have hi:i<16:=hi
  w_on
  exact r
 ·intro D H1 L1
  have e:(range (16:Int).toNat).map (λi=>st.getD i 0 ^^^ rk.getD (n+i) 0)=Sy22.xor st (Sy22.part rk n 16):=An hl hn
  rw[e] at L1
  exact k D H1 L1
theorem ke {H H0:Hp}{ls:List (Addr×HO)}{Q:VK}{E:XK}{a b:Addr}{s rk:NL}{z:Int}(n:Nat)(hz:z=(n:Int))(L:Loc H0 H ls)(hs:SqL K H a (nv s))(hk:SqL K H b (nv rk))(hl:s.length=16)(hn:n+16<=rk.length)(q:∀p H',Loc H0 H' (ls++[(p,.lst (nv (Sy22.xor s (Sy22.part rk n 16))))])->Q (.ref p) H'):jk K ([.ref a,.ref b,.int z]++[]) H Q E:=
 ⟨a,b,s,rk,n,by rw[hz];rfl,hs,hk,hl,hn,λp H' M=>q p H' (L.calls M)⟩
theorem xh (i:Nat):SHIFTL.getD i 0<16:=by
 by_cases h:i<16
 ·have:∀i:Fin 16,SHIFTL.getD i.1 0<16:=by decide
  exact this ⟨i,h⟩
 ·have:SHIFTL.getD i 0=0:=by simp[List.getD,getElem?_eq_none (show SHIFTL.length<=i by simp[SHIFTL];lia)]
  lia
def gk (K:Frag):Sp:=λvs H Q _=>∃(a b:Addr)(s key:NL),vs=[.ref a,.ref b]/\SqL K H a (nv s)/\SqL K H b (nv (rks key))/\Blk s/\KeyOk key/\∀p H',Loc H H' [(p,.lst (nv (block key s)))]->Q (.ref p) H'
abbrev dh:Stmt:=top 11
theorem sc_encipher:FnScope ["block","round_keys","last","state","at","i"] ["block","round_keys"] (Dg dh):=by walk_at "sc"
theorem vh {f:Addr}{fd:FuncData}(F:Fun K "encipher" "encipher" dh f fd)(T:Txt K mg ad)(C_mix:Callee P w K mg base 2 "mix" ["state"] (pb K))(C_add_key:Callee P w K mg base 1 "add_key" ["state","round_keys","at"] (jk K)):FnOk P w K mg base CX0 3 f fd ["block","round_keys"] (gk K):=by
 refine F.ok sc_encipher (λvs H Q E h=>?_) (λcdv A outer s H vs Q E hr h=>?_)
 ·k_go0
 refine e_4 h λa b st key=>a_6 λez hs hk bl kok k=>?_;clear h;subst ez
 refine ⟨_,(Df (Dl (i:=2) sc_encipher.nd rfl (Or.inl rfl) (Dj DV (DE (az (K:=K) rfl) (by rfl) T.n_len aK (Dd (pv 1) De)) Dh))
   (Df (Dl (i:=3) sc_encipher.nd rfl (Or.inr rfl) (ab C_add_key hr.m rfl (Dd (pv 0) (Dd (pv 1) (Dd Dh De)))))
   (Df (DN PassesOwn.never rfl (Ec rfl T.n_range (Dd Dh (Dd (pv 2) (Dd Dh De)))) (Dr (i:=4) sc_encipher.nd rfl (Or.inl rfl)) (Df (Dl (i:=3) sc_encipher.nd rfl (Or.inr rfl) (ab C_mix hr.m rfl (Dd (D0 rfl sc_encipher.nd (GH (D1 (v:=.ref ad.SHIFT) rfl T.g_SHIFT rfl)) (DH (own:=[("i",5)]) (by show DX ["block","round_keys","last","state","at","i"] (Dg dh) _ _=true;decide +kernel)) (λ_ _ _ _ _=>Dr (i:=5) sc_encipher.nd rfl (Or.inl rfl)) (λ_ _ _ _ _=>DM) (λ_ _ _ _ _=>(Du (fZ (K:=K) rfl) (D1 (v:=.ref ad.SUBSTITUTE) rfl T.g_SUBSTITUTE rfl) (Du (ae (K:=K) rfl) (pv 3) (pv 5) (λ_ _=>rfl)) (λ_ _=>rfl)))) De)))
   (Di (Dl (i:=3) sc_encipher.nd rfl (Or.inr rfl) (ab C_add_key hr.m rfl (Dd (pv 3) (Dd (pv 1) (Dd (pv 4) De))))))))
   (Di (Dm (ab C_add_key hr.m rfl (Dd (D0 rfl sc_encipher.nd (GH (D1 (v:=.ref ad.SHIFT) rfl T.g_SHIFT rfl)) (DH (own:=[("i",5)]) (by show DX ["block","round_keys","last","state","at","i"] (Dg dh) _ _=true;decide +kernel)) (λ_ _ _ _ _=>Dr (i:=5) sc_encipher.nd rfl (Or.inl rfl)) (λ_ _ _ _ _=>DM) (λ_ _ _ _ _=>(Du (fZ (K:=K) rfl) (D1 (v:=.ref ad.SUBSTITUTE) rfl T.g_SUBSTITUTE rfl) (Du (ae (K:=K) rfl) (pv 3) (pv 5) (λ_ _=>rfl)) (λ_ _=>rfl)))) (Dd (pv 1) (Dd (pv 2) De))))))))),?_⟩
 have L0:=Loc.start H
 have tS:∀H,SqT K H ad.SUBSTITUTE (nv SUB):=T.t_SUBSTITUTE
 have tH:∀H,SqT K H ad.SHIFT (nv SHIFTL):=T.t_SHIFT
 obtain ⟨hl,hR⟩:=lq kok
 have rb:=mj kok
 rw[uO kok bl] at k
 generalize rounds key=R at *
 generalize rks key=rk at *
 have bln:=bl.len
 k_go
 refine ke 0 rfl L0 hs hk bl.len (by lia) λp H1 L1=>?_
 w_on
 have hRg:RgC ((16:Nat):Int) ((rk.length:Int)-((16:Nat):Int)) ((16:Nat):Int) (R-1):=by
  rw[hl]
  rcases hR with rfl|rfl|rfl<;>exact ⟨by decide,by decide,by decide,by decide⟩
 refine i_4 _ _ _ (R-1) ⟨rfl,hRg,jS (λi σ H'=>∃(ps:Addr)(v4:Option V),σ = [some (.ref a),some (.ref b),some (.int ((rk.length:Int)-((16:Nat):Int))),some (.ref ps),v4,none]/\Loc H H' [(ps,.lst (nv (jT rk st i)))]) ⟨_,_,rfl,L1⟩ ?_ ?_⟩
 ·refine λi σ H2 hi ez9=>e_2 ez9 λps v4=>a_2 λez L2=>?_;clear ez9;subst ez
  have e4:(((16:Nat):Int)+(i:Int)*((16:Nat):Int))=((16*(i+1):Nat):Int):=by lia
  rw[e4]
  have eb:=iD (rk:=rk) bl rb i (by lia)
  have ebl:=eb.len
  w_on
  refine Bp (xs:=SHIFTL) L2 (tH _) (by decide) (λj=>Sy22.sub ((jT rk st i).getD (SHIFTL.getD j 0) 0)) ?_ ?_
  ·intro j hj H7 D o R L7 r
   have hsl:=xh j
   w_on
   refine pF (tS _) (by rw[ng];exact eb.bytes.at_ _) ?_
   rw[kG (eb.bytes.at_ _)]
   exact r
  ·intro D H3 L3
   have e:(range SHIFTL.length).map (λj=>Sy22.sub ((jT rk st i).getD (SHIFTL.getD j 0) 0))=j6 (jT rk st i):=rfl
   rw[e] at L3
   have sb:=iR eb
   w_on
   refine zw L3 (L3.lst 1 rfl) sb.len sb.bytes λq H4 L4=>?_
   w_on
   refine ke (16*(i+1)) rfl L4 (L4.lst 2 rfl) (L4.arg hk) (vC sb).len (by lia) λq2 H5 L5=>?_
   w_on
   exact ⟨q2,_,rfl,L5.pick 3 rfl⟩
 ·refine λσ H2 ez9=>e_2 ez9 λps v4=>a_2 λez L2=>?_;clear ez9;subst ez
  have eb:=iD (rk:=rk) bl rb (R-1) (by lia)
  have ebl:=eb.len
  w_on
  refine Bp (xs:=SHIFTL) L2 (tH _) (by decide) (λi=>Sy22.sub ((jT rk st (R-1)).getD (SHIFTL.getD i 0) 0)) ?_ ?_
  ·intro j hj H7 D o R' L7 r
   have hsl:=xh j
   w_on
   refine pF (tS _) (by rw[ng];exact eb.bytes.at_ _) ?_
   rw[kG (eb.bytes.at_ _)]
   exact r
  ·intro D H3 L3
   have e:(range SHIFTL.length).map (λj=>Sy22.sub ((jT rk st (R-1)).getD (SHIFTL.getD j 0) 0))=j6 (jT rk st (R-1)):=rfl
   rw[e] at L3
   have sb:=iR eb
   w_on
   refine ke (16*R) (by lia) L3 (L3.lst 1 rfl) (L3.arg hk) sb.len (by lia) λq H4 L4=>?_
   exact k q H4 (L4.pick 2 rfl)
theorem ma {H H0:Hp}{ls:List (Addr×HO)}{Q:VK}{E:XK}{a b:Addr}{s key:NL}(L:Loc H0 H ls)(hs:SqL K H a (nv s))(hk:SqL K H b (nv (rks key)))(bl:Blk s)(kok:KeyOk key)(q:∀p H',Loc H0 H' (ls++[(p,.lst (nv (block key s)))])->Q (.ref p) H'):gk K ([.ref a,.ref b]++[]) H Q E:=
 i_4 a b s key ⟨rfl,hs,hk,bl,kok,λp H' M=>q p H' (L.calls M)⟩
end
section
local macro_rules | `(tactic| walk_at "step")=>`(tactic| ((with_reducible apply xt);(walk_at "bd")))
section
variable {P:Program}{w:World}{K:Frag}{mg:Str->Option Value}{base:Heap}{ad:Adr}
def fv (K:Frag):Sp:=λvs H Q _=>∃(x n:Nat),vs=[.int (x:Int),.int (n:Int)]/\x<2 ^ 32/\n<=31/\Q (.int ((left x n:Nat):Int)) H
abbrev eP:Stmt:=top 24
theorem tD:FnScope ["word","count"] ["word","count"] (Dg eP):=by walk_at "sc"
theorem t8 {f:Addr}{fd:FuncData}(F:Fun K "turn_left" "turn_left" eP f fd)(T:Txt K mg ad)  : FnOk P w K mg base CX0 1 f fd ["word","count"] (fv K):=by
 refine F.ok tD (λvs H Q E h=>?_) (λcdv A outer s H vs Q E hr h=>?_)
 ·k_go0
 refine e_2 h λx n=>a_4 λez hx hn q=>?_;clear h;subst ez
 refine ⟨_,(Di (Dm (Dj DW (Dj ED (Dj jw (pv 0) (pv 1)) (Dj Ea (pv 0) (Dj DV Dh (pv 1)))) (gI T.g_MASK)))),?_⟩
 k_go
 rw[vF hx]
 exact q
theorem jc {H:Hp}{Q:VK}{E:XK}{x n:Nat}(hx:x<2 ^ 32)(hn:n<=31)(q:Q (.int ((left x n:Nat):Int)) H):fv K ([.int (x:Int),.int (n:Int)]++[]) H Q E:=i_2 x n ⟨rfl,hx,hn,q⟩
def fL (K:Frag):Sp:=λvs H Q _=>∃(x a b c:Nat),vs=[.int (x:Int),.int (a:Int),.int (b:Int),.int (c:Int)]/\x<2 ^ 32/\a<32/\b<32/\c<32/\Q (.int ((Sy22.right x a ^^^ (Sy22.right x b ^^^ Sy22.right x c):Nat):Int)) H
abbrev cS:Stmt:=top 25
theorem sc_turn_thrice:FnScope ["word","first","second","third","twice"] ["word","first","second","third"] (Dg cS):=by walk_at "sc"
theorem qS {f:Addr}{fd:FuncData}(F:Fun K "turn_thrice" "turn_thrice" cS f fd)(T:Txt K mg ad)  : FnOk P w K mg base CX0 1 f fd ["word","first","second","third"] (fL K):=by
 refine F.ok sc_turn_thrice (λvs H Q E h=>?_) (λcdv A outer s H vs Q E hr h=>?_)
 ·k_go0
 refine e_4 h λx a b c=>a_6 λez hx ha hb hc q=>?_;clear h;subst ez
 refine ⟨_,(Df (Dl (i:=4) sc_turn_thrice.nd rfl (Or.inl rfl) (Dj ED (Dj jw (pv 0) Dh) (pv 0)))
   (Di (Dm (Dj DW (Dj DC (Dj DC (Dj Ea (pv 4) (pv 1)) (Dj Ea (pv 4) (pv 2))) (Dj Ea (pv 4) (pv 3))) (gI T.g_MASK))))),?_⟩
 k_go
 rw[w4 hx ha hb hc]
 exact q
theorem j2 {H:Hp}{Q:VK}{E:XK}{x a b c:Nat}(hx:x<2 ^ 32)(ha:a<32)(hb:b<32)(hc:c<32)(q:Q (.int ((Sy22.right x a ^^^ (Sy22.right x b ^^^ Sy22.right x c):Nat):Int)) H):fL K ([.int (x:Int),.int (a:Int),.int (b:Int),.int (c:Int)]++[]) H Q E:=i_4 x a b c ⟨rfl,hx,ha,hb,hc,q⟩
def dI (K:Frag):Sp:=λvs H Q _=>∃(x a b c:Nat),vs=[.int (x:Int),.int (a:Int),.int (b:Int),.int (c:Int)]/\x<2 ^ 32/\a<32/\b<32/\Q (.int ((Sy22.right x a ^^^ (Sy22.right x b ^^^ x/2 ^ c):Nat):Int)) H
abbrev bK:Stmt:=top 26
theorem sc_turn_and_shift:FnScope ["word","first","second","shift","twice"] ["word","first","second","shift"] (Dg bK):=by walk_at "sc"
theorem nu {f:Addr}{fd:FuncData}(F:Fun K "turn_and_shift" "turn_and_shift" bK f fd)(T:Txt K mg ad)  : FnOk P w K mg base CX0 1 f fd ["word","first","second","shift"] (dI K):=by
 refine F.ok sc_turn_and_shift (λvs H Q E h=>?_) (λcdv A outer s H vs Q E hr h=>?_)
 ·k_go0
 refine e_4 h λx a b c=>a_5 λez hx ha hb q=>?_;clear h;subst ez
 refine ⟨_,(Df (Dl (i:=4) sc_turn_and_shift.nd rfl (Or.inl rfl) (Dj ED (Dj jw (pv 0) Dh) (pv 0)))
   (Di (Dm (Dj DW (Dj DC (Dj DC (Dj Ea (pv 4) (pv 1)) (Dj Ea (pv 4) (pv 2))) (Dj Ea (pv 0) (pv 3))) (gI T.g_MASK))))),?_⟩
 k_go
 rw[yr hx ha hb]
 exact q
theorem iM {H:Hp}{Q:VK}{E:XK}{x a b c:Nat}(hx:x<2 ^ 32)(ha:a<32)(hb:b<32)(q:Q (.int ((Sy22.right x a ^^^ (Sy22.right x b ^^^ x/2 ^ c):Nat):Int)) H):dI K ([.int (x:Int),.int (a:Int),.int (b:Int),.int (c:Int)]++[]) H Q E:=i_4 x a b c ⟨rfl,hx,ha,hb,q⟩
def gj (K:Frag):Sp:=λvs H Q _=>∃(a:Addr)(b:NL),vs=[.ref a]/\SqL K H a (nv b)/\Bytes b/\b.length=64/\∀p H',Loc H H' [(p,.lst (nv (Sy22.wordsOf b)))]->Q (.ref p) H'
abbrev eE:Stmt:=top 27
theorem sc_words_of:FnScope ["block","at"] ["block"] (Dg eE):=by walk_at "sc"
theorem vd {f:Addr}{fd:FuncData}(F:Fun K "words_of" "words_of" eE f fd)(T:Txt K mg ad)(C_number_of:Callee P w K mg base 1 "number_of" ["data"] (bU K)):FnOk P w K mg base CX0 2 f fd ["block"] (gj K):=by
 refine F.ok sc_words_of (λvs H Q E h=>?_) (λcdv A outer s H vs Q E hr h=>?_)
 ·k_go0
 refine e_2 h λa b=>a_5 λez hs hb hl k=>?_;clear h;subst ez
 refine ⟨_,(Di (Dm (D0 rfl sc_words_of.nd (Ec rfl T.n_range (Dd Dh (Dd (DE (az (K:=K) rfl) (by rfl) T.n_len aK (Dd (pv 0) De)) (Dd Dh De)))) (DH (own:=[("at",1)]) (by show DX ["block","at"] (Dg eE) _ _=true;decide +kernel)) (λ_ _ _ _ _=>Dr (i:=1) sc_words_of.nd rfl (Or.inl rfl)) (λ_ _ _ _ _=>DM) (λ_ _ _ _ _=>(ab C_number_of hr.m rfl (Dd (DD (aj (K:=K) rfl) (pv 0) (Dy (pv 1)) (Dy (Dj DB (pv 1) Dh))) De)))))),?_⟩
 have L0:=Loc.start H
 k_go
 rw[hl]
 refine i_4 _ _ _ 16 ⟨rfl,⟨by decide,by decide,by decide,by decide⟩,?_⟩
 refine xK L0 (by decide) (λi=>bigOf (Sy22.part b (4*i) 4)) ?_ ?_
 ·intro i hi H1 R sm r
  rw[show ((0:Nat):Int)+(i:Int)*((4:Nat):Int)=((4*i:Nat):Int) by lia]
  have hsz:=sm.seq hs
  w_on
  refine ap (Loc.start H1) hsz λp H2 L2=>?_
  rw[ed (by lia) (by lia) (by lia),Int.toNat_natCast,Int.toNat_natCast] at L2
  have e5:My.cut b (4*i) (4*i+4)=Sy22.part b (4*i) 4:=by unfold My.cut Sy22.part;rw[add_sub_cancel_left]
  rw[e5] at L2
  w_on
  refine eJ (L2.lst 0 rfl) (dm hb _ _) (by rw[dD (by lia)];decide) ?_
  exact r H2 _ L2
 ·intro D H1 L1
  have e:Sy22.wordsOf b=(range 16).map λi=>bigOf (Sy22.part b (4*i) 4):=by
   unfold Sy22.wordsOf pieces
   rw[hl,map_map]
   rfl
  rw[<- e] at L1
  exact k D H1 L1
theorem lX {H H0:Hp}{ls:List (Addr×HO)}{Q:VK}{E:XK}{a:Addr}{b:NL}(L:Loc H0 H ls)(hs:SqL K H a (nv b))(hb:Bytes b)(hl:b.length=64)(q:∀p H',Loc H0 H' (ls++[(p,.lst (nv (Sy22.wordsOf b)))])->Q (.ref p) H'):gj K ([.ref a]++[]) H Q E:=
 i_2 a b ⟨rfl,hs,hb,hl,λp H' M=>q p H' (L.calls M)⟩
def dL (K:Frag):Sp:=λvs H Q _=>∃(a:Addr)(b:NL),vs=[.ref a]/\SqL K H a (nv b)/\Bytes b/\b.length=64/\∀p H',Loc H H' [(p,.lst (nv (more1 (Sy22.wordsOf b))))]->Q (.ref p) H'
abbrev bM:Stmt:=top 28
theorem sc_spread_block_1:FnScope ["block","words","at"] ["block"] (Dg bM):=by walk_at "sc"
theorem ny {f:Addr}{fd:FuncData}(F:Fun K "spread_block_1" "spread_block_1" bM f fd)(T:Txt K mg ad)(C_turn_left:Callee P w K mg base 1 "turn_left" ["word","count"] (fv K))(C_words_of:Callee P w K mg base 2 "words_of" ["block"] (gj K)):FnOk P w K mg base CX0 3 f fd ["block"] (dL K):=by
 refine F.ok sc_spread_block_1 (λvs H Q E h=>?_) (λcdv A outer s H vs Q E hr h=>?_)
 ·k_go0
 refine e_2 h λa b=>a_5 λez hs hb hl k=>?_;clear h;subst ez
 refine ⟨_,(Df (Dl (i:=1) sc_spread_block_1.nd rfl (Or.inl rfl) (ab C_words_of hr.m rfl (Dd (pv 0) De)))
   (Df (DN PassesOwn.never rfl (EC rfl T.n_range (Dd Dh (Dd Dh De))) (Dr (i:=2) sc_spread_block_1.nd rfl (Or.inl rfl)) (Di (DG (D2 PySem.F.plainAttrs_list PySem.F.slot_list_append PySem.F.type_list_append D6 (pv 1) (Dd (ab C_turn_left hr.m rfl (Dd (Dj DC (Dj DC (Dj DC (Du (ae (K:=K) rfl) (pv 1) (Dj DV (pv 2) Dh) (λ_ _=>rfl)) (Du (ae (K:=K) rfl) (pv 1) (Dj DV (pv 2) Dh) (λ_ _=>rfl))) (Du (ae (K:=K) rfl) (pv 1) (Dj DV (pv 2) Dh) (λ_ _=>rfl))) (Du (ae (K:=K) rfl) (pv 1) (Dj DV (pv 2) Dh) (λ_ _=>rfl))) (Dd Dh De))) De)))))
   (Di (Dm (pv 1))))),?_⟩
 have L0:=Loc.start H
 have wl:(Sy22.wordsOf b).length=16:=by rw[j1,hl]
 have ww:=sN hb
 rw[uA] at k
 k_go
 refine lX L0 hs hb hl λp H1 L1=>?_
 w_on
 refine i_2 _ _ ⟨rfl,by decide,?_⟩
 refine cr (n:=64) (λi σ H'=>∃(v2:Option V),σ = [some (.ref a),some (.ref p),v2]/\Loc H H' [(p,.lst (nv (it sp1 (Sy22.wordsOf b) i)))]) ⟨_,rfl,L1⟩ ?_ ?_
 ·refine λi σ H2 hi ez9=>e_1 ez9 λv2=>a_2 λez L2=>?_;clear ez9;subst ez
  rw[show ((16:Nat):Int)+(i:Int)=((16+i:Nat):Int) by lia]
  have il:=rC (Sy22.wordsOf b) i
  have iw:=xO ww i
  rw[wl] at il
  have e:=AF il
  rw[show it sp1 (Sy22.wordsOf b) (i+1)=sp1 (it sp1 (Sy22.wordsOf b) i) from rfl]
  rw[e]
  generalize it sp1 (Sy22.wordsOf b) i=W at *
  w_on
  refine jc (mR (mR (mR (iw.at_ _) (iw.at_ _)) (iw.at_ _)) (iw.at_ _)) (by decide) ?_
  walk_at "app"
  exact ⟨_,rfl,by assumption⟩
 ·refine λσ H2 ez9=>e_1 ez9 λv2=>a_2 λez L2=>?_;clear ez9;subst ez
  w_on
  exact k p H2 L2
theorem lZ {H H0:Hp}{ls:List (Addr×HO)}{Q:VK}{E:XK}{a:Addr}{b:NL}(L:Loc H0 H ls)(hs:SqL K H a (nv b))(hb:Bytes b)(hl:b.length=64)(q:∀p H',Loc H0 H' (ls++[(p,.lst (nv (more1 (Sy22.wordsOf b))))])->Q (.ref p) H'):dL K ([.ref a]++[]) H Q E:=
 i_2 a b ⟨rfl,hs,hb,hl,λp H' M=>q p H' (L.calls M)⟩
def dJ (K:Frag):Sp:=λvs H Q _=>∃(a:Addr)(b:NL),vs=[.ref a]/\SqL K H a (nv b)/\Bytes b/\b.length=64/\∀p H',Loc H H' [(p,.lst (nv (more2 (Sy22.wordsOf b))))]->Q (.ref p) H'
abbrev bL:Stmt:=top 31
theorem sc_spread_block_2:FnScope ["block","words","at","early","late"] ["block"] (Dg bL):=by walk_at "sc"
theorem nw {f:Addr}{fd:FuncData}(F:Fun K "spread_block_2" "spread_block_2" bL f fd)(T:Txt K mg ad)(C_turn_and_shift:Callee P w K mg base 1 "turn_and_shift" ["word","first","second","shift"] (dI K))(C_words_of:Callee P w K mg base 2 "words_of" ["block"] (gj K)):FnOk P w K mg base CX0 3 f fd ["block"] (dJ K):=by
 refine F.ok sc_spread_block_2 (λvs H Q E h=>?_) (λcdv A outer s H vs Q E hr h=>?_)
 ·k_go0
 refine e_2 h λa b=>a_5 λez hs hb hl k=>?_;clear h;subst ez
 refine ⟨_,(Df (Dl (i:=1) sc_spread_block_2.nd rfl (Or.inl rfl) (ab C_words_of hr.m rfl (Dd (pv 0) De)))
   (Df (DN PassesOwn.never rfl (EC rfl T.n_range (Dd Dh (Dd Dh De))) (Dr (i:=2) sc_spread_block_2.nd rfl (Or.inl rfl)) (Df (Dl (i:=3) sc_spread_block_2.nd rfl (Or.inl rfl) (ab C_turn_and_shift hr.m rfl (Dd (Du (ae (K:=K) rfl) (pv 1) (Dj DV (pv 2) Dh) (λ_ _=>rfl)) (Dd Dh (Dd Dh (Dd Dh De))))))
   (Df (Dl (i:=4) sc_spread_block_2.nd rfl (Or.inl rfl) (ab C_turn_and_shift hr.m rfl (Dd (Du (ae (K:=K) rfl) (pv 1) (Dj DV (pv 2) Dh) (λ_ _=>rfl)) (Dd Dh (Dd Dh (Dd Dh De))))))
   (Di (DG (D2 PySem.F.plainAttrs_list PySem.F.slot_list_append PySem.F.type_list_append D6 (pv 1) (Dd (Dj DW (Dj DB (Dj DB (Dj DB (Du (ae (K:=K) rfl) (pv 1) (Dj DV (pv 2) Dh) (λ_ _=>rfl)) (pv 3)) (Du (ae (K:=K) rfl) (pv 1) (Dj DV (pv 2) Dh) (λ_ _=>rfl))) (pv 4)) (gI T.g_MASK)) De)))))))
   (Di (Dm (pv 1))))),?_⟩
 have L0:=Loc.start H
 have wl:(Sy22.wordsOf b).length=16:=by rw[j1,hl]
 have ww:=sN hb
 rw[uz] at k
 k_go
 refine lX L0 hs hb hl λp H1 L1=>?_
 w_on
 refine i_2 _ _ ⟨rfl,by decide,?_⟩
 refine cr (n:=48) (λi σ H'=>∃(v2 v3 v4:Option V),σ = [some (.ref a),some (.ref p),v2,v3,v4]/\Loc H H' [(p,.lst (nv (it sp2 (Sy22.wordsOf b) i)))]) ⟨_,_,_,rfl,L1⟩ ?_ ?_
 ·refine λi σ H2 hi ez9=>e_3 ez9 λv2 v3 v4=>a_2 λez L2=>?_;clear ez9;subst ez
  rw[show ((16:Nat):Int)+(i:Int)=((16+i:Nat):Int) by lia]
  have il:=rB (Sy22.wordsOf b) i
  have iw:=xN ww i
  rw[wl] at il
  have e:=AD il
  rw[show it sp2 (Sy22.wordsOf b) (i+1)=sp2 (it sp2 (Sy22.wordsOf b) i) from rfl]
  rw[e]
  generalize it sp2 (Sy22.wordsOf b) i=W at *
  w_on
  refine iM (iw.at_ _) (by decide) (by decide) ?_
  w_on
  refine iM (iw.at_ _) (by decide) (by decide) ?_
  walk_at "app"
  exact i_3 _ _ _ ⟨rfl,by assumption⟩
 ·refine λσ H2 ez9=>e_3 ez9 λv2 v3 v4=>a_2 λez L2=>?_;clear ez9;subst ez
  w_on
  exact k p H2 L2
theorem lY {H H0:Hp}{ls:List (Addr×HO)}{Q:VK}{E:XK}{a:Addr}{b:NL}(L:Loc H0 H ls)(hs:SqL K H a (nv b))(hb:Bytes b)(hl:b.length=64)(q:∀p H',Loc H0 H' (ls++[(p,.lst (nv (more2 (Sy22.wordsOf b))))])->Q (.ref p) H'):dJ K ([.ref a]++[]) H Q E:=
 i_2 a b ⟨rfl,hs,hb,hl,λp H' M=>q p H' (L.calls M)⟩
def cho (t b c d:Nat):Nat:=if t<20 then (b &&& c) ||| (Sy22.other b &&& d) else if 40<=t/\t<60 then (b &&& c) ||| ((b &&& d) ||| (c &&& d)) else b ^^^ (c ^^^ d)
def iI (K:Frag):Sp:=λvs H Q _=>∃(t b c d:Nat),vs=[.int (t:Int),.int (b:Int),.int (c:Int),.int (d:Int)]/\b<2 ^ 32/\d<2 ^ 32/\Q (.int ((cho t b c d:Nat):Int)) H
abbrev fV:Stmt:=top 29
theorem u5:FnScope ["at","b","c","d"] ["at","b","c","d"] (Dg fV):=by walk_at "sc"
theorem vi {f:Addr}{fd:FuncData}(F:Fun K "choose_1" "choose_1" fV f fd)(T:Txt K mg ad)  : FnOk P w K mg base CX0 1 f fd ["at","b","c","d"] (iI K):=by
 refine F.ok u5 (λvs H Q E h=>?_) (λcdv A outer s H vs Q E hr h=>?_)
 ·k_go0
 refine e_4 h λt b c d=>a_4 λez hb hd q=>?_;clear h;subst ez
 refine ⟨_,(Df (DF (Dt Fj (pv 0) Dh (Dv _)) (Di (Dm (Dj DC (pv 3) (Dj DW (pv 1) (Dj DC (pv 2) (pv 3)))))) Dx)
   (Df (DF (pt_chain Fk Fj Dh (pv 0) Dh) (Di (Dm (Dj ED (Dj DW (pv 1) (pv 2)) (Dj DW (pv 3) (Dj ED (pv 1) (pv 2)))))) Dx)
   (Di (Dm (Dj DC (Dj DC (pv 1) (pv 2)) (pv 3)))))),?_⟩
 unfold cho at q
 k_go
 refine bZ (λhc=>?_) (λhc=>?_)
 ·rw[if_pos hc] at q
  w_on
  rw[BA hb hd]
  exact q
 ·rw[if_neg hc] at q
  w_on
  refine bZ (λhc2=>?_) (λhc2=>?_)
  ·w_on
   refine bZ (λhc3=>?_) (λhc3=>?_)
   ·rw[if_pos ⟨hc2,hc3⟩] at q
    w_on
    rw[z6]
    exact q
   ·rw[if_neg (by lia)] at q
    w_on
    rw[xor_assoc]
    exact q
  ·rw[if_neg (by lia)] at q
   w_left
   rw[xor_assoc]
   exact q
theorem sS {H:Hp}{Q:VK}{E:XK}{t b c d:Nat}(hb:b<2 ^ 32)(hd:d<2 ^ 32)(q:Q (.int ((cho t b c d:Nat):Int)) H):iI K ([.int (t:Int),.int (b:Int),.int (c:Int),.int (d:Int)]++[]) H Q E:=i_4 t b c d ⟨rfl,hb,hd,q⟩
end
section
variable {P:Program}{w:World}{K:Frag}{mg:Str->Option Value}{base:Heap}{ad:Adr}
def fO (K:Frag):Sp:=λvs H Q _=>∃(a c:Addr)(s b:NL),vs=[.ref a,.ref c]/\SqL K H a (nv s)/\SqL K H c (nv b)/\St 2 s/\Bytes b/\b.length=64/\∀p H',Loc H H' [(p,.lst (nv (block2 s b)))]->Q (.ref p) H'
abbrev cx:Stmt:=top 32
theorem sc_add_block_2:FnScope ["state","block","words","a","b","c","d","e","f","g","h","at","step","other","was","now"] ["state","block"] (Dg cx):=by walk_at "sc"
theorem q0 {f:Addr}{fd:FuncData}(F:Fun K "add_block_2" "add_block_2" cx f fd)(T:Txt K mg ad)(C_turn_thrice:Callee P w K mg base 1 "turn_thrice" ["word","first","second","third"] (fL K))(C_spread_block_2:Callee P w K mg base 3 "spread_block_2" ["block"] (dJ K)):FnOk P w K mg base CX0 4 f fd ["state","block"] (fO K):=by
 refine F.ok sc_add_block_2 (λvs H Q E h=>?_) (λcdv A outer s H vs Q E hr h=>?_)
 ·k_go0
 refine e_4 h λa c st b=>a_7 λez hs hc hst hb hl k=>?_;clear h;subst ez
 refine ⟨_,(Df (Dl (i:=2) sc_add_block_2.nd rfl (Or.inl rfl) (ab C_spread_block_2 hr.m rfl (Dd (pv 1) De)))
   (Df (Dl (i:=3) sc_add_block_2.nd rfl (Or.inl rfl) (Du (ae (K:=K) rfl) (pv 0) Dh (λ_ _=>rfl)))
   (Df (Dl (i:=4) sc_add_block_2.nd rfl (Or.inl rfl) (Du (ae (K:=K) rfl) (pv 0) Dh (λ_ _=>rfl)))
   (Df (Dl (i:=5) sc_add_block_2.nd rfl (Or.inl rfl) (Du (ae (K:=K) rfl) (pv 0) Dh (λ_ _=>rfl)))
   (Df (Dl (i:=6) sc_add_block_2.nd rfl (Or.inl rfl) (Du (ae (K:=K) rfl) (pv 0) Dh (λ_ _=>rfl)))
   (Df (Dl (i:=7) sc_add_block_2.nd rfl (Or.inl rfl) (Du (ae (K:=K) rfl) (pv 0) Dh (λ_ _=>rfl)))
   (Df (Dl (i:=8) sc_add_block_2.nd rfl (Or.inl rfl) (Du (ae (K:=K) rfl) (pv 0) Dh (λ_ _=>rfl)))
   (Df (Dl (i:=9) sc_add_block_2.nd rfl (Or.inl rfl) (Du (ae (K:=K) rfl) (pv 0) Dh (λ_ _=>rfl)))
   (Df (Dl (i:=10) sc_add_block_2.nd rfl (Or.inl rfl) (Du (ae (K:=K) rfl) (pv 0) Dh (λ_ _=>rfl)))
   (Df (DN PassesOwn.never rfl (DK rfl T.n_range (Dd Dh De)) (Dr (i:=11) sc_add_block_2.nd rfl (Or.inl rfl)) (Df (Dl (i:=12) sc_add_block_2.nd rfl (Or.inl rfl) (Dj DB (Dj DB (Dj DB (Dj DB (pv 10) (ab C_turn_thrice hr.m rfl (Dd (pv 7) (Dd Dh (Dd Dh (Dd Dh De)))))) (Dj DC (pv 9) (Dj DW (pv 7) (Dj DC (pv 8) (pv 9))))) (Du (fZ (K:=K) rfl) (D1 (v:=.ref ad.CONSTANTS_2) rfl T.g_CONSTANTS_2 rfl) (pv 11) (λ_ _=>rfl))) (Du (ae (K:=K) rfl) (pv 2) (pv 11) (λ_ _=>rfl))))
   (Df (Dl (i:=13) sc_add_block_2.nd rfl (Or.inl rfl) (Dj DB (ab C_turn_thrice hr.m rfl (Dd (pv 3) (Dd Dh (Dd Dh (Dd Dh De))))) (Dj ED (Dj DW (pv 3) (pv 4)) (Dj DW (pv 5) (Dj ED (pv 3) (pv 4))))))
   (Df (Dl (i:=10) sc_add_block_2.nd rfl (Or.inl rfl) (pv 9))
   (Df (Dl (i:=9) sc_add_block_2.nd rfl (Or.inl rfl) (pv 8))
   (Df (Dl (i:=8) sc_add_block_2.nd rfl (Or.inl rfl) (pv 7))
   (Df (Dl (i:=7) sc_add_block_2.nd rfl (Or.inl rfl) (Dj DW (Dj DB (pv 6) (pv 12)) (gI T.g_MASK)))
   (Df (Dl (i:=6) sc_add_block_2.nd rfl (Or.inl rfl) (pv 5))
   (Df (Dl (i:=5) sc_add_block_2.nd rfl (Or.inl rfl) (pv 4))
   (Df (Dl (i:=4) sc_add_block_2.nd rfl (Or.inl rfl) (pv 3))
   (Di (Dl (i:=3) sc_add_block_2.nd rfl (Or.inl rfl) (Dj DW (Dj DB (pv 12) (pv 13)) (gI T.g_MASK))))))))))))))
   (Di (Dm (D0 rfl sc_add_block_2.nd (mY (K:=K) rfl rfl T.n_zip (Dd (pv 0) (Dd (DA (Dd (pv 3) (Dd (pv 4) (Dd (pv 5) (Dd (pv 6) (Dd (pv 7) (Dd (pv 8) (Dd (pv 9) (Dd (pv 10) De))))))))) De))) (DH (own:=[("was",14),("now",15)]) (by show DX ["state","block","words","a","b","c","d","e","f","g","h","at","step","other","was","now"] (Dg cx) _ _=true;decide +kernel)) (λ_ _ _ _ _=>(mZ (K:=K) (n:=2) rfl rfl (Ed (Dr (i:=14) sc_add_block_2.nd rfl (Or.inl rfl)) (Ed (Dr (i:=15) sc_add_block_2.nd rfl (Or.inl rfl)) E6)))) (λ_ _ _ _ _=>DM) (λ_ _ _ _ _=>(Dj DW (Dj DB (pv 14) (pv 15)) (gI T.g_MASK)))))))))))))))),?_⟩
 have L0:=Loc.start H
 have sl:st.length=8:=hst.len
 have tC:∀H,SqT K H ad.CONSTANTS_2 (nv K2):=T.t_CONSTANTS_2
 have kl:K2.length=64:=rfl
 have wl:(more2 (Sy22.wordsOf b)).length=64:=by rw[uz,rB,j1,hl]
 have eb:=wL st b
 rw[eb] at k
 k_go
 refine lY L0 hc hb hl λp H1 L1=>?_
 have hs1:=L1.arg hs
 generalize more2 (Sy22.wordsOf b)=W at *
 w_on
 refine ⟨64,rfl,by decide,by decide,?_⟩
 refine cr (n:=64) (λi σ H'=>∃(v11 v12 v13:Option V),σ = [some (.ref a),some (.ref c),some (.ref p),some (.int (((fg W st i).getD 0 0:Nat):Int)),some (.int (((fg W st i).getD 1 0:Nat):Int)),some (.int (((fg W st i).getD 2 0:Nat):Int)),some (.int (((fg W st i).getD 3 0:Nat):Int)),some (.int (((fg W st i).getD 4 0:Nat):Int)),some (.int (((fg W st i).getD 5 0:Nat):Int)),some (.int (((fg W st i).getD 6 0:Nat):Int)),some (.int (((fg W st i).getD 7 0:Nat):Int)),v11,v12,v13,none,none]/\H'=H1) ⟨_,_,_,rfl,rfl⟩ ?_ ?_
 ·refine λi σ H2 hi ez9=>e_3 ez9 λv11 v12 v13=>a_2 λez ey=>?_;clear ez9;subst ez;subst ey
  have hi:i<64:=hi
  rw[Int.zero_add]
  obtain ⟨cl,cw⟩:=na (W:=W) sl hst.ws i
  rw[sg]
  unfold step2
  generalize fg W st i=C at *
  w_on
  refine j2 (cw.at_ _) (by decide) (by decide) (by decide) ?_
  w_on
  refine j2 (cw.at_ _) (by decide) (by decide) (by decide) ?_
  w_on
  rw[fY,fY,Bz (cw.at_ 4) (cw.at_ 6),z5,y9]
  exact i_3 _ _ _ ⟨rfl,rfl⟩
 ·refine λσ H2 ez9=>e_3 ez9 λv11 v12 v13=>a_2 λez ey=>?_;clear ez9;subst ez;subst ey
  obtain ⟨cl,cw⟩:=na (W:=W) sl hst.ws 64
  w_on
  apply aF L1 (by show 8<=sizeLine;decide)
  intro p2 H3 L3
  have e8:=Cq cl
  generalize fg W st 64=C at *
  have L3:Loc H H3 [(p,.lst (nv W)),(p2,.lst (nv C))]:=by rw[e8];exact L3
  have hs3:=L3.arg hs
  w_on
  refine yR (xs:=st) (ys:=C) L3 hs3 (L3.lst 1 rfl) (by rw[sl,cl]) (by rw[sl];decide) (λi=>(st.getD i 0+C.getD i 0) &&& 4294967295) ?_ ?_
  ·intro i hi H4 D T o o' R L4 r
   simp only[wipe,foldl_cons,foldl_nil,set_cons_zero,set_cons_succ]
   w_on
   exact r
  ·intro D H4 L4
   rw[nQ (by rw[sl,cl])] at L4
   exact k D H4 (L4.pick 2 rfl)
theorem oX {H H0:Hp}{ls:List (Addr×HO)}{Q:VK}{E:XK}{a c:Addr}{s b:NL}(L:Loc H0 H ls)(hs:SqL K H a (nv s))(hc:SqL K H c (nv b))(hst:St 2 s)(hb:Bytes b)(hl:b.length=64)(q:∀p H',Loc H0 H' (ls++[(p,.lst (nv (block2 s b)))])->Q (.ref p) H'):fO K ([.ref a,.ref c]++[]) H Q E:=
 i_4 a c s b ⟨rfl,hs,hc,hst,hb,hl,λp H' M=>q p H' (L.calls M)⟩
end
section
variable {P:Program}{w:World}{K:Frag}{mg:Str->Option Value}{base:Heap}{ad:Adr}
def fP (K:Frag):Sp:=λvs H Q _=>∃(a c:Addr)(s b:NL),vs=[.ref a,.ref c]/\SqL K H a (nv s)/\SqL K H c (nv b)/\St 1 s/\Bytes b/\b.length=64/\∀p H',Loc H H' [(p,.lst (nv (block1 s b)))]->Q (.ref p) H'
abbrev cy:Stmt:=top 30
theorem sc_add_block_1:FnScope ["state","block","words","a","b","c","d","e","at","step","was","now"] ["state","block"] (Dg cy):=by walk_at "sc"
theorem ra {f:Addr}{fd:FuncData}(F:Fun K "add_block_1" "add_block_1" cy f fd)(T:Txt K mg ad)(C_turn_left:Callee P w K mg base 1 "turn_left" ["word","count"] (fv K))(C_spread_block_1:Callee P w K mg base 3 "spread_block_1" ["block"] (dL K))(C_choose_1:Callee P w K mg base 1 "choose_1" ["at","b","c","d"] (iI K)):FnOk P w K mg base CX0 4 f fd ["state","block"] (fP K):=by
 refine F.ok sc_add_block_1 (λvs H Q E h=>?_) (λcdv A outer s H vs Q E hr h=>?_)
 ·k_go0
 refine e_4 h λa c st b=>a_7 λez hs hc hst hb hl k=>?_;clear h;subst ez
 refine ⟨_,(Df (Dl (i:=2) sc_add_block_1.nd rfl (Or.inl rfl) (ab C_spread_block_1 hr.m rfl (Dd (pv 1) De)))
   (Df (Dl (i:=3) sc_add_block_1.nd rfl (Or.inl rfl) (Du (ae (K:=K) rfl) (pv 0) Dh (λ_ _=>rfl)))
   (Df (Dl (i:=4) sc_add_block_1.nd rfl (Or.inl rfl) (Du (ae (K:=K) rfl) (pv 0) Dh (λ_ _=>rfl)))
   (Df (Dl (i:=5) sc_add_block_1.nd rfl (Or.inl rfl) (Du (ae (K:=K) rfl) (pv 0) Dh (λ_ _=>rfl)))
   (Df (Dl (i:=6) sc_add_block_1.nd rfl (Or.inl rfl) (Du (ae (K:=K) rfl) (pv 0) Dh (λ_ _=>rfl)))
   (Df (Dl (i:=7) sc_add_block_1.nd rfl (Or.inl rfl) (Du (ae (K:=K) rfl) (pv 0) Dh (λ_ _=>rfl)))
   (Df (DN PassesOwn.never rfl (DK rfl T.n_range (Dd Dh De)) (Dr (i:=8) sc_add_block_1.nd rfl (Or.inl rfl)) (Df (Dl (i:=9) sc_add_block_1.nd rfl (Or.inl rfl) (Dj DB (Dj DB (Dj DB (Dj DB (ab C_turn_left hr.m rfl (Dd (pv 3) (Dd Dh De))) (ab C_choose_1 hr.m rfl (Dd (pv 8) (Dd (pv 4) (Dd (pv 5) (Dd (pv 6) De)))))) (pv 7)) (Du (fZ (K:=K) rfl) (D1 (v:=.ref ad.CONSTANTS_1) rfl T.g_CONSTANTS_1 rfl) (Dj Em (pv 8) Dh) (λ_ _=>rfl))) (Du (ae (K:=K) rfl) (pv 2) (pv 8) (λ_ _=>rfl))))
   (Df (Dl (i:=7) sc_add_block_1.nd rfl (Or.inl rfl) (pv 6))
   (Df (Dl (i:=6) sc_add_block_1.nd rfl (Or.inl rfl) (pv 5))
   (Df (Dl (i:=5) sc_add_block_1.nd rfl (Or.inl rfl) (ab C_turn_left hr.m rfl (Dd (pv 4) (Dd Dh De))))
   (Df (Dl (i:=4) sc_add_block_1.nd rfl (Or.inl rfl) (pv 3))
   (Di (Dl (i:=3) sc_add_block_1.nd rfl (Or.inl rfl) (Dj DW (pv 9) (gI T.g_MASK))))))))))
   (Di (Dm (D0 rfl sc_add_block_1.nd (mY (K:=K) rfl rfl T.n_zip (Dd (pv 0) (Dd (DA (Dd (pv 3) (Dd (pv 4) (Dd (pv 5) (Dd (pv 6) (Dd (pv 7) De)))))) De))) (DH (own:=[("was",10),("now",11)]) (by show DX ["state","block","words","a","b","c","d","e","at","step","was","now"] (Dg cy) _ _=true;decide +kernel)) (λ_ _ _ _ _=>(mZ (K:=K) (n:=2) rfl rfl (Ed (Dr (i:=10) sc_add_block_1.nd rfl (Or.inl rfl)) (Ed (Dr (i:=11) sc_add_block_1.nd rfl (Or.inl rfl)) E6)))) (λ_ _ _ _ _=>DM) (λ_ _ _ _ _=>(Dj DW (Dj DB (pv 10) (pv 11)) (gI T.g_MASK))))))))))))),?_⟩
 have L0:=Loc.start H
 have sl:st.length=5:=hst.len
 have tC:∀H,SqT K H ad.CONSTANTS_1 (nv K1):=T.t_CONSTANTS_1
 have kl:K1.length=4:=rfl
 have wl:(more1 (Sy22.wordsOf b)).length=80:=by rw[uA,rC,j1,hl]
 have eb:=wM st b
 rw[eb] at k
 k_go
 refine lZ L0 hc hb hl λp H1 L1=>?_
 have hs1:=L1.arg hs
 generalize more1 (Sy22.wordsOf b)=W at *
 w_on
 refine ⟨80,rfl,by decide,by decide,?_⟩
 refine cr (n:=80) (λi σ H'=>∃(v8 v9:Option V),σ = [some (.ref a),some (.ref c),some (.ref p),some (.int (((gG W st i).getD 0 0:Nat):Int)),some (.int (((gG W st i).getD 1 0:Nat):Int)),some (.int (((gG W st i).getD 2 0:Nat):Int)),some (.int (((gG W st i).getD 3 0:Nat):Int)),some (.int (((gG W st i).getD 4 0:Nat):Int)),v8,v9,none,none]/\H'=H1) ⟨_,_,rfl,rfl⟩ ?_ ?_
 ·refine λi σ H2 hi ez9=>e_2 ez9 λv8 v9=>a_2 λez ey=>?_;clear ez9;subst ez;subst ey
  have hi:i<80:=hi
  rw[Int.zero_add]
  obtain ⟨cl,cw⟩:=nc (W:=W) sl hst.ws i
  rw[si]
  unfold step1
  generalize gG W st i=C at *
  w_on
  refine jc (cw.at_ _) (by decide) ?_
  w_on
  refine sS (cw.at_ _) (cw.at_ _) ?_
  w_on
  refine jc (cw.at_ _) (by decide) ?_
  w_on
  simp only[cho,Sy22.at_,fY,yW,qp,List.getD_cons_zero,List.getD_cons_succ]
  first|exact ⟨_,_,rfl,rfl⟩|exact ⟨_,_,rfl,trivial⟩
 ·refine λσ H2 ez9=>e_2 ez9 λv8 v9=>a_2 λez ey=>?_;clear ez9;subst ez;subst ey
  obtain ⟨cl,cw⟩:=nc (W:=W) sl hst.ws 80
  w_on
  apply aF L1 (by show 5<=sizeLine;decide)
  intro p2 H3 L3
  have e8:=CV cl
  generalize gG W st 80=C at *
  have L3:Loc H H3 [(p,.lst (nv W)),(p2,.lst (nv C))]:=by rw[e8];exact L3
  have hs3:=L3.arg hs
  w_on
  refine yR (xs:=st) (ys:=C) L3 hs3 (L3.lst 1 rfl) (by rw[sl,cl]) (by rw[sl];decide) (λi=>(st.getD i 0+C.getD i 0) &&& 4294967295) ?_ ?_
  ·intro i hi H4 D T o o' R L4 r
   simp only[wipe,foldl_cons,foldl_nil,set_cons_zero,set_cons_succ]
   w_on
   exact r
  ·intro D H4 L4
   rw[nQ (by rw[sl,cl])] at L4
   exact k D H4 (L4.pick 2 rfl)
theorem oY {H H0:Hp}{ls:List (Addr×HO)}{Q:VK}{E:XK}{a c:Addr}{s b:NL}(L:Loc H0 H ls)(hs:SqL K H a (nv s))(hc:SqL K H c (nv b))(hst:St 1 s)(hb:Bytes b)(hl:b.length=64)(q:∀p H',Loc H0 H' (ls++[(p,.lst (nv (block1 s b)))])->Q (.ref p) H'):fP K ([.ref a,.ref c]++[]) H Q E:=
 i_4 a c s b ⟨rfl,hs,hc,hst,hb,hl,λp H' M=>q p H' (L.calls M)⟩
end
section
variable {P:Program}{w:World}{K:Frag}{mg:Str->Option Value}{base:Heap}{ad:Adr}
theorem BV (m:Fin 100):RgC ((0:Nat):Int) ((64*m.1:Nat):Int) ((64:Nat):Int) m.1:=by
 have:∀m:Fin 100,Builtin.Range.small ((0:Nat):Int) ((64*m.1:Nat):Int) ((64:Nat):Int)=true/\Builtin.Range.rangeSize ((0:Nat):Int) ((64*m.1:Nat):Int) ((64:Nat):Int)=m.1:=by decide +kernel
 exact ⟨by decide,by decide,(this m).1,(this m).2⟩
def eL (K:Frag):Sp:=λvs H Q _=>∃(a c:Addr)(kind:Nat)(s b:NL),vs=[.int (kind:Int),.ref a,.ref c]/\SqL K H a (nv s)/\SqL K H c (nv b)/\(kind=1\/kind=2)/\St kind s/\Bytes b/\b.length%64=0/\b.length<6400/\∀p H' ms,Loc H H' ms->((p=a/\bR kind s b=s)\/H p=none)->SqL K H' p (nv (bR kind s b))->Q (.ref p) H'
abbrev dY:Stmt:=top 33
theorem sc_add_blocks:FnScope ["kind","state","data","at","block"] ["kind","state","data"] (Dg dY):=by walk_at "sc"
theorem sE {f:Addr}{fd:FuncData}(F:Fun K "add_blocks" "add_blocks" dY f fd)(T:Txt K mg ad)(C_add_block_1:Callee P w K mg base 4 "add_block_1" ["state","block"] (fP K))(C_add_block_2:Callee P w K mg base 4 "add_block_2" ["state","block"] (fO K)):FnOk P w K mg base CX0 5 f fd ["kind","state","data"] (eL K):=by
 refine F.ok sc_add_blocks (λvs H Q E h=>?_) (λcdv A outer s H vs Q E hr h=>?_)
 ·k_go0
 refine e_5 h λa c kind st b=>a_9 λez hs hc hk hst hb hl hl2 k=>?_;clear h;subst ez
 refine ⟨_,(Df (DN PassesOwn.never rfl (Ec rfl T.n_range (Dd Dh (Dd (DE (az (K:=K) rfl) (by rfl) T.n_len aK (Dd (pv 2) De)) (Dd (gI T.g_BLOCK) De)))) (Dr (i:=3) sc_add_blocks.nd rfl (Or.inl rfl)) (Df (Dl (i:=4) sc_add_blocks.nd rfl (Or.inl rfl) (DD (aj (K:=K) rfl) (pv 2) (Dy (pv 3)) (Dy (Dj DB (pv 3) (gI T.g_BLOCK)))))
   (Di (Dl (i:=1) sc_add_blocks.nd rfl (Or.inl rfl) (mt (Ee (Dt D8 (pv 0) Dh (Dv _)) (ab C_add_block_1 hr.m rfl (Dd (pv 1) (Dd (pv 4) De))) (ab C_add_block_2 hr.m rfl (Dd (pv 1) (Dd (pv 4) De)))))))))
   (Di (Dm (pv 1)))),?_⟩
 have L0:=Loc.start H
 obtain ⟨m,hm⟩:∃m,b.length=64*m:=⟨b.length/64,by lia⟩
 k_go
 have hRg:=BV ⟨m,by lia⟩
 rw[hm]
 refine i_4 _ _ _ m ⟨rfl,hRg,jS (λi σ H'=>∃(q:Addr)(v3 v4:Option V),σ = [some (.int (kind:Int)),some (.ref q),some (.ref c),v3,v4]/\Loc H H' []/\((q=a/\bR kind st (b.take (64*i))=st)\/H q=none)/\SqL K H' q (nv (bR kind st (b.take (64*i))))) ⟨a,_,_,rfl,L0,.inl ⟨rfl,r8 _ _ _⟩,by rw[r8];exact hs⟩ ?_ ?_⟩
 ·refine λi σ H2 hi ez9=>e_3 ez9 λq v3 v4=>a_4 λez L2 _ hq=>?_;clear ez9;subst ez
  rw[show ((0:Nat):Int)+(i:Int)*((64:Nat):Int)=((64*i:Nat):Int) by lia]
  have hst2:=m7 hk hst (b.take (64*i))
  rw[xT st b i (by lia)]
  have hc2:=L2.arg hc
  w_on
  apply ap (Loc.start H2) hc2
  intro e H5 M5
  rw[ed (by lia) (by lia) (by lia),Int.toNat_natCast,Int.toNat_natCast] at M5
  have e5:My.cut b (64*i) (64*i+64)=Sy22.part b (64*i) 64:=by unfold My.cut Sy22.part;rw[add_sub_cancel_left]
  rw[e5] at M5
  have hq5:=M5.same.seq hq
  have L5:=L2.then M5
  w_on
  refine mo (λv H'=>∃r,v=.ref r/\Loc H2 H' [(e,.lst (nv (Sy22.part b (64*i) 64))),(r,.lst (nv (blk kind (bR kind st (b.take (64*i))) (Sy22.part b (64*i) 64))))]) ?_ ?_
  ·w_on
   refine bZ (λhc=>?_) (λhc=>?_)
   ·subst hc
    w_on
    refine oY M5 hq5 (M5.lst 0 rfl) hst2 (dm hb _ _) (dD (by lia)) λr H6 M6=>?_
    exact ⟨r,rfl,M6⟩
   ·have hk2:kind=2:=by lia
    subst hk2
    w_on
    refine oX M5 hq5 (M5.lst 0 rfl) hst2 (dm hb _ _) (dD (by lia)) λr H6 M6=>?_
    exact ⟨r,rfl,M6⟩
  ·refine λv H6 ez9=>e_1 ez9 λr=>a_2 λez M6=>?_;clear ez9;subst ez
   w_on
   exact i_3 r _ _ ⟨rfl,(L2.calls M6).nil,.inr ((L2.calls M6).fresh 1 rfl),M6.lst 1 rfl⟩
 ·refine λσ H4 ez9=>e_3 ez9 λq v3 v4=>a_4 λez L4 hqa hq=>?_;clear ez9;subst ez
  rw[<- hm,take_length] at hq hqa
  w_on
  exact k q H4 _ L4 hqa hq
theorem kF {H H0:Hp}{ls:List (Addr×HO)}{Q:VK}{E:XK}{a c:Addr}{kind:Nat}{s b:NL}(L:Loc H0 H ls)(hs:SqL K H a (nv s))(hc:SqL K H c (nv b))(hk:kind=1\/kind=2)(hst:St kind s)(hb:Bytes b)(hl:b.length%64=0)(hl2:b.length<6400)
  (q:∀p H',Loc H0 H' ls->Same H H'->((p=a/\bR kind s b=s)\/H p=none)->SqL K H' p (nv (bR kind s b))->Q (.ref p) H'):eL K ([.int (kind:Int),.ref a,.ref c]++[]) H Q E:=
 i_5 a c kind s b ⟨rfl,hs,hc,hk,hst,hb,hl,hl2,λp H' ms M hpa hp=>q p H' ((L.calls M).sub (sublist_append_left _ _)) M.same hpa hp⟩
end
def ba (v0 v1 v2 v3:V):List (Str×V):=[("kind",v0),("state",v1),("waiting",v2),("summed_length",v3)]
theorem oN {v0 v1 v2 v3:V}:(ba v0 v1 v2 v3).lookup ("kind" : Str)=some v0:=by rfl
theorem nF {v0 v1 v2 v3:V}:(ba v0 v1 v2 v3).lookup ("state" : Str)=some v1:=by rfl
theorem jh {v0 v1 v2 v3 y:V}:DU "state" y (ba v0 v1 v2 v3)=ba v0 y v2 v3:=by rfl
theorem lT {v0 v1 v2 v3:V}:(ba v0 v1 v2 v3).lookup ("waiting" : Str)=some v2:=by rfl
theorem ia {v0 v1 v2 v3 y:V}:DU "waiting" y (ba v0 v1 v2 v3)=ba v0 v1 y v3:=by rfl
theorem jq {v0 v1 v2 v3:V}:(ba v0 v1 v2 v3).lookup ("summed_length" : Str)=some v3:=by rfl
theorem fm {v0 v1 v2 v3 y:V}:DU "summed_length" y (ba v0 v1 v2 v3)=ba v0 v1 v2 y:=by rfl
theorem rj {v0 v1 v2 v3:V}:(ba v0 v1 v2 v3).lookup ("add" : Str)=none:=by rfl
theorem qc {v0 v1 v2 v3:V}:(ba v0 v1 v2 v3).lookup ("told" : Str)=none:=by rfl
local macro_rules | `(tactic| walk_at "lk")=>`(tactic| first | exact oN | exact nF | exact lT | exact jq | exact rj | exact qc | rfl)
local macro_rules | `(tactic| walk_at "put")=>`(tactic| ((w_on);(walk_at "fp");(intro H' L');(simp only[put_Summing_kind,jh,ia,fm,set_cons_zero,set_cons_succ] at L');(try w_on)))
section
variable {P:Program}{w:World}{K:Frag}{mg:Str->Option Value}{base:Heap}{ad:Adr}
def lK (K:Frag)(C:Addr)(H:Hp)(x:Addr)(kind:Nat)(b:NL)(o:HO):Prop:=
 ∃dx s t,o=.ins C dx (ba (.int (kind:Int)) (.ref s) (.ref t) (.int (b.length:Int)))/\SqL K (er H x) s (nv (je kind b))/\SqL K (er H x) t (nv (aL b))
def g4 (K:Frag)(ad:Adr):Sp:=λvs H Q _=>∃(av:Addr->Prop)(x dx:Addr)(kind:Nat),(∀b,av b->H b≠none)/\vs=[.ref x,.int (kind:Int)]/\H x=some (.ins ad.Summing dx [])/\(kind=1\/kind=2)/\∀H' o ms,Loc (er H x) H' ((x,o) :: ms)->lK K ad.Summing (res H' av) x kind [] o->Q .non H'
abbrev cG:Stmt:=inClass (top 34) 0
theorem pp:FnScope ["self","kind"] ["self","kind"] (Dg cG):=by walk_at "sc"
theorem pV {f:Addr}{fd:FuncData}(F:Fun K "__init__" "Summing.__init__" cG f fd)(T:Txt K mg ad)  : FnOk P w K mg base CX0 1 f fd ["self","kind"] (g4 K ad):=by
 refine F.ok pp (λvs H Q E h=>?_) (λcdv A outer s H vs Q E hr h=>?_)
 ·k_go0
 refine e_4 h λav x dx kind=>a_5 λhav ez hx hk k=>?_;clear h;subst ez
 refine ⟨_,(Df (DL (pv 0) (pv 1) rfl)
   (Df (DL (pv 0) (mt (Ee (Dt D8 (pv 1) Dh (Dv _)) (D7 (gc (K:=K) rfl) (by rfl) T.n_list hZ (Dd (D1 (v:=.ref ad.START_1) rfl T.g_START_1 rfl) De)) (D7 (gc (K:=K) rfl) (by rfl) T.n_list hZ (Dd (D1 (v:=.ref ad.START_2) rfl T.g_START_2 rfl) De)))) rfl)
   (Df (DL (pv 0) (DA De) rfl)
   (Di (DL (pv 0) Dh rfl))))),?_⟩
 walk_at "cSumming"
 have L0:=Loc.self hx
 have t1:∀H,SqT K H ad.START_1 (nv I1):=T.t_START_1
 have t2:∀H,SqT K H ad.START_2 (nv I2):=T.t_START_2
 k_go
 walk_at "fp"
 intro H1 L1
 simp only[set_cons_zero] at L1
 w_on
 refine mo (λv H'=>∃s,v=.ref s/\Loc (er H x) H' [(x,.ins ad.Summing dx (DU "kind" (.int (kind:Int)) [])),(s,.lst (nv (start kind)))]) ?_ ?_
 ·w_on
  refine bZ (λhc=>?_) (λhc=>?_)
  ·subst hc
   w_on
   exact qQ L1 (t1 _) λs H2 L2=>⟨s,rfl,L2⟩
  ·have hk2:kind=2:=by lia
   subst hk2
   w_on
   exact qQ L1 (t2 _) λs H2 L2=>⟨s,rfl,L2⟩
 ·refine λv H2 ez9=>e_1 ez9 λs=>a_2 λez L2=>?_;clear ez9;subst ez
  w_on
  walk_at "fp"
  intro H3 L3
  simp only[cons_append,nil_append,set_cons_zero] at L3
  w_on
  apply aF L3 (by decide)
  intro t H4 L4
  w_on
  walk_at "fp"
  intro H5 L5
  simp only[cons_append,nil_append,set_cons_zero] at L5
  w_on
  walk_at "fp"
  intro H6 L6
  simp only[set_cons_zero] at L6
  w_on
  refine k H6 _ _ L6 ⟨dx,s,t,rfl,?_,?_⟩
  ·rw[(xf kind).1]
   exact L6.lstR hav 0 1 rfl rfl
  ·rw[(xf kind).2]
   exact L6.lstR hav 0 2 rfl rfl
def fQ (K:Frag)(ad:Adr):Sp:=λvs H Q _=>∃(av:Addr->Prop)(x a:Addr)(kind:Nat)(b d:NL)(o:HO),(∀b,av b->H b≠none)/\vs=[.ref x,.ref a]/\H x=some o/\lK K ad.Summing (res H av) x kind b o/\SqL K (er H x) a (nv d)/\(kind=1\/kind=2)/\Bytes b/\Bytes d/\d.length<6000/\∀H' o' ms,Loc (er H x) H' ((x,o') :: ms)->lK K ad.Summing (res H' av) x kind (b++d) o'->Q .non H'
abbrev cZ:Stmt:=inClass (top 34) 1
theorem sc_Summing_add:FnScope ["self","data","waiting","whole"] ["self","data"] (Dg cZ):=by walk_at "sc"
theorem rc {f:Addr}{fd:FuncData}(F:Fun K "add" "Summing.add" cZ f fd)(T:Txt K mg ad)(C_add_blocks:Callee P w K mg base 5 "add_blocks" ["kind","state","data"] (eL K)):FnOk P w K mg base CX0 6 f fd ["self","data"] (fQ K ad):=by
 refine F.ok sc_Summing_add (λvs H Q E h=>?_) (λcdv A outer s H vs Q E hr h=>?_)
 ·k_go0
 obtain ⟨av,x,a,kind,b,d,o,hav,rfl,hx,⟨dx,s,t,rfl,rs,rt⟩,ha,hk,hb,hd,hl,k⟩:=h
 have up:=ju (H:=res H av) (H':=H) res_up x
 have hs:=up.seq rs
 have ht:=up.seq rt
 refine ⟨_,(Df (Dl (i:=2) sc_Summing_add.nd rfl (Or.inl rfl) (Dj (ao (K:=K) rfl) (Ds (pv 0) rfl) (pv 1)))
   (Df (Dl (i:=3) sc_Summing_add.nd rfl (Or.inl rfl) (Dj DV (DE (az (K:=K) rfl) (by rfl) T.n_len aK (Dd (pv 2) De)) (Dj Eg (DE (az (K:=K) rfl) (by rfl) T.n_len aK (Dd (pv 2) De)) (gI T.g_BLOCK))))
   (Df (DL (pv 0) (ab C_add_blocks hr.m rfl (Dd (Ds (pv 0) rfl) (Dd (Ds (pv 0) rfl) (Dd (DD (aj (K:=K) rfl) (pv 2) DP (Dy (pv 3))) De)))) rfl)
   (Df (DL (pv 0) (DD (aj (K:=K) rfl) (pv 2) (Dy (pv 3)) DP) rfl)
   (Di (DL (pv 0) (Dj DB (Ds (pv 0) rfl) (DE (az (K:=K) rfl) (by rfl) T.n_len aK (Dd (pv 1) De))) rfl)))))),?_⟩
 walk_at "cSumming"
 have L0:=Loc.self hx
 have wl:=kZ b
 have bw:=(oU hb).app hd
 have lw:(aL b++d).length=(aL b).length+d.length:=length_append
 k_go
 refine ay L0 (L0.arg ht) (L0.arg ha) (by rw[sizeLine_eq];lia) λp1 H1 L1=>?_
 w_on
 refine ap L1 (L1.lst 1 rfl) λp2 H2 L2=>?_
 rw[gE (by lia) (by lia),Int.toNat_natCast] at L2
 w_on
 have lt:((aL b++d).take ((aL b++d).length-(aL b++d).length%64)).length=(aL b++d).length-(aL b++d).length%64:=by rw[length_take];lia
 refine kF L2 (L2.arg hs) (L2.lst 2 rfl) hk (qz hk b) (bw.take _) (by rw[lt];lia) (by rw[lt];lia) λp3 H3 L3 sm3 hp3n h3=>?_
 rw[Az] at h3 hp3n
 have hx3:=L3.get 0 rfl
 have M3:=Loc.self hx3
 have hp1:SqL K (er H3 x) p1 (nv (aL b++d)):=L3.lstE 0 1 rfl rfl
 have hav3:=h7 hav L3
 have hp3:SqL K (er (res H3 av) x) p3 (nv (je kind (b++d))):=by
  rcases hp3n with ⟨e,es⟩|hn
  ·rw[es,e]
   exact (fC L3.same).seq rs
  ·have ne:p3≠x:=λz=>by
    rw[z,L2.get 0 rfl] at hn
    cases hn
   exact AA h3 hn (h7 hav L2) ne
 have ha3:SqL K (er H3 x) a (nv d):=L3.argE 0 rfl ha
 w_on
 refine bY M3 0 rfl cC n_state (by walk_at "lt1000") λH4 M4=>?_
 simp only[jh,set_cons_zero] at M4
 w_on
 refine ap M4 (M4.arg hp1) λp4 H5 M5=>?_
 rw[bp (by lia) (by lia),Int.toNat_natCast,Ar] at M5
 w_on
 refine bY M5 0 rfl cC n_waiting (by walk_at "lt1000") λH6 M6=>?_
 simp only[ia,cons_append,nil_append,set_cons_zero] at M6
 w_on
 refine bY M6 0 rfl cC n_summed_length (by walk_at "lt1000") λH7 M7=>?_
 simp only[fm,cons_append,nil_append,set_cons_zero] at M7
 rw[<- length_append] at M7
 w_on
 exact k H7 _ _ (L3.meth 0 rfl M7) ⟨dx,p3,p4,rfl,(fC M7.same).seq hp3,M7.lstR hav3 0 1 rfl rfl⟩
theorem oZ {H H0:Hp}{ls:List (Addr×HO)}{Q:VK}{E:XK}{x a:Addr}{kind:Nat}{b d:NL}{o:HO}(L:Loc H0 H ls)(j:Nat)(hj:ls[j]? = some (x,o)){av:Addr->Prop}(hav:∀b,av b->H b≠none)(hS:lK K ad.Summing (res H av) x kind b o)(ha:SqL K (er H x) a (nv d))(hk:kind=1\/kind=2)(hb:Bytes b)(hd:Bytes d)(hl:d.length<6000)
  (q:∀H' o' ms,Loc H0 H' (ls.set j (x,o')++ms)->Loc (er H x) H' ((x,o') :: ms)->lK K ad.Summing (res H' av) x kind (b++d) o'->Q .non H'):fQ K ad (.ref x :: ([.ref a]++[])) H Q E:=
 ⟨av,x,a,kind,b,d,o,hav,rfl,L.get j hj,hS,ha,hk,hb,hd,hl,λH' o' ms M hS'=>q H' o' ms (L.meth j hj M) M hS'⟩
def fi (K:Frag)(ad:Adr):Sp:=λvs H Q _=>∃(x:Addr)(kind:Nat)(b:NL)(o:HO),vs=[.ref x]/\H x=some o/\lK K ad.Summing H x kind b o/\(kind=1\/kind=2)/\Bytes b/\b.length<1000000/\∀p H',Loc H H' [(p,.lst (nv (sum kind b)))]->Q (.ref p) H'
abbrev cF:Stmt:=inClass (top 34) 2
theorem sc_Summing_told:FnScope ["self","gap","ending","told","word"] ["self"] (Dg cF):=by walk_at "sc"
theorem pU {f:Addr}{fd:FuncData}(F:Fun K "told" "Summing.told" cF f fd)(T:Txt K mg ad)(C_bytes_of:Callee P w K mg base 1 "bytes_of" ["number","count"] (eO K))(C_add_blocks:Callee P w K mg base 5 "add_blocks" ["kind","state","data"] (eL K)):FnOk P w K mg base CX0 6 f fd ["self"] (fi K ad):=by
 refine F.ok sc_Summing_told (λvs H Q E h=>?_) (λcdv A outer s H vs Q E hr h=>?_)
 ·k_go0
 obtain ⟨x,kind,b,o,rfl,hx,⟨dx,s,t,rfl,hs,ht⟩,hk,hb,hl,k⟩:=h
 refine ⟨_,(Df (Dl (i:=1) sc_Summing_told.nd rfl (Or.inl rfl) (Dj (ao (K:=K) rfl) (DA (Dd Dh De)) (Dj Ef (DA (Dd Dh De)) (Dj Eg (D5 DT (Dj DB (Ds (pv 0) rfl) Dh)) (gI T.g_BLOCK)))))
   (Df (Dl (i:=2) sc_Summing_told.nd rfl (Or.inl rfl) (Dj (ao (K:=K) rfl) (Dj (ao (K:=K) rfl) (Ds (pv 0) rfl) (pv 1)) (ab C_bytes_of hr.m rfl (Dd (Dj DY Dh (Ds (pv 0) rfl)) (Dd Dh De)))))
   (Df (Dl (i:=3) sc_Summing_told.nd rfl (Or.inl rfl) (DA De))
   (Df (DN PassesOwn.never rfl (DR (ab C_add_blocks hr.m rfl (Dd (Ds (pv 0) rfl) (Dd (Ds (pv 0) rfl) (Dd (pv 2) De))))) (Dr (i:=4) sc_Summing_told.nd rfl (Or.inl rfl)) (Di (DG (D2 PySem.F.plainAttrs_list PySem.F.slot_list_extend PySem.F.type_list_extend EX (pv 3) (Dd (ab C_bytes_of hr.m rfl (Dd (pv 4) (Dd Dh De))) De)))))
   (Di (Dm (pv 3))))))),?_⟩
 walk_at "cSumming"
 have L0:=Loc.start H
 have hs:=(iT x).seq hs
 have ht:=(iT x).seq ht
 have wl:=kZ b
 obtain ⟨cl1,cl2⟩:=wI b
 rw[<- zy hk b] at k
 k_go
 apply aF L0 (by show 1<=sizeLine;decide)
 intro p1 H1 L1
 w_on
 apply aF L1 (by show 1<=sizeLine;decide)
 intro p2 H2 L2
 have hx2:=L2.same _ _ hx
 w_on
 refine lr (by decide) ?_
 have ez:(-((b.length+9:Nat):Int))%((64:Nat):Int)=(((119-b.length%64)%64:Nat):Int):=by lia
 rw[ez]
 refine jn (x:=0) L2 1 rfl (by rw[sizeLine_eq];lia) λp3 H3 L3=>?_
 w_on
 refine ay (xs:=[128]) L3 (L3.lst 0 rfl) (L3.lst 2 rfl) (by rw[length_replicate,sizeLine_eq,length_singleton];lia) λp4 H4 L4=>?_
 have hx4:=L4.same _ _ hx
 have lz:([128]++replicate ((119-b.length%64)%64) 0).length<=64:=by rw[length_append,length_replicate,length_singleton];lia
 w_on
 refine ay L4 (L4.arg ht) (L4.lst 3 rfl) (by rw[sizeLine_eq];lia) λp5 H5 L5=>?_
 have hx5:=L5.same _ _ hx
 w_on
 refine dO L5 (by lia) λp6 H6 L6=>?_
 w_on
 have bl8:=cu 8 (8*b.length)
 refine ay L6 (L6.lst 4 rfl) (L6.lst 5 rfl) (by rw[bl8,length_append,sizeLine_eq];lia) λp7 H7 L7=>?_
 w_on
 apply aF L7 (by decide)
 intro p8 H8 L8
 have hx8:=L8.same _ _ hx
 w_on
 have be:Bytes (aL b++([128]++zeros ((119-b.length%64)%64))++big 8 (8*b.length)):=by
  refine ((oU hb).app (Bytes.app (λy hy=>?_) λy hy=>?_)).app (eA _ _)
  ·rw[mem_singleton] at hy;lia
  ·unfold zeros at hy;rw[mem_replicate] at hy;lia
 refine kF L8 (L8.arg hs) (L8.lst 6 rfl) hk (qz hk b) be cl1 (by show List.length (aL b++([128]++zeros ((119-b.length%64)%64))++big 8 (8*b.length))<6400;lia) λp9 H9 L9 sm9 hp9 h9=>?_
 have L9:=L9.pick 7 rfl
 have hst:St kind (bR kind (je kind b) (aL b++([128]++zeros ((119-b.length%64)%64))++big 8 (8*b.length))):=m7 hk (qz hk b) _
 have h9:SqL K H9 p9 (nv (bR kind (je kind b) (aL b++([128]++zeros ((119-b.length%64)%64))++big 8 (8*b.length)))):=h9
 have h9':SqL K (er H9 p8) p9 (nv (bR kind (je kind b) (aL b++([128]++zeros ((119-b.length%64)%64))++big 8 (8*b.length)))):=by
  by_cases e:p9=p8
  ·rcases h9 with (h|⟨u,h⟩)|h
   ·rw[e,L9.get 0 rfl] at h
    have h:=congrArg List.length (HO.lst.inj (Option.some.inj h))
    rw[aw,hst.len] at h
    rcases hk with rfl|rfl<;>cases h
   ·rw[e,L9.get 0 rfl] at h;cases h
   ·exact .inr h
  ·exact Ae h9 e
 generalize bR kind (je kind b) (aL b++([128]++zeros ((119-b.length%64)%64))++big 8 (8*b.length))=F at *
 have fl:=hst.len
 have sz:size kind<=8:=by rcases hk with rfl|rfl<;>decide
 have M9:=Loc.self (L9.get 0 rfl)
 w_on
 refine ja (xs:=nv F) (λi σ H'=>∃(v4:Option V),σ = [some (.ref x),some (.ref p4),some (.ref p7),some (.ref p8),v4]/\Loc (er H9 p8) H' [(p8,.lst (nv ((F.take i).flatMap (big 4))))]) ⟨_,rfl,M9⟩ (λi σ H' _ ⟨_,_,L⟩=>L.arg h9') ?_ ?_
 ·refine λi y σ H' hy ez9=>e_1 ez9 λv4=>a_2 λez M=>?_;clear ez9;subst ez
  obtain ⟨hi,rfl⟩:=ca hy
  have ml:((F.take i).flatMap (big 4)).length<=4*i:=by
   have:∀l:NL,(l.flatMap (big 4)).length=4*l.length:=by
    intro l
    induction l with
    |nil=>rfl
    |cons a l ih=>rw[flatMap_cons,length_append,cu,ih,length_cons];lia
   rw[this,length_take];lia
  w_on
  refine dO M (by lia) λp10 H10 M10=>?_
  w_on
  refine on M10 0 rfl (M10.get 1 rfl) (by rw[aw,aw,cu,sizeLine_eq];lia) λH11 M11=>?_
  w_on
  refine ⟨_,rfl,?_⟩
  rw[ji hi,flatMap_append,flatMap_cons,List.flatMap_nil,append_nil,qb]
  exact M11.take 1
 ·refine λσ H' ez9=>e_1 ez9 λv4=>a_2 λez M=>?_;clear ez9;subst ez
  rw[aw,take_length] at M
  w_on
  exact k p8 H' (L9.meth 0 rfl M)
theorem nR {H H0:Hp}{ls:List (Addr×HO)}{Q:VK}{E:XK}{x:Addr}{kind:Nat}{b:NL}{o:HO}(L:Loc H0 H ls)(j:Nat)(hj:ls[j]? = some (x,o))(hS:lK K ad.Summing H x kind b o)(hk:kind=1\/kind=2)(hb:Bytes b)(hl:b.length<1000000)
  (q:∀p H',Loc H0 H' (ls++[(p,.lst (nv (sum kind b)))])->Q (.ref p) H'):fi K ad (.ref x :: ([]++[])) H Q E:=
 ⟨x,kind,b,o,rfl,L.get j hj,hS,hk,hb,hl,λp H' M=>q p H' (L.calls M)⟩
def ef (K:Frag):Sp:=λvs H Q _=>∃(kind:Nat)(a:Addr)(b:NL),vs=[.int (kind:Int),.ref a]/\SqL K H a (nv b)/\(kind=1\/kind=2)/\Bytes b/\b.length<6000/\∀p H',Loc H H' [(p,.lst (nv (sum kind b)))]->Q (.ref p) H'
abbrev iq:Stmt:=top 35
theorem sc_sum_of:FnScope ["kind","data","summing"] ["kind","data"] (Dg iq):=by walk_at "sc"
theorem xC {f:Addr}{fd:FuncData}(F:Fun K "sum_of" "sum_of" iq f fd)(T:Txt K mg ad)(C_Summing_init:Maker P w K mg base 1 ad.Summing ["self","kind"] (g4 K ad))(C_Summing_add:Method P w K mg base 6 ad.Summing "add" ["self","data"] (fQ K ad))(C_Summing_told:Method P w K mg base 6 ad.Summing "told" ["self"] (fi K ad)):FnOk P w K mg base CX0 7 f fd ["kind","data"] (ef K):=by
 refine F.ok sc_sum_of (λvs H Q E h=>?_) (λcdv A outer s H vs Q E hr h=>?_)
 ·k_go0
 refine e_3 h λkind a b=>a_6 λez hs hk hb hl k=>?_;clear h;subst ez
 refine ⟨_,(Df (Dl (i:=2) sc_sum_of.nd rfl (Or.inl rfl) (pQ T.k_Summing C_Summing_init hr.m rfl (Dd (pv 0) De)))
   (Df (DG (ak T.c_Summing C_Summing_add hr.m (pv 2) (Dd (pv 1) De)))
   (Di (Dm (iZ T.c_Summing C_Summing_told hr.m (pv 2)))))),?_⟩
 have L0:=Loc.start H
 k_go
 refine mn L0 λx dx H1 L1=>?_
 refine ⟨λ_=>False,x,dx,kind,λ_ z=>z.elim,rfl,L1.get 1 rfl,hk,λH2 o ms M2 hS=>⟨rfl,?_⟩⟩
 rw[aH] at hS
 have L2:=L1.meth 1 rfl M2
 have L2:=L2.pick 1 rfl
 refine e_3 (id hS) λdx2 s2 t2=>a_3 λez h2s h2t=>?_;subst ez
 w_on
 refine oZ (d:=b) L2 0 rfl (av:=λ_=>False) (λ_ z=>z.elim) (by rw[aH];exact hS) (L2.argE 0 rfl hs) hk Bytes.nil hb (by lia) λH3 o3 ms3 L3 _ hS3=>?_
 rw[aH] at hS3
 rw[nil_append] at hS3
 have L3:=L3.pick 0 rfl
 refine e_3 (id hS3) λdx3 s3 t3=>a_3 λez h3s h3t=>?_;subst ez
 w_on
 refine nR L3 0 rfl hS3 hk hb (by lia) λp H4 L4=>?_
 exact k p H4 (L4.pick 1 rfl)
theorem lf {H H0:Hp}{ls:List (Addr×HO)}{Q:VK}{E:XK}{kind:Nat}{a:Addr}{b:NL}(L:Loc H0 H ls)(hs:SqL K H a (nv b))(hk:kind=1\/kind=2)(hb:Bytes b)(hl:b.length<6000)(q:∀p H',Loc H0 H' (ls++[(p,.lst (nv (sum kind b)))])->Q (.ref p) H'):ef K ([.int (kind:Int),.ref a]++[]) H Q E:=
 i_3 kind a b ⟨rfl,hs,hk,hb,hl,λp H' M=>q p H' (L.calls M)⟩
theorem qy (b:NL):sum 2 b=sum2 b:=rfl
def lm (K:Frag):Sp:=λvs H Q _=>∃(a c:Addr)(key b:NL),vs=[.ref a,.ref c]/\SqL K H a (nv key)/\SqL K H c (nv b)/\Bytes key/\Bytes b/\key.length<5000/\b.length<5000/\∀p H',Loc H H' [(p,.lst (nv (mark key b)))]->Q (.ref p) H'
abbrev ei:Stmt:=top 36
theorem sc_mark_of:FnScope ["key","data","short","full","inner","byte"] ["key","data"] (Dg ei):=by walk_at "sc"
theorem wk {f:Addr}{fd:FuncData}(F:Fun K "mark_of" "mark_of" ei f fd)(T:Txt K mg ad)(C_sum_of:Callee P w K mg base 7 "sum_of" ["kind","data"] (ef K)):FnOk P w K mg base CX0 8 f fd ["key","data"] (lm K):=by
 refine F.ok sc_mark_of (λvs H Q E h=>?_) (λcdv A outer s H vs Q E hr h=>?_)
 ·k_go0
 refine e_4 h λa c key b=>a_8 λez hs hc hk hb hkl hbl k=>?_;clear h;subst ez
 refine ⟨_,(Df (Dl (i:=2) sc_mark_of.nd rfl (Or.inl rfl) (mt (Ee (Dt E8 (DE (az (K:=K) rfl) (by rfl) T.n_len aK (Dd (pv 0) De)) (gI T.g_BLOCK) (Dv _)) (ab C_sum_of hr.m rfl (Dd Dh (Dd (pv 0) De))) (D7 (gc (K:=K) rfl) (by rfl) T.n_list hZ (Dd (pv 0) De)))))
   (Df (Dl (i:=3) sc_mark_of.nd rfl (Or.inl rfl) (Dj (ao (K:=K) rfl) (pv 2) (Dj Ef (DA (Dd Dh De)) (Dj DV (gI T.g_BLOCK) (DE (az (K:=K) rfl) (by rfl) T.n_len aK (Dd (pv 2) De))))))
   (Df (Dl (i:=4) sc_mark_of.nd rfl (Or.inl rfl) (ab C_sum_of hr.m rfl (Dd Dh (Dd (Dj (ao (K:=K) rfl) (D0 rfl sc_mark_of.nd (DR (pv 3)) (DH (own:=[("byte",5)]) (by show DX ["key","data","short","full","inner","byte"] (Dg ei) _ _=true;decide +kernel)) (λ_ _ _ _ _=>Dr (i:=5) sc_mark_of.nd rfl (Or.inl rfl)) (λ_ _ _ _ _=>DM) (λ_ _ _ _ _=>(Dj DC (pv 5) Dh))) (pv 1)) De))))
   (Di (Dm (ab C_sum_of hr.m rfl (Dd Dh (Dd (Dj (ao (K:=K) rfl) (D0 rfl sc_mark_of.nd (DR (pv 3)) (DH (own:=[("byte",5)]) (by show DX ["key","data","short","full","inner","byte"] (Dg ei) _ _=true;decide +kernel)) (λ_ _ _ _ _=>Dr (i:=5) sc_mark_of.nd rfl (Or.inl rfl)) (λ_ _ _ _ _=>DM) (λ_ _ _ _ _=>(Dj DC (pv 5) Dh))) (pv 4)) De)))))))),?_⟩
 have L0:=Loc.start H
 have s2l:(sum 2 key).length=32:=eN (.inr rfl) key
 k_go
 refine mo (λv H'=>∃s,v=.ref s/\Loc H H' [(s,.lst (nv (if 64<key.length then sum2 key else key)))]) ?_ ?_
 ·w_on
  refine bZ (λhc=>?_) (λhc=>?_)
  ·rw[if_pos hc]
   w_on
   exact lf L0 hs (.inr rfl) hk (by lia) λp H1 L1=>⟨p,rfl,L1⟩
  ·rw[if_neg hc]
   w_on
   exact iB L0 hs λp H1 L1=>⟨p,rfl,L1⟩
 ·refine λv H1 ez9=>e_1 ez9 λs=>a_2 λez L1=>?_;clear ez9;subst ez
  unfold mark at k
  dsimp only at k
  have kl:(if 64<key.length then sum2 key else key).length<=64/\Bytes (if 64<key.length then sum2 key else key):=by
   split
   ·exact ⟨by rw[<- qy,s2l];decide,iQ (.inr rfl) key⟩
   ·exact ⟨by lia,hk⟩
  generalize (if 64<key.length then sum2 key else key)=ky at *
  obtain ⟨kl,kb⟩:=kl
  w_on
  apply aF L1 (by show 1<=sizeLine;decide)
  intro p2 H2 L2
  w_on
  refine jn (x:=0) L2 1 rfl (by rw[sizeLine_eq];lia) λp3 H3 L3=>?_
  w_on
  refine ay L3 (L3.lst 0 rfl) (L3.lst 2 rfl) (by rw[length_replicate,sizeLine_eq];lia) λp4 H4 L4=>?_
  have fl:(ky++replicate (64-ky.length) 0).length=64:=by rw[length_append,length_replicate];lia
  have fb:Bytes (ky++replicate (64-ky.length) 0):=kb.app λy hy=>by rw[mem_replicate] at hy;lia
  unfold zeros at k
  generalize ky++replicate (64-ky.length) 0=fu at *
  have L4:=L4.pick 3 rfl
  have mb:∀n,n<256->Bytes (fu.map λx=>x ^^^ n):=λn hn=>fb.map λx hx=>aO hx hn
  w_on
  refine rA L4 (L4.lst 0 rfl) (by rw[fl];decide) (λj=>fu.getD j 0 ^^^ 54) ?_ ?_
  ·intro j hj H7 D o R L7 r
   w_on
   exact r
  ·intro p5 H5 L5
   rw[cA fu (λx=>x ^^^ 54)] at L5
   w_on
   refine ay L5 (L5.lst 1 rfl) (L5.arg hc) (by rw[length_map,fl,sizeLine_eq];lia) λp6 H6 L6=>?_
   w_on
   refine lf L6 (L6.lst 2 rfl) (.inr rfl) ((mb 54 (by decide)).app hb) (by rw[length_append,length_map,fl];lia) λp7 H7 L7=>?_
   have s7:(sum 2 (fu.map (λx=>x ^^^ 54)++b)).length=32:=eN (.inr rfl) _
   have b7:=iQ (.inr rfl) (fu.map (λx=>x ^^^ 54)++b)
   rw[<- qy,<- qy] at k
   generalize sum 2 (fu.map (λx=>x ^^^ 54)++b)=inn at *
   have L7:Loc H H7 [(p4,.lst (nv fu)),(p7,.lst (nv inn))]:=L7.sub (by walk_at "subl")
   w_on
   refine rA L7 (L7.lst 0 rfl) (by rw[fl];decide) (λj=>fu.getD j 0 ^^^ 92) ?_ ?_
   ·intro j hj H7 D o R L7 r
    w_on
    exact r
   ·intro p8 H8 L8
    rw[cA fu (λx=>x ^^^ 92)] at L8
    w_on
    refine ay L8 (L8.lst 2 rfl) (L8.lst 1 rfl) (by rw[length_map,fl,s7,sizeLine_eq];lia) λp9 H9 L9=>?_
    w_on
    refine lf L9 (L9.lst 3 rfl) (.inr rfl) ((mb 92 (by decide)).app b7) (by rw[length_append,length_map,fl,s7];lia) λp10 H10 L10=>?_
    exact k p10 H10 (L10.pick 4 rfl)
end
def af (v0 v1 v2 v3 v4 v5 v6 v7 v8 v9:V):List (Str×V):=[("round_keys",v0),("factor",v1),("nonce",v2),("opening",v3),("stream",v4),("beside_length",v5),("text_length",v6),("text_begun",v7),("tagged",v8),("waiting",v9)]
theorem ku {v0 v1 v2 v3 v4 v5 v6 v7 v8 v9:V}:(af v0 v1 v2 v3 v4 v5 v6 v7 v8 v9).lookup ("round_keys" : Str)=some v0:=by rfl
theorem mL {v0 v1 v2 v3 v4 v5 v6 v7 v8 v9:V}:(af v0 v1 v2 v3 v4 v5 v6 v7 v8 v9).lookup ("factor" : Str)=some v1:=by rfl
theorem nG {v0 v1 v2 v3 v4 v5 v6 v7 v8 v9:V}:(af v0 v1 v2 v3 v4 v5 v6 v7 v8 v9).lookup ("nonce" : Str)=some v2:=by rfl
theorem lV {v0 v1 v2 v3 v4 v5 v6 v7 v8 v9:V}:(af v0 v1 v2 v3 v4 v5 v6 v7 v8 v9).lookup ("opening" : Str)=some v3:=by rfl
theorem mK {v0 v1 v2 v3 v4 v5 v6 v7 v8 v9:V}:(af v0 v1 v2 v3 v4 v5 v6 v7 v8 v9).lookup ("stream" : Str)=some v4:=by rfl
theorem iY {v0 v1 v2 v3 v4 v5 v6 v7 v8 v9 y:V}:DU "stream" y (af v0 v1 v2 v3 v4 v5 v6 v7 v8 v9)=af v0 v1 v2 v3 y v5 v6 v7 v8 v9:=by rfl
theorem jr {v0 v1 v2 v3 v4 v5 v6 v7 v8 v9:V}:(af v0 v1 v2 v3 v4 v5 v6 v7 v8 v9).lookup ("beside_length" : Str)=some v5:=by rfl
theorem fo {v0 v1 v2 v3 v4 v5 v6 v7 v8 v9 y:V}:DU "beside_length" y (af v0 v1 v2 v3 v4 v5 v6 v7 v8 v9)=af v0 v1 v2 v3 v4 y v6 v7 v8 v9:=by rfl
theorem jY {v0 v1 v2 v3 v4 v5 v6 v7 v8 v9:V}:(af v0 v1 v2 v3 v4 v5 v6 v7 v8 v9).lookup ("text_length" : Str)=some v6:=by rfl
theorem gf {v0 v1 v2 v3 v4 v5 v6 v7 v8 v9 y:V}:DU "text_length" y (af v0 v1 v2 v3 v4 v5 v6 v7 v8 v9)=af v0 v1 v2 v3 v4 v5 y v7 v8 v9:=by rfl
theorem kt {v0 v1 v2 v3 v4 v5 v6 v7 v8 v9:V}:(af v0 v1 v2 v3 v4 v5 v6 v7 v8 v9).lookup ("text_begun" : Str)=some v7:=by rfl
theorem gm {v0 v1 v2 v3 v4 v5 v6 v7 v8 v9 y:V}:DU "text_begun" y (af v0 v1 v2 v3 v4 v5 v6 v7 v8 v9)=af v0 v1 v2 v3 v4 v5 v6 y v8 v9:=by rfl
theorem mJ {v0 v1 v2 v3 v4 v5 v6 v7 v8 v9:V}:(af v0 v1 v2 v3 v4 v5 v6 v7 v8 v9).lookup ("tagged" : Str)=some v8:=by rfl
theorem iX {v0 v1 v2 v3 v4 v5 v6 v7 v8 v9 y:V}:DU "tagged" y (af v0 v1 v2 v3 v4 v5 v6 v7 v8 v9)=af v0 v1 v2 v3 v4 v5 v6 v7 y v9:=by rfl
theorem lU {v0 v1 v2 v3 v4 v5 v6 v7 v8 v9:V}:(af v0 v1 v2 v3 v4 v5 v6 v7 v8 v9).lookup ("waiting" : Str)=some v9:=by rfl
theorem ic {v0 v1 v2 v3 v4 v5 v6 v7 v8 v9 y:V}:DU "waiting" y (af v0 v1 v2 v3 v4 v5 v6 v7 v8 v9)=af v0 v1 v2 v3 v4 v5 v6 v7 v8 y:=by rfl
theorem i6 {v0 v1 v2 v3 v4 v5 v6 v7 v8 v9:V}:(af v0 v1 v2 v3 v4 v5 v6 v7 v8 v9).lookup ("enciphered_count" : Str)=none:=by rfl
theorem qd {v0 v1 v2 v3 v4 v5 v6 v7 v8 v9:V}:(af v0 v1 v2 v3 v4 v5 v6 v7 v8 v9).lookup ("hold" : Str)=none:=by rfl
theorem kR {v0 v1 v2 v3 v4 v5 v6 v7 v8 v9:V}:(af v0 v1 v2 v3 v4 v5 v6 v7 v8 v9).lookup ("fill_block" : Str)=none:=by rfl
theorem kq {v0 v1 v2 v3 v4 v5 v6 v7 v8 v9:V}:(af v0 v1 v2 v3 v4 v5 v6 v7 v8 v9).lookup ("take_beside" : Str)=none:=by rfl
theorem kQ {v0 v1 v2 v3 v4 v5 v6 v7 v8 v9:V}:(af v0 v1 v2 v3 v4 v5 v6 v7 v8 v9).lookup ("run_stream" : Str)=none:=by rfl
theorem lx {v0 v1 v2 v3 v4 v5 v6 v7 v8 v9:V}:(af v0 v1 v2 v3 v4 v5 v6 v7 v8 v9).lookup ("take_text" : Str)=none:=by rfl
theorem rm {v0 v1 v2 v3 v4 v5 v6 v7 v8 v9:V}:(af v0 v1 v2 v3 v4 v5 v6 v7 v8 v9).lookup ("tag" : Str)=none:=by rfl
local macro_rules | `(tactic| walk_at "lk")=>`(tactic| first | exact ku | exact mL | exact nG | exact lV | exact mK | exact jr | exact jY | exact kt | exact mJ | exact lU | exact i6 | exact qd | exact kR | exact kq | exact kQ | exact lx | exact rm | rfl)
local macro_rules | `(tactic| walk_at "put")=>`(tactic| ((w_on);(walk_at "fp");(intro H' L');(simp only[put_Sealing_round_keys,put_Sealing_factor,put_Sealing_nonce,put_Sealing_opening,iY,fo,gf,gm,iX,ic,set_cons_zero,set_cons_succ] at L');(try w_on)))
section
variable {P:Program}{w:World}{K:Frag}{mg:Str->Option Value}{base:Heap}{ad:Adr}
def iH (K:Frag):Sp:=λvs H Q _=>∃(x y:Nat),vs=[.int (x:Int),.int (y:Int)]/\Q (.int ((times x y:Nat):Int)) H
abbrev fT:Stmt:=top 72
theorem sc_multiply:FnScope ["block","factor","product","place"] ["block","factor"] (Dg fT):=by walk_at "sc"
theorem vf {f:Addr}{fd:FuncData}(F:Fun K "multiply" "multiply" fT f fd)(T:Txt K mg ad)  : FnOk P w K mg base CX0 1 f fd ["block","factor"] (iH K):=by
 refine F.ok sc_multiply (λvs H Q E h=>?_) (λcdv A outer s H vs Q E hr h=>?_)
 ·k_go0
 refine e_2 h λx y=>a_2 λez q=>?_;clear h;subst ez
 refine ⟨_,(Df (Dl (i:=2) sc_multiply.nd rfl (Or.inl rfl) Dh)
   (Df (DN PassesOwn.never rfl (Ec rfl T.n_range (Dd Dh (Dd (D5 DT Dh) (Dd (D5 DT Dh) De)))) (Dr (i:=3) sc_multiply.nd rfl (Or.inl rfl)) (Df (pJ (DF (rS (K:=K) rfl (Dj DW (Dj Ea (pv 0) (pv 3)) Dh) (λ_=>rfl)) (Di (Dl (i:=2) sc_multiply.nd rfl (Or.inl rfl) (Dj DC (pv 2) (pv 1)))) Dx))
   (Di (Dl (i:=1) sc_multiply.nd rfl (Or.inl rfl) (mt (Ee (rS (K:=K) rfl (Dj DW (pv 1) Dh) (λ_=>rfl)) (Dj DC (Dj Ea (pv 1) Dh) (gI T.g_OVERFLOW)) (Dj Ea (pv 1) Dh)))))))
   (Di (Dm (pv 2))))),?_⟩
 k_go
 refine i_4 _ _ _ 128 ⟨rfl,⟨by decide,by decide,by decide,by decide⟩,?_⟩
 refine jS (λi σ H'=>∃(pr f:Nat)(v3:Option V),σ = [some (.int (x:Int)),some (.int (f:Int)),some (.int (pr:Int)),v3]/\H'=H/\pr ^^^ tagged (128-i) x f=times x y) ⟨0,y,_,rfl,rfl,by rw[zero_xor];rfl⟩ ?_ ?_
 ·refine λi σ H2 hi ez9=>e_3 ez9 λpr f v3=>a_3 λez ey e=>?_;clear ez9;subst ez;subst ey
  rw[show ((127:Nat):Int)+(i:Int)*(-((1:Nat):Int))=((127-i:Nat):Int) by lia]
  rw[show 128-i=(127-i)+1 by lia,uW] at e
  w_on
  refine ⟨λσ' H'=>∃pr':Nat,σ'=[some (.int (x:Int)),some (.int (f:Int)),some (.int (pr':Int)),some (.int ((127-i:Nat):Int))]/\H'=H2/\pr' ^^^ tagged (127-i) x (nxt f)=times x y,?_,?_⟩
  ·w_on
   refine gu (λhc=>?_) (λhc=>?_)
   ·rw[ya] at hc
    rw[if_pos (Classical.not_not.mp hc),<- xor_assoc] at e
    w_on
    exact ⟨_,rfl,rfl,e⟩
   ·rw[ya] at hc
    rw[if_neg hc,zero_xor] at e
    w_on
    exact ⟨_,rfl,rfl,e⟩
  ·refine λσ' H' ez9=>e_1 ez9 λpr'=>a_3 λez ey e=>?_;clear ez9;subst ez;subst ey
   w_on
   refine mo (λv H''=>v=.int ((nxt f:Nat):Int)/\H''=H') ?_ ?_
   ·unfold nxt
    w_on
    refine gu (λhc=>?_) (λhc=>?_)
    ·rw[BF] at hc
     rw[if_pos (Classical.not_not.mp hc)]
     w_on
     rw[wK]
     exact ⟨rfl,rfl⟩
    ·rw[BF] at hc
     rw[if_neg hc]
     w_on
     exact ⟨rfl,rfl⟩
   ·rintro v H'' ⟨rfl,rfl⟩
    w_on
    exact i_3 pr' (nxt f) _ ⟨rfl,rfl,by rw[show 128-(i+1)=127-i by lia];exact e⟩
 ·refine λσ H2 ez9=>e_3 ez9 λpr f v3=>a_3 λez ey e=>?_;clear ez9;subst ez;subst ey
  have e:pr ^^^ 0=times x y:=e
  rw[xor_zero] at e
  subst e
  w_on
  exact q
theorem sR {H:Hp}{Q:VK}{E:XK}{x y:Nat}(q:Q (.int ((times x y:Nat):Int)) H):iH K ([.int (x:Int),.int (y:Int)]++[]) H Q E:=⟨x,y,rfl,q⟩
structure SS where
 key:NL
 nonce:NL
 op:Bool
 stream:NL
 bl:Nat
 tl:Nat
 begun:Bool
 z:NL
def SS.fac (s:SS):Nat:=bigOf (block s.key (zeros 16))
structure SS.Ok (s:SS):Prop where
 key:KeyOk s.key
 nlen:s.nonce.length=12
 nb:Bytes s.nonce
 zb:Bytes s.z
 str:s.tl%16≠0->s.stream=block s.key (counter s.nonce (s.tl/16+2))
def SealAt (K:Frag)(C:Addr)(H:Hp)(x:Addr)(s:SS)(o:HO):Prop:=
 ∃dx a b c d,o=.ins C dx (af (.ref a) (.int (s.fac:Int)) (.ref b) (.bl s.op) (.ref c) (.int (s.bl:Int)) (.int (s.tl:Int)) (.bl s.begun) (.int ((gY s.fac s.z:Nat):Int)) (.ref d))/\
  SqL K (er H x) a (nv (rks s.key))/\SqL K (er H x) b (nv s.nonce)/\SqL K (er H x) c (nv s.stream)/\SqL K (er H x) d (nv (aN s.z))
theorem SealAt.mono {C:Addr}{H H':Hp}{x:Addr}{s:SS}{o:HO}(h:SealAt K C H x s o)(e:Same (er H x) (er H' x)):SealAt K C H' x s o:=by
 refine e_5 h λdx a b c d=>a_5 λez h1 h2 h3 h4=>?_;clear h;subst ez
 exact i_5 dx a b c d ⟨rfl,e.seq h1,e.seq h2,e.seq h3,e.seq h4⟩
theorem SealAt.up {C:Addr}{H:Hp}{x:Addr}{s:SS}{o:HO}{av:Addr->Prop}(h:SealAt K C (res H av) x s o):SealAt K C H x s o:=h.mono (ju res_up x)
theorem sK:Blk (zeros 16):=⟨by decide,by unfold Bytes;decide⟩
theorem qk (nonce:NL)(n:Nat):counter nonce n=nonce++big 4 n:=by unfold counter;rw[Ak]
theorem fc {nonce:NL}(h:nonce.length=12)(hb:Bytes nonce)(n:Nat):Blk (counter nonce n):=by
 rw[qk]
 exact ⟨by rw[length_append,cu,h],hb.app (eA _ _)⟩
def fj (K:Frag)(ad:Adr):Sp:=λvs H Q _=>∃(av:Addr->Prop)(x dx a b:Addr)(key nonce:NL)(op:Bool),(∀b,av b->H b≠none)/\vs=[.ref x,.ref a,.ref b,.bl op]/\H x=some (.ins ad.Sealing dx [])/\SqL K (er H x) a (nv key)/\SqL K (er H x) b (nv nonce)/\KeyOk key/\nonce.length=12/\Bytes nonce/\∀H' o ms,Loc (er H x) H' ((x,o) :: ms)->SealAt K ad.Sealing (res H' av) x ⟨key,nonce,op,[],0,0,false,[]⟩ o->Q .non H'
abbrev cH:Stmt:=inClass (top 73) 0
theorem pq:FnScope ["self","key","nonce","opening"] ["self","key","nonce","opening"] (Dg cH):=by walk_at "sc"
theorem pW {f:Addr}{fd:FuncData}(F:Fun K "__init__" "Sealing.__init__" cH f fd)(T:Txt K mg ad)(C_expand_key:Callee P w K mg base 2 "expand_key" ["key"] (gt K))(C_encipher:Callee P w K mg base 3 "encipher" ["block","round_keys"] (gk K))(C_number_of:Callee P w K mg base 1 "number_of" ["data"] (bU K)):FnOk P w K mg base CX0 4 f fd ["self","key","nonce","opening"] (fj K ad):=by
 refine F.ok pq (λvs H Q E h=>?_) (λcdv A outer s H vs Q E hr h=>?_)
 ·k_go0
 refine e_8 h λav x dx a b key nonce op=>a_9 λhav ez hx ha hb kok nl nb k=>?_;clear h;subst ez
 refine ⟨_,(Df (DL (pv 0) (ab C_expand_key hr.m rfl (Dd (pv 1) De)) rfl)
   (Df (DL (pv 0) (ab C_number_of hr.m rfl (Dd (ab C_encipher hr.m rfl (Dd (Dj Ef (DA (Dd Dh De)) Dh) (Dd (Ds (pv 0) rfl) De))) De)) rfl)
   (Df (DL (pv 0) (D7 (gc (K:=K) rfl) (by rfl) T.n_list hZ (Dd (pv 2) De)) rfl)
   (Df (DL (pv 0) (pv 3) rfl)
   (Df (DL (pv 0) (DA De) rfl)
   (Df (DL (pv 0) Dh rfl)
   (Df (DL (pv 0) Dh rfl)
   (Df (DL (pv 0) Fi rfl)
   (Df (DL (pv 0) Dh rfl)
   (Di (DL (pv 0) (DA De) rfl))))))))))),?_⟩
 walk_at "cSealing"
 have L0:=Loc.self hx
 k_go
 refine qw L0 (L0.arg ha) kok λp1 H1 L1=>?_
 w_on
 walk_at "fp"
 intro H2 L2
 simp only[cons_append,nil_append,set_cons_zero] at L2
 w_on
 apply aF L2 (by show 1<=sizeLine;decide)
 intro p3 H3 L3
 w_on
 refine jn (x:=0) L3 2 rfl (by decide) λp4 H4 L4=>?_
 w_on
 refine ma (s:=zeros 16) (key:=key) L4 (L4.lst 3 rfl) (L4.lst 1 rfl) sK kok λp5 H5 L5=>?_
 w_on
 have bb:=gW kok sK
 refine eJ (L5.lst 4 rfl) bb.bytes (by rw[bb.len];decide) ?_
 w_on
 have L5:Loc (er H x) H5 [(x,.ins ad.Sealing dx (DU "round_keys" (V.ref p1) [])),(p1,.lst (nv (rks key)))]:=L5.take 2
 walk_at "fp"
 intro H6 L6
 simp only[cons_append,nil_append,set_cons_zero] at L6
 w_on
 refine iB L6 (L6.arg hb) λp7 H7 L7=>?_
 w_on
 walk_at "fp"
 intro H8 L8
 simp only[cons_append,nil_append,set_cons_zero] at L8
 w_on
 walk_at "fp"
 intro H9 L9
 simp only[set_cons_zero] at L9
 w_on
 apply aF L9 (by decide)
 intro p10 H10 L10
 w_on
 walk_at "fp"
 intro H11 L11
 simp only[cons_append,nil_append,set_cons_zero] at L11
 w_on
 walk_at "fp"
 intro H12 L12
 simp only[set_cons_zero] at L12
 w_on
 walk_at "fp"
 intro H13 L13
 simp only[set_cons_zero] at L13
 w_on
 walk_at "fp"
 intro H14 L14
 simp only[set_cons_zero] at L14
 w_on
 walk_at "fp"
 intro H15 L15
 simp only[set_cons_zero] at L15
 w_on
 apply aF L15 (by decide)
 intro p16 H16 L16
 w_on
 walk_at "fp"
 intro H17 L17
 simp only[cons_append,nil_append,set_cons_zero] at L17
 w_on
 have hz:aN ([]:NL)=[]:=by simp[aN]
 have ht:∀f,gY f []=0:=λf=>by simp[gY,iC,pieces,w16]
 refine k H17 _ _ L17 ⟨dx,p1,p7,p10,p16,?_,L17.lstR hav 0 1 rfl rfl,L17.lstR hav 0 2 rfl rfl,L17.lstR hav 0 3 rfl rfl,?_⟩
 ·show _=HO.ins ad.Sealing dx (af _ _ _ _ _ _ _ _ (.int ((gY _ []:Nat):Int)) _)
  rw[ht]
  rfl
 ·show SqL K (er (res H17 av) x) p16 (nv (aN []))
  rw[hz]
  exact L17.lstR hav 0 4 rfl rfl
def aG (K:Frag)(ad:Adr):Sp:=λvs H Q _=>∃(x:Addr)(n:Nat)(s:SS)(o:HO),vs=[.ref x,.int (n:Int)]/\H x=some o/\SealAt K ad.Sealing H x s o/\s.Ok/\∀p H',Loc H H' [(p,.lst (nv (block s.key (counter s.nonce n))))]->Q (.ref p) H'
abbrev aA:Stmt:=inClass (top 73) 1
theorem iS:FnScope ["self","count"] ["self","count"] (Dg aA):=by walk_at "sc"
theorem i5 {f:Addr}{fd:FuncData}(F:Fun K "enciphered_count" "Sealing.enciphered_count" aA f fd)(T:Txt K mg ad)(C_encipher:Callee P w K mg base 3 "encipher" ["block","round_keys"] (gk K))(C_bytes_of:Callee P w K mg base 1 "bytes_of" ["number","count"] (eO K)):FnOk P w K mg base CX0 4 f fd ["self","count"] (aG K ad):=by
 refine F.ok iS (λvs H Q E h=>?_) (λcdv A outer s H vs Q E hr h=>?_)
 ·k_go0
 obtain ⟨x,n,s,o,rfl,hx,⟨dx,a,b,c,d,rfl,h1,h2,h3,h4⟩,ok,k⟩:=h
 refine ⟨_,(Di (Dm (ab C_encipher hr.m rfl (Dd (Dj (ao (K:=K) rfl) (Ds (pv 0) rfl) (ab C_bytes_of hr.m rfl (Dd (pv 1) (Dd Dh De)))) (Dd (Ds (pv 0) rfl) De))))),?_⟩
 walk_at "cSealing"
 have L0:=Loc.start H
 have h1:=(iT x).seq h1
 have h2:=(iT x).seq h2
 have nl:=ok.nlen
 k_go
 refine dO L0 (.inl rfl) λp1 H1 L1=>?_
 w_on
 refine ay L1 (L1.arg h2) (L1.lst 0 rfl) (by rw[cu,nl];decide) λp2 H2 L2=>?_
 have hx2:=L2.same _ _ hx
 rw[<- qk] at L2
 w_on
 refine ma (key:=s.key) L2 (L2.lst 1 rfl) (L2.arg h1) (fc nl ok.nb n) ok.key λp3 H3 L3=>?_
 exact k p3 H3 (L3.pick 2 rfl)
theorem gX {H H0:Hp}{ls:List (Addr×HO)}{Q:VK}{E:XK}{x:Addr}{n:Nat}{s:SS}{o:HO}(L:Loc H0 H ls)(j:Nat)(hj:ls[j]? = some (x,o))(hS:SealAt K ad.Sealing H x s o)(ok:s.Ok)
  (q:∀p H',Loc H H' [(p,.lst (nv (block s.key (counter s.nonce n))))]->Loc H0 H' (ls++[(p,.lst (nv (block s.key (counter s.nonce n))))])->Q (.ref p) H'):aG K ad (.ref x :: ([.int (n:Int)]++[])) H Q E:=
 i_4 x n s o ⟨rfl,L.get j hj,hS,ok,λp H' M=>q p H' M (L.calls M)⟩
theorem AL (m:Fin 300):RgC ((0:Nat):Int) ((16*m.1:Nat):Int) ((16:Nat):Int) m.1:=by
 have:∀m:Fin 300,Builtin.Range.small ((0:Nat):Int) ((16*m.1:Nat):Int) ((16:Nat):Int)=true/\Builtin.Range.rangeSize ((0:Nat):Int) ((16*m.1:Nat):Int) ((16:Nat):Int)=m.1:=by decide +kernel
 exact ⟨by decide,by decide,(this m).1,(this m).2⟩
def bE (K:Frag)(ad:Adr):Sp:=λvs H Q _=>∃(av:Addr->Prop)(x e:Addr)(s:SS)(d:NL)(o:HO),(∀b,av b->H b≠none)/\vs=[.ref x,.ref e]/\H x=some o/\SealAt K ad.Sealing (res H av) x s o/\SqL K (er H x) e (nv d)/\Bytes s.z/\Bytes d/\d.length<4700/\∀H' o' ms,Loc (er H x) H' ((x,o') :: ms)->SealAt K ad.Sealing (res H' av) x { s with z:=s.z++d } o'->Q .non H'
abbrev cI:Stmt:=inClass (top 73) 2
theorem sc_Sealing_hold:FnScope ["self","data","waiting","whole","at"] ["self","data"] (Dg cI):=by walk_at "sc"
theorem pX {f:Addr}{fd:FuncData}(F:Fun K "hold" "Sealing.hold" cI f fd)(T:Txt K mg ad)(C_number_of:Callee P w K mg base 1 "number_of" ["data"] (bU K))(C_multiply:Callee P w K mg base 1 "multiply" ["block","factor"] (iH K)):FnOk P w K mg base CX0 2 f fd ["self","data"] (bE K ad):=by
 refine F.ok sc_Sealing_hold (λvs H Q E h=>?_) (λcdv A outer s H vs Q E hr h=>?_)
 ·k_go0
 obtain ⟨av,x,e,s,d,o,hav,rfl,hx,⟨dx,a,b,c,t,rfl,r1,r2,r3,r4⟩,he,zb,db,dl,k⟩:=h
 have h4:=(ju (H:=res H av) (H':=H) res_up x).seq r4
 refine ⟨_,(Df (Dl (i:=2) sc_Sealing_hold.nd rfl (Or.inl rfl) (Dj (ao (K:=K) rfl) (Ds (pv 0) rfl) (pv 1)))
   (Df (Dl (i:=3) sc_Sealing_hold.nd rfl (Or.inl rfl) (Dj DV (DE (az (K:=K) rfl) (by rfl) T.n_len aK (Dd (pv 2) De)) (Dj Eg (DE (az (K:=K) rfl) (by rfl) T.n_len aK (Dd (pv 2) De)) Dh)))
   (Df (DN PassesOwn.never rfl (Ec rfl T.n_range (Dd Dh (Dd (pv 3) (Dd Dh De)))) (Dr (i:=4) sc_Sealing_hold.nd rfl (Or.inl rfl)) (Di (DL (pv 0) (ab C_multiply hr.m rfl (Dd (Dj DC (Ds (pv 0) rfl) (ab C_number_of hr.m rfl (Dd (DD (aj (K:=K) rfl) (pv 2) (Dy (pv 4)) (Dy (Dj DB (pv 4) Dh))) De))) (Dd (Ds (pv 0) rfl) De))) rfl)))
   (Di (DL (pv 0) (DD (aj (K:=K) rfl) (pv 2) (Dy (pv 3)) DP) rfl))))),?_⟩
 walk_at "cSealing"
 have L0:=Loc.self hx
 have wl:=kY s.z
 have lw:(aN s.z++d).length=(aN s.z).length+d.length:=length_append
 have wb:Bytes (aN s.z++d):=Bytes.app (zb.drop _) db
 k_go
 refine ay L0 (L0.arg h4) (L0.arg he) (by rw[sizeLine_eq];lia) λp1 H1 L1=>?_
 w_on
 have hx1:=L1.get 0 rfl
 have M1:=Loc.self hx1
 have hp1:SqL K (er H1 x) p1 (nv (aN s.z++d)):=L1.lstE 0 1 rfl rfl
 obtain ⟨m,hm⟩:∃m,(aN s.z++d).length-(aN s.z++d).length%16=16*m:=⟨(aN s.z++d).length/16,by lia⟩
 have tg:=As s.fac s.z d
 have wz:=Aq s.z d
 have hRg:=AL ⟨m,by lia⟩
 rw[hm] at tg wz ⊢
 refine i_4 _ _ _ m ⟨rfl,hRg,jS (λi σ H'=>∃(v4:Option V)(ms:List (Addr×HO)),σ = [some (.ref x),some (.ref e),some (.ref p1),some (.int ((16*m:Nat):Int)),v4]/\Loc (er H1 x) H' ((x,.ins ad.Sealing dx (af (.ref a) (.int (s.fac:Int)) (.ref b) (.bl s.op) (.ref c) (.int (s.bl:Int)) (.int (s.tl:Int)) (.bl s.begun) (.int ((iC s.fac (gY s.fac s.z) ((aN s.z++d).take (16*i)):Nat):Int)) (.ref t))) :: ms)) ⟨_,[],rfl,by rw[xP];exact M1⟩ ?_ ?_⟩
 ·refine λi σ H2 hi ez9=>e_2 ez9 λv4 ms=>a_2 λez M2=>?_;clear ez9;subst ez
  rw[show ((0:Nat):Int)+(i:Int)*((16:Nat):Int)=((16*i:Nat):Int) by lia]
  rw[xQ _ _ _ _ (by lia)]
  have hp2:=M2.arg hp1
  have hx2:=M2.get 0 rfl
  w_on
  apply ap M2 hp2
  intro p3 H3 M3
  rw[ed (by lia) (by lia) (by lia),Int.toNat_natCast,Int.toNat_natCast] at M3
  have e5:My.cut (aN s.z++d) (16*i) (16*i+16)=Sy22.part (aN s.z++d) (16*i) 16:=by unfold My.cut Sy22.part;rw[add_sub_cancel_left]
  rw[e5] at M3
  have hx3:=M3.get 0 rfl
  have hl3:SqL K H3 p3 (nv (Sy22.part (aN s.z++d) (16*i) 16)):=M3.lst (ms.length+1) (by simp)
  w_on
  refine eJ hl3 (dm wb _ _) (by rw[dD (by lia)];decide) ?_
  w_on
  refine sR ?_
  w_on
  refine bY M3 0 rfl cC n_tagged (by walk_at "lt1000") λH4 M4=>?_
  simp only[iX,cons_append,set_cons_zero] at M4
  w_on
  exact ⟨_,_,rfl,M4⟩
 ·refine λσ H2 ez9=>e_2 ez9 λv4 ms=>a_2 λez M2=>?_;clear ez9;subst ez
  have hp2:=M2.arg hp1
  rw[tg] at M2
  w_on
  apply ap M2 hp2
  intro p3 H3 M3
  rw[bp (by lia) (by lia),Int.toNat_natCast,wz] at M3
  w_on
  refine bY M3 0 rfl cC n_waiting (by walk_at "lt1000") λH4 M4=>?_
  simp only[ic,cons_append,set_cons_zero] at M4
  w_on
  have sm:Same (er (res H av) x) (er (res H4 av) x):=(fC L1.same).trans (fC M4.same)
  refine k H4 _ _ (L1.meth 0 rfl M4) ⟨dx,a,b,c,p3,rfl,sm.seq r1,sm.seq r2,sm.seq r3,M4.lstR (h7 hav L1) 0 (ms.length+1) rfl (by simp) (by lia)⟩
theorem jA {H H0:Hp}{ls:List (Addr×HO)}{Q:VK}{E:XK}{x e:Addr}{s:SS}{d:NL}{o:HO}(L:Loc H0 H ls)(j:Nat)(hj:ls[j]? = some (x,o)){av:Addr->Prop}(hav:∀b,av b->H b≠none)(hS:SealAt K ad.Sealing (res H av) x s o)(he:SqL K (er H x) e (nv d))(zb:Bytes s.z)(db:Bytes d)(dl:d.length<4700)
  (q:∀H' o' ms,Loc H0 H' (ls.set j (x,o')++ms)->Loc (er H x) H' ((x,o') :: ms)->SealAt K ad.Sealing (res H' av) x { s with z:=s.z++d } o'->Q .non H'):bE K ad (.ref x :: ([.ref e]++[])) H Q E:=
 ⟨av,x,e,s,d,o,hav,rfl,L.get j hj,hS,he,zb,db,dl,λH' o' ms M hS'=>q H' o' ms (L.meth j hj M) M hS'⟩
end
section
variable {P:Program}{w:World}{K:Frag}{mg:Str->Option Value}{base:Heap}{ad:Adr}
def bt (K:Frag)(ad:Adr):Sp:=λvs H Q _=>∃(av:Addr->Prop)(x:Addr)(s:SS)(o:HO),(∀b,av b->H b≠none)/\vs=[.ref x]/\H x=some o/\SealAt K ad.Sealing (res H av) x s o/\Bytes s.z/\∀H' o' ms,Loc (er H x) H' ((x,o') :: ms)->SealAt K ad.Sealing (res H' av) x { s with z:=filled s.z } o'->Q .non H'
abbrev aZ:Stmt:=inClass (top 73) 3
theorem kJ:FnScope ["self"] ["self"] (Dg aZ):=by walk_at "sc"
theorem kP {f:Addr}{fd:FuncData}(F:Fun K "fill_block" "Sealing.fill_block" aZ f fd)(T:Txt K mg ad)(C_Sealing_hold:Method P w K mg base 2 ad.Sealing "hold" ["self","data"] (bE K ad)):FnOk P w K mg base CX0 3 f fd ["self"] (bt K ad):=by
 refine F.ok kJ (λvs H Q E h=>?_) (λcdv A outer s H vs Q E hr h=>?_)
 ·k_go0
 refine e_4 h λav x s o=>a_6 λhav ez hx hS zb k=>?_;clear h;subst ez
 refine ⟨_,(Di (DG (ak T.c_Sealing C_Sealing_hold hr.m (pv 0) (Dd (Dj Ef (DA (Dd Dh De)) (Dj Eg (D5 DT (DE (az (K:=K) rfl) (by rfl) T.n_len aK (Dd (Ds (pv 0) rfl) De))) Dh)) De)))),?_⟩
 walk_at "cSealing"
 refine e_5 (hS.up) λdx a b c d=>a_5 λez h1 h2 h3 h4=>?_;subst ez
 have L0:=Loc.self hx
 have wl:=kY s.z
 rw[xX] at k
 k_go
 apply aF L0 (by show 1<=sizeLine;decide)
 intro p1 H1 L1
 have h41:=L1.arg h4
 w_on
 refine lr (by decide) ?_
 have ez:(-(((aN s.z).length:Nat):Int))%((16:Nat):Int)=(((16-(aN s.z).length%16)%16:Nat):Int):=by lia
 rw[ez]
 refine jn (x:=0) L1 1 rfl (by rw[sizeLine_eq];lia) λp2 H2 L2=>?_
 w_on
 have sm2:Same (er (res H av) x) (er (res H2 av) x):=fC L2.same
 refine jA L2 0 rfl (h7 hav L2) (hS.mono sm2) (L2.lstE 0 2 rfl rfl) zb (λy hy=>by rw[mem_replicate] at hy;lia) (by rw[length_replicate];lia) λH3 o3 ms L3 _ hS3=>?_
 w_on
 exact k H3 o3 _ L3 hS3
theorem kD {H H0:Hp}{ls:List (Addr×HO)}{Q:VK}{E:XK}{x:Addr}{s:SS}{o:HO}(L:Loc H0 H ls)(j:Nat)(hj:ls[j]? = some (x,o)){av:Addr->Prop}(hav:∀b,av b->H b≠none)(hS:SealAt K ad.Sealing (res H av) x s o)(zb:Bytes s.z)
  (q:∀H' o' ms,Loc H0 H' (ls.set j (x,o')++ms)->Loc (er H x) H' ((x,o') :: ms)->SealAt K ad.Sealing (res H' av) x { s with z:=filled s.z } o'->Q .non H'):bt K ad (.ref x :: ([]++[])) H Q E:=
 ⟨av,x,s,o,hav,rfl,L.get j hj,hS,zb,λH' o' ms M hS'=>q H' o' ms (L.meth j hj M) M hS'⟩
def bn (K:Frag)(ad:Adr):Sp:=λvs H Q _=>∃(av:Addr->Prop)(x e:Addr)(s:SS)(d:NL)(o:HO),(∀b,av b->H b≠none)/\vs=[.ref x,.ref e]/\H x=some o/\SealAt K ad.Sealing (res H av) x s o/\SqL K (er H x) e (nv d)/\Bytes s.z/\Bytes d/\d.length<4700/\∀H' o' ms,Loc (er H x) H' ((x,o') :: ms)->SealAt K ad.Sealing (res H' av) x { s with bl:=s.bl+d.length,z:=s.z++d } o'->Q .non H'
abbrev aV:Stmt:=inClass (top 73) 4
theorem ki:FnScope ["self","data"] ["self","data"] (Dg aV):=by walk_at "sc"
theorem ko {f:Addr}{fd:FuncData}(F:Fun K "take_beside" "Sealing.take_beside" aV f fd)(T:Txt K mg ad)(C_Sealing_hold:Method P w K mg base 2 ad.Sealing "hold" ["self","data"] (bE K ad)):FnOk P w K mg base CX0 3 f fd ["self","data"] (bn K ad):=by
 refine F.ok ki (λvs H Q E h=>?_) (λcdv A outer s H vs Q E hr h=>?_)
 ·k_go0
 obtain ⟨av,x,e,s,d,o,hav,rfl,hx,⟨dx,a,b,c,t,rfl,h1,h2,h3,h4⟩,he,zb,db,dl,k⟩:=h
 refine ⟨_,(Df (DL (pv 0) (Dj DB (Ds (pv 0) rfl) (DE (az (K:=K) rfl) (by rfl) T.n_len aK (Dd (pv 1) De))) rfl)
   (Di (DG (ak T.c_Sealing C_Sealing_hold hr.m (pv 0) (Dd (pv 1) De))))),?_⟩
 walk_at "cSealing"
 have L0:=Loc.self hx
 k_go
 refine bY L0 0 rfl cC n_beside_length (by walk_at "lt1000") λH1 L1=>?_
 simp only[fo,set_cons_zero] at L1
 w_on
 have sm1:Same (er (res H av) x) (er (res H1 av) x):=fC L1.same
 have hS1:SealAt K ad.Sealing (res H1 av) x { s with bl:=s.bl+d.length } _:=⟨dx,a,b,c,t,rfl,sm1.seq h1,sm1.seq h2,sm1.seq h3,sm1.seq h4⟩
 refine jA L1 0 rfl (h7 hav L1) hS1 ((io L1.same).seq he) zb db dl λH3 o3 ms L3 _ hS3=>?_
 w_on
 exact k H3 o3 _ L3 hS3
theorem j3 {H H0:Hp}{ls:List (Addr×HO)}{Q:VK}{E:XK}{x e:Addr}{s:SS}{d:NL}{o:HO}(L:Loc H0 H ls)(j:Nat)(hj:ls[j]? = some (x,o)){av:Addr->Prop}(hav:∀b,av b->H b≠none)(hS:SealAt K ad.Sealing (res H av) x s o)(he:SqL K (er H x) e (nv d))(zb:Bytes s.z)(db:Bytes d)(dl:d.length<4700)
  (q:∀H' o' ms,Loc H0 H' (ls.set j (x,o')++ms)->Loc (er H x) H' ((x,o') :: ms)->SealAt K ad.Sealing (res H' av) x { s with bl:=s.bl+d.length,z:=s.z++d } o'->Q .non H'):bn K ad (.ref x :: ([.ref e]++[])) H Q E:=
 ⟨av,x,e,s,d,o,hav,rfl,L.get j hj,hS,he,zb,db,dl,λH' o' ms M hS'=>q H' o' ms (L.meth j hj M) M hS'⟩
theorem xn (key nonce t:NL)(n:Nat){i:Nat}(h:i<t.length):(aE key nonce t n).take (i+1)=(aE key nonce t n).take i++[t.getD i 0 ^^^ ks key nonce (n+i)]:=by
 rw[ji (by rw[gz];exact h)]
 unfold aE
 rw[getD_eq_getElem?_getD,getElem?_map,getElem?_range h]
 rfl
def cc (K:Frag)(ad:Adr):Sp:=λvs H Q _=>∃(av:Addr->Prop)(x e:Addr)(s:SS)(d:NL)(o:HO),(∀b,av b->H b≠none)/\vs=[.ref x,.ref e]/\H x=some o/\SealAt K ad.Sealing (res H av) x s o/\SqL K (er H x) e (nv d)/\s.Ok/\d.length<4700/\∀H' o' p str ms,Loc (er H x) H' ((x,o') :: (p,.lst (nv (aE s.key s.nonce d s.tl))) :: ms)->SealAt K ad.Sealing (res H' av) x { s with stream:=str,tl:=s.tl+d.length } o'->({ s with stream:=str,tl:=s.tl+d.length }:SS).Ok->Q (.ref p) H'
abbrev aY:Stmt:=inClass (top 73) 5
theorem sc_Sealing_run_stream:FnScope ["self","data","run","byte","place"] ["self","data"] (Dg aY):=by walk_at "sc"
theorem kO {f:Addr}{fd:FuncData}(F:Fun K "run_stream" "Sealing.run_stream" aY f fd)(T:Txt K mg ad)(C_Sealing_enciphered_count:Method P w K mg base 4 ad.Sealing "enciphered_count" ["self","count"] (aG K ad)):FnOk P w K mg base CX0 5 f fd ["self","data"] (cc K ad):=by
 refine F.ok sc_Sealing_run_stream (λvs H Q E h=>?_) (λcdv A outer s H vs Q E hr h=>?_)
 ·k_go0
 obtain ⟨av,x,e,s,d,o,hav,rfl,hx,⟨dx,a,b,c,t,rfl,r1,r2,r3,r4⟩,he,ok,dl,k⟩:=h
 have up:=ju (H:=res H av) (H':=H) res_up x
 have h1:=up.seq r1
 have h2:=up.seq r2
 have h4:=up.seq r4
 refine ⟨_,(Df (Dl (i:=2) sc_Sealing_run_stream.nd rfl (Or.inl rfl) (DA De))
   (Df (DN PassesOwn.never rfl (DR (pv 1)) (Dr (i:=3) sc_Sealing_run_stream.nd rfl (Or.inl rfl)) (Df (Dl (i:=4) sc_Sealing_run_stream.nd rfl (Or.inl rfl) (Dj Eg (Ds (pv 0) rfl) Dh))
   (Df (pJ (DF (Dt D8 (pv 4) Dh (Dv _)) (Di (DL (pv 0) (ak T.c_Sealing C_Sealing_enciphered_count hr.m (pv 0) (Dd (Dj DB (Dj Em (Ds (pv 0) rfl) Dh) Dh) De)) rfl)) Dx))
   (Df (DG (D2 PySem.F.plainAttrs_list PySem.F.slot_list_append PySem.F.type_list_append D6 (pv 2) (Dd (Dj DC (pv 3) (Du (ae (K:=K) rfl) (Ds (pv 0) rfl) (pv 4) (λ_ _=>rfl))) De)))
   (Di (DL (pv 0) (Dj DB (Ds (pv 0) rfl) Dh) rfl))))))
   (Di (Dm (pv 2))))),?_⟩
 walk_at "cSealing"
 have L0:=Loc.self hx
 have rl:=gz s.key s.nonce d s.tl
 k_go
 apply aF L0 (by decide)
 intro p H1 L1
 w_on
 refine ja (xs:=nv d) (λi σ H'=>∃(v3 v4:Option V)(c:Addr)(str:NL)(ms:List (Addr×HO)),σ = [some (.ref x),some (.ref e),some (.ref p),v3,v4]/\Loc (er H x) H' ((x,.ins ad.Sealing dx (af (.ref a) (.int (s.fac:Int)) (.ref b) (.bl s.op) (.ref c) (.int (s.bl:Int)) (.int ((s.tl+i:Nat):Int)) (.bl s.begun) (.int ((gY s.fac s.z:Nat):Int)) (.ref t))) :: (p,.lst (nv ((aE s.key s.nonce d s.tl).take i))) :: ms)/\(∀H2 o2 l2,Loc (er H x) H2 ((x,o2) :: (p,l2) :: ms)->SqL K (er (res H2 av) x) c (nv str))/\((s.tl+i)%16≠0->str=block s.key (counter s.nonce ((s.tl+i)/16+2))))
  ⟨_,_,c,s.stream,[],rfl,L1,λH2 o2 l2 L=>(fC L.same).seq r3,ok.str⟩ (λi σ H' _ ⟨_,_,_,_,_,_,L,_⟩=>L.arg he) ?_ ?_
 ·refine λi y σ H2 hy ez9=>e_5 ez9 λv3 v4 c2 str ms=>a_4 λez L2 hcl hst=>?_;clear ez9;subst ez
  obtain ⟨hi,rfl⟩:=ca hy
  have hx2:=L2.get 0 rfl
  have ht:((aE s.key s.nonce d s.tl).take i).length=i:=by rw[length_take,rl];lia
  w_on
  refine ⟨λσ' H'=>∃(c3:Addr)(ms3:List (Addr×HO)),σ'=[some (.ref x),some (.ref e),some (.ref p),some (.int ((d.getD i 0:Nat):Int)),some (.int (((s.tl+i)%16:Nat):Int))]/\Loc (er H x) H' ((x,.ins ad.Sealing dx (af (.ref a) (.int (s.fac:Int)) (.ref b) (.bl s.op) (.ref c3) (.int (s.bl:Int)) (.int ((s.tl+i:Nat):Int)) (.bl s.begun) (.int ((gY s.fac s.z:Nat):Int)) (.ref t))) :: (p,.lst (nv ((aE s.key s.nonce d s.tl).take i))) :: ms3)/\(∀H2 o2 l2,Loc (er H x) H2 ((x,o2) :: (p,l2) :: ms3)->SqL K (er (res H2 av) x) c3 (nv (block s.key (counter s.nonce ((s.tl+i)/16+2))))),?_,?_⟩
  ·w_on
   refine bZ (λhc=>?_) (λhc=>?_)
   ·w_on
    refine gX (s:={ s with stream:=str,tl:=s.tl+i }) L2 0 rfl ⟨dx,a,b,c2,t,rfl,L2.argE 0 rfl h1,L2.argE 0 rfl h2,(ju res_up x).seq (hcl _ _ _ L2),L2.argE 0 rfl h4⟩ ⟨ok.key,ok.nlen,ok.nb,ok.zb,hst⟩ λp3 H3 M3 L3=>?_
    have hx3:=L3.get 0 rfl
    w_on
    refine bY L3 0 rfl cC n_stream (by walk_at "lt1000") λH4 L4=>?_
    simp only[iY,cons_append,set_cons_zero] at L4
    w_on
    exact i_2 p3 _ ⟨rfl,L4,λH2 o2 l2 L=>L.lstR hav 0 (ms.length+2) rfl (by simp) (by lia)⟩
   ·w_on
    refine i_2 c2 ms ⟨rfl,L2,?_⟩
    rw[<- hst hc]
    exact hcl
  ·refine λσ' H3 ez9=>e_2 ez9 λc3 ms3=>a_3 λez L3 hcl3=>?_;clear ez9;subst ez
   have bl:=(gW ok.key (fc ok.nlen ok.nb ((s.tl+i)/16+2))).len
   have hx3:=L3.get 0 rfl
   have h33:=(iT x).seq ((ju res_up x).seq (hcl3 _ _ _ L3))
   have hm:(s.tl+i)%16<16:=mod_lt _ (by decide)
   w_on
   refine gB L3 1 rfl (by rw[aw,ht,sizeLine_eq];lia) λH4 L4=>?_
   simp only[set_cons_zero,set_cons_succ,de] at L4
   have hx4:=L4.get 0 rfl
   w_on
   refine bY L4 0 rfl cC n_text_length (by walk_at "lt1000") λH5 L5=>?_
   simp only[gf,set_cons_zero] at L5
   w_on
   refine i_5 _ _ c3 _ ms3 ⟨rfl,?_,hcl3,λhne=>?_⟩
   ·rw[xn _ _ _ _ hi]
    exact L5
   ·rw[show (s.tl+(i+1))/16=(s.tl+i)/16 by lia]
 ·refine λσ H2 ez9=>e_5 ez9 λv3 v4 c2 str ms=>a_4 λez L2 hcl hst=>?_;clear ez9;subst ez
  rw[aw] at L2 hst
  rw[<- rl,take_length,rl] at L2
  w_on
  exact k H2 _ p str ms L2 ⟨dx,a,b,c2,t,rfl,(fC L2.same).seq r1,(fC L2.same).seq r2,hcl _ _ _ L2,(fC L2.same).seq r4⟩ ⟨ok.key,ok.nlen,ok.nb,ok.zb,hst⟩
theorem qu {H H0:Hp}{ls:List (Addr×HO)}{Q:VK}{E:XK}{x e:Addr}{s:SS}{d:NL}{o:HO}(L:Loc H0 H ls)(j:Nat)(hj:ls[j]? = some (x,o)){av:Addr->Prop}(hav:∀b,av b->H b≠none)(hS:SealAt K ad.Sealing (res H av) x s o)(he:SqL K (er H x) e (nv d))(ok:s.Ok)(dl:d.length<4700)
  (q:∀H' o' p str ms,Loc H0 H' (ls.set j (x,o')++(p,.lst (nv (aE s.key s.nonce d s.tl))) :: ms)->Loc (er H x) H' ((x,o') :: (p,.lst (nv (aE s.key s.nonce d s.tl))) :: ms)->SealAt K ad.Sealing (res H' av) x { s with stream:=str,tl:=s.tl+d.length } o'->({ s with stream:=str,tl:=s.tl+d.length }:SS).Ok->Q (.ref p) H'):cc K ad (.ref x :: ([.ref e]++[])) H Q E:=
 ⟨av,x,e,s,d,o,hav,rfl,L.get j hj,hS,he,ok,dl,λH' o' p str ms M hS' ok'=>q H' o' p str ms (L.meth j hj M) M hS' ok'⟩
def zOf (s:SS):NL:=if s.begun=true then s.z else filled s.z
theorem jZ {s:SS}(h:Bytes s.z):Bytes (zOf s):=by
 unfold zOf
 split
 ·exact h
 ·exact jR h
def gv (s:SS)(d:NL):NL:=if s.op=true then d else aE s.key s.nonce d s.tl
theorem Cn {key nonce:NL}(k:KeyOk key)(h:nonce.length=12)(hb:Bytes nonce)(j:Nat):ks key nonce j<256:=(gW k (fc h hb _)).bytes.at_ _
theorem jm {key nonce t:NL}(k:KeyOk key)(h:nonce.length=12)(hb:Bytes nonce)(ht:Bytes t)(n:Nat):Bytes (aE key nonce t n):=λy hy=>by
 unfold aE at hy
 refine e_1 (mem_map.mp hy) λi=>a_2 λ_ ez=>?_;subst ez
 exact aO (ht.at_ i) (Cn k h hb _)
def bD (K:Frag)(ad:Adr):Sp:=λvs H Q _=>∃(av:Addr->Prop)(x e:Addr)(s:SS)(d:NL)(o:HO),(∀b,av b->H b≠none)/\vs=[.ref x,.ref e]/\H x=some o/\SealAt K ad.Sealing (res H av) x s o/\SqL K (er H x) e (nv d)/\s.Ok/\Bytes d/\d.length<4700/\∀H' o' p str ms,Loc (er H x) H' ((x,o') :: (p,.lst (nv (aE s.key s.nonce d s.tl))) :: ms)->SealAt K ad.Sealing (res H' av) x { s with stream:=str,tl:=s.tl+d.length,begun:=true,z:=zOf s++gv s d } o'->({ s with stream:=str,tl:=s.tl+d.length,begun:=true,z:=zOf s++gv s d }:SS).Ok->Q (.ref p) H'
abbrev bh:Stmt:=inClass (top 73) 6
theorem sc_Sealing_take_text:FnScope ["self","data","run"] ["self","data"] (Dg bh):=by walk_at "sc"
theorem lv {f:Addr}{fd:FuncData}(F:Fun K "take_text" "Sealing.take_text" bh f fd)(T:Txt K mg ad)(C_Sealing_hold:Method P w K mg base 2 ad.Sealing "hold" ["self","data"] (bE K ad))(C_Sealing_fill_block:Method P w K mg base 3 ad.Sealing "fill_block" ["self"] (bt K ad))(C_Sealing_run_stream:Method P w K mg base 5 ad.Sealing "run_stream" ["self","data"] (cc K ad)):FnOk P w K mg base CX0 6 f fd ["self","data"] (bD K ad):=by
 refine F.ok sc_Sealing_take_text (λvs H Q E h=>?_) (λcdv A outer s H vs Q E hr h=>?_)
 ·k_go0
 refine e_6 h λav x e s d o=>a_9 λhav ez hx hS he ok db dl k=>?_;clear h;subst ez
 refine ⟨_,(Df (pJ (DF (Ey (Eb (Ds (pv 0) rfl))) (Df (DL (pv 0) Fi rfl)
   (Di (DG (iZ T.c_Sealing C_Sealing_fill_block hr.m (pv 0))))) Dx))
   (Df (Dl (i:=2) sc_Sealing_take_text.nd rfl (Or.inl rfl) (ak T.c_Sealing C_Sealing_run_stream hr.m (pv 0) (Dd (pv 1) De)))
   (Df (DG (ak T.c_Sealing C_Sealing_hold hr.m (pv 0) (Dd (Ee (Eb (Ds (pv 0) rfl)) (pv 1) (pv 2)) De)))
   (Di (Dm (pv 2)))))),?_⟩
 walk_at "cSealing"
 refine e_5 (id hS) λdx a b c t=>a_5 λez h1 h2 h3 h4=>?_;subst ez
 have L0:=Loc.self hx
 have rl:=gz s.key s.nonce d s.tl
 k_go
 refine ⟨λσ' H'=>∃(o1:HO)(ms:List (Addr×HO)),σ'=[some (.ref x),some (.ref e),none]/\Loc (er H x) H' ((x,o1) :: ms)/\SealAt K ad.Sealing (res H' av) x { s with begun:=true,z:=zOf s } o1,?_,?_⟩
 ·w_on
  cases hb:s.begun with
  |true=>
   refine ite_ff ?_
   w_on
   refine i_2 _ [] ⟨rfl,L0,?_⟩
   rw[show zOf s=s.z by unfold zOf;rw[if_pos hb]]
   exact ⟨dx,a,b,c,t,by rw[hb];rfl,h1,h2,h3,h4⟩
  |false=>
   refine ite_tt ?_
   w_on
   refine bY L0 0 rfl cC n_text_begun (by walk_at "lt1000") λH1 L1=>?_
   simp only[gm,set_cons_zero] at L1
   have sm1:Same (er (res H av) x) (er (res H1 av) x):=fC L1.same
   have hS1:SealAt K ad.Sealing (res H1 av) x { s with begun:=true } _:=⟨dx,a,b,c,t,rfl,sm1.seq h1,sm1.seq h2,sm1.seq h3,sm1.seq h4⟩
   have hx1:=L1.get 0 rfl
   w_on
   refine kD L1 0 rfl (h7 hav L1) hS1 ok.zb λH2 o2 ms L2 _ hS2=>?_
   w_on
   refine i_2 o2 _ ⟨rfl,L2,?_⟩
   rw[show zOf s=filled s.z by unfold zOf;rw[if_neg (by rw[hb];exact Bool.noConfusion)]]
   exact hS2
 ·refine λσ' H1 ez9=>e_2 ez9 λo1 ms1=>a_3 λez L1 hS1=>?_;clear ez9;subst ez
  have ok1:({ s with begun:=true,z:=zOf s }:SS).Ok:=⟨ok.key,ok.nlen,ok.nb,jZ ok.zb,ok.str⟩
  refine e_5 (id hS1) λdx1 a1 b1 c1 t1=>a_5 λez h11 h21 h31 h41=>?_;subst ez
  have hx1:=L1.get 0 rfl
  w_on
  refine qu L1 0 rfl (h7 hav L1) hS1 (L1.argE 0 rfl he) ok1 dl λH2 o2 p str ms L2 N2 hS2 ok2=>?_
  refine e_5 (id hS2) λdx2 a2 b2 c2 t2=>a_5 λez h12 h22 h32 h42=>?_;subst ez
  have hx2:=L2.get 0 rfl
  simp only[set_cons_zero,cons_append] at L2
  have hp2:SqL K (er H2 x) p (nv (aE s.key s.nonce d s.tl)):=L2.lstE 0 (ms1.length+1) rfl (by simp) (by lia)
  w_on
  have fin:∀(H3:Hp)(o3:HO)(ms3:List (Addr×HO)),Loc (er H2 x) H3 ((x,o3) :: ms3)->SealAt K ad.Sealing (res H3 av) x { s with stream:=str,tl:=s.tl+d.length,begun:=true,z:=zOf s++gv s d } o3->Q (.ref p) H3:=λH3 o3 ms3 M3 hS3=>by
   have L3:=L2.meth 0 rfl M3
   have hp3:(p,HO.lst (nv (aE s.key s.nonce d s.tl)))∈(((x,HO.ins ad.Sealing dx2 (af (V.ref a2) (V.int (SS.fac { s with stream:=str,tl:=s.tl+d.length,begun:=true,z:=zOf s }:Int)) (V.ref b2) (V.bl s.op) (V.ref c2) (V.int (s.bl:Int)) (V.int ((s.tl+d.length:Nat):Int)) (V.bl true) (V.int ((gY (SS.fac { s with stream:=str,tl:=s.tl+d.length,begun:=true,z:=zOf s }) (zOf s):Nat):Int)) (V.ref t2))) :: (ms1++(p,HO.lst (nv (aE s.key s.nonce d s.tl))) :: ms)).set 0 (x,o3)++ms3):=by simp
   have L3':Loc (er H x) H3 ((x,o3) :: (p,.lst (nv (aE s.key s.nonce d s.tl))) :: []):=L3.sub (by simp only[set_cons_zero,cons_append];refine List.Sublist.cons_cons _ ?_;refine List.singleton_sublist.mpr ?_;simp)
   refine k H3 o3 p str [] L3' hS3 ⟨ok.key,ok.nlen,ok.nb,Bytes.app (jZ ok.zb) ?_,ok2.str⟩
   unfold gv
   split
   ·exact db
   ·exact jm ok.key ok.nlen ok.nb db _
  have M2:=Loc.self hx2
  have hav2:=h7 (h7 hav L1) N2
  cases ho:s.op with
  |true=>
   refine ite_tt ?_
   w_on
   refine jA M2 0 rfl hav2 hS2 (L2.argE 0 rfl he) (jZ ok.zb) db dl λH3 o3 ms3 M3 _ hS3=>?_
   w_on
   refine fin H3 o3 _ M3 ?_
   rw[show gv s d=d by unfold gv;rw[if_pos ho]]
   exact hS3
  |false=>
   refine ite_ff ?_
   w_on
   refine jA M2 0 rfl hav2 hS2 hp2 (jZ ok.zb) (jm ok.key ok.nlen ok.nb db _) (by rw[rl];exact dl) λH3 o3 ms3 M3 _ hS3=>?_
   w_on
   refine fin H3 o3 _ M3 ?_
   rw[show gv s d=aE s.key s.nonce d s.tl by unfold gv;rw[if_neg (by rw[ho];exact Bool.noConfusion)]]
   exact hS3
theorem lL {H H0:Hp}{ls:List (Addr×HO)}{Q:VK}{E:XK}{x e:Addr}{s:SS}{d:NL}{o:HO}(L:Loc H0 H ls)(j:Nat)(hj:ls[j]? = some (x,o)){av:Addr->Prop}(hav:∀b,av b->H b≠none)(hS:SealAt K ad.Sealing (res H av) x s o)(he:SqL K (er H x) e (nv d))(ok:s.Ok)(db:Bytes d)(dl:d.length<4700)
  (q:∀H' o' p str ms,Loc H0 H' (ls.set j (x,o')++(p,.lst (nv (aE s.key s.nonce d s.tl))) :: ms)->Loc (er H x) H' ((x,o') :: (p,.lst (nv (aE s.key s.nonce d s.tl))) :: ms)->SealAt K ad.Sealing (res H' av) x { s with stream:=str,tl:=s.tl+d.length,begun:=true,z:=zOf s++gv s d } o'->({ s with stream:=str,tl:=s.tl+d.length,begun:=true,z:=zOf s++gv s d }:SS).Ok->Q (.ref p) H'):bD K ad (.ref x :: ([.ref e]++[])) H Q E:=
 ⟨av,x,e,s,d,o,hav,rfl,L.get j hj,hS,he,ok,db,dl,λH' o' p str ms M hS' ok'=>q H' o' p str ms (L.meth j hj M) M hS' ok'⟩
end
section
variable {P:Program}{w:World}{K:Frag}{mg:Str->Option Value}{base:Heap}{ad:Adr}
def fK (s:SS):NL:=big 16 (hashed s.fac (filled s.z++(big 8 (8*s.bl)++big 8 (8*s.tl))) ^^^ bigOf (block s.key (counter s.nonce 1)))
theorem rL (s:SS):(fK s).length=16:=cu _ _
theorem uX (s:SS):Bytes (fK s):=eA _ _
def dR (K:Frag)(ad:Adr):Sp:=λvs H Q _=>∃(x:Addr)(s:SS)(o:HO),vs=[.ref x]/\H x=some o/\SealAt K ad.Sealing H x s o/\s.Ok/\s.bl<1000000/\s.tl<1000000/\∀p H' o' ms,Loc (er H x) H' ((x,o') :: (p,.lst (nv (fK s))) :: ms)->Q (.ref p) H'
abbrev da:Stmt:=inClass (top 73) 7
theorem qN:FnScope ["self"] ["self"] (Dg da):=by walk_at "sc"
theorem re {f:Addr}{fd:FuncData}(F:Fun K "tag" "Sealing.tag" da f fd)(T:Txt K mg ad)(C_number_of:Callee P w K mg base 1 "number_of" ["data"] (bU K))(C_bytes_of:Callee P w K mg base 1 "bytes_of" ["number","count"] (eO K))(C_Sealing_enciphered_count:Method P w K mg base 4 ad.Sealing "enciphered_count" ["self","count"] (aG K ad))(C_Sealing_hold:Method P w K mg base 2 ad.Sealing "hold" ["self","data"] (bE K ad))(C_Sealing_fill_block:Method P w K mg base 3 ad.Sealing "fill_block" ["self"] (bt K ad)):FnOk P w K mg base CX0 5 f fd ["self"] (dR K ad):=by
 refine F.ok qN (λvs H Q E h=>?_) (λcdv A outer s H vs Q E hr h=>?_)
 ·k_go0
 refine e_3 h λx s o=>a_7 λez hx hS ok bb tb k=>?_;clear h;subst ez
 refine ⟨_,(Df (DG (iZ T.c_Sealing C_Sealing_fill_block hr.m (pv 0)))
   (Df (DG (ak T.c_Sealing C_Sealing_hold hr.m (pv 0) (Dd (Dj (ao (K:=K) rfl) (ab C_bytes_of hr.m rfl (Dd (Dj DY Dh (Ds (pv 0) rfl)) (Dd Dh De))) (ab C_bytes_of hr.m rfl (Dd (Dj DY Dh (Ds (pv 0) rfl)) (Dd Dh De)))) De)))
   (Di (Dm (ab C_bytes_of hr.m rfl (Dd (Dj DC (Ds (pv 0) rfl) (ab C_number_of hr.m rfl (Dd (ak T.c_Sealing C_Sealing_enciphered_count hr.m (pv 0) (Dd Dh De)) De))) (Dd (gI T.g_TAG_LENGTH) De))))))),?_⟩
 walk_at "cSealing"
 refine e_5 (id hS) λdx a b c t=>a_5 λez h1 h2 h3 h4=>?_;subst ez
 have L0:=Loc.self hx
 k_go
 refine kD L0 0 rfl (av:=λ_=>False) (λ_ z=>z.elim) (by rw[aH];exact hS) ok.zb λH1 o1 ms1 L1 _ hS1=>?_
 rw[aH] at hS1
 refine e_5 (id hS1) λdx1 a1 b1 c1 t1=>a_5 λez h11 h21 h31 h41=>?_;subst ez
 have K1':=L1.pick 0 rfl
 have hx1:=K1'.get 0 rfl
 have L1:=Loc.self hx1
 w_on
 refine dO L1 (.inr (.inl rfl)) λp2 H2 L2=>?_
 have hx2:=L2.get 0 rfl
 w_on
 refine dO L2 (.inr (.inl rfl)) λp3 H3 L3=>?_
 have hx3:=L3.get 0 rfl
 w_on
 refine ay L3 (L3.lst 1 rfl) (L3.lst 2 rfl) (by rw[cu,cu];decide) λp4 H4 L4=>?_
 have sm4:Same (er H1 x) (er H4 x):=io L4.same
 w_on
 refine jA L4 0 rfl (av:=λ_=>False) (λ_ z=>z.elim) (by rw[aH];exact hS1.mono sm4) (L4.lstE 0 3 rfl rfl) (jR ok.zb) ((eA _ _).app (eA _ _)) (by rw[length_append,cu,cu];decide) λH5 o5 ms5 L5 _ hS5=>?_
 rw[aH] at hS5
 refine e_5 (id hS5) λdx5 a5 b5 c5 t5=>a_5 λez h15 h25 h35 h45=>?_;subst ez
 have L5:=L5.pick 0 rfl
 have hx5:=L5.get 0 rfl
 w_on
 have ok5:({ s with z:=filled s.z++(big 8 (8*s.bl)++big 8 (8*s.tl)) }:SS).Ok:=⟨ok.key,ok.nlen,ok.nb,(jR ok.zb).app ((eA _ _).app (eA _ _)),ok.str⟩
 refine gX L5 0 rfl hS5 ok5 λp6 H6 M6 L6=>?_
 have cb:=gW ok.key (fc ok.nlen ok.nb 1)
 w_on
 refine eJ (L6.lst 1 rfl) cb.bytes (by show List.length (block s.key (counter s.nonce 1))<=500;rw[cb.len];decide) ?_
 w_on
 refine dO L6 (.inr (.inr rfl)) λp7 H7 L7=>?_
 have ew:(filled s.z++(big 8 (8*s.bl)++big 8 (8*s.tl))).length%16=0:=by
  have:=qi s.z
  rw[length_append,length_append,cu,cu]
  lia
 have L7:Loc (er H1 x) H7 [(x,.ins ad.Sealing dx5 (af (.ref a5) (.int (s.fac:Int)) (.ref b5) (.bl s.op) (.ref c5) (.int (s.bl:Int)) (.int (s.tl:Int)) (.bl s.begun) (.int ((gY s.fac (filled s.z++(big 8 (8*s.bl)++big 8 (8*s.tl))):Nat):Int)) (.ref t5))),(p7,.lst (nv (fK s)))]:=by
  have e:fK s=big 16 (gY s.fac (filled s.z++(big 8 (8*s.bl)++big 8 (8*s.tl))) ^^^ bigOf (block s.key (counter s.nonce 1))):=by
   unfold fK
   rw[(yj ew).1]
  rw[e]
  exact L7.sub (by walk_at "subl")
 exact k p7 H7 _ [] (K1'.meth 0 rfl L7)
theorem vv {H H0:Hp}{ls:List (Addr×HO)}{Q:VK}{E:XK}{x:Addr}{s:SS}{o:HO}(L:Loc H0 H ls)(j:Nat)(hj:ls[j]? = some (x,o))(hS:SealAt K ad.Sealing H x s o)(ok:s.Ok)(bb:s.bl<1000000)(tb:s.tl<1000000)
  (q:∀p H' o' ms,Loc H0 H' (ls.set j (x,o')++(p,.lst (nv (fK s))) :: ms)->Same (er H x) (er H' x)->Q (.ref p) H'):dR K ad (.ref x :: ([]++[])) H Q E:=
 i_3 x s o ⟨rfl,L.get j hj,hS,ok,bb,tb,λp H' o' ms M=>q p H' o' ms (L.meth j hj M) (io M.same)⟩
theorem o7 {key nonce w c:NL}{op:Bool}{str:NL}(kok:KeyOk key)(nl:nonce.length=12)(nb:Bytes nonce):fK ⟨key,nonce,op,str,w.length,c.length,true,filled w++c⟩=tag key nonce w c:=by
 have cb:=gW kok (fc nl nb 1)
 rw[<- At cb.len cb.bytes]
 unfold fK SS.fac
 dsimp only
 rw[wE c (qi w),append_assoc]
end
section
variable {P:Program}{w:World}{K:Frag}{mg:Str->Option Value}{base:Heap}{ad:Adr}
theorem ql {key nonce:NL}(k:KeyOk key)(h:nonce.length=12)(hb:Bytes nonce)(i:Nat):(block key (counter nonce i)).length=16:=(gW k (fc h hb i)).len
def gZ (K:Frag):Sp:=λvs H Q _=>∃(a b c d:Addr)(key nonce w t:NL),vs=[.ref a,.ref b,.ref c,.ref d]/\SqL K H a (nv key)/\SqL K H b (nv nonce)/\SqL K H c (nv w)/\SqL K H d (nv t)/\KeyOk key/\nonce.length=12/\Bytes nonce/\Bytes w/\Bytes t/\w.length<4700/\t.length<4700/\∀p H',Loc H H' [(p,.lst (nv (sealed key nonce w t)))]->Q (.ref p) H'
abbrev eR:Stmt:=top 74
theorem sc_seal_text:FnScope ["key","nonce","beside","text","sealing","sealed"] ["key","nonce","beside","text"] (Dg eR):=by walk_at "sc"
theorem ua {f:Addr}{fd:FuncData}(F:Fun K "seal_text" "seal_text" eR f fd)(T:Txt K mg ad)(C_Sealing_init:Maker P w K mg base 4 ad.Sealing ["self","key","nonce","opening"] (fj K ad))(C_Sealing_take_beside:Method P w K mg base 3 ad.Sealing "take_beside" ["self","data"] (bn K ad))(C_Sealing_take_text:Method P w K mg base 6 ad.Sealing "take_text" ["self","data"] (bD K ad))(C_Sealing_tag:Method P w K mg base 5 ad.Sealing "tag" ["self"] (dR K ad)):FnOk P w K mg base CX0 7 f fd ["key","nonce","beside","text"] (gZ K):=by
 refine F.ok sc_seal_text (λvs H Q E h=>?_) (λcdv A outer s H vs Q E hr h=>?_)
 ·k_go0
 refine e_8 h λa b c d key nonce w t=>ze λez ha hb hc hd kok nl nb wb tb wl tl k=>?_;clear h;subst ez
 refine ⟨_,(Df (Dl (i:=4) sc_seal_text.nd rfl (Or.inl rfl) (pQ T.k_Sealing C_Sealing_init hr.m rfl (Dd (pv 0) (Dd (pv 1) (Dd Fi De)))))
   (Df (DG (ak T.c_Sealing C_Sealing_take_beside hr.m (pv 4) (Dd (pv 2) De)))
   (Df (Dl (i:=5) sc_seal_text.nd rfl (Or.inl rfl) (ak T.c_Sealing C_Sealing_take_text hr.m (pv 4) (Dd (pv 3) De)))
   (Di (Dm (Dj (ao (K:=K) rfl) (pv 5) (iZ T.c_Sealing C_Sealing_tag hr.m (pv 4)))))))),?_⟩
 have L0:=Loc.start H
 k_go
 refine mn L0 λx dx H1 L1=>?_
 refine ⟨λ_=>False,x,dx,a,b,key,nonce,false,λ_ z=>z.elim,rfl,L1.get 1 rfl,L1.argE 1 rfl ha,L1.argE 1 rfl hb,kok,nl,nb,λH2 o ms M2 hS=>⟨rfl,?_⟩⟩
 rw[aH] at hS
 have L2:=L1.meth 1 rfl M2
 have L2:=L2.pick 1 rfl
 have ok0:(⟨key,nonce,false,[],0,0,false,[]⟩:SS).Ok:=⟨kok,nl,nb,Bytes.nil,λh=>absurd rfl h⟩
 refine e_5 (id hS) λdx2 a2 b2 c2 t2=>a_5 λez h12 h22 h32 h42=>?_;subst ez
 have hx2:=L2.get 0 rfl
 w_on
 refine j3 (d:=w) L2 0 rfl (av:=λ_=>False) (λ_ z=>z.elim) (by rw[aH];exact hS) (L2.argE 0 rfl hc) Bytes.nil wb wl λH3 o3 ms3 L3 _ hS3=>?_
 rw[aH] at hS3
 have L3:=L3.pick 0 rfl
 have ok3:(⟨key,nonce,false,[],0+w.length,0,false,[]++w⟩:SS).Ok:=⟨kok,nl,nb,wb,λh=>absurd rfl h⟩
 refine e_5 (id hS3) λdx3 a3 b3 c3 t3=>a_5 λez h13 h23 h33 h43=>?_;subst ez
 have hx3:=L3.get 0 rfl
 w_on
 refine lL (d:=t) L3 0 rfl (av:=λ_=>False) (λ_ z=>z.elim) (by rw[aH];exact hS3) (L3.argE 0 rfl hd) ok3 tb tl λH4 o4 p4 str ms4 L4 _ hS4 ok4=>?_
 rw[aH] at hS4
 refine e_5 (id hS4) λdx4 a4 b4 c4 t4=>a_5 λez h14 h24 h34 h44=>?_;subst ez
 have rl:=gz key nonce t 0
 have L4:Loc H H4 [(x,_),(p4,.lst (nv (aE key nonce t 0)))]:=L4.take 2
 have hx4:=L4.get 0 rfl
 w_on
 refine vv L4 0 rfl hS4 ok4 (by show 0+w.length<1000000;lia) (by show 0+t.length<1000000;lia) λp5 H5 o5 ms5 L5 sm5=>?_
 have et:fK { (⟨key,nonce,false,[],0+w.length,0,false,[]++w⟩:SS) with stream:=str,tl:=0+t.length,begun:=true,z:=zOf ⟨key,nonce,false,[],0+w.length,0,false,[]++w⟩++gv ⟨key,nonce,false,[],0+w.length,0,false,[]++w⟩ t }=tag key nonce w (aE key nonce t 0):=by
  rw[<- o7 (op:=false) (str:=str) kok nl nb,rl]
  show fK ⟨key,nonce,false,str,0+w.length,0+t.length,true,filled ([]++w)++aE key nonce t 0⟩=_
  rw[zero_add,zero_add,nil_append]
 rw[et] at L5
 have L5:Loc H H5 [(x,o5),(p4,.lst (nv (aE key nonce t 0))),(p5,.lst (nv (tag key nonce w (aE key nonce t 0))))]:=L5.take 3
 have gl:(tag key nonce w (aE key nonce t 0)).length=16:=by rw[<- et];exact rL _
 w_on
 refine ay L5 (L5.lst 1 rfl) (L5.lst 2 rfl) (by rw[rl,gl,sizeLine_eq];lia) λp6 H6 L6=>?_
 have es:sealed key nonce w t=aE key nonce t 0++tag key nonce w (aE key nonce t 0):=by
  rw[iU (ql kok nl nb)]
  rfl
 rw[es] at k
 exact k p6 H6 (L6.pick 3 rfl)
theorem sj {H H0:Hp}{ls:List (Addr×HO)}{Q:VK}{E:XK}{a b c d:Addr}{key nonce w t:NL}(L:Loc H0 H ls)(ha:SqL K H a (nv key))(hb:SqL K H b (nv nonce))(hc:SqL K H c (nv w))(hd:SqL K H d (nv t))(kok:KeyOk key)(nl:nonce.length=12)(nb:Bytes nonce)(wb:Bytes w)(tb:Bytes t)(wl:w.length<4700)(tl:t.length<4700)
  (q:∀p H',Loc H0 H' (ls++[(p,.lst (nv (sealed key nonce w t)))])->Q (.ref p) H'):gZ K ([.ref a,.ref b,.ref c,.ref d]++[]) H Q E:=
 i_8 a b c d key nonce w t ⟨rfl,ha,hb,hc,hd,kok,nl,nb,wb,tb,wl,tl,λp H' M=>q p H' (L.calls M)⟩
theorem zB {key nonce w c:NL}(kok:KeyOk key)(nl:nonce.length=12)(nb:Bytes nonce):(tag key nonce w c).length=16:=by
 rw[<- o7 (op:=false) (str:=[]) kok nl nb];exact rL _
theorem pd {key nonce w t:NL}(kok:KeyOk key)(nl:nonce.length=12)(nb:Bytes nonce):(sealed key nonce w t).length=t.length+16:=by
 have es:sealed key nonce w t=aE key nonce t 0++tag key nonce w (aE key nonce t 0):=by
  rw[iU (ql kok nl nb)]
  rfl
 rw[es,length_append,gz,zB kok nl nb]
end
section
variable {P:Program}{w:World}{K:Frag}{mg:Str->Option Value}{base:Heap}{ad:Adr}
def BJ (o:Option (NL))(H:Hp)(Q:VK):Prop:=match o with
 |some t=>∀p H',Loc H H' [(p,.lst (nv t))]->Q (.ref p) H'
 |none=>∀H',Loc H H' []->Q .non H'
def jD (K:Frag):Sp:=λvs H Q _=>∃(a b c d:Addr)(key nonce w s:NL),vs=[.ref a,.ref b,.ref c,.ref d]/\SqL K H a (nv key)/\SqL K H b (nv nonce)/\SqL K H c (nv w)/\SqL K H d (nv s)/\KeyOk key/\nonce.length=12/\Bytes nonce/\Bytes w/\Bytes s/\w.length<4700/\s.length<4700/\16<=s.length/\BJ (opened key nonce w s) H Q
abbrev eS:Stmt:=top 75
theorem sc_open_text:FnScope ["key","nonce","beside","data","cut","opening","text"] ["key","nonce","beside","data"] (Dg eS):=by walk_at "sc"
theorem ub {f:Addr}{fd:FuncData}(F:Fun K "open_text" "open_text" eS f fd)(T:Txt K mg ad)(C_Sealing_init:Maker P w K mg base 4 ad.Sealing ["self","key","nonce","opening"] (fj K ad))(C_Sealing_take_beside:Method P w K mg base 3 ad.Sealing "take_beside" ["self","data"] (bn K ad))(C_Sealing_take_text:Method P w K mg base 6 ad.Sealing "take_text" ["self","data"] (bD K ad))(C_Sealing_tag:Method P w K mg base 5 ad.Sealing "tag" ["self"] (dR K ad)):FnOk P w K mg base CX0 7 f fd ["key","nonce","beside","data"] (jD K):=by
 refine F.ok sc_open_text (λvs H Q E h=>?_) (λcdv A outer s H vs Q E hr h=>?_)
 ·k_go0
 refine e_8 h λa b c d key nonce w sd=>CY λez ha hb hc hd kok nl nb wb tb wl tl s16 k=>?_;clear h;subst ez
 refine ⟨_,(Df (Dl (i:=4) sc_open_text.nd rfl (Or.inl rfl) (Dj DV (DE (az (K:=K) rfl) (by rfl) T.n_len aK (Dd (pv 3) De)) (gI T.g_TAG_LENGTH)))
   (Df (Dl (i:=5) sc_open_text.nd rfl (Or.inl rfl) (pQ T.k_Sealing C_Sealing_init hr.m rfl (Dd (pv 0) (Dd (pv 1) (Dd Fi De)))))
   (Df (DG (ak T.c_Sealing C_Sealing_take_beside hr.m (pv 5) (Dd (pv 2) De)))
   (Df (Dl (i:=6) sc_open_text.nd rfl (Or.inl rfl) (ak T.c_Sealing C_Sealing_take_text hr.m (pv 5) (Dd (DD (aj (K:=K) rfl) (pv 3) DP (Dy (pv 4))) De)))
   (Df (DF (Dt (kM (K:=K) rfl hr.units) (iZ T.c_Sealing C_Sealing_tag hr.m (pv 5)) (DD (aj (K:=K) rfl) (pv 3) (Dy (pv 4)) DP) (Dv _)) (Di (Dm DQ)) Dx)
   (Di (Dm (pv 6)))))))),?_⟩
 have L0:=Loc.start H
 k_go
 refine mn L0 λx dx H1 L1=>?_
 refine ⟨λ_=>False,x,dx,a,b,key,nonce,true,λ_ z=>z.elim,rfl,L1.get 1 rfl,L1.argE 1 rfl ha,L1.argE 1 rfl hb,kok,nl,nb,λH2 o ms M2 hS=>⟨rfl,?_⟩⟩
 rw[aH] at hS
 have L2:=L1.meth 1 rfl M2
 have L2:=L2.pick 1 rfl
 refine e_5 (id hS) λdx2 a2 b2 c2 t2=>a_5 λez h12 h22 h32 h42=>?_;subst ez
 have hx2:=L2.get 0 rfl
 w_on
 refine j3 (d:=w) L2 0 rfl (av:=λ_=>False) (λ_ z=>z.elim) (by rw[aH];exact hS) (L2.argE 0 rfl hc) Bytes.nil wb wl λH3 o3 ms3 L3 _ hS3=>?_
 rw[aH] at hS3
 have L3:=L3.pick 0 rfl
 have ok3:(⟨key,nonce,true,[],0+w.length,0,false,[]++w⟩:SS).Ok:=⟨kok,nl,nb,wb,λh=>absurd rfl h⟩
 refine e_5 (id hS3) λdx3 a3 b3 c3 t3=>a_5 λez h13 h23 h33 h43=>?_;subst ez
 have hx3:=L3.get 0 rfl
 have hd3:=L3.arg hd
 w_on
 have M3:=Loc.self hx3
 have hd3e:SqL K (er H3 x) d (nv sd):=L3.argE 0 rfl hd
 refine ap M3 hd3 λp4 H4 M4=>?_
 rw[gE (by lia) (by lia),Int.toNat_natCast] at M4
 w_on
 have tl4:(sd.take (sd.length-16)).length=sd.length-16:=by rw[length_take];lia
 refine lL (d:=sd.take (sd.length-16)) M4 0 rfl (av:=λ_=>False) (λ_ z=>z.elim) (by rw[aH];exact hS3.mono (io M4.same)) (M4.lstE 0 1 rfl rfl) ok3 (tb.take _) (by lia) λH5 o5 p5 str ms5 M5 _ hS5 ok5=>?_
 rw[aH] at hS5
 refine e_5 (id hS5) λdx5 a5 b5 c5 t5=>a_5 λez h15 h25 h35 h45=>?_;subst ez
 have rl:=gz key nonce (sd.take (sd.length-16)) 0
 have M5:Loc (er H3 x) H5 [(x,_),(p4,.lst (nv (sd.take (sd.length-16)))),(p5,.lst (nv (aE key nonce (sd.take (sd.length-16)) 0)))]:=M5.take 3
 have hx5:=M5.get 0 rfl
 w_on
 refine vv M5 0 rfl hS5 ok5 (by show 0+w.length<1000000;lia) (by show 0+(sd.take (sd.length-16)).length<1000000;lia) λp6 H6 o6 ms6 M6 sm6=>?_
 have et:fK { (⟨key,nonce,true,[],0+w.length,0,false,[]++w⟩:SS) with stream:=str,tl:=0+(sd.take (sd.length-16)).length,begun:=true,z:=zOf ⟨key,nonce,true,[],0+w.length,0,false,[]++w⟩++gv ⟨key,nonce,true,[],0+w.length,0,false,[]++w⟩ (sd.take (sd.length-16)) }=tag key nonce w (sd.take (sd.length-16)):=by
  rw[<- o7 (op:=true) (str:=str) kok nl nb]
  show fK ⟨key,nonce,true,str,0+w.length,0+(sd.take (sd.length-16)).length,true,filled ([]++w)++sd.take (sd.length-16)⟩=_
  rw[zero_add,zero_add,nil_append]
 rw[et] at M6
 have M6:Loc (er H3 x) H6 [(x,o6),(p4,.lst (nv (sd.take (sd.length-16)))),(p5,.lst (nv (aE key nonce (sd.take (sd.length-16)) 0))),(p6,.lst (nv (tag key nonce w (sd.take (sd.length-16)))))]:=M6.take 4
 have hd6:=M6.arg hd3e
 w_on
 refine ap M6 hd6 λp7 H7 M7=>?_
 rw[bp (by lia) (by lia),Int.toNat_natCast] at M7
 w_on
 refine pE (M7.lst 3 rfl) (M7.lst 4 rfl) ?_
 have eo:opened key nonce w sd=if tag key nonce w (sd.take (sd.length-16))=sd.drop (sd.length-16) then some (aE key nonce (sd.take (sd.length-16)) 0) else none:=by
  rw[iU (ql kok nl nb)]
  rfl
 rw[eo] at k
 have L7:Loc H H7 ([(x,o6)]++[(p4,.lst (nv (sd.take (sd.length-16)))),(p5,.lst (nv (aE key nonce (sd.take (sd.length-16)) 0))),(p6,.lst (nv (tag key nonce w (sd.take (sd.length-16))))),(p7,.lst (nv (sd.drop (sd.length-16))))]):=L3.meth 0 rfl M7
 w_on
 refine gu (λhc=>?_) (λhc=>?_)
 ·rw[if_neg hc] at k
  w_on
  exact k H7 L7.nil
 ·rw[if_pos hc] at k
  w_on
  exact k p5 H7 (L7.pick 2 rfl)
end
section
variable {P:Program}{w:World}{K:Frag}{mg:Str->Option Value}{base:Heap}{ad:Adr}
def dP (K:Frag):Sp:=λvs H Q _=>∃(f:Nat),vs=[.int (f:Int)]/\f<256/\∀p H',Loc H H' [(p,.lst (nv (tab f 8)))]->Q (.ref p) H'
abbrev du:Stmt:=top 2
theorem sc_multiples:FnScope ["factor","products","power","product"] ["factor"] (Dg du):=by walk_at "sc"
theorem ud {f:Addr}{fd:FuncData}(F:Fun K "multiples" "multiples" du f fd)(T:Txt K mg ad)(C_double:Callee P w K mg base 1 "double" ["byte"] (gM K)):FnOk P w K mg base CX0 2 f fd ["factor"] (dP K):=by
 refine F.ok sc_multiples (λvs H Q E h=>?_) (λcdv A outer s H vs Q E hr h=>?_)
 ·k_go0
 refine e_1 h λf=>a_3 λez hf k=>?_;clear h;subst ez
 refine ⟨_,(Df (Dl (i:=1) sc_multiples.nd rfl (Or.inl rfl) (DA (Dd Dh De)))
   (Df (DN PassesOwn.never rfl (DK rfl T.n_range (Dd Dh De)) (Dr (i:=2) sc_multiples.nd rfl (Or.inl rfl)) (Df (Dl (i:=1) sc_multiples.nd rfl (Or.inl rfl) (Dj (ao (K:=K) rfl) (pv 1) (D0 rfl sc_multiples.nd (DR (pv 1)) (DH (own:=[("product",3)]) (by show DX ["factor","products","power","product"] (Dg du) _ _=true;decide +kernel)) (λ_ _ _ _ _=>Dr (i:=3) sc_multiples.nd rfl (Or.inl rfl)) (λ_ _ _ _ _=>DM) (λ_ _ _ _ _=>(Dj DC (pv 3) (pv 0))))))
   (Di (Dl (i:=0) sc_multiples.nd rfl (Or.inr rfl) (ab C_double hr.m rfl (Dd (pv 0) De))))))
   (Di (Dm (pv 1))))),?_⟩
 have L0:=Loc.start H
 k_go
 apply aF L0 (by show 1<=sizeLine;decide)
 intro p H1 L1
 w_on
 refine ⟨8,rfl,by decide,by decide,cr (λi σ H'=>∃(q:Addr)(v2 v3:Option V),σ = [some (.int ((tw i f:Nat):Int)),some (.ref q),v2,v3]/\Loc H H' [(q,.lst (nv (tab f i)))]) ⟨p,_,_,rfl,L1⟩ ?_ ?_⟩
 ·refine λi σ H2 hi ez9=>e_3 ez9 λq v2 v3=>a_2 λez L2=>?_;clear ez9;subst ez
  have hi:i<8:=hi
  have tl:(tab f i).length<=128:=by
   rw[mT]
   exact (pow_le_pow_right (by decide) (show i<=7 by lia):2 ^ i<=2 ^ 7)
  w_on
  refine rA L2 (L2.lst 0 rfl) (by rw[sizeLine_eq];lia) (λj=>(tab f i).getD j 0 ^^^ tw i f) ?_ ?_
  ·intro j hj H7 D o R L7 r
   w_on
   exact r
  ·intro D H3 L3
   rw[cA (tab f i) (λx=>x ^^^ tw i f)] at L3
   w_on
   refine ay L3 (L3.lst 0 rfl) (L3.lst 1 rfl) (by rw[length_map,sizeLine_eq];lia) λq2 H4 L4=>?_
   rw[<- ym] at L4
   w_on
   first|refine oV (vT i hf) ?_|exact vT i hf
   rw[<- vw]
   w_on
   exact i_3 q2 _ _ ⟨rfl,L4.pick 2 rfl⟩
 ·refine λσ H2 ez9=>e_3 ez9 λq v2 v3=>a_2 λez L2=>?_;clear ez9;subst ez
  w_on
  exact k q H2 L2
theorem jd {H H0:Hp}{ls:List (Addr×HO)}{Q:VK}{E:XK}{f:Nat}(L:Loc H0 H ls)(hf:f<256)(q:∀p H',Loc H0 H' (ls++[(p,.lst (nv (tab f 8)))])->Q (.ref p) H'):dP K ([.int (f:Int)]++[]) H Q E:=
 ⟨f,rfl,hf,λp H' M=>q p H' (L.calls M)⟩
def g0 (K:Frag):Sp:=λvs H Q _=>∃(b:Nat),vs=[.int (b:Int)]/\b<256/\b≠0/\∀H' ms,Loc H H' ms->Q (.int ((inv b:Nat):Int)) H'
abbrev gP:Stmt:=top 3
theorem wc:FnScope ["byte"] ["byte"] (Dg gP):=by walk_at "sc"
theorem wn {f:Addr}{fd:FuncData}(F:Fun K "inverse" "inverse" gP f fd)(T:Txt K mg ad)(C_multiples:Callee P w K mg base 2 "multiples" ["factor"] (dP K)):FnOk P w K mg base CX0 3 f fd ["byte"] (g0 K):=by
 refine F.ok wc (λvs H Q E h=>?_) (λcdv A outer s H vs Q E hr h=>?_)
 ·k_go0
 refine e_1 h λb=>a_4 λez hb h0 k=>?_;clear h;subst ez
 refine ⟨_,(Di (Dm (D2 PySem.F.plainAttrs_list PySem.F.slot_list_index PySem.F.type_list_index (xG (K:=K) rfl) (ab C_multiples hr.m rfl (Dd (pv 0) De)) (Dd Dh De)))),?_⟩
 have L0:=Loc.start H
 k_go
 refine jd L0 hb λp H1 L1=>?_
 w_on
 have il:=aI hb
 refine zJ (xs:=tab b 8) (n:=1) (inv b) (L1.lst 0 rfl) (by rw[mT];exact il) (by rw[o8 il];exact jx h0 hb) (λm hm e=>?_) ?_
 ·rw[o8 (by lia)] at e
  have:=yT hb h0 (by lia) e
  lia
 ·w_on
  exact k H1 _ L1
theorem nJ {H H0:Hp}{ls:List (Addr×HO)}{Q:VK}{E:XK}{b:Nat}(L:Loc H0 H ls)(hb:b<256)(h0:b≠0)(q:∀H',Loc H0 H' ls->Q (.int ((inv b:Nat):Int)) H'):g0 K ([.int (b:Int)]++[]) H Q E:=
 ⟨b,rfl,hb,h0,λH' ms M=>q H' ((L.calls M).sub (sublist_append_left _ _))⟩
def jU (data:NL)(size n:Nat):LL:=(range n).map λ(i:Nat)=>Sy22.part data (size*i) size
def tj (K:Frag):Sp:=λvs H Q _=>∃(a:Addr)(data:NL)(n size:Nat),vs=[.ref a,.int (n:Int),.int (size:Int)]/\SqL K H a (nv data)/\n*size<=data.length/\n<=1000/\size<=10000/\∀p as H',as.length=n->Loc H H' ((p,.lst (ah as)) :: dC as (jU data size n))->Q (.ref p) H'
abbrev lp:Stmt:=top 55
theorem sc_cut:FnScope ["data","count","size","at"] ["data","count","size"] (Dg lp):=by walk_at "sc"
theorem Bk {f:Addr}{fd:FuncData}(F:Fun K "cut" "cut" lp f fd)(T:Txt K mg ad)  : FnOk P w K mg base CX0 1 f fd ["data","count","size"] (tj K):=by
 refine F.ok sc_cut (λvs H Q E h=>?_) (λcdv A outer s H vs Q E hr h=>?_)
 ·k_go0
 refine e_4 h λa data n size=>a_6 λez hs hl hn hz k=>?_;clear h;subst ez
 refine ⟨_,(Di (Dm (D0 rfl sc_cut.nd (DK rfl T.n_range (Dd (pv 1) De)) (DH (own:=[("at",3)]) (by show DX ["data","count","size","at"] (Dg lp) _ _=true;decide +kernel)) (λ_ _ _ _ _=>Dr (i:=3) sc_cut.nd rfl (Or.inl rfl)) (λ_ _ _ _ _=>DM) (λ_ _ _ _ _=>(DD (aj (K:=K) rfl) (pv 0) (Dy (Dj DY (pv 2) (pv 3))) (Dy (Dj DB (Dj DY (pv 2) (pv 3)) (pv 2)))))))),?_⟩
 have L0:=Loc.start H
 k_go
 refine ⟨(n:Int),rfl,by lia,by lia,?_⟩
 rw[Int.toNat_natCast]
 refine lC L0 (by rw[sizeLine_eq];lia) (λi=>Sy22.part data (size*i) size) ?_ ?_
 ·intro i hi H1 R sm r
  rw[Int.zero_add]
  have hle:size*i+size<=data.length:=by
   have:size*(i+1)<=size*n:=mul_le_mul_left _ hi
   rw[mul_succ] at this
   rw[mul_comm n size] at hl
   lia
  have hsz:=sm.seq hs
  w_on
  refine ap (Loc.start H1) hsz λp H2 L2=>?_
  rw[ed (by lia) (by lia) (by lia),Int.toNat_natCast,Int.toNat_natCast] at L2
  have e5:My.cut data (size*i) (size*i+size)=Sy22.part data (size*i) size:=by unfold My.cut Sy22.part;rw[add_sub_cancel_left]
  rw[e5] at L2
  exact r p H2 L2
 ·intro D as H1 hl1 L1
  exact k D as H1 hl1 L1
def nW (K:Frag):Sp:=λvs H Q _=>∃(a:Addr)(as:List Addr)(rows:LL),vs=[.ref a]/\Rows K H a as rows/\rows.flatten.length<=1000000/\∀p H',Loc H H' [(p,.lst (nv rows.flatten))]->Q (.ref p) H'
abbrev jv:Stmt:=top 56
theorem sc_chain:FnScope ["rows","chained","row"] ["rows"] (Dg jv):=by walk_at "sc"
theorem uI (rows:LL)(i:Nat):(rows.take i).flatten.length<=rows.flatten.length:=by
 have:rows.flatten.length=(rows.take i).flatten.length+(rows.drop i).flatten.length:=by rw[<- length_append,<- flatten_append,take_append_drop]
 lia
theorem yK {f:Addr}{fd:FuncData}(F:Fun K "chain" "chain" jv f fd)(T:Txt K mg ad)  : FnOk P w K mg base CX0 1 f fd ["rows"] (nW K):=by
 refine F.ok sc_chain (λvs H Q E h=>?_) (λcdv A outer s H vs Q E hr h=>?_)
 ·k_go0
 refine e_3 h λa as rows=>a_4 λez hR hz k=>?_;clear h;subst ez
 refine ⟨_,(Df (Dl (i:=1) sc_chain.nd rfl (Or.inl rfl) (DA De))
   (Df (DN PassesOwn.never rfl (DR (pv 0)) (Dr (i:=2) sc_chain.nd rfl (Or.inl rfl)) (Di (DG (D2 PySem.F.plainAttrs_list PySem.F.slot_list_extend PySem.F.type_list_extend EX (pv 1) (Dd (pv 2) De)))))
   (Di (Dm (pv 1))))),?_⟩
 have L0:=Loc.start H
 have hs:=hR.lst
 k_go
 apply aF L0 (by decide)
 intro p H1 L1
 w_on
 refine ja (xs:=ah as) (λi σ H'=>∃(v3:Option V),σ = [some (.ref a),some (.ref p),v3]/\Loc H H' [(p,.lst (nv ((rows.take i).flatten)))]) ⟨_,rfl,L1⟩ (λi σ H' _ ⟨_,_,L⟩=>L.arg hs) ?_ ?_
 ·refine λi x σ H2 hx ez9=>e_1 ez9 λv3=>a_2 λez L2=>?_;clear ez9;subst ez
  unfold ah at hx
  rw[getElem?_map] at hx
  obtain ⟨r,hi,rfl⟩:∃r,as[i]? = some r/\V.ref r=x:=by
   cases e:as[i]? with
   |none=>rw[e] at hx;cases hx
   |some r=>rw[e] at hx;exact ⟨r,rfl,Option.some.inj hx⟩
  have hil:i<rows.length:=by rw[<- hR.len];exact (List.getElem?_eq_some_iff.mp hi).1
  have hmem:=hR.at_ i r rows[i] hi (getElem?_eq_getElem hil)
  have hle:=uI rows (i+1)
  have e1:rows.take (i+1)=rows.take i++[rows[i]]:=iP (getElem?_eq_getElem hil)
  rw[e1,flatten_append,flatten_cons,flatten_nil,append_nil,length_append] at hle
  w_on
  refine on L2 0 rfl (L2.same _ _ hmem) (by rw[aw,aw,sizeLine_eq];lia) λH4 L4=>?_
  w_on
  refine ⟨_,rfl,?_⟩
  rw[e1,flatten_append,flatten_cons,flatten_nil,append_nil,qb]
  exact L4
 ·refine λσ H2 ez9=>e_1 ez9 λv3=>a_2 λez L2=>?_;clear ez9;subst ez
  rw[aJ,hR.len,take_length] at L2
  w_on
  exact k p H2 L2
def eK (K:Frag):Sp:=λvs H Q _=>∃(k place:Nat),vs=[.int (k:Int),.int (place:Int)]/\k<=64/\place<64/\∀p H',Loc H H' [(p,.lst (nv (rowFor k place)))]->Q (.ref p) H'
abbrev bW:Stmt:=top 57
theorem sc_factors_of:FnScope ["k","place","j"] ["k","place"] (Dg bW):=by walk_at "sc"
theorem sC {f:Addr}{fd:FuncData}(F:Fun K "factors_of" "factors_of" bW f fd)(T:Txt K mg ad)(C_inverse:Callee P w K mg base 3 "inverse" ["byte"] (g0 K)):FnOk P w K mg base CX0 4 f fd ["k","place"] (eK K):=by
 refine F.ok sc_factors_of (λvs H Q E h=>?_) (λcdv A outer s H vs Q E hr h=>?_)
 ·k_go0
 refine e_2 h λk place=>a_4 λez hk hp q=>?_;clear h;subst ez
 refine ⟨_,(Df (DF (Dt Fj (pv 1) (pv 0) (Dv _)) (Di (Dm (D0 rfl sc_factors_of.nd (DK rfl T.n_range (Dd (pv 0) De)) (DH (own:=[("j",2)]) (by show DX ["k","place","j"] (Dg bW) _ _=true;decide +kernel)) (λ_ _ _ _ _=>Dr (i:=2) sc_factors_of.nd rfl (Or.inl rfl)) (λ_ _ _ _ _=>DM) (λ_ _ _ _ _=>(Ee (Dt D8 (pv 2) (pv 1) (Dv _)) Dh Dh))))) Dx)
   (Di (Dm (D0 rfl sc_factors_of.nd (DK rfl T.n_range (Dd (pv 0) De)) (DH (own:=[("j",2)]) (by show DX ["k","place","j"] (Dg bW) _ _=true;decide +kernel)) (λ_ _ _ _ _=>Dr (i:=2) sc_factors_of.nd rfl (Or.inl rfl)) (λ_ _ _ _ _=>DM) (λ_ _ _ _ _=>(ab C_inverse hr.m rfl (Dd (Dj DC (pv 1) (pv 2)) De))))))),?_⟩
 have L0:=Loc.start H
 k_go
 refine bZ (λhc=>?_) (λhc=>?_)
 ·w_on
  refine ⟨(k:Int),rfl,by lia,by lia,?_⟩
  rw[Int.toNat_natCast]
  refine yS L0 (by rw[sizeLine_eq];lia) (λj=>if place=j then 1 else 0) ?_ ?_
  ·intro i hi H1 D o R L1 r
   w_on
   refine bZ (λhc=>?_) (λhc=>?_)
   ·rw[if_pos hc.symm] at r
    w_on
    exact r
   ·rw[if_neg λe=>hc e.symm] at r
    w_on
    exact r
  ·intro D H1 L1
   have e:rowFor k place=(range k).map λj=>if place=j then 1 else 0:=by
    unfold rowFor
    exact map_congr_left λj _=>if_pos hc
   rw[<- e] at L1
   exact q D H1 L1
 ·w_on
  refine ⟨(k:Int),rfl,by lia,by lia,?_⟩
  rw[Int.toNat_natCast]
  refine zp L0 (by rw[sizeLine_eq];lia) (λj=>inv (place ^^^ j)) ?_ ?_
  ·intro i hi H1 R sm r
   rw[Int.zero_add]
   w_on
   refine nJ (Loc.start H1) (lt_of_lt_of_le (xor_lt_two_pow (n:=6) hp (by lia)) (by decide)) (lW (by lia)) λH2 L2=>?_
   exact r H2 _ L2
  ·intro D H1 L1
   have e:rowFor k place=(range k).map λj=>inv (place ^^^ j):=by
    unfold rowFor
    exact map_congr_left λj _=>if_neg hc
   rw[<- e] at L1
   exact q D H1 L1
theorem kE {H H0:Hp}{ls:List (Addr×HO)}{Q:VK}{E:XK}{k place:Nat}(L:Loc H0 H ls)(hk:k<=64)(hp:place<64)(q:∀p H',Loc H0 H' (ls++[(p,.lst (nv (rowFor k place)))])->Q (.ref p) H'):eK K ([.int (k:Int),.int (place:Int)]++[]) H Q E:=
 i_2 k place ⟨rfl,hk,hp,λp H' M=>q p H' (L.calls M)⟩
def dg (K:Frag):Sp:=λvs H Q _=>∃(a b:Addr)(row other:NL)(f:Nat),vs=[.ref a,.int (f:Int),.ref b]/\SqL K H a (nv row)/\SqL K H b (nv other)/\f<256/\row.length=other.length/\row.length<=100000/\Bytes other/\∀p H',Loc H H' [(p,.lst (nv (kx row f other)))]->Q (.ref p) H'
abbrev bN:Stmt:=top 58
theorem sc_add_multiple:FnScope ["row","factor","other","products","byte","more"] ["row","factor","other"] (Dg bN):=by walk_at "sc"
theorem pT {f:Addr}{fd:FuncData}(F:Fun K "add_multiple" "add_multiple" bN f fd)(T:Txt K mg ad)(C_multiples:Callee P w K mg base 2 "multiples" ["factor"] (dP K)):FnOk P w K mg base CX0 3 f fd ["row","factor","other"] (dg K):=by
 refine F.ok sc_add_multiple (λvs H Q E h=>?_) (λcdv A outer s H vs Q E hr h=>?_)
 ·k_go0
 refine e_5 h λa b row other f=>a_8 λez h1 h2 hf hl hz hb k=>?_;clear h;subst ez
 refine ⟨_,(Df (Dl (i:=3) sc_add_multiple.nd rfl (Or.inr rfl) (ab C_multiples hr.m rfl (Dd (pv 1) De)))
   (Di (Dm (D0 rfl sc_add_multiple.nd (mY (K:=K) rfl rfl T.n_zip (Dd (pv 0) (Dd (pv 2) De))) (DH (own:=[("byte",4),("more",5)]) (by show DX ["row","factor","other","products","byte","more"] (Dg bN) _ _=true;decide +kernel)) (λ_ _ _ _ _=>(mZ (K:=K) (n:=2) rfl rfl (Ed (Dr (i:=4) sc_add_multiple.nd rfl (Or.inl rfl)) (Ed (Dr (i:=5) sc_add_multiple.nd rfl (Or.inl rfl)) E6)))) (λ_ _ _ _ _=>DM) (λ_ _ _ _ _=>(Dj DC (pv 4) (Du (ae (K:=K) rfl) (pv 3) (pv 5) (λ_ _=>rfl)))))))),?_⟩
 have L0:=Loc.start H
 k_go
 refine jd L0 hf λp H1 L1=>?_
 have tl:(tab f 8).length=256:=mT f 8
 have h1':=L1.arg h1
 have h2':=L1.arg h2
 w_on
 refine yR L1 h1' h2' hl (by rw[sizeLine_eq];lia) (λi=>row.getD i 0 ^^^ mul f (other.getD i 0)) ?_ ?_
 ·intro i hi H2 D T o o' R L2 r
  have ho:=hb.at_ i
  simp only[wipe,foldl_cons,foldl_nil,set_cons_zero,set_cons_succ]
  w_on
  rw[o8 ho]
  exact r
 ·intro D H2 L2
  exact k D H2 (L2.pick 1 rfl)
theorem jB {H H0:Hp}{ls:List (Addr×HO)}{Q:VK}{E:XK}{a b:Addr}{row other:NL}{f:Nat}(L:Loc H0 H ls)(h1:SqL K H a (nv row))(h2:SqL K H b (nv other))(hf:f<256)(hl:row.length=other.length)(hz:row.length<=100000)(hb:Bytes other)
  (q:∀p H',Loc H0 H' (ls++[(p,.lst (nv (kx row f other)))])->Q (.ref p) H'):dg K ([.ref a,.int (f:Int),.ref b]++[]) H Q E:=
 i_5 a b row other f ⟨rfl,h1,h2,hf,hl,hz,hb,λp H' M=>q p H' (L.calls M)⟩
end
section
variable {P:Program}{w:World}{K:Frag}{mg:Str->Option Value}{base:Heap}{ad:Adr}
structure Dat (rows:LL)(len:Nat):Prop where
 pos:1<=rows.length
 most:rows.length<=32
 lens:∀r∈rows,r.length=len/\Bytes r
theorem xq {k place:Nat}(h:k<=place):rowFor k place=(range k).map λj=>inv (place ^^^ j):=by
 unfold rowFor
 exact map_congr_left λj _=>if_neg (by lia)
theorem zV {xs:NL}{i:Nat}{v:V}(h:(nv xs)[i]? = some v):v=.int ((xs.getD i 0:Nat):Int):=(ca h).2
def gr (K:Frag):Sp:=λvs H Q _=>∃(a:Addr)(as:List Addr)(rows:LL)(len place:Nat),vs=[.ref a,.int (place:Int)]/\Rows K H a as rows/\Dat rows len/\len<=1000/\rows.length<=place/\place<64/\∀p H',Loc H H' [(p,.lst (nv (shN rows rows.length place len rows.length)))]->Q (.ref p) H'
abbrev dX:Stmt:=top 59
theorem sc_make_share:FnScope ["data","place","share","factor","piece"] ["data","place"] (Dg dX):=by walk_at "sc"
theorem sA {f:Addr}{fd:FuncData}(F:Fun K "make_share" "make_share" dX f fd)(T:Txt K mg ad)(C_factors_of:Callee P w K mg base 4 "factors_of" ["k","place"] (eK K))(C_add_multiple:Callee P w K mg base 3 "add_multiple" ["row","factor","other"] (dg K)):FnOk P w K mg base CX0 5 f fd ["data","place"] (gr K):=by
 refine F.ok sc_make_share (λvs H Q E h=>?_) (λcdv A outer s H vs Q E hr h=>?_)
 ·k_go0
 refine e_5 h λa as rows len place=>a_7 λez hR hD hlen hp1 hp2 k=>?_;clear h;subst ez
 refine ⟨_,(Df (Dl (i:=2) sc_make_share.nd rfl (Or.inl rfl) (Dj Ef (DA (Dd Dh De)) (DE (az (K:=K) rfl) (by rfl) T.n_len aK (Dd (Du (ae (K:=K) rfl) (pv 0) Dh (λ_ _=>rfl)) De))))
   (Df (DN PassesOwn.never rfl (mY (K:=K) rfl rfl T.n_zip (Dd (ab C_factors_of hr.m rfl (Dd (DE (az (K:=K) rfl) (by rfl) T.n_len aK (Dd (pv 0) De)) (Dd (pv 1) De))) (Dd (pv 0) De))) (mZ (K:=K) (n:=2) rfl rfl (Ed (Dr (i:=3) sc_make_share.nd rfl (Or.inl rfl)) (Ed (Dr (i:=4) sc_make_share.nd rfl (Or.inl rfl)) E6))) (Di (Dl (i:=2) sc_make_share.nd rfl (Or.inl rfl) (ab C_add_multiple hr.m rfl (Dd (pv 2) (Dd (pv 3) (Dd (pv 4) De)))))))
   (Di (Dm (pv 2))))),?_⟩
 have L0:=Loc.start H
 have hs:=hR.lst
 have hpos:=hD.pos
 have hmost:=hD.most
 have hal:=hR.len
 obtain ⟨a0,ha0⟩:∃a0,as[0]? = some a0:=⟨as[0]'(by lia),getElem?_eq_getElem (by lia)⟩
 have hr0:rows[0]? = some (rows[0]'(by lia)):=getElem?_eq_getElem (by lia)
 have h0:=hR.at_ 0 a0 _ ha0 hr0
 have hl0:=(hD.lens _ (mem_of_getElem? hr0)).1
 k_go
 apply aF L0 (by show 1<=sizeLine;decide)
 intro p H1 L1
 w_on
 have hs1:=L1.arg hs
 refine fX (n:=0) hs1 ha0 ?_
 w_on
 refine xu (SqL.of (L1.same _ _ h0)) ?_
 rw[hl0]
 refine jn (x:=0) L1 0 rfl (by rw[sizeLine_eq];lia) λp2 H2 L2=>?_
 have hs2:=L2.arg hs
 w_on
 rw[aJ,hal]
 refine kE L2 (by lia) (by lia) λp3 H3 L3=>?_
 have hs3:=L3.arg hs
 w_on
 rw[xq hp1] at L3
 have hfac:SqL K H3 p3 (nv ((range rows.length).map λj=>inv (place ^^^ j))):=L3.lst 2 rfl
 refine Cp (xs:=nv ((range rows.length).map λj=>inv (place ^^^ j))) (ys:=ah as) rows.length (by rw[aw,aJ,length_map,length_range,hal,min_self])
  (λi σ H'=>∃(q:Addr)(v3 v4:Option V),σ = [some (.ref a),some (.int (place:Int)),some (.ref q),v3,v4]/\Same H3 H'/\Loc H H' [(q,.lst (nv (shN rows rows.length place len i)))]) ?_ ?_ ?_ ?_
 ·refine i_3 p2 _ _ ⟨rfl,λ_ _ e=>e,?_⟩
  rw[yt]
  exact L3.pick 1 rfl
 ·refine λi σ H' hi ez9=>e_3 ez9 λq v3 v4=>a_3 λez sm L=>?_;clear ez9;subst ez
  exact ⟨sm.seq hfac,L.arg hs⟩
 ·rintro i x y σ H4 T hi hx hy ⟨q,v3,v4,rfl,sm4,L4⟩ hT
  have hx:=zV hx
  subst hx
  rw[ga hi]
  unfold ah at hy
  rw[getElem?_map] at hy
  obtain ⟨r,hi2,rfl⟩:∃r,as[i]? = some r/\V.ref r=y:=by
   cases e:as[i]? with
   |none=>rw[e] at hy;cases hy
   |some r=>rw[e] at hy;exact ⟨r,rfl,Option.some.inj hy⟩
  have M5:Loc H4 _ _:=(Loc.start H4).new (o:=.tup [V.int ((inv (place ^^^ i):Nat):Int),V.ref r]) hT
  have L5:=L4.calls M5
  have hri:rows[i]? = some rows[i]:=getElem?_eq_getElem hi
  have hmem:=hR.at_ i r rows[i] hi2 hri
  obtain ⟨hli,hbi⟩:=hD.lens _ (mem_of_getElem? hri)
  have hxl:place ^^^ i<256:=lt_of_lt_of_le (xor_lt_two_pow (n:=6) hp2 (by lia)) (by decide)
  refine AM (.inl (.inl (L5.get 1 rfl))) rfl ?_
  w_on
  refine jB (Loc.start _) (L5.lst 0 rfl) (SqL.of (L5.same _ _ hmem)) (aI hxl) (by rw[qB,hli]) (by rw[qB];lia) hbi λq2 H6 M6=>?_
  have e:kx (shN rows rows.length place len i) (inv (place ^^^ i)) rows[i]=shN rows rows.length place len (i+1):=by
   rw[<- yu,show rows.getD i []=rows[i] by simp[hi]]
  rw[e] at M6
  w_on
  exact i_3 q2 _ _ ⟨rfl,sm4.trans (M5.same.trans M6.same),L5.then M6⟩
 ·refine λσ H4 ez9=>e_3 ez9 λq v3 v4=>a_3 λez sm4 L4=>?_;clear ez9;subst ez
  w_on
  exact k q H4 L4
theorem qv {H H0:Hp}{ls:List (Addr×HO)}{Q:VK}{E:XK}{a:Addr}{as:List Addr}{rows:LL}{len place:Nat}(L:Loc H0 H ls)(hR:Rows K H a as rows)(hD:Dat rows len)(hlen:len<=1000)(h1:rows.length<=place)(h2:place<64)
  (q:∀p H',Loc H0 H' (ls++[(p,.lst (nv (shN rows rows.length place len rows.length)))])->Q (.ref p) H'):gr K ([.ref a,.int (place:Int)]++[]) H Q E:=
 i_5 a as rows len place ⟨rfl,hR,hD,hlen,h1,h2,λp H' M=>q p H' (L.calls M)⟩
def ik (K:Frag):Sp:=λvs H Q _=>∃(a:Addr)(as:List Addr)(rows:LL)(len m:Nat),vs=[.ref a,.int (m:Int)]/\Rows K H a as rows/\Dat rows len/\len<=1000/\rows.length+m<=32/\∀p bs H' ms,Loc H H' ms->Rows K H' p bs (shares m len rows)->(H p=none/\∀b∈bs,H b=none\/b∈as)->Q (.ref p) H'
abbrev cv:Stmt:=top 60
theorem sc_make_shares:FnScope ["data","m","k","place"] ["data","m"] (Dg cv):=by walk_at "sc"
theorem qV {f:Addr}{fd:FuncData}(F:Fun K "make_shares" "make_shares" cv f fd)(T:Txt K mg ad)(C_make_share:Callee P w K mg base 5 "make_share" ["data","place"] (gr K)):FnOk P w K mg base CX0 6 f fd ["data","m"] (ik K):=by
 refine F.ok sc_make_shares (λvs H Q E h=>?_) (λcdv A outer s H vs Q E hr h=>?_)
 ·k_go0
 refine e_5 h λa as rows len m=>a_6 λez hR hD hlen hm k=>?_;clear h;subst ez
 refine ⟨_,(Df (Dl (i:=2) sc_make_shares.nd rfl (Or.inl rfl) (DE (az (K:=K) rfl) (by rfl) T.n_len aK (Dd (pv 0) De)))
   (Di (Dm (Dj (ao (K:=K) rfl) (pv 0) (D0 rfl sc_make_shares.nd (EC rfl T.n_range (Dd (pv 2) (Dd (Dj DB (pv 2) (pv 1)) De))) (DH (own:=[("place",3)]) (by show DX ["data","m","k","place"] (Dg cv) _ _=true;decide +kernel)) (λ_ _ _ _ _=>Dr (i:=3) sc_make_shares.nd rfl (Or.inl rfl)) (λ_ _ _ _ _=>DM) (λ_ _ _ _ _=>(ab C_make_share hr.m rfl (Dd (pv 0) (Dd (pv 3) De))))))))),?_⟩
 have L0:=Loc.start H
 have hs:=hR.lst
 have hal:=hR.len
 k_go
 rw[aJ,hal]
 refine i_2 _ _ ⟨rfl,by lia,?_⟩
 have e1:(((rows.length+m:Nat):Int)-(rows.length:Int)).toNat=m:=by lia
 rw[e1]
 refine lC L0 (by rw[sizeLine_eq];lia) (λi=>share rows len i) ?_ ?_
 ·intro i hi H1 R sm r
  rw[show ((rows.length:Int)+(i:Int))=((rows.length+i:Nat):Int) by lia]
  w_on
  refine qv (Loc.start H1) (hR.mono sm) hD hlen (by lia) (by lia) λp H2 L2=>?_
  rw[xi rfl] at L2
  exact r p H2 L2
 ·intro D bs H1 hbl L1
  have hs1:=L1.arg hs
  w_on
  refine pG (xs:=ah as) (ys:=ah bs) L1 hs1 (L1.lst 0 rfl) (by rw[aJ,aJ,sizeLine_eq];lia) λp H2 L2=>?_
  rw[oj] at L2
  w_on
  have hlp:((([]:List (Addr×HO))++(D,HO.lst (ah bs)) :: dC bs ((range m).map λi=>share rows len i))++[(p,HO.lst (ah (as++bs)))])[(dC bs ((range m).map λi=>share rows len i)).length+1]? = some (p,.lst (ah (as++bs))):=by simp
  refine k p (as++bs) H2 _ L2 ⟨L2.lst _ hlp,by unfold shares;simp[hal,hbl],λi x r hx hr=>?_⟩ ⟨L2.fresh _ hlp,λb hb=>?_⟩
  rotate_left
  ·rcases mem_append.mp hb with h|h
   ·exact .inr h
   ·obtain ⟨i,hi⟩:=getElem?_of_mem h
    have hil:i<m:=by rw[<- hbl];exact (List.getElem?_eq_some_iff.mp hi).1
    exact .inl (L2.at_ _ (mem_append_left _ (mem_cons_of_mem _ (mem_of_getElem? (iz hi (show ((range m).map λi=>share rows len i)[i]? = some (share rows len i) by rw[getElem?_map,getElem?_range hil];rfl)))))).1
  unfold shares at hr
  by_cases hi:i<as.length
  ·rw[getElem?_append_left hi] at hx
   rw[getElem?_append_left (by lia)] at hr
   exact L2.same _ _ (hR.at_ i x r hx hr)
  ·rw[getElem?_append_right (by lia)] at hx
   rw[getElem?_append_right (by lia)] at hr
   rw[<- hal] at hr
   refine (L2.at_ (x,.lst (nv r)) ?_).2
   exact mem_append_left _ (mem_cons_of_mem _ (mem_of_getElem? (iz hx hr)))
end
section
variable {P:Program}{w:World}{K:Frag}{mg:Str->Option Value}{base:Heap}{ad:Adr}
theorem y8 {data:NL}{n size:Nat}(hb:Bytes data)(hl:n*size<=data.length)(h1:1<=n)(h2:n<=32):Dat (jU data size n) size:=by
 refine ⟨by unfold jU;simpa using h1,by unfold jU;simpa using h2,λr hr=>?_⟩
 unfold jU at hr
 refine e_1 (mem_map.mp hr) λi=>a_2 λhi ez=>?_;subst ez
 have hi:=mem_range.mp hi
 have:size*(i+1)<=size*n:=mul_le_mul_left _ hi
 rw[mul_succ] at this
 rw[mul_comm n size] at hl
 exact ⟨dD (by lia),dm hb _ _⟩
end
section
variable {P:Program}{w:World}{K:Frag}{mg:Str->Option Value}{base:Heap}{ad:Adr}
structure RowsE (H:Hp)(p:Addr)(as:List Addr)(R:LL):Prop where
 len:as.length=R.length
 at_:∀(i:Nat)(a:Addr)(r:NL),as[i]? = some a->R[i]? = some r->er H p a=some (.lst (nv r))
theorem RowsE.set {H H':Hp}{p q:Addr}{as:List Addr}{R:LL}{r:NL}(h:RowsE H p as R)(e:Same (er H p) (er H' p))(n:Nat)(hq:er H' p q=some (.lst (nv r))):RowsE H' p (as.set n q) (R.set n r):=by
 refine ⟨by rw[length_set,length_set,h.len],λi a r' h1 h2=>?_⟩
 by_cases hi:n=i
 ·subst hi
  have hl:n<as.length:=by
   have:=(List.getElem?_eq_some_iff.mp h1).1
   rwa [length_set] at this
  rw[getElem?_set_self hl] at h1
  rw[getElem?_set_self (by rw[<- h.len];exact hl)] at h2
  cases h1
  cases h2
  exact hq
 ·rw[getElem?_set_ne hi] at h1 h2
  exact e _ _ (h.at_ i a r' h1 h2)
structure RP (k N:Nat)(R:LL)(M:Mat):Prop where
 rl:R.length=k
 lens:∀i,i<k->(R.getD i []).length=N/\Bytes (R.getD i [])
 ent:∀i,i<k->∀j,j<N->(R.getD i []).getD j 0=M i j
theorem RP.at_ {k N i:Nat}{R:LL}{M:Mat}(h:RP k N R M)(hi:i<k):R[i]? = some (R.getD i []):=by
 simp[show i<R.length by rw[h.rl];exact hi]
theorem oi (as:List Addr)(n:Nat)(q:Addr):(ah as).set n (V.ref q)=ah (as.set n q):=by unfold ah;rw[map_set]
def jO (c o:Nat)(M:Mat):Mat:=λi j=>if i=c\/i<o then elim c M i j else M i j
theorem RP.set {k N c:Nat}{R:LL}{M M':Mat}{r:NL}(h:RP k N R M)(hc:c<k)(hl:r.length=N)(hb:Bytes r)(he:∀j,j<N->r.getD j 0=M' c j)(ho:∀i,i<k->i≠c->∀j,j<N->M' i j=M i j):RP k N (R.set c r) M':=by
 have gs:∀i,i<k->(R.set c r).getD i []=if i=c then r else R.getD i []:=λi hi=>by
  rw[getD_eq_getElem?_getD]
  by_cases e:i=c
  ·rw[if_pos e,e,getElem?_set_self (by rw[h.rl];exact hc)];rfl
  ·rw[if_neg e,getElem?_set_ne λz=>e z.symm,<- getD_eq_getElem?_getD]
 refine ⟨by rw[length_set,h.rl],λi hi=>?_,λi hi j hj=>?_⟩
 ·rw[gs i hi]
  split
  ·exact ⟨hl,hb⟩
  ·exact h.lens i hi
 ·rw[gs i hi]
  by_cases e:i=c
  ·rw[if_pos e,e];exact he j hj
  ·rw[if_neg e,h.ent i hi j hj,ho i hi e j hj]
theorem RP.same {k N:Nat}{R:LL}{M M':Mat}(h:RP k N R M)(e:∀i,i<k->∀j,j<N->M' i j=M i j):RP k N R M':=⟨h.rl,h.lens,λi hi j hj=>(h.ent i hi j hj).trans (e i hi j hj).symm⟩
def ll (K:Frag):Sp:=λvs H Q _=>∃(a:Addr)(as:List Addr)(R:LL)(k len:Nat)(M:Mat),vs=[.ref a,.int (k:Int)]/\Rows K H a as R/\RP k (k+len) R M/\MB M/\(∀c,c<k->cz M c c c≠0)/\k<=32/\len<=1000/\
 ∀p bs H' ms,Loc H H' ms->Rows K H' p bs ((range k).map λi=>(range len).map λx=>cz M k i (k+x))->(H p=none/\∀b∈bs,H b=none)->Q (.ref p) H'
abbrev gN:Stmt:=top 61
theorem sc_solve:FnScope ["rows","k","at","products","other","row","byte"] ["rows","k"] (Dg gN):=by walk_at "sc"
theorem yJ {f:Addr}{fd:FuncData}(F:Fun K "solve" "solve" gN f fd)(T:Txt K mg ad)(C_multiples:Callee P w K mg base 2 "multiples" ["factor"] (dP K))(C_inverse:Callee P w K mg base 3 "inverse" ["byte"] (g0 K))(C_add_multiple:Callee P w K mg base 3 "add_multiple" ["row","factor","other"] (dg K)):FnOk P w K mg base CX0 4 f fd ["rows","k"] (ll K):=by
 refine F.ok sc_solve (λvs H Q E h=>?_) (λcdv A outer s H vs Q E hr h=>?_)
 ·k_go0
 refine e_6 h λa as R k len M=>a_8 λez hR hP hB hpv hk hlen q=>?_;clear h;subst ez
 refine ⟨_,(Df (Dl (i:=0) sc_solve.nd rfl (Or.inl rfl) (D7 (gc (K:=K) rfl) (by rfl) T.n_list hZ (Dd (pv 0) De)))
   (Df (DN PassesOwn.never rfl (DK rfl T.n_range (Dd (pv 1) De)) (Dr (i:=2) sc_solve.nd rfl (Or.inl rfl)) (Df (Dl (i:=3) sc_solve.nd rfl (Or.inr rfl) (ab C_multiples hr.m rfl (Dd (ab C_inverse hr.m rfl (Dd (Du (ae (K:=K) rfl) (Du (ae (K:=K) rfl) (pv 0) (pv 2) (λ_ _=>rfl)) (pv 2) (λ_ _=>rfl)) De)) De)))
   (Df (EM (D0 rfl sc_solve.nd (DR (Du (ae (K:=K) rfl) (pv 0) (pv 2) (λ_ _=>rfl))) (DH (own:=[("byte",6)]) (by show DX ["rows","k","at","products","other","row","byte"] (Dg gN) _ _=true;decide +kernel)) (λ_ _ _ _ _=>Dr (i:=6) sc_solve.nd rfl (Or.inl rfl)) (λ_ _ _ _ _=>DM) (λ_ _ _ _ _=>(Du (ae (K:=K) rfl) (pv 3) (pv 6) (λ_ _=>rfl)))) (EN (pv 0) (pv 2) set_list))
   (Di (DN PassesOwn.never rfl (DK rfl T.n_range (Dd (pv 1) De)) (Dr (i:=4) sc_solve.nd rfl (Or.inl rfl)) (Di (DF (PW.pt (EL (Dt GA (pv 4) (pv 2) (Dv _)) (EK (Dt GA (Du (ae (K:=K) rfl) (Du (ae (K:=K) rfl) (pv 0) (pv 4) (λ_ _=>rfl)) (pv 2) (λ_ _=>rfl)) Dh (Dv _))))) (Di (EM (ab C_add_multiple hr.m rfl (Dd (Du (ae (K:=K) rfl) (pv 0) (pv 4) (λ_ _=>rfl)) (Dd (Du (ae (K:=K) rfl) (Du (ae (K:=K) rfl) (pv 0) (pv 4) (λ_ _=>rfl)) (pv 2) (λ_ _=>rfl)) (Dd (Du (ae (K:=K) rfl) (pv 0) (pv 2) (λ_ _=>rfl)) De)))) (EN (pv 0) (pv 4) set_list))) Dx)))))))
   (Di (Dm (D0 rfl sc_solve.nd (DR (pv 0)) (DH (own:=[("row",5)]) (by show DX ["rows","k","at","products","other","row","byte"] (Dg gN) _ _=true;decide +kernel)) (λ_ _ _ _ _=>Dr (i:=5) sc_solve.nd rfl (Or.inl rfl)) (λ_ _ _ _ _=>DM) (λ_ _ _ _ _=>(DD (aj (K:=K) rfl) (pv 5) (Dy (pv 1)) DP))))))),?_⟩
 have L0:=Loc.start H
 have hal:=hR.len
 have hrl:=hP.rl
 k_go
 refine iB L0 hR.lst λp H1 L1=>?_
 have hE1:RowsE H1 p as R:=⟨hal,λi x r h1 h2=>by
  have h3:=hR.at_ i x r h1 h2
  rw[cD (DJ h3 (L1.fresh 0 rfl))]
  exact L1.same _ _ h3⟩
 w_on
 refine ⟨(k:Int),rfl,by lia,by lia,?_⟩
 rw[Int.toNat_natCast]
 refine cr (n:=k) (λc σ H'=>∃(as':List Addr)(R':LL)(v2 v3 v4:Option V),σ = [some (.ref p),some (.int (k:Int)),v2,v3,v4,none,none]/\Loc H H' [(p,.lst (ah as'))]/\RowsE H' p as' R'/\RP k (k+len) R' (cz M c)) ⟨as,R,_,_,_,rfl,L1,hE1,hP⟩ ?_ ?_
 ·refine λc σ H2 hc ez9=>e_5 ez9 λas2 R2 v2 v3 v4=>a_4 λez L2 hE2 hP2=>?_;clear ez9;subst ez
  rw[Int.zero_add]
  have Mb:=jK hB c
  have piv:=hpv c hc
  have e0:cz M (c+1)=elim c (cz M c):=rfl
  rw[e0]
  generalize cz M c=A at *
  have al2:as2.length=k:=by rw[hE2.len,hP2.rl]
  obtain ⟨ac,hac⟩:∃x,as2[c]? = some x:=⟨as2[c]'(by lia),getElem?_eq_getElem (by lia)⟩
  have hrc:=hE2.at_ c ac _ hac (hP2.at_ hc)
  obtain ⟨lc,bc⟩:=hP2.lens c hc
  have sqc:SqL K H2 ac (nv (R2.getD c [])):=SqL.of (gb hrc).2
  have ecc:=hP2.ent c hc c (by lia)
  w_on
  refine fX (L2.lst 0 rfl) hac ?_
  w_on
  rw[ecc]
  have M2:=Loc.self (L2.get 0 rfl)
  refine nJ M2 (Mb c c) piv λH3 M3=>?_
  w_on
  refine jd M3 (aI (Mb c c)) λp4 H4 M4=>?_
  have tl:(tab (inv (A c c)) 8).length=256:=mT _ 8
  w_on
  refine fX (M4.lst 0 rfl) hac ?_
  have sq4:SqL K H4 ac (nv (R2.getD c [])):=SqL.of (M4.same _ _ hrc)
  w_on
  refine rA M4 sq4 (by rw[lc,sizeLine_eq];lia) (λj=>mul (inv (A c c)) ((R2.getD c []).getD j 0)) ?_ ?_
  ·intro j hj H7 D o Rk L7 r
   have hb:=bc.at_ j
   w_on
   rw[o8 hb]
   exact r
  ·intro p5 H5 M5
   rw[cA (R2.getD c []) (mul (inv (A c c)))] at M5
   w_on
   refine jM (n:=c) M5 0 rfl (by rw[aJ];lia) λH6 M6=>?_
   simp only[cons_append,nil_append,set_cons_zero,oi] at M6
   w_on
   have hE6:RowsE H6 p (as2.set c p5) (R2.set c ((R2.getD c []).map (mul (inv (A c c))))):=hE2.set (io M6.same) c (by
    have ne:p5≠p:=λz=>by
     have:=M6.nd
     rw[z] at this
     simp at this
    rw[cD ne]
    exact M6.get 2 rfl)
   have hP6:RP k (k+len) (R2.set c ((R2.getD c []).map (mul (inv (A c c))))) (jO c 0 A):=hP2.set hc (by rw[length_map,lc]) (bc.map λx hx=>bF _ (aI (Mb c c))) (λj hj=>by
    rw[r6 (ax _),hP2.ent c hc j hj]
    unfold jO elim
    rw[if_pos (.inl rfl),if_pos rfl]) (λi hi hne j hj=>by
    unfold jO
    rw[if_neg (by lia)])
   have L6:=(L2.meth 0 rfl M6).pick 0 rfl
   refine ⟨(k:Int),rfl,by lia,by lia,?_⟩
   rw[Int.toNat_natCast]
   refine cr (n:=k) (λo σ H'=>∃(as':List Addr)(R':LL)(v4:Option V),σ = [some (.ref p),some (.int (k:Int)),some (.int (c:Int)),some (.ref p4),v4,none,none]/\Loc H H' [(p,.lst (ah as'))]/\RowsE H' p as' R'/\RP k (k+len) R' (jO c o A)) ⟨_,_,_,rfl,L6,hE6,hP6⟩ ?_ ?_
   ·refine λo σ H7 ho ez9=>e_3 ez9 λas7 R7 v4=>a_4 λez L7 hE7 hP7=>?_;clear ez9;subst ez
    rw[Int.zero_add]
    have al7:as7.length=k:=by rw[hE7.len,hP7.rl]
    obtain ⟨ac7,hac7⟩:∃x,as7[c]? = some x:=⟨as7[c]'(by lia),getElem?_eq_getElem (by lia)⟩
    obtain ⟨ao7,hao7⟩:∃x,as7[o]? = some x:=⟨as7[o]'(by lia),getElem?_eq_getElem (by lia)⟩
    have hrc7:=hE7.at_ c ac7 _ hac7 (hP7.at_ hc)
    have hro7:=hE7.at_ o ao7 _ hao7 (hP7.at_ ho)
    obtain ⟨lc7,bc7⟩:=hP7.lens c hc
    obtain ⟨lo7,bo7⟩:=hP7.lens o ho
    have sqo7:SqL K H7 ao7 (nv (R7.getD o [])):=SqL.of (gb hro7).2
    have sqc7:SqL K H7 ac7 (nv (R7.getD c [])):=SqL.of (gb hrc7).2
    have eoc:=hP7.ent o ho c (by lia)
    w_on
    refine gu (λhne=>?_) (λheq=>?_)
    ·have moc:jO c o A o c=A o c:=by unfold jO;rw[if_neg (by lia)]
     rw[moc] at eoc
     w_on
     refine fX (L7.lst 0 rfl) hao7 ?_
     w_on
     rw[eoc]
     refine gu (λhg=>?_) (λhg=>?_)
     ·w_on
      refine fX (L7.lst 0 rfl) hao7 ?_
      w_on
      refine fX (L7.lst 0 rfl) hao7 ?_
      w_on
      rw[eoc]
      refine fX (L7.lst 0 rfl) hac7 ?_
      w_on
      have M7:=Loc.self (L7.get 0 rfl)
      refine jB M7 sqo7 sqc7 (Mb o c) (by rw[lo7,lc7]) (by rw[lo7];lia) bc7 λp8 H8 M8=>?_
      w_on
      refine jM (n:=o) M8 0 rfl (by rw[aJ];lia) λH9 M9=>?_
      simp only[cons_append,nil_append,set_cons_zero,oi] at M9
      w_on
      refine ⟨_,_,_,rfl,(L7.meth 0 rfl M9).pick 0 rfl,hE7.set (io M9.same) o (by
       have ne:p8≠p:=λz=>by
        have:=M9.nd
        rw[z] at this
        simp at this
       rw[cD ne]
       exact M9.get 1 rfl),hP7.set ho (by rw[zd,lo7]) (wP bo7 (Mb o c)) (λj hj=>?_) (λi hi hio j hj=>?_)⟩
      ·unfold kx
       rw[ga (by rw[lo7];exact hj),hP7.ent o ho j hj,hP7.ent c hc j hj]
       unfold jO
       rw[if_neg (by lia),if_pos (.inl rfl),if_pos (.inr (by lia))]
       unfold elim
       rw[if_pos rfl,if_neg hne]
      ·unfold jO
       by_cases h1:i=c\/i<o
       ·rw[if_pos h1,if_pos (by lia)]
       ·rw[if_neg h1,if_neg (by lia)]
     ·w_on
      refine i_3 as7 R7 _ ⟨rfl,L7,hE7,hP7.same λi hi j hj=>?_⟩
      unfold jO
      by_cases h1:i=c\/i<o
      ·rw[if_pos h1,if_pos (by lia)]
      ·rw[if_neg h1]
       by_cases h2:i=o
       ·subst h2
        rw[if_pos (.inr (by lia))]
        unfold elim
        rw[if_neg hne,hg,gJ,xor_zero]
       ·rw[if_neg (by lia)]
    ·refine ite_ff ?_
     w_on
     refine i_3 as7 R7 _ ⟨rfl,L7,hE7,hP7.same λi hi j hj=>?_⟩
     unfold jO
     by_cases h1:i=c\/i<o
     ·rw[if_pos h1,if_pos (by lia)]
     ·rw[if_neg h1,if_neg (by lia)]
   ·refine λσ H7 ez9=>e_3 ez9 λas7 R7 v4'=>a_4 λez L7 hE7 hP7=>?_;clear ez9;subst ez
    w_on
    refine i_5 as7 R7 _ _ _ ⟨rfl,L7,hE7,hP7.same λi hi j hj=>?_⟩
    unfold jO
    rw[if_pos (.inr hi)]
 ·refine λσ H2 ez9=>e_5 ez9 λas2 R2 v2 v3 v4=>a_4 λez L2 hE2 hP2=>?_;clear ez9;subst ez
  have al2:as2.length=k:=by rw[hE2.len,hP2.rl]
  have hl2:SqL K H2 p (ah as2):=L2.lst 0 rfl
  w_on
  have rat:∀i,i<k->(ah as2)[i]? = some ((ah as2).getD i .non):=λi hi=>by
   simp[show i<(ah as2).length by rw[aJ,al2];exact hi]
  refine vG (n:=k) (row:=λi=>(range len).map λx=>cz M k i (k+x)) L2 (by rw[sizeLine_eq];lia) (λi=>(ah as2).getD i .non) (λi H hi sm=>⟨_,_,sm.seq hl2,rat i hi⟩) (λH sm=>⟨_,sm.seq hl2,by rw[aJ,al2];exact le_refl _⟩)
   (λi H H' x hi sm y=>⟨y.1,Option.some.inj ((y.2 _ (sm.seq hl2)).symm.trans (rat i hi))⟩) ?_ ?_
  ·intro i hi H3 Rk sm r
   have hai:as2[i]? = some (as2[i]'(by lia)):=getElem?_eq_getElem (by lia)
   have hri:=hE2.at_ i _ _ hai (hP2.at_ hi)
   obtain ⟨li,bi⟩:=hP2.lens i hi
   have sqi:SqL K H3 (as2[i]'(by lia)) (nv (R2.getD i [])):=SqL.of (sm _ _ (gb hri).2)
   have ev:(ah as2).getD i .non=V.ref (as2[i]'(by lia)):=by
    unfold ah
    simp[show i<as2.length by lia]
   rw[ev]
   w_on
   refine ap (Loc.start H3) sqi λp4 H4 M4=>?_
   rw[bp (by lia) (by lia),Int.toNat_natCast] at M4
   have e:(R2.getD i []).drop k=(range len).map λx=>cz M k i (k+x):=by
    refine ext_getElem (by rw[length_drop,li];simp) λx h1 h2=>?_
    have hx:x<len:=by simpa using h2
    rw[getElem_map,getElem_range,<- hP2.ent i hi (k+x) (by lia),getElem_drop]
    generalize R2.getD i []=l at *
    simp[show k+x<l.length by lia]
   rw[e] at M4
   exact r p4 H4 M4
  ·intro D bs H3 hbl L3
   refine q D bs H3 _ L3 (L3.rows (L3.lst 1 rfl) (by rw[hbl];simp) λx hx=>?_) ⟨L3.fresh 1 rfl,λb hb=>?_⟩
   ·exact mem_cons_of_mem _ (mem_cons_of_mem _ hx)
   ·obtain ⟨i,hi⟩:=getElem?_of_mem hb
    have hil:i<k:=by rw[<- hbl];exact (List.getElem?_eq_some_iff.mp hi).1
    exact (L3.at_ _ (mem_cons_of_mem _ (mem_cons_of_mem _ (mem_of_getElem? (iz hi (show ((range k).map λi=>(range len).map λx=>cz M k i (k+x))[i]? = some ((range len).map λx=>cz M k i (k+x)) by rw[getElem?_map,getElem?_range hil];rfl)))))).1
theorem wX {H H0:Hp}{ls:List (Addr×HO)}{Q:VK}{E:XK}{a:Addr}{as:List Addr}{R:LL}{k len:Nat}{M:Mat}(L:Loc H0 H ls)(hR:Rows K H a as R)(hP:RP k (k+len) R M)(hB:MB M)(hpv:∀c,c<k->cz M c c c≠0)(hk:k<=32)(hlen:len<=1000)
  (q:∀p bs H',Loc H0 H' ls->Rows K H' p bs ((range k).map λi=>(range len).map λx=>cz M k i (k+x))->(H p=none/\∀b∈bs,H b=none)->Q (.ref p) H'):ll K ([.ref a,.int (k:Int)]++[]) H Q E:=
 i_6 a as R k len M ⟨rfl,hR,hP,hB,hpv,hk,hlen,λp bs H' ms M' hR' hN=>q p bs H' ((L.calls M').sub (sublist_append_left _ _)) hR' hN⟩
theorem zq {k m t j:Nat}(hj:j<k):j∈(places (k+m) t).take k ↔ t.testBit j=true:=by
 rw[pK,mem_append]
 constructor
 ·rintro (h|h)
  ·exact (mem_filter.mp h).2
  ·have:=gL h;lia
 ·intro h
  exact .inl (mem_filter.mpr ⟨mem_range.mpr hj,h⟩)
theorem yF (k m t:Nat):((places (k+m) t).take k).filter (λx=>decide (k<=x))=br k m t:=by
 rw[pK,filter_append]
 have e1:(bT k t).filter (λx=>decide (k<=x))=[]:=by
  rw[filter_eq_nil_iff]
  intro a ha
  have:=mem_range.mp (mem_filter.mp ha).1
  simp
  lia
 have e2:(br k m t).filter (λx=>decide (k<=x))=br k m t:=by
  rw[List.filter_eq_self]
  intro a ha
  have:=gL ha
  simp
  lia
 rw[e1,e2,nil_append]
theorem x4 {l:NL}{i:Nat}(h:i<l.length):l.drop i=l.getD i 0 :: l.drop (i+1):=by
 rw[drop_eq_getElem_cons h,show l.getD i 0=l[i] by simp[h]]
def g9 (k m t:Nat)(sh:Nat->NL)(n:Nat):LL:=(range n).map λj=>rowFor k (plP k m t j)++sh (plP k m t j)
def jC (K:Frag):Sp:=λvs H Q _=>∃(b c:Addr)(cs:List Addr)(all:LL)(k m t len:Nat),vs=[.int (k:Int),.ref b,.ref c]/\SqL K H b (nv ((places (k+m) t).take k))/\Rows K H c cs all/\all.length=k+m/\(∀r∈all,r.length=len/\Bytes r)/\1<=k/\k+m<=32/\len<=1000/\k<=(places (k+m) t).length/\
 ∀p bs H' ms,Loc H H' ms->Rows K H' p bs (solve k (((places (k+m) t).take k).map λ(s:Nat)=>(rowFor k s,all.getD s [])))->(H p=none/\∀b∈bs,H b=none)->Q (.ref p) H'
abbrev dr:Stmt:=top 62
theorem sc_tell_data:FnScope ["k","places","shares","place","spare","rows","j"] ["k","places","shares"] (Dg dr):=by walk_at "sc"
theorem t9 {f:Addr}{fd:FuncData}(F:Fun K "tell_data" "tell_data" dr f fd)(T:Txt K mg ad)(C_factors_of:Callee P w K mg base 4 "factors_of" ["k","place"] (eK K))(C_solve:Callee P w K mg base 4 "solve" ["rows","k"] (ll K)):FnOk P w K mg base CX0 5 f fd ["k","places","shares"] (jC K):=by
 refine F.ok sc_tell_data (λvs H Q E h=>?_) (λcdv A outer s H vs Q E hr h=>?_)
 ·k_go0
 refine e_8 h λb c cs all k m t len=>wQ λez hb hC hal hlen hk1 hkm hl1 hpl q=>?_;clear h;subst ez
 refine ⟨_,(Df (Ei (i:=4) rfl sc_tell_data.nd rfl rfl (El rfl rfl rfl rfl) (DR (pv 1)) (DH (own:=[("place",3)]) (by show DX ["k","places","shares","place","spare","rows","j"] (Dg dr) _ _=true;decide +kernel)) (λ_ _ _ _ _=>Dr (i:=3) sc_tell_data.nd rfl (Or.inl rfl)) (λ_ _ _ _ _=>(Fx (Dt Fl (pv 3) (pv 0) (Dv _)))) (λ_ _ _ _ _=>(pv 3)))
   (Df (Dl (i:=5) sc_tell_data.nd rfl (Or.inl rfl) (DA De))
   (Df (DN PassesOwn.never rfl (DK rfl T.n_range (Dd (pv 0) De)) (Dr (i:=6) sc_tell_data.nd rfl (Or.inl rfl)) (Df (Dl (i:=3) sc_tell_data.nd rfl (Or.inl rfl) (mt (Ee (Dt (Bi (K:=K) rfl) (pv 6) (pv 1) (by rfl)) (pv 6) (D2 PySem.F.plainAttrs_list PySem.F.slot_list_pop PySem.F.type_list_pop mt_popAt (pv 4) (Dd Dh De)))))
   (Di (DG (D2 PySem.F.plainAttrs_list PySem.F.slot_list_append PySem.F.type_list_append D6 (pv 5) (Dd (Dj (ao (K:=K) rfl) (ab C_factors_of hr.m rfl (Dd (pv 0) (Dd (pv 3) De))) (Du (ae (K:=K) rfl) (pv 2) (pv 3) (λ_ _=>rfl))) De))))))
   (Di (Dm (ab C_solve hr.m rfl (Dd (pv 5) (Dd (pv 0) De)))))))),?_⟩
 have L0:=Loc.start H
 have sh_b:∀s,Bytes (all.getD s []):=λs=>by
  by_cases h:s<all.length
  ·rw[show all.getD s []=all[s] by simp[h]];exact (hlen _ (getElem_mem h)).2
  ·rw[show all.getD s []=[] by simp[h]];exact Bytes.nil
 have sh_l:∀s,s<k+m->(all.getD s []).length=len:=λs hs=>by
  rw[show all.getD s []=all[s]'(by lia) by simp[show s<all.length by lia]];exact (hlen _ (getElem_mem (by lia))).1
 have sl:=j7 hpl
 have psl:((places (k+m) t).take k).length=k:=by rw[length_take];lia
 have plk:∀j,j<k->plP k m t j<k+m:=λj hj=>by
  unfold plP
  split
  ·lia
  ·rename_i hbk
   have hb':¬ t.testBit j=true:=λz=>hbk ⟨z,hj⟩
   have hm1:=mE (t:=t) (show j+1<=k by lia)
   rw[gR,if_neg hb',length_append] at hm1
   have:=(gL (jQ (l:=br k m t) (i:=(dF t j).length) (by simp at hm1;lia))).2
   exact this
 k_go
 refine Cl L0 hb (by rw[psl,sizeLine_eq];lia) (λx=>decide (k<=x)) ?_ ?_ ?_
 ·intro i hi H7 D o R L7 r
  w_on
  exact r
 ·intro i hi H7 D o R L7 r
  w_on
  exact r
 intro sp H1 L1
 rw[yF] at L1
 w_on
 apply aF L1 (by decide)
 intro p H2 L2
 w_on
 refine ⟨(k:Int),rfl,by lia,by lia,?_⟩
 rw[Int.toNat_natCast]
 refine cr (n:=k) (λj σ H'=>∃(as:List Addr)(v3 v6:Option V),σ = [some (.int (k:Int)),some (.ref b),some (.ref c),v3,some (.ref sp),some (.ref p),v6]/\as.length=j/\Loc H H' ((sp,.lst (nv ((br k m t).drop (dF t j).length))) :: (p,.lst (ah as)) :: dC as (g9 k m t (λs=>all.getD s []) j))) ⟨[],_,_,rfl,rfl,L2⟩ ?_ ?_
 ·refine λj σ H3 hj ez9=>e_3 ez9 λas v3 v6=>a_3 λez hjl L3=>?_;clear ez9;subst ez
  rw[Int.zero_add]
  have hb3:=L3.arg hb
  have hC3:=hC.mono L3.same
  have pj:=plk j hj
  have p64:=pO (t:=t) hkm j
  w_on
  refine mo (λv H'=>v=.int ((plP k m t j:Nat):Int)/\Loc H H' ((sp,.lst (nv ((br k m t).drop (dF t (j+1)).length))) :: (p,.lst (ah as)) :: dC as (g9 k m t (λs=>all.getD s []) j))) ?_ ?_
  ·w_on
   refine Ca hb3 ?_
   w_on
   refine bZ (λhin=>?_) (λhin=>?_)
   ·have tb:=(zq hj).mp hin
    w_on
    refine ⟨by unfold plP;rw[if_pos ⟨tb,hj⟩],?_⟩
    rw[gR,if_pos tb,append_nil]
    exact L3
   ·have tb:¬ t.testBit j=true:=λh=>hin ((zq hj).mpr h)
    have hm1:=mE (t:=t) (show j+1<=k by lia)
    rw[gR,if_neg tb,length_append] at hm1
    have hml:(dF t j).length<(br k m t).length:=by simp at hm1;lia
    w_on
    refine zI L3 0 rfl (x4 hml) λH4 L4=>?_
    refine ⟨by unfold plP;rw[if_neg λz=>tb z.1],?_⟩
    rw[gR,if_neg tb,length_append,length_singleton]
    exact L4
  ·rintro v H4 ⟨rfl,L4⟩
   have hC4:=hC.mono L4.same
   obtain ⟨x,hx⟩:∃x,cs[plP k m t j]? = some x:=⟨cs[plP k m t j]'(by rw[hC.len];lia),getElem?_eq_getElem _⟩
   have ag:=hC.at_ _ x (all.getD (plP k m t j) []) hx (by simp[show plP k m t j<all.length by lia])
   have shl:=sh_l _ pj
   w_on
   refine kE (Loc.start H4) (by lia) p64 λp5 H5 M5=>?_
   have L5:=L4.calls M5
   have hc5:=(L5.arg hC.lst)
   w_on
   refine fX hc5 hx ?_
   w_on
   refine ay M5 (M5.lst 0 rfl) (SqL.of (L5.same _ _ ag)) (by rw[cB,shl,sizeLine_eq];lia) λp6 H6 M6=>?_
   have L6:=L4.calls (M6.pick 1 rfl)
   w_on
   refine gB L6 1 rfl (by rw[aJ,hjl,sizeLine_eq];lia) λH7 L7=>?_
   w_on
   refine i_3 (as++[p6]) _ _ ⟨rfl,by simp[hjl],?_⟩
   unfold g9 at L7 ⊢
   rw[range_succ,map_append,map_cons,map_nil,rQ (by simp[hjl]),show ah (as++[p6])=ah as++[V.ref p6] by simp[ah]]
   exact L7
 ·refine λσ H3 ez9=>e_3 ez9 λas v3 v6=>a_3 λez hjl L3=>?_;clear ez9;subst ez
  have hR3:Rows K H3 p as (g9 k m t (λs=>all.getD s []) k):=L3.rows (L3.lst 1 rfl) (by unfold g9;simp[hjl]) λx hx=>mem_cons_of_mem _ (mem_cons_of_mem _ hx)
  have hMB:MB (aR k len (plP k m t) (λs=>all.getD s [])):=rq (by lia) (pO hkm) sh_b
  have rg:∀i,i<k->(g9 k m t (λs=>all.getD s []) k).getD i []=rowFor k (plP k m t i)++all.getD (plP k m t i) []:=λi hi=>by
   unfold g9
   rw[getD_eq_getElem?_getD,getElem?_map,getElem?_range hi]
   rfl
  have hP:RP k (k+len) (g9 k m t (λs=>all.getD s []) k) (aR k len (plP k m t) (λs=>all.getD s [])):=by
   refine ⟨by unfold g9;simp,λi hi=>?_,λi hi j hj=>?_⟩
   ·rw[rg i hi]
    exact ⟨by rw[length_append,cB,sh_l _ (plk i hi)],(mh (by lia) (pO hkm i)).app (sh_b _)⟩
   ·rw[rg i hi]
    unfold aR
    by_cases hjk:j<k
    ·rw[if_pos hjk]
     exact en (by rw[cB];exact hjk)
    ·rw[if_neg hjk,gU (by rw[cB];lia),cB]
  w_on
  refine wX L3 hR3 hP hMB (Be hkm sh_b hpl hMB) (by lia) hl1 λp5 bs H5 L5 hR5 hN5=>?_
  rw[<- tm hkm sh_b hpl hMB sh_l] at hR5
  exact q p5 bs H5 _ L5 hR5 ⟨L3.same.free hN5.1,λb hb=>L3.same.free (hN5.2 b hb)⟩
theorem xg {k m t len:Nat}{all:LL}(hal:all.length=k+m)(hlen:∀r∈all,r.length=len/\Bytes r)(hk1:1<=k)(hkm:k+m<=32)(hpl:k<=(places (k+m) t).length) :
  Dat (solve k (((places (k+m) t).take k).map λ(s:Nat)=>(rowFor k s,all.getD s []))) len/\(solve k (((places (k+m) t).take k).map λ(s:Nat)=>(rowFor k s,all.getD s []))).length=k:=by
 have sh_b:∀s,Bytes (all.getD s []):=λs=>by
  by_cases h:s<all.length
  ·rw[show all.getD s []=all[s] by simp[h]];exact (hlen _ (getElem_mem h)).2
  ·rw[show all.getD s []=[] by simp[h]];exact Bytes.nil
 have sh_l:∀s,s<k+m->(all.getD s []).length=len:=λs hs=>by
  rw[show all.getD s []=all[s]'(by lia) by simp[show s<all.length by lia]];exact (hlen _ (getElem_mem (by lia))).1
 have hMB:MB (aR k len (plP k m t) (λs=>all.getD s [])):=rq (by lia) (pO hkm) sh_b
 rw[tm hkm sh_b hpl hMB sh_l]
 refine ⟨⟨by simpa using hk1,by simp;lia,λr hr=>?_⟩,by simp⟩
 refine e_1 (mem_map.mp hr) λi=>a_2 λ_ ez=>?_;subst ez
 refine ⟨by simp,λy hy=>?_⟩
 refine e_1 (mem_map.mp hy) λx=>a_2 λ_ ez=>?_;subst ez
 exact jK hMB k i _
end
section
variable {P:Program}{w:World}{K:Frag}{mg:Str->Option Value}{base:Heap}{ad:Adr}
theorem BE (x:Nat):x &&& 255=x%256:=and_two_pow_sub_one_eq_mod x 8
theorem xJ (n x:Nat):(range n).map (λi=>x/2 ^ (8*i) &&& 255)=little n x:=by
 unfold little
 refine map_congr_left λi _=>?_
 rw[BE,show (256:Nat) ^ i=2 ^ (8*i) by rw[pow_mul]]
theorem am (n x:Nat):(little n x).length=n:=by simp[little]
theorem fG (n x:Nat):Bytes (little n x):=λy hy=>by
 unfold little at hy
 refine e_1 (mem_map.mp hy) λi=>a_2 λ_ ez=>?_;subst ez
 exact mod_lt _ (by decide)
def bV (K:Frag):Sp:=λvs H Q _=>∃(x n:Nat),vs=[.int (x:Int),.int (n:Int)]/\n<=16/\∀p H',Loc H H' [(p,.lst (nv (little n x)))]->Q (.ref p) H'
abbrev dw:Stmt:=top 15
theorem sc_low_first:FnScope ["number","count","place"] ["number","count"] (Dg dw):=by walk_at "sc"
theorem uf {f:Addr}{fd:FuncData}(F:Fun K "low_first" "low_first" dw f fd)(T:Txt K mg ad)  : FnOk P w K mg base CX0 1 f fd ["number","count"] (bV K):=by
 refine F.ok sc_low_first (λvs H Q E h=>?_) (λcdv A outer s H vs Q E hr h=>?_)
 ·k_go0
 refine e_2 h λx n=>a_3 λez hn k=>?_;clear h;subst ez
 refine ⟨_,(Di (Dm (D0 rfl sc_low_first.nd (DK rfl T.n_range (Dd (pv 1) De)) (DH (own:=[("place",2)]) (by show DX ["number","count","place"] (Dg dw) _ _=true;decide +kernel)) (λ_ _ _ _ _=>Dr (i:=2) sc_low_first.nd rfl (Or.inl rfl)) (λ_ _ _ _ _=>DM) (λ_ _ _ _ _=>(Dj DW (Dj Ea (pv 0) (Dj DY Dh (pv 2))) Dh))))),?_⟩
 have L0:=Loc.start H
 k_go
 refine ⟨_,rfl,by lia,by lia,?_⟩
 rw[Int.toNat_natCast]
 refine yS L0 (by rw[sizeLine_eq];lia) (λi=>x/2 ^ (8*i) &&& 255) ?_ ?_
 ·intro i hi H1 D o R M r
  w_on
  exact r
 ·intro D H1 L1
  rw[xJ] at L1
  exact k D H1 L1
theorem cR {H H0:Hp}{ls:List (Addr×HO)}{Q:VK}{E:XK}{x n:Nat}(L:Loc H0 H ls)(hn:n<=16)(q:∀p H',Loc H0 H' (ls++[(p,.lst (nv (little n x)))])->Q (.ref p) H'):bV K ([.int (x:Int),.int (n:Int)]++[]) H Q E:=
 i_2 x n ⟨rfl,hn,λp H' M=>q p H' (L.calls M)⟩
theorem Bl (xs:NL):(nv xs).reverse=nv xs.reverse:=by simp[nv]
theorem yc (b:NL):bigOf b.reverse=littleOf b:=by
 unfold bigOf littleOf
 rw[List.foldl_reverse]
 congr 1
 funext x n
 lia
theorem Bytes.rev {b:NL}(h:Bytes b):Bytes b.reverse:=λx hx=>h x (List.mem_reverse.mp hx)
theorem B1 {σ:L2.St}{H H0:Hp}{Q:VK}{te ts:TE}(q:te σ H λx H1=>ts σ H1 λy H2=>y=.int (-1)/\∃a xs,x=.ref a/\SqL K H2 a xs/\∀p,H2 p=none->Q (.ref p) (upd H2 p (.lst xs.reverse))):Av K te ts σ H Q:=q
def bm (K:Frag):Sp:=λvs H Q _=>∃(a:Addr)(b:NL),vs=[.ref a]/\SqL K H a (nv b)/\Bytes b/\b.length<=500/\∀H' ms,Loc H H' ms->Q (.int ((littleOf b:Nat):Int)) H'
abbrev aU:Stmt:=top 16
theorem kh:FnScope ["data"] ["data"] (Dg aU):=by walk_at "sc"
theorem kn {f:Addr}{fd:FuncData}(F:Fun K "number_of_low_first" "number_of_low_first" aU f fd)(T:Txt K mg ad)(C_number_of:Callee P w K mg base 1 "number_of" ["data"] (bU K)):FnOk P w K mg base CX0 2 f fd ["data"] (bm K):=by
 refine F.ok kh (λvs H Q E h=>?_) (λcdv A outer s H vs Q E hr h=>?_)
 ·k_go0
 refine e_2 h λa b=>a_5 λez hs hb hl k=>?_;clear h;subst ez
 refine ⟨_,(Di (Dm (ab C_number_of hr.m rfl (Dd (Bf (K:=K) rfl (pv 0) (D5 DT Dh)) De)))),?_⟩
 k_go
 refine B1 (H0:=H) ?_
 w_on
 refine ⟨rfl,a,nv b,rfl,hs,λp hp=>?_⟩
 have L1:Loc H (upd H p (.lst (nv b).reverse)) [(p,.lst (nv b).reverse)]:=(Loc.start H).new hp
 rw[Bl] at L1 ⊢
 w_on
 refine eJ (L1.lst 0 rfl) hb.rev (by rw[List.length_reverse];exact hl) ?_
 rw[yc]
 exact k _ _ L1
theorem kC {H H0:Hp}{ls:List (Addr×HO)}{Q:VK}{E:XK}{a:Addr}{b:NL}(L:Loc H0 H ls)(hs:SqL K H a (nv b))(hb:Bytes b)(hl:b.length<=500)(q:∀H',Loc H0 H' ls->Q (.int ((littleOf b:Nat):Int)) H'):bm K ([.ref a]++[]) H Q E:=
 i_2 a b ⟨rfl,hs,hb,hl,λH' ms M=>q H' ((L.calls M).sub (sublist_append_left _ _))⟩
def hOf (hd:NL):Head:=⟨Sy22.at_ hd 0,littleOf (Sy22.part hd 3 8),Sy22.part hd 11 20⟩
theorem e9 {b:NL}{i n:Nat}(h:i+n<=b.length):(Sy22.part b i n).length=n:=by
 unfold Sy22.part
 rw[length_take,length_drop]
 lia
theorem Bytes.part {b:NL}(h:Bytes b)(i n:Nat):Bytes (Sy22.part b i n):=(h.drop i).take n
theorem rW (b:NL)(i n j m:Nat)(h:j+m<=n):Sy22.part (Sy22.part b i n) j m=Sy22.part b (i+j) m:=by
 unfold Sy22.part
 rw[List.drop_take,List.take_take,drop_drop,min_eq_left (by lia)]
theorem Al (b:NL)(i n j:Nat)(h:j<n):Sy22.at_ (Sy22.part b i n) j=Sy22.at_ b (i+j):=by
 unfold Sy22.at_ Sy22.part
 rw[getD_eq_getElem?_getD,getD_eq_getElem?_getD,getElem?_take,if_pos h,getElem?_drop]
theorem fH (s:NL):headOf s=hOf (Sy22.part s 37 43):=by
 unfold headOf hOf
 rw[Al _ _ _ _ (by decide),rW _ _ _ _ _ (by decide),rW _ _ _ _ _ (by decide)]
theorem sV {h:Head}{id:NL}(r:Nat)(h1:h.name.length=20)(h2:id.length=8):(h.text id r).length=43:=by
 unfold Head.text
 simp only[length_append,am,h1,h2,length_cons,length_nil]
def im (i:Nat)(hd x:NL):NL:=sum 2 ([83,89,50,50]++([i]++(hd++x)))++([83,89,50,50]++([i]++(hd++x)))
theorem ld (id:NL)(r:Nat)(h:Head)(i:Nat)(x:NL):written id r h i x=im i (h.text id r) x:=by
 have e:Sy22.ascii "SY22" = [83,89,50,50]:=by decide +kernel
 unfold written im
 rw[e]
 rfl
theorem xj (i:Nat)(hd x:NL)(h:hd.length=43):Sy22.part (im i hd x) 37 43=hd:=by
 unfold im Sy22.part
 rw[drop_append,eN (.inr rfl),drop_eq_nil_of_le (by rw[eN (.inr rfl)];decide),nil_append]
 show ((hd++x).drop 0).take 43=hd
 rw[drop_zero,List.take_append_of_le_length (by lia),take_of_length_le (by lia)]
theorem tu (i:Nat)(hd x:NL):(im i hd x).length=37+hd.length+x.length:=by
 unfold im
 simp only[length_append,eN (.inr rfl),length_cons,length_nil]
 show 4*8+_=_
 lia
def rh (id:NL)(r i:Nat)(s:NL):Option (NL):=if isRight id r i s=true then some (Sy22.part s 37 43) else none
theorem tW {id s:NL}(r i:Nat)(hs:s.length=512)(hi:id.length=8):isRight id r i s=(headOk (hOf (Sy22.part s 37 43)) && (decide (Sy22.part s 37 43=(hOf (Sy22.part s 37 43)).text id r) && decide (s=im i (Sy22.part s 37 43) (s.drop 80)))):=by
 unfold isRight
 rw[fH,ld]
 congr 1
 rw[Bool.eq_iff_iff,Bool.and_eq_true,decide_eq_true_iff,decide_eq_true_iff,decide_eq_true_iff]
 have tl:((hOf (Sy22.part s 37 43)).text id r).length=43:=sV r (by unfold hOf;rw[e9 (by rw[e9 (by lia)];decide)]) hi
 constructor
 ·intro e
  have e1:=congrArg (λx=>Sy22.part x 37 43) e
  rw[xj _ _ _ tl] at e1
  exact ⟨e1,by rw[<- e1] at e;exact e⟩
 ·rintro ⟨e1,e2⟩
  rw[<- e1]
  exact e2
theorem mX {id s hd:NL}{r i:Nat}(hs:s.length=512)(hi:id.length=8)(h:rh id r i s=some hd):hd=(hOf hd).text id r/\headOk (hOf hd)=true/\hd=Sy22.part s 37 43/\hd.length=43:=by
 unfold rh at h
 split at h
 ·rename_i e
  rw[tW r i hs hi,Bool.and_eq_true,Bool.and_eq_true,decide_eq_true_iff,decide_eq_true_iff] at e
  cases h
  exact ⟨e.2.1,e.1,rfl,e9 (by lia)⟩
 ·cases h
def fw (K:Frag):Sp:=λvs H Q _=>∃(n x r:Nat)(a b:Addr)(nm id:NL),vs=[.int (n:Int),.int (x:Int),.ref a,.int (r:Int),.ref b]/\SqL K H a (nv nm)/\SqL K H b (nv id)/\nm.length<=1000/\id.length<=1000/\∀p H',Loc H H' [(p,.lst (nv (Head.text ⟨n,x,nm⟩ id r)))]->Q (.ref p) H'
abbrev eU:Stmt:=top 43
theorem tK:FnScope ["length","number","name_sum","row","store_id"] ["length","number","name_sum","row","store_id"] (Dg eU):=by walk_at "sc"
theorem ue {f:Addr}{fd:FuncData}(F:Fun K "make_head" "make_head" eU f fd)(T:Txt K mg ad)(C_low_first:Callee P w K mg base 1 "low_first" ["number","count"] (bV K)):FnOk P w K mg base CX0 2 f fd ["length","number","name_sum","row","store_id"] (fw K):=by
 refine F.ok tK (λvs H Q E h=>?_) (λcdv A outer s H vs Q E hr h=>?_)
 ·k_go0
 refine e_7 h λn x r a b nm id=>a_6 λez ha hb hn hi k=>?_;clear h;subst ez
 refine ⟨_,(Di (Dm (Dj (ao (K:=K) rfl) (Dj (ao (K:=K) rfl) (Dj (ao (K:=K) rfl) (Dj (ao (K:=K) rfl) (DA (Dd (pv 0) (Dd Dh (Dd Dh De)))) (ab C_low_first hr.m rfl (Dd (pv 1) (Dd Dh De)))) (pv 2)) (ab C_low_first hr.m rfl (Dd (pv 3) (Dd Dh De)))) (pv 4)))),?_⟩
 have L0:=Loc.start H
 k_go
 refine aF (xs:=nv [n,0,0]) L0 (by show 3<=sizeLine;decide) λp1 H1 L1=>?_
 w_on
 refine cR L1 (by decide) λp2 H2 L2=>?_
 refine ay L2 (L2.lst 0 rfl) (L2.lst 1 rfl) (by simp only[am,length_cons,length_nil];decide) λp3 H3 L3=>?_
 w_on
 refine ay L3 (L3.lst 2 rfl) (L3.arg ha) (by simp only[length_append,am,length_cons,length_nil,sizeLine_eq];lia) λp4 H4 L4=>?_
 w_on
 refine cR L4 (by decide) λp5 H5 L5=>?_
 refine ay L5 (L5.lst 3 rfl) (L5.lst 4 rfl) (by simp only[length_append,am,length_cons,length_nil,sizeLine_eq];lia) λp6 H6 L6=>?_
 w_on
 refine ay L6 (L6.lst 5 rfl) (L6.arg hb) (by simp only[length_append,am,length_cons,length_nil,sizeLine_eq];lia) λp7 H7 L7=>?_
 have L7:=L7.pick 6 rfl
 rw[append_assoc,append_assoc,append_assoc] at L7
 exact k p7 H7 L7
theorem lM {H H0:Hp}{ls:List (Addr×HO)}{Q:VK}{E:XK}{n x r:Nat}{a b:Addr}{nm id:NL}(L:Loc H0 H ls)(ha:SqL K H a (nv nm))(hb:SqL K H b (nv id))(hn:nm.length<=1000)(hi:id.length<=1000)(q:∀p H',Loc H0 H' (ls++[(p,.lst (nv (Head.text ⟨n,x,nm⟩ id r)))])->Q (.ref p) H'):fw K ([.int (n:Int),.int (x:Int),.ref a,.int (r:Int),.ref b]++[]) H Q E:=
 i_7 n x r a b nm id ⟨rfl,ha,hb,hn,hi,λp H' M=>q p H' (L.calls M)⟩
def fM (K:Frag):Sp:=λvs H Q _=>∃(a:Addr)(hd:NL),vs=[.ref a]/\SqL K H a (nv hd)/\hd.length=43/\Q (.int (((hOf hd).bytes:Nat):Int)) H
abbrev cX:Stmt:=top 44
theorem qI:FnScope ["head"] ["head"] (Dg cX):=by walk_at "sc"
theorem qY {f:Addr}{fd:FuncData}(F:Fun K "head_length" "head_length" cX f fd)(T:Txt K mg ad)  : FnOk P w K mg base CX0 1 f fd ["head"] (fM K):=by
 refine F.ok qI (λvs H Q E h=>?_) (λcdv A outer s H vs Q E hr h=>?_)
 ·k_go0
 refine e_2 h λa hd=>a_4 λez hs hl k=>?_;clear h;subst ez
 refine ⟨_,(Di (Dm (Du (ae (K:=K) rfl) (pv 0) Dh (λ_ _=>rfl)))),?_⟩
 k_go
 exact k
def aW (K:Frag):Sp:=λvs H Q _=>∃(a:Addr)(hd:NL),vs=[.ref a]/\SqL K H a (nv hd)/\hd.length=43/\Bytes hd/\∀H' ms,Loc H H' ms->Q (.int (((hOf hd).number:Nat):Int)) H'
abbrev cW:Stmt:=top 45
theorem qH:FnScope ["head"] ["head"] (Dg cW):=by walk_at "sc"
theorem qX {f:Addr}{fd:FuncData}(F:Fun K "head_number" "head_number" cW f fd)(T:Txt K mg ad)(C_number_of_low_first:Callee P w K mg base 2 "number_of_low_first" ["data"] (bm K)):FnOk P w K mg base CX0 3 f fd ["head"] (aW K):=by
 refine F.ok qH (λvs H Q E h=>?_) (λcdv A outer s H vs Q E hr h=>?_)
 ·k_go0
 refine e_2 h λa hd=>a_5 λez hs hl hb k=>?_;clear h;subst ez
 refine ⟨_,(Di (Dm (ab C_number_of_low_first hr.m rfl (Dd (DD (aj (K:=K) rfl) (pv 0) (Dy Dh) (Dy Dh)) De)))),?_⟩
 k_go
 refine ap (Loc.start H) hs λp H1 L1=>?_
 rw[ed (by decide) (by decide) (by rw[hl];decide)] at L1
 w_on
 exact kC L1 (L1.lst 0 rfl) (hb.part 3 8) (by rw[show cut hd _ _=Sy22.part hd 3 8 from rfl,e9 (by lia)];decide) λH2 L2=>k H2 _ L2
theorem bf {H H0:Hp}{ls:List (Addr×HO)}{Q:VK}{E:XK}{a:Addr}{hd:NL}(L:Loc H0 H ls)(hs:SqL K H a (nv hd))(hl:hd.length=43)(hb:Bytes hd)(q:∀H',Loc H0 H' ls->Q (.int (((hOf hd).number:Nat):Int)) H'):aW K ([.ref a]++[]) H Q E:=
 i_2 a hd ⟨rfl,hs,hl,hb,λH' ms M=>q H' ((L.calls M).sub (sublist_append_left _ _))⟩
def bq (K:Frag):Sp:=λvs H Q _=>∃(a:Addr)(hd:NL),vs=[.ref a]/\SqL K H a (nv hd)/\hd.length=43/\∀p H',Loc H H' [(p,.lst (nv (hOf hd).name))]->Q (.ref p) H'
abbrev cg:Stmt:=top 46
theorem nY:FnScope ["head"] ["head"] (Dg cg):=by walk_at "sc"
theorem ox {f:Addr}{fd:FuncData}(F:Fun K "head_name_sum" "head_name_sum" cg f fd)(T:Txt K mg ad)  : FnOk P w K mg base CX0 1 f fd ["head"] (bq K):=by
 refine F.ok nY (λvs H Q E h=>?_) (λcdv A outer s H vs Q E hr h=>?_)
 ·k_go0
 refine e_2 h λa hd=>a_4 λez hs hl k=>?_;clear h;subst ez
 refine ⟨_,(Di (Dm (DD (aj (K:=K) rfl) (pv 0) (Dy Dh) (Dy Dh)))),?_⟩
 k_go
 refine ap (Loc.start H) hs λp H1 L1=>?_
 rw[ed (by decide) (by decide) (by rw[hl];decide)] at L1
 exact k p H1 L1
theorem gp {H H0:Hp}{ls:List (Addr×HO)}{Q:VK}{E:XK}{a:Addr}{hd:NL}(L:Loc H0 H ls)(hs:SqL K H a (nv hd))(hl:hd.length=43)(q:∀p H',Loc H0 H' (ls++[(p,.lst (nv (hOf hd).name))])->Q (.ref p) H'):bq K ([.ref a]++[]) H Q E:=
 i_2 a hd ⟨rfl,hs,hl,λp H' M=>q p H' (L.calls M)⟩
def kf (K:Frag):Sp:=λvs H Q _=>∃(a:Addr)(hd:NL),vs=[.ref a]/\SqL K H a (nv hd)/\hd.length=43/\∀p H',Loc H H' [(p,.lst (nv (Sy22.part hd 31 4)))]->Q (.ref p) H'
abbrev fU:Stmt:=top 47
theorem u1:FnScope ["head"] ["head"] (Dg fU):=by walk_at "sc"
theorem vg {f:Addr}{fd:FuncData}(F:Fun K "head_row" "head_row" fU f fd)(T:Txt K mg ad)  : FnOk P w K mg base CX0 1 f fd ["head"] (kf K):=by
 refine F.ok u1 (λvs H Q E h=>?_) (λcdv A outer s H vs Q E hr h=>?_)
 ·k_go0
 refine e_2 h λa hd=>a_4 λez hs hl k=>?_;clear h;subst ez
 refine ⟨_,(Di (Dm (DD (aj (K:=K) rfl) (pv 0) (Dy Dh) (Dy Dh)))),?_⟩
 k_go
 refine ap (Loc.start H) hs λp H1 L1=>?_
 rw[ed (by decide) (by decide) (by rw[hl];decide)] at L1
 exact k p H1 L1
def gw (K:Frag):Sp:=λvs H Q _=>∃(a:Addr)(hd:NL),vs=[.ref a]/\SqL K H a (nv hd)/\hd.length=43/\∀p H',Loc H H' [(p,.lst (nv (hd.drop 35)))]->Q (.ref p) H'
abbrev cf:Stmt:=top 48
theorem nX:FnScope ["head"] ["head"] (Dg cf):=by walk_at "sc"
theorem ou {f:Addr}{fd:FuncData}(F:Fun K "head_store_id" "head_store_id" cf f fd)(T:Txt K mg ad)  : FnOk P w K mg base CX0 1 f fd ["head"] (gw K):=by
 refine F.ok nX (λvs H Q E h=>?_) (λcdv A outer s H vs Q E hr h=>?_)
 ·k_go0
 refine e_2 h λa hd=>a_4 λez hs hl k=>?_;clear h;subst ez
 refine ⟨_,(Di (Dm (DD (aj (K:=K) rfl) (pv 0) (Dy Dh) DP))),?_⟩
 k_go
 refine ap (Loc.start H) hs λp H1 L1=>?_
 rw[bp (by decide) (by rw[hl];decide)] at L1
 exact k p H1 L1
def eB (K:Frag):Sp:=λvs H Q _=>∃(x:Nat),vs=[.int (x:Int)]/\Q (.bl (decide (1<=x) && decide (x<=Sy22.MOST))) H
abbrev ci:Stmt:=top 49
theorem nZ:FnScope ["number"] ["number"] (Dg ci):=by walk_at "sc"
theorem oy {f:Addr}{fd:FuncData}(F:Fun K "can_be_number" "can_be_number" ci f fd)(T:Txt K mg ad)  : FnOk P w K mg base CX0 1 f fd ["number"] (eB K):=by
 refine F.ok nZ (λvs H Q E h=>?_) (λcdv A outer s H vs Q E hr h=>?_)
 ·k_go0
 refine e_1 h λx=>a_2 λez k=>?_;clear h;subst ez
 refine ⟨_,(Di (Dm (FY Fk Fk Dh (pv 0) (gI T.g_GREATEST_NUMBER)))),?_⟩
 k_go
 by_cases h1:1<=x
 ·rw[if_pos (decide_eq_true h1)]
  w_on
  rw[decide_eq_true h1,Bool.true_and] at k
  exact k
 ·rw[if_neg (by simpa using h1)]
  rw[decide_eq_false h1,Bool.false_and] at k
  exact k
end
section
variable {P:Program}{w:World}{K:Frag}{mg:Str->Option Value}{base:Heap}{ad:Adr}
theorem mF (n:Nat):lengthOk n=decide (n∈[16,24,32]):=by
 unfold lengthOk
 rw[Bool.eq_iff_iff]
 simp[or_assoc]
theorem gT (h:Head):headOk h=(decide (h.bytes∈[16,24,32]) && (decide (1<=h.number) && decide (h.number<=Sy22.MOST))):=by
 unfold headOk
 rw[mF]
def fN (K:Frag):Sp:=λvs H Q _=>∃(a b:Addr)(hd id:NL)(r:Nat),vs=[.ref a,.int (r:Int),.ref b]/\SqL K H a (nv hd)/\SqL K H b (nv id)/\hd.length=43/\Bytes hd/\id.length=8/\∀H' ms,Loc H H' ms->Q (.bl (headOk (hOf hd) && decide (hd=(hOf hd).text id r))) H'
abbrev cY:Stmt:=top 50
theorem qJ:FnScope ["head","row","store_id"] ["head","row","store_id"] (Dg cY):=by walk_at "sc"
theorem qZ {f:Addr}{fd:FuncData}(F:Fun K "can_be_head" "can_be_head" cY f fd)(T:Txt K mg ad)(C_make_head:Callee P w K mg base 2 "make_head" ["length","number","name_sum","row","store_id"] (fw K))(C_head_length:Callee P w K mg base 1 "head_length" ["head"] (fM K))(C_head_number:Callee P w K mg base 3 "head_number" ["head"] (aW K))(C_head_name_sum:Callee P w K mg base 1 "head_name_sum" ["head"] (bq K))(C_can_be_number:Callee P w K mg base 1 "can_be_number" ["number"] (eB K)):FnOk P w K mg base CX0 4 f fd ["head","row","store_id"] (fN K):=by
 refine F.ok qJ (λvs H Q E h=>?_) (λcdv A outer s H vs Q E hr h=>?_)
 ·k_go0
 refine e_5 h λa b hd id r=>a_7 λez hs hb hl hB hi k=>?_;clear h;subst ez
 refine ⟨_,(Df (DF (PW.pt (ER (Dt (rY (K:=K) rfl) (ab C_head_length hr.m rfl (Dd (pv 0) De)) (D1 (v:=.ref ad.KEY_LENGTHS) rfl T.g_KEY_LENGTHS rfl) (by rfl)) (Ex (Ey (Eb (ab C_can_be_number hr.m rfl (Dd (ab C_head_number hr.m rfl (Dd (pv 0) De)) De))))))) (Di (Dm Fi)) Dx)
   (Di (Dm (Gi (m3 (K:=K) rfl hr.units) (pv 0) (ab C_make_head hr.m rfl (Dd (ab C_head_length hr.m rfl (Dd (pv 0) De)) (Dd (ab C_head_number hr.m rfl (Dd (pv 0) De)) (Dd (ab C_head_name_sum hr.m rfl (Dd (pv 0) De)) (Dd (pv 1) (Dd (pv 2) De)))))) (Dv _))))),?_⟩
 rw[gT] at k
 k_go
 refine i_2 a hd ⟨rfl,hs,hl,?_⟩
 w_on
 refine tY (ns:=[16,24,32]) (T.t_KEY_LENGTHS _) ?_
 w_on
 refine gu (λhc=>?_) (λhc=>?_)
 ·w_on
  refine ite_tt ?_
  w_on
  rw[decide_eq_false hc,Bool.false_and,Bool.false_and] at k
  exact k H [] (Loc.start H)
 ·rw[decide_eq_true hc,Bool.true_and] at k
  w_on
  refine bf (Loc.start H) hs hl hB λH1 L1=>?_
  refine ⟨_,rfl,?_⟩
  w_on
  by_cases hn:(decide (1<=(hOf hd).number) && decide ((hOf hd).number<=Sy22.MOST))=true
  ·rw[hn,Bool.true_and] at k
   rw[hn]
   refine ite_ff ?_
   w_on
   refine i_2 a hd ⟨rfl,L1.arg hs,hl,?_⟩
   w_on
   refine bf L1 (L1.arg hs) hl hB λH2 L2=>?_
   w_on
   refine gp L2 (L2.arg hs) hl λp3 H3 L3=>?_
   w_on
   have nl:(hOf hd).name.length=20:=e9 (by lia)
   refine lM L3 (L3.lst 0 rfl) (L3.arg hb) (by lia) (by lia) λp4 H4 L4=>?_
   refine wg (L4.arg hs) (L4.lst 1 rfl) ?_
   exact k H4 _ L4
  ·rw[Bool.eq_false_iff.mpr hn,Bool.false_and] at k
   rw[Bool.eq_false_iff.mpr hn]
   refine ite_tt ?_
   w_on
   exact k H1 _ L1
theorem oW {H H0:Hp}{ls:List (Addr×HO)}{Q:VK}{E:XK}{a b:Addr}{hd id:NL}{r:Nat}(L:Loc H0 H ls)(hs:SqL K H a (nv hd))(hb:SqL K H b (nv id))(hl:hd.length=43)(hB:Bytes hd)(hi:id.length=8)(q:∀H',Loc H0 H' ls->Q (.bl (headOk (hOf hd) && decide (hd=(hOf hd).text id r))) H'):fN K ([.ref a,.int (r:Int),.ref b]++[]) H Q E:=
 i_5 a b hd id r ⟨rfl,hs,hb,hl,hB,hi,λH' ms M=>q H' ((L.calls M).sub (sublist_append_left _ _))⟩
def dQ (K:Frag):Sp:=λvs H Q _=>∃(i:Nat)(a b:Addr)(hd x:NL),vs=[.int (i:Int),.ref a,.ref b]/\SqL K H a (nv hd)/\SqL K H b (nv x)/\i<256/\Bytes hd/\Bytes x/\hd.length+x.length<=1000/\∀p H',Loc H H' [(p,.lst (nv (im i hd x)))]->Q (.ref p) H'
abbrev cV:Stmt:=top 51
theorem sc_make_sector:FnScope ["place","head","share","behind"] ["place","head","share"] (Dg cV):=by walk_at "sc"
theorem qW {f:Addr}{fd:FuncData}(F:Fun K "make_sector" "make_sector" cV f fd)(T:Txt K mg ad)(C_sum_of:Callee P w K mg base 7 "sum_of" ["kind","data"] (ef K)):FnOk P w K mg base CX0 8 f fd ["place","head","share"] (dQ K):=by
 refine F.ok sc_make_sector (λvs H Q E h=>?_) (λcdv A outer s H vs Q E hr h=>?_)
 ·k_go0
 refine e_5 h λi a b hd x=>a_8 λez ha hb hi hB xB hl k=>?_;clear h;subst ez
 refine ⟨_,(Df (Dl (i:=3) sc_make_sector.nd rfl (Or.inl rfl) (Dj (ao (K:=K) rfl) (Dj (ao (K:=K) rfl) (Dj (ao (K:=K) rfl) (D7 (gc (K:=K) rfl) (by rfl) T.n_list hZ (Dd (D1 (v:=.ref ad.SIGN) rfl T.g_SIGN rfl) De)) (DA (Dd (pv 0) De))) (pv 1)) (pv 2)))
   (Di (Dm (Dj (ao (K:=K) rfl) (ab C_sum_of hr.m rfl (Dd Dh (Dd (pv 3) De))) (pv 3))))),?_⟩
 have L0:=Loc.start H
 k_go
 refine qQ L0 (T.t_SIGN _) λp1 H1 L1=>?_
 w_on
 refine aF (xs:=nv [i]) L1 (by show 1<=sizeLine;decide) λp2 H2 L2=>?_
 w_on
 refine ay L2 (L2.lst 0 rfl) (L2.lst 1 rfl) (by show 5<=sizeLine;decide) λp3 H3 L3=>?_
 w_on
 refine ay L3 (L3.lst 2 rfl) (L3.arg ha) (by simp only[length_append,length_cons,length_nil,sizeLine_eq];lia) λp4 H4 L4=>?_
 w_on
 refine ay L4 (L4.lst 3 rfl) (L4.arg hb) (by simp only[length_append,length_cons,length_nil,sizeLine_eq];lia) λp5 H5 L5=>?_
 rw[append_assoc,append_assoc] at L5
 have bB:Bytes ([83,89,50,50]++([i]++(hd++x))):=Bytes.app (λy hy=>by simp at hy;lia) (Bytes.app (λy hy=>by rw[mem_singleton] at hy;lia) (hB.app xB))
 w_on
 refine i_3 2 _ _ ⟨rfl,L5.lst 4 rfl,.inr rfl,bB,by simp only[length_append,length_cons,length_nil];lia,λp6 H6 M6=>?_⟩
 have L6:=L5.calls M6
 w_on
 refine ay L6 (L6.lst 5 rfl) (L6.lst 4 rfl) (by rw[eN (.inr rfl)];simp only[length_append,length_cons,length_nil,sizeLine_eq];show 4*8+_<=_;lia) λp7 H7 L7=>?_
 exact k p7 H7 (L7.pick 6 rfl)
theorem j4 {H H0:Hp}{ls:List (Addr×HO)}{Q:VK}{E:XK}{i:Nat}{a b:Addr}{hd x:NL}(L:Loc H0 H ls)(ha:SqL K H a (nv hd))(hb:SqL K H b (nv x))(hi:i<256)(hB:Bytes hd)(xB:Bytes x)(hl:hd.length+x.length<=1000)(q:∀p H',Loc H0 H' (ls++[(p,.lst (nv (im i hd x)))])->Q (.ref p) H'):dQ K ([.int (i:Int),.ref a,.ref b]++[]) H Q E:=
 i_5 i a b hd x ⟨rfl,ha,hb,hi,hB,xB,hl,λp H' M=>q p H' (L.calls M)⟩
def iG (K:Frag):Sp:=λvs H Q _=>∃(a:Addr)(s:NL),vs=[.ref a]/\SqL K H a (nv s)/\s.length=512/\∀p H',Loc H H' [(p,.lst (nv (s.drop 80)))]->Q (.ref p) H'
abbrev fR:Stmt:=top 52
theorem uZ:FnScope ["sector"] ["sector"] (Dg fR):=by walk_at "sc"
theorem ve {f:Addr}{fd:FuncData}(F:Fun K "share_of" "share_of" fR f fd)(T:Txt K mg ad)  : FnOk P w K mg base CX0 1 f fd ["sector"] (iG K):=by
 refine F.ok uZ (λvs H Q E h=>?_) (λcdv A outer s H vs Q E hr h=>?_)
 ·k_go0
 refine e_2 h λa sc=>a_4 λez hs hl k=>?_;clear h;subst ez
 refine ⟨_,(Di (Dm (DD (aj (K:=K) rfl) (pv 0) (Dy (gI T.g_SHARE_AT)) DP))),?_⟩
 k_go
 refine ap (Loc.start H) hs λp H1 L1=>?_
 rw[bp (by decide) (by rw[hl];decide)] at L1
 exact k p H1 L1
def jf (K:Frag):Sp:=λvs H Q _=>∃(a b:Addr)(s id:NL)(r i:Nat),vs=[.ref a,.int (r:Int),.int (i:Int),.ref b]/\SqL K H a (nv s)/\SqL K H b (nv id)/\s.length=512/\Bytes s/\id.length=8/\i<256/\BJ (rh id r i s) H Q
abbrev dU:Stmt:=top 53
theorem sc_right_head:FnScope ["sector","row","place","store_id","head"] ["sector","row","place","store_id"] (Dg dU):=by walk_at "sc"
theorem sx {f:Addr}{fd:FuncData}(F:Fun K "right_head" "right_head" dU f fd)(T:Txt K mg ad)(C_can_be_head:Callee P w K mg base 4 "can_be_head" ["head","row","store_id"] (fN K))(C_make_sector:Callee P w K mg base 8 "make_sector" ["place","head","share"] (dQ K))(C_share_of:Callee P w K mg base 1 "share_of" ["sector"] (iG K)):FnOk P w K mg base CX0 9 f fd ["sector","row","place","store_id"] (jf K):=by
 refine F.ok sc_right_head (λvs H Q E h=>?_) (λcdv A outer s H vs Q E hr h=>?_)
 ·k_go0
 refine e_6 h λa b sc id r i=>a_8 λez hs hb hl hB hi h256 k=>?_;clear h;subst ez
 refine ⟨_,(Df (Dl (i:=4) sc_right_head.nd rfl (Or.inl rfl) (DD (aj (K:=K) rfl) (pv 0) (Dy (gI T.g_HEAD_AT)) (Dy (gI T.g_SHARE_AT))))
   (Df (DF (PW.pt (EL (Eb (ab C_can_be_head hr.m rfl (Dd (pv 4) (Dd (pv 1) (Dd (pv 3) De))))) (EK (Dt (m3 (K:=K) rfl hr.units) (pv 0) (ab C_make_sector hr.m rfl (Dd (pv 2) (Dd (pv 4) (Dd (ab C_share_of hr.m rfl (Dd (pv 0) De)) De)))) (Dv _))))) (Di (Dm (pv 4))) Dx)
   (Di (Dm DQ)))),?_⟩
 have ek:rh id r i sc=if (headOk (hOf (Sy22.part sc 37 43)) && (decide (Sy22.part sc 37 43=(hOf (Sy22.part sc 37 43)).text id r) && decide (sc=im i (Sy22.part sc 37 43) (sc.drop 80))))=true then some (Sy22.part sc 37 43) else none:=by
  unfold rh
  rw[tW r i hl hi]
 rw[ek,<- Bool.and_assoc] at k
 have pl:(Sy22.part sc 37 43).length=43:=e9 (by lia)
 k_go
 refine ap (Loc.start H) hs λp1 H1 L1=>?_
 rw[ed (by decide) (by decide) (by rw[hl];decide),show cut sc _ _=Sy22.part sc 37 43 from rfl] at L1
 w_on
 refine oW L1 (L1.lst 0 rfl) (L1.arg hb) pl (hB.part 37 43) hi λH2 L2=>?_
 refine ⟨_,rfl,?_⟩
 cases hc:(headOk (hOf (Sy22.part sc 37 43)) && decide (Sy22.part sc 37 43=(hOf (Sy22.part sc 37 43)).text id r)) with
 |false=>
  rw[hc,Bool.false_and,if_neg (by decide)] at k
  refine ite_ff ?_
  w_left
  exact k H2 L2.nil
 |true=>
  rw[hc,Bool.true_and] at k
  refine ite_tt ?_
  w_on
  refine i_2 a sc ⟨rfl,L2.arg hs,hl,λp3 H3 M3=>?_⟩
  have L3:=L2.calls M3
  w_on
  refine j4 L3 (L3.lst 0 rfl) (L3.lst 1 rfl) h256 (hB.part 37 43) (hB.drop 80) (by rw[pl,length_drop];lia) λp4 H4 L4=>?_
  refine wg (L4.arg hs) (L4.lst 2 rfl) ?_
  w_on
  refine bZ (λhe=>?_) (λhe=>?_)
  ·rw[if_pos (decide_eq_true he)] at k
   w_on
   exact k p1 H4 (L4.pick 0 rfl)
  ·rw[if_neg (by simpa using he)] at k
   w_on
   exact k H4 L4.nil
end
section
variable {P:Program}{w:World}{K:Frag}{mg:Str->Option Value}{base:Heap}{ad:Adr}
def aT (K:Frag):Sp:=λvs H Q _=>∃(x:Nat),vs=[.int (x:Int)]/\Q (.bl (decide (1<=x) && decide (x<=35))) H
abbrev aX:Stmt:=top 81
theorem kH:FnScope ["length"] ["length"] (Dg aX):=by walk_at "sc"
theorem kN {f:Addr}{fd:FuncData}(F:Fun K "can_be_name_length" "can_be_name_length" aX f fd)(T:Txt K mg ad)  : FnOk P w K mg base CX0 1 f fd ["length"] (aT K):=by
 refine F.ok kH (λvs H Q E h=>?_) (λcdv A outer s H vs Q E hr h=>?_)
 ·k_go0
 refine e_1 h λx=>a_2 λez k=>?_;clear h;subst ez
 refine ⟨_,(Di (Dm (FY Fk Fk Dh (pv 0) (gI T.g_MOST_NAME)))),?_⟩
 k_go
 by_cases h1:1<=x
 ·rw[if_pos (decide_eq_true h1)]
  w_on
  rw[decide_eq_true h1,Bool.true_and] at k
  exact k
 ·rw[if_neg (by simpa using h1)]
  rw[decide_eq_false h1,Bool.false_and] at k
  exact k
def mV (K:Frag):Sp:=λvs H Q _=>∃(a b:Addr)(nm tx:NL),vs=[.ref a,.ref b]/\SqL K H a (nv nm)/\SqL K H b (nv tx)/\nm.length<=35/\tx.length<=3400/\∀p H',Loc H H' [(p,.lst (nv (Sy22.plain nm tx)))]->Q (.ref p) H'
abbrev kK:Stmt:=top 82
theorem sc_pack:FnScope ["name","text","filled_name"] ["name","text"] (Dg kK):=by walk_at "sc"
theorem zT {f:Addr}{fd:FuncData}(F:Fun K "pack" "pack" kK f fd)(T:Txt K mg ad)(C_low_first:Callee P w K mg base 1 "low_first" ["number","count"] (bV K)):FnOk P w K mg base CX0 2 f fd ["name","text"] (mV K):=by
 refine F.ok sc_pack (λvs H Q E h=>?_) (λcdv A outer s H vs Q E hr h=>?_)
 ·k_go0
 refine e_4 h λa b nm tx=>a_6 λez ha hb hn ht k=>?_;clear h;subst ez
 refine ⟨_,(Df (Dl (i:=2) sc_pack.nd rfl (Or.inl rfl) (Dj (ao (K:=K) rfl) (pv 0) (Dj Ef (DA (Dd Dh De)) (Dj DV (gI T.g_MOST_NAME) (DE (az (K:=K) rfl) (by rfl) T.n_len aK (Dd (pv 0) De))))))
   (Di (Dm (Dj (ao (K:=K) rfl) (Dj (ao (K:=K) rfl) (Dj (ao (K:=K) rfl) (Dj (ao (K:=K) rfl) (ab C_low_first hr.m rfl (Dd (DE (az (K:=K) rfl) (by rfl) T.n_len aK (Dd (pv 1) De)) (Dd Dh De))) (DA (Dd (DE (az (K:=K) rfl) (by rfl) T.n_len aK (Dd (pv 0) De)) De))) (pv 2)) (pv 1)) (Dj Ef (DA (Dd Dh De)) (Dj DV (gI T.g_MOST_TEXT) (DE (az (K:=K) rfl) (by rfl) T.n_len aK (Dd (pv 1) De)))))))),?_⟩
 have L0:=Loc.start H
 k_go
 refine aF (xs:=nv [0]) L0 (by show 1<=sizeLine;decide) λp1 H1 L1=>?_
 have ha1:=L1.arg ha
 w_on
 refine jn L1 0 rfl (by rw[sizeLine_eq];lia) λp2 H2 L2=>?_
 w_on
 refine ay L2 (L2.arg ha) (L2.lst 1 rfl) (by rw[length_replicate,sizeLine_eq];lia) λp3 H3 L3=>?_
 have hb3:=L3.arg hb
 w_on
 refine cR L3 (by decide) λp4 H4 L4=>?_
 have ha4:=L4.arg ha
 w_on
 refine aF (xs:=nv [nm.length]) L4 (by show 1<=sizeLine;decide) λp5 H5 L5=>?_
 w_on
 refine ay L5 (L5.lst 3 rfl) (L5.lst 4 rfl) (by rw[am];show 5<=sizeLine;decide) λp6 H6 L6=>?_
 w_on
 refine ay L6 (L6.lst 5 rfl) (L6.lst 2 rfl) (by simp only[length_append,am,length_replicate,length_cons,length_nil,sizeLine_eq];lia) λp7 H7 L7=>?_
 w_on
 refine ay L7 (L7.lst 6 rfl) (L7.arg hb) (by simp only[length_append,am,length_replicate,length_cons,length_nil,sizeLine_eq];lia) λp8 H8 L8=>?_
 w_on
 refine aF (xs:=nv [0]) L8 (by show 1<=sizeLine;decide) λp9 H9 L9=>?_
 have hb9:=L9.arg hb
 w_on
 refine jn L9 8 rfl (by rw[sizeLine_eq];lia) λp10 H10 L10=>?_
 w_on
 refine ay L10 (L10.lst 7 rfl) (L10.lst 9 rfl) (by simp only[length_append,am,length_replicate,length_cons,length_nil,sizeLine_eq];lia) λp11 H11 L11=>?_
 have e:little 4 tx.length++[nm.length]++(nm++replicate (35-nm.length) 0)++tx++replicate (3400-tx.length) 0=Sy22.plain nm tx:=by
  unfold Sy22.plain zeros Sy22.NAME Sy22.TEXT
  simp only[append_assoc,cons_append,nil_append]
 rw[e] at L11
 exact k p11 H11 (L11.pick 10 rfl)
theorem mq {nm tx:NL}(h1:nm.length<=35)(h2:tx.length<=3400):(Sy22.plain nm tx).length=3440:=by
 unfold Sy22.plain zeros Sy22.NAME Sy22.TEXT
 simp only[length_append,am,length_cons,length_replicate]
 lia
theorem Bytes.rep (n:Nat):Bytes (replicate n 0):=λx hx=>by rw[List.eq_of_mem_replicate hx];decide
theorem nN {nm tx:NL}(h1:nm.length<=35)(b1:Bytes nm)(b2:Bytes tx):Bytes (Sy22.plain nm tx):=by
 unfold Sy22.plain zeros
 exact (fG 4 _).app (Bytes.app (xs:=[nm.length]) (λx hx=>by rw[mem_singleton] at hx;lia) (b1.app ((Bytes.rep _).app (b2.app (Bytes.rep _)))))
def unp (p:NL):Option (NL×NL):=
 if littleOf (p.take 4)<=3400/\1<=Sy22.at_ p 4/\Sy22.at_ p 4<=35/\Sy22.plain ((p.drop 5).take (Sy22.at_ p 4)) ((p.drop 40).take (littleOf (p.take 4)))=p then some ((p.drop 5).take (Sy22.at_ p 4),(p.drop 40).take (littleOf (p.take 4))) else none
def zt (o:Option (NL×NL))(H:Hp)(Q:VK):Prop:=match o with
 |some t=>∀q a b H',Loc H H' [(q,.tup [.ref a,.ref b]),(a,.lst (nv t.1)),(b,.lst (nv t.2))]->Q (.ref q) H'
 |none=>∀H',Loc H H' []->Q .non H'
theorem BZ {σ:L2.St}{H:Hp}{Q:VK}{t:TA}(q:t σ H λxs H1=>xs.length<=sizeLine/\∀p,H1 p=none->Q (.ref p) (upd H1 p (.tup xs))):G1 t σ H Q:=q
def md (K:Frag):Sp:=λvs H Q _=>∃(a:Addr)(p:NL),vs=[.ref a]/\SqL K H a (nv p)/\p.length=3440/\Bytes p/\zt (unp p) H Q
abbrev ip:Stmt:=top 83
theorem sc_unpack:FnScope ["packed","text_length","name_length","name","text"] ["packed"] (Dg ip):=by walk_at "sc"
theorem xA {f:Addr}{fd:FuncData}(F:Fun K "unpack" "unpack" ip f fd)(T:Txt K mg ad)(C_number_of_low_first:Callee P w K mg base 2 "number_of_low_first" ["data"] (bm K))(C_can_be_name_length:Callee P w K mg base 1 "can_be_name_length" ["length"] (aT K))(C_pack:Callee P w K mg base 2 "pack" ["name","text"] (mV K)):FnOk P w K mg base CX0 3 f fd ["packed"] (md K):=by
 refine F.ok sc_unpack (λvs H Q E h=>?_) (λcdv A outer s H vs Q E hr h=>?_)
 ·k_go0
 refine e_2 h λa p=>a_5 λez hs hl hB k=>?_;clear h;subst ez
 refine ⟨_,(Df (Dl (i:=1) sc_unpack.nd rfl (Or.inl rfl) (ab C_number_of_low_first hr.m rfl (Dd (DD (aj (K:=K) rfl) (pv 0) DP (Dy Dh)) De)))
   (Df (Dl (i:=2) sc_unpack.nd rfl (Or.inl rfl) (Du (ae (K:=K) rfl) (pv 0) Dh (λ_ _=>rfl)))
   (Df (DF (PW.pt (ER (Dt E8 (pv 1) (gI T.g_MOST_TEXT) (Dv _)) (Ex (Ey (Eb (ab C_can_be_name_length hr.m rfl (Dd (pv 2) De))))))) (Di (Dm DQ)) Dx)
   (Df (Dl (i:=3) sc_unpack.nd rfl (Or.inl rfl) (DD (aj (K:=K) rfl) (pv 0) (Dy (gI T.g_NAME_AT)) (Dy (Dj DB (gI T.g_NAME_AT) (pv 2)))))
   (Df (Dl (i:=4) sc_unpack.nd rfl (Or.inl rfl) (DD (aj (K:=K) rfl) (pv 0) (Dy (gI T.g_TEXT_AT)) (Dy (Dj DB (gI T.g_TEXT_AT) (pv 1)))))
   (Df (DF (Dt (kM (K:=K) rfl hr.units) (ab C_pack hr.m rfl (Dd (pv 3) (Dd (pv 4) De))) (pv 0) (Dv _)) (Di (Dm DQ)) Dx)
   (Di (Dm (pe_tup (Dd (pv 3) (Dd (pv 4) De))))))))))),?_⟩
 have l4:(p.take 4).length=4:=by rw[length_take];lia
 k_go
 refine ap (Loc.start H) hs λp1 H1 L1=>?_
 rw[gE (by decide) (by rw[hl];decide)] at L1
 w_on
 refine kC L1 (L1.lst 0 rfl) (hB.take 4) (by rw[Int.toNat_natCast,l4];decide) λH2 L2=>?_
 rw[Int.toNat_natCast]
 have hs2:=L2.arg hs
 w_on
 unfold unp at k
 generalize littleOf (p.take 4)=tl at *
 rw[show p.getD 4 0=Sy22.at_ p 4 from rfl]
 generalize Sy22.at_ p 4=nl at *
 by_cases h1:tl<=3400
 ·rw[if_neg (by simpa using h1)]
  w_on
  refine ⟨nl,rfl,?_⟩
  refine ⟨_,rfl,?_⟩
  by_cases h2:1<=nl/\nl<=35
  ·rw[show (decide (1<=nl) && decide (nl<=35))=true by simp[h2]]
   refine ite_ff ?_
   w_on
   refine ap L2 (L2.arg hs) λp3 H3 L3=>?_
   rw[ed (by lia) (by lia) (by lia),show cut p (Int.toNat ((5:Nat):Int)) (Int.toNat ((5+nl:Nat):Int))=(p.drop 5).take nl by unfold cut;rw[Int.toNat_natCast,Int.toNat_natCast,add_sub_cancel_left]] at L3
   w_on
   refine ap L3 (L3.arg hs) λp4 H4 L4=>?_
   rw[ed (by lia) (by lia) (by lia),show cut p (Int.toNat ((40:Nat):Int)) (Int.toNat ((40+tl:Nat):Int))=(p.drop 40).take tl by unfold cut;rw[Int.toNat_natCast,Int.toNat_natCast,add_sub_cancel_left]] at L4
   w_on
   refine i_4 p3 p4 _ _ ⟨rfl,L4.lst 1 rfl,L4.lst 2 rfl,by rw[length_take];lia,by rw[length_take];lia,λp5 H5 M5=>?_⟩
   have L5:=L4.calls M5
   w_on
   refine pE (L5.lst 3 rfl) (L5.arg hs) ?_
   w_on
   refine gu (λhe=>?_) (λhe=>?_)
   ·rw[if_neg (λz=>he z.2.2.2)] at k
    w_on
    exact k H5 L5.nil
   ·rw[if_pos ⟨h1,h2.1,h2.2,he⟩] at k
    w_on
    refine BZ ?_
    w_on
    refine ⟨by show 2<=sizeLine;decide,λq hq=>?_⟩
    have L6:=L5.new (o:=.tup [.ref p3,.ref p4]) hq
    exact k q p3 p4 _ (L6.order3 4 1 2 rfl rfl rfl (by decide) (by decide) (by decide))
  ·rw[show (decide (1<=nl) && decide (nl<=35))=false by simpa using h2]
   rw[if_neg (λz=>h2 ⟨z.2.1,z.2.2.1⟩)] at k
   refine ite_tt ?_
   w_on
   exact k H2 L2.nil
 ·rw[if_pos (by simpa using h1)]
  rw[if_neg (λz=>h1 z.1)] at k
  w_once
  exact k H2 L2.nil
end
section
variable {P:Program}{w:World}{K:Frag}{mg:Str->Option Value}{base:Heap}{ad:Adr}
def hG (sec hd:NL):NL:=(mark sec (hd.drop 35++little 8 (hOf hd).number)).take (hOf hd).bytes
def gA (hd:NL):NL:=little 8 (hOf hd).number++Sy22.part hd 31 4
theorem zo (key b:NL):(mark key b).length=32:=eN (.inr rfl) _
structure HdOk (hd:NL):Prop where
 len:hd.length=43
 by_:Bytes hd
 ok:headOk (hOf hd)=true
theorem HdOk.kl {hd:NL}(h:HdOk hd):(hOf hd).bytes=16\/(hOf hd).bytes=24\/(hOf hd).bytes=32:=by
 have:=h.ok
 rw[gT,Bool.and_eq_true,decide_eq_true_iff] at this
 simpa using this.1
theorem gQ {sec hd:NL}(h:HdOk hd):KeyOk (hG sec hd):=by
 have hk:=h.kl
 refine ⟨?_,Bytes.take (iQ (.inr rfl) _) _⟩
 unfold hG
 rw[length_take,zo]
 lia
theorem fA {hd:NL}(h:HdOk hd):(gA hd).length=12:=by
 unfold gA
 rw[length_append,am,e9 (by rw[h.len];decide)]
theorem di {hd:NL}(h:HdOk hd):Bytes (gA hd):=(fG 8 _).app (h.by_.part 31 4)
def gq (K:Frag):Sp:=λvs H Q _=>∃(a b:Addr)(hd sec:NL),vs=[.ref a,.ref b]/\SqL K H a (nv hd)/\SqL K H b (nv sec)/\HdOk hd/\Bytes sec/\sec.length<5000/\∀p H',Loc H H' [(p,.lst (nv (hG sec hd)))]->Q (.ref p) H'
abbrev dW:Stmt:=top 84
theorem sc_record_key:FnScope ["head","secret","marked"] ["head","secret"] (Dg dW):=by walk_at "sc"
theorem sy {f:Addr}{fd:FuncData}(F:Fun K "record_key" "record_key" dW f fd)(T:Txt K mg ad)(C_low_first:Callee P w K mg base 1 "low_first" ["number","count"] (bV K))(C_mark_of:Callee P w K mg base 8 "mark_of" ["key","data"] (lm K))(C_head_length:Callee P w K mg base 1 "head_length" ["head"] (fM K))(C_head_number:Callee P w K mg base 3 "head_number" ["head"] (aW K))(C_head_store_id:Callee P w K mg base 1 "head_store_id" ["head"] (gw K)):FnOk P w K mg base CX0 9 f fd ["head","secret"] (gq K):=by
 refine F.ok sc_record_key (λvs H Q E h=>?_) (λcdv A outer s H vs Q E hr h=>?_)
 ·k_go0
 refine e_4 h λa b hd sec=>a_7 λez ha hb ok sB sl k=>?_;clear h;subst ez
 refine ⟨_,(Df (Dl (i:=2) sc_record_key.nd rfl (Or.inl rfl) (ab C_mark_of hr.m rfl (Dd (pv 1) (Dd (Dj (ao (K:=K) rfl) (ab C_head_store_id hr.m rfl (Dd (pv 0) De)) (ab C_low_first hr.m rfl (Dd (ab C_head_number hr.m rfl (Dd (pv 0) De)) (Dd Dh De)))) De))))
   (Di (Dm (DD (aj (K:=K) rfl) (pv 2) DP (Dy (ab C_head_length hr.m rfl (Dd (pv 0) De))))))),?_⟩
 have hl:=ok.len
 have hk:=ok.kl
 k_go
 refine i_2 a hd ⟨rfl,ha,hl,λp1 H1 L1=>?_⟩
 w_on
 refine bf L1 (L1.arg ha) hl ok.by_ λH2 L2=>?_
 w_on
 refine cR L2 (by decide) λp3 H3 L3=>?_
 refine ay L3 (L3.lst 0 rfl) (L3.lst 1 rfl) (by rw[am,length_drop,sizeLine_eq];lia) λp4 H4 L4=>?_
 w_on
 refine i_4 b p4 sec _ ⟨rfl,L4.arg hb,L4.lst 2 rfl,sB,(ok.by_.drop 35).app (fG 8 _),sl,by rw[length_append,am,length_drop];lia,λp5 H5 M5=>?_⟩
 have L5:=L4.calls M5
 w_on
 refine i_2 a hd ⟨rfl,L5.arg ha,hl,?_⟩
 w_on
 refine ap L5 (L5.lst 3 rfl) λp6 H6 L6=>?_
 rw[gE (by lia) (by rw[zo];lia),Int.toNat_natCast] at L6
 exact k p6 H6 (L6.pick 4 rfl)
def fh (K:Frag):Sp:=λvs H Q _=>∃(a:Addr)(hd:NL),vs=[.ref a]/\SqL K H a (nv hd)/\HdOk hd/\∀p H',Loc H H' [(p,.lst (nv (gA hd)))]->Q (.ref p) H'
abbrev cE:Stmt:=top 85
theorem pf:FnScope ["head"] ["head"] (Dg cE):=by walk_at "sc"
theorem pS {f:Addr}{fd:FuncData}(F:Fun K "record_nonce" "record_nonce" cE f fd)(T:Txt K mg ad)(C_low_first:Callee P w K mg base 1 "low_first" ["number","count"] (bV K))(C_head_number:Callee P w K mg base 3 "head_number" ["head"] (aW K))(C_head_row:Callee P w K mg base 1 "head_row" ["head"] (kf K)):FnOk P w K mg base CX0 4 f fd ["head"] (fh K):=by
 refine F.ok pf (λvs H Q E h=>?_) (λcdv A outer s H vs Q E hr h=>?_)
 ·k_go0
 refine e_2 h λa hd=>a_4 λez ha ok k=>?_;clear h;subst ez
 refine ⟨_,(Di (Dm (Dj (ao (K:=K) rfl) (ab C_low_first hr.m rfl (Dd (ab C_head_number hr.m rfl (Dd (pv 0) De)) (Dd Dh De))) (ab C_head_row hr.m rfl (Dd (pv 0) De))))),?_⟩
 have hl:=ok.len
 k_go
 refine bf (Loc.start H) ha hl ok.by_ λH1 L1=>?_
 w_on
 refine cR L1 (by decide) λp2 H2 L2=>?_
 w_on
 refine i_2 a hd ⟨rfl,L2.arg ha,hl,λp3 H3 M3=>?_⟩
 have L3:=L2.calls M3
 refine ay L3 (L3.lst 0 rfl) (L3.lst 1 rfl) (by rw[am,e9 (by lia)];decide) λp4 H4 L4=>?_
 exact k p4 H4 (L4.pick 2 rfl)
def ig (K:Frag):Sp:=λvs H Q _=>∃(a b c d:Addr)(hd sec nm tx:NL),vs=[.ref a,.ref b,.ref c,.ref d]/\SqL K H a (nv hd)/\SqL K H b (nv sec)/\SqL K H c (nv nm)/\SqL K H d (nv tx)/\HdOk hd/\Bytes sec/\sec.length<5000/\Bytes nm/\nm.length<=35/\Bytes tx/\tx.length<=3400/\∀p H',Loc H H' [(p,.lst (nv (sealed (hG sec hd) (gA hd) hd (Sy22.plain nm tx))))]->Q (.ref p) H'
abbrev cT:Stmt:=top 86
theorem qD:FnScope ["head","secret","name","text"] ["head","secret","name","text"] (Dg cT):=by walk_at "sc"
theorem qT {f:Addr}{fd:FuncData}(F:Fun K "seal_record" "seal_record" cT f fd)(T:Txt K mg ad)(C_seal_text:Callee P w K mg base 7 "seal_text" ["key","nonce","beside","text"] (gZ K))(C_pack:Callee P w K mg base 2 "pack" ["name","text"] (mV K))(C_record_key:Callee P w K mg base 9 "record_key" ["head","secret"] (gq K))(C_record_nonce:Callee P w K mg base 4 "record_nonce" ["head"] (fh K)):FnOk P w K mg base CX0 10 f fd ["head","secret","name","text"] (ig K):=by
 refine F.ok qD (λvs H Q E h=>?_) (λcdv A outer s H vs Q E hr h=>?_)
 ·k_go0
 refine e_8 h λa b c d hd sec nm tx=>ze λez ha hb hc hd' ok sB sl nB nl tB tl k=>?_;clear h;subst ez
 refine ⟨_,(Di (Dm (ab C_seal_text hr.m rfl (Dd (ab C_record_key hr.m rfl (Dd (pv 0) (Dd (pv 1) De))) (Dd (ab C_record_nonce hr.m rfl (Dd (pv 0) De)) (Dd (pv 0) (Dd (ab C_pack hr.m rfl (Dd (pv 2) (Dd (pv 3) De))) De))))))),?_⟩
 have hl:=ok.len
 k_go
 refine i_4 a b hd sec ⟨rfl,ha,hb,ok,sB,sl,λp1 H1 L1=>?_⟩
 w_on
 refine i_2 a hd ⟨rfl,L1.arg ha,ok,λp2 H2 M2=>?_⟩
 have L2:=L1.calls M2
 w_on
 refine i_4 c d nm tx ⟨rfl,L2.arg hc,L2.arg hd',nl,tl,λp3 H3 M3=>?_⟩
 have L3:=L2.calls M3
 w_on
 refine sj L3 (L3.lst 0 rfl) (L3.lst 1 rfl) (L3.arg ha) (L3.lst 2 rfl) (gQ ok) (fA ok) (di ok) ok.by_ (nN nl nB tB) (by lia) (by rw[mq nl tl];decide) λp4 H4 L4=>?_
 exact k p4 H4 (L4.pick 3 rfl)
def opn (sec hd sl:NL):Option (NL×NL):=match opened (hG sec hd) (gA hd) hd sl with
 |none=>none
 |some p=>match unp p with
  |none=>none
  |some x=>if sum 1 x.1=(hOf hd).name then some x else none
theorem mw {key nonce w s t:NL}(k:KeyOk key)(h:nonce.length=12)(hb:Bytes nonce)(sb:Bytes s)(e:opened key nonce w s=some t):t.length=s.length-16/\Bytes t:=by
 unfold opened at e
 dsimp only at e
 split at e
 ·have e:=Option.some.inj e
  rw[<- e,<- iU (ql k h hb)]
  exact ⟨by rw[gz,length_take];lia,jm k h hb (sb.take _) 0⟩
 ·cases e
theorem wY {p:NL}{x:NL×NL}(e:unp p=some x)(hB:Bytes p):x.1.length<=35/\Bytes x.1/\Bytes x.2/\x.2.length<=3400:=by
 unfold unp at e
 split at e
 ·rename_i h
  cases e
  exact ⟨by rw[length_take];lia,(hB.drop 5).take _,(hB.drop 40).take _,by rw[length_take];lia⟩
 ·cases e
def ii (K:Frag):Sp:=λvs H Q _=>∃(a b c:Addr)(hd sec sl:NL),vs=[.ref a,.ref b,.ref c]/\SqL K H a (nv hd)/\SqL K H b (nv sec)/\SqL K H c (nv sl)/\HdOk hd/\Bytes sec/\sec.length<5000/\Bytes sl/\sl.length=3456/\zt (opn sec hd sl) H Q
abbrev cU:Stmt:=top 87
theorem sc_open_record:FnScope ["head","secret","sealed","packed","record"] ["head","secret","sealed"] (Dg cU):=by walk_at "sc"
theorem qU {f:Addr}{fd:FuncData}(F:Fun K "open_record" "open_record" cU f fd)(T:Txt K mg ad)(C_sum_of:Callee P w K mg base 7 "sum_of" ["kind","data"] (ef K))(C_head_name_sum:Callee P w K mg base 1 "head_name_sum" ["head"] (bq K))(C_open_text:Callee P w K mg base 7 "open_text" ["key","nonce","beside","data"] (jD K))(C_unpack:Callee P w K mg base 3 "unpack" ["packed"] (md K))(C_record_key:Callee P w K mg base 9 "record_key" ["head","secret"] (gq K))(C_record_nonce:Callee P w K mg base 4 "record_nonce" ["head"] (fh K)):FnOk P w K mg base CX0 10 f fd ["head","secret","sealed"] (ii K):=by
 refine F.ok sc_open_record (λvs H Q E h=>?_) (λcdv A outer s H vs Q E hr h=>?_)
 ·k_go0
 refine e_6 h λa b c hd sec sd=>wQ λez ha hb hc ok sB sl dB dl k=>?_;clear h;subst ez
 refine ⟨_,(Df (Dl (i:=3) sc_open_record.nd rfl (Or.inl rfl) (ab C_open_text hr.m rfl (Dd (ab C_record_key hr.m rfl (Dd (pv 0) (Dd (pv 1) De))) (Dd (ab C_record_nonce hr.m rfl (Dd (pv 0) De)) (Dd (pv 0) (Dd (pv 2) De))))))
   (Df (DF (Dt Ez (pv 3) DQ (Dv _)) (Di (Dm DQ)) Dx)
   (Df (Dl (i:=4) sc_open_record.nd rfl (Or.inl rfl) (ab C_unpack hr.m rfl (Dd (pv 3) De)))
   (Df (DF (PW.pt (ER (Dt Ez (pv 4) DQ (Dv _)) (Ex (Dt (kM (K:=K) rfl hr.units) (ab C_sum_of hr.m rfl (Dd Dh (Dd (Du (fZ (K:=K) rfl) (pv 4) Dh (λ_ _=>rfl)) De))) (ab C_head_name_sum hr.m rfl (Dd (pv 0) De)) (Dv _))))) (Di (Dm DQ)) Dx)
   (Di (Dm (pv 4))))))),?_⟩
 have hl:=ok.len
 k_go
 refine i_4 a b hd sec ⟨rfl,ha,hb,ok,sB,sl,λp1 H1 L1=>?_⟩
 w_on
 refine i_2 a hd ⟨rfl,L1.arg ha,ok,λp2 H2 M2=>?_⟩
 have L2:=L1.calls M2
 w_on
 refine i_8 p1 p2 a c _ _ hd sd ⟨rfl,L2.lst 0 rfl,L2.lst 1 rfl,L2.arg ha,L2.arg hc,gQ ok,fA ok,di ok,ok.by_,dB,by lia,by lia,by lia,?_⟩
 unfold opn at k
 cases ho:opened (hG sec hd) (gA hd) hd sd with
 |none=>
  rw[ho] at k
  intro H3 M3
  have L3:=L2.calls M3
  w_end
  w_once
  exact k H3 L3.nil
 |some pk=>
  rw[ho] at k
  intro p3 H3 M3
  have L3:=L2.calls M3
  obtain ⟨pl,pB⟩:=mw (gQ ok) (fA ok) (di ok) dB ho
  w_end
  w_left
  refine i_2 p3 pk ⟨rfl,L3.lst 2 rfl,by lia,pB,?_⟩
  dsimp only at k
  cases hu:unp pk with
  |none=>
   rw[hu] at k
   intro H4 M4
   have L4:=L3.calls M4
   w_end
   w_once
   w_once
   exact k H4 L4.nil
  |some x=>
   rw[hu] at k
   dsimp only at k
   have xo:=wY hu pB
   intro q4 a4 b4 H4 M4
   have L4:=L3.calls M4
   w_end
   w_left
   refine i_4 q4 _ 0 _ ⟨rfl,rfl,SqT.of (L4.get 3 rfl),at_of rfl rfl,?_⟩
   w_on
   refine i_3 1 a4 x.1 ⟨rfl,L4.lst 4 rfl,.inl rfl,xo.2.1,by lia,λp5 H5 M5=>?_⟩
   have L5:=L4.calls M5
   w_on
   refine gp L5 (L5.arg ha) hl λp6 H6 L6=>?_
   refine pE (L6.lst 6 rfl) (L6.lst 7 rfl) ?_
   w_on
   refine gu (λhe=>?_) (λhe=>?_)
   ·rw[if_neg he] at k
    w_on
    exact k H6 L6.nil
   ·rw[if_pos he] at k
    w_on
    exact k q4 a4 b4 H6 (L6.order3 3 4 5 rfl rfl rfl (by decide) (by decide) (by decide))
end
def cN (v0 v1 v2 v3:V):List (Str×V):=[("row_count",v0),("store_id",v1),("sectors",v2),("heads",v3)]
theorem nH {v0 v1 v2 v3:V}:(cN v0 v1 v2 v3).lookup ("store_id" : Str)=some v1:=by rfl
theorem oO {v0 v1 v2 v3:V}:(cN v0 v1 v2 v3).lookup ("sectors" : Str)=some v2:=by rfl
theorem rF {v0 v1 v2 v3:V}:(cN v0 v1 v2 v3).lookup ("heads" : Str)=some v3:=by rfl
theorem my {v0 v1 v2 v3:V}:(cN v0 v1 v2 v3).lookup ("lay_sector" : Str)=none:=by rfl
theorem oG {v0 v1 v2 v3:V}:(cN v0 v1 v2 v3).lookup ("heads_of" : Str)=none:=by rfl
theorem qe {v0 v1 v2 v3:V}:(cN v0 v1 v2 v3).lookup ("head_of" : Str)=none:=by rfl
local macro_rules | `(tactic| walk_at "lk")=>`(tactic| first | exact get_Disk_row_count | exact nH | exact oO | exact rF | exact my | exact no_Disk_copy_sector | exact no_Disk_set_byte | exact no_Disk_clear_row | exact no_Disk_write_row | exact oG | exact no_Disk_is_empty | exact qe | exact no_Disk_data_of | exact no_Disk_greatest_number | exact no_Disk_weighed | rfl)
local macro_rules | `(tactic| walk_at "put")=>`(tactic| ((w_on);(walk_at "fp");(intro H' L');(simp only[put_Disk_row_count,put_Disk_store_id,put_Disk_sectors,put_Disk_heads,set_cons_zero,set_cons_succ] at L');(try w_on)))
section
variable {P:Program}{w:World}{K:Frag}{mg:Str->Option Value}{base:Heap}{ad:Adr}
def HdV (H:Hp)(o:Option (NL))(v:V):Prop:=match o with
 |none=>v=.non
 |some hd=>∃b,v=.ref b/\H b=some (.lst (nv hd))
theorem HdV.mono {H H':Hp}{o:Option (NL)}{v:V}(h:HdV H o v)(e:Same H H'):HdV H' o v:=by
 cases o with
 |none=>exact h
 |some hd=>exact h.imp λb h=>⟨h.1,e _ _ h.2⟩
structure DOk (n:Nat)(id:NL)(ss:LL):Prop where
 idl:id.length=8
 idb:Bytes id
 n1:1<=n
 n3:n<=3
 len:ss.length=12*n
 sec:∀s∈ss,s.length=512/\Bytes s
structure Dk (K:Frag)(ad:Adr)(fr:Addr->Prop)(H:Hp)(x S D:Addr)(n:Nat)(id:NL)(ss:LL):Prop where
 ok:DOk n id ss
 frS:fr S
 frD:fr D
 ne:S≠D
 hav:∀b,fr b->H b≠none
 ins:∃dx a,res H fr x=some (.ins ad.Disk dx (cN (.int (n:Int)) (.ref a) (.ref S) (.ref D)))/\SqL K (res H fr) a (nv id)
 lS:∃as:List Addr,H S=some (.lst (ah as))/\as.length=12*n/\∀(j:Nat)(a:Addr)(s:NL),as[j]? = some a->ss[j]? = some s->res H fr a=some (.lst (nv s))
 lD:∃hv:List V,H D=some (.lst hv)/\hv.length=12*n/\∀(j:Nat)(v:V)(s:NL),hv[j]? = some v->ss[j]? = some s->HdV (res H fr) (rh id (j/12) (j%12) s) v
structure Ch (fr:Addr->Prop)(S D:Addr)(H H':Hp):Prop where
 same:Same (res H fr) (res H' fr)
 hav:∀b,fr b->H' b≠none
 off:∀b,fr b->b≠S->b≠D->H' b=H b
section
variable {fr:Addr->Prop}{S D x:Addr}{H H' H2:Hp}{n:Nat}{id:NL}{ss:LL}{ms:List (Addr×HO)}
theorem Ch.refl (h:∀b,fr b->H b≠none):Ch fr S D H H:=⟨Same.refl _,h,λ_ _ _ _=>rfl⟩
theorem Ch.trans (a:Ch fr S D H H')(b:Ch fr S D H' H2):Ch fr S D H H2:=⟨a.same.trans b.same,b.hav,λc h1 h2 h3=>(b.off c h1 h2 h3).trans (a.off c h1 h2 h3)⟩
theorem Ch.of (hav:∀b,fr b->H b≠none)(e:Same H H'):Ch fr S D H H':=by
 refine ⟨oh e,BD hav e,λb h1 _ _=>?_⟩
 cases hb:H b with
 |none=>exact absurd hb (hav b h1)
 |some o=>exact e b o hb
theorem Ch.seq {a:Addr}{xs:List V}(c:Ch fr S D H H')(h:SqL K (res H fr) a xs):SqL K (res H' fr) a xs:=c.same.seq h
theorem Dk.mono (d:Dk K ad fr H x S D n id ss)(e:Same H H'):Dk K ad fr H' x S D n id ss:=by
 have c:=Ch.of (S:=S) (D:=D) d.hav e
 refine e_2 (d.ins) λdx a=>a_2 λi1 i2=>?_
 refine e_1 (d.lS) λas=>a_3 λs1 s2 s3=>?_
 refine e_1 (d.lD) λhv=>a_3 λt1 t2 t3=>?_
 exact ⟨d.ok,d.frS,d.frD,d.ne,c.hav,⟨dx,a,c.same _ _ i1,c.seq i2⟩,⟨as,e _ _ s1,s2,λj a s h1 h2=>c.same _ _ (s3 j a s h1 h2)⟩,⟨hv,e _ _ t1,t2,λj v s h1 h2=>(t3 j v s h1 h2).mono c.same⟩⟩
theorem Dk.get (d:Dk K ad fr H x S D n id ss):∃dx a,H x=some (.ins ad.Disk dx (cN (.int (n:Int)) (.ref a) (.ref S) (.ref D)))/\SqL K H a (nv id):=by
 refine e_2 (d.ins) λdx a=>a_2 λi1 i2=>?_
 exact ⟨dx,a,(fB i1).2,res_up.seq i2⟩
theorem qP {p:Addr}{o:HO}(hav:∀b,fr b->H b≠none)(h0:H p=none)(h1:H' p=some o):res H' fr p=some o:=by
 rw[d9 λz=>hav p z h0];exact h1
theorem Loc.resn {H0:Hp}{ls:List (Addr×HO)}(L:Loc H0 H' ls)(hav:∀b,fr b->H0 b≠none)(j:Nat){p:Addr}{o:HO}(hj:ls[j]? = some (p,o)):res H' fr p=some o:=qP hav (L.fresh j hj) (L.get j hj)
end
theorem AX {x:V}{n:Nat}{a:Addr}{H H0:Hp}{ls:List (Addr×HO)}{Q:VK}(L:Loc H0 H ls)(j:Nat)(hj:ls[j]? = some (a,.lst [x]))(hn:n<=sizeLine)(q:∀p H',Loc H0 H' (ls++[(p,.lst (replicate n x))])->Q (.ref p) H'):GM (.ref a) (.int (n:Int)) H Q:=by
 have:=sizeLine_eq
 refine ⟨a,n,[x],rfl,rfl,L.get j hj,by lia,by lia,by simp;lia,λp hp=>q p _ ?_⟩
 rw[Int.toNat_natCast,uJ n x]
 exact L.new hp
def gg (n:Nat):LL:=(range (12*n)).map λ_=>replicate 512 0
def jE (K:Frag)(ad:Adr):Sp:=λvs H Q _=>∃(x dx a:Addr)(n:Nat),vs=[.ref x,.int (n:Int),.ref a]/\H x=some (.ins ad.Disk dx [])/\n<=3/\∀H' S D as,as.length=12*n->Loc (er H x) H' ((x,.ins ad.Disk dx (cN (.int (n:Int)) (.ref a) (.ref S) (.ref D))) :: ((S,.lst (ah as)) :: dC as (gg n))++[(D,.lst (replicate (12*n) V.non))])->Q .non H'
abbrev dz:Stmt:=inClass (top 68) 0
theorem sc_Disk_init:FnScope ["self","row_count","store_id","place"] ["self","row_count","store_id"] (Dg dz):=by walk_at "sc"
theorem ug {f:Addr}{fd:FuncData}(F:Fun K "__init__" "Disk.__init__" dz f fd)(T:Txt K mg ad)  : FnOk P w K mg base CX0 1 f fd ["self","row_count","store_id"] (jE K ad):=by
 refine F.ok sc_Disk_init (λvs H Q E h=>?_) (λcdv A outer s H vs Q E hr h=>?_)
 ·k_go0
 refine e_4 h λx dx a n=>a_4 λez hx hn k=>?_;clear h;subst ez
 refine ⟨_,(Df (DL (pv 0) (pv 1) rfl)
   (Df (DL (pv 0) (pv 2) rfl)
   (Df (DL (pv 0) (D0 rfl sc_Disk_init.nd (DK rfl T.n_range (Dd (Dj DY (gI T.g_ROW_SIZE) (pv 1)) De)) (DH (own:=[("place",3)]) (by show DX ["self","row_count","store_id","place"] (Dg dz) _ _=true;decide +kernel)) (λ_ _ _ _ _=>Dr (i:=3) sc_Disk_init.nd rfl (Or.inl rfl)) (λ_ _ _ _ _=>DM) (λ_ _ _ _ _=>(Dj Ef (DA (Dd Dh De)) (gI T.g_SECTOR_SIZE)))) rfl)
   (Di (DL (pv 0) (Dj Ef (DA (Dd DQ De)) (Dj DY (gI T.g_ROW_SIZE) (pv 1))) rfl))))),?_⟩
 walk_at "cDisk"
 have L0:=Loc.self hx
 k_go
 walk_at "fp"
 intro H1 L1
 simp only[set_cons_zero] at L1
 w_on
 walk_at "fp"
 intro H2 L2
 simp only[set_cons_zero] at L2
 w_on
 refine ⟨_,rfl,by lia,by lia,?_⟩
 rw[Int.toNat_natCast]
 refine lC L2 (by rw[sizeLine_eq];lia) (λ_=>replicate 512 0) ?_ ?_
 ·intro i hi H3 R sm r
  w_on
  refine aF (xs:=nv [0]) (Loc.start H3) (by show 1<=sizeLine;decide) λp4 H4 L4=>?_
  w_on
  refine jn L4 0 rfl (by decide) λp5 H5 L5=>?_
  exact r p5 H5 (L5.pick 1 rfl)
 ·intro S as H3 hl L3
  w_on
  refine bY L3 0 rfl cC n_sectors (by walk_at "lt1000") λH4 L4=>?_
  simp only[set_cons_zero,cons_append,nil_append] at L4
  w_on
  refine aF (xs:=[V.non]) (Loc.start H4) (by show 1<=sizeLine;decide) λp5 H5 L5=>?_
  w_on
  refine AX L5 0 rfl (by rw[sizeLine_eq];lia) λp6 H6 L6=>?_
  have L7:=L4.calls (L6.pick 1 rfl)
  w_on
  refine bY L7 0 rfl cC n_heads (by walk_at "lt1000") λH8 L8=>?_
  simp only[set_cons_zero,cons_append,nil_append] at L8
  w_on
  exact k H8 S p6 as hl L8
end
section
variable {P:Program}{w:World}{K:Frag}{mg:Str->Option Value}{base:Heap}{ad:Adr}
def ag (id:NL)(ss:LL)(r:Nat):List (Option (NL)):=(range 12).map λi=>rh id r i (ss.getD (12*r+i) [])
theorem jP (id:NL)(ss:LL)(r:Nat):(ag id ss r).length=12:=by simp[ag]
structure HVs (H:Hp)(os:List (Option (NL)))(vs:List V):Prop where
 len:vs.length=os.length
 at_:∀(j:Nat)(o:Option (NL))(v:V),os[j]? = some o->vs[j]? = some v->HdV H o v
theorem HVs.mono {H H':Hp}{os:List (Option (NL))}{vs:List V}(h:HVs H os vs)(e:Same H H'):HVs H' os vs:=⟨h.len,λj o v h1 h2=>(h.at_ j o v h1 h2).mono e⟩
theorem y6 {xs:List V}{a b:Nat}(hab:a<=b)(h:b<=xs.length):Ej xs (some (a:Int)) (some (b:Int))=(xs.drop a).take (b-a):=by
 have e1:HT.sIx xs.length 0 (some (a:Int))=a:=by
  show (if (a:Int)<0 then ((a:Int)+(xs.length:Int)).toNat else min (a:Int).toNat xs.length)=a
  rw[if_neg (by lia)];lia
 have e2:HT.sIx xs.length xs.length (some (b:Int))=b:=by
  show (if (b:Int)<0 then ((b:Int)+(xs.length:Int)).toNat else min (b:Int).toNat xs.length)=b
  rw[if_neg (by lia)];lia
 unfold Ej
 rw[e1,e2]
theorem Ad {K:Frag}{fr:Addr->Prop}{H:Hp}{hv:List V}{id:NL}{ss:LL}{n r:Nat}(hl:hv.length=12*n)(sl:ss.length=12*n)(hrow':r<n)(h:∀(j:Nat) (v:V) (s:NL),hv[j]? = some v->ss[j]? = some s->HdV (res H fr) (rh id (j/12) (j%12) s) v):HVs (res H fr) (ag id ss r) ((hv.drop (12*r)).take 12):=by
 refine ⟨by rw[jP,length_take,length_drop];lia,λj o v h1 h2=>?_⟩
 have hj:j<12:=by have:=(List.getElem?_eq_some_iff.mp h1).1;rwa [jP] at this
 rw[getElem?_take,if_pos hj,getElem?_drop] at h2
 unfold ag at h1
 rw[getElem?_map,getElem?_range hj] at h1
 have h1:=Option.some.inj h1
 have hs:12*r+j<ss.length:=by lia
 have:=h (12*r+j) v ss[12*r+j] h2 (getElem?_eq_getElem hs)
 rw[show (12*r+j)/12=r by lia,show (12*r+j)%12=j by lia] at this
 rw[<- h1]
 show HdV (res H fr) (rh id r j (ss.getD (12*r+j) [])) v
 rw[getD_eq_getElem?_getD,getElem?_eq_getElem hs]
 exact this
def cO (K:Frag)(ad:Adr):Sp:=λvs H Q _=>∃(fr:Addr->Prop)(x S D:Addr)(n:Nat)(id:NL)(ss:LL)(r:Nat),vs=[.ref x,.int (r:Int)]/\Dk K ad fr H x S D n id ss/\r<n/\∀p us H',Loc H H' [(p,.lst us)]->HVs (res H fr) (ag id ss r) us->Q (.ref p) H'
abbrev cn:Stmt:=inClass (top 68) 6
theorem n6:FnScope ["self","row"] ["self","row"] (Dg cn):=by walk_at "sc"
theorem oC {f:Addr}{fd:FuncData}(F:Fun K "heads_of" "Disk.heads_of" cn f fd)(T:Txt K mg ad)  : FnOk P w K mg base CX0 1 f fd ["self","row"] (cO K ad):=by
 refine F.ok n6 (λvs H Q E h=>?_) (λcdv A outer s H vs Q E hr h=>?_)
 ·k_go0
 refine e_8 h λfr x S D n id ss r=>a_4 λez d hrow' k=>?_;clear h;subst ez
 refine ⟨_,(Di (Dm (DD (aj (K:=K) rfl) (Ds (pv 0) rfl) (Dy (Dj DY (gI T.g_ROW_SIZE) (pv 1))) (Dy (Dj DB (Dj DY (gI T.g_ROW_SIZE) (pv 1)) (gI T.g_ROW_SIZE)))))),?_⟩
 walk_at "cDisk"
 refine e_2 (d.get) λdx a=>a_2 λhx _=>?_
 refine e_1 (d.lD) λhv=>a_3 λhD hl hh=>?_
 have n3:=d.ok.n3
 k_go
 refine ap (Loc.start H) (SqL.of hD) λp H1 L1=>?_
 rw[y6 (by lia) (by lia),show 12*r+12-12*r=12 by lia] at L1
 exact k p _ H1 L1 (Ad (K:=K) hl d.ok.len hrow' hh)
def dOf:Option (NL)->PyData
 |none=>.none
 |some hd=>.list (dts hd)
theorem jl (o:Option (NL)):SeqAt.shaped (dOf o)=true:=by
 cases o with
 |none=>rfl
 |some hd=>exact g8 hd
theorem vN (a b:Option (NL)):PyData.eqv (dOf a) (dOf b)=decide (a=b):=by
 cases a with
 |none=>cases b with
  |none=>rfl
  |some y=>rfl
 |some x=>cases b with
  |none=>rfl
  |some y=>
   show PyData.eqvAll (dts x) (dts y)=_
   rw[m9]
   simp
theorem sI {H:Hp}{o:Option (NL)}{v:V}(h:HdV H o v):Dp K H v (dOf o):=by
 cases o with
 |none=>rw[show v=.non from h];exact .non
 |some hd=>
  refine e_1 h λb=>a_2 λez hb=>?_;clear h;subst ez
  exact .lst (SqL.of hb) (lG hd)
theorem x5 {H:Hp}:∀{os:List (Option (NL))} {vs:List V},HVs H os vs->DpAll K H vs (os.map dOf)
 |[],[],_=>.nil
 |[],_ :: _,h=>by have:=h.len;simp at this
 |_ :: _,[],h=>by have:=h.len;simp at this
 |o :: os,v :: vs,h=>.cons (sI (h.at_ 0 o v rfl rfl)) (x5 ⟨by have:=h.len;simpa using this,λj o' v' h1 h2=>h.at_ (j+1) o' v' h1 h2⟩)
theorem zm {H:Hp}{Q:VK}{p:Addr}{os:List (Option (NL))}{us:List V}{o:Option (NL)}{v:V}(hs:SqL K H p us)(hv:HVs H os us)(hy:HdV H o v)(q:Q (.int ((os.countP λe=>decide (e=o):Nat):Int)) H):wj K (.ref p) [v] H Q:=by
 refine i_5 p us v (dOf o) (os.map dOf) ⟨rfl,rfl,hs,x5 hv,sI hy,jl o,λe he=>?_,?_⟩
 ·refine e_1 (mem_map.mp he) λo'=>a_2 λ_ ez=>?_;subst ez
  exact jl o'
 ·rw[countP_map,show ((λe=>PyData.eqv e (dOf o)) ∘ dOf)=λe=>decide (e=o) from funext λe=>vN e o]
  exact q
def hX (os:List (Option (NL)))(o:Option (NL)):Nat:=os.countP λe=>decide (e=o)
def eC (K:Frag)(ad:Adr):Sp:=λvs H Q _=>∃(fr:Addr->Prop)(x S D:Addr)(n:Nat)(id:NL)(ss:LL)(r:Nat),vs=[.ref x,.int (r:Int)]/\Dk K ad fr H x S D n id ss/\r<n/\∀H' ms,Loc H H' ms->Q (.bl (decide (hX (ag id ss r) none=12))) H'
abbrev ck:Stmt:=inClass (top 68) 7
theorem n4:FnScope ["self","row"] ["self","row"] (Dg ck):=by walk_at "sc"
theorem oA {f:Addr}{fd:FuncData}(F:Fun K "is_empty" "Disk.is_empty" ck f fd)(T:Txt K mg ad)(C_Disk_heads_of:Method P w K mg base 1 ad.Disk "heads_of" ["self","row"] (cO K ad)):FnOk P w K mg base CX0 2 f fd ["self","row"] (eC K ad):=by
 refine F.ok n4 (λvs H Q E h=>?_) (λcdv A outer s H vs Q E hr h=>?_)
 ·k_go0
 refine e_8 h λfr x S D n id ss r=>a_4 λez d hrow' k=>?_;clear h;subst ez
 refine ⟨_,(Di (Dm (Gi D8 (D2 PySem.F.plainAttrs_list PySem.F.slot_list_count PySem.F.type_list_count (kT (K:=K) rfl hr) (ak T.c_Disk C_Disk_heads_of hr.m (pv 0) (Dd (pv 1) De)) (Dd DQ De)) (gI T.g_ROW_SIZE) (Dv _)))),?_⟩
 walk_at "cDisk"
 refine e_2 (d.get) λdx a=>a_2 λhx _=>?_
 k_go
 refine i_8 fr x S D n id ss r ⟨rfl,d,hrow',λp us H1 L1 hv=>?_⟩
 have hp:=L1.lst (K:=K) 0 rfl
 have hv1:=hv.mono (res_up.trans L1.same)
 w_on
 refine zm (o:=none) hp hv1 rfl ?_
 w_on
 exact k H1 _ L1
def iL (os:List (Option (NL)))(o:Option (NL)):Bool:=o.isSome && decide (8<=hX os o)
def aC (os:List (Option (NL))):Option (NL):=(os.find? (iL os)).join
def Cu (fr:Addr->Prop)(o:Option (NL))(H:Hp)(Q:VK):Prop:=match o with
 |none=>∀H' ms,Loc H H' ms->Q .non H'
 |some hd=>∀b H' ms,Loc H H' ms->res H fr b=some (.lst (nv hd))->Q (.ref b) H'
theorem vL {α:Type}{p:α->Bool}{l:List α}{i:Nat}{a:α}(h:l[i]? = some a)(hp:p a=true)(hno:∀j b,j<i->l[j]? = some b->p b=false):l.find? p=some a:=by
 obtain ⟨hi,e⟩:=List.getElem?_eq_some_iff.mp h
 rw[List.find?_eq_some_iff_getElem]
 exact ⟨hp,i,hi,e,λj hj=>by rw[hno j _ hj (getElem?_eq_getElem (by lia))];rfl⟩
def bg (K:Frag)(ad:Adr):Sp:=λvs H Q _=>∃(fr:Addr->Prop)(x S D:Addr)(n:Nat)(id:NL)(ss:LL)(r:Nat),vs=[.ref x,.int (r:Int)]/\Dk K ad fr H x S D n id ss/\r<n/\Cu fr (aC (ag id ss r)) H Q
abbrev cK:Stmt:=inClass (top 68) 8
theorem sc_Disk_head_of:FnScope ["self","row","heads","head"] ["self","row"] (Dg cK):=by walk_at "sc"
theorem pZ {f:Addr}{fd:FuncData}(F:Fun K "head_of" "Disk.head_of" cK f fd)(T:Txt K mg ad)(C_Disk_heads_of:Method P w K mg base 1 ad.Disk "heads_of" ["self","row"] (cO K ad)):FnOk P w K mg base CX0 2 f fd ["self","row"] (bg K ad):=by
 refine F.ok sc_Disk_head_of (λvs H Q E h=>?_) (λcdv A outer s H vs Q E hr h=>?_)
 ·k_go0
 refine e_8 h λfr x S D n id ss r=>a_4 λez d hrow' k=>?_;clear h;subst ez
 refine ⟨_,(Df (Dl (i:=2) sc_Disk_head_of.nd rfl (Or.inl rfl) (ak T.c_Disk C_Disk_heads_of hr.m (pv 0) (Dd (pv 1) De)))
   (Df (DN PassesOwn.never rfl (DR (pv 2)) (Dr (i:=3) sc_Disk_head_of.nd rfl (Or.inl rfl)) (Di (DF (PW.pt (EL (Dt E7 (pv 3) DQ (Dv _)) (EK (Dt Fl (D2 PySem.F.plainAttrs_list PySem.F.slot_list_count PySem.F.type_list_count (kT (K:=K) rfl hr) (pv 2) (Dd (pv 3) De)) (gI T.g_DATA_SHARES) (Dv _))))) (Di (Dm (pv 3))) Dx)))
   (Di (Dm DQ)))),?_⟩
 walk_at "cDisk"
 refine e_2 (d.get) λdx a=>a_2 λhx _=>?_
 k_go
 refine i_8 fr x S D n id ss r ⟨rfl,d,hrow',λp us H1 L1 hv=>?_⟩
 have hp:=L1.lst (K:=K) 0 rfl
 have hv1:=hv.mono (res_up.trans L1.same)
 generalize ag id ss r=os at *
 w_on
 refine ja (xs:=us) (λi σ H'=>(∃(v3:Option V),σ = [some (.ref x),some (.int (r:Int)),some (.ref p),v3])/\Loc H1 H' []/\∀j o,j<i->os[j]? = some o->iL os o=false) ⟨⟨_,rfl⟩,Loc.start H1,λj o h=>absurd h (not_lt_zero _)⟩ (λi σ H' _ h=>h.2.1.arg hp) ?_ ?_
 ·rintro i v σ H2 hi ⟨⟨v3,rfl⟩,L2,hno⟩
  obtain ⟨o,ho⟩:∃o,os[i]? = some o:=⟨os[i]'(by rw[<- hv.len];exact (List.getElem?_eq_some_iff.mp hi).1),getElem?_eq_getElem _⟩
  have hvi:=hv.at_ i o v ho hi
  have hp2:=L2.arg hp
  w_end
  cases o with
  |none=>
   rw[show v=.non from hvi]
   refine ite_ff ?_
   w_left
   refine ⟨⟨_,rfl⟩,L2,λj o hj h=>?_⟩
   rcases lt_succ_iff_lt_or_eq.mp hj with hj|rfl
   ·exact hno j o hj h
   ·rw[ho] at h;cases h;rfl
  |some hd=>
   refine e_1 hvi λb=>a_2 λez hb=>?_;clear hvi;subst ez
   refine ite_tt ?_
   w_on
   refine zm (o:=some hd) hp2 (hv1.mono L2.same) ⟨b,rfl,L2.same _ _ (L1.same _ _ (res_up _ _ hb))⟩ ?_
   w_on
   refine bZ (λhc=>?_) (λhc=>?_)
   ·w_on
    have e:aC os=some hd:=by
     unfold aC
     rw[vL ho (by unfold iL hX;rw[decide_eq_true hc];rfl) hno]
     rfl
    rw[e] at k
    exact k b H2 _ (L1.calls L2) hb
   ·w_on
    refine ⟨⟨_,rfl⟩,L2,λj o hj h=>?_⟩
    rcases lt_succ_iff_lt_or_eq.mp hj with hj|rfl
    ·exact hno j o hj h
    ·rw[ho] at h
     cases h
     unfold iL hX
     rw[decide_eq_false hc]
     rfl
 ·rintro σ H2 ⟨⟨v3,rfl⟩,L2,hno⟩
  w_on
  have e:aC os=none:=by
   unfold aC
   rw[find?_eq_none.mpr]
   ·rfl
   ·intro o ho
    obtain ⟨j,hj⟩:=getElem?_of_mem ho
    rw[hno j o (by rw[hv.len];exact (List.getElem?_eq_some_iff.mp hj).1) hj]
    exact Bool.false_ne_true
  rw[e] at k
  exact k H2 _ (L1.calls L2)
end
section
variable {s:Nat}{te:TE}{tt:TT}{σ:L2.St}{H H0 H1:Hp}{K:Frag}{a:Addr}{Q:VK}{ls:List (Addr×HO)}
theorem Cm {n:Nat}{f:Nat->Nat}{cnd:Nat->Bool}{J:It}(L:Loc H0 H1 ls)(hz:n<=sizeLine)(xv:Nat->V)
  (hgo:∀(i:Nat)(H:Hp),i<n->Same H1 H->J.go i H) (hstop:∀(H:Hp),Same H1 H->J.stop n H) (hy:∀(i:Nat)(H H':Hp)(x:V),i<n->Same H1 H->J.yld i H x H'->H'=H/\x=xv i)
  (ht:∀(i:Nat),i<n->∀(H:Hp)(R:Bool->Hp->Prop),Same H1 H->R (cnd i) H->tt ((σ.set s none).set s (some (xv i))) H R)
  (he:∀(i:Nat),i<n->cnd i=true->∀(H:Hp)(R:VK),Same H1 H->(∀H' ms,Loc H H' ms->R (.int ((f i:Nat):Int)) H')->te ((σ.set s none).set s (some (xv i))) H R)
  (q:∀D H',Loc H0 H' (ls++[(D,.lst (nv (((range n).filter cnd).map f)))])->Q (.ref D) H'):gH J (D4 s) tt te [s] σ H1 Q:=by
 intro D hD
 refine ⟨λi m H=>m=n-i/\i<=n/\Loc H1 H [(D,.lst (nv (((range i).filter cnd).map f)))],⟨n,by simp,zero_le _,Loc.one hD⟩,?_⟩
 rintro i m H ⟨rfl,hi,M⟩
 by_cases hlt:i<n
 ·refine .inr ⟨hgo i H hlt M.same,λH'=>Loc H1 H' [(D,.lst (nv (((range (i+1)).filter cnd).map f)))],λH' M'=>⟨n-(i+1),by lia,rfl,hlt,M'⟩,λx H' y=>?_⟩
  obtain ⟨rfl,rfl⟩:=hy i H H' x hlt M.same y
  refine ⟨gK σ s _,ht i hlt _ _ M.same ?_⟩
  rw[range_succ,filter_append,map_append]
  cases e:cnd i with
  |true=>
   refine ite_tt (he i hlt e _ _ M.same λH2 ms M2=>?_)
   have M3:=M.calls M2
   refine ⟨_,M3.get 0 rfl,?_,?_⟩
   ·rw[aw,length_map]
    have:=length_filter_le cnd (range i)
    rw[length_range] at this
    lia
   ·have:=M3.put (o':=.lst (nv (((range i).filter cnd).map f)++[.int ((f i:Nat):Int)])) 0 rfl
    rw[de] at this
    rw[de,show [i].filter cnd=[i] by simp[e]]
    exact this.take 1
  |false=>
   refine ite_ff ?_
   rw[show [i].filter cnd=[] by simp[e],map_nil,append_nil]
   exact M
 ·have e:i=n:=by lia
  subst e
  exact .inl ⟨hstop H M.same,q D H (L.calls M)⟩
end
section
variable {P:Program}{w:World}{K:Frag}{mg:Str->Option Value}{base:Heap}{ad:Adr}
def fI (id:NL)(ss:LL)(j:Nat):Option (NL):=rh id (j/12) (j%12) (ss.getD j [])
def rE (id:NL)(ss:LL)(n:Nat):Nat:=(((range (12*n)).filter λj=>(fI id ss j).isSome).map λj=>(hOf ((fI id ss j).getD [])).number).foldl max 0
theorem bG {n:Nat}{id:NL}{ss:LL}(ok:DOk n id ss){j:Nat}(h:j<12*n):ss[j]? = some (ss.getD j [])/\(ss.getD j []).length=512/\Bytes (ss.getD j []):=by
 have hj:j<ss.length:=by rw[ok.len];exact h
 have e:ss.getD j []=ss[j]:=by rw[getD_eq_getElem?_getD,getElem?_eq_getElem hj];rfl
 rw[e]
 exact ⟨getElem?_eq_getElem hj,ok.sec _ (getElem_mem hj)⟩
theorem vJ {n:Nat}{id:NL}{ss:LL}(ok:DOk n id ss){j:Nat}(h:j<12*n){hd:NL}(e:fI id ss j=some hd):HdOk hd:=by
 obtain ⟨_,h1,h2⟩:=bG ok h
 obtain ⟨e1,e2,e3,e4⟩:=mX h1 ok.idl e
 exact ⟨e4,by rw[e3];exact h2.part 37 43,e2⟩
theorem A2 {σ:L2.St}{H:Hp}{Q:VK}{t tk:TA}(q:t σ H λvs H1=>tk σ H1 λys H2=>zn K vs ys H2 Q):zj K t tk σ H Q:=q
def cQ (K:Frag)(ad:Adr):Sp:=λvs H Q _=>∃(fr:Addr->Prop)(x S D:Addr)(n:Nat)(id:NL)(ss:LL),vs=[.ref x]/\Dk K ad fr H x S D n id ss/\∀H' ms,Loc H H' ms->Q (.int ((rE id ss n:Nat):Int)) H'
abbrev aD:Stmt:=inClass (top 68) 10
theorem sc_Disk_greatest_number:FnScope ["self","head"] ["self"] (Dg aD):=by walk_at "sc"
theorem jX {f:Addr}{fd:FuncData}(F:Fun K "greatest_number" "Disk.greatest_number" aD f fd)(T:Txt K mg ad)(C_head_number:Callee P w K mg base 3 "head_number" ["head"] (aW K)):FnOk P w K mg base CX0 4 f fd ["self"] (cQ K ad):=by
 refine F.ok sc_Disk_greatest_number (λvs H Q E h=>?_) (λcdv A outer s H vs Q E hr h=>?_)
 ·k_go0
 refine e_7 h λfr x S D n id ss=>a_3 λez d k=>?_;clear h;subst ez
 refine ⟨_,(Di (Dm (zQ (K:=K) rfl rfl rfl T.n_max (Dd (D0 rfl sc_Disk_greatest_number.nd (DR (Ds (pv 0) rfl)) (DH (own:=[("head",1)]) (by show DX ["self","head"] (Dg aD) _ _=true;decide +kernel)) (λ_ _ _ _ _=>Dr (i:=1) sc_Disk_greatest_number.nd rfl (Or.inl rfl)) (λ_ _ _ _ _=>(Fx (Dt E7 (pv 1) DQ (Dv _)))) (λ_ _ _ _ _=>(ab C_head_number hr.m rfl (Dd (pv 1) De)))) De) (pk_cons Dh pk_nil)))),?_⟩
 walk_at "cDisk"
 refine e_2 (d.get) λdx a=>a_2 λhx _=>?_
 refine e_1 (d.lD) λhv=>a_3 λhD hl hh=>?_
 have n3:=d.ok.n3
 have hs:SqL K H D hv:=SqL.of hD
 k_go
 refine A2 ?_
 w_on
 have hat:∀j,j<12*n->hv[j]? = some (hv.getD j .non):=λj hj=>by rw[getD_eq_getElem?_getD,getElem?_eq_getElem (by lia)];rfl
 refine Cm (n:=12*n) (cnd:=λj=>(fI id ss j).isSome) (f:=λj=>(hOf ((fI id ss j).getD [])).number) (Loc.start H) (by rw[sizeLine_eq];lia) (λj=>hv.getD j .non) (λi H' hi sm=>⟨_,_,sm.seq hs,hat i hi⟩) (λH' sm=>⟨_,sm.seq hs,by lia⟩) (λi H1 H2 v hi sm y=>⟨y.1,Option.some.inj ((y.2 _ (sm.seq hs)).symm.trans (hat i hi))⟩) ?_ ?_ ?_
 ·intro i hi H1 R sm r
  have hd:=hh i _ _ (hat i hi) (bG d.ok hi).1
  w_end
  have e:(fI id ss i).isSome = !decide (hv.getD i V.non=V.non):=by
   unfold fI
   cases ho:rh id (i/12) (i%12) (ss.getD i []) with
   |none=>
    rw[ho] at hd
    rw[show hv.getD i V.non=V.non from hd]
    rfl
   |some h'=>
    rw[ho] at hd
    refine e_1 hd λb=>a_2 λe _=>?_;clear hd
    rw[e]
    rfl
  rw[e] at r
  exact r
 ·intro i hi hc H1 R sm r
  have hd:=hh i _ _ (hat i hi) (bG d.ok hi).1
  obtain ⟨h',ho⟩:=Option.isSome_iff_exists.mp hc
  have ok:=vJ d.ok hi ho
  unfold fI at ho
  rw[ho] at hd
  refine e_1 hd λb=>a_2 λe hb=>?_;clear hd
  rw[e]
  w_on
  refine bf (Loc.start H1) (SqL.of (sm _ _ (res_up _ _ hb))) ok.len ok.by_ λH2 L2=>?_
  have:=r H2 _ L2
  unfold fI at this
  rw[ho] at this
  exact this
 ·intro E H1 L1
  w_on
  refine i_2 E _ ⟨rfl,rfl,L1.lst 0 rfl,?_⟩
  exact k H1 _ L1
def dq:Nat->NL->Nat
 |_,[]=>0
 |u,x :: xs=>(u+1)*x+dq (u+1) xs
theorem sM:∀(xs ys:NL)(u:Nat),dq u (xs++ys)=dq u xs+dq (u+xs.length) ys
 |[],ys,u=>by simp[dq]
 |x :: xs,ys,u=>by
  rw[cons_append,dq,dq,sM xs ys (u+1),length_cons,show u+1+xs.length=u+(xs.length+1) by lia]
  lia
theorem Co {ss:LL}:(∀s∈ss,s.length=512)->ss.flatten.length=512*ss.length:=by
 induction ss with
 |nil=>intro _;rfl
 |cons s ss ih=>
  intro h
  rw[flatten_cons,length_append,ih λs hs=>h s (mem_cons_of_mem _ hs),h s mem_cons_self,length_cons]
  lia
theorem vV {α:Type}{xs:List α}{i:Nat}{x:α}(h:xs[i]? = some x):xs.take (i+1)=xs.take i++[x]:=by
 rw[List.take_add_one,h];rfl
def g5 (K:Frag)(ad:Adr):Sp:=λvs H Q _=>∃(fr:Addr->Prop)(x S D:Addr)(n:Nat)(id:NL)(ss:LL),vs=[.ref x]/\Dk K ad fr H x S D n id ss/\Q (.int ((dq 0 ss.flatten%2 ^ 32:Nat):Int)) H
abbrev cJ:Stmt:=inClass (top 68) 11
theorem sc_Disk_weighed:FnScope ["self","total","weight","sector","byte"] ["self"] (Dg cJ):=by walk_at "sc"
theorem pY {f:Addr}{fd:FuncData}(F:Fun K "weighed" "Disk.weighed" cJ f fd)(T:Txt K mg ad)  : FnOk P w K mg base CX0 1 f fd ["self"] (g5 K ad):=by
 refine F.ok sc_Disk_weighed (λvs H Q E h=>?_) (λcdv A outer s H vs Q E hr h=>?_)
 ·k_go0
 refine e_7 h λfr x S D n id ss=>a_3 λez d k=>?_;clear h;subst ez
 refine ⟨_,(Df (Dl (i:=1) sc_Disk_weighed.nd rfl (Or.inl rfl) Dh)
   (Df (Dl (i:=2) sc_Disk_weighed.nd rfl (Or.inl rfl) Dh)
   (Df (DN PassesOwn.never rfl (DR (Ds (pv 0) rfl)) (Dr (i:=3) sc_Disk_weighed.nd rfl (Or.inl rfl)) (Di (DN PassesOwn.never rfl (DR (pv 3)) (Dr (i:=4) sc_Disk_weighed.nd rfl (Or.inl rfl)) (Df (Dl (i:=2) sc_Disk_weighed.nd rfl (Or.inl rfl) (Dj DB (pv 2) Dh))
   (Di (Dl (i:=1) sc_Disk_weighed.nd rfl (Or.inl rfl) (Dj DB (pv 1) (Dj DY (pv 2) (pv 4)))))))))
   (Di (Dm (Dj Eg (pv 1) (gI T.g_SUM_RANGE))))))),?_⟩
 walk_at "cDisk"
 refine e_2 (d.get) λdx a=>a_2 λhx _=>?_
 refine e_1 (d.lS) λas=>a_3 λhS hl ha=>?_
 have n3:=d.ok.n3
 have hs:SqL K H S (ah as):=SqL.of hS
 k_go
 refine ja (xs:=ah as) (λi σ H'=>∃(v3 v4:Option V),σ = [some (.ref x),some (.int ((dq 0 (ss.take i).flatten:Nat):Int)),some (.int ((512*i:Nat):Int)),v3,v4]/\H'=H) ⟨_,_,rfl,rfl⟩ (λi σ H' _ ⟨_,_,_,e⟩=>e ▸ hs) ?_ ?_
 ·refine λi v σ H2 hi ez9=>e_2 ez9 λv3 v4=>a_2 λez ey=>?_;clear ez9;subst ez;subst ey
  have hil:i<12*n:=by have:=(List.getElem?_eq_some_iff.mp hi).1;rwa [aJ,hl] at this
  obtain ⟨g1,g2,g3⟩:=bG d.ok hil
  obtain ⟨b,hb⟩:∃b,as[i]? = some b:=⟨as[i]'(by lia),getElem?_eq_getElem _⟩
  have hv:v=.ref b:=by
   unfold ah at hi
   rw[getElem?_map,hb] at hi
   exact (Option.some.inj hi).symm
  subst hv
  have hsb:SqL K H2 b (nv (ss.getD i [])):=SqL.of (res_up _ _ (ha i b _ hb g1))
  have tl:(ss.take i).flatten.length=512*i:=by
   rw[Co λs h=>(d.ok.sec s (mem_of_mem_take h)).1,length_take,d.ok.len,min_eq_left (by lia)]
  rw[vV g1,flatten_append,flatten_cons,flatten_nil,append_nil]
  generalize ss.getD i []=sc at *
  w_on
  refine ja (xs:=nv sc) (λm σ H'=>∃(v4:Option V),σ = [some (.ref x),some (.int ((dq 0 ((ss.take i).flatten++sc.take m):Nat):Int)),some (.int ((512*i+m:Nat):Int)),some (.ref b),v4]/\H'=H2) ⟨v4,by simp,rfl⟩ (λm σ H' _ ⟨_,_,e⟩=>e ▸ hsb) ?_ ?_
  ·refine λm y σ H3 hm ez9=>e_1 ez9 λv4=>a_2 λez ey=>?_;clear ez9;subst ez;subst ey
   obtain ⟨hml,rfl⟩:=ca hm
   w_on
   refine ⟨some (.int ((sc.getD m 0:Nat):Int)),?_,rfl⟩
   have e:dq 0 ((ss.take i).flatten++sc.take m)+(512*i+m+1)*sc.getD m 0=dq 0 ((ss.take i).flatten++sc.take (m+1)):=by
    rw[ji hml,<- append_assoc,sM _ [sc.getD m 0],zero_add,length_append,tl,length_take,min_eq_left (by lia)]
    simp[dq]
   rw[e]
   rfl
  ·refine λσ H3 ez9=>e_1 ez9 λv4=>a_2 λez ey=>?_;clear ez9;subst ez;subst ey
   rw[aw,take_length,g2]
   exact ⟨_,_,by rw[show 512*(i+1)=512*i+512 by lia],rfl⟩
 ·refine λσ H2 ez9=>e_2 ez9 λv3 v4=>a_2 λez ey=>?_;clear ez9;subst ez;subst ey
  rw[aJ,hl,take_of_length_le (by rw[d.ok.len];exact le_refl _)]
  w_on
  exact k
theorem x9 (l:NL)(n:Nat):bitsOf (l++[n])=bitsOf l+2 ^ n:=by
 unfold bitsOf
 rw[map_append,foldl_append]
 rfl
theorem nP (p:Nat->Bool):∀n,bitsOf ((range n).filter p)<2 ^ n/\∀i,(bitsOf ((range n).filter p)).testBit i=(decide (i<n) && p i)
 |0=>⟨Nat.one_pos,λi=>by simp[bitsOf]⟩
 |n+1=>by
  obtain ⟨h1,h2⟩:=nP p n
  rw[range_succ,filter_append]
  cases hp:p n with
  |true=>
   rw[show [n].filter p=[n] by simp[hp],x9]
   have hlt:bitsOf ((range n).filter p)+2 ^ n<2 ^ (n+1):=by rw[pow_succ];lia
   refine ⟨hlt,λi=>?_⟩
   rcases Nat.lt_trichotomy i n with h|h|h
   ·rw[add_comm,Nat.testBit_two_pow_add_gt h,h2,decide_eq_true h,decide_eq_true (show i<n+1 by lia)]
   ·subst h
    rw[add_comm,Nat.testBit_two_pow_add_eq,h2,decide_eq_false (Nat.lt_irrefl i),hp,decide_eq_true (Nat.lt_succ_self i)]
    rfl
   ·rw[Nat.testBit_lt_two_pow (lt_of_lt_of_le hlt (pow_le_pow_right (by decide) h)),decide_eq_false (by lia),Bool.false_and]
  |false=>
   rw[show [n].filter p=[] by simp[hp],append_nil]
   refine ⟨lt_of_lt_of_le h1 (pow_le_pow_right (by decide) (Nat.le_succ n)),λi=>?_⟩
   rw[h2]
   by_cases h:i=n
   ·subst h
    rw[hp,Bool.and_false,Bool.and_false]
   ·congr 1
    exact decide_eq_decide.mpr (by lia)
theorem km (p:Nat->Bool)(n:Nat):places n (bitsOf ((range n).filter p))=(range n).filter p:=by
 unfold places
 refine filter_congr λi hi=>?_
 rw[(nP p n).2,decide_eq_true (mem_range.mp hi),Bool.true_and]
theorem wt {α:Type}(l:List α)(d:α):(range l.length).map (λi=>l.getD i d)=l:=by
 refine ext_getElem (by simp) λi h1 h2=>?_
 simp only[getElem_map,getElem_range]
 rw[getD_eq_getElem?_getD,getElem?_eq_getElem h2]
 rfl
def plH (os:List (Option (NL)))(hd:NL):NL:=(range 12).filter λi=>decide (os.getD i none=some hd)
theorem qR {os:List (Option (NL))}(hl:os.length=12)(hd:NL):(plH os hd).length=hX os (some hd):=by
 unfold plH hX
 conv=>rhs;rw[<- wt os none]
 rw[countP_map,List.countP_eq_length_filter,hl]
 rfl
theorem i9 {os:List (Option (NL))}{hd:NL}(h:aC os=some hd):8<=hX os (some hd)/\some hd∈os:=by
 unfold aC at h
 refine e_1 (Option.join_eq_some_iff.mp h |> λh=>(⟨some hd,h,rfl⟩:∃o,os.find? (iL os)=some o/\o=some hd)) λo=>a_2 λh1 h2=>?_
 subst h2
 have h3:=find?_some h1
 unfold iL at h3
 rw[Bool.and_eq_true,decide_eq_true_iff] at h3
 exact ⟨h3.2,mem_of_find?_eq_some h1⟩
def shs (ss:LL)(r:Nat):LL:=(range 12).map λi=>(ss.getD (12*r+i) []).drop 80
@[irreducible] def bH (id:NL) (ss:LL) (r:Nat) (hd:NL):LL:=solve 8 (((plH (ag id ss r) hd).take 8).map λ(s:Nat)=>(rowFor 8 s,(shs ss r).getD s []))
theorem B7 {H:Hp}{Q:VK}{p:Addr}{us:List V}{n:Nat}{v:V}(hs:SqL K H p us)(h:us[n]? = some v)(q:Q v H):Fw K (.ref p) (.int (n:Int)) H Q:=
 ⟨p,_,n,_,rfl,rfl,hs,at_of rfl h,q⟩
theorem Ce {H:Hp}{Q:VK}{a b:Option (NL)}{u v:V}(h1:HdV H a u)(h2:HdV H b v)(q:Q (.bl (decide (a=b))) H):Gz K u v H Q:=
 ⟨dOf a,dOf b,sI h1,sI h2,jl a,jl b,by rw[vN];exact q⟩
def fk (K:Frag)(ad:Adr):Sp:=λvs H Q _=>∃(fr:Addr->Prop)(x S D:Addr)(n:Nat)(id:NL)(ss:LL)(r:Nat)(hd:NL),vs=[.ref x,.int (r:Int)]/\Dk K ad fr H x S D n id ss/\r<n/\aC (ag id ss r)=some hd/\∀p bs H' ms,Loc H H' ms->Rows K H' p bs (bH id ss r hd)->(H p=none/\∀b∈bs,H b=none)->Q (.ref p) H'
abbrev bz:Stmt:=inClass (top 68) 9
theorem sc_Disk_data_of:FnScope ["self","row","head","heads","places","shares","place"] ["self","row"] (Dg bz):=by walk_at "sc"
theorem p0 {f:Addr}{fd:FuncData}(F:Fun K "data_of" "Disk.data_of" bz f fd)(T:Txt K mg ad)(C_share_of:Callee P w K mg base 1 "share_of" ["sector"] (iG K))(C_tell_data:Callee P w K mg base 5 "tell_data" ["k","places","shares"] (jC K))(C_Disk_heads_of:Method P w K mg base 1 ad.Disk "heads_of" ["self","row"] (cO K ad))(C_Disk_head_of:Method P w K mg base 2 ad.Disk "head_of" ["self","row"] (bg K ad)):FnOk P w K mg base CX0 6 f fd ["self","row"] (fk K ad):=by
 refine F.ok sc_Disk_data_of (λvs H Q E h=>?_) (λcdv A outer s H vs Q E hr h=>?_)
 ·k_go0
 refine e_9 h λfr x S D n id ss r hd=>a_5 λez d hr' hh k=>?_;clear h;subst ez
 refine ⟨_,(Df (Dl (i:=2) sc_Disk_data_of.nd rfl (Or.inr rfl) (ak T.c_Disk C_Disk_head_of hr.m (pv 0) (Dd (pv 1) De)))
   (Df (Dl (i:=3) sc_Disk_data_of.nd rfl (Or.inr rfl) (ak T.c_Disk C_Disk_heads_of hr.m (pv 0) (Dd (pv 1) De)))
   (Df (Ei (i:=4) rfl sc_Disk_data_of.nd rfl rfl (El rfl rfl rfl rfl) (DK rfl T.n_range (Dd (gI T.g_ROW_SIZE) De)) (DH (own:=[("place",6)]) (by show DX ["self","row","head","heads","places","shares","place"] (Dg bz) _ _=true;decide +kernel)) (λ_ _ _ _ _=>Dr (i:=6) sc_Disk_data_of.nd rfl (Or.inl rfl)) (λ_ _ _ _ _=>(Fx (Dt (m3 (K:=K) rfl hr.units) (Du (ae (K:=K) rfl) (pv 3) (pv 6) (λ_ _=>rfl)) (pv 2) (Dv _)))) (λ_ _ _ _ _=>(pv 6)))
   (Df (Ei (i:=5) rfl sc_Disk_data_of.nd rfl rfl (El rfl rfl rfl rfl) (DK rfl T.n_range (Dd (gI T.g_ROW_SIZE) De)) (DH (own:=[("place",6)]) (by show DX ["self","row","head","heads","places","shares","place"] (Dg bz) _ _=true;decide +kernel)) (λ_ _ _ _ _=>Dr (i:=6) sc_Disk_data_of.nd rfl (Or.inl rfl)) (λ_ _ _ _ _=>DM) (λ_ _ _ _ _=>(ab C_share_of hr.m rfl (Dd (Du (ae (K:=K) rfl) (zR (K:=K) rfl (pv 0) rfl) (Dj DB (Dj DY (gI T.g_ROW_SIZE) (pv 1)) (pv 6)) (λ_ _=>rfl)) De))))
   (Di (Dm (ab C_tell_data hr.m rfl (Dd (gI T.g_DATA_SHARES) (Dd (DD (aj (K:=K) rfl) (pv 4) DP (Dy (gI T.g_DATA_SHARES))) (Dd (pv 5) De)))))))))),?_⟩
 walk_at "cDisk"
 refine e_2 (d.get) λdx a=>a_2 λhx _=>?_
 refine e_1 (d.lS) λas=>a_3 λhS hl ha=>?_
 have n3:=d.ok.n3
 have hc:=(i9 hh).1
 unfold bH at k
 have ol:=jP id ss r
 k_go
 refine i_8 fr x S D n id ss r ⟨rfl,d,hr',?_⟩
 rw[hh]
 intro b H1 ms L1 hb
 have hx1:=L1.same _ _ hx
 w_on
 refine i_8 fr x S D n id ss r ⟨rfl,d.mono L1.same,hr',λp2 us H2 L2 hv=>?_⟩
 have sm2:=L1.same.trans L2.same
 have hv2:=hv.mono (res_up.trans L2.same)
 have hb2:HdV H2 (some hd) (.ref b):=⟨b,rfl,sm2 _ _ (res_up _ _ hb)⟩
 have hp2:=L2.lst (K:=K) 0 rfl
 generalize ag id ss r=os at *
 w_on
 refine ⟨_,rfl,by decide,by decide,?_⟩
 refine Ck (n:=12) (Loc.start H2) (by decide) (λi=>decide (os.getD i none=some hd)) ?_ ?_ ?_
 ·intro i hi H3 D3 o3 R M3 q
  obtain ⟨v,hvi⟩:∃v,us[i]? = some v:=⟨us[i]'(by rw[hv.len,ol];exact hi),getElem?_eq_getElem _⟩
  have hoi:os[i]? = some (os.getD i none):=by rw[getD_eq_getElem?_getD,getElem?_eq_getElem (by lia)];rfl
  w_on
  refine B7 (M3.same.seq hp2) hvi ?_
  w_on
  refine Ce ((hv2.at_ i _ v hoi hvi).mono M3.same) (hb2.mono M3.same) ?_
  w_on
  exact q
 ·intro i hi H3 D3 o3 R M3 q
  w_on
  exact q
 ·intro p3 H3 L3
  have L3:Loc H2 H3 [(p3,.lst (nv (plH os hd)))]:=L3
  have sm3:=sm2.trans L3.same
  have hx3:=sm3 _ _ hx
  w_on
  refine ⟨_,rfl,by decide,by decide,?_⟩
  refine lC (n:=12) L3 (by decide) (λi=>(ss.getD (12*r+i) []).drop 80) ?_ ?_
  ·intro i hi H4 R sm4 q
   have sm:=sm3.trans sm4
   have hx4:=sm _ _ hx
   obtain ⟨g1,g2,g3⟩:=bG d.ok (show 12*r+i<12*n by lia)
   obtain ⟨c,hc'⟩:∃c,as[12*r+i]? = some c:=⟨as[12*r+i]'(by lia),getElem?_eq_getElem _⟩
   rw[show (0:Int)+(i:Int)=(i:Int) by lia]
   w_on
   refine fX (as:=as) (SqL.of (sm _ _ hS)) hc' ?_
   w_on
   exact i_2 c _ ⟨rfl,SqL.of (sm _ _ (res_up _ _ (ha _ c _ hc' g1))),g2,q⟩
  ·intro p4 bs H4 bl L4
   have pl:=qR ol hd
   have hP:=L4.lst (K:=K) 0 rfl
   have hR:Rows K H4 p4 bs (shs ss r):=L4.rows (L4.lst 1 rfl) (by simp[shs,bl]) (λy hy=>mem_cons_of_mem _ (mem_cons_of_mem _ hy))
   w_on
   refine ap (Loc.start H4) hP λp5 H5 M5=>?_
   rw[gE (by decide) (by rw[pl];lia),Int.toNat_natCast] at M5
   have ep:places (8+4) (bitsOf (plH os hd))=plH os hd:=km _ 12
   w_on
   refine i_8 p5 p4 bs (shs ss r) 8 4 (bitsOf (plH os hd)) 432 ⟨rfl,by rw[ep];exact M5.lst 0 rfl,hR.mono M5.same,by simp[shs],?_,by decide,by decide,by decide,by rw[ep,pl];exact hc,λp6 cs H6 ms6 M6 hR6 hN6=>?_⟩
   ·intro y hy
    unfold shs at hy
    refine e_1 (mem_map.mp hy) λi=>a_2 λhi ez=>?_;subst ez
    rw[mem_range] at hi
    obtain ⟨g1,g2,g3⟩:=bG d.ok (show 12*r+i<12*n by lia)
    exact ⟨by rw[length_drop,g2],g3.drop 80⟩
   ·rw[ep] at hR6
    have sm5:=((L1.calls L2).calls L4).same.trans M5.same
    exact k p6 cs H6 _ ((((L1.calls L2).calls L4).calls M5).calls M6) hR6 ⟨sm5.free hN6.1,λb hb=>sm5.free (hN6.2 b hb)⟩
end
section
variable {P:Program}{w:World}{K:Frag}{mg:Str->Option Value}{base:Heap}{ad:Adr}
theorem kL {H:Hp}{fr:Addr->Prop}{p:Addr}{o:HO}(h:fr p):res (upd H p o) fr=res H fr:=funext λb=>by
 by_cases hb:fr b
 ·unfold res;rw[if_pos hb,if_pos hb]
 ·unfold res;rw[if_neg hb,if_neg hb,Dz (show b≠p from λe=>hb (by rw[e];exact h))]
theorem tV {H H':Hp}{fr:Addr->Prop}{p:Addr}{bs:List Addr}{R:LL}(hav:∀b,fr b->H b≠none)(h:Rows K H' p bs R)(hp:H p=none)(hb:∀b∈bs,¬ fr b)(sm:Same H H'):Rows K (res H' fr) p bs R:=by
 have np:¬ fr p:=λz=>hav p z hp
 refine ⟨?_,h.len,λi a r h1 h2=>?_⟩
 ·rcases h.lst with (h|⟨o,h⟩)|h
  ·exact .inl (.inl (by rw[d9 np];exact h))
  ·exact .inl (.inr ⟨o,by rw[d9 np];exact h⟩)
  ·exact .inr h
 ·rw[d9 (hb a (mem_of_getElem? h1))]
  exact h.at_ i a r h1 h2
theorem DOk.set {n:Nat}{id:NL}{ss:LL}(ok:DOk n id ss)(j:Nat){s:NL}(hl:s.length=512)(hB:Bytes s):DOk n id (ss.set j s):=
 ⟨ok.idl,ok.idb,ok.n1,ok.n3,by rw[length_set];exact ok.len,λy hy=>(List.mem_or_eq_of_mem_set hy).elim (ok.sec y) λe=>e ▸ ⟨hl,hB⟩⟩
theorem om {H:Hp}{p:Addr}{xs:List V}{n:Nat}{y:V}{R:Hp->Prop}(hp:H p=some (.lst xs))(hn:n<xs.length)(q:R (upd H p (.lst (xs.set n y)))):Gy (.ref p) (.int (n:Int)) y H R:=
 ⟨p,xs,n,n,rfl,rfl,hp,by unfold ixN;rw[if_pos (by lia),if_pos (by lia)];simp,q⟩
def bu (K:Frag)(ad:Adr):Sp:=λvs H Q _=>∃(fr:Addr->Prop)(x S D:Addr)(n:Nat)(id:NL)(ss:LL)(j:Nat)(a:Addr)(s:NL),vs=[.ref x,.int (j:Int),.ref a]/\Dk K ad fr H x S D n id ss/\j<12*n/\res H fr a=some (.lst (nv s))/\s.length=512/\Bytes s/\∀H',Ch fr S D H H'->Dk K ad fr H' x S D n id (ss.set j s)->Q .non H'
abbrev bJ:Stmt:=inClass (top 68) 1
theorem me:FnScope ["self","at","sector"] ["self","at","sector"] (Dg bJ):=by walk_at "sc"
theorem vH {fr:Addr->Prop}{x S D:Addr}{n:Nat}{id:NL}{ss:LL}{j:Nat}{a:Addr}{s:NL}{H H2:Hp}{as:List Addr}{hv:List V}{v:V}
  (d:Dk K ad fr H x S D n id ss) (hj:j<12*n) (ha:res H fr a=some (.lst (nv s))) (hl:s.length=512) (hB:Bytes s)
  (hS:H S=some (.lst (ah as))) (al:as.length=12*n) (hA:∀(j:Nat)(a:Addr)(s:NL),as[j]? = some a->ss[j]? = some s->res H fr a=some (.lst (nv s)))
  (hD:H D=some (.lst hv)) (vl:hv.length=12*n) (hV:∀(j:Nat)(v:V)(s:NL),hv[j]? = some v->ss[j]? = some s->HdV (res H fr) (rh id (j/12) (j%12) s) v)
  (sm:Same (upd H S (.lst ((ah as).set j (.ref a)))) H2) (hv':HdV (res H2 fr) (rh id (j/12) (j%12) s) v):Ch fr S D H (upd H2 D (.lst (hv.set j v)))/\Dk K ad fr (upd H2 D (.lst (hv.set j v))) x S D n id (ss.set j s):=by
 have hav1:∀b,fr b->upd H S (.lst ((ah as).set j (.ref a))) b≠none:=λb hb=>by
  by_cases e:b=S
  ·rw[e,DS];exact λz=>by cases z
  ·rw[Dz e];exact d.hav b hb
 have c12:Ch fr S D H H2:=by
  have c:=Ch.of (S:=S) (D:=D) hav1 sm
  rw[show Ch fr S D _ _ ↔ _ from Iff.rfl] at c
  refine ⟨by have:=c.same;rwa [kL d.frS] at this,c.hav,λb h1 h2 h3=>by rw[c.off b h1 h2 h3,Dz h2]⟩
 have c:Ch fr S D H (upd H2 D (.lst (hv.set j v))):=by
  refine ⟨by rw[kL d.frD];exact c12.same,λb hb=>?_,λb h1 h2 h3=>by rw[Dz h3];exact c12.off b h1 h2 h3⟩
  by_cases e:b=D
  ·rw[e,DS];exact λz=>by cases z
  ·rw[Dz e];exact c12.hav b hb
 refine e_2 (d.ins) λdx e=>a_2 λi1 i2=>?_
 refine ⟨c,d.ok.set j hl hB,d.frS,d.frD,d.ne,c.hav,⟨dx,e,c.same _ _ i1,c.seq i2⟩,⟨as.set j a,?_,by rw[length_set];exact al,λi b y h1 h2=>?_⟩,⟨hv.set j v,DS,by rw[length_set];exact vl,λi u y h1 h2=>?_⟩⟩
 ·rw[Dz d.ne,<- oi]
  exact sm _ _ DS
 ·by_cases ij:j=i
  ·subst ij
   rw[getElem?_set_self (by lia)] at h1
   rw[getElem?_set_self (by rw[d.ok.len];lia)] at h2
   cases h1;cases h2
   exact c.same _ _ ha
  ·rw[getElem?_set_ne ij] at h1 h2
   exact c.same _ _ (hA i b y h1 h2)
 ·by_cases ij:j=i
  ·subst ij
   rw[getElem?_set_self (by lia)] at h1
   rw[getElem?_set_self (by rw[d.ok.len];lia)] at h2
   cases h1;cases h2
   rw[kL d.frD]
   exact hv'
  ·rw[getElem?_set_ne ij] at h1 h2
   exact (hV i u y h1 h2).mono c.same
theorem mx {f:Addr}{fd:FuncData}(F:Fun K "lay_sector" "Disk.lay_sector" bJ f fd)(T:Txt K mg ad)(C_right_head:Callee P w K mg base 9 "right_head" ["sector","row","place","store_id"] (jf K)):FnOk P w K mg base CX0 10 f fd ["self","at","sector"] (bu K ad):=by
 refine F.ok me (λvs H Q E h=>?_) (λcdv A outer s H vs Q E hr h=>?_)
 ·k_go0
 refine rH h λfr x S D n id ss j a sc=>a_7 λez d hj ha hl hB k=>?_;clear h;subst ez
 refine ⟨_,(Df (EM (pv 2) (EN (Ds (pv 0) rfl) (pv 1) set_list))
   (Di (EM (ab C_right_head hr.m rfl (Dd (pv 2) (Dd (Dj Em (pv 1) (gI T.g_ROW_SIZE)) (Dd (Dj Eg (pv 1) (gI T.g_ROW_SIZE)) (Dd (Ds (pv 0) rfl) De))))) (EN (Ds (pv 0) rfl) (pv 1) set_list)))),?_⟩
 walk_at "cDisk"
 refine e_2 (d.get) λdx e=>a_2 λhx hi=>?_
 refine e_1 (d.lS) λas=>a_3 λhS al hA=>?_
 refine e_1 (d.lD) λhv=>a_3 λhD vl hV=>?_
 have n3:=d.ok.n3
 have nS:∀{b:Addr} {o:HO},res H fr b=some o->upd H S (.lst ((ah as).set j (.ref a))) b=some o:=λ{b o} h=>by
  rw[Dz (show b≠S from λz=>(fB h).1 (by rw[z];exact d.frS))];exact (fB h).2
 k_go
 refine om hS (by rw[aJ];lia) ?_
 refine e_2 (d.ins) λdx' e'=>a_2 λi1 i2=>?_
 have hx1:=nS i1
 have e1:SqL K (upd H S (.lst ((ah as).set j (.ref a)))) e' (nv id):=by
  have:Same (res H fr) (upd H S (.lst ((ah as).set j (.ref a)))):=λb o h=>nS h
  exact this.seq i2
 have hD1:upd H S (.lst ((ah as).set j (.ref a))) D=some (.lst hv):=by rw[Dz (Ne.symm d.ne)];exact hD
 have hav1:∀b,fr b->upd H S (.lst ((ah as).set j (.ref a))) b≠none:=λb hb=>by
  by_cases e:b=S
  ·rw[e,DS];exact λz=>by cases z
  ·rw[Dz e];exact d.hav b hb
 w_on
 refine i_6 a e' sc id (j/12) (j%12) ⟨rfl,SqL.of (nS ha),e1,hl,hB,d.ok.idl,by lia,?_⟩
 cases ho:rh id (j/12) (j%12) sc with
 |none=>
  intro H2 L2
  have hx2:=L2.same _ _ hx1
  w_on
  refine om (L2.same _ _ hD1) (by lia) ?_
  w_on
  obtain ⟨c,d'⟩:=vH (v:=.non) d hj ha hl hB hS al hA hD vl hV L2.same (by rw[ho];rfl)
  exact k _ c d'
 |some hd=>
  intro p H2 L2
  have hx2:=L2.same _ _ hx1
  w_on
  refine om (L2.same _ _ hD1) (by lia) ?_
  w_on
  obtain ⟨c,d'⟩:=vH (v:=.ref p) d hj ha hl hB hS al hA hD vl hV L2.same (by rw[ho];exact ⟨p,rfl,L2.resn hav1 0 rfl⟩)
  exact k _ c d'
def fe (K:Frag)(ad:Adr):Sp:=λvs H Q _=>∃(fr:Addr->Prop)(x S D:Addr)(n:Nat)(id:NL)(ss:LL)(i j:Nat),vs=[.ref x,.int (i:Int),.int (j:Int)]/\Dk K ad fr H x S D n id ss/\i<12*n/\j<12*n/\∀H',Ch fr S D H H'->Dk K ad fr H' x S D n id (ss.set j (ss.getD i []))->Q .non H'
abbrev bA:Stmt:=inClass (top 68) 2
theorem lN:FnScope ["self","source","target"] ["self","source","target"] (Dg bA):=by walk_at "sc"
theorem lP {f:Addr}{fd:FuncData}(F:Fun K "copy_sector" "Disk.copy_sector" bA f fd)(T:Txt K mg ad)(C_Disk_lay_sector:Method P w K mg base 10 ad.Disk "lay_sector" ["self","at","sector"] (bu K ad)):FnOk P w K mg base CX0 11 f fd ["self","source","target"] (fe K ad):=by
 refine F.ok lN (λvs H Q E h=>?_) (λcdv A outer s H vs Q E hr h=>?_)
 ·k_go0
 refine e_9 h λfr x S D n id ss i j=>a_5 λez d hi hj k=>?_;clear h;subst ez
 refine ⟨_,(Di (DG (ak T.c_Disk C_Disk_lay_sector hr.m (pv 0) (Dd (pv 2) (Dd (D7 (gc (K:=K) rfl) (by rfl) T.n_list hZ (Dd (Du (ae (K:=K) rfl) (Ds (pv 0) rfl) (pv 1) (λ_ _=>rfl)) De)) De))))),?_⟩
 walk_at "cDisk"
 refine e_2 (d.get) λdx e=>a_2 λhx _=>?_
 refine e_1 (d.lS) λas=>a_3 λhS al hA=>?_
 obtain ⟨g1,g2,g3⟩:=bG d.ok hi
 obtain ⟨c,hc⟩:∃c,as[i]? = some c:=⟨as[i]'(by lia),getElem?_eq_getElem _⟩
 k_go
 refine fX (as:=as) (SqL.of hS) hc ?_
 w_on
 refine iB (Loc.start H) (SqL.of (res_up _ _ (hA i c _ hc g1))) λp H1 L1=>?_
 w_on
 exact mI fr x S D n id ss j p _ ⟨rfl,d.mono L1.same,hj,L1.resn d.hav 0 rfl,g2,g3,λH2 c2 d2=>k H2 ((Ch.of d.hav L1.same).trans c2) d2⟩
def gx (K:Frag)(ad:Adr):Sp:=λvs H Q _=>∃(fr:Addr->Prop)(x S D:Addr)(n:Nat)(id:NL)(ss:LL)(p b:Nat),vs=[.ref x,.int (p:Int),.int (b:Int)]/\Dk K ad fr H x S D n id ss/\p<6144*n/\b<256/\∀H',Ch fr S D H H'->Dk K ad fr H' x S D n id (ss.set (p/512) ((ss.getD (p/512) []).set (p%512) b))->Q .non H'
abbrev cj:Stmt:=inClass (top 68) 3
theorem sc_Disk_set_byte:FnScope ["self","at","byte","sector"] ["self","at","byte"] (Dg cj):=by walk_at "sc"
theorem oz {f:Addr}{fd:FuncData}(F:Fun K "set_byte" "Disk.set_byte" cj f fd)(T:Txt K mg ad)(C_Disk_lay_sector:Method P w K mg base 10 ad.Disk "lay_sector" ["self","at","sector"] (bu K ad)):FnOk P w K mg base CX0 11 f fd ["self","at","byte"] (gx K ad):=by
 refine F.ok sc_Disk_set_byte (λvs H Q E h=>?_) (λcdv A outer s H vs Q E hr h=>?_)
 ·k_go0
 refine e_9 h λfr x S D n id ss p b=>a_5 λez d hp hb k=>?_;clear h;subst ez
 refine ⟨_,(Df (Dl (i:=3) sc_Disk_set_byte.nd rfl (Or.inl rfl) (D7 (gc (K:=K) rfl) (by rfl) T.n_list hZ (Dd (Du (ae (K:=K) rfl) (Ds (pv 0) rfl) (Dj Em (pv 1) (gI T.g_SECTOR_SIZE)) (λ_ _=>rfl)) De)))
   (Df (EM (pv 2) (EN (pv 3) (Dj Eg (pv 1) (gI T.g_SECTOR_SIZE)) set_list))
   (Di (DG (ak T.c_Disk C_Disk_lay_sector hr.m (pv 0) (Dd (Dj Em (pv 1) (gI T.g_SECTOR_SIZE)) (Dd (pv 3) De))))))),?_⟩
 walk_at "cDisk"
 refine e_2 (d.get) λdx e=>a_2 λhx _=>?_
 refine e_1 (d.lS) λas=>a_3 λhS al hA=>?_
 have hi:p/512<12*n:=by lia
 have hm:p%512<512:=mod_lt _ (by decide)
 obtain ⟨g1,g2,g3⟩:=bG d.ok hi
 obtain ⟨c,hc⟩:∃c,as[p/512]? = some c:=⟨as[p/512]'(by lia),getElem?_eq_getElem _⟩
 k_go
 refine fX (as:=as) (SqL.of hS) hc ?_
 w_on
 refine iB (Loc.start H) (SqL.of (res_up _ _ (hA _ c _ hc g1))) λq H1 L1=>?_
 w_on
 refine jM L1 0 rfl (by rw[aw,g2];exact hm) λH2 L2=>?_
 rw[xE] at L2
 have hx2:=L2.same _ _ hx
 w_on
 refine mI fr x S D n id ss (p/512) q _ ⟨rfl,d.mono L2.same,hi,L2.resn d.hav 0 rfl,by rw[length_set,g2],λy hy=>(List.mem_or_eq_of_mem_set hy).elim (g3 y) (λe=>e ▸ hb),λH3 c3 d3=>?_⟩
 w_on
 exact k H3 ((Ch.of d.hav L2.same).trans c3) d3
end
section
variable {P:Program}{w:World}{K:Frag}{mg:Str->Option Value}{base:Heap}{ad:Adr}
def cP (ss:LL)(r:Nat)(f:Nat->NL)(m:Nat):LL:=(range m).foldl (λss k=>ss.set (12*r+k) (f k)) ss
theorem hE (ss:LL)(r:Nat)(f:Nat->NL)(m:Nat):cP ss r f (m+1)=(cP ss r f m).set (12*r+m) (f m):=by
 unfold cP
 rw[range_succ,foldl_append]
 rfl
theorem iV (ss:LL)(r:Nat)(f:Nat->NL):∀m,(cP ss r f m).length=ss.length
 |0=>rfl
 |m+1=>by rw[hE,length_set,iV ss r f m]
theorem iu {ss:LL}{r:Nat}{f:Nat->NL}:∀m j,12*r+m<=ss.length->(cP ss r f m).getD j []=if 12*r<=j/\j<12*r+m then f (j-12*r) else ss.getD j []
 |0,j,_=>by rw[if_neg (by lia)];rfl
 |m+1,j,h=>by
  rw[hE,getD_eq_getElem?_getD]
  by_cases e:12*r+m=j
  ·subst e
   rw[getElem?_set_self (by rw[iV];lia),if_pos (by lia),add_sub_cancel_left]
   rfl
  ·rw[getElem?_set_ne e,<- getD_eq_getElem?_getD,iu m j (by lia)]
   by_cases h1:12*r<=j/\j<12*r+m
   ·rw[if_pos h1,if_pos (by lia)]
   ·rw[if_neg h1,if_neg (by lia)]
theorem yw {α:Type}{l:List α}{i:Nat}{a:α}(h:l[i]? = some a):l.set i a=l:=by
 refine ext_getElem? λj=>?_
 by_cases e:i=j
 ·subst e
  rw[getElem?_set_self (List.getElem?_eq_some_iff.mp h).1,h]
 ·rw[getElem?_set_ne e]
def dN (K:Frag)(ad:Adr):Sp:=λvs H Q _=>∃(fr:Addr->Prop)(x S D:Addr)(n:Nat)(id:NL)(ss:LL)(r:Nat),vs=[.ref x,.int (r:Int)]/\Dk K ad fr H x S D n id ss/\r<n/\∀H',Ch fr S D H H'->Dk K ad fr H' x S D n id (cP ss r (λ_=>replicate 512 0) 12)->Q .non H'
abbrev bP:Stmt:=inClass (top 68) 4
theorem sc_Disk_clear_row:FnScope ["self","row","at"] ["self","row"] (Dg bP):=by walk_at "sc"
theorem nA {f:Addr}{fd:FuncData}(F:Fun K "clear_row" "Disk.clear_row" bP f fd)(T:Txt K mg ad)(C_Disk_lay_sector:Method P w K mg base 10 ad.Disk "lay_sector" ["self","at","sector"] (bu K ad)):FnOk P w K mg base CX0 11 f fd ["self","row"] (dN K ad):=by
 refine F.ok sc_Disk_clear_row (λvs H Q E h=>?_) (λcdv A outer s H vs Q E hr h=>?_)
 ·k_go0
 refine e_8 h λfr x S D n id ss r=>a_4 λez d hr' k=>?_;clear h;subst ez
 refine ⟨_,(Di (DN PassesOwn.never rfl (EC rfl T.n_range (Dd (Dj DY (gI T.g_ROW_SIZE) (pv 1)) (Dd (Dj DB (Dj DY (gI T.g_ROW_SIZE) (pv 1)) (gI T.g_ROW_SIZE)) De))) (Dr (i:=2) sc_Disk_clear_row.nd rfl (Or.inl rfl)) (Di (DG (ak T.c_Disk C_Disk_lay_sector hr.m (pv 0) (Dd (pv 2) (Dd (Dj Ef (DA (Dd Dh De)) (gI T.g_SECTOR_SIZE)) De))))))),?_⟩
 walk_at "cDisk"
 have n3:=d.ok.n3
 k_go
 refine i_2 _ _ ⟨rfl,by lia,?_⟩
 rw[show (((12*r+12:Nat):Int)-((12*r:Nat):Int)).toNat=12 by lia]
 refine cr (λi σ H'=>(∃(v2:Option V),σ = [some (.ref x),some (.int (r:Int)),v2])/\Ch fr S D H H'/\Dk K ad fr H' x S D n id (cP ss r (λ_=>replicate 512 0) i)) ⟨⟨_,rfl⟩,Ch.refl d.hav,d⟩ ?_ ?_
 ·rintro i σ H1 hi ⟨⟨v2,rfl⟩,c1,d1⟩
  refine e_2 (d1.get) λdx e=>a_2 λhx _=>?_
  rw[show (((12*r:Nat):Int)+(i:Int))=((12*r+i:Nat):Int) by lia]
  w_on
  refine aF (xs:=nv [0]) (Loc.start H1) (by show 1<=sizeLine;decide) λp2 H2 L2=>?_
  w_on
  refine jn L2 0 rfl (by decide) λp3 H3 L3=>?_
  w_on
  refine mI fr x S D n id _ (12*r+i) p3 _ ⟨rfl,d1.mono L3.same,by lia,L3.resn d1.hav 1 rfl,by simp,Bytes.rep 512,λH4 c4 d4=>?_⟩
  w_on
  rw[<- hE] at d4
  exact ⟨⟨_,rfl⟩,c1.trans ((Ch.of d1.hav L3.same).trans c4),d4⟩
 ·rintro σ H1 ⟨⟨v2,rfl⟩,c1,d1⟩
  exact k H1 c1 d1
def wrF (hd:NL)(rows:LL)(i:Nat):NL:=im i hd ((shares 4 432 rows).getD i [])
def chg (ss:LL)(r:Nat)(f:Nat->NL)(m:Nat):Nat:=((range m).filter λi=>decide (ss.getD (12*r+i) []≠f i)).length
theorem uN (ss:LL)(r:Nat)(f:Nat->NL)(m:Nat):chg ss r f (m+1)=chg ss r f m+(if ss.getD (12*r+m) []=f m then 0 else 1):=by
 unfold chg
 rw[range_succ,filter_append,length_append]
 by_cases h:ss.getD (12*r+m) []=f m
 ·rw[if_pos h,filter_cons,decide_eq_false (not_not_intro h)];rfl
 ·rw[if_neg h,filter_cons,decide_eq_true h];rfl
def dM (K:Frag)(ad:Adr):Sp:=λvs H Q _=>∃(fr:Addr->Prop)(x S D:Addr)(n:Nat)(id:NL)(ss:LL)(r:Nat)(a b:Addr)(hd:NL)(as:List Addr)(rows:LL),vs=[.ref x,.int (r:Int),.ref a,.ref b]/\Dk K ad fr H x S D n id ss/\r<n/\res H fr a=some (.lst (nv hd))/\hd.length=43/\Bytes hd/\Rows K (res H fr) b as rows/\Dat rows 432/\rows.length=8/\∀H',Ch fr S D H H'->Dk K ad fr H' x S D n id (cP ss r (wrF hd rows) 12)->Q (.int ((chg ss r (wrF hd rows) 12:Nat):Int)) H'
abbrev bO:Stmt:=inClass (top 68) 5
theorem sc_Disk_write_row:FnScope ["self","row","head","data","shares","changed","place","sector"] ["self","row","head","data"] (Dg bO):=by walk_at "sc"
theorem u9 {H:Hp}{fr:Addr->Prop}{p:Addr}{as:List Addr}{rows:LL}(h:Rows K (res H fr) p as rows):Rows K H p as rows:=h.mono res_up
theorem uG (g:Nat->Nat)(hg:∀j,g j<256):∀(l:NL)(a:Nat),a<256->l.foldl (λ(s j:Nat)=>s ^^^ g j) a<256
 |[],a,h=>h
 |x :: l,a,h=>uG g hg l _ (aO h (hg x))
theorem Ac (a:Nat):inv a<256:=by
 by_cases h:a<256
 ·exact aI h
 ·have hs:inverses.size=256:=by simp[inverses]
  unfold inv Array.getD
  rw[dif_neg (by lia)]
  decide
theorem vX {rows:LL}(hD:Dat rows 432):∀y∈shares 4 432 rows,y.length=432/\Bytes y:=λy hy=>by
 unfold shares at hy
 rcases mem_append.mp hy with h|h
 ·exact hD.lens y h
 ·refine e_1 (mem_map.mp h) λi=>a_2 λ_ ez=>?_;subst ez
  refine ⟨by simp[share],λz hz=>?_⟩
  unfold share at hz
  refine e_1 (mem_map.mp hz) λx=>a_2 λ_ ez=>?_;subst ez
  exact uG _ (λj=>bF _ (Ac _)) _ 0 (by decide)
theorem rO {rows:LL}(hD:Dat rows 432)(h8:rows.length=8){i:Nat}(hi:i<12):(shares 4 432 rows)[i]? = some ((shares 4 432 rows).getD i [])/\((shares 4 432 rows).getD i []).length=432/\Bytes ((shares 4 432 rows).getD i []):=by
 have sl:(shares 4 432 rows).length=12:=by unfold shares;simp[h8]
 have hm:(shares 4 432 rows)[i]? = some ((shares 4 432 rows).getD i []):=by rw[getD_eq_getElem?_getD,getElem?_eq_getElem (by lia)];rfl
 refine ⟨hm,?_⟩
 exact vX hD _ (mem_of_getElem? hm)
theorem nz {f:Addr}{fd:FuncData}(F:Fun K "write_row" "Disk.write_row" bO f fd)(T:Txt K mg ad)(C_make_sector:Callee P w K mg base 8 "make_sector" ["place","head","share"] (dQ K))(C_make_shares:Callee P w K mg base 6 "make_shares" ["data","m"] (ik K))(C_Disk_lay_sector:Method P w K mg base 10 ad.Disk "lay_sector" ["self","at","sector"] (bu K ad)):FnOk P w K mg base CX0 11 f fd ["self","row","head","data"] (dM K ad):=by
 refine F.ok sc_Disk_write_row (λvs H Q E h=>?_) (λcdv A outer s H vs Q E hr h=>?_)
 ·k_go0
 refine y1 h λfr x S D n id ss r a b hd as rows=>wQ λez d hr' ha hdl hdB hR hDt h8 k=>?_;clear h;subst ez
 refine ⟨_,(Df (Dl (i:=4) sc_Disk_write_row.nd rfl (Or.inl rfl) (ab C_make_shares hr.m rfl (Dd (pv 3) (Dd (gI T.g_MORE_SHARES) De))))
   (Df (Dl (i:=5) sc_Disk_write_row.nd rfl (Or.inl rfl) Dh)
   (Df (DN PassesOwn.never rfl (DK rfl T.n_range (Dd (gI T.g_ROW_SIZE) De)) (Dr (i:=6) sc_Disk_write_row.nd rfl (Or.inl rfl)) (Df (Dl (i:=7) sc_Disk_write_row.nd rfl (Or.inl rfl) (ab C_make_sector hr.m rfl (Dd (pv 6) (Dd (pv 2) (Dd (Du (ae (K:=K) rfl) (pv 4) (pv 6) (λ_ _=>rfl)) De)))))
   (Di (DF (Dt (kM (K:=K) rfl hr.units) (Du (ae (K:=K) rfl) (Ds (pv 0) rfl) (Dj DB (Dj DY (gI T.g_ROW_SIZE) (pv 1)) (pv 6)) (λ_ _=>rfl)) (pv 7) (Dv _)) (Df (DG (ak T.c_Disk C_Disk_lay_sector hr.m (pv 0) (Dd (Dj DB (Dj DY (gI T.g_ROW_SIZE) (pv 1)) (pv 6)) (Dd (pv 7) De))))
   (Di (Dl (i:=5) sc_Disk_write_row.nd rfl (Or.inl rfl) (Dj DB (pv 5) Dh)))) Dx))))
   (Di (Dm (pv 5)))))),?_⟩
 walk_at "cDisk"
 have n3:=d.ok.n3
 k_go
 refine i_5 b as rows 432 4 ⟨rfl,u9 hR,hDt,by decide,by lia,λp1 bs H1 ms1 L1 hR1 hN1=>?_⟩
 have c1:Ch fr S D H H1:=Ch.of d.hav L1.same
 have hR1:Rows K (res H1 fr) p1 bs (shares 4 432 rows):=tV d.hav hR1 hN1.1 (λc hc=>?_) L1.same
 rotate_left
 ·rcases hN1.2 c hc with h|h
  ·exact λz=>d.hav c z h
  ·obtain ⟨i,hi⟩:=getElem?_of_mem h
   have hil:i<rows.length:=by rw[<- hR.len];exact (List.getElem?_eq_some_iff.mp hi).1
   exact (fB (hR.at_ i c _ hi (getElem?_eq_getElem hil))).1
 w_on
 refine ⟨_,rfl,by decide,by decide,?_⟩
 refine cr (n:=12) (λi σ H'=>(∃(v6 v7:Option V),σ = [some (.ref x),some (.int (r:Int)),some (.ref a),some (.ref b),some (.ref p1),some (.int ((chg ss r (wrF hd rows) i:Nat):Int)),v6,v7])/\Ch fr S D H1 H'/\Dk K ad fr H' x S D n id (cP ss r (wrF hd rows) i)) ⟨⟨_,_,rfl⟩,Ch.refl c1.hav,d.mono L1.same⟩ ?_ ?_
 ·rintro i σ H2 hi ⟨⟨v6,v7,rfl⟩,c2,d2⟩
  obtain ⟨g1,g2,g3⟩:=rO hDt h8 hi
  have hR2:=hR1.mono c2.same
  obtain ⟨c,hc⟩:∃c,bs[i]? = some c:=⟨bs[i]'(by rw[hR2.len];exact (List.getElem?_eq_some_iff.mp g1).1),getElem?_eq_getElem _⟩
  have hc2:=hR2.at_ i c _ hc g1
  have ha2:=(c1.trans c2).same _ _ ha
  rw[show ((0:Int)+(i:Int))=(i:Int) by lia]
  w_on
  refine fX (as:=bs) (res_up.seq hR2.lst) hc ?_
  w_on
  refine j4 (Loc.start H2) (SqL.of (res_up _ _ ha2)) (SqL.of (res_up _ _ hc2)) (by lia) hdB g3 (by lia) λp3 H3 L3=>?_
  have d3:=d2.mono L3.same
  refine e_2 (d3.get) λdx e=>a_2 λhx3 _=>?_
  refine e_1 (d3.lS) λas3=>a_3 λhS3 al3 hA3=>?_
  obtain ⟨f1,f2,f3⟩:=bG d3.ok (show 12*r+i<12*n by lia)
  obtain ⟨e3,he3⟩:∃c,as3[12*r+i]? = some c:=⟨as3[12*r+i]'(by lia),getElem?_eq_getElem _⟩
  have ec:(cP ss r (wrF hd rows) i).getD (12*r+i) []=ss.getD (12*r+i) []:=by rw[iu i _ (by rw[d.ok.len];lia),if_neg (by lia)]
  w_on
  refine fX (as:=as3) (SqL.of hS3) he3 ?_
  w_on
  refine pE (SqL.of (res_up _ _ (hA3 _ e3 _ he3 f1))) (L3.lst 0 rfl) ?_
  rw[ec]
  rw[show im i hd ((shares 4 432 rows).getD i [])=wrF hd rows i from rfl]
  w_on
  refine gu (λhne=>?_) (λheq=>?_)
  ·w_on
   refine mI fr x S D n id _ (12*r+i) p3 _ ⟨rfl,d3,by lia,L3.resn d2.hav 0 rfl,by rw[tu];lia,?_,λH4 c4 d4=>?_⟩
   ·exact (iQ (.inr rfl) _).app (Bytes.app (λy hy=>by simp at hy;lia) (Bytes.app (λy hy=>by rw[mem_singleton] at hy;lia) (hdB.app g3)))
   ·w_on
    rw[show im i hd ((shares 4 432 rows).getD i [])=wrF hd rows i from rfl,<- hE] at d4
    refine ⟨⟨_,_,by rw[uN,if_neg hne]⟩,c2.trans ((Ch.of d2.hav L3.same).trans c4),d4⟩
  ·w_on
   refine ⟨⟨_,_,by rw[uN,if_pos heq,Nat.add_zero]⟩,c2.trans (Ch.of d2.hav L3.same),?_⟩
   rw[hE,<- heq,<- ec,yw f1]
   exact d3
 ·rintro σ H2 ⟨⟨v6,v7,rfl⟩,c2,d2⟩
  w_on
  exact k H2 (c1.trans c2) d2
end
def aM (v0 v1 v2:V):List (Str×V):=[("store_id",v0),("secret",v1),("disk",v2)]
theorem nI {v0 v1 v2:V}:(aM v0 v1 v2).lookup ("store_id" : Str)=some v0:=by rfl
theorem qh {v0 v1 v2:V}:(aM v0 v1 v2).lookup ("secret" : Str)=some v1:=by rfl
theorem sF {v0 v1 v2:V}:(aM v0 v1 v2).lookup ("disk" : Str)=some v2:=by rfl
theorem rn {v0 v1 v2:V}:(aM v0 v1 v2).lookup ("row_of" : Str)=none:=by rfl
theorem qf {v0 v1 v2:V}:(aM v0 v1 v2).lookup ("row_for" : Str)=none:=by rfl
theorem vn {v0 v1 v2:V}:(aM v0 v1 v2).lookup ("put" : Str)=none:=by rfl
theorem oI {v0 v1 v2:V}:(aM v0 v1 v2).lookup ("get_text" : Str)=none:=by rfl
theorem uw {v0 v1 v2:V}:(aM v0 v1 v2).lookup ("drop" : Str)=none:=by rfl
theorem nE {v0 v1 v2:V}:(aM v0 v1 v2).lookup ("clear_row" : Str)=none:=by rfl
theorem oH {v0 v1 v2:V}:(aM v0 v1 v2).lookup ("state_of" : Str)=none:=by rfl
theorem ur {v0 v1 v2:V}:(aM v0 v1 v2).lookup ("mend" : Str)=none:=by rfl
theorem uu {v0 v1 v2:V}:(aM v0 v1 v2).lookup ("look" : Str)=none:=by rfl
theorem uv {v0 v1 v2:V}:(aM v0 v1 v2).lookup ("harm" : Str)=none:=by rfl
theorem lR {v0 v1 v2:V}:(aM v0 v1 v2).lookup ("copy_sector" : Str)=none:=by rfl
theorem uq {v0 v1 v2:V}:(aM v0 v1 v2).lookup ("take" : Str)=none:=by rfl
local macro_rules | `(tactic| walk_at "lk")=>`(tactic| first | exact nI | exact qh | exact sF | exact rn | exact qf | exact vn | exact oI | exact uw | exact nE | exact oH | exact ur | exact uu | exact uv | exact lR | exact uq | rfl)
local macro_rules | `(tactic| walk_at "put")=>`(tactic| ((w_on);(walk_at "fp");(intro H' L');(simp only[put_Desk_store_id,put_Desk_secret,put_Desk_disk,set_cons_zero,set_cons_succ] at L');(try w_on)))
section
variable {P:Program}{w:World}{K:Frag}{mg:Str->Option Value}{base:Heap}{ad:Adr}
structure Dsk (K:Frag)(ad:Adr)(fr:Addr->Prop)(H:Hp)(y x S D:Addr)(n:Nat)(id sec:NL)(ss:LL):Prop where
 dk:Dk K ad fr H x S D n id ss
 ins:∃dy a1 a2,res H fr y=some (.ins ad.Desk dy (aM (.ref a1) (.ref a2) (.ref x)))/\SqL K (res H fr) a1 (nv id)/\SqL K (res H fr) a2 (nv sec)
 sB:Bytes sec
 sl:sec.length=32
section
variable {fr:Addr->Prop}{S D x y:Addr}{H H' H2:Hp}{n:Nat}{id sec:NL}{ss ss':LL}
theorem Dsk.ch (d:Dsk K ad fr H y x S D n id sec ss)(c:Ch fr S D H H')(d':Dk K ad fr H' x S D n id ss'):Dsk K ad fr H' y x S D n id sec ss':=by
 refine e_3 (d.ins) λdy a1 a2=>a_3 λi1 i2 i3=>?_
 exact ⟨d',⟨dy,a1,a2,c.same _ _ i1,c.seq i2,c.seq i3⟩,d.sB,d.sl⟩
theorem Dsk.mono (d:Dsk K ad fr H y x S D n id sec ss)(e:Same H H'):Dsk K ad fr H' y x S D n id sec ss:=d.ch (Ch.of d.dk.hav e) (d.dk.mono e)
theorem Dsk.get (d:Dsk K ad fr H y x S D n id sec ss):∃dy a1 a2,H y=some (.ins ad.Desk dy (aM (.ref a1) (.ref a2) (.ref x)))/\SqL K H a1 (nv id)/\SqL K H a2 (nv sec):=by
 refine e_3 (d.ins) λdy a1 a2=>a_3 λi1 i2 i3=>?_
 exact ⟨dy,a1,a2,(fB i1).2,res_up.seq i2,res_up.seq i3⟩
end
def jH (K:Frag)(ad:Adr):Sp:=λvs H Q _=>∃(y dy a:Addr)(n:Nat)(own:NL),vs=[.ref y,.int (n:Int),.ref a]/\H y=some (.ins ad.Desk dy [])/\SqL K (er H y) a (nv own)/\own.length=40/\n<=3/\∀H' a1 a2 x dx S D as,as.length=12*n->Loc (er H y) H' ([(y,.ins ad.Desk dy (aM (.ref a1) (.ref a2) (.ref x))),(a1,.lst (nv (own.take 8))),(a2,.lst (nv (own.drop 8))),(dx,.own x),(x,.ins ad.Disk dx (cN (.int (n:Int)) (.ref a1) (.ref S) (.ref D)))]++(((S,.lst (ah as)) :: dC as (gg n))++[(D,.lst (replicate (12*n) V.non))]))->Q .non H'
abbrev eX:Stmt:=inClass (top 90) 0
theorem tQ:FnScope ["self","row_count","own"] ["self","row_count","own"] (Dg eX):=by walk_at "sc"
theorem uk {f:Addr}{fd:FuncData}(F:Fun K "__init__" "Desk.__init__" eX f fd)(T:Txt K mg ad)(C_Disk_init:Maker P w K mg base 1 ad.Disk ["self","row_count","store_id"] (jE K ad)):FnOk P w K mg base CX0 3 f fd ["self","row_count","own"] (jH K ad):=by
 refine F.ok tQ (λvs H Q E h=>?_) (λcdv A outer s H vs Q E hr h=>?_)
 ·k_go0
 refine e_5 h λy dy a n own=>a_6 λez hy ho ol hn k=>?_;clear h;subst ez
 refine ⟨_,(Df (DL (pv 0) (DD (aj (K:=K) rfl) (pv 2) DP (Dy (gI T.g_ID_SIZE))) rfl)
   (Df (DL (pv 0) (DD (aj (K:=K) rfl) (pv 2) (Dy (gI T.g_ID_SIZE)) DP) rfl)
   (Di (DL (pv 0) (pQ T.k_Disk C_Disk_init hr.m rfl (Dd (pv 1) (Dd (Ds (pv 0) rfl) De))) rfl)))),?_⟩
 walk_at "cDisk"
 walk_at "cDesk"
 have L0:=Loc.self hy
 k_go
 refine ap L0 (L0.arg ho) λp1 H1 L1=>?_
 rw[gE (by decide) (by rw[ol];decide)] at L1
 w_on
 refine bY L1 0 rfl cC n_store_id (by walk_at "lt1000") λH2 L2=>?_
 simp only[set_cons_zero,cons_append,nil_append] at L2
 w_on
 refine ap L2 (L2.arg ho) λp3 H3 L3=>?_
 rw[bp (by decide) (by rw[ol];decide)] at L3
 w_on
 refine bY L3 0 rfl cC n_secret (by walk_at "lt1000") λH4 L4=>?_
 simp only[set_cons_zero,cons_append,nil_append] at L4
 have hy4:=L4.get 0 rfl
 w_on
 refine mn L4 λx dx H5 L5=>?_
 refine i_4 x dx p1 n ⟨rfl,L5.get 4 rfl,hn,λH6 S D as al M6=>⟨rfl,?_⟩⟩
 have L6:=L5.meth 4 rfl M6
 simp only[set_cons_zero,set_cons_succ,cons_append,nil_append] at L6
 w_on
 refine bY L6 0 rfl cC n_disk (by walk_at "lt1000") λH7 L7=>?_
 simp only[set_cons_zero,cons_append,nil_append] at L7
 w_on
 exact k H7 p1 p3 x dx S D as al L7
def ov:Option Nat->V
 |none=>.non
 |some r=>.int (r:Int)
def jL (id:NL)(ss:LL)(nm:NL)(st:Option Nat×Nat)(r:Nat):Option Nat×Nat:=match aC (ag id ss r) with
 |some hd=>if (hOf hd).name=sum 1 nm/\st.2<(hOf hd).number then (some r,(hOf hd).number) else st
 |none=>st
def dZ (id:NL)(ss:LL)(nm:NL)(m:Nat):Option Nat×Nat:=(range m).foldl (jL id ss nm) (none,0)
theorem rR (id:NL)(ss:LL)(nm:NL)(m:Nat):dZ id ss nm (m+1)=jL id ss nm (dZ id ss nm m) m:=by
 unfold dZ
 rw[range_succ,foldl_append]
 rfl
theorem jy {n:Nat}{id:NL}{ss:LL}(ok:DOk n id ss){r:Nat}(hr:r<n){hd:NL}(h:aC (ag id ss r)=some hd):HdOk hd:=by
 obtain ⟨_,h2⟩:=i9 h
 unfold ag at h2
 refine e_1 (mem_map.mp h2) λi=>a_2 λhi e=>?_
 rw[mem_range] at hi
 refine vJ ok (j:=12*r+i) (by lia) ?_
 unfold fI
 rw[show (12*r+i)/12=r by lia,show (12*r+i)%12=i by lia]
 exact e
def dS (K:Frag)(ad:Adr):Sp:=λvs H Q _=>∃(fr:Addr->Prop)(y x S D a:Addr)(n:Nat)(id sec:NL)(ss:LL)(nm:NL),vs=[.ref y,.ref a]/\Dsk K ad fr H y x S D n id sec ss/\SqL K H a (nv nm)/\Bytes nm/\nm.length<6000/\∀H' ms,Loc H H' ms->Q (ov (dZ id ss nm n).1) H'
abbrev dc:Stmt:=inClass (top 90) 1
theorem sc_Desk_row_of:FnScope ["self","name","name_sum","found","greatest","row","head"] ["self","name"] (Dg dc):=by walk_at "sc"
theorem rf {f:Addr}{fd:FuncData}(F:Fun K "row_of" "Desk.row_of" dc f fd)(T:Txt K mg ad)(C_sum_of:Callee P w K mg base 7 "sum_of" ["kind","data"] (ef K))(C_head_number:Callee P w K mg base 3 "head_number" ["head"] (aW K))(C_head_name_sum:Callee P w K mg base 1 "head_name_sum" ["head"] (bq K))(C_Disk_head_of:Method P w K mg base 2 ad.Disk "head_of" ["self","row"] (bg K ad)):FnOk P w K mg base CX0 8 f fd ["self","name"] (dS K ad):=by
 refine F.ok sc_Desk_row_of (λvs H Q E h=>?_) (λcdv A outer s H vs Q E hr h=>?_)
 ·k_go0
 refine oS h λfr y x S D a n id sec ss nm=>a_6 λez d ha nB nl k=>?_;clear h;subst ez
 refine ⟨_,(Df (Dl (i:=2) sc_Desk_row_of.nd rfl (Or.inl rfl) (ab C_sum_of hr.m rfl (Dd Dh (Dd (pv 1) De))))
   (Df (Dl (i:=3) sc_Desk_row_of.nd rfl (Or.inl rfl) DQ)
   (Df (Dl (i:=4) sc_Desk_row_of.nd rfl (Or.inl rfl) Dh)
   (Df (DN PassesOwn.never rfl (DK rfl T.n_range (Dd (Ds (Ds (pv 0) rfl) rfl) De)) (Dr (i:=5) sc_Desk_row_of.nd rfl (Or.inl rfl)) (Df (Dl (i:=6) sc_Desk_row_of.nd rfl (Or.inl rfl) (ak T.c_Disk C_Disk_head_of hr.m (Ds (pv 0) rfl) (Dd (pv 5) De)))
   (Di (DF (PW.pt (EL (Dt E7 (pv 6) DQ (Dv _)) (EL (Dt (m3 (K:=K) rfl hr.units) (ab C_head_name_sum hr.m rfl (Dd (pv 6) De)) (pv 2) (Dv _)) (EK (Dt E8 (ab C_head_number hr.m rfl (Dd (pv 6) De)) (pv 4) (Dv _)))))) (Df (Dl (i:=3) sc_Desk_row_of.nd rfl (Or.inl rfl) (pv 5))
   (Di (Dl (i:=4) sc_Desk_row_of.nd rfl (Or.inl rfl) (ab C_head_number hr.m rfl (Dd (pv 6) De))))) Dx))))
   (Di (Dm (pv 3))))))),?_⟩
 walk_at "cDisk"
 walk_at "cDesk"
 have n3:=d.dk.ok.n3
 k_go
 refine i_3 1 a nm ⟨rfl,ha,.inl rfl,nB,nl,λp1 H1 L1=>?_⟩
 have d1:=d.mono L1.same
 refine e_3 (d1.get) λdy a1 a2=>a_3 λhy1 _ _=>?_
 refine e_2 (d1.dk.get) λdx e=>a_2 λhx1 _=>?_
 w_on
 refine ⟨_,rfl,by lia,by lia,?_⟩
 rw[Int.toNat_natCast]
 refine cr (λi σ H'=>(∃(v5 v6:Option V),σ = [some (.ref y),some (.ref a),some (.ref p1),some (ov (dZ id ss nm i).1),some (.int (((dZ id ss nm i).2:Nat):Int)),v5,v6])/\∃ms,Loc H1 H' ms) ⟨⟨_,_,rfl⟩,_,Loc.start H1⟩ ?_ ?_
 ·rintro i σ H2 hi ⟨⟨v5,v6,rfl⟩,ms2,L2⟩
  have d2:=d1.mono L2.same
  refine e_3 (d2.get) λdy a1 a2=>a_3 λhy2 _ _=>?_
  refine e_2 (d2.dk.get) λdx e=>a_2 λhx2 _=>?_
  rw[show ((0:Int)+(i:Int))=(i:Int) by lia,rR]
  w_on
  refine i_8 fr x S D n id ss i ⟨rfl,d2.dk,hi,?_⟩
  unfold jL
  generalize dZ id ss nm i=st
  cases hh:aC (ag id ss i) with
  |none=>
   intro H3 ms3 M3
   w_end
   w_left
   w_left
   exact ⟨⟨_,_,rfl⟩,_,L2.calls M3⟩
  |some hd=>
   intro b H3 ms3 M3 hb
   have ok:=jy d.dk.ok hi hh
   have hb3:SqL K H3 b (nv hd):=SqL.of (M3.same _ _ (res_up _ _ hb))
   dsimp only
   w_end
   w_once
   refine gp (Loc.start H3) hb3 ok.len λp4 H4 M4=>?_
   w_on
   refine wg (M4.lst 0 rfl) (((L2.calls M3).calls M4).arg (L1.lst 0 rfl)) ?_
   w_on
   refine bZ (λhc=>?_) (λhc=>?_)
   ·w_on
    refine bf M4 (M4.arg hb3) ok.len ok.by_ λH5 M5=>?_
    w_on
    refine bZ (λhg=>?_) (λhg=>?_)
    ·w_on
     refine bf M5 (M5.arg hb3) ok.len ok.by_ λH6 M6=>?_
     w_on
     rw[if_pos ⟨hc,hg⟩]
     exact ⟨⟨_,_,rfl⟩,_,(L2.calls M3).calls M6⟩
    ·w_on
     rw[if_neg λz=>hg z.2]
     exact ⟨⟨_,_,rfl⟩,_,(L2.calls M3).calls M5⟩
   ·w_on
    refine ite_ff ?_
    w_on
    rw[if_neg λz=>hc z.1]
    exact ⟨⟨_,_,rfl⟩,_,(L2.calls M3).calls M4⟩
 ·rintro σ H2 ⟨⟨v5,v6,rfl⟩,ms2,L2⟩
  w_on
  exact k H2 _ (L1.calls L2)
def dG (id:NL)(ss:LL)(r:Nat):Bool:=decide (hX (ag id ss r) none=12)
def tgt (id:NL)(ss:LL)(nm:NL)(n:Nat):Option Nat:=match (dZ id ss nm n).1 with
 |some r=>some r
 |none=>(range n).find? (dG id ss)
def g7 (K:Frag)(ad:Adr):Sp:=λvs H Q _=>∃(fr:Addr->Prop)(y x S D a:Addr)(n:Nat)(id sec:NL)(ss:LL)(nm:NL),vs=[.ref y,.ref a]/\Dsk K ad fr H y x S D n id sec ss/\SqL K H a (nv nm)/\Bytes nm/\nm.length<6000/\∀H' ms,Loc H H' ms->Q (ov (tgt id ss nm n)) H'
abbrev cM:Stmt:=inClass (top 90) 2
theorem sc_Desk_row_for:FnScope ["self","name","own_row","row"] ["self","name"] (Dg cM):=by walk_at "sc"
theorem qa {f:Addr}{fd:FuncData}(F:Fun K "row_for" "Desk.row_for" cM f fd)(T:Txt K mg ad)(C_Disk_is_empty:Method P w K mg base 2 ad.Disk "is_empty" ["self","row"] (eC K ad))(C_Desk_row_of:Method P w K mg base 8 ad.Desk "row_of" ["self","name"] (dS K ad)):FnOk P w K mg base CX0 9 f fd ["self","name"] (g7 K ad):=by
 refine F.ok sc_Desk_row_for (λvs H Q E h=>?_) (λcdv A outer s H vs Q E hr h=>?_)
 ·k_go0
 refine oS h λfr y x S D a n id sec ss nm=>a_6 λez d ha nB nl k=>?_;clear h;subst ez
 refine ⟨_,(Df (Dl (i:=2) sc_Desk_row_for.nd rfl (Or.inl rfl) (ak T.c_Desk C_Desk_row_of hr.m (pv 0) (Dd (pv 1) De)))
   (Df (DF (Dt E7 (pv 2) DQ (Dv _)) (Di (Dm (pv 2))) Dx)
   (Df (DN PassesOwn.never rfl (DK rfl T.n_range (Dd (Ds (Ds (pv 0) rfl) rfl) De)) (Dr (i:=3) sc_Desk_row_for.nd rfl (Or.inl rfl)) (Di (DF (Eb (ak T.c_Disk C_Disk_is_empty hr.m (Ds (pv 0) rfl) (Dd (pv 3) De))) (Di (Dm (pv 3))) Dx)))
   (Di (Dm DQ))))),?_⟩
 walk_at "cDisk"
 walk_at "cDesk"
 have n3:=d.dk.ok.n3
 refine e_3 (d.get) λdy a1 a2=>a_3 λhy _ _=>?_
 k_go
 refine oM fr y x S D a n id sec ss nm ⟨rfl,d,ha,nB,nl,λH1 ms1 L1=>?_⟩
 have d1:=d.mono L1.same
 refine e_3 (d1.get) λdy a1 a2=>a_3 λhy1 _ _=>?_
 refine e_2 (d1.dk.get) λdx e=>a_2 λhx1 _=>?_
 unfold tgt at k
 cases hr':(dZ id ss nm n).1 with
 |some r=>
  rw[hr'] at k
  w_end
  w_once
  exact k H1 _ L1
 |none=>
  rw[hr'] at k
  dsimp only at k
  w_end
  w_left
  refine ⟨_,rfl,by lia,by lia,?_⟩
  rw[Int.toNat_natCast]
  refine cr (λi σ H'=>(∃(v3:Option V),σ = [some (.ref y),some (.ref a),some (ov none),v3])/\(∃ms,Loc H1 H' ms)/\∀j,j<i->dG id ss j=false) ⟨⟨_,rfl⟩,⟨_,Loc.start H1⟩,λj h=>absurd h (not_lt_zero _)⟩ ?_ ?_
  ·rintro i σ H2 hi ⟨⟨v3,rfl⟩,⟨ms2,L2⟩,hno⟩
   have d2:=d1.mono L2.same
   refine e_3 (d2.get) λdy a1 a2=>a_3 λhy2 _ _=>?_
   refine e_2 (d2.dk.get) λdx e=>a_2 λhx2 _=>?_
   rw[show ((0:Int)+(i:Int))=(i:Int) by lia]
   w_on
   refine i_8 fr x S D n id ss i ⟨rfl,d2.dk,hi,λH3 ms3 M3=>?_⟩
   refine ⟨_,rfl,?_⟩
   rw[show decide (hX (ag id ss i) none=12)=dG id ss i from rfl]
   cases he:dG id ss i with
   |true=>
    refine ite_tt ?_
    w_on
    rw[vL (i:=i) (a:=i) (getElem?_range hi) he (λj b hj hb=>by rw[getElem?_range (by lia)] at hb;cases hb;exact hno _ hj)] at k
    exact k H3 _ (L1.calls (L2.calls M3))
   |false=>
    refine ite_ff ?_
    w_on
    refine ⟨⟨_,rfl⟩,⟨_,L2.calls M3⟩,λj hj=>?_⟩
    rcases lt_succ_iff_lt_or_eq.mp hj with hj|rfl
    ·exact hno j hj
    ·exact he
  ·rintro σ H2 ⟨⟨v3,rfl⟩,⟨ms2,L2⟩,hno⟩
   w_on
   rw[find?_eq_none.mpr (λj hj=>by rw[hno j (mem_range.mp hj)];exact Bool.false_ne_true)] at k
   exact k H2 _ (L1.calls L2)
end
section
variable {P:Program}{w:World}{K:Frag}{mg:Str->Option Value}{base:Heap}{ad:Adr}
theorem vo (k n:Nat):little (k+1) n=n%256 :: little k (n/256):=by
 unfold little
 rw[List.range_succ_eq_map,map_cons,map_map]
 congr 1
 ·rw[pow_zero,Nat.div_one]
 ·refine map_congr_left λi _=>?_
  show n/256 ^ (i+1)%256=n/256/256 ^ i%256
  rw[Nat.div_div_eq_div_mul,pow_succ,mul_comm]
theorem hJ:∀(k n:Nat),littleOf (little k n)=n%256 ^ k
 |0,n=>by rw[pow_zero,Nat.mod_one];rfl
 |k+1,n=>by
  rw[vo]
  show n%256+256*littleOf (little k (n/256))=_
  rw[hJ k,pow_succ,mul_comm (256 ^ k),Nat.mod_mul]
theorem o0 {h:Head}{id:NL}(r:Nat)(h1:h.name.length=20):Sy22.part (h.text id r) 3 8=little 8 h.number/\Sy22.part (h.text id r) 11 20=h.name/\Sy22.part (h.text id r) 31 4=little 4 r/\(h.text id r).drop 35=id:=by
 have e:h.text id r=([h.bytes,0,0]++little 8 h.number)++(h.name++(little 4 r++id)):=by
  unfold Head.text
  rw[append_assoc]
 have d11:(h.text id r).drop 11=h.name++(little 4 r++id):=by
  rw[e];exact drop_left' (by simp[am])
 have d31:(h.text id r).drop 31=little 4 r++id:=by
  rw[show 31=11+20 by rfl,<- drop_drop,d11];exact drop_left' h1
 refine ⟨?_,?_,?_,?_⟩
 ·show (little 8 h.number++(h.name++(little 4 r++id))).take 8=_
  exact take_left' (am _ _)
 ·unfold Sy22.part;rw[d11];exact take_left' h1
 ·unfold Sy22.part;rw[d31];exact take_left' (am _ _)
 ·rw[show 35=31+4 by rfl,<- drop_drop,d31];exact drop_left' (am _ _)
theorem uF {h:Head}{id:NL}(r:Nat)(h1:h.name.length=20)(h2:h.number<256 ^ 8):hOf (h.text id r)=h:=by
 obtain ⟨e1,e2,e3,e4⟩:=o0 (id:=id) r h1
 unfold hOf
 rw[e1,e2,hJ,mod_eq_of_lt h2]
 rfl
theorem vU {h:Head}{id:NL}(r:Nat)(h1:Bytes h.name)(h2:Bytes id)(h3:h.bytes<256):Bytes (h.text id r):=by
 unfold Head.text
 exact Bytes.app (λy hy=>by simp at hy;lia) ((fG _ _).app (h1.app ((fG _ _).app h2)))
theorem vx {n x:Nat}{nm id:NL}(r:Nat)(hi:id.length=8)(ib:Bytes id)(hk:headOk ⟨n,x,sum 1 nm⟩=true):HdOk (Head.text ⟨n,x,sum 1 nm⟩ id r)/\hOf (Head.text ⟨n,x,sum 1 nm⟩ id r)=⟨n,x,sum 1 nm⟩:=by
 have sl:(sum 1 nm).length=20:=eN (.inl rfl) nm
 have hk':=hk
 rw[gT,Bool.and_eq_true,Bool.and_eq_true,decide_eq_true_iff,decide_eq_true_iff,decide_eq_true_iff] at hk'
 obtain ⟨k1,k2,k3⟩:=hk'
 have e:hOf (Head.text ⟨n,x,sum 1 nm⟩ id r)=⟨n,x,sum 1 nm⟩:=uF r sl (lt_of_le_of_lt k3 (by decide))
 refine ⟨⟨sV r sl hi,vU r (iQ (.inl rfl) nm) ib ?_,by rw[e];exact hk⟩,e⟩
 simp at k1
 show n<256
 lia
def PostD (K:Frag)(ad:Adr)(fr:Addr->Prop)(H:Hp)(y x S D:Addr)(n:Nat)(id sec:NL)(r:LL×List Int)(Q:VK):Prop:=∀p H',Ch fr S D H H'->Dsk K ad fr H' y x S D n id sec r.1->res H' fr p=some (.lst (iv r.2))->Q (.ref p) H'
section
variable {fr:Addr->Prop}{S D x y:Addr}{H H':Hp}{n:Nat}{id sec:NL}{ss:LL}{zs:List Int}{Q:VK}
theorem PostD.new (k:PostD K ad fr H y x S D n id sec (ss,zs) Q)(c:Ch fr S D H H')(d:Dsk K ad fr H' y x S D n id sec ss)(hz:zs.length<=sizeLine):zf (iv zs) H' Q:=
 aF (Loc.start H') (by rw[mH];exact hz) λp H1 L1=>k p H1 (c.trans (Ch.of d.dk.hav L1.same)) (d.mono L1.same) (L1.resn d.dk.hav 0 rfl)
theorem Loc.rowsR {H0:Hp}{ls:List (Addr×HO)}{p:Addr}{as:List Addr}{rows:LL}(L:Loc H0 H' ls)(hav:∀b,fr b->H0 b≠none)(hp:(p,HO.lst (ah as))∈ls)(hl:as.length=rows.length)(hm:∀x∈dC as rows,x∈ls):Rows K (res H' fr) p as rows:=
 ⟨SqL.of (qP hav (L.at_ _ hp).1 (L.at_ _ hp).2),hl,λi a r h1 h2=>qP hav (L.at_ _ (hm _ (mem_of_getElem? (iz h1 h2)))).1 (L.at_ _ (hm _ (mem_of_getElem? (iz h1 h2)))).2⟩
end
theorem tz {key nonce w t:NL}(k:KeyOk key)(h:nonce.length=12)(hb:Bytes nonce)(ht:Bytes t):Bytes (sealed key nonce w t):=by
 have es:sealed key nonce w t=aE key nonce t 0++tag key nonce w (aE key nonce t 0):=by
  rw[iU (ql k h hb)]
  rfl
 rw[es]
 exact (jm k h hb ht 0).app (by rw[<- o7 (op:=false) (str:=[]) k h hb];exact uX _)
def oo (id sec:NL)(ss:LL)(n len num:Nat)(nm tx:NL):LL×List Int:=
 if ¬ (len∈[16,24,32]/\(decide (1<=num) && decide (num<=Sy22.MOST))=true) then (ss,[-2])
 else if ¬ ((decide (1<=nm.length) && decide (nm.length<=35))=true/\tx.length<=3400) then (ss,[-2])
 else if num<=rE id ss n then (ss,[-4])
 else match tgt id ss nm n with
  |none=>(ss,[-6])
  |some r=>(cP ss r (wrF (Head.text ⟨len,num,sum 1 nm⟩ id r) (jU (sealed (hG sec (Head.text ⟨len,num,sum 1 nm⟩ id r)) (gA (Head.text ⟨len,num,sum 1 nm⟩ id r)) (Head.text ⟨len,num,sum 1 nm⟩ id r) (Sy22.plain nm tx)) 432 8)) 12,[(r:Int)])
theorem iy {id:NL}{ss:LL}{nm:NL}:∀m r,(dZ id ss nm m).1=some r->r<m/\∃hd,aC (ag id ss r)=some hd
 |0,r,h=>by cases h
 |m+1,r,h=>by
  rw[rR] at h
  unfold jL at h
  cases hh:aC (ag id ss m) with
  |none=>
   rw[hh] at h
   obtain ⟨h1,h2⟩:=iy m r h
   exact ⟨by lia,h2⟩
  |some hd=>
   rw[hh] at h
   dsimp only at h
   split at h
   ·have e:m=r:=Option.some.inj h
    subst e
    exact ⟨Nat.lt_succ_self _,hd,hh⟩
   ·obtain ⟨h1,h2⟩:=iy m r h
    exact ⟨by lia,h2⟩
theorem w6 {id:NL}{ss:LL}{nm:NL}{n r:Nat}(h:tgt id ss nm n=some r):r<n:=by
 unfold tgt at h
 cases hr:(dZ id ss nm n).1 with
 |some q=>
  rw[hr] at h
  cases h
  exact (iy n _ hr).1
 |none=>
  rw[hr] at h
  exact mem_range.mp (mem_of_find?_eq_some h)
def kg (K:Frag)(ad:Adr):Sp:=λvs H Q _=>∃(fr:Addr->Prop)(y x S D a b:Addr)(n:Nat)(id sec:NL)(ss:LL)(len num:Nat)(nm tx:NL),vs=[.ref y,.int (len:Int),.int (num:Int),.ref a,.ref b]/\Dsk K ad fr H y x S D n id sec ss/\SqL K H a (nv nm)/\SqL K H b (nv tx)/\Bytes nm/\Bytes tx/\nm.length<6000/\PostD K ad fr H y x S D n id sec (oo id sec ss n len num nm tx) Q
abbrev fW:Stmt:=inClass (top 90) 3
theorem sc_Desk_put:FnScope ["self","length","number","name","text","row","head","sealed"] ["self","length","number","name","text"] (Dg fW):=by walk_at "sc"
theorem vk {f:Addr}{fd:FuncData}(F:Fun K "put" "Desk.put" fW f fd)(T:Txt K mg ad)(C_sum_of:Callee P w K mg base 7 "sum_of" ["kind","data"] (ef K))(C_make_head:Callee P w K mg base 2 "make_head" ["length","number","name_sum","row","store_id"] (fw K))(C_can_be_number:Callee P w K mg base 1 "can_be_number" ["number"] (eB K))(C_cut:Callee P w K mg base 1 "cut" ["data","count","size"] (tj K))(C_Disk_write_row:Method P w K mg base 11 ad.Disk "write_row" ["self","row","head","data"] (dM K ad))(C_Disk_greatest_number:Method P w K mg base 4 ad.Disk "greatest_number" ["self"] (cQ K ad))(C_can_be_name_length:Callee P w K mg base 1 "can_be_name_length" ["length"] (aT K))(C_seal_record:Callee P w K mg base 10 "seal_record" ["head","secret","name","text"] (ig K))(C_Desk_row_for:Method P w K mg base 9 ad.Desk "row_for" ["self","name"] (g7 K ad)):FnOk P w K mg base CX0 12 f fd ["self","length","number","name","text"] (kg K ad):=by
 refine F.ok sc_Desk_put (λvs H Q E h=>?_) (λcdv A outer s H vs Q E hr h=>?_)
 ·k_go0
 refine yZ h λfr y x S D a b n id sec ss len num nm tx=>a_8 λez d ha hb nB tB nl k=>?_;clear h;subst ez
 refine ⟨_,(Df (DF (PW.pt (ER (Dt (rY (K:=K) rfl) (pv 1) (D1 (v:=.ref ad.KEY_LENGTHS) rfl T.g_KEY_LENGTHS rfl) (by rfl)) (Ex (Ey (Eb (ab C_can_be_number hr.m rfl (Dd (pv 2) De))))))) (Di (Dm (DA (Dd (D5 DT Dh) De)))) Dx)
   (Df (DF (PW.pt (ER (Ey (Eb (ab C_can_be_name_length hr.m rfl (Dd (DE (az (K:=K) rfl) (by rfl) T.n_len aK (Dd (pv 3) De)) De)))) (Ex (Dt E8 (DE (az (K:=K) rfl) (by rfl) T.n_len aK (Dd (pv 4) De)) (gI T.g_MOST_TEXT) (Dv _))))) (Di (Dm (DA (Dd (D5 DT Dh) De)))) Dx)
   (Df (DF (Dt Fl (iZ T.c_Disk C_Disk_greatest_number hr.m (Ds (pv 0) rfl)) (pv 2) (Dv _)) (Di (Dm (DA (Dd (D5 DT Dh) De)))) Dx)
   (Df (Dl (i:=5) sc_Desk_put.nd rfl (Or.inl rfl) (ak T.c_Desk C_Desk_row_for hr.m (pv 0) (Dd (pv 3) De)))
   (Df (DF (Dt Ez (pv 5) DQ (Dv _)) (Di (Dm (DA (Dd (D5 DT Dh) De)))) Dx)
   (Df (Dl (i:=6) sc_Desk_put.nd rfl (Or.inl rfl) (ab C_make_head hr.m rfl (Dd (pv 1) (Dd (pv 2) (Dd (ab C_sum_of hr.m rfl (Dd Dh (Dd (pv 3) De))) (Dd (pv 5) (Dd (Ds (pv 0) rfl) De)))))))
   (Df (Dl (i:=7) sc_Desk_put.nd rfl (Or.inl rfl) (ab C_seal_record hr.m rfl (Dd (pv 6) (Dd (Ds (pv 0) rfl) (Dd (pv 3) (Dd (pv 4) De))))))
   (Df (DG (ak T.c_Disk C_Disk_write_row hr.m (Ds (pv 0) rfl) (Dd (pv 5) (Dd (pv 6) (Dd (ab C_cut hr.m rfl (Dd (pv 7) (Dd (gI T.g_DATA_SHARES) (Dd (Dj Em (DE (az (K:=K) rfl) (by rfl) T.n_len aK (Dd (pv 7) De)) (gI T.g_DATA_SHARES)) De)))) De)))))
   (Di (Dm (DA (Dd (pv 5) De)))))))))))),?_⟩
 walk_at "cDisk"
 walk_at "cDesk"
 have n3:=d.dk.ok.n3
 refine e_3 (d.get) λdy a1 a2=>a_3 λhy _ _=>?_
 refine e_2 (d.dk.get) λdx e=>a_2 λhx _=>?_
 have c0:Ch fr S D H H:=Ch.refl d.dk.hav
 unfold oo at k
 k_go
 refine tY (ns:=[16,24,32]) (T.t_KEY_LENGTHS _) ?_
 w_on
 refine gu (λhc=>?_) (λhc=>?_)
 ·rw[if_pos (λz=>hc z.1)] at k
  w_once
  exact k.new c0 d (by decide)
 w_on
 refine ⟨num,rfl,?_⟩
 refine ⟨_,rfl,?_⟩
 cases hn:(decide (1<=num) && decide (num<=Sy22.MOST)) with
 |false=>
  rw[if_pos (λz=>by rw[hn] at z;exact absurd z.2 Bool.false_ne_true)] at k
  refine ite_tt ?_
  w_on
  exact k.new c0 d (by decide)
 |true=>
 rw[if_neg (not_not_intro ⟨hc,hn⟩)] at k
 refine ite_ff ?_
 w_on
 refine ⟨nm.length,rfl,?_⟩
 refine ⟨_,rfl,?_⟩
 w_on
 cases hm:(decide (1<=nm.length) && decide (nm.length<=35)) with
 |false=>
  rw[if_pos (λz=>by rw[hm] at z;exact absurd z.1 Bool.false_ne_true)] at k
  refine ite_tt ?_
  w_once
  exact k.new c0 d (by decide)
 |true=>
 refine ite_ff ?_
 w_on
 refine bZ (λht=>?_) (λht=>?_)
 ·rw[if_pos (λz=>absurd ht (not_lt.mpr z.2))] at k
  w_on
  exact k.new c0 d (by decide)
 have htl:tx.length<=3400:=not_lt.mp ht
 rw[if_neg (not_not_intro ⟨hm,htl⟩)] at k
 have hn35:nm.length<=35:=by rw[Bool.and_eq_true,decide_eq_true_iff,decide_eq_true_iff] at hm;exact hm.2
 w_on
 refine i_7 fr x S D n id ss ⟨rfl,d.dk,λH1 ms1 L1=>?_⟩
 have d1:=d.mono L1.same
 refine e_3 (d1.get) λdy a1 a2=>a_3 λhy1 _ _=>?_
 w_on
 refine bZ (λhg=>?_) (λhg=>?_)
 ·rw[if_pos hg] at k
  w_on
  exact k.new (Ch.of d.dk.hav L1.same) d1 (by decide)
 rw[if_neg hg] at k
 w_on
 refine oM fr y x S D a n id sec ss nm ⟨rfl,d1,L1.arg ha,nB,nl,λH2 ms2 L2=>?_⟩
 have d2:=d1.mono L2.same
 have L02:=L1.calls L2
 refine e_3 (d2.get) λdy a1 a2=>a_3 λhy2 hi2 hs2=>?_
 refine e_2 (d2.dk.get) λdx e=>a_2 λhx2 _=>?_
 cases ht':tgt id ss nm n with
 |none=>
  rw[ht'] at k
  w_end
  w_once
  exact k.new (Ch.of d.dk.hav L02.same) d2 (by decide)
 |some r=>
 rw[ht'] at k
 dsimp only at k
 have hrn:=w6 ht'
 have sl:(sum 1 nm).length=20:=eN (.inl rfl) nm
 have hko:headOk ⟨len,num,sum 1 nm⟩=true:=by rw[gT,decide_eq_true hc,hn];rfl
 obtain ⟨ok,eo⟩:=vx (n:=len) (x:=num) (nm:=nm) r d.dk.ok.idl d.dk.ok.idb hko
 w_end
 w_left
 refine i_3 1 a nm ⟨rfl,L02.arg ha,.inl rfl,nB,nl,λp3 H3 L3=>?_⟩
 have hy3:=L3.same _ _ hy2
 w_on
 refine lM L3 (L3.lst 0 rfl) (L3.arg hi2) (by lia) (by rw[d.dk.ok.idl];decide) λp4 H4 L4=>?_
 have hy4:=L4.same _ _ hy2
 w_on
 refine i_8 p4 a2 a b _ sec nm tx ⟨rfl,L4.lst 1 rfl,L4.arg hs2,L4.arg (L02.arg ha),L4.arg (L02.arg hb),ok,d.sB,by rw[d.sl];decide,nB,hn35,tB,htl,λp5 H5 M5=>?_⟩
 have L5:=L4.calls M5
 have hp5:=L5.lst (K:=K) 2 rfl
 have hy5:=L5.same _ _ hy2
 have hx5:=L5.same _ _ hx2
 have sL:(sealed (hG sec (Head.text ⟨len,num,sum 1 nm⟩ id r)) (gA (Head.text ⟨len,num,sum 1 nm⟩ id r)) (Head.text ⟨len,num,sum 1 nm⟩ id r) (Sy22.plain nm tx)).length=3456:=by
  rw[pd (gQ ok) (fA ok) (di ok),mq hn35 htl]
 have sBy:=tz (gQ (sec:=sec) ok) (fA ok) (di ok) (w:=Head.text ⟨len,num,sum 1 nm⟩ id r) (nN hn35 nB tB)
 have hd5:=L5.get 1 rfl
 generalize hS0:sealed _ _ _ _=sd at *
 generalize Head.text ⟨len,num,sum 1 nm⟩ id r=hd at *
 w_on
 rw[sL]
 refine i_4 p5 sd 8 432 ⟨rfl,hp5,by rw[sL];decide,by decide,by decide,λp6 as H6 al M6=>?_⟩
 have L6:=L5.calls M6
 have d6:=d2.mono L6.same
 have hav2:=d2.dk.hav
 have hR6:Rows K (res H6 fr) p6 as (jU sd 432 8):=L6.rowsR hav2 (mem_append_right _ mem_cons_self) (by unfold jU;simp[al]) (λz hz=>mem_append_right _ (mem_cons_of_mem _ hz))
 refine e_2 (d6.dk.get) λdx e=>a_2 λhx6 _=>?_
 w_on
 refine Bt fr x S D n id ss r p4 p6 hd as _ ⟨rfl,d6.dk,hrn,L6.resn hav2 1 rfl,ok.len,ok.by_,hR6,y8 sBy (by rw[sL];decide) (by decide) (by decide),by unfold jU;simp,λH7 c7 d7=>?_⟩
 w_on
 exact k.new ((Ch.of d.dk.hav (L02.same.trans L6.same)).trans c7) (d6.ch c7 d7) (by show 1<=sizeLine;decide)
end
section
variable {P:Program}{w:World}{K:Frag}{mg:Str->Option Value}{base:Heap}{ad:Adr}
def rG (id sec:NL)(ss:LL)(n most:Nat)(nm:NL):List Int:=
 if ¬ ((decide (1<=nm.length) && decide (nm.length<=35))=true/\most<=3400) then [-2]
 else match (dZ id ss nm n).1 with
  |none=>[-4]
  |some r=>match aC (ag id ss r) with
   |none=>[-5]
   |some hd=>match opn sec hd (bH id ss r hd).flatten with
    |none=>[-5]
    |some x=>if x.1=nm then (if most<x.2.length then [-7] else [(x.2.length:Int)]++x.2.map λ(z:Nat)=>(z:Int)) else [-5]
theorem lH {n:Nat}{id:NL}{ss:LL}(ok:DOk n id ss){r:Nat}(hr:r<n){hd:NL}(h:aC (ag id ss r)=some hd):Dat (bH id ss r hd) 432/\(bH id ss r hd).length=8:=by
 have ep:places (8+4) (bitsOf (plH (ag id ss r) hd))=plH (ag id ss r) hd:=km _ 12
 have:=xg (k:=8) (m:=4) (t:=bitsOf (plH (ag id ss r) hd)) (len:=432) (all:=shs ss r) (by simp[shs]) (λy hy=>by
  unfold shs at hy
  refine e_1 (mem_map.mp hy) λi=>a_2 λhi ez=>?_;subst ez
  rw[mem_range] at hi
  obtain ⟨g1,g2,g3⟩:=bG ok (show 12*r+i<12*n by lia)
  exact ⟨by rw[length_drop,g2],g3.drop 80⟩) (by decide) (by decide) (by rw[ep,qR (jP id ss r)];exact (i9 h).1)
 rw[ep] at this
 unfold bH
 exact this
theorem uL {rows:LL}{len:Nat}(h:∀r∈rows,r.length=len/\Bytes r):rows.flatten.length=len*rows.length/\Bytes rows.flatten:=by
 induction rows with
 |nil=>exact ⟨rfl,Bytes.nil⟩
 |cons a rows ih=>
  obtain ⟨h1,h2⟩:=ih λr hr=>h r (mem_cons_of_mem _ hr)
  obtain ⟨h3,h4⟩:=h a mem_cons_self
  rw[flatten_cons]
  exact ⟨by rw[length_append,h1,h3,length_cons,mul_succ,add_comm],h4.app h2⟩
theorem Bh {sec hd sd:NL}{x:NL×NL}(ok:HdOk hd)(sb:Bytes sd)(h:opn sec hd sd=some x):x.1.length<=35/\Bytes x.1/\Bytes x.2/\x.2.length<=3400:=by
 unfold opn at h
 cases ho:opened (hG sec hd) (gA hd) hd sd with
 |none=>rw[ho] at h;cases h
 |some p=>
  rw[ho] at h
  dsimp only at h
  cases hu:unp p with
  |none=>rw[hu] at h;cases h
  |some z=>
   rw[hu] at h
   dsimp only at h
   split at h
   ·cases h
    exact wY hu (mw (gQ ok) (fA ok) (di ok) sb ho).2
   ·cases h
def gy (K:Frag)(ad:Adr):Sp:=λvs H Q _=>∃(fr:Addr->Prop)(y x S D a:Addr)(n:Nat)(id sec:NL)(ss:LL)(most:Nat)(nm:NL),vs=[.ref y,.int (most:Int),.ref a]/\Dsk K ad fr H y x S D n id sec ss/\SqL K H a (nv nm)/\Bytes nm/\nm.length<6000/\PostD K ad fr H y x S D n id sec (ss,rG id sec ss n most nm) Q
abbrev cq:Stmt:=inClass (top 90) 4
theorem sc_Desk_get_text:FnScope ["self","most","name","row","record","text"] ["self","most","name"] (Dg cq):=by walk_at "sc"
theorem oF {f:Addr}{fd:FuncData}(F:Fun K "get_text" "Desk.get_text" cq f fd)(T:Txt K mg ad)(C_chain:Callee P w K mg base 1 "chain" ["rows"] (nW K))(C_Disk_head_of:Method P w K mg base 2 ad.Disk "head_of" ["self","row"] (bg K ad))(C_Disk_data_of:Method P w K mg base 6 ad.Disk "data_of" ["self","row"] (fk K ad))(C_can_be_name_length:Callee P w K mg base 1 "can_be_name_length" ["length"] (aT K))(C_open_record:Callee P w K mg base 10 "open_record" ["head","secret","sealed"] (ii K))(C_Desk_row_of:Method P w K mg base 8 ad.Desk "row_of" ["self","name"] (dS K ad)):FnOk P w K mg base CX0 11 f fd ["self","most","name"] (gy K ad):=by
 refine F.ok sc_Desk_get_text (λvs H Q E h=>?_) (λcdv A outer s H vs Q E hr h=>?_)
 ·k_go0
 refine wF h λfr y x S D a n id sec ss most nm=>a_6 λez d ha nB nl k=>?_;clear h;subst ez
 refine ⟨_,(Df (DF (PW.pt (ER (Ey (Eb (ab C_can_be_name_length hr.m rfl (Dd (DE (az (K:=K) rfl) (by rfl) T.n_len aK (Dd (pv 2) De)) De)))) (Ex (Dt E8 (pv 1) (gI T.g_MOST_TEXT) (Dv _))))) (Di (Dm (DA (Dd (D5 DT Dh) De)))) Dx)
   (Df (Dl (i:=3) sc_Desk_get_text.nd rfl (Or.inl rfl) (ak T.c_Desk C_Desk_row_of hr.m (pv 0) (Dd (pv 2) De)))
   (Df (DF (Dt Ez (pv 3) DQ (Dv _)) (Di (Dm (DA (Dd (D5 DT Dh) De)))) Dx)
   (Df (Dl (i:=4) sc_Desk_get_text.nd rfl (Or.inl rfl) (ab C_open_record hr.m rfl (Dd (ak T.c_Disk C_Disk_head_of hr.m (Ds (pv 0) rfl) (Dd (pv 3) De)) (Dd (Ds (pv 0) rfl) (Dd (ab C_chain hr.m rfl (Dd (ak T.c_Disk C_Disk_data_of hr.m (Ds (pv 0) rfl) (Dd (pv 3) De)) De)) De)))))
   (Df (DF (PW.pt (ER (Dt Ez (pv 4) DQ (Dv _)) (Ex (Dt (kM (K:=K) rfl hr.units) (Du (fZ (K:=K) rfl) (pv 4) Dh (λ_ _=>rfl)) (pv 2) (Dv _))))) (Di (Dm (DA (Dd (D5 DT Dh) De)))) Dx)
   (Df (Dl (i:=5) sc_Desk_get_text.nd rfl (Or.inl rfl) (Du (fZ (K:=K) rfl) (pv 4) Dh (λ_ _=>rfl)))
   (Df (DF (Dt E8 (DE (az (K:=K) rfl) (by rfl) T.n_len aK (Dd (pv 5) De)) (pv 1) (Dv _)) (Di (Dm (DA (Dd (D5 DT Dh) De)))) Dx)
   (Di (Dm (Dj (ao (K:=K) rfl) (DA (Dd (DE (az (K:=K) rfl) (by rfl) T.n_len aK (Dd (pv 5) De)) De)) (pv 5))))))))))),?_⟩
 walk_at "cDisk"
 walk_at "cDesk"
 have n3:=d.dk.ok.n3
 refine e_3 (d.get) λdy a1 a2=>a_3 λhy _ _=>?_
 refine e_2 (d.dk.get) λdx e=>a_2 λhx _=>?_
 have c0:Ch fr S D H H:=Ch.refl d.dk.hav
 unfold rG at k
 k_go
 refine ⟨nm.length,rfl,?_⟩
 refine ⟨_,rfl,?_⟩
 w_on
 cases hm:(decide (1<=nm.length) && decide (nm.length<=35)) with
 |false=>
  rw[if_pos (λz=>by rw[hm] at z;exact absurd z.1 Bool.false_ne_true)] at k
  refine ite_tt ?_
  w_once
  exact k.new c0 d (by decide)
 |true=>
 refine ite_ff ?_
 w_on
 refine bZ (λht=>?_) (λht=>?_)
 ·rw[if_pos (λz=>absurd ht (not_lt.mpr z.2))] at k
  w_on
  exact k.new c0 d (by decide)
 rw[if_neg (not_not_intro ⟨hm,not_lt.mp ht⟩)] at k
 w_on
 refine oM fr y x S D a n id sec ss nm ⟨rfl,d,ha,nB,nl,λH1 ms1 L1=>?_⟩
 have d1:=d.mono L1.same
 refine e_3 (d1.get) λdy a1 a2=>a_3 λhy1 _ hs1=>?_
 refine e_2 (d1.dk.get) λdx e=>a_2 λhx1 _=>?_
 cases hr':(dZ id ss nm n).1 with
 |none=>
  rw[hr'] at k
  w_end
  w_once
  exact PostD.new (zs:=[-4]) k (Ch.of d.dk.hav L1.same) d1 (by decide)
 |some r=>
 rw[hr'] at k
 dsimp only at k
 obtain ⟨hrn,hd,hh⟩:=iy n r hr'
 rw[hh] at k
 dsimp only at k
 have ok:=jy d.dk.ok hrn hh
 w_end
 w_left
 refine i_8 fr x S D n id ss r ⟨rfl,d1.dk,hrn,?_⟩
 rw[hh]
 intro b H2 ms2 L2 hb
 have d2:=d1.mono L2.same
 refine e_3 (d2.get) λdy a1' a2'=>a_3 λhy2 _ hs2=>?_
 refine e_2 (d2.dk.get) λdx e=>a_2 λhx2 _=>?_
 w_on
 refine i_9 fr x S D n id ss r hd ⟨rfl,d2.dk,hrn,hh,λp3 bs H3 ms3 L3 hR3 hN3=>?_⟩
 obtain ⟨dt,d8⟩:=lH d.dk.ok hrn hh
 generalize bH id ss r hd=R8 at *
 obtain ⟨fl,fb⟩:=uL dt.lens
 w_on
 refine i_3 p3 bs _ ⟨rfl,hR3,by rw[fl,d8];decide,λp4 H4 M4=>?_⟩
 have L4:=L3.calls M4
 have L34:=M4.get 0 rfl
 w_on
 refine i_6 b a2' p4 hd sec _ ⟨rfl,SqL.of (L4.same _ _ (L2.same _ _ (res_up _ _ hb))),L4.arg hs2,SqL.of L34,ok,d.sB,by rw[d.sl];decide,fb,by rw[fl,d8],?_⟩
 have L04:=(L1.calls L2).calls L4
 have d4:=d.mono L04.same
 cases ho:opn sec hd R8.flatten with
 |none=>
  rw[ho] at k
  intro H5 L5
  w_end
  w_once
  w_once
  exact PostD.new (zs:=[-5]) k (Ch.of d.dk.hav (L04.calls L5).same) (d4.mono L5.same) (by decide)
 |some z=>
  rw[ho] at k
  dsimp only at k
  obtain ⟨z1,z2,z3,z4⟩:=Bh ok fb ho
  intro q5 a5 b5 H5 L5
  have d5:=d4.mono L5.same
  have L05:=L04.calls L5
  have hq5:=L5.get 0 rfl
  w_end
  w_left
  refine i_4 q5 _ 0 _ ⟨rfl,rfl,SqT.of hq5,at_of rfl rfl,?_⟩
  w_on
  refine pE (L5.lst 1 rfl) (L05.arg ha) ?_
  w_on
  refine gu (λhne=>?_) (λheq=>?_)
  ·rw[if_neg hne] at k
   w_on
   exact k.new (Ch.of d.dk.hav L05.same) d5 (by decide)
  ·rw[if_pos heq] at k
   have hb5:=L5.lst (K:=K) 2 rfl
   w_on
   refine i_4 q5 _ 1 _ ⟨rfl,rfl,SqT.of hq5,at_of rfl rfl,?_⟩
   w_on
   refine bZ (λhg=>?_) (λhg=>?_)
   ·rw[if_pos hg] at k
    w_on
    exact k.new (Ch.of d.dk.hav L05.same) d5 (by decide)
   ·rw[if_neg hg] at k
    w_on
    refine aF (xs:=nv [z.2.length]) (Loc.start H5) (by show 1<=sizeLine;decide) λp6 H6 L6=>?_
    w_on
    refine ay L6 (L6.lst 0 rfl) (L6.arg hb5) (by rw[sizeLine_eq,length_singleton];lia) λp7 H7 L7=>?_
    have e7:nv ([z.2.length]++z.2)=iv ([(z.2.length:Int)]++z.2.map λ(z:Nat)=>(z:Int)):=by rw[wp];rfl
    rw[e7] at L7
    exact k p7 H7 (Ch.of d.dk.hav (L05.same.trans L7.same)) (d5.mono L7.same) (L7.resn d5.dk.hav 1 rfl)
def zr (ss:LL)(r:Nat):LL:=cP ss r (λ_=>replicate 512 0) 12
def lF (id:NL)(ss:LL)(n:Nat)(nm:NL):LL×List Int:=
 if ¬ (decide (1<=nm.length) && decide (nm.length<=35))=true then (ss,[-2])
 else match (dZ id ss nm n).1 with
  |none=>(ss,[-4])
  |some r=>(zr ss r,[(r:Int)])
def jJ (K:Frag)(ad:Adr):Sp:=λvs H Q _=>∃(fr:Addr->Prop)(y x S D a:Addr)(n:Nat)(id sec:NL)(ss:LL)(nm:NL),vs=[.ref y,.ref a]/\Dsk K ad fr H y x S D n id sec ss/\SqL K H a (nv nm)/\Bytes nm/\nm.length<6000/\PostD K ad fr H y x S D n id sec (lF id ss n nm) Q
abbrev eZ:Stmt:=inClass (top 90) 5
theorem sc_Desk_drop:FnScope ["self","name","row"] ["self","name"] (Dg eZ):=by walk_at "sc"
theorem um {f:Addr}{fd:FuncData}(F:Fun K "drop" "Desk.drop" eZ f fd)(T:Txt K mg ad)(C_Disk_clear_row:Method P w K mg base 11 ad.Disk "clear_row" ["self","row"] (dN K ad))(C_can_be_name_length:Callee P w K mg base 1 "can_be_name_length" ["length"] (aT K))(C_Desk_row_of:Method P w K mg base 8 ad.Desk "row_of" ["self","name"] (dS K ad)):FnOk P w K mg base CX0 12 f fd ["self","name"] (jJ K ad):=by
 refine F.ok sc_Desk_drop (λvs H Q E h=>?_) (λcdv A outer s H vs Q E hr h=>?_)
 ·k_go0
 refine oS h λfr y x S D a n id sec ss nm=>a_6 λez d ha nB nl k=>?_;clear h;subst ez
 refine ⟨_,(Df (DF (Ey (Eb (ab C_can_be_name_length hr.m rfl (Dd (DE (az (K:=K) rfl) (by rfl) T.n_len aK (Dd (pv 1) De)) De)))) (Di (Dm (DA (Dd (D5 DT Dh) De)))) Dx)
   (Df (Dl (i:=2) sc_Desk_drop.nd rfl (Or.inl rfl) (ak T.c_Desk C_Desk_row_of hr.m (pv 0) (Dd (pv 1) De)))
   (Df (DF (Dt Ez (pv 2) DQ (Dv _)) (Di (Dm (DA (Dd (D5 DT Dh) De)))) Dx)
   (Df (DG (ak T.c_Disk C_Disk_clear_row hr.m (Ds (pv 0) rfl) (Dd (pv 2) De)))
   (Di (Dm (DA (Dd (pv 2) De)))))))),?_⟩
 walk_at "cDisk"
 walk_at "cDesk"
 refine e_3 (d.get) λdy a1 a2=>a_3 λhy _ _=>?_
 have c0:Ch fr S D H H:=Ch.refl d.dk.hav
 unfold lF at k
 k_go
 refine ⟨nm.length,rfl,?_⟩
 refine ⟨_,rfl,?_⟩
 w_on
 cases hm:(decide (1<=nm.length) && decide (nm.length<=35)) with
 |false=>
  rw[if_pos (λz=>by rw[hm] at z;exact absurd z Bool.false_ne_true)] at k
  refine ite_tt ?_
  w_on
  exact k.new c0 d (by decide)
 |true=>
 rw[if_neg (not_not_intro hm)] at k
 refine ite_ff ?_
 w_on
 refine oM fr y x S D a n id sec ss nm ⟨rfl,d,ha,nB,nl,λH1 ms1 L1=>?_⟩
 have d1:=d.mono L1.same
 refine e_3 (d1.get) λdy a1 a2=>a_3 λhy1 _ _=>?_
 refine e_2 (d1.dk.get) λdx e=>a_2 λhx1 _=>?_
 cases hr':(dZ id ss nm n).1 with
 |none=>
  rw[hr'] at k
  w_end
  w_once
  exact k.new (Ch.of d.dk.hav L1.same) d1 (by decide)
 |some r=>
  rw[hr'] at k
  w_end
  w_left
  refine i_8 fr x S D n id ss r ⟨rfl,d1.dk,(iy n r hr').1,λH2 c2 d2=>?_⟩
  w_on
  exact k.new ((Ch.of d.dk.hav L1.same).trans c2) (d1.ch c2 d2) (by show 1<=sizeLine;decide)
def gh (K:Frag)(ad:Adr):Sp:=λvs H Q _=>∃(fr:Addr->Prop)(y x S D:Addr)(n:Nat)(id sec:NL)(ss:LL)(r:Nat),vs=[.ref y,.int (r:Int)]/\Dsk K ad fr H y x S D n id sec ss/\PostD K ad fr H y x S D n id sec (if n<=r then (ss,[-2]) else (zr ss r,[0])) Q
abbrev bQ:Stmt:=inClass (top 90) 6
theorem nt:FnScope ["self","row"] ["self","row"] (Dg bQ):=by walk_at "sc"
theorem nD {f:Addr}{fd:FuncData}(F:Fun K "clear_row" "Desk.clear_row" bQ f fd)(T:Txt K mg ad)(C_Disk_clear_row:Method P w K mg base 11 ad.Disk "clear_row" ["self","row"] (dN K ad)):FnOk P w K mg base CX0 12 f fd ["self","row"] (gh K ad):=by
 refine F.ok nt (λvs H Q E h=>?_) (λcdv A outer s H vs Q E hr h=>?_)
 ·k_go0
 refine rH h λfr y x S D n id sec ss r=>a_3 λez d k=>?_;clear h;subst ez
 refine ⟨_,(Df (DF (Dt Fl (pv 1) (Ds (Ds (pv 0) rfl) rfl) (Dv _)) (Di (Dm (DA (Dd (D5 DT Dh) De)))) Dx)
   (Df (DG (ak T.c_Disk C_Disk_clear_row hr.m (Ds (pv 0) rfl) (Dd (pv 1) De)))
   (Di (Dm (DA (Dd Dh De)))))),?_⟩
 walk_at "cDisk"
 walk_at "cDesk"
 refine e_3 (d.get) λdy a1 a2=>a_3 λhy _ _=>?_
 refine e_2 (d.dk.get) λdx e=>a_2 λhx _=>?_
 k_go
 refine bZ (λhc=>?_) (λhc=>?_)
 ·rw[if_pos hc] at k
  w_on
  exact k.new (Ch.refl d.dk.hav) d (by decide)
 ·rw[if_neg hc] at k
  w_on
  refine i_8 fr x S D n id ss r ⟨rfl,d.dk,not_le.mp hc,λH2 c2 d2=>?_⟩
  w_on
  exact k.new c2 (d.ch c2 d2) (by decide)
def rst (id:NL)(ss:LL)(r:Nat):Nat:=if dG id ss r=true then 0 else if (aC (ag id ss r)).isNone=true then 2 else 1
def eD (K:Frag)(ad:Adr):Sp:=λvs H Q _=>∃(fr:Addr->Prop)(y x S D:Addr)(n:Nat)(id sec:NL)(ss:LL)(r:Nat),vs=[.ref y,.int (r:Int)]/\Dsk K ad fr H y x S D n id sec ss/\r<n/\∀H' ms,Loc H H' ms->Q (.int ((rst id ss r:Nat):Int)) H'
abbrev cp:Stmt:=inClass (top 90) 7
theorem n8:FnScope ["self","row"] ["self","row"] (Dg cp):=by walk_at "sc"
theorem oE {f:Addr}{fd:FuncData}(F:Fun K "state_of" "Desk.state_of" cp f fd)(T:Txt K mg ad)(C_Disk_is_empty:Method P w K mg base 2 ad.Disk "is_empty" ["self","row"] (eC K ad))(C_Disk_head_of:Method P w K mg base 2 ad.Disk "head_of" ["self","row"] (bg K ad)):FnOk P w K mg base CX0 3 f fd ["self","row"] (eD K ad):=by
 refine F.ok n8 (λvs H Q E h=>?_) (λcdv A outer s H vs Q E hr h=>?_)
 ·k_go0
 refine rH h λfr y x S D n id sec ss r=>a_4 λez d hr' k=>?_;clear h;subst ez
 refine ⟨_,(Df (DF (Eb (ak T.c_Disk C_Disk_is_empty hr.m (Ds (pv 0) rfl) (Dd (pv 1) De))) (Di (Dm Dh)) Dx)
   (Di (Dm (Ee (Dt Ez (ak T.c_Disk C_Disk_head_of hr.m (Ds (pv 0) rfl) (Dd (pv 1) De)) DQ (Dv _)) Dh Dh)))),?_⟩
 walk_at "cDisk"
 walk_at "cDesk"
 refine e_3 (d.get) λdy a1 a2=>a_3 λhy _ _=>?_
 refine e_2 (d.dk.get) λdx e=>a_2 λhx _=>?_
 unfold rst at k
 k_go
 refine i_8 fr x S D n id ss r ⟨rfl,d.dk,hr',λH1 ms1 L1=>?_⟩
 have d1:=d.mono L1.same
 refine e_3 (d1.get) λdy a1 a2=>a_3 λhy1 _ _=>?_
 refine e_2 (d1.dk.get) λdx e=>a_2 λhx1 _=>?_
 refine ⟨_,rfl,?_⟩
 rw[show decide (hX (ag id ss r) none=12)=dG id ss r from rfl]
 cases he:dG id ss r with
 |true=>
  rw[he,if_pos rfl] at k
  refine ite_tt ?_
  w_on
  exact k H1 _ L1
 |false=>
  rw[he,if_neg Bool.false_ne_true] at k
  refine ite_ff ?_
  w_on
  refine i_8 fr x S D n id ss r ⟨rfl,d1.dk,hr',?_⟩
  cases hh:aC (ag id ss r) with
  |none=>
   rw[hh] at k
   intro H2 ms2 L2
   w_end
   w_once
   exact k H2 _ (L1.calls L2)
  |some hd=>
   rw[hh] at k
   intro b H2 ms2 L2 hb
   w_end
   w_left
   exact k H2 _ (L1.calls L2)
def m6 (id:NL)(ss:LL)(n r:Nat):List Int:=
 if n<=r then [-2] else match aC (ag id ss r) with
  |some hd=>if dG id ss r=true then [0] else [1]++(little 8 (hOf hd).number++(hOf hd).name).map λ(z:Nat)=>(z:Int)
  |none=>[(rst id ss r:Int)]
def jG (K:Frag)(ad:Adr):Sp:=λvs H Q _=>∃(fr:Addr->Prop)(y x S D:Addr)(n:Nat)(id sec:NL)(ss:LL)(r:Nat),vs=[.ref y,.int (r:Int)]/\Dsk K ad fr H y x S D n id sec ss/\PostD K ad fr H y x S D n id sec (ss,m6 id ss n r) Q
abbrev eW:Stmt:=inClass (top 90) 9
theorem sc_Desk_look:FnScope ["self","row","state","head"] ["self","row"] (Dg eW):=by walk_at "sc"
theorem uj {f:Addr}{fd:FuncData}(F:Fun K "look" "Desk.look" eW f fd)(T:Txt K mg ad)(C_low_first:Callee P w K mg base 1 "low_first" ["number","count"] (bV K))(C_head_number:Callee P w K mg base 3 "head_number" ["head"] (aW K))(C_head_name_sum:Callee P w K mg base 1 "head_name_sum" ["head"] (bq K))(C_Disk_head_of:Method P w K mg base 2 ad.Disk "head_of" ["self","row"] (bg K ad))(C_Desk_state_of:Method P w K mg base 3 ad.Desk "state_of" ["self","row"] (eD K ad)):FnOk P w K mg base CX0 4 f fd ["self","row"] (jG K ad):=by
 refine F.ok sc_Desk_look (λvs H Q E h=>?_) (λcdv A outer s H vs Q E hr h=>?_)
 ·k_go0
 refine rH h λfr y x S D n id sec ss r=>a_3 λez d k=>?_;clear h;subst ez
 refine ⟨_,(Df (DF (Dt Fl (pv 1) (Ds (Ds (pv 0) rfl) rfl) (Dv _)) (Di (Dm (DA (Dd (D5 DT Dh) De)))) Dx)
   (Df (Dl (i:=2) sc_Desk_look.nd rfl (Or.inl rfl) (ak T.c_Desk C_Desk_state_of hr.m (pv 0) (Dd (pv 1) De)))
   (Df (DF (Dt GA (pv 2) Dh (Dv _)) (Di (Dm (DA (Dd (pv 2) De)))) Dx)
   (Df (Dl (i:=3) sc_Desk_look.nd rfl (Or.inl rfl) (ak T.c_Disk C_Disk_head_of hr.m (Ds (pv 0) rfl) (Dd (pv 1) De)))
   (Di (Dm (Dj (ao (K:=K) rfl) (Dj (ao (K:=K) rfl) (DA (Dd (pv 2) De)) (ab C_low_first hr.m rfl (Dd (ab C_head_number hr.m rfl (Dd (pv 3) De)) (Dd Dh De)))) (ab C_head_name_sum hr.m rfl (Dd (pv 3) De))))))))),?_⟩
 walk_at "cDisk"
 walk_at "cDesk"
 refine e_3 (d.get) λdy a1 a2=>a_3 λhy _ _=>?_
 refine e_2 (d.dk.get) λdx e=>a_2 λhx _=>?_
 unfold m6 at k
 k_go
 refine bZ (λhc=>?_) (λhc=>?_)
 ·rw[if_pos hc] at k
  w_on
  exact k.new (Ch.refl d.dk.hav) d (by decide)
 rw[if_neg hc] at k
 have hrn:=not_le.mp hc
 w_on
 refine mI fr y x S D n id sec ss r ⟨rfl,d,hrn,λH1 ms1 L1=>?_⟩
 have d1:=d.mono L1.same
 refine e_3 (d1.get) λdy a1 a2=>a_3 λhy1 _ _=>?_
 refine e_2 (d1.dk.get) λdx e=>a_2 λhx1 _=>?_
 have c1:Ch fr S D H H1:=Ch.of d.dk.hav L1.same
 w_on
 refine gu (λhs=>?_) (λhs=>?_)
 ·w_on
  have e:∀A:List Int,(match aC (ag id ss r) with|some hd=>if dG id ss r=true then ([0]:List Int) else A|none=>[(rst id ss r:Int)])=[(rst id ss r:Int)]:=λA=>by
   cases hh:aC (ag id ss r) with
   |none=>rfl
   |some hd=>
    dsimp only
    have es:rst id ss r=if dG id ss r=true then 0 else 1:=by unfold rst;rw[hh];rfl
    cases he:dG id ss r with
    |true=>rw[es,he];rfl
    |false=>exact absurd (by rw[es,he];rfl) hs
  have k':PostD K ad fr H y x S D n id sec (ss,[(rst id ss r:Int)]) Q:=by
   cases hh:aC (ag id ss r) with
   |none=>rw[hh] at k;exact k
   |some hd=>
    rw[hh] at k
    dsimp only at k
    have:=e ([1]++(little 8 (hOf hd).number++(hOf hd).name).map λ(z:Nat)=>(z:Int))
    rw[hh] at this
    dsimp only at this
    rw[this] at k
    exact k
  exact k'.new c1 d1 (by show 1<=sizeLine;decide)
 ·have he:dG id ss r=false:=by
   cases he:dG id ss r with
   |true=>unfold rst at hs;rw[he] at hs;cases hs
   |false=>rfl
  obtain ⟨hd,hh⟩:∃hd,aC (ag id ss r)=some hd:=by
   cases hh:aC (ag id ss r) with
   |none=>unfold rst at hs;rw[he,hh] at hs;cases hs
   |some hd=>exact ⟨hd,rfl⟩
  rw[hh] at k
  dsimp only at k
  rw[he,if_neg Bool.false_ne_true] at k
  have ok:=jy d.dk.ok hrn hh
  w_on
  refine i_8 fr x S D n id ss r ⟨rfl,d1.dk,hrn,?_⟩
  rw[hh]
  intro b H2 ms2 L2 hb
  have hb2:SqL K H2 b (nv hd):=SqL.of (L2.same _ _ (res_up _ _ hb))
  have d2:=d1.mono L2.same
  rw[hs]
  w_on
  refine aF (xs:=nv [1]) (Loc.start H2) (by show 1<=sizeLine;decide) λp3 H3 L3=>?_
  w_on
  refine bf L3 (L3.arg hb2) ok.len ok.by_ λH4 L4=>?_
  w_on
  refine cR L4 (by decide) λp5 H5 L5=>?_
  refine ay L5 (L5.lst 0 rfl) (L5.lst 1 rfl) (by rw[am];decide) λp6 H6 L6=>?_
  w_on
  refine gp L6 (L6.arg hb2) ok.len λp7 H7 L7=>?_
  have nl:(hOf hd).name.length=20:=e9 (by rw[ok.len];decide)
  refine ay L7 (L7.lst 2 rfl) (L7.lst 3 rfl) (by rw[length_append,am,nl];decide) λp8 H8 L8=>?_
  have e8:nv ([1]++little 8 (hOf hd).number++(hOf hd).name)=iv ([1]++(little 8 (hOf hd).number++(hOf hd).name).map λ(z:Nat)=>(z:Int)):=by rw[wp,append_assoc];rfl
  rw[e8] at L8
  exact k p8 H8 (c1.trans ((Ch.of d1.dk.hav L2.same).trans (Ch.of d2.dk.hav L8.same))) (d2.mono L8.same) (L8.resn d2.dk.hav 4 rfl)
def jI (K:Frag)(ad:Adr):Sp:=λvs H Q _=>∃(fr:Addr->Prop)(y x S D:Addr)(n:Nat)(id sec:NL)(ss:LL)(p b:Nat),vs=[.ref y,.int (p:Int),.int (b:Int)]/\Dsk K ad fr H y x S D n id sec ss/\p<6144*n/\b<256/\PostD K ad fr H y x S D n id sec (ss.set (p/512) ((ss.getD (p/512) []).set (p%512) b),[0]) Q
abbrev eY:Stmt:=inClass (top 90) 10
theorem tR:FnScope ["self","at","byte"] ["self","at","byte"] (Dg eY):=by walk_at "sc"
theorem ul {f:Addr}{fd:FuncData}(F:Fun K "harm" "Desk.harm" eY f fd)(T:Txt K mg ad)(C_Disk_set_byte:Method P w K mg base 11 ad.Disk "set_byte" ["self","at","byte"] (gx K ad)):FnOk P w K mg base CX0 12 f fd ["self","at","byte"] (jI K ad):=by
 refine F.ok tR (λvs H Q E h=>?_) (λcdv A outer s H vs Q E hr h=>?_)
 ·k_go0
 refine oS h λfr y x S D n id sec ss p b=>a_5 λez d hp hb k=>?_;clear h;subst ez
 refine ⟨_,(Df (DG (ak T.c_Disk C_Disk_set_byte hr.m (Ds (pv 0) rfl) (Dd (pv 1) (Dd (pv 2) De))))
   (Di (Dm (DA (Dd Dh De))))),?_⟩
 walk_at "cDisk"
 walk_at "cDesk"
 refine e_3 (d.get) λdy a1 a2=>a_3 λhy _ _=>?_
 refine e_2 (d.dk.get) λdx e=>a_2 λhx _=>?_
 k_go
 refine i_9 fr x S D n id ss p b ⟨rfl,d.dk,hp,hb,λH2 c2 d2=>?_⟩
 w_on
 exact k.new c2 (d.ch c2 d2) (by decide)
def ff (K:Frag)(ad:Adr):Sp:=λvs H Q _=>∃(fr:Addr->Prop)(y x S D:Addr)(n:Nat)(id sec:NL)(ss:LL)(i j:Nat),vs=[.ref y,.int (i:Int),.int (j:Int)]/\Dsk K ad fr H y x S D n id sec ss/\i<12*n/\j<12*n/\PostD K ad fr H y x S D n id sec (ss.set j (ss.getD i []),[0]) Q
abbrev bC:Stmt:=inClass (top 90) 11
theorem lO:FnScope ["self","source","target"] ["self","source","target"] (Dg bC):=by walk_at "sc"
theorem lQ {f:Addr}{fd:FuncData}(F:Fun K "copy_sector" "Desk.copy_sector" bC f fd)(T:Txt K mg ad)(C_Disk_copy_sector:Method P w K mg base 11 ad.Disk "copy_sector" ["self","source","target"] (fe K ad)):FnOk P w K mg base CX0 12 f fd ["self","source","target"] (ff K ad):=by
 refine F.ok lO (λvs H Q E h=>?_) (λcdv A outer s H vs Q E hr h=>?_)
 ·k_go0
 refine oS h λfr y x S D n id sec ss i j=>a_5 λez d hi hj k=>?_;clear h;subst ez
 refine ⟨_,(Df (DG (ak T.c_Disk C_Disk_copy_sector hr.m (Ds (pv 0) rfl) (Dd (pv 1) (Dd (pv 2) De))))
   (Di (Dm (DA (Dd Dh De))))),?_⟩
 walk_at "cDisk"
 walk_at "cDesk"
 refine e_3 (d.get) λdy a1 a2=>a_3 λhy _ _=>?_
 refine e_2 (d.dk.get) λdx e=>a_2 λhx _=>?_
 k_go
 refine i_9 fr x S D n id ss i j ⟨rfl,d.dk,hi,hj,λH2 c2 d2=>?_⟩
 w_on
 exact k.new c2 (d.ch c2 d2) (by decide)
end
section
variable {P:Program}{w:World}{K:Frag}{mg:Str->Option Value}{base:Heap}{ad:Adr}
def jp (id:NL)(ss s:LL)(r:Nat):LL:=match aC (ag id ss r) with
 |some hd=>cP s r (wrF hd (bH id ss r hd)) 12
 |none=>s
def aQ (id:NL)(ss:LL)(m:Nat):LL:=(range m).foldl (jp id ss) ss
def lA (id:NL)(ss:LL)(r:Nat):Nat:=match aC (ag id ss r) with
 |some hd=>chg ss r (wrF hd (bH id ss r hd)) 12
 |none=>0
def lB (id:NL)(ss:LL)(m:Nat):Nat:=(range m).foldl (λc r=>c+lA id ss r) 0
theorem iJ (id:NL)(ss:LL)(m:Nat):aQ id ss (m+1)=jp id ss (aQ id ss m) m:=by
 unfold aQ
 rw[range_succ,foldl_append]
 rfl
theorem wr (id:NL)(ss:LL)(m:Nat):lB id ss (m+1)=lB id ss m+lA id ss m:=by
 unfold lB
 rw[range_succ,foldl_append]
 rfl
theorem xI (id:NL)(ss s:LL)(r:Nat):(jp id ss s r).length=s.length:=by
 unfold jp
 split
 ·exact iV _ _ _ _
 ·rfl
theorem eI (id:NL)(ss:LL):∀m,(aQ id ss m).length=ss.length
 |0=>rfl
 |m+1=>by rw[iJ,xI,eI id ss m]
theorem j8 {id:NL}{ss:LL}:∀m j,12*m<=ss.length->12*m<=j->(aQ id ss m).getD j []=ss.getD j []
 |0,j,_,_=>rfl
 |m+1,j,h,hj=>by
  rw[iJ]
  unfold jp
  split
  ·rw[iu 12 j (by rw[eI];lia),if_neg (by lia),j8 m j (by lia) (by lia)]
  ·exact j8 m j (by lia) (by lia)
theorem vI {id:NL}{ss ts:LL}{r:Nat}(h:∀i,i<12->ts.getD (12*r+i) []=ss.getD (12*r+i) []):ag id ts r=ag id ss r:=by
 unfold ag
 exact map_congr_left λi hi=>by rw[h i (mem_range.mp hi)]
theorem oT {id:NL}{ss ts:LL}{r:Nat}(hd:NL)(h:∀i,i<12->ts.getD (12*r+i) []=ss.getD (12*r+i) []):bH id ts r hd=bH id ss r hd:=by
 unfold bH
 rw[vI h,show shs ts r=shs ss r from map_congr_left λi hi=>by rw[h i (mem_range.mp hi)]]
theorem By {ss ts:LL}{r:Nat}(f:Nat->NL)(h:∀i,i<12->ts.getD (12*r+i) []=ss.getD (12*r+i) []):chg ts r f 12=chg ss r f 12:=by
 unfold chg
 congr 1
 exact filter_congr λi hi=>by rw[h i (mem_range.mp hi)]
theorem rst_one {id:NL}{ss:LL}{r:Nat}:rst id ss r=1 ↔ (aC (ag id ss r)).isSome=true:=by
 unfold rst
 cases hh:aC (ag id ss r) with
 |none=>cases dG id ss r<;>simp
 |some hd=>
  have he:dG id ss r=false:=by
   unfold dG
   refine decide_eq_false λh=>?_
   have h8:=(i9 hh).1
   have hl:=jP id ss r
   unfold hX at h h8
   have e:(ag id ss r).countP (λe=>decide (e=none))+(ag id ss r).countP (λe=>decide (e=some hd))<=(ag id ss r).length:=by
    generalize ag id ss r=l
    induction l with
    |nil=>exact le_refl _
    |cons a l ih=>
     rw[countP_cons,countP_cons,length_cons]
     cases a with
     |none=>simp;lia
     |some b=>simp;split<;>lia
   lia
  rw[he]
  simp
def wq (id:NL)(ss:LL)(n:Nat):LL×List Int:=(aQ id ss n,[(lB id ss n:Int),(((range n).map (rst id ss)).countP λe=>decide (e=1):Nat),(((range n).map (rst id ss)).countP λe=>decide (e=2):Nat),(((range n).map (rst id ss)).countP λe=>decide (e=0):Nat)])
theorem tZ {H:Hp}{Q:VK}{p:Addr}{xs:NL}{z:Nat}(hs:SqL K H p (nv xs))(q:Q (.int ((xs.countP λe=>decide (e=z):Nat):Int)) H):wj K (.ref p) [.int (z:Int)] H Q:=by
 refine i_5 p (nv xs) (.int (z:Int)) (.int (z:Int)) (dts xs) ⟨rfl,rfl,hs,lG xs,.int _,rfl,λe he=>?_,?_⟩
 ·unfold dts at he
  refine e_1 (mem_map.mp he) λo=>a_2 λ_ ez=>?_;subst ez
  rfl
 ·unfold dts
  rw[countP_map,show ((λe=>PyData.eqv e (PyData.int (z:Int))) ∘ λ(n:Nat)=>PyData.int (n:Int))=λe=>decide (e=z) from funext λe=>?_]
  ·exact q
  ·show PyData.eqv (PyData.int (e:Int)) (PyData.int (z:Int))=_
   by_cases h:e=z
   ·subst h;simp[PyData.eqv]
   ·rw[decide_eq_false h];simp[PyData.eqv];lia
def jF (K:Frag)(ad:Adr):Sp:=λvs H Q _=>∃(fr:Addr->Prop)(y x S D:Addr)(n:Nat)(id sec:NL)(ss:LL),vs=[.ref y]/\Dsk K ad fr H y x S D n id sec ss/\PostD K ad fr H y x S D n id sec (wq id ss n) Q
abbrev dA:Stmt:=inClass (top 90) 8
theorem sc_Desk_mend:FnScope ["self","row","states","mended"] ["self"] (Dg dA):=by walk_at "sc"
theorem ui {f:Addr}{fd:FuncData}(F:Fun K "mend" "Desk.mend" dA f fd)(T:Txt K mg ad)(C_Disk_write_row:Method P w K mg base 11 ad.Disk "write_row" ["self","row","head","data"] (dM K ad))(C_Disk_head_of:Method P w K mg base 2 ad.Disk "head_of" ["self","row"] (bg K ad))(C_Disk_data_of:Method P w K mg base 6 ad.Disk "data_of" ["self","row"] (fk K ad))(C_Desk_state_of:Method P w K mg base 3 ad.Desk "state_of" ["self","row"] (eD K ad)):FnOk P w K mg base CX0 12 f fd ["self"] (jF K ad):=by
 refine F.ok sc_Desk_mend (λvs H Q E h=>?_) (λcdv A outer s H vs Q E hr h=>?_)
 ·k_go0
 refine e_9 h λfr y x S D n id sec ss=>a_3 λez d k=>?_;clear h;subst ez
 refine ⟨_,(Df (Ei (i:=2) rfl sc_Desk_mend.nd rfl rfl (El rfl rfl rfl rfl) (DK rfl T.n_range (Dd (Ds (Ds (pv 0) rfl) rfl) De)) (DH (own:=[("row",1)]) (by show DX ["self","row","states","mended"] (Dg dA) _ _=true;decide +kernel)) (λ_ _ _ _ _=>Dr (i:=1) sc_Desk_mend.nd rfl (Or.inl rfl)) (λ_ _ _ _ _=>DM) (λ_ _ _ _ _=>(ak T.c_Desk C_Desk_state_of hr.m (pv 0) (Dd (pv 1) De))))
   (Df (Dl (i:=3) sc_Desk_mend.nd rfl (Or.inl rfl) Dh)
   (Df (DN PassesOwn.never rfl (DK rfl T.n_range (Dd (Ds (Ds (pv 0) rfl) rfl) De)) (Dr (i:=1) sc_Desk_mend.nd rfl (Or.inl rfl)) (Di (DF (Dt D8 (Du (ae (K:=K) rfl) (pv 2) (pv 1) (λ_ _=>rfl)) Dh (Dv _)) (Di (Dl (i:=3) sc_Desk_mend.nd rfl (Or.inl rfl) (Dj DB (pv 3) (ak T.c_Disk C_Disk_write_row hr.m (Ds (pv 0) rfl) (Dd (pv 1) (Dd (ak T.c_Disk C_Disk_head_of hr.m (Ds (pv 0) rfl) (Dd (pv 1) De)) (Dd (ak T.c_Disk C_Disk_data_of hr.m (Ds (pv 0) rfl) (Dd (pv 1) De)) De))))))) Dx)))
   (Di (Dm (DA (Dd (pv 3) (Dd (D2 PySem.F.plainAttrs_list PySem.F.slot_list_count PySem.F.type_list_count (kT (K:=K) rfl hr) (pv 2) (Dd Dh De)) (Dd (D2 PySem.F.plainAttrs_list PySem.F.slot_list_count PySem.F.type_list_count (kT (K:=K) rfl hr) (pv 2) (Dd Dh De)) (Dd (D2 PySem.F.plainAttrs_list PySem.F.slot_list_count PySem.F.type_list_count (kT (K:=K) rfl hr) (pv 2) (Dd Dh De)) De)))))))))),?_⟩
 walk_at "cDisk"
 walk_at "cDesk"
 have n3:=d.dk.ok.n3
 have n1:=d.dk.ok.n1
 refine e_3 (d.get) λdy a1 a2=>a_3 λhy _ _=>?_
 refine e_2 (d.dk.get) λdx e=>a_2 λhx _=>?_
 k_go
 refine ⟨_,rfl,by lia,by lia,?_⟩
 rw[Int.toNat_natCast]
 refine zp (Loc.start H) (by rw[sizeLine_eq];lia) (rst id ss) ?_ ?_
 ·intro i hi H1 R sm r
  have d1:=d.mono sm
  refine e_3 (d1.get) λdy a1 a2=>a_3 λhy1 _ _=>?_
  rw[show ((0:Int)+(i:Int))=(i:Int) by lia]
  w_on
  exact mI fr y x S D n id sec ss i ⟨rfl,d1,hi,r⟩
 ·intro p1 H1 L1
  have d1:=d.mono L1.same
  refine e_3 (d1.get) λdy a1 a2=>a_3 λhy1 _ _=>?_
  refine e_2 (d1.dk.get) λdx e=>a_2 λhx1 _=>?_
  have c1:Ch fr S D H H1:=Ch.of d.dk.hav L1.same
  have hp1:res H1 fr p1=some (.lst (nv ((range n).map (rst id ss)))):=L1.resn d.dk.hav 0 rfl
  w_on
  refine ⟨_,rfl,by lia,by lia,?_⟩
  rw[Int.toNat_natCast]
  refine cr (λi σ H'=>(∃(v1:Option V),σ = [some (.ref y),v1,some (.ref p1),some (.int ((lB id ss i:Nat):Int))])/\Ch fr S D H1 H'/\Dsk K ad fr H' y x S D n id sec (aQ id ss i)) ⟨⟨_,rfl⟩,Ch.refl d1.dk.hav,d1⟩ ?_ ?_
  ·rintro i σ H2 hi ⟨⟨v1,rfl⟩,c2,d2⟩
   refine e_3 (d2.get) λdy a1 a2=>a_3 λhy2 _ _=>?_
   refine e_2 (d2.dk.get) λdx e=>a_2 λhx2 _=>?_
   have hp2:SqL K H2 p1 (nv ((range n).map (rst id ss))):=SqL.of (res_up _ _ (c2.same _ _ hp1))
   have hsame:∀m,m<12->(aQ id ss i).getD (12*i+m) []=ss.getD (12*i+m) []:=λm hm=>j8 i _ (by rw[d.dk.ok.len];lia) (by lia)
   have hst:((range n).map (rst id ss)).getD i 0=rst id ss i:=by
    rw[getD_eq_getElem?_getD,getElem?_map,getElem?_range hi];rfl
   rw[show ((0:Int)+(i:Int))=(i:Int) by lia,iJ,wr]
   w_on
   refine zk hp2 (by rw[length_map,length_range];exact hi) ?_
   rw[hst]
   w_on
   refine bZ (λh1=>?_) (λh1=>?_)
   ·obtain ⟨hd,hh⟩:=Option.isSome_iff_exists.mp (rst_one.mp h1)
    have ok:=jy d.dk.ok hi hh
    have hh2:aC (ag id (aQ id ss i) i)=some hd:=by rw[vI hsame];exact hh
    have em:jp id ss (aQ id ss i) i=cP (aQ id ss i) i (wrF hd (bH id (aQ id ss i) i hd)) 12:=by unfold jp;rw[hh,oT hd hsame]
    have ek:lA id ss i=chg (aQ id ss i) i (wrF hd (bH id (aQ id ss i) i hd)) 12:=by unfold lA;rw[hh,By _ hsame,oT hd hsame]
    rw[em,ek]
    w_on
    refine i_8 fr x S D n id _ i ⟨rfl,d2.dk,hi,?_⟩
    rw[hh2]
    intro b H3 ms3 L3 hb
    have d3:=d2.mono L3.same
    refine e_3 (d3.get) λdy a1 a2=>a_3 λhy3 _ _=>?_
    refine e_2 (d3.dk.get) λdx e=>a_2 λhx3 _=>?_
    have hb3:=oh L3.same (av:=fr) _ _ hb
    w_on
    refine i_9 fr x S D n id _ i hd ⟨rfl,d3.dk,hi,hh2,λp4 bs H4 ms4 L4 hR4 hN4=>?_⟩
    have d4:=d3.mono L4.same
    have hb4:=oh L4.same (av:=fr) _ _ hb3
    obtain ⟨dt,d8⟩:=lH d.dk.ok hi hh
    rw[<- oT hd hsame] at dt d8
    generalize bH id (aQ id ss i) i hd=R8 at *
    have hR4:Rows K (res H4 fr) p4 bs R8:=tV d3.dk.hav hR4 hN4.1 (λb hb z=>d3.dk.hav b z (hN4.2 b hb)) L4.same
    w_on
    refine Bt fr x S D n id _ i b p4 hd bs R8 ⟨rfl,d4.dk,hi,hb4,ok.len,ok.by_,hR4,dt,d8,λH5 c5 d5=>?_⟩
    w_on
    exact ⟨⟨_,rfl⟩,c2.trans ((Ch.of d2.dk.hav (L3.calls L4).same).trans c5),d4.ch c5 d5⟩
   ·have hh:aC (ag id ss i)=none:=by
     cases hh:aC (ag id ss i) with
     |none=>rfl
     |some hd=>exact absurd (rst_one.mpr (by rw[hh];rfl)) h1
    w_on
    refine ⟨⟨_,by unfold lA;rw[hh];rfl⟩,c2,?_⟩
    unfold jp
    rw[hh]
    exact d2
  ·rintro σ H2 ⟨⟨v1,rfl⟩,c2,d2⟩
   have hp2:SqL K H2 p1 (nv ((range n).map (rst id ss))):=SqL.of (res_up _ _ (c2.same _ _ hp1))
   w_on
   refine tZ hp2 ?_
   w_on
   refine tZ hp2 ?_
   w_on
   refine tZ (z:=0) hp2 ?_
   w_on
   exact PostD.new (zs:=(wq id ss n).2) k (c1.trans c2) d2 (by show 4<=sizeLine;decide)
end
section
variable {P:Program}{w:World}{K:Frag}{mg:Str->Option Value}{base:Heap}{ad:Adr}
def lI (id sec:NL)(ss:LL)(n:Nat):Deed->LL×List Int
 |.put len num nm tx=>oo id sec ss n len num nm tx
 |.get most nm=>(ss,rG id sec ss n most nm)
 |.drop nm=>lF id ss n nm
 |.clear r=>if n<=r then (ss,[-2]) else (zr ss r,[0])
 |.mend=>wq id ss n
 |.look r=>(ss,m6 id ss n r)
 |.harm p b=>(ss.set (p/512) ((ss.getD (p/512) []).set (p%512) b),[0])
 |.copy i j=>(ss.set j (ss.getD i []),[0])
inductive DAsks (n:Nat):NL->Deed->Prop
 |put (len num k:Nat) (r:NL) (hb:Bytes r) (hk:k<=r.length) (h40:k<=40) (hl:r.length<=3540):DAsks n (0 :: len :: num :: k :: r) (.put len num (r.take k) (r.drop k))
 |get (m:Nat) (r:NL) (hb:Bytes r) (hl:r.length<=40):DAsks n (1 :: m :: r) (.get m r)
 |drop (r:NL) (hb:Bytes r) (hl:r.length<=40):DAsks n (2 :: r) (.drop r)
 |clear (r:Nat):DAsks n [3,r] (.clear r)
 |mend:DAsks n [4] .mend
 |look (r:Nat):DAsks n [5,r] (.look r)
 |harm (p b:Nat) (hp:p<6144*n) (hb:b<256):DAsks n [6,p,b] (.harm p b)
 |copy (i j:Nat) (hi:i<12*n) (hj:j<12*n):DAsks n [7,i,j] (.copy i j)
theorem PostD.after {fr:Addr->Prop}{S D x y:Addr}{H H':Hp}{n:Nat}{id sec:NL}{r:LL×List Int}{Q:VK}(k:PostD K ad fr H y x S D n id sec r Q)(c:Ch fr S D H H'):PostD K ad fr H' y x S D n id sec r Q:=λp H2 c2 d2 h=>k p H2 (c.trans c2) d2 h
def g6 (K:Frag)(ad:Adr):Sp:=λvs H Q _=>∃(fr:Addr->Prop)(y x S D a:Addr)(n:Nat)(id sec:NL)(ss:LL)(c:NL)(pc:Deed),vs=[.ref y,.ref a]/\Dsk K ad fr H y x S D n id sec ss/\SqL K H a (nv c)/\DAsks n c pc/\PostD K ad fr H y x S D n id sec (lI id sec ss n pc) Q
abbrev eV:Stmt:=inClass (top 90) 12
theorem sc_Desk_take:FnScope ["self","call","which","name_end"] ["self","call"] (Dg eV):=by walk_at "sc"
theorem uh {f:Addr}{fd:FuncData}(F:Fun K "take" "Desk.take" eV f fd)(T:Txt K mg ad)(C_Desk_put:Method P w K mg base 12 ad.Desk "put" ["self","length","number","name","text"] (kg K ad))(C_Desk_get_text:Method P w K mg base 11 ad.Desk "get_text" ["self","most","name"] (gy K ad))(C_Desk_drop:Method P w K mg base 12 ad.Desk "drop" ["self","name"] (jJ K ad))(C_Desk_clear_row:Method P w K mg base 12 ad.Desk "clear_row" ["self","row"] (gh K ad))(C_Desk_mend:Method P w K mg base 12 ad.Desk "mend" ["self"] (jF K ad))(C_Desk_look:Method P w K mg base 4 ad.Desk "look" ["self","row"] (jG K ad))(C_Desk_harm:Method P w K mg base 12 ad.Desk "harm" ["self","at","byte"] (jI K ad))(C_Desk_copy_sector:Method P w K mg base 12 ad.Desk "copy_sector" ["self","source","target"] (ff K ad)):FnOk P w K mg base CX0 13 f fd ["self","call"] (g6 K ad):=by
 refine F.ok sc_Desk_take (λvs H Q E h=>?_) (λcdv A outer s H vs Q E hr h=>?_)
 ·k_go0
 refine wF h λfr y x S D a n id sec ss c pc=>a_5 λez d ha hA k=>?_;clear h;subst ez
 refine ⟨_,(Df (Dl (i:=2) sc_Desk_take.nd rfl (Or.inl rfl) (Du (ae (K:=K) rfl) (pv 1) Dh (λ_ _=>rfl)))
   (Df (DF (Dt D8 (pv 2) Dh (Dv _)) (Df (Dl (i:=3) sc_Desk_take.nd rfl (Or.inl rfl) (Dj DB Dh (Du (ae (K:=K) rfl) (pv 1) Dh (λ_ _=>rfl))))
   (Di (Dm (ak T.c_Desk C_Desk_put hr.m (pv 0) (Dd (Du (ae (K:=K) rfl) (pv 1) Dh (λ_ _=>rfl)) (Dd (Du (ae (K:=K) rfl) (pv 1) Dh (λ_ _=>rfl)) (Dd (DD (aj (K:=K) rfl) (pv 1) (Dy Dh) (Dy (pv 3))) (Dd (DD (aj (K:=K) rfl) (pv 1) (Dy (pv 3)) DP) De)))))))) Dx)
   (Df (DF (Dt D8 (pv 2) Dh (Dv _)) (Di (Dm (ak T.c_Desk C_Desk_get_text hr.m (pv 0) (Dd (Du (ae (K:=K) rfl) (pv 1) Dh (λ_ _=>rfl)) (Dd (DD (aj (K:=K) rfl) (pv 1) (Dy Dh) DP) De))))) Dx)
   (Df (DF (Dt D8 (pv 2) Dh (Dv _)) (Di (Dm (ak T.c_Desk C_Desk_drop hr.m (pv 0) (Dd (DD (aj (K:=K) rfl) (pv 1) (Dy Dh) DP) De)))) Dx)
   (Df (DF (Dt D8 (pv 2) Dh (Dv _)) (Di (Dm (ak T.c_Desk C_Desk_clear_row hr.m (pv 0) (Dd (Du (ae (K:=K) rfl) (pv 1) Dh (λ_ _=>rfl)) De)))) Dx)
   (Df (DF (Dt D8 (pv 2) Dh (Dv _)) (Di (Dm (iZ T.c_Desk C_Desk_mend hr.m (pv 0)))) Dx)
   (Df (DF (Dt D8 (pv 2) Dh (Dv _)) (Di (Dm (ak T.c_Desk C_Desk_look hr.m (pv 0) (Dd (Du (ae (K:=K) rfl) (pv 1) Dh (λ_ _=>rfl)) De)))) Dx)
   (Df (DF (Dt D8 (pv 2) Dh (Dv _)) (Di (Dm (ak T.c_Desk C_Desk_harm hr.m (pv 0) (Dd (Du (ae (K:=K) rfl) (pv 1) Dh (λ_ _=>rfl)) (Dd (Du (ae (K:=K) rfl) (pv 1) Dh (λ_ _=>rfl)) De))))) Dx)
   (Di (Dm (ak T.c_Desk C_Desk_copy_sector hr.m (pv 0) (Dd (Du (ae (K:=K) rfl) (pv 1) Dh (λ_ _=>rfl)) (Dd (Du (ae (K:=K) rfl) (pv 1) Dh (λ_ _=>rfl)) De))))))))))))),?_⟩
 walk_at "cDesk"
 refine e_3 (d.get) λdy a1 a2=>a_3 λhy _ _=>?_
 cases hA with
 |put len num m r hb hk h40 hl=>
  have cl:(0 :: len :: num :: m :: r).length=r.length+4:=rfl
  k_go
  refine ite_tt ?_
  w_on
  rw[show (0 :: len :: num :: m :: r).getD 3 0=m from rfl]
  refine ap (Loc.start H) ha λp1 H1 L1=>?_
  rw[ed (by lia) (by lia) (by rw[cl];lia),show cut (0 :: len :: num :: m :: r) (Int.toNat ((4:Nat):Int)) (Int.toNat (((4+m:Nat):Nat):Int))=r.take m by unfold cut;rw[Int.toNat_natCast,Int.toNat_natCast,add_sub_cancel_left];rfl] at L1
  w_on
  refine ap L1 (L1.arg ha) λp2 H2 L2=>?_
  rw[bp (by lia) (by rw[cl];lia),Int.toNat_natCast,show (0 :: len :: num :: m :: r).drop (4+m)=r.drop m by rw[<- drop_drop];rfl] at L2
  w_on
  exact CU fr y x S D p1 p2 n id sec ss len num _ _ ⟨rfl,d.mono L2.same,L2.lst 0 rfl,L2.lst 1 rfl,hb.take m,hb.drop m,by rw[length_take];lia,k.after (Ch.of d.dk.hav L2.same)⟩
 |get m r hb hl=>
  have cl:(1 :: m :: r).length=r.length+2:=rfl
  k_go
  refine ite_ff ?_
  w_once
  refine ap (Loc.start H) ha λp1 H1 L1=>?_
  rw[bp (by decide) (by rw[cl];lia)] at L1
  w_on
  exact Bu fr y x S D p1 n id sec ss m r ⟨rfl,d.mono L1.same,L1.lst 0 rfl,hb,by lia,k.after (Ch.of d.dk.hav L1.same)⟩
 |drop r hb hl=>
  have cl:(2 :: r).length=r.length+1:=rfl
  k_go
  refine ite_ff ?_
  w_left
  w_once
  refine ap (Loc.start H) ha λp1 H1 L1=>?_
  rw[bp (by decide) (by rw[cl];lia)] at L1
  w_on
  exact oM fr y x S D p1 n id sec ss r ⟨rfl,d.mono L1.same,L1.lst 0 rfl,hb,by lia,k.after (Ch.of d.dk.hav L1.same)⟩
 |clear r=>
  k_go
  refine ite_ff ?_
  w_left
  w_left
  w_once
  exact mI fr y x S D n id sec ss r ⟨rfl,d,k⟩
 |mend=>
  k_go
  refine ite_ff ?_
  w_left
  w_left
  w_left
  w_once
  exact i_9 fr y x S D n id sec ss ⟨rfl,d,k⟩
 |look r=>
  k_go
  refine ite_ff ?_
  w_left
  w_left
  w_left
  w_left
  w_once
  exact mI fr y x S D n id sec ss r ⟨rfl,d,k⟩
 |harm p b hp hb=>
  k_go
  refine ite_ff ?_
  w_left
  w_left
  w_left
  w_left
  w_left
  w_once
  exact oM fr y x S D n id sec ss p b ⟨rfl,d,hp,hb,k⟩
 |copy i j hi hj=>
  k_go
  refine ite_ff ?_
  w_left
  w_left
  w_left
  w_left
  w_left
  w_left
  exact oM fr y x S D n id sec ss i j ⟨rfl,d,hi,hj,k⟩
end
abbrev S512 (ss:LL):Prop:=∀s∈ss,s.length=512
theorem S512.tl {s:NL}{ss:LL}(h:S512 (s :: ss)):S512 ss:=λx hx=>h x (mem_cons_of_mem _ hx)
theorem lE {α:Type}{p q:α->Bool}:∀{l:List α},(∀a∈l,p a=q a)->l.find? p=l.find? q
 |[],_=>rfl
 |a :: l,h=>by
  rw[List.find?_cons,List.find?_cons,h a mem_cons_self,lE λb hb=>h b (mem_cons_of_mem _ hb)]
theorem jb:∀(ss:LL)(j:Nat),S512 ss->ss.flatten.drop (512*j)=(ss.drop j).flatten
 |[],j,_=>by simp
 |s :: ss,0,_=>rfl
 |s :: ss,j+1,h=>by
  rw[flatten_cons,drop_append,h s mem_cons_self,drop_eq_nil_of_le (by rw[h s mem_cons_self];lia),nil_append,List.drop_succ_cons,show 512*(j+1)-512=512*j by lia]
  exact jb ss j h.tl
theorem j5:∀(ss:LL)(j:Nat),S512 ss->ss.flatten.take (512*j)=(ss.take j).flatten
 |[],j,_=>by simp
 |s :: ss,0,_=>rfl
 |s :: ss,j+1,h=>by
  rw[flatten_cons,take_append,h s mem_cons_self,take_of_length_le (by rw[h s mem_cons_self];lia),List.take_succ_cons,flatten_cons,show 512*(j+1)-512=512*j by lia,j5 ss j h.tl]
theorem xS {α:Type}{l:List α}{j:Nat}{d:α}(h:j<l.length):l.drop j=l.getD j d :: l.drop (j+1):=by
 rw[drop_eq_getElem_cons h,getD_eq_getElem?_getD,getElem?_eq_getElem h]
 rfl
theorem mv {ss:LL}{j:Nat}(h:S512 ss)(hj:j<ss.length):Sy22.part ss.flatten (512*j) 512=ss.getD j []:=by
 unfold Sy22.part
 have e:(ss.getD j []).length=512:=h _ (by rw[getD_eq_getElem?_getD,getElem?_eq_getElem hj];exact getElem_mem hj)
 rw[jb ss j h,xS (d:=[]) hj,flatten_cons]
 exact take_left' e
theorem DOk.s512 {n:Nat}{id:NL}{ss:LL}(ok:DOk n id ss):S512 ss:=λs hs=>(ok.sec s hs).1
theorem eh {n:Nat}{id:NL}{ss:LL}(ok:DOk n id ss){r i:Nat}(hr:r<n)(hi:i<12):sector ss.flatten r i=ss.getD (12*r+i) []:=by
 unfold sector Sy22.ROW Sy22.SECTOR
 rw[show 6144*r+512*i=512*(12*r+i) by lia]
 exact mv ok.s512 (by rw[ok.len];lia)
def og (ts:LL)(r:Nat):LL:=(range 12).map λi=>ts.getD (12*r+i) []
theorem vB {ts:LL}{r:Nat}(h:12*r+12<=ts.length):og ts r=(ts.drop (12*r)).take 12:=by
 unfold og
 refine ext_getElem (by simp;lia) λi h1 h2=>?_
 have hi:i<12:=by simpa using h1
 rw[getElem_map,getElem_range,List.getElem_take,getElem_drop,getD_eq_getElem?_getD,getElem?_eq_getElem (by lia)]
 rfl
theorem yB {ts:LL}:∀n,ts.length=12*n->ts=(range n).flatMap (og ts):=by
 have key:∀m,12*m<=ts.length->ts.take (12*m)=(range m).flatMap (og ts):=by
  intro m
  induction m with
  |zero=>intro _;rfl
  |succ m ih=>
   intro h
   rw[range_succ,flatMap_append,<- ih (by lia),show 12*(m+1)=12*m+12 by lia,take_add,<- vB (by lia)]
   simp
 intro n hn
 have:=key n (by lia)
 rw[take_of_length_le (by lia)] at this
 exact this
theorem xV {ts:LL}{n:Nat}(h:ts.length=12*n):ts.flatten=(range n).flatMap λr=>(og ts r).flatten:=by
 conv=>lhs;rw[yB n h]
 induction range n with
 |nil=>rfl
 |cons a l ih=>rw[flatMap_cons,flatMap_cons,flatten_append,ih]
theorem yC {ss:LL}{r:Nat}{f:Nat->NL}(h:12*r+12<=ss.length):cP ss r f 12=ss.take (12*r)++((range 12).map f++ss.drop (12*r+12)):=by
 refine ext_getElem? λj=>?_
 by_cases hj:j<ss.length
 ·have e1:(cP ss r f 12)[j]? = some ((cP ss r f 12).getD j []):=by rw[getD_eq_getElem?_getD,getElem?_eq_getElem (by rw[iV];exact hj)];rfl
  have e2:ss[j]? = some (ss.getD j []):=by rw[getD_eq_getElem?_getD,getElem?_eq_getElem hj];rfl
  have tl:(ss.take (12*r)).length=12*r:=by rw[length_take];lia
  rw[e1,iu 12 j h]
  by_cases h1:j<12*r
  ·rw[if_neg (by lia),getElem?_append_left (by lia),getElem?_take,if_pos h1,e2]
  ·rw[getElem?_append_right (by lia),tl]
   by_cases h2:j<12*r+12
   ·rw[if_pos ⟨by lia,h2⟩,getElem?_append_left (by simp;lia),getElem?_map,getElem?_range (by lia)]
    rfl
   ·rw[if_neg (by lia),getElem?_append_right (by simp;lia),length_map,length_range,getElem?_drop,show 12*r+12+(j-12*r-12)=j by lia,e2]
 ·rw[getElem?_eq_none (by rw[iV];lia),getElem?_eq_none]
  simp only[length_append,length_take,length_map,length_range,length_drop]
  lia
theorem nM {n:Nat}{id:NL}{ss:LL}(ok:DOk n id ss){r:Nat}(hr:r<n)(f:Nat->NL):replaced ss.flatten r ((range 12).map f).flatten=(cP ss r f 12).flatten:=by
 have hl:=ok.len
 unfold replaced Sy22.ROW
 rw[yC (by lia),flatten_append,flatten_append,show 6144*r=512*(12*r) by lia,show 6144*(r+1)=512*(12*r+12) by lia,j5 _ _ ok.s512,jb _ _ ok.s512]
theorem yf:zeros 6144=((range 12).map λ_=>replicate 512 0).flatten:=by
 have:∀m,((range m).map λ_=>replicate 512 (0:Nat)).flatten=replicate (512*m) 0:=by
  intro m
  induction m with
  |zero=>rfl
  |succ m ih=>rw[range_succ,map_append,flatten_append,ih,map_cons,map_nil,flatten_cons,flatten_nil,append_nil,List.replicate_append_replicate];rfl
 rw[this]
 rfl
theorem tq:∀(ss:LL)(p b:Nat),S512 ss->ss.flatten.set p b=(ss.set (p/512) ((ss.getD (p/512) []).set (p%512) b)).flatten
 |[],p,b,_=>by simp
 |s :: ss,p,b,h=>by
  have hs:=h s mem_cons_self
  by_cases hp:p<512
  ·rw[Nat.div_eq_of_lt hp,mod_eq_of_lt hp,flatten_cons,List.set_append,if_pos (by lia)]
   rfl
  ·obtain ⟨q,rfl⟩:∃q,p=q+512:=⟨p-512,by lia⟩
   rw[Nat.add_div_right _ (by decide),Nat.add_mod_right,flatten_cons,List.set_append,if_neg (by lia),hs,Nat.add_sub_cancel,tq ss q b h.tl]
   rfl
theorem x6 {ss:LL}{i j:Nat}(h:S512 ss)(hi:i<ss.length)(hj:j<ss.length):ss.flatten.take (512*j)++(Sy22.part ss.flatten (512*i) 512++ss.flatten.drop (512*(j+1)))=(ss.set j (ss.getD i [])).flatten:=by
 rw[j5 _ _ h,jb _ _ h,mv h hi,List.set_eq_take_append_cons_drop,if_pos hj,flatten_append,flatten_cons]
theorem Ax (d:NL):Sy22.diskSum d=dq 0 d%2 ^ 32:=by
 have key:∀(l:NL)(u a:Nat),(l.zipIdx u).foldl (λ(s:Nat)(x:Nat×Nat)=>s+(x.2+1)*x.1) a=a+dq u l:=by
  intro l
  induction l with
  |nil=>intro u a;rfl
  |cons x l ih=>
   intro u a
   rw[List.zipIdx_cons,foldl_cons,ih,dq]
   show a+(u+1)*x+dq (u+1) l=a+((u+1)*x+dq (u+1) l)
   lia
 unfold Sy22.diskSum
 rw[key,zero_add]
section
variable {n:Nat}{id:NL}{ss:LL}{r:Nat}
theorem iA {s:NL}{i:Nat}:(rh id r i s).isSome=isRight id r i s:=by
 unfold rh
 cases isRight id r i s<;>rfl
theorem iW (ok:DOk n id ss)(hr:r<n):Sy22.rights id ss.flatten r=(range 12).filter λi=>isRight id r i (ss.getD (12*r+i) []):=by
 unfold Sy22.rights Sy22.SIDE
 exact filter_congr λi hi=>by rw[eh ok hr (mem_range.mp hi)]
theorem yU {i j:Nat}(hi:id.length=8){s t:NL}(hs:s.length=512)(ht:t.length=512)(h1:isRight id r i s=true)(h2:isRight id r j t=true):headOf t=headOf s ↔ rh id r j t=some (Sy22.part s 37 43):=by
 have e1:rh id r i s=some (Sy22.part s 37 43):=by unfold rh;rw[if_pos h1]
 have e2:rh id r j t=some (Sy22.part t 37 43):=by unfold rh;rw[if_pos h2]
 obtain ⟨t1,_⟩:=mX hs hi e1
 obtain ⟨t2,_⟩:=mX ht hi e2
 rw[e2,fH,fH]
 constructor
 ·intro e
  rw[t1,t2,e]
 ·intro e
  rw[Option.some.inj e]
theorem rZ (ok:DOk n id ss)(hr:r<n){i:Nat}(hi:i<12)(h1:isRight id r i (ss.getD (12*r+i) [])=true):ofHead id ss.flatten r (headOf (ss.getD (12*r+i) []))=plH (ag id ss r) (Sy22.part (ss.getD (12*r+i) []) 37 43):=by
 unfold ofHead plH
 rw[iW ok hr,List.filter_filter]
 refine filter_congr λj hj=>?_
 have hj:=mem_range.mp hj
 rw[eh ok hr hj]
 have eg:(ag id ss r).getD j none=rh id r j (ss.getD (12*r+j) []):=by
  unfold ag
  rw[getD_eq_getElem?_getD,getElem?_map,getElem?_range hj]
  rfl
 rw[eg]
 obtain ⟨_,g1,_⟩:=bG ok (show 12*r+i<12*n by lia)
 obtain ⟨_,g2,_⟩:=bG ok (show 12*r+j<12*n by lia)
 cases h2:isRight id r j (ss.getD (12*r+j) []) with
 |true=>
  rw[Bool.and_true]
  exact decide_eq_decide.mpr (yU ok.idl g1 g2 h1 h2)
 |false=>
  rw[Bool.and_false]
  symm
  refine decide_eq_false λe=>?_
  unfold rh at e
  rw[h2] at e
  cases e
theorem i8 (ok:DOk n id ss)(hr:r<n):headAt id ss.flatten r=(aC (ag id ss r)).map hOf:=by
 unfold headAt aC
 rw[iW ok hr,List.find?_map,List.find?_filter]
 have e:(range 12).find? (λi=>decide (isRight id r i (ss.getD (12*r+i) [])=true/\((λh=>decide (Sy22.NEED<=(ofHead id ss.flatten r h).length)) ∘ λi=>headOf (sector ss.flatten r i)) i=true))=(range 12).find? (iL (ag id ss r) ∘ λi=>rh id r i (ss.getD (12*r+i) [])):=by
  refine lE λi hi=>?_
  have hi:=mem_range.mp hi
  rw[show ∀X Y:Bool,decide (X=true/\Y=true)=(X && Y) by decide]
  show (_ && decide (8<=(ofHead id ss.flatten r (headOf (sector ss.flatten r i))).length))=((rh id r i (ss.getD (12*r+i) [])).isSome && decide (8<=hX (ag id ss r) (rh id r i (ss.getD (12*r+i) []))))
  rw[iA,eh ok hr hi]
  cases h1:isRight id r i (ss.getD (12*r+i) []) with
  |false=>rfl
  |true=>
   rw[rZ ok hr hi h1,qR (jP id ss r)]
   have:rh id r i (ss.getD (12*r+i) [])=some (Sy22.part (ss.getD (12*r+i) []) 37 43):=by unfold rh;rw[if_pos h1]
   rw[this]
 have e':(ag id ss r).find? (iL (ag id ss r))=((range 12).find? (iL (ag id ss r) ∘ λi=>rh id r i (ss.getD (12*r+i) []))).map λi=>rh id r i (ss.getD (12*r+i) []):=by
  conv=>lhs;arg 2;unfold ag
  rw[List.find?_map]
 rw[e,e']
 cases hf:(range 12).find? (iL (ag id ss r) ∘ λi=>rh id r i (ss.getD (12*r+i) [])) with
 |none=>rfl
 |some i=>
  have hi:=mem_range.mp (mem_of_find?_eq_some hf)
  have hg:=find?_some hf
  have hs:(rh id r i (ss.getD (12*r+i) [])).isSome=true:=by
   have:((rh id r i (ss.getD (12*r+i) [])).isSome && _)=true:=hg
   rw[Bool.and_eq_true] at this
   exact this.1
  show some (headOf (sector ss.flatten r i))=(rh id r i (ss.getD (12*r+i) [])).map hOf
  rw[eh ok hr hi,fH]
  rw[iA] at hs
  unfold rh
  rw[if_pos hs]
  rfl
theorem kc (ok:DOk n id ss)(hr:r<n){hd:NL}(h:aC (ag id ss r)=some hd):hd=(hOf hd).text id r/\ofHead id ss.flatten r (hOf hd)=plH (ag id ss r) hd/\1<=(hOf hd).number/\(hOf hd).name.length=20/\(hOf hd).number<256 ^ 8:=by
 have hm:=(i9 h).2
 unfold ag at hm
 refine e_1 (mem_map.mp hm) λi=>a_2 λhi e=>?_
 rw[mem_range] at hi
 obtain ⟨_,g1,_⟩:=bG ok (show 12*r+i<12*n by lia)
 obtain ⟨t1,t2,t3,t4⟩:=mX g1 ok.idl e
 have h1:isRight id r i (ss.getD (12*r+i) [])=true:=by rw[<- iA,e];rfl
 have:=rZ ok hr hi h1
 rw[fH,<- t3] at this
 rw[gT,Bool.and_eq_true,Bool.and_eq_true,decide_eq_true_iff,decide_eq_true_iff,decide_eq_true_iff] at t2
 exact ⟨t1,this,t2.2.1,e9 (by rw[t4];decide),lt_of_le_of_lt t2.2.2 (by decide)⟩
theorem oR (ok:DOk n id ss)(hr:r<n):empty id ss.flatten r=dG id ss r:=by
 unfold empty dG
 rw[iW ok hr,Bool.eq_iff_iff,decide_eq_true_iff,List.isEmpty_iff,filter_eq_nil_iff]
 have e:hX (ag id ss r) none=12 ↔ ∀o∈ag id ss r,o=none:=by
  unfold hX
  rw[<- jP id ss r,List.countP_eq_length]
  exact ⟨λh o ho=>of_decide_eq_true (h o ho),λh o ho=>decide_eq_true (h o ho)⟩
 rw[e]
 unfold ag
 constructor
 ·intro h o ho
  refine e_1 (mem_map.mp ho) λi=>a_2 λhi ez=>?_;subst ez
  have:=h i hi
  rw[<- iA] at this
  cases hh:rh id r i (ss.getD (12*r+i) []) with
  |none=>rfl
  |some x=>rw[hh] at this;exact absurd rfl this
 ·intro h i hi
  rw[<- iA,h _ (mem_map.mpr ⟨i,hi,rfl⟩)]
  exact Bool.false_ne_true
end
section
variable {n:Nat}{id:NL}{ss:LL}
theorem oe (ok:DOk n id ss)(nm:NL):rowOf id ss.flatten n nm=(dZ id ss nm n).1:=by
 unfold rowOf dZ
 have key:∀m,m<=n->∀best,((range m).foldl (λ(best:Option (Nat×Nat))(r:Nat)=>match headAt id ss.flatten r with
   | some h=>if h.name=sum1 nm then (match best with
    |some x=>if x.2<h.number then some (r,h.number) else best
    |none=>some (r,h.number)) else best
   |none=>best) none)=best->(best=none/\(range m).foldl (jL id ss nm) (none,0)=(none,0))\/∃q g,best=some (q,g)/\(range m).foldl (jL id ss nm) (none,0)=(some q,g):=by
  intro m
  induction m with
  |zero=>intro _ best e;exact .inl ⟨e.symm,rfl⟩
  |succ m ih=>
   intro hm best e
   rw[range_succ,foldl_append,foldl_cons,foldl_nil] at e
   rw[range_succ,foldl_append,foldl_cons,foldl_nil]
   have hmn:m<n:=by lia
   rw[i8 ok hmn] at e
   have I:=ih (by lia) _ rfl
   generalize (range m).foldl _ none=b0 at e I
   generalize (range m).foldl (jL id ss nm) (none,0)=st at I
   cases hh:aC (ag id ss m) with
   |none=>
    have es:jL id ss nm st m=st:=by unfold jL;rw[hh]
    rw[hh] at e
    rw[es,<- e]
    exact I
   |some hd=>
    have hp:=(kc ok hmn hh).2.2.1
    have es:jL id ss nm st m=if (hOf hd).name=sum 1 nm/\st.2<(hOf hd).number then (some m,(hOf hd).number) else st:=by unfold jL;rw[hh]
    rw[hh] at e
    have e:(if (hOf hd).name=sum1 nm then (match (generalizing:=false) b0 with
     |some x=>if x.2<(hOf hd).number then some (m,(hOf hd).number) else b0
     |none=>some (m,(hOf hd).number)) else b0)=best:=e
    rw[es]
    by_cases hc:(hOf hd).name=sum 1 nm
    ·rw[if_pos (show (hOf hd).name=sum1 nm from hc)] at e
     rcases I with ⟨rfl,rfl⟩|⟨q,g,rfl,rfl⟩
     ·rw[if_pos ⟨hc,hp⟩]
      exact .inr ⟨m,_,e.symm,rfl⟩
     ·dsimp only at e
      by_cases hg:g<(hOf hd).number
      ·rw[if_pos hg] at e
       rw[if_pos ⟨hc,hg⟩]
       exact .inr ⟨m,_,e.symm,rfl⟩
      ·rw[if_neg hg] at e
       rw[if_neg λz=>hg z.2]
       exact .inr ⟨q,g,e.symm,rfl⟩
    ·rw[if_neg (show ¬ (hOf hd).name=sum1 nm from hc)] at e
     rw[if_neg λz=>hc z.1,<- e]
     exact I
 rcases key n (le_refl _) _ rfl with ⟨e1,e2⟩|⟨q,g,e1,e2⟩
 ·rw[e2];exact congrArg (Option.map λ(x:Nat×Nat)=>x.1) e1
 ·rw[e2];exact congrArg (Option.map λ(x:Nat×Nat)=>x.1) e1
theorem yL (ok:DOk n id ss){x:Nat}(hx:1<=x):newer id ss.flatten n x=decide (x<=rE id ss n):=by
 obtain ⟨f1,f2,f3⟩:=mM (((range (12*n)).filter λj=>(fI id ss j).isSome).map λj=>(hOf ((fI id ss j).getD [])).number) 0
 unfold newer
 rw[Bool.eq_iff_iff,decide_eq_true_iff,any_eq_true]
 constructor
 ·rintro ⟨r,hr,h⟩
  have hr:=mem_range.mp hr
  rw[any_eq_true] at h
  obtain ⟨i,hi,h⟩:=h
  rw[iW ok hr,mem_filter,mem_range] at hi
  rw[eh ok hr hi.1,decide_eq_true_iff] at h
  refine Nat.le_trans h (f1 _ (mem_map.mpr ⟨12*r+i,mem_filter.mpr ⟨mem_range.mpr (by lia),?_⟩,?_⟩))
  ·unfold fI
   rw[show (12*r+i)/12=r by lia,show (12*r+i)%12=i by lia,iA]
   exact hi.2
  ·unfold fI
   rw[show (12*r+i)/12=r by lia,show (12*r+i)%12=i by lia,fH]
   unfold rh
   rw[if_pos hi.2]
   rfl
 ·intro h
  have hm:rE id ss n∈(((range (12*n)).filter λj=>(fI id ss j).isSome).map λj=>(hOf ((fI id ss j).getD [])).number):=by
   rcases f3 with e|e
   ·exact absurd (show rE id ss n=0 from e) (by lia)
   ·exact e
  refine e_1 (mem_map.mp hm) λj=>a_2 λhj e=>?_
  rw[mem_filter,mem_range] at hj
  obtain ⟨hj,hs⟩:=hj
  have hr:j/12<n:=by lia
  have hi:j%12<12:=mod_lt _ (by decide)
  have ej:12*(j/12)+j%12=j:=by lia
  have hR:isRight id (j/12) (j%12) (ss.getD j [])=true:=by rw[<- iA];exact hs
  refine ⟨j/12,mem_range.mpr hr,any_eq_true.mpr ⟨j%12,?_,?_⟩⟩
  ·rw[iW ok hr,mem_filter,mem_range,ej]
   exact ⟨hi,hR⟩
  ·rw[eh ok hr hi,ej,decide_eq_true_iff,fH]
   refine Nat.le_trans h (Nat.le_of_eq ?_)
   rw[<- e]
   unfold fI rh
   rw[if_pos hR]
   rfl
theorem w8 (ok:DOk n id ss)(nm:NL):Sy22.target id ss.flatten n nm=tgt id ss nm n:=by
 unfold Sy22.target tgt
 rw[oe ok]
 cases (dZ id ss nm n).1 with
 |some r=>rfl
 |none=>exact lE λr hr=>oR ok (mem_range.mp hr)
end
section
variable {n:Nat}{id sec own:NL}{ss:LL}{r:Nat}
structure OwnOk (own id sec:NL):Prop where
 i:Sy22.idOf own=id
 s:Sy22.secretOf own=sec
theorem xM (ow:OwnOk own id sec){h:Head}(h1:h.name.length=20)(h2:h.number<256 ^ 8):keyOf own h=hG sec (h.text id r)/\nonceOf h r=gA (h.text id r):=by
 obtain ⟨e1,e2,e3,e4⟩:=o0 (id:=id) r h1
 unfold keyOf nonceOf hG gA
 rw[ow.i,ow.s,e4,e3,uF r h1 h2]
 exact ⟨rfl,rfl⟩
theorem xr (ow:OwnOk own id sec){h:Head}(h1:h.name.length=20)(h2:h.number<256 ^ 8){nm tx:NL}(hl:(sealed (hG sec (h.text id r)) (gA (h.text id r)) (h.text id r) (Sy22.plain nm tx)).length=3456) :
  record own r h nm tx=(range 12).map (wrF (h.text id r) (jU (sealed (hG sec (h.text id r)) (gA (h.text id r)) (h.text id r) (Sy22.plain nm tx)) 432 8)):=by
 obtain ⟨k1,k2⟩:=xM (r:=r) ow h1 h2
 unfold record
 rw[k1,k2,ow.i]
 refine map_congr_left λi _=>?_
 rw[ld]
 unfold wrF pieces jU Sy22.SHARE
 rw[hl]
theorem rP (ok:DOk n id ss)(hr:r<n){hd:NL}(h:aC (ag id ss r)=some hd):sharedBy id ss.flatten r (hOf hd)=shares 4 432 (bH id ss r hd):=by
 obtain ⟨_,e2,_⟩:=kc ok hr h
 have ep:places (8+4) (bitsOf (plH (ag id ss r) hd))=plH (ag id ss r) hd:=km _ 12
 have ea:((range Sy22.SIDE).map λ(i:Nat)=>Sy22.shareOf (sector ss.flatten r i))=shs ss r:=by
  unfold shs Sy22.shareOf
  exact map_congr_left λi hi=>by rw[eh ok hr (mem_range.mp hi)]
 unfold sharedBy Sy22.mendedBy bH
 rw[e2,ea,show Sy22.NEED=8 from rfl,ep]
 rfl
theorem va {nm tx p:NL}(h:Sy22.plain nm tx=p)(ht:tx.length<4294967296):littleOf (p.take 4)=tx.length/\Sy22.at_ p 4=nm.length:=by
 subst h
 constructor
 ·have e:(Sy22.plain nm tx).take 4=little 4 tx.length:=by
   unfold Sy22.plain
   exact take_left' (am _ _)
  rw[e,hJ,mod_eq_of_lt ht]
 ·unfold Sy22.plain Sy22.at_
  rw[getD_eq_getElem?_getD,getElem?_append_right (by rw[am];exact le_refl _),am]
  rfl
theorem zA {p:NL}(hl:p.length=3440)(z:NL):(if 1<=((p.drop 5).take (Sy22.at_ p 4)).length/\((p.drop 5).take (Sy22.at_ p 4)).length<=Sy22.NAME/\((p.drop 40).take (littleOf (p.take 4))).length<=Sy22.TEXT/\Sy22.plain ((p.drop 5).take (Sy22.at_ p 4)) ((p.drop 40).take (littleOf (p.take 4)))=p/\sum1 ((p.drop 5).take (Sy22.at_ p 4))=z then some ((p.drop 5).take (Sy22.at_ p 4),(p.drop 40).take (littleOf (p.take 4))) else none)
  = match unp p with
   |none=>none
   |some x=>if sum 1 x.1=z then some x else none:=by
 unfold unp Sy22.NAME Sy22.TEXT
 by_cases hp:Sy22.plain ((p.drop 5).take (Sy22.at_ p 4)) ((p.drop 40).take (littleOf (p.take 4)))=p
 ·have tl:((p.drop 40).take (littleOf (p.take 4))).length<=3400:=by rw[length_take,length_drop];lia
  obtain ⟨e1,e2⟩:=va hp (by lia)
  have c1:littleOf (p.take 4)<=3400:=by lia
  by_cases hc:1<=Sy22.at_ p 4/\Sy22.at_ p 4<=35
  ·by_cases hz:sum 1 ((p.drop 5).take (Sy22.at_ p 4))=z
   ·rw[if_pos ⟨by lia,by lia,tl,hp,hz⟩,if_pos ⟨c1,hc.1,hc.2,hp⟩]
    exact (if_pos hz).symm
   ·rw[if_neg λq=>hz q.2.2.2.2,if_pos ⟨c1,hc.1,hc.2,hp⟩]
    exact (if_neg hz).symm
  ·rw[if_neg (λq=>hc ⟨by lia,by lia⟩),if_neg (λq=>hc ⟨q.2.1,q.2.2.1⟩)]
 ·rw[if_neg (λq=>hp q.2.2.2.1),if_neg (λq=>hp q.2.2.2)]
theorem yk (ok:DOk n id ss)(ow:OwnOk own id sec)(hr:r<n):tellsBy own ss.flatten r=match aC (ag id ss r) with
  |none=>none
  |some hd=>opn sec hd (bH id ss r hd).flatten:=by
 unfold tellsBy
 rw[ow.i,i8 ok hr]
 cases hh:aC (ag id ss r) with
 |none=>rfl
 |some hd=>
  obtain ⟨t1,_,_,t4,t5⟩:=kc ok hr hh
  obtain ⟨dt,d8⟩:=lH ok hr hh
  obtain ⟨k1,k2⟩:=xM (r:=r) (h:=hOf hd) ow t4 t5
  obtain ⟨fl,fb⟩:=uL dt.lens
  have hok:=jy ok hr hh
  have e8:(sharedBy id ss.flatten r (hOf hd)).take Sy22.NEED=bH id ss r hd:=by
   rw[rP ok hr hh]
   unfold shares
   exact take_left' d8
  show (match opened (keyOf own (hOf hd)) (nonceOf (hOf hd) r) ((hOf hd).text id r) (((sharedBy id ss.flatten r (hOf hd)).take Sy22.NEED).flatten) with|none=>none|some p=>_)=_
  rw[k1,k2,<- t1,e8]
  show _=opn sec hd (bH id ss r hd).flatten
  unfold opn
  cases ho:opened (hG sec hd) (gA hd) hd (bH id ss r hd).flatten with
  |none=>rfl
  |some p=>
   have pl:=(mw (gQ hok) (fA hok) (di hok) fb ho).1
   rw[fl,d8] at pl
   exact zA pl _
end
section
variable {n:Nat}{id:NL}{ss:LL}{r:Nat}
theorem vY {ts:LL}(h:S512 ts)(hl:ts.length=12*n){r i:Nat}(hr:r<n)(hi:i<12):sector ts.flatten r i=ts.getD (12*r+i) []:=by
 unfold sector Sy22.ROW Sy22.SECTOR
 rw[show 6144*r+512*i=512*(12*r+i) by lia]
 exact mv h (by rw[hl];lia)
def kr (id:NL)(ss:LL)(r i:Nat):NL:=match aC (ag id ss r) with
 |some hd=>wrF hd (bH id ss r hd) i
 |none=>ss.getD (12*r+i) []
theorem j9 {id:NL}{ss:LL}:∀m r i,12*m<=ss.length->r<m->i<12->(aQ id ss m).getD (12*r+i) []=kr id ss r i
 |0,r,i,_,h,_=>absurd h (not_lt_zero _)
 |m+1,r,i,hm,hr,hi=>by
  rw[iJ]
  unfold jp
  by_cases e:r=m
  ·subst e
   unfold kr
   cases hh:aC (ag id ss r) with
   |none=>exact j8 r _ (by lia) (by lia)
   |some hd=>
    dsimp only
    rw[iu 12 _ (by rw[eI];lia),if_pos (by lia),add_sub_cancel_left]
  ·have ih:=j9 (id:=id) (ss:=ss) m r i (by lia) (by lia) hi
   split
   ·rw[iu 12 _ (by rw[eI];lia),if_neg (by lia),ih]
   ·exact ih
theorem yN (ok:DOk n id ss)(hr:r<n){i:Nat}(hi:i<12):(kr id ss r i).length=512:=by
 unfold kr
 cases hh:aC (ag id ss r) with
 |none=>exact (bG ok (by lia)).2.1
 |some hd=>
  obtain ⟨dt,d8⟩:=lH ok hr hh
  dsimp only
  unfold wrF
  rw[tu,(jy ok hr hh).len,(rO dt d8 hi).2.1]
theorem yP (ok:DOk n id ss):S512 (aQ id ss n):=λs hs=>by
 obtain ⟨j,hj⟩:=getElem?_of_mem hs
 have hl:j<12*n:=by
  have:=(List.getElem?_eq_some_iff.mp hj).1
  rwa [eI,ok.len] at this
 have e:s=(aQ id ss n).getD (12*(j/12)+j%12) []:=by
  rw[show 12*(j/12)+j%12=j by lia,getD_eq_getElem?_getD,hj];rfl
 rw[e,j9 n _ _ (by rw[ok.len];exact le_refl _) (by lia) (mod_lt _ (by decide))]
 exact yN ok (by lia) (mod_lt _ (by decide))
theorem r9 {α β:Type}{f g:α->List β}:∀{l:List α},(∀a∈l,f a=g a)->l.flatMap f=l.flatMap g
 |[],_=>rfl
 |a :: l,h=>by rw[flatMap_cons,flatMap_cons,h a mem_cons_self,r9 λb hb=>h b (mem_cons_of_mem _ hb)]
theorem xH (ok:DOk n id ss):mendedDisk id ss.flatten n=(aQ id ss n).flatten:=by
 rw[xV (ts:=aQ id ss n) (n:=n) (by rw[eI];exact ok.len)]
 unfold mendedDisk
 refine r9 λr hr=>?_
 have hr:=mem_range.mp hr
 have er:og (aQ id ss n) r=(range 12).map (kr id ss r):=map_congr_left λi hi=>j9 n r i (by rw[ok.len];exact le_refl _) hr (mem_range.mp hi)
 rw[er,i8 ok hr]
 cases hh:aC (ag id ss r) with
 |none=>
  have e:(range 12).map (kr id ss r)=og ss r:=map_congr_left λi _=>by unfold kr;rw[hh]
  show Sy22.part ss.flatten (Sy22.ROW*r) Sy22.ROW=_
  unfold Sy22.part Sy22.ROW
  rw[e,vB (by rw[ok.len];lia),show 6144*r=512*(12*r) by lia,jb _ _ ok.s512,show 6144=512*12 by rfl,j5 _ _ λs hs=>ok.s512 s (mem_of_mem_drop hs)]
 |some hd=>
  obtain ⟨t1,_⟩:=kc ok hr hh
  show ((range Sy22.SIDE).map λ(i:Nat)=>written id r (hOf hd) i ((sharedBy id ss.flatten r (hOf hd)).getD i [])).flatten=_
  congr 1
  refine map_congr_left λi _=>?_
  rw[ld,<- t1,rP ok hr hh]
  unfold kr
  rw[hh]
  rfl
theorem wJ (ok:DOk n id ss):changed ss.flatten (aQ id ss n).flatten n=lB id ss n:=by
 unfold changed lB
 have key:∀m,m<=n->((range m).flatMap λ(r:Nat)=>(range Sy22.SIDE).filter λ(i:Nat)=>decide (sector ss.flatten r i≠sector (aQ id ss n).flatten r i)).length=(range m).foldl (λc r=>c+lA id ss r) 0:=by
  intro m
  induction m with
  |zero=>intro _;rfl
  |succ m ih=>
   intro hm
   have hmn:m<n:=by lia
   rw[range_succ,flatMap_append,length_append,ih (by lia),foldl_append,flatMap_cons,List.flatMap_nil,append_nil]
   congr 1
   have e:∀i,i∈range 12->decide (sector ss.flatten m i≠sector (aQ id ss n).flatten m i)=decide (ss.getD (12*m+i) []≠kr id ss m i):=λi hi=>by
    have hi:=mem_range.mp hi
    rw[eh ok hmn hi,vY (yP ok) (by rw[eI];exact ok.len) hmn hi,j9 n m i (by rw[ok.len];exact le_refl _) hmn hi]
   rw[show Sy22.SIDE=12 from rfl,filter_congr e]
   unfold lA kr
   cases hh:aC (ag id ss m) with
   |none=>simp
   |some hd=>rfl
 exact key n (le_refl _)
theorem tU (ok:DOk n id ss)(hr:r<n):(headAt id ss.flatten r).isSome=decide (rst id ss r=1)/\torn id ss.flatten r=decide (rst id ss r=2)/\empty id ss.flatten r=decide (rst id ss r=0):=by
 have h1:=rst_one (id:=id) (ss:=ss) (r:=r)
 unfold torn
 rw[i8 ok hr,oR ok hr]
 unfold rst at h1 ⊢
 cases he:dG id ss r<;>cases hh:aC (ag id ss r)<;>rw[he,hh] at h1<;>simp at h1 ⊢
end
section
variable {n:Nat}{id sec own:NL}{ss:LL}
def ActIs (own:NL)(n:Nat)(id sec:NL)(ss:LL)(pc:Deed):Prop:=(acts own n ss.flatten pc).1=(lI id sec ss n pc).1.flatten/\Sy22Neutral.oneRow (acts own n ss.flatten pc).2=(lI id sec ss n pc).2
theorem ActIs.of {pc:Deed}{d:NL}{a:Sy22.Ans}{ts:LL}{zs:List Int}(e1:acts own n ss.flatten pc=(d,a))(e2:lI id sec ss n pc=(ts,zs))(h1:d=ts.flatten)(h2:Sy22Neutral.oneRow a=zs):ActIs own n id sec ss pc:=by
 unfold ActIs
 rw[e1,e2]
 exact ⟨h1,h2⟩
theorem m8 (nm:NL):nameFits nm=(decide (1<=nm.length) && decide (nm.length<=35)):=rfl
theorem ot (z:Int)(l:NL):Sy22Neutral.oneRow ⟨z,[l]⟩=[z]++l.map λ(x:Nat)=>(x:Int):=by
 unfold Sy22Neutral.oneRow Sy22Neutral.ints
 simp
theorem Bc (ok:DOk n id ss)(ow:OwnOk own id sec)(len num:Nat)(nm tx:NL):ActIs own n id sec ss (.put len num nm tx):=by
 have ea:acts own n ss.flatten (.put len num nm tx)=if lengthOk len=false\/num=0\/Sy22.MOST<num\/nameFits nm=false\/Sy22.TEXT<tx.length then (ss.flatten,Sy22.only (-2)) else if newer (Sy22.idOf own) ss.flatten n num=true then (ss.flatten,Sy22.only (-4)) else match Sy22.target (Sy22.idOf own) ss.flatten n nm with
  |none=>(ss.flatten,Sy22.only (-6))
  |some r=>(replaced ss.flatten r (record own r ⟨len,num,sum1 nm⟩ nm tx).flatten,Sy22.only (r:Nat)):=rfl
 have er:lI id sec ss n (.put len num nm tx)=oo id sec ss n len num nm tx:=rfl
 unfold oo at er
 rw[ow.i] at ea
 by_cases c1:len∈[16,24,32]/\(decide (1<=num) && decide (num<=Sy22.MOST))=true
 ·rw[if_neg (not_not_intro c1)] at er
  by_cases c2:(decide (1<=nm.length) && decide (nm.length<=35))=true/\tx.length<=3400
  ·have hn:=c1.2
   rw[Bool.and_eq_true,decide_eq_true_iff,decide_eq_true_iff] at hn
   have hm:=c2.1
   rw[Bool.and_eq_true,decide_eq_true_iff,decide_eq_true_iff] at hm
   rw[if_neg (not_not_intro c2)] at er
   rw[if_neg (by
    rw[mF,decide_eq_true c1.1,m8,c2.1]
    rintro (h|h|h|h|h)
    ·cases h
    ·lia
    ·lia
    ·cases h
    ·exact absurd h (not_lt.mpr c2.2)),yL ok hn.1,w8 ok] at ea
   by_cases c3:num<=rE id ss n
   ·rw[if_pos c3] at er
    rw[if_pos (decide_eq_true c3)] at ea
    exact .of ea er rfl rfl
   ·rw[if_neg c3] at er
    rw[if_neg (by simpa using c3)] at ea
    cases ht:tgt id ss nm n with
    |none=>
     rw[ht] at ea er
     exact .of ea er rfl rfl
    |some r=>
     rw[ht] at ea er
     have hr:=w6 ht
     have hko:headOk ⟨len,num,sum 1 nm⟩=true:=by rw[gT,decide_eq_true c1.1,c1.2];rfl
     obtain ⟨hd,eo⟩:=vx (n:=len) (x:=num) (nm:=nm) r ok.idl ok.idb hko
     refine .of ea er ?_ rfl
     rw[show (⟨len,num,sum1 nm⟩:Head)=⟨len,num,sum 1 nm⟩ from rfl,xr ow (eN (.inl rfl) nm) (lt_of_le_of_lt hn.2 (by decide)) (by rw[pd (gQ hd) (fA hd) (di hd),mq hm.2 c2.2])]
     exact nM ok hr _
  ·rw[if_pos c2] at er
   rw[if_pos (by
    rw[m8]
    cases h:(decide (1<=nm.length) && decide (nm.length<=35)) with
    |false=>exact .inr (.inr (.inr (.inl rfl)))
    |true=>exact .inr (.inr (.inr (.inr (not_le.mp λz=>c2 ⟨h,z⟩))))) ] at ea
   exact .of ea er rfl rfl
 ·rw[if_pos c1] at er
  rw[if_pos (by
   rw[mF]
   by_cases h:len∈[16,24,32]
   ·right
    by_cases h0:num=0
    ·exact .inl h0
    ·refine .inr (.inl (not_le.mp λz=>c1 ⟨h,?_⟩))
     rw[Bool.and_eq_true,decide_eq_true_iff,decide_eq_true_iff]
     exact ⟨by lia,z⟩
   ·exact .inl (decide_eq_false h))] at ea
  exact .of ea er rfl rfl
theorem Bv (ok:DOk n id ss)(ow:OwnOk own id sec)(most:Nat)(nm:NL):ActIs own n id sec ss (.get most nm):=by
 have ea:acts own n ss.flatten (.get most nm)=(ss.flatten,if nameFits nm=false\/Sy22.TEXT<most then Sy22.only (-2) else match rowOf (Sy22.idOf own) ss.flatten n nm with
  |none=>Sy22.only (-4)
  |some r=>match tellsBy own ss.flatten r with
   |some x=>if x.1=nm then (if most<x.2.length then Sy22.only (-7) else ⟨(x.2.length:Nat),[x.2]⟩) else Sy22.only (-5)
   |none=>Sy22.only (-5)):=rfl
 refine .of ea rfl rfl ?_
 unfold rG
 rw[ow.i,oe ok,m8]
 by_cases c:(decide (1<=nm.length) && decide (nm.length<=35))=true/\most<=3400
 ·rw[if_neg (by
   rintro (h|h)
   ·rw[c.1] at h;cases h
   ·exact absurd h (not_lt.mpr c.2)),if_neg (not_not_intro c)]
  cases hr:(dZ id ss nm n).1 with
  |none=>rfl
  |some r=>
   obtain ⟨hrn,hd,hh⟩:=iy n r hr
   dsimp only
   rw[yk ok ow hrn,hh]
   dsimp only
   cases opn sec hd (bH id ss r hd).flatten with
   |none=>rfl
   |some x=>
    dsimp only
    by_cases h1:x.1=nm
    ·rw[if_pos h1,if_pos h1]
     by_cases h2:most<x.2.length
     ·rw[if_pos h2,if_pos h2];rfl
     ·rw[if_neg h2,if_neg h2];exact ot _ _
    ·rw[if_neg h1,if_neg h1];rfl
 ·rw[if_pos (by
   cases h:(decide (1<=nm.length) && decide (nm.length<=35)) with
   |false=>exact .inl rfl
   |true=>exact .inr (not_le.mp λz=>c ⟨h,z⟩)),if_pos c]
  rfl
theorem zg (ok:DOk n id ss){r:Nat}(hr:r<n):replaced ss.flatten r (zeros Sy22.ROW)=(zr ss r).flatten:=by
 rw[show Sy22.ROW=6144 from rfl,yf]
 exact nM ok hr _
theorem Af (ok:DOk n id ss)(ow:OwnOk own id sec)(nm:NL):ActIs own n id sec ss (.drop nm):=by
 have ea:acts own n ss.flatten (.drop nm)=if nameFits nm=false then (ss.flatten,Sy22.only (-2)) else match rowOf (Sy22.idOf own) ss.flatten n nm with
  |none=>(ss.flatten,Sy22.only (-4))
  |some r=>(replaced ss.flatten r (zeros Sy22.ROW),Sy22.only (r:Nat)):=rfl
 have er:lI id sec ss n (.drop nm)=lF id ss n nm:=rfl
 unfold lF at er
 rw[ow.i,oe ok,m8] at ea
 cases c:(decide (1<=nm.length) && decide (nm.length<=35)) with
 |false=>
  rw[c] at ea er
  exact .of ea er rfl rfl
 |true=>
  rw[c] at ea er
  rw[if_neg (by decide)] at ea
  rw[if_neg (by decide)] at er
  cases hr:(dZ id ss nm n).1 with
  |none=>
   rw[hr] at ea er
   exact .of ea er rfl rfl
  |some r=>
   rw[hr] at ea er
   exact .of ea er (zg ok (iy n r hr).1) rfl
theorem z7 (ok:DOk n id ss)(ow:OwnOk own id sec)(r:Nat):ActIs own n id sec ss (.look r):=by
 have ea:acts own n ss.flatten (.look r)=(ss.flatten,if n<=r then Sy22.only (-2) else match headAt (Sy22.idOf own) ss.flatten r with
  |some h=>⟨1,[little 8 h.number++h.name]⟩
  |none=>Sy22.only (if empty (Sy22.idOf own) ss.flatten r=true then 0 else 2)):=rfl
 refine .of ea rfl rfl ?_
 unfold m6
 rw[ow.i]
 by_cases c:n<=r
 ·rw[if_pos c,if_pos c];rfl
 ·have hr:=not_le.mp c
  rw[if_neg c,if_neg c,i8 ok hr,oR ok hr]
  have h1:=rst_one (id:=id) (ss:=ss) (r:=r)
  unfold rst at h1 ⊢
  cases hh:aC (ag id ss r) with
  |none=>
   cases he:dG id ss r<;>rfl
  |some hd=>
   cases he:dG id ss r with
   |true=>
    rw[he,hh] at h1
    exact absurd (h1.mpr rfl) (λz=>by rw[if_pos rfl] at z;cases z)
   |false=>exact ot _ _
theorem z0 (ok:DOk n id ss)(ow:OwnOk own id sec):ActIs own n id sec ss .mend:=by
 have ea:acts own n ss.flatten .mend=(mendedDisk (Sy22.idOf own) ss.flatten n,⟨(changed ss.flatten (mendedDisk (Sy22.idOf own) ss.flatten n) n:Nat),[[((range n).filter λ(r:Nat)=>(headAt (Sy22.idOf own) ss.flatten r).isSome).length,((range n).filter (torn (Sy22.idOf own) ss.flatten)).length,((range n).filter (empty (Sy22.idOf own) ss.flatten)).length]]⟩):=rfl
 rw[ow.i,xH ok,wJ ok] at ea
 refine .of ea rfl rfl ?_
 rw[ot]
 have k:∀(p:Nat->Bool)(z:Nat),(∀r,r<n->p r=decide (rst id ss r=z))->((range n).filter p).length=((range n).map (rst id ss)).countP λe=>decide (e=z):=λp z h=>by
  rw[countP_map,List.countP_eq_length_filter]
  congr 1
  exact filter_congr λr hr=>h r (mem_range.mp hr)
 rw[k _ 1 λr hr=>(tU ok hr).1,k _ 2 λr hr=>(tU ok hr).2.1,k _ 0 λr hr=>(tU ok hr).2.2]
 rfl
theorem BI {c:NL}{pc:Deed}(ok:DOk n id ss)(ow:OwnOk own id sec)(hA:DAsks n c pc):ActIs own n id sec ss pc:=by
 cases hA with
 |put len num k r hb hk h40 hl=>exact Bc ok ow _ _ _ _
 |get m r hb hl=>exact Bv ok ow _ _
 |drop r hb hl=>exact Af ok ow _
 |clear r=>
  have ea:acts own n ss.flatten (.clear r)=if n<=r then (ss.flatten,Sy22.only (-2)) else (replaced ss.flatten r (zeros Sy22.ROW),Sy22.only 0):=rfl
  have er:lI id sec ss n (.clear r)=if n<=r then (ss,[-2]) else (zr ss r,[0]):=rfl
  by_cases h:n<=r
  ·rw[if_pos h] at ea er
   exact .of ea er rfl rfl
  ·rw[if_neg h] at ea er
   exact .of ea er (zg ok (not_le.mp h)) rfl
 |mend=>exact z0 ok ow
 |look r=>exact z7 ok ow r
 |harm p b hp hb=>exact ⟨tq ss p b ok.s512,rfl⟩
 |copy i j hi hj=>exact ⟨x6 ok.s512 (by rw[ok.len];exact hi) (by rw[ok.len];exact hj),rfl⟩
theorem Ao (ok:DOk n id ss){c:NL}{pc:Deed}(hA:DAsks n c pc):(lI id sec ss n pc).2.length<=3402:=by
 cases hA with
 |put len num k r hb hk h40 hl=>
  show (oo _ _ _ _ _ _ _ _).2.length<=3402
  unfold oo
  split
  ·show 1<=3402;decide
  ·split
   ·show 1<=3402;decide
   ·split
    ·show 1<=3402;decide
    ·split
     ·show 1<=3402;decide
     ·show 1<=3402;decide
 |get m r hb hl=>
  show (rG _ _ _ _ _ _).length<=3402
  unfold rG
  by_cases c:(decide (1<=r.length) && decide (r.length<=35))=true/\m<=3400
  ·rw[if_neg (not_not_intro c)]
   split
   ·show 1<=3402;decide
   ·split
    ·show 1<=3402;decide
    ·split
     ·show 1<=3402;decide
     ·split
      ·split
       ·show 1<=3402;decide
       ·rw[length_append,length_map,length_singleton]
        lia
      ·show 1<=3402;decide
  ·rw[if_pos c]
   show 1<=3402;decide
 |drop r hb hl=>
  show (lF _ _ _ _).2.length<=3402
  unfold lF
  split
  ·show 1<=3402;decide
  ·split
   ·show 1<=3402;decide
   ·show 1<=3402;decide
 |clear r=>
  show (if n<=r then (ss,[-2]) else (zr ss r,[0]):LL×List Int).2.length<=3402
  split
  ·show 1<=3402;decide
  ·show 1<=3402;decide
 |mend=>show 4<=3402;decide
 |look r=>
  show (m6 _ _ _ _).length<=3402
  unfold m6
  split
  ·show 1<=3402;decide
  ·split
   ·split
    ·show 1<=3402;decide
    ·rename_i hd _ _
     have:(hOf hd).name.length<=20:=by unfold hOf Sy22.part;rw[length_take];lia
     rw[length_append,length_map,length_append,am,length_singleton]
     lia
   ·show 1<=3402;decide
 |harm p b hp hb=>show 1<=3402;decide
 |copy i j hi hj=>show 1<=3402;decide
end
section
variable {P:Program}{w:World}{K:Frag}{mg:Str->Option Value}{base:Heap}{ad:Adr}
theorem m4 {l:List Int}(h:∀x∈l,0<=x/\x<=255):iv l=nv (Sy22Neutral.nats l):=by rw[wp,xF h]
theorem w9 (l:List Int)(n:Nat):Sy22Neutral.nats (l.take n)=(Sy22Neutral.nats l).take n:=by unfold Sy22Neutral.nats;rw[List.map_take]
theorem x3 (l:List Int)(n:Nat):Sy22Neutral.nats (l.drop n)=(Sy22Neutral.nats l).drop n:=by unfold Sy22Neutral.nats;rw[List.map_drop]
theorem fq {z a b:Int}(h:Sy22Neutral.within z a b=true):a<=z/\z<=b:=by
 unfold Sy22Neutral.within at h
 rwa [Bool.and_eq_true,decide_eq_true_iff,decide_eq_true_iff] at h
theorem jz {z:Int}(h:Sy22Neutral.word z=true):∃x:Nat,z=(x:Int):=⟨z.toNat,by have:=fq h;lia⟩
theorem y4 {n:Nat}{c:List Int}(h:Sy22Neutral.deedAsked (n:Int) c=true):∃cs pc,iv c=nv cs/\Sy22Neutral.deedOf c=some pc/\DAsks n cs pc:=by
 unfold Sy22Neutral.deedAsked at h
 split at h
 ·rename_i m i k r
  simp only[Bool.and_eq_true,decide_eq_true_iff] at h
  obtain ⟨h1,h2,h3,h4,h5,h6⟩:=h
  obtain ⟨m,rfl⟩:=jz h1
  obtain ⟨i,rfl⟩:=jz h2
  have w3:=fq h3
  obtain ⟨k,rfl⟩:∃x:Nat,k=(x:Int):=⟨k.toNat,by lia⟩
  obtain ⟨hb,hl⟩:=qA h5
  refine ⟨0 :: m :: i :: k :: Sy22Neutral.nats r,.put m i ((Sy22Neutral.nats r).take k) ((Sy22Neutral.nats r).drop k),?_,?_,.put m i k _ (jo hb) (by rw[jN];lia) (by lia) (by rw[jN];exact hl)⟩
  ·show V.int 0 :: V.int (m:Int) :: V.int (i:Int) :: V.int (k:Int) :: iv r=_
   rw[m4 hb]
   rfl
  ·show some (Deed.put (m:Int).toNat (i:Int).toNat (Sy22Neutral.nats (r.take (k:Int).toNat)) (Sy22Neutral.nats (r.drop (k:Int).toNat)))=_
   rw[Int.toNat_natCast,Int.toNat_natCast,Int.toNat_natCast,w9,x3]
 ·rename_i m r
  simp only[Bool.and_eq_true] at h
  obtain ⟨m,rfl⟩:=jz h.1
  obtain ⟨hb,hl⟩:=qA h.2
  exact ⟨1 :: m :: Sy22Neutral.nats r,.get m (Sy22Neutral.nats r),by show V.int 1 :: V.int (m:Int) :: iv r=_;rw[m4 hb];rfl,rfl,.get m _ (jo hb) (by rw[jN];exact hl)⟩
 ·rename_i r
  obtain ⟨hb,hl⟩:=qA h
  exact ⟨2 :: Sy22Neutral.nats r,.drop (Sy22Neutral.nats r),by show V.int 2 :: iv r=_;rw[m4 hb];rfl,rfl,.drop _ (jo hb) (by rw[jN];exact hl)⟩
 ·rename_i r
  obtain ⟨r,rfl⟩:=jz h
  exact i_2 [3,r] (.clear r) ⟨rfl,rfl,.clear r⟩
 ·exact i_2 [4] .mend ⟨rfl,rfl,.mend⟩
 ·rename_i r
  obtain ⟨r,rfl⟩:=jz h
  exact i_2 [5,r] (.look r) ⟨rfl,rfl,.look r⟩
 ·rename_i p b
  rw[Bool.and_eq_true] at h
  have w1:=fq h.1
  have w2:=fq (show Sy22Neutral.within b 0 255=true from h.2)
  obtain ⟨p,rfl⟩:∃x:Nat,p=(x:Int):=⟨p.toNat,by lia⟩
  obtain ⟨b,rfl⟩:∃x:Nat,b=(x:Int):=⟨b.toNat,by lia⟩
  exact i_2 [6,p,b] (.harm p b) ⟨rfl,rfl,.harm p b (by lia) (by lia)⟩
 ·rename_i i j
  rw[Bool.and_eq_true] at h
  have w1:=fq h.1
  have w2:=fq h.2
  obtain ⟨i,rfl⟩:∃x:Nat,i=(x:Int):=⟨i.toNat,by lia⟩
  obtain ⟨j,rfl⟩:∃x:Nat,j=(x:Int):=⟨j.toNat,by lia⟩
  exact i_2 [7,i,j] (.copy i j) ⟨rfl,rfl,.copy i j (by lia) (by lia)⟩
 ·cases h
theorem zF (id:NL)(r i:Nat):rh id r i (replicate 512 0)=none:=by
 unfold rh isRight
 rw[show headOk (headOf (replicate 512 0))=false by decide +kernel,Bool.false_and]
 rfl
theorem Loc.disj {H0 H:Hp}{ls ms:List (Addr×HO)}{p q:Addr×HO}(L:Loc H0 H (ls++ms))(hp:p∈ls)(hq:q∈ms):p.1≠q.1:=by
 have:=L.nd
 rw[map_append,nodup_append] at this
 exact this.2.2 _ (mem_map_of_mem hp) _ (mem_map_of_mem hq)
def fr3 (S D C:Addr):Addr->Prop:=λb=>b=S\/b=D\/b=C
theorem xZ {H0 H:Hp}{y dy x dx S D C a1 a2:Addr}{as:List Addr}{n:Nat}{own:NL}{pre:List (Addr×HO)}(hn1:1<=n)(hn:n<=3)(ol:own.length=40)(oB:Bytes own)(al:as.length=12*n)
  (L:Loc H0 H (pre++([(y,.ins ad.Desk dy (aM (.ref a1) (.ref a2) (.ref x))),(a1,.lst (nv (own.take 8))),(a2,.lst (nv (own.drop 8))),(dx,.own x),(x,.ins ad.Disk dx (cN (.int (n:Int)) (.ref a1) (.ref S) (.ref D)))]++(((S,.lst (ah as)) :: dC as (gg n))++[(D,.lst (replicate (12*n) V.non))])))) (hC:H C=none) :
  Dsk K ad (fr3 S D C) (upd H C (.lst [])) y x S D n (own.take 8) (own.drop 8) (gg n)/\C≠S/\C≠D:=by
 have L1:=L.sub (List.sublist_append_right pre _)
 have L2:=L1.sub (List.sublist_append_right _ _)
 have gS:H S=some (.lst (ah as)):=(L2.at_ _ mem_cons_self).2
 have gD:H D=some (.lst (replicate (12*n) V.non)):=(L2.at_ _ (mem_append_right _ mem_cons_self)).2
 have nC:∀{b:Addr} {o:HO},H b=some o->b≠C:=λh e=>by rw[e,hC] at h;cases h
 have hCS:C≠S:=(nC gS).symm
 have hCD:C≠D:=(nC gD).symm
 have hSD:S≠D:=L2.disj (p:=(S,.lst (ah as))) (q:=(D,.lst (replicate (12*n) V.non))) mem_cons_self mem_cons_self
 have key:∀{p:Addr} {o:HO},(p,o)∈[(y,HO.ins ad.Desk dy (aM (.ref a1) (.ref a2) (.ref x))),(a1,.lst (nv (own.take 8))),(a2,.lst (nv (own.drop 8))),(dx,.own x),(x,.ins ad.Disk dx (cN (.int (n:Int)) (.ref a1) (.ref S) (.ref D)))]->res (upd H C (.lst [])) (fr3 S D C) p=some o:=λ{p o} hp=>by
  have h1:=(L1.at_ _ (mem_append_left _ hp)).2
  have n1:p≠S:=L1.disj (q:=(S,.lst (ah as))) hp mem_cons_self
  have n2:p≠D:=L1.disj (q:=(D,.lst (replicate (12*n) V.non))) hp (mem_append_right _ mem_cons_self)
  rw[d9 (λ(z:p=S\/p=D\/p=C)=>z.elim n1 λz=>z.elim n2 (nC h1)),Dz (nC h1)]
  exact h1
 have rows:∀{p:Addr} {o:HO},(p,o)∈dC as (gg n)->res (upd H C (.lst [])) (fr3 S D C) p=some o:=λ{p o} hp=>by
  have h1:=(L2.at_ _ (mem_append_left _ (mem_cons_of_mem _ hp))).2
  have n1:p≠S:=by
   have nd:=(L2.sub (sublist_append_left _ _)).nd
   rw[map_cons,nodup_cons] at nd
   exact λe=>nd.1 (e ▸ mem_map_of_mem (f:=(·.1)) hp)
  have n2:p≠D:=L2.disj (q:=(D,.lst (replicate (12*n) V.non))) (mem_cons_of_mem _ hp) mem_cons_self
  rw[d9 (λ(z:p=S\/p=D\/p=C)=>z.elim n1 λz=>z.elim n2 (nC h1)),Dz (nC h1)]
  exact h1
 have zl:(gg n).length=12*n:=by simp[gg]
 have zs:∀s∈gg n,s=replicate 512 0:=λs hs=>by
  unfold gg at hs
  refine e_1 (mem_map.mp hs) λ_=>a_2 λ_ ez=>?_;subst ez
  rfl
 refine ⟨⟨⟨⟨by rw[length_take];lia,oB.take 8,hn1,hn,zl,λs hs=>by rw[zs s hs];exact ⟨by simp,Bytes.rep 512⟩⟩,.inl rfl,.inr (.inl rfl),hSD,?_,⟨dx,a1,key (by simp),SqL.of (key (by simp))⟩,⟨as,by rw[Dz hCS.symm];exact gS,al,λj a s h1 h2=>rows (mem_of_getElem? (iz h1 h2))⟩,⟨_,by rw[Dz hCD.symm];exact gD,by simp,λj v s h1 h2=>?_⟩⟩,⟨dy,a1,a2,key (by simp),SqL.of (key (by simp)),SqL.of (key (by simp))⟩,oB.drop 8,by rw[length_drop];lia⟩,hCS,hCD⟩
 ·rintro b (rfl|rfl|rfl)
  ·rw[Dz hCS.symm,gS];exact λz=>by cases z
  ·rw[Dz hCD.symm,gD];exact λz=>by cases z
  ·rw[DS];exact λz=>by cases z
 ·rw[zs s (mem_of_getElem? h2),zF]
  exact List.eq_of_mem_replicate (mem_of_getElem? h1)
theorem Dsk.upd {S D C x y:Addr}{H:Hp}{n:Nat}{id sec:NL}{ss:LL}{o:HO}(d:Dsk K ad (fr3 S D C) H y x S D n id sec ss)(h1:C≠S)(h2:C≠D):Dsk K ad (fr3 S D C) (upd H C o) y x S D n id sec ss:=by
 have hr:res (L2.upd H C o) (fr3 S D C)=res H (fr3 S D C):=kL (.inr (.inr rfl))
 obtain ⟨⟨ok,f1,f2,ne,hav,ins,lS,lD⟩,ins2,sB,sl⟩:=d
 refine ⟨⟨ok,f1,f2,ne,λb hb=>?_,by rw[hr];exact ins,by rw[hr,Dz h1.symm];exact lS,by rw[hr,Dz h2.symm];exact lD⟩,by rw[hr];exact ins2,sB,sl⟩
 by_cases e:b=C
 ·rw[e,DS];exact λz=>by cases z
 ·rw[Dz e];exact hav b hb
theorem wS (n:Nat):(gg n).flatten=zeros (Sy22.ROW*n):=by
 have:∀m,((range m).map λ_=>replicate 512 (0:Nat)).flatten=replicate (512*m) 0:=by
  intro m
  induction m with
  |zero=>rfl
  |succ m ih=>rw[range_succ,map_append,flatten_append,ih,map_cons,map_nil,flatten_cons,flatten_nil,append_nil,List.replicate_append_replicate];rfl
 unfold gg zeros Sy22.ROW
 rw[this,show 512*(12*n)=6144*n by lia]
theorem wH {own:NL}{n:Nat}{c:List Int}{pc:Deed}(d:NL)(r:List (List Int))(h:Sy22Neutral.deedOf c=some pc):Sy22Neutral.deeds own n d (c :: r)=Sy22Neutral.oneRow (acts own n d pc).2 :: Sy22Neutral.deeds own n (acts own n d pc).1 r:=by
 rw[Sy22Neutral.deeds,h]
theorem y2 {K:Frag}{H:Hp}:∀(cs:List (List Int))(xs:List V),DwAll K H xs (cs.map λc=>PySem.W.WData.list (c.map PySem.W.WData.int))->∃as:List Addr,xs=ah as/\as.length=cs.length/\∀(i:Nat)(x:Addr)(c:List Int),as[i]? = some x->cs[i]? = some c->SqL K H x (iv c)
 |[],xs,h=>by
  cases h
  exact ⟨[],rfl,rfl,λi x c h1=>by simp at h1⟩
 |c :: cs,xs,h=>by
  cases h with
  |cons h1 h2=>
   refine e_1 (y2 cs _ h2) λas=>a_3 λez hl hc=>?_;subst ez
   cases h1 with
   |lst hs ha=>
    have e:=FA c _ ha
    subst e
    rename_i a
    refine ⟨a :: as,rfl,by simp[hl],λi x d h3 h4=>?_⟩
    cases i with
    |zero=>
     have e1:a=x:=Option.some.inj h3
     have e2:c=d:=Option.some.inj h4
     subst e1 e2
     exact hs
    |succ i=>exact hc i x d h3 h4
end
section
variable {P:Program}{w:World}{K:Frag}{mg:Str->Option Value}{base:Heap}{ad:Adr}
def tf (K:Frag):Sp:=λvs H Q _=>∃(n:Int)(a b:Addr)(as:List Addr)(own:List Int)(calls:List (List Int)),vs=[.int n,.ref a,.ref b]/\SqL K H a (iv own)/\SqL K H b (ah as)/\as.length=calls.length/\(∀(i:Nat)(x:Addr)(c:List Int),as[i]? = some x->calls[i]? = some c->SqL K H x (iv c))/\PySy22.store_asked n own calls=true/\∀p H',Loc H H' [(p,.lst (iv (PySy22.store n own calls)))]->Q (.ref p) H'
abbrev eQ:Stmt:=top 93
theorem sc_store:FnScope ["rows","own","calls","desk","told","call"] ["rows","own","calls"] (Dg eQ):=by walk_at "sc"
theorem yI {f:Addr}{fd:FuncData}(F:Fun K "store" "store" eQ f fd)(T:Txt K mg ad)(C_Disk_weighed:Method P w K mg base 1 ad.Disk "weighed" ["self"] (g5 K ad))(C_Desk_init:Maker P w K mg base 3 ad.Desk ["self","row_count","own"] (jH K ad))(C_Desk_take:Method P w K mg base 13 ad.Desk "take" ["self","call"] (g6 K ad))(C_lay_out:Callee P w K mg base 1 "lay_out" ["rows"] (jj K)):FnOk P w K mg base CX0 14 f fd ["rows","own","calls"] (tf K):=by
 refine F.ok sc_store (λvs H Q E h=>?_) (λcdv A outer s H vs Q E hr h=>?_)
 ·k_go0
 refine e_6 h λn a b as own calls=>a_7 λez ho hs hal hc hask k=>?_;clear h;subst ez
 have hask:(Sy22Neutral.within n 1 3 && (Sy22Neutral.just own 40 && (calls.all (Sy22Neutral.deedAsked n) && (decide (calls.length<=300) && decide ((calls.filter λ(c:List Int)=>[0,1,4].contains (c.headD 9)).length<=12)))))=true:=hask
 simp only[Bool.and_eq_true,decide_eq_true_iff,all_eq_true] at hask
 obtain ⟨q1,q2,hA,hl,_⟩:=hask
 have w1:=fq q1
 obtain ⟨n,rfl⟩:∃x:Nat,n=(x:Int):=⟨n.toNat,by lia⟩
 obtain ⟨ob,ol⟩:=Aa q2
 have ek:PySy22.store (n:Int) own calls=laid (Sy22Neutral.deeds (Sy22Neutral.nats own) n (zeros (Sy22.ROW*n)) calls):=rfl
 rw[ek,<- wS] at k
 rw[m4 ob] at ho
 have oB:=jo ob
 have oL:(Sy22Neutral.nats own).length=40:=by rw[jN];exact ol
 generalize Sy22Neutral.nats own=ow at *
 have hown:OwnOk ow (ow.take 8) (ow.drop 8):=⟨rfl,take_of_length_le (by rw[length_drop];lia)⟩
 refine ⟨_,(Df (Dl (i:=3) sc_store.nd rfl (Or.inr rfl) (pQ T.k_Desk C_Desk_init hr.m rfl (Dd (pv 0) (Dd (pv 1) De))))
   (Df (Ei (i:=4) rfl sc_store.nd rfl rfl (El rfl rfl rfl rfl) (DR (pv 2)) (DH (own:=[("call",5)]) (by show DX ["rows","own","calls","desk","told","call"] (Dg eQ) _ _=true;decide +kernel)) (λ_ _ _ _ _=>Dr (i:=5) sc_store.nd rfl (Or.inl rfl)) (λ_ _ _ _ _=>DM) (λ_ _ _ _ _=>(ak T.c_Desk C_Desk_take hr.m (pv 3) (Dd (pv 5) De))))
   (Di (Dm (ab C_lay_out hr.m rfl (Dd (Dj (ao (K:=K) rfl) (pv 4) (DA (Dd (DA (Dd (iZ T.c_Disk C_Disk_weighed hr.m (Ds (pv 3) rfl)) De)) De))) De)))))),?_⟩
 walk_at "cDisk"
 walk_at "cDesk"
 have L0:=Loc.start H
 k_go
 refine mn L0 λy dy H1 L1=>?_
 refine i_5 y dy a n ow ⟨rfl,L1.get 1 rfl,L1.argE 1 rfl ho,oL,by lia,λH2 a1 a2 x dx S D zs zl M2=>⟨rfl,?_⟩⟩
 have L2:Loc H H2 ([(dy,.own y)]++([(y,.ins ad.Desk dy (aM (.ref a1) (.ref a2) (.ref x))),(a1,.lst (nv (ow.take 8))),(a2,.lst (nv (ow.drop 8))),(dx,.own x),(x,.ins ad.Disk dx (cN (.int (n:Int)) (.ref a1) (.ref S) (.ref D)))]++(((S,.lst (ah zs)) :: dC zs (gg n))++[(D,.lst (replicate (12*n) V.non))]))):=L1.meth 1 rfl M2
 have hs2:=L2.arg hs
 w_on
 intro C hC
 obtain ⟨d3,hCS,hCD⟩:=xZ (K:=K) (by lia) (by lia) oL oB zl L2 hC
 have fS:H S=none:=(L2.at_ (S,.lst (ah zs)) (by simp)).1
 have fD:H D=none:=(L2.at_ (D,.lst (replicate (12*n) V.non)) (by simp)).1
 have hsame:Same H (res (upd H2 C (.lst [])) (fr3 S D C)):=λb o e=>by
  have e2:=L2.same _ _ e
  have nb:b≠C:=λz=>by rw[z,hC] at e2;cases e2
  rw[d9 (λ(z:b=S\/b=D\/b=C)=>z.elim (λz=>by rw[z,fS] at e;cases e) λz=>z.elim (λz=>by rw[z,fD] at e;cases e) nb),Dz nb]
  exact e2
 have hC3:upd H2 C (.lst []) C=some (.lst (ah [])):=DS
 generalize upd H2 C (.lst [])=H3 at *
 refine ⟨λi m H'=>m=calls.length-i/\i<=calls.length/\∃(bs:List Addr)(ss:LL)(rows:List (List Int)),bs.length=i/\rows.length=i/\Same (res H3 (fr3 S D C)) (res H' (fr3 S D C))/\H' C=some (.lst (ah bs))/\Dsk K ad (fr3 S D C) H' y x S D n (ow.take 8) (ow.drop 8) ss/\(∀(j:Nat)(b:Addr)(row:List Int),bs[j]? = some b->rows[j]? = some row->res H' (fr3 S D C) b=some (.lst (iv row)))/\Sy22Neutral.deeds ow n (gg n).flatten calls=rows++Sy22Neutral.deeds ow n ss.flatten (calls.drop i)/\(laid rows).length<=3403*i,
  ⟨_,rfl,zero_le _,[],gg n,[],rfl,rfl,Same.refl _,hC3,d3,λj b row h=>by simp at h,by simp,by simp[laid]⟩,?_⟩
 rintro i m H4 ⟨rfl,hi,bs,ss,rows,hbl,hrl,sm4,hC4,d4,hrow4,hP,hlz⟩
 have sm04:Same H H4:=hsame.trans (sm4.trans res_up)
 have hs4:=sm04.seq hs
 by_cases hlt:i<calls.length
 ·obtain ⟨ai,hai⟩:∃x,as[i]? = some x:=⟨as[i]'(by lia),getElem?_eq_getElem (by lia)⟩
  have hci:calls[i]? = some calls[i]:=getElem?_eq_getElem hlt
  have hq:=hc i ai calls[i] hai hci
  refine e_2 (y4 (hA calls[i] (getElem_mem hlt))) λcs pc=>a_3 λe1 e2 e3=>?_
  refine .inr ⟨⟨_,_,hs4,by unfold ah;rw[getElem?_map,hai];rfl⟩,λH'=>∃(bs:List Addr)(ss:LL)(rows:List (List Int)),bs.length=i+1/\rows.length=i+1/\Same (res H3 (fr3 S D C)) (res H' (fr3 S D C))/\H' C=some (.lst (ah bs))/\Dsk K ad (fr3 S D C) H' y x S D n (ow.take 8) (ow.drop 8) ss/\(∀(j:Nat)(b:Addr)(row:List Int),bs[j]? = some b->rows[j]? = some row->res H' (fr3 S D C) b=some (.lst (iv row)))/\Sy22Neutral.deeds ow n (gg n).flatten calls=rows++Sy22Neutral.deeds ow n ss.flatten (calls.drop (i+1))/\(laid rows).length<=3403*(i+1),
   λH' h=>⟨_,by lia,rfl,by lia,h⟩,?_⟩
  rintro v H' ⟨eH,hv⟩
  have eH:=eH.symm
  subst eH
  have hv:=hv _ hs4
  unfold ah at hv
  rw[getElem?_map,hai] at hv
  have hv:v=V.ref ai:=(Option.some.inj hv).symm
  subst hv
  refine ⟨gK _ _ _,?_⟩
  refine e_3 (d4.get) λdy' a1' a2'=>a_3 λhy4 _ _=>?_
  show E4 ad.Desk "take" (g6 K ad) [] E0 (FQ 3) (FL (FQ 5) Fv) _ _ _
  w_on
  refine Bu (fr3 S D C) y x S D ai n _ _ ss cs pc ⟨rfl,d4,by rw[<- e1];exact sm04.seq hq,e3,λp H5 c5 d5 h5=>?_⟩
  obtain ⟨a1e,a2e⟩:=BI d4.dk.ok hown e3
  have rl:=Ao (sec:=ow.drop 8) d4.dk.ok e3
  have hC5:H5 C=some (.lst (ah bs)):=(c5.off C (.inr (.inr rfl)) hCS hCD).trans hC4
  generalize lI (ow.take 8) (ow.drop 8) ss n pc=R at *
  have eu:res (upd H5 C (.lst (ah bs++[V.ref p]))) (fr3 S D C)=res H5 (fr3 S D C):=kL (.inr (.inr rfl))
  refine ⟨_,hC5,by rw[aJ,sizeLine_eq];lia,bs++[p],R.1,rows++[R.2],by simp[hbl],by simp[hrl],by rw[eu];exact sm4.trans c5.same,by rw[DS];simp[ah],d5.upd hCS hCD,λj b row h1 h2=>?_,?_,?_⟩
  ·rw[eu]
   by_cases hj:j<i
   ·rw[getElem?_append_left (by lia)] at h1 h2
    exact c5.same _ _ (hrow4 j b row h1 h2)
   ·rw[getElem?_append_right (by lia),hbl] at h1
    rw[getElem?_append_right (by lia),hrl] at h2
    have hj0:j-i=0:=by
     have:=(List.getElem?_eq_some_iff.mp h1).1
     simp at this
     lia
    rw[hj0] at h1 h2
    cases h1
    cases h2
    exact h5
  ·rw[hP,drop_eq_getElem_cons hlt,wH _ _ e2,a1e,a2e,append_assoc]
   rfl
  ·rw[ka,length_append,length_append,length_singleton]
   lia
 ·have e:i=calls.length:=by lia
  subst e
  refine .inl ⟨⟨_,hs4,by rw[aJ,hal];exact le_refl _⟩,?_⟩
  rw[List.drop_length] at hP
  have hP:Sy22Neutral.deeds ow n (gg n).flatten calls=rows++[[((dq 0 ss.flatten%2 ^ 32:Nat):Int)]]:=by
   rw[hP,Sy22Neutral.deeds,Ax]
  rw[hP] at k
  refine e_3 (d4.get) λdy' a1' a2'=>a_3 λhy4 _ _=>?_
  refine e_2 (d4.dk.get) λdx' e'=>a_2 λhx4 _=>?_
  w_on
  refine i_7 (fr3 S D C) x S D n _ ss ⟨rfl,d4.dk,?_⟩
  w_on
  refine aF (xs:=iv [((dq 0 ss.flatten%2 ^ 32:Nat):Int)]) (Loc.start H4) (by show 1<=sizeLine;decide) λp6 H6 L6=>?_
  w_on
  refine aF (xs:=ah [p6]) L6 (by show 1<=sizeLine;decide) λp7 H7 L7=>?_
  w_on
  refine pG (xs:=ah bs) (ys:=ah [p6]) L7 (L7.arg (SqL.of hC4)) (L7.lst 1 rfl) (by rw[aJ,aJ,sizeLine_eq,hbl];show calls.length+1<=_;lia) λp8 H8 L8=>?_
  rw[oj] at L8
  w_on
  have hz1:(bs.zip rows).map (·.2)=rows:=by rw[List.map_snd_zip (by lia)]
  have hz2:(bs.zip rows).map (λr=>V.ref r.1)=ah bs:=by
   unfold ah
   rw[show (λ(r:Addr×List Int)=>V.ref r.1)=V.ref ∘ Prod.fst from rfl,<- map_map,List.map_fst_zip (by lia)]
  refine uV (bs.zip rows++[(p6,[((dq 0 ss.flatten%2 ^ 32:Nat):Int)])]) L8 ?_ ?_ ?_ λp9 H9 L9=>?_
  ·rw[map_append,hz2]
   have:=L8.lst (K:=K) 2 rfl
   rw[<- oj] at this
   exact this
  ·intro r hr
   rcases mem_append.mp hr with hr|hr
   ·obtain ⟨j,hj⟩:=getElem?_of_mem hr
    rw[List.getElem?_zip_eq_some] at hj
    exact L8.same _ _ (res_up _ _ (hrow4 j r.1 r.2 hj.1 hj.2))
   ·rw[mem_singleton.mp hr]
    exact L8.get 0 rfl
  ·rw[map_append,hz1,map_cons,map_nil,ka,length_append,length_append,length_singleton,length_singleton]
   lia
  ·rw[map_append,hz1,map_cons,map_nil] at L9
   have L4:Loc H H4 []:=⟨sm04,nodup_nil,λ_ h=>by cases h⟩
   exact k p9 H9 ((L4.calls L9).pick 3 rfl)
end
theorem aS {α:Type}(us:List α)(h:us.length=1):∃a,us=[a]:=List.length_eq_one_iff.mp h
theorem aB {α:Type}(us:List α)(h:us.length=2):∃a b,us=[a,b]:=by
 cases us with
 |nil=>cases h
 |cons x us=>
  obtain ⟨a,rfl⟩:=aS us (Nat.succ.inj h)
  exact ⟨x,a,rfl⟩
theorem dn {α:Type}(us:List α)(h:us.length=3):∃a b c,us=[a,b,c]:=by
 cases us with
 |nil=>cases h
 |cons x us=>
  obtain ⟨a,b,rfl⟩:=aB us (Nat.succ.inj h)
  exact ⟨x,a,b,rfl⟩
theorem iK {α:Type}(us:List α)(h:us.length=4):∃a b c d,us=[a,b,c,d]:=by
 cases us with
 |nil=>cases h
 |cons x us=>
  obtain ⟨a,b,c,rfl⟩:=dn us (Nat.succ.inj h)
  exact ⟨x,a,b,c,rfl⟩
theorem wy {α:Type}(us:List α)(h:us.length=5):∃a b c d e,us=[a,b,c,d,e]:=by
 cases us with
 |nil=>cases h
 |cons x us=>
  obtain ⟨a,b,c,d,rfl⟩:=iK us (Nat.succ.inj h)
  exact ⟨x,a,b,c,d,rfl⟩
theorem Dc {α:Type}(us:List α)(h:us.length=6):∃a b c d e f,us=[a,b,c,d,e,f]:=by
 cases us with
 |nil=>cases h
 |cons x us=>
  obtain ⟨a,b,c,d,e,rfl⟩:=wy us (Nat.succ.inj h)
  exact ⟨x,a,b,c,d,e,rfl⟩
theorem Db {P:Program}{w:World}{K:Frag}{f0 f1 f2 f3 f4 f5 f6 f7 f8 f9 f10 f11 f12 f13 f14 f15 f16 f17 f18 f19 f20 f21 f22 f23 f24 f25 f26 f27 f28 f29 f30 f31 f32 f33 f34 f35 f36 f37 f38 f39 f40 f41 f42 f43 f44 f45 f46 f47 f48 f49 f50 f51 f52 f53 f54 f55 f56 f57 f58 f59 f60 f61 f62 f63 f64 f65 f66 f67 f68 f69 f70 f71 f72 f73 f74 f75 f76 f77 f78 f79 f80 f81 f82 f83 f84 f85 f86 f87 f88 f89:Addr}{od0 an0 od1 an1 od2 an2 od3 an3 od4 an4 od5 an5 od6 an6 od7 an7 od8 an8 od9 an9 od10 an10 od11 an11 od12 an12 od13 an13 od14 an14 od15 an15 od16 an16 od17 an17 od18 an18 od19 an19 od20 an20 od21 an21 od22 an22 od23 an23 od24 an24 od25 an25 od26 an26 od27 an27 od28 an28 od29 an29 od30 an30 od31 an31 od32 an32 od33 an33 od34 an34 od35 an35 od36 an36 od37 an37 od38 an38 od39 an39 od40 an40 od41 an41 od42 an42 od43 an43 od44 an44 od45 an45 od46 an46 od47 an47 od48 an48 od49 an49 od50 an50 od51 an51 od52 an52 od53 an53 od54 an54 od55 an55 od56 an56 od57 an57 od58 an58 od59 an59 od60 an60 od61 an61 od62 an62 od63 an63 od64 an64 od65 an65 od66 an66 od67 an67 od68 an68 od69 an69 od70 an70 od71 an71 od72 an72 od73 an73 od74 an74 od75 an75 od76 an76 od77 an77 od78 an78 od79 an79 od80 an80 od81 an81 od82 an82 od83 an83 od84 an84 od85 an85 od86 an86 od87 an87 od88 an88 od89 an89:Option Addr}{sl0 sl1 sl2 sl3 sl4 sl5 sl6 sl7 sl8 sl9 sl10 sl11 sl12 sl13 sl14 sl15 sl16 sl17 sl18 sl19 sl20 sl21 sl22 sl23 sl24 sl25 sl26 sl27 sl28 sl29 sl30 sl31 sl32 sl33 sl34 sl35 sl36 sl37 sl38 sl39 sl40 sl41 sl42 sl43 sl44 sl45 sl46 sl47 sl48 sl49 sl50 sl51 sl52 sl53 sl54 sl55 sl56 sl57 sl58 sl59 sl60 sl61 sl62 sl63 sl64 sl65 sl66 sl67 sl68 sl69 sl70 sl71 sl72 sl73 sl74 sl75 sl76 sl77 sl78 sl79 sl80 sl81 sl82 sl83 sl84 sl85 sl86 sl87 sl88 sl89:Array (Option Value)}{oc0 kV0 dc0 pm0 cd0 ct0 oc1 kV1 dc1 pm1 cd1 ct1 oc2 kV2 dc2 pm2 cd2 ct2 oc3 kV3 dc3 pm3 cd3 ct3 oc4 kV4 dc4 pm4 cd4 ct4 oc5 kV5 dc5 pm5 cd5 ct5 oc6 kV6 dc6 pm6 cd6 ct6 oc7 kV7 dc7 pm7 cd7 ct7 oc8 kV8 dc8 pm8 cd8 ct8 oc9 kV9 dc9 pm9 cd9 ct9 oc10 kV10 dc10 pm10 cd10 ct10 oc11 kV11 dc11 pm11 cd11 ct11 oc12 kV12 dc12 pm12 cd12 ct12 oc13 kV13 dc13 pm13 cd13 ct13 oc14 kV14 dc14 pm14 cd14 ct14 oc15 kV15 dc15 pm15 cd15 ct15 oc16 kV16 dc16 pm16 cd16 ct16 oc17 kV17 dc17 pm17 cd17 ct17 oc18 kV18 dc18 pm18 cd18 ct18 oc19 kV19 dc19 pm19 cd19 ct19 oc20 kV20 dc20 pm20 cd20 ct20 oc21 kV21 dc21 pm21 cd21 ct21 oc22 kV22 dc22 pm22 cd22 ct22 oc23 kV23 dc23 pm23 cd23 ct23 oc24 kV24 dc24 pm24 cd24 ct24 oc25 kV25 dc25 pm25 cd25 ct25 oc26 kV26 dc26 pm26 cd26 ct26 oc27 kV27 dc27 pm27 cd27 ct27 oc28 kV28 dc28 pm28 cd28 ct28 oc29 kV29 dc29 pm29 cd29 ct29 oc30 kV30 dc30 pm30 cd30 ct30 oc31 kV31 dc31 pm31 cd31 ct31 oc32 kV32 dc32 pm32 cd32 ct32 oc33 kV33 dc33 pm33 cd33 ct33 oc34 kV34 dc34 pm34 cd34 ct34 oc35 kV35 dc35 pm35 cd35 ct35 oc36 kV36 dc36 pm36 cd36 ct36 oc37 kV37 dc37 pm37 cd37 ct37 oc38 kV38 dc38 pm38 cd38 ct38 oc39 kV39 dc39 pm39 cd39 ct39 oc40 kV40 dc40 pm40 cd40 ct40 oc41 kV41 dc41 pm41 cd41 ct41 oc42 kV42 dc42 pm42 cd42 ct42 oc43 kV43 dc43 pm43 cd43 ct43 oc44 kV44 dc44 pm44 cd44 ct44 oc45 kV45 dc45 pm45 cd45 ct45 oc46 kV46 dc46 pm46 cd46 ct46 oc47 kV47 dc47 pm47 cd47 ct47 oc48 kV48 dc48 pm48 cd48 ct48 oc49 kV49 dc49 pm49 cd49 ct49 oc50 kV50 dc50 pm50 cd50 ct50 oc51 kV51 dc51 pm51 cd51 ct51 oc52 kV52 dc52 pm52 cd52 ct52 oc53 kV53 dc53 pm53 cd53 ct53 oc54 kV54 dc54 pm54 cd54 ct54 oc55 kV55 dc55 pm55 cd55 ct55 oc56 kV56 dc56 pm56 cd56 ct56 oc57 kV57 dc57 pm57 cd57 ct57 oc58 kV58 dc58 pm58 cd58 ct58 oc59 kV59 dc59 pm59 cd59 ct59 oc60 kV60 dc60 pm60 cd60 ct60 oc61 kV61 dc61 pm61 cd61 ct61 oc62 kV62 dc62 pm62 cd62 ct62 oc63 kV63 dc63 pm63 cd63 ct63 oc64 kV64 dc64 pm64 cd64 ct64 oc65 kV65 dc65 pm65 cd65 ct65 oc66 kV66 dc66 pm66 cd66 ct66 oc67 kV67 dc67 pm67 cd67 ct67 oc68 kV68 dc68 pm68 cd68 ct68 oc69 kV69 dc69 pm69 cd69 ct69 oc70 kV70 dc70 pm70 cd70 ct70 oc71 kV71 dc71 pm71 cd71 ct71 oc72 kV72 dc72 pm72 cd72 ct72 oc73 kV73 dc73 pm73 cd73 ct73 oc74 kV74 dc74 pm74 cd74 ct74 oc75 kV75 dc75 pm75 cd75 ct75 oc76 kV76 dc76 pm76 cd76 ct76 oc77 kV77 dc77 pm77 cd77 ct77 oc78 kV78 dc78 pm78 cd78 ct78 oc79 kV79 dc79 pm79 cd79 ct79 oc80 kV80 dc80 pm80 cd80 ct80 oc81 kV81 dc81 pm81 cd81 ct81 oc82 kV82 dc82 pm82 cd82 ct82 oc83 kV83 dc83 pm83 cd83 ct83 oc84 kV84 dc84 pm84 cd84 ct84 oc85 kV85 dc85 pm85 cd85 ct85 oc86 kV86 dc86 pm86 cd86 ct86 oc87 kV87 dc87 pm87 cd87 ct87 oc88 kV88 dc88 pm88 cd88 ct88 oc89 kV89 dc89 pm89 cd89 ct89:Value}{h:Heap}{mg:Str->Option Value}{fa:Addr}(X:K.In h)(G:h.Ns mainGlobals mg)(hfa:mg "store" = some (.ref fa))
  {o_Summing:Addr}
  {o_Disk:Addr}
  {o_Sealing:Addr}
  {o_Desk:Addr}
  {t90:Addr} {od90:Option Addr} {its90:Array Value} {n90:Nat} {sl90:Array (Option Value)}
  {t91:Addr} {od91:Option Addr} {its91:Array Value} {n91:Nat} {sl91:Array (Option Value)}
  {t92:Addr} {od92:Option Addr} {its92:Array Value} {n92:Nat} {sl92:Array (Option Value)}
  {t93:Addr} {od93:Option Addr} {its93:Array Value} {n93:Nat} {sl93:Array (Option Value)}
  {t94:Addr} {od94:Option Addr} {its94:Array Value} {n94:Nat} {sl94:Array (Option Value)}
  {t95:Addr} {od95:Option Addr} {its95:Array Value} {n95:Nat} {sl95:Array (Option Value)}
  {t96:Addr} {od96:Option Addr} {its96:Array Value} {n96:Nat} {sl96:Array (Option Value)}
  {t97:Addr} {od97:Option Addr} {its97:Array Value} {n97:Nat} {sl97:Array (Option Value)}
  {i98:Tok}
  {i99:Tok}
  {i100:Tok}
  {i101:Tok}
  {i102:Tok}
  {i103:Tok}
  {i104:Tok}
  {i105:Tok}
  {i106:Tok}
  {i107:Tok}
  {i108:Tok}
  {i109:Tok}
  {i110:Tok}
  {i111:Tok}
  {i112:Tok}
  {i113:Tok}
  {i114:Tok}
  (g_Summing:nsIn K mainGlobals "Summing" = some (some (.ref o_Summing))) (pg_Summing:plainGet K o_Summing Str.empty=true) (hd_Summing:hasDictIn K o_Summing=true) (po_Summing:plainOver K o_Summing=true) (sa_Summing:findIn K (.ref o_Summing) "__setattr__" = some (some (.builtin "object.__setattr__"))) (mk_Summing:makesIn K o_Summing=true) (kc_Summing:keepIn K (.ref o_Summing)=true) (n_kind_Summing:findIn K (.ref o_Summing) "kind" = some none) (n_state_Summing:findIn K (.ref o_Summing) "state" = some none) (n_waiting_Summing:findIn K (.ref o_Summing) "waiting" = some none) (n_summed_length_Summing:findIn K (.ref o_Summing) "summed_length" = some none)
  (g_Disk:nsIn K mainGlobals "Disk" = some (some (.ref o_Disk))) (pg_Disk:plainGet K o_Disk Str.empty=true) (hd_Disk:hasDictIn K o_Disk=true) (po_Disk:plainOver K o_Disk=true) (sa_Disk:findIn K (.ref o_Disk) "__setattr__" = some (some (.builtin "object.__setattr__"))) (mk_Disk:makesIn K o_Disk=true) (kc_Disk:keepIn K (.ref o_Disk)=true) (n_row_count_Disk:findIn K (.ref o_Disk) "row_count" = some none) (n_store_id_Disk:findIn K (.ref o_Disk) "store_id" = some none) (n_sectors_Disk:findIn K (.ref o_Disk) "sectors" = some none) (n_heads_Disk:findIn K (.ref o_Disk) "heads" = some none)
  (g_Sealing:nsIn K mainGlobals "Sealing" = some (some (.ref o_Sealing))) (pg_Sealing:plainGet K o_Sealing Str.empty=true) (hd_Sealing:hasDictIn K o_Sealing=true) (po_Sealing:plainOver K o_Sealing=true) (sa_Sealing:findIn K (.ref o_Sealing) "__setattr__" = some (some (.builtin "object.__setattr__"))) (mk_Sealing:makesIn K o_Sealing=true) (kc_Sealing:keepIn K (.ref o_Sealing)=true) (n_round_keys_Sealing:findIn K (.ref o_Sealing) "round_keys" = some none) (n_factor_Sealing:findIn K (.ref o_Sealing) "factor" = some none) (n_nonce_Sealing:findIn K (.ref o_Sealing) "nonce" = some none) (n_opening_Sealing:findIn K (.ref o_Sealing) "opening" = some none) (n_stream_Sealing:findIn K (.ref o_Sealing) "stream" = some none) (n_beside_length_Sealing:findIn K (.ref o_Sealing) "beside_length" = some none) (n_text_length_Sealing:findIn K (.ref o_Sealing) "text_length" = some none) (n_text_begun_Sealing:findIn K (.ref o_Sealing) "text_begun" = some none) (n_tagged_Sealing:findIn K (.ref o_Sealing) "tagged" = some none) (n_waiting_Sealing:findIn K (.ref o_Sealing) "waiting" = some none)
  (g_Desk:nsIn K mainGlobals "Desk" = some (some (.ref o_Desk))) (pg_Desk:plainGet K o_Desk Str.empty=true) (hd_Desk:hasDictIn K o_Desk=true) (po_Desk:plainOver K o_Desk=true) (sa_Desk:findIn K (.ref o_Desk) "__setattr__" = some (some (.builtin "object.__setattr__"))) (mk_Desk:makesIn K o_Desk=true) (kc_Desk:keepIn K (.ref o_Desk)=true) (n_store_id_Desk:findIn K (.ref o_Desk) "store_id" = some none) (n_secret_Desk:findIn K (.ref o_Desk) "secret" = some none) (n_disk_Desk:findIn K (.ref o_Desk) "disk" = some none)
  (a0:nsIn K mainGlobals "double" = some (some (.ref f0))) (l0:K.lookup f0=some ⟨oc0,od0,.func (fnOf "double" "double" (Do ir) (Dn ir) (Dg ir) .none kV0 dc0 pm0 an0 cd0 ct0),sl0⟩) (c0:codeIn K cd0 "double" = true) (k0:keepIn K (.ref f0)=true)
  (a1:nsIn K mainGlobals "multiples" = some (some (.ref f1))) (l1:K.lookup f1=some ⟨oc1,od1,.func (fnOf "multiples" "multiples" (Do du) (Dn du) (Dg du) .none kV1 dc1 pm1 an1 cd1 ct1),sl1⟩) (c1:codeIn K cd1 "multiples" = true) (k1:keepIn K (.ref f1)=true)
  (a2:nsIn K mainGlobals "inverse" = some (some (.ref f2))) (l2:K.lookup f2=some ⟨oc2,od2,.func (fnOf "inverse" "inverse" (Do gP) (Dn gP) (Dg gP) .none kV2 dc2 pm2 an2 cd2 ct2),sl2⟩) (c2:codeIn K cd2 "inverse" = true) (k2:keepIn K (.ref f2)=true)
  (a3:nsIn K mainGlobals "mix" = some (some (.ref f3))) (l3:K.lookup f3=some ⟨oc3,od3,.func (fnOf "mix" "mix" (Do mW) (Dn mW) (Dg mW) .none kV3 dc3 pm3 an3 cd3 ct3),sl3⟩) (c3:codeIn K cd3 "mix" = true) (k3:keepIn K (.ref f3)=true)
  (a4:nsIn K mainGlobals "add_key" = some (some (.ref f4))) (l4:K.lookup f4=some ⟨oc4,od4,.func (fnOf "add_key" "add_key" (Do fz) (Dn fz) (Dg fz) .none kV4 dc4 pm4 an4 cd4 ct4),sl4⟩) (c4:codeIn K cd4 "add_key" = true) (k4:keepIn K (.ref f4)=true)
  (a5:nsIn K mainGlobals "expand_key" = some (some (.ref f5))) (l5:K.lookup f5=some ⟨oc5,od5,.func (fnOf "expand_key" "expand_key" (Do bX) (Dn bX) (Dg bX) .none kV5 dc5 pm5 an5 cd5 ct5),sl5⟩) (c5:codeIn K cd5 "expand_key" = true) (k5:keepIn K (.ref f5)=true)
  (a6:nsIn K mainGlobals "encipher" = some (some (.ref f6))) (l6:K.lookup f6=some ⟨oc6,od6,.func (fnOf "encipher" "encipher" (Do dh) (Dn dh) (Dg dh) .none kV6 dc6 pm6 an6 cd6 ct6),sl6⟩) (c6:codeIn K cd6 "encipher" = true) (k6:keepIn K (.ref f6)=true)
  (a7:nsIn K mainGlobals "number_of" = some (some (.ref f7))) (l7:K.lookup f7=some ⟨oc7,od7,.func (fnOf "number_of" "number_of" (Do eT) (Dn eT) (Dg eT) .none kV7 dc7 pm7 an7 cd7 ct7),sl7⟩) (c7:codeIn K cd7 "number_of" = true) (k7:keepIn K (.ref f7)=true)
  (a8:nsIn K mainGlobals "bytes_of" = some (some (.ref f8))) (l8:K.lookup f8=some ⟨oc8,od8,.func (fnOf "bytes_of" "bytes_of" (Do eF) (Dn eF) (Dg eF) .none kV8 dc8 pm8 an8 cd8 ct8),sl8⟩) (c8:codeIn K cd8 "bytes_of" = true) (k8:keepIn K (.ref f8)=true)
  (a9:nsIn K mainGlobals "low_first" = some (some (.ref f9))) (l9:K.lookup f9=some ⟨oc9,od9,.func (fnOf "low_first" "low_first" (Do dw) (Dn dw) (Dg dw) .none kV9 dc9 pm9 an9 cd9 ct9),sl9⟩) (c9:codeIn K cd9 "low_first" = true) (k9:keepIn K (.ref f9)=true)
  (a10:nsIn K mainGlobals "number_of_low_first" = some (some (.ref f10))) (l10:K.lookup f10=some ⟨oc10,od10,.func (fnOf "number_of_low_first" "number_of_low_first" (Do aU) (Dn aU) (Dg aU) .none kV10 dc10 pm10 an10 cd10 ct10),sl10⟩) (c10:codeIn K cd10 "number_of_low_first" = true) (k10:keepIn K (.ref f10)=true)
  (a11:nsIn K mainGlobals "turn_left" = some (some (.ref f11))) (l11:K.lookup f11=some ⟨oc11,od11,.func (fnOf "turn_left" "turn_left" (Do eP) (Dn eP) (Dg eP) .none kV11 dc11 pm11 an11 cd11 ct11),sl11⟩) (c11:codeIn K cd11 "turn_left" = true) (k11:keepIn K (.ref f11)=true)
  (a12:nsIn K mainGlobals "turn_thrice" = some (some (.ref f12))) (l12:K.lookup f12=some ⟨oc12,od12,.func (fnOf "turn_thrice" "turn_thrice" (Do cS) (Dn cS) (Dg cS) .none kV12 dc12 pm12 an12 cd12 ct12),sl12⟩) (c12:codeIn K cd12 "turn_thrice" = true) (k12:keepIn K (.ref f12)=true)
  (a13:nsIn K mainGlobals "turn_and_shift" = some (some (.ref f13))) (l13:K.lookup f13=some ⟨oc13,od13,.func (fnOf "turn_and_shift" "turn_and_shift" (Do bK) (Dn bK) (Dg bK) .none kV13 dc13 pm13 an13 cd13 ct13),sl13⟩) (c13:codeIn K cd13 "turn_and_shift" = true) (k13:keepIn K (.ref f13)=true)
  (a14:nsIn K mainGlobals "words_of" = some (some (.ref f14))) (l14:K.lookup f14=some ⟨oc14,od14,.func (fnOf "words_of" "words_of" (Do eE) (Dn eE) (Dg eE) .none kV14 dc14 pm14 an14 cd14 ct14),sl14⟩) (c14:codeIn K cd14 "words_of" = true) (k14:keepIn K (.ref f14)=true)
  (a15:nsIn K mainGlobals "spread_block_1" = some (some (.ref f15))) (l15:K.lookup f15=some ⟨oc15,od15,.func (fnOf "spread_block_1" "spread_block_1" (Do bM) (Dn bM) (Dg bM) .none kV15 dc15 pm15 an15 cd15 ct15),sl15⟩) (c15:codeIn K cd15 "spread_block_1" = true) (k15:keepIn K (.ref f15)=true)
  (a16:nsIn K mainGlobals "choose_1" = some (some (.ref f16))) (l16:K.lookup f16=some ⟨oc16,od16,.func (fnOf "choose_1" "choose_1" (Do fV) (Dn fV) (Dg fV) .none kV16 dc16 pm16 an16 cd16 ct16),sl16⟩) (c16:codeIn K cd16 "choose_1" = true) (k16:keepIn K (.ref f16)=true)
  (a17:nsIn K mainGlobals "add_block_1" = some (some (.ref f17))) (l17:K.lookup f17=some ⟨oc17,od17,.func (fnOf "add_block_1" "add_block_1" (Do cy) (Dn cy) (Dg cy) .none kV17 dc17 pm17 an17 cd17 ct17),sl17⟩) (c17:codeIn K cd17 "add_block_1" = true) (k17:keepIn K (.ref f17)=true)
  (a18:nsIn K mainGlobals "spread_block_2" = some (some (.ref f18))) (l18:K.lookup f18=some ⟨oc18,od18,.func (fnOf "spread_block_2" "spread_block_2" (Do bL) (Dn bL) (Dg bL) .none kV18 dc18 pm18 an18 cd18 ct18),sl18⟩) (c18:codeIn K cd18 "spread_block_2" = true) (k18:keepIn K (.ref f18)=true)
  (a19:nsIn K mainGlobals "add_block_2" = some (some (.ref f19))) (l19:K.lookup f19=some ⟨oc19,od19,.func (fnOf "add_block_2" "add_block_2" (Do cx) (Dn cx) (Dg cx) .none kV19 dc19 pm19 an19 cd19 ct19),sl19⟩) (c19:codeIn K cd19 "add_block_2" = true) (k19:keepIn K (.ref f19)=true)
  (a20:nsIn K mainGlobals "add_blocks" = some (some (.ref f20))) (l20:K.lookup f20=some ⟨oc20,od20,.func (fnOf "add_blocks" "add_blocks" (Do dY) (Dn dY) (Dg dY) .none kV20 dc20 pm20 an20 cd20 ct20),sl20⟩) (c20:codeIn K cd20 "add_blocks" = true) (k20:keepIn K (.ref f20)=true)
  (a21:findIn K (.ref o_Summing) "__init__" = some (some (.ref f21))) (i21:isFn K (.ref f21)=true) (l21:K.lookup f21=some ⟨oc21,od21,.func (fnOf "__init__" "Summing.__init__" (Do cG) (Dn cG) (Dg cG) .none kV21 dc21 pm21 an21 cd21 ct21),sl21⟩) (c21:codeIn K cd21 "Summing.__init__" = true) (k21:keepIn K (.ref f21)=true)
  (a22:findIn K (.ref o_Summing) "add" = some (some (.ref f22))) (i22:isFn K (.ref f22)=true) (l22:K.lookup f22=some ⟨oc22,od22,.func (fnOf "add" "Summing.add" (Do cZ) (Dn cZ) (Dg cZ) .none kV22 dc22 pm22 an22 cd22 ct22),sl22⟩) (c22:codeIn K cd22 "Summing.add" = true) (k22:keepIn K (.ref f22)=true)
  (a23:findIn K (.ref o_Summing) "told" = some (some (.ref f23))) (i23:isFn K (.ref f23)=true) (l23:K.lookup f23=some ⟨oc23,od23,.func (fnOf "told" "Summing.told" (Do cF) (Dn cF) (Dg cF) .none kV23 dc23 pm23 an23 cd23 ct23),sl23⟩) (c23:codeIn K cd23 "Summing.told" = true) (k23:keepIn K (.ref f23)=true)
  (a24:nsIn K mainGlobals "sum_of" = some (some (.ref f24))) (l24:K.lookup f24=some ⟨oc24,od24,.func (fnOf "sum_of" "sum_of" (Do iq) (Dn iq) (Dg iq) .none kV24 dc24 pm24 an24 cd24 ct24),sl24⟩) (c24:codeIn K cd24 "sum_of" = true) (k24:keepIn K (.ref f24)=true)
  (a25:nsIn K mainGlobals "mark_of" = some (some (.ref f25))) (l25:K.lookup f25=some ⟨oc25,od25,.func (fnOf "mark_of" "mark_of" (Do ei) (Dn ei) (Dg ei) .none kV25 dc25 pm25 an25 cd25 ct25),sl25⟩) (c25:codeIn K cd25 "mark_of" = true) (k25:keepIn K (.ref f25)=true)
  (a26:nsIn K mainGlobals "make_head" = some (some (.ref f26))) (l26:K.lookup f26=some ⟨oc26,od26,.func (fnOf "make_head" "make_head" (Do eU) (Dn eU) (Dg eU) .none kV26 dc26 pm26 an26 cd26 ct26),sl26⟩) (c26:codeIn K cd26 "make_head" = true) (k26:keepIn K (.ref f26)=true)
  (a27:nsIn K mainGlobals "head_length" = some (some (.ref f27))) (l27:K.lookup f27=some ⟨oc27,od27,.func (fnOf "head_length" "head_length" (Do cX) (Dn cX) (Dg cX) .none kV27 dc27 pm27 an27 cd27 ct27),sl27⟩) (c27:codeIn K cd27 "head_length" = true) (k27:keepIn K (.ref f27)=true)
  (a28:nsIn K mainGlobals "head_number" = some (some (.ref f28))) (l28:K.lookup f28=some ⟨oc28,od28,.func (fnOf "head_number" "head_number" (Do cW) (Dn cW) (Dg cW) .none kV28 dc28 pm28 an28 cd28 ct28),sl28⟩) (c28:codeIn K cd28 "head_number" = true) (k28:keepIn K (.ref f28)=true)
  (a29:nsIn K mainGlobals "head_name_sum" = some (some (.ref f29))) (l29:K.lookup f29=some ⟨oc29,od29,.func (fnOf "head_name_sum" "head_name_sum" (Do cg) (Dn cg) (Dg cg) .none kV29 dc29 pm29 an29 cd29 ct29),sl29⟩) (c29:codeIn K cd29 "head_name_sum" = true) (k29:keepIn K (.ref f29)=true)
  (a30:nsIn K mainGlobals "head_row" = some (some (.ref f30))) (l30:K.lookup f30=some ⟨oc30,od30,.func (fnOf "head_row" "head_row" (Do fU) (Dn fU) (Dg fU) .none kV30 dc30 pm30 an30 cd30 ct30),sl30⟩) (c30:codeIn K cd30 "head_row" = true) (k30:keepIn K (.ref f30)=true)
  (a31:nsIn K mainGlobals "head_store_id" = some (some (.ref f31))) (l31:K.lookup f31=some ⟨oc31,od31,.func (fnOf "head_store_id" "head_store_id" (Do cf) (Dn cf) (Dg cf) .none kV31 dc31 pm31 an31 cd31 ct31),sl31⟩) (c31:codeIn K cd31 "head_store_id" = true) (k31:keepIn K (.ref f31)=true)
  (a32:nsIn K mainGlobals "can_be_number" = some (some (.ref f32))) (l32:K.lookup f32=some ⟨oc32,od32,.func (fnOf "can_be_number" "can_be_number" (Do ci) (Dn ci) (Dg ci) .none kV32 dc32 pm32 an32 cd32 ct32),sl32⟩) (c32:codeIn K cd32 "can_be_number" = true) (k32:keepIn K (.ref f32)=true)
  (a33:nsIn K mainGlobals "can_be_head" = some (some (.ref f33))) (l33:K.lookup f33=some ⟨oc33,od33,.func (fnOf "can_be_head" "can_be_head" (Do cY) (Dn cY) (Dg cY) .none kV33 dc33 pm33 an33 cd33 ct33),sl33⟩) (c33:codeIn K cd33 "can_be_head" = true) (k33:keepIn K (.ref f33)=true)
  (a34:nsIn K mainGlobals "make_sector" = some (some (.ref f34))) (l34:K.lookup f34=some ⟨oc34,od34,.func (fnOf "make_sector" "make_sector" (Do cV) (Dn cV) (Dg cV) .none kV34 dc34 pm34 an34 cd34 ct34),sl34⟩) (c34:codeIn K cd34 "make_sector" = true) (k34:keepIn K (.ref f34)=true)
  (a35:nsIn K mainGlobals "share_of" = some (some (.ref f35))) (l35:K.lookup f35=some ⟨oc35,od35,.func (fnOf "share_of" "share_of" (Do fR) (Dn fR) (Dg fR) .none kV35 dc35 pm35 an35 cd35 ct35),sl35⟩) (c35:codeIn K cd35 "share_of" = true) (k35:keepIn K (.ref f35)=true)
  (a36:nsIn K mainGlobals "right_head" = some (some (.ref f36))) (l36:K.lookup f36=some ⟨oc36,od36,.func (fnOf "right_head" "right_head" (Do dU) (Dn dU) (Dg dU) .none kV36 dc36 pm36 an36 cd36 ct36),sl36⟩) (c36:codeIn K cd36 "right_head" = true) (k36:keepIn K (.ref f36)=true)
  (a37:nsIn K mainGlobals "cut" = some (some (.ref f37))) (l37:K.lookup f37=some ⟨oc37,od37,.func (fnOf "cut" "cut" (Do lp) (Dn lp) (Dg lp) .none kV37 dc37 pm37 an37 cd37 ct37),sl37⟩) (c37:codeIn K cd37 "cut" = true) (k37:keepIn K (.ref f37)=true)
  (a38:nsIn K mainGlobals "chain" = some (some (.ref f38))) (l38:K.lookup f38=some ⟨oc38,od38,.func (fnOf "chain" "chain" (Do jv) (Dn jv) (Dg jv) .none kV38 dc38 pm38 an38 cd38 ct38),sl38⟩) (c38:codeIn K cd38 "chain" = true) (k38:keepIn K (.ref f38)=true)
  (a39:nsIn K mainGlobals "factors_of" = some (some (.ref f39))) (l39:K.lookup f39=some ⟨oc39,od39,.func (fnOf "factors_of" "factors_of" (Do bW) (Dn bW) (Dg bW) .none kV39 dc39 pm39 an39 cd39 ct39),sl39⟩) (c39:codeIn K cd39 "factors_of" = true) (k39:keepIn K (.ref f39)=true)
  (a40:nsIn K mainGlobals "add_multiple" = some (some (.ref f40))) (l40:K.lookup f40=some ⟨oc40,od40,.func (fnOf "add_multiple" "add_multiple" (Do bN) (Dn bN) (Dg bN) .none kV40 dc40 pm40 an40 cd40 ct40),sl40⟩) (c40:codeIn K cd40 "add_multiple" = true) (k40:keepIn K (.ref f40)=true)
  (a41:nsIn K mainGlobals "make_share" = some (some (.ref f41))) (l41:K.lookup f41=some ⟨oc41,od41,.func (fnOf "make_share" "make_share" (Do dX) (Dn dX) (Dg dX) .none kV41 dc41 pm41 an41 cd41 ct41),sl41⟩) (c41:codeIn K cd41 "make_share" = true) (k41:keepIn K (.ref f41)=true)
  (a42:nsIn K mainGlobals "make_shares" = some (some (.ref f42))) (l42:K.lookup f42=some ⟨oc42,od42,.func (fnOf "make_shares" "make_shares" (Do cv) (Dn cv) (Dg cv) .none kV42 dc42 pm42 an42 cd42 ct42),sl42⟩) (c42:codeIn K cd42 "make_shares" = true) (k42:keepIn K (.ref f42)=true)
  (a43:nsIn K mainGlobals "solve" = some (some (.ref f43))) (l43:K.lookup f43=some ⟨oc43,od43,.func (fnOf "solve" "solve" (Do gN) (Dn gN) (Dg gN) .none kV43 dc43 pm43 an43 cd43 ct43),sl43⟩) (c43:codeIn K cd43 "solve" = true) (k43:keepIn K (.ref f43)=true)
  (a44:nsIn K mainGlobals "tell_data" = some (some (.ref f44))) (l44:K.lookup f44=some ⟨oc44,od44,.func (fnOf "tell_data" "tell_data" (Do dr) (Dn dr) (Dg dr) .none kV44 dc44 pm44 an44 cd44 ct44),sl44⟩) (c44:codeIn K cd44 "tell_data" = true) (k44:keepIn K (.ref f44)=true)
  (a45:findIn K (.ref o_Disk) "__init__" = some (some (.ref f45))) (i45:isFn K (.ref f45)=true) (l45:K.lookup f45=some ⟨oc45,od45,.func (fnOf "__init__" "Disk.__init__" (Do dz) (Dn dz) (Dg dz) .none kV45 dc45 pm45 an45 cd45 ct45),sl45⟩) (c45:codeIn K cd45 "Disk.__init__" = true) (k45:keepIn K (.ref f45)=true)
  (a46:findIn K (.ref o_Disk) "lay_sector" = some (some (.ref f46))) (i46:isFn K (.ref f46)=true) (l46:K.lookup f46=some ⟨oc46,od46,.func (fnOf "lay_sector" "Disk.lay_sector" (Do bJ) (Dn bJ) (Dg bJ) .none kV46 dc46 pm46 an46 cd46 ct46),sl46⟩) (c46:codeIn K cd46 "Disk.lay_sector" = true) (k46:keepIn K (.ref f46)=true)
  (a47:findIn K (.ref o_Disk) "copy_sector" = some (some (.ref f47))) (i47:isFn K (.ref f47)=true) (l47:K.lookup f47=some ⟨oc47,od47,.func (fnOf "copy_sector" "Disk.copy_sector" (Do bA) (Dn bA) (Dg bA) .none kV47 dc47 pm47 an47 cd47 ct47),sl47⟩) (c47:codeIn K cd47 "Disk.copy_sector" = true) (k47:keepIn K (.ref f47)=true)
  (a48:findIn K (.ref o_Disk) "set_byte" = some (some (.ref f48))) (i48:isFn K (.ref f48)=true) (l48:K.lookup f48=some ⟨oc48,od48,.func (fnOf "set_byte" "Disk.set_byte" (Do cj) (Dn cj) (Dg cj) .none kV48 dc48 pm48 an48 cd48 ct48),sl48⟩) (c48:codeIn K cd48 "Disk.set_byte" = true) (k48:keepIn K (.ref f48)=true)
  (a49:findIn K (.ref o_Disk) "clear_row" = some (some (.ref f49))) (i49:isFn K (.ref f49)=true) (l49:K.lookup f49=some ⟨oc49,od49,.func (fnOf "clear_row" "Disk.clear_row" (Do bP) (Dn bP) (Dg bP) .none kV49 dc49 pm49 an49 cd49 ct49),sl49⟩) (c49:codeIn K cd49 "Disk.clear_row" = true) (k49:keepIn K (.ref f49)=true)
  (a50:findIn K (.ref o_Disk) "write_row" = some (some (.ref f50))) (i50:isFn K (.ref f50)=true) (l50:K.lookup f50=some ⟨oc50,od50,.func (fnOf "write_row" "Disk.write_row" (Do bO) (Dn bO) (Dg bO) .none kV50 dc50 pm50 an50 cd50 ct50),sl50⟩) (c50:codeIn K cd50 "Disk.write_row" = true) (k50:keepIn K (.ref f50)=true)
  (a51:findIn K (.ref o_Disk) "heads_of" = some (some (.ref f51))) (i51:isFn K (.ref f51)=true) (l51:K.lookup f51=some ⟨oc51,od51,.func (fnOf "heads_of" "Disk.heads_of" (Do cn) (Dn cn) (Dg cn) .none kV51 dc51 pm51 an51 cd51 ct51),sl51⟩) (c51:codeIn K cd51 "Disk.heads_of" = true) (k51:keepIn K (.ref f51)=true)
  (a52:findIn K (.ref o_Disk) "is_empty" = some (some (.ref f52))) (i52:isFn K (.ref f52)=true) (l52:K.lookup f52=some ⟨oc52,od52,.func (fnOf "is_empty" "Disk.is_empty" (Do ck) (Dn ck) (Dg ck) .none kV52 dc52 pm52 an52 cd52 ct52),sl52⟩) (c52:codeIn K cd52 "Disk.is_empty" = true) (k52:keepIn K (.ref f52)=true)
  (a53:findIn K (.ref o_Disk) "head_of" = some (some (.ref f53))) (i53:isFn K (.ref f53)=true) (l53:K.lookup f53=some ⟨oc53,od53,.func (fnOf "head_of" "Disk.head_of" (Do cK) (Dn cK) (Dg cK) .none kV53 dc53 pm53 an53 cd53 ct53),sl53⟩) (c53:codeIn K cd53 "Disk.head_of" = true) (k53:keepIn K (.ref f53)=true)
  (a54:findIn K (.ref o_Disk) "data_of" = some (some (.ref f54))) (i54:isFn K (.ref f54)=true) (l54:K.lookup f54=some ⟨oc54,od54,.func (fnOf "data_of" "Disk.data_of" (Do bz) (Dn bz) (Dg bz) .none kV54 dc54 pm54 an54 cd54 ct54),sl54⟩) (c54:codeIn K cd54 "Disk.data_of" = true) (k54:keepIn K (.ref f54)=true)
  (a55:findIn K (.ref o_Disk) "greatest_number" = some (some (.ref f55))) (i55:isFn K (.ref f55)=true) (l55:K.lookup f55=some ⟨oc55,od55,.func (fnOf "greatest_number" "Disk.greatest_number" (Do aD) (Dn aD) (Dg aD) .none kV55 dc55 pm55 an55 cd55 ct55),sl55⟩) (c55:codeIn K cd55 "Disk.greatest_number" = true) (k55:keepIn K (.ref f55)=true)
  (a56:findIn K (.ref o_Disk) "weighed" = some (some (.ref f56))) (i56:isFn K (.ref f56)=true) (l56:K.lookup f56=some ⟨oc56,od56,.func (fnOf "weighed" "Disk.weighed" (Do cJ) (Dn cJ) (Dg cJ) .none kV56 dc56 pm56 an56 cd56 ct56),sl56⟩) (c56:codeIn K cd56 "Disk.weighed" = true) (k56:keepIn K (.ref f56)=true)
  (a57:nsIn K mainGlobals "multiply" = some (some (.ref f57))) (l57:K.lookup f57=some ⟨oc57,od57,.func (fnOf "multiply" "multiply" (Do fT) (Dn fT) (Dg fT) .none kV57 dc57 pm57 an57 cd57 ct57),sl57⟩) (c57:codeIn K cd57 "multiply" = true) (k57:keepIn K (.ref f57)=true)
  (a58:findIn K (.ref o_Sealing) "__init__" = some (some (.ref f58))) (i58:isFn K (.ref f58)=true) (l58:K.lookup f58=some ⟨oc58,od58,.func (fnOf "__init__" "Sealing.__init__" (Do cH) (Dn cH) (Dg cH) .none kV58 dc58 pm58 an58 cd58 ct58),sl58⟩) (c58:codeIn K cd58 "Sealing.__init__" = true) (k58:keepIn K (.ref f58)=true)
  (a59:findIn K (.ref o_Sealing) "enciphered_count" = some (some (.ref f59))) (i59:isFn K (.ref f59)=true) (l59:K.lookup f59=some ⟨oc59,od59,.func (fnOf "enciphered_count" "Sealing.enciphered_count" (Do aA) (Dn aA) (Dg aA) .none kV59 dc59 pm59 an59 cd59 ct59),sl59⟩) (c59:codeIn K cd59 "Sealing.enciphered_count" = true) (k59:keepIn K (.ref f59)=true)
  (a60:findIn K (.ref o_Sealing) "hold" = some (some (.ref f60))) (i60:isFn K (.ref f60)=true) (l60:K.lookup f60=some ⟨oc60,od60,.func (fnOf "hold" "Sealing.hold" (Do cI) (Dn cI) (Dg cI) .none kV60 dc60 pm60 an60 cd60 ct60),sl60⟩) (c60:codeIn K cd60 "Sealing.hold" = true) (k60:keepIn K (.ref f60)=true)
  (a61:findIn K (.ref o_Sealing) "fill_block" = some (some (.ref f61))) (i61:isFn K (.ref f61)=true) (l61:K.lookup f61=some ⟨oc61,od61,.func (fnOf "fill_block" "Sealing.fill_block" (Do aZ) (Dn aZ) (Dg aZ) .none kV61 dc61 pm61 an61 cd61 ct61),sl61⟩) (c61:codeIn K cd61 "Sealing.fill_block" = true) (k61:keepIn K (.ref f61)=true)
  (a62:findIn K (.ref o_Sealing) "take_beside" = some (some (.ref f62))) (i62:isFn K (.ref f62)=true) (l62:K.lookup f62=some ⟨oc62,od62,.func (fnOf "take_beside" "Sealing.take_beside" (Do aV) (Dn aV) (Dg aV) .none kV62 dc62 pm62 an62 cd62 ct62),sl62⟩) (c62:codeIn K cd62 "Sealing.take_beside" = true) (k62:keepIn K (.ref f62)=true)
  (a63:findIn K (.ref o_Sealing) "run_stream" = some (some (.ref f63))) (i63:isFn K (.ref f63)=true) (l63:K.lookup f63=some ⟨oc63,od63,.func (fnOf "run_stream" "Sealing.run_stream" (Do aY) (Dn aY) (Dg aY) .none kV63 dc63 pm63 an63 cd63 ct63),sl63⟩) (c63:codeIn K cd63 "Sealing.run_stream" = true) (k63:keepIn K (.ref f63)=true)
  (a64:findIn K (.ref o_Sealing) "take_text" = some (some (.ref f64))) (i64:isFn K (.ref f64)=true) (l64:K.lookup f64=some ⟨oc64,od64,.func (fnOf "take_text" "Sealing.take_text" (Do bh) (Dn bh) (Dg bh) .none kV64 dc64 pm64 an64 cd64 ct64),sl64⟩) (c64:codeIn K cd64 "Sealing.take_text" = true) (k64:keepIn K (.ref f64)=true)
  (a65:findIn K (.ref o_Sealing) "tag" = some (some (.ref f65))) (i65:isFn K (.ref f65)=true) (l65:K.lookup f65=some ⟨oc65,od65,.func (fnOf "tag" "Sealing.tag" (Do da) (Dn da) (Dg da) .none kV65 dc65 pm65 an65 cd65 ct65),sl65⟩) (c65:codeIn K cd65 "Sealing.tag" = true) (k65:keepIn K (.ref f65)=true)
  (a66:nsIn K mainGlobals "seal_text" = some (some (.ref f66))) (l66:K.lookup f66=some ⟨oc66,od66,.func (fnOf "seal_text" "seal_text" (Do eR) (Dn eR) (Dg eR) .none kV66 dc66 pm66 an66 cd66 ct66),sl66⟩) (c66:codeIn K cd66 "seal_text" = true) (k66:keepIn K (.ref f66)=true)
  (a67:nsIn K mainGlobals "open_text" = some (some (.ref f67))) (l67:K.lookup f67=some ⟨oc67,od67,.func (fnOf "open_text" "open_text" (Do eS) (Dn eS) (Dg eS) .none kV67 dc67 pm67 an67 cd67 ct67),sl67⟩) (c67:codeIn K cd67 "open_text" = true) (k67:keepIn K (.ref f67)=true)
  (a68:nsIn K mainGlobals "can_be_name_length" = some (some (.ref f68))) (l68:K.lookup f68=some ⟨oc68,od68,.func (fnOf "can_be_name_length" "can_be_name_length" (Do aX) (Dn aX) (Dg aX) .none kV68 dc68 pm68 an68 cd68 ct68),sl68⟩) (c68:codeIn K cd68 "can_be_name_length" = true) (k68:keepIn K (.ref f68)=true)
  (a69:nsIn K mainGlobals "pack" = some (some (.ref f69))) (l69:K.lookup f69=some ⟨oc69,od69,.func (fnOf "pack" "pack" (Do kK) (Dn kK) (Dg kK) .none kV69 dc69 pm69 an69 cd69 ct69),sl69⟩) (c69:codeIn K cd69 "pack" = true) (k69:keepIn K (.ref f69)=true)
  (a70:nsIn K mainGlobals "unpack" = some (some (.ref f70))) (l70:K.lookup f70=some ⟨oc70,od70,.func (fnOf "unpack" "unpack" (Do ip) (Dn ip) (Dg ip) .none kV70 dc70 pm70 an70 cd70 ct70),sl70⟩) (c70:codeIn K cd70 "unpack" = true) (k70:keepIn K (.ref f70)=true)
  (a71:nsIn K mainGlobals "record_key" = some (some (.ref f71))) (l71:K.lookup f71=some ⟨oc71,od71,.func (fnOf "record_key" "record_key" (Do dW) (Dn dW) (Dg dW) .none kV71 dc71 pm71 an71 cd71 ct71),sl71⟩) (c71:codeIn K cd71 "record_key" = true) (k71:keepIn K (.ref f71)=true)
  (a72:nsIn K mainGlobals "record_nonce" = some (some (.ref f72))) (l72:K.lookup f72=some ⟨oc72,od72,.func (fnOf "record_nonce" "record_nonce" (Do cE) (Dn cE) (Dg cE) .none kV72 dc72 pm72 an72 cd72 ct72),sl72⟩) (c72:codeIn K cd72 "record_nonce" = true) (k72:keepIn K (.ref f72)=true)
  (a73:nsIn K mainGlobals "seal_record" = some (some (.ref f73))) (l73:K.lookup f73=some ⟨oc73,od73,.func (fnOf "seal_record" "seal_record" (Do cT) (Dn cT) (Dg cT) .none kV73 dc73 pm73 an73 cd73 ct73),sl73⟩) (c73:codeIn K cd73 "seal_record" = true) (k73:keepIn K (.ref f73)=true)
  (a74:nsIn K mainGlobals "open_record" = some (some (.ref f74))) (l74:K.lookup f74=some ⟨oc74,od74,.func (fnOf "open_record" "open_record" (Do cU) (Dn cU) (Dg cU) .none kV74 dc74 pm74 an74 cd74 ct74),sl74⟩) (c74:codeIn K cd74 "open_record" = true) (k74:keepIn K (.ref f74)=true)
  (a75:findIn K (.ref o_Desk) "__init__" = some (some (.ref f75))) (i75:isFn K (.ref f75)=true) (l75:K.lookup f75=some ⟨oc75,od75,.func (fnOf "__init__" "Desk.__init__" (Do eX) (Dn eX) (Dg eX) .none kV75 dc75 pm75 an75 cd75 ct75),sl75⟩) (c75:codeIn K cd75 "Desk.__init__" = true) (k75:keepIn K (.ref f75)=true)
  (a76:findIn K (.ref o_Desk) "row_of" = some (some (.ref f76))) (i76:isFn K (.ref f76)=true) (l76:K.lookup f76=some ⟨oc76,od76,.func (fnOf "row_of" "Desk.row_of" (Do dc) (Dn dc) (Dg dc) .none kV76 dc76 pm76 an76 cd76 ct76),sl76⟩) (c76:codeIn K cd76 "Desk.row_of" = true) (k76:keepIn K (.ref f76)=true)
  (a77:findIn K (.ref o_Desk) "row_for" = some (some (.ref f77))) (i77:isFn K (.ref f77)=true) (l77:K.lookup f77=some ⟨oc77,od77,.func (fnOf "row_for" "Desk.row_for" (Do cM) (Dn cM) (Dg cM) .none kV77 dc77 pm77 an77 cd77 ct77),sl77⟩) (c77:codeIn K cd77 "Desk.row_for" = true) (k77:keepIn K (.ref f77)=true)
  (a78:findIn K (.ref o_Desk) "put" = some (some (.ref f78))) (i78:isFn K (.ref f78)=true) (l78:K.lookup f78=some ⟨oc78,od78,.func (fnOf "put" "Desk.put" (Do fW) (Dn fW) (Dg fW) .none kV78 dc78 pm78 an78 cd78 ct78),sl78⟩) (c78:codeIn K cd78 "Desk.put" = true) (k78:keepIn K (.ref f78)=true)
  (a79:findIn K (.ref o_Desk) "get_text" = some (some (.ref f79))) (i79:isFn K (.ref f79)=true) (l79:K.lookup f79=some ⟨oc79,od79,.func (fnOf "get_text" "Desk.get_text" (Do cq) (Dn cq) (Dg cq) .none kV79 dc79 pm79 an79 cd79 ct79),sl79⟩) (c79:codeIn K cd79 "Desk.get_text" = true) (k79:keepIn K (.ref f79)=true)
  (a80:findIn K (.ref o_Desk) "drop" = some (some (.ref f80))) (i80:isFn K (.ref f80)=true) (l80:K.lookup f80=some ⟨oc80,od80,.func (fnOf "drop" "Desk.drop" (Do eZ) (Dn eZ) (Dg eZ) .none kV80 dc80 pm80 an80 cd80 ct80),sl80⟩) (c80:codeIn K cd80 "Desk.drop" = true) (k80:keepIn K (.ref f80)=true)
  (a81:findIn K (.ref o_Desk) "clear_row" = some (some (.ref f81))) (i81:isFn K (.ref f81)=true) (l81:K.lookup f81=some ⟨oc81,od81,.func (fnOf "clear_row" "Desk.clear_row" (Do bQ) (Dn bQ) (Dg bQ) .none kV81 dc81 pm81 an81 cd81 ct81),sl81⟩) (c81:codeIn K cd81 "Desk.clear_row" = true) (k81:keepIn K (.ref f81)=true)
  (a82:findIn K (.ref o_Desk) "state_of" = some (some (.ref f82))) (i82:isFn K (.ref f82)=true) (l82:K.lookup f82=some ⟨oc82,od82,.func (fnOf "state_of" "Desk.state_of" (Do cp) (Dn cp) (Dg cp) .none kV82 dc82 pm82 an82 cd82 ct82),sl82⟩) (c82:codeIn K cd82 "Desk.state_of" = true) (k82:keepIn K (.ref f82)=true)
  (a83:findIn K (.ref o_Desk) "mend" = some (some (.ref f83))) (i83:isFn K (.ref f83)=true) (l83:K.lookup f83=some ⟨oc83,od83,.func (fnOf "mend" "Desk.mend" (Do dA) (Dn dA) (Dg dA) .none kV83 dc83 pm83 an83 cd83 ct83),sl83⟩) (c83:codeIn K cd83 "Desk.mend" = true) (k83:keepIn K (.ref f83)=true)
  (a84:findIn K (.ref o_Desk) "look" = some (some (.ref f84))) (i84:isFn K (.ref f84)=true) (l84:K.lookup f84=some ⟨oc84,od84,.func (fnOf "look" "Desk.look" (Do eW) (Dn eW) (Dg eW) .none kV84 dc84 pm84 an84 cd84 ct84),sl84⟩) (c84:codeIn K cd84 "Desk.look" = true) (k84:keepIn K (.ref f84)=true)
  (a85:findIn K (.ref o_Desk) "harm" = some (some (.ref f85))) (i85:isFn K (.ref f85)=true) (l85:K.lookup f85=some ⟨oc85,od85,.func (fnOf "harm" "Desk.harm" (Do eY) (Dn eY) (Dg eY) .none kV85 dc85 pm85 an85 cd85 ct85),sl85⟩) (c85:codeIn K cd85 "Desk.harm" = true) (k85:keepIn K (.ref f85)=true)
  (a86:findIn K (.ref o_Desk) "copy_sector" = some (some (.ref f86))) (i86:isFn K (.ref f86)=true) (l86:K.lookup f86=some ⟨oc86,od86,.func (fnOf "copy_sector" "Desk.copy_sector" (Do bC) (Dn bC) (Dg bC) .none kV86 dc86 pm86 an86 cd86 ct86),sl86⟩) (c86:codeIn K cd86 "Desk.copy_sector" = true) (k86:keepIn K (.ref f86)=true)
  (a87:findIn K (.ref o_Desk) "take" = some (some (.ref f87))) (i87:isFn K (.ref f87)=true) (l87:K.lookup f87=some ⟨oc87,od87,.func (fnOf "take" "Desk.take" (Do eV) (Dn eV) (Dg eV) .none kV87 dc87 pm87 an87 cd87 ct87),sl87⟩) (c87:codeIn K cd87 "Desk.take" = true) (k87:keepIn K (.ref f87)=true)
  (a88:nsIn K mainGlobals "lay_out" = some (some (.ref f88))) (l88:K.lookup f88=some ⟨oc88,od88,.func (fnOf "lay_out" "lay_out" (Do gO) (Dn gO) (Dg gO) .none kV88 dc88 pm88 an88 cd88 ct88),sl88⟩) (c88:codeIn K cd88 "lay_out" = true) (k88:keepIn K (.ref f88)=true)
  (a89:nsIn K mainGlobals "store" = some (some (.ref f89))) (l89:K.lookup f89=some ⟨oc89,od89,.func (fnOf "store" "store" (Do eQ) (Dn eQ) (Dg eQ) .none kV89 dc89 pm89 an89 cd89 ct89),sl89⟩) (c89:codeIn K cd89 "store" = true) (k89:keepIn K (.ref f89)=true)
  (a90:nsIn K mainGlobals "KEY_LENGTHS" = some (some (.ref t90))) (l90:K.lookup t90=some ⟨.type "tuple",od90,.seq its90 n90,sl90⟩) (v90:eM its90 [16,24,32]=true)
  (a91:nsIn K mainGlobals "SUBSTITUTE" = some (some (.ref t91))) (l91:K.lookup t91=some ⟨.type "tuple",od91,.seq its91 n91,sl91⟩) (v91:eM its91 [99,124,119,123,242,107,111,197,48,1,103,43,254,215,171,118,202,130,201,125,250,89,71,240,173,212,162,175,156,164,114,192,183,253,147,38,54,63,247,204,52,165,229,241,113,216,49,21,4,199,35,195,24,150,5,154,7,18,128,226,235,39,178,117,9,131,44,26,27,110,90,160,82,59,214,179,41,227,47,132,83,209,0,237,32,252,177,91,106,203,190,57,74,76,88,207,208,239,170,251,67,77,51,133,69,249,2,127,80,60,159,168,81,163,64,143,146,157,56,245,188,182,218,33,16,255,243,210,205,12,19,236,95,151,68,23,196,167,126,61,100,93,25,115,96,129,79,220,34,42,144,136,70,238,184,20,222,94,11,219,224,50,58,10,73,6,36,92,194,211,172,98,145,149,228,121,231,200,55,109,141,213,78,169,108,86,244,234,101,122,174,8,186,120,37,46,28,166,180,198,232,221,116,31,75,189,139,138,112,62,181,102,72,3,246,14,97,53,87,185,134,193,29,158,225,248,152,17,105,217,142,148,155,30,135,233,206,85,40,223,140,161,137,13,191,230,66,104,65,153,45,15,176,84,187,22]=true)
  (a92:nsIn K mainGlobals "SHIFT" = some (some (.ref t92))) (l92:K.lookup t92=some ⟨.type "tuple",od92,.seq its92 n92,sl92⟩) (v92:eM its92 [0,5,10,15,4,9,14,3,8,13,2,7,12,1,6,11]=true)
  (a93:nsIn K mainGlobals "START_1" = some (some (.ref t93))) (l93:K.lookup t93=some ⟨.type "tuple",od93,.seq its93 n93,sl93⟩) (v93:eM its93 [1732584193,4023233417,2562383102,271733878,3285377520]=true)
  (a94:nsIn K mainGlobals "START_2" = some (some (.ref t94))) (l94:K.lookup t94=some ⟨.type "tuple",od94,.seq its94 n94,sl94⟩) (v94:eM its94 [1779033703,3144134277,1013904242,2773480762,1359893119,2600822924,528734635,1541459225]=true)
  (a95:nsIn K mainGlobals "CONSTANTS_1" = some (some (.ref t95))) (l95:K.lookup t95=some ⟨.type "tuple",od95,.seq its95 n95,sl95⟩) (v95:eM its95 [1518500249,1859775393,2400959708,3395469782]=true)
  (a96:nsIn K mainGlobals "CONSTANTS_2" = some (some (.ref t96))) (l96:K.lookup t96=some ⟨.type "tuple",od96,.seq its96 n96,sl96⟩) (v96:eM its96 [1116352408,1899447441,3049323471,3921009573,961987163,1508970993,2453635748,2870763221,3624381080,310598401,607225278,1426881987,1925078388,2162078206,2614888103,3248222580,3835390401,4022224774,264347078,604807628,770255983,1249150122,1555081692,1996064986,2554220882,2821834349,2952996808,3210313671,3336571891,3584528711,113926993,338241895,666307205,773529912,1294757372,1396182291,1695183700,1986661051,2177026350,2456956037,2730485921,2820302411,3259730800,3345764771,3516065817,3600352804,4094571909,275423344,430227734,506948616,659060556,883997877,958139571,1322822218,1537002063,1747873779,1955562222,2024104815,2227730452,2361852424,2428436474,2756734187,3204031479,3329325298]=true)
  (a97:nsIn K mainGlobals "SIGN" = some (some (.ref t97))) (l97:K.lookup t97=some ⟨.type "tuple",od97,.seq its97 n97,sl97⟩) (v97:eM its97 [83,89,50,50]=true)
  (a98:nsIn K mainGlobals "BLOCK" = some (some (.int 64 i98)))
  (a99:nsIn K mainGlobals "MASK" = some (some (.int 4294967295 i99)))
  (a100:nsIn K mainGlobals "SECTOR_SIZE" = some (some (.int 512 i100)))
  (a101:nsIn K mainGlobals "HEAD_AT" = some (some (.int 37 i101)))
  (a102:nsIn K mainGlobals "SHARE_AT" = some (some (.int 80 i102)))
  (a103:nsIn K mainGlobals "GREATEST_NUMBER" = some (some (.int 4611686018427387904 i103)))
  (a104:nsIn K mainGlobals "ROW_SIZE" = some (some (.int 12 i104)))
  (a105:nsIn K mainGlobals "DATA_SHARES" = some (some (.int 8 i105)))
  (a106:nsIn K mainGlobals "MORE_SHARES" = some (some (.int 4 i106)))
  (a107:nsIn K mainGlobals "SUM_RANGE" = some (some (.int 4294967296 i107)))
  (a108:nsIn K mainGlobals "TAG_LENGTH" = some (some (.int 16 i108)))
  (a109:nsIn K mainGlobals "OVERFLOW" = some (some (.int 299076299051606071403356588563077529600 i109)))
  (a110:nsIn K mainGlobals "NAME_AT" = some (some (.int 5 i110)))
  (a111:nsIn K mainGlobals "TEXT_AT" = some (some (.int 40 i111)))
  (a112:nsIn K mainGlobals "MOST_NAME" = some (some (.int 35 i112)))
  (a113:nsIn K mainGlobals "MOST_TEXT" = some (some (.int 3400 i113)))
  (a114:nsIn K mainGlobals "ID_SIZE" = some (some (.int 8 i114)))
  (z115:nsIn K mainGlobals "range" = some none)
  (z116:nsIn K mainGlobals "len" = some none)
  (z117:nsIn K mainGlobals "list" = some none)
  (z118:nsIn K mainGlobals "max" = some none)
  (z119:nsIn K mainGlobals "zip" = some none) :
  ∃fd:FuncData,(∀(s:Shared)(us:List Value),us.length=(["rows","own","calls"]:List Str).length->BindsTo s fd ⟨us,[]⟩ ((["rows","own","calls"]:List Str).zip us))/\∀base:Heap,K.In base->base.Ns mainGlobals mg->FnOk P w K mg base CX0 14 fa fd ["rows","own","calls"] (tf K):=by
 have e:=hfa.symm.trans (mg_of X G a89)
 cases e
 let ad:Adr:=⟨t90,t91,t92,t93,t94,t95,t96,t97,o_Summing,o_Disk,o_Sealing,o_Desk⟩
 have T:Txt K mg ad:=⟨mg_of X G a90,iO l90 v90,mg_of X G a91,iO l91 v91,mg_of X G a92,iO l92 v92,mg_of X G a93,iO l93 v93,mg_of X G a94,iO l94 v94,mg_of X G a95,iO l95 v95,mg_of X G a96,iO l96 v96,mg_of X G a97,iO l97 v97,⟨_,mg_of X G a98⟩,⟨_,mg_of X G a99⟩,⟨_,mg_of X G a100⟩,⟨_,mg_of X G a101⟩,⟨_,mg_of X G a102⟩,⟨_,mg_of X G a103⟩,⟨_,mg_of X G a104⟩,⟨_,mg_of X G a105⟩,⟨_,mg_of X G a106⟩,⟨_,mg_of X G a107⟩,⟨_,mg_of X G a108⟩,⟨_,mg_of X G a109⟩,⟨_,mg_of X G a110⟩,⟨_,mg_of X G a111⟩,⟨_,mg_of X G a112⟩,⟨_,mg_of X G a113⟩,⟨_,mg_of X G a114⟩,mg_of X G g_Summing,⟨pg_Summing,hd_Summing,po_Summing,sa_Summing⟩,n_kind_Summing,n_state_Summing,n_waiting_Summing,n_summed_length_Summing,mg_of X G g_Disk,⟨pg_Disk,hd_Disk,po_Disk,sa_Disk⟩,n_row_count_Disk,n_store_id_Disk,n_sectors_Disk,n_heads_Disk,mg_of X G g_Sealing,⟨pg_Sealing,hd_Sealing,po_Sealing,sa_Sealing⟩,n_round_keys_Sealing,n_factor_Sealing,n_nonce_Sealing,n_opening_Sealing,n_stream_Sealing,n_beside_length_Sealing,n_text_length_Sealing,n_text_begun_Sealing,n_tagged_Sealing,n_waiting_Sealing,mg_of X G g_Desk,⟨pg_Desk,hd_Desk,po_Desk,sa_Desk⟩,n_store_id_Desk,n_secret_Desk,n_disk_Desk,mg_none_of X G z115,mg_none_of X G z116,mg_none_of X G z117,mg_none_of X G z118,mg_none_of X G z119⟩
 have F0:=Dq (st:=ir) l0 c0 k0
 have b0:=F0.binds (ps:=["byte"]) λ_ _ _ _ _ _ us hl=>by obtain ⟨_,rfl⟩:=aS us hl;rfl
 have F1:=Dq (st:=du) l1 c1 k1
 have b1:=F1.binds (ps:=["factor"]) λ_ _ _ _ _ _ us hl=>by obtain ⟨_,rfl⟩:=aS us hl;rfl
 have F2:=Dq (st:=gP) l2 c2 k2
 have b2:=F2.binds (ps:=["byte"]) λ_ _ _ _ _ _ us hl=>by obtain ⟨_,rfl⟩:=aS us hl;rfl
 have F3:=Dq (st:=mW) l3 c3 k3
 have b3:=F3.binds (ps:=["state"]) λ_ _ _ _ _ _ us hl=>by obtain ⟨_,rfl⟩:=aS us hl;rfl
 have F4:=Dq (st:=fz) l4 c4 k4
 have b4:=F4.binds (ps:=["state","round_keys","at"]) λ_ _ _ _ _ _ us hl=>by obtain ⟨_,_,_,rfl⟩:=dn us hl;rfl
 have F5:=Dq (st:=bX) l5 c5 k5
 have b5:=F5.binds (ps:=["key"]) λ_ _ _ _ _ _ us hl=>by obtain ⟨_,rfl⟩:=aS us hl;rfl
 have F6:=Dq (st:=dh) l6 c6 k6
 have b6:=F6.binds (ps:=["block","round_keys"]) λ_ _ _ _ _ _ us hl=>by obtain ⟨_,_,rfl⟩:=aB us hl;rfl
 have F7:=Dq (st:=eT) l7 c7 k7
 have b7:=F7.binds (ps:=["data"]) λ_ _ _ _ _ _ us hl=>by obtain ⟨_,rfl⟩:=aS us hl;rfl
 have F8:=Dq (st:=eF) l8 c8 k8
 have b8:=F8.binds (ps:=["number","count"]) λ_ _ _ _ _ _ us hl=>by obtain ⟨_,_,rfl⟩:=aB us hl;rfl
 have F9:=Dq (st:=dw) l9 c9 k9
 have b9:=F9.binds (ps:=["number","count"]) λ_ _ _ _ _ _ us hl=>by obtain ⟨_,_,rfl⟩:=aB us hl;rfl
 have F10:=Dq (st:=aU) l10 c10 k10
 have b10:=F10.binds (ps:=["data"]) λ_ _ _ _ _ _ us hl=>by obtain ⟨_,rfl⟩:=aS us hl;rfl
 have F11:=Dq (st:=eP) l11 c11 k11
 have b11:=F11.binds (ps:=["word","count"]) λ_ _ _ _ _ _ us hl=>by obtain ⟨_,_,rfl⟩:=aB us hl;rfl
 have F12:=Dq (st:=cS) l12 c12 k12
 have b12:=F12.binds (ps:=["word","first","second","third"]) λ_ _ _ _ _ _ us hl=>by obtain ⟨_,_,_,_,rfl⟩:=iK us hl;rfl
 have F13:=Dq (st:=bK) l13 c13 k13
 have b13:=F13.binds (ps:=["word","first","second","shift"]) λ_ _ _ _ _ _ us hl=>by obtain ⟨_,_,_,_,rfl⟩:=iK us hl;rfl
 have F14:=Dq (st:=eE) l14 c14 k14
 have b14:=F14.binds (ps:=["block"]) λ_ _ _ _ _ _ us hl=>by obtain ⟨_,rfl⟩:=aS us hl;rfl
 have F15:=Dq (st:=bM) l15 c15 k15
 have b15:=F15.binds (ps:=["block"]) λ_ _ _ _ _ _ us hl=>by obtain ⟨_,rfl⟩:=aS us hl;rfl
 have F16:=Dq (st:=fV) l16 c16 k16
 have b16:=F16.binds (ps:=["at","b","c","d"]) λ_ _ _ _ _ _ us hl=>by obtain ⟨_,_,_,_,rfl⟩:=iK us hl;rfl
 have F17:=Dq (st:=cy) l17 c17 k17
 have b17:=F17.binds (ps:=["state","block"]) λ_ _ _ _ _ _ us hl=>by obtain ⟨_,_,rfl⟩:=aB us hl;rfl
 have F18:=Dq (st:=bL) l18 c18 k18
 have b18:=F18.binds (ps:=["block"]) λ_ _ _ _ _ _ us hl=>by obtain ⟨_,rfl⟩:=aS us hl;rfl
 have F19:=Dq (st:=cx) l19 c19 k19
 have b19:=F19.binds (ps:=["state","block"]) λ_ _ _ _ _ _ us hl=>by obtain ⟨_,_,rfl⟩:=aB us hl;rfl
 have F20:=Dq (st:=dY) l20 c20 k20
 have b20:=F20.binds (ps:=["kind","state","data"]) λ_ _ _ _ _ _ us hl=>by obtain ⟨_,_,_,rfl⟩:=dn us hl;rfl
 have F21:=Dq (st:=cG) l21 c21 k21
 have b21:=F21.binds (ps:=["self","kind"]) λ_ _ _ _ _ _ us hl=>by obtain ⟨_,_,rfl⟩:=aB us hl;rfl
 have F22:=Dq (st:=cZ) l22 c22 k22
 have b22:=F22.binds (ps:=["self","data"]) λ_ _ _ _ _ _ us hl=>by obtain ⟨_,_,rfl⟩:=aB us hl;rfl
 have F23:=Dq (st:=cF) l23 c23 k23
 have b23:=F23.binds (ps:=["self"]) λ_ _ _ _ _ _ us hl=>by obtain ⟨_,rfl⟩:=aS us hl;rfl
 have F24:=Dq (st:=iq) l24 c24 k24
 have b24:=F24.binds (ps:=["kind","data"]) λ_ _ _ _ _ _ us hl=>by obtain ⟨_,_,rfl⟩:=aB us hl;rfl
 have F25:=Dq (st:=ei) l25 c25 k25
 have b25:=F25.binds (ps:=["key","data"]) λ_ _ _ _ _ _ us hl=>by obtain ⟨_,_,rfl⟩:=aB us hl;rfl
 have F26:=Dq (st:=eU) l26 c26 k26
 have b26:=F26.binds (ps:=["length","number","name_sum","row","store_id"]) λ_ _ _ _ _ _ us hl=>by obtain ⟨_,_,_,_,_,rfl⟩:=wy us hl;rfl
 have F27:=Dq (st:=cX) l27 c27 k27
 have b27:=F27.binds (ps:=["head"]) λ_ _ _ _ _ _ us hl=>by obtain ⟨_,rfl⟩:=aS us hl;rfl
 have F28:=Dq (st:=cW) l28 c28 k28
 have b28:=F28.binds (ps:=["head"]) λ_ _ _ _ _ _ us hl=>by obtain ⟨_,rfl⟩:=aS us hl;rfl
 have F29:=Dq (st:=cg) l29 c29 k29
 have b29:=F29.binds (ps:=["head"]) λ_ _ _ _ _ _ us hl=>by obtain ⟨_,rfl⟩:=aS us hl;rfl
 have F30:=Dq (st:=fU) l30 c30 k30
 have b30:=F30.binds (ps:=["head"]) λ_ _ _ _ _ _ us hl=>by obtain ⟨_,rfl⟩:=aS us hl;rfl
 have F31:=Dq (st:=cf) l31 c31 k31
 have b31:=F31.binds (ps:=["head"]) λ_ _ _ _ _ _ us hl=>by obtain ⟨_,rfl⟩:=aS us hl;rfl
 have F32:=Dq (st:=ci) l32 c32 k32
 have b32:=F32.binds (ps:=["number"]) λ_ _ _ _ _ _ us hl=>by obtain ⟨_,rfl⟩:=aS us hl;rfl
 have F33:=Dq (st:=cY) l33 c33 k33
 have b33:=F33.binds (ps:=["head","row","store_id"]) λ_ _ _ _ _ _ us hl=>by obtain ⟨_,_,_,rfl⟩:=dn us hl;rfl
 have F34:=Dq (st:=cV) l34 c34 k34
 have b34:=F34.binds (ps:=["place","head","share"]) λ_ _ _ _ _ _ us hl=>by obtain ⟨_,_,_,rfl⟩:=dn us hl;rfl
 have F35:=Dq (st:=fR) l35 c35 k35
 have b35:=F35.binds (ps:=["sector"]) λ_ _ _ _ _ _ us hl=>by obtain ⟨_,rfl⟩:=aS us hl;rfl
 have F36:=Dq (st:=dU) l36 c36 k36
 have b36:=F36.binds (ps:=["sector","row","place","store_id"]) λ_ _ _ _ _ _ us hl=>by obtain ⟨_,_,_,_,rfl⟩:=iK us hl;rfl
 have F37:=Dq (st:=lp) l37 c37 k37
 have b37:=F37.binds (ps:=["data","count","size"]) λ_ _ _ _ _ _ us hl=>by obtain ⟨_,_,_,rfl⟩:=dn us hl;rfl
 have F38:=Dq (st:=jv) l38 c38 k38
 have b38:=F38.binds (ps:=["rows"]) λ_ _ _ _ _ _ us hl=>by obtain ⟨_,rfl⟩:=aS us hl;rfl
 have F39:=Dq (st:=bW) l39 c39 k39
 have b39:=F39.binds (ps:=["k","place"]) λ_ _ _ _ _ _ us hl=>by obtain ⟨_,_,rfl⟩:=aB us hl;rfl
 have F40:=Dq (st:=bN) l40 c40 k40
 have b40:=F40.binds (ps:=["row","factor","other"]) λ_ _ _ _ _ _ us hl=>by obtain ⟨_,_,_,rfl⟩:=dn us hl;rfl
 have F41:=Dq (st:=dX) l41 c41 k41
 have b41:=F41.binds (ps:=["data","place"]) λ_ _ _ _ _ _ us hl=>by obtain ⟨_,_,rfl⟩:=aB us hl;rfl
 have F42:=Dq (st:=cv) l42 c42 k42
 have b42:=F42.binds (ps:=["data","m"]) λ_ _ _ _ _ _ us hl=>by obtain ⟨_,_,rfl⟩:=aB us hl;rfl
 have F43:=Dq (st:=gN) l43 c43 k43
 have b43:=F43.binds (ps:=["rows","k"]) λ_ _ _ _ _ _ us hl=>by obtain ⟨_,_,rfl⟩:=aB us hl;rfl
 have F44:=Dq (st:=dr) l44 c44 k44
 have b44:=F44.binds (ps:=["k","places","shares"]) λ_ _ _ _ _ _ us hl=>by obtain ⟨_,_,_,rfl⟩:=dn us hl;rfl
 have F45:=Dq (st:=dz) l45 c45 k45
 have b45:=F45.binds (ps:=["self","row_count","store_id"]) λ_ _ _ _ _ _ us hl=>by obtain ⟨_,_,_,rfl⟩:=dn us hl;rfl
 have F46:=Dq (st:=bJ) l46 c46 k46
 have b46:=F46.binds (ps:=["self","at","sector"]) λ_ _ _ _ _ _ us hl=>by obtain ⟨_,_,_,rfl⟩:=dn us hl;rfl
 have F47:=Dq (st:=bA) l47 c47 k47
 have b47:=F47.binds (ps:=["self","source","target"]) λ_ _ _ _ _ _ us hl=>by obtain ⟨_,_,_,rfl⟩:=dn us hl;rfl
 have F48:=Dq (st:=cj) l48 c48 k48
 have b48:=F48.binds (ps:=["self","at","byte"]) λ_ _ _ _ _ _ us hl=>by obtain ⟨_,_,_,rfl⟩:=dn us hl;rfl
 have F49:=Dq (st:=bP) l49 c49 k49
 have b49:=F49.binds (ps:=["self","row"]) λ_ _ _ _ _ _ us hl=>by obtain ⟨_,_,rfl⟩:=aB us hl;rfl
 have F50:=Dq (st:=bO) l50 c50 k50
 have b50:=F50.binds (ps:=["self","row","head","data"]) λ_ _ _ _ _ _ us hl=>by obtain ⟨_,_,_,_,rfl⟩:=iK us hl;rfl
 have F51:=Dq (st:=cn) l51 c51 k51
 have b51:=F51.binds (ps:=["self","row"]) λ_ _ _ _ _ _ us hl=>by obtain ⟨_,_,rfl⟩:=aB us hl;rfl
 have F52:=Dq (st:=ck) l52 c52 k52
 have b52:=F52.binds (ps:=["self","row"]) λ_ _ _ _ _ _ us hl=>by obtain ⟨_,_,rfl⟩:=aB us hl;rfl
 have F53:=Dq (st:=cK) l53 c53 k53
 have b53:=F53.binds (ps:=["self","row"]) λ_ _ _ _ _ _ us hl=>by obtain ⟨_,_,rfl⟩:=aB us hl;rfl
 have F54:=Dq (st:=bz) l54 c54 k54
 have b54:=F54.binds (ps:=["self","row"]) λ_ _ _ _ _ _ us hl=>by obtain ⟨_,_,rfl⟩:=aB us hl;rfl
 have F55:=Dq (st:=aD) l55 c55 k55
 have b55:=F55.binds (ps:=["self"]) λ_ _ _ _ _ _ us hl=>by obtain ⟨_,rfl⟩:=aS us hl;rfl
 have F56:=Dq (st:=cJ) l56 c56 k56
 have b56:=F56.binds (ps:=["self"]) λ_ _ _ _ _ _ us hl=>by obtain ⟨_,rfl⟩:=aS us hl;rfl
 have F57:=Dq (st:=fT) l57 c57 k57
 have b57:=F57.binds (ps:=["block","factor"]) λ_ _ _ _ _ _ us hl=>by obtain ⟨_,_,rfl⟩:=aB us hl;rfl
 have F58:=Dq (st:=cH) l58 c58 k58
 have b58:=F58.binds (ps:=["self","key","nonce","opening"]) λ_ _ _ _ _ _ us hl=>by obtain ⟨_,_,_,_,rfl⟩:=iK us hl;rfl
 have F59:=Dq (st:=aA) l59 c59 k59
 have b59:=F59.binds (ps:=["self","count"]) λ_ _ _ _ _ _ us hl=>by obtain ⟨_,_,rfl⟩:=aB us hl;rfl
 have F60:=Dq (st:=cI) l60 c60 k60
 have b60:=F60.binds (ps:=["self","data"]) λ_ _ _ _ _ _ us hl=>by obtain ⟨_,_,rfl⟩:=aB us hl;rfl
 have F61:=Dq (st:=aZ) l61 c61 k61
 have b61:=F61.binds (ps:=["self"]) λ_ _ _ _ _ _ us hl=>by obtain ⟨_,rfl⟩:=aS us hl;rfl
 have F62:=Dq (st:=aV) l62 c62 k62
 have b62:=F62.binds (ps:=["self","data"]) λ_ _ _ _ _ _ us hl=>by obtain ⟨_,_,rfl⟩:=aB us hl;rfl
 have F63:=Dq (st:=aY) l63 c63 k63
 have b63:=F63.binds (ps:=["self","data"]) λ_ _ _ _ _ _ us hl=>by obtain ⟨_,_,rfl⟩:=aB us hl;rfl
 have F64:=Dq (st:=bh) l64 c64 k64
 have b64:=F64.binds (ps:=["self","data"]) λ_ _ _ _ _ _ us hl=>by obtain ⟨_,_,rfl⟩:=aB us hl;rfl
 have F65:=Dq (st:=da) l65 c65 k65
 have b65:=F65.binds (ps:=["self"]) λ_ _ _ _ _ _ us hl=>by obtain ⟨_,rfl⟩:=aS us hl;rfl
 have F66:=Dq (st:=eR) l66 c66 k66
 have b66:=F66.binds (ps:=["key","nonce","beside","text"]) λ_ _ _ _ _ _ us hl=>by obtain ⟨_,_,_,_,rfl⟩:=iK us hl;rfl
 have F67:=Dq (st:=eS) l67 c67 k67
 have b67:=F67.binds (ps:=["key","nonce","beside","data"]) λ_ _ _ _ _ _ us hl=>by obtain ⟨_,_,_,_,rfl⟩:=iK us hl;rfl
 have F68:=Dq (st:=aX) l68 c68 k68
 have b68:=F68.binds (ps:=["length"]) λ_ _ _ _ _ _ us hl=>by obtain ⟨_,rfl⟩:=aS us hl;rfl
 have F69:=Dq (st:=kK) l69 c69 k69
 have b69:=F69.binds (ps:=["name","text"]) λ_ _ _ _ _ _ us hl=>by obtain ⟨_,_,rfl⟩:=aB us hl;rfl
 have F70:=Dq (st:=ip) l70 c70 k70
 have b70:=F70.binds (ps:=["packed"]) λ_ _ _ _ _ _ us hl=>by obtain ⟨_,rfl⟩:=aS us hl;rfl
 have F71:=Dq (st:=dW) l71 c71 k71
 have b71:=F71.binds (ps:=["head","secret"]) λ_ _ _ _ _ _ us hl=>by obtain ⟨_,_,rfl⟩:=aB us hl;rfl
 have F72:=Dq (st:=cE) l72 c72 k72
 have b72:=F72.binds (ps:=["head"]) λ_ _ _ _ _ _ us hl=>by obtain ⟨_,rfl⟩:=aS us hl;rfl
 have F73:=Dq (st:=cT) l73 c73 k73
 have b73:=F73.binds (ps:=["head","secret","name","text"]) λ_ _ _ _ _ _ us hl=>by obtain ⟨_,_,_,_,rfl⟩:=iK us hl;rfl
 have F74:=Dq (st:=cU) l74 c74 k74
 have b74:=F74.binds (ps:=["head","secret","sealed"]) λ_ _ _ _ _ _ us hl=>by obtain ⟨_,_,_,rfl⟩:=dn us hl;rfl
 have F75:=Dq (st:=eX) l75 c75 k75
 have b75:=F75.binds (ps:=["self","row_count","own"]) λ_ _ _ _ _ _ us hl=>by obtain ⟨_,_,_,rfl⟩:=dn us hl;rfl
 have F76:=Dq (st:=dc) l76 c76 k76
 have b76:=F76.binds (ps:=["self","name"]) λ_ _ _ _ _ _ us hl=>by obtain ⟨_,_,rfl⟩:=aB us hl;rfl
 have F77:=Dq (st:=cM) l77 c77 k77
 have b77:=F77.binds (ps:=["self","name"]) λ_ _ _ _ _ _ us hl=>by obtain ⟨_,_,rfl⟩:=aB us hl;rfl
 have F78:=Dq (st:=fW) l78 c78 k78
 have b78:=F78.binds (ps:=["self","length","number","name","text"]) λ_ _ _ _ _ _ us hl=>by obtain ⟨_,_,_,_,_,rfl⟩:=wy us hl;rfl
 have F79:=Dq (st:=cq) l79 c79 k79
 have b79:=F79.binds (ps:=["self","most","name"]) λ_ _ _ _ _ _ us hl=>by obtain ⟨_,_,_,rfl⟩:=dn us hl;rfl
 have F80:=Dq (st:=eZ) l80 c80 k80
 have b80:=F80.binds (ps:=["self","name"]) λ_ _ _ _ _ _ us hl=>by obtain ⟨_,_,rfl⟩:=aB us hl;rfl
 have F81:=Dq (st:=bQ) l81 c81 k81
 have b81:=F81.binds (ps:=["self","row"]) λ_ _ _ _ _ _ us hl=>by obtain ⟨_,_,rfl⟩:=aB us hl;rfl
 have F82:=Dq (st:=cp) l82 c82 k82
 have b82:=F82.binds (ps:=["self","row"]) λ_ _ _ _ _ _ us hl=>by obtain ⟨_,_,rfl⟩:=aB us hl;rfl
 have F83:=Dq (st:=dA) l83 c83 k83
 have b83:=F83.binds (ps:=["self"]) λ_ _ _ _ _ _ us hl=>by obtain ⟨_,rfl⟩:=aS us hl;rfl
 have F84:=Dq (st:=eW) l84 c84 k84
 have b84:=F84.binds (ps:=["self","row"]) λ_ _ _ _ _ _ us hl=>by obtain ⟨_,_,rfl⟩:=aB us hl;rfl
 have F85:=Dq (st:=eY) l85 c85 k85
 have b85:=F85.binds (ps:=["self","at","byte"]) λ_ _ _ _ _ _ us hl=>by obtain ⟨_,_,_,rfl⟩:=dn us hl;rfl
 have F86:=Dq (st:=bC) l86 c86 k86
 have b86:=F86.binds (ps:=["self","source","target"]) λ_ _ _ _ _ _ us hl=>by obtain ⟨_,_,_,rfl⟩:=dn us hl;rfl
 have F87:=Dq (st:=eV) l87 c87 k87
 have b87:=F87.binds (ps:=["self","call"]) λ_ _ _ _ _ _ us hl=>by obtain ⟨_,_,rfl⟩:=aB us hl;rfl
 have F88:=Dq (st:=gO) l88 c88 k88
 have b88:=F88.binds (ps:=["rows"]) λ_ _ _ _ _ _ us hl=>by obtain ⟨_,rfl⟩:=aS us hl;rfl
 have F89:=Dq (st:=eQ) l89 c89 k89
 refine ⟨fnOf "store" "store" (Do eQ) (Dn eQ) (Dg eQ) .none kV89 dc89 pm89 an89 cd89 ct89,λs us hu=>match us,hu with|[_,_,_],_=>.of_eq rfl,λbase _ _=>?_⟩
 have C0:Callee P w K mg base 1 "double" ["byte"] (gM K):=⟨_,_,xD F0 T,mg_of X G a0,k0,b0⟩
 have C1:Callee P w K mg base 2 "multiples" ["factor"] (dP K):=⟨_,_,ud F1 T C0,mg_of X G a1,k1,b1⟩
 have C2:Callee P w K mg base 3 "inverse" ["byte"] (g0 K):=⟨_,_,wn F2 T C1,mg_of X G a2,k2,b2⟩
 have C3:Callee P w K mg base 2 "mix" ["state"] (pb K):=⟨_,_,Bj F3 T C0,mg_of X G a3,k3,b3⟩
 have C4:Callee P w K mg base 1 "add_key" ["state","round_keys","at"] (jk K):=⟨_,_,wo F4 T,mg_of X G a4,k4,b4⟩
 have C5:Callee P w K mg base 2 "expand_key" ["key"] (gt K):=⟨_,_,sD F5 T C0,mg_of X G a5,k5,b5⟩
 have C6:Callee P w K mg base 3 "encipher" ["block","round_keys"] (gk K):=⟨_,_,vh F6 T C3 C4,mg_of X G a6,k6,b6⟩
 have C7:Callee P w K mg base 1 "number_of" ["data"] (bU K):=⟨_,_,uc F7 T,mg_of X G a7,k7,b7⟩
 have C8:Callee P w K mg base 1 "bytes_of" ["number","count"] (eO K):=⟨_,_,vj F8 T,mg_of X G a8,k8,b8⟩
 have C9:Callee P w K mg base 1 "low_first" ["number","count"] (bV K):=⟨_,_,uf F9 T,mg_of X G a9,k9,b9⟩
 have C10:Callee P w K mg base 2 "number_of_low_first" ["data"] (bm K):=⟨_,_,kn F10 T C7,mg_of X G a10,k10,b10⟩
 have C11:Callee P w K mg base 1 "turn_left" ["word","count"] (fv K):=⟨_,_,t8 F11 T,mg_of X G a11,k11,b11⟩
 have C12:Callee P w K mg base 1 "turn_thrice" ["word","first","second","third"] (fL K):=⟨_,_,qS F12 T,mg_of X G a12,k12,b12⟩
 have C13:Callee P w K mg base 1 "turn_and_shift" ["word","first","second","shift"] (dI K):=⟨_,_,nu F13 T,mg_of X G a13,k13,b13⟩
 have C14:Callee P w K mg base 2 "words_of" ["block"] (gj K):=⟨_,_,vd F14 T C7,mg_of X G a14,k14,b14⟩
 have C15:Callee P w K mg base 3 "spread_block_1" ["block"] (dL K):=⟨_,_,ny F15 T C11 C14,mg_of X G a15,k15,b15⟩
 have C16:Callee P w K mg base 1 "choose_1" ["at","b","c","d"] (iI K):=⟨_,_,vi F16 T,mg_of X G a16,k16,b16⟩
 have C17:Callee P w K mg base 4 "add_block_1" ["state","block"] (fP K):=⟨_,_,ra F17 T C11 C15 C16,mg_of X G a17,k17,b17⟩
 have C18:Callee P w K mg base 3 "spread_block_2" ["block"] (dJ K):=⟨_,_,nw F18 T C13 C14,mg_of X G a18,k18,b18⟩
 have C19:Callee P w K mg base 4 "add_block_2" ["state","block"] (fO K):=⟨_,_,q0 F19 T C12 C18,mg_of X G a19,k19,b19⟩
 have C20:Callee P w K mg base 5 "add_blocks" ["kind","state","data"] (eL K):=⟨_,_,sE F20 T C17 C19,mg_of X G a20,k20,b20⟩
 have C21:Maker P w K mg base 1 ad.Summing ["self","kind"] (g4 K ad):=⟨_,_,pV F21 T,⟨mk_Summing,a21,i21,kc_Summing⟩,b21⟩
 have C22:Method P w K mg base 6 ad.Summing "add" ["self","data"] (fQ K ad):=⟨_,_,rc F22 T C20,⟨a22,i22,k22⟩,b22⟩
 have C23:Method P w K mg base 6 ad.Summing "told" ["self"] (fi K ad):=⟨_,_,pU F23 T C8 C20,⟨a23,i23,k23⟩,b23⟩
 have C24:Callee P w K mg base 7 "sum_of" ["kind","data"] (ef K):=⟨_,_,xC F24 T C21 C22 C23,mg_of X G a24,k24,b24⟩
 have C25:Callee P w K mg base 8 "mark_of" ["key","data"] (lm K):=⟨_,_,wk F25 T C24,mg_of X G a25,k25,b25⟩
 have C26:Callee P w K mg base 2 "make_head" ["length","number","name_sum","row","store_id"] (fw K):=⟨_,_,ue F26 T C9,mg_of X G a26,k26,b26⟩
 have C27:Callee P w K mg base 1 "head_length" ["head"] (fM K):=⟨_,_,qY F27 T,mg_of X G a27,k27,b27⟩
 have C28:Callee P w K mg base 3 "head_number" ["head"] (aW K):=⟨_,_,qX F28 T C10,mg_of X G a28,k28,b28⟩
 have C29:Callee P w K mg base 1 "head_name_sum" ["head"] (bq K):=⟨_,_,ox F29 T,mg_of X G a29,k29,b29⟩
 have C30:Callee P w K mg base 1 "head_row" ["head"] (kf K):=⟨_,_,vg F30 T,mg_of X G a30,k30,b30⟩
 have C31:Callee P w K mg base 1 "head_store_id" ["head"] (gw K):=⟨_,_,ou F31 T,mg_of X G a31,k31,b31⟩
 have C32:Callee P w K mg base 1 "can_be_number" ["number"] (eB K):=⟨_,_,oy F32 T,mg_of X G a32,k32,b32⟩
 have C33:Callee P w K mg base 4 "can_be_head" ["head","row","store_id"] (fN K):=⟨_,_,qZ F33 T C26 C27 C28 C29 C32,mg_of X G a33,k33,b33⟩
 have C34:Callee P w K mg base 8 "make_sector" ["place","head","share"] (dQ K):=⟨_,_,qW F34 T C24,mg_of X G a34,k34,b34⟩
 have C35:Callee P w K mg base 1 "share_of" ["sector"] (iG K):=⟨_,_,ve F35 T,mg_of X G a35,k35,b35⟩
 have C36:Callee P w K mg base 9 "right_head" ["sector","row","place","store_id"] (jf K):=⟨_,_,sx F36 T C33 C34 C35,mg_of X G a36,k36,b36⟩
 have C37:Callee P w K mg base 1 "cut" ["data","count","size"] (tj K):=⟨_,_,Bk F37 T,mg_of X G a37,k37,b37⟩
 have C38:Callee P w K mg base 1 "chain" ["rows"] (nW K):=⟨_,_,yK F38 T,mg_of X G a38,k38,b38⟩
 have C39:Callee P w K mg base 4 "factors_of" ["k","place"] (eK K):=⟨_,_,sC F39 T C2,mg_of X G a39,k39,b39⟩
 have C40:Callee P w K mg base 3 "add_multiple" ["row","factor","other"] (dg K):=⟨_,_,pT F40 T C1,mg_of X G a40,k40,b40⟩
 have C41:Callee P w K mg base 5 "make_share" ["data","place"] (gr K):=⟨_,_,sA F41 T C39 C40,mg_of X G a41,k41,b41⟩
 have C42:Callee P w K mg base 6 "make_shares" ["data","m"] (ik K):=⟨_,_,qV F42 T C41,mg_of X G a42,k42,b42⟩
 have C43:Callee P w K mg base 4 "solve" ["rows","k"] (ll K):=⟨_,_,yJ F43 T C1 C2 C40,mg_of X G a43,k43,b43⟩
 have C44:Callee P w K mg base 5 "tell_data" ["k","places","shares"] (jC K):=⟨_,_,t9 F44 T C39 C43,mg_of X G a44,k44,b44⟩
 have C45:Maker P w K mg base 1 ad.Disk ["self","row_count","store_id"] (jE K ad):=⟨_,_,ug F45 T,⟨mk_Disk,a45,i45,kc_Disk⟩,b45⟩
 have C46:Method P w K mg base 10 ad.Disk "lay_sector" ["self","at","sector"] (bu K ad):=⟨_,_,mx F46 T C36,⟨a46,i46,k46⟩,b46⟩
 have C47:Method P w K mg base 11 ad.Disk "copy_sector" ["self","source","target"] (fe K ad):=⟨_,_,lP F47 T C46,⟨a47,i47,k47⟩,b47⟩
 have C48:Method P w K mg base 11 ad.Disk "set_byte" ["self","at","byte"] (gx K ad):=⟨_,_,oz F48 T C46,⟨a48,i48,k48⟩,b48⟩
 have C49:Method P w K mg base 11 ad.Disk "clear_row" ["self","row"] (dN K ad):=⟨_,_,nA F49 T C46,⟨a49,i49,k49⟩,b49⟩
 have C50:Method P w K mg base 11 ad.Disk "write_row" ["self","row","head","data"] (dM K ad):=⟨_,_,nz F50 T C34 C42 C46,⟨a50,i50,k50⟩,b50⟩
 have C51:Method P w K mg base 1 ad.Disk "heads_of" ["self","row"] (cO K ad):=⟨_,_,oC F51 T,⟨a51,i51,k51⟩,b51⟩
 have C52:Method P w K mg base 2 ad.Disk "is_empty" ["self","row"] (eC K ad):=⟨_,_,oA F52 T C51,⟨a52,i52,k52⟩,b52⟩
 have C53:Method P w K mg base 2 ad.Disk "head_of" ["self","row"] (bg K ad):=⟨_,_,pZ F53 T C51,⟨a53,i53,k53⟩,b53⟩
 have C54:Method P w K mg base 6 ad.Disk "data_of" ["self","row"] (fk K ad):=⟨_,_,p0 F54 T C35 C44 C51 C53,⟨a54,i54,k54⟩,b54⟩
 have C55:Method P w K mg base 4 ad.Disk "greatest_number" ["self"] (cQ K ad):=⟨_,_,jX F55 T C28,⟨a55,i55,k55⟩,b55⟩
 have C56:Method P w K mg base 1 ad.Disk "weighed" ["self"] (g5 K ad):=⟨_,_,pY F56 T,⟨a56,i56,k56⟩,b56⟩
 have C57:Callee P w K mg base 1 "multiply" ["block","factor"] (iH K):=⟨_,_,vf F57 T,mg_of X G a57,k57,b57⟩
 have C58:Maker P w K mg base 4 ad.Sealing ["self","key","nonce","opening"] (fj K ad):=⟨_,_,pW F58 T C5 C6 C7,⟨mk_Sealing,a58,i58,kc_Sealing⟩,b58⟩
 have C59:Method P w K mg base 4 ad.Sealing "enciphered_count" ["self","count"] (aG K ad):=⟨_,_,i5 F59 T C6 C8,⟨a59,i59,k59⟩,b59⟩
 have C60:Method P w K mg base 2 ad.Sealing "hold" ["self","data"] (bE K ad):=⟨_,_,pX F60 T C7 C57,⟨a60,i60,k60⟩,b60⟩
 have C61:Method P w K mg base 3 ad.Sealing "fill_block" ["self"] (bt K ad):=⟨_,_,kP F61 T C60,⟨a61,i61,k61⟩,b61⟩
 have C62:Method P w K mg base 3 ad.Sealing "take_beside" ["self","data"] (bn K ad):=⟨_,_,ko F62 T C60,⟨a62,i62,k62⟩,b62⟩
 have C63:Method P w K mg base 5 ad.Sealing "run_stream" ["self","data"] (cc K ad):=⟨_,_,kO F63 T C59,⟨a63,i63,k63⟩,b63⟩
 have C64:Method P w K mg base 6 ad.Sealing "take_text" ["self","data"] (bD K ad):=⟨_,_,lv F64 T C60 C61 C63,⟨a64,i64,k64⟩,b64⟩
 have C65:Method P w K mg base 5 ad.Sealing "tag" ["self"] (dR K ad):=⟨_,_,re F65 T C7 C8 C59 C60 C61,⟨a65,i65,k65⟩,b65⟩
 have C66:Callee P w K mg base 7 "seal_text" ["key","nonce","beside","text"] (gZ K):=⟨_,_,ua F66 T C58 C62 C64 C65,mg_of X G a66,k66,b66⟩
 have C67:Callee P w K mg base 7 "open_text" ["key","nonce","beside","data"] (jD K):=⟨_,_,ub F67 T C58 C62 C64 C65,mg_of X G a67,k67,b67⟩
 have C68:Callee P w K mg base 1 "can_be_name_length" ["length"] (aT K):=⟨_,_,kN F68 T,mg_of X G a68,k68,b68⟩
 have C69:Callee P w K mg base 2 "pack" ["name","text"] (mV K):=⟨_,_,zT F69 T C9,mg_of X G a69,k69,b69⟩
 have C70:Callee P w K mg base 3 "unpack" ["packed"] (md K):=⟨_,_,xA F70 T C10 C68 C69,mg_of X G a70,k70,b70⟩
 have C71:Callee P w K mg base 9 "record_key" ["head","secret"] (gq K):=⟨_,_,sy F71 T C9 C25 C27 C28 C31,mg_of X G a71,k71,b71⟩
 have C72:Callee P w K mg base 4 "record_nonce" ["head"] (fh K):=⟨_,_,pS F72 T C9 C28 C30,mg_of X G a72,k72,b72⟩
 have C73:Callee P w K mg base 10 "seal_record" ["head","secret","name","text"] (ig K):=⟨_,_,qT F73 T C66 C69 C71 C72,mg_of X G a73,k73,b73⟩
 have C74:Callee P w K mg base 10 "open_record" ["head","secret","sealed"] (ii K):=⟨_,_,qU F74 T C24 C29 C67 C70 C71 C72,mg_of X G a74,k74,b74⟩
 have C75:Maker P w K mg base 3 ad.Desk ["self","row_count","own"] (jH K ad):=⟨_,_,uk F75 T C45,⟨mk_Desk,a75,i75,kc_Desk⟩,b75⟩
 have C76:Method P w K mg base 8 ad.Desk "row_of" ["self","name"] (dS K ad):=⟨_,_,rf F76 T C24 C28 C29 C53,⟨a76,i76,k76⟩,b76⟩
 have C77:Method P w K mg base 9 ad.Desk "row_for" ["self","name"] (g7 K ad):=⟨_,_,qa F77 T C52 C76,⟨a77,i77,k77⟩,b77⟩
 have C78:Method P w K mg base 12 ad.Desk "put" ["self","length","number","name","text"] (kg K ad):=⟨_,_,vk F78 T C24 C26 C32 C37 C50 C55 C68 C73 C77,⟨a78,i78,k78⟩,b78⟩
 have C79:Method P w K mg base 11 ad.Desk "get_text" ["self","most","name"] (gy K ad):=⟨_,_,oF F79 T C38 C53 C54 C68 C74 C76,⟨a79,i79,k79⟩,b79⟩
 have C80:Method P w K mg base 12 ad.Desk "drop" ["self","name"] (jJ K ad):=⟨_,_,um F80 T C49 C68 C76,⟨a80,i80,k80⟩,b80⟩
 have C81:Method P w K mg base 12 ad.Desk "clear_row" ["self","row"] (gh K ad):=⟨_,_,nD F81 T C49,⟨a81,i81,k81⟩,b81⟩
 have C82:Method P w K mg base 3 ad.Desk "state_of" ["self","row"] (eD K ad):=⟨_,_,oE F82 T C52 C53,⟨a82,i82,k82⟩,b82⟩
 have C83:Method P w K mg base 12 ad.Desk "mend" ["self"] (jF K ad):=⟨_,_,ui F83 T C50 C53 C54 C82,⟨a83,i83,k83⟩,b83⟩
 have C84:Method P w K mg base 4 ad.Desk "look" ["self","row"] (jG K ad):=⟨_,_,uj F84 T C9 C28 C29 C53 C82,⟨a84,i84,k84⟩,b84⟩
 have C85:Method P w K mg base 12 ad.Desk "harm" ["self","at","byte"] (jI K ad):=⟨_,_,ul F85 T C48,⟨a85,i85,k85⟩,b85⟩
 have C86:Method P w K mg base 12 ad.Desk "copy_sector" ["self","source","target"] (ff K ad):=⟨_,_,lQ F86 T C47,⟨a86,i86,k86⟩,b86⟩
 have C87:Method P w K mg base 13 ad.Desk "take" ["self","call"] (g6 K ad):=⟨_,_,uh F87 T C78 C79 C80 C81 C83 C84 C85 C86,⟨a87,i87,k87⟩,b87⟩
 have C88:Callee P w K mg base 1 "lay_out" ["rows"] (jj K):=⟨_,_,wm F88 T,mg_of X G a88,k88,b88⟩
 exact yI F89 T C56 C75 C87 C88
end
end My
open PySem PySem.W PyProof.Rows
namespace PySem.W.Fast
theorem tw15817635035020524114:1=1:=rfl
theorem tw1299341198812626927:1=1:=rfl
theorem tw14912350388502050297:1=1:=rfl
theorem tw7501614871484975628:1=1:=rfl
theorem tw12349758864240279100:1=1:=rfl
theorem tw6789241447769444338:1=1:=rfl
theorem tw7705467349441105668:1=1:=rfl
theorem tw12374379405078250105:1=1:=rfl
theorem tw9958092471946520132:1=1:=rfl
theorem tw8230100654448767613:1=1:=rfl
theorem tw6831260670327918826:1=1:=rfl
theorem tw4084863161709879861:1=1:=rfl
theorem tw9930950845024378381:1=1:=rfl
theorem tw4876175932491434673:1=1:=rfl
theorem tw13418821652836915907:1=1:=rfl
theorem tw9379236399655731873:1=1:=rfl
theorem tw7000358758661669561:1=1:=rfl
theorem tw3185566736524981441:1=1:=rfl
theorem tw11961657767160646261:1=1:=rfl
theorem tw12934490174479147099:1=1:=rfl
theorem tw13387222112866138526:1=1:=rfl
theorem tw14417503551607982014:1=1:=rfl
theorem tw17689323262033326481:1=1:=rfl
theorem tw13348238869549327752:1=1:=rfl
theorem tw14334947030555440804:1=1:=rfl
theorem tw178712071524061079:1=1:=rfl
theorem tw10079837970857634455:1=1:=rfl
theorem tw16417219639167790414:1=1:=rfl
theorem tw12905456716023761284:1=1:=rfl
theorem tw15026587666109954658:1=1:=rfl
theorem tw9427376014195508173:1=1:=rfl
theorem tw3483266921485487718:1=1:=rfl
theorem tw1660896546351635322:1=1:=rfl
theorem tw11432723653960031818:1=1:=rfl
theorem tw3921059711510366013:1=1:=rfl
theorem tw18123995608032696307:1=1:=rfl
theorem tw7718661400044518122:1=1:=rfl
theorem tw3587090937073461775:1=1:=rfl
theorem tw9848129912370167138:1=1:=rfl
theorem tw13069890241048333561:1=1:=rfl
theorem tw11730007848545288647:1=1:=rfl
theorem tw12395674007425675544:1=1:=rfl
theorem tw5881109077803750251:1=1:=rfl
theorem tw881165317355045150:1=1:=rfl
theorem tw18308159757813442947:1=1:=rfl
theorem tw12771966730496217193:1=1:=rfl
theorem tw2928695233471664483:1=1:=rfl
theorem tw16871163603385424023:1=1:=rfl
theorem tw777127922428507254:1=1:=rfl
theorem tw14294988925235328160:1=1:=rfl
theorem tw5382175112843956950:1=1:=rfl
theorem tw10879500208051335547:1=1:=rfl
theorem tw14996656878691694184:1=1:=rfl
theorem tw7076620684059022770:1=1:=rfl
theorem tw1811188033912742686:1=1:=rfl
theorem tw15086486837126728778:1=1:=rfl
theorem tw12677264946160438963:1=1:=rfl
theorem tw13222946449376759355:1=1:=rfl
theorem tw6290357771908736598:1=1:=rfl
theorem tw16694833813750522696:1=1:=rfl
theorem tw17315781500987518548:1=1:=rfl
theorem tw15610267500876290142:1=1:=rfl
theorem tw10755076265039070009:1=1:=rfl
theorem tw10628662744173296878:1=1:=rfl
theorem tw6360654131448522059:1=1:=rfl
theorem tw7386398875648944878:1=1:=rfl
theorem tw17674288891159535500:1=1:=rfl
theorem tw9664754514491515701:1=1:=rfl
theorem tw16871980416469434592:1=1:=rfl
theorem tw3613547780378377217:1=1:=rfl
theorem tw2931183197491275687:1=1:=rfl
theorem tw5552343735186192288:1=1:=rfl
theorem tw9189493214567958007:1=1:=rfl
theorem tw3615346195461144261:1=1:=rfl
theorem tw16941298864666310887:1=1:=rfl
theorem tw4475626661210069059:1=1:=rfl
theorem tw7894447738518944533:1=1:=rfl
theorem tw7092362373687064339:1=1:=rfl
theorem tw15082285005707470247:1=1:=rfl
theorem tw106137656181756372:1=1:=rfl
theorem tw17149527072797271276:1=1:=rfl
theorem tw13828907162523019168:1=1:=rfl
theorem tw10314103857547336081:1=1:=rfl
theorem tw17954674269573566602:1=1:=rfl
theorem tw15275464253461667437:1=1:=rfl
theorem tw5591689298406953357:1=1:=rfl
theorem tw10603496772137492681:1=1:=rfl
theorem tw10799150415151248420:1=1:=rfl
theorem tw1878733032038480610:1=1:=rfl
theorem tw1286746730971048694:1=1:=rfl
theorem tw17643811990318973888:1=1:=rfl
theorem tw2814844632045265563:1=1:=rfl
theorem tw10891843247713545089:1=1:=rfl
theorem tw2204347582296668603:1=1:=rfl
theorem tw8329672381568127637:1=1:=rfl
theorem tw9056270497776085690:1=1:=rfl
theorem tw4306861515708690994:1=1:=rfl
theorem tw10236932828429550573:1=1:=rfl
theorem tw6474047875697556514:1=1:=rfl
theorem tw8407416046538413028:1=1:=rfl
theorem tw10195161494347163399:1=1:=rfl
theorem tw3207123203845740486:1=1:=rfl
theorem tw16377436484087974891:1=1:=rfl
theorem tw77048714846687754:1=1:=rfl
theorem tw15090178938652441991:1=1:=rfl
theorem tw236113497382455232:1=1:=rfl
theorem tw16370449869750636745:1=1:=rfl
theorem tw16729975335908647664:1=1:=rfl
theorem tw16946644132073416983:1=1:=rfl
theorem tw13120810619017493021:1=1:=rfl
theorem tw4771981867352779816:1=1:=rfl
theorem tw12265026525213436947:1=1:=rfl
theorem tw2976307212623685676:1=1:=rfl
theorem tw15102114873716938760:1=1:=rfl
theorem tw12152013472914682450:1=1:=rfl
theorem tw4291755814809931861:1=1:=rfl
theorem tw6771241916211727778:1=1:=rfl
theorem tw15928457274277362116:1=1:=rfl
theorem tw13639074431905994435:1=1:=rfl
theorem tw1695192360415204711:1=1:=rfl
theorem tw12117557637498520328:1=1:=rfl
theorem tw12197761094100327508:1=1:=rfl
theorem tw9852603640344785125:1=1:=rfl
theorem tw13860949246729153563:1=1:=rfl
theorem tw3719732848689445339:1=1:=rfl
theorem tw5029772406092442761:1=1:=rfl
theorem tw5245447893258313606:1=1:=rfl
theorem tw16838458714180414196:1=1:=rfl
theorem tw12834526901483388048:1=1:=rfl
theorem tw6576636666264596292:1=1:=rfl
theorem tw5178420743914464120:1=1:=rfl
theorem tw14441897814475358164:1=1:=rfl
theorem tw13646470605238160234:1=1:=rfl
theorem tw8601929584070052814:1=1:=rfl
theorem tw6982081580626234835:1=1:=rfl
theorem tw15125572791861978687:1=1:=rfl
theorem tw18317408149527350267:1=1:=rfl
theorem tw415965559312205464:1=1:=rfl
theorem tw6303855074169099170:1=1:=rfl
theorem tw9020058787822756566:1=1:=rfl
theorem tw7590836892481319056:1=1:=rfl
theorem tw8802569563554868266:1=1:=rfl
theorem tw280382129201039650:1=1:=rfl
theorem tw979989888914478320:1=1:=rfl
theorem tw16585616613836287541:1=1:=rfl
theorem tw12550539295325253479:1=1:=rfl
theorem tw1701213125688262116:1=1:=rfl
theorem tw4600089688673963679:1=1:=rfl
theorem tw11344102351101978595:1=1:=rfl
theorem tw13214055583946404658:1=1:=rfl
theorem tw8673221678978015047:1=1:=rfl
theorem tw3369755335658507756:1=1:=rfl
theorem tw15662307387810726755:1=1:=rfl
theorem tw5875303737413058519:1=1:=rfl
theorem tw9334804138844836440:1=1:=rfl
theorem tw7001635824721772159:1=1:=rfl
theorem tw5902367625642878161:1=1:=rfl
theorem tw3273587360859370046:1=1:=rfl
theorem tw16071566216844612957:1=1:=rfl
theorem tw13941016166794587684:1=1:=rfl
theorem tw5322360618920974200:1=1:=rfl
theorem tw16863018255043507764:1=1:=rfl
theorem tw6449501133244785333:1=1:=rfl
theorem tw11822133746782277288:1=1:=rfl
theorem tw8124412887491245782:1=1:=rfl
theorem tw5510363458398380020:1=1:=rfl
theorem tw7400503467169120377:1=1:=rfl
theorem tw13582591283318263363:1=1:=rfl
theorem tw7028979935571689103:1=1:=rfl
theorem tw5801005318370625307:1=1:=rfl
theorem tw15640249882187454034:1=1:=rfl
theorem tw4630833212358537610:1=1:=rfl
theorem tw5770038124288107926:1=1:=rfl
theorem tw5184611627093546480:1=1:=rfl
theorem tw15950593783450750403:1=1:=rfl
theorem tw14537195977279119715:1=1:=rfl
theorem tw15052099781102722888:1=1:=rfl
theorem tw8218762163933999286:1=1:=rfl
theorem tw16259819426226262169:1=1:=rfl
theorem tw4404045183040588932:1=1:=rfl
theorem tw15286485164206282097:1=1:=rfl
theorem tw2380664318812117875:1=1:=rfl
theorem tw17978389943835157828:1=1:=rfl
end PySem.W.Fast
set_option maxRecDepth 100000 in
set_option maxHeartbeats 0 in
theorem PySem.Challenge.cw_sealedrowsdesk_s09_store_holds : PySem.Challenge.rw_sealedrowsdesk_s09_store.Holds := by
 have ws:=WsO
 w_on;k_headS;(case hw=>exact ⟨[.int 1,.list (List.replicate 40 (.int 0)),.list []],by decide +kernel,by decide +kernel⟩)
 k_fillS
 refine L2.walk_specK (r:=PySem.Challenge.rw_sealedrowsdesk_s09_store) (k:=14) (CX:=L2.CX0) (ps:=["rows","own","calls"]) (sp:=My.tf) WsO rfl rfl ⟨rfl,by decide,by decide⟩ (λw h Y=>PySem.W.kIn_of Y) ?F ?S (λ_ _ _ _ z=>z)
 case F=>
  intro w mg fa h Y KX G hmg
  apply My.Db KX G hmg
  all_goals try k_is
  all_goals decide +kernel
 case S=>
  intro K H xs a hO hwi hask hx
  obtain ⟨n,own,calls,u⟩:=a
  cases hx with
  |cons h1 h2=>
   cases h2 with
   |cons h2 h3=>
    cases h3 with
    |cons h3 h4=>
     cases h4
     cases h1
     cases h2 with
     |lst hs ha=>
      have e:=L2.FA own _ ha
      subst e
      cases h3 with
      |lst hs2 ha2=>
       obtain ⟨as,rfl,hl,hc⟩:=My.y2 calls _ ha2
       exact ⟨n,_,_,as,own,calls,rfl,hs,hs2,hl,hc,hask,λp H' L=>.lst (L.lst 0 rfl) (L2.Go _)⟩
#print axioms PySem.Challenge.cw_sealedrowsdesk_s09_store_holds
