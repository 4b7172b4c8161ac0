import PyProof.Rows.All
import Wide.All
import OpenK.AllK
import Wide.FinOn
import PyProof.EqAt
import PyProof.EqKinds
import PyProof.TupleCall
import KE.BitLaws
import KE.IntBitsLaws
import WhPoly
import WhBSpec
import PyWrwirb
import PySem.Challenge.RW0_wirequotients_s01_trans
import Open.SpecLaws
import KE.OsHead
import KE.OsGo
import KE.SpHead
import KE.OsShapes
import PySem.Challenge.RW_wirequotients_s01_trans
set_option Elab.async false
set_option linter.all false
set_option maxRecDepth 100000
set_option maxHeartbeats 2000000
noncomputable section
theorem gDe{A:Type _}{l:List A}{i:Nat}{d:A}:l.getD i d=(l[i]?).getD d:=List.getD_eq_getElem?_getD
theorem lMp{A:Type _}{B:Type _}{l:List A}(f:A->B):(l.map f).length=l.length:=List.length_map f
namespace L2
open PySem PySem.Spec PyProof.Rows
abbrev Key:=Sum Int Str
def Na:Key->Value->Bool
 | .inl k,v=>Value.isInt k v
 | .inr x,v=>Value.isStrOf x v
def QQ(w:World):Key->Int
 | .inl k=>hashInt k
 | .inr x=>hashStr w x
theorem dy:∀{k:Key} {v:Value},Na k v=true->(∃i t,k=Sum.inl i/\v=Value.int i t)\/(∃x t,k=Sum.inr x/\v=Value.str x t)
 | .inl i,v,h=>by
  obtain⟨t,e⟩:=Value.isInt_shape (k:=i) (v:=v) h
  exact .inl ⟨i,t,rfl,e⟩
 | .inr x,v,h=>by
  obtain⟨t,e⟩:=Value.isStrOf_shape (x:=x) (v:=v) h
  exact .inr ⟨x,t,rfl,e⟩
theorem NB(a b:Int):decide ((Sum.inl a:Key)=Sum.inl b)=(a==b):=by
 by_cases e:a=b
 ·subst e;simp
 ·have h:¬(Sum.inl a:Key)=Sum.inl b:=fun q=>e (Sum.inl.inj q)
  rw[decide_eq_false h]
  exact(beq_eq_false_iff_ne.mpr e).symm
theorem NC(a b:Str):decide ((Sum.inr a:Key)=Sum.inr b)=decide (a=b):=by
 by_cases e:a=b
 ·subst e;simp
 ·have h:¬(Sum.inr a:Key)=Sum.inr b:=fun q=>e (Sum.inr.inj q)
  rw[decide_eq_false h,decide_eq_false e]
theorem ND(a:Int)(b:Str):decide ((Sum.inl a:Key)=Sum.inr b)=false:=decide_eq_false (fun q=>nomatch q)
theorem NF(a:Str)(b:Int):decide ((Sum.inr a:Key)=Sum.inl b)=false:=decide_eq_false (fun q=>nomatch q)
def Ci(prog:Program)(w:World):PySem.KeyKind prog w Key where
 is:=Na
 hash:=QQ w
 inj:=fun v a b ha hb=>by
  rcases dy ha with⟨i,t,rfl,rfl⟩ |⟨x,t,rfl,rfl⟩
  ·rcases dy hb with⟨j,u,rfl,e⟩ |⟨y,u,rfl,e⟩
   ·injection e with e1 _;rw[e1]
   ·exact nomatch e
  ·rcases dy hb with⟨j,u,rfl,e⟩ |⟨y,u,rfl,e⟩
   ·exact nomatch e
   ·injection e with e1 _;rw[e1]
 byValue:=fun k v h=>by
  rcases dy h with⟨i,t,rfl,rfl⟩ |⟨x,t,rfl,rfl⟩ <;>rfl
 pyHash:=fun hv h=>by
  rcases dy hv with⟨i,t,rfl,rfl⟩ |⟨x,t,rfl,rfl⟩
  ·exact wpAny_pyHash_int h
  ·exact wpAny_pyHash_str h
 eqBool:=fun hu hv h=>by
  rcases dy hu with⟨i,t,rfl,rfl⟩ |⟨x,t,rfl,rfl⟩
  ·rcases dy hv with⟨j,u,rfl,rfl⟩ |⟨y,u,rfl,rfl⟩
   ·rw[NB] at h;exact wpAny_eqBool_int h
   ·rw[ND] at h;exact SeqAt.EqAt.int_str i t y u _ _ _ _ h
  ·rcases dy hv with⟨j,u,rfl,rfl⟩ |⟨y,u,rfl,rfl⟩
   ·rw[NF] at h;exact SeqAt.EqAt.str_int x t j u _ _ _ _ h
   ·rw[NC] at h;exact wpAny_eqBool_str h
 «strs»:=fun k x t v h=>by
  rcases dy h with⟨i,u,rfl,e⟩ |⟨y,u,rfl,e⟩
  ·exact nomatch e
  ·injection e with e1 _
   subst e1
   cases v <;>rfl
inductive V where
 |gr |bl (b:Bool) |int (i:Int) |str (x:Str) |Cj (b:Array UInt8) |Pg (b:UInt64) |ref (a:Addr) |ty (n:String)
 deriving DecidableEq
def RelV:V->Value->Prop
 | .gr,u=>u=Value.none
 | .bl b,u=>u=Value.bool b
 | .int i,u=>∃t,u=Value.int i t
 | .str x,u=>∃t,u=Value.str x t
 | .Cj b,u=>∃t,u=Value.bytes b t
 | .Pg b,u=>∃t,u=Value.float b t
 | .ref a,u=>u=Value.ref a
 | .ty n,u=>u=Value.type n
abbrev Vals:List V->List Value->Prop:=Paired RelV
theorem Vals.length{xs:List V}{us:List Value}(r:Vals xs us):xs.length=us.length:=Paired.length r
theorem Vals.get:∀{xs:List V} {us:List Value} {i:Nat} {x:V},Vals xs us->xs[i]? =some x->∃u,us[i]? =some u/\RelV x u
 |_,_,_,_,.nil,e=>by simp at e
 |_,_,0,_,.cons r _,e=>by simp at e;subst e;exact⟨_,rfl,r⟩
 |_,_,i+1,x,.cons _ t,e=>by
  obtain⟨u,h1,h2⟩:=Vals.get (i:=i) (x:=x) t (by simpa using e)
  exact⟨u,by simpa using h1,h2⟩
theorem Vals.set{x:V}{u:Value}(r:RelV x u):∀{xs:List V} {us:List Value} (i:Nat),Vals xs us->Vals (xs.set i x) (us.set i u)
 |_,_,_,.nil=> .nil
 |_,_,0,.cons _ t=> .cons r t
 |_,_,i+1,.cons q t=> .cons q (Vals.set r i t)
theorem Vals.append:∀{xs ys:List V} {us ws:List Value},Vals xs us->Vals ys ws->Vals (xs ++ ys) (us ++ ws)
 |_,_,_,_,.nil,s=>s
 |_,_,_,_,.cons r t,s=> .cons r (Vals.append t s)
theorem Vals.take:∀{xs:List V} {us:List Value} (n:Nat),Vals xs us->Vals (xs.take n) (us.take n)
 |_,_,0,_=> .nil
 |_,_,_+ 1,.nil=> .nil
 |_,_,n+1,.cons r t=> .cons r (Vals.take n t)
theorem Vals.drop:∀{xs:List V} {us:List Value} (n:Nat),Vals xs us->Vals (xs.drop n) (us.drop n)
 |_,_,0,r=>r
 |_,_,_+ 1,.nil=> .nil
 |_,_,n+1,.cons _ t=>Vals.drop n t
def FP:Option V->Option Value->Prop
 |some v,some u=>RelV v u
 |none,none=>True
 |_,_=>False
def KV{κ:Type}:List (κ×V)->List (κ×Value)->Prop:=Paired fun(p:κ×V) (q:κ×Value)=>p.1=q.1/\RelV p.2 q.2
def kV:Key->V
 | .inl i=> .int i
 | .inr x=> .str x
inductive HO where
  |lst (xs:List V)
  |tup (xs:List V)
  |dK (kvs:List (Key×V)) |dT (kvs:List (List Key×V))
  |set (S:Int->Bool) (n:Nat)
  |ins (C dx:Addr) (fs:List (Str×V))
  |own (x:Addr)
  |xd (fs:List (Str×V))
  |met (f x:Addr)
  |QR (lo hi:Int)
  |Ck (o:Obj) (u:HO)
  |NG (ps:Array Value)
  |ext (φ:Heap->Prop)
abbrev Hp:=Addr->Option HO
def upd(H:Hp)(a:Addr)(o:HO):Hp:=fun b=>if b=a then some o else H b
theorem ak{H:Hp}{a:Addr}{o:HO}:upd H a o a=some o:=by unfold upd;rw[if_pos rfl]
theorem aR{H:Hp}{a b:Addr}{o:HO}(h:b≠a):upd H a o b=H b:=by unfold upd;rw[if_neg h]
theorem iQ{H:Hp}{a:Addr}{o u:HO}:upd (upd H a o) a u=upd H a u:=by
 funext b;unfold upd;split <;>rfl
theorem DS{H:Hp}{a b:Addr}{o u:HO}(h:H a=some o)(h':H b=some u)(d:o≠u):a≠b:=by
 intro e;subst e;rw[h] at h';exact d (Option.some.inj h')
theorem bV{H:Hp}{a b:Addr}{o:HO}(h:H a=some o)(h':H b=none):a≠b:=by
 intro e;subst e;rw[h] at h';cases h'
section
variable (P:Program)(w:World)
def gL(H:Hp)(h:Heap)(a:Addr):HO->Prop
 | .lst xs=>xs.length<=sizeLine/\∃(its:List Value) (n:Nat),Vals xs its/\h.get? a=some {cls:= .type "list",data:= .seq its.toArray n}
 | .tup xs=>xs.length<=sizeLine/\∃its:List Value,Vals xs its/\IsTup h a its.toArray
 | .dK kvs=>kvs.length<=sizeLine/\(a==sysModules)=false/\∃vs,KV kvs vs/\h.DictOf (Ci P w) a vs
 | .dT kvs=>kvs.length<=sizeLine/\(a==sysModules)=false/\∃xs:List (List Key×Addr×Value),
   Paired (fun(p:List Key×V) (q:List Key×Addr×Value)=>p.1=q.1/\H q.2.1=some (.tup (p.1.map kV))/\RelV p.2 q.2.2) kvs xs/\
   ∃o es ep,h.get? a=some o/\o.ExactDict/\o.data= .dict es ep/\es.toList=xs.map (entryOfKey (tupleKind (Ci P w)))/\(xs.map (·.1)).Nodup
 | .set S n=>h.SetOf (intKind P w) a S n
 | .ins C dx fs=>H dx=some (.own a)/\fs.length<=1000/\dx≠a/\h.get? a=some (PySem.W.instObj C dx)/\
   ∃mA,h.Ns1 dx mA/\(∀f,FP (fs.lookup f) (mA f))/\PySem.Within mA (fs.map (·.1))
 | .own _=>∃o,h.get? a=some o
 | .xd fs=>∃mA,h.Ns1 a mA/\∀f,FP (fs.lookup f) (mA f)
 | .QR lo hi=>∃t u v,h.get? a=some {cls:= .type "range",data:= .fields #[.int lo t,.int hi u,.int 1 v]}
 | .Ck o u=>h.get? a=some o/\gL H h a u
 | .NG ps=>h.get? a=some {cls:= .none,data:= .fields ps}
 | .met f x=>h.get? a=some (PySem.W.methodObj (.ref f) (.ref x))
 | .ext φ=>φ h/\(∃o,h.get? a=some o)/\∀h1 h2:Heap,φ h1->(∀o,h1.get? a=some o->h2.get? a=some o)->φ h2
def tu(H:Hp)(h:Heap):Prop:=∀a o,H a=some o->gL P w H h a o
end
section
variable {P:Program}{w:World}{H H':Hp}{h h':Heap}{a:Addr}{o:HO}
theorem gL.lt(x:gL P w H h a o):a<h.objs.size:=by
 cases o with
 |lst xs=>obtain⟨_,_,_,_,e⟩:=x;exact Heap.lt_size e
 |tup xs=>obtain⟨_,_,_,p⟩:=x;exact p.lt
 |dK kvs=>obtain⟨_,_,_,_,o,_,_,e,_⟩:=x;exact Heap.lt_size e
 |dT kvs=>obtain⟨_,_,_,_,o,_,_,e,_⟩:=x;exact Heap.lt_size e
 |set S n=>obtain⟨o,_,_,_,e,_⟩:=x;exact Heap.lt_size e
 |ins C dx fs=>obtain⟨_,_,_,e,_⟩:=x;exact Heap.lt_size e
 |own y=>obtain⟨_,e⟩:=x;exact Heap.lt_size e
 |xd fs=>obtain⟨_,⟨_,_,_,e,_⟩,_⟩:=x;exact Heap.lt_size e
 |QR lo hi=>obtain⟨_,_,_,e⟩:=x;exact Heap.lt_size e
 |Ck ob u=>obtain⟨e,_⟩:=x;exact Heap.lt_size e
 |NG ps=>exact Heap.lt_size (show h.get? a=some _ from x)
 |met f y=>exact Heap.lt_size (show h.get? a=some _ from x)
 |ext φ=>obtain⟨_,⟨_,e⟩,_⟩:=x;exact Heap.lt_size e
theorem Paired.NH{α β:Type}{F G:α->β->Prop}:∀{l₁:List α} {l₂:List β},Paired F l₁ l₂->(∀a b,F a b->G a b)->Paired G l₁ l₂
 |_,_,.nil,_=> .nil
 |_,_,.cons r t,f=> .cons (f _ _ r) (Paired.NH t f)
theorem gL.FQ(x:gL P w H h a o)(k:∀b u,(b=a\/H b=some (.own a))->h.get? b=some u->h'.get? b=some u)
  (ho:∀b,H b=some (.own a)->H' b=some (.own a)) (ht:∀b xs,H b=some (.tup xs)->H' b=some (.tup xs)):gL P w H' h' a o:=by
 induction o with
 |lst xs=>obtain⟨z,its,n,r,e⟩:=x;exact⟨z,its,n,r,k _ _ (.inl rfl) e⟩
 |tup xs=>obtain⟨z,its,r,ob,e,c⟩:=x;exact⟨z,its,r,ob,k _ _ (.inl rfl) e,c⟩
 |dK kvs=>obtain⟨z,y,vs,r,ob,es,ep,e,c⟩:=x;exact⟨z,y,vs,r,ob,es,ep,k _ _ (.inl rfl) e,c⟩
 |dT kvs=>
  obtain⟨z,y,xs,r,ob,es,ep,e,c⟩:=x
  exact⟨z,y,xs,Paired.NH r fun p q z=>⟨z.1,ht _ _ z.2.1,z.2.2⟩,ob,es,ep,k _ _ (.inl rfl) e,c⟩
 |set S n=>obtain⟨ob,es,ep,t,e,c⟩:=x;exact⟨ob,es,ep,t,k _ _ (.inl rfl) e,c⟩
 |ins C dx fs=>
  obtain⟨d,z,ne,e,mA,⟨od,es,ep,e2,c⟩,r⟩:=x
  exact⟨ho _ d,z,ne,k _ _ (.inl rfl) e,mA,⟨od,es,ep,k _ _ (.inr d) e2,c⟩,r⟩
 |own y=>obtain⟨ob,e⟩:=x;exact⟨ob,k _ _ (.inl rfl) e⟩
 |xd fs=>obtain⟨mA,⟨od,es,ep,e,c⟩,r⟩:=x;exact⟨mA,⟨od,es,ep,k _ _ (.inl rfl) e,c⟩,r⟩
 |QR lo hi=>obtain⟨t,u,v,e⟩:=x;exact⟨t,u,v,k _ _ (.inl rfl) e⟩
 |Ck ob u ih=>obtain⟨e,q⟩:=x;exact⟨k _ _ (.inl rfl) e,ih q⟩
 |NG ps=>
  have e:h.get? a=some {cls:= .none,data:= .fields ps}:=x
  show h'.get? a=some {cls:= .none,data:= .fields ps}
  exact k a _ (.inl rfl) e
 |met f y=>
  have e:h.get? a=some (PySem.W.methodObj (.ref f) (.ref y)):=x
  show h'.get? a=some (PySem.W.methodObj (.ref f) (.ref y))
  exact k a _ (.inl rfl) e
 |ext φ=>obtain⟨p,⟨o,e⟩,st⟩:=x;exact⟨st _ _ p fun o q=>k _ _ (.inl rfl) q,⟨o,k _ _ (.inl rfl) e⟩,st⟩
theorem tu.lt(x:tu P w H h)(e:H a=some o):a<h.objs.size:=(x a o e).lt
theorem tu.fresh(x:tu P w H h)(e:h.objs.size<=a):H a=none:=by
 cases q:H a with
 |none=>rfl
 |some u=>exact absurd (Nat.lt_of_lt_of_le (x.lt q) e) (Nat.lt_irrefl _)
theorem tu.kept(x:tu P w H h)(k:∀b u,h.get? b=some u->h'.get? b=some u):tu P w H h':=fun a o e=>
 (x a o e).FQ (fun b u _ q=>k b u q) (fun _ q=>q) fun _ _ q=>q
theorem tu.laid(x:tu P w H h)(k:∀b u,h.get? b=some u->h'.get? b=some u)(hp:h.objs.size<=a)(new:gL P w (upd H a o) h' a o):tu P w (upd H a o) h':=fun b u e=>by
 have hn:=x.fresh hp
 by_cases hb:b=a
 ·subst hb;rw[ak] at e;cases e;exact new
 ·rw[aR hb] at e
  exact(x b u e).FQ (fun c v _ q=>k c v q) (fun c q=>by rw[aR (bV q hn)];exact q) fun c xs q=>by rw[aR (bV q hn)];exact q
end
def Rd(H:Hp)(a:Addr)(u:HO):Prop:=H a=some u\/∃o,H a=some (.Ck o u)
theorem Rd.ok{P:Program}{w:World}{H:Hp}{h:Heap}{a:Addr}{u:HO}(r:Rd H a u)(x:tu P w H h):gL P w H h a u:=by
 rcases r with r |⟨o,r⟩
 ·exact x a u r
 ·obtain⟨_,q⟩:=x a _ r
  exact q
def QI:Option HO->Prop
 |some (.lst _)=>True
 |some (.dK _)=>True
 |some (.dT _)=>True
 |some (.set _ _)=>True
 |some (.ins _ _ _)=>True
 |some (.ext _)=>True
 |_=>False
section
variable {P:Program}{w:World}{H:Hp}{h h':Heap}{x e:Addr}{o':HO}
theorem tu.write(ok:tu P w H h)(mu:QI (H x))(he:e=x\/H e=some (.own x))(k:∀b u,b≠e->h.get? b=some u->h'.get? b=some u)(heo:∃u,h'.get? e=some u)
  (new:gL P w (upd H x o') h' x o'):tu P w (upd H x o') h':=fun b u q=>by
 have nown:∀c y,H c=some (.own y)->c≠x:=fun c y r z=>by subst z;rw[r] at mu;exact mu
 have ntup:∀c xs,H c=some (.tup xs)->c≠x:=fun c xs r z=>by subst z;rw[r] at mu;exact mu
 by_cases hb:b=x
 ·subst hb;rw[ak] at q;cases q;exact new
 ·rw[aR hb] at q
  by_cases hbe:b=e
  ·have q':H b=some (.own x):=by
    rcases he with z |z
    ·exact absurd (hbe.trans z) hb
    ·rw[hbe];exact z
   rw[q] at q';cases q'
   obtain⟨v,hv⟩:=heo
   exact⟨v,by rw[hbe];exact hv⟩
  ·refine(ok b u q).FQ (fun c v hc r=>k c v ?_ r) (fun c r=>by rw[aR (nown c b r)];exact r) fun c xs r=>by rw[aR (ntup c xs r)];exact r
   rcases hc with rfl |hc
   ·exact hbe
   ·rintro rfl
    rcases he with z |z
    ·exact nown c b hc z
    ·rw[hc] at z;cases z;exact hb rfl
end
structure Un(fs ex:List Addr)(H H':Hp)(h h':Heap):Prop where
 keep:∀b o,h.get? b=some o->H b=none->b∉fs->b∉ex->h'.get? b=some o
 slot:∀b o,h.get? b=some o->H b=none->b∈fs->b∉ex->∃sl,h'.get? b=some {o with slots:=sl}
 free:∀b o,h.get? b=some o->H b=none->b∉ex->H' b=none
 there:∀b o,h.get? b=some o->b∉ex->∃o',h'.get? b=some o'
 DT:∀b xs,H b=some (.tup xs)->H' b=some (.tup xs)
 Cm:∀b o u,H b=some (.Ck o u)->H' b=some (.Ck o u)
 DU:∀b ps,H b=some (.NG ps)->∃more,H' b=some (.NG (ps ++ more))
section
variable {fs fs' ex ex':List Addr}{H H1 H2:Hp}{h h1 h2 h':Heap}{a x e:Addr}{o:HO}
theorem Un.any(u:Un fs ex H H1 h h1){b:Addr}{ob:Obj}(q:h.get? b=some ob)(n:H b=none)(hx:b∉ex):∃sl,h1.get? b=some {ob with slots:=sl}:=by
 by_cases hb:b∈fs
 ·exact u.slot b ob q n hb hx
 ·exact⟨ob.slots,u.keep b ob q n hb hx⟩
theorem Un.kept(k:∀b u,h.get? b=some u->h'.get? b=some u):Un fs ex H H h h':=
 ⟨fun b ob q _ _ _=>k b ob q,fun b ob q _ _ _=>⟨ob.slots,k b ob q⟩,fun _ _ _ n _=>n,fun b ob q _=>⟨ob,k b ob q⟩,fun _ _ q=>q,fun _ _ _ q=>q,fun _ ps q=>⟨#[],by rw[q];simp⟩⟩
theorem Un.refl:Un fs ex H H h h:=Un.kept fun _ _ q=>q
theorem Un.laid(k:∀b u,h.get? b=some u->h'.get? b=some u)(hp:h.objs.size<=a)(hn:H a=none):Un fs ex H (upd H a o) h h' where
 keep:=fun b u q _ _ _=>k b u q
 slot:=fun b u q _ _ _=>⟨u.slots,k b u q⟩
 free:=fun b u q n _=>by rw[aR (Nat.ne_of_lt (Nat.lt_of_lt_of_le (Heap.lt_size q) hp))];exact n
 there:=fun b u q _=>⟨u,k b u q⟩
 DT:=fun b xs q=>by rw[aR (bV q hn)];exact q
 Cm:=fun b u xs q=>by rw[aR (bV q hn)];exact q
 DU:=fun b ps q=>⟨#[],by rw[aR (bV q hn),q];simp⟩
theorem Un.write(mu:QI (H x))(he:e=x\/H e=some (.own x))(k:∀b u,b≠e->h.get? b=some u->h'.get? b=some u)(heo:∃u,h'.get? e=some u):Un fs ex H (upd H x o) h h':=by
 have hx:∀b,H b=none->b≠x:=fun b n z=>by subst z;rw[n] at mu;exact mu
 have hb:∀b,H b=none->b≠e:=fun b n z=>by
  subst z
  rcases he with r |r
  ·exact hx b n r
  ·rw[n] at r;cases r
 have hm:∀b u,H b=some u->¬QI (some u)->b≠x:=fun b u q nm z=>by subst z;rw[q] at mu;exact nm mu
 refine⟨fun b u q n _ _=>k b u (hb b n) q,fun b u q n _ _=>⟨u.slots,k b u (hb b n) q⟩,fun b u q n _=>by rw[aR (hx b n)];exact n,fun b u q _=> ?_,
  fun b xs q=>by rw[aR (hm b _ q fun z=>z)];exact q,fun b u xs q=>by rw[aR (hm b _ q fun z=>z)];exact q,fun b ps q=>⟨#[],by rw[aR (hm b _ q fun z=>z),q];simp⟩⟩
 by_cases hbe:b=e
 ·subst hbe;exact heo
 ·exact⟨u,k b u hbe q⟩
end
def QJ(h:Heap)(H:Hp):List Addr:=(List.range h.objs.size).filter fun a=>(H a).isSome
def AN(h:Heap)(H:Hp):Heap:=PySem.W.hideAll h (QJ h H)
theorem IF(h:Heap)(H:Hp):(AN h H).objs.size=h.objs.size:=PySem.W.hideAll_size _ _
theorem J5{h:Heap}{H:Hp}{b:Addr}{o:Obj}(e:h.get? b=some o)(n:H b=none):(AN h H).get? b=some o:=
 PySem.W.hideAll_get _ e fun hm=>by
  have q:(H b).isSome=true:=(List.mem_filter.mp hm).2
  rw[n] at q;simp at q
theorem L3{h:Heap}{H:Hp}{b:Addr}{o:Obj}(e:(AN h H).get? b=some o):h.get? b=some o/\H b=none:=by
 have e':h.get? b=some o:=PySem.W.of_hideAll (QJ h H) e
 refine⟨e',?_⟩
 cases q:H b with
 |none=>rfl
 |some x=>
  have hm:b∈QJ h H:=List.mem_filter.mpr ⟨List.mem_range.mpr (Heap.lt_size e'),by simp[q]⟩
  have z:(AN h H).get? b=none:=PySem.W.hideAll_none (QJ h H) hm
  rw[z] at e;cases e
structure Mod(K:PySem.W.Frag)(mg:Str->Option Value)(base:Heap):Prop where
 Ph:K.In base
 glob:base.Ns mainGlobals mg
 blt:∃mb,base.Ns builtinsNs mb/\∀x:Str,x≠"__name__"->mb x=bootBuiltins x
 nolimit:base.NoLimit
structure Cx where
 prog:Program
 w:World
 K:PySem.W.Frag
 mg:Str->Option Value
 base:Heap
 A:Around
 N:List Str
 Bm:Shared
 Pj:Hp
 env:Env
 outer:List Env
 stack:List Env
 ex:List Addr
 fn:Str->Bool
 calm:Bool
 pn:List (Addr×Obj)
 xe:Value->Shared->Prop
def J6(l:List Env):List Addr:=l.filterMap (·.frame)
abbrev Cx.fs(X:Cx):List Addr:=J6 X.outer
def O6(sc:Scope)(x:Str):Prop:=sc.names.lookup x=some .local\/sc.names.lookup x=some .cell\/sc.names.lookup x=some .free
def Loc(sc:Scope)(x:Str):Prop:=sc.names.lookup x=some .local\/sc.names.lookup x=some .cell
def Look(env:Env)(h:Heap)(m:Str->Option Value)(x:Str)(u:Value):Prop:=
 (env.kindOf x=some .local/\m x=some u)\/((env.kindOf x=some .cell\/env.kindOf x=some .free)/\∃c,env.cells.lookup x=some c/\h.IsCell c (some u))
structure Cx.Ok(X:Cx):Prop where
 mod:Mod X.K X.mg X.base
 kind:X.env.scope.kind= .function
 glob:X.env.globals=mainGlobals
 blt:X.env.builtins=builtinsNs
 above:X.Bm.heap.objs.size<=X.env.locals
 inj:∀x y c,X.env.cells.lookup x=some c->X.env.cells.lookup y=some c->x=y
 has:∀x,(X.env.kindOf x=some .cell\/X.env.kindOf x=some .free)->∃c,X.env.cells.lookup x=some c
 Pk:∀x c,X.fn x=true->X.env.cells.lookup x=some c->X.Bm.heap.objs.size<=c
 hd:X.calm=true->X.A.handled=none
 frames:X.A.frames=some X.stack
 NJ:X.stack=X.outer\/(X.stack=X.env::X.outer/\X.env.frame=some X.env.locals)
 QK:∀b∈X.ex,b≠X.env.locals/\∀x c,X.env.cells.lookup x=some c->c≠b
 bs:∀b o,X.base.get? b=some o->X.Bm.heap.get? b=some o/\X.Pj b=none
 L4:X.base.objs.size<=X.Bm.heap.objs.size
 J7:∀b o,X.base.get? b=some o->b∉X.ex
 J8:∀b∈X.ex,b∉X.fs
 xN:X.Bm.heap.FunFrames X.base X.outer
 NK:∀b∈X.fs,X.Pj b=none
structure Inv(X:Cx)(pins:List (Addr×Obj))(σ:List (Option V))(H:Hp)(s:Shared):Prop where
 ok:X.Ok
 os:s.os=X.Bm.os
 bare:AllBare s.gens
 base:Un X.fs X.ex X.Pj H X.Bm.heap s.heap
 loc:∃m,s.heap.Ns X.env.locals m/\∀(i:Nat) (x:Str) (v:V),X.N[i]? =some x->σ[i]? =some (some v)->O6 X.env.scope x->∃u,RelV v u/\Look X.env s.heap m x u
 cell:∀x c,X.env.cells.lookup x=some c->∃v,s.heap.IsCell c v
 free:H X.env.locals=none
 oX:∀x c,X.env.cells.lookup x=some c->H c=none
 pin:∀p∈X.pn ++ pins,s.heap.get? p.1=some p.2/\H p.1=none/\p.1≠X.env.locals/\p.1∉X.fs/\∀v,p.2.data≠.cell v
 dP:tu X.prog X.w H s.heap
 len:σ.length=X.N.length
section
variable {X:Cx}{pins:List (Addr×Obj)}{σ:List (Option V)}{H H':Hp}{s:Shared}{h':Heap}
theorem Cx.Ok.QS(ok:X.Ok){b:Addr}{o:Obj}(e:X.base.get? b=some o):b∉X.fs:=fun hb=>by
 have:=(ok.xN.mem hb).1
 rw[e] at this;cases this
theorem Inv.bs(I:Inv X pins σ H s):∀b o,X.base.get? b=some o->s.heap.get? b=some o/\H b=none:=fun b o e=>
 ⟨I.base.keep b o (I.ok.bs b o e).1 (I.ok.bs b o e).2 (I.ok.QS e) (I.ok.J7 b o e),I.base.free b o (I.ok.bs b o e).1 (I.ok.bs b o e).2 (I.ok.J7 b o e)⟩
theorem Inv.bk(I:Inv X pins σ H s):∀b o,X.base.get? b=some o->s.heap.get? b=some o:=fun b o e=>(I.bs b o e).1
theorem Inv.mod(I:Inv X pins σ H s):Mod X.K X.mg X.base:=I.ok.mod
theorem Inv.J0(I:Inv X pins σ H s):X.K.In s.heap:=I.ok.mod.Ph.keeps I.bk
theorem Inv.nolimit(I:Inv X pins σ H s):s.heap.NoLimit:=I.ok.mod.nolimit.keeps I.bk
theorem Inv.lt(I:Inv X pins σ H s):X.env.locals<s.heap.objs.size:=let ⟨_,hn,_⟩:=I.loc;hn.lt
theorem Inv.sz(I:Inv X pins σ H s):X.Bm.heap.objs.size<=s.heap.objs.size:=Nat.le_trans I.ok.above (Nat.le_of_lt I.lt)
theorem Inv.QT(I:Inv X pins σ H s){a:Addr}(h:s.heap.objs.size<=a):a∉X.fs:=fun hb=>by
 obtain⟨_,o,ho,_⟩:=I.ok.xN.mem hb
 exact absurd (Nat.lt_of_lt_of_le (Heap.lt_size ho) (Nat.le_trans I.sz h)) (Nat.lt_irrefl _)
theorem Inv.L5(I:Inv X pins σ H s):∀x c,X.env.cells.lookup x=some c->c≠X.env.locals:=fun x c e z=>by
 obtain⟨v,o,ho,hd⟩:=I.cell x c e
 obtain⟨m,⟨o',es,ep,ho',hd',_⟩,_⟩:=I.loc
 rw[z,ho'] at ho;cases ho;rw[hd'] at hd;cases hd
theorem Inv.xN(I:Inv X pins σ H s):s.heap.FunFrames X.base X.outer:=by
 have all:∀(l:List Env),(∀b∈J6 l,b∈X.fs)->X.Bm.heap.FunFrames X.base l->s.heap.FunFrames X.base l:=by
  intro l
  induction l with
  |nil=>intro _ _;trivial
  |cons env r ih=>
   intro hs hl
   obtain⟨hk,⟨L,o,hf,hn,ho,hd⟩,hr⟩:=hl
   have hL:L∈X.fs:=hs L (by unfold J6;rw[List.filterMap_cons,hf];exact List.mem_cons_self)
   obtain⟨sl,e⟩:=I.base.slot L o ho (I.ok.NK L hL) hL fun z=>I.ok.J8 L z hL
   exact⟨hk,⟨L,_,hf,hn,e,hd⟩,ih (fun b hb=>hs b (by unfold J6;rw[List.filterMap_cons,hf];exact List.mem_cons_of_mem _ hb)) hr⟩
 exact all X.outer (fun _ hb=>hb) I.ok.xN
theorem Inv.stack(I:Inv X pins σ H s):s.heap.FunFrames X.base X.stack:=by
 rcases I.ok.NJ with e |⟨e,hf⟩
 ·rw[e];exact I.xN
 ·rw[e]
  obtain⟨m,hn,_⟩:=I.loc
  refine .cons (by rw[I.ok.kind];decide) hf hn ?_ I.xN
  exact Heap.get?_none_of_le (Nat.le_trans I.ok.L4 I.ok.above)
theorem Inv.FR(I:Inv X pins σ H s):∀b∈J6 X.stack,b∈X.env.locals::X.fs:=fun b hb=>by
 rcases I.ok.NJ with e |⟨e,hf⟩
 ·rw[e] at hb;exact List.mem_cons_of_mem _ hb
 ·rw[e] at hb
  unfold J6 at hb
  rw[List.filterMap_cons,hf] at hb
  exact hb
theorem Inv.Hj(I:Inv X pins σ H s):∀b∈J6 X.stack,H b=none:=fun b hb=>by
 rcases List.mem_cons.mp (I.FR b hb) with e |hb
 ·rw[e];exact I.free
 ·obtain⟨_,o,ho,_⟩:=I.ok.xN.mem hb
  exact I.base.free b o ho (I.ok.NK b hb) fun z=>I.ok.J8 b z hb
theorem Inv.step{g':Array GenState}{t':Nat}{d':Drawn}{ch:List Addr}(I:Inv X pins σ H s)
  (hch:∀b∈ch,(b∈X.ex\/X.Bm.heap.objs.size<=b)/\b≠X.env.locals/\(∀x c,X.env.cells.lookup x=some c->c≠b)/\∀p∈X.pn ++ pins,p.1≠b)
  (keep:∀b o,b≠X.env.locals->b∉X.fs->b∉ch->s.heap.get? b=some o->H b=none->h'.get? b=some o)
  (slot:∀b o,b≠X.env.locals->b∈X.fs->b∉ch->s.heap.get? b=some o->H b=none->∃sl,h'.get? b=some {o with slots:=sl}) (free:∀b o,b∉ch->s.heap.get? b=some o->H b=none->H' b=none)
  (there:∀b o,b∉ch->s.heap.get? b=some o->∃o',h'.get? b=some o')
  (DT:∀b xs,H b=some (.tup xs)->H' b=some (.tup xs)) (Cm:∀b o u,H b=some (.Ck o u)->H' b=some (.Ck o u)) (DU:∀b ps,H b=some (.NG ps)->∃more,H' b=some (.NG (ps ++ more)))
  (ns:∀m,s.heap.Ns X.env.locals m->h'.Ns X.env.locals m) (dP:tu X.prog X.w H' h') (hg:AllBare g'):
  Inv X pins σ H' {s with heap:=h',gens:=g',drawn:=d',toks:=t'}:=by
 have neL:∀b o,X.Bm.heap.get? b=some o->b≠X.env.locals:=fun b o e=>Nat.ne_of_lt (Nat.lt_of_lt_of_le (Heap.lt_size e) I.ok.above)
 have neC:∀b o,X.Bm.heap.get? b=some o->b∉X.ex->b∉ch:=fun b o e hx hb=>by
  rcases(hch b hb).1 with z |z
  ·exact hx z
  ·exact absurd (Nat.lt_of_lt_of_le (Heap.lt_size e) z) (Nat.lt_irrefl _)
 have cellK:∀x c,X.env.cells.lookup x=some c->∀v,s.heap.IsCell c v->h'.IsCell c v:=fun x c e v ⟨o,ho,hd⟩=>by
  have nch:c∉ch:=fun z=>(hch c z).2.2.1 x c e rfl
  by_cases hc:c∈X.fs
  ·obtain⟨sl,q⟩:=slot c o (I.L5 x c e) hc nch ho (I.oX x c e)
   exact⟨_,q,hd⟩
  ·exact⟨o,keep c o (I.L5 x c e) hc nch ho (I.oX x c e),hd⟩
 refine⟨I.ok,I.os,hg,⟨fun b o e n hb hx=> ?_,fun b o e n hb hx=> ?_,fun b o e n hx=> ?_,fun b o e hx=> ?_,fun b xs e=>DT b xs (I.base.DT b xs e),fun b o xs e=>Cm b o xs (I.base.Cm b o xs e),fun b ps e=> ?_⟩,?_,fun x c e=> ?_,?_,fun x c e=> ?_,fun p hp=> ?_,dP,I.len⟩
 ·exact keep b o (neL b o e) hb (neC b o e hx) (I.base.keep b o e n hb hx) (I.base.free b o e n hx)
 ·obtain⟨sl,e1⟩:=I.base.slot b o e n hb hx
  obtain⟨sl',e2⟩:=slot b _ (neL b o e) hb (neC b o e hx) e1 (I.base.free b o e n hx)
  exact⟨sl',e2⟩
 ·obtain⟨o',e1⟩:=I.base.there b o e hx
  exact free b o' (neC b o e hx) e1 (I.base.free b o e n hx)
 ·obtain⟨o',e1⟩:=I.base.there b o e hx
  exact there b o' (neC b o e hx) e1
 ·obtain⟨m1,e1⟩:=I.base.DU b ps e
  obtain⟨m2,e2⟩:=DU b _ e1
  exact⟨m1 ++ m2,by rw[e2,Array.append_assoc]⟩
 ·obtain⟨m,hn,hl⟩:=I.loc
  refine⟨m,ns m hn,fun i x v e1 e2 e3=> ?_⟩
  obtain⟨u,r,l⟩:=hl i x v e1 e2 e3
  refine⟨u,r,?_⟩
  rcases l with l |⟨k,c,e,z⟩
  ·exact .inl l
  ·exact .inr ⟨k,c,e,cellK x c e _ z⟩
 ·obtain⟨v,z⟩:=I.cell x c e
  exact⟨v,cellK x c e v z⟩
 ·obtain⟨m,⟨o,_,_,ho,_⟩,_⟩:=I.loc
  exact free _ o (fun z=>(hch _ z).2.1 rfl) ho I.free
 ·obtain⟨v,o,ho,hd⟩:=I.cell x c e
  exact free c o (fun z=>(hch c z).2.2.1 x c e rfl) ho (I.oX x c e)
 ·obtain⟨e,n,ne,nf,d⟩:=I.pin p hp
  have nch:p.1∉ch:=fun z=>(hch p.1 z).2.2.2 p hp rfl
  exact⟨keep p.1 p.2 ne nf nch e n,free p.1 p.2 nch e n,ne,nf,d⟩
theorem Inv.un{t':Nat}(I:Inv X pins σ H s)(u:Un X.fs [] H H' s.heap h')(dP:tu X.prog X.w H' h'):Inv X pins σ H' {s with heap:=h',toks:=t'}:=by
 obtain⟨m,⟨o,es,ep,ho,r⟩,_⟩:=id I.loc
 obtain⟨sl,hL⟩:=u.any ho I.free (by simp)
 exact I.step (g':=s.gens) (d':=s.drawn) (ch:=[]) (fun _ z=>nomatch z) (fun b o _ hb _ e n=>u.keep b o e n hb (by simp)) (fun b o _ hb _ e n=>u.slot b o e n hb (by simp)) (fun b o _ e n=>u.free b o e n (by simp)) (fun b o _ e=>u.there b o e (by simp)) u.DT u.Cm u.DU (fun m' hm=>by
  obtain⟨o',es',ep',ho',r'⟩:=hm
  rw[ho] at ho';cases ho'
  exact⟨_,es',ep',hL,r'⟩) dP I.bare
theorem Inv.call{g':Array GenState}{t':Nat}{d':Drawn}{ch:List Addr}(I:Inv X pins σ H s)(u:Un (J6 X.stack) ch H H' s.heap h')(dP:tu X.prog X.w H' h')(hg:AllBare g')
  (hch:∀b∈ch,(b∈X.ex\/X.Bm.heap.objs.size<=b)/\b≠X.env.locals/\(∀x c,X.env.cells.lookup x=some c->c≠b)/\∀p∈X.pn ++ pins,p.1≠b):
  Inv X pins σ H' {s with heap:=h',gens:=g',drawn:=d',toks:=t'}:=by
 obtain⟨m,⟨o,es,ep,ho,r⟩,_⟩:=id I.loc
 obtain⟨sl,hL⟩:=u.any ho I.free fun z=>(hch _ z).2.1 rfl
 exact I.step (ch:=ch) hch (fun b o hL hb hc e n=>u.keep b o e n (fun z=>(List.mem_cons.mp (I.FR b z)).elim hL hb) hc) (fun b o _ _ hc e n=>u.any e n hc) (fun b o hc e n=>u.free b o e n hc) (fun b o hc e=>u.there b o e hc) u.DT u.Cm u.DU (fun m' hm=>by
  obtain⟨o',es',ep',ho',r'⟩:=hm
  rw[ho] at ho';cases ho'
  exact⟨_,es',ep',hL,r'⟩) dP hg
theorem Inv.turned{t':Nat}{it:Addr}(I:Inv X pins σ H s)(k:∀b o,b≠it->s.heap.get? b=some o->h'.get? b=some o)(hn:H it=none)(hL:it≠X.env.locals)
  (h1:it∈X.ex\/X.Bm.heap.objs.size<=it) (h2:∀x c,X.env.cells.lookup x=some c->c≠it) (h3:∀p∈X.pn ++ pins,p.1≠it):Inv X pins σ H {s with heap:=h',toks:=t'}:=by
 have nit:∀b u,H b=some u->b≠it:=fun b u e z=>by rw[z,hn] at e;cases e
 refine I.step (g':=s.gens) (d':=s.drawn) (ch:=[it]) (fun b hb=> ?_) (fun b o _ _ hc e _=>k b o (fun z=>hc (by simp[z])) e) (fun b o _ _ hc e _=>⟨o.slots,k b o (fun z=>hc (by simp[z])) e⟩) (fun _ _ _ _ n=>n)
  (fun b o hc e=>⟨o,k b o (fun z=>hc (by simp[z])) e⟩) (fun _ _ e=>e) (fun _ _ _ e=>e) (fun b ps e=>⟨#[],by rw[e];simp⟩) (fun m hm=> ?_) (fun b u e=> ?_) I.bare
 ·have e:b=it:=by simpa using hb
  subst e
  exact⟨h1,hL,h2,h3⟩
 ·obtain⟨o,es,ep,ho,r⟩:=hm
  exact⟨o,es,ep,k _ o (Ne.symm hL) ho,r⟩
 ·refine(I.dP b u e).FQ (fun c v hc q=>k c v ?_ q) (fun _ q=>q) fun _ _ q=>q
  rcases hc with z |z
  ·rw[z];exact nit b u e
  ·exact nit c _ z
theorem Inv.tok(I:Inv X pins σ H s)(t:Nat):Inv X pins σ H {s with toks:=t}:=I.un (h':=s.heap) (t':=t) Un.refl I.dP
theorem Inv.kept{t':Nat}(I:Inv X pins σ H s)(k:∀b u,s.heap.get? b=some u->h'.get? b=some u):Inv X pins σ H {s with heap:=h',toks:=t'}:=I.un (Un.kept k) (I.dP.kept k)
theorem Inv.laid{a:Addr}{o:HO}{t':Nat}(I:Inv X pins σ H s)(k:∀b u,s.heap.get? b=some u->h'.get? b=some u)(hp:s.heap.objs.size<=a)(new:gL X.prog X.w (upd H a o) h' a o):
  Inv X pins σ (upd H a o) {s with heap:=h',toks:=t'}:=I.un (Un.laid k hp (I.dP.fresh hp)) (I.dP.laid k hp new)
theorem Inv.write{x e:Addr}{o:HO}{t':Nat}(I:Inv X pins σ H s)(mu:QI (H x))(he:e=x\/H e=some (.own x))(k:∀b u,b≠e->s.heap.get? b=some u->h'.get? b=some u)(heo:∃u,h'.get? e=some u)
  (new:gL X.prog X.w (upd H x o) h' x o):Inv X pins σ (upd H x o) {s with heap:=h',toks:=t'}:=I.un (Un.write mu he k heo) (I.dP.write mu he k heo new)
theorem Inv.weak{σ':List (Option V)}(I:Inv X pins σ H s)(hl:σ'.length=σ.length)(w:∀(i:Nat) v,σ'[i]? =some (some v)->σ[i]? =some (some v)):Inv X pins σ' H s:=
 ⟨I.ok,I.os,I.bare,I.base,let ⟨m,hn,hl'⟩:=I.loc;⟨m,hn,fun i x v e1 e2 e3=>hl' i x v e1 (w i v e2) e3⟩,I.cell,I.free,I.oX,I.pin,I.dP,hl.trans I.len⟩
theorem Inv.Hk{pins':List (Addr×Obj)}(I:Inv X pins σ H s)(h:∀p∈pins',s.heap.get? p.1=some p.2/\H p.1=none/\p.1≠X.env.locals/\p.1∉X.fs/\∀v,p.2.data≠.cell v):Inv X pins' σ H s:=
 ⟨I.ok,I.os,I.bare,I.base,I.loc,I.cell,I.free,I.oX,fun p hp=>(List.mem_append.mp hp).elim (fun z=>I.pin p (List.mem_append_left _ z)) (h p),I.dP,I.len⟩
theorem yE{N:List Str}(hN:N.Nodup){i j:Nat}{x:Str}(a:N[i]? =some x)(b:N[j]? =some x):i=j:=by
 obtain⟨h1,e1⟩:=List.getElem?_eq_some_iff.mp a
 obtain⟨h2,e2⟩:=List.getElem?_eq_some_iff.mp b
 exact(List.getElem_inj hN).mp (e1.trans e2.symm)
theorem Bn{M:Model}{A:Around}{E:Value->Shared->Prop}{i:Nat}{x:Str}{v:V}{u:Value}{Q:Unit->Shared->Prop}(I:Inv X pins σ H s)(hN:X.N.Nodup)(hi:X.N[i]? =some x)(hx:Loc X.env.scope x)(r:RelV v u)
  (h:∀s',Inv X pins (σ.set i (some v)) H s'->(∃a,Heap.SameBut a s.heap s'.heap/\(a=X.env.locals\/X.env.cells.lookup x=some a))->Q () s') (hf:X.fn x=true\/X.env.scope.names.lookup x=some .local:=by first |exact .inl rfl |exact .inr rfl |assumption):wpAny M A (storeName X.env x u) Q E s:=by
 obtain⟨m,hn,hl⟩:=id I.loc
 have hcls:(X.env.scope.kind== .class ||(X.env.scope.kind== .module&&X.env.locals !=X.env.globals))=false:=by rw[I.ok.kind];rfl
 have hiσ:i<σ.length:=by rw[I.len];exact(List.getElem?_eq_some_iff.mp hi).1
 have L5:=I.L5
 have tracked:∀{a:Addr} {h':Heap},(∃o,s.heap.get? a=some o/\H a=none)->Heap.SameBut a s.heap h'->tu X.prog X.w H h':=fun{a h'} ha hs b ob e=>by
  obtain⟨_,_,hfree⟩:=ha
  refine(I.dP b ob e).FQ (fun c w' hc q=>(hs.2 c ?_).trans q) (fun _ q=>q) fun _ _ q=>q
  rintro rfl
  rcases hc with rfl |hc
  ·rw[hfree] at e;cases e
  ·rw[hfree] at hc;cases hc
 rcases hx with hk |hk
 ·refine wpAny_storeName_local hk hn (fun h' hn' hs=> ?_) hcls
  obtain⟨oL,_,_,hoL,_⟩:=id hn
  refine h _ ⟨I.ok,I.os,I.bare,⟨fun b o e n hb hx=> ?_,fun b o e n hb hx=> ?_,I.base.free,fun b o e hx=> ?_,I.base.DT,I.base.Cm,I.base.DU⟩,⟨_,hn',fun j y v' e1 e2 e3=> ?_⟩,fun y c e=> ?_,I.free,I.oX,fun p hp=> ?_,tracked ⟨oL,hoL,I.free⟩ hs,by simpa using I.len⟩ ⟨_,hs,.inl rfl⟩
  ·exact(hs.2 b (Nat.ne_of_lt (Nat.lt_of_lt_of_le (Heap.lt_size e) I.ok.above))).trans (I.base.keep b o e n hb hx)
  ·obtain⟨sl,e1⟩:=I.base.slot b o e n hb hx
   exact⟨sl,(hs.2 b (Nat.ne_of_lt (Nat.lt_of_lt_of_le (Heap.lt_size e) I.ok.above))).trans e1⟩
  ·obtain⟨o',e1⟩:=I.base.there b o e hx
   exact⟨o',(hs.2 b (Nat.ne_of_lt (Nat.lt_of_lt_of_le (Heap.lt_size e) I.ok.above))).trans e1⟩
  ·by_cases hj:j=i
   ·subst hj
    rw[hi] at e1;cases e1
    rw[List.getElem?_set_self hiσ] at e2
    cases e2
    exact⟨u,r,.inl ⟨hk,by simp⟩⟩
   ·rw[List.getElem?_set_ne (Ne.symm hj)] at e2
    obtain⟨u',r',q⟩:=hl j y v' e1 e2 e3
    refine⟨u',r',?_⟩
    rcases q with⟨k,e⟩ |⟨k,c,e,z⟩
    ·refine .inl ⟨k,?_⟩
     have:y≠x:=fun e=>hj (yE hN e1 (e▸hi))
     simp[this,e]
    ·exact .inr ⟨k,c,e,z.sameBut hs (L5 y c e)⟩
  ·obtain⟨w',z⟩:=I.cell y c e
   exact⟨w',z.sameBut hs (L5 y c e)⟩
  ·obtain⟨e,n,ne,nf,d⟩:=I.pin p hp
   exact⟨(hs.2 p.1 ne).trans e,n,ne,nf,d⟩
 ·have hfn:X.fn x=true:=by
   rcases hf with z |z
   ·exact z
   ·rw[z] at hk;cases hk
  obtain⟨c,hc⟩:=I.ok.has x (.inl hk)
  obtain⟨w',z⟩:=I.cell x c hc
  refine wpAny_storeName_cell I.ok.kind hk hc z (fun h' hc' hs=> ?_)
  obtain⟨oc,hoc,hocd⟩:=id z
  refine h {s with heap:=h'} ⟨I.ok,I.os,I.bare,⟨fun b o e n hb hx=> ?_,fun b o e n hb hx=> ?_,I.base.free,fun b o e hx=> ?_,I.base.DT,I.base.Cm,I.base.DU⟩,⟨m,hn.sameBut hs (Ne.symm (L5 x c hc)),fun j y v' e1 e2 e3=> ?_⟩,fun y c' e=> ?_,I.free,I.oX,fun p hp=> ?_,tracked ⟨oc,hoc,I.oX x c hc⟩ hs,by simpa using I.len⟩ ⟨c,hs,.inr hc⟩
  ·exact(hs.2 b (Nat.ne_of_lt (Nat.lt_of_lt_of_le (Heap.lt_size e) (I.ok.Pk x c hfn hc)))).trans (I.base.keep b o e n hb hx)
  ·obtain⟨sl,e1⟩:=I.base.slot b o e n hb hx
   exact⟨sl,(hs.2 b (Nat.ne_of_lt (Nat.lt_of_lt_of_le (Heap.lt_size e) (I.ok.Pk x c hfn hc)))).trans e1⟩
  ·obtain⟨o',e1⟩:=I.base.there b o e hx
   exact⟨o',(hs.2 b (Nat.ne_of_lt (Nat.lt_of_lt_of_le (Heap.lt_size e) (I.ok.Pk x c hfn hc)))).trans e1⟩
  ·by_cases hj:j=i
   ·subst hj
    rw[hi] at e1;cases e1
    rw[List.getElem?_set_self hiσ] at e2
    cases e2
    exact⟨u,r,.inr ⟨.inl hk,c,hc,hc'⟩⟩
   ·rw[List.getElem?_set_ne (Ne.symm hj)] at e2
    obtain⟨u',r',q⟩:=hl j y v' e1 e2 e3
    refine⟨u',r',?_⟩
    rcases q with q |⟨k,c',e,z'⟩
    ·exact .inl q
    ·refine .inr ⟨k,c',e,z'.sameBut hs ?_⟩
     rintro rfl
     exact hj (yE hN e1 (I.ok.inj _ _ _ e hc▸hi))
  ·by_cases hcc:c'=c
   ·subst hcc;exact⟨_,hc'⟩
   ·obtain⟨w2,z2⟩:=I.cell y c' e
    exact⟨w2,z2.sameBut hs hcc⟩
  ·obtain⟨e,n,ne,nf,d⟩:=I.pin p hp
   refine⟨(hs.2 p.1 ?_).trans e,n,ne,nf,d⟩
   intro q
   rw[q,hoc] at e
   have q':oc=p.2:=Option.some.inj e
   exact d w' (by rw[<-q'];exact hocd)
theorem yF{M:Model}{A:Around}{E:Value->Shared->Prop}{i:Nat}{x:Str}{v:V}{u:Value}{Q:Unit->Shared->Prop}(I:Inv X pins σ H s)(hN:X.N.Nodup)(hi:X.N[i]? =some x)(hx:Loc X.env.scope x)(r:RelV v u)
  (h:∀s',Inv X pins (σ.set i (some v)) H s'->Q () s') (hf:X.fn x=true\/X.env.scope.names.lookup x=some .local:=by first |exact .inl rfl |exact .inr rfl |assumption):wpAny M A (storeName X.env x u) Q E s:=
 Bn I hN hi hx r (fun s' I' _=>h s' I') hf
theorem Inv.Pl{s':Shared}{ch:List Addr}(I:Inv X pins σ H s)(ho:s'.os=s.os)(u:Un (J6 X.stack) ch H H' s.heap s'.heap)(dP:tu X.prog X.w H' s'.heap)(hg:AllBare s'.gens)
  (hch:∀b∈ch,(b∈X.ex\/X.Bm.heap.objs.size<=b)/\b≠X.env.locals/\(∀x c,X.env.cells.lookup x=some c->c≠b)/\∀p∈X.pn ++ pins,p.1≠b):Inv X pins σ H' s':=by
 obtain⟨h',g',d',t',o'⟩:=s'
 have e:o'=s.os:=ho
 subst e
 exact I.call (g':=g') (t':=t') (d':=d') u dP hg hch
end
abbrev XK:=Value->Option Addr->Hp->Prop
abbrev St:=List (Option V)
abbrev VK:=V->Hp->Prop
abbrev TE:=St->Hp->VK->Prop
abbrev TT:=St->Hp->(Bool->Hp->Prop)->Prop
abbrev TA:=St->Hp->(List V->Hp->Prop)->Prop
structure Ends where
 nx:St->Hp->Prop
 rt:VK
 bk:St->Hp->Prop:=fun _ _=>False
 ct:St->Hp->Prop:=fun _ _=>False
abbrev TS:=Ends->St->Hp->Prop
def EP(X:Cx)(pins:List (Addr×Obj))(σ:St)(Q:VK)(u:Value)(s':Shared):Prop:=∃v H',Inv X pins σ H' s'/\RelV v u/\Q v H'
def TP(X:Cx)(pins:List (Addr×Obj))(σ:St)(Q:Bool->Hp->Prop)(b:Bool)(s':Shared):Prop:=∃H',Inv X pins σ H' s'/\Q b H'
def AP(X:Cx)(pins:List (Addr×Obj))(σ:St)(Q:List V->Hp->Prop)(us:List Value)(s':Shared):Prop:=∃vs H',Inv X pins σ H' s'/\Vals vs us/\Q vs H'
def SP(X:Cx)(pins:List (Addr×Obj))(D:Ends)(f:Flow)(s':Shared):Prop:=
 match f with
 | .next=>∃σ' H',Inv X pins σ' H' s'/\D.nx σ' H'
 | .brk=>∃σ' H',Inv X pins σ' H' s'/\D.bk σ' H'
 | .cont=>∃σ' H',Inv X pins σ' H' s'/\D.ct σ' H'
 | .ret u=>∃v σ' H',Inv X pins σ' H' s'/\RelV v u/\D.rt v H'
def PE(X:Cx)(e:Expr)(t:TE):Prop:=
 ∀(pins:List (Addr×Obj)) (s:Shared) (σ:St) (H:Hp) (Q:VK),Inv X pins σ H s->t σ H Q->wpAny (model X.prog X.w) X.A (eval e X.env) (EP X pins σ Q) X.xe s
def PT(X:Cx)(e:Expr)(t:TT):Prop:=
 ∀(pins:List (Addr×Obj)) (s:Shared) (σ:St) (H:Hp) (Q:Bool->Hp->Prop),Inv X pins σ H s->t σ H Q->wpAny (model X.prog X.w) X.A (isTrue e X.env (eval e X.env)) (TP X pins σ Q) X.xe s
def PW(X:Cx)(e:Expr)(t:TT):Prop:=
 ∀(whole:Sem Value) (pins:List (Addr×Obj)) (s:Shared) (σ:St) (H:Hp) (Q:Bool->Hp->Prop),Inv X pins σ H s->t σ H Q->wpAny (model X.prog X.w) X.A (isTrue e X.env whole) (TP X pins σ Q) X.xe s
theorem PW.pt{X:Cx}{e:Expr}{t:TT}(h:PW X e t):PT X e t:=h _
def PA(X:Cx)(es:List Expr)(t:TA):Prop:=
 ∀(pos:Pos) (pins:List (Addr×Obj)) (s:Shared) (σ:St) (H:Hp) (Q:List V->Hp->Prop),Inv X pins σ H s->t σ H Q->wpAny (model X.prog X.w) X.A (spliced (backTo pos (starEach es X.env))) (AP X pins σ Q) X.xe s
def PS(X:Cx)(st:Stmt)(t:TS):Prop:=
 ∀(pins:List (Addr×Obj)) (s:Shared) (σ:St) (H:Hp) (D:Ends),Inv X pins σ H s->t D σ H->wpAny (model X.prog X.w) X.A (exec st X.env) (SP X pins D) X.xe s
def FT(X:Cx)(st:List Stmt)(t:TS):Prop:=
 ∀(pins:List (Addr×Obj)) (s:Shared) (σ:St) (H:Hp) (D:Ends),Inv X pins σ H s->t D σ H->wpAny (model X.prog X.w) X.A (execs st X.env) (SP X pins D) X.xe s
theorem dN{α:Type}{t:Sem α}{Q Q':α->Shared->Prop}{M:Model}{A:Around}{E:Value->Shared->Prop}{s:Shared}(h:wpAny M A t Q E s)(hQ:∀a s,Q a s->Q' a s):wpAny M A t Q' E s:=wpAny_mono h hQ fun _ _ x=>x
section
variable {X:Cx}
def rH(i:Nat):TE:=fun σ H Q=>∃v,σ[i]? =some (some v)/\Q v H
def tC(v:V):TE:=fun _ H Q=>Q v H
theorem NL{i:Nat}{x:Str}{pos:Pos}(hN:X.N[i]? =some x)(hv:O6 X.env.scope x)(hd:(x==("__debug__":Str))=false:=by decide)(hcd:(x==("__classdict__":Str))=false:=by decide):PE X (.Name x pos) (rH i):=by
 intro pins s σ H Q I h
 obtain⟨v,e,h⟩:=h
 obtain⟨m,hn,hl⟩:=I.loc
 obtain⟨u,r,l⟩:=hl i x v hN e hv
 have fin:EP X pins σ Q u s:=⟨v,H,I,r,h⟩
 rcases l with⟨hk,hm⟩ |⟨hk,c,hc,hcell⟩
 ·exact wpAny_Name (wpAny_loadName_local I.ok.kind hk hn hm fin) hd
 ·rcases hk with hk |hk
  ·exact wpAny_Name (wpAny_loadName_cell I.ok.kind hk hc hcell fin) hd
  ·exact wpAny_Name (wpAny_loadName_free I.ok.kind hk hc hcell fin hcd) hd
theorem aF{i j pos}:PE X (.Constant (.int i) j pos) (tC (.int i)):=fun _ _ _ H _ I h=>wpAny_Constant_int ⟨.int i,H,I.tok _,⟨_,rfl⟩,h⟩
theorem oz{b j pos}:PE X (.Constant (.bool b) j pos) (tC (.bl b)):=fun _ _ _ H _ I h=>Constant_bool ⟨.bl b,H,I,rfl,h⟩
theorem FU{j pos}:PE X (.Constant .none j pos) (tC .gr):=fun _ _ _ H _ I h=>Constant_none ⟨.gr,H,I,rfl,h⟩
def Gl(X:Cx)(x:Str):Prop:=X.env.kindOf x=some .globalImplicit
theorem Cn{E:Value->Shared->Prop}{pins:List (Addr×Obj)}{s:Shared}{σ:St}{H:Hp}{x:Str}{u:Value}{pos:Pos}{Q:Value->Shared->Prop}(I:Inv X pins σ H s)(hg:Gl X x)(hm:X.mg x=some u)(h:Q u s)
  (hd:(x==("__debug__":Str))=false:=by decide):wpAny (model X.prog X.w) X.A (eval (.Name x pos) X.env) Q E s:=
 Calls.Name_function_global I.ok.kind hg (Calls.loadGlobal_global (by rw[I.ok.glob];exact I.mod.glob.keeps I.bk) hm h) hd
theorem oY{E:Value->Shared->Prop}{pins:List (Addr×Obj)}{s:Shared}{σ:St}{H:Hp}{x:Str}{u:Value}{pos:Pos}{Q:Value->Shared->Prop}(I:Inv X pins σ H s)(hg:Gl X x)(hm:X.mg x=none)(hv:bootBuiltins x=some u)(h:Q u s)
  (hn:x≠"__name__":=by decide) (hd:(x==("__debug__":Str))=false:=by decide):wpAny (model X.prog X.w) X.A (eval (.Name x pos) X.env) Q E s:=by
 obtain⟨mb,h1,h2⟩:=I.mod.blt
 exact Calls.Name_function_global I.ok.kind hg (Calls.loadGlobal_builtin (by rw[I.ok.glob];exact I.mod.glob.keeps I.bk) hm (by rw[I.ok.blt];exact h1.keeps I.bk) ((h2 x hn).trans hv) h) hd
theorem Hl{x:Str}{v:V}{u:Value}{pos:Pos}(hg:Gl X x)(hm:X.mg x=some u)(r:RelV v u)(hd:(x==("__debug__":Str))=false:=by decide):PE X (.Name x pos) (tC v):=
 fun _ _ _ H _ I h=>Cn I hg hm ⟨v,H,I,r,h⟩ hd
variable {a b:Expr}{ta tb:TE}{pos:Pos}
def PC(X:Cx)(op:CmpOp)(a b:Expr)(t:TE):Prop:=
 ∀(pins:List (Addr×Obj)) (s:Shared) (σ:St) (H:Hp) (Q:VK),Inv X pins σ H s->t σ H Q->
  wpAny (model X.prog X.w) X.A (eval a X.env) (fun v s₁=>wpAny (model X.prog X.w) X.A (eval b X.env) (fun u s₂=>wpAny (model X.prog X.w) X.A (compareOp op v u) (EP X pins σ Q) X.xe s₂) X.xe s₁) X.xe s
theorem J9(b:Expr){op:CmpOp}(h:op≠.In)(h2:op≠.NotIn):behindInMarks op b=false:=by
 have e1:(op==CmpOp.In)=false:=by cases op <;>first |rfl |exact absurd rfl h
 have e2:(op==CmpOp.NotIn)=false:=by cases op <;>first |rfl |exact absurd rfl h2
 cases b <;>simp[behindInMarks,e1,e2]
def QU(ta:TE):TE:=fun σ H Q=>ta σ H fun x H1=>Q (.bl (decide (x= .gr))) H1
def Po(ta:TE):TE:=fun σ H Q=>ta σ H fun x H1=>Q (.bl (!decide (x= .gr))) H1
theorem RelV.DV{x:V}{v:Value}(r:RelV x v):(v==Value.none)=decide (x= .gr):=by
 cases x with
 |gr=>cases r;rfl
 |bl _=>cases r;rfl
 |int _=>obtain⟨t,rfl⟩:=r;rfl
 |str _=>obtain⟨t,rfl⟩:=r;rfl
 |Cj _=>obtain⟨t,rfl⟩:=r;rfl
 |Pg _=>obtain⟨t,rfl⟩:=r;rfl
 |ref _=>cases r;rfl
 |ty _=>cases r;rfl
theorem Ka{j pos'}(ha:PE X a ta):PC X .Is a (.Constant .none j pos') (QU ta):=by
 intro pins s σ H Q I h
 refine dN (ha pins s σ H _ I h) fun v s1 ⟨x,H1,I1,r1,q1⟩=> ?_
 exact Constant_none (is_none_gen ⟨.bl _,H1,I1,by rw[r1.DV];rfl,q1⟩)
theorem L6{j pos'}(ha:PE X a ta):PC X .IsNot a (.Constant .none j pos') (Po ta):=by
 intro pins s σ H Q I h
 refine dN (ha pins s σ H _ I h) fun v s1 ⟨x,H1,I1,r1,q1⟩=> ?_
 exact Constant_none (isnot_none_gen ⟨.bl _,H1,I1,by rw[r1.DV];rfl,q1⟩)
def tB(t:TE):TT:=fun σ H Q=>t σ H fun x H1=>∃c,x= .bl c/\Q c H1
theorem FV{op:CmpOp}{t:TE}(h:PC X op a b t)(h1:behindInMarks op b=false:=by first |exact J9 _ (by decide) (by decide) |rfl):PT X (.Compare a [op] [b] pos) (tB t):=by
 intro pins s σ H Q I hw
 refine wpAny_isTrue_Compare1 (dN (h pins s σ H _ I hw) fun v s1 h1=>dN h1 fun u s2 h2=>dN h2 fun c s3 ⟨x,H1,I1,r1,q1⟩=> ?_) h1
 obtain⟨d,rfl,q⟩:=q1
 cases r1
 exact wpAny_truthy_bool ⟨H1,I1,q⟩
variable {tA tB':TT}{rest:List Expr}
def QV(t u:TT):TT:=fun σ H Q=>t σ H fun c H1=>if c=true then u σ H1 Q else Q false H1
def R0(t u:TT):TT:=fun σ H Q=>t σ H fun c H1=>if c=true then Q true H1 else u σ H1 Q
def QW(t:TT):TT:=fun σ H Q=>t σ H fun c H1=>Q (!c) H1
theorem Co(ha:PT X a tA):PW X (.BoolOp .And [a] pos) tA:=by
 intro wh pins s σ H Q I h
 refine isTrue_and (dN (ha pins s σ H Q I h) fun c s1 e=> ?_)
 cases c with
 |true=>exact isTrue_and_nil e
 |false=>exact e
theorem Cp(ha:PT X a tA):PW X (.BoolOp .Or [a] pos) tA:=by
 intro wh pins s σ H Q I h
 refine isTrue_or (dN (ha pins s σ H Q I h) fun c s1 e=> ?_)
 cases c with
 |false=>exact isTrue_or_nil e
 |true=>exact e
theorem FW(ha:PT X a tA)(hb:PW X (.BoolOp .And (b::rest) pos) tB'):PW X (.BoolOp .And (a::b::rest) pos) (QV tA tB'):=by
 intro wh pins s σ H Q I h
 refine isTrue_and (dN (ha pins s σ H _ I h) fun c s1 ⟨H1,I1,q1⟩=> ?_)
 cases c with
 |true=>exact hb wh pins s1 σ H1 Q I1 q1
 |false=>exact⟨H1,I1,q1⟩
theorem DW(ha:PT X a tA)(hb:PW X (.BoolOp .Or (b::rest) pos) tB'):PW X (.BoolOp .Or (a::b::rest) pos) (R0 tA tB'):=by
 intro wh pins s σ H Q I h
 refine isTrue_or (dN (ha pins s σ H _ I h) fun c s1 ⟨H1,I1,q1⟩=> ?_)
 cases c with
 |true=>exact⟨H1,I1,q1⟩
 |false=>exact hb wh pins s1 σ H1 Q I1 q1
theorem gy(ha:PT X a tA):PT X (.UnaryOp .Not a pos) (QW tA):=by
 intro pins s σ H Q I h
 exact isTrue_not (ha pins s σ H (fun c H1=>Q (!c) H1) I h)
def Pp(ta tb:TE):TE:=fun σ H Q=>ta σ H fun x H1=>∃c,x= .bl c/\if c=true then tb σ H1 Q else Q (.bl false) H1
def QX(ta tb:TE):TE:=fun σ H Q=>ta σ H fun x H1=>∃c,x= .bl c/\if c=true then Q (.bl true) H1 else tb σ H1 Q
theorem vz{op}{t:TE}(h:PE X a t):PE X (.BoolOp op [a] pos) t:=fun pins s σ H Q I hw=>BoolOp_one (h pins s σ H Q I hw)
theorem yG(ha:PE X a ta)(hb:PE X (.BoolOp .And (b::rest) pos) tb):PE X (.BoolOp .And (a::b::rest) pos) (Pp ta tb):=by
 intro pins s σ H Q I h
 refine BoolOp_and (dN (ha pins s σ H _ I h) fun v s1 ⟨x,H1,I1,r1,q1⟩=> ?_)
 obtain⟨c,rfl,q1⟩:=q1
 cases r1
 refine wpAny_truthy_bool ?_
 cases c with
 |true=>exact hb pins s1 σ H1 Q I1 q1
 |false=>exact⟨.bl false,H1,I1,rfl,q1⟩
theorem Pq(ha:PE X a ta)(hb:PE X (.BoolOp .Or (b::rest) pos) tb):PE X (.BoolOp .Or (a::b::rest) pos) (QX ta tb):=by
 intro pins s σ H Q I h
 refine BoolOp_or (dN (ha pins s σ H _ I h) fun v s1 ⟨x,H1,I1,r1,q1⟩=> ?_)
 obtain⟨c,rfl,q1⟩:=q1
 cases r1
 refine wpAny_truthy_bool ?_
 cases c with
 |false=>exact hb pins s1 σ H1 Q I1 q1
 |true=>exact⟨.bl true,H1,I1,rfl,q1⟩
def R1(t:TT)(ta tb:TE):TE:=fun σ H Q=>t σ H fun c H1=>if c=true then ta σ H1 Q else tb σ H1 Q
theorem jE{c:Expr}(hc:PT X c tA)(ha:PE X a ta)(hb:PE X b tb):PE X (.IfExp c a b pos) (R1 tA ta tb):=by
 intro pins s σ H Q I h
 refine wpAny_IfExp (dN (hc pins s σ H _ I h) fun d s1 ⟨H1,I1,q1⟩=> ?_)
 cases d with
 |true=>exact ha pins s1 σ H1 Q I1 q1
 |false=>exact hb pins s1 σ H1 Q I1 q1
end
def hZ(K:PySem.W.Frag)(H:Hp)(a:Addr)(xs:List V):Prop:=
 Rd H a (.lst xs)\/
  ∃(o:Obj) (its:Array Value) (n:Nat),K.lookup a=some o/\o.cls= .type "list"/\o.dict=none/\o.data= .seq its n/\its.size<=sizeLine/\Vals xs its.toList
def AL(K:PySem.W.Frag)(H:Hp)(a:Addr)(xs:List V):Prop:=
 Rd H a (.tup xs)\/
  ∃(o:Obj) (its:Array Value) (n:Nat),K.lookup a=some o/\o.cls= .type "tuple"/\o.data= .seq its n/\its.size<=sizeLine/\Vals xs its.toList
def QY:Value->Option V
 | .none=>some .gr
 | .bool b=>some (.bl b)
 | .int i _=>some (.int i)
 | .str x _=>some (.str x)
 | .bytes b _=>some (.Cj b)
 | .float b _=>some (.Pg b)
 | .ref a=>some (.ref a)
 | .type n=>some (.ty n)
 |_=>none
theorem RelV.abs{x:V}{u:Value}(r:RelV x u):QY u=some x:=by
 cases x with
 |gr=>cases r;rfl
 |bl _=>cases r;rfl
 |int _=>obtain⟨t,rfl⟩:=r;rfl
 |str _=>obtain⟨t,rfl⟩:=r;rfl
 |Cj _=>obtain⟨t,rfl⟩:=r;rfl
 |Pg _=>obtain⟨t,rfl⟩:=r;rfl
 |ref _=>cases r;rfl
 |ty _=>cases r;rfl
theorem RelV.inj{x y:V}{u:Value}(r:RelV x u)(q:RelV y u):x=y:=Option.some.inj (r.abs.symm.trans q.abs)
theorem Vals.inj:∀{xs ys:List V} {us:List Value},Vals xs us->Vals ys us->xs=ys
 |_,_,_,.nil,.nil=>rfl
 |_,_,_,.cons r t,.cons r' t'=>by rw[r.inj r',Vals.inj t t']
section
variable {X:Cx}{pins:List (Addr×Obj)}{σ:St}{H:Hp}{s:Shared}{a:Addr}{xs ys:List V}
theorem hZ.of{K:PySem.W.Frag}(h:H a=some (.lst xs)):hZ K H a xs:= .inl (.inl h)
theorem AL.of{K:PySem.W.Frag}(h:H a=some (.tup xs)):AL K H a xs:= .inl (.inl h)
theorem Inv.list(I:Inv X pins σ H s)(h:hZ X.K H a xs):∃its:List Value,Vals xs its/\PlainL s.heap a its.toArray/\xs.length<=sizeLine:=by
 rcases h with h |⟨o,its,n,hk,hc,hd,hs,hz,r⟩
 ·obtain⟨z,its,n,r,e⟩:=h.ok I.dP
  exact⟨its,r,⟨_,n,e,rfl,rfl,rfl⟩,z⟩
 ·refine⟨its.toList,r,⟨o,n,I.J0 a o hk,hc,hd,by simpa using hs⟩,?_⟩
  have e:=r.length
  simp only[Array.length_toList] at e
  lia
theorem Inv.tuple(I:Inv X pins σ H s)(h:AL X.K H a xs):∃its:List Value,Vals xs its/\IsTup s.heap a its.toArray/\xs.length<=sizeLine:=by
 rcases h with h |⟨o,its,n,hk,hc,hs,hz,r⟩
 ·obtain⟨z,its,r,p⟩:=h.ok I.dP
  exact⟨its,r,p,z⟩
 ·refine⟨its.toList,r,⟨o,I.J0 a o hk,hc,n,by simpa using hs⟩,?_⟩
  have e:=r.length
  simp only[Array.length_toList] at e
  lia
theorem Inv.oZ(I:Inv X pins σ H s)(h:hZ X.K H a xs)(h':hZ X.K H a ys):xs=ys:=by
 obtain⟨its,r,⟨o,n,e,_,_,d⟩,_⟩:=I.list h
 obtain⟨its',r',⟨o',n',e',_,_,d'⟩,_⟩:=I.list h'
 rw[e] at e';cases e'
 rw[d] at d'
 injection d' with d1 _
 have:its=its':=by simpa using congrArg Array.toList d1
 subst this
 exact r.inj r'
theorem Inv.vA(I:Inv X pins σ H s)(h:AL X.K H a xs)(h':AL X.K H a ys):xs=ys:=by
 obtain⟨its,r,⟨o,e,_,n,d⟩,_⟩:=I.tuple h
 obtain⟨its',r',⟨o',e',_,n',d'⟩,_⟩:=I.tuple h'
 rw[e] at e';cases e'
 rw[d] at d'
 injection d' with d1 _
 have:its=its':=by simpa using congrArg Array.toList d1
 subst this
 exact r.inj r'
end
abbrev Cx.AO(X:Cx)(E:Value->Shared->Prop):Cx:={X with xe:=E}
abbrev Cx.NM(X:Cx):Cx:=X.AO fun _ _=>False
theorem Cx.Ok.AO{X:Cx}(ok:X.Ok)(E:Value->Shared->Prop):(X.AO E).Ok:=
 ⟨ok.mod,ok.kind,ok.glob,ok.blt,ok.above,ok.inj,ok.has,ok.Pk,ok.hd,ok.frames,ok.NJ,ok.QK,ok.bs,ok.L4,ok.J7,ok.J8,ok.xN,ok.NK⟩
theorem Cx.Ok.o9{X:Cx}{E:Value->Shared->Prop}(ok:(X.AO E).Ok):X.Ok:=
 ⟨ok.mod,ok.kind,ok.glob,ok.blt,ok.above,ok.inj,ok.has,ok.Pk,ok.hd,ok.frames,ok.NJ,ok.QK,ok.bs,ok.L4,ok.J7,ok.J8,ok.xN,ok.NK⟩
section
variable {X:Cx}{pins:List (Addr×Obj)}{σ:St}{H:Hp}{s:Shared}{E:Value->Shared->Prop}
theorem Inv.AO(I:Inv X pins σ H s)(E:Value->Shared->Prop):Inv (X.AO E) pins σ H s:=⟨I.ok.AO E,I.os,I.bare,I.base,I.loc,I.cell,I.free,I.oX,I.pin,I.dP,I.len⟩
theorem Inv.o9(I:Inv (X.AO E) pins σ H s):Inv X pins σ H s:=⟨I.ok.o9,I.os,I.bare,I.base,I.loc,I.cell,I.free,I.oX,I.pin,I.dP,I.len⟩
theorem SP.o9{D:Ends}{f:Flow}{s':Shared}(h:SP (X.AO E) pins D f s'):SP X pins D f s':=by
 cases f with
 |next=>obtain⟨σ',H',I,q⟩:=h;exact⟨σ',H',I.o9,q⟩
 |brk=>obtain⟨σ',H',I,q⟩:=h;exact⟨σ',H',I.o9,q⟩
 |cont=>obtain⟨σ',H',I,q⟩:=h;exact⟨σ',H',I.o9,q⟩
 |ret u=>obtain⟨v,σ',H',I,r,q⟩:=h;exact⟨v,σ',H',I.o9,r,q⟩
theorem FT.NM{st:List Stmt}{t:TS}(h:FT X.NM st t):FT X st t:=fun pins s σ H D I hw=>
 wpAny_mono (h pins s σ H D (I.AO _) hw) (fun _ _ q=>q.o9) fun _ _ z=>False.elim z
end
section
variable {X:Cx}{st:Stmt}{rest:List Stmt}{t u:TS}{e:Expr}{te:TE}{pos:Pos}
def Nb:TS:=fun D σ H=>D.nx σ H
def Pr(t u:TS):TS:=fun D σ H=>t {D with nx:=u D} σ H
theorem aW:FT X [] Nb:=fun _ _ σ H _ I h=>wpAny_execs_nil ⟨σ,H,I,h⟩
theorem aj(h1:PS X st t)(h2:FT X rest u):FT X (st::rest) (Pr t u):=by
 intro pins s σ H D I h
 refine wpAny_execs_cons (dN (h1 pins s σ H {D with nx:=u D} I h) fun f s1 q=> ?_)
 cases f with
 |next=>
  obtain⟨σ',H',I',q⟩:=q
  exact h2 pins s1 σ' H' D I' q
 |ret v=>exact q
 |brk=>exact q
 |cont=>exact q
theorem au(h1:PS X st t):FT X [st] t:=by
 intro pins s σ H D I h
 refine wpAny_execs_cons (dN (h1 pins s σ H D I h) fun f s1 q=> ?_)
 cases f with
 |next=>exact wpAny_execs_nil q
 |ret v=>exact q
 |brk=>exact q
 |cont=>exact q
def Pt:TS:=fun D σ H=>D.ct σ H
theorem DX:PS X (.Continue pos) Pt:=fun _ _ σ H _ I h=>wpAny_Continue ⟨σ,H,I,h⟩
theorem Inv.quiet{pins:List (Addr×Obj)}{σ:St}{H:Hp}{s:Shared}(I:Inv X pins σ H s):interactive X.env=false:=by simp[interactive,I.ok.kind]
def Nc(te:TE):TS:=fun D σ H=>te σ H fun _ H1=>D.nx σ H1
theorem fw(he:PE X e te)(hs:swapsWith e none pos.line X.env=pure false:=by rfl):PS X (.Expr e pos) (Nc te):=by
 intro pins s σ H D I h
 exact wpAny_Expr_any (dN (he pins s σ H _ I h) fun v s1 ⟨x,H1,I1,r1,q1⟩=>⟨σ,H1,I1,q1⟩) I.quiet hs
def L7(te:TE):TS:=fun D σ H=>te σ H D.rt
theorem aB(he:PE X e te):PS X (.Return (some e) pos) (L7 te):=by
 intro pins s σ H D I h
 exact wpAny_Return_some (dN (he pins s σ H _ I h) fun v s1 ⟨x,H1,I1,r1,q1⟩=>⟨x,σ,H1,I1,r1,q1⟩)
def Pu(c:TT)(t u:TS):TS:=fun D σ H=>c σ H fun b H1=>if b=true then t D σ H1 else u D σ H1
theorem bK{c:Expr}{a b:List Stmt}{tc:TT}(hc:PT X c tc)(ha:FT X a t)(hb:FT X b u):PS X (.If c a b pos) (Pu tc t u):=by
 intro pins s σ H D I h
 refine wpAny_If (dN (hc pins s σ H _ I h) fun d s1 ⟨H1,I1,q1⟩=> ?_)
 cases d with
 |true=>exact ha pins s1 σ H1 D I1 q1
 |false=>exact hb pins s1 σ H1 D I1 q1
end
abbrev TG:=V->St->Hp->(St->Hp->Prop)->Prop
abbrev Nd:=List V->St->Hp->(St->Hp->Prop)->Prop
def PG(X:Cx)(target:Expr)(t:TG):Prop:=
 ∀(pins:List (Addr×Obj)) (s:Shared) (σ:St) (H:Hp) (v:V) (u:Value) (Q:St->Hp->Prop),Inv X pins σ H s->RelV v u->t v σ H Q->
  wpAny (model X.prog X.w) X.A (assign target X.env u) (fun _ s'=>∃σ' H',Inv X pins σ' H' s'/\Q σ' H') X.xe s
def Pw(X:Cx)(ts:List Expr)(t:Nd):Prop:=
 ∀(pins:List (Addr×Obj)) (s:Shared) (σ:St) (H:Hp) (vs:List V) (us:List Value) (Q:St->Hp->Prop),Inv X pins σ H s->Vals vs us->t vs σ H Q->
  wpAny (model X.prog X.w) X.A (assignInOrder ((assignEach ts X.env).map (·.2)) us) (fun _ s'=>∃σ' H',Inv X pins σ' H' s'/\Q σ' H') X.xe s
abbrev Kb:=V->V->V->Hp->(Hp->Prop)->Prop
def NN(X:Cx)(t:Kb):Prop:=
 ∀(pins:List (Addr×Obj)) (s:Shared) (σ:St) (H:Hp) (o i v:V) (ov iv u:Value) (Q:Hp->Prop),Inv X pins σ H s->RelV o ov->RelV i iv->RelV v u->t o i v H Q->
  wpAny (model X.prog X.w) X.A (setItem ov iv u) (fun _ s'=>∃H',Inv X pins σ H' s'/\Q H') X.xe s
abbrev NO:=V->V->Hp->VK->Prop
def Px(X:Cx)(op:Operator)(t:NO):Prop:=
 ∀(pins:List (Addr×Obj)) (s:Shared) (σ:St) (H:Hp) (x y:V) (v u:Value) (Q:VK),Inv X pins σ H s->RelV x v->RelV y u->t x y H Q->
  wpAny (model X.prog X.w) X.A (inplaceOp op v u) (EP X pins σ Q) X.xe s
section
variable {X:Cx}{pos:Pos}
def Hm(i:Nat):TG:=fun v σ H Q=>Q (σ.set i (some v)) H
theorem aM{i:Nat}{x:Str}(hN:X.N.Nodup)(hi:X.N[i]? =some x)(hx:Loc X.env.scope x)(hf:X.fn x=true\/X.env.scope.names.lookup x=some .local:=by first |exact .inl rfl |exact .inr rfl |assumption):PG X (.Name x pos) (Hm i):=by
 intro pins s σ H v u Q I r h
 exact wpAny_assign_Name (yF I hN hi hx r (fun s' I'=>⟨_,H,I',h⟩) hf)
def QZ:Nd:=fun vs σ H Q=>vs=[]/\Q σ H
def Py(t:TG)(u:Nd):Nd:=fun vs σ H Q=>∃v r,vs=v::r/\t v σ H fun σ' H'=>u r σ' H' Q
theorem gM:Pw X [] QZ:=by
 intro pins s σ H vs us Q I r h
 obtain⟨e,h⟩:=h
 subst e
 cases r
 exact assignInOrder_nil ⟨σ,H,I,h⟩
theorem bM{e:Expr}{es:List Expr}{t:TG}{u:Nd}(h1:PG X e t)(h2:Pw X es u)
  (hs:(assignEach (e::es) X.env).map (·.2)=assign e X.env::(assignEach es X.env).map (·.2):=by rfl):Pw X (e::es) (Py t u):=by
 intro pins s σ H vs us Q I r h
 obtain⟨v,vr,e1,h⟩:=h
 subst e1
 cases r with
 |cons r rr=>
  rw[hs]
  refine assignInOrder_cons (dN (h1 pins s σ H _ _ _ I r h) fun _ s1 ⟨σ1,H1,I1,q1⟩=> ?_)
  exact h2 pins s1 σ1 H1 _ _ Q I1 rr q1
def Pz(K:PySem.W.Frag)(n:Nat)(t:Nd):TG:=fun v σ H Q=>∃a xs,v= .ref a/\AL K H a xs/\xs.length=n/\t xs σ H Q
theorem NP{es:List Expr}{k:Nat}{t:Nd}{n:Nat}(hc:X.calm=true)(h:Pw X es t)
  (hn:(assignEach es X.env).length=n:=by rfl) (hst:(assignEach es X.env).findIdx? (·.1)=none:=by rfl):PG X (.Tuple es k pos) (Pz X.K n t):=by
 intro pins s σ H v u Q I r hw
 obtain⟨a,xs,e1,hq,hl,hw⟩:=hw
 subst e1
 cases r
 obtain⟨its,rv,ht,hz⟩:=I.tuple hq
 refine assign_Tuple_tuple (I.ok.hd hc) ht (by simp[hn,<-hl,rv.length]) hst fun h' hx=> ?_
 have I1:Inv X pins σ H {s with heap:=h'}:=I.kept (t':=s.toks) fun b o e=>hx b o (Nat.ne_of_lt (Heap.lt_size e)) e
 exact h pins _ σ H xs _ Q I1 (by simpa using rv) hw
def Q0(to ti:TE)(t:Kb):TG:=fun v σ H Q=>to σ H fun o H1=>ti σ H1 fun i H2=>t o i v H2 fun H3=>Q σ H3
theorem vB{o i:Expr}{to ti:TE}{t:Kb}(ho:PE X o to)(hi:PE X i ti)(hs:NN X t)
  (ha:∀v,assign (.Subscript o i pos) X.env v=(do
   let ov<-holding [v] (eval o X.env)
   let iv<-holding [v,ov] (eval i X.env)
   standAt pos
   holding [v,ov,iv] (setItem ov iv v)
   release [v,ov,iv] []):=by intro _;rfl):PG X (.Subscript o i pos) (Q0 to ti t):=by
 intro pins s σ H v u Q I r h
 rw[ha]
 refine wpAny_bind (wpAny_holding (dN (ho pins s σ H _ I h) fun ov s1 ⟨x,H1,I1,r1,q1⟩=> ?_))
 refine wpAny_bind (wpAny_holding (dN (hi pins s1 σ H1 _ I1 q1) fun iv s2 ⟨y,H2,I2,r2,q2⟩=> ?_))
 refine wpAny_bind (wpAny_standAt (wpAny_bind (wpAny_holding (dN (hs pins s2 σ H2 x y v ov iv u _ I2 r1 r2 r q2) fun _ s3 ⟨H3,I3,q3⟩=> ?_))))
 exact wpAny_release ⟨σ,H3,I3,q3⟩
def NQ(te:TE)(g:TG):TS:=fun D σ H=>te σ H fun x H1=>g x σ H1 D.nx
theorem vC{tg e:Expr}{te:TE}{g:TG}(he:PE X e te)(hg:PG X tg g)(hs:swapsWithSole [tg] e pos.line X.env=pure false:=by rfl)(hw:swappedStores [tg] e X.env=pure none:=by rfl)
  (h1:(assignEach [tg] X.env).map (·.2)=[assign tg X.env]:=by rfl):PS X (.Assign [tg] e pos) (NQ te g):=by
 intro pins s σ H D I h
 refine wpAny_Assign_stores (dN (he pins s σ H _ I h) fun v s1 ⟨x,H1,I1,r1,q1⟩=> ?_) hs hw
 rw[h1]
 exact dN (hg pins s1 σ H1 x v _ I1 r1 q1) fun _ s2 q=>q
theorem aI{i:Nat}{x:Str}{e:Expr}{te:TE}{pos':Pos}(hN:X.N.Nodup)(hi:X.N[i]? =some x)(hx:Loc X.env.scope x)(he:PE X e te)(hs:swapsWith e (some (.Name x pos')) pos.line X.env=pure false:=by rfl)(hf:X.fn x=true\/X.env.scope.names.lookup x=some .local:=by first |exact .inl rfl |exact .inr rfl |assumption):
  PS X (.Assign [.Name x pos'] e pos) (NQ te (Hm i)):=by
 intro pins s σ H D I h
 refine wpAny_Assign_Name (dN (he pins s σ H _ I h) fun v s1 ⟨y,H1,I1,r1,q1⟩=> ?_) hs
 exact yF I1 hN hi hx r1 (fun s2 I2=>⟨_,H1,I2,q1⟩) hf
def Q1(i:Nat)(te:TE)(ti:NO):TS:=fun D σ H=>∃x,σ[i]? =some (some x)/\te σ H fun y H1=>ti x y H1 fun z H2=>D.nx (σ.set i (some z)) H2
theorem FX{i:Nat}{x:Str}{e:Expr}{te:TE}{op:Operator}{ti:NO}{pos':Pos}(hN:X.N.Nodup)(hi:X.N[i]? =some x)(hx:Loc X.env.scope x)(he:PE X e te)(ho:Px X op ti)(hf:X.fn x=true\/X.env.scope.names.lookup x=some .local:=by first |exact .inl rfl |exact .inr rfl |assumption):
  PS X (.AugAssign (.Name x pos') op e pos) (Q1 i te ti):=by
 intro pins s σ H D I h
 obtain⟨v,e1,h⟩:=h
 obtain⟨m,hn,hl⟩:=I.loc
 have vis:O6 X.env.scope x:=by rcases hx with k |k;exact .inl k;exact .inr (.inl k)
 obtain⟨u,r,l⟩:=hl i x v hi e1 vis
 refine wpAny_AugAssign_Name ?_
 have go:wpAny (model X.prog X.w) X.A (eval e X.env) (fun w s₂=>wpAny (model X.prog X.w) X.A (inplaceOp op u w) (fun r s₃=>wpAny (model X.prog X.w) X.A (storeName X.env x r) (fun _=>SP X pins D .next) X.xe s₃) X.xe s₂) X.xe s:=by
  refine dN (he pins s σ H _ I h) fun w s1 ⟨y,H1,I1,r1,q1⟩=> ?_
  refine dN (ho pins s1 σ H1 v y u w _ I1 r r1 q1) fun z s2 ⟨zv,H2,I2,r2,q2⟩=> ?_
  exact yF I2 hN hi hx r2 (fun s3 I3=>⟨_,H2,I3,q2⟩) hf
 rcases l with⟨hk,hm⟩ |⟨hk,c,hc,hcell⟩
 ·exact wpAny_loadName_local I.ok.kind hk hn hm go
 ·rcases hk with hk |hk
  ·exact wpAny_loadName_cell I.ok.kind hk hc hcell go
  ·rcases hx with k |k
   ·have:X.env.scope.names.lookup x=some .free:=hk
    rw[k] at this;cases this
   ·have:X.env.scope.names.lookup x=some .free:=hk
    rw[k] at this;cases this
def PB(to ti te:TE)(tget:V->V->Hp->VK->Prop)(tip:NO)(tset:Kb):TS:=fun D σ H=>to σ H fun o H1=>ti σ H1 fun i H2=>tget o i H2 fun x H3=>te σ H3 fun y H4=>tip x y H4 fun z H5=>tset o i z H5 fun H6=>D.nx σ H6
def PD(X:Cx)(t:V->V->Hp->VK->Prop):Prop:=
 ∀(pins:List (Addr×Obj)) (s:Shared) (σ:St) (H:Hp) (o i:V) (ov iv:Value) (Q:VK),Inv X pins σ H s->RelV o ov->RelV i iv->t o i H Q->
  wpAny (model X.prog X.w) X.A (getItem ov iv) (EP X pins σ Q) X.xe s
theorem Cq{o i e:Expr}{to ti te:TE}{tget:V->V->Hp->VK->Prop}{tip:NO}{tset:Kb}{op:Operator}{tpos:Pos}(ho:PE X o to)(hi:PE X i ti)(hg:PD X tget)(he:PE X e te)(hp:Px X op tip)(hs:NN X tset)
  (ha:∀ov iv new,augStore i ov iv new=(do holding [new,ov,iv] (setItem ov iv new);release [new,ov,iv] [];pure .next):=by intros;rfl):PS X (.AugAssign (.Subscript o i tpos) op e pos) (PB to ti te tget tip tset):=by
 intro pins s σ H D I h
 refine wpAny_AugAssign_SubscriptAny (dN (ho pins s σ H _ I h) fun ov s1 ⟨x1,H1,I1,r1,q1⟩=> ?_) ha
 refine dN (hi pins s1 σ H1 _ I1 q1) fun iv s2 ⟨x2,H2,I2,r2,q2⟩=> ?_
 refine dN (hg pins s2 σ H2 x1 x2 ov iv _ I2 r1 r2 q2) fun old s3 ⟨x3,H3,I3,r3,q3⟩=> ?_
 refine dN (he pins s3 σ H3 _ I3 q3) fun v s4 ⟨x4,H4,I4,r4,q4⟩=> ?_
 refine dN (hp pins s4 σ H4 x3 x4 old v _ I4 r3 r4 q4) fun new s5 ⟨x5,H5,I5,r5,q5⟩=> ?_
 exact dN (hs pins s5 σ H5 x1 x2 x5 ov iv new _ I5 r1 r2 r5 q5) fun _ s6 ⟨H6,I6,q6⟩=>⟨σ,H6,I6,q6⟩
def RM(f:Int->Int->Int):NO:=fun x y H Q=>∃i j,x= .int i/\y= .int j/\Q (.int (f i j)) H
theorem FY:Px X .Add (RM fun i j=>i+j):=by
 intro pins s σ H x y v u Q I r1 r2 h
 obtain⟨i,j,e1,e2,q⟩:=h
 subst e1;subst e2
 obtain⟨t,rfl⟩:=r1
 obtain⟨t',rfl⟩:=r2
 exact iadd_int ⟨.int _,H,I.tok _,⟨_,rfl⟩,q⟩
theorem Kc:Px X .Sub (RM fun i j=>i - j):=by
 intro pins s σ H x y v u Q I r1 r2 h
 obtain⟨i,j,e1,e2,q⟩:=h
 subst e1;subst e2
 obtain⟨t,rfl⟩:=r1
 obtain⟨t',rfl⟩:=r2
 exact isub_int ⟨.int _,H,I.tok _,⟨_,rfl⟩,q⟩
end
section
variable {X:Cx}{pos:Pos}
def NR(c:TT)(tb:TS):TS:=fun D σ H=>∃W:Nat->St->Hp->Prop,(∃m,W m σ H)/\∀m σ H,W m σ H->
 c σ H fun b H1=>if b=true then ∃N:St->Hp->Prop,(∀σ' H',N σ' H'->∃m',m' <m/\W m' σ' H')/\tb {D with nx:=N,ct:=N,bk:=D.nx} σ H1 else D.nx σ H1
theorem tx{c:Expr}{body:List Stmt}{tc:TT}{tb:TS}(hp:PassesOwn (model X.prog X.w) X.A X.env X.xe)(hc:PT X c tc)(hb:FT X body tb):PS X (.While c body [] pos) (NR tc tb):=by
 intro pins s σ H D I h
 obtain⟨W,⟨m0,w0⟩,turn⟩:=h
 refine wpAny_While (codeAny_whileLoop (fun n s'=>∃σ' H',Inv X pins σ' H' s'/\W n σ' H') ?_ m0 ⟨σ,H,I,w0⟩)
 rintro n s1 ⟨σ1,H1,I1,w1⟩
 refine wpAny_passesOwn hp (dN (hc pins s1 σ1 H1 _ I1 (turn n σ1 H1 w1)) fun b s2 ⟨H2,I2,q2⟩=> ?_)
 cases b with
 |true=>
  obtain⟨N,hN,q2⟩:=q2
  rw[if_pos rfl]
  refine wpAny_passesOwn hp (dN (hb pins s2 σ1 H2 _ I2 q2) fun f s3 q3=> ?_)
  cases f with
  |next=>
   obtain⟨σ3,H3,I3,n3⟩:=q3
   obtain⟨m',hm,w3⟩:=hN σ3 H3 n3
   exact⟨m',hm,σ3,H3,I3,w3⟩
  |cont=>
   obtain⟨σ3,H3,I3,n3⟩:=q3
   obtain⟨m',hm,w3⟩:=hN σ3 H3 n3
   exact⟨m',hm,σ3,H3,I3,w3⟩
  |brk=>exact q3
  |ret v=>exact q3
 |false=>
  rw[if_neg Bool.false_ne_true]
  exact wpAny_execs_nil ⟨σ1,H2,I2,q2⟩
end
structure It where
 go:Nat->Hp->Prop
 O7:Nat->Hp->V->Hp->Prop
 stop:Nat->Hp->Prop
def xO(X:Cx)(pins:List (Addr×Obj))(H:Hp)(b:Addr):Prop:=
 H b=none/\b≠X.env.locals/\b∉X.fs/\(b∈X.ex\/X.Bm.heap.objs.size<=b)/\(∀x c,X.env.cells.lookup x=some c->c≠b)/\∀p∈X.pn ++ pins,p.1≠b
theorem Inv.IG{X:Cx}{pins:List (Addr×Obj)}{σ:St}{H H':Hp}{s:Shared}{b:Addr}(I:Inv X pins σ H s)(hb:s.heap.objs.size<=b)(hn:H' b=none):xO X pins H' b:=by
 refine⟨hn,Nat.ne_of_gt (Nat.lt_of_lt_of_le I.lt hb),I.QT hb,.inr (Nat.le_trans I.sz hb),fun x c e z=> ?_,fun p hp z=> ?_⟩
 ·obtain⟨v,q⟩:=I.cell x c e
  exact absurd (Nat.lt_of_lt_of_le q.lt (by rw[z];exact hb)) (Nat.lt_irrefl _)
 ·exact absurd (Nat.lt_of_lt_of_le (Heap.lt_size (I.pin p hp).1) (by rw[z];exact hb)) (Nat.lt_irrefl _)
structure Turn(P:Program)(w:World)(K:PySem.W.Frag)(tg:Expr)(J:It)(fp:List Addr)(it:Addr)(tn:Nat->Heap->Prop):Prop where
 mem:it∈fp
 obj:∀i h,tn i h->∀b∈fp,∃o,h.get? b=some o/\∀v,o.data≠.cell v
 keep:∀i h h',tn i h->(∀b∈fp,∀o,h.get? b=some o->h'.get? b=some o)->tn i h'
 item:∀(X:Cx),X.prog=P->X.w=w->X.K=K->X.calm=true->∀(i:Nat) (pins:List (Addr×Obj)) (s:Shared) (σ:St) (H:Hp) (E:Value->Shared->Prop),Inv X pins σ H s->(∀b∈fp,xO X pins H b)->tn i s.heap->J.go i H->
  wpAny (model P w) X.A (pyNext (.ref it)) (fun r s1=>∃u,r=some u/\
   wpAny (model P w) X.A (letOwnedTupleGo tg (.ref it) u) (fun _ s2=>∃x H',Inv X pins σ H' s2/\RelV x u/\J.O7 i H x H'/\tn (i+1) s2.heap/\∀b∈fp,H' b=none) E s1) E s
 done:∀(X:Cx),X.prog=P->X.w=w->X.K=K->X.calm=true->∀(i:Nat) (pins:List (Addr×Obj)) (s:Shared) (σ:St) (H:Hp) (E:Value->Shared->Prop),Inv X pins σ H s->(∀b∈fp,xO X pins H b)->tn i s.heap->J.stop i H->
  wpAny (model P w) X.A (pyNext (.ref it)) (fun r s1=>r=none/\Inv X pins σ H s1) E s
 self:∀(A:Around) (i:Nat) (s:Shared) (Q:Value->Shared->Prop) (E:Value->Shared->Prop),tn i s.heap->Q (.ref it) s->wpAny (model P w) A (pyIter (.ref it)) Q E s
abbrev TI:=St->Hp->(It->Hp->Prop)->Prop
def Q2(X:Cx)(pins:List (Addr×Obj))(σ:St)(tg:Expr)(R:It->Hp->Prop)(itv:Value)(s2:Shared):Prop:=
 ∃(it:Addr) (fp:List Addr) (tn:Nat->Heap->Prop) (J:It) (H':Hp),itv= .ref it/\Inv X pins σ H' s2/\Turn X.prog X.w X.K tg J fp it tn/\tn 0 s2.heap/\(∀b∈fp,xO X pins H' b)/\R J H'
def PI(X:Cx)(tg iter:Expr)(wi:TI):Prop:=
 ∀(pins:List (Addr×Obj)) (s:Shared) (σ:St) (H:Hp) (R:It->Hp->Prop),Inv X pins σ H s->wi σ H R->
  wpAny (model X.prog X.w) X.A (eval iter X.env) (fun v s1=>wpAny (model X.prog X.w) X.A (pyIter v) (Q2 X pins σ tg R) X.xe s1) X.xe s
theorem Hn{M:Model}{A:Around}{E:Value->Shared->Prop}{s:Shared}{tg:Expr}{it:Addr}{u:Value}{o:Obj}{n:String}{vs:Array Value}{Q:Unit->Shared->Prop}(ho:s.heap.get? it=some o)(hc:o.cls= .type n)(hd:o.data= .fields vs)
  (hn:["enumerate","zip","dict_itemiterator","dict_reverseitemiterator","odict_iterator","itertools.zip_longest","itertools.pairwise"].contains n=false) (hQ:Q () s):wpAny M A (letOwnedTupleGo tg (.ref it) u) Q E s:=by
 unfold letOwnedTupleGo
 cases tg <;>first
  |exact wpAny_pure hQ
  |(cases u <;>first
    |exact wpAny_pure hQ
    |(refine wpAny_bind (wpAny_load ho ?_)
      rw[hc,hd]
      show wpAny M A (if(["enumerate","zip","dict_itemiterator","dict_reverseitemiterator","odict_iterator","itertools.zip_longest","itertools.pairwise"].contains n&&vs[0]? ==some (rawInt _))=true then _ else _) Q E s
      rw[if_neg (by intro h;rw[hn,Bool.false_and] at h;cases h)]
      exact wpAny_pure hQ))
def Q3(K:PySem.W.Frag)(a:Addr):It:=
 ⟨fun i H=>∃xs x,hZ K H a xs/\xs[i]? =some x,fun i H x H'=>H'=H/\∀xs,hZ K H a xs->xs[i]? =some x,fun i H=>∃xs,hZ K H a xs/\xs.length<=i⟩
def PH(lo:Int)(n:Nat):It:=⟨fun i _=>i<n,fun i H x H'=>H'=H/\x= .int (lo+i),fun i _=>n<=i⟩
theorem IH{P:Program}{w:World}{K:PySem.W.Frag}{tg:Expr}(a it:Addr):Turn P w K tg (Q3 K a) [it] it (fun i h=>h.IsListIter it a i) where
 mem:=by simp
 obj:=fun i h st b hb=>by
  have e:b=it:=by simpa using hb
  subst e
  obtain⟨o,e,c,d⟩:=st
  exact⟨o,e,fun v z=>by rw[d] at z;cases z⟩
 keep:=fun i h h' st k=>st.at fun o e=>k it (by simp) o e
 item:=by
  intro X hP hw hK hc i pins s σ H E I hf st hg
  subst hP hw hK
  obtain⟨xs,x,hq,hx⟩:=hg
  obtain⟨its,rv,p,hz⟩:=I.list hq
  obtain⟨u,hu,ru⟩:=rv.get hx
  obtain⟨f0,f1,f2,f3,f4,f5⟩:=hf it (by simp)
  refine wpAny_pyNext_list_item st p.isList (x:=u) (by simpa using hu) fun h' st' sb=> ?_
  have I1:Inv X pins σ H {s with heap:=h'}:=I.turned (t':=s.toks) (fun b o hb e=>(sb.2 b hb).trans e) f0 f1 f3 f4 f5
  obtain⟨o,e,c,d⟩:=id st'
  exact⟨u,rfl,Hn (s:={s with heap:=h'}) e c d (by decide) ⟨x,H,I1,ru,⟨rfl,fun ys hy=>by rw[I.oZ hy hq];exact hx⟩,st',fun b hb=>(hf b hb).1⟩⟩
 done:=by
  intro X hP hw hK hc i pins s σ H E I hf st hg
  subst hP hw hK
  obtain⟨xs,hq,hx⟩:=hg
  obtain⟨its,rv,p,hz⟩:=I.list hq
  obtain⟨f0,f1,f2,f3,f4,f5⟩:=hf it (by simp)
  have hl:=rv.length
  exact wpAny_pyNext_list_end (I.ok.hd hc) st p.isList (by simp;lia) fun h' eb=>⟨rfl,I.turned (t':=s.toks) (fun b o hb e=>eb b o hb e) f0 f1 f3 f4 f5⟩
 self:=fun _ _ _ _ _ st h=>wpAny_pyIter_listiter st h
theorem FZ{P:Program}{w:World}{K:PySem.W.Frag}{tg:Expr}(it:Addr)(lo:Int)(n:Nat):Turn P w K tg (PH lo n) [it] it (fun i h=>IsRangeIter h it (lo+(i:Nat)*1) ((n:Int) - (i:Nat)) 1) where
 mem:=by simp
 obj:=fun i h st b hb=>by
  have e:b=it:=by simpa using hb
  subst e
  exact⟨_,st,fun v z=>by
   have z':Data.fields _=Data.cell v:=z
   cases z'⟩
 keep:=fun i h h' st k=>k it (by simp) _ st
 item:=by
  intro X hP hw hK hc i pins s σ H E I hf st hg
  subst hP hw hK
  obtain⟨f0,f1,f2,f3,f4,f5⟩:=hf it (by simp)
  have W:=Walks.range (prog:=X.prog) (w:=X.w) (I.ok.hd hc) it lo 1 n
  refine W.item i s _ _ hg st fun v h' tk hv st' kk=> ?_
  obtain⟨t,rfl⟩:=hv
  have I1:Inv X pins σ H {s with heap:=h',toks:=tk}:=I.turned (fun b o hb e=>kk b o (by simpa using hb) e) f0 f1 f3 f4 f5
  refine⟨_,rfl,Hn (s:={s with heap:=h',toks:=tk}) (n:="range_iterator") st' rfl rfl (by decide) ⟨.int (lo+i),H,I1,⟨t,?_⟩,⟨rfl,rfl⟩,st',fun b hb=>(hf b hb).1⟩⟩
  rw[Int.mul_one]
 done:=by
  intro X hP hw hK hc i pins s σ H E I hf st hg
  subst hP hw hK
  obtain⟨f0,f1,f2,f3,f4,f5⟩:=hf it (by simp)
  exact wpAny_pyNext_range_end (I.ok.hd hc) st (by have:n<=i:=hg;lia) fun h' eb=>⟨rfl,I.turned (t':=s.toks) (fun b o hb e=>eb b o hb e) f0 f1 f3 f4 f5⟩
 self:=fun _ _ _ _ _ st h=>wpAny_pyIter_rangeiter st h
section
variable {X:Cx}{tg:Expr}
def PJ(K:PySem.W.Frag)(tl:TE):TI:=fun σ H R=>tl σ H fun x H1=>∃a,x= .ref a/\(∃xs,hZ K H1 a xs)/\R (Q3 K a) H1
theorem bS{l:Expr}{tl:TE}(hl:PE X l tl):PI X tg l (PJ X.K tl):=by
 intro pins s σ H R I h
 refine dN (hl pins s σ H _ I h) fun v s1 ⟨x,H1,I1,r1,q1⟩=> ?_
 obtain⟨a,e,⟨xs,hq⟩,q⟩:=q1
 subst e
 cases r1
 obtain⟨its,rv,p,hz⟩:=I1.list hq
 refine wpAny_pyIter_list p.isList ?_
 refine⟨s1.heap.objs.size,[s1.heap.objs.size],_,_,H1,rfl,I1.kept (t':=s1.toks) fun b o e=>Heap.get?_push_of_some _ e,IH a _,⟨_,Heap.get?_push_size _ rfl,rfl,rfl⟩,fun b hb=> ?_,q⟩
 have e:b=s1.heap.objs.size:=by simpa using hb
 subst e
 exact I1.IG (Nat.le_refl _) (I1.dP.fresh (Nat.le_refl _))
theorem DY{pins:List (Addr×Obj)}{σ:St}{H:Hp}{s:Shared}{R:It->Hp->Prop}{E:Value->Shared->Prop}{lo hi:Int}{t u v:Tok}{tk:Nat}(I:Inv X pins σ H s)(h1: -(2^62)<=lo)(h2:lo<2^62)(h3: -(2^62)<=hi)(h4:hi<2^62)
  (q:R (PH lo (hi - lo).toNat) H):wpAny (model X.prog X.w) X.A (pyIter (.ref s.heap.objs.size)) (Q2 X pins σ tg R) E {s with heap:=s.heap.push {cls:= .type "range",data:= .fields #[.int lo t,.int hi u,.int 1 v]},toks:=tk}:=by
 refine wpAny_pyIter_range (IsRange.new ..) (small_one h1 h2 h3 h4) ?_
 have I1:Inv X pins σ H {s with heap:=s.heap.push {cls:= .type "range",data:= .fields #[.int lo t,.int hi u,.int 1 v]},toks:=tk}:=I.kept fun b o e=>Heap.get?_push_of_some _ e
 refine⟨(s.heap.push {cls:= .type "range",data:= .fields #[.int lo t,.int hi u,.int 1 v]}).objs.size,[(s.heap.push {cls:= .type "range",data:= .fields #[.int lo t,.int hi u,.int 1 v]}).objs.size],_,_,H,rfl,
  I1.kept (t':=tk) fun b o e=>Heap.get?_push_of_some _ e,FZ _ lo (hi - lo).toNat,?_,fun b hb=> ?_,q⟩
 ·have e1:lo+((0:Nat):Int)*1=lo:=by simp
  have e2:(((hi - lo).toNat:Nat):Int) - ((0:Nat):Int)=Builtin.Range.rangeSize lo hi 1:=by rw[rangeSize_one];split <;>lia
  show IsRangeIter _ _ (lo+((0:Nat):Int)*1) ((((hi - lo).toNat:Nat):Int) - ((0:Nat):Int)) 1
  rw[e1,e2]
  exact Heap.get?_push_size _ rfl
 ·have e:b=(s.heap.push {cls:= .type "range",data:= .fields #[.int lo t,.int hi u,.int 1 v]}).objs.size:=by simpa using hb
  subst e
  exact I1.IG (Nat.le_refl _) (I1.dP.fresh (Nat.le_refl _))
def PK(ta:TA):TI:=fun σ H R=>ta σ H fun vs H1=>∃j:Int,vs=[.int j]/\-(2^62)<=j/\j<2^62/\R (PH 0 j.toNat) H1
def PL(ta:TA):TI:=fun σ H R=>ta σ H fun vs H1=>∃i j:Int,vs=[.int i,.int j]/\(-(2^62)<=i/\i<2^62/\-(2^62)<=j/\j<2^62)/\R (PH i (j - i).toNat) H1
theorem jw{a:Expr}{ta:TA}{p pos:Pos}(hg:Gl X "range")(hm:X.mg "range"=none)(ha:PA X [a] ta)(hs:starEach [a] X.env=[(false,eval a X.env)]:=by rfl):PI X tg (.Call (.Name "range" p) [a] [] pos) (PK ta):=by
 intro pins s σ H R I h
 refine Call_ (oY I hg hm boot_range (PyProof.Rows.callWith_type1 (dN (ha pos pins s σ H _ I h) fun us s1 ⟨vs,H1,I1,r1,q1⟩=> ?_) hs rfl))
 obtain⟨j,e,q1,q2,q⟩:=q1
 subst e
 cases r1 with
 |cons r rr=>
  cases rr
  obtain⟨t,rfl⟩:=r
  exact call_range_1 (DY I1 (by lia) (by lia) q1 q2 (by simpa using q))
theorem Bo{a b:Expr}{ta:TA}{p pos:Pos}(hg:Gl X "range")(hm:X.mg "range"=none)(ha:PA X [a,b] ta)(hs:starEach [a,b] X.env=[(false,eval a X.env),(false,eval b X.env)]:=by rfl)(hs2:starEach [b] X.env=[(false,eval b X.env)]:=by rfl):
  PI X tg (.Call (.Name "range" p) [a,b] [] pos) (PL ta):=by
 intro pins s σ H R I h
 refine Call_ (oY I hg hm boot_range (PyProof.Rows.callWith_type1 (dN (ha pos pins s σ H _ I h) fun us s1 ⟨vs,H1,I1,r1,q1⟩=> ?_) (by rw[hs,hs2]) (by rw[hs2];rfl)))
 obtain⟨i,j,e,⟨q1,q2,q3,q4⟩,q⟩:=q1
 subst e
 cases r1 with
 |cons r rr=>
  cases rr with
  |cons r' rr=>
   cases rr
   obtain⟨t,rfl⟩:=r
   obtain⟨t',rfl⟩:=r'
   exact call_range_2 (DY I1 q1 q2 q3 q4 q)
def Q4(wi:TI)(g:TG)(tb:TS):TS:=fun D σ H=>wi σ H fun J H1=>∃W:Nat->Nat->St->Hp->Prop,(∃m,W 0 m σ H1)/\∀i m σ H,W i m σ H->
 (J.stop i H/\D.nx σ H)\/(J.go i H/\∃N:St->Hp->Prop,(∀σ' H',N σ' H'->∃m',m' <m/\W (i+1) m' σ' H')/\∀x H',J.O7 i H x H'->g x σ H' fun σ2 H2=>tb {D with nx:=N,ct:=N,bk:=D.nx} σ2 H2)
def yH(fp:List Addr)(h:Heap):List (Addr×Obj):=fp.filterMap fun b=>(h.get? b).map fun o=>(b,o)
theorem rJ{fp:List Addr}{h:Heap}{b:Addr}{o:Obj}(hb:b∈fp)(e:h.get? b=some o):(b,o)∈yH fp h:=List.mem_filterMap.mpr ⟨b,hb,by rw[e];rfl⟩
theorem II{fp:List Addr}{h:Heap}{p:Addr×Obj}(hp:p∈yH fp h):p.1∈fp/\h.get? p.1=some p.2:=by
 obtain⟨b,hb,e⟩:=List.mem_filterMap.mp hp
 cases q:h.get? b with
 |none=>rw[q] at e;cases e
 |some o=>
  rw[q] at e
  have e':(b,o)=p:=Option.some.inj e
  subst e'
  exact⟨hb,q⟩
theorem Inv.pinned{pins:List (Addr×Obj)}{σ:St}{H:Hp}{s:Shared}{fp:List Addr}(I:Inv X pins σ H s)(hf:∀b∈fp,xO X pins H b)(ho:∀b∈fp,∃o,s.heap.get? b=some o/\∀v,o.data≠.cell v):Inv X (pins ++ yH fp s.heap) σ H s:=
 I.Hk fun p hp=>(List.mem_append.mp hp).elim (fun z=>I.pin p (List.mem_append_right _ z)) fun z=>by
  obtain⟨hb,e⟩:=II z
  obtain⟨f0,f1,f2,_⟩:=hf p.1 hb
  obtain⟨o,e',d⟩:=ho p.1 hb
  rw[e] at e';cases e'
  exact⟨e,f0,f1,f2,d⟩
theorem Inv.tF{pins pl:List (Addr×Obj)}{σ:St}{H:Hp}{s:Shared}(I:Inv X (pins ++ pl) σ H s):Inv X pins σ H s:=I.Hk fun p hp=>I.pin p (List.mem_append_right _ (List.mem_append_left _ hp))
theorem c9{iter:Expr}{body:List Stmt}{wi:TI}{g:TG}{tb:TS}{pos:Pos}(hp:PassesOwn (model X.prog X.w) X.A X.env X.xe)(hc:X.calm=true)(hi:PI X tg iter wi)(hg:PG X tg g)(hb:FT X body tb)
  (hs:∀x,foldedSetIterable iter X.env x=pure x:=by intro _;rfl):PS X (.For tg iter body [] pos) (Q4 wi g tb):=by
 intro pins s σ H D I h
 refine wpAny_For (dN (hi pins s σ H _ I h) fun v s1 h1=>dN h1 fun itv s2 h2=> ?_) hs
 obtain⟨it,fp,tn,J,H2,e,I2,T,st2,f2,W,⟨m0,w0⟩,turn⟩:=h2
 subst e
 have stat:∀{H':Hp},(∀b∈fp,H' b=none)->∀b∈fp,xO X pins H' b:=fun hn b hb=>⟨hn b hb,(f2 b hb).2⟩
 refine codeAny_forLoop_any (fun n s'=>∃i σ' H',Inv X pins σ' H' s'/\tn i s'.heap/\(∀b∈fp,H' b=none)/\W i n σ' H') ?_ m0 ⟨0,σ,H2,I2,st2,fun b hb=>(f2 b hb).1,w0⟩
 rintro n s3 ⟨i,σ3,H3,I3,st3,fr3,w3⟩
 rcases turn i n σ3 H3 w3 with⟨stop,qn⟩ |⟨go,N,hN,step⟩
 ·refine wpAny_passesOwn hp (dN (T.done X rfl rfl rfl hc i pins s3 σ3 H3 X.xe I3 (stat fr3) st3 stop) fun r s4 ⟨hr,I4⟩=> ?_)
  subst hr
  exact wpAny_execs_nil ⟨σ3,H3,I4,qn⟩
 ·refine wpAny_passesOwn hp (dN (T.item X rfl rfl rfl hc i pins s3 σ3 H3 X.xe I3 (stat fr3) st3 go) fun r s4 ⟨u,hr,h4⟩=> ?_)
  subst hr
  refine wpAny_passesOwn hp (dN h4 fun _ s5 ⟨x,H5,I5,r5,y5,st5,fr5⟩=> ?_)
  have I5':=I5.pinned (stat fr5) (T.obj _ _ st5)
  refine wpAny_passesOwn hp (dN (hg _ s5 σ3 H5 x u _ I5' r5 (step x H5 y5)) fun _ s6 ⟨σ6,H6,I6,q6⟩=> ?_)
  refine wpAny_passesOwn hp (dN (hb _ s6 σ6 H6 _ I6 q6) fun f s7 q7=> ?_)
  have again:∀{σ7:St} {H7:Hp},Inv X (pins ++ yH fp s5.heap) σ7 H7 s7->N σ7 H7->∃m,m<n/\∃i σ' H',Inv X pins σ' H' s7/\tn i s7.heap/\(∀b∈fp,H' b=none)/\W i m σ' H':=fun{σ7 H7} I7 n7=>by
   obtain⟨m',hm,w7⟩:=hN σ7 H7 n7
   refine⟨m',hm,i+1,σ7,H7,I7.tF,T.keep _ _ _ st5 fun b hb o e=>(I7.pin (b,o) (List.mem_append_right _ (List.mem_append_right _ (rJ hb e)))).1,fun b hb=> ?_,w7⟩
   obtain⟨o,e,d⟩:=T.obj _ _ st5 b hb
   exact(I7.pin (b,o) (List.mem_append_right _ (List.mem_append_right _ (rJ hb e)))).2.1
  cases f with
  |next=>obtain⟨σ7,H7,I7,n7⟩:=q7;exact again I7 n7
  |cont=>obtain⟨σ7,H7,I7,n7⟩:=q7;exact again I7 n7
  |brk=>obtain⟨σ7,H7,I7,q7⟩:=q7;exact⟨σ7,H7,I7.tF,q7⟩
  |ret v=>obtain⟨x7,σ7,H7,I7,r7,q7⟩:=q7;exact⟨x7,σ7,H7,I7.tF,r7,q7⟩
end
abbrev R2:=V->V->Hp->VK->Prop
def tH(X:Cx)(f:Value->Value->Sem Value)(r:R2):Prop:=
 ∀(pins:List (Addr×Obj)) (s:Shared) (σ:St) (H:Hp) (x y:V) (v u:Value) (Q:VK),Inv X pins σ H s->RelV x v->RelV y u->r x y H Q->
  wpAny (model X.prog X.w) X.A (f v u) (EP X pins σ Q) X.xe s
def Q5(X:Cx)(f:Value->Sem Value)(r:V->Hp->VK->Prop):Prop:=
 ∀(pins:List (Addr×Obj)) (s:Shared) (σ:St) (H:Hp) (x:V) (v:Value) (Q:VK),Inv X pins σ H s->RelV x v->r x H Q->
  wpAny (model X.prog X.w) X.A (f v) (EP X pins σ Q) X.xe s
def kW(X:Cx)(f:Value)(r:List V->Hp->VK->Prop):Prop:=
 ∀(pins:List (Addr×Obj)) (s:Shared) (σ:St) (H:Hp) (xs:List V) (us:List Value) (Q:VK),Inv X pins σ H s->Vals xs us->r xs H Q->
  wpAny (model X.prog X.w) X.A (call f us) (EP X pins σ Q) X.xe s
def Q6(X:Cx)(r:V->Hp->(Bool->Hp->Prop)->Prop):Prop:=
 ∀(pins:List (Addr×Obj)) (s:Shared) (σ:St) (H:Hp) (x:V) (v:Value) (Q:Bool->Hp->Prop),Inv X pins σ H s->RelV x v->r x H Q->
  wpAny (model X.prog X.w) X.A (truthy v) (TP X pins σ Q) X.xe s
def Nf(r:R2)(ta tb:TE):TE:=fun σ H Q=>ta σ H fun x H1=>tb σ H1 fun y H2=>r x y H2 Q
def RN(r:V->Hp->VK->Prop)(ta:TE):TE:=fun σ H Q=>ta σ H fun x H1=>r x H1 Q
def rI(C:Int->Int->Prop)(g:Int->Int->V):R2:=fun x y H Q=>∃i j,x= .int i/\y= .int j/\C i j/\Q (g i j) H
def L1(g:Int->Int->V):R2:=fun x y H Q=>∃i j,x= .int i/\y= .int j/\Q (g i j) H
def rU(g:Int->V):V->Hp->VK->Prop:=fun x H Q=>∃i,x= .int i/\Q (g i) H
section
variable {X:Cx}{a b c:Expr}{ta tb tc:TE}{pos:Pos}
theorem NT(ha:PE X a ta)(hb:PE X b tb){pins:List (Addr×Obj)}{s:Shared}{σ:St}{H:Hp}{R:V->V->Hp->Prop}(I:Inv X pins σ H s)
  (h:ta σ H fun x H1=>tb σ H1 fun y H2=>R x y H2) {Q:Value->Shared->Prop} {f:Value->Value->Sem Value}
  (hf:∀v u s2 x y H2,Inv X pins σ H2 s2->RelV x v->RelV y u->R x y H2->wpAny (model X.prog X.w) X.A (f v u) Q X.xe s2):
  wpAny (model X.prog X.w) X.A (eval a X.env) (fun v s₁=>wpAny (model X.prog X.w) X.A (eval b X.env) (fun u s₂=>wpAny (model X.prog X.w) X.A (f v u) Q X.xe s₂) X.xe s₁) X.xe s:=by
 refine dN (ha pins s σ H _ I h) fun v s1 ⟨x,H1,I1,r1,q1⟩=> ?_
 refine dN (hb pins s1 σ H1 _ I1 q1) fun u s2 ⟨y,H2,I2,r2,q2⟩=> ?_
 exact hf v u s2 x y H2 I2 r1 r2 q2
theorem bu{op:Operator}{r:R2}(ho:tH X (binaryOp op) r)(ha:PE X a ta)(hb:PE X b tb):PE X (.BinOp a op b pos) (Nf r ta tb):=by
 intro pins s σ H Q I h
 exact wpAny_BinOp (NT ha hb I h fun v u s2 x y H2 I2 rx ry q=>ho pins s2 σ H2 x y v u Q I2 rx ry q)
theorem gN{op:UnaryOp}{r:V->Hp->VK->Prop}(ho:Q5 X (unaryOp op) r)(ha:PE X a ta):PE X (.UnaryOp op a pos) (RN r ta):=by
 intro pins s σ H Q I h
 exact UnaryOp_ (dN (ha pins s σ H _ I h) fun v s1 ⟨x,H1,I1,r1,q1⟩=>ho pins s1 σ H1 x v Q I1 r1 q1)
theorem Q7{f:Value->Value->Sem Value}{C:Int->Int->Prop}{g:Int->Int->Int}
  (rule:∀(i j:Int) (t u:Tok) (s:Shared) (Q:Value->Shared->Prop) (E:Value->Shared->Prop),C i j->Q (.int (g i j) s.toks) {s with toks:=s.toks+1}->wpAny (model X.prog X.w) X.A (f (.int i t) (.int j u)) Q E s):
  tH X f (rI C fun i j=> .int (g i j)):=by
 intro pins s σ H x y v u Q I rx ry h
 obtain⟨i,j,rfl,rfl,hc,q⟩:=h
 obtain⟨t,rfl⟩:=rx
 obtain⟨t',rfl⟩:=ry
 exact rule i j t t' s _ _ hc ⟨.int (g i j),H,I.tok _,⟨_,rfl⟩,q⟩
theorem PM{f:Value->Value->Sem Value}{g:Int->Int->Int}
  (rule:∀(i j:Int) (t u:Tok) (s:Shared) (Q:Value->Shared->Prop) (E:Value->Shared->Prop),Q (.int (g i j) s.toks) {s with toks:=s.toks+1}->wpAny (model X.prog X.w) X.A (f (.int i t) (.int j u)) Q E s):
  tH X f (L1 fun i j=> .int (g i j)):=by
 intro pins s σ H x y v u Q I rx ry h
 obtain⟨i,j,rfl,rfl,q⟩:=h
 obtain⟨t,rfl⟩:=rx
 obtain⟨t',rfl⟩:=ry
 exact rule i j t t' s _ _ ⟨.int (g i j),H,I.tok _,⟨_,rfl⟩,q⟩
theorem L8{f:Value->Value->Sem Value}{g:Int->Int->Bool}
  (rule:∀(i j:Int) (t u:Tok) (s:Shared) (Q:Value->Shared->Prop) (E:Value->Shared->Prop),Q (.bool (g i j)) s->wpAny (model X.prog X.w) X.A (f (.int i t) (.int j u)) Q E s):
  tH X f (L1 fun i j=> .bl (g i j)):=by
 intro pins s σ H x y v u Q I rx ry h
 obtain⟨i,j,rfl,rfl,q⟩:=h
 obtain⟨t,rfl⟩:=rx
 obtain⟨t',rfl⟩:=ry
 exact rule i j t t' s _ _ ⟨.bl (g i j),H,I,rfl,q⟩
theorem gO:tH X (binaryOp .Add) (L1 fun i j=> .int (i+j)):=PM fun _ _ _ _ _ _ _ q=>add_int q
theorem jF:tH X (binaryOp .Sub) (L1 fun i j=> .int (i - j)):=PM fun _ _ _ _ _ _ _ q=>sub_int q
theorem Kd:tH X (binaryOp .Mod) (rI (fun _ j=>0<j) fun i j=> .int (i % j)):=Q7 fun i j _ _ _ _ _ hc q=>by
 have h1:(0:Int)<j:=hc
 exact mod_int' (by lia) (by rw[Int.fmod_eq_emod_of_nonneg i (by lia)];exact q)
theorem R3{f:Value->Sem Value}{g:Int->Int}
  (rule:∀(i:Int) (t:Tok) (s:Shared) (Q:Value->Shared->Prop) (E:Value->Shared->Prop),Q (.int (g i) s.toks) {s with toks:=s.toks+1}->wpAny (model X.prog X.w) X.A (f (.int i t)) Q E s):
  Q5 X f (rU fun i=> .int (g i)):=by
 intro pins s σ H x v Q I rx h
 obtain⟨i,rfl,q⟩:=h
 obtain⟨t,rfl⟩:=rx
 exact rule i t s _ _ ⟨.int (g i),H,I.tok _,⟨_,rfl⟩,q⟩
theorem eC:Q5 X (unaryOp .USub) (rU fun i=> .int (-i)):=R3 fun _ _ _ _ _ q=>neg_int q
end
def PN:V->V->Bool
 | .gr,.gr=>true | .gr,.int _=>true | .int _,.gr=>true | .gr,.bl _=>true | .bl _,.gr=>true | .gr,.str _=>true | .str _,.gr=>true
 | .int _,.int _=>true | .bl _,.bl _=>true | .str _,.str _=>true | .Cj _,.Cj _=>true
 | .int _,.str _=>true | .str _,.int _=>true | .bl _,.str _=>true | .str _,.bl _=>true
 |_,_=>false
def R4:R2:=fun x y H Q=>PN x y=true/\Q (.bl (decide (x=y))) H
def R5:R2:=fun x y H Q=>PN x y=true/\Q (.bl (!decide (x=y))) H
theorem Ho{i j:Int}:decide (V.int i=V.int j)=(i==j):=by
 rw[Bool.eq_iff_iff]
 simp
theorem Ke{i j:Bool}:decide (V.bl i=V.bl j)=(i==j):=by
 rw[Bool.eq_iff_iff]
 simp
theorem Hq{i j:Str}:decide (V.str i=V.str j)=(i==j):=by
 rw[Bool.eq_iff_iff]
 simp
theorem Hr{i j:Array UInt8}:decide (V.Cj i=V.Cj j)=(i.toList==j.toList):=by
 rw[Bool.eq_iff_iff]
 cases i
 cases j
 simp
section
variable {X:Cx}{a b c:Expr}{ta tb tc:TE}{pos:Pos}
theorem bY{pins:List (Addr×Obj)}{σ:St}{H:Hp}{s:Shared}{Q:VK}{k k':Bool}(I:Inv X pins σ H s)(q:Q (.bl k) H)(e:k=k'):EP X pins σ Q (.bool k') s:=by
 subst e
 exact⟨.bl k,H,I,rfl,q⟩
theorem dX:tH X (compareOp .Eq) R4:=by
 intro pins s σ H x y v u Q I rx ry h
 obtain⟨hs,q⟩:=h
 cases x with
 |gr=>
  cases rx
  cases y with
  |gr=>cases ry;exact PySem.EqNone.eq_none_none (bY I q (by simp))
  |bl j=>cases ry;exact PySem.EqNone.eq_none_bool (bY I q (by simp))
  |int j=>obtain⟨t',rfl⟩:=ry;exact PySem.EqNone.eq_none_int (bY I q (by simp))
  |str j=>obtain⟨t',rfl⟩:=ry;exact PySem.EqNone.eq_none_str (bY I q (by simp))
  |_=>exact absurd (show false=true from hs) Bool.false_ne_true
 |bl i=>
  cases rx
  cases y with
  |gr=>cases ry;exact PySem.EqNone.eq_bool_none (bY I q (by simp))
  |bl j=>cases ry;exact eq_bool (bY I q Ke)
  |str j=>obtain⟨t',rfl⟩:=ry;exact PySem.EqMixed.eq_bool_str (bY I q (by simp))
  |_=>exact absurd (show false=true from hs) Bool.false_ne_true
 |int i=>
  obtain⟨t,rfl⟩:=rx
  cases y with
  |gr=>cases ry;exact PySem.EqNone.eq_int_none (bY I q (by simp))
  |int j=>obtain⟨t',rfl⟩:=ry;exact eq_int (bY I q Ho)
  |str j=>obtain⟨t',rfl⟩:=ry;exact PySem.EqMixed.eq_int_str (bY I q (by simp))
  |_=>exact absurd (show false=true from hs) Bool.false_ne_true
 |str i=>
  obtain⟨t,rfl⟩:=rx
  cases y with
  |gr=>cases ry;exact PySem.EqNone.eq_str_none (bY I q (by simp))
  |bl j=>cases ry;exact PySem.EqMixed.eq_str_bool (bY I q (by simp))
  |int j=>obtain⟨t',rfl⟩:=ry;exact PySem.EqMixed.eq_str_int (bY I q (by simp))
  |str j=>obtain⟨t',rfl⟩:=ry;exact eq_str (bY I q Hq)
  |_=>exact absurd (show false=true from hs) Bool.false_ne_true
 |Cj i=>
  obtain⟨t,rfl⟩:=rx
  cases y with
  |Cj j=>obtain⟨t',rfl⟩:=ry;exact PySem.W.eq_bytes (bY I q Hr)
  |_=>exact absurd (show false=true from hs) Bool.false_ne_true
 |_=>cases y <;>exact absurd (show false=true from hs) Bool.false_ne_true
theorem xh:tH X (compareOp .NotEq) R5:=by
 intro pins s σ H x y v u Q I rx ry h
 obtain⟨hs,q⟩:=h
 cases x with
 |gr=>
  cases rx
  cases y with
  |gr=>cases ry;exact PySem.EqNone.ne_none_none (bY I q (by simp))
  |bl j=>cases ry;exact PySem.EqNone.ne_none_bool (bY I q (by simp))
  |int j=>obtain⟨t',rfl⟩:=ry;exact PySem.EqNone.ne_none_int (bY I q (by simp))
  |str j=>obtain⟨t',rfl⟩:=ry;exact PySem.EqNone.ne_none_str (bY I q (by simp))
  |_=>exact absurd (show false=true from hs) Bool.false_ne_true
 |bl i=>
  cases rx
  cases y with
  |gr=>cases ry;exact PySem.EqNone.ne_bool_none (bY I q (by simp))
  |bl j=>cases ry;exact ne_bool (bY I q (congrArg not Ke))
  |str j=>obtain⟨t',rfl⟩:=ry;exact PySem.EqMixed.ne_bool_str (bY I q (by simp))
  |_=>exact absurd (show false=true from hs) Bool.false_ne_true
 |int i=>
  obtain⟨t,rfl⟩:=rx
  cases y with
  |gr=>cases ry;exact PySem.EqNone.ne_int_none (bY I q (by simp))
  |int j=>obtain⟨t',rfl⟩:=ry;exact ne_int (bY I q (congrArg not Ho))
  |str j=>obtain⟨t',rfl⟩:=ry;exact PySem.EqMixed.ne_int_str (bY I q (by simp))
  |_=>exact absurd (show false=true from hs) Bool.false_ne_true
 |str i=>
  obtain⟨t,rfl⟩:=rx
  cases y with
  |gr=>cases ry;exact PySem.EqNone.ne_str_none (bY I q (by simp))
  |bl j=>cases ry;exact PySem.EqMixed.ne_str_bool (bY I q (by simp))
  |int j=>obtain⟨t',rfl⟩:=ry;exact PySem.EqMixed.ne_str_int (bY I q (by simp))
  |str j=>obtain⟨t',rfl⟩:=ry;exact ne_str (bY I q (congrArg not Hq))
  |_=>exact absurd (show false=true from hs) Bool.false_ne_true
 |Cj i=>
  obtain⟨t,rfl⟩:=rx
  cases y with
  |Cj j=>obtain⟨t',rfl⟩:=ry;exact PySem.W.ne_bytes (bY I q (congrArg not Hr))
  |_=>exact absurd (show false=true from hs) Bool.false_ne_true
 |_=>cases y <;>exact absurd (show false=true from hs) Bool.false_ne_true
theorem DZ:tH X (compareOp .Lt) (L1 fun i j=> .bl (decide (i<j))):=L8 fun _ _ _ _ _ _ _ q=>lt_int q
theorem oC:tH X (compareOp .LtE) (L1 fun i j=> .bl (decide (i<=j))):=L8 fun _ _ _ _ _ _ _ q=>le_int q
theorem xi:tH X (compareOp .Gt) (L1 fun i j=> .bl (decide (j<i))):=L8 fun _ _ _ _ _ _ _ q=>gt_int q
theorem Kf:tH X (compareOp .GtE) (L1 fun i j=> .bl (decide (j<=i))):=L8 fun _ _ _ _ _ _ _ q=>ge_int q
theorem a5(b:Expr){op:CmpOp}(h:op≠.In:=by decide)(h2:op≠.NotIn:=by decide):behindInMarks op b=false:=by
 have e1:(op==CmpOp.In)=false:=by cases op <;>first |rfl |exact absurd rfl h
 have e2:(op==CmpOp.NotIn)=false:=by cases op <;>first |rfl |exact absurd rfl h2
 cases b <;>simp[behindInMarks,e1,e2]
theorem cf{op:CmpOp}{r:R2}(ho:tH X (compareOp op) r)(ha:PE X a ta)(hb:PE X b tb)(hm:behindInMarks op b=false):PE X (.Compare a [op] [b] pos) (Nf r ta tb):=by
 intro pins s σ H Q I h
 exact wpAny_Compare1 (NT ha hb I h fun v u s2 x y H2 I2 rx ry q=>ho pins s2 σ H2 x y v u Q I2 rx ry q) hm
def Kg(t:TE):TT:=fun σ H Q=>t σ H fun x H'=>∃k,x= .bl k/\Q k H'
theorem bc{op:CmpOp}{r:R2}(ho:tH X (compareOp op) r)(ha:PE X a ta)(hb:PE X b tb)(hm:behindInMarks op b=false):PT X (.Compare a [op] [b] pos) (Kg (Nf r ta tb)):=by
 intro pins s σ H Q I h
 refine wpAny_isTrue_Compare1 (dN (ha pins s σ H _ I h) fun v s1 ⟨x,H1,I1,r1,q1⟩=>dN (hb pins s1 σ H1 _ I1 q1) fun u s2 ⟨y,H2,I2,r2,q2⟩=>
  dN (ho pins s2 σ H2 x y v u _ I2 r1 r2 q2) fun c s3 ⟨z,H3,I3,r3,k,e,q3⟩=> ?_) hm
 subst e
 cases r3
 exact wpAny_truthy_bool ⟨H3,I3,q3⟩
def Kh(r r':R2)(ta tb tc:TE):TE:=fun σ H Q=>ta σ H fun x H1=>tb σ H1 fun y H2=>r x y H2 fun z H3=>∃k,z= .bl k/\
 (if k=true then tc σ H3 fun w' H4=>r' y w' H4 Q else Q (.bl false) H3)
theorem D6{op op':CmpOp}{r r':R2}(ho:tH X (compareOp op) r)(ho':tH X (compareOp op') r')(ha:PE X a ta)(hb:PE X b tb)(hc:PE X c tc)
  (hm:lastMarks [op,op'] [b,c]=false:=by with_unfolding_all rfl):PE X (.Compare a [op,op'] [b,c] pos) (Kh r r' ta tb tc):=by
 intro pins s σ H Q I h
 refine Compare_chain (dN (ha pins s σ H _ I h) fun v s1 ⟨x,H1,I1,r1,q1⟩=>chain_link (dN (hb pins s1 σ H1 _ I1 q1) fun u s2 ⟨y,H2,I2,r2,q2⟩=>
  dN (ho pins s2 σ H2 x y v u _ I2 r1 r2 q2) fun d s3 ⟨z,H3,I3,r3,k,e,q3⟩=> ?_)) hm
 subst e
 cases r3
 refine wpAny_truthy_bool ?_
 cases k with
 |false=>exact ite_ff ⟨.bl false,H3,I3,rfl,q3⟩
 |true=>exact ite_tt (chain_last (dN (hc pins s3 σ H3 _ I3 q3) fun w' s4 ⟨z',H4,I4,r4,q4⟩=>ho' pins s4 σ H4 y z' u w' Q I4 r2 r4 q4))
theorem D7{op op':CmpOp}{r r':R2}(ho:tH X (compareOp op) r)(ho':tH X (compareOp op') r')(ha:PE X a ta)(hb:PE X b tb)(hc:PE X c tc)
  (hm:lastMarks [op,op'] [b,c]=false:=by with_unfolding_all rfl):PT X (.Compare a [op,op'] [b,c] pos) (Kg (Kh r r' ta tb tc)):=by
 intro pins s σ H Q I h
 refine isTrue_chain (dN (ha pins s σ H _ I h) fun v s1 ⟨x,H1,I1,r1,q1⟩=>test_link (dN (hb pins s1 σ H1 _ I1 q1) fun u s2 ⟨y,H2,I2,r2,q2⟩=>
  dN (ho pins s2 σ H2 x y v u _ I2 r1 r2 q2) fun d s3 ⟨z,H3,I3,r3,k,e,q3⟩=> ?_)) hm
 subst e
 cases r3
 refine wpAny_truthy_bool ?_
 cases k with
 |false=>
  obtain⟨k',e',q'⟩:=q3
  cases e'
  exact ite_ff ⟨H3,I3,q'⟩
 |true=>
  refine ite_tt (test_last (dN (hc pins s3 σ H3 _ I3 q3) fun w' s4 ⟨z',H4,I4,r4,q4⟩=>dN (ho' pins s4 σ H4 y z' u w' _ I4 r2 r4 q4) fun d' s5 ⟨z2,H5,I5,r5,k2,e2,q5⟩=> ?_))
  subst e2
  cases r5
  exact wpAny_truthy_bool ⟨H5,I5,q5⟩
def L9(K:PySem.W.Frag)(x:V)(H:Hp)(k:Bool):Prop:=
 match x with
 | .gr=>k=false
 | .bl b=>k=b
 | .int i=>k=(i !=0)
 | .str y=>y.length<=sizeLine/\k=((y.length:Int) !=0)
 | .Cj y=>y.size<=sizeLine/\k=((y.size:Int) !=0)
 | .ref p=>(∃xs,hZ K H p xs/\k= !xs.isEmpty)\/(∃xs,AL K H p xs/\k= !xs.isEmpty)\/∃kvs,H p=some (.dK kvs)/\k= !kvs.isEmpty
 |_=>False
theorem F2{κ:Type}{kvs:List (κ×V)}{vs:List (κ×Value)}(r:KV kvs vs):(!vs.isEmpty)= !kvs.isEmpty:=by
 cases r <;>rfl
theorem yI{xs:List V}{its:List Value}(r:Vals xs its):(!its.toArray.isEmpty)= !xs.isEmpty:=by
 cases r <;>simp
theorem vD:(sizeLine:Nat)<2^63:=by rw[sizeLine_eq];decide
theorem NU:Q6 X (fun x H Q=>∃k,L9 X.K x H k/\Q k H):=by
 intro pins s σ H x v Q I rx h
 obtain⟨k,e,q⟩:=h
 have hl:=vD
 have hs:sizeLine=16777216:=sizeLine_eq
 cases x with
 |gr=>
  cases rx
  have e':k=false:=e
  subst e'
  exact truthy_none ⟨H,I,q⟩
 |bl b=>
  cases rx
  have e':k=b:=e
  subst e'
  exact wpAny_truthy_bool ⟨H,I,q⟩
 |int i=>
  obtain⟨t,rfl⟩:=rx
  have e':k=(i !=0):=e
  subst e'
  exact PySem.P.truthy_int ⟨H,I,q⟩
 |str y=>
  obtain⟨t,rfl⟩:=rx
  obtain⟨hy,e'⟩:y.length<=sizeLine/\k=((y.length:Int) !=0):=e
  subst e'
  exact PySem.P.truthy_str (by lia) ⟨H,I.tok _,q⟩
 |Cj y=>
  obtain⟨t,rfl⟩:=rx
  obtain⟨hy,e'⟩:y.size<=sizeLine/\k=((y.size:Int) !=0):=e
  subst e'
  exact PySem.W.truthy_bytes (by lia) ⟨H,I.tok _,q⟩
 |ref p=>
  cases rx
  have e':(∃xs,hZ X.K H p xs/\k= !xs.isEmpty)\/(∃xs,AL X.K H p xs/\k= !xs.isEmpty)\/∃kvs,H p=some (.dK kvs)/\k= !kvs.isEmpty:=e
  rcases e' with⟨xs,hx,e'⟩ |⟨xs,hx,e'⟩ |⟨kvs,hx,e'⟩
  ·subst e'
   obtain⟨its,r,pl,hz⟩:=I.list hx
   have hlen:=r.length
   exact wpAny_truthy_list pl.isList (by simp only[List.size_toArray];lia) ⟨H,I.tok _,by rw[yI r];exact q⟩
  ·subst e'
   obtain⟨its,r,pl,hz⟩:=I.tuple hx
   have hlen:=r.length
   exact truthy_tuple pl (by simp only[List.size_toArray];lia) ⟨H,I.tok _,by rw[yI r];exact q⟩
  ·subst e'
   obtain⟨hz,hS,vs,r,m⟩:kvs.length<=sizeLine/\(p==sysModules)=false/\∃vs,KV kvs vs/\s.heap.DictOf (Ci X.prog X.w) p vs:=I.dP p _ hx
   have hlen:kvs.length=vs.length:=Paired.length r
   exact wpAny_truthy_dict hS m (by lia) ⟨H,I.tok _,by rw[F2 r];exact q⟩
 |_=>exact(show False from e).elim
theorem Ki(ha:PE X a ta)(he:∀whole,isTrue a X.env whole=(do let v<-whole;standAt a.pos;holding [v] (truthy v))):
  PT X a (fun σ H Q=>ta σ H fun x H'=>∃k,L9 X.K x H' k/\Q k H'):=by
 intro pins s σ H Q I h
 exact isTrue_plain (dN (ha pins s σ H _ I h) fun v s1 ⟨x,H1,I1,r1,q1⟩=>NU pins s1 σ H1 x v Q I1 r1 q1) (he _)
theorem vals1{x:V}{us:List Value}(r:Vals [x] us):∃u,us=[u]/\RelV x u:=by
 cases r with
 |cons r1 r2=>cases r2;exact⟨_,rfl,r1⟩
theorem vals2{x y:V}{us:List Value}(r:Vals [x,y] us):∃u w',us=[u,w']/\RelV x u/\RelV y w':=by
 cases r with
 |cons r1 r2=>
  cases r2 with
  |cons r3 r4=>cases r4;exact⟨_,_,rfl,r1,r3⟩
theorem yJ:kW X (.builtin "abs") (fun xs H Q=>∃i,xs=[.int i]/\Q (.int (if i<0 then -i else i)) H):=by
 intro pins s σ H xs us Q I r h
 obtain⟨i,rfl,q⟩:=h
 obtain⟨u,rfl,t,rfl⟩:=vals1 r
 exact call_abs_int fun u tk=>⟨.int (if i<0 then -i else i),H,I.tok _,⟨_,rfl⟩,q⟩
theorem IJ(hc:X.calm=true):kW X (.builtin "max") (fun xs H Q=>∃i j,xs=[.int i,.int j]/\Q (.int (if j>i then j else i)) H):=by
 intro pins s σ H xs us Q I r h
 obtain⟨i,j,rfl,q⟩:=h
 obtain⟨u,w',rfl,⟨t,rfl⟩,⟨t',rfl⟩⟩:=vals2 r
 refine max_two_ints (I.ok.hd hc) fun h' tk k=>⟨_,H,I.kept k,?_,q⟩
 by_cases hj:j>i
 ·rw[if_pos hj,if_pos hj];exact⟨_,rfl⟩
 ·rw[if_neg hj,if_neg hj];exact⟨_,rfl⟩
end
structure IK(h:Heap)(x dx C:Addr)(mA:Str->Option Value):Prop where
 obj:h.get? x=some (PySem.W.instObj C dx)
 ns:h.Ns1 dx mA
 ne:dx≠x
theorem IL{h:Heap}{dx:Addr}{mA:Str->Option Value}(n:h.Ns1 dx mA):∃od,h.get? dx=some od/\∀name,PySem.W.lookIn name od=some (mA name):=by
 obtain⟨o,es,ep,ho,hd,hk,_,hm⟩:=n
 refine⟨o,ho,fun name=> ?_⟩
 have e:=hm name
 unfold nsFind findBy at e
 rw[<-Array.find?_toList] at e
 unfold PySem.W.lookIn
 rw[hd]
 dsimp only
 split
 ·rename_i y q
  rw[q] at e
  exact congrArg some e
 ·rename_i q
  rw[q] at e
  have a:es.toList.any (·.refKey)=false:=by
   rw[List.any_eq_false]
   intro y hy
   obtain⟨z,t,hkey⟩:=hk y (Array.mem_toList_iff.mp hy)
   simp[DictEntry.refKey,hkey]
  have a':¬es.toList.any (·.refKey)=true:=by rw[a];exact Bool.false_ne_true
  rw[if_neg a']
  exact congrArg some e
theorem IK.look{h:Heap}{x dx C:Addr}{mA:Str->Option Value}(I:IK h x dx C mA):∃od,PySem.W.InstAt h x (PySem.W.instObj C dx) C (some od)/\∀name,PySem.W.lookIn name od=some (mA name):=
 let ⟨od,ho,hl⟩:=IL I.ns
 ⟨od,⟨I.obj,rfl,rfl,ho⟩,hl⟩
section
variable {prog:Program}{w:World}{A:Around}{E:Value->Shared->Prop}{s:Shared}{K:PySem.W.Frag}{x dx C f:Addr}{mA:Str->Option Value}{name:Str}{v:Value}
theorem get_map{expr:Bool}{Q:Value->Shared->Prop}(X:K.In s.heap)(I:IK s.heap x dx C mA)(hg:PySem.W.plainGet K C name=true)(hh:PySem.W.hasDictIn K C=true)
  (ha:PySem.W.findIn K (.ref C) name=some none) (hv:mA name=some v) (hv':PySem.W.handedIn v=true) (h:Q v {s with toks:=s.toks+1}):
  wpAny (model prog w) A (getAttr (.ref x) name expr) Q E s:=by
 obtain⟨od,J,hl⟩:=I.look
 exact PySem.W.get_value X J (PySem.W.plainGet_of hg).1 (PySem.W.findObj_own hh ha rfl (by rw[hl,hv])) hv' h
theorem Ma{ns:List Str}{Q:Unit->Shared->Prop}(X:K.In s.heap)(I:IK s.heap x dx C mA)
  (hs:PySem.W.findIn K (.ref C) "__setattr__"=some (some (.builtin "object.__setattr__"))) (hp:PySem.W.plainOver K C=true) (ht:PySem.W.takerIn K C name=some none) (hh:PySem.W.hasDictIn K C=true)
  (hw:PySem.Within mA ns) (hsz:ns.length<=sizeLine)
  (h:∀h',IK h' x dx C (fun y=>if y=name then some v else mA y)->Heap.SameBut dx s.heap h'->Q () {s with heap:=h',toks:=s.toks+2}):
  wpAny (model prog w) A (setAttr (.ref x) name v) Q E s:=by
 obtain⟨od,J,hl⟩:=I.look
 refine PySem.W.set_plain X J hs (PySem.W.osa_open (s:={s with toks:=s.toks+1}) (r:=none) X J hp ht fun b=> ?_)
 obtain⟨cd,hc,hd'⟩:=PySem.W.any_some hh
 have hx:s.heap.get? x=some ⟨.ref C,some dx,.plain,#[]⟩:=I.obj
 refine wpAny_bind (wpAny_pure (wpAny_bind (wpAny_bind (wpAny_loadPart hx (wpAny_bind (PySem.W.Looks.here (s:={s with toks:=s.toks+1}) (PySem.W.looks_clsIn X hc) ?_))))))
 rw[hd']
 refine wpAny_pure (a:=some dx) (wpAny_bind (wpAny_pure (wpAny_bind ?_)))
 refine wpAny_nsSet1 (s:={s with toks:=s.toks+1}) I.ns fun h' hn2 hs2=> ?_
 obtain⟨oD,esD,epD,hoD,hdD,hcD⟩:=hn2.count (PySem.Within.cons name v hw)
 refine wpAny_bind (wpAny_lookBehind hoD (by rw[hdD];exact pastItsLine_dict (Nat.le_trans hcD (by rw[List.length_cons];lia))) ?_)
 exact wpAny_pure (h _ ⟨(hs2.2 _ (Ne.symm I.ne)).trans I.obj,hn2,I.ne⟩ hs2)
theorem Kj{R:Result->Shared->Prop}{vs:List Value}{kw:List (Str×Value)}(X:K.In s.heap)(hm:PySem.W.makesIn K C=true)
  (hi:PySem.W.findIn K (.ref C) "__init__"=some (some (.ref f))) (hf:PySem.W.typeIn K (.ref f)=some (.type "function"))
  (h:codeAny (model prog w) (A.under (.builtin "type.__call__" ⟨.ref C::vs,kw⟩)) (.call (.ref f) ⟨.ref (s.heap.objs.size+1)::vs,kw⟩) (PySem.W.InitBack (s.heap.objs.size+1) R)
   {s with heap:=(s.heap.push PySem.W.emptyDict).push (PySem.W.instObj C s.heap.objs.size)}):
  codeAny (model prog w) A (.call (.ref C) ⟨vs,kw⟩) R s:=by
 obtain⟨hh,g,d,t,os⟩:=s
 exact PySem.W.make_core (PySem.W.makes_of X hm) (PySem.W.looks_findIn X hi) (fun self=>PySem.W.bind_fn X self hf) (.inl rfl) h
end
def eO(f:Str)(v:V):List (Str×V)->List (Str×V)
 |[]=>[(f,v)]
 |(g,x)::r=>if g=f then(g,v)::r else(g,x)::eO f v r
theorem xk(f g:Str)(v:V):∀fs:List (Str×V),(eO f v fs).lookup g=if g=f then some v else fs.lookup g
 |[]=>by
  show List.lookup g [(f,v)]=_
  by_cases h:g=f
  ·have hb:(g==f)=true:=beq_iff_eq.mpr h
   simp only[List.lookup,hb,if_pos h]
  ·have hb:(g==f)=false:=beq_eq_false_iff_ne.mpr h
   simp only[List.lookup,hb,if_neg h]
 |(k,x)::r=>by
  have ih:=xk f g v r
  rw[show eO f v ((k,x)::r)=(if k=f then(k,v)::r else(k,x)::eO f v r) from rfl]
  by_cases hk:k=f
  ·rw[if_pos hk]
   by_cases h:g=k
   ·have hb:(g==k)=true:=beq_iff_eq.mpr h
    simp only[List.lookup,hb,if_pos (h.trans hk)]
   ·have hb:(g==k)=false:=beq_eq_false_iff_ne.mpr h
    simp only[List.lookup,hb,if_neg (fun e:g=f=>h (e.trans hk.symm))]
  ·rw[if_neg hk]
   by_cases h:g=k
   ·have hb:(g==k)=true:=beq_iff_eq.mpr h
    simp only[List.lookup,hb,if_neg (fun e:g=f=>hk (h.symm.trans e))]
   ·have hb:(g==k)=false:=beq_eq_false_iff_ne.mpr h
    simp only[List.lookup,hb]
    exact ih
theorem vE(f:Str)(v:V):∀fs:List (Str×V),f∈(eO f v fs).map (·.1)/\∀g,g∈fs.map (·.1)->g∈(eO f v fs).map (·.1)
 |[]=>⟨by simp[eO],fun g h=>by simp at h⟩
 |(k,x)::r=>by
  obtain⟨i1,i2⟩:=vE f v r
  rw[show eO f v ((k,x)::r)=(if k=f then(k,v)::r else(k,x)::eO f v r) from rfl]
  by_cases hk:k=f
  ·rw[if_pos hk]
   subst hk
   exact⟨by simp,fun g h=>by simpa using h⟩
  ·rw[if_neg hk]
   refine⟨?_,fun g h=> ?_⟩
   ·rw[List.map_cons]
    exact List.mem_cons_of_mem _ i1
   ·rw[List.map_cons] at h⊢
    rcases List.mem_cons.mp h with e |e
    ·exact List.mem_cons.mpr (.inl e)
    ·exact List.mem_cons_of_mem _ (i2 g e)
theorem xm(f:Str)(v:V):∀fs:List (Str×V),(eO f v fs).length<=fs.length+1
 |[]=>by simp[eO]
 |(k,x)::r=>by
  have ih:=xm f v r
  rw[show eO f v ((k,x)::r)=(if k=f then(k,v)::r else(k,x)::eO f v r) from rfl]
  by_cases hk:k=f
  ·rw[if_pos hk,List.length_cons,List.length_cons];lia
  ·rw[if_neg hk,List.length_cons,List.length_cons];lia
theorem FP.some_of{v:V}{o:Option Value}(r:FP (some v) o):∃u,o=some u/\RelV v u:=by
 cases o with
 |none=>exact(show False from r).elim
 |some u=>exact⟨u,rfl,r⟩
theorem IM{v:V}{u:Value}(r:RelV v u):PySem.W.handedIn u=true:=by
 cases v with
 |gr=>cases(show u=Value.none from r);rfl
 |bl b=>cases(show u=Value.bool b from r);rfl
 |int i=>obtain⟨t,e⟩:=(show ∃t,u=Value.int i t from r);cases e;rfl
 |str x=>obtain⟨t,e⟩:=(show ∃t,u=Value.str x t from r);cases e;rfl
 |Cj b=>obtain⟨t,e⟩:=(show ∃t,u=Value.bytes b t from r);cases e;rfl
 |Pg b=>obtain⟨t,e⟩:=(show ∃t,u=Value.float b t from r);cases e;rfl
 |ref a=>cases(show u=Value.ref a from r);rfl
 |ty n=>cases(show u=Value.type n from r);rfl
section
variable {P:Program}{w:World}{H H':Hp}{h h':Heap}{a C dx:Addr}{fs fs':List (Str×V)}
theorem Ht(dP:tu P w H h)(e:H a=some (.ins C dx fs)):∃mA,IK h a dx C mA/\(∀f,FP (fs.lookup f) (mA f))/\PySem.Within mA (fs.map (·.1))/\fs.length<=1000/\H dx=some (.own a):=by
 obtain⟨d,z,ne,ob,mA,n,r,q⟩:=(show gL P w H h a (.ins C dx fs) from dP a _ e)
 exact⟨mA,⟨ob,n,ne⟩,r,q,z,d⟩
end
structure NV(K:PySem.W.Frag)(C:Addr):Prop where
 pg:PySem.W.plainGet K C Str.empty=true
 hd:PySem.W.hasDictIn K C=true
 po:PySem.W.plainOver K C=true
 sa:PySem.W.findIn K (.ref C) "__setattr__"=some (some (.builtin "object.__setattr__"))
theorem NV.get{K:PySem.W.Frag}{C:Addr}(c:NV K C)(f:Str):PySem.W.plainGet K C f=true:=c.pg
def mV(K:PySem.W.Frag)(C:Addr)(f:Str):Prop:=PySem.W.findIn K (.ref C) f=some none
theorem mV.PQ{K:PySem.W.Frag}{C:Addr}{f:Str}(n:mV K C f):PySem.W.takerIn K C f=some none:=by
 unfold PySem.W.takerIn
 rw[show PySem.W.findIn K (.ref C) f=some none from n]
 rfl
section
variable {X:Cx}{pins:List (Addr×Obj)}{σ:St}{H:Hp}{s:Shared}{a C dx:Addr}{fs:List (Str×V)}{f:Str}{v:V}{A:Around}{E:Value->Shared->Prop}
theorem F3{b:Bool}{Q:Value->Shared->Prop}(I:Inv X pins σ H s)(e:H a=some (.ins C dx fs))(c:NV X.K C)(n:mV X.K C f)(l:fs.lookup f=some v)
  (h:∀u s',Inv X pins σ H s'->RelV v u->Q u s'):wpAny (model X.prog X.w) A (getAttr (.ref a) f b) Q E s:=by
 obtain⟨mA,O,r,_,_,_⟩:=Ht I.dP e
 obtain⟨u,hu,ru⟩:=FP.some_of (v:=v) (o:=mA f) (by rw[<-l];exact r f)
 exact get_map I.J0 O (c.get f) c.hd n hu (IM ru) (h u _ (I.tok _) ru)
theorem F4{y:V}{u:Value}{Q:Unit->Shared->Prop}(I:Inv X pins σ H s)(e:H a=some (.ins C dx fs))(c:NV X.K C)(n:mV X.K C f)(hl:fs.length<1000)(ry:RelV y u)
  (h:∀s',Inv X pins σ (upd H a (.ins C dx (eO f y fs))) s'->Q () s'):wpAny (model X.prog X.w) A (setAttr (.ref a) f u) Q E s:=by
 obtain⟨mA,O,r,wi,_,ho⟩:=Ht I.dP e
 have hz:(fs.map (·.1)).length<=sizeLine:=by rw[lMp,sizeLine_eq];lia
 refine Ma I.J0 O c.sa c.po n.PQ c.hd wi hz fun h' O' sb=>h _ ?_
 have hd:∃o,h'.get? dx=some o:=let ⟨o,_,_,e',_⟩:=O'.ns;⟨o,e'⟩
 refine I.write (x:=a) (e:=dx) (by rw[e];exact True.intro) (.inr ho) (fun b q hb z=>(sb.2 b hb).trans z) hd ?_
 refine⟨by rw[aR O.ne];exact ho,?_,O.ne,O'.obj,_,O'.ns,fun g=> ?_,fun g hg=> ?_⟩
 ·have:=xm f y fs;lia
 ·show FP ((eO f y fs).lookup g) (if g=f then some u else mA g)
  rw[xk]
  by_cases q:g=f
  ·rw[if_pos q,if_pos q];exact ry
  ·rw[if_neg q,if_neg q];exact r g
 ·by_cases q:g=f
  ·rw[q];exact(vE f y fs).1
  ·refine(vE f y fs).2 g (wi g fun z=>hg ?_)
   show(if g=f then some u else mA g)=none
   rw[if_neg q];exact z
theorem Inv.made(I:Inv X pins σ H s):Inv X pins σ (upd (upd H s.heap.objs.size (.own (s.heap.objs.size+1))) (s.heap.objs.size+1) (.ins C s.heap.objs.size []))
  {s with heap:=(s.heap.push PySem.W.emptyDict).push (PySem.W.instObj C s.heap.objs.size)}:=by
 have e1:(s.heap.push PySem.W.emptyDict).get? s.heap.objs.size=some PySem.W.emptyDict:=Heap.get?_push_size s.heap rfl
 have e2:((s.heap.push PySem.W.emptyDict).push (PySem.W.instObj C s.heap.objs.size)).get? (s.heap.objs.size+1)=some (PySem.W.instObj C s.heap.objs.size):=by
  have:=Heap.get?_push_size (s.heap.push PySem.W.emptyDict) (o:=PySem.W.instObj C s.heap.objs.size) rfl
  rwa [Heap.size_push] at this
 have e3:(s.heap.push PySem.W.emptyDict).Ns s.heap.objs.size (fun _=>none):=⟨PySem.W.emptyDict,#[],_,e1,rfl,(fun e he=>absurd he (by simp)),fun _=>rfl⟩
 have I1:=I.laid (a:=s.heap.objs.size) (o:= .own (s.heap.objs.size+1)) (h':=s.heap.push PySem.W.emptyDict) (t':=s.toks) (fun b u q=>Heap.get?_push_of_some _ q) (Nat.le_refl _) ⟨_,e1⟩
 refine I1.laid (a:=s.heap.objs.size+1) (o:= .ins C s.heap.objs.size []) (t':=s.toks) (fun b u q=>Heap.get?_push_of_some _ q) (Nat.le_of_eq (Heap.size_push _ _)) ?_
 have ne:s.heap.objs.size≠s.heap.objs.size+1:=Nat.ne_of_lt (Nat.lt_succ_self _)
 refine⟨by rw[aR ne,ak],Nat.zero_le _,ne,e2,fun _=>none,(Heap.Ns1.of_empty e3).at fun o q=>Heap.get?_push_of_some _ q,fun _=>True.intro,fun y hy=>absurd rfl hy⟩
theorem Mb{prog:Program}{w:World}{env:Env}{e:Expr}{f:Str}{pos:Pos}{s:Shared}{Q:Value->Shared->Prop}(hb:attributeBase e f env (eval e env)=eval e env)
  (h:wpAny (model prog w) A (eval e env) (fun o s₁=>wpAny (model prog w) A (getAttr o f true) Q E s₁) E s):wpAny (model prog w) A (eval (.Attribute e f pos) env) Q E s:=
 Attribute_any_ h (by rw[arm_eval_Attribute,hb])
end
def IP(K:PySem.W.Frag)(ta:TE)(f:Str):TE:=fun σ H Q=>ta σ H fun x H1=>∃a C dx fs v,x= .ref a/\H1 a=some (.ins C dx fs)/\NV K C/\mV K C f/\fs.lookup f=some v/\Q v H1
def Q8(K:PySem.W.Frag)(ta tv:TE)(f:Str):TS:=fun D σ H=>tv σ H fun y H1=>ta σ H1 fun x H2=>∃a C dx fs,x= .ref a/\H2 a=some (.ins C dx fs)/\NV K C/\mV K C f/\fs.length<1000/\
 D.nx σ (upd H2 a (.ins C dx (eO f y fs)))
section
variable {X:Cx}{o e value:Expr}{f:Str}{pos pos' tpos:Pos}{ta tv:TE}
theorem NW(he:PE X e ta)(hb:attributeBase e f X.env (eval e X.env)=eval e X.env):PE X (.Attribute e f pos) (IP X.K ta f):=by
 intro pins s σ H Q I h
 refine Mb hb (dN (he pins s σ H _ I h) fun u s1 ⟨x,H1,I1,rx,a,C,dx,fs,v,ex,ea,c,n,l,q⟩=> ?_)
 subst ex
 obtain rfl:u=Value.ref a:=rx
 exact F3 I1 ea c n l fun u' s2 I2 ru=>⟨v,H1,I2,ru,q⟩
theorem dc(ha:PE X o ta)(hv:PE X value tv)(hs:swapsWith value (some (.Attribute o f pos')) pos.line X.env=pure false):PS X (.Assign [.Attribute o f pos'] value pos) (Q8 X.K ta tv f):=by
 intro pins s σ H D I h
 refine plainObj_wpAny_Assign_Attribute (dN (hv pins s σ H _ I h) fun u s1 ⟨y,H1,I1,ry,q⟩=>dN (ha pins s1 σ H1 _ I1 q) fun ov s2 ⟨x,H2,I2,rx,a,C,dx,fs,ex,ea,c,n,l,q2⟩=> ?_) hs
 subst ex
 obtain rfl:ov=Value.ref a:=rx
 exact F4 I2 ea c n l ry fun s3 I3=>⟨σ,_,I3,q2⟩
end
structure hJ(k:Nat)(A:Around):Prop where
 hd:A.handled=none
 dp:A.depth+3*k+5<recursionLimit
 un:A.units+16*k+200<cLine
theorem hJ.mono{j k:Nat}{A:Around}(r:hJ k A)(h:j<=k):hJ j A:=⟨r.hd,by have:=r.dp;lia,by have:=r.un;lia⟩
theorem hJ.deeper{k:Nat}{A:Around}(r:hJ (k+1) A)(env:Env):hJ k (A.deeper env):=
 ⟨r.hd,by have:=r.dp;show A.depth+1+3*k+5<_;lia,by have:=r.un;show A.units+3+16*k+200<_;lia⟩
theorem F5{A:Around}{C:Addr}{us:List Value}{kw:List (Str×Value)}:(A.under (.builtin "type.__call__" ⟨.ref C::us,kw⟩)).depth=A.depth+1:=by
 first |rfl |simp[Around.under,Code.weight,Code.isCreation,Code.isGuard,Code.isCaller,Code.frames,Code.isFrame,guardIds]
theorem F6{A:Around}{C:Addr}{us:List Value}{kw:List (Str×Value)}:(A.under (.builtin "type.__call__" ⟨.ref C::us,kw⟩)).units=A.units+1:=by
 first |rfl |simp[Around.under,Code.cUnits,Code.frames,Code.isFrame]
theorem hJ.make{k:Nat}{A:Around}(r:hJ (k+1) A)(C:Addr)(us:List Value)(kw:List (Str×Value)):hJ k (A.under (.builtin "type.__call__" ⟨.ref C::us,kw⟩)):=
 ⟨r.hd,by have:=r.dp;rw[F5];lia,by have:=r.un;rw[F6];lia⟩
theorem hJ.depth{k:Nat}{A:Around}(r:hJ k A):A.depth<recursionLimit:=by have:=r.dp;lia
theorem hJ.units{k:Nat}{A:Around}(r:hJ k A):A.units+64<cLine:=by have:=r.un;lia
def IQ:TA:=fun _ H Q=>Q [] H
def tI(ta:TE)(tr:TA):TA:=fun σ H Q=>ta σ H fun x H1=>tr σ H1 fun xs H2=>Q (x::xs) H2
section
variable {X:Cx}{e:Expr}{es:List Expr}{te:TE}{t:TA}{pos:Pos}
theorem ah:PA X [] IQ:=fun _ _ _ _ H Q I h=>Calls.spliced_nil ⟨[],H,I,.nil,h⟩
theorem aa(ha:PE X e te)(hr:PA X es t)(hs:starEach (e::es) X.env=(false,eval e X.env)::starEach es X.env:=by rfl):PA X (e::es) (tI te t):=by
 intro pos pins s σ H Q I h
 rw[hs]
 show wpAny _ _ (spliced ((false,eval e X.env)::backTo pos (starEach es X.env))) _ _ s
 refine Calls.spliced_cons (dN (ha pins s σ H _ I h) fun u s1 ⟨x,H1,I1,r1,q1⟩=> ?_)
 exact dN (hr pos pins s1 σ H1 _ I1 q1) fun us s2 ⟨xs,H2,I2,r2,q2⟩=>⟨x::xs,H2,I2,.cons r1 r2,q2⟩
def PR(t:TA):TE:=fun σ H Q=>t σ H fun xs H1=>xs.length<=sizeLine/\∀p,H1 p=none->Q (.ref p) (upd H1 p (.tup xs))
def PU(t:TA):TE:=fun σ H Q=>t σ H fun xs H1=>xs.length<=sizeLine/\∀p,H1 p=none->Q (.ref p) (upd H1 p (.lst xs))
theorem cP{x1}(h:PA X es t):PE X (.Tuple es x1 pos) (PR t):=by
 intro pins s σ H Q I hq
 refine wpAny_Tuple_spliced (dN (h pos pins s σ H _ I hq) fun us s1 ⟨xs,H1,I1,r,z,q⟩=>⟨by rw[<-r.length];exact z,?_⟩)
 have hf:H1 s1.heap.objs.size=none:=I1.dP.fresh (Nat.le_refl _)
 refine⟨.ref s1.heap.objs.size,upd H1 s1.heap.objs.size (.tup xs),I1.laid (t':=s1.toks) (fun b u e=>Heap.get?_push_of_some _ e) (Nat.le_refl _) ?_,rfl,q _ hf⟩
 exact⟨z,us,r,⟨_,Heap.get?_push_size _ rfl,rfl,_,rfl⟩⟩
theorem aN(h:PA X es t):PE X (.List es pos) (PU t):=by
 intro pins s σ H Q I hq
 refine wpAny_List_spliced (dN (h pos pins s σ H _ I hq) fun us s1 ⟨xs,H1,I1,r,z,q⟩=>⟨by rw[<-r.length];exact z,?_⟩)
 have hf:H1 s1.heap.objs.size=none:=I1.dP.fresh (Nat.le_refl _)
 refine⟨.ref s1.heap.objs.size,upd H1 s1.heap.objs.size (.lst xs),I1.laid (t':=s1.toks) (fun b u e=>Heap.get?_push_of_some _ e) (Nat.le_refl _) ?_,rfl,q _ hf⟩
 exact⟨z,us,0,r,Heap.get?_push_size _ rfl⟩
end
abbrev Sp:=List V->Hp->VK->XK->Prop
abbrev J1:=List Env->Hp->Shared->XK->Value->Shared->Prop
structure F7(P:Program)(w:World)(K:PySem.W.Frag)(mg:Str->Option Value)(base:Heap)(A:Around)(outer:List Env)(s:Shared)(H:Hp):Prop where
 frames:A.frames=some outer
 mod:Mod K mg base
 bs:∀b o,base.get? b=some o->s.heap.get? b=some o/\H b=none
 L4:base.objs.size<=s.heap.objs.size
 xN:s.heap.FunFrames base outer
 NK:∀b∈J6 outer,H b=none
 dP:tu P w H s.heap
 bare:AllBare s.gens
def CE(outer:List Env)(P:Program)(w:World)(H:Hp)(s:Shared)(Q:VK)(u:Value)(s':Shared):Prop:=
 ∃v H',s'.os=s.os/\AllBare s'.gens/\Un (J6 outer) [] H H' s.heap s'.heap/\tu P w H' s'.heap/\RelV v u/\Q v H'
def CR(CX:J1)(outer:List Env)(P:Program)(w:World)(H:Hp)(s:Shared)(Q:VK)(E:XK)(r:Result)(s':Shared):Prop:=
 match r with
 | .ok (.ret u)=>CE outer P w H s Q u s'
 | .ok _=>False
 | .error e=>CX outer H s E e s'
structure lY(P:Program)(w:World)(K:PySem.W.Frag)(mg:Str->Option Value)(base:Heap)(CX:J1)(k:Nat)(f:Addr)(fd:FuncData)(ps:List Str)(sp:Sp):Prop where
 len:∀vs H Q E,sp vs H Q E->vs.length=ps.length
 run:∀(A:Around) (outer:List Env) (s:Shared) (H:Hp) (args:Args) (us:List Value) (vs:List V) (Q:VK) (E:XK),hJ k A->F7 P w K mg base A outer s H->BindsTo s fd args (ps.zip us)->Vals vs us->sp vs H Q E->
  codeAny (model P w) A (.call (.ref f) args) (CR CX outer P w H s Q E) s
theorem lY.mono{P:Program}{w:World}{K:PySem.W.Frag}{mg:Str->Option Value}{base:Heap}{CX:J1}{j k:Nat}{f:Addr}{fd:FuncData}{ps:List Str}{sp:Sp}(F:lY P w K mg base CX j f fd ps sp)(h:j<=k):
  lY P w K mg base CX k f fd ps sp:=⟨F.len,fun A outer s H args us vs Q E hr=>F.run A outer s H args us vs Q E (hr.mono h)⟩
theorem lY.imp{P:Program}{w:World}{K:PySem.W.Frag}{mg:Str->Option Value}{base:Heap}{CX:J1}{k:Nat}{f:Addr}{fd:FuncData}{ps:List Str}{sp sp':Sp}(F:lY P w K mg base CX k f fd ps sp)
  (h:∀vs H Q E,sp' vs H Q E->sp vs H Q E):lY P w K mg base CX k f fd ps sp':=
 ⟨fun vs H Q E q=>F.len vs H Q E (h _ _ _ _ q),fun A outer s H args us vs Q E hr he hb hv hs=>F.run A outer s H args us vs Q E hr he hb hv (h _ _ _ _ hs)⟩
theorem F7.make{P:Program}{w:World}{K:PySem.W.Frag}{mg:Str->Option Value}{base:Heap}{A:Around}{outer:List Env}{s:Shared}{H:Hp}(e:F7 P w K mg base A outer s H)(C:Addr)(us:List Value)(kw:List (Str×Value)):
  F7 P w K mg base (A.under (.builtin "type.__call__" ⟨.ref C::us,kw⟩)) outer s H:=⟨by first |exact e.frames |(simpa [Around.under,Code.envs,Code.isFrame,pushEnvs] using e.frames),e.mod,e.bs,e.L4,e.xN,e.NK,e.dP,e.bare⟩
section
variable {X:Cx}{pins:List (Addr×Obj)}{σ:St}{H:Hp}{s s':Shared}
theorem Inv.PV(I:Inv X pins σ H s):F7 X.prog X.w X.K X.mg X.base X.A X.stack s H:=
 ⟨I.ok.frames,I.ok.mod,I.bs,Nat.le_trans I.ok.L4 I.sz,I.stack,I.Hj,I.dP,I.bare⟩
theorem Inv.after{Q:VK}{u:Value}(I:Inv X pins σ H s)(h:CE X.stack X.prog X.w H s Q u s'):EP X pins σ Q u s':=by
 obtain⟨v,H',os,bare,un,dP,r,q⟩:=h
 obtain⟨hh,g,d,t,os'⟩:=s'
 obtain rfl:os'=s.os:=os
 exact⟨v,H',I.call (h':=hh) (g':=g) (d':=d) (t':=t) (ch:=[]) un dP bare (fun b z=>absurd z (by simp)),r,q⟩
end
def Hu(sp:Sp)(dvs:List V)(E:XK)(t:TA):TE:=fun σ H Q=>t σ H fun vs H1=>sp (vs ++ dvs) H1 Q E
def Ng(C:Addr)(sp:Sp)(dvs:List V)(E:XK)(t:TA):TE:=fun σ H Q=>t σ H fun vs H1=>∀x dx,H1 x=none->H1 dx=none->dx≠x->
 sp (.ref x::(vs ++ dvs)) (upd (upd H1 dx (.own x)) x (.ins C dx [])) (fun v H2=>v= .gr/\Q (.ref x) H2) E
def Binds(K:PySem.W.Frag)(fd:FuncData)(ps:List Str)(ds:List Value):Prop:=
 ∀(s:Shared) (us:List Value),K.In s.heap->(us ++ ds).length=ps.length->BindsTo s fd ⟨us,[]⟩ (ps.zip (us ++ ds))
theorem Binds.all{K:PySem.W.Frag}{fd:FuncData}{ps:List Str}(h:∀us:List Value,us.length=ps.length->bindArgs fd ⟨us,[]⟩=pure (ps.zip us)):Binds K fd ps []:=fun s us _ hl=>by
 rw[List.append_nil] at hl⊢
 exact .of_eq (h us hl)
def Passes(CX:J1)(X:Cx)(E:XK):Prop:=∀(pins:List (Addr×Obj)) (σ:St) (H:Hp) (s:Shared) (e:Value) (s':Shared),Inv X pins σ H s->CX X.stack H s E e s'->X.xe e s'
section
variable {X:Cx}{CX:J1}{k:Nat}{f C:Addr}{fd:FuncData}{ps:List Str}{sp:Sp}{dvs:List V}{ds:List Value}{E:XK}{x m:Str}{p pos apos:Pos}{e o:Expr}{es:List Expr}{ta:TE}{t:TA}
theorem Kk{pins:List (Addr×Obj)}{σ:St}{H:Hp}{s:Shared}{Q:VK}{us:List Value}{vs:List V}(F:lY X.prog X.w X.K X.mg X.base CX k f fd ps sp)(hr:hJ k X.A)(hb:Binds X.K fd ps ds)(hd:Vals dvs ds)(hx:Passes CX X E)
  (I:Inv X pins σ H s) (r:Vals vs us) (h:sp (vs ++ dvs) H Q E):wpAny (model X.prog X.w) X.A (call (.ref f) us) (EP X pins σ Q) X.xe s:=by
 have r2:Vals (vs ++ dvs) (us ++ ds):=r.append hd
 have hl:(us ++ ds).length=ps.length:=by rw[<-r2.length];exact F.len _ _ _ _ h
 refine wpAny_call (codeAny_mono (F.run X.A X.stack s H ⟨us,[]⟩ (us ++ ds) (vs ++ dvs) Q E hr I.PV (hb s us I.J0 hl) r2 h) fun r s' hq=> ?_)
 cases r with
 |error e=>exact hx pins σ H s e s' I hq
 |ok fl=>
  cases fl with
  |ret u=>exact I.after hq
  |next=>exact False.elim hq
  |brk=>exact False.elim hq
  |cont=>exact False.elim hq
theorem Mc(F:lY X.prog X.w X.K X.mg X.base CX k f fd ps sp)(hr:hJ k X.A)(hg:Gl X x)(hm:X.mg x=some (.ref f))(hk:PySem.W.keepIn X.K (.ref f)=true)(hb:Binds X.K fd ps ds)(hd:Vals dvs ds)(hx:Passes CX X E)
  (ha:PA X (e::es) t) (hdb:(x==("__debug__":Str))=false:=by decide) (he:starEach (e::es) X.env=(false,eval e X.env)::starEach es X.env:=by rfl) (hpl:(backTo pos (starEach es X.env)).any (·.1)=false:=by rfl):
  PE X (.Call (.Name x p) (e::es) [] pos) (Hu sp dvs E t):=by
 intro pins s σ H Q I h
 refine wpAny_Call_Name_kw (Cn I hg hm ?_ hdb)
 refine PySem.W.callWith_K (h₀:=X.base) I.ok.mod.Ph hk (dN (ha pos pins s σ H _ I h) fun us s1 ⟨vs,H1,I1,r,q⟩=>⟨I1.J0,?_⟩) he hpl
 exact Kk F hr hb hd hx I1 r q
structure Mk(K:PySem.W.Frag)(C f:Addr):Prop where
 makes:PySem.W.makesIn K C=true
 init:PySem.W.findIn K (.ref C) "__init__"=some (some (.ref f))
 fn:PySem.W.isFn K (.ref f)=true
 kp:PySem.W.keepIn K (.ref C)=true
theorem Kl{pins:List (Addr×Obj)}{σ:St}{H:Hp}{s:Shared}{Q:VK}{us:List Value}{vs:List V}(M:Mk X.K C f)(F:lY X.prog X.w X.K X.mg X.base CX k f fd ps sp)(hr:hJ (k+1) X.A)(hb:Binds X.K fd ps ds)(hd:Vals dvs ds)
  (hx:Passes CX X E) (I:Inv X pins σ H s) (r:Vals vs us)
  (h:∀x dx,H x=none->H dx=none->dx≠x->sp (.ref x::(vs ++ dvs)) (upd (upd H dx (.own x)) x (.ins C dx [])) (fun v H2=>v= .gr/\Q (.ref x) H2) E):
  wpAny (model X.prog X.w) X.A (call (.ref C) us) (EP X pins σ Q) X.xe s:=by
 have hq:=h (s.heap.objs.size+1) s.heap.objs.size (I.dP.fresh (Nat.le_succ _)) (I.dP.fresh (Nat.le_refl _)) (Nat.ne_of_lt (Nat.lt_succ_self _))
 have I2:=Inv.made (C:=C) I
 have r2:Vals (V.ref (s.heap.objs.size+1)::(vs ++ dvs)) (Value.ref (s.heap.objs.size+1)::(us ++ ds)):= .cons rfl (r.append hd)
 have hl:(Value.ref (s.heap.objs.size+1)::us ++ ds).length=ps.length:=by
  have e:=r2.length
  rw[F.len _ _ _ _ hq] at e
  exact e.symm
 refine wpAny_call (Kj (f:=f) I.J0 M.makes M.init (beq_iff_eq.mp M.fn) (codeAny_mono (F.run _ X.stack _ _ ⟨Value.ref (s.heap.objs.size+1)::us,[]⟩ (Value.ref (s.heap.objs.size+1)::(us ++ ds)) _ _ E (hr.make C us [])
  (I2.PV.make C us []) (hb _ (Value.ref (s.heap.objs.size+1)::us) I2.J0 hl) r2 hq) fun r s' hq'=> ?_))
 cases r with
 |error e=>exact hx pins σ _ _ e s' I2 hq'
 |ok fl=>
  cases fl with
  |ret u=>
   obtain⟨v,H',I3,rv,ev,q3⟩:=I2.after hq'
   subst ev
   exact⟨rv,⟨V.ref (s.heap.objs.size+1),H',I3,rfl,q3⟩⟩
  |next=>exact False.elim hq'
  |brk=>exact False.elim hq'
  |cont=>exact False.elim hq'
theorem Md(M:Mk X.K C f)(F:lY X.prog X.w X.K X.mg X.base CX k f fd ps sp)(hr:hJ (k+1) X.A)(hg:Gl X x)(hm:X.mg x=some (.ref C))(hb:Binds X.K fd ps ds)(hd:Vals dvs ds)(hx:Passes CX X E)
  (ha:PA X (e::es) t) (hdb:(x==("__debug__":Str))=false:=by decide) (he:starEach (e::es) X.env=(false,eval e X.env)::starEach es X.env:=by rfl) (hpl:(backTo pos (starEach es X.env)).any (·.1)=false:=by rfl):
  PE X (.Call (.Name x p) (e::es) [] pos) (Ng C sp dvs E t):=by
 intro pins s σ H Q I h
 refine wpAny_Call_Name_kw (Cn I hg hm ?_ hdb)
 refine PySem.W.callWith_K (h₀:=X.base) I.ok.mod.Ph M.kp (dN (ha pos pins s σ H _ I h) fun us s1 ⟨vs,H1,I1,r,q⟩=>⟨I1.J0,?_⟩) he hpl
 exact Kl M F hr hb hd hx I1 r q
end
structure aD(N P:List Str)(sc:Scope):Prop where
 kind:sc.kind= .function
 co:sc.isCoroutine=false
 gen:sc.isGenerator=false
 nd:N.Nodup
 pre:N.take P.length=P
 par:∀x∈P,sc.names.lookup x=some .local\/sc.names.lookup x=some .cell
 NX:∀y∈sc.names,y.2≠.free
theorem Br{kindOf:Str->Option NameKind}{x:Str}:∀{binds:List (Str×Value)} {m:Str->Option Value},(∀v,(x,v)∉binds)->bindL kindOf binds m x=m x
 |[],_,_=>rfl
 |(n,v)::r,m,h=>by
  unfold bindL
  rw[Br fun w hw=>h w (List.mem_cons_of_mem _ hw)]
  split
  ·have:x≠n:=by rintro rfl;exact h v List.mem_cons_self
   simp[this]
  ·rfl
theorem Bs{kindOf:Str->Option NameKind}{x:Str}:∀{binds:List (Str×Value)} {m:Str->Option Value},(∀v,(x,v)∉binds)->bindC kindOf binds m x=m x
 |[],_,_=>rfl
 |(n,v)::r,m,h=>by
  unfold bindC
  rw[Bs fun w hw=>h w (List.mem_cons_of_mem _ hw)]
  split
  ·rfl
  ·have:x≠n:=by rintro rfl;exact h v List.mem_cons_self
   simp[this]
theorem Bt{kindOf:Str->Option NameKind}{x:Str}{v:Value}:∀{P:List Str} {vs:List Value} {i:Nat} {m:Str->Option Value},P.Nodup->P[i]? =some x->vs[i]? =some v->kindOf x=some .local->
  bindL kindOf (P.zip vs) m x=some v
 |[],_,_,_,_,h,_,_=>by simp at h
 |_::_,[],_,_,_,_,h,_=>by simp at h
 |p::P,w::vs,0,m,nd,h1,h2,hk=>by
  simp at h1 h2;subst h1;subst h2
  show bindL kindOf ((p,w)::P.zip vs) m p=_
  unfold bindL
  rw[Br fun v hv=>(List.nodup_cons.mp nd).1 (List.of_mem_zip hv).1,if_pos hk]
  simp
 |p::P,w::vs,i+1,m,nd,h1,h2,hk=>by
  show bindL kindOf ((p,w)::P.zip vs) m x=_
  unfold bindL
  exact Bt (i:=i) (List.nodup_cons.mp nd).2 (by simpa using h1) (by simpa using h2) hk
theorem Bu{kindOf:Str->Option NameKind}{x:Str}{v:Value}:∀{P:List Str} {vs:List Value} {i:Nat} {m:Str->Option Value},P.Nodup->P[i]? =some x->vs[i]? =some v->kindOf x≠some .local->
  bindC kindOf (P.zip vs) m x=some v
 |[],_,_,_,_,h,_,_=>by simp at h
 |_::_,[],_,_,_,_,h,_=>by simp at h
 |p::P,w::vs,0,m,nd,h1,h2,hk=>by
  simp at h1 h2;subst h1;subst h2
  show bindC kindOf ((p,w)::P.zip vs) m p=_
  unfold bindC
  rw[Bs fun v hv=>(List.nodup_cons.mp nd).1 (List.of_mem_zip hv).1,if_neg hk]
  simp
 |p::P,w::vs,i+1,m,nd,h1,h2,hk=>by
  show bindC kindOf ((p,w)::P.zip vs) m x=_
  unfold bindC
  exact Bu (i:=i) (List.nodup_cons.mp nd).2 (by simpa using h1) (by simpa using h2) hk
def start(N:List Str)(vs:List V):St:=vs.map some ++ List.replicate (N.length - vs.length) none
def Cr(CX:J1)(P:Program)(w:World)(K:PySem.W.Frag)(mg:Str->Option Value)(base:Heap)(N:List Str)(qual:Str)(scope:Scope)(f:Addr)(cd:Value)(A:Around)(outer:List Env)(s:Shared)(H:Hp)(E:XK):Cx where
 prog:=P
 w:=w
 K:=K
 mg:=mg
 base:=base
 A:=A.deeper (envOfC qual scope s.heap.objs.size f cd)
 N:=N
 Bm:=s
 Pj:=H
 env:=envOfC qual scope s.heap.objs.size f cd
 outer:=outer
 stack:=envOfC qual scope s.heap.objs.size f cd::outer
 ex:=[]
 calm:=true
 fn:=fun _=>true
 pn:=[]
 xe:=fun e s'=>wpAny (model P w) (A.deeper (envOfC qual scope s.heap.objs.size f cd)) (leaving (envOfC qual scope s.heap.objs.size f cd) e) (fun _ s''=>CX outer H s E e s'') (fun e' s''=>CX outer H s E e' s'') s'
theorem D8{sc:Scope}{n:Nat}{x:Str}(h:sc.names.lookup x=some .cell):∃c,(cellsFrom n sc.names []).lookup x=some c:=by
 have q:=PySem.W.cellsFrom_some sc.names n [] (.inl h)
 exact Option.isSome_iff_exists.mp q
theorem IS{CX:J1}{P:Program}{w:World}{K:PySem.W.Frag}{mg:Str->Option Value}{base:Heap}{N ps:List Str}{qual:Str}{scope:Scope}{f:Addr}{cd:Value}{A:Around}{outer:List Env}{s s1:Shared}{H:Hp}{E:XK}{us:List Value}{vs:List V}
  (S:aD N ps scope) (hd:A.handled=none) (e0:F7 P w K mg base A outer s H) (hl:vs.length=ps.length) (r:Vals vs us)
  (x:InCallC s s.heap.objs.size (bindL (envOfC qual scope s.heap.objs.size f cd).kindOf (ps.zip us) fun _=>none) (cellsFrom (s.heap.objs.size+1) scope.names []) (bindC (envOfC qual scope s.heap.objs.size f cd).kindOf (ps.zip us) fun _=>none) s1):
  Inv (Cr CX P w K mg base N qual scope f cd A outer s H E) [] (start N vs) H s1:=by
 have hpl:ps.length<=N.length:=by have:=congrArg List.length S.pre;rw[List.length_take] at this;lia
 obtain⟨h1,tk,rfl,hk⟩:=x.done
 have noA:∀b:Addr,b∉(Cr CX P w K mg base N qual scope f cd A outer s H E).ex:=fun b z=>absurd (show b∈([]:List Addr) from z) (by simp)
 refine⟨⟨e0.mod,S.kind,rfl,rfl,Nat.le_refl _,fun y z c h1 h2=> ?_,fun y hy=> ?_,fun y c _ h=> ?_,fun _=>hd,Around.frames_deeper e0.frames,.inr ⟨rfl,rfl⟩,fun b z=>absurd z (noA b),e0.bs,e0.L4,fun b _ _=>noA b,fun b z=>absurd z (noA b),e0.xN,e0.NK⟩,
  rfl,e0.bare,Un.kept hk,⟨_,x.toInCall.ns,fun i y v h1 h2 h3=> ?_⟩,fun y c h=>⟨_,x.cell y c h⟩,e0.dP.fresh (Nat.le_refl _),fun y c h=> ?_,fun p hp=>absurd (show p∈([]:List (Addr×Obj)) from hp) (by simp),e0.dP.kept hk,?_⟩
 ·exact name_of_addr x.apart (PySem.mem_of_lookup h1) (PySem.mem_of_lookup h2)
 ·have hy:scope.names.lookup y=some .cell\/scope.names.lookup y=some .free:=hy
  rcases hy with hy |hy
  ·exact D8 hy
  ·exact absurd rfl (S.NX _ (PySem.mem_of_lookup hy))
 ·exact Nat.le_of_lt (x.above y c (PySem.mem_of_lookup h))
 ·have hi:i<vs.length:=by
   unfold start at h2
   by_cases hi:i<vs.length
   ·exact hi
   ·rw[List.getElem?_append_right (by simpa using hi)] at h2
    rw[List.getElem?_replicate] at h2
    split at h2 <;>cases h2
  have ha:vs[i]? =some v:=by
   unfold start at h2
   rw[List.getElem?_append_left (by simpa using hi),List.getElem?_map] at h2
   cases e:vs[i]? with
   |none=>rw[e] at h2;cases h2
   |some a=>rw[e] at h2;cases h2;rfl
  obtain⟨u,hu,rv⟩:=r.get ha
  have hp:ps[i]? =some y:=by
   rw[<-S.pre,List.getElem?_take_of_lt (by lia)];exact h1
  have ndP:ps.Nodup:=by rw[<-S.pre];exact S.nd.sublist (List.take_sublist _ _)
  refine⟨u,rv,?_⟩
  rcases S.par y (List.mem_of_getElem? hp) with k |k
  ·exact .inl ⟨k,Bt ndP hp hu k⟩
  ·obtain⟨c,e⟩:=D8 (n:=s.heap.objs.size+1) k
   refine .inr ⟨.inl k,c,e,?_⟩
   have q:=x.cell y c e
   rw[Bu ndP hp hu (by show scope.names.lookup y≠_;rw[k];decide)] at q
   exact q
 ·exact e0.dP.fresh (Nat.le_of_lt (x.above y c (PySem.mem_of_lookup h)))
 ·unfold start
  show _=N.length
  rw[List.length_append,lMp,List.length_replicate]
  lia
theorem PX{CX:J1}{P:Program}{w:World}{K:PySem.W.Frag}{mg:Str->Option Value}{base:Heap}{k:Nat}{f:Addr}{name qual:Str}{params:Arguments}{body:List Stmt}{scope:Scope}{dV kV doc pm cdv ct oc:Value}{an od:Option Addr}
  {osl:Array (Option Value)} {N ps:List Str} {sp:Sp} (lk:K.lookup f=some ⟨oc,od,.func (PySem.W.fnOf name qual params body scope dV kV doc pm an cdv ct),osl⟩) (hcd:PySem.W.codeIn K cdv qual=true) (S:aD N ps scope)
  (len:∀vs H Q E,sp vs H Q E->vs.length=ps.length)
  (hbody:∀(A:Around) (outer:List Env) (s:Shared) (H:Hp) (vs:List V) (Q:VK) (E:XK),hJ k (A.deeper (envOfC qual scope s.heap.objs.size f cdv))->sp vs H Q E->
   ∃t,FT (Cr CX P w K mg base N qual scope f cdv A outer s H E) body t/\t {nx:=fun _ H'=>Q .gr H',rt:=Q} (start N vs) H):
  lY P w K mg base CX (k+1) f (PySem.W.fnOf name qual params body scope dV kV doc pm an cdv ct) ps sp:=by
 refine⟨len,fun A outer s H args us vs Q E hr e0 hb r hsp=> ?_⟩
 have hl:=len _ _ _ _ hsp
 have KX:K.In s.heap:=e0.mod.Ph.keeps fun b o e=>(e0.bs b o e).1
 have lim:s.heap.NoLimit:=e0.mod.nolimit.keeps fun b o e=>(e0.bs b o e).1
 have hkind:∀y∈ps.zip us,scope.names.lookup y.1=some .local\/(scope.names.lookup y.1=some .cell/\((cellsFrom (s.heap.objs.size+1) scope.names []).lookup y.1).isSome=true):=fun⟨n,v⟩ hy=>by
  rcases S.par n (List.of_mem_zip hy).1 with q |q
  ·exact .inl q
  ·exact .inr ⟨q,PySem.W.cellsFrom_some _ _ _ (.inl q)⟩
 refine codeAny_call_function hr.depth (KX _ _ lk) rfl S.co S.gen rfl (PySem.W.codeRec_of KX hcd) (hb _ _ _ _ ?_)
 refine wpAny_newFunctionEnv_cells S.kind hkind fun env he s1 x=> ?_
 subst he
 refine⟨lim.keeps x.toInCall.keep,codeAny_func ?_⟩
 obtain⟨t,ht,hq⟩:=hbody A outer s H vs Q E (hr.deeper _) hsp
 have I:Inv (Cr CX P w K mg base N qual scope f cdv A outer s H E) [] (start N vs) H s1:=IS S hr.hd e0 hl r x
 refine wpAny_mono (ht [] s1 (start N vs) H _ I hq) (fun fl s' hs=> ?_) fun e s' hs=>hs
 have fin:∀{σ':St} {H':Hp} {v:V} {u:Value},Inv (Cr CX P w K mg base N qual scope f cdv A outer s H E) [] σ' H' s'->RelV v u->Q v H'->CE outer P w H s Q u s':=
  fun{σ' H' v u} J rv q=>⟨v,H',J.os,J.bare,J.base,J.dP,rv,q⟩
 cases fl with
 |ret u=>
  obtain⟨v,σ',H',J,rv,q⟩:=hs
  exact fin J rv q
 |next=>
  obtain⟨σ',H',J,q⟩:=hs
  exact fin (v:=V.gr) (u:=Value.none) J rfl q
 |brk=>
  obtain⟨_,_,_,q⟩:=hs
  exact False.elim q
 |cont=>
  obtain⟨_,_,_,q⟩:=hs
  exact False.elim q
section
variable {X:Cx}{x:Str}{p pos:Pos}{e:Expr}{es:List Expr}{t:TA}{id T:String}{r:List V->Hp->VK->Prop}
def RO(r:List V->Hp->VK->Prop)(t:TA):TE:=fun σ H Q=>t σ H fun vs H1=>r vs H1 Q
theorem aZ(hc:kW X (.builtin id) r)(hg:Gl X x)(hm:X.mg x=none)(hv:bootBuiltins x=some (.builtin id))(ha:PA X (e::es) t)(hn:x≠"__name__":=by decide)(hdb:(x==("__debug__":Str))=false:=by decide)
  (he:starEach (e::es) X.env=(false,eval e X.env)::starEach es X.env:=by rfl) (hpl:(backTo pos (starEach es X.env)).any (·.1)=false:=by rfl):PE X (.Call (.Name x p) (e::es) [] pos) (RO r t):=by
 intro pins s σ H Q I h
 refine wpAny_Call_Name_kw (oY I hg hm hv ?_ hn hdb)
 exact PyProof.Rows.callWith_builtin1 (dN (ha pos pins s σ H _ I h) fun us s1 ⟨vs,H1,I1,r1,q1⟩=>hc pins s1 σ H1 vs us Q I1 r1 q1) he hpl
theorem vF(hc:kW X (.type T) r)(hg:Gl X x)(hm:X.mg x=none)(hv:bootBuiltins x=some (.type T))(ha:PA X (e::es) t)(hn:x≠"__name__":=by decide)(hdb:(x==("__debug__":Str))=false:=by decide)
  (he:starEach (e::es) X.env=(false,eval e X.env)::starEach es X.env:=by rfl) (hpl:(backTo pos (starEach es X.env)).any (·.1)=false:=by rfl):PE X (.Call (.Name x p) (e::es) [] pos) (RO r t):=by
 intro pins s σ H Q I h
 refine wpAny_Call_Name_kw (oY I hg hm hv ?_ hn hdb)
 exact PyProof.Rows.callWith_type1 (dN (ha pos pins s σ H _ I h) fun us s1 ⟨vs,H1,I1,r1,q1⟩=>hc pins s1 σ H1 vs us Q I1 r1 q1) he hpl
end
end L2
namespace HT
open PySem PyProof.Rows
section
variable {prog:Program}{w:World}{A:Around}{E:Value->Shared->Prop}{s:Shared}
def AQ(n d:Nat):Option Int->Nat
 |none=>d
 |some v=>if v<0 then(v+(n:Int)).toNat else min v.toNat n
theorem Km(n d:Nat):AQ n d none=d:=rfl
theorem mW(n d k:Nat):AQ n d (some (k:Int))=min k n:=by
 show(if(k:Int)<0 then((k:Int)+(n:Int)).toNat else min (k:Int).toNat n)=min k n
 rw[if_neg (by lia),Int.toNat_natCast]
end
end HT
namespace L2
open PySem PySem.Spec PyProof.Rows
abbrev TO:=St->Hp->(Option Int->Hp->Prop)->Prop
def PO(X:Cx)(e:Option Expr)(t:TO):Prop:=
 ∀(pins:List (Addr×Obj)) (s:Shared) (σ:St) (H:Hp) (Q:Option Int->Hp->Prop),Inv X pins σ H s->t σ H Q->
  wpAny (model X.prog X.w) X.A (evalPart e X.env) (fun u s'=>∃o H',Inv X pins σ H' s'/\IsPart u o/\Q o H') X.xe s
def Hv:TO:=fun _ H Q=>Q none H
def Nh(t:TE):TO:=fun σ H Q=>t σ H fun x H1=>∃i,x= .int i/\Q (some i) H1
section
variable {X:Cx}{e:Expr}{te:TE}{lo hi:Option Expr}{tl th:TO}{pos p2:Pos}
theorem Ct:PO X none Hv:=by
 intro pins s σ H Q I h
 rw[evalPart_none]
 exact wpAny_pure ⟨none,H,I,.none,h⟩
theorem mX(h:PE X e te):PO X (some e) (Nh te):=by
 intro pins s σ H Q I hw
 rw[evalPart_some]
 refine dN (h pins s σ H _ I hw) fun u s1 ⟨x,H1,I1,r1,q1⟩=> ?_
 obtain⟨i,rfl,q⟩:=q1
 obtain⟨t,rfl⟩:=r1
 exact⟨some i,H1,I1,.int i t,q⟩
def Q9(X:Cx)(r:V->Option Int->Option Int->Hp->VK->Prop):Prop:=
 ∀(pins:List (Addr×Obj)) (s:Shared) (σ:St) (H:Hp) (x:V) (v vl vu:Value) (lo hi:Option Int) (sl:Addr) (Q:VK),Inv X pins σ H s->RelV x v->s.heap.IsSliceOf sl vl vu .none->IsPart vl lo->IsPart vu hi->r x lo hi H Q->
  ∃T id,typeLookup (.type T) "__getitem__"=pure (some (.builtin id))/\s.TypeIs v T/\wpAny (model X.prog X.w) X.A (getItem v (.ref sl)) (EP X pins σ Q) X.xe s
def RP(r:V->Option Int->Option Int->Hp->VK->Prop)(te:TE)(tl th:TO):TE:=fun σ H Q=>te σ H fun x H1=>tl σ H1 fun l H2=>th σ H2 fun u H3=>r x l u H3 Q
theorem ph{r:V->Option Int->Option Int->Hp->VK->Prop}(hr:Q9 X r)(he:PE X e te)(hl:PO X lo tl)(hu:PO X hi th):PE X (.Subscript e (.Slice lo hi none p2) pos) (RP r te tl th):=by
 intro pins s σ H Q I h
 refine Subscript_ (dN (he pins s σ H _ I h) fun v s1 ⟨x,H1,I1,r1,q1⟩=> ?_)
 refine wpAny_Slice (dN (hl pins s1 σ H1 _ I1 q1) fun vl s2 ⟨l,H2,I2,pl,q2⟩=>dN (hu pins s2 σ H2 _ I2 q2) fun vu s3 ⟨u,H3,I3,pu,q3⟩=> ?_)
 rw[evalPart_none]
 refine wpAny_pure ?_
 have I4:Inv X pins σ H3 {s3 with heap:=s3.heap.push {cls:= .type "slice",data:= .fields #[vl,vu,.none]}}:=I3.kept (t':=s3.toks) fun b ob q=>Heap.get?_push_of_some _ q
 obtain⟨T,id,hT,ht,hg⟩:=hr pins {s3 with heap:=s3.heap.push {cls:= .type "slice",data:= .fields #[vl,vu,.none]}} σ H3 x v vl vu l u s3.heap.objs.size Q I4 r1 (Heap.IsSliceOf.new ..) pl pu q3
 show wpAny (model X.prog X.w) X.A (subscriptTail e (.Slice lo hi none p2) v (.ref s3.heap.objs.size)) (EP X pins σ Q) X.xe {s3 with heap:=s3.heap.push {cls:= .type "slice",data:= .fields #[vl,vu,.none]}}
 exact tail_any (ops:=[.ref s3.heap.objs.size,v]) ht hT hg (by with_unfolding_all rfl)
def rK(xs:List V)(lo hi:Option Int):List V:=(xs.drop (HT.AQ xs.length 0 lo)).take (HT.AQ xs.length xs.length hi - HT.AQ xs.length 0 lo)
theorem D9(xs:List V)(lo hi:Option Int):(rK xs lo hi).length<=xs.length:=by
 unfold rK
 rw[List.length_take,List.length_drop]
 lia
end
def Kn(n:Nat)(i:Int):Option Nat:=if 0<=i then(if i<n then some i.toNat else none) else if -(n:Int)<=i then some (i+n).toNat else none
def Ko{α:Type}(xs:List α)(i:Int):Option α:=(Kn xs.length i).bind fun j=>xs[j]?
theorem Hw{n:Nat}{i:Int}{j:Nat}(h:Kn n i=some j):seqIndex? i n=some j/\j<n/\-(n:Int)<=i/\i<n:=by
 unfold Kn at h
 by_cases h0:0<=i
 ·rw[if_pos h0] at h
  by_cases h1:i<n
  ·rw[if_pos h1] at h
   have e:i.toNat=j:=Option.some.inj h
   exact⟨by rw[seqIndex_of h0 h1,e],by lia,by lia,h1⟩
  ·rw[if_neg h1] at h;cases h
 ·rw[if_neg h0] at h
  by_cases h1: -(n:Int)<=i
  ·rw[if_pos h1] at h
   have e:(i+n).toNat=j:=Option.some.inj h
   exact⟨by rw[seqIndex_neg (by lia) h1,e],by lia,h1,by lia⟩
  ·rw[if_neg h1] at h;cases h
theorem Hx{α:Type}{xs:List α}{i:Int}{v:α}(h:Ko xs i=some v):∃j,seqIndex? i xs.length=some j/\xs[j]? =some v/\j<xs.length/\-(xs.length:Int)<=i/\i<xs.length:=by
 unfold Ko at h
 cases e:Kn xs.length i with
 |none=>rw[e] at h;cases h
 |some j=>
  rw[e] at h
  obtain⟨h1,h2,h3,h4⟩:=Hw e
  exact⟨j,h1,h,h2,h3,h4⟩
theorem Me{α:Type}{xs:List α}{j:Nat}{v:α}(h:xs[j]? =some v):Ko xs (j:Int)=some v:=by
 have hj:j<xs.length:=(List.getElem?_eq_some_iff.mp h).1
 have e:Kn xs.length (j:Int)=some j:=by
  unfold Kn
  rw[if_pos (by lia),if_pos (by lia)];simp
 unfold Ko;rw[e];exact h
def Mf(b:Expr):Prop:=∀o i,subscripted b false o i=operate [o,i] (getItem o i)
def PY(X:Cx)(r:R2):Prop:=
 ∀(value slice:Expr) (pins:List (Addr×Obj)) (s:Shared) (σ:St) (H:Hp) (x y:V) (v u:Value) (Q:VK),Inv X pins σ H s->RelV x v->RelV y u->r x y H Q->
  subscripted slice false v u=operate [v,u] (getItem v u)->wpAny (model X.prog X.w) X.A (subscriptTail value slice v u) (EP X pins σ Q) X.xe s
def R6(X:Cx)(id:String)(r:V->List V->Hp->VK->Prop):Prop:=
 ∀(pins:List (Addr×Obj)) (s:Shared) (σ:St) (H:Hp) (x:V) (xs:List V) (v:Value) (us:List Value) (Q:VK),Inv X pins σ H s->RelV x v->Vals xs us->r x xs H Q->
  wpAny (model X.prog X.w) X.A (call (.builtin id) (v::us)) (EP X pins σ Q) X.xe s
section
variable {X:Cx}{a b:Expr}{ta tb:TE}{pos:Pos}
theorem aY{r:R2}(hr:PY X r)(ha:PE X a ta)(hb:PE X b tb)(hs:Mf b):PE X (.Subscript a b pos) (Nf r ta tb):=by
 intro pins s σ H Q I h
 exact Subscript_ (NT ha hb I h fun v u s2 x y H2 I2 rx ry q=>hr a b pins s2 σ H2 x y v u Q I2 rx ry q (hs _ _))
def NY(K:PySem.W.Frag):R2:=fun x y H Q=>∃p xs i v,x= .ref p/\y= .int i/\hZ K H p xs/\Ko xs i=some v/\Q v H
def PZ(K:PySem.W.Frag):R2:=fun x y H Q=>∃p xs i v,x= .ref p/\y= .int i/\AL K H p xs/\Ko xs i=some v/\Q v H
theorem Mh:PY X (NY X.K):=by
 intro value slice pins s σ H x y v u Q I rx ry h hs
 obtain⟨p,xs,i,z,rfl,rfl,hq,he,q⟩:=h
 cases rx
 obtain⟨t,rfl⟩:=ry
 obtain⟨its,r,pl,hz⟩:=I.list hq
 obtain⟨j,h1,h2,h3,h4,h5⟩:=Hx he
 obtain⟨w,ew,rw'⟩:=r.get h2
 have hl:=r.length
 have hn:=vD
 have fin:EP X pins σ Q w s:=⟨z,H,I,rw',q⟩
 by_cases h0:0<=i
 ·have hj:i.toNat=j:=by
   rw[seqIndex_of h0 h5] at h1
   exact Option.some.inj h1
  exact item_listR pl.isList h0 (by lia) (by rw[hj];simpa using ew) fin hs
 ·have hj:(i+(its.toArray.size:Int)).toNat=j:=by
   rw[seqIndex_neg (by lia) h4] at h1
   rw[List.size_toArray,<-hl]
   exact Option.some.inj h1
  exact subscriptTail_builtinR (x:=w) pl.isList.typeIs slot_list_getitem.lookup
   (wpAny_getItem_list_neg (Q:=fun r s'=>r=w/\EP X pins σ Q r s') pl.isList (by lia) (by rw[List.size_toArray] <;>lia) (by lia) (by rw[hj];simpa using ew) ⟨rfl,fin⟩) hs
theorem NZ:PY X (PZ X.K):=by
 intro value slice pins s σ H x y v u Q I rx ry h hs
 obtain⟨p,xs,i,z,rfl,rfl,hq,he,q⟩:=h
 cases rx
 obtain⟨t,rfl⟩:=ry
 obtain⟨its,r,pl,hz⟩:=I.tuple hq
 obtain⟨j,h1,h2,h3,h4,h5⟩:=Hx he
 obtain⟨w,ew,rw'⟩:=r.get h2
 have hl:=r.length
 have hn:=vD
 have fin:EP X pins σ Q w s:=⟨z,H,I,rw',q⟩
 exact subscriptTail_builtinR (x:=w) pl.typeIs slot_tuple_getitem.lookup
  (getItem_tuple (j:=j) (Q:=fun r s'=>r=w/\EP X pins σ Q r s') pl (by lia) (by lia) (by rw[List.size_toArray,<-hl];exact h1) (by simpa using ew) ⟨rfl,fin⟩) hs
theorem F8(its:List Value)(n j:Nat)(u:Value):Obj.mapSeq (·.setIfInBounds j u) {cls:= .type "list",data:= .seq its.toArray n}={cls:= .type "list",data:= .seq (its.set j u).toArray n}:=by
 simp[Obj.mapSeq]
theorem Inv.lst{pins:List (Addr×Obj)}{σ:St}{H:Hp}{s:Shared}{p:Addr}{xs:List V}(I:Inv X pins σ H s)(h:H p=some (.lst xs)):
  ∃(its:List Value) (n:Nat),Vals xs its/\s.heap.get? p=some {cls:= .type "list",data:= .seq its.toArray n}/\xs.length<=sizeLine:=by
 obtain⟨z,its,n,r,e⟩:=I.dP p _ h
 exact⟨its,n,r,e,z⟩
theorem Inv.Oa{pins:List (Addr×Obj)}{σ:St}{H:Hp}{s:Shared}{p:Addr}{xs ys:List V}{its its':List Value}{n n':Nat}{f:Obj->Obj}(I:Inv X pins σ H s)(h:H p=some (.lst xs))
  (ho:s.heap.get? p=some {cls:= .type "list",data:= .seq its.toArray n}) (hf:f {cls:= .type "list",data:= .seq its.toArray n}={cls:= .type "list",data:= .seq its'.toArray n'}) (r:Vals ys its') (hz:ys.length<=sizeLine) (t:Nat):
  Inv X pins σ (upd H p (.lst ys)) {s with heap:=s.heap.update p f,toks:=t}:=by
 have e:(s.heap.update p f).get? p=some {cls:= .type "list",data:= .seq its'.toArray n'}:=by
  rw[Heap.get?_update_self f ho (by rw[hf] <;>rfl),hf]
 refine I.write (x:=p) (e:=p) (by rw[h];trivial) (.inl rfl) (fun b u hb q=>(Heap.get?_update_other _ _ (Ne.symm hb)).trans q) ⟨_,e⟩ ?_
 exact⟨hz,its',n',r,e⟩
def P0:V->V->V->Hp->(Hp->Prop)->Prop:=fun o i v H Q=>∃p xs k j,o= .ref p/\i= .int k/\H p=some (.lst xs)/\Kn xs.length k=some j/\Q (upd H p (.lst (xs.set j v)))
theorem set_list:NN X P0:=by
 intro pins s σ H o i v ov iv u Q I ro ri rv h
 obtain⟨p,xs,k,j,rfl,rfl,hp,hj,q⟩:=h
 cases ro
 obtain⟨t,rfl⟩:=ri
 obtain⟨its,n,r,ho,hz⟩:=I.lst hp
 obtain⟨h1,h2,h3,h4⟩:=Hw hj
 have hl:=r.length
 have hn:=vD
 have I':Inv X pins σ (upd H p (.lst (xs.set j v))) {s with heap:=s.heap.update p (Obj.mapSeq (·.setIfInBounds j u))}:=
  I.Oa hp ho (F8 its n j u) (r.set rv j) (by rw[List.length_set];exact hz) s.toks
 by_cases h0:0<=k
 ·have hk:k.toNat=j:=by
   rw[seqIndex_of h0 h4] at h1
   exact Option.some.inj h1
  exact PySem.W.ki_setAt ho h0 (by lia) (by rw[List.size_toArray,<-hl];exact h4) (by rw[hk];exact⟨_,I',q⟩)
 ·have hk:(k+(its.toArray.size:Int)).toNat=j:=by
   rw[seqIndex_neg (by lia) h3] at h1
   rw[List.size_toArray,<-hl]
   exact Option.some.inj h1
  exact PySem.W.ki_setBack ho (by lia) (by rw[List.size_toArray,<-hl];exact h3) (by lia) (by rw[hk];exact⟨_,I',q⟩)
theorem Cu(lo hi:Option Int)(n:Nat):(sliceBounds lo hi none n).1=((HT.AQ n 0 lo:Nat):Int)/\(sliceBounds lo hi none n).2.1=((HT.AQ n n hi:Nat):Int)/\(sliceBounds lo hi none n).2.2=1:=by
 refine⟨?_,?_,rfl⟩
 ·cases lo with
  |none=>simp[sliceBounds,HT.AQ]
  |some i=>
   simp only[sliceBounds,HT.AQ,Option.getD_none,show(1:Int)>0 by decide,if_true]
   by_cases h:i<0
   ·simp only[h,if_true] <;>lia
   ·simp only[h,if_false] <;>lia
 ·cases hi with
  |none=>simp[sliceBounds,HT.AQ]
  |some i=>
   simp only[sliceBounds,HT.AQ,Option.getD_none,show(1:Int)>0 by decide,if_true]
   by_cases h:i<0
   ·simp only[h,if_true] <;>lia
   ·simp only[h,if_false] <;>lia
theorem AR(its:List Value)(lo hi:Option Int):slicePick its.toArray lo hi none=((its.drop (HT.AQ its.length 0 lo)).take (HT.AQ its.length its.length hi - HT.AQ its.length 0 lo)).toArray:=by
 obtain⟨h1,h2,h3⟩:=Cu lo hi its.toArray.size
 unfold slicePick
 rw[h1,h2,h3]
 simp only[sliceRange_one,pick_run,List.size_toArray] <;>rfl
def Ob(K:PySem.W.Frag):V->Option Int->Option Int->Hp->VK->Prop:=fun x lo hi H Q=>∃a xs,x= .ref a/\hZ K H a xs/\∀p,H p=none->Q (.ref p) (upd H p (.lst (rK xs lo hi)))
theorem Mi:Q9 X (Ob X.K):=by
 intro pins s σ H x v vl vu lo hi sl Q I rx hs pl pu h
 obtain⟨a,xs,rfl,hx,q⟩:=h
 cases rx
 obtain⟨its,r,ht,hz⟩:=I.list hx
 have hlen:=r.length
 refine⟨"list",_,slot_list_getitem.lookup,ht.isList.typeIs,?_⟩
 refine wpAny_getItem_list_slice ht.isList hs pl pu .none (by simp) ?_ (by rw[List.size_toArray] <;>lia)
 rw[AR,<-hlen]
 refine⟨.ref s.heap.objs.size,_,I.laid (t':=s.toks) (o:= .lst (rK xs lo hi)) (fun b ob q=>Heap.get?_push_of_some _ q) (Nat.le_refl _) ?_,rfl,q _ (I.dP.fresh (Nat.le_refl _))⟩
 exact⟨Nat.le_trans (D9 xs lo hi) hz,_,0,(r.drop (HT.AQ xs.length 0 lo)).take (HT.AQ xs.length xs.length hi - HT.AQ xs.length 0 lo),Heap.get?_push_size _ rfl⟩
def xn:V->Bool
 | .gr=>true
 | .bl _=>true
 | .int _=>true
 | .str _=>true
 |_=>false
def IT:V->V->Bool
 | .gr,.gr=>true
 | .bl a,.bl b=>a==b
 | .bl a,.int b=>(if a then 1 else 0)==b
 | .int a,.bl b=>a==(if b then 1 else 0)
 | .int a,.int b=>a==b
 | .str a,.str b=>a==b
 |_,_=>false
theorem Oc{A:Around}{s:Shared}{y x:V}{u v:Value}(ry:RelV y u)(rx:RelV x v)(fy:xn y=true)(fx:xn x=true):SeqAt.EqAt A s u v (IT y x):=by
 cases y with
 |gr=>
  cases ry
  cases x with
  |gr=>cases rx;exact SeqAt.EqAt.same _
  |bl b=>cases rx;exact SeqAt.EqAt.none_bool b
  |int b=>obtain⟨t,rfl⟩:=rx;exact SeqAt.EqAt.none_int b t
  |str b=>obtain⟨t,rfl⟩:=rx;exact SeqAt.EqAt.none_str b t
  |_=>exact absurd (show false=true from fx) Bool.false_ne_true
 |bl a=>
  cases ry
  cases x with
  |gr=>cases rx;exact SeqAt.EqAt.bool_none a
  |bl b=>cases rx;exact SeqAt.EqAt.bool_bool a b
  |int b=>obtain⟨t,rfl⟩:=rx;exact SeqAt.EqAt.bool_int a b t
  |str b=>obtain⟨t,rfl⟩:=rx;exact SeqAt.EqAt.bool_str a b t
  |_=>exact absurd (show false=true from fx) Bool.false_ne_true
 |int a=>
  obtain⟨t',rfl⟩:=ry
  cases x with
  |gr=>cases rx;exact SeqAt.EqAt.int_none a t'
  |bl b=>cases rx;exact SeqAt.EqAt.int_bool a t' b
  |int b=>obtain⟨t,rfl⟩:=rx;exact SeqAt.EqAt.int_int a t' b t
  |str b=>obtain⟨t,rfl⟩:=rx;exact SeqAt.EqAt.int_str a t' b t
  |_=>exact absurd (show false=true from fx) Bool.false_ne_true
 |str a=>
  obtain⟨t',rfl⟩:=ry
  cases x with
  |gr=>cases rx;exact SeqAt.EqAt.str_none a t'
  |bl b=>cases rx;exact SeqAt.EqAt.str_bool a t' b
  |int b=>obtain⟨t,rfl⟩:=rx;exact SeqAt.EqAt.str_int a t' b t
  |str b=>obtain⟨t,rfl⟩:=rx;exact SeqAt.EqAt.str_str a t' b t
  |_=>exact absurd (show false=true from fx) Bool.false_ne_true
 |_=>exact absurd (show false=true from fy) Bool.false_ne_true
def F9(x:V)(u:Value):Bool:=match u with
 | .none=>IT .gr x
 | .bool b=>IT (.bl b) x
 | .int i _=>IT (.int i) x
 | .str z _=>IT (.str z) x
 |_=>false
theorem Kp{x y:V}{u:Value}(r:RelV y u)(f:xn y=true):F9 x u=IT y x:=by
 cases y with
 |gr=>cases r;rfl
 |bl b=>cases r;rfl
 |int i=>obtain⟨t,rfl⟩:=r;rfl
 |str z=>obtain⟨t,rfl⟩:=r;rfl
 |_=>exact absurd (show false=true from f) Bool.false_ne_true
theorem tJ{x:V}:∀{xs:List V} {us:List Value},Vals xs us->xs.all xn=true->us.any (F9 x)=xs.any fun y=>IT y x
 |_,_,.nil,_=>rfl
 |y::xs,u::us,.cons r t,f=>by
  rw[List.all_cons,Bool.and_eq_true] at f
  rw[List.any_cons,List.any_cons,Kp r f.1,tJ t f.2]
theorem pj{A:Around}{s:Shared}{x:V}{v:Value}(rx:RelV x v)(fx:xn x=true):∀{xs:List V} {us:List Value},Vals xs us->xs.all xn=true->∀u∈us,SeqAt.EqAt A s u v (F9 x u)
 |_,_,.nil,_=>fun u hu=>by cases hu
 |y::xs,u::us,.cons r t,f=>fun u' hu=>by
  rw[List.all_cons,Bool.and_eq_true] at f
  rcases List.mem_cons.mp hu with rfl |hu
  ·rw[Kp r f.1];exact Oc r rx f.1 fx
  ·exact pj rx fx t f.2 u' hu
def FN(x:V)(xs:List V):Bool:=xs.any fun y=>IT y x
def QL(K:PySem.W.Frag)(neg:Bool):R2:=fun x y H Q=>∃p xs,y= .ref p/\(hZ K H p xs\/AL K H p xs)/\xn x=true/\xs.all xn=true/\Q (.bl (if neg then !FN x xs else FN x xs)) H
theorem IU:tH X (compareOp .In) (QL X.K false):=by
 intro pins s σ H x y v u Q I rx ry h
 obtain⟨p,xs,rfl,hq,fx,fs,q⟩:=h
 cases ry
 rcases hq with hq |hq
 ·obtain⟨its,r,pl,hz⟩:=I.list hq
  refine SeqAt.in_listAt (F9 x) pl.isList (fun w hw=>pj rx fx r fs w (by simpa using hw)) ⟨.bl _,H,I,rfl,?_⟩
  rw[show its.toArray.any (F9 x)=its.any (F9 x) by simp,tJ r fs]
  exact q
 ·obtain⟨its,r,pl,hz⟩:=I.tuple hq
  refine SeqAt.in_tupleAt (F9 x) pl (fun w hw=>pj rx fx r fs w (by simpa using hw)) ⟨.bl _,H,I,rfl,?_⟩
  rw[show its.toArray.any (F9 x)=its.any (F9 x) by simp,tJ r fs]
  exact q
theorem Cv:tH X (compareOp .NotIn) (QL X.K true):=by
 intro pins s σ H x y v u Q I rx ry h
 obtain⟨p,xs,rfl,hq,fx,fs,q⟩:=h
 cases ry
 rcases hq with hq |hq
 ·obtain⟨its,r,pl,hz⟩:=I.list hq
  refine SeqAt.notIn_listAt (F9 x) pl.isList (fun w hw=>pj rx fx r fs w (by simpa using hw)) ⟨.bl _,H,I,rfl,?_⟩
  rw[show its.toArray.any (F9 x)=its.any (F9 x) by simp,tJ r fs]
  exact q
 ·obtain⟨its,r,pl,hz⟩:=I.tuple hq
  refine SeqAt.notIn_tupleAt (F9 x) pl (fun w hw=>pj rx fx r fs w (by simpa using hw)) ⟨.bl _,H,I,rfl,?_⟩
  rw[show its.toArray.any (F9 x)=its.any (F9 x) by simp,tJ r fs]
  exact q
theorem Cw:kW X (.builtin "len") (fun xs H Q=>∃p ys,xs=[.ref p]/\(hZ X.K H p ys\/AL X.K H p ys)/\Q (.int ys.length) H):=by
 intro pins s σ H xs us Q I r h
 obtain⟨p,ys,rfl,hq,q⟩:=h
 obtain⟨u,rfl,rx⟩:=vals1 r
 cases rx
 have hn:=vD
 rcases hq with hq |hq
 ·obtain⟨its,r',pl,hz⟩:=I.list hq
  have hlen:=r'.length
  exact Calls.call_len_list pl.isList (by simp only[List.size_toArray] <;>lia) ⟨.int ys.length,H,I.tok _,⟨s.toks+1,by rw[List.size_toArray,hlen]⟩,q⟩
 ·obtain⟨its,r',pl,hz⟩:=I.tuple hq
  have hlen:=r'.length
  exact len_tuple pl (by simp only[List.size_toArray] <;>lia) ⟨.int ys.length,H,I.tok _,⟨s.toks+1,by rw[List.size_toArray,hlen]⟩,q⟩
theorem Cy:kW X (.type "list") (fun xs H Q=>∃p ys,xs=[.ref p]/\(hZ X.K H p ys\/AL X.K H p ys)/\∀l,H l=none->Q (.ref l) (upd H l (.lst ys))):=by
 intro pins s σ H xs us Q I r h
 obtain⟨p,ys,rfl,hq,q⟩:=h
 obtain⟨u,rfl,rx⟩:=vals1 r
 cases rx
 have fin:∀(its:List Value),Vals ys its->ys.length<=sizeLine->∀(h':Heap) (c':Nat),(∀b o',s.heap.get? b=some o'->h'.get? b=some o')->
   h'.get? s.heap.objs.size=some {cls:= .type "list",dict:=none,data:= .seq its.toArray c',slots:= #[]}->EP X pins σ Q (.ref s.heap.objs.size) {s with heap:=h'}:=fun its r' hz h' c' kp e=>
  ⟨.ref s.heap.objs.size,_,I.laid (t':=s.toks) kp (Nat.le_refl _) (show gL X.prog X.w _ h' _ (.lst ys) from⟨hz,its,c',r',e⟩),rfl,q _ (I.dP.fresh (Nat.le_refl _))⟩
 rcases hq with hq |hq
 ·obtain⟨its,r',pl,hz⟩:=I.list hq
  have hlen:=r'.length
  obtain⟨o,ho,hc,n,hd⟩:=pl.isList
  exact call_list_seq p (.inl rfl) ho hc hd (fun h' c' kp e=>fin its r' hz h' c' kp e) (by simp only[List.size_toArray] <;>lia)
 ·obtain⟨its,r',pl,hz⟩:=I.tuple hq
  have hlen:=r'.length
  obtain⟨o,ho,hc,n,hd⟩:=pl
  exact call_list_seq p (.inr rfl) ho hc hd (fun h' c' kp e=>fin its r' hz h' c' kp e) (by simp only[List.size_toArray] <;>lia)
def RQ(K:PySem.W.Frag)(T:String)(x:V)(H:Hp):Prop:=match x with
 | .str _=>T="str"
 | .int _=>T="int"
 | .ref p=>(T="list"/\∃xs,hZ K H p xs)\/(T="tuple"/\∃o,K.lookup p=some o/\o.cls= .type "tuple"/\o.dict=none)\/
   (T="dict"/\((∃kvs,H p=some (.dK kvs))\/∃kvs,H p=some (.dT kvs)))\/(T="set"/\∃S n,H p=some (.set S n))
 |_=>False
theorem Od{pins:List (Addr×Obj)}{σ:St}{H:Hp}{s:Shared}{T:String}{x:V}{v:Value}(I:Inv X pins σ H s)(r:RelV x v)(ty:RQ X.K T x H):
  s.TypeIs v T/\∀a,v= .ref a->∃ob,s.heap.get? a=some ob/\ob.dict=none:=by
 cases x with
 |str z=>
  obtain⟨t,rfl⟩:=r
  cases(show T="str" from ty)
  exact⟨typeIs_str s z t,fun _ e=>nomatch e⟩
 |int i=>
  obtain⟨t,rfl⟩:=r
  cases(show T="int" from ty)
  exact⟨typeIs_int s i t,fun _ e=>nomatch e⟩
 |ref p=>
  cases r
  rcases ty with⟨rfl,xs,hq⟩ |⟨rfl,o,hk,hc,hd⟩ |⟨rfl,hk⟩ |⟨rfl,S,n,hk⟩
  ·obtain⟨its,_,pl,_⟩:=I.list hq
   refine⟨pl.isList.typeIs,fun a e=> ?_⟩
   cases e
   obtain⟨o,n,e,c,hd,_⟩:=pl
   exact⟨o,e,hd⟩
  ·refine⟨⟨o,I.J0 p o hk,hc⟩,fun a e=> ?_⟩
   cases e
   exact⟨o,I.J0 _ o hk,hd⟩
  ·have z:∃o,s.heap.get? p=some o/\o.ExactDict:=by
    rcases hk with⟨kvs,hk⟩ |⟨kvs,hk⟩
    ·obtain⟨_,_,_,_,o,_,_,e,ex,_⟩:=I.dP p _ hk
     exact⟨o,e,ex⟩
    ·obtain⟨_,_,_,_,o,_,_,e,ex,_⟩:=I.dP p _ hk
     exact⟨o,e,ex⟩
   obtain⟨o,e,ex⟩:=z
   refine⟨⟨o,e,ex.1⟩,fun a e2=> ?_⟩
   cases e2
   exact⟨o,e,ex.2.1⟩
  ·obtain⟨o,_,_,_,e,ex,_⟩:=I.dP p _ hk
   refine⟨⟨o,e,ex.1⟩,fun a e2=> ?_⟩
   cases e2
   exact⟨o,e,ex.2.1⟩
 |_=>exact False.elim ty
def RR(K:PySem.W.Frag)(T:String)(r:V->List V->Hp->VK->Prop)(to:TE)(t:TA):TE:=fun σ H Q=>to σ H fun x H1=>RQ K T x H1/\t σ H1 fun xs H2=>r x xs H2 Q
variable {o e:Expr}{es:List Expr}{to:TE}{t:TA}{name:Str}{apos cpos:Pos}{T id:String}{r:V->List V->Hp->VK->Prop}
theorem kX(pa:PlainAttrs T)(slot:Slot T name id)(hty:typeOf (.builtin id)=pure (.type "method_descriptor"))(hm:R6 X id r)(ho:PE X o to)(ha:PA X (e::es) t)
  (hbase:attributeBase o name X.env (eval o X.env)=eval o X.env:=by rfl)
  (hfew:((backTo cpos (starEach (e::es) X.env)).all (fun x=> !x.1)&&(backToKw cpos (keywordEach [] X.env)).all (fun x=>x.1.isSome)
   &&decide ((e::es).length+([]:List Keyword).length+(if([]:List Keyword).isEmpty then 0 else 1)<30))=true:=by rfl)
  (hline:(apos.endLine==cpos.line)=true:=by rfl) (hs:starEach (e::es) X.env=(false,eval e X.env)::starEach es X.env:=by rfl) (hplain:(backTo cpos (starEach es X.env)).any (·.1)=false:=by rfl):
  PE X (.Call (.Attribute o name apos) (e::es) [] cpos) (RR X.K T r to t):=by
 intro pins s σ H Q I h
 refine wpAny_Call_method_late hbase hfew hline rfl (dN (ho pins s σ H _ I h) fun v s1 ⟨x,H1,I1,r1,ty,q1⟩=> ?_)
 obtain⟨h1,h2⟩:=Od I1 r1 ty
 refine⟨T,id,pa,slot,hty,h1,h2,?_⟩
 have hA:=ha cpos pins s1 σ H1 _ I1 q1
 rw[hs] at hA⊢
 refine Calls.callWith_builtin (by show(false ||(backTo cpos (starEach es X.env)).any (·.1))=false;rw[hplain] <;>rfl) (Calls.evalArgs_plain ?_)
 exact dN hA fun us s2 ⟨vs,H2,I2,r2,q2⟩=>hm pins s2 σ H2 x vs v us Q I2 r1 r2 q2
end
def RS(X:Cx)(id:String)(r:V->List V->Hp->VK->Prop):Prop:=
 ∀(pins:List (Addr×Obj)) (s:Shared) (σ:St) (H:Hp) (x:V) (xs:List V) (v:Value) (us:List Value) (Q:VK),Inv X pins σ H s->RelV x v->Vals xs us->r x xs H Q->
  wpAny (model X.prog X.w) X.A (call (.builtin id) (v::us)) (EP X pins σ Q) X.xe s
theorem Vals.one:∀{x:V} {us:List Value},Vals [x] us->∃u,us=[u]/\RelV x u
 |_,_,.cons r .nil=>⟨_,rfl,r⟩
theorem Vals.rep{xs:List V}{us:List Value}(h:Vals xs us):∀k:Nat,Vals (List.replicate k xs).flatten (List.replicate k us).flatten
 |0=> .nil
 |k+1=>by
  rw[List.replicate_succ,List.replicate_succ,List.flatten_cons,List.flatten_cons]
  exact Vals.append h (Vals.rep h k)
theorem foldl_rep(its:List Value):∀(k:Nat) (acc:List Value),
  List.foldl (fun x1 x2=>x1 ++ x2) acc.toArray (List.replicate k its.toArray)=(acc ++ (List.replicate k its).flatten).toArray
 |0,acc=>by simp
 |k+1,acc=>by
  have e:acc.toArray ++ its.toArray=(acc ++ its).toArray:=by simp
  have e2:(acc ++ its) ++ (List.replicate k its).flatten=acc ++ (List.replicate (k+1) its).flatten:=by
   rw[List.replicate_succ,List.flatten_cons,List.append_assoc]
  rw[<-e2,<-foldl_rep its k (acc ++ its),<-e,List.replicate_succ,List.foldl_cons]
section
variable {X:Cx}{pins:List (Addr×Obj)}{σ:St}{H:Hp}{s:Shared}{l b:Addr}{xs ys zs:List V}
theorem Inv.Qa{its its':List Value}{n:Nat}{f:Array Value->Array Value}{t':Nat}(I:Inv X pins σ H s)(hH:H l=some (.lst xs))
  (e:s.heap.get? l=some {cls:= .type "list",data:= .seq its.toArray n}) (hf:f its.toArray=its'.toArray) (hv:Vals ys its') (hz:ys.length<=sizeLine):
  Inv X pins σ (upd H l (.lst ys)) {s with heap:=s.heap.update l (Obj.mapSeq f),toks:=t'}:=by
 have q:=PySem.IsL.update e f
 rw[hf] at q
 refine I.write (x:=l) (e:=l) (by rw[hH];exact trivial) (.inl rfl) (fun b' u hb hu=>(Heap.get?_update_other s.heap (Obj.mapSeq f) (Ne.symm hb)).trans hu) ⟨_,q⟩ ?_
 exact⟨hz,its',_,hv,q⟩
theorem Inv.Qb{its:List Value}{t':Nat}(I:Inv X pins σ H s)(hv:Vals ys its)(hz:ys.length<=sizeLine):
  Inv X pins σ (upd H s.heap.objs.size (.lst ys)) {s with heap:=s.heap.push {cls:= .type "list",data:= .seq its.toArray},toks:=t'}:=
 I.laid (fun _ _ q=>Heap.get?_push_of_some _ q) (Nat.le_refl _) ⟨hz,its,0,hv,Heap.get?_push_size _ rfl⟩
theorem Inv.fresh(I:Inv X pins σ H s):H s.heap.objs.size=none:=I.dP.fresh (Nat.le_refl _)
theorem Inv.IV(I:Inv X pins σ H s)(hH:H l=some (.lst xs)):xs.length<=sizeLine/\∃(its:List Value) (n:Nat),Vals xs its/\xs.length=its.length/\s.heap.get? l=some {cls:= .type "list",data:= .seq its.toArray n}:=by
 obtain⟨z,its,n,r,e⟩:=I.dP l _ hH
 exact⟨z,its,n,r,r.length,e⟩
theorem Ea{n:Nat}(h:n<=sizeLine):Builtin.List.listTooLong n=false:=by
 unfold Builtin.List.listTooLong
 exact decide_eq_false (by lia)
end
section
variable {X:Cx}
def Hy:V->List V->Hp->VK->Prop:=fun x vs H Q=>∃l xs y,x= .ref l/\vs=[y]/\H l=some (.lst xs)/\xs.length<sizeLine/\Q .gr (upd H l (.lst (xs ++ [y])))
theorem dk:RS X "list.append" Hy:=by
 intro pins s σ H x vs v us Q I rx rv h
 obtain⟨l,xs,y,rfl,rfl,hH,hz,q⟩:=h
 cases rx
 obtain⟨u,rfl,ru⟩:=rv.one
 obtain⟨z,its,n,r,hl,e⟩:=I.IV hH
 refine call_meets F.slot_list_append ⟨_,e,rfl⟩ F.entry_list_append (F.args_list_append_2 _ _) (PySem.list_append l its.toArray n u (by rw[List.size_toArray];lia)) ⟨e,?_⟩
 refine⟨.gr,_,I.Qa (its':=its ++ [u]) hH e (by simp) (r.append (.cons ru .nil)) ?_,rfl,q⟩
 rw[List.length_append,List.length_singleton]
 lia
def Mj:V->List V->Hp->VK->Prop:=fun x vs H Q=>∃l b xs zs,x= .ref l/\vs=[.ref b]/\H l=some (.lst xs)/\H b=some (.lst zs)/\xs.length+zs.length<=sizeLine/\Q .gr (upd H l (.lst (xs ++ zs)))
theorem Bv:RS X "list.extend" Mj:=by
 intro pins s σ H x vs v us Q I rx rv h
 obtain⟨l,b,xs,zs,rfl,rfl,hH,hB,hz,q⟩:=h
 cases rx
 obtain⟨u,rfl,ru⟩:=rv.one
 cases ru
 obtain⟨z,its,n,r,hl,e⟩:=I.IV hH
 obtain⟨z2,its2,n2,r2,hl2,e2⟩:=I.IV hB
 have hsz:its.toArray.size+its2.toArray.size<=sizeLine:=by rw[List.size_toArray,List.size_toArray];lia
 have hlong:¬(!its.toArray.isEmpty&&Builtin.List.listTooLong (its.toArray.size+its2.toArray.size))=true:=by
  rw[Ea hsz,Bool.and_false]
  exact Bool.false_ne_true
 refine call_meets F.slot_list_extend ⟨_,e,rfl⟩ F.entry_list_extend (F.args_list_extend_2 _ _)
  (AutoSeq1.list_extend_list_list_0 l its.toArray n b its2.toArray n2 hlong (by rw[List.size_toArray];lia) (by lia)) ⟨e,e2,?_⟩
 refine⟨.gr,_,I.Qa (its':=its ++ its2) hH e (by simp) (r.append r2) ?_,rfl,q⟩
 rw[List.length_append]
 lia
def Oe:R2:=fun x y H Q=>∃l b xs zs,x= .ref l/\y= .ref b/\H l=some (.lst xs)/\H b=some (.lst zs)/\xs.length+zs.length<=sizeLine/\∀p,H p=none->Q (.ref p) (upd H p (.lst (xs ++ zs)))
theorem mY:tH X (binaryOp .Add) Oe:=by
 intro pins s σ H x y v u Q I rx ry h
 obtain⟨l,b,xs,zs,rfl,rfl,hH,hB,hz,q⟩:=h
 cases rx
 cases ry
 obtain⟨z,its,n,r,hl,e⟩:=I.IV hH
 obtain⟨z2,its2,n2,r2,hl2,e2⟩:=I.IV hB
 refine PySem.P.add_list e e2 ?_ (by rw[List.size_toArray,List.size_toArray];lia)
 have ea:its.toArray ++ its2.toArray=(its ++ its2).toArray:=by simp
 rw[ea]
 exact⟨.ref _,_,I.Qb (t':=s.toks) (r.append r2) (by rw[List.length_append];lia),rfl,q _ I.fresh⟩
def Ra:R2:=fun x y H Q=>∃l k xs,x= .ref l/\y= .int k/\H l=some (.lst xs)/\-(2^63)<=k/\k<2^63/\xs.length*k.toNat<=sizeLine/\
 ∀p,H p=none->Q (.ref p) (upd H p (.lst (List.replicate k.toNat xs).flatten))
theorem len_rep{α:Type}(xs:List α)(k:Nat):(List.replicate k xs).flatten.length=k*xs.length:=by
 induction k with
 |zero=>simp
 |succ k ih=>rw[List.replicate_succ,List.flatten_cons,List.length_append,ih,Nat.succ_mul,Nat.add_comm]
theorem Cz:tH X (binaryOp .Mult) Ra:=by
 intro pins s σ H x y v u Q I rx ry h
 obtain⟨l,k,xs,rfl,rfl,hH,h1,h2,hz,q⟩:=h
 cases rx
 obtain⟨t,rfl⟩:=ry
 obtain⟨z,its,n,r,hl,e⟩:=I.IV hH
 have hlen:its.toArray.size*k.toNat<=sizeLine:=by rw[List.size_toArray,<-hl];exact hz
 have hcap:¬its.toArray.size*k.toNat>(2^63 - 1) / 8:=by
  have:(sizeLine:Nat)<=(2^63 - 1) / 8:=by decide
  lia
 have hfit:¬(!Builtin.List.listFitsIndex k)=true:=by
  rw[fitsIndex_both h1 h2]
  exact Bool.false_ne_true
 have hlong:¬Builtin.List.listTooLong (its.toArray.size*k.toNat)=true:=by
  rw[Ea hlen]
  exact Bool.false_ne_true
 have hnew:List.foldl (fun x1 x2=>x1 ++ x2) #[] (List.replicate (if its.toArray.isEmpty=true then 0 else k.toNat) its.toArray)=(List.replicate k.toNat its).flatten.toArray:=by
  have f0:∀m:Nat,List.foldl (fun x1 x2=>x1 ++ x2) #[] (List.replicate m its.toArray)=(List.replicate m its).flatten.toArray:=fun m=>by
   have:=foldl_rep its m []
   rw[List.nil_append] at this
   exact this
  rw[f0]
  cases its with
  |nil=>simp
  |cons a r'=>rw[if_neg (by simp)]
 refine wpAny_binaryOp_repeat_ref (T:="list") (U:="int") (by decide) ⟨_,e,rfl⟩ (fun s'=>typeIs_int s' k t) noFill_list_mul F.fills_int_mul F.slot_int_rmul repeat_list F.slot_int_index.lookup
  (call_meets F.slot_int_rmul (typeIs_int s k t) F.entry_int_rmul (F.args_int_rmul_2 _ _) (int___rmul___int_list k t l its.toArray n)
   ⟨e,rfl,⟨_,e,rfl⟩,call_meets F.slot_list_mul ⟨_,e,rfl⟩ F.entry_list_mul (F.args_list_mul_2 _ _) (AutoListH.list___mul___list_int_3 l its.toArray n k t hfit hcap hlong) ⟨e,?_⟩⟩)
 rw[hnew]
 exact⟨.ref _,_,I.Qb (t':=s.toks) (r.rep k.toNat) (by rw[len_rep,Nat.mul_comm];exact hz),rfl,q _ I.fresh⟩
end
theorem Vals.ints:∀{ns:List Int} {us:List Value},Vals (ns.map V.int) us->IntsAre us ns
 |[],us,h=>by
  rw[List.map_nil] at h
  cases h
  exact IntsAre.nil
 |n::ns,us,h=>by
  rw[List.map_cons] at h
  cases h with
  |cons r t=>
   obtain⟨k,rfl⟩:=r
   exact IntsAre.cons n k (Vals.ints t)
theorem Vals.Rb:∀{bs:List Bool} {us:List Value},Vals (bs.map V.bl) us->us=bs.map Value.bool
 |[],us,h=>by
  rw[List.map_nil] at h
  cases h
  rfl
 |b::bs,us,h=>by
  rw[List.map_cons] at h
  cases h with
  |cons r t=>
   cases r
   rw[Vals.Rb t,List.map_cons]
theorem Vals.Of{a:Addr}{us:List Value}(r:Vals [V.ref a] us):us=[Value.ref a]:=by
 cases r with
 |cons r t=>
  cases t
  cases r
  rfl
section
variable {prog:Program}{w:World}{A:Around}{E:Value->Shared->Prop}{s:Shared}{l:Addr}{its:List Value}{ns:List Int}{Q:Value->Shared->Prop}
theorem Ml(hh:A.handled=none)(hl:s.heap.IsList l its.toArray)(hi:IntsAre its ns)
  (h:∀h' tk t',(∀b o,s.heap.get? b=some o->h'.get? b=some o)->Q (.int ns.sum t') {s with heap:=h',toks:=tk}):wpAny (model prog w) A (call (.builtin "sum") [.ref l]) Q E s:=by
 obtain⟨xs,e⟩:=hi.allInts.items
 have hn:numsOf (intItems xs).toList=ns:=by rw[<-e];exact hi.numsOf
 rw[nums_intItems] at hn
 rw[e] at hl
 refine PySem.sum_intListG hh hl fun h' tk t' hk=> ?_
 have:=h h' tk t' hk
 rw[preSum_eq,List.take_of_length_le (by simp),hn];exact this
end
section
variable {X:Cx}
def Qc(K:PySem.W.Frag):List V->Hp->VK->Prop:=fun vs H Q=>∃(a:Addr) (ns:List Int),vs=[V.ref a]/\hZ K H a (ns.map V.int)/\Q (.int ns.sum) H
theorem Og(hc:X.calm=true):kW X (.builtin "sum") (Qc X.K):=by
 intro pins s σ H vs us Q I r h
 obtain⟨a,ns,rfl,hs,q⟩:=h
 obtain⟨its,rv,hl,_⟩:=I.list hs
 rw[Vals.Of r]
 exact Ml (I.ok.hd hc) hl.isList rv.ints fun h' tk t' hk=>⟨.int _,H,I.kept hk,⟨_,rfl⟩,q⟩
end
theorem Eb{prog:Program}{w:World}{A:Around}{E:Value->Shared->Prop}{s:Shared}{l:Addr}{items:Array Value}{Q:Value->Shared->Prop}(hl:s.heap.IsList l items)
  (h:∀s₂:Shared,s₂={s with heap:=s.heap.push {cls:= .type "list_iterator",data:= .fields #[.ref l,.int 0 0]}}->
   (s₂.heap.IsListIter s.heap.objs.size l 0/\s₂.heap.IsList l items)->l≠s.heap.objs.size->Q (.ref s.heap.objs.size) s₂):wpAny (model prog w) A (pyIter (.ref l)) Q E s:=by
 have hlt:l<s.heap.objs.size:=by obtain⟨_,e,_⟩:=hl;exact Heap.lt_size e
 exact wpAny_pyIter_list hl (h _ rfl ⟨⟨_,Heap.get?_push_size _ rfl,rfl,rfl⟩,hl.push _⟩ (Nat.ne_of_lt hlt))
theorem xo{prog:Program}{w:World}{A:Around}{bs:List Bool}{its:List Value}(e:its=bs.map Value.bool):
  TruthOf prog w A (fun i v=>its.toArray[i]? =some v) (fun i=>bs.getD i false):=fun i v s Q E hv hq=>by
 have hv':its[i]? =some v:=by simpa using hv
 rw[e,List.getElem?_map] at hv'
 obtain⟨b,hb,rfl⟩:=Option.map_eq_some_iff.mp hv'
 have hg:bs.getD i false=b:=by rw[gDe,hb] <;>rfl
 have hq':Q (bs.getD i false) s:=hq
 rw[hg] at hq'
 exact wpAny_truthy_bool hq'
theorem any_range:∀bs:List Bool,(List.range bs.length).any (fun i=>bs.getD i false)=bs.any id
 |[]=>rfl
 |b::bs=>by
  rw[List.length_cons,List.range_succ_eq_map,List.any_cons,List.any_map,List.any_cons,<-any_range bs]
  all_goals rfl
theorem all_range:∀bs:List Bool,(List.range bs.length).all (fun i=>bs.getD i false)=bs.all id
 |[]=>rfl
 |b::bs=>by
  rw[List.length_cons,List.range_succ_eq_map,List.all_cons,List.all_map,List.all_cons,<-all_range bs]
  all_goals rfl
section
variable {X:Cx}
def Qe(K:PySem.W.Frag):List V->Hp->VK->Prop:=fun vs H Q=>∃(a:Addr) (bs:List Bool),vs=[V.ref a]/\hZ K H a (bs.map V.bl)/\Q (.bl (bs.any id)) H
def Qg(K:PySem.W.Frag):List V->Hp->VK->Prop:=fun vs H Q=>∃(a:Addr) (bs:List Bool),vs=[V.ref a]/\hZ K H a (bs.map V.bl)/\Q (.bl (bs.all id)) H
theorem Oh(hc:X.calm=true):kW X (.builtin "any") (Qe X.K):=by
 intro pins s σ H vs us Q I r h
 obtain⟨a,bs,rfl,hs,q⟩:=h
 obtain⟨its,rv,hl,_⟩:=I.list hs
 rw[Vals.Of r]
 have hb:=rv.Rb
 refine call_any_walk (Eb hl.isList fun s₂ e2 st hne=> ?_)
 subst e2
 refine⟨_,_,_,_,_,_,_,rfl,Walks.list (A:=X.A.in1) (I.ok.hd hc) _ a hne its.toArray,st,xo hb,fun h' tk hk=> ?_⟩
 refine⟨.bl _,H,I.kept fun b o eo=>hk b o (fun hmem=> ?_) (Heap.get?_push_of_some _ eo),?_,q⟩
 ·rcases List.mem_cons.mp hmem with e1 |hmem
  ·exact absurd (e1▸Heap.lt_size eo) (Nat.lt_irrefl _)
  ·cases hmem
 ·show Value.bool _=Value.bool _
  rw[<-any_range,hb,List.size_toArray,lMp]
theorem Oi(hc:X.calm=true):kW X (.builtin "all") (Qg X.K):=by
 intro pins s σ H vs us Q I r h
 obtain⟨a,bs,rfl,hs,q⟩:=h
 obtain⟨its,rv,hl,_⟩:=I.list hs
 rw[Vals.Of r]
 have hb:=rv.Rb
 refine call_all_walk (Eb hl.isList fun s₂ e2 st hne=> ?_)
 subst e2
 refine⟨_,_,_,_,_,_,_,rfl,Walks.list (A:=X.A.in1) (I.ok.hd hc) _ a hne its.toArray,st,xo hb,fun h' tk hk=> ?_⟩
 refine⟨.bl _,H,I.kept fun b o eo=>hk b o (fun hmem=> ?_) (Heap.get?_push_of_some _ eo),?_,q⟩
 ·rcases List.mem_cons.mp hmem with e1 |hmem
  ·exact absurd (e1▸Heap.lt_size eo) (Nat.lt_irrefl _)
  ·cases hmem
 ·show Value.bool _=Value.bool _
  rw[<-all_range,hb,List.size_toArray,lMp]
end
abbrev Kq(h:Heap)(c:Addr)(v:Option Value):Prop:=h.IsCell c v
def Rc(scope sc:Scope):Scope:=
 {scope with names:=scope.names.map fun(n,k)=>if(k== .free&&sc.kind== .function&&sc.names.lookup n==some .cell) then(n,.cell) else(n,k)}
def cy(cells:List (Str×Addr)):List (Str×NameKind)->List (Str×Addr)->List (Str×Addr)
 |[],acc=>acc
 |(n,k)::r,acc=>if k== .free then cy cells r ((n,(cells.lookup n).getD 0)::acc) else cy cells r acc
theorem tK(env:Env)(f:Str×NameKind->List (Str×Addr)->Sem (ForInStep (List (Str×Addr))))
  (hf:∀n k c,f (n,k) c=if k== .free then(do let a<-cellOf env n;pure (.yield ((n,a)::c))) else pure (.yield c)):
  ∀(names:List (Str×NameKind)) (acc:List (Str×Addr)),(∀y∈names,y.2= .free->∃c,env.cells.lookup y.1=some c)->forIn names acc f=pure (cy env.cells names acc)
 |[],acc,_=>by rw[List.forIn_nil];rfl
 |(n,k)::r,acc,h=>by
  rw[List.forIn_cons,hf]
  have ih:=fun acc=>tK env f hf r acc fun y hy=>h y (List.mem_cons_of_mem _ hy)
  unfold cy
  by_cases hk:(k==NameKind.free)=true
  ·rw[if_pos hk,if_pos hk]
   obtain⟨c,hc⟩:=h (n,k) List.mem_cons_self (by simpa using hk)
   have e:cellOf env n=pure c:=by unfold cellOf;rw[hc]
   rw[e]
   have e2:(env.cells.lookup n).getD 0=c:=by rw[hc];rfl
   rw[e2]
   exact ih _
  ·rw[if_neg hk,if_neg hk]
   exact ih _
theorem Ga{scope:Scope}{env:Env}(h:∀y∈scope.names,y.2= .free->∃c,env.cells.lookup y.1=some c):closureFor scope env=pure (cy env.cells scope.names []):=by
 simp only[closureFor]
 rw[tK env _ (fun n k c=>rfl) scope.names [] h]
 rfl
theorem mem_lookup{α:Type}:∀{l:List (Str×α)} {n:Str} {c:α},(n,c)∈l->∃c',l.lookup n=some c'
 |(k,v)::r,n,c,h=>by
  rw[List.lookup_cons]
  cases hb:n==k with
  |true=>exact⟨_,rfl⟩
  |false=>
   rcases List.mem_cons.mp h with e |h
   ·cases e;simp at hb
   ·exact mem_lookup h
theorem kY{cells:List (Str×Addr)}:∀{names:List (Str×NameKind)} {acc:List (Str×Addr)} {n:Str} {c:Addr},(n,c)∈cy cells names acc->(n,c)∈acc\/((n,.free)∈names/\c=(cells.lookup n).getD 0)
 |[],_,_,_,h=> .inl h
 |(m,k)::r,acc,n,c,h=>by
  unfold cy at h
  split at h
  ·rename_i hk
   have hk:k= .free:=by simpa using hk
   rcases kY h with h |⟨h1,h2⟩
   ·rcases List.mem_cons.mp h with e |h
    ·cases e;exact .inr ⟨hk▸List.mem_cons_self,rfl⟩
    ·exact .inl h
   ·exact .inr ⟨List.mem_cons_of_mem _ h1,h2⟩
  ·rcases kY h with h |⟨h1,h2⟩
   ·exact .inl h
   ·exact .inr ⟨List.mem_cons_of_mem _ h1,h2⟩
theorem pw{cells:List (Str×Addr)}:∀{names:List (Str×NameKind)} {acc:List (Str×Addr)} {p:Str×Addr},p∈acc->p∈cy cells names acc
 |[],_,_,h=>h
 |(m,k)::r,acc,p,h=>by
  unfold cy
  split
  ·exact pw (List.mem_cons_of_mem _ h)
  ·exact pw h
theorem pC{cells:List (Str×Addr)}:∀{names:List (Str×NameKind)} {acc:List (Str×Addr)} {n:Str},(n,.free)∈names->(n,(cells.lookup n).getD 0)∈cy cells names acc
 |(m,k)::r,acc,n,h=>by
  unfold cy
  rcases List.mem_cons.mp h with e |h
  ·cases e
   exact pw List.mem_cons_self
  ·split
   ·exact pC h
   ·exact pC h
theorem mG:∀{names:List (Str×NameKind)} {h:Heap} {acc:List (Str×Addr)} {x:Str} {c:Addr},(x,c)∈cellsFrom h.objs.size names acc->
  (x,c)∈acc\/((x,.cell)∈names/\h.objs.size<=c/\Kq (pushCells h names) c none)
 |[],_,_,_,_,h=> .inl h
 |(n,k)::r,h,acc,x,c,hm=>by
  unfold cellsFrom at hm
  unfold pushCells
  split at hm
  ·rename_i hk
   rw[if_pos hk]
   have hk:k= .cell:=by simpa using hk
   rw[<-Heap.size_push h {cls:= .type "cell",data:= .cell none}] at hm
   rcases mG hm with hm |⟨h1,h2,h3⟩
   ·rcases List.mem_cons.mp hm with e |hm
    ·cases e
     exact .inr ⟨hk▸List.mem_cons_self,Nat.le_refl _,_,pushCells_keeps r _ _ _ (Heap.get?_push_size _ rfl),rfl⟩
    ·exact .inl hm
   ·rw[Heap.size_push] at h2
    exact .inr ⟨List.mem_cons_of_mem _ h1,Nat.le_of_succ_le h2,h3⟩
  ·rename_i hk
   rw[if_neg hk]
   rcases mG hm with hm |⟨h1,h2,h3⟩
   ·exact .inl hm
   ·exact .inr ⟨List.mem_cons_of_mem _ h1,h2,h3⟩
theorem qG:∀{names:List (Str×NameKind)} {n:Nat} {acc:List (Str×Addr)} {p:Str×Addr},p∈acc->p∈cellsFrom n names acc
 |[],_,_,_,h=>h
 |(m,k)::r,n,acc,p,h=>by
  unfold cellsFrom
  split
  ·exact qG (List.mem_cons_of_mem _ h)
  ·exact qG h
theorem vG:∀{names:List (Str×NameKind)} {n:Nat} {acc:List (Str×Addr)} {x:Str},(x,.cell)∈names->∃c,(x,c)∈cellsFrom n names acc
 |(m,k)::r,n,acc,x,h=>by
  unfold cellsFrom
  rcases List.mem_cons.mp h with e |h
  ·cases e
   exact⟨n,qG List.mem_cons_self⟩
  ·split
   ·exact vG h
   ·exact vG h
theorem vH:∀{names:List (Str×NameKind)} {h:Heap} {acc:List (Str×Addr)} {x y:Str} {c:Addr},(∀p∈acc,p.2<h.objs.size)->(∀x y c,(x,c)∈acc->(y,c)∈acc->x=y)->
  (x,c)∈cellsFrom h.objs.size names acc->(y,c)∈cellsFrom h.objs.size names acc->x=y
 |[],_,_,_,_,_,_,hi,h1,h2=>hi _ _ _ h1 h2
 |(n,k)::r,h,acc,x,y,c,hl,hi,h1,h2=>by
  unfold cellsFrom at h1 h2
  split at h1
  ·rename_i hk
   rw[if_pos hk] at h2
   rw[<-Heap.size_push h {cls:= .type "cell",data:= .cell none}] at h1 h2
   refine vH (h:=h.push _) (fun p hp=> ?_) (fun x y c a b=> ?_) h1 h2
   ·rw[Heap.size_push]
    rcases List.mem_cons.mp hp with rfl |hp
    ·exact Nat.lt_succ_self _
    ·exact Nat.lt_succ_of_lt (hl p hp)
   ·rcases List.mem_cons.mp a with e |a <;>rcases List.mem_cons.mp b with e' |b
    ·cases e;cases e';rfl
    ·cases e;exact absurd (hl _ b) (Nat.lt_irrefl _)
    ·cases e';exact absurd (hl _ a) (Nat.lt_irrefl _)
    ·exact hi _ _ _ a b
  ·rename_i hk
   rw[if_neg hk] at h2
   exact vH hl hi h1 h2
theorem Ec{M:Model}{A:Around}{E:Value->Shared->Prop}{s:Shared}{scope:Scope}{globals:Addr}{closure:List (Str×Addr)}{qual:Str}{func:Option Addr}{code:Value}{around:Env}{builtins:Addr}{Q:Env->Shared->Prop}
  (h:Q (newEnv scope s.heap.objs.size globals (cellsFrom (s.heap.objs.size+1) scope.names closure) qual func code (some around) builtins)
   {s with heap:=pushCells (s.heap.push {cls:= .type "dict",data:= .dict #[]}) scope.names}):
  wpAny M A (newFunctionEnv scope globals closure [] qual func code (some around) builtins) Q E s:=by
 simp only[newFunctionEnv,Option.isSome_some,if_true]
 refine wpAny_bind (wpAny_alloc ?_)
 refine wpAny_bind (wpAny_layCells _ (fun n k c=>rfl) scope.names closure _ _ ?_)
 rw[show({s with heap:=s.heap.push {cls:= .type "dict",data:= .dict #[]}}:Shared).heap.objs.size=s.heap.objs.size+1 from Heap.size_push ..]
 rw[List.forIn_nil]
 exact wpAny_bind (wpAny_pure (wpAny_pure h))
theorem pE{sc:Scope}:∀{names:List (Str×NameKind)} {x:Str} {k:NameKind},
  (names.map fun(n,k)=>if(k==NameKind.free&&sc.kind== .function&&sc.names.lookup n==some .cell) then(n,NameKind.cell) else(n,k)).lookup x=some k->
  ∃k',names.lookup x=some k'/\(k=k'\/(k'= .free/\k= .cell))
 |[],_,_,h=>by simp at h
 |(n,k₀)::r,x,k,h=>by
  have ih:= @pE sc r x k
  have h':List.lookup x ((if(k₀==NameKind.free&&sc.kind== .function&&sc.names.lookup n==some .cell)=true then(n,NameKind.cell) else(n,k₀))::(r.map _))=some k:=h
  cases hx:x==n with
  |true=>
   simp only[List.lookup_cons,hx]
   by_cases hc:(k₀==NameKind.free&&sc.kind== .function&&sc.names.lookup n==some .cell)=true
   ·rw[if_pos hc] at h'
    simp only[List.lookup_cons,hx] at h'
    cases h'
    simp only[Bool.and_eq_true,beq_iff_eq] at hc
    exact⟨k₀,rfl,.inr ⟨hc.1.1,rfl⟩⟩
   ·rw[if_neg hc] at h'
    simp only[List.lookup_cons,hx] at h'
    cases h'
    exact⟨_,rfl,.inl rfl⟩
  |false=>
   simp only[List.lookup_cons,hx]
   by_cases hc:(k₀==NameKind.free&&sc.kind== .function&&sc.names.lookup n==some .cell)=true
   ·rw[if_pos hc] at h'
    simp only[List.lookup_cons,hx] at h'
    exact ih h'
   ·rw[if_neg hc] at h'
    simp only[List.lookup_cons,hx] at h'
    exact ih h'
structure Ed(N:List Str)(sc scope:Scope)(own:List (Str×Nat)):Prop where
 kind:scope.kind= .function
 uniq:∀y∈scope.names,scope.names.lookup y.1=some y.2
 ix:∀p∈own,N[p.2]? =some p.1
 free:∀y∈scope.names,y.2= .free->sc.names.lookup y.1=some .cell\/sc.names.lookup y.1=some .free
 own:∀y∈scope.names,y.2= .local\/y.2= .cell->y.1∈own.map (·.1)\/y.1∉N
def wipe(σ:St):List Nat->St
 |[]=>σ
 |v::vs=>(wipe σ vs).set v none
theorem pF(σ:St):∀vs:List Nat,(wipe σ vs).length=σ.length
 |[]=>rfl
 |v::vs=>by unfold wipe;rw[List.length_set,pF σ vs]
theorem vI{σ:St}{i:Nat}{x:V}:∀{vs:List Nat},(wipe σ vs)[i]? =some (some x)->σ[i]? =some (some x)/\i∉vs
 |[],h=>⟨h,by simp⟩
 |v::vs,h=>by
  unfold wipe at h
  by_cases hi:v=i
  ·subst hi
   by_cases hv:v<(wipe σ vs).length
   ·rw[List.getElem?_set_self hv] at h;cases h
   ·rw[List.getElem?_eq_none (by simpa using hv)] at h;cases h
  ·rw[List.getElem?_set_ne hi] at h
   obtain⟨h1,h2⟩:=vI h
   exact⟨h1,by simp only[List.mem_cons,not_or];exact⟨fun e=>hi e.symm,h2⟩⟩
abbrev Cx.AM(X:Cx)(s:Shared)(H:Hp)(scope:Scope)(cenv:Env)(fp:List Addr):Cx:={X with Bm:=s,Pj:=H,env:=cenv,outer:=X.stack,ex:=fp,fn:=fun x=>scope.names.lookup x==some .cell,pn:=[],xe:=fun _ _=>False}
section
variable {X:Cx}{pins:List (Addr×Obj)}{σ:St}{H:Hp}{s:Shared}
theorem Ee{scope:Scope}{own:List (Str×Nat)}{fp:List Addr}(I:Inv X pins σ H s)(ok:Ed X.N X.env.scope scope own)(hN:X.N.Nodup)(hfp:∀b∈fp,xO X pins H b/\b<s.heap.objs.size):
  Inv (X.AM s H scope (compEnvC scope (cellsFrom (s.heap.objs.size+1) scope.names (cy X.env.cells scope.names [])) s.heap.objs.size X.env) fp) [] (wipe σ (own.map (·.2))) H {s with heap:=pushCells (s.heap.push {cls:= .type "dict",data:= .dict #[]}) scope.names}:=by
 have hfree:∀y∈scope.names,y.2= .free->∃c,X.env.cells.lookup y.1=some c:=fun y hy e=>by
  rcases ok.free y hy e with k |k
  ·exact I.ok.has _ (.inl k)
  ·exact I.ok.has _ (.inr k)
 generalize hcenv:compEnvC scope (cellsFrom (s.heap.objs.size+1) scope.names (cy X.env.cells scope.names [])) s.heap.objs.size X.env=cenv
 have kp:∀b o,s.heap.get? b=some o->(pushCells (s.heap.push {cls:= .type "dict",data:= .dict #[]}) scope.names).get? b=some o:=fun b o e=>pushCells_keeps _ _ _ _ (Heap.get?_push_of_some _ e)
 have hL:cenv.locals=s.heap.objs.size:=by rw[<-hcenv];rfl
 have hcl:cenv.cells=cellsFrom (s.heap.objs.size+1) scope.names (cy X.env.cells scope.names []):=by rw[<-hcenv];rfl
 have hsc:cenv.scope=Rc scope X.env.scope:=by rw[<-hcenv];rfl
 rw[<-Heap.size_push s.heap {cls:= .type "dict",data:= .dict #[]}] at hcl
 have cm:∀{y c},(y,c)∈cy X.env.cells scope.names []->X.env.cells.lookup y=some c/\c<s.heap.objs.size:=fun{y c} hm=>by
  rcases kY hm with hm |⟨h1,rfl⟩
  ·cases hm
  ·obtain⟨c,hc⟩:=hfree _ h1 rfl
   rw[hc]
   obtain⟨w,z⟩:=I.cell _ _ hc
   exact⟨rfl,z.lt⟩
 have mem:∀{y c},cenv.cells.lookup y=some c->(X.env.cells.lookup y=some c/\c<s.heap.objs.size)\/(s.heap.objs.size+1<=c/\Kq (pushCells (s.heap.push {cls:= .type "dict",data:= .dict #[]}) scope.names) c none):=fun{y c} e=>by
  rw[hcl] at e
  rcases mG (PySem.mem_of_lookup e) with hm |⟨_,h2,h3⟩
  ·exact .inl (cm hm)
  ·rw[Heap.size_push] at h2;exact .inr ⟨h2,h3⟩
 have look:∀{y},scope.names.lookup y=some .free->∃c,cenv.cells.lookup y=some c/\X.env.cells.lookup y=some c:=fun{y} hl=>by
  have hy:(y,NameKind.free)∈scope.names:=PySem.mem_of_lookup hl
  obtain⟨c',e'⟩:=mem_lookup (qG (names:=scope.names) (n:=(s.heap.push {cls:= .type "dict",data:= .dict #[]}).objs.size) (pC (cells:=X.env.cells) (acc:=[]) hy))
  rw[<-hcl] at e'
  refine⟨c',e',?_⟩
  rw[hcl] at e'
  rcases mG (PySem.mem_of_lookup e') with hm |⟨h1,_,_⟩
  ·exact(cm hm).1
  ·have:=ok.uniq _ h1
   rw[hl] at this;cases this
 have okB:(X.AM s H scope cenv fp).Ok:=by
  refine⟨I.ok.mod,by show cenv.scope.kind=_;rw[hsc];exact ok.kind,by show cenv.globals=_;rw[<-hcenv];exact I.ok.glob,by show cenv.builtins=_;rw[<-hcenv];exact I.ok.blt,by show s.heap.objs.size<=cenv.locals;rw[hL];exact Nat.le_refl _,
   fun y z c e1 e2=> ?_,fun y hy=> ?_,fun y c z e=> ?_,I.ok.hd,I.ok.frames,.inl rfl,fun b hb=>⟨?_,fun y c e z=> ?_⟩,I.bs,Nat.le_trans I.ok.L4 I.sz,fun b o e hb=> ?_,fun b hb z=> ?_,I.stack,I.Hj⟩
  ·have e1:cenv.cells.lookup y=some c:=e1
   have e2:cenv.cells.lookup z=some c:=e2
   rw[hcl] at e1 e2
   refine vH (fun p hp=> ?_) (fun y z c a b=>I.ok.inj y z c (cm a).1 (cm b).1) (PySem.mem_of_lookup e1) (PySem.mem_of_lookup e2)
   rw[Heap.size_push]
   exact Nat.lt_succ_of_lt (cm (y:=p.1) (c:=p.2) hp).2
  ·show ∃c,cenv.cells.lookup y=some c
   have key:∀k,cenv.kindOf y=some k->(k= .cell\/k= .free)->∃c,cenv.cells.lookup y=some c:=fun k hk hk'=>by
    unfold Env.kindOf at hk
    rw[hsc] at hk
    obtain⟨k',e,r⟩:=pE hk
    have:k'= .cell\/k'= .free:=by
     rcases r with rfl |⟨rfl,_⟩
     ·exact hk'
     ·exact .inr rfl
    rcases this with rfl |rfl
    ·obtain⟨c,hm⟩:=vG (n:=(s.heap.push {cls:= .type "dict",data:= .dict #[]}).objs.size) (acc:=cy X.env.cells scope.names []) (PySem.mem_of_lookup e)
     obtain⟨c',e'⟩:=mem_lookup hm
     exact⟨c',by rw[hcl];exact e'⟩
    ·obtain⟨c,h1,_⟩:=look e
     exact⟨c,h1⟩
   rcases hy with hy |hy
   ·exact key _ hy (.inl rfl)
   ·exact key _ hy (.inr rfl)
  ·have z:(scope.names.lookup y==some NameKind.cell)=true:=z
   have z:scope.names.lookup y=some .cell:=by simpa using z
   have e:cenv.cells.lookup y=some c:=e
   rw[hcl] at e
   rcases mG (PySem.mem_of_lookup e) with hm |⟨_,h2,_⟩
   ·rcases kY hm with hm |⟨h1,_⟩
    ·cases hm
    ·have q:=ok.uniq _ h1
     rw[z] at q;cases q
   ·rw[Heap.size_push] at h2
    exact Nat.le_of_succ_le h2
  ·show b≠cenv.locals
   rw[hL];exact Nat.ne_of_lt (hfp b hb).2
  ·have e:cenv.cells.lookup y=some c:=e
   rcases mem e with⟨h1,_⟩ |⟨h1,_⟩
   ·exact(hfp b hb).1.2.2.2.2.1 y c h1 z
   ·have h2:s.heap.objs.size+1<=b:=by rw[<-z];exact h1
    exact absurd (Nat.lt_of_lt_of_le (hfp b hb).2 (Nat.le_of_succ_le h2)) (Nat.lt_irrefl _)
  ·rcases(hfp b hb).1.2.2.2.1 with z |z
   ·exact I.ok.J7 b o e z
   ·exact absurd (Nat.lt_of_lt_of_le (Heap.lt_size e) (Nat.le_trans I.ok.L4 z)) (Nat.lt_irrefl _)
  ·rcases List.mem_cons.mp (I.FR b z) with z |z
   ·exact(hfp b hb).1.2.1 z
   ·exact(hfp b hb).1.2.2.1 z
 refine⟨okB,rfl,I.bare,Un.kept kp,⟨fun _=>none,?_,fun i y av e1 e2 e3=> ?_⟩,fun y c e=> ?_,?_,fun y c e=> ?_,fun p hp=> ?_,I.dP.kept kp,by rw[pF];exact I.len⟩
 ·show Heap.Ns _ cenv.locals _
  rw[hL]
  exact Heap.Ns.keeps (Heap.Ns.new ..) fun b o e=>pushCells_keeps _ _ _ _ e
 ·obtain⟨e2,hne⟩:=vI e2
  have hfr:scope.names.lookup y=some .free/\(cenv.kindOf y=some .cell\/cenv.kindOf y=some .free):=by
   have key:∀k,cenv.scope.names.lookup y=some k->k= .local\/k= .cell\/k= .free->scope.names.lookup y=some .free/\(cenv.kindOf y=some .cell\/cenv.kindOf y=some .free):=fun k hk hk'=>by
    have hk0:=hk
    rw[hsc] at hk
    obtain⟨k',e,r⟩:=pE hk
    have no:¬(k'= .local\/k'= .cell):=fun hh=>by
     rcases ok.own _ (PySem.mem_of_lookup e) hh with e' |e'
     ·obtain⟨p,hp,hpy⟩:=List.mem_map.mp e'
      have e3:=ok.ix p hp
      have:p.1=y:=hpy
      rw[this] at e3
      exact hne (List.mem_map.mpr ⟨p,hp,yE hN e3 e1⟩)
     ·exact e' (List.mem_of_getElem? e1)
    rcases r with rfl |⟨rfl,rfl⟩
    ·rcases hk' with rfl |rfl |rfl
     ·exact absurd (.inl rfl) no
     ·exact absurd (.inr rfl) no
     ·exact⟨e,.inr hk0⟩
    ·exact⟨e,.inl hk0⟩
   have e3:O6 cenv.scope y:=e3
   rcases e3 with e3 |e3 |e3
   ·exact key _ e3 (.inl rfl)
   ·exact key _ e3 (.inr (.inl rfl))
   ·exact key _ e3 (.inr (.inr rfl))
  obtain⟨m,hn,hl⟩:=I.loc
  have hvis:O6 X.env.scope y:=(ok.free _ (PySem.mem_of_lookup hfr.1) rfl).elim (fun k=> .inr (.inl k)) (fun k=> .inr (.inr k))
  obtain⟨w,r,q⟩:=hl i y av e1 e2 hvis
  refine⟨w,r,.inr ⟨hfr.2,?_⟩⟩
  obtain⟨c,h1,h2⟩:=look hfr.1
  rcases q with⟨k,_⟩ |⟨_,c',e',z⟩
  ·have k:X.env.scope.names.lookup y=some .local:=k
   rcases ok.free _ (PySem.mem_of_lookup hfr.1) rfl with k' |k' <;>rw[show X.env.scope.names.lookup y=_ from k'] at k <;>cases k
  ·rw[h2] at e';cases e'
   exact⟨c,h1,z.keeps kp⟩
 ·have e:cenv.cells.lookup y=some c:=e
  rcases mem e with⟨h1,_⟩ |⟨_,z⟩
  ·obtain⟨w,z⟩:=I.cell y c h1
   exact⟨w,z.keeps kp⟩
  ·exact⟨_,z⟩
 ·show H cenv.locals=none
  rw[hL];exact I.dP.fresh (Nat.le_refl _)
 ·have e:cenv.cells.lookup y=some c:=e
  rcases mem e with⟨h1,_⟩ |⟨h1,_⟩
  ·exact I.oX y c h1
  ·exact I.dP.fresh (Nat.le_of_succ_le h1)
 ·exact absurd (show p∈([]:List (Addr×Obj)) ++ [] from hp) (by simp)
theorem Oj{E:Value->Shared->Prop}{D:Addr}{xs:List V}{y:V}{v:Value}{Q:Value->Shared->Prop}(I:Inv X pins σ H s)(hD:H D=some (.lst xs))(hz:xs.length<sizeLine)(r:RelV y v)
  (h:∀s',Inv X pins σ (upd H D (.lst (xs ++ [y]))) s'->Q .none s'):wpAny (model X.prog X.w) X.A (call (.builtin "list.append") [.ref D,v]) Q E s:=by
 obtain⟨hz',its,n,ri,e⟩:=I.dP D _ hD
 have hl:=ri.length
 refine append_at (hsz:=by rw[List.size_toArray];lia) e fun h' sb ho'=> ?_
 refine h {s with heap:=h'} (I.write (t':=s.toks) (by rw[hD];trivial) (.inl rfl) (fun b u hb q=>(sb.2 b hb).trans q) ⟨_,ho'⟩ ⟨by rw[List.length_append];exact hz,its ++ [v],n+1,ri.append (.cons r .nil),?_⟩)
 rw[ho']
 simp
def Qh(X:Cx)(ifs:List Expr)(t:TT):Prop:=
 ∀(pins:List (Addr×Obj)) (s:Shared) (σ:St) (H:Hp) (Q:Bool->Hp->Prop),Inv X pins σ H s->t σ H Q->
  wpAny (model X.prog X.w) X.A (forIn ifs true fun c r=>if r=true then do let ok<-isTrue c X.env (eval c X.env);pure (ForInStep.yield ok) else pure (ForInStep.yield r)) (TP X pins σ Q) X.xe s
def Rf:TT:=fun _ H Q=>Q true H
theorem cH:Qh X [] Rf:=fun _ _ _ H _ I h=>wpAny_tests_nil ⟨H,I,h⟩
theorem Hz{c:Expr}{t:TT}(h:PT X c t):Qh X [c] t:=fun pins s σ H Q I hw=>wpAny_tests_one (h pins s σ H Q I hw)
end
theorem IW{α:Type}{t:Sem α}{Q Q':α->Shared->Prop}{M:Model}{A:Around}{E:Value->Shared->Prop}{s:Shared}(h:wpAny M A t Q (fun _ _=>False) s)(hQ:∀a s,Q a s->Q' a s):wpAny M A t Q' E s:=wpAny_mono h hQ fun _ _ z=>False.elim z
theorem CA{prog:Program}{w:World}{A:Around}{R:Result->Shared->Prop}{s:Shared}{elt target iter:Expr}{ifs:List Expr}{scope:Scope}{pos:Pos}{it acc:Value}{env:Env}(I:Nat->Shared->Prop)
  (turn:∀n s,I n s->wpAny (model prog w) A (pyNext it) (fun r s₁=>match r with
   |none=>R (.ok .next) s₁
   |some v=>wpAny (model prog w) A (letOwnedTupleGo target it v) (fun _ s₁'=>wpAny (model prog w) A (assign target env v) (fun _ s₂=>
     wpAny (model prog w) A (forIn ifs true fun c r=>if r=true then do let ok<-isTrue c env (eval c env);pure (ForInStep.yield ok) else pure (ForInStep.yield r)) (fun ok s₃=>
      if ok=true then wpAny (model prog w) A (eval elt env) (fun x s₄=>
       wpAny (model prog w) A (call (.builtin "list.append") [acc,x]) (fun _ s₅=>∃m,m<n/\I m s₅) (notedBy (model prog w) A env fun e s'=>R (.error e) s') s₄) (notedBy (model prog w) A env fun e s'=>R (.error e) s') s₃
      else ∃m,m<n/\I m s₃) (notedBy (model prog w) A env fun e s'=>R (.error e) s') s₂) (notedBy (model prog w) A env fun e s'=>R (.error e) s') s₁') (notedBy (model prog w) A env fun e s'=>R (.error e) s') s₁) (notedBy (model prog w) A env fun e s'=>R (.error e) s') s)
  (n:Nat) (h:I n s):
  codeAny (model prog w) A (.compLoop (.ListComp elt [⟨target,iter,ifs,0⟩] scope pos) 0 it acc env) R s:=by
 refine codeAny_loop rfl I (fun n s hI=> ?_) n h
 show wpAny _ A ((compTurn (.ListComp elt [⟨target,iter,ifs,0⟩] scope pos) 0 it acc env).onRaise (fun x=>do noteFrame x env;theTreesLotGoes x)) _ _ s
 refine wpAny_noted ?_
 rw[compTurn_list]
 refine wpAny_bind (wpAny_standAt (wpAny_bind (wpAny_mono (turn n s hI) (fun r s₁ h₁=> ?_) fun _ _ h'=>h')))
 cases r with
 |none=>exact wpAny_pure h₁
 |some v=>
  refine wpAny_bind (wpAny_mono h₁ (fun _ s₁' h₁'=> ?_) fun _ _ h'=>h')
  refine wpAny_bind (wpAny_mono h₁' (fun _ s₂ h₂=>wpAny_bind (wpAny_mono h₂ (fun ok s₃ h₃=> ?_) fun _ _ h'=>h')) fun _ _ h'=>h')
  cases ok with
  |false=>exact wpAny_pure ⟨rfl,h₃⟩
  |true=>
   exact wpAny_bind (wpAny_bind (wpAny_mono h₃ (fun x s₄ h₄=>wpAny_bind (wpAny_mono h₄ (fun _ s₅ h₅=>wpAny_pure (wpAny_pure ⟨rfl,h₅⟩)) fun _ _ h'=>h')) fun _ _ h'=>h'))
section
variable {X:Cx}
def QM(wi:TI)(g:TG)(tt:TT)(te:TE)(vs:List Nat):TE:=fun σ H Q=>wi σ H fun J H1=>∀D,H1 D=none->∃W:Nat->Nat->Hp->Prop,(∃m,W 0 m (upd H1 D (.lst [])))/\∀i m H,W i m H->
 (J.stop i H/\Q (.ref D) H)\/(J.go i H/\∃Nx:Hp->Prop,(∀H',Nx H'->∃m',m' <m/\W (i+1) m' H')/\∀x H',J.O7 i H x H'->g x (wipe σ vs) H' fun σ2 H2=>wipe σ2 vs=wipe σ vs/\tt σ2 H2 fun b H3=>
  if b=true then te σ2 H3 fun y H4=>∃acc,H4 D=some (.lst acc)/\acc.length<sizeLine/\Nx (upd H4 D (.lst (acc ++ [y]))) else Nx H3)
theorem HA{pins:List (Addr×Obj)}{s:Shared}{σ:St}{H:Hp}{Q:VK}{elt tg iter:Expr}{ifs:List Expr}{scope:Scope}{own:List (Str×Nat)}{pos pos':Pos}{wi:TI}{g:TG}{tt:TT}{te:TE}{use:Option (Value->Sem Unit)}{Qf:Value->Shared->Prop}
  (hc:X.calm=true) (hN:X.N.Nodup) (I:Inv X pins σ H s) (hi:PI X tg iter wi) (ok:Ed X.N X.env.scope scope own)
  (hg:∀(s:Shared) (H:Hp) (C:Addr) (cl:List (Str×Addr)) (fp:List Addr),PG (X.AM s H scope (compEnvC scope cl C X.env) fp) tg g) (ht:∀(s:Shared) (H:Hp) (C:Addr) (cl:List (Str×Addr)) (fp:List Addr),Qh (X.AM s H scope (compEnvC scope cl C X.env) fp) ifs tt)
  (he:∀(s:Shared) (H:Hp) (C:Addr) (cl:List (Str×Addr)) (fp:List Addr),PE (X.AM s H scope (compEnvC scope cl C X.env) fp) elt te) (hs:∀x,foldedSetIterable iter X.env x=pure x)
  (h:QM wi g tt te (own.map (·.2)) σ H Q)
  (hRR:∀D C s' m H',Inv X pins σ H' s'->Q (.ref D) H'->s'.heap.Ns C m->xO X pins H' C->compPost (model X.prog X.w) X.A X.xe use Qf (.ref D) C (.ok .next) s'):
  wpAny (model X.prog X.w) X.A (comprehension (.ListComp elt [⟨tg,iter,ifs,0⟩] scope pos) scope X.env pos' (newList []) false (eval iter X.env) use) Qf X.xe s:=by
 have hfree:∀y∈scope.names,y.2= .free->∃c,X.env.cells.lookup y.1=some c:=fun y hy e=>by
  rcases ok.free y hy e with k |k
  ·exact I.ok.has _ (.inl k)
  ·exact I.ok.has _ (.inr k)
 refine wpAny_comprehension_free (use:=use) rfl hs (Ga hfree) ok.kind (fun y hy e=>by rw[ok.uniq y hy,e])
  (dN (hi pins s σ H _ I h) fun xv s1 hx=>dN hx fun itv s2 h2=> ?_)
 obtain⟨it,fp,tn,J,H2,e,I2,T,st2,f2,q⟩:=h2
 subst e
 refine wpAny_newObj_type (Ec ?_) (by show 0<=sizeLine;decide)
 generalize hD:s2.heap.objs.size=D
 have hDn:H2 D=none:=I2.dP.fresh (Nat.le_of_eq hD)
 obtain⟨W,⟨m0,w0⟩,turn⟩:=q D hDn
 generalize hs3:({s2 with heap:=s2.heap.push {cls:= .type "list",data:= .seq ([]:List Value).toArray}}:Shared)=s3
 have I3:Inv X pins σ (upd H2 D (.lst [])) s3:=by
  rw[<-hs3]
  refine I2.laid (t':=s2.toks) (fun b o e=>Heap.get?_push_of_some _ e) (Nat.le_of_eq hD) ⟨Nat.zero_le _,[],0,.nil,?_⟩
  rw[<-hD]
  exact Heap.get?_push_size _ rfl
 have h3:s3.heap=s2.heap.push {cls:= .type "list",data:= .seq ([]:List Value).toArray}:=by rw[<-hs3]
 have sz:∀b∈fp,b<s2.heap.objs.size:=fun b hb=>by
  obtain⟨o,e,_⟩:=T.obj _ _ st2 b hb
  exact Heap.lt_size e
 have f3:∀b∈fp,xO X pins (upd H2 D (.lst [])) b/\b<s3.heap.objs.size:=fun b hb=>by
  have hlt:=sz b hb
  refine⟨⟨?_,(f2 b hb).2⟩,by rw[h3,Heap.size_push];exact Nat.lt_succ_of_lt hlt⟩
  rw[aR (by rw[<-hD];exact Nat.ne_of_lt hlt)]
  exact(f2 b hb).1
 have st3:tn 0 s3.heap:=T.keep _ _ _ st2 fun b _ o e=>by rw[h3];exact Heap.get?_push_of_some _ e
 have I4:=Ee I3 ok hN f3
 have pg:=hg s3 (upd H2 D (.lst [])) s3.heap.objs.size (cellsFrom (s3.heap.objs.size+1) scope.names (cy X.env.cells scope.names [])) fp
 have pt:=ht s3 (upd H2 D (.lst [])) s3.heap.objs.size (cellsFrom (s3.heap.objs.size+1) scope.names (cy X.env.cells scope.names [])) fp
 have pe:=he s3 (upd H2 D (.lst [])) s3.heap.objs.size (cellsFrom (s3.heap.objs.size+1) scope.names (cy X.env.cells scope.names [])) fp
 show codeAny _ _ (.compStart (.ListComp elt [⟨tg,iter,ifs,0⟩] scope pos) 0 (.ref it) (.ref D) (compEnvC scope (cellsFrom (s3.heap.objs.size+1) scope.names (cy X.env.cells scope.names [])) s3.heap.objs.size X.env)) (compPost (model X.prog X.w) X.A X.xe use Qf (.ref D) s3.heap.objs.size) {s3 with heap:=pushCells (s3.heap.push {cls:= .type "dict",data:= .dict #[]}) scope.names}
 have nfp:∀b∈fp,(upd H2 D (.lst [])) b=none:=fun b hb=>(f3 b hb).1.1
 generalize hce:compEnvC scope (cellsFrom (s3.heap.objs.size+1) scope.names (cy X.env.cells scope.names [])) s3.heap.objs.size X.env=ce at I4 pg pt pe⊢
 have cL:ce.locals=s3.heap.objs.size:=by subst hce;rfl
 generalize hH3:upd H2 D (.lst [])=H3 at I3 I4 pg pt pe w0 nfp f3
 generalize hs4:({s3 with heap:=pushCells (s3.heap.push {cls:= .type "dict",data:= .dict #[]}) scope.names}:Shared)=s4 at I4⊢
 have st4:tn 0 s4.heap:=T.keep _ _ _ st3 fun b _ o e=>by rw[<-hs4];exact pushCells_keeps _ _ _ _ (Heap.get?_push_of_some _ e)
 have stat:∀{σ':St} {H':Hp} {s':Shared},Inv (X.AM s3 H3 scope ce fp) [] σ' H' s'->(∀b∈fp,H' b=none)->∀b∈fp,xO (X.AM s3 H3 scope ce fp) [] H' b:=fun{σ' H' s'} I' hn b hb=>
  ⟨hn b hb,(I'.ok.QK b hb).1,I'.ok.J8 b hb,.inl hb,fun x c e=>(I'.ok.QK b hb).2 x c e,fun p hp=>absurd (show p∈([]:List (Addr×Obj)) ++ [] from hp) (by simp)⟩
 have loop:codeAny (model X.prog X.w) X.A (.compLoop (.ListComp elt [⟨tg,iter,ifs,0⟩] scope pos) 0 (.ref it) (.ref D) ce) (compPost (model X.prog X.w) X.A X.xe use Qf (.ref D) s3.heap.objs.size) s4:=by
  refine CA (fun n s'=>∃i H',Inv (X.AM s3 H3 scope ce fp) [] (wipe σ (own.map (·.2))) H' s'/\tn i s'.heap/\(∀b∈fp,H' b=none)/\W i n H') ?_ m0 ⟨0,H3,I4,st4,nfp,w0⟩
  rintro n s5 ⟨i,H5,I5,st5,n5,w5⟩
  rcases turn i n H5 w5 with⟨stop,qq⟩ |⟨go,Nx,hNx,step⟩
  ·have td:=T.done (X.AM s3 H3 scope ce fp) rfl rfl rfl hc i [] s5 _ H5 (fun _ _=>False) I5 (stat I5 n5) st5 stop
   refine IW td fun r s6 ⟨hr,I6⟩=> ?_
   subst hr
   have I7:Inv X pins σ H5 s6:=I3.Pl (ch:=fp) I6.os I6.base I6.dP I6.bare fun b hb=>⟨(f3 b hb).1.2.2.2.1,(f3 b hb).1.2.1,(f3 b hb).1.2.2.2.2.1,(f3 b hb).1.2.2.2.2.2⟩
   have nC:H5 s3.heap.objs.size=none:=by
    have z:H5 ce.locals=none:=I6.free
    rw[cL] at z
    exact z
   obtain⟨m,hn,_⟩:=I6.loc
   have hn:s6.heap.Ns ce.locals m:=hn
   rw[cL] at hn
   exact hRR D s3.heap.objs.size s6 m H5 I7 qq hn (I3.IG (Nat.le_refl _) nC)
  ·have ti:=T.item (X.AM s3 H3 scope ce fp) rfl rfl rfl hc i [] s5 _ H5 (fun _ _=>False) I5 (stat I5 n5) st5 go
   refine IW ti fun r s6 ⟨u,hr,h6⟩=> ?_
   subst hr
   refine IW h6 fun _ s7 ⟨x,H7,I7,r7,y7,st7,n7⟩=> ?_
   have I7':=I7.pinned (stat I7 n7) (T.obj _ _ st7)
   refine IW (pg _ s7 _ H7 x u _ I7' r7 (step x H7 y7)) fun _ s8 ⟨σ8,H8,I8,hw8,q8⟩=> ?_
   refine IW (pt _ s8 σ8 H8 _ I8 q8) fun b s9 ⟨H9,I9,q9⟩=> ?_
   have fin:∀{s':Shared} {H':Hp},Inv (X.AM s3 H3 scope ce fp) ([] ++ yH fp s7.heap) σ8 H' s'->Nx H'->∃m,m<n/\∃i H',Inv (X.AM s3 H3 scope ce fp) [] (wipe σ (own.map (·.2))) H' s'/\tn i s'.heap/\(∀b∈fp,H' b=none)/\W i m H':=fun{s' H'} I' nx=>by
    obtain⟨m',hm,w'⟩:=hNx H' nx
    have pin':∀b∈fp,∀o,s7.heap.get? b=some o->s'.heap.get? b=some o/\H' b=none:=fun b hb o e=>
     let z:=I'.pin (b,o) (List.mem_append_right _ (List.mem_append_right _ (rJ hb e)))
     ⟨z.1,z.2.1⟩
    have hl:(wipe σ (own.map (·.2))).length=σ8.length:=by rw[<-hw8,pF]
    refine⟨m',hm,i+1,H',(I'.tF (pins:=[])).weak hl (fun j v e=> ?_),T.keep _ _ _ st7 fun b hb o e=>(pin' b hb o e).1,fun b hb=> ?_,w'⟩
    ·rw[<-hw8] at e
     exact(vI e).1
    ·obtain⟨o,e,_⟩:=T.obj _ _ st7 b hb
     exact(pin' b hb o e).2
   cases b with
   |false=>
    simp only[Bool.false_eq_true,if_false] at q9⊢
    exact fin I9 q9
   |true=>
    simp only[if_true] at q9⊢
    refine IW (pe _ s9 σ8 H9 _ I9 q9) fun z s10 ⟨yv,H10,I10,r10,acc,hD10,hz10,nx⟩=> ?_
    exact Oj (X:=X.AM s3 H3 scope ce fp) I10 hD10 hz10 r10 fun s11 I11=>fin I11 nx
 exact codeAny_compStart_list loop (T.self X.A 0 _ _ _ st4 loop)
theorem iW{elt tg iter:Expr}{ifs:List Expr}{scope:Scope}{own:List (Str×Nat)}{pos:Pos}{wi:TI}{g:TG}{tt:TT}{te:TE}(hc:X.calm=true)(hN:X.N.Nodup)(hi:PI X tg iter wi)(ok:Ed X.N X.env.scope scope own)
  (hg:∀(s:Shared) (H:Hp) (C:Addr) (cl:List (Str×Addr)) (fp:List Addr),PG (X.AM s H scope (compEnvC scope cl C X.env) fp) tg g) (ht:∀(s:Shared) (H:Hp) (C:Addr) (cl:List (Str×Addr)) (fp:List Addr),Qh (X.AM s H scope (compEnvC scope cl C X.env) fp) ifs tt)
  (he:∀(s:Shared) (H:Hp) (C:Addr) (cl:List (Str×Addr)) (fp:List Addr),PE (X.AM s H scope (compEnvC scope cl C X.env) fp) elt te) (hs:∀x,foldedSetIterable iter X.env x=pure x:=by intro _;rfl):
  PE X (.ListComp elt [⟨tg,iter,ifs,0⟩] scope pos) (QM wi g tt te (own.map (·.2))):=by
 intro pins s σ H Q I h
 rw[eval_ListComp]
 refine HA hc hN I hi ok hg ht he hs h fun D C s' m H' I' q hn f=>⟨m,hn,fun h'' sb=> ?_⟩
 obtain⟨f0,f1,f2,f3,f4,f5⟩:=f
 exact⟨.ref D,H',I'.turned (t':=s'.toks) (fun b o hb e=>(sb.2 b hb).trans e) f0 f1 f3 f4 f5,rfl,q⟩
theorem pI{i:Nat}{y:Str}{py:Pos}{elt tg iter:Expr}{ifs:List Expr}{scope:Scope}{own:List (Str×Nat)}{pos spos:Pos}{wi:TI}{g:TG}{tt:TT}{te:TE}(hc:X.calm=true)(hN:X.N.Nodup)(hy:X.N[i]? =some y)(hyl:X.env.scope.names.lookup y=some .local)
  (hsw:swapsWith (.ListComp elt [⟨tg,iter,ifs,0⟩] scope pos) (some (.Name y py)) spos.line X.env=pure true) (hi:PI X tg iter wi) (ok:Ed X.N X.env.scope scope own)
  (hg:∀(s:Shared) (H:Hp) (C:Addr) (cl:List (Str×Addr)) (fp:List Addr),PG (X.AM s H scope (compEnvC scope cl C X.env) fp) tg g) (ht:∀(s:Shared) (H:Hp) (C:Addr) (cl:List (Str×Addr)) (fp:List Addr),Qh (X.AM s H scope (compEnvC scope cl C X.env) fp) ifs tt)
  (he:∀(s:Shared) (H:Hp) (C:Addr) (cl:List (Str×Addr)) (fp:List Addr),PE (X.AM s H scope (compEnvC scope cl C X.env) fp) elt te) (hs:∀x,foldedSetIterable iter X.env x=pure x:=by intro _;rfl):
  PS X (.Assign [.Name y py] (.ListComp elt [⟨tg,iter,ifs,0⟩] scope pos) spos) (NQ (QM wi g tt te (own.map (·.2))) (Hm i)):=by
 intro pins s σ H D I h
 rw[exec_Assign_Name_used _ _ _ _ hsw]
 refine wpAny_bind (wpAny_standAt (wpAny_bind ?_))
 show wpAny _ X.A (do let _<-comprehension (.ListComp elt [⟨tg,iter,ifs,0⟩] scope pos) scope X.env (firstIterPos [⟨tg,iter,ifs,0⟩] pos) (newList []) false (eval iter X.env) (some (assign (.Name y py) X.env))) _ _ s
 have h:QM wi g tt te (own.map (·.2)) σ H (fun x H1=>Hm i x σ H1 D.nx):=h
 refine wpAny_bind (dN (HA (Qf:=fun _ s'=>SP X pins D .next s') hc hN I hi ok hg ht he hs h fun L C s' m H' I' q hn f=> ?_) fun _ s' hq=>wpAny_pure (wpAny_pure hq))
 show wpAny _ _ (assign (.Name y py) X.env (.ref L)) _ _ _
 refine wpAny_assign_Name (Bn (v:=V.ref L) I' hN hy (.inl hyl) rfl (fun s2 I2 ⟨a,sb,ha⟩=> ?_) (.inr hyl))
 obtain⟨f0,f1,f2,f3,f4,f5⟩:=f
 have haC:C≠a:=by
  rcases ha with z |z
  ·rw[z];exact f1
  ·exact fun e=>f4 y a z e.symm
 refine⟨m,hn.sameBut sb haC,fun h3 sb3=> ?_⟩
 exact⟨_,H',I2.turned (t':=s2.toks) (fun b o hb e=>(sb3.2 b hb).trans e) f0 f1 f3 f4 f5,q⟩
theorem tL{elt:Expr}{gs:List Comprehension}{scope:Scope}{pos py:Pos}{y:Str}{l:Nat}{env:Env}(hk:env.scope.kind= .function)(hy:env.scope.names.lookup y=some .local)(hl:(py.line==pos.line)=true)
  (ha:(scope.names.any fun(n,k)=>n==y&&(k== .local ||k== .cell))=false):swapsWith (.ListComp elt gs scope pos) (some (.Name y py)) l env=pure true:=by
 have ky:env.kindOf y=some .local:=hy
 have hb:env.blockKind= .function:=by unfold Env.blockKind;rw[hk];rfl
 unfold swapsWith
 simp only[hb,ky,ha,Expr.pos,hl]
 rfl
end
def jo(N:List Str)(sc scope:Scope)(own:List (Str×Nat)):Bool:=
 (match scope.kind with | .function=>true |_=>false)&&(scope.names.all fun y=>decide (scope.names.lookup y.1=some y.2))&&(own.all fun p=>decide (N[p.2]? =some p.1))&&
  (scope.names.all fun y=>match y.2 with
   | .free=>(match sc.names.lookup y.1 with |some .cell=>true |some .free=>true |_=>false)
   | .local=>decide (y.1∈own.map (·.1)) ||decide (y.1∉N)
   | .cell=>decide (y.1∈own.map (·.1)) ||decide (y.1∉N)
   |_=>true)
theorem bN{N:List Str}{sc scope:Scope}{own:List (Str×Nat)}(h:jo N sc scope own=true):Ed N sc scope own:=by
 unfold jo at h
 simp only[Bool.and_eq_true,List.all_eq_true,decide_eq_true_eq] at h
 obtain⟨⟨⟨h1,h2⟩,h3⟩,h4⟩:=h
 refine⟨?_,h2,h3,fun y hy e=> ?_,fun y hy e=> ?_⟩
 ·split at h1
  ·assumption
  ·cases h1
 ·have q:=h4 y hy
  simp only[e] at q
  split at q <;>first |exact .inl (by assumption) |exact .inr (by assumption) |cases q
 ·have q:=h4 y hy
  rcases e with e |e <;>(simp only[e,Bool.or_eq_true,decide_eq_true_eq] at q;exact q)
theorem yK:bootBuiltins "reversed"=some (.type "reversed"):=by decide +kernel
section
variable {X:Cx}{pins:List (Addr×Obj)}{σ:St}{H:Hp}{s:Shared}{h':Heap}
theorem Inv.Mm{t':Nat}{ch:List Addr}(I:Inv X pins σ H s)(k:∀b o,b∉ch->s.heap.get? b=some o->h'.get? b=some o)(hf:∀b∈ch,xO X pins H b):Inv X pins σ H {s with heap:=h',toks:=t'}:=by
 have nit:∀b u,H b=some u->b∉ch:=fun b u e z=>by
  have q:=(hf b z).1
  rw[q] at e;cases e
 refine I.step (g':=s.gens) (d':=s.drawn) (ch:=ch) (fun b hb=>⟨(hf b hb).2.2.2.1,(hf b hb).2.1,(hf b hb).2.2.2.2.1,(hf b hb).2.2.2.2.2⟩) (fun b o _ _ hc e _=>k b o hc e) (fun b o _ _ hc e _=>⟨o.slots,k b o hc e⟩)
  (fun _ _ _ _ n=>n) (fun b o hc e=>⟨o,k b o hc e⟩) (fun _ _ e=>e) (fun _ _ _ e=>e) (fun b ps e=>⟨#[],by rw[e];simp⟩) (fun m hm=> ?_) (fun b u e=> ?_) I.bare
 ·obtain⟨o,es,ep,ho,r⟩:=hm
  exact⟨o,es,ep,k _ o (fun z=>(hf _ z).2.1 rfl) ho,r⟩
 ·refine(I.dP b u e).FQ (fun c v hc q=>k c v ?_ q) (fun _ q=>q) fun _ _ q=>q
  rcases hc with z |z
  ·rw[z];exact nit b u e
  ·exact nit c _ z
theorem Inv.Bw{t':Nat}{ch:List Addr}{T:Addr}{ob:HO}(I:Inv X pins σ H s)(k:∀b o,b∉ch->s.heap.get? b=some o->h'.get? b=some o)(hf:∀b∈ch,xO X pins H b)(hT:s.heap.objs.size<=T)
  (new:gL X.prog X.w (upd H T ob) h' T ob):Inv X pins σ (upd H T ob) {s with heap:=h',toks:=t'}:=by
 have hn:H T=none:=I.dP.fresh hT
 have nit:∀b u,H b=some u->b∉ch:=fun b u e z=>by
  have q:=(hf b z).1
  rw[q] at e;cases e
 refine I.step (g':=s.gens) (d':=s.drawn) (ch:=ch) (fun b hb=>⟨(hf b hb).2.2.2.1,(hf b hb).2.1,(hf b hb).2.2.2.2.1,(hf b hb).2.2.2.2.2⟩) (fun b o _ _ hc e _=>k b o hc e) (fun b o _ _ hc e _=>⟨o.slots,k b o hc e⟩)
  (fun b o _ e n=> ?_) (fun b o hc e=>⟨o,k b o hc e⟩) (fun b xs e=> ?_) (fun b o u e=> ?_) (fun b ps e=>⟨#[],?_⟩) (fun m hm=> ?_) (fun b u e=> ?_) I.bare
 ·rw[aR (Nat.ne_of_lt (Nat.lt_of_lt_of_le (Heap.lt_size e) hT))];exact n
 ·rw[aR (bV e hn)];exact e
 ·rw[aR (bV e hn)];exact e
 ·rw[aR (bV e hn),e];simp
 ·obtain⟨o,es,ep,ho,r⟩:=hm
  exact⟨o,es,ep,k _ o (fun z=>(hf _ z).2.1 rfl) ho,r⟩
 ·by_cases hb:b=T
  ·subst hb
   rw[ak] at e
   cases e
   exact new
  ·rw[aR hb] at e
   refine(I.dP b u e).FQ (fun c v hc q=>k c v ?_ q) (fun c q=>by rw[aR (bV q hn)];exact q) fun c xs q=>by rw[aR (bV q hn)];exact q
   rcases hc with z |z
   ·rw[z];exact nit b u e
   ·exact nit c _ z
end
section
variable {X:Cx}
theorem Kr{tg:Expr}{pins:List (Addr×Obj)}{σ:St}{H:Hp}{s:Shared}{R:It->Hp->Prop}{J:It}{tn:Nat->Heap->Prop}{tk:Nat}(I:Inv X pins σ H s)(o:Obj)
  (T:Turn X.prog X.w X.K tg J [s.heap.objs.size] s.heap.objs.size tn) (st:tn 0 (s.heap.push o)) (q:R J H):Q2 X pins σ tg R (.ref s.heap.objs.size) {s with heap:=s.heap.push o,toks:=tk}:=by
 refine⟨s.heap.objs.size,[s.heap.objs.size],tn,J,H,rfl,I.kept fun b ob e=>Heap.get?_push_of_some _ e,T,st,fun b hb=> ?_,q⟩
 have e:b=s.heap.objs.size:=by simpa using hb
 subst e
 exact I.IG (Nat.le_refl _) (I.dP.fresh (Nat.le_refl _))
end
def Rg(lo c:Int)(n:Nat):It:=⟨fun i _=>i<n,fun i H x H'=>H'=H/\x= .int (lo+(i:Nat)*c),fun i _=>n<=i⟩
theorem Ef{P:Program}{w:World}{K:PySem.W.Frag}{tg:Expr}(it:Addr)(lo c:Int)(n:Nat):Turn P w K tg (Rg lo c n) [it] it (fun i h=>IsRangeIter h it (lo+(i:Nat)*c) ((n:Int) - (i:Nat)) c) where
 mem:=by simp
 obj:=fun i h st b hb=>by
  have e:b=it:=by simpa using hb
  subst e
  exact⟨_,st,fun v z=>nomatch z⟩
 keep:=fun i h h' st k=>k it (by simp) _ st
 item:=by
  intro X hP hw hK hc i pins s σ H E I hf st hg
  subst hP hw hK
  obtain⟨f0,f1,f2,f3,f4,f5⟩:=hf it (by simp)
  have W:=Walks.range (prog:=X.prog) (w:=X.w) (I.ok.hd hc) it lo c n
  refine W.item i s _ _ hg st fun v h' tk hv st' kk=> ?_
  obtain⟨t,rfl⟩:=hv
  have I1:Inv X pins σ H {s with heap:=h',toks:=tk}:=I.turned (fun b o hb e=>kk b o (by simpa using hb) e) f0 f1 f3 f4 f5
  exact⟨_,rfl,Hn (s:={s with heap:=h',toks:=tk}) (n:="range_iterator") st' rfl rfl (by decide) ⟨.int (lo+(i:Nat)*c),H,I1,⟨t,rfl⟩,⟨rfl,rfl⟩,st',fun b hb=>(hf b hb).1⟩⟩
 done:=by
  intro X hP hw hK hc i pins s σ H E I hf st hg
  subst hP hw hK
  obtain⟨f0,f1,f2,f3,f4,f5⟩:=hf it (by simp)
  exact wpAny_pyNext_range_end (I.ok.hd hc) st (by have:n<=i:=hg;lia) fun h' eb=>⟨rfl,I.turned (t':=s.toks) (fun b o hb e=>eb b o hb e) f0 f1 f3 f4 f5⟩
 self:=fun A i s Q E st h=>wpAny_pyIter_rangeiter st h
def Qi(i j c:Int)(n:Nat):Prop:=c≠0/\c.natAbs<1073741824/\Builtin.Range.small i j c=true/\Builtin.Range.rangeSize i j c=n
theorem Qi.neg{i j:Int}(ha: -(2^62)<=i)(ha':i<2^62)(hb: -(2^62)<=j)(hb':j<2^62):Qi i j (-1) (i - j).toNat:=
 ⟨by decide,by decide,PySem.W.small_down ha ha' hb hb',PySem.W.rangeSize_downNat i j⟩
def Qj(ta:TA):TI:=fun σ H R=>ta σ H fun vs H1=>∃(i j c:Int) (n:Nat),vs=[.int i,.int j,.int c]/\Qi i j c n/\R (Rg i c n) H1
section
variable {X:Cx}{tg:Expr}
theorem Bx{a b c:Expr}{ta:TA}{p pos:Pos}(hg:Gl X "range")(hm:X.mg "range"=none)(ha:PA X [a,b,c] ta)
  (hs:starEach [a,b,c] X.env=(false,eval a X.env)::starEach [b,c] X.env:=by rfl) (hpl:(backTo pos (starEach [b,c] X.env)).any (·.1)=false:=by rfl):
  PI X tg (.Call (.Name "range" p) [a,b,c] [] pos) (Qj ta):=by
 intro pins s σ H R I h
 refine Call_ (oY I hg hm boot_range (PyProof.Rows.callWith_type1 (dN (ha pos pins s σ H _ I h) fun us s1 ⟨vs,H1,I1,r1,q1⟩=> ?_) hs hpl))
 obtain⟨i,j,k,n,e,⟨c0,c1,c2,c3⟩,q⟩:=q1
 subst e
 cases r1 with
 |cons r rr=>
  cases rr with
  |cons r' rr=>
   cases rr with
   |cons r'' rr=>
    cases rr
    obtain⟨t,rfl⟩:=r
    obtain⟨t',rfl⟩:=r'
    obtain⟨t'',rfl⟩:=r''
    refine call_range_3 c0 ?_ (.inl (PyProof.noPylong_small c1))
    refine wpAny_pyIter_range (IsRange.new ..) c2 ?_
    have I2:Inv X pins σ H1 {s1 with heap:=s1.heap.push {cls:= .type "range",data:= .fields #[.int i t,.int j t',.int k t'']}}:=I1.kept (t':=s1.toks) fun b o e=>Heap.get?_push_of_some _ e
    refine Kr (tk:=s1.toks) I2 _ (Ef _ i k n) ?_ q
    have e1:i+((0:Nat):Int)*k=i:=by simp
    have e2:(n:Int) - ((0:Nat):Int)=Builtin.Range.rangeSize i j k:=by rw[c3];simp
    show IsRangeIter _ _ (i+((0:Nat):Int)*k) ((n:Int) - ((0:Nat):Int)) k
    rw[e1,e2]
    exact Heap.get?_push_size _ rfl
end
def Rh(K:PySem.W.Frag)(a:Addr)(n:Nat):It:=
 ⟨fun i H=>i<n/\∃(xs:List V) (x:V),hZ K H a xs/\xs[n - 1 - i]? =some x,fun i H x H'=>H'=H/\∀xs,hZ K H a xs->xs[n - 1 - i]? =some x,fun i _=>n<=i⟩
theorem Ks{P:Program}{w:World}{K:PySem.W.Frag}{tg:Expr}(a it:Addr)(n:Nat):Turn P w K tg (Rh K a n) [it] it (fun i h=>i<=n/\h.IsRevIter it a ((n:Int) - 1 - (i:Nat))) where
 mem:=by simp
 obj:=fun i h st b hb=>by
  have e:b=it:=by simpa using hb
  subst e
  obtain⟨_,o,e,c,d⟩:=st
  exact⟨o,e,fun v z=>by rw[d] at z;cases z⟩
 keep:=fun i h h' st k=>⟨st.1,st.2.at fun o e=>k it (by simp) o e⟩
 item:=by
  intro X hP hw hK hc i pins s σ H E I hf st hg
  subst hP hw hK
  obtain⟨hin,xs,x,hq,hx⟩:=hg
  obtain⟨its,rv,p,hz⟩:=I.list hq
  obtain⟨u,hu,ru⟩:=rv.get hx
  obtain⟨f0,f1,f2,f3,f4,f5⟩:=hf it (by simp)
  obtain⟨_,hit⟩:=st
  have e1:(n:Int) - 1 - ((i:Nat):Int)=((n - 1 - i:Nat):Int):=by lia
  rw[e1] at hit
  refine wpAny_pyNext_rev_item hit p.isList (x:=u) (by simpa using hu) fun h' st' sb=> ?_
  have e2:((n - 1 - i:Nat):Int) - 1=(n:Int) - 1 - ((i+1:Nat):Int):=by lia
  rw[e2] at st'
  have I1:Inv X pins σ H {s with heap:=h'}:=I.turned (t':=s.toks) (fun b o hb e=>(sb.2 b hb).trans e) f0 f1 f3 f4 f5
  obtain⟨o,e,c,d⟩:=id st'
  exact⟨u,rfl,Hn (s:={s with heap:=h'}) e c d (by decide) ⟨x,H,I1,ru,⟨rfl,fun ys hy=>by rw[I.oZ hy hq];exact hx⟩,⟨hin,st'⟩,fun b hb=>(hf b hb).1⟩⟩
 done:=by
  intro X hP hw hK hc i pins s σ H E I hf st hg
  subst hP hw hK
  obtain⟨f0,f1,f2,f3,f4,f5⟩:=hf it (by simp)
  obtain⟨hin,hit⟩:=st
  have hge:n<=i:=hg
  have e1:(n:Int) - 1 - ((i:Nat):Int)= -1:=by lia
  rw[e1] at hit
  exact wpAny_pyNext_rev_end (I.ok.hd hc) hit fun h' eb=>⟨rfl,I.turned (t':=s.toks) (fun b o hb e=>eb b o hb e) f0 f1 f3 f4 f5⟩
 self:=fun A i s Q E st h=>wpAny_pyIter_revIter st.2 h
def Ri(K:PySem.W.Frag)(ta:TA):TI:=fun σ H R=>ta σ H fun vs H1=>∃(a:Addr) (xs:List V),vs=[.ref a]/\hZ K H1 a xs/\R (Rh K a xs.length) H1
section
variable {X:Cx}{tg:Expr}
theorem Eg{e:Expr}{ta:TA}{p pos:Pos}(hg:Gl X "reversed")(hm:X.mg "reversed"=none)(ha:PA X [e] ta)(hs:starEach [e] X.env=[(false,eval e X.env)]:=by rfl):PI X tg (.Call (.Name "reversed" p) [e] [] pos) (Ri X.K ta):=by
 intro pins s σ H R I h
 refine Call_ (oY I hg hm yK (PyProof.Rows.callWith_type1 (dN (ha pos pins s σ H _ I h) fun us s1 ⟨vs,H1,I1,r1,q1⟩=> ?_) hs rfl))
 obtain⟨a,xs,e,hq,q⟩:=q1
 subst e
 cases r1 with
 |cons r rr=>
  cases rr
  cases r
  obtain⟨its,rv,p',hz⟩:=I1.list hq
  have hl:=rv.length
  have e1:((its.toArray.size:Nat):Int) - 1=(xs.length:Int) - 1 - ((0:Nat):Int):=by simp only[List.size_toArray];lia
  refine call_reversed_list p'.isList (wpAny_pyIter_revIter (l:=a) (i:=((its.toArray.size:Nat):Int) - 1) ⟨_,Heap.get?_push_size _ rfl,rfl,rfl⟩ ?_)
  refine Kr (tk:=s1.toks) I1 _ (Ks a _ xs.length) ⟨Nat.zero_le _,?_⟩ q
  rw[<-e1]
  exact⟨_,Heap.get?_push_size _ rfl,rfl,rfl⟩
end
def Rj(K:PySem.W.Frag)(a:Addr):It:=
 ⟨fun i H=>∃(xs:List V) (x:V),hZ K H a xs/\xs[i]? =some x,fun i H v H'=>∃T x,v= .ref T/\H T=none/\H'=upd H T (.tup [.int (i:Nat),x])/\∀xs,hZ K H a xs->xs[i]? =some x,fun i H=>∃xs:List V,hZ K H a xs/\xs.length<=i⟩
theorem IX{P:Program}{w:World}{K:PySem.W.Frag}{elts:List Expr}{kk:Nat}{tpos:Pos}(a e it:Addr):
  Turn P w K (.Tuple elts kk tpos) (Rj K a) [e,it] e (fun i h=>(∃old,IsEnum h e it ((i:Nat):Int) old)/\h.IsListIter it a i/\e≠it) where
 mem:=by simp
 obj:=fun i h st b hb=>by
  obtain⟨⟨old,he⟩,⟨o,ho,hc,hd⟩,_⟩:=st
  have e':b=e\/b=it:=by simpa using hb
  rcases e' with z |z
  ·rw[z];exact⟨_,he,fun v q=>nomatch q⟩
  ·rw[z];exact⟨o,ho,fun v q=>by rw[hd] at q;cases q⟩
 keep:=fun i h h' st k=>let ⟨⟨old,he⟩,hi,hne⟩:=st;⟨⟨old,k e (by simp) _ he⟩,hi.at fun o q=>k it (by simp) o q,hne⟩
 item:=by
  intro X hP hw hK hc i pins s σ H E I hf st hg
  subst hP hw hK
  obtain⟨⟨old,he⟩,hit,hne⟩:=st
  obtain⟨xs,x,hq,hx⟩:=hg
  obtain⟨its,rv,p,hz⟩:=I.list hq
  obtain⟨u,hu,ru⟩:=rv.get hx
  have hel:e<s.heap.objs.size:=Heap.lt_size he
  have hil:it<s.heap.objs.size:=by obtain⟨_,q,_⟩:=hit;exact Heap.lt_size q
  refine wpAny_pyNext_enum_item he hit p.isList (x:=u) (by simpa using hu) hne fun h' ho hit' hT hsz hk=> ?_
  refine⟨_,rfl,wpAny_letOwnedTupleGo_enum (s:={s with heap:=h',toks:=s.toks+1}) ho fun h'' he' sb=> ?_⟩
  have hT2:h''.get? s.heap.objs.size=some {cls:= .type "tuple",data:= .seq #[.int i s.toks,u]}:=(sb.2 _ (Nat.ne_of_gt hel)).trans hT
  have new:gL X.prog X.w (upd H s.heap.objs.size (.tup [.int (i:Nat),x])) h'' s.heap.objs.size (.tup [.int (i:Nat),x]):=
   ⟨by show 2<=sizeLine;decide,[.int i s.toks,u],.cons ⟨_,rfl⟩ (.cons ru .nil),⟨_,hT2,rfl,_,rfl⟩⟩
  have I1:Inv X pins σ (upd H s.heap.objs.size (.tup [.int (i:Nat),x])) {s with heap:=h'',toks:=s.toks+1}:=
   I.Bw (ch:=[e,it]) (fun b ob hb q=>(sb.2 b (fun z=>hb (by simp[z]))).trans (hk b ob (fun z=>hb (by simp[z])) (fun z=>hb (by simp[z])) q)) hf (Nat.le_refl _) new
  refine⟨.ref s.heap.objs.size,_,I1,rfl,⟨_,x,rfl,I.dP.fresh (Nat.le_refl _),rfl,fun ys hy=>by rw[I.oZ hy hq];exact hx⟩,⟨⟨u,?_⟩,hit'.at fun o q=>(sb.2 it (Ne.symm hne)).trans q,hne⟩,fun b hb=> ?_⟩
  ·have e1:((i+1:Nat):Int)=(i:Int)+1:=by lia
   rw[e1];exact he'
  ·have hb':b<s.heap.objs.size:=by
    have e':b=e\/b=it:=by simpa using hb
    rcases e' with z |z
    ·rw[z];exact hel
    ·rw[z];exact hil
   rw[aR (Nat.ne_of_lt hb')]
   exact(hf b hb).1
 done:=by
  intro X hP hw hK hc i pins s σ H E I hf st hg
  subst hP hw hK
  obtain⟨⟨old,he⟩,hit,hne⟩:=st
  obtain⟨xs,hq,hx⟩:=hg
  obtain⟨its,rv,p,hz⟩:=I.list hq
  obtain⟨f0,f1,f2,f3,f4,f5⟩:=hf it (by simp)
  have hl:=rv.length
  exact wpAny_pyNext_enum_end (I.ok.hd hc) he hit p.isList (by simp;lia) fun h' eb=>⟨rfl,I.turned (t':=s.toks) (fun b o hb q=>eb b o hb q) f0 f1 f3 f4 f5⟩
 self:=fun A i s Q E st h=>let ⟨⟨_,he⟩,_⟩:=st;wpAny_pyIter_enum he h
def Qk(K:PySem.W.Frag)(ta:TA):TI:=fun σ H R=>ta σ H fun vs H1=>∃a xs,vs=[.ref a]/\hZ K H1 a xs/\R (Rj K a) H1
theorem mZ{X:Cx}{e:Expr}{ta:TA}{p pos tpos:Pos}{elts:List Expr}{kk:Nat}(hg:Gl X "enumerate")(hm:X.mg "enumerate"=none)(ha:PA X [e] ta)(hs:starEach [e] X.env=[(false,eval e X.env)]:=by rfl):
  PI X (.Tuple elts kk tpos) (.Call (.Name "enumerate" p) [e] [] pos) (Qk X.K ta):=by
 intro pins s σ H R I h
 refine Call_ (oY I hg hm boot_enumerate (PyProof.Rows.callWith_type1 (dN (ha pos pins s σ H _ I h) fun us s1 ⟨vs,H1,I1,r1,q1⟩=> ?_) hs rfl))
 obtain⟨a,xs,ex,hq,q⟩:=q1
 subst ex
 cases r1 with
 |cons r rr=>
  cases rr
  cases r
  obtain⟨its,rv,p',hz⟩:=I1.list hq
  refine call_enumerate_list p'.isList fun h' he hit hsz hk=>wpAny_pyIter_enum he ?_
  have I2:Inv X pins σ H1 {s1 with heap:=h'}:=I1.kept (t':=s1.toks) hk
  refine⟨s1.heap.objs.size+1,[s1.heap.objs.size+1,s1.heap.objs.size],_,_,H1,rfl,I2,IX a (s1.heap.objs.size+1) s1.heap.objs.size,⟨⟨.none,he⟩,hit,Nat.succ_ne_self _⟩,fun b hb=> ?_,q⟩
  have e':b=s1.heap.objs.size+1\/b=s1.heap.objs.size:=by simpa using hb
  have hle:s1.heap.objs.size<=b:=by
   rcases e' with z |z
   ·rw[z];exact Nat.le_add_right _ _
   ·rw[z];exact Nat.le_refl _
  exact I1.IG hle (I1.dP.fresh hle)
theorem IY:bootBuiltins "zip"=some (.type "zip"):=by decide +kernel
def Rk(K:PySem.W.Frag)(a b:Addr):It:=
 ⟨fun i H=>∃(xs ys:List V) (x y:V),hZ K H a xs/\hZ K H b ys/\xs[i]? =some x/\ys[i]? =some y,
  fun i H v H'=>∃T x y,v= .ref T/\H T=none/\H'=upd H T (.tup [x,y])/\(∀xs,hZ K H a xs->xs[i]? =some x)/\∀ys,hZ K H b ys->ys[i]? =some y,
  fun i H=>∃xs ys:List V,hZ K H a xs/\hZ K H b ys/\(xs.length<=i\/ys.length<=i)⟩
theorem Kt{P:Program}{w:World}{K:PySem.W.Frag}{elts:List Expr}{kk:Nat}{tpos:Pos}{a b z TI TO i1 i2:Addr}(D:ZipApart z TI TO i1 i2 a b):
  Turn P w K (.Tuple elts kk tpos) (Rk K a b) [z,TI,TO,i1,i2] z (fun i h=>IsZip h z TI TO .none/\IsPair h TI (.ref i1) (.ref i2)/\(∃x y,IsPair h TO x y)/\h.IsListIter i1 a i/\h.IsListIter i2 b i) where
 mem:=by simp
 obj:=fun i h st c hc=>by
  obtain⟨hz,hTI,⟨x,y,hTO⟩,⟨o1,e1,_,d1⟩,⟨o2,e2,_,d2⟩⟩:=st
  have e':c=z\/c=TI\/c=TO\/c=i1\/c=i2:=by simpa using hc
  rcases e' with q |q |q |q |q
  ·rw[q];exact⟨_,hz,fun v q=>nomatch q⟩
  ·rw[q];exact⟨_,hTI,fun v q=>nomatch q⟩
  ·rw[q];exact⟨_,hTO,fun v q=>nomatch q⟩
  ·rw[q];exact⟨o1,e1,fun v q=>by rw[d1] at q;cases q⟩
  ·rw[q];exact⟨o2,e2,fun v q=>by rw[d2] at q;cases q⟩
 keep:=fun i h h' st k=>by
  obtain⟨hz,hTI,⟨x,y,hTO⟩,h1,h2⟩:=st
  exact⟨k z (by simp) _ hz,k TI (by simp) _ hTI,⟨x,y,k TO (by simp) _ hTO⟩,h1.at fun o q=>k i1 (by simp) o q,h2.at fun o q=>k i2 (by simp) o q⟩
 item:=by
  intro X hP hw hK hc i pins s σ H E I hf st hg
  subst hP hw hK
  obtain⟨hz,hTI,⟨x0,y0,hTO⟩,h1,h2⟩:=st
  obtain⟨xs,ys,x,y,hqx,hqy,hx,hy⟩:=hg
  obtain⟨its,rv,p,_⟩:=I.list hqx
  obtain⟨its2,rv2,p2,_⟩:=I.list hqy
  obtain⟨u,hu,ru⟩:=rv.get hx
  obtain⟨u2,hu2,ru2⟩:=rv2.get hy
  have hzl:z<s.heap.objs.size:=Heap.lt_size hz
  refine wpAny_pyNext_zip_item D hz hTI hTO h1 h2 p.isList p2.isList (x:=u) (y:=u2) (by simpa using hu) (by simpa using hu2) fun h' z' TO' h1' h2' hT hsz hk=> ?_
  refine⟨_,rfl,wpAny_letOwnedTupleGo_zip (s:={s with heap:=h'}) z' fun h'' z'' sb=> ?_⟩
  have hT2:h''.get? s.heap.objs.size=some {cls:= .type "tuple",data:= .seq #[u,u2]}:=(sb.2 _ (Nat.ne_of_gt hzl)).trans hT
  have new:gL X.prog X.w (upd H s.heap.objs.size (.tup [x,y])) h'' s.heap.objs.size (.tup [x,y]):=
   ⟨by show 2<=sizeLine;decide,[u,u2],.cons ru (.cons ru2 .nil),⟨_,hT2,rfl,_,rfl⟩⟩
  have I1:Inv X pins σ (upd H s.heap.objs.size (.tup [x,y])) {s with heap:=h''}:=
   I.Bw (t':=s.toks) (ch:=[z,TI,TO,i1,i2]) (fun c o hb q=>(sb.2 c (fun q'=>hb (by simp[q']))).trans (hk c o (fun q'=>hb (by simp[q'])) (fun q'=>hb (by simp[q'])) (fun q'=>hb (by simp[q'])) (fun q'=>hb (by simp[q'])) q)) hf (Nat.le_refl _) new
  refine⟨.ref s.heap.objs.size,_,I1,rfl,⟨_,x,y,rfl,I.dP.fresh (Nat.le_refl _),rfl,fun l hl=>by rw[I.oZ hl hqx];exact hx,fun l hl=>by rw[I.oZ hl hqy];exact hy⟩,⟨z'',?_,⟨u,u2,?_⟩,?_,?_⟩,fun c hcm=> ?_⟩
  ·exact(sb.2 _ D.TIz).trans (hk _ _ D.TIz D.TITO D.TIi1 D.TIi2 hTI)
  ·exact(sb.2 _ D.TOz).trans TO'
  ·exact h1'.at fun o q=>(sb.2 _ D.i1z).trans q
  ·exact h2'.at fun o q=>(sb.2 _ D.i2z).trans q
  ·have hlt:c<s.heap.objs.size:=by
    have e':c=z\/c=TI\/c=TO\/c=i1\/c=i2:=by simpa using hcm
    rcases e' with q |q |q |q |q
    ·rw[q];exact hzl
    ·rw[q];exact Heap.lt_size hTI
    ·rw[q];exact Heap.lt_size hTO
    ·rw[q];obtain⟨_,e1,_⟩:=h1;exact Heap.lt_size e1
    ·rw[q];obtain⟨_,e2,_⟩:=h2;exact Heap.lt_size e2
   rw[aR (Nat.ne_of_lt hlt)]
   exact(hf c hcm).1
 done:=by
  intro X hP hw hK hc i pins s σ H E I hf st hg
  subst hP hw hK
  obtain⟨hz,hTI,⟨x0,y0,hTO⟩,h1,h2⟩:=st
  obtain⟨xs,ys,hqx,hqy,hend⟩:=hg
  obtain⟨its,rv,p,_⟩:=I.list hqx
  obtain⟨its2,rv2,p2,_⟩:=I.list hqy
  have l1:=rv.length
  have l2:=rv2.length
  have he:its.toArray[i]? =none\/its2.toArray[i]? =none:=by
   rcases hend with q |q
   ·exact .inl (by simp;lia)
   ·exact .inr (by simp;lia)
  exact wpAny_pyNext_zip_end (I.ok.hd hc) D hz hTI hTO h1 h2 p.isList p2.isList he fun h' hk=>⟨rfl,I.Mm (t':=s.toks) (ch:=[z,TI,TO,i1,i2]) (fun c o hb q=>
   hk c o (fun q'=>hb (by simp[q'])) (fun q'=>hb (by simp[q'])) (fun q'=>hb (by simp[q'])) (fun q'=>hb (by simp[q'])) q) hf⟩
 self:=fun A i s Q E st h=>wpAny_pyIter_zip st.1 h
def Rl(K:PySem.W.Frag)(ta:TA):TI:=fun σ H R=>ta σ H fun vs H1=>∃a b xs ys,vs=[.ref a,.ref b]/\hZ K H1 a xs/\hZ K H1 b ys/\R (Rk K a b) H1
theorem Ol{X:Cx}{e e2:Expr}{ta:TA}{p pos tpos:Pos}{elts:List Expr}{kk:Nat}(hg:Gl X "zip")(hm:X.mg "zip"=none)(ha:PA X [e,e2] ta)
  (hs:starEach [e,e2] X.env=(false,eval e X.env)::starEach [e2] X.env:=by rfl) (hpl:(backTo pos (starEach [e2] X.env)).any (·.1)=false:=by rfl):
  PI X (.Tuple elts kk tpos) (.Call (.Name "zip" p) [e,e2] [] pos) (Rl X.K ta):=by
 intro pins s σ H R I h
 refine Call_ (oY I hg hm IY (PyProof.Rows.callWith_type1 (dN (ha pos pins s σ H _ I h) fun us s1 ⟨vs,H1,I1,r1,q1⟩=> ?_) hs hpl))
 obtain⟨a,b,xs,ys,ex,hqx,hqy,q⟩:=q1
 subst ex
 cases r1 with
 |cons r rr=>
  cases rr with
  |cons r' rr=>
   cases rr
   cases r
   cases r'
   obtain⟨its,rv,p1,_⟩:=I1.list hqx
   obtain⟨its2,rv2,p2,_⟩:=I1.list hqy
   have la:a<s1.heap.objs.size:=p1.lt
   have lb:b<s1.heap.objs.size:=p2.lt
   refine call_zip_2 p1.isList p2.isList fun h' hz hTI hTO h1 h2 hsz hk=>wpAny_pyIter_zip hz ?_
   have I2:Inv X pins σ H1 {s1 with heap:=h'}:=I1.kept (t':=s1.toks) hk
   refine⟨s1.heap.objs.size+4,[s1.heap.objs.size+4,s1.heap.objs.size+2,s1.heap.objs.size+3,s1.heap.objs.size,s1.heap.objs.size+1],_,_,H1,rfl,I2,Kt (PySem.W.ktu_apart s1.heap.objs.size a b la lb),⟨hz,hTI,⟨_,_,hTO⟩,h1,h2⟩,fun c hcm=> ?_,q⟩
   have e':c=s1.heap.objs.size+4\/c=s1.heap.objs.size+2\/c=s1.heap.objs.size+3\/c=s1.heap.objs.size\/c=s1.heap.objs.size+1:=by simpa using hcm
   have hle:s1.heap.objs.size<=c:=by
    rcases e' with z |z |z |z |z
    ·rw[z];exact Nat.le_add_right _ _
    ·rw[z];exact Nat.le_add_right _ _
    ·rw[z];exact Nat.le_add_right _ _
    ·rw[z];exact Nat.le_refl _
    ·rw[z];exact Nat.le_add_right _ _
   exact I1.IG hle (I1.dP.fresh hle)
end L2
section
namespace Rm
open PySem PyProof.Rows
end Rm
end
section
namespace TL
open PySem PySem.Builtin PySem.Builtin.Str PySem.StrLaws
end TL
end
namespace L2
open PySem PySem.Spec PyProof.Rows
end L2
namespace R7
open PySem PySem.W PySem.Calls PyProof.Rows
end R7
namespace L2
open PySem PySem.Spec PyProof.Rows
def inClass(s:Stmt)(j:Nat):Stmt:=match s with
 | .ClassDef _ _ _ body _ _ _ _ _ _ _=>body.getD j (.Pass ⟨0,0,0,0⟩)
 |_=> .Pass ⟨0,0,0,0⟩
def c7(s:Stmt):Arguments:=match s with
 | .FunctionDef _ a _ _ _ _ _ _ _ _=>a
 |_=>{posonlyargs:=[],args:=[],vararg:=none,kwonlyargs:=[],kw_defaults:=[],kwarg:=none,defaults:=[]}
def cz(s:Stmt):List Stmt:=match s with
 | .FunctionDef _ _ b _ _ _ _ _ _ _=>b
 |_=>[]
def aq(s:Stmt):Scope:=match s with
 | .FunctionDef _ _ _ _ _ _ sc _ _ _=>sc
 |_=>{kind:= .function,names:=[],isGenerator:=false,isCoroutine:=false}
abbrev HB:J1:=fun _ _ _ _ _ _=>False
abbrev E0:XK:=fun _ _ _=>False
theorem Ku{X:Cx}:Passes HB X E0:=fun _ _ _ _ _ _ _ h=>h.elim
structure Om(K:PySem.W.Frag)(x qual:Str)(st:Stmt)(f:Addr)(fd:FuncData):Prop where
 ex:∃(oc:Value) (od:Option Addr) (kV doc pm:Value) (an:Option Addr) (cdv ct:Value) (osl:Array (Option Value)),
  fd=PySem.W.fnOf x qual (c7 st) (cz st) (aq st) .none kV doc pm an cdv ct/\K.lookup f=some ⟨oc,od,.func fd,osl⟩/\PySem.W.codeIn K cdv qual=true
 kp:PySem.W.keepIn K (.ref f)=true
section
variable {P:Program}{w:World}{K:PySem.W.Frag}{mg:Str->Option Value}{base:Heap}
theorem Om.ok{x qual:Str}{st:Stmt}{f:Addr}{fd:FuncData}{N ps:List Str}{k:Nat}{sp:Sp}(F:Om K x qual st f fd)(S:aD N ps (aq st))(len:∀vs H Q E,sp vs H Q E->vs.length=ps.length)
  (hbody:∀(cdv:Value) (A:Around) (outer:List Env) (s:Shared) (H:Hp) (vs:List V) (Q:VK) (E:XK),hJ k (A.deeper (envOfC qual (aq st) s.heap.objs.size f cdv))->sp vs H Q E->
   ∃t,FT (Cr HB P w K mg base N qual (aq st) f cdv A outer s H E).NM (cz st) t/\t {nx:=fun _ H'=>Q .gr H',rt:=Q} (start N vs) H):lY P w K mg base HB (k+1) f fd ps sp:=by
 obtain⟨oc,od,kV,doc,pm,an,cdv,ct,osl,rfl,lk,hcd⟩:=F.ex
 refine PX lk hcd S len fun A outer s H vs Q E hr hsp=> ?_
 obtain⟨t,h,q⟩:=hbody cdv A outer s H vs Q E hr hsp
 exact⟨t,h.NM,q⟩
theorem Om.binds{x qual:Str}{st:Stmt}{f:Addr}{fd:FuncData}{ps:List Str}(F:Om K x qual st f fd)
  (h:∀(kV doc pm:Value) (an:Option Addr) (cdv ct:Value) (us:List Value),us.length=ps.length->bindArgs (PySem.W.fnOf x qual (c7 st) (cz st) (aq st) .none kV doc pm an cdv ct) ⟨us,[]⟩=pure (ps.zip us)):Binds K fd ps []:=by
 obtain⟨oc,od,kV,doc,pm,an,cdv,ct,osl,rfl,lk,hcd⟩:=F.ex
 exact .all (h kV doc pm an cdv ct)
theorem Kv{x qual:Str}{st:Stmt}{f:Addr}{oc:Value}{od an:Option Addr}{osl:Array (Option Value)}{kV doc pm cdv ct:Value}(l:K.lookup f=some ⟨oc,od,.func (PySem.W.fnOf x qual (c7 st) (cz st) (aq st) .none kV doc pm an cdv ct),osl⟩)
  (c:PySem.W.codeIn K cdv qual=true) (k:PySem.W.keepIn K (.ref f)=true):Om K x qual st f (PySem.W.fnOf x qual (c7 st) (cz st) (aq st) .none kV doc pm an cdv ct):=⟨⟨oc,od,kV,doc,pm,an,cdv,ct,osl,rfl,l,c⟩,k⟩
end
section
variable {X:Cx}
theorem pv(i:Nat){x:Str}{pos:Pos}(hN:X.N[i]? =some x:=by rfl)(hv:O6 X.env.scope x:=by first |exact Or.inl rfl |exact Or.inr (Or.inl rfl) |exact Or.inr (Or.inr rfl))(hd:(x==("__debug__":Str))=false:=by decide)
  (hcd:(x==("__classdict__":Str))=false:=by decide):PE X (.Name x pos) (rH i):=NL hN hv hd hcd
end
theorem bE{A B:Prop}(h:B):if false=true then A else B:=by
 rw[if_neg Bool.false_ne_true]
 exact h
theorem bx{A B:Prop}(h:A):if true=true then A else B:=by
 rw[if_pos rfl]
 exact h
theorem Oo{c A B:Prop} [Decidable c](h1:c->A)(h2:¬c->B):if c then A else B:=by
 by_cases h:c
 ·rw[if_pos h]
  exact h1 h
 ·rw[if_neg h]
  exact h2 h
theorem Ni{c A B:Prop} [Decidable c](hc:c)(h:B):if(!decide c)=true then A else B:=by
 rw[decide_eq_true hc]
 exact bE h
def aJ(H H':Hp):Prop:=∀b o,H b=some o->H' b=some o
theorem aJ.refl(H:Hp):aJ H H:=fun _ _ h=>h
theorem aJ.trans{H H1 H2:Hp}(a:aJ H H1)(b:aJ H1 H2):aJ H H2:=fun c o h=>b c o (a c o h)
theorem aJ.free{H H':Hp}(e:aJ H H'){l:Addr}(h:H' l=Option.none):H l=Option.none:=by
 cases q:H l with
 |none=>rfl
 |some o=>
  rw[e l o q] at h
  cases h
theorem aJ.seq{K:PySem.W.Frag}{H H':Hp}{a:Addr}{xs:List V}(e:aJ H H')(h:hZ K H a xs):hZ K H' a xs:=by
 rcases h with(h |⟨o,h⟩) |h
 ·exact .inl (.inl (e _ _ h))
 ·exact .inl (.inr ⟨o,e _ _ h⟩)
 ·exact .inr h
section
variable {κ:Type} [DecidableEq κ]
theorem HC:∀{l:List κ} {k:κ},l.Nodup->¬k∈l->(l ++ [k]).Nodup
 |[],k,_,_=>by simp
 |a::r,k,h,hk=>by
  obtain⟨h1,h2⟩:=List.nodup_cons.mp h
  show(a::(r ++ [k])).Nodup
  refine List.nodup_cons.mpr ⟨fun m=> ?_,HC h2 fun m=>hk (List.mem_cons.mpr (Or.inr m))⟩
  rcases List.mem_append.mp m with q |q
  ·exact h1 q
  ·exact hk (List.mem_cons.mpr (Or.inl (List.mem_singleton.mp q).symm))
end
theorem Ql{α:Type}{l:List α}(hN:l.Nodup){i j:Nat}{x:α}(a:l[i]? =some x)(b:l[j]? =some x):i=j:=by
 obtain⟨h1,e1⟩:=List.getElem?_eq_some_iff.mp a
 obtain⟨h2,e2⟩:=List.getElem?_eq_some_iff.mp b
 exact(List.getElem_inj hN).mp (e1.trans e2.symm)
theorem aJ.made{H H1:Hp}{x dx C:Addr}(nx:H x=Option.none)(nd:H dx=Option.none)(k:∀b o,(upd (upd H dx (.own x)) x (.ins C dx [])) b=some o->b≠x->H1 b=some o):aJ H H1:=fun b o e=>
 k b o (by rw[aR (bV e nx),aR (bV e nd)];exact e) (bV e nx)
end L2
namespace DR
open PySem PySem.Spec PyProof.Rows L2
structure bq(P:Program)(w:World)(K:PySem.W.Frag)(mg:Str->Option Value)(base:Heap)(x:Str)(ps:List Str)(k:Nat)(sp:Sp):Prop where
 ex:∃(f:Addr) (fd:FuncData),mg x=some (.ref f)/\lY P w K mg base HB k f fd ps sp/\PySem.W.keepIn K (.ref f)=true/\Binds K fd ps []
structure d9(K:PySem.W.Frag)(mg:Str->Option Value)(x:Str)(st:Stmt)(ps:List Str):Prop where
 ex:∃(f:Addr) (fd:FuncData),mg x=some (.ref f)/\Om K x x st f fd/\Binds K fd ps []
section
variable {P:Program}{w:World}{K:PySem.W.Frag}{mg:Str->Option Value}{base:Heap}
theorem bq.mono{x:Str}{ps:List Str}{j k:Nat}{sp:Sp}(c:bq P w K mg base x ps j sp)(h:j<=k):bq P w K mg base x ps k sp:=
 let ⟨f,fd,a,b,d,e⟩:=c.ex
 ⟨f,fd,a,b.mono h,d,e⟩
def R8(P:Program)(w:World)(K:PySem.W.Frag)(mg:Str->Option Value)(base:Heap)(N:List Str)(x:Str)(st:Stmt)(k:Nat)(sp:Sp):Prop:=
 ∀(f:Addr) (cdv:Value) (A:Around) (outer:List Env) (s:Shared) (H:Hp) (vs:List V) (Q:VK) (E:XK),hJ k (A.deeper (envOfC x (aq st) s.heap.objs.size f cdv))->sp vs H Q E->
   ∃t,FT (Cr HB P w K mg base N x (aq st) f cdv A outer s H E).NM (cz st) t/\t {nx:=fun _ H'=>Q .gr H',rt:=Q} (start N vs) H
theorem d9.fg{x:Str}{st:Stmt}{N ps:List Str}{k:Nat}{sp:Sp}(G:d9 K mg x st ps)(S:aD N ps (aq st))(len:∀vs H Q E,sp vs H Q E->vs.length=ps.length)(h:R8 P w K mg base N x st k sp):bq P w K mg base x ps (k+1) sp:=by
 obtain⟨f,fd,hm,F,hb⟩:=G.ex
 exact⟨f,fd,hm,F.ok S len (fun cdv A outer s H vs Q E hr hsp=>h f cdv A outer s H vs Q E hr hsp),F.kp,hb⟩
end
section
variable {X:Cx}{k:Nat}{x:Str}{ps:List Str}{sp:Sp}{e:Expr}{es:List Expr}{t:TA}{p pos:Pos}
theorem aA(c:bq X.prog X.w X.K X.mg X.base x ps k sp)(hr:hJ k X.A)(hg:Gl X x)(ha:PA X (e::es) t)
  (hdb:(x==("__debug__":Str))=false:=by decide) (he:starEach (e::es) X.env=(false,eval e X.env)::starEach es X.env:=by rfl) (hpl:(backTo pos (starEach es X.env)).any (·.1)=false:=by rfl):
  PE X (.Call (.Name x p) (e::es) [] pos) (Hu sp [] E0 t):=by
 obtain⟨f,fd,hm,F,hk,hb⟩:=c.ex
 exact Mc F hr hg hm hk hb .nil Ku ha hdb he hpl
theorem Mn{fe:Expr}{tf:TE}(hf:PE X fe tf)(hev:eval (.Call fe (e::es) [] pos) X.env=(do let f<-eval fe X.env;callWith pos f [] (backTo pos (starEach (e::es) X.env)) (backToKw pos (keywordEach [] X.env))))
  (ha:PA X (e::es) t) (he:starEach (e::es) X.env=(false,eval e X.env)::starEach es X.env:=by rfl) (hpl:(backTo pos (starEach es X.env)).any (·.1)=false:=by rfl):
  PE X (.Call fe (e::es) [] pos) (fun σ H Q=>tf σ H fun v H1=>∃f fd ps k sp,v= .ref f/\lY X.prog X.w X.K X.mg X.base HB k f fd ps sp/\hJ k X.A/\PySem.W.keepIn X.K (.ref f)=true/\Binds X.K fd ps []/\t σ H1 fun vs H2=>sp (vs ++ []) H2 Q E0):=by
 intro pins s σ H Q I h
 rw[hev]
 refine wpAny_bind (dN (hf pins s σ H _ I h) fun u s1 ⟨v,H1,I1,rv,f,fd,ps,k,sp,e1,F,hr,hk,hb,q⟩=> ?_)
 subst e1
 cases rv
 refine PySem.W.callWith_K (h₀:=X.base) I.ok.mod.Ph hk (dN (ha pos pins s1 σ H1 _ I1 q) fun us s2 ⟨vs,H2,I2,r,q2⟩=>⟨I2.J0,?_⟩) he hpl
 exact Kk F hr hb .nil Ku I2 r q2
end
def Sz(b:Nat)(z:Int):Prop:=z.natAbs<2^b
theorem Sz.bits{b:Nat}{z:Int}(h:Sz b z):Builtin.Int.intBits z<=b:=by
 unfold Builtin.Int.intBits
 split
 ·exact Nat.zero_le _
 ·rename_i hz
  have h0:z.natAbs≠0:=fun q=>hz (by simpa using q)
  have:z.natAbs.log2<b:=(Nat.log2_lt h0).mpr h
  lia
theorem Sz.mul{a b:Int}{m n:Nat}(ha:Sz m a)(hb:Sz n b)(h:m+n<=134217728):IntMulOk a b:=IntMulOk.of_le ha.bits hb.bits h
section
variable {X:Cx}
theorem dQ:tH X (binaryOp .Mult) (rI IntMulOk fun i j=> .int (i*j)):=Q7 fun _ _ _ _ _ _ _ hc q=>mul_int q hc
theorem yL:tH X (binaryOp .FloorDiv) (rI (fun _ j=>j≠0/\j.natAbs.log2<9000) fun i j=> .int (i.fdiv j)):=Q7 fun _ _ _ _ _ _ _ hc q=>floordiv_int hc.1 q (.inl (PyProof.noPylong_of_log2 hc.2))
structure IZ(X:Cx):Prop where
 no:X.base.NoSeer
 tree:X.prog.given.tree=none
 NJ:∃env l,X.stack=env::l/\env.scope.isGenerator=false/\env.scope.isCoroutine=false/\env.builtins=builtinsNs/\env.globals=mainGlobals
 room:X.A.depth+Builtin.pylongFrames<recursionLimit
theorem IZ.AM{s:Shared}{H:Hp}{scope:Scope}{ce:Env}{fp:List Addr}(S:IZ X):IZ (X.AM s H scope ce fp):=⟨S.no,S.tree,S.NJ,S.room⟩
theorem Kw(S:IZ X):tH X (binaryOp .FloorDiv) (rI (fun _ j=>j≠0) fun i j=> .int (i.fdiv j)):=by
 intro pins s σ H x y v u Q I rx ry h
 obtain⟨i,j,rfl,rfl,hc,q⟩:=h
 obtain⟨t,rfl⟩:=rx
 obtain⟨t',rfl⟩:=ry
 obtain⟨env,l,e1,e2,e3,e4,e5⟩:=S.NJ
 exact floordiv_int hc ⟨.int (i.fdiv j),H,I.tok _,⟨_,rfl⟩,q⟩ (.inr (PylongRoom.of I.nolimit S.room (SeerAt.of (S.no.keeps I.bk) S.tree (I.ok.frames.trans (by rw[e1])) e2 e3 e4 e5)))
end
section
variable {X:Cx}
theorem gc{x:Str}{z:Int}{pos:Pos}(h:∃t,X.mg x=some (.int z t))(hg:Gl X x:=by rfl)(hd:(x==("__debug__":Str))=false:=by decide):PE X (.Name x pos) (tC (.int z)):=
 let ⟨t,e⟩:=h
 Hl hg e ⟨t,rfl⟩ hd
theorem rL:PD X (fun o i H Q=>∃p xs k j v,o= .ref p/\i= .int k/\hZ X.K H p xs/\k=((j:Nat):Int)/\xs[j]? =some v/\Q v H):=by
 intro pins s σ H o i ov iv Q I rx ry h
 obtain⟨p,xs,k,j,z,rfl,rfl,hq,hk,he,q⟩:=h
 cases rx
 obtain⟨t,rfl⟩:=ry
 obtain⟨its,r,pl,hz⟩:=I.list hq
 obtain⟨w,ew,rw'⟩:=r.get he
 have hl:=r.length
 have hn:=vD
 have hj:j<its.length:=by
  have:=List.getElem?_eq_some_iff.mp ew
  exact this.1
 exact getItem_listL pl.isList (by lia) (by lia) (by rw[hk];simpa using ew) ⟨z,H,I,rw',q⟩
def Rn(C:Int->Int->Prop)(f:Int->Int->Int):NO:=fun x y H Q=>∃i j,x= .int i/\y= .int j/\C i j/\Q (.int (f i j)) H
theorem Mo:Px X .Mult (Rn IntMulOk fun i j=>i*j):=by
 intro pins s σ H x y v u Q I r1 r2 h
 obtain⟨i,j,e1,e2,hc,q⟩:=h
 subst e1;subst e2
 obtain⟨t,rfl⟩:=r1
 obtain⟨t',rfl⟩:=r2
 exact imul_int ⟨.int _,H,I.tok _,⟨_,rfl⟩,q⟩ hc
end
section
variable {X:Cx}(K:PySem.W.Frag)
theorem fE(h:X.K=K:=by rfl):PY X (NY K):=by subst h;exact Mh
theorem QN(h:X.K=K:=by rfl):PY X (PZ K):=by subst h;exact NZ
theorem Qm(h:X.K=K:=by rfl):Q9 X (Ob K):=by subst h;exact Mi
theorem yM(h:X.K=K:=by rfl):tH X (compareOp .In) (QL K false):=by subst h;exact IU
theorem I0(h:X.K=K:=by rfl):tH X (compareOp .NotIn) (QL K true):=by subst h;exact Cv
theorem bo(h:X.K=K:=by rfl):kW X (.builtin "len") (fun xs H Q=>∃p ys,xs=[.ref p]/\(hZ K H p ys\/AL K H p ys)/\Q (.int ys.length) H):=by subst h;exact Cw
theorem rM(h:X.K=K:=by rfl):kW X (.type "list") (fun xs H Q=>∃p ys,xs=[.ref p]/\(hZ K H p ys\/AL K H p ys)/\∀l,H l=none->Q (.ref l) (upd H l (.lst ys))):=by subst h;exact Cy
theorem aw{e:Expr}{f:Str}{pos:Pos}{ta:TE}(he:PE X e ta)(hb:attributeBase e f X.env (eval e X.env)=eval e X.env)(h:X.K=K:=by rfl):PE X (.Attribute e f pos) (IP K ta f):=by subst h;exact NW he hb
theorem bw{a:Expr}{ta:TE}(ha:PE X a ta)(he:∀whole,isTrue a X.env whole=(do let v<-whole;standAt a.pos;holding [v] (truthy v)))(h:X.K=K:=by rfl):
  PT X a (fun σ H Q=>ta σ H fun x H'=>∃k,L9 K x H' k/\Q k H'):=by subst h;exact Ki ha he
theorem gP{pos:Pos}{es:List Expr}{k:Nat}{t:Nd}{n:Nat}(hc:X.calm=true)(h:Pw X es t)
  (hn:(assignEach es X.env).length=n:=by rfl) (hst:(assignEach es X.env).findIdx? (·.1)=none:=by rfl) (hK:X.K=K:=by rfl):PG X (.Tuple es k pos) (Pz K n t):=by subst hK;exact NP hc h hn hst
theorem HD(hc:X.calm=true)(h:X.K=K:=by rfl):kW X (.builtin "any") (Qe K):=by subst h;exact Oh hc
theorem CB(hc:X.calm=true)(h:X.K=K:=by rfl):kW X (.builtin "all") (Qg K):=by subst h;exact Oi hc
theorem Mp(hc:X.calm=true)(h:X.K=K:=by rfl):kW X (.builtin "sum") (Qc K):=by subst h;exact Og hc
end
theorem a6:bootBuiltins "len"=some (.builtin "len"):=by decide +kernel
theorem pJ:bootBuiltins "list"=some (.type "list"):=by decide +kernel
theorem Gb:bootBuiltins "max"=some (.builtin "max"):=by decide +kernel
theorem Gd:bootBuiltins "sum"=some (.builtin "sum"):=by decide +kernel
theorem rN:bootBuiltins "all"=some (.builtin "all"):=by decide +kernel
theorem yN:bootBuiltins "any"=some (.builtin "any"):=by decide +kernel
theorem rO:bootBuiltins "abs"=some (.builtin "abs"):=by decide +kernel
structure Yl(J:It)(H1:Hp)(n:Nat)(R:Nat->Hp->V->Prop):Prop where
 go:∀i H,aJ H1 H->i<n->J.go i H
 yl:∀i H x H',aJ H1 H->i<n->J.O7 i H x H'->aJ H H'/\R i H' x
 st:∀H,aJ H1 H->J.stop n H
theorem ay{H:Hp}{p:Addr}{o:HO}(h:H p=none):aJ H (upd H p o):=fun b u e=>by rw[aR (bV e h)];exact e
theorem _root_.L2.aJ.over{H H':Hp}{p:Addr}{o:HO}(s:aJ H H')(h:H p=none):aJ H (upd H' p o):=fun b u e=>by rw[aR (bV e h)];exact s b u e
theorem bT{K:PySem.W.Frag}{a:Addr}{H1:Hp}{vs:List V}(h:hZ K H1 a vs):Yl (Q3 K a) H1 vs.length (fun i _ x=>vs[i]? =some x) where
 go:=fun i H s hi=>⟨vs,vs[i],s.seq h,by simp[hi]⟩
 yl:=fun i H x H' s hi ⟨e,y⟩=>⟨by rw[e];exact .refl _,y vs (s.seq h)⟩
 st:=fun H s=>⟨vs,s.seq h,Nat.le_refl _⟩
theorem iX(H1:Hp)(lo:Int)(n:Nat):Yl (PH lo n) H1 n (fun i _ x=>x= .int (lo+i)) where
 go:=fun i H s hi=>hi
 yl:=fun i H x H' s hi ⟨e,y⟩=>⟨by rw[e];exact .refl _,y⟩
 st:=fun H s=>Nat.le_refl _
theorem By(H1:Hp)(lo c:Int)(n:Nat):Yl (Rg lo c n) H1 n (fun i _ x=>x= .int (lo+(i:Nat)*c)) where
 go:=fun i H s hi=>hi
 yl:=fun i H x H' s hi ⟨e,y⟩=>⟨by rw[e];exact .refl _,y⟩
 st:=fun H s=>Nat.le_refl _
theorem Oq{K:PySem.W.Frag}{a:Addr}{H1:Hp}{vs:List V}(h:hZ K H1 a vs):Yl (Rh K a vs.length) H1 vs.length (fun i _ x=>vs[vs.length - 1 - i]? =some x) where
 go:=fun i H s hi=>⟨hi,vs,vs[vs.length - 1 - i]'(by lia),s.seq h,by rw[List.getElem?_eq_getElem (by lia)]⟩
 yl:=fun i H x H' s hi ⟨e,y⟩=>⟨by rw[e];exact .refl _,y vs (s.seq h)⟩
 st:=fun H s=>Nat.le_refl _
theorem m5{K:PySem.W.Frag}{a:Addr}{H1:Hp}{vs:List V}(h:hZ K H1 a vs):Yl (Rj K a) H1 vs.length (fun i H x=>∃T y,x= .ref T/\H T=some (.tup [.int (i:Nat),y])/\vs[i]? =some y) where
 go:=fun i H s hi=>⟨vs,vs[i],s.seq h,by simp[hi]⟩
 yl:=fun i H x H' s hi ⟨T,y,e,n,e2,q⟩=>⟨by rw[e2];exact ay n,T,y,e,by rw[e2];exact ak,q vs (s.seq h)⟩
 st:=fun H s=>⟨vs,s.seq h,Nat.le_refl _⟩
theorem Ot{K:PySem.W.Frag}{a b:Addr}{H1:Hp}{vs us:List V}(h:hZ K H1 a vs)(h':hZ K H1 b us)(hl:vs.length=us.length):Yl (Rk K a b) H1 vs.length (fun i H x=>∃T y z,x= .ref T/\H T=some (.tup [y,z])/\vs[i]? =some y/\us[i]? =some z) where
 go:=fun i H s hi=>⟨vs,us,vs[i],us[i]'(by lia),s.seq h,s.seq h',by simp[hi],by rw[List.getElem?_eq_getElem (by lia)]⟩
 yl:=fun i H x H' s hi ⟨T,y,z,e,n,e2,q,q2⟩=>⟨by rw[e2];exact ay n,T,y,z,e,by rw[e2];exact ak,q vs (s.seq h),q2 us (s.seq h')⟩
 st:=fun H s=>⟨vs,us,s.seq h,s.seq h',.inl (Nat.le_refl _)⟩
theorem gb{J:It}{H1:Hp}{n:Nat}{R:Nat->Hp->V->Prop}(Y:Yl J H1 n R){g:TG}{tb:TS}{D:Ends}{σ:L2.St}{Hs:Hp}(Pv:Nat->L2.St->Hp->Prop)(h0:Pv 0 σ Hs)(sm:∀i σ H,Pv i σ H->aJ H1 H)
  (hs:∀i x σ H H',i<n->Pv i σ H->aJ H1 H'->aJ H H'->R i H' x->g x σ H' fun σ2 H2=>tb {D with nx:=Pv (i+1),ct:=Pv (i+1),bk:=D.nx} σ2 H2) (hd:∀σ H,Pv n σ H->D.nx σ H):
  ∃W:Nat->Nat->L2.St->Hp->Prop,(∃m,W 0 m σ Hs)/\∀i m σ H,W i m σ H->
   (J.stop i H/\D.nx σ H)\/(J.go i H/\∃N:L2.St->Hp->Prop,(∀σ' H',N σ' H'->∃m',m' <m/\W (i+1) m' σ' H')/\∀x H',J.O7 i H x H'->g x σ H' fun σ2 H2=>tb {D with nx:=N,ct:=N,bk:=D.nx} σ2 H2):=by
 refine⟨fun i m σ H=>m=n - i/\i<=n/\Pv i σ H,⟨n,by simp,Nat.zero_le _,h0⟩,?_⟩
 rintro i m σ H ⟨rfl,hi,p⟩
 have s:=sm i σ H p
 by_cases hlt:i<n
 ·refine .inr ⟨Y.go i H s hlt,Pv (i+1),fun σ' H' p'=>⟨n - (i+1),by lia,rfl,hlt,p'⟩,fun x H' y=> ?_⟩
  obtain⟨s2,r⟩:=Y.yl i H x H' s hlt y
  exact hs i x σ H H' hlt p (s.trans s2) s2 r
 ·have e:i=n:=by lia
  subst e
  exact .inl ⟨Y.st H s,hd σ H p⟩
def Kx(H1:Hp)(D:Addr)(P:Hp->List V->Prop)(H:Hp):Prop:=aJ H1 H/\∃acc,H D=some (.lst acc)/\P H acc
theorem cT{H1 H4:Hp}{D:Addr}{P:Hp->List V->Prop}{acc:List V}{y:V}(hD:H1 D=none)(s:aJ H1 H4)(h:H4 D=some (.lst acc))(hl:acc.length<sizeLine)(p:P (upd H4 D (.lst (acc ++ [y]))) (acc ++ [y])):
  ∃acc,H4 D=some (.lst acc)/\acc.length<sizeLine/\Kx H1 D P (upd H4 D (.lst (acc ++ [y]))):=⟨acc,h,hl,s.over hD,_,ak,p⟩
theorem ks{J:It}{H1:Hp}{n:Nat}{R:Nat->Hp->V->Prop}(Y:Yl J H1 n R){g:TG}{tt:TT}{te:TE}{vs:List Nat}{σ:L2.St}{D:Addr}{Qd:Hp->Prop}(hD:H1 D=none)(Pv:Nat->Hp->List V->Prop)(h0:Pv 0 (upd H1 D (.lst [])) [])
  (hs:∀i x H H' acc,i<n->aJ H1 H->H D=some (.lst acc)->Pv i H acc->aJ H1 H'->aJ H H'->H' D=some (.lst acc)->R i H' x->g x (wipe σ vs) H' fun σ2 H2=>wipe σ2 vs=wipe σ vs/\tt σ2 H2 fun b H3=>
   if b=true then te σ2 H3 fun y H4=>∃acc,H4 D=some (.lst acc)/\acc.length<sizeLine/\Kx H1 D (Pv (i+1)) (upd H4 D (.lst (acc ++ [y]))) else Kx H1 D (Pv (i+1)) H3)
  (hd:∀H acc,aJ H1 H->H D=some (.lst acc)->Pv n H acc->Qd H):
  ∃W:Nat->Nat->Hp->Prop,(∃m,W 0 m (upd H1 D (.lst [])))/\∀i m H,W i m H->
   (J.stop i H/\Qd H)\/(J.go i H/\∃Nx:Hp->Prop,(∀H',Nx H'->∃m',m' <m/\W (i+1) m' H')/\∀x H',J.O7 i H x H'->g x (wipe σ vs) H' fun σ2 H2=>wipe σ2 vs=wipe σ vs/\tt σ2 H2 fun b H3=>
    if b=true then te σ2 H3 fun y H4=>∃acc,H4 D=some (.lst acc)/\acc.length<sizeLine/\Nx (upd H4 D (.lst (acc ++ [y]))) else Nx H3):=by
 refine⟨fun i m H=>m=n - i/\i<=n/\Kx H1 D (Pv i) H,⟨n,by simp,Nat.zero_le _,ay hD,[],ak,h0⟩,?_⟩
 rintro i m H ⟨rfl,hi,s,acc,ha,p⟩
 by_cases hlt:i<n
 ·refine .inr ⟨Y.go i H s hlt,Kx H1 D (Pv (i+1)),fun H' q=>⟨n - (i+1),by lia,rfl,hlt,q⟩,fun x H' y=> ?_⟩
  obtain⟨s2,r⟩:=Y.yl i H x H' s hlt y
  exact hs i x H H' acc hlt s ha p (s.trans s2) s2 (s2 _ _ ha) r
 ·have e:i=n:=by lia
  subst e
  exact .inl ⟨Y.st H s,hd H acc s ha p⟩
theorem aS{α:Type}{xs:List α}{z:Int}{j:Nat}{v:α}(e:z=(j:Int))(h:xs[j]? =some v):Ko xs z=some v:=by rw[e];exact Me h
theorem m6{n:Nat}{z:Int}{j:Nat}(e:z=(j:Int))(h:j<n):Kn n z=some j:=by
 unfold Kn
 rw[e,if_pos (Int.natCast_nonneg j),if_pos (by lia)]
 simp
theorem az{α:Type}{l:List α}{d:α}{j:Nat}(h:j<l.length):l[j]? =some (l.getD j d):=by
 rw[gDe,List.getElem?_eq_getElem h];rfl
theorem fF{l:List Int}{j:Nat}(h:j<l.length):(l.map V.int)[j]? =some (V.int (l.getD j 0)):=by
 rw[List.getElem?_map,az (d:=0) h];rfl
theorem ax{n:Nat}(h:n<=16777216):n<=sizeLine:=by rw[sizeLine_eq];exact h
theorem aH{n:Nat}(h:n<16777216):n<sizeLine:=by rw[sizeLine_eq];exact h
theorem sco{N P:List Str}{sc:Scope}(a:sc.kind= .function)(b:sc.isCoroutine=false)(c:sc.isGenerator=false)(e:N.take P.length=P)(h:N.Nodup/\(∀x∈P,sc.names.lookup x=some .local\/sc.names.lookup x=some .cell)/\∀y∈sc.names,y.2≠.free):aD N P sc:=⟨a,b,c,h.1,e,h.2.1,h.2.2⟩
end DR
namespace ai
open Lean.Grind
section det
variable {R:Type} [CommRing R]
noncomputable def a7:Nat->(Nat->R)->R
 |0,_=>0
 |n+1,f=>a7 n f+f n
theorem a9:∀(n:Nat) {f g:Nat->R},(∀i,i<n->f i=g i)->a7 n f=a7 n g
 |0,_,_,_=>rfl
 |n+1,f,g,h=>by
  show a7 n f+f n=a7 n g+g n
  rw[a9 n (fun i hi=>h i (by lia)),h n (by lia)]
theorem tM:∀(n:Nat) (f g:Nat->R),a7 n (fun i=>f i+g i)=a7 n f+a7 n g
 |0,_,_=>by show(0:R)=0+0;grind
 |n+1,f,g=>by
  show a7 n (fun i=>f i+g i)+(f n+g n)=a7 n f+f n+(a7 n g+g n)
  rw[tM n f g];grind
theorem cj:∀(n:Nat) (c:R) (f:Nat->R),a7 n (fun i=>c*f i)=c*a7 n f
 |0,c,_=>by show(0:R)=c*0;grind
 |n+1,c,f=>by
  show a7 n (fun i=>c*f i)+c*f n=c*(a7 n f+f n)
  rw[cj n c f];grind
theorem qH:∀(n:Nat) {f:Nat->R},(∀i,i<n->f i=0)->a7 n f=0
 |0,_,_=>rfl
 |n+1,f,h=>by
  show a7 n f+f n=0
  rw[qH n (fun i hi=>h i (by lia)),h n (by lia)];grind
theorem iY:∀(n:Nat) {f:Nat->R} (k:Nat),k<n->(∀i,i<n->i≠k->f i=0)->a7 n f=f k
 |0,_,k,hk,_=>by lia
 |n+1,f,k,hk,h=>by
  show a7 n f+f n=f k
  by_cases e:k=n
  ·subst e
   rw[qH k (fun i hi=>h i (by lia) (by lia))];grind
  ·rw[iY n k (by lia) (fun i hi=>h i (by lia)),h n (by lia) (by lia)];grind
theorem yO:∀(n:Nat) {f:Nat->R} (k l:Nat),k<l->l<n->(∀i,i<n->i≠k->i≠l->f i=0)->a7 n f=f k+f l
 |0,_,k,l,hk,hl,_=>by lia
 |n+1,f,k,l,hk,hl,h=>by
  show a7 n f+f n=f k+f l
  by_cases e:l=n
  ·subst e
   rw[iY l k (by lia) (fun i hi hik=>h i (by lia) hik (by lia))]
  ·rw[yO n k l hk (by lia) (fun i hi=>h i (by lia)),h n (by lia) (by lia) (by lia)];grind
theorem vJ:∀(n m:Nat) (f:Nat->Nat->R),a7 n (fun i=>a7 m (fun j=>f i j))=a7 m (fun j=>a7 n (fun i=>f i j))
 |0,m,f=>by
  show(0:R)=_
  exact(qH m fun _ _=>rfl).symm
 |n+1,m,f=>by
  show a7 n (fun i=>a7 m (fun j=>f i j))+a7 m (fun j=>f n j)=a7 m (fun j=>a7 n (fun i=>f i j)+f n j)
  rw[vJ n m f,tM]
theorem Bz:∀(n:Nat) (f:Nat->R),a7 (n+1) f=f 0+a7 n (fun i=>f (i+1))
 |0,f=>by show(0:R)+f 0=f 0+0;grind
 |n+1,f=>by
  show a7 (n+1) f+f (n+1)=f 0+(a7 n (fun i=>f (i+1))+f (n+1))
  rw[Bz n f];grind
noncomputable def sg (i:Nat):R:=if i % 2=0 then 1 else -1
theorem CC:(sg 0:R)=1:=by unfold sg;exact if_pos rfl
theorem HE(i:Nat):(sg (i+1):R)= - sg i:=by
 unfold sg
 by_cases h:i % 2=0
 ·rw[if_pos h,if_neg (by lia)]
 ·rw[if_neg h,if_pos (by lia)];grind
noncomputable def skip (i a:Nat):Nat:=if a<i then a else a+1
noncomputable def del (i:Nat) (A:Nat->Nat->R):Nat->Nat->R:=fun a b=>A (skip i a) (b+1)
noncomputable def det:Nat->(Nat->Nat->R)->R
 |0,_=>1
 |n+1,A=>a7 (n+1) fun i=>sg i*(A i 0*det n (del i A))
theorem cD(n:Nat)(A:Nat->Nat->R):det (n+1) A=a7 (n+1) fun i=>sg i*(A i 0*det n (del i A)):=rfl
theorem tO{i a n:Nat}(h:a<n):skip i a<n+1:=by unfold skip;split <;>lia
theorem bg:∀(n:Nat) {A B:Nat->Nat->R},(∀i j,i<n->j<n->A i j=B i j)->det n A=det n B
 |0,_,_,_=>rfl
 |n+1,A,B,h=>by
  rw[cD,cD]
  refine a9 _ fun i hi=> ?_
  rw[h i 0 hi (by lia),bg n (A:=del i A) (B:=del i B) fun a b ha hb=>h _ _ (tO ha) (by lia)]
noncomputable def a8 (A:Nat->Nat->R) (r:Nat) (v:Nat->R):Nat->Nat->R:=fun i j=>if i=r then v j else A i j
noncomputable def bC (A:Nat->Nat->R) (c:Nat) (v:Nat->R):Nat->Nat->R:=fun i j=>if j=c then v i else A i j
theorem bJ{A:Nat->Nat->R}{r:Nat}{v:Nat->R}{j:Nat}:a8 A r v r j=v j:=if_pos rfl
theorem bQ{A:Nat->Nat->R}{r i:Nat}{v:Nat->R}{j:Nat}(h:i≠r):a8 A r v i j=A i j:=if_neg h
theorem dt{A:Nat->Nat->R}{c:Nat}{v:Nat->R}{i:Nat}:bC A c v i c=v i:=if_pos rfl
theorem gG{A:Nat->Nat->R}{c i:Nat}{v:Nat->R}{j:Nat}(h:j≠c):bC A c v i j=A i j:=if_neg h
noncomputable def place (i r:Nat):Nat:=if r<i then r else r - 1
theorem Ge{i r:Nat}(h:r≠i):skip i (place i r)=r:=by
 unfold skip place
 repeat' split
 all_goals lia
theorem Gf(i a:Nat):place i (skip i a)=a:=by
 unfold skip place
 repeat' split
 all_goals lia
theorem HF(i a:Nat):skip i a≠i:=by unfold skip;split <;>lia
theorem place_lt{i r n:Nat}(hr:r<n+1)(hi:i<n+1)(h:r≠i):place i r<n:=by unfold place;split <;>lia
theorem i9(A:Nat->Nat->R)(r:Nat)(v:Nat->R):del r (a8 A r v)=del r A:=by
 funext a b
 exact bQ (HF r a)
theorem rQ(A:Nat->Nat->R){i r:Nat}(h:r≠i)(v:Nat->R):del i (a8 A r v)=a8 (del i A) (place i r) (fun b=>v (b+1)):=by
 funext a b
 show(if skip i a=r then v (b+1) else A (skip i a) (b+1))=if a=place i r then v (b+1) else A (skip i a) (b+1)
 by_cases e:a=place i r
 ·rw[if_pos e,if_pos (by rw[e];exact Ge h)]
 ·rw[if_neg e,if_neg (fun q=>e (by rw[<-q,Gf]))]
theorem cE:∀(n:Nat) (A:Nat->Nat->R) (r:Nat) (c:R) (u v:Nat->R),r<n->det n (a8 A r fun j=>u j+c*v j)=det n (a8 A r u)+c*det n (a8 A r v)
 |0,_,_,_,_,_,h=>by lia
 |n+1,A,r,c,u,v,h=>by
  rw[cD,cD,cD,<-cj,<-tM]
  refine a9 _ fun i hi=> ?_
  by_cases e:r=i
  ·subst e
   rw[i9,i9,i9,bJ,bJ,bJ];grind
  ·rw[rQ A e,rQ A e,rQ A e,bQ (Ne.symm e),bQ (Ne.symm e),bQ (Ne.symm e),cE n _ _ _ _ _ (place_lt h hi e)];grind
theorem lZ(n:Nat)(A:Nat->Nat->R)(r:Nat)(c:R)(v:Nat->R)(h:r<n):det n (a8 A r fun j=>c*v j)=c*det n (a8 A r v):=by
 have e0:det n (a8 A r fun _=>(0:R))=0:=by
  have e:=cE n A r (-1) (fun _=>(0:R)) (fun _=>0) h
  have e2:(fun _:Nat=>(0:R)+(-1)*0)=fun _=>0:=by funext j;grind
  rw[e2] at e;grind
 have e:=cE n A r c (fun _=>(0:R)) v h
 have e2:(fun j:Nat=>(0:R)+c*v j)=fun j=>c*v j:=by funext j;grind
 rw[e2,e0] at e
 grind
theorem m8(n:Nat)(A:Nat->Nat->R)(r:Nat)(h:r<n)(hz:∀j,j<n->A r j=0):det n A=0:=by
 have e:det n A=det n (a8 A r fun j=>(0:R)*0):=bg n fun i j hi hj=>by
  by_cases q:i=r
  ·subst q;rw[bJ,hz j hj];grind
  ·rw[bQ q]
 rw[e,lZ n A r 0 (fun _=>0) h];grind
theorem yo:∀(n:Nat) (A:Nat->Nat->R) (r:Nat),r+1<n->(∀j,j<n->A r j=A (r+1) j)->det n A=0
 |0,_,_,h,_=>by lia
 |n+1,A,r,h,he=>by
  rw[cD,yO (n+1) r (r+1) (by lia) h ?_]
  ·have e:det n (del r A)=det n (del (r+1) A):=bg n fun a b ha hb=>by
    show A (skip r a) (b+1)=A (skip (r+1) a) (b+1)
    by_cases q:a=r
    ·subst q
     have e1:skip a a=a+1:=by unfold skip;rw[if_neg (by lia)]
     have e2:skip (a+1) a=a:=by unfold skip;rw[if_pos (by lia)]
     rw[e1,e2,he _ (by lia)]
    ·have e1:skip r a=skip (r+1) a:=by unfold skip;split <;>split <;>lia
     rw[e1]
   rw[e,he 0 (by lia),HE];grind
  ·intro i hi h1 h2
   have e:det n (del i A)=0:=by
    by_cases q:i<r
    ·refine yo n (del i A) (r - 1) (by lia) fun j hj=> ?_
     show A (skip i (r - 1)) (j+1)=A (skip i (r - 1+1)) (j+1)
     have e1:skip i (r - 1)=r:=by unfold skip;rw[if_neg (by lia)];lia
     have e2:skip i (r - 1+1)=r+1:=by unfold skip;rw[if_neg (by lia)];lia
     rw[e1,e2,he _ (by lia)]
    ·refine yo n (del i A) r (by lia) fun j hj=> ?_
     show A (skip i r) (j+1)=A (skip i (r+1)) (j+1)
     have e1:skip i r=r:=by unfold skip;rw[if_pos (by lia)]
     have e2:skip i (r+1)=r+1:=by unfold skip;rw[if_pos (by lia)]
     rw[e1,e2,he _ (by lia)]
   rw[e];grind
noncomputable def c4 (A:Nat->Nat->R) (r t:Nat):Nat->Nat->R:=fun i j=>if i=r then A t j else if i=t then A r j else A i j
theorem CD(n:Nat)(A:Nat->Nat->R)(r:Nat)(h:r+1<n):det n (c4 A r (r+1))= - det n A:=by
 have hr:r<n:=by lia
 let B:(Nat->R)->(Nat->R)->Nat->Nat->R:=fun u v=>a8 (a8 A r u) (r+1) v
 have adj:∀u,det n (B u u)=0:=fun u=>yo n _ r h fun j _=>by
  show a8 (a8 A r u) (r+1) u r j=a8 (a8 A r u) (r+1) u (r+1) j
  rw[bQ (by lia),bJ,bJ]
 have l2:∀u v v',det n (B u fun j=>v j+1*v' j)=det n (B u v)+1*det n (B u v'):=fun u v v'=>cE n _ _ 1 v v' h
 have comm:∀u v,B u v=a8 (a8 A (r+1) v) r u:=fun u v=>by
  funext i j
  show(if i=r+1 then v j else if i=r then u j else A i j)=if i=r then u j else if i=r+1 then v j else A i j
  by_cases e1:i=r
  ·rw[if_pos e1,if_neg (by lia),if_pos e1]
  ·rw[if_neg e1,if_neg e1]
 have l1:∀u u' v,det n (B (fun j=>u j+1*u' j) v)=det n (B u v)+1*det n (B u' v):=fun u u' v=>by
  rw[comm,comm,comm];exact cE n _ _ 1 u u' hr
 have eA:det n A=det n (B (A r) (A (r+1))):=bg n fun i j _ _=>by
  show A i j=if i=r+1 then A (r+1) j else if i=r then A r j else A i j
  by_cases e1:i=r+1
  ·rw[if_pos e1,e1]
  ·rw[if_neg e1]
   by_cases e2:i=r
   ·rw[if_pos e2,e2]
   ·rw[if_neg e2]
 have eS:det n (c4 A r (r+1))=det n (B (A (r+1)) (A r)):=bg n fun i j _ _=>by
  show(if i=r then A (r+1) j else if i=r+1 then A r j else A i j)=if i=r+1 then A r j else if i=r then A (r+1) j else A i j
  by_cases e1:i=r
  ·rw[if_pos e1,if_neg (by lia),if_pos e1]
  ·rw[if_neg e1,if_neg e1]
 have s:=adj fun j=>A r j+1*A (r+1) j
 rw[l2,l1,l1,adj,adj] at s
 rw[eA,eS]
 grind
theorem pK(n:Nat):∀(d:Nat) (A:Nat->Nat->R) (r:Nat),r+d+1<n->(∀j,j<n->A r j=A (r+d+1) j)->det n A=0
 |0,A,r,h,he=>yo n A r h he
 |d+1,A,r,h,he=>by
  have s:=CD n A (r+d+1) (by lia)
  have z:det n (c4 A (r+d+1) (r+d+1+1))=0:=by
   refine pK n d _ r (by lia) fun j hj=> ?_
   show(if r=r+d+1 then _ else if r=r+d+1+1 then _ else A r j)=if r+d+1=r+d+1 then A (r+d+1+1) j else _
   rw[if_neg (by lia),if_neg (by lia),if_pos rfl]
   exact he j hj
  rw[z] at s
  grind
theorem qI(n:Nat)(A:Nat->Nat->R)(r t:Nat)(hr:r<n)(ht:t<n)(hne:r≠t)(he:∀j,j<n->A r j=A t j):det n A=0:=by
 by_cases h:r<t
 ·obtain⟨d,rfl⟩:∃d,t=r+d+1:=⟨t - r - 1,by lia⟩
  exact pK n d A r (by lia) he
 ·obtain⟨d,rfl⟩:∃d,r=t+d+1:=⟨r - t - 1,by lia⟩
  exact pK n d A t (by lia) fun j hj=>(he j hj).symm
theorem Gg(n:Nat)(A:Nat->Nat->R)(r t:Nat)(c:R)(hr:r<n)(ht:t<n)(hne:r≠t):det n (a8 A r fun j=>A r j+c*A t j)=det n A:=by
 rw[cE n A r c _ _ hr]
 have z:det n (a8 A r (A t))=0:=qI n _ r t hr ht hne fun j _=>by rw[bJ,bQ (Ne.symm hne)]
 have e:det n (a8 A r (A r))=det n A:=bg n fun i j _ _=>by
  by_cases q:i=r
  ·subst q;exact bJ
  ·exact bQ q
 rw[z,e];grind
theorem Ky(n:Nat)(A:Nat->Nat->R)(r t:Nat)(hr:r<n)(ht:t<n)(hne:r≠t):det n (c4 A r t)= - det n A:=by
 let B:(Nat->R)->(Nat->R)->Nat->Nat->R:=fun u v=>a8 (a8 A r u) t v
 have adj:∀u,det n (B u u)=0:=fun u=>qI n _ r t hr ht hne fun j _=>by
  show a8 (a8 A r u) t u r j=a8 (a8 A r u) t u t j
  rw[bQ hne,bJ,bJ]
 have l2:∀u v v',det n (B u fun j=>v j+1*v' j)=det n (B u v)+1*det n (B u v'):=fun u v v'=>cE n _ _ 1 v v' ht
 have comm:∀u v,B u v=a8 (a8 A t v) r u:=fun u v=>by
  funext i j
  show(if i=t then v j else if i=r then u j else A i j)=if i=r then u j else if i=t then v j else A i j
  by_cases e1:i=r
  ·rw[if_pos e1,if_neg (by lia),if_pos e1]
  ·rw[if_neg e1,if_neg e1]
 have l1:∀u u' v,det n (B (fun j=>u j+1*u' j) v)=det n (B u v)+1*det n (B u' v):=fun u u' v=>by
  rw[comm,comm,comm];exact cE n _ _ 1 u u' hr
 have eA:det n A=det n (B (A r) (A t)):=bg n fun i j _ _=>by
  show A i j=if i=t then A t j else if i=r then A r j else A i j
  by_cases e1:i=t
  ·rw[if_pos e1,e1]
  ·rw[if_neg e1]
   by_cases e2:i=r
   ·rw[if_pos e2,e2]
   ·rw[if_neg e2]
 have eS:det n (c4 A r t)=det n (B (A t) (A r)):=bg n fun i j _ _=>by
  show(if i=r then A t j else if i=t then A r j else A i j)=if i=t then A r j else if i=r then A t j else A i j
  by_cases e1:i=r
  ·rw[if_pos e1,if_neg (by lia),if_pos e1]
  ·rw[if_neg e1,if_neg e1]
 have s:=adj fun j=>A r j+1*A t j
 rw[l2,l1,l1,adj,adj] at s
 rw[eA,eS]
 grind
noncomputable def tr (A:Nat->Nat->R):Nat->Nat->R:=fun i j=>A j i
theorem l5:∀(n:Nat) (A:Nat->Nat->R),det n (tr A)=det n A
 |0,_=>rfl
 |1,A=>rfl
 |n+2,A=>by
  have key:∀B:Nat->Nat->R,(∀m,m<n+2->∀C:Nat->Nat->R,det m (tr C)=det m C)->det (n+2) B=B 0 0*det (n+1) (del 0 B) - a7 (n+1) fun i=>a7 (n+1) fun j=>sg (i+j)*(B (i+1) 0*B 0 (j+1)*det n (fun a b=>B (skip i a+1) (skip j b+1))):=by
   intro B ih
   rw[cD,Bz,CC]
   have e:a7 (n+1) (fun i=>sg (i+1)*(B (i+1) 0*det (n+1) (del (i+1) B)))= - a7 (n+1) fun i=>a7 (n+1) fun j=>sg (i+j)*(B (i+1) 0*B 0 (j+1)*det n (fun a b=>B (skip i a+1) (skip j b+1))):=by
    have m1:∀x:R,- x=(-1)*x:=fun x=>by grind
    rw[m1,<-cj]
    refine a9 _ fun i hi=> ?_
    rw[<-ih (n+1) (by lia) (del (i+1) B),cD,<-cj,<-cj,<-cj]
    refine a9 _ fun j hj=> ?_
    have e1:tr (del (i+1) B) j 0=B 0 (j+1):=by
     show B (skip (i+1) 0) (j+1)=_
     unfold skip;rw[if_pos (by lia)]
    have e2:det n (del j (tr (del (i+1) B)))=det n (fun a b=>B (skip i a+1) (skip j b+1)):=by
     rw[<-ih n (by lia) (fun a b=>B (skip i a+1) (skip j b+1))]
     refine bg n fun a b ha hb=> ?_
     show B (skip (i+1) (b+1)) (skip j a+1)=B (skip i b+1) (skip j a+1)
     have e3:skip (i+1) (b+1)=skip i b+1:=by
      unfold skip
      repeat' split
      all_goals lia
     rw[e3]
    rw[e1,e2,HE]
    have e4:(sg (i+j):R)=sg i*sg j:=by
     unfold sg
     repeat' split
     all_goals first |grind |lia
    rw[e4];grind
   rw[e];grind
  have ih:∀m,m<n+2->∀C:Nat->Nat->R,det m (tr C)=det m C:=fun m hm C=>l5 m C
  rw[key A ih,key (tr A) ih,vJ]
  have e0:det (n+1) (del 0 (tr A))=det (n+1) (del 0 A):=by
   rw[<-ih (n+1) (by lia) (del 0 A)]
   refine bg _ fun a b _ _=> ?_
   show A (b+1) (skip 0 a)=A (skip 0 b) (a+1)
   unfold skip;rw[if_neg (by lia),if_neg (by lia)]
  rw[e0]
  have e5:a7 (n+1) (fun j=>a7 (n+1) fun i=>sg (i+j)*(tr A (i+1) 0*tr A 0 (j+1)*det n (fun a b=>tr A (skip i a+1) (skip j b+1))))=a7 (n+1) fun i=>a7 (n+1) fun j=>sg (i+j)*(A (i+1) 0*A 0 (j+1)*det n (fun a b=>A (skip i a+1) (skip j b+1))):=by
   refine a9 _ fun i hi=>a9 _ fun j hj=> ?_
   have e6:det n (fun a b=>tr A (skip j a+1) (skip i b+1))=det n (fun a b=>A (skip i a+1) (skip j b+1)):=by
    rw[<-ih n (by lia) (fun a b=>A (skip i a+1) (skip j b+1))];rfl
   rw[e6,Nat.add_comm j i]
   show sg (i+j)*(A 0 (j+1)*A (i+1) 0*_)=_
   grind
  rw[e5]
  rfl
theorem h9(A:Nat->Nat->R)(c:Nat)(v:Nat->R):tr (bC A c v)=a8 (tr A) c v:=rfl
theorem Eh(n:Nat)(A:Nat->Nat->R)(r:Nat)(c:R)(u v:Nat->R)(h:r<n):det n (bC A r fun j=>u j+c*v j)=det n (bC A r u)+c*det n (bC A r v):=by
 rw[<-l5,<-l5 n (bC A r u),<-l5 n (bC A r v),h9,h9,h9]
 exact cE n _ _ _ _ _ h
theorem rn(n:Nat)(A:Nat->Nat->R)(r:Nat)(c:R)(v:Nat->R)(h:r<n):det n (bC A r fun j=>c*v j)=c*det n (bC A r v):=by
 rw[<-l5,<-l5 n (bC A r v),h9,h9]
 exact lZ n _ _ _ _ h
theorem jq(n:Nat)(A:Nat->Nat->R)(c:Nat)(h:c<n)(hz:∀i,i<n->A i c=0):det n A=0:=by
 rw[<-l5]
 exact m8 n _ c h hz
theorem AS(n:Nat)(A:Nat->Nat->R)(r t:Nat)(hr:r<n)(ht:t<n)(hne:r≠t)(he:∀i,i<n->A i r=A i t):det n A=0:=by
 rw[<-l5]
 exact qI n _ r t hr ht hne he
theorem pL(n:Nat)(A:Nat->Nat->R)(r:Nat)(hr:r<n):∀(m:Nat) (x:Nat->R) (v:Nat->Nat->R),det n (a8 A r fun j=>a7 m fun d=>x d*v d j)=a7 m fun d=>x d*det n (a8 A r (v d))
 |0,x,v=>m8 n _ r hr fun j _=>bJ
 |m+1,x,v=>by
  show det n (a8 A r fun j=>a7 m (fun d=>x d*v d j)+x m*v m j)=a7 m (fun d=>x d*det n (a8 A r (v d)))+x m*det n (a8 A r (v m))
  rw[cE n A r (x m) _ _ hr,pL n A r hr m x v]
theorem xp(n:Nat)(A:Nat->Nat->R)(c:Nat)(hc:c<n)(m:Nat)(x:Nat->R)(v:Nat->Nat->R):det n (bC A c fun i=>a7 m fun d=>x d*v d i)=a7 m fun d=>x d*det n (bC A c (v d)):=by
 rw[<-l5,h9,pL n _ _ hc]
 refine a9 _ fun d _=> ?_
 rw[<-h9,l5]
theorem Ei(A:Nat->Nat->R)(c:Nat):bC A c (fun i=>A i c)=A:=by
 funext i j
 by_cases q:j=c
 ·subst q;exact dt
 ·exact gG q
theorem Ej(A:Nat->Nat->R)(r:Nat):a8 A r (A r)=A:=by
 funext i j
 by_cases q:i=r
 ·subst q;exact bJ
 ·exact bQ q
theorem yP(n:Nat)(A:Nat->Nat->R)(x b:Nat->R)(c:Nat)(hc:c<n)(h:∀i,i<n->a7 n (fun d=>A i d*x d)=b i):det n (bC A c b)=x c*det n A:=by
 have e:det n (bC A c b)=det n (bC A c fun i=>a7 n fun d=>x d*A i d):=bg n fun i j hi hj=>by
  by_cases q:j=c
  ·subst q
   rw[dt,dt,<-h i hi]
   exact a9 _ fun d _=>by grind
  ·rw[gG q,gG q]
 rw[e,xp n A c hc n x (fun d i=>A i d),iY n c hc]
 ·rw[Ei]
 ·intro d hd hdc
  rw[AS n _ c d hc hd (Ne.symm hdc) fun i _=>by rw[dt,gG hdc]]
  grind
noncomputable def ei (i:Nat):Nat->R:=fun j=>if j=i then 1 else 0
theorem oE(i:Nat):(ei i:Nat->R) i=1:=if_pos rfl
theorem rz{i j:Nat}(h:j≠i):(ei i:Nat->R) j=0:=if_neg h
theorem Ek(n:Nat)(A:Nat->Nat->R)(i c:Nat)(hi:i<n)(hc:c<n):det n (bC A c (ei i))=det n (a8 A i (ei c)):=by
 have one:∀B:Nat->Nat->R,(∀a,a<n->B a c=ei i a)->det n B=det n (a8 B i (ei c)):=by
  intro B hB
  have e:det n B=det n (a8 B i fun j=>ei c j+1*(if j=c then 0 else B i j)):=bg n fun a b ha hb=>by
   by_cases q:a=i
   ·subst q
    rw[bJ]
    by_cases q2:b=c
    ·subst q2;rw[hB a ha,oE,oE,if_pos rfl];grind
    ·rw[rz q2,if_neg q2];grind
   ·rw[bQ q]
  rw[e,cE n B i 1 _ _ hi,jq n (a8 B i fun j=>if j=c then 0 else B i j) c hc fun a ha=> ?_]
  ·grind
  ·by_cases q:a=i
   ·subst q;rw[bJ,if_pos rfl]
   ·rw[bQ q,hB a ha,rz q]
 have h1:=one (bC A c (ei i)) fun a _=>dt
 have h2:det n (a8 A i (ei c))=det n (bC (a8 A i (ei c)) c (ei i)):=by
  have e:det n (a8 A i (ei c))=det n (bC (a8 A i (ei c)) c fun a=>ei i a+1*(if a=i then 0 else A a c)):=bg n fun a b ha hb=>by
   by_cases q2:b=c
   ·subst q2
    rw[dt]
    by_cases q:a=i
    ·subst q;rw[bJ,oE,oE,if_pos rfl];grind
    ·rw[bQ q,rz q,if_neg q];grind
   ·rw[gG q2]
  rw[e,Eh n _ c 1 _ _ hc,m8 n (bC (a8 A i (ei c)) c fun a=>if a=i then 0 else A a c) i hi fun b hb=> ?_]
  ·grind
  ·by_cases q2:b=c
   ·subst q2;rw[dt,if_pos rfl]
   ·rw[gG q2,bJ,rz q2]
 rw[h1,h2]
 refine bg n fun a b _ _=> ?_
 show(if a=i then ei c b else if b=c then ei i a else A a b)=if b=c then ei i a else if a=i then ei c b else A a b
 by_cases q:a=i
 ·by_cases q2:b=c
  ·subst q q2;rw[if_pos rfl,if_pos rfl,oE,oE]
  ·rw[if_pos q,if_neg q2,if_pos q]
 ·rw[if_neg q,if_neg q]
theorem Kz(n:Nat)(A:Nat->Nat->R)(v:Nat->R)(r:Nat)(hr:r<n):a7 n (fun c=>A r c*det n (bC A c v))=det n A*v r:=by
 have ev:∀c,c<n->det n (bC A c v)=a7 n fun i=>v i*det n (a8 A i (ei c)):=fun c hc=>by
  have e:det n (bC A c v)=det n (bC A c fun a=>a7 n fun d=>v d*ei d a):=bg n fun a b ha hb=>by
   by_cases q:b=c
   ·subst q
    rw[dt,dt,iY n a ha,oE]
    ·grind
    ·intro d _ hd;rw[rz (Ne.symm hd)];grind
   ·rw[gG q,gG q]
  rw[e,xp n A c hc n v fun d=>ei d]
  exact a9 _ fun d hd=>by rw[Ek n A d c hd hc]
 have e1:a7 n (fun c=>A r c*det n (bC A c v))=a7 n fun c=>a7 n fun i=>v i*(A r c*det n (a8 A i (ei c))):=a9 _ fun c hc=>by
  rw[ev c hc,<-cj]
  exact a9 _ fun i _=>by grind
 rw[e1,vJ]
 have e2:∀i,i<n->a7 n (fun c=>v i*(A r c*det n (a8 A i (ei c))))=v i*det n (a8 A i (A r)):=fun i hi=>by
  rw[cj,<-pL n A i hi n (A r) fun d=>ei d]
  refine congrArg (v i* ·) (bg n fun a b ha hb=> ?_)
  by_cases q:a=i
  ·subst q
   rw[bJ,bJ,iY n b hb,oE]
   ·grind
   ·intro d _ hd;rw[rz (Ne.symm hd)];grind
  ·rw[bQ q,bQ q]
 rw[a9 n e2,iY n r hr,Ej]
 ·grind
 ·intro i hi hir
  rw[qI n (a8 A i (A r)) i r hi hr hir fun j _=>by rw[bJ,bQ (Ne.symm hir)]]
  grind
theorem El:∀(n:Nat) (A:Nat->Nat->R),(∀j,j<n+1->A n j=ei n j)->det (n+1) A=det n A
 |0,A,h=>by
  rw[cD]
  show(0:R)+sg 0*(A 0 0*1)=1
  rw[h 0 (by lia),oE,CC];grind
 |n+1,A,h=>by
  rw[cD]
  show a7 (n+1) (fun i=>sg i*(A i 0*det (n+1) (del i A)))+sg (n+1)*(A (n+1) 0*det (n+1) (del (n+1) A))=det (n+1) A
  rw[h 0 (by lia),rz (by lia),cD n A]
  have e:a7 (n+1) (fun i=>sg i*(A i 0*det (n+1) (del i A)))=a7 (n+1) (fun i=>sg i*(A i 0*det n (del i A))):=a9 _ fun i hi=>by
   rw[El n (del i A) fun j hj=> ?_]
   show A (skip i n) (j+1)=ei n j
   have e1:skip i n=n+1:=by unfold skip;rw[if_neg (by lia)]
   rw[e1,h (j+1) (by lia)]
   unfold ei
   by_cases q:j=n
   ·rw[if_pos q,if_pos (by lia)]
   ·rw[if_neg q,if_neg (by lia)]
  rw[e];grind
end det
section bar
variable {R:Type} [CommRing R]
noncomputable def Reg (a:R):Prop:=∀x y:R,a*x=a*y->x=y
noncomputable def mk (A:Nat->Nat->R) (k:Nat):R:=det k A
noncomputable def mc (A:Nat->Nat->R) (k c j:Nat):R:=det k (bC A c fun i=>A i j)
noncomputable def ti (A:Nat->Nat->R) (k i j:Nat):R:=mk A k*A i j - a7 k fun c=>A i c*mc A k c j
theorem yQ(n:Nat)(f g:Nat->R):a7 n (fun i=>f i - g i)=a7 n f - a7 n g:=by
 have e:a7 n (fun i=>f i - g i)=a7 n (fun i=>f i+(-1)*g i):=a9 _ fun i _=>by grind
 rw[e,tM,cj];grind
theorem vK(A:Nat->Nat->R)(k r j:Nat)(hr:r<k):a7 k (fun c=>A r c*mc A k c j)=mk A k*A r j:=Kz k A (fun i=>A i j) r hr
theorem KA(A:Nat->Nat->R)(k r j:Nat)(hr:r<k):ti A k r j=0:=by
 unfold ti;rw[vK A k r j hr];grind
theorem BA(A:Nat->Nat->R)(k i:Nat):a7 (k+1) (fun d=>A i d*(if d=k then mk A k else - mc A k d k))=ti A k i k:=by
 show a7 k (fun d=>A i d*(if d=k then mk A k else - mc A k d k))+A i k*(if k=k then mk A k else - mc A k k k)=_
 rw[if_pos rfl]
 have e:a7 k (fun d=>A i d*(if d=k then mk A k else - mc A k d k))=a7 k (fun d=>(-1)*(A i d*mc A k d k)):=a9 _ fun d hd=>by rw[if_neg (by lia)];grind
 rw[e,cj];unfold ti;grind
theorem KC(A:Nat->Nat->R)(k:Nat):det (k+1) (bC A k (ei k))=mk A k:=by
 rw[Ek (k+1) A k k (by lia) (by lia),El k _ fun j _=>bJ]
 exact bg k fun i j hi _=>bQ (by lia)
theorem yR(A:Nat->Nat->R)(k:Nat)(h:Reg (mk A k)):ti A k k k=mk A (k+1):=by
 have c:=yP (k+1) A (fun d=>if d=k then mk A k else - mc A k d k) (fun i=>ti A k k k*ei k i) k (by lia) fun i hi=>by
  rw[BA]
  by_cases e:i=k
  ·subst e;rw[oE];grind
  ·rw[rz e,KA A k i k (by lia)];grind
 rw[rn (k+1) A k _ _ (by lia),KC,if_pos rfl] at c
 refine h _ _ ?_
 show mk A k*ti A k k k=mk A k*det (k+1) A
 grind
theorem yp(A:Nat->Nat->R)(k j:Nat)(h:Reg (mk A k))(h1:Reg (mk A (k+1)))(c:Nat)(hc:c<k):
  mk A (k+1)*mc A k c j - mc A k c k*ti A k k j=mk A k*mc A (k+1) c j/\ti A k k j=mc A (k+1) k j:=by
 have hp:=yR A k h
 have sol:∀r,r<k+1->a7 (k+1) (fun d=>A r d*(if d=k then mk A k*ti A k k j else mk A (k+1)*mc A k d j - mc A k d k*ti A k k j))=(mk A k*mk A (k+1))*A r j:=fun r hr=>by
  show a7 k (fun d=>A r d*(if d=k then mk A k*ti A k k j else mk A (k+1)*mc A k d j - mc A k d k*ti A k k j))+A r k*(if k=k then mk A k*ti A k k j else _)=_
  rw[if_pos rfl]
  have e:a7 k (fun d=>A r d*(if d=k then mk A k*ti A k k j else mk A (k+1)*mc A k d j - mc A k d k*ti A k k j))=mk A (k+1)*a7 k (fun d=>A r d*mc A k d j) - ti A k k j*a7 k (fun d=>A r d*mc A k d k):=by
   rw[<-cj,<-cj,<-yQ]
   exact a9 _ fun d hd=>by rw[if_neg (by lia)];grind
  rw[e]
  by_cases q:r=k
  ·subst q
   have e1:a7 r (fun d=>A r d*mc A r d j)=mk A r*A r j - ti A r r j:=by unfold ti;grind
   have e2:a7 r (fun d=>A r d*mc A r d r)=mk A r*A r r - ti A r r r:=by unfold ti;grind
   rw[e1,e2,hp];grind
  ·rw[vK A k r j (by lia),vK A k r k (by lia)];grind
 have go:∀d,d<k+1->mk A (k+1)*(if d=k then mk A k*ti A k k j else mk A (k+1)*mc A k d j - mc A k d k*ti A k k j)=mk A (k+1)*(mk A k*mc A (k+1) d j):=fun d hd=>by
  have c1:=yP (k+1) A _ (fun i=>(mk A k*mk A (k+1))*A i j) d hd sol
  rw[rn (k+1) A d _ (fun i=>A i j) hd] at c1
  have e:det (k+1) (bC A d fun i=>A i j)=mc A (k+1) d j:=rfl
  rw[e] at c1
  have e2:det (k+1) A=mk A (k+1):=rfl
  rw[e2] at c1
  grind
 refine⟨?_,?_⟩
 ·have g:=h1 _ _ (go c (by lia))
  rw[if_neg (by lia)] at g
  exact g
 ·have g:=h1 _ _ (go k (by lia))
  rw[if_pos rfl] at g
  exact h _ _ g
theorem HG(A:Nat->Nat->R)(k j:Nat)(h:Reg (mk A k))(h1:Reg (mk A (k+1))):ti A k k j=mc A (k+1) k j:=by
 by_cases q:0<k
 ·exact(yp A k j h h1 0 q).2
 ·have e:k=0:=by lia
  subst e
  show(1:R)*A 0 j - 0=0+sg 0*(bC A 0 (fun i=>A i j) 0 0*1)
  rw[dt,CC];grind
theorem HH(A:Nat->Nat->R)(k i j:Nat)(h:Reg (mk A k))(h1:Reg (mk A (k+1))):
  mk A (k+1)*ti A k i j - ti A k i k*ti A k k j=mk A k*ti A (k+1) i j:=by
 have e:ti A (k+1) i j=mk A (k+1)*A i j - (a7 k (fun c=>A i c*mc A (k+1) c j)+A i k*mc A (k+1) k j):=rfl
 have e1:mk A k*a7 k (fun c=>A i c*mc A (k+1) c j)=mk A (k+1)*a7 k (fun c=>A i c*mc A k c j) - ti A k k j*a7 k (fun c=>A i c*mc A k c k):=by
  rw[<-cj,<-cj,<-cj,<-yQ]
  exact a9 _ fun c hc=>by
   have s:=(yp A k j h h1 c hc).1
   grind
 have e2:=HG A k j h h1
 have e3:a7 k (fun c=>A i c*mc A k c j)=mk A k*A i j - ti A k i j:=by unfold ti;grind
 have e4:a7 k (fun c=>A i c*mc A k c k)=mk A k*A i k - ti A k i k:=by unfold ti;grind
 rw[e,<-e2]
 rw[e3,e4] at e1
 grind
theorem KD(A:Nat->Nat->R)(n k:Nat)(hk:k<n)(h:Reg (mk A k))(hz:∀i,k<=i->i<n->ti A k i k=0):
  (∀i,i<n->a7 n (fun d=>A i d*(if d<k+1 then(if d=k then mk A k else - mc A k d k) else 0))=0)/\det n A=0:=by
 have tail:∀(m:Nat) (f:Nat->R),k+1<=m->a7 m (fun d=>if d<k+1 then f d else 0)=a7 (k+1) f:=by
  intro m
  induction m with
  |zero=>intro f hm;lia
  |succ m ih=>
   intro f hm
   show a7 m (fun d=>if d<k+1 then f d else 0)+(if m<k+1 then f m else 0)=_
   by_cases q:m=k
   ·subst q
    rw[if_pos (by lia)]
    show _=a7 m f+f m
    rw[a9 m (g:=f) fun i hi=>if_pos (by lia)]
   ·rw[if_neg (by lia),ih f (by lia)];grind
 have sol:∀i,i<n->a7 n (fun d=>A i d*(if d<k+1 then(if d=k then mk A k else - mc A k d k) else 0))=0:=fun i hi=>by
  have e:a7 n (fun d=>A i d*(if d<k+1 then(if d=k then mk A k else - mc A k d k) else 0))=a7 n (fun d=>if d<k+1 then A i d*(if d=k then mk A k else - mc A k d k) else 0):=a9 _ fun d _=>by
   by_cases q:d<k+1
   ·rw[if_pos q,if_pos q]
   ·rw[if_neg q,if_neg q];grind
  rw[e,tail n _ (by lia),BA]
  by_cases q:i<k
  ·exact KA A k i k q
  ·exact hz i (by lia) hi
 refine⟨sol,?_⟩
 have c:=yP n A _ (fun _=>(0:R)) k hk sol
 rw[jq n (bC A k fun _=>(0:R)) k hk fun i _=>dt,if_pos (by lia),if_pos rfl] at c
 refine h _ _ ?_
 grind
theorem CF(A:Nat->Nat->R)(k r t:Nat)(hr:k<=r)(ht:k<=t):mk (c4 A r t) k=mk A k:=bg k fun i j hi _=>by
 show(if i=r then _ else if i=t then _ else A i j)=_
 rw[if_neg (by lia),if_neg (by lia)]
theorem CG(A:Nat->Nat->R)(k r t c j:Nat)(hr:k<=r)(ht:k<=t):mc (c4 A r t) k c j=mc A k c j:=bg k fun i b hi _=>by
 have e:∀b,c4 A r t i b=A i b:=fun b=>by
  show(if i=r then _ else if i=t then _ else A i b)=_
  rw[if_neg (by lia),if_neg (by lia)]
 show(if b=c then c4 A r t i j else c4 A r t i b)=if b=c then A i j else A i b
 rw[e,e]
noncomputable def sw (r t i:Nat):Nat:=if i=r then t else if i=t then r else i
theorem HI(A:Nat->Nat->R)(k r t i j:Nat)(hr:k<=r)(ht:k<=t):ti (c4 A r t) k i j=ti A k (sw r t i) j:=by
 have e:∀b,c4 A r t i b=A (sw r t i) b:=fun b=>by
  show(if i=r then A t b else if i=t then A r b else A i b)=A (if i=r then t else if i=t then r else i) b
  by_cases q:i=r
  ·rw[if_pos q,if_pos q]
  ·rw[if_neg q,if_neg q]
   by_cases q2:i=t
   ·rw[if_pos q2,if_pos q2]
   ·rw[if_neg q2,if_neg q2]
 unfold ti
 rw[CF A k r t hr ht,e]
 refine congrArg (_ - ·) (a9 _ fun c _=> ?_)
 rw[e,CG A k r t c j hr ht]
end bar
end ai
namespace ai
open Lean.Grind
open Wh (valueAt addPoly scalePoly mulPoly)
theorem CH(x:Rat):valueAt [] x=0:=rfl
theorem dU(a:Rat)(l:List Rat)(x:Rat):valueAt (a::l) x=a+x*valueAt l x:=rfl
theorem l6:∀(p q:List Rat) (x:Rat),valueAt (addPoly p q) x=valueAt p x+valueAt q x
 |[],q,x=>by
  show valueAt q x=0+valueAt q x
  grind
 |a::p,[],x=>by
  show valueAt (a::p) x=valueAt (a::p) x+0
  grind
 |a::p,b::q,x=>by
  show(a+b)+x*valueAt (addPoly p q) x=_
  rw[l6 p q x,dU,dU];grind
theorem eQ(c:Rat):∀(p:List Rat) (x:Rat),valueAt (scalePoly c p) x=c*valueAt p x
 |[],x=>by
  show(0:Rat)=c*0
  grind
 |a::p,x=>by
  show c*a+x*valueAt (scalePoly c p) x=_
  rw[eQ c p x,dU];grind
theorem vL:∀(p q:List Rat) (x:Rat),valueAt (mulPoly p q) x=valueAt p x*valueAt q x
 |[],q,x=>by
  show(0:Rat)=0*valueAt q x
  grind
 |a::p,q,x=>by
  show valueAt (addPoly (scalePoly a q) (0::mulPoly p q)) x=_
  rw[l6,eQ,dU,vL p q x,dU];grind
structure PF where
 f:Rat->Rat
 h:∃l:List Rat,∀x,f x=valueAt l x
theorem PF.ext{a b:PF}(h:∀x,a.f x=b.f x):a=b:=by
 cases a;cases b
 have e:=funext h
 dsimp at e
 subst e
 rfl
namespace PF
def const(c:Rat):PF:=⟨fun _=>c,[c],fun x=>by rw[dU,CH];grind⟩
def add(a b:PF):PF:=⟨fun x=>a.f x+b.f x,by
 obtain⟨l,hl⟩:=a.h
 obtain⟨m,hm⟩:=b.h
 exact⟨addPoly l m,fun x=>by rw[l6,<-hl,<-hm]⟩⟩
def mul(a b:PF):PF:=⟨fun x=>a.f x*b.f x,by
 obtain⟨l,hl⟩:=a.h
 obtain⟨m,hm⟩:=b.h
 exact⟨mulPoly l m,fun x=>by rw[vL,<-hl,<-hm]⟩⟩
def neg(a:PF):PF:=⟨fun x=> - a.f x,by
 obtain⟨l,hl⟩:=a.h
 exact⟨scalePoly (-1) l,fun x=>by rw[eQ,<-hl];grind⟩⟩
def sub(a b:PF):PF:=⟨fun x=>a.f x - b.f x,by
 obtain⟨l,hl⟩:=a.h
 obtain⟨m,hm⟩:=b.h
 exact⟨addPoly l (scalePoly (-1) m),fun x=>by rw[l6,eQ,<-hl,<-hm];grind⟩⟩
def npow(a:PF):Nat->PF
 |0=>const 1
 |n+1=>mul (npow a n) a
instance:Add PF:=⟨add⟩
instance:Mul PF:=⟨mul⟩
instance:Neg PF:=⟨neg⟩
instance:Sub PF:=⟨sub⟩
instance:NatCast PF:=⟨fun n=>const (n:Rat)⟩
instance:IntCast PF:=⟨fun n=>const (n:Rat)⟩
instance (n:Nat):OfNat PF n:=⟨const (n:Rat)⟩
instance:SMul Nat PF:=⟨fun n a=>mul (const (n:Rat)) a⟩
instance:SMul Int PF:=⟨fun n a=>mul (const (n:Rat)) a⟩
instance:HPow PF Nat PF:=⟨npow⟩
theorem Qn(a b:PF)(x:Rat):(a+b).f x=a.f x+b.f x:=rfl
theorem KG(a b:PF)(x:Rat):(a*b).f x=a.f x*b.f x:=rfl
theorem Qo(a:PF)(x:Rat):(- a).f x= - a.f x:=rfl
instance:CommRing PF where
 add_zero a:=PF.ext fun x=>by show a.f x+((0:Nat):Rat)=a.f x;grind
 add_comm a b:=PF.ext fun x=>by show a.f x+b.f x=b.f x+a.f x;grind
 add_assoc a b c:=PF.ext fun x=>by show a.f x+b.f x+c.f x=a.f x+(b.f x+c.f x);grind
 mul_assoc a b c:=PF.ext fun x=>by show a.f x*b.f x*c.f x=a.f x*(b.f x*c.f x);grind
 mul_one a:=PF.ext fun x=>by show a.f x*((1:Nat):Rat)=a.f x;grind
 one_mul a:=PF.ext fun x=>by show((1:Nat):Rat)*a.f x=a.f x;grind
 left_distrib a b c:=PF.ext fun x=>by show a.f x*(b.f x+c.f x)=a.f x*b.f x+a.f x*c.f x;grind
 right_distrib a b c:=PF.ext fun x=>by show(a.f x+b.f x)*c.f x=a.f x*c.f x+b.f x*c.f x;grind
 zero_mul a:=PF.ext fun x=>by show((0:Nat):Rat)*a.f x=((0:Nat):Rat);grind
 mul_zero a:=PF.ext fun x=>by show a.f x*((0:Nat):Rat)=((0:Nat):Rat);grind
 pow_zero a:=rfl
 pow_succ a n:=rfl
 ofNat_succ n:=PF.ext fun x=>by show((n+1:Nat):Rat)=(n:Rat)+((1:Nat):Rat);grind
 neg_add_cancel a:=PF.ext fun x=>by show - a.f x+a.f x=((0:Nat):Rat);grind
 sub_eq_add_neg a b:=PF.ext fun x=>by show a.f x - b.f x=a.f x+ - b.f x;grind
 neg_zsmul i a:=PF.ext fun x=>by show((-i:Int):Rat)*a.f x= -((i:Rat)*a.f x);grind
 zsmul_natCast_eq_nsmul n a:=PF.ext fun x=>by show(((n:Int)):Rat)*a.f x=((n:Nat):Rat)*a.f x;rw[Rat.intCast_natCast]
 intCast_ofNat n:=PF.ext fun x=>by show((OfNat.ofNat n:Int):Rat)=((n:Nat):Rat);exact Rat.intCast_natCast n
 intCast_neg i:=PF.ext fun x=>by show((-i:Int):Rat)= -((i:Int):Rat);grind
 mul_comm a b:=PF.ext fun x=>by show a.f x*b.f x=b.f x*a.f x;grind
end PF
example (a b c:PF):(a+b)*c=c*b+a*c:=by grind
def sdiv(r:Rat):List Rat->List Rat
 |[]=>[]
 |_::[]=>[]
 |_::b::t=>valueAt (b::t) r::sdiv r (b::t)
theorem yS(r:Rat):∀l:List Rat,(sdiv r l).length=l.length - 1
 |[]=>rfl
 |_::[]=>rfl
 |_::b::t=>by
  show(sdiv r (b::t)).length+1=_
  rw[yS r (b::t)];rfl
theorem CI(r:Rat)(x:Rat):∀l:List Rat,valueAt l x - valueAt l r=(x - r)*valueAt (sdiv r l) x
 |[]=>by
  show(0:Rat) - 0=(x - r)*0
  grind
 |a::[]=>by
  show(a+x*0) - (a+r*0)=(x - r)*0
  grind
 |a::b::t=>by
  have e:=CI r x (b::t)
  show(a+x*valueAt (b::t) x) - (a+r*valueAt (b::t) r)=(x - r)*(valueAt (b::t) r+x*valueAt (sdiv r (b::t)) x)
  grind
def vM(l:List Rat):Prop:=∀c∈l,c=0
theorem vM.ev{l:List Rat}(h:vM l)(x:Rat):valueAt l x=0:=by
 induction l with
 |nil=>rfl
 |cons a l ih=>
  rw[dU,h a List.mem_cons_self,ih fun c hc=>h c (List.mem_cons_of_mem _ hc)];grind
theorem sdiv_zero(r:Rat):∀l:List Rat,vM (sdiv r l)->valueAt l r=0->vM l
 |[],_,_=>fun _ h=>by cases h
 |a::[],_,e=>fun c h=>by
  have:c=a:=by simpa using h
  subst this
  have e:c+r*0=0:=e
  grind
 |a::b::t,z,e=>by
  have z1:valueAt (b::t) r=0:=z _ List.mem_cons_self
  have ih:=sdiv_zero r (b::t) (fun c hc=>z c (List.mem_cons_of_mem _ hc)) z1
  intro c hc
  rcases List.mem_cons.mp hc with h |h
  ·subst h
   rw[dU,z1] at e
   grind
  ·exact ih c h
theorem roots:∀(xs:List Rat) (l:List Rat),xs.Nodup->l.length<=xs.length->(∀x∈xs,valueAt l x=0)->vM l
 |[],l,_,hl,_=>by
  have:l=[]:=List.length_eq_zero_iff.mp (by simpa using hl)
  subst this
  intro c h;cases h
 |r::xs,l,hn,hl,hz=>by
  have hr:=hz r List.mem_cons_self
  refine sdiv_zero r l (roots xs (sdiv r l) (List.nodup_cons.mp hn).2 ?_ ?_) hr
  ·rw[yS];simp at hl;lia
  ·intro x hx
   have e:=CI r x l
   rw[hz x (List.mem_cons_of_mem _ hx),hr] at e
   have ne:x - r≠0:=fun q=>by
    have:x=r:=by grind
    subst this
    exact(List.nodup_cons.mp hn).1 hx
   have e2:(x - r)*valueAt (sdiv r l) x=0:=by grind
   rcases Rat.mul_eq_zero.mp e2 with q |q
   ·exact absurd q ne
   ·exact q
theorem Gh(n:Nat):((List.range n).map fun i:Nat=>(i:Rat)).Nodup:=by
 refine List.Pairwise.map _ ?_ (List.nodup_range (n:=n))
 intro a b h e
 exact h (by exact_mod_cast e)
theorem BB(n:Nat)(l:List Rat)(hl:l.length<=n)(h:∀i:Nat,i<n->valueAt l (i:Rat)=0):vM l:=
 roots _ l (Gh n) (by simpa using hl) fun x hx=>by
  obtain⟨i,hi,rfl⟩:=List.mem_map.mp hx
  exact h i (List.mem_range.mp hi)
theorem Em:∀(n:Nat) (l:List Rat),l.length<=n->¬vM l->∃N:Nat,∀i:Nat,N<=i->valueAt l (i:Rat)≠0
 |0,l,hl,hz=>absurd (fun c h=>by
   have:l=[]:=List.length_eq_zero_iff.mp (by lia)
   subst this;cases h) hz
 |n+1,l,hl,hz=>by
  by_cases q:∃r:Nat,valueAt l (r:Rat)=0
  ·obtain⟨r,hr⟩:=q
   obtain⟨N,hN⟩:=Em n (sdiv r l) (by rw[yS];lia) fun z=>hz (sdiv_zero r l z hr)
   refine⟨max N (r+1),fun i hi e=> ?_⟩
   have e1:=CI r i l
   rw[e,hr] at e1
   have e2:((i:Rat) - r)*valueAt (sdiv r l) i=0:=by grind
   rcases Rat.mul_eq_zero.mp e2 with h |h
   ·have:(i:Rat)=(r:Rat):=by grind
    have:i=r:=by exact_mod_cast this
    lia
   ·exact hN i (by lia) h
  ·exact⟨0,fun i _ e=>q ⟨i,e⟩⟩
theorem yT{l:List Rat}(h:∀x,valueAt l x=0):vM l:=BB l.length l (Nat.le_refl _) fun i _=>h i
theorem PF.yq{a:PF}(h:a≠0):∃N:Nat,∀i:Nat,N<=i->a.f (i:Rat)≠0:=by
 obtain⟨l,hl⟩:=a.h
 obtain⟨N,hN⟩:=Em l.length l (Nat.le_refl _) fun z=>h (PF.ext fun x=>by rw[hl,z.ev];rfl)
 exact⟨N,fun i hi=>by rw[hl];exact hN i hi⟩
theorem PF.vO{a b:PF}(ha:a≠0)(hb:b≠0):a*b≠0:=by
 obtain⟨N,hN⟩:=PF.yq ha
 obtain⟨M,hM⟩:=PF.yq hb
 intro e
 have e1:(a*b).f ((max N M:Nat):Rat)=0:=by rw[e];rfl
 rcases Rat.mul_eq_zero.mp e1 with q |q
 ·exact hN _ (by lia) q
 ·exact hM _ (by lia) q
theorem PF.tP{a:PF}(ha:a≠0):Reg a:=by
 intro x y e
 by_cases q:x - y=0
 ·grind
 ·refine absurd ?_ (PF.vO ha q)
  grind
def rl(l:List Int):List Rat:=l.map fun z:Int=>(z:Rat)
def bL(l:List Rat):PF:=⟨fun x=>valueAt l x,l,fun _=>rfl⟩
def aG(l:List Int):PF:=bL (rl l)
theorem HJ(l:List Rat)(x:Rat):(bL l).f x=valueAt l x:=rfl
theorem Nj(l:List Int)(x:Rat):(aG l).f x=valueAt (rl l) x:=rfl
theorem bD(a:Int)(l:List Int)(x:Rat):(aG (a::l)).f x=(a:Rat)+x*(aG l).f x:=rfl
def Trim(l:List Int):Prop:=l.getLast?≠some 0
theorem pM:∀(p q:List Rat) (i:Nat),(addPoly p q).getD i 0=p.getD i 0+q.getD i 0
 |[],q,i=>by
  show q.getD i 0=([]:List Rat).getD i 0+q.getD i 0
  simp;grind
 |a::p,[],i=>by
  show(a::p).getD i 0=(a::p).getD i 0+([]:List Rat).getD i 0
  simp;grind
 |a::p,b::q,0=>rfl
 |a::p,b::q,i+1=>by
  show(addPoly p q).getD i 0=p.getD i 0+q.getD i 0
  exact pM p q i
theorem jx(c:Rat):∀(p:List Rat) (i:Nat),(scalePoly c p).getD i 0=c*p.getD i 0
 |[],i=>by
  show([]:List Rat).getD i 0=c*([]:List Rat).getD i 0
  simp
 |a::p,0=>rfl
 |a::p,i+1=>jx c p i
theorem vM.get{l:List Rat}(h:vM l)(i:Nat):l.getD i 0=0:=by
 rw[gDe]
 cases e:l[i]? with
 |none=>rfl
 |some c=>exact h c (List.mem_of_getElem? e)
theorem BC{p q:List Rat}(h:∀x,valueAt p x=valueAt q x)(i:Nat):p.getD i 0=q.getD i 0:=by
 have z:vM (addPoly p (scalePoly (-1) q)):=yT fun x=>by rw[l6,eQ,h];grind
 have e:=z.get i
 rw[pM,jx] at e
 grind
theorem CJ(l:List Int)(i:Nat):(rl l).getD i 0=((l.getD i 0:Int):Rat):=by
 unfold rl
 rw[gDe,gDe,List.getElem?_map]
 cases l[i]? <;>simp
theorem mH{l m:List Int}(h:aG l=aG m)(i:Nat):l.getD i 0=m.getD i 0:=by
 have e:=BC (p:=rl l) (q:=rl m) (fun x=>by rw[<-Nj,<-Nj,h]) i
 rw[CJ,CJ] at e
 exact_mod_cast e
theorem En{l m:List Int}(hl:Trim l)(h:∀i,l.getD i 0=m.getD i 0):l.length<=m.length:=by
 rcases Nat.eq_zero_or_pos l.length with q |q
 ·lia
 ·refine Nat.le_of_not_lt fun lt=>hl ?_
  have e:=h (l.length - 1)
  rw[List.getLast?_eq_getElem?]
  rw[gDe,gDe,List.getElem?_eq_none (l:=m) (by lia),List.getElem?_eq_getElem (by lia)] at e
  rw[List.getElem?_eq_getElem (by lia)]
  simpa using e
theorem kZ{l m:List Int}(hl:Trim l)(hm:Trim m)(h:aG l=aG m):l=m:=by
 have e:=mH h
 have n:l.length=m.length:=Nat.le_antisymm (En hl e) (En hm fun i=>(e i).symm)
 refine List.ext_getElem n fun i h1 h2=> ?_
 have:=e i
 simpa [gDe,List.getElem?_eq_getElem h1,List.getElem?_eq_getElem h2] using this
end ai
namespace ai
noncomputable abbrev aQ:=List Int
noncomputable def pN (c:aQ):Nat->Nat
 |0=>0
 |n+1=>if c.getD n 0=0 then pN c n else n+1
noncomputable def Gi (c:aQ):aQ:=c.take (pN c c.length)
noncomputable def cst (x:Int):aQ:=if x=0 then[] else[x]
noncomputable def HK (p:aQ):aQ:=p.map fun x=> -x
noncomputable def eh:aQ->aQ->aQ
 |[],q=>q
 |p,[]=>p
 |a::p,b::q=>(a+b)::eh p q
noncomputable def yU (l r:aQ):aQ:=Gi (eh l r)
noncomputable def pO (l r:aQ):aQ:=yU l (HK r)
noncomputable def mulL:aQ->aQ->aQ
 |[],_=>[]
 |a::p,q=>eh (q.map fun y=>a*y) (0::mulL p q)
noncomputable def de (l r:aQ):aQ:=if l=[]\/r=[] then[] else mulL l r
noncomputable def lc (p:aQ):Int:=p.getD (p.length - 1) 0
noncomputable def HL (r:aQ):Nat->aQ->aQ->aQ
 |0,_,out=>out
 |t+1,rest,out=>
  let f:=(rest.getD (t+r.length - 1) 0).fdiv (lc r)
  HL r t ((List.range rest.length).map fun i=>rest.getD i 0 - (if t<=i/\i<t+r.length then f*r.getD (i - t) 0 else 0)) (f::out)
noncomputable def ja (l r:aQ):aQ:=if l=[] then[] else HL r (l.length - r.length+1) l []
noncomputable def bF (p:aQ):Int:=p.headD 0
noncomputable def m9 (x y:Int):Int:=(Nat.gcd x.natAbs y.natAbs:Int)
noncomputable def cont (p:aQ):Int:=p.foldl m9 0
noncomputable def prim (p:aQ):aQ:=p.map fun x=>x.fdiv (cont p)
noncomputable def hU (rest right:aQ):aQ:=pO (rest.map fun x=>lc right*x) (List.replicate (rest.length - right.length) 0 ++ right.map fun y=>lc rest*y)
noncomputable def vP:Nat->aQ->aQ->aQ
 |0,rest,_=>rest
 |f+1,rest,right=>if rest.length<right.length then rest else vP f (hU rest right) right
noncomputable def c5 (l r:aQ):aQ:=vP (l.length+1) l r
noncomputable def xP:Nat->aQ->aQ->aQ
 |0,l,_=>l
 |f+1,l,s=>if s=[] then l else xP f s (prim (c5 l s))
noncomputable def lg (l r:aQ):aQ:=xP (r.length+1) (prim l) (prim r)
noncomputable def oF (p:aQ) (f:Int):List Int:=(p.length:Int)::p.reverse.map fun x=>x.fdiv f
noncomputable def lh (top aC:aQ):List Int:=
 if top=[] then[1,0,1,1] else
  let g:=lg top aC
  let a:=ja top g
  let b:=ja aC g
  let f:=m9 (cont a) (cont b)
  let f:=if lc b<0 then -f else f
  oF a f ++ oF b f
noncomputable abbrev fU:=List aQ
noncomputable def jG (t:List fU) (k:Nat):Nat->Option Nat
 |0=>none
 |f+1=>let p:=t.length - (f+1)
  if(t.getD p []).getD k []≠[] then some p else jG t k f
noncomputable def ia (row by_:fU) (k:Nat) (before:aQ):fU:=
 (List.range row.length).map fun j=>if k<j then ja (pO (de (by_.getD k []) (row.getD j [])) (de (row.getD k []) (by_.getD j []))) before else row.getD j []
noncomputable def vQ (t:List fU) (k:Nat) (before:aQ):List fU:=
 (List.range t.length).map fun i=>if i=k then t.getD k [] else ia (t.getD i []) (t.getD k []) k before
noncomputable def jy (t:List fU) (i k:Nat):List fU:=(t.set i (t.getD k [])).set k (t.getD i [])
noncomputable def tQ:Nat->Nat->List fU->aQ->Option (aQ×List aQ)
 |0,_,t,before=>some (before,t.map fun r=>r.getD (r.length - 1) [])
 |f+1,k,t,before=>match jG t k (t.length - k) with
  |none=>none
  |some c=>tQ f (k+1) (vQ (jy t c k) k before) ((t.getD c []).getD k [])
noncomputable def sol (t:List fU):Option (aQ×List aQ):=tQ t.length 0 t [1]
structure Part where
 kind:Int
 a:Int
 b:Int
 c:Int
 d:Int
 top:Int
 aC:Int
noncomputable def Part.of (r:List Int):Part:=⟨r.getD 0 0,r.getD 1 0,r.getD 2 0,r.getD 3 0,r.getD 4 0,r.getD 5 0,r.getD 6 0⟩
noncomputable def p0:Part:=⟨0,0,0,0,0,0,0⟩
structure Nw where
 last:Int
 af:List Part
noncomputable def aL (aO:List Int):List (List Int):=(List.range ((aO.length - 1+6) / 7)).map fun i=>(aO.drop (1+7*i)).take 7
noncomputable def dY (r:List Int):Bool:=
 if ¬(0<=r.getD 0 0/\r.getD 0 0<=13) then false
 else if ¬((r.drop 1).take 4).all (fun p=>decide (0<=p/\p<=63))=true then false
 else decide ((r.getD 5 0).natAbs<=1000000)&&decide (1<=r.getD 6 0/\r.getD 6 0<=1000000)
noncomputable def jH (aO:List Int):Bool:=
 if aO.length=0\/¬(1<=aO.headD 0/\aO.headD 0<=8) then false
 else if(aO.length - 1) % 7≠0 then false
 else if 10<(aL aO).length then false
 else if ¬(aL aO).all dY=true then false
 else decide (((aL aO).filter fun r=>decide (r.getD 0 0=13)).length<=3)
noncomputable def aU (aO:List Int):Nw:=⟨aO.headD 0,(aL aO).map Part.of⟩
noncomputable def dz (p:Part):List Int:=if p.kind=3 then[] else if p.kind=6\/p.kind=7\/p.kind=10\/p.kind=11 then[p.a,p.b,p.c,p.d] else[p.a,p.b]
noncomputable def jI (p:Part):Bool:=
 if p.kind=0\/p.kind=1\/p.kind=2 then decide (0<p.top)
 else if p.kind=10 then decide (p.top≠0)
 else if p.kind=11 then decide (p.top=0)
 else if p.kind=12 then decide (p.top=0\/p.top=p.aC)
 else if p.kind=13 then decide (0<=p.top)
 else true
noncomputable def kindAt (ps:List Part) (i:Int):Int:=(ps.getD i.toNat p0).kind
noncomputable def cI (ps:List Part) (k:Nat):Bool:=
 let p:=ps.getD k p0
 if ¬(p.kind=8\/p.kind=9) then true else decide (p.c<k)&&decide (kindAt ps p.c≠3)
noncomputable def aX (ps:List Part) (i:Int) (k:Nat):Bool:=decide (i<k)&&decide (kindAt ps i=2)
noncomputable def fz (p:Part) (one other:Int):Bool:=if p.kind≠3 then false else decide ((p.a=one/\p.b=other)\/(p.a=other/\p.b=one))
noncomputable def tooMuch (c one other:Part):Bool:=decide (one.top*other.top*c.aC*c.aC<c.top*c.top*one.aC*other.aC)
noncomputable def jz (ps:List Part) (k:Nat):Int:=
 let p:=ps.getD k p0
 if p.a=p.b\/aX ps p.a k=false\/aX ps p.b k=false then 3
 else if(ps.take k).any (fun q=>fz q p.a p.b)=true then 3
 else if tooMuch p (ps.getD p.a.toNat p0) (ps.getD p.b.toNat p0)=true then 2
 else 0
noncomputable def eF (n:Nw) (k:Nat):Int:=
 let p:=n.af.getD k p0
 if(dz p).any (fun v=>decide (n.last<v))=true then 1
 else if jI p=false then 2
 else if cI n.af k=false then 3
 else if p.kind=3 then jz n.af k
 else 0
noncomputable def gu (n:Nw):Nat->List Int
 |0=>[]
 |f+1=>let k:=n.af.length - (f+1)
  if eF n k≠0 then[(k:Int),eF n k] else gu n f
noncomputable def fault (n:Nw):List Int:=gu n n.af.length
noncomputable def bz (aO:List Int):List Int:=
 if jH aO=false then[-1] else match fault (aU aO) with
  |[]=>[]
  |f=> -2::f
noncomputable abbrev Term:=Int×aQ
noncomputable def gH (p:Part):Int:=if p.kind=3 then 0 else if p.kind=10 then 2 else 1
noncomputable def width (n:Nw):Int:=n.last+(n.af.map gH).sum
noncomputable def dC (free:Int):List Part->List Int
 |[]=>[]
 |p::r=>free::dC (free+gH p) r
noncomputable def places (n:Nw):List Int:=dC n.last n.af
structure gK where
 aO:Nw
 s:aQ
 cU:List Bool
 drives:List (Int×Int)
noncomputable def Eo (first second:Int):List Term:=(if 0<first then[(first - 1,[1])] else[]) ++ (if 0<second then[(second - 1,[-1])] else[])
noncomputable def jl (p:Part):List Term:=Eo p.a p.b
noncomputable def CK (p:Part):List Term:=Eo p.c p.d
noncomputable def cur (g:gK) (k:Int):List Term:=[((places g.aO).getD k.toNat 0,[1])]
noncomputable def nh (ts:List Term) (p:aQ):List Term:=ts.map fun t=>(t.1,de t.2 p)
noncomputable def jJ (p:Part) (l r:List Term):List Term:=nh l (cst p.aC) ++ nh r (cst (-p.top))
noncomputable def Ep (g:gK) (k:Nat) (ts:List Term):List Term:=nh ts (cst (g.drives.getD k (0,1)).2) ++ [(width g.aO,cst (g.drives.getD k (0,1)).1)]
noncomputable def bt (ps:List Part) (k:Nat):List (Int×Int×Int):=
 ((k:Int),(ps.getD k p0).top,(ps.getD k p0).aC)::(ps.filter fun p=>decide (p.kind=3/\((k:Int)=p.a\/(k:Int)=p.b))).map fun p=>(p.a+p.b - k,p.top,p.aC)
noncomputable def common (sh:List (Int×Int×Int)):Int:=sh.foldl (fun c x=>c*x.2.2) 1
noncomputable def nj (g:gK) (k:Nat):List Term:=
 let sh:=bt g.aO.af k
 nh (jl (g.aO.af.getD k p0)) (cst (common sh)) ++ sh.flatMap fun x=>nh (nh (cur g x.1) g.s) (cst (-x.2.1*(common sh).fdiv x.2.2))
noncomputable def cJ (g:gK) (k:Nat):List (List Term):=
 let p:=g.aO.af.getD k p0
 match p.kind.toNat with
 |0=>[jJ p (jl p) (cur g k)]
 |1=>[jJ p (cur g k) (nh (jl p) g.s)]
 |2=>[nj g k]
 |3=>[]
 |4=>[Ep g k (jl p)]
 |5=>[Ep g k (cur g k)]
 |6=>[jJ p (jl p) (CK p)]
 |7=>[jJ p (cur g k) (CK p)]
 |8=>[jJ p (jl p) (cur g p.c)]
 |9=>[jJ p (cur g k) (cur g p.c)]
 |10=>[jJ p (jl p) (CK p),jJ p [((places g.aO).getD k 0+1,[1])] (nh (cur g k) [-1])]
 |11=>[CK p]
 |12=>[if p.top=0 then cur g k else jl p]
 |_=>if g.cU.getD k false=true then[Ep g k (jl p)] else[cur g k]
noncomputable def gv (n:Nw) (v:Int):List Term:=
 (n.af.zip (places n)).flatMap fun x=>if x.1.kind=3 then[] else
  (if x.1.a=v then[(x.2,[1])] else[]) ++ (if x.1.b=v then[(x.2,[-1])] else[]) ++
   (if x.1.kind=10 then(if x.1.c=v then[(x.2+1,[1])] else[]) ++ (if x.1.d=v then[(x.2+1,[-1])] else[]) else[])
noncomputable def pP (row:fU) (t:Term):fU:=row.set t.1.toNat (yU (row.getD t.1.toNat []) t.2)
noncomputable def rowOf (w:Int) (ts:List Term):fU:=ts.foldl pP (List.replicate (w+1).toNat [])
noncomputable def dD (g:gK):List (List Term):=((List.range g.aO.last.toNat).map fun(v:Nat)=>gv g.aO ((v:Int)+1)) ++ (List.range g.aO.af.length).flatMap fun k=>cJ g k
noncomputable def rows (g:gK):List fU:=(dD g).map (rowOf (width g.aO))
noncomputable def bf:List Part->List (List Bool)->List (List Bool)
 |[],rs=>rs
 |p::r,rs=>bf r (rs.flatMap fun row=>if p.kind=13 then[row ++ [false],row ++ [true]] else[row ++ [false]])
noncomputable def cA (s:aQ×List aQ) (v:Int):aQ:=if 0<v then s.2.getD (v - 1).toNat [] else[]
noncomputable def gQ (g:gK) (s:aQ×List aQ) (k:Nat):aQ:=s.2.getD ((places g.aO).getD k 0).toNat []
noncomputable def qJ (s:aQ×List aQ) (a b:Int):aQ:=pO (cA s a) (cA s b)
noncomputable def gR (g:gK) (s:aQ×List aQ) (k:Nat):aQ:=qJ s (g.aO.af.getD k p0).a (g.aO.af.getD k p0).b
noncomputable def rR (g:gK) (s:aQ×List aQ) (k:Nat):Bool:=
 let p:=g.aO.af.getD k p0
 let d:=bF s.1
 if g.cU.getD k false=true then decide (0<=bF (gQ g s k)*d)
 else decide (bF (gR g s k)*d*p.aC<=p.top*d*d)
noncomputable def fG (g:gK) (s:aQ×List aQ):Bool:=((List.range g.aO.af.length).filter fun k=>decide ((g.aO.af.getD k p0).kind=13)).all fun k=>rR g s k
noncomputable def iR (n:Nw):List (List Bool)->Option (List Bool×(aQ×List aQ))
 |[]=>none
 |st::r=>let g:gK:=⟨n,[],st,n.af.map fun p=>(p.top,p.aC)⟩
  match sol (rows g) with
  |none=>iR n r
  |some s=>if fG g s=true then some (st,s) else iR n r
noncomputable def point (n:Nw):Option (List Bool×(aQ×List aQ)):=iR n (bf n.af [[]])
noncomputable def gI (n:Nw) (k:Int):Bool:=decide (k<n.af.length)&&decide (kindAt n.af k=4\/kindAt n.af k=5)
noncomputable def gi (n:Nw) (what k:Int):Bool:=
 if what=0 then decide (k<=n.last)
 else if what=1\/what=2 then decide (k<n.af.length)&&decide (kindAt n.af k≠3)
 else false
noncomputable def bI (n:Nw) (st:List Bool) (source:Int):gK:=⟨n,[0,1],st,(List.range n.af.length).map fun(k:Nat)=>if(k:Int)=source then(1,1) else(0,1)⟩
noncomputable def fh (g:gK) (s:aQ×List aQ) (what k:Int):aQ:=if what=0 then cA s k else if what=1 then gQ g s k.toNat else gR g s k.toNat
structure Nk where
 bz:List Int
 top:aQ
 aC:aQ
noncomputable def bb (source what k:Int) (aO:List Int):Nk:=
 if bz aO≠[] then⟨bz aO,[],[]⟩
 else if gI (aU aO) source=false\/gi (aU aO) what k=false then⟨[-3],[],[]⟩
 else match point (aU aO) with
  |none=>⟨[-4],[],[]⟩
  |some pt=>let g:=bI (aU aO) pt.1 source
   match sol (rows g) with
   |none=>⟨[],[],[]⟩
   |some s=>⟨[],fh g s what k,s.1⟩
noncomputable def trans (source what k:Int) (aO:List Int):List Int:=
 let q:=bb source what k aO
 if q.bz≠[] then q.bz else 0::lh q.top q.aC
end ai
namespace ai
open Lean.Grind
open Wh (valueAt)
theorem yr(c:aQ):∀n,pN c n<=n
 |0=>Nat.le_refl _
 |n+1=>by
  unfold pN
  split
  ·exact Nat.le_succ_of_le (yr c n)
  ·exact Nat.le_refl _
theorem BD(c:aQ):∀n i,pN c n<=i->i<n->c.getD i 0=0
 |0,i,_,h=>by lia
 |n+1,i,h,hi=>by
  unfold pN at h
  split at h
  ·rename_i e
   by_cases q:i=n
   ·subst q;exact e
   ·exact BD c n i h (by lia)
  ·lia
theorem BE(c:aQ):∀n,0<pN c n->c.getD (pN c n - 1) 0≠0
 |0,h=>by
  unfold pN at h
  lia
 |n+1,h=>by
  unfold pN at h⊢
  split
  ·rename_i e
   rw[if_pos e] at h
   exact BE c n h
  ·rename_i e
   exact e
theorem Ja(l:aQ)(n i:Nat):(l.take n).getD i 0=if i<n then l.getD i 0 else 0:=by
 rw[gDe,gDe,List.getElem?_take]
 split <;>rfl
theorem CL(c:aQ)(i:Nat):(Gi c).getD i 0=c.getD i 0:=by
 unfold Gi
 rw[Ja]
 split
 ·rfl
 ·rename_i h
  by_cases q:i<c.length
  ·exact(BD c c.length i (by lia) q).symm
  ·rw[gDe,List.getElem?_eq_none (by lia)];rfl
theorem yt(c:aQ):(Gi c).length=pN c c.length:=by
 unfold Gi
 rw[List.length_take]
 have:=yr c c.length
 lia
theorem CN(c:aQ):(Gi c).length<=c.length:=by rw[yt];exact yr _ _
theorem bO{l:aQ}:Trim l↔(l≠[]->lc l≠0):=by
 unfold Trim lc
 cases l with
 |nil=>simp
 |cons a l=>
  rw[List.getLast?_eq_getElem?,List.getElem?_eq_getElem (by simp),gDe,List.getElem?_eq_getElem (by simp)]
  simp
theorem pQ:Trim []:=by unfold Trim;simp
theorem jK(c:aQ):Trim (Gi c):=by
 rw[bO]
 intro h
 unfold lc
 rw[CL,yt]
 refine BE c _ ?_
 rw[<-yt]
 exact List.length_pos_iff.mpr h
theorem Gj:∀{l m:aQ},(∀i,l.getD i 0=m.getD i 0)->aG l=aG m:=by
 intro l
 induction l with
 |nil=>
  intro m
  induction m with
  |nil=>intro _;rfl
  |cons b m ih=>
   intro h
   have h0:(0:Int)=b:=by simpa using h 0
   subst h0
   have e:=ih fun i=>by simpa using h (i+1)
   refine PF.ext fun x=> ?_
   rw[bD,<-e]
   show(0:Rat)=((0:Int):Rat)+x*0
   grind
 |cons a l ih=>
  intro m h
  cases m with
  |nil=>
   have h0:a=0:=by simpa using h 0
   subst h0
   have e:=ih (m:=[]) fun i=>by simpa using h (i+1)
   refine PF.ext fun x=> ?_
   rw[bD,e]
   show((0:Int):Rat)+x*0=0
   grind
  |cons b m=>
   have h0:a=b:=by simpa using h 0
   subst h0
   have e:=ih (m:=m) fun i=>by simpa using h (i+1)
   exact PF.ext fun x=>by rw[bD,bD,e]
theorem tS(c:aQ):aG (Gi c)=aG c:=Gj (CL c)
theorem bW{l:aQ}(h:Trim l):aG l=0↔l=[]:=
 ⟨fun e=>kZ h pQ e,fun e=>by subst e;rfl⟩
theorem Gk(x:Rat):∀l r:aQ,(aG (eh l r)).f x=(aG l).f x+(aG r).f x
 |[],r=>by
  show(aG r).f x=0+(aG r).f x
  grind
 |a::l,[]=>by
  show(aG (a::l)).f x=(aG (a::l)).f x+0
  grind
 |a::l,b::r=>by
  show(aG ((a+b)::eh l r)).f x=_
  rw[bD,bD,bD,Gk x l r,Rat.intCast_add]
  grind
theorem tU(l r:aQ):aG (eh l r)=aG l+aG r:=PF.ext fun x=>by rw[Gk,PF.Qn]
theorem eV:∀(l r:aQ) (i:Nat),(eh l r).getD i 0=l.getD i 0+r.getD i 0
 |[],r,i=>by
  show r.getD i 0=([]:aQ).getD i 0+r.getD i 0
  simp
 |a::l,[],i=>by
  show(a::l).getD i 0=(a::l).getD i 0+([]:aQ).getD i 0
  simp
 |a::l,b::r,0=>rfl
 |a::l,b::r,i+1=>by
  show(eh l r).getD i 0=l.getD i 0+r.getD i 0
  exact eV l r i
theorem fH:∀l r:aQ,(eh l r).length=max l.length r.length
 |[],r=>by
  show r.length=max 0 r.length
  lia
 |a::l,[]=>by
  show(a::l).length=max (a::l).length 0
  lia
 |a::l,b::r=>by
  show(eh l r).length+1=max (l.length+1) (r.length+1)
  rw[fH l r];lia
theorem Er(l r:aQ):aG (yU l r)=aG l+aG r:=by unfold yU;rw[tS,tU]
theorem Jb(l r:aQ):Trim (yU l r):=jK _
theorem CO(l:aQ):aG (HK l)= - aG l:=PF.ext fun x=>by
 rw[PF.Qo]
 induction l with
 |nil=>show(0:Rat)= - 0;grind
 |cons a l ih=>
  show(aG (-a::HK l)).f x=_
  rw[bD,ih,bD,Rat.intCast_neg];grind
theorem tV(l:aQ):(HK l).length=l.length:=by unfold HK;simp
theorem eH(f:Int->Int)(h0:f 0=0)(l:aQ)(i:Nat):(l.map f).getD i 0=f (l.getD i 0):=by
 rw[gDe,gDe,List.getElem?_map]
 cases l[i]? with
 |none=>exact h0.symm
 |some v=>rfl
theorem KH(f:Int->Int)(h0:f 0=0)(h:∀x,x≠0->f x≠0){l:aQ}(t:Trim l):Trim (l.map f):=by
 rw[bO] at t⊢
 intro hl
 unfold lc
 rw[eH f h0,lMp]
 exact h _ (t fun e=>hl (by rw[e];rfl))
theorem mI(l r:aQ):aG (pO l r)=aG l - aG r:=by
 unfold pO
 rw[Er,CO];grind
theorem qK(l r:aQ):Trim (pO l r):=jK _
theorem qL(x:Int):aG (cst x)=PF.const (x:Rat):=by
 unfold cst
 refine PF.ext fun y=> ?_
 split
 ·rename_i e
  subst e
  show(0:Rat)=((0:Int):Rat)
  grind
 ·rw[bD]
  show(x:Rat)+y*0=(x:Rat)
  grind
theorem yu(a:Int)(x:Rat):∀q:aQ,(aG (q.map fun y=>a*y)).f x=(a:Rat)*(aG q).f x
 |[]=>by
  show(0:Rat)=(a:Rat)*0
  grind
 |b::q=>by
  show(aG (a*b::q.map fun y=>a*y)).f x=_
  rw[bD,yu a x q,bD,Rat.intCast_mul];grind
theorem du(a:Int)(q:aQ):aG (q.map fun y=>a*y)=PF.const (a:Rat)*aG q:=PF.ext fun x=>yu a x q
theorem KI(x:Rat):∀l r:aQ,(aG (mulL l r)).f x=(aG l).f x*(aG r).f x
 |[],r=>by
  show(0:Rat)=0*(aG r).f x
  grind
 |a::l,r=>by
  show(aG (eh (r.map fun y=>a*y) (0::mulL l r))).f x=_
  rw[Gk,yu,bD,KI x l r,bD]
  grind
theorem fI(l r:aQ):aG (mulL l r)=aG l*aG r:=PF.ext fun x=>KI x l r
theorem dZ:∀(l r:aQ),l≠[]->r≠[]->(mulL l r).length=l.length+r.length - 1
 |[],_,h,_=>absurd rfl h
 |a::[],r,_,hr=>by
  show(eh (r.map fun y=>a*y) [0]).length=1+r.length - 1
  rw[fH,lMp]
  have:0<r.length:=List.length_pos_iff.mpr hr
  show max r.length 1=_
  lia
 |a::b::l,r,_,hr=>by
  have ih:=dZ (b::l) r (by simp) hr
  show(eh (r.map fun y=>a*y) (0::mulL (b::l) r)).length=_
  rw[fH,lMp,List.length_cons,ih]
  have:0<r.length:=List.length_pos_iff.mpr hr
  simp only[List.length_cons]
  lia
theorem HM:∀(l r:aQ),l≠[]->r≠[]->lc (mulL l r)=lc l*lc r
 |[],_,h,_=>absurd rfl h
 |a::[],r,h1,hr=>by
  unfold lc
  rw[dZ _ r h1 hr]
  show(eh (r.map fun y=>a*y) [0]).getD _ 0=a*r.getD (r.length - 1) 0
  rw[eV,eH _ (by lia)]
  have e:([a].length+r.length - 1 - 1)=r.length - 1:=by simp only[List.length_cons,List.length_nil];lia
  rw[e]
  have z:([0]:aQ).getD (r.length - 1) 0=0:=by
   cases r.length - 1 <;>simp
  rw[z];lia
 |a::b::l,r,h1,hr=>by
  have ih:=HM (b::l) r (by simp) hr
  have n:=dZ (b::l) r (by simp) hr
  have pr:0<r.length:=List.length_pos_iff.mpr hr
  unfold lc at ih⊢
  rw[dZ _ r h1 hr]
  show(eh (r.map fun y=>a*y) (0::mulL (b::l) r)).getD _ 0=_
  rw[eV,eH _ (by lia)]
  have e:((a::b::l).length+r.length - 1 - 1)=(mulL (b::l) r).length - 1+1:=by rw[n];simp only[List.length_cons];lia
  rw[e]
  have z:r.getD ((mulL (b::l) r).length - 1+1) 0=0:=by
   rw[gDe,List.getElem?_eq_none (by rw[n];simp only[List.length_cons];lia)];rfl
  rw[z]
  show a*0+(mulL (b::l) r).getD ((mulL (b::l) r).length - 1) 0=_
  rw[ih]
  show a*0+_=(b::l).getD (b::l).length.pred 0*_
  simp
theorem gj(l r:aQ):aG (de l r)=aG l*aG r:=by
 unfold de
 split
 ·rename_i h
  rcases h with h |h
  ·subst h
   show(0:PF)=0*aG r
   grind
  ·subst h
   show(0:PF)=aG l*0
   grind
 ·exact fI l r
theorem mJ{l r:aQ}(hl:Trim l)(hr:Trim r):Trim (de l r):=by
 unfold de
 split
 ·exact pQ
 ·rename_i h
  have h1:l≠[]:=fun e=>h (.inl e)
  have h2:r≠[]:=fun e=>h (.inr e)
  rw[bO]
  intro _
  rw[HM l r h1 h2]
  exact Int.mul_ne_zero (bO.mp hl h1) (bO.mp hr h2)
theorem tW{l r:aQ}(h1:l≠[])(h2:r≠[]):(de l r).length=l.length+r.length - 1:=by
 unfold de
 rw[if_neg (fun h=>h.elim h1 h2),dZ l r h1 h2]
theorem Jc(n:Nat)(f:Nat->Int)(i:Nat):((List.range n).map f).getD i 0=if i<n then f i else 0:=by
 rw[gDe,List.getElem?_map]
 by_cases h:i<n
 ·rw[if_pos h,List.getElem?_range h];rfl
 ·rw[if_neg h,List.getElem?_eq_none (by simpa using h)];rfl
theorem eZ:∀(m:aQ) (c:Int) (r:aQ) (i:Nat),(mulL (m ++ [c]) r).getD i 0=(mulL m r).getD i 0+(if m.length<=i then c*r.getD (i - m.length) 0 else 0)
 |[],c,r,i=>by
  show(eh (r.map fun y=>c*y) [0]).getD i 0=0+_
  rw[eV,eH _ (by lia),if_pos (show([]:aQ).length<=i from Nat.zero_le _)]
  have z:([0]:aQ).getD i 0=0:=by cases i <;>simp
  rw[z];simp
 |a::m,c,r,0=>by
  show(eh (r.map fun y=>a*y) (0::mulL (m ++ [c]) r)).getD 0 0=(eh (r.map fun y=>a*y) (0::mulL m r)).getD 0 0+_
  rw[eV,eV,if_neg (by simp)];simp
 |a::m,c,r,i+1=>by
  show(eh (r.map fun y=>a*y) (0::mulL (m ++ [c]) r)).getD (i+1) 0=(eh (r.map fun y=>a*y) (0::mulL m r)).getD (i+1) 0+_
  rw[eV,eV]
  show _+ (mulL (m ++ [c]) r).getD i 0=_+ (mulL m r).getD i 0+_
  rw[eZ m c r i]
  simp only[List.length_cons,Nat.add_le_add_iff_right,Nat.add_sub_add_right]
  lia
theorem vR:∀(m:aQ) (r:aQ) (i:Nat),r≠[]->m.length+r.length - 1<=i->(mulL m r).getD i 0=0
 |[],r,i,_,_=>by
  show([]:aQ).getD i 0=0
  simp
 |a::m,r,i,hr,h=>by
  have n:=dZ (a::m) r (by simp) hr
  rw[gDe,List.getElem?_eq_none (by lia)];rfl
theorem yV(m:aQ)(t:Nat)(h:t<m.length):m.take (t+1)=m.take t ++ [m.getD t 0]:=by
 rw[List.take_add_one,List.getElem?_eq_getElem h,gDe,List.getElem?_eq_getElem h]
 rfl
theorem Es(r:aQ)(hr:r≠[])(hl:lc r≠0)(m:aQ):∀(t:Nat) (rest:aQ),t<=m.length->(∀i,rest.getD i 0=(mulL (m.take t) r).getD i 0)->t+r.length - 1<=rest.length->HL r t rest (m.drop t)=m
 |0,rest,_,_,_=>by
  show m.drop 0=m
  rfl
 |t+1,rest,ht,h,hz=>by
  have pr:0<r.length:=List.length_pos_iff.mpr hr
  have hm:m.take (t+1)=m.take t ++ [m.getD t 0]:=yV m t (by lia)
  have tl:(m.take t).length=t:=by rw[List.length_take];lia
  have ef:(rest.getD (t+r.length - 1) 0).fdiv (lc r)=m.getD t 0:=by
   rw[h,hm,eZ,tl,vR (m.take t) r _ hr (by lia),if_pos (by lia)]
   have e:t+r.length - 1 - t=r.length - 1:=by lia
   rw[e]
   show(0+m.getD t 0*lc r).fdiv (lc r)=_
   rw[Int.zero_add,Int.mul_fdiv_cancel _ hl]
  show HL r t ((List.range rest.length).map fun i=>rest.getD i 0 - (if t<=i/\i<t+r.length then(rest.getD (t+r.length - 1) 0).fdiv (lc r)*r.getD (i - t) 0 else 0)) ((rest.getD (t+r.length - 1) 0).fdiv (lc r)::m.drop (t+1))=m
  rw[ef]
  have ed:m.getD t 0::m.drop (t+1)=m.drop t:=by
   rw[gDe,List.getElem?_eq_getElem (by lia:t<m.length)]
   exact(List.drop_eq_getElem_cons (by lia)).symm
  rw[ed]
  refine Es r hr hl m t _ (by lia) (fun i=> ?_) (by rw[lMp,List.length_range];lia)
  rw[Jc]
  by_cases hi:i<rest.length
  ·rw[if_pos hi,h,hm,eZ,tl]
   by_cases q:t<=i
   ·rw[if_pos q]
    by_cases q2:i<t+r.length
    ·rw[if_pos ⟨q,q2⟩];lia
    ·rw[if_neg (fun z=>q2 z.2)]
     have:r.getD (i - t) 0=0:=by rw[gDe,List.getElem?_eq_none (by lia)];rfl
     rw[this];lia
   ·rw[if_neg q,if_neg (fun z=>q z.1)];lia
  ·rw[if_neg hi]
   exact(vR (m.take t) r i hr (by rw[tl];lia)).symm
theorem lj{l r m:aQ}(hl:Trim l)(hr:Trim r)(hm:Trim m)(hr0:r≠[])(h:aG l=aG m*aG r):ja l r=m:=by
 by_cases q:m=[]
 ·subst q
  have e:l=[]:=(bW hl).mp (by rw[h];show(0:PF)*_=0;grind)
  unfold ja
  rw[if_pos e]
 ·have el:l=mulL m r:=by
   have t:Trim (mulL m r):=by
    have:=mJ hm hr
    unfold de at this
    rwa [if_neg (fun h=>h.elim q hr0)] at this
   exact kZ hl t (by rw[h,fI])
  have n:=dZ m r q hr0
  have pm:0<m.length:=List.length_pos_iff.mpr q
  have pr:0<r.length:=List.length_pos_iff.mpr hr0
  unfold ja
  rw[if_neg (fun e=>by rw[el] at e;have:=congrArg List.length e;rw[n] at this;simp at this;lia),el,n]
  have e:m.length+r.length - 1 - r.length+1=m.length:=by lia
  rw[e]
  have d:=Es r hr0 (bO.mp hr hr0) m m.length (mulL m r) (Nat.le_refl _) (fun i=>by rw[List.take_length]) (by lia)
  rw[List.drop_length] at d
  exact d
end ai
namespace ai
open Lean.Grind
def dW(l:aQ):Nat:=(l.map Int.natAbs).sum
structure Bd(f:PF)(d B:Nat):Prop where
 ex:∃l:aQ,Trim l/\aG l=f/\l.length<=d+1/\dW l<=B
def gk(f:PF):Prop:=∃l:aQ,Trim l/\aG l=f
theorem qM(l:aQ):gk (aG l):=⟨Gi l,jK l,tS l⟩
theorem Jd:gk 0:=qM []
theorem yW:gk 1:=by
 have e:aG [1]=1:=PF.ext fun x=>by
  rw[bD]
  show((1:Int):Rat)+x*0=((1:Nat):Rat)
  grind
 exact e▸qM [1]
theorem gk.add{f g:PF}(hf:gk f)(hg:gk g):gk (f+g):=by
 obtain⟨l,_,rfl⟩:=hf
 obtain⟨m,_,rfl⟩:=hg
 exact tU l m▸qM _
theorem gk.mul{f g:PF}(hf:gk f)(hg:gk g):gk (f*g):=by
 obtain⟨l,_,rfl⟩:=hf
 obtain⟨m,_,rfl⟩:=hg
 exact fI l m▸qM _
theorem gk.neg{f:PF}(hf:gk f):gk (- f):=by
 obtain⟨l,_,rfl⟩:=hf
 exact CO l▸qM _
theorem gk.sub{f g:PF}(hf:gk f)(hg:gk g):gk (f - g):=by
 have e:f - g=f+ - g:=by grind
 rw[e];exact hf.add hg.neg
theorem Mq(i:Nat):gk (sg i):=by
 unfold sg
 split
 ·exact yW
 ·exact yW.neg
theorem vS:∀(n:Nat) {f:Nat->PF},(∀i,i<n->gk (f i))->gk (a7 n f)
 |0,_,_=>Jd
 |n+1,f,h=>(vS n fun i hi=>h i (by lia)).add (h n (by lia))
theorem yX:∀(n:Nat) {A:Nat->Nat->PF},(∀i j,i<n->j<n->gk (A i j))->gk (det n A)
 |0,_,_=>yW
 |n+1,A,h=>by
  rw[cD]
  refine vS _ fun i hi=>(Mq i).mul ((h i 0 hi (by lia)).mul (yX n fun a b ha hb=>h _ _ (tO ha) (by lia)))
def ent(t:List fU)(i j:Nat):aQ:=(t.getD i []).getD j []
structure Tab(n:Nat)(t:List fU):Prop where
 len:t.length=n
 row:∀i,i<n->(t.getD i []).length=n+1
 trim:∀i j,i<n->j<n+1->Trim (ent t i j)
def oG(t:List fU):Nat->Nat->PF:=fun i j=>aG (ent t i j)
structure Ord(n:Nat)(σ:Nat->Nat)(ε:PF):Prop where
 lt:∀i,i<n->σ i<n
 KJ:∀i,i<n->∃a,a<n/\σ a=i
 sgn:ε=1\/ε= -1
 det:∀F:Nat->Nat->PF,det n (fun i j=>F (σ i) j)=ε*det n F
theorem Ord.id(n:Nat):Ord n (fun i=>i) 1:=⟨fun i h=>h,fun i h=>⟨i,h,rfl⟩,.inl rfl,fun F=>by grind⟩
theorem Qp(r t i:Nat):sw r t (sw r t i)=i:=by
 unfold sw
 repeat' split
 all_goals lia
theorem ly{r t i n:Nat}(hr:r<n)(ht:t<n)(hi:i<n):sw r t i<n:=by
 unfold sw
 repeat' split
 all_goals lia
theorem pS{R:Type}(A:Nat->Nat->R)(r t:Nat):c4 A r t=fun i j=>A (sw r t i) j:=by
 funext i j
 show(if i=r then A t j else if i=t then A r j else A i j)=A (if i=r then t else if i=t then r else i) j
 by_cases q:i=r
 ·rw[if_pos q,if_pos q]
 ·rw[if_neg q,if_neg q]
  by_cases q2:i=t
  ·rw[if_pos q2,if_pos q2]
  ·rw[if_neg q2,if_neg q2]
theorem Ord.swap{n:Nat}{σ:Nat->Nat}{ε:PF}(o:Ord n σ ε)(r t:Nat)(hr:r<n)(ht:t<n):∃ε',Ord n (fun i=>σ (sw r t i)) ε':=by
 have lt:∀i,i<n->σ (sw r t i)<n:=fun i hi=>o.lt _ (ly hr ht hi)
 have KJ:∀i,i<n->∃a,a<n/\σ (sw r t a)=i:=fun i hi=>by
  obtain⟨a,ha,e⟩:=o.KJ i hi
  exact⟨sw r t a,ly hr ht ha,by rw[Qp];exact e⟩
 by_cases q:r=t
 ·subst q
  refine⟨ε,lt,KJ,o.sgn,fun F=> ?_⟩
  have e:∀i,sw r r i=i:=fun i=>by
   unfold sw
   repeat' split
   all_goals lia
  simp only[e]
  exact o.det F
 ·refine⟨-ε,lt,KJ,?_,fun F=> ?_⟩
  ·rcases o.sgn with e |e
   ·exact .inr (by rw[e])
   ·exact .inl (by rw[e];grind)
  ·have d:=Ky n (fun i j=>F (σ i) j) r t hr ht q
   rw[pS] at d
   rw[d,o.det F];grind
theorem Ord.ne{n:Nat}{σ:Nat->Nat}{ε:PF}(o:Ord n σ ε):ε*ε=1:=by
 rcases o.sgn with e |e <;>rw[e] <;>grind
theorem Ou:(1:PF)≠0:=fun e=>by
 have e1:(1:PF).f 0=(0:PF).f 0:=by rw[e]
 have e2:(1:Rat)=0:=e1
 exact absurd e2 (by decide)
theorem Et(t:List fU)(i a:Nat)(r:fU)(h:i<t.length):(t.set i r).getD a []=if a=i then r else t.getD a []:=by
 rw[gDe,gDe,List.getElem?_set]
 by_cases q:i=a
 ·subst q
  rw[if_pos rfl,if_pos h,if_pos rfl];rfl
 ·rw[if_neg q,if_neg (Ne.symm q)]
theorem yw(t:List fU)(c k a:Nat)(hc:c<t.length)(hk:k<t.length):(jy t c k).getD a []=t.getD (sw c k a) []:=by
 unfold jy
 rw[Et _ _ _ _ (by rw[List.length_set];exact hk),Et _ _ _ _ hc]
 unfold sw
 by_cases q:a=k
 ·subst q
  rw[if_pos rfl]
  by_cases q2:a=c
  ·subst q2;rw[if_pos rfl]
  ·rw[if_neg q2,if_pos rfl]
 ·rw[if_neg q]
  by_cases q2:a=c
  ·rw[if_pos q2,if_pos q2]
  ·rw[if_neg q2,if_neg q2,if_neg q]
theorem jr{α:Type}(n:Nat)(f:Nat->α)(i:Nat)(d:α)(h:i<n):((List.range n).map f).getD i d=f i:=by
 rw[gDe,List.getElem?_map,List.getElem?_range h];rfl
theorem CP(t:List fU)(k:Nat)(before:aQ)(i j:Nat)(hi:i<t.length)(hj:j<(t.getD i []).length):
  ent (vQ t k before) i j=if i=k then ent t k j else if k<j then ja (pO (de (ent t k k) (ent t i j)) (de (ent t i k) (ent t k j))) before else ent t i j:=by
 unfold ent vQ
 rw[jr _ _ _ _ hi]
 by_cases q:i=k
 ·rw[if_pos q,if_pos q]
 ·rw[if_neg q,if_neg q]
  unfold ia
  rw[jr _ _ _ _ hj]
theorem HN(t:List fU)(k:Nat)(before:aQ)(i:Nat)(hi:i<t.length):((vQ t k before).getD i []).length=(t.getD i []).length:=by
 unfold vQ
 rw[jr _ _ _ _ hi]
 by_cases q:i=k
 ·rw[if_pos q,q]
 ·rw[if_neg q]
  unfold ia
  simp
structure O8(n k:Nat)(A:Nat->Nat->PF)(t:List fU)(before:aQ)(σ:Nat->Nat)(ε:PF):Prop where
 tab:Tab n t
 ord:Ord n σ ε
 Eu:Trim before
 AU:aG before=mk (fun i j=>A (σ i) j) k
 ne:mk (fun i j=>A (σ i) j) k≠0
 up:∀i j,i<k->k<=j->j<n+1->aG (ent t i j)=mc (fun i j=>A (σ i) j) k i j
 low:∀i j,k<=i->i<n->k<=j->j<n+1->aG (ent t i j)=ti (fun i j=>A (σ i) j) k i j
theorem BF(n:Nat)(t:List fU)(h:Tab n t):O8 n 0 (oG t) t [1] (fun i=>i) 1 where
 tab:=h
 ord:=Ord.id n
 Eu:=by unfold Trim;simp
 AU:=by
  show aG [1]=(1:PF)
  refine PF.ext fun x=> ?_
  rw[bD]
  show((1:Int):Rat)+x*0=((1:Nat):Rat)
  grind
 ne:=Ou
 up:=fun i j hi=>by lia
 low:=fun i j _ _ _ _=>by
  show aG (ent t i j)=(1:PF)*oG t i j - 0
  unfold oG
  grind
theorem Ew{n k:Nat}{A:Nat->Nat->PF}{t:List fU}{before:aQ}{σ:Nat->Nat}{ε:PF}(hA:∀i j,i<n->j<n+1->gk (A i j))(hk:k<n)(S:O8 n k A t before σ ε)(c:Nat)(hkc:k<=c)(hc:c<n)(hp:ent t c k≠[]):
  ∃ε',O8 n (k+1) A (vQ (jy t c k) k before) (ent t c k) (fun i=>σ (sw c k i)) ε':=by
 obtain⟨ε',o'⟩:=S.ord.swap c k hc hk
 refine⟨ε',?_⟩
 have hB:(fun i j=>A (σ (sw c k i)) j)=c4 (fun i j=>A (σ i) j) c k:=(pS (fun i j=>A (σ i) j) c k).symm
 have tl:=S.tab.len
 have sl:(jy t c k).length=n:=by unfold jy;rw[List.length_set,List.length_set];exact tl
 have sg':∀a,(jy t c k).getD a []=t.getD (sw c k a) []:=fun a=>yw t c k a (by lia) (by lia)
 have se:∀a j,ent (jy t c k) a j=ent t (sw c k a) j:=fun a j=>by unfold ent;rw[sg']
 have skk:sw c k k=c:=by
  unfold sw
  repeat' split
  all_goals lia
 have slow:∀i,i<k->sw c k i=i:=fun i hi=>by unfold sw;rw[if_neg (by lia),if_neg (by lia)]
 have shigh:∀i,k<=i->k<=sw c k i:=fun i hi=>by
  unfold sw
  repeat' split
  all_goals lia
 have mkS:mk (fun i j=>A (σ (sw c k i)) j) k=mk (fun i j=>A (σ i) j) k:=by rw[hB];exact CF _ k c k hkc (Nat.le_refl _)
 have mcS:∀i j,mc (fun i j=>A (σ (sw c k i)) j) k i j=mc (fun i j=>A (σ i) j) k i j:=fun i j=>by rw[hB];exact CG _ k c k i j hkc (Nat.le_refl _)
 have tiS:∀i j,ti (fun i j=>A (σ (sw c k i)) j) k i j=ti (fun i j=>A (σ i) j) k (sw c k i) j:=fun i j=>by rw[hB];exact HI _ k c k i j hkc (Nat.le_refl _)
 have eU:∀i j,i<k->k<=j->j<n+1->aG (ent (jy t c k) i j)=mc (fun i j=>A (σ (sw c k i)) j) k i j:=fun i j hi hj hjn=>by rw[se,slow i hi,S.up i j hi hj hjn,mcS]
 have eL:∀i j,k<=i->i<n->k<=j->j<n+1->aG (ent (jy t c k) i j)=ti (fun i j=>A (σ (sw c k i)) j) k i j:=fun i j hi hin hj hjn=>by
  rw[se,S.low _ j (shigh i hi) (ly hc hk hin) hj hjn,tiS]
 have sT:∀i j,i<n->j<n+1->Trim (ent (jy t c k) i j):=fun i j hi hj=>by rw[se];exact S.tab.trim _ j (ly hc hk hi) hj
 generalize hBd:(fun i j=>A (σ (sw c k i)) j)=B at *
 have hBI:∀i j,i<n->j<n+1->gk (B i j):=fun i j hi hj=>by rw[<-hBd];exact hA _ j (S.ord.lt _ (ly hc hk hi)) hj
 have tP:Reg (mk B k):=PF.tP (by rw[mkS];exact S.ne)
 have piv:aG (ent t c k)=mk B (k+1):=by
  have e:=eL k k (Nat.le_refl _) hk (Nat.le_refl _) (by lia)
  rw[se,skk] at e
  rw[e,yR B k tP]
 have ne1:mk B (k+1)≠0:=fun z=>hp ((bW (S.tab.trim c k hc (by lia))).mp (piv.trans z))
 have reg1:Reg (mk B (k+1)):=PF.tP ne1
 have bne:before≠[]:=fun z=>by
  have:=S.AU
  rw[z] at this
  exact S.ne this.symm
 have ekk:aG (ent (jy t c k) k k)=mk B (k+1):=by rw[se,skk];exact piv
 have imk:gk (mk B (k+1)):=yX _ fun i j hi hj=>hBI i j (by lia) (by lia)
 have imc:∀i j,i<k+1->j<n+1->gk (mc B (k+1) i j):=fun i j hi hj=>yX _ fun a b ha hb=>by
  show gk (if b=i then B a j else B a b)
  split
  ·exact hBI a j (by lia) hj
  ·exact hBI a b (by lia) (by lia)
 have iti:∀i j,i<n->j<n+1->gk (ti B (k+1) i j):=fun i j hi hj=>(imk.mul (hBI i j hi hj)).sub (vS _ fun d hd=>(hBI i d hi (by lia)).mul (imc d j hd hj))
 have dv:∀i j f,i<n->k<j->j<n+1->i≠k->gk f->mk B (k+1)*aG (ent (jy t c k) i j) - aG (ent (jy t c k) i k)*aG (ent (jy t c k) k j)=mk B k*f->∃m,Trim m/\aG m=f/\ent (vQ (jy t c k) k before) i j=m:=fun i j f hi hj hjn hik hf e=>by
  obtain⟨m,tm,em⟩:=hf
  refine⟨m,tm,em,?_⟩
  rw[CP _ _ _ _ _ (by lia) (by rw[sg',S.tab.row _ (ly hc hk hi)];exact hjn),if_neg hik,if_pos hj]
  refine lj (qK _ _) S.Eu tm bne ?_
  rw[mI,gj,gj,ekk,e,em,S.AU,<-mkS]
  grind
 have up':∀i j,i<k+1->k+1<=j->j<n+1->Trim (ent (vQ (jy t c k) k before) i j)/\aG (ent (vQ (jy t c k) k before) i j)=mc B (k+1) i j:=fun i j hi hj hjn=>by
  by_cases q:i=k
  ·subst q
   rw[CP _ _ _ _ _ (by lia) (by rw[sg',S.tab.row _ (ly hc hk hk)];exact hjn),if_pos rfl]
   exact⟨sT _ j hk hjn,by rw[eL _ j (Nat.le_refl _) hk (by lia) hjn,HG B _ j tP reg1]⟩
  ·obtain⟨m,tm,em,e⟩:=dv i j (mc B (k+1) i j) (by lia) (by lia) hjn q (imc i j hi hjn) (by
    rw[eU i j (by lia) (by lia) hjn,eU i k (by lia) (Nat.le_refl _) (by lia),eL k j (Nat.le_refl _) hk (by lia) hjn]
    exact(yp B k j tP reg1 i (by lia)).1)
   rw[e]
   exact⟨tm,em⟩
 have low':∀i j,k+1<=i->i<n->k+1<=j->j<n+1->Trim (ent (vQ (jy t c k) k before) i j)/\aG (ent (vQ (jy t c k) k before) i j)=ti B (k+1) i j:=fun i j hi hin hj hjn=>by
  obtain⟨m,tm,em,e⟩:=dv i j (ti B (k+1) i j) hin (by lia) hjn (by lia) (iti i j hin hjn) (by
   rw[eL i j (by lia) hin (by lia) hjn,eL i k (by lia) hin (Nat.le_refl _) (by lia),eL k j (Nat.le_refl _) hk (by lia) hjn]
   exact HH B k i j tP reg1)
  rw[e]
  exact⟨tm,em⟩
 have cl:(vQ (jy t c k) k before).length=n:=by unfold vQ;rw[lMp,List.length_range];exact sl
 subst hBd
 refine⟨⟨cl,fun i hi=>by rw[HN _ _ _ _ (by lia),sg',S.tab.row _ (ly hc hk hi)],fun i j hi hj=> ?_⟩,o',S.tab.trim c k hc (by lia),piv,ne1,fun i j hi hj hjn=>(up' i j hi hj hjn).2,fun i j hi hin hj hjn=>(low' i j hi hin hj hjn).2⟩
 by_cases q:k+1<=j
 ·by_cases q2:i<k+1
  ·exact(up' i j q2 q hj).1
  ·exact(low' i j (by lia) hi q hj).1
 ·rw[CP _ _ _ _ _ (by lia) (by rw[sg',S.tab.row _ (ly hc hk hi)];exact hj)]
  by_cases q2:i=k
  ·rw[if_pos q2];exact sT k j hk hj
  ·rw[if_neg q2,if_neg (by lia)];exact sT i j hi hj
theorem nk(t:List fU)(k:Nat):∀(f c:Nat),f<=t.length->jG t k f=some c->t.length - f<=c/\c<t.length/\ent t c k≠[]
 |0,c,_,h=>by cases h
 |f+1,c,hf,h=>by
  unfold jG at h
  dsimp only at h
  split at h
  ·rename_i e
   cases h
   exact⟨Nat.le_refl _,by lia,e⟩
  ·obtain⟨h1,h2,h3⟩:=nk t k f c (by lia) h
   exact⟨by lia,h2,h3⟩
theorem yY(t:List fU)(k:Nat):∀(f:Nat),f<=t.length->jG t k f=none->∀i,t.length - f<=i->i<t.length->ent t i k=[]
 |0,_,_,i,h1,h2=>by lia
 |f+1,hf,h,i,h1,h2=>by
  unfold jG at h
  dsimp only at h
  split at h
  ·cases h
  ·rename_i e
   by_cases q:i=t.length - (f+1)
   ·rw[q]
    exact Classical.not_not.mp e
   ·exact yY t k f (by lia) h i (by lia) h2
structure RT(n:Nat)(A:Nat->Nat->PF)(d:aQ)(tops:List aQ):Prop where
 len:tops.length=n
 xq:Trim d
 O9:d≠[]
 trim:∀c,c<n->Trim (tops.getD c [])
 sgn:∃ε:PF,(ε=1\/ε= -1)/\aG d=ε*det n A/\∀c,c<n->aG (tops.getD c [])=ε*det n (bC A c fun i=>A i n)
theorem Ex{n:Nat}{A:Nat->Nat->PF}(hA:∀i j,i<n->j<n+1->gk (A i j)):∀(f k:Nat) (t:List fU) (before:aQ) (σ:Nat->Nat) (ε:PF),f+k=n->O8 n k A t before σ ε->
  (∃d tops,tQ f k t before=some (d,tops)/\RT n A d tops)\/(tQ f k t before=none/\det n A=0/\∃x:Nat->PF,(∃j,j<n/\x j≠0)/\∀i,i<n->a7 n (fun d=>A i d*x d)=0)
 |0,k,t,before,σ,ε,hf,S=>by
  have hk:k=n:=by lia
  subst hk
  refine .inl ⟨_,_,rfl,?_⟩
  have tl:=S.tab.len
  have te:∀c,c<k->(t.map fun r=>r.getD (r.length - 1) []).getD c []=ent t c k:=fun c hc=>by
   have hr:=S.tab.row c hc
   unfold ent
   rw[gDe,List.getElem?_map,List.getElem?_eq_getElem (by lia)]
   rw[gDe,List.getElem?_eq_getElem (by lia)] at hr
   rw[gDe (l:=t),List.getElem?_eq_getElem (by lia)]
   simp only[Option.map_some,Option.getD_some] at hr⊢
   rw[hr];rfl
  refine⟨by rw[lMp];exact tl,S.Eu,fun z=>S.ne (by rw[<-S.AU,z];rfl),fun c hc=>by rw[te c hc];exact S.tab.trim c k hc (by lia),ε,S.ord.sgn,?_,fun c hc=> ?_⟩
  ·rw[S.AU]
   exact S.ord.det A
  ·rw[te c hc,S.up c k hc (Nat.le_refl _) (by lia)]
   exact S.ord.det (bC A c fun i=>A i k)
 |f+1,k,t,before,σ,ε,hf,S=>by
  have hk:k<n:=by lia
  have tl:=S.tab.len
  unfold tQ
  cases e:jG t k (t.length - k) with
  |some c=>
   obtain⟨h1,h2,h3⟩:=nk t k _ c (by lia) e
   obtain⟨ε',S'⟩:=Ew hA hk S c (by lia) (by lia) h3
   exact Ex hA f (k+1) _ _ _ ε' (by lia) S'
  |none=>
   refine .inr ⟨rfl,?_⟩
   have z:=yY t k _ (by lia) e
   have tP:Reg (mk (fun i j=>A (σ i) j) k):=PF.tP S.ne
   have np:=KD (fun i j=>A (σ i) j) n k hk tP fun i hi hin=>by
    rw[<-S.low i k hi hin (Nat.le_refl _) (by lia),z i (by lia) (by lia)];rfl
   refine⟨?_,fun d=>if d<k+1 then(if d=k then mk (fun i j=>A (σ i) j) k else - mc (fun i j=>A (σ i) j) k d k) else 0,⟨k,hk,?_⟩,fun i hi=> ?_⟩
   ·have d:=S.ord.det A
    rw[np.2] at d
    have o:=S.ord.ne
    grind
   ·dsimp only
    rw[if_pos (by lia),if_pos rfl]
    exact S.ne
   ·obtain⟨a,ha,ea⟩:=S.ord.KJ i hi
    have s:=np.1 a ha
    rw[ea] at s
    exact s
theorem Gm{n:Nat}{t:List fU}(h:Tab n t):
  (∃d tops,sol t=some (d,tops)/\RT n (oG t) d tops)\/(sol t=none/\det n (oG t)=0/\∃x:Nat->PF,(∃j,j<n/\x j≠0)/\∀i,i<n->a7 n (fun d=>oG t i d*x d)=0):=by
 unfold sol
 rw[h.len]
 exact Ex (fun i j _ _=>qM _) n 0 t [1] _ 1 rfl (BF n t h)
end ai
namespace ai
open Lean.Grind
open Wh (valueAt addPoly scalePoly mulPoly)
theorem Gn(x:Rat):∀(n:Nat) (f:Nat->PF),(a7 n f).f x=a7 n fun i=>(f i).f x
 |0,_=>rfl
 |n+1,f=>by
  show(a7 n f).f x+(f n).f x=_
  rw[Gn x n f];rfl
theorem Qq(x:Rat)(i:Nat):(sg i:PF).f x=sg i:=by
 unfold sg
 split <;>rfl
theorem BG(x:Rat):∀(n:Nat) (A:Nat->Nat->PF),(det n A).f x=det n fun i j=>(A i j).f x
 |0,_=>rfl
 |n+1,A=>by
  rw[cD,cD,Gn]
  refine a9 _ fun i _=> ?_
  rw[PF.KG,PF.KG,Qq,BG x n];rfl
def Nl(l:List (List Rat)):Nat->Nat->Rat:=fun i j=>(l.getD i []).getD j 0
theorem xr{R:Type} [CommRing R](n:Nat)(A:Nat->Nat->R)(p:Nat)(hp:p<n)(c:Nat->R):∀m,m<=n->det n (fun i j=>if i<m/\i≠p then A i j+c i*A p j else A i j)=det n A
 |0,_=>bg n fun i j _ _=>if_neg (by lia)
 |m+1,hm=>by
  rw[<-xr n A p hp c m (by lia)]
  by_cases q:m=p
  ·refine bg n fun i j _ _=> ?_
   by_cases e:i<m+1/\i≠p
   ·rw[if_pos e,if_pos (by lia)]
   ·rw[if_neg e,if_neg (by lia)]
  ·have r:=Gg n (fun i j=>if i<m/\i≠p then A i j+c i*A p j else A i j) m p (c m) (by lia) hp q
   rw[<-r]
   refine bg n fun i j _ _=> ?_
   by_cases e:i=m
   ·subst e
    rw[bJ]
    rw[if_pos ⟨by lia,q⟩,if_neg (by lia),if_neg (by lia)]
   ·rw[bQ e]
    by_cases e2:i<m+1/\i≠p
    ·rw[if_pos e2,if_pos (by lia)]
    ·rw[if_neg e2,if_neg (by lia)]
theorem jL(r:List Rat):r.headD 0=r.getD 0 0:=by cases r <;>rfl
theorem yZ(r:List Rat)(j:Nat):(r.drop 1).getD j 0=r.getD (j+1) 0:=by cases r <;>simp
theorem BH(f:Rat->Rat->Rat)(a b:List Rat)(j:Nat)(ha:j<a.length)(hb:j<b.length):(List.zipWith f a b).getD j 0=f (a.getD j 0) (b.getD j 0):=by
 rw[gDe,List.getElem?_zipWith,gDe,gDe,List.getElem?_eq_getElem ha,List.getElem?_eq_getElem hb];rfl
theorem y6:∀(f:Nat) (l:List (List Rat)),l.length=f->(∀i,i<f->(l.getD i []).length=f)->Wh.detOf f l=det f (Nl l)
 |0,_,_,_=>rfl
 |f+1,l,hl,hr=>by
  unfold Wh.detOf
  cases e:l.findIdx? fun r:List Rat=>decide (r.headD 0≠0) with
  |none=>
   dsimp only
   refine(jq (f+1) (Nl l) 0 (by lia) fun i hi=> ?_).symm
   have h:=List.findIdx?_eq_none_iff.mp e (l.getD i []) (by
    rw[gDe,List.getElem?_eq_getElem (by lia)]
    exact List.getElem_mem _)
   simp only[decide_eq_false_iff_not,Classical.not_not] at h
   show(l.getD i []).getD 0 0=0
   rw[<-jL];exact h
  |some i=>
   obtain⟨hi,hp,_⟩:=List.findIdx?_eq_some_iff_getElem.mp e
   have hp':(l.getD i []).headD 0≠0:=by
    rw[gDe,List.getElem?_eq_getElem hi]
    simpa using hp
   dsimp only
   generalize hpr:l.getD i []=p at hp'⊢
   have lp:p.length=f+1:=by rw[<-hpr];exact hr i (by lia)
   have pA:∀j,Nl l i j=p.getD j 0:=fun j=>by show(l.getD i []).getD j 0=_;rw[hpr]
   rw[<-xr (f+1) (Nl l) i (by lia) (fun a=> -((l.getD a []).headD 0 / p.headD 0)) (f+1) (Nat.le_refl _),cD,iY (f+1) i (by lia)]
   ·have hsg:(sg i:Rat)=if i % 2=1 then -1 else 1:=by
     unfold sg
     by_cases q:i % 2=1
     ·rw[if_pos q,if_neg (by lia)]
     ·rw[if_neg q,if_pos (by lia)]
    rw[hsg]
    refine congrArg _ ?_
    rw[if_neg (by lia),pA,jL]
    refine congrArg _ ?_
    have ih:=y6 f ((l.eraseIdx i).map fun r:List Rat=>List.zipWith (fun x y:Rat=>x - r.headD 0 / p.headD 0*y) (r.drop 1) (p.drop 1)) (by
     rw[lMp,List.length_eraseIdx,if_pos hi];lia) (fun a ha=>by
     have la:a<(l.eraseIdx i).length:=by rw[List.length_eraseIdx,if_pos hi];lia
     rw[gDe,List.getElem?_map,List.getElem?_eq_getElem la]
     simp only[Option.map_some,Option.getD_some,List.length_zipWith,List.length_drop]
     have hm:=List.mem_of_mem_eraseIdx (List.getElem_mem la)
     obtain⟨b,hb,eb⟩:=List.getElem_of_mem hm
     have:=hr b (by lia)
     rw[gDe,List.getElem?_eq_getElem hb] at this
     simp only[Option.getD_some] at this
     rw[<-eb,this,lp];lia)
    rw[<-jL,ih]
    refine bg f fun a b ha hb=> ?_
    have la:a<(l.eraseIdx i).length:=by rw[List.length_eraseIdx,if_pos hi];lia
    have ls:skip i a<l.length:=by have:=tO (i:=i) ha;lia
    have ee:(l.eraseIdx i)[a]=l[skip i a]:=by
     rw[List.getElem_eraseIdx]
     unfold skip
     split <;>rfl
    have lr:(l[skip i a]).length=f+1:=by
     have:=hr (skip i a) (by lia)
     rw[gDe,List.getElem?_eq_getElem ls] at this
     exact this
    have eg:l.getD (skip i a) []=l[skip i a]:=by rw[gDe,List.getElem?_eq_getElem ls];rfl
    show(((l.eraseIdx i).map fun r:List Rat=>List.zipWith (fun x y:Rat=>x - r.headD 0 / p.headD 0*y) (r.drop 1) (p.drop 1)).getD a []).getD b 0=if skip i a<f+1/\skip i a≠i then Nl l (skip i a) (b+1)+ -((l.getD (skip i a) []).headD 0 / p.headD 0)*Nl l i (b+1) else Nl l (skip i a) (b+1)
    rw[if_pos ⟨by lia,HF i a⟩,gDe (l:=List.map _ _),List.getElem?_map,List.getElem?_eq_getElem la]
    simp only[Option.map_some,Option.getD_some]
    rw[ee,BH _ _ _ _ (by rw[List.length_drop];lia) (by rw[List.length_drop];lia),yZ,yZ,pA,eg]
    show _=(l.getD (skip i a) []).getD (b+1) 0+_
    rw[eg]
    grind
   ·intro a ha hai
    rw[if_pos ⟨ha,hai⟩,pA,<-jL]
    have:Nl l a 0=(l.getD a []).headD 0:=(jL _).symm
    rw[this]
    have z:(l.getD a []).headD 0+ -((l.getD a []).headD 0 / p.headD 0)*p.headD 0=0:=by
     have:=Rat.div_mul_cancel (a:=(l.getD a []).headD 0) hp'
     grind
    rw[z];grind
theorem yx:∀(p:List Rat) (x:Rat),valueAt (Wh.trim p) x=valueAt p x:=by
 intro p x
 have key:∀q:List Rat,valueAt ((q.dropWhile fun x:Rat=>decide (x=0)).reverse) x=valueAt q.reverse x:=by
  intro q
  induction q with
  |nil=>rfl
  |cons a q ih=>
   by_cases h:a=0
   ·rw[List.dropWhile_cons_of_pos (by simpa using h),ih,List.reverse_cons]
    have app:∀(r:List Rat),valueAt (r ++ [0]) x=valueAt r x:=by
     intro r
     induction r with
     |nil=>
      show(0:Rat)+x*0=0
      grind
     |cons b r ih2=>
      show b+x*valueAt (r ++ [0]) x=b+x*valueAt r x
      rw[ih2]
    rw[h,app]
   ·rw[List.dropWhile_cons_of_neg (by simpa using h)]
 unfold Wh.trim
 rw[key,List.reverse_reverse]
theorem Ey(p:List Rat):(Wh.trim p).length<=p.length:=by
 unfold Wh.trim
 rw[List.length_reverse]
 refine Nat.le_trans (List.Sublist.length_le (List.dropWhile_sublist _)) ?_
 rw[List.length_reverse];exact Nat.le_refl _
theorem tZ:∀(p:List Rat) (a b:Rat),p≠[]->(mulPoly p [a,b]).length=p.length+1
 |[],_,_,h=>absurd rfl h
 |c::[],a,b,_=>rfl
 |c::d::p,a,b,_=>by
  have ih:=tZ (d::p) a b (by simp)
  show(addPoly [c*a,c*b] (0::mulPoly (d::p) [a,b])).length=_
  have al:∀(u v:List Rat),(addPoly u v).length=max u.length v.length:=by
   intro u
   induction u with
   |nil=>
    intro v
    show v.length=max 0 v.length
    lia
   |cons x u ih2=>
    intro v
    cases v with
    |nil=>
     show(x::u).length=max (x::u).length 0
     lia
    |cons y v=>
     show(addPoly u v).length+1=max (u.length+1) (v.length+1)
     rw[ih2 v];lia
  rw[al,List.length_cons (a:=(0:Rat)),ih]
  simp only[List.length_cons,List.length_nil]
  lia
def CQ(i:Nat):List Nat->List Rat->List Rat:=fun js p=>js.foldl (fun(p:List Rat) (j:Nat)=>if j=i then p else mulPoly p [-(j:Rat) / ((i:Rat) - (j:Rat)),1 / ((i:Rat) - (j:Rat))]) p
theorem y8(m i:Nat):Wh.basis m i=CQ i (List.range m) [1]:=rfl
theorem y9(i:Nat):∀(js:List Nat) (p:List Rat),p≠[]->(CQ i js p).length=p.length+(js.filter fun j=>decide (j≠i)).length
 |[],p,_=>rfl
 |j::js,p,h=>by
  show(CQ i js (if j=i then p else mulPoly p _)).length=_
  by_cases q:j=i
  ·rw[if_pos q,y9 i js p h,List.filter_cons_of_neg (by simpa using q)]
  ·have l2:=tZ p (-(j:Rat) / ((i:Rat) - (j:Rat))) (1 / ((i:Rat) - (j:Rat))) h
   rw[if_neg q,y9 i js _ (by intro e;rw[e] at l2;simp at l2),l2,List.filter_cons_of_pos (by simpa using q),List.length_cons]
   lia
theorem KL{i j:Nat}(h:j≠i):(i:Rat) - (j:Rat)≠0:=fun e=>h (by
 have:(j:Rat)=(i:Rat):=by grind
 exact_mod_cast this)
theorem BI(i:Nat):∀(js:List Nat) (p:List Rat),valueAt (CQ i js p) (i:Rat)=valueAt p (i:Rat)
 |[],_=>rfl
 |j::js,p=>by
  show valueAt (CQ i js (if j=i then p else mulPoly p _)) (i:Rat)=_
  rw[BI i js]
  by_cases q:j=i
  ·rw[if_pos q]
  ·rw[if_neg q,vL,dU,dU,CH]
   have:=KL q
   have e: -(j:Rat) / ((i:Rat) - (j:Rat))+(i:Rat)*(1 / ((i:Rat) - (j:Rat))+(i:Rat)*0)=1:=by grind
   rw[e];grind
theorem BJ(i:Nat):∀(js:List Nat) (p:List Rat) (x:Rat),valueAt p x=0->valueAt (CQ i js p) x=0
 |[],_,_,h=>h
 |j::js,p,x,h=>by
  show valueAt (CQ i js (if j=i then p else mulPoly p _)) x=0
  refine BJ i js _ x ?_
  split
  ·exact h
  ·rw[vL,h];grind
theorem ze(i k:Nat)(hk:k≠i):∀(js:List Nat) (p:List Rat),k∈js->valueAt (CQ i js p) (k:Rat)=0
 |[],_,h=>by cases h
 |j::js,p,h=>by
  show valueAt (CQ i js (if j=i then p else mulPoly p _)) (k:Rat)=0
  by_cases q:k=j
  ·subst q
   rw[if_neg hk]
   refine BJ i js _ _ ?_
   rw[vL,dU,dU,CH]
   have:=KL hk
   have e: -(k:Rat) / ((i:Rat) - (k:Rat))+(k:Rat)*(1 / ((i:Rat) - (k:Rat))+(k:Rat)*0)=0:=by grind
   rw[e];grind
  ·exact ze i k hk js _ ((List.mem_cons.mp h).resolve_left q)
theorem oH(i:Nat):∀m,i<m->((List.range m).filter fun j=>decide (j≠i)).length+1=m
 |0,h=>by lia
 |m+1,h=>by
  rw[List.range_succ,List.filter_append,List.length_append]
  by_cases q:m=i
  ·subst q
   have e:(List.range m).filter (fun j=>decide (j≠m))=List.range m:=List.filter_eq_self.mpr fun a ha=>by
    have:=List.mem_range.mp ha
    simp;lia
   rw[e,List.filter_cons_of_neg (by simp)]
   simp
  ·have:=oH i m (by lia)
   rw[List.filter_cons_of_pos (by simpa using q)]
   simp only[List.filter_nil,List.length_cons,List.length_nil]
   lia
theorem Je{m i:Nat}(h:i<m):(Wh.basis m i).length=m:=by
 rw[y8,y9 i _ _ (by simp)]
 have:=oH i m h
 simp only[List.length_cons,List.length_nil]
 lia
theorem HP(x:Rat):∀(l:List (List Rat)) (acc:List Rat),valueAt (l.foldl addPoly acc) x=valueAt acc x+(l.map fun p=>valueAt p x).sum
 |[],acc=>by
  show valueAt acc x=valueAt acc x+0
  grind
 |p::l,acc=>by
  show valueAt (l.foldl addPoly (addPoly acc p)) x=_
  rw[HP x l,l6,List.map_cons,List.sum_cons]
  grind
theorem fJ:∀(u v:List Rat),(addPoly u v).length=max u.length v.length:=by
 intro u
 induction u with
 |nil=>
  intro v
  show v.length=max 0 v.length
  lia
 |cons x u ih2=>
  intro v
  cases v with
  |nil=>
   show(x::u).length=max (x::u).length 0
   lia
  |cons y v=>
   show(addPoly u v).length+1=max (u.length+1) (v.length+1)
   rw[ih2 v];lia
theorem Ez(m:Nat):∀(l:List (List Rat)) (acc:List Rat),acc.length<=m->(∀p∈l,p.length<=m)->(l.foldl addPoly acc).length<=m
 |[],_,h,_=>h
 |p::l,acc,h,hl=>by
  refine Ez m l (addPoly acc p) ?_ fun q hq=>hl q (List.mem_cons_of_mem _ hq)
  rw[fJ]
  have:=hl p List.mem_cons_self
  lia
theorem pU(l:List Rat):(Wh.through l).length<=l.length:=by
 unfold Wh.through
 refine Nat.le_trans (Ey _) (Ez l.length _ _ (Nat.zero_le _) fun p hp=> ?_)
 obtain⟨y,hy,rfl⟩:=List.mem_map.mp hp
 have hi:y.2<l.length:=by
  have:=List.mem_zipIdx hy
  lia
 unfold Wh.scalePoly
 rw[lMp,Je hi]
 exact Nat.le_refl _
theorem zh:∀(l:List Rat) (off k:Nat) (B:Nat->Rat),off<=k->k<off+l.length->(∀i,off<=i->i<off+l.length->i≠k->B i=0)->((l.zipIdx off).map fun y:Rat×Nat=>y.1*B y.2).sum=l.getD (k - off) 0*B k
 |[],off,k,B,h1,h2,_=>by simp at h2;lia
 |a::l,off,k,B,h1,h2,hB=>by
  rw[List.zipIdx_cons,List.map_cons,List.sum_cons]
  by_cases q:k=off
  ·subst q
   have z:((l.zipIdx (k+1)).map fun y:Rat×Nat=>y.1*B y.2).sum=0:=by
    have all:∀(r:List (Rat×Nat)),(∀y∈r,B y.2=0)->(r.map fun y:Rat×Nat=>y.1*B y.2).sum=0:=by
     intro r
     induction r with
     |nil=>intro _;rfl
     |cons y r ih=>
      intro h
      rw[List.map_cons,List.sum_cons,h y List.mem_cons_self,ih fun z hz=>h z (List.mem_cons_of_mem _ hz)]
      grind
    refine all _ fun y hy=> ?_
    have m:=List.mem_zipIdx hy
    exact hB y.2 (by lia) (by simp only[List.length_cons];lia) (by lia)
   rw[z]
   simp only[Nat.sub_self]
   show a*B k+0=a*B k
   grind
  ·have ih:=zh l (off+1) k B (by lia) (by simp only[List.length_cons] at h2;lia) fun i h3 h4 h5=>hB i (by lia) (by simp only[List.length_cons];lia) h5
   rw[ih,hB off (Nat.le_refl _) (by simp only[List.length_cons];lia) (Ne.symm q)]
   have e:k - off=(k - (off+1))+1:=by lia
   rw[e]
   show a*0+_=l.getD (k - (off+1)) 0*B k
   grind
theorem Gp(l:List Rat)(k:Nat)(hk:k<l.length):valueAt (Wh.through l) (k:Rat)=l.getD k 0:=by
 unfold Wh.through
 rw[yx,HP,List.map_map]
 have e:(l.zipIdx.map ((fun p:List Rat=>valueAt p (k:Rat)) ∘ fun y:Rat×Nat=>scalePoly y.1 (Wh.basis l.length y.2)))=l.zipIdx.map fun y:Rat×Nat=>y.1*valueAt (Wh.basis l.length y.2) (k:Rat):=by
  refine List.map_congr_left fun y _=> ?_
  show valueAt (scalePoly _ _) _=_
  rw[eQ]
 rw[e,zh l 0 k (fun i=>valueAt (Wh.basis l.length i) (k:Rat)) (Nat.zero_le _) (by lia) fun i _ hi hik=>by
  rw[y8];exact ze i k (Ne.symm hik) _ _ (List.mem_range.mpr hk)]
 rw[y8,BI,dU,CH]
 simp only[Nat.sub_zero]
 grind
def Dg(f:PF)(d:Nat):Prop:=∃l:List Rat,bL l=f/\l.length<=d
theorem zj(ys:List Rat)(f:PF)(m:Nat)(hm:ys.length=m)(hd:Dg f m)(h:∀i:Nat,i<m->f.f (i:Rat)=ys.getD i 0):bL (Wh.through ys)=f:=by
 obtain⟨l,rfl,hl⟩:=hd
 refine PF.ext fun x=> ?_
 have z:vM (addPoly (Wh.through ys) (scalePoly (-1) l)):=by
  refine BB m _ ?_ fun i hi=> ?_
  ·rw[fJ]
   have:=pU ys
   have e:(scalePoly (-1) l).length=l.length:=by unfold Wh.scalePoly;rw[lMp]
   lia
  ·rw[l6,eQ,Gp ys i (by lia),<-h i hi,HJ];grind
 have e:=z.ev x
 rw[l6,eQ] at e
 rw[HJ,HJ]
 grind
theorem Dg.mono{f:PF}{d e:Nat}(h:Dg f d)(hde:d<=e):Dg f e:=let ⟨l,a,b⟩:=h;⟨l,a,Nat.le_trans b hde⟩
theorem Dg.add{f g:PF}{d:Nat}(hf:Dg f d)(hg:Dg g d):Dg (f+g) d:=by
 obtain⟨l,rfl,hl⟩:=hf
 obtain⟨m,rfl,hm⟩:=hg
 exact⟨addPoly l m,PF.ext fun x=>l6 l m x,by rw[fJ];lia⟩
theorem Dg.smul{f:PF}{d:Nat}(c:Rat)(hf:Dg f d):Dg (PF.const c*f) d:=by
 obtain⟨l,rfl,hl⟩:=hf
 exact⟨scalePoly c l,PF.ext fun x=>eQ c l x,by unfold Wh.scalePoly;rw[lMp];exact hl⟩
theorem ue(d:Nat):Dg 0 d:=⟨[],rfl,Nat.zero_le _⟩
theorem EA(c:Rat):Dg (PF.const c) 1:=⟨[c],PF.ext fun x=>by
 show c+x*0=c
 grind,Nat.le_refl _⟩
theorem xt:∀(p q:List Rat),p≠[]->q≠[]->(mulPoly p q).length=p.length+q.length - 1
 |[],_,h,_=>absurd rfl h
 |a::[],q,_,hq=>by
  show(addPoly (scalePoly a q) [0]).length=_
  have:0<q.length:=List.length_pos_iff.mpr hq
  rw[fJ]
  unfold Wh.scalePoly
  rw[lMp]
  simp only[List.length_cons,List.length_nil]
  lia
 |a::b::p,q,_,hq=>by
  have ih:=xt (b::p) q (by simp) hq
  show(addPoly (scalePoly a q) (0::mulPoly (b::p) q)).length=_
  have:0<q.length:=List.length_pos_iff.mpr hq
  rw[fJ,List.length_cons,ih]
  unfold Wh.scalePoly
  rw[lMp]
  simp only[List.length_cons]
  lia
theorem Dg.mul{f g:PF}{d e:Nat}(hf:Dg f (d+1))(hg:Dg g (e+1)):Dg (f*g) (d+e+1):=by
 obtain⟨l,rfl,hl⟩:=hf
 obtain⟨m,rfl,hm⟩:=hg
 refine⟨mulPoly l m,PF.ext fun x=>vL l m x,?_⟩
 by_cases q:l=[]
 ·subst q
  exact Nat.zero_le _
 ·by_cases q2:m=[]
  ·subst q2
   have:∀l:List Rat,(mulPoly l []).length<=l.length:=by
    intro l
    induction l with
    |nil=>exact Nat.le_refl _
    |cons a l ih=>
     show(addPoly (scalePoly a []) (0::mulPoly l [])).length<=_
     rw[fJ]
     simp only[Wh.scalePoly,List.map_nil,List.length_nil,List.length_cons]
     lia
   have:=this l
   lia
  ·rw[xt l m q q2];lia
theorem HQ(d:Nat):∀(n:Nat) {f:Nat->PF},(∀i,i<n->Dg (f i) d)->Dg (a7 n f) d
 |0,_,_=>ue d
 |n+1,f,h=>(HQ d n fun i hi=>h i (by lia)).add (h n (by lia))
def sumNat:Nat->(Nat->Nat)->Nat
 |0,_=>0
 |n+1,f=>sumNat n f+f n
theorem xu:∀(n i:Nat) (f:Nat->Nat),i<n+1->sumNat n (fun a=>f (skip i a))+f i=sumNat (n+1) f
 |0,i,f,h=>by
  have:i=0:=by lia
  subst this
  rfl
 |n+1,i,f,h=>by
  by_cases q:i=n+1
  ·subst q
   have e:∀m,m<=n+1->sumNat m (fun a=>f (skip (n+1) a))=sumNat m f:=by
    intro m
    induction m with
    |zero=>intro _;rfl
    |succ m ih=>
     intro hm
     show sumNat m (fun a=>f (skip (n+1) a))+f (skip (n+1) m)=sumNat m f+f m
     rw[ih (by lia)]
     have:skip (n+1) m=m:=by unfold skip;rw[if_pos (by lia)]
     rw[this]
   rw[e (n+1) (Nat.le_refl _)]
   rfl
  ·have ih:=xu n i f (by lia)
   show sumNat n (fun a=>f (skip i a))+f (skip i n)+f i=sumNat (n+1) f+f (n+1)
   have:skip i n=n+1:=by unfold skip;rw[if_neg (by lia)]
   rw[this,<-ih]
   lia
theorem CS:∀(n:Nat) {A:Nat->Nat->PF} {d:Nat->Nat},(∀i j,i<n->j<n->Dg (A i j) (d i+1))->Dg (det n A) (sumNat n d+1)
 |0,_,_,_=>EA 1
 |n+1,A,d,h=>by
  rw[cD]
  refine HQ _ _ fun i hi=> ?_
  have hs:(sg i:PF)=PF.const (sg i):=PF.ext fun x=>Qq x i
  rw[hs]
  refine Dg.smul _ ?_
  have m:=(h i 0 hi (by lia)).mul (CS n (A:=del i A) (d:=fun a=>d (skip i a)) fun a b ha hb=>h _ _ (tO ha) (by lia))
  refine m.mono ?_
  have:=xu n i d hi
  lia
theorem jA(a b:Rat):PF.const (a*b)=PF.const a*PF.const b:=rfl
theorem cX:PF.const 1=1:=rfl
theorem zl:PF.const 0=0:=rfl
theorem gm{c:Rat}(h:c≠0):PF.const c≠0:=fun e=>h (by
 have:(PF.const c).f 0=(0:PF).f 0:=by rw[e]
 exact this)
theorem mK{c:Rat}(h:c≠0):PF.const c*PF.const (1 / c)=1:=PF.ext fun x=>by
 show c*(1 / c)=1
 grind
theorem nu{z:Int}(h:z≠0):(z:Rat)≠0:=fun e=>h (by exact_mod_cast e)
theorem HR(a:Rat):a*(a.den:Rat)=(a.num:Rat):=by
 have h:=Rat.num_divInt_den a
 rw[Rat.divInt_eq_div] at h
 have hd:((a.den:Int):Rat)≠0:=by
  rw[Rat.intCast_natCast]
  intro e
  have:a.den=0:=by exact_mod_cast e
  exact a.den_nz this
 rw[Rat.intCast_natCast] at h hd
 have:=Rat.div_mul_cancel (a:=(a.num:Rat)) hd
 rw[h] at this
 exact this
theorem clear_list:∀l:List Rat,∃(M:Nat) (R:aQ),0<M/\PF.const (M:Rat)*bL l=aG R
 |[]=>⟨1,[],by lia,PF.ext fun x=>by
   show((1:Nat):Rat)*0=0
   grind⟩
 |a::l=>by
  obtain⟨M,R,hM,e⟩:=clear_list l
  refine⟨M*a.den,(a.num*(M:Int))::R.map fun y=>(a.den:Int)*y,Nat.mul_pos hM (Rat.den_pos a),PF.ext fun x=> ?_⟩
  have e1:(M:Rat)*valueAt l x=(aG R).f x:=by
   have:=congrArg (fun q:PF=>q.f x) e
   exact this
  rw[bD,yu,<-e1]
  show((M*a.den:Nat):Rat)*(a+x*valueAt l x)=((a.num*(M:Int):Int):Rat)+x*(((a.den:Int):Rat)*((M:Rat)*valueAt l x))
  have e2:a*(a.den:Rat)=(a.num:Rat):=HR a
  rw[Rat.natCast_mul,Rat.intCast_mul,Rat.intCast_natCast,Rat.intCast_natCast,<-e2]
  grind
theorem qN(f:PF):∃(M:Nat) (R:aQ),0<M/\Trim R/\PF.const (M:Rat)*f=aG R:=by
 obtain⟨l,hl⟩:=f.h
 obtain⟨M,R,hM,e⟩:=clear_list l
 refine⟨M,Gi R,hM,jK R,?_⟩
 rw[tS,<-e]
 exact PF.ext fun x=>by
  show(M:Rat)*f.f x=(M:Rat)*valueAt l x
  rw[hl]
theorem rS{M:Nat}(h:0<M):(M:Rat)≠0:=fun e=>by
 have:M=0:=by exact_mod_cast e
 lia
theorem rT{l:aQ}(t:Trim l){c:Rat}(hc:c≠0){e:Nat}(h:Dg (PF.const c*aG l) e):l.length<=e:=by
 obtain⟨m,hm,hle⟩:=h
 refine Nat.le_trans (Nat.le_of_not_lt fun lt=> ?_) hle
 have hl0:l≠[]:=fun q=>by rw[q] at lt;exact absurd lt (by simp)
 have ec:=BC (p:=m) (q:=scalePoly c (rl l)) (fun x=>by
  have:=congrArg (fun q:PF=>q.f x) hm
  rw[eQ]
  exact this) (l.length - 1)
 rw[jx,CJ,gDe,List.getElem?_eq_none (by lia)] at ec
 have:=bO.mp t hl0
 have e2:c*((l.getD (l.length - 1) 0:Int):Rat)=0:=ec.symm
 rcases Rat.mul_eq_zero.mp e2 with q |q
 ·exact hc q
 ·exact this (by exact_mod_cast q)
theorem CT(l:aQ):Dg (aG l) l.length:=⟨rl l,rfl,by unfold rl;rw[lMp];exact Nat.le_refl _⟩
theorem zm{l:aQ}(t:Trim l)(hl:l≠[]){f:PF}(hf:f≠0){c:Rat}(hc:c≠0){e:Nat}(h:Dg (PF.const c*(f*aG l)) e):l.length<=e:=by
 obtain⟨M,R,hM,tR,eR⟩:=qN f
 have hR:R≠[]:=fun q=>by
  rw[q] at eR
  exact PF.vO (gm (rS hM)) hf eR
 have d:Dg (PF.const c*aG (de R l)) e:=by
  have e1:PF.const c*aG (de R l)=PF.const (M:Rat)*(PF.const c*(f*aG l)):=by
   rw[gj,<-eR];grind
  rw[e1]
  exact h.smul _
 have:=rT (mJ tR t) hc d
 rw[tW hR hl] at this
 have:0<R.length:=List.length_pos_iff.mpr hR
 lia
def bZ(l:aQ):Nat:=l.foldl (fun g x=>Nat.gcd g x.natAbs) 0
theorem gw(l:aQ):cont l=(bZ l:Int):=by
 have key:∀(l:aQ) (g:Nat),l.foldl m9 (g:Int)=(l.foldl (fun(g:Nat) (x:Int)=>Nat.gcd g x.natAbs) g:Nat):=by
  intro l
  induction l with
  |nil=>intro g;rfl
  |cons a l ih=>
   intro g
   show l.foldl m9 (m9 (g:Int) a)=(l.foldl _ (Nat.gcd g a.natAbs):Nat)
   exact ih (Nat.gcd g a.natAbs)
 exact key l 0
theorem uf:∀(l:aQ) (g:Nat),l.foldl (fun(g:Nat) (x:Int)=>Nat.gcd g x.natAbs) g=Nat.gcd g (bZ l)
 |[],g=>by
  show g=Nat.gcd g 0
  rw[Nat.gcd_zero_right]
 |a::l,g=>by
  show l.foldl _ (Nat.gcd g a.natAbs)=Nat.gcd g (l.foldl _ (Nat.gcd 0 a.natAbs))
  rw[uf l,uf l,Nat.gcd_zero_left,Nat.gcd_assoc]
theorem mL(a:Int)(l:aQ):bZ (a::l)=Nat.gcd a.natAbs (bZ l):=by
 show l.foldl _ (Nat.gcd 0 a.natAbs)=_
 rw[uf,Nat.gcd_zero_left]
theorem pV(l m:aQ):bZ (l ++ m)=Nat.gcd (bZ l) (bZ m):=by
 show(l ++ m).foldl _ 0=_
 rw[List.foldl_append,uf];rfl
theorem iZ{l:aQ}{x:Int}(h:x∈l):(bZ l:Int) ∣ x:=by
 induction l with
 |nil=>cases h
 |cons a l ih=>
  rw[mL]
  rcases List.mem_cons.mp h with e |e
  ·subst e
   exact Int.dvd_trans (Int.natCast_dvd_natCast.mpr (Nat.gcd_dvd_left _ _)) (Int.natAbs_dvd_self)
  ·exact Int.dvd_trans (Int.natCast_dvd_natCast.mpr (Nat.gcd_dvd_right _ _)) (ih e)
theorem EC{l:aQ}{d:Nat}(h:∀x∈l,(d:Int) ∣ x):d ∣ bZ l:=by
 induction l with
 |nil=>exact Nat.dvd_zero d
 |cons a l ih=>
  rw[mL]
  exact Nat.dvd_gcd (Int.ofNat_dvd_left.mp (h a List.mem_cons_self)) (ih fun x hx=>h x (List.mem_cons_of_mem _ hx))
theorem ug{l:aQ}{d c:Nat}(h:∀x∈l,(d:Int) ∣ (c:Int)*x):d ∣ c*bZ l:=by
 induction l with
 |nil=>exact Nat.dvd_zero d
 |cons a l ih=>
  rw[mL,<-Nat.gcd_mul_left]
  refine Nat.dvd_gcd ?_ (ih fun x hx=>h x (List.mem_cons_of_mem _ hx))
  have:=Int.ofNat_dvd_left.mp (h a List.mem_cons_self)
  rwa [Int.natAbs_mul,Int.natAbs_natCast] at this
theorem fK{l:aQ}(t:Trim l)(h:l≠[]):0<bZ l:=by
 refine Nat.pos_of_ne_zero fun z=>bO.mp t h ?_
 have m:lc l∈l:=by
  unfold lc
  have:0<l.length:=List.length_pos_iff.mpr h
  rw[gDe,List.getElem?_eq_getElem (by lia)]
  exact List.getElem_mem _
 have d:=iZ m
 rw[z] at d
 simpa using d
theorem c6(l:aQ):(prim l).length=l.length:=by unfold prim;simp
theorem nv(l:aQ):(prim l).map (fun y=>cont l*y)=l:=by
 unfold prim
 rw[List.map_map]
 have:∀x∈l,((fun y=>cont l*y) ∘ fun x=>x.fdiv (cont l)) x=x:=fun x hx=>by
  show cont l*x.fdiv (cont l)=x
  have d:cont l ∣ x:=by rw[gw];exact iZ hx
  exact Int.mul_fdiv_cancel' d
 rw[List.map_congr_left this,List.map_id']
theorem zo(l:aQ):PF.const ((cont l:Int):Rat)*aG (prim l)=aG l:=by
 rw[<-du,nv]
theorem d3{l:aQ}(t:Trim l):Trim (prim l):=by
 rw[bO]
 intro h z
 have hl:l≠[]:=fun e=>h (by rw[e];rfl)
 refine bO.mp t hl ?_
 have e:=nv l
 have:lc l=cont l*lc (prim l):=by
  have e2:lc ((prim l).map fun y=>cont l*y)=cont l*lc (prim l):=by
   unfold lc
   rw[eH _ (by lia),lMp]
  rw[e] at e2
  exact e2
 rw[this,z];lia
theorem zw{l:aQ}(t:Trim l)(h:l≠[]):bZ (prim l)=1:=by
 have p:=fK t h
 have d:bZ l*bZ (prim l) ∣ bZ l:=EC fun x hx=>by
  rw[<-nv l] at hx
  obtain⟨y,hy,rfl⟩:=List.mem_map.mp hx
  rw[gw,Int.natCast_mul]
  exact Int.mul_dvd_mul_left _ (iZ hy)
 have:=Nat.le_of_dvd p d
 have q:0<bZ (prim l):=fK (d3 t) (fun e=>h (by have:=congrArg List.length e;rw[c6] at this;exact List.length_eq_zero_iff.mp (by simpa using this)))
 rcases Nat.lt_or_ge (bZ (prim l)) 2 with r |r
 ·lia
 ·have:bZ l*2<=bZ l*bZ (prim l):=Nat.mul_le_mul_left _ r
  lia
def yy(p:Nat):Prop:=2<=p/\∀d,d ∣ p->d=1\/d=p
theorem CU:∀(n:Nat),2<=n->∃p,yy p/\p ∣ n:=by
 intro n
 induction n using Nat.strongRecOn with
 |ind n ih=>
  intro h
  by_cases q:∃d,d ∣ n/\d≠1/\d≠n
  ·obtain⟨d,hd,h1,h2⟩:=q
   have hd0:0<d:=Nat.pos_of_dvd_of_pos hd (by lia)
   have hdn:d<=n:=Nat.le_of_dvd (by lia) hd
   obtain⟨p,hp,hpd⟩:=ih d (by lia) (by lia)
   exact⟨p,hp,Nat.dvd_trans hpd hd⟩
  ·refine⟨n,⟨h,fun d hd=> ?_⟩,Nat.dvd_refl n⟩
   by_cases h1:d=1
   ·exact .inl h1
   ·by_cases h2:d=n
    ·exact .inr h2
    ·exact absurd ⟨d,hd,h1,h2⟩ q
theorem yy.mul{p:Nat}(hp:yy p){a b:Int}(h:(p:Int) ∣ a*b):(p:Int) ∣ a\/(p:Int) ∣ b:=by
 rw[Int.ofNat_dvd_left,Int.natAbs_mul] at h
 rcases hp.2 (Nat.gcd p a.natAbs) (Nat.gcd_dvd_left _ _) with g |g
 ·exact .inr (Int.ofNat_dvd_left.mpr (Nat.Coprime.dvd_of_dvd_mul_left g h))
 ·refine .inl (Int.ofNat_dvd_left.mpr ?_)
  rw[<-g]
  exact Nat.gcd_dvd_right _ _
def zx(p:Int)(l:aQ):Prop:=∀i,p ∣ l.getD i 0
theorem zx.mem{p:Int}{l:aQ}(h:zx p l):∀x∈l,p ∣ x:=fun x hx=>by
 obtain⟨i,hi,e⟩:=List.getElem_of_mem hx
 have:=h i
 rw[gDe,List.getElem?_eq_getElem hi] at this
 simpa [e] using this
theorem rA(l m:aQ)(i:Nat):(mulL l m).getD i 0=(mulL m l).getD i 0:=mH (by rw[fI,fI];grind) i
theorem l9(a:Int)(l m:aQ)(i:Nat):(mulL (a::l) m).getD i 0=a*m.getD i 0+(if i=0 then 0 else(mulL l m).getD (i - 1) 0):=by
 show(eh (m.map fun y=>a*y) (0::mulL l m)).getD i 0=_
 rw[eV,eH _ (by lia)]
 cases i with
 |zero=>simp
 |succ i=>simp
theorem pW{p:Nat}(hp:yy p):∀(n:Nat) (R g:aQ),R.length+g.length<=n->zx p (mulL R g)->zx p R\/zx p g
 |n,[],g,_,_=> .inl fun i=>by simp
 |n,R,[],_,_=> .inr fun i=>by simp
 |0,a::R,b::g,hn,_=>by simp at hn
 |n+1,a::R,b::g,hn,h=>by
  simp only[List.length_cons] at hn
  have h0:=h 0
  rw[l9] at h0
  have h0':(p:Int) ∣ a*b:=by simpa using h0
  rcases hp.mul h0' with pa |pb
  ·have d:zx p (mulL R (b::g)):=fun i=>by
    have hi:=h (i+1)
    rw[l9,if_neg (by lia)] at hi
    have e:i+1 - 1=i:=by lia
    rw[e] at hi
    exact(Int.dvd_add_right (Int.dvd_mul_of_dvd_left pa)).mp hi
   rcases pW hp n R (b::g) (by simp only[List.length_cons];lia) d with r |r
   ·refine .inl fun i=> ?_
    cases i with
    |zero=>exact pa
    |succ i=>exact r i
   ·exact .inr r
  ·have d:zx p (mulL (a::R) g):=fun i=>by
    have hi:=h (i+1)
    rw[rA,l9,if_neg (by lia)] at hi
    have e:i+1 - 1=i:=by lia
    rw[e] at hi
    rw[rA]
    exact(Int.dvd_add_right (Int.dvd_mul_of_dvd_left pb)).mp hi
   rcases pW hp n (a::R) g (by simp only[List.length_cons];lia) d with r |r
   ·exact .inl r
   ·refine .inr fun i=> ?_
    cases i with
    |zero=>exact pb
    |succ i=>exact r i
theorem Qr{g:aQ}(hg:bZ g=1):∀(d:Nat),0<d->∀R:aQ,zx (d:Int) (mulL R g)->zx (d:Int) R:=by
 intro d
 induction d using Nat.strongRecOn with
 |ind d ih=>
  intro hd R h
  by_cases h1:d=1
  ·subst h1
   exact fun i=>Int.one_dvd _
  ·obtain⟨p,hp,hpd⟩:=CU d (by lia)
   obtain⟨e,rfl⟩:=hpd
   have he:0<e:=Nat.pos_of_mul_pos_left hd
   have hp2:=hp.1
   have hR:zx p R:=by
    rcases pW hp _ R g (Nat.le_refl _) (fun i=>Int.dvd_trans (by rw[Int.natCast_mul];exact Int.dvd_mul_right _ _) (h i)) with r |r
    ·exact r
    ·have:=EC (l:=g) (d:=p) r.mem
     rw[hg] at this
     have:=Nat.le_of_dvd (by lia) this
     lia
   have eS:(R.map fun x=>x / (p:Int)).map (fun y=>(p:Int)*y)=R:=by
    rw[List.map_map]
    have:∀x∈R,((fun y=>(p:Int)*y) ∘ fun x=>x / (p:Int)) x=x:=fun x hx=>Int.mul_ediv_cancel' (hR.mem x hx)
    rw[List.map_congr_left this,List.map_id']
   generalize (R.map fun x=>x / (p:Int))=S at eS
   have hp0:(p:Int)≠0:=by lia
   have ge:∀i,(mulL R g).getD i 0=(p:Int)*(mulL S g).getD i 0:=fun i=>by
    rw[<-eS]
    have:aG (mulL (S.map fun y=>(p:Int)*y) g)=aG ((mulL S g).map fun y=>(p:Int)*y):=by
     rw[fI,du,du,fI];grind
    rw[mH this,eH _ (by lia)]
   have hS:=ih e (by
    have:e*1<e*p:=Nat.mul_lt_mul_of_pos_left (by lia) he
    rw[Nat.mul_comm p e];lia) he S fun i=>by
    have:=h i
    rw[ge,Int.natCast_mul] at this
    exact Int.dvd_of_mul_dvd_mul_left hp0 this
   intro i
   rw[<-eS,eH _ (by lia),Int.natCast_mul]
   exact Int.mul_dvd_mul_left _ (hS i)
theorem jB{T g:aQ}(hg:bZ g=1){f:PF}(h:aG T=f*aG g):∃A:aQ,Trim A/\aG A=f:=by
 obtain⟨M,R,hM,tR,eR⟩:=qN f
 have d:zx (M:Int) (mulL R g):=fun i=>by
  have:aG (mulL R g)=aG (T.map fun y=>(M:Int)*y):=by
   rw[fI,du,<-eR,h]
   have:((M:Int):Rat)=(M:Rat):=Rat.intCast_natCast M
   rw[this];grind
  rw[mH this,eH _ (by lia)]
  exact Int.dvd_mul_right _ _
 have dR:=Qr hg M hM R d
 have eS:(R.map fun x=>x / (M:Int)).map (fun y=>(M:Int)*y)=R:=by
  rw[List.map_map]
  have:∀x∈R,((fun y=>(M:Int)*y) ∘ fun x=>x / (M:Int)) x=x:=fun x hx=>Int.mul_ediv_cancel' (dR.mem x hx)
  rw[List.map_congr_left this,List.map_id']
 refine⟨Gi (R.map fun x=>x / (M:Int)),jK _,?_⟩
 rw[tS]
 have e:=du (M:Int) (R.map fun x=>x / (M:Int))
 rw[eS,<-eR] at e
 have:((M:Int):Rat)=(M:Rat):=Rat.intCast_natCast M
 rw[this] at e
 exact(PF.tP (gm (rS hM)) _ _ e).symm
theorem CV(k:Nat)(l:aQ)(x:Rat):(aG (List.replicate k 0 ++ l)).f x=x^k*(aG l).f x:=by
 induction k with
 |zero=>
  show(aG l).f x=x^0*_
  grind
 |succ k ih=>
  rw[List.replicate_succ,List.cons_append,bD,ih]
  have:x^(k+1)=x^k*x:=Rat.pow_succ x k
  rw[this];grind
def rV(k:Nat):PF:=aG (List.replicate k 0 ++ [1])
theorem Jf(k:Nat)(l:aQ):aG (List.replicate k 0 ++ l)=rV k*aG l:=PF.ext fun x=>by
 rw[CV]
 show _=(aG (List.replicate k 0 ++ [1])).f x*_
 rw[CV]
 show _=x^k*(((1:Int):Rat)+x*0)*_
 grind
theorem HS(k:Nat)(l:aQ)(i:Nat)(h:k<=i):(List.replicate k 0 ++ l).getD i 0=l.getD (i - k) 0:=by
 rw[gDe,List.getElem?_append_right (by rw[List.length_replicate];lia),List.length_replicate,<-gDe]
theorem xQ(c:aQ)(n:Nat)(h:c.getD n 0=0):pN c (n+1)<=n:=by
 show(if c.getD n 0=0 then pN c n else n+1)<=n
 rw[if_pos h]
 exact yr c n
theorem zy{rest right:aQ}(h:right.length<=rest.length)(hr:right≠[]):
  PF.const ((lc right:Int):Rat)*aG rest=(PF.const ((lc rest:Int):Rat)*rV (rest.length - right.length))*aG right+aG (hU rest right)/\(hU rest right).length<rest.length/\Trim (hU rest right):=by
 have pr:0<right.length:=List.length_pos_iff.mpr hr
 refine⟨?_,?_,jK _⟩
 ·unfold hU
  rw[mI,du,Jf,du];grind
 ·unfold hU pO yU
  rw[yt]
  have ll:(eh (rest.map fun x=>lc right*x) (HK (List.replicate (rest.length - right.length) 0 ++ right.map fun y=>lc rest*y))).length=(rest.length - 1)+1:=by
   rw[fH,tV,List.length_append,List.length_replicate,lMp,lMp];lia
  rw[ll]
  refine Nat.lt_of_le_of_lt (xQ _ _ ?_) (by lia)
  rw[eV,eH _ (by lia)]
  unfold HK
  rw[eH _ (by lia),HS _ _ _ (by lia),eH _ (by lia)]
  have e:rest.length - 1 - (rest.length - right.length)=right.length - 1:=by lia
  rw[e]
  show lc right*lc rest+ -(lc rest*lc right)=0
  rw[Int.mul_comm];lia
theorem uh{right:aQ}(hr:right≠[])(tr:Trim right):∀(f:Nat) (rest:aQ),Trim rest->rest.length<f->∃(k:Rat) (q:PF),k≠0/\PF.const k*aG rest=q*aG right+aG (vP f rest right)/\(vP f rest right).length<right.length/\Trim (vP f rest right)
 |0,rest,_,h=>by lia
 |f+1,rest,t,h=>by
  unfold vP
  by_cases q:rest.length<right.length
  ·rw[if_pos q]
   exact⟨1,0,by decide,by rw[cX];grind,q,t⟩
  ·rw[if_neg q]
   obtain⟨e1,e2,e3⟩:=zy (rest:=rest) (right:=right) (by lia) hr
   obtain⟨k,u,hk,e4,e5,e6⟩:=uh hr tr f (hU rest right) e3 (by lia)
   refine⟨k*((lc right:Int):Rat),PF.const k*(PF.const ((lc rest:Int):Rat)*rV (rest.length - right.length))+u,?_,?_,e5,e6⟩
   ·intro z
    rcases Rat.mul_eq_zero.mp z with z |z
    ·exact hk z
    ·exact nu (bO.mp tr hr) z
   ·rw[jA]
    have:PF.const k*PF.const ((lc right:Int):Rat)*aG rest=PF.const k*(PF.const ((lc right:Int):Rat)*aG rest):=by grind
    rw[this,e1]
    have:PF.const k*((PF.const ((lc rest:Int):Rat)*rV (rest.length - right.length))*aG right+aG (hU rest right))=PF.const k*((PF.const ((lc rest:Int):Rat)*rV (rest.length - right.length))*aG right)+PF.const k*aG (hU rest right):=by grind
    rw[this,e4]
    grind
structure Span(T B l s:PF):Prop where
 Mr:∃p q:PF,l=p*T+q*B
 Qs:∃p q:PF,s=p*T+q*B
 Ov:∃p q:PF,T=p*l+q*s
 Ow:∃p q:PF,B=p*l+q*s
theorem HU{T B:PF}:∀(f:Nat) (l s:aQ),s.length<f->Trim l->Trim s->l≠[]->bZ l=1->(s≠[]->bZ s=1)->Span T B (aG l) (aG s)->Trim (xP f l s)/\xP f l s≠[]/\bZ (xP f l s)=1/\(∃p q:PF,aG (xP f l s)=p*T+q*B)/\(∃p:PF,T=p*aG (xP f l s))/\∃p:PF,B=p*aG (xP f l s)
 |0,l,s,h,_,_,_,_,_,_=>by lia
 |f+1,l,s,h,tl,ts,hl,gl,gs,S=>by
  unfold xP
  by_cases q:s=[]
  ·rw[if_pos q]
   subst q
   obtain⟨p1,q1,e1⟩:=S.Ov
   obtain⟨p2,q2,e2⟩:=S.Ow
   have z:aG []=0:=rfl
   exact⟨tl,hl,gl,S.Mr,⟨p1,by rw[e1,z];grind⟩,p2,by rw[e2,z];grind⟩
  ·rw[if_neg q]
   obtain⟨k,u,hk,e,hlen,tw⟩:=uh q ts (l.length+1) l tl (by lia)
   have pr:=zo (c5 l s)
   change PF.const k*aG l=u*aG s+aG (c5 l s) at e
   change (c5 l s).length<s.length at hlen
   change Trim (c5 l s) at tw
   obtain⟨lp,lq,el⟩:=S.Mr
   obtain⟨sp,sq,es⟩:=S.Qs
   obtain⟨Tp,Tq,eT⟩:=S.Ov
   obtain⟨Bp,Bq,eB⟩:=S.Ow
   have ki:=mK hk
   have el2:aG l=(PF.const (1 / k)*u)*aG s+(PF.const (1 / k)*PF.const ((cont (c5 l s):Int):Rat))*aG (prim (c5 l s)):=by
    have:aG l=PF.const (1 / k)*(PF.const k*aG l):=by grind
    rw[this,e,<-pr];grind
   refine HU f s (prim (c5 l s)) (by rw[c6];lia) ts (d3 tw) q (gs q) (fun hn=>zw tw fun z=>hn (by rw[z];rfl)) ⟨⟨sp,sq,es⟩,?_,?_,?_⟩
   ·by_cases z:c5 l s=[]
    ·refine⟨0,0,?_⟩
     rw[z]
     show(0:PF)=_
     grind
    ·have hc:((cont (c5 l s):Int):Rat)≠0:=nu (by
      rw[gw]
      have:=fK tw z
      lia)
     have ci:=mK hc
     refine⟨PF.const (1 / ((cont (c5 l s):Int):Rat))*(PF.const k*lp - u*sp),PF.const (1 / ((cont (c5 l s):Int):Rat))*(PF.const k*lq - u*sq),?_⟩
     have e2:aG (prim (c5 l s))=PF.const (1 / ((cont (c5 l s):Int):Rat))*aG (c5 l s):=by rw[<-pr];grind
     have e3:aG (c5 l s)=PF.const k*aG l - u*aG s:=by rw[e];grind
     rw[e2,e3,el,es];grind
   ·refine⟨Tp*(PF.const (1 / k)*u)+Tq,Tp*(PF.const (1 / k)*PF.const ((cont (c5 l s):Int):Rat)),?_⟩
    have:Tp*aG l+Tq*aG s=Tp*((PF.const (1 / k)*u)*aG s+(PF.const (1 / k)*PF.const ((cont (c5 l s):Int):Rat))*aG (prim (c5 l s)))+Tq*aG s:=by rw[<-el2]
    rw[eT,this];grind
   ·refine⟨Bp*(PF.const (1 / k)*u)+Bq,Bp*(PF.const (1 / k)*PF.const ((cont (c5 l s):Int):Rat)),?_⟩
    have:Bp*aG l+Bq*aG s=Bp*((PF.const (1 / k)*u)*aG s+(PF.const (1 / k)*PF.const ((cont (c5 l s):Int):Rat))*aG (prim (c5 l s)))+Bq*aG s:=by rw[<-el2]
    rw[eB,this];grind
theorem Gq{T B:aQ}(tT:Trim T)(tB:Trim B)(hT:T≠[]):
  Trim (lg T B)/\lg T B≠[]/\bZ (lg T B)=1/\(∃p q:PF,aG (lg T B)=p*aG T+q*aG B)/\(∃p:PF,aG T=p*aG (lg T B))/\∃p:PF,aG B=p*aG (lg T B):=by
 have hc:((cont T:Int):Rat)≠0:=nu (by
  rw[gw]
  have:=fK tT hT
  lia)
 have ci:=mK hc
 have pT:=zo T
 have pB:=zo B
 refine HU (B.length+1) (prim T) (prim B) (by rw[c6];lia) (d3 tT) (d3 tB) (fun e=>hT (by
  have:=congrArg List.length e
  rw[c6] at this
  exact List.length_eq_zero_iff.mp (by simpa using this))) (zw tT hT) (fun hn=>zw tB fun z=>hn (by rw[z];rfl)) ⟨⟨PF.const (1 / ((cont T:Int):Rat)),0,by rw[<-pT];grind⟩,?_,⟨PF.const ((cont T:Int):Rat),0,by rw[pT];grind⟩,⟨0,PF.const ((cont B:Int):Rat),by rw[pB];grind⟩⟩
 by_cases z:B=[]
 ·refine⟨0,0,?_⟩
  rw[z]
  show(0:PF)=_
  grind
 ·have hcB:((cont B:Int):Rat)≠0:=nu (by
   rw[gw]
   have:=fK tB z
   lia)
  have ciB:=mK hcB
  exact⟨0,PF.const (1 / ((cont B:Int):Rat)),by rw[<-pB];grind⟩
end ai
namespace ai
open Lean.Grind
open Wh (valueAt addPoly scalePoly mulPoly subPoly)
structure Canon(u d:PF)(N D:aQ):Prop where
 tN:Trim N
 tD:Trim D
 nN:N≠[]
 nD:D≠[]
 eq:aG N*d=u*aG D
 Ox:∃p q:PF,p*aG N+q*aG D=1
 gcd:Nat.gcd (bZ N) (bZ D)=1
 pos:0<lc D
theorem Canon.scale{u d:PF}{N D:aQ}(C:Canon u d N D)(c:PF):Canon (c*u) (c*d) N D:=
 ⟨C.tN,C.tD,C.nN,C.nD,by have:=C.eq;grind,C.Ox,C.gcd,C.pos⟩
theorem ny{l:aQ}(t:Trim l)(h:l≠[]):aG l≠0:=fun e=>h ((bW t).mp e)
theorem ED{D E:aQ}(tD:Trim D)(tE:Trim E)(hD:D≠[])(hE:E≠[]){r s:PF}(h1:aG E=r*aG D)(h2:aG D=s*aG E):∃(c:Int) (M:Nat),0<M/\c≠0/\PF.const (M:Rat)*aG E=PF.const ((c:Int):Rat)*aG D:=by
 obtain⟨M,R,hM,tR,eR⟩:=qN r
 have hr:r≠0:=fun z=>ny tE hE (by rw[h1,z];grind)
 have hs:s≠0:=fun z=>ny tD hD (by rw[h2,z];grind)
 have hR:R≠[]:=fun q=>by
  rw[q] at eR
  exact PF.vO (gm (rS hM)) hr eR
 have l0:Dg (PF.const 1*(s*aG E)) D.length:=by
  have:PF.const 1*(s*aG E)=aG D:=by rw[cX,<-h2];grind
  rw[this];exact CT D
 have l1:E.length<=D.length:=zm tE hE hs (c:=1) (by decide) l0
 have e3:aG (de R D)=aG (E.map fun y=>(M:Int)*y):=by
  rw[gj,du,<-eR,h1]
  have:((M:Int):Rat)=(M:Rat):=Rat.intCast_natCast M
  rw[this];grind
 have e4:de R D=E.map fun y=>(M:Int)*y:=kZ (mJ tR tD) (KH _ (by lia) (fun x hx=>Int.mul_ne_zero (by lia) hx) tE) e3
 have l2:=congrArg List.length e4
 rw[tW hR hD,lMp] at l2
 have pR:0<R.length:=List.length_pos_iff.mpr hR
 have pD:0<D.length:=List.length_pos_iff.mpr hD
 have lR:R.length=1:=by lia
 obtain⟨c,rfl⟩:=List.length_eq_one_iff.mp lR
 refine⟨c,M,hM,fun z=> ?_,?_⟩
 ·have:=bO.mp tR (by simp)
  exact this (by rw[z];rfl)
 ·have e5:aG [c]=PF.const ((c:Int):Rat):=PF.ext fun x=>by
   rw[bD]
   show(c:Rat)+x*0=(c:Rat)
   grind
  rw[h1,<-e5,<-eR];grind
theorem zz{l m:aQ}{a b:Int}(h:PF.const ((a:Int):Rat)*aG l=PF.const ((b:Int):Rat)*aG m)(i:Nat):a*l.getD i 0=b*m.getD i 0:=by
 rw[<-du,<-du] at h
 have e:=mH h i
 rwa [eH _ (by lia),eH _ (by lia)] at e
theorem ui{l m:aQ}{a b:Int}(h:PF.const ((a:Int):Rat)*aG l=PF.const ((b:Int):Rat)*aG m):∀x∈m,a ∣ b*x:=fun x hx=>by
 obtain⟨i,hi,e⟩:=List.getElem_of_mem hx
 have:=zz h i
 rw[gDe (l:=m),List.getElem?_eq_getElem hi] at this
 simp only[Option.getD_some,e] at this
 exact⟨_,this.symm⟩
theorem Canon.unique{u d:PF}(hd:d≠0){N D N' D':aQ}(C:Canon u d N D)(C':Canon u d N' D'):N=N'/\D=D':=by
 have tP:=PF.tP hd
 have cross:aG N*aG D'=aG N' *aG D:=by
  refine tP _ _ ?_
  have e1:=C.eq
  have e2:=C'.eq
  have:d*(aG N*aG D')=(aG N*d)*aG D':=by grind
  rw[this,e1]
  have:d*(aG N' *aG D)=(aG N' *d)*aG D:=by grind
  rw[this,e2];grind
 obtain⟨p,q,b1⟩:=C.Ox
 obtain⟨p',q',b2⟩:=C'.Ox
 have h1:aG D'=(p*aG N' +q*aG D')*aG D:=by
  have:aG D'=aG D' *(p*aG N+q*aG D):=by rw[b1];grind
  rw[this]
  have:aG D' *(p*aG N+q*aG D)=p*(aG N*aG D')+q*aG D*aG D':=by grind
  rw[this,cross];grind
 have h2:aG D=(p' *aG N+q' *aG D)*aG D':=by
  have:aG D=aG D*(p' *aG N' +q' *aG D'):=by rw[b2];grind
  rw[this]
  have:aG D*(p' *aG N' +q' *aG D')=p' *(aG N' *aG D)+q' *aG D' *aG D:=by grind
  rw[this,<-cross];grind
 obtain⟨c,M,hM,hc,eD⟩:=ED C.tD C'.tD C.nD C'.nD h1 h2
 have hMr:((M:Int):Rat)=(M:Rat):=Rat.intCast_natCast M
 rw[<-hMr] at eD
 have eN:PF.const ((M:Int):Rat)*aG N'=PF.const ((c:Int):Rat)*aG N:=by
  refine PF.tP (ny C.tD C.nD) _ _ ?_
  have:aG D*(PF.const ((M:Int):Rat)*aG N')=PF.const ((M:Int):Rat)*(aG N' *aG D):=by grind
  rw[this,<-cross]
  have:PF.const ((M:Int):Rat)*(aG N*aG D')=aG N*(PF.const ((M:Int):Rat)*aG D'):=by grind
  rw[this,eD];grind
 have cn:0<c.natAbs:=Int.natAbs_pos.mpr hc
 have d1:M ∣ c.natAbs:=by
  have g:M ∣ c.natAbs*bZ (N ++ D):=ug fun x hx=>by
   have:(M:Int) ∣ c*x:=by
    rcases List.mem_append.mp hx with h |h
    ·exact ui eN x h
    ·exact ui eD x h
   rcases Int.natAbs_eq c with e |e
   ·rwa [<-e]
   ·rw[e,Int.neg_mul] at this
    exact Int.dvd_neg.mp this
  rwa [pV,C.gcd,Nat.mul_one] at g
 have d2:c.natAbs ∣ M:=by
  have g:c.natAbs ∣ M*bZ (N' ++ D'):=ug fun x hx=>by
   have:c ∣ (M:Int)*x:=by
    rcases List.mem_append.mp hx with h |h
    ·exact ui eN.symm x h
    ·exact ui eD.symm x h
   exact Int.natAbs_dvd.mpr this
  rwa [pV,C'.gcd,Nat.mul_one] at g
 have eM:M=c.natAbs:=Nat.dvd_antisymm d1 d2
 have ln:D'.length=D.length:=by
  have a1:=rT C'.tD (c:=((M:Int):Rat)) (nu (by lia)) (e:=D.length) (by rw[eD];exact(CT D).smul _)
  have a2:=rT C.tD (c:=((c:Int):Rat)) (nu hc) (e:=D'.length) (by rw[<-eD];exact(CT D').smul _)
  lia
 have lcs:(M:Int)*lc D'=c*lc D:=by
  have:=zz eD (D.length - 1)
  unfold lc
  rw[ln]
  exact this
 have cpos:0<c:=by
  have h1:0<(M:Int)*lc D':=Int.mul_pos (by lia) C'.pos
  rw[lcs] at h1
  rcases Int.lt_trichotomy c 0 with h |h |h
  ·have:=Int.mul_neg_of_neg_of_pos h C.pos
   lia
  ·exact absurd h hc
  ·exact h
 have eMc:(M:Int)=c:=by lia
 rw[eMc] at eD eN
 exact⟨(kZ C'.tN C.tN (PF.tP (gm (nu hc)) _ _ eN)).symm,(kZ C'.tD C.tD (PF.tP (gm (nu hc)) _ _ eD)).symm⟩
theorem uj{l:aQ}{f:Int}(hf:f≠0)(h:∀x∈l,f ∣ x):(l.map fun x=>x.fdiv f).map (fun y=>f*y)=l:=by
 rw[List.map_map]
 have:∀x∈l,((fun y=>f*y) ∘ fun x=>x.fdiv f) x=x:=fun x hx=>Int.mul_fdiv_cancel' (h x hx)
 rw[List.map_congr_left this,List.map_id']
theorem KN(f:Int->Int)(h0:f 0=0)(l:aQ):lc (l.map f)=f (lc l):=by
 unfold lc
 rw[eH f h0,lMp]
theorem zA(f:Int){L:aQ}:∀{M:aQ},M.map (fun y=>f*y)=L->bZ L=f.natAbs*bZ M:=by
 intro M
 induction M generalizing L with
 |nil=>intro e;rw[<-e];exact(Nat.mul_zero _).symm
 |cons a M ih=>intro e;rw[<-e,List.map_cons,mL,mL,Int.natAbs_mul,ih rfl,Nat.gcd_mul_left]
theorem EE{u d:PF}{A B:aQ}(tA:Trim A)(tB:Trim B)(hA:A≠[])(hB:B≠[])(eq:aG A*d=u*aG B)(Ox:∃p q:PF,p*aG A+q*aG B=1){f:Int}(hf:f.natAbs=Nat.gcd (bZ A) (bZ B))(hs:0<f*lc B):
  Canon u d (A.map fun x=>x.fdiv f) (B.map fun x=>x.fdiv f):=by
 have pA:=fK tA hA
 have f0:f≠0:=fun z=>by
  rw[z] at hs
  simp at hs
 have dA:∀x∈A,f ∣ x:=fun x hx=>Int.natAbs_dvd.mp (by rw[hf];exact Int.dvd_trans (Int.natCast_dvd_natCast.mpr (Nat.gcd_dvd_left _ _)) (iZ hx))
 have dB:∀x∈B,f ∣ x:=fun x hx=>Int.natAbs_dvd.mp (by rw[hf];exact Int.dvd_trans (Int.natCast_dvd_natCast.mpr (Nat.gcd_dvd_right _ _)) (iZ hx))
 have sA:=uj f0 dA
 have sB:=uj f0 dB
 have e0:(0:Int).fdiv f=0:=Int.zero_fdiv f
 generalize hN:(A.map fun x=>x.fdiv f)=N at sA⊢
 generalize hD:(B.map fun x=>x.fdiv f)=D at sB⊢
 have oA:aG A=PF.const ((f:Int):Rat)*aG N:=by rw[<-du,sA]
 have oB:aG B=PF.const ((f:Int):Rat)*aG D:=by rw[<-du,sB]
 have lA:lc A=f*lc N:=by rw[<-sA];exact KN _ (by lia) N
 have lB:lc B=f*lc D:=by rw[<-sB];exact KN _ (by lia) D
 have tN:Trim N:=bO.mpr fun _ z=>bO.mp tA hA (by rw[lA,z];lia)
 have tD:Trim D:=bO.mpr fun _ z=>bO.mp tB hB (by rw[lB,z];lia)
 have nN:N≠[]:=fun z=>hA (by rw[<-sA,z];rfl)
 have nD:D≠[]:=fun z=>hB (by rw[<-sB,z];rfl)
 refine⟨tN,tD,nN,nD,?_,?_,?_,?_⟩
 ·refine PF.tP (gm (nu f0)) _ _ ?_
  rw[oA,oB] at eq
  grind
 ·obtain⟨p,q,b⟩:=Ox
  rw[oA,oB] at b
  exact⟨p*PF.const ((f:Int):Rat),q*PF.const ((f:Int):Rat),by rw[<-b];grind⟩
 ·
  have g1:=zA f sA
  have g2:=zA f sB
  rw[g1,g2,Nat.gcd_mul_left] at hf
  have pf:0<f.natAbs:=Int.natAbs_pos.mpr f0
  rcases Nat.lt_or_ge (Nat.gcd (bZ N) (bZ D)) 2 with r |r
  ·have:Nat.gcd (bZ N) (bZ D)≠0:=fun z=>by
    rw[z] at hf
    lia
   lia
  ·have:f.natAbs*2<=f.natAbs*Nat.gcd (bZ N) (bZ D):=Nat.mul_le_mul_left _ r
   lia
 ·rw[lB] at hs
  have e:f*(f*lc D)=(f*f)*lc D:=by rw[Int.mul_assoc]
  rw[e] at hs
  have ff:0<=f*f:=by
   rcases Int.le_total 0 f with h |h
   ·exact Int.mul_nonneg h h
   ·exact Int.mul_nonneg_of_nonpos_of_nonpos h h
  rcases Int.lt_or_le 0 (lc D) with h |h
  ·exact h
  ·have:=Int.mul_nonpos_of_nonneg_of_nonpos ff h
   lia
theorem KO{T B:aQ}(tT:Trim T)(tB:Trim B)(hT:T≠[])(hB:B≠[]):∃N D,Canon (aG T) (aG B) N D/\lh T B=((N.length:Int)::N.reverse) ++ ((D.length:Int)::D.reverse):=by
 obtain⟨tg,hg,gg,⟨p,q,eg⟩,⟨a,ea⟩,⟨b,eb⟩⟩:=Gq tT tB hT
 obtain⟨A,tA,oA⟩:=jB gg ea
 obtain⟨Bq,tBq,oB⟩:=jB gg eb
 have dA:ja T (lg T B)=A:=lj tT tg tA hg (by rw[oA];exact ea)
 have dB:ja B (lg T B)=Bq:=lj tB tg tBq hg (by rw[oB];exact eb)
 have hA:A≠[]:=fun z=>hT ((bW tT).mp (by
  rw[ea,<-oA,z]
  show(0:PF)*_=0
  grind))
 have hBq:Bq≠[]:=fun z=>hB ((bW tB).mp (by
  rw[eb,<-oB,z]
  show(0:PF)*_=0
  grind))
 have Ox:∃p q:PF,p*aG A+q*aG Bq=1:=⟨p,q,by
  refine PF.tP (ny tg hg) _ _ ?_
  have e1:aG (lg T B)*(p*aG A+q*aG Bq)=p*(a*aG (lg T B))+q*(b*aG (lg T B)):=by rw[oA,oB];grind
  rw[e1,<-ea,<-eb,<-eg];grind⟩
 have eq:aG A*aG B=aG T*aG Bq:=by rw[ea,eb,oA,oB];grind
 have nlc:=bO.mp tBq hBq
 have pB:=fK tBq hBq
 have pg:0<Nat.gcd (bZ A) (bZ Bq):=Nat.gcd_pos_of_pos_right _ pB
 have eg':m9 (cont A) (cont Bq)=(Nat.gcd (bZ A) (bZ Bq):Int):=by
  unfold m9
  rw[gw,gw,Int.natAbs_natCast,Int.natAbs_natCast]
 unfold lh
 dsimp only
 rw[if_neg hT,dA,dB,eg']
 generalize hf:(if lc Bq<0 then -(Nat.gcd (bZ A) (bZ Bq):Int) else(Nat.gcd (bZ A) (bZ Bq):Int))=f
 have fn:f.natAbs=Nat.gcd (bZ A) (bZ Bq):=by
  rw[<-hf]
  split <;>lia
 have fs:0<f*lc Bq:=by
  rw[<-hf]
  split
  ·rename_i h
   exact Int.mul_pos_of_neg_of_neg (by lia) h
  ·exact Int.mul_pos (by lia) (by lia)
 refine⟨_,_,EE tA tBq hA hBq eq Ox fn fs,?_⟩
 unfold oF
 rw[lMp,lMp,List.map_reverse,List.map_reverse]
theorem cF(p:List Rat):bL (Wh.trim p)=bL p:=PF.ext fun x=>yx p x
theorem pX:∀(q:List Rat),(q.dropWhile fun x:Rat=>decide (x=0))=[]\/∃a r,(q.dropWhile fun x:Rat=>decide (x=0))=a::r/\a≠0
 |[]=> .inl rfl
 |a::q=>by
  by_cases h:a=0
  ·rw[List.dropWhile_cons_of_pos (by simpa using h)]
   exact pX q
  ·rw[List.dropWhile_cons_of_neg (by simpa using h)]
   exact .inr ⟨a,q,rfl,h⟩
def BK(p:List Rat):Prop:=p≠[]->p.getD (p.length - 1) 0≠0
theorem ib(p:List Rat):BK (Wh.trim p):=by
 intro h
 unfold Wh.trim at h⊢
 rcases pX p.reverse with e |⟨a,r,e,ha⟩
 ·rw[e] at h
  exact absurd rfl h
 ·rw[e]
  rw[List.reverse_cons,List.length_append,List.length_reverse,gDe]
  simp only[List.length_cons,List.length_nil]
  rw[List.getElem?_append_right (by rw[List.length_reverse];lia)]
  simp only[List.length_reverse]
  have:r.length+(0+1) - 1 - r.length=0:=by lia
  rw[this]
  exact ha
theorem CW(p:List Rat):Wh.lead p=(Wh.trim p).getD ((Wh.trim p).length - 1) 0:=by
 unfold Wh.lead
 rw[List.getLast?_eq_getElem?,gDe]
theorem jM(p:List Rat):Wh.isZero p=true↔Wh.trim p=[]:=by
 unfold Wh.isZero
 exact List.isEmpty_iff
theorem Gr{p:List Rat}(t:BK p):bL p=0↔p=[]:=by
 refine⟨fun e=> ?_,fun e=>by rw[e];rfl⟩
 by_cases h:p=[]
 ·exact h
 ·have z:vM p:=yT fun x=>by
   have:=congrArg (fun q:PF=>q.f x) e
   exact this
  exact absurd (z.get _) (t h)
theorem jN(p:List Rat):Wh.isZero p=true↔bL p=0:=by
 rw[jM,<-cF p,Gr (ib p)]
theorem KP(k:Nat)(p:List Rat)(x:Rat):valueAt (Wh.shifted k p) x=x^k*valueAt p x:=by
 unfold Wh.shifted
 induction k with
 |zero=>
  show valueAt p x=x^0*_
  grind
 |succ k ih=>
  rw[List.replicate_succ,List.cons_append,dU,ih]
  have:x^(k+1)=x^k*x:=Rat.pow_succ x k
  rw[this];grind
theorem Oy(k:Nat)(x:Rat):(rV k).f x=x^k:=by
 unfold rV
 rw[CV]
 show x^k*(((1:Int):Rat)+x*0)=_
 grind
theorem vT(k:Nat)(p:List Rat):bL (Wh.shifted k p)=rV k*bL p:=PF.ext fun x=>by
 rw[HJ,KP,PF.KG,Oy];rfl
theorem vU(c:Rat)(p:List Rat):bL (scalePoly c p)=PF.const c*bL p:=PF.ext fun x=>eQ c p x
theorem HV(p q:List Rat):bL (addPoly p q)=bL p+bL q:=PF.ext fun x=>l6 p q x
theorem CY(p q:List Rat):bL (subPoly p q)=bL p - bL q:=by
 unfold Wh.subPoly
 rw[HV,vU]
 exact PF.ext fun x=>by
  show(bL p).f x+(-1)*(bL q).f x=(bL p).f x - (bL q).f x
  grind
theorem um{p:List Rat}{e:Nat}(h:Dg (bL p) e):(Wh.trim p).length<=e:=by
 obtain⟨m,hm,hle⟩:=h
 refine Nat.le_trans (Nat.le_of_not_lt fun lt=> ?_) hle
 have hl0:Wh.trim p≠[]:=fun q=>by rw[q] at lt;exact absurd lt (by simp)
 have ec:=BC (p:=m) (q:=Wh.trim p) (fun x=>by
  have:=congrArg (fun q:PF=>q.f x) (hm.trans (cF p).symm)
  exact this) ((Wh.trim p).length - 1)
 rw[gDe,List.getElem?_eq_none (by lia)] at ec
 exact ib p hl0 ec.symm
theorem Oz(p:List Rat):Dg (bL p) (Wh.trim p).length:=⟨Wh.trim p,cF p,Nat.le_refl _⟩
theorem Ms{p:List Rat}(h:Wh.trim p≠[]):Wh.lead p≠0:=by rw[CW];exact ib p h
theorem Gs{p q:List Rat}(hp:Wh.trim p≠[])(hq:Wh.trim q≠[])(h:(Wh.trim q).length<=(Wh.trim p).length):
  bL p=(PF.const (Wh.lead p / Wh.lead q)*rV ((Wh.trim p).length - (Wh.trim q).length))*bL q+bL (Wh.lowered p q)/\(Wh.trim (Wh.lowered p q)).length<(Wh.trim p).length:=by
 have pp:0<(Wh.trim p).length:=List.length_pos_iff.mpr hp
 have pq:0<(Wh.trim q).length:=List.length_pos_iff.mpr hq
 have e:bL (Wh.lowered p q)=bL p - PF.const (Wh.lead p / Wh.lead q)*(rV ((Wh.trim p).length - (Wh.trim q).length)*bL q):=by
  unfold Wh.lowered
  rw[cF,CY,vU,vT,cF]
 refine⟨by rw[e];grind,?_⟩
 have dg:Dg (bL (Wh.lowered p q)) ((Wh.trim p).length - 1):=by
  let r:=subPoly (Wh.trim p) (scalePoly (Wh.lead p / Wh.lead q) (Wh.shifted ((Wh.trim p).length - (Wh.trim q).length) (Wh.trim q)))
  have lr:r.length=(Wh.trim p).length:=by
   show(addPoly (Wh.trim p) (scalePoly (-1) (scalePoly _ (Wh.shifted _ _)))).length=_
   rw[fJ]
   unfold Wh.scalePoly Wh.shifted
   simp only[lMp,List.length_append,List.length_replicate]
   lia
  have er:bL r=bL (Wh.lowered p q):=by
   show bL (subPoly _ _)=_
   rw[CY,vU,vT,cF,cF,e]
  have zr:r.getD ((Wh.trim p).length - 1) 0=0:=by
   show(addPoly (Wh.trim p) (scalePoly (-1) (scalePoly _ (Wh.shifted _ _)))).getD _ 0=0
   rw[pM,jx,jx]
   have es:(Wh.shifted ((Wh.trim p).length - (Wh.trim q).length) (Wh.trim q)).getD ((Wh.trim p).length - 1) 0=Wh.lead q:=by
    unfold Wh.shifted
    rw[gDe,List.getElem?_append_right (by rw[List.length_replicate];lia),List.length_replicate,<-gDe,CW]
    have:(Wh.trim p).length - 1 - ((Wh.trim p).length - (Wh.trim q).length)=(Wh.trim q).length - 1:=by lia
    rw[this]
   rw[es,<-CW]
   have:=Ms hq
   grind
  refine⟨r.take ((Wh.trim p).length - 1),?_,by rw[List.length_take];lia⟩
  rw[<-er]
  have ev:∀(l:List Rat) (n:Nat),l.length=n+1->l.getD n 0=0->∀x,valueAt (l.take n) x=valueAt l x:=by
   intro l
   induction l with
   |nil=>intro n h;simp at h
   |cons a l ih=>
    intro n h hz x
    cases n with
    |zero=>
     have:l=[]:=List.length_eq_zero_iff.mp (by simpa using h)
     subst this
     have:a=0:=hz
     subst this
     show(0:Rat)=0+x*0
     grind
    |succ n=>
     rw[List.take_succ_cons,dU,dU,ih n (by simpa using h) (by simpa using hz)]
  exact PF.ext fun x=>ev r ((Wh.trim p).length - 1) (by lia) zr x
 have:=um dg
 lia
theorem zB{q:List Rat}(hq:Wh.trim q≠[]):∀(f:Nat) (p:List Rat),(Wh.trim p).length<f->bL p=bL (Wh.quotOn f p q)*bL q+bL (Wh.restOn f p q)/\(Wh.trim (Wh.restOn f p q)).length<(Wh.trim q).length
 |0,p,h=>by lia
 |f+1,p,h=>by
  have pq:0<(Wh.trim q).length:=List.length_pos_iff.mpr hq
  unfold Wh.quotOn Wh.restOn
  by_cases c:Wh.isZero p=true\/(Wh.trim p).length<(Wh.trim q).length
  ·rw[if_pos c,if_pos c]
   have tt:Wh.trim (Wh.trim p)=Wh.trim p:=by
    have l1:=um (p:=Wh.trim p) (e:=(Wh.trim p).length) ⟨Wh.trim p,rfl,Nat.le_refl _⟩
    have l2:=um (p:=p) (e:=(Wh.trim (Wh.trim p)).length) ⟨Wh.trim (Wh.trim p),by rw[cF,cF],Nat.le_refl _⟩
    refine List.ext_getElem (by lia) fun i h1 h2=> ?_
    have ec:=BC (p:=Wh.trim (Wh.trim p)) (q:=Wh.trim p) (fun x=>yx _ x) i
    simpa [gDe,List.getElem?_eq_getElem h1,List.getElem?_eq_getElem h2] using ec
   refine⟨?_,?_⟩
   ·rw[cF]
    show bL p=(0:PF)*bL q+bL p
    grind
   ·rw[tt]
    rcases c with c |c
    ·rw[(jM p).mp c];exact pq
    ·exact c
  ·rw[if_neg c,if_neg c]
   have hp:Wh.trim p≠[]:=fun z=>c (.inl ((jM p).mpr z))
   obtain⟨e1,e2⟩:=Gs hp hq (Nat.le_of_not_lt fun z=>c (.inr z))
   obtain⟨e3,e4⟩:=zB hq f (Wh.lowered p q) (by lia)
   refine⟨?_,e4⟩
   have e5:bL (Wh.shifted ((Wh.trim p).length - (Wh.trim q).length) [Wh.lead p / Wh.lead q])=PF.const (Wh.lead p / Wh.lead q)*rV ((Wh.trim p).length - (Wh.trim q).length):=by
    rw[vT]
    exact PF.ext fun x=>by
     show(rV _).f x*(Wh.lead p / Wh.lead q+x*0)=(Wh.lead p / Wh.lead q)*(rV _).f x
     grind
   rw[HV,e5,e1]
   have:(PF.const (Wh.lead p / Wh.lead q)*rV ((Wh.trim p).length - (Wh.trim q).length))*bL q+bL (Wh.lowered p q)=(PF.const (Wh.lead p / Wh.lead q)*rV ((Wh.trim p).length - (Wh.trim q).length))*bL q+(bL (Wh.quotOn f (Wh.lowered p q) q)*bL q+bL (Wh.restOn f (Wh.lowered p q) q)):=by rw[<-e3]
   rw[this];grind
theorem Jg(p:List Rat):Wh.trim (Wh.trim p)=Wh.trim p:=by
 have l1:=um (p:=Wh.trim p) (e:=(Wh.trim p).length) ⟨Wh.trim p,rfl,Nat.le_refl _⟩
 have l2:=um (p:=p) (e:=(Wh.trim (Wh.trim p)).length) ⟨Wh.trim (Wh.trim p),by rw[cF,cF],Nat.le_refl _⟩
 refine List.ext_getElem (by lia) fun i h1 h2=> ?_
 have ec:=BC (p:=Wh.trim (Wh.trim p)) (q:=Wh.trim p) (fun x=>yx _ x) i
 simpa [gDe,List.getElem?_eq_getElem h1,List.getElem?_eq_getElem h2] using ec
theorem EF{q:List Rat}(hq:Wh.trim q≠[])(p:List Rat):bL p=bL (Wh.quot p q)*bL q+bL (Wh.rest p q)/\(Wh.trim (Wh.rest p q)).length<(Wh.trim q).length:=by
 have:=zB hq ((Wh.trim p).length+1) (Wh.trim p) (by rw[Jg];lia)
 rw[cF] at this
 exact this
theorem EG{T B:PF}:∀(f:Nat) (l s:List Rat),(Wh.trim s).length<f->Span T B (bL l) (bL s)->(∃p q:PF,bL (Wh.gcdOn f l s)=p*T+q*B)/\(∃p:PF,T=p*bL (Wh.gcdOn f l s))/\∃p:PF,B=p*bL (Wh.gcdOn f l s)
 |0,_,_,h,_=>by lia
 |f+1,l,s,h,S=>by
  unfold Wh.gcdOn
  obtain⟨Tp,Tq,eT⟩:=S.Ov
  obtain⟨Bp,Bq,eB⟩:=S.Ow
  by_cases q:Wh.isZero s=true
  ·rw[if_pos q,cF]
   have z:=(jN s).mp q
   rw[z] at eT eB
   exact⟨S.Mr,⟨Tp,by rw[eT];grind⟩,Bp,by rw[eB];grind⟩
  ·rw[if_neg q]
   have hs:Wh.trim s≠[]:=fun z=>q ((jM s).mpr z)
   obtain⟨e,hlen⟩:=EF hs l
   obtain⟨lp,lq,el⟩:=S.Mr
   obtain⟨sp,sq,es⟩:=S.Qs
   refine EG f s (Wh.rest l s) (by lia) ⟨⟨sp,sq,es⟩,⟨lp - bL (Wh.quot l s)*sp,lq - bL (Wh.quot l s)*sq,?_⟩,⟨Tp*bL (Wh.quot l s)+Tq,Tp,?_⟩,⟨Bp*bL (Wh.quot l s)+Bq,Bp,?_⟩⟩
   ·have:bL (Wh.rest l s)=bL l - bL (Wh.quot l s)*bL s:=by
     have e':bL l - bL (Wh.quot l s)*bL s=(bL (Wh.quot l s)*bL s+bL (Wh.rest l s)) - bL (Wh.quot l s)*bL s:=by rw[<-e]
     rw[e'];grind
    rw[this,el,es];grind
   ·have:Tp*bL l+Tq*bL s=Tp*(bL (Wh.quot l s)*bL s+bL (Wh.rest l s))+Tq*bL s:=by rw[<-e]
    rw[eT,this];grind
   ·have:Bp*bL l+Bq*bL s=Bp*(bL (Wh.quot l s)*bL s+bL (Wh.rest l s))+Bq*bL s:=by rw[<-e]
    rw[eB,this];grind
theorem OA(u d:List Rat):(∃p q:PF,bL (Wh.gcdPoly u d)=p*bL u+q*bL d)/\(∃p:PF,bL u=p*bL (Wh.gcdPoly u d))/\∃p:PF,bL d=p*bL (Wh.gcdPoly u d):=
 EG _ u d (by lia) ⟨⟨1,0,by grind⟩,⟨0,1,by grind⟩,⟨1,0,by grind⟩,⟨0,1,by grind⟩⟩
theorem Gu{l:List Rat}(t:BK l):∃(M:Nat) (G:aQ),0<M/\Trim G/\G.length=l.length/\PF.const (M:Rat)*bL l=aG G:=by
 obtain⟨M,G,hM,tG,e⟩:=qN (bL l)
 have ec:∀i,((G.getD i 0:Int):Rat)=(M:Rat)*l.getD i 0:=fun i=>by
  have:=BC (p:=rl G) (q:=scalePoly (M:Rat) l) (fun x=>by
   have:=congrArg (fun q:PF=>q.f x) e
   rw[eQ]
   exact this.symm) i
  rwa [CJ,jx] at this
 have l1:G.length<=l.length:=by
  have:=rT tG (c:=1) (by decide) (e:=l.length) (by
   rw[cX]
   have:(1:PF)*aG G=aG G:=by grind
   rw[this,<-e]
   exact Dg.smul _ ⟨l,rfl,Nat.le_refl _⟩)
  exact this
 refine⟨M,G,hM,tG,Nat.le_antisymm l1 (Nat.le_of_not_lt fun lt=> ?_),e⟩
 have h0:l≠[]:=fun z=>by rw[z] at lt;exact absurd lt (by simp)
 have:=ec (l.length - 1)
 rw[gDe,List.getElem?_eq_none (by lia)] at this
 have z:(M:Rat)*l.getD (l.length - 1) 0=0:=by rw[<-this];rfl
 rcases Rat.mul_eq_zero.mp z with z |z
 ·exact rS hM z
 ·exact t h0 z
theorem zC{p g:List Rat}(hg:Wh.trim g≠[]){a:PF}(h:bL p=a*bL g):bL (Wh.quot p g)=a:=by
 obtain⟨e,hlen⟩:=EF hg p
 by_cases z:a - bL (Wh.quot p g)=0
 ·grind
 ·exfalso
  obtain⟨M,G,hM,tG,lG,eG⟩:=Gu (ib g)
  rw[cF] at eG
  have nG:G≠[]:=fun q=>hg (List.length_eq_zero_iff.mp (by rw[<-lG,q];rfl))
  have er:bL (Wh.rest p g)=(a - bL (Wh.quot p g))*bL g:=by
   have:bL (Wh.rest p g)=bL p - bL (Wh.quot p g)*bL g:=by
    have e':bL p - bL (Wh.quot p g)*bL g=(bL (Wh.quot p g)*bL g+bL (Wh.rest p g)) - bL (Wh.quot p g)*bL g:=by rw[<-e]
    rw[e'];grind
   rw[this,h];grind
  have d:Dg (PF.const 1*((a - bL (Wh.quot p g))*aG G)) (Wh.trim (Wh.rest p g)).length:=by
   have:PF.const 1*((a - bL (Wh.quot p g))*aG G)=PF.const (M:Rat)*bL (Wh.rest p g):=by
    rw[cX,<-eG,er];grind
   rw[this]
   exact(Oz _).smul _
  have:=zm tG nG z (c:=1) (by decide) d
  lia
theorem xw:∀(l:List Nat) (acc:Nat),acc ∣ l.foldl Nat.lcm acc/\∀x∈l,x ∣ l.foldl Nat.lcm acc
 |[],acc=>⟨Nat.dvd_refl _,fun _ h=>by cases h⟩
 |a::l,acc=>by
  obtain⟨h1,h2⟩:=xw l (Nat.lcm acc a)
  refine⟨Nat.dvd_trans (Nat.dvd_lcm_left acc a) h1,fun x hx=> ?_⟩
  rcases List.mem_cons.mp hx with e |e
  ·subst e
   exact Nat.dvd_trans (Nat.dvd_lcm_right acc x) h1
  ·exact h2 x e
theorem lcm_pos:∀(l:List Nat) (acc:Nat),0<acc->(∀x∈l,0<x)->0<l.foldl Nat.lcm acc
 |[],_,h,_=>h
 |a::l,acc,h,hl=>lcm_pos l _ (Nat.lcm_pos h (hl a List.mem_cons_self)) fun x hx=>hl x (List.mem_cons_of_mem _ hx)
theorem BL{x:Rat}{m:Nat}(h:x.den ∣ m):(((x*(m:Rat)).num:Int):Rat)=x*(m:Rat):=by
 obtain⟨k,rfl⟩:=h
 have e:x*((x.den*k:Nat):Rat)=((x.num*(k:Int):Int):Rat):=by
  rw[Rat.natCast_mul,Rat.intCast_mul,Rat.intCast_natCast,<-HR x];grind
 rw[e,Rat.num_intCast]
theorem vV(m:Nat):∀l:List Rat,(∀x∈l,x.den ∣ m)->aG (l.map fun x:Rat=>(x*(m:Rat)).num)=PF.const (m:Rat)*bL l
 |[],_=>PF.ext fun x=>by
  show(0:Rat)=(m:Rat)*0
  grind
 |a::l,h=>PF.ext fun x=>by
  have ih:=congrArg (fun q:PF=>q.f x) (vV m l fun y hy=>h y (List.mem_cons_of_mem _ hy))
  have ih':(aG (l.map fun x:Rat=>(x*(m:Rat)).num)).f x=(m:Rat)*valueAt l x:=ih
  rw[List.map_cons,bD,ih',BL (h a List.mem_cons_self)]
  show _=(m:Rat)*(a+x*valueAt l x)
  grind
theorem Jh(m:Nat)(l:List Rat)(h:∀x∈l,x.den ∣ m)(i:Nat):(((l.map fun x:Rat=>(x*(m:Rat)).num).getD i 0:Int):Rat)=(m:Rat)*l.getD i 0:=by
 rw[gDe,gDe,List.getElem?_map]
 cases e:l[i]? with
 |none=>
  show((0:Int):Rat)=(m:Rat)*0
  grind
 |some v=>
  show(((v*(m:Rat)).num:Int):Rat)=(m:Rat)*v
  rw[BL (h v (List.mem_of_getElem? e))];grind
theorem zD{m:Nat}(hm:0<m){l:List Rat}(t:BK l)(h:∀x∈l,x.den ∣ m):Trim (l.map fun x:Rat=>(x*(m:Rat)).num):=by
 rw[bO]
 intro hl z
 have h0:l≠[]:=fun q=>hl (by rw[q];rfl)
 have e:=Jh m l h (l.length - 1)
 unfold lc at z
 rw[lMp] at z
 rw[z] at e
 have:(m:Rat)*l.getD (l.length - 1) 0=0:=by rw[<-e];rfl
 rcases Rat.mul_eq_zero.mp this with q |q
 ·exact rS hm q
 ·exact t h0 q
theorem KQ(l:aQ):Wh.gcdOf (l.map Int.natAbs)=bZ l:=by
 unfold Wh.gcdOf bZ
 rw[List.foldl_map]
theorem EH{u d:List Rat}(hu:bL u≠0)(hd:bL d≠0):Canon (bL u) (bL d) (Wh.quotient u d).num (Wh.quotient u d).den:=by
 obtain⟨⟨p,q,eg⟩,⟨a,ea⟩,⟨b,eb⟩⟩:=OA u d
 have ng:bL (Wh.gcdPoly u d)≠0:=fun z=>hu (by rw[ea,z];grind)
 have tg:Wh.trim (Wh.gcdPoly u d)≠[]:=fun z=>ng ((jN _).mp ((jM _).mpr z))
 have qa:=zC tg ea
 have qb:=zC tg eb
 have zu:¬Wh.isZero u=true:=fun z=>hu ((jN u).mp z)
 have ha:a≠0:=fun z=>hu (by rw[ea,z];grind)
 have hb:b≠0:=fun z=>hd (by rw[eb,z];grind)
 unfold Wh.quotient
 dsimp only
 rw[if_neg zu,if_neg zu]
 generalize hA:Wh.trim (Wh.quot u (Wh.gcdPoly u d))=A
 generalize hB:Wh.trim (Wh.quot d (Wh.gcdPoly u d))=B
 have oA:bL A=a:=by rw[<-hA,cF,qa]
 have oB:bL B=b:=by rw[<-hB,cF,qb]
 have tA:BK A:=by rw[<-hA];exact ib _
 have tB:BK B:=by rw[<-hB];exact ib _
 generalize hm:Wh.lcmOf ((A ++ B).map fun x:Rat=>x.den)=m
 have dm:∀x∈A ++ B,x.den ∣ m:=fun x hx=>by
  rw[<-hm]
  exact(xw _ 1).2 _ (List.mem_map.mpr ⟨x,hx,rfl⟩)
 have pm:0<m:=by
  rw[<-hm]
  exact lcm_pos _ 1 (by lia) fun x hx=>by
   obtain⟨y,_,rfl⟩:=List.mem_map.mp hx
   exact Rat.den_pos y
 have dA:∀x∈A,x.den ∣ m:=fun x hx=>dm x (List.mem_append_left _ hx)
 have dB:∀x∈B,x.den ∣ m:=fun x hx=>dm x (List.mem_append_right _ hx)
 have iA:=vV m A dA
 have iB:=vV m B dB
 have ttA:=zD pm tA dA
 have ttB:=zD pm tB dB
 generalize hA':(A.map fun x:Rat=>(x*(m:Rat)).num)=A' at iA ttA⊢
 generalize hB':(B.map fun x:Rat=>(x*(m:Rat)).num)=B' at iB ttB⊢
 have nm:=gm (rS pm)
 have hA0:A'≠[]:=fun z=>by
  rw[z,oA] at iA
  exact PF.vO nm ha iA.symm
 have hB0:B'≠[]:=fun z=>by
  rw[z,oB] at iB
  exact PF.vO nm hb iB.symm
 have nlc:=bO.mp ttB hB0
 have elast:B'.getLast?.getD 1=lc B':=by
  rw[List.getLast?_eq_getElem?]
  unfold lc
  have:0<B'.length:=List.length_pos_iff.mpr hB0
  rw[List.getElem?_eq_getElem (by lia),gDe,List.getElem?_eq_getElem (by lia)];rfl
 rw[elast,KQ,pV]
 have pg:0<Nat.gcd (bZ A') (bZ B'):=Nat.gcd_pos_of_pos_right _ (fK ttB hB0)
 generalize hf:((Nat.gcd (bZ A') (bZ B'):Nat):Int)*(if lc B' <0 then -1 else 1)=f
 have fn:f.natAbs=Nat.gcd (bZ A') (bZ B'):=by
  rw[<-hf]
  split <;>lia
 have fs:0<f*lc B':=by
  rw[<-hf]
  split
  ·rename_i h
   exact Int.mul_pos_of_neg_of_neg (by lia) h
  ·exact Int.mul_pos (by lia) (by lia)
 have f0:f≠0:=fun z=>by rw[z] at fs;simp at fs
 have cn:=EE (u:=bL u) (d:=bL d) (f:=f) ttA ttB hA0 hB0 (by rw[iA,iB,oA,oB];rw[ea,eb];grind) ⟨p*PF.const (1 / (m:Rat)),q*PF.const (1 / (m:Rat)),by
  have ci:=mK (rS pm)
  refine PF.tP ng _ _ ?_
  rw[iA,iB,oA,oB]
  have:bL (Wh.gcdPoly u d)*(p*PF.const (1 / (m:Rat))*(PF.const (m:Rat)*a)+q*PF.const (1 / (m:Rat))*(PF.const (m:Rat)*b))=(PF.const (m:Rat)*PF.const (1 / (m:Rat)))*(p*(a*bL (Wh.gcdPoly u d))+q*(b*bL (Wh.gcdPoly u d))):=by grind
  rw[this,ci,<-ea,<-eb,<-eg];grind⟩ fn fs
 have same:∀(L:aQ),(∀x∈L,f ∣ x)->(L.map fun x:Int=>x / f)=L.map fun x=>x.fdiv f:=fun L h=>List.map_congr_left fun x hx=>by
  obtain⟨y,rfl⟩:=h x hx
  rw[Int.mul_ediv_cancel_left _ f0,Int.mul_comm,Int.mul_fdiv_cancel _ f0]
 have dA':∀x∈A',f ∣ x:=fun x hx=>Int.natAbs_dvd.mp (by rw[fn];exact Int.dvd_trans (Int.natCast_dvd_natCast.mpr (Nat.gcd_dvd_left _ _)) (iZ hx))
 have dB':∀x∈B',f ∣ x:=fun x hx=>Int.natAbs_dvd.mp (by rw[fn];exact Int.dvd_trans (Int.natCast_dvd_natCast.mpr (Nat.gcd_dvd_right _ _)) (iZ hx))
 rw[same A' dA',same B' dB']
 exact cn
theorem Mt{T B:aQ}{u d:List Rat}(tT:Trim T)(tB:Trim B)(hB:B≠[]){c:Rat}(hc:c≠0)(eT:aG T=PF.const c*bL u)(eB:aG B=PF.const c*bL d):
  lh T B=(WhB.polyTold (Wh.quotient u d).num ++ WhB.polyTold (Wh.quotient u d).den):=by
 have nc:=gm hc
 have hd:bL d≠0:=fun z=>ny tB hB (by rw[eB,z];grind)
 by_cases hT:T=[]
 ·have hu:bL u=0:=by
   refine PF.tP nc _ _ ?_
   rw[<-eT,hT]
   show(0:PF)=_
   grind
  have zu:=(jN u).mpr hu
  have e1:lh T B=[1,0,1,1]:=by unfold lh;rw[if_pos hT]
  rw[e1]
  unfold Wh.quotient
  dsimp only
  rw[if_pos zu,if_pos zu]
  decide +kernel
 ·have hu:bL u≠0:=fun z=>ny tT hT (by rw[eT,z];grind)
  obtain⟨N,D,C,e⟩:=KO tT tB hT hB
  have C2:=(EH hu hd).scale (PF.const c)
  rw[<-eT,<-eB] at C2
  obtain⟨e1,e2⟩:=Canon.unique (ny tB hB) C C2
  rw[e,<-e1,<-e2]
  unfold WhB.polyTold
  rw[if_neg (by rw[List.isEmpty_iff];exact C.nN),if_neg (by rw[List.isEmpty_iff];exact C.nD)]
end ai
namespace ai
open Lean.Grind
def dot(m:Nat)(r:List Rat)(y:Nat->Rat):Rat:=a7 m fun j=>r.getD j 0*y j
def sat(m:Nat)(y:Nat->Rat)(z:Rat)(r:Wh.Row):Prop:=dot m r.1 y=z*r.2
theorem nA(q:Rat)(r:Wh.Row)(j:Nat):(Wh.scaleRow q r).1.getD j 0=q*r.1.getD j 0:=by
 show(r.1.map fun x:Rat=>q*x).getD j 0=_
 rw[gDe,gDe,List.getElem?_map]
 cases r.1[j]? with
 |none=>show(0:Rat)=q*0;grind
 |some v=>rfl
theorem nE(q:Rat)(r:Wh.Row):(Wh.scaleRow q r).1.length=r.1.length:=by
 show(r.1.map _).length=_
 rw[lMp]
theorem Gv(a b:Wh.Row)(j:Nat)(h:a.1.length=b.1.length):(Wh.subRow a b).1.getD j 0=a.1.getD j 0 - b.1.getD j 0:=by
 show(List.zipWith (fun x y:Rat=>x - y) a.1 b.1).getD j 0=_
 by_cases q:j<a.1.length
 ·exact BH _ _ _ _ q (by lia)
 ·rw[gDe,gDe,gDe,List.getElem?_eq_none (by rw[List.length_zipWith];lia),List.getElem?_eq_none (by lia),List.getElem?_eq_none (by lia)]
  show(0:Rat)=0 - 0
  grind
theorem Gw(a b:Wh.Row)(h:a.1.length=b.1.length):(Wh.subRow a b).1.length=a.1.length:=by
 show(List.zipWith _ a.1 b.1).length=_
 rw[List.length_zipWith];lia
theorem BM(c:Nat)(p r:Wh.Row)(h:r.1.length=p.1.length):(Wh.clear c p r).1.length=r.1.length:=by
 unfold Wh.clear
 split
 ·rfl
 ·rw[Gw _ _ (by rw[nE];exact h)]
theorem vW(c:Nat)(p r:Wh.Row)(h:r.1.length=p.1.length)(j:Nat):(Wh.clear c p r).1.getD j 0=r.1.getD j 0 - r.1.getD c 0*p.1.getD j 0:=by
 unfold Wh.clear
 split
 ·rename_i e
  rw[e];grind
 ·rw[Gv _ _ _ (by rw[nE];exact h),nA]
theorem EI(c:Nat)(p r:Wh.Row):(Wh.clear c p r).2=r.2 - r.1.getD c 0*p.2:=by
 unfold Wh.clear
 split
 ·rename_i e
  rw[e];grind
 ·rfl
theorem Ji(m:Nat)(q:Rat)(r:Wh.Row)(y:Nat->Rat):dot m (Wh.scaleRow q r).1 y=q*dot m r.1 y:=by
 unfold dot
 rw[<-cj]
 exact a9 _ fun j _=>by rw[nA];grind
theorem Jj(m c:Nat)(p r:Wh.Row)(h:r.1.length=p.1.length)(y:Nat->Rat):dot m (Wh.clear c p r).1 y=dot m r.1 y - r.1.getD c 0*dot m p.1 y:=by
 unfold dot
 rw[<-cj,<-yQ]
 exact a9 _ fun j _=>by rw[vW c p r h];grind
theorem Jk{m:Nat}{y:Nat->Rat}{z q:Rat}{r:Wh.Row}(hq:q≠0):sat m y z (Wh.scaleRow q r)↔sat m y z r:=by
 unfold sat
 rw[Ji]
 show q*dot m r.1 y=z*(q*r.2)↔_
 constructor
 ·intro e
  grind
 ·intro e
  rw[e];grind
theorem qO{m c:Nat}{y:Nat->Rat}{z:Rat}{p r:Wh.Row}(h:r.1.length=p.1.length)(hp:sat m y z p):sat m y z (Wh.clear c p r)↔sat m y z r:=by
 unfold sat at *
 rw[Jj m c p r h,EI,hp]
 constructor
 ·intro e;grind
 ·intro e;rw[e];grind
structure Red(m c:Nat)(l:List Wh.Row)(done:List (Nat×Wh.Row))(left:List Wh.Row):Prop where
 cols:done.map (·.1)=List.range c
 KR:∀x∈done,x.2.1.length=m
 Jl:∀r∈left,r.1.length=m
 unit:∀x∈done,∀j,j<c->x.2.1.getD j 0=if j=x.1 then 1 else 0
 zero:∀r∈left,∀j,j<c->r.1.getD j 0=0
 cnt:done.length+left.length=l.length
 same:∀y z,(∀r∈l,sat m y z r)↔(∀x∈done,sat m y z x.2)/\∀r∈left,sat m y z r
theorem rW(m:Nat):∀(f c:Nat) (done:List (Nat×Wh.Row)) (left:List Wh.Row),(Wh.reduceFrom f c done left).1.length<=done.length+f
 |0,_,done,_=>by
  show done.length<=_
  lia
 |f+1,c,done,left=>by
  unfold Wh.reduceFrom
  split
  ·have:=rW m f (c+1) done left
   lia
  ·rename_i i _
   refine Nat.le_trans (rW m f (c+1) _ _) ?_
   rw[List.length_append,lMp]
   simp only[List.length_cons,List.length_nil]
   lia
theorem mem_getD{left:List Wh.Row}{i:Nat}(h:i<left.length):left.getD i ([],0)∈left:=by
 rw[gDe,List.getElem?_eq_getElem h]
 exact List.getElem_mem h
theorem CZ{α:Type}(l:List α)(i:Nat)(h:i<l.length)(x:α)(hx:x∈l):x=l[i]\/x∈l.eraseIdx i:=by
 obtain⟨a,ha,e⟩:=List.getElem_of_mem hx
 by_cases q:a=i
 ·subst q
  exact .inl e.symm
 ·refine .inr (List.mem_eraseIdx_iff_getElem.mpr ⟨a,ha,q,e⟩)
theorem KS{m c:Nat}(hc:c<m){l:List Wh.Row}{done:List (Nat×Wh.Row)}{left:List Wh.Row}(S:Red m c l done left){i:Nat}(hi:i<left.length)(hp:(left.getD i ([],0)).1.getD c 0≠0):
  Red m (c+1) l ((done.map fun x:Nat×Wh.Row=>(x.1,Wh.clear c (Wh.scaleRow (1 / (left.getD i ([],0)).1.getD c 0) (left.getD i ([],0))) x.2)) ++ [(c,Wh.scaleRow (1 / (left.getD i ([],0)).1.getD c 0) (left.getD i ([],0)))]) ((left.eraseIdx i).map fun r:Wh.Row=>Wh.clear c (Wh.scaleRow (1 / (left.getD i ([],0)).1.getD c 0) (left.getD i ([],0))) r):=by
 have mp:=mem_getD hi
 generalize hP:left.getD i ([],0)=P at *
 have hq:(1 / P.1.getD c 0:Rat)≠0:=by grind
 have eP:P=left[i]:=by
  rw[<-hP,gDe,List.getElem?_eq_getElem hi];rfl
 have lP:=S.Jl P mp
 generalize hp':Wh.scaleRow (1 / P.1.getD c 0) P=p
 have lp:p.1.length=m:=by rw[<-hp',nE];exact lP
 have pg:∀j,p.1.getD j 0=1 / P.1.getD c 0*P.1.getD j 0:=fun j=>by rw[<-hp',nA]
 have pc:p.1.getD c 0=1:=by rw[pg];grind
 have pz:∀j,j<c->p.1.getD j 0=0:=fun j hj=>by rw[pg,S.zero P mp j hj];grind
 have psat:∀y z,sat m y z p↔sat m y z P:=fun y z=>by rw[<-hp'];exact Jk hq
 have er:∀r∈left.eraseIdx i,r∈left:=fun r hr=>List.mem_of_mem_eraseIdx hr
 refine⟨?_,?_,?_,?_,?_,?_,?_⟩
 ·rw[List.map_append,List.map_map,List.range_succ,<-S.cols];rfl
 ·intro x hx
  rcases List.mem_append.mp hx with h |h
  ·obtain⟨y,hy,rfl⟩:=List.mem_map.mp h
   show(Wh.clear c p y.2).1.length=m
   rw[BM _ _ _ (by rw[S.KR y hy,lp]),S.KR y hy]
  ·have:x=(c,p):=by simpa using h
   subst this
   exact lp
 ·intro r hr
  obtain⟨y,hy,rfl⟩:=List.mem_map.mp hr
  rw[BM _ _ _ (by rw[S.Jl y (er y hy),lp]),S.Jl y (er y hy)]
 ·intro x hx j hj
  rcases List.mem_append.mp hx with h |h
  ·obtain⟨y,hy,rfl⟩:=List.mem_map.mp h
   show(Wh.clear c p y.2).1.getD j 0=if j=y.1 then 1 else 0
   have hy1:y.1<c:=by
    have:y.1∈done.map (·.1):=List.mem_map.mpr ⟨y,hy,rfl⟩
    rw[S.cols] at this
    exact List.mem_range.mp this
   rw[vW _ _ _ (by rw[S.KR y hy,lp])]
   by_cases q:j=c
   ·subst q
    rw[pc,if_neg (by lia)];grind
   ·rw[pz j (by lia),S.unit y hy j (by lia)];grind
  ·have:x=(c,p):=by simpa using h
   subst this
   show p.1.getD j 0=if j=c then 1 else 0
   by_cases q:j=c
   ·rw[if_pos q,q,pc]
   ·rw[if_neg q,pz j (by lia)]
 ·intro r hr j hj
  obtain⟨y,hy,rfl⟩:=List.mem_map.mp hr
  rw[vW _ _ _ (by rw[S.Jl y (er y hy),lp])]
  by_cases q:j=c
  ·subst q
   rw[pc];grind
  ·rw[S.zero y (er y hy) j (by lia),pz j (by lia)];grind
 ·rw[List.length_append,lMp,lMp,List.length_eraseIdx,if_pos hi,<-S.cnt]
  simp only[List.length_cons,List.length_nil]
  lia
 ·intro y z
  rw[S.same y z]
  constructor
  ·rintro⟨h1,h2⟩
   have hp2:=(psat y z).mpr (h2 P mp)
   refine⟨fun x hx=> ?_,fun r hr=> ?_⟩
   ·rcases List.mem_append.mp hx with h |h
    ·obtain⟨w,hw,rfl⟩:=List.mem_map.mp h
     exact(qO (by rw[S.KR w hw,lp]) hp2).mpr (h1 w hw)
    ·have:x=(c,p):=by simpa using h
     subst this
     exact hp2
   ·obtain⟨w,hw,rfl⟩:=List.mem_map.mp hr
    exact(qO (by rw[S.Jl w (er w hw),lp]) hp2).mpr (h2 w (er w hw))
  ·rintro⟨h1,h2⟩
   have hp2:sat m y z p:=h1 (c,p) (List.mem_append_right _ (by simp))
   refine⟨fun x hx=> ?_,fun r hr=> ?_⟩
   ·have:=h1 (x.1,Wh.clear c p x.2) (List.mem_append_left _ (List.mem_map.mpr ⟨x,hx,rfl⟩))
    exact(qO (by rw[S.KR x hx,lp]) hp2).mp this
   ·rcases CZ left i hi r hr with e |e
    ·rw[e,<-eP]
     exact(psat y z).mp hp2
    ·exact(qO (by rw[S.Jl r hr,lp]) hp2).mp (h2 _ (List.mem_map.mpr ⟨r,e,rfl⟩))
theorem KU{m c:Nat}(hc:c<m){l:List Wh.Row}{done:List (Nat×Wh.Row)}{left:List Wh.Row}(S:Red m c l done left)(hz:∀r∈left,r.1.getD c 0=0):
  ∃y:Nat->Rat,y c≠0/\∀r∈l,dot m r.1 y=0:=by
 have dl:done.length=c:=by
  have:=congrArg List.length S.cols
  simpa using this
 let y:Nat->Rat:=fun j=>if j=c then 1 else if j<c then -((done.getD j (0,([],0))).2.1.getD c 0) else 0
 refine⟨y,by show(if c=c then(1:Rat) else _)≠0;rw[if_pos rfl];decide,?_⟩
 have key:∀r∈l,sat m y 0 r:=(S.same y 0).mpr ⟨fun x hx=> ?_,fun r hr=> ?_⟩
 ·intro r hr
  have:=key r hr
  unfold sat at this
  rw[this];grind
 ·obtain⟨a,ha,e⟩:=List.getElem_of_mem hx
  have xa:x.1=a:=by
   have h1:(done.map (·.1))[a]? =some x.1:=by rw[List.getElem?_map,List.getElem?_eq_getElem ha,e];rfl
   rw[S.cols,List.getElem?_range (by lia)] at h1
   exact(Option.some.inj h1).symm
  unfold sat dot
  have two:a7 m (fun j=>x.2.1.getD j 0*y j)=x.2.1.getD a 0*y a+x.2.1.getD c 0*y c:=by
   refine yO m a c (by lia) hc fun j hj h1 h2=> ?_
   by_cases q:j<c
   ·rw[S.unit x hx j q,if_neg (by lia)];grind
   ·have:y j=0:=by
     show(if j=c then(1:Rat) else if j<c then _ else 0)=0
     rw[if_neg h2,if_neg q]
    rw[this];grind
  have ya:y a= -(x.2.1.getD c 0):=by
   show(if a=c then(1:Rat) else if a<c then -((done.getD a (0,([],0))).2.1.getD c 0) else 0)=_
   rw[if_neg (by lia),if_pos (by lia),gDe (l:=done),List.getElem?_eq_getElem ha,e];rfl
  have yc:y c=1:=if_pos rfl
  rw[two,ya,yc,S.unit x hx a (by lia),if_pos xa.symm]
  grind
 ·unfold sat dot
  have z:a7 m (fun j=>r.1.getD j 0*y j)=0:=qH m fun j hj=>by
   by_cases q:j<c
   ·rw[S.zero r hr j q];grind
   ·by_cases q2:j=c
    ·subst q2
     rw[hz r hr];grind
    ·have:y j=0:=by
      show(if j=c then(1:Rat) else if j<c then _ else 0)=0
      rw[if_neg q2,if_neg q]
     rw[this];grind
  rw[z];grind
theorem HW{m:Nat}{l:List Wh.Row}:∀(f c:Nat) (done:List (Nat×Wh.Row)) (left:List Wh.Row),f+c=m->Red m c l done left->
  Red m m l (Wh.reduceFrom f c done left).1 (Wh.reduceFrom f c done left).2\/((Wh.reduceFrom f c done left).1.length<m/\∃y:Nat->Rat,(∃j,j<m/\y j≠0)/\∀r∈l,dot m r.1 y=0)
 |0,c,done,left,hf,S=>by
  have:c=m:=by lia
  subst this
  exact .inl S
 |f+1,c,done,left,hf,S=>by
  unfold Wh.reduceFrom
  cases e:left.findIdx? fun r:Wh.Row=>decide (r.1.getD c 0≠0) with
  |none=>
   refine .inr ⟨?_,?_⟩
   ·have h1:=rW m f (c+1) done left
    have dl:done.length=c:=by
     have:=congrArg List.length S.cols
     simpa using this
    show(Wh.reduceFrom f (c+1) done left).1.length<m
    lia
   ·obtain⟨y,hy,h⟩:=KU (by lia) S fun r hr=>by
     have h:=List.findIdx?_eq_none_iff.mp e r hr
     simpa using h
    exact⟨y,⟨c,by lia,hy⟩,h⟩
  |some i=>
   obtain⟨hi,hp,_⟩:=List.findIdx?_eq_some_iff_getElem.mp e
   have hp':(left.getD i ([],0)).1.getD c 0≠0:=by
    rw[gDe (l:=left),List.getElem?_eq_getElem hi]
    simpa using hp
   exact HW f (c+1) _ _ (by lia) (KS (by lia) S hi hp')
theorem Gx{m:Nat}{l:List Wh.Row}(hl:l.length=m)(hr:∀r∈l,r.1.length=m):
  (∃x:List Rat,Wh.solve m l=some x/\x.length=m/\∀(y:Nat->Rat) (z:Rat),(∀r∈l,sat m y z r)↔∀j,j<m->y j=z*x.getD j 0)\/
  (Wh.solve m l=none/\∃y:Nat->Rat,(∃j,j<m/\y j≠0)/\∀r∈l,dot m r.1 y=0):=by
 have S0:Red m 0 l [] l:=⟨rfl,(fun _ h=>by cases h),hr,(fun _ h=>by cases h),(fun _ _ j hj=>by lia),(by simp),fun y z=>⟨fun h=>⟨fun _ h=>(by cases h),h⟩,fun h=>h.2⟩⟩
 rcases HW m 0 [] l (by lia) S0 with S |⟨h1,h2⟩
 ·refine .inl ⟨(Wh.reduced m l).1.map fun x:Nat×Wh.Row=>x.2.2,?_,?_,?_⟩
  ·unfold Wh.solve Wh.rank
   have dl:(Wh.reduced m l).1.length=m:=by
    have:=congrArg List.length S.cols
    simpa [Wh.reduced] using this
   rw[if_pos ⟨dl,hl⟩]
  ·rw[lMp]
   have:=congrArg List.length S.cols
   simpa [Wh.reduced] using this
  ·intro y z
   change Red m m l (Wh.reduced m l).1 (Wh.reduced m l).2 at S
   have dl:(Wh.reduced m l).1.length=m:=by
    have:=congrArg List.length S.cols
    simpa using this
   have ll:(Wh.reduced m l).2=[]:=List.length_eq_zero_iff.mp (by have:=S.cnt;lia)
   rw[S.same y z,ll]
   have row:∀a (ha:a<(Wh.reduced m l).1.length),sat m y z ((Wh.reduced m l).1[a]).2↔y a=z*((Wh.reduced m l).1.map fun x:Nat×Wh.Row=>x.2.2).getD a 0:=fun a ha=>by
    have hx:=List.getElem_mem ha
    have xa:((Wh.reduced m l).1[a]).1=a:=by
     have h1:((Wh.reduced m l).1.map (·.1))[a]? =some ((Wh.reduced m l).1[a]).1:=by rw[List.getElem?_map,List.getElem?_eq_getElem ha];rfl
     rw[S.cols,List.getElem?_range (by lia)] at h1
     exact(Option.some.inj h1).symm
    have e2:((Wh.reduced m l).1.map fun x:Nat×Wh.Row=>x.2.2).getD a 0=((Wh.reduced m l).1[a]).2.2:=by
     rw[gDe,List.getElem?_map,List.getElem?_eq_getElem ha];rfl
    unfold sat dot
    rw[iY m a (by lia) fun j hj hja=>by rw[S.unit _ hx j hj,if_neg (by lia)];grind,S.unit _ hx a (by lia),if_pos xa.symm,e2]
    constructor
    ·intro h;grind
    ·intro h;rw[h];grind
   constructor
   ·rintro⟨h1,_⟩ j hj
    exact(row j (by lia)).mp (h1 _ (List.getElem_mem _))
   ·intro h
    refine⟨fun x hx=> ?_,fun _ h=>by cases h⟩
    obtain⟨a,ha,e⟩:=List.getElem_of_mem hx
    rw[<-e]
    exact(row a ha).mpr (h a (by lia))
 ·refine .inr ⟨?_,h2⟩
  unfold Wh.solve Wh.rank
  rw[if_neg fun h=>by
   have:(Wh.reduced m l).1.length=m:=h.1
   have h1':(Wh.reduced m l).1.length<m:=h1
   lia]
end ai
namespace ai
open Lean.Grind (CommRing)
inductive Al{α β:Type}(R:α->β->Prop):List α->List β->Prop
 |nil:Al R [] []
 |cons {a:α} {b:β} {l:List α} {m:List β}:R a b->Al R l m->Al R (a::l) (b::m)
theorem Al.len{α β:Type}{R:α->β->Prop}:∀{l:List α} {m:List β},Al R l m->l.length=m.length
 |_,_,.nil=>rfl
 |_,_,.cons _ t=>congrArg (· +1) t.len
theorem Al.append{α β:Type}{R:α->β->Prop}:∀{l:List α} {m:List β} {l':List α} {m':List β},Al R l m->Al R l' m'->Al R (l ++ l') (m ++ m')
 |_,_,_,_,.nil,h=>h
 |_,_,_,_,.cons r t,h=> .cons r (t.append h)
theorem Al.get{α β:Type}{R:α->β->Prop}(d:α)(e:β):∀{l:List α} {m:List β},Al R l m->∀i,i<l.length->R (l.getD i d) (m.getD i e)
 |_,_,.nil,i,h=>by simp at h
 |_,_,.cons r t,0,_=>by simpa using r
 |_,_,.cons r t,i+1,h=>by
  have:=t.get d e i (by simpa using h)
  simpa using this
theorem Al.Mu{α β γ δ:Type}{R:γ->δ->Prop}{f:α->γ}{g:β->δ}:∀{l:List α} {m:List β},Al (fun a b=>R (f a) (g b)) l m->Al R (l.map f) (m.map g)
 |_,_,.nil=> .nil
 |_,_,.cons r t=> .cons r t.Mu
theorem Al.imp{α β:Type}{R S:α->β->Prop}(h:∀a b,R a b->S a b):∀{l:List α} {m:List β},Al R l m->Al S l m
 |_,_,.nil=> .nil
 |_,_,.cons r t=> .cons (h _ _ r) (t.imp h)
theorem HX{α β γ:Type}{R:α->β->Prop}{f:γ->α}{g:γ->β}:∀(l:List γ),(∀i∈l,R (f i) (g i))->Al R (l.map f) (l.map g)
 |[],_=> .nil
 |x::l,h=> .cons (h x List.mem_cons_self) (HX l fun i hi=>h i (List.mem_cons_of_mem _ hi))
theorem HY{α β γ:Type}{R:α->β->Prop}{f:γ->List α}{g:γ->List β}:∀(l:List γ),(∀i∈l,Al R (f i) (g i))->Al R (l.flatMap f) (l.flatMap g)
 |[],_=> .nil
 |x::l,h=>by
  rw[List.flatMap_cons,List.flatMap_cons]
  exact(h x List.mem_cons_self).append (HY l fun i hi=>h i (List.mem_cons_of_mem _ hi))
theorem BN{α:Type}(l:List α)(d:α):l=(List.range l.length).map fun i=>l.getD i d:=by
 apply List.ext_getElem
 ·simp
 ·intro i h1 h2
  simp[gDe,List.getElem?_eq_getElem h1]
theorem C0{α:Type}(l:List α)(d:α):l.zipIdx=(List.range l.length).map fun i=>(l.getD i d,i):=by
 apply List.ext_getElem
 ·simp
 ·intro i h1 h2
  have h3:i<l.length:=by simpa using h1
  simp[gDe,List.getElem?_eq_getElem h3]
theorem BO{α β:Type}(l:List α)(m:List β)(d:α)(e:β)(h:m.length=l.length):l.zip m=(List.range l.length).map fun i=>(l.getD i d,m.getD i e):=by
 apply List.ext_getElem
 ·simp[h]
 ·intro i h1 h2
  have h3:i<l.length:=by simp at h1;lia
  have h4:i<m.length:=by lia
  simp[gDe,List.getElem?_eq_getElem h3,List.getElem?_eq_getElem h4]
structure Pn(p:Part):Prop where
 k0:0<=p.kind
 k1:p.kind<=13
 a0:0<=p.a
 b0:0<=p.b
 c0:0<=p.c
 d0:0<=p.d
 t:p.top.natAbs<=1000000
 b1:1<=p.aC
 b2:p.aC<=1000000
noncomputable def kindOf (z:Int):Wh.Kind:=Wh.kinds.getD z.toNat .R
noncomputable def aE (p:Part):Wh.Elem:=
 ⟨kindOf p.kind,if Wh.nodeCount (kindOf p.kind)=0 then[] else[p.a.toNat,p.b.toNat,p.c.toNat,p.d.toNat].take (Wh.nodeCount (kindOf p.kind)),if kindOf p.kind= .M then[p.a.toNat,p.b.toNat] else if Wh.refCount (kindOf p.kind)=1 then[p.c.toNat] else[],(p.top:Rat) / (p.aC:Rat)⟩
noncomputable def ao (n:Nw):Wh.Net:=⟨n.last.toNat,n.af.map aE⟩
theorem nF{z:Int}(h0:0<=z)(h1:z<=13):z=0\/z=1\/z=2\/z=3\/z=4\/z=5\/z=6\/z=7\/z=8\/z=9\/z=10\/z=11\/z=12\/z=13:=by lia
noncomputable def kindB (z:Nat):Bool:=decide ((kindOf z= .M↔z=3)/\(kindOf z= .T↔z=10)/\(kindOf z= .D↔z=13)/\(kindOf z= .V↔z=4)/\(kindOf z= .I↔z=5)/\(kindOf z= .L↔z=2)/\(kindOf z= .C↔z=1)/\(kindOf z= .H↔z=8)/\(kindOf z= .F↔z=9)/\(kindOf z= .S↔z=12)/\(kindOf z= .O↔z=11)/\(kindOf z= .E↔z=6)/\(kindOf z= .G↔z=7)/\(kindOf z= .R↔z=0))
theorem Jm:(List.range 14).all kindB=true:=by decide +kernel
theorem fL{z:Int}(h0:0<=z)(h1:z<=13):(kindOf z= .M↔z=3)/\(kindOf z= .T↔z=10)/\(kindOf z= .D↔z=13)/\(kindOf z= .V↔z=4)/\(kindOf z= .I↔z=5)/\(kindOf z= .L↔z=2)/\(kindOf z= .C↔z=1)/\(kindOf z= .H↔z=8)/\(kindOf z= .F↔z=9)/\(kindOf z= .S↔z=12)/\(kindOf z= .O↔z=11)/\(kindOf z= .E↔z=6)/\(kindOf z= .G↔z=7)/\(kindOf z= .R↔z=0):=by
 have h:=List.all_eq_true.mp Jm z.toNat (List.mem_range.mpr (by lia))
 have e:((z.toNat:Nat):Int)=z:=by lia
 have q:=of_decide_eq_true h
 rw[e] at q
 refine⟨?_,?_,?_,?_,?_,?_,?_,?_,?_,?_,?_,?_,?_,?_⟩
 ·rw[q.1];lia
 ·rw[q.2.1];lia
 ·rw[q.2.2.1];lia
 ·rw[q.2.2.2.1];lia
 ·rw[q.2.2.2.2.1];lia
 ·rw[q.2.2.2.2.2.1];lia
 ·rw[q.2.2.2.2.2.2.1];lia
 ·rw[q.2.2.2.2.2.2.2.1];lia
 ·rw[q.2.2.2.2.2.2.2.2.1];lia
 ·rw[q.2.2.2.2.2.2.2.2.2.1];lia
 ·rw[q.2.2.2.2.2.2.2.2.2.2.1];lia
 ·rw[q.2.2.2.2.2.2.2.2.2.2.2.1];lia
 ·rw[q.2.2.2.2.2.2.2.2.2.2.2.2.1];lia
 ·rw[q.2.2.2.2.2.2.2.2.2.2.2.2.2];lia
theorem Pn.M{p:Part}(h:Pn p):kindOf p.kind= .M↔p.kind=3:=(fL h.k0 h.k1).1
theorem Pn.T{p:Part}(h:Pn p):kindOf p.kind= .T↔p.kind=10:=(fL h.k0 h.k1).2.1
theorem Pn.D{p:Part}(h:Pn p):kindOf p.kind= .D↔p.kind=13:=(fL h.k0 h.k1).2.2.1
theorem fV(p:Part):(aE p).kind=kindOf p.kind:=rfl
theorem C1(p:Part):(aE p).q=(p.top:Rat) / (p.aC:Rat):=rfl
theorem KW{p:Part}(h:Pn p):gH p=(((aE p).currents:Nat):Int):=by
 unfold gH Wh.Elem.currents
 rw[fV]
 by_cases h3:p.kind=3
 ·rw[if_pos h3,if_pos (h.M.mpr h3)];rfl
 ·rw[if_neg h3,if_neg (fun e=>h3 (h.M.mp e))]
  by_cases h10:p.kind=10
  ·rw[if_pos h10,if_pos (h.T.mpr h10)];rfl
  ·rw[if_neg h10,if_neg (fun e=>h10 (h.T.mp e))];rfl
theorem bX(a:Nat)(l:List Nat):Wh.sumNat (a::l)=a+Wh.sumNat l:=by
 have:∀(l:List Nat) (x:Nat),l.foldl (fun(a b:Nat)=>a+b) x=x+l.foldl (fun(a b:Nat)=>a+b) 0:=by
  intro l
  induction l with
  |nil=>intro x;simp
  |cons b l ih=>
   intro x
   rw[List.foldl_cons,List.foldl_cons,ih (x+b),ih (0+b)]
   lia
 unfold Wh.sumNat
 rw[List.foldl_cons,this]
 lia
theorem uo:∀(ps:List Part) (f:Int) (k:Nat),(∀p∈ps,Pn p)->k<ps.length->(dC f ps).getD k 0=f+((Wh.sumNat (((ps.map aE).take k).map Wh.Elem.currents):Nat):Int)
 |[],_,k,_,h=>by simp at h
 |p::ps,f,0,_,_=>by
  show f=f+((0:Nat):Int)
  lia
 |p::ps,f,k+1,hp,h=>by
  show(dC (f+gH p) ps).getD k 0=_
  rw[uo ps (f+gH p) k (fun q hq=>hp q (List.mem_cons_of_mem _ hq)) (by simpa using h),KW (hp p List.mem_cons_self)]
  rw[List.map_cons,List.take_succ_cons,List.map_cons,bX]
  push_cast
  lia
theorem BP:∀(ps:List Part),(∀p∈ps,Pn p)->(ps.map gH).sum=((Wh.sumNat ((ps.map aE).map Wh.Elem.currents):Nat):Int)
 |[],_=>rfl
 |p::ps,hp=>by
  rw[List.map_cons,List.sum_cons,BP ps (fun q hq=>hp q (List.mem_cons_of_mem _ hq)),KW (hp p List.mem_cons_self),List.map_cons,List.map_cons,bX]
  push_cast
  rfl
structure Right(n:Nw):Prop where
 l1:1<=n.last
 l8:n.last<=8
 af:n.af.length<=10
 pn:∀p∈n.af,Pn p
 ok:fault n=[]
theorem memD{α:Type}{l:List α}{k:Nat}{d:α}(h:k<l.length):l.getD k d∈l:=by
 rw[gDe,List.getElem?_eq_getElem h]
 exact List.getElem_mem h
section
variable {n:Nw}(R:Right n)
include R
theorem Right.p{k:Nat}(h:k<n.af.length):Pn (n.af.getD k p0):=R.pn _ (memD h)
theorem Right.nodes:((ao n).nodes:Int)=n.last:=by
 show((n.last.toNat:Nat):Int)=n.last
 have:=R.l1
 lia
theorem Right.place{k:Nat}(h:k<n.af.length):(places n).getD k 0=(((ao n).at_ k:Nat):Int):=by
 unfold places
 rw[uo n.af n.last k R.pn h]
 unfold Wh.Net.at_
 have:=R.nodes
 push_cast
 rw[this]
 rfl
theorem Right.vX:width n=(((ao n).unknowns:Nat):Int):=by
 unfold width Wh.Net.unknowns Wh.Net.at_
 rw[BP n.af R.pn]
 have:=R.nodes
 have e:(ao n).elems.take (ao n).elems.length=n.af.map aE:=List.take_length
 rw[e]
 push_cast
 rw[this]
theorem Right.elem{k:Nat}(h:k<n.af.length):(ao n).elems[k]? =some (aE (n.af.getD k p0)):=by
 show(n.af.map aE)[k]? =_
 rw[List.getElem?_map,gDe,List.getElem?_eq_getElem h]
 rfl
end
theorem xx(n:Nw):∀f,f<=n.af.length->gu n f=[]->∀k,n.af.length - f<=k->k<n.af.length->eF n k=0
 |0,_,_,k,h1,h2=>by lia
 |f+1,hf,h,k,h1,h2=>by
  unfold gu at h
  dsimp only at h
  split at h
  ·cases h
  ·rename_i e
   by_cases q:k=n.af.length - (f+1)
   ·rw[q]
    exact Classical.not_not.mp e
   ·exact xx n f (by lia) h k (by lia) h2
theorem Right.f0{n:Nw}(R:Right n){k:Nat}(h:k<n.af.length):eF n k=0:=xx n n.af.length (Nat.le_refl _) R.ok k (by lia) h
structure Nm(n:Nw)(k:Nat):Prop where
 nodes:∀v∈dz (n.af.getD k p0),v<=n.last
 num:jI (n.af.getD k p0)=true
 Pa:cI n.af k=true
 R9:(n.af.getD k p0).kind=3->jz n.af k=0
theorem Mv{n:Nw}{k:Nat}(h:eF n k=0):Nm n k:=by
 unfold eF at h
 dsimp only at h
 by_cases h1:(dz (n.af.getD k p0)).any (fun v=>decide (n.last<v))=true
 ·rw[if_pos h1] at h;exact absurd h (by decide)
 rw[if_neg h1] at h
 by_cases h2:jI (n.af.getD k p0)=false
 ·rw[if_pos h2] at h;exact absurd h (by decide)
 rw[if_neg h2] at h
 by_cases h3:cI n.af k=false
 ·rw[if_pos h3] at h;exact absurd h (by decide)
 rw[if_neg h3] at h
 refine⟨fun v hv=> ?_,by simpa using h2,by simpa using h3,fun e=>by rw[if_pos e] at h;exact h⟩
 have:¬n.last<v:=fun q=>h1 (List.any_eq_true.mpr ⟨v,hv,decide_eq_true q⟩)
 lia
section
variable {n:Nw}(R:Right n){k:Nat}(h:k<n.af.length)
include R h
theorem Right.g1:Nm n k:=Mv (R.f0 h)
theorem Right.ab(h3:(n.af.getD k p0).kind≠3):(n.af.getD k p0).a<=n.last/\(n.af.getD k p0).b<=n.last:=by
 have g:=(R.g1 h).nodes
 unfold dz at g
 rw[if_neg h3] at g
 split at g
 ·exact⟨g _ (by simp),g _ (by simp)⟩
 ·exact⟨g _ (by simp),g _ (by simp)⟩
theorem Right.cd(h4:(n.af.getD k p0).kind=6\/(n.af.getD k p0).kind=7\/(n.af.getD k p0).kind=10\/(n.af.getD k p0).kind=11):(n.af.getD k p0).c<=n.last/\(n.af.getD k p0).d<=n.last:=by
 have g:=(R.g1 h).nodes
 unfold dz at g
 rw[if_neg (by lia),if_pos h4] at g
 exact⟨g _ (by simp),g _ (by simp)⟩
theorem Right.Pa(h4:(n.af.getD k p0).kind=8\/(n.af.getD k p0).kind=9):(n.af.getD k p0).c<k/\kindAt n.af (n.af.getD k p0).c≠3:=by
 have g:=(R.g1 h).Pa
 unfold cI at g
 dsimp only at g
 rw[if_neg (fun q=>q h4)] at g
 obtain⟨g1,g2⟩:=(Bool.and_eq_true _ _).mp g
 exact⟨of_decide_eq_true g1,of_decide_eq_true g2⟩
theorem Right.Mw(h4:(n.af.getD k p0).kind=3):(n.af.getD k p0).a≠(n.af.getD k p0).b/\((n.af.getD k p0).a<k/\kindAt n.af (n.af.getD k p0).a=2)/\((n.af.getD k p0).b<k/\kindAt n.af (n.af.getD k p0).b=2):=by
 have g:=(R.g1 h).R9 h4
 unfold jz at g
 dsimp only at g
 by_cases h1:(n.af.getD k p0).a=(n.af.getD k p0).b\/aX n.af (n.af.getD k p0).a k=false\/aX n.af (n.af.getD k p0).b k=false
 ·rw[if_pos h1] at g;exact absurd g (by decide)
 have q1:aX n.af (n.af.getD k p0).a k=true:=by
  cases e:aX n.af (n.af.getD k p0).a k with
  |true=>rfl
  |false=>exact absurd (.inr (.inl e)) h1
 have q2:aX n.af (n.af.getD k p0).b k=true:=by
  cases e:aX n.af (n.af.getD k p0).b k with
  |true=>rfl
  |false=>exact absurd (.inr (.inr e)) h1
 unfold aX at q1 q2
 obtain⟨a1,a2⟩:=(Bool.and_eq_true _ _).mp q1
 obtain⟨b1,b2⟩:=(Bool.and_eq_true _ _).mp q2
 exact⟨fun e=>h1 (.inl e),⟨of_decide_eq_true a1,of_decide_eq_true a2⟩,⟨of_decide_eq_true b1,of_decide_eq_true b2⟩⟩
end
noncomputable def Pv (φ:Nat->PF):List Term->PF
 |[]=>0
 |t::ts=>aG t.2*φ t.1.toNat+Pv φ ts
theorem dw(φ:Nat->PF):∀a b:List Term,Pv φ (a ++ b)=Pv φ a+Pv φ b
 |[],b=>by
  show Pv φ b=0+Pv φ b
  grind
 |t::a,b=>by
  show aG t.2*φ t.1.toNat+Pv φ (a ++ b)=aG t.2*φ t.1.toNat+Pv φ a+Pv φ b
  rw[dw φ a b]
  grind
theorem nH(φ:Nat->PF)(p:aQ):∀a:List Term,Pv φ (nh a p)=Pv φ a*aG p
 |[]=>by
  show(0:PF)=0*aG p
  grind
 |t::a=>by
  show aG (de t.2 p)*φ t.1.toNat+Pv φ (nh a p)=(aG t.2*φ t.1.toNat+Pv φ a)*aG p
  rw[nH φ p a,gj]
  grind
noncomputable def Rv (φ:Nat->PF):List (Nat×Rat)->PF
 |[]=>0
 |t::ts=>PF.const t.2*φ t.1+Rv φ ts
theorem d4(φ:Nat->PF):∀a b:List (Nat×Rat),Rv φ (a ++ b)=Rv φ a+Rv φ b
 |[],b=>by
  show Rv φ b=0+Rv φ b
  grind
 |t::a,b=>by
  show PF.const t.2*φ t.1+Rv φ (a ++ b)=PF.const t.2*φ t.1+Rv φ a+Rv φ b
  rw[d4 φ a b]
  grind
noncomputable def Lv (φ:Nat->PF) (σ:PF) (m:Nat) (L:Wh.Law):PF:=Rv φ L.terms+σ*Rv φ L.byS+PF.const L.right*φ m
noncomputable def zE (σ:PF) (m:Nat) (ts:List Term) (L:Wh.Law):Prop:=∃κ:Rat,0<κ/\∀φ:Nat->PF,Pv φ ts=PF.const κ*Lv φ σ m L
theorem uq:aG [1]=1:=PF.ext fun x=>by
 rw[bD]
 show((1:Int):Rat)+x*0=((1:Nat):Rat)
 grind
theorem zF:aG [-1]= -1:=PF.ext fun x=>by
 rw[bD]
 show((-1:Int):Rat)+x*0= -((1:Nat):Rat)
 grind
theorem cK(c:Rat):PF.const (-c)= - PF.const c:=rfl
noncomputable def vN (φ:Nat->PF) (z:Int):PF:=if 0<z then φ (z - 1).toNat else 0
theorem ic(φ:Nat->PF)(a b:Int):Pv φ (Eo a b)=vN φ a - vN φ b:=by
 unfold Eo vN
 rw[dw]
 by_cases h1:0<a <;>by_cases h2:0<b <;>simp only[h1,h2,if_true,if_false] <;>simp only[Pv,uq,zF] <;>grind
theorem HZ(φ:Nat->PF)(a:Int)(ha:0<=a)(q:Rat):Rv φ (Wh.volt a.toNat q)=PF.const q*vN φ a:=by
 unfold Wh.volt vN
 by_cases h:0<a
 ·rw[if_neg (by lia),if_pos h]
  have e:a.toNat - 1=(a - 1).toNat:=by lia
  show PF.const q*φ (a.toNat - 1)+0=_
  rw[e];grind
 ·rw[if_pos (by lia),if_neg h]
  show(0:PF)=_
  grind
theorem cY(φ:Nat->PF)(a b:Int)(ha:0<=a)(hb:0<=b)(q:Rat):Rv φ (Wh.across a.toNat b.toNat q)=PF.const q*(vN φ a - vN φ b):=by
 unfold Wh.across
 rw[d4,HZ φ a ha,HZ φ b hb,cK]
 grind
structure ie(n:Nw)(g:gK)(G:Wh.Setting):Prop where
 aO:g.aO=n
 on:∀k,k<n.af.length->G.on k=g.cU.getD k false
 val:∀k,k<n.af.length->((n.af.getD k p0).kind=4\/(n.af.getD k p0).kind=5)->0<(g.drives.getD k (0,1)).2/\G.value k=((g.drives.getD k (0,1)).1:Rat) / ((g.drives.getD k (0,1)).2:Rat)
 drop:∀k,k<n.af.length->(n.af.getD k p0).kind=13->0<(g.drives.getD k (0,1)).2/\G.drop k=((g.drives.getD k (0,1)).1:Rat) / ((g.drives.getD k (0,1)).2:Rat)
theorem gz{b:Int}(h:0<b):(0:Rat)<(b:Rat):=by exact_mod_cast h
theorem qP{a b:Int}(h:0<b):PF.const (b:Rat)*PF.const ((a:Rat) / (b:Rat))=PF.const (a:Rat):=by
 rw[<-jA]
 congr 1
 have:=gz h
 grind
theorem AV(z:Int):PF.const ((-z:Int):Rat)= - PF.const (z:Rat):=PF.ext fun x=>by
 show((-z:Int):Rat)= -(z:Rat)
 push_cast
 rfl
section
variable {n:Nw}(R:Right n){g:gK}{G:Wh.Setting}(S:ie n g G){k:Nat}(hk:k<n.af.length)
include R
theorem OB{j:Int}(h0:0<=j)(hj:j<n.af.length):((places n).getD j.toNat 0).toNat=(ao n).at_ j.toNat:=by
 rw[R.place (by lia),Int.toNat_natCast]
include S
theorem C3(φ:Nat->PF){j:Int}(h0:0<=j)(hj:j<n.af.length):Pv φ (cur g j)=φ ((ao n).at_ j.toNat):=by
 unfold cur
 rw[S.aO]
 show aG [1]*φ ((places n).getD j.toNat 0).toNat+0=_
 rw[OB R h0 hj,uq]
 grind
theorem Gy(φ:Nat->PF)(ts:List Term):Pv φ (Ep g k ts)=Pv φ ts*PF.const ((g.drives.getD k (0,1)).2:Rat)+PF.const ((g.drives.getD k (0,1)).1:Rat)*φ (ao n).unknowns:=by
 unfold Ep
 rw[dw,nH,qL,S.aO]
 show _+ (aG (cst _)*φ (width n).toNat+0)=_
 rw[qL,R.vX,Int.toNat_natCast]
 grind
omit S R in
theorem lC(φ:Nat->PF)(p:Part)(l r:List Term):Pv φ (jJ p l r)=Pv φ l*PF.const (p.aC:Rat) - Pv φ r*PF.const (p.top:Rat):=by
 unfold jJ
 rw[dw,nH,nH,qL,qL,AV]
 grind
end
theorem cg{p:Part}{d:Wh.Kind}(hd:kindOf p.kind=d)(h:Wh.nodeCount d=2\/Wh.nodeCount d=4):(aE p).node 0=p.a.toNat/\(aE p).node 1=p.b.toNat:=by
 unfold Wh.Elem.node aE
 dsimp only
 rw[hd]
 rcases h with h |h <;>rw[h] <;>exact⟨rfl,rfl⟩
theorem gS{p:Part}{d:Wh.Kind}(hd:kindOf p.kind=d)(h:Wh.nodeCount d=4):(aE p).node 2=p.c.toNat/\(aE p).node 3=p.d.toNat:=by
 unfold Wh.Elem.node aE
 dsimp only
 rw[hd,h]
 exact⟨rfl,rfl⟩
theorem C4{p:Part}{d:Wh.Kind}(hd:kindOf p.kind=d)(hM:d≠.M)(h:Wh.refCount d=1):(aE p).refs.getD 0 0=p.c.toNat:=by
 unfold aE
 dsimp only
 rw[hd,if_neg hM,h]
 rfl
theorem rX{σ:PF}{m:Nat}{ts:List Term}{L:Wh.Law}(κ:Rat)(hκ:0<κ)(h:∀φ:Nat->PF,Pv φ ts=PF.const κ*Lv φ σ m L):Al (zE σ m) [ts] [L]:= .cons ⟨κ,hκ,h⟩ .nil
section
variable {n:Nw}(R:Right n){g:gK}{G:Wh.Setting}(S:ie n g G){k:Nat}(hk:k<n.af.length)
noncomputable def Pb (φ:Nat->PF) (n:Nw) (sh:List (Int×Int×Int)):PF:=sh.foldr (fun x acc=>PF.const ((x.2.1:Rat) / (x.2.2:Rat))*φ ((ao n).at_ x.1.toNat)+acc) 0
theorem rY:∀(sh:List (Int×Int×Int)) (c:Int),0<c->(∀x∈sh,0<x.2.2)->0<sh.foldl (fun c x=>c*x.2.2) c
 |[],c,hc,_=>hc
 |x::sh,c,hc,h=>rY sh _ (Int.mul_pos hc (h x List.mem_cons_self)) fun y hy=>h y (List.mem_cons_of_mem _ hy)
theorem zG:∀(sh:List (Int×Int×Int)) (c:Int),c ∣ sh.foldl (fun c x=>c*x.2.2) c/\∀x∈sh,x.2.2 ∣ sh.foldl (fun c x=>c*x.2.2) c
 |[],c=>⟨Int.dvd_refl _,fun _ h=>by cases h⟩
 |x::sh,c=>by
  obtain⟨h1,h2⟩:=zG sh (c*x.2.2)
  refine⟨Int.dvd_trans ⟨x.2.2,rfl⟩ h1,fun y hy=> ?_⟩
  rcases List.mem_cons.mp hy with rfl |hy
  ·exact Int.dvd_trans ⟨c,Int.mul_comm _ _⟩ h1
  ·exact h2 y hy
include R S
theorem BQ(φ:Nat->PF)(cm:Int)(hcm:0<cm):∀sh:List (Int×Int×Int),(∀x∈sh,0<=x.1/\x.1<n.af.length/\0<x.2.2/\x.2.2 ∣ cm)->
  Pv φ (sh.flatMap fun x=>nh (nh (cur g x.1) g.s) (cst (-x.2.1*cm.fdiv x.2.2)))= - (PF.const (cm:Rat)*(aG g.s*Pb φ n sh))
 |[],_=>by
  show(0:PF)= -(_* (_* 0))
  grind
 |x::sh,h=>by
  obtain⟨h0,h1,h2,h3⟩:=h x List.mem_cons_self
  rw[List.flatMap_cons,dw,BQ φ cm hcm sh (fun y hy=>h y (List.mem_cons_of_mem _ hy)),nH,nH,C3 R S φ h0 h1,qL]
  obtain⟨q,hq⟩:=h3
  have e:cm.fdiv x.2.2=q:=by
   rw[hq,Int.mul_comm,Int.mul_fdiv_cancel _ (by lia)]
  have e2:PF.const ((-x.2.1*q:Int):Rat)= - (PF.const (cm:Rat)*PF.const ((x.2.1:Rat) / (x.2.2:Rat))):=by
   rw[<-jA,<-cK]
   congr 1
   rw[hq]
   have:=gz h2
   push_cast
   grind
  rw[e,e2]
  show _= -(PF.const (cm:Rat)*(aG g.s*(PF.const ((x.2.1:Rat) / (x.2.2:Rat))*φ ((ao n).at_ x.1.toNat)+Pb φ n sh)))
  grind
end
theorem zH(φ:Nat->PF)(n:Nw)(x:Int×Int×Int)(sh:List (Int×Int×Int)):Pb φ n (x::sh)=PF.const ((x.2.1:Rat) / (x.2.2:Rat))*φ ((ao n).at_ x.1.toNat)+Pb φ n sh:=rfl
theorem xy(φ:Nat->PF)(n:Nw)(k:Nat):∀(ps:List Part),(∀p∈ps,Pn p/\(p.kind=3->p.a≠p.b))->
  Rv φ (((ps.map aE).filterMap fun(x:Wh.Elem)=>if x.kind= .M then(if x.refs.getD 0 0=k then some (x.refs.getD 1 0,x.q) else if x.refs.getD 1 0=k then some (x.refs.getD 0 0,x.q) else none) else none).map fun(p:Nat×Rat)=>((ao n).at_ p.1,-p.2))=
   - Pb φ n ((ps.filter fun p=>decide (p.kind=3/\((k:Int)=p.a\/(k:Int)=p.b))).map fun p=>(p.a+p.b - k,p.top,p.aC))
 |[],_=>by
  show(0:PF)= - 0
  grind
 |p::ps,h=>by
  obtain⟨hp,hab⟩:=h p List.mem_cons_self
  have ih:=xy φ n k ps fun q hq=>h q (List.mem_cons_of_mem _ hq)
  rw[List.map_cons,List.filterMap_cons]
  have eM:(aE p).kind= .M↔p.kind=3:=hp.M
  have a0:=hp.a0
  have b0:=hp.b0
  by_cases h3:p.kind=3
  ·have r0:(aE p).refs.getD 0 0=p.a.toNat/\(aE p).refs.getD 1 0=p.b.toNat:=by
    unfold aE
    dsimp only
    rw[if_pos (hp.M.mpr h3)]
    exact⟨rfl,rfl⟩
   have hne:=hab h3
   rw[if_pos (eM.mpr h3),r0.1,r0.2]
   by_cases ka:p.a.toNat=k
   ·rw[if_pos ka]
    dsimp only
    rw[List.filter_cons_of_pos (by exact decide_eq_true ⟨h3,.inl (by lia)⟩),List.map_cons,List.map_cons,zH]
    show PF.const (-(aE p).q)*φ ((ao n).at_ p.b.toNat)+Rv φ _=_
    rw[ih,cK,C1]
    have e:(p.a+p.b - (k:Int)).toNat=p.b.toNat:=by lia
    rw[e]
    grind
   ·rw[if_neg ka]
    by_cases kb:p.b.toNat=k
    ·rw[if_pos kb]
     dsimp only
     rw[List.filter_cons_of_pos (by exact decide_eq_true ⟨h3,.inr (by lia)⟩),List.map_cons,List.map_cons,zH]
     show PF.const (-(aE p).q)*φ ((ao n).at_ p.a.toNat)+Rv φ _=_
     rw[ih,cK,C1]
     have e:(p.a+p.b - (k:Int)).toNat=p.a.toNat:=by lia
     rw[e]
     grind
    ·rw[if_neg kb]
     dsimp only
     rw[List.filter_cons_of_neg (by rw[decide_eq_true_iff];lia)]
     exact ih
  ·rw[if_neg (fun e=>h3 (eM.mp e))]
   dsimp only
   rw[List.filter_cons_of_neg (by rw[decide_eq_true_iff];exact fun q=>h3 q.1)]
   exact ih
section
variable {n:Nw}(R:Right n){g:gK}{G:Wh.Setting}(S:ie n g G){k:Nat}(hk:k<n.af.length)
include R
theorem zI(hk2:(n.af.getD k p0).kind=2)(hk:k<n.af.length):∀x∈bt n.af k,0<=x.1/\x.1<n.af.length/\1<=x.2.2/\x.2.2<=1000000/\x.2.1.natAbs<=1000000:=fun x hx=>by
 unfold bt at hx
 rcases List.mem_cons.mp hx with rfl |hx
 ·have:=R.p hk
  exact⟨Int.natCast_nonneg _,by show(k:Int)<_;lia,this.b1,this.b2,this.t⟩
 ·obtain⟨p,hp,rfl⟩:=List.mem_map.mp hx
  obtain⟨hm,hc⟩:=List.mem_filter.mp hp
  have hc:=of_decide_eq_true hc
  obtain⟨i,hi,e⟩:=List.getElem_of_mem hm
  have ep:n.af.getD i p0=p:=by rw[gDe,List.getElem?_eq_getElem hi,e];rfl
  have cp:=R.Mw hi (by rw[ep];exact hc.1)
  have pp:=R.p hi
  rw[ep] at cp pp
  have:=pp.a0
  have:=pp.b0
  refine⟨?_,?_,pp.b1,pp.b2,pp.t⟩
  ·show 0<=p.a+p.b - (k:Int)
   lia
  ·show p.a+p.b - (k:Int)<_
   lia
include S
theorem KY(hk:k<n.af.length):Al (zE (aG g.s) (ao n).unknowns) (cJ g k) ((ao n).lawsOf G k (aE (n.af.getD k p0))):=by
 have pp:=R.p hk
 have a0:=pp.a0
 have b0:=pp.b0
 have c0:=pp.c0
 have d0:=pp.d0
 have bp:(0:Rat)<((n.af.getD k p0).aC:Rat):=gz (by have:=pp.b1;lia)
 have cd:=qP (a:=(n.af.getD k p0).top) (b:=(n.af.getD k p0).aC) (by have:=pp.b1;lia)
 have ck:∀φ,Pv φ (cur g (k:Int))=φ ((ao n).at_ k):=fun φ=>by
  have:=C3 R S φ (j:=(k:Int)) (by lia) (by lia)
  rwa [Int.toNat_natCast] at this
 have c1:=cX
 have c00:=zl
 unfold cJ Wh.Net.lawsOf
 rw[S.aO]
 dsimp only
 rw[fV,C1]
 have mn:=(R.g1 hk).num
 have fo:=R.Pa hk
 have oi:=S.on k hk
 have va:=S.val k hk
 have dr:=S.drop k hk
 have cpl:=xy
 generalize hp:n.af.getD k p0=p at *
 rcases nF pp.k0 pp.k1 with e |e |e |e |e |e |e |e |e |e |e |e |e |e
 ·have hd:kindOf p.kind= .R:=by rw[e];rfl
  have ek:p.kind.toNat=0:=by rw[e];rfl
  rw[hd,ek]
  dsimp only
  obtain⟨n0,n1⟩:=cg hd (.inl rfl)
  refine rX p.aC bp fun φ=> ?_
  unfold Lv
  dsimp only
  rw[n0,n1,lC,ck,d4,cY φ p.a p.b a0 b0]
  unfold jl
  rw[ic]
  simp only[Rv,cK]
  grind
 ·have hd:kindOf p.kind= .C:=by rw[e];rfl
  have ek:p.kind.toNat=1:=by rw[e];rfl
  rw[hd,ek]
  dsimp only
  obtain⟨n0,n1⟩:=cg hd (.inl rfl)
  refine rX p.aC bp fun φ=> ?_
  unfold Lv
  dsimp only
  rw[n0,n1,lC,ck,cY φ p.a p.b a0 b0,nH]
  unfold jl
  rw[ic]
  simp only[Rv,cK]
  grind
 ·have hd:kindOf p.kind= .L:=by rw[e];rfl
  have ek:p.kind.toNat=2:=by rw[e];rfl
  rw[hd,ek]
  dsimp only
  obtain⟨n0,n1⟩:=cg hd (.inl rfl)
  have sin:=zI R (k:=k) (by rw[hp];exact e) hk
  have cpos:0<common (bt n.af k):=rY _ 1 (by decide) fun x hx=>by have:=sin x hx;lia
  have cdv:=(zG (bt n.af k) 1).2
  refine rX (common (bt n.af k):Rat) (gz cpos) fun φ=> ?_
  unfold nj Lv
  dsimp only
  rw[S.aO,dw,nH,qL,BQ R S φ _ cpos _ (fun x hx=>⟨(sin x hx).1,(sin x hx).2.1,by have:=sin x hx;lia,cdv x hx⟩),n0,n1,cY φ p.a p.b a0 b0,hp]
  unfold jl
  rw[ic]
  have e1:Rv φ (((ao n).at_ k,-((p.top:Rat) / (p.aC:Rat)))::((ao n).coupled k).map fun(p:Nat×Rat)=>((ao n).at_ p.1,-p.2))= - Pb φ n (bt n.af k):=by
   show PF.const (-((p.top:Rat) / (p.aC:Rat)))*φ ((ao n).at_ k)+Rv φ _=_
   unfold Wh.Net.coupled
   have:=cpl φ n k n.af (fun q hq=>⟨R.pn q hq,fun e3=>by
    obtain⟨i,hi,ei⟩:=List.getElem_of_mem hq
    have ep:n.af.getD i p0=q:=by rw[gDe,List.getElem?_eq_getElem hi,ei];rfl
    have:=R.Mw hi (by rw[ep];exact e3)
    rw[ep] at this
    exact this.1⟩)
   rw[show(ao n).elems=n.af.map aE from rfl,this]
   unfold bt
   rw[zH,hp,Int.toNat_natCast,cK]
   grind
  rw[e1]
  grind
 ·have hd:kindOf p.kind= .M:=by rw[e];rfl
  have ek:p.kind.toNat=3:=by rw[e];rfl
  rw[hd,ek]
  exact .nil
 ·have hd:kindOf p.kind= .V:=by rw[e];rfl
  have ek:p.kind.toNat=4:=by rw[e];rfl
  rw[hd,ek]
  dsimp only
  obtain⟨n0,n1⟩:=cg hd (.inl rfl)
  obtain⟨v1,v2⟩:=va (.inl e)
  refine rX _ (gz v1) fun φ=> ?_
  unfold Lv
  dsimp only
  have:=qP (a:=(g.drives.getD k (0,1)).1) v1
  rw[n0,n1,Gy R S,v2,cY φ p.a p.b a0 b0]
  unfold jl
  rw[ic]
  simp only[Rv]
  grind
 ·have hd:kindOf p.kind= .I:=by rw[e];rfl
  have ek:p.kind.toNat=5:=by rw[e];rfl
  rw[hd,ek]
  dsimp only
  obtain⟨v1,v2⟩:=va (.inr e)
  refine rX _ (gz v1) fun φ=> ?_
  unfold Lv
  dsimp only
  have:=qP (a:=(g.drives.getD k (0,1)).1) v1
  rw[Gy R S,v2,ck]
  simp only[Rv]
  grind
 ·have hd:kindOf p.kind= .E:=by rw[e];rfl
  have ek:p.kind.toNat=6:=by rw[e];rfl
  rw[hd,ek]
  dsimp only
  obtain⟨n0,n1⟩:=cg hd (.inr rfl)
  obtain⟨n2,n3⟩:=gS hd rfl
  refine rX p.aC bp fun φ=> ?_
  unfold Lv
  dsimp only
  rw[n0,n1,n2,n3,lC,d4,cY φ p.a p.b a0 b0,cY φ p.c p.d c0 d0]
  unfold jl CK
  rw[ic,ic]
  simp only[Rv,cK]
  grind
 ·have hd:kindOf p.kind= .G:=by rw[e];rfl
  have ek:p.kind.toNat=7:=by rw[e];rfl
  rw[hd,ek]
  dsimp only
  obtain⟨n2,n3⟩:=gS hd rfl
  refine rX p.aC bp fun φ=> ?_
  unfold Lv
  dsimp only
  rw[n2,n3,lC,ck]
  show _=_* (PF.const 1*φ ((ao n).at_ k)+Rv φ (Wh.across p.c.toNat p.d.toNat (-((p.top:Rat) / (p.aC:Rat))))+aG g.s*0+_)
  rw[cY φ p.c p.d c0 d0]
  unfold CK
  rw[ic]
  simp only[cK]
  grind
 ·have hd:kindOf p.kind= .H:=by rw[e];rfl
  have ek:p.kind.toNat=8:=by rw[e];rfl
  rw[hd,ek]
  dsimp only
  obtain⟨n0,n1⟩:=cg hd (.inl rfl)
  have r0:=C4 hd (by decide) rfl
  have ff:=fo (.inl e)
  refine rX p.aC bp fun φ=> ?_
  unfold Lv
  dsimp only
  rw[n0,n1,r0,lC,d4,cY φ p.a p.b a0 b0,C3 R S φ c0 (by lia)]
  unfold jl
  rw[ic]
  simp only[Rv,cK]
  grind
 ·have hd:kindOf p.kind= .F:=by rw[e];rfl
  have ek:p.kind.toNat=9:=by rw[e];rfl
  rw[hd,ek]
  dsimp only
  have r0:=C4 hd (by decide) rfl
  have ff:=fo (.inr e)
  refine rX p.aC bp fun φ=> ?_
  unfold Lv
  dsimp only
  rw[r0,lC,ck,C3 R S φ c0 (by lia)]
  simp only[Rv,cK]
  grind
 ·have hd:kindOf p.kind= .T:=by rw[e];rfl
  have ek:p.kind.toNat=10:=by rw[e];rfl
  rw[hd,ek]
  dsimp only
  obtain⟨n0,n1⟩:=cg hd (.inr rfl)
  obtain⟨n2,n3⟩:=gS hd rfl
  refine .cons ⟨p.aC,bp,fun φ=> ?_⟩ (rX p.aC bp fun φ=> ?_)
  ·unfold Lv
   dsimp only
   rw[n0,n1,n2,n3,lC,d4,cY φ p.a p.b a0 b0,cY φ p.c p.d c0 d0]
   unfold jl CK
   rw[ic,ic]
   simp only[Rv,cK]
   grind
  ·unfold Lv
   dsimp only
   rw[lC,nH,ck,zF]
   have e1:Pv φ [((places n).getD k 0+1,[1])]=φ ((ao n).at_ k+1):=by
    show aG [1]*φ ((places n).getD k 0+1).toNat+0=_
    have:((places n).getD k 0+1).toNat=(ao n).at_ k+1:=by
     rw[R.place hk];lia
    rw[this,uq]
    grind
   rw[e1]
   simp only[Rv]
   grind
 ·have hd:kindOf p.kind= .O:=by rw[e];rfl
  have ek:p.kind.toNat=11:=by rw[e];rfl
  rw[hd,ek]
  dsimp only
  obtain⟨n2,n3⟩:=gS hd rfl
  refine rX 1 (by decide) fun φ=> ?_
  unfold Lv
  dsimp only
  rw[n2,n3,cY φ p.c p.d c0 d0]
  unfold CK
  rw[ic]
  simp only[Rv]
  grind
 ·have hd:kindOf p.kind= .S:=by rw[e];rfl
  have ek:p.kind.toNat=12:=by rw[e];rfl
  rw[hd,ek]
  show Al _ [if p.top=0 then cur g k else jl p] (if(p.top:Rat) / (p.aC:Rat)=1 then[_] else[_])
  obtain⟨n0,n1⟩:=cg hd (.inl rfl)
  have hm:p.top=0\/p.top=p.aC:=by
   unfold jI at mn
   rw[if_neg (by lia),if_neg (by lia),if_neg (by lia),if_pos e] at mn
   exact of_decide_eq_true mn
  by_cases ht:p.top=0
  ·rw[if_pos ht,if_neg (by
    rw[ht]
    intro q
    have:(((0:Int):Rat) / (p.aC:Rat))=0:=by
     push_cast
     grind
    rw[this] at q
    exact absurd q (by decide))]
   refine rX 1 (by decide) fun φ=> ?_
   unfold Lv
   dsimp only
   rw[ck]
   simp only[Rv]
   grind
  ·have htb:p.top=p.aC:=hm.resolve_left ht
   rw[if_neg ht,if_pos (by rw[htb];grind)]
   refine rX 1 (by decide) fun φ=> ?_
   unfold Lv
   dsimp only
   rw[n0,n1,cY φ p.a p.b a0 b0]
   unfold jl
   rw[ic]
   simp only[Rv]
   grind
 ·have hd:kindOf p.kind= .D:=by rw[e];rfl
  have ek:p.kind.toNat=13:=by rw[e];rfl
  rw[hd,ek]
  show Al _ (if g.cU.getD k false=true then[Ep g k (jl p)] else[cur g k]) (if G.on k=true then[_] else[_])
  obtain⟨n0,n1⟩:=cg hd (.inl rfl)
  obtain⟨v1,v2⟩:=dr e
  rw[oi]
  by_cases ho:g.cU.getD k false=true
  ·rw[if_pos ho,if_pos ho]
   refine rX _ (gz v1) fun φ=> ?_
   unfold Lv
   dsimp only
   have:=qP (a:=(g.drives.getD k (0,1)).1) v1
   rw[n0,n1,Gy R S,v2,cY φ p.a p.b a0 b0]
   unfold jl
   rw[ic]
   simp only[Rv]
   grind
  ·rw[if_neg ho,if_neg ho]
   refine rX 1 (by decide) fun φ=> ?_
   unfold Lv
   dsimp only
   rw[ck]
   simp only[Rv]
   grind
end
theorem cW(n:Nw):(ao n).indexed=(List.range n.af.length).map fun k=>(k,aE (n.af.getD k p0)):=by
 unfold Wh.Net.indexed
 rw[C0 (ao n).elems (aE p0),List.map_map]
 show(List.range (n.af.map aE).length).map _=_
 rw[lMp]
 apply List.map_congr_left
 intro i hi
 have hi:=List.mem_range.mp hi
 show(i,(n.af.map aE).getD i (aE p0))=_
 rw[gDe,List.getElem?_map,gDe,List.getElem?_eq_getElem hi]
 rfl
theorem Ia(φ:Nat->PF){γ:Type}{f:γ->List Term}{h:γ->List (Nat×Rat)}:∀(l:List γ),(∀i∈l,Pv φ (f i)=Rv φ (h i))->Pv φ (l.flatMap f)=Rv φ (l.flatMap h)
 |[],_=>rfl
 |x::l,e=>by
  rw[List.flatMap_cons,List.flatMap_cons,dw,d4,e x List.mem_cons_self,Ia φ l fun i hi=>e i (List.mem_cons_of_mem _ hi)]
theorem rB(n:Nw):(places n).length=n.af.length:=by
 unfold places
 have:∀(ps:List Part) (f:Int),(dC f ps).length=ps.length:=by
  intro ps
  induction ps with
  |nil=>intro f;rfl
  |cons p ps ih=>intro f;show(dC _ ps).length+1=_;rw[ih];rfl
 exact this _ _
theorem Gz(φ:Nat->PF)(c:Prop) [Decidable c](i:Nat):Rv φ (if c then[(i,1)] else[])=if c then φ i else 0:=by
 split
 ·show PF.const 1*φ i+0=_
  rw[cX];grind
 ·rfl
theorem GA(φ:Nat->PF)(c:Prop) [Decidable c](i:Nat):Rv φ (if c then[(i,-1)] else[])=if c then - φ i else 0:=by
 split
 ·show PF.const (-1)*φ i+0=_
  rw[cK,cX];grind
 ·rfl
theorem GB(φ:Nat->PF)(c:Prop) [Decidable c](i:Int):Pv φ (if c then[(i,[1])] else[])=if c then φ i.toNat else 0:=by
 split
 ·show aG [1]*φ i.toNat+0=_
  rw[uq];grind
 ·rfl
theorem GC(φ:Nat->PF)(c:Prop) [Decidable c](i:Int):Pv φ (if c then[(i,[-1])] else[])=if c then - φ i.toNat else 0:=by
 split
 ·show aG [-1]*φ i.toNat+0=_
  rw[zF];grind
 ·rfl
theorem KZ{n:Nw}(R:Right n)(σ:PF)(m v:Nat):zE σ m (gv n ((v:Int)+1)) ⟨(ao n).indexed.flatMap fun(p:Nat×Wh.Elem)=>(ao n).outOf (v+1) p.1 p.2,[],0⟩:=by
 refine⟨1,by decide,fun φ=> ?_⟩
 unfold Lv
 dsimp only
 have e:Pv φ (gv n ((v:Int)+1))=Rv φ ((ao n).indexed.flatMap fun(p:Nat×Wh.Elem)=>(ao n).outOf (v+1) p.1 p.2):=by
  unfold gv
  rw[BO n.af (places n) p0 0 (rB n),cW,List.flatMap_map,List.flatMap_map]
  refine Ia φ _ fun k hk=> ?_
  have hk:=List.mem_range.mp hk
  dsimp only
  have pp:=R.p hk
  rw[R.place hk]
  unfold Wh.Net.outOf
  dsimp only
  rw[fV]
  generalize n.af.getD k p0=p at pp⊢
  have a0:=pp.a0
  have b0:=pp.b0
  have c0:=pp.c0
  have d0:=pp.d0
  have ca:p.a=(v:Int)+1↔p.a.toNat=v+1:=by lia
  have cb:p.b=(v:Int)+1↔p.b.toNat=v+1:=by lia
  have cc:p.c=(v:Int)+1↔p.c.toNat=v+1:=by lia
  have cd:p.d=(v:Int)+1↔p.d.toNat=v+1:=by lia
  have t1:∀i:Nat,((i:Int)).toNat=i:=fun i=>Int.toNat_natCast i
  have t2:∀i:Nat,((i:Int)+1).toNat=i+1:=fun i=>by lia
  by_cases h3:p.kind=3
  ·rw[if_pos h3,if_pos (pp.M.mpr h3)];rfl
  ·rw[if_neg h3,if_neg (fun e=>h3 (pp.M.mp e))]
   by_cases h10:p.kind=10
   ·rw[if_pos h10,if_pos (pp.T.mpr h10)]
    obtain⟨n0,n1⟩:=cg (pp.T.mpr h10) (.inr rfl)
    obtain⟨n2,n3⟩:=gS (pp.T.mpr h10) rfl
    rw[n0,n1,n2,n3]
    rw[dw,dw,dw,d4,d4,d4,GB,GB,GC,GC,Gz,Gz,GA,GA]
    simp only[ca,cb,cc,cd,t1,t2]
    grind
   ·rw[if_neg h10,if_neg (fun e=>h10 (pp.T.mp e))]
    have nc:Wh.nodeCount (kindOf p.kind)=2\/Wh.nodeCount (kindOf p.kind)=4:=by
     unfold Wh.nodeCount
     rw[if_neg (fun e=>h3 (pp.M.mp e))]
     split
     ·exact .inr rfl
     ·exact .inl rfl
    obtain⟨n0,n1⟩:=cg (rfl:kindOf p.kind=kindOf p.kind) nc
    rw[n0,n1]
    rw[dw,dw,d4,GB,GC,Gz,GA]
    simp only[ca,cb,t1]
    show _+ (0:PF)=_
    grind
 rw[e,cX,zl]
 show _=1*(_+ σ*0+0*φ m)
 grind
theorem qQ{n:Nw}(R:Right n){g:gK}{G:Wh.Setting}(S:ie n g G):Al (zE (aG g.s) (ao n).unknowns) (dD g) ((ao n).laws G):=by
 unfold dD Wh.Net.laws
 rw[S.aO]
 refine Al.append ?_ ?_
 ·exact HX _ fun v _=>KZ R _ _ v
 ·rw[cW,List.flatMap_map]
  exact HY _ fun k hk=>KY R S (List.mem_range.mp hk)
theorem GD(N:Wh.Net)(G:Wh.Setting)(k:Nat)(x:Wh.Elem):(N.lawsOf G k x).length=x.currents:=by
 unfold Wh.Net.lawsOf Wh.Elem.currents
 dsimp only
 cases x.kind <;>simp <;>split <;>rfl
theorem pY{γ β:Type}{f:γ->List β}{c:γ->Nat}:∀(l:List γ),(∀i∈l,(f i).length=c i)->(l.flatMap f).length=Wh.sumNat (l.map c)
 |[],_=>rfl
 |x::l,h=>by
  rw[List.flatMap_cons,List.length_append,List.map_cons,bX,h x List.mem_cons_self,pY l fun i hi=>h i (List.mem_cons_of_mem _ hi)]
theorem eW(n:Nw)(G:Wh.Setting):((ao n).laws G).length=(ao n).unknowns:=by
 unfold Wh.Net.laws
 rw[List.length_append,lMp,List.length_range,pY (c:=fun p:Nat×Wh.Elem=>p.2.currents) _ (fun p _=>GD _ _ _ _)]
 unfold Wh.Net.unknowns Wh.Net.at_
 congr 2
 rw[List.take_length,cW,List.map_map]
 show _=(n.af.map aE).map Wh.Elem.currents
 rw[BN (n.af.map aE) (aE p0),List.map_map,lMp]
 apply List.map_congr_left
 intro i hi
 have hi:=List.mem_range.mp hi
 show(aE (n.af.getD i p0)).currents=((n.af.map aE).getD i (aE p0)).currents
 congr 1
 rw[gDe,gDe,List.getElem?_map,List.getElem?_eq_getElem hi]
 rfl
theorem vY(row:fU)(t:Term):(pP row t).length=row.length:=by unfold pP;simp
theorem BR(row:fU)(i j:Nat)(x:aQ)(h:j<row.length):(row.set i x).getD j []=if j=i then x else row.getD j []:=by
 rw[gDe,gDe,List.getElem?_set]
 by_cases q:i=j
 ·subst q
  rw[if_pos rfl,if_pos h,if_pos rfl];rfl
 ·rw[if_neg q,if_neg (Ne.symm q)]
theorem EJ(j:Nat):∀(ts:List Term) (row:fU),j<row.length->aG ((ts.foldl pP row).getD j [])=aG (row.getD j [])+Pv (ei j) ts
 |[],row,_=>by
  show _=_+ (0:PF)
  rw[List.foldl_nil]
  grind
 |t::ts,row,h=>by
  rw[List.foldl_cons,EJ j ts _ (by rw[vY];exact h)]
  show _=_+ (aG t.2*ei j t.1.toNat+Pv (ei j) ts)
  unfold pP
  rw[BR _ _ _ _ h]
  by_cases q:j=t.1.toNat
  ·rw[if_pos q,Er,<-q,oE]
   grind
  ·rw[if_neg q,rz (Ne.symm q)]
   grind
theorem BS(j:Nat):∀(ts:List Term) (row:fU),j<row.length->Trim (row.getD j [])->Trim ((ts.foldl pP row).getD j [])
 |[],_,_,h=>h
 |t::ts,row,h,ht=>by
  rw[List.foldl_cons]
  refine BS j ts _ (by rw[vY];exact h) ?_
  unfold pP
  rw[BR _ _ _ _ h]
  split
  ·exact Jb _ _
  ·exact ht
theorem BU:∀(ts:List Term) (row:fU),(ts.foldl pP row).length=row.length
 |[],_=>rfl
 |t::ts,row=>by rw[List.foldl_cons,BU ts,vY]
theorem EK(m j:Nat):(List.replicate m ([]:aQ)).getD j []=[]:=by
 rw[gDe,List.getElem?_replicate]
 split <;>rfl
theorem qR(w:Int)(ts:List Term)(j:Nat)(h:j<(w+1).toNat):aG ((rowOf w ts).getD j [])=Pv (ei j) ts/\Trim ((rowOf w ts).getD j [])/\(rowOf w ts).length=(w+1).toNat:=by
 unfold rowOf
 refine⟨?_,BS j ts _ (by rw[List.length_replicate];exact h) (by rw[EK];exact pQ),by rw[BU,List.length_replicate]⟩
 rw[EJ j ts _ (by rw[List.length_replicate];exact h),EK]
 show(0:PF)+_=_
 grind
noncomputable def L0:Wh.Law:=⟨[],[],0⟩
noncomputable def Sm (n:Nw) (G:Wh.Setting) (σ:PF):Nat->Nat->PF:=fun i j=>Lv (ei j) σ (ao n).unknowns (((ao n).laws G).getD i L0)
section
variable {n:Nw}(R:Right n){g:gK}{G:Wh.Setting}(S:ie n g G)
include R S
theorem K0:(rows g).length=(ao n).unknowns:=by
 unfold rows
 rw[lMp,(qQ R S).len,eW]
theorem uu{i:Nat}(h:i<(ao n).unknowns):(rows g).getD i []=rowOf (width n) ((dD g).getD i []):=by
 have l:(dD g).length=(ao n).unknowns:=by rw[(qQ R S).len,eW]
 unfold rows
 rw[gDe,List.getElem?_map,gDe,List.getElem?_eq_getElem (by lia),S.aO]
 rfl
theorem uv:Tab (ao n).unknowns (rows g):=by
 have w:(width n+1).toNat=(ao n).unknowns+1:=by rw[R.vX];lia
 refine⟨K0 R S,fun i hi=> ?_,fun i j hi hj=> ?_⟩
 ·rw[uu R S hi,(qR (width n) _ 0 (by lia)).2.2,w]
 ·unfold ent
  rw[uu R S hi]
  exact(qR _ _ j (by lia)).2.1
theorem K1:∃κ:Nat->Rat,(∀i,i<(ao n).unknowns->0<κ i)/\∀i j,i<(ao n).unknowns->j<(ao n).unknowns+1->oG (rows g) i j=PF.const (κ i)*Sm n G (aG g.s) i j:=by
 have w:(width n+1).toNat=(ao n).unknowns+1:=by rw[R.vX];lia
 have l:(dD g).length=(ao n).unknowns:=by rw[(qQ R S).len,eW]
 have rel:∀i,i<(ao n).unknowns->zE (aG g.s) (ao n).unknowns ((dD g).getD i []) (((ao n).laws G).getD i L0):=fun i hi=>(qQ R S).get [] L0 i (by lia)
 refine⟨fun i=>if h:i<(ao n).unknowns then Classical.choose (rel i h) else 1,fun i hi=> ?_,fun i j hi hj=> ?_⟩
 ·dsimp only
  rw[dif_pos hi]
  exact(Classical.choose_spec (rel i hi)).1
 ·dsimp only
  rw[dif_pos hi]
  unfold oG ent
  rw[uu R S hi,(qR _ _ j (by lia)).1]
  exact(Classical.choose_spec (rel i hi)).2 (ei j)
end
section
variable {A:Type} [CommRing A]
noncomputable def BV:Nat->(Nat->A)->A
 |0,_=>1
 |n+1,f=>BV n f*f n
theorem BW(n:Nat)(κ:Nat->A)(F:Nat->Nat->A):∀m,m<=n->det n (fun i j=>if i<m then κ i*F i j else F i j)=BV m κ*det n F
 |0,_=>by
  show _=1*_
  rw[bg n (B:=F) fun i j _ _=>by rw[if_neg (by lia)]]
  grind
 |m+1,h=>by
  have ih:=BW n κ F m (by lia)
  have e:(fun i j=>if i<m+1 then κ i*F i j else F i j)=a8 (fun i j=>if i<m then κ i*F i j else F i j) m (fun j=>κ m*F m j):=by
   funext i j
   show _=if i=m then κ m*F m j else if i<m then κ i*F i j else F i j
   by_cases q:i=m
   ·rw[if_pos q,if_pos (by lia),q]
   ·rw[if_neg q]
    by_cases q2:i<m
    ·rw[if_pos q2,if_pos (by lia)]
    ·rw[if_neg q2,if_neg (by lia)]
  have e2:a8 (fun i j=>if i<m then κ i*F i j else F i j) m (F m)=fun i j=>if i<m then κ i*F i j else F i j:=by
   funext i j
   show(if i=m then F m j else if i<m then κ i*F i j else F i j)=_
   by_cases q:i=m
   ·rw[if_pos q,if_neg (by lia),q]
   ·rw[if_neg q]
  rw[e,lZ n _ m (κ m) (F m) (by lia),e2,ih]
  show _=BV m κ*κ m*det n F
  grind
theorem zJ(n:Nat)(κ:Nat->A)(F B:Nat->Nat->A)(h:∀i j,i<n->j<n->B i j=κ i*F i j):det n B=BV n κ*det n F:=by
 rw[<-BW n κ F n (Nat.le_refl _)]
 exact bg n fun i j hi hj=>by rw[if_pos hi];exact h i j hi hj
end
theorem zK(κ:Nat->Rat):∀m,(∀i,i<m->0<κ i)->∃c:Rat,0<c/\BV m (fun i=>PF.const (κ i))=PF.const c
 |0,_=>⟨1,by decide,rfl⟩
 |m+1,h=>by
  obtain⟨c,hc,e⟩:=zK κ m fun i hi=>h i (by lia)
  refine⟨c*κ m,Rat.mul_pos hc (h m (by lia)),?_⟩
  show BV m _* PF.const (κ m)=_
  rw[e,jA]
theorem EL{n:Nw}(R:Right n){g:gK}{G:Wh.Setting}(S:ie n g G):
  (∃d tops,sol (rows g)=some (d,tops)/\tops.length=(ao n).unknowns/\Trim d/\d≠[]/\(∀c,c<(ao n).unknowns->Trim (tops.getD c []))/\∃q:Rat,q≠0/\aG d=PF.const q*det (ao n).unknowns (Sm n G (aG g.s))/\∀c,c<(ao n).unknowns->aG (tops.getD c [])=PF.const q*det (ao n).unknowns (bC (Sm n G (aG g.s)) c fun i=>Sm n G (aG g.s) i (ao n).unknowns))\/
  (sol (rows g)=none/\det (ao n).unknowns (Sm n G (aG g.s))=0/\∃x:Nat->PF,(∃j,j<(ao n).unknowns/\x j≠0)/\∀i,i<(ao n).unknowns->a7 (ao n).unknowns (fun d=>Sm n G (aG g.s) i d*x d)=0):=by
 obtain⟨κ,kp,ke⟩:=K1 R S
 obtain⟨c,cp,ce⟩:=zK κ (ao n).unknowns kp
 have L5:c≠0:=fun e=>by rw[e] at cp;exact absurd cp (by decide)
 have dm:det (ao n).unknowns (oG (rows g))=PF.const c*det (ao n).unknowns (Sm n G (aG g.s)):=by
  rw[zJ _ (fun i=>PF.const (κ i)) (Sm n G (aG g.s)) _ fun i j hi hj=>ke i j hi (by lia),ce]
 rcases Gm (uv R S) with⟨d,tops,e,so⟩ |⟨e,h0,x,hx,hs⟩
 ·obtain⟨ε,he,hd,ht⟩:=so.sgn
  have es:∃q:Rat,q≠0/\ε=PF.const q:=by
   rcases he with e |e
   ·exact⟨1,by decide,by rw[e,cX]⟩
   ·exact⟨-1,by decide,by rw[e,cK,cX]⟩
  obtain⟨q,hq,eq⟩:=es
  refine .inl ⟨d,tops,e,so.len,so.xq,so.O9,so.trim,q*c,?_,?_,fun a ha=> ?_⟩
  ·exact fun z=>by rcases Rat.mul_eq_zero.mp z with z |z <;>contradiction
  ·rw[hd,dm,eq,jA]
   grind
  ·rw[ht a ha,zJ _ (fun i=>PF.const (κ i)) (bC (Sm n G (aG g.s)) a fun i=>Sm n G (aG g.s) i (ao n).unknowns) _ fun i j hi hj=>by
    show(if j=a then _ else _)=_* (if j=a then _ else _)
    split
    ·exact ke i _ hi (by lia)
    ·exact ke i j hi (by lia),ce,eq,jA]
   grind
 ·refine .inr ⟨e,?_,x,hx,fun i hi=> ?_⟩
  ·rw[dm] at h0
   exact PF.tP (gm L5) _ _ (by rw[h0];grind)
  ·have:=hs i hi
   have k0:κ i≠0:=fun e=>by have:=kp i hi;rw[e] at this;exact absurd this (by decide)
   refine PF.tP (gm k0) _ _ ?_
   rw[<-cj]
   rw[a9 (g:=fun d=>PF.const (κ i)*(Sm n G (aG g.s) i d*x d)) _ fun j hj=>by rw[ke i j hi (by lia)];grind] at this
   rw[this]
   grind
theorem i0:∀l m:List Nat,Wh.sumNat (l ++ m)=Wh.sumNat l+Wh.sumNat m
 |[],m=>by
  show Wh.sumNat m=0+_
  lia
 |a::l,m=>by rw[List.cons_append,bX,bX,i0 l m];lia
theorem EM(n:Nw){k:Nat}(h:k<n.af.length):∃r,(ao n).unknowns=(ao n).at_ k+(aE (n.af.getD k p0)).currents+r:=by
 have e:n.af.map aE=(n.af.map aE).take k ++ aE (n.af.getD k p0)::(n.af.map aE).drop (k+1):=by
  have h':k<(n.af.map aE).length:=by rw[lMp];exact h
  have q:(n.af.map aE)[k]=aE (n.af.getD k p0):=by
   rw[List.getElem_map,gDe,List.getElem?_eq_getElem h];rfl
  rw[<-q,List.getElem_cons_drop,List.take_append_drop]
 refine⟨Wh.sumNat (((n.af.map aE).drop (k+1)).map Wh.Elem.currents),?_⟩
 unfold Wh.Net.unknowns Wh.Net.at_
 rw[List.take_length]
 show n.last.toNat+Wh.sumNat ((n.af.map aE).map Wh.Elem.currents)=n.last.toNat+Wh.sumNat (((n.af.map aE).take k).map Wh.Elem.currents)+_+ _
 have:=congrArg (fun l=>Wh.sumNat (l.map Wh.Elem.currents)) e
 rw[this,List.map_append,i0,List.map_cons,bX]
 lia
theorem jO(n:Nw):n.last.toNat<=(ao n).unknowns:=by
 show n.last.toNat<=n.last.toNat+_
 lia
theorem Mx{p:Part}(h:Pn p)(h3:p.kind≠3):1<=(aE p).currents:=by
 unfold Wh.Elem.currents
 rw[fV,if_neg (fun e=>h3 (h.M.mp e))]
 split <;>decide
theorem My{p:Part}(h:Pn p)(h3:p.kind=10):(aE p).currents=2:=by
 unfold Wh.Elem.currents
 rw[fV,if_neg (fun e=>by have:=h.M.mp e;lia),if_pos (h.T.mpr h3)]
section
variable {n:Nw}(R:Right n)
include R
theorem mM{k:Nat}(h:k<n.af.length)(h3:(n.af.getD k p0).kind≠3):(ao n).at_ k<(ao n).unknowns:=by
 obtain⟨r,e⟩:=EM n h
 have:=Mx (R.p h) h3
 lia
theorem C5{k:Nat}(h:k<n.af.length)(h3:(n.af.getD k p0).kind=10):(ao n).at_ k+1<(ao n).unknowns:=by
 obtain⟨r,e⟩:=EM n h
 have:=My (R.p h) h3
 lia
omit R in
theorem Ib{m a:Nat}{q:Rat}(h:a<=m):∀t∈Wh.volt a q,t.1<m:=fun t ht=>by
 unfold Wh.volt at ht
 split at ht
 ·cases ht
 ·rw[List.mem_singleton.mp ht]
  show a - 1<m
  lia
omit R in
theorem cZ{m a b:Nat}{q:Rat}(ha:a<=m)(hb:b<=m):∀t∈Wh.across a b q,t.1<m:=fun t ht=>by
 rcases List.mem_append.mp ht with h |h
 ·exact Ib ha t h
 ·exact Ib hb t h
def OC(m:Nat)(L:Wh.Law):Prop:=(∀t∈L.terms,t.1<m)/\∀t∈L.byS,t.1<m
omit R in
theorem none_lt{m:Nat}:∀t∈([]:List (Nat×Rat)),t.1<m:=fun t h=>by cases h
omit R in
theorem jb{m i:Nat}{q:Rat}(h:i<m):∀t∈[(i,q)],t.1<m:=fun t ht=>by rw[List.mem_singleton.mp ht];exact h
omit R in
theorem pZ{m:Nat}{l r:List (Nat×Rat)}(hl:∀t∈l,t.1<m)(hr:∀t∈r,t.1<m):∀t∈l ++ r,t.1<m:=fun t ht=>(List.mem_append.mp ht).elim (hl t) (hr t)
theorem Jn(G:Wh.Setting){k:Nat}(hk:k<n.af.length):∀L∈(ao n).lawsOf G k (aE (n.af.getD k p0)),OC (ao n).unknowns L:=by
 have pp:=R.p hk
 have ab:=R.ab hk
 have cdd:=R.cd hk
 have fo:=R.Pa hk
 have nl:=jO n
 have al:=mM R hk
 have al2:=C5 R hk
 have a0:=pp.a0
 have b0:=pp.b0
 have c0:=pp.c0
 have d0:=pp.d0
 have lp:=R.l1
 unfold Wh.Net.lawsOf
 dsimp only
 rw[fV]
 have cpl:(n.af.getD k p0).kind=2->∀t∈((ao n).coupled k).map fun(p:Nat×Rat)=>((ao n).at_ p.1,-p.2),t.1<(ao n).unknowns:=fun _ t ht=>by
  obtain⟨q,hq,rfl⟩:=List.mem_map.mp ht
  unfold Wh.Net.coupled at hq
  obtain⟨x,hx,hxq⟩:=List.mem_filterMap.mp hq
  obtain⟨p,hp,rfl⟩:=List.mem_map.mp (show x∈n.af.map aE from hx)
  obtain⟨i,hi,ei⟩:=List.getElem_of_mem hp
  have ep:n.af.getD i p0=p:=by rw[gDe,List.getElem?_eq_getElem hi,ei];rfl
  by_cases hM:(aE p).kind= .M
  ·rw[if_pos hM] at hxq
   have h3:p.kind=3:=(R.pn p hp).M.mp hM
   have cp:=R.Mw hi (by rw[ep];exact h3)
   rw[ep] at cp
   have r0:(aE p).refs.getD 0 0=p.a.toNat/\(aE p).refs.getD 1 0=p.b.toNat:=by
    unfold aE
    dsimp only
    rw[if_pos (show kindOf p.kind= .M from hM)]
    exact⟨rfl,rfl⟩
   have pa:=(R.pn p hp).a0
   have pb:=(R.pn p hp).b0
   have key:∀z:Int,0<=z->z<i->kindAt n.af z=2->(ao n).at_ z.toNat<(ao n).unknowns:=fun z z0 zi zk=>mM R (by lia) (by
    unfold kindAt at zk
    rw[zk];decide)
   rw[r0.1,r0.2] at hxq
   split at hxq
   ·cases hxq
    exact key p.b pb cp.2.2.1 cp.2.2.2
   ·split at hxq
    ·cases hxq
     exact key p.a pa cp.2.1.1 cp.2.1.2
    ·cases hxq
  ·rw[if_neg hM] at hxq
   cases hxq
 generalize hp:n.af.getD k p0=p at *
 rcases nF pp.k0 pp.k1 with e |e |e |e |e |e |e |e |e |e |e |e |e |e
 ·have hd:kindOf p.kind= .R:=by rw[e];rfl
  rw[hd]
  obtain⟨n0,n1⟩:=cg hd (.inl rfl)
  rw[n0,n1]
  intro L hL
  rw[List.mem_singleton.mp hL]
  exact⟨pZ (cZ (by lia) (by lia)) (jb (al (by lia))),none_lt⟩
 ·have hd:kindOf p.kind= .C:=by rw[e];rfl
  rw[hd]
  obtain⟨n0,n1⟩:=cg hd (.inl rfl)
  rw[n0,n1]
  intro L hL
  rw[List.mem_singleton.mp hL]
  exact⟨jb (al (by lia)),cZ (by lia) (by lia)⟩
 ·have hd:kindOf p.kind= .L:=by rw[e];rfl
  rw[hd]
  obtain⟨n0,n1⟩:=cg hd (.inl rfl)
  rw[n0,n1]
  intro L hL
  rw[List.mem_singleton.mp hL]
  exact⟨cZ (by lia) (by lia),pZ (l:=[_]) (jb (al (by lia))) (cpl e)⟩
 ·have hd:kindOf p.kind= .M:=by rw[e];rfl
  rw[hd]
  intro L hL
  cases hL
 ·have hd:kindOf p.kind= .V:=by rw[e];rfl
  rw[hd]
  obtain⟨n0,n1⟩:=cg hd (.inl rfl)
  rw[n0,n1]
  intro L hL
  rw[List.mem_singleton.mp hL]
  exact⟨cZ (by lia) (by lia),none_lt⟩
 ·have hd:kindOf p.kind= .I:=by rw[e];rfl
  rw[hd]
  intro L hL
  rw[List.mem_singleton.mp hL]
  exact⟨jb (al (by lia)),none_lt⟩
 ·have hd:kindOf p.kind= .E:=by rw[e];rfl
  rw[hd]
  obtain⟨n0,n1⟩:=cg hd (.inr rfl)
  obtain⟨n2,n3⟩:=gS hd rfl
  rw[n0,n1,n2,n3]
  intro L hL
  rw[List.mem_singleton.mp hL]
  exact⟨pZ (cZ (by lia) (by lia)) (cZ (by lia) (by lia)),none_lt⟩
 ·have hd:kindOf p.kind= .G:=by rw[e];rfl
  rw[hd]
  obtain⟨n2,n3⟩:=gS hd rfl
  rw[n2,n3]
  intro L hL
  rw[List.mem_singleton.mp hL]
  exact⟨pZ (l:=[_]) (jb (al (by lia))) (cZ (by lia) (by lia)),none_lt⟩
 ·have hd:kindOf p.kind= .H:=by rw[e];rfl
  rw[hd]
  obtain⟨n0,n1⟩:=cg hd (.inl rfl)
  have r0:=C4 hd (by decide) rfl
  have ff:=fo (.inl e)
  rw[n0,n1,r0]
  intro L hL
  rw[List.mem_singleton.mp hL]
  exact⟨pZ (cZ (by lia) (by lia)) (jb (mM R (by lia) ff.2)),none_lt⟩
 ·have hd:kindOf p.kind= .F:=by rw[e];rfl
  rw[hd]
  have r0:=C4 hd (by decide) rfl
  have ff:=fo (.inr e)
  rw[r0]
  intro L hL
  rw[List.mem_singleton.mp hL]
  exact⟨pZ (l:=[_]) (jb (al (by lia))) (jb (mM R (by lia) ff.2)),none_lt⟩
 ·have hd:kindOf p.kind= .T:=by rw[e];rfl
  rw[hd]
  obtain⟨n0,n1⟩:=cg hd (.inr rfl)
  obtain⟨n2,n3⟩:=gS hd rfl
  rw[n0,n1,n2,n3]
  intro L hL
  rcases List.mem_cons.mp hL with rfl |hL
  ·exact⟨pZ (cZ (by lia) (by lia)) (cZ (by lia) (by lia)),none_lt⟩
  ·rw[List.mem_singleton.mp hL]
   exact⟨pZ (l:=[_]) (jb (al2 e)) (jb (al (by lia))),none_lt⟩
 ·have hd:kindOf p.kind= .O:=by rw[e];rfl
  rw[hd]
  obtain⟨n2,n3⟩:=gS hd rfl
  rw[n2,n3]
  intro L hL
  rw[List.mem_singleton.mp hL]
  exact⟨cZ (by lia) (by lia),none_lt⟩
 ·have hd:kindOf p.kind= .S:=by rw[e];rfl
  rw[hd]
  obtain⟨n0,n1⟩:=cg hd (.inl rfl)
  rw[n0,n1]
  intro L hL
  dsimp only at hL
  split at hL
  ·rw[List.mem_singleton.mp hL]
   exact⟨cZ (by lia) (by lia),none_lt⟩
  ·rw[List.mem_singleton.mp hL]
   exact⟨jb (al (by lia)),none_lt⟩
 ·have hd:kindOf p.kind= .D:=by rw[e];rfl
  rw[hd]
  obtain⟨n0,n1⟩:=cg hd (.inl rfl)
  rw[n0,n1]
  intro L hL
  dsimp only at hL
  split at hL
  ·rw[List.mem_singleton.mp hL]
   exact⟨cZ (by lia) (by lia),none_lt⟩
  ·rw[List.mem_singleton.mp hL]
   exact⟨jb (al (by lia)),none_lt⟩
theorem EN(G:Wh.Setting):∀L∈(ao n).laws G,OC (ao n).unknowns L:=fun L hL=>by
 unfold Wh.Net.laws at hL
 rcases List.mem_append.mp hL with h |h
 ·obtain⟨v,hv,rfl⟩:=List.mem_map.mp h
  refine⟨fun t ht=> ?_,none_lt⟩
  rw[cW,List.flatMap_map] at ht
  obtain⟨k,hk,ht⟩:=List.mem_flatMap.mp ht
  have hk:=List.mem_range.mp hk
  have pp:=R.p hk
  unfold Wh.Net.outOf at ht
  dsimp only at ht
  rw[fV] at ht
  have one:∀(c:Prop) [Decidable c] (i:Nat) (q:Rat),t∈(if c then[(i,q)] else[])->t.1=i:=fun c _ i q h=>by
   split at h
   ·rw[List.mem_singleton.mp h]
   ·cases h
  by_cases h3:(n.af.getD k p0).kind=3
  ·rw[if_pos (pp.M.mpr h3)] at ht;cases ht
  ·rw[if_neg (fun e=>h3 (pp.M.mp e))] at ht
   have l1:=mM R hk h3
   by_cases h10:(n.af.getD k p0).kind=10
   ·have l2:=C5 R hk h10
    rw[if_pos (pp.T.mpr h10)] at ht
    rcases List.mem_append.mp ht with ht |ht
    ·have:=one _ _ _ ht;lia
    rcases List.mem_append.mp ht with ht |ht
    ·have:=one _ _ _ ht;lia
    rcases List.mem_append.mp ht with ht |ht
    ·have:=one _ _ _ ht;lia
    ·have:=one _ _ _ ht;lia
   ·rw[if_neg (fun e=>h10 (pp.T.mp e))] at ht
    rcases List.mem_append.mp ht with ht |ht
    ·have:=one _ _ _ ht;lia
    ·have:=one _ _ _ ht;lia
 ·rw[cW,List.flatMap_map] at h
  obtain⟨k,hk,h⟩:=List.mem_flatMap.mp h
  exact Jn R G (List.mem_range.mp hk) L h
end
theorem C6(j:Nat):∀ts:List (Nat×Rat),(∀t∈ts,t.1<j)->Rv (ei j) ts=0
 |[],_=>rfl
 |t::ts,h=>by
  show PF.const t.2*ei j t.1+Rv (ei j) ts=0
  have:=h t List.mem_cons_self
  rw[rz (by lia),C6 j ts fun u hu=>h u (List.mem_cons_of_mem _ hu)]
  grind
theorem BX(r:List Rat)(i j:Nat)(q:Rat)(h:j<r.length):(Wh.addAt r i q).getD j 0=r.getD j 0+if i=j then q else 0:=by
 unfold Wh.addAt
 rw[gDe,List.getElem?_set]
 by_cases e:i=j
 ·subst e
  rw[if_pos rfl,if_pos h,if_pos rfl];rfl
 ·rw[if_neg e,if_neg e,gDe]
  grind
theorem qS(r:List Rat)(i:Nat)(q:Rat):(Wh.addAt r i q).length=r.length:=by unfold Wh.addAt;simp
theorem OD(i j:Nat)(x:Rat):(ei j i:PF).f x=if i=j then 1 else 0:=by
 unfold ei
 split <;>rfl
theorem zL(j:Nat)(x:Rat):∀(ts:List (Nat×Rat)) (r:List Rat),j<r.length->(ts.foldl (fun(r:List Rat) (t:Nat×Rat)=>Wh.addAt r t.1 t.2) r).getD j 0=r.getD j 0+(Rv (ei j) ts).f x
 |[],r,h=>by
  show r.getD j 0=r.getD j 0+0
  grind
 |t::ts,r,h=>by
  rw[List.foldl_cons,zL j x ts _ (by rw[qS];exact h),BX _ _ _ _ h]
  show _=_+ (t.2*(ei j t.1:PF).f x+(Rv (ei j) ts).f x)
  rw[OD]
  split <;>grind
theorem EO(j:Nat)(x s:Rat):∀(ts:List (Nat×Rat)) (r:List Rat),j<r.length->(ts.foldl (fun(r:List Rat) (t:Nat×Rat)=>Wh.addAt r t.1 (s*t.2)) r).getD j 0=r.getD j 0+s*(Rv (ei j) ts).f x
 |[],r,h=>by
  show r.getD j 0=r.getD j 0+s*0
  grind
 |t::ts,r,h=>by
  rw[List.foldl_cons,EO j x s ts _ (by rw[qS];exact h),BX _ _ _ _ h]
  show _=_+ s*(t.2*(ei j t.1:PF).f x+(Rv (ei j) ts).f x)
  rw[OD]
  split <;>grind
theorem vZ:∀(ts:List (Nat×Rat)) (r:List Rat),(ts.foldl (fun(r:List Rat) (t:Nat×Rat)=>Wh.addAt r t.1 t.2) r).length=r.length
 |[],_=>rfl
 |t::ts,r=>by rw[List.foldl_cons,vZ ts,qS]
theorem BY(s:Rat):∀(ts:List (Nat×Rat)) (r:List Rat),(ts.foldl (fun(r:List Rat) (t:Nat×Rat)=>Wh.addAt r t.1 (s*t.2)) r).length=r.length
 |[],_=>rfl
 |t::ts,r=>by rw[List.foldl_cons,BY s ts,qS]
theorem yz(L:Wh.Law)(m:Nat)(s:Rat):(L.row m s).1.length=m:=by
 unfold Wh.Law.row
 rw[BY,vZ,List.length_replicate]
theorem C7(L:Wh.Law)(m:Nat)(σ:PF)(x s:Rat)(hs:σ.f x=s)(j:Nat)(hj:j<m):(L.row m s).1.getD j 0=(Lv (ei j) σ m L).f x:=by
 unfold Wh.Law.row Lv
 rw[EO j x s _ _ (by rw[vZ,List.length_replicate];exact hj),zL j x _ _ (by rw[List.length_replicate];exact hj)]
 show _=(Rv (ei j) L.terms).f x+σ.f x*(Rv (ei j) L.byS).f x+L.right*(ei j m:PF).f x
 rw[hs,OD,if_neg (by lia)]
 have:(List.replicate m (0:Rat)).getD j 0=0:=by
  rw[gDe,List.getElem?_replicate]
  split <;>rfl
 rw[this]
 grind
theorem BZ(L:Wh.Law)(m:Nat)(σ:PF)(x s:Rat)(h:OC m L):(L.row m s).2=(Lv (ei m) σ m L).f x:=by
 unfold Wh.Law.row Lv
 rw[C6 m _ h.1,C6 m _ h.2,oE]
 show L.right=(0:Rat)+σ.f x*0+L.right*((1:Nat):Rat)
 grind
theorem uw(n:Nw)(G:Wh.Setting)(s:Rat){i:Nat}(hi:i<(ao n).unknowns):((ao n).rows G s)[i]? =some ((((ao n).laws G).getD i L0).row (ao n).unknowns s):=by
 unfold Wh.Net.rows
 rw[List.getElem?_map,gDe,List.getElem?_eq_getElem (by rw[eW];exact hi)]
 rfl
section
variable {n:Nw}(R:Right n)(G:Wh.Setting)(σ:PF)(x s:Rat)(hs:σ.f x=s)
include R hs
theorem GF:Wh.detOf (ao n).unknowns (((ao n).rows G s).map fun(r:Wh.Row)=>r.1)=(det (ao n).unknowns (Sm n G σ)).f x:=by
 have l:((ao n).rows G s).length=(ao n).unknowns:=by unfold Wh.Net.rows;rw[lMp,eW]
 have gg:∀i,i<(ao n).unknowns->((((ao n).rows G s).map fun(r:Wh.Row)=>r.1).getD i [])=((((ao n).laws G).getD i L0).row (ao n).unknowns s).1:=fun i hi=>by
  rw[gDe,List.getElem?_map,uw n G s hi]
  rfl
 rw[y6 _ _ (by rw[lMp];exact l) fun i hi=>by rw[gg i hi,yz],BG]
 refine bg _ fun i j hi hj=> ?_
 show((((ao n).rows G s).map fun(r:Wh.Row)=>r.1).getD i []).getD j 0=_
 rw[gg i hi]
 exact C7 _ _ σ x s hs j hj
theorem GG{c:Nat}(hc:c<(ao n).unknowns):Wh.detOf (ao n).unknowns (((ao n).rows G s).map fun(r:Wh.Row)=>r.1.set c r.2)=(det (ao n).unknowns (bC (Sm n G σ) c fun i=>Sm n G σ i (ao n).unknowns)).f x:=by
 have l:((ao n).rows G s).length=(ao n).unknowns:=by unfold Wh.Net.rows;rw[lMp,eW]
 have gg:∀i,i<(ao n).unknowns->((((ao n).rows G s).map fun(r:Wh.Row)=>r.1.set c r.2).getD i [])=((((ao n).laws G).getD i L0).row (ao n).unknowns s).1.set c ((((ao n).laws G).getD i L0).row (ao n).unknowns s).2:=fun i hi=>by
  rw[gDe,List.getElem?_map,uw n G s hi]
  rfl
 rw[y6 _ _ (by rw[lMp];exact l) fun i hi=>by rw[gg i hi,List.length_set,yz],BG]
 refine bg _ fun i j hi hj=> ?_
 show((((ao n).rows G s).map fun(r:Wh.Row)=>r.1.set c r.2).getD i []).getD j 0=(if j=c then _ else _:PF).f x
 rw[gg i hi,gDe,List.getElem?_set]
 by_cases e:c=j
 ·subst e
  rw[if_pos rfl,if_pos rfl,if_pos (by rw[yz];exact hc)]
  exact BZ _ _ σ x s (EN R G _ (memD (by rw[eW];exact hi)))
 ·rw[if_neg e,if_neg (Ne.symm e),<-gDe]
  exact C7 _ _ σ x s hs j hj
end
def XX:PF:=aG [0,1]
theorem OE(x:Rat):XX.f x=x:=by
 unfold XX
 rw[bD,bD]
 show((0:Int):Rat)+x*(((1:Int):Rat)+x*0)=x
 grind
theorem K2(i j:Nat):Dg (ei j i:PF) 1:=by
 unfold ei
 split
 ·exact cX▸EA 1
 ·exact ue 1
theorem Ic(j:Nat):∀ts:List (Nat×Rat),Dg (Rv (ei j) ts) 1
 |[]=>ue 1
 |t::ts=>((K2 t.1 j).smul t.2).add (Ic j ts)
def B1(L:Wh.Law):Nat:=if L.byS.isEmpty=true then 0 else 1
theorem Ro:Dg XX 2:=CT [0,1]
theorem K3(L:Wh.Law)(m j:Nat):Dg (Lv (ei j) XX m L) (B1 L+1):=by
 unfold Lv B1
 have h1:=Ic j L.terms
 have h3:=(K2 m j).smul L.right
 by_cases e:L.byS.isEmpty=true
 ·rw[if_pos e]
  have:L.byS=[]:=List.isEmpty_iff.mp e
  rw[this]
  have z:XX*Rv (ei j) []=0:=by
   show XX*0=0
   grind
  rw[z]
  exact(h1.add (ue 1)).add h3
 ·rw[if_neg e]
  have h2:Dg (XX*Rv (ei j) L.byS) 2:=Dg.mul (d:=1) (e:=0) Ro (Ic j _)
  exact((h1.mono (by lia)).add h2).add (h3.mono (by lia))
theorem ER{α:Type}(f:α->Nat)(d:α)(l:List α):sumNat l.length (fun i=>f (l.getD i d))=Wh.sumNat (l.map f):=by
 have key:∀m,m<=l.length->sumNat m (fun i=>f (l.getD i d))=Wh.sumNat ((l.take m).map f):=by
  intro m
  induction m with
  |zero=>intro _;rfl
  |succ m ih=>
   intro hm
   show sumNat m _+ _=_
   rw[ih (by lia),List.take_add_one,List.getElem?_eq_getElem (by lia),List.map_append,i0]
   show _+ f (l.getD m d)=_+ Wh.sumNat [f _]
   rw[bX,gDe,List.getElem?_eq_getElem (by lia)]
   rfl
 rw[key _ (Nat.le_refl _),List.take_length]
theorem xA{γ β:Type}{f:γ->List β}{h:β->Nat}{c:γ->Nat}:∀l:List γ,(∀i∈l,Wh.sumNat ((f i).map h)<=c i)->Wh.sumNat ((l.flatMap f).map h)<=Wh.sumNat (l.map c)
 |[],_=>Nat.le_refl _
 |x::l,e=>by
  rw[List.flatMap_cons,List.map_append,i0,List.map_cons,bX]
  have:=e x List.mem_cons_self
  have:=xA (f:=f) (h:=h) (c:=c) l fun i hi=>e i (List.mem_cons_of_mem _ hi)
  lia
theorem zM{α:Type}(p:α->Bool):∀l:List α,(l.filter p).length=Wh.sumNat (l.map fun x=>if p x=true then 1 else 0)
 |[]=>rfl
 |x::l=>by
  rw[List.map_cons,bX,<-zM p l]
  by_cases e:p x=true
  ·rw[List.filter_cons_of_pos e,if_pos e,List.length_cons];lia
  ·rw[List.filter_cons_of_neg e,if_neg e];lia
theorem ES{α:Type}(f:α->Nat):∀l:List α,(∀x∈l,f x=0)->Wh.sumNat (l.map f)=0
 |[],_=>rfl
 |x::l,h=>by
  rw[List.map_cons,bX,h x List.mem_cons_self,ES f l fun y hy=>h y (List.mem_cons_of_mem _ hy)]
theorem Mz(N:Wh.Net)(G:Wh.Setting)(k:Nat)(x:Wh.Elem):Wh.sumNat ((N.lawsOf G k x).map B1)<=if(decide (x.kind= .C) ||decide (x.kind= .L))=true then 1 else 0:=by
 have d0:∀a b,B1 ⟨a,[],b⟩=0:=fun a b=>rfl
 have d1:∀L,B1 L<=1:=fun L=>by unfold B1;split <;>lia
 have s1:∀L,Wh.sumNat ([L].map B1)=B1 L:=fun L=>by
  show Wh.sumNat [B1 L]=_
  rw[bX]
  rfl
 have s2:∀L M,Wh.sumNat ([L,M].map B1)=B1 L+B1 M:=fun L M=>by
  show Wh.sumNat [B1 L,B1 M]=_
  rw[bX,bX]
  rfl
 unfold Wh.Net.lawsOf
 dsimp only
 cases h:x.kind <;>dsimp only
 case C=>rw[s1];exact d1 _
 case L=>rw[s1];exact d1 _
 case T=>rw[s2];exact Nat.le_refl _
 case M=>exact Nat.le_refl _
 case S=>split <;>(rw[s1];exact Nat.le_refl _)
 case D=>split <;>(rw[s1];exact Nat.le_refl _)
 all_goals (rw[s1];exact Nat.le_refl _)
theorem Ie(n:Nw)(G:Wh.Setting):sumNat (ao n).unknowns (fun i=>B1 (((ao n).laws G).getD i L0))+1<=(ao n).places:=by
 rw[<-eW n G,ER B1 L0]
 unfold Wh.Net.laws Wh.Net.places
 rw[List.map_append,i0,zM]
 have z:Wh.sumNat (((List.range (ao n).nodes).map fun(v:Nat)=>(⟨(ao n).indexed.flatMap fun(p:Nat×Wh.Elem)=>(ao n).outOf (v+1) p.1 p.2,[],0⟩:Wh.Law)).map B1)=0:=by
  refine ES _ _ fun L hL=> ?_
  obtain⟨v,_,rfl⟩:=List.mem_map.mp hL
  rfl
 rw[z]
 have q:=xA (f:=fun p:Nat×Wh.Elem=>(ao n).lawsOf G p.1 p.2) (h:=B1) (c:=fun p:Nat×Wh.Elem=>if(decide (p.2.kind= .C) ||decide (p.2.kind= .L))=true then 1 else 0) (ao n).indexed fun p _=>Mz _ _ _ _
 have e:((ao n).indexed.map fun p:Nat×Wh.Elem=>if(decide (p.2.kind= .C) ||decide (p.2.kind= .L))=true then 1 else 0)=(ao n).elems.map fun x=>if(decide (x.kind= .C) ||decide (x.kind= .L))=true then 1 else 0:=by
  rw[cW,List.map_map]
  show _=(n.af.map aE).map _
  rw[BN (n.af.map aE) (aE p0),List.map_map,lMp]
  apply List.map_congr_left
  intro i hi
  have hi:=List.mem_range.mp hi
  have e:(n.af.map aE).getD i (aE p0)=aE (n.af.getD i p0):=by
   rw[gDe,gDe,List.getElem?_map,List.getElem?_eq_getElem hi]
   rfl
  show _=if(decide (((n.af.map aE).getD i (aE p0)).kind= .C) ||decide (((n.af.map aE).getD i (aE p0)).kind= .L))=true then 1 else 0
  rw[e]
  rfl
 rw[e] at q
 lia
section
variable {n:Nw}(R:Right n)(G:Wh.Setting)
include R
theorem zN:bL ((ao n).determinant G)=det (ao n).unknowns (Sm n G XX):=by
 unfold Wh.Net.determinant
 refine zj _ _ (ao n).places (by rw[lMp,List.length_range]) ?_ fun i hi=> ?_
 ·exact(CS _ (d:=fun i=>B1 (((ao n).laws G).getD i L0)) fun i j _ _=>K3 _ _ _).mono (Ie n G)
 ·rw[jr _ _ _ _ hi]
  exact(GF R G XX _ _ (OE _)).symm
theorem C8{c:Nat}(hc:c<(ao n).unknowns):bL ((ao n).numerator G c)=det (ao n).unknowns (bC (Sm n G XX) c fun i=>Sm n G XX i (ao n).unknowns):=by
 unfold Wh.Net.numerator
 refine zj _ _ (ao n).places (by rw[lMp,List.length_range]) ?_ fun i hi=> ?_
 ·refine(CS _ (d:=fun i=>B1 (((ao n).laws G).getD i L0)) fun i j _ _=> ?_).mono (Ie n G)
  show Dg (if j=c then _ else _) _
  split
  ·exact K3 _ _ _
  ·exact K3 _ _ _
 ·rw[jr _ _ _ _ hi]
  exact(GG R G XX _ _ (OE _) hc).symm
end
noncomputable def jP:List Part->List (List Bool)
 |[]=>[[]]
 |p::ps=>if p.kind=13 then(jP ps).map (fun r=>false::r) ++ (jP ps).map (fun r=>true::r) else(jP ps).map (fun r=>false::r)
theorem xB:∀(ps:List Part) (rs:List (List Bool)),bf ps rs=rs.flatMap fun row=>(jP ps).map fun r=>row ++ r
 |[],rs=>by
  show rs=rs.flatMap fun row=>[row ++ []]
  induction rs with
  |nil=>rfl
  |cons r rs ih=>rw[List.flatMap_cons,<-ih];simp
 |p::ps,rs=>by
  show bf ps (rs.flatMap fun row=>if p.kind=13 then[row ++ [false],row ++ [true]] else[row ++ [false]])=_
  rw[xB ps,List.flatMap_assoc]
  congr 1
  funext row
  show _=(if p.kind=13 then(jP ps).map (fun r=>false::r) ++ (jP ps).map (fun r=>true::r) else(jP ps).map (fun r=>false::r)).map _
  by_cases h:p.kind=13
  ·rw[if_pos h,if_pos h,List.map_append,List.map_map,List.map_map]
   simp[Function.comp_def]
  ·rw[if_neg h,if_neg h,List.map_map]
   simp[Function.comp_def]
theorem xC(ps:List Part):bf ps [[]]=jP ps:=by
 rw[xB]
 simp
noncomputable def jt (off:Nat):List Part->List Nat
 |[]=>[]
 |p::ps=>if p.kind=13 then off::jt (off+1) ps else jt (off+1) ps
noncomputable def oN (off len:Nat) (st:List Bool) (r:List Nat):Prop:=st.length=len/\(∀k∈r,off<=k)/\∀k,off<=k->r.contains k=st.getD (k - off) false
theorem v5:∀(ps:List Part) (off:Nat),Al (oN off ps.length) (jP ps) (Wh.rowsOf (jt off ps))
 |[],off=> .cons ⟨rfl,(fun _ h=>by cases h),fun k _=>by simp⟩ .nil
 |p::ps,off=>by
  have ih:=v5 ps (off+1)
  have f1:∀st r,oN (off+1) ps.length st r->oN off (p::ps).length (false::st) r:=fun st r h=>by
   refine⟨by rw[List.length_cons,List.length_cons,h.1],fun k hk=>by have:=h.2.1 k hk;lia,fun k hk=> ?_⟩
   by_cases e:k=off
   ·subst e
    rw[Nat.sub_self]
    show r.contains k=false
    cases q:r.contains k with
    |false=>rfl
    |true=>
     have:=h.2.1 k (List.contains_iff_mem.mp q)
     lia
   ·have e2:k - off=(k - (off+1))+1:=by lia
    rw[e2,h.2.2 k (by lia)]
    rfl
  have f2:∀st r,oN (off+1) ps.length st r->oN off (p::ps).length (true::st) (off::r):=fun st r h=>by
   refine⟨by rw[List.length_cons,List.length_cons,h.1],fun k hk=> ?_,fun k hk=> ?_⟩
   ·rcases List.mem_cons.mp hk with rfl |hk
    ·exact Nat.le_refl _
    ·have:=h.2.1 k hk;lia
   ·by_cases e:k=off
    ·subst e
     rw[Nat.sub_self]
     simp
    ·have e2:k - off=(k - (off+1))+1:=by lia
     rw[e2]
     show(off::r).contains k=st.getD (k - (off+1)) false
     rw[<-h.2.2 k (by lia),List.contains_cons]
     have:(k==off)=false:=by simpa using e
     rw[this,Bool.false_or]
  unfold jP jt
  by_cases h:p.kind=13
  ·rw[if_pos h,if_pos h]
   show Al _ _ (Wh.rowsOf (jt (off+1) ps) ++ (Wh.rowsOf (jt (off+1) ps)).map fun(s:Wh.States)=>off::s)
   refine Al.append ?_ ?_
   ·have:=(ih.imp f1).Mu (f:=fun r=>false::r) (g:=fun r=>r) (R:=oN off (p::ps).length)
    rw[List.map_id'] at this
    exact this
   ·exact(ih.imp f2).Mu (f:=fun r=>true::r) (g:=fun r=>off::r)
  ·rw[if_neg h,if_neg h]
   have:=(ih.imp f1).Mu (f:=fun r=>false::r) (g:=fun r=>r) (R:=oN off (p::ps).length)
   rw[List.map_id'] at this
   exact this
theorem Ig:∀(ps:List Part) (off:Nat),(∀p∈ps,Pn p)->((((ps.map aE).zipIdx off).map fun(x:Wh.Elem×Nat)=>(x.2,x.1)).filter fun(p:Nat×Wh.Elem)=>decide (p.2.kind= .D)).map (fun(p:Nat×Wh.Elem)=>p.1)=jt off ps
 |[],_,_=>rfl
 |p::ps,off,h=>by
  have ih:=Ig ps (off+1) fun q hq=>h q (List.mem_cons_of_mem _ hq)
  have hp:=h p List.mem_cons_self
  rw[List.map_cons,List.zipIdx_cons,List.map_cons]
  unfold jt
  by_cases e:p.kind=13
  ·rw[if_pos e,List.filter_cons_of_pos (by exact decide_eq_true (hp.D.mpr e)),List.map_cons,ih]
  ·rw[if_neg e,List.filter_cons_of_neg (by rw[decide_eq_true_iff];exact fun q=>e (hp.D.mp q)),ih]
theorem Jo{n:Nw}(R:Right n):(ao n).diodes=jt 0 n.af:=by
 unfold Wh.Net.diodes Wh.Net.ofKind Wh.Net.indexed
 exact Ig n.af 0 R.pn
theorem C9{n:Nw}(R:Right n):(ao n).diodes=(List.range n.af.length).filter fun k=>decide ((n.af.getD k p0).kind=13):=by
 unfold Wh.Net.diodes Wh.Net.ofKind
 rw[cW,List.filter_map,List.map_map]
 have e:((fun(p:Nat×Wh.Elem)=>p.1) ∘ fun k=>(k,aE (n.af.getD k p0)))=fun k:Nat=>k:=rfl
 rw[e,List.map_id']
 apply List.filter_congr
 intro k hk
 have hk:=List.mem_range.mp hk
 show decide (kindOf (n.af.getD k p0).kind= .D)=_
 rw[decide_eq_decide]
 exact(R.p hk).D
noncomputable def FO (n:Nw) (st:List Bool):gK:=⟨n,[],st,n.af.map fun p=>(p.top,p.aC)⟩
theorem numAt_eq{n:Nw}(R:Right n){k:Nat}(h:k<n.af.length):(ao n).numAt k=((n.af.getD k p0).top:Rat) / ((n.af.getD k p0).aC:Rat):=by
 unfold Wh.Net.numAt
 rw[R.elem h]
 rfl
theorem GH{n:Nw}(R:Right n){st:List Bool}{r:List Nat}(h:oN 0 n.af.length st r):ie n (FO n st) ((ao n).rest r):=by
 have dv:∀k,k<n.af.length->(FO n st).drives.getD k (0,1)=((n.af.getD k p0).top,(n.af.getD k p0).aC):=fun k hk=>by
  show(n.af.map fun p=>(p.top,p.aC)).getD k (0,1)=_
  rw[gDe,gDe,List.getElem?_map,List.getElem?_eq_getElem hk]
  rfl
 refine⟨rfl,fun k hk=> ?_,fun k hk _=> ?_,fun k hk _=> ?_⟩
 ·show r.contains k=st.getD k false
  exact h.2.2 k (Nat.zero_le _)
 ·rw[dv k hk]
  exact⟨by have:=(R.p hk).b1;show 0<(n.af.getD k p0).aC;lia,numAt_eq R hk⟩
 ·rw[dv k hk]
  exact⟨by have:=(R.p hk).b1;show 0<(n.af.getD k p0).aC;lia,numAt_eq R hk⟩
theorem nI{n:Nw}(R:Right n){st:List Bool}{r:List Nat}(h:oN 0 n.af.length st r){src:Int}(h0:0<=src)(hs:gI n src=true):ie n (bI n st src) (Wh.alone r src.toNat):=by
 unfold gI at hs
 obtain⟨s1,s2⟩:=(Bool.and_eq_true _ _).mp hs
 have s1:=of_decide_eq_true s1
 have s2:=of_decide_eq_true s2
 unfold kindAt at s2
 have dv:∀k,k<n.af.length->(bI n st src).drives.getD k (0,1)=if(k:Int)=src then(1,1) else(0,1):=fun k hk=>jr _ _ _ _ hk
 refine⟨rfl,fun k hk=> ?_,fun k hk _=> ?_,fun k hk h13=> ?_⟩
 ·show r.contains k=st.getD k false
  exact h.2.2 k (Nat.zero_le _)
 ·rw[dv k hk]
  show _/\(if k=src.toNat then(1:Rat) else 0)=_
  by_cases e:(k:Int)=src
  ·rw[if_pos e,if_pos (by lia)]
   exact⟨by decide,by decide +kernel⟩
  ·rw[if_neg e,if_neg (by lia)]
   exact⟨by decide,by decide +kernel⟩
 ·rw[dv k hk]
  show _/\(0:Rat)=_
  have e:¬(k:Int)=src:=fun e=>by
   have:src.toNat=k:=by lia
   rw[this,h13] at s2
   lia
  rw[if_neg e]
  exact⟨by decide,by decide +kernel⟩
theorem zO(l:aQ):(aG l).f 0=((bF l:Int):Rat):=by
 cases l with
 |nil=>rfl
 |cons a l=>
  rw[bD]
  show(a:Rat)+0*_=(a:Rat)
  grind
theorem OF(L:Wh.Law)(m j:Nat):Dg (Lv (ei j) 0 m L) 1:=by
 unfold Lv
 have z:(0:PF)*Rv (ei j) L.byS=0:=by grind
 rw[z]
 exact((Ic j L.terms).add (ue 1)).add ((K2 m j).smul L.right)
theorem xD:∀m,sumNat m (fun _=>0)=0
 |0=>rfl
 |m+1=>by
  show sumNat m _+ 0=0
  rw[xD m]
theorem MA(n:Nw)(G:Wh.Setting):Dg (det (ao n).unknowns (Sm n G 0)) 1:=by
 have:=CS (ao n).unknowns (A:=Sm n G 0) (d:=fun _=>0) fun i j _ _=>OF _ _ _
 rw[xD] at this
 exact this
theorem Dc{A:Type} [CommRing A](m:Nat)(F:Nat->Nat->A)(c:Nat)(hc:c<m):det m (bC F c fun _=>0)=0:=jq m _ c hc fun i _=>dt
section
variable {n:Nw}(R:Right n){g:gK}{G:Wh.Setting}(S:ie n g G)(hs:g.s=[])
include R S hs
theorem Jp:(sol (rows g)=none/\(ao n).solved G 0=none)\/∃d tops x,sol (rows g)=some (d,tops)/\(ao n).solved G 0=some x/\tops.length=(ao n).unknowns/\(∃z,d=[z])/\bF d≠0/\(det (ao n).unknowns (Sm n G 0)).f 0≠0/\∀c,c<(ao n).unknowns->((bF (tops.getD c []):Int):Rat)=x.getD c 0*((bF d:Int):Rat):=by
 have σ0:aG g.s=0:=by rw[hs];rfl
 have zf:∀x:Rat,(0:PF).f x=0:=fun x=>rfl
 have rl:((ao n).rows G 0).length=(ao n).unknowns:=by unfold Wh.Net.rows;rw[lMp,eW]
 have rr:∀r∈(ao n).rows G 0,r.1.length=(ao n).unknowns:=fun r hr=>by
  unfold Wh.Net.rows at hr
  obtain⟨L,_,rfl⟩:=List.mem_map.mp hr
  exact yz _ _ _
 have rmem:∀i,i<(ao n).unknowns->(((ao n).laws G).getD i L0).row (ao n).unknowns 0∈(ao n).rows G 0:=fun i hi=>List.mem_of_getElem? (uw n G 0 hi)
 have dotE:∀(i:Nat) (p:Rat) (y:Nat->Rat),dot (ao n).unknowns ((((ao n).laws G).getD i L0).row (ao n).unknowns 0).1 y=a7 (ao n).unknowns fun j=>(Sm n G 0 i j).f p*y j:=fun i p y=>by
  unfold dot
  exact a9 _ fun j hj=>by rw[C7 _ _ 0 p 0 (zf p) j hj];rfl
 have spec:=Gx rl rr
 have sp:=EL R S
 rw[σ0] at sp
 rcases sp with⟨d,tops,e,tl,td,dn,tt,q,hq,hd,ht⟩ |⟨e,h0,x,⟨j,hj,xj⟩,hx⟩
 ·have dl:d.length<=1:=rT td (c:=1) (by decide) (e:=1) (by
   rw[hd,cX]
   have:=(MA n G).smul q
   have e2:(1:PF)*(PF.const q*det (ao n).unknowns (Sm n G 0))=PF.const q*det (ao n).unknowns (Sm n G 0):=by grind
   rw[e2]
   exact this)
  obtain⟨z,rfl⟩:∃z,d=[z]:=by
   cases d with
   |nil=>exact absurd rfl dn
   |cons z l=>
    cases l with
    |nil=>exact⟨z,rfl⟩
    |cons y l=>simp at dl
  have z0:bF [z]≠0:=bO.mp td (by simp)
  have dd:((bF [z]:Int):Rat)=q*(det (ao n).unknowns (Sm n G 0)).f 0:=by
   rw[<-zO,hd];rfl
  have D0:(det (ao n).unknowns (Sm n G 0)).f 0≠0:=fun e=>by
   rw[e] at dd
   have:((bF [z]:Int):Rat)=0:=by rw[dd];grind
   exact z0 (by exact_mod_cast this)
  right
  rcases spec with⟨x,sx,xl,hx⟩ |⟨sn,y,⟨j,hj,yj⟩,hy⟩
  ·refine⟨[z],tops,x,e,sx,tl,⟨z,rfl⟩,z0,D0,fun c hc=> ?_⟩
   have sat1:=(hx (fun j=>x.getD j 0) 1).mpr fun j _=>by grind
   have eqs:∀i,i<(ao n).unknowns->a7 (ao n).unknowns (fun d=>(Sm n G 0 i d).f 0*x.getD d 0)=(Sm n G 0 i (ao n).unknowns).f 0:=fun i hi=>by
    have h1:=sat1 _ (rmem i hi)
    unfold sat at h1
    rw[dotE i 0,BZ _ _ 0 0 0 (EN R G _ (memD (by rw[eW];exact hi)))] at h1
    rw[h1]
    show 1*(Sm n G 0 i (ao n).unknowns).f 0=_
    grind
   have cr:=yP (ao n).unknowns (fun i j=>(Sm n G 0 i j).f 0) (fun j=>x.getD j 0) (fun i=>(Sm n G 0 i (ao n).unknowns).f 0) c hc eqs
   have top:((bF (tops.getD c []):Int):Rat)=q*det (ao n).unknowns (bC (fun i j=>(Sm n G 0 i j).f 0) c fun i=>(Sm n G 0 i (ao n).unknowns).f 0):=by
    rw[<-zO,ht c hc]
    show q*PF.f (det _ _) 0=_
    rw[BG]
    congr 1
    refine bg _ fun i j _ _=> ?_
    show(if j=c then _ else _:PF).f 0=if j=c then _ else _
    split <;>rfl
   rw[top,cr,dd,BG]
   grind
  ·exfalso
   have cr:=yP (ao n).unknowns (fun i j=>(Sm n G 0 i j).f 0) y (fun _=>0) j hj fun i hi=>by
    rw[<-dotE i 0]
    exact hy _ (rmem i hi)
   rw[Dc _ _ _ hj,<-BG] at cr
   rcases Rat.mul_eq_zero.mp cr.symm with h |h
   ·exact yj h
   ·exact D0 h
 ·left
  refine⟨e,?_⟩
  rcases spec with⟨x0,sx,xl,hx0⟩ |⟨sn,_⟩
  ·exfalso
   obtain⟨N,hN⟩:=PF.yq xj
   have hN:=hN N (Nat.le_refl _)
   have:∀r∈(ao n).rows G 0,sat (ao n).unknowns (fun d=>(x d).f (N:Rat)) 0 r:=fun r hr=>by
    obtain⟨i,hi,er⟩:=List.getElem_of_mem hr
    have hi2:i<(ao n).unknowns:=by lia
    have e2:=uw n G 0 hi2
    rw[List.getElem?_eq_getElem hi,er] at e2
    cases e2
    unfold sat
    rw[dotE i (N:Rat)]
    have h2:=hx i hi2
    have h3:(a7 (ao n).unknowns fun d=>Sm n G 0 i d*x d).f (N:Rat)=0:=by rw[h2];rfl
    rw[Gn] at h3
    rw[show(fun j=>(Sm n G 0 i j).f (N:Rat)*(x j).f (N:Rat))=fun j=>(Sm n G 0 i j*x j).f (N:Rat) from rfl,h3]
    grind
   have h4:=(hx0 _ 0).mp this j hj
   exact hN (by rw[h4];grind)
  ·exact sn
end
theorem MB(a b:aQ):((bF (pO a b):Int):Rat)=((bF a:Int):Rat) - ((bF b:Int):Rat):=by
 rw[<-zO,<-zO,<-zO,mI]
 rfl
section
variable {n:Nw}(R:Right n){d:aQ}{tops:List aQ}{x:List Rat}(tl:tops.length=(ao n).unknowns)(d0:bF d≠0)
 (ht:∀c,c<(ao n).unknowns->((bF (tops.getD c []):Int):Rat)=x.getD c 0*((bF d:Int):Rat))
include R ht
theorem Ih{v:Int}(h0:0<=v)(h1:v<=n.last):((bF (cA (d,tops) v):Int):Rat)=Wh.voltage x v.toNat*((bF d:Int):Rat):=by
 unfold cA Wh.voltage
 by_cases h:0<v
 ·rw[if_pos h,if_neg (by lia)]
  have nl:=jO n
  have:=ht (v - 1).toNat (by lia)
  have e:v.toNat - 1=(v - 1).toNat:=by lia
  rw[e]
  exact this
 ·rw[if_neg h,if_pos (by lia)]
  show((0:Int):Rat)=_
  push_cast
  grind
include tl d0
theorem B2{st:List Bool}{r:List Nat}(hr:oN 0 n.af.length st r){k:Nat}(hk:k<n.af.length)(h13:(n.af.getD k p0).kind=13):
  rR (FO n st) (d,tops) k=if r.contains k=true then decide (0<=((ao n).quantity 1 k x).getD 0) else decide (((ao n).quantity 2 k x).getD 0<=(ao n).numAt k):=by
 have pp:=R.p hk
 have hD:=pp.D.mpr h13
 have hM:¬(aE (n.af.getD k p0)).kind= .M:=fun e=>by rw[fV,hD] at e;cases e
 obtain⟨n0,n1⟩:=cg hD (.inl rfl)
 have ab:=R.ab hk (by lia)
 have dr:((bF d:Int):Rat)≠0:=fun e=>d0 (by exact_mod_cast e)
 have dd:0<((bF d:Int):Rat)*((bF d:Int):Rat):=by
  have h1:(0:Int)<bF d*bF d:=by
   rcases Int.lt_or_gt_of_ne d0 with h |h
   ·exact Int.mul_pos_of_neg_of_neg h h
   ·exact Int.mul_pos h h
  have h2:(0:Rat)<((bF d*bF d:Int):Rat):=by exact_mod_cast h1
  push_cast at h2
  exact h2
 have q1:((ao n).quantity 1 k x).getD 0=x.getD ((ao n).at_ k) 0:=by
  unfold Wh.Net.quantity
  rw[if_neg (by decide),R.elem hk]
  dsimp only
  rw[if_neg hM,if_pos rfl]
  rfl
 have q2:((ao n).quantity 2 k x).getD 0=Wh.voltage x (n.af.getD k p0).a.toNat - Wh.voltage x (n.af.getD k p0).b.toNat:=by
  unfold Wh.Net.quantity
  rw[if_neg (by decide),R.elem hk]
  dsimp only
  rw[if_neg hM,if_neg (by decide),if_pos rfl,n0,n1]
  rfl
 rw[q1,q2,numAt_eq R hk,hr.2.2 k (Nat.zero_le _)]
 unfold rR
 dsimp only
 show(if st.getD k false=true then decide (0<=bF (gQ (FO n st) (d,tops) k)*bF d) else decide (bF (gR (FO n st) (d,tops) k)*bF d*(n.af.getD k p0).aC<=(n.af.getD k p0).top*bF d*bF d))=if st.getD k false=true then _ else _
 by_cases hb:st.getD k false=true
 ·rw[if_pos hb,if_pos hb,decide_eq_decide]
  have c1:((bF (gQ (FO n st) (d,tops) k):Int):Rat)=x.getD ((ao n).at_ k) 0*((bF d:Int):Rat):=by
   unfold gQ
   show((bF (tops.getD ((places n).getD k 0).toNat []):Int):Rat)=_
   rw[R.place hk,Int.toNat_natCast]
   exact ht _ (mM R hk (by lia))
  have c2:(0<=bF (gQ (FO n st) (d,tops) k)*bF d)↔(0:Rat)<=((bF (gQ (FO n st) (d,tops) k):Int):Rat)*((bF d:Int):Rat):=by
   constructor
   ·intro h
    have:(0:Rat)<=((bF (gQ (FO n st) (d,tops) k)*bF d:Int):Rat):=by exact_mod_cast h
    push_cast at this
    exact this
   ·intro h
    have:(0:Rat)<=((bF (gQ (FO n st) (d,tops) k)*bF d:Int):Rat):=by push_cast;exact h
    exact_mod_cast this
  rw[c2,c1]
  have e:x.getD ((ao n).at_ k) 0*((bF d:Int):Rat)*((bF d:Int):Rat)=x.getD ((ao n).at_ k) 0*(((bF d:Int):Rat)*((bF d:Int):Rat)):=by grind
  rw[e]
  constructor
  ·intro h
   refine Rat.le_of_mul_le_mul_right (c:=((bF d:Int):Rat)*((bF d:Int):Rat)) ?_ dd
   rw[Rat.zero_mul]
   exact h
  ·intro h
   exact Rat.mul_nonneg h (Rat.le_of_lt dd)
 ·rw[if_neg hb,if_neg hb,decide_eq_decide]
  have c1:((bF (gR (FO n st) (d,tops) k):Int):Rat)=(Wh.voltage x (n.af.getD k p0).a.toNat - Wh.voltage x (n.af.getD k p0).b.toNat)*((bF d:Int):Rat):=by
   unfold gR qJ
   rw[MB]
   show((bF (cA (d,tops) (n.af.getD k p0).a):Int):Rat) - ((bF (cA (d,tops) (n.af.getD k p0).b):Int):Rat)=_
   rw[Ih R ht pp.a0 ab.1,Ih R ht pp.b0 ab.2]
   grind
  have bp:(0:Rat)<((n.af.getD k p0).aC:Rat):=gz (by have:=pp.b1;lia)
  generalize (Wh.voltage x (n.af.getD k p0).a.toNat - Wh.voltage x (n.af.getD k p0).b.toNat)=v at c1⊢
  generalize bF (gR (FO n st) (d,tops) k)=u at c1⊢
  generalize n.af.getD k p0=p at bp⊢
  have c2:(u*bF d*p.aC<=p.top*bF d*bF d)↔((u:Int):Rat)*((bF d:Int):Rat)*(p.aC:Rat)<=(p.top:Rat)*((bF d:Int):Rat)*((bF d:Int):Rat):=by
   constructor
   ·intro h
    have:((u*bF d*p.aC:Int):Rat)<=((p.top*bF d*bF d:Int):Rat):=by exact_mod_cast h
    push_cast at this
    exact this
   ·intro h
    have:((u*bF d*p.aC:Int):Rat)<=((p.top*bF d*bF d:Int):Rat):=by push_cast;exact h
    exact_mod_cast this
  rw[c2,c1]
  have pos:=Rat.mul_pos dd bp
  have e1:v*((bF d:Int):Rat)*((bF d:Int):Rat)*(p.aC:Rat)=v*(((bF d:Int):Rat)*((bF d:Int):Rat)*(p.aC:Rat)):=by grind
  have e2:(p.top:Rat)*((bF d:Int):Rat)*((bF d:Int):Rat)=(p.top:Rat) / (p.aC:Rat)*(((bF d:Int):Rat)*((bF d:Int):Rat)*(p.aC:Rat)):=by grind
  rw[e1,e2]
  exact⟨fun h=>Rat.le_of_mul_le_mul_right h pos,fun h=>Rat.mul_le_mul_of_nonneg_right h (Rat.le_of_lt pos)⟩
theorem MC{st:List Bool}{r:List Nat}(hr:oN 0 n.af.length st r):fG (FO n st) (d,tops)=(ao n).fits r x:=by
 unfold fG Wh.Net.fits
 rw[C9 R]
 show((List.range n.af.length).filter fun k=>decide ((n.af.getD k p0).kind=13)).all _=_
 rw[Bool.eq_iff_iff,List.all_eq_true,List.all_eq_true]
 constructor
 ·intro h k hk
  obtain⟨hk1,hk2⟩:=List.mem_filter.mp hk
  rw[<-B2 R tl d0 ht hr (List.mem_range.mp hk1) (of_decide_eq_true hk2)]
  exact h k hk
 ·intro h k hk
  obtain⟨hk1,hk2⟩:=List.mem_filter.mp hk
  rw[B2 R tl d0 ht hr (List.mem_range.mp hk1) (of_decide_eq_true hk2)]
  exact h k hk
end
noncomputable def Nn (n:Nw):Option (List Bool×(aQ×List aQ))->Option (Wh.States×List Rat)->Prop
 |none,none=>True
 |some p,some q=>p.1∈bf n.af [[]]/\oN 0 n.af.length p.1 q.1/\(det (ao n).unknowns (Sm n ((ao n).rest q.1) 0)).f 0≠0
 |_,_=>False
theorem xE{n:Nw}(R:Right n):∀{sts:List (List Bool)} {rs:List Wh.States},Al (oN 0 n.af.length) sts rs->(∀st∈sts,st∈bf n.af [[]])->
  Nn n (iR n sts) (rs.findSome? fun(r:Wh.States)=>match(ao n).solved ((ao n).rest r) 0 with
   |none=>none
   |some x=>if(ao n).fits r x=true then some (r,x) else none)
 |_,_,.nil,_=>trivial
 |st::sts,r::rs,.cons h t,hm=>by
  have ih:=xE R t fun s hs=>hm s (List.mem_cons_of_mem _ hs)
  rw[List.findSome?_cons]
  have e:iR n (st::sts)=match sol (rows (FO n st)) with
   |none=>iR n sts
   |some s=>if fG (FO n st) s=true then some (st,s) else iR n sts:=rfl
  rw[e]
  rcases Jp R (GH R h) rfl with⟨e1,e2⟩ |⟨d,tops,x,e1,e2,tl,_,d0,D0,ht⟩
  ·rw[e1,e2]
   exact ih
  ·rw[e1,e2]
   dsimp only
   rw[MC R tl d0 ht h]
   by_cases hf:(ao n).fits r x=true
   ·rw[if_pos hf,if_pos hf]
    exact⟨hm st List.mem_cons_self,h,D0⟩
   ·rw[if_neg hf,if_neg hf]
    exact ih
theorem v7{n:Nw}(R:Right n):Nn n (point n) (ao n).point:=by
 unfold point Wh.Net.point
 have e:bf n.af [[]]=jP n.af:=xC _
 refine xE R (rs:=Wh.rowsOf (ao n).diodes) ?_ fun st h=>h
 rw[e,Jo R]
 exact v5 n.af 0
theorem B3:∀(f:Nat) (l:List Int),l.length<=f->WhB.sevens f l=(List.range ((l.length+6) / 7)).map fun i=>(l.drop (7*i)).take 7
 |0,l,h=>by
  have:l=[]:=List.length_eq_zero_iff.mp (by lia)
  subst this
  rfl
 |f+1,l,h=>by
  unfold WhB.sevens
  by_cases e:l.isEmpty=true
  ·rw[if_pos e]
   have:l=[]:=List.isEmpty_iff.mp e
   subst this
   rfl
  ·rw[if_neg e]
   have hl:0<l.length:=by
    cases l with
    |nil=>exact absurd rfl e
    |cons=>simp
   rw[B3 f (l.drop 7) (by rw[List.length_drop];lia),List.length_drop]
   have e2:(l.length+6) / 7=(l.length - 7+6) / 7+1:=by lia
   rw[e2,List.range_succ_eq_map,List.map_cons,List.map_map]
   congr 1
   apply List.map_congr_left
   intro i _
   show((l.drop 7).drop (7*i)).take 7=(l.drop (7*(i+1))).take 7
   rw[List.drop_drop]
   congr 2
   lia
theorem xF(l:List Int):WhB.sevens l.length (l.drop 1)=aL l:=by
 rw[B3 l.length (l.drop 1) (by rw[List.length_drop];lia),List.length_drop]
 unfold aL
 apply List.map_congr_left
 intro i _
 rw[List.drop_drop]
theorem jQ(l:List Int)(h:l.length % 7=1):∀r∈aL l,r.length=7:=fun r hr=>by
 unfold aL at hr
 obtain⟨i,hi,rfl⟩:=List.mem_map.mp hr
 have hi:=List.mem_range.mp hi
 rw[List.length_take,List.length_drop]
 lia
theorem K4{r:List Int}(h:r.length=7):WhB.sevenOk r=dY r:=by
 match r,h with
 |[a,b,c,d,e,f,g],_=>
  rw[Bool.eq_iff_iff]
  unfold WhB.sevenOk dY WhB.small WhB.NUMBER
  simp
  (first |lia |omega)
theorem ET(r:List Int):r.headD 0=r.getD 0 0:=by cases r <;>rfl
theorem zP{α:Type}{p q:α->Bool}:∀{l:List α},(∀x∈l,p x=q x)->l.all p=l.all q
 |[],_=>rfl
 |x::l,h=>by
  rw[List.all_cons,List.all_cons,h x List.mem_cons_self,zP fun y hy=>h y (List.mem_cons_of_mem _ hy)]
theorem OG(l:List Int):WhB.rowOk l=jH l:=by
 unfold WhB.rowOk jH
 rw[xF]
 have fe:((aL l).filter fun(x:List Int)=>x.headD 0==13)=(aL l).filter fun r=>decide (r.getD 0 0=13):=by
  apply List.filter_congr
  intro r _
  rw[ET,Bool.eq_iff_iff]
  simp
 rw[fe]
 have pl:(aL l).length=(l.length - 1+6) / 7:=by unfold aL;simp
 by_cases h0:l.length=0\/¬(1<=l.headD 0/\l.headD 0<=8)
 ·rw[if_pos h0,Bool.eq_false_iff]
  intro q
  obtain⟨_,q⟩:=(Bool.and_eq_true _ _).mp q
  obtain⟨q1,q⟩:=(Bool.and_eq_true _ _).mp q
  obtain⟨q2,q⟩:=(Bool.and_eq_true _ _).mp q
  obtain⟨q3,q⟩:=(Bool.and_eq_true _ _).mp q
  have q1:=of_decide_eq_true q1
  have q2:=of_decide_eq_true q2
  have q3:l.headD 0<=((8:Nat):Int):=of_decide_eq_true q3
  rcases h0 with h |h
  ·lia
  ·exact h ⟨q2,by lia⟩
 rw[if_neg h0]
 have hh:1<=l.headD 0/\l.headD 0<=8:=Classical.byContradiction fun q=>h0 (.inr q)
 have hl:¬l.length=0:=fun q=>h0 (.inl q)
 by_cases h1:(l.length - 1) % 7=0
 rotate_left
 ·rw[if_pos h1,Bool.eq_false_iff]
  intro q
  obtain⟨_,q⟩:=(Bool.and_eq_true _ _).mp q
  obtain⟨q1,q⟩:=(Bool.and_eq_true _ _).mp q
  have q1:=of_decide_eq_true q1
  lia
 rw[if_neg (fun q=>q h1)]
 have h7:l.length % 7=1:=by lia
 by_cases h2:10<(aL l).length
 ·rw[if_pos h2,Bool.eq_false_iff]
  intro q
  obtain⟨_,q⟩:=(Bool.and_eq_true _ _).mp q
  obtain⟨_,q⟩:=(Bool.and_eq_true _ _).mp q
  obtain⟨_,q⟩:=(Bool.and_eq_true _ _).mp q
  obtain⟨_,q⟩:=(Bool.and_eq_true _ _).mp q
  obtain⟨q4,q⟩:=(Bool.and_eq_true _ _).mp q
  have q4:=of_decide_eq_true q4
  lia
 rw[if_neg h2]
 have ae:(aL l).all WhB.sevenOk=(aL l).all dY:=zP fun r hr=>K4 (jQ l h7 r hr)
 rw[ae,decide_eq_true h7,decide_eq_true hh.1,decide_eq_true (show l.headD 0<=((Wh.NODES:Nat):Int) from hh.2),decide_eq_true (show l.length<=7*10+1 by lia)]
 by_cases h3:(aL l).all dY=true
 ·rw[if_neg (fun q=>q h3),h3]
  show(_&&true)=_
  rw[Bool.and_true]
  rfl
 ·rw[if_pos h3,show(aL l).all dY=false by simpa using h3]
  show(_&&false)=false
  rw[Bool.and_false]
theorem MD{r:List Int}(h:r.length=7):WhB.elemIn r=aE (Part.of r):=by
 unfold WhB.elemIn aE Part.of kindOf
 have e:r.getD 6 1=r.getD 6 0:=by
  rw[gDe,gDe,List.getElem?_eq_getElem (by lia)]
  rfl
 rw[e]
theorem OH{l:List Int}(h:l.length % 7=1):WhB.netIn l=ao (aU l):=by
 unfold WhB.netIn ao aU
 rw[xF]
 dsimp only
 rw[List.map_map]
 congr 1
 apply List.map_congr_left
 intro r hr
 exact MD (jQ l h r hr)
theorem ME{r:List Int}(h:dY r=true)(h7:r.length=7):Pn (Part.of r):=by
 unfold dY at h
 by_cases h0:0<=r.getD 0 0/\r.getD 0 0<=13
 rotate_left
 ·rw[if_pos h0] at h;cases h
 rw[if_neg (fun q=>q h0)] at h
 by_cases h1:((r.drop 1).take 4).all (fun p=>decide (0<=p/\p<=63))=true
 rotate_left
 ·rw[if_pos h1] at h;cases h
 rw[if_neg (fun q=>q h1)] at h
 obtain⟨h2,h3⟩:=(Bool.and_eq_true _ _).mp h
 have h2:=of_decide_eq_true h2
 have h3:=of_decide_eq_true h3
 match r,h7 with
 |[a,b,d,e,f,g,k],_=>
  have q:=List.all_eq_true.mp h1
  have q1:=of_decide_eq_true (q b (by simp))
  have q2:=of_decide_eq_true (q d (by simp))
  have q3:=of_decide_eq_true (q e (by simp))
  have q4:=of_decide_eq_true (q f (by simp))
  exact⟨h0.1,h0.2,q1.1,q2.1,q3.1,q4.1,h2,h3.1,h3.2⟩
structure Rq(l:List Int):Prop where
 m7:l.length % 7=1
 l1:1<=(aU l).last
 l8:(aU l).last<=8
 af:(aU l).af.length<=10
 pn:∀p∈(aU l).af,Pn p
theorem Np{l:List Int}(h:jH l=true):Rq l:=by
 unfold jH at h
 by_cases h0:l.length=0\/¬(1<=l.headD 0/\l.headD 0<=8)
 ·rw[if_pos h0] at h;cases h
 rw[if_neg h0] at h
 by_cases h1:(l.length - 1) % 7=0
 rotate_left
 ·rw[if_pos h1] at h;cases h
 rw[if_neg (fun q=>q h1)] at h
 by_cases h2:10<(aL l).length
 ·rw[if_pos h2] at h;cases h
 rw[if_neg h2] at h
 by_cases h3:(aL l).all dY=true
 rotate_left
 ·rw[if_pos h3] at h;cases h
 have hh:1<=l.headD 0/\l.headD 0<=8:=Classical.byContradiction fun q=>h0 (.inr q)
 have hl:¬l.length=0:=fun q=>h0 (.inl q)
 have h7:l.length % 7=1:=by lia
 refine⟨h7,hh.1,hh.2,?_,fun p hp=> ?_⟩
 ·show((aL l).map Part.of).length<=10
  rw[lMp];lia
 ·obtain⟨r,hr,rfl⟩:=List.mem_map.mp (show p∈(aL l).map Part.of from hp)
  exact ME (List.all_eq_true.mp h3 r hr) (jQ l h7 r hr)
theorem GI{a b c d:Int}(hb:0<b)(hd:0<d):((a:Rat) / (b:Rat)<(c:Rat) / (d:Rat))↔a*d<c*b:=by
 have b':=gz hb
 have d':=gz hd
 have p:=Rat.mul_pos b' d'
 have e1:(a:Rat) / (b:Rat)*((b:Rat)*(d:Rat))=((a*d:Int):Rat):=by push_cast;grind
 have e2:(c:Rat) / (d:Rat)*((b:Rat)*(d:Rat))=((c*b:Int):Rat):=by push_cast;grind
 rw[<-Rat.mul_lt_mul_right p,e1,e2]
 constructor
 ·intro h;exact_mod_cast h
 ·intro h;exact_mod_cast h
theorem div_eq{a b c d:Int}(hb:0<b)(hd:0<d):((a:Rat) / (b:Rat)=(c:Rat) / (d:Rat))↔a*d=c*b:=by
 have b':=gz hb
 have d':=gz hd
 constructor
 ·intro h
  have:((a*d:Int):Rat)=((c*b:Int):Rat):=by push_cast;grind
  exact_mod_cast this
 ·intro h
  have:((a*d:Int):Rat)=((c*b:Int):Rat):=by exact_mod_cast h
  push_cast at this
  grind
section
variable {n:Nw}(hl:0<=n.last)(pn:∀p∈n.af,Pn p)
theorem Qt{p:Part}(h:Pn p):(0<(p.top:Rat) / (p.aC:Rat))↔0<p.top:=by
 have:=GI (a:=0) (b:=1) (c:=p.top) (d:=p.aC) (by decide) (by have:=h.b1;lia)
 have e:((0:Int):Rat) / ((1:Int):Rat)=0:=by decide +kernel
 rw[e] at this
 rw[this]
 lia
theorem OI{p:Part}(h:Pn p):((p.top:Rat) / (p.aC:Rat)=0)↔p.top=0:=by
 have:=div_eq (a:=p.top) (b:=p.aC) (c:=0) (d:=1) (by have:=h.b1;lia) (by decide)
 have e:((0:Int):Rat) / ((1:Int):Rat)=0:=by decide +kernel
 rw[e] at this
 rw[this]
 lia
theorem Qu{p:Part}(h:Pn p):((p.top:Rat) / (p.aC:Rat)=1)↔p.top=p.aC:=by
 have:=div_eq (a:=p.top) (b:=p.aC) (c:=1) (d:=1) (by have:=h.b1;lia) (by decide)
 have e:((1:Int):Rat) / ((1:Int):Rat)=1:=by decide +kernel
 rw[e] at this
 rw[this]
 lia
theorem K5{p:Part}(h:Pn p):(0<=(p.top:Rat) / (p.aC:Rat))↔0<=p.top:=by
 have:=GI (a:=p.top) (b:=p.aC) (c:=0) (d:=1) (by have:=h.b1;lia) (by decide)
 have e:((0:Int):Rat) / ((1:Int):Rat)=0:=by decide +kernel
 rw[e] at this
 rw[<-Rat.not_lt,this]
 lia
theorem OJ{p:Part}(h:Pn p):Wh.mayHave (kindOf p.kind) ((p.top:Rat) / (p.aC:Rat))=jI p:=by
 have k:=fL h.k0 h.k1
 obtain⟨kM,kT,kD,kV,kI,kL,kC,kH,kF,kS,kO,kE,kG,kR⟩:=k
 unfold Wh.mayHave jI
 simp only[kM,kT,kD,kV,kI,kL,kC,kH,kF,kS,kO,kE,kG,kR]
 have qp:=Qt h
 have qz:=OI h
 have qo:=Qu h
 have qn:=K5 h
 simp only[qp,qz,qo,qn,ne_eq]
 rcases nF h.k0 h.k1 with e |e |e |e |e |e |e |e |e |e |e |e |e |e <;>simp[e]
theorem K6{p:Part}(h:Pn p)(hl:0<=n.last):(aE p).nodes.any (fun(v:Nat)=>decide ((ao n).nodes<v))=(dz p).any (fun v=>decide (n.last<v)):=by
 have k:=fL h.k0 h.k1
 obtain⟨kM,kT,kD,kV,kI,kL,kC,kH,kF,kS,kO,kE,kG,kR⟩:=k
 have dv:∀v:Int,0<=v->decide ((ao n).nodes<v.toNat)=decide (n.last<v):=fun v h0=>by
  show decide (n.last.toNat<v.toNat)=_
  rw[decide_eq_decide];lia
 unfold aE dz Wh.nodeCount
 dsimp only
 simp only[kM,kE,kG,kT,kO]
 by_cases h3:p.kind=3
 ·simp[h3]
 ·simp only[h3,if_false]
  by_cases h4:p.kind=6\/p.kind=7\/p.kind=10\/p.kind=11
  ·simp only[h4,if_true]
   show[p.a.toNat,p.b.toNat,p.c.toNat,p.d.toNat].any _=_
   simp only[List.any_cons,List.any_nil,dv _ h.a0,dv _ h.b0,dv _ h.c0,dv _ h.d0]
  ·simp only[h4,if_false]
   show[p.a.toNat,p.b.toNat].any _=_
   simp only[List.any_cons,List.any_nil,dv _ h.a0,dv _ h.b0]
include pn
theorem Dd{i:Int}(h0:0<=i)(h1:i<n.af.length):(ao n).kindAt i.toNat=some (kindOf (kindAt n.af i))/\0<=kindAt n.af i/\kindAt n.af i<=13:=by
 have hi:i.toNat<n.af.length:=by lia
 have pp:=pn _ (memD (d:=p0) hi)
 unfold Wh.Net.kindAt kindAt
 show((n.af.map aE)[i.toNat]?).map _=_/\_
 rw[List.getElem?_map,gDe,List.getElem?_eq_getElem hi]
 rw[gDe,List.getElem?_eq_getElem hi] at pp
 exact⟨rfl,pp.k0,pp.k1⟩
theorem Ii{k:Nat}(hk:k<=n.af.length){i:Int}(h0:0<=i):(decide (k<=i.toNat) ||(ao n).kindAt i.toNat !=some .L)= !aX n.af i k:=by
 unfold aX
 by_cases h:i<k
 ·obtain⟨e,e0,e1⟩:=Dd pn h0 (show i<n.af.length by lia)
  rw[e,decide_eq_true h,decide_eq_false (show ¬k<=i.toNat by lia)]
  have kL:=(fL e0 e1).2.2.2.2.2.1
  rw[Bool.false_or,Bool.true_and]
  by_cases q:kindAt n.af i=2
  ·rw[decide_eq_true q,kL.mpr q];rfl
  ·rw[decide_eq_false q]
   have:¬kindOf (kindAt n.af i)= .L:=fun z=>q (kL.mp z)
   simpa using this
 ·rw[decide_eq_false h,decide_eq_true (show k<=i.toNat by lia)]
  rfl
theorem OK{k:Nat}(hk:k<=n.af.length){i:Int}(h0:0<=i):(decide (k<=i.toNat) ||(ao n).kindAt i.toNat==some .M)= !(decide (i<k)&&decide (kindAt n.af i≠3)):=by
 by_cases h:i<k
 ·obtain⟨e,e0,e1⟩:=Dd pn h0 (show i<n.af.length by lia)
  rw[e,decide_eq_true h,decide_eq_false (show ¬k<=i.toNat by lia)]
  have kM:=(fL e0 e1).1
  rw[Bool.false_or,Bool.true_and]
  by_cases q:kindAt n.af i=3
  ·rw[decide_eq_false (fun z=>z q),kM.mpr q];rfl
  ·rw[decide_eq_true (show kindAt n.af i≠3 from q)]
   have:¬kindOf (kindAt n.af i)= .M:=fun z=>q (kM.mp z)
   simpa using this
 ·rw[decide_eq_false h,decide_eq_true (show k<=i.toNat by lia)]
  rfl
omit pn in
theorem zQ{p q:Part}(hp:Pn p)(hq:Pn q)(h3:p.kind=3):(decide ((aE q).kind= .M)&&((aE q).refs==(aE p).refs ||(aE q).refs==(aE p).refs.reverse))=fz q p.a p.b:=by
 have rp:(aE p).refs=[p.a.toNat,p.b.toNat]:=by
  unfold aE
  dsimp only
  rw[if_pos (hp.M.mpr h3)]
 unfold fz
 by_cases hk:q.kind=3
 ·have rq:(aE q).refs=[q.a.toNat,q.b.toNat]:=by
   unfold aE
   dsimp only
   rw[if_pos (hq.M.mpr hk)]
  rw[if_neg (fun z=>z hk),rp,rq,decide_eq_true (show(aE q).kind= .M from hq.M.mpr hk)]
  have:=hp.a0
  have:=hp.b0
  have:=hq.a0
  have:=hq.b0
  rw[Bool.eq_iff_iff]
  simp
  lia
 ·rw[if_pos hk,decide_eq_false (show ¬(aE q).kind= .M from fun z=>hk (hq.M.mp z))]
  rfl
theorem K7(hl:0<=n.last){k:Nat}(hk:k<n.af.length):eF n k=(((ao n).wrongAt k (aE (n.af.getD k p0)):Nat):Int):=by
 have pp:=pn _ (memD (d:=p0) hk)
 unfold eF Wh.Net.wrongAt
 dsimp only
 rw[K6 pp hl,fV,C1,OJ pp]
 by_cases h1:(dz (n.af.getD k p0)).any (fun v=>decide (n.last<v))=true
 ·rw[if_pos h1,if_pos h1];rfl
 rw[if_neg h1,if_neg h1]
 by_cases h2:jI (n.af.getD k p0)=false
 ·rw[if_pos h2,if_pos h2];rfl
 rw[if_neg h2,if_neg h2]
 by_cases h3:(n.af.getD k p0).kind=3
 ·have mf:cI n.af k=true:=by
   unfold cI
   dsimp only
   rw[if_pos (by lia)]
  rw[if_neg (by rw[mf];simp),if_pos h3,if_pos (pp.M.mpr h3)]
  unfold jz
  dsimp only
  have rp:(aE (n.af.getD k p0)).refs=[(n.af.getD k p0).a.toNat,(n.af.getD k p0).b.toNat]:=by
   unfold aE
   dsimp only
   rw[if_pos (pp.M.mpr h3)]
  have anyT:((ao n).elems.take k).any (fun(y:Wh.Elem)=>decide (y.kind= .M)&&(y.refs==(aE (n.af.getD k p0)).refs ||y.refs==(aE (n.af.getD k p0)).refs.reverse))=(n.af.take k).any (fun q=>fz q (n.af.getD k p0).a (n.af.getD k p0).b):=by
   show((n.af.map aE).take k).any _=_
   rw[<-List.map_take,List.any_map]
   rw[Bool.eq_iff_iff,List.any_eq_true,List.any_eq_true]
   constructor
   ·rintro⟨q,hq,e⟩
    refine⟨q,hq,?_⟩
    rw[<-zQ pp (pn q (List.mem_of_mem_take hq)) h3]
    exact e
   ·rintro⟨q,hq,e⟩
    refine⟨q,hq,?_⟩
    rw[<-zQ pp (pn q (List.mem_of_mem_take hq)) h3] at e
    exact e
  rw[anyT,rp]
  have anyR:[(n.af.getD k p0).a.toNat,(n.af.getD k p0).b.toNat].any (fun(a:Nat)=>decide (k<=a) ||(ao n).kindAt a !=some .L)=(!aX n.af (n.af.getD k p0).a k || !aX n.af (n.af.getD k p0).b k):=by
   rw[List.any_cons,List.any_cons,List.any_nil,Ii pn (Nat.le_of_lt hk) pp.a0,Ii pn (Nat.le_of_lt hk) pp.b0,Bool.or_false]
  rw[anyR]
  show _=(((if(!aX n.af (n.af.getD k p0).a k || !aX n.af (n.af.getD k p0).b k)=true\/(n.af.getD k p0).a.toNat=(n.af.getD k p0).b.toNat\/((n.af.take k).any fun q=>fz q (n.af.getD k p0).a (n.af.getD k p0).b)=true then 3 else if(ao n).numAt (n.af.getD k p0).a.toNat*(ao n).numAt (n.af.getD k p0).b.toNat<((n.af.getD k p0).top:Rat) / ((n.af.getD k p0).aC:Rat)*(((n.af.getD k p0).top:Rat) / ((n.af.getD k p0).aC:Rat)) then 2 else 0:Nat)):Int)
  have abI:(n.af.getD k p0).a.toNat=(n.af.getD k p0).b.toNat↔(n.af.getD k p0).a=(n.af.getD k p0).b:=by
   have:=pp.a0
   have:=pp.b0
   lia
  by_cases q1:(n.af.getD k p0).a=(n.af.getD k p0).b
  ·rw[if_pos (Or.inl q1),if_pos (Or.inr (Or.inl (abI.mpr q1)))];rfl
  cases q2:aX n.af (n.af.getD k p0).a k with
  |false=>rw[if_pos (Or.inr (Or.inl rfl)),if_pos (.inl rfl)];rfl
  |true=>
  cases q3:aX n.af (n.af.getD k p0).b k with
  |false=>rw[if_pos (Or.inr (Or.inr rfl)),if_pos (.inl rfl)];rfl
  |true=>
  rw[if_neg (by rintro(h |h |h) <;>first |exact q1 h |cases h)]
  by_cases q4:(n.af.take k).any (fun q=>fz q (n.af.getD k p0).a (n.af.getD k p0).b)=true
  ·rw[if_pos q4,if_pos (Or.inr (Or.inr q4))];rfl
  have nB:¬((!true || !true)=true\/(n.af.getD k p0).a.toNat=(n.af.getD k p0).b.toNat\/(n.af.take k).any (fun q=>fz q (n.af.getD k p0).a (n.af.getD k p0).b)=true):=by
   rintro(h |h |h)
   ·cases h
   ·exact q1 (abI.mp h)
   ·exact q4 h
  rw[if_neg q4,if_neg nB]
  have lta:(n.af.getD k p0).a<k:=by
   unfold aX at q2
   exact of_decide_eq_true ((Bool.and_eq_true _ _).mp q2).1
  have ltb:(n.af.getD k p0).b<k:=by
   unfold aX at q3
   exact of_decide_eq_true ((Bool.and_eq_true _ _).mp q3).1
  have a0:=pp.a0
  have b0:=pp.b0
  have na:∀i:Nat,i<n.af.length->(ao n).numAt i=((n.af.getD i p0).top:Rat) / ((n.af.getD i p0).aC:Rat):=fun i hi=>by
   unfold Wh.Net.numAt
   show(((n.af.map aE)[i]?).map _).getD 0=_
   rw[List.getElem?_map,gDe,List.getElem?_eq_getElem hi]
   rfl
  rw[na _ (by lia),na _ (by lia)]
  have pa:=pn _ (memD (d:=p0) (show(n.af.getD k p0).a.toNat<n.af.length by lia))
  have pb:=pn _ (memD (d:=p0) (show(n.af.getD k p0).b.toNat<n.af.length by lia))
  have tm:tooMuch (n.af.getD k p0) (n.af.getD (n.af.getD k p0).a.toNat p0) (n.af.getD (n.af.getD k p0).b.toNat p0)=true↔((n.af.getD (n.af.getD k p0).a.toNat p0).top:Rat) / ((n.af.getD (n.af.getD k p0).a.toNat p0).aC:Rat)*(((n.af.getD (n.af.getD k p0).b.toNat p0).top:Rat) / ((n.af.getD (n.af.getD k p0).b.toNat p0).aC:Rat))<((n.af.getD k p0).top:Rat) / ((n.af.getD k p0).aC:Rat)*(((n.af.getD k p0).top:Rat) / ((n.af.getD k p0).aC:Rat)):=by
   generalize n.af.getD (n.af.getD k p0).a.toNat p0=u at pa⊢
   generalize n.af.getD (n.af.getD k p0).b.toNat p0=v at pb⊢
   generalize n.af.getD k p0=c at pp⊢
   have u1:=pa.b1
   have v1:=pb.b1
   have c1:=pp.b1
   unfold tooMuch
   rw[decide_eq_true_iff]
   have up:=gz (show 0<u.aC by lia)
   have vp:=gz (show 0<v.aC by lia)
   have cp:=gz (show 0<c.aC by lia)
   have e1:(u.top:Rat) / (u.aC:Rat)*((v.top:Rat) / (v.aC:Rat))=((u.top*v.top:Int):Rat) / ((u.aC*v.aC:Int):Rat):=by push_cast;grind
   have e2:(c.top:Rat) / (c.aC:Rat)*((c.top:Rat) / (c.aC:Rat))=((c.top*c.top:Int):Rat) / ((c.aC*c.aC:Int):Rat):=by push_cast;grind
   rw[e1,e2,GI (Int.mul_pos (by lia) (by lia)) (Int.mul_pos (by lia) (by lia)),<-Int.mul_assoc,<-Int.mul_assoc]
  by_cases q5:tooMuch (n.af.getD k p0) (n.af.getD (n.af.getD k p0).a.toNat p0) (n.af.getD (n.af.getD k p0).b.toNat p0)=true
  ·rw[if_pos q5,if_pos (tm.mp q5)];rfl
  ·rw[if_neg q5,if_neg (fun z=>q5 (tm.mpr z))];rfl
 ·rw[if_neg (fun e=>h3 (pp.M.mp e))]
  have kH:=(fL pp.k0 pp.k1).2.2.2.2.2.2.2.1
  have kF:=(fL pp.k0 pp.k1).2.2.2.2.2.2.2.2.1
  by_cases h4:(n.af.getD k p0).kind=8\/(n.af.getD k p0).kind=9
  ·have rc:Wh.refCount (kindOf (n.af.getD k p0).kind)=1:=by
    unfold Wh.refCount
    rw[if_neg (fun e=>h3 (pp.M.mp e)),if_pos (h4.imp kH.mpr kF.mpr)]
   have rp:(aE (n.af.getD k p0)).refs=[(n.af.getD k p0).c.toNat]:=by
    unfold aE
    dsimp only
    rw[if_neg (fun e=>h3 (pp.M.mp e)),if_pos rc]
   have mf:cI n.af k=(decide ((n.af.getD k p0).c<(k:Int))&&decide (kindAt n.af (n.af.getD k p0).c≠3)):=by
    unfold cI
    dsimp only
    rw[if_neg (fun q=>q h4)]
   rw[rp,List.any_cons,List.any_nil,Bool.or_false,OK pn (Nat.le_of_lt hk) pp.c0,mf]
   cases q:(decide ((n.af.getD k p0).c<(k:Int))&&decide (kindAt n.af (n.af.getD k p0).c≠3)) with
   |false=>rfl
   |true=>
    rw[if_neg (by simp),if_neg h3]
    rfl
  ·have rc:Wh.refCount (kindOf (n.af.getD k p0).kind)=0:=by
    unfold Wh.refCount
    rw[if_neg (fun e=>h3 (pp.M.mp e)),if_neg (fun z=>h4 (z.imp kH.mp kF.mp))]
   have rp:(aE (n.af.getD k p0)).refs=[]:=by
    unfold aE
    dsimp only
    rw[if_neg (fun e=>h3 (pp.M.mp e)),if_neg (by rw[rc];decide)]
   have mf:cI n.af k=true:=by
    unfold cI
    dsimp only
    rw[if_pos h4]
   rw[rp,mf,if_neg (by simp),if_neg h3]
   rfl
def tell:Option (Nat×Nat)->List Int
 |none=>[]
 |some x=>[(x.1:Int),(x.2:Int)]
theorem K8(hl:0<=n.last):fault n=tell (ao n).wrong:=by
 unfold Wh.Net.wrong
 rw[cW,List.findSome?_map]
 have key:∀f,f<=n.af.length->gu n f=tell (((List.range n.af.length).drop (n.af.length - f)).findSome? ((fun(p:Nat×Wh.Elem)=>if(ao n).wrongAt p.1 p.2=0 then none else some (p.1,(ao n).wrongAt p.1 p.2)) ∘ fun k=>(k,aE (n.af.getD k p0)))):=by
  intro f
  induction f with
  |zero=>
   intro _
   rw[Nat.sub_zero,List.drop_of_length_le (by simp)]
   rfl
  |succ f ih=>
   intro hf
   have ih:=ih (by lia)
   have hk:n.af.length - (f+1)<n.af.length:=by lia
   have e:(List.range n.af.length).drop (n.af.length - (f+1))=(n.af.length - (f+1))::(List.range n.af.length).drop (n.af.length - f):=by
    rw[List.drop_eq_getElem_cons (by rw[List.length_range];exact hk),List.getElem_range]
    congr 2
    lia
   rw[e,List.findSome?_cons]
   unfold gu
   dsimp only
   rw[K7 pn hl hk]
   have e3:((fun(p:Nat×Wh.Elem)=>if(ao n).wrongAt p.1 p.2=0 then none else some (p.1,(ao n).wrongAt p.1 p.2)) ∘ fun k=>(k,aE (n.af.getD k p0))) (n.af.length - (f+1))=if(ao n).wrongAt (n.af.length - (f+1)) (aE (n.af.getD (n.af.length - (f+1)) p0))=0 then none else some (n.af.length - (f+1),(ao n).wrongAt (n.af.length - (f+1)) (aE (n.af.getD (n.af.length - (f+1)) p0))):=rfl
   rw[e3]
   by_cases q:(ao n).wrongAt (n.af.length - (f+1)) (aE (n.af.getD (n.af.length - (f+1)) p0))=0
   ·rw[if_pos q,if_neg (by rw[q];simp),ih]
   ·rw[if_neg q,if_pos (by lia)]
    rfl
 have:=key n.af.length (Nat.le_refl _)
 rw[Nat.sub_self,List.drop_zero] at this
 exact this
end
def left(L:Wh.Law):List (Nat×Rat)×List (Nat×Rat):=(L.terms,L.byS)
theorem K9(N:Wh.Net)(G G':Wh.Setting)(ho:∀k,G.on k=G'.on k)(k:Nat)(x:Wh.Elem):(N.lawsOf G k x).map left=(N.lawsOf G' k x).map left:=by
 unfold Wh.Net.lawsOf
 dsimp only
 cases x.kind <;>dsimp only <;>try rfl
 rw[ho k]
 split <;>rfl
theorem La(N:Wh.Net)(G G':Wh.Setting)(ho:∀k,G.on k=G'.on k):(N.laws G).map left=(N.laws G').map left:=by
 unfold Wh.Net.laws
 rw[List.map_append,List.map_append]
 congr 1
 rw[List.map_flatMap,List.map_flatMap]
 congr 1
 funext p
 exact K9 N G G' ho p.1 p.2
theorem Jq(N:Wh.Net)(G G':Wh.Setting)(ho:∀k,G.on k=G'.on k)(s:Rat):((N.rows G s).map fun(r:Wh.Row)=>r.1)=(N.rows G' s).map fun(r:Wh.Row)=>r.1:=by
 unfold Wh.Net.rows
 rw[List.map_map,List.map_map]
 have e:∀G:Wh.Setting,(N.laws G).map ((fun(r:Wh.Row)=>r.1) ∘ fun(l:Wh.Law)=>l.row N.unknowns s)=((N.laws G).map left).map fun x=>x.2.foldl (fun(r:List Rat) (t:Nat×Rat)=>Wh.addAt r t.1 (s*t.2)) (x.1.foldl (fun(r:List Rat) (t:Nat×Rat)=>Wh.addAt r t.1 t.2) (List.replicate N.unknowns 0)):=fun G=>by
  rw[List.map_map]
  rfl
 rw[e G,e G',La N G G' ho]
theorem OL{n:Nw}(R:Right n){k:Int}(h0:0<=k):WhB.isSource (ao n) k.toNat=gI n k:=by
 unfold WhB.isSource gI
 by_cases h:k<n.af.length
 ·obtain⟨e,e0,e1⟩:=Dd R.pn h0 h
  rw[e,decide_eq_true h,Bool.true_and]
  have kV:=(fL e0 e1).2.2.2.1
  have kI:=(fL e0 e1).2.2.2.2.1
  rw[Bool.eq_iff_iff]
  simp[kV,kI]
 ·rw[decide_eq_false h]
  have:(ao n).kindAt k.toNat=none:=by
   unfold Wh.Net.kindAt
   show((n.af.map aE)[k.toNat]?).map _=none
   rw[List.getElem?_eq_none (by rw[lMp];lia)]
   rfl
  rw[this]
  rfl
theorem OM{n:Nw}(R:Right n){what k:Int}(w0:0<=what)(h0:0<=k):WhB.thereIs (ao n) what.toNat k.toNat=gi n what k:=by
 unfold WhB.thereIs gi Wh.Net.quantity
 have nn:=R.nodes
 have lp:=R.l1
 by_cases hw0:what=0
 ·subst hw0
  rw[if_pos rfl,if_pos (show Int.toNat 0=0 from rfl)]
  show(true&&_)=_
  rw[Bool.true_and]
  by_cases h:k<=n.last
  ·rw[decide_eq_true h,if_pos (by lia)];rfl
  ·rw[decide_eq_false h,if_neg (by lia)];rfl
 ·rw[if_neg hw0,if_neg (show ¬what.toNat=0 by lia)]
  by_cases hw:what=1\/what=2
  ·rw[if_pos hw,decide_eq_true (show what.toNat<=2 by lia),Bool.true_and]
   by_cases h:k<n.af.length
   ·have hk:k.toNat<n.af.length:=by lia
    rw[R.elem hk,decide_eq_true h,Bool.true_and]
    dsimp only
    have pp:=R.p hk
    unfold kindAt
    by_cases h3:(n.af.getD k.toNat p0).kind=3
    ·rw[if_pos (show(aE (n.af.getD k.toNat p0)).kind= .M from pp.M.mpr h3),decide_eq_false (fun z=>z h3)]
     rfl
    ·rw[if_neg (show ¬(aE (n.af.getD k.toNat p0)).kind= .M from fun z=>h3 (pp.M.mp z)),decide_eq_true (show(n.af.getD k.toNat p0).kind≠3 from h3)]
     rcases hw with rfl |rfl
     ·rfl
     ·rfl
   ·rw[decide_eq_false h]
    have:(ao n).elems[k.toNat]? =none:=by
     show(n.af.map aE)[k.toNat]? =none
     rw[List.getElem?_eq_none (by rw[lMp];lia)]
    rw[this]
    rfl
  ·rw[if_neg hw,decide_eq_false (show ¬what.toNat<=2 by lia),Bool.false_and]
structure Pc(n:Nw)(st:List Bool)(r:List Nat)(src:Int)(d:aQ)(tops:List aQ):Prop where
 len:tops.length=(ao n).unknowns
 xq:Trim d
 O9:d≠[]
 trim:∀c,c<(ao n).unknowns->Trim (tops.getD c [])
 ex:∃q:Rat,q≠0/\aG d=PF.const q*bL ((ao n).determinant (Wh.alone r src.toNat))/\∀c,c<(ao n).unknowns->aG (tops.getD c [])=PF.const q*bL ((ao n).numerator (Wh.alone r src.toNat) c)
theorem rZ{n:Nw}(R:Right n){st:List Bool}{r:List Nat}(h:oN 0 n.af.length st r)(D0:(det (ao n).unknowns (Sm n ((ao n).rest r) 0)).f 0≠0){src:Int}(h0:0<=src)(hs:gI n src=true):
  ∃d tops,sol (rows (bI n st src))=some (d,tops)/\Pc n st r src d tops:=by
 have S:=nI R h h0 hs
 have X0:aG (bI n st src).s=XX:=rfl
 have sp:=EL R S
 rw[X0] at sp
 rcases sp with⟨d,tops,e,tl,td,dn,tt,q,hq,hd,ht⟩ |⟨_,z,_⟩
 ·refine⟨d,tops,e,tl,td,dn,tt,q,hq,?_,fun c hc=> ?_⟩
  ·rw[hd,zN R]
  ·rw[ht c hc,C8 R _ hc]
 ·exfalso
  refine D0 ?_
  have e1:=GF R ((ao n).rest r) 0 0 0 rfl
  have e2:=GF R (Wh.alone r src.toNat) XX 0 0 (OE 0)
  rw[<-e1,Jq (ao n) ((ao n).rest r) (Wh.alone r src.toNat) (fun _=>rfl) 0,e2,z]
  rfl
theorem p5{n:Nw}(R:Right n){st:List Bool}{r:List Nat}{src:Int}{d:aQ}{tops:List aQ}(D:Pc n st r src d tops){q:Rat}(ht:∀c,c<(ao n).unknowns->aG (tops.getD c [])=PF.const q*bL ((ao n).numerator (Wh.alone r src.toNat) c)){v:Int}(h0:0<=v)(h1:v<=n.last):
  Trim (cA (d,tops) v)/\aG (cA (d,tops) v)=PF.const q*bL ((ao n).voltageOver (Wh.alone r src.toNat) v.toNat):=by
 unfold cA Wh.Net.voltageOver
 by_cases h:0<v
 ·rw[if_pos h,if_neg (by lia)]
  have nl:=jO n
  have e:v.toNat - 1=(v - 1).toNat:=by lia
  rw[e]
  exact⟨D.trim _ (by lia),ht _ (by lia)⟩
 ·rw[if_neg h,if_pos (by lia)]
  refine⟨pQ,?_⟩
  show(0:PF)=_* 0
  grind
theorem zR{n:Nw}(R:Right n){st:List Bool}{r:List Nat}{src:Int}{d:aQ}{tops:List aQ}(D:Pc n st r src d tops){q:Rat}(ht:∀c,c<(ao n).unknowns->aG (tops.getD c [])=PF.const q*bL ((ao n).numerator (Wh.alone r src.toNat) c)){what k:Int}(w0:0<=what)(k0:0<=k)(hq:gi n what k=true):
  Trim (fh (bI n st src) (d,tops) what k)/\aG (fh (bI n st src) (d,tops) what k)=PF.const q*bL ((ao n).over (Wh.alone r src.toNat) what.toNat k.toNat):=by
 unfold gi at hq
 unfold fh Wh.Net.over
 by_cases h0:what=0
 ·rw[if_pos h0] at hq
  rw[if_pos h0,if_pos (by lia)]
  exact p5 R D ht k0 (of_decide_eq_true hq)
 ·rw[if_neg h0] at hq
  rw[if_neg h0,if_neg (show ¬what.toNat=0 by lia)]
  by_cases hw:what=1\/what=2
  ·rw[if_pos hw] at hq
   obtain⟨q1,q2⟩:=(Bool.and_eq_true _ _).mp hq
   have q1:=of_decide_eq_true q1
   have q2:=of_decide_eq_true q2
   have hk:k.toNat<n.af.length:=by lia
   unfold kindAt at q2
   have pp:=R.p hk
   have ab:=R.ab hk q2
   rw[R.elem hk]
   dsimp only
   by_cases h1:what=1
   ·rw[if_pos h1,if_pos (by lia)]
    unfold gQ
    show Trim (tops.getD ((places n).getD k.toNat 0).toNat [])/\aG (tops.getD ((places n).getD k.toNat 0).toNat [])=_
    rw[R.place hk,Int.toNat_natCast]
    exact⟨D.trim _ (mM R hk q2),ht _ (mM R hk q2)⟩
   ·rw[if_neg h1,if_neg (show ¬what.toNat=1 by lia)]
    have nc:Wh.nodeCount (kindOf (n.af.getD k.toNat p0).kind)=2\/Wh.nodeCount (kindOf (n.af.getD k.toNat p0).kind)=4:=by
     unfold Wh.nodeCount
     rw[if_neg (fun e=>q2 (pp.M.mp e))]
     split
     ·exact .inr rfl
     ·exact .inl rfl
    obtain⟨n0,n1⟩:=cg (rfl:kindOf (n.af.getD k.toNat p0).kind=_) nc
    rw[n0,n1]
    unfold gR qJ
    refine⟨qK _ _,?_⟩
    rw[mI,CY]
    show aG (cA (d,tops) (n.af.getD k.toNat p0).a) - aG (cA (d,tops) (n.af.getD k.toNat p0).b)=_
    rw[(p5 R D ht pp.a0 ab.1).2,(p5 R D ht pp.b0 ab.2).2]
    grind
  ·rw[if_neg hw] at hq
   cases hq
theorem right_of{l:List Int}(h:bz l=[]):Right (aU l)/\jH l=true:=by
 unfold bz at h
 cases e:jH l with
 |false=>rw[e,if_pos rfl] at h;cases h
 |true=>
  rw[e,if_neg (by simp)] at h
  have N:=Np e
  refine⟨⟨N.l1,N.l8,N.af,N.pn,?_⟩,rfl⟩
  cases f:fault (aU l) with
  |nil=>rfl
  |cons x xs=>rw[f] at h;cases h
theorem Lb(l:List Int)(f:Wh.Net->WhB.Answer):WhBNeutral.shown (WhB.ofNet l f)=if bz l≠[] then bz l else WhBNeutral.shown (f (ao (aU l))):=by
 unfold WhB.ofNet
 rw[OG]
 cases e:jH l with
 |false=>
  have er:bz l=[-1]:=by
   unfold bz
   rw[if_pos e]
  rw[er,if_pos rfl,if_pos (by simp)]
  rfl
 |true=>
  have N:=Np e
  have er:bz l=match fault (aU l) with
   |[]=>[]
   |f=> -2::f:=by
   unfold bz
   rw[if_neg (by rw[e];simp)]
   all_goals cases fault (aU l) <;>rfl
  rw[if_neg (by simp),OH N.m7]
  rw[K8 N.pn (by have:=N.l1;lia)] at er
  cases w:(ao (aU l)).wrong with
  |none=>
   rw[w] at er
   have er:bz l=[]:=er
   rw[er,if_neg (by simp)]
  |some x=>
   rw[w] at er
   have er:bz l=[-2,(x.1:Int),(x.2:Int)]:=er
   rw[er,if_pos (by simp)]
   rfl
theorem Lc{src what k:Int}(s0:0<=src)(w0:0<=what)(k0:0<=k)(l:List Int):trans src what k l=PyWrwirb.trans src what k l:=by
 have e:PyWrwirb.trans src what k l=WhBNeutral.shown (WhB.answer (.trans src.toNat what.toNat k.toNat l)):=rfl
 rw[e]
 unfold WhB.answer
 dsimp only
 rw[Lb]
 unfold trans
 dsimp only
 by_cases hr:bz l=[]
 rotate_left
 ·have dq:bb src what k l=⟨bz l,[],[]⟩:=by
   unfold bb
   rw[if_pos hr]
  rw[dq,if_pos hr,if_pos hr]
 rw[if_neg (fun z:bz l≠[]=>z hr)]
 obtain⟨R,dP⟩:=right_of hr
 rw[OL R s0,OM R w0 k0]
 by_cases hq:gI (aU l) src=false\/gi (aU l) what k=false
 ·have dq:bb src what k l=⟨[-3],[],[]⟩:=by
   unfold bb
   rw[if_neg (fun z=>z hr),if_pos hq]
  rw[dq,if_pos hq]
  rfl
 rw[if_neg hq]
 have h1:gI (aU l) src=true:=by
  cases e:gI (aU l) src with
  |true=>rfl
  |false=>exact absurd (.inl e) hq
 have h2:gi (aU l) what k=true:=by
  cases e:gi (aU l) what k with
  |true=>rfl
  |false=>exact absurd (.inr e) hq
 have dq0:bb src what k l=match point (aU l) with
  |none=>⟨[-4],[],[]⟩
  |some pt=>match sol (rows (bI (aU l) pt.1 src)) with
   |none=>⟨[],[],[]⟩
   |some s=>⟨[],fh (bI (aU l) pt.1 src) s what k,s.1⟩:=by
  unfold bb
  rw[if_neg (fun z=>z hr),if_neg hq]
  all_goals
   cases point (aU l) with
   |none=>rfl
   |some p=>
    dsimp only
    cases sol (rows (bI (aU l) p.1 src)) <;>rfl
 unfold WhB.ofPoint
 have pr:=v7 R
 cases hp:point (aU l) with
 |none=>
  rw[hp] at pr dq0
  have dq:bb src what k l=⟨[-4],[],[]⟩:=dq0
  rw[dq]
  cases hP:(ao (aU l)).point with
  |none=>rfl
  |some y=>rw[hP] at pr;exact pr.elim
 |some p=>
  rw[hp] at pr dq0
  cases hP:(ao (aU l)).point with
  |none=>rw[hP] at pr;exact pr.elim
  |some y=>
   rw[hP] at pr
   obtain⟨_,hst,D0⟩:=pr
   obtain⟨d,tops,es,D⟩:=rZ R hst D0 s0 h1
   obtain⟨q,q0,hd,ht⟩:=D.ex
   obtain⟨tT,eT⟩:=zR R D ht w0 k0 h2
   dsimp only at dq0
   rw[es] at dq0
   have dq:bb src what k l=⟨[],fh (bI (aU l) p.1 src) (d,tops) what k,d⟩:=dq0
   rw[dq,if_neg (by simp)]
   have nz:¬Wh.isZero ((ao (aU l)).determinant (Wh.alone y.1 src.toNat))=true:=fun z=>by
    have:=(jN _).mp z
    rw[this] at hd
    exact ny D.xq D.O9 (by rw[hd];grind)
   unfold WhB.ofQuotient WhB.over
   dsimp only
   rw[if_neg nz]
   dsimp only
   rw[Mt tT D.xq D.O9 q0 eT hd]
   rfl
theorem b6(a:Int)(l:aQ):dW (a::l)=a.natAbs+dW l:=by unfold dW;simp
theorem De:dW []=0:=rfl
theorem mN:∀l r:aQ,dW (eh l r)<=dW l+dW r
 |[],r=>by
  show dW r<=0+dW r
  lia
 |a::l,[]=>by
  show dW (a::l)<=dW (a::l)+0
  lia
 |a::l,b::r=>by
  show dW ((a+b)::eh l r)<=_
  rw[b6,b6,b6]
  have:=mN l r
  have:=Int.natAbs_add_le a b
  lia
theorem B4(c:Int):∀l:aQ,dW (l.map fun y=>c*y)=c.natAbs*dW l
 |[]=>by
  show 0=c.natAbs*0
  lia
 |a::l=>by
  rw[List.map_cons,b6,b6,B4 c l,Int.natAbs_mul,Nat.mul_add]
theorem ux:∀l r:aQ,dW (mulL l r)<=dW l*dW r
 |[],r=>by
  show 0<=_
  lia
 |a::l,r=>by
  show dW (eh (r.map fun y=>a*y) (0::mulL l r))<=_
  refine Nat.le_trans (mN _ _) ?_
  rw[B4,b6,b6,Nat.add_mul]
  have:=ux l r
  have e:(0:Int).natAbs=0:=rfl
  lia
theorem EU:∀(l:aQ) (k:Nat),dW (l.take k)<=dW l
 |[],k=>by simp[dW]
 |a::l,0=>by
  show 0<=_
  lia
 |a::l,k+1=>by
  rw[List.take_succ_cons,b6,b6]
  have:=EU l k
  lia
theorem Df(l:aQ):dW (Gi l)<=dW l:=EU _ _
theorem Dh(l:aQ):dW (HK l)=dW l:=by
 unfold dW HK
 rw[List.map_map]
 congr 1
 apply List.map_congr_left
 intro x _
 exact Int.natAbs_neg x
theorem qT:∀{l:aQ} {x:Int},x∈l->x.natAbs<=dW l
 |a::l,x,h=>by
  rw[b6]
  rcases List.mem_cons.mp h with rfl |h
  ·lia
  ·have:=qT h
   lia
theorem EV(l r:aQ):dW (de l r)<=dW l*dW r:=by
 unfold de
 split
 ·show 0<=_
  lia
 ·exact ux l r
theorem MF(l r:aQ):(mulL l r).length<=l.length+r.length:=by
 by_cases h1:l=[]
 ·subst h1;simp[mulL]
 ·by_cases h2:r=[]
  ·subst h2
   have:∀l:aQ,(mulL l []).length<=l.length:=by
    intro l
    induction l with
    |nil=>simp[mulL]
    |cons a l ih=>
     show(eh [] (0::mulL l [])).length<=_
     rw[fH]
     simp
     lia
   exact Nat.le_trans (this l) (by lia)
  ·rw[dZ l r h1 h2];lia
theorem Bd.mono{f:PF}{d e B C:Nat}(h:Bd f d B)(hd:d<=e)(hB:B<=C):Bd f e C:=by
 obtain⟨l,t,e1,h1,h2⟩:=h.ex
 exact⟨l,t,e1,by lia,by lia⟩
theorem EW(l:aQ){d B:Nat}(hl:l.length<=d+1)(hB:dW l<=B):Bd (aG l) d B:=⟨Gi l,jK l,tS l,Nat.le_trans (CN l) hl,Nat.le_trans (Df l) hB⟩
theorem Bd.add{f g:PF}{d B C:Nat}(hf:Bd f d B)(hg:Bd g d C):Bd (f+g) d (B+C):=by
 obtain⟨l,_,rfl,l1,l2⟩:=hf.ex
 obtain⟨m,_,rfl,m1,m2⟩:=hg.ex
 rw[<-tU]
 refine EW _ ?_ ?_
 ·rw[fH];lia
 ·have:=mN l m
  lia
theorem Bd.neg{f:PF}{d B:Nat}(hf:Bd f d B):Bd (- f) d B:=by
 obtain⟨l,_,rfl,l1,l2⟩:=hf.ex
 rw[<-CO]
 refine EW _ ?_ ?_
 ·rw[tV];exact l1
 ·rw[Dh];exact l2
theorem Bd.sub{f g:PF}{d B C:Nat}(hf:Bd f d B)(hg:Bd g d C):Bd (f - g) d (B+C):=by
 have e:f - g=f+ - g:=by grind
 rw[e];exact hf.add hg.neg
theorem Bd.mul{f g:PF}{d e B C:Nat}(hf:Bd f d B)(hg:Bd g e C):Bd (f*g) (d+e) (B*C):=by
 obtain⟨l,_,rfl,l1,l2⟩:=hf.ex
 obtain⟨m,_,rfl,m1,m2⟩:=hg.ex
 rw[<-fI]
 refine EW _ ?_ ?_
 ·by_cases h1:l=[]
  ·subst h1;simp[mulL]
  ·by_cases h2:m=[]
   ·subst h2
    have:=MF l []
    simp at this
    lia
   ·rw[dZ l m h1 h2];lia
 ·exact Nat.le_trans (ux l m) (Nat.mul_le_mul l2 m2)
theorem Di(d:Nat):Bd 0 d 0:=⟨[],pQ,rfl,by simp,Nat.le_refl _⟩
theorem GJ(d:Nat):Bd 1 d 1:=by
 rw[<-uq]
 exact EW [1] (by simp) (by decide)
theorem Qv(i:Nat):Bd (sg i) 0 1:=by
 unfold sg
 split
 ·exact GJ 0
 ·exact(GJ 0).neg
theorem Dj(d B:Nat):∀(n:Nat) {f:Nat->PF},(∀i,i<n->Bd (f i) d B)->Bd (a7 n f) d (n*B)
 |0,_,_=>by
  rw[Nat.zero_mul]
  exact Di d
 |n+1,f,h=>by
  have:=(Dj d B n fun i hi=>h i (by lia)).add (h n (by lia))
  rw[Nat.succ_mul]
  exact this
def db(B:Nat):Nat->Nat
 |0=>1
 |n+1=>(n+1)*(B*db B n)
theorem zS(B:Nat):∀(n:Nat) {A:Nat->Nat->PF},(∀i j,i<n->j<n->Bd (A i j) 1 B)->Bd (det n A) n (db B n)
 |0,_,_=>GJ 0
 |n+1,A,h=>by
  rw[cD]
  refine Dj (n+1) (B*db B n) (n+1) fun i hi=> ?_
  have h2:=(Qv i).mul ((h i 0 hi (by lia)).mul (zS B n fun a b ha hb=>h _ _ (tO ha) (by lia):Bd (det n (del i A)) n (db B n)))
  exact h2.mono (by lia) (by lia)
theorem Ld{b:Nat}:∀n,n<=32->db (2^b) n<=2^((b+5)*n)
 |0,_=>by
  show 1<=_
  exact Nat.one_le_two_pow
 |n+1,h=>by
  have ih:=Ld (b:=b) n (by lia)
  show(n+1)*(2^b*db (2^b) n)<=_
  have e:2^((b+5)*(n+1))=2^5*(2^b*2^((b+5)*n)):=by
   rw[<-Nat.pow_add,<-Nat.pow_add]
   congr 1
   rw[Nat.mul_add]
   lia
  rw[e]
  exact Nat.mul_le_mul (by lia) (Nat.mul_le_mul (Nat.le_refl _) ih)
theorem Ij{b m n:Nat}(h:m<=n):db (2^b) m<=db (2^b) n:=by
 induction h with
 |refl=>exact Nat.le_refl _
 |step h ih=>
  rename_i q
  refine Nat.le_trans ih ?_
  show db (2^b) q<=(q+1)*(2^b*db (2^b) q)
  have h1:1<=2^b:=Nat.one_le_two_pow
  have h2:db (2^b) q<=2^b*db (2^b) q:=Nat.le_mul_of_pos_left _ (by lia)
  exact Nat.le_trans h2 (Nat.le_mul_of_pos_left _ (by lia))
theorem Bd.list{l:aQ}{d B:Nat}(t:Trim l)(h:Bd (aG l) d B):l.length<=d+1/\dW l<=B:=by
 obtain⟨m,tm,e,h1,h2⟩:=h.ex
 rw[kZ t tm e.symm]
 exact⟨h1,h2⟩
structure LB(w:Int)(m c:Nat)(ts:List Term):Prop where
 at_:∀t∈ts,0<=t.1/\t.1<=w/\t.2.length<=m/\dW t.2<=c
theorem LB.app{w:Int}{m c:Nat}{a b:List Term}(ha:LB w m c a)(hb:LB w m c b):LB w m c (a ++ b):=⟨fun t ht=>(List.mem_append.mp ht).elim (ha.at_ t) (hb.at_ t)⟩
theorem LB.mono{w:Int}{m c m' c':Nat}{a:List Term}(ha:LB w m c a)(hm:m<=m')(hc:c<=c'):LB w m' c' a:=⟨fun t ht=>by
 obtain⟨h1,h2,h3,h4⟩:=ha.at_ t ht
 exact⟨h1,h2,by lia,by lia⟩⟩
theorem Ik(z:Int):dW (cst z)=z.natAbs:=by
 unfold cst
 split
 ·rename_i h
  rw[h];rfl
 ·rw[b6];rfl
theorem Il(z:Int):(cst z).length<=1:=by
 unfold cst
 split <;>simp
theorem Le(l r:aQ)(h:r.length<=1):(de l r).length<=l.length:=by
 unfold de
 split
 ·simp
 ·rename_i q
  have h1:l≠[]:=fun e=>q (.inl e)
  have h2:r≠[]:=fun e=>q (.inr e)
  rw[dZ l r h1 h2];lia
theorem Lf(l r:aQ)(h:r.length<=2):(de l r).length<=l.length+1:=by
 unfold de
 split
 ·simp
 ·rename_i q
  have h1:l≠[]:=fun e=>q (.inl e)
  have h2:r≠[]:=fun e=>q (.inr e)
  rw[dZ l r h1 h2];lia
theorem LB.Jr{w:Int}{m c:Nat}{a:List Term}(ha:LB w m c a)(z:Int):LB w m (c*z.natAbs) (nh a (cst z)):=⟨fun t ht=>by
 obtain⟨u,hu,rfl⟩:=List.mem_map.mp ht
 obtain⟨h1,h2,h3,h4⟩:=ha.at_ u hu
 refine⟨h1,h2,Nat.le_trans (Le _ _ (Il z)) h3,Nat.le_trans (EV _ _) ?_⟩
 rw[Ik]
 exact Nat.mul_le_mul_right _ h4⟩
theorem LB.Qw{w:Int}{c:Nat}{a:List Term}(ha:LB w 1 c a){s:aQ}(hs:s=[]\/s=[0,1]):LB w 2 c (nh a s):=⟨fun t ht=>by
 obtain⟨u,hu,rfl⟩:=List.mem_map.mp ht
 obtain⟨h1,h2,h3,h4⟩:=ha.at_ u hu
 have l2:s.length<=2:=by rcases hs with rfl |rfl <;>simp
 have n1:dW s<=1:=by rcases hs with rfl |rfl <;>decide
 refine⟨h1,h2,Nat.le_trans (Lf _ _ l2) (by lia),Nat.le_trans (EV _ _) ?_⟩
 exact Nat.le_trans (Nat.mul_le_mul h4 n1) (by lia)⟩
theorem fM(a:List Term)(p:aQ):(nh a p).length=a.length:=by unfold nh;simp
theorem r6(a b:Int):(Eo a b).length<=2:=by
 unfold Eo
 split <;>split <;>simp
theorem ig{w a b:Int}(ha:a<=w)(hb:b<=w):LB w 1 1 (Eo a b):=⟨fun t ht=>by
 unfold Eo at ht
 rcases List.mem_append.mp ht with h |h
 ·split at h
  ·rw[List.mem_singleton.mp h]
   exact⟨by show 0<=a - 1;lia,by show a - 1<=w;lia,by simp,(show dW [1]<=1 by decide)⟩
  ·cases h
 ·split at h
  ·rw[List.mem_singleton.mp h]
   exact⟨by show 0<=b - 1;lia,by show b - 1<=w;lia,by simp,(show dW [-1]<=1 by decide)⟩
  ·cases h⟩
structure Js(n:Nw)(g:gK):Prop where
 aO:g.aO=n
 s:g.s=[]\/g.s=[0,1]
 dr:∀k,(g.drives.getD k (0,1)).1.natAbs<=1000000/\(g.drives.getD k (0,1)).2.natAbs<=1000000
section
variable {n:Nw}(R:Right n){g:gK}(S:Js n g)
include R
theorem Lg{j:Int}(h0:0<=j)(hj:j<n.af.length)(h3:kindAt n.af j≠3):0<=(places n).getD j.toNat 0/\(places n).getD j.toNat 0+1<=width n:=by
 rw[R.place (show j.toNat<n.af.length by lia),R.vX]
 have:=mM R (show j.toNat<n.af.length by lia) h3
 lia
theorem Im:n.last<=width n:=by
 rw[R.vX]
 have:=jO n
 have:=R.l1
 lia
include S
theorem Dk{j:Int}(h0:0<=j)(hj:j<n.af.length)(h3:kindAt n.af j≠3):LB (width n) 1 1 (cur g j):=⟨fun t ht=>by
 unfold cur at ht
 rw[S.aO] at ht
 rw[List.mem_singleton.mp ht]
 have:=Lg R h0 hj h3
 exact⟨this.1,by show(places n).getD j.toNat 0<=_;lia,by simp,(show dW [1]<=1 by decide)⟩⟩
omit S in
theorem lD{p:Part}(hp:Pn p){m:Nat}{l r:List Term}(hl:LB (width n) m 1 l)(hr:LB (width n) m 1 r):LB (width n) m 1000000 (jJ p l r):=by
 unfold jJ
 have b:p.aC.natAbs<=1000000:=by have:=hp.b1;have:=hp.b2;lia
 refine LB.app ((hl.Jr p.aC).mono (Nat.le_refl _) (by lia)) ((hr.Jr (-p.top)).mono (Nat.le_refl _) ?_)
 rw[Int.natAbs_neg]
 have:=hp.t
 lia
theorem GK{k:Nat}{m:Nat}(hm:1<=m){l:List Term}(hl:LB (width n) m 1 l):LB (width n) m 1000000 (Ep g k l):=by
 unfold Ep
 obtain⟨d1,d2⟩:=S.dr k
 refine LB.app ((hl.Jr _).mono (Nat.le_refl _) (by lia)) ⟨fun t ht=> ?_⟩
 rw[S.aO] at ht
 rw[List.mem_singleton.mp ht]
 refine⟨?_,Int.le_refl _,Nat.le_trans (Il _) hm,?_⟩
 ·show 0<=width n
  rw[R.vX];lia
 ·show dW (cst _)<=_
  rw[Ik];exact d1
omit R S in
theorem B5:∀(sh:List (Int×Int×Int)) (c:Int),0<=c->(∀x∈sh,1<=x.2.2/\x.2.2<=1000000)->sh.foldl (fun c x=>c*x.2.2) c<=c*1000000^sh.length/\0<=sh.foldl (fun c x=>c*x.2.2) c
 |[],c,hc,_=>⟨by simp,hc⟩
 |x::sh,c,hc,h=>by
  obtain⟨x1,x2⟩:=h x List.mem_cons_self
  have nn:0<=c*x.2.2:=Int.mul_nonneg hc (by lia)
  obtain⟨h1,h2⟩:=B5 sh (c*x.2.2) nn fun y hy=>h y (List.mem_cons_of_mem _ hy)
  refine⟨Int.le_trans h1 ?_,h2⟩
  rw[List.length_cons,Int.pow_succ,<-Int.mul_assoc,Int.mul_assoc,Int.mul_comm x.2.2,<-Int.mul_assoc]
  refine Int.mul_le_mul_of_nonneg_left x2 (Int.mul_nonneg hc (Int.pow_nonneg (by decide)))
omit R S in
theorem AW(ps:List Part)(k:Nat):(bt ps k).length<=ps.length+1:=by
 unfold bt
 rw[List.length_cons,lMp]
 have:=List.length_filter_le (fun p=>decide (p.kind=3/\((k:Int)=p.a\/(k:Int)=p.b))) ps
 lia
omit R S in
theorem Dl{α β:Type}{f:α->List β}{c:Nat}:∀l:List α,(∀x∈l,(f x).length<=c)->(l.flatMap f).length<=l.length*c
 |[],_=>by simp
 |x::l,h=>by
  rw[List.flatMap_cons,List.length_append,List.length_cons,Nat.succ_mul]
  have:=h x List.mem_cons_self
  have:=Dl l fun y hy=>h y (List.mem_cons_of_mem _ hy)
  lia
theorem MG{k:Nat}(hk:k<n.af.length)(h2:(n.af.getD k p0).kind=2):LB (width n) 2 (2^240) (nj g k)/\(nj g k).length<=64:=by
 have sin:=zI R h2 hk
 have sl:=AW n.af k
 have pk:=R.af
 have ab:=R.ab hk (by lia)
 have lw:=Im R
 have cp:=B5 (bt n.af k) 1 (by decide) (fun x hx=>⟨(sin x hx).2.2.1,(sin x hx).2.2.2.1⟩)
 have cb:(common (bt n.af k)).natAbs<=1000000^11:=by
  have h1:(1000000:Nat)^(bt n.af k).length<=1000000^11:=Nat.pow_le_pow_right (by decide) (by lia)
  have h3:common (bt n.af k)<=((1000000^(bt n.af k).length:Nat):Int):=by
   have:=cp.1
   rw[Int.one_mul] at this
   rw[Int.natCast_pow]
   exact this
  have h4:0<=common (bt n.af k):=cp.2
  generalize (1000000:Nat)^(bt n.af k).length=X at h1 h3
  generalize (1000000:Nat)^11=Y at h1⊢
  lia
 have cpos:0<common (bt n.af k):=rY _ 1 (by decide) fun x hx=>by have:=sin x hx;lia
 unfold nj
 dsimp only
 rw[S.aO]
 refine⟨LB.app (((ig (by lia) (by lia)).Jr _).mono (by lia) ?_) ⟨fun t ht=> ?_⟩,?_⟩
 ·refine Nat.le_trans (Nat.mul_le_mul_left 1 cb) ?_
  decide +kernel
 ·obtain⟨x,hx,ht⟩:=List.mem_flatMap.mp ht
  obtain⟨s1,s2,s3,s4,s5⟩:=sin x hx
  have h3:kindAt n.af x.1≠3:=by
   unfold bt at hx
   rcases List.mem_cons.mp hx with rfl |hx
   ·unfold kindAt
    show(n.af.getD ((k:Int)).toNat p0).kind≠3
    rw[Int.toNat_natCast,h2];decide
   ·obtain⟨p,hp,rfl⟩:=List.mem_map.mp hx
    obtain⟨hm,hc⟩:=List.mem_filter.mp hp
    have hc:=of_decide_eq_true hc
    obtain⟨i,hi,e⟩:=List.getElem_of_mem hm
    have ep:n.af.getD i p0=p:=by rw[gDe,List.getElem?_eq_getElem hi,e];rfl
    have cpp:=R.Mw hi (by rw[ep];exact hc.1)
    rw[ep] at cpp
    show kindAt n.af (p.a+p.b - (k:Int))≠3
    rcases hc.2 with q |q
    ·have e2:p.a+p.b - (k:Int)=p.b:=by lia
     rw[e2,cpp.2.2.2];decide
    ·have e2:p.a+p.b - (k:Int)=p.a:=by lia
     rw[e2,cpp.2.1.2];decide
  have fd:((common (bt n.af k)).fdiv x.2.2).natAbs<=1000000^11:=by
   have e:(common (bt n.af k)).fdiv x.2.2=common (bt n.af k) / x.2.2:=Int.fdiv_eq_ediv_of_nonneg _ (by lia)
   rw[e]
   have h1:0<=common (bt n.af k) / x.2.2:=Int.ediv_nonneg (by lia) (by lia)
   have h2:common (bt n.af k) / x.2.2<=common (bt n.af k):=Int.ediv_le_self _ (by lia)
   lia
  have lbt:=(((Dk R S s1 s2 h3).Qw S.s).Jr (-x.2.1*(common (bt n.af k)).fdiv x.2.2)).at_ t ht
  refine⟨lbt.1,lbt.2.1,lbt.2.2.1,Nat.le_trans lbt.2.2.2 ?_⟩
  rw[Nat.one_mul,Int.natAbs_mul,Int.natAbs_neg]
  refine Nat.le_trans (Nat.mul_le_mul s5 fd) ?_
  decide +kernel
 ·rw[List.length_append,fM]
  have h1:=r6 (n.af.getD k p0).a (n.af.getD k p0).b
  have h3:=Dl (c:=1) (f:=fun x:Int×Int×Int=>nh (nh (cur g x.1) g.s) (cst (-x.2.1*(common (bt n.af k)).fdiv x.2.2))) (bt n.af k) (fun x _=>by rw[fM,fM];exact Nat.le_refl _)
  unfold jl
  lia
omit S R in
theorem eu(p:Part)(l r:List Term):(jJ p l r).length=l.length+r.length:=by unfold jJ;rw[List.length_append,fM,fM]
omit S R in
theorem r8(g:gK)(k:Nat)(l:List Term):(Ep g k l).length=l.length+1:=by unfold Ep;rw[List.length_append,fM];rfl
theorem MH{k:Nat}(hk:k<n.af.length):∀ts∈cJ g k,LB (width n) 2 (2^240) ts/\ts.length<=64:=by
 have pp:=R.p hk
 have ab:=R.ab hk
 have cdd:=R.cd hk
 have fo:=R.Pa hk
 have lw:=Im R
 have cl:=MG R S hk
 have kk:kindAt n.af (k:Int)=(n.af.getD k p0).kind:=by
  unfold kindAt
  rw[Int.toNat_natCast]
 have ck:(n.af.getD k p0).kind≠3->LB (width n) 1 1 (cur g (k:Int)):=fun h3=>Dk R S (by lia) (by lia) (by rw[kk];exact h3)
 have big:1000000<=2^240:=by decide +kernel
 have one:1<=2^240:=by decide +kernel
 have bl:=r6 (n.af.getD k p0).a (n.af.getD k p0).b
 have bl2:=r6 (n.af.getD k p0).c (n.af.getD k p0).d
 have cl1:∀j,(cur g j).length=1:=fun j=>rfl
 unfold cJ
 dsimp only
 rw[S.aO]
 have c0:=pp.c0
 have pl2:(n.af.getD k p0).kind=10->LB (width n) 1 1 [((places n).getD k 0+1,[1])]:=fun h10=>⟨fun t ht=>by
  rw[List.mem_singleton.mp ht]
  have h1:=C5 R hk h10
  have h2:=R.place hk
  have h3:=R.vX
  exact⟨by show 0<=(places n).getD k 0+1;lia,by show(places n).getD k 0+1<=_;lia,by simp,(show dW [1]<=1 by decide)⟩⟩
 generalize hp:n.af.getD k p0=p at *
 rcases nF pp.k0 pp.k1 with e |e |e |e |e |e |e |e |e |e |e |e |e |e
 ·have ek:p.kind.toNat=0:=by rw[e];rfl
  rw[ek]
  intro ts hts
  rw[List.mem_singleton.mp hts]
  refine⟨(lD R pp (ig (by lia) (by lia)) (ck (by lia))).mono (by lia) big,?_⟩
  rw[eu,cl1]
  unfold jl
  lia
 ·have ek:p.kind.toNat=1:=by rw[e];rfl
  rw[ek]
  intro ts hts
  rw[List.mem_singleton.mp hts]
  refine⟨(lD R pp ((ck (by lia)).mono (by lia) (Nat.le_refl _)) ((ig (by lia) (by lia)).Qw S.s)).mono (by lia) big,?_⟩
  rw[eu,cl1,fM]
  unfold jl
  lia
 ·have ek:p.kind.toNat=2:=by rw[e];rfl
  rw[ek]
  intro ts hts
  rw[List.mem_singleton.mp hts]
  exact cl e
 ·have ek:p.kind.toNat=3:=by rw[e];rfl
  rw[ek]
  intro ts hts
  cases hts
 ·have ek:p.kind.toNat=4:=by rw[e];rfl
  rw[ek]
  intro ts hts
  rw[List.mem_singleton.mp hts]
  refine⟨(GK R S (Nat.le_refl 1) (ig (by lia) (by lia))).mono (by lia) big,?_⟩
  rw[r8]
  unfold jl
  lia
 ·have ek:p.kind.toNat=5:=by rw[e];rfl
  rw[ek]
  intro ts hts
  rw[List.mem_singleton.mp hts]
  refine⟨(GK R S (Nat.le_refl 1) (ck (by lia))).mono (by lia) big,?_⟩
  rw[r8,cl1]
  lia
 ·have ek:p.kind.toNat=6:=by rw[e];rfl
  rw[ek]
  intro ts hts
  rw[List.mem_singleton.mp hts]
  refine⟨(lD R pp (ig (by lia) (by lia)) (ig (by lia) (by lia))).mono (by lia) big,?_⟩
  rw[eu]
  unfold jl CK
  lia
 ·have ek:p.kind.toNat=7:=by rw[e];rfl
  rw[ek]
  intro ts hts
  rw[List.mem_singleton.mp hts]
  refine⟨(lD R pp (ck (by lia)) (ig (by lia) (by lia))).mono (by lia) big,?_⟩
  rw[eu,cl1]
  unfold CK
  lia
 ·have ek:p.kind.toNat=8:=by rw[e];rfl
  rw[ek]
  intro ts hts
  rw[List.mem_singleton.mp hts]
  have ff:=fo (.inl e)
  refine⟨(lD R pp (ig (by lia) (by lia)) (Dk R S c0 (by lia) ff.2)).mono (by lia) big,?_⟩
  rw[eu,cl1]
  unfold jl
  lia
 ·have ek:p.kind.toNat=9:=by rw[e];rfl
  rw[ek]
  intro ts hts
  rw[List.mem_singleton.mp hts]
  have ff:=fo (.inr e)
  refine⟨(lD R pp (ck (by lia)) (Dk R S c0 (by lia) ff.2)).mono (by lia) big,?_⟩
  rw[eu,cl1,cl1]
  lia
 ·have ek:p.kind.toNat=10:=by rw[e];rfl
  rw[ek]
  intro ts hts
  rcases List.mem_cons.mp hts with rfl |hts
  ·refine⟨(lD R pp (ig (by lia) (by lia)) (ig (by lia) (by lia))).mono (by lia) big,?_⟩
   rw[eu]
   unfold jl CK
   lia
  ·rw[List.mem_singleton.mp hts]
   have h1:LB (width n) 1 1 (nh (cur g (k:Int)) [-1]):=by
    have:=(ck (by lia)).Jr (-1)
    exact this
   refine⟨(lD R pp (pl2 e) h1).mono (by lia) big,?_⟩
   rw[eu,fM,cl1]
   simp
 ·have ek:p.kind.toNat=11:=by rw[e];rfl
  rw[ek]
  intro ts hts
  rw[List.mem_singleton.mp hts]
  refine⟨(ig (by lia) (by lia)).mono (by lia) one,?_⟩
  unfold CK
  lia
 ·have ek:p.kind.toNat=12:=by rw[e];rfl
  rw[ek]
  intro ts hts
  rw[List.mem_singleton.mp (show ts∈[if p.top=0 then cur g (k:Int) else jl p] from hts)]
  split
  ·exact⟨(ck (by lia)).mono (by lia) one,by rw[cl1];lia⟩
  ·exact⟨(ig (by lia) (by lia)).mono (by lia) one,by unfold jl;lia⟩
 ·have ek:p.kind.toNat=13:=by rw[e];rfl
  rw[ek]
  intro ts hts
  have hts:ts∈(if g.cU.getD k false=true then[Ep g k (jl p)] else[cur g (k:Int)]):=hts
  split at hts
  ·rw[List.mem_singleton.mp hts]
   refine⟨(GK R S (Nat.le_refl 1) (ig (by lia) (by lia))).mono (by lia) big,?_⟩
   rw[r8]
   unfold jl
   lia
  ·rw[List.mem_singleton.mp hts]
   exact⟨(ck (by lia)).mono (by lia) one,by rw[cl1];lia⟩
omit S in
theorem MI(v:Int):LB (width n) 2 (2^240) (gv n v)/\(gv n v).length<=64:=by
 have one:1<=2^240:=by decide +kernel
 have pk:=R.af
 unfold gv
 rw[BO n.af (places n) p0 0 (rB n),List.flatMap_map]
 refine⟨⟨fun t ht=> ?_⟩,?_⟩
 ·obtain⟨k,hk,ht⟩:=List.mem_flatMap.mp ht
  have hk:=List.mem_range.mp hk
  dsimp only at ht
  have pp:=R.p hk
  by_cases h3:(n.af.getD k p0).kind=3
  ·rw[if_pos h3] at ht;cases ht
  rw[if_neg h3] at ht
  have a1:=mM R hk h3
  have pl:=R.place hk
  have wd:=R.vX
  have mem1:∀(c:Prop) [Decidable c] (i:Int) (p:aQ),t∈(if c then[(i,p)] else[])->t=(i,p):=fun c _ i p h=>by
   split at h
   ·exact List.mem_singleton.mp h
   ·cases h
  have fin:∀(i:Int) (z:Int),t=(i,[z])->z.natAbs=1->0<=i->i<=width n->0<=t.1/\t.1<=width n/\t.2.length<=2/\dW t.2<=2^240:=fun i z e hz h0 h1=>by
   rw[e]
   refine⟨h0,h1,by simp,?_⟩
   show dW [z]<=_
   rw[b6,De,hz]
   exact one
  rcases List.mem_append.mp ht with ht |ht
  ·rcases List.mem_append.mp ht with ht |ht
   ·exact fin _ _ (mem1 _ _ _ ht) rfl (by lia) (by lia)
   ·exact fin _ _ (mem1 _ _ _ ht) rfl (by lia) (by lia)
  ·by_cases h10:(n.af.getD k p0).kind=10
   ·have a2:=C5 R hk h10
    rw[if_pos h10] at ht
    rcases List.mem_append.mp ht with ht |ht
    ·exact fin _ _ (mem1 _ _ _ ht) rfl (by lia) (by lia)
    ·exact fin _ _ (mem1 _ _ _ ht) rfl (by lia) (by lia)
   ·rw[if_neg h10] at ht;cases ht
 ·have l1:∀(c:Prop) [Decidable c] (t:Term),(if c then[t] else[]).length<=1:=fun c _ t=>by split <;>simp
  have:=Dl (c:=4) (f:=fun k=>if(n.af.getD k p0).kind=3 then[] else(if(n.af.getD k p0).a=v then[((places n).getD k 0,[1])] else[]) ++ (if(n.af.getD k p0).b=v then[((places n).getD k 0,[-1])] else[]) ++ (if(n.af.getD k p0).kind=10 then(if(n.af.getD k p0).c=v then[((places n).getD k 0+1,[1])] else[]) ++ (if(n.af.getD k p0).d=v then[((places n).getD k 0+1,[-1])] else[]) else[])) (List.range n.af.length) (fun k _=>by
   split
   ·simp
   ·rw[List.length_append,List.length_append]
    have:=l1 ((n.af.getD k p0).a=v) ((places n).getD k 0,[1])
    have:=l1 ((n.af.getD k p0).b=v) ((places n).getD k 0,[-1])
    have h4:(if(n.af.getD k p0).kind=10 then(if(n.af.getD k p0).c=v then[((places n).getD k 0+1,[1])] else[]) ++ (if(n.af.getD k p0).d=v then[((places n).getD k 0+1,[-1])] else[]) else([]:List Term)).length<=2:=by
     by_cases h10:(n.af.getD k p0).kind=10
     ·rw[if_pos h10,List.length_append]
      have:=l1 ((n.af.getD k p0).c=v) ((places n).getD k 0+1,[1])
      have:=l1 ((n.af.getD k p0).d=v) ((places n).getD k 0+1,[-1])
      lia
     ·rw[if_neg h10]
      simp
    lia)
  rw[List.length_range] at this
  exact Nat.le_trans this (by lia)
theorem Lh:∀ts∈dD g,LB (width n) 2 (2^240) ts/\ts.length<=64:=fun ts hts=>by
 unfold dD at hts
 rw[S.aO] at hts
 rcases List.mem_append.mp hts with h |h
 ·obtain⟨v,_,rfl⟩:=List.mem_map.mp h
  exact MI R _
 ·obtain⟨k,hk,h⟩:=List.mem_flatMap.mp h
  exact MH R S (List.mem_range.mp hk) ts h
end
theorem Nq(j:Nat){w:Int}{c:Nat}:∀ts:List Term,LB w 2 c ts->Bd (Pv (ei j) ts) 1 (ts.length*c)
 |[],_=>by
  rw[List.length_nil,Nat.zero_mul]
  exact Di 1
 |t::ts,h=>by
  obtain⟨h1,h2,h3,h4⟩:=h.at_ t List.mem_cons_self
  have ih:=Nq j ts ⟨fun u hu=>h.at_ u (List.mem_cons_of_mem _ hu)⟩
  have b1:Bd (aG t.2*ei j t.1.toNat) 1 c:=by
   unfold ei
   split
   ·have e:aG t.2*(1:PF)=aG t.2:=by grind
    rw[e]
    exact EW t.2 h3 h4
   ·have e:aG t.2*(0:PF)=0:=by grind
    rw[e]
    exact(Di 1).mono (Nat.le_refl _) (Nat.zero_le _)
  have:=b1.add ih
  rw[List.length_cons,Nat.succ_mul,Nat.add_comm]
  exact this
theorem Io{n:Nw}(R:Right n){g:gK}(S:Js n g){G:Wh.Setting}(S2:ie n g G){i j:Nat}(hi:i<(ao n).unknowns)(hj:j<(ao n).unknowns+1):Bd (oG (rows g) i j) 1 (2^246):=by
 have w:(width n+1).toNat=(ao n).unknowns+1:=by rw[R.vX];lia
 have l:(dD g).length=(ao n).unknowns:=by rw[(qQ R S2).len,eW]
 unfold oG ent
 rw[uu R S2 hi,(qR _ _ j (by lia)).1]
 obtain⟨h1,h2⟩:=Lh R S ((dD g).getD i []) (memD (by lia))
 refine(Nq j _ h1).mono (Nat.le_refl _) ?_
 refine Nat.le_trans (Nat.mul_le_mul_right _ h2) ?_
 decide +kernel
theorem Li{n:Nw}(R:Right n):(ao n).unknowns<=28:=by
 have h1:=R.vX
 have h2:width n<=28:=by
  unfold width
  have:∀ps:List Part,(ps.map gH).sum<=2*ps.length:=by
   intro ps
   induction ps with
   |nil=>simp
   |cons p ps ih=>
    rw[List.map_cons,List.sum_cons,List.length_cons]
    have:gH p<=2:=by
     unfold gH
     split
     ·lia
     ·split <;>lia
    push_cast
    lia
  have:=this n.af
  have:=R.af
  have:=R.l8
  lia
 lia
structure EB(l:aQ):Prop where
 len:l.length<=40
 dW:dW l<=2^7300
theorem Nr{A:Nat->Nat->PF}{n:Nat}{B:Nat}(hA:∀i j,i<n->j<n+1->Bd (A i j) 1 B){k:Nat}(hk:k<=n):Bd (mk A k) k (db B k):=zS B k fun i j hi hj=>hA i j (by lia) (by lia)
theorem Ip{A:Nat->Nat->PF}{n:Nat}{B:Nat}(hA:∀i j,i<n->j<n+1->Bd (A i j) 1 B){k:Nat}(hk:k<=n)(c j:Nat)(hj:j<n+1):Bd (mc A k c j) k (db B k):=zS B k fun i b hi hb=>by
 show Bd (if b=c then A i j else A i b) 1 B
 split
 ·exact hA i j (by lia) hj
 ·exact hA i b (by lia) (by lia)
theorem Lj{A:Nat->Nat->PF}{n:Nat}{B:Nat}(hA:∀i j,i<n->j<n+1->Bd (A i j) 1 B){k:Nat}(hk:k<=n)(i j:Nat)(hi:i<n)(hj:j<n+1):Bd (ti A k i j) (k+1) (db B (k+1)):=by
 unfold ti
 have h1:=(Nr hA hk).mul (hA i j hi hj)
 have h2:=Dj (k+1) (B*db B k) k (f:=fun c=>A i c*mc A k c j) fun c hc=>((hA i c hi (by lia)).mul (Ip hA hk c j hj)).mono (by lia) (Nat.le_refl _)
 refine(h1.sub h2).mono (Nat.le_refl _) ?_
 show db B k*B+k*(B*db B k)<=(k+1)*(B*db B k)
 rw[Nat.succ_mul,Nat.mul_comm (db B k) B]
 lia
theorem EX{l:aQ}{d m:Nat}(t:Trim l)(h:Bd (aG l) d (db (2^246) m))(hd:d<=39)(hm:m<=29):EB l:=by
 obtain⟨h1,h2⟩:=h.list t
 refine⟨by lia,Nat.le_trans h2 (Nat.le_trans (Ij hm) (Nat.le_trans (Ld 29 (by lia)) ?_))⟩
 exact Nat.pow_le_pow_right (by lia) (by lia)
theorem Lk{n k:Nat}{A:Nat->Nat->PF}{t:List fU}{before:aQ}{σ:Nat->Nat}{ε:PF}(hn:n<=28)(hA:∀i j,i<n->j<n+1->Bd (A i j) 1 (2^246))(hk:k<n)(S:O8 n k A t before σ ε)(c:Nat)(hkc:k<=c)(hc:c<n)(hp:ent t c k≠[]){i j:Nat}(hi:i<n)(hik:i≠k)(hj:k<j)(hjn:j<n+1):
  EB before/\before≠[]/\EB (ent (jy t c k) k k)/\EB (ent (jy t c k) i j)/\EB (ent (jy t c k) i k)/\EB (ent (jy t c k) k j)/\∃m,Trim m/\EB m/\aG (pO (de (ent (jy t c k) k k) (ent (jy t c k) i j)) (de (ent (jy t c k) i k) (ent (jy t c k) k j)))=aG m*aG before:=by
 have tl:=S.tab.len
 have sg':∀a,(jy t c k).getD a []=t.getD (sw c k a) []:=fun a=>yw t c k a (by lia) (by lia)
 have se:∀a j,ent (jy t c k) a j=ent t (sw c k a) j:=fun a j=>by unfold ent;rw[sg']
 have skk:sw c k k=c:=by
  unfold sw
  repeat' split
  all_goals lia
 have slow:∀i,i<k->sw c k i=i:=fun i hi=>by unfold sw;rw[if_neg (by lia),if_neg (by lia)]
 have shigh:∀i,k<=i->k<=sw c k i:=fun i hi=>by
  unfold sw
  repeat' split
  all_goals lia
 have hB:(fun i j=>A (σ (sw c k i)) j)=c4 (fun i j=>A (σ i) j) c k:=(pS (fun i j=>A (σ i) j) c k).symm
 have mkS:mk (fun i j=>A (σ (sw c k i)) j) k=mk (fun i j=>A (σ i) j) k:=by rw[hB];exact CF _ k c k hkc (Nat.le_refl _)
 have mcS:∀i j,mc (fun i j=>A (σ (sw c k i)) j) k i j=mc (fun i j=>A (σ i) j) k i j:=fun i j=>by rw[hB];exact CG _ k c k i j hkc (Nat.le_refl _)
 have tiS:∀i j,ti (fun i j=>A (σ (sw c k i)) j) k i j=ti (fun i j=>A (σ i) j) k (sw c k i) j:=fun i j=>by rw[hB];exact HI _ k c k i j hkc (Nat.le_refl _)
 have eU:∀i j,i<k->k<=j->j<n+1->aG (ent (jy t c k) i j)=mc (fun i j=>A (σ (sw c k i)) j) k i j:=fun i j hi hj hjn=>by rw[se,slow i hi,S.up i j hi hj hjn,mcS]
 have eL:∀i j,k<=i->i<n->k<=j->j<n+1->aG (ent (jy t c k) i j)=ti (fun i j=>A (σ (sw c k i)) j) k i j:=fun i j hi hin hj hjn=>by
  rw[se,S.low _ j (shigh i hi) (ly hc hk hin) hj hjn,tiS]
 have sT:∀i j,i<n->j<n+1->Trim (ent (jy t c k) i j):=fun i j hi hj=>by rw[se];exact S.tab.trim _ j (ly hc hk hi) hj
 have hBI:∀i j,i<n->j<n+1->Bd (A (σ (sw c k i)) j) 1 (2^246):=fun i j hi hj=>hA _ j (S.ord.lt _ (ly hc hk hi)) hj
 generalize hBd:(fun i j=>A (σ (sw c k i)) j)=B at *
 have hBI':∀i j,i<n->j<n+1->Bd (B i j) 1 (2^246):=fun i j hi hj=>by rw[<-hBd];exact hBI i j hi hj
 have eB:EB before:=EX S.Eu (by rw[S.AU,<-mkS];exact Nr hBI' (Nat.le_of_lt hk)) (by lia) (by lia)
 have bne:before≠[]:=fun z=>by
  have:=S.AU
  rw[z] at this
  exact S.ne this.symm
 have eE:∀i j,i<n->k<=j->j<n+1->EB (ent (jy t c k) i j):=fun i j hi hj hjn=>by
  by_cases q:i<k
  ·exact EX (sT i j hi hjn) (by rw[eU i j q hj hjn];exact Ip hBI' (Nat.le_of_lt hk) i j hjn) (by lia) (by lia)
  ·exact EX (sT i j hi hjn) (by rw[eL i j (by lia) hi hj hjn];exact Lj hBI' (Nat.le_of_lt hk) i j hi hjn) (by lia) (by lia)
 refine⟨eB,bne,eE k k hk (Nat.le_refl _) (by lia),eE i j hi (by lia) hjn,eE i k hi (Nat.le_refl _) (by lia),eE k j hk (by lia) hjn,?_⟩
 have tP:Reg (mk B k):=PF.tP (by rw[mkS];exact S.ne)
 have piv:aG (ent t c k)=mk B (k+1):=by
  have e:=eL k k (Nat.le_refl _) hk (Nat.le_refl _) (by lia)
  rw[se,skk] at e
  rw[e,yR B k tP]
 have ne1:mk B (k+1)≠0:=fun z=>hp ((bW (S.tab.trim c k hc (by lia))).mp (piv.trans z))
 have reg1:Reg (mk B (k+1)):=PF.tP ne1
 have ekk:aG (ent (jy t c k) k k)=mk B (k+1):=by rw[se,skk];exact piv
 by_cases q:i<k
 ·obtain⟨m,tm,em,h1,h2⟩:=(Ip hBI' (show k+1<=n by lia) i j hjn).ex
  refine⟨m,tm,EX tm (by rw[em];exact Ip hBI' (show k+1<=n by lia) i j hjn) (by lia) (by lia),?_⟩
  rw[mI,gj,gj,ekk,em,S.AU,<-mkS,eU i j q (by lia) hjn,eU i k q (Nat.le_refl _) (by lia),eL k j (Nat.le_refl _) hk (by lia) hjn]
  have:=(yp B k j tP reg1 i q).1
  rw[this]
  grind
 ·obtain⟨m,tm,em,h1,h2⟩:=(Lj hBI' (show k+1<=n by lia) i j hi hjn).ex
  refine⟨m,tm,EX tm (by rw[em];exact Lj hBI' (show k+1<=n by lia) i j hi hjn) (by lia) (by lia),?_⟩
  rw[mI,gj,gj,ekk,em,S.AU,<-mkS,eL i j (by lia) hi (by lia) hjn,eL i k (by lia) hi (Nat.le_refl _) (by lia),eL k j (Nat.le_refl _) hk (by lia) hjn]
  have:=HH B k i j tP reg1
  rw[this]
  grind
theorem GL{n:Nw}(R:Right n){g:gK}(S:Js n g){G:Wh.Setting}(S2:ie n g G){d:aQ}{tops:List aQ}(h:sol (rows g)=some (d,tops)):(d.length<=29/\dW d<=2^7028)/\∀c,c<(ao n).unknowns->(tops.getD c []).length<=29/\dW (tops.getD c [])<=2^7028:=by
 have un:=Li R
 have hA:∀i j,i<(ao n).unknowns->j<(ao n).unknowns+1->Bd (oG (rows g) i j) 1 (2^246):=fun i j hi hj=>Io R S S2 hi hj
 have big:db (2^246) (ao n).unknowns<=2^7028:=Nat.le_trans (Ij un) (Nat.le_trans (Ld 28 (by lia)) (Nat.pow_le_pow_right (by lia) (by lia)))
 have eps:∀(ε f:PF) (dd B:Nat),(ε=1\/ε= -1)->Bd f dd B->Bd (ε*f) dd B:=fun ε f dd B h hb=>by
  rcases h with rfl |rfl
  ·have e:(1:PF)*f=f:=by grind
   rw[e];exact hb
  ·have e:(-1:PF)*f= -f:=by grind
   rw[e];exact hb.neg
 rcases Gm (uv R S2) with⟨d',tops',e,so⟩ |⟨e,_⟩
 ·rw[h] at e
  cases e
  obtain⟨ε,he,hd,ht⟩:=so.sgn
  refine⟨?_,fun c hc=> ?_⟩
  ·obtain⟨h1,h2⟩:=Bd.list so.xq (by rw[hd];exact eps _ _ _ _ he (zS (2^246) (ao n).unknowns fun i j hi hj=>hA i j hi (by lia)))
   exact⟨by lia,by lia⟩
  ·obtain⟨h1,h2⟩:=Bd.list (so.trim c hc) (by
    rw[ht c hc]
    exact eps _ _ _ _ he (zS (2^246) (ao n).unknowns fun i j hi hj=>by
     show Bd (if j=c then _ else _) 1 _
     split
     ·exact hA i _ hi (by lia)
     ·exact hA i j hi (by lia)))
   exact⟨by lia,by lia⟩
 ·rw[h] at e
  cases e
theorem Nt{n:Nw}(R:Right n)(st:List Bool):Js n (FO n st):=by
 refine⟨rfl,.inl rfl,fun k=> ?_⟩
 show((n.af.map fun p:Part=>(p.top,p.aC)).getD k (0,1)).1.natAbs<=_/\((n.af.map fun p:Part=>(p.top,p.aC)).getD k (0,1)).2.natAbs<=_
 rw[gDe,List.getElem?_map]
 by_cases h:k<n.af.length
 ·rw[List.getElem?_eq_getElem h]
  have pp:=R.pn _ (List.getElem_mem h)
  have:=pp.b1
  have:=pp.b2
  exact⟨pp.t,by show(n.af[k]).aC.natAbs<=_;lia⟩
 ·rw[List.getElem?_eq_none (by lia)]
  exact⟨by decide,by decide⟩
theorem v8{n:Nw}(st:List Bool)(src:Int):Js n (bI n st src):=by
 refine⟨rfl,.inr rfl,fun k=> ?_⟩
 show(((List.range n.af.length).map fun(k:Nat)=>if(k:Int)=src then((1:Int),(1:Int)) else(0,1)).getD k (0,1)).1.natAbs<=_/\_
 by_cases h:k<n.af.length
 ·have e:(bI n st src).drives.getD k (0,1)=if(k:Int)=src then(1,1) else(0,1):=jr _ _ _ _ h
  show((bI n st src).drives.getD k (0,1)).1.natAbs<=_/\((bI n st src).drives.getD k (0,1)).2.natAbs<=_
  rw[e]
  split <;>exact⟨by decide,by decide⟩
 ·have e:(bI n st src).drives.getD k (0,1)=(0,1):=by
   unfold bI
   dsimp only
   rw[gDe,List.getElem?_eq_none (by simp;lia)]
   rfl
  show((bI n st src).drives.getD k (0,1)).1.natAbs<=_/\((bI n st src).drives.getD k (0,1)).2.natAbs<=_
  rw[e]
  exact⟨by decide,by decide⟩
def gd:aQ->Int->Int
 |[],_=>0
 |a::l,x=>a+x*gd l x
theorem uy(x:Int):∀l:aQ,(aG l).f (x:Rat)=((gd l x:Int):Rat)
 |[]=>rfl
 |a::l=>by
  rw[bD,uy x l]
  show(a:Rat)+(x:Rat)*_=((a+x*gd l x:Int):Rat)
  push_cast
  rfl
theorem EY(x:Int):∀l r:aQ,gd (eh l r) x=gd l x+gd r x
 |[],r=>by
  show gd r x=0+gd r x
  lia
 |a::l,[]=>by
  show gd (a::l) x=gd (a::l) x+0
  lia
 |a::l,b::r=>by
  show(a+b)+x*gd (eh l r) x=(a+x*gd l x)+(b+x*gd r x)
  rw[EY x l r]
  grind
theorem B6(c x:Int):∀l:aQ,gd (l.map fun y=>c*y) x=c*gd l x
 |[]=>by
  show 0=c*0
  lia
 |a::l=>by
  show c*a+x*gd (l.map fun y=>c*y) x=c*(a+x*gd l x)
  rw[B6 c x l]
  grind
def EZ(r:Int):aQ->aQ
 |[]=>[]
 |_::m=>eh m ((EZ r m).map fun y=>r*y)
theorem Iq(r:Int):∀l:aQ,(EZ r l).length=l.length - 1
 |[]=>rfl
 |a::m=>by
  show(eh m _).length=_
  rw[fH,lMp,Iq r m,List.length_cons]
  lia
theorem GN(r x:Int):∀l:aQ,gd l x - gd l r=(x - r)*gd (EZ r l) x
 |[]=>by
  show(0:Int) - 0=(x - r)*0
  lia
 |a::m=>by
  show(a+x*gd m x) - (a+r*gd m r)=(x - r)*gd (eh m ((EZ r m).map fun y=>r*y)) x
  rw[EY,B6]
  have:=GN r x m
  grind
theorem zT:∀{l:aQ},(∀i,l.getD i 0=0)->dW l=0
 |[],_=>rfl
 |a::l,h=>by
  rw[b6]
  have h0:a=0:=h 0
  have:=zT (l:=l) fun i=>h (i+1)
  rw[this,h0]
  rfl
theorem B7:∀{l m:aQ},(∀i,l.getD i 0=m.getD i 0)->dW l=dW m
 |[],m,h=>(zT fun i=>(h i).symm.trans (by simp)).symm
 |a::l,[],h=>zT fun i=>(h i).trans (by simp)
 |a::l,b::m,h=>by
  rw[b6,b6]
  have h0:a=b:=h 0
  have:=B7 (l:=l) (m:=m) fun i=>h (i+1)
  rw[this,h0]
theorem ON(r:Int)(l:aQ):dW l<=(gd l r).natAbs+(1+r.natAbs)*dW (EZ r l):=by
 have e:aG l=aG (eh [gd l r] (mulL [-r,1] (EZ r l))):=by
  refine PF.ext fun x=> ?_
  have key:∀i:Nat,(aG l).f ((i:Int):Rat)=(aG (eh [gd l r] (mulL [-r,1] (EZ r l)))).f ((i:Int):Rat):=fun i=>by
   rw[tU,fI]
   show _=(aG [gd l r]).f ((i:Int):Rat)+(aG [-r,1]).f ((i:Int):Rat)*(aG (EZ r l)).f ((i:Int):Rat)
   rw[uy,uy,uy,uy]
   have:=GN r (i:Int) l
   have e1:gd [gd l r] (i:Int)=gd l r:=by
    show gd l r+(i:Int)*0=_
    lia
   have e2:gd [-r,1] (i:Int)=(i:Int) - r:=by
    show -r+(i:Int)*(1+(i:Int)*0)=_
    grind
   rw[e1,e2]
   have:gd l (i:Int)=gd l r+((i:Int) - r)*gd (EZ r l) (i:Int):=by lia
   rw[this]
   push_cast
   rfl
  have d0:aG l - aG (eh [gd l r] (mulL [-r,1] (EZ r l)))=0:=by
   by_cases q:aG l - aG (eh [gd l r] (mulL [-r,1] (EZ r l)))=0
   ·exact q
   ·obtain⟨N,hN⟩:=PF.yq q
    have h1:=hN N (Nat.le_refl _)
    exfalso
    apply h1
    show(aG l).f (N:Rat) - (aG (eh [gd l r] (mulL [-r,1] (EZ r l)))).f (N:Rat)=0
    have h2:=key N
    have e3:(((N:Int)):Rat)=(N:Rat):=by push_cast;rfl
    rw[e3] at h2
    rw[h2]
    grind
  have h3:(aG l - aG (eh [gd l r] (mulL [-r,1] (EZ r l)))).f x=0:=by rw[d0];rfl
  have h4:(aG l).f x - (aG (eh [gd l r] (mulL [-r,1] (EZ r l)))).f x=0:=h3
  grind
 rw[B7 (mH e)]
 refine Nat.le_trans (mN _ _) ?_
 have h1:dW [gd l r]=(gd l r).natAbs:=by rw[b6,De];rfl
 have h2:=ux [-r,1] (EZ r l)
 have h3:dW [-r,1]=1+r.natAbs:=by
  rw[b6,b6,De,Int.natAbs_neg]
  show r.natAbs+(1+0)=_
  lia
 rw[h3] at h2
 lia
def cB(P:Nat):Nat->Nat
 |0=>0
 |m+1=>1+(1+P)*(2*cB P m)
theorem Dm{a b c:Int}(h:a=b*c)(hb:b≠0):c.natAbs<=a.natAbs:=by
 rw[h,Int.natAbs_mul]
 have:1<=b.natAbs:=by lia
 exact Nat.le_mul_of_pos_left _ (by lia)
theorem Qx(P:Nat):∀(m:Nat) (l:aQ) (xs:List Int) (M:Nat),l.length<=m->xs.Nodup->m<=xs.length->(∀x∈xs,x.natAbs<=P)->(∀x∈xs,(gd l x).natAbs<=M)->dW l<=cB P m*M
 |0,l,xs,M,hl,_,_,_,_=>by
  have:l=[]:=List.length_eq_zero_iff.mp (by lia)
  subst this
  show 0<=_
  lia
 |m+1,l,[],M,hl,_,hx,_,_=>by simp at hx
 |m+1,l,r::ys,M,hl,hnd,hx,hP,hM=>by
  obtain⟨hr,hys⟩:=List.nodup_cons.mp hnd
  have r1:=hM r List.mem_cons_self
  have rP:=hP r List.mem_cons_self
  have ih:=Qx P m (EZ r l) ys (2*M) (by rw[Iq];lia) hys (by simpa using hx) (fun x hx=>hP x (List.mem_cons_of_mem _ hx)) fun y hy=>by
   have y1:=hM y (List.mem_cons_of_mem _ hy)
   have ne:y - r≠0:=fun e=>hr (by
    have:y=r:=by lia
    rw[<-this];exact hy)
   have:=Dm (GN r y l) ne
   have h2:(gd l y - gd l r).natAbs<=(gd l y).natAbs+(gd l r).natAbs:=Int.natAbs_sub_le _ _
   lia
  have h1:=ON r l
  have h2:(1+r.natAbs)*dW (EZ r l)<=(1+P)*(cB P m*(2*M)):=Nat.mul_le_mul (by lia) ih
  show dW l<=(1+(1+P)*(2*cB P m))*M
  have e:(1+(1+P)*(2*cB P m))*M=M+(1+P)*(cB P m*(2*M)):=by grind
  rw[e]
  lia
theorem Nu(P:Nat)(hP:1<=P){x:Int}(hx:x.natAbs<=P):∀l:aQ,(gd l x).natAbs<=dW l*P^l.length
 |[]=>by
  show 0<=_
  lia
 |a::l=>by
  have ih:=Nu P hP hx l
  show(a+x*gd l x).natAbs<=dW (a::l)*P^(l.length+1)
  have h1:=Int.natAbs_add_le a (x*gd l x)
  rw[Int.natAbs_mul] at h1
  have h2:x.natAbs*(gd l x).natAbs<=P*(dW l*P^l.length):=Nat.mul_le_mul hx ih
  have h3:1<=P^(l.length+1):=Nat.one_le_pow _ _ (by lia)
  rw[b6,Nat.add_mul]
  have h4:a.natAbs<=a.natAbs*P^(l.length+1):=Nat.le_mul_of_pos_right _ (by lia)
  have e:P*(dW l*P^l.length)=dW l*P^(l.length+1):=by
   rw[Nat.pow_succ]
   grind
  lia
theorem GO{T A g:aQ}(hT:T.length<=11)(tg:Trim g)(g0:g≠[])(hg:g.length<=11)(hA:A.length<=11)(e:aG T=aG A*aG g):dW A<=cB 20 11*(dW T*20^11):=by
 have ev:∀j:Int,gd T j=gd A j*gd g j:=fun j=>by
  have:(aG T).f (j:Rat)=(aG A).f (j:Rat)*(aG g).f (j:Rat):=by rw[e];rfl
  rw[uy,uy,uy] at this
  have h2:((gd T j:Int):Rat)=((gd A j*gd g j:Int):Rat):=by push_cast;exact this
  exact_mod_cast h2
 let pts:List Int:=((List.range 21).map fun i:Nat=>(i:Int)).filter fun j=>decide (gd g j≠0)
 have nd:((List.range 21).map fun i:Nat=>(i:Int)).Nodup:=by decide
 have zs:(((List.range 21).map fun i:Nat=>(i:Int)).filter fun j=>decide (gd g j=0)).length<=10:=by
  refine Classical.byContradiction fun q=> ?_
  have hz:=roots ((((List.range 21).map fun i:Nat=>(i:Int)).filter fun j=>decide (gd g j=0)).map fun j:Int=>(j:Rat)) (rl g) (by
   refine List.Pairwise.map _ ?_ (nd.filter _)
   intro a b hab z
   exact hab (by exact_mod_cast z)) (by
   unfold rl
   rw[lMp,lMp];lia) (fun x hx=>by
   obtain⟨j,hj,rfl⟩:=List.mem_map.mp hx
   have:=of_decide_eq_true (List.mem_filter.mp hj).2
   show(aG g).f (j:Rat)=0
   rw[uy,this];rfl)
  have:aG g=0:=PF.ext fun x=>hz.ev x
  exact ny tg g0 this
 have cnt:((List.range 21).map fun i:Nat=>(i:Int)).length=pts.length+(((List.range 21).map fun i:Nat=>(i:Int)).filter fun j=>decide (gd g j=0)).length:=by
  have:∀l:List Int,l.length=(l.filter fun j=>decide (gd g j≠0)).length+(l.filter fun j=>decide (gd g j=0)).length:=by
   intro l
   induction l with
   |nil=>rfl
   |cons a l ih=>
    by_cases h:gd g a=0
    ·rw[List.filter_cons_of_neg (by simp[h]),List.filter_cons_of_pos (by simp[h]),List.length_cons,List.length_cons]
     lia
    ·rw[List.filter_cons_of_pos (by simp[h]),List.filter_cons_of_neg (by simp[h]),List.length_cons,List.length_cons]
     lia
  exact this _
 have len:((List.range 21).map fun i:Nat=>(i:Int)).length=21:=by simp
 refine Qx 20 11 A pts (dW T*20^11) hA (nd.filter _) (by lia) (fun x hx=> ?_) fun x hx=> ?_
 ·obtain⟨i,hi,rfl⟩:=List.mem_map.mp (List.mem_filter.mp hx).1
  have:=List.mem_range.mp hi
  lia
 ·obtain⟨h1,h2⟩:=List.mem_filter.mp hx
  have h2:=of_decide_eq_true h2
  obtain⟨i,hi,rfl⟩:=List.mem_map.mp h1
  have hi:=List.mem_range.mp hi
  have h3:=Dm (show gd T (i:Int)=gd g (i:Int)*gd A (i:Int) by rw[ev,Int.mul_comm]) h2
  have h4:=Nu 20 (by decide) (x:=(i:Int)) (by lia) T
  refine Nat.le_trans h3 (Nat.le_trans h4 (Nat.mul_le_mul_left _ ?_))
  exact Nat.pow_le_pow_right (by decide) hT
def Mg(γ:Nat)(l:aQ):Prop:=∀i,2*(l.getD i 0).natAbs<=2^γ
theorem Mg.mono{γ δ:Nat}{l:aQ}(h:Mg γ l)(hd:γ<=δ):Mg δ l:=fun i=>Nat.le_trans (h i) (Nat.pow_le_pow_right (by decide) hd)
theorem Mg.mem{γ:Nat}{l:aQ}(h:Mg γ l){x:Int}(hx:x∈l):2*x.natAbs<=2^γ:=by
 obtain⟨i,hi,e⟩:=List.getElem_of_mem hx
 have:=h i
 rw[gDe,List.getElem?_eq_getElem hi] at this
 rw[<-e]
 exact this
theorem Jt{l:aQ}{γ:Nat}(h:2*dW l<=2^γ):Mg γ l:=fun i=>by
 rw[gDe]
 by_cases hi:i<l.length
 ·rw[List.getElem?_eq_getElem hi]
  have:=qT (List.getElem_mem hi)
  show 2*(l[i]).natAbs<=_
  lia
 ·rw[List.getElem?_eq_none (by lia)]
  exact Nat.zero_le _
theorem yA{l:aQ}{γ:Nat}(h:Mg γ l):Mg γ (prim l):=fun i=>by
 have hs:=nv l
 have e:l.getD i 0=cont l*(prim l).getD i 0:=by
  have h2:((prim l).map fun y=>cont l*y).getD i 0=cont l*(prim l).getD i 0:=by
   rw[gDe,List.getElem?_map,gDe]
   cases(prim l)[i]? <;>simp
  rw[<-h2,hs]
 by_cases c0:cont l=0
 ·have:(prim l).getD i 0=0:=by
   unfold prim
   rw[gDe,List.getElem?_map,c0]
   cases l[i]? <;>simp
  rw[this]
  exact Nat.zero_le _
 ·have:=Dm e c0
  have:=h i
  lia
theorem Ju(rest right:aQ)(i:Nat):(hU rest right).getD i 0=lc right*rest.getD i 0 - lc rest*(if i<rest.length - right.length then 0 else right.getD (i - (rest.length - right.length)) 0):=by
 unfold hU pO yU
 rw[CL,eV]
 have sc:∀(c:Int) (l:aQ) (i:Nat),(l.map fun y=>c*y).getD i 0=c*l.getD i 0:=fun c l i=>by
  rw[gDe,List.getElem?_map,gDe]
  cases l[i]? <;>simp
 have ng:∀(l:aQ) (i:Nat),(HK l).getD i 0= - l.getD i 0:=fun l i=>by
  unfold HK
  rw[gDe,List.getElem?_map,gDe]
  cases l[i]? <;>simp
 rw[sc,ng]
 by_cases h:i<rest.length - right.length
 ·rw[if_pos h]
  have:(List.replicate (rest.length - right.length) (0:Int) ++ right.map fun y=>lc rest*y).getD i 0=0:=by
   rw[gDe,List.getElem?_append_left (by rw[List.length_replicate];exact h),List.getElem?_replicate,if_pos h]
   rfl
  rw[this]
  lia
 ·rw[if_neg h,HS _ _ _ (by lia),sc]
  lia
theorem Ll{γ δ:Nat}{rest right:aQ}(h1:Mg γ rest)(h2:Mg δ right):Mg (γ+δ) (hU rest right):=fun i=>by
 rw[Ju]
 have a1:2*(lc right).natAbs<=2^δ:=h2 _
 have a2:2*(lc rest).natAbs<=2^γ:=h1 _
 have b1:=h1 i
 have b2:2*(if i<rest.length - right.length then(0:Int) else right.getD (i - (rest.length - right.length)) 0).natAbs<=2^δ:=by
  split
  ·exact Nat.zero_le _
  ·exact h2 _
 generalize (if i<rest.length - right.length then(0:Int) else right.getD (i - (rest.length - right.length)) 0)=y at b2⊢
 have t:=Int.natAbs_sub_le (lc right*rest.getD i 0) (lc rest*y)
 rw[Int.natAbs_mul,Int.natAbs_mul] at t
 have p1:=Nat.mul_le_mul a1 b1
 have p2:=Nat.mul_le_mul a2 b2
 rw[Nat.pow_add]
 have e1:2*(lc right).natAbs*(2*(rest.getD i 0).natAbs)=4*((lc right).natAbs*(rest.getD i 0).natAbs):=by grind
 have e2:2*(lc rest).natAbs*(2*y.natAbs)=4*((lc rest).natAbs*y.natAbs):=by grind
 rw[e1] at p1
 rw[e2] at p2
 have e3:2^δ*2^γ=2^γ*2^δ:=Nat.mul_comm _ _
 rw[e3] at p1
 lia
def WM(b:Nat):Nat->aQ->aQ->Prop
 |0,_,_=>True
 |f+1,rest,right=>rest.length<right.length\/((∃γ δ,γ+δ<=b/\Mg γ rest/\Mg δ right)/\WM b f (hU rest right) right)
theorem Dn{b δ:Nat}{right:aQ}(hr:right≠[])(h2:Mg δ right):∀(f d γ:Nat) (rest:aQ),rest.length<right.length+d->Mg γ rest->γ+d*δ<=b->Mg (γ+d*δ) (vP f rest right)/\WM b f rest right
 |0,d,γ,rest,hl,h1,hb=>⟨h1.mono (by lia),trivial⟩
 |f+1,d,γ,rest,hl,h1,hb=>by
  by_cases q:rest.length<right.length
  ·have e:vP (f+1) rest right=rest:=if_pos q
   rw[e]
   exact⟨h1.mono (by lia),.inl q⟩
  ·have e:vP (f+1) rest right=vP f (hU rest right) right:=if_neg q
   obtain⟨d',rfl⟩:∃d',d=d' +1:=⟨d - 1,by lia⟩
   have ws:=zy (rest:=rest) (right:=right) (by lia) hr
   have e2:γ+(d' +1)*δ=(γ+δ)+d' *δ:=by
    rw[Nat.succ_mul]
    lia
   have ih:=Dn (b:=b) hr h2 f d' (γ+δ) (hU rest right) (by have:=ws.2.1;lia) (Ll h1 h2) (by lia)
   rw[e,e2]
   refine⟨ih.1,.inr ⟨⟨γ,δ,?_,h1,h2⟩,ih.2⟩⟩
   have:=Nat.le_add_right (γ+δ) (d' *δ)
   lia
def CM(b:Nat):Nat->aQ->aQ->Prop
 |0,_,_=>True
 |f+1,l,s=>s=[]\/(WM b (l.length+1) l s/\CM b f s (prim (c5 l s)))
def pl:Nat->Nat
 |0=>1
 |1=>2
 |n+2=>2*pl (n+1)+pl n
theorem MJ(n:Nat):pl n<=pl (n+1):=by
 match n with
 |0=>decide
 |n+1=>
  show pl (n+1)<=2*pl (n+1)+pl n
  lia
theorem uz{m n:Nat}(h:m<=n):pl m<=pl n:=by
 induction h with
 |refl=>exact Nat.le_refl _
 |step h ih=>exact Nat.le_trans ih (MJ _)
theorem Lm(y:Nat):∀g,pl y+(g+2)*pl (y+1)<=pl (y+g+2)
 |0=>by
  show pl y+(0+2)*pl (y+1)<=2*pl (y+1)+pl y
  lia
 |g+1=>by
  have ih:=Lm y g
  show pl y+(g+1+2)*pl (y+1)<=pl (y+(g+1)+2)
  have e:y+(g+1)+2=(y+g+1)+2:=by lia
  rw[e]
  show _<=2*pl (y+g+1+1)+pl (y+g+1)
  have m1:pl (y+1)<=pl (y+g+1):=uz (by lia)
  have e2:(g+1+2)*pl (y+1)=(g+2)*pl (y+1)+pl (y+1):=by
   rw[show g+1+2=(g+2)+1 by lia,Nat.succ_mul]
  have e3:y+g+1+1=y+g+2:=by lia
  rw[e2,e3]
  lia
theorem zU{b:Nat}:∀(f:Nat) (l s:aQ) (y:Nat),Trim l->Trim s->s.length<l.length->l.length+y=11->Mg (pl y*b) l->Mg (pl (y+1)*b) s->CM (13860*b) f l s
 |0,_,_,_,_,_,_,_,_,_=>trivial
 |f+1,l,s,y,tl,ts,hl,hy,ml,ms=>by
  by_cases s0:s=[]
  ·exact .inl s0
  have c1:1<=s.length:=List.length_pos_iff.mpr s0
  obtain⟨g,eg⟩:∃g,l.length=s.length+g+1:=⟨l.length - s.length - 1,by lia⟩
  have gap:=Lm y g
  have top:pl (y+g+2)<=13860:=by
   have:pl (y+g+2)<=pl 11:=uz (by lia)
   have e:pl 11=13860:=by decide
   lia
  have key:pl y*b+(g+2)*(pl (y+1)*b)<=pl (y+g+2)*b:=by
   rw[<-Nat.mul_assoc,<-Nat.add_mul]
   exact Nat.mul_le_mul_right _ gap
  have lim:pl (y+g+2)*b<=13860*b:=Nat.mul_le_mul_right _ top
  have wm:=Dn (b:=13860*b) s0 ms (l.length+1) (g+2) (pl y*b) l (by lia) ml (by lia)
  have wo:=uh s0 ts (l.length+1) l tl (by lia)
  obtain⟨_,_,_,_,wl,wt⟩:=wo
  refine .inr ⟨wm.2,zU f s (prim (c5 l s)) (y+g+1) ts (d3 wt) ?_ (by lia) (ms.mono (Nat.mul_le_mul_right _ (uz (by lia)))) ?_⟩
  ·rw[c6];exact wl
  ·exact yA (wm.1.mono key)
theorem Fb{b:Nat}{T B:aQ}(tT:Trim T)(tB:Trim B)(hB:B≠[])(lT:T.length<=11)(lB:B.length<=11)(mT:Mg b T)(mB:Mg b B)(f:Nat):CM (13860*b) (f+1) T B:=by
 have p1:∀y,1<=pl y:=fun y=>uz (m:=0) (Nat.zero_le y)
 have p2:∀y,2<=pl (y+1):=fun y=>uz (m:=1) (by lia)
 have one:∀y,b<=pl y*b:=fun y=>Nat.le_mul_of_pos_left _ (p1 y)
 by_cases h1:B.length<T.length
 ·exact zU (f+1) T B (11 - T.length) tT tB h1 (by lia) (mT.mono (one _)) (mB.mono (one _))
 ·have c1:1<=B.length:=List.length_pos_iff.mpr hB
  have wm:=Dn (b:=13860*b) hB mB (T.length+1) 1 b T (by lia) mT (by lia)
  obtain⟨_,_,_,_,wl,wt⟩:=uh hB tB (T.length+1) T tT (by lia)
  refine .inr ⟨wm.2,zU f B (prim (c5 T B)) (11 - B.length) tB (d3 wt) (by rw[c6];exact wl) (by lia) (mB.mono (one _)) ?_⟩
  refine yA (wm.1.mono ?_)
  have:=Nat.mul_le_mul_right b (p2 (11 - B.length))
  lia
theorem Al.mem{α β:Type}{R:α->β->Prop}:∀{l:List α} {m:List β},Al R l m->∀a∈l,∃b,b∈m/\R a b
 |_,_,.nil,a,h=>by cases h
 |_,_,.cons r t,a,h=>by
  rcases List.mem_cons.mp h with rfl |h
  ·exact⟨_,List.mem_cons_self,r⟩
  ·obtain⟨b,hb,q⟩:=t.mem a h
   exact⟨b,List.mem_cons_of_mem _ hb,q⟩
theorem Fc{n:Nw}{st:List Bool}(h:st∈bf n.af [[]]):∃r,oN 0 n.af.length st r:=by
 rw[xC] at h
 obtain⟨r,_,q⟩:=(v5 n.af 0).mem st h
 exact⟨r,q⟩
theorem Jv{n:Nw}(R:Right n):(ao n).places<=11:=by
 unfold Wh.Net.places
 have:=List.length_filter_le (fun(x:Wh.Elem)=>decide (x.kind= .C) ||decide (x.kind= .L)) (ao n).elems
 have e:(ao n).elems.length=n.af.length:=lMp ..
 have:=R.af
 lia
theorem OO{n:Nw}(R:Right n){G:Wh.Setting}:Dg (bL ((ao n).determinant G)) 11/\∀c,c<(ao n).unknowns->Dg (bL ((ao n).numerator G c)) 11:=by
 have pl:=Jv R
 refine⟨?_,fun c hc=> ?_⟩
 ·unfold Wh.Net.determinant
  refine⟨_,rfl,Nat.le_trans (pU _) ?_⟩
  rw[lMp,List.length_range]
  exact pl
 ·unfold Wh.Net.numerator
  refine⟨_,rfl,Nat.le_trans (pU _) ?_⟩
  rw[lMp,List.length_range]
  exact pl
theorem MK{n:Nw}(R:Right n){st:List Bool}{r:List Nat}{src:Int}{d:aQ}{tops:List aQ}(D:Pc n st r src d tops):d.length<=11/\∀c,c<(ao n).unknowns->(tops.getD c []).length<=11:=by
 obtain⟨q,q0,hd,ht⟩:=D.ex
 obtain⟨d1,d2⟩:=OO R (G:=Wh.alone r src.toNat)
 have one:∀f:PF,PF.const 1*f=f:=fun f=>by
  rw[cX]
  grind
 refine⟨rT D.xq (c:=1) (by decide) (by rw[one,hd];exact d1.smul q),fun c hc=>rT (D.trim c hc) (c:=1) (by decide) (by rw[one,ht c hc];exact(d2 c hc).smul q)⟩
theorem OP{n:Nw}(R:Right n){g:gK}(hg:g.aO=n){d:aQ}{tops:List aQ}{m B:Nat}(tl:tops.length=(ao n).unknowns)(hb:∀c,c<(ao n).unknowns->(tops.getD c []).length<=m/\dW (tops.getD c [])<=B){what k:Int}(k0:0<=k)(hq:gi n what k=true):
  (fh g (d,tops) what k).length<=m/\dW (fh g (d,tops) what k)<=2*B:=by
 have nl:=jO n
 have nd:∀v:Int,v<=n.last->(cA (d,tops) v).length<=m/\dW (cA (d,tops) v)<=B:=fun v hv=>by
  unfold cA
  by_cases h:0<v
  ·rw[if_pos h]
   exact hb _ (by lia)
  ·rw[if_neg h]
   exact⟨Nat.zero_le _,Nat.zero_le _⟩
 unfold gi at hq
 unfold fh
 by_cases h0:what=0
 ·rw[if_pos h0] at hq
  rw[if_pos h0]
  have:=nd k (of_decide_eq_true hq)
  lia
 ·rw[if_neg h0] at hq
  rw[if_neg h0]
  by_cases hw:what=1\/what=2
  ·rw[if_pos hw] at hq
   obtain⟨q1,q2⟩:=(Bool.and_eq_true _ _).mp hq
   have q1:=of_decide_eq_true q1
   have q2:=of_decide_eq_true q2
   have hk:k.toNat<n.af.length:=by lia
   unfold kindAt at q2
   have ab:=R.ab hk q2
   by_cases h1:what=1
   ·rw[if_pos h1]
    unfold gQ
    rw[hg,R.place hk,Int.toNat_natCast]
    have:=hb _ (mM R hk q2)
    show(tops.getD ((ao n).at_ k.toNat) []).length<=m/\dW (tops.getD ((ao n).at_ k.toNat) [])<=2*B
    lia
   ·rw[if_neg h1]
    unfold gR qJ
    rw[hg]
    have ha:=nd _ ab.1
    have hbb:=nd _ ab.2
    unfold pO yU
    refine⟨Nat.le_trans (CN _) ?_,Nat.le_trans (Df _) (Nat.le_trans (mN _ _) ?_)⟩
    ·rw[fH,tV];lia
    ·rw[Dh];lia
  ·rw[if_neg hw] at hq
   cases hq
theorem ML{src what k:Int}(s0:0<=src)(w0:0<=what)(k0:0<=k)(l:List Int):(bb src what k l).bz≠[]\/∃p d tops r,bz l=[]/\gI (aU l) src=true/\gi (aU l) what k=true/\point (aU l)=some p/\oN 0 (aU l).af.length p.1 r/\sol (rows (bI (aU l) p.1 src))=some (d,tops)/\Pc (aU l) p.1 r src d tops/\bb src what k l=⟨[],fh (bI (aU l) p.1 src) (d,tops) what k,d⟩:=by
 by_cases hr:bz l=[]
 rotate_left
 ·left
  unfold bb
  rw[if_pos hr]
  exact hr
 obtain⟨R,dP⟩:=right_of hr
 by_cases hq:gI (aU l) src=false\/gi (aU l) what k=false
 ·left
  unfold bb
  rw[if_neg (fun z=>z hr),if_pos hq]
  simp
 have h1:gI (aU l) src=true:=by
  cases e:gI (aU l) src with
  |true=>rfl
  |false=>exact absurd (.inl e) hq
 have h2:gi (aU l) what k=true:=by
  cases e:gi (aU l) what k with
  |true=>rfl
  |false=>exact absurd (.inr e) hq
 have pr:=v7 R
 cases hp:point (aU l) with
 |none=>
  left
  unfold bb
  rw[if_neg (fun z=>z hr),if_neg hq,hp]
  simp
 |some p=>
  right
  rw[hp] at pr
  cases hP:(ao (aU l)).point with
  |none=>rw[hP] at pr;exact pr.elim
  |some y=>
   rw[hP] at pr
   obtain⟨_,hst,D0⟩:=pr
   obtain⟨d,tops,es,D⟩:=rZ R hst D0 s0 h1
   refine⟨p,d,tops,y.1,hr,h1,h2,rfl,hst,es,D,?_⟩
   unfold bb
   rw[if_neg (fun z=>z hr),if_neg hq,hp]
   dsimp only
   rw[es]
theorem Dp{l:List Int}(hr:bz l=[]){src:Int}(s0:0<=src)(h1:gI (aU l) src=true){p:List Bool×(aQ×List aQ)}(hp:point (aU l)=some p):∃d tops r,p.1∈bf (aU l).af [[]]/\oN 0 (aU l).af.length p.1 r/\sol (rows (bI (aU l) p.1 src))=some (d,tops)/\Pc (aU l) p.1 r src d tops:=by
 obtain⟨R,dP⟩:=right_of hr
 have pr:=v7 R
 rw[hp] at pr
 cases hP:(ao (aU l)).point with
 |none=>rw[hP] at pr;exact pr.elim
 |some y=>
  rw[hP] at pr
  obtain⟨hm,hst,D0⟩:=pr
  obtain⟨d,tops,es,D⟩:=rZ R hst D0 s0 h1
  exact⟨d,tops,y.1,hm,hst,es,D⟩
structure TB(T B:aQ):Prop where
 chain:CM 97435800 (B.length+1) (prim T) (prim B)
 g:(lg T B).length<=11/\dW (lg T B)<=2^7200
 a:(ja T (lg T B)).length<=11/\dW (ja T (lg T B))<=2^7200
 b:(ja B (lg T B)).length<=11/\dW (ja B (lg T B))<=2^7200
 f:(m9 (cont (ja T (lg T B))) (cont (ja B (lg T B)))).natAbs<=2^7200
theorem Qy:cB 20 11*20^11<=2^171:=by decide +kernel
theorem MM{T B:aQ}(tT:Trim T)(tB:Trim B)(hT:T≠[])(hB:B≠[])(lT:T.length<=11)(lB:B.length<=11)(nT:dW T<=2^7029)(nB:dW B<=2^7029):TB T B:=by
 obtain⟨tg,hg,gg,_,⟨a,ea⟩,⟨b,eb⟩⟩:=Gq tT tB hT
 obtain⟨A,tA,oA⟩:=jB gg ea
 obtain⟨Bq,tBq,oB⟩:=jB gg eb
 have dA:ja T (lg T B)=A:=lj tT tg tA hg (by rw[oA];exact ea)
 have dB:ja B (lg T B)=Bq:=lj tB tg tBq hg (by rw[oB];exact eb)
 have hA:A≠[]:=fun z=>hT ((bW tT).mp (by
  rw[ea,<-oA,z]
  show(0:PF)*_=0
  grind))
 have hBq:Bq≠[]:=fun z=>hB ((bW tB).mp (by
  rw[eb,<-oB,z]
  show(0:PF)*_=0
  grind))
 have eT:aG T=aG A*aG (lg T B):=by rw[oA];exact ea
 have eB:aG B=aG Bq*aG (lg T B):=by rw[oB];exact eb
 have len:∀(X Y G:aQ),Trim X->Trim Y->Trim G->Y≠[]->G≠[]->aG X=aG Y*aG G->X.length=Y.length+G.length - 1:=fun X Y G tX tY tG hY hG e=>by
  have:X=de Y G:=kZ tX (mJ tY tG) (by rw[gj];exact e)
  rw[this,tW hY hG]
 have l1:=len T A (lg T B) tT tA tg hA hg eT
 have l2:=len B Bq (lg T B) tB tBq tg hBq hg eB
 have pA:0<A.length:=List.length_pos_iff.mpr hA
 have pB:0<Bq.length:=List.length_pos_iff.mpr hBq
 have pG:0<(lg T B).length:=List.length_pos_iff.mpr hg
 have big:∀x:Nat,x<=2^7029->cB 20 11*(x*20^11)<=2^7200:=fun x hx=>by
  have e:cB 20 11*(x*20^11)=(cB 20 11*20^11)*x:=by
   rw[Nat.mul_comm x,Nat.mul_assoc]
  rw[e,show(7200:Nat)=171+7029 from rfl,Nat.pow_add]
  exact Nat.mul_le_mul Qy hx
 have bA:=Nat.le_trans (GO lT tg hg (by lia) (by lia) eT) (big _ nT)
 have bB:=Nat.le_trans (GO lB tg hg (by lia) (by lia) eB) (big _ nB)
 have bG:=Nat.le_trans (GO lT tA hA (by lia) (show(lg T B).length<=11 by lia) (show aG T=aG (lg T B)*aG A by rw[eT];grind)) (big _ nT)
 have mg:∀X:aQ,dW X<=2^7029->Mg 7030 X:=fun X h=>Jt (by
  rw[show(7030:Nat)=1+7029 from rfl,Nat.pow_add]
  exact Nat.mul_le_mul_left 2 h)
 refine⟨?_,⟨by lia,bG⟩,?_,?_,?_⟩
 ·exact Fb (b:=7030) (d3 tT) (d3 tB) (fun z=>hB (by
   have:=congrArg List.length z
   rw[c6] at this
   exact List.length_eq_zero_iff.mp (by simpa using this))) (by rw[c6];exact lT) (by rw[c6];exact lB) (yA (mg T nT)) (yA (mg B nB)) B.length
 ·rw[dA];exact⟨by lia,bA⟩
 ·rw[dB];exact⟨by lia,bB⟩
 ·rw[dA,dB]
  unfold m9
  rw[gw,gw,Int.natAbs_natCast,Int.natAbs_natCast,Int.natAbs_natCast]
  have ga:=fK tA hA
  refine Nat.le_trans (Nat.gcd_le_left _ ga) ?_
  have nl:=bO.mp tA hA
  have hm:lc A∈A:=by
   unfold lc
   exact memD (by lia)
  have dv:=iZ hm
  have h1:bZ A<=(lc A).natAbs:=by
   have:=Int.natAbs_dvd_natAbs.mpr dv
   rw[Int.natAbs_natCast] at this
   exact Nat.le_of_dvd (by lia) this
  have:=qT hm
  lia
theorem Jw{T B:aQ}(h:T≠[]->TB T B):(lh T B).length<=100:=by
 unfold lh
 by_cases e:T=[]
 ·rw[if_pos e];decide
 ·rw[if_neg e]
  have:=h e
  dsimp only
  unfold oF
  rw[List.length_append,List.length_cons,List.length_cons,lMp,lMp,List.length_reverse,List.length_reverse]
  have:=this.a.1
  have:=(h e).b.1
  lia
end ai
namespace DR
open PySem PySem.Spec PyProof.Rows L2
def top(i:Nat):Stmt:=PySem.Challenge.pw_wirequotients_s01_trans.main.body.getD i (.Pass ⟨0,0,0,0⟩)
structure Txt(mg:Str->Option Value):Prop where
 dE:mg "len"=none
 zV:mg "list"=none
 Ln:mg "max"=none
 Lo:mg "sum"=none
 Fd:mg "all"=none
 Ir:mg "any"=none
 Fe:mg "abs"=none
 gx:mg "range"=none
 dF:mg "enumerate"=none
 Lp:mg "zip"=none
 r9:mg "reversed"=none
def bP(H:Hp)(v:V)(l:List Int):Prop:=∃a,v= .ref a/\H a=some (.lst (l.map V.int))
theorem bP.same{H H':Hp}{v:V}{l:List Int}(h:bP H v l)(s:aJ H H'):bP H' v l:=let ⟨a,e,q⟩:=h;⟨a,e,s _ _ q⟩
def nJ(H:Hp)(Q:VK)(l:List Int):Prop:=∀p H',H p=none->aJ H H'->H' p=some (.lst (l.map V.int))->Q (.ref p) H'
theorem nJ.of{H H1:Hp}{Q:VK}{l:List Int}(k:nJ H Q l)(s:aJ H H1):nJ H1 Q l:=fun p H' hp s' e=>k p H' (s.free hp) (s.trans s') e
section
variable {P:Program}{w:World}{K:PySem.W.Frag}{mg:Str->Option Value}{base:Heap}
abbrev sd:Stmt:=top 17
theorem Ff:aD ["x"] ["x"] (aq sd):=sco rfl rfl rfl rfl (by decide +kernel)
def lE:Sp:=fun vs H Q _=>∃x:Int,vs=[.int x]/\nJ H Q (ai.cst x)
theorem Fg(G:d9 K mg "constant" sd ["x"]):bq P w K mg base "constant" ["x"] 1 lE:=by
 have sc:=Ff
 refine G.fg sc (fun vs H Q E ⟨x,e,_⟩=>by rw[e];rfl) fun f cdv A outer s H vs Q E hr h=> ?_
 obtain⟨x,rfl,k⟩:=h
 refine⟨_,(au (aB (jE (bc xh (pv 0) aF (a5 _)) (aN (aa (pv 0) ah)) (aN ah)))),?_⟩
 refine⟨_,rfl,rfl,_,rfl,?_⟩
 by_cases hx:x=0
 ·subst hx
  refine Ni rfl ?_
  exact⟨Nat.zero_le _,fun p hp=>k p _ hp (ay hp) ak⟩
 ·have e:(!decide (V.int x=V.int 0))=true:=by simp[hx]
  rw[e]
  refine bx ⟨_,rfl,ax (by simp),fun p hp=>k p _ hp (ay hp) ?_⟩
  rw[ak]
  unfold ai.cst
  rw[if_neg hx]
  rfl
abbrev v9:Stmt:=top 16
theorem GP:aD ["coefficients","length"] ["coefficients"] (aq v9):=sco rfl rfl rfl rfl (by decide +kernel)
def zW:Sp:=fun vs H Q _=>∃v c,vs=[v]/\bP H v c/\nJ H Q (ai.Gi c)
theorem GQ(T:Txt mg)(G:d9 K mg "trimmed" v9 ["coefficients"]):bq P w K mg base "trimmed" ["coefficients"] 1 zW:=by
 have sc:=GP
 refine G.fg sc (fun vs H Q E ⟨v,c,e,_⟩=>by rw[e];rfl) fun f cdv A outer s H vs Q E hr h=> ?_
 obtain⟨v,c,rfl,⟨a,rfl,ha⟩,k⟩:=h
 refine⟨_,(aj (aI (i:=1) sc.nd rfl (by first|left;rfl|right;rfl) (aZ (bo K) rfl T.dE a6 (aa (pv 0) ah)))
   (aj (tx PassesOwn.never (PW.pt (FW (bc xi (pv 1) aF (a5 _)) (Co (bc dX (aY (fE K) (pv 0) (bu jF (pv 1) aF) (fun _ _=>rfl)) aF (a5 _))))) (au (FX (i:=1) sc.nd rfl (Or.inl rfl) aF Kc)))
   (au (aB (ph (Qm K) (pv 0) Ct (mX (pv 1))))))),?_⟩
 refine⟨_,rfl,a,_,rfl,.inl (.of ha),?_⟩
 refine⟨fun m σ H'=>H'=H/\m<=c.length/\σ=[some (.ref a),some (.int (m:Int))]/\ai.pN c c.length=ai.pN c m,⟨c.length,rfl,Nat.le_refl _,by simp[L2.start],rfl⟩,?_⟩
 rintro m σ H' ⟨rfl,hm,rfl,ht⟩
 have fin:ai.pN c m=m->nJ H' Q (c.take m):=fun e=>by
  unfold ai.Gi at k
  rwa [ht,e] at k
 refine⟨_,rfl,_,_,rfl,rfl,_,rfl,?_⟩
 have out:ai.pN c m=m->L7 (RP (Ob K) (rH 0) Hv (Nh (rH 1))) {nx:=fun _ H'=>Q .gr H',rt:=Q} [some (.ref a),some (.int (m:Int))] H':=fun e=>by
  refine⟨_,rfl,_,rfl,_,rfl,a,_,rfl,.of ha,fun p hp=> ?_⟩
  refine fin e p _ hp (ay hp) ?_
  rw[ak]
  unfold rK
  rw[HT.mW,lMp,Nat.min_eq_left hm]
  simp[HT.AQ]
 by_cases h0:0<m
 ·rw[decide_eq_true (show(m:Int)>0 by lia)]
  have hx:(c.map V.int)[m - 1]? =some (.int (c.getD (m - 1) 0)):=fF (by lia)
  refine bx ⟨_,rfl,_,rfl,_,_,rfl,rfl,a,_,_,_,rfl,rfl,.of ha,aS (j:=m - 1) (by lia) hx,rfl,_,rfl,?_⟩
  obtain⟨n,rfl⟩:∃n,m=n+1:=⟨m - 1,by lia⟩
  by_cases hz:c.getD n 0=0
  ·have e:decide (V.int (c.getD (n+1 - 1) 0)=V.int 0)=true:=by simpa using hz
   rw[e]
   refine bx ⟨_,fun σ' H2 q=>⟨n,by lia,q⟩,_,rfl,_,_,rfl,rfl,rfl,by lia,?_,?_⟩
   ·show[some (V.ref a),some (V.int (((n+1:Nat):Int) - 1))]=_
    have:((n+1:Nat):Int) - 1=(n:Int):=by lia
    rw[this]
   ·rw[ht]
    show(if c.getD n 0=0 then _ else _)=_
    rw[if_pos hz]
  ·have e:decide (V.int (c.getD (n+1 - 1) 0)=V.int 0)=false:=by simpa using hz
   rw[e]
   refine bE (out ?_)
   show(if c.getD n 0=0 then _ else _)=_
   rw[if_neg hz]
 ·have e0:m=0:=by lia
  subst e0
  exact bE (bE (out rfl))
end
theorem bh{α β:Type}(f:α->β)(l:List α)(i:Nat)(x:α)(h:l[i]? =some x):(l.take (i+1)).map f=(l.take i).map f ++ [f x]:=by
 rw[List.take_add_one,h]
 simp
theorem fA{l:List Int}{i:Nat}{v:V}(h:(l.map V.int)[i]? =some v):∃x,l[i]? =some x/\v= .int x:=by
 rw[List.getElem?_map] at h
 cases e:l[i]? with
 |none=>rw[e] at h;cases h
 |some x=>rw[e] at h;exact⟨x,rfl,(Option.some.inj h).symm⟩
theorem cG{α:Type}{l:List α}{i:Nat}{x:α}(h:l[i]? =some x):i<l.length:=(List.getElem?_eq_some_iff.mp h).1
section
variable {P:Program}{w:World}{K:PySem.W.Frag}{mg:Str->Option Value}{base:Heap}
def Short(l:List Int):Prop:=l.length<1000000
abbrev qU:Stmt:=top 18
theorem GR:aD ["polynomial","x"] ["polynomial"] (aq qU):=sco rfl rfl rfl rfl (by decide +kernel)
def zX:Sp:=fun vs H Q _=>∃v c,vs=[v]/\bP H v c/\Short c/\nJ H Q (ai.HK c)
theorem GS(G:d9 K mg "negated" qU ["polynomial"]):bq P w K mg base "negated" ["polynomial"] 1 zX:=by
 have sc:=GR
 refine G.fg sc (fun vs H Q E ⟨v,c,e,_⟩=>by rw[e];rfl) fun f cdv A outer s H vs Q E hr h=> ?_
 obtain⟨v,c,rfl,⟨a,rfl,ha⟩,hs,k⟩:=h
 refine⟨_,(au (aB (iW rfl sc.nd (bS (pv 0)) (bN (own:=[("x",1)]) (by show jo ["polynomial","x"] (aq qU) _ _=true;decide +kernel)) (fun _ _ _ _ _=>(aM (i:=1) sc.nd rfl (Or.inl rfl))) (fun _ _ _ _ _=>cH) (fun _ _ _ _ _=>(gN eC (pv 1)))))),?_⟩
 refine⟨_,rfl,a,rfl,⟨_,.of ha⟩,fun D hD=>ks (bT (.of ha)) hD (fun i _ acc=>acc=(c.take i).map fun x=>V.int (-x)) rfl ?_ ?_⟩
 ·rintro i x H1 H2 acc hi s1 hD1 hacc s2 s12 hD2 hx
  obtain⟨z,hz,rfl⟩:=fA hx
  refine⟨rfl,⟨_,rfl,_,rfl,?_⟩⟩
  refine cT hD s2 hD2 ?_ ?_
  ·rw[hacc,lMp,List.length_take]
   unfold Short at hs
   exact aH (by lia)
  ·rw[hacc,bh _ _ _ _ hz]
 ·intro H1 acc s1 hD1 hacc
  refine k D H1 hD s1 ?_
  rw[hD1,hacc,lMp,List.take_length]
  unfold ai.HK
  rw[List.map_map]
  rfl
end
def arr(n:Nat)(f:Nat->Int):List V:=(List.range n).map fun j=>V.int (f j)
theorem fW(n:Nat)(f:Nat->Int):(arr n f).length=n:=by unfold arr;simp
theorem lF{n:Nat}{f:Nat->Int}{i:Nat}(h:i<n):(arr n f)[i]? =some (V.int (f i)):=by
 unfold arr
 rw[List.getElem?_map,List.getElem?_range h];rfl
theorem cM{n:Nat}{f g:Nat->Int}(h:∀j,j<n->f j=g j):arr n f=arr n g:=by
 unfold arr
 exact List.map_congr_left fun j hj=>by rw[h j (List.mem_range.mp hj)]
theorem uA{n:Nat}{f:Nat->Int}{i:Nat}{z:Int}:(arr n f).set i (V.int z)=arr n fun j=>if j=i then z else f j:=by
 refine List.ext_getElem? fun j=> ?_
 rw[List.getElem?_set]
 by_cases q:i=j
 ·subst q
  rw[if_pos rfl,fW]
  by_cases h:i<n
  ·rw[if_pos h,lF h,if_pos rfl]
  ·rw[if_neg h]
   exact(List.getElem?_eq_none (by rw[fW];lia)).symm
 ·rw[if_neg q]
  by_cases h:j<n
  ·rw[lF h,lF h,if_neg (Ne.symm q)]
  ·rw[List.getElem?_eq_none (by rw[fW];lia),List.getElem?_eq_none (by rw[fW];lia)]
theorem zY{l:List Int}{n:Nat}(h:l.length=n):l.map V.int=arr n fun j=>l.getD j 0:=by
 refine List.ext_getElem? fun j=> ?_
 by_cases q:j<n
 ·rw[lF q,fF (by lia)]
 ·rw[List.getElem?_eq_none (by rw[lMp];lia),List.getElem?_eq_none (by rw[fW];lia)]
theorem yB(n:Nat):(List.replicate n [V.int 0]).flatten=arr n fun _=>0:=by
 unfold arr
 induction n with
 |zero=>rfl
 |succ n ih=>
  rw[List.replicate_succ',List.flatten_append,ih,List.range_succ,List.map_append]
  rfl
theorem imax(a b:Nat):(if(b:Int)>(a:Int) then(b:Int) else(a:Int))=((max a b:Nat):Int):=by
 split <;>lia
section
variable {P:Program}{w:World}{K:PySem.W.Frag}{mg:Str->Option Value}{base:Heap}
abbrev Dq:Stmt:=top 19
theorem Lq:aD ["left","right","result","power","x","y"] ["left","right"] (aq Dq):=sco rfl rfl rfl rfl (by decide +kernel)
def zZ:Sp:=fun vs H Q _=>∃v u l r,vs=[v,u]/\bP H v l/\bP H u r/\Short l/\Short r/\nJ H Q (ai.yU l r)
theorem Lr(T:Txt mg)(wa:bq P w K mg base "trimmed" ["coefficients"] 1 zW)(G:d9 K mg "added" Dq ["left","right"]):bq P w K mg base "added" ["left","right"] 2 zZ:=by
 have sc:=Lq
 refine G.fg sc (fun vs H Q E ⟨v,u,l,r,e,_⟩=>by rw[e];rfl) fun f cdv A outer s H vs Q E hr h=> ?_
 obtain⟨v,u,l,r,rfl,⟨a,rfl,ha⟩,⟨b,rfl,hb⟩,hl,hr',k⟩:=h
 unfold Short at hl hr'
 refine⟨_,(aj (aI (i:=2) sc.nd rfl (by first|left;rfl|right;rfl) (bu Cz (aN (aa aF ah)) (aZ (IJ rfl) rfl T.Ln Gb (aa (aZ (bo K) rfl T.dE a6 (aa (pv 0) ah)) (aa (aZ (bo K) rfl T.dE a6 (aa (pv 1) ah)) ah)))))
   (aj (c9 PassesOwn.never rfl (mZ rfl T.dF (aa (pv 0) ah)) (gP K (n:=2) rfl (bM (aM (i:=3) sc.nd rfl (Or.inl rfl)) (bM (aM (i:=4) sc.nd rfl (Or.inl rfl)) gM))) (au (vC (pv 4) (vB (pv 2) (pv 3) set_list))))
   (aj (c9 PassesOwn.never rfl (mZ rfl T.dF (aa (pv 1) ah)) (gP K (n:=2) rfl (bM (aM (i:=3) sc.nd rfl (Or.inl rfl)) (bM (aM (i:=5) sc.nd rfl (Or.inl rfl)) gM))) (au (Cq (pv 2) (pv 3) rL (pv 5) FY set_list)))
   (au (aB (aA wa (hr.mono (by decide)) rfl (aa (pv 2) ah))))))),?_⟩
 refine⟨ax (by simp),fun q hq=> ?_⟩
 have s1:aJ H (upd H q (.lst [.int 0])):=ay hq
 refine⟨_,rfl,a,_,rfl,.inl (.of (s1 _ _ ha)),_,rfl,b,_,rfl,.inl (.of (s1 _ _ hb)),_,_,rfl,?_⟩
 rw[lMp,lMp,imax]
 generalize hn:max l.length r.length=n
 refine⟨q,_,_,rfl,rfl,ak,by lia,by lia,ax (by simp;lia),fun p hp=> ?_⟩
 rw[Int.toNat_natCast,yB]
 have hpH:H p=none:=s1.free hp
 have s2:=s1.trans (ay (o:= .lst (arr n fun _=>0)) hp)
 refine⟨_,rfl,a,_,rfl,.of (s2 _ _ ha),gb (m5 (K:=K) (.of ha)) (fun i σ H'=>∃x3 x4,σ=[some (.ref a),some (.ref b),some (.ref p),x3,x4,none]/\aJ H H'/\H' p=some (.lst (arr n fun j=>if j<i then l.getD j 0 else 0))) ?_ (fun i σ H' ⟨_,_,_,s,_⟩=>s) ?_ ?_⟩
 ·exact⟨none,none,rfl,s2,by rw[ak];simp⟩
 ·rintro i x σ H1 H2 hi ⟨x3,x4,rfl,s3,hp1⟩ s4 s12 ⟨t,y,rfl,ht,hy⟩
  obtain⟨z,hz,rfl⟩:=fA hy
  have hil:=cG hz
  refine⟨t,_,rfl,.of ht,rfl,_,_,rfl,_,_,rfl,rfl,?_⟩
  refine⟨_,rfl,_,rfl,_,rfl,p,_,_,i,rfl,rfl,s12 _ _ hp1,m6 rfl (by rw[fW];lia),?_⟩
  refine⟨_,_,rfl,s4.over hpH,?_⟩
  rw[ak,uA]
  refine congrArg (fun q=>some (HO.lst q)) (cM fun j hj=> ?_)
  by_cases e:j=i
  ·subst e
   rw[if_pos rfl,if_pos (by lia),gDe,hz];rfl
  ·rw[if_neg e]
   by_cases e2:j<i
   ·rw[if_pos e2,if_pos (by lia)]
   ·rw[if_neg e2,if_neg (by lia)]
 ·rintro σ H1 ⟨x3,x4,rfl,s3,hp1⟩
  refine⟨_,rfl,b,_,rfl,.of (s3 _ _ hb),gb (m5 (K:=K) (.of hb)) (fun i σ H'=>∃x3 x4 x5,σ=[some (.ref a),some (.ref b),some (.ref p),x3,x4,x5]/\aJ H H'/\H' p=some (.lst (arr n fun j=>l.getD j 0+if j<i then r.getD j 0 else 0))) ?_ (fun i σ H' ⟨_,_,_,_,s,_⟩=>s) ?_ ?_⟩
  ·refine⟨_,_,_,rfl,s3,?_⟩
   rw[hp1]
   refine congrArg (fun q=>some (HO.lst q)) (cM fun j hj=> ?_)
   rw[lMp]
   by_cases e:j<l.length
   ·rw[if_pos e,if_neg (by lia)];lia
   ·rw[if_neg e,if_neg (by lia),gDe,List.getElem?_eq_none (by lia)];rfl
  ·rintro i x σ H2 H3 hi ⟨x3,x4,x5,rfl,s5,hp2⟩ s6 s23 ⟨t,y,rfl,ht,hy⟩
   obtain⟨z,hz,rfl⟩:=fA hy
   have hil:=cG hz
   have hp3:=s23 _ _ hp2
   refine⟨t,_,rfl,.of ht,rfl,_,_,rfl,_,_,rfl,rfl,?_⟩
   refine⟨_,rfl,_,rfl,p,_,_,i,_,rfl,rfl,.of hp3,rfl,lF (by lia),_,rfl,_,_,rfl,rfl,p,_,_,i,rfl,rfl,hp3,m6 rfl (by rw[fW];lia),?_⟩
   refine⟨_,_,_,rfl,s6.over hpH,?_⟩
   rw[ak,uA]
   refine congrArg (fun q=>some (HO.lst q)) (cM fun j hj=> ?_)
   by_cases e:j=i
   ·subst e
    rw[if_pos rfl,if_neg (by lia),if_pos (by lia),gDe (l:=r),hz]
    simp
   ·rw[if_neg e]
    by_cases e2:j<i
    ·rw[if_pos e2,if_pos (by lia)]
    ·rw[if_neg e2,if_neg (by lia)]
  ·rintro σ H2 ⟨x3,x4,x5,rfl,s5,hp2⟩
   refine⟨_,rfl,.ref p,ai.eh l r,rfl,⟨p,rfl,?_⟩,k.of s5⟩
   rw[hp2,zY (l:=ai.eh l r) (n:=n) (by rw[ai.fH];exact hn)]
   refine congrArg (fun q=>some (HO.lst q)) (cM fun j hj=> ?_)
   rw[lMp,ai.eV]
   by_cases e:j<r.length
   ·rw[if_pos e]
   ·rw[if_neg e,gDe (l:=r),List.getElem?_eq_none (by lia)];rfl
end
section
variable {P:Program}{w:World}{K:PySem.W.Frag}{mg:Str->Option Value}{base:Heap}
abbrev nL:Stmt:=top 20
theorem AX:aD ["left","right"] ["left","right"] (aq nL):=sco rfl rfl rfl rfl (by decide +kernel)
def iS:Sp:=fun vs H Q _=>∃v u l r,vs=[v,u]/\bP H v l/\bP H u r/\Short l/\Short r/\nJ H Q (ai.pO l r)
theorem AY(wb:bq P w K mg base "negated" ["polynomial"] 1 zX)(qV:bq P w K mg base "added" ["left","right"] 2 zZ)(G:d9 K mg "subtracted" nL ["left","right"]):bq P w K mg base "subtracted" ["left","right"] 3 iS:=by
 have sc:=AX
 refine G.fg sc (fun vs H Q E ⟨v,u,l,r,e,_⟩=>by rw[e];rfl) fun f cdv A outer s H vs Q E hr h=> ?_
 obtain⟨v,u,l,r,rfl,pl,pr,hl,hr',k⟩:=h
 refine⟨_,(au (aB (aA qV (hr.mono (by decide)) rfl (aa (pv 0) (aa (aA wb (hr.mono (by decide)) rfl (aa (pv 1) ah)) ah))))),?_⟩
 refine⟨_,rfl,_,rfl,_,_,rfl,pr,hr',fun p H' hp s1 e=> ?_⟩
 exact⟨_,_,l,ai.HK r,rfl,pl.same s1,⟨p,rfl,e⟩,hl,by unfold Short at *;rw[ai.tV];exact hr',k.of s1⟩
abbrev ma:Stmt:=top 23
theorem z3:aD ["polynomial"] ["polynomial"] (aq ma):=sco rfl rfl rfl rfl (by decide +kernel)
def p8:Sp:=fun vs H Q _=>∃v c,vs=[v]/\bP H v c/\Q (.int (ai.bF c)) H
theorem z4(G:d9 K mg "constant_of" ma ["polynomial"]):bq P w K mg base "constant_of" ["polynomial"] 1 p8:=by
 have sc:=z3
 refine G.fg sc (fun vs H Q E ⟨v,c,e,_⟩=>by rw[e];rfl) fun f cdv A outer s H vs Q E hr h=> ?_
 obtain⟨v,c,rfl,⟨a,rfl,ha⟩,k⟩:=h
 refine⟨_,(au (aB (jE (bw K (pv 0) (fun _=>rfl)) (aY (fE K) (pv 0) aF (fun _ _=>rfl)) aF))),?_⟩
 refine⟨_,rfl,_,.inl ⟨_,.of ha,rfl⟩,?_⟩
 cases c with
 |nil=>exact bE k
 |cons z c=>exact bx ⟨_,rfl,a,_,_,_,rfl,rfl,.of ha,aS (j:=0) rfl rfl,k⟩
abbrev gA:Stmt:=top 24
theorem rb:aD ["x","y","large","small","rest"] ["x","y"] (aq gA):=sco rfl rfl rfl rfl (by decide +kernel)
def gf:Sp:=fun vs H Q _=>∃x y:Int,vs=[.int x,.int y]/\Q (.int (ai.m9 x y)) H
theorem Qz(x:Int):(if x<0 then -x else x)=(x.natAbs:Int):=by split <;>lia
theorem rd(T:Txt mg)(G:d9 K mg "greatest_divisor" gA ["x","y"]):bq P w K mg base "greatest_divisor" ["x","y"] 1 gf:=by
 have sc:=rb
 refine G.fg sc (fun vs H Q E ⟨x,y,e,_⟩=>by rw[e];rfl) fun f cdv A outer s H vs Q E hr h=> ?_
 obtain⟨x,y,rfl,k⟩:=h
 refine⟨_,(aj (aI (i:=2) sc.nd rfl (by first|left;rfl|right;rfl) (aZ yJ rfl T.Fe rO (aa (pv 0) ah)))
   (aj (aI (i:=3) sc.nd rfl (by first|left;rfl|right;rfl) (aZ yJ rfl T.Fe rO (aa (pv 1) ah)))
   (aj (tx PassesOwn.never (bc xh (pv 3) aF (a5 _)) (aj (aI (i:=4) sc.nd rfl (by first|left;rfl|right;rfl) (bu Kd (pv 2) (pv 3)))
   (aj (aI (i:=2) sc.nd rfl (by first|left;rfl|right;rfl) (pv 3))
   (au (aI (i:=3) sc.nd rfl (by first|left;rfl|right;rfl) (pv 4))))))
   (au (aB (pv 2)))))),?_⟩
 refine⟨_,rfl,_,rfl,_,rfl,_,rfl,?_⟩
 rw[Qz,Qz]
 refine⟨fun m σ H'=>∃(g:Nat) (z:Option V),H'=H/\σ=[some (.int x),some (.int y),some (.int (g:Int)),some (.int (m:Int)),z]/\Nat.gcd g m=Nat.gcd x.natAbs y.natAbs,⟨y.natAbs,x.natAbs,none,rfl,rfl,rfl⟩,?_⟩
 rintro m σ H' ⟨g,z,rfl,rfl,hg⟩
 refine⟨_,rfl,rfl,_,rfl,?_⟩
 by_cases h0:m=0
 ·subst h0
  refine Ni rfl ?_
  refine⟨_,rfl,?_⟩
  unfold ai.m9 at k
  rw[<-hg,Nat.gcd_zero_right] at k
  exact k
 ·have e:(!decide (V.int (m:Int)=V.int 0))=true:=by simp[h0]
  rw[e]
  refine bx ⟨_,fun σ' H2 q=>⟨g % m,Nat.mod_lt _ (by lia),q⟩,_,rfl,_,rfl,_,_,rfl,rfl,by lia,?_⟩
  refine⟨_,rfl,_,rfl,m,some (.int ((g:Int) % (m:Int))),rfl,?_,?_⟩
  ·show[some (V.int x),some (V.int y),some (V.int (m:Int)),some (V.int ((g:Int) % (m:Int))),some (V.int ((g:Int) % (m:Int)))]=_
   rw[<-Int.natCast_emod]
  ·rw[Nat.gcd_comm,<-Nat.gcd_rec,Nat.gcd_comm];exact hg
abbrev wc:Stmt:=top 25
theorem GU:aD ["polynomial","result","x"] ["polynomial"] (aq wc):=sco rfl rfl rfl rfl (by decide +kernel)
def sf:Sp:=fun vs H Q _=>∃v c,vs=[v]/\bP H v c/\∀H',aJ H H'->Q (.int (ai.cont c)) H'
theorem GV(cx:bq P w K mg base "greatest_divisor" ["x","y"] 1 gf)(G:d9 K mg "content" wc ["polynomial"]):bq P w K mg base "content" ["polynomial"] 2 sf:=by
 have sc:=GU
 refine G.fg sc (fun vs H Q E ⟨v,c,e,_⟩=>by rw[e];rfl) fun f cdv A outer s H vs Q E hr h=> ?_
 obtain⟨v,c,rfl,⟨a,rfl,ha⟩,k⟩:=h
 refine⟨_,(aj (aI (i:=1) sc.nd rfl (by first|left;rfl|right;rfl) aF)
   (aj (c9 PassesOwn.never rfl (bS (pv 0)) (aM (i:=2) sc.nd rfl (Or.inl rfl)) (au (aI (i:=1) sc.nd rfl (by first|left;rfl|right;rfl) (aA cx (hr.mono (by decide)) rfl (aa (pv 1) (aa (pv 2) ah))))))
   (au (aB (pv 1))))),?_⟩
 refine⟨_,rfl,a,rfl,⟨_,.of ha⟩,gb (bT (K:=K) (.of ha)) (fun i σ H'=>∃z,aJ H H'/\σ=[some (.ref a),some (.int ((c.take i).foldl ai.m9 0)),z]) ⟨none,.refl _,rfl⟩ (fun i σ H' ⟨_,e,_⟩=>e) ?_ ?_⟩
 ·rintro i x σ H1 H2 hi ⟨z,s0,rfl⟩ s1 s2 hx
  obtain⟨y,hy,rfl⟩:=fA hx
  refine⟨_,rfl,_,rfl,_,_,rfl,some (.int y),s1,?_⟩
  rw[List.take_add_one,hy,List.foldl_append]
  rfl
 ·rintro σ H1 ⟨z,s1,rfl⟩
  refine⟨_,rfl,?_⟩
  rw[lMp,List.take_length]
  exact k H1 s1
abbrev i4:Stmt:=top 26
theorem Dr:aD ["polynomial","divisor","x"] ["polynomial"] (aq i4):=sco rfl rfl rfl rfl (by decide +kernel)
def uB:Sp:=fun vs H Q _=>∃v c,vs=[v]/\bP H v c/\Short c/\ai.Trim c/\nJ H Q (ai.prim c)
theorem Ds(hno:base.NoSeer)(htree:P.given.tree=none)(ij:bq P w K mg base "content" ["polynomial"] 2 sf)(G:d9 K mg "primitive" i4 ["polynomial"]):bq P w K mg base "primitive" ["polynomial"] 41 uB:=by
 have sc:=Dr
 refine G.fg sc (fun vs H Q E ⟨v,c,e,_⟩=>by rw[e];rfl) fun f cdv A outer s H vs Q E hr h=> ?_
 obtain⟨v,c,rfl,⟨a,rfl,ha⟩,hs,ht,k⟩:=h
 have Se:IZ (Cr HB P w K mg base ["polynomial","divisor","x"] "primitive" (aq i4) f cdv A outer s H E).NM:=⟨hno,htree,⟨_,outer,rfl,rfl,rfl,rfl,rfl⟩,by have:=hr.dp;show(A.deeper _).depth+100<_;lia⟩
 refine⟨_,(aj (aI (i:=1) sc.nd rfl (by first|left;rfl|right;rfl) (aA ij (hr.mono (by decide)) rfl (aa (pv 0) ah)))
   (au (aB (iW rfl sc.nd (bS (pv 0)) (bN (own:=[("x",2)]) (by show jo ["polynomial","divisor","x"] (aq i4) _ _=true;decide +kernel)) (fun _ _ _ _ _=>(aM (i:=2) sc.nd rfl (Or.inl rfl))) (fun _ _ _ _ _=>cH) (fun _ _ _ _ _=>(bu (Kw (IZ.AM Se)) (pv 2) (pv 1))))))),?_⟩
 refine⟨_,rfl,_,c,rfl,⟨a,rfl,ha⟩,fun H1 s1=> ?_⟩
 have ha1:=s1 _ _ ha
 refine⟨_,rfl,a,rfl,⟨_,.of ha1⟩,fun D hD=>ks (bT (.of ha1)) hD (fun i _ acc=>acc=(c.take i).map fun x=>V.int (x.fdiv (ai.cont c))) rfl ?_ ?_⟩
 ·rintro i x H2 H3 acc hi s2 hD1 hacc s3 s23 hD2 hx
  obtain⟨z,hz,rfl⟩:=fA hx
  have hc:ai.cont c≠0:=by
   rw[ai.gw]
   have:=ai.fK ht (fun e=>by rw[e] at hz;cases hz)
   lia
  refine⟨rfl,⟨_,rfl,_,rfl,_,_,rfl,rfl,hc,?_⟩⟩
  refine cT hD s3 hD2 ?_ ?_
  ·rw[hacc,lMp,List.length_take]
   unfold Short at hs
   exact aH (by lia)
  ·rw[hacc,bh _ _ _ _ hz]
 ·intro H2 acc s2 hD1 hacc
  refine k.of s1 D H2 hD s2 ?_
  rw[hD1,hacc,lMp,List.take_length]
  unfold ai.prim
  rw[List.map_map]
  rfl
abbrev fB:Stmt:=top 101
theorem sj:aD ["polynomial","factor","x"] ["polynomial","factor"] (aq fB):=sco rfl rfl rfl rfl (by decide +kernel)
def eI:Sp:=fun vs H Q _=>∃v c fa,vs=[v,.int fa]/\bP H v c/\Short c/\fa≠0/\fa.natAbs.log2<9000/\nJ H Q (ai.oF c fa)
theorem MN{c:List Int}{i:Nat}{x:V}(hi:i<c.length)(h:(c.map V.int)[c.length - 1 - i]? =some x):∃z,c.reverse[i]? =some z/\x= .int z:=by
 obtain⟨z,hz,e⟩:=fA h
 refine⟨z,?_,e⟩
 rw[List.getElem?_reverse hi]
 exact hz
theorem sk(T:Txt mg)(G:d9 K mg "told_polynomial" fB ["polynomial","factor"]):bq P w K mg base "told_polynomial" ["polynomial","factor"] 1 eI:=by
 have sc:=sj
 refine G.fg sc (fun vs H Q E ⟨v,c,fa,e,_⟩=>by rw[e];rfl) fun f cdv A outer s H vs Q E hr h=> ?_
 obtain⟨v,c,fa,rfl,⟨a,rfl,ha⟩,hs,hf,hf2,k⟩:=h
 unfold Short at hs
 refine⟨_,(au (aB (bu mY (aN (aa (aZ (bo K) rfl T.dE a6 (aa (pv 0) ah)) ah)) (iW rfl sc.nd (Eg rfl T.r9 (aa (pv 0) ah)) (bN (own:=[("x",2)]) (by show jo ["polynomial","factor","x"] (aq fB) _ _=true;decide +kernel)) (fun _ _ _ _ _=>(aM (i:=2) sc.nd rfl (Or.inl rfl))) (fun _ _ _ _ _=>cH) (fun _ _ _ _ _=>(bu yL (pv 2) (pv 1))))))),?_⟩
 refine⟨_,rfl,a,_,rfl,.inl (.of ha),ax (by simp),fun q hq=> ?_⟩
 have s1:=ay (o:= .lst [.int ((c.map V.int).length:Int)]) hq
 have ha1:=s1 _ _ ha
 have hq1:(upd H q (.lst [.int ((c.map V.int).length:Int)])) q=some (.lst [.int ((c.map V.int).length:Int)]):=ak
 refine⟨_,rfl,a,_,rfl,.of ha1,fun D hD=>ks (Oq (.of ha1)) hD (fun i _ acc=>acc=(c.reverse.take i).map fun x=>V.int (x.fdiv fa)) rfl ?_ ?_⟩
 ·rintro i x H2 H3 acc hi s2 hD1 hacc s3 s23 hD2 hx
  rw[lMp] at hx hi
  obtain⟨z,hz,rfl⟩:=MN hi hx
  refine⟨rfl,⟨_,rfl,_,rfl,_,_,rfl,rfl,⟨hf,hf2⟩,?_⟩⟩
  refine cT hD s3 hD2 ?_ ?_
  ·rw[hacc,lMp,List.length_take,List.length_reverse]
   exact aH (by lia)
  ·rw[hacc,bh _ _ _ _ hz]
 ·intro H2 acc s2 hD1 hacc
  refine⟨q,D,_,_,rfl,rfl,s2 _ _ hq1,hD1,?_,fun p hp=> ?_⟩
  ·rw[hacc,lMp,lMp,List.length_take,List.length_reverse]
   exact ax (by simp;lia)
  ·refine k.of (s1.trans s2) p _ hp (ay hp) ?_
   rw[ak,hacc,lMp]
   have e:c.reverse.take c.length=c.reverse:=by rw[<-List.length_reverse,List.take_length]
   rw[e]
   unfold ai.oF
   rw[List.map_cons,List.map_map]
   rfl
end
theorem Dt{l:List Int}(h:l≠[]):Ko (l.map V.int) (-1)=some (V.int (ai.lc l)):=by
 have hl:0<l.length:=List.length_pos_iff.mpr h
 unfold Ko Kn
 rw[lMp,if_neg (by decide),if_pos (by lia)]
 show(l.map V.int)[(-1+(l.length:Int)).toNat]? =_
 have e:(-1+(l.length:Int)).toNat=l.length - 1:=by lia
 rw[e,fF (by lia)]
 rfl
theorem Du{K:PySem.W.Frag}{H:Hp}{a:Addr}{l:List V}(h:H a=some (.lst l)):L9 K (.ref a) H (!l.isEmpty):= .inl ⟨_,.of h,rfl⟩
theorem fN{l:List Int}(h:l≠[]):(!(l.map V.int).isEmpty)=true:=by
 cases l with
 |nil=>exact absurd rfl h
 |cons=>rfl
section
variable {P:Program}{w:World}{K:PySem.W.Frag}{mg:Str->Option Value}{base:Heap}
abbrev nM:Stmt:=top 21
theorem AZ:aD ["left","right","result","low","x","high","y"] ["left","right"] (aq nM):=sco rfl rfl rfl rfl (by decide +kernel)
def md:Sp:=fun vs H Q _=>∃v u l r,vs=[v,u]/\bP H v l/\bP H u r/\Short l/\Short r/\(∀x∈l,∀y∈r,IntMulOk x y)/\nJ H Q (ai.de l r)
theorem A0(T:Txt mg)(G:d9 K mg "multiplied" nM ["left","right"]):bq P w K mg base "multiplied" ["left","right"] 1 md:=by
 have sc:=AZ
 refine G.fg sc (fun vs H Q E ⟨v,u,l,r,e,_⟩=>by rw[e];rfl) fun f cdv A outer s H vs Q E hr h=> ?_
 obtain⟨v,u,l,r,rfl,⟨a,rfl,ha⟩,⟨b,rfl,hb⟩,hl,hr',hm,k⟩:=h
 unfold Short at hl hr'
 refine⟨_,(aj (bK (PW.pt (DW (gy (bw K (pv 0) (fun _=>rfl))) (Cp (gy (bw K (pv 1) (fun _=>rfl)))))) (au (aB (aN ah))) aW)
   (aj (aI (i:=2) sc.nd rfl (by first|left;rfl|right;rfl) (bu Cz (aN (aa aF ah)) (bu jF (bu gO (aZ (bo K) rfl T.dE a6 (aa (pv 0) ah)) (aZ (bo K) rfl T.dE a6 (aa (pv 1) ah))) aF)))
   (aj (c9 PassesOwn.never rfl (mZ rfl T.dF (aa (pv 0) ah)) (gP K (n:=2) rfl (bM (aM (i:=3) sc.nd rfl (Or.inl rfl)) (bM (aM (i:=4) sc.nd rfl (Or.inl rfl)) gM))) (au (c9 PassesOwn.never rfl (mZ rfl T.dF (aa (pv 1) ah)) (gP K (n:=2) rfl (bM (aM (i:=5) sc.nd rfl (Or.inl rfl)) (bM (aM (i:=6) sc.nd rfl (Or.inl rfl)) gM))) (au (Cq (pv 2) (bu gO (pv 3) (pv 5)) rL (bu dQ (pv 4) (pv 6)) FY set_list)))))
   (au (aB (pv 2)))))),?_⟩
 refine⟨_,rfl,_,Du ha,?_⟩
 by_cases l0:l=[]
 ·subst l0
  refine bx (bx ⟨Nat.zero_le _,fun p hp=>k p _ hp (ay hp) ?_⟩)
  rw[ak];rfl
 rw[fN l0]
 refine bE ⟨_,rfl,_,Du hb,?_⟩
 by_cases r0:r=[]
 ·subst r0
  refine bx ⟨Nat.zero_le _,fun p hp=>k p _ hp (ay hp) ?_⟩
  rw[ak]
  unfold ai.de
  rw[if_pos (.inr rfl)];rfl
 rw[fN r0]
 refine bE ?_
 have pl:0<l.length:=List.length_pos_iff.mpr l0
 have pr:0<r.length:=List.length_pos_iff.mpr r0
 have em:ai.de l r=ai.mulL l r:=by
  unfold ai.de
  rw[if_neg fun h=>h.elim l0 r0]
 rw[em] at k
 have n:=ai.dZ l r l0 r0
 refine⟨ax (by simp),fun q hq=> ?_⟩
 have s1:aJ H (upd H q (.lst [.int 0])):=ay hq
 refine⟨_,rfl,a,_,rfl,.inl (.of (s1 _ _ ha)),_,rfl,b,_,rfl,.inl (.of (s1 _ _ hb)),_,_,rfl,rfl,_,_,rfl,rfl,?_⟩
 rw[lMp,lMp]
 generalize hn:l.length+r.length - 1=m at n
 have en:((l.length:Int)+(r.length:Int) - 1).toNat=m:=by lia
 refine⟨q,_,_,rfl,rfl,ak,by lia,by lia,ax (by simp;lia),fun p hp=> ?_⟩
 rw[en,yB]
 have hpH:H p=none:=s1.free hp
 have s2:=s1.trans (ay (o:= .lst (arr m fun _=>0)) hp)
 refine⟨_,rfl,a,_,rfl,.of (s2 _ _ ha),gb (m5 (K:=K) (.of ha)) (fun i σ H'=>∃x3 x4 x5 x6,σ=[some (.ref a),some (.ref b),some (.ref p),x3,x4,x5,x6]/\aJ H H'/\H' p=some (.lst (arr m fun j=>(ai.mulL (l.take i) r).getD j 0))) ?_ (fun i σ H' ⟨_,_,_,_,_,s,_⟩=>s) ?_ ?_⟩
 ·exact⟨none,none,none,none,rfl,s2,by rw[ak];rfl⟩
 ·rintro i x σ H1 H2 hi ⟨x3,x4,x5,x6,rfl,s3,hp1⟩ s4 s12 ⟨t,y,rfl,ht,hy⟩
  obtain⟨z,hz,rfl⟩:=fA hy
  have hil:=cG hz
  have eT:l.take (i+1)=l.take i ++ [z]:=by rw[List.take_add_one,hz];rfl
  have lT:(l.take i).length=i:=by rw[List.length_take];lia
  refine⟨t,_,rfl,.of ht,rfl,_,_,rfl,_,_,rfl,rfl,?_⟩
  refine⟨_,rfl,b,_,rfl,.of (s4 _ _ hb),gb (m5 (K:=K) (.of hb)) (fun h σ H'=>∃x5 x6,σ=[some (.ref a),some (.ref b),some (.ref p),some (.int (i:Nat)),some (.int z),x5,x6]/\aJ H H'/\H' p=some (.lst (arr m fun j=>(ai.mulL (l.take i) r).getD j 0+if i<=j/\j<i+h then z*r.getD (j - i) 0 else 0))) ?_ (fun i σ H' ⟨_,_,_,s,_⟩=>s) ?_ ?_⟩
  ·refine⟨_,_,rfl,s4,?_⟩
   rw[s12 _ _ hp1]
   refine congrArg (fun q=>some (HO.lst q)) (cM fun j hj=> ?_)
   rw[if_neg (by lia)];lia
  ·rintro h x σ H3 H4 hh ⟨x5,x6,rfl,s5,hp3⟩ s6 s34 ⟨t2,y2,rfl,ht2,hy2⟩
   obtain⟨z2,hz2,rfl⟩:=fA hy2
   have hhl:=cG hz2
   have hp4:=s34 _ _ hp3
   refine⟨t2,_,rfl,.of ht2,rfl,_,_,rfl,_,_,rfl,rfl,?_⟩
   refine⟨_,rfl,_,rfl,_,rfl,_,_,rfl,rfl,p,_,_,i+h,_,rfl,rfl,.of hp4,by lia,lF (by lia),_,rfl,_,rfl,_,_,rfl,rfl,hm z (List.mem_of_getElem? hz) z2 (List.mem_of_getElem? hz2),_,_,rfl,rfl,p,_,_,i+h,rfl,rfl,hp4,m6 (by lia) (by rw[fW];lia),?_⟩
   refine⟨_,_,rfl,s6.over hpH,?_⟩
   rw[ak,uA]
   refine congrArg (fun q=>some (HO.lst q)) (cM fun j hj=> ?_)
   by_cases e:j=i+h
   ·subst e
    rw[if_pos rfl,if_neg (by lia),if_pos (by lia)]
    have e2:i+h - i=h:=by lia
    rw[e2,gDe (l:=r),hz2]
    simp
   ·rw[if_neg e]
    by_cases e2:i<=j/\j<i+h
    ·rw[if_pos e2,if_pos (by lia)]
    ·rw[if_neg e2,if_neg (by lia)]
  ·rintro σ H3 ⟨x5,x6,rfl,s5,hp3⟩
   refine⟨_,_,_,_,rfl,s5,?_⟩
   rw[hp3]
   refine congrArg (fun q=>some (HO.lst q)) (cM fun j hj=> ?_)
   rw[eT,ai.eZ,lT,lMp]
   by_cases e:i<=j
   ·rw[if_pos e]
    by_cases e2:j<i+r.length
    ·rw[if_pos ⟨e,e2⟩]
    ·rw[if_neg (fun h=>e2 h.2),gDe (l:=r),List.getElem?_eq_none (by lia)]
     simp
   ·rw[if_neg e,if_neg (fun h=>e h.1)]
 ·rintro σ H1 ⟨x3,x4,x5,x6,rfl,s3,hp1⟩
  refine⟨_,rfl,k p H1 hpH s3 ?_⟩
  rw[hp1,lMp,List.take_length,zY (l:=ai.mulL l r) n]
abbrev we:Stmt:=top 22
theorem GW:aD ["left","right","rest","result","shift","factor","power","y"] ["left","right"] (aq we):=sco rfl rfl rfl rfl (by decide +kernel)
def sr:Sp:=fun vs H Q _=>∃v u l r m,vs=[v,u]/\bP H v l/\bP H u r/\Short l/\Short r/\ai.Trim l/\ai.Trim r/\ai.Trim m/\r≠[]/\ai.aG l=ai.aG m*ai.aG r/\(ai.lc r).natAbs.log2<9000/\(∀x∈m,∀y∈r,IntMulOk x y)/\nJ H Q m
theorem GX(T:Txt mg)(G:d9 K mg "divided" we ["left","right"]):bq P w K mg base "divided" ["left","right"] 1 sr:=by
 have sc:=GW
 refine G.fg sc (fun vs H Q E ⟨v,u,l,r,m,e,_⟩=>by rw[e];rfl) fun f cdv A outer s H vs Q E hr h=> ?_
 obtain⟨v,u,l,r,m,rfl,⟨a,rfl,ha⟩,⟨b,rfl,hb⟩,hl,hr',tl,tr,tm,r0,hlm,hlc,hmul,k⟩:=h
 unfold Short at hl hr'
 refine⟨_,(aj (bK (gy (bw K (pv 0) (fun _=>rfl))) (au (aB (aN ah))) aW)
   (aj (aI (i:=2) sc.nd rfl (by first|left;rfl|right;rfl) (vF (rM K) rfl T.zV pJ (aa (pv 0) ah)))
   (aj (aI (i:=3) sc.nd rfl (by first|left;rfl|right;rfl) (bu Cz (aN (aa aF ah)) (bu gO (bu jF (aZ (bo K) rfl T.dE a6 (aa (pv 0) ah)) (aZ (bo K) rfl T.dE a6 (aa (pv 1) ah))) aF)))
   (aj (c9 PassesOwn.never rfl (Bx rfl T.gx (aa (bu jF (aZ (bo K) rfl T.dE a6 (aa (pv 3) ah)) aF) (aa (gN eC aF) (aa (gN eC aF) ah)))) (aM (i:=4) sc.nd rfl (Or.inl rfl)) (aj (aI (i:=5) sc.nd rfl (by first|left;rfl|right;rfl) (bu yL (aY (fE K) (pv 2) (bu jF (bu gO (pv 4) (aZ (bo K) rfl T.dE a6 (aa (pv 1) ah))) aF) (fun _ _=>rfl)) (aY (fE K) (pv 1) (gN eC aF) (fun _ _=>rfl))))
   (aj (vC (pv 5) (vB (pv 3) (pv 4) set_list))
   (au (c9 PassesOwn.never rfl (mZ rfl T.dF (aa (pv 1) ah)) (gP K (n:=2) rfl (bM (aM (i:=6) sc.nd rfl (Or.inl rfl)) (bM (aM (i:=7) sc.nd rfl (Or.inl rfl)) gM))) (au (Cq (pv 2) (bu gO (pv 4) (pv 6)) rL (bu dQ (pv 5) (pv 7)) Kc set_list)))))))
   (au (aB (pv 3))))))),?_⟩
 refine⟨_,rfl,_,Du ha,?_⟩
 by_cases l0:l=[]
 ·subst l0
  have m0:m=[]:=by
   have z:ai.aG m*ai.aG r=0:=hlm.symm
   by_cases q:m=[]
   ·exact q
   ·exact absurd z (ai.PF.vO (fun e=>q ((ai.bW tm).mp e)) (fun e=>r0 ((ai.bW tr).mp e)))
  subst m0
  exact bx ⟨Nat.zero_le _,fun p hp=>k p _ hp (ay hp) (by rw[ak];rfl)⟩
 rw[fN l0]
 refine bE ?_
 have m0:m≠[]:=fun e=>l0 ((ai.bW tl).mp (by
  rw[hlm,e]
  show(0:ai.PF)*_=0
  grind))
 have el:l=ai.mulL m r:=by
  have t:ai.Trim (ai.mulL m r):=by
   have:=ai.mJ tm tr
   unfold ai.de at this
   rwa [if_neg (fun h=>h.elim m0 r0)] at this
  exact ai.kZ tl t (by rw[hlm,ai.fI])
 have ll:l.length=m.length+r.length - 1:=by rw[el];exact ai.dZ m r m0 r0
 have pm:0<m.length:=List.length_pos_iff.mpr m0
 have pr:0<r.length:=List.length_pos_iff.mpr r0
 have lcn:=ai.bO.mp tr r0
 refine⟨_,rfl,a,_,rfl,.inl (.of ha),fun c hc=> ?_⟩
 have s0:aJ H (upd H c (.lst (l.map V.int))):=ay hc
 refine⟨ax (by simp),fun q hq=> ?_⟩
 have s1:=s0.trans (ay (o:= .lst [.int 0]) hq)
 refine⟨_,rfl,a,_,rfl,.inl (.of (s1 _ _ ha)),_,rfl,b,_,rfl,.inl (.of (s1 _ _ hb)),_,_,rfl,rfl,_,_,rfl,rfl,?_⟩
 rw[lMp,lMp]
 have en:((l.length:Int) - (r.length:Int)+1).toNat=m.length:=by lia
 refine⟨q,_,_,rfl,rfl,ak,by lia,by lia,ax (by simp;lia),fun p hp=> ?_⟩
 rw[en,yB]
 have hpH:H p=none:=s1.free hp
 have s2:=s1.trans (ay (o:= .lst (arr m.length fun _=>0)) hp)
 have cp:c≠p:=fun e=>by
  rw[e] at hp
  exact absurd hp (by
   rw[<-e,aR,ak]
   ·simp
   ·intro e2
    rw[<-e2] at hq
    rw[ak] at hq
    cases hq)
 have hcq:(upd (upd (upd H c (.lst (l.map V.int))) q (.lst [.int 0])) p (.lst (arr m.length fun _=>0))) c=some (.lst (l.map V.int)):=by
  rw[aR cp,aR,ak]
  intro e2
  rw[<-e2,ak] at hq
  cases hq
 refine⟨_,rfl,p,_,rfl,.inl (.of ak),_,_,rfl,rfl,_,rfl,_,rfl,_,_,_,m.length,rfl,?_,?_⟩
 ·have e:=Qi.neg (i:=(m.length:Int) - 1) (j:= -1) (by lia) (by lia) (by lia) (by lia)
  rw[fW]
  have e2:((m.length:Int) - 1 - -1).toNat=m.length:=by lia
  rw[e2] at e
  exact e
 rw[fW]
 refine gb (By _ _ _ _) (fun i σ H'=>∃x4 x5 x6 x7,σ=[some (.ref a),some (.ref b),some (.ref c),some (.ref p),x4,x5,x6,x7]/\i<=m.length/\aJ H H'/\H' c=some (.lst (arr l.length fun j=>(ai.mulL (m.take (m.length - i)) r).getD j 0))/\H' p=some (.lst (arr m.length fun j=>if m.length - i<=j then m.getD j 0 else 0))) ?_ (fun i σ H' ⟨_,_,_,_,_,_,s,_⟩=>s) ?_ ?_
 ·refine⟨none,none,none,none,rfl,Nat.zero_le _,s2,?_,?_⟩
  ·rw[hcq,Nat.sub_zero,List.take_length,<-el,zY (l:=l) rfl]
  ·rw[ak]
   refine congrArg (fun q=>some (HO.lst q)) (cM fun j hj=> ?_)
   rw[if_neg (by lia)]
 ·rintro i x σ H1 H2 hi ⟨x4,x5,x6,x7,rfl,hi2,s3,hc1,hp1⟩ s4 s12 rfl
  obtain⟨t,et⟩:∃t,m.length - i=t+1:=⟨m.length - i - 1,by lia⟩
  have et2:m.length - (i+1)=t:=by lia
  rw[et] at hc1 hp1
  have hsh:(m.length:Int) - 1+(i:Nat)*(-1)=(t:Int):=by lia
  have hc2:=s12 _ _ hc1
  have hp2:=s12 _ _ hp1
  have eT:m.take (t+1)=m.take t ++ [m.getD t 0]:=ai.yV m t (by lia)
  have lT:(m.take t).length=t:=by rw[List.length_take];lia
  have ef:((ai.mulL (m.take (t+1)) r).getD (t+r.length - 1) 0).fdiv (ai.lc r)=m.getD t 0:=by
   rw[eT,ai.eZ,lT,ai.vR (m.take t) r _ r0 (by lia),if_pos (by lia)]
   have e:t+r.length - 1 - t=r.length - 1:=by lia
   rw[e]
   show(0+m.getD t 0*ai.lc r).fdiv (ai.lc r)=_
   rw[Int.zero_add,Int.mul_fdiv_cancel _ lcn]
  rw[hsh]
  refine⟨_,rfl,_,rfl,_,rfl,b,_,rfl,.inl (.of (s4 _ _ hb)),_,_,rfl,rfl,_,_,rfl,rfl,c,_,_,_,rfl,rfl,.of hc2,aS (j:=t+r.length - 1) (by rw[lMp];lia) (lF (by lia)),?_⟩
  refine⟨_,rfl,_,rfl,b,_,_,_,rfl,rfl,.of (s4 _ _ hb),Dt r0,_,_,rfl,rfl,⟨lcn,hlc⟩,?_⟩
  dsimp only[]
  rw[ef]
  refine⟨_,rfl,_,rfl,_,rfl,p,_,_,t,rfl,rfl,hp2,m6 rfl (by rw[fW];lia),?_⟩
  have cp':c≠p:=cp
  have s5:aJ H (upd H2 p (.lst ((arr m.length fun j=>if t+1<=j then m.getD j 0 else 0).set t (.int (m.getD t 0))))):=s4.over hpH
  have hcH:H c=none:=hc
  refine⟨_,rfl,b,_,rfl,.of (s5 _ _ hb),gb (m5 (K:=K) (.of hb)) (fun h σ H'=>∃x6 x7,σ=[some (.ref a),some (.ref b),some (.ref c),some (.ref p),some (.int (t:Int)),some (.int (m.getD t 0)),x6,x7]/\aJ H H'/\H' p=some (.lst (arr m.length fun j=>if t<=j then m.getD j 0 else 0))/\H' c=some (.lst (arr l.length fun j=>(ai.mulL (m.take (t+1)) r).getD j 0 - if t<=j/\j<t+h then m.getD t 0*r.getD (j - t) 0 else 0))) ?_ (fun i σ H' ⟨_,_,_,s,_⟩=>s) ?_ ?_⟩
  ·refine⟨_,_,rfl,s5,?_,?_⟩
   ·rw[ak,uA]
    refine congrArg (fun q=>some (HO.lst q)) (cM fun j hj=> ?_)
    by_cases e:j=t
    ·rw[if_pos e,if_pos (by lia),e]
    ·rw[if_neg e]
     by_cases e2:t+1<=j
     ·rw[if_pos e2,if_pos (by lia)]
     ·rw[if_neg e2,if_neg (by lia)]
   ·rw[aR cp',hc2]
    refine congrArg (fun q=>some (HO.lst q)) (cM fun j hj=> ?_)
    rw[if_neg (by lia)];lia
  ·rintro h x σ H3 H4 hh ⟨x6,x7,rfl,s6,hp3,hc3⟩ s7 s34 ⟨t2,y2,rfl,ht2,hy2⟩
   obtain⟨z2,hz2,rfl⟩:=fA hy2
   have hhl:=cG hz2
   have hc4:=s34 _ _ hc3
   refine⟨t2,_,rfl,.of ht2,rfl,_,_,rfl,_,_,rfl,rfl,?_⟩
   have hmm:m.getD t 0∈m:=List.mem_of_getElem? (az (d:=0) (by lia))
   refine⟨_,rfl,_,rfl,_,rfl,_,_,rfl,rfl,c,_,_,t+h,_,rfl,rfl,.of hc4,by lia,lF (by lia),_,rfl,_,rfl,_,_,rfl,rfl,hmul _ hmm z2 (List.mem_of_getElem? hz2),_,_,rfl,rfl,c,_,_,t+h,rfl,rfl,hc4,m6 (by lia) (by rw[fW];lia),?_⟩
   refine⟨_,_,rfl,s7.over hcH,?_,?_⟩
   ·rw[aR (Ne.symm cp')]
    exact s34 _ _ hp3
   ·rw[ak,uA]
    refine congrArg (fun q=>some (HO.lst q)) (cM fun j hj=> ?_)
    by_cases e:j=t+h
    ·subst e
     rw[if_pos rfl,if_neg (by lia),if_pos (by lia)]
     have e2:t+h - t=h:=by lia
     rw[e2,gDe (l:=r),hz2]
     simp
    ·rw[if_neg e]
     by_cases e2:t<=j/\j<t+h
     ·rw[if_pos e2,if_pos (by lia)]
     ·rw[if_neg e2,if_neg (by lia)]
  ·rintro σ H3 ⟨x6,x7,rfl,s6,hp3,hc3⟩
   refine⟨_,_,_,_,rfl,by lia,s6,?_,?_⟩
   ·rw[hc3,et2]
    refine congrArg (fun q=>some (HO.lst q)) (cM fun j hj=> ?_)
    rw[eT,ai.eZ,lT,lMp]
    by_cases e:t<=j
    ·rw[if_pos e]
     by_cases e2:j<t+r.length
     ·rw[if_pos ⟨e,e2⟩];lia
     ·rw[if_neg (fun h=>e2 h.2),gDe (l:=r),List.getElem?_eq_none (by lia)]
      simp
    ·rw[if_neg e,if_neg (fun h=>e h.1)];lia
   ·rw[hp3,et2]
 ·rintro σ H1 ⟨x4,x5,x6,x7,rfl,hi2,s3,hc1,hp1⟩
  refine⟨_,rfl,k p H1 hpH s3 ?_⟩
  rw[hp1,zY (l:=m) rfl]
  refine congrArg (fun q=>some (HO.lst q)) (cM fun j hj=> ?_)
  rw[if_pos (by lia)]
end
def QA:Nat->List Int->List Int->Prop
 |0,_,_=>True
 |f+1,rest,right=>rest.length<right.length\/((∀x∈rest,IntMulOk (ai.lc right) x)/\(∀y∈right,IntMulOk (ai.lc rest) y)/\QA f (ai.hU rest right) right)
def QB:Nat->List Int->List Int->Prop
 |0,_,_=>True
 |f+1,l,s=>s=[]\/(QA (l.length+1) l s/\QB f s (ai.prim (ai.c5 l s)))
structure Rr(T B:List Int):Prop where
 chain:QB (B.length+1) (ai.prim T) (ai.prim B)
 Sf:(ai.lc (ai.lg T B)).natAbs.log2<9000
 mA:∀x∈ai.ja T (ai.lg T B),∀y∈ai.lg T B,IntMulOk x y
 mB:∀x∈ai.ja B (ai.lg T B),∀y∈ai.lg T B,IntMulOk x y
 Sg:(ai.m9 (ai.cont (ai.ja T (ai.lg T B))) (ai.cont (ai.ja B (ai.lg T B)))).natAbs.log2<9000
 lT:(ai.ja T (ai.lg T B)).length<1000000
 lB:(ai.ja B (ai.lg T B)).length<1000000
 lG:(ai.lg T B).length<1000000
section
variable {P:Program}{w:World}{K:PySem.W.Frag}{mg:Str->Option Value}{base:Heap}
abbrev dG:Stmt:=top 27
theorem su:aD ["left","right","rest","shift","taken","y","x"] ["left","right"] (aq dG):=sco rfl rfl rfl rfl (by decide +kernel)
def jR:Sp:=fun vs H Q _=>∃v u l r,vs=[v,u]/\bP H v l/\bP H u r/\Short l/\Short r/\ai.Trim l/\r≠[]/\QA (l.length+1) l r/\∀z H',aJ H H'->bP H' z (ai.c5 l r)->Q z H'
theorem sv(T:Txt mg)(cV:bq P w K mg base "subtracted" ["left","right"] 3 iS)(G:d9 K mg "whole_remainder" dG ["left","right"]):bq P w K mg base "whole_remainder" ["left","right"] 4 jR:=by
 have sc:=su
 refine G.fg sc (fun vs H Q E ⟨v,u,l,r,e,_⟩=>by rw[e];rfl) fun f cdv A outer s H vs Q E hr h=> ?_
 obtain⟨v,u,l,r,rfl,pl,⟨b,rfl,hb⟩,hl,hr',tl,r0,wk,k⟩:=h
 unfold Short at hl hr'
 have pr:0<r.length:=List.length_pos_iff.mpr r0
 refine⟨_,(aj (aI (i:=2) sc.nd rfl (by first|left;rfl|right;rfl) (pv 0))
   (aj (tx PassesOwn.never (bc Kf (aZ (bo K) rfl T.dE a6 (aa (pv 2) ah)) (aZ (bo K) rfl T.dE a6 (aa (pv 1) ah)) (a5 _)) (aj (aI (i:=3) sc.nd rfl (by first|left;rfl|right;rfl) (bu jF (aZ (bo K) rfl T.dE a6 (aa (pv 2) ah)) (aZ (bo K) rfl T.dE a6 (aa (pv 1) ah))))
   (aj (aI (i:=4) sc.nd rfl (by first|left;rfl|right;rfl) (bu mY (bu Cz (aN (aa aF ah)) (pv 3)) (iW rfl sc.nd (bS (pv 1)) (bN (own:=[("y",5)]) (by show jo ["left","right","rest","shift","taken","y","x"] (aq dG) _ _=true;decide +kernel)) (fun _ _ _ _ _=>(aM (i:=5) sc.nd rfl (Or.inl rfl))) (fun _ _ _ _ _=>cH) (fun _ _ _ _ _=>(bu dQ (aY (fE K) (pv 2) (gN eC aF) (fun _ _=>rfl)) (pv 5))))))
   (au (aI (i:=2) sc.nd rfl (by first|left;rfl|right;rfl) (aA cV (hr.mono (by decide)) rfl (aa (iW rfl sc.nd (bS (pv 2)) (bN (own:=[("x",6)]) (by show jo ["left","right","rest","shift","taken","y","x"] (aq dG) _ _=true;decide +kernel)) (fun _ _ _ _ _=>(aM (i:=6) sc.nd rfl (Or.inl rfl))) (fun _ _ _ _ _=>cH) (fun _ _ _ _ _=>(bu dQ (aY (fE K) (pv 1) (gN eC aF) (fun _ _=>rfl)) (pv 6)))) (aa (pv 4) ah))))))))
   (au (aB (pv 2))))),?_⟩
 refine⟨_,rfl,fun m σ H'=>∃z rest g x3 x4,σ=[some v,some (.ref b),some z,x3,x4,none,none]/\aJ H H'/\bP H' z rest/\rest.length=m/\m<=l.length/\rest.length<g/\ai.Trim rest/\QA g rest r/\ai.vP g rest r=ai.c5 l r,⟨l.length,v,l,l.length+1,none,none,rfl,.refl _,pl,rfl,Nat.le_refl _,by lia,tl,wk,rfl⟩,?_⟩
 rintro m σ H1 ⟨z,rest,g,x3,x4,rfl,s1,⟨a,rfl,ha⟩,hm,hml,hg,tre,wk',hw⟩
 obtain⟨g,rfl⟩:∃g',g=g' +1:=⟨g - 1,by lia⟩
 have hb1:=s1 _ _ hb
 refine⟨_,rfl,a,_,rfl,.inl (.of ha),_,rfl,b,_,rfl,.inl (.of hb1),_,_,rfl,rfl,_,rfl,?_⟩
 rw[lMp,lMp]
 by_cases hlt:rest.length<r.length
 ·rw[decide_eq_false (show ¬(rest.length:Int) ≥ (r.length:Int) by lia)]
  refine bE ⟨_,rfl,k _ H1 s1 ⟨a,rfl,?_⟩⟩
  have e:ai.vP (g+1) rest r=rest:=if_pos hlt
  rw[<-hw,e];exact ha
 ·rw[decide_eq_true (show(rest.length:Int) ≥ (r.length:Int) by lia)]
  obtain⟨m1,m2,m3⟩:=wk'.resolve_left hlt
  have rest0:rest≠[]:=fun e=>hlt (by rw[e];exact pr)
  refine bx ⟨fun σ' H'=>∃z rest' x3 x4,σ'=[some v,some (.ref b),some z,x3,x4,none,none]/\aJ H H'/\bP H' z rest'/\rest'=ai.hU rest r,?_,?_⟩
  ·rintro σ' H' ⟨z,rest',x3,x4,rfl,s2,pz,rfl⟩
   have ws:=ai.zy (rest:=rest) (right:=r) (by lia) r0
   refine⟨_,by rw[<-hm];exact ws.2.1,z,_,g,x3,x4,rfl,s2,pz,rfl,by have:=ws.2.1;lia,by have:=ws.2.1;lia,ws.2.2,m3,?_⟩
   rw[<-hw]
   show _=if rest.length<r.length then rest else ai.vP g (ai.hU rest r) r
   rw[if_neg hlt]
  refine⟨_,rfl,a,_,rfl,.inl (.of ha),_,rfl,b,_,rfl,.inl (.of hb1),_,_,rfl,rfl,?_⟩
  refine⟨ax (by simp),fun q hq=> ?_⟩
  have s2:aJ H1 (upd H1 q (.lst [.int 0])):=ay hq
  refine⟨_,rfl,q,_,_,rfl,rfl,ak,by rw[lMp,lMp];lia,by rw[lMp,lMp];lia,ax (by simp;lia),fun p hp=> ?_⟩
  have en:((rest.length:Int) - (r.length:Int)).toNat=rest.length - r.length:=by lia
  rw[lMp,lMp,en,yB]
  have s3:=s2.trans (ay (o:= .lst (arr (rest.length - r.length) fun _=>0)) hp)
  have hb3:=s3 _ _ hb1
  have ha3:=s3 _ _ ha
  have hp3:(upd (upd H1 q (.lst [.int 0])) p (.lst (arr (rest.length - r.length) fun _=>0))) p=some (.lst (arr (rest.length - r.length) fun _=>0)):=ak
  generalize hH3:upd (upd H1 q (.lst [.int 0])) p (.lst (arr (rest.length - r.length) fun _=>0))=H3 at s3 hb3 ha3 hp3
  refine⟨_,rfl,b,rfl,⟨_,.of hb3⟩,fun D hD=>ks (bT (.of hb3)) hD (fun i _ acc=>acc=(r.take i).map fun y=>V.int (ai.lc rest*y)) rfl ?_ ?_⟩
  ·rintro i x H4 H5 acc hi s4 hD1 hacc s5 s45 hD2 hx
   obtain⟨y,hy,rfl⟩:=fA hx
   refine⟨rfl,⟨_,rfl,_,rfl,a,_,_,_,rfl,rfl,.of (s5 _ _ ha3),Dt rest0,_,rfl,_,_,rfl,rfl,m2 y (List.mem_of_getElem? hy),?_⟩⟩
   refine cT hD s5 hD2 ?_ ?_
   ·rw[hacc,lMp,List.length_take]
    exact aH (by lia)
   ·rw[hacc,bh _ _ _ _ hy]
  ·intro H4 acc s4 hD1 hacc
   rw[lMp,List.take_length] at hacc
   refine⟨p,D,_,_,rfl,rfl,s4 _ _ hp3,hD1,by rw[hacc,fW,lMp];exact ax (by lia),fun t ht=> ?_⟩
   have s5:=(s3.trans s4).trans (ay (o:= .lst (arr (rest.length - r.length) (fun _=>0) ++ acc)) ht)
   have htk:(upd H4 t (.lst (arr (rest.length - r.length) (fun _=>0) ++ acc))) t=some (.lst (arr (rest.length - r.length) (fun _=>0) ++ acc)):=ak
   have ha5:=s5 _ _ ha
   have hb5:=s5 _ _ hb1
   generalize hH5:upd H4 t (.lst (arr (rest.length - r.length) (fun _=>0) ++ acc))=H5 at s5 htk ha5 hb5
   refine⟨_,rfl,a,rfl,⟨_,.of ha5⟩,fun D2 hD2=>ks (bT (.of ha5)) hD2 (fun i _ acc=>acc=(rest.take i).map fun y=>V.int (ai.lc r*y)) rfl ?_ ?_⟩
   ·rintro i x H6 H7 acc2 hi s6 hD3 hacc2 s7 s67 hD4 hx
    obtain⟨y,hy,rfl⟩:=fA hx
    refine⟨rfl,⟨_,rfl,_,rfl,b,_,_,_,rfl,rfl,.of (s7 _ _ hb5),Dt r0,_,rfl,_,_,rfl,rfl,m1 y (List.mem_of_getElem? hy),?_⟩⟩
    refine cT hD2 s7 hD4 ?_ ?_
    ·rw[hacc2,lMp,List.length_take]
     exact aH (by lia)
    ·rw[hacc2,bh _ _ _ _ hy]
   ·intro H6 acc2 s6 hD3 hacc2
    rw[lMp,List.take_length] at hacc2
    refine⟨_,rfl,?_⟩
    have e1:acc2=(rest.map fun x=>ai.lc r*x).map V.int:=by rw[hacc2,List.map_map];rfl
    have e2:arr (rest.length - r.length) (fun _=>0) ++ acc=(List.replicate (rest.length - r.length) 0 ++ r.map fun y=>ai.lc rest*y).map V.int:=by
     have e3:arr (rest.length - r.length) (fun _=>0)=(List.replicate (rest.length - r.length) (0:Int)).map V.int:=by
      rw[zY (l:=List.replicate (rest.length - r.length) 0) (n:=rest.length - r.length) (by simp)]
      refine cM fun j hj=> ?_
      rw[gDe,List.getElem?_replicate]
      split <;>rfl
     rw[List.map_append,hacc,List.map_map,e3]
     rfl
    refine⟨_,_,_,_,rfl,⟨D2,rfl,by rw[hD3,e1]⟩,⟨t,rfl,by rw[s6 _ _ htk,e2]⟩,?_,?_,fun z H' hz s8 hzz=> ?_⟩
    ·unfold Short;rw[lMp];lia
    ·unfold Short;rw[List.length_append,List.length_replicate,lMp];lia
    ·exact⟨.ref z,_,_,_,rfl,((s1.trans s5).trans s6).trans s8,⟨z,rfl,hzz⟩,rfl⟩
abbrev ik:Stmt:=top 28
theorem uC:aD ["left","right","large","small","rest"] ["left","right"] (aq ik):=sco rfl rfl rfl rfl (by decide +kernel)
def lH:Sp:=fun vs H Q _=>∃v u l r,vs=[v,u]/\bP H v l/\bP H u r/\Short l/\Short r/\ai.Trim l/\ai.Trim r/\QB (r.length+1) (ai.prim l) (ai.prim r)/\∀z H',aJ H H'->bP H' z (ai.lg l r)->Q z H'
theorem Ls{l s:List Int}(ts:ai.Trim s)(tl:ai.Trim l)(hs:s≠[]):(ai.c5 l s).length<s.length/\ai.Trim (ai.c5 l s):=by
 obtain⟨_,_,_,_,h1,h2⟩:=ai.uh hs ts (l.length+1) l tl (by lia)
 exact⟨h1,h2⟩
theorem uD(i5:bq P w K mg base "primitive" ["polynomial"] 41 uB)(gT:bq P w K mg base "whole_remainder" ["left","right"] 4 jR)(G:d9 K mg "common_divisor" ik ["left","right"]):bq P w K mg base "common_divisor" ["left","right"] 42 lH:=by
 have sc:=uC
 refine G.fg sc (fun vs H Q E ⟨v,u,l,r,e,_⟩=>by rw[e];rfl) fun f cdv A outer s H vs Q E hr h=> ?_
 obtain⟨v,u,l,r,rfl,pl,pr,hl,hr',tl,tr,ck,k⟩:=h
 refine⟨_,(aj (aI (i:=2) sc.nd rfl (by first|left;rfl|right;rfl) (aA i5 (hr.mono (by decide)) rfl (aa (pv 0) ah)))
   (aj (aI (i:=3) sc.nd rfl (by first|left;rfl|right;rfl) (aA i5 (hr.mono (by decide)) rfl (aa (pv 1) ah)))
   (aj (tx PassesOwn.never (bw K (pv 3) (fun _=>rfl)) (aj (aI (i:=4) sc.nd rfl (by first|left;rfl|right;rfl) (aA i5 (hr.mono (by decide)) rfl (aa (aA gT (hr.mono (by decide)) rfl (aa (pv 2) (aa (pv 3) ah))) ah)))
   (aj (aI (i:=2) sc.nd rfl (by first|left;rfl|right;rfl) (pv 3))
   (au (aI (i:=3) sc.nd rfl (by first|left;rfl|right;rfl) (pv 4))))))
   (au (aB (pv 2)))))),?_⟩
 refine⟨_,rfl,_,_,rfl,pl,hl,tl,fun a H1 ha s1 ha1=> ?_⟩
 refine⟨_,rfl,_,_,rfl,pr.same s1,hr',tr,fun b H2 hb s2 hb2=> ?_⟩
 unfold Short at hl hr'
 refine⟨fun m σ H'=>∃x y g p q z,σ=[some v,some u,some x,some y,z]/\aJ H H'/\bP H' x p/\bP H' y q/\q.length=m/\p.length<1000000/\q.length<1000000/\ai.Trim p/\ai.Trim q/\q.length<g/\QB g p q/\ai.xP g p q=ai.lg l r,⟨_,.ref a,.ref b,r.length+1,_,_,none,rfl,s1.trans s2,⟨a,rfl,s2 _ _ ha1⟩,⟨b,rfl,hb2⟩,rfl,by rw[ai.c6];exact hl,by rw[ai.c6];exact hr',ai.d3 tl,ai.d3 tr,by rw[ai.c6];lia,ck,rfl⟩,?_⟩
 rintro m σ H3 ⟨x,y,g,p,q,z,rfl,s3,px,⟨yb,rfl,hy⟩,hm,lp,lq,tp,tq,hg,ck',hcd⟩
 obtain⟨g,rfl⟩:∃g',g=g' +1:=⟨g - 1,by lia⟩
 refine⟨_,rfl,_,Du hy,?_⟩
 by_cases q0:q=[]
 ·subst q0
  refine bE ⟨_,rfl,k _ _ s3 ?_⟩
  have e:ai.xP (g+1) p []=p:=if_pos rfl
  rw[<-hcd,e]
  exact px
 ·rw[fN q0]
  obtain⟨c1,c2⟩:=ck'.resolve_left q0
  obtain⟨w1,w2⟩:=Ls tq tp q0
  refine bx ⟨_,fun σ' H' q=>q,_,rfl,_,rfl,_,_,_,_,rfl,px,⟨yb,rfl,hy⟩,lp,lq,tp,q0,c1,fun z1 H4 s4 pz=> ?_⟩
  refine⟨_,_,rfl,pz,by unfold Short;lia,w2,fun c H5 hc s5 hc5=> ?_⟩
  refine⟨_,rfl,_,rfl,_,by rw[<-hm];exact w1,.ref yb,.ref c,g,q,_,some (.ref c),rfl,(s3.trans s4).trans s5,⟨yb,rfl,s5 _ _ (s4 _ _ hy)⟩,⟨c,rfl,hc5⟩,ai.c6 _,lq,by rw[ai.c6];lia,tq,ai.d3 w2,by rw[ai.c6];lia,c2,?_⟩
  rw[<-hcd]
  show _=if q=[] then p else ai.xP g q (ai.prim (ai.c5 p q))
  rw[if_neg q0]
abbrev jc:Stmt:=top 100
theorem wg:aD ["top","bottom","shared","lean_top","lean_bottom","factor"] ["top","bottom"] (aq jc):=sco rfl rfl rfl rfl (by decide +kernel)
def mO:Sp:=fun vs H Q _=>∃v u T B,vs=[v,u]/\bP H v T/\bP H u B/\Short T/\Short B/\ai.Trim T/\ai.Trim B/\B≠[]/\(T≠[]->Rr T B)/\nJ H Q (ai.lh T B)
theorem wj(il:bq P w K mg base "common_divisor" ["left","right"] 42 lH)(iq:bq P w K mg base "divided" ["left","right"] 1 sr)(ij:bq P w K mg base "content" ["polynomial"] 2 sf)(cx:bq P w K mg base "greatest_divisor" ["x","y"] 1 gf)(fC:bq P w K mg base "told_polynomial" ["polynomial","factor"] 1 eI)(G:d9 K mg "told_quotient" jc ["top","bottom"]):bq P w K mg base "told_quotient" ["top","bottom"] 43 mO:=by
 have sc:=wg
 refine G.fg sc (fun vs H Q E ⟨v,u,l,r,e,_⟩=>by rw[e];rfl) fun f cdv A outer s H vs Q E hr h=> ?_
 obtain⟨v,u,T,B,rfl,⟨a,rfl,ha⟩,⟨b,rfl,hb⟩,hT,hB,tT,tB,B0,ok,k⟩:=h
 refine⟨_,(aj (bK (gy (bw K (pv 0) (fun _=>rfl))) (au (aB (aN (aa aF (aa aF (aa aF (aa aF ah))))))) aW)
   (aj (aI (i:=2) sc.nd rfl (by first|left;rfl|right;rfl) (aA il (hr.mono (by decide)) rfl (aa (pv 0) (aa (pv 1) ah))))
   (aj (aI (i:=3) sc.nd rfl (by first|left;rfl|right;rfl) (aA iq (hr.mono (by decide)) rfl (aa (pv 0) (aa (pv 2) ah))))
   (aj (aI (i:=4) sc.nd rfl (by first|left;rfl|right;rfl) (aA iq (hr.mono (by decide)) rfl (aa (pv 1) (aa (pv 2) ah))))
   (aj (aI (i:=5) sc.nd rfl (by first|left;rfl|right;rfl) (aA cx (hr.mono (by decide)) rfl (aa (aA ij (hr.mono (by decide)) rfl (aa (pv 3) ah)) (aa (aA ij (hr.mono (by decide)) rfl (aa (pv 4) ah)) ah))))
   (aj (bK (bc DZ (aY (fE K) (pv 4) (gN eC aF) (fun _ _=>rfl)) aF (a5 _)) (au (aI (i:=5) sc.nd rfl (by first|left;rfl|right;rfl) (gN eC (pv 5)))) aW)
   (au (aB (bu mY (aA fC (hr.mono (by decide)) rfl (aa (pv 3) (aa (pv 5) ah))) (aA fC (hr.mono (by decide)) rfl (aa (pv 4) (aa (pv 5) ah)))))))))))),?_⟩
 refine⟨_,rfl,_,Du ha,?_⟩
 by_cases T0:T=[]
 ·subst T0
  exact bx ⟨ax (by simp),fun p hp=>k p _ hp (ay hp) (by rw[ak];rfl)⟩
 rw[fN T0]
 have O:=ok T0
 obtain⟨tg,hg,gg,_,⟨pa,ea⟩,⟨pb,eb⟩⟩:=ai.Gq tT tB T0
 obtain⟨Aq,tA,oA⟩:=ai.jB gg ea
 obtain⟨Bq,tBq,oB⟩:=ai.jB gg eb
 have dA:ai.ja T (ai.lg T B)=Aq:=ai.lj tT tg tA hg (by rw[oA];exact ea)
 have dB:ai.ja B (ai.lg T B)=Bq:=ai.lj tB tg tBq hg (by rw[oB];exact eb)
 obtain⟨o1,o2,o3,o4,o5,o6,o7,o8⟩:=O
 rw[dA] at o3 o5 o6
 rw[dB] at o4 o5 o7
 have Bq0:Bq≠[]:=fun z=>B0 ((ai.bW tB).mp (by
  rw[eb,<-oB,z]
  show(0:ai.PF)*_=0
  grind))
 have Aq0:Aq≠[]:=fun z=>T0 ((ai.bW tT).mp (by
  rw[ea,<-oA,z]
  show(0:ai.PF)*_=0
  grind))
 have ek:ai.lh T B=ai.oF Aq (if ai.lc Bq<0 then -(ai.m9 (ai.cont Aq) (ai.cont Bq)) else ai.m9 (ai.cont Aq) (ai.cont Bq)) ++ ai.oF Bq (if ai.lc Bq<0 then -(ai.m9 (ai.cont Aq) (ai.cont Bq)) else ai.m9 (ai.cont Aq) (ai.cont Bq)):=by
  unfold ai.lh
  dsimp only
  rw[if_neg T0,dA,dB]
 rw[ek] at k
 have f0:ai.m9 (ai.cont Aq) (ai.cont Bq)≠0:=by
  unfold ai.m9
  rw[ai.gw,ai.gw,Int.natAbs_natCast,Int.natAbs_natCast]
  have:=Nat.gcd_pos_of_pos_right (ai.bZ Aq) (ai.fK tBq Bq0)
  lia
 refine bE ⟨_,rfl,_,rfl,_,_,_,_,rfl,⟨a,rfl,ha⟩,⟨b,rfl,hb⟩,hT,hB,tT,tB,o1,fun z1 H1 s1 pz=> ?_⟩
 refine⟨_,rfl,_,rfl,_,_,T,_,Aq,rfl,⟨a,rfl,s1 _ _ ha⟩,pz,hT,o8,tT,tg,tA,hg,by rw[oA];exact ea,o2,o3,fun c H2 hc s2 hc2=> ?_⟩
 refine⟨_,rfl,_,rfl,_,_,B,_,Bq,rfl,⟨b,rfl,s2 _ _ (s1 _ _ hb)⟩,pz.same s2,hB,o8,tB,tg,tBq,hg,by rw[oB];exact eb,o2,o4,fun d H3 hd s3 hd3=> ?_⟩
 refine⟨_,rfl,_,_,rfl,⟨c,rfl,s3 _ _ hc2⟩,fun H4 s4=> ?_⟩
 refine⟨_,rfl,_,_,rfl,⟨d,rfl,s4 _ _ hd3⟩,fun H5 s5=> ?_⟩
 refine⟨_,_,rfl,?_⟩
 have hc5:=s5 _ _ (s4 _ _ (s3 _ _ hc2))
 have hd5:=s5 _ _ (s4 _ _ hd3)
 have s05:aJ H H5:=(((s1.trans s2).trans s3).trans s4).trans s5
 have tail:∀fa:Int,fa≠0->fa.natAbs.log2<9000->nJ H Q (ai.oF Aq fa ++ ai.oF Bq fa)->L7 (Nf Oe (Hu eI [] E0 (tI (rH 3) (tI (rH 5) IQ))) (Hu eI [] E0 (tI (rH 4) (tI (rH 5) IQ)))) {nx:=fun _ H'=>Q .gr H',rt:=Q} [some (.ref a),some (.ref b),some z1,some (.ref c),some (.ref d),some (.int fa)] H5:=fun fa h1 h2 k=>by
  refine⟨_,rfl,_,rfl,_,_,_,rfl,⟨c,rfl,hc5⟩,o6,h1,h2,fun p H6 hp s6 hp6=> ?_⟩
  refine⟨_,rfl,_,rfl,_,_,_,rfl,⟨d,rfl,s6 _ _ hd5⟩,o7,h1,h2,fun q H7 hq s7 hq7=> ?_⟩
  have l1:∀(c:List Int) (f:Int),(ai.oF c f).length=c.length+1:=fun c f=>by unfold ai.oF;simp
  refine⟨p,q,_,_,rfl,rfl,s7 _ _ hp6,hq7,by rw[lMp,lMp,l1,l1];exact ax (by lia),fun t ht=> ?_⟩
  refine k t _ ((s05.trans (s6.trans s7)).free ht) ((s05.trans (s6.trans s7)).trans (ay ht)) ?_
  rw[ak,List.map_append]
 refine⟨_,rfl,_,rfl,d,_,_,_,rfl,rfl,.of hd5,Dt Bq0,_,_,rfl,rfl,_,rfl,?_⟩
 by_cases hn:ai.lc Bq<0
 ·rw[if_pos hn] at k
  rw[decide_eq_true hn]
  exact bx ⟨_,rfl,_,rfl,tail _ (by lia) (by rw[Int.natAbs_neg];exact o5) k⟩
 ·rw[if_neg hn] at k
  rw[decide_eq_false hn]
  exact bE (tail _ f0 o5 k)
end
abbrev Rp(α:Type):=(Addr->Prop)->Hp->V->α->Prop
def Off(S:Addr->Prop)(H H':Hp):Prop:=∀a o,¬S a->H a=some o->H' a=some o
theorem _root_.L2.aJ.off{H H':Hp}(s:aJ H H')(S:Addr->Prop):Off S H H':=fun a o _ h=>s a o h
theorem bU{S:Addr->Prop}{H:Hp}{p:Addr}{o:HO}(hp:S p):Off S H (upd H p o):=fun a u hs h=>by
 rw[aR (fun e=>hs (by rw[e];exact hp))]
 exact h
theorem _root_.PySem.Paired.dO{α β:Type}{F G:α->β->Prop}{l:List α}{m:List β}(p:Paired F l m)(f:∀a b,F a b->G a b):Paired G l m:=L2.Paired.NH p f
structure Good{α:Type}(r:Rp α):Prop where
 off:∀{S:Addr->Prop} {H H':Hp} {v:V} {x:α},r S H v x->Off S H H'->r S H' v x
 vX:∀{S S':Addr->Prop} {H:Hp} {v:V} {x:α},r S H v x->(∀a,S' a->S a\/H a=none)->r S' H v x
theorem Good.same{α:Type}{r:Rp α}(g:Good r){S:Addr->Prop}{H H':Hp}{v:V}{x:α}(h:r S H v x)(s:aJ H H'):r S H' v x:=g.off h (s.off S)
theorem Good.less{α:Type}{r:Rp α}(g:Good r){S S':Addr->Prop}{H:Hp}{v:V}{x:α}(h:r S H v x)(s:∀a,S' a->S a):r S' H v x:=g.vX h fun a ha=> .inl (s a ha)
def oO:Rp (List Int):=fun S H v l=>∃a,v= .ref a/\¬S a/\H a=some (.lst (l.map V.int))
theorem cN:Good oO where
 off:=fun⟨a,e,hs,h⟩ o=>⟨a,e,hs,o a _ hs h⟩
 vX:=fun⟨a,e,hs,h⟩ w=>⟨a,e,(fun q=>(w a q).elim hs fun z=>(by rw[h] at z;cases z)),h⟩
theorem oO.at_{S:Addr->Prop}{H:Hp}{v:V}{l:List Int}(h:oO S H v l):bP H v l:=let ⟨a,e,_,q⟩:=h;⟨a,e,q⟩
theorem bP.s{H:Hp}{v:V}{l:List Int}(h:bP H v l):oO (fun _=>False) H v l:=let ⟨a,e,q⟩:=h;⟨a,e,fun z=>z,q⟩
def Jx{α:Type}(r:Rp α):Rp (List α):=fun S H v l=>∃a vs,v= .ref a/\¬S a/\H a=some (.lst vs)/\Paired (r S H) vs l
theorem Lu{α:Type}{r:Rp α}(g:Good r):Good (Jx r) where
 off:=fun⟨a,vs,e,hs,h,p⟩ o=>⟨a,vs,e,hs,o a _ hs h,p.dO fun _ _ q=>g.off q o⟩
 vX:=fun⟨a,vs,e,hs,h,p⟩ w=>⟨a,vs,e,fun q=>(w a q).elim hs fun z=>(by rw[h] at z;cases z),h,p.dO fun _ _ q=>g.vX q w⟩
def hW:Rp (Int×List Int):=fun S H v t=>∃a p,v= .ref a/\¬S a/\H a=some (.tup [.int t.1,p])/\oO S H p t.2
theorem eX:Good hW where
 off:=fun⟨a,p,e,hs,h,q⟩ o=>⟨a,p,e,hs,o a _ hs h,cN.off q o⟩
 vX:=fun⟨a,p,e,hs,h,q⟩ w=>⟨a,p,e,fun z=>(w a z).elim hs fun y=>(by rw[h] at y;cases y),h,cN.vX q w⟩
abbrev p9:Rp (List (List Int)):=Jx oO
abbrev Lw:Rp (List (List (List Int))):=Jx p9
abbrev nO:Rp (List (Int×List Int)):=Jx hW
abbrev QC:Rp (List (List (Int×List Int))):=Jx nO
theorem bH:Good p9:=Lu cN
theorem Iu:Good Lw:=Lu bH
theorem br:Good nO:=Lu eX
theorem _root_.PySem.Paired.jd{α β:Type}{F:α->β->Prop}:∀{l:List α} {m:List β} {i:Nat} {x:α},Paired F l m->l[i]? =some x->∃y,m[i]? =some y/\F x y
 |_,_,_,_,.nil,e=>by simp at e
 |_,_,0,_,.cons r _,e=>by
  simp at e
  subst e
  exact⟨_,rfl,r⟩
 |_,_,i+1,x,.cons _ t,e=>by
  obtain⟨y,h1,h2⟩:=PySem.Paired.jd (i:=i) (x:=x) t (by simpa using e)
  exact⟨y,by simpa using h1,h2⟩
theorem _root_.PySem.Paired.gB{α β:Type}{F:α->β->Prop}:∀{l:List α} {m:List β} {i:Nat} {y:β},Paired F l m->m[i]? =some y->∃x,l[i]? =some x/\F x y
 |_,_,_,_,.nil,e=>by simp at e
 |_,_,0,_,.cons r _,e=>by
  simp at e
  subst e
  exact⟨_,rfl,r⟩
 |_,_,i+1,y,.cons _ t,e=>by
  obtain⟨x,h1,h2⟩:=PySem.Paired.gB (i:=i) (y:=y) t (by simpa using e)
  exact⟨x,by simpa using h1,h2⟩
theorem _root_.PySem.Paired.gh{α β:Type}{F:α->β->Prop}:∀{l:List α} {m:List β} {x:α} {y:β},Paired F l m->F x y->Paired F (l ++ [x]) (m ++ [y])
 |_,_,_,_,.nil,h=> .cons h .nil
 |_,_,_,_,.cons r t,h=> .cons r (PySem.Paired.gh t h)
theorem _root_.PySem.Paired.app{α β:Type}{F:α->β->Prop}:∀{l l':List α} {m m':List β},Paired F l m->Paired F l' m'->Paired F (l ++ l') (m ++ m')
 |_,_,_,_,.nil,h=>h
 |_,_,_,_,.cons r t,h=> .cons r (PySem.Paired.app t h)
theorem _root_.PySem.Paired.setAt{α β:Type}{F:α->β->Prop}{x:α}{y:β}(h:F x y):∀{l:List α} {m:List β} (i:Nat),Paired F l m->Paired F (l.set i x) (m.set i y)
 |_,_,_,.nil=> .nil
 |_,_,0,.cons _ t=> .cons h t
 |_,_,i+1,.cons r t=> .cons r (PySem.Paired.setAt h i t)
theorem _root_.PySem.Paired.Lx{α β:Type}{F:α->β->Prop}:∀{l:List α} {m:List β} (i:Nat),Paired F l m->Paired F (l.take i) (m.take i)
 |_,_,0,_=> .nil
 |_,_,_+ 1,.nil=> .nil
 |_,_,i+1,.cons r t=> .cons r (PySem.Paired.Lx i t)
def J2(S:Addr->Prop)(H:Hp):Prop:=∀a,S a->H a≠none
theorem J2.same{S:Addr->Prop}{H H':Hp}(d:J2 S H)(s:aJ H H'):J2 S H':=fun a ha z=>d a ha (s.free z)
theorem J2.new{S:Addr->Prop}{H:Hp}{p:Addr}(d:J2 S H)(h:H p=none):¬S p:=fun q=>d p q h
def b5(S:Addr->Prop)(p:Addr):Addr->Prop:=fun a=>S a\/a=p
theorem J2.and{S:Addr->Prop}{H:Hp}{p:Addr}{o:HO}(d:J2 S H)(h:H p=some o):J2 (b5 S p) H:=fun a ha z=>by
 rcases ha with ha |rfl
 ·exact d a ha z
 ·rw[h] at z;cases z
theorem Good.and{α:Type}{r:Rp α}(g:Good r){S:Addr->Prop}{H:Hp}{v:V}{x:α}{p:Addr}(h:r S H v x)(hp:H p=none):r (b5 S p) H v x:=g.vX h fun a ha=>ha.elim .inl fun e=> .inr (by rw[e];exact hp)
theorem Good.un{α:Type}{r:Rp α}(g:Good r){S:Addr->Prop}{H:Hp}{v:V}{x:α}{p:Addr}(h:r (b5 S p) H v x):r S H v x:=g.less h fun a ha=> .inl ha
theorem _root_.PySem.Paired.MO{α:Type}{r:Rp α}(g:Good r){S:Addr->Prop}{H:Hp}{vs:List V}{l:List α}{p:Addr}(h:Paired (r S H) vs l)(hp:H p=none):Paired (r (b5 S p) H) vs l:=h.dO fun _ _ q=>g.and q hp
theorem _root_.PySem.Paired.J3{α:Type}{r:Rp α}(g:Good r){S:Addr->Prop}{H:Hp}{vs:List V}{l:List α}{p:Addr}(h:Paired (r (b5 S p) H) vs l):Paired (r S H) vs l:=h.dO fun _ _ q=>g.un q
theorem _root_.PySem.Paired.qe{α:Type}{r:Rp α}(g:Good r){S:Addr->Prop}{H H':Hp}{vs:List V}{l:List α}(h:Paired (r S H) vs l)(o:Off S H H'):Paired (r S H') vs l:=h.dO fun _ _ q=>g.off q o
theorem _root_.PySem.Paired.eY{α:Type}{r:Rp α}(g:Good r){S:Addr->Prop}{H H':Hp}{vs:List V}{l:List α}(h:Paired (r S H) vs l)(s:aJ H H'):Paired (r S H') vs l:=h.dO fun _ _ q=>g.same q s
def Ly(p:ai.Part):List (Str×V):=eO "bottom" (.int p.aC) (eO "top" (.int p.top) (eO "d" (.int p.d) (eO "c" (.int p.c) (eO "b" (.int p.b) (eO "a" (.int p.a) (eO "kind" (.int p.kind) []))))))
def QD(last:Int)(ps:V):List (Str×V):=eO "parts" ps (eO "last_node" (.int last) [])
def Rt(aO s cU drives places:V)(width:Int):List (Str×V):=eO "width" (.int width) (eO "places" places (eO "drives" drives (eO "states" cU (eO "s" s (eO "network" aO [])))))
def QE(det tops:V):List (Str×V):=eO "tops" tops (eO "determinant" det [])
def RU(cU sol:V):List (Str×V):=eO "solution" sol (eO "states" cU [])
def OQ(r t b:V):List (Str×V):=eO "bottom" b (eO "top" t (eO "refusal" r []))
structure oP(K:PySem.W.Frag)(C:Addr)(fs:List Str):Prop where
 cl:NV K C
 no:∀f∈fs,mV K C f
structure Cs where
 part:Addr
 aO:Addr
 dI:Addr
 sol:Addr
 pt:Addr
 ask:Addr
structure cQ(K:PySem.W.Frag)(c:Cs):Prop where
 part:oP K c.part ["kind","a","b","c","d","top","bottom"]
 aO:oP K c.aO ["last_node","parts"]
 dI:oP K c.dI ["network","s","states","drives","places","width"]
 sol:oP K c.sol ["determinant","tops"]
 pt:oP K c.pt ["states","solution"]
 ask:oP K c.ask ["refusal","top","bottom"]
section
variable (c:Cs)
def dJ(H:Hp)(v:V)(p:ai.Part):Prop:=∃a dx,v= .ref a/\H a=some (.ins c.part dx (Ly p))
def ju(H:Hp)(v:V)(ps:List ai.Part):Prop:=∃a vs,v= .ref a/\H a=some (.lst vs)/\Paired (dJ c H) vs ps
def lI(H:Hp)(v:V)(n:ai.Nw):Prop:=∃a dx vp,v= .ref a/\H a=some (.ins c.aO dx (QD n.last vp))/\ju c H vp n.af
def uE(H:Hp)(v:V)(l:List Bool):Prop:=∃a,v= .ref a/\H a=some (.lst (l.map V.bl))
def B8(H:Hp)(v:V)(l:List (Int×Int)):Prop:=∃a vs,v= .ref a/\H a=some (.lst vs)/\Paired (fun u (x:Int×Int)=>∃t,u= .ref t/\H t=some (.tup [.int x.1,.int x.2])) vs l
def i6(H:Hp)(v:V)(g:ai.gK):Prop:=∃a dx vn vs vst vd vp,v= .ref a/\H a=some (.ins c.dI dx (Rt vn vs vst vd vp (ai.width g.aO)))/\lI c H vn g.aO/\bP H vs g.s/\uE H vst g.cU/\B8 H vd g.drives/\bP H vp (ai.places g.aO)
def oI(H:Hp)(v:V)(s:List Int×List (List Int)):Prop:=∃a dx vd vt,v= .ref a/\H a=some (.ins c.sol dx (QE vd vt))/\bP H vd s.1/\p9 (fun _=>False) H vt s.2
variable {c}
theorem dJ.same{H H':Hp}{v:V}{p:ai.Part}(h:dJ c H v p)(s:aJ H H'):dJ c H' v p:=let ⟨a,dx,e,q⟩:=h;⟨a,dx,e,s _ _ q⟩
theorem ju.same{H H':Hp}{v:V}{p:List ai.Part}(h:ju c H v p)(s:aJ H H'):ju c H' v p:=let ⟨a,vs,e,q,r⟩:=h;⟨a,vs,e,s _ _ q,r.dO fun _ _ z=>z.same s⟩
theorem lI.same{H H':Hp}{v:V}{n:ai.Nw}(h:lI c H v n)(s:aJ H H'):lI c H' v n:=let ⟨a,dx,vp,e,q,r⟩:=h;⟨a,dx,vp,e,s _ _ q,r.same s⟩
theorem uE.same{H H':Hp}{v:V}{l:List Bool}(h:uE H v l)(s:aJ H H'):uE H' v l:=let ⟨a,e,q⟩:=h;⟨a,e,s _ _ q⟩
theorem B8.same{H H':Hp}{v:V}{l:List (Int×Int)}(h:B8 H v l)(s:aJ H H'):B8 H' v l:=let ⟨a,vs,e,q,r⟩:=h;⟨a,vs,e,s _ _ q,r.dO fun _ _ ⟨t,e,z⟩=>⟨t,e,s _ _ z⟩⟩
theorem i6.same{H H':Hp}{v:V}{g:ai.gK}(h:i6 c H v g)(s:aJ H H'):i6 c H' v g:=let ⟨a,dx,vn,vs,vst,vd,vp,e,q,r1,r2,r3,r4,r5⟩:=h;⟨a,dx,vn,vs,vst,vd,vp,e,s _ _ q,r1.same s,r2.same s,r3.same s,r4.same s,r5.same s⟩
theorem oI.same{H H':Hp}{v:V}{x:List Int×List (List Int)}(h:oI c H v x)(s:aJ H H'):oI c H' v x:=let ⟨a,dx,vd,vt,e,q,r1,r2⟩:=h;⟨a,dx,vd,vt,e,s _ _ q,r1.same s,bH.same r2 s⟩
end
structure Txt2(mg:Str->Option Value):Prop extends Txt mg where
 sy:∃t,mg "RESISTOR"=some (.int 0 t)
 qf:∃t,mg "CAPACITOR"=some (.int 1 t)
 Dv:∃t,mg "COIL"=some (.int 2 t)
 dM:∃t,mg "COUPLING"=some (.int 3 t)
 ir:∃t,mg "VOLTAGE_SOURCE"=some (.int 4 t)
 iu:∃t,mg "CURRENT_SOURCE"=some (.int 5 t)
 fO:∃t,mg "VOLTAGE_BY_VOLTAGE"=some (.int 6 t)
 fP:∃t,mg "CURRENT_BY_VOLTAGE"=some (.int 7 t)
 fQ:∃t,mg "VOLTAGE_BY_CURRENT"=some (.int 8 t)
 fR:∃t,mg "CURRENT_BY_CURRENT"=some (.int 9 t)
 e7:∃t,mg "TRANSFORMER"=some (.int 10 t)
 lJ:∃t,mg "AMPLIFIER"=some (.int 11 t)
 z5:∃t,mg "SWITCH"=some (.int 12 t)
 qW:∃t,mg "DIODE"=some (.int 13 t)
 qg:∃t,mg "LAST_KIND"=some (.int 13 t)
theorem oP.at_{K:PySem.W.Frag}{C:Addr}{fs:List Str}(h:oP K C fs){f:Str}(i:Nat)(e:fs[i]? =some f):mV K C f:=h.no f (List.mem_of_getElem? e)
theorem gn{a b:Int}:decide (V.int a=V.int b)=decide (a=b):=by
 by_cases h:a=b
 ·subst h;simp
 ·simp[h]
abbrev cq(H:Hp):Addr->Prop:=fun a=>H a≠none
def qh(H:Hp)(Q:VK)(ts:List (Int×List Int)):Prop:=∀z H',aJ H H'->nO (cq H) H' z ts->Q z H'
theorem cu{H H1:Hp}(s:aJ H H1):∀a,cq H a->cq H1 a:=fun a h z=>h (s.free z)
def jm(ts:List (Int×List Int)):Prop:=∀t∈ts,t.2.length<=100/\∀x∈t.2,x.natAbs<=1
theorem Lz{x:Int}(h:x.natAbs<=1)(y:Int):IntMulOk x y:= .of_left (intBits_le_64 (by lia) (by lia))
section
variable {P:Program}{w:World}{K:PySem.W.Frag}{mg:Str->Option Value}{base:Heap}{c:Cs}
abbrev me:Stmt:=top 31
theorem z8:aD ["part"] ["part"] (aq me):=sco rfl rfl rfl rfl (by decide +kernel)
def jS(c:Cs):Sp:=fun vs H Q _=>∃v p,vs=[v]/\dJ c H v p/\Q (.int (ai.gH p)) H
theorem z9(T:Txt2 mg)(O:cQ K c)(G:d9 K mg "currents_of" me ["part"]):bq P w K mg base "currents_of" ["part"] 1 (jS c):=by
 have sc:=z8
 refine G.fg sc (fun vs H Q E ⟨v,p,e,_⟩=>by rw[e];rfl) fun f cdv A outer s H vs Q E hr h=> ?_
 obtain⟨v,p,rfl,⟨a,dx,rfl,ha⟩,k⟩:=h
 refine⟨_,(aj (bK (bc dX (aw K (pv 0) rfl) (gc T.dM) (a5 _)) (au (aB aF)) aW)
   (au (aB (jE (bc dX (aw K (pv 0) rfl) (gc T.e7) (a5 _)) aF aF)))),?_⟩
 unfold ai.gH at k
 refine⟨_,rfl,a,c.part,dx,_,_,rfl,ha,O.part.cl,O.part.at_ 0 rfl,rfl,rfl,_,rfl,?_⟩
 rw[gn]
 refine Oo (fun h=> ?_) (fun h=> ?_)
 ·rw[if_pos (of_decide_eq_true h)] at k
  exact k
 ·have h3:¬p.kind=3:=fun e=>h (decide_eq_true e)
  rw[if_neg h3] at k
  refine⟨_,rfl,a,c.part,dx,_,_,rfl,ha,O.part.cl,O.part.at_ 0 rfl,rfl,rfl,_,rfl,?_⟩
  rw[gn]
  refine Oo (fun h=> ?_) (fun h=> ?_)
  ·rw[if_pos (of_decide_eq_true h)] at k
   exact k
  ·rw[if_neg (fun e=>h (decide_eq_true e))] at k
   exact k
abbrev iT:Stmt:=top 32
theorem Aa:aD ["network","part"] ["network"] (aq iT):=sco rfl rfl rfl rfl (by decide +kernel)
def qi(c:Cs):Sp:=fun vs H Q _=>∃v n,vs=[v]/\lI c H v n/\n.af.length<=1000/\∀H',aJ H H'->Q (.int (ai.width n)) H'
theorem Ab(T:Txt2 mg)(O:cQ K c)(e9:bq P w K mg base "currents_of" ["part"] 1 (jS c))(G:d9 K mg "unknowns_of" iT ["network"]):bq P w K mg base "unknowns_of" ["network"] 2 (qi c):=by
 have sc:=Aa
 refine G.fg sc (fun vs H Q E ⟨v,p,e,_⟩=>by rw[e];rfl) fun f cdv A outer s H vs Q E hr h=> ?_
 obtain⟨v,n,rfl,⟨a,dx,vp,rfl,ha,b,ws,rfl,hb,hps⟩,hl,k⟩:=h
 have ll:=hps.length
 refine⟨_,(au (aB (bu gO (aw K (pv 0) rfl) (aZ (Mp K rfl) rfl T.Lo Gd (aa (iW rfl sc.nd (bS (aw K (pv 0) rfl)) (bN (own:=[("part",1)]) (by show jo ["network","part"] (aq iT) _ _=true;decide +kernel)) (fun _ _ _ _ _=>(aM (i:=1) sc.nd rfl (Or.inl rfl))) (fun _ _ _ _ _=>cH) (fun _ _ _ _ _=>(aA e9 (hr.mono (by decide)) rfl (aa (pv 1) ah)))) ah))))),?_⟩
 refine⟨_,rfl,a,c.aO,dx,_,_,rfl,ha,O.aO.cl,O.aO.at_ 0 rfl,rfl,?_⟩
 refine⟨_,rfl,a,c.aO,dx,_,_,rfl,ha,O.aO.cl,O.aO.at_ 1 rfl,rfl,b,rfl,⟨_,.of hb⟩,fun D hD=>ks (bT (.of hb)) hD (fun i _ acc=>acc=(n.af.take i).map fun p=>V.int (ai.gH p)) rfl ?_ ?_⟩
 ·rintro i x H1 H2 acc hi s1 hD1 hacc s2 s12 hD2 hx
  obtain⟨p,hp,q⟩:=hps.jd hx
  refine⟨rfl,⟨_,rfl,_,p,rfl,q.same s2,?_⟩⟩
  refine cT hD s2 hD2 ?_ ?_
  ·rw[hacc,lMp,List.length_take]
   exact aH (by lia)
  ·rw[hacc,bh _ _ _ _ hp]
 ·intro H1 acc s1 hD1 hacc
  refine⟨D,n.af.map ai.gH,rfl,.of ?_,_,_,rfl,rfl,k H1 s1⟩
  rw[hD1,hacc,ll,List.take_length,List.map_map]
  rfl
abbrev iw:Stmt:=top 33
theorem uF:aD ["network","places","free","part"] ["network"] (aq iw):=sco rfl rfl rfl rfl (by decide +kernel)
def lK(c:Cs):Sp:=fun vs H Q _=>∃v n,vs=[v]/\lI c H v n/\n.af.length<=1000/\nJ H Q (ai.places n)
theorem rC:∀(l:List ai.Part) (f:Int) (p:ai.Part),ai.dC f (l ++ [p])=ai.dC f l ++ [f+(l.map ai.gH).sum]
 |[],f,p=>by
  show[f]=[] ++ [f+0]
  simp
 |q::l,f,p=>by
  show f::ai.dC (f+ai.gH q) (l ++ [p])=f::(ai.dC (f+ai.gH q) l ++ [f+((q::l).map ai.gH).sum])
  rw[rC l,List.map_cons,List.sum_cons,Int.add_assoc]
theorem nP:∀(l:List ai.Part) (f:Int),(ai.dC f l).length=l.length
 |[],_=>rfl
 |q::l,f=>congrArg (· +1) (nP l _)
theorem Ac:∀(l:List Int) (z:Int),(l ++ [z]).sum=l.sum+z
 |[],z=>by simp
 |a::l,z=>by
  rw[List.cons_append,List.sum_cons,List.sum_cons,Ac l z]
  lia
theorem uG(T:Txt2 mg)(O:cQ K c)(e9:bq P w K mg base "currents_of" ["part"] 1 (jS c))(G:d9 K mg "current_places" iw ["network"]):bq P w K mg base "current_places" ["network"] 2 (lK c):=by
 have sc:=uF
 refine G.fg sc (fun vs H Q E ⟨v,p,e,_⟩=>by rw[e];rfl) fun f cdv A outer s H vs Q E hr h=> ?_
 obtain⟨v,n,rfl,⟨a,dx,vp,rfl,ha,b,ws,rfl,hb,hps⟩,hl,k⟩:=h
 have ll:=hps.length
 refine⟨_,(aj (aI (i:=1) sc.nd rfl (by first|left;rfl|right;rfl) (aN ah))
   (aj (aI (i:=2) sc.nd rfl (by first|left;rfl|right;rfl) (aw K (pv 0) rfl))
   (aj (c9 PassesOwn.never rfl (bS (aw K (pv 0) rfl)) (aM (i:=3) sc.nd rfl (Or.inl rfl)) (aj (fw (kX PySem.F.plainAttrs_list PySem.F.slot_list_append PySem.F.type_list_append dk (pv 1) (aa (pv 2) ah)))
   (au (FX (i:=2) sc.nd rfl (Or.inl rfl) (aA e9 (hr.mono (by decide)) rfl (aa (pv 3) ah)) FY))))
   (au (aB (pv 1)))))),?_⟩
 refine⟨Nat.zero_le _,fun q hq=> ?_⟩
 have s1:=ay (o:= .lst []) hq
 refine⟨_,rfl,a,c.aO,dx,_,_,rfl,s1 _ _ ha,O.aO.cl,O.aO.at_ 0 rfl,rfl,?_⟩
 refine⟨_,rfl,a,c.aO,dx,_,_,rfl,s1 _ _ ha,O.aO.cl,O.aO.at_ 1 rfl,rfl,b,rfl,⟨_,.of (s1 _ _ hb)⟩,gb (bT (K:=K) (.of hb)) (fun i σ H'=>∃x3,σ=[some (.ref a),some (.ref q),some (.int (n.last+((n.af.take i).map ai.gH).sum)),x3]/\aJ H H'/\H' q=some (.lst ((ai.dC n.last (n.af.take i)).map V.int))) ?_ (fun i σ H' ⟨_,_,s,_⟩=>s) ?_ ?_⟩
 ·refine⟨none,?_,s1,?_⟩
  ·simp[L2.start]
  ·rw[ak];rfl
 ·rintro i x σ H1 H2 hi ⟨x3,rfl,s2,hq1⟩ s3 s12 hx
  obtain⟨p,hp,pa⟩:=hps.jd hx
  have hq2:=s12 _ _ hq1
  refine⟨_,rfl,.inl ⟨rfl,_,.of hq2⟩,_,rfl,q,_,_,rfl,rfl,hq2,?_,?_⟩
  ·rw[lMp,nP,List.length_take]
   exact aH (by lia)
  ·have s4:aJ H (upd H2 q (.lst ((ai.dC n.last (n.af.take i)).map V.int ++ [.int (n.last+((n.af.take i).map ai.gH).sum)]))):=s3.over hq
   refine⟨_,rfl,_,rfl,_,p,rfl,pa.same s4,_,_,rfl,rfl,some x,?_,s4,?_⟩
   ·rw[bh _ _ _ _ hp,Ac,<-Int.add_assoc]
    rfl
   ·rw[ak,List.take_add_one,hp]
    show _=some (HO.lst ((ai.dC n.last (n.af.take i ++ [p])).map V.int))
    rw[rC,List.map_append]
    rfl
 ·rintro σ H1 ⟨x3,rfl,s2,hq1⟩
  refine⟨_,rfl,k q H1 hq s2 ?_⟩
  rw[hq1,ll,List.take_length]
  rfl
abbrev uH:Stmt:=top 34
theorem Jy:aD ["terms","width","row","place","factor"] ["terms","width"] (aq uH):=sco rfl rfl rfl rfl (by decide +kernel)
def B9:Sp:=fun vs H Q _=>∃v ts wd,vs=[v,.int wd]/\nO (fun _=>False) H v ts/\0<=wd/\wd<1000/\(∀t∈ts,0<=t.1/\t.1<=wd/\t.2.length<=1000)/\∀z H',aJ H H'->p9 (cq H) H' z (ai.rowOf wd ts)->Q z H'
theorem Jz(ts:List (Int×List Int)):∀row:List (List Int),(ts.foldl ai.pP row).length=row.length:=by
 induction ts with
 |nil=>intro row;rfl
 |cons t ts ih=>
  intro row
  rw[List.foldl_cons,ih]
  unfold ai.pP
  rw[List.length_set]
theorem JA(wd:Int)(ts:List (Int×List Int)):(ai.rowOf wd ts).length=(wd+1).toNat:=by
 unfold ai.rowOf
 rw[Jz,List.length_replicate]
theorem Ad{α:Type}{r:V->α->Prop}{x:α}:∀{vs:List V},(∀v∈vs,r v x)->Paired r vs (List.replicate vs.length x)
 |[],_=> .nil
 |v::vs,h=> .cons (h v List.mem_cons_self) (Ad fun u hu=>h u (List.mem_cons_of_mem _ hu))
theorem JB(T:Txt2 mg)(qV:bq P w K mg base "added" ["left","right"] 2 zZ)(G:d9 K mg "row_of" uH ["terms","width"]):bq P w K mg base "row_of" ["terms","width"] 3 B9:=by
 have sc:=Jy
 refine G.fg sc (fun vs H Q E ⟨v,ts,wd,e,_⟩=>by rw[e];rfl) fun f cdv A outer s H vs Q E hr h=> ?_
 obtain⟨v,ts,wd,rfl,⟨a,us,rfl,_,ha,hts⟩,w0,w1,hb,k⟩:=h
 have ll:=hts.length
 refine⟨_,(aj (pI (i:=2) rfl sc.nd rfl rfl (tL rfl rfl rfl rfl) (jw rfl T.gx (aa (bu gO (pv 1) aF) ah)) (bN (own:=[("place",3)]) (by show jo ["terms","width","row","place","factor"] (aq uH) _ _=true;decide +kernel)) (fun _ _ _ _ _=>(aM (i:=3) sc.nd rfl (Or.inl rfl))) (fun _ _ _ _ _=>cH) (fun _ _ _ _ _=>(aN ah)))
   (aj (c9 PassesOwn.never rfl (bS (pv 0)) (gP K (n:=2) rfl (bM (aM (i:=3) sc.nd rfl (Or.inl rfl)) (bM (aM (i:=4) sc.nd rfl (Or.inl rfl)) gM))) (au (vC (aA qV (hr.mono (by decide)) rfl (aa (aY (fE K) (pv 2) (pv 3) (fun _ _=>rfl)) (aa (pv 4) ah))) (vB (pv 2) (pv 3) set_list))))
   (au (aB (pv 2))))),?_⟩
 refine⟨_,rfl,_,_,rfl,rfl,_,rfl,by lia,by lia,fun D hD=>ks (iX H 0 _) hD (fun i H' acc=>acc.length=i/\(∀v∈acc,oO (b5 (cq H) D) H' v [])) ⟨rfl,fun _ h=>by cases h⟩ ?_ ?_⟩
 ·rintro i x H1 H2 acc hi s1 hD1 ⟨hacc,hpol⟩ s2 s12 hD2 rfl
  refine⟨rfl,⟨Nat.zero_le _,fun p hp=> ?_⟩⟩
  have s3:=ay (o:= .lst []) hp
  have np:¬b5 (cq H) D p:=fun q=>q.elim (fun z=>z (s2.free hp)) (fun z=>by rw[z,hD2] at hp;cases hp)
  refine cT hD (s2.trans s3) (s3 _ _ hD2) (by rw[hacc];exact aH (by lia)) ⟨by simp[hacc],fun v hv=> ?_⟩
  have od:Off (b5 (cq H) D) (upd H2 p (.lst [])) (upd (upd H2 p (.lst [])) D (.lst (acc ++ [.ref p]))):=bU (.inr rfl)
  rcases List.mem_append.mp hv with q |q
  ·exact cN.off (cN.same (hpol v q) (s12.trans s3)) od
  ·have:v= .ref p:=by simpa using q
   subst this
   exact cN.off ⟨p,rfl,np,by rw[ak];rfl⟩ od
 ·intro H1 acc s1 hD1 ⟨hacc,hpol⟩
  have hpr:Paired (oO (b5 (cq H) D) H1) acc (ai.rowOf wd (ts.take 0)):=by
   have e:ai.rowOf wd (ts.take 0)=List.replicate acc.length []:=by
    rw[hacc];rfl
   rw[e]
   exact Ad hpol
  refine⟨_,rfl,a,rfl,⟨_,.of (s1 _ _ ha)⟩,gb (bT (K:=K) (.of ha)) (fun i σ H'=>∃x3 x4 ws,σ=[some (.ref a),some (.int wd),some (.ref D),x3,x4]/\aJ H H'/\H' D=some (.lst ws)/\Paired (oO (b5 (cq H) D) H') ws (ai.rowOf wd (ts.take i))/\∀r∈ai.rowOf wd (ts.take i),r.length<=1000) ?_ (fun i σ H' ⟨_,_,_,_,s,_⟩=>s) ?_ ?_⟩
  ·refine⟨_,_,acc,rfl,s1,hD1,hpr,fun r hr=> ?_⟩
   have e:ai.rowOf wd (ts.take 0)=List.replicate (wd+1).toNat []:=rfl
   rw[e] at hr
   rw[(List.mem_replicate.mp hr).2]
   simp
  ·rintro i x σ H2 H3 hi ⟨x3,x4,ws,rfl,s2,hD2,hws,hlen⟩ s3 s23 hx
   obtain⟨t,ht,tt⟩:=hts.jd hx
   obtain⟨ta,tp,rfl,_,hta,htp⟩:=eX.same tt s3
   obtain⟨b1,b2,b3⟩:=hb t (List.mem_of_getElem? ht)
   have hD3:=s23 _ _ hD2
   have hws3:=hws.eY cN s23
   have lr:=JA wd (ts.take i)
   have lw:=hws.length
   have hj:t.1.toNat<(ai.rowOf wd (ts.take i)).length:=by lia
   obtain⟨u,hu,pu⟩:=hws3.gB (az (d:=[]) hj)
   refine⟨ta,_,rfl,.of hta,rfl,_,_,rfl,_,_,rfl,rfl,?_⟩
   refine⟨_,rfl,_,rfl,D,_,_,_,rfl,rfl,.of hD3,aS (j:=t.1.toNat) (by lia) hu,_,rfl,?_⟩
   refine⟨_,_,_,_,rfl,pu.at_,htp.at_,?_,by unfold Short;lia,fun p H4 hp s4 hp4=> ?_⟩
   ·have:=hlen _ (List.mem_of_getElem? (az (d:=[]) hj))
    unfold Short;lia
   have hD4:=s4 _ _ hD3
   refine⟨_,rfl,_,rfl,D,_,_,t.1.toNat,rfl,rfl,hD4,m6 (by lia) (by lia),?_⟩
   have np:¬b5 (cq H) D p:=fun q=>q.elim (fun z=>z (s3.free hp)) (fun z=>by rw[z,hD3] at hp;cases hp)
   have od:∀o,Off (b5 (cq H) D) H4 (upd H4 D o):=fun o=>bU (.inr rfl)
   have e1:ai.rowOf wd (ts.take (i+1))=ai.pP (ai.rowOf wd (ts.take i)) t:=by
    unfold ai.rowOf
    rw[List.take_add_one,ht,List.foldl_append]
    rfl
   refine⟨_,_,_,rfl,(s3.trans s4).over hD,ak,?_,?_⟩
   ·rw[e1]
    exact((hws3.eY cN s4).qe cN (od _)).setAt (cN.off ⟨p,rfl,np,hp4⟩ (od _)) _
   ·intro r hr
    rw[e1] at hr
    rcases List.mem_or_eq_of_mem_set hr with q |q
    ·exact hlen r q
    ·rw[q]
     have:=hlen _ (List.mem_of_getElem? (az (d:=[]) hj))
     refine Nat.le_trans (ai.CN _) ?_
     rw[ai.fH]
     lia
  ·rintro σ H2 ⟨x3,x4,ws,rfl,s2,hD2,hws,_⟩
   refine⟨_,rfl,k _ H2 s2 ⟨D,ws,rfl,fun z=>z hD,hD2,?_⟩⟩
   rw[ll,List.take_length] at hws
   exact hws.J3 cN
end
theorem Fh{S:Addr->Prop}{H4:Hp}{q:Addr}{us:List V}{ts:List (Int×List Int)}{t:Int×List Int}{x:V}(hu:Paired (hW (b5 S q) H4) us ts)(ht:hW (b5 S q) H4 x t):Paired (hW (b5 S q) (upd H4 q (.lst (us ++ [x])))) (us ++ [x]) (ts ++ [t]):=
 (hu.qe eX (bU (.inr rfl))).gh (eX.off ht (bU (.inr rfl)))
section
variable {P:Program}{w:World}{K:PySem.W.Frag}{mg:Str->Option Value}{base:Heap}{c:Cs}
abbrev gU:Stmt:=top 36
theorem sC:aD ["first","second","terms"] ["first","second"] (aq gU):=sco rfl rfl rfl rfl (by decide +kernel)
def gC:Sp:=fun vs H Q _=>∃x y:Int,vs=[.int x,.int y]/\qh H Q (ai.Eo x y)
theorem Fi{H H2:Hp}{q p t:Addr}{us:List V}{ts:List (Int×List Int)}{x z:Int}(hq:H q=none)(s2:aJ H H2)(hq2:H2 q=some (.lst us))(hu:Paired (hW (b5 (cq H) q) H2) us ts)(hp:H2 p=none)(ht:upd H2 p (.lst [.int z]) t=none):
  aJ H (upd (upd (upd H2 p (.lst [.int z])) t (.tup [.int x,.ref p])) q (.lst (us ++ [.ref t])))/\Paired (hW (b5 (cq H) q) (upd (upd (upd H2 p (.lst [.int z])) t (.tup [.int x,.ref p])) q (.lst (us ++ [.ref t])))) (us ++ [.ref t]) (ts ++ [(x,[z])]):=by
 have s3:=ay (o:= .lst [.int z]) hp
 have s4:=ay (o:= .tup [.int x,.ref p]) ht
 have np:¬b5 (cq H) q p:=fun h=>h.elim (fun y=>y (s2.free hp)) (fun y=>by rw[y,hq2] at hp;cases hp)
 have nt:¬b5 (cq H) q t:=fun h=>h.elim (fun y=>y ((s2.trans s3).free ht)) (fun y=>by rw[y,s3 _ _ hq2] at ht;cases ht)
 refine⟨((s2.trans s3).trans s4).over hq,Fh (hu.eY eX (s3.trans s4)) ⟨t,.ref p,rfl,nt,ak,p,rfl,np,s4 _ _ ak⟩⟩
theorem sD(G:d9 K mg "voltage_between" gU ["first","second"]):bq P w K mg base "voltage_between" ["first","second"] 1 gC:=by
 have sc:=sC
 refine G.fg sc (fun vs H Q E ⟨x,y,e,_⟩=>by rw[e];rfl) fun f cdv A outer s H vs Q E hr h=> ?_
 obtain⟨x,y,rfl,k⟩:=h
 refine⟨_,(aj (aI (i:=2) sc.nd rfl (by first|left;rfl|right;rfl) (aN ah))
   (aj (bK (bc xi (pv 0) aF (a5 _)) (au (fw (kX PySem.F.plainAttrs_list PySem.F.slot_list_append PySem.F.type_list_append dk (pv 2) (aa (cP (aa (bu jF (pv 0) aF) (aa (aN (aa aF ah)) ah))) ah)))) aW)
   (aj (bK (bc xi (pv 1) aF (a5 _)) (au (fw (kX PySem.F.plainAttrs_list PySem.F.slot_list_append PySem.F.type_list_append dk (pv 2) (aa (cP (aa (bu jF (pv 1) aF) (aa (aN (aa (gN eC aF) ah)) ah))) ah)))) aW)
   (au (aB (pv 2)))))),?_⟩
 refine⟨Nat.zero_le _,fun q hq=> ?_⟩
 have s1:=ay (o:= .lst []) hq
 have fin:∀(H4:Hp) (us:List V),aJ H H4->H4 q=some (.lst us)->Paired (hW (b5 (cq H) q) H4) us (ai.Eo x y)->Q (.ref q) H4:=fun H4 us s4 h4 hu=>k _ H4 s4 ⟨q,us,rfl,fun z=>z hq,h4,hu.J3 eX⟩
 have second:∀(H2:Hp) (us:List V),aJ H H2->H2 q=some (.lst us)->us.length<10->Paired (hW (b5 (cq H) q) H2) us (if 0<x then[(x - 1,[1])] else[])->
   Pr (Pu (Kg (Nf (L1 fun i j=> .bl (decide (i>j))) (rH 1) (tC (.int 0)))) (Nc (RR K "list" Hy (rH 2) (tI (PR (tI (Nf (L1 fun i j=> .int (i - j)) (rH 1) (tC (.int 1))) (tI (PU (tI (RN (rU fun i=> .int (-i)) (tC (.int 1))) IQ)) IQ))) IQ))) Nb) (L7 (rH 2)) {nx:=fun _ H'=>Q .gr H',rt:=Q} [some (.int x),some (.int y),some (.ref q)] H2:=fun H2 us s2 h2 hl hu=>by
  refine⟨_,rfl,_,_,rfl,rfl,_,rfl,?_⟩
  by_cases hy:0<y
  ·rw[decide_eq_true (show y>0 from hy)]
   refine bx ⟨_,rfl,.inl ⟨rfl,_,.of h2⟩,_,rfl,_,_,rfl,rfl,_,rfl,ax (by simp),fun p hp=>⟨ax (by simp),fun t ht=> ?_⟩⟩
   have h4:(upd (upd H2 p (.lst [.int (-1)])) t (.tup [.int (y - 1),.ref p])) q=some (.lst us):=ay ht _ _ (ay hp _ _ h2)
   obtain⟨s5,hu5⟩:=Fi (x:=y - 1) hq s2 h2 hu hp ht
   refine⟨q,us,_,rfl,rfl,h4,aH (by lia),_,rfl,fin _ _ s5 ak ?_⟩
   unfold ai.Eo
   rw[if_pos hy]
   exact hu5
  ·rw[decide_eq_false (show ¬y>0 from hy)]
   refine bE ⟨_,rfl,fin H2 us s2 h2 ?_⟩
   unfold ai.Eo
   rw[if_neg hy,List.append_nil]
   exact hu
 refine⟨_,rfl,_,_,rfl,rfl,_,rfl,?_⟩
 by_cases hx:0<x
 ·rw[decide_eq_true (show x>0 from hx)]
  refine bx ⟨_,rfl,.inl ⟨rfl,_,.of ak⟩,_,rfl,_,_,rfl,rfl,ax (by simp),fun p hp=>⟨ax (by simp),fun t ht=> ?_⟩⟩
  have h4:(upd (upd (upd H q (.lst [])) p (.lst [.int 1])) t (.tup [.int (x - 1),.ref p])) q=some (.lst []):=ay ht _ _ (ay hp _ _ ak)
  obtain⟨s5,hu5⟩:=Fi (x:=x - 1) hq s1 ak .nil hp ht
  refine⟨q,[],_,rfl,rfl,h4,aH (by decide),second _ _ s5 ak (by simp) ?_⟩
  rw[if_pos hx]
  exact hu5
 ·rw[decide_eq_false (show ¬x>0 from hx)]
  refine bE (second _ [] s1 ak (by simp) ?_)
  rw[if_neg hx]
  exact .nil
abbrev nQ:Stmt:=top 37
theorem A1:aD ["part"] ["part"] (aq nQ):=sco rfl rfl rfl rfl (by decide +kernel)
def cC(c:Cs):Sp:=fun vs H Q _=>∃v p,vs=[v]/\dJ c H v p/\qh H Q (ai.jl p)
theorem A2(O:cQ K c)(cO:bq P w K mg base "voltage_between" ["first","second"] 1 gC)(G:d9 K mg "voltage_of" nQ ["part"]):bq P w K mg base "voltage_of" ["part"] 2 (cC c):=by
 have sc:=A1
 refine G.fg sc (fun vs H Q E ⟨v,p,e,_⟩=>by rw[e];rfl) fun f cdv A outer s H vs Q E hr h=> ?_
 obtain⟨v,p,rfl,⟨a,dx,rfl,ha⟩,k⟩:=h
 refine⟨_,(au (aB (aA cO (hr.mono (by decide)) rfl (aa (aw K (pv 0) rfl) (aa (aw K (pv 0) rfl) ah))))),?_⟩
 exact⟨_,rfl,a,c.part,dx,_,_,rfl,ha,O.part.cl,O.part.at_ 1 rfl,rfl,_,rfl,a,c.part,dx,_,_,rfl,ha,O.part.cl,O.part.at_ 2 rfl,rfl,_,_,rfl,k⟩
abbrev fi:Stmt:=top 38
theorem nR:aD ["part"] ["part"] (aq fi):=sco rfl rfl rfl rfl (by decide +kernel)
def b7(c:Cs):Sp:=fun vs H Q _=>∃v p,vs=[v]/\dJ c H v p/\qh H Q (ai.CK p)
theorem nS(O:cQ K c)(cO:bq P w K mg base "voltage_between" ["first","second"] 1 gC)(G:d9 K mg "controlling_voltage" fi ["part"]):bq P w K mg base "controlling_voltage" ["part"] 2 (b7 c):=by
 have sc:=nR
 refine G.fg sc (fun vs H Q E ⟨v,p,e,_⟩=>by rw[e];rfl) fun f cdv A outer s H vs Q E hr h=> ?_
 obtain⟨v,p,rfl,⟨a,dx,rfl,ha⟩,k⟩:=h
 refine⟨_,(au (aB (aA cO (hr.mono (by decide)) rfl (aa (aw K (pv 0) rfl) (aa (aw K (pv 0) rfl) ah))))),?_⟩
 exact⟨_,rfl,a,c.part,dx,_,_,rfl,ha,O.part.cl,O.part.at_ 3 rfl,rfl,_,rfl,a,c.part,dx,_,_,rfl,ha,O.part.cl,O.part.at_ 4 rfl,rfl,_,_,rfl,k⟩
theorem Dx{H H1:Hp}{p t q:Addr}{x:Int}{l:List Int}(s1:aJ H H1)(np:H p=none)(h1:H1 p=some (.lst (l.map V.int)))(ht:H1 t=none)(hq:upd H1 t (.tup [.int x,.ref p]) q=none):
  aJ H (upd (upd H1 t (.tup [.int x,.ref p])) q (.lst [.ref t]))/\nO (cq H) (upd (upd H1 t (.tup [.int x,.ref p])) q (.lst [.ref t])) (.ref q) [(x,l)]:=by
 have s2:=ay (o:= .tup [.int x,.ref p]) ht
 have s3:=ay (o:= .lst [.ref t]) hq
 refine⟨(s1.trans s2).trans s3,q,_,rfl,fun z=>z ((s1.trans s2).free hq),ak,.cons ⟨t,.ref p,rfl,fun z=>z (s1.free ht),s3 _ _ ak,p,rfl,fun z=>z np,s3 _ _ (s2 _ _ h1)⟩ .nil⟩
abbrev nU:Stmt:=top 39
theorem A3:aD ["setting","k"] ["setting","k"] (aq nU):=sco rfl rfl rfl rfl (by decide +kernel)
def bR(c:Cs):Sp:=fun vs H Q _=>∃v g k,vs=[v,.int k]/\i6 c H v g/\0<=k/\k<g.aO.af.length/\qh H Q (ai.cur g k)
theorem places_len(n:ai.Nw):(ai.places n).length=n.af.length:=nP _ _
theorem A4(O:cQ K c)(G:d9 K mg "current_of" nU ["setting","k"]):bq P w K mg base "current_of" ["setting","k"] 1 (bR c):=by
 have sc:=A3
 refine G.fg sc (fun vs H Q E ⟨v,g,k,e,_⟩=>by rw[e];rfl) fun f cdv A outer s H vs Q E hr h=> ?_
 obtain⟨v,g,k,rfl,⟨a,dx,vn,vs,vst,vd,vp,rfl,ha,hn,hs,hst,hd,⟨pa,rfl,hpl⟩⟩,k0,k1,kk⟩:=h
 refine⟨_,(au (aB (aN (aa (cP (aa (aY (fE K) (aw K (pv 0) rfl) (pv 1) (fun _ _=>rfl)) (aa (aN (aa aF ah)) ah))) ah)))),?_⟩
 have hj:k.toNat<(ai.places g.aO).length:=by rw[places_len];lia
 refine⟨_,rfl,a,c.dI,dx,_,_,rfl,ha,O.dI.cl,O.dI.at_ 4 rfl,rfl,_,rfl,pa,_,_,_,rfl,rfl,.of hpl,aS (j:=k.toNat) (by lia) (fF hj),ax (by simp),fun p hp=>⟨ax (by simp),fun t ht=>⟨ax (by simp),fun q hq=> ?_⟩⟩⟩
 obtain⟨s1,h1⟩:=Dx (l:=[1]) (x:=(ai.places g.aO).getD k.toNat 0) (ay hp) hp ak ht hq
 exact kk _ _ s1 h1
abbrev uI:Stmt:=top 40
theorem JC:aD ["terms","polynomial","place","factor"] ["terms","polynomial"] (aq uI):=sco rfl rfl rfl rfl (by decide +kernel)
def jC:Sp:=fun vs H Q _=>∃v u ts p,vs=[v,u]/\nO (fun _=>False) H v ts/\bP H u p/\jm ts/\ts.length<=1000/\Short p/\qh H Q (ai.nh ts p)
theorem JD(eJ:bq P w K mg base "multiplied" ["left","right"] 1 md)(G:d9 K mg "scaled" uI ["terms","polynomial"]):bq P w K mg base "scaled" ["terms","polynomial"] 2 jC:=by
 have sc:=JC
 refine G.fg sc (fun vs H Q E ⟨v,u,ts,p,e,_⟩=>by rw[e];rfl) fun f cdv A outer s H vs Q E hr h=> ?_
 obtain⟨v,u,ts,p,rfl,⟨a,us,rfl,_,ha,hts⟩,pu,hun,hl,hs,k⟩:=h
 have ll:=hts.length
 refine⟨_,(au (aB (iW rfl sc.nd (bS (pv 0)) (bN (own:=[("place",2),("factor",3)]) (by show jo ["terms","polynomial","place","factor"] (aq uI) _ _=true;decide +kernel)) (fun _ _ _ _ _=>(gP K (n:=2) rfl (bM (aM (i:=2) sc.nd rfl (Or.inl rfl)) (bM (aM (i:=3) sc.nd rfl (Or.inl rfl)) gM)))) (fun _ _ _ _ _=>cH) (fun _ _ _ _ _=>(cP (aa (pv 2) (aa (aA eJ (hr.mono (by decide)) rfl (aa (pv 3) (aa (pv 1) ah))) ah))))))),?_⟩
 refine⟨_,rfl,a,rfl,⟨_,.of ha⟩,fun D hD=>ks (bT (.of ha)) hD (fun i H' acc=>Paired (hW (b5 (cq H) D) H') acc (ai.nh (ts.take i) p)) .nil ?_ ?_⟩
 ·rintro i x H1 H2 acc hi s1 hD1 hacc s2 s12 hD2 hx
  obtain⟨t,ht,tt⟩:=hts.jd hx
  obtain⟨ta,tp,rfl,_,hta,htp⟩:=eX.same tt s2
  have lacc:=hacc.length
  refine⟨ta,_,rfl,.of hta,rfl,_,_,rfl,_,_,rfl,rfl,rfl,?_⟩
  obtain⟨u1,u2⟩:=hun t (List.mem_of_getElem? ht)
  refine⟨_,rfl,_,rfl,_,rfl,_,_,_,_,rfl,htp.at_,pu.same s2,by unfold Short;lia,hs,fun x hx y _=>Lz (u2 x hx) y,fun q H3 hq s3 hq3=> ?_⟩
  refine⟨ax (by simp),fun r hr'=> ?_⟩
  have s4:=ay (o:= .tup [.int t.1,.ref q]) hr'
  have nq:¬b5 (cq H) D q:=fun h=>h.elim (fun y=>y (s2.free hq)) (fun y=>by rw[y,hD2] at hq;cases hq)
  have nr:¬b5 (cq H) D r:=fun h=>h.elim (fun y=>y ((s2.trans s3).free hr')) (fun y=>by rw[y,s3 _ _ hD2] at hr';cases hr')
  refine cT hD ((s2.trans s3).trans s4) (s4 _ _ (s3 _ _ hD2)) ?_ ?_
  ·rw[lacc]
   unfold ai.nh
   rw[lMp,List.length_take]
   exact aH (by lia)
  ·have e1:ai.nh (ts.take (i+1)) p=ai.nh (ts.take i) p ++ [(t.1,ai.de t.2 p)]:=by
    unfold ai.nh
    exact bh _ _ _ _ ht
   rw[e1]
   exact Fh (hacc.eY eX ((s12.trans s3).trans s4)) ⟨r,.ref q,rfl,nr,ak,q,rfl,nq,s4 _ _ hq3⟩
 ·intro H1 acc s1 hD1 hacc
  rw[ll,List.take_length] at hacc
  exact k _ H1 s1 ⟨D,acc,rfl,fun z=>z hD,hD1,hacc.J3 eX⟩
theorem Iv{H H1 H2:Hp}{x y:V}{ts us:List (Int×List Int)}(s1:aJ H H1)(s2:aJ H1 H2)(hx:nO (cq H) H1 x ts)(hy:nO (cq H1) H2 y us)(hl:ts.length+us.length<=1000){Q:VK}(k:qh H Q (ts ++ us)):Oe x y H2 Q:=by
 obtain⟨a,vs,rfl,na,ha,pa⟩:=hx
 obtain⟨b,ws,rfl,nb,hb,pb⟩:=hy
 have l1:=pa.length
 have l2:=pb.length
 refine⟨a,b,vs,ws,rfl,rfl,s2 _ _ ha,hb,ax (by lia),fun p hp=> ?_⟩
 have s3:=ay (o:= .lst (vs ++ ws)) hp
 have s12:=s1.trans s2
 exact k _ _ (s12.trans s3) ⟨p,_,rfl,fun z=>z (s12.free hp),ak,((pa.eY eX s2).eY eX s3).app (PySem.Paired.dO (pb.eY eX s3) fun _ _ q=>eX.less q (cu s1))⟩
theorem jv(ts:List (Int×List Int))(p:List Int):(ai.nh ts p).length=ts.length:=by unfold ai.nh;simp
theorem mP(x:Int):Short (ai.cst x):=by
 unfold Short ai.cst
 split <;>simp
abbrev jT:Stmt:=top 41
theorem xR:aD ["part","left","right"] ["part","left","right"] (aq jT):=sco rfl rfl rfl rfl (by decide +kernel)
def b9(c:Cs):Sp:=fun vs H Q _=>∃v x y p l r,vs=[v,x,y]/\dJ c H v p/\nO (fun _=>False) H x l/\nO (fun _=>False) H y r/\jm l/\jm r/\l.length<=100/\r.length<=100/\qh H Q (ai.jJ p l r)
theorem xS(O:cQ K c)(cR:bq P w K mg base "constant" ["x"] 1 lE)(cw:bq P w K mg base "scaled" ["terms","polynomial"] 2 jC)(G:d9 K mg "times_number" jT ["part","left","right"]):bq P w K mg base "times_number" ["part","left","right"] 3 (b9 c):=by
 have sc:=xR
 refine G.fg sc (fun vs H Q E ⟨v,x,y,p,l,r,e,_⟩=>by rw[e];rfl) fun f cdv A outer s H vs Q E hr h=> ?_
 obtain⟨v,x,y,p,l,r,rfl,⟨a,dx,rfl,ha⟩,hx,hy,ul,ur,ll,lr,k⟩:=h
 refine⟨_,(au (aB (bu mY (aA cw (hr.mono (by decide)) rfl (aa (pv 1) (aa (aA cR (hr.mono (by decide)) rfl (aa (aw K (pv 0) rfl) ah)) ah))) (aA cw (hr.mono (by decide)) rfl (aa (pv 2) (aa (aA cR (hr.mono (by decide)) rfl (aa (gN eC (aw K (pv 0) rfl)) ah)) ah)))))),?_⟩
 refine⟨_,rfl,_,rfl,a,c.part,dx,_,_,rfl,ha,O.part.cl,O.part.at_ 6 rfl,rfl,_,rfl,fun q H1 hq s1 hq1=> ?_⟩
 refine⟨_,_,_,_,rfl,br.same hx s1,⟨q,rfl,hq1⟩,ul,by lia,mP _,fun z H2 s2 hz=> ?_⟩
 have hz':=br.less hz (cu s1)
 have s12:=s1.trans s2
 refine⟨_,rfl,_,rfl,a,c.part,dx,_,_,rfl,s12 _ _ ha,O.part.cl,O.part.at_ 5 rfl,rfl,_,rfl,_,rfl,fun q2 H3 hq2 s3 hq3=> ?_⟩
 refine⟨_,_,_,_,rfl,br.same hy (s12.trans s3),⟨q2,rfl,hq3⟩,ur,by lia,mP _,fun z2 H4 s4 hz2=> ?_⟩
 exact Iv s12 (s3.trans s4) hz' (br.less hz2 (cu s3)) (by rw[jv,jv];lia) k
abbrev jU:Stmt:=top 42
theorem xT:aD ["setting","k","terms","drive"] ["setting","k","terms"] (aq jU):=sco rfl rfl rfl rfl (by decide +kernel)
def je(c:Cs):Sp:=fun vs H Q _=>∃v x g k ts,vs=[v,.int (k:Nat),x]/\i6 c H v g/\k<g.drives.length/\nO (fun _=>False) H x ts/\jm ts/\ts.length<=100/\qh H Q (ai.Ep g k ts)
theorem xU(O:cQ K c)(cR:bq P w K mg base "constant" ["x"] 1 lE)(cw:bq P w K mg base "scaled" ["terms","polynomial"] 2 jC)(G:d9 K mg "set_to_drive" jU ["setting","k","terms"]):bq P w K mg base "set_to_drive" ["setting","k","terms"] 3 (je c):=by
 have sc:=xT
 refine G.fg sc (fun vs H Q E ⟨v,x,g,k,ts,e,_⟩=>by rw[e];rfl) fun f cdv A outer s H vs Q E hr h=> ?_
 obtain⟨v,x,g,k,ts,rfl,⟨a,dx,vn,vs,vst,vd,vp,rfl,ha,hn,hs,hst,⟨da,ds,rfl,hda,hds⟩,hpl⟩,hk,hx,ut,lt,kk⟩:=h
 refine⟨_,(aj (aI (i:=3) sc.nd rfl (by first|left;rfl|right;rfl) (aY (fE K) (aw K (pv 0) rfl) (pv 1) (fun _ _=>rfl)))
   (au (aB (bu mY (aA cw (hr.mono (by decide)) rfl (aa (pv 2) (aa (aA cR (hr.mono (by decide)) rfl (aa (aY (QN K) (pv 3) aF (fun _ _=>rfl)) ah)) ah))) (aN (aa (cP (aa (aw K (pv 0) rfl) (aa (aA cR (hr.mono (by decide)) rfl (aa (aY (QN K) (pv 3) aF (fun _ _=>rfl)) ah)) ah))) ah)))))),?_⟩
 obtain⟨u,hu,t,rfl,ht⟩:=hds.gB (az (d:=(0,1)) hk)
 refine⟨_,rfl,a,c.dI,dx,_,_,rfl,ha,O.dI.cl,O.dI.at_ 3 rfl,rfl,_,rfl,da,_,_,_,rfl,rfl,.of hda,aS (j:=k) rfl hu,?_⟩
 refine⟨_,rfl,_,rfl,t,_,_,_,rfl,rfl,.of ht,aS (j:=1) rfl rfl,_,rfl,fun q H1 hq s1 hq1=> ?_⟩
 refine⟨_,_,_,_,rfl,br.same hx s1,⟨q,rfl,hq1⟩,ut,by lia,mP _,fun z H2 s2 hz=> ?_⟩
 have hz':=br.less hz (cu s1)
 have s12:=s1.trans s2
 refine⟨_,rfl,a,c.dI,dx,_,_,rfl,s12 _ _ ha,O.dI.cl,O.dI.at_ 5 rfl,rfl,_,rfl,t,_,_,_,rfl,rfl,.of (s12 _ _ ht),aS (j:=0) rfl rfl,_,rfl,fun q2 H3 hq2 s3 hq3=> ?_⟩
 refine⟨ax (by simp),fun r hr'=>⟨ax (by simp),fun b hb=> ?_⟩⟩
 obtain⟨s4,h4⟩:=Dx (l:=ai.cst (g.drives.getD k (0,1)).1) (x:=ai.width g.aO) s3 hq2 hq3 hr' hb
 exact Iv s12 s4 hz' h4 (by rw[jv];simp;lia) kk
end
def uJ(H:Hp)(Q:VK)(L:List (List (Int×List Int))):Prop:=∀z H',aJ H H'->QC (cq H) H' z L->Q z H'
theorem d5{H H1:Hp}{x:V}{ts:List (Int×List Int)}{Q:VK}(s:aJ H H1)(h:nO (cq H) H1 x ts)(k:uJ H Q [ts]):∀p,H1 p=none->Q (.ref p) (upd H1 p (.lst [x])):=fun p hp=>
 k _ _ (s.trans (ay hp)) ⟨p,_,rfl,fun z=>z (s.free hp),ak,.cons (br.same h (ay hp)) .nil⟩
structure QO(g:ai.gK):Prop where
 af:g.aO.af.length<=20
 st:g.cU.length=g.aO.af.length
 dr:g.drives.length=g.aO.af.length
 s:g.s=[]\/g.s=[0,1]
theorem mQ(x y:Int):jm (ai.Eo x y)/\(ai.Eo x y).length<=2:=by
 unfold ai.Eo jm
 refine⟨fun t ht=> ?_,?_⟩
 ·rcases List.mem_append.mp ht with h |h
  ·split at h
   ·have:t=(x - 1,[1]):=by simpa using h
    subst this
    simp
   ·cases h
  ·split at h
   ·have:t=(y - 1,[-1]):=by simpa using h
    subst this
    simp
   ·cases h
 ·split <;>split <;>simp
theorem wq(g:ai.gK)(k:Int):jm (ai.cur g k)/\(ai.cur g k).length<=2:=by
 unfold ai.cur jm
 refine⟨fun t ht=> ?_,by simp⟩
 have:t=((ai.places g.aO).getD k.toNat 0,[1]):=by simpa using ht
 subst this
 simp
theorem JE{l p:List Int}(hl:l.length<=100/\∀x∈l,x.natAbs<=1)(hl1:l.length<=1)(hp:p=[]\/p=[0,1]\/p=[-1]):(ai.de l p).length<=2/\∀x∈ai.de l p,x.natAbs<=1:=by
 match l,hl1 with
 |[],_=>simp[ai.de]
 |[z],_=>
  have hz:=hl.2 z (by simp)
  rcases hp with rfl |rfl |rfl
  ·simp[ai.de]
  ·have e:ai.de [z] [0,1]=[z*0+0,z*1]:=rfl
   rw[e]
   refine⟨by simp,fun x hx=> ?_⟩
   simp at hx
   rcases hx with rfl |rfl
   ·simp
   ·exact hz
  ·have e:ai.de [z] [-1]=[z*(-1)+0]:=rfl
   rw[e]
   refine⟨by simp,fun x hx=> ?_⟩
   simp at hx
   subst hx
   lia
def One(ts:List (Int×List Int)):Prop:=∀t∈ts,t.2.length<=1
theorem wu{ts:List (Int×List Int)}{p:List Int}(h:jm ts)(h1:One ts)(hp:p=[]\/p=[0,1]\/p=[-1]):jm (ai.nh ts p):=fun t ht=>by
 unfold ai.nh at ht
 obtain⟨u,hu,rfl⟩:=List.mem_map.mp ht
 have:=JE (h u hu) (h1 u hu) hp
 exact⟨by have:=this.1;show(ai.de u.2 p).length<=100;lia,this.2⟩
theorem MP(x y:Int):One (ai.Eo x y):=by
 unfold ai.Eo One
 intro t ht
 rcases List.mem_append.mp ht with h |h
 ·split at h
  ·have:t=(x - 1,[1]):=by simpa using h
   subst this
   simp
  ·cases h
 ·split at h
  ·have:t=(y - 1,[-1]):=by simpa using h
   subst this
   simp
  ·cases h
theorem Iw(g:ai.gK)(k:Int):One (ai.cur g k):=by
 unfold ai.cur One
 intro t ht
 have:t=((ai.places g.aO).getD k.toNat 0,[1]):=by simpa using ht
 subst this
 simp
section
variable {P:Program}{w:World}{K:PySem.W.Frag}{mg:Str->Option Value}{base:Heap}{c:Cs}
theorem LA(O:cQ K c){H:Hp}{v:V}{g:ai.gK}(hg:i6 c H v g){σ:L2.St}(h0:σ[0]? =some (some v)){Q:VK}(q:∀a ws,H a=some (.lst ws)->Paired (dJ c H) ws g.aO.af->Q (.ref a) H):
  IP K (IP K (rH 0) "network") "parts" σ H Q:=by
 obtain⟨a,dx,vn,vs,vst,vd,vp,rfl,ha,⟨na,ndx,nvp,rfl,hna,pa,ws,rfl,hpa,hps⟩,hs,hst,hd,hpl⟩:=hg
 exact⟨_,h0,a,c.dI,dx,_,_,rfl,ha,O.dI.cl,O.dI.at_ 0 rfl,rfl,na,c.aO,ndx,_,_,rfl,hna,O.aO.cl,O.aO.at_ 1 rfl,rfl,q pa ws hpa hps⟩
theorem iU(O:cQ K c){H:Hp}{v:V}{g:ai.gK}(hg:i6 c H v g){k:Nat}(hk:k<g.aO.af.length){σ:L2.St}(h0:σ[0]? =some (some v))(h1:σ[1]? =some (some (.int (k:Int)))){Q:VK}(q:∀u,dJ c H u (g.aO.af.getD k ai.p0)->Q u H):
  Nf (NY K) (IP K (IP K (rH 0) "network") "parts") (rH 1) σ H Q:=by
 refine LA O hg h0 fun a ws ha hps=> ?_
 obtain⟨u,hu,pu⟩:=hps.gB (az (d:=ai.p0) hk)
 exact⟨_,h1,a,_,_,_,rfl,rfl,.of ha,aS (j:=k) rfl hu,q u pu⟩
def fj(c:Cs)(kd:ai.gK->Nat->Prop)(F:ai.gK->Nat->List (List (Int×List Int))):Sp:=fun vs H Q _=>∃v g k,vs=[v,.int ((k:Nat):Int)]/\i6 c H v g/\QO g/\k<g.aO.af.length/\kd g k/\uJ H Q (F g k)
theorem b8{c:Cs}{kd:ai.gK->Nat->Prop}{F:ai.gK->Nat->List (List (Int×List Int))}:∀vs H Q E,fj c kd F vs H Q E->vs.length=(["setting","k"]:List Str).length:=fun vs H Q E ⟨v,g,k,e,_⟩=>by rw[e];rfl
abbrev pat(g:ai.gK)(k:Nat):ai.Part:=g.aO.af.getD k ai.p0
theorem xG(p:ai.Part):(ai.jl p).length<=100:=Nat.le_trans (mQ _ _).2 (by decide)
theorem LC(p:ai.Part):(ai.CK p).length<=100:=Nat.le_trans (mQ _ _).2 (by decide)
theorem qj(g:ai.gK)(k:Int):(ai.cur g k).length<=100:=Nat.le_trans (wq _ _).2 (by decide)
theorem Nv(p:ai.Part):jm (ai.jl p):=(mQ _ _).1
theorem Ru(p:ai.Part):jm (ai.CK p):=(mQ _ _).1
theorem LD(g:ai.gK)(k:Int):jm (ai.cur g k):=(wq _ _).1
theorem toF{S:Addr->Prop}{H:Hp}{v:V}{ts:List (Int×List Int)}(h:nO S H v ts):nO (fun _=>False) H v ts:=br.less h (fun _ h=>h.elim)
abbrev xV:ai.gK->Nat->Prop:=fun _ _=>True
abbrev Rw:ai.gK->Nat->Prop:=fun g k=>0<=(pat g k).c/\(pat g k).c<g.aO.af.length
abbrev jf:Stmt:=top 43
theorem wx:aD ["setting","k","part"] ["setting","k"] (aq jf):=sco rfl rfl rfl rfl (by decide +kernel)
theorem wy(O:cQ K c)(aP:bq P w K mg base "times_number" ["part","left","right"] 3 (b9 c))(aT:bq P w K mg base "voltage_of" ["part"] 2 (cC c))(aK:bq P w K mg base "current_of" ["setting","k"] 1 (bR c))(G:d9 K mg "resistor_laws" jf ["setting","k"]):bq P w K mg base "resistor_laws" ["setting","k"] 5 (fj c xV fun g k=>[ai.jJ (pat g k) (ai.jl (pat g k)) (ai.cur g k)]):=by
 have sc:=wx
 refine G.fg sc b8 fun f cdv A outer s H vs Q E hr h=> ?_
 obtain⟨v,g,k,rfl,hg,ok,hk,kd,kk⟩:=h
 refine⟨_,(aj (aI (i:=2) sc.nd rfl (by first|left;rfl|right;rfl) (aY (fE K) (aw K (aw K (pv 0) rfl) rfl) (pv 1) (fun _ _=>rfl)))
   (au (aB (aN (aa (aA aP (hr.mono (by decide)) rfl (aa (pv 2) (aa (aA aT (hr.mono (by decide)) rfl (aa (pv 2) ah)) (aa (aA aK (hr.mono (by decide)) rfl (aa (pv 0) (aa (pv 1) ah))) ah)))) ah))))),?_⟩
 refine iU O hg hk rfl rfl fun u hu=> ?_
 refine⟨_,rfl,?_⟩
 refine⟨_,rfl,_,_,rfl,hu,fun x1 H1 t1 hx1=> ?_⟩
 refine⟨_,rfl,_,rfl,_,_,_,rfl,hg.same t1,by lia,by lia,fun x2 H2 t2 hx2=> ?_⟩
 refine⟨_,_,_,_,_,_,rfl,hu.same (t1.trans t2),toF (br.same hx1 t2),toF hx2,Nv _,LD _ _,xG _,qj _ _,fun z H3 s3 hz=> ?_⟩
 exact⟨ax (by simp),d5 ((t1.trans t2).trans s3) (br.less hz (cu (t1.trans t2))) kk⟩
abbrev df:Stmt:=top 50
theorem jV:aD ["setting","k","part"] ["setting","k"] (aq df):=sco rfl rfl rfl rfl (by decide +kernel)
theorem jW(O:cQ K c)(aP:bq P w K mg base "times_number" ["part","left","right"] 3 (b9 c))(aT:bq P w K mg base "voltage_of" ["part"] 2 (cC c))(aV:bq P w K mg base "controlling_voltage" ["part"] 2 (b7 c))(G:d9 K mg "voltage_by_voltage_laws" df ["setting","k"]):bq P w K mg base "voltage_by_voltage_laws" ["setting","k"] 5 (fj c xV fun g k=>[ai.jJ (pat g k) (ai.jl (pat g k)) (ai.CK (pat g k))]):=by
 have sc:=jV
 refine G.fg sc b8 fun f cdv A outer s H vs Q E hr h=> ?_
 obtain⟨v,g,k,rfl,hg,ok,hk,kd,kk⟩:=h
 refine⟨_,(aj (aI (i:=2) sc.nd rfl (by first|left;rfl|right;rfl) (aY (fE K) (aw K (aw K (pv 0) rfl) rfl) (pv 1) (fun _ _=>rfl)))
   (au (aB (aN (aa (aA aP (hr.mono (by decide)) rfl (aa (pv 2) (aa (aA aT (hr.mono (by decide)) rfl (aa (pv 2) ah)) (aa (aA aV (hr.mono (by decide)) rfl (aa (pv 2) ah)) ah)))) ah))))),?_⟩
 refine iU O hg hk rfl rfl fun u hu=> ?_
 refine⟨_,rfl,?_⟩
 refine⟨_,rfl,_,_,rfl,hu,fun x1 H1 t1 hx1=> ?_⟩
 refine⟨_,rfl,_,_,rfl,hu.same t1,fun x2 H2 t2 hx2=> ?_⟩
 refine⟨_,_,_,_,_,_,rfl,hu.same (t1.trans t2),toF (br.same hx1 t2),toF hx2,Nv _,Ru _,xG _,LC _,fun z H3 s3 hz=> ?_⟩
 exact⟨ax (by simp),d5 ((t1.trans t2).trans s3) (br.less hz (cu (t1.trans t2))) kk⟩
abbrev dh:Stmt:=top 51
theorem jX:aD ["setting","k","part"] ["setting","k"] (aq dh):=sco rfl rfl rfl rfl (by decide +kernel)
theorem jY(O:cQ K c)(aP:bq P w K mg base "times_number" ["part","left","right"] 3 (b9 c))(aK:bq P w K mg base "current_of" ["setting","k"] 1 (bR c))(aV:bq P w K mg base "controlling_voltage" ["part"] 2 (b7 c))(G:d9 K mg "current_by_voltage_laws" dh ["setting","k"]):bq P w K mg base "current_by_voltage_laws" ["setting","k"] 5 (fj c xV fun g k=>[ai.jJ (pat g k) (ai.cur g k) (ai.CK (pat g k))]):=by
 have sc:=jX
 refine G.fg sc b8 fun f cdv A outer s H vs Q E hr h=> ?_
 obtain⟨v,g,k,rfl,hg,ok,hk,kd,kk⟩:=h
 refine⟨_,(aj (aI (i:=2) sc.nd rfl (by first|left;rfl|right;rfl) (aY (fE K) (aw K (aw K (pv 0) rfl) rfl) (pv 1) (fun _ _=>rfl)))
   (au (aB (aN (aa (aA aP (hr.mono (by decide)) rfl (aa (pv 2) (aa (aA aK (hr.mono (by decide)) rfl (aa (pv 0) (aa (pv 1) ah))) (aa (aA aV (hr.mono (by decide)) rfl (aa (pv 2) ah)) ah)))) ah))))),?_⟩
 refine iU O hg hk rfl rfl fun u hu=> ?_
 refine⟨_,rfl,?_⟩
 refine⟨_,rfl,_,rfl,_,_,_,rfl,hg,by lia,by lia,fun x1 H1 t1 hx1=> ?_⟩
 refine⟨_,rfl,_,_,rfl,hu.same t1,fun x2 H2 t2 hx2=> ?_⟩
 refine⟨_,_,_,_,_,_,rfl,hu.same (t1.trans t2),toF (br.same hx1 t2),toF hx2,LD _ _,Ru _,qj _ _,LC _,fun z H3 s3 hz=> ?_⟩
 exact⟨ax (by simp),d5 ((t1.trans t2).trans s3) (br.less hz (cu (t1.trans t2))) kk⟩
abbrev di:Stmt:=top 52
theorem jZ:aD ["setting","k","part"] ["setting","k"] (aq di):=sco rfl rfl rfl rfl (by decide +kernel)
theorem j0(O:cQ K c)(aP:bq P w K mg base "times_number" ["part","left","right"] 3 (b9 c))(aT:bq P w K mg base "voltage_of" ["part"] 2 (cC c))(aK:bq P w K mg base "current_of" ["setting","k"] 1 (bR c))(G:d9 K mg "voltage_by_current_laws" di ["setting","k"]):bq P w K mg base "voltage_by_current_laws" ["setting","k"] 5 (fj c Rw fun g k=>[ai.jJ (pat g k) (ai.jl (pat g k)) (ai.cur g (pat g k).c)]):=by
 have sc:=jZ
 refine G.fg sc b8 fun f cdv A outer s H vs Q E hr h=> ?_
 obtain⟨v,g,k,rfl,hg,ok,hk,kd,kk⟩:=h
 refine⟨_,(aj (aI (i:=2) sc.nd rfl (by first|left;rfl|right;rfl) (aY (fE K) (aw K (aw K (pv 0) rfl) rfl) (pv 1) (fun _ _=>rfl)))
   (au (aB (aN (aa (aA aP (hr.mono (by decide)) rfl (aa (pv 2) (aa (aA aT (hr.mono (by decide)) rfl (aa (pv 2) ah)) (aa (aA aK (hr.mono (by decide)) rfl (aa (pv 0) (aa (aw K (pv 2) rfl) ah))) ah)))) ah))))),?_⟩
 refine iU O hg hk rfl rfl fun u hu=> ?_
 obtain⟨pa,pdx,rfl,hpa⟩:=id hu
 refine⟨_,rfl,?_⟩
 refine⟨_,rfl,_,_,rfl,hu,fun x1 H1 t1 hx1=> ?_⟩
 refine⟨_,rfl,_,rfl,pa,c.part,pdx,_,_,rfl,t1 _ _ hpa,O.part.cl,O.part.at_ 3 rfl,rfl,_,_,_,rfl,hg.same t1,kd.1,kd.2,fun x2 H2 t2 hx2=> ?_⟩
 refine⟨_,_,_,_,_,_,rfl,hu.same (t1.trans t2),toF (br.same hx1 t2),toF hx2,Nv _,LD _ _,xG _,qj _ _,fun z H3 s3 hz=> ?_⟩
 exact⟨ax (by simp),d5 ((t1.trans t2).trans s3) (br.less hz (cu (t1.trans t2))) kk⟩
abbrev dj:Stmt:=top 53
theorem j3:aD ["setting","k","part"] ["setting","k"] (aq dj):=sco rfl rfl rfl rfl (by decide +kernel)
theorem j4(O:cQ K c)(aP:bq P w K mg base "times_number" ["part","left","right"] 3 (b9 c))(aK:bq P w K mg base "current_of" ["setting","k"] 1 (bR c))(G:d9 K mg "current_by_current_laws" dj ["setting","k"]):bq P w K mg base "current_by_current_laws" ["setting","k"] 5 (fj c Rw fun g k=>[ai.jJ (pat g k) (ai.cur g k) (ai.cur g (pat g k).c)]):=by
 have sc:=j3
 refine G.fg sc b8 fun f cdv A outer s H vs Q E hr h=> ?_
 obtain⟨v,g,k,rfl,hg,ok,hk,kd,kk⟩:=h
 refine⟨_,(aj (aI (i:=2) sc.nd rfl (by first|left;rfl|right;rfl) (aY (fE K) (aw K (aw K (pv 0) rfl) rfl) (pv 1) (fun _ _=>rfl)))
   (au (aB (aN (aa (aA aP (hr.mono (by decide)) rfl (aa (pv 2) (aa (aA aK (hr.mono (by decide)) rfl (aa (pv 0) (aa (pv 1) ah))) (aa (aA aK (hr.mono (by decide)) rfl (aa (pv 0) (aa (aw K (pv 2) rfl) ah))) ah)))) ah))))),?_⟩
 refine iU O hg hk rfl rfl fun u hu=> ?_
 obtain⟨pa,pdx,rfl,hpa⟩:=id hu
 refine⟨_,rfl,?_⟩
 refine⟨_,rfl,_,rfl,_,_,_,rfl,hg,by lia,by lia,fun x1 H1 t1 hx1=> ?_⟩
 refine⟨_,rfl,_,rfl,pa,c.part,pdx,_,_,rfl,t1 _ _ hpa,O.part.cl,O.part.at_ 3 rfl,rfl,_,_,_,rfl,hg.same t1,kd.1,kd.2,fun x2 H2 t2 hx2=> ?_⟩
 refine⟨_,_,_,_,_,_,rfl,hu.same (t1.trans t2),toF (br.same hx1 t2),toF hx2,LD _ _,LD _ _,qj _ _,qj _ _,fun z H3 s3 hz=> ?_⟩
 exact⟨ax (by simp),d5 ((t1.trans t2).trans s3) (br.less hz (cu (t1.trans t2))) kk⟩
abbrev iy:Stmt:=top 44
theorem uK:aD ["setting","k","part"] ["setting","k"] (aq iy):=sco rfl rfl rfl rfl (by decide +kernel)
theorem uL(O:cQ K c)(aP:bq P w K mg base "times_number" ["part","left","right"] 3 (b9 c))(aT:bq P w K mg base "voltage_of" ["part"] 2 (cC c))(aK:bq P w K mg base "current_of" ["setting","k"] 1 (bR c))(cw:bq P w K mg base "scaled" ["terms","polynomial"] 2 jC)(G:d9 K mg "capacitor_laws" iy ["setting","k"]):bq P w K mg base "capacitor_laws" ["setting","k"] 5 (fj c xV fun g k=>[ai.jJ (pat g k) (ai.cur g k) (ai.nh (ai.jl (pat g k)) g.s)]):=by
 have sc:=uK
 refine G.fg sc b8 fun f cdv A outer s H vs Q E hr h=> ?_
 obtain⟨v,g,k,rfl,hg,ok,hk,kd,kk⟩:=h
 refine⟨_,(aj (aI (i:=2) sc.nd rfl (by first|left;rfl|right;rfl) (aY (fE K) (aw K (aw K (pv 0) rfl) rfl) (pv 1) (fun _ _=>rfl)))
   (au (aB (aN (aa (aA aP (hr.mono (by decide)) rfl (aa (pv 2) (aa (aA aK (hr.mono (by decide)) rfl (aa (pv 0) (aa (pv 1) ah))) (aa (aA cw (hr.mono (by decide)) rfl (aa (aA aT (hr.mono (by decide)) rfl (aa (pv 2) ah)) (aa (aw K (pv 0) rfl) ah))) ah)))) ah))))),?_⟩
 refine iU O hg hk rfl rfl fun u hu=> ?_
 refine⟨_,rfl,?_⟩
 refine⟨_,rfl,_,rfl,_,_,_,rfl,hg,by lia,by lia,fun x1 H1 t1 hx1=> ?_⟩
 refine⟨_,rfl,_,_,rfl,hu.same t1,fun x2 H2 t2 hx2=> ?_⟩
 have hg2:=hg.same (t1.trans t2)
 obtain⟨a,dx,vn,vs,vst,vd,vp,rfl,ha,_,hs,_⟩:=id hg2
 have lu:jm (ai.nh (ai.jl (pat g k)) g.s):=wu (Nv _) (MP _ _) (ok.s.elim .inl fun e=> .inr (.inl e))
 have sh:Short g.s:=by
  unfold Short
  rcases ok.s with e |e <;>rw[e] <;>simp
 refine⟨_,rfl,a,c.dI,dx,_,_,rfl,ha,O.dI.cl,O.dI.at_ 1 rfl,rfl,_,_,_,_,rfl,toF hx2,hs,Nv _,Nat.le_trans (xG _) (by decide),sh,fun x3 H3 t3 hx3=> ?_⟩
 refine⟨_,_,_,_,_,_,rfl,hu.same ((t1.trans t2).trans t3),toF (br.same hx1 (t2.trans t3)),toF hx3,LD _ _,lu,qj _ _,by rw[jv];exact xG _,fun z H4 s4 hz=> ?_⟩
 exact⟨ax (by simp),d5 (((t1.trans t2).trans t3).trans s4) (br.less hz (cu ((t1.trans t2).trans t3))) kk⟩
abbrev jg:Stmt:=top 47
theorem wz:aD ["setting","k"] ["setting","k"] (aq jg):=sco rfl rfl rfl rfl (by decide +kernel)
theorem wA(G:d9 K mg "coupling_laws" jg ["setting","k"]):bq P w K mg base "coupling_laws" ["setting","k"] 5 (fj c xV fun g k=>[]):=by
 have sc:=wz
 refine bq.mono (j:=1) (G.fg sc b8 fun f cdv A outer s H vs Q E hr h=> ?_) (by decide)
 obtain⟨v,g,k,rfl,hg,ok,hk,kd,kk⟩:=h
 refine⟨_,(au (aB (aN ah))),?_⟩
 exact⟨Nat.zero_le _,fun p hp=>kk _ _ (ay hp) ⟨p,_,rfl,fun z=>z hp,ak,.nil⟩⟩
abbrev fk:Stmt:=top 48
theorem nV:aD ["setting","k"] ["setting","k"] (aq fk):=sco rfl rfl rfl rfl (by decide +kernel)
theorem nW(O:cQ K c)(d6:bq P w K mg base "set_to_drive" ["setting","k","terms"] 3 (je c))(aT:bq P w K mg base "voltage_of" ["part"] 2 (cC c))(G:d9 K mg "voltage_source_laws" fk ["setting","k"]):bq P w K mg base "voltage_source_laws" ["setting","k"] 4 (fj c xV fun g k=>[ai.Ep g k (ai.jl (pat g k))]):=by
 have sc:=nV
 refine G.fg sc b8 fun f cdv A outer s H vs Q E hr h=> ?_
 obtain⟨v,g,k,rfl,hg,ok,hk,kd,kk⟩:=h
 refine⟨_,(au (aB (aN (aa (aA d6 (hr.mono (by decide)) rfl (aa (pv 0) (aa (pv 1) (aa (aA aT (hr.mono (by decide)) rfl (aa (aY (fE K) (aw K (aw K (pv 0) rfl) rfl) (pv 1) (fun _ _=>rfl)) ah)) ah)))) ah)))),?_⟩
 refine⟨_,rfl,_,rfl,?_⟩
 refine iU O hg hk rfl rfl fun u hu=> ?_
 refine⟨_,_,rfl,hu,fun x1 H1 t1 hx1=> ?_⟩
 refine⟨_,_,_,_,_,rfl,hg.same t1,by rw[ok.dr];exact hk,toF hx1,Nv _,xG _,fun z H4 s4 hz=> ?_⟩
 exact⟨ax (by simp),d5 (t1.trans s4) (br.less hz (cu t1)) kk⟩
abbrev fm:Stmt:=top 49
theorem nX:aD ["setting","k"] ["setting","k"] (aq fm):=sco rfl rfl rfl rfl (by decide +kernel)
theorem nY(O:cQ K c)(d6:bq P w K mg base "set_to_drive" ["setting","k","terms"] 3 (je c))(aK:bq P w K mg base "current_of" ["setting","k"] 1 (bR c))(G:d9 K mg "current_source_laws" fm ["setting","k"]):bq P w K mg base "current_source_laws" ["setting","k"] 4 (fj c xV fun g k=>[ai.Ep g k (ai.cur g k)]):=by
 have sc:=nX
 refine G.fg sc b8 fun f cdv A outer s H vs Q E hr h=> ?_
 obtain⟨v,g,k,rfl,hg,ok,hk,kd,kk⟩:=h
 refine⟨_,(au (aB (aN (aa (aA d6 (hr.mono (by decide)) rfl (aa (pv 0) (aa (pv 1) (aa (aA aK (hr.mono (by decide)) rfl (aa (pv 0) (aa (pv 1) ah))) ah)))) ah)))),?_⟩
 refine⟨_,rfl,_,rfl,?_⟩
 refine⟨_,rfl,_,rfl,_,_,_,rfl,hg,by lia,by lia,fun x1 H1 t1 hx1=> ?_⟩
 refine⟨_,_,_,_,_,rfl,hg.same t1,by rw[ok.dr];exact hk,toF hx1,LD _ _,qj _ _,fun z H4 s4 hz=> ?_⟩
 exact⟨ax (by simp),d5 (t1.trans s4) (br.less hz (cu t1)) kk⟩
abbrev iz:Stmt:=top 55
theorem uM:aD ["setting","k"] ["setting","k"] (aq iz):=sco rfl rfl rfl rfl (by decide +kernel)
theorem uN(O:cQ K c)(aV:bq P w K mg base "controlling_voltage" ["part"] 2 (b7 c))(G:d9 K mg "amplifier_laws" iz ["setting","k"]):bq P w K mg base "amplifier_laws" ["setting","k"] 3 (fj c xV fun g k=>[ai.CK (pat g k)]):=by
 have sc:=uM
 refine G.fg sc b8 fun f cdv A outer s H vs Q E hr h=> ?_
 obtain⟨v,g,k,rfl,hg,ok,hk,kd,kk⟩:=h
 refine⟨_,(au (aB (aN (aa (aA aV (hr.mono (by decide)) rfl (aa (aY (fE K) (aw K (aw K (pv 0) rfl) rfl) (pv 1) (fun _ _=>rfl)) ah)) ah)))),?_⟩
 refine iU O hg hk rfl rfl fun u hu=> ?_
 refine⟨_,_,rfl,hu,fun x1 H1 t1 hx1=> ?_⟩
 exact⟨ax (by simp),d5 t1 hx1 kk⟩
abbrev mh:Stmt:=top 56
theorem Ae:aD ["setting","k","part"] ["setting","k"] (aq mh):=sco rfl rfl rfl rfl (by decide +kernel)
theorem Af(O:cQ K c)(aK:bq P w K mg base "current_of" ["setting","k"] 1 (bR c))(aT:bq P w K mg base "voltage_of" ["part"] 2 (cC c))(G:d9 K mg "switch_laws" mh ["setting","k"]):bq P w K mg base "switch_laws" ["setting","k"] 3 (fj c xV fun g k=>[if(pat g k).top=0 then ai.cur g k else ai.jl (pat g k)]):=by
 have sc:=Ae
 refine G.fg sc b8 fun f cdv A outer s H vs Q E hr h=> ?_
 obtain⟨v,g,k,rfl,hg,ok,hk,kd,kk⟩:=h
 refine⟨_,(aj (aI (i:=2) sc.nd rfl (by first|left;rfl|right;rfl) (aY (fE K) (aw K (aw K (pv 0) rfl) rfl) (pv 1) (fun _ _=>rfl)))
   (au (aB (aN (aa (jE (bc dX (aw K (pv 2) rfl) aF (a5 _)) (aA aK (hr.mono (by decide)) rfl (aa (pv 0) (aa (pv 1) ah))) (aA aT (hr.mono (by decide)) rfl (aa (pv 2) ah))) ah))))),?_⟩
 refine iU O hg hk rfl rfl fun u hu=> ?_
 obtain⟨pa,pdx,rfl,hpa⟩:=id hu
 change uJ H Q [if(g.aO.af.getD k ai.p0).top=0 then ai.cur g k else ai.jl (g.aO.af.getD k ai.p0)] at kk
 refine⟨_,rfl,pa,c.part,pdx,_,_,rfl,hpa,O.part.cl,O.part.at_ 5 rfl,rfl,rfl,_,rfl,?_⟩
 rw[gn]
 refine Oo (fun h=> ?_) (fun h=> ?_)
 ·rw[if_pos (of_decide_eq_true h)] at kk
  refine⟨_,rfl,_,rfl,_,_,_,rfl,hg,by lia,by lia,fun x1 H1 t1 hx1=> ?_⟩
  exact⟨ax (by simp),d5 t1 hx1 kk⟩
 ·rw[if_neg (fun e=>h (decide_eq_true e))] at kk
  refine⟨_,rfl,_,_,rfl,hu,fun x1 H1 t1 hx1=> ?_⟩
  exact⟨ax (by simp),d5 t1 hx1 kk⟩
abbrev nZ:Stmt:=top 57
theorem A5:aD ["setting","k"] ["setting","k"] (aq nZ):=sco rfl rfl rfl rfl (by decide +kernel)
theorem A6(O:cQ K c)(c8:bq P w K mg base "voltage_source_laws" ["setting","k"] 4 (fj c xV fun g k=>[ai.Ep g k (ai.jl (pat g k))]))(aK:bq P w K mg base "current_of" ["setting","k"] 1 (bR c))(G:d9 K mg "diode_laws" nZ ["setting","k"]):bq P w K mg base "diode_laws" ["setting","k"] 5 (fj c xV fun g k=>if g.cU.getD k false=true then[ai.Ep g k (ai.jl (pat g k))] else[ai.cur g k]):=by
 have sc:=A5
 refine G.fg sc b8 fun f cdv A outer s H vs Q E hr h=> ?_
 obtain⟨v,g,k,rfl,hg,ok,hk,kd,kk⟩:=h
 refine⟨_,(aj (bK (bw K (aY (fE K) (aw K (pv 0) rfl) (pv 1) (fun _ _=>rfl)) (fun _=>rfl)) (au (aB (aA c8 (hr.mono (by decide)) rfl (aa (pv 0) (aa (pv 1) ah))))) aW)
   (au (aB (aN (aa (aA aK (hr.mono (by decide)) rfl (aa (pv 0) (aa (pv 1) ah))) ah))))),?_⟩
 obtain⟨a,dx,vn,vs,vst,vd,vp,rfl,ha,_,hs,⟨sa,rfl,hsa⟩,_⟩:=id hg
 have hb:(g.cU.map V.bl)[k]? =some (.bl (g.cU.getD k false)):=by
  rw[List.getElem?_map,az (d:=false) (by rw[ok.st];exact hk)];rfl
 refine⟨_,rfl,a,c.dI,dx,_,_,rfl,ha,O.dI.cl,O.dI.at_ 2 rfl,rfl,_,rfl,sa,_,_,_,rfl,rfl,.of hsa,aS (j:=k) rfl hb,_,rfl,?_⟩
 change uJ H Q (if g.cU.getD k false=true then[ai.Ep g k (ai.jl (pat g k))] else[ai.cur g k]) at kk
 cases e:g.cU.getD k false with
 |true=>
  rw[e,if_pos rfl] at kk
  exact bx ⟨_,rfl,_,rfl,_,_,_,rfl,hg,ok,hk,trivial,kk⟩
 |false=>
  rw[e,if_neg (by decide)] at kk
  refine bE ⟨_,rfl,_,rfl,_,_,_,rfl,hg,by lia,by lia,fun x1 H1 t1 hx1=> ?_⟩
  exact⟨ax (by simp),d5 t1 hx1 kk⟩
abbrev gD:Stmt:=top 54
theorem rf:aD ["setting","k","part","first","second"] ["setting","k"] (aq gD):=sco rfl rfl rfl rfl (by decide +kernel)
theorem rg(O:cQ K c)(aP:bq P w K mg base "times_number" ["part","left","right"] 3 (b9 c))(aT:bq P w K mg base "voltage_of" ["part"] 2 (cC c))(aV:bq P w K mg base "controlling_voltage" ["part"] 2 (b7 c))(aK:bq P w K mg base "current_of" ["setting","k"] 1 (bR c))(cw:bq P w K mg base "scaled" ["terms","polynomial"] 2 jC)(G:d9 K mg "transformer_laws" gD ["setting","k"]):bq P w K mg base "transformer_laws" ["setting","k"] 5 (fj c xV fun g k=>[ai.jJ (pat g k) (ai.jl (pat g k)) (ai.CK (pat g k)),ai.jJ (pat g k) [((ai.places g.aO).getD k 0+1,[1])] (ai.nh (ai.cur g k) [-1])]):=by
 have sc:=rf
 refine G.fg sc b8 fun f cdv A outer s H vs Q E hr h=> ?_
 obtain⟨v,g,k,rfl,hg,ok,hk,kd,kk⟩:=h
 refine⟨_,(aj (aI (i:=2) sc.nd rfl (by first|left;rfl|right;rfl) (aY (fE K) (aw K (aw K (pv 0) rfl) rfl) (pv 1) (fun _ _=>rfl)))
   (aj (aI (i:=3) sc.nd rfl (by first|left;rfl|right;rfl) (aA aK (hr.mono (by decide)) rfl (aa (pv 0) (aa (pv 1) ah))))
   (aj (aI (i:=4) sc.nd rfl (by first|left;rfl|right;rfl) (aN (aa (cP (aa (bu gO (aY (fE K) (aw K (pv 0) rfl) (pv 1) (fun _ _=>rfl)) aF) (aa (aN (aa aF ah)) ah))) ah)))
   (au (aB (aN (aa (aA aP (hr.mono (by decide)) rfl (aa (pv 2) (aa (aA aT (hr.mono (by decide)) rfl (aa (pv 2) ah)) (aa (aA aV (hr.mono (by decide)) rfl (aa (pv 2) ah)) ah)))) (aa (aA aP (hr.mono (by decide)) rfl (aa (pv 2) (aa (pv 4) (aa (aA cw (hr.mono (by decide)) rfl (aa (pv 3) (aa (aN (aa (gN eC aF) ah)) ah))) ah)))) ah)))))))),?_⟩
 refine iU O hg hk rfl rfl fun u hu=> ?_
 refine⟨_,rfl,_,rfl,_,_,_,rfl,hg,by lia,by lia,fun x1 H1 t1 hx1=> ?_⟩
 have hg1:=hg.same t1
 obtain⟨a,dx,vn,vs,vst,vd,vp,rfl,ha,_,hs,_,_,⟨pa,rfl,hpl⟩⟩:=id hg1
 have hj:k<(ai.places g.aO).length:=by rw[places_len];exact hk
 refine⟨_,rfl,a,c.dI,dx,_,_,rfl,ha,O.dI.cl,O.dI.at_ 4 rfl,rfl,_,rfl,pa,_,_,_,rfl,rfl,.of hpl,aS (j:=k) rfl (fF hj),_,_,rfl,rfl,ax (by simp),fun p hp=>⟨ax (by simp),fun t ht=>⟨ax (by simp),fun q hq=> ?_⟩⟩⟩
 obtain⟨s2,hx2⟩:=Dx (H:=H1) (H1:=upd H1 p (.lst [.int 1])) (l:=[1]) (x:=(ai.places g.aO).getD k 0+1) (ay hp) hp ak ht hq
 generalize hH2:upd (upd (upd H1 p (.lst [.int 1])) t (.tup [.int ((ai.places g.aO).getD k 0+1),.ref p])) q (.lst [.ref t])=H2 at s2 hx2
 have hu2:=hu.same (t1.trans s2)
 have u2:jm [((ai.places g.aO).getD k 0+1,[1])]:=fun t ht=>by
  have:t=((ai.places g.aO).getD k 0+1,[1]):=by simpa using ht
  subst this
  simp
 refine⟨_,rfl,_,rfl,_,_,rfl,hu2,fun x3 H3 t3 hx3=> ?_⟩
 refine⟨_,rfl,_,_,rfl,hu2.same t3,fun x4 H4 t4 hx4=> ?_⟩
 refine⟨_,_,_,_,_,_,rfl,hu2.same (t3.trans t4),toF (br.same hx3 t4),toF hx4,Nv _,Ru _,xG _,LC _,fun x5 H5 t5 hx5=> ?_⟩
 have t25:=(t3.trans t4).trans t5
 refine⟨_,rfl,_,rfl,_,rfl,_,rfl,ax (by simp),fun p6 hp6=> ?_⟩
 have s6:=ay (o:= .lst [.int (-1)]) hp6
 refine⟨_,_,_,[-1],rfl,toF (br.same hx1 ((s2.trans t25).trans s6)),⟨p6,rfl,ak⟩,LD _ _,Nat.le_trans (qj _ _) (by decide),by unfold Short;simp,fun x7 H7 t7 hx7=> ?_⟩
 refine⟨_,_,_,_,_,_,rfl,hu2.same ((t25.trans s6).trans t7),toF (br.same hx2 ((t25.trans s6).trans t7)),toF hx7,u2,wu (LD _ _) (Iw _ _) (.inr (.inr rfl)),by simp,by rw[jv];exact qj _ _,fun x8 H8 t8 hx8=> ?_⟩
 refine⟨ax (by simp),fun r hr'=> ?_⟩
 have s9:=ay (o:= .lst [x5,x8]) hr'
 have t28:=(s6.trans t7).trans t8
 have all:aJ H H8:=(((t1.trans s2).trans t25).trans t28)
 refine kk _ _ (all.trans s9) ⟨r,_,rfl,fun z=>z (all.free hr'),ak,.cons ?_ (.cons ?_ .nil)⟩
 ·exact br.same (br.same (br.less hx5 (cu (((t1.trans s2).trans t3).trans t4))) t28) s9
 ·exact br.same (br.less hx8 (cu (((t1.trans s2).trans t25).trans (s6.trans t7)))) s9
end
theorem no_ref{l:List Int}{a:Addr}(h:V.ref a∈l.map V.int):False:=by
 obtain⟨z,_,e⟩:=List.mem_map.mp h
 cases e
theorem uO{H:Hp}{a:Addr}{x y:List V}(h:H a=some (.lst x))(h':H a=some (.lst y)):x=y:=by
 rw[h] at h'
 cases h'
 rfl
theorem _root_.PySem.Paired.Iy{α β:Type}{F G:α->β->Prop}:∀{l:List α} {m:List β},Paired F l m->(∀a b,a∈l->F a b->G a b)->Paired G l m
 |_,_,.nil,_=> .nil
 |_,_,.cons r t,f=> .cons (f _ _ List.mem_cons_self r) (t.Iy fun a b ha=>f a b (List.mem_cons_of_mem _ ha))
theorem wB{S:Addr->Prop}{H:Hp}{p:Addr}{vs:List V}{v:V}{l:List Int}{a:Addr}(hp:H p=some (.lst vs))(hm:V.ref a∈vs)(h:oO S H v l):oO (b5 S p) H v l:=by
 obtain⟨b,e,hs,hb⟩:=h
 refine⟨b,e,fun q=>q.elim hs fun z=> ?_,hb⟩
 rw[z] at hb
 rw[uO hp hb] at hm
 exact no_ref hm
theorem Ag{S:Addr->Prop}{H:Hp}{p:Addr}{vs:List V}{v:V}{t:Int×List Int}{a:Addr}(hp:H p=some (.lst vs))(hm:V.ref a∈vs)(h:hW S H v t):hW (b5 S p) H v t:=by
 obtain⟨b,x,e,hs,hb,hx⟩:=h
 refine⟨b,x,e,fun q=>q.elim hs fun z=> ?_,hb,wB hp hm hx⟩
 rw[z,hp] at hb
 cases hb
theorem LF{S:Addr->Prop}{H:Hp}{p:Addr}{vs:List V}{l:List (Int×List Int)}(hp:H p=some (.lst vs))(h:Paired (hW S H) vs l):Paired (hW (b5 S p) H) vs l:=h.Iy fun v x hv q=>by
 obtain⟨a,_,rfl,_,_⟩:=id q
 exact Ag hp hv q
theorem MQ{S:Addr->Prop}{H:Hp}{p:Addr}{vs:List V}{l:List (List (Int×List Int))}(hp:H p=some (.lst vs))(h:Paired (nO S H) vs l):Paired (nO (b5 S p) H) vs l:=h.Iy fun v x hv q=>by
 obtain⟨a,us,rfl,hs,ha,hu⟩:=q
 refine⟨a,us,rfl,fun z=>z.elim hs fun e=> ?_,ha,hu.dO fun u t ht=>Ag hp hv ht⟩
 rw[e] at ha hv
 have e2:=uO ha hp
 rw[<-e2] at hv
 obtain⟨i,hi⟩:=List.getElem?_of_mem hv
 obtain⟨_,_,b,_,e3,_,hb,_⟩:=hu.jd hi
 cases e3
 rw[hp] at hb
 cases hb
theorem MR{S:Addr->Prop}{H:Hp}{p:Addr}{vs:List V}{l:List (List (List Int))}(hp:H p=some (.lst vs))(h:Paired (p9 S H) vs l):Paired (p9 (b5 S p) H) vs l:=h.Iy fun v x hv q=>by
 obtain⟨a,us,rfl,hs,ha,hu⟩:=q
 refine⟨a,us,rfl,fun z=>z.elim hs fun e=> ?_,ha,hu.dO fun u t ht=>wB hp hv ht⟩
 rw[e] at ha hv
 have e2:=uO ha hp
 rw[<-e2] at hv
 obtain⟨i,hi⟩:=List.getElem?_of_mem hv
 obtain⟨_,_,b,e3,_,hb⟩:=hu.jd hi
 cases e3
 rw[uO ha hb] at hv
 exact no_ref hv
def Ny(H:Hp)(u:V)(x:Int×Int×Int):Prop:=∃r,u= .ref r/\H r=some (.tup [.int x.1,.int x.2.1,.int x.2.2])
theorem Ny.same{H H':Hp}{u:V}{x:Int×Int×Int}(h:Ny H u x)(s:aJ H H'):Ny H' u x:=let ⟨r,e,q⟩:=h;⟨r,e,s _ _ q⟩
def Rx(H:Hp)(v:V)(l:List (Int×Int×Int)):Prop:=∃a vs,v= .ref a/\H a=some (.lst vs)/\Paired (Ny H) vs l
theorem MS{H4:Hp}{q t:Addr}{us:List V}{sh:List (Int×Int×Int)}{x:Int×Int×Int}(hq:H4 q=some (.lst us))(hu:Paired (Ny H4) us sh)(ht:H4 t=some (.tup [.int x.1,.int x.2.1,.int x.2.2])):
  Paired (Ny (upd H4 q (.lst (us ++ [.ref t])))) (us ++ [.ref t]) (sh ++ [x]):=by
 have k:∀(y:Addr) (l:List V),H4 y=some (.tup l)->(upd H4 q (.lst (us ++ [.ref t]))) y=some (.tup l):=fun y l h=>by
  rw[aR (DS h hq (by intro z;cases z))]
  exact h
 exact(hu.dO fun u y ⟨r,e,hr⟩=>⟨r,e,k _ _ hr⟩).gh ⟨t,rfl,k _ _ ht⟩
section
variable {P:Program}{w:World}{K:PySem.W.Frag}{mg:Str->Option Value}{base:Heap}{c:Cs}
def Nz(k:Int)(p:ai.Part):Bool:=decide (p.kind=3/\(k=p.a\/k=p.b))
def QP(k:Int)(p:ai.Part):Int×Int×Int:=(p.a+p.b - k,p.top,p.aC)
theorem Ca(ps:List ai.Part)(k:Nat):ai.bt ps k=((k:Int),(ps.getD k ai.p0).top,(ps.getD k ai.p0).aC)::(ps.filter (Nz k)).map (QP k):=rfl
theorem MT(k a b:Int):FN (.int k) [.int a,.int b]=decide (k=a\/k=b):=by
 by_cases h1:k=a
 ·subst h1
  simp[FN,IT]
 ·by_cases h2:k=b
  ·subst h2
   simp[FN,IT]
  ·simp[FN,IT,h1,h2,Ne.symm h1,Ne.symm h2]
abbrev mi:Stmt:=top 46
theorem Ah:aD ["parts","k","shares","part"] ["parts","k"] (aq mi):=sco rfl rfl rfl rfl (by decide +kernel)
def qk(c:Cs):Sp:=fun vs H Q _=>∃v ps k,vs=[v,.int ((k:Nat):Int)]/\ju c H v ps/\k<ps.length/\ps.length<=20/\∀z H',aJ H H'->Rx H' z (ai.bt ps k)->Q z H'
theorem Ai(T:Txt2 mg)(O:cQ K c)(G:d9 K mg "coil_shares" mi ["parts","k"]):bq P w K mg base "coil_shares" ["parts","k"] 1 (qk c):=by
 have sc:=Ah
 refine G.fg sc (fun vs H Q E ⟨v,ps,k,e,_⟩=>by rw[e];rfl) fun f cdv A outer s H vs Q E hr h=> ?_
 obtain⟨v,ps,k,rfl,⟨a,ws,rfl,ha,hps⟩,hk,hl,kk⟩:=h
 have ll:=hps.length
 refine⟨_,(aj (aI (i:=2) sc.nd rfl (by first|left;rfl|right;rfl) (aN (aa (cP (aa (pv 1) (aa (aw K (aY (fE K) (pv 0) (pv 1) (fun _ _=>rfl)) rfl) (aa (aw K (aY (fE K) (pv 0) (pv 1) (fun _ _=>rfl)) rfl) ah)))) ah)))
   (aj (c9 PassesOwn.never rfl (bS (pv 0)) (aM (i:=3) sc.nd rfl (Or.inl rfl)) (au (bK (PW.pt (FW (bc dX (aw K (pv 3) rfl) (gc T.dM) (a5 _)) (Co (bc (yM K) (pv 1) (cP (aa (aw K (pv 3) rfl) (aa (aw K (pv 3) rfl) ah))) (by with_unfolding_all rfl))))) (au (fw (kX PySem.F.plainAttrs_list PySem.F.slot_list_append PySem.F.type_list_append dk (pv 2) (aa (cP (aa (bu jF (bu gO (aw K (pv 3) rfl) (aw K (pv 3) rfl)) (pv 1)) (aa (aw K (pv 3) rfl) (aa (aw K (pv 3) rfl) ah)))) ah)))) aW)))
   (au (aB (pv 2))))),?_⟩
 obtain⟨u,hu,pa,pdx,rfl,hpa⟩:=hps.gB (az (d:=ai.p0) hk)
 refine⟨_,rfl,_,rfl,_,rfl,a,_,_,_,rfl,rfl,.of ha,aS (j:=k) rfl hu,pa,c.part,pdx,_,_,rfl,hpa,O.part.cl,O.part.at_ 5 rfl,rfl,?_⟩
 refine⟨_,rfl,_,rfl,a,_,_,_,rfl,rfl,.of ha,aS (j:=k) rfl hu,pa,c.part,pdx,_,_,rfl,hpa,O.part.cl,O.part.at_ 6 rfl,rfl,?_⟩
 refine⟨ax (by simp),fun t ht=>⟨ax (by simp),fun q hq=> ?_⟩⟩
 have s1:=ay (o:= .tup [.int (k:Int),.int (ps.getD k ai.p0).top,.int (ps.getD k ai.p0).aC]) ht
 have s2:=s1.trans (ay (o:= .lst [.ref t]) hq)
 have hqH:H q=none:=s1.free hq
 refine⟨_,rfl,a,rfl,⟨_,.of (s2 _ _ ha)⟩,gb (bT (K:=K) (.of ha)) (fun i σ H'=>∃x3 us,σ=[some (.ref a),some (.int (k:Int)),some (.ref q),x3]/\aJ H H'/\H' q=some (.lst us)/\us.length<=i+1/\Paired (Ny H') us (((k:Int),(ps.getD k ai.p0).top,(ps.getD k ai.p0).aC)::((ps.take i).filter (Nz k)).map (QP k))) ?_ (fun i σ H' ⟨_,_,_,s,_⟩=>s) ?_ ?_⟩
 ·exact⟨none,_,rfl,s2,ak,by simp,.cons ⟨t,rfl,ay hq _ _ ak⟩ .nil⟩
 ·rintro i x σ H1 H2 hi ⟨x3,us,rfl,s3,hq1,hul,hus⟩ s4 s12 hx
  obtain⟨p,hp,pb,pbx,rfl,hpb⟩:=hps.jd hx
  have hq2:=s12 _ _ hq1
  have hpb2:=s4 _ _ hpb
  have hus2:=hus.dO fun u y z=>z.same s12
  have keep:Nz k p=false->∀H3,aJ H2 H3->∃x3 us,[some (V.ref a),some (V.int (k:Int)),some (V.ref q),some (V.ref pb)]=[some (V.ref a),some (V.int (k:Int)),some (V.ref q),x3]/\aJ H H3/\H3 q=some (.lst us)/\us.length<=i+1+1/\Paired (Ny H3) us (((k:Int),(ps.getD k ai.p0).top,(ps.getD k ai.p0).aC)::((ps.take (i+1)).filter (Nz k)).map (QP k)):=fun e H3 s5=>by
   refine⟨_,us,rfl,s4.trans s5,s5 _ _ hq2,by lia,?_⟩
   rw[List.take_add_one,hp,List.filter_append]
   have:(Option.some p).toList.filter (Nz k)=[]:=by simp[e]
   rw[this,List.append_nil]
   exact hus2.dO fun u y z=>z.same s5
  refine⟨_,rfl,pb,c.part,pbx,_,_,rfl,hpb2,O.part.cl,O.part.at_ 0 rfl,rfl,rfl,_,rfl,?_⟩
  rw[gn]
  by_cases h3:p.kind=3
  ·rw[decide_eq_true h3]
   refine bx ⟨_,rfl,_,rfl,pb,c.part,pbx,_,_,rfl,hpb2,O.part.cl,O.part.at_ 1 rfl,rfl,_,rfl,pb,c.part,pbx,_,_,rfl,hpb2,O.part.cl,O.part.at_ 2 rfl,rfl,ax (by simp),fun r hr'=> ?_⟩
   have s5:=ay (o:= .tup [.int p.a,.int p.b]) hr'
   refine⟨r,_,rfl,.inr (.of ak),rfl,rfl,_,rfl,?_⟩
   show if(FN (.int (k:Int)) [.int p.a,.int p.b])=true then _ else _
   rw[MT]
   by_cases h4:(k:Int)=p.a\/(k:Int)=p.b
   ·rw[decide_eq_true h4]
    have hpb3:=s5 _ _ hpb2
    refine bx ⟨_,rfl,.inl ⟨rfl,_,.of (s5 _ _ hq2)⟩,?_⟩
    refine⟨_,rfl,pb,c.part,pbx,_,_,rfl,hpb3,O.part.cl,O.part.at_ 1 rfl,rfl,_,rfl,pb,c.part,pbx,_,_,rfl,hpb3,O.part.cl,O.part.at_ 2 rfl,rfl,_,_,rfl,rfl,_,rfl,_,_,rfl,rfl,_,rfl,pb,c.part,pbx,_,_,rfl,hpb3,O.part.cl,O.part.at_ 5 rfl,rfl,_,rfl,pb,c.part,pbx,_,_,rfl,hpb3,O.part.cl,O.part.at_ 6 rfl,rfl,ax (by simp),fun t2 ht2=> ?_⟩
    have s6:=ay (o:= .tup [.int (p.a+p.b - (k:Int)),.int p.top,.int p.aC]) ht2
    have hq3:=s6 _ _ (s5 _ _ hq2)
    refine⟨q,us,_,rfl,rfl,hq3,aH (by lia),_,_,rfl,(((s4.trans s5).trans s6).over hqH),ak,by simp;lia,?_⟩
    have hF:Nz k p=true:=decide_eq_true ⟨h3,h4⟩
    rw[List.take_add_one,hp,List.filter_append]
    have:(Option.some p).toList.filter (Nz k)=[p]:=by simp[hF]
    rw[this,List.map_append]
    exact MS (x:=QP k p) hq3 (hus2.dO fun u y z=>(z.same s5).same s6) ak
   ·rw[decide_eq_false h4]
    exact bE (keep (decide_eq_false fun h=>h4 h.2) _ s5)
  ·rw[decide_eq_false h3]
   exact bE (bE (keep (decide_eq_false fun h=>h3 h.1) _ (.refl _)))
 ·rintro σ H1 ⟨x3,us,rfl,s3,hq1,hul,hus⟩
  refine⟨_,rfl,kk _ H1 s3 ⟨q,us,rfl,hq1,?_⟩⟩
  rw[ll,List.take_length] at hus
  rw[Ca]
  exact hus
end
def LG:ai.gK->Nat->Prop:=fun g k=>∀x∈ai.bt g.aO.af k,0<=x.1/\x.1<g.aO.af.length/\1<=x.2.2/\x.2.2<=1000000/\x.2.1.natAbs<=1000000
theorem GY(ps:List ai.Part)(k:Nat):(ai.bt ps k).length<=ps.length+1:=by
 rw[Ca,List.length_cons,lMp]
 have:=List.length_filter_le (Nz k) ps
 lia
def Pd(g:ai.gK)(cm:Int)(x:Int×Int×Int):List (Int×List Int):=ai.nh (ai.nh (ai.cur g x.1) g.s) (ai.cst (-x.2.1*cm.fdiv x.2.2))
theorem GZ(g:ai.gK)(k:Nat):ai.nj g k=ai.nh (ai.jl (pat g k)) (ai.cst (ai.common (ai.bt g.aO.af k))) ++ (ai.bt g.aO.af k).flatMap (Pd g (ai.common (ai.bt g.aO.af k))):=rfl
theorem uP{α β:Type}(f:α->List β)(l:List α)(i:Nat)(x:α)(h:l[i]? =some x):(l.take (i+1)).flatMap f=(l.take i).flatMap f ++ f x:=by
 rw[List.take_add_one,h,List.flatMap_append]
 simp
theorem Iz(g:ai.gK)(cm:Int)(x:Int×Int×Int):(Pd g cm x).length<=2:=by
 unfold Pd
 rw[jv,jv]
 exact(wq g x.1).2
theorem pY(g:ai.gK)(cm:Int):∀l:List (Int×Int×Int),(l.flatMap (Pd g cm)).length<=2*l.length
 |[]=>by simp
 |x::l=>by
  rw[List.flatMap_cons,List.length_append,List.length_cons]
  have:=pY g cm l
  have:=Iz g cm x
  lia
section
variable {P:Program}{w:World}{K:PySem.W.Frag}{mg:Str->Option Value}{base:Heap}{c:Cs}
abbrev ql:Stmt:=top 45
theorem Dy:aD ["setting","k","shares","common","share","law","coil","top","bottom"] ["setting","k"] (aq ql):=sco rfl rfl rfl rfl (by decide +kernel)
theorem Dz(O:cQ K c)(mj:bq P w K mg base "coil_shares" ["parts","k"] 1 (qk c))(aT:bq P w K mg base "voltage_of" ["part"] 2 (cC c))(aK:bq P w K mg base "current_of" ["setting","k"] 1 (bR c))(cw:bq P w K mg base "scaled" ["terms","polynomial"] 2 jC)(cR:bq P w K mg base "constant" ["x"] 1 lE)(G:d9 K mg "coil_laws" ql ["setting","k"]):bq P w K mg base "coil_laws" ["setting","k"] 5 (fj c LG fun g k=>[ai.nj g k]):=by
 have sc:=Dy
 refine bq.mono (j:=4) (G.fg sc b8 fun f cdv A outer s H vs Q E hr h=> ?_) (by decide)
 obtain⟨v,g,k,rfl,hg,ok,hk,kd,kk⟩:=h
 have hp20:=ok.af
 refine⟨_,(aj (aI (i:=2) sc.nd rfl (by first|left;rfl|right;rfl) (aA mj (hr.mono (by decide)) rfl (aa (aw K (aw K (pv 0) rfl) rfl) (aa (pv 1) ah))))
   (aj (aI (i:=3) sc.nd rfl (by first|left;rfl|right;rfl) aF)
   (aj (c9 PassesOwn.never rfl (bS (pv 2)) (aM (i:=4) sc.nd rfl (Or.inl rfl)) (au (FX (i:=3) sc.nd rfl (Or.inl rfl) (aY (QN K) (pv 4) aF (fun _ _=>rfl)) Mo)))
   (aj (aI (i:=5) sc.nd rfl (by first|left;rfl|right;rfl) (aA cw (hr.mono (by decide)) rfl (aa (aA aT (hr.mono (by decide)) rfl (aa (aY (fE K) (aw K (aw K (pv 0) rfl) rfl) (pv 1) (fun _ _=>rfl)) ah)) (aa (aA cR (hr.mono (by decide)) rfl (aa (pv 3) ah)) ah))))
   (aj (c9 PassesOwn.never rfl (bS (pv 2)) (gP K (n:=3) rfl (bM (aM (i:=6) sc.nd rfl (Or.inl rfl)) (bM (aM (i:=7) sc.nd rfl (Or.inl rfl)) (bM (aM (i:=8) sc.nd rfl (Or.inl rfl)) gM)))) (au (fw (kX PySem.F.plainAttrs_list PySem.F.slot_list_extend PySem.F.type_list_extend Bv (pv 5) (aa (aA cw (hr.mono (by decide)) rfl (aa (aA cw (hr.mono (by decide)) rfl (aa (aA aK (hr.mono (by decide)) rfl (aa (pv 0) (aa (pv 6) ah))) (aa (aw K (pv 0) rfl) ah))) (aa (aA cR (hr.mono (by decide)) rfl (aa (bu dQ (gN eC (pv 7)) (bu yL (pv 3) (pv 8))) ah)) ah))) ah)))))
   (au (aB (aN (aa (pv 5) ah))))))))),?_⟩
 obtain⟨ga,gdx,gvn,gvs,gvst,gvd,gvp,rfl,hga,⟨na,ndx,nvp,rfl,hna,pa,ws,rfl,hpa,hps⟩,_⟩:=id hg
 refine⟨_,rfl,ga,c.dI,gdx,_,_,rfl,hga,O.dI.cl,O.dI.at_ 0 rfl,rfl,na,c.aO,ndx,_,_,rfl,hna,O.aO.cl,O.aO.at_ 1 rfl,rfl,_,rfl,_,_,_,rfl,⟨pa,ws,rfl,hpa,hps⟩,hk,hp20,fun z H1 s1 hz=> ?_⟩
 obtain⟨sa,us,rfl,hsa,hus⟩:=hz
 have ll:=hus.length
 have lsh:=GY g.aO.af k
 refine⟨_,rfl,sa,rfl,⟨_,.of hsa⟩,gb (bT (K:=K) (.of hsa)) (fun i σ H'=>∃x4,σ=[some (.ref ga),some (.int (k:Int)),some (.ref sa),some (.int (ai.common ((ai.bt g.aO.af k).take i))),x4,none,none,none,none]/\aJ H1 H') ⟨none,rfl,.refl _⟩ (fun i σ H' ⟨_,_,s⟩=>s) ?_ ?_⟩
 ·rintro i x σ H2 H3 hi ⟨x4,rfl,s2⟩ s3 s23 hx
  obtain⟨y,hy,t,rfl,ht⟩:=hus.jd hx
  obtain⟨_,_,b1,b2,_⟩:=kd y (List.mem_of_getElem? hy)
  refine⟨_,rfl,_,rfl,t,_,_,_,rfl,rfl,.of (s3 _ _ ht),aS (j:=2) rfl rfl,_,_,rfl,rfl,.of_right (intBits_le_64 (by lia) (by lia)),some (.ref t),?_,s3⟩
  unfold ai.common
  rw[List.take_add_one,hy,List.foldl_append]
  rfl
 ·rintro σ H2 ⟨x4,rfl,s2⟩
  rw[ll,List.take_length]
  have hg2:=hg.same (s1.trans s2)
  obtain⟨_,gdx2,_,_,_,_,_,e0,hga2,⟨na2,ndx2,_,rfl,hna2,pa2,ws2,rfl,hpa2,hps2⟩,_⟩:=id hg2
  cases e0
  obtain⟨u,hu0,hu⟩:=hps2.gB (az (d:=ai.p0) hk)
  refine⟨_,rfl,ga,c.dI,gdx2,_,_,rfl,hga2,O.dI.cl,O.dI.at_ 0 rfl,rfl,na2,c.aO,ndx2,_,_,rfl,hna2,O.aO.cl,O.aO.at_ 1 rfl,rfl,_,rfl,pa2,_,_,_,rfl,rfl,.of hpa2,aS (j:=k) rfl hu0,?_⟩
  refine⟨_,_,rfl,hu,fun x1 H3 s3 hx1=> ?_⟩
  refine⟨_,rfl,_,rfl,fun q H4 hq s4 hq4=> ?_⟩
  refine⟨_,_,_,_,rfl,toF (br.same hx1 s4),⟨q,rfl,hq4⟩,Nv _,Nat.le_trans (xG _) (by decide),mP _,fun x2 H5 s5 hx2=> ?_⟩
  obtain⟨la,lv,rfl,nla,hla,hlv⟩:=hx2
  have s24:=(s2.trans s3).trans s4
  have laH4:H4 la=none:=Classical.not_not.mp nla
  have laH:H la=none:=(s1.trans s24).free laH4
  have laH1:H1 la=none:=s24.free laH4
  have lown:Paired (hW (b5 (cq H) la) H5) lv (ai.nh (ai.jl (pat g k)) (ai.cst (ai.common (ai.bt g.aO.af k)))):=LF hla (hlv.dO fun _ _ q=>eX.less q (cu (s1.trans s24)))
  have s15:=s24.trans s5
  refine⟨_,rfl,sa,rfl,⟨_,.of (s15 _ _ hsa)⟩,gb (bT (K:=K) (.of hsa)) (fun i σ H'=>∃x6 x7 x8 lv,σ=[some (.ref ga),some (.int (k:Int)),some (.ref sa),some (.int (ai.common (ai.bt g.aO.af k))),x4,some (.ref la),x6,x7,x8]/\aJ H1 H'/\H' la=some (.lst lv)/\Paired (hW (b5 (cq H) la) H') lv (ai.nh (ai.jl (pat g k)) (ai.cst (ai.common (ai.bt g.aO.af k))) ++ ((ai.bt g.aO.af k).take i).flatMap (Pd g (ai.common (ai.bt g.aO.af k))))) ?_ (fun i σ H' ⟨_,_,_,_,_,s,_⟩=>s) ?_ ?_⟩
  ·exact⟨none,none,none,lv,rfl,s15,hla,by simpa using lown⟩
  ·rintro i x σ H6 H7 hi ⟨x6,x7,x8,lv6,rfl,s6,hla6,hlv6⟩ s7 s67 hx
   obtain⟨y,hy,t,rfl,ht⟩:=hus.jd hx
   obtain⟨b0,b1,b2,b3,b4⟩:=kd y (List.mem_of_getElem? hy)
   refine⟨t,_,rfl,.of (s7 _ _ ht),rfl,_,_,rfl,_,_,rfl,_,_,rfl,rfl,?_⟩
   have hla7:=s67 _ _ hla6
   refine⟨_,rfl,.inl ⟨rfl,_,.of hla7⟩,?_⟩
   have hg7:=hg.same (s1.trans s7)
   refine⟨_,rfl,_,rfl,_,_,_,rfl,hg7,b0,b1,fun y1 H8 s8 hy1=> ?_⟩
   have hg8:=hg7.same s8
   obtain⟨a,dx,vn,vs,vst,vd,vp,e8,ha,_,hs,_⟩:=id hg8
   cases e8
   have sh:Short g.s:=by
    unfold Short
    rcases ok.s with e |e <;>rw[e] <;>simp
   have lu:jm (ai.nh (ai.cur g y.1) g.s):=wu (LD _ _) (Iw _ _) (ok.s.elim .inl fun e=> .inr (.inl e))
   refine⟨_,rfl,ga,c.dI,dx,_,_,rfl,ha,O.dI.cl,O.dI.at_ 1 rfl,rfl,_,_,_,_,rfl,toF hy1,hs,LD _ _,Nat.le_trans (qj _ _) (by decide),sh,fun y2 H9 s9 hy2=> ?_⟩
   refine⟨_,rfl,_,rfl,_,rfl,_,rfl,_,_,rfl,rfl,⟨by lia,?_⟩,_,_,rfl,rfl,.of_left (intBits_le_64 (by lia) (by lia)),_,rfl,fun q2 H10 hq2 s10 hq10=> ?_⟩
   ·have h1:y.2.2.natAbs≠0:=by lia
    have h2:y.2.2.natAbs<2^9000:=Nat.lt_of_lt_of_le (show y.2.2.natAbs<2^20 by lia) (Nat.pow_le_pow_right (by decide) (by decide))
    exact(Nat.log2_lt h1).mpr h2
   refine⟨_,_,_,_,rfl,toF (br.same hy2 s10),⟨q2,rfl,hq10⟩,lu,by rw[jv];exact Nat.le_trans (qj _ _) (by decide),mP _,fun y3 H11 s11 hy3=> ?_⟩
   obtain⟨ya,yv,rfl,nya,hya,hyv⟩:=hy3
   have s711:=((s8.trans s9).trans s10).trans s11
   have hla11:=s711 _ _ hla7
   have hl6:=hlv6.length
   have hy3l:=hyv.length
   have e1:=Iz g (ai.common (ai.bt g.aO.af k)) y
   have e2:=pY g (ai.common (ai.bt g.aO.af k)) ((ai.bt g.aO.af k).take i)
   have e3:(ai.nh (ai.jl (pat g k)) (ai.cst (ai.common (ai.bt g.aO.af k)))).length<=2:=by rw[jv];exact(mQ _ _).2
   rw[List.length_append] at hl6
   rw[List.length_take] at e2
   have hy3l':yv.length<=2:=by rw[hy3l];exact e1
   refine⟨la,ya,_,_,rfl,rfl,hla11,hya,ax (by lia),_,_,_,_,rfl,(s7.trans s711).over laH1,ak,?_⟩
   rw[uP _ _ _ _ hy,<-List.append_assoc]
   have od:Off (b5 (cq H) la) H11 (upd H11 la (.lst (lv6 ++ yv))):=bU (.inr rfl)
   refine((hlv6.eY eX (s67.trans s711)).qe eX od).app ?_
   have hyv2:Paired (hW (b5 (cq H) la) H11) yv (Pd g (ai.common (ai.bt g.aO.af k)) y):=hyv.dO fun _ _ q=>eX.vX q fun a ha=>by
    have sAll:aJ H H10:=((((s1.trans s7).trans s8).trans s9).trans s10)
    rcases ha with ha |ha
    ·exact .inl (cu sAll a ha)
    ·refine .inl fun z=> ?_
     rw[ha] at z
     have:=(((s8.trans s9).trans s10)) _ _ hla7
     rw[z] at this
     cases this
   exact hyv2.qe eX od
  ·rintro σ H6 ⟨x6,x7,x8,lv6,rfl,s6,hla6,hlv6⟩
   rw[ll,List.take_length,<-GZ] at hlv6
   refine⟨_,rfl,ax (by simp),d5 (s1.trans s6) ⟨la,lv6,rfl,fun z=>z laH,hla6,hlv6.J3 eX⟩ kk⟩
end
abbrev Pe:=Int×List Int
def NS(H0:Hp)(D:Addr)(qs:List Addr):Addr->Prop:=fun a=>cq H0 a\/a=D\/a∈qs
structure NI(H0 H:Hp)(D:Addr)(qs:List Addr)(b:Nat)(tm:Nat->List Pe):Prop where
 same:aJ H0 H
 hD:H D=some (.lst (qs.map V.ref))
 nd:qs.Nodup
 nD:D∉qs
 d0:H0 D=none
 q0:∀q∈qs,H0 q=none
 len:∀v,(tm v).length<=b
 at_:∀v q,qs[v]? =some q->∃us,H q=some (.lst us)/\Paired (hW (NS H0 D qs) H) us (tm v)
theorem NI.grow{H0 H H':Hp}{D:Addr}{qs:List Addr}{b:Nat}{tm:Nat->List Pe}(N:NI H0 H D qs b tm)(s:aJ H H'):NI H0 H' D qs b tm:=
 ⟨N.same.trans s,s _ _ N.hD,N.nd,N.nD,N.d0,N.q0,N.len,fun v q hq=>let ⟨us,h1,h2⟩:=N.at_ v q hq;⟨us,s _ _ h1,h2.eY eX s⟩⟩
theorem NI.RV{H0 H:Hp}{D:Addr}{qs:List Addr}{b:Nat}{tm:Nat->List Pe}(N:NI H0 H D qs b tm):J2 (NS H0 D qs) H:=fun a ha z=>by
 rcases ha with ha |ha |ha
 ·exact ha (N.same.free z)
 ·rw[ha,N.hD] at z;cases z
 ·obtain⟨i,hi⟩:=List.getElem?_of_mem ha
  obtain⟨us,h1,_⟩:=N.at_ i a hi
  rw[h1] at z;cases z
theorem NI.push{H0 H:Hp}{D:Addr}{qs:List Addr}{b:Nat}{tm:Nat->List Pe}(N:NI H0 H D qs b tm){z:Nat}{q p t:Addr}{us:List V}{x y:Int}(hz:qs[z]? =some q)(hq:H q=some (.lst us))(hp:H p=none)(ht:upd H p (.lst [.int y]) t=none):
  NI H0 (upd (upd (upd H p (.lst [.int y])) t (.tup [.int x,.ref p])) q (.lst (us ++ [.ref t]))) D qs (b+1) (fun v=>tm v ++ if v=z then[(x,[y])] else[]):=by
 have s3:=ay (o:= .lst [.int y]) hp
 have s4:=ay (o:= .tup [.int x,.ref p]) ht
 have N4:=N.grow (s3.trans s4)
 have np:¬NS H0 D qs p:=N.RV.new hp
 have nt:¬NS H0 D qs t:=(N.grow s3).RV.new ht
 have hqm:q∈qs:=List.mem_of_getElem? hz
 have od:∀o,Off (NS H0 D qs) (upd (upd H p (.lst [.int y])) t (.tup [.int x,.ref p])) (upd (upd (upd H p (.lst [.int y])) t (.tup [.int x,.ref p])) q o):=fun o=>bU (.inr (.inr hqm))
 refine⟨N4.same.over (N.q0 q hqm),?_,N.nd,N.nD,N.d0,N.q0,fun v=> ?_,fun v r hr=> ?_⟩
 ·rw[aR fun e=>N.nD (by rw[e];exact hqm)]
  exact N4.hD
 ·have:=N.len v
  rw[List.length_append]
  split <;>simp <;>lia
 ·obtain⟨ws,h1,h2⟩:=N4.at_ v r hr
  by_cases e:v=z
  ·subst e
   have er:r=q:=Option.some.inj (hr.symm.trans hz)
   subst er
   have ew:ws=us:=uO h1 (s4 _ _ (s3 _ _ hq))
   subst ew
   rw[if_pos rfl]
   exact⟨_,ak,(h2.qe eX (od _)).gh (eX.off ⟨t,.ref p,rfl,nt,ak,p,rfl,np,s4 _ _ ak⟩ (od _))⟩
  ·rw[if_neg e,List.append_nil]
   have hne:r≠q:=fun e2=>e (Ql N.nd hr (by rw[e2];exact hz))
   exact⟨ws,by rw[aR hne];exact h1,h2.qe eX (od _)⟩
def i7(v:Int)(x:ai.Part×Int):List Pe:=if x.1.kind=3 then[] else
  (if x.1.a=v then[(x.2,[1])] else[]) ++ (if x.1.b=v then[(x.2,[-1])] else[]) ++
   (if x.1.kind=10 then(if x.1.c=v then[(x.2+1,[1])] else[]) ++ (if x.1.d=v then[(x.2+1,[-1])] else[]) else[])
theorem G0(n:ai.Nw)(v:Int):ai.gv n v=(n.af.zip (ai.places n)).flatMap (i7 v):=rfl
def DA(n:ai.Nw):Prop:=∀p∈n.af,p.kind≠3->(0<=p.a/\p.a<=n.last)/\(0<=p.b/\p.b<=n.last)/\(p.kind=10->(0<=p.c/\p.c<=n.last)/\(0<=p.d/\p.d<=n.last))
theorem qX(z:Int)(hz:0<=z)(l:List Pe):(fun v:Nat=>if v=z.toNat then l else[])=fun v:Nat=>if z=(v:Int) then l else[]:=by
 funext v
 by_cases h:v=z.toNat
 ·rw[if_pos h,if_pos (by lia)]
 ·rw[if_neg h,if_neg (by lia)]
theorem wC{α β:Type}{F:α->β->Prop}:∀{l:List α} {m:List β},l.length=m.length->(∀(i:Nat) x y,l[i]? =some x->m[i]? =some y->F x y)->Paired F l m
 |[],[],_,_=> .nil
 |[],_::_,h,_=>by simp at h
 |_::_,[],h,_=>by simp at h
 |a::l,b::m,h,f=> .cons (f 0 a b rfl rfl) (wC (by simpa using h) fun i x y hx hy=>f (i+1) x y (by simpa using hx) (by simpa using hy))
section
variable {P:Program}{w:World}{K:PySem.W.Frag}{mg:Str->Option Value}{base:Heap}{c:Cs}
abbrev lL:Stmt:=top 35
theorem DB:aD ["setting","sums","node","part","place"] ["setting"] (aq lL):=sco rfl rfl rfl rfl (by decide +kernel)
def uQ(c:Cs):Sp:=fun vs H Q _=>∃v g,vs=[v]/\i6 c H v g/\QO g/\0<=g.aO.last/\g.aO.last<=100/\DA g.aO/\uJ H Q ((List.range g.aO.last.toNat).map fun v:Nat=>ai.gv g.aO ((v:Int)+1))
theorem DC(T:Txt2 mg)(O:cQ K c)(G:d9 K mg "node_laws" lL ["setting"]):bq P w K mg base "node_laws" ["setting"] 1 (uQ c):=by
 have sc:=DB
 refine G.fg sc (fun vs H Q E ⟨v,g,e,_⟩=>by rw[e];rfl) fun f cdv A outer s H vs Q E hr h=> ?_
 obtain⟨v,g,rfl,hg,ok,n0,n1,hin,kk⟩:=h
 obtain⟨ga,gdx,gvn,gvs,gvst,gvd,gvp,rfl,hga,⟨na,ndx,nvp,rfl,hna,pa,ws,rfl,hpa,hps⟩,_,_,_,⟨la,rfl,hla⟩⟩:=hg
 have lps:=hps.length
 have h20:=ok.af
 refine⟨_,(aj (pI (i:=1) rfl sc.nd rfl rfl (tL rfl rfl rfl rfl) (jw rfl T.gx (aa (bu gO (aw K (aw K (pv 0) rfl) rfl) aF) ah)) (bN (own:=[("node",2)]) (by show jo ["setting","sums","node","part","place"] (aq lL) _ _=true;decide +kernel)) (fun _ _ _ _ _=>(aM (i:=2) sc.nd rfl (Or.inl rfl))) (fun _ _ _ _ _=>cH) (fun _ _ _ _ _=>(aN ah)))
   (aj (c9 PassesOwn.never rfl (Ol rfl T.Lp (aa (aw K (aw K (pv 0) rfl) rfl) (aa (aw K (pv 0) rfl) ah))) (gP K (n:=2) rfl (bM (aM (i:=3) sc.nd rfl (Or.inl rfl)) (bM (aM (i:=4) sc.nd rfl (Or.inl rfl)) gM))) (aj (bK (bc dX (aw K (pv 3) rfl) (gc T.dM) (a5 _)) (au DX) aW)
   (aj (fw (kX PySem.F.plainAttrs_list PySem.F.slot_list_append PySem.F.type_list_append dk (aY (fE K) (pv 1) (aw K (pv 3) rfl) (fun _ _=>rfl)) (aa (cP (aa (pv 4) (aa (aN (aa aF ah)) ah))) ah)))
   (aj (fw (kX PySem.F.plainAttrs_list PySem.F.slot_list_append PySem.F.type_list_append dk (aY (fE K) (pv 1) (aw K (pv 3) rfl) (fun _ _=>rfl)) (aa (cP (aa (pv 4) (aa (aN (aa (gN eC aF) ah)) ah))) ah)))
   (au (bK (bc dX (aw K (pv 3) rfl) (gc T.e7) (a5 _)) (aj (fw (kX PySem.F.plainAttrs_list PySem.F.slot_list_append PySem.F.type_list_append dk (aY (fE K) (pv 1) (aw K (pv 3) rfl) (fun _ _=>rfl)) (aa (cP (aa (bu gO (pv 4) aF) (aa (aN (aa aF ah)) ah))) ah)))
   (au (fw (kX PySem.F.plainAttrs_list PySem.F.slot_list_append PySem.F.type_list_append dk (aY (fE K) (pv 1) (aw K (pv 3) rfl) (fun _ _=>rfl)) (aa (cP (aa (bu gO (pv 4) aF) (aa (aN (aa (gN eC aF) ah)) ah))) ah))))) aW))))))
   (au (aB (ph (Qm K) (pv 1) (mX aF) Ct))))),?_⟩
 refine⟨_,rfl,ga,c.dI,gdx,_,_,rfl,hga,O.dI.cl,O.dI.at_ 0 rfl,rfl,na,c.aO,ndx,_,_,rfl,hna,O.aO.cl,O.aO.at_ 0 rfl,rfl,_,_,rfl,rfl,_,rfl,by lia,by lia,fun D hD=>ks (iX H 0 _) hD (fun i H' acc=>∃qs,acc=qs.map V.ref/\qs.length=i/\qs.Nodup/\D∉qs/\(∀q∈qs,H q=none/\H' q=some (.lst []))) ⟨[],rfl,rfl,List.nodup_nil,by simp,fun _ h=>by cases h⟩ ?_ ?_⟩
 ·rintro i x H1 H2 acc hi s1 hD1 ⟨qs,rfl,hql,hnd,hDq,hqs⟩ s2 s12 hD2 rfl
  refine⟨rfl,⟨Nat.zero_le _,fun p hp=> ?_⟩⟩
  have s3:=ay (o:= .lst []) hp
  have pD:p≠D:=fun e=>by rw[e,hD2] at hp;cases hp
  have pq:p∉qs:=fun m=>by
   have:=s12 _ _ (hqs p m).2
   rw[hp] at this;cases this
  refine cT hD (s2.trans s3) (s3 _ _ hD2) (by rw[lMp,hql];exact aH (by lia)) ⟨qs ++ [p],by simp,by simp[hql],?_,?_,?_⟩
  ·exact HC hnd pq
  ·intro m
   rcases List.mem_append.mp m with m |m
   ·exact hDq m
   ·exact pD ((show D=p by simpa using m).symm)
  ·intro q m
   rcases List.mem_append.mp m with m |m
   ·refine⟨(hqs q m).1,?_⟩
    rw[aR fun e=>hDq (by rw[<-e];exact m)]
    exact s3 _ _ (s12 _ _ (hqs q m).2)
   ·have:q=p:=by simpa using m
    subst this
    refine⟨s2.free hp,?_⟩
    rw[aR pD,ak]
 ·rintro H1 acc s1 hD1 ⟨qs,rfl,hql,hnd,hDq,hqs⟩
  have hql':qs.length=g.aO.last.toNat+1:=by rw[hql];lia
  have N0:NI H H1 D qs 0 (fun _=>[]):=⟨s1,hD1,hnd,hDq,hD,fun q m=>(hqs q m).1,fun _=>Nat.le_refl _,fun v q hq=>⟨[],(hqs q (List.mem_of_getElem? hq)).2,.nil⟩⟩
  refine⟨_,rfl,ga,c.dI,gdx,_,_,rfl,s1 _ _ hga,O.dI.cl,O.dI.at_ 0 rfl,rfl,na,c.aO,ndx,_,_,rfl,s1 _ _ hna,O.aO.cl,O.aO.at_ 1 rfl,rfl,_,rfl,ga,c.dI,gdx,_,_,rfl,s1 _ _ hga,O.dI.cl,O.dI.at_ 4 rfl,rfl,pa,la,_,_,rfl,.of (s1 _ _ hpa),.of (s1 _ _ hla),gb (Ot (K:=K) (.of hpa) (.of hla) (by rw[lps,lMp,places_len])) (fun i σ H'=>∃x3 x4,σ=[some (.ref ga),some (.ref D),none,x3,x4]/\NI H H' D qs (4*i) (fun v=>((g.aO.af.zip (ai.places g.aO)).take i).flatMap (i7 (v:Int)))) ⟨none,none,rfl,by simpa using N0⟩ (fun i σ H' ⟨_,_,_,N⟩=>N.same) ?_ ?_⟩
  ·rintro i x σ H2 H3 hi ⟨x3,x4,rfl,N2⟩ s3 s23 ⟨t,y,z,rfl,ht,hy,hz⟩
   obtain⟨p,hp,pb,pbx,rfl,hpb⟩:=hps.jd hy
   obtain⟨pl,hpl,rfl⟩:=fA hz
   have ez:(g.aO.af.zip (ai.places g.aO))[i]? =some (p,pl):=by
    rw[List.getElem?_zip_eq_some]
    exact⟨hp,hpl⟩
   have N3:=N2.grow s23
   have hi':i<g.aO.af.length:=cG hp
   refine⟨t,_,rfl,.of ht,rfl,_,_,rfl,_,_,rfl,rfl,?_⟩
   have tmE:(fun v:Nat=>((g.aO.af.zip (ai.places g.aO)).take (i+1)).flatMap (i7 (v:Int)))=fun v:Nat=>((g.aO.af.zip (ai.places g.aO)).take i).flatMap (i7 (v:Int)) ++ i7 (v:Int) (p,pl):=by
    funext v
    exact uP _ _ _ _ ez
   refine⟨_,rfl,pb,c.part,pbx,_,_,rfl,s3 _ _ hpb,O.part.cl,O.part.at_ 0 rfl,rfl,rfl,_,rfl,?_⟩
   rw[gn]
   by_cases h3:p.kind=3
   ·rw[decide_eq_true h3]
    refine bx ⟨_,_,rfl,?_⟩
    rw[tmE]
    have e0:(fun v:Nat=>((g.aO.af.zip (ai.places g.aO)).take i).flatMap (i7 (v:Int)) ++ i7 (v:Int) (p,pl))=fun v:Nat=>((g.aO.af.zip (ai.places g.aO)).take i).flatMap (i7 (v:Int)):=by
     funext v
     unfold i7
     rw[if_pos h3,List.append_nil]
    rw[e0]
    exact⟨N3.same,N3.hD,N3.nd,N3.nD,N3.d0,N3.q0,fun v=>by have:=N3.len v;lia,N3.at_⟩
   ·rw[decide_eq_false h3]
    obtain⟨⟨a0,a1⟩,⟨b0,b1⟩,hT⟩:=hin p (List.mem_of_getElem? hp) h3
    refine bE ?_
    obtain⟨qa,hqa⟩:∃q,qs[p.a.toNat]? =some q:=⟨_,List.getElem?_eq_getElem (by lia)⟩
    have hqaV:(qs.map V.ref)[p.a.toNat]? =some (.ref qa):=by rw[List.getElem?_map,hqa];rfl
    obtain⟨ua,hua,hpa'⟩:=N3.at_ _ _ hqa
    have lua:=hpa'.length
    have lua':=N3.len p.a.toNat
    refine⟨_,rfl,_,rfl,pb,c.part,pbx,_,_,rfl,s3 _ _ hpb,O.part.cl,O.part.at_ 1 rfl,rfl,D,_,_,_,rfl,rfl,.of N3.hD,aS (j:=p.a.toNat) (by lia) hqaV,.inl ⟨rfl,_,.of hua⟩,_,rfl,ax (by simp),fun f1 hf1=>⟨ax (by simp),fun t1 ht1=>⟨qa,_,_,rfl,rfl,ay ht1 _ _ (ay hf1 _ _ hua),aH (by lia),?_⟩⟩⟩
    have N4:=N3.push (x:=pl) (y:=1) hqa hua hf1 ht1
    generalize upd (upd (upd H3 f1 (.lst [.int 1])) t1 (.tup [.int pl,.ref f1])) qa (.lst (ua ++ [.ref t1]))=H4 at N4
    obtain⟨qb,hqb⟩:∃q,qs[p.b.toNat]? =some q:=⟨_,List.getElem?_eq_getElem (by lia)⟩
    have hqbV:(qs.map V.ref)[p.b.toNat]? =some (.ref qb):=by rw[List.getElem?_map,hqb];rfl
    obtain⟨ub,hub,hpb'⟩:=N4.at_ _ _ hqb
    have lub:=hpb'.length
    have lub':=N4.len p.b.toNat
    refine⟨_,rfl,_,rfl,pb,c.part,pbx,_,_,rfl,N4.same _ _ hpb,O.part.cl,O.part.at_ 2 rfl,rfl,D,_,_,_,rfl,rfl,.of N4.hD,aS (j:=p.b.toNat) (by lia) hqbV,.inl ⟨rfl,_,.of hub⟩,_,rfl,_,rfl,ax (by simp),fun f2 hf2=>⟨ax (by simp),fun t2 ht2=>⟨qb,_,_,rfl,rfl,ay ht2 _ _ (ay hf2 _ _ hub),aH (by lia),?_⟩⟩⟩
    have N5:=N4.push (x:=pl) (y:= -1) hqb hub hf2 ht2
    generalize upd (upd (upd H4 f2 (.lst [.int (-1)])) t2 (.tup [.int pl,.ref f2])) qb (.lst (ub ++ [.ref t2]))=H5 at N5
    refine⟨_,rfl,pb,c.part,pbx,_,_,rfl,N5.same _ _ hpb,O.part.cl,O.part.at_ 0 rfl,rfl,rfl,_,rfl,?_⟩
    rw[gn]
    by_cases h10:p.kind=10
    ·rw[decide_eq_true h10]
     obtain⟨⟨c0,c1⟩,⟨d0,d1⟩⟩:=hT h10
     refine bx ?_
     obtain⟨qc,hqc⟩:∃q,qs[p.c.toNat]? =some q:=⟨_,List.getElem?_eq_getElem (by lia)⟩
     have hqcV:(qs.map V.ref)[p.c.toNat]? =some (.ref qc):=by rw[List.getElem?_map,hqc];rfl
     obtain⟨uc,huc,hpc'⟩:=N5.at_ _ _ hqc
     have luc:=hpc'.length
     have luc':=N5.len p.c.toNat
     refine⟨_,rfl,_,rfl,pb,c.part,pbx,_,_,rfl,N5.same _ _ hpb,O.part.cl,O.part.at_ 3 rfl,rfl,D,_,_,_,rfl,rfl,.of N5.hD,aS (j:=p.c.toNat) (by lia) hqcV,.inl ⟨rfl,_,.of huc⟩,_,rfl,_,_,rfl,rfl,ax (by simp),fun f3 hf3=>⟨ax (by simp),fun t3 ht3=>⟨qc,_,_,rfl,rfl,ay ht3 _ _ (ay hf3 _ _ huc),aH (by lia),?_⟩⟩⟩
     have N6:=N5.push (x:=pl+1) (y:=1) hqc huc hf3 ht3
     generalize upd (upd (upd H5 f3 (.lst [.int 1])) t3 (.tup [.int (pl+1),.ref f3])) qc (.lst (uc ++ [.ref t3]))=H6 at N6
     obtain⟨qd,hqd⟩:∃q,qs[p.d.toNat]? =some q:=⟨_,List.getElem?_eq_getElem (by lia)⟩
     have hqdV:(qs.map V.ref)[p.d.toNat]? =some (.ref qd):=by rw[List.getElem?_map,hqd];rfl
     obtain⟨ud,hud,hpd'⟩:=N6.at_ _ _ hqd
     have lud:=hpd'.length
     have lud':=N6.len p.d.toNat
     refine⟨_,rfl,_,rfl,pb,c.part,pbx,_,_,rfl,N6.same _ _ hpb,O.part.cl,O.part.at_ 4 rfl,rfl,D,_,_,_,rfl,rfl,.of N6.hD,aS (j:=p.d.toNat) (by lia) hqdV,.inl ⟨rfl,_,.of hud⟩,_,rfl,_,_,rfl,rfl,_,rfl,ax (by simp),fun f4 hf4=>⟨ax (by simp),fun t4 ht4=>⟨qd,_,_,rfl,rfl,ay ht4 _ _ (ay hf4 _ _ hud),aH (by lia),_,_,rfl,?_⟩⟩⟩
     have N7:=N6.push (x:=pl+1) (y:= -1) hqd hud hf4 ht4
     rw[tmE]
     have e0:(fun v:Nat=>((g.aO.af.zip (ai.places g.aO)).take i).flatMap (i7 (v:Int)) ++ i7 (v:Int) (p,pl))=fun v:Nat=>(((((g.aO.af.zip (ai.places g.aO)).take i).flatMap (i7 (v:Int)) ++ if v=p.a.toNat then[(pl,[1])] else[]) ++ if v=p.b.toNat then[(pl,[-1])] else[]) ++ if v=p.c.toNat then[(pl+1,[1])] else[]) ++ if v=p.d.toNat then[(pl+1,[-1])] else[]:=by
      funext v
      unfold i7
      rw[if_neg h3,if_pos h10]
      have f1:=congrFun (qX p.a a0 [(pl,[1])]) v
      have f2:=congrFun (qX p.b b0 [(pl,[-1])]) v
      have f3:=congrFun (qX p.c c0 [(pl+1,[1])]) v
      have f4:=congrFun (qX p.d d0 [(pl+1,[-1])]) v
      rw[f1,f2,f3,f4]
      simp only[List.append_assoc]
     rw[e0]
     exact N7
    ·rw[decide_eq_false h10]
     refine bE ⟨_,_,rfl,?_⟩
     rw[tmE]
     have e0:(fun v:Nat=>((g.aO.af.zip (ai.places g.aO)).take i).flatMap (i7 (v:Int)) ++ i7 (v:Int) (p,pl))=fun v:Nat=>(((g.aO.af.zip (ai.places g.aO)).take i).flatMap (i7 (v:Int)) ++ if v=p.a.toNat then[(pl,[1])] else[]) ++ if v=p.b.toNat then[(pl,[-1])] else[]:=by
      funext v
      unfold i7
      rw[if_neg h3,if_neg h10]
      have f1:=congrFun (qX p.a a0 [(pl,[1])]) v
      have f2:=congrFun (qX p.b b0 [(pl,[-1])]) v
      rw[f1,f2]
      simp only[List.append_assoc,List.append_nil]
     rw[e0]
     exact⟨N5.same,N5.hD,N5.nd,N5.nD,N5.d0,N5.q0,fun v=>by have:=N5.len v;lia,N5.at_⟩
  ·rintro σ H2 ⟨x3,x4,rfl,N2⟩
   rw[lps,show(g.aO.af.zip (ai.places g.aO)).take g.aO.af.length=g.aO.af.zip (ai.places g.aO) from List.take_of_length_le (by rw[List.length_zip,places_len];lia)] at N2
   refine⟨_,rfl,_,rfl,D,_,rfl,.of N2.hD,fun r hr'=> ?_⟩
   have s9:=ay (o:= .lst (rK (qs.map V.ref) (some 1) none)) hr'
   refine kk _ _ (N2.same.trans s9) ⟨r,_,rfl,fun z=>z (N2.same.free hr'),ak,?_⟩
   have ec:rK (qs.map V.ref) (some 1) none=(qs.map V.ref).drop 1:=by
    unfold rK
    have e1:HT.AQ (qs.map V.ref).length 0 (some 1)=1:=by
     show HT.AQ (qs.map V.ref).length 0 (some ((1:Nat):Int))=1
     rw[HT.mW,lMp]
     lia
    rw[e1,HT.Km]
    exact List.take_of_length_le (by rw[List.length_drop];exact Nat.le_refl _)
   rw[ec] at s9⊢
   refine wC (by simp;lia) fun i x y hx hy=> ?_
   rw[List.getElem?_drop,List.getElem?_map] at hx
   rw[List.getElem?_map] at hy
   have hiN:i<g.aO.last.toNat:=by
    cases e:(List.range g.aO.last.toNat)[i]? with
    |none=>rw[e] at hy;cases hy
    |some j=>
     have:=cG e
     simpa using this
   rw[List.getElem?_range hiN] at hy
   have ey:ai.gv g.aO ((i:Int)+1)=y:=Option.some.inj hy
   cases e:qs[1+i]? with
   |none=>rw[e] at hx;cases hx
   |some q=>
    rw[e] at hx
    have ex:V.ref q=x:=Option.some.inj hx
    subst ex
    obtain⟨us,h1,h2⟩:=N2.at_ _ _ e
    refine⟨q,us,rfl,fun z=>z (N2.q0 q (List.mem_of_getElem? e)),s9 _ _ h1,?_⟩
    rw[<-ey,G0]
    have ei:((1+i:Nat):Int)=(i:Int)+1:=by lia
    rw[ei] at h2
    exact(h2.dO fun _ _ q=>eX.less q fun a ha=> .inl ha).eY eX s9
end
structure IA(g:ai.gK)(k:Nat):Prop where
 kind:0<=(pat g k).kind/\(pat g k).kind<=13
 Ry:(pat g k).kind=2->LG g k
 ref:(pat g k).kind=8\/(pat g k).kind=9->Rw g k
structure LH(g:ai.gK):Prop where
 w0:0<=ai.width g.aO
 w1:ai.width g.aO<1000
 terms:∀ts∈ai.dD g,∀t∈ts,0<=t.1/\t.1<=ai.width g.aO/\t.2.length<=1000
 cnt:(ai.dD g).length<=1000
section
variable {P:Program}{w:World}{K:PySem.W.Frag}{mg:Str->Option Value}{base:Heap}{c:Cs}
abbrev LJ(c:Cs)(i:Nat):Sp:=fj c (fun g k=>(pat g k).kind=(i:Int)/\IA g k) (fun g k=>ai.cJ g k)
structure LK(P:Program)(w:World)(K:PySem.W.Frag)(mg:Str->Option Value)(base:Heap)(c:Cs)(ta:Addr)(fs:List Addr):Prop where
 hm:mg "LAWS_OF_KIND"=some (.ref ta)
 tup:∀H:Hp,AL K H ta (fs.map V.ref)
 fn:∀i,i<14->∃f fd,fs[i]? =some f/\lY P w K mg base HB 5 f fd ["setting","k"] (LJ c i)/\PySem.W.keepIn K (.ref f)=true/\Binds K fd ["setting","k"] []
abbrev n8:Stmt:=top 59
theorem Fj:aD ["setting","laws","k","part","law"] ["setting"] (aq n8):=sco rfl rfl rfl rfl (by decide +kernel)
def qm(c:Cs):Sp:=fun vs H Q _=>∃v g,vs=[v]/\i6 c H v g/\QO g/\0<=g.aO.last/\g.aO.last<=100/\DA g.aO/\(∀k,k<g.aO.af.length->IA g k)/\LH g/\∀z H',aJ H H'->Lw (cq H) H' z (ai.rows g)->Q z H'
theorem Fl{ta:Addr}{fs:List Addr}(T:Txt2 mg)(O:cQ K c)(L:LK P w K mg base c ta fs)(qr:bq P w K mg base "node_laws" ["setting"] 1 (uQ c))(Aj:bq P w K mg base "row_of" ["terms","width"] 3 B9)(G:d9 K mg "law_rows" n8 ["setting"]):bq P w K mg base "law_rows" ["setting"] 6 (qm c):=by
 have sc:=Fj
 refine G.fg sc (fun vs H Q E ⟨v,g,e,_⟩=>by rw[e];rfl) fun f cdv A outer s H vs Q E hr h=> ?_
 obtain⟨v,g,rfl,hg,ok,n0,n1,hin,hlw,R,kk⟩:=h
 have hLK:=L.hm
 have h20:=ok.af
 refine⟨_,(aj (aI (i:=1) sc.nd rfl (by first|left;rfl|right;rfl) (aA qr (hr.mono (by decide)) rfl (aa (pv 0) ah)))
   (aj (c9 PassesOwn.never rfl (mZ rfl T.dF (aa (aw K (aw K (pv 0) rfl) rfl) ah)) (gP K (n:=2) rfl (bM (aM (i:=2) sc.nd rfl (Or.inl rfl)) (bM (aM (i:=3) sc.nd rfl (Or.inl rfl)) gM))) (au (fw (kX PySem.F.plainAttrs_list PySem.F.slot_list_extend PySem.F.type_list_extend Bv (pv 1) (aa (Mn (aY (QN K) (Hl (v:= .ref ta) rfl hLK rfl) (aw K (pv 3) rfl) (fun _ _=>rfl)) (by rfl) (aa (pv 0) (aa (pv 2) ah))) ah)))))
   (au (aB (iW rfl sc.nd (bS (pv 1)) (bN (own:=[("law",4)]) (by show jo ["setting","laws","k","part","law"] (aq n8) _ _=true;decide +kernel)) (fun _ _ _ _ _=>(aM (i:=4) sc.nd rfl (Or.inl rfl))) (fun _ _ _ _ _=>cH) (fun _ _ _ _ _=>(aA Aj (hr.mono (by decide)) rfl (aa (pv 4) (aa (aw K (pv 0) rfl) ah))))))))),?_⟩
 refine⟨_,rfl,_,g,rfl,hg,ok,n0,n1,hin,fun z H1 s1 hz=> ?_⟩
 obtain⟨p0,us,rfl,np0,hp0,hus⟩:=hz
 have p0H:H p0=none:=Classical.not_not.mp np0
 have hus0:=MQ hp0 hus
 obtain⟨ga,gdx,gvn,gvs,gvst,gvd,gvp,rfl,hga,⟨na,ndx,nvp,rfl,hna,pa,ws,rfl,hpa,hps⟩,hgr⟩:=id hg
 have lps:=hps.length
 refine⟨_,rfl,ga,c.dI,gdx,_,_,rfl,s1 _ _ hga,O.dI.cl,O.dI.at_ 0 rfl,rfl,na,c.aO,ndx,_,_,rfl,s1 _ _ hna,O.aO.cl,O.aO.at_ 1 rfl,rfl,pa,_,rfl,.of (s1 _ _ hpa),gb (m5 (K:=K) (.of hpa)) (fun i σ H'=>∃x2 x3 us,σ=[some (.ref ga),some (.ref p0),x2,x3,none]/\aJ H H'/\H' p0=some (.lst us)/\Paired (nO (b5 (cq H) p0) H') us ((List.range g.aO.last.toNat).map (fun v:Nat=>ai.gv g.aO ((v:Int)+1)) ++ (List.range i).flatMap fun k=>ai.cJ g k)) ⟨none,none,us,rfl,s1,hp0,by simpa using hus0⟩ (fun i σ H' ⟨_,_,_,_,s,_⟩=>s) ?_ ?_⟩
 ·rintro i x σ H2 H3 hi ⟨x2,x3,us2,rfl,s2,hp2,hus2⟩ s3 s23 ⟨t,y,rfl,ht,hy⟩
  obtain⟨p,hp,pb,pbx,rfl,hpb⟩:=hps.jd hy
  have hi':i<g.aO.af.length:=cG hp
  have ep:pat g i=p:=by
   show g.aO.af.getD i ai.p0=p
   rw[gDe,hp];rfl
  have hp3:=s23 _ _ hp2
  have LI:=hlw i hi'
  obtain⟨kl,ku⟩:=LI.kind
  rw[ep] at kl ku
  refine⟨t,_,rfl,.of ht,rfl,_,_,rfl,_,_,rfl,rfl,?_⟩
  refine⟨_,rfl,.inl ⟨rfl,_,.of hp3⟩,?_⟩
  obtain⟨f1,fd1,hf1,F1,kp1,b1⟩:=L.fn p.kind.toNat (by lia)
  have hf1':(fs.map V.ref)[p.kind.toNat]? =some (.ref f1):=by rw[List.getElem?_map,hf1];rfl
  refine⟨_,rfl,pb,c.part,pbx,_,_,rfl,s3 _ _ hpb,O.part.cl,O.part.at_ 0 rfl,rfl,ta,_,_,_,rfl,rfl,L.tup _,aS (j:=p.kind.toNat) (by lia) hf1',?_⟩
  refine⟨f1,fd1,_,_,_,rfl,F1,hr.mono (by decide),kp1,b1,_,rfl,_,rfl,_,g,i,rfl,hg.same s3,ok,hi',⟨by rw[ep];lia,LI⟩,fun z H4 s4 hz=> ?_⟩
  obtain⟨za,zv,rfl,nz,hza,hzv⟩:=hz
  have hp4:=s4 _ _ hp3
  have lz:zv.length=(ai.cJ g i).length:=hzv.length
  have l2:=hus2.length
  have cnt:=R.cnt
  have lsum:(List.map (fun v:Nat=>ai.gv g.aO ((v:Int)+1)) (List.range g.aO.last.toNat)).length+(((List.range i).flatMap fun k=>ai.cJ g k).length+(ai.cJ g i).length)<=1000:=by
   refine Nat.le_trans ?_ cnt
   unfold ai.dD
   rw[List.length_append]
   refine Nat.add_le_add_left ?_ _
   have e:(List.range (i+1)).flatMap (fun k=>ai.cJ g k)=(List.range i).flatMap (fun k=>ai.cJ g k) ++ ai.cJ g i:=by
    rw[List.range_succ,List.flatMap_append];simp
   rw[<-List.length_append,<-e]
   have e2:∀m,((List.range (i+1)).flatMap fun k=>ai.cJ g k).length<=((List.range (i+1+m)).flatMap fun k=>ai.cJ g k).length:=by
    intro m
    induction m with
    |zero=>exact Nat.le_refl _
    |succ m ih=>
     have e4:(List.range (i+1+(m+1))).flatMap (fun k=>ai.cJ g k)=(List.range (i+1+m)).flatMap (fun k=>ai.cJ g k) ++ ai.cJ g (i+1+m):=by
      rw[<-Nat.add_assoc,List.range_succ,List.flatMap_append];simp
     rw[e4,List.length_append]
     lia
   have:=e2 (g.aO.af.length - (i+1))
   have e3:i+1+(g.aO.af.length - (i+1))=g.aO.af.length:=by lia
   rwa [e3] at this
  refine⟨p0,za,_,_,rfl,rfl,hp4,hza,ax (by rw[l2,lz,List.length_append];lia),_,_,_,rfl,(s3.trans s4).over p0H,ak,?_⟩
  have od:Off (b5 (cq H) p0) H4 (upd H4 p0 (.lst (us2 ++ zv))):=bU (.inr rfl)
  rw[List.range_succ,List.flatMap_append,<-List.append_assoc]
  refine((hus2.eY br (s23.trans s4)).qe br od).app ?_
  have hzv2:Paired (nO (b5 (cq H) p0) H4) zv ([i].flatMap fun k=>ai.cJ g k):=by
   rw[List.flatMap_singleton]
   refine hzv.dO fun _ _ q=>br.vX q fun a ha=> ?_
   rcases ha with ha |ha
   ·exact .inl (cu s3 a ha)
   ·refine .inl fun z=> ?_
    rw[ha,hp3] at z
    cases z
  exact hzv2.qe br od
 ·rintro σ H2 ⟨x2,x3,us2,rfl,s2,hp2,hus2⟩
  rw[lps] at hus2
  change Paired (nO (b5 (cq H) p0) H2) us2 (ai.dD g) at hus2
  have l2:=hus2.length
  have cnt:=R.cnt
  refine⟨_,rfl,p0,rfl,⟨_,.of hp2⟩,fun D hD=>ks (bT (.of hp2)) hD (fun i H' acc=>Paired (p9 (b5 (cq H) D) H') acc (((ai.dD g).take i).map (ai.rowOf (ai.width g.aO)))) .nil ?_ ?_⟩
  ·rintro i x H3 H4 acc hi s3 hD3 hacc s4 s34 hD4 hx
   obtain⟨ts,hts,tt⟩:=hus2.jd hx
   have lacc:=hacc.length
   refine⟨rfl,⟨_,rfl,_,rfl,ga,c.dI,gdx,_,_,rfl,s4 _ _ (s2 _ _ hga),O.dI.cl,O.dI.at_ 5 rfl,rfl,_,ts,_,rfl,toF (br.same tt s4),R.w0,R.w1,R.terms ts (List.mem_of_getElem? hts),fun z H5 s5 hz=> ?_⟩⟩
   have hz2:p9 (b5 (cq H) D) H5 z (ai.rowOf (ai.width g.aO) ts):=bH.vX hz fun a ha=>by
    rcases ha with ha |ha
    ·exact .inl (cu (s2.trans s4) a ha)
    ·refine .inl fun y=> ?_
     rw[ha,hD4] at y
     cases y
   refine cT hD (s4.trans s5) (s5 _ _ hD4) ?_ ?_
   ·rw[lacc,lMp,List.length_take]
    exact aH (by lia)
   ·rw[bh _ _ _ _ hts]
    exact((hacc.eY bH (s34.trans s5)).qe bH (bU (.inr rfl))).gh (bH.off hz2 (bU (.inr rfl)))
  ·intro H3 acc s3 hD3 hacc
   rw[l2,List.take_length] at hacc
   exact kk _ H3 (s2.trans s3) ⟨D,acc,rfl,fun z=>z (s2.free hD),hD3,hacc.J3 bH⟩
end
structure wD(K:PySem.W.Frag)(mg:Str->Option Value)(x qual:Str)(C:Addr)(st:Stmt)(ps:List Str):Prop where
 ex:∃(f:Addr) (fd:FuncData),mg x=some (.ref C)/\Mk K C f/\Om K "__init__" qual st f fd/\Binds K fd ps []
structure G1(P:Program)(w:World)(K:PySem.W.Frag)(mg:Str->Option Value)(base:Heap)(x:Str)(C:Addr)(ps:List Str)(k:Nat)(sp:Sp):Prop where
 ex:∃(f:Addr) (fd:FuncData),mg x=some (.ref C)/\Mk K C f/\lY P w K mg base HB k f fd ps sp/\Binds K fd ps []
theorem wD.Pf{P:Program}{w:World}{K:PySem.W.Frag}{mg:Str->Option Value}{base:Heap}{x qual:Str}{C:Addr}{st:Stmt}{N ps:List Str}{k:Nat}{sp:Sp}(G:wD K mg x qual C st ps)(S:aD N ps (aq st))(len:∀vs H Q E,sp vs H Q E->vs.length=ps.length)
  (h:∀(f:Addr) (cdv:Value) (A:Around) (outer:List Env) (s:Shared) (H:Hp) (vs:List V) (Q:VK) (E:XK),hJ k (A.deeper (envOfC qual (aq st) s.heap.objs.size f cdv))->sp vs H Q E->
   ∃t,FT (Cr HB P w K mg base N qual (aq st) f cdv A outer s H E).NM (cz st) t/\t {nx:=fun _ H'=>Q .gr H',rt:=Q} (L2.start N vs) H):G1 P w K mg base x C ps (k+1) sp:=by
 obtain⟨f,fd,hm,M,F,hb⟩:=G.ex
 exact⟨f,fd,hm,M,F.ok S len (fun cdv A outer s H vs Q E hr hsp=>h f cdv A outer s H vs Q E hr hsp),hb⟩
theorem rD{X:Cx}{k:Nat}{x:Str}{C:Addr}{ps:List Str}{sp:Sp}{e:Expr}{es:List Expr}{t:TA}{p pos:Pos}(m:G1 X.prog X.w X.K X.mg X.base x C ps k sp)(hr:hJ (k+1) X.A)(hg:Gl X x)(ha:PA X (e::es) t)
  (hdb:(x==("__debug__":Str))=false:=by decide) (he:starEach (e::es) X.env=(false,eval e X.env)::starEach es X.env:=by rfl) (hpl:(backTo pos (starEach es X.env)).any (·.1)=false:=by rfl):
  PE X (.Call (.Name x p) (e::es) [] pos) (Ng C sp [] E0 t):=by
 obtain⟨f,fd,hm,M,F,hb⟩:=m.ex
 exact Md M F hr hg hm hb .nil Ku ha hdb he hpl
def Ak(C:Addr)(x dx:Addr)(H:Hp)(Q:VK)(fs:List (Str×V)):Prop:=∀H',(∀b o,H b=some o->b≠x->H' b=some o)->H' x=some (.ins C dx fs)->Q .gr H'
section
variable {P:Program}{w:World}{K:PySem.W.Frag}{mg:Str->Option Value}{base:Heap}{c:Cs}
abbrev jh:Stmt:=inClass (top 88) 0
theorem wF:aD ["self","determinant","tops"] ["self","determinant","tops"] (aq jh):=sco rfl rfl rfl rfl (by decide +kernel)
def uR(C:Addr):Sp:=fun vs H Q _=>∃x dx d t,vs=[.ref x,d,t]/\H x=some (.ins C dx [])/\Ak C x dx H Q (QE d t)
theorem Fm{C:Addr}(O:oP K C ["determinant","tops"])(G:wD K mg "Solution" "Solution.__init__" C jh ["self","determinant","tops"]):G1 P w K mg base "Solution" C ["self","determinant","tops"] 1 (uR C):=by
 have sc:=wF
 refine G.Pf sc (fun vs H Q E ⟨x,dx,d,t,e,_⟩=>by rw[e];rfl) fun f cdv A outer s H vs Q E hr h=> ?_
 obtain⟨x,dx,d,t,rfl,hx,k⟩:=h
 refine⟨_,(aj (dc (pv 0) (pv 1) rfl)
   (au (dc (pv 0) (pv 2) rfl))),?_⟩
 refine⟨_,rfl,_,rfl,x,C,dx,_,rfl,hx,O.cl,O.at_ 0 rfl,(by show 0<1000;decide),?_⟩
 refine⟨_,rfl,_,rfl,x,C,dx,_,rfl,ak,O.cl,O.at_ 1 rfl,(by show 1<1000;decide),?_⟩
 exact k _ (fun b o e hb=>by rw[aR hb,aR hb];exact e) ak
abbrev fq:Stmt:=inClass (top 94) 0
theorem n9:aD ["self","states","solution"] ["self","states","solution"] (aq fq):=sco rfl rfl rfl rfl (by decide +kernel)
def j5(C:Addr):Sp:=fun vs H Q _=>∃x dx d t,vs=[.ref x,d,t]/\H x=some (.ins C dx [])/\Ak C x dx H Q (RU d t)
theorem uS{C:Addr}(O:oP K C ["states","solution"])(G:wD K mg "OperatingPoint" "OperatingPoint.__init__" C fq ["self","states","solution"]):G1 P w K mg base "OperatingPoint" C ["self","states","solution"] 1 (j5 C):=by
 have sc:=n9
 refine G.Pf sc (fun vs H Q E ⟨x,dx,d,t,e,_⟩=>by rw[e];rfl) fun f cdv A outer s H vs Q E hr h=> ?_
 obtain⟨x,dx,d,t,rfl,hx,k⟩:=h
 refine⟨_,(aj (dc (pv 0) (pv 1) rfl)
   (au (dc (pv 0) (pv 2) rfl))),?_⟩
 refine⟨_,rfl,_,rfl,x,C,dx,_,rfl,hx,O.cl,O.at_ 0 rfl,(by show 0<1000;decide),?_⟩
 refine⟨_,rfl,_,rfl,x,C,dx,_,rfl,ak,O.cl,O.at_ 1 rfl,(by show 1<1000;decide),?_⟩
 exact k _ (fun b o e hb=>by rw[aR hb,aR hb];exact e) ak
abbrev j6:Stmt:=inClass (top 111) 0
theorem xW:aD ["self","last_node","parts"] ["self","last_node","parts"] (aq j6):=sco rfl rfl rfl rfl (by decide +kernel)
def xH(C:Addr):Sp:=fun vs H Q _=>∃x dx n t,vs=[.ref x,.int n,t]/\H x=some (.ins C dx [])/\Ak C x dx H Q (QD n t)
theorem G2{C:Addr}(O:oP K C ["last_node","parts"])(G:wD K mg "Network" "Network.__init__" C j6 ["self","last_node","parts"]):G1 P w K mg base "Network" C ["self","last_node","parts"] 1 (xH C):=by
 have sc:=xW
 refine G.Pf sc (fun vs H Q E ⟨x,dx,d,t,e,_⟩=>by rw[e];rfl) fun f cdv A outer s H vs Q E hr h=> ?_
 obtain⟨x,dx,d,t,rfl,hx,k⟩:=h
 refine⟨_,(aj (dc (pv 0) (pv 1) rfl)
   (au (dc (pv 0) (pv 2) rfl))),?_⟩
 refine⟨_,rfl,_,rfl,x,C,dx,_,rfl,hx,O.cl,O.at_ 0 rfl,(by show 0<1000;decide),?_⟩
 refine⟨_,rfl,_,rfl,x,C,dx,_,rfl,ak,O.cl,O.at_ 1 rfl,(by show 1<1000;decide),?_⟩
 exact k _ (fun b o e hb=>by rw[aR hb,aR hb];exact e) ak
abbrev oa:Stmt:=inClass (top 117) 0
theorem A7:aD ["self","refusal","top","bottom"] ["self","refusal","top","bottom"] (aq oa):=sco rfl rfl rfl rfl (by decide +kernel)
def Cb(C:Addr):Sp:=fun vs H Q _=>∃x dx a b d,vs=[.ref x,a,b,d]/\H x=some (.ins C dx [])/\Ak C x dx H Q (OQ a b d)
theorem LL{C:Addr}(O:oP K C ["refusal","top","bottom"])(G:wD K mg "Asked" "Asked.__init__" C oa ["self","refusal","top","bottom"]):G1 P w K mg base "Asked" C ["self","refusal","top","bottom"] 1 (Cb C):=by
 have sc:=A7
 refine G.Pf sc (fun vs H Q E ⟨x,dx,a,b,d,e,_⟩=>by rw[e];rfl) fun f cdv A outer s H vs Q E hr h=> ?_
 obtain⟨x,dx,a,b,d,rfl,hx,k⟩:=h
 refine⟨_,(aj (dc (pv 0) (pv 1) rfl)
   (aj (dc (pv 0) (pv 2) rfl)
   (au (dc (pv 0) (pv 3) rfl)))),?_⟩
 refine⟨_,rfl,_,rfl,x,C,dx,_,rfl,hx,O.cl,O.at_ 0 rfl,(by show 0<1000;decide),?_⟩
 refine⟨_,rfl,_,rfl,x,C,dx,_,rfl,ak,O.cl,O.at_ 1 rfl,(by show 1<1000;decide),?_⟩
 refine⟨_,rfl,_,rfl,x,C,dx,_,rfl,ak,O.cl,O.at_ 2 rfl,(by show 2<1000;decide),?_⟩
 exact k _ (fun b o e hb=>by rw[aR hb,aR hb,aR hb];exact e) ak
abbrev qt:Stmt:=inClass (top 110) 0
theorem DD:aD ["self","numbers"] ["self","numbers"] (aq qt):=sco rfl rfl rfl rfl (by decide +kernel)
def Fn(K:PySem.W.Frag)(C:Addr):Sp:=fun vs H Q _=>∃x dx a l,vs=[.ref x,.ref a]/\H x=some (.ins C dx [])/\H a=some (.lst (l.map V.int))/\l.length=7/\Ak C x dx H Q (Ly (ai.Part.of l))
theorem MU{C:Addr}(O:oP K C ["kind","a","b","c","d","top","bottom"])(G:wD K mg "Part" "Part.__init__" C qt ["self","numbers"]):G1 P w K mg base "Part" C ["self","numbers"] 1 (Fn K C):=by
 have sc:=DD
 refine G.Pf sc (fun vs H Q E ⟨x,dx,a,l,e,_⟩=>by rw[e];rfl) fun f cdv A outer s H vs Q E hr h=> ?_
 obtain⟨x,dx,a,l,rfl,hx,ha,hl,k⟩:=h
 have ne:a≠x:=DS ha hx (by intro z;cases z)
 refine⟨_,(aj (dc (pv 0) (aY (fE K) (pv 1) aF (fun _ _=>rfl)) rfl)
   (aj (dc (pv 0) (aY (fE K) (pv 1) aF (fun _ _=>rfl)) rfl)
   (aj (dc (pv 0) (aY (fE K) (pv 1) aF (fun _ _=>rfl)) rfl)
   (aj (dc (pv 0) (aY (fE K) (pv 1) aF (fun _ _=>rfl)) rfl)
   (aj (dc (pv 0) (aY (fE K) (pv 1) aF (fun _ _=>rfl)) rfl)
   (aj (dc (pv 0) (aY (fE K) (pv 1) aF (fun _ _=>rfl)) rfl)
   (au (dc (pv 0) (aY (fE K) (pv 1) aF (fun _ _=>rfl)) rfl)))))))),?_⟩
 refine⟨_,rfl,a,_,_,_,rfl,rfl,.of ha,aS (j:=0) rfl (fF (by lia)),_,rfl,x,C,dx,_,rfl,hx,O.cl,O.at_ 0 rfl,(by show 0<1000;decide),?_⟩
 refine⟨_,rfl,a,_,_,_,rfl,rfl,.of (by rw[aR ne];exact ha),aS (j:=1) rfl (fF (by lia)),_,rfl,x,C,dx,_,rfl,ak,O.cl,O.at_ 1 rfl,(by show 1<1000;decide),?_⟩
 rw[iQ]
 refine⟨_,rfl,a,_,_,_,rfl,rfl,.of (by rw[aR ne];exact ha),aS (j:=2) rfl (fF (by lia)),_,rfl,x,C,dx,_,rfl,ak,O.cl,O.at_ 2 rfl,(by show 2<1000;decide),?_⟩
 rw[iQ]
 refine⟨_,rfl,a,_,_,_,rfl,rfl,.of (by rw[aR ne];exact ha),aS (j:=3) rfl (fF (by lia)),_,rfl,x,C,dx,_,rfl,ak,O.cl,O.at_ 3 rfl,(by show 3<1000;decide),?_⟩
 rw[iQ]
 refine⟨_,rfl,a,_,_,_,rfl,rfl,.of (by rw[aR ne];exact ha),aS (j:=4) rfl (fF (by lia)),_,rfl,x,C,dx,_,rfl,ak,O.cl,O.at_ 4 rfl,(by show 4<1000;decide),?_⟩
 rw[iQ]
 refine⟨_,rfl,a,_,_,_,rfl,rfl,.of (by rw[aR ne];exact ha),aS (j:=5) rfl (fF (by lia)),_,rfl,x,C,dx,_,rfl,ak,O.cl,O.at_ 5 rfl,(by show 5<1000;decide),?_⟩
 rw[iQ]
 refine⟨_,rfl,a,_,_,_,rfl,rfl,.of (by rw[aR ne];exact ha),aS (j:=6) rfl (fF (by lia)),_,rfl,x,C,dx,_,rfl,ak,O.cl,O.at_ 6 rfl,(by show 6<1000;decide),?_⟩
 rw[iQ]
 exact k _ (fun b o e hb=>by rw[aR hb];exact e) ak
abbrev j7:Stmt:=inClass (top 30) 0
theorem xX:aD ["self","network","s","states","drives"] ["self","network","s","states","drives"] (aq j7):=sco rfl rfl rfl rfl (by decide +kernel)
def qu(c:Cs):Sp:=fun vs H Q _=>∃H0 x dx vn vs' vst vd g,vs=[.ref x,vn,vs',vst,vd]/\H x=some (.ins c.dI dx [])/\aJ H0 H/\H0 x=none/\lI c H0 vn g.aO/\bP H0 vs' g.s/\uE H0 vst g.cU/\B8 H0 vd g.drives/\g.aO.af.length<=1000/\∀H',aJ H0 H'->i6 c H' (.ref x) g->Q .gr H'
theorem G3(O:cQ K c)(iC:bq P w K mg base "current_places" ["network"] 2 (lK c))(mq:bq P w K mg base "unknowns_of" ["network"] 2 (qi c))(G:wD K mg "Setting" "Setting.__init__" c.dI j7 ["self","network","s","states","drives"]):G1 P w K mg base "Setting" c.dI ["self","network","s","states","drives"] 3 (qu c):=by
 have sc:=xX
 refine G.Pf sc (fun vs H Q E ⟨_,x,dx,_,_,_,_,g,e,_⟩=>by rw[e];rfl) fun f cdv A outer s H vs Q E hr h=> ?_
 obtain⟨H0,x,dx,vn,vs',vst,vd,g,rfl,hx,s0,hx0,hn,hs,hst,hd,hl,k⟩:=h
 refine⟨_,(aj (dc (pv 0) (pv 1) rfl)
   (aj (dc (pv 0) (pv 2) rfl)
   (aj (dc (pv 0) (pv 3) rfl)
   (aj (dc (pv 0) (pv 4) rfl)
   (aj (dc (pv 0) (aA iC (hr.mono (by decide)) rfl (aa (pv 1) ah)) rfl)
   (au (dc (pv 0) (aA mq (hr.mono (by decide)) rfl (aa (pv 1) ah)) rfl))))))),?_⟩
 refine⟨_,rfl,_,rfl,x,c.dI,dx,_,rfl,hx,O.dI.cl,O.dI.at_ 0 rfl,(by show 0<1000;decide),?_⟩
 refine⟨_,rfl,_,rfl,x,c.dI,dx,_,rfl,ak,O.dI.cl,O.dI.at_ 1 rfl,(by show 1<1000;decide),?_⟩
 rw[iQ]
 refine⟨_,rfl,_,rfl,x,c.dI,dx,_,rfl,ak,O.dI.cl,O.dI.at_ 2 rfl,(by show 2<1000;decide),?_⟩
 rw[iQ]
 refine⟨_,rfl,_,rfl,x,c.dI,dx,_,rfl,ak,O.dI.cl,O.dI.at_ 3 rfl,(by show 3<1000;decide),?_⟩
 rw[iQ]
 have s1:∀o,aJ H0 (upd H x o):=fun o=>s0.over hx0
 refine⟨_,rfl,_,_,rfl,hn.same (s1 _),hl,fun p H1 hp s2 hp1=> ?_⟩
 have x1:=s2 _ _ ak
 refine⟨_,rfl,x,c.dI,dx,_,rfl,x1,O.dI.cl,O.dI.at_ 4 rfl,(by show 4<1000;decide),?_⟩
 have px:p≠x:=fun e=>by rw[e,ak] at hp;cases hp
 have s3:∀o,aJ H0 (upd H1 x o):=fun o=>((s1 _).trans s2).over hx0
 refine⟨_,rfl,_,_,rfl,hn.same (s3 _),hl,fun H2 s4=> ?_⟩
 have x2:=s4 _ _ ak
 refine⟨_,rfl,x,c.dI,dx,_,rfl,x2,O.dI.cl,O.dI.at_ 5 rfl,(by show 5<1000;decide),?_⟩
 have s5:∀o,aJ H0 (upd H2 x o):=fun o=>((s3 _).trans s4).over hx0
 refine k _ (s5 _) ⟨x,dx,vn,vs',vst,vd,.ref p,rfl,ak,hn.same (s5 _),hs.same (s5 _),hst.same (s5 _),hd.same (s5 _),p,rfl,?_⟩
 rw[aR px]
 exact s4 _ _ (by rw[aR px];exact hp1)
end
abbrev FF:Addr->Prop:=fun _=>False
structure OR(bk rj rk bj before:List Int):Prop where
 s1:bk.length<100000
 s2:rj.length<100000
 s3:rk.length<100000
 s4:bj.length<100000
 s5:before.length<100000
 m1:∀x∈bk,∀y∈rj,IntMulOk x y
 m2:∀x∈rk,∀y∈bj,IntMulOk x y
 tb:ai.Trim before
 nb:before≠[]
 lb:(ai.lc before).natAbs.log2<9000
 ex:∃m,ai.Trim m/\ai.aG (ai.pO (ai.de bk rj) (ai.de rk bj))=ai.aG m*ai.aG before/\∀x∈m,∀y∈before,IntMulOk x y
def LM(row by_:List (List Int))(k:Nat)(before:List Int):Prop:=∀j,k<j->j<row.length->OR (by_.getD k []) (row.getD j []) (row.getD k []) (by_.getD j []) before
theorem xI(l r:List Int):(ai.de l r).length<=l.length+r.length:=by
 by_cases h:l=[]\/r=[]
 ·unfold ai.de
  rw[if_pos h]
  simp
 ·have h1:l≠[]:=fun e=>h (.inl e)
  have h2:r≠[]:=fun e=>h (.inr e)
  rw[ai.tW h1 h2]
  lia
theorem Fo(l r:List Int):(ai.pO l r).length<=max l.length r.length:=by
 unfold ai.pO ai.yU
 refine Nat.le_trans (ai.CN _) ?_
 rw[ai.fH,ai.tV]
 exact Nat.le_refl _
section
variable {P:Program}{w:World}{K:PySem.W.Frag}{mg:Str->Option Value}{base:Heap}{c:Cs}
abbrev gV:Stmt:=top 90
theorem sE:aD ["table","k","place"] ["table","k"] (aq gV):=sco rfl rfl rfl rfl (by decide +kernel)
def Sa:Option Nat->V
 |none=> .gr
 |some c=> .int (c:Int)
def j8:Sp:=fun vs H Q _=>∃v t k,vs=[v,.int ((k:Nat):Int)]/\Lw FF H v t/\k<=t.length/\t.length<=1000/\(∀r∈t,k<r.length)/\∀H',aJ H H'->Q (Sa (ai.jG t k (t.length - k))) H'
theorem sF(T:Txt2 mg)(G:d9 K mg "row_to_solve_by" gV ["table","k"]):bq P w K mg base "row_to_solve_by" ["table","k"] 1 j8:=by
 have sc:=sE
 refine G.fg sc (fun vs H Q E ⟨v,t,k,e,_⟩=>by rw[e];rfl) fun f cdv A outer s H vs Q E hr h=> ?_
 obtain⟨v,t,k,rfl,⟨a,us,rfl,_,ha,hus⟩,hk,hl,hrow,kk⟩:=h
 have ll:=hus.length
 refine⟨_,(aj (c9 PassesOwn.never rfl (Bo rfl T.gx (aa (pv 1) (aa (aZ (bo K) rfl T.dE a6 (aa (pv 0) ah)) ah))) (aM (i:=2) sc.nd rfl (Or.inl rfl)) (au (bK (bw K (aY (fE K) (aY (fE K) (pv 0) (pv 2) (fun _ _=>rfl)) (pv 1) (fun _ _=>rfl)) (fun _=>rfl)) (au (aB (pv 2))) aW)))
   (au (aB FU))),?_⟩
 refine⟨_,rfl,_,rfl,a,_,rfl,.inl (.of ha),_,_,rfl,⟨by lia,by lia,by lia,by lia⟩,?_⟩
 have en:((us.length:Int) - (k:Int)).toNat=t.length - k:=by lia
 rw[en]
 refine gb (iX H _ _) (fun i σ H'=>∃x2,σ=[some (.ref a),some (.int (k:Int)),x2]/\aJ H H'/\i<=t.length - k/\ai.jG t k (t.length - k)=ai.jG t k (t.length - k - i)) ⟨none,rfl,.refl _,Nat.zero_le _,rfl⟩ (fun i σ H' ⟨_,_,s,_⟩=>s) ?_ ?_
 ·rintro i x σ H1 H2 hi ⟨x2,rfl,s1,hi2,hpv⟩ s2 s12 rfl
  obtain⟨m,em⟩:∃m,t.length - k - i=m+1:=⟨t.length - k - i - 1,by lia⟩
  have epl:t.length - (m+1)=k+i:=by lia
  obtain⟨u,hu,ra,rv,rfl,_,hra,hrv⟩:=hus.gB (az (d:=[]) (show k+i<t.length by lia))
  have hkr:=hrow _ (List.mem_of_getElem? (az (d:=[]) (show k+i<t.length by lia)))
  obtain⟨q,hq,qa,rfl,_,hqa⟩:=hrv.gB (az (d:=[]) hkr)
  refine⟨_,rfl,_,rfl,a,_,_,_,rfl,rfl,.of (s2 _ _ ha),aS (j:=k+i) (by lia) hu,_,rfl,ra,_,_,_,rfl,rfl,.of (s2 _ _ hra),aS (j:=k) rfl hq,_,Du (s2 _ _ hqa),?_⟩
  rw[em,show ai.jG t k (m+1)=(if(t.getD (t.length - (m+1)) []).getD k []≠[] then some (t.length - (m+1)) else ai.jG t k m) from rfl,epl] at hpv
  by_cases h0:(t.getD (k+i) []).getD k []=[]
  ·rw[h0] at hpv⊢
   rw[if_neg (by simp)] at hpv
   refine bE ⟨_,rfl,s2,by lia,?_⟩
   have e2:t.length - k - (i+1)=m:=by lia
   rw[e2]
   exact hpv
  ·rw[fN h0]
   rw[if_pos h0] at hpv
   refine bx ⟨_,rfl,?_⟩
   have q:=kk H2 s2
   rw[hpv] at q
   have e3:(k:Int)+(i:Nat)=((k+i:Nat):Int):=by lia
   rw[e3]
   exact q
 ·rintro σ H1 ⟨x2,rfl,s1,hi2,hpv⟩
  have q:=kk H1 s1
  rw[hpv,Nat.sub_self] at q
  exact q
abbrev mr:Stmt:=top 92
theorem Am:aD ["row","by","k","before","result","factor","place","kept"] ["row","by","k","before"] (aq mr):=sco rfl rfl rfl rfl (by decide +kernel)
def qv:Sp:=fun vs H Q _=>∃S v u b row by_ k before,vs=[v,u,.int ((k:Nat):Int),b]/\J2 S H/\p9 S H v row/\p9 S H u by_/\bP H b before/\k<row.length/\row.length=by_.length/\row.length<=1000/\LM row by_ k before/\∀z H',aJ H H'->p9 S H' z (ai.ia row by_ k before)->Q z H'
theorem An(T:Txt2 mg)(eJ:bq P w K mg base "multiplied" ["left","right"] 1 md)(cV:bq P w K mg base "subtracted" ["left","right"] 3 iS)(iq:bq P w K mg base "divided" ["left","right"] 1 sr)(G:d9 K mg "cleared_row" mr ["row","by","k","before"]):bq P w K mg base "cleared_row" ["row","by","k","before"] 4 qv:=by
 have sc:=Am
 refine G.fg sc (fun vs H Q E ⟨S,v,u,b,row,by_,k,before,e,_⟩=>by rw[e];rfl) fun f cdv A outer s H vs Q E hr h=> ?_
 obtain⟨S,v,u,b,row,by_,k,before,rfl,dS,⟨ra,rv,rfl,nra,hra,hrv⟩,⟨ba,bv,rfl,nba,hba,hbv⟩,hb,hk,hlen,hl,rok,kk⟩:=h
 have lr:=hrv.length
 have lb:=hbv.length
 refine⟨_,(aj (aI (i:=4) sc.nd rfl (by first|left;rfl|right;rfl) (vF (rM K) rfl T.zV pJ (aa (pv 0) ah)))
   (aj (aI (i:=5) sc.nd rfl (by first|left;rfl|right;rfl) (aY (fE K) (pv 0) (pv 2) (fun _ _=>rfl)))
   (aj (c9 PassesOwn.never rfl (Bo rfl T.gx (aa (bu gO (pv 2) aF) (aa (aZ (bo K) rfl T.dE a6 (aa (pv 0) ah)) ah))) (aM (i:=6) sc.nd rfl (Or.inl rfl)) (aj (aI (i:=7) sc.nd rfl (by first|left;rfl|right;rfl) (aA eJ (hr.mono (by decide)) rfl (aa (aY (fE K) (pv 1) (pv 2) (fun _ _=>rfl)) (aa (aY (fE K) (pv 0) (pv 6) (fun _ _=>rfl)) ah))))
   (au (vC (aA iq (hr.mono (by decide)) rfl (aa (aA cV (hr.mono (by decide)) rfl (aa (pv 7) (aa (aA eJ (hr.mono (by decide)) rfl (aa (pv 5) (aa (aY (fE K) (pv 1) (pv 6) (fun _ _=>rfl)) ah))) ah))) (aa (pv 3) ah))) (vB (pv 4) (pv 6) set_list)))))
   (au (aB (pv 4)))))),?_⟩
 refine⟨_,rfl,ra,_,rfl,.inl (.of hra),fun p hp=> ?_⟩
 have s1:=ay (o:= .lst rv) hp
 obtain⟨fv,hfv,pf⟩:=hrv.gB (az (d:=[]) hk)
 refine⟨_,rfl,_,rfl,ra,_,_,_,rfl,rfl,.of (s1 _ _ hra),aS (j:=k) rfl hfv,?_⟩
 refine⟨_,rfl,_,_,rfl,rfl,_,rfl,ra,_,rfl,.inl (.of (s1 _ _ hra)),_,_,rfl,⟨by lia,by lia,by lia,by lia⟩,?_⟩
 have en:((rv.length:Int) - ((k:Int)+1)).toNat=row.length - (k+1):=by lia
 rw[en]
 have hrvA:Paired (oO (b5 S p) H) rv row:=hrv.MO cN hp
 have hbvA:Paired (oO (b5 S p) H) bv by_:=hbv.MO cN hp
 refine gb (iX H _ _) (fun i σ H'=>∃x6 x7 ws,σ=[some (.ref ra),some (.ref ba),some (.int (k:Int)),some b,some (.ref p),some fv,x6,x7]/\aJ H H'/\H' p=some (.lst ws)/\ws.length=row.length/\(∀j x,ws[j]? =some x->oO (b5 S p) H' x (if k<j/\j<k+1+i then(ai.ia row by_ k before).getD j [] else row.getD j []))) ⟨none,none,rv,rfl,s1,ak,lr,fun j x hx=> ?_⟩ (fun i σ H' ⟨_,_,_,_,s,_⟩=>s) ?_ ?_
 ·rw[if_neg (by lia)]
  obtain⟨y,hy,py⟩:=hrvA.jd hx
  have:row.getD j []=y:=by rw[gDe,hy];rfl
  rw[this]
  exact cN.same py s1
 ·rintro i x σ H1 H2 hi ⟨x6,x7,ws,rfl,s2,hp2,hwl,hws⟩ s3 s12 rfl
  have hj:k+1+i<row.length:=by lia
  have ej:((k:Int)+1)+((i:Nat):Int)=((k+1+i:Nat):Int):=by lia
  rw[ej]
  have O:=rok (k+1+i) (by lia) hj
  obtain⟨bkv,hbk,pbk⟩:=hbv.gB (az (d:=[]) (show k<by_.length by lia))
  obtain⟨bjv,hbj,pbj⟩:=hbv.gB (az (d:=[]) (show k+1+i<by_.length by lia))
  obtain⟨rjv,hrj,prj⟩:=hrv.gB (az (d:=[]) hj)
  refine⟨_,rfl,_,rfl,ba,_,_,_,rfl,rfl,.of (s3 _ _ hba),aS (j:=k) rfl hbk,_,rfl,_,rfl,ra,_,_,_,rfl,rfl,.of (s3 _ _ hra),aS (j:=k+1+i) rfl hrj,?_⟩
  refine⟨_,_,_,_,rfl,pbk.at_.same s3,prj.at_.same s3,by unfold Short;have:=O.s1;lia,by unfold Short;have:=O.s2;lia,O.m1,fun q1 H3 hq1 t1 hq1'=> ?_⟩
  have s34:=s3.trans t1
  refine⟨_,rfl,_,rfl,_,rfl,_,rfl,ba,_,_,_,rfl,rfl,.of (s34 _ _ hba),aS (j:=k+1+i) rfl hbj,?_⟩
  refine⟨_,_,_,_,rfl,pf.at_.same s34,pbj.at_.same s34,by unfold Short;have:=O.s3;lia,by unfold Short;have:=O.s4;lia,O.m2,fun q2 H4 hq2 t2 hq2'=> ?_⟩
  have l1:=xI (by_.getD k []) (row.getD (k+1+i) [])
  have l2:=xI (row.getD k []) (by_.getD (k+1+i) [])
  have o1:=O.s1
  have o2:=O.s2
  have o3:=O.s3
  have o4:=O.s4
  have o5:=O.s5
  refine⟨_,_,_,_,rfl,⟨q1,rfl,t2 _ _ hq1'⟩,⟨q2,rfl,hq2'⟩,by unfold Short;lia,by unfold Short;lia,fun q3 H5 hq3 t3 hq3'=> ?_⟩
  have l3:=Fo (ai.de (by_.getD k []) (row.getD (k+1+i) [])) (ai.de (row.getD k []) (by_.getD (k+1+i) []))
  obtain⟨m,tm,em,mm⟩:=O.ex
  have s35:=(s34.trans t2).trans t3
  refine⟨_,rfl,_,_,_,_,m,rfl,⟨q3,rfl,hq3'⟩,hb.same s35,by unfold Short;lia,by unfold Short;lia,ai.qK _ _,O.tb,tm,O.nb,em,O.lb,mm,fun q4 H6 hq4 t4 hq4'=> ?_⟩
  have s26:=((t1.trans t2).trans t3).trans t4
  have hp6:=s26 _ _ (s12 _ _ hp2)
  refine⟨_,rfl,_,rfl,p,_,_,k+1+i,rfl,rfl,hp6,m6 rfl (by lia),?_⟩
  have n4:¬b5 S p q4:=fun h=>h.elim (fun y=>(dS.same s35) q4 y hq4) (fun y=>by
   have:=((t1.trans t2).trans t3) _ _ (s12 _ _ hp2)
   rw[<-y,hq4] at this
   cases this)
  have ed:(ai.ia row by_ k before).getD (k+1+i) []=m:=by
   unfold ai.ia
   rw[ai.jr _ _ _ _ hj,if_pos (by lia)]
   exact ai.lj (ai.qK _ _) O.tb tm O.nb em
  refine⟨_,_,_,rfl,(s3.trans s26).over hp,ak,by rw[List.length_set];exact hwl,fun j x hx=> ?_⟩
  have od:Off (b5 S p) H6 (upd H6 p (.lst (ws.set (k+1+i) (.ref q4)))):=bU (.inr rfl)
  rw[List.getElem?_set] at hx
  by_cases e:k+1+i=j
  ·subst e
   rw[if_pos rfl,if_pos (by lia)] at hx
   have:V.ref q4=x:=Option.some.inj hx
   subst this
   rw[if_pos (by lia),ed]
   exact cN.off ⟨q4,rfl,n4,hq4'⟩ od
  ·rw[if_neg e] at hx
   have hold:=cN.off (cN.same (hws j x hx) (s12.trans s26)) od
   by_cases e2:k<j/\j<k+1+i
   ·rw[if_pos e2] at hold
    rw[if_pos (by lia)]
    exact hold
   ·rw[if_neg e2] at hold
    rw[if_neg (by lia)]
    exact hold
 ·rintro σ H1 ⟨x6,x7,ws,rfl,s2,hp2,hwl,hws⟩
  refine⟨_,rfl,kk _ H1 s2 ⟨p,ws,rfl,dS.new hp,hp2,?_⟩⟩
  refine PySem.Paired.J3 (p:=p) cN (wC (by unfold ai.ia;simp[hwl]) fun j x y hx hy=> ?_)
  have h1:=hws j x hx
  have hjl:j<row.length:=by rw[<-hwl];exact cG hx
  have ey:(ai.ia row by_ k before).getD j []=y:=by rw[gDe,hy];rfl
  by_cases e:k<j
  ·rw[if_pos ⟨e,by lia⟩,ey] at h1
   exact h1
  ·rw[if_neg (by lia)] at h1
   have e3:(ai.ia row by_ k before).getD j []=row.getD j []:=by
    unfold ai.ia
    rw[ai.jr _ _ _ _ hjl,if_neg e]
   rw[<-e3,ey] at h1
   exact h1
abbrev wG:Stmt:=top 91
theorem G4:aD ["table","k","before","by","result","place","row"] ["table","k","before"] (aq wG):=sco rfl rfl rfl rfl (by decide +kernel)
def Ao:Sp:=fun vs H Q _=>∃S v b t k before,vs=[v,.int ((k:Nat):Int),b]/\J2 S H/\Lw S H v t/\bP H b before/\k<t.length/\t.length<=900/\(∀i,i<t.length->(t.getD i []).length=t.length+1)/\(∀i,i<t.length->i≠k->LM (t.getD i []) (t.getD k []) k before)/\∀p us H',aJ H H'->H p=none->H' p=some (.lst us)->Paired (p9 S H') us (ai.vQ t k before)->Q (.ref p) H'
theorem G5(T:Txt2 mg)(mv:bq P w K mg base "cleared_row" ["row","by","k","before"] 4 qv)(G:d9 K mg "cleared" wG ["table","k","before"]):bq P w K mg base "cleared" ["table","k","before"] 5 Ao:=by
 have sc:=G4
 refine G.fg sc (fun vs H Q E ⟨S,v,b,t,k,before,e,_⟩=>by rw[e];rfl) fun f cdv A outer s H vs Q E hr h=> ?_
 obtain⟨S,v,b,t,k,before,rfl,dS,⟨ta,tv,rfl,nta,hta,htv⟩,hb,hk,hl,hrl,hro,kk⟩:=h
 have lt:=htv.length
 refine⟨_,(aj (aI (i:=3) sc.nd rfl (by first|left;rfl|right;rfl) (aY (fE K) (pv 0) (pv 1) (fun _ _=>rfl)))
   (aj (aI (i:=4) sc.nd rfl (by first|left;rfl|right;rfl) (aN ah))
   (aj (c9 PassesOwn.never rfl (mZ rfl T.dF (aa (pv 0) ah)) (gP K (n:=2) rfl (bM (aM (i:=5) sc.nd rfl (Or.inl rfl)) (bM (aM (i:=6) sc.nd rfl (Or.inl rfl)) gM))) (au (bK (bc dX (pv 5) (pv 1) (a5 _)) (au (fw (kX PySem.F.plainAttrs_list PySem.F.slot_list_append PySem.F.type_list_append dk (pv 4) (aa (pv 6) ah)))) (au (fw (kX PySem.F.plainAttrs_list PySem.F.slot_list_append PySem.F.type_list_append dk (pv 4) (aa (aA mv (hr.mono (by decide)) rfl (aa (pv 6) (aa (pv 3) (aa (pv 1) (aa (pv 2) ah))))) ah)))))))
   (au (aB (pv 4)))))),?_⟩
 obtain⟨yv,hyv,ry⟩:=htv.gB (az (d:=[]) hk)
 refine⟨_,rfl,_,rfl,ta,_,_,_,rfl,rfl,.of hta,aS (j:=k) rfl hyv,Nat.zero_le _,fun p hp=> ?_⟩
 have s1:=ay (o:= .lst []) hp
 have htvA:=htv.MO bH hp
 refine⟨_,rfl,ta,_,rfl,.of (s1 _ _ hta),gb (m5 (K:=K) (.of hta)) (fun i σ H'=>∃x5 x6 us,σ=[some (.ref ta),some (.int (k:Int)),some b,some yv,some (.ref p),x5,x6]/\aJ H H'/\H' p=some (.lst us)/\Paired (p9 (b5 S p) H') us ((ai.vQ t k before).take i)) ⟨none,none,[],rfl,s1,ak,.nil⟩ (fun i σ H' ⟨_,_,_,_,s,_⟩=>s) ?_ ?_⟩
 ·rintro i x σ H1 H2 hi ⟨x5,x6,us,rfl,s2,hp2,hus⟩ s3 s12 ⟨tt,y,rfl,ht,hy⟩
  obtain⟨row,hrow,rr⟩:=htvA.jd hy
  have hi':i<t.length:=cG hrow
  have er:t.getD i []=row:=by rw[gDe,hrow];rfl
  have hp3:=s12 _ _ hp2
  have lu:=hus.length
  rw[List.length_take] at lu
  have ec:(ai.vQ t k before)[i]? =some (if i=k then t.getD k [] else ai.ia (t.getD i []) (t.getD k []) k before):=by
   unfold ai.vQ
   rw[List.getElem?_map,List.getElem?_range hi'];rfl
  have etake:(ai.vQ t k before).take (i+1)=(ai.vQ t k before).take i ++ [if i=k then t.getD k [] else ai.ia (t.getD i []) (t.getD k []) k before]:=by
   rw[List.take_add_one,ec];rfl
  refine⟨tt,_,rfl,.of ht,rfl,_,_,rfl,_,_,rfl,rfl,?_⟩
  refine⟨_,rfl,_,rfl,rfl,_,rfl,?_⟩
  rw[gn]
  by_cases e:i=k
  ·rw[decide_eq_true (show((i:Nat):Int)=(k:Int) by lia)]
   refine bx ⟨_,rfl,.inl ⟨rfl,_,.of hp3⟩,_,rfl,p,_,_,rfl,rfl,hp3,aH (by lia),_,_,_,rfl,s3.over hp,ak,?_⟩
   have er2:t.getD k []=row:=by rw[<-e];exact er
   rw[etake,if_pos e,er2]
   exact((hus.eY bH s12).qe bH (bU (.inr rfl))).gh (bH.off (bH.same rr s3) (bU (.inr rfl)))
  ·rw[decide_eq_false (show ¬((i:Nat):Int)=(k:Int) by lia)]
   have ry2:=bH.same (bH.and ry hp) s3
   have dS2:J2 (b5 S p) H2:=(dS.same s3).and hp3
   refine bE ⟨_,rfl,.inl ⟨rfl,_,.of hp3⟩,_,rfl,_,rfl,_,rfl,_,rfl,b5 S p,_,_,_,row,_,k,before,rfl,dS2,bH.same rr s3,ry2,hb.same s3,?_,?_,?_,?_,fun z H3 s4 hz=> ?_⟩
   ·rw[<-er,hrl i hi'];lia
   ·rw[<-er,hrl i hi',hrl k hk]
   ·rw[<-er,hrl i hi'];lia
   ·rw[<-er];exact hro i hi' e
   have hp4:=s4 _ _ hp3
   refine⟨p,_,_,rfl,rfl,hp4,aH (by lia),_,_,_,rfl,(s3.trans s4).over hp,ak,?_⟩
   rw[etake,if_neg e,er]
   exact((hus.eY bH (s12.trans s4)).qe bH (bU (.inr rfl))).gh (bH.off hz (bU (.inr rfl)))
 ·rintro σ H1 ⟨x5,x6,us,rfl,s2,hp2,hus⟩
  have el:(ai.vQ t k before).take tv.length=ai.vQ t k before:=List.take_of_length_le (by unfold ai.vQ;simp;lia)
  rw[el] at hus
  exact⟨_,rfl,kk p us H1 s2 hp hp2 (hus.J3 bH)⟩
end
def Ap:Nat->Nat->List (List (List Int))->List Int->Prop
 |0,_,_,_=>True
 |f+1,k,t,before=>∀c,ai.jG t k (t.length - k)=some c->(∀i,i<t.length->i≠k->LM ((ai.jy t c k).getD i []) ((ai.jy t c k).getD k []) k before)/\Ap f (k+1) (ai.vQ (ai.jy t c k) k before) ((t.getD c []).getD k [])
theorem MV{α:Type}{xs:List α}{m:Nat}{x:α}(h:xs.length=m+1)(hx:xs[m]? =some x):Ko xs (-1)=some x:=by
 unfold Ko Kn
 rw[if_neg (by decide),if_pos (by lia)]
 show xs[(-1+(xs.length:Int)).toNat]? =_
 have e:(-1+(xs.length:Int)).toNat=m:=by lia
 rw[e,hx]
theorem MW(t:List (List (List Int)))(c k:Nat):(ai.jy t c k).length=t.length:=by unfold ai.jy;simp
section
variable {P:Program}{w:World}{K:PySem.W.Frag}{mg:Str->Option Value}{base:Heap}{c:Cs}
abbrev qw:Stmt:=top 89
theorem JF:aD ["rows","table","row","before","k","chosen","taken"] ["rows"] (aq qw):=sco rfl rfl rfl rfl (by decide +kernel)
def QF(c:Cs)(H:Hp)(Q:VK):Option (List Int×List (List Int))->Prop
 |none=>∀H',aJ H H'->Q .gr H'
 |some s=>∀z H',aJ H H'->oI c H' z s->Q z H'
def wH(c:Cs):Sp:=fun vs H Q _=>∃v rows,vs=[v]/\Lw FF H v rows/\rows.length<=900/\(∀i,i<rows.length->(rows.getD i []).length=rows.length+1)/\Ap rows.length 0 rows [1]/\QF c H Q (ai.sol rows)
theorem JG(T:Txt2 mg)(O:cQ K c)(gW:bq P w K mg base "row_to_solve_by" ["table","k"] 1 j8)(wI:bq P w K mg base "cleared" ["table","k","before"] 5 Ao)(sG:G1 P w K mg base "Solution" c.sol ["self","determinant","tops"] 1 (uR c.sol))(G:d9 K mg "solved" qw ["rows"]):bq P w K mg base "solved" ["rows"] 6 (wH c):=by
 have sc:=JF
 refine G.fg sc (fun vs H Q E ⟨v,rows,e,_⟩=>by rw[e];rfl) fun f cdv A outer s H vs Q E hr h=> ?_
 obtain⟨v,rows,rfl,⟨ra,rv,rfl,_,hra,hrv⟩,hl,hrl,run,kk⟩:=h
 have lr:=hrv.length
 refine⟨_,(aj (pI (i:=1) rfl sc.nd rfl rfl (tL rfl rfl rfl rfl) (bS (pv 0)) (bN (own:=[("row",2)]) (by show jo ["rows","table","row","before","k","chosen","taken"] (aq qw) _ _=true;decide +kernel)) (fun _ _ _ _ _=>(aM (i:=2) sc.nd rfl (Or.inl rfl))) (fun _ _ _ _ _=>cH) (fun _ _ _ _ _=>(vF (rM K) rfl T.zV pJ (aa (pv 2) ah))))
   (aj (aI (i:=3) sc.nd rfl (by first|left;rfl|right;rfl) (aN (aa aF ah)))
   (aj (c9 PassesOwn.never rfl (jw rfl T.gx (aa (aZ (bo K) rfl T.dE a6 (aa (pv 1) ah)) ah)) (aM (i:=4) sc.nd rfl (Or.inl rfl)) (aj (aI (i:=5) sc.nd rfl (by first|left;rfl|right;rfl) (aA gW (hr.mono (by decide)) rfl (aa (pv 1) (aa (pv 4) ah))))
   (aj (bK (FV (Ka (pv 5))) (au (aB FU)) aW)
   (aj (aI (i:=6) sc.nd rfl (by first|left;rfl|right;rfl) (aY (fE K) (pv 1) (pv 5) (fun _ _=>rfl)))
   (aj (vC (aY (fE K) (pv 1) (pv 4) (fun _ _=>rfl)) (vB (pv 1) (pv 5) set_list))
   (aj (vC (pv 6) (vB (pv 1) (pv 4) set_list))
   (aj (aI (i:=1) sc.nd rfl (by first|left;rfl|right;rfl) (aA wI (hr.mono (by decide)) rfl (aa (pv 1) (aa (pv 4) (aa (pv 3) ah)))))
   (au (aI (i:=3) sc.nd rfl (by first|left;rfl|right;rfl) (aY (fE K) (pv 6) (pv 4) (fun _ _=>rfl)))))))))))
   (au (aB (rD sG (hr.mono (by decide)) rfl (aa (pv 3) (aa (iW rfl sc.nd (bS (pv 1)) (bN (own:=[("row",2)]) (by show jo ["rows","table","row","before","k","chosen","taken"] (aq qw) _ _=true;decide +kernel)) (fun _ _ _ _ _=>(aM (i:=2) sc.nd rfl (Or.inl rfl))) (fun _ _ _ _ _=>cH) (fun _ _ _ _ _=>(aY (fE K) (pv 2) (gN eC aF) (fun _ _=>rfl)))) ah)))))))),?_⟩
 refine⟨_,rfl,ra,rfl,⟨_,.of hra⟩,fun D hD=>ks (bT (.of hra)) hD (fun i H' acc=>Paired (p9 (b5 FF D) H') acc (rows.take i)) .nil ?_ ?_⟩
 ·rintro i x H1 H2 acc hi s1 hD1 hacc s2 s12 hD2 hx
  obtain⟨row,hrow,xa,xv,rfl,_,hxa,hxv⟩:=hrv.jd hx
  have lacc:=hacc.length
  refine⟨rfl,⟨_,rfl,xa,_,rfl,.inl (.of (s2 _ _ hxa)),fun q hq=> ?_⟩⟩
  have s3:=ay (o:= .lst xv) hq
  have nq:¬b5 FF D q:=fun h=>h.elim (fun y=>y) (fun y=>by rw[y,hD2] at hq;cases hq)
  have hxvD:Paired (oO (b5 FF D) H) xv row:=hxv.MO cN hD
  refine cT hD (s2.trans s3) (s3 _ _ hD2) ?_ ?_
  ·rw[lacc,List.length_take]
   exact aH (by lia)
  ·rw[List.take_add_one,hrow]
   refine((hacc.eY bH (s12.trans s3)).qe bH (bU (.inr rfl))).gh (bH.off ⟨q,xv,rfl,nq,ak,?_⟩ (bU (.inr rfl)))
   exact hxvD.eY cN (s2.trans s3)
 ·intro H1 acc s1 hD1 hacc
  rw[lr,List.take_length] at hacc
  have lacc:=hacc.length
  refine⟨ax (by simp),fun q hq=> ?_⟩
  have s2:=ay (o:= .lst [.int 1]) hq
  refine⟨_,rfl,D,_,rfl,.inl (.of (s2 _ _ hD1)),_,rfl,by lia,by lia,?_⟩
  have en:((acc.length:Int)).toNat=rows.length:=by lia
  rw[en]
  refine gb (iX H _ _) (fun i σ H'=>∃p us t AU vb x4 x5 x6,σ=[some (.ref ra),some (.ref p),none,some vb,x4,x5,x6]/\aJ H H'/\H p=none/\H' p=some (.lst us)/\Paired (p9 FF H') us t/\bP H' vb AU/\i<=rows.length/\t.length=rows.length/\(∀j,j<t.length->(t.getD j []).length=t.length+1)/\ai.tQ (rows.length - i) i t AU=ai.sol rows/\Ap (rows.length - i) i t AU) ⟨D,acc,rows,[1],.ref q,none,none,none,rfl,s1.trans s2,hD,s2 _ _ hD1,(hacc.eY bH s2).J3 bH,⟨q,rfl,ak⟩,Nat.zero_le _,rfl,hrl,rfl,run⟩ (fun i σ H' ⟨_,_,_,_,_,_,_,_,_,s,_⟩=>s) ?_ ?_
  ·rintro k x σ H2 H3 hi ⟨p,us,t,AU,vb,x4,x5,x6,rfl,s3,pH,hp2,hus,hbef,hk2,htl,htr,hso,hrun⟩ s4 s34 rfl
   obtain⟨m,em⟩:∃m,rows.length - k=m+1:=⟨rows.length - k - 1,by lia⟩
   have em2:rows.length - (k+1)=m:=by lia
   rw[em] at hso hrun
   have hp3:=s34 _ _ hp2
   have hus3:=hus.eY bH s34
   have lus:=hus.length
   have e0:(0:Int)+((k:Nat):Int)=(k:Int):=by lia
   rw[e0]
   have hkt:k<t.length:=by lia
   refine⟨_,rfl,_,rfl,_,t,k,rfl,⟨p,us,rfl,fun z=>z,hp3,hus3⟩,by lia,by lia,fun r hr'=> ?_,fun H4 s5=> ?_⟩
   ·obtain⟨j,hj,ej⟩:=List.getElem_of_mem hr'
    have:=htr j hj
    rw[gDe,List.getElem?_eq_getElem hj] at this
    simp only[Option.getD_some,ej] at this
    lia
   cases hpv:ai.jG t k (t.length - k) with
   |none=>
    refine⟨_,rfl,_,rfl,?_⟩
    refine bx ?_
    have:ai.sol rows=none:=by
     rw[<-hso]
     unfold ai.tQ
     rw[hpv]
    rw[this] at kk
    exact kk H4 (s4.trans s5)
   |some ch=>
    obtain⟨c1,c2,c3⟩:=ai.nk t k _ ch (by lia) hpv
    obtain⟨run1,run2⟩:=hrun ch hpv
    have hso2:ai.tQ m (k+1) (ai.vQ (ai.jy t ch k) k AU) ((t.getD ch []).getD k [])=ai.sol rows:=by
     rw[<-hso]
     show _=match ai.jG t k (t.length - k) with
      |none=>none
      |some c=>ai.tQ m (k+1) (ai.vQ (ai.jy t c k) k AU) ((t.getD c []).getD k [])
     rw[hpv]
    refine⟨_,rfl,_,rfl,?_⟩
    refine bE ?_
    have hp4:=s5 _ _ hp3
    have hus4:=hus3.eY bH s5
    have hown:=MR hp4 hus4
    obtain⟨uc,huc,rc⟩:=hown.gB (az (d:=[]) c2)
    obtain⟨uk,huk,rk⟩:=hown.gB (az (d:=[]) hkt)
    have hbef4:oO (b5 FF p) H4 vb AU:=by
     obtain⟨ca,_,rfl,_⟩:=id rc
     exact wB hp4 (List.mem_of_getElem? huc) ((hbef.same (s34.trans s5)).s)
    refine⟨_,rfl,_,rfl,p,_,_,_,rfl,rfl,.of hp4,aS (j:=ch) rfl huc,?_⟩
    refine⟨_,rfl,_,rfl,p,_,_,_,rfl,rfl,.of hp4,aS (j:=k) rfl huk,_,rfl,_,rfl,p,_,_,ch,rfl,rfl,hp4,m6 rfl (by lia),?_⟩
    refine⟨_,rfl,_,rfl,_,rfl,p,_,_,k,rfl,rfl,ak,m6 rfl (by rw[List.length_set];lia),?_⟩
    rw[iQ]
    have od:Off (b5 FF p) H4 (upd H4 p (.lst ((us.set ch uk).set k uc))):=bU (.inr rfl)
    have s6:aJ H (upd H4 p (.lst ((us.set ch uk).set k uc))):=(s4.trans s5).over pH
    have hsw:Paired (p9 (b5 FF p) (upd H4 p (.lst ((us.set ch uk).set k uc)))) ((us.set ch uk).set k uc) (ai.jy t ch k):=by
     unfold ai.jy
     exact((hown.qe bH od).setAt (bH.off rk od) ch).setAt (bH.off rc od) k
    have hp6:(upd H4 p (.lst ((us.set ch uk).set k uc))) p=some (.lst ((us.set ch uk).set k uc)):=ak
    have rc6:=bH.off rc od
    have hbef6:=cN.off hbef4 od
    generalize upd H4 p (.lst ((us.set ch uk).set k uc))=H6 at s6 hsw hp6 rc6 hbef6
    have sl:=MW t ch k
    have srow:∀j,j<t.length->((ai.jy t ch k).getD j []).length=t.length+1:=fun j hj=>by
     rw[ai.yw t ch k j c2 hkt]
     exact htr _ (ai.ly c2 hkt hj)
    refine⟨_,rfl,_,rfl,_,rfl,FF,_,_,_,k,AU,rfl,fun a h=>h.elim,⟨p,_,rfl,fun z=>z,hp6,hsw.J3 bH⟩,hbef6.at_,by lia,by lia,?_,?_,fun p7 us7 H7 s7 p7n hp7 hus7=> ?_⟩
    ·intro j hj
     rw[sl] at hj⊢
     exact srow j hj
    ·intro j hj hjk
     exact run1 j (by lia) hjk
    ·obtain⟨ca,cv,rfl,_,hca,hcv⟩:=rc6
     have hcl:k<(t.getD ch []).length:=by rw[htr ch c2];lia
     obtain⟨kv,hkv,pkv⟩:=hcv.gB (az (d:=[]) hcl)
     refine⟨_,rfl,_,rfl,ca,_,_,_,rfl,rfl,.of (s7 _ _ hca),aS (j:=k) rfl hkv,?_⟩
     have cl:(ai.vQ (ai.jy t ch k) k AU).length=t.length:=by unfold ai.vQ;simp[sl]
     refine⟨p7,us7,_,_,kv,_,_,_,rfl,s6.trans s7,s6.free p7n,hp7,hus7,(cN.same pkv s7).at_,by lia,by rw[cl,htl],?_,?_,?_⟩
     ·intro j hj
      rw[cl] at hj⊢
      rw[ai.HN _ _ _ _ (by lia)]
      exact srow j hj
     ·rw[em2];exact hso2
     ·rw[em2];exact run2
  ·rintro σ H2 ⟨p,us,t,AU,vb,x4,x5,x6,rfl,s3,pH,hp2,hus,hbef,hk2,htl,htr,hso,hrun⟩
   have lus:=hus.length
   rw[Nat.sub_self] at hso
   have hsol:ai.sol rows=some (AU,t.map fun r=>r.getD (r.length - 1) []):=hso.symm
   rw[hsol] at kk
   refine⟨_,rfl,_,rfl,p,rfl,⟨_,.of hp2⟩,fun D2 hD2=>ks (bT (.of hp2)) hD2 (fun i H' acc=>Paired (oO (b5 FF D2) H') acc ((t.take i).map fun r=>r.getD (r.length - 1) [])) .nil ?_ ?_⟩
   ·rintro i x H3 H4 acc2 hi s4 hD3 hacc2 s5 s45 hD4 hx
    obtain⟨row,hrow,xa,xv,rfl,_,hxa,hxv⟩:=hus.jd hx
    have hi':i<t.length:=cG hrow
    have er:t.getD i []=row:=by rw[gDe,hrow];rfl
    have hrlen:row.length=t.length+1:=by rw[<-er];exact htr i hi'
    have lxv:=hxv.length
    have lacc2:=hacc2.length
    obtain⟨lv,hlv,plv⟩:=hxv.gB (az (d:=[]) (show t.length<row.length by lia))
    refine⟨rfl,⟨_,rfl,_,rfl,xa,_,_,_,rfl,rfl,.of (s5 _ _ hxa),MV (m:=t.length) (by lia) hlv,?_⟩⟩
    refine cT hD2 s5 hD4 ?_ ?_
    ·rw[lacc2,lMp,List.length_take]
     exact aH (by lia)
    ·rw[bh _ _ _ _ hrow]
     have e2:row.length - 1=t.length:=by lia
     rw[e2]
     exact((hacc2.eY cN s45).qe cN (bU (.inr rfl))).gh (cN.off (cN.same (cN.and plv hD2) s5) (bU (.inr rfl)))
   ·intro H3 acc2 s4 hD3 hacc2
    rw[lus,List.take_length] at hacc2
    intro x dx nx nd ne
    refine⟨x,dx,vb,.ref D2,rfl,ak,fun H4 k4 hx4=>⟨rfl,?_⟩⟩
    have s5:aJ H3 H4:=aJ.made nx nd k4
    exact kk _ _ ((s3.trans s4).trans s5) ⟨x,dx,vb,.ref D2,rfl,hx4,hbef.same (s4.trans s5),D2,acc2,rfl,fun z=>z,s5 _ _ hD3,(hacc2.J3 cN).eY cN s5⟩
end
structure Txt3(mg:Str->Option Value):Prop extends Txt2 mg where
 gX:∃t,mg "NODE_VOLTAGE"=some (.int 0 t)
 qY:∃t,mg "CURRENT"=some (.int 1 t)
 wJ:∃t,mg "VOLTAGE"=some (.int 2 t)
def uT(H:Hp)(Q:VK)(l:List Int):Prop:=∀z H',aJ H H'->bP H' z l->Q z H'
theorem uT.of{H H1:Hp}{Q:VK}{l:List Int}(k:uT H Q l)(s:aJ H H1):uT H1 Q l:=fun z H' s' h=>k z H' (s.trans s') h
theorem uT.new{H:Hp}{Q:VK}{l:List Int}(k:uT H Q l):nJ H Q l:=fun p H' _ s h=>k _ _ s ⟨p,rfl,h⟩
section
variable {P:Program}{w:World}{K:PySem.W.Frag}{mg:Str->Option Value}{base:Heap}{c:Cs}
abbrev sH:Stmt:=top 83
theorem Fp:aD ["solution","node"] ["solution","node"] (aq sH):=sco rfl rfl rfl rfl (by decide +kernel)
def qx(c:Cs):Sp:=fun vs H Q _=>∃v s n,vs=[v,.int n]/\oI c H v s/\n<=s.2.length/\uT H Q (ai.cA s n)
theorem Fq(O:cQ K c)(G:d9 K mg "node_top" sH ["solution","node"]):bq P w K mg base "node_top" ["solution","node"] 1 (qx c):=by
 have sc:=Fp
 refine G.fg sc (fun vs H Q E ⟨v,s,n,e,_⟩=>by rw[e];rfl) fun f cdv A outer s0 H vs Q E hr h=> ?_
 obtain⟨v,s,n,rfl,⟨a,dx,vd,vt,rfl,ha,hd,⟨ta,tv,rfl,_,hta,htv⟩⟩,hn,k⟩:=h
 refine⟨_,(au (aB (jE (bc xi (pv 1) aF (a5 _)) (aY (fE K) (aw K (pv 0) rfl) (bu jF (pv 1) aF) (fun _ _=>rfl)) (aN ah)))),?_⟩
 unfold ai.cA at k
 refine⟨_,rfl,_,_,rfl,rfl,_,rfl,?_⟩
 by_cases h0:0<n
 ·rw[if_pos h0] at k
  rw[decide_eq_true (show n>0 from h0)]
  obtain⟨u,hu,pu⟩:=htv.gB (az (d:=[]) (show(n - 1).toNat<s.2.length by lia))
  exact bx ⟨_,rfl,a,c.sol,dx,_,_,rfl,ha,O.sol.cl,O.sol.at_ 1 rfl,rfl,_,rfl,_,_,rfl,rfl,ta,_,_,_,rfl,rfl,.of hta,aS (j:=(n - 1).toNat) (by lia) hu,k _ _ (.refl _) pu.at_⟩
 ·rw[if_neg h0] at k
  rw[decide_eq_false (show ¬n>0 from h0)]
  exact bE ⟨Nat.zero_le _,fun p hp=>k _ _ (ay hp) ⟨p,rfl,ak⟩⟩
abbrev mw:Stmt:=top 84
theorem Ar:aD ["setting","solution","k"] ["setting","solution","k"] (aq mw):=sco rfl rfl rfl rfl (by decide +kernel)
def j9(c:Cs):Sp:=fun vs H Q _=>∃v u g s k,vs=[u,v,.int ((k:Nat):Int)]/\oI c H v s/\i6 c H u g/\k<g.aO.af.length/\0<=(ai.places g.aO).getD k 0/\(ai.places g.aO).getD k 0<s.2.length/\uT H Q (ai.gQ g s k)
theorem As(O:cQ K c)(G:d9 K mg "current_top" mw ["setting","solution","k"]):bq P w K mg base "current_top" ["setting","solution","k"] 1 (j9 c):=by
 have sc:=Ar
 refine G.fg sc (fun vs H Q E ⟨v,u,g,s,k,e,_⟩=>by rw[e];rfl) fun f cdv A outer s0 H vs Q E hr h=> ?_
 obtain⟨v,u,g,s,k,rfl,⟨a,dx,vd,vt,rfl,ha,hd,⟨ta,tv,rfl,_,hta,htv⟩⟩,⟨ga,gdx,gvn,gvs,gvst,gvd,gvp,rfl,hga,_,_,_,_,⟨la,rfl,hla⟩⟩,hk,h0,h1,kk⟩:=h
 refine⟨_,(au (aB (aY (fE K) (aw K (pv 1) rfl) (aY (fE K) (aw K (pv 0) rfl) (pv 2) (fun _ _=>rfl)) (fun _ _=>rfl)))),?_⟩
 obtain⟨x,hx,px⟩:=htv.gB (az (d:=[]) (show((ai.places g.aO).getD k 0).toNat<s.2.length by lia))
 have hj:k<(ai.places g.aO).length:=by rw[places_len];exact hk
 exact⟨_,rfl,a,c.sol,dx,_,_,rfl,ha,O.sol.cl,O.sol.at_ 1 rfl,rfl,_,rfl,ga,c.dI,gdx,_,_,rfl,hga,O.dI.cl,O.dI.at_ 4 rfl,rfl,_,rfl,la,_,_,_,rfl,rfl,.of hla,aS (j:=k) rfl (fF hj),ta,_,_,_,rfl,rfl,.of hta,aS (j:=((ai.places g.aO).getD k 0).toNat) (by lia) hx,kk _ _ (.refl _) px.at_⟩
def sI(s:List Int×List (List Int)):Prop:=Short s.1/\∀l∈s.2,Short l
theorem Au{s:List Int×List (List Int)}(h:sI s)(n:Int):Short (ai.cA s n):=by
 unfold ai.cA
 split
 ·rw[gDe]
  cases e:s.2[(n - 1).toNat]? with
  |none=>show([]:List Int).length<_;simp
  |some l=>exact h.2 l (List.mem_of_getElem? e)
 ·show([]:List Int).length<_
  simp
abbrev iD:Stmt:=top 86
theorem uU:aD ["solution","first","second"] ["solution","first","second"] (aq iD):=sco rfl rfl rfl rfl (by decide +kernel)
def lM(c:Cs):Sp:=fun vs H Q _=>∃v s x y,vs=[v,.int x,.int y]/\oI c H v s/\sI s/\x<=s.2.length/\y<=s.2.length/\uT H Q (ai.qJ s x y)
theorem uV(gE:bq P w K mg base "node_top" ["solution","node"] 1 (qx c))(cV:bq P w K mg base "subtracted" ["left","right"] 3 iS)(G:d9 K mg "difference_top" iD ["solution","first","second"]):bq P w K mg base "difference_top" ["solution","first","second"] 4 (lM c):=by
 have sc:=uU
 refine G.fg sc (fun vs H Q E ⟨v,s,x,y,e,_⟩=>by rw[e];rfl) fun f cdv A outer s0 H vs Q E hr h=> ?_
 obtain⟨v,s,x,y,rfl,hs,hsh,hx,hy,k⟩:=h
 refine⟨_,(au (aB (aA cV (hr.mono (by decide)) rfl (aa (aA gE (hr.mono (by decide)) rfl (aa (pv 0) (aa (pv 1) ah))) (aa (aA gE (hr.mono (by decide)) rfl (aa (pv 0) (aa (pv 2) ah))) ah))))),?_⟩
 refine⟨_,rfl,_,rfl,_,s,x,rfl,hs,hx,fun z1 H1 s1 p1=> ?_⟩
 refine⟨_,rfl,_,rfl,_,s,y,rfl,hs.same s1,hy,fun z2 H2 s2 p2=> ?_⟩
 exact⟨_,_,_,_,rfl,p1.same s2,p2,Au hsh x,Au hsh y,(k.of (s1.trans s2)).new⟩
abbrev mx:Stmt:=top 85
theorem Av:aD ["setting","solution","k","part"] ["setting","solution","k"] (aq mx):=sco rfl rfl rfl rfl (by decide +kernel)
def kf(c:Cs):Sp:=fun vs H Q _=>∃v u g s k,vs=[u,v,.int ((k:Nat):Int)]/\oI c H v s/\sI s/\i6 c H u g/\k<g.aO.af.length/\(pat g k).a<=s.2.length/\(pat g k).b<=s.2.length/\uT H Q (ai.gR g s k)
theorem Aw(O:cQ K c)(iE:bq P w K mg base "difference_top" ["solution","first","second"] 4 (lM c))(G:d9 K mg "voltage_top" mx ["setting","solution","k"]):bq P w K mg base "voltage_top" ["setting","solution","k"] 5 (kf c):=by
 have sc:=Av
 refine G.fg sc (fun vs H Q E ⟨v,u,g,s,k,e,_⟩=>by rw[e];rfl) fun f cdv A outer s0 H vs Q E hr h=> ?_
 obtain⟨v,u,g,s,k,rfl,hs,hsh,⟨ga,gdx,gvn,gvs,gvst,gvd,gvp,rfl,hga,⟨na,ndx,nvp,rfl,hna,pa,ws,rfl,hpa,hps⟩,_⟩,hk,h0,h1,kk⟩:=h
 refine⟨_,(aj (aI (i:=3) sc.nd rfl (by first|left;rfl|right;rfl) (aY (fE K) (aw K (aw K (pv 0) rfl) rfl) (pv 2) (fun _ _=>rfl)))
   (au (aB (aA iE (hr.mono (by decide)) rfl (aa (pv 1) (aa (aw K (pv 3) rfl) (aa (aw K (pv 3) rfl) ah))))))),?_⟩
 obtain⟨x,hx,pb,pbx,rfl,hpb⟩:=hps.gB (az (d:=ai.p0) hk)
 refine⟨_,rfl,ga,c.dI,gdx,_,_,rfl,hga,O.dI.cl,O.dI.at_ 0 rfl,rfl,na,c.aO,ndx,_,_,rfl,hna,O.aO.cl,O.aO.at_ 1 rfl,rfl,_,rfl,pa,_,_,_,rfl,rfl,.of hpa,aS (j:=k) rfl hx,?_⟩
 exact⟨_,rfl,_,rfl,pb,c.part,pbx,_,_,rfl,hpb,O.part.cl,O.part.at_ 1 rfl,rfl,_,rfl,pb,c.part,pbx,_,_,rfl,hpb,O.part.cl,O.part.at_ 2 rfl,rfl,_,s,_,_,rfl,hs,hsh,h0,h1,kk⟩
abbrev kg:Stmt:=top 82
theorem xY:aD ["setting","solution","what","k"] ["setting","solution","what","k"] (aq kg):=sco rfl rfl rfl rfl (by decide +kernel)
def LN(g:ai.gK)(s:List Int×List (List Int))(what k:Int):Prop:=(what=0->k<=s.2.length)/\(what≠0->0<=k/\k<g.aO.af.length/\0<=(ai.places g.aO).getD k.toNat 0/\(ai.places g.aO).getD k.toNat 0<s.2.length/\(pat g k.toNat).a<=s.2.length/\(pat g k.toNat).b<=s.2.length)
def oJ(c:Cs):Sp:=fun vs H Q _=>∃v u g s what k,vs=[u,v,.int what,.int k]/\oI c H v s/\sI s/\i6 c H u g/\LN g s what k/\uT H Q (ai.fh g s what k)
theorem xZ(T:Txt3 mg)(gE:bq P w K mg base "node_top" ["solution","node"] 1 (qx c))(fb:bq P w K mg base "current_top" ["setting","solution","k"] 1 (j9 c))(fc:bq P w K mg base "voltage_top" ["setting","solution","k"] 5 (kf c))(G:d9 K mg "quantity_top" kg ["setting","solution","what","k"]):bq P w K mg base "quantity_top" ["setting","solution","what","k"] 6 (oJ c):=by
 have sc:=xY
 refine G.fg sc (fun vs H Q E ⟨v,u,g,s,what,k,e,_⟩=>by rw[e];rfl) fun f cdv A outer s0 H vs Q E hr h=> ?_
 obtain⟨v,u,g,s,what,k,rfl,hs,hsh,hg,⟨q0,q1⟩,kk⟩:=h
 refine⟨_,(aj (bK (bc dX (pv 2) (gc T.gX) (a5 _)) (au (aB (aA gE (hr.mono (by decide)) rfl (aa (pv 1) (aa (pv 3) ah))))) aW)
   (aj (bK (bc dX (pv 2) (gc T.qY) (a5 _)) (au (aB (aA fb (hr.mono (by decide)) rfl (aa (pv 0) (aa (pv 1) (aa (pv 3) ah)))))) aW)
   (au (aB (aA fc (hr.mono (by decide)) rfl (aa (pv 0) (aa (pv 1) (aa (pv 3) ah)))))))),?_⟩
 unfold ai.fh at kk
 refine⟨_,rfl,rfl,_,rfl,?_⟩
 rw[gn]
 by_cases h0:what=0
 ·rw[decide_eq_true h0]
  rw[if_pos h0] at kk
  exact bx ⟨_,rfl,_,rfl,_,s,k,rfl,hs,q0 h0,kk⟩
 ·rw[decide_eq_false h0]
  rw[if_neg h0] at kk
  obtain⟨k0,k1,k2,k3,k4,k5⟩:=q1 h0
  have ek:k=((k.toNat:Nat):Int):=by lia
  refine bE ⟨_,rfl,rfl,_,rfl,?_⟩
  rw[gn]
  by_cases h1:what=1
  ·rw[decide_eq_true h1]
   rw[if_pos h1] at kk
   exact bx ⟨_,rfl,_,rfl,_,rfl,_,_,g,s,k.toNat,by rw[<-ek];rfl,hs,hg,by lia,k2,k3,kk⟩
  ·rw[decide_eq_false h1]
   rw[if_neg h1] at kk
   exact bE ⟨_,rfl,_,rfl,_,rfl,_,_,g,s,k.toNat,by rw[<-ek];rfl,hs,hsh,hg,by lia,k4,k5,kk⟩
abbrev qy:Stmt:=top 61
theorem DE:aD ["network","k"] ["network","k"] (aq qy):=sco rfl rfl rfl rfl (by decide +kernel)
def uW(c:Cs):Sp:=fun vs H Q _=>∃v n k,vs=[v,.int k]/\lI c H v n/\0<=k/\∀H',aJ H H'->Q (.bl (ai.gI n k)) H'
theorem Cc{ps:List ai.Part}{k:Int}{p:ai.Part}(h:ps[k.toNat]? =some p):ai.kindAt ps k=p.kind:=by
 unfold ai.kindAt
 rw[gDe,h];rfl
theorem DF(T:Txt2 mg)(O:cQ K c)(G:d9 K mg "is_source" qy ["network","k"]):bq P w K mg base "is_source" ["network","k"] 1 (uW c):=by
 have sc:=DE
 refine G.fg sc (fun vs H Q E ⟨v,n,k,e,_⟩=>by rw[e];rfl) fun f cdv A outer s0 H vs Q E hr h=> ?_
 obtain⟨v,n,k,rfl,⟨na,ndx,nvp,rfl,hna,pa,ws,rfl,hpa,hps⟩,k0,kk⟩:=h
 have ll:=hps.length
 refine⟨_,(au (aB (yG (cf DZ (pv 1) (aZ (bo K) rfl T.dE a6 (aa (aw K (pv 0) rfl) ah)) (a5 _)) (vz (cf (yM K) (aw K (aY (fE K) (aw K (pv 0) rfl) (pv 1) (fun _ _=>rfl)) rfl) (cP (aa (gc T.ir) (aa (gc T.iu) ah))) (by with_unfolding_all rfl)))))),?_⟩
 unfold ai.gI at kk
 refine⟨_,rfl,_,rfl,na,c.aO,ndx,_,_,rfl,hna,O.aO.cl,O.aO.at_ 1 rfl,rfl,pa,_,rfl,.inl (.of hpa),_,_,rfl,rfl,_,rfl,?_⟩
 rw[ll]
 by_cases h1:k<(n.af.length:Int)
 ·rw[decide_eq_true h1] at kk⊢
  obtain⟨u,hu,pb,pbx,rfl,hpb⟩:=hps.gB (az (d:=ai.p0) (show k.toNat<n.af.length by lia))
  refine bx ⟨_,rfl,na,c.aO,ndx,_,_,rfl,hna,O.aO.cl,O.aO.at_ 1 rfl,rfl,_,rfl,pa,_,_,_,rfl,rfl,.of hpa,aS (j:=k.toNat) (by lia) hu,pb,c.part,pbx,_,_,rfl,hpb,O.part.cl,O.part.at_ 0 rfl,rfl,ax (by simp),fun p hp=>⟨p,_,rfl,.inr (.of ak),rfl,rfl,?_⟩⟩
  show Q (.bl (FN (.int (n.af.getD k.toNat ai.p0).kind) [.int 4,.int 5])) _
  rw[MT]
  have:=kk _ (ay (o:= .tup [.int 4,.int 5]) hp)
  rw[Bool.true_and,Cc (az (d:=ai.p0) (show k.toNat<n.af.length by lia))] at this
  exact this
 ·rw[decide_eq_false h1] at kk⊢
  exact bE (kk _ (.refl _))
abbrev fS:Stmt:=top 81
theorem oQ:aD ["network","what","k"] ["network","what","k"] (aq fS):=sco rfl rfl rfl rfl (by decide +kernel)
def hX(c:Cs):Sp:=fun vs H Q _=>∃v n what k,vs=[v,.int what,.int k]/\lI c H v n/\0<=k/\∀H',aJ H H'->Q (.bl (ai.gi n what k)) H'
theorem oR(T:Txt3 mg)(O:cQ K c)(G:d9 K mg "is_linear_quantity" fS ["network","what","k"]):bq P w K mg base "is_linear_quantity" ["network","what","k"] 1 (hX c):=by
 have sc:=oQ
 refine G.fg sc (fun vs H Q E ⟨v,n,what,k,e,_⟩=>by rw[e];rfl) fun f cdv A outer s0 H vs Q E hr h=> ?_
 obtain⟨v,n,what,k,rfl,⟨na,ndx,nvp,rfl,hna,pa,ws,rfl,hpa,hps⟩,k0,kk⟩:=h
 have ll:=hps.length
 refine⟨_,(aj (bK (bc dX (pv 1) (gc T.gX) (a5 _)) (au (aB (cf oC (pv 2) (aw K (pv 0) rfl) (a5 _)))) aW)
   (aj (bK (bc (yM K) (pv 1) (cP (aa (gc T.qY) (aa (gc T.wJ) ah))) (by with_unfolding_all rfl)) (au (aB (yG (cf DZ (pv 2) (aZ (bo K) rfl T.dE a6 (aa (aw K (pv 0) rfl) ah)) (a5 _)) (vz (cf xh (aw K (aY (fE K) (aw K (pv 0) rfl) (pv 2) (fun _ _=>rfl)) rfl) (gc T.dM) (a5 _)))))) aW)
   (au (aB oz)))),?_⟩
 unfold ai.gi at kk
 refine⟨_,rfl,rfl,_,rfl,?_⟩
 rw[gn]
 by_cases h0:what=0
 ·rw[decide_eq_true h0]
  rw[if_pos h0] at kk
  exact bx ⟨_,rfl,_,rfl,na,c.aO,ndx,_,_,rfl,hna,O.aO.cl,O.aO.at_ 0 rfl,rfl,_,_,rfl,rfl,kk _ (.refl _)⟩
 ·rw[decide_eq_false h0]
  rw[if_neg h0] at kk
  refine bE ⟨_,rfl,ax (by simp),fun p hp=>⟨p,_,rfl,.inr (.of ak),rfl,rfl,_,rfl,?_⟩⟩
  show if(FN (.int what) [.int 1,.int 2])=true then _ else _
  rw[MT]
  have s1:=ay (o:= .tup [.int 1,.int 2]) hp
  by_cases h1:what=1\/what=2
  ·rw[decide_eq_true h1]
   rw[if_pos h1] at kk
   have hna1:=s1 _ _ hna
   have hpa1:=s1 _ _ hpa
   refine bx ⟨_,rfl,_,rfl,na,c.aO,ndx,_,_,rfl,hna1,O.aO.cl,O.aO.at_ 1 rfl,rfl,pa,_,rfl,.inl (.of hpa1),_,_,rfl,rfl,_,rfl,?_⟩
   rw[ll]
   by_cases h2:k<(n.af.length:Int)
   ·rw[decide_eq_true h2] at kk⊢
    obtain⟨u,hu,pb,pbx,rfl,hpb⟩:=hps.gB (az (d:=ai.p0) (show k.toNat<n.af.length by lia))
    refine bx ⟨_,rfl,na,c.aO,ndx,_,_,rfl,hna1,O.aO.cl,O.aO.at_ 1 rfl,rfl,_,rfl,pa,_,_,_,rfl,rfl,.of hpa1,aS (j:=k.toNat) (by lia) hu,pb,c.part,pbx,_,_,rfl,s1 _ _ hpb,O.part.cl,O.part.at_ 0 rfl,rfl,rfl,?_⟩
    rw[gn]
    have:=kk _ s1
    rw[Bool.true_and,Cc (az (d:=ai.p0) (show k.toNat<n.af.length by lia))] at this
    have e:(!decide ((n.af.getD k.toNat ai.p0).kind=3))=decide ((n.af.getD k.toNat ai.p0).kind≠3):=by simp
    rw[e]
    exact this
   ·rw[decide_eq_false h2] at kk⊢
    exact bE (kk _ s1)
  ·rw[decide_eq_false h1]
   rw[if_neg h1] at kk
   exact bE (kk _ s1)
end
def LO(H:Hp):V->Int×Int->Prop:=fun u x=>∃t,u= .ref t/\H t=some (.tup [.int x.1,.int x.2])
theorem LO.same{H H':Hp}{v:V}{x:Int×Int}(h:LO H v x)(s:aJ H H'):LO H' v x:=let ⟨t,e,q⟩:=h;⟨t,e,s _ _ q⟩
theorem LO.over{H:Hp}{v:V}{x:Int×Int}{D:Addr}{vs us:List V}(h:LO H v x)(hD:H D=some (.lst vs)):LO (upd H D (.lst us)) v x:=let ⟨t,e,q⟩:=h;⟨t,e,by rw[aR (DS q hD (by intro z;cases z))];exact q⟩
section
variable {P:Program}{w:World}{K:PySem.W.Frag}{mg:Str->Option Value}{base:Heap}{c:Cs}
abbrev fX:Stmt:=top 62
theorem uX:aD ["network","states","source","drives","k"] ["network","states","source"] (aq fX):=sco rfl rfl rfl rfl (by decide +kernel)
def lN(c:Cs):Sp:=fun vs H Q _=>∃v u n st src,vs=[v,u,.int src]/\lI c H v n/\uE H u st/\n.af.length<=1000/\∀z H',aJ H H'->i6 c H' z (ai.bI n st src)->Q z H'
theorem uY(T:Txt2 mg)(O:cQ K c)(jD:G1 P w K mg base "Setting" c.dI ["self","network","s","states","drives"] 3 (qu c))(G:d9 K mg "driven_setting" fX ["network","states","source"]):bq P w K mg base "driven_setting" ["network","states","source"] 5 (lN c):=by
 have sc:=uX
 refine G.fg sc (fun vs H Q E ⟨v,u,n,st,src,e,_⟩=>by rw[e];rfl) fun f cdv A outer s H vs Q E hr h=> ?_
 obtain⟨v,u,n,st,src,rfl,hn,hst,hl,kk⟩:=h
 obtain⟨na,ndx,nvp,rfl,hna,pa,ws,rfl,hpa,hps⟩:=id hn
 have ll:=hps.length
 refine⟨_,(aj (pI (i:=3) rfl sc.nd rfl rfl (tL rfl rfl rfl rfl) (jw rfl T.gx (aa (aZ (bo K) rfl T.dE a6 (aa (aw K (pv 0) rfl) ah)) ah)) (bN (own:=[("k",4)]) (by show jo ["network","states","source","drives","k"] (aq fX) _ _=true;decide +kernel)) (fun _ _ _ _ _=>(aM (i:=4) sc.nd rfl (Or.inl rfl))) (fun _ _ _ _ _=>cH) (fun _ _ _ _ _=>(jE (bc dX (pv 4) (pv 2) (a5 _)) (cP (aa aF (aa aF ah))) (cP (aa aF (aa aF ah))))))
   (au (aB (rD jD (hr.mono (by decide)) rfl (aa (pv 0) (aa (aN (aa aF (aa aF ah))) (aa (pv 1) (aa (pv 3) ah)))))))),?_⟩
 refine⟨_,rfl,na,c.aO,ndx,_,_,rfl,hna,O.aO.cl,O.aO.at_ 1 rfl,rfl,pa,_,rfl,.inl (.of hpa),_,rfl,by lia,by lia,fun D hD=>ks (iX H 0 _) hD (fun i H' acc=>Paired (LO H') acc (((List.range n.af.length).map fun(k:Nat)=>if(k:Int)=src then((1:Int),(1:Int)) else(0,1)).take i)) .nil ?_ ?_⟩
 ·rintro i x H1 H2 acc hi s1 hD1 hacc s2 s12 hD2 rfl
  have hi2:i<n.af.length:=by lia
  have la:=hacc.length
  rw[List.length_take] at la
  have et:((List.range n.af.length).map fun(k:Nat)=>if(k:Int)=src then((1:Int),(1:Int)) else(0,1)).take (i+1)=((List.range n.af.length).map fun(k:Nat)=>if(k:Int)=src then((1:Int),(1:Int)) else(0,1)).take i ++ [if(i:Int)=src then((1:Int),(1:Int)) else(0,1)]:=by
   rw[List.take_add_one,List.getElem?_map,List.getElem?_range hi2];rfl
  refine⟨rfl,⟨_,rfl,_,rfl,rfl,_,rfl,?_⟩⟩
  rw[gn,Int.zero_add]
  by_cases e:(i:Int)=src
  ·rw[decide_eq_true e]
   rw[if_pos e] at et
   refine bx ⟨ax (by simp),fun p hp=> ?_⟩
   have s3:=ay (o:= .tup [.int 1,.int 1]) hp
   refine cT hD (s2.trans s3) (s3 _ _ hD2) (aH (by lia)) ?_
   rw[et]
   exact(hacc.dO fun _ _ q=>(q.same (s12.trans s3)).over (s3 _ _ hD2)).gh (LO.over ⟨p,rfl,ak⟩ (s3 _ _ hD2))
  ·rw[decide_eq_false e]
   rw[if_neg e] at et
   refine bE ⟨ax (by simp),fun p hp=> ?_⟩
   have s3:=ay (o:= .tup [.int 0,.int 1]) hp
   refine cT hD (s2.trans s3) (s3 _ _ hD2) (aH (by lia)) ?_
   rw[et]
   exact(hacc.dO fun _ _ q=>(q.same (s12.trans s3)).over (s3 _ _ hD2)).gh (LO.over ⟨p,rfl,ak⟩ (s3 _ _ hD2))
 ·intro H1 acc s1 hD1 hacc
  rw[List.take_of_length_le (by simp;lia)] at hacc
  refine⟨_,rfl,ax (by simp),fun q hq=> ?_⟩
  have s2:=ay (o:= .lst [.int 0,.int 1]) hq
  refine⟨_,rfl,_,rfl,fun x dx nx nd ne=> ?_⟩
  have s3:=s1.trans s2
  refine⟨_,x,dx,_,_,_,_,ai.bI n st src,rfl,ak,aJ.made nx nd (fun b o h _=>h),nx,hn.same s3,⟨q,rfl,ak⟩,hst.same s3,⟨D,acc,rfl,s2 _ _ hD1,hacc.dO fun _ _ z=>z.same s2⟩,hl,fun H4 s4 hz=>⟨rfl,kk _ _ (s3.trans s4) hz⟩⟩
end
def OS:Rp (List Bool):=fun S H v l=>∃a,v= .ref a/\¬S a/\H a=some (.lst (l.map V.bl))
theorem rE:Good OS where
 off:=fun⟨a,e,hs,h⟩ o=>⟨a,e,hs,o a _ hs h⟩
 vX:=fun⟨a,e,hs,h⟩ w=>⟨a,e,(fun q=>(w a q).elim hs fun z=>(by rw[h] at z;cases z)),h⟩
abbrev Rz:Rp (List (List Bool)):=Jx OS
theorem OS.at_{S:Addr->Prop}{H:Hp}{v:V}{l:List Bool}(h:OS S H v l):uE H v l:=let ⟨a,e,_,q⟩:=h;⟨a,e,q⟩
def ji(p:ai.Part)(rs:List (List Bool)):List (List Bool):=rs.flatMap fun row=>if p.kind=13 then[row ++ [false],row ++ [true]] else[row ++ [false]]
theorem rF:∀(l:List ai.Part) (p:ai.Part) (rs:List (List Bool)),ai.bf (l ++ [p]) rs=ji p (ai.bf l rs)
 |[],p,rs=>rfl
 |q::l,p,rs=>rF l p _
theorem xJ(p:ai.Part)(rs:List (List Bool))(r:List Bool):ji p (rs ++ [r])=ji p rs ++ (if p.kind=13 then[r ++ [false],r ++ [true]] else[r ++ [false]]):=by
 unfold ji
 rw[List.flatMap_append]
 simp
theorem sJ(p:ai.Part):∀rs:List (List Bool),(ji p rs).length<=2*rs.length
 |[]=>Nat.le_refl _
 |r::rs=>by
  have:=sJ p rs
  have e:ji p (r::rs)=(if p.kind=13 then[r ++ [false],r ++ [true]] else[r ++ [false]]) ++ ji p rs:=by
   unfold ji
   rw[List.flatMap_cons]
  have l2:(if p.kind=13 then[r ++ [false],r ++ [true]] else[r ++ [false]]).length<=2:=by split <;>simp
  rw[e,List.length_append,List.length_cons]
  lia
theorem G6(p:ai.Part)(m:Nat)(rs:List (List Bool))(h:∀r∈rs,r.length=m):∀r∈ji p rs,r.length=m+1:=fun r hr=>by
 obtain⟨q,hq,e⟩:=List.mem_flatMap.mp hr
 have:=h q hq
 split at e
 ·rcases List.mem_cons.mp e with rfl |e
  ·simp[this]
  ·rw[List.mem_singleton.mp e];simp[this]
 ·rw[List.mem_singleton.mp e];simp[this]
theorem uZ:∀(l:List ai.Part) (m:Nat) (rs:List (List Bool)),(∀r∈rs,r.length=m)->∀r∈ai.bf l rs,r.length=m+l.length
 |[],m,rs,h,r,hr=>h r hr
 |p::l,m,rs,h,r,hr=>by
  have:=uZ l (m+1) _ (G6 p m rs h) r hr
  rw[this,List.length_cons];lia
theorem u0:∀(l:List ai.Part) (rs:List (List Bool)),(ai.bf l rs).length<=2^l.length*rs.length
 |[],rs=>by simp[ai.bf]
 |p::l,rs=>by
  have h1:=u0 l (ji p rs)
  have h2:=sJ p rs
  refine Nat.le_trans h1 (Nat.le_trans (Nat.mul_le_mul_left _ h2) ?_)
  rw[List.length_cons,Nat.pow_succ,Nat.mul_assoc]
  exact Nat.le_refl _
theorem Fs{n:Nat}(h:n<=10):2^n<=1024:=Nat.pow_le_pow_right (n:=2) (by decide) h
section
variable {P:Program}{w:World}{K:PySem.W.Frag}{mg:Str->Option Value}{base:Heap}{c:Cs}
abbrev iG:Stmt:=top 96
theorem u4:aD ["parts","rows","part","longer","row"] ["parts"] (aq iG):=sco rfl rfl rfl rfl (by decide +kernel)
def lO(c:Cs):Sp:=fun vs H Q _=>∃v ps,vs=[v]/\ju c H v ps/\ps.length<=10/\∀z H',aJ H H'->Rz FF H' z (ai.bf ps [[]])->Q z H'
theorem u5(T:Txt2 mg)(O:cQ K c)(G:d9 K mg "rows_of_states" iG ["parts"]):bq P w K mg base "rows_of_states" ["parts"] 1 (lO c):=by
 have sc:=u4
 refine G.fg sc (fun vs H Q E ⟨v,ps,e,_⟩=>by rw[e];rfl) fun f cdv A outer s H vs Q E hr h=> ?_
 obtain⟨v,ps,rfl,⟨pa,ws,rfl,hpa,hps⟩,hl,kk⟩:=h
 have ll:=hps.length
 refine⟨_,(aj (aI (i:=1) sc.nd rfl (by first|left;rfl|right;rfl) (aN (aa (aN ah) ah)))
   (aj (c9 PassesOwn.never rfl (bS (pv 0)) (aM (i:=2) sc.nd rfl (Or.inl rfl)) (aj (aI (i:=3) sc.nd rfl (by first|left;rfl|right;rfl) (aN ah))
   (aj (c9 PassesOwn.never rfl (bS (pv 1)) (aM (i:=4) sc.nd rfl (Or.inl rfl)) (aj (fw (kX PySem.F.plainAttrs_list PySem.F.slot_list_append PySem.F.type_list_append dk (pv 3) (aa (bu mY (pv 4) (aN (aa oz ah))) ah)))
   (au (bK (bc dX (aw K (pv 2) rfl) (gc T.qW) (a5 _)) (au (fw (kX PySem.F.plainAttrs_list PySem.F.slot_list_append PySem.F.type_list_append dk (pv 3) (aa (bu mY (pv 4) (aN (aa oz ah))) ah)))) aW))))
   (au (aI (i:=1) sc.nd rfl (by first|left;rfl|right;rfl) (pv 3))))))
   (au (aB (pv 1))))),?_⟩
 refine⟨ax (by simp),fun q hq=> ?_⟩
 have s1:=ay (o:= .lst []) hq
 refine⟨ax (by simp),fun r hr'=> ?_⟩
 have s2:=s1.trans (ay (o:= .lst [.ref q]) hr')
 have hqr:q≠r:=fun e=>by rw[<-e,ak] at hr';cases hr'
 have lim:∀i,i<=ps.length->(ai.bf (ps.take i) [[]]).length<=1024:=fun i hi=>by
  have:=u0 (ps.take i) [[]]
  have h2:=Fs (n:=(ps.take i).length) (by rw[List.length_take];lia)
  simp only[List.length_cons,List.length_nil,Nat.zero_add,Nat.mul_one] at this
  lia
 refine⟨_,rfl,pa,rfl,⟨_,.of (s2 _ _ hpa)⟩,gb (bT (K:=K) (.of hpa)) (fun i σ H'=>∃p us x2 x3 x4,σ=[some (.ref pa),some (.ref p),x2,x3,x4]/\aJ H H'/\H p=none/\H' p=some (.lst us)/\Paired (OS FF H') us (ai.bf (ps.take i) [[]])) ?_ (fun i σ H' ⟨_,_,_,_,_,_,s,_⟩=>s) ?_ ?_⟩
 ·refine⟨r,_,none,none,none,rfl,s2,s1.free hr',ak,.cons ⟨q,rfl,fun z=>z,?_⟩ .nil⟩
  rw[aR hqr,ak];rfl
 ·rintro i x σ H1 H2 hi ⟨p,us,x2,x3,x4,rfl,s3,pH,hp1,hus⟩ s4 s12 hx
  obtain⟨pt,hpt,pr⟩:=hps.jd hx
  have hi2:i<ps.length:=by lia
  have hp2:=s12 _ _ hp1
  have hus2:=hus.eY rE s12
  have lu:=hus.length
  have li:=lim i (by lia)
  have hrow:∀r∈ai.bf (ps.take i) [[]],r.length<=1000:=fun r hr=>by
   have:=uZ (ps.take i) 0 [[]] (by simp) r hr
   rw[List.length_take] at this;lia
  refine⟨Nat.zero_le _,fun l hl'=> ?_⟩
  have s5:=ay (o:= .lst []) hl'
  refine⟨_,rfl,p,rfl,⟨_,.of (s5 _ _ hp2)⟩,gb (bT (K:=K) (.of hp2)) (fun j σ H'=>∃y4 ls,σ=[some (.ref pa),some (.ref p),some x,some (.ref l),y4]/\aJ H2 H'/\H' l=some (.lst ls)/\Paired (OS (b5 FF l) H') ls (ji pt ((ai.bf (ps.take i) [[]]).take j))) ?_ (fun i σ H' ⟨_,_,_,s,_⟩=>s) ?_ ?_⟩
  ·exact⟨_,[],rfl,s5,ak,.nil⟩
  ·rintro j y σ H3 H4 hj ⟨y4,ls,rfl,s6,hl3,hls⟩ s7 s34 hy
   obtain⟨row,hrw,ra,rfl,_,hra⟩:=hus2.jd hy
   have hl4:=s34 _ _ hl3
   have hra4:=s7 _ _ hra
   have lrow:=hrow row (List.mem_of_getElem? hrw)
   have lls:=hls.length
   have lst:=sJ pt ((ai.bf (ps.take i) [[]]).take j)
   rw[List.length_take] at lst
   have et:(ai.bf (ps.take i) [[]]).take (j+1)=(ai.bf (ps.take i) [[]]).take j ++ [row]:=by
    rw[List.take_add_one,hrw];rfl
   obtain⟨pb,pbx,rfl,hpb⟩:=pr.same (s4.trans s7)
   refine⟨_,rfl,.inl ⟨rfl,_,.of hl4⟩,_,rfl,ax (by simp),fun m1 hm1=> ?_⟩
   have s8:=ay (o:= .lst [.bl false]) hm1
   refine⟨ra,m1,_,_,rfl,rfl,s8 _ _ hra4,ak,ax (by simp;lia),fun m2 hm2=> ?_⟩
   have s9:=s8.trans (ay (o:= .lst (row.map V.bl ++ [.bl false])) hm2)
   have hl5:=s9 _ _ hl4
   have nm2:¬b5 FF l m2:=fun h=>h.elim (fun z=>z) (fun e=>by rw[e,s8 _ _ hl4] at hm2;cases hm2)
   refine⟨l,_,_,rfl,rfl,hl5,aH (by lia),?_⟩
   have s10:=(s7.trans s9).over (o:= .lst (ls ++ [.ref m2])) hl'
   have hB:Paired (OS (b5 FF l) (upd (upd (upd H4 m1 (.lst [.bl false])) m2 (.lst (row.map V.bl ++ [.bl false]))) l (.lst (ls ++ [.ref m2])))) (ls ++ [.ref m2]) (ji pt ((ai.bf (ps.take i) [[]]).take j) ++ [row ++ [false]]):=by
    refine((hls.eY rE (s34.trans s9)).qe rE (bU (.inr rfl))).gh (rE.off ⟨m2,rfl,nm2,?_⟩ (bU (.inr rfl)))
    rw[ak,List.map_append];rfl
   have hl6:(upd (upd (upd H4 m1 (.lst [.bl false])) m2 (.lst (row.map V.bl ++ [.bl false]))) l (.lst (ls ++ [.ref m2]))) l=some (.lst (ls ++ [.ref m2])):=ak
   have hpb5:(upd (upd (upd H4 m1 (.lst [.bl false])) m2 (.lst (row.map V.bl ++ [.bl false]))) l (.lst (ls ++ [.ref m2]))) pb=some (.ins c.part pbx (Ly pt)):=by
    rw[aR (DS (s9 _ _ hpb) hl5 (by intro z;cases z))]
    exact s9 _ _ hpb
   generalize upd (upd (upd H4 m1 (.lst [.bl false])) m2 (.lst (row.map V.bl ++ [.bl false]))) l (.lst (ls ++ [.ref m2]))=H5 at s10 hB hl6 hpb5
   refine⟨_,rfl,pb,c.part,pbx,_,_,rfl,hpb5,O.part.cl,O.part.at_ 0 rfl,rfl,rfl,_,rfl,?_⟩
   rw[gn]
   by_cases h13:pt.kind=13
   ·rw[decide_eq_true h13]
    have hra5:=s10 _ _ hra
    refine bx ⟨_,rfl,.inl ⟨rfl,_,.of hl6⟩,_,rfl,ax (by simp),fun m3 hm3=> ?_⟩
    have s11:=ay (o:= .lst [.bl true]) hm3
    refine⟨ra,m3,_,_,rfl,rfl,s11 _ _ hra5,ak,ax (by simp;lia),fun m4 hm4=> ?_⟩
    have s12':=s11.trans (ay (o:= .lst (row.map V.bl ++ [.bl true])) hm4)
    have hl7:=s12' _ _ hl6
    have nm4:¬b5 FF l m4:=fun h=>h.elim (fun z=>z) (fun e=>by rw[e,s11 _ _ hl6] at hm4;cases hm4)
    refine⟨l,_,_,rfl,rfl,hl7,aH (by simp;lia),_,_,rfl,(s10.trans s12').over hl',ak,?_⟩
    rw[et,xJ,if_pos h13,List.append_cons _ _ [_]]
    refine((hB.eY rE s12').qe rE (bU (.inr rfl))).gh (rE.off ⟨m4,rfl,nm4,?_⟩ (bU (.inr rfl)))
    rw[ak,List.map_append];rfl
   ·rw[decide_eq_false h13]
    refine bE ⟨_,_,rfl,s10,hl6,?_⟩
    rw[et,xJ,if_neg h13]
    exact hB
  ·rintro σ H3 ⟨y4,ls,rfl,s6,hl3,hls⟩
   rw[lu,List.take_length] at hls
   refine⟨_,rfl,l,ls,_,_,_,rfl,s4.trans s6,s4.free hl',hl3,?_⟩
   rw[List.take_add_one,hpt]
   show Paired _ _ (ai.bf (ps.take i ++ [pt]) [[]])
   rw[rF]
   exact hls.J3 rE
 ·rintro σ H1 ⟨p,us,x2,x3,x4,rfl,s3,pH,hp1,hus⟩
  rw[ll,List.take_length] at hus
  exact⟨_,rfl,kk _ _ s3 ⟨p,us,rfl,fun z=>z,hp1,hus⟩⟩
end
theorem Sz.prod{a b:Int}{m n:Nat}(ha:Sz m a)(hb:Sz n b):Sz (m+n) (a*b):=by
 unfold Sz at *
 rw[Int.natAbs_mul,Nat.pow_add]
 exact Nat.mul_lt_mul'' ha hb
theorem RA{p:Nat->Bool}{i:Nat}(h:p i=true):[i].filter p=[i]:=by simp[h]
theorem RB{p:Nat->Bool}{i:Nat}(h:p i=false):[i].filter p=[]:=by simp[h]
structure LP(g:ai.gK)(s:List Int×List (List Int))(k:Nat):Prop where
 kl:k<g.aO.af.length
 st:g.cU.length=g.aO.af.length
 p0:0<=(ai.places g.aO).getD k 0
 p1:(ai.places g.aO).getD k 0<s.2.length
 a:(pat g k).a<=s.2.length
 b:(pat g k).b<=s.2.length
 sh:sI s
 zd:Sz 8000 (ai.bF s.1)
 zc:Sz 8000 (ai.bF (ai.gQ g s k))
 zv:Sz 8000 (ai.bF (ai.gR g s k))
 zt:Sz 64 (pat g k).top
 zb:Sz 64 (pat g k).aC
section
variable {P:Program}{w:World}{K:PySem.W.Frag}{mg:Str->Option Value}{base:Heap}{c:Cs}
abbrev kh:Stmt:=top 98
theorem x9:aD ["setting","solution","k","part","determinant","voltage"] ["setting","solution","k"] (aq kh):=sco rfl rfl rfl rfl (by decide +kernel)
def oK(c:Cs):Sp:=fun vs H Q _=>∃v u g s k,vs=[u,v,.int ((k:Nat):Int)]/\oI c H v s/\i6 c H u g/\LP g s k/\∀H',aJ H H'->Q (.bl (ai.rR g s k)) H'
theorem yd(O:cQ K c)(gq:bq P w K mg base "constant_of" ["polynomial"] 1 p8)(fb:bq P w K mg base "current_top" ["setting","solution","k"] 1 (j9 c))(fc:bq P w K mg base "voltage_top" ["setting","solution","k"] 5 (kf c))(G:d9 K mg "diode_agrees" kh ["setting","solution","k"]):bq P w K mg base "diode_agrees" ["setting","solution","k"] 6 (oK c):=by
 have sc:=x9
 refine G.fg sc (fun vs H Q E ⟨v,u,g,s,k,e,_⟩=>by rw[e];rfl) fun f cdv A outer s0 H vs Q E hr h=> ?_
 obtain⟨v,u,g,s,k,rfl,hs,hg,ok,kk⟩:=h
 obtain⟨sa,sdx,vd,vt,rfl,hsa,hd,_⟩:=id hs
 obtain⟨ga,gdx,gvn,gvs,gvst,gvd,gvp,rfl,hga,⟨na,ndx,nvp,rfl,hna,pa,ws,rfl,hpa,hps⟩,_,⟨sta,rfl,hsta⟩,_,_⟩:=id hg
 refine⟨_,(aj (aI (i:=3) sc.nd rfl (by first|left;rfl|right;rfl) (aY (fE K) (aw K (aw K (pv 0) rfl) rfl) (pv 2) (fun _ _=>rfl)))
   (aj (aI (i:=4) sc.nd rfl (by first|left;rfl|right;rfl) (aA gq (hr.mono (by decide)) rfl (aa (aw K (pv 1) rfl) ah)))
   (aj (bK (bw K (aY (fE K) (aw K (pv 0) rfl) (pv 2) (fun _ _=>rfl)) (fun _=>rfl)) (au (aB (cf Kf (bu dQ (aA gq (hr.mono (by decide)) rfl (aa (aA fb (hr.mono (by decide)) rfl (aa (pv 0) (aa (pv 1) (aa (pv 2) ah)))) ah)) (pv 4)) aF (a5 _)))) aW)
   (aj (aI (i:=5) sc.nd rfl (by first|left;rfl|right;rfl) (aA gq (hr.mono (by decide)) rfl (aa (aA fc (hr.mono (by decide)) rfl (aa (pv 0) (aa (pv 1) (aa (pv 2) ah)))) ah)))
   (au (aB (cf oC (bu dQ (bu dQ (pv 5) (pv 4)) (aw K (pv 3) rfl)) (bu dQ (bu dQ (aw K (pv 3) rfl) (pv 4)) (pv 4)) (a5 _)))))))),?_⟩
 obtain⟨x,hx,pb,pbx,rfl,hpb⟩:=hps.gB (az (d:=ai.p0) ok.kl)
 have hb:(g.cU.map V.bl)[k]? =some (V.bl (g.cU.getD k false)):=by
  rw[List.getElem?_map,az (d:=false) (by have:=ok.st;have:=ok.kl;lia)];rfl
 unfold ai.rR at kk
 refine⟨_,rfl,ga,c.dI,gdx,_,_,rfl,hga,O.dI.cl,O.dI.at_ 0 rfl,rfl,na,c.aO,ndx,_,_,rfl,hna,O.aO.cl,O.aO.at_ 1 rfl,rfl,_,rfl,pa,_,_,_,rfl,rfl,.of hpa,aS (j:=k) rfl hx,?_⟩
 refine⟨_,rfl,sa,c.sol,sdx,_,_,rfl,hsa,O.sol.cl,O.sol.at_ 0 rfl,rfl,_,_,rfl,hd,?_⟩
 refine⟨_,rfl,ga,c.dI,gdx,_,_,rfl,hga,O.dI.cl,O.dI.at_ 2 rfl,rfl,_,rfl,sta,_,_,_,rfl,rfl,.of hsta,aS (j:=k) rfl hb,_,rfl,?_⟩
 by_cases h1:g.cU.getD k false=true
 ·rw[h1]
  simp only[h1,if_true] at kk
  refine bx ⟨_,rfl,_,rfl,_,rfl,_,_,g,s,k,rfl,hs,hg,ok.kl,ok.p0,ok.p1,fun z H1 s1 pz=> ?_⟩
  exact⟨_,_,rfl,pz,_,rfl,_,_,rfl,rfl,ok.zc.mul ok.zd (by decide),_,_,rfl,rfl,kk _ s1⟩
 ·have h2:g.cU.getD k false=false:=by simpa using h1
  rw[h2]
  simp only[h2,if_false,Bool.false_eq_true] at kk
  refine bE ⟨_,rfl,_,rfl,_,rfl,_,_,g,s,k,rfl,hs,ok.sh,hg,ok.kl,ok.a,ok.b,fun z H1 s1 pz=> ?_⟩
  refine⟨_,_,rfl,pz,?_⟩
  have hpb1:=s1 _ _ hpb
  exact⟨_,rfl,_,rfl,_,_,rfl,rfl,ok.zv.mul ok.zd (by decide),_,rfl,pb,c.part,pbx,_,_,rfl,hpb1,O.part.cl,O.part.at_ 6 rfl,rfl,_,_,rfl,rfl,(ok.zv.prod ok.zd).mul ok.zb (by decide),_,rfl,pb,c.part,pbx,_,_,rfl,hpb1,O.part.cl,O.part.at_ 5 rfl,rfl,_,rfl,_,_,rfl,rfl,ok.zt.mul ok.zd (by decide),_,rfl,_,_,rfl,rfl,(ok.zt.prod ok.zd).mul ok.zd (by decide),_,_,rfl,rfl,kk _ s1⟩
abbrev eK:Stmt:=top 97
theorem rh:aD ["setting","solution","parts","k"] ["setting","solution"] (aq eK):=sco rfl rfl rfl rfl (by decide +kernel)
def jn(c:Cs):Sp:=fun vs H Q _=>∃v u g s,vs=[u,v]/\oI c H v s/\i6 c H u g/\g.aO.af.length<=1000/\(∀k,k<g.aO.af.length->(pat g k).kind=13->LP g s k)/\∀H',aJ H H'->Q (.bl (ai.fG g s)) H'
theorem rm(T:Txt2 mg)(O:cQ K c)(kj:bq P w K mg base "diode_agrees" ["setting","solution","k"] 6 (oK c))(G:d9 K mg "all_diodes_agree" eK ["setting","solution"]):bq P w K mg base "all_diodes_agree" ["setting","solution"] 7 (jn c):=by
 have sc:=rh
 refine G.fg sc (fun vs H Q E ⟨v,u,g,s,e,_⟩=>by rw[e];rfl) fun f cdv A outer s0 H vs Q E hr h=> ?_
 obtain⟨v,u,g,s,rfl,hs,hg,hl,ok,kk⟩:=h
 obtain⟨ga,gdx,gvn,gvs,gvst,gvd,gvp,rfl,hga,⟨na,ndx,nvp,rfl,hna,pa,ws,rfl,hpa,hps⟩,_⟩:=id hg
 have ll:=hps.length
 refine⟨_,(aj (aI (i:=2) sc.nd rfl (by first|left;rfl|right;rfl) (aw K (aw K (pv 0) rfl) rfl))
   (au (aB (aZ (CB K rfl) rfl T.Fd rN (aa (iW rfl sc.nd (jw rfl T.gx (aa (aZ (bo K) rfl T.dE a6 (aa (pv 2) ah)) ah)) (bN (own:=[("k",3)]) (by show jo ["setting","solution","parts","k"] (aq eK) _ _=true;decide +kernel)) (fun _ _ _ _ _=>(aM (i:=3) sc.nd rfl (Or.inl rfl))) (fun _ _ _ _ _=>(Hz (bc dX (aw K (aY (fE K) (pv 2) (pv 3) (fun _ _=>rfl)) rfl) (gc T.qW) (a5 _)))) (fun _ _ _ _ _=>(aA kj (hr.mono (by decide)) rfl (aa (pv 0) (aa (pv 1) (aa (pv 3) ah)))))) ah))))),?_⟩
 refine⟨_,rfl,ga,c.dI,gdx,_,_,rfl,hga,O.dI.cl,O.dI.at_ 0 rfl,rfl,na,c.aO,ndx,_,_,rfl,hna,O.aO.cl,O.aO.at_ 1 rfl,rfl,?_⟩
 refine⟨_,rfl,pa,_,rfl,.inl (.of hpa),_,rfl,by lia,by lia,fun D hD=>ks (iX H 0 _) hD (fun i _ acc=>acc=(((List.range i).filter fun k=>decide ((g.aO.af.getD k ai.p0).kind=13)).map fun k=>V.bl (ai.rR g s k))) rfl ?_ ?_⟩
 ·rintro i x H1 H2 acc hi s1 hD1 hacc s2 s12 hD2 rfl
  have hi2:i<g.aO.af.length:=by lia
  obtain⟨y,hy,pb,pbx,rfl,hpb⟩:=hps.gB (az (d:=ai.p0) hi2)
  have lf:acc.length<=i:=by
   rw[hacc,lMp]
   exact Nat.le_trans (List.length_filter_le _ _) (by simp)
  rw[Int.zero_add]
  refine⟨rfl,⟨_,rfl,_,rfl,pa,_,_,_,rfl,rfl,.of (s2 _ _ hpa),aS (j:=i) rfl hy,pb,c.part,pbx,_,_,rfl,s2 _ _ hpb,O.part.cl,O.part.at_ 0 rfl,rfl,rfl,_,rfl,?_⟩⟩
  rw[gn]
  by_cases h13:(g.aO.af.getD i ai.p0).kind=13
  ·rw[decide_eq_true h13]
   refine bx ⟨_,rfl,_,rfl,_,rfl,_,_,g,s,i,rfl,hs.same s2,hg.same s2,ok i hi2 h13,fun H3 s3=> ?_⟩
   refine cT hD (s2.trans s3) (s3 _ _ hD2) (aH (by lia)) ?_
   rw[hacc,List.range_succ,List.filter_append,List.map_append,RA (decide_eq_true h13)]
   rfl
  ·rw[decide_eq_false h13]
   refine bE ⟨s2,acc,hD2,?_⟩
   rw[hacc,List.range_succ,List.filter_append,List.map_append,RB (decide_eq_false h13)]
   simp
 ·intro H1 acc s1 hD1 hacc
  have en:((ws.length:Int)).toNat=g.aO.af.length:=by lia
  rw[en] at hacc
  refine⟨D,((List.range g.aO.af.length).filter fun k=>decide ((g.aO.af.getD k ai.p0).kind=13)).map (ai.rR g s),rfl,.of ?_,?_⟩
  ·rw[hD1,hacc,List.map_map];rfl
  ·have:=kk _ s1
   unfold ai.fG at this
   rw[List.all_map]
   exact this
def RC(c:Cs)(H:Hp)(v:V)(pt:List Bool×(List Int×List (List Int))):Prop:=∃a dx vst vsl,v= .ref a/\H a=some (.ins c.pt dx (RU vst vsl))/\uE H vst pt.1/\oI c H vsl pt.2
structure Ft(g:ai.gK):Prop where
 RW:QO g
 l0:0<=g.aO.last
 l1:g.aO.last<=100
 RX:DA g.aO
 RY:∀k,k<g.aO.af.length->IA g k
 RZ:LH g
 len:(ai.rows g).length<=900
 vX:∀i,i<(ai.rows g).length->((ai.rows g).getD i []).length=(ai.rows g).length+1
 run:Ap (ai.rows g).length 0 (ai.rows g) [1]
def i8(n:ai.Nw)(st:List Bool):ai.gK:=⟨n,[],st,n.af.map fun p=>(p.top,p.aC)⟩
structure OT(n:ai.Nw):Prop where
 af:n.af.length<=10
 dI:∀st∈ai.bf n.af [[]],Ft (i8 n st)
 Sb:∀st∈ai.bf n.af [[]],∀s,ai.sol (ai.rows (i8 n st))=some s->∀k,k<n.af.length->(pat (i8 n st) k).kind=13->LP (i8 n st) s k
def RD(c:Cs)(H:Hp)(Q:VK):Option (List Bool×(List Int×List (List Int)))->Prop
 |none=>∀H',aJ H H'->Q .gr H'
 |some s=>∀z H',aJ H H'->RC c H' z s->Q z H'
abbrev fD:Stmt:=top 95
theorem sL:aD ["network","own","part","states","setting","solution"] ["network"] (aq fD):=sco rfl rfl rfl rfl (by decide +kernel)
def km(c:Cs):Sp:=fun vs H Q _=>∃v n,vs=[v]/\lI c H v n/\OT n/\RD c H Q (ai.point n)
theorem sM(T:Txt2 mg)(O:cQ K c)(iH:bq P w K mg base "rows_of_states" ["parts"] 1 (lO c))(jD:G1 P w K mg base "Setting" c.dI ["self","network","s","states","drives"] 3 (qu c))(iI:bq P w K mg base "law_rows" ["setting"] 6 (qm c))(mR:bq P w K mg base "solved" ["rows"] 6 (wH c))(gF:bq P w K mg base "all_diodes_agree" ["setting","solution"] 7 (jn c))(iJ:G1 P w K mg base "OperatingPoint" c.pt ["self","states","solution"] 1 (j5 c.pt))(G:d9 K mg "operating_point" fD ["network"]):bq P w K mg base "operating_point" ["network"] 8 (km c):=by
 have sc:=sL
 refine G.fg sc (fun vs H Q E ⟨v,n,e,_⟩=>by rw[e];rfl) fun f cdv A outer s0 H vs Q E hr h=> ?_
 obtain⟨v,n,rfl,hn,ok,kk⟩:=h
 obtain⟨na,ndx,nvp,rfl,hna,pa,ws,rfl,hpa,hps⟩:=id hn
 have ll:=hps.length
 have l10:=ok.af
 refine⟨_,(aj (pI (i:=1) rfl sc.nd rfl rfl (tL rfl rfl rfl rfl) (bS (aw K (pv 0) rfl)) (bN (own:=[("part",2)]) (by show jo ["network","own","part","states","setting","solution"] (aq fD) _ _=true;decide +kernel)) (fun _ _ _ _ _=>(aM (i:=2) sc.nd rfl (Or.inl rfl))) (fun _ _ _ _ _=>cH) (fun _ _ _ _ _=>(cP (aa (aw K (pv 2) rfl) (aa (aw K (pv 2) rfl) ah)))))
   (aj (c9 PassesOwn.never rfl (bS (aA iH (hr.mono (by decide)) rfl (aa (aw K (pv 0) rfl) ah))) (aM (i:=3) sc.nd rfl (Or.inl rfl)) (aj (aI (i:=4) sc.nd rfl (by first|left;rfl|right;rfl) (rD jD (hr.mono (by decide)) rfl (aa (pv 0) (aa (aN ah) (aa (pv 3) (aa (pv 1) ah))))))
   (aj (aI (i:=5) sc.nd rfl (by first|left;rfl|right;rfl) (aA mR (hr.mono (by decide)) rfl (aa (aA iI (hr.mono (by decide)) rfl (aa (pv 4) ah)) ah)))
   (au (bK (PW.pt (FW (FV (L6 (pv 5))) (Co (bw K (aA gF (hr.mono (by decide)) rfl (aa (pv 4) (aa (pv 5) ah))) (fun _=>rfl))))) (au (aB (rD iJ (hr.mono (by decide)) rfl (aa (pv 3) (aa (pv 5) ah))))) aW)))))
   (au (aB FU)))),?_⟩
 refine⟨_,rfl,na,c.aO,ndx,_,_,rfl,hna,O.aO.cl,O.aO.at_ 1 rfl,rfl,pa,rfl,⟨_,.of hpa⟩,fun D hD=>ks (bT (.of hpa)) hD (fun i H' acc=>Paired (LO H') acc ((n.af.take i).map fun p=>(p.top,p.aC))) .nil ?_ ?_⟩
 ·rintro i x H1 H2 acc hi s1 hD1 hacc s2 s12 hD2 hx
  obtain⟨p,hp,pb,pbx,rfl,hpb⟩:=hps.jd hx
  have la:=hacc.length
  rw[lMp,List.length_take] at la
  have hpb2:=s2 _ _ hpb
  refine⟨rfl,⟨_,rfl,pb,c.part,pbx,_,_,rfl,hpb2,O.part.cl,O.part.at_ 5 rfl,rfl,_,rfl,pb,c.part,pbx,_,_,rfl,hpb2,O.part.cl,O.part.at_ 6 rfl,rfl,ax (by simp),fun q hq=> ?_⟩⟩
  have s3:=ay (o:= .tup [.int p.top,.int p.aC]) hq
  refine cT hD (s2.trans s3) (s3 _ _ hD2) (aH (by lia)) ?_
  rw[bh _ _ _ _ hp]
  exact(hacc.dO fun _ _ q=>(q.same (s12.trans s3)).over (s3 _ _ hD2)).gh (LO.over ⟨q,rfl,ak⟩ (s3 _ _ hD2))
 ·intro H1 acc s1 hD1 hacc
  rw[ll,List.take_length] at hacc
  have hown:B8 H1 (.ref D) (n.af.map fun p=>(p.top,p.aC)):=⟨D,acc,rfl,hD1,hacc⟩
  refine⟨_,rfl,na,c.aO,ndx,_,_,rfl,s1 _ _ hna,O.aO.cl,O.aO.at_ 1 rfl,rfl,_,n.af,rfl,⟨pa,ws,rfl,s1 _ _ hpa,hps.dO fun _ _ z=>z.same s1⟩,l10,fun z H2 s2 hz=> ?_⟩
  obtain⟨ra,us,rfl,_,hra,hus⟩:=hz
  have s12:=s1.trans s2
  have lu:=hus.length
  refine⟨ra,rfl,⟨_,.of hra⟩,gb (bT (K:=K) (.of hra)) (fun i σ H'=>∃x2 x3 x4 x5,σ=[some (.ref na),some (.ref D),x2,x3,x4,x5]/\aJ H2 H'/\i<=us.length/\ai.iR n ((ai.bf n.af [[]]).drop i)=ai.point n) ⟨none,none,none,none,rfl,.refl _,Nat.zero_le _,rfl⟩ (fun i σ H' ⟨_,_,_,_,_,s,_⟩=>s) ?_ ?_⟩
  ·rintro i x σ H3 H4 hi ⟨x2,x3,x4,x5,rfl,s3,hi2,hpo⟩ s4 s34 hx
   obtain⟨st,hst,rx⟩:=hus.jd hx
   have hmem:=List.mem_of_getElem? hst
   have ki:=ok.dI st hmem
   have edrop:(ai.bf n.af [[]]).drop i=st::(ai.bf n.af [[]]).drop (i+1):=by
    obtain⟨hlt,e⟩:=List.getElem?_eq_some_iff.mp hst
    rw[List.drop_eq_getElem_cons hlt,e]
   rw[edrop] at hpo
   have hpo':(match ai.sol (ai.rows (i8 n st)) with
    |none=>ai.iR n ((ai.bf n.af [[]]).drop (i+1))
    |some s=>if ai.fG (i8 n st) s=true then some (st,s) else ai.iR n ((ai.bf n.af [[]]).drop (i+1)))=ai.point n:=hpo
   have s24:=s12.trans s4
   refine⟨_,rfl,Nat.zero_le _,fun q hq=> ?_⟩
   have s5:=ay (o:= .lst []) hq
   refine⟨_,rfl,_,rfl,fun ox dx nx nd ne=> ?_⟩
   have s6:=s24.trans s5
   have hst5:uE (upd H4 q (.lst [])) x st:=(rE.same rx (s4.trans s5)).at_
   refine⟨_,ox,dx,_,_,_,_,i8 n st,rfl,ak,aJ.made nx nd (fun b o h _=>h),nx,hn.same s6,⟨q,rfl,ak⟩,hst5,hown.same ((s2.trans s4).trans s5),by show n.af.length<=1000;lia,fun H5 s7 hg=>⟨rfl,?_⟩⟩
   have s57:=s5.trans s7
   refine⟨_,rfl,_,i8 n st,rfl,hg,ki.RW,ki.l0,ki.l1,ki.RX,ki.RY,ki.RZ,fun z6 H6 s8 hrows=> ?_⟩
   refine⟨_,_,rfl,Iu.less hrows (fun a h=>h.elim),ki.len,ki.vX,ki.run,?_⟩
   cases hso:ai.sol (ai.rows (i8 n st)) with
   |none=>
    rw[hso] at hpo'
    intro H7 s9
    refine⟨_,rfl,_,rfl,?_⟩
    refine bE (bE ⟨_,_,_,_,rfl,((s4.trans s57).trans s8).trans s9,by lia,hpo'⟩)
   |some sl=>
    rw[hso] at hpo'
    intro z7 H7 s9 hsl
    have ag:=ok.Sb st hmem sl hso
    obtain⟨za,zdx,zvd,zvt,rfl,hza,_⟩:=id hsl
    refine⟨_,rfl,_,rfl,?_⟩
    refine bx ⟨_,rfl,_,rfl,_,_,i8 n st,sl,rfl,hsl,hg.same (s8.trans s9),by show n.af.length<=1000;lia,ag,fun H8 s10=> ?_⟩
    have s20:aJ H4 H8:=((s57.trans s8).trans s9).trans s10
    refine⟨_,rfl,?_⟩
    by_cases hag:ai.fG (i8 n st) sl=true
    ·rw[hag]
     have hpo2:some (st,sl)=ai.point n:=by
      rw[<-hpo']
      show _=if ai.fG (i8 n st) sl=true then _ else _
      rw[if_pos hag]
     rw[<-hpo2] at kk
     refine bx ⟨_,rfl,_,rfl,fun ox2 dx2 nx2 nd2 ne2=>⟨ox2,dx2,_,_,rfl,ak,fun H9 k9 hx9=>⟨rfl,?_⟩⟩⟩
     have s11:aJ H8 H9:=aJ.made nx2 nd2 k9
     exact kk _ _ (s24.trans (s20.trans s11)) ⟨ox2,dx2,x,_,rfl,hx9,(rE.same rx (s4.trans (s20.trans s11))).at_,hsl.same (s10.trans s11)⟩
    ·have hag2:ai.fG (i8 n st) sl=false:=by simpa using hag
     rw[hag2]
     refine bE ⟨_,_,_,_,rfl,s4.trans s20,by lia,?_⟩
     rw[<-hpo']
     show _=if ai.fG (i8 n st) sl=true then _ else _
     rw[if_neg hag]
  ·rintro σ H3 ⟨x2,x3,x4,x5,rfl,s3,hi2,hpo⟩
   rw[List.drop_of_length_le (by lia)] at hpo
   have:ai.point n=none:=hpo.symm
   rw[this] at kk
   exact kk _ (s12.trans s3)
end
theorem vals2{a b:Int}{us:List Value}(r:Vals [.int a,.int b] us):∃t t',us=[.int a t,.int b t']:=by
 cases r with
 |cons r1 r=>
  cases r with
  |cons r2 r=>
   cases r
   obtain⟨t,rfl⟩:=r1
   obtain⟨t',rfl⟩:=r2
   exact⟨t,t',rfl⟩
theorem OU{a b:Addr}{us:List Value}(r:Vals [.ref a,.ref b] us):us=[.ref a,.ref b]:=by
 cases r with
 |cons r1 r=>
  cases r with
  |cons r2 r=>
   cases r
   cases r1
   cases r2
   rfl
theorem wK{A:Around}{s:Shared}{t1 t:Addr}{a1 b1 a b:Int}{k1 k2 k3 k4:Tok}(hu:A.units<cLine)(h1:IsTup s.heap t1 [Value.int a1 k1,.int b1 k2].toArray)(h:IsTup s.heap t [Value.int a k3,.int b k4].toArray)(hs:t1=t->a1=a/\b1=b):
  SeqAt.EqAt A s (.ref t1) (.ref t) (decide (a1=a/\b1=b)):=by
 by_cases e:t1=t
 ·rw[decide_eq_true (hs e),e]
  exact SeqAt.EqAt.same _
 ·have q:=SeqAt.EqAt.of_refs e (SeqAt.RcAt.tuples (e:=fun j=>if j=0 then a1==a else b1==b) h1 h hu (fun j j1 j2=>by
   have hj:j=0\/j=1:=by
    have:j<2:=j1
    lia
   rcases hj with rfl |rfl
   ·exact SeqAt.EqAt.int_int a1 k1 a k3
   ·exact SeqAt.EqAt.int_int b1 k2 b k4))
  have e2:((List.range (min [Value.int a1 k1,.int b1 k2].toArray.size [Value.int a k3,.int b k4].toArray.size)).all (fun j=>if j=0 then a1==a else b1==b)&&[Value.int a1 k1,.int b1 k2].toArray.size==[Value.int a k3,.int b k4].toArray.size)=decide (a1=a/\b1=b):=by
   show([0,1].all (fun j=>if j=0 then a1==a else b1==b)&&true)=_
   rw[Bool.eq_iff_iff]
   simp
  rw[e2] at q
  exact q
def RE(K:PySem.W.Frag):R2:=fun x y H Q=>∃t p t1 t2 a b a1 b1 a2 b2,x= .ref t/\y= .ref p/\AL K H t [.int a,.int b]/\AL K H p [.ref t1,.ref t2]/\AL K H t1 [.int a1,.int b1]/\AL K H t2 [.int a2,.int b2]/\Q (.bl (decide ((a1=a/\b1=b)\/(a2=a/\b2=b)))) H
def QG(t1:Addr)(e1 e2:Bool):Value->Bool
 | .ref x=>if x=t1 then e1 else e2
 |_=>false
theorem OV{X:Cx}(K:PySem.W.Frag)(hu:X.A.units+64<cLine)(h:X.K=K:=by rfl):tH X (compareOp .In) (RE K):=by
 subst h
 intro pins s σ H x y v u Q I rx ry h
 obtain⟨t,p,t1,t2,a,b,a1,b1,a2,b2,rfl,rfl,ht,hp,ht1,ht2,q⟩:=h
 cases rx
 cases ry
 obtain⟨its,r,pl,_⟩:=I.tuple ht
 obtain⟨its0,r0,pl0,_⟩:=I.tuple hp
 obtain⟨its1,r1,pl1,_⟩:=I.tuple ht1
 obtain⟨its2,r2,pl2,_⟩:=I.tuple ht2
 obtain⟨k3,k4,rfl⟩:=vals2 r
 obtain⟨k5,k6,rfl⟩:=vals2 r1
 obtain⟨k7,k8,rfl⟩:=vals2 r2
 cases OU r0
 have q1:t1=t->a1=a/\b1=b:=fun e=>by
  subst e
  have:=I.vA ht1 ht
  simpa using this
 have q2:t2=t->a2=a/\b2=b:=fun e=>by
  subst e
  have:=I.vA ht2 ht
  simpa using this
 have q12:t1=t2->a1=a2/\b1=b2:=fun e=>by
  subst e
  have:=I.vA ht1 ht2
  simpa using this
 have hu1:X.A.in1.units<cLine:=by rw[Around.in1_units];lia
 refine SeqAt.in_tupleAt (QG t1 (decide (a1=a/\b1=b)) (decide (a2=a/\b2=b))) pl0 (fun w hw=> ?_) ⟨.bl _,H,I,rfl,?_⟩
 ·have hw2:w= .ref t1\/w= .ref t2:=by simpa using hw
  rcases hw2 with rfl |rfl
  ·show SeqAt.EqAt _ _ _ _ (if t1=t1 then _ else _)
   rw[if_pos rfl]
   exact wK hu1 pl1 pl q1
  ·show SeqAt.EqAt _ _ _ _ (if t2=t1 then _ else _)
   by_cases e:t2=t1
   ·rw[if_pos e]
    obtain⟨e1,e2⟩:=q12 e.symm
    rw[e1,e2]
    exact wK hu1 pl2 pl q2
   ·rw[if_neg e]
    exact wK hu1 pl2 pl q2
 ·have e:([Value.ref t1,.ref t2].toArray.any (QG t1 (decide (a1=a/\b1=b)) (decide (a2=a/\b2=b))))=decide ((a1=a/\b1=b)\/(a2=a/\b2=b)):=by
   show([Value.ref t1,.ref t2].toArray.any _)=_
   rw[show([Value.ref t1,.ref t2].toArray.any (QG t1 (decide (a1=a/\b1=b)) (decide (a2=a/\b2=b))))=(QG t1 (decide (a1=a/\b1=b)) (decide (a2=a/\b2=b)) (.ref t1) ||QG t1 (decide (a1=a/\b1=b)) (decide (a2=a/\b2=b)) (.ref t2)) by simp]
   show((if t1=t1 then _ else _) ||(if t2=t1 then _ else _))=_
   rw[if_pos rfl]
   by_cases e:t2=t1
   ·rw[if_pos e]
    obtain⟨e1,e2⟩:=q12 e.symm
    rw[e1,e2]
    simp
   ·rw[if_neg e,Bool.eq_iff_iff]
    simp
  rw[e]
  exact q
section
variable {P:Program}{w:World}{K:PySem.W.Frag}{mg:Str->Option Value}{base:Heap}{c:Cs}
abbrev wL:Stmt:=top 75
theorem G7:aD ["part","one","other"] ["part","one","other"] (aq wL):=sco rfl rfl rfl rfl (by decide +kernel)
def Ax(c:Cs):Sp:=fun vs H Q _=>∃v p one other,vs=[v,.int one,.int other]/\dJ c H v p/\∀H',aJ H H'->Q (.bl (ai.fz p one other)) H'
theorem G8(T:Txt2 mg)(O:cQ K c)(G:d9 K mg "couples" wL ["part","one","other"]):bq P w K mg base "couples" ["part","one","other"] 1 (Ax c):=by
 have sc:=G7
 refine G.fg sc (fun vs H Q E ⟨v,p,one,other,e,_⟩=>by rw[e];rfl) fun f cdv A outer s0 H vs Q E hr h=> ?_
 obtain⟨v,p,one,other,rfl,⟨pb,pbx,rfl,hpb⟩,kk⟩:=h
 refine⟨_,(aj (bK (bc xh (aw K (pv 0) rfl) (gc T.dM) (a5 _)) (au (aB oz)) aW)
   (au (aB (cf (OV K hr.units) (cP (aa (aw K (pv 0) rfl) (aa (aw K (pv 0) rfl) ah))) (cP (aa (cP (aa (pv 1) (aa (pv 2) ah))) (aa (cP (aa (pv 2) (aa (pv 1) ah))) ah))) (by with_unfolding_all rfl))))),?_⟩
 unfold ai.fz at kk
 refine⟨_,rfl,pb,c.part,pbx,_,_,rfl,hpb,O.part.cl,O.part.at_ 0 rfl,rfl,rfl,_,rfl,?_⟩
 rw[gn]
 by_cases h3:p.kind=3
 ·rw[decide_eq_true h3]
  rw[if_neg (by simp[h3])] at kk
  refine bE ⟨_,rfl,pb,c.part,pbx,_,_,rfl,hpb,O.part.cl,O.part.at_ 1 rfl,rfl,_,rfl,pb,c.part,pbx,_,_,rfl,hpb,O.part.cl,O.part.at_ 2 rfl,rfl,ax (by simp),fun t ht=> ?_⟩
  have s1:=ay (o:= .tup [.int p.a,.int p.b]) ht
  refine⟨_,rfl,_,rfl,ax (by simp),fun t1 ht1=> ?_⟩
  have s2:=ay (o:= .tup [.int one,.int other]) ht1
  refine⟨_,rfl,_,rfl,ax (by simp),fun t2 ht2=> ?_⟩
  have s3:=ay (o:= .tup [.int other,.int one]) ht2
  refine⟨ax (by simp),fun t3 ht3=> ?_⟩
  have s4:=ay (o:= .tup [.ref t1,.ref t2]) ht3
  refine⟨t,t3,t1,t2,p.a,p.b,one,other,other,one,rfl,rfl,.of ((s2.trans (s3.trans s4)) _ _ ak),.of ak,.of ((s3.trans s4) _ _ ak),.of (s4 _ _ ak),?_⟩
  have e:decide ((one=p.a/\other=p.b)\/(other=p.a/\one=p.b))=decide ((p.a=one/\p.b=other)\/(p.a=other/\p.b=one)):=by
   rw[Bool.eq_iff_iff,decide_eq_true_iff,decide_eq_true_iff]
   constructor
   ·rintro(⟨e1,e2⟩ |⟨e1,e2⟩)
    ·exact .inl ⟨e1.symm,e2.symm⟩
    ·exact .inr ⟨e1.symm,e2.symm⟩
   ·rintro(⟨e1,e2⟩ |⟨e1,e2⟩)
    ·exact .inl ⟨e1.symm,e2.symm⟩
    ·exact .inr ⟨e1.symm,e2.symm⟩
  rw[e]
  exact kk _ (s1.trans (s2.trans (s3.trans s4)))
 ·rw[decide_eq_false h3]
  rw[if_pos h3] at kk
  exact bx (kk _ (.refl _))
end
structure J4(p:ai.Part):Prop where
 k0:0<=p.kind
 k1:p.kind<=13
 a0:0<=p.a
 b0:0<=p.b
 c0:0<=p.c
 d0:0<=p.d
 t:p.top.natAbs<=1000000
 b1:1<=p.aC
 b2:p.aC<=1000000
theorem MX{z:Int}(h:z.natAbs<=1000000):Sz 64 z:=by
 unfold Sz
 have:(1000000:Nat)<2^64:=by decide
 lia
theorem J4.zt{p:ai.Part}(h:J4 p):Sz 64 p.top:=MX h.t
theorem J4.zb{p:ai.Part}(h:J4 p):Sz 64 p.aC:=MX (by have:=h.b1;have:=h.b2;lia)
theorem RF(k a b d:Int):FN (.int k) [.int a,.int b,.int d]=decide (k=a\/k=b\/k=d):=by
 rw[Bool.eq_iff_iff]
 simp[FN,IT]
 lia
theorem RG(k a b d e:Int):FN (.int k) [.int a,.int b,.int d,.int e]=decide (k=a\/k=b\/k=d\/k=e):=by
 rw[Bool.eq_iff_iff]
 simp[FN,IT]
 lia
structure Txt4(mg:Str->Option Value):Prop extends Txt3 mg where
 kn:∃t,mg "NO_FAULT"=some (.int 0 t)
 oe:∃t,mg "WRONG_NODE"=some (.int 1 t)
 gY:∃t,mg "WRONG_NUMBER"=some (.int 2 t)
 dH:∃t,mg "WRONG_REFERENCE"=some (.int 3 t)
 og:∃t,mg "MOST_NODES"=some (.int 8 t)
 oh:∃t,mg "MOST_PARTS"=some (.int 10 t)
 my:∃t,mg "MOST_DIODES"=some (.int 3 t)
 cS:∃t,mg "NUMBERS_OF_A_PART"=some (.int 7 t)
 oj:∃t,mg "LAST_PLACE"=some (.int 63 t)
 sN:∃t,mg "MOST_TOP"=some (.int 1000000 t)
 mz:∃t,mg "MOST_BOTTOM"=some (.int 1000000 t)
theorem OW(xs:List V)(k:Nat)(h:k<=xs.length):rK xs none (some (k:Int))=xs.take k:=by
 unfold rK
 rw[HT.mW,Nat.min_eq_left h]
 simp[HT.AQ]
section
variable {P:Program}{w:World}{K:PySem.W.Frag}{mg:Str->Option Value}{base:Heap}{c:Cs}
abbrev sO:Stmt:=top 70
theorem Fu:aD ["part"] ["part"] (aq sO):=sco rfl rfl rfl rfl (by decide +kernel)
def xK(c:Cs):Sp:=fun vs H Q _=>∃v p,vs=[v]/\dJ c H v p/\nJ H Q (ai.dz p)
theorem Fv(T:Txt2 mg)(O:cQ K c)(G:d9 K mg "nodes_of" sO ["part"]):bq P w K mg base "nodes_of" ["part"] 1 (xK c):=by
 have sc:=Fu
 refine G.fg sc (fun vs H Q E ⟨v,p,e,_⟩=>by rw[e];rfl) fun f cdv A outer s0 H vs Q E hr h=> ?_
 obtain⟨v,p,rfl,⟨pb,pbx,rfl,hpb⟩,kk⟩:=h
 refine⟨_,(aj (bK (bc dX (aw K (pv 0) rfl) (gc T.dM) (a5 _)) (au (aB (aN ah))) aW)
   (aj (bK (bc (yM K) (aw K (pv 0) rfl) (cP (aa (gc T.fO) (aa (gc T.fP) (aa (gc T.e7) (aa (gc T.lJ) ah))))) (by with_unfolding_all rfl)) (au (aB (aN (aa (aw K (pv 0) rfl) (aa (aw K (pv 0) rfl) (aa (aw K (pv 0) rfl) (aa (aw K (pv 0) rfl) ah))))))) aW)
   (au (aB (aN (aa (aw K (pv 0) rfl) (aa (aw K (pv 0) rfl) ah))))))),?_⟩
 unfold ai.dz at kk
 refine⟨_,rfl,pb,c.part,pbx,_,_,rfl,hpb,O.part.cl,O.part.at_ 0 rfl,rfl,rfl,_,rfl,?_⟩
 rw[gn]
 by_cases h3:p.kind=3
 ·rw[decide_eq_true h3]
  rw[if_pos h3] at kk
  exact bx ⟨Nat.zero_le _,fun q hq=>kk q _ hq (ay hq) ak⟩
 ·rw[decide_eq_false h3]
  rw[if_neg h3] at kk
  refine bE ⟨_,rfl,pb,c.part,pbx,_,_,rfl,hpb,O.part.cl,O.part.at_ 0 rfl,rfl,ax (by simp),fun t ht=>⟨t,_,rfl,.inr (.of ak),rfl,rfl,_,rfl,?_⟩⟩
  show if(FN (.int p.kind) [.int 6,.int 7,.int 10,.int 11])=true then _ else _
  rw[RG]
  have s1:=ay (o:= .tup [.int 6,.int 7,.int 10,.int 11]) ht
  have h1:=s1 _ _ hpb
  by_cases h4:p.kind=6\/p.kind=7\/p.kind=10\/p.kind=11
  ·rw[decide_eq_true h4]
   rw[if_pos h4] at kk
   exact bx ⟨_,rfl,pb,c.part,pbx,_,_,rfl,h1,O.part.cl,O.part.at_ 1 rfl,rfl,_,rfl,pb,c.part,pbx,_,_,rfl,h1,O.part.cl,O.part.at_ 2 rfl,rfl,_,rfl,pb,c.part,pbx,_,_,rfl,h1,O.part.cl,O.part.at_ 3 rfl,rfl,_,rfl,pb,c.part,pbx,_,_,rfl,h1,O.part.cl,O.part.at_ 4 rfl,rfl,ax (by simp),fun q hq=>kk q _ (s1.free hq) (s1.trans (ay hq)) ak⟩
  ·rw[decide_eq_false h4]
   rw[if_neg h4] at kk
   exact bE ⟨_,rfl,pb,c.part,pbx,_,_,rfl,h1,O.part.cl,O.part.at_ 1 rfl,rfl,_,rfl,pb,c.part,pbx,_,_,rfl,h1,O.part.cl,O.part.at_ 2 rfl,rfl,ax (by simp),fun q hq=>kk q _ (s1.free hq) (s1.trans (ay hq)) ak⟩
abbrev gZ:Stmt:=top 71
theorem sP:aD ["part"] ["part"] (aq gZ):=sco rfl rfl rfl rfl (by decide +kernel)
def ko(c:Cs):Sp:=fun vs H Q _=>∃v p,vs=[v]/\dJ c H v p/\∀H',aJ H H'->Q (.bl (ai.jI p)) H'
theorem sQ(T:Txt2 mg)(O:cQ K c)(G:d9 K mg "may_have_number" gZ ["part"]):bq P w K mg base "may_have_number" ["part"] 1 (ko c):=by
 have sc:=sP
 refine G.fg sc (fun vs H Q E ⟨v,p,e,_⟩=>by rw[e];rfl) fun f cdv A outer s0 H vs Q E hr h=> ?_
 obtain⟨v,p,rfl,⟨pb,pbx,rfl,hpb⟩,kk⟩:=h
 refine⟨_,(aj (bK (bc (yM K) (aw K (pv 0) rfl) (cP (aa (gc T.sy) (aa (gc T.qf) (aa (gc T.Dv) ah)))) (by with_unfolding_all rfl)) (au (aB (cf xi (aw K (pv 0) rfl) aF (a5 _)))) aW)
   (aj (bK (bc dX (aw K (pv 0) rfl) (gc T.e7) (a5 _)) (au (aB (cf xh (aw K (pv 0) rfl) aF (a5 _)))) aW)
   (aj (bK (bc dX (aw K (pv 0) rfl) (gc T.lJ) (a5 _)) (au (aB (cf dX (aw K (pv 0) rfl) aF (a5 _)))) aW)
   (aj (bK (bc dX (aw K (pv 0) rfl) (gc T.z5) (a5 _)) (au (aB (Pq (cf dX (aw K (pv 0) rfl) aF (a5 _)) (vz (cf dX (aw K (pv 0) rfl) (aw K (pv 0) rfl) (a5 _)))))) aW)
   (aj (bK (bc dX (aw K (pv 0) rfl) (gc T.qW) (a5 _)) (au (aB (cf Kf (aw K (pv 0) rfl) aF (a5 _)))) aW)
   (au (aB oz))))))),?_⟩
 unfold ai.jI at kk
 refine⟨_,rfl,pb,c.part,pbx,_,_,rfl,hpb,O.part.cl,O.part.at_ 0 rfl,rfl,ax (by simp),fun t ht=>⟨t,_,rfl,.inr (.of ak),rfl,rfl,_,rfl,?_⟩⟩
 show if(FN (.int p.kind) [.int 0,.int 1,.int 2])=true then _ else _
 rw[RF]
 have s1:=ay (o:= .tup [.int 0,.int 1,.int 2]) ht
 have h1:=s1 _ _ hpb
 have k1:=kk _ s1
 clear kk
 by_cases h3:p.kind=0\/p.kind=1\/p.kind=2
 ·rw[decide_eq_true h3]
  rw[if_pos h3] at k1
  exact bx ⟨_,rfl,pb,c.part,pbx,_,_,rfl,h1,O.part.cl,O.part.at_ 5 rfl,rfl,_,_,rfl,rfl,k1⟩
 rw[decide_eq_false h3]
 rw[if_neg h3] at k1
 refine bE ⟨_,rfl,pb,c.part,pbx,_,_,rfl,h1,O.part.cl,O.part.at_ 0 rfl,rfl,rfl,_,rfl,?_⟩
 rw[gn]
 by_cases h4:p.kind=10
 ·rw[decide_eq_true h4]
  rw[if_pos h4] at k1
  refine bx ⟨_,rfl,pb,c.part,pbx,_,_,rfl,h1,O.part.cl,O.part.at_ 5 rfl,rfl,rfl,?_⟩
  rw[gn]
  have e:(!decide (p.top=0))=decide (p.top≠0):=by simp
  rw[e]
  exact k1
 rw[decide_eq_false h4]
 rw[if_neg h4] at k1
 refine bE ⟨_,rfl,pb,c.part,pbx,_,_,rfl,h1,O.part.cl,O.part.at_ 0 rfl,rfl,rfl,_,rfl,?_⟩
 rw[gn]
 by_cases h5:p.kind=11
 ·rw[decide_eq_true h5]
  rw[if_pos h5] at k1
  refine bx ⟨_,rfl,pb,c.part,pbx,_,_,rfl,h1,O.part.cl,O.part.at_ 5 rfl,rfl,rfl,?_⟩
  rw[gn]
  exact k1
 rw[decide_eq_false h5]
 rw[if_neg h5] at k1
 refine bE ⟨_,rfl,pb,c.part,pbx,_,_,rfl,h1,O.part.cl,O.part.at_ 0 rfl,rfl,rfl,_,rfl,?_⟩
 rw[gn]
 by_cases h6:p.kind=12
 ·rw[decide_eq_true h6]
  rw[if_pos h6] at k1
  refine bx ⟨_,rfl,pb,c.part,pbx,_,_,rfl,h1,O.part.cl,O.part.at_ 5 rfl,rfl,rfl,_,rfl,?_⟩
  rw[gn]
  by_cases h7:p.top=0
  ·rw[decide_eq_true h7]
   rw[decide_eq_true (Or.inl h7)] at k1
   exact bx k1
  ·rw[decide_eq_false h7]
   refine bE ⟨_,rfl,pb,c.part,pbx,_,_,rfl,h1,O.part.cl,O.part.at_ 5 rfl,rfl,_,rfl,pb,c.part,pbx,_,_,rfl,h1,O.part.cl,O.part.at_ 6 rfl,rfl,rfl,?_⟩
   rw[gn]
   have e:decide (p.top=p.aC)=decide (p.top=0\/p.top=p.aC):=by simp[h7]
   rw[e]
   exact k1
 rw[decide_eq_false h6]
 rw[if_neg h6] at k1
 refine bE ⟨_,rfl,pb,c.part,pbx,_,_,rfl,h1,O.part.cl,O.part.at_ 0 rfl,rfl,rfl,_,rfl,?_⟩
 rw[gn]
 by_cases h8:p.kind=13
 ·rw[decide_eq_true h8]
  rw[if_pos h8] at k1
  exact bx ⟨_,rfl,pb,c.part,pbx,_,_,rfl,h1,O.part.cl,O.part.at_ 5 rfl,rfl,_,_,rfl,rfl,k1⟩
 rw[decide_eq_false h8]
 rw[if_neg h8] at k1
 exact bE k1
abbrev om:Stmt:=top 72
theorem A8:aD ["parts","k","followed"] ["parts","k"] (aq om):=sco rfl rfl rfl rfl (by decide +kernel)
def rG(c:Cs):Sp:=fun vs H Q _=>∃v ps k,vs=[v,.int ((k:Nat):Int)]/\ju c H v ps/\k<ps.length/\0<=(ps.getD k ai.p0).c/\∀H',aJ H H'->Q (.bl (ai.cI ps k)) H'
theorem A9(T:Txt2 mg)(O:cQ K c)(G:d9 K mg "may_follow" om ["parts","k"]):bq P w K mg base "may_follow" ["parts","k"] 1 (rG c):=by
 have sc:=A8
 refine G.fg sc (fun vs H Q E ⟨v,ps,k,e,_⟩=>by rw[e];rfl) fun f cdv A outer s0 H vs Q E hr h=> ?_
 obtain⟨v,ps,k,rfl,⟨pa,ws,rfl,hpa,hps⟩,hk,hc0,kk⟩:=h
 refine⟨_,(aj (bK (bc (I0 K) (aw K (aY (fE K) (pv 0) (pv 1) (fun _ _=>rfl)) rfl) (cP (aa (gc T.fQ) (aa (gc T.fR) ah))) (by with_unfolding_all rfl)) (au (aB oz)) aW)
   (aj (aI (i:=2) sc.nd rfl (by first|left;rfl|right;rfl) (aw K (aY (fE K) (pv 0) (pv 1) (fun _ _=>rfl)) rfl))
   (au (aB (yG (cf DZ (pv 2) (pv 1) (a5 _)) (vz (cf xh (aw K (aY (fE K) (pv 0) (pv 2) (fun _ _=>rfl)) rfl) (gc T.dM) (a5 _)))))))),?_⟩
 obtain⟨x,hx,pb,pbx,rfl,hpb⟩:=hps.gB (az (d:=ai.p0) hk)
 refine⟨_,rfl,_,rfl,pa,_,_,_,rfl,rfl,.of hpa,aS (j:=k) rfl hx,pb,c.part,pbx,_,_,rfl,hpb,O.part.cl,O.part.at_ 0 rfl,rfl,ax (by simp),fun t ht=>⟨t,_,rfl,.inr (.of ak),rfl,rfl,_,rfl,?_⟩⟩
 show if(!FN (.int (ps.getD k ai.p0).kind) [.int 8,.int 9])=true then _ else _
 rw[MT]
 have s1:=ay (o:= .tup [.int 8,.int 9]) ht
 have hpa1:=s1 _ _ hpa
 have hpb1:=s1 _ _ hpb
 have k1:=kk _ s1
 clear kk
 unfold ai.cI at k1
 by_cases h1:(ps.getD k ai.p0).kind=8\/(ps.getD k ai.p0).kind=9
 ·rw[decide_eq_true h1]
  simp only[h1,not_true_eq_false,if_false] at k1
  refine bE ⟨_,rfl,_,rfl,pa,_,_,_,rfl,rfl,.of hpa1,aS (j:=k) rfl hx,pb,c.part,pbx,_,_,rfl,hpb1,O.part.cl,O.part.at_ 3 rfl,rfl,?_⟩
  refine⟨_,rfl,_,rfl,_,_,rfl,rfl,_,rfl,?_⟩
  by_cases h2:(ps.getD k ai.p0).c<(k:Int)
  ·rw[decide_eq_true h2] at k1⊢
   obtain⟨y,hy,pd,pdx,rfl,hpd⟩:=hps.gB (az (d:=ai.p0) (show(ps.getD k ai.p0).c.toNat<ps.length by lia))
   refine bx ⟨_,rfl,_,rfl,pa,_,_,_,rfl,rfl,.of hpa1,aS (j:=(ps.getD k ai.p0).c.toNat) (by lia) hy,pd,c.part,pdx,_,_,rfl,s1 _ _ hpd,O.part.cl,O.part.at_ 0 rfl,rfl,rfl,?_⟩
   rw[gn]
   have e:(!decide ((ps.getD (ps.getD k ai.p0).c.toNat ai.p0).kind=3))=decide (ai.kindAt ps (ps.getD k ai.p0).c≠3):=by
    unfold ai.kindAt
    simp
   rw[e]
   exact k1
  ·rw[decide_eq_false h2] at k1⊢
   exact bE k1
 ·rw[decide_eq_false h1]
  simp only[h1,not_false_eq_true,if_true] at k1
  exact bx k1
abbrev iK:Stmt:=top 74
theorem u6:aD ["parts","place","k"] ["parts","place","k"] (aq iK):=sco rfl rfl rfl rfl (by decide +kernel)
def lQ(c:Cs):Sp:=fun vs H Q _=>∃v ps i k,vs=[v,.int i,.int ((k:Nat):Int)]/\ju c H v ps/\k<=ps.length/\0<=i/\Q (.bl (ai.aX ps i k)) H
theorem u7(T:Txt2 mg)(O:cQ K c)(G:d9 K mg "is_coil_before" iK ["parts","place","k"]):bq P w K mg base "is_coil_before" ["parts","place","k"] 1 (lQ c):=by
 have sc:=u6
 refine G.fg sc (fun vs H Q E ⟨v,ps,i,k,e,_⟩=>by rw[e];rfl) fun f cdv A outer s0 H vs Q E hr h=> ?_
 obtain⟨v,ps,i,k,rfl,⟨pa,ws,rfl,hpa,hps⟩,hk,hi,kk⟩:=h
 refine⟨_,(au (aB (yG (cf DZ (pv 1) (pv 2) (a5 _)) (vz (cf dX (aw K (aY (fE K) (pv 0) (pv 1) (fun _ _=>rfl)) rfl) (gc T.Dv) (a5 _)))))),?_⟩
 unfold ai.aX at kk
 refine⟨_,rfl,_,rfl,_,_,rfl,rfl,_,rfl,?_⟩
 by_cases h2:i<(k:Int)
 ·rw[decide_eq_true h2] at kk⊢
  obtain⟨y,hy,pd,pdx,rfl,hpd⟩:=hps.gB (az (d:=ai.p0) (show i.toNat<ps.length by lia))
  refine bx ⟨_,rfl,_,rfl,pa,_,_,_,rfl,rfl,.of hpa,aS (j:=i.toNat) (by lia) hy,pd,c.part,pdx,_,_,rfl,hpd,O.part.cl,O.part.at_ 0 rfl,rfl,rfl,?_⟩
  rw[gn]
  exact kk
 ·rw[decide_eq_false h2] at kk⊢
  exact bE kk
abbrev ft:Stmt:=top 76
theorem oo:aD ["coupling","one","other","squared"] ["coupling","one","other"] (aq ft):=sco rfl rfl rfl rfl (by decide +kernel)
def g4(c:Cs):Sp:=fun vs H Q _=>∃v1 v2 v3 p1 p2 p3,vs=[v1,v2,v3]/\dJ c H v1 p1/\dJ c H v2 p2/\dJ c H v3 p3/\J4 p1/\J4 p2/\J4 p3/\Q (.bl (ai.tooMuch p1 p2 p3)) H
theorem oq(O:cQ K c)(G:d9 K mg "is_coupled_too_much" ft ["coupling","one","other"]):bq P w K mg base "is_coupled_too_much" ["coupling","one","other"] 1 (g4 c):=by
 have sc:=oo
 refine G.fg sc (fun vs H Q E ⟨v1,v2,v3,p1,p2,p3,e,_⟩=>by rw[e];rfl) fun f cdv A outer s0 H vs Q E hr h=> ?_
 obtain⟨v1,v2,v3,p1,p2,p3,rfl,⟨a1,x1,rfl,h1⟩,⟨a2,x2,rfl,h2⟩,⟨a3,x3,rfl,h3⟩,i1,i2,i3,kk⟩:=h
 refine⟨_,(aj (aI (i:=3) sc.nd rfl (by first|left;rfl|right;rfl) (bu dQ (bu dQ (bu dQ (aw K (pv 0) rfl) (aw K (pv 0) rfl)) (aw K (pv 1) rfl)) (aw K (pv 2) rfl)))
   (au (aB (cf xi (pv 3) (bu dQ (bu dQ (bu dQ (aw K (pv 1) rfl) (aw K (pv 2) rfl)) (aw K (pv 0) rfl)) (aw K (pv 0) rfl)) (a5 _))))),?_⟩
 refine⟨_,rfl,a1,c.part,x1,_,_,rfl,h1,O.part.cl,O.part.at_ 5 rfl,rfl,_,rfl,a1,c.part,x1,_,_,rfl,h1,O.part.cl,O.part.at_ 5 rfl,rfl,_,_,rfl,rfl,i1.zt.mul i1.zt (by decide),?_⟩
 refine⟨_,rfl,a2,c.part,x2,_,_,rfl,h2,O.part.cl,O.part.at_ 6 rfl,rfl,_,_,rfl,rfl,(i1.zt.prod i1.zt).mul i2.zb (by decide),?_⟩
 refine⟨_,rfl,a3,c.part,x3,_,_,rfl,h3,O.part.cl,O.part.at_ 6 rfl,rfl,_,_,rfl,rfl,((i1.zt.prod i1.zt).prod i2.zb).mul i3.zb (by decide),?_⟩
 refine⟨_,rfl,_,rfl,a2,c.part,x2,_,_,rfl,h2,O.part.cl,O.part.at_ 5 rfl,rfl,_,rfl,a3,c.part,x3,_,_,rfl,h3,O.part.cl,O.part.at_ 5 rfl,rfl,_,_,rfl,rfl,i2.zt.mul i3.zt (by decide),?_⟩
 refine⟨_,rfl,a1,c.part,x1,_,_,rfl,h1,O.part.cl,O.part.at_ 6 rfl,rfl,_,_,rfl,rfl,(i2.zt.prod i3.zt).mul i1.zb (by decide),?_⟩
 exact⟨_,rfl,a1,c.part,x1,_,_,rfl,h1,O.part.cl,O.part.at_ 6 rfl,rfl,_,_,rfl,rfl,((i2.zt.prod i3.zt).prod i1.zb).mul i1.zb (by decide),_,_,rfl,rfl,kk⟩
abbrev fY:Stmt:=top 73
theorem u9:aD ["parts","k","one","other","part"] ["parts","k"] (aq fY):=sco rfl rfl rfl rfl (by decide +kernel)
def lS(c:Cs):Sp:=fun vs H Q _=>∃v ps k,vs=[v,.int ((k:Nat):Int)]/\ju c H v ps/\k<ps.length/\ps.length<=1000/\(∀p∈ps,J4 p)/\∀H',aJ H H'->Q (.int (ai.jz ps k)) H'
theorem vc(T:Txt4 mg)(O:cQ K c)(fZ:bq P w K mg base "is_coil_before" ["parts","place","k"] 1 (lQ c))(wM:bq P w K mg base "couples" ["part","one","other"] 1 (Ax c))(fu:bq P w K mg base "is_coupled_too_much" ["coupling","one","other"] 1 (g4 c))(G:d9 K mg "coupling_fault" fY ["parts","k"]):bq P w K mg base "coupling_fault" ["parts","k"] 2 (lS c):=by
 have sc:=u9
 refine G.fg sc (fun vs H Q E ⟨v,ps,k,e,_⟩=>by rw[e];rfl) fun f cdv A outer s0 H vs Q E hr h=> ?_
 obtain⟨v,ps,k,rfl,hpp,hk,hl,pin,kk⟩:=h
 obtain⟨pa,ws,rfl,hpa,hps⟩:=id hpp
 have ll:=hps.length
 refine⟨_,(aj (aI (i:=2) sc.nd rfl (by first|left;rfl|right;rfl) (aw K (aY (fE K) (pv 0) (pv 1) (fun _ _=>rfl)) rfl))
   (aj (aI (i:=3) sc.nd rfl (by first|left;rfl|right;rfl) (aw K (aY (fE K) (pv 0) (pv 1) (fun _ _=>rfl)) rfl))
   (aj (bK (PW.pt (DW (bc dX (pv 2) (pv 3) (a5 _)) (DW (gy (bw K (aA fZ (hr.mono (by decide)) rfl (aa (pv 0) (aa (pv 2) (aa (pv 1) ah)))) (fun _=>rfl))) (Cp (gy (bw K (aA fZ (hr.mono (by decide)) rfl (aa (pv 0) (aa (pv 3) (aa (pv 1) ah)))) (fun _=>rfl))))))) (au (aB (gc T.dH))) aW)
   (aj (bK (bw K (aZ (HD K rfl) rfl T.Ir yN (aa (iW rfl sc.nd (bS (ph (Qm K) (pv 0) Ct (mX (pv 1)))) (bN (own:=[("part",4)]) (by show jo ["parts","k","one","other","part"] (aq fY) _ _=true;decide +kernel)) (fun _ _ _ _ _=>(aM (i:=4) sc.nd rfl (Or.inl rfl))) (fun _ _ _ _ _=>cH) (fun _ _ _ _ _=>(aA wM (hr.mono (by decide)) rfl (aa (pv 4) (aa (pv 2) (aa (pv 3) ah)))))) ah)) (fun _=>rfl)) (au (aB (gc T.dH))) aW)
   (aj (bK (bw K (aA fu (hr.mono (by decide)) rfl (aa (aY (fE K) (pv 0) (pv 1) (fun _ _=>rfl)) (aa (aY (fE K) (pv 0) (pv 2) (fun _ _=>rfl)) (aa (aY (fE K) (pv 0) (pv 3) (fun _ _=>rfl)) ah)))) (fun _=>rfl)) (au (aB (gc T.gY))) aW)
   (au (aB (gc T.kn)))))))),?_⟩
 obtain⟨x,hx,pb,pbx,rfl,hpb⟩:=hps.gB (az (d:=ai.p0) hk)
 have ip:=pin _ (List.mem_of_getElem? (az (d:=ai.p0) hk))
 unfold ai.jz at kk
 generalize hp:ps.getD k ai.p0=p at hpb ip kk
 have iF:∀{A:Prop} {x y:Int},¬A->∀[Decidable A],(if A then x else y)=y:=fun h _=>if_neg h
 refine⟨_,rfl,_,rfl,pa,_,_,_,rfl,rfl,.of hpa,aS (j:=k) rfl hx,pb,c.part,pbx,_,_,rfl,hpb,O.part.cl,O.part.at_ 1 rfl,rfl,?_⟩
 refine⟨_,rfl,_,rfl,pa,_,_,_,rfl,rfl,.of hpa,aS (j:=k) rfl hx,pb,c.part,pbx,_,_,rfl,hpb,O.part.cl,O.part.at_ 2 rfl,rfl,?_⟩
 have bad:(p.a=p.b\/ai.aX ps p.a k=false\/ai.aX ps p.b k=false)->∀H',aJ H H'->Q (.int 3) H':=fun h H' s=>by
  have:=kk H' s
  simp only[h,if_true] at this
  exact this
 refine⟨_,rfl,_,rfl,rfl,_,rfl,?_⟩
 rw[gn]
 by_cases h1:p.a=p.b
 ·rw[decide_eq_true h1]
  exact bx (bx (bad (.inl h1) _ (.refl _)))
 rw[decide_eq_false h1]
 refine bE ⟨_,rfl,_,rfl,_,rfl,_,ps,p.a,k,rfl,hpp,by lia,ip.a0,_,rfl,?_⟩
 cases h2:ai.aX ps p.a k with
 |false=>exact bx (bx (bad (.inr (.inl h2)) _ (.refl _)))
 |true=>
 refine bE ⟨_,rfl,_,rfl,_,rfl,_,ps,p.b,k,rfl,hpp,by lia,ip.b0,_,rfl,?_⟩
 cases h3:ai.aX ps p.b k with
 |false=>exact bx (bad (.inr (.inr h3)) _ (.refl _))
 |true=>
 refine bE ?_
 have nb:¬(p.a=p.b\/ai.aX ps p.a k=false\/ai.aX ps p.b k=false):=by
  rintro(h |h |h)
  ·exact h1 h
  ·rw[h2] at h;cases h
  ·rw[h3] at h;cases h
 have k2:∀H',aJ H H'->Q (.int (if(ps.take k).any (fun q=>ai.fz q p.a p.b)=true then 3 else if ai.tooMuch p (ps.getD p.a.toNat ai.p0) (ps.getD p.b.toNat ai.p0)=true then 2 else 0)) H':=fun H' s=>by
  have:=kk H' s
  rw[if_neg nb] at this
  exact this
 have ca:p.a.toNat<k:=by
  have h:=h2
  unfold ai.aX at h
  have:=(Bool.and_eq_true _ _).mp h
  have:=of_decide_eq_true this.1
  have:=ip.a0
  lia
 have cb:p.b.toNat<k:=by
  have h:=h3
  unfold ai.aX at h
  have:=(Bool.and_eq_true _ _).mp h
  have:=of_decide_eq_true this.1
  have:=ip.b0
  lia
 refine⟨_,rfl,_,rfl,_,rfl,pa,_,rfl,.of hpa,fun sa hsa=> ?_⟩
 rw[OW ws k (by lia)]
 have s1:=ay (o:= .lst (ws.take k)) hsa
 refine⟨sa,rfl,⟨_,.of ak⟩,fun D hD=>ks (bT (.of ak)) hD (fun i _ acc=>acc=(((ps.take k).take i).map fun q=>V.bl (ai.fz q p.a p.b))) rfl ?_ ?_⟩
 ·rintro i x H1 H2 acc hi s2 hD1 hacc s3 s23 hD2 hx
  obtain⟨q,hq,pq⟩:=(hps.Lx k).jd hx
  have la:acc.length<=i:=by
   rw[hacc,lMp,List.length_take];lia
  have li:i<k:=by rw[List.length_take] at hi;lia
  refine⟨rfl,⟨_,rfl,_,rfl,_,rfl,_,q,p.a,p.b,rfl,pq.same (s1.trans s3),fun H3 s4=> ?_⟩⟩
  refine cT hD (s3.trans s4) (s4 _ _ hD2) (aH (by lia)) ?_
  rw[hacc,bh _ _ _ _ hq]
 ·intro H1 acc s2 hD1 hacc
  have s3:=s1.trans s2
  rw[List.take_of_length_le (by rw[List.length_take,List.length_take];lia)] at hacc
  refine⟨D,(ps.take k).map fun q=>ai.fz q p.a p.b,rfl,.of ?_,_,rfl,?_⟩
  ·rw[hD1,hacc,List.map_map];rfl
  rw[List.any_map]
  show if((ps.take k).any fun q=>ai.fz q p.a p.b)=true then _ else _
  cases h5:(ps.take k).any (fun q=>ai.fz q p.a p.b) with
  |true=>
   have:=k2 _ s3
   rw[h5] at this
   exact bx this
  |false=>
   refine bE ?_
   obtain⟨y,hy,py⟩:=hps.gB (az (d:=ai.p0) (show p.a.toNat<ps.length by lia))
   obtain⟨z,hz,pz⟩:=hps.gB (az (d:=ai.p0) (show p.b.toNat<ps.length by lia))
   have hpa3:=s3 _ _ hpa
   refine⟨_,rfl,_,rfl,pa,_,_,_,rfl,rfl,.of hpa3,aS (j:=k) rfl hx,_,rfl,_,rfl,pa,_,_,_,rfl,rfl,.of hpa3,aS (j:=p.a.toNat) (by have:=ip.a0;lia) hy,_,rfl,_,rfl,pa,_,_,_,rfl,rfl,.of hpa3,aS (j:=p.b.toNat) (by have:=ip.b0;lia) hz,_,_,_,p,_,_,rfl,⟨pb,pbx,rfl,s3 _ _ hpb⟩,py.same s3,pz.same s3,ip,pin _ (List.mem_of_getElem? (az (d:=ai.p0) (show p.a.toNat<ps.length by lia))),pin _ (List.mem_of_getElem? (az (d:=ai.p0) (show p.b.toNat<ps.length by lia))),_,rfl,?_⟩
   have k3:=k2 _ s3
   rw[h5] at k3
   rw[if_neg (by simp)] at k3
   cases h6:ai.tooMuch p (ps.getD p.a.toNat ai.p0) (ps.getD p.b.toNat ai.p0) with
   |true=>
    rw[h6] at k3
    exact bx k3
   |false=>
    rw[h6] at k3
    exact bE k3
abbrev ot:Stmt:=top 69
theorem Fw:aD ["network","k","part","node"] ["network","k"] (aq ot):=sco rfl rfl rfl rfl (by decide +kernel)
def xM(c:Cs):Sp:=fun vs H Q _=>∃v n k,vs=[v,.int ((k:Nat):Int)]/\lI c H v n/\k<n.af.length/\n.af.length<=1000/\(∀p∈n.af,J4 p)/\∀H',aJ H H'->Q (.int (ai.eF n k)) H'
theorem Fx(p:ai.Part):(ai.dz p).length<=4:=by
 unfold ai.dz
 split
 ·simp
 ·split <;>simp
theorem Fy(T:Txt4 mg)(O:cQ K c)(sR:bq P w K mg base "nodes_of" ["part"] 1 (xK c))(g5:bq P w K mg base "may_have_number" ["part"] 1 (ko c))(ou:bq P w K mg base "may_follow" ["parts","k"] 1 (rG c))(iL:bq P w K mg base "coupling_fault" ["parts","k"] 2 (lS c))(G:d9 K mg "fault_of" ot ["network","k"]):bq P w K mg base "fault_of" ["network","k"] 3 (xM c):=by
 have sc:=Fw
 refine G.fg sc (fun vs H Q E ⟨v,n,k,e,_⟩=>by rw[e];rfl) fun f cdv A outer s0 H vs Q E hr h=> ?_
 obtain⟨v,n,k,rfl,hn,hk,hl,pin,kk⟩:=h
 obtain⟨na,ndx,nvp,rfl,hna,pa,ws,rfl,hpa,hps⟩:=id hn
 refine⟨_,(aj (aI (i:=2) sc.nd rfl (by first|left;rfl|right;rfl) (aY (fE K) (aw K (pv 0) rfl) (pv 1) (fun _ _=>rfl)))
   (aj (bK (bw K (aZ (HD K rfl) rfl T.Ir yN (aa (iW rfl sc.nd (bS (aA sR (hr.mono (by decide)) rfl (aa (pv 2) ah))) (bN (own:=[("node",3)]) (by show jo ["network","k","part","node"] (aq ot) _ _=true;decide +kernel)) (fun _ _ _ _ _=>(aM (i:=3) sc.nd rfl (Or.inl rfl))) (fun _ _ _ _ _=>cH) (fun _ _ _ _ _=>(cf xi (pv 3) (aw K (pv 0) rfl) (a5 _)))) ah)) (fun _=>rfl)) (au (aB (gc T.oe))) aW)
   (aj (bK (gy (bw K (aA g5 (hr.mono (by decide)) rfl (aa (pv 2) ah)) (fun _=>rfl))) (au (aB (gc T.gY))) aW)
   (aj (bK (gy (bw K (aA ou (hr.mono (by decide)) rfl (aa (aw K (pv 0) rfl) (aa (pv 1) ah))) (fun _=>rfl))) (au (aB (gc T.dH))) aW)
   (aj (bK (bc dX (aw K (pv 2) rfl) (gc T.dM) (a5 _)) (au (aB (aA iL (hr.mono (by decide)) rfl (aa (aw K (pv 0) rfl) (aa (pv 1) ah))))) aW)
   (au (aB (gc T.kn)))))))),?_⟩
 obtain⟨x,hx,px⟩:=hps.gB (az (d:=ai.p0) hk)
 obtain⟨pb,pbx,rfl,hpb⟩:=id px
 have ip:=pin _ (List.mem_of_getElem? (az (d:=ai.p0) hk))
 unfold ai.eF at kk
 have nl:=Fx (n.af.getD k ai.p0)
 refine⟨_,rfl,na,c.aO,ndx,_,_,rfl,hna,O.aO.cl,O.aO.at_ 1 rfl,rfl,_,rfl,pa,_,_,_,rfl,rfl,.of hpa,aS (j:=k) rfl hx,?_⟩
 refine⟨_,rfl,_,_,rfl,px,fun la H1 hla s1 hla1=> ?_⟩
 refine⟨la,rfl,⟨_,.of hla1⟩,fun D hD=>ks (bT (.of hla1)) hD (fun i _ acc=>acc=(((ai.dz (n.af.getD k ai.p0)).take i).map fun q=>V.bl (decide (n.last<q)))) rfl ?_ ?_⟩
 ·rintro i x H2 H3 acc hi s2 hD2 hacc s3 s23 hD3 hx
  obtain⟨q,hq,rfl⟩:=fA hx
  have la:acc.length<=i:=by
   rw[hacc,lMp,List.length_take];lia
  have li:i<4:=by rw[lMp] at hi;lia
  refine⟨rfl,⟨_,rfl,_,rfl,na,c.aO,ndx,_,_,rfl,(s1.trans s3) _ _ hna,O.aO.cl,O.aO.at_ 0 rfl,rfl,_,_,rfl,rfl,?_⟩⟩
  refine cT hD s3 hD3 (aH (by lia)) ?_
  rw[hacc,bh _ _ _ _ hq]
 ·intro H2 acc s2 hD2 hacc
  have s3:=s1.trans s2
  rw[lMp,List.take_length] at hacc
  refine⟨D,(ai.dz (n.af.getD k ai.p0)).map fun q=>decide (n.last<q),rfl,.of ?_,_,rfl,?_⟩
  ·rw[hD2,hacc,List.map_map];rfl
  rw[List.any_map]
  show if((ai.dz (n.af.getD k ai.p0)).any fun q=>decide (n.last<q))=true then _ else _
  by_cases h1:((ai.dz (n.af.getD k ai.p0)).any fun q=>decide (n.last<q))=true
  ·have:=kk _ s3
   rw[if_pos h1] at this
   rw[h1]
   exact bx this
  rw[show((ai.dz (n.af.getD k ai.p0)).any fun q=>decide (n.last<q))=false by simpa using h1]
  simp only[if_neg h1] at kk
  refine bE ⟨_,rfl,_,_,rfl,px.same s3,fun H4 s4=>⟨_,rfl,?_⟩⟩
  have s34:=s3.trans s4
  cases h2:ai.jI (n.af.getD k ai.p0) with
  |false=>
   have:=kk _ s34
   rw[if_pos h2] at this
   exact bx this
  |true=>
  simp only[if_neg (show ¬ai.jI (n.af.getD k ai.p0)=false by rw[h2];simp)] at kk
  refine bE ⟨_,rfl,na,c.aO,ndx,_,_,rfl,s34 _ _ hna,O.aO.cl,O.aO.at_ 1 rfl,rfl,_,rfl,_,n.af,k,rfl,⟨pa,ws,rfl,s34 _ _ hpa,hps.dO fun _ _ z=>z.same s34⟩,hk,ip.c0,fun H5 s5=>⟨_,rfl,?_⟩⟩
  have s35:=s34.trans s5
  cases h3:ai.cI n.af k with
  |false=>
   have:=kk _ s35
   rw[if_pos h3] at this
   exact bx this
  |true=>
  simp only[if_neg (show ¬ai.cI n.af k=false by rw[h3];simp)] at kk
  refine bE ⟨_,rfl,pb,c.part,pbx,_,_,rfl,s35 _ _ hpb,O.part.cl,O.part.at_ 0 rfl,rfl,rfl,_,rfl,?_⟩
  rw[gn]
  by_cases h4:(n.af.getD k ai.p0).kind=3
  ·rw[decide_eq_true h4]
   simp only[if_pos h4] at kk
   exact bx ⟨_,rfl,na,c.aO,ndx,_,_,rfl,s35 _ _ hna,O.aO.cl,O.aO.at_ 1 rfl,rfl,_,rfl,_,n.af,k,rfl,⟨pa,ws,rfl,s35 _ _ hpa,hps.dO fun _ _ z=>z.same s35⟩,hk,hl,pin,fun H6 s6=>kk _ (s35.trans s6)⟩
  ·rw[decide_eq_false h4]
   simp only[if_neg h4] at kk
   exact bE (kk _ s35)
abbrev mC:Stmt:=top 68
theorem Ay:aD ["network","k","fault"] ["network"] (aq mC):=sco rfl rfl rfl rfl (by decide +kernel)
def qA(c:Cs):Sp:=fun vs H Q _=>∃v n,vs=[v]/\lI c H v n/\n.af.length<=1000/\(∀p∈n.af,J4 p)/\nJ H Q (ai.fault n)
theorem Az(T:Txt4 mg)(O:cQ K c)(sS:bq P w K mg base "fault_of" ["network","k"] 3 (xM c))(G:d9 K mg "first_fault" mC ["network"]):bq P w K mg base "first_fault" ["network"] 4 (qA c):=by
 have sc:=Ay
 refine G.fg sc (fun vs H Q E ⟨v,n,e,_⟩=>by rw[e];rfl) fun f cdv A outer s0 H vs Q E hr h=> ?_
 obtain⟨v,n,rfl,hn,hl,pin,kk⟩:=h
 obtain⟨na,ndx,nvp,rfl,hna,pa,ws,rfl,hpa,hps⟩:=id hn
 have ll:=hps.length
 refine⟨_,(aj (c9 PassesOwn.never rfl (jw rfl T.gx (aa (aZ (bo K) rfl T.dE a6 (aa (aw K (pv 0) rfl) ah)) ah)) (aM (i:=1) sc.nd rfl (Or.inl rfl)) (aj (aI (i:=2) sc.nd rfl (by first|left;rfl|right;rfl) (aA sS (hr.mono (by decide)) rfl (aa (pv 0) (aa (pv 1) ah))))
   (au (bK (bc xh (pv 2) (gc T.kn) (a5 _)) (au (aB (aN (aa (pv 1) (aa (pv 2) ah))))) aW))))
   (au (aB (aN ah)))),?_⟩
 refine⟨_,rfl,na,c.aO,ndx,_,_,rfl,hna,O.aO.cl,O.aO.at_ 1 rfl,rfl,pa,_,rfl,.inl (.of hpa),_,rfl,by lia,by lia,?_⟩
 have en:((ws.length:Int)).toNat=n.af.length:=by lia
 rw[en]
 refine gb (iX H _ _) (fun i σ H'=>∃x1 x2,σ=[some (.ref na),x1,x2]/\aJ H H'/\i<=n.af.length/\ai.gu n (n.af.length - i)=ai.fault n) ⟨none,none,rfl,.refl _,Nat.zero_le _,rfl⟩ (fun i σ H' ⟨_,_,_,s,_⟩=>s) ?_ ?_
 ·rintro i x σ H1 H2 hi ⟨x1,x2,rfl,s1,hi2,hf⟩ s2 s12 rfl
  rw[Int.zero_add]
  obtain⟨m,em⟩:∃m,n.af.length - i=m+1:=⟨n.af.length - i - 1,by lia⟩
  have ek:n.af.length - (m+1)=i:=by lia
  have em2:n.af.length - (i+1)=m:=by lia
  rw[em] at hf
  have hf2:(if ai.eF n i≠0 then[(i:Int),ai.eF n i] else ai.gu n m)=ai.fault n:=by
   rw[<-hf]
   show _=if ai.eF n (n.af.length - (m+1))≠0 then[((n.af.length - (m+1):Nat):Int),ai.eF n (n.af.length - (m+1))] else ai.gu n m
   rw[ek]
  refine⟨_,rfl,_,rfl,_,n,i,rfl,hn.same s2,hi,hl,pin,fun H3 s3=> ?_⟩
  refine⟨_,rfl,rfl,_,rfl,?_⟩
  rw[gn]
  by_cases h0:ai.eF n i=0
  ·rw[decide_eq_true h0]
   rw[if_neg (fun h=>h h0)] at hf2
   refine bE ⟨_,_,rfl,s2.trans s3,by lia,?_⟩
   rw[em2]
   exact hf2
  ·rw[decide_eq_false h0]
   rw[if_pos h0] at hf2
   rw[<-hf2] at kk
   exact bx ⟨_,rfl,_,rfl,ax (by simp),fun q hq=>kk q _ ((s2.trans s3).free hq) ((s2.trans s3).trans (ay hq)) ak⟩
 ·rintro σ H1 ⟨x1,x2,rfl,s1,hi2,hf⟩
  rw[Nat.sub_self] at hf
  have:ai.fault n=[]:=hf.symm
  rw[this] at kk
  exact⟨Nat.zero_le _,fun q hq=>kk q _ (s1.free hq) (s1.trans (ay hq)) ak⟩
end
def RH(n:Nat):Bool:=Builtin.Range.small 1 (n:Int) 7&&decide (Builtin.Range.rangeSize 1 (n:Int) 7=(((n - 1+6) / 7:Nat):Int))
theorem LQ:(List.range 200).all (fun n=>RH (n+1))=true:=by decide +kernel
theorem RI{n:Nat}(h1:1<=n)(h2:n<=200):Qi 1 (n:Int) 7 ((n - 1+6) / 7):=by
 have h:=List.all_eq_true.mp LQ (n - 1) (List.mem_range.mpr (by lia))
 have e:n - 1+1=n:=by lia
 rw[e] at h
 obtain⟨a,b⟩:=(Bool.and_eq_true _ _).mp h
 exact⟨by decide,by decide,a,of_decide_eq_true b⟩
theorem RJ(l:List Int)(i:Nat)(h:1+7*i<=l.length):rK (l.map V.int) (some ((1+7*i:Nat):Int)) (some ((1+7*i+7:Nat):Int))=(((l.drop (1+7*i)).take 7).map V.int):=by
 unfold rK
 rw[HT.mW,HT.mW,lMp,Nat.min_eq_left h,List.map_take,List.map_drop]
 by_cases h2:1+7*i+7<=l.length
 ·rw[Nat.min_eq_left h2]
  have e:1+7*i+7 - (1+7*i)=7:=by lia
  rw[e]
 ·rw[Nat.min_eq_right (by lia),List.take_of_length_le (by simp),List.take_of_length_le (by simp;lia)]
theorem QH(l:List Int)(h:l.length=7):rK (l.map V.int) (some 1) (some 5)=(((l.drop 1).take 4).map V.int):=by
 show rK (l.map V.int) (some ((1:Nat):Int)) (some ((5:Nat):Int))=_
 unfold rK
 rw[HT.mW,HT.mW,lMp,h,List.map_take,List.map_drop]
 rfl
theorem g6(l:List Int):(ai.aL l).length=(l.length - 1+6) / 7:=by
 unfold ai.aL
 simp
theorem ve(l:List Int)(i:Nat)(h:i<(l.length - 1+6) / 7):(ai.aL l)[i]? =some ((l.drop (1+7*i)).take 7):=by
 unfold ai.aL
 rw[List.getElem?_map,List.getElem?_range h];rfl
theorem ow(l:List Int)(h:(l.length - 1) % 7=0):∀r∈ai.aL l,r.length=7:=fun r hr=>by
 obtain⟨i,hi,e⟩:=List.getElem_of_mem hr
 rw[g6] at hi
 have q:=ve l i hi
 rw[List.getElem?_eq_getElem (by rw[g6];exact hi),e] at q
 cases q
 rw[List.length_take,List.length_drop]
 lia
theorem MY(z:Int)(m:Nat):decide ((if z<0 then -z else z)<=(m:Int))=decide (z.natAbs<=m):=by
 rw[Bool.eq_iff_iff,decide_eq_true_iff,decide_eq_true_iff]
 split <;>lia
theorem Cd(l:List Int)(h:0<l.length):(l.map V.int)[0]? =some (V.int (l.headD 0)):=by
 cases l with
 |nil=>simp at h
 |cons a l=>rfl
section
variable {P:Program}{w:World}{K:PySem.W.Frag}{mg:Str->Option Value}{base:Heap}{c:Cs}
abbrev lU:Stmt:=top 113
theorem DG:aD ["net","start"] ["net"] (aq lU):=sco rfl rfl rfl rfl (by decide +kernel)
def oy(K:PySem.W.Frag):Sp:=fun vs H Q _=>∃a l,vs=[.ref a]/\hZ K H a (l.map V.int)/\1<=l.length/\l.length<=200/\∀z H',aJ H H'->p9 FF H' z (ai.aL l)->Q z H'
theorem DH(T:Txt4 mg)(G:d9 K mg "part_rows" lU ["net"]):bq P w K mg base "part_rows" ["net"] 1 (oy K):=by
 have sc:=DG
 refine G.fg sc (fun vs H Q E ⟨v,l,e,_⟩=>by rw[e];rfl) fun f cdv A outer s0 H vs Q E hr h=> ?_
 obtain⟨a,l,rfl,ha,l1,l2,kk⟩:=h
 refine⟨_,(au (aB (iW rfl sc.nd (Bx rfl T.gx (aa aF (aa (aZ (bo K) rfl T.dE a6 (aa (pv 0) ah)) (aa (gc T.cS) ah)))) (bN (own:=[("start",1)]) (by show jo ["net","start"] (aq lU) _ _=true;decide +kernel)) (fun _ _ _ _ _=>(aM (i:=1) sc.nd rfl (Or.inl rfl))) (fun _ _ _ _ _=>cH) (fun _ _ _ _ _=>(ph (Qm K) (pv 0) (mX (pv 1)) (mX (bu gO (pv 1) (gc T.cS)))))))),?_⟩
 refine⟨_,rfl,a,_,rfl,.inl ha,_,_,_,_,rfl,?_,fun D hD=>ks (By H 1 7 ((l.length - 1+6) / 7)) hD (fun i H' acc=>Paired (oO (b5 FF D) H') acc ((ai.aL l).take i)) .nil ?_ ?_⟩
 ·rw[lMp]
  exact RI l1 l2
 ·rintro i x H1 H2 acc hi s1 hD1 hacc s2 s12 hD2 rfl
  have lacc:=hacc.length
  rw[List.length_take,g6] at lacc
  have e1:(1:Int)+(i:Nat)*7=((1+7*i:Nat):Int):=by lia
  have e2:(((1+7*i:Nat):Int))+7=((1+7*i+7:Nat):Int):=by lia
  rw[e1]
  refine⟨rfl,⟨_,rfl,_,rfl,_,rfl,_,rfl,_,_,rfl,rfl,_,rfl,a,_,rfl,s2.seq ha,fun q hq=> ?_⟩⟩
  dsimp only[]
  rw[e2,RJ l i (by lia)]
  have s3:=ay (o:= .lst (((l.drop (1+7*i)).take 7).map V.int)) hq
  have nq:¬b5 FF D q:=fun h=>h.elim (fun y=>y) (fun y=>by rw[y,hD2] at hq;cases hq)
  refine cT hD (s2.trans s3) (s3 _ _ hD2) (aH (by lia)) ?_
  rw[List.take_add_one (l:=ai.aL l),ve l i hi]
  exact((hacc.eY cN (s12.trans s3)).qe cN (bU (.inr rfl))).gh (cN.off ⟨q,rfl,nq,ak⟩ (bU (.inr rfl)))
 ·intro H1 acc s1 hD1 hacc
  rw[List.take_of_length_le (by rw[g6];exact Nat.le_refl _)] at hacc
  exact kk _ _ s1 ⟨D,acc,rfl,fun z=>z,hD1,hacc.J3 cN⟩
abbrev iV:Stmt:=top 114
theorem AA:aD ["row","place"] ["row"] (aq iV):=sco rfl rfl rfl rfl (by decide +kernel)
def qB:Sp:=fun vs H Q _=>∃v r,vs=[v]/\bP H v r/\r.length=7/\∀H',aJ H H'->Q (.bl (ai.dY r)) H'
theorem AB(T:Txt4 mg)(G:d9 K mg "is_part_row" iV ["row"]):bq P w K mg base "is_part_row" ["row"] 1 qB:=by
 have sc:=AA
 refine G.fg sc (fun vs H Q E ⟨v,l,e,_⟩=>by rw[e];rfl) fun f cdv A outer s0 H vs Q E hr h=> ?_
 obtain⟨v,r,rfl,⟨a,rfl,ha⟩,hl,kk⟩:=h
 refine⟨_,(aj (bK (gy (D7 oC oC aF (aY (fE K) (pv 0) aF (fun _ _=>rfl)) (gc T.qg))) (au (aB oz)) aW)
   (aj (bK (gy (bw K (aZ (CB K rfl) rfl T.Fd rN (aa (iW rfl sc.nd (bS (ph (Qm K) (pv 0) (mX aF) (mX aF))) (bN (own:=[("place",1)]) (by show jo ["row","place"] (aq iV) _ _=true;decide +kernel)) (fun _ _ _ _ _=>(aM (i:=1) sc.nd rfl (Or.inl rfl))) (fun _ _ _ _ _=>cH) (fun _ _ _ _ _=>(D6 oC oC aF (pv 1) (gc T.oj)))) ah)) (fun _=>rfl))) (au (aB oz)) aW)
   (au (aB (yG (cf oC (aZ yJ rfl T.Fe rO (aa (aY (fE K) (pv 0) aF (fun _ _=>rfl)) ah)) (gc T.sN) (a5 _)) (vz (D6 oC oC aF (aY (fE K) (pv 0) aF (fun _ _=>rfl)) (gc T.mz)))))))),?_⟩
 unfold ai.dY at kk
 refine⟨_,rfl,a,_,_,_,rfl,rfl,.of ha,aS (j:=0) rfl (fF (by lia)),_,_,rfl,rfl,_,rfl,?_⟩
 have bad:¬(0<=r.getD 0 0/\r.getD 0 0<=13)->Q (.bl false) H:=fun h=>by
  have:=kk _ (.refl _)
  rw[if_pos h] at this
  exact this
 by_cases h0:0<=r.getD 0 0
 rotate_left
 ·rw[decide_eq_false h0]
  exact bE ⟨_,rfl,bx (bad fun h=>h0 h.1)⟩
 rw[decide_eq_true h0]
 refine bx ⟨_,_,rfl,rfl,_,rfl,?_⟩
 by_cases h1:r.getD 0 0<=13
 rotate_left
 ·rw[decide_eq_false h1]
  exact bx (bad fun h=>h1 h.2)
 rw[decide_eq_true h1]
 refine bE ?_
 simp only[if_neg (show ¬¬(0<=r.getD 0 0/\r.getD 0 0<=13) from fun h=>h ⟨h0,h1⟩)] at kk
 refine⟨_,rfl,_,rfl,_,rfl,a,_,rfl,.of ha,fun sa hsa=> ?_⟩
 rw[QH r hl]
 have s1:=ay (o:= .lst (((r.drop 1).take 4).map V.int)) hsa
 have l4:((r.drop 1).take 4).length=4:=by simp;lia
 refine⟨sa,rfl,⟨_,.of ak⟩,fun D hD=>ks (bT (.of ak)) hD (fun i _ acc=>acc=((((r.drop 1).take 4).take i).map fun p=>V.bl (decide (0<=p/\p<=63)))) rfl ?_ ?_⟩
 ·rintro i x H1 H2 acc hi s2 hD1 hacc s3 s23 hD2 hx
  obtain⟨q,hq,rfl⟩:=fA hx
  have li:i<4:=by rw[lMp] at hi;lia
  have la:acc.length<=4:=by rw[hacc,lMp,List.length_take];lia
  refine⟨rfl,⟨_,rfl,_,_,rfl,rfl,_,rfl,?_⟩⟩
  by_cases q0:0<=q
  rotate_left
  ·rw[decide_eq_false q0]
   refine bE (cT hD s3 hD2 (aH (by lia)) ?_)
   rw[hacc,bh _ _ _ _ hq,decide_eq_false (fun h=>q0 h.1)]
  ·rw[decide_eq_true q0]
   refine bx ⟨_,_,rfl,rfl,cT hD s3 hD2 (aH (by lia)) ?_⟩
   rw[hacc,bh _ _ _ _ hq]
   have e:decide (0<=q/\q<=63)=decide (q<=63):=by simp[q0]
   rw[e]
 ·intro H1 acc s2 hD1 hacc
  have s3:=s1.trans s2
  rw[lMp,List.take_length] at hacc
  refine⟨D,((r.drop 1).take 4).map fun p=>decide (0<=p/\p<=63),rfl,.of ?_,_,rfl,?_⟩
  ·rw[hD1,hacc,List.map_map];rfl
  rw[List.all_map]
  show if(!((r.drop 1).take 4).all fun p=>decide (0<=p/\p<=63))=true then _ else _
  have k3:=kk _ s3
  by_cases h2:(((r.drop 1).take 4).all fun p=>decide (0<=p/\p<=63))=true
  rotate_left
  ·rw[if_pos h2] at k3
   rw[show(((r.drop 1).take 4).all fun p=>decide (0<=p/\p<=63))=false by simpa using h2]
   exact bx k3
  rw[if_neg (fun h=>h h2)] at k3
  rw[h2]
  have ha3:=s3 _ _ ha
  refine bE ⟨_,rfl,a,_,_,_,rfl,rfl,.of ha3,aS (j:=5) rfl (fF (by lia)),_,rfl,_,_,rfl,rfl,_,rfl,?_⟩
  show if(decide ((if r.getD 5 0<0 then -r.getD 5 0 else r.getD 5 0)<=((1000000:Nat):Int)))=true then _ else _
  rw[MY]
  by_cases h3:(r.getD 5 0).natAbs<=1000000
  rotate_left
  ·rw[decide_eq_false h3] at k3⊢
   exact bE k3
  rw[decide_eq_true h3] at k3⊢
  refine bx ⟨_,rfl,a,_,_,_,rfl,rfl,.of ha3,aS (j:=6) rfl (fF (by lia)),_,_,rfl,rfl,_,rfl,?_⟩
  by_cases h4:1<=r.getD 6 0
  rotate_left
  ·rw[decide_eq_false h4]
   rw[decide_eq_false (show ¬(1<=r.getD 6 0/\r.getD 6 0<=1000000) from fun h=>h4 h.1)] at k3
   exact bE k3
  rw[decide_eq_true h4]
  refine bx ⟨_,_,rfl,rfl,?_⟩
  have e:(true&&decide (1<=r.getD 6 0/\r.getD 6 0<=1000000))=decide (r.getD 6 0<=1000000):=by
   rw[Bool.true_and,Bool.eq_iff_iff,decide_eq_true_iff,decide_eq_true_iff]
   lia
  rw[e] at k3
  exact k3
abbrev d7:Stmt:=top 112
theorem vf:aD ["net","rows","row"] ["net"] (aq d7):=sco rfl rfl rfl rfl (by decide +kernel)
def lV(K:PySem.W.Frag):Sp:=fun vs H Q _=>∃a l,vs=[.ref a]/\hZ K H a (l.map V.int)/\l.length<=200/\∀H',aJ H H'->Q (.bl (ai.jH l)) H'
theorem vg(T:Txt4 mg)(gJ:bq P w K mg base "part_rows" ["net"] 1 (oy K))(mD:bq P w K mg base "is_part_row" ["row"] 1 qB)(G:d9 K mg "is_network_row" d7 ["net"]):bq P w K mg base "is_network_row" ["net"] 2 (lV K):=by
 have sc:=vf
 refine G.fg sc (fun vs H Q E ⟨v,l,e,_⟩=>by rw[e];rfl) fun f cdv A outer s0 H vs Q E hr h=> ?_
 obtain⟨a,l,rfl,ha,l2,kk⟩:=h
 refine⟨_,(aj (bK (PW.pt (DW (bc dX (aZ (bo K) rfl T.dE a6 (aa (pv 0) ah)) aF (a5 _)) (Cp (gy (D7 oC oC aF (aY (fE K) (pv 0) aF (fun _ _=>rfl)) (gc T.og)))))) (au (aB oz)) aW)
   (aj (bK (bc xh (bu Kd (bu jF (aZ (bo K) rfl T.dE a6 (aa (pv 0) ah)) aF) (gc T.cS)) aF (a5 _)) (au (aB oz)) aW)
   (aj (aI (i:=1) sc.nd rfl (by first|left;rfl|right;rfl) (aA gJ (hr.mono (by decide)) rfl (aa (pv 0) ah)))
   (aj (bK (bc xi (aZ (bo K) rfl T.dE a6 (aa (pv 1) ah)) (gc T.oh) (a5 _)) (au (aB oz)) aW)
   (aj (bK (gy (bw K (aZ (CB K rfl) rfl T.Fd rN (aa (iW rfl sc.nd (bS (pv 1)) (bN (own:=[("row",2)]) (by show jo ["net","rows","row"] (aq d7) _ _=true;decide +kernel)) (fun _ _ _ _ _=>(aM (i:=2) sc.nd rfl (Or.inl rfl))) (fun _ _ _ _ _=>cH) (fun _ _ _ _ _=>(aA mD (hr.mono (by decide)) rfl (aa (pv 2) ah)))) ah)) (fun _=>rfl))) (au (aB oz)) aW)
   (au (aB (cf oC (aZ (bo K) rfl T.dE a6 (aa (iW rfl sc.nd (bS (pv 1)) (bN (own:=[("row",2)]) (by show jo ["net","rows","row"] (aq d7) _ _=true;decide +kernel)) (fun _ _ _ _ _=>(aM (i:=2) sc.nd rfl (Or.inl rfl))) (fun _ _ _ _ _=>(Hz (bc dX (aY (fE K) (pv 2) aF (fun _ _=>rfl)) (gc T.qW) (a5 _)))) (fun _ _ _ _ _=>(pv 2))) ah)) (gc T.my) (a5 _))))))))),?_⟩
 unfold ai.jH at kk
 have bad:(l.length=0\/¬(1<=l.headD 0/\l.headD 0<=8))->Q (.bl false) H:=fun h=>by
  have:=kk _ (.refl _)
  rw[if_pos h] at this
  exact this
 refine⟨_,rfl,a,_,rfl,.inl ha,rfl,_,rfl,?_⟩
 rw[gn,lMp]
 by_cases h0:l.length=0
 ·rw[decide_eq_true (show((l.length:Nat):Int)=0 by lia)]
  exact bx (bx (bad (.inl h0)))
 rw[decide_eq_false (show ¬((l.length:Nat):Int)=0 by lia)]
 refine bE ⟨_,rfl,a,_,_,_,rfl,rfl,ha,aS (j:=0) rfl (Cd l (by lia)),_,_,rfl,rfl,_,rfl,?_⟩
 by_cases h1:1<=l.headD 0
 rotate_left
 ·rw[decide_eq_false h1]
  exact bE ⟨_,rfl,bx (bad (.inr fun h=>h1 h.1))⟩
 rw[decide_eq_true h1]
 refine bx ⟨_,_,rfl,rfl,_,rfl,?_⟩
 by_cases h2:l.headD 0<=8
 rotate_left
 ·rw[decide_eq_false h2]
  exact bx (bad (.inr fun h=>h2 h.2))
 rw[decide_eq_true h2]
 refine bE ?_
 simp only[if_neg (show ¬(l.length=0\/¬(1<=l.headD 0/\l.headD 0<=8)) from fun h=>h.elim h0 fun h=>h ⟨h1,h2⟩)] at kk
 refine⟨_,rfl,a,_,rfl,.inl ha,_,_,rfl,rfl,_,_,rfl,rfl,(by show(0:Int)<7;decide),rfl,_,rfl,?_⟩
 rw[gn,lMp]
 by_cases h3:(l.length - 1) % 7=0
 rotate_left
 ·rw[decide_eq_false (show ¬((((l.length:Nat):Int) - 1) % 7=0) by lia)]
  have:=kk _ (.refl _)
  rw[if_pos h3] at this
  exact bx this
 rw[decide_eq_true (show(((l.length:Nat):Int) - 1) % 7=0 by lia)]
 refine bE ?_
 simp only[if_neg (show ¬(l.length - 1) % 7≠0 from fun h=>h h3)] at kk
 refine⟨_,rfl,a,l,rfl,ha,by lia,l2,fun z H1 s1 hz=> ?_⟩
 obtain⟨ra,rv,rfl,_,hra,hrv⟩:=hz
 have lr:=hrv.length
 have l7:=ow l h3
 refine⟨_,rfl,ra,_,rfl,.inl (.of hra),_,_,rfl,rfl,_,rfl,?_⟩
 rw[lr]
 by_cases h4:10<(ai.aL l).length
 ·rw[decide_eq_true (show(((ai.aL l).length:Nat):Int)>10 by lia)]
  have:=kk _ s1
  rw[if_pos h4] at this
  exact bx this
 rw[decide_eq_false (show ¬(((ai.aL l).length:Nat):Int)>10 by lia)]
 refine bE ?_
 simp only[if_neg h4] at kk
 refine⟨_,rfl,ra,rfl,⟨_,.of hra⟩,fun D hD=>ks (bT (.of hra)) hD (fun i _ acc=>acc=(((ai.aL l).take i).map fun r=>V.bl (ai.dY r))) rfl ?_ ?_⟩
 ·rintro i x H2 H3 acc hi s2 hD2 hacc s3 s23 hD3 hx
  obtain⟨r,hr',pr⟩:=hrv.jd hx
  have la:acc.length<=i:=by rw[hacc,lMp,List.length_take];lia
  refine⟨rfl,⟨_,rfl,_,r,rfl,(cN.same pr s3).at_,l7 r (List.mem_of_getElem? hr'),fun H4 s4=> ?_⟩⟩
  refine cT hD (s3.trans s4) (s4 _ _ hD3) (aH (by lia)) ?_
  rw[hacc,bh _ _ _ _ hr']
 ·intro H2 acc s2 hD2 hacc
  have s3:=s1.trans s2
  rw[lr,List.take_length] at hacc
  refine⟨D,(ai.aL l).map ai.dY,rfl,.of ?_,_,rfl,?_⟩
  ·rw[hD2,hacc,List.map_map];rfl
  rw[List.all_map]
  show if(!(ai.aL l).all ai.dY)=true then _ else _
  by_cases h5:(ai.aL l).all ai.dY=true
  rotate_left
  ·rw[show(ai.aL l).all ai.dY=false by simpa using h5]
   have:=kk _ s3
   rw[if_pos h5] at this
   exact bx this
  rw[h5]
  refine bE ?_
  simp only[if_neg (fun h:¬(ai.aL l).all ai.dY=true=>h h5)] at kk
  have hra2:=s2 _ _ hra
  refine⟨_,rfl,ra,rfl,⟨_,.of hra2⟩,fun D2 hDD=>ks (bT (.of hra2)) hDD (fun i _ acc=>acc.length=(((ai.aL l).take i).filter fun r=>decide (r.getD 0 0=13)).length) rfl ?_ ?_⟩
  ·rintro i x H4 H5 acc hi s4 hD4 hacc s5 s45 hD5 hx
   obtain⟨r,hr',xa,rfl,_,hxa⟩:=hrv.jd hx
   have hxa5:=s5 _ _ (s2 _ _ hxa)
   have r7:=l7 r (List.mem_of_getElem? hr')
   have la:acc.length<=i:=by
    rw[hacc]
    refine Nat.le_trans (List.length_filter_le _ _) ?_
    rw[List.length_take];lia
   have et:(ai.aL l).take (i+1)=(ai.aL l).take i ++ [r]:=by
    rw[List.take_add_one,hr'];rfl
   refine⟨rfl,⟨_,rfl,xa,_,_,_,rfl,rfl,.of hxa5,aS (j:=0) rfl (fF (by lia)),rfl,_,rfl,?_⟩⟩
   rw[gn]
   by_cases h13:r.getD 0 0=13
   ·rw[decide_eq_true h13]
    refine bx ⟨_,rfl,cT hDD s5 hD5 (aH (by lia)) ?_⟩
    rw[et,List.filter_append,List.length_append,List.length_append,hacc,List.filter_cons_of_pos (by exact decide_eq_true h13)]
    rfl
   ·rw[decide_eq_false h13]
    refine bE ⟨s5,acc,hD5,?_⟩
    show acc.length=_
    rw[et,List.filter_append,List.length_append,hacc,List.filter_cons_of_neg (by rw[decide_eq_false h13];simp)]
    rfl
  ·intro H4 acc s4 hD4 hacc
   rw[lr,List.take_length] at hacc
   refine⟨D2,_,rfl,.inl (.of hD4),_,_,rfl,rfl,?_⟩
   have k4:=kk _ (s3.trans s4)
   have e:decide (((ai.aL l).filter fun r=>decide (r.getD 0 0=13)).length<=3)=decide (((acc.length:Nat):Int)<=3):=by
    rw[Bool.eq_iff_iff,decide_eq_true_iff,decide_eq_true_iff]
    lia
   rw[e] at k4
   exact k4
abbrev g7:Stmt:=top 115
theorem ye:aD ["net","row"] ["net"] (aq g7):=sco rfl rfl rfl rfl (by decide +kernel)
def jj(K:PySem.W.Frag)(c:Cs):Sp:=fun vs H Q _=>∃a l,vs=[.ref a]/\hZ K H a (l.map V.int)/\1<=l.length/\l.length<=200/\(l.length - 1) % 7=0/\∀z H',aJ H H'->lI c H' z (ai.aU l)->Q z H'
theorem dJ.over{H:Hp}{v:V}{p:ai.Part}{D:Addr}{vs us:List V}(h:dJ c H v p)(hD:H D=some (.lst vs)):dJ c (upd H D (.lst us)) v p:=let ⟨t,dx,e,q⟩:=h;⟨t,dx,e,by rw[aR (DS q hD (by intro z;cases z))];exact q⟩
theorem yf(T:Txt4 mg)(O:cQ K c)(gJ:bq P w K mg base "part_rows" ["net"] 1 (oy K))(G9:G1 P w K mg base "Part" c.part ["self","numbers"] 1 (Fn K c.part))(wN:G1 P w K mg base "Network" c.aO ["self","last_node","parts"] 1 (xH c.aO))(G:d9 K mg "read_network" g7 ["net"]):bq P w K mg base "read_network" ["net"] 3 (jj K c):=by
 have sc:=ye
 refine G.fg sc (fun vs H Q E ⟨v,l,e,_⟩=>by rw[e];rfl) fun f cdv A outer s0 H vs Q E hr h=> ?_
 obtain⟨a,l,rfl,ha,l1,l2,h7,kk⟩:=h
 refine⟨_,(au (aB (rD wN (hr.mono (by decide)) rfl (aa (aY (fE K) (pv 0) aF (fun _ _=>rfl)) (aa (iW rfl sc.nd (bS (aA gJ (hr.mono (by decide)) rfl (aa (pv 0) ah))) (bN (own:=[("row",1)]) (by show jo ["net","row"] (aq g7) _ _=true;decide +kernel)) (fun _ _ _ _ _=>(aM (i:=1) sc.nd rfl (Or.inl rfl))) (fun _ _ _ _ _=>cH) (fun _ _ _ _ _=>(rD G9 (hr.mono (by decide)) rfl (aa (pv 1) ah)))) ah))))),?_⟩
 refine⟨_,rfl,a,_,_,_,rfl,rfl,ha,aS (j:=0) rfl (Cd l (by lia)),?_⟩
 refine⟨_,rfl,a,l,rfl,ha,l1,l2,fun z H1 s1 hz=> ?_⟩
 obtain⟨ra,rv,rfl,_,hra,hrv⟩:=hz
 have lr:=hrv.length
 have l7:=ow l h7
 have ln:=g6 l
 refine⟨ra,rfl,⟨_,.of hra⟩,fun D hD=>ks (bT (.of hra)) hD (fun i H' acc=>Paired (dJ c H') acc (((ai.aL l).take i).map ai.Part.of)) .nil ?_ ?_⟩
 ·rintro i x H2 H3 acc hi s2 hD2 hacc s3 s23 hD3 hx
  obtain⟨r,hr',xa,rfl,_,hxa⟩:=hrv.jd hx
  have la:=hacc.length
  rw[lMp,List.length_take] at la
  refine⟨rfl,⟨_,rfl,fun ox dx nx nd ne=> ?_⟩⟩
  have s4:aJ H3 (upd (upd H3 dx (.own ox)) ox (.ins c.part dx [])):=aJ.made nx nd (fun b o h _=>h)
  refine⟨ox,dx,xa,r,rfl,ak,s4 _ _ (s3 _ _ hxa),l7 r (List.mem_of_getElem? hr'),fun H4 k4 hx4=>⟨rfl,?_⟩⟩
  have s5:aJ H3 H4:=aJ.made nx nd k4
  have hD4:=s5 _ _ hD3
  refine cT hD (s3.trans s5) hD4 (aH (by lia)) ?_
  rw[bh _ _ _ _ hr']
  exact(hacc.dO fun _ _ q=>(q.same (s23.trans s5)).over hD4).gh (dJ.over ⟨ox,dx,rfl,hx4⟩ hD4)
 ·intro H2 acc s2 hD2 hacc
  rw[lr,List.take_length] at hacc
  refine fun ox dx nx nd ne=>⟨ox,dx,_,_,rfl,ak,fun H3 k3 hx3=>⟨rfl,?_⟩⟩
  have s3:aJ H2 H3:=aJ.made nx nd k3
  exact kk _ _ ((s1.trans s2).trans s3) ⟨ox,dx,_,rfl,hx3,D,acc,rfl,s3 _ _ hD2,hacc.dO fun _ _ q=>q.same s3⟩
end
theorem JH{r:List Int}(h:ai.dY r=true)(h7:r.length=7):J4 (ai.Part.of r):=by
 unfold ai.dY at h
 by_cases h0:0<=r.getD 0 0/\r.getD 0 0<=13
 rotate_left
 ·rw[if_pos h0] at h;cases h
 rw[if_neg (fun q=>q h0)] at h
 by_cases h1:((r.drop 1).take 4).all (fun p=>decide (0<=p/\p<=63))=true
 rotate_left
 ·rw[if_pos h1] at h;cases h
 rw[if_neg (fun q=>q h1)] at h
 obtain⟨h2,h3⟩:=(Bool.and_eq_true _ _).mp h
 have h2:=of_decide_eq_true h2
 have h3:=of_decide_eq_true h3
 match r,h7 with
 |[a,b,d,e,f,g,k],_=>
  have q:=List.all_eq_true.mp h1
  have q1:=of_decide_eq_true (q b (by simp))
  have q2:=of_decide_eq_true (q d (by simp))
  have q3:=of_decide_eq_true (q e (by simp))
  have q4:=of_decide_eq_true (q f (by simp))
  exact⟨h0.1,h0.2,q1.1,q2.1,q3.1,q4.1,h2,h3.1,h3.2⟩
structure Sd(l:List Int):Prop where
 len:1<=l.length
 m7:(l.length - 1) % 7=0
 l1:1<=l.headD 0
 l8:l.headD 0<=8
 af:(ai.aU l).af.length<=10
 pin:∀p∈(ai.aU l).af,J4 p
theorem Fz{l:List Int}(h:ai.jH l=true):Sd l:=by
 unfold ai.jH at h
 by_cases h0:l.length=0\/¬(1<=l.headD 0/\l.headD 0<=8)
 ·rw[if_pos h0] at h;cases h
 rw[if_neg h0] at h
 by_cases h1:(l.length - 1) % 7=0
 rotate_left
 ·rw[if_pos h1] at h;cases h
 rw[if_neg (fun q=>q h1)] at h
 by_cases h2:10<(ai.aL l).length
 ·rw[if_pos h2] at h;cases h
 rw[if_neg h2] at h
 by_cases h3:(ai.aL l).all ai.dY=true
 rotate_left
 ·rw[if_pos h3] at h;cases h
 have hh:1<=l.headD 0/\l.headD 0<=8:=Classical.byContradiction fun q=>h0 (.inr q)
 have hl:¬l.length=0:=fun q=>h0 (.inl q)
 refine⟨by lia,h1,hh.1,hh.2,?_,fun p hp=> ?_⟩
 ·show((ai.aL l).map ai.Part.of).length<=10
  rw[lMp];lia
 ·obtain⟨r,hr,rfl⟩:=List.mem_map.mp (show p∈(ai.aL l).map ai.Part.of from hp)
  exact JH (List.all_eq_true.mp h3 r hr) (ow l h1 r hr)
section
variable {P:Program}{w:World}{K:PySem.W.Frag}{mg:Str->Option Value}{base:Heap}{c:Cs}
abbrev iM:Stmt:=top 120
theorem vh:aD ["net","fault"] ["net"] (aq iM):=sco rfl rfl rfl rfl (by decide +kernel)
def lW(K:PySem.W.Frag):Sp:=fun vs H Q _=>∃a l,vs=[.ref a]/\hZ K H a (l.map V.int)/\l.length<=200/\uT H Q (ai.bz l)
theorem vi(T:Txt4 mg)(iN:bq P w K mg base "is_network_row" ["net"] 2 (lV K))(d8:bq P w K mg base "read_network" ["net"] 3 (jj K c))(mE:bq P w K mg base "first_fault" ["network"] 4 (qA c))(G:d9 K mg "refusal_of_net" iM ["net"]):bq P w K mg base "refusal_of_net" ["net"] 5 (lW K):=by
 have sc:=vh
 refine G.fg sc (fun vs H Q E ⟨v,l,e,_⟩=>by rw[e];rfl) fun f cdv A outer s0 H vs Q E hr h=> ?_
 obtain⟨a,l,rfl,ha,l2,kk⟩:=h
 refine⟨_,(aj (bK (gy (bw K (aA iN (hr.mono (by decide)) rfl (aa (pv 0) ah)) (fun _=>rfl))) (au (aB (aN (aa (gN eC aF) ah)))) aW)
   (aj (aI (i:=1) sc.nd rfl (by first|left;rfl|right;rfl) (aA mE (hr.mono (by decide)) rfl (aa (aA d8 (hr.mono (by decide)) rfl (aa (pv 0) ah)) ah)))
   (au (aB (jE (bw K (pv 1) (fun _=>rfl)) (bu mY (aN (aa (gN eC aF) ah)) (pv 1)) (aN ah)))))),?_⟩
 unfold ai.bz at kk
 refine⟨_,rfl,a,l,rfl,ha,l2,fun H1 s1=>⟨_,rfl,?_⟩⟩
 cases hn:ai.jH l with
 |false=>
  rw[if_pos hn] at kk
  exact bx ⟨_,rfl,ax (by simp),fun p hp=>kk _ _ (s1.trans (ay hp)) ⟨p,rfl,ak⟩⟩
 |true=>
  rw[if_neg (by rw[hn];simp)] at kk
  have ni:=Fz hn
  refine bE ⟨_,rfl,a,l,rfl,s1.seq ha,ni.len,l2,ni.m7,fun z H2 s2 hz=> ?_⟩
  refine⟨_,ai.aU l,rfl,hz,by have:=ni.af;lia,ni.pin,fun q H3 hq s3 hq3=> ?_⟩
  have s13:=(s1.trans s2).trans s3
  refine⟨_,rfl,_,Du hq3,?_⟩
  cases hf:ai.fault (ai.aU l) with
  |nil=>
   rw[hf] at kk
   exact bE ⟨Nat.zero_le _,fun p hp=>kk _ _ (s13.trans (ay hp)) ⟨p,rfl,ak⟩⟩
  |cons x xs=>
   rw[hf] at kk hq3
   refine bx ⟨_,rfl,ax (by simp),fun p hp=> ?_⟩
   have s4:=ay (o:= .lst [.int (-2)]) hp
   have lx:xs.length<=1:=by
    have:∀m,(ai.gu (ai.aU l) m).length<=2:=fun m=>by
     induction m with
     |zero=>simp[ai.gu]
     |succ m ih=>
      unfold ai.gu
      dsimp only[]
      split
      ·simp
      ·exact ih
    have:=this (ai.aU l).af.length
    unfold ai.fault at hf
    rw[hf,List.length_cons] at this
    lia
   refine⟨_,rfl,p,q,_,_,rfl,rfl,ak,s4 _ _ hq3,ax (by simp;lia),fun p2 hp2=> ?_⟩
   exact kk _ _ (s13.trans (s4.trans (ay hp2))) ⟨p2,rfl,ak⟩
def LR(c:Cs)(H:Hp)(v:V)(q:ai.Nk):Prop:=∃x dx r t b,v= .ref x/\H x=some (.ins c.ask dx (OQ r t b))/\bP H r q.bz/\bP H t q.top/\bP H b q.aC
structure OX(src what k:Int)(l:List Int):Prop where
 pt:ai.bz l=[]->OT (ai.aU l)
 dr:ai.bz l=[]->ai.gI (ai.aU l) src=true->ai.gi (ai.aU l) what k=true->∀p,ai.point (ai.aU l)=some p->Ft (ai.bI (ai.aU l) p.1 src)/\∃s,ai.sol (ai.rows (ai.bI (ai.aU l) p.1 src))=some s/\sI s/\LN (ai.bI (ai.aU l) p.1 src) s what k
abbrev g8:Stmt:=top 119
theorem sU:aD ["source","what","k","net","refusal","network","point","setting","solution"] ["source","what","k","net"] (aq g8):=sco rfl rfl rfl rfl (by decide +kernel)
def kq(K:PySem.W.Frag)(c:Cs):Sp:=fun vs H Q _=>∃src what k a l,vs=[.int src,.int what,.int k,.ref a]/\hZ K H a (l.map V.int)/\l.length<=200/\0<=src/\0<=k/\OX src what k l/\∀z H',aJ H H'->LR c H' z (ai.bb src what k l)->Q z H'
theorem sV(T:Txt4 mg)(O:cQ K c)(iO:bq P w K mg base "refusal_of_net" ["net"] 5 (lW K))(qZ:G1 P w K mg base "Asked" c.ask ["self","refusal","top","bottom"] 1 (Cb c.ask))(d8:bq P w K mg base "read_network" ["net"] 3 (jj K c))(qC:bq P w K mg base "is_source" ["network","k"] 1 (uW c))(fT:bq P w K mg base "is_linear_quantity" ["network","what","k"] 1 (hX c))(g9:bq P w K mg base "operating_point" ["network"] 8 (km c))(iP:bq P w K mg base "driven_setting" ["network","states","source"] 5 (lN c))(iI:bq P w K mg base "law_rows" ["setting"] 6 (qm c))(mR:bq P w K mg base "solved" ["rows"] 6 (wH c))(kr:bq P w K mg base "quantity_top" ["setting","solution","what","k"] 6 (oJ c))(G:d9 K mg "driven_quantity" g8 ["source","what","k","net"]):bq P w K mg base "driven_quantity" ["source","what","k","net"] 9 (kq K c):=by
 have sc:=sU
 refine G.fg sc (fun vs H Q E ⟨src,what,k,a,l,e,_⟩=>by rw[e];rfl) fun f cdv A outer s0 H vs Q E hr h=> ?_
 obtain⟨src,what,k,a,l,rfl,ha,l2,src0,k0,ok,kk⟩:=h
 refine⟨_,(aj (aI (i:=4) sc.nd rfl (by first|left;rfl|right;rfl) (aA iO (hr.mono (by decide)) rfl (aa (pv 3) ah)))
   (aj (bK (bw K (pv 4) (fun _=>rfl)) (au (aB (rD qZ (hr.mono (by decide)) rfl (aa (pv 4) (aa (aN ah) (aa (aN ah) ah)))))) aW)
   (aj (aI (i:=5) sc.nd rfl (by first|left;rfl|right;rfl) (aA d8 (hr.mono (by decide)) rfl (aa (pv 3) ah)))
   (aj (bK (PW.pt (DW (gy (bw K (aA qC (hr.mono (by decide)) rfl (aa (pv 5) (aa (pv 0) ah))) (fun _=>rfl))) (Cp (gy (bw K (aA fT (hr.mono (by decide)) rfl (aa (pv 5) (aa (pv 1) (aa (pv 2) ah)))) (fun _=>rfl)))))) (au (aB (rD qZ (hr.mono (by decide)) rfl (aa (aN (aa (gN eC aF) ah)) (aa (aN ah) (aa (aN ah) ah)))))) aW)
   (aj (aI (i:=6) sc.nd rfl (by first|left;rfl|right;rfl) (aA g9 (hr.mono (by decide)) rfl (aa (pv 5) ah)))
   (aj (bK (FV (Ka (pv 6))) (au (aB (rD qZ (hr.mono (by decide)) rfl (aa (aN (aa (gN eC aF) ah)) (aa (aN ah) (aa (aN ah) ah)))))) aW)
   (aj (aI (i:=7) sc.nd rfl (by first|left;rfl|right;rfl) (aA iP (hr.mono (by decide)) rfl (aa (pv 5) (aa (aw K (pv 6) rfl) (aa (pv 0) ah)))))
   (aj (aI (i:=8) sc.nd rfl (by first|left;rfl|right;rfl) (aA mR (hr.mono (by decide)) rfl (aa (aA iI (hr.mono (by decide)) rfl (aa (pv 7) ah)) ah)))
   (au (aB (rD qZ (hr.mono (by decide)) rfl (aa (aN ah) (aa (aA kr (hr.mono (by decide)) rfl (aa (pv 7) (aa (pv 8) (aa (pv 1) (aa (pv 2) ah))))) (aa (aw K (pv 8) rfl) ah)))))))))))))),?_⟩
 unfold ai.bb at kk
 refine⟨_,rfl,a,l,rfl,ha,l2,fun z H1 s1 hz=> ?_⟩
 obtain⟨ra,rfl,hra⟩:=hz
 refine⟨_,rfl,_,Du hra,?_⟩
 by_cases h1:ai.bz l=[]
 rotate_left
 ·rw[fN h1]
  rw[if_pos h1] at kk
  refine bx ⟨_,rfl,Nat.zero_le _,fun q1 hq1=>⟨Nat.zero_le _,fun q2 hq2=> ?_⟩⟩
  have s2:=ay (o:= .lst []) hq1
  have s3:=ay (o:= .lst []) hq2
  refine fun ox dx nx nd ne=>⟨ox,dx,_,_,_,rfl,ak,fun H3 k3 hx3=>⟨rfl,?_⟩⟩
  have s4:aJ _ H3:=aJ.made nx nd k3
  exact kk _ _ (s1.trans (s2.trans (s3.trans s4))) ⟨ox,dx,_,_,_,rfl,hx3,⟨ra,rfl,(s2.trans (s3.trans s4)) _ _ hra⟩,⟨q1,rfl,(s3.trans s4) _ _ ak⟩,⟨q2,rfl,s4 _ _ ak⟩⟩
 rw[if_neg (fun h=>h h1)] at kk
 have dP:ai.jH l=true:=by
  cases e:ai.jH l with
  |true=>rfl
  |false=>
   unfold ai.bz at h1
   rw[if_pos e] at h1
   cases h1
 have ni:=Fz dP
 have ptin:=ok.pt h1
 rw[h1] at hra⊢
 refine bE ⟨_,rfl,a,l,rfl,s1.seq ha,ni.len,l2,ni.m7,fun z H2 s2 hz=> ?_⟩
 have s12:=s1.trans s2
 have bad:∀H',aJ H H'->(ai.gI (ai.aU l) src=false\/ai.gi (ai.aU l) what k=false)->∀q1 q2 q3 ox dx,H' q1=some (.lst [.int (-3)])->H' q2=some (.lst [])->H' q3=some (.lst [])->H' ox=some (.ins c.ask dx (OQ (.ref q1) (.ref q2) (.ref q3)))->Q (.ref ox) H':=fun H' s hb q1 q2 q3 ox dx e1 e2 e3 e4=>by
  rw[if_pos hb] at kk
  exact kk _ _ s ⟨ox,dx,_,_,_,rfl,e4,⟨q1,rfl,e1⟩,⟨q2,rfl,e2⟩,⟨q3,rfl,e3⟩⟩
 refine⟨_,rfl,_,rfl,_,_,_,rfl,hz,src0,fun H3 s3=>⟨_,rfl,?_⟩⟩
 cases hsrc:ai.gI (ai.aU l) src with
 |false=>
  refine bx (bx ⟨_,rfl,ax (by simp),fun q1 hq1=>⟨Nat.zero_le _,fun q2 hq2=>⟨Nat.zero_le _,fun q3 hq3=> ?_⟩⟩⟩)
  have s4:=ay (o:= .lst [.int (-3)]) hq1
  have s5:=ay (o:= .lst []) hq2
  have s6:=ay (o:= .lst []) hq3
  refine fun ox dx nx nd ne=>⟨ox,dx,_,_,_,rfl,ak,fun H7 k7 hx7=>⟨rfl,?_⟩⟩
  have s7:aJ _ H7:=aJ.made nx nd k7
  exact bad _ (s12.trans (s3.trans (s4.trans (s5.trans (s6.trans s7))))) (.inl hsrc) q1 q2 q3 ox dx ((s5.trans (s6.trans s7)) _ _ ak) ((s6.trans s7) _ _ ak) (s7 _ _ ak) hx7
 |true=>
 refine bE ⟨_,rfl,_,rfl,_,rfl,_,_,_,_,rfl,hz.same s3,k0,fun H4 s4=>⟨_,rfl,?_⟩⟩
 have s34:=s3.trans s4
 cases hq:ai.gi (ai.aU l) what k with
 |false=>
  refine bx ⟨_,rfl,ax (by simp),fun q1 hq1=>⟨Nat.zero_le _,fun q2 hq2=>⟨Nat.zero_le _,fun q3 hq3=> ?_⟩⟩⟩
  have s4:=ay (o:= .lst [.int (-3)]) hq1
  have s5:=ay (o:= .lst []) hq2
  have s6:=ay (o:= .lst []) hq3
  refine fun ox dx nx nd ne=>⟨ox,dx,_,_,_,rfl,ak,fun H7 k7 hx7=>⟨rfl,?_⟩⟩
  have s7:aJ _ H7:=aJ.made nx nd k7
  exact bad _ (s12.trans (s34.trans (s4.trans (s5.trans (s6.trans s7))))) (.inr hq) q1 q2 q3 ox dx ((s5.trans (s6.trans s7)) _ _ ak) ((s6.trans s7) _ _ ak) (s7 _ _ ak) hx7
 |true=>
 clear bad
 rw[if_neg (by rw[hsrc,hq];simp)] at kk
 have hz4:=hz.same s34
 have s14:=s12.trans s34
 refine bE ⟨_,rfl,_,_,rfl,hz4,ptin,?_⟩
 cases hpt:ai.point (ai.aU l) with
 |none=>
  rw[hpt] at kk
  intro H5 s5
  refine⟨_,rfl,_,rfl,bx ⟨_,rfl,ax (by simp),fun q1 hq1=>⟨Nat.zero_le _,fun q2 hq2=>⟨Nat.zero_le _,fun q3 hq3=> ?_⟩⟩⟩⟩
  have s6:=ay (o:= .lst [.int (-4)]) hq1
  have s7:=ay (o:= .lst []) hq2
  have s8:=ay (o:= .lst []) hq3
  refine fun ox dx nx nd ne=>⟨ox,dx,_,_,_,rfl,ak,fun H9 k9 hx9=>⟨rfl,?_⟩⟩
  have s9:aJ _ H9:=aJ.made nx nd k9
  exact kk _ _ (s14.trans (s5.trans (s6.trans (s7.trans (s8.trans s9))))) ⟨ox,dx,_,_,_,rfl,hx9,⟨q1,rfl,(s7.trans (s8.trans s9)) _ _ ak⟩,⟨q2,rfl,(s8.trans s9) _ _ ak⟩,⟨q3,rfl,s9 _ _ ak⟩⟩
 |some p=>
  rw[hpt] at kk
  obtain⟨si,sl,hsl,shs,qin⟩:=ok.dr h1 hsrc hq p hpt
  intro zp H5 s5 hzp
  obtain⟨xa,xdx,vst,vsl,rfl,hxa,hbls,hsol⟩:=hzp
  refine⟨_,rfl,_,rfl,bE ?_⟩
  refine⟨_,rfl,_,rfl,xa,c.pt,xdx,_,_,rfl,hxa,O.pt.cl,O.pt.at_ 0 rfl,rfl,_,rfl,_,_,_,p.1,src,rfl,hz4.same s5,hbls,by have:=ni.af;lia,fun zg H6 s6 hzg=> ?_⟩
  refine⟨_,rfl,_,_,rfl,hzg,si.RW,si.l0,si.l1,si.RX,si.RY,si.RZ,fun zt H7 s7 hzt=> ?_⟩
  refine⟨_,_,rfl,Iu.less hzt (fun a h=>h.elim),si.len,si.vX,si.run,?_⟩
  have kk2:∀z H',aJ H H'->LR c H' z ⟨[],ai.fh (ai.bI (ai.aU l) p.1 src) sl what k,sl.1⟩->Q z H':=fun z H' s h=>by
   refine kk z H' s ?_
   show LR c H' z (match ai.sol (ai.rows (ai.bI (ai.aU l) p.1 src)) with
    |none=>⟨[],[],[]⟩
    |some s=>⟨[],ai.fh (ai.bI (ai.aU l) p.1 src) s what k,s.1⟩)
   rw[hsl]
   exact h
  rw[hsl]
  intro zs H8 s8 hzs
  obtain⟨ya,ydx,vd,vt,rfl,hya,hvd,_⟩:=id hzs
  refine⟨Nat.zero_le _,fun q1 hq1=> ?_⟩
  have s9:=ay (o:= .lst []) hq1
  refine⟨_,rfl,_,rfl,_,rfl,_,rfl,_,_,_,sl,what,k,rfl,hzs.same s9,shs,hzg.same (s7.trans (s8.trans s9)),qin,fun zq H10 s10 hzq=> ?_⟩
  have s910:=s9.trans s10
  refine⟨_,rfl,ya,c.sol,ydx,_,_,rfl,s910 _ _ hya,O.sol.cl,O.sol.at_ 0 rfl,rfl,?_⟩
  refine fun ox dx nx nd ne=>⟨ox,dx,_,_,_,rfl,ak,fun H11 k11 hx11=>⟨rfl,?_⟩⟩
  have s11:aJ _ H11:=aJ.made nx nd k11
  exact kk2 _ _ (s14.trans (s5.trans (s6.trans (s7.trans (s8.trans (s910.trans s11)))))) ⟨ox,dx,_,_,_,rfl,hx11,⟨q1,rfl,(s10.trans s11) _ _ ak⟩,hzq.same s11,hvd.same (s910.trans s11)⟩
abbrev DI:Stmt:=top 118
theorem LS:aD ["source","what","k","net","asked"] ["source","what","k","net"] (aq DI):=sco rfl rfl rfl rfl (by decide +kernel)
def OY(src what k:Int)(l:List Int):Prop:=(ai.bb src what k l).bz=[]->Short (ai.bb src what k l).top/\Short (ai.bb src what k l).aC/\ai.Trim (ai.bb src what k l).top/\ai.Trim (ai.bb src what k l).aC/\(ai.bb src what k l).aC≠[]/\((ai.bb src what k l).top≠[]->Rr (ai.bb src what k l).top (ai.bb src what k l).aC)/\(ai.lh (ai.bb src what k l).top (ai.bb src what k l).aC).length<=1000000
def qD(K:PySem.W.Frag):Sp:=fun vs H Q _=>∃src what k a l,vs=[.int src,.int what,.int k,.ref a]/\hZ K H a (l.map V.int)/\l.length<=200/\0<=src/\0<=k/\OX src what k l/\OY src what k l/\uT H Q (ai.trans src what k l)
theorem LU(O:cQ K c)(hC:bq P w K mg base "driven_quantity" ["source","what","k","net"] 9 (kq K c))(jk:bq P w K mg base "told_quotient" ["top","bottom"] 43 mO)(G:d9 K mg "trans" DI ["source","what","k","net"]):bq P w K mg base "trans" ["source","what","k","net"] 44 (qD K):=by
 have sc:=LS
 refine G.fg sc (fun vs H Q E ⟨src,what,k,a,l,e,_⟩=>by rw[e];rfl) fun f cdv A outer s0 H vs Q E hr h=> ?_
 obtain⟨src,what,k,a,l,rfl,ha,l2,src0,k0,ok,tr,kk⟩:=h
 refine⟨_,(aj (aI (i:=4) sc.nd rfl (by first|left;rfl|right;rfl) (aA hC (hr.mono (by decide)) rfl (aa (pv 0) (aa (pv 1) (aa (pv 2) (aa (pv 3) ah))))))
   (aj (bK (bw K (aw K (pv 4) rfl) (fun _=>rfl)) (au (aB (aw K (pv 4) rfl))) aW)
   (au (aB (bu mY (aN (aa aF ah)) (aA jk (hr.mono (by decide)) rfl (aa (aw K (pv 4) rfl) (aa (aw K (pv 4) rfl) ah)))))))),?_⟩
 unfold ai.trans at kk
 unfold OY at tr
 refine⟨_,rfl,_,rfl,_,rfl,_,rfl,src,what,k,a,l,rfl,ha,l2,src0,k0,ok,fun z H1 s1 hz=> ?_⟩
 generalize ai.bb src what k l=q at tr kk hz
 obtain⟨x,dx,r,t,b,rfl,hx,⟨ra,rfl,hra⟩,ht,hb⟩:=hz
 refine⟨_,rfl,x,c.ask,dx,_,_,rfl,hx,O.ask.cl,O.ask.at_ 0 rfl,rfl,_,Du hra,?_⟩
 by_cases h1:q.bz=[]
 ·obtain⟨t1,t2,t3,t4,t5,t6,t7⟩:=tr h1
  have e1:(!(q.bz.map V.int).isEmpty)=false:=by rw[h1];rfl
  rw[e1]
  have kk2:uT H Q (0::ai.lh q.top q.aC):=by
   rw[if_neg (fun h=>h h1)] at kk
   exact kk
  refine bE ⟨ax (by simp),fun p hp=> ?_⟩
  have s2:=ay (o:= .lst [.int 0]) hp
  refine⟨_,rfl,x,c.ask,dx,_,_,rfl,s2 _ _ hx,O.ask.cl,O.ask.at_ 1 rfl,rfl,_,rfl,x,c.ask,dx,_,_,rfl,s2 _ _ hx,O.ask.cl,O.ask.at_ 2 rfl,rfl,_,_,q.top,q.aC,rfl,ht.same s2,hb.same s2,t1,t2,t3,t4,t5,t6,fun p3 H3 hp3 s3 hp33=> ?_⟩
  refine⟨p,p3,_,_,rfl,rfl,s3 _ _ ak,hp33,ax (by simp;lia),fun p4 hp4=> ?_⟩
  exact kk2 _ _ (s1.trans (s2.trans (s3.trans (ay hp4)))) ⟨p4,rfl,ak⟩
 ·rw[fN h1]
  have kk2:uT H Q q.bz:=by
   rw[if_pos h1] at kk
   exact kk
  exact bx ⟨_,rfl,x,c.ask,dx,_,_,rfl,hx,O.ask.cl,O.ask.at_ 0 rfl,rfl,kk2 _ _ s1 ⟨ra,rfl,hra⟩⟩
end
theorem sz_of{l:List Int}{b:Nat}(h:ai.dW l<=2^b){x:Int}(hx:x∈l):Sz (b+1) x:=by
 unfold Sz
 have h1:=ai.qT hx
 have h2:2^(b+1)=2^b*2:=Nat.pow_succ 2 b
 have h3:1<=2^b:=Nat.one_le_two_pow
 lia
theorem lc_mem{l:List Int}(h:l≠[]):ai.lc l∈l:=by
 unfold ai.lc
 exact ai.memD (by have:=List.length_pos_iff.mpr h;lia)
theorem log_of{x b:Nat}(h:x<=2^b)(hb:b+1<9000):x.log2<9000:=by
 by_cases h0:x=0
 ·rw[h0]
  decide
 ·rw[Nat.log2_lt h0]
  refine Nat.lt_of_le_of_lt h ?_
  exact Nat.pow_lt_pow_right (by decide) (by lia)
theorem cof0_sz{l:List Int}{b:Nat}(h:ai.dW l<=2^b):Sz (b+1) (ai.bF l):=by
 cases l with
 |nil=>
  unfold Sz
  show 0<2^(b+1)
  exact Nat.two_pow_pos _
 |cons a l=>exact sz_of h List.mem_cons_self
theorem Sz.mono{m n:Nat}{z:Int}(h:Sz m z)(hmn:m<=n):Sz n z:=Nat.lt_of_lt_of_le h (Nat.pow_le_pow_right (by decide) hmn)
theorem eb_mul{l r:List Int}(hl:ai.EB l)(hr:ai.EB r):∀x∈l,∀y∈r,IntMulOk x y:=fun x hx y hy=>(sz_of hl.dW hx).mul (sz_of hr.dW hy) (by decide)
theorem solrun{n:Nat}(hn:n<=28){A:Nat->Nat->ai.PF}(hA:∀i j,i<n->j<n+1->ai.Bd (A i j) 1 (2^246)):∀(f k:Nat) (t:List (List (List Int))) (before:List Int) (σ:Nat->Nat) (ε:ai.PF),f+k=n->ai.O8 n k A t before σ ε->Ap f k t before
 |0,_,_,_,_,_,_,_=>trivial
 |f+1,k,t,before,σ,ε,hf,S=>by
  intro c hc
  have hk:k<n:=by lia
  have tl:=S.tab.len
  obtain⟨c1,c2,c3⟩:=ai.nk t k _ c (by lia) hc
  have hI:∀i j,i<n->j<n+1->ai.gk (A i j):=fun i j hi hj=>by
   obtain⟨l,tl,e,_,_⟩:=(hA i j hi hj).ex
   exact⟨l,tl,e⟩
  refine⟨fun i hi hik j hj hjl=> ?_,?_⟩
  ·have hi2:i<n:=by lia
   have hjn:j<n+1:=by
    have e:(ai.jy t c k).getD i []=t.getD (ai.sw c k i) []:=ai.yw t c k i (by lia) (by lia)
    rw[e,S.tab.row _ (ai.ly (by lia) hk hi2)] at hjl
    exact hjl
   obtain⟨eB,bne,e1,e2,e3,e4,m,tm,em,hm⟩:=ai.Lk hn hA hk S c (by lia) (by lia) c3 hi2 hik hj hjn
   have s:∀l,ai.EB l->l.length<100000:=fun l h=>by have:=h.len;lia
   refine⟨s _ e1,s _ e2,s _ e3,s _ e4,s _ eB,eb_mul e1 e2,eb_mul e3 e4,S.Eu,bne,?_,m,tm,hm,eb_mul em eB⟩
   exact log_of (Nat.le_trans (ai.qT (lc_mem bne)) eB.dW) (by decide)
  ·obtain⟨ε',S'⟩:=ai.Ew hI hk S c (by lia) (by lia) c3
   exact solrun hn hA f (k+1) _ _ _ ε' (by lia) S'
section
variable {n:ai.Nw}(R:ai.Right n){g:ai.gK}(S:ai.Js n g){G:Wh.Setting}(S2:ai.ie n g G)(hst:g.cU.length=n.af.length)(hdr:g.drives.length=n.af.length)
include R S S2 hst hdr
theorem stg_in:Ft g:=by
 have hn:=S.aO
 have un:=ai.Li R
 have p10:=R.af
 have l1:=R.l1
 have l8:=R.l8
 have al:(ai.dD g).length=(ai.ao n).unknowns:=by rw[(ai.qQ R S2).len,ai.eW]
 have tab:=ai.uv R S2
 have gp:∀k,pat g k=n.af.getD k ai.p0:=fun k=>by
  show g.aO.af.getD k ai.p0=_
  rw[hn]
 refine⟨⟨by rw[hn];lia,by rw[hn];exact hst,by rw[hn];exact hdr,S.s⟩,by rw[hn];lia,by rw[hn];lia,?_,?_,?_,?_,?_,?_⟩
 ·intro p hp h3
  rw[hn] at hp⊢
  obtain⟨i,hi,e⟩:=List.getElem_of_mem hp
  have ep:n.af.getD i ai.p0=p:=by rw[gDe,List.getElem?_eq_getElem hi,e];rfl
  have ab:=R.ab hi (by rw[ep];exact h3)
  have cd:=R.cd hi
  have pp:=R.p hi
  rw[ep] at ab cd pp
  exact⟨⟨pp.a0,ab.1⟩,⟨pp.b0,ab.2⟩,fun h10=>⟨⟨pp.c0,(cd (.inr (.inr (.inl h10)))).1⟩,⟨pp.d0,(cd (.inr (.inr (.inl h10)))).2⟩⟩⟩
 ·intro k hk
  rw[hn] at hk
  have pp:=R.p hk
  have fo:=R.Pa hk
  refine⟨?_,?_,?_⟩
  ·rw[gp];exact⟨pp.k0,pp.k1⟩
  ·intro h2
   rw[gp] at h2
   intro x hx
   rw[hn] at hx⊢
   exact ai.zI R h2 hk x hx
  ·intro h8
   rw[gp] at h8
   show 0<=(pat g k).c/\(pat g k).c<(g.aO.af.length:Int)
   rw[gp,hn]
   have:=(fo h8).1
   exact⟨pp.c0,by lia⟩
 ·refine⟨?_,?_,fun ts hts t ht=> ?_,by lia⟩
  ·rw[hn,R.vX];lia
  ·rw[hn,R.vX];lia
  ·obtain⟨h1,h2,h3,_⟩:=(ai.Lh R S ts hts).1.at_ t ht
   rw[hn]
   exact⟨h1,h2,by lia⟩
 ·rw[tab.len];lia
 ·intro i hi
  rw[tab.len] at hi⊢
  exact tab.row i hi
 ·rw[tab.len]
  exact solrun un (fun i j hi hj=>ai.Io R S S2 hi hj) _ 0 _ _ _ 1 (by lia) (ai.BF _ _ tab)
end
theorem op_stgIn{n:ai.Nw}(R:ai.Right n){st:List Bool}(h:st∈ai.bf n.af [[]]):Ft (i8 n st):=by
 obtain⟨r,hr⟩:=ai.Fc h
 exact stg_in R (ai.Nt R st) (ai.GH R hr) hr.1 (lMp ..)
theorem shortS_of{d:List Int}{tops:List (List Int)}{u:Nat}(hl:tops.length=u)(h1:d.length<=29)(h2:∀c,c<u->(tops.getD c []).length<=29):sI (d,tops):=by
 refine⟨by show d.length<_;lia,fun l hl'=> ?_⟩
 obtain⟨i,hi,e⟩:=List.getElem_of_mem hl'
 have:=h2 i (by have:i<tops.length:=hi;lia)
 rw[gDe,List.getElem?_eq_getElem hi] at this
 rw[<-e]
 show(tops[i]).length<_
 have h3:(tops[i]).length<=29:=this
 lia
theorem sol_len{n:ai.Nw}(R:ai.Right n){g:ai.gK}{G:Wh.Setting}(S2:ai.ie n g G){d:List Int}{tops:List (List Int)}(h:ai.sol (ai.rows g)=some (d,tops)):tops.length=(ai.ao n).unknowns:=by
 rcases ai.Gm (ai.uv R S2) with⟨d',tops',e,so⟩ |⟨e,_⟩
 ·rw[h] at e
  cases e
  exact so.len
 ·rw[h] at e
  cases e
theorem pt_in{n:ai.Nw}(R:ai.Right n):OT n:=by
 refine⟨R.af,fun st h=>op_stgIn R h,fun st h s hs k hk h13=> ?_⟩
 obtain⟨r,hr⟩:=ai.Fc h
 obtain⟨d,tops⟩:=s
 have S2:=ai.GH R hr
 obtain⟨⟨b1,b2⟩,b3⟩:=ai.GL R (ai.Nt R st) S2 hs
 have tl:tops.length=(ai.ao n).unknowns:=sol_len R S2 hs
 have pp:=R.p hk
 have k3:(n.af.getD k ai.p0).kind≠3:=by
  have:(n.af.getD k ai.p0).kind=13:=h13
  lia
 have ab:=R.ab hk k3
 have nl:=ai.jO n
 have l1:=R.l1
 have pl:=R.place hk
 have al:=ai.mM R hk k3
 have e:(ai.places (i8 n st).aO).getD k 0=(((ai.ao n).at_ k:Nat):Int):=pl
 have nd:∀v:Int,v<=n.last->ai.dW (ai.cA (d,tops) v)<=2^7028:=fun v hv=>by
  unfold ai.cA
  by_cases h:0<v
  ·rw[if_pos h]
   exact(b3 _ (by lia)).2
  ·rw[if_neg h]
   exact Nat.zero_le _
 refine⟨hk,hr.1,?_,?_,?_,?_,shortS_of tl b1 (fun c hc=>(b3 c hc).1),?_,?_,?_,?_,?_⟩
 ·rw[e];lia
 ·rw[e]
  show _<(tops.length:Int)
  lia
 ·show(n.af.getD k ai.p0).a<=(tops.length:Int)
  have:=ab.1
  lia
 ·show(n.af.getD k ai.p0).b<=(tops.length:Int)
  have:=ab.2
  lia
 ·exact(cof0_sz b2).mono (by decide)
 ·unfold ai.gQ
  rw[e,Int.toNat_natCast]
  exact(cof0_sz (b3 _ al).2).mono (by decide)
 ·unfold ai.gR ai.qJ
  refine(cof0_sz (b:=7029) ?_).mono (by decide)
  unfold ai.pO ai.yU
  refine Nat.le_trans (ai.Df _) (Nat.le_trans (ai.mN _ _) ?_)
  rw[ai.Dh,show(7029:Nat)=7028+1 from rfl,Nat.pow_succ]
  have h1:=nd _ ab.1
  have h2:=nd _ ab.2
  have e2:(i8 n st).aO=n:=rfl
  rw[e2]
  generalize (2:Nat)^7028=X at h1 h2⊢
  lia
 ·exact MX pp.t
 ·refine MX ?_
  have h1:=pp.b1
  have h2:=pp.b2
  show(n.af.getD k ai.p0).aC.natAbs<=_
  lia
theorem qty_in{n:ai.Nw}(R:ai.Right n){st:List Bool}{src:Int}{d:List Int}{tops:List (List Int)}(tl:tops.length=(ai.ao n).unknowns){what k:Int}(k0:0<=k)(hq:ai.gi n what k=true):LN (ai.bI n st src) (d,tops) what k:=by
 have nl:=ai.jO n
 have l1:=R.l1
 unfold ai.gi at hq
 refine⟨fun h0=> ?_,fun h0=> ?_⟩
 ·rw[if_pos h0] at hq
  have:=of_decide_eq_true hq
  show k<=(tops.length:Int)
  lia
 ·rw[if_neg h0] at hq
  by_cases hw:what=1\/what=2
  ·rw[if_pos hw] at hq
   obtain⟨q1,q2⟩:=(Bool.and_eq_true _ _).mp hq
   have q1:=of_decide_eq_true q1
   have q2:=of_decide_eq_true q2
   have hk:k.toNat<n.af.length:=by lia
   unfold ai.kindAt at q2
   have ab:=R.ab hk q2
   have al:=ai.mM R hk q2
   have e:(ai.places (ai.bI n st src).aO).getD k.toNat 0=(((ai.ao n).at_ k.toNat:Nat):Int):=R.place hk
   refine⟨k0,q1,?_,?_,?_,?_⟩
   ·rw[e];lia
   ·rw[e]
    show _<(tops.length:Int)
    lia
   ·show(n.af.getD k.toNat ai.p0).a<=(tops.length:Int)
    have:=ab.1
    lia
   ·show(n.af.getD k.toNat ai.p0).b<=(tops.length:Int)
    have:=ab.2
    lia
  ·rw[if_neg hw] at hq
   cases hq
theorem driven_stgIn{n:ai.Nw}(R:ai.Right n){st:List Bool}{r:List Nat}(hr:ai.oN 0 n.af.length st r){src:Int}(s0:0<=src)(hs:ai.gI n src=true):Ft (ai.bI n st src):=by
 refine stg_in R (ai.v8 st src) (ai.nI R hr s0 hs) hr.1 ?_
 show((List.range n.af.length).map _).length=_
 simp
theorem dq_in{src what k:Int}(s0:0<=src)(k0:0<=k)(l:List Int):OX src what k l:=by
 refine⟨fun hr=>pt_in (ai.right_of hr).1,fun hr h1 h2 p hp=> ?_⟩
 obtain⟨R,_⟩:=ai.right_of hr
 obtain⟨d,tops,r,_,hst,es,D⟩:=ai.Dp hr s0 h1 hp
 have S2:=ai.nI R hst s0 h1
 obtain⟨⟨b1,b2⟩,b3⟩:=ai.GL R (ai.v8 p.1 src) S2 es
 exact⟨driven_stgIn R hst s0 h1,(d,tops),es,shortS_of D.len b1 (fun c hc=>(b3 c hc).1),qty_in R D.len k0 h2⟩
theorem wok_of{b:Nat}(hb:b<=134217728){right:List Int}(hr:right≠[]):∀(f:Nat) (rest:List Int),ai.WM b f rest right->QA f rest right
 |0,_,_=>trivial
 |f+1,rest,h=>by
  rcases h with h |⟨⟨γ,δ,hs,h1,h2⟩,h3⟩
  ·exact .inl h
  ·by_cases q:rest.length<right.length
   ·exact .inl q
   have r0:rest≠[]:=fun z=>q (by rw[z];exact List.length_pos_iff.mpr hr)
   have z1:∀x∈rest,Sz γ x:=fun x hx=>by
    have:=h1.mem hx
    unfold Sz
    have:=Nat.two_pow_pos γ
    lia
   have z2:∀x∈right,Sz δ x:=fun x hx=>by
    have:=h2.mem hx
    unfold Sz
    have:=Nat.two_pow_pos δ
    lia
   refine .inr ⟨fun x hx=>(z2 _ (lc_mem hr)).mul (z1 x hx) (by lia),fun y hy=>(z1 _ (lc_mem r0)).mul (z2 y hy) (by lia),wok_of hb hr f _ h3⟩
theorem cok_of{b:Nat}(hb:b<=134217728):∀(f:Nat) (l s:List Int),ai.CM b f l s->QB f l s
 |0,_,_,_=>trivial
 |f+1,l,s,h=>by
  rcases h with h |⟨h1,h2⟩
  ·exact .inl h
  ·by_cases q:s=[]
   ·exact .inl q
   ·exact .inr ⟨wok_of hb q _ _ h1,cok_of hb f _ _ h2⟩
theorem tok_of{T B:List Int}(h:ai.TB T B):Rr T B:=by
 have mu:∀{l r:List Int},ai.dW l<=2^7200->ai.dW r<=2^7200->∀x∈l,∀y∈r,IntMulOk x y:=fun hl hr x hx y hy=>(sz_of hl hx).mul (sz_of hr hy) (by decide)
 refine⟨cok_of (by decide) _ _ _ h.chain,?_,mu h.a.2 h.g.2,mu h.b.2 h.g.2,log_of h.f (by decide),by have:=h.a.1;lia,by have:=h.b.1;lia,by have:=h.g.1;lia⟩
 by_cases q:ai.lg T B=[]
 ·rw[q]
  decide
 ·exact log_of (Nat.le_trans (ai.qT (lc_mem q)) h.g.2) (by decide)
theorem tr_in{src what k:Int}(s0:0<=src)(w0:0<=what)(k0:0<=k)(l:List Int):OY src what k l:=by
 intro hr0
 rcases ai.ML s0 w0 k0 l with h |⟨p,d,tops,r,hr,h1,h2,hp,hst,es,D,e⟩
 ·exact absurd hr0 h
 obtain⟨R,_⟩:=ai.right_of hr
 have S2:=ai.nI R hst s0 h1
 obtain⟨⟨b1,b2⟩,b3⟩:=ai.GL R (ai.v8 p.1 src) S2 es
 obtain⟨l1,l2⟩:=ai.MK R D
 obtain⟨q,q0,hd,ht⟩:=D.ex
 obtain⟨tT,_⟩:=ai.zR R D ht w0 k0 h2
 obtain⟨c1,c2⟩:=ai.OP R (g:=ai.bI (ai.aU l) p.1 src) rfl (d:=d) D.len (fun c hc=>⟨l2 c hc,(b3 c hc).2⟩) k0 h2
 have big:2*2^7028=2^7029:=by rw[show(7029:Nat)=1+7028 from rfl,Nat.pow_add]
 rw[big] at c2
 have tb:ai.fh (ai.bI (ai.aU l) p.1 src) (d,tops) what k≠[]->ai.TB (ai.fh (ai.bI (ai.aU l) p.1 src) (d,tops) what k) d:=fun h=>ai.MM tT D.xq h D.O9 c1 l1 c2 (Nat.le_trans b2 (Nat.pow_le_pow_right (by decide) (by decide)))
 rw[e]
 have tl:=ai.Jw tb
 refine⟨?_,?_,tT,D.xq,D.O9,fun h=>tok_of (tb h),?_⟩
 ·show(ai.fh (ai.bI (ai.aU l) p.1 src) (d,tops) what k).length<_
  lia
 ·show d.length<_
  lia
 ·show(ai.lh (ai.fh (ai.bI (ai.aU l) p.1 src) (d,tops) what k) d).length<=_
  lia
end DR
namespace L2
open PySem PySem.Spec PyProof.Rows
open PySem.W (WData Codec OpenSpec Well WellAll ReadsW ReadsAllW)
mutual
inductive Dw(K:PySem.W.Frag)(H:Hp):V->WData->Prop
 |gr:Dw K H .gr .none
 |bl (b:Bool):Dw K H (.bl b) (.bool b)
 |int (i:Int):Dw K H (.int i) (.int i)
 |str (x:Str):Dw K H (.str x) (.str x)
 |Cj (b:Array UInt8):Dw K H (.Cj b) (.bytes b.toList)
 |lst {a:Addr} {xs:List V} {ds:List WData}:hZ K H a xs->mS K H xs ds->Dw K H (.ref a) (.list ds)
 |tup {a:Addr} {xs:List V} {ds:List WData}:AL K H a xs->mS K H xs ds->Dw K H (.ref a) (.tuple ds)
inductive mS(K:PySem.W.Frag)(H:Hp):List V->List WData->Prop
 |nil:mS K H [] []
 |cons {v:V} {vs:List V} {d:WData} {ds:List WData}:Dw K H v d->mS K H vs ds->mS K H (v::vs) (d::ds)
end
theorem IB{K:PySem.W.Frag}{H:Hp}:∀ns:List Int,mS K H (ns.map V.int) (ns.map WData.int)
 |[]=> .nil
 |n::r=> .cons (.int n) (IB r)
theorem IC{K:PySem.W.Frag}{H:Hp}:∀(ns:List Int) (xs:List V),mS K H xs (ns.map WData.int)->xs=ns.map V.int
 |[],xs,h=>by
  cases h
  rfl
 |n::r,xs,h=>by
  cases h with
  |cons h1 h2=>
   cases h1
   rw[IC r _ h2] <;>rfl
section
variable {P:Program}{w:World}{K:PySem.W.Frag}{H:Hp}{h:Heap}{R:PySem.W.WRecords}{cl:Str->Option Addr}
theorem OZ{a:Addr}{xs:List V}(dP:tu P w H h)(KX:K.In h)(q:hZ K H a xs):∃(its:List Value) (o:Obj) (n:Nat),Vals xs its/\h.get? a=some o/\o.cls= .type "list"/\o.data= .seq its.toArray n:=by
 rcases q with q |⟨o,its,n,e,hc,_,hd,_,hv⟩
 ·obtain⟨_,its,n,hv,e⟩:=(show gL P w H h a (.lst xs) from q.ok dP)
  exact⟨its,_,n,hv,e,rfl,rfl⟩
 ·exact⟨its.toList,o,n,hv,KX _ _ e,hc,by simp[hd]⟩
theorem O0{a:Addr}{xs:List V}(dP:tu P w H h)(KX:K.In h)(q:AL K H a xs):∃(its:List Value) (o:Obj) (n:Nat),Vals xs its/\h.get? a=some o/\o.cls= .type "tuple"/\o.data= .seq its.toArray n:=by
 rcases q with q |⟨o,its,n,e,hc,hd,_,hv⟩
 ·obtain⟨_,its,hv,o,e,hc,n,hd⟩:=(show gL P w H h a (.tup xs) from q.ok dP)
  exact⟨its,o,n,hv,e,hc,hd⟩
 ·exact⟨its.toList,o,n,hv,KX _ _ e,hc,by simp[hd]⟩
mutual
theorem Dw.reads(dP:tu P w H h)(KX:K.In h):∀(d:WData) (v:V) (u:Value),Dw K H v d->RelV v u->∃as,ReadsW R cl h u d as
 | .none,_,_,x,r=>by
  cases x
  cases r
  exact⟨_,ReadsW.none⟩
 | .bool b,_,_,x,r=>by
  cases x
  cases r
  exact⟨_,ReadsW.bool b⟩
 | .int i,_,_,x,r=>by
  cases x
  obtain⟨t,rfl⟩:=r
  exact⟨_,ReadsW.int i t⟩
 | .str s,_,_,x,r=>by
  cases x
  obtain⟨t,rfl⟩:=r
  exact⟨_,ReadsW.str s t⟩
 | .bytes b,_,_,x,r=>by
  cases x
  obtain⟨t,rfl⟩:=r
  exact⟨_,ReadsW.bytes _ t⟩
 | .list ds,_,_,x,r=>by
  cases x with
  |lst hs ha=>
   cases r
   obtain⟨its,o,n,rv,ho,hc,hd⟩:=OZ dP KX hs
   obtain⟨as,hr⟩:=Dw.readsAll dP KX ds _ its ha rv
   exact⟨_,ReadsW.list ho hc hd hr⟩
 | .tuple ds,_,_,x,r=>by
  cases x with
  |tup hs ha=>
   cases r
   obtain⟨its,o,n,rv,ho,hc,hd⟩:=O0 dP KX hs
   obtain⟨as,hr⟩:=Dw.readsAll dP KX ds _ its ha rv
   exact⟨_,ReadsW.tuple ho hc hd hr⟩
 | .float _,_,_,x,_=>by cases x
 | .dict _,_,_,x,_=>by cases x
 | .bytearray _,_,_,x,_=>by cases x
 | .set _,_,_,x,_=>by cases x
 | .frozenset _,_,_,x,_=>by cases x
 | .obj _ _,_,_,x,_=>by cases x
theorem Dw.readsAll(dP:tu P w H h)(KX:K.In h):∀(ds:List WData) (vs:List V) (us:List Value),mS K H vs ds->Vals vs us->∃as,ReadsAllW R cl h us ds as
 |[],_,_,x,r=>by
  cases x
  cases r
  exact⟨_,ReadsAllW.nil⟩
 |d::ds,_,_,x,r=>by
  cases x with
  |cons h1 h2=>
   cases r with
   |cons r1 r2=>
    obtain⟨as,q1⟩:=Dw.reads dP KX d _ _ h1 r1
    obtain⟨bs,q2⟩:=Dw.readsAll dP KX ds _ _ h2 r2
    exact⟨_,ReadsAllW.cons q1 q2⟩
end
end
mutual
def ID:WData->Bool
 | .none=>true
 | .bool _=>true
 | .int _=>true
 | .str _=>true
 | .bytes _=>true
 | .list xs=>yg xs
 | .tuple xs=>yg xs
 |_=>false
def yg:List WData->Bool
 |[]=>true
 |x::r=>ID x&&yg r
end
theorem FA{α:Type}{f:α->WData}(h:∀a,ID (f a)=true):∀l:List α,yg (l.map f)=true
 |[]=>rfl
 |x::r=>by
  show(ID (f x)&&yg (r.map f))=true
  rw[h x,FA h r] <;>rfl
theorem qE:∀(c:Codec) (a:c.denote),ID (c.enc a)=true
 | .unit,_=>rfl
 | .bool,_=>rfl
 | .int _ _,_=>rfl
 | .nat _ _,_=>rfl
 | .u8,_=>rfl
 | .bytes _ _,_=>rfl
 | .text _ _ _ _,_=>rfl
 | .list _ _ c,a=>FA (fun x=>qE c x) a
 | .pair c d,a=>by
  show(ID (c.enc a.1)&&(ID (d.enc a.2)&&true))=true
  rw[qE c a.1,qE d a.2] <;>rfl
 | .triple c d e,a=>by
  show(ID (c.enc a.1)&&(ID (d.enc a.2.1)&&(ID (e.enc a.2.2)&&true)))=true
  rw[qE c a.1,qE d a.2.1,qE e a.2.2] <;>rfl
 | .option c,none=>rfl
 | .option c,some x=>qE c x
theorem Ce:∀(cs:List Codec) (a:Codec.denoteAll cs),yg (Codec.encAll cs a)=true
 |[],_=>rfl
 |c::cs,a=>by
  show(ID (c.enc a.1)&&yg (Codec.encAll cs a.2))=true
  rw[qE c a.1,Ce cs a.2] <;>rfl
theorem sW:∀{xs:List WData} {d:WData},d∈xs->d.weight<=WData.weightAll xs
 |[],d,h=>absurd h (by simp)
 |x::r,d,h=>by
  show d.weight<=x.weight+1+WData.weightAll r
  rcases List.mem_cons.mp h with e |m
  ·rw[e]
   lia
  ·have z:=sW m
   lia
def toV:Value->V
 | .none=> .gr
 | .bool b=> .bl b
 | .int i _=> .int i
 | .str x _=> .str x
 | .bytes b _=> .Cj b
 | .ref a=> .ref a
 |_=> .gr
def JI(A:List Addr):Value->Prop
 | .none=>True
 | .bool _=>True
 | .int _ _=>True
 | .str _ _=>True
 | .bytes _ _=>True
 | .ref a=>a∈A
 |_=>False
theorem JI.mono{A B:List Addr}(h:∀a∈A,a∈B):∀{u:Value},JI A u->JI B u:=fun{u} x=>by
 cases u with
 |ref a=>exact h a x
 |none=>trivial
 |bool b=>trivial
 |int i t=>trivial
 |str s t=>trivial
 |bytes b t=>trivial
 |_=>exact False.elim x
theorem LV{A:List Addr}{u:Value}(x:JI A u):RelV (toV u) u:=by
 cases u with
 |ref a=>rfl
 |none=>rfl
 |bool b=>rfl
 |int i t=>exact⟨t,rfl⟩
 |str s t=>exact⟨t,rfl⟩
 |bytes b t=>exact⟨t,rfl⟩
 |_=>exact False.elim x
theorem mU{A:List Addr}:∀{vs:List Value},(∀u∈vs,JI A u)->Vals (vs.map toV) vs
 |[],_=> .nil
 |u::r,h=> .cons (LV (h u (List.mem_cons_self ..))) (mU fun x hx=>h x (List.mem_cons_of_mem _ hx))
def oM(h:Heap)(A:List Addr)(a:Addr):Prop:=∃vs:List Value,vs.length<=sizeLine/\(∀u∈vs,JI A u)/\
 (h.get? a=some {cls:= .type "list",data:= .seq vs.toArray}\/h.get? a=some {cls:= .type "tuple",data:= .seq vs.toArray})
theorem oM.mono{h:Heap}{A B:List Addr}{a:Addr}(k:∀a∈A,a∈B)(x:oM h A a):oM h B a:=by
 obtain⟨vs,h1,h2,h3⟩:=x
 exact⟨vs,h1,fun u hu=>(h2 u hu).mono k,h3⟩
theorem lX{P:Params}{h:Heap}:∀{vs:List Value} {ds:List WData},WellAll P h vs ds->vs.length=ds.length
 |_,_,.nil=>rfl
 |_,_,.cons _ b=>by
  show _+ 1=_+ 1
  rw[lX b]
theorem Cf{P:Params}{h:Heap}{v:Value}{ds:List WData}(x:Well P h v (.list ds)):∃(a:Addr) (vs:List Value),v= .ref a/\h.get? a=some {cls:= .type "list",data:= .seq vs.toArray}/\WellAll P h vs ds:=by
 cases x with
 |list ho hall=>exact⟨_,_,rfl,ho,hall⟩
theorem AD{P:Params}{h:Heap}{v:Value}{ds:List WData}(x:Well P h v (.tuple ds)):∃(a:Addr) (vs:List Value),v= .ref a/\h.get? a=some {cls:= .type "tuple",data:= .seq vs.toArray}/\WellAll P h vs ds:=by
 cases x with
 |tuple ho hall=>exact⟨_,_,rfl,ho,hall⟩
theorem Cg{P:Params}{h:Heap}{us:List Value}{d:WData}{ds:List WData}(x:WellAll P h us (d::ds)):∃(v:Value) (vs:List Value),us=v::vs/\Well P h v d/\WellAll P h vs ds:=by
 cases x with
 |cons a b=>exact⟨_,_,rfl,a,b⟩
theorem IE{n:Nat}(h:n<=1048576):n<=sizeLine:=Nat.le_trans h (by decide)
section
variable {P:Params}{h:Heap}
mutual
theorem LW:∀(d:WData) (v:Value),Well P h v d->ID d=true->d.weight<=1048576->∃A:List Addr,JI A v/\∀a∈A,oM h A a
 | .none,_,x,_,_=>by
  cases x
  exact⟨[],trivial,fun a m=>absurd m (by simp)⟩
 | .bool b,_,x,_,_=>by
  cases x
  exact⟨[],trivial,fun a m=>absurd m (by simp)⟩
 | .int i,_,x,_,_=>by
  cases x
  exact⟨[],trivial,fun a m=>absurd m (by simp)⟩
 | .str s,_,x,_,_=>by
  cases x
  exact⟨[],trivial,fun a m=>absurd m (by simp)⟩
 | .bytes b,_,x,_,_=>by
  cases x
  exact⟨[],trivial,fun a m=>absurd m (by simp)⟩
 | .list ds,_,x,p,z=>by
  obtain⟨a,vs,rfl,ho,hall⟩:=Cf x
  have z2:WData.weightAll ds<=1048576:=z
  obtain⟨A,h1,h2⟩:=vj ds _ hall p fun d hd=>Nat.le_trans (sW hd) z2
  have k:∀b∈A,b∈a::A:=fun b hb=>List.mem_cons_of_mem _ hb
  refine⟨a::A,List.mem_cons_self ..,fun b hb=> ?_⟩
  rcases List.mem_cons.mp hb with e |m
  ·rw[e]
   exact⟨vs,IE (by rw[lX hall];exact Nat.le_trans (PySem.W.length_le_weightAllW ds) z2),fun u hu=>(h1 u hu).mono k,.inl ho⟩
  ·exact(h2 b m).mono k
 | .tuple ds,_,x,p,z=>by
  obtain⟨a,vs,rfl,ho,hall⟩:=AD x
  have z2:WData.weightAll ds<=1048576:=z
  obtain⟨A,h1,h2⟩:=vj ds _ hall p fun d hd=>Nat.le_trans (sW hd) z2
  have k:∀b∈A,b∈a::A:=fun b hb=>List.mem_cons_of_mem _ hb
  refine⟨a::A,List.mem_cons_self ..,fun b hb=> ?_⟩
  rcases List.mem_cons.mp hb with e |m
  ·rw[e]
   exact⟨vs,IE (by rw[lX hall];exact Nat.le_trans (PySem.W.length_le_weightAllW ds) z2),fun u hu=>(h1 u hu).mono k,.inr ho⟩
  ·exact(h2 b m).mono k
 | .float _,_,_,p,_=>Bool.noConfusion (show false=true from p)
 | .dict _,_,_,p,_=>Bool.noConfusion (show false=true from p)
 | .bytearray _,_,_,p,_=>Bool.noConfusion (show false=true from p)
 | .set _,_,_,p,_=>Bool.noConfusion (show false=true from p)
 | .frozenset _,_,_,p,_=>Bool.noConfusion (show false=true from p)
 | .obj _ _,_,_,p,_=>Bool.noConfusion (show false=true from p)
theorem vj:∀(ds:List WData) (vs:List Value),WellAll P h vs ds->yg ds=true->(∀d∈ds,d.weight<=1048576)->∃A:List Addr,(∀u∈vs,JI A u)/\∀a∈A,oM h A a
 |[],_,x,_,_=>by
  cases x
  exact⟨[],fun u m=>absurd m (by simp),fun a m=>absurd m (by simp)⟩
 |d::ds,_,x,p,z=>by
  obtain⟨v,vs,rfl,x1,x2⟩:=Cg x
  have q:ID d=true/\yg ds=true:=Bool.and_eq_true_iff.mp p
  obtain⟨A,a1,a2⟩:=LW d v x1 q.1 (z d (List.mem_cons_self ..))
  obtain⟨B,b1,b2⟩:=vj ds vs x2 q.2 fun e he=>z e (List.mem_cons_of_mem _ he)
  have kA:∀b∈A,b∈A ++ B:=fun b hb=>List.mem_append.mpr (.inl hb)
  have kB:∀b∈B,b∈A ++ B:=fun b hb=>List.mem_append.mpr (.inr hb)
  refine⟨A ++ B,fun u hu=> ?_,fun b hb=> ?_⟩
  ·rcases List.mem_cons.mp hu with e |m
   ·rw[e]
    exact a1.mono kA
   ·exact(b1 u m).mono kB
  ·rcases List.mem_append.mp hb with m |m
   ·exact(a2 b m).mono kA
   ·exact(b2 b m).mono kB
end
end
def MZ(o:Obj):Option HO:=match o.data with
 | .seq vs _=>if(o.cls==Value.type "list")=true then some (.Ck o (.lst (vs.toList.map toV))) else some (.Ck o (.tup (vs.toList.map toV)))
 |_=>none
def mF(K:PySem.W.Frag)(h:Heap)(A:List Addr):Hp:=fun b=>if b∈A then(if(K.lookup b).isNone=true then(h.get? b).bind MZ else none) else none
def FC(H:Hp):Prop:=∀b,H b=none\/∃o u,H b=some (.Ck o u)
theorem FD(vs:List Value):MZ {cls:= .type "list",data:= .seq vs.toArray}=some (.Ck {cls:= .type "list",data:= .seq vs.toArray} (.lst (vs.map toV))):=by
 show(if(Value.type "list"==Value.type "list")=true then some (HO.Ck {cls:= .type "list",data:= .seq vs.toArray} (.lst (vs.toArray.toList.map toV))) else some (HO.Ck {cls:= .type "list",data:= .seq vs.toArray} (.tup (vs.toArray.toList.map toV))))=_
 rw[if_pos (beq_self_eq_true _)]
theorem FE(vs:List Value):MZ {cls:= .type "tuple",data:= .seq vs.toArray}=some (.Ck {cls:= .type "tuple",data:= .seq vs.toArray} (.tup (vs.map toV))):=by
 show(if(Value.type "tuple"==Value.type "list")=true then some (HO.Ck {cls:= .type "tuple",data:= .seq vs.toArray} (.lst (vs.toArray.toList.map toV))) else some (HO.Ck {cls:= .type "tuple",data:= .seq vs.toArray} (.tup (vs.toArray.toList.map toV))))=_
 rw[if_neg (by decide)]
section
variable {P:Program}{w:World}{K:PySem.W.Frag}{h:Heap}{A:List Addr}
theorem yC{b:Addr}{o:Obj}(hb:b∈A)(hk:K.lookup b=none)(e:h.get? b=some o):mF K h A b=MZ o:=by
 unfold mF
 rw[if_pos hb,hk,if_pos (show(none:Option Obj).isNone=true from rfl),e] <;>rfl
theorem M0{b:Addr}{u:HO}(q:mF K h A b=some u):b∈A/\K.lookup b=none:=by
 unfold mF at q
 by_cases hb:b∈A
 ·rw[if_pos hb] at q
  cases hk:K.lookup b with
  |none=>exact⟨hb,rfl⟩
  |some o=>
   rw[hk,if_neg (by simp)] at q
   cases q
 ·rw[if_neg hb] at q
  cases q
theorem vk(ar:∀a∈A,oM h A a){b:Addr}{u:HO}(q:mF K h A b=some u):K.lookup b=none/\∃vs:List Value,vs.length<=sizeLine/\(∀u∈vs,JI A u)/\
  ((h.get? b=some {cls:= .type "list",data:= .seq vs.toArray}/\u= .Ck {cls:= .type "list",data:= .seq vs.toArray} (.lst (vs.map toV)))\/
   (h.get? b=some {cls:= .type "tuple",data:= .seq vs.toArray}/\u= .Ck {cls:= .type "tuple",data:= .seq vs.toArray} (.tup (vs.map toV)))):=by
 obtain⟨hb,hk⟩:=M0 q
 obtain⟨vs,h1,h2,h3⟩:=ar b hb
 refine⟨hk,vs,h1,h2,?_⟩
 rcases h3 with e |e
 ·rw[yC hb hk e,FD] at q
  exact .inl ⟨e,(Option.some.inj q).symm⟩
 ·rw[yC hb hk e,FE] at q
  exact .inr ⟨e,(Option.some.inj q).symm⟩
theorem JJ(ar:∀a∈A,oM h A a):FC (mF K h A):=fun b=>by
 cases q:mF K h A b with
 |none=>exact .inl rfl
 |some u=>
  obtain⟨_,vs,_,_,⟨_,e⟩ |⟨_,e⟩⟩:=vk ar q
  ·exact .inr ⟨_,_,by rw[e]⟩
  ·exact .inr ⟨_,_,by rw[e]⟩
theorem M1(ar:∀a∈A,oM h A a):tu P w (mF K h A) h:=fun b u q=>by
 obtain⟨_,vs,h1,h2,⟨e,rfl⟩ |⟨e,rfl⟩⟩:=vk ar q
 ·exact⟨e,by rw[lMp];exact h1,vs,_,mU h2,e⟩
 ·exact⟨e,by rw[lMp];exact h1,vs,mU h2,_,e,rfl,_,rfl⟩
theorem yD{c c':Value}{vs us:List Value}(e:(some {cls:=c,data:= .seq vs.toArray}:Option Obj)=some {cls:=c',data:= .seq us.toArray}):c=c'/\vs=us:=by
 have e1:=Option.some.inj e
 have e2:c=c':=congrArg Obj.cls e1
 have e3:Data.seq vs.toArray=Data.seq us.toArray:=congrArg Obj.data e1
 injection e3 with e4
 refine⟨e2,?_⟩
 have e5:=congrArg Array.toList e4
 simpa using e5
theorem RK(KX:K.In h)(ar:∀a∈A,oM h A a){a:Addr}{vs:List Value}(ha:a∈A)(e:h.get? a=some {cls:= .type "list",data:= .seq vs.toArray}):(∀u∈vs,JI A u)/\hZ K (mF K h A) a (vs.map toV):=by
 obtain⟨us,h1,h2,h3⟩:=ar a ha
 have hu:us=vs:=by
  rcases h3 with q |q
  ·rw[e] at q
   exact(yD q).2.symm
  ·rw[e] at q
   exact absurd (Value.type.inj (yD q).1) (by decide)
 subst hu
 refine⟨h2,?_⟩
 cases hk:K.lookup a with
 |none=>exact .inl (.inr ⟨_,by rw[yC ha hk e,FD]⟩)
 |some o=>
  have e2:=KX a o hk
  rw[e] at e2
  obtain rfl:=Option.some.inj e2
  exact .inr ⟨_,us.toArray,_,hk,rfl,rfl,rfl,by rw[List.size_toArray];exact h1,by simpa using mU h2⟩
theorem RL(KX:K.In h)(ar:∀a∈A,oM h A a){a:Addr}{vs:List Value}(ha:a∈A)(e:h.get? a=some {cls:= .type "tuple",data:= .seq vs.toArray}):(∀u∈vs,JI A u)/\AL K (mF K h A) a (vs.map toV):=by
 obtain⟨us,h1,h2,h3⟩:=ar a ha
 have hu:us=vs:=by
  rcases h3 with q |q
  ·rw[e] at q
   exact absurd (Value.type.inj (yD q).1) (by decide)
  ·rw[e] at q
   exact(yD q).2.symm
 subst hu
 refine⟨h2,?_⟩
 cases hk:K.lookup a with
 |none=>exact .inl (.inr ⟨_,by rw[yC ha hk e,FE]⟩)
 |some o=>
  have e2:=KX a o hk
  rw[e] at e2
  obtain rfl:=Option.some.inj e2
  exact .inr ⟨_,us.toArray,_,hk,rfl,rfl,by rw[List.size_toArray];exact h1,by simpa using mU h2⟩
mutual
theorem O1{Pm:Params}(KX:K.In h)(ar:∀a∈A,oM h A a):∀(d:WData) (v:Value),Well Pm h v d->ID d=true->JI A v->Dw K (mF K h A) (toV v) d
 | .none,_,x,_,_=>by
  cases x
  exact .gr
 | .bool b,_,x,_,_=>by
  cases x
  exact .bl b
 | .int i,_,x,_,_=>by
  cases x
  exact .int i
 | .str s,_,x,_,_=>by
  cases x
  exact .str s
 | .bytes b,_,x,_,_=>by
  cases x
  have z:=Dw.Cj (K:=K) (H:=mF K h A) b.toArray
  exact z
 | .list ds,_,x,p,hu=>by
  obtain⟨a,vs,rfl,ho,hall⟩:=Cf x
  obtain⟨h2,hs⟩:=RK KX ar hu ho
  exact .lst hs (DJ KX ar ds _ hall p h2)
 | .tuple ds,_,x,p,hu=>by
  obtain⟨a,vs,rfl,ho,hall⟩:=AD x
  obtain⟨h2,hs⟩:=RL KX ar hu ho
  exact .tup hs (DJ KX ar ds _ hall p h2)
 | .float _,_,_,p,_=>Bool.noConfusion (show false=true from p)
 | .dict _,_,_,p,_=>Bool.noConfusion (show false=true from p)
 | .bytearray _,_,_,p,_=>Bool.noConfusion (show false=true from p)
 | .set _,_,_,p,_=>Bool.noConfusion (show false=true from p)
 | .frozenset _,_,_,p,_=>Bool.noConfusion (show false=true from p)
 | .obj _ _,_,_,p,_=>Bool.noConfusion (show false=true from p)
theorem DJ{Pm:Params}(KX:K.In h)(ar:∀a∈A,oM h A a):∀(ds:List WData) (vs:List Value),WellAll Pm h vs ds->yg ds=true->(∀u∈vs,JI A u)->mS K (mF K h A) (vs.map toV) ds
 |[],_,x,_,_=>by
  cases x
  exact .nil
 |d::ds,_,x,p,hu=>by
  obtain⟨v,vs,rfl,x1,x2⟩:=Cg x
  have q:ID d=true/\yg ds=true:=Bool.and_eq_true_iff.mp p
  exact .cons (O1 KX ar d v x1 q.1 (hu _ (List.mem_cons_self ..))) (DJ KX ar ds vs x2 q.2 fun u m=>hu u (List.mem_cons_of_mem _ m))
end
end
theorem JK{P:Program}{w:World}{K:PySem.W.Frag}{mg mb:Str->Option Value}{CX:J1}{k:Nat}{fa:Addr}{ps:List Str}{sp:Sp}{s₁:Shared}{vals:List Value}{ds:List WData}{R:PySem.W.WRecords}{cl:Str->Option Addr}{d0:WData}
  (KX:K.In s₁.heap) (hns:s₁.heap.Ns mainGlobals mg) (hb:s₁.heap.Ns builtinsNs mb) (hbb:∀x:Str,x≠"__name__"->mb x=bootBuiltins x) (hlim:s₁.heap.NoLimit) (hg:s₁.gens= #[])
  (hwl:WellAll w.params s₁.heap vals ds) (hpl:yg ds=true) (hwt:∀d∈ds,d.weight<=1048576) (hr:hJ k callerA) (hsee:s₁.heap.NoSeer)
  (F:∀base:Heap,K.In base->base.Ns mainGlobals mg->base.NoSeer->∃fd:FuncData,Binds K fd ps []/\lY P w K mg base CX k fa fd ps sp) (hlen:ds.length=ps.length)
  (hsp:∀(H:Hp) (xs:List V),FC H->mS K H xs ds->sp xs H (fun v H'=>Dw K H' v d0) fun _ _ _=>False)
  (hCX:∀H e s',CX [] H s₁ (fun _ _ _=>False) e s'->False):
  codeAny (model P w) callerA (.call (.ref fa) ⟨vals,[]⟩) (fun r s'=>∃u as,r= .ok (.ret u)/\ReadsW R cl s'.heap u d0 as/\OldK s₁.heap s'.heap/\s'.os=s₁.os/\AllBare s'.gens) s₁:=by
 obtain⟨A,ho,ar⟩:=vj ds vals hwl hpl hwt
 have hO:FC (mF K s₁.heap A):=JJ ar
 have dP:tu P w (mF K s₁.heap A) s₁.heap:=M1 ar
 have hS:=DJ KX ar ds vals hwl hpl ho
 have hV:=mU ho
 have hK:∀b u,mF K s₁.heap A b=some u->K.lookup b=none:=fun b u q=>(vk ar q).1
 have noA:∀{b:Addr} {o:Obj} {es:Array DictEntry} {ep:Nat},s₁.heap.get? b=some o->o.data= .dict es ep->mF K s₁.heap A b=none:=fun{b o es ep} e d=>by
  cases q:mF K s₁.heap A b with
  |none=>rfl
  |some u=>
   obtain⟨_,vs,_,_,⟨e2,_⟩ |⟨e2,_⟩⟩:=vk ar q
   ·rw[e2] at e
    cases e
    have d':Data.seq vs.toArray _=Data.dict es ep:=d
    cases d'
   ·rw[e2] at e
    cases e
    have d':Data.seq vs.toArray _=Data.dict es ep:=d
    cases d'
 have noM:∀{b:Addr} {o:Obj},s₁.heap.get? b=some o->o.cls= .type "module"->mF K s₁.heap A b=none:=fun{b o} e d=>by
  cases q:mF K s₁.heap A b with
  |none=>rfl
  |some u=>
   obtain⟨_,vs,_,_,⟨e2,_⟩ |⟨e2,_⟩⟩:=vk ar q
   ·rw[e2] at e
    cases e
    exact absurd (Value.type.inj d) (by decide)
   ·rw[e2] at e
    cases e
    exact absurd (Value.type.inj d) (by decide)
 generalize mF K s₁.heap A=H at hO dP hS hK noA noM
 have base_of:∀{b:Addr} {o:Obj},s₁.heap.get? b=some o->H b=none->(AN s₁.heap H).get? b=some o:=fun e n=>J5 e n
 have nsK:∀{b:Addr} {m:Str->Option Value},s₁.heap.Ns b m->(AN s₁.heap H).Ns b m:=fun{b m} ⟨o,es,ep,e,d,r⟩=>⟨o,es,ep,base_of e (noA e d),d,r⟩
 have nK:∀b o,K.lookup b=some o->H b=none:=fun b o e=>by
  cases q:H b with
  |none=>rfl
  |some u=>
   rw[hK b u q] at e
   cases e
 have hKb:K.In (AN s₁.heap H):=fun b o e=>base_of (KX b o e) (nK b o e)
 have hM:Mod K mg (AN s₁.heap H):=⟨hKb,nsK hns,⟨mb,nsK hb,hbb⟩,let ⟨mc,h1,h2⟩:=hlim;⟨mc,nsK h1,h2⟩⟩
 have e0:F7 P w K mg (AN s₁.heap H) callerA [] s₁ H:=⟨rfl,hM,fun b o e=>L3 e,Nat.le_of_eq (IF _ _),trivial,fun b hb=>absurd (show b∈([]:List Addr) from hb) (by simp),dP,.of_eq hg⟩
 have hl:vals.length=ps.length:=by rw[lX hwl];exact hlen
 have hSb:(AN s₁.heap H).NoSeer:={
  statics:=let ⟨mc,x,y⟩:=hsee.statics;⟨mc,nsK x,y⟩
  mods:=let ⟨mc,x,y⟩:=hsee.mods;⟨mc,nsK x,y⟩
  imp:=let ⟨mc,x,y⟩:=hsee.imp;⟨mc,nsK x,y⟩
  main:=let ⟨mg',bm,ob,x,y,z,u,v⟩:=hsee.main;⟨mg',bm,ob,nsK x,y,base_of z (noM z u),u,v⟩}
 obtain⟨fd,hbind,hF⟩:=F _ hKb (nsK hns) hSb
 refine codeAny_mono (hF.run callerA [] s₁ H ⟨vals,[]⟩ vals (vals.map toV) _ _ hr e0 (by have z:=hbind s₁ vals KX (by rw[List.append_nil];exact hl);rw[List.append_nil] at z;exact z) hV (hsp H _ hO hS)) fun r s' x=> ?_
 cases r with
 |error e=>exact(hCX H e s' x).elim
 |ok fl=>
  cases fl with
  |next=>exact False.elim x
  |brk=>exact False.elim x
  |cont=>exact False.elim x
  |ret u=>
   obtain⟨v,H',os,bare,un,hok',r',q⟩:=x
   have kept:∀b o,s₁.heap.get? b=some o->s'.heap.get? b=some o:=fun b o e=>by
    cases q2:H b with
    |none=>exact un.keep b o e q2 (by intro z;exact absurd (show b∈([]:List Addr) from z) (by simp)) (by simp)
    |some u2=>
     rcases hO b with z |⟨ob,u3,z⟩
     ·rw[q2] at z
      cases z
     ·have z2:=un.Cm b ob _ z
      obtain⟨e1,_⟩:=dP b _ z
      obtain⟨e2,_⟩:=hok' b _ z2
      rw[e] at e1
      cases e1
      exact e2
   have KX':K.In s'.heap:=fun b o e=>kept b o (KX b o e)
   obtain⟨as,hrd⟩:=Dw.reads (R:=R) (cl:=cl) hok' KX' d0 v u q r'
   exact⟨u,as,rfl,hrd,OldK.of_keep kept,os,bare⟩
theorem AE{ds:List WData}(h:WData.layableAll ds=true):∀d∈ds,d.weight<=1048576:=fun d hd=>
 (PySem.W.layableW_iff.mp (List.all_eq_true.mp h d hd)).2.2
theorem AF:∀(cs:List Codec) (a:Codec.denoteAll cs),(Codec.encAll cs a).length=cs.length
 |[],_=>rfl
 |c::cs,a=>by
  show(Codec.encAll cs a.2).length+1=cs.length+1
  rw[AF cs a.2]
theorem JL{r:OpenSpec}{k:Nat}{q:Program}{loose:List Str}{XP:(Str->Option Value)->Heap->Prop}{YP:World->Heap->Prop}{d:DefRec}{K:Params->PySem.W.Frag}{CX:World->J1}{ps:List Str}{sp:World->Sp}
  (hwell:r.wellSaid=true) (himp:importsNone q=true) (hdf:d.params.defaults=[]) (hlen:r.args.length=ps.length) (hr:hJ k callerA)
  (hY:∀(w:World) (h:Heap),YP w h->(K w.params).In h)
  (F:∀(w:World) (mg:Str->Option Value) (fa:Addr) (h:Heap),YP w h->(K w.params).In h->h.Ns mainGlobals mg->mg d.name=some (.ref fa)->
   ∀base:Heap,(K w.params).In base->base.Ns mainGlobals mg->base.NoSeer->∃fd:FuncData,Binds (K w.params) fd ps []/\lY r.prog w (K w.params) mg base (CX w) k fa fd ps (sp w))
  (hsp:∀(w:World) (H:Hp) (xs:List V) (a:Codec.denoteAll r.args),FC H->Codec.withinAll r.args a=true->Codec.app r.args r.asked a=true->mS (K w.params) H xs (Codec.encAll r.args a)->
   sp w xs H (fun v H'=>Dw (K w.params) H' v (r.ret.enc (Codec.app r.args r.f a))) fun _ _ _=>False)
  (hCX:∀(w:World) (H:Hp) (s:Shared) (e:Value) (s':Shared),CX w [] H s (fun _ _ _=>False) e s'->False):
  PySem.W.WalkOS q loose XP YP r d [] (fun f vs=>PySem.call f vs):=by
 intro w Bm s₁ mg mb G Y fa o pm cd doc dV kV ho hd hcd hD hmg hg args vals as hpre hlay hrd hwl hlo
 obtain⟨a,e1,e2⟩:=PySem.W.os_pre_some hpre
 obtain⟨e3,hwi⟩:=Codec.encAll_of_decAll r.args args a e1
 subst e3
 have KX:=hY w _ Y
 refine PySem.W.enter_call (codeAny_mono (JK (R:=[]) (cl:=classAt Bm.heap) (d0:=r.ret.enc (Codec.app r.args r.f a)) KX G.T.g G.T.b G.T.builtins G.T.nolimit hg hwl (Ce _ _) (AE hlay) hr (G.T.seer himp) (F w mg fa _ Y KX G.T.g hmg) (by rw[AF];exact hlen)
  (fun H xs hO hS=>hsp w H xs a hO hwi e2 hS) fun H e s'=>hCX w H s₁ e s') fun r' s' hq=> ?_)
 obtain⟨u,as',rfl,h1,h2,h3,h4⟩:=hq
 exact⟨.inl ⟨u,_,as',rfl,fun _=>rfl,h1,(OpenSpec.post_iff hwell hwi _ _).mpr rfl,fun z=>Bool.noConfusion (show false=true from z)⟩,h2,h3,h4⟩
end L2
namespace DR
open PySem PySem.Spec PyProof.Rows L2
open PySem.W (Codec OpenSpec)
def HasFn(K:PySem.W.Frag)(x:Str)(st:Stmt):Prop:=∃(f:Addr) (oc:Value) (od:Option Addr) (kV doc pm:Value) (an:Option Addr) (cdv ct:Value) (osl:Array (Option Value)),
 PySem.W.nsIn K mainGlobals x=some (some (.ref f))/\K.lookup f=some ⟨oc,od,.func (PySem.W.fnOf x x (c7 st) (cz st) (aq st) .none kV doc pm an cdv ct),osl⟩/\PySem.W.codeIn K cdv x=true/\PySem.W.keepIn K (.ref f)=true
def HasInt(K:PySem.W.Frag)(x:Str)(z:Int):Prop:=∃t:Tok,PySem.W.nsIn K mainGlobals x=some (some (.int z t))
def HasNo(K:PySem.W.Frag)(x:Str):Prop:=PySem.W.nsIn K mainGlobals x=some none
def NoAll(K:PySem.W.Frag)(C:Addr):List Str->Prop
 |[]=>True
 |f::r=>PySem.W.findIn K (.ref C) f=some none/\NoAll K C r
def HasCls(K:PySem.W.Frag)(x qual:Str)(st:Stmt)(fs:List Str):Prop:=∃(C f:Addr) (oc:Value) (od:Option Addr) (kV doc pm:Value) (an:Option Addr) (cdv ct:Value) (osl:Array (Option Value)),
 PySem.W.nsIn K mainGlobals x=some (some (.ref C))/\PySem.W.findIn K (.ref C) "__init__"=some (some (.ref f))/\PySem.W.isFn K (.ref f)=true/\K.lookup f=some ⟨oc,od,.func (PySem.W.fnOf "__init__" qual (c7 st) (cz st) (aq st) .none kV doc pm an cdv ct),osl⟩/\PySem.W.codeIn K cdv qual=true/\PySem.W.keepIn K (.ref f)=true/\
 PySem.W.plainGet K C Str.empty=true/\PySem.W.hasDictIn K C=true/\PySem.W.plainOver K C=true/\PySem.W.findIn K (.ref C) "__setattr__"=some (some (.builtin "object.__setattr__"))/\PySem.W.makesIn K C=true/\PySem.W.keepIn K (.ref C)=true/\NoAll K C fs
theorem NoAll.at_{K:PySem.W.Frag}{C:Addr}:∀{fs:List Str},NoAll K C fs->∀f∈fs,mV K C f
 |[],_,f,h=>by cases h
 |g::r,h,f,hf=>by
  rcases List.mem_cons.mp hf with e |m
  ·rw[e];exact h.1
  ·exact h.2.at_ f m
section
variable {K:PySem.W.Frag}{h:Heap}{mg:Str->Option Value}(X:K.In h)(G:h.Ns mainGlobals mg)
include X G
theorem glo_of{x:Str}{st:Stmt}{ps:List Str}(H:HasFn K x st)(hb:∀(kV doc pm:Value) (an:Option Addr) (cdv ct:Value) (us:List Value),us.length=ps.length->bindArgs (PySem.W.fnOf x x (c7 st) (cz st) (aq st) .none kV doc pm an cdv ct) ⟨us,[]⟩=pure (ps.zip us)):d9 K mg x st ps:=by
 obtain⟨f,oc,od,kV,doc,pm,an,cdv,ct,osl,a,l,c,k⟩:=H
 have F:=Kv (st:=st) l c k
 exact⟨f,_,PySem.W.mg_of X G a,F,F.binds hb⟩
theorem gloC_of{x qual:Str}{st:Stmt}{fs ps:List Str}(H:HasCls K x qual st fs)(hb:∀(kV doc pm:Value) (an:Option Addr) (cdv ct:Value) (us:List Value),us.length=ps.length->bindArgs (PySem.W.fnOf "__init__" qual (c7 st) (cz st) (aq st) .none kV doc pm an cdv ct) ⟨us,[]⟩=pure (ps.zip us)):∃C,wD K mg x qual C st ps/\oP K C fs:=by
 obtain⟨C,f,oc,od,kV,doc,pm,an,cdv,ct,osl,a,i,fn,l,c,k,pg,hd,po,sa,mk,kc,no⟩:=H
 have F:=Kv (st:=st) l c k
 exact⟨C,⟨f,_,PySem.W.mg_of X G a,⟨mk,i,fn,kc⟩,F,F.binds hb⟩,⟨⟨pg,hd,po,sa⟩,no.at_⟩⟩
theorem glo1{x:Str}{st:Stmt}{p0:Str}(H:HasFn K x st)(hb:∀(kV doc pm:Value) (an:Option Addr) (cdv ct:Value) (a0:Value),bindArgs (PySem.W.fnOf x x (c7 st) (cz st) (aq st) .none kV doc pm an cdv ct) ⟨[a0],[]⟩=pure [(p0,a0)]):d9 K mg x st [p0]:=glo_of X G H fun _ _ _ _ _ _ us hl=>match us,hl with |[_],_=>hb ..
theorem glo2{x:Str}{st:Stmt}{p0 p1:Str}(H:HasFn K x st)(hb:∀(kV doc pm:Value) (an:Option Addr) (cdv ct:Value) (a0 a1:Value),bindArgs (PySem.W.fnOf x x (c7 st) (cz st) (aq st) .none kV doc pm an cdv ct) ⟨[a0,a1],[]⟩=pure [(p0,a0),(p1,a1)]):d9 K mg x st [p0,p1]:=glo_of X G H fun _ _ _ _ _ _ us hl=>match us,hl with |[_,_],_=>hb ..
theorem glo3{x:Str}{st:Stmt}{p0 p1 p2:Str}(H:HasFn K x st)(hb:∀(kV doc pm:Value) (an:Option Addr) (cdv ct:Value) (a0 a1 a2:Value),bindArgs (PySem.W.fnOf x x (c7 st) (cz st) (aq st) .none kV doc pm an cdv ct) ⟨[a0,a1,a2],[]⟩=pure [(p0,a0),(p1,a1),(p2,a2)]):d9 K mg x st [p0,p1,p2]:=glo_of X G H fun _ _ _ _ _ _ us hl=>match us,hl with |[_,_,_],_=>hb ..
theorem glo4{x:Str}{st:Stmt}{p0 p1 p2 p3:Str}(H:HasFn K x st)(hb:∀(kV doc pm:Value) (an:Option Addr) (cdv ct:Value) (a0 a1 a2 a3:Value),bindArgs (PySem.W.fnOf x x (c7 st) (cz st) (aq st) .none kV doc pm an cdv ct) ⟨[a0,a1,a2,a3],[]⟩=pure [(p0,a0),(p1,a1),(p2,a2),(p3,a3)]):d9 K mg x st [p0,p1,p2,p3]:=glo_of X G H fun _ _ _ _ _ _ us hl=>match us,hl with |[_,_,_,_],_=>hb ..
theorem gloC2{x qual:Str}{st:Stmt}{fs:List Str}{p0 p1:Str}(H:HasCls K x qual st fs)(hb:∀(kV doc pm:Value) (an:Option Addr) (cdv ct:Value) (a0 a1:Value),bindArgs (PySem.W.fnOf "__init__" qual (c7 st) (cz st) (aq st) .none kV doc pm an cdv ct) ⟨[a0,a1],[]⟩=pure [(p0,a0),(p1,a1)]):∃C,wD K mg x qual C st [p0,p1]/\oP K C fs:=gloC_of X G H fun _ _ _ _ _ _ us hl=>match us,hl with |[_,_],_=>hb ..
theorem gloC3{x qual:Str}{st:Stmt}{fs:List Str}{p0 p1 p2:Str}(H:HasCls K x qual st fs)(hb:∀(kV doc pm:Value) (an:Option Addr) (cdv ct:Value) (a0 a1 a2:Value),bindArgs (PySem.W.fnOf "__init__" qual (c7 st) (cz st) (aq st) .none kV doc pm an cdv ct) ⟨[a0,a1,a2],[]⟩=pure [(p0,a0),(p1,a1),(p2,a2)]):∃C,wD K mg x qual C st [p0,p1,p2]/\oP K C fs:=gloC_of X G H fun _ _ _ _ _ _ us hl=>match us,hl with |[_,_,_],_=>hb ..
theorem gloC4{x qual:Str}{st:Stmt}{fs:List Str}{p0 p1 p2 p3:Str}(H:HasCls K x qual st fs)(hb:∀(kV doc pm:Value) (an:Option Addr) (cdv ct:Value) (a0 a1 a2 a3:Value),bindArgs (PySem.W.fnOf "__init__" qual (c7 st) (cz st) (aq st) .none kV doc pm an cdv ct) ⟨[a0,a1,a2,a3],[]⟩=pure [(p0,a0),(p1,a1),(p2,a2),(p3,a3)]):∃C,wD K mg x qual C st [p0,p1,p2,p3]/\oP K C fs:=gloC_of X G H fun _ _ _ _ _ _ us hl=>match us,hl with |[_,_,_,_],_=>hb ..
theorem gloC5{x qual:Str}{st:Stmt}{fs:List Str}{p0 p1 p2 p3 p4:Str}(H:HasCls K x qual st fs)(hb:∀(kV doc pm:Value) (an:Option Addr) (cdv ct:Value) (a0 a1 a2 a3 a4:Value),bindArgs (PySem.W.fnOf "__init__" qual (c7 st) (cz st) (aq st) .none kV doc pm an cdv ct) ⟨[a0,a1,a2,a3,a4],[]⟩=pure [(p0,a0),(p1,a1),(p2,a2),(p3,a3),(p4,a4)]):∃C,wD K mg x qual C st [p0,p1,p2,p3,p4]/\oP K C fs:=gloC_of X G H fun _ _ _ _ _ _ us hl=>match us,hl with |[_,_,_,_,_],_=>hb ..
theorem int_of{x:Str}{z:Int}(H:HasInt K x z):∃t,mg x=some (.int z t):=let ⟨t,e⟩:=H;⟨t,PySem.W.mg_of X G e⟩
theorem no_of{x:Str}(H:HasNo K x):mg x=none:=PySem.W.mg_none_of X G H
end
def HasTab(K:PySem.W.Frag):Prop:=∃(ta:Addr) (od:Option Addr) (n:Nat) (sl:Array (Option Value)) (f0 f1 f2 f3 f4 f5 f6 f7 f8 f9 f10 f11 f12 f13:Addr),PySem.W.nsIn K mainGlobals "LAWS_OF_KIND"=some (some (.ref ta))/\K.lookup ta=some ⟨.type "tuple",od,.seq #[.ref f0,.ref f1,.ref f2,.ref f3,.ref f4,.ref f5,.ref f6,.ref f7,.ref f8,.ref f9,.ref f10,.ref f11,.ref f12,.ref f13] n,sl⟩/\PySem.W.nsIn K mainGlobals "resistor_laws"=some (some (.ref f0))/\PySem.W.nsIn K mainGlobals "capacitor_laws"=some (some (.ref f1))/\PySem.W.nsIn K mainGlobals "coil_laws"=some (some (.ref f2))/\PySem.W.nsIn K mainGlobals "coupling_laws"=some (some (.ref f3))/\PySem.W.nsIn K mainGlobals "voltage_source_laws"=some (some (.ref f4))/\PySem.W.nsIn K mainGlobals "current_source_laws"=some (some (.ref f5))/\PySem.W.nsIn K mainGlobals "voltage_by_voltage_laws"=some (some (.ref f6))/\PySem.W.nsIn K mainGlobals "current_by_voltage_laws"=some (some (.ref f7))/\PySem.W.nsIn K mainGlobals "voltage_by_current_laws"=some (some (.ref f8))/\PySem.W.nsIn K mainGlobals "current_by_current_laws"=some (some (.ref f9))/\PySem.W.nsIn K mainGlobals "transformer_laws"=some (some (.ref f10))/\PySem.W.nsIn K mainGlobals "amplifier_laws"=some (some (.ref f11))/\PySem.W.nsIn K mainGlobals "switch_laws"=some (some (.ref f12))/\PySem.W.nsIn K mainGlobals "diode_laws"=some (some (.ref f13))
theorem HasInt.mk{K:PySem.W.Frag}{x:Str}{z:Int}{t:Tok}(a:PySem.W.nsIn K mainGlobals x=some (some (.int z t))):HasInt K x z:=⟨t,a⟩
theorem HasFn.mk{K:PySem.W.Frag}{x:Str}{st:Stmt}{f:Addr}{oc:Value}{od:Option Addr}{kV doc pm:Value}{an:Option Addr}{cdv ct:Value}{osl:Array (Option Value)}
  (a:PySem.W.nsIn K mainGlobals x=some (some (.ref f))) (l:K.lookup f=some ⟨oc,od,.func (PySem.W.fnOf x x (c7 st) (cz st) (aq st) .none kV doc pm an cdv ct),osl⟩) (c:PySem.W.codeIn K cdv x=true) (k:PySem.W.keepIn K (.ref f)=true):HasFn K x st:=⟨f,oc,od,kV,doc,pm,an,cdv,ct,osl,a,l,c,k⟩
theorem HasCls.mk{K:PySem.W.Frag}{x qual:Str}{st:Stmt}{fs:List Str}{C f:Addr}{oc:Value}{od:Option Addr}{kV doc pm:Value}{an:Option Addr}{cdv ct:Value}{osl:Array (Option Value)}
  (a:PySem.W.nsIn K mainGlobals x=some (some (.ref C))) (i:PySem.W.findIn K (.ref C) "__init__"=some (some (.ref f))) (fn:PySem.W.isFn K (.ref f)=true) (l:K.lookup f=some ⟨oc,od,.func (PySem.W.fnOf "__init__" qual (c7 st) (cz st) (aq st) .none kV doc pm an cdv ct),osl⟩) (c:PySem.W.codeIn K cdv qual=true) (k:PySem.W.keepIn K (.ref f)=true)
  (pg:PySem.W.plainGet K C Str.empty=true) (hd:PySem.W.hasDictIn K C=true) (po:PySem.W.plainOver K C=true) (sa:PySem.W.findIn K (.ref C) "__setattr__"=some (some (.builtin "object.__setattr__"))) (mk:PySem.W.makesIn K C=true) (kc:PySem.W.keepIn K (.ref C)=true) (no:NoAll K C fs):HasCls K x qual st fs:=
 ⟨C,f,oc,od,kV,doc,pm,an,cdv,ct,osl,a,i,fn,l,c,k,pg,hd,po,sa,mk,kc,no⟩
theorem HasTab.mk{K:PySem.W.Frag}{ta:Addr}{od:Option Addr}{n:Nat}{sl:Array (Option Value)}{f0 f1 f2 f3 f4 f5 f6 f7 f8 f9 f10 f11 f12 f13:Addr}(a:PySem.W.nsIn K mainGlobals "LAWS_OF_KIND"=some (some (.ref ta)))(l:K.lookup ta=some ⟨.type "tuple",od,.seq #[.ref f0,.ref f1,.ref f2,.ref f3,.ref f4,.ref f5,.ref f6,.ref f7,.ref f8,.ref f9,.ref f10,.ref f11,.ref f12,.ref f13] n,sl⟩)(t0:PySem.W.nsIn K mainGlobals "resistor_laws"=some (some (.ref f0)))(t1:PySem.W.nsIn K mainGlobals "capacitor_laws"=some (some (.ref f1)))(t2:PySem.W.nsIn K mainGlobals "coil_laws"=some (some (.ref f2)))(t3:PySem.W.nsIn K mainGlobals "coupling_laws"=some (some (.ref f3)))(t4:PySem.W.nsIn K mainGlobals "voltage_source_laws"=some (some (.ref f4)))(t5:PySem.W.nsIn K mainGlobals "current_source_laws"=some (some (.ref f5)))(t6:PySem.W.nsIn K mainGlobals "voltage_by_voltage_laws"=some (some (.ref f6)))(t7:PySem.W.nsIn K mainGlobals "current_by_voltage_laws"=some (some (.ref f7)))(t8:PySem.W.nsIn K mainGlobals "voltage_by_current_laws"=some (some (.ref f8)))(t9:PySem.W.nsIn K mainGlobals "current_by_current_laws"=some (some (.ref f9)))(t10:PySem.W.nsIn K mainGlobals "transformer_laws"=some (some (.ref f10)))(t11:PySem.W.nsIn K mainGlobals "amplifier_laws"=some (some (.ref f11)))(t12:PySem.W.nsIn K mainGlobals "switch_laws"=some (some (.ref f12)))(t13:PySem.W.nsIn K mainGlobals "diode_laws"=some (some (.ref f13))):HasTab K:=
 ⟨ta,od,n,sl,f0,f1,f2,f3,f4,f5,f6,f7,f8,f9,f10,f11,f12,f13,a,l,t0,t1,t2,t3,t4,t5,t6,t7,t8,t9,t10,t11,t12,t13⟩
theorem law_fn{P:Program}{w:World}{K:PySem.W.Frag}{mg:Str->Option Value}{base:Heap}{c:Cs}{x:Str}{k i:Nat}{f:Addr}{kd:ai.gK->Nat->Prop}{F:ai.gK->Nat->List (List (Int×List Int))}(C:bq P w K mg base x ["setting","k"] k (fj c kd F))(hk:k<=5)(hf:mg x=some (.ref f))(h1:∀g k,(pat g k).kind=(i:Int)->IA g k->kd g k)(h2:∀g k,(pat g k).kind=(i:Int)->ai.cJ g k=F g k):∃fd,lY P w K mg base HB 5 f fd ["setting","k"] (LJ c i)/\PySem.W.keepIn K (.ref f)=true/\Binds K fd ["setting","k"] []:=by
 obtain⟨f',fd,hm,ok,kp,b⟩:=C.ex
 rw[hf] at hm
 cases hm
 refine⟨fd,(ok.mono hk).imp ?_,kp,b⟩
 rintro vs H Q E ⟨v,g,k,e,hg,so,hl,⟨hi,li⟩,nl⟩
 refine⟨v,g,k,e,hg,so,hl,h1 g k hi li,?_⟩
 rw[<-h2 g k hi]
 exact nl
theorem laws1_at{g:ai.gK}{k i:Nat}(h:(pat g k).kind=(i:Int)):(g.aO.af.getD k ai.p0).kind.toNat=i:=by
 show(pat g k).kind.toNat=i
 rw[h,Int.toNat_natCast]
structure Has(K:PySem.W.Frag):Prop where
 dE:HasNo K "len"
 zV:HasNo K "list"
 Ln:HasNo K "max"
 Lo:HasNo K "sum"
 Fd:HasNo K "all"
 Ir:HasNo K "any"
 Fe:HasNo K "abs"
 gx:HasNo K "range"
 dF:HasNo K "enumerate"
 Lp:HasNo K "zip"
 r9:HasNo K "reversed"
 sy:HasInt K "RESISTOR" 0
 qf:HasInt K "CAPACITOR" 1
 Dv:HasInt K "COIL" 2
 dM:HasInt K "COUPLING" 3
 ir:HasInt K "VOLTAGE_SOURCE" 4
 iu:HasInt K "CURRENT_SOURCE" 5
 fO:HasInt K "VOLTAGE_BY_VOLTAGE" 6
 fP:HasInt K "CURRENT_BY_VOLTAGE" 7
 fQ:HasInt K "VOLTAGE_BY_CURRENT" 8
 fR:HasInt K "CURRENT_BY_CURRENT" 9
 e7:HasInt K "TRANSFORMER" 10
 lJ:HasInt K "AMPLIFIER" 11
 z5:HasInt K "SWITCH" 12
 qW:HasInt K "DIODE" 13
 qg:HasInt K "LAST_KIND" 13
 gX:HasInt K "NODE_VOLTAGE" 0
 qY:HasInt K "CURRENT" 1
 wJ:HasInt K "VOLTAGE" 2
 kn:HasInt K "NO_FAULT" 0
 oe:HasInt K "WRONG_NODE" 1
 gY:HasInt K "WRONG_NUMBER" 2
 dH:HasInt K "WRONG_REFERENCE" 3
 og:HasInt K "MOST_NODES" 8
 oh:HasInt K "MOST_PARTS" 10
 my:HasInt K "MOST_DIODES" 3
 cS:HasInt K "NUMBERS_OF_A_PART" 7
 oj:HasInt K "LAST_PLACE" 63
 sN:HasInt K "MOST_TOP" 1000000
 mz:HasInt K "MOST_BOTTOM" 1000000
 FG:HasFn K "part_rows" lU
 Ba:HasFn K "is_part_row" iV
 wO:HasFn K "is_network_row" d7
 AG:HasFn K "read_network" g7
 Ha:HasFn K "nodes_of" sO
 vm:HasFn K "may_have_number" gZ
 DK:HasFn K "may_follow" om
 wQ:HasFn K "is_coil_before" iK
 JM:HasFn K "couples" wL
 oS:HasFn K "is_coupled_too_much" ft
 wR:HasFn K "coupling_fault" fY
 Hb:HasFn K "fault_of" ot
 Bb:HasFn K "first_fault" mC
 wU:HasFn K "refusal_of_net" iM
 FH:HasFn K "is_source" qy
 qF:HasFn K "is_linear_quantity" fS
 wV:HasFn K "rows_of_states" iG
 Bc:HasFn K "currents_of" me
 wW:HasFn K "current_places" iw
 Be:HasFn K "unknowns_of" iT
 Hc:HasFn K "constant" sd
 DL:HasFn K "multiplied" nM
 LX:HasFn K "scaled" uI
 AH:HasFn K "times_number" jT
 vo:HasFn K "voltage_between" gU
 DM:HasFn K "voltage_of" nQ
 DN:HasFn K "current_of" nU
 yh:HasFn K "resistor_laws" jf
 wX:HasFn K "capacitor_laws" iy
 Bf:HasFn K "coil_shares" mi
 FI:HasFn K "coil_laws" ql
 yi:HasFn K "coupling_laws" jg
 AI:HasFn K "set_to_drive" jU
 oT:HasFn K "voltage_source_laws" fk
 oU:HasFn K "current_source_laws" fm
 oV:HasFn K "controlling_voltage" fi
 kx:HasFn K "voltage_by_voltage_laws" df
 kz:HasFn K "current_by_voltage_laws" dh
 kJ:HasFn K "voltage_by_current_laws" di
 kK:HasFn K "current_by_current_laws" dj
 sX:HasFn K "transformer_laws" gD
 wY:HasFn K "amplifier_laws" iz
 Bg:HasFn K "switch_laws" mh
 DO:HasFn K "diode_laws" nZ
 FJ:HasFn K "node_laws" lL
 JN:HasFn K "trimmed" v9
 M3:HasFn K "added" Dq
 LY:HasFn K "row_of" uH
 Hd:HasFn K "law_rows" n8
 vq:HasFn K "row_to_solve_by" gV
 JO:HasFn K "negated" qU
 DP:HasFn K "subtracted" nL
 JP:HasFn K "divided" we
 Bh:HasFn K "cleared_row" mr
 JQ:HasFn K "cleared" wG
 LZ:HasFn K "solved" qw
 Bi:HasFn K "constant_of" ma
 Bj:HasFn K "current_top" mw
 He:HasFn K "node_top" sH
 wZ:HasFn K "difference_top" iD
 Bk:HasFn K "voltage_top" mx
 AJ:HasFn K "diode_agrees" kh
 sY:HasFn K "all_diodes_agree" eK
 vv:HasFn K "operating_point" fD
 w4:HasFn K "driven_setting" fX
 AK:HasFn K "quantity_top" kg
 vw:HasFn K "driven_quantity" g8
 sZ:HasFn K "greatest_divisor" gA
 JR:HasFn K "content" wc
 FK:HasFn K "primitive" i4
 vx:HasFn K "whole_remainder" dG
 w6:HasFn K "common_divisor" ik
 vy:HasFn K "told_polynomial" fB
 yk:HasFn K "told_quotient" jc
 M4:HasFn K "trans" DI
 O2:HasCls K "Part" "Part.__init__" qt ["kind","a","b","c","d","top","bottom"]
 JS:HasCls K "Network" "Network.__init__" j6 ["last_node","parts"]
 M5:HasCls K "Asked" "Asked.__init__" oa ["refusal","top","bottom"]
 JT:HasCls K "Setting" "Setting.__init__" j7 ["network","s","states","drives","places","width"]
 Hf:HasCls K "Solution" "Solution.__init__" jh ["determinant","tops"]
 w8:HasCls K "OperatingPoint" "OperatingPoint.__init__" fq ["states","solution"]
 tab:HasTab K
theorem all_mk{P:Program}{w:World}{K:PySem.W.Frag}{h:Heap}{mg:Str->Option Value}{fa:Addr}(htree:P.given.tree=none)(X:K.In h)(G:h.Ns mainGlobals mg)(hfa:mg "trans"=some (.ref fa))(W:Has K):
  ∀base:Heap,K.In base->base.Ns mainGlobals mg->base.NoSeer->∃fd:FuncData,Binds K fd ["source","what","k","net"] []/\lY P w K mg base HB 44 fa fd ["source","what","k","net"] (qD K):=by
 have T:Txt4 mg:=⟨⟨⟨⟨no_of X G W.dE,no_of X G W.zV,no_of X G W.Ln,no_of X G W.Lo,no_of X G W.Fd,no_of X G W.Ir,no_of X G W.Fe,no_of X G W.gx,no_of X G W.dF,no_of X G W.Lp,no_of X G W.r9⟩,int_of X G W.sy,int_of X G W.qf,int_of X G W.Dv,int_of X G W.dM,int_of X G W.ir,int_of X G W.iu,int_of X G W.fO,int_of X G W.fP,int_of X G W.fQ,int_of X G W.fR,int_of X G W.e7,int_of X G W.lJ,int_of X G W.z5,int_of X G W.qW,int_of X G W.qg⟩,int_of X G W.gX,int_of X G W.qY,int_of X G W.wJ⟩,int_of X G W.kn,int_of X G W.oe,int_of X G W.gY,int_of X G W.dH,int_of X G W.og,int_of X G W.oh,int_of X G W.my,int_of X G W.cS,int_of X G W.oj,int_of X G W.sN,int_of X G W.mz⟩
 obtain⟨O3,O4,O5⟩:=gloC2 (p0:="self") (p1:="numbers") X G W.O2 fun _ _ _ _ _ _ _ _=>rfl
 obtain⟨JU,JV,JW⟩:=gloC3 (p0:="self") (p1:="last_node") (p2:="parts") X G W.JS fun _ _ _ _ _ _ _ _ _=>rfl
 obtain⟨M6,M7,M8⟩:=gloC4 (p0:="self") (p1:="refusal") (p2:="top") (p3:="bottom") X G W.M5 fun _ _ _ _ _ _ _ _ _ _=>rfl
 obtain⟨JX,JY,JZ⟩:=gloC5 (p0:="self") (p1:="network") (p2:="s") (p3:="states") (p4:="drives") X G W.JT fun _ _ _ _ _ _ _ _ _ _ _=>rfl
 obtain⟨Hg,Hh,Hi⟩:=gloC3 (p0:="self") (p1:="determinant") (p2:="tops") X G W.Hf fun _ _ _ _ _ _ _ _ _=>rfl
 obtain⟨w9,xb,xc⟩:=gloC3 (p0:="self") (p1:="states") (p2:="solution") X G W.w8 fun _ _ _ _ _ _ _ _ _=>rfl
 let c:Cs:=⟨O3,JU,JX,Hg,w9,M6⟩
 have O:cQ K c:=⟨O5,JW,JZ,Hi,xc,M8⟩
 obtain⟨ta,od,tn,sl,f0,f1,f2,f3,f4,f5,f6,f7,f8,f9,f10,f11,f12,f13,hT,lT,t0,t1,t2,t3,t4,t5,t6,t7,t8,t9,t10,t11,t12,t13⟩:=W.tab
 have big:∀base:Heap,K.In base->base.Ns mainGlobals mg->base.NoSeer->bq P w K mg base "trans" ["source","what","k","net"] 44 (qD K):=fun base _ _ hno=>by
  have gJ:=DH (P:=P) (w:=w) (base:=base) T (glo1 X G W.FG fun _ _ _ _ _ _ _=>rfl)
  have mD:=AB (P:=P) (w:=w) (base:=base) T (glo1 X G W.Ba fun _ _ _ _ _ _ _=>rfl)
  have iN:=vg (P:=P) (w:=w) (base:=base) T gJ mD (glo1 X G W.wO fun _ _ _ _ _ _ _=>rfl)
  have G9:=MU (P:=P) (w:=w) (base:=base) O.part O4
  have wN:=G2 (P:=P) (w:=w) (base:=base) O.aO JV
  have d8:=yf (P:=P) (w:=w) (base:=base) T O gJ G9 wN (glo1 X G W.AG fun _ _ _ _ _ _ _=>rfl)
  have sR:=Fv (P:=P) (w:=w) (base:=base) T.toTxt3.toTxt2 O (glo1 X G W.Ha fun _ _ _ _ _ _ _=>rfl)
  have g5:=sQ (P:=P) (w:=w) (base:=base) T.toTxt3.toTxt2 O (glo1 X G W.vm fun _ _ _ _ _ _ _=>rfl)
  have ou:=A9 (P:=P) (w:=w) (base:=base) T.toTxt3.toTxt2 O (glo2 X G W.DK fun _ _ _ _ _ _ _ _=>rfl)
  have fZ:=u7 (P:=P) (w:=w) (base:=base) T.toTxt3.toTxt2 O (glo3 X G W.wQ fun _ _ _ _ _ _ _ _ _=>rfl)
  have wM:=G8 (P:=P) (w:=w) (base:=base) T.toTxt3.toTxt2 O (glo3 X G W.JM fun _ _ _ _ _ _ _ _ _=>rfl)
  have fu:=oq (P:=P) (w:=w) (base:=base) O (glo3 X G W.oS fun _ _ _ _ _ _ _ _ _=>rfl)
  have iL:=vc (P:=P) (w:=w) (base:=base) T O fZ wM fu (glo2 X G W.wR fun _ _ _ _ _ _ _ _=>rfl)
  have sS:=Fy (P:=P) (w:=w) (base:=base) T O sR g5 ou iL (glo2 X G W.Hb fun _ _ _ _ _ _ _ _=>rfl)
  have mE:=Az (P:=P) (w:=w) (base:=base) T O sS (glo1 X G W.Bb fun _ _ _ _ _ _ _=>rfl)
  have iO:=vi (P:=P) (w:=w) (base:=base) T iN d8 mE (glo1 X G W.wU fun _ _ _ _ _ _ _=>rfl)
  have qZ:=LL (P:=P) (w:=w) (base:=base) O.ask M7
  have qC:=DF (P:=P) (w:=w) (base:=base) T.toTxt3.toTxt2 O (glo2 X G W.FH fun _ _ _ _ _ _ _ _=>rfl)
  have fT:=oR (P:=P) (w:=w) (base:=base) T.toTxt3 O (glo3 X G W.qF fun _ _ _ _ _ _ _ _ _=>rfl)
  have iH:=u5 (P:=P) (w:=w) (base:=base) T.toTxt3.toTxt2 O (glo1 X G W.wV fun _ _ _ _ _ _ _=>rfl)
  have e9:=z9 (P:=P) (w:=w) (base:=base) T.toTxt3.toTxt2 O (glo1 X G W.Bc fun _ _ _ _ _ _ _=>rfl)
  have iC:=uG (P:=P) (w:=w) (base:=base) T.toTxt3.toTxt2 O e9 (glo1 X G W.wW fun _ _ _ _ _ _ _=>rfl)
  have mq:=Ab (P:=P) (w:=w) (base:=base) T.toTxt3.toTxt2 O e9 (glo1 X G W.Be fun _ _ _ _ _ _ _=>rfl)
  have jD:=G3 (P:=P) (w:=w) (base:=base) O iC mq JY
  have cR:=Fg (P:=P) (w:=w) (base:=base) (glo1 X G W.Hc fun _ _ _ _ _ _ _=>rfl)
  have eJ:=A0 (P:=P) (w:=w) (base:=base) T.toTxt3.toTxt2.toTxt (glo2 X G W.DL fun _ _ _ _ _ _ _ _=>rfl)
  have cw:=JD (P:=P) (w:=w) (base:=base) eJ (glo2 X G W.LX fun _ _ _ _ _ _ _ _=>rfl)
  have aP:=xS (P:=P) (w:=w) (base:=base) O cR cw (glo3 X G W.AH fun _ _ _ _ _ _ _ _ _=>rfl)
  have cO:=sD (P:=P) (w:=w) (base:=base) (glo2 X G W.vo fun _ _ _ _ _ _ _ _=>rfl)
  have aT:=A2 (P:=P) (w:=w) (base:=base) O cO (glo1 X G W.DM fun _ _ _ _ _ _ _=>rfl)
  have aK:=A4 (P:=P) (w:=w) (base:=base) O (glo2 X G W.DN fun _ _ _ _ _ _ _ _=>rfl)
  have ym:=wy (P:=P) (w:=w) (base:=base) O aP aT aK (glo2 X G W.yh fun _ _ _ _ _ _ _ _=>rfl)
  have xf:=uL (P:=P) (w:=w) (base:=base) O aP aT aK cw (glo2 X G W.wX fun _ _ _ _ _ _ _ _=>rfl)
  have mj:=Ai (P:=P) (w:=w) (base:=base) T.toTxt3.toTxt2 O (glo2 X G W.Bf fun _ _ _ _ _ _ _ _=>rfl)
  have FL:=Dz (P:=P) (w:=w) (base:=base) O mj aT aK cw cR (glo2 X G W.FI fun _ _ _ _ _ _ _ _=>rfl)
  have yn:=wA (P:=P) (w:=w) (base:=base) (c:=c) (glo2 X G W.yi fun _ _ _ _ _ _ _ _=>rfl)
  have d6:=xU (P:=P) (w:=w) (base:=base) O cR cw (glo3 X G W.AI fun _ _ _ _ _ _ _ _ _=>rfl)
  have c8:=nW (P:=P) (w:=w) (base:=base) O d6 aT (glo2 X G W.oT fun _ _ _ _ _ _ _ _=>rfl)
  have oW:=nY (P:=P) (w:=w) (base:=base) O d6 aK (glo2 X G W.oU fun _ _ _ _ _ _ _ _=>rfl)
  have aV:=nS (P:=P) (w:=w) (base:=base) O cO (glo1 X G W.oV fun _ _ _ _ _ _ _=>rfl)
  have kN:=jW (P:=P) (w:=w) (base:=base) O aP aT aV (glo2 X G W.kx fun _ _ _ _ _ _ _ _=>rfl)
  have kP:=jY (P:=P) (w:=w) (base:=base) O aP aK aV (glo2 X G W.kz fun _ _ _ _ _ _ _ _=>rfl)
  have kQ:=j0 (P:=P) (w:=w) (base:=base) O aP aT aK (glo2 X G W.kJ fun _ _ _ _ _ _ _ _=>rfl)
  have kU:=j4 (P:=P) (w:=w) (base:=base) O aP aK (glo2 X G W.kK fun _ _ _ _ _ _ _ _=>rfl)
  have tj:=rg (P:=P) (w:=w) (base:=base) O aP aT aV aK cw (glo2 X G W.sX fun _ _ _ _ _ _ _ _=>rfl)
  have xg:=uN (P:=P) (w:=w) (base:=base) O aV (glo2 X G W.wY fun _ _ _ _ _ _ _ _=>rfl)
  have Bl:=Af (P:=P) (w:=w) (base:=base) O aK aT (glo2 X G W.Bg fun _ _ _ _ _ _ _ _=>rfl)
  have DQ:=A6 (P:=P) (w:=w) (base:=base) O c8 aK (glo2 X G W.DO fun _ _ _ _ _ _ _ _=>rfl)
  have qr:=DC (P:=P) (w:=w) (base:=base) T.toTxt3.toTxt2 O (glo1 X G W.FJ fun _ _ _ _ _ _ _=>rfl)
  have wa:=GQ (P:=P) (w:=w) (base:=base) T.toTxt3.toTxt2.toTxt (glo1 X G W.JN fun _ _ _ _ _ _ _=>rfl)
  have qV:=Lr (P:=P) (w:=w) (base:=base) T.toTxt3.toTxt2.toTxt wa (glo2 X G W.M3 fun _ _ _ _ _ _ _ _=>rfl)
  have Aj:=JB (P:=P) (w:=w) (base:=base) T.toTxt3.toTxt2 qV (glo2 X G W.LY fun _ _ _ _ _ _ _ _=>rfl)
  have L:LK P w K mg base c ta [f0,f1,f2,f3,f4,f5,f6,f7,f8,f9,f10,f11,f12,f13]:=by
   refine⟨PySem.W.mg_of X G hT,fun H=> .inr ⟨_,#[.ref f0,.ref f1,.ref f2,.ref f3,.ref f4,.ref f5,.ref f6,.ref f7,.ref f8,.ref f9,.ref f10,.ref f11,.ref f12,.ref f13],tn,lT,rfl,rfl,ax (by show 14<=16777216;decide),?_⟩,fun i hi=> ?_⟩
   ·exact .cons rfl (.cons rfl (.cons rfl (.cons rfl (.cons rfl (.cons rfl (.cons rfl (.cons rfl (.cons rfl (.cons rfl (.cons rfl (.cons rfl (.cons rfl (.cons rfl (.nil))))))))))))))
   ·have hi14:i=0\/i=1\/i=2\/i=3\/i=4\/i=5\/i=6\/i=7\/i=8\/i=9\/i=10\/i=11\/i=12\/i=13:=by omega
    rcases hi14 with rfl |rfl |rfl |rfl |rfl |rfl |rfl |rfl |rfl |rfl |rfl |rfl |rfl |rfl
    ·obtain⟨fd,x1,x2,x3⟩:=law_fn (i:=0) ym (by decide) (PySem.W.mg_of X G t0) (fun g k hi li=>trivial) (fun g k hi=>by unfold ai.cJ;dsimp only;rw[laws1_at hi] <;>rfl)
     exact⟨f0,fd,rfl,x1,x2,x3⟩
    ·obtain⟨fd,x1,x2,x3⟩:=law_fn (i:=1) xf (by decide) (PySem.W.mg_of X G t1) (fun g k hi li=>trivial) (fun g k hi=>by unfold ai.cJ;dsimp only;rw[laws1_at hi] <;>rfl)
     exact⟨f1,fd,rfl,x1,x2,x3⟩
    ·obtain⟨fd,x1,x2,x3⟩:=law_fn (i:=2) FL (by decide) (PySem.W.mg_of X G t2) (fun g k hi li=>li.Ry hi) (fun g k hi=>by unfold ai.cJ;dsimp only;rw[laws1_at hi] <;>rfl)
     exact⟨f2,fd,rfl,x1,x2,x3⟩
    ·obtain⟨fd,x1,x2,x3⟩:=law_fn (i:=3) yn (by decide) (PySem.W.mg_of X G t3) (fun g k hi li=>trivial) (fun g k hi=>by unfold ai.cJ;dsimp only;rw[laws1_at hi] <;>rfl)
     exact⟨f3,fd,rfl,x1,x2,x3⟩
    ·obtain⟨fd,x1,x2,x3⟩:=law_fn (i:=4) c8 (by decide) (PySem.W.mg_of X G t4) (fun g k hi li=>trivial) (fun g k hi=>by unfold ai.cJ;dsimp only;rw[laws1_at hi] <;>rfl)
     exact⟨f4,fd,rfl,x1,x2,x3⟩
    ·obtain⟨fd,x1,x2,x3⟩:=law_fn (i:=5) oW (by decide) (PySem.W.mg_of X G t5) (fun g k hi li=>trivial) (fun g k hi=>by unfold ai.cJ;dsimp only;rw[laws1_at hi] <;>rfl)
     exact⟨f5,fd,rfl,x1,x2,x3⟩
    ·obtain⟨fd,x1,x2,x3⟩:=law_fn (i:=6) kN (by decide) (PySem.W.mg_of X G t6) (fun g k hi li=>trivial) (fun g k hi=>by unfold ai.cJ;dsimp only;rw[laws1_at hi] <;>rfl)
     exact⟨f6,fd,rfl,x1,x2,x3⟩
    ·obtain⟨fd,x1,x2,x3⟩:=law_fn (i:=7) kP (by decide) (PySem.W.mg_of X G t7) (fun g k hi li=>trivial) (fun g k hi=>by unfold ai.cJ;dsimp only;rw[laws1_at hi] <;>rfl)
     exact⟨f7,fd,rfl,x1,x2,x3⟩
    ·obtain⟨fd,x1,x2,x3⟩:=law_fn (i:=8) kQ (by decide) (PySem.W.mg_of X G t8) (fun g k hi li=>li.ref (.inl hi)) (fun g k hi=>by unfold ai.cJ;dsimp only;rw[laws1_at hi] <;>rfl)
     exact⟨f8,fd,rfl,x1,x2,x3⟩
    ·obtain⟨fd,x1,x2,x3⟩:=law_fn (i:=9) kU (by decide) (PySem.W.mg_of X G t9) (fun g k hi li=>li.ref (.inr hi)) (fun g k hi=>by unfold ai.cJ;dsimp only;rw[laws1_at hi] <;>rfl)
     exact⟨f9,fd,rfl,x1,x2,x3⟩
    ·obtain⟨fd,x1,x2,x3⟩:=law_fn (i:=10) tj (by decide) (PySem.W.mg_of X G t10) (fun g k hi li=>trivial) (fun g k hi=>by unfold ai.cJ;dsimp only;rw[laws1_at hi] <;>rfl)
     exact⟨f10,fd,rfl,x1,x2,x3⟩
    ·obtain⟨fd,x1,x2,x3⟩:=law_fn (i:=11) xg (by decide) (PySem.W.mg_of X G t11) (fun g k hi li=>trivial) (fun g k hi=>by unfold ai.cJ;dsimp only;rw[laws1_at hi] <;>rfl)
     exact⟨f11,fd,rfl,x1,x2,x3⟩
    ·obtain⟨fd,x1,x2,x3⟩:=law_fn (i:=12) Bl (by decide) (PySem.W.mg_of X G t12) (fun g k hi li=>trivial) (fun g k hi=>by unfold ai.cJ;dsimp only;rw[laws1_at hi] <;>rfl)
     exact⟨f12,fd,rfl,x1,x2,x3⟩
    ·obtain⟨fd,x1,x2,x3⟩:=law_fn (i:=13) DQ (by decide) (PySem.W.mg_of X G t13) (fun g k hi li=>trivial) (fun g k hi=>by unfold ai.cJ;dsimp only;rw[laws1_at hi] <;>rfl)
     exact⟨f13,fd,rfl,x1,x2,x3⟩
  have iI:=Fl (P:=P) (w:=w) (base:=base) T.toTxt3.toTxt2 O L qr Aj (glo1 X G W.Hd fun _ _ _ _ _ _ _=>rfl)
  have gW:=sF (P:=P) (w:=w) (base:=base) T.toTxt3.toTxt2 (glo2 X G W.vq fun _ _ _ _ _ _ _ _=>rfl)
  have wb:=GS (P:=P) (w:=w) (base:=base) (glo1 X G W.JO fun _ _ _ _ _ _ _=>rfl)
  have cV:=AY (P:=P) (w:=w) (base:=base) wb qV (glo2 X G W.DP fun _ _ _ _ _ _ _ _=>rfl)
  have iq:=GX (P:=P) (w:=w) (base:=base) T.toTxt3.toTxt2.toTxt (glo2 X G W.JP fun _ _ _ _ _ _ _ _=>rfl)
  have mv:=An (P:=P) (w:=w) (base:=base) T.toTxt3.toTxt2 eJ cV iq (glo4 X G W.Bh fun _ _ _ _ _ _ _ _ _ _=>rfl)
  have wI:=G5 (P:=P) (w:=w) (base:=base) T.toTxt3.toTxt2 mv (glo3 X G W.JQ fun _ _ _ _ _ _ _ _ _=>rfl)
  have sG:=Fm (P:=P) (w:=w) (base:=base) O.sol Hh
  have mR:=JG (P:=P) (w:=w) (base:=base) T.toTxt3.toTxt2 O gW wI sG (glo1 X G W.LZ fun _ _ _ _ _ _ _=>rfl)
  have gq:=z4 (P:=P) (w:=w) (base:=base) (glo1 X G W.Bi fun _ _ _ _ _ _ _=>rfl)
  have fb:=As (P:=P) (w:=w) (base:=base) O (glo3 X G W.Bj fun _ _ _ _ _ _ _ _ _=>rfl)
  have gE:=Fq (P:=P) (w:=w) (base:=base) O (glo2 X G W.He fun _ _ _ _ _ _ _ _=>rfl)
  have iE:=uV (P:=P) (w:=w) (base:=base) gE cV (glo3 X G W.wZ fun _ _ _ _ _ _ _ _ _=>rfl)
  have fc:=Aw (P:=P) (w:=w) (base:=base) O iE (glo3 X G W.Bk fun _ _ _ _ _ _ _ _ _=>rfl)
  have kj:=yd (P:=P) (w:=w) (base:=base) O gq fb fc (glo3 X G W.AJ fun _ _ _ _ _ _ _ _ _=>rfl)
  have gF:=rm (P:=P) (w:=w) (base:=base) T.toTxt3.toTxt2 O kj (glo2 X G W.sY fun _ _ _ _ _ _ _ _=>rfl)
  have iJ:=uS (P:=P) (w:=w) (base:=base) O.pt xb
  have g9:=sM (P:=P) (w:=w) (base:=base) T.toTxt3.toTxt2 O iH jD iI mR gF iJ (glo1 X G W.vv fun _ _ _ _ _ _ _=>rfl)
  have iP:=uY (P:=P) (w:=w) (base:=base) T.toTxt3.toTxt2 O jD (glo3 X G W.w4 fun _ _ _ _ _ _ _ _ _=>rfl)
  have kr:=xZ (P:=P) (w:=w) (base:=base) T.toTxt3 gE fb fc (glo4 X G W.AK fun _ _ _ _ _ _ _ _ _ _=>rfl)
  have hC:=sV (P:=P) (w:=w) (base:=base) T O iO qZ d8 qC fT g9 iP iI mR kr (glo4 X G W.vw fun _ _ _ _ _ _ _ _ _ _=>rfl)
  have cx:=rd (P:=P) (w:=w) (base:=base) T.toTxt3.toTxt2.toTxt (glo2 X G W.sZ fun _ _ _ _ _ _ _ _=>rfl)
  have ij:=GV (P:=P) (w:=w) (base:=base) cx (glo1 X G W.JR fun _ _ _ _ _ _ _=>rfl)
  have i5:=Ds (P:=P) (w:=w) (base:=base) hno htree ij (glo1 X G W.FK fun _ _ _ _ _ _ _=>rfl)
  have gT:=sv (P:=P) (w:=w) (base:=base) T.toTxt3.toTxt2.toTxt cV (glo2 X G W.vx fun _ _ _ _ _ _ _ _=>rfl)
  have il:=uD (P:=P) (w:=w) (base:=base) i5 gT (glo2 X G W.w6 fun _ _ _ _ _ _ _ _=>rfl)
  have fC:=sk (P:=P) (w:=w) (base:=base) T.toTxt3.toTxt2.toTxt (glo2 X G W.vy fun _ _ _ _ _ _ _ _=>rfl)
  have jk:=wj (P:=P) (w:=w) (base:=base) il iq ij cx fC (glo2 X G W.yk fun _ _ _ _ _ _ _ _=>rfl)
  have M9:=LU (P:=P) (w:=w) (base:=base) O hC jk (glo4 X G W.M4 fun _ _ _ _ _ _ _ _ _ _=>rfl)
  exact M9
 intro base x1 x2 x3
 obtain⟨f',fd',hm,ok,_,hb⟩:=(big base x1 x2 x3).ex
 rw[hfa] at hm
 cases hm
 exact⟨fd',hb,ok⟩
theorem walk_specK{r:OpenSpec}{k:Nat}{q:Program}{loose:List Str}{XP:(Str->Option Value)->Heap->Prop}{YP:World->Heap->Prop}{d:DefRec}{K:Params->PySem.W.Frag}{ps:List Str}{sp:PySem.W.Frag->Sp}
  (hwell:r.wellSaid=true) (himp:importsNone q=true) (hdf:d.params.defaults=[]) (hlen:r.args.length=ps.length) (hr:hJ k callerA)
  (hY:∀(w:World) (h:Heap),YP w h->(K w.params).In h)
  (F:∀(w:World) (mg:Str->Option Value) (fa:Addr) (h:Heap),YP w h->(K w.params).In h->h.Ns mainGlobals mg->mg d.name=some (.ref fa)->
   ∀base:Heap,(K w.params).In base->base.Ns mainGlobals mg->base.NoSeer->∃fd:FuncData,Binds (K w.params) fd ps []/\lY r.prog w (K w.params) mg base HB k fa fd ps (sp (K w.params)))
  (hsp:∀(K:PySem.W.Frag) (H:Hp) (xs:List V) (a:Codec.denoteAll r.args),FC H->Codec.withinAll r.args a=true->Codec.app r.args r.asked a=true->mS K H xs (Codec.encAll r.args a)->
   sp K xs H (fun v H'=>Dw K H' v (r.ret.enc (Codec.app r.args r.f a))) fun _ _ _=>False):
  PySem.W.WalkOS q loose XP YP r d [] (fun f vs=>PySem.call f vs):=
 JL (K:=K) (CX:=fun _=>HB) (sp:=fun w=>sp (K w.params)) hwell himp hdf hlen hr hY F (fun w H xs a h1 h2 h3 h4=>hsp (K w.params) H xs a h1 h2 h3 h4) fun _ H s e s' z=>z
theorem sp_of{K:PySem.W.Frag}{H:Hp}{xs:List V}{src what k:Int}{l:List Int}(h1:0<=src)(h2:0<=what)(h3:0<=k)(hl:l.length<=120)(hx:mS K H xs [.int src,.int what,.int k,.list (l.map PySem.W.WData.int)]):
  qD K xs H (fun v H'=>Dw K H' v (.list ((PyWrwirb.trans src what k l).map PySem.W.WData.int))) fun _ _ _=>False:=by
 cases hx with
 |cons x1 y1=>
  cases x1
  cases y1 with
  |cons x2 y2=>
   cases x2
   cases y2 with
   |cons x3 y3=>
    cases x3
    cases y3 with
    |cons x4 y4=>
     cases y4
     cases x4 with
     |lst hs ha=>
      have e:=IC l _ ha
      subst e
      refine⟨src,what,k,_,l,rfl,hs,by omega,h1,h3,dq_in h1 h3 l,tr_in h1 h2 h3 l,?_⟩
      rw[ai.Lc h1 h2 h3]
      exact fun z H' s ⟨p,e,hp⟩=>by rw[e];exact .lst (hZ.of hp) (IB _)
end DR
namespace PySem.W.Fast
def tw16195690768959452914:=0
def tw9327532330479507659:=0
def tw16042575368911332864:=0
def tw5265338686720201480:=0
def tw14425965346253176699:=0
def tw838456437957830948:=0
def tw1975826989955053721:=0
def tw11839142941138389794:=0
def tw16385741126256841979:=0
def tw17812116084119828748:=0
def tw12019449218746624050:=0
def tw17716277500577385787:=0
def tw10895182649934123662:=0
def tw7491422779789737294:=0
def tw6855749482530216921:=0
def tw3931945477941094983:=0
def tw2377561068981995709:=0
def tw14470603775147604940:=0
def tw3833075005007388637:=0
def tw7077883000678413601:=0
def tw7826097958481460531:=0
def tw13325528086640885241:=0
def tw6051355166565060707:=0
def tw2473323340717620220:=0
def tw16219618890937093303:=0
def tw14703743826213057978:=0
def tw7069896863175434270:=0
def tw15937078266327490335:=0
def tw17959080003851050515:=0
def tw12416132169260173279:=0
def tw18008640485949854578:=0
def tw3886148443301087986:=0
def tw12631407405405969182:=0
def tw16341464677947069028:=0
def tw13786282310707666888:=0
def tw7233654272945265705:=0
def tw2955000983890640239:=0
def tw11733269795651257505:=0
def tw18309547070990452770:=0
def tw11656360934258179685:=0
def tw10522621485134092848:=0
def tw1641356003340237419:=0
def tw9760904182642550764:=0
def tw13399582086889509417:=0
def tw3550817163385052307:=0
def tw13789590459374693150:=0
def tw16888110135486840202:=0
def tw4306440536397692271:=0
def tw17121377381861672911:=0
def tw17972539807001253620:=0
def tw1159758485448278197:=0
def tw196170367217860351:=0
def tw4937726947941324315:=0
def tw3486517073893893249:=0
def tw13411727940223810151:=0
def tw3250274673330119457:=0
def tw11280446825828381398:=0
def tw14049475543650719712:=0
def tw488368569111586894:=0
def tw5789688040818541751:=0
def tw9130966213791960564:=0
def tw13799266828001631545:=0
def tw6347182512644009573:=0
def tw14277711876745705339:=0
def tw15161651713054266419:=0
def tw11457656717626711309:=0
def tw6099754873518333798:=0
def tw12789933673459889171:=0
def tw11718650811924239566:=0
def tw16193448967904105304:=0
def tw17152320888694408977:=0
def tw12294606791601020563:=0
def tw6107045431929318896:=0
def tw7736191752419850298:=0
def tw12534461646736831093:=0
def tw12131055686521346037:=0
def tw1883330851200058703:=0
def tw1518292436657438713:=0
def tw1995962011835707887:=0
def tw1639640711092656130:=0
def tw14229767545208997038:=0
def tw16957552196338762133:=0
def tw5769336868888898986:=0
def tw16466472535997083808:=0
def tw6237361430553047305:=0
def tw6853489365383390526:=0
def tw16828234137864852781:=0
def tw823905472976923556:=0
def tw11505271065794710840:=0
def tw2912152253988697979:=0
def tw16819850070864545842:=0
def tw9676758557453284427:=0
def tw9205387981552087026:=0
def tw17498969552565575839:=0
def tw16075606715471694971:=0
def tw10547584592898544715:=0
def tw5271048611301939550:=0
def tw4159142964432033332:=0
def tw18429158339809988162:=0
def tw5121013980631382945:=0
def tw4748684509965730989:=0
def tw12911393640811376794:=0
def tw14681748824223743712:=0
def tw16795261005600611359:=0
def tw5981197495668772093:=0
def tw10610705868252533196:=0
def tw1966567811542514804:=0
def tw7606592886170674500:=0
def tw11652704910393989081:=0
def tw5538462335066932079:=0
def tw11999530062340120304:=0
def tw7221256711847165187:=0
def tw2089745317126897296:=0
def tw1830671603215968510:=0
def tw13617704838858316287:=0
def tw9991064829073070686:=0
def tw13206922353017921097:=0
def tw2868790480598608805:=0
def tw15653945774656116918:=0
def tw13560010978663554004:=0
def tw5637681109220982867:=0
def tw16917003703388819718:=0
def tw9362165893514129854:=0
def tw6712382033831771559:=0
def tw13421989234589304479:=0
def tw12354295579842107065:=0
def tw10473765445522955575:=0
def tw2745983739082167802:=0
def tw13231648858685190581:=0
def tw4101638591663878595:=0
def tw9052068726774706738:=0
def tw8422192170796447360:=0
def tw11739254232754765234:=0
def tw1791317125775354630:=0
def tw4010599961526193218:=0
def tw14756458872719318413:=0
def tw2619067920842602797:=0
def tw6663123703409427576:=0
def tw15526580076724943332:=0
def tw2098025168845665224:=0
def tw5279336170804313545:=0
def tw2607748193253952948:=0
def tw16967564949774313786:=0
def tw16364072128079976535:=0
def tw11020209457435114249:=0
def tw7199973828002404247:=0
def tw13540378130299524111:=0
def tw9554481423145502527:=0
def tw12622672284705106098:=0
def tw12550267219064065878:=0
def tw7027984074414480936:=0
def tw1597428595011033174:=0
def tw13483141173965782872:=0
def tw8235761528802281032:=0
def tw12150685578033641239:=0
def tw7982866119353079563:=0
def tw933918184235175931:=0
def tw4660660251190929443:=0
def tw10584260334654556244:=0
def tw5562176009580631436:=0
def tw16400513509062280688:=0
def tw2759227907556859721:=0
def tw9424517263510464164:=0
def tw4127612531601353591:=0
def tw7060231729093280481:=0
def tw12391713244803245804:=0
def tw5127955730493525357:=0
def tw14821798361550267466:=0
def tw5805062404385573825:=0
def tw8048710286784358188:=0
def tw17632585140670140721:=0
def tw2254351607009868746:=0
def tw15545403217621292745:=0
def tw6288323630243618223:=0
def tw739154422771309472:=0
def tw16695552571043643111:=0
def tw6380098927597108668:=0
def tw13082296523405155914:=0
def tw4797425462007246963:=0
def tw6661407324936125080:=0
def tw4107378728125007792:=0
def tw9583222764048587558:=0
def tw13237869732213488965:=0
def tw14973137086852442072:=0
def tw11152062366947468654:=0
def tw4007394439134875925:=0
def tw372055483029900522:=0
def tw279048813769046634:=0
def tw13552212946976072282:=0
def tw17050516257874254096:=0
def tw13213074271939066058:=0
def tw6039654049649923905:=0
def tw17431325046352203466:=0
def tw9320545285002772370:=0
def tw7133855533846575656:=0
def tw5037260226337024936:=0
def tw7762831274183806180:=0
def tw5148417408026867595:=0
def tw10697693813814483753:=0
def tw4179893974241809950:=0
def tw16172006257084942342:=0
def tw11748735708709168209:=0
def tw10664688134700065880:=0
def tw14793355126235311194:=0
def tw4052143068201731433:=0
def tw3266415129398246564:=0
def tw10555687386993881426:=0
def tw11114628523949564226:=0
def tw2291513569635379845:=0
def tw3579659109329928143:=0
def tw15399267242435424747:=0
def tw9103295240737289820:=0
def tw835038139953668600:=0
def tw13838064936144648716:=0
def tw16331536219463955559:=0
def tw17126979470728757291:=0
def tw10902745723480867118:=0
def tw8516434114015255588:=0
def tw16956571137005964773:=0
def tw17139961105668835182:=0
def tw2725490377051706963:=0
def tw4145355098955527028:=0
def tw13384374686671508582:=0
def tw7890590712752883789:=0
def tw15963749777571821969:=0
def tw17070349408426732140:=0
def tw10558408506987126390:=0
def tw5339053786215615148:=0
def tw13736946855401125726:=0
def tw14625272507791148898:=0
def tw15674583720734003961:=0
def tw10951362798246318574:=0
def tw13586687818518052639:=0
def tw14332340164078274141:=0
def tw2856350515924658518:=0
def tw17738698389248072489:=0
def tw14202687633467512703:=0
def tw10873703632053190527:=0
def tw4624249648389889529:=0
def tw3161152357775615703:=0
def tw5196838286799656571:=0
def tw8441105727346532962:=0
def tw149222391605600313:=0
def tw11305184854603217934:=0
def tw6076390035244109089:=0
def tw18238983824384377619:=0
def tw13837536954581512484:=0
def tw7155863635856696431:=0
def tw934418693533462430:=0
def tw17066264327615203460:=0
def tw10269512275771581339:=0
def tw6603404455712747046:=0
def tw5155325791233440028:=0
def tw5030448006265890813:=0
def tw11284103842841509929:=0
def tw13342619669145119679:=0
def tw10448047319480106774:=0
def tw800234781585192489:=0
def tw4424945951947898056:=0
def tw11236487759455302621:=0
def tw11219640042474568093:=0
def tw10966595575476741127:=0
def tw17499444932785532901:=0
def tw14487578805552206933:=0
def tw859261091917467544:=0
def tw11653942146080460130:=0
def tw8682348334211509025:=0
def tw4676492027459631202:=0
def tw17176426347638811073:=0
def tw14809169110850881316:=0
def tw13162590779012467643:=0
def tw4455579219233455883:=0
def tw2209606423493888132:=0
def tw2419306512771111765:=0
def tw136002970375810681:=0
def tw9818514937759133038:=0
def tw15472593935064252001:=0
def tw13202475322641753574:=0
def tw8979668300313421459:=0
def tw17383931799012346542:=0
def tw11843323718957646780:=0
def tw11118254359331540182:=0
def tw9168320827920076339:=0
def tw18161697772057082790:=0
def tw14971972849584437618:=0
def tw426658467324448200:=0
def tw12613488210421514194:=0
def tw4116069935270407053:=0
def tw17774416431826251021:=0
def tw14232527347611565535:=0
def tw9809184647209269905:=0
def tw5517945207609381426:=0
def tw11185206574607412507:=0
def tw5674997303115507851:=0
def tw11367616872535985418:=0
def tw1072249005503708010:=0
def tw8639100759874842199:=0
def tw5616218738689696799:=0
def tw2912163265815416929:=0
def tw18110371253999879892:=0
def tw1839947412101134705:=0
def tw16063481942460601591:=0
def tw1373977970290625432:=0
def tw12797536055175379130:=0
def tw3133233316058135699:=0
def tw12960882337472295514:=0
def tw7989880124499189946:=0
def tw7735809032102169136:=0
def tw6484878173551578994:=0
def tw2765251927712265806:=0
def tw248762900765704908:=0
def tw15015042275650483582:=0
def tw456720469990047965:=0
def tw7122651473322618540:=0
def tw5940521329923898051:=0
def tw14035851570680590986:=0
def tw16065286364862450933:=0
def tw9830151001896241869:=0
def tw9830793369251160901:=0
def tw3914941592364953465:=0
def tw10919527974870024319:=0
def tw12810385347460359198:=0
def tw13797842157310405262:=0
def tw6254019568853546778:=0
def tw9331011208732723660:=0
def tw3333230147612652333:=0
def tw2393061916241056541:=0
def tw203260114305964684:=0
def tw17614753348843668955:=0
def tw11834467277503531114:=0
def tw838424228917625871:=0
def tw12137882139560063666:=0
def tw16365857030557561836:=0
def tw9275315181752954920:=0
def tw5468104657223020711:=0
def tw14856474642768003325:=0
def tw13514842573604022672:=0
def tw46014469391116567:=0
def tw9514676940225184328:=0
def tw4921197228868271628:=0
def tw3228456532071514822:=0
def tw3218497800011246785:=0
def tw16596260352458067079:=0
def tw11332980489529018487:=0
def tw10121717642487997564:=0
def tw9489716312742800019:=0
def tw7499878064863717012:=0
def tw13647906708799643636:=0
def tw2703263137403715344:=0
def tw1693110036407556486:=0
def tw13972759934861882161:=0
def tw3458112529223633059:=0
def tw9673998812570366967:=0
def tw18049449447306301648:=0
def tw17624434867791210019:=0
def tw10857339416941285240:=0
def tw4212596733710470704:=0
def tw12965620222173487180:=0
def tw7534462731623657901:=0
def tw5396750937449599654:=0
def tw4573160427911196826:=0
def tw17971944023814912200:=0
def tw1621945164334113248:=0
def tw15546709752548576412:=0
def tw14445664220651095226:=0
def tw15382015882203976890:=0
def tw9678558618287163373:=0
def tw7405557254295302023:=0
def tw8793297393836737479:=0
def tw3529093964294829271:=0
def tw3377929686840661080:=0
def tw3128575369144951559:=0
def tw17204764396727402473:=0
def tw10889971806779784169:=0
def tw10846567267494719314:=0
def tw4272262705704239732:=0
def tw3822964289041037046:=0
def tw3145836337132042131:=0
def tw16966848643210020307:=0
def tw130223959485380825:=0
def tw1112257458398803967:=0
def tw43434717907237453:=0
def tw12834807849917330609:=0
def tw4296580607543477354:=0
abbrev tw7280007432142842914:=PySem.Challenge.pw_wirequotients_s01_trans
theorem te7280007432142842914:PySem.Challenge.pw_wirequotients_s01_trans=tw7280007432142842914:=rfl
end PySem.W.Fast
open PySem PySem.W PyProof.Rows
set_option maxRecDepth 100000 in
set_option maxHeartbeats 0 in
theorem PySem.Challenge.cw_wirequotients_s01_trans_holds : PySem.Challenge.rw_wirequotients_s01_trans.Holds := by
 w_on;k_headS;(case hw=>exact⟨[.int 0,.int 0,.int 0,.list []],by decide +kernel,by decide +kernel⟩)
 k_fillS
 refine DR.walk_specK (r:=PySem.Challenge.rw_wirequotients_s01_trans) (k:=44) (ps:=["source","what","k","net"]) (sp:=DR.qD) (by decide +kernel) (by decide +kernel) rfl rfl ⟨rfl,by decide,by decide⟩ (fun w h Y=>PySem.W.kIn_of Y) ?F ?S
 case F=>
  intro w mg fa h Y KX G hmg
  refine DR.all_mk rfl KX G hmg ?W
  constructor
  iterate 11 (show PySem.W.nsIn _ mainGlobals _=some none;k_is)
  iterate 29 (refine' DR.HasInt.mk ?a;(case a=>k_is))
  iterate 75 (refine' DR.HasFn.mk ?a ?l ?c ?k;(case a=>k_is);(case l=>k_is);(case c=>k_is);(case k=>k_is))
  (refine' DR.HasCls.mk ?a ?i ?f ?l ?c ?k ?pg ?hd ?po ?sa ?mk ?kc ⟨?n0,?n1,?n2,?n3,?n4,?n5,?n6,trivial⟩;(case a=>k_is);(case i=>k_is);(case f=>k_is);(case l=>k_is);(case c=>k_is);(case k=>k_is);(case pg=>k_is);(case hd=>k_is);(case po=>k_is);(case sa=>k_is);(case mk=>k_is);(case kc=>k_is);(case n0=>k_is);(case n1=>k_is);(case n2=>k_is);(case n3=>k_is);(case n4=>k_is);(case n5=>k_is);(case n6=>k_is))
  (refine' DR.HasCls.mk ?a ?i ?f ?l ?c ?k ?pg ?hd ?po ?sa ?mk ?kc ⟨?n0,?n1,trivial⟩;(case a=>k_is);(case i=>k_is);(case f=>k_is);(case l=>k_is);(case c=>k_is);(case k=>k_is);(case pg=>k_is);(case hd=>k_is);(case po=>k_is);(case sa=>k_is);(case mk=>k_is);(case kc=>k_is);(case n0=>k_is);(case n1=>k_is))
  (refine' DR.HasCls.mk ?a ?i ?f ?l ?c ?k ?pg ?hd ?po ?sa ?mk ?kc ⟨?n0,?n1,?n2,trivial⟩;(case a=>k_is);(case i=>k_is);(case f=>k_is);(case l=>k_is);(case c=>k_is);(case k=>k_is);(case pg=>k_is);(case hd=>k_is);(case po=>k_is);(case sa=>k_is);(case mk=>k_is);(case kc=>k_is);(case n0=>k_is);(case n1=>k_is);(case n2=>k_is))
  (refine' DR.HasCls.mk ?a ?i ?f ?l ?c ?k ?pg ?hd ?po ?sa ?mk ?kc ⟨?n0,?n1,?n2,?n3,?n4,?n5,trivial⟩;(case a=>k_is);(case i=>k_is);(case f=>k_is);(case l=>k_is);(case c=>k_is);(case k=>k_is);(case pg=>k_is);(case hd=>k_is);(case po=>k_is);(case sa=>k_is);(case mk=>k_is);(case kc=>k_is);(case n0=>k_is);(case n1=>k_is);(case n2=>k_is);(case n3=>k_is);(case n4=>k_is);(case n5=>k_is))
  (refine' DR.HasCls.mk ?a ?i ?f ?l ?c ?k ?pg ?hd ?po ?sa ?mk ?kc ⟨?n0,?n1,trivial⟩;(case a=>k_is);(case i=>k_is);(case f=>k_is);(case l=>k_is);(case c=>k_is);(case k=>k_is);(case pg=>k_is);(case hd=>k_is);(case po=>k_is);(case sa=>k_is);(case mk=>k_is);(case kc=>k_is);(case n0=>k_is);(case n1=>k_is))
  (refine' DR.HasCls.mk ?a ?i ?f ?l ?c ?k ?pg ?hd ?po ?sa ?mk ?kc ⟨?n0,?n1,trivial⟩;(case a=>k_is);(case i=>k_is);(case f=>k_is);(case l=>k_is);(case c=>k_is);(case k=>k_is);(case pg=>k_is);(case hd=>k_is);(case po=>k_is);(case sa=>k_is);(case mk=>k_is);(case kc=>k_is);(case n0=>k_is);(case n1=>k_is))
  (refine' DR.HasTab.mk ?a ?l ?t0 ?t1 ?t2 ?t3 ?t4 ?t5 ?t6 ?t7 ?t8 ?t9 ?t10 ?t11 ?t12 ?t13;(case a=>k_is);(case l=>k_is);(case t0=>k_is);(case t1=>k_is);(case t2=>k_is);(case t3=>k_is);(case t4=>k_is);(case t5=>k_is);(case t6=>k_is);(case t7=>k_is);(case t8=>k_is);(case t9=>k_is);(case t10=>k_is);(case t11=>k_is);(case t12=>k_is);(case t13=>k_is))
 case S=>
  intro K H xs a hO hwi hask hx
  have q:(Codec.inInt 0 4294967295 a.1&&(Codec.inInt 0 4294967295 a.2.1&&(Codec.inInt 0 4294967295 a.2.2.1&&((Codec.inLen 0 120 a.2.2.2.1&&a.2.2.2.1.all (Codec.inInt (-4294967295) 4294967295))&&true))))=true:=hwi
  rw[Bool.and_eq_true,Bool.and_eq_true,Bool.and_eq_true,Bool.and_eq_true,Bool.and_eq_true] at q
  obtain⟨q1,q2,q3,⟨q4,_⟩,_⟩:=q
  exact DR.sp_of (Codec.inInt_iff.mp q1).1 (Codec.inInt_iff.mp q2).1 (Codec.inInt_iff.mp q3).1 (Codec.inNat_iff.mp q4).2 hx
