import PyProof.Rows.All
import Wide.All
import OpenK.AllK
import Wide.FinOn
import PyProof.EqAt
import PyProof.EqKinds
import PyProof.TupleCall
import KE.BitLaws
import KE.IntBitsLaws
import WhPoly
import WhBSpec
import PyWrwirb
import PySem.Challenge.RW0_wirequotients_s02_value
import Open.SpecLaws
import KE.OsHead
import KE.OsGo
import KE.SpHead
import KE.OsShapes
import PySem.Challenge.RW_wirequotients_s02_value
set_option Elab.async false
set_option linter.all false
set_option maxRecDepth 100000
set_option maxHeartbeats 2000000
theorem gDe{A:Type _}{l:List A}{i:Nat}{d:A}:l.getD i d=(l[i]?).getD d:=List.getD_eq_getElem?_getD
theorem lMp{A:Type _}{B:Type _}{l:List A}(f:A→B):(l.map f).length=l.length:=List.length_map f
namespace L2
open PySem PySem.Spec PyProof.Rows
abbrev Key:=Sum Int Str
def Lq:Key→Value→Bool
 | .inl k,v=>Value.isInt k v
 | .inr x,v=>Value.isStrOf x v
def OZ(w:World):Key→Int
 | .inl k=>hashInt k
 | .inr x=>hashStr w x
theorem dc:∀{k:Key} {v:Value},Lq k v=true→(∃i t,k=Sum.inl i∧v=Value.int i t)∨(∃x t,k=Sum.inr x∧v=Value.str x t)
 | .inl i,v,h=>by
  obtain⟨t,e⟩:=Value.isInt_shape (k:=i) (v:=v) h
  exact .inl ⟨i,t,rfl,e⟩
 | .inr x,v,h=>by
  obtain⟨t,e⟩:=Value.isStrOf_shape (x:=x) (v:=v) h
  exact .inr ⟨x,t,rfl,e⟩
theorem LV(a b:Int):decide ((Sum.inl a:Key)=Sum.inl b)=(a==b):=by
 by_cases e:a=b
 ·subst e;simp
 ·have h:¬(Sum.inl a:Key)=Sum.inl b:=fun q=>e (Sum.inl.inj q)
  rw[decide_eq_false h]
  exact(beq_eq_false_iff_ne.mpr e).symm
theorem LW(a b:Str):decide ((Sum.inr a:Key)=Sum.inr b)=decide (a=b):=by
 by_cases e:a=b
 ·subst e;simp
 ·have h:¬(Sum.inr a:Key)=Sum.inr b:=fun q=>e (Sum.inr.inj q)
  rw[decide_eq_false h,decide_eq_false e]
theorem LX(a:Int)(b:Str):decide ((Sum.inl a:Key)=Sum.inr b)=false:=decide_eq_false (fun q=>nomatch q)
theorem LY(a:Str)(b:Int):decide ((Sum.inr a:Key)=Sum.inl b)=false:=decide_eq_false (fun q=>nomatch q)
def AA(prog:Program)(w:World):PySem.KeyKind prog w Key where
 is:=Lq
 hash:=OZ w
 inj:=fun v a b ha hb=>by
  rcases dc ha with⟨i,t,rfl,rfl⟩ |⟨x,t,rfl,rfl⟩
  ·rcases dc hb with⟨j,u,rfl,e⟩ |⟨y,u,rfl,e⟩
   ·injection e with e1 _;rw[e1]
   ·exact nomatch e
  ·rcases dc hb with⟨j,u,rfl,e⟩ |⟨y,u,rfl,e⟩
   ·exact nomatch e
   ·injection e with e1 _;rw[e1]
 byValue:=fun k v h=>by
  rcases dc h with⟨i,t,rfl,rfl⟩ |⟨x,t,rfl,rfl⟩ <;>rfl
 pyHash:=fun hv h=>by
  rcases dc hv with⟨i,t,rfl,rfl⟩ |⟨x,t,rfl,rfl⟩
  ·exact wpAny_pyHash_int h
  ·exact wpAny_pyHash_str h
 eqBool:=fun hu hv h=>by
  rcases dc hu with⟨i,t,rfl,rfl⟩ |⟨x,t,rfl,rfl⟩
  ·rcases dc hv with⟨j,u,rfl,rfl⟩ |⟨y,u,rfl,rfl⟩
   ·rw[LV] at h;exact wpAny_eqBool_int h
   ·rw[LX] at h;exact SeqAt.EqAt.int_str i t y u _ _ _ _ h
  ·rcases dc hv with⟨j,u,rfl,rfl⟩ |⟨y,u,rfl,rfl⟩
   ·rw[LY] at h;exact SeqAt.EqAt.str_int x t j u _ _ _ _ h
   ·rw[LW] at h;exact wpAny_eqBool_str h
 «strs»:=fun k x t v h=>by
  rcases dc h with⟨i,u,rfl,e⟩ |⟨y,u,rfl,e⟩
  ·exact nomatch e
  ·injection e with e1 _
   subst e1
   cases v <;>rfl
inductive V where
 |fG |bl (b:Bool) |int (i:Int) |str (x:Str) |AB (b:Array UInt8) |Np (b:UInt64) |ref (a:Addr) |ty (n:String)
 deriving DecidableEq
def RelV:V→Value→Prop
 | .fG,u=>u=Value.none
 | .bl b,u=>u=Value.bool b
 | .int i,u=>∃t,u=Value.int i t
 | .str x,u=>∃t,u=Value.str x t
 | .AB b,u=>∃t,u=Value.bytes b t
 | .Np b,u=>∃t,u=Value.float b t
 | .ref a,u=>u=Value.ref a
 | .ty n,u=>u=Value.type n
abbrev Vals:List V→List Value→Prop:=Paired RelV
theorem Vals.length{xs:List V}{us:List Value}(r:Vals xs us):xs.length=us.length:=Paired.length r
theorem Vals.get:∀{xs:List V} {us:List Value} {i:Nat} {x:V},Vals xs us→xs[i]? =some x→∃u,us[i]? =some u∧RelV x u
 |_,_,_,_,.nil,e=>by simp at e
 |_,_,0,_,.cons r _,e=>by simp at e;subst e;exact⟨_,rfl,r⟩
 |_,_,i+1,x,.cons _ t,e=>by
  obtain⟨u,h1,h2⟩:=Vals.get (i:=i) (x:=x) t (by simpa using e)
  exact⟨u,by simpa using h1,h2⟩
theorem Vals.set{x:V}{u:Value}(r:RelV x u):∀{xs:List V} {us:List Value} (i:Nat),Vals xs us→Vals (xs.set i x) (us.set i u)
 |_,_,_,.nil=> .nil
 |_,_,0,.cons _ t=> .cons r t
 |_,_,i+1,.cons q t=> .cons q (Vals.set r i t)
theorem Vals.append:∀{xs ys:List V} {us ws:List Value},Vals xs us→Vals ys ws→Vals (xs ++ ys) (us ++ ws)
 |_,_,_,_,.nil,s=>s
 |_,_,_,_,.cons r t,s=> .cons r (Vals.append t s)
theorem Vals.take:∀{xs:List V} {us:List Value} (n:Nat),Vals xs us→Vals (xs.take n) (us.take n)
 |_,_,0,_=> .nil
 |_,_,_+ 1,.nil=> .nil
 |_,_,n+1,.cons r t=> .cons r (Vals.take n t)
theorem Vals.drop:∀{xs:List V} {us:List Value} (n:Nat),Vals xs us→Vals (xs.drop n) (us.drop n)
 |_,_,0,r=>r
 |_,_,_+ 1,.nil=> .nil
 |_,_,n+1,.cons _ t=>Vals.drop n t
def DP:Option V→Option Value→Prop
 |some v,some u=>RelV v u
 |none,none=>True
 |_,_=>False
def KV{κ:Type}:List (κ×V)→List (κ×Value)→Prop:=Paired fun(p:κ×V) (q:κ×Value)=>p.1=q.1∧RelV p.2 q.2
def kV:Key→V
 | .inl i=> .int i
 | .inr x=> .str x
inductive HO where
  |lst (xs:List V)
  |tup (xs:List V)
  |dK (kvs:List (Key×V)) |dT (kvs:List (List Key×V))
  |set (S:Int→Bool) (n:Nat)
  |ins (C dx:Addr) (fs:List (Str×V))
  |own (x:Addr)
  |xd (fs:List (Str×V))
  |met (f x:Addr)
  |O0 (lo hi:Int)
  |AD (o:Obj) (u:HO)
  |LZ (ps:Array Value)
  |ext (φ:Heap→Prop)
abbrev Hp:=Addr→Option HO
def upd(H:Hp)(a:Addr)(o:HO):Hp:=fun b=>if b=a then some o else H b
theorem ai{H:Hp}{a:Addr}{o:HO}:upd H a o a=some o:=by unfold upd;rw[if_pos rfl]
theorem aR{H:Hp}{a b:Addr}{o:HO}(h:b≠a):upd H a o b=H b:=by unfold upd;rw[if_neg h]
theorem ij{H:Hp}{a:Addr}{o u:HO}:upd (upd H a o) a u=upd H a u:=by
 funext b;unfold upd;split <;>rfl
theorem B9{H:Hp}{a b:Addr}{o u:HO}(h:H a=some o)(h':H b=some u)(d:o≠u):a≠b:=by
 intro e;subst e;rw[h] at h';exact d (Option.some.inj h')
theorem bT{H:Hp}{a b:Addr}{o:HO}(h:H a=some o)(h':H b=none):a≠b:=by
 intro e;subst e;rw[h] at h';cases h'
section
variable (P:Program)(w:World)
def gm(H:Hp)(h:Heap)(a:Addr):HO→Prop
 | .lst xs=>xs.length≤sizeLine∧∃(its:List Value) (n:Nat),Vals xs its∧h.get? a=some {cls:= .type "list",data:= .seq its.toArray n}
 | .tup xs=>xs.length≤sizeLine∧∃its:List Value,Vals xs its∧IsTup h a its.toArray
 | .dK kvs=>kvs.length≤sizeLine∧(a==sysModules)=false∧∃vs,KV kvs vs∧h.DictOf (AA P w) a vs
 | .dT kvs=>kvs.length≤sizeLine∧(a==sysModules)=false∧∃xs:List (List Key×Addr×Value),
   Paired (fun(p:List Key×V) (q:List Key×Addr×Value)=>p.1=q.1∧H q.2.1=some (.tup (p.1.map kV))∧RelV p.2 q.2.2) kvs xs∧
   ∃o es ep,h.get? a=some o∧o.ExactDict∧o.data= .dict es ep∧es.toList=xs.map (entryOfKey (tupleKind (AA P w)))∧(xs.map (·.1)).Nodup
 | .set S n=>h.SetOf (intKind P w) a S n
 | .ins C dx fs=>H dx=some (.own a)∧fs.length≤1000∧dx≠a∧h.get? a=some (PySem.W.instObj C dx)∧
   ∃mA,h.Ns1 dx mA∧(∀f,DP (fs.lookup f) (mA f))∧PySem.Within mA (fs.map (·.1))
 | .own _=>∃o,h.get? a=some o
 | .xd fs=>∃mA,h.Ns1 a mA∧∀f,DP (fs.lookup f) (mA f)
 | .O0 lo hi=>∃t u v,h.get? a=some {cls:= .type "range",data:= .fields #[.int lo t,.int hi u,.int 1 v]}
 | .AD o u=>h.get? a=some o∧gm H h a u
 | .LZ ps=>h.get? a=some {cls:= .none,data:= .fields ps}
 | .met f x=>h.get? a=some (PySem.W.methodObj (.ref f) (.ref x))
 | .ext φ=>φ h∧(∃o,h.get? a=some o)∧∀h1 h2:Heap,φ h1→(∀o,h1.get? a=some o→h2.get? a=some o)→φ h2
def rF(H:Hp)(h:Heap):Prop:=∀a o,H a=some o→gm P w H h a o
end
section
variable {P:Program}{w:World}{H H':Hp}{h h':Heap}{a:Addr}{o:HO}
theorem gm.lt(x:gm P w H h a o):a<h.objs.size:=by
 cases o with
 |lst xs=>obtain⟨_,_,_,_,e⟩:=x;exact Heap.lt_size e
 |tup xs=>obtain⟨_,_,_,p⟩:=x;exact p.lt
 |dK kvs=>obtain⟨_,_,_,_,o,_,_,e,_⟩:=x;exact Heap.lt_size e
 |dT kvs=>obtain⟨_,_,_,_,o,_,_,e,_⟩:=x;exact Heap.lt_size e
 |set S n=>obtain⟨o,_,_,_,e,_⟩:=x;exact Heap.lt_size e
 |ins C dx fs=>obtain⟨_,_,_,e,_⟩:=x;exact Heap.lt_size e
 |own y=>obtain⟨_,e⟩:=x;exact Heap.lt_size e
 |xd fs=>obtain⟨_,⟨_,_,_,e,_⟩,_⟩:=x;exact Heap.lt_size e
 |O0 lo hi=>obtain⟨_,_,_,e⟩:=x;exact Heap.lt_size e
 |AD ob u=>obtain⟨e,_⟩:=x;exact Heap.lt_size e
 |LZ ps=>exact Heap.lt_size (show h.get? a=some _ from x)
 |met f y=>exact Heap.lt_size (show h.get? a=some _ from x)
 |ext φ=>obtain⟨_,⟨_,e⟩,_⟩:=x;exact Heap.lt_size e
theorem Paired.L1{α β:Type}{F G:α→β→Prop}:∀{l₁:List α} {l₂:List β},Paired F l₁ l₂→(∀a b,F a b→G a b)→Paired G l₁ l₂
 |_,_,.nil,_=> .nil
 |_,_,.cons r t,f=> .cons (f _ _ r) (Paired.L1 t f)
theorem gm.DQ(x:gm P w H h a o)(k:∀b u,(b=a∨H b=some (.own a))→h.get? b=some u→h'.get? b=some u)
  (ho:∀b,H b=some (.own a)→H' b=some (.own a)) (ht:∀b xs,H b=some (.tup xs)→H' b=some (.tup xs)):gm P w H' h' a o:=by
 induction o with
 |lst xs=>obtain⟨z,its,n,r,e⟩:=x;exact⟨z,its,n,r,k _ _ (.inl rfl) e⟩
 |tup xs=>obtain⟨z,its,r,ob,e,c⟩:=x;exact⟨z,its,r,ob,k _ _ (.inl rfl) e,c⟩
 |dK kvs=>obtain⟨z,y,vs,r,ob,es,ep,e,c⟩:=x;exact⟨z,y,vs,r,ob,es,ep,k _ _ (.inl rfl) e,c⟩
 |dT kvs=>
  obtain⟨z,y,xs,r,ob,es,ep,e,c⟩:=x
  exact⟨z,y,xs,Paired.L1 r fun p q z=>⟨z.1,ht _ _ z.2.1,z.2.2⟩,ob,es,ep,k _ _ (.inl rfl) e,c⟩
 |set S n=>obtain⟨ob,es,ep,t,e,c⟩:=x;exact⟨ob,es,ep,t,k _ _ (.inl rfl) e,c⟩
 |ins C dx fs=>
  obtain⟨d,z,ne,e,mA,⟨od,es,ep,e2,c⟩,r⟩:=x
  exact⟨ho _ d,z,ne,k _ _ (.inl rfl) e,mA,⟨od,es,ep,k _ _ (.inr d) e2,c⟩,r⟩
 |own y=>obtain⟨ob,e⟩:=x;exact⟨ob,k _ _ (.inl rfl) e⟩
 |xd fs=>obtain⟨mA,⟨od,es,ep,e,c⟩,r⟩:=x;exact⟨mA,⟨od,es,ep,k _ _ (.inl rfl) e,c⟩,r⟩
 |O0 lo hi=>obtain⟨t,u,v,e⟩:=x;exact⟨t,u,v,k _ _ (.inl rfl) e⟩
 |AD ob u ih=>obtain⟨e,q⟩:=x;exact⟨k _ _ (.inl rfl) e,ih q⟩
 |LZ ps=>
  have e:h.get? a=some {cls:= .none,data:= .fields ps}:=x
  show h'.get? a=some {cls:= .none,data:= .fields ps}
  exact k a _ (.inl rfl) e
 |met f y=>
  have e:h.get? a=some (PySem.W.methodObj (.ref f) (.ref y)):=x
  show h'.get? a=some (PySem.W.methodObj (.ref f) (.ref y))
  exact k a _ (.inl rfl) e
 |ext φ=>obtain⟨p,⟨o,e⟩,st⟩:=x;exact⟨st _ _ p fun o q=>k _ _ (.inl rfl) q,⟨o,k _ _ (.inl rfl) e⟩,st⟩
theorem rF.lt(x:rF P w H h)(e:H a=some o):a<h.objs.size:=(x a o e).lt
theorem rF.fresh(x:rF P w H h)(e:h.objs.size≤a):H a=none:=by
 cases q:H a with
 |none=>rfl
 |some u=>exact absurd (Nat.lt_of_lt_of_le (x.lt q) e) (Nat.lt_irrefl _)
theorem rF.kept(x:rF P w H h)(k:∀b u,h.get? b=some u→h'.get? b=some u):rF P w H h':=fun a o e=>
 (x a o e).DQ (fun b u _ q=>k b u q) (fun _ q=>q) fun _ _ q=>q
theorem rF.laid(x:rF P w H h)(k:∀b u,h.get? b=some u→h'.get? b=some u)(hp:h.objs.size≤a)(new:gm P w (upd H a o) h' a o):rF P w (upd H a o) h':=fun b u e=>by
 have hn:=x.fresh hp
 by_cases hb:b=a
 ·subst hb;rw[ai] at e;cases e;exact new
 ·rw[aR hb] at e
  exact(x b u e).DQ (fun c v _ q=>k c v q) (fun c q=>by rw[aR (bT q hn)];exact q) fun c xs q=>by rw[aR (bT q hn)];exact q
end
def Rd(H:Hp)(a:Addr)(u:HO):Prop:=H a=some u∨∃o,H a=some (.AD o u)
theorem Rd.ok{P:Program}{w:World}{H:Hp}{h:Heap}{a:Addr}{u:HO}(r:Rd H a u)(x:rF P w H h):gm P w H h a u:=by
 rcases r with r |⟨o,r⟩
 ·exact x a u r
 ·obtain⟨_,q⟩:=x a _ r
  exact q
def OS:Option HO→Prop
 |some (.lst _)=>True
 |some (.dK _)=>True
 |some (.dT _)=>True
 |some (.set _ _)=>True
 |some (.ins _ _ _)=>True
 |some (.ext _)=>True
 |_=>False
section
variable {P:Program}{w:World}{H:Hp}{h h':Heap}{x e:Addr}{o':HO}
theorem rF.write(ok:rF P w H h)(mu:OS (H x))(he:e=x∨H e=some (.own x))(k:∀b u,b≠e→h.get? b=some u→h'.get? b=some u)(heo:∃u,h'.get? e=some u)
  (new:gm P w (upd H x o') h' x o'):rF P w (upd H x o') h':=fun b u q=>by
 have nown:∀c y,H c=some (.own y)→c≠x:=fun c y r z=>by subst z;rw[r] at mu;exact mu
 have ntup:∀c xs,H c=some (.tup xs)→c≠x:=fun c xs r z=>by subst z;rw[r] at mu;exact mu
 by_cases hb:b=x
 ·subst hb;rw[ai] at q;cases q;exact new
 ·rw[aR hb] at q
  by_cases hbe:b=e
  ·have q':H b=some (.own x):=by
    rcases he with z |z
    ·exact absurd (hbe.trans z) hb
    ·rw[hbe];exact z
   rw[q] at q';cases q'
   obtain⟨v,hv⟩:=heo
   exact⟨v,by rw[hbe];exact hv⟩
  ·refine(ok b u q).DQ (fun c v hc r=>k c v ?_ r) (fun c r=>by rw[aR (nown c b r)];exact r) fun c xs r=>by rw[aR (ntup c xs r)];exact r
   rcases hc with rfl |hc
   ·exact hbe
   ·rintro rfl
    rcases he with z |z
    ·exact nown c b hc z
    ·rw[hc] at z;cases z;exact hb rfl
end
structure Un(fs ex:List Addr)(H H':Hp)(h h':Heap):Prop where
 keep:∀b o,h.get? b=some o→H b=none→b∉fs→b∉ex→h'.get? b=some o
 slot:∀b o,h.get? b=some o→H b=none→b∈fs→b∉ex→∃sl,h'.get? b=some {o with slots:=sl}
 free:∀b o,h.get? b=some o→H b=none→b∉ex→H' b=none
 there:∀b o,h.get? b=some o→b∉ex→∃o',h'.get? b=some o'
 Ca:∀b xs,H b=some (.tup xs)→H' b=some (.tup xs)
 AE:∀b o u,H b=some (.AD o u)→H' b=some (.AD o u)
 Cb:∀b ps,H b=some (.LZ ps)→∃more,H' b=some (.LZ (ps ++ more))
section
variable {fs fs' ex ex':List Addr}{H H1 H2:Hp}{h h1 h2 h':Heap}{a x e:Addr}{o:HO}
theorem Un.any(u:Un fs ex H H1 h h1){b:Addr}{ob:Obj}(q:h.get? b=some ob)(n:H b=none)(hx:b∉ex):∃sl,h1.get? b=some {ob with slots:=sl}:=by
 by_cases hb:b∈fs
 ·exact u.slot b ob q n hb hx
 ·exact⟨ob.slots,u.keep b ob q n hb hx⟩
theorem Un.kept(k:∀b u,h.get? b=some u→h'.get? b=some u):Un fs ex H H h h':=
 ⟨fun b ob q _ _ _=>k b ob q,fun b ob q _ _ _=>⟨ob.slots,k b ob q⟩,fun _ _ _ n _=>n,fun b ob q _=>⟨ob,k b ob q⟩,fun _ _ q=>q,fun _ _ _ q=>q,fun _ ps q=>⟨#[],by rw[q];simp⟩⟩
theorem Un.refl:Un fs ex H H h h:=Un.kept fun _ _ q=>q
theorem Un.laid(k:∀b u,h.get? b=some u→h'.get? b=some u)(hp:h.objs.size≤a)(hn:H a=none):Un fs ex H (upd H a o) h h' where
 keep:=fun b u q _ _ _=>k b u q
 slot:=fun b u q _ _ _=>⟨u.slots,k b u q⟩
 free:=fun b u q n _=>by rw[aR (Nat.ne_of_lt (Nat.lt_of_lt_of_le (Heap.lt_size q) hp))];exact n
 there:=fun b u q _=>⟨u,k b u q⟩
 Ca:=fun b xs q=>by rw[aR (bT q hn)];exact q
 AE:=fun b u xs q=>by rw[aR (bT q hn)];exact q
 Cb:=fun b ps q=>⟨#[],by rw[aR (bT q hn),q];simp⟩
theorem Un.write(mu:OS (H x))(he:e=x∨H e=some (.own x))(k:∀b u,b≠e→h.get? b=some u→h'.get? b=some u)(heo:∃u,h'.get? e=some u):Un fs ex H (upd H x o) h h':=by
 have hx:∀b,H b=none→b≠x:=fun b n z=>by subst z;rw[n] at mu;exact mu
 have hb:∀b,H b=none→b≠e:=fun b n z=>by
  subst z
  rcases he with r |r
  ·exact hx b n r
  ·rw[n] at r;cases r
 have hm:∀b u,H b=some u→¬OS (some u)→b≠x:=fun b u q nm z=>by subst z;rw[q] at mu;exact nm mu
 refine⟨fun b u q n _ _=>k b u (hb b n) q,fun b u q n _ _=>⟨u.slots,k b u (hb b n) q⟩,fun b u q n _=>by rw[aR (hx b n)];exact n,fun b u q _=> ?_,
  fun b xs q=>by rw[aR (hm b _ q fun z=>z)];exact q,fun b u xs q=>by rw[aR (hm b _ q fun z=>z)];exact q,fun b ps q=>⟨#[],by rw[aR (hm b _ q fun z=>z),q];simp⟩⟩
 by_cases hbe:b=e
 ·subst hbe;exact heo
 ·exact⟨u,k b u hbe q⟩
end
def OT(h:Heap)(H:Hp):List Addr:=(List.range h.objs.size).filter fun a=>(H a).isSome
def yG(h:Heap)(H:Hp):Heap:=PySem.W.hideAll h (OT h H)
theorem GO(h:Heap)(H:Hp):(yG h H).objs.size=h.objs.size:=PySem.W.hideAll_size _ _
theorem Ib{h:Heap}{H:Hp}{b:Addr}{o:Obj}(e:h.get? b=some o)(n:H b=none):(yG h H).get? b=some o:=
 PySem.W.hideAll_get _ e fun hm=>by
  have q:(H b).isSome=true:=(List.mem_filter.mp hm).2
  rw[n] at q;simp at q
theorem Kg{h:Heap}{H:Hp}{b:Addr}{o:Obj}(e:(yG h H).get? b=some o):h.get? b=some o∧H b=none:=by
 have e':h.get? b=some o:=PySem.W.of_hideAll (OT h H) e
 refine⟨e',?_⟩
 cases q:H b with
 |none=>rfl
 |some x=>
  have hm:b∈OT h H:=List.mem_filter.mpr ⟨List.mem_range.mpr (Heap.lt_size e'),by simp[q]⟩
  have z:(yG h H).get? b=none:=PySem.W.hideAll_none (OT h H) hm
  rw[z] at e;cases e
structure Mod(K:PySem.W.Frag)(mg:Str→Option Value)(base:Heap):Prop where
 Nq:K.In base
 glob:base.Ns mainGlobals mg
 blt:∃mb,base.Ns builtinsNs mb∧∀x:Str,x≠"__name__"→mb x=bootBuiltins x
 nolimit:base.NoLimit
structure Cx where
 prog:Program
 w:World
 K:PySem.W.Frag
 mg:Str→Option Value
 base:Heap
 A:Around
 N:List Str
 zA:Shared
 Nr:Hp
 env:Env
 outer:List Env
 stack:List Env
 ex:List Addr
 fn:Str→Bool
 calm:Bool
 pn:List (Addr×Obj)
 xe:Value→Shared→Prop
def Ic(l:List Env):List Addr:=l.filterMap (·.frame)
abbrev Cx.fs(X:Cx):List Addr:=Ic X.outer
def Nd(sc:Scope)(x:Str):Prop:=sc.names.lookup x=some .local∨sc.names.lookup x=some .cell∨sc.names.lookup x=some .free
def Loc(sc:Scope)(x:Str):Prop:=sc.names.lookup x=some .local∨sc.names.lookup x=some .cell
def Look(env:Env)(h:Heap)(m:Str→Option Value)(x:Str)(u:Value):Prop:=
 (env.kindOf x=some .local∧m x=some u)∨((env.kindOf x=some .cell∨env.kindOf x=some .free)∧∃c,env.cells.lookup x=some c∧h.IsCell c (some u))
structure Cx.Ok(X:Cx):Prop where
 mod:Mod X.K X.mg X.base
 kind:X.env.scope.kind= .function
 glob:X.env.globals=mainGlobals
 blt:X.env.builtins=builtinsNs
 above:X.zA.heap.objs.size≤X.env.locals
 inj:∀x y c,X.env.cells.lookup x=some c→X.env.cells.lookup y=some c→x=y
 has:∀x,(X.env.kindOf x=some .cell∨X.env.kindOf x=some .free)→∃c,X.env.cells.lookup x=some c
 Nt:∀x c,X.fn x=true→X.env.cells.lookup x=some c→X.zA.heap.objs.size≤c
 hd:X.calm=true→X.A.handled=none
 frames:X.A.frames=some X.stack
 Nf:X.stack=X.outer∨(X.stack=X.env::X.outer∧X.env.frame=some X.env.locals)
 OU:∀b∈X.ex,b≠X.env.locals∧∀x c,X.env.cells.lookup x=some c→c≠b
 bs:∀b o,X.base.get? b=some o→X.zA.heap.get? b=some o∧X.Nr b=none
 Kh:X.base.objs.size≤X.zA.heap.objs.size
 Ie:∀b o,X.base.get? b=some o→b∉X.ex
 Ig:∀b∈X.ex,b∉X.fs
 vL:X.zA.heap.FunFrames X.base X.outer
 L3:∀b∈X.fs,X.Nr b=none
structure Inv(X:Cx)(pins:List (Addr×Obj))(σ:List (Option V))(H:Hp)(s:Shared):Prop where
 ok:X.Ok
 os:s.os=X.zA.os
 bare:AllBare s.gens
 base:Un X.fs X.ex X.Nr H X.zA.heap s.heap
 loc:∃m,s.heap.Ns X.env.locals m∧∀(i:Nat) (x:Str) (v:V),X.N[i]? =some x→σ[i]? =some (some v)→Nd X.env.scope x→∃u,RelV v u∧Look X.env s.heap m x u
 cell:∀x c,X.env.cells.lookup x=some c→∃v,s.heap.IsCell c v
 free:H X.env.locals=none
 nP:∀x c,X.env.cells.lookup x=some c→H c=none
 pin:∀p∈X.pn ++ pins,s.heap.get? p.1=some p.2∧H p.1=none∧p.1≠X.env.locals∧p.1∉X.fs∧∀v,p.2.data≠.cell v
 dB:rF X.prog X.w H s.heap
 len:σ.length=X.N.length
section
variable {X:Cx}{pins:List (Addr×Obj)}{σ:List (Option V)}{H H':Hp}{s:Shared}{h':Heap}
theorem Cx.Ok.O1(ok:X.Ok){b:Addr}{o:Obj}(e:X.base.get? b=some o):b∉X.fs:=fun hb=>by
 have:=(ok.vL.mem hb).1
 rw[e] at this;cases this
theorem Inv.bs(I:Inv X pins σ H s):∀b o,X.base.get? b=some o→s.heap.get? b=some o∧H b=none:=fun b o e=>
 ⟨I.base.keep b o (I.ok.bs b o e).1 (I.ok.bs b o e).2 (I.ok.O1 e) (I.ok.Ie b o e),I.base.free b o (I.ok.bs b o e).1 (I.ok.bs b o e).2 (I.ok.Ie b o e)⟩
theorem Inv.bk(I:Inv X pins σ H s):∀b o,X.base.get? b=some o→s.heap.get? b=some o:=fun b o e=>(I.bs b o e).1
theorem Inv.mod(I:Inv X pins σ H s):Mod X.K X.mg X.base:=I.ok.mod
theorem Inv.HW(I:Inv X pins σ H s):X.K.In s.heap:=I.ok.mod.Nq.keeps I.bk
theorem Inv.nolimit(I:Inv X pins σ H s):s.heap.NoLimit:=I.ok.mod.nolimit.keeps I.bk
theorem Inv.lt(I:Inv X pins σ H s):X.env.locals<s.heap.objs.size:=let ⟨_,hn,_⟩:=I.loc;hn.lt
theorem Inv.sz(I:Inv X pins σ H s):X.zA.heap.objs.size≤s.heap.objs.size:=Nat.le_trans I.ok.above (Nat.le_of_lt I.lt)
theorem Inv.O2(I:Inv X pins σ H s){a:Addr}(h:s.heap.objs.size≤a):a∉X.fs:=fun hb=>by
 obtain⟨_,o,ho,_⟩:=I.ok.vL.mem hb
 exact absurd (Nat.lt_of_lt_of_le (Heap.lt_size ho) (Nat.le_trans I.sz h)) (Nat.lt_irrefl _)
theorem Inv.Ki(I:Inv X pins σ H s):∀x c,X.env.cells.lookup x=some c→c≠X.env.locals:=fun x c e z=>by
 obtain⟨v,o,ho,hd⟩:=I.cell x c e
 obtain⟨m,⟨o',es,ep,ho',hd',_⟩,_⟩:=I.loc
 rw[z,ho'] at ho;cases ho;rw[hd'] at hd;cases hd
theorem Inv.vL(I:Inv X pins σ H s):s.heap.FunFrames X.base X.outer:=by
 have all:∀(l:List Env),(∀b∈Ic l,b∈X.fs)→X.zA.heap.FunFrames X.base l→s.heap.FunFrames X.base l:=by
  intro l
  induction l with
  |nil=>intro _ _;trivial
  |cons env r ih=>
   intro hs hl
   obtain⟨hk,⟨L,o,hf,hn,ho,hd⟩,hr⟩:=hl
   have hL:L∈X.fs:=hs L (by unfold Ic;rw[List.filterMap_cons,hf];exact List.mem_cons_self)
   obtain⟨sl,e⟩:=I.base.slot L o ho (I.ok.L3 L hL) hL fun z=>I.ok.Ig L z hL
   exact⟨hk,⟨L,_,hf,hn,e,hd⟩,ih (fun b hb=>hs b (by unfold Ic;rw[List.filterMap_cons,hf];exact List.mem_cons_of_mem _ hb)) hr⟩
 exact all X.outer (fun _ hb=>hb) I.ok.vL
theorem Inv.stack(I:Inv X pins σ H s):s.heap.FunFrames X.base X.stack:=by
 rcases I.ok.Nf with e |⟨e,hf⟩
 ·rw[e];exact I.vL
 ·rw[e]
  obtain⟨m,hn,_⟩:=I.loc
  refine .cons (by rw[I.ok.kind];decide) hf hn ?_ I.vL
  exact Heap.get?_none_of_le (Nat.le_trans I.ok.Kh I.ok.above)
theorem Inv.DR(I:Inv X pins σ H s):∀b∈Ic X.stack,b∈X.env.locals::X.fs:=fun b hb=>by
 rcases I.ok.Nf with e |⟨e,hf⟩
 ·rw[e] at hb;exact List.mem_cons_of_mem _ hb
 ·rw[e] at hb
  unfold Ic at hb
  rw[List.filterMap_cons,hf] at hb
  exact hb
theorem Inv.Fw(I:Inv X pins σ H s):∀b∈Ic X.stack,H b=none:=fun b hb=>by
 rcases List.mem_cons.mp (I.DR b hb) with e |hb
 ·rw[e];exact I.free
 ·obtain⟨_,o,ho,_⟩:=I.ok.vL.mem hb
  exact I.base.free b o ho (I.ok.L3 b hb) fun z=>I.ok.Ig b z hb
theorem Inv.step{g':Array GenState}{t':Nat}{d':Drawn}{ch:List Addr}(I:Inv X pins σ H s)
  (hch:∀b∈ch,(b∈X.ex∨X.zA.heap.objs.size≤b)∧b≠X.env.locals∧(∀x c,X.env.cells.lookup x=some c→c≠b)∧∀p∈X.pn ++ pins,p.1≠b)
  (keep:∀b o,b≠X.env.locals→b∉X.fs→b∉ch→s.heap.get? b=some o→H b=none→h'.get? b=some o)
  (slot:∀b o,b≠X.env.locals→b∈X.fs→b∉ch→s.heap.get? b=some o→H b=none→∃sl,h'.get? b=some {o with slots:=sl}) (free:∀b o,b∉ch→s.heap.get? b=some o→H b=none→H' b=none)
  (there:∀b o,b∉ch→s.heap.get? b=some o→∃o',h'.get? b=some o')
  (Ca:∀b xs,H b=some (.tup xs)→H' b=some (.tup xs)) (AE:∀b o u,H b=some (.AD o u)→H' b=some (.AD o u)) (Cb:∀b ps,H b=some (.LZ ps)→∃more,H' b=some (.LZ (ps ++ more)))
  (ns:∀m,s.heap.Ns X.env.locals m→h'.Ns X.env.locals m) (dB:rF X.prog X.w H' h') (hg:AllBare g'):
  Inv X pins σ H' {s with heap:=h',gens:=g',drawn:=d',toks:=t'}:=by
 have neL:∀b o,X.zA.heap.get? b=some o→b≠X.env.locals:=fun b o e=>Nat.ne_of_lt (Nat.lt_of_lt_of_le (Heap.lt_size e) I.ok.above)
 have neC:∀b o,X.zA.heap.get? b=some o→b∉X.ex→b∉ch:=fun b o e hx hb=>by
  rcases(hch b hb).1 with z |z
  ·exact hx z
  ·exact absurd (Nat.lt_of_lt_of_le (Heap.lt_size e) z) (Nat.lt_irrefl _)
 have cellK:∀x c,X.env.cells.lookup x=some c→∀v,s.heap.IsCell c v→h'.IsCell c v:=fun x c e v ⟨o,ho,hd⟩=>by
  have nch:c∉ch:=fun z=>(hch c z).2.2.1 x c e rfl
  by_cases hc:c∈X.fs
  ·obtain⟨sl,q⟩:=slot c o (I.Ki x c e) hc nch ho (I.nP x c e)
   exact⟨_,q,hd⟩
  ·exact⟨o,keep c o (I.Ki x c e) hc nch ho (I.nP x c e),hd⟩
 refine⟨I.ok,I.os,hg,⟨fun b o e n hb hx=> ?_,fun b o e n hb hx=> ?_,fun b o e n hx=> ?_,fun b o e hx=> ?_,fun b xs e=>Ca b xs (I.base.Ca b xs e),fun b o xs e=>AE b o xs (I.base.AE b o xs e),fun b ps e=> ?_⟩,?_,fun x c e=> ?_,?_,fun x c e=> ?_,fun p hp=> ?_,dB,I.len⟩
 ·exact keep b o (neL b o e) hb (neC b o e hx) (I.base.keep b o e n hb hx) (I.base.free b o e n hx)
 ·obtain⟨sl,e1⟩:=I.base.slot b o e n hb hx
  obtain⟨sl',e2⟩:=slot b _ (neL b o e) hb (neC b o e hx) e1 (I.base.free b o e n hx)
  exact⟨sl',e2⟩
 ·obtain⟨o',e1⟩:=I.base.there b o e hx
  exact free b o' (neC b o e hx) e1 (I.base.free b o e n hx)
 ·obtain⟨o',e1⟩:=I.base.there b o e hx
  exact there b o' (neC b o e hx) e1
 ·obtain⟨m1,e1⟩:=I.base.Cb b ps e
  obtain⟨m2,e2⟩:=Cb b _ e1
  exact⟨m1 ++ m2,by rw[e2,Array.append_assoc]⟩
 ·obtain⟨m,hn,hl⟩:=I.loc
  refine⟨m,ns m hn,fun i x v e1 e2 e3=> ?_⟩
  obtain⟨u,r,l⟩:=hl i x v e1 e2 e3
  refine⟨u,r,?_⟩
  rcases l with l |⟨k,c,e,z⟩
  ·exact .inl l
  ·exact .inr ⟨k,c,e,cellK x c e _ z⟩
 ·obtain⟨v,z⟩:=I.cell x c e
  exact⟨v,cellK x c e v z⟩
 ·obtain⟨m,⟨o,_,_,ho,_⟩,_⟩:=I.loc
  exact free _ o (fun z=>(hch _ z).2.1 rfl) ho I.free
 ·obtain⟨v,o,ho,hd⟩:=I.cell x c e
  exact free c o (fun z=>(hch c z).2.2.1 x c e rfl) ho (I.nP x c e)
 ·obtain⟨e,n,ne,nf,d⟩:=I.pin p hp
  have nch:p.1∉ch:=fun z=>(hch p.1 z).2.2.2 p hp rfl
  exact⟨keep p.1 p.2 ne nf nch e n,free p.1 p.2 nch e n,ne,nf,d⟩
theorem Inv.un{t':Nat}(I:Inv X pins σ H s)(u:Un X.fs [] H H' s.heap h')(dB:rF X.prog X.w H' h'):Inv X pins σ H' {s with heap:=h',toks:=t'}:=by
 obtain⟨m,⟨o,es,ep,ho,r⟩,_⟩:=id I.loc
 obtain⟨sl,hL⟩:=u.any ho I.free (by simp)
 exact I.step (g':=s.gens) (d':=s.drawn) (ch:=[]) (fun _ z=>nomatch z) (fun b o _ hb _ e n=>u.keep b o e n hb (by simp)) (fun b o _ hb _ e n=>u.slot b o e n hb (by simp)) (fun b o _ e n=>u.free b o e n (by simp)) (fun b o _ e=>u.there b o e (by simp)) u.Ca u.AE u.Cb (fun m' hm=>by
  obtain⟨o',es',ep',ho',r'⟩:=hm
  rw[ho] at ho';cases ho'
  exact⟨_,es',ep',hL,r'⟩) dB I.bare
theorem Inv.call{g':Array GenState}{t':Nat}{d':Drawn}{ch:List Addr}(I:Inv X pins σ H s)(u:Un (Ic X.stack) ch H H' s.heap h')(dB:rF X.prog X.w H' h')(hg:AllBare g')
  (hch:∀b∈ch,(b∈X.ex∨X.zA.heap.objs.size≤b)∧b≠X.env.locals∧(∀x c,X.env.cells.lookup x=some c→c≠b)∧∀p∈X.pn ++ pins,p.1≠b):
  Inv X pins σ H' {s with heap:=h',gens:=g',drawn:=d',toks:=t'}:=by
 obtain⟨m,⟨o,es,ep,ho,r⟩,_⟩:=id I.loc
 obtain⟨sl,hL⟩:=u.any ho I.free fun z=>(hch _ z).2.1 rfl
 exact I.step (ch:=ch) hch (fun b o hL hb hc e n=>u.keep b o e n (fun z=>(List.mem_cons.mp (I.DR b z)).elim hL hb) hc) (fun b o _ _ hc e n=>u.any e n hc) (fun b o hc e n=>u.free b o e n hc) (fun b o hc e=>u.there b o e hc) u.Ca u.AE u.Cb (fun m' hm=>by
  obtain⟨o',es',ep',ho',r'⟩:=hm
  rw[ho] at ho';cases ho'
  exact⟨_,es',ep',hL,r'⟩) dB hg
theorem Inv.turned{t':Nat}{it:Addr}(I:Inv X pins σ H s)(k:∀b o,b≠it→s.heap.get? b=some o→h'.get? b=some o)(hn:H it=none)(hL:it≠X.env.locals)
  (h1:it∈X.ex∨X.zA.heap.objs.size≤it) (h2:∀x c,X.env.cells.lookup x=some c→c≠it) (h3:∀p∈X.pn ++ pins,p.1≠it):Inv X pins σ H {s with heap:=h',toks:=t'}:=by
 have nit:∀b u,H b=some u→b≠it:=fun b u e z=>by rw[z,hn] at e;cases e
 refine I.step (g':=s.gens) (d':=s.drawn) (ch:=[it]) (fun b hb=> ?_) (fun b o _ _ hc e _=>k b o (fun z=>hc (by simp[z])) e) (fun b o _ _ hc e _=>⟨o.slots,k b o (fun z=>hc (by simp[z])) e⟩) (fun _ _ _ _ n=>n)
  (fun b o hc e=>⟨o,k b o (fun z=>hc (by simp[z])) e⟩) (fun _ _ e=>e) (fun _ _ _ e=>e) (fun b ps e=>⟨#[],by rw[e];simp⟩) (fun m hm=> ?_) (fun b u e=> ?_) I.bare
 ·have e:b=it:=by simpa using hb
  subst e
  exact⟨h1,hL,h2,h3⟩
 ·obtain⟨o,es,ep,ho,r⟩:=hm
  exact⟨o,es,ep,k _ o (Ne.symm hL) ho,r⟩
 ·refine(I.dB b u e).DQ (fun c v hc q=>k c v ?_ q) (fun _ q=>q) fun _ _ q=>q
  rcases hc with z |z
  ·rw[z];exact nit b u e
  ·exact nit c _ z
theorem Inv.tok(I:Inv X pins σ H s)(t:Nat):Inv X pins σ H {s with toks:=t}:=I.un (h':=s.heap) (t':=t) Un.refl I.dB
theorem Inv.kept{t':Nat}(I:Inv X pins σ H s)(k:∀b u,s.heap.get? b=some u→h'.get? b=some u):Inv X pins σ H {s with heap:=h',toks:=t'}:=I.un (Un.kept k) (I.dB.kept k)
theorem Inv.laid{a:Addr}{o:HO}{t':Nat}(I:Inv X pins σ H s)(k:∀b u,s.heap.get? b=some u→h'.get? b=some u)(hp:s.heap.objs.size≤a)(new:gm X.prog X.w (upd H a o) h' a o):
  Inv X pins σ (upd H a o) {s with heap:=h',toks:=t'}:=I.un (Un.laid k hp (I.dB.fresh hp)) (I.dB.laid k hp new)
theorem Inv.write{x e:Addr}{o:HO}{t':Nat}(I:Inv X pins σ H s)(mu:OS (H x))(he:e=x∨H e=some (.own x))(k:∀b u,b≠e→s.heap.get? b=some u→h'.get? b=some u)(heo:∃u,h'.get? e=some u)
  (new:gm X.prog X.w (upd H x o) h' x o):Inv X pins σ (upd H x o) {s with heap:=h',toks:=t'}:=I.un (Un.write mu he k heo) (I.dB.write mu he k heo new)
theorem Inv.weak{σ':List (Option V)}(I:Inv X pins σ H s)(hl:σ'.length=σ.length)(w:∀(i:Nat) v,σ'[i]? =some (some v)→σ[i]? =some (some v)):Inv X pins σ' H s:=
 ⟨I.ok,I.os,I.bare,I.base,let ⟨m,hn,hl'⟩:=I.loc;⟨m,hn,fun i x v e1 e2 e3=>hl' i x v e1 (w i v e2) e3⟩,I.cell,I.free,I.nP,I.pin,I.dB,hl.trans I.len⟩
theorem Inv.Fx{pins':List (Addr×Obj)}(I:Inv X pins σ H s)(h:∀p∈pins',s.heap.get? p.1=some p.2∧H p.1=none∧p.1≠X.env.locals∧p.1∉X.fs∧∀v,p.2.data≠.cell v):Inv X pins' σ H s:=
 ⟨I.ok,I.os,I.bare,I.base,I.loc,I.cell,I.free,I.nP,fun p hp=>(List.mem_append.mp hp).elim (fun z=>I.pin p (List.mem_append_left _ z)) (h p),I.dB,I.len⟩
theorem wy{N:List Str}(hN:N.Nodup){i j:Nat}{x:Str}(a:N[i]? =some x)(b:N[j]? =some x):i=j:=by
 obtain⟨h1,e1⟩:=List.getElem?_eq_some_iff.mp a
 obtain⟨h2,e2⟩:=List.getElem?_eq_some_iff.mp b
 exact(List.getElem_inj hN).mp (e1.trans e2.symm)
theorem zB{M:Model}{A:Around}{E:Value→Shared→Prop}{i:Nat}{x:Str}{v:V}{u:Value}{Q:Unit→Shared→Prop}(I:Inv X pins σ H s)(hN:X.N.Nodup)(hi:X.N[i]? =some x)(hx:Loc X.env.scope x)(r:RelV v u)
  (h:∀s',Inv X pins (σ.set i (some v)) H s'→(∃a,Heap.SameBut a s.heap s'.heap∧(a=X.env.locals∨X.env.cells.lookup x=some a))→Q () s') (hf:X.fn x=true∨X.env.scope.names.lookup x=some .local:=by first |exact .inl rfl |exact .inr rfl |assumption):wpAny M A (storeName X.env x u) Q E s:=by
 obtain⟨m,hn,hl⟩:=id I.loc
 have hcls:(X.env.scope.kind== .class ||(X.env.scope.kind== .module&&X.env.locals !=X.env.globals))=false:=by rw[I.ok.kind];rfl
 have hiσ:i<σ.length:=by rw[I.len];exact(List.getElem?_eq_some_iff.mp hi).1
 have Ki:=I.Ki
 have tracked:∀{a:Addr} {h':Heap},(∃o,s.heap.get? a=some o∧H a=none)→Heap.SameBut a s.heap h'→rF X.prog X.w H h':=fun{a h'} ha hs b ob e=>by
  obtain⟨_,_,hfree⟩:=ha
  refine(I.dB b ob e).DQ (fun c w' hc q=>(hs.2 c ?_).trans q) (fun _ q=>q) fun _ _ q=>q
  rintro rfl
  rcases hc with rfl |hc
  ·rw[hfree] at e;cases e
  ·rw[hfree] at hc;cases hc
 rcases hx with hk |hk
 ·refine wpAny_storeName_local hk hn (fun h' hn' hs=> ?_) hcls
  obtain⟨oL,_,_,hoL,_⟩:=id hn
  refine h _ ⟨I.ok,I.os,I.bare,⟨fun b o e n hb hx=> ?_,fun b o e n hb hx=> ?_,I.base.free,fun b o e hx=> ?_,I.base.Ca,I.base.AE,I.base.Cb⟩,⟨_,hn',fun j y v' e1 e2 e3=> ?_⟩,fun y c e=> ?_,I.free,I.nP,fun p hp=> ?_,tracked ⟨oL,hoL,I.free⟩ hs,by simpa using I.len⟩ ⟨_,hs,.inl rfl⟩
  ·exact(hs.2 b (Nat.ne_of_lt (Nat.lt_of_lt_of_le (Heap.lt_size e) I.ok.above))).trans (I.base.keep b o e n hb hx)
  ·obtain⟨sl,e1⟩:=I.base.slot b o e n hb hx
   exact⟨sl,(hs.2 b (Nat.ne_of_lt (Nat.lt_of_lt_of_le (Heap.lt_size e) I.ok.above))).trans e1⟩
  ·obtain⟨o',e1⟩:=I.base.there b o e hx
   exact⟨o',(hs.2 b (Nat.ne_of_lt (Nat.lt_of_lt_of_le (Heap.lt_size e) I.ok.above))).trans e1⟩
  ·by_cases hj:j=i
   ·subst hj
    rw[hi] at e1;cases e1
    rw[List.getElem?_set_self hiσ] at e2
    cases e2
    exact⟨u,r,.inl ⟨hk,by simp⟩⟩
   ·rw[List.getElem?_set_ne (Ne.symm hj)] at e2
    obtain⟨u',r',q⟩:=hl j y v' e1 e2 e3
    refine⟨u',r',?_⟩
    rcases q with⟨k,e⟩ |⟨k,c,e,z⟩
    ·refine .inl ⟨k,?_⟩
     have:y≠x:=fun e=>hj (wy hN e1 (e▸hi))
     simp[this,e]
    ·exact .inr ⟨k,c,e,z.sameBut hs (Ki y c e)⟩
  ·obtain⟨w',z⟩:=I.cell y c e
   exact⟨w',z.sameBut hs (Ki y c e)⟩
  ·obtain⟨e,n,ne,nf,d⟩:=I.pin p hp
   exact⟨(hs.2 p.1 ne).trans e,n,ne,nf,d⟩
 ·have hfn:X.fn x=true:=by
   rcases hf with z |z
   ·exact z
   ·rw[z] at hk;cases hk
  obtain⟨c,hc⟩:=I.ok.has x (.inl hk)
  obtain⟨w',z⟩:=I.cell x c hc
  refine wpAny_storeName_cell I.ok.kind hk hc z (fun h' hc' hs=> ?_)
  obtain⟨oc,hoc,hocd⟩:=id z
  refine h {s with heap:=h'} ⟨I.ok,I.os,I.bare,⟨fun b o e n hb hx=> ?_,fun b o e n hb hx=> ?_,I.base.free,fun b o e hx=> ?_,I.base.Ca,I.base.AE,I.base.Cb⟩,⟨m,hn.sameBut hs (Ne.symm (Ki x c hc)),fun j y v' e1 e2 e3=> ?_⟩,fun y c' e=> ?_,I.free,I.nP,fun p hp=> ?_,tracked ⟨oc,hoc,I.nP x c hc⟩ hs,by simpa using I.len⟩ ⟨c,hs,.inr hc⟩
  ·exact(hs.2 b (Nat.ne_of_lt (Nat.lt_of_lt_of_le (Heap.lt_size e) (I.ok.Nt x c hfn hc)))).trans (I.base.keep b o e n hb hx)
  ·obtain⟨sl,e1⟩:=I.base.slot b o e n hb hx
   exact⟨sl,(hs.2 b (Nat.ne_of_lt (Nat.lt_of_lt_of_le (Heap.lt_size e) (I.ok.Nt x c hfn hc)))).trans e1⟩
  ·obtain⟨o',e1⟩:=I.base.there b o e hx
   exact⟨o',(hs.2 b (Nat.ne_of_lt (Nat.lt_of_lt_of_le (Heap.lt_size e) (I.ok.Nt x c hfn hc)))).trans e1⟩
  ·by_cases hj:j=i
   ·subst hj
    rw[hi] at e1;cases e1
    rw[List.getElem?_set_self hiσ] at e2
    cases e2
    exact⟨u,r,.inr ⟨.inl hk,c,hc,hc'⟩⟩
   ·rw[List.getElem?_set_ne (Ne.symm hj)] at e2
    obtain⟨u',r',q⟩:=hl j y v' e1 e2 e3
    refine⟨u',r',?_⟩
    rcases q with q |⟨k,c',e,z'⟩
    ·exact .inl q
    ·refine .inr ⟨k,c',e,z'.sameBut hs ?_⟩
     rintro rfl
     exact hj (wy hN e1 (I.ok.inj _ _ _ e hc▸hi))
  ·by_cases hcc:c'=c
   ·subst hcc;exact⟨_,hc'⟩
   ·obtain⟨w2,z2⟩:=I.cell y c' e
    exact⟨w2,z2.sameBut hs hcc⟩
  ·obtain⟨e,n,ne,nf,d⟩:=I.pin p hp
   refine⟨(hs.2 p.1 ?_).trans e,n,ne,nf,d⟩
   intro q
   rw[q,hoc] at e
   have q':oc=p.2:=Option.some.inj e
   exact d w' (by rw[←q'];exact hocd)
theorem wz{M:Model}{A:Around}{E:Value→Shared→Prop}{i:Nat}{x:Str}{v:V}{u:Value}{Q:Unit→Shared→Prop}(I:Inv X pins σ H s)(hN:X.N.Nodup)(hi:X.N[i]? =some x)(hx:Loc X.env.scope x)(r:RelV v u)
  (h:∀s',Inv X pins (σ.set i (some v)) H s'→Q () s') (hf:X.fn x=true∨X.env.scope.names.lookup x=some .local:=by first |exact .inl rfl |exact .inr rfl |assumption):wpAny M A (storeName X.env x u) Q E s:=
 zB I hN hi hx r (fun s' I' _=>h s' I') hf
theorem Inv.Nu{s':Shared}{ch:List Addr}(I:Inv X pins σ H s)(ho:s'.os=s.os)(u:Un (Ic X.stack) ch H H' s.heap s'.heap)(dB:rF X.prog X.w H' s'.heap)(hg:AllBare s'.gens)
  (hch:∀b∈ch,(b∈X.ex∨X.zA.heap.objs.size≤b)∧b≠X.env.locals∧(∀x c,X.env.cells.lookup x=some c→c≠b)∧∀p∈X.pn ++ pins,p.1≠b):Inv X pins σ H' s':=by
 obtain⟨h',g',d',t',o'⟩:=s'
 have e:o'=s.os:=ho
 subst e
 exact I.call (g':=g') (t':=t') (d':=d') u dB hg hch
end
abbrev XK:=Value→Option Addr→Hp→Prop
abbrev St:=List (Option V)
abbrev VK:=V→Hp→Prop
abbrev TE:=St→Hp→VK→Prop
abbrev TT:=St→Hp→(Bool→Hp→Prop)→Prop
abbrev TA:=St→Hp→(List V→Hp→Prop)→Prop
structure Ends where
 nx:St→Hp→Prop
 rt:VK
 bk:St→Hp→Prop:=fun _ _=>False
 ct:St→Hp→Prop:=fun _ _=>False
abbrev TS:=Ends→St→Hp→Prop
def EP(X:Cx)(pins:List (Addr×Obj))(σ:St)(Q:VK)(u:Value)(s':Shared):Prop:=∃v H',Inv X pins σ H' s'∧RelV v u∧Q v H'
def TP(X:Cx)(pins:List (Addr×Obj))(σ:St)(Q:Bool→Hp→Prop)(b:Bool)(s':Shared):Prop:=∃H',Inv X pins σ H' s'∧Q b H'
def AP(X:Cx)(pins:List (Addr×Obj))(σ:St)(Q:List V→Hp→Prop)(us:List Value)(s':Shared):Prop:=∃vs H',Inv X pins σ H' s'∧Vals vs us∧Q vs H'
def SP(X:Cx)(pins:List (Addr×Obj))(D:Ends)(f:Flow)(s':Shared):Prop:=
 match f with
 | .next=>∃σ' H',Inv X pins σ' H' s'∧D.nx σ' H'
 | .brk=>∃σ' H',Inv X pins σ' H' s'∧D.bk σ' H'
 | .cont=>∃σ' H',Inv X pins σ' H' s'∧D.ct σ' H'
 | .ret u=>∃v σ' H',Inv X pins σ' H' s'∧RelV v u∧D.rt v H'
def PE(X:Cx)(e:Expr)(t:TE):Prop:=
 ∀(pins:List (Addr×Obj)) (s:Shared) (σ:St) (H:Hp) (Q:VK),Inv X pins σ H s→t σ H Q→wpAny (model X.prog X.w) X.A (eval e X.env) (EP X pins σ Q) X.xe s
def PT(X:Cx)(e:Expr)(t:TT):Prop:=
 ∀(pins:List (Addr×Obj)) (s:Shared) (σ:St) (H:Hp) (Q:Bool→Hp→Prop),Inv X pins σ H s→t σ H Q→wpAny (model X.prog X.w) X.A (isTrue e X.env (eval e X.env)) (TP X pins σ Q) X.xe s
def PW(X:Cx)(e:Expr)(t:TT):Prop:=
 ∀(whole:Sem Value) (pins:List (Addr×Obj)) (s:Shared) (σ:St) (H:Hp) (Q:Bool→Hp→Prop),Inv X pins σ H s→t σ H Q→wpAny (model X.prog X.w) X.A (isTrue e X.env whole) (TP X pins σ Q) X.xe s
theorem PW.pt{X:Cx}{e:Expr}{t:TT}(h:PW X e t):PT X e t:=h _
def PA(X:Cx)(es:List Expr)(t:TA):Prop:=
 ∀(pos:Pos) (pins:List (Addr×Obj)) (s:Shared) (σ:St) (H:Hp) (Q:List V→Hp→Prop),Inv X pins σ H s→t σ H Q→wpAny (model X.prog X.w) X.A (spliced (backTo pos (starEach es X.env))) (AP X pins σ Q) X.xe s
def PS(X:Cx)(st:Stmt)(t:TS):Prop:=
 ∀(pins:List (Addr×Obj)) (s:Shared) (σ:St) (H:Hp) (D:Ends),Inv X pins σ H s→t D σ H→wpAny (model X.prog X.w) X.A (exec st X.env) (SP X pins D) X.xe s
def DS(X:Cx)(st:List Stmt)(t:TS):Prop:=
 ∀(pins:List (Addr×Obj)) (s:Shared) (σ:St) (H:Hp) (D:Ends),Inv X pins σ H s→t D σ H→wpAny (model X.prog X.w) X.A (execs st X.env) (SP X pins D) X.xe s
theorem dy{α:Type}{t:Sem α}{Q Q':α→Shared→Prop}{M:Model}{A:Around}{E:Value→Shared→Prop}{s:Shared}(h:wpAny M A t Q E s)(hQ:∀a s,Q a s→Q' a s):wpAny M A t Q' E s:=wpAny_mono h hQ fun _ _ x=>x
section
variable {X:Cx}
def wA(i:Nat):TE:=fun σ H Q=>∃v,σ[i]? =some (some v)∧Q v H
def tC(v:V):TE:=fun _ H Q=>Q v H
theorem L4{i:Nat}{x:Str}{pos:Pos}(hN:X.N[i]? =some x)(hv:Nd X.env.scope x)(hd:(x==("__debug__":Str))=false:=by decide)(hcd:(x==("__classdict__":Str))=false:=by decide):PE X (.Name x pos) (wA i):=by
 intro pins s σ H Q I h
 obtain⟨v,e,h⟩:=h
 obtain⟨m,hn,hl⟩:=I.loc
 obtain⟨u,r,l⟩:=hl i x v hN e hv
 have fin:EP X pins σ Q u s:=⟨v,H,I,r,h⟩
 rcases l with⟨hk,hm⟩ |⟨hk,c,hc,hcell⟩
 ·exact wpAny_Name (wpAny_loadName_local I.ok.kind hk hn hm fin) hd
 ·rcases hk with hk |hk
  ·exact wpAny_Name (wpAny_loadName_cell I.ok.kind hk hc hcell fin) hd
  ·exact wpAny_Name (wpAny_loadName_free I.ok.kind hk hc hcell fin hcd) hd
theorem aA{i j pos}:PE X (.Constant (.int i) j pos) (tC (.int i)):=fun _ _ _ H _ I h=>wpAny_Constant_int ⟨.int i,H,I.tok _,⟨_,rfl⟩,h⟩
theorem mZ{b j pos}:PE X (.Constant (.bool b) j pos) (tC (.bl b)):=fun _ _ _ H _ I h=>Constant_bool ⟨.bl b,H,I,rfl,h⟩
theorem AF{j pos}:PE X (.Constant .none j pos) (tC .fG):=fun _ _ _ H _ I h=>Constant_none ⟨.fG,H,I,rfl,h⟩
def Gl(X:Cx)(x:Str):Prop:=X.env.kindOf x=some .globalImplicit
theorem AG{E:Value→Shared→Prop}{pins:List (Addr×Obj)}{s:Shared}{σ:St}{H:Hp}{x:Str}{u:Value}{pos:Pos}{Q:Value→Shared→Prop}(I:Inv X pins σ H s)(hg:Gl X x)(hm:X.mg x=some u)(h:Q u s)
  (hd:(x==("__debug__":Str))=false:=by decide):wpAny (model X.prog X.w) X.A (eval (.Name x pos) X.env) Q E s:=
 Calls.Name_function_global I.ok.kind hg (Calls.loadGlobal_global (by rw[I.ok.glob];exact I.mod.glob.keeps I.bk) hm h) hd
theorem nQ{E:Value→Shared→Prop}{pins:List (Addr×Obj)}{s:Shared}{σ:St}{H:Hp}{x:Str}{u:Value}{pos:Pos}{Q:Value→Shared→Prop}(I:Inv X pins σ H s)(hg:Gl X x)(hm:X.mg x=none)(hv:bootBuiltins x=some u)(h:Q u s)
  (hn:x≠"__name__":=by decide) (hd:(x==("__debug__":Str))=false:=by decide):wpAny (model X.prog X.w) X.A (eval (.Name x pos) X.env) Q E s:=by
 obtain⟨mb,h1,h2⟩:=I.mod.blt
 exact Calls.Name_function_global I.ok.kind hg (Calls.loadGlobal_builtin (by rw[I.ok.glob];exact I.mod.glob.keeps I.bk) hm (by rw[I.ok.blt];exact h1.keeps I.bk) ((h2 x hn).trans hv) h) hd
theorem Fy{x:Str}{v:V}{u:Value}{pos:Pos}(hg:Gl X x)(hm:X.mg x=some u)(r:RelV v u)(hd:(x==("__debug__":Str))=false:=by decide):PE X (.Name x pos) (tC v):=
 fun _ _ _ H _ I h=>AG I hg hm ⟨v,H,I,r,h⟩ hd
variable {a b:Expr}{ta tb:TE}{pos:Pos}
def PC(X:Cx)(op:CmpOp)(a b:Expr)(t:TE):Prop:=
 ∀(pins:List (Addr×Obj)) (s:Shared) (σ:St) (H:Hp) (Q:VK),Inv X pins σ H s→t σ H Q→
  wpAny (model X.prog X.w) X.A (eval a X.env) (fun v s₁=>wpAny (model X.prog X.w) X.A (eval b X.env) (fun u s₂=>wpAny (model X.prog X.w) X.A (compareOp op v u) (EP X pins σ Q) X.xe s₂) X.xe s₁) X.xe s
theorem Ih(b:Expr){op:CmpOp}(h:op≠.In)(h2:op≠.NotIn):behindInMarks op b=false:=by
 have e1:(op==CmpOp.In)=false:=by cases op <;>first |rfl |exact absurd rfl h
 have e2:(op==CmpOp.NotIn)=false:=by cases op <;>first |rfl |exact absurd rfl h2
 cases b <;>simp[behindInMarks,e1,e2]
def O3(ta:TE):TE:=fun σ H Q=>ta σ H fun x H1=>Q (.bl (decide (x= .fG))) H1
def Nv(ta:TE):TE:=fun σ H Q=>ta σ H fun x H1=>Q (.bl (!decide (x= .fG))) H1
theorem RelV.Cc{x:V}{v:Value}(r:RelV x v):(v==Value.none)=decide (x= .fG):=by
 cases x with
 |fG=>cases r;rfl
 |bl _=>cases r;rfl
 |int _=>obtain⟨t,rfl⟩:=r;rfl
 |str _=>obtain⟨t,rfl⟩:=r;rfl
 |AB _=>obtain⟨t,rfl⟩:=r;rfl
 |Np _=>obtain⟨t,rfl⟩:=r;rfl
 |ref _=>cases r;rfl
 |ty _=>cases r;rfl
theorem DT{j pos'}(ha:PE X a ta):PC X .Is a (.Constant .none j pos') (O3 ta):=by
 intro pins s σ H Q I h
 refine dy (ha pins s σ H _ I h) fun v s1 ⟨x,H1,I1,r1,q1⟩=> ?_
 exact Constant_none (is_none_gen ⟨.bl _,H1,I1,by rw[r1.Cc];rfl,q1⟩)
theorem Kj{j pos'}(ha:PE X a ta):PC X .IsNot a (.Constant .none j pos') (Nv ta):=by
 intro pins s σ H Q I h
 refine dy (ha pins s σ H _ I h) fun v s1 ⟨x,H1,I1,r1,q1⟩=> ?_
 exact Constant_none (isnot_none_gen ⟨.bl _,H1,I1,by rw[r1.Cc];rfl,q1⟩)
def tB(t:TE):TT:=fun σ H Q=>t σ H fun x H1=>∃c,x= .bl c∧Q c H1
theorem AH{op:CmpOp}{t:TE}(h:PC X op a b t)(h1:behindInMarks op b=false:=by first |exact Ih _ (by decide) (by decide) |rfl):PT X (.Compare a [op] [b] pos) (tB t):=by
 intro pins s σ H Q I hw
 refine wpAny_isTrue_Compare1 (dy (h pins s σ H _ I hw) fun v s1 h1=>dy h1 fun u s2 h2=>dy h2 fun c s3 ⟨x,H1,I1,r1,q1⟩=> ?_) h1
 obtain⟨d,rfl,q⟩:=q1
 cases r1
 exact wpAny_truthy_bool ⟨H1,I1,q⟩
variable {tA tB':TT}{rest:List Expr}
def O4(t u:TT):TT:=fun σ H Q=>t σ H fun c H1=>if c=true then u σ H1 Q else Q false H1
def Qy(t u:TT):TT:=fun σ H Q=>t σ H fun c H1=>if c=true then Q true H1 else u σ H1 Q
def O5(t:TT):TT:=fun σ H Q=>t σ H fun c H1=>Q (!c) H1
theorem AI(ha:PT X a tA):PW X (.BoolOp .And [a] pos) tA:=by
 intro wh pins s σ H Q I h
 refine isTrue_and (dy (ha pins s σ H Q I h) fun c s1 e=> ?_)
 cases c with
 |true=>exact isTrue_and_nil e
 |false=>exact e
theorem AJ(ha:PT X a tA):PW X (.BoolOp .Or [a] pos) tA:=by
 intro wh pins s σ H Q I h
 refine isTrue_or (dy (ha pins s σ H Q I h) fun c s1 e=> ?_)
 cases c with
 |false=>exact isTrue_or_nil e
 |true=>exact e
theorem DU(ha:PT X a tA)(hb:PW X (.BoolOp .And (b::rest) pos) tB'):PW X (.BoolOp .And (a::b::rest) pos) (O4 tA tB'):=by
 intro wh pins s σ H Q I h
 refine isTrue_and (dy (ha pins s σ H _ I h) fun c s1 ⟨H1,I1,q1⟩=> ?_)
 cases c with
 |true=>exact hb wh pins s1 σ H1 Q I1 q1
 |false=>exact⟨H1,I1,q1⟩
theorem Cd(ha:PT X a tA)(hb:PW X (.BoolOp .Or (b::rest) pos) tB'):PW X (.BoolOp .Or (a::b::rest) pos) (Qy tA tB'):=by
 intro wh pins s σ H Q I h
 refine isTrue_or (dy (ha pins s σ H _ I h) fun c s1 ⟨H1,I1,q1⟩=> ?_)
 cases c with
 |true=>exact⟨H1,I1,q1⟩
 |false=>exact hb wh pins s1 σ H1 Q I1 q1
theorem fL(ha:PT X a tA):PT X (.UnaryOp .Not a pos) (O5 tA):=by
 intro pins s σ H Q I h
 exact isTrue_not (ha pins s σ H (fun c H1=>Q (!c) H1) I h)
def Ny(ta tb:TE):TE:=fun σ H Q=>ta σ H fun x H1=>∃c,x= .bl c∧if c=true then tb σ H1 Q else Q (.bl false) H1
def O6(ta tb:TE):TE:=fun σ H Q=>ta σ H fun x H1=>∃c,x= .bl c∧if c=true then Q (.bl true) H1 else tb σ H1 Q
theorem nR{op}{t:TE}(h:PE X a t):PE X (.BoolOp op [a] pos) t:=fun pins s σ H Q I hw=>BoolOp_one (h pins s σ H Q I hw)
theorem nS(ha:PE X a ta)(hb:PE X (.BoolOp .And (b::rest) pos) tb):PE X (.BoolOp .And (a::b::rest) pos) (Ny ta tb):=by
 intro pins s σ H Q I h
 refine BoolOp_and (dy (ha pins s σ H _ I h) fun v s1 ⟨x,H1,I1,r1,q1⟩=> ?_)
 obtain⟨c,rfl,q1⟩:=q1
 cases r1
 refine wpAny_truthy_bool ?_
 cases c with
 |true=>exact hb pins s1 σ H1 Q I1 q1
 |false=>exact⟨.bl false,H1,I1,rfl,q1⟩
theorem Nz(ha:PE X a ta)(hb:PE X (.BoolOp .Or (b::rest) pos) tb):PE X (.BoolOp .Or (a::b::rest) pos) (O6 ta tb):=by
 intro pins s σ H Q I h
 refine BoolOp_or (dy (ha pins s σ H _ I h) fun v s1 ⟨x,H1,I1,r1,q1⟩=> ?_)
 obtain⟨c,rfl,q1⟩:=q1
 cases r1
 refine wpAny_truthy_bool ?_
 cases c with
 |false=>exact hb pins s1 σ H1 Q I1 q1
 |true=>exact⟨.bl true,H1,I1,rfl,q1⟩
def Qz(t:TT)(ta tb:TE):TE:=fun σ H Q=>t σ H fun c H1=>if c=true then ta σ H1 Q else tb σ H1 Q
theorem iy{c:Expr}(hc:PT X c tA)(ha:PE X a ta)(hb:PE X b tb):PE X (.IfExp c a b pos) (Qz tA ta tb):=by
 intro pins s σ H Q I h
 refine wpAny_IfExp (dy (hc pins s σ H _ I h) fun d s1 ⟨H1,I1,q1⟩=> ?_)
 cases d with
 |true=>exact ha pins s1 σ H1 Q I1 q1
 |false=>exact hb pins s1 σ H1 Q I1 q1
end
def gn(K:PySem.W.Frag)(H:Hp)(a:Addr)(xs:List V):Prop:=
 Rd H a (.lst xs)∨
  ∃(o:Obj) (its:Array Value) (n:Nat),K.lookup a=some o∧o.cls= .type "list"∧o.dict=none∧o.data= .seq its n∧its.size≤sizeLine∧Vals xs its.toList
def yE(K:PySem.W.Frag)(H:Hp)(a:Addr)(xs:List V):Prop:=
 Rd H a (.tup xs)∨
  ∃(o:Obj) (its:Array Value) (n:Nat),K.lookup a=some o∧o.cls= .type "tuple"∧o.data= .seq its n∧its.size≤sizeLine∧Vals xs its.toList
def O7:Value→Option V
 | .none=>some .fG
 | .bool b=>some (.bl b)
 | .int i _=>some (.int i)
 | .str x _=>some (.str x)
 | .bytes b _=>some (.AB b)
 | .float b _=>some (.Np b)
 | .ref a=>some (.ref a)
 | .type n=>some (.ty n)
 |_=>none
theorem RelV.abs{x:V}{u:Value}(r:RelV x u):O7 u=some x:=by
 cases x with
 |fG=>cases r;rfl
 |bl _=>cases r;rfl
 |int _=>obtain⟨t,rfl⟩:=r;rfl
 |str _=>obtain⟨t,rfl⟩:=r;rfl
 |AB _=>obtain⟨t,rfl⟩:=r;rfl
 |Np _=>obtain⟨t,rfl⟩:=r;rfl
 |ref _=>cases r;rfl
 |ty _=>cases r;rfl
theorem RelV.inj{x y:V}{u:Value}(r:RelV x u)(q:RelV y u):x=y:=Option.some.inj (r.abs.symm.trans q.abs)
theorem Vals.inj:∀{xs ys:List V} {us:List Value},Vals xs us→Vals ys us→xs=ys
 |_,_,_,.nil,.nil=>rfl
 |_,_,_,.cons r t,.cons r' t'=>by rw[r.inj r',Vals.inj t t']
section
variable {X:Cx}{pins:List (Addr×Obj)}{σ:St}{H:Hp}{s:Shared}{a:Addr}{xs ys:List V}
theorem gn.of{K:PySem.W.Frag}(h:H a=some (.lst xs)):gn K H a xs:= .inl (.inl h)
theorem yE.of{K:PySem.W.Frag}(h:H a=some (.tup xs)):yE K H a xs:= .inl (.inl h)
theorem Inv.list(I:Inv X pins σ H s)(h:gn X.K H a xs):∃its:List Value,Vals xs its∧PlainL s.heap a its.toArray∧xs.length≤sizeLine:=by
 rcases h with h |⟨o,its,n,hk,hc,hd,hs,hz,r⟩
 ·obtain⟨z,its,n,r,e⟩:=h.ok I.dB
  exact⟨its,r,⟨_,n,e,rfl,rfl,rfl⟩,z⟩
 ·refine⟨its.toList,r,⟨o,n,I.HW a o hk,hc,hd,by simpa using hs⟩,?_⟩
  have e:=r.length
  simp only[Array.length_toList] at e
  lia
theorem Inv.tuple(I:Inv X pins σ H s)(h:yE X.K H a xs):∃its:List Value,Vals xs its∧IsTup s.heap a its.toArray∧xs.length≤sizeLine:=by
 rcases h with h |⟨o,its,n,hk,hc,hs,hz,r⟩
 ·obtain⟨z,its,r,p⟩:=h.ok I.dB
  exact⟨its,r,p,z⟩
 ·refine⟨its.toList,r,⟨o,I.HW a o hk,hc,n,by simpa using hs⟩,?_⟩
  have e:=r.length
  simp only[Array.length_toList] at e
  lia
theorem Inv.nT(I:Inv X pins σ H s)(h:gn X.K H a xs)(h':gn X.K H a ys):xs=ys:=by
 obtain⟨its,r,⟨o,n,e,_,_,d⟩,_⟩:=I.list h
 obtain⟨its',r',⟨o',n',e',_,_,d'⟩,_⟩:=I.list h'
 rw[e] at e';cases e'
 rw[d] at d'
 injection d' with d1 _
 have:its=its':=by simpa using congrArg Array.toList d1
 subst this
 exact r.inj r'
theorem Inv.tH(I:Inv X pins σ H s)(h:yE X.K H a xs)(h':yE X.K H a ys):xs=ys:=by
 obtain⟨its,r,⟨o,e,_,n,d⟩,_⟩:=I.tuple h
 obtain⟨its',r',⟨o',e',_,n',d'⟩,_⟩:=I.tuple h'
 rw[e] at e';cases e'
 rw[d] at d'
 injection d' with d1 _
 have:its=its':=by simpa using congrArg Array.toList d1
 subst this
 exact r.inj r'
end
abbrev Cx.yH(X:Cx)(E:Value→Shared→Prop):Cx:={X with xe:=E}
abbrev Cx.L5(X:Cx):Cx:=X.yH fun _ _=>False
theorem Cx.Ok.yH{X:Cx}(ok:X.Ok)(E:Value→Shared→Prop):(X.yH E).Ok:=
 ⟨ok.mod,ok.kind,ok.glob,ok.blt,ok.above,ok.inj,ok.has,ok.Nt,ok.hd,ok.frames,ok.Nf,ok.OU,ok.bs,ok.Kh,ok.Ie,ok.Ig,ok.vL,ok.L3⟩
theorem Cx.Ok.nU{X:Cx}{E:Value→Shared→Prop}(ok:(X.yH E).Ok):X.Ok:=
 ⟨ok.mod,ok.kind,ok.glob,ok.blt,ok.above,ok.inj,ok.has,ok.Nt,ok.hd,ok.frames,ok.Nf,ok.OU,ok.bs,ok.Kh,ok.Ie,ok.Ig,ok.vL,ok.L3⟩
section
variable {X:Cx}{pins:List (Addr×Obj)}{σ:St}{H:Hp}{s:Shared}{E:Value→Shared→Prop}
theorem Inv.yH(I:Inv X pins σ H s)(E:Value→Shared→Prop):Inv (X.yH E) pins σ H s:=⟨I.ok.yH E,I.os,I.bare,I.base,I.loc,I.cell,I.free,I.nP,I.pin,I.dB,I.len⟩
theorem Inv.nU(I:Inv (X.yH E) pins σ H s):Inv X pins σ H s:=⟨I.ok.nU,I.os,I.bare,I.base,I.loc,I.cell,I.free,I.nP,I.pin,I.dB,I.len⟩
theorem SP.nU{D:Ends}{f:Flow}{s':Shared}(h:SP (X.yH E) pins D f s'):SP X pins D f s':=by
 cases f with
 |next=>obtain⟨σ',H',I,q⟩:=h;exact⟨σ',H',I.nU,q⟩
 |brk=>obtain⟨σ',H',I,q⟩:=h;exact⟨σ',H',I.nU,q⟩
 |cont=>obtain⟨σ',H',I,q⟩:=h;exact⟨σ',H',I.nU,q⟩
 |ret u=>obtain⟨v,σ',H',I,r,q⟩:=h;exact⟨v,σ',H',I.nU,r,q⟩
theorem DS.L5{st:List Stmt}{t:TS}(h:DS X.L5 st t):DS X st t:=fun pins s σ H D I hw=>
 wpAny_mono (h pins s σ H D (I.yH _) hw) (fun _ _ q=>q.nU) fun _ _ z=>False.elim z
end
section
variable {X:Cx}{st:Stmt}{rest:List Stmt}{t u:TS}{e:Expr}{te:TE}{pos:Pos}
def Lr:TS:=fun D σ H=>D.nx σ H
def NB(t u:TS):TS:=fun D σ H=>t {D with nx:=u D} σ H
theorem aT:DS X [] Lr:=fun _ _ σ H _ I h=>wpAny_execs_nil ⟨σ,H,I,h⟩
theorem aj(h1:PS X st t)(h2:DS X rest u):DS X (st::rest) (NB t u):=by
 intro pins s σ H D I h
 refine wpAny_execs_cons (dy (h1 pins s σ H {D with nx:=u D} I h) fun f s1 q=> ?_)
 cases f with
 |next=>
  obtain⟨σ',H',I',q⟩:=q
  exact h2 pins s1 σ' H' D I' q
 |ret v=>exact q
 |brk=>exact q
 |cont=>exact q
theorem aq(h1:PS X st t):DS X [st] t:=by
 intro pins s σ H D I h
 refine wpAny_execs_cons (dy (h1 pins s σ H D I h) fun f s1 q=> ?_)
 cases f with
 |next=>exact wpAny_execs_nil q
 |ret v=>exact q
 |brk=>exact q
 |cont=>exact q
def NC:TS:=fun D σ H=>D.ct σ H
theorem Ce:PS X (.Continue pos) NC:=fun _ _ σ H _ I h=>wpAny_Continue ⟨σ,H,I,h⟩
theorem Inv.quiet{pins:List (Addr×Obj)}{σ:St}{H:Hp}{s:Shared}(I:Inv X pins σ H s):interactive X.env=false:=by simp[interactive,I.ok.kind]
def Ls(te:TE):TS:=fun D σ H=>te σ H fun _ H1=>D.nx σ H1
theorem eO(he:PE X e te)(hs:swapsWith e none pos.line X.env=pure false:=by rfl):PS X (.Expr e pos) (Ls te):=by
 intro pins s σ H D I h
 exact wpAny_Expr_any (dy (he pins s σ H _ I h) fun v s1 ⟨x,H1,I1,r1,q1⟩=>⟨σ,H1,I1,q1⟩) I.quiet hs
def L6(te:TE):TS:=fun D σ H=>te σ H D.rt
theorem aD(he:PE X e te):PS X (.Return (some e) pos) (L6 te):=by
 intro pins s σ H D I h
 exact wpAny_Return_some (dy (he pins s σ H _ I h) fun v s1 ⟨x,H1,I1,r1,q1⟩=>⟨x,σ,H1,I1,r1,q1⟩)
def ND(c:TT)(t u:TS):TS:=fun D σ H=>c σ H fun b H1=>if b=true then t D σ H1 else u D σ H1
theorem bJ{c:Expr}{a b:List Stmt}{tc:TT}(hc:PT X c tc)(ha:DS X a t)(hb:DS X b u):PS X (.If c a b pos) (ND tc t u):=by
 intro pins s σ H D I h
 refine wpAny_If (dy (hc pins s σ H _ I h) fun d s1 ⟨H1,I1,q1⟩=> ?_)
 cases d with
 |true=>exact ha pins s1 σ H1 D I1 q1
 |false=>exact hb pins s1 σ H1 D I1 q1
end
abbrev TG:=V→St→Hp→(St→Hp→Prop)→Prop
abbrev Lu:=List V→St→Hp→(St→Hp→Prop)→Prop
def PG(X:Cx)(target:Expr)(t:TG):Prop:=
 ∀(pins:List (Addr×Obj)) (s:Shared) (σ:St) (H:Hp) (v:V) (u:Value) (Q:St→Hp→Prop),Inv X pins σ H s→RelV v u→t v σ H Q→
  wpAny (model X.prog X.w) X.A (assign target X.env u) (fun _ s'=>∃σ' H',Inv X pins σ' H' s'∧Q σ' H') X.xe s
def NF(X:Cx)(ts:List Expr)(t:Lu):Prop:=
 ∀(pins:List (Addr×Obj)) (s:Shared) (σ:St) (H:Hp) (vs:List V) (us:List Value) (Q:St→Hp→Prop),Inv X pins σ H s→Vals vs us→t vs σ H Q→
  wpAny (model X.prog X.w) X.A (assignInOrder ((assignEach ts X.env).map (·.2)) us) (fun _ s'=>∃σ' H',Inv X pins σ' H' s'∧Q σ' H') X.xe s
abbrev Ii:=V→V→V→Hp→(Hp→Prop)→Prop
def L7(X:Cx)(t:Ii):Prop:=
 ∀(pins:List (Addr×Obj)) (s:Shared) (σ:St) (H:Hp) (o i v:V) (ov iv u:Value) (Q:Hp→Prop),Inv X pins σ H s→RelV o ov→RelV i iv→RelV v u→t o i v H Q→
  wpAny (model X.prog X.w) X.A (setItem ov iv u) (fun _ s'=>∃H',Inv X pins σ H' s'∧Q H') X.xe s
abbrev L8:=V→V→Hp→VK→Prop
def NG(X:Cx)(op:Operator)(t:L8):Prop:=
 ∀(pins:List (Addr×Obj)) (s:Shared) (σ:St) (H:Hp) (x y:V) (v u:Value) (Q:VK),Inv X pins σ H s→RelV x v→RelV y u→t x y H Q→
  wpAny (model X.prog X.w) X.A (inplaceOp op v u) (EP X pins σ Q) X.xe s
section
variable {X:Cx}{pos:Pos}
def Fz(i:Nat):TG:=fun v σ H Q=>Q (σ.set i (some v)) H
theorem aQ{i:Nat}{x:Str}(hN:X.N.Nodup)(hi:X.N[i]? =some x)(hx:Loc X.env.scope x)(hf:X.fn x=true∨X.env.scope.names.lookup x=some .local:=by first |exact .inl rfl |exact .inr rfl |assumption):PG X (.Name x pos) (Fz i):=by
 intro pins s σ H v u Q I r h
 exact wpAny_assign_Name (wz I hN hi hx r (fun s' I'=>⟨_,H,I',h⟩) hf)
def O8:Lu:=fun vs σ H Q=>vs=[]∧Q σ H
def NH(t:TG)(u:Lu):Lu:=fun vs σ H Q=>∃v r,vs=v::r∧t v σ H fun σ' H'=>u r σ' H' Q
theorem gq:NF X [] O8:=by
 intro pins s σ H vs us Q I r h
 obtain⟨e,h⟩:=h
 subst e
 cases r
 exact assignInOrder_nil ⟨σ,H,I,h⟩
theorem bM{e:Expr}{es:List Expr}{t:TG}{u:Lu}(h1:PG X e t)(h2:NF X es u)
  (hs:(assignEach (e::es) X.env).map (·.2)=assign e X.env::(assignEach es X.env).map (·.2):=by rfl):NF X (e::es) (NH t u):=by
 intro pins s σ H vs us Q I r h
 obtain⟨v,vr,e1,h⟩:=h
 subst e1
 cases r with
 |cons r rr=>
  rw[hs]
  refine assignInOrder_cons (dy (h1 pins s σ H _ _ _ I r h) fun _ s1 ⟨σ1,H1,I1,q1⟩=> ?_)
  exact h2 pins s1 σ1 H1 _ _ Q I1 rr q1
def NJ(K:PySem.W.Frag)(n:Nat)(t:Lu):TG:=fun v σ H Q=>∃a xs,v= .ref a∧yE K H a xs∧xs.length=n∧t xs σ H Q
theorem L9{es:List Expr}{k:Nat}{t:Lu}{n:Nat}(hc:X.calm=true)(h:NF X es t)
  (hn:(assignEach es X.env).length=n:=by rfl) (hst:(assignEach es X.env).findIdx? (·.1)=none:=by rfl):PG X (.Tuple es k pos) (NJ X.K n t):=by
 intro pins s σ H v u Q I r hw
 obtain⟨a,xs,e1,hq,hl,hw⟩:=hw
 subst e1
 cases r
 obtain⟨its,rv,ht,hz⟩:=I.tuple hq
 refine assign_Tuple_tuple (I.ok.hd hc) ht (by simp[hn,←hl,rv.length]) hst fun h' hx=> ?_
 have I1:Inv X pins σ H {s with heap:=h'}:=I.kept (t':=s.toks) fun b o e=>hx b o (Nat.ne_of_lt (Heap.lt_size e)) e
 exact h pins _ σ H xs _ Q I1 (by simpa using rv) hw
def O9(to ti:TE)(t:Ii):TG:=fun v σ H Q=>to σ H fun o H1=>ti σ H1 fun i H2=>t o i v H2 fun H3=>Q σ H3
theorem tI{o i:Expr}{to ti:TE}{t:Ii}(ho:PE X o to)(hi:PE X i ti)(hs:L7 X t)
  (ha:∀v,assign (.Subscript o i pos) X.env v=(do
   let ov←holding [v] (eval o X.env)
   let iv←holding [v,ov] (eval i X.env)
   standAt pos
   holding [v,ov,iv] (setItem ov iv v)
   release [v,ov,iv] []):=by intro _;rfl):PG X (.Subscript o i pos) (O9 to ti t):=by
 intro pins s σ H v u Q I r h
 rw[ha]
 refine wpAny_bind (wpAny_holding (dy (ho pins s σ H _ I h) fun ov s1 ⟨x,H1,I1,r1,q1⟩=> ?_))
 refine wpAny_bind (wpAny_holding (dy (hi pins s1 σ H1 _ I1 q1) fun iv s2 ⟨y,H2,I2,r2,q2⟩=> ?_))
 refine wpAny_bind (wpAny_standAt (wpAny_bind (wpAny_holding (dy (hs pins s2 σ H2 x y v ov iv u _ I2 r1 r2 r q2) fun _ s3 ⟨H3,I3,q3⟩=> ?_))))
 exact wpAny_release ⟨σ,H3,I3,q3⟩
def Ma(te:TE)(g:TG):TS:=fun D σ H=>te σ H fun x H1=>g x σ H1 D.nx
theorem tJ{tg e:Expr}{te:TE}{g:TG}(he:PE X e te)(hg:PG X tg g)(hs:swapsWithSole [tg] e pos.line X.env=pure false:=by rfl)(hw:swappedStores [tg] e X.env=pure none:=by rfl)
  (h1:(assignEach [tg] X.env).map (·.2)=[assign tg X.env]:=by rfl):PS X (.Assign [tg] e pos) (Ma te g):=by
 intro pins s σ H D I h
 refine wpAny_Assign_stores (dy (he pins s σ H _ I h) fun v s1 ⟨x,H1,I1,r1,q1⟩=> ?_) hs hw
 rw[h1]
 exact dy (hg pins s1 σ H1 x v _ I1 r1 q1) fun _ s2 q=>q
theorem aH{i:Nat}{x:Str}{e:Expr}{te:TE}{pos':Pos}(hN:X.N.Nodup)(hi:X.N[i]? =some x)(hx:Loc X.env.scope x)(he:PE X e te)(hs:swapsWith e (some (.Name x pos')) pos.line X.env=pure false:=by rfl)(hf:X.fn x=true∨X.env.scope.names.lookup x=some .local:=by first |exact .inl rfl |exact .inr rfl |assumption):
  PS X (.Assign [.Name x pos'] e pos) (Ma te (Fz i)):=by
 intro pins s σ H D I h
 refine wpAny_Assign_Name (dy (he pins s σ H _ I h) fun v s1 ⟨y,H1,I1,r1,q1⟩=> ?_) hs
 exact wz I1 hN hi hx r1 (fun s2 I2=>⟨_,H1,I2,q1⟩) hf
def Pa(i:Nat)(te:TE)(ti:L8):TS:=fun D σ H=>∃x,σ[i]? =some (some x)∧te σ H fun y H1=>ti x y H1 fun z H2=>D.nx (σ.set i (some z)) H2
theorem AK{i:Nat}{x:Str}{e:Expr}{te:TE}{op:Operator}{ti:L8}{pos':Pos}(hN:X.N.Nodup)(hi:X.N[i]? =some x)(hx:Loc X.env.scope x)(he:PE X e te)(ho:NG X op ti)(hf:X.fn x=true∨X.env.scope.names.lookup x=some .local:=by first |exact .inl rfl |exact .inr rfl |assumption):
  PS X (.AugAssign (.Name x pos') op e pos) (Pa i te ti):=by
 intro pins s σ H D I h
 obtain⟨v,e1,h⟩:=h
 obtain⟨m,hn,hl⟩:=I.loc
 have vis:Nd X.env.scope x:=by rcases hx with k |k;exact .inl k;exact .inr (.inl k)
 obtain⟨u,r,l⟩:=hl i x v hi e1 vis
 refine wpAny_AugAssign_Name ?_
 have go:wpAny (model X.prog X.w) X.A (eval e X.env) (fun w s₂=>wpAny (model X.prog X.w) X.A (inplaceOp op u w) (fun r s₃=>wpAny (model X.prog X.w) X.A (storeName X.env x r) (fun _=>SP X pins D .next) X.xe s₃) X.xe s₂) X.xe s:=by
  refine dy (he pins s σ H _ I h) fun w s1 ⟨y,H1,I1,r1,q1⟩=> ?_
  refine dy (ho pins s1 σ H1 v y u w _ I1 r r1 q1) fun z s2 ⟨zv,H2,I2,r2,q2⟩=> ?_
  exact wz I2 hN hi hx r2 (fun s3 I3=>⟨_,H2,I3,q2⟩) hf
 rcases l with⟨hk,hm⟩ |⟨hk,c,hc,hcell⟩
 ·exact wpAny_loadName_local I.ok.kind hk hn hm go
 ·rcases hk with hk |hk
  ·exact wpAny_loadName_cell I.ok.kind hk hc hcell go
  ·rcases hx with k |k
   ·have:X.env.scope.names.lookup x=some .free:=hk
    rw[k] at this;cases this
   ·have:X.env.scope.names.lookup x=some .free:=hk
    rw[k] at this;cases this
def NK(to ti te:TE)(tget:V→V→Hp→VK→Prop)(tip:L8)(tset:Ii):TS:=fun D σ H=>to σ H fun o H1=>ti σ H1 fun i H2=>tget o i H2 fun x H3=>te σ H3 fun y H4=>tip x y H4 fun z H5=>tset o i z H5 fun H6=>D.nx σ H6
def NL(X:Cx)(t:V→V→Hp→VK→Prop):Prop:=
 ∀(pins:List (Addr×Obj)) (s:Shared) (σ:St) (H:Hp) (o i:V) (ov iv:Value) (Q:VK),Inv X pins σ H s→RelV o ov→RelV i iv→t o i H Q→
  wpAny (model X.prog X.w) X.A (getItem ov iv) (EP X pins σ Q) X.xe s
theorem AL{o i e:Expr}{to ti te:TE}{tget:V→V→Hp→VK→Prop}{tip:L8}{tset:Ii}{op:Operator}{tpos:Pos}(ho:PE X o to)(hi:PE X i ti)(hg:NL X tget)(he:PE X e te)(hp:NG X op tip)(hs:L7 X tset)
  (ha:∀ov iv new,augStore i ov iv new=(do holding [new,ov,iv] (setItem ov iv new);release [new,ov,iv] [];pure .next):=by intros;rfl):PS X (.AugAssign (.Subscript o i tpos) op e pos) (NK to ti te tget tip tset):=by
 intro pins s σ H D I h
 refine wpAny_AugAssign_SubscriptAny (dy (ho pins s σ H _ I h) fun ov s1 ⟨x1,H1,I1,r1,q1⟩=> ?_) ha
 refine dy (hi pins s1 σ H1 _ I1 q1) fun iv s2 ⟨x2,H2,I2,r2,q2⟩=> ?_
 refine dy (hg pins s2 σ H2 x1 x2 ov iv _ I2 r1 r2 q2) fun old s3 ⟨x3,H3,I3,r3,q3⟩=> ?_
 refine dy (he pins s3 σ H3 _ I3 q3) fun v s4 ⟨x4,H4,I4,r4,q4⟩=> ?_
 refine dy (hp pins s4 σ H4 x3 x4 old v _ I4 r3 r4 q4) fun new s5 ⟨x5,H5,I5,r5,q5⟩=> ?_
 exact dy (hs pins s5 σ H5 x1 x2 x5 ov iv new _ I5 r1 r2 r5 q5) fun _ s6 ⟨H6,I6,q6⟩=>⟨σ,H6,I6,q6⟩
def Qi(f:Int→Int→Int):L8:=fun x y H Q=>∃i j,x= .int i∧y= .int j∧Q (.int (f i j)) H
theorem DV:NG X .Add (Qi fun i j=>i+j):=by
 intro pins s σ H x y v u Q I r1 r2 h
 obtain⟨i,j,e1,e2,q⟩:=h
 subst e1;subst e2
 obtain⟨t,rfl⟩:=r1
 obtain⟨t',rfl⟩:=r2
 exact iadd_int ⟨.int _,H,I.tok _,⟨_,rfl⟩,q⟩
theorem Ij:NG X .Sub (Qi fun i j=>i - j):=by
 intro pins s σ H x y v u Q I r1 r2 h
 obtain⟨i,j,e1,e2,q⟩:=h
 subst e1;subst e2
 obtain⟨t,rfl⟩:=r1
 obtain⟨t',rfl⟩:=r2
 exact isub_int ⟨.int _,H,I.tok _,⟨_,rfl⟩,q⟩
end
section
variable {X:Cx}{pos:Pos}
def Mb(c:TT)(tb:TS):TS:=fun D σ H=>∃W:Nat→St→Hp→Prop,(∃m,W m σ H)∧∀m σ H,W m σ H→
 c σ H fun b H1=>if b=true then ∃N:St→Hp→Prop,(∀σ' H',N σ' H'→∃m',m' <m∧W m' σ' H')∧tb {D with nx:=N,ct:=N,bk:=D.nx} σ H1 else D.nx σ H1
theorem Cf{c:Expr}{body:List Stmt}{tc:TT}{tb:TS}(hp:PassesOwn (model X.prog X.w) X.A X.env X.xe)(hc:PT X c tc)(hb:DS X body tb):PS X (.While c body [] pos) (Mb tc tb):=by
 intro pins s σ H D I h
 obtain⟨W,⟨m0,w0⟩,turn⟩:=h
 refine wpAny_While (codeAny_whileLoop (fun n s'=>∃σ' H',Inv X pins σ' H' s'∧W n σ' H') ?_ m0 ⟨σ,H,I,w0⟩)
 rintro n s1 ⟨σ1,H1,I1,w1⟩
 refine wpAny_passesOwn hp (dy (hc pins s1 σ1 H1 _ I1 (turn n σ1 H1 w1)) fun b s2 ⟨H2,I2,q2⟩=> ?_)
 cases b with
 |true=>
  obtain⟨N,hN,q2⟩:=q2
  rw[if_pos rfl]
  refine wpAny_passesOwn hp (dy (hb pins s2 σ1 H2 _ I2 q2) fun f s3 q3=> ?_)
  cases f with
  |next=>
   obtain⟨σ3,H3,I3,n3⟩:=q3
   obtain⟨m',hm,w3⟩:=hN σ3 H3 n3
   exact⟨m',hm,σ3,H3,I3,w3⟩
  |cont=>
   obtain⟨σ3,H3,I3,n3⟩:=q3
   obtain⟨m',hm,w3⟩:=hN σ3 H3 n3
   exact⟨m',hm,σ3,H3,I3,w3⟩
  |brk=>exact q3
  |ret v=>exact q3
 |false=>
  rw[if_neg Bool.false_ne_true]
  exact wpAny_execs_nil ⟨σ1,H2,I2,q2⟩
end
structure It where
 go:Nat→Hp→Prop
 Ng:Nat→Hp→V→Hp→Prop
 stop:Nat→Hp→Prop
def vM(X:Cx)(pins:List (Addr×Obj))(H:Hp)(b:Addr):Prop:=
 H b=none∧b≠X.env.locals∧b∉X.fs∧(b∈X.ex∨X.zA.heap.objs.size≤b)∧(∀x c,X.env.cells.lookup x=some c→c≠b)∧∀p∈X.pn ++ pins,p.1≠b
theorem Inv.GP{X:Cx}{pins:List (Addr×Obj)}{σ:St}{H H':Hp}{s:Shared}{b:Addr}(I:Inv X pins σ H s)(hb:s.heap.objs.size≤b)(hn:H' b=none):vM X pins H' b:=by
 refine⟨hn,Nat.ne_of_gt (Nat.lt_of_lt_of_le I.lt hb),I.O2 hb,.inr (Nat.le_trans I.sz hb),fun x c e z=> ?_,fun p hp z=> ?_⟩
 ·obtain⟨v,q⟩:=I.cell x c e
  exact absurd (Nat.lt_of_lt_of_le q.lt (by rw[z];exact hb)) (Nat.lt_irrefl _)
 ·exact absurd (Nat.lt_of_lt_of_le (Heap.lt_size (I.pin p hp).1) (by rw[z];exact hb)) (Nat.lt_irrefl _)
structure Turn(P:Program)(w:World)(K:PySem.W.Frag)(tg:Expr)(J:It)(fp:List Addr)(it:Addr)(tn:Nat→Heap→Prop):Prop where
 mem:it∈fp
 obj:∀i h,tn i h→∀b∈fp,∃o,h.get? b=some o∧∀v,o.data≠.cell v
 keep:∀i h h',tn i h→(∀b∈fp,∀o,h.get? b=some o→h'.get? b=some o)→tn i h'
 item:∀(X:Cx),X.prog=P→X.w=w→X.K=K→X.calm=true→∀(i:Nat) (pins:List (Addr×Obj)) (s:Shared) (σ:St) (H:Hp) (E:Value→Shared→Prop),Inv X pins σ H s→(∀b∈fp,vM X pins H b)→tn i s.heap→J.go i H→
  wpAny (model P w) X.A (pyNext (.ref it)) (fun r s1=>∃u,r=some u∧
   wpAny (model P w) X.A (letOwnedTupleGo tg (.ref it) u) (fun _ s2=>∃x H',Inv X pins σ H' s2∧RelV x u∧J.Ng i H x H'∧tn (i+1) s2.heap∧∀b∈fp,H' b=none) E s1) E s
 done:∀(X:Cx),X.prog=P→X.w=w→X.K=K→X.calm=true→∀(i:Nat) (pins:List (Addr×Obj)) (s:Shared) (σ:St) (H:Hp) (E:Value→Shared→Prop),Inv X pins σ H s→(∀b∈fp,vM X pins H b)→tn i s.heap→J.stop i H→
  wpAny (model P w) X.A (pyNext (.ref it)) (fun r s1=>r=none∧Inv X pins σ H s1) E s
 self:∀(A:Around) (i:Nat) (s:Shared) (Q:Value→Shared→Prop) (E:Value→Shared→Prop),tn i s.heap→Q (.ref it) s→wpAny (model P w) A (pyIter (.ref it)) Q E s
abbrev TI:=St→Hp→(It→Hp→Prop)→Prop
def Pb(X:Cx)(pins:List (Addr×Obj))(σ:St)(tg:Expr)(R:It→Hp→Prop)(itv:Value)(s2:Shared):Prop:=
 ∃(it:Addr) (fp:List Addr) (tn:Nat→Heap→Prop) (J:It) (H':Hp),itv= .ref it∧Inv X pins σ H' s2∧Turn X.prog X.w X.K tg J fp it tn∧tn 0 s2.heap∧(∀b∈fp,vM X pins H' b)∧R J H'
def PI(X:Cx)(tg iter:Expr)(wi:TI):Prop:=
 ∀(pins:List (Addr×Obj)) (s:Shared) (σ:St) (H:Hp) (R:It→Hp→Prop),Inv X pins σ H s→wi σ H R→
  wpAny (model X.prog X.w) X.A (eval iter X.env) (fun v s1=>wpAny (model X.prog X.w) X.A (pyIter v) (Pb X pins σ tg R) X.xe s1) X.xe s
theorem FA{M:Model}{A:Around}{E:Value→Shared→Prop}{s:Shared}{tg:Expr}{it:Addr}{u:Value}{o:Obj}{n:String}{vs:Array Value}{Q:Unit→Shared→Prop}(ho:s.heap.get? it=some o)(hc:o.cls= .type n)(hd:o.data= .fields vs)
  (hn:["enumerate","zip","dict_itemiterator","dict_reverseitemiterator","odict_iterator","itertools.zip_longest","itertools.pairwise"].contains n=false) (hQ:Q () s):wpAny M A (letOwnedTupleGo tg (.ref it) u) Q E s:=by
 unfold letOwnedTupleGo
 cases tg <;>first
  |exact wpAny_pure hQ
  |(cases u <;>first
    |exact wpAny_pure hQ
    |(refine wpAny_bind (wpAny_load ho ?_)
      rw[hc,hd]
      show wpAny M A (if(["enumerate","zip","dict_itemiterator","dict_reverseitemiterator","odict_iterator","itertools.zip_longest","itertools.pairwise"].contains n&&vs[0]? ==some (rawInt _))=true then _ else _) Q E s
      rw[if_neg (by intro h;rw[hn,Bool.false_and] at h;cases h)]
      exact wpAny_pure hQ))
def Pc(K:PySem.W.Frag)(a:Addr):It:=
 ⟨fun i H=>∃xs x,gn K H a xs∧xs[i]? =some x,fun i H x H'=>H'=H∧∀xs,gn K H a xs→xs[i]? =some x,fun i H=>∃xs,gn K H a xs∧xs.length≤i⟩
def NM(lo:Int)(n:Nat):It:=⟨fun i _=>i<n,fun i H x H'=>H'=H∧x= .int (lo+i),fun i _=>n≤i⟩
theorem GQ{P:Program}{w:World}{K:PySem.W.Frag}{tg:Expr}(a it:Addr):Turn P w K tg (Pc K a) [it] it (fun i h=>h.IsListIter it a i) where
 mem:=by simp
 obj:=fun i h st b hb=>by
  have e:b=it:=by simpa using hb
  subst e
  obtain⟨o,e,c,d⟩:=st
  exact⟨o,e,fun v z=>by rw[d] at z;cases z⟩
 keep:=fun i h h' st k=>st.at fun o e=>k it (by simp) o e
 item:=by
  intro X hP hw hK hc i pins s σ H E I hf st hg
  subst hP hw hK
  obtain⟨xs,x,hq,hx⟩:=hg
  obtain⟨its,rv,p,hz⟩:=I.list hq
  obtain⟨u,hu,ru⟩:=rv.get hx
  obtain⟨f0,f1,f2,f3,f4,f5⟩:=hf it (by simp)
  refine wpAny_pyNext_list_item st p.isList (x:=u) (by simpa using hu) fun h' st' sb=> ?_
  have I1:Inv X pins σ H {s with heap:=h'}:=I.turned (t':=s.toks) (fun b o hb e=>(sb.2 b hb).trans e) f0 f1 f3 f4 f5
  obtain⟨o,e,c,d⟩:=id st'
  exact⟨u,rfl,FA (s:={s with heap:=h'}) e c d (by decide) ⟨x,H,I1,ru,⟨rfl,fun ys hy=>by rw[I.nT hy hq];exact hx⟩,st',fun b hb=>(hf b hb).1⟩⟩
 done:=by
  intro X hP hw hK hc i pins s σ H E I hf st hg
  subst hP hw hK
  obtain⟨xs,hq,hx⟩:=hg
  obtain⟨its,rv,p,hz⟩:=I.list hq
  obtain⟨f0,f1,f2,f3,f4,f5⟩:=hf it (by simp)
  have hl:=rv.length
  exact wpAny_pyNext_list_end (I.ok.hd hc) st p.isList (by simp;lia) fun h' eb=>⟨rfl,I.turned (t':=s.toks) (fun b o hb e=>eb b o hb e) f0 f1 f3 f4 f5⟩
 self:=fun _ _ _ _ _ st h=>wpAny_pyIter_listiter st h
theorem DW{P:Program}{w:World}{K:PySem.W.Frag}{tg:Expr}(it:Addr)(lo:Int)(n:Nat):Turn P w K tg (NM lo n) [it] it (fun i h=>IsRangeIter h it (lo+(i:Nat)*1) ((n:Int) - (i:Nat)) 1) where
 mem:=by simp
 obj:=fun i h st b hb=>by
  have e:b=it:=by simpa using hb
  subst e
  exact⟨_,st,fun v z=>by
   have z':Data.fields _=Data.cell v:=z
   cases z'⟩
 keep:=fun i h h' st k=>k it (by simp) _ st
 item:=by
  intro X hP hw hK hc i pins s σ H E I hf st hg
  subst hP hw hK
  obtain⟨f0,f1,f2,f3,f4,f5⟩:=hf it (by simp)
  have W:=Walks.range (prog:=X.prog) (w:=X.w) (I.ok.hd hc) it lo 1 n
  refine W.item i s _ _ hg st fun v h' tk hv st' kk=> ?_
  obtain⟨t,rfl⟩:=hv
  have I1:Inv X pins σ H {s with heap:=h',toks:=tk}:=I.turned (fun b o hb e=>kk b o (by simpa using hb) e) f0 f1 f3 f4 f5
  refine⟨_,rfl,FA (s:={s with heap:=h',toks:=tk}) (n:="range_iterator") st' rfl rfl (by decide) ⟨.int (lo+i),H,I1,⟨t,?_⟩,⟨rfl,rfl⟩,st',fun b hb=>(hf b hb).1⟩⟩
  rw[Int.mul_one]
 done:=by
  intro X hP hw hK hc i pins s σ H E I hf st hg
  subst hP hw hK
  obtain⟨f0,f1,f2,f3,f4,f5⟩:=hf it (by simp)
  exact wpAny_pyNext_range_end (I.ok.hd hc) st (by have:n≤i:=hg;lia) fun h' eb=>⟨rfl,I.turned (t':=s.toks) (fun b o hb e=>eb b o hb e) f0 f1 f3 f4 f5⟩
 self:=fun _ _ _ _ _ st h=>wpAny_pyIter_rangeiter st h
section
variable {X:Cx}{tg:Expr}
def NN(K:PySem.W.Frag)(tl:TE):TI:=fun σ H R=>tl σ H fun x H1=>∃a,x= .ref a∧(∃xs,gn K H1 a xs)∧R (Pc K a) H1
theorem cw{l:Expr}{tl:TE}(hl:PE X l tl):PI X tg l (NN X.K tl):=by
 intro pins s σ H R I h
 refine dy (hl pins s σ H _ I h) fun v s1 ⟨x,H1,I1,r1,q1⟩=> ?_
 obtain⟨a,e,⟨xs,hq⟩,q⟩:=q1
 subst e
 cases r1
 obtain⟨its,rv,p,hz⟩:=I1.list hq
 refine wpAny_pyIter_list p.isList ?_
 refine⟨s1.heap.objs.size,[s1.heap.objs.size],_,_,H1,rfl,I1.kept (t':=s1.toks) fun b o e=>Heap.get?_push_of_some _ e,GQ a _,⟨_,Heap.get?_push_size _ rfl,rfl,rfl⟩,fun b hb=> ?_,q⟩
 have e:b=s1.heap.objs.size:=by simpa using hb
 subst e
 exact I1.GP (Nat.le_refl _) (I1.dB.fresh (Nat.le_refl _))
theorem Cg{pins:List (Addr×Obj)}{σ:St}{H:Hp}{s:Shared}{R:It→Hp→Prop}{E:Value→Shared→Prop}{lo hi:Int}{t u v:Tok}{tk:Nat}(I:Inv X pins σ H s)(h1: -(2^62)≤lo)(h2:lo<2^62)(h3: -(2^62)≤hi)(h4:hi<2^62)
  (q:R (NM lo (hi - lo).toNat) H):wpAny (model X.prog X.w) X.A (pyIter (.ref s.heap.objs.size)) (Pb X pins σ tg R) E {s with heap:=s.heap.push {cls:= .type "range",data:= .fields #[.int lo t,.int hi u,.int 1 v]},toks:=tk}:=by
 refine wpAny_pyIter_range (IsRange.new ..) (small_one h1 h2 h3 h4) ?_
 have I1:Inv X pins σ H {s with heap:=s.heap.push {cls:= .type "range",data:= .fields #[.int lo t,.int hi u,.int 1 v]},toks:=tk}:=I.kept fun b o e=>Heap.get?_push_of_some _ e
 refine⟨(s.heap.push {cls:= .type "range",data:= .fields #[.int lo t,.int hi u,.int 1 v]}).objs.size,[(s.heap.push {cls:= .type "range",data:= .fields #[.int lo t,.int hi u,.int 1 v]}).objs.size],_,_,H,rfl,
  I1.kept (t':=tk) fun b o e=>Heap.get?_push_of_some _ e,DW _ lo (hi - lo).toNat,?_,fun b hb=> ?_,q⟩
 ·have e1:lo+((0:Nat):Int)*1=lo:=by simp
  have e2:(((hi - lo).toNat:Nat):Int) - ((0:Nat):Int)=Builtin.Range.rangeSize lo hi 1:=by rw[rangeSize_one];split <;>lia
  show IsRangeIter _ _ (lo+((0:Nat):Int)*1) ((((hi - lo).toNat:Nat):Int) - ((0:Nat):Int)) 1
  rw[e1,e2]
  exact Heap.get?_push_size _ rfl
 ·have e:b=(s.heap.push {cls:= .type "range",data:= .fields #[.int lo t,.int hi u,.int 1 v]}).objs.size:=by simpa using hb
  subst e
  exact I1.GP (Nat.le_refl _) (I1.dB.fresh (Nat.le_refl _))
def NO(ta:TA):TI:=fun σ H R=>ta σ H fun vs H1=>∃j:Int,vs=[.int j]∧-(2^62)≤j∧j<2^62∧R (NM 0 j.toNat) H1
def NP(ta:TA):TI:=fun σ H R=>ta σ H fun vs H1=>∃i j:Int,vs=[.int i,.int j]∧(-(2^62)≤i∧i<2^62∧-(2^62)≤j∧j<2^62)∧R (NM i (j - i).toNat) H1
theorem i8{a:Expr}{ta:TA}{p pos:Pos}(hg:Gl X "range")(hm:X.mg "range"=none)(ha:PA X [a] ta)(hs:starEach [a] X.env=[(false,eval a X.env)]:=by rfl):PI X tg (.Call (.Name "range" p) [a] [] pos) (NO ta):=by
 intro pins s σ H R I h
 refine Call_ (nQ I hg hm boot_range (PyProof.Rows.callWith_type1 (dy (ha pos pins s σ H _ I h) fun us s1 ⟨vs,H1,I1,r1,q1⟩=> ?_) hs rfl))
 obtain⟨j,e,q1,q2,q⟩:=q1
 subst e
 cases r1 with
 |cons r rr=>
  cases rr
  obtain⟨t,rfl⟩:=r
  exact call_range_1 (Cg I1 (by lia) (by lia) q1 q2 (by simpa using q))
theorem zC{a b:Expr}{ta:TA}{p pos:Pos}(hg:Gl X "range")(hm:X.mg "range"=none)(ha:PA X [a,b] ta)(hs:starEach [a,b] X.env=[(false,eval a X.env),(false,eval b X.env)]:=by rfl)(hs2:starEach [b] X.env=[(false,eval b X.env)]:=by rfl):
  PI X tg (.Call (.Name "range" p) [a,b] [] pos) (NP ta):=by
 intro pins s σ H R I h
 refine Call_ (nQ I hg hm boot_range (PyProof.Rows.callWith_type1 (dy (ha pos pins s σ H _ I h) fun us s1 ⟨vs,H1,I1,r1,q1⟩=> ?_) (by rw[hs,hs2]) (by rw[hs2];rfl)))
 obtain⟨i,j,e,⟨q1,q2,q3,q4⟩,q⟩:=q1
 subst e
 cases r1 with
 |cons r rr=>
  cases rr with
  |cons r' rr=>
   cases rr
   obtain⟨t,rfl⟩:=r
   obtain⟨t',rfl⟩:=r'
   exact call_range_2 (Cg I1 q1 q2 q3 q4 q)
def Pd(wi:TI)(g:TG)(tb:TS):TS:=fun D σ H=>wi σ H fun J H1=>∃W:Nat→Nat→St→Hp→Prop,(∃m,W 0 m σ H1)∧∀i m σ H,W i m σ H→
 (J.stop i H∧D.nx σ H)∨(J.go i H∧∃N:St→Hp→Prop,(∀σ' H',N σ' H'→∃m',m' <m∧W (i+1) m' σ' H')∧∀x H',J.Ng i H x H'→g x σ H' fun σ2 H2=>tb {D with nx:=N,ct:=N,bk:=D.nx} σ2 H2)
def wB(fp:List Addr)(h:Heap):List (Addr×Obj):=fp.filterMap fun b=>(h.get? b).map fun o=>(b,o)
theorem qt{fp:List Addr}{h:Heap}{b:Addr}{o:Obj}(hb:b∈fp)(e:h.get? b=some o):(b,o)∈wB fp h:=List.mem_filterMap.mpr ⟨b,hb,by rw[e];rfl⟩
theorem GR{fp:List Addr}{h:Heap}{p:Addr×Obj}(hp:p∈wB fp h):p.1∈fp∧h.get? p.1=some p.2:=by
 obtain⟨b,hb,e⟩:=List.mem_filterMap.mp hp
 cases q:h.get? b with
 |none=>rw[q] at e;cases e
 |some o=>
  rw[q] at e
  have e':(b,o)=p:=Option.some.inj e
  subst e'
  exact⟨hb,q⟩
theorem Inv.pinned{pins:List (Addr×Obj)}{σ:St}{H:Hp}{s:Shared}{fp:List Addr}(I:Inv X pins σ H s)(hf:∀b∈fp,vM X pins H b)(ho:∀b∈fp,∃o,s.heap.get? b=some o∧∀v,o.data≠.cell v):Inv X (pins ++ wB fp s.heap) σ H s:=
 I.Fx fun p hp=>(List.mem_append.mp hp).elim (fun z=>I.pin p (List.mem_append_right _ z)) fun z=>by
  obtain⟨hb,e⟩:=GR z
  obtain⟨f0,f1,f2,_⟩:=hf p.1 hb
  obtain⟨o,e',d⟩:=ho p.1 hb
  rw[e] at e';cases e'
  exact⟨e,f0,f1,f2,d⟩
theorem Inv.rG{pins pl:List (Addr×Obj)}{σ:St}{H:Hp}{s:Shared}(I:Inv X (pins ++ pl) σ H s):Inv X pins σ H s:=I.Fx fun p hp=>I.pin p (List.mem_append_right _ (List.mem_append_left _ hp))
theorem cX{iter:Expr}{body:List Stmt}{wi:TI}{g:TG}{tb:TS}{pos:Pos}(hp:PassesOwn (model X.prog X.w) X.A X.env X.xe)(hc:X.calm=true)(hi:PI X tg iter wi)(hg:PG X tg g)(hb:DS X body tb)
  (hs:∀x,foldedSetIterable iter X.env x=pure x:=by intro _;rfl):PS X (.For tg iter body [] pos) (Pd wi g tb):=by
 intro pins s σ H D I h
 refine wpAny_For (dy (hi pins s σ H _ I h) fun v s1 h1=>dy h1 fun itv s2 h2=> ?_) hs
 obtain⟨it,fp,tn,J,H2,e,I2,T,st2,f2,W,⟨m0,w0⟩,turn⟩:=h2
 subst e
 have stat:∀{H':Hp},(∀b∈fp,H' b=none)→∀b∈fp,vM X pins H' b:=fun hn b hb=>⟨hn b hb,(f2 b hb).2⟩
 refine codeAny_forLoop_any (fun n s'=>∃i σ' H',Inv X pins σ' H' s'∧tn i s'.heap∧(∀b∈fp,H' b=none)∧W i n σ' H') ?_ m0 ⟨0,σ,H2,I2,st2,fun b hb=>(f2 b hb).1,w0⟩
 rintro n s3 ⟨i,σ3,H3,I3,st3,fr3,w3⟩
 rcases turn i n σ3 H3 w3 with⟨stop,qn⟩ |⟨go,N,hN,step⟩
 ·refine wpAny_passesOwn hp (dy (T.done X rfl rfl rfl hc i pins s3 σ3 H3 X.xe I3 (stat fr3) st3 stop) fun r s4 ⟨hr,I4⟩=> ?_)
  subst hr
  exact wpAny_execs_nil ⟨σ3,H3,I4,qn⟩
 ·refine wpAny_passesOwn hp (dy (T.item X rfl rfl rfl hc i pins s3 σ3 H3 X.xe I3 (stat fr3) st3 go) fun r s4 ⟨u,hr,h4⟩=> ?_)
  subst hr
  refine wpAny_passesOwn hp (dy h4 fun _ s5 ⟨x,H5,I5,r5,y5,st5,fr5⟩=> ?_)
  have I5':=I5.pinned (stat fr5) (T.obj _ _ st5)
  refine wpAny_passesOwn hp (dy (hg _ s5 σ3 H5 x u _ I5' r5 (step x H5 y5)) fun _ s6 ⟨σ6,H6,I6,q6⟩=> ?_)
  refine wpAny_passesOwn hp (dy (hb _ s6 σ6 H6 _ I6 q6) fun f s7 q7=> ?_)
  have again:∀{σ7:St} {H7:Hp},Inv X (pins ++ wB fp s5.heap) σ7 H7 s7→N σ7 H7→∃m,m<n∧∃i σ' H',Inv X pins σ' H' s7∧tn i s7.heap∧(∀b∈fp,H' b=none)∧W i m σ' H':=fun{σ7 H7} I7 n7=>by
   obtain⟨m',hm,w7⟩:=hN σ7 H7 n7
   refine⟨m',hm,i+1,σ7,H7,I7.rG,T.keep _ _ _ st5 fun b hb o e=>(I7.pin (b,o) (List.mem_append_right _ (List.mem_append_right _ (qt hb e)))).1,fun b hb=> ?_,w7⟩
   obtain⟨o,e,d⟩:=T.obj _ _ st5 b hb
   exact(I7.pin (b,o) (List.mem_append_right _ (List.mem_append_right _ (qt hb e)))).2.1
  cases f with
  |next=>obtain⟨σ7,H7,I7,n7⟩:=q7;exact again I7 n7
  |cont=>obtain⟨σ7,H7,I7,n7⟩:=q7;exact again I7 n7
  |brk=>obtain⟨σ7,H7,I7,q7⟩:=q7;exact⟨σ7,H7,I7.rG,q7⟩
  |ret v=>obtain⟨x7,σ7,H7,I7,r7,q7⟩:=q7;exact⟨x7,σ7,H7,I7.rG,r7,q7⟩
end
abbrev R2:=V→V→Hp→VK→Prop
def rH(X:Cx)(f:Value→Value→Sem Value)(r:R2):Prop:=
 ∀(pins:List (Addr×Obj)) (s:Shared) (σ:St) (H:Hp) (x y:V) (v u:Value) (Q:VK),Inv X pins σ H s→RelV x v→RelV y u→r x y H Q→
  wpAny (model X.prog X.w) X.A (f v u) (EP X pins σ Q) X.xe s
def Pe(X:Cx)(f:Value→Sem Value)(r:V→Hp→VK→Prop):Prop:=
 ∀(pins:List (Addr×Obj)) (s:Shared) (σ:St) (H:Hp) (x:V) (v:Value) (Q:VK),Inv X pins σ H s→RelV x v→r x H Q→
  wpAny (model X.prog X.w) X.A (f v) (EP X pins σ Q) X.xe s
def jZ(X:Cx)(f:Value)(r:List V→Hp→VK→Prop):Prop:=
 ∀(pins:List (Addr×Obj)) (s:Shared) (σ:St) (H:Hp) (xs:List V) (us:List Value) (Q:VK),Inv X pins σ H s→Vals xs us→r xs H Q→
  wpAny (model X.prog X.w) X.A (call f us) (EP X pins σ Q) X.xe s
def Pf(X:Cx)(r:V→Hp→(Bool→Hp→Prop)→Prop):Prop:=
 ∀(pins:List (Addr×Obj)) (s:Shared) (σ:St) (H:Hp) (x:V) (v:Value) (Q:Bool→Hp→Prop),Inv X pins σ H s→RelV x v→r x H Q→
  wpAny (model X.prog X.w) X.A (truthy v) (TP X pins σ Q) X.xe s
def Mc(r:R2)(ta tb:TE):TE:=fun σ H Q=>ta σ H fun x H1=>tb σ H1 fun y H2=>r x y H2 Q
def Qj(r:V→Hp→VK→Prop)(ta:TE):TE:=fun σ H Q=>ta σ H fun x H1=>r x H1 Q
def rI(C:Int→Int→Prop)(g:Int→Int→V):R2:=fun x y H Q=>∃i j,x= .int i∧y= .int j∧C i j∧Q (g i j) H
def Ke(g:Int→Int→V):R2:=fun x y H Q=>∃i j,x= .int i∧y= .int j∧Q (g i j) H
def rU(g:Int→V):V→Hp→VK→Prop:=fun x H Q=>∃i,x= .int i∧Q (g i) H
section
variable {X:Cx}{a b c:Expr}{ta tb tc:TE}{pos:Pos}
theorem Md(ha:PE X a ta)(hb:PE X b tb){pins:List (Addr×Obj)}{s:Shared}{σ:St}{H:Hp}{R:V→V→Hp→Prop}(I:Inv X pins σ H s)
  (h:ta σ H fun x H1=>tb σ H1 fun y H2=>R x y H2) {Q:Value→Shared→Prop} {f:Value→Value→Sem Value}
  (hf:∀v u s2 x y H2,Inv X pins σ H2 s2→RelV x v→RelV y u→R x y H2→wpAny (model X.prog X.w) X.A (f v u) Q X.xe s2):
  wpAny (model X.prog X.w) X.A (eval a X.env) (fun v s₁=>wpAny (model X.prog X.w) X.A (eval b X.env) (fun u s₂=>wpAny (model X.prog X.w) X.A (f v u) Q X.xe s₂) X.xe s₁) X.xe s:=by
 refine dy (ha pins s σ H _ I h) fun v s1 ⟨x,H1,I1,r1,q1⟩=> ?_
 refine dy (hb pins s1 σ H1 _ I1 q1) fun u s2 ⟨y,H2,I2,r2,q2⟩=> ?_
 exact hf v u s2 x y H2 I2 r1 r2 q2
theorem a9{op:Operator}{r:R2}(ho:rH X (binaryOp op) r)(ha:PE X a ta)(hb:PE X b tb):PE X (.BinOp a op b pos) (Mc r ta tb):=by
 intro pins s σ H Q I h
 exact wpAny_BinOp (Md ha hb I h fun v u s2 x y H2 I2 rx ry q=>ho pins s2 σ H2 x y v u Q I2 rx ry q)
theorem gr{op:UnaryOp}{r:V→Hp→VK→Prop}(ho:Pe X (unaryOp op) r)(ha:PE X a ta):PE X (.UnaryOp op a pos) (Qj r ta):=by
 intro pins s σ H Q I h
 exact UnaryOp_ (dy (ha pins s σ H _ I h) fun v s1 ⟨x,H1,I1,r1,q1⟩=>ho pins s1 σ H1 x v Q I1 r1 q1)
theorem Pg{f:Value→Value→Sem Value}{C:Int→Int→Prop}{g:Int→Int→Int}
  (rule:∀(i j:Int) (t u:Tok) (s:Shared) (Q:Value→Shared→Prop) (E:Value→Shared→Prop),C i j→Q (.int (g i j) s.toks) {s with toks:=s.toks+1}→wpAny (model X.prog X.w) X.A (f (.int i t) (.int j u)) Q E s):
  rH X f (rI C fun i j=> .int (g i j)):=by
 intro pins s σ H x y v u Q I rx ry h
 obtain⟨i,j,rfl,rfl,hc,q⟩:=h
 obtain⟨t,rfl⟩:=rx
 obtain⟨t',rfl⟩:=ry
 exact rule i j t t' s _ _ hc ⟨.int (g i j),H,I.tok _,⟨_,rfl⟩,q⟩
theorem NQ{f:Value→Value→Sem Value}{g:Int→Int→Int}
  (rule:∀(i j:Int) (t u:Tok) (s:Shared) (Q:Value→Shared→Prop) (E:Value→Shared→Prop),Q (.int (g i j) s.toks) {s with toks:=s.toks+1}→wpAny (model X.prog X.w) X.A (f (.int i t) (.int j u)) Q E s):
  rH X f (Ke fun i j=> .int (g i j)):=by
 intro pins s σ H x y v u Q I rx ry h
 obtain⟨i,j,rfl,rfl,q⟩:=h
 obtain⟨t,rfl⟩:=rx
 obtain⟨t',rfl⟩:=ry
 exact rule i j t t' s _ _ ⟨.int (g i j),H,I.tok _,⟨_,rfl⟩,q⟩
theorem Kk{f:Value→Value→Sem Value}{g:Int→Int→Bool}
  (rule:∀(i j:Int) (t u:Tok) (s:Shared) (Q:Value→Shared→Prop) (E:Value→Shared→Prop),Q (.bool (g i j)) s→wpAny (model X.prog X.w) X.A (f (.int i t) (.int j u)) Q E s):
  rH X f (Ke fun i j=> .bl (g i j)):=by
 intro pins s σ H x y v u Q I rx ry h
 obtain⟨i,j,rfl,rfl,q⟩:=h
 obtain⟨t,rfl⟩:=rx
 obtain⟨t',rfl⟩:=ry
 exact rule i j t t' s _ _ ⟨.bl (g i j),H,I,rfl,q⟩
theorem eV:rH X (binaryOp .Add) (Ke fun i j=> .int (i+j)):=NQ fun _ _ _ _ _ _ _ q=>add_int q
theorem iI:rH X (binaryOp .Sub) (Ke fun i j=> .int (i - j)):=NQ fun _ _ _ _ _ _ _ q=>sub_int q
theorem Ik:rH X (binaryOp .Mod) (rI (fun _ j=>0<j) fun i j=> .int (i % j)):=Pg fun i j _ _ _ _ _ hc q=>by
 have h1:(0:Int)<j:=hc
 exact mod_int' (by lia) (by rw[Int.fmod_eq_emod_of_nonneg i (by lia)];exact q)
theorem QA{f:Value→Sem Value}{g:Int→Int}
  (rule:∀(i:Int) (t:Tok) (s:Shared) (Q:Value→Shared→Prop) (E:Value→Shared→Prop),Q (.int (g i) s.toks) {s with toks:=s.toks+1}→wpAny (model X.prog X.w) X.A (f (.int i t)) Q E s):
  Pe X f (rU fun i=> .int (g i)):=by
 intro pins s σ H x v Q I rx h
 obtain⟨i,rfl,q⟩:=h
 obtain⟨t,rfl⟩:=rx
 exact rule i t s _ _ ⟨.int (g i),H,I.tok _,⟨_,rfl⟩,q⟩
theorem dQ:Pe X (unaryOp .USub) (rU fun i=> .int (-i)):=QA fun _ _ _ _ _ q=>neg_int q
end
def NR:V→V→Bool
 | .fG,.fG=>true | .fG,.int _=>true | .int _,.fG=>true | .fG,.bl _=>true | .bl _,.fG=>true | .fG,.str _=>true | .str _,.fG=>true
 | .int _,.int _=>true | .bl _,.bl _=>true | .str _,.str _=>true | .AB _,.AB _=>true
 | .int _,.str _=>true | .str _,.int _=>true | .bl _,.str _=>true | .str _,.bl _=>true
 |_,_=>false
def QB:R2:=fun x y H Q=>NR x y=true∧Q (.bl (decide (x=y))) H
def QC:R2:=fun x y H Q=>NR x y=true∧Q (.bl (!decide (x=y))) H
theorem FC{i j:Int}:decide (V.int i=V.int j)=(i==j):=by
 rw[Bool.eq_iff_iff]
 simp
theorem Il{i j:Bool}:decide (V.bl i=V.bl j)=(i==j):=by
 rw[Bool.eq_iff_iff]
 simp
theorem FD{i j:Str}:decide (V.str i=V.str j)=(i==j):=by
 rw[Bool.eq_iff_iff]
 simp
theorem FE{i j:Array UInt8}:decide (V.AB i=V.AB j)=(i.toList==j.toList):=by
 rw[Bool.eq_iff_iff]
 cases i
 cases j
 simp
section
variable {X:Cx}{a b c:Expr}{ta tb tc:TE}{pos:Pos}
theorem bX{pins:List (Addr×Obj)}{σ:St}{H:Hp}{s:Shared}{Q:VK}{k k':Bool}(I:Inv X pins σ H s)(q:Q (.bl k) H)(e:k=k'):EP X pins σ Q (.bool k') s:=by
 subst e
 exact⟨.bl k,H,I,rfl,q⟩
theorem de:rH X (compareOp .Eq) QB:=by
 intro pins s σ H x y v u Q I rx ry h
 obtain⟨hs,q⟩:=h
 cases x with
 |fG=>
  cases rx
  cases y with
  |fG=>cases ry;exact PySem.EqNone.eq_none_none (bX I q (by simp))
  |bl j=>cases ry;exact PySem.EqNone.eq_none_bool (bX I q (by simp))
  |int j=>obtain⟨t',rfl⟩:=ry;exact PySem.EqNone.eq_none_int (bX I q (by simp))
  |str j=>obtain⟨t',rfl⟩:=ry;exact PySem.EqNone.eq_none_str (bX I q (by simp))
  |_=>exact absurd (show false=true from hs) Bool.false_ne_true
 |bl i=>
  cases rx
  cases y with
  |fG=>cases ry;exact PySem.EqNone.eq_bool_none (bX I q (by simp))
  |bl j=>cases ry;exact eq_bool (bX I q Il)
  |str j=>obtain⟨t',rfl⟩:=ry;exact PySem.EqMixed.eq_bool_str (bX I q (by simp))
  |_=>exact absurd (show false=true from hs) Bool.false_ne_true
 |int i=>
  obtain⟨t,rfl⟩:=rx
  cases y with
  |fG=>cases ry;exact PySem.EqNone.eq_int_none (bX I q (by simp))
  |int j=>obtain⟨t',rfl⟩:=ry;exact eq_int (bX I q FC)
  |str j=>obtain⟨t',rfl⟩:=ry;exact PySem.EqMixed.eq_int_str (bX I q (by simp))
  |_=>exact absurd (show false=true from hs) Bool.false_ne_true
 |str i=>
  obtain⟨t,rfl⟩:=rx
  cases y with
  |fG=>cases ry;exact PySem.EqNone.eq_str_none (bX I q (by simp))
  |bl j=>cases ry;exact PySem.EqMixed.eq_str_bool (bX I q (by simp))
  |int j=>obtain⟨t',rfl⟩:=ry;exact PySem.EqMixed.eq_str_int (bX I q (by simp))
  |str j=>obtain⟨t',rfl⟩:=ry;exact eq_str (bX I q FD)
  |_=>exact absurd (show false=true from hs) Bool.false_ne_true
 |AB i=>
  obtain⟨t,rfl⟩:=rx
  cases y with
  |AB j=>obtain⟨t',rfl⟩:=ry;exact PySem.W.eq_bytes (bX I q FE)
  |_=>exact absurd (show false=true from hs) Bool.false_ne_true
 |_=>cases y <;>exact absurd (show false=true from hs) Bool.false_ne_true
theorem vc:rH X (compareOp .NotEq) QC:=by
 intro pins s σ H x y v u Q I rx ry h
 obtain⟨hs,q⟩:=h
 cases x with
 |fG=>
  cases rx
  cases y with
  |fG=>cases ry;exact PySem.EqNone.ne_none_none (bX I q (by simp))
  |bl j=>cases ry;exact PySem.EqNone.ne_none_bool (bX I q (by simp))
  |int j=>obtain⟨t',rfl⟩:=ry;exact PySem.EqNone.ne_none_int (bX I q (by simp))
  |str j=>obtain⟨t',rfl⟩:=ry;exact PySem.EqNone.ne_none_str (bX I q (by simp))
  |_=>exact absurd (show false=true from hs) Bool.false_ne_true
 |bl i=>
  cases rx
  cases y with
  |fG=>cases ry;exact PySem.EqNone.ne_bool_none (bX I q (by simp))
  |bl j=>cases ry;exact ne_bool (bX I q (congrArg not Il))
  |str j=>obtain⟨t',rfl⟩:=ry;exact PySem.EqMixed.ne_bool_str (bX I q (by simp))
  |_=>exact absurd (show false=true from hs) Bool.false_ne_true
 |int i=>
  obtain⟨t,rfl⟩:=rx
  cases y with
  |fG=>cases ry;exact PySem.EqNone.ne_int_none (bX I q (by simp))
  |int j=>obtain⟨t',rfl⟩:=ry;exact ne_int (bX I q (congrArg not FC))
  |str j=>obtain⟨t',rfl⟩:=ry;exact PySem.EqMixed.ne_int_str (bX I q (by simp))
  |_=>exact absurd (show false=true from hs) Bool.false_ne_true
 |str i=>
  obtain⟨t,rfl⟩:=rx
  cases y with
  |fG=>cases ry;exact PySem.EqNone.ne_str_none (bX I q (by simp))
  |bl j=>cases ry;exact PySem.EqMixed.ne_str_bool (bX I q (by simp))
  |int j=>obtain⟨t',rfl⟩:=ry;exact PySem.EqMixed.ne_str_int (bX I q (by simp))
  |str j=>obtain⟨t',rfl⟩:=ry;exact ne_str (bX I q (congrArg not FD))
  |_=>exact absurd (show false=true from hs) Bool.false_ne_true
 |AB i=>
  obtain⟨t,rfl⟩:=rx
  cases y with
  |AB j=>obtain⟨t',rfl⟩:=ry;exact PySem.W.ne_bytes (bX I q (congrArg not FE))
  |_=>exact absurd (show false=true from hs) Bool.false_ne_true
 |_=>cases y <;>exact absurd (show false=true from hs) Bool.false_ne_true
theorem Ci:rH X (compareOp .Lt) (Ke fun i j=> .bl (decide (i<j))):=Kk fun _ _ _ _ _ _ _ q=>lt_int q
theorem jd:rH X (compareOp .LtE) (Ke fun i j=> .bl (decide (i≤j))):=Kk fun _ _ _ _ _ _ _ q=>le_int q
theorem ve:rH X (compareOp .Gt) (Ke fun i j=> .bl (decide (j<i))):=Kk fun _ _ _ _ _ _ _ q=>gt_int q
theorem Lw:rH X (compareOp .GtE) (Ke fun i j=> .bl (decide (j≤i))):=Kk fun _ _ _ _ _ _ _ q=>ge_int q
theorem aZ(b:Expr){op:CmpOp}(h:op≠.In:=by decide)(h2:op≠.NotIn:=by decide):behindInMarks op b=false:=by
 have e1:(op==CmpOp.In)=false:=by cases op <;>first |rfl |exact absurd rfl h
 have e2:(op==CmpOp.NotIn)=false:=by cases op <;>first |rfl |exact absurd rfl h2
 cases b <;>simp[behindInMarks,e1,e2]
theorem bV{op:CmpOp}{r:R2}(ho:rH X (compareOp op) r)(ha:PE X a ta)(hb:PE X b tb)(hm:behindInMarks op b=false):PE X (.Compare a [op] [b] pos) (Mc r ta tb):=by
 intro pins s σ H Q I h
 exact wpAny_Compare1 (Md ha hb I h fun v u s2 x y H2 I2 rx ry q=>ho pins s2 σ H2 x y v u Q I2 rx ry q) hm
def Im(t:TE):TT:=fun σ H Q=>t σ H fun x H'=>∃k,x= .bl k∧Q k H'
theorem bf{op:CmpOp}{r:R2}(ho:rH X (compareOp op) r)(ha:PE X a ta)(hb:PE X b tb)(hm:behindInMarks op b=false):PT X (.Compare a [op] [b] pos) (Im (Mc r ta tb)):=by
 intro pins s σ H Q I h
 refine wpAny_isTrue_Compare1 (dy (ha pins s σ H _ I h) fun v s1 ⟨x,H1,I1,r1,q1⟩=>dy (hb pins s1 σ H1 _ I1 q1) fun u s2 ⟨y,H2,I2,r2,q2⟩=>
  dy (ho pins s2 σ H2 x y v u _ I2 r1 r2 q2) fun c s3 ⟨z,H3,I3,r3,k,e,q3⟩=> ?_) hm
 subst e
 cases r3
 exact wpAny_truthy_bool ⟨H3,I3,q3⟩
def Io(r r':R2)(ta tb tc:TE):TE:=fun σ H Q=>ta σ H fun x H1=>tb σ H1 fun y H2=>r x y H2 fun z H3=>∃k,z= .bl k∧
 (if k=true then tc σ H3 fun w' H4=>r' y w' H4 Q else Q (.bl false) H3)
theorem wC{op op':CmpOp}{r r':R2}(ho:rH X (compareOp op) r)(ho':rH X (compareOp op') r')(ha:PE X a ta)(hb:PE X b tb)(hc:PE X c tc)
  (hm:lastMarks [op,op'] [b,c]=false:=by with_unfolding_all rfl):PE X (.Compare a [op,op'] [b,c] pos) (Io r r' ta tb tc):=by
 intro pins s σ H Q I h
 refine Compare_chain (dy (ha pins s σ H _ I h) fun v s1 ⟨x,H1,I1,r1,q1⟩=>chain_link (dy (hb pins s1 σ H1 _ I1 q1) fun u s2 ⟨y,H2,I2,r2,q2⟩=>
  dy (ho pins s2 σ H2 x y v u _ I2 r1 r2 q2) fun d s3 ⟨z,H3,I3,r3,k,e,q3⟩=> ?_)) hm
 subst e
 cases r3
 refine wpAny_truthy_bool ?_
 cases k with
 |false=>exact ite_ff ⟨.bl false,H3,I3,rfl,q3⟩
 |true=>exact ite_tt (chain_last (dy (hc pins s3 σ H3 _ I3 q3) fun w' s4 ⟨z',H4,I4,r4,q4⟩=>ho' pins s4 σ H4 y z' u w' Q I4 r2 r4 q4))
theorem Cj{op op':CmpOp}{r r':R2}(ho:rH X (compareOp op) r)(ho':rH X (compareOp op') r')(ha:PE X a ta)(hb:PE X b tb)(hc:PE X c tc)
  (hm:lastMarks [op,op'] [b,c]=false:=by with_unfolding_all rfl):PT X (.Compare a [op,op'] [b,c] pos) (Im (Io r r' ta tb tc)):=by
 intro pins s σ H Q I h
 refine isTrue_chain (dy (ha pins s σ H _ I h) fun v s1 ⟨x,H1,I1,r1,q1⟩=>test_link (dy (hb pins s1 σ H1 _ I1 q1) fun u s2 ⟨y,H2,I2,r2,q2⟩=>
  dy (ho pins s2 σ H2 x y v u _ I2 r1 r2 q2) fun d s3 ⟨z,H3,I3,r3,k,e,q3⟩=> ?_)) hm
 subst e
 cases r3
 refine wpAny_truthy_bool ?_
 cases k with
 |false=>
  obtain⟨k',e',q'⟩:=q3
  cases e'
  exact ite_ff ⟨H3,I3,q'⟩
 |true=>
  refine ite_tt (test_last (dy (hc pins s3 σ H3 _ I3 q3) fun w' s4 ⟨z',H4,I4,r4,q4⟩=>dy (ho' pins s4 σ H4 y z' u w' _ I4 r2 r4 q4) fun d' s5 ⟨z2,H5,I5,r5,k2,e2,q5⟩=> ?_))
  subst e2
  cases r5
  exact wpAny_truthy_bool ⟨H5,I5,q5⟩
def Kl(K:PySem.W.Frag)(x:V)(H:Hp)(k:Bool):Prop:=
 match x with
 | .fG=>k=false
 | .bl b=>k=b
 | .int i=>k=(i !=0)
 | .str y=>y.length≤sizeLine∧k=((y.length:Int) !=0)
 | .AB y=>y.size≤sizeLine∧k=((y.size:Int) !=0)
 | .ref p=>(∃xs,gn K H p xs∧k= !xs.isEmpty)∨(∃xs,yE K H p xs∧k= !xs.isEmpty)∨∃kvs,H p=some (.dK kvs)∧k= !kvs.isEmpty
 |_=>False
theorem DX{κ:Type}{kvs:List (κ×V)}{vs:List (κ×Value)}(r:KV kvs vs):(!vs.isEmpty)= !kvs.isEmpty:=by
 cases r <;>rfl
theorem wD{xs:List V}{its:List Value}(r:Vals xs its):(!its.toArray.isEmpty)= !xs.isEmpty:=by
 cases r <;>simp
theorem tK:(sizeLine:Nat)<2^63:=by rw[sizeLine_eq];decide
theorem Me:Pf X (fun x H Q=>∃k,Kl X.K x H k∧Q k H):=by
 intro pins s σ H x v Q I rx h
 obtain⟨k,e,q⟩:=h
 have hl:=tK
 have hs:sizeLine=16777216:=sizeLine_eq
 cases x with
 |fG=>
  cases rx
  have e':k=false:=e
  subst e'
  exact truthy_none ⟨H,I,q⟩
 |bl b=>
  cases rx
  have e':k=b:=e
  subst e'
  exact wpAny_truthy_bool ⟨H,I,q⟩
 |int i=>
  obtain⟨t,rfl⟩:=rx
  have e':k=(i !=0):=e
  subst e'
  exact PySem.P.truthy_int ⟨H,I,q⟩
 |str y=>
  obtain⟨t,rfl⟩:=rx
  obtain⟨hy,e'⟩:y.length≤sizeLine∧k=((y.length:Int) !=0):=e
  subst e'
  exact PySem.P.truthy_str (by lia) ⟨H,I.tok _,q⟩
 |AB y=>
  obtain⟨t,rfl⟩:=rx
  obtain⟨hy,e'⟩:y.size≤sizeLine∧k=((y.size:Int) !=0):=e
  subst e'
  exact PySem.W.truthy_bytes (by lia) ⟨H,I.tok _,q⟩
 |ref p=>
  cases rx
  have e':(∃xs,gn X.K H p xs∧k= !xs.isEmpty)∨(∃xs,yE X.K H p xs∧k= !xs.isEmpty)∨∃kvs,H p=some (.dK kvs)∧k= !kvs.isEmpty:=e
  rcases e' with⟨xs,hx,e'⟩ |⟨xs,hx,e'⟩ |⟨kvs,hx,e'⟩
  ·subst e'
   obtain⟨its,r,pl,hz⟩:=I.list hx
   have hlen:=r.length
   exact wpAny_truthy_list pl.isList (by simp only[List.size_toArray];lia) ⟨H,I.tok _,by rw[wD r];exact q⟩
  ·subst e'
   obtain⟨its,r,pl,hz⟩:=I.tuple hx
   have hlen:=r.length
   exact truthy_tuple pl (by simp only[List.size_toArray];lia) ⟨H,I.tok _,by rw[wD r];exact q⟩
  ·subst e'
   obtain⟨hz,hS,vs,r,m⟩:kvs.length≤sizeLine∧(p==sysModules)=false∧∃vs,KV kvs vs∧s.heap.DictOf (AA X.prog X.w) p vs:=I.dB p _ hx
   have hlen:kvs.length=vs.length:=Paired.length r
   exact wpAny_truthy_dict hS m (by lia) ⟨H,I.tok _,by rw[DX r];exact q⟩
 |_=>exact(show False from e).elim
theorem Ip(ha:PE X a ta)(he:∀whole,isTrue a X.env whole=(do let v←whole;standAt a.pos;holding [v] (truthy v))):
  PT X a (fun σ H Q=>ta σ H fun x H'=>∃k,Kl X.K x H' k∧Q k H'):=by
 intro pins s σ H Q I h
 exact isTrue_plain (dy (ha pins s σ H _ I h) fun v s1 ⟨x,H1,I1,r1,q1⟩=>Me pins s1 σ H1 x v Q I1 r1 q1) (he _)
theorem vals1{x:V}{us:List Value}(r:Vals [x] us):∃u,us=[u]∧RelV x u:=by
 cases r with
 |cons r1 r2=>cases r2;exact⟨_,rfl,r1⟩
theorem vals2{x y:V}{us:List Value}(r:Vals [x,y] us):∃u w',us=[u,w']∧RelV x u∧RelV y w':=by
 cases r with
 |cons r1 r2=>
  cases r2 with
  |cons r3 r4=>cases r4;exact⟨_,_,rfl,r1,r3⟩
theorem rJ:jZ X (.builtin "abs") (fun xs H Q=>∃i,xs=[.int i]∧Q (.int (if i<0 then -i else i)) H):=by
 intro pins s σ H xs us Q I r h
 obtain⟨i,rfl,q⟩:=h
 obtain⟨u,rfl,t,rfl⟩:=vals1 r
 exact call_abs_int fun u tk=>⟨.int (if i<0 then -i else i),H,I.tok _,⟨_,rfl⟩,q⟩
theorem zD(hc:X.calm=true):jZ X (.builtin "max") (fun xs H Q=>∃i j,xs=[.int i,.int j]∧Q (.int (if j>i then j else i)) H):=by
 intro pins s σ H xs us Q I r h
 obtain⟨i,j,rfl,q⟩:=h
 obtain⟨u,w',rfl,⟨t,rfl⟩,⟨t',rfl⟩⟩:=vals2 r
 refine max_two_ints (I.ok.hd hc) fun h' tk k=>⟨_,H,I.kept k,?_,q⟩
 by_cases hj:j>i
 ·rw[if_pos hj,if_pos hj];exact⟨_,rfl⟩
 ·rw[if_neg hj,if_neg hj];exact⟨_,rfl⟩
end
structure GS(h:Heap)(x dx C:Addr)(mA:Str→Option Value):Prop where
 obj:h.get? x=some (PySem.W.instObj C dx)
 ns:h.Ns1 dx mA
 ne:dx≠x
theorem GU{h:Heap}{dx:Addr}{mA:Str→Option Value}(n:h.Ns1 dx mA):∃od,h.get? dx=some od∧∀name,PySem.W.lookIn name od=some (mA name):=by
 obtain⟨o,es,ep,ho,hd,hk,_,hm⟩:=n
 refine⟨o,ho,fun name=> ?_⟩
 have e:=hm name
 unfold nsFind findBy at e
 rw[←Array.find?_toList] at e
 unfold PySem.W.lookIn
 rw[hd]
 dsimp only
 split
 ·rename_i y q
  rw[q] at e
  exact congrArg some e
 ·rename_i q
  rw[q] at e
  have a:es.toList.any (·.refKey)=false:=by
   rw[List.any_eq_false]
   intro y hy
   obtain⟨z,t,hkey⟩:=hk y (Array.mem_toList_iff.mp hy)
   simp[DictEntry.refKey,hkey]
  have a':¬es.toList.any (·.refKey)=true:=by rw[a];exact Bool.false_ne_true
  rw[if_neg a']
  exact congrArg some e
theorem GS.look{h:Heap}{x dx C:Addr}{mA:Str→Option Value}(I:GS h x dx C mA):∃od,PySem.W.InstAt h x (PySem.W.instObj C dx) C (some od)∧∀name,PySem.W.lookIn name od=some (mA name):=
 let ⟨od,ho,hl⟩:=GU I.ns
 ⟨od,⟨I.obj,rfl,rfl,ho⟩,hl⟩
section
variable {prog:Program}{w:World}{A:Around}{E:Value→Shared→Prop}{s:Shared}{K:PySem.W.Frag}{x dx C f:Addr}{mA:Str→Option Value}{name:Str}{v:Value}
theorem get_map{expr:Bool}{Q:Value→Shared→Prop}(X:K.In s.heap)(I:GS s.heap x dx C mA)(hg:PySem.W.plainGet K C name=true)(hh:PySem.W.hasDictIn K C=true)
  (ha:PySem.W.findIn K (.ref C) name=some none) (hv:mA name=some v) (hv':PySem.W.handedIn v=true) (h:Q v {s with toks:=s.toks+1}):
  wpAny (model prog w) A (getAttr (.ref x) name expr) Q E s:=by
 obtain⟨od,J,hl⟩:=I.look
 exact PySem.W.get_value X J (PySem.W.plainGet_of hg).1 (PySem.W.findObj_own hh ha rfl (by rw[hl,hv])) hv' h
theorem Km{ns:List Str}{Q:Unit→Shared→Prop}(X:K.In s.heap)(I:GS s.heap x dx C mA)
  (hs:PySem.W.findIn K (.ref C) "__setattr__"=some (some (.builtin "object.__setattr__"))) (hp:PySem.W.plainOver K C=true) (ht:PySem.W.takerIn K C name=some none) (hh:PySem.W.hasDictIn K C=true)
  (hw:PySem.Within mA ns) (hsz:ns.length≤sizeLine)
  (h:∀h',GS h' x dx C (fun y=>if y=name then some v else mA y)→Heap.SameBut dx s.heap h'→Q () {s with heap:=h',toks:=s.toks+2}):
  wpAny (model prog w) A (setAttr (.ref x) name v) Q E s:=by
 obtain⟨od,J,hl⟩:=I.look
 refine PySem.W.set_plain X J hs (PySem.W.osa_open (s:={s with toks:=s.toks+1}) (r:=none) X J hp ht fun b=> ?_)
 obtain⟨cd,hc,hd'⟩:=PySem.W.any_some hh
 have hx:s.heap.get? x=some ⟨.ref C,some dx,.plain,#[]⟩:=I.obj
 refine wpAny_bind (wpAny_pure (wpAny_bind (wpAny_bind (wpAny_loadPart hx (wpAny_bind (PySem.W.Looks.here (s:={s with toks:=s.toks+1}) (PySem.W.looks_clsIn X hc) ?_))))))
 rw[hd']
 refine wpAny_pure (a:=some dx) (wpAny_bind (wpAny_pure (wpAny_bind ?_)))
 refine wpAny_nsSet1 (s:={s with toks:=s.toks+1}) I.ns fun h' hn2 hs2=> ?_
 obtain⟨oD,esD,epD,hoD,hdD,hcD⟩:=hn2.count (PySem.Within.cons name v hw)
 refine wpAny_bind (wpAny_lookBehind hoD (by rw[hdD];exact pastItsLine_dict (Nat.le_trans hcD (by rw[List.length_cons];lia))) ?_)
 exact wpAny_pure (h _ ⟨(hs2.2 _ (Ne.symm I.ne)).trans I.obj,hn2,I.ne⟩ hs2)
theorem Iq{R:Result→Shared→Prop}{vs:List Value}{kw:List (Str×Value)}(X:K.In s.heap)(hm:PySem.W.makesIn K C=true)
  (hi:PySem.W.findIn K (.ref C) "__init__"=some (some (.ref f))) (hf:PySem.W.typeIn K (.ref f)=some (.type "function"))
  (h:codeAny (model prog w) (A.under (.builtin "type.__call__" ⟨.ref C::vs,kw⟩)) (.call (.ref f) ⟨.ref (s.heap.objs.size+1)::vs,kw⟩) (PySem.W.InitBack (s.heap.objs.size+1) R)
   {s with heap:=(s.heap.push PySem.W.emptyDict).push (PySem.W.instObj C s.heap.objs.size)}):
  codeAny (model prog w) A (.call (.ref C) ⟨vs,kw⟩) R s:=by
 obtain⟨hh,g,d,t,os⟩:=s
 exact PySem.W.make_core (PySem.W.makes_of X hm) (PySem.W.looks_findIn X hi) (fun self=>PySem.W.bind_fn X self hf) (.inl rfl) h
end
def d3(f:Str)(v:V):List (Str×V)→List (Str×V)
 |[]=>[(f,v)]
 |(g,x)::r=>if g=f then(g,v)::r else(g,x)::d3 f v r
theorem vf(f g:Str)(v:V):∀fs:List (Str×V),(d3 f v fs).lookup g=if g=f then some v else fs.lookup g
 |[]=>by
  show List.lookup g [(f,v)]=_
  by_cases h:g=f
  ·have hb:(g==f)=true:=beq_iff_eq.mpr h
   simp only[List.lookup,hb,if_pos h]
  ·have hb:(g==f)=false:=beq_eq_false_iff_ne.mpr h
   simp only[List.lookup,hb,if_neg h]
 |(k,x)::r=>by
  have ih:=vf f g v r
  rw[show d3 f v ((k,x)::r)=(if k=f then(k,v)::r else(k,x)::d3 f v r) from rfl]
  by_cases hk:k=f
  ·rw[if_pos hk]
   by_cases h:g=k
   ·have hb:(g==k)=true:=beq_iff_eq.mpr h
    simp only[List.lookup,hb,if_pos (h.trans hk)]
   ·have hb:(g==k)=false:=beq_eq_false_iff_ne.mpr h
    simp only[List.lookup,hb,if_neg (fun e:g=f=>h (e.trans hk.symm))]
  ·rw[if_neg hk]
   by_cases h:g=k
   ·have hb:(g==k)=true:=beq_iff_eq.mpr h
    simp only[List.lookup,hb,if_neg (fun e:g=f=>hk (h.symm.trans e))]
   ·have hb:(g==k)=false:=beq_eq_false_iff_ne.mpr h
    simp only[List.lookup,hb]
    exact ih
theorem tL(f:Str)(v:V):∀fs:List (Str×V),f∈(d3 f v fs).map (·.1)∧∀g,g∈fs.map (·.1)→g∈(d3 f v fs).map (·.1)
 |[]=>⟨by simp[d3],fun g h=>by simp at h⟩
 |(k,x)::r=>by
  obtain⟨i1,i2⟩:=tL f v r
  rw[show d3 f v ((k,x)::r)=(if k=f then(k,v)::r else(k,x)::d3 f v r) from rfl]
  by_cases hk:k=f
  ·rw[if_pos hk]
   subst hk
   exact⟨by simp,fun g h=>by simpa using h⟩
  ·rw[if_neg hk]
   refine⟨?_,fun g h=> ?_⟩
   ·rw[List.map_cons]
    exact List.mem_cons_of_mem _ i1
   ·rw[List.map_cons] at h⊢
    rcases List.mem_cons.mp h with e |e
    ·exact List.mem_cons.mpr (.inl e)
    ·exact List.mem_cons_of_mem _ (i2 g e)
theorem vg(f:Str)(v:V):∀fs:List (Str×V),(d3 f v fs).length≤fs.length+1
 |[]=>by simp[d3]
 |(k,x)::r=>by
  have ih:=vg f v r
  rw[show d3 f v ((k,x)::r)=(if k=f then(k,v)::r else(k,x)::d3 f v r) from rfl]
  by_cases hk:k=f
  ·rw[if_pos hk,List.length_cons,List.length_cons];lia
  ·rw[if_neg hk,List.length_cons,List.length_cons];lia
theorem DP.some_of{v:V}{o:Option Value}(r:DP (some v) o):∃u,o=some u∧RelV v u:=by
 cases o with
 |none=>exact(show False from r).elim
 |some u=>exact⟨u,rfl,r⟩
theorem GV{v:V}{u:Value}(r:RelV v u):PySem.W.handedIn u=true:=by
 cases v with
 |fG=>cases(show u=Value.none from r);rfl
 |bl b=>cases(show u=Value.bool b from r);rfl
 |int i=>obtain⟨t,e⟩:=(show ∃t,u=Value.int i t from r);cases e;rfl
 |str x=>obtain⟨t,e⟩:=(show ∃t,u=Value.str x t from r);cases e;rfl
 |AB b=>obtain⟨t,e⟩:=(show ∃t,u=Value.bytes b t from r);cases e;rfl
 |Np b=>obtain⟨t,e⟩:=(show ∃t,u=Value.float b t from r);cases e;rfl
 |ref a=>cases(show u=Value.ref a from r);rfl
 |ty n=>cases(show u=Value.type n from r);rfl
section
variable {P:Program}{w:World}{H H':Hp}{h h':Heap}{a C dx:Addr}{fs fs':List (Str×V)}
theorem FG(dB:rF P w H h)(e:H a=some (.ins C dx fs)):∃mA,GS h a dx C mA∧(∀f,DP (fs.lookup f) (mA f))∧PySem.Within mA (fs.map (·.1))∧fs.length≤1000∧H dx=some (.own a):=by
 obtain⟨d,z,ne,ob,mA,n,r,q⟩:=(show gm P w H h a (.ins C dx fs) from dB a _ e)
 exact⟨mA,⟨ob,n,ne⟩,r,q,z,d⟩
end
structure Mf(K:PySem.W.Frag)(C:Addr):Prop where
 pg:PySem.W.plainGet K C Str.empty=true
 hd:PySem.W.hasDictIn K C=true
 po:PySem.W.plainOver K C=true
 sa:PySem.W.findIn K (.ref C) "__setattr__"=some (some (.builtin "object.__setattr__"))
theorem Mf.get{K:PySem.W.Frag}{C:Addr}(c:Mf K C)(f:Str):PySem.W.plainGet K C f=true:=c.pg
def lW(K:PySem.W.Frag)(C:Addr)(f:Str):Prop:=PySem.W.findIn K (.ref C) f=some none
theorem lW.NT{K:PySem.W.Frag}{C:Addr}{f:Str}(n:lW K C f):PySem.W.takerIn K C f=some none:=by
 unfold PySem.W.takerIn
 rw[show PySem.W.findIn K (.ref C) f=some none from n]
 rfl
section
variable {X:Cx}{pins:List (Addr×Obj)}{σ:St}{H:Hp}{s:Shared}{a C dx:Addr}{fs:List (Str×V)}{f:Str}{v:V}{A:Around}{E:Value→Shared→Prop}
theorem DY{b:Bool}{Q:Value→Shared→Prop}(I:Inv X pins σ H s)(e:H a=some (.ins C dx fs))(c:Mf X.K C)(n:lW X.K C f)(l:fs.lookup f=some v)
  (h:∀u s',Inv X pins σ H s'→RelV v u→Q u s'):wpAny (model X.prog X.w) A (getAttr (.ref a) f b) Q E s:=by
 obtain⟨mA,O,r,_,_,_⟩:=FG I.dB e
 obtain⟨u,hu,ru⟩:=DP.some_of (v:=v) (o:=mA f) (by rw[←l];exact r f)
 exact get_map I.HW O (c.get f) c.hd n hu (GV ru) (h u _ (I.tok _) ru)
theorem DZ{y:V}{u:Value}{Q:Unit→Shared→Prop}(I:Inv X pins σ H s)(e:H a=some (.ins C dx fs))(c:Mf X.K C)(n:lW X.K C f)(hl:fs.length<1000)(ry:RelV y u)
  (h:∀s',Inv X pins σ (upd H a (.ins C dx (d3 f y fs))) s'→Q () s'):wpAny (model X.prog X.w) A (setAttr (.ref a) f u) Q E s:=by
 obtain⟨mA,O,r,wi,_,ho⟩:=FG I.dB e
 have hz:(fs.map (·.1)).length≤sizeLine:=by rw[lMp,sizeLine_eq];lia
 refine Km I.HW O c.sa c.po n.NT c.hd wi hz fun h' O' sb=>h _ ?_
 have hd:∃o,h'.get? dx=some o:=let ⟨o,_,_,e',_⟩:=O'.ns;⟨o,e'⟩
 refine I.write (x:=a) (e:=dx) (by rw[e];exact True.intro) (.inr ho) (fun b q hb z=>(sb.2 b hb).trans z) hd ?_
 refine⟨by rw[aR O.ne];exact ho,?_,O.ne,O'.obj,_,O'.ns,fun g=> ?_,fun g hg=> ?_⟩
 ·have:=vg f y fs;lia
 ·show DP ((d3 f y fs).lookup g) (if g=f then some u else mA g)
  rw[vf]
  by_cases q:g=f
  ·rw[if_pos q,if_pos q];exact ry
  ·rw[if_neg q,if_neg q];exact r g
 ·by_cases q:g=f
  ·rw[q];exact(tL f y fs).1
  ·refine(tL f y fs).2 g (wi g fun z=>hg ?_)
   show(if g=f then some u else mA g)=none
   rw[if_neg q];exact z
theorem Inv.made(I:Inv X pins σ H s):Inv X pins σ (upd (upd H s.heap.objs.size (.own (s.heap.objs.size+1))) (s.heap.objs.size+1) (.ins C s.heap.objs.size []))
  {s with heap:=(s.heap.push PySem.W.emptyDict).push (PySem.W.instObj C s.heap.objs.size)}:=by
 have e1:(s.heap.push PySem.W.emptyDict).get? s.heap.objs.size=some PySem.W.emptyDict:=Heap.get?_push_size s.heap rfl
 have e2:((s.heap.push PySem.W.emptyDict).push (PySem.W.instObj C s.heap.objs.size)).get? (s.heap.objs.size+1)=some (PySem.W.instObj C s.heap.objs.size):=by
  have:=Heap.get?_push_size (s.heap.push PySem.W.emptyDict) (o:=PySem.W.instObj C s.heap.objs.size) rfl
  rwa [Heap.size_push] at this
 have e3:(s.heap.push PySem.W.emptyDict).Ns s.heap.objs.size (fun _=>none):=⟨PySem.W.emptyDict,#[],_,e1,rfl,(fun e he=>absurd he (by simp)),fun _=>rfl⟩
 have I1:=I.laid (a:=s.heap.objs.size) (o:= .own (s.heap.objs.size+1)) (h':=s.heap.push PySem.W.emptyDict) (t':=s.toks) (fun b u q=>Heap.get?_push_of_some _ q) (Nat.le_refl _) ⟨_,e1⟩
 refine I1.laid (a:=s.heap.objs.size+1) (o:= .ins C s.heap.objs.size []) (t':=s.toks) (fun b u q=>Heap.get?_push_of_some _ q) (Nat.le_of_eq (Heap.size_push _ _)) ?_
 have ne:s.heap.objs.size≠s.heap.objs.size+1:=Nat.ne_of_lt (Nat.lt_succ_self _)
 refine⟨by rw[aR ne,ai],Nat.zero_le _,ne,e2,fun _=>none,(Heap.Ns1.of_empty e3).at fun o q=>Heap.get?_push_of_some _ q,fun _=>True.intro,fun y hy=>absurd rfl hy⟩
theorem Kn{prog:Program}{w:World}{env:Env}{e:Expr}{f:Str}{pos:Pos}{s:Shared}{Q:Value→Shared→Prop}(hb:attributeBase e f env (eval e env)=eval e env)
  (h:wpAny (model prog w) A (eval e env) (fun o s₁=>wpAny (model prog w) A (getAttr o f true) Q E s₁) E s):wpAny (model prog w) A (eval (.Attribute e f pos) env) Q E s:=
 Attribute_any_ h (by rw[arm_eval_Attribute,hb])
end
def GW(K:PySem.W.Frag)(ta:TE)(f:Str):TE:=fun σ H Q=>ta σ H fun x H1=>∃a C dx fs v,x= .ref a∧H1 a=some (.ins C dx fs)∧Mf K C∧lW K C f∧fs.lookup f=some v∧Q v H1
def Ph(K:PySem.W.Frag)(ta tv:TE)(f:Str):TS:=fun D σ H=>tv σ H fun y H1=>ta σ H1 fun x H2=>∃a C dx fs,x= .ref a∧H2 a=some (.ins C dx fs)∧Mf K C∧lW K C f∧fs.length<1000∧
 D.nx σ (upd H2 a (.ins C dx (d3 f y fs)))
section
variable {X:Cx}{o e value:Expr}{f:Str}{pos pos' tpos:Pos}{ta tv:TE}
theorem Mg(he:PE X e ta)(hb:attributeBase e f X.env (eval e X.env)=eval e X.env):PE X (.Attribute e f pos) (GW X.K ta f):=by
 intro pins s σ H Q I h
 refine Kn hb (dy (he pins s σ H _ I h) fun u s1 ⟨x,H1,I1,rx,a,C,dx,fs,v,ex,ea,c,n,l,q⟩=> ?_)
 subst ex
 obtain rfl:u=Value.ref a:=rx
 exact DY I1 ea c n l fun u' s2 I2 ru=>⟨v,H1,I2,ru,q⟩
theorem cY(ha:PE X o ta)(hv:PE X value tv)(hs:swapsWith value (some (.Attribute o f pos')) pos.line X.env=pure false):PS X (.Assign [.Attribute o f pos'] value pos) (Ph X.K ta tv f):=by
 intro pins s σ H D I h
 refine plainObj_wpAny_Assign_Attribute (dy (hv pins s σ H _ I h) fun u s1 ⟨y,H1,I1,ry,q⟩=>dy (ha pins s1 σ H1 _ I1 q) fun ov s2 ⟨x,H2,I2,rx,a,C,dx,fs,ex,ea,c,n,l,q2⟩=> ?_) hs
 subst ex
 obtain rfl:ov=Value.ref a:=rx
 exact DZ I2 ea c n l ry fun s3 I3=>⟨σ,_,I3,q2⟩
end
structure gR(k:Nat)(A:Around):Prop where
 hd:A.handled=none
 dp:A.depth+3*k+5<recursionLimit
 un:A.units+16*k+200<cLine
theorem gR.mono{j k:Nat}{A:Around}(r:gR k A)(h:j≤k):gR j A:=⟨r.hd,by have:=r.dp;lia,by have:=r.un;lia⟩
theorem gR.deeper{k:Nat}{A:Around}(r:gR (k+1) A)(env:Env):gR k (A.deeper env):=
 ⟨r.hd,by have:=r.dp;show A.depth+1+3*k+5<_;lia,by have:=r.un;show A.units+3+16*k+200<_;lia⟩
theorem D6{A:Around}{C:Addr}{us:List Value}{kw:List (Str×Value)}:(A.under (.builtin "type.__call__" ⟨.ref C::us,kw⟩)).depth=A.depth+1:=by
 first |rfl |simp[Around.under,Code.weight,Code.isCreation,Code.isGuard,Code.isCaller,Code.frames,Code.isFrame,guardIds]
theorem D7{A:Around}{C:Addr}{us:List Value}{kw:List (Str×Value)}:(A.under (.builtin "type.__call__" ⟨.ref C::us,kw⟩)).units=A.units+1:=by
 first |rfl |simp[Around.under,Code.cUnits,Code.frames,Code.isFrame]
theorem gR.make{k:Nat}{A:Around}(r:gR (k+1) A)(C:Addr)(us:List Value)(kw:List (Str×Value)):gR k (A.under (.builtin "type.__call__" ⟨.ref C::us,kw⟩)):=
 ⟨r.hd,by have:=r.dp;rw[D6];lia,by have:=r.un;rw[D7];lia⟩
theorem gR.depth{k:Nat}{A:Around}(r:gR k A):A.depth<recursionLimit:=by have:=r.dp;lia
theorem gR.units{k:Nat}{A:Around}(r:gR k A):A.units+64<cLine:=by have:=r.un;lia
def Ko:TA:=fun _ H Q=>Q [] H
def Ck(ta:TE)(tr:TA):TA:=fun σ H Q=>ta σ H fun x H1=>tr σ H1 fun xs H2=>Q (x::xs) H2
section
variable {X:Cx}{e:Expr}{es:List Expr}{te:TE}{t:TA}{pos:Pos}
theorem ah:PA X [] Ko:=fun _ _ _ _ H Q I h=>Calls.spliced_nil ⟨[],H,I,.nil,h⟩
theorem aa(ha:PE X e te)(hr:PA X es t)(hs:starEach (e::es) X.env=(false,eval e X.env)::starEach es X.env:=by rfl):PA X (e::es) (Ck te t):=by
 intro pos pins s σ H Q I h
 rw[hs]
 show wpAny _ _ (spliced ((false,eval e X.env)::backTo pos (starEach es X.env))) _ _ s
 refine Calls.spliced_cons (dy (ha pins s σ H _ I h) fun u s1 ⟨x,H1,I1,r1,q1⟩=> ?_)
 exact dy (hr pos pins s1 σ H1 _ I1 q1) fun us s2 ⟨xs,H2,I2,r2,q2⟩=>⟨x::xs,H2,I2,.cons r1 r2,q2⟩
def NU(t:TA):TE:=fun σ H Q=>t σ H fun xs H1=>xs.length≤sizeLine∧∀p,H1 p=none→Q (.ref p) (upd H1 p (.tup xs))
def NV(t:TA):TE:=fun σ H Q=>t σ H fun xs H1=>xs.length≤sizeLine∧∀p,H1 p=none→Q (.ref p) (upd H1 p (.lst xs))
theorem bY{x1}(h:PA X es t):PE X (.Tuple es x1 pos) (NU t):=by
 intro pins s σ H Q I hq
 refine wpAny_Tuple_spliced (dy (h pos pins s σ H _ I hq) fun us s1 ⟨xs,H1,I1,r,z,q⟩=>⟨by rw[←r.length];exact z,?_⟩)
 have hf:H1 s1.heap.objs.size=none:=I1.dB.fresh (Nat.le_refl _)
 refine⟨.ref s1.heap.objs.size,upd H1 s1.heap.objs.size (.tup xs),I1.laid (t':=s1.toks) (fun b u e=>Heap.get?_push_of_some _ e) (Nat.le_refl _) ?_,rfl,q _ hf⟩
 exact⟨z,us,r,⟨_,Heap.get?_push_size _ rfl,rfl,_,rfl⟩⟩
theorem aN(h:PA X es t):PE X (.List es pos) (NV t):=by
 intro pins s σ H Q I hq
 refine wpAny_List_spliced (dy (h pos pins s σ H _ I hq) fun us s1 ⟨xs,H1,I1,r,z,q⟩=>⟨by rw[←r.length];exact z,?_⟩)
 have hf:H1 s1.heap.objs.size=none:=I1.dB.fresh (Nat.le_refl _)
 refine⟨.ref s1.heap.objs.size,upd H1 s1.heap.objs.size (.lst xs),I1.laid (t':=s1.toks) (fun b u e=>Heap.get?_push_of_some _ e) (Nat.le_refl _) ?_,rfl,q _ hf⟩
 exact⟨z,us,0,r,Heap.get?_push_size _ rfl⟩
end
abbrev Sp:=List V→Hp→VK→XK→Prop
abbrev HX:=List Env→Hp→Shared→XK→Value→Shared→Prop
structure D8(P:Program)(w:World)(K:PySem.W.Frag)(mg:Str→Option Value)(base:Heap)(A:Around)(outer:List Env)(s:Shared)(H:Hp):Prop where
 frames:A.frames=some outer
 mod:Mod K mg base
 bs:∀b o,base.get? b=some o→s.heap.get? b=some o∧H b=none
 Kh:base.objs.size≤s.heap.objs.size
 vL:s.heap.FunFrames base outer
 L3:∀b∈Ic outer,H b=none
 dB:rF P w H s.heap
 bare:AllBare s.gens
def CE(outer:List Env)(P:Program)(w:World)(H:Hp)(s:Shared)(Q:VK)(u:Value)(s':Shared):Prop:=
 ∃v H',s'.os=s.os∧AllBare s'.gens∧Un (Ic outer) [] H H' s.heap s'.heap∧rF P w H' s'.heap∧RelV v u∧Q v H'
def CR(CX:HX)(outer:List Env)(P:Program)(w:World)(H:Hp)(s:Shared)(Q:VK)(E:XK)(r:Result)(s':Shared):Prop:=
 match r with
 | .ok (.ret u)=>CE outer P w H s Q u s'
 | .ok _=>False
 | .error e=>CX outer H s E e s'
structure kK(P:Program)(w:World)(K:PySem.W.Frag)(mg:Str→Option Value)(base:Heap)(CX:HX)(k:Nat)(f:Addr)(fd:FuncData)(ps:List Str)(sp:Sp):Prop where
 len:∀vs H Q E,sp vs H Q E→vs.length=ps.length
 run:∀(A:Around) (outer:List Env) (s:Shared) (H:Hp) (args:Args) (us:List Value) (vs:List V) (Q:VK) (E:XK),gR k A→D8 P w K mg base A outer s H→BindsTo s fd args (ps.zip us)→Vals vs us→sp vs H Q E→
  codeAny (model P w) A (.call (.ref f) args) (CR CX outer P w H s Q E) s
theorem kK.mono{P:Program}{w:World}{K:PySem.W.Frag}{mg:Str→Option Value}{base:Heap}{CX:HX}{j k:Nat}{f:Addr}{fd:FuncData}{ps:List Str}{sp:Sp}(F:kK P w K mg base CX j f fd ps sp)(h:j≤k):
  kK P w K mg base CX k f fd ps sp:=⟨F.len,fun A outer s H args us vs Q E hr=>F.run A outer s H args us vs Q E (hr.mono h)⟩
theorem kK.imp{P:Program}{w:World}{K:PySem.W.Frag}{mg:Str→Option Value}{base:Heap}{CX:HX}{k:Nat}{f:Addr}{fd:FuncData}{ps:List Str}{sp sp':Sp}(F:kK P w K mg base CX k f fd ps sp)
  (h:∀vs H Q E,sp' vs H Q E→sp vs H Q E):kK P w K mg base CX k f fd ps sp':=
 ⟨fun vs H Q E q=>F.len vs H Q E (h _ _ _ _ q),fun A outer s H args us vs Q E hr he hb hv hs=>F.run A outer s H args us vs Q E hr he hb hv (h _ _ _ _ hs)⟩
theorem D8.make{P:Program}{w:World}{K:PySem.W.Frag}{mg:Str→Option Value}{base:Heap}{A:Around}{outer:List Env}{s:Shared}{H:Hp}(e:D8 P w K mg base A outer s H)(C:Addr)(us:List Value)(kw:List (Str×Value)):
  D8 P w K mg base (A.under (.builtin "type.__call__" ⟨.ref C::us,kw⟩)) outer s H:=⟨by first |exact e.frames |(simpa [Around.under,Code.envs,Code.isFrame,pushEnvs] using e.frames),e.mod,e.bs,e.Kh,e.vL,e.L3,e.dB,e.bare⟩
section
variable {X:Cx}{pins:List (Addr×Obj)}{σ:St}{H:Hp}{s s':Shared}
theorem Inv.NW(I:Inv X pins σ H s):D8 X.prog X.w X.K X.mg X.base X.A X.stack s H:=
 ⟨I.ok.frames,I.ok.mod,I.bs,Nat.le_trans I.ok.Kh I.sz,I.stack,I.Fw,I.dB,I.bare⟩
theorem Inv.after{Q:VK}{u:Value}(I:Inv X pins σ H s)(h:CE X.stack X.prog X.w H s Q u s'):EP X pins σ Q u s':=by
 obtain⟨v,H',os,bare,un,dB,r,q⟩:=h
 obtain⟨hh,g,d,t,os'⟩:=s'
 obtain rfl:os'=s.os:=os
 exact⟨v,H',I.call (h':=hh) (g':=g) (d':=d) (t':=t) (ch:=[]) un dB bare (fun b z=>absurd z (by simp)),r,q⟩
end
def Lx(sp:Sp)(dvs:List V)(E:XK)(t:TA):TE:=fun σ H Q=>t σ H fun vs H1=>sp (vs ++ dvs) H1 Q E
def Ly(C:Addr)(sp:Sp)(dvs:List V)(E:XK)(t:TA):TE:=fun σ H Q=>t σ H fun vs H1=>∀x dx,H1 x=none→H1 dx=none→dx≠x→
 sp (.ref x::(vs ++ dvs)) (upd (upd H1 dx (.own x)) x (.ins C dx [])) (fun v H2=>v= .fG∧Q (.ref x) H2) E
def Binds(K:PySem.W.Frag)(fd:FuncData)(ps:List Str)(ds:List Value):Prop:=
 ∀(s:Shared) (us:List Value),K.In s.heap→(us ++ ds).length=ps.length→BindsTo s fd ⟨us,[]⟩ (ps.zip (us ++ ds))
theorem Binds.all{K:PySem.W.Frag}{fd:FuncData}{ps:List Str}(h:∀us:List Value,us.length=ps.length→bindArgs fd ⟨us,[]⟩=pure (ps.zip us)):Binds K fd ps []:=fun s us _ hl=>by
 rw[List.append_nil] at hl⊢
 exact .of_eq (h us hl)
def Passes(CX:HX)(X:Cx)(E:XK):Prop:=∀(pins:List (Addr×Obj)) (σ:St) (H:Hp) (s:Shared) (e:Value) (s':Shared),Inv X pins σ H s→CX X.stack H s E e s'→X.xe e s'
section
variable {X:Cx}{CX:HX}{k:Nat}{f C:Addr}{fd:FuncData}{ps:List Str}{sp:Sp}{dvs:List V}{ds:List Value}{E:XK}{x m:Str}{p pos apos:Pos}{e o:Expr}{es:List Expr}{ta:TE}{t:TA}
theorem Ir{pins:List (Addr×Obj)}{σ:St}{H:Hp}{s:Shared}{Q:VK}{us:List Value}{vs:List V}(F:kK X.prog X.w X.K X.mg X.base CX k f fd ps sp)(hr:gR k X.A)(hb:Binds X.K fd ps ds)(hd:Vals dvs ds)(hx:Passes CX X E)
  (I:Inv X pins σ H s) (r:Vals vs us) (h:sp (vs ++ dvs) H Q E):wpAny (model X.prog X.w) X.A (call (.ref f) us) (EP X pins σ Q) X.xe s:=by
 have r2:Vals (vs ++ dvs) (us ++ ds):=r.append hd
 have hl:(us ++ ds).length=ps.length:=by rw[←r2.length];exact F.len _ _ _ _ h
 refine wpAny_call (codeAny_mono (F.run X.A X.stack s H ⟨us,[]⟩ (us ++ ds) (vs ++ dvs) Q E hr I.NW (hb s us I.HW hl) r2 h) fun r s' hq=> ?_)
 cases r with
 |error e=>exact hx pins σ H s e s' I hq
 |ok fl=>
  cases fl with
  |ret u=>exact I.after hq
  |next=>exact False.elim hq
  |brk=>exact False.elim hq
  |cont=>exact False.elim hq
theorem Kp(F:kK X.prog X.w X.K X.mg X.base CX k f fd ps sp)(hr:gR k X.A)(hg:Gl X x)(hm:X.mg x=some (.ref f))(hk:PySem.W.keepIn X.K (.ref f)=true)(hb:Binds X.K fd ps ds)(hd:Vals dvs ds)(hx:Passes CX X E)
  (ha:PA X (e::es) t) (hdb:(x==("__debug__":Str))=false:=by decide) (he:starEach (e::es) X.env=(false,eval e X.env)::starEach es X.env:=by rfl) (hpl:(backTo pos (starEach es X.env)).any (·.1)=false:=by rfl):
  PE X (.Call (.Name x p) (e::es) [] pos) (Lx sp dvs E t):=by
 intro pins s σ H Q I h
 refine wpAny_Call_Name_kw (AG I hg hm ?_ hdb)
 refine PySem.W.callWith_K (h₀:=X.base) I.ok.mod.Nq hk (dy (ha pos pins s σ H _ I h) fun us s1 ⟨vs,H1,I1,r,q⟩=>⟨I1.HW,?_⟩) he hpl
 exact Ir F hr hb hd hx I1 r q
structure Mk(K:PySem.W.Frag)(C f:Addr):Prop where
 makes:PySem.W.makesIn K C=true
 init:PySem.W.findIn K (.ref C) "__init__"=some (some (.ref f))
 fn:PySem.W.isFn K (.ref f)=true
 kp:PySem.W.keepIn K (.ref C)=true
theorem Iu{pins:List (Addr×Obj)}{σ:St}{H:Hp}{s:Shared}{Q:VK}{us:List Value}{vs:List V}(M:Mk X.K C f)(F:kK X.prog X.w X.K X.mg X.base CX k f fd ps sp)(hr:gR (k+1) X.A)(hb:Binds X.K fd ps ds)(hd:Vals dvs ds)
  (hx:Passes CX X E) (I:Inv X pins σ H s) (r:Vals vs us)
  (h:∀x dx,H x=none→H dx=none→dx≠x→sp (.ref x::(vs ++ dvs)) (upd (upd H dx (.own x)) x (.ins C dx [])) (fun v H2=>v= .fG∧Q (.ref x) H2) E):
  wpAny (model X.prog X.w) X.A (call (.ref C) us) (EP X pins σ Q) X.xe s:=by
 have hq:=h (s.heap.objs.size+1) s.heap.objs.size (I.dB.fresh (Nat.le_succ _)) (I.dB.fresh (Nat.le_refl _)) (Nat.ne_of_lt (Nat.lt_succ_self _))
 have I2:=Inv.made (C:=C) I
 have r2:Vals (V.ref (s.heap.objs.size+1)::(vs ++ dvs)) (Value.ref (s.heap.objs.size+1)::(us ++ ds)):= .cons rfl (r.append hd)
 have hl:(Value.ref (s.heap.objs.size+1)::us ++ ds).length=ps.length:=by
  have e:=r2.length
  rw[F.len _ _ _ _ hq] at e
  exact e.symm
 refine wpAny_call (Iq (f:=f) I.HW M.makes M.init (beq_iff_eq.mp M.fn) (codeAny_mono (F.run _ X.stack _ _ ⟨Value.ref (s.heap.objs.size+1)::us,[]⟩ (Value.ref (s.heap.objs.size+1)::(us ++ ds)) _ _ E (hr.make C us [])
  (I2.NW.make C us []) (hb _ (Value.ref (s.heap.objs.size+1)::us) I2.HW hl) r2 hq) fun r s' hq'=> ?_))
 cases r with
 |error e=>exact hx pins σ _ _ e s' I2 hq'
 |ok fl=>
  cases fl with
  |ret u=>
   obtain⟨v,H',I3,rv,ev,q3⟩:=I2.after hq'
   subst ev
   exact⟨rv,⟨V.ref (s.heap.objs.size+1),H',I3,rfl,q3⟩⟩
  |next=>exact False.elim hq'
  |brk=>exact False.elim hq'
  |cont=>exact False.elim hq'
theorem Kq(M:Mk X.K C f)(F:kK X.prog X.w X.K X.mg X.base CX k f fd ps sp)(hr:gR (k+1) X.A)(hg:Gl X x)(hm:X.mg x=some (.ref C))(hb:Binds X.K fd ps ds)(hd:Vals dvs ds)(hx:Passes CX X E)
  (ha:PA X (e::es) t) (hdb:(x==("__debug__":Str))=false:=by decide) (he:starEach (e::es) X.env=(false,eval e X.env)::starEach es X.env:=by rfl) (hpl:(backTo pos (starEach es X.env)).any (·.1)=false:=by rfl):
  PE X (.Call (.Name x p) (e::es) [] pos) (Ly C sp dvs E t):=by
 intro pins s σ H Q I h
 refine wpAny_Call_Name_kw (AG I hg hm ?_ hdb)
 refine PySem.W.callWith_K (h₀:=X.base) I.ok.mod.Nq M.kp (dy (ha pos pins s σ H _ I h) fun us s1 ⟨vs,H1,I1,r,q⟩=>⟨I1.HW,?_⟩) he hpl
 exact Iu M F hr hb hd hx I1 r q
end
structure aE(N P:List Str)(sc:Scope):Prop where
 kind:sc.kind= .function
 co:sc.isCoroutine=false
 gen:sc.isGenerator=false
 nd:N.Nodup
 pre:N.take P.length=P
 par:∀x∈P,sc.names.lookup x=some .local∨sc.names.lookup x=some .cell
 Mh:∀y∈sc.names,y.2≠.free
theorem zE{kindOf:Str→Option NameKind}{x:Str}:∀{binds:List (Str×Value)} {m:Str→Option Value},(∀v,(x,v)∉binds)→bindL kindOf binds m x=m x
 |[],_,_=>rfl
 |(n,v)::r,m,h=>by
  unfold bindL
  rw[zE fun w hw=>h w (List.mem_cons_of_mem _ hw)]
  split
  ·have:x≠n:=by rintro rfl;exact h v List.mem_cons_self
   simp[this]
  ·rfl
theorem zF{kindOf:Str→Option NameKind}{x:Str}:∀{binds:List (Str×Value)} {m:Str→Option Value},(∀v,(x,v)∉binds)→bindC kindOf binds m x=m x
 |[],_,_=>rfl
 |(n,v)::r,m,h=>by
  unfold bindC
  rw[zF fun w hw=>h w (List.mem_cons_of_mem _ hw)]
  split
  ·rfl
  ·have:x≠n:=by rintro rfl;exact h v List.mem_cons_self
   simp[this]
theorem zG{kindOf:Str→Option NameKind}{x:Str}{v:Value}:∀{P:List Str} {vs:List Value} {i:Nat} {m:Str→Option Value},P.Nodup→P[i]? =some x→vs[i]? =some v→kindOf x=some .local→
  bindL kindOf (P.zip vs) m x=some v
 |[],_,_,_,_,h,_,_=>by simp at h
 |_::_,[],_,_,_,_,h,_=>by simp at h
 |p::P,w::vs,0,m,nd,h1,h2,hk=>by
  simp at h1 h2;subst h1;subst h2
  show bindL kindOf ((p,w)::P.zip vs) m p=_
  unfold bindL
  rw[zE fun v hv=>(List.nodup_cons.mp nd).1 (List.of_mem_zip hv).1,if_pos hk]
  simp
 |p::P,w::vs,i+1,m,nd,h1,h2,hk=>by
  show bindL kindOf ((p,w)::P.zip vs) m x=_
  unfold bindL
  exact zG (i:=i) (List.nodup_cons.mp nd).2 (by simpa using h1) (by simpa using h2) hk
theorem zH{kindOf:Str→Option NameKind}{x:Str}{v:Value}:∀{P:List Str} {vs:List Value} {i:Nat} {m:Str→Option Value},P.Nodup→P[i]? =some x→vs[i]? =some v→kindOf x≠some .local→
  bindC kindOf (P.zip vs) m x=some v
 |[],_,_,_,_,h,_,_=>by simp at h
 |_::_,[],_,_,_,_,h,_=>by simp at h
 |p::P,w::vs,0,m,nd,h1,h2,hk=>by
  simp at h1 h2;subst h1;subst h2
  show bindC kindOf ((p,w)::P.zip vs) m p=_
  unfold bindC
  rw[zF fun v hv=>(List.nodup_cons.mp nd).1 (List.of_mem_zip hv).1,if_neg hk]
  simp
 |p::P,w::vs,i+1,m,nd,h1,h2,hk=>by
  show bindC kindOf ((p,w)::P.zip vs) m x=_
  unfold bindC
  exact zH (i:=i) (List.nodup_cons.mp nd).2 (by simpa using h1) (by simpa using h2) hk
def start(N:List Str)(vs:List V):St:=vs.map some ++ List.replicate (N.length - vs.length) none
def AM(CX:HX)(P:Program)(w:World)(K:PySem.W.Frag)(mg:Str→Option Value)(base:Heap)(N:List Str)(qual:Str)(scope:Scope)(f:Addr)(cd:Value)(A:Around)(outer:List Env)(s:Shared)(H:Hp)(E:XK):Cx where
 prog:=P
 w:=w
 K:=K
 mg:=mg
 base:=base
 A:=A.deeper (envOfC qual scope s.heap.objs.size f cd)
 N:=N
 zA:=s
 Nr:=H
 env:=envOfC qual scope s.heap.objs.size f cd
 outer:=outer
 stack:=envOfC qual scope s.heap.objs.size f cd::outer
 ex:=[]
 calm:=true
 fn:=fun _=>true
 pn:=[]
 xe:=fun e s'=>wpAny (model P w) (A.deeper (envOfC qual scope s.heap.objs.size f cd)) (leaving (envOfC qual scope s.heap.objs.size f cd) e) (fun _ s''=>CX outer H s E e s'') (fun e' s''=>CX outer H s E e' s'') s'
theorem Cm{sc:Scope}{n:Nat}{x:Str}(h:sc.names.lookup x=some .cell):∃c,(cellsFrom n sc.names []).lookup x=some c:=by
 have q:=PySem.W.cellsFrom_some sc.names n [] (.inl h)
 exact Option.isSome_iff_exists.mp q
theorem GX{CX:HX}{P:Program}{w:World}{K:PySem.W.Frag}{mg:Str→Option Value}{base:Heap}{N ps:List Str}{qual:Str}{scope:Scope}{f:Addr}{cd:Value}{A:Around}{outer:List Env}{s s1:Shared}{H:Hp}{E:XK}{us:List Value}{vs:List V}
  (S:aE N ps scope) (hd:A.handled=none) (e0:D8 P w K mg base A outer s H) (hl:vs.length=ps.length) (r:Vals vs us)
  (x:InCallC s s.heap.objs.size (bindL (envOfC qual scope s.heap.objs.size f cd).kindOf (ps.zip us) fun _=>none) (cellsFrom (s.heap.objs.size+1) scope.names []) (bindC (envOfC qual scope s.heap.objs.size f cd).kindOf (ps.zip us) fun _=>none) s1):
  Inv (AM CX P w K mg base N qual scope f cd A outer s H E) [] (start N vs) H s1:=by
 have hpl:ps.length≤N.length:=by have:=congrArg List.length S.pre;rw[List.length_take] at this;lia
 obtain⟨h1,tk,rfl,hk⟩:=x.done
 have noA:∀b:Addr,b∉(AM CX P w K mg base N qual scope f cd A outer s H E).ex:=fun b z=>absurd (show b∈([]:List Addr) from z) (by simp)
 refine⟨⟨e0.mod,S.kind,rfl,rfl,Nat.le_refl _,fun y z c h1 h2=> ?_,fun y hy=> ?_,fun y c _ h=> ?_,fun _=>hd,Around.frames_deeper e0.frames,.inr ⟨rfl,rfl⟩,fun b z=>absurd z (noA b),e0.bs,e0.Kh,fun b _ _=>noA b,fun b z=>absurd z (noA b),e0.vL,e0.L3⟩,
  rfl,e0.bare,Un.kept hk,⟨_,x.toInCall.ns,fun i y v h1 h2 h3=> ?_⟩,fun y c h=>⟨_,x.cell y c h⟩,e0.dB.fresh (Nat.le_refl _),fun y c h=> ?_,fun p hp=>absurd (show p∈([]:List (Addr×Obj)) from hp) (by simp),e0.dB.kept hk,?_⟩
 ·exact name_of_addr x.apart (PySem.mem_of_lookup h1) (PySem.mem_of_lookup h2)
 ·have hy:scope.names.lookup y=some .cell∨scope.names.lookup y=some .free:=hy
  rcases hy with hy |hy
  ·exact Cm hy
  ·exact absurd rfl (S.Mh _ (PySem.mem_of_lookup hy))
 ·exact Nat.le_of_lt (x.above y c (PySem.mem_of_lookup h))
 ·have hi:i<vs.length:=by
   unfold start at h2
   by_cases hi:i<vs.length
   ·exact hi
   ·rw[List.getElem?_append_right (by simpa using hi)] at h2
    rw[List.getElem?_replicate] at h2
    split at h2 <;>cases h2
  have ha:vs[i]? =some v:=by
   unfold start at h2
   rw[List.getElem?_append_left (by simpa using hi),List.getElem?_map] at h2
   cases e:vs[i]? with
   |none=>rw[e] at h2;cases h2
   |some a=>rw[e] at h2;cases h2;rfl
  obtain⟨u,hu,rv⟩:=r.get ha
  have hp:ps[i]? =some y:=by
   rw[←S.pre,List.getElem?_take_of_lt (by lia)];exact h1
  have ndP:ps.Nodup:=by rw[←S.pre];exact S.nd.sublist (List.take_sublist _ _)
  refine⟨u,rv,?_⟩
  rcases S.par y (List.mem_of_getElem? hp) with k |k
  ·exact .inl ⟨k,zG ndP hp hu k⟩
  ·obtain⟨c,e⟩:=Cm (n:=s.heap.objs.size+1) k
   refine .inr ⟨.inl k,c,e,?_⟩
   have q:=x.cell y c e
   rw[zH ndP hp hu (by show scope.names.lookup y≠_;rw[k];decide)] at q
   exact q
 ·exact e0.dB.fresh (Nat.le_of_lt (x.above y c (PySem.mem_of_lookup h)))
 ·unfold start
  show _=N.length
  rw[List.length_append,lMp,List.length_replicate]
  lia
theorem NX{CX:HX}{P:Program}{w:World}{K:PySem.W.Frag}{mg:Str→Option Value}{base:Heap}{k:Nat}{f:Addr}{name qual:Str}{params:Arguments}{body:List Stmt}{scope:Scope}{dV kV doc pm cdv ct oc:Value}{an od:Option Addr}
  {osl:Array (Option Value)} {N ps:List Str} {sp:Sp} (lk:K.lookup f=some ⟨oc,od,.func (PySem.W.fnOf name qual params body scope dV kV doc pm an cdv ct),osl⟩) (hcd:PySem.W.codeIn K cdv qual=true) (S:aE N ps scope)
  (len:∀vs H Q E,sp vs H Q E→vs.length=ps.length)
  (hbody:∀(A:Around) (outer:List Env) (s:Shared) (H:Hp) (vs:List V) (Q:VK) (E:XK),gR k (A.deeper (envOfC qual scope s.heap.objs.size f cdv))→sp vs H Q E→
   ∃t,DS (AM CX P w K mg base N qual scope f cdv A outer s H E) body t∧t {nx:=fun _ H'=>Q .fG H',rt:=Q} (start N vs) H):
  kK P w K mg base CX (k+1) f (PySem.W.fnOf name qual params body scope dV kV doc pm an cdv ct) ps sp:=by
 refine⟨len,fun A outer s H args us vs Q E hr e0 hb r hsp=> ?_⟩
 have hl:=len _ _ _ _ hsp
 have KX:K.In s.heap:=e0.mod.Nq.keeps fun b o e=>(e0.bs b o e).1
 have lim:s.heap.NoLimit:=e0.mod.nolimit.keeps fun b o e=>(e0.bs b o e).1
 have hkind:∀y∈ps.zip us,scope.names.lookup y.1=some .local∨(scope.names.lookup y.1=some .cell∧((cellsFrom (s.heap.objs.size+1) scope.names []).lookup y.1).isSome=true):=fun⟨n,v⟩ hy=>by
  rcases S.par n (List.of_mem_zip hy).1 with q |q
  ·exact .inl q
  ·exact .inr ⟨q,PySem.W.cellsFrom_some _ _ _ (.inl q)⟩
 refine codeAny_call_function hr.depth (KX _ _ lk) rfl S.co S.gen rfl (PySem.W.codeRec_of KX hcd) (hb _ _ _ _ ?_)
 refine wpAny_newFunctionEnv_cells S.kind hkind fun env he s1 x=> ?_
 subst he
 refine⟨lim.keeps x.toInCall.keep,codeAny_func ?_⟩
 obtain⟨t,ht,hq⟩:=hbody A outer s H vs Q E (hr.deeper _) hsp
 have I:Inv (AM CX P w K mg base N qual scope f cdv A outer s H E) [] (start N vs) H s1:=GX S hr.hd e0 hl r x
 refine wpAny_mono (ht [] s1 (start N vs) H _ I hq) (fun fl s' hs=> ?_) fun e s' hs=>hs
 have fin:∀{σ':St} {H':Hp} {v:V} {u:Value},Inv (AM CX P w K mg base N qual scope f cdv A outer s H E) [] σ' H' s'→RelV v u→Q v H'→CE outer P w H s Q u s':=
  fun{σ' H' v u} J rv q=>⟨v,H',J.os,J.bare,J.base,J.dB,rv,q⟩
 cases fl with
 |ret u=>
  obtain⟨v,σ',H',J,rv,q⟩:=hs
  exact fin J rv q
 |next=>
  obtain⟨σ',H',J,q⟩:=hs
  exact fin (v:=V.fG) (u:=Value.none) J rfl q
 |brk=>
  obtain⟨_,_,_,q⟩:=hs
  exact False.elim q
 |cont=>
  obtain⟨_,_,_,q⟩:=hs
  exact False.elim q
section
variable {X:Cx}{x:Str}{p pos:Pos}{e:Expr}{es:List Expr}{t:TA}{id T:String}{r:List V→Hp→VK→Prop}
def Qk(r:List V→Hp→VK→Prop)(t:TA):TE:=fun σ H Q=>t σ H fun vs H1=>r vs H1 Q
theorem aY(hc:jZ X (.builtin id) r)(hg:Gl X x)(hm:X.mg x=none)(hv:bootBuiltins x=some (.builtin id))(ha:PA X (e::es) t)(hn:x≠"__name__":=by decide)(hdb:(x==("__debug__":Str))=false:=by decide)
  (he:starEach (e::es) X.env=(false,eval e X.env)::starEach es X.env:=by rfl) (hpl:(backTo pos (starEach es X.env)).any (·.1)=false:=by rfl):PE X (.Call (.Name x p) (e::es) [] pos) (Qk r t):=by
 intro pins s σ H Q I h
 refine wpAny_Call_Name_kw (nQ I hg hm hv ?_ hn hdb)
 exact PyProof.Rows.callWith_builtin1 (dy (ha pos pins s σ H _ I h) fun us s1 ⟨vs,H1,I1,r1,q1⟩=>hc pins s1 σ H1 vs us Q I1 r1 q1) he hpl
theorem tM(hc:jZ X (.type T) r)(hg:Gl X x)(hm:X.mg x=none)(hv:bootBuiltins x=some (.type T))(ha:PA X (e::es) t)(hn:x≠"__name__":=by decide)(hdb:(x==("__debug__":Str))=false:=by decide)
  (he:starEach (e::es) X.env=(false,eval e X.env)::starEach es X.env:=by rfl) (hpl:(backTo pos (starEach es X.env)).any (·.1)=false:=by rfl):PE X (.Call (.Name x p) (e::es) [] pos) (Qk r t):=by
 intro pins s σ H Q I h
 refine wpAny_Call_Name_kw (nQ I hg hm hv ?_ hn hdb)
 exact PyProof.Rows.callWith_type1 (dy (ha pos pins s σ H _ I h) fun us s1 ⟨vs,H1,I1,r1,q1⟩=>hc pins s1 σ H1 vs us Q I1 r1 q1) he hpl
end
end L2
namespace HT
open PySem PyProof.Rows
section
variable {prog:Program}{w:World}{A:Around}{E:Value→Shared→Prop}{s:Shared}
def yI(n d:Nat):Option Int→Nat
 |none=>d
 |some v=>if v<0 then(v+(n:Int)).toNat else min v.toNat n
theorem Iv(n d:Nat):yI n d none=d:=rfl
theorem lX(n d k:Nat):yI n d (some (k:Int))=min k n:=by
 show(if(k:Int)<0 then((k:Int)+(n:Int)).toNat else min (k:Int).toNat n)=min k n
 rw[if_neg (by lia),Int.toNat_natCast]
end
end HT
namespace L2
open PySem PySem.Spec PyProof.Rows
abbrev TO:=St→Hp→(Option Int→Hp→Prop)→Prop
def PO(X:Cx)(e:Option Expr)(t:TO):Prop:=
 ∀(pins:List (Addr×Obj)) (s:Shared) (σ:St) (H:Hp) (Q:Option Int→Hp→Prop),Inv X pins σ H s→t σ H Q→
  wpAny (model X.prog X.w) X.A (evalPart e X.env) (fun u s'=>∃o H',Inv X pins σ H' s'∧IsPart u o∧Q o H') X.xe s
def FH:TO:=fun _ H Q=>Q none H
def Lz(t:TE):TO:=fun σ H Q=>t σ H fun x H1=>∃i,x= .int i∧Q (some i) H1
section
variable {X:Cx}{e:Expr}{te:TE}{lo hi:Option Expr}{tl th:TO}{pos p2:Pos}
theorem AN:PO X none FH:=by
 intro pins s σ H Q I h
 rw[evalPart_none]
 exact wpAny_pure ⟨none,H,I,.none,h⟩
theorem lY(h:PE X e te):PO X (some e) (Lz te):=by
 intro pins s σ H Q I hw
 rw[evalPart_some]
 refine dy (h pins s σ H _ I hw) fun u s1 ⟨x,H1,I1,r1,q1⟩=> ?_
 obtain⟨i,rfl,q⟩:=q1
 obtain⟨t,rfl⟩:=r1
 exact⟨some i,H1,I1,.int i t,q⟩
def Pj(X:Cx)(r:V→Option Int→Option Int→Hp→VK→Prop):Prop:=
 ∀(pins:List (Addr×Obj)) (s:Shared) (σ:St) (H:Hp) (x:V) (v vl vu:Value) (lo hi:Option Int) (sl:Addr) (Q:VK),Inv X pins σ H s→RelV x v→s.heap.IsSliceOf sl vl vu .none→IsPart vl lo→IsPart vu hi→r x lo hi H Q→
  ∃T id,typeLookup (.type T) "__getitem__"=pure (some (.builtin id))∧s.TypeIs v T∧wpAny (model X.prog X.w) X.A (getItem v (.ref sl)) (EP X pins σ Q) X.xe s
def Ql(r:V→Option Int→Option Int→Hp→VK→Prop)(te:TE)(tl th:TO):TE:=fun σ H Q=>te σ H fun x H1=>tl σ H1 fun l H2=>th σ H2 fun u H3=>r x l u H3 Q
theorem nV{r:V→Option Int→Option Int→Hp→VK→Prop}(hr:Pj X r)(he:PE X e te)(hl:PO X lo tl)(hu:PO X hi th):PE X (.Subscript e (.Slice lo hi none p2) pos) (Ql r te tl th):=by
 intro pins s σ H Q I h
 refine Subscript_ (dy (he pins s σ H _ I h) fun v s1 ⟨x,H1,I1,r1,q1⟩=> ?_)
 refine wpAny_Slice (dy (hl pins s1 σ H1 _ I1 q1) fun vl s2 ⟨l,H2,I2,pl,q2⟩=>dy (hu pins s2 σ H2 _ I2 q2) fun vu s3 ⟨u,H3,I3,pu,q3⟩=> ?_)
 rw[evalPart_none]
 refine wpAny_pure ?_
 have I4:Inv X pins σ H3 {s3 with heap:=s3.heap.push {cls:= .type "slice",data:= .fields #[vl,vu,.none]}}:=I3.kept (t':=s3.toks) fun b ob q=>Heap.get?_push_of_some _ q
 obtain⟨T,id,hT,ht,hg⟩:=hr pins {s3 with heap:=s3.heap.push {cls:= .type "slice",data:= .fields #[vl,vu,.none]}} σ H3 x v vl vu l u s3.heap.objs.size Q I4 r1 (Heap.IsSliceOf.new ..) pl pu q3
 show wpAny (model X.prog X.w) X.A (subscriptTail e (.Slice lo hi none p2) v (.ref s3.heap.objs.size)) (EP X pins σ Q) X.xe {s3 with heap:=s3.heap.push {cls:= .type "slice",data:= .fields #[vl,vu,.none]}}
 exact tail_any (ops:=[.ref s3.heap.objs.size,v]) ht hT hg (by with_unfolding_all rfl)
def qu(xs:List V)(lo hi:Option Int):List V:=(xs.drop (HT.yI xs.length 0 lo)).take (HT.yI xs.length xs.length hi - HT.yI xs.length 0 lo)
theorem Cn(xs:List V)(lo hi:Option Int):(qu xs lo hi).length≤xs.length:=by
 unfold qu
 rw[List.length_take,List.length_drop]
 lia
end
def Iw(n:Nat)(i:Int):Option Nat:=if 0≤i then(if i<n then some i.toNat else none) else if -(n:Int)≤i then some (i+n).toNat else none
def Iy{α:Type}(xs:List α)(i:Int):Option α:=(Iw xs.length i).bind fun j=>xs[j]?
theorem FI{n:Nat}{i:Int}{j:Nat}(h:Iw n i=some j):seqIndex? i n=some j∧j<n∧-(n:Int)≤i∧i<n:=by
 unfold Iw at h
 by_cases h0:0≤i
 ·rw[if_pos h0] at h
  by_cases h1:i<n
  ·rw[if_pos h1] at h
   have e:i.toNat=j:=Option.some.inj h
   exact⟨by rw[seqIndex_of h0 h1,e],by lia,by lia,h1⟩
  ·rw[if_neg h1] at h;cases h
 ·rw[if_neg h0] at h
  by_cases h1: -(n:Int)≤i
  ·rw[if_pos h1] at h
   have e:(i+n).toNat=j:=Option.some.inj h
   exact⟨by rw[seqIndex_neg (by lia) h1,e],by lia,h1,by lia⟩
  ·rw[if_neg h1] at h;cases h
theorem FJ{α:Type}{xs:List α}{i:Int}{v:α}(h:Iy xs i=some v):∃j,seqIndex? i xs.length=some j∧xs[j]? =some v∧j<xs.length∧-(xs.length:Int)≤i∧i<xs.length:=by
 unfold Iy at h
 cases e:Iw xs.length i with
 |none=>rw[e] at h;cases h
 |some j=>
  rw[e] at h
  obtain⟨h1,h2,h3,h4⟩:=FI e
  exact⟨j,h1,h,h2,h3,h4⟩
theorem Kr{α:Type}{xs:List α}{j:Nat}{v:α}(h:xs[j]? =some v):Iy xs (j:Int)=some v:=by
 have hj:j<xs.length:=(List.getElem?_eq_some_iff.mp h).1
 have e:Iw xs.length (j:Int)=some j:=by
  unfold Iw
  rw[if_pos (by lia),if_pos (by lia)];simp
 unfold Iy;rw[e];exact h
def Ks(b:Expr):Prop:=∀o i,subscripted b false o i=operate [o,i] (getItem o i)
def NY(X:Cx)(r:R2):Prop:=
 ∀(value slice:Expr) (pins:List (Addr×Obj)) (s:Shared) (σ:St) (H:Hp) (x y:V) (v u:Value) (Q:VK),Inv X pins σ H s→RelV x v→RelV y u→r x y H Q→
  subscripted slice false v u=operate [v,u] (getItem v u)→wpAny (model X.prog X.w) X.A (subscriptTail value slice v u) (EP X pins σ Q) X.xe s
def QD(X:Cx)(id:String)(r:V→List V→Hp→VK→Prop):Prop:=
 ∀(pins:List (Addr×Obj)) (s:Shared) (σ:St) (H:Hp) (x:V) (xs:List V) (v:Value) (us:List Value) (Q:VK),Inv X pins σ H s→RelV x v→Vals xs us→r x xs H Q→
  wpAny (model X.prog X.w) X.A (call (.builtin id) (v::us)) (EP X pins σ Q) X.xe s
section
variable {X:Cx}{a b:Expr}{ta tb:TE}{pos:Pos}
theorem aK{r:R2}(hr:NY X r)(ha:PE X a ta)(hb:PE X b tb)(hs:Ks b):PE X (.Subscript a b pos) (Mc r ta tb):=by
 intro pins s σ H Q I h
 exact Subscript_ (Md ha hb I h fun v u s2 x y H2 I2 rx ry q=>hr a b pins s2 σ H2 x y v u Q I2 rx ry q (hs _ _))
def Mi(K:PySem.W.Frag):R2:=fun x y H Q=>∃p xs i v,x= .ref p∧y= .int i∧gn K H p xs∧Iy xs i=some v∧Q v H
def NZ(K:PySem.W.Frag):R2:=fun x y H Q=>∃p xs i v,x= .ref p∧y= .int i∧yE K H p xs∧Iy xs i=some v∧Q v H
theorem Kt:NY X (Mi X.K):=by
 intro value slice pins s σ H x y v u Q I rx ry h hs
 obtain⟨p,xs,i,z,rfl,rfl,hq,he,q⟩:=h
 cases rx
 obtain⟨t,rfl⟩:=ry
 obtain⟨its,r,pl,hz⟩:=I.list hq
 obtain⟨j,h1,h2,h3,h4,h5⟩:=FJ he
 obtain⟨w,ew,rw'⟩:=r.get h2
 have hl:=r.length
 have hn:=tK
 have fin:EP X pins σ Q w s:=⟨z,H,I,rw',q⟩
 by_cases h0:0≤i
 ·have hj:i.toNat=j:=by
   rw[seqIndex_of h0 h5] at h1
   exact Option.some.inj h1
  exact item_listR pl.isList h0 (by lia) (by rw[hj];simpa using ew) fin hs
 ·have hj:(i+(its.toArray.size:Int)).toNat=j:=by
   rw[seqIndex_neg (by lia) h4] at h1
   rw[List.size_toArray,←hl]
   exact Option.some.inj h1
  exact subscriptTail_builtinR (x:=w) pl.isList.typeIs slot_list_getitem.lookup
   (wpAny_getItem_list_neg (Q:=fun r s'=>r=w∧EP X pins σ Q r s') pl.isList (by lia) (by rw[List.size_toArray] <;>lia) (by lia) (by rw[hj];simpa using ew) ⟨rfl,fin⟩) hs
theorem Mj:NY X (NZ X.K):=by
 intro value slice pins s σ H x y v u Q I rx ry h hs
 obtain⟨p,xs,i,z,rfl,rfl,hq,he,q⟩:=h
 cases rx
 obtain⟨t,rfl⟩:=ry
 obtain⟨its,r,pl,hz⟩:=I.tuple hq
 obtain⟨j,h1,h2,h3,h4,h5⟩:=FJ he
 obtain⟨w,ew,rw'⟩:=r.get h2
 have hl:=r.length
 have hn:=tK
 have fin:EP X pins σ Q w s:=⟨z,H,I,rw',q⟩
 exact subscriptTail_builtinR (x:=w) pl.typeIs slot_tuple_getitem.lookup
  (getItem_tuple (j:=j) (Q:=fun r s'=>r=w∧EP X pins σ Q r s') pl (by lia) (by lia) (by rw[List.size_toArray,←hl];exact h1) (by simpa using ew) ⟨rfl,fin⟩) hs
theorem D9(its:List Value)(n j:Nat)(u:Value):Obj.mapSeq (·.setIfInBounds j u) {cls:= .type "list",data:= .seq its.toArray n}={cls:= .type "list",data:= .seq (its.set j u).toArray n}:=by
 simp[Obj.mapSeq]
theorem Inv.lst{pins:List (Addr×Obj)}{σ:St}{H:Hp}{s:Shared}{p:Addr}{xs:List V}(I:Inv X pins σ H s)(h:H p=some (.lst xs)):
  ∃(its:List Value) (n:Nat),Vals xs its∧s.heap.get? p=some {cls:= .type "list",data:= .seq its.toArray n}∧xs.length≤sizeLine:=by
 obtain⟨z,its,n,r,e⟩:=I.dB p _ h
 exact⟨its,n,r,e,z⟩
theorem Inv.Ml{pins:List (Addr×Obj)}{σ:St}{H:Hp}{s:Shared}{p:Addr}{xs ys:List V}{its its':List Value}{n n':Nat}{f:Obj→Obj}(I:Inv X pins σ H s)(h:H p=some (.lst xs))
  (ho:s.heap.get? p=some {cls:= .type "list",data:= .seq its.toArray n}) (hf:f {cls:= .type "list",data:= .seq its.toArray n}={cls:= .type "list",data:= .seq its'.toArray n'}) (r:Vals ys its') (hz:ys.length≤sizeLine) (t:Nat):
  Inv X pins σ (upd H p (.lst ys)) {s with heap:=s.heap.update p f,toks:=t}:=by
 have e:(s.heap.update p f).get? p=some {cls:= .type "list",data:= .seq its'.toArray n'}:=by
  rw[Heap.get?_update_self f ho (by rw[hf] <;>rfl),hf]
 refine I.write (x:=p) (e:=p) (by rw[h];trivial) (.inl rfl) (fun b u hb q=>(Heap.get?_update_other _ _ (Ne.symm hb)).trans q) ⟨_,e⟩ ?_
 exact⟨hz,its',n',r,e⟩
def Oa:V→V→V→Hp→(Hp→Prop)→Prop:=fun o i v H Q=>∃p xs k j,o= .ref p∧i= .int k∧H p=some (.lst xs)∧Iw xs.length k=some j∧Q (upd H p (.lst (xs.set j v)))
theorem set_list:L7 X Oa:=by
 intro pins s σ H o i v ov iv u Q I ro ri rv h
 obtain⟨p,xs,k,j,rfl,rfl,hp,hj,q⟩:=h
 cases ro
 obtain⟨t,rfl⟩:=ri
 obtain⟨its,n,r,ho,hz⟩:=I.lst hp
 obtain⟨h1,h2,h3,h4⟩:=FI hj
 have hl:=r.length
 have hn:=tK
 have I':Inv X pins σ (upd H p (.lst (xs.set j v))) {s with heap:=s.heap.update p (Obj.mapSeq (·.setIfInBounds j u))}:=
  I.Ml hp ho (D9 its n j u) (r.set rv j) (by rw[List.length_set];exact hz) s.toks
 by_cases h0:0≤k
 ·have hk:k.toNat=j:=by
   rw[seqIndex_of h0 h4] at h1
   exact Option.some.inj h1
  exact PySem.W.ki_setAt ho h0 (by lia) (by rw[List.size_toArray,←hl];exact h4) (by rw[hk];exact⟨_,I',q⟩)
 ·have hk:(k+(its.toArray.size:Int)).toNat=j:=by
   rw[seqIndex_neg (by lia) h3] at h1
   rw[List.size_toArray,←hl]
   exact Option.some.inj h1
  exact PySem.W.ki_setBack ho (by lia) (by rw[List.size_toArray,←hl];exact h3) (by lia) (by rw[hk];exact⟨_,I',q⟩)
theorem AO(lo hi:Option Int)(n:Nat):(sliceBounds lo hi none n).1=((HT.yI n 0 lo:Nat):Int)∧(sliceBounds lo hi none n).2.1=((HT.yI n n hi:Nat):Int)∧(sliceBounds lo hi none n).2.2=1:=by
 refine⟨?_,?_,rfl⟩
 ·cases lo with
  |none=>simp[sliceBounds,HT.yI]
  |some i=>
   simp only[sliceBounds,HT.yI,Option.getD_none,show(1:Int)>0 by decide,if_true]
   by_cases h:i<0
   ·simp only[h,if_true] <;>lia
   ·simp only[h,if_false] <;>lia
 ·cases hi with
  |none=>simp[sliceBounds,HT.yI]
  |some i=>
   simp only[sliceBounds,HT.yI,Option.getD_none,show(1:Int)>0 by decide,if_true]
   by_cases h:i<0
   ·simp only[h,if_true] <;>lia
   ·simp only[h,if_false] <;>lia
theorem yJ(its:List Value)(lo hi:Option Int):slicePick its.toArray lo hi none=((its.drop (HT.yI its.length 0 lo)).take (HT.yI its.length its.length hi - HT.yI its.length 0 lo)).toArray:=by
 obtain⟨h1,h2,h3⟩:=AO lo hi its.toArray.size
 unfold slicePick
 rw[h1,h2,h3]
 simp only[sliceRange_one,pick_run,List.size_toArray] <;>rfl
def Mm(K:PySem.W.Frag):V→Option Int→Option Int→Hp→VK→Prop:=fun x lo hi H Q=>∃a xs,x= .ref a∧gn K H a xs∧∀p,H p=none→Q (.ref p) (upd H p (.lst (qu xs lo hi)))
theorem Ku:Pj X (Mm X.K):=by
 intro pins s σ H x v vl vu lo hi sl Q I rx hs pl pu h
 obtain⟨a,xs,rfl,hx,q⟩:=h
 cases rx
 obtain⟨its,r,ht,hz⟩:=I.list hx
 have hlen:=r.length
 refine⟨"list",_,slot_list_getitem.lookup,ht.isList.typeIs,?_⟩
 refine wpAny_getItem_list_slice ht.isList hs pl pu .none (by simp) ?_ (by rw[List.size_toArray] <;>lia)
 rw[yJ,←hlen]
 refine⟨.ref s.heap.objs.size,_,I.laid (t':=s.toks) (o:= .lst (qu xs lo hi)) (fun b ob q=>Heap.get?_push_of_some _ q) (Nat.le_refl _) ?_,rfl,q _ (I.dB.fresh (Nat.le_refl _))⟩
 exact⟨Nat.le_trans (Cn xs lo hi) hz,_,0,(r.drop (HT.yI xs.length 0 lo)).take (HT.yI xs.length xs.length hi - HT.yI xs.length 0 lo),Heap.get?_push_size _ rfl⟩
def vh:V→Bool
 | .fG=>true
 | .bl _=>true
 | .int _=>true
 | .str _=>true
 |_=>false
def GY:V→V→Bool
 | .fG,.fG=>true
 | .bl a,.bl b=>a==b
 | .bl a,.int b=>(if a then 1 else 0)==b
 | .int a,.bl b=>a==(if b then 1 else 0)
 | .int a,.int b=>a==b
 | .str a,.str b=>a==b
 |_,_=>false
theorem Mn{A:Around}{s:Shared}{y x:V}{u v:Value}(ry:RelV y u)(rx:RelV x v)(fy:vh y=true)(fx:vh x=true):SeqAt.EqAt A s u v (GY y x):=by
 cases y with
 |fG=>
  cases ry
  cases x with
  |fG=>cases rx;exact SeqAt.EqAt.same _
  |bl b=>cases rx;exact SeqAt.EqAt.none_bool b
  |int b=>obtain⟨t,rfl⟩:=rx;exact SeqAt.EqAt.none_int b t
  |str b=>obtain⟨t,rfl⟩:=rx;exact SeqAt.EqAt.none_str b t
  |_=>exact absurd (show false=true from fx) Bool.false_ne_true
 |bl a=>
  cases ry
  cases x with
  |fG=>cases rx;exact SeqAt.EqAt.bool_none a
  |bl b=>cases rx;exact SeqAt.EqAt.bool_bool a b
  |int b=>obtain⟨t,rfl⟩:=rx;exact SeqAt.EqAt.bool_int a b t
  |str b=>obtain⟨t,rfl⟩:=rx;exact SeqAt.EqAt.bool_str a b t
  |_=>exact absurd (show false=true from fx) Bool.false_ne_true
 |int a=>
  obtain⟨t',rfl⟩:=ry
  cases x with
  |fG=>cases rx;exact SeqAt.EqAt.int_none a t'
  |bl b=>cases rx;exact SeqAt.EqAt.int_bool a t' b
  |int b=>obtain⟨t,rfl⟩:=rx;exact SeqAt.EqAt.int_int a t' b t
  |str b=>obtain⟨t,rfl⟩:=rx;exact SeqAt.EqAt.int_str a t' b t
  |_=>exact absurd (show false=true from fx) Bool.false_ne_true
 |str a=>
  obtain⟨t',rfl⟩:=ry
  cases x with
  |fG=>cases rx;exact SeqAt.EqAt.str_none a t'
  |bl b=>cases rx;exact SeqAt.EqAt.str_bool a t' b
  |int b=>obtain⟨t,rfl⟩:=rx;exact SeqAt.EqAt.str_int a t' b t
  |str b=>obtain⟨t,rfl⟩:=rx;exact SeqAt.EqAt.str_str a t' b t
  |_=>exact absurd (show false=true from fx) Bool.false_ne_true
 |_=>exact absurd (show false=true from fy) Bool.false_ne_true
def Ea(x:V)(u:Value):Bool:=match u with
 | .none=>GY .fG x
 | .bool b=>GY (.bl b) x
 | .int i _=>GY (.int i) x
 | .str z _=>GY (.str z) x
 |_=>false
theorem Iz{x y:V}{u:Value}(r:RelV y u)(f:vh y=true):Ea x u=GY y x:=by
 cases y with
 |fG=>cases r;rfl
 |bl b=>cases r;rfl
 |int i=>obtain⟨t,rfl⟩:=r;rfl
 |str z=>obtain⟨t,rfl⟩:=r;rfl
 |_=>exact absurd (show false=true from f) Bool.false_ne_true
theorem rK{x:V}:∀{xs:List V} {us:List Value},Vals xs us→xs.all vh=true→us.any (Ea x)=xs.any fun y=>GY y x
 |_,_,.nil,_=>rfl
 |y::xs,u::us,.cons r t,f=>by
  rw[List.all_cons,Bool.and_eq_true] at f
  rw[List.any_cons,List.any_cons,Iz r f.1,rK t f.2]
theorem nW{A:Around}{s:Shared}{x:V}{v:Value}(rx:RelV x v)(fx:vh x=true):∀{xs:List V} {us:List Value},Vals xs us→xs.all vh=true→∀u∈us,SeqAt.EqAt A s u v (Ea x u)
 |_,_,.nil,_=>fun u hu=>by cases hu
 |y::xs,u::us,.cons r t,f=>fun u' hu=>by
  rw[List.all_cons,Bool.and_eq_true] at f
  rcases List.mem_cons.mp hu with rfl |hu
  ·rw[Iz r f.1];exact Mn r rx f.1 fx
  ·exact nW rx fx t f.2 u' hu
def DN(x:V)(xs:List V):Bool:=xs.any fun y=>GY y x
def OV(K:PySem.W.Frag)(neg:Bool):R2:=fun x y H Q=>∃p xs,y= .ref p∧(gn K H p xs∨yE K H p xs)∧vh x=true∧xs.all vh=true∧Q (.bl (if neg then !DN x xs else DN x xs)) H
theorem GZ:rH X (compareOp .In) (OV X.K false):=by
 intro pins s σ H x y v u Q I rx ry h
 obtain⟨p,xs,rfl,hq,fx,fs,q⟩:=h
 cases ry
 rcases hq with hq |hq
 ·obtain⟨its,r,pl,hz⟩:=I.list hq
  refine SeqAt.in_listAt (Ea x) pl.isList (fun w hw=>nW rx fx r fs w (by simpa using hw)) ⟨.bl _,H,I,rfl,?_⟩
  rw[show its.toArray.any (Ea x)=its.any (Ea x) by simp,rK r fs]
  exact q
 ·obtain⟨its,r,pl,hz⟩:=I.tuple hq
  refine SeqAt.in_tupleAt (Ea x) pl (fun w hw=>nW rx fx r fs w (by simpa using hw)) ⟨.bl _,H,I,rfl,?_⟩
  rw[show its.toArray.any (Ea x)=its.any (Ea x) by simp,rK r fs]
  exact q
theorem AQ:rH X (compareOp .NotIn) (OV X.K true):=by
 intro pins s σ H x y v u Q I rx ry h
 obtain⟨p,xs,rfl,hq,fx,fs,q⟩:=h
 cases ry
 rcases hq with hq |hq
 ·obtain⟨its,r,pl,hz⟩:=I.list hq
  refine SeqAt.notIn_listAt (Ea x) pl.isList (fun w hw=>nW rx fx r fs w (by simpa using hw)) ⟨.bl _,H,I,rfl,?_⟩
  rw[show its.toArray.any (Ea x)=its.any (Ea x) by simp,rK r fs]
  exact q
 ·obtain⟨its,r,pl,hz⟩:=I.tuple hq
  refine SeqAt.notIn_tupleAt (Ea x) pl (fun w hw=>nW rx fx r fs w (by simpa using hw)) ⟨.bl _,H,I,rfl,?_⟩
  rw[show its.toArray.any (Ea x)=its.any (Ea x) by simp,rK r fs]
  exact q
theorem AR:jZ X (.builtin "len") (fun xs H Q=>∃p ys,xs=[.ref p]∧(gn X.K H p ys∨yE X.K H p ys)∧Q (.int ys.length) H):=by
 intro pins s σ H xs us Q I r h
 obtain⟨p,ys,rfl,hq,q⟩:=h
 obtain⟨u,rfl,rx⟩:=vals1 r
 cases rx
 have hn:=tK
 rcases hq with hq |hq
 ·obtain⟨its,r',pl,hz⟩:=I.list hq
  have hlen:=r'.length
  exact Calls.call_len_list pl.isList (by simp only[List.size_toArray] <;>lia) ⟨.int ys.length,H,I.tok _,⟨s.toks+1,by rw[List.size_toArray,hlen]⟩,q⟩
 ·obtain⟨its,r',pl,hz⟩:=I.tuple hq
  have hlen:=r'.length
  exact len_tuple pl (by simp only[List.size_toArray] <;>lia) ⟨.int ys.length,H,I.tok _,⟨s.toks+1,by rw[List.size_toArray,hlen]⟩,q⟩
theorem AS:jZ X (.type "list") (fun xs H Q=>∃p ys,xs=[.ref p]∧(gn X.K H p ys∨yE X.K H p ys)∧∀l,H l=none→Q (.ref l) (upd H l (.lst ys))):=by
 intro pins s σ H xs us Q I r h
 obtain⟨p,ys,rfl,hq,q⟩:=h
 obtain⟨u,rfl,rx⟩:=vals1 r
 cases rx
 have fin:∀(its:List Value),Vals ys its→ys.length≤sizeLine→∀(h':Heap) (c':Nat),(∀b o',s.heap.get? b=some o'→h'.get? b=some o')→
   h'.get? s.heap.objs.size=some {cls:= .type "list",dict:=none,data:= .seq its.toArray c',slots:= #[]}→EP X pins σ Q (.ref s.heap.objs.size) {s with heap:=h'}:=fun its r' hz h' c' kp e=>
  ⟨.ref s.heap.objs.size,_,I.laid (t':=s.toks) kp (Nat.le_refl _) (show gm X.prog X.w _ h' _ (.lst ys) from⟨hz,its,c',r',e⟩),rfl,q _ (I.dB.fresh (Nat.le_refl _))⟩
 rcases hq with hq |hq
 ·obtain⟨its,r',pl,hz⟩:=I.list hq
  have hlen:=r'.length
  obtain⟨o,ho,hc,n,hd⟩:=pl.isList
  exact call_list_seq p (.inl rfl) ho hc hd (fun h' c' kp e=>fin its r' hz h' c' kp e) (by simp only[List.size_toArray] <;>lia)
 ·obtain⟨its,r',pl,hz⟩:=I.tuple hq
  have hlen:=r'.length
  obtain⟨o,ho,hc,n,hd⟩:=pl
  exact call_list_seq p (.inr rfl) ho hc hd (fun h' c' kp e=>fin its r' hz h' c' kp e) (by simp only[List.size_toArray] <;>lia)
def Qm(K:PySem.W.Frag)(T:String)(x:V)(H:Hp):Prop:=match x with
 | .str _=>T="str"
 | .int _=>T="int"
 | .ref p=>(T="list"∧∃xs,gn K H p xs)∨(T="tuple"∧∃o,K.lookup p=some o∧o.cls= .type "tuple"∧o.dict=none)∨
   (T="dict"∧((∃kvs,H p=some (.dK kvs))∨∃kvs,H p=some (.dT kvs)))∨(T="set"∧∃S n,H p=some (.set S n))
 |_=>False
theorem Mo{pins:List (Addr×Obj)}{σ:St}{H:Hp}{s:Shared}{T:String}{x:V}{v:Value}(I:Inv X pins σ H s)(r:RelV x v)(ty:Qm X.K T x H):
  s.TypeIs v T∧∀a,v= .ref a→∃ob,s.heap.get? a=some ob∧ob.dict=none:=by
 cases x with
 |str z=>
  obtain⟨t,rfl⟩:=r
  cases(show T="str" from ty)
  exact⟨typeIs_str s z t,fun _ e=>nomatch e⟩
 |int i=>
  obtain⟨t,rfl⟩:=r
  cases(show T="int" from ty)
  exact⟨typeIs_int s i t,fun _ e=>nomatch e⟩
 |ref p=>
  cases r
  rcases ty with⟨rfl,xs,hq⟩ |⟨rfl,o,hk,hc,hd⟩ |⟨rfl,hk⟩ |⟨rfl,S,n,hk⟩
  ·obtain⟨its,_,pl,_⟩:=I.list hq
   refine⟨pl.isList.typeIs,fun a e=> ?_⟩
   cases e
   obtain⟨o,n,e,c,hd,_⟩:=pl
   exact⟨o,e,hd⟩
  ·refine⟨⟨o,I.HW p o hk,hc⟩,fun a e=> ?_⟩
   cases e
   exact⟨o,I.HW _ o hk,hd⟩
  ·have z:∃o,s.heap.get? p=some o∧o.ExactDict:=by
    rcases hk with⟨kvs,hk⟩ |⟨kvs,hk⟩
    ·obtain⟨_,_,_,_,o,_,_,e,ex,_⟩:=I.dB p _ hk
     exact⟨o,e,ex⟩
    ·obtain⟨_,_,_,_,o,_,_,e,ex,_⟩:=I.dB p _ hk
     exact⟨o,e,ex⟩
   obtain⟨o,e,ex⟩:=z
   refine⟨⟨o,e,ex.1⟩,fun a e2=> ?_⟩
   cases e2
   exact⟨o,e,ex.2.1⟩
  ·obtain⟨o,_,_,_,e,ex,_⟩:=I.dB p _ hk
   refine⟨⟨o,e,ex.1⟩,fun a e2=> ?_⟩
   cases e2
   exact⟨o,e,ex.2.1⟩
 |_=>exact False.elim ty
def Qn(K:PySem.W.Frag)(T:String)(r:V→List V→Hp→VK→Prop)(to:TE)(t:TA):TE:=fun σ H Q=>to σ H fun x H1=>Qm K T x H1∧t σ H1 fun xs H2=>r x xs H2 Q
variable {o e:Expr}{es:List Expr}{to:TE}{t:TA}{name:Str}{apos cpos:Pos}{T id:String}{r:V→List V→Hp→VK→Prop}
theorem j3(pa:PlainAttrs T)(slot:Slot T name id)(hty:typeOf (.builtin id)=pure (.type "method_descriptor"))(hm:QD X id r)(ho:PE X o to)(ha:PA X (e::es) t)
  (hbase:attributeBase o name X.env (eval o X.env)=eval o X.env:=by rfl)
  (hfew:((backTo cpos (starEach (e::es) X.env)).all (fun x=> !x.1)&&(backToKw cpos (keywordEach [] X.env)).all (fun x=>x.1.isSome)
   &&decide ((e::es).length+([]:List Keyword).length+(if([]:List Keyword).isEmpty then 0 else 1)<30))=true:=by rfl)
  (hline:(apos.endLine==cpos.line)=true:=by rfl) (hs:starEach (e::es) X.env=(false,eval e X.env)::starEach es X.env:=by rfl) (hplain:(backTo cpos (starEach es X.env)).any (·.1)=false:=by rfl):
  PE X (.Call (.Attribute o name apos) (e::es) [] cpos) (Qn X.K T r to t):=by
 intro pins s σ H Q I h
 refine wpAny_Call_method_late hbase hfew hline rfl (dy (ho pins s σ H _ I h) fun v s1 ⟨x,H1,I1,r1,ty,q1⟩=> ?_)
 obtain⟨h1,h2⟩:=Mo I1 r1 ty
 refine⟨T,id,pa,slot,hty,h1,h2,?_⟩
 have hA:=ha cpos pins s1 σ H1 _ I1 q1
 rw[hs] at hA⊢
 refine Calls.callWith_builtin (by show(false ||(backTo cpos (starEach es X.env)).any (·.1))=false;rw[hplain] <;>rfl) (Calls.evalArgs_plain ?_)
 exact dy hA fun us s2 ⟨vs,H2,I2,r2,q2⟩=>hm pins s2 σ H2 x vs v us Q I2 r1 r2 q2
end
def Qo(X:Cx)(id:String)(r:V→List V→Hp→VK→Prop):Prop:=
 ∀(pins:List (Addr×Obj)) (s:Shared) (σ:St) (H:Hp) (x:V) (xs:List V) (v:Value) (us:List Value) (Q:VK),Inv X pins σ H s→RelV x v→Vals xs us→r x xs H Q→
  wpAny (model X.prog X.w) X.A (call (.builtin id) (v::us)) (EP X pins σ Q) X.xe s
theorem Vals.one:∀{x:V} {us:List Value},Vals [x] us→∃u,us=[u]∧RelV x u
 |_,_,.cons r .nil=>⟨_,rfl,r⟩
theorem Vals.rep{xs:List V}{us:List Value}(h:Vals xs us):∀k:Nat,Vals (List.replicate k xs).flatten (List.replicate k us).flatten
 |0=> .nil
 |k+1=>by
  rw[List.replicate_succ,List.replicate_succ,List.flatten_cons,List.flatten_cons]
  exact Vals.append h (Vals.rep h k)
theorem foldl_rep(its:List Value):∀(k:Nat) (acc:List Value),
  List.foldl (fun x1 x2=>x1 ++ x2) acc.toArray (List.replicate k its.toArray)=(acc ++ (List.replicate k its).flatten).toArray
 |0,acc=>by simp
 |k+1,acc=>by
  have e:acc.toArray ++ its.toArray=(acc ++ its).toArray:=by simp
  have e2:(acc ++ its) ++ (List.replicate k its).flatten=acc ++ (List.replicate (k+1) its).flatten:=by
   rw[List.replicate_succ,List.flatten_cons,List.append_assoc]
  rw[←e2,←foldl_rep its k (acc ++ its),←e,List.replicate_succ,List.foldl_cons]
section
variable {X:Cx}{pins:List (Addr×Obj)}{σ:St}{H:Hp}{s:Shared}{l b:Addr}{xs ys zs:List V}
theorem Inv.Ob{its its':List Value}{n:Nat}{f:Array Value→Array Value}{t':Nat}(I:Inv X pins σ H s)(hH:H l=some (.lst xs))
  (e:s.heap.get? l=some {cls:= .type "list",data:= .seq its.toArray n}) (hf:f its.toArray=its'.toArray) (hv:Vals ys its') (hz:ys.length≤sizeLine):
  Inv X pins σ (upd H l (.lst ys)) {s with heap:=s.heap.update l (Obj.mapSeq f),toks:=t'}:=by
 have q:=PySem.IsL.update e f
 rw[hf] at q
 refine I.write (x:=l) (e:=l) (by rw[hH];exact trivial) (.inl rfl) (fun b' u hb hu=>(Heap.get?_update_other s.heap (Obj.mapSeq f) (Ne.symm hb)).trans hu) ⟨_,q⟩ ?_
 exact⟨hz,its',_,hv,q⟩
theorem Inv.Oc{its:List Value}{t':Nat}(I:Inv X pins σ H s)(hv:Vals ys its)(hz:ys.length≤sizeLine):
  Inv X pins σ (upd H s.heap.objs.size (.lst ys)) {s with heap:=s.heap.push {cls:= .type "list",data:= .seq its.toArray},toks:=t'}:=
 I.laid (fun _ _ q=>Heap.get?_push_of_some _ q) (Nat.le_refl _) ⟨hz,its,0,hv,Heap.get?_push_size _ rfl⟩
theorem Inv.fresh(I:Inv X pins σ H s):H s.heap.objs.size=none:=I.dB.fresh (Nat.le_refl _)
theorem Inv.G1(I:Inv X pins σ H s)(hH:H l=some (.lst xs)):xs.length≤sizeLine∧∃(its:List Value) (n:Nat),Vals xs its∧xs.length=its.length∧s.heap.get? l=some {cls:= .type "list",data:= .seq its.toArray n}:=by
 obtain⟨z,its,n,r,e⟩:=I.dB l _ hH
 exact⟨z,its,n,r,r.length,e⟩
theorem Co{n:Nat}(h:n≤sizeLine):Builtin.List.listTooLong n=false:=by
 unfold Builtin.List.listTooLong
 exact decide_eq_false (by lia)
end
section
variable {X:Cx}
def FK:V→List V→Hp→VK→Prop:=fun x vs H Q=>∃l xs y,x= .ref l∧vs=[y]∧H l=some (.lst xs)∧xs.length<sizeLine∧Q .fG (upd H l (.lst (xs ++ [y])))
theorem c7:Qo X "list.append" FK:=by
 intro pins s σ H x vs v us Q I rx rv h
 obtain⟨l,xs,y,rfl,rfl,hH,hz,q⟩:=h
 cases rx
 obtain⟨u,rfl,ru⟩:=rv.one
 obtain⟨z,its,n,r,hl,e⟩:=I.G1 hH
 refine call_meets F.slot_list_append ⟨_,e,rfl⟩ F.entry_list_append (F.args_list_append_2 _ _) (PySem.list_append l its.toArray n u (by rw[List.size_toArray];lia)) ⟨e,?_⟩
 refine⟨.fG,_,I.Ob (its':=its ++ [u]) hH e (by simp) (r.append (.cons ru .nil)) ?_,rfl,q⟩
 rw[List.length_append,List.length_singleton]
 lia
def Kv:V→List V→Hp→VK→Prop:=fun x vs H Q=>∃l b xs zs,x= .ref l∧vs=[.ref b]∧H l=some (.lst xs)∧H b=some (.lst zs)∧xs.length+zs.length≤sizeLine∧Q .fG (upd H l (.lst (xs ++ zs)))
theorem zI:Qo X "list.extend" Kv:=by
 intro pins s σ H x vs v us Q I rx rv h
 obtain⟨l,b,xs,zs,rfl,rfl,hH,hB,hz,q⟩:=h
 cases rx
 obtain⟨u,rfl,ru⟩:=rv.one
 cases ru
 obtain⟨z,its,n,r,hl,e⟩:=I.G1 hH
 obtain⟨z2,its2,n2,r2,hl2,e2⟩:=I.G1 hB
 have hsz:its.toArray.size+its2.toArray.size≤sizeLine:=by rw[List.size_toArray,List.size_toArray];lia
 have hlong:¬(!its.toArray.isEmpty&&Builtin.List.listTooLong (its.toArray.size+its2.toArray.size))=true:=by
  rw[Co hsz,Bool.and_false]
  exact Bool.false_ne_true
 refine call_meets F.slot_list_extend ⟨_,e,rfl⟩ F.entry_list_extend (F.args_list_extend_2 _ _)
  (AutoSeq1.list_extend_list_list_0 l its.toArray n b its2.toArray n2 hlong (by rw[List.size_toArray];lia) (by lia)) ⟨e,e2,?_⟩
 refine⟨.fG,_,I.Ob (its':=its ++ its2) hH e (by simp) (r.append r2) ?_,rfl,q⟩
 rw[List.length_append]
 lia
def Od:R2:=fun x y H Q=>∃l b xs zs,x= .ref l∧y= .ref b∧H l=some (.lst xs)∧H b=some (.lst zs)∧xs.length+zs.length≤sizeLine∧∀p,H p=none→Q (.ref p) (upd H p (.lst (xs ++ zs)))
theorem nX:rH X (binaryOp .Add) Od:=by
 intro pins s σ H x y v u Q I rx ry h
 obtain⟨l,b,xs,zs,rfl,rfl,hH,hB,hz,q⟩:=h
 cases rx
 cases ry
 obtain⟨z,its,n,r,hl,e⟩:=I.G1 hH
 obtain⟨z2,its2,n2,r2,hl2,e2⟩:=I.G1 hB
 refine PySem.P.add_list e e2 ?_ (by rw[List.size_toArray,List.size_toArray];lia)
 have ea:its.toArray ++ its2.toArray=(its ++ its2).toArray:=by simp
 rw[ea]
 exact⟨.ref _,_,I.Oc (t':=s.toks) (r.append r2) (by rw[List.length_append];lia),rfl,q _ I.fresh⟩
def Pk:R2:=fun x y H Q=>∃l k xs,x= .ref l∧y= .int k∧H l=some (.lst xs)∧-(2^63)≤k∧k<2^63∧xs.length*k.toNat≤sizeLine∧
 ∀p,H p=none→Q (.ref p) (upd H p (.lst (List.replicate k.toNat xs).flatten))
theorem len_rep{α:Type}(xs:List α)(k:Nat):(List.replicate k xs).flatten.length=k*xs.length:=by
 induction k with
 |zero=>simp
 |succ k ih=>rw[List.replicate_succ,List.flatten_cons,List.length_append,ih,Nat.succ_mul,Nat.add_comm]
theorem AU:rH X (binaryOp .Mult) Pk:=by
 intro pins s σ H x y v u Q I rx ry h
 obtain⟨l,k,xs,rfl,rfl,hH,h1,h2,hz,q⟩:=h
 cases rx
 obtain⟨t,rfl⟩:=ry
 obtain⟨z,its,n,r,hl,e⟩:=I.G1 hH
 have hlen:its.toArray.size*k.toNat≤sizeLine:=by rw[List.size_toArray,←hl];exact hz
 have hcap:¬its.toArray.size*k.toNat>(2^63 - 1) / 8:=by
  have:(sizeLine:Nat)≤(2^63 - 1) / 8:=by decide
  lia
 have hfit:¬(!Builtin.List.listFitsIndex k)=true:=by
  rw[fitsIndex_both h1 h2]
  exact Bool.false_ne_true
 have hlong:¬Builtin.List.listTooLong (its.toArray.size*k.toNat)=true:=by
  rw[Co hlen]
  exact Bool.false_ne_true
 have hnew:List.foldl (fun x1 x2=>x1 ++ x2) #[] (List.replicate (if its.toArray.isEmpty=true then 0 else k.toNat) its.toArray)=(List.replicate k.toNat its).flatten.toArray:=by
  have f0:∀m:Nat,List.foldl (fun x1 x2=>x1 ++ x2) #[] (List.replicate m its.toArray)=(List.replicate m its).flatten.toArray:=fun m=>by
   have:=foldl_rep its m []
   rw[List.nil_append] at this
   exact this
  rw[f0]
  cases its with
  |nil=>simp
  |cons a r'=>rw[if_neg (by simp)]
 refine wpAny_binaryOp_repeat_ref (T:="list") (U:="int") (by decide) ⟨_,e,rfl⟩ (fun s'=>typeIs_int s' k t) noFill_list_mul F.fills_int_mul F.slot_int_rmul repeat_list F.slot_int_index.lookup
  (call_meets F.slot_int_rmul (typeIs_int s k t) F.entry_int_rmul (F.args_int_rmul_2 _ _) (int___rmul___int_list k t l its.toArray n)
   ⟨e,rfl,⟨_,e,rfl⟩,call_meets F.slot_list_mul ⟨_,e,rfl⟩ F.entry_list_mul (F.args_list_mul_2 _ _) (AutoListH.list___mul___list_int_3 l its.toArray n k t hfit hcap hlong) ⟨e,?_⟩⟩)
 rw[hnew]
 exact⟨.ref _,_,I.Oc (t':=s.toks) (r.rep k.toNat) (by rw[len_rep,Nat.mul_comm];exact hz),rfl,q _ I.fresh⟩
end
theorem Vals.ints:∀{ns:List Int} {us:List Value},Vals (ns.map V.int) us→IntsAre us ns
 |[],us,h=>by
  rw[List.map_nil] at h
  cases h
  exact IntsAre.nil
 |n::ns,us,h=>by
  rw[List.map_cons] at h
  cases h with
  |cons r t=>
   obtain⟨k,rfl⟩:=r
   exact IntsAre.cons n k (Vals.ints t)
theorem Vals.Pl:∀{bs:List Bool} {us:List Value},Vals (bs.map V.bl) us→us=bs.map Value.bool
 |[],us,h=>by
  rw[List.map_nil] at h
  cases h
  rfl
 |b::bs,us,h=>by
  rw[List.map_cons] at h
  cases h with
  |cons r t=>
   cases r
   rw[Vals.Pl t,List.map_cons]
theorem Vals.Mp{a:Addr}{us:List Value}(r:Vals [V.ref a] us):us=[Value.ref a]:=by
 cases r with
 |cons r t=>
  cases t
  cases r
  rfl
section
variable {prog:Program}{w:World}{A:Around}{E:Value→Shared→Prop}{s:Shared}{l:Addr}{its:List Value}{ns:List Int}{Q:Value→Shared→Prop}
theorem Kw(hh:A.handled=none)(hl:s.heap.IsList l its.toArray)(hi:IntsAre its ns)
  (h:∀h' tk t',(∀b o,s.heap.get? b=some o→h'.get? b=some o)→Q (.int ns.sum t') {s with heap:=h',toks:=tk}):wpAny (model prog w) A (call (.builtin "sum") [.ref l]) Q E s:=by
 obtain⟨xs,e⟩:=hi.allInts.items
 have hn:numsOf (intItems xs).toList=ns:=by rw[←e];exact hi.numsOf
 rw[nums_intItems] at hn
 rw[e] at hl
 refine PySem.sum_intListG hh hl fun h' tk t' hk=> ?_
 have:=h h' tk t' hk
 rw[preSum_eq,List.take_of_length_le (by simp),hn];exact this
end
section
variable {X:Cx}
def Oe(K:PySem.W.Frag):List V→Hp→VK→Prop:=fun vs H Q=>∃(a:Addr) (ns:List Int),vs=[V.ref a]∧gn K H a (ns.map V.int)∧Q (.int ns.sum) H
theorem Mq(hc:X.calm=true):jZ X (.builtin "sum") (Oe X.K):=by
 intro pins s σ H vs us Q I r h
 obtain⟨a,ns,rfl,hs,q⟩:=h
 obtain⟨its,rv,hl,_⟩:=I.list hs
 rw[Vals.Mp r]
 exact Kw (I.ok.hd hc) hl.isList rv.ints fun h' tk t' hk=>⟨.int _,H,I.kept hk,⟨_,rfl⟩,q⟩
end
theorem Cp{prog:Program}{w:World}{A:Around}{E:Value→Shared→Prop}{s:Shared}{l:Addr}{items:Array Value}{Q:Value→Shared→Prop}(hl:s.heap.IsList l items)
  (h:∀s₂:Shared,s₂={s with heap:=s.heap.push {cls:= .type "list_iterator",data:= .fields #[.ref l,.int 0 0]}}→
   (s₂.heap.IsListIter s.heap.objs.size l 0∧s₂.heap.IsList l items)→l≠s.heap.objs.size→Q (.ref s.heap.objs.size) s₂):wpAny (model prog w) A (pyIter (.ref l)) Q E s:=by
 have hlt:l<s.heap.objs.size:=by obtain⟨_,e,_⟩:=hl;exact Heap.lt_size e
 exact wpAny_pyIter_list hl (h _ rfl ⟨⟨_,Heap.get?_push_size _ rfl,rfl,rfl⟩,hl.push _⟩ (Nat.ne_of_lt hlt))
theorem vi{prog:Program}{w:World}{A:Around}{bs:List Bool}{its:List Value}(e:its=bs.map Value.bool):
  TruthOf prog w A (fun i v=>its.toArray[i]? =some v) (fun i=>bs.getD i false):=fun i v s Q E hv hq=>by
 have hv':its[i]? =some v:=by simpa using hv
 rw[e,List.getElem?_map] at hv'
 obtain⟨b,hb,rfl⟩:=Option.map_eq_some_iff.mp hv'
 have hg:bs.getD i false=b:=by rw[gDe,hb] <;>rfl
 have hq':Q (bs.getD i false) s:=hq
 rw[hg] at hq'
 exact wpAny_truthy_bool hq'
theorem any_range:∀bs:List Bool,(List.range bs.length).any (fun i=>bs.getD i false)=bs.any id
 |[]=>rfl
 |b::bs=>by
  rw[List.length_cons,List.range_succ_eq_map,List.any_cons,List.any_map,List.any_cons,←any_range bs]
  all_goals rfl
theorem all_range:∀bs:List Bool,(List.range bs.length).all (fun i=>bs.getD i false)=bs.all id
 |[]=>rfl
 |b::bs=>by
  rw[List.length_cons,List.range_succ_eq_map,List.all_cons,List.all_map,List.all_cons,←all_range bs]
  all_goals rfl
section
variable {X:Cx}
def Of(K:PySem.W.Frag):List V→Hp→VK→Prop:=fun vs H Q=>∃(a:Addr) (bs:List Bool),vs=[V.ref a]∧gn K H a (bs.map V.bl)∧Q (.bl (bs.any id)) H
def Og(K:PySem.W.Frag):List V→Hp→VK→Prop:=fun vs H Q=>∃(a:Addr) (bs:List Bool),vs=[V.ref a]∧gn K H a (bs.map V.bl)∧Q (.bl (bs.all id)) H
theorem Mr(hc:X.calm=true):jZ X (.builtin "any") (Of X.K):=by
 intro pins s σ H vs us Q I r h
 obtain⟨a,bs,rfl,hs,q⟩:=h
 obtain⟨its,rv,hl,_⟩:=I.list hs
 rw[Vals.Mp r]
 have hb:=rv.Pl
 refine call_any_walk (Cp hl.isList fun s₂ e2 st hne=> ?_)
 subst e2
 refine⟨_,_,_,_,_,_,_,rfl,Walks.list (A:=X.A.in1) (I.ok.hd hc) _ a hne its.toArray,st,vi hb,fun h' tk hk=> ?_⟩
 refine⟨.bl _,H,I.kept fun b o eo=>hk b o (fun hmem=> ?_) (Heap.get?_push_of_some _ eo),?_,q⟩
 ·rcases List.mem_cons.mp hmem with e1 |hmem
  ·exact absurd (e1▸Heap.lt_size eo) (Nat.lt_irrefl _)
  ·cases hmem
 ·show Value.bool _=Value.bool _
  rw[←any_range,hb,List.size_toArray,lMp]
theorem Ms(hc:X.calm=true):jZ X (.builtin "all") (Og X.K):=by
 intro pins s σ H vs us Q I r h
 obtain⟨a,bs,rfl,hs,q⟩:=h
 obtain⟨its,rv,hl,_⟩:=I.list hs
 rw[Vals.Mp r]
 have hb:=rv.Pl
 refine call_all_walk (Cp hl.isList fun s₂ e2 st hne=> ?_)
 subst e2
 refine⟨_,_,_,_,_,_,_,rfl,Walks.list (A:=X.A.in1) (I.ok.hd hc) _ a hne its.toArray,st,vi hb,fun h' tk hk=> ?_⟩
 refine⟨.bl _,H,I.kept fun b o eo=>hk b o (fun hmem=> ?_) (Heap.get?_push_of_some _ eo),?_,q⟩
 ·rcases List.mem_cons.mp hmem with e1 |hmem
  ·exact absurd (e1▸Heap.lt_size eo) (Nat.lt_irrefl _)
  ·cases hmem
 ·show Value.bool _=Value.bool _
  rw[←all_range,hb,List.size_toArray,lMp]
end
abbrev IA(h:Heap)(c:Addr)(v:Option Value):Prop:=h.IsCell c v
def Po(scope sc:Scope):Scope:=
 {scope with names:=scope.names.map fun(n,k)=>if(k== .free&&sc.kind== .function&&sc.names.lookup n==some .cell) then(n,.cell) else(n,k)}
def cx(cells:List (Str×Addr)):List (Str×NameKind)→List (Str×Addr)→List (Str×Addr)
 |[],acc=>acc
 |(n,k)::r,acc=>if k== .free then cx cells r ((n,(cells.lookup n).getD 0)::acc) else cx cells r acc
theorem rL(env:Env)(f:Str×NameKind→List (Str×Addr)→Sem (ForInStep (List (Str×Addr))))
  (hf:∀n k c,f (n,k) c=if k== .free then(do let a←cellOf env n;pure (.yield ((n,a)::c))) else pure (.yield c)):
  ∀(names:List (Str×NameKind)) (acc:List (Str×Addr)),(∀y∈names,y.2= .free→∃c,env.cells.lookup y.1=some c)→forIn names acc f=pure (cx env.cells names acc)
 |[],acc,_=>by rw[List.forIn_nil];rfl
 |(n,k)::r,acc,h=>by
  rw[List.forIn_cons,hf]
  have ih:=fun acc=>rL env f hf r acc fun y hy=>h y (List.mem_cons_of_mem _ hy)
  unfold cx
  by_cases hk:(k==NameKind.free)=true
  ·rw[if_pos hk,if_pos hk]
   obtain⟨c,hc⟩:=h (n,k) List.mem_cons_self (by simpa using hk)
   have e:cellOf env n=pure c:=by unfold cellOf;rw[hc]
   rw[e]
   have e2:(env.cells.lookup n).getD 0=c:=by rw[hc];rfl
   rw[e2]
   exact ih _
  ·rw[if_neg hk,if_neg hk]
   exact ih _
theorem Eb{scope:Scope}{env:Env}(h:∀y∈scope.names,y.2= .free→∃c,env.cells.lookup y.1=some c):closureFor scope env=pure (cx env.cells scope.names []):=by
 simp only[closureFor]
 rw[rL env _ (fun n k c=>rfl) scope.names [] h]
 rfl
theorem mem_lookup{α:Type}:∀{l:List (Str×α)} {n:Str} {c:α},(n,c)∈l→∃c',l.lookup n=some c'
 |(k,v)::r,n,c,h=>by
  rw[List.lookup_cons]
  cases hb:n==k with
  |true=>exact⟨_,rfl⟩
  |false=>
   rcases List.mem_cons.mp h with e |h
   ·cases e;simp at hb
   ·exact mem_lookup h
theorem j4{cells:List (Str×Addr)}:∀{names:List (Str×NameKind)} {acc:List (Str×Addr)} {n:Str} {c:Addr},(n,c)∈cx cells names acc→(n,c)∈acc∨((n,.free)∈names∧c=(cells.lookup n).getD 0)
 |[],_,_,_,h=> .inl h
 |(m,k)::r,acc,n,c,h=>by
  unfold cx at h
  split at h
  ·rename_i hk
   have hk:k= .free:=by simpa using hk
   rcases j4 h with h |⟨h1,h2⟩
   ·rcases List.mem_cons.mp h with e |h
    ·cases e;exact .inr ⟨hk▸List.mem_cons_self,rfl⟩
    ·exact .inl h
   ·exact .inr ⟨List.mem_cons_of_mem _ h1,h2⟩
  ·rcases j4 h with h |⟨h1,h2⟩
   ·exact .inl h
   ·exact .inr ⟨List.mem_cons_of_mem _ h1,h2⟩
theorem nY{cells:List (Str×Addr)}:∀{names:List (Str×NameKind)} {acc:List (Str×Addr)} {p:Str×Addr},p∈acc→p∈cx cells names acc
 |[],_,_,h=>h
 |(m,k)::r,acc,p,h=>by
  unfold cx
  split
  ·exact nY (List.mem_cons_of_mem _ h)
  ·exact nY h
theorem nZ{cells:List (Str×Addr)}:∀{names:List (Str×NameKind)} {acc:List (Str×Addr)} {n:Str},(n,.free)∈names→(n,(cells.lookup n).getD 0)∈cx cells names acc
 |(m,k)::r,acc,n,h=>by
  unfold cx
  rcases List.mem_cons.mp h with e |h
  ·cases e
   exact nY List.mem_cons_self
  ·split
   ·exact nZ h
   ·exact nZ h
theorem lK:∀{names:List (Str×NameKind)} {h:Heap} {acc:List (Str×Addr)} {x:Str} {c:Addr},(x,c)∈cellsFrom h.objs.size names acc→
  (x,c)∈acc∨((x,.cell)∈names∧h.objs.size≤c∧IA (pushCells h names) c none)
 |[],_,_,_,_,h=> .inl h
 |(n,k)::r,h,acc,x,c,hm=>by
  unfold cellsFrom at hm
  unfold pushCells
  split at hm
  ·rename_i hk
   rw[if_pos hk]
   have hk:k= .cell:=by simpa using hk
   rw[←Heap.size_push h {cls:= .type "cell",data:= .cell none}] at hm
   rcases lK hm with hm |⟨h1,h2,h3⟩
   ·rcases List.mem_cons.mp hm with e |hm
    ·cases e
     exact .inr ⟨hk▸List.mem_cons_self,Nat.le_refl _,_,pushCells_keeps r _ _ _ (Heap.get?_push_size _ rfl),rfl⟩
    ·exact .inl hm
   ·rw[Heap.size_push] at h2
    exact .inr ⟨List.mem_cons_of_mem _ h1,Nat.le_of_succ_le h2,h3⟩
  ·rename_i hk
   rw[if_neg hk]
   rcases lK hm with hm |⟨h1,h2,h3⟩
   ·exact .inl hm
   ·exact .inr ⟨List.mem_cons_of_mem _ h1,h2,h3⟩
theorem ph:∀{names:List (Str×NameKind)} {n:Nat} {acc:List (Str×Addr)} {p:Str×Addr},p∈acc→p∈cellsFrom n names acc
 |[],_,_,_,h=>h
 |(m,k)::r,n,acc,p,h=>by
  unfold cellsFrom
  split
  ·exact ph (List.mem_cons_of_mem _ h)
  ·exact ph h
theorem tN:∀{names:List (Str×NameKind)} {n:Nat} {acc:List (Str×Addr)} {x:Str},(x,.cell)∈names→∃c,(x,c)∈cellsFrom n names acc
 |(m,k)::r,n,acc,x,h=>by
  unfold cellsFrom
  rcases List.mem_cons.mp h with e |h
  ·cases e
   exact⟨n,ph List.mem_cons_self⟩
  ·split
   ·exact tN h
   ·exact tN h
theorem tO:∀{names:List (Str×NameKind)} {h:Heap} {acc:List (Str×Addr)} {x y:Str} {c:Addr},(∀p∈acc,p.2<h.objs.size)→(∀x y c,(x,c)∈acc→(y,c)∈acc→x=y)→
  (x,c)∈cellsFrom h.objs.size names acc→(y,c)∈cellsFrom h.objs.size names acc→x=y
 |[],_,_,_,_,_,_,hi,h1,h2=>hi _ _ _ h1 h2
 |(n,k)::r,h,acc,x,y,c,hl,hi,h1,h2=>by
  unfold cellsFrom at h1 h2
  split at h1
  ·rename_i hk
   rw[if_pos hk] at h2
   rw[←Heap.size_push h {cls:= .type "cell",data:= .cell none}] at h1 h2
   refine tO (h:=h.push _) (fun p hp=> ?_) (fun x y c a b=> ?_) h1 h2
   ·rw[Heap.size_push]
    rcases List.mem_cons.mp hp with rfl |hp
    ·exact Nat.lt_succ_self _
    ·exact Nat.lt_succ_of_lt (hl p hp)
   ·rcases List.mem_cons.mp a with e |a <;>rcases List.mem_cons.mp b with e' |b
    ·cases e;cases e';rfl
    ·cases e;exact absurd (hl _ b) (Nat.lt_irrefl _)
    ·cases e';exact absurd (hl _ a) (Nat.lt_irrefl _)
    ·exact hi _ _ _ a b
  ·rename_i hk
   rw[if_neg hk] at h2
   exact tO hl hi h1 h2
theorem Cq{M:Model}{A:Around}{E:Value→Shared→Prop}{s:Shared}{scope:Scope}{globals:Addr}{closure:List (Str×Addr)}{qual:Str}{func:Option Addr}{code:Value}{around:Env}{builtins:Addr}{Q:Env→Shared→Prop}
  (h:Q (newEnv scope s.heap.objs.size globals (cellsFrom (s.heap.objs.size+1) scope.names closure) qual func code (some around) builtins)
   {s with heap:=pushCells (s.heap.push {cls:= .type "dict",data:= .dict #[]}) scope.names}):
  wpAny M A (newFunctionEnv scope globals closure [] qual func code (some around) builtins) Q E s:=by
 simp only[newFunctionEnv,Option.isSome_some,if_true]
 refine wpAny_bind (wpAny_alloc ?_)
 refine wpAny_bind (wpAny_layCells _ (fun n k c=>rfl) scope.names closure _ _ ?_)
 rw[show({s with heap:=s.heap.push {cls:= .type "dict",data:= .dict #[]}}:Shared).heap.objs.size=s.heap.objs.size+1 from Heap.size_push ..]
 rw[List.forIn_nil]
 exact wpAny_bind (wpAny_pure (wpAny_pure h))
theorem n8{sc:Scope}:∀{names:List (Str×NameKind)} {x:Str} {k:NameKind},
  (names.map fun(n,k)=>if(k==NameKind.free&&sc.kind== .function&&sc.names.lookup n==some .cell) then(n,NameKind.cell) else(n,k)).lookup x=some k→
  ∃k',names.lookup x=some k'∧(k=k'∨(k'= .free∧k= .cell))
 |[],_,_,h=>by simp at h
 |(n,k₀)::r,x,k,h=>by
  have ih:= @n8 sc r x k
  have h':List.lookup x ((if(k₀==NameKind.free&&sc.kind== .function&&sc.names.lookup n==some .cell)=true then(n,NameKind.cell) else(n,k₀))::(r.map _))=some k:=h
  cases hx:x==n with
  |true=>
   simp only[List.lookup_cons,hx]
   by_cases hc:(k₀==NameKind.free&&sc.kind== .function&&sc.names.lookup n==some .cell)=true
   ·rw[if_pos hc] at h'
    simp only[List.lookup_cons,hx] at h'
    cases h'
    simp only[Bool.and_eq_true,beq_iff_eq] at hc
    exact⟨k₀,rfl,.inr ⟨hc.1.1,rfl⟩⟩
   ·rw[if_neg hc] at h'
    simp only[List.lookup_cons,hx] at h'
    cases h'
    exact⟨_,rfl,.inl rfl⟩
  |false=>
   simp only[List.lookup_cons,hx]
   by_cases hc:(k₀==NameKind.free&&sc.kind== .function&&sc.names.lookup n==some .cell)=true
   ·rw[if_pos hc] at h'
    simp only[List.lookup_cons,hx] at h'
    exact ih h'
   ·rw[if_neg hc] at h'
    simp only[List.lookup_cons,hx] at h'
    exact ih h'
structure Cr(N:List Str)(sc scope:Scope)(own:List (Str×Nat)):Prop where
 kind:scope.kind= .function
 uniq:∀y∈scope.names,scope.names.lookup y.1=some y.2
 ix:∀p∈own,N[p.2]? =some p.1
 free:∀y∈scope.names,y.2= .free→sc.names.lookup y.1=some .cell∨sc.names.lookup y.1=some .free
 own:∀y∈scope.names,y.2= .local∨y.2= .cell→y.1∈own.map (·.1)∨y.1∉N
def wipe(σ:St):List Nat→St
 |[]=>σ
 |v::vs=>(wipe σ vs).set v none
theorem n9(σ:St):∀vs:List Nat,(wipe σ vs).length=σ.length
 |[]=>rfl
 |v::vs=>by unfold wipe;rw[List.length_set,n9 σ vs]
theorem tP{σ:St}{i:Nat}{x:V}:∀{vs:List Nat},(wipe σ vs)[i]? =some (some x)→σ[i]? =some (some x)∧i∉vs
 |[],h=>⟨h,by simp⟩
 |v::vs,h=>by
  unfold wipe at h
  by_cases hi:v=i
  ·subst hi
   by_cases hv:v<(wipe σ vs).length
   ·rw[List.getElem?_set_self hv] at h;cases h
   ·rw[List.getElem?_eq_none (by simpa using hv)] at h;cases h
  ·rw[List.getElem?_set_ne hi] at h
   obtain⟨h1,h2⟩:=tP h
   exact⟨h1,by simp only[List.mem_cons,not_or];exact⟨fun e=>hi e.symm,h2⟩⟩
abbrev Cx.AV(X:Cx)(s:Shared)(H:Hp)(scope:Scope)(cenv:Env)(fp:List Addr):Cx:={X with zA:=s,Nr:=H,env:=cenv,outer:=X.stack,ex:=fp,fn:=fun x=>scope.names.lookup x==some .cell,pn:=[],xe:=fun _ _=>False}
section
variable {X:Cx}{pins:List (Addr×Obj)}{σ:St}{H:Hp}{s:Shared}
theorem Ct{scope:Scope}{own:List (Str×Nat)}{fp:List Addr}(I:Inv X pins σ H s)(ok:Cr X.N X.env.scope scope own)(hN:X.N.Nodup)(hfp:∀b∈fp,vM X pins H b∧b<s.heap.objs.size):
  Inv (X.AV s H scope (compEnvC scope (cellsFrom (s.heap.objs.size+1) scope.names (cx X.env.cells scope.names [])) s.heap.objs.size X.env) fp) [] (wipe σ (own.map (·.2))) H {s with heap:=pushCells (s.heap.push {cls:= .type "dict",data:= .dict #[]}) scope.names}:=by
 have hfree:∀y∈scope.names,y.2= .free→∃c,X.env.cells.lookup y.1=some c:=fun y hy e=>by
  rcases ok.free y hy e with k |k
  ·exact I.ok.has _ (.inl k)
  ·exact I.ok.has _ (.inr k)
 generalize hcenv:compEnvC scope (cellsFrom (s.heap.objs.size+1) scope.names (cx X.env.cells scope.names [])) s.heap.objs.size X.env=cenv
 have kp:∀b o,s.heap.get? b=some o→(pushCells (s.heap.push {cls:= .type "dict",data:= .dict #[]}) scope.names).get? b=some o:=fun b o e=>pushCells_keeps _ _ _ _ (Heap.get?_push_of_some _ e)
 have hL:cenv.locals=s.heap.objs.size:=by rw[←hcenv];rfl
 have hcl:cenv.cells=cellsFrom (s.heap.objs.size+1) scope.names (cx X.env.cells scope.names []):=by rw[←hcenv];rfl
 have hsc:cenv.scope=Po scope X.env.scope:=by rw[←hcenv];rfl
 rw[←Heap.size_push s.heap {cls:= .type "dict",data:= .dict #[]}] at hcl
 have cm:∀{y c},(y,c)∈cx X.env.cells scope.names []→X.env.cells.lookup y=some c∧c<s.heap.objs.size:=fun{y c} hm=>by
  rcases j4 hm with hm |⟨h1,rfl⟩
  ·cases hm
  ·obtain⟨c,hc⟩:=hfree _ h1 rfl
   rw[hc]
   obtain⟨w,z⟩:=I.cell _ _ hc
   exact⟨rfl,z.lt⟩
 have mem:∀{y c},cenv.cells.lookup y=some c→(X.env.cells.lookup y=some c∧c<s.heap.objs.size)∨(s.heap.objs.size+1≤c∧IA (pushCells (s.heap.push {cls:= .type "dict",data:= .dict #[]}) scope.names) c none):=fun{y c} e=>by
  rw[hcl] at e
  rcases lK (PySem.mem_of_lookup e) with hm |⟨_,h2,h3⟩
  ·exact .inl (cm hm)
  ·rw[Heap.size_push] at h2;exact .inr ⟨h2,h3⟩
 have look:∀{y},scope.names.lookup y=some .free→∃c,cenv.cells.lookup y=some c∧X.env.cells.lookup y=some c:=fun{y} hl=>by
  have hy:(y,NameKind.free)∈scope.names:=PySem.mem_of_lookup hl
  obtain⟨c',e'⟩:=mem_lookup (ph (names:=scope.names) (n:=(s.heap.push {cls:= .type "dict",data:= .dict #[]}).objs.size) (nZ (cells:=X.env.cells) (acc:=[]) hy))
  rw[←hcl] at e'
  refine⟨c',e',?_⟩
  rw[hcl] at e'
  rcases lK (PySem.mem_of_lookup e') with hm |⟨h1,_,_⟩
  ·exact(cm hm).1
  ·have:=ok.uniq _ h1
   rw[hl] at this;cases this
 have okB:(X.AV s H scope cenv fp).Ok:=by
  refine⟨I.ok.mod,by show cenv.scope.kind=_;rw[hsc];exact ok.kind,by show cenv.globals=_;rw[←hcenv];exact I.ok.glob,by show cenv.builtins=_;rw[←hcenv];exact I.ok.blt,by show s.heap.objs.size≤cenv.locals;rw[hL];exact Nat.le_refl _,
   fun y z c e1 e2=> ?_,fun y hy=> ?_,fun y c z e=> ?_,I.ok.hd,I.ok.frames,.inl rfl,fun b hb=>⟨?_,fun y c e z=> ?_⟩,I.bs,Nat.le_trans I.ok.Kh I.sz,fun b o e hb=> ?_,fun b hb z=> ?_,I.stack,I.Fw⟩
  ·have e1:cenv.cells.lookup y=some c:=e1
   have e2:cenv.cells.lookup z=some c:=e2
   rw[hcl] at e1 e2
   refine tO (fun p hp=> ?_) (fun y z c a b=>I.ok.inj y z c (cm a).1 (cm b).1) (PySem.mem_of_lookup e1) (PySem.mem_of_lookup e2)
   rw[Heap.size_push]
   exact Nat.lt_succ_of_lt (cm (y:=p.1) (c:=p.2) hp).2
  ·show ∃c,cenv.cells.lookup y=some c
   have key:∀k,cenv.kindOf y=some k→(k= .cell∨k= .free)→∃c,cenv.cells.lookup y=some c:=fun k hk hk'=>by
    unfold Env.kindOf at hk
    rw[hsc] at hk
    obtain⟨k',e,r⟩:=n8 hk
    have:k'= .cell∨k'= .free:=by
     rcases r with rfl |⟨rfl,_⟩
     ·exact hk'
     ·exact .inr rfl
    rcases this with rfl |rfl
    ·obtain⟨c,hm⟩:=tN (n:=(s.heap.push {cls:= .type "dict",data:= .dict #[]}).objs.size) (acc:=cx X.env.cells scope.names []) (PySem.mem_of_lookup e)
     obtain⟨c',e'⟩:=mem_lookup hm
     exact⟨c',by rw[hcl];exact e'⟩
    ·obtain⟨c,h1,_⟩:=look e
     exact⟨c,h1⟩
   rcases hy with hy |hy
   ·exact key _ hy (.inl rfl)
   ·exact key _ hy (.inr rfl)
  ·have z:(scope.names.lookup y==some NameKind.cell)=true:=z
   have z:scope.names.lookup y=some .cell:=by simpa using z
   have e:cenv.cells.lookup y=some c:=e
   rw[hcl] at e
   rcases lK (PySem.mem_of_lookup e) with hm |⟨_,h2,_⟩
   ·rcases j4 hm with hm |⟨h1,_⟩
    ·cases hm
    ·have q:=ok.uniq _ h1
     rw[z] at q;cases q
   ·rw[Heap.size_push] at h2
    exact Nat.le_of_succ_le h2
  ·show b≠cenv.locals
   rw[hL];exact Nat.ne_of_lt (hfp b hb).2
  ·have e:cenv.cells.lookup y=some c:=e
   rcases mem e with⟨h1,_⟩ |⟨h1,_⟩
   ·exact(hfp b hb).1.2.2.2.2.1 y c h1 z
   ·have h2:s.heap.objs.size+1≤b:=by rw[←z];exact h1
    exact absurd (Nat.lt_of_lt_of_le (hfp b hb).2 (Nat.le_of_succ_le h2)) (Nat.lt_irrefl _)
  ·rcases(hfp b hb).1.2.2.2.1 with z |z
   ·exact I.ok.Ie b o e z
   ·exact absurd (Nat.lt_of_lt_of_le (Heap.lt_size e) (Nat.le_trans I.ok.Kh z)) (Nat.lt_irrefl _)
  ·rcases List.mem_cons.mp (I.DR b z) with z |z
   ·exact(hfp b hb).1.2.1 z
   ·exact(hfp b hb).1.2.2.1 z
 refine⟨okB,rfl,I.bare,Un.kept kp,⟨fun _=>none,?_,fun i y av e1 e2 e3=> ?_⟩,fun y c e=> ?_,?_,fun y c e=> ?_,fun p hp=> ?_,I.dB.kept kp,by rw[n9];exact I.len⟩
 ·show Heap.Ns _ cenv.locals _
  rw[hL]
  exact Heap.Ns.keeps (Heap.Ns.new ..) fun b o e=>pushCells_keeps _ _ _ _ e
 ·obtain⟨e2,hne⟩:=tP e2
  have hfr:scope.names.lookup y=some .free∧(cenv.kindOf y=some .cell∨cenv.kindOf y=some .free):=by
   have key:∀k,cenv.scope.names.lookup y=some k→k= .local∨k= .cell∨k= .free→scope.names.lookup y=some .free∧(cenv.kindOf y=some .cell∨cenv.kindOf y=some .free):=fun k hk hk'=>by
    have hk0:=hk
    rw[hsc] at hk
    obtain⟨k',e,r⟩:=n8 hk
    have no:¬(k'= .local∨k'= .cell):=fun hh=>by
     rcases ok.own _ (PySem.mem_of_lookup e) hh with e' |e'
     ·obtain⟨p,hp,hpy⟩:=List.mem_map.mp e'
      have e3:=ok.ix p hp
      have:p.1=y:=hpy
      rw[this] at e3
      exact hne (List.mem_map.mpr ⟨p,hp,wy hN e3 e1⟩)
     ·exact e' (List.mem_of_getElem? e1)
    rcases r with rfl |⟨rfl,rfl⟩
    ·rcases hk' with rfl |rfl |rfl
     ·exact absurd (.inl rfl) no
     ·exact absurd (.inr rfl) no
     ·exact⟨e,.inr hk0⟩
    ·exact⟨e,.inl hk0⟩
   have e3:Nd cenv.scope y:=e3
   rcases e3 with e3 |e3 |e3
   ·exact key _ e3 (.inl rfl)
   ·exact key _ e3 (.inr (.inl rfl))
   ·exact key _ e3 (.inr (.inr rfl))
  obtain⟨m,hn,hl⟩:=I.loc
  have hvis:Nd X.env.scope y:=(ok.free _ (PySem.mem_of_lookup hfr.1) rfl).elim (fun k=> .inr (.inl k)) (fun k=> .inr (.inr k))
  obtain⟨w,r,q⟩:=hl i y av e1 e2 hvis
  refine⟨w,r,.inr ⟨hfr.2,?_⟩⟩
  obtain⟨c,h1,h2⟩:=look hfr.1
  rcases q with⟨k,_⟩ |⟨_,c',e',z⟩
  ·have k:X.env.scope.names.lookup y=some .local:=k
   rcases ok.free _ (PySem.mem_of_lookup hfr.1) rfl with k' |k' <;>rw[show X.env.scope.names.lookup y=_ from k'] at k <;>cases k
  ·rw[h2] at e';cases e'
   exact⟨c,h1,z.keeps kp⟩
 ·have e:cenv.cells.lookup y=some c:=e
  rcases mem e with⟨h1,_⟩ |⟨_,z⟩
  ·obtain⟨w,z⟩:=I.cell y c h1
   exact⟨w,z.keeps kp⟩
  ·exact⟨_,z⟩
 ·show H cenv.locals=none
  rw[hL];exact I.dB.fresh (Nat.le_refl _)
 ·have e:cenv.cells.lookup y=some c:=e
  rcases mem e with⟨h1,_⟩ |⟨h1,_⟩
  ·exact I.nP y c h1
  ·exact I.dB.fresh (Nat.le_of_succ_le h1)
 ·exact absurd (show p∈([]:List (Addr×Obj)) ++ [] from hp) (by simp)
theorem Mt{E:Value→Shared→Prop}{D:Addr}{xs:List V}{y:V}{v:Value}{Q:Value→Shared→Prop}(I:Inv X pins σ H s)(hD:H D=some (.lst xs))(hz:xs.length<sizeLine)(r:RelV y v)
  (h:∀s',Inv X pins σ (upd H D (.lst (xs ++ [y]))) s'→Q .none s'):wpAny (model X.prog X.w) X.A (call (.builtin "list.append") [.ref D,v]) Q E s:=by
 obtain⟨hz',its,n,ri,e⟩:=I.dB D _ hD
 have hl:=ri.length
 refine append_at (hsz:=by rw[List.size_toArray];lia) e fun h' sb ho'=> ?_
 refine h {s with heap:=h'} (I.write (t':=s.toks) (by rw[hD];trivial) (.inl rfl) (fun b u hb q=>(sb.2 b hb).trans q) ⟨_,ho'⟩ ⟨by rw[List.length_append];exact hz,its ++ [v],n+1,ri.append (.cons r .nil),?_⟩)
 rw[ho']
 simp
def Oh(X:Cx)(ifs:List Expr)(t:TT):Prop:=
 ∀(pins:List (Addr×Obj)) (s:Shared) (σ:St) (H:Hp) (Q:Bool→Hp→Prop),Inv X pins σ H s→t σ H Q→
  wpAny (model X.prog X.w) X.A (forIn ifs true fun c r=>if r=true then do let ok←isTrue c X.env (eval c X.env);pure (ForInStep.yield ok) else pure (ForInStep.yield r)) (TP X pins σ Q) X.xe s
def Pp:TT:=fun _ H Q=>Q true H
theorem dC:Oh X [] Pp:=fun _ _ _ H _ I h=>wpAny_tests_nil ⟨H,I,h⟩
theorem FL{c:Expr}{t:TT}(h:PT X c t):Oh X [c] t:=fun pins s σ H Q I hw=>wpAny_tests_one (h pins s σ H Q I hw)
end
theorem G2{α:Type}{t:Sem α}{Q Q':α→Shared→Prop}{M:Model}{A:Around}{E:Value→Shared→Prop}{s:Shared}(h:wpAny M A t Q (fun _ _=>False) s)(hQ:∀a s,Q a s→Q' a s):wpAny M A t Q' E s:=wpAny_mono h hQ fun _ _ z=>False.elim z
theorem AW{prog:Program}{w:World}{A:Around}{R:Result→Shared→Prop}{s:Shared}{elt target iter:Expr}{ifs:List Expr}{scope:Scope}{pos:Pos}{it acc:Value}{env:Env}(I:Nat→Shared→Prop)
  (turn:∀n s,I n s→wpAny (model prog w) A (pyNext it) (fun r s₁=>match r with
   |none=>R (.ok .next) s₁
   |some v=>wpAny (model prog w) A (letOwnedTupleGo target it v) (fun _ s₁'=>wpAny (model prog w) A (assign target env v) (fun _ s₂=>
     wpAny (model prog w) A (forIn ifs true fun c r=>if r=true then do let ok←isTrue c env (eval c env);pure (ForInStep.yield ok) else pure (ForInStep.yield r)) (fun ok s₃=>
      if ok=true then wpAny (model prog w) A (eval elt env) (fun x s₄=>
       wpAny (model prog w) A (call (.builtin "list.append") [acc,x]) (fun _ s₅=>∃m,m<n∧I m s₅) (notedBy (model prog w) A env fun e s'=>R (.error e) s') s₄) (notedBy (model prog w) A env fun e s'=>R (.error e) s') s₃
      else ∃m,m<n∧I m s₃) (notedBy (model prog w) A env fun e s'=>R (.error e) s') s₂) (notedBy (model prog w) A env fun e s'=>R (.error e) s') s₁') (notedBy (model prog w) A env fun e s'=>R (.error e) s') s₁) (notedBy (model prog w) A env fun e s'=>R (.error e) s') s)
  (n:Nat) (h:I n s):
  codeAny (model prog w) A (.compLoop (.ListComp elt [⟨target,iter,ifs,0⟩] scope pos) 0 it acc env) R s:=by
 refine codeAny_loop rfl I (fun n s hI=> ?_) n h
 show wpAny _ A ((compTurn (.ListComp elt [⟨target,iter,ifs,0⟩] scope pos) 0 it acc env).onRaise (fun x=>do noteFrame x env;theTreesLotGoes x)) _ _ s
 refine wpAny_noted ?_
 rw[compTurn_list]
 refine wpAny_bind (wpAny_standAt (wpAny_bind (wpAny_mono (turn n s hI) (fun r s₁ h₁=> ?_) fun _ _ h'=>h')))
 cases r with
 |none=>exact wpAny_pure h₁
 |some v=>
  refine wpAny_bind (wpAny_mono h₁ (fun _ s₁' h₁'=> ?_) fun _ _ h'=>h')
  refine wpAny_bind (wpAny_mono h₁' (fun _ s₂ h₂=>wpAny_bind (wpAny_mono h₂ (fun ok s₃ h₃=> ?_) fun _ _ h'=>h')) fun _ _ h'=>h')
  cases ok with
  |false=>exact wpAny_pure ⟨rfl,h₃⟩
  |true=>
   exact wpAny_bind (wpAny_bind (wpAny_mono h₃ (fun x s₄ h₄=>wpAny_bind (wpAny_mono h₄ (fun _ s₅ h₅=>wpAny_pure (wpAny_pure ⟨rfl,h₅⟩)) fun _ _ h'=>h')) fun _ _ h'=>h'))
section
variable {X:Cx}
def OW(wi:TI)(g:TG)(tt:TT)(te:TE)(vs:List Nat):TE:=fun σ H Q=>wi σ H fun J H1=>∀D,H1 D=none→∃W:Nat→Nat→Hp→Prop,(∃m,W 0 m (upd H1 D (.lst [])))∧∀i m H,W i m H→
 (J.stop i H∧Q (.ref D) H)∨(J.go i H∧∃Nx:Hp→Prop,(∀H',Nx H'→∃m',m' <m∧W (i+1) m' H')∧∀x H',J.Ng i H x H'→g x (wipe σ vs) H' fun σ2 H2=>wipe σ2 vs=wipe σ vs∧tt σ2 H2 fun b H3=>
  if b=true then te σ2 H3 fun y H4=>∃acc,H4 D=some (.lst acc)∧acc.length<sizeLine∧Nx (upd H4 D (.lst (acc ++ [y]))) else Nx H3)
theorem FN{pins:List (Addr×Obj)}{s:Shared}{σ:St}{H:Hp}{Q:VK}{elt tg iter:Expr}{ifs:List Expr}{scope:Scope}{own:List (Str×Nat)}{pos pos':Pos}{wi:TI}{g:TG}{tt:TT}{te:TE}{use:Option (Value→Sem Unit)}{Qf:Value→Shared→Prop}
  (hc:X.calm=true) (hN:X.N.Nodup) (I:Inv X pins σ H s) (hi:PI X tg iter wi) (ok:Cr X.N X.env.scope scope own)
  (hg:∀(s:Shared) (H:Hp) (C:Addr) (cl:List (Str×Addr)) (fp:List Addr),PG (X.AV s H scope (compEnvC scope cl C X.env) fp) tg g) (ht:∀(s:Shared) (H:Hp) (C:Addr) (cl:List (Str×Addr)) (fp:List Addr),Oh (X.AV s H scope (compEnvC scope cl C X.env) fp) ifs tt)
  (he:∀(s:Shared) (H:Hp) (C:Addr) (cl:List (Str×Addr)) (fp:List Addr),PE (X.AV s H scope (compEnvC scope cl C X.env) fp) elt te) (hs:∀x,foldedSetIterable iter X.env x=pure x)
  (h:OW wi g tt te (own.map (·.2)) σ H Q)
  (hRR:∀D C s' m H',Inv X pins σ H' s'→Q (.ref D) H'→s'.heap.Ns C m→vM X pins H' C→compPost (model X.prog X.w) X.A X.xe use Qf (.ref D) C (.ok .next) s'):
  wpAny (model X.prog X.w) X.A (comprehension (.ListComp elt [⟨tg,iter,ifs,0⟩] scope pos) scope X.env pos' (newList []) false (eval iter X.env) use) Qf X.xe s:=by
 have hfree:∀y∈scope.names,y.2= .free→∃c,X.env.cells.lookup y.1=some c:=fun y hy e=>by
  rcases ok.free y hy e with k |k
  ·exact I.ok.has _ (.inl k)
  ·exact I.ok.has _ (.inr k)
 refine wpAny_comprehension_free (use:=use) rfl hs (Eb hfree) ok.kind (fun y hy e=>by rw[ok.uniq y hy,e])
  (dy (hi pins s σ H _ I h) fun xv s1 hx=>dy hx fun itv s2 h2=> ?_)
 obtain⟨it,fp,tn,J,H2,e,I2,T,st2,f2,q⟩:=h2
 subst e
 refine wpAny_newObj_type (Cq ?_) (by show 0≤sizeLine;decide)
 generalize hD:s2.heap.objs.size=D
 have hDn:H2 D=none:=I2.dB.fresh (Nat.le_of_eq hD)
 obtain⟨W,⟨m0,w0⟩,turn⟩:=q D hDn
 generalize hs3:({s2 with heap:=s2.heap.push {cls:= .type "list",data:= .seq ([]:List Value).toArray}}:Shared)=s3
 have I3:Inv X pins σ (upd H2 D (.lst [])) s3:=by
  rw[←hs3]
  refine I2.laid (t':=s2.toks) (fun b o e=>Heap.get?_push_of_some _ e) (Nat.le_of_eq hD) ⟨Nat.zero_le _,[],0,.nil,?_⟩
  rw[←hD]
  exact Heap.get?_push_size _ rfl
 have h3:s3.heap=s2.heap.push {cls:= .type "list",data:= .seq ([]:List Value).toArray}:=by rw[←hs3]
 have sz:∀b∈fp,b<s2.heap.objs.size:=fun b hb=>by
  obtain⟨o,e,_⟩:=T.obj _ _ st2 b hb
  exact Heap.lt_size e
 have f3:∀b∈fp,vM X pins (upd H2 D (.lst [])) b∧b<s3.heap.objs.size:=fun b hb=>by
  have hlt:=sz b hb
  refine⟨⟨?_,(f2 b hb).2⟩,by rw[h3,Heap.size_push];exact Nat.lt_succ_of_lt hlt⟩
  rw[aR (by rw[←hD];exact Nat.ne_of_lt hlt)]
  exact(f2 b hb).1
 have st3:tn 0 s3.heap:=T.keep _ _ _ st2 fun b _ o e=>by rw[h3];exact Heap.get?_push_of_some _ e
 have I4:=Ct I3 ok hN f3
 have pg:=hg s3 (upd H2 D (.lst [])) s3.heap.objs.size (cellsFrom (s3.heap.objs.size+1) scope.names (cx X.env.cells scope.names [])) fp
 have pt:=ht s3 (upd H2 D (.lst [])) s3.heap.objs.size (cellsFrom (s3.heap.objs.size+1) scope.names (cx X.env.cells scope.names [])) fp
 have pe:=he s3 (upd H2 D (.lst [])) s3.heap.objs.size (cellsFrom (s3.heap.objs.size+1) scope.names (cx X.env.cells scope.names [])) fp
 show codeAny _ _ (.compStart (.ListComp elt [⟨tg,iter,ifs,0⟩] scope pos) 0 (.ref it) (.ref D) (compEnvC scope (cellsFrom (s3.heap.objs.size+1) scope.names (cx X.env.cells scope.names [])) s3.heap.objs.size X.env)) (compPost (model X.prog X.w) X.A X.xe use Qf (.ref D) s3.heap.objs.size) {s3 with heap:=pushCells (s3.heap.push {cls:= .type "dict",data:= .dict #[]}) scope.names}
 have nfp:∀b∈fp,(upd H2 D (.lst [])) b=none:=fun b hb=>(f3 b hb).1.1
 generalize hce:compEnvC scope (cellsFrom (s3.heap.objs.size+1) scope.names (cx X.env.cells scope.names [])) s3.heap.objs.size X.env=ce at I4 pg pt pe⊢
 have cL:ce.locals=s3.heap.objs.size:=by subst hce;rfl
 generalize hH3:upd H2 D (.lst [])=H3 at I3 I4 pg pt pe w0 nfp f3
 generalize hs4:({s3 with heap:=pushCells (s3.heap.push {cls:= .type "dict",data:= .dict #[]}) scope.names}:Shared)=s4 at I4⊢
 have st4:tn 0 s4.heap:=T.keep _ _ _ st3 fun b _ o e=>by rw[←hs4];exact pushCells_keeps _ _ _ _ (Heap.get?_push_of_some _ e)
 have stat:∀{σ':St} {H':Hp} {s':Shared},Inv (X.AV s3 H3 scope ce fp) [] σ' H' s'→(∀b∈fp,H' b=none)→∀b∈fp,vM (X.AV s3 H3 scope ce fp) [] H' b:=fun{σ' H' s'} I' hn b hb=>
  ⟨hn b hb,(I'.ok.OU b hb).1,I'.ok.Ig b hb,.inl hb,fun x c e=>(I'.ok.OU b hb).2 x c e,fun p hp=>absurd (show p∈([]:List (Addr×Obj)) ++ [] from hp) (by simp)⟩
 have loop:codeAny (model X.prog X.w) X.A (.compLoop (.ListComp elt [⟨tg,iter,ifs,0⟩] scope pos) 0 (.ref it) (.ref D) ce) (compPost (model X.prog X.w) X.A X.xe use Qf (.ref D) s3.heap.objs.size) s4:=by
  refine AW (fun n s'=>∃i H',Inv (X.AV s3 H3 scope ce fp) [] (wipe σ (own.map (·.2))) H' s'∧tn i s'.heap∧(∀b∈fp,H' b=none)∧W i n H') ?_ m0 ⟨0,H3,I4,st4,nfp,w0⟩
  rintro n s5 ⟨i,H5,I5,st5,n5,w5⟩
  rcases turn i n H5 w5 with⟨stop,qq⟩ |⟨go,Nx,hNx,step⟩
  ·have td:=T.done (X.AV s3 H3 scope ce fp) rfl rfl rfl hc i [] s5 _ H5 (fun _ _=>False) I5 (stat I5 n5) st5 stop
   refine G2 td fun r s6 ⟨hr,I6⟩=> ?_
   subst hr
   have I7:Inv X pins σ H5 s6:=I3.Nu (ch:=fp) I6.os I6.base I6.dB I6.bare fun b hb=>⟨(f3 b hb).1.2.2.2.1,(f3 b hb).1.2.1,(f3 b hb).1.2.2.2.2.1,(f3 b hb).1.2.2.2.2.2⟩
   have nC:H5 s3.heap.objs.size=none:=by
    have z:H5 ce.locals=none:=I6.free
    rw[cL] at z
    exact z
   obtain⟨m,hn,_⟩:=I6.loc
   have hn:s6.heap.Ns ce.locals m:=hn
   rw[cL] at hn
   exact hRR D s3.heap.objs.size s6 m H5 I7 qq hn (I3.GP (Nat.le_refl _) nC)
  ·have ti:=T.item (X.AV s3 H3 scope ce fp) rfl rfl rfl hc i [] s5 _ H5 (fun _ _=>False) I5 (stat I5 n5) st5 go
   refine G2 ti fun r s6 ⟨u,hr,h6⟩=> ?_
   subst hr
   refine G2 h6 fun _ s7 ⟨x,H7,I7,r7,y7,st7,n7⟩=> ?_
   have I7':=I7.pinned (stat I7 n7) (T.obj _ _ st7)
   refine G2 (pg _ s7 _ H7 x u _ I7' r7 (step x H7 y7)) fun _ s8 ⟨σ8,H8,I8,hw8,q8⟩=> ?_
   refine G2 (pt _ s8 σ8 H8 _ I8 q8) fun b s9 ⟨H9,I9,q9⟩=> ?_
   have fin:∀{s':Shared} {H':Hp},Inv (X.AV s3 H3 scope ce fp) ([] ++ wB fp s7.heap) σ8 H' s'→Nx H'→∃m,m<n∧∃i H',Inv (X.AV s3 H3 scope ce fp) [] (wipe σ (own.map (·.2))) H' s'∧tn i s'.heap∧(∀b∈fp,H' b=none)∧W i m H':=fun{s' H'} I' nx=>by
    obtain⟨m',hm,w'⟩:=hNx H' nx
    have pin':∀b∈fp,∀o,s7.heap.get? b=some o→s'.heap.get? b=some o∧H' b=none:=fun b hb o e=>
     let z:=I'.pin (b,o) (List.mem_append_right _ (List.mem_append_right _ (qt hb e)))
     ⟨z.1,z.2.1⟩
    have hl:(wipe σ (own.map (·.2))).length=σ8.length:=by rw[←hw8,n9]
    refine⟨m',hm,i+1,H',(I'.rG (pins:=[])).weak hl (fun j v e=> ?_),T.keep _ _ _ st7 fun b hb o e=>(pin' b hb o e).1,fun b hb=> ?_,w'⟩
    ·rw[←hw8] at e
     exact(tP e).1
    ·obtain⟨o,e,_⟩:=T.obj _ _ st7 b hb
     exact(pin' b hb o e).2
   cases b with
   |false=>
    simp only[Bool.false_eq_true,if_false] at q9⊢
    exact fin I9 q9
   |true=>
    simp only[if_true] at q9⊢
    refine G2 (pe _ s9 σ8 H9 _ I9 q9) fun z s10 ⟨yv,H10,I10,r10,acc,hD10,hz10,nx⟩=> ?_
    exact Mt (X:=X.AV s3 H3 scope ce fp) I10 hD10 hz10 r10 fun s11 I11=>fin I11 nx
 exact codeAny_compStart_list loop (T.self X.A 0 _ _ _ st4 loop)
theorem lL{elt tg iter:Expr}{ifs:List Expr}{scope:Scope}{own:List (Str×Nat)}{pos:Pos}{wi:TI}{g:TG}{tt:TT}{te:TE}(hc:X.calm=true)(hN:X.N.Nodup)(hi:PI X tg iter wi)(ok:Cr X.N X.env.scope scope own)
  (hg:∀(s:Shared) (H:Hp) (C:Addr) (cl:List (Str×Addr)) (fp:List Addr),PG (X.AV s H scope (compEnvC scope cl C X.env) fp) tg g) (ht:∀(s:Shared) (H:Hp) (C:Addr) (cl:List (Str×Addr)) (fp:List Addr),Oh (X.AV s H scope (compEnvC scope cl C X.env) fp) ifs tt)
  (he:∀(s:Shared) (H:Hp) (C:Addr) (cl:List (Str×Addr)) (fp:List Addr),PE (X.AV s H scope (compEnvC scope cl C X.env) fp) elt te) (hs:∀x,foldedSetIterable iter X.env x=pure x:=by intro _;rfl):
  PE X (.ListComp elt [⟨tg,iter,ifs,0⟩] scope pos) (OW wi g tt te (own.map (·.2))):=by
 intro pins s σ H Q I h
 rw[eval_ListComp]
 refine FN hc hN I hi ok hg ht he hs h fun D C s' m H' I' q hn f=>⟨m,hn,fun h'' sb=> ?_⟩
 obtain⟨f0,f1,f2,f3,f4,f5⟩:=f
 exact⟨.ref D,H',I'.turned (t':=s'.toks) (fun b o hb e=>(sb.2 b hb).trans e) f0 f1 f3 f4 f5,rfl,q⟩
theorem oa{i:Nat}{y:Str}{py:Pos}{elt tg iter:Expr}{ifs:List Expr}{scope:Scope}{own:List (Str×Nat)}{pos spos:Pos}{wi:TI}{g:TG}{tt:TT}{te:TE}(hc:X.calm=true)(hN:X.N.Nodup)(hy:X.N[i]? =some y)(hyl:X.env.scope.names.lookup y=some .local)
  (hsw:swapsWith (.ListComp elt [⟨tg,iter,ifs,0⟩] scope pos) (some (.Name y py)) spos.line X.env=pure true) (hi:PI X tg iter wi) (ok:Cr X.N X.env.scope scope own)
  (hg:∀(s:Shared) (H:Hp) (C:Addr) (cl:List (Str×Addr)) (fp:List Addr),PG (X.AV s H scope (compEnvC scope cl C X.env) fp) tg g) (ht:∀(s:Shared) (H:Hp) (C:Addr) (cl:List (Str×Addr)) (fp:List Addr),Oh (X.AV s H scope (compEnvC scope cl C X.env) fp) ifs tt)
  (he:∀(s:Shared) (H:Hp) (C:Addr) (cl:List (Str×Addr)) (fp:List Addr),PE (X.AV s H scope (compEnvC scope cl C X.env) fp) elt te) (hs:∀x,foldedSetIterable iter X.env x=pure x:=by intro _;rfl):
  PS X (.Assign [.Name y py] (.ListComp elt [⟨tg,iter,ifs,0⟩] scope pos) spos) (Ma (OW wi g tt te (own.map (·.2))) (Fz i)):=by
 intro pins s σ H D I h
 rw[exec_Assign_Name_used _ _ _ _ hsw]
 refine wpAny_bind (wpAny_standAt (wpAny_bind ?_))
 show wpAny _ X.A (do let _←comprehension (.ListComp elt [⟨tg,iter,ifs,0⟩] scope pos) scope X.env (firstIterPos [⟨tg,iter,ifs,0⟩] pos) (newList []) false (eval iter X.env) (some (assign (.Name y py) X.env))) _ _ s
 have h:OW wi g tt te (own.map (·.2)) σ H (fun x H1=>Fz i x σ H1 D.nx):=h
 refine wpAny_bind (dy (FN (Qf:=fun _ s'=>SP X pins D .next s') hc hN I hi ok hg ht he hs h fun L C s' m H' I' q hn f=> ?_) fun _ s' hq=>wpAny_pure (wpAny_pure hq))
 show wpAny _ _ (assign (.Name y py) X.env (.ref L)) _ _ _
 refine wpAny_assign_Name (zB (v:=V.ref L) I' hN hy (.inl hyl) rfl (fun s2 I2 ⟨a,sb,ha⟩=> ?_) (.inr hyl))
 obtain⟨f0,f1,f2,f3,f4,f5⟩:=f
 have haC:C≠a:=by
  rcases ha with z |z
  ·rw[z];exact f1
  ·exact fun e=>f4 y a z e.symm
 refine⟨m,hn.sameBut sb haC,fun h3 sb3=> ?_⟩
 exact⟨_,H',I2.turned (t':=s2.toks) (fun b o hb e=>(sb3.2 b hb).trans e) f0 f1 f3 f4 f5,q⟩
theorem rM{elt:Expr}{gs:List Comprehension}{scope:Scope}{pos py:Pos}{y:Str}{l:Nat}{env:Env}(hk:env.scope.kind= .function)(hy:env.scope.names.lookup y=some .local)(hl:(py.line==pos.line)=true)
  (ha:(scope.names.any fun(n,k)=>n==y&&(k== .local ||k== .cell))=false):swapsWith (.ListComp elt gs scope pos) (some (.Name y py)) l env=pure true:=by
 have ky:env.kindOf y=some .local:=hy
 have hb:env.blockKind= .function:=by unfold Env.blockKind;rw[hk];rfl
 unfold swapsWith
 simp only[hb,ky,ha,Expr.pos,hl]
 rfl
end
def lM(N:List Str)(sc scope:Scope)(own:List (Str×Nat)):Bool:=
 (match scope.kind with | .function=>true |_=>false)&&(scope.names.all fun y=>decide (scope.names.lookup y.1=some y.2))&&(own.all fun p=>decide (N[p.2]? =some p.1))&&
  (scope.names.all fun y=>match y.2 with
   | .free=>(match sc.names.lookup y.1 with |some .cell=>true |some .free=>true |_=>false)
   | .local=>decide (y.1∈own.map (·.1)) ||decide (y.1∉N)
   | .cell=>decide (y.1∈own.map (·.1)) ||decide (y.1∉N)
   |_=>true)
theorem cf{N:List Str}{sc scope:Scope}{own:List (Str×Nat)}(h:lM N sc scope own=true):Cr N sc scope own:=by
 unfold lM at h
 simp only[Bool.and_eq_true,List.all_eq_true,decide_eq_true_eq] at h
 obtain⟨⟨⟨h1,h2⟩,h3⟩,h4⟩:=h
 refine⟨?_,h2,h3,fun y hy e=> ?_,fun y hy e=> ?_⟩
 ·split at h1
  ·assumption
  ·cases h1
 ·have q:=h4 y hy
  simp only[e] at q
  split at q <;>first |exact .inl (by assumption) |exact .inr (by assumption) |cases q
 ·have q:=h4 y hy
  rcases e with e |e <;>(simp only[e,Bool.or_eq_true,decide_eq_true_eq] at q;exact q)
theorem wF:bootBuiltins "reversed"=some (.type "reversed"):=by decide +kernel
section
variable {X:Cx}{pins:List (Addr×Obj)}{σ:St}{H:Hp}{s:Shared}{h':Heap}
theorem Inv.Kx{t':Nat}{ch:List Addr}(I:Inv X pins σ H s)(k:∀b o,b∉ch→s.heap.get? b=some o→h'.get? b=some o)(hf:∀b∈ch,vM X pins H b):Inv X pins σ H {s with heap:=h',toks:=t'}:=by
 have nit:∀b u,H b=some u→b∉ch:=fun b u e z=>by
  have q:=(hf b z).1
  rw[q] at e;cases e
 refine I.step (g':=s.gens) (d':=s.drawn) (ch:=ch) (fun b hb=>⟨(hf b hb).2.2.2.1,(hf b hb).2.1,(hf b hb).2.2.2.2.1,(hf b hb).2.2.2.2.2⟩) (fun b o _ _ hc e _=>k b o hc e) (fun b o _ _ hc e _=>⟨o.slots,k b o hc e⟩)
  (fun _ _ _ _ n=>n) (fun b o hc e=>⟨o,k b o hc e⟩) (fun _ _ e=>e) (fun _ _ _ e=>e) (fun b ps e=>⟨#[],by rw[e];simp⟩) (fun m hm=> ?_) (fun b u e=> ?_) I.bare
 ·obtain⟨o,es,ep,ho,r⟩:=hm
  exact⟨o,es,ep,k _ o (fun z=>(hf _ z).2.1 rfl) ho,r⟩
 ·refine(I.dB b u e).DQ (fun c v hc q=>k c v ?_ q) (fun _ q=>q) fun _ _ q=>q
  rcases hc with z |z
  ·rw[z];exact nit b u e
  ·exact nit c _ z
theorem Inv.zJ{t':Nat}{ch:List Addr}{T:Addr}{ob:HO}(I:Inv X pins σ H s)(k:∀b o,b∉ch→s.heap.get? b=some o→h'.get? b=some o)(hf:∀b∈ch,vM X pins H b)(hT:s.heap.objs.size≤T)
  (new:gm X.prog X.w (upd H T ob) h' T ob):Inv X pins σ (upd H T ob) {s with heap:=h',toks:=t'}:=by
 have hn:H T=none:=I.dB.fresh hT
 have nit:∀b u,H b=some u→b∉ch:=fun b u e z=>by
  have q:=(hf b z).1
  rw[q] at e;cases e
 refine I.step (g':=s.gens) (d':=s.drawn) (ch:=ch) (fun b hb=>⟨(hf b hb).2.2.2.1,(hf b hb).2.1,(hf b hb).2.2.2.2.1,(hf b hb).2.2.2.2.2⟩) (fun b o _ _ hc e _=>k b o hc e) (fun b o _ _ hc e _=>⟨o.slots,k b o hc e⟩)
  (fun b o _ e n=> ?_) (fun b o hc e=>⟨o,k b o hc e⟩) (fun b xs e=> ?_) (fun b o u e=> ?_) (fun b ps e=>⟨#[],?_⟩) (fun m hm=> ?_) (fun b u e=> ?_) I.bare
 ·rw[aR (Nat.ne_of_lt (Nat.lt_of_lt_of_le (Heap.lt_size e) hT))];exact n
 ·rw[aR (bT e hn)];exact e
 ·rw[aR (bT e hn)];exact e
 ·rw[aR (bT e hn),e];simp
 ·obtain⟨o,es,ep,ho,r⟩:=hm
  exact⟨o,es,ep,k _ o (fun z=>(hf _ z).2.1 rfl) ho,r⟩
 ·by_cases hb:b=T
  ·subst hb
   rw[ai] at e
   cases e
   exact new
  ·rw[aR hb] at e
   refine(I.dB b u e).DQ (fun c v hc q=>k c v ?_ q) (fun c q=>by rw[aR (bT q hn)];exact q) fun c xs q=>by rw[aR (bT q hn)];exact q
   rcases hc with z |z
   ·rw[z];exact nit b u e
   ·exact nit c _ z
end
section
variable {X:Cx}
theorem IB{tg:Expr}{pins:List (Addr×Obj)}{σ:St}{H:Hp}{s:Shared}{R:It→Hp→Prop}{J:It}{tn:Nat→Heap→Prop}{tk:Nat}(I:Inv X pins σ H s)(o:Obj)
  (T:Turn X.prog X.w X.K tg J [s.heap.objs.size] s.heap.objs.size tn) (st:tn 0 (s.heap.push o)) (q:R J H):Pb X pins σ tg R (.ref s.heap.objs.size) {s with heap:=s.heap.push o,toks:=tk}:=by
 refine⟨s.heap.objs.size,[s.heap.objs.size],tn,J,H,rfl,I.kept fun b ob e=>Heap.get?_push_of_some _ e,T,st,fun b hb=> ?_,q⟩
 have e:b=s.heap.objs.size:=by simpa using hb
 subst e
 exact I.GP (Nat.le_refl _) (I.dB.fresh (Nat.le_refl _))
end
def Pq(lo c:Int)(n:Nat):It:=⟨fun i _=>i<n,fun i H x H'=>H'=H∧x= .int (lo+(i:Nat)*c),fun i _=>n≤i⟩
theorem Cu{P:Program}{w:World}{K:PySem.W.Frag}{tg:Expr}(it:Addr)(lo c:Int)(n:Nat):Turn P w K tg (Pq lo c n) [it] it (fun i h=>IsRangeIter h it (lo+(i:Nat)*c) ((n:Int) - (i:Nat)) c) where
 mem:=by simp
 obj:=fun i h st b hb=>by
  have e:b=it:=by simpa using hb
  subst e
  exact⟨_,st,fun v z=>nomatch z⟩
 keep:=fun i h h' st k=>k it (by simp) _ st
 item:=by
  intro X hP hw hK hc i pins s σ H E I hf st hg
  subst hP hw hK
  obtain⟨f0,f1,f2,f3,f4,f5⟩:=hf it (by simp)
  have W:=Walks.range (prog:=X.prog) (w:=X.w) (I.ok.hd hc) it lo c n
  refine W.item i s _ _ hg st fun v h' tk hv st' kk=> ?_
  obtain⟨t,rfl⟩:=hv
  have I1:Inv X pins σ H {s with heap:=h',toks:=tk}:=I.turned (fun b o hb e=>kk b o (by simpa using hb) e) f0 f1 f3 f4 f5
  exact⟨_,rfl,FA (s:={s with heap:=h',toks:=tk}) (n:="range_iterator") st' rfl rfl (by decide) ⟨.int (lo+(i:Nat)*c),H,I1,⟨t,rfl⟩,⟨rfl,rfl⟩,st',fun b hb=>(hf b hb).1⟩⟩
 done:=by
  intro X hP hw hK hc i pins s σ H E I hf st hg
  subst hP hw hK
  obtain⟨f0,f1,f2,f3,f4,f5⟩:=hf it (by simp)
  exact wpAny_pyNext_range_end (I.ok.hd hc) st (by have:n≤i:=hg;lia) fun h' eb=>⟨rfl,I.turned (t':=s.toks) (fun b o hb e=>eb b o hb e) f0 f1 f3 f4 f5⟩
 self:=fun A i s Q E st h=>wpAny_pyIter_rangeiter st h
def Oi(i j c:Int)(n:Nat):Prop:=c≠0∧c.natAbs<1073741824∧Builtin.Range.small i j c=true∧Builtin.Range.rangeSize i j c=n
theorem Oi.neg{i j:Int}(ha: -(2^62)≤i)(ha':i<2^62)(hb: -(2^62)≤j)(hb':j<2^62):Oi i j (-1) (i - j).toNat:=
 ⟨by decide,by decide,PySem.W.small_down ha ha' hb hb',PySem.W.rangeSize_downNat i j⟩
def Oj(ta:TA):TI:=fun σ H R=>ta σ H fun vs H1=>∃(i j c:Int) (n:Nat),vs=[.int i,.int j,.int c]∧Oi i j c n∧R (Pq i c n) H1
section
variable {X:Cx}{tg:Expr}
theorem zK{a b c:Expr}{ta:TA}{p pos:Pos}(hg:Gl X "range")(hm:X.mg "range"=none)(ha:PA X [a,b,c] ta)
  (hs:starEach [a,b,c] X.env=(false,eval a X.env)::starEach [b,c] X.env:=by rfl) (hpl:(backTo pos (starEach [b,c] X.env)).any (·.1)=false:=by rfl):
  PI X tg (.Call (.Name "range" p) [a,b,c] [] pos) (Oj ta):=by
 intro pins s σ H R I h
 refine Call_ (nQ I hg hm boot_range (PyProof.Rows.callWith_type1 (dy (ha pos pins s σ H _ I h) fun us s1 ⟨vs,H1,I1,r1,q1⟩=> ?_) hs hpl))
 obtain⟨i,j,k,n,e,⟨c0,c1,c2,c3⟩,q⟩:=q1
 subst e
 cases r1 with
 |cons r rr=>
  cases rr with
  |cons r' rr=>
   cases rr with
   |cons r'' rr=>
    cases rr
    obtain⟨t,rfl⟩:=r
    obtain⟨t',rfl⟩:=r'
    obtain⟨t'',rfl⟩:=r''
    refine call_range_3 c0 ?_ (.inl (PyProof.noPylong_small c1))
    refine wpAny_pyIter_range (IsRange.new ..) c2 ?_
    have I2:Inv X pins σ H1 {s1 with heap:=s1.heap.push {cls:= .type "range",data:= .fields #[.int i t,.int j t',.int k t'']}}:=I1.kept (t':=s1.toks) fun b o e=>Heap.get?_push_of_some _ e
    refine IB (tk:=s1.toks) I2 _ (Cu _ i k n) ?_ q
    have e1:i+((0:Nat):Int)*k=i:=by simp
    have e2:(n:Int) - ((0:Nat):Int)=Builtin.Range.rangeSize i j k:=by rw[c3];simp
    show IsRangeIter _ _ (i+((0:Nat):Int)*k) ((n:Int) - ((0:Nat):Int)) k
    rw[e1,e2]
    exact Heap.get?_push_size _ rfl
end
def Pr(K:PySem.W.Frag)(a:Addr)(n:Nat):It:=
 ⟨fun i H=>i<n∧∃(xs:List V) (x:V),gn K H a xs∧xs[n - 1 - i]? =some x,fun i H x H'=>H'=H∧∀xs,gn K H a xs→xs[n - 1 - i]? =some x,fun i _=>n≤i⟩
theorem IC{P:Program}{w:World}{K:PySem.W.Frag}{tg:Expr}(a it:Addr)(n:Nat):Turn P w K tg (Pr K a n) [it] it (fun i h=>i≤n∧h.IsRevIter it a ((n:Int) - 1 - (i:Nat))) where
 mem:=by simp
 obj:=fun i h st b hb=>by
  have e:b=it:=by simpa using hb
  subst e
  obtain⟨_,o,e,c,d⟩:=st
  exact⟨o,e,fun v z=>by rw[d] at z;cases z⟩
 keep:=fun i h h' st k=>⟨st.1,st.2.at fun o e=>k it (by simp) o e⟩
 item:=by
  intro X hP hw hK hc i pins s σ H E I hf st hg
  subst hP hw hK
  obtain⟨hin,xs,x,hq,hx⟩:=hg
  obtain⟨its,rv,p,hz⟩:=I.list hq
  obtain⟨u,hu,ru⟩:=rv.get hx
  obtain⟨f0,f1,f2,f3,f4,f5⟩:=hf it (by simp)
  obtain⟨_,hit⟩:=st
  have e1:(n:Int) - 1 - ((i:Nat):Int)=((n - 1 - i:Nat):Int):=by lia
  rw[e1] at hit
  refine wpAny_pyNext_rev_item hit p.isList (x:=u) (by simpa using hu) fun h' st' sb=> ?_
  have e2:((n - 1 - i:Nat):Int) - 1=(n:Int) - 1 - ((i+1:Nat):Int):=by lia
  rw[e2] at st'
  have I1:Inv X pins σ H {s with heap:=h'}:=I.turned (t':=s.toks) (fun b o hb e=>(sb.2 b hb).trans e) f0 f1 f3 f4 f5
  obtain⟨o,e,c,d⟩:=id st'
  exact⟨u,rfl,FA (s:={s with heap:=h'}) e c d (by decide) ⟨x,H,I1,ru,⟨rfl,fun ys hy=>by rw[I.nT hy hq];exact hx⟩,⟨hin,st'⟩,fun b hb=>(hf b hb).1⟩⟩
 done:=by
  intro X hP hw hK hc i pins s σ H E I hf st hg
  subst hP hw hK
  obtain⟨f0,f1,f2,f3,f4,f5⟩:=hf it (by simp)
  obtain⟨hin,hit⟩:=st
  have hge:n≤i:=hg
  have e1:(n:Int) - 1 - ((i:Nat):Int)= -1:=by lia
  rw[e1] at hit
  exact wpAny_pyNext_rev_end (I.ok.hd hc) hit fun h' eb=>⟨rfl,I.turned (t':=s.toks) (fun b o hb e=>eb b o hb e) f0 f1 f3 f4 f5⟩
 self:=fun A i s Q E st h=>wpAny_pyIter_revIter st.2 h
def Pt(K:PySem.W.Frag)(ta:TA):TI:=fun σ H R=>ta σ H fun vs H1=>∃(a:Addr) (xs:List V),vs=[.ref a]∧gn K H1 a xs∧R (Pr K a xs.length) H1
section
variable {X:Cx}{tg:Expr}
theorem Cv{e:Expr}{ta:TA}{p pos:Pos}(hg:Gl X "reversed")(hm:X.mg "reversed"=none)(ha:PA X [e] ta)(hs:starEach [e] X.env=[(false,eval e X.env)]:=by rfl):PI X tg (.Call (.Name "reversed" p) [e] [] pos) (Pt X.K ta):=by
 intro pins s σ H R I h
 refine Call_ (nQ I hg hm wF (PyProof.Rows.callWith_type1 (dy (ha pos pins s σ H _ I h) fun us s1 ⟨vs,H1,I1,r1,q1⟩=> ?_) hs rfl))
 obtain⟨a,xs,e,hq,q⟩:=q1
 subst e
 cases r1 with
 |cons r rr=>
  cases rr
  cases r
  obtain⟨its,rv,p',hz⟩:=I1.list hq
  have hl:=rv.length
  have e1:((its.toArray.size:Nat):Int) - 1=(xs.length:Int) - 1 - ((0:Nat):Int):=by simp only[List.size_toArray];lia
  refine call_reversed_list p'.isList (wpAny_pyIter_revIter (l:=a) (i:=((its.toArray.size:Nat):Int) - 1) ⟨_,Heap.get?_push_size _ rfl,rfl,rfl⟩ ?_)
  refine IB (tk:=s1.toks) I1 _ (IC a _ xs.length) ⟨Nat.zero_le _,?_⟩ q
  rw[←e1]
  exact⟨_,Heap.get?_push_size _ rfl,rfl,rfl⟩
end
def Pu(K:PySem.W.Frag)(a:Addr):It:=
 ⟨fun i H=>∃(xs:List V) (x:V),gn K H a xs∧xs[i]? =some x,fun i H v H'=>∃T x,v= .ref T∧H T=none∧H'=upd H T (.tup [.int (i:Nat),x])∧∀xs,gn K H a xs→xs[i]? =some x,fun i H=>∃xs:List V,gn K H a xs∧xs.length≤i⟩
theorem G3{P:Program}{w:World}{K:PySem.W.Frag}{elts:List Expr}{kk:Nat}{tpos:Pos}(a e it:Addr):
  Turn P w K (.Tuple elts kk tpos) (Pu K a) [e,it] e (fun i h=>(∃old,IsEnum h e it ((i:Nat):Int) old)∧h.IsListIter it a i∧e≠it) where
 mem:=by simp
 obj:=fun i h st b hb=>by
  obtain⟨⟨old,he⟩,⟨o,ho,hc,hd⟩,_⟩:=st
  have e':b=e∨b=it:=by simpa using hb
  rcases e' with z |z
  ·rw[z];exact⟨_,he,fun v q=>nomatch q⟩
  ·rw[z];exact⟨o,ho,fun v q=>by rw[hd] at q;cases q⟩
 keep:=fun i h h' st k=>let ⟨⟨old,he⟩,hi,hne⟩:=st;⟨⟨old,k e (by simp) _ he⟩,hi.at fun o q=>k it (by simp) o q,hne⟩
 item:=by
  intro X hP hw hK hc i pins s σ H E I hf st hg
  subst hP hw hK
  obtain⟨⟨old,he⟩,hit,hne⟩:=st
  obtain⟨xs,x,hq,hx⟩:=hg
  obtain⟨its,rv,p,hz⟩:=I.list hq
  obtain⟨u,hu,ru⟩:=rv.get hx
  have hel:e<s.heap.objs.size:=Heap.lt_size he
  have hil:it<s.heap.objs.size:=by obtain⟨_,q,_⟩:=hit;exact Heap.lt_size q
  refine wpAny_pyNext_enum_item he hit p.isList (x:=u) (by simpa using hu) hne fun h' ho hit' hT hsz hk=> ?_
  refine⟨_,rfl,wpAny_letOwnedTupleGo_enum (s:={s with heap:=h',toks:=s.toks+1}) ho fun h'' he' sb=> ?_⟩
  have hT2:h''.get? s.heap.objs.size=some {cls:= .type "tuple",data:= .seq #[.int i s.toks,u]}:=(sb.2 _ (Nat.ne_of_gt hel)).trans hT
  have new:gm X.prog X.w (upd H s.heap.objs.size (.tup [.int (i:Nat),x])) h'' s.heap.objs.size (.tup [.int (i:Nat),x]):=
   ⟨by show 2≤sizeLine;decide,[.int i s.toks,u],.cons ⟨_,rfl⟩ (.cons ru .nil),⟨_,hT2,rfl,_,rfl⟩⟩
  have I1:Inv X pins σ (upd H s.heap.objs.size (.tup [.int (i:Nat),x])) {s with heap:=h'',toks:=s.toks+1}:=
   I.zJ (ch:=[e,it]) (fun b ob hb q=>(sb.2 b (fun z=>hb (by simp[z]))).trans (hk b ob (fun z=>hb (by simp[z])) (fun z=>hb (by simp[z])) q)) hf (Nat.le_refl _) new
  refine⟨.ref s.heap.objs.size,_,I1,rfl,⟨_,x,rfl,I.dB.fresh (Nat.le_refl _),rfl,fun ys hy=>by rw[I.nT hy hq];exact hx⟩,⟨⟨u,?_⟩,hit'.at fun o q=>(sb.2 it (Ne.symm hne)).trans q,hne⟩,fun b hb=> ?_⟩
  ·have e1:((i+1:Nat):Int)=(i:Int)+1:=by lia
   rw[e1];exact he'
  ·have hb':b<s.heap.objs.size:=by
    have e':b=e∨b=it:=by simpa using hb
    rcases e' with z |z
    ·rw[z];exact hel
    ·rw[z];exact hil
   rw[aR (Nat.ne_of_lt hb')]
   exact(hf b hb).1
 done:=by
  intro X hP hw hK hc i pins s σ H E I hf st hg
  subst hP hw hK
  obtain⟨⟨old,he⟩,hit,hne⟩:=st
  obtain⟨xs,hq,hx⟩:=hg
  obtain⟨its,rv,p,hz⟩:=I.list hq
  obtain⟨f0,f1,f2,f3,f4,f5⟩:=hf it (by simp)
  have hl:=rv.length
  exact wpAny_pyNext_enum_end (I.ok.hd hc) he hit p.isList (by simp;lia) fun h' eb=>⟨rfl,I.turned (t':=s.toks) (fun b o hb q=>eb b o hb q) f0 f1 f3 f4 f5⟩
 self:=fun A i s Q E st h=>let ⟨⟨_,he⟩,_⟩:=st;wpAny_pyIter_enum he h
def Ol(K:PySem.W.Frag)(ta:TA):TI:=fun σ H R=>ta σ H fun vs H1=>∃a xs,vs=[.ref a]∧gn K H1 a xs∧R (Pu K a) H1
theorem lZ{X:Cx}{e:Expr}{ta:TA}{p pos tpos:Pos}{elts:List Expr}{kk:Nat}(hg:Gl X "enumerate")(hm:X.mg "enumerate"=none)(ha:PA X [e] ta)(hs:starEach [e] X.env=[(false,eval e X.env)]:=by rfl):
  PI X (.Tuple elts kk tpos) (.Call (.Name "enumerate" p) [e] [] pos) (Ol X.K ta):=by
 intro pins s σ H R I h
 refine Call_ (nQ I hg hm boot_enumerate (PyProof.Rows.callWith_type1 (dy (ha pos pins s σ H _ I h) fun us s1 ⟨vs,H1,I1,r1,q1⟩=> ?_) hs rfl))
 obtain⟨a,xs,ex,hq,q⟩:=q1
 subst ex
 cases r1 with
 |cons r rr=>
  cases rr
  cases r
  obtain⟨its,rv,p',hz⟩:=I1.list hq
  refine call_enumerate_list p'.isList fun h' he hit hsz hk=>wpAny_pyIter_enum he ?_
  have I2:Inv X pins σ H1 {s1 with heap:=h'}:=I1.kept (t':=s1.toks) hk
  refine⟨s1.heap.objs.size+1,[s1.heap.objs.size+1,s1.heap.objs.size],_,_,H1,rfl,I2,G3 a (s1.heap.objs.size+1) s1.heap.objs.size,⟨⟨.none,he⟩,hit,Nat.succ_ne_self _⟩,fun b hb=> ?_,q⟩
  have e':b=s1.heap.objs.size+1∨b=s1.heap.objs.size:=by simpa using hb
  have hle:s1.heap.objs.size≤b:=by
   rcases e' with z |z
   ·rw[z];exact Nat.le_add_right _ _
   ·rw[z];exact Nat.le_refl _
  exact I1.GP hle (I1.dB.fresh hle)
theorem G4:bootBuiltins "zip"=some (.type "zip"):=by decide +kernel
def Pw(K:PySem.W.Frag)(a b:Addr):It:=
 ⟨fun i H=>∃(xs ys:List V) (x y:V),gn K H a xs∧gn K H b ys∧xs[i]? =some x∧ys[i]? =some y,
  fun i H v H'=>∃T x y,v= .ref T∧H T=none∧H'=upd H T (.tup [x,y])∧(∀xs,gn K H a xs→xs[i]? =some x)∧∀ys,gn K H b ys→ys[i]? =some y,
  fun i H=>∃xs ys:List V,gn K H a xs∧gn K H b ys∧(xs.length≤i∨ys.length≤i)⟩
theorem ID{P:Program}{w:World}{K:PySem.W.Frag}{elts:List Expr}{kk:Nat}{tpos:Pos}{a b z TI TO i1 i2:Addr}(D:ZipApart z TI TO i1 i2 a b):
  Turn P w K (.Tuple elts kk tpos) (Pw K a b) [z,TI,TO,i1,i2] z (fun i h=>IsZip h z TI TO .none∧IsPair h TI (.ref i1) (.ref i2)∧(∃x y,IsPair h TO x y)∧h.IsListIter i1 a i∧h.IsListIter i2 b i) where
 mem:=by simp
 obj:=fun i h st c hc=>by
  obtain⟨hz,hTI,⟨x,y,hTO⟩,⟨o1,e1,_,d1⟩,⟨o2,e2,_,d2⟩⟩:=st
  have e':c=z∨c=TI∨c=TO∨c=i1∨c=i2:=by simpa using hc
  rcases e' with q |q |q |q |q
  ·rw[q];exact⟨_,hz,fun v q=>nomatch q⟩
  ·rw[q];exact⟨_,hTI,fun v q=>nomatch q⟩
  ·rw[q];exact⟨_,hTO,fun v q=>nomatch q⟩
  ·rw[q];exact⟨o1,e1,fun v q=>by rw[d1] at q;cases q⟩
  ·rw[q];exact⟨o2,e2,fun v q=>by rw[d2] at q;cases q⟩
 keep:=fun i h h' st k=>by
  obtain⟨hz,hTI,⟨x,y,hTO⟩,h1,h2⟩:=st
  exact⟨k z (by simp) _ hz,k TI (by simp) _ hTI,⟨x,y,k TO (by simp) _ hTO⟩,h1.at fun o q=>k i1 (by simp) o q,h2.at fun o q=>k i2 (by simp) o q⟩
 item:=by
  intro X hP hw hK hc i pins s σ H E I hf st hg
  subst hP hw hK
  obtain⟨hz,hTI,⟨x0,y0,hTO⟩,h1,h2⟩:=st
  obtain⟨xs,ys,x,y,hqx,hqy,hx,hy⟩:=hg
  obtain⟨its,rv,p,_⟩:=I.list hqx
  obtain⟨its2,rv2,p2,_⟩:=I.list hqy
  obtain⟨u,hu,ru⟩:=rv.get hx
  obtain⟨u2,hu2,ru2⟩:=rv2.get hy
  have hzl:z<s.heap.objs.size:=Heap.lt_size hz
  refine wpAny_pyNext_zip_item D hz hTI hTO h1 h2 p.isList p2.isList (x:=u) (y:=u2) (by simpa using hu) (by simpa using hu2) fun h' z' TO' h1' h2' hT hsz hk=> ?_
  refine⟨_,rfl,wpAny_letOwnedTupleGo_zip (s:={s with heap:=h'}) z' fun h'' z'' sb=> ?_⟩
  have hT2:h''.get? s.heap.objs.size=some {cls:= .type "tuple",data:= .seq #[u,u2]}:=(sb.2 _ (Nat.ne_of_gt hzl)).trans hT
  have new:gm X.prog X.w (upd H s.heap.objs.size (.tup [x,y])) h'' s.heap.objs.size (.tup [x,y]):=
   ⟨by show 2≤sizeLine;decide,[u,u2],.cons ru (.cons ru2 .nil),⟨_,hT2,rfl,_,rfl⟩⟩
  have I1:Inv X pins σ (upd H s.heap.objs.size (.tup [x,y])) {s with heap:=h''}:=
   I.zJ (t':=s.toks) (ch:=[z,TI,TO,i1,i2]) (fun c o hb q=>(sb.2 c (fun q'=>hb (by simp[q']))).trans (hk c o (fun q'=>hb (by simp[q'])) (fun q'=>hb (by simp[q'])) (fun q'=>hb (by simp[q'])) (fun q'=>hb (by simp[q'])) q)) hf (Nat.le_refl _) new
  refine⟨.ref s.heap.objs.size,_,I1,rfl,⟨_,x,y,rfl,I.dB.fresh (Nat.le_refl _),rfl,fun l hl=>by rw[I.nT hl hqx];exact hx,fun l hl=>by rw[I.nT hl hqy];exact hy⟩,⟨z'',?_,⟨u,u2,?_⟩,?_,?_⟩,fun c hcm=> ?_⟩
  ·exact(sb.2 _ D.TIz).trans (hk _ _ D.TIz D.TITO D.TIi1 D.TIi2 hTI)
  ·exact(sb.2 _ D.TOz).trans TO'
  ·exact h1'.at fun o q=>(sb.2 _ D.i1z).trans q
  ·exact h2'.at fun o q=>(sb.2 _ D.i2z).trans q
  ·have hlt:c<s.heap.objs.size:=by
    have e':c=z∨c=TI∨c=TO∨c=i1∨c=i2:=by simpa using hcm
    rcases e' with q |q |q |q |q
    ·rw[q];exact hzl
    ·rw[q];exact Heap.lt_size hTI
    ·rw[q];exact Heap.lt_size hTO
    ·rw[q];obtain⟨_,e1,_⟩:=h1;exact Heap.lt_size e1
    ·rw[q];obtain⟨_,e2,_⟩:=h2;exact Heap.lt_size e2
   rw[aR (Nat.ne_of_lt hlt)]
   exact(hf c hcm).1
 done:=by
  intro X hP hw hK hc i pins s σ H E I hf st hg
  subst hP hw hK
  obtain⟨hz,hTI,⟨x0,y0,hTO⟩,h1,h2⟩:=st
  obtain⟨xs,ys,hqx,hqy,hend⟩:=hg
  obtain⟨its,rv,p,_⟩:=I.list hqx
  obtain⟨its2,rv2,p2,_⟩:=I.list hqy
  have l1:=rv.length
  have l2:=rv2.length
  have he:its.toArray[i]? =none∨its2.toArray[i]? =none:=by
   rcases hend with q |q
   ·exact .inl (by simp;lia)
   ·exact .inr (by simp;lia)
  exact wpAny_pyNext_zip_end (I.ok.hd hc) D hz hTI hTO h1 h2 p.isList p2.isList he fun h' hk=>⟨rfl,I.Kx (t':=s.toks) (ch:=[z,TI,TO,i1,i2]) (fun c o hb q=>
   hk c o (fun q'=>hb (by simp[q'])) (fun q'=>hb (by simp[q'])) (fun q'=>hb (by simp[q'])) (fun q'=>hb (by simp[q'])) q) hf⟩
 self:=fun A i s Q E st h=>wpAny_pyIter_zip st.1 h
def Px(K:PySem.W.Frag)(ta:TA):TI:=fun σ H R=>ta σ H fun vs H1=>∃a b xs ys,vs=[.ref a,.ref b]∧gn K H1 a xs∧gn K H1 b ys∧R (Pw K a b) H1
theorem Mu{X:Cx}{e e2:Expr}{ta:TA}{p pos tpos:Pos}{elts:List Expr}{kk:Nat}(hg:Gl X "zip")(hm:X.mg "zip"=none)(ha:PA X [e,e2] ta)
  (hs:starEach [e,e2] X.env=(false,eval e X.env)::starEach [e2] X.env:=by rfl) (hpl:(backTo pos (starEach [e2] X.env)).any (·.1)=false:=by rfl):
  PI X (.Tuple elts kk tpos) (.Call (.Name "zip" p) [e,e2] [] pos) (Px X.K ta):=by
 intro pins s σ H R I h
 refine Call_ (nQ I hg hm G4 (PyProof.Rows.callWith_type1 (dy (ha pos pins s σ H _ I h) fun us s1 ⟨vs,H1,I1,r1,q1⟩=> ?_) hs hpl))
 obtain⟨a,b,xs,ys,ex,hqx,hqy,q⟩:=q1
 subst ex
 cases r1 with
 |cons r rr=>
  cases rr with
  |cons r' rr=>
   cases rr
   cases r
   cases r'
   obtain⟨its,rv,p1,_⟩:=I1.list hqx
   obtain⟨its2,rv2,p2,_⟩:=I1.list hqy
   have la:a<s1.heap.objs.size:=p1.lt
   have lb:b<s1.heap.objs.size:=p2.lt
   refine call_zip_2 p1.isList p2.isList fun h' hz hTI hTO h1 h2 hsz hk=>wpAny_pyIter_zip hz ?_
   have I2:Inv X pins σ H1 {s1 with heap:=h'}:=I1.kept (t':=s1.toks) hk
   refine⟨s1.heap.objs.size+4,[s1.heap.objs.size+4,s1.heap.objs.size+2,s1.heap.objs.size+3,s1.heap.objs.size,s1.heap.objs.size+1],_,_,H1,rfl,I2,ID (PySem.W.ktu_apart s1.heap.objs.size a b la lb),⟨hz,hTI,⟨_,_,hTO⟩,h1,h2⟩,fun c hcm=> ?_,q⟩
   have e':c=s1.heap.objs.size+4∨c=s1.heap.objs.size+2∨c=s1.heap.objs.size+3∨c=s1.heap.objs.size∨c=s1.heap.objs.size+1:=by simpa using hcm
   have hle:s1.heap.objs.size≤c:=by
    rcases e' with z |z |z |z |z
    ·rw[z];exact Nat.le_add_right _ _
    ·rw[z];exact Nat.le_add_right _ _
    ·rw[z];exact Nat.le_add_right _ _
    ·rw[z];exact Nat.le_refl _
    ·rw[z];exact Nat.le_add_right _ _
   exact I1.GP hle (I1.dB.fresh hle)
end L2
section
namespace Py
open PySem PyProof.Rows
end Py
end
section
namespace TL
open PySem PySem.Builtin PySem.Builtin.Str PySem.StrLaws
end TL
end
namespace L2
open PySem PySem.Spec PyProof.Rows
end L2
namespace QE
open PySem PySem.W PySem.Calls PyProof.Rows
end QE
namespace L2
open PySem PySem.Spec PyProof.Rows
def inClass(s:Stmt)(j:Nat):Stmt:=match s with
 | .ClassDef _ _ _ body _ _ _ _ _ _ _=>body.getD j (.Pass ⟨0,0,0,0⟩)
 |_=> .Pass ⟨0,0,0,0⟩
def cP(s:Stmt):Arguments:=match s with
 | .FunctionDef _ a _ _ _ _ _ _ _ _=>a
 |_=>{posonlyargs:=[],args:=[],vararg:=none,kwonlyargs:=[],kw_defaults:=[],kwarg:=none,defaults:=[]}
def b8(s:Stmt):List Stmt:=match s with
 | .FunctionDef _ _ b _ _ _ _ _ _ _=>b
 |_=>[]
def au(s:Stmt):Scope:=match s with
 | .FunctionDef _ _ _ _ _ _ sc _ _ _=>sc
 |_=>{kind:= .function,names:=[],isGenerator:=false,isCoroutine:=false}
abbrev FO:HX:=fun _ _ _ _ _ _=>False
abbrev E0:XK:=fun _ _ _=>False
theorem IE{X:Cx}:Passes FO X E0:=fun _ _ _ _ _ _ _ h=>h.elim
structure Mv(K:PySem.W.Frag)(x qual:Str)(st:Stmt)(f:Addr)(fd:FuncData):Prop where
 ex:∃(oc:Value) (od:Option Addr) (kV doc pm:Value) (an:Option Addr) (cdv ct:Value) (osl:Array (Option Value)),
  fd=PySem.W.fnOf x qual (cP st) (b8 st) (au st) .none kV doc pm an cdv ct∧K.lookup f=some ⟨oc,od,.func fd,osl⟩∧PySem.W.codeIn K cdv qual=true
 kp:PySem.W.keepIn K (.ref f)=true
section
variable {P:Program}{w:World}{K:PySem.W.Frag}{mg:Str→Option Value}{base:Heap}
theorem Mv.ok{x qual:Str}{st:Stmt}{f:Addr}{fd:FuncData}{N ps:List Str}{k:Nat}{sp:Sp}(F:Mv K x qual st f fd)(S:aE N ps (au st))(len:∀vs H Q E,sp vs H Q E→vs.length=ps.length)
  (hbody:∀(cdv:Value) (A:Around) (outer:List Env) (s:Shared) (H:Hp) (vs:List V) (Q:VK) (E:XK),gR k (A.deeper (envOfC qual (au st) s.heap.objs.size f cdv))→sp vs H Q E→
   ∃t,DS (AM FO P w K mg base N qual (au st) f cdv A outer s H E).L5 (b8 st) t∧t {nx:=fun _ H'=>Q .fG H',rt:=Q} (start N vs) H):kK P w K mg base FO (k+1) f fd ps sp:=by
 obtain⟨oc,od,kV,doc,pm,an,cdv,ct,osl,rfl,lk,hcd⟩:=F.ex
 refine NX lk hcd S len fun A outer s H vs Q E hr hsp=> ?_
 obtain⟨t,h,q⟩:=hbody cdv A outer s H vs Q E hr hsp
 exact⟨t,h.L5,q⟩
theorem Mv.binds{x qual:Str}{st:Stmt}{f:Addr}{fd:FuncData}{ps:List Str}(F:Mv K x qual st f fd)
  (h:∀(kV doc pm:Value) (an:Option Addr) (cdv ct:Value) (us:List Value),us.length=ps.length→bindArgs (PySem.W.fnOf x qual (cP st) (b8 st) (au st) .none kV doc pm an cdv ct) ⟨us,[]⟩=pure (ps.zip us)):Binds K fd ps []:=by
 obtain⟨oc,od,kV,doc,pm,an,cdv,ct,osl,rfl,lk,hcd⟩:=F.ex
 exact .all (h kV doc pm an cdv ct)
theorem IF{x qual:Str}{st:Stmt}{f:Addr}{oc:Value}{od an:Option Addr}{osl:Array (Option Value)}{kV doc pm cdv ct:Value}(l:K.lookup f=some ⟨oc,od,.func (PySem.W.fnOf x qual (cP st) (b8 st) (au st) .none kV doc pm an cdv ct),osl⟩)
  (c:PySem.W.codeIn K cdv qual=true) (k:PySem.W.keepIn K (.ref f)=true):Mv K x qual st f (PySem.W.fnOf x qual (cP st) (b8 st) (au st) .none kV doc pm an cdv ct):=⟨⟨oc,od,kV,doc,pm,an,cdv,ct,osl,rfl,l,c⟩,k⟩
end
section
variable {X:Cx}
theorem pv(i:Nat){x:Str}{pos:Pos}(hN:X.N[i]? =some x:=by rfl)(hv:Nd X.env.scope x:=by first |exact Or.inl rfl |exact Or.inr (Or.inl rfl) |exact Or.inr (Or.inr rfl))(hd:(x==("__debug__":Str))=false:=by decide)
  (hcd:(x==("__classdict__":Str))=false:=by decide):PE X (.Name x pos) (wA i):=L4 hN hv hd hcd
end
theorem bC{A B:Prop}(h:B):if false=true then A else B:=by
 rw[if_neg Bool.false_ne_true]
 exact h
theorem bx{A B:Prop}(h:A):if true=true then A else B:=by
 rw[if_pos rfl]
 exact h
theorem Mw{c A B:Prop} [Decidable c](h1:c→A)(h2:¬c→B):if c then A else B:=by
 by_cases h:c
 ·rw[if_pos h]
  exact h1 h
 ·rw[if_neg h]
  exact h2 h
theorem LA{c A B:Prop} [Decidable c](hc:c)(h:B):if(!decide c)=true then A else B:=by
 rw[decide_eq_true hc]
 exact bC h
def aJ(H H':Hp):Prop:=∀b o,H b=some o→H' b=some o
theorem aJ.refl(H:Hp):aJ H H:=fun _ _ h=>h
theorem aJ.trans{H H1 H2:Hp}(a:aJ H H1)(b:aJ H1 H2):aJ H H2:=fun c o h=>b c o (a c o h)
theorem aJ.free{H H':Hp}(e:aJ H H'){l:Addr}(h:H' l=Option.none):H l=Option.none:=by
 cases q:H l with
 |none=>rfl
 |some o=>
  rw[e l o q] at h
  cases h
theorem aJ.seq{K:PySem.W.Frag}{H H':Hp}{a:Addr}{xs:List V}(e:aJ H H')(h:gn K H a xs):gn K H' a xs:=by
 rcases h with(h |⟨o,h⟩) |h
 ·exact .inl (.inl (e _ _ h))
 ·exact .inl (.inr ⟨o,e _ _ h⟩)
 ·exact .inr h
section
variable {κ:Type} [DecidableEq κ]
theorem FP:∀{l:List κ} {k:κ},l.Nodup→¬k∈l→(l ++ [k]).Nodup
 |[],k,_,_=>by simp
 |a::r,k,h,hk=>by
  obtain⟨h1,h2⟩:=List.nodup_cons.mp h
  show(a::(r ++ [k])).Nodup
  refine List.nodup_cons.mpr ⟨fun m=> ?_,FP h2 fun m=>hk (List.mem_cons.mpr (Or.inr m))⟩
  rcases List.mem_append.mp m with q |q
  ·exact h1 q
  ·exact hk (List.mem_cons.mpr (Or.inl (List.mem_singleton.mp q).symm))
end
theorem Om{α:Type}{l:List α}(hN:l.Nodup){i j:Nat}{x:α}(a:l[i]? =some x)(b:l[j]? =some x):i=j:=by
 obtain⟨h1,e1⟩:=List.getElem?_eq_some_iff.mp a
 obtain⟨h2,e2⟩:=List.getElem?_eq_some_iff.mp b
 exact(List.getElem_inj hN).mp (e1.trans e2.symm)
theorem aJ.made{H H1:Hp}{x dx C:Addr}(nx:H x=Option.none)(nd:H dx=Option.none)(k:∀b o,(upd (upd H dx (.own x)) x (.ins C dx [])) b=some o→b≠x→H1 b=some o):aJ H H1:=fun b o e=>
 k b o (by rw[aR (bT e nx),aR (bT e nd)];exact e) (bT e nx)
end L2
namespace B7
open PySem PySem.Spec PyProof.Rows L2
structure bo(P:Program)(w:World)(K:PySem.W.Frag)(mg:Str→Option Value)(base:Heap)(x:Str)(ps:List Str)(k:Nat)(sp:Sp):Prop where
 ex:∃(f:Addr) (fd:FuncData),mg x=some (.ref f)∧kK P w K mg base FO k f fd ps sp∧PySem.W.keepIn K (.ref f)=true∧Binds K fd ps []
structure dD(K:PySem.W.Frag)(mg:Str→Option Value)(x:Str)(st:Stmt)(ps:List Str):Prop where
 ex:∃(f:Addr) (fd:FuncData),mg x=some (.ref f)∧Mv K x x st f fd∧Binds K fd ps []
section
variable {P:Program}{w:World}{K:PySem.W.Frag}{mg:Str→Option Value}{base:Heap}
theorem bo.mono{x:Str}{ps:List Str}{j k:Nat}{sp:Sp}(c:bo P w K mg base x ps j sp)(h:j≤k):bo P w K mg base x ps k sp:=
 let ⟨f,fd,a,b,d,e⟩:=c.ex
 ⟨f,fd,a,b.mono h,d,e⟩
def QF(P:Program)(w:World)(K:PySem.W.Frag)(mg:Str→Option Value)(base:Heap)(N:List Str)(x:Str)(st:Stmt)(k:Nat)(sp:Sp):Prop:=
 ∀(f:Addr) (cdv:Value) (A:Around) (outer:List Env) (s:Shared) (H:Hp) (vs:List V) (Q:VK) (E:XK),gR k (A.deeper (envOfC x (au st) s.heap.objs.size f cdv))→sp vs H Q E→
   ∃t,DS (AM FO P w K mg base N x (au st) f cdv A outer s H E).L5 (b8 st) t∧t {nx:=fun _ H'=>Q .fG H',rt:=Q} (start N vs) H
theorem dD.eD{x:Str}{st:Stmt}{N ps:List Str}{k:Nat}{sp:Sp}(G:dD K mg x st ps)(S:aE N ps (au st))(len:∀vs H Q E,sp vs H Q E→vs.length=ps.length)(h:QF P w K mg base N x st k sp):bo P w K mg base x ps (k+1) sp:=by
 obtain⟨f,fd,hm,F,hb⟩:=G.ex
 exact⟨f,fd,hm,F.ok S len (fun cdv A outer s H vs Q E hr hsp=>h f cdv A outer s H vs Q E hr hsp),F.kp,hb⟩
end
section
variable {X:Cx}{k:Nat}{x:Str}{ps:List Str}{sp:Sp}{e:Expr}{es:List Expr}{t:TA}{p pos:Pos}
theorem aB(c:bo X.prog X.w X.K X.mg X.base x ps k sp)(hr:gR k X.A)(hg:Gl X x)(ha:PA X (e::es) t)
  (hdb:(x==("__debug__":Str))=false:=by decide) (he:starEach (e::es) X.env=(false,eval e X.env)::starEach es X.env:=by rfl) (hpl:(backTo pos (starEach es X.env)).any (·.1)=false:=by rfl):
  PE X (.Call (.Name x p) (e::es) [] pos) (Lx sp [] E0 t):=by
 obtain⟨f,fd,hm,F,hk,hb⟩:=c.ex
 exact Kp F hr hg hm hk hb .nil IE ha hdb he hpl
theorem Ky{fe:Expr}{tf:TE}(hf:PE X fe tf)(hev:eval (.Call fe (e::es) [] pos) X.env=(do let f←eval fe X.env;callWith pos f [] (backTo pos (starEach (e::es) X.env)) (backToKw pos (keywordEach [] X.env))))
  (ha:PA X (e::es) t) (he:starEach (e::es) X.env=(false,eval e X.env)::starEach es X.env:=by rfl) (hpl:(backTo pos (starEach es X.env)).any (·.1)=false:=by rfl):
  PE X (.Call fe (e::es) [] pos) (fun σ H Q=>tf σ H fun v H1=>∃f fd ps k sp,v= .ref f∧kK X.prog X.w X.K X.mg X.base FO k f fd ps sp∧gR k X.A∧PySem.W.keepIn X.K (.ref f)=true∧Binds X.K fd ps []∧t σ H1 fun vs H2=>sp (vs ++ []) H2 Q E0):=by
 intro pins s σ H Q I h
 rw[hev]
 refine wpAny_bind (dy (hf pins s σ H _ I h) fun u s1 ⟨v,H1,I1,rv,f,fd,ps,k,sp,e1,F,hr,hk,hb,q⟩=> ?_)
 subst e1
 cases rv
 refine PySem.W.callWith_K (h₀:=X.base) I.ok.mod.Nq hk (dy (ha pos pins s1 σ H1 _ I1 q) fun us s2 ⟨vs,H2,I2,r,q2⟩=>⟨I2.HW,?_⟩) he hpl
 exact Ir F hr hb .nil IE I2 r q2
end
def Sz(b:Nat)(z:Int):Prop:=z.natAbs<2^b
theorem Sz.bits{b:Nat}{z:Int}(h:Sz b z):Builtin.Int.intBits z≤b:=by
 unfold Builtin.Int.intBits
 split
 ·exact Nat.zero_le _
 ·rename_i hz
  have h0:z.natAbs≠0:=fun q=>hz (by simpa using q)
  have:z.natAbs.log2<b:=(Nat.log2_lt h0).mpr h
  lia
theorem Sz.mul{a b:Int}{m n:Nat}(ha:Sz m a)(hb:Sz n b)(h:m+n≤134217728):IntMulOk a b:=IntMulOk.of_le ha.bits hb.bits h
section
variable {X:Cx}
theorem bW:rH X (binaryOp .Mult) (rI IntMulOk fun i j=> .int (i*j)):=Pg fun _ _ _ _ _ _ _ hc q=>mul_int q hc
theorem Cw:rH X (binaryOp .FloorDiv) (rI (fun _ j=>j≠0∧j.natAbs.log2<9000) fun i j=> .int (i.fdiv j)):=Pg fun _ _ _ _ _ _ _ hc q=>floordiv_int hc.1 q (.inl (PyProof.noPylong_of_log2 hc.2))
structure Oo(X:Cx):Prop where
 no:X.base.NoSeer
 tree:X.prog.given.tree=none
 Nf:∃env l,X.stack=env::l∧env.scope.isGenerator=false∧env.scope.isCoroutine=false∧env.builtins=builtinsNs∧env.globals=mainGlobals
 room:X.A.depth+Builtin.pylongFrames<recursionLimit
theorem Cy(S:Oo X):rH X (binaryOp .FloorDiv) (rI (fun _ j=>j≠0) fun i j=> .int (i.fdiv j)):=by
 intro pins s σ H x y v u Q I rx ry h
 obtain⟨i,j,rfl,rfl,hc,q⟩:=h
 obtain⟨t,rfl⟩:=rx
 obtain⟨t',rfl⟩:=ry
 obtain⟨env,l,e1,e2,e3,e4,e5⟩:=S.Nf
 exact floordiv_int hc ⟨.int (i.fdiv j),H,I.tok _,⟨_,rfl⟩,q⟩ (.inr (PylongRoom.of I.nolimit S.room (SeerAt.of (S.no.keeps I.bk) S.tree (I.ok.frames.trans (by rw[e1])) e2 e3 e4 e5)))
end
section
variable {X:Cx}
theorem gc{x:Str}{z:Int}{pos:Pos}(h:∃t,X.mg x=some (.int z t))(hg:Gl X x:=by rfl)(hd:(x==("__debug__":Str))=false:=by decide):PE X (.Name x pos) (tC (.int z)):=
 let ⟨t,e⟩:=h
 Fy hg e ⟨t,rfl⟩ hd
theorem qv:NL X (fun o i H Q=>∃p xs k j v,o= .ref p∧i= .int k∧gn X.K H p xs∧k=((j:Nat):Int)∧xs[j]? =some v∧Q v H):=by
 intro pins s σ H o i ov iv Q I rx ry h
 obtain⟨p,xs,k,j,z,rfl,rfl,hq,hk,he,q⟩:=h
 cases rx
 obtain⟨t,rfl⟩:=ry
 obtain⟨its,r,pl,hz⟩:=I.list hq
 obtain⟨w,ew,rw'⟩:=r.get he
 have hl:=r.length
 have hn:=tK
 have hj:j<its.length:=by
  have:=List.getElem?_eq_some_iff.mp ew
  exact this.1
 exact getItem_listL pl.isList (by lia) (by lia) (by rw[hk];simpa using ew) ⟨z,H,I,rw',q⟩
def Pz(C:Int→Int→Prop)(f:Int→Int→Int):L8:=fun x y H Q=>∃i j,x= .int i∧y= .int j∧C i j∧Q (.int (f i j)) H
theorem FQ:NG X .Mult (Pz IntMulOk fun i j=>i*j):=by
 intro pins s σ H x y v u Q I r1 r2 h
 obtain⟨i,j,e1,e2,hc,q⟩:=h
 subst e1;subst e2
 obtain⟨t,rfl⟩:=r1
 obtain⟨t',rfl⟩:=r2
 exact imul_int ⟨.int _,H,I.tok _,⟨_,rfl⟩,q⟩ hc
end
section
variable {X:Cx}(K:PySem.W.Frag)
theorem dR(h:X.K=K:=by rfl):NY X (Mi K):=by subst h;exact Kt
theorem yF(h:X.K=K:=by rfl):NY X (NZ K):=by subst h;exact Mj
theorem Oq(h:X.K=K:=by rfl):Pj X (Mm K):=by subst h;exact Ku
theorem wG(h:X.K=K:=by rfl):rH X (compareOp .In) (OV K false):=by subst h;exact GZ
theorem G5(h:X.K=K:=by rfl):rH X (compareOp .NotIn) (OV K true):=by subst h;exact AQ
theorem br(h:X.K=K:=by rfl):jZ X (.builtin "len") (fun xs H Q=>∃p ys,xs=[.ref p]∧(gn K H p ys∨yE K H p ys)∧Q (.int ys.length) H):=by subst h;exact AR
theorem qw(h:X.K=K:=by rfl):jZ X (.type "list") (fun xs H Q=>∃p ys,xs=[.ref p]∧(gn K H p ys∨yE K H p ys)∧∀l,H l=none→Q (.ref l) (upd H l (.lst ys))):=by subst h;exact AS
theorem ax{e:Expr}{f:Str}{pos:Pos}{ta:TE}(he:PE X e ta)(hb:attributeBase e f X.env (eval e X.env)=eval e X.env)(h:X.K=K:=by rfl):PE X (.Attribute e f pos) (GW K ta f):=by subst h;exact Mg he hb
theorem bA{a:Expr}{ta:TE}(ha:PE X a ta)(he:∀whole,isTrue a X.env whole=(do let v←whole;standAt a.pos;holding [v] (truthy v)))(h:X.K=K:=by rfl):
  PT X a (fun σ H Q=>ta σ H fun x H'=>∃k,Kl K x H' k∧Q k H'):=by subst h;exact Ip ha he
theorem gu{pos:Pos}{es:List Expr}{k:Nat}{t:Lu}{n:Nat}(hc:X.calm=true)(h:NF X es t)
  (hn:(assignEach es X.env).length=n:=by rfl) (hst:(assignEach es X.env).findIdx? (·.1)=none:=by rfl) (hK:X.K=K:=by rfl):PG X (.Tuple es k pos) (NJ K n t):=by subst hK;exact L9 hc h hn hst
theorem FR(hc:X.calm=true)(h:X.K=K:=by rfl):jZ X (.builtin "any") (Of K):=by subst h;exact Mr hc
theorem AX(hc:X.calm=true)(h:X.K=K:=by rfl):jZ X (.builtin "all") (Og K):=by subst h;exact Ms hc
theorem Kz(hc:X.calm=true)(h:X.K=K:=by rfl):jZ X (.builtin "sum") (Oe K):=by subst h;exact Mq hc
end
theorem bb:bootBuiltins "len"=some (.builtin "len"):=by decide +kernel
theorem oe:bootBuiltins "list"=some (.type "list"):=by decide +kernel
theorem wH:bootBuiltins "max"=some (.builtin "max"):=by decide +kernel
theorem Ec:bootBuiltins "sum"=some (.builtin "sum"):=by decide +kernel
theorem qx:bootBuiltins "all"=some (.builtin "all"):=by decide +kernel
theorem wI:bootBuiltins "any"=some (.builtin "any"):=by decide +kernel
theorem l5:bootBuiltins "abs"=some (.builtin "abs"):=by decide +kernel
structure Yl(J:It)(H1:Hp)(n:Nat)(R:Nat→Hp→V→Prop):Prop where
 go:∀i H,aJ H1 H→i<n→J.go i H
 yl:∀i H x H',aJ H1 H→i<n→J.Ng i H x H'→aJ H H'∧R i H' x
 st:∀H,aJ H1 H→J.stop n H
theorem ay{H:Hp}{p:Addr}{o:HO}(h:H p=none):aJ H (upd H p o):=fun b u e=>by rw[aR (bT e h)];exact e
theorem _root_.L2.aJ.over{H H':Hp}{p:Addr}{o:HO}(s:aJ H H')(h:H p=none):aJ H (upd H' p o):=fun b u e=>by rw[aR (bT e h)];exact s b u e
theorem cy{K:PySem.W.Frag}{a:Addr}{H1:Hp}{vs:List V}(h:gn K H1 a vs):Yl (Pc K a) H1 vs.length (fun i _ x=>vs[i]? =some x) where
 go:=fun i H s hi=>⟨vs,vs[i],s.seq h,by simp[hi]⟩
 yl:=fun i H x H' s hi ⟨e,y⟩=>⟨by rw[e];exact .refl _,y vs (s.seq h)⟩
 st:=fun H s=>⟨vs,s.seq h,Nat.le_refl _⟩
theorem iz(H1:Hp)(lo:Int)(n:Nat):Yl (NM lo n) H1 n (fun i _ x=>x= .int (lo+i)) where
 go:=fun i H s hi=>hi
 yl:=fun i H x H' s hi ⟨e,y⟩=>⟨by rw[e];exact .refl _,y⟩
 st:=fun H s=>Nat.le_refl _
theorem zL(H1:Hp)(lo c:Int)(n:Nat):Yl (Pq lo c n) H1 n (fun i _ x=>x= .int (lo+(i:Nat)*c)) where
 go:=fun i H s hi=>hi
 yl:=fun i H x H' s hi ⟨e,y⟩=>⟨by rw[e];exact .refl _,y⟩
 st:=fun H s=>Nat.le_refl _
theorem Mx{K:PySem.W.Frag}{a:Addr}{H1:Hp}{vs:List V}(h:gn K H1 a vs):Yl (Pr K a vs.length) H1 vs.length (fun i _ x=>vs[vs.length - 1 - i]? =some x) where
 go:=fun i H s hi=>⟨hi,vs,vs[vs.length - 1 - i]'(by lia),s.seq h,by rw[List.getElem?_eq_getElem (by lia)]⟩
 yl:=fun i H x H' s hi ⟨e,y⟩=>⟨by rw[e];exact .refl _,y vs (s.seq h)⟩
 st:=fun H s=>Nat.le_refl _
theorem l6{K:PySem.W.Frag}{a:Addr}{H1:Hp}{vs:List V}(h:gn K H1 a vs):Yl (Pu K a) H1 vs.length (fun i H x=>∃T y,x= .ref T∧H T=some (.tup [.int (i:Nat),y])∧vs[i]? =some y) where
 go:=fun i H s hi=>⟨vs,vs[i],s.seq h,by simp[hi]⟩
 yl:=fun i H x H' s hi ⟨T,y,e,n,e2,q⟩=>⟨by rw[e2];exact ay n,T,y,e,by rw[e2];exact ai,q vs (s.seq h)⟩
 st:=fun H s=>⟨vs,s.seq h,Nat.le_refl _⟩
theorem My{K:PySem.W.Frag}{a b:Addr}{H1:Hp}{vs us:List V}(h:gn K H1 a vs)(h':gn K H1 b us)(hl:vs.length=us.length):Yl (Pw K a b) H1 vs.length (fun i H x=>∃T y z,x= .ref T∧H T=some (.tup [y,z])∧vs[i]? =some y∧us[i]? =some z) where
 go:=fun i H s hi=>⟨vs,us,vs[i],us[i]'(by lia),s.seq h,s.seq h',by simp[hi],by rw[List.getElem?_eq_getElem (by lia)]⟩
 yl:=fun i H x H' s hi ⟨T,y,z,e,n,e2,q,q2⟩=>⟨by rw[e2];exact ay n,T,y,z,e,by rw[e2];exact ai,q vs (s.seq h),q2 us (s.seq h')⟩
 st:=fun H s=>⟨vs,us,s.seq h,s.seq h',.inl (Nat.le_refl _)⟩
theorem fA{J:It}{H1:Hp}{n:Nat}{R:Nat→Hp→V→Prop}(Y:Yl J H1 n R){g:TG}{tb:TS}{D:Ends}{σ:L2.St}{Hs:Hp}(Pv:Nat→L2.St→Hp→Prop)(h0:Pv 0 σ Hs)(sm:∀i σ H,Pv i σ H→aJ H1 H)
  (hs:∀i x σ H H',i<n→Pv i σ H→aJ H1 H'→aJ H H'→R i H' x→g x σ H' fun σ2 H2=>tb {D with nx:=Pv (i+1),ct:=Pv (i+1),bk:=D.nx} σ2 H2) (hd:∀σ H,Pv n σ H→D.nx σ H):
  ∃W:Nat→Nat→L2.St→Hp→Prop,(∃m,W 0 m σ Hs)∧∀i m σ H,W i m σ H→
   (J.stop i H∧D.nx σ H)∨(J.go i H∧∃N:L2.St→Hp→Prop,(∀σ' H',N σ' H'→∃m',m' <m∧W (i+1) m' σ' H')∧∀x H',J.Ng i H x H'→g x σ H' fun σ2 H2=>tb {D with nx:=N,ct:=N,bk:=D.nx} σ2 H2):=by
 refine⟨fun i m σ H=>m=n - i∧i≤n∧Pv i σ H,⟨n,by simp,Nat.zero_le _,h0⟩,?_⟩
 rintro i m σ H ⟨rfl,hi,p⟩
 have s:=sm i σ H p
 by_cases hlt:i<n
 ·refine .inr ⟨Y.go i H s hlt,Pv (i+1),fun σ' H' p'=>⟨n - (i+1),by lia,rfl,hlt,p'⟩,fun x H' y=> ?_⟩
  obtain⟨s2,r⟩:=Y.yl i H x H' s hlt y
  exact hs i x σ H H' hlt p (s.trans s2) s2 r
 ·have e:i=n:=by lia
  subst e
  exact .inl ⟨Y.st H s,hd σ H p⟩
def IG(H1:Hp)(D:Addr)(P:Hp→List V→Prop)(H:Hp):Prop:=aJ H1 H∧∃acc,H D=some (.lst acc)∧P H acc
theorem dE{H1 H4:Hp}{D:Addr}{P:Hp→List V→Prop}{acc:List V}{y:V}(hD:H1 D=none)(s:aJ H1 H4)(h:H4 D=some (.lst acc))(hl:acc.length<sizeLine)(p:P (upd H4 D (.lst (acc ++ [y]))) (acc ++ [y])):
  ∃acc,H4 D=some (.lst acc)∧acc.length<sizeLine∧IG H1 D P (upd H4 D (.lst (acc ++ [y]))):=⟨acc,h,hl,s.over hD,_,ai,p⟩
theorem ny{J:It}{H1:Hp}{n:Nat}{R:Nat→Hp→V→Prop}(Y:Yl J H1 n R){g:TG}{tt:TT}{te:TE}{vs:List Nat}{σ:L2.St}{D:Addr}{Qd:Hp→Prop}(hD:H1 D=none)(Pv:Nat→Hp→List V→Prop)(h0:Pv 0 (upd H1 D (.lst [])) [])
  (hs:∀i x H H' acc,i<n→aJ H1 H→H D=some (.lst acc)→Pv i H acc→aJ H1 H'→aJ H H'→H' D=some (.lst acc)→R i H' x→g x (wipe σ vs) H' fun σ2 H2=>wipe σ2 vs=wipe σ vs∧tt σ2 H2 fun b H3=>
   if b=true then te σ2 H3 fun y H4=>∃acc,H4 D=some (.lst acc)∧acc.length<sizeLine∧IG H1 D (Pv (i+1)) (upd H4 D (.lst (acc ++ [y]))) else IG H1 D (Pv (i+1)) H3)
  (hd:∀H acc,aJ H1 H→H D=some (.lst acc)→Pv n H acc→Qd H):
  ∃W:Nat→Nat→Hp→Prop,(∃m,W 0 m (upd H1 D (.lst [])))∧∀i m H,W i m H→
   (J.stop i H∧Qd H)∨(J.go i H∧∃Nx:Hp→Prop,(∀H',Nx H'→∃m',m' <m∧W (i+1) m' H')∧∀x H',J.Ng i H x H'→g x (wipe σ vs) H' fun σ2 H2=>wipe σ2 vs=wipe σ vs∧tt σ2 H2 fun b H3=>
    if b=true then te σ2 H3 fun y H4=>∃acc,H4 D=some (.lst acc)∧acc.length<sizeLine∧Nx (upd H4 D (.lst (acc ++ [y]))) else Nx H3):=by
 refine⟨fun i m H=>m=n - i∧i≤n∧IG H1 D (Pv i) H,⟨n,by simp,Nat.zero_le _,ay hD,[],ai,h0⟩,?_⟩
 rintro i m H ⟨rfl,hi,s,acc,ha,p⟩
 by_cases hlt:i<n
 ·refine .inr ⟨Y.go i H s hlt,IG H1 D (Pv (i+1)),fun H' q=>⟨n - (i+1),by lia,rfl,hlt,q⟩,fun x H' y=> ?_⟩
  obtain⟨s2,r⟩:=Y.yl i H x H' s hlt y
  exact hs i x H H' acc hlt s ha p (s.trans s2) s2 (s2 _ _ ha) r
 ·have e:i=n:=by lia
  subst e
  exact .inl ⟨Y.st H s,hd H acc s ha p⟩
theorem aG{α:Type}{xs:List α}{z:Int}{j:Nat}{v:α}(e:z=(j:Int))(h:xs[j]? =some v):Iy xs z=some v:=by rw[e];exact Kr h
theorem l9{n:Nat}{z:Int}{j:Nat}(e:z=(j:Int))(h:j<n):Iw n z=some j:=by
 unfold Iw
 rw[e,if_pos (Int.natCast_nonneg j),if_pos (by lia)]
 simp
theorem az{α:Type}{l:List α}{d:α}{j:Nat}(h:j<l.length):l[j]? =some (l.getD j d):=by
 rw[gDe,List.getElem?_eq_getElem h];rfl
theorem cu{l:List Int}{j:Nat}(h:j<l.length):(l.map V.int)[j]? =some (V.int (l.getD j 0)):=by
 rw[List.getElem?_map,az (d:=0) h];rfl
theorem aw{n:Nat}(h:n≤16777216):n≤sizeLine:=by rw[sizeLine_eq];exact h
theorem aL{n:Nat}(h:n<16777216):n<sizeLine:=by rw[sizeLine_eq];exact h
theorem sco{N P:List Str}{sc:Scope}(a:sc.kind= .function)(b:sc.isCoroutine=false)(c:sc.isGenerator=false)(e:N.take P.length=P)(h:N.Nodup∧(∀x∈P,sc.names.lookup x=some .local∨sc.names.lookup x=some .cell)∧∀y∈sc.names,y.2≠.free):aE N P sc:=⟨a,b,c,h.1,e,h.2.1,h.2.2⟩
end B7
namespace ak
open Lean.Grind
section det
variable {R:Type} [CommRing R]
def a7:Nat→(Nat→R)→R
 |0,_=>0
 |n+1,f=>a7 n f+f n
theorem bc:∀(n:Nat) {f g:Nat→R},(∀i,i<n→f i=g i)→a7 n f=a7 n g
 |0,_,_,_=>rfl
 |n+1,f,g,h=>by
  show a7 n f+f n=a7 n g+g n
  rw[bc n (fun i hi=>h i (by lia)),h n (by lia)]
theorem rN:∀(n:Nat) (f g:Nat→R),a7 n (fun i=>f i+g i)=a7 n f+a7 n g
 |0,_,_=>by show(0:R)=0+0;grind
 |n+1,f,g=>by
  show a7 n (fun i=>f i+g i)+(f n+g n)=a7 n f+f n+(a7 n g+g n)
  rw[rN n f g];grind
theorem cg:∀(n:Nat) (c:R) (f:Nat→R),a7 n (fun i=>c*f i)=c*a7 n f
 |0,c,_=>by show(0:R)=c*0;grind
 |n+1,c,f=>by
  show a7 n (fun i=>c*f i)+c*f n=c*(a7 n f+f n)
  rw[cg n c f];grind
theorem pj:∀(n:Nat) {f:Nat→R},(∀i,i<n→f i=0)→a7 n f=0
 |0,_,_=>rfl
 |n+1,f,h=>by
  show a7 n f+f n=0
  rw[pj n (fun i hi=>h i (by lia)),h n (by lia)];grind
theorem iA:∀(n:Nat) {f:Nat→R} (k:Nat),k<n→(∀i,i<n→i≠k→f i=0)→a7 n f=f k
 |0,_,k,hk,_=>by lia
 |n+1,f,k,hk,h=>by
  show a7 n f+f n=f k
  by_cases e:k=n
  ·subst e
   rw[pj k (fun i hi=>h i (by lia) (by lia))];grind
  ·rw[iA n k (by lia) (fun i hi=>h i (by lia)),h n (by lia) (by lia)];grind
theorem wJ:∀(n:Nat) {f:Nat→R} (k l:Nat),k<l→l<n→(∀i,i<n→i≠k→i≠l→f i=0)→a7 n f=f k+f l
 |0,_,k,l,hk,hl,_=>by lia
 |n+1,f,k,l,hk,hl,h=>by
  show a7 n f+f n=f k+f l
  by_cases e:l=n
  ·subst e
   rw[iA l k (by lia) (fun i hi hik=>h i (by lia) hik (by lia))]
  ·rw[wJ n k l hk (by lia) (fun i hi=>h i (by lia)),h n (by lia) (by lia) (by lia)];grind
theorem tQ:∀(n m:Nat) (f:Nat→Nat→R),a7 n (fun i=>a7 m (fun j=>f i j))=a7 m (fun j=>a7 n (fun i=>f i j))
 |0,m,f=>by
  show(0:R)=_
  exact(pj m fun _ _=>rfl).symm
 |n+1,m,f=>by
  show a7 n (fun i=>a7 m (fun j=>f i j))+a7 m (fun j=>f n j)=a7 m (fun j=>a7 n (fun i=>f i j)+f n j)
  rw[tQ n m f,rN]
theorem zM:∀(n:Nat) (f:Nat→R),a7 (n+1) f=f 0+a7 n (fun i=>f (i+1))
 |0,f=>by show(0:R)+f 0=f 0+0;grind
 |n+1,f=>by
  show a7 (n+1) f+f (n+1)=f 0+(a7 n (fun i=>f (i+1))+f (n+1))
  rw[zM n f];grind
def sg(i:Nat):R:=if i % 2=0 then 1 else -1
theorem AY:(sg 0:R)=1:=by unfold sg;exact if_pos rfl
theorem FT(i:Nat):(sg (i+1):R)= - sg i:=by
 unfold sg
 by_cases h:i % 2=0
 ·rw[if_pos h,if_neg (by lia)]
 ·rw[if_neg h,if_pos (by lia)];grind
def skip(i a:Nat):Nat:=if a<i then a else a+1
def del(i:Nat)(A:Nat→Nat→R):Nat→Nat→R:=fun a b=>A (skip i a) (b+1)
def det:Nat→(Nat→Nat→R)→R
 |0,_=>1
 |n+1,A=>a7 (n+1) fun i=>sg i*(A i 0*det n (del i A))
theorem cB(n:Nat)(A:Nat→Nat→R):det (n+1) A=a7 (n+1) fun i=>sg i*(A i 0*det n (del i A)):=rfl
theorem rO{i a n:Nat}(h:a<n):skip i a<n+1:=by unfold skip;split <;>lia
theorem bh:∀(n:Nat) {A B:Nat→Nat→R},(∀i j,i<n→j<n→A i j=B i j)→det n A=det n B
 |0,_,_,_=>rfl
 |n+1,A,B,h=>by
  rw[cB,cB]
  refine bc _ fun i hi=> ?_
  rw[h i 0 hi (by lia),bh n (A:=del i A) (B:=del i B) fun a b ha hb=>h _ _ (rO ha) (by lia)]
def a8(A:Nat→Nat→R)(r:Nat)(v:Nat→R):Nat→Nat→R:=fun i j=>if i=r then v j else A i j
def bE(A:Nat→Nat→R)(c:Nat)(v:Nat→R):Nat→Nat→R:=fun i j=>if j=c then v i else A i j
theorem bH{A:Nat→Nat→R}{r:Nat}{v:Nat→R}{j:Nat}:a8 A r v r j=v j:=if_pos rfl
theorem bO{A:Nat→Nat→R}{r i:Nat}{v:Nat→R}{j:Nat}(h:i≠r):a8 A r v i j=A i j:=if_neg h
theorem c8{A:Nat→Nat→R}{c:Nat}{v:Nat→R}{i:Nat}:bE A c v i c=v i:=if_pos rfl
theorem gb{A:Nat→Nat→R}{c i:Nat}{v:Nat→R}{j:Nat}(h:j≠c):bE A c v i j=A i j:=if_neg h
def place(i r:Nat):Nat:=if r<i then r else r - 1
theorem Ed{i r:Nat}(h:r≠i):skip i (place i r)=r:=by
 unfold skip place
 repeat' split
 all_goals lia
theorem Ee(i a:Nat):place i (skip i a)=a:=by
 unfold skip place
 repeat' split
 all_goals lia
theorem FU(i a:Nat):skip i a≠i:=by unfold skip;split <;>lia
theorem place_lt{i r n:Nat}(hr:r<n+1)(hi:i<n+1)(h:r≠i):place i r<n:=by unfold place;split <;>lia
theorem iJ(A:Nat→Nat→R)(r:Nat)(v:Nat→R):del r (a8 A r v)=del r A:=by
 funext a b
 exact bO (FU r a)
theorem qy(A:Nat→Nat→R){i r:Nat}(h:r≠i)(v:Nat→R):del i (a8 A r v)=a8 (del i A) (place i r) (fun b=>v (b+1)):=by
 funext a b
 show(if skip i a=r then v (b+1) else A (skip i a) (b+1))=if a=place i r then v (b+1) else A (skip i a) (b+1)
 by_cases e:a=place i r
 ·rw[if_pos e,if_pos (by rw[e];exact Ed h)]
 ·rw[if_neg e,if_neg (fun q=>e (by rw[←q,Ee]))]
theorem cC:∀(n:Nat) (A:Nat→Nat→R) (r:Nat) (c:R) (u v:Nat→R),r<n→det n (a8 A r fun j=>u j+c*v j)=det n (a8 A r u)+c*det n (a8 A r v)
 |0,_,_,_,_,_,h=>by lia
 |n+1,A,r,c,u,v,h=>by
  rw[cB,cB,cB,←cg,←rN]
  refine bc _ fun i hi=> ?_
  by_cases e:r=i
  ·subst e
   rw[iJ,iJ,iJ,bH,bH,bH];grind
  ·rw[qy A e,qy A e,qy A e,bO (Ne.symm e),bO (Ne.symm e),bO (Ne.symm e),cC n _ _ _ _ _ (place_lt h hi e)];grind
theorem kN(n:Nat)(A:Nat→Nat→R)(r:Nat)(c:R)(v:Nat→R)(h:r<n):det n (a8 A r fun j=>c*v j)=c*det n (a8 A r v):=by
 have e0:det n (a8 A r fun _=>(0:R))=0:=by
  have e:=cC n A r (-1) (fun _=>(0:R)) (fun _=>0) h
  have e2:(fun _:Nat=>(0:R)+(-1)*0)=fun _=>0:=by funext j;grind
  rw[e2] at e;grind
 have e:=cC n A r c (fun _=>(0:R)) v h
 have e2:(fun j:Nat=>(0:R)+c*v j)=fun j=>c*v j:=by funext j;grind
 rw[e2,e0] at e
 grind
theorem ma(n:Nat)(A:Nat→Nat→R)(r:Nat)(h:r<n)(hz:∀j,j<n→A r j=0):det n A=0:=by
 have e:det n A=det n (a8 A r fun j=>(0:R)*0):=bh n fun i j hi hj=>by
  by_cases q:i=r
  ·subst q;rw[bH,hz j hj];grind
  ·rw[bO q]
 rw[e,kN n A r 0 (fun _=>0) h];grind
theorem wg:∀(n:Nat) (A:Nat→Nat→R) (r:Nat),r+1<n→(∀j,j<n→A r j=A (r+1) j)→det n A=0
 |0,_,_,h,_=>by lia
 |n+1,A,r,h,he=>by
  rw[cB,wJ (n+1) r (r+1) (by lia) h ?_]
  ·have e:det n (del r A)=det n (del (r+1) A):=bh n fun a b ha hb=>by
    show A (skip r a) (b+1)=A (skip (r+1) a) (b+1)
    by_cases q:a=r
    ·subst q
     have e1:skip a a=a+1:=by unfold skip;rw[if_neg (by lia)]
     have e2:skip (a+1) a=a:=by unfold skip;rw[if_pos (by lia)]
     rw[e1,e2,he _ (by lia)]
    ·have e1:skip r a=skip (r+1) a:=by unfold skip;split <;>split <;>lia
     rw[e1]
   rw[e,he 0 (by lia),FT];grind
  ·intro i hi h1 h2
   have e:det n (del i A)=0:=by
    by_cases q:i<r
    ·refine wg n (del i A) (r - 1) (by lia) fun j hj=> ?_
     show A (skip i (r - 1)) (j+1)=A (skip i (r - 1+1)) (j+1)
     have e1:skip i (r - 1)=r:=by unfold skip;rw[if_neg (by lia)];lia
     have e2:skip i (r - 1+1)=r+1:=by unfold skip;rw[if_neg (by lia)];lia
     rw[e1,e2,he _ (by lia)]
    ·refine wg n (del i A) r (by lia) fun j hj=> ?_
     show A (skip i r) (j+1)=A (skip i (r+1)) (j+1)
     have e1:skip i r=r:=by unfold skip;rw[if_pos (by lia)]
     have e2:skip i (r+1)=r+1:=by unfold skip;rw[if_pos (by lia)]
     rw[e1,e2,he _ (by lia)]
   rw[e];grind
def cV(A:Nat→Nat→R)(r t:Nat):Nat→Nat→R:=fun i j=>if i=r then A t j else if i=t then A r j else A i j
theorem AZ(n:Nat)(A:Nat→Nat→R)(r:Nat)(h:r+1<n):det n (cV A r (r+1))= - det n A:=by
 have hr:r<n:=by lia
 let B:(Nat→R)→(Nat→R)→Nat→Nat→R:=fun u v=>a8 (a8 A r u) (r+1) v
 have adj:∀u,det n (B u u)=0:=fun u=>wg n _ r h fun j _=>by
  show a8 (a8 A r u) (r+1) u r j=a8 (a8 A r u) (r+1) u (r+1) j
  rw[bO (by lia),bH,bH]
 have l2:∀u v v',det n (B u fun j=>v j+1*v' j)=det n (B u v)+1*det n (B u v'):=fun u v v'=>cC n _ _ 1 v v' h
 have comm:∀u v,B u v=a8 (a8 A (r+1) v) r u:=fun u v=>by
  funext i j
  show(if i=r+1 then v j else if i=r then u j else A i j)=if i=r then u j else if i=r+1 then v j else A i j
  by_cases e1:i=r
  ·rw[if_pos e1,if_neg (by lia),if_pos e1]
  ·rw[if_neg e1,if_neg e1]
 have l1:∀u u' v,det n (B (fun j=>u j+1*u' j) v)=det n (B u v)+1*det n (B u' v):=fun u u' v=>by
  rw[comm,comm,comm];exact cC n _ _ 1 u u' hr
 have eA:det n A=det n (B (A r) (A (r+1))):=bh n fun i j _ _=>by
  show A i j=if i=r+1 then A (r+1) j else if i=r then A r j else A i j
  by_cases e1:i=r+1
  ·rw[if_pos e1,e1]
  ·rw[if_neg e1]
   by_cases e2:i=r
   ·rw[if_pos e2,e2]
   ·rw[if_neg e2]
 have eS:det n (cV A r (r+1))=det n (B (A (r+1)) (A r)):=bh n fun i j _ _=>by
  show(if i=r then A (r+1) j else if i=r+1 then A r j else A i j)=if i=r+1 then A r j else if i=r then A (r+1) j else A i j
  by_cases e1:i=r
  ·rw[if_pos e1,if_neg (by lia),if_pos e1]
  ·rw[if_neg e1,if_neg e1]
 have s:=adj fun j=>A r j+1*A (r+1) j
 rw[l2,l1,l1,adj,adj] at s
 rw[eA,eS]
 grind
theorem og(n:Nat):∀(d:Nat) (A:Nat→Nat→R) (r:Nat),r+d+1<n→(∀j,j<n→A r j=A (r+d+1) j)→det n A=0
 |0,A,r,h,he=>wg n A r h he
 |d+1,A,r,h,he=>by
  have s:=AZ n A (r+d+1) (by lia)
  have z:det n (cV A (r+d+1) (r+d+1+1))=0:=by
   refine og n d _ r (by lia) fun j hj=> ?_
   show(if r=r+d+1 then _ else if r=r+d+1+1 then _ else A r j)=if r+d+1=r+d+1 then A (r+d+1+1) j else _
   rw[if_neg (by lia),if_neg (by lia),if_pos rfl]
   exact he j hj
  rw[z] at s
  grind
theorem pw(n:Nat)(A:Nat→Nat→R)(r t:Nat)(hr:r<n)(ht:t<n)(hne:r≠t)(he:∀j,j<n→A r j=A t j):det n A=0:=by
 by_cases h:r<t
 ·obtain⟨d,rfl⟩:∃d,t=r+d+1:=⟨t - r - 1,by lia⟩
  exact og n d A r (by lia) he
 ·obtain⟨d,rfl⟩:∃d,r=t+d+1:=⟨r - t - 1,by lia⟩
  exact og n d A t (by lia) fun j hj=>(he j hj).symm
theorem Ef(n:Nat)(A:Nat→Nat→R)(r t:Nat)(c:R)(hr:r<n)(ht:t<n)(hne:r≠t):det n (a8 A r fun j=>A r j+c*A t j)=det n A:=by
 rw[cC n A r c _ _ hr]
 have z:det n (a8 A r (A t))=0:=pw n _ r t hr ht hne fun j _=>by rw[bH,bO (Ne.symm hne)]
 have e:det n (a8 A r (A r))=det n A:=bh n fun i j _ _=>by
  by_cases q:i=r
  ·subst q;exact bH
  ·exact bO q
 rw[z,e];grind
theorem IH(n:Nat)(A:Nat→Nat→R)(r t:Nat)(hr:r<n)(ht:t<n)(hne:r≠t):det n (cV A r t)= - det n A:=by
 let B:(Nat→R)→(Nat→R)→Nat→Nat→R:=fun u v=>a8 (a8 A r u) t v
 have adj:∀u,det n (B u u)=0:=fun u=>pw n _ r t hr ht hne fun j _=>by
  show a8 (a8 A r u) t u r j=a8 (a8 A r u) t u t j
  rw[bO hne,bH,bH]
 have l2:∀u v v',det n (B u fun j=>v j+1*v' j)=det n (B u v)+1*det n (B u v'):=fun u v v'=>cC n _ _ 1 v v' ht
 have comm:∀u v,B u v=a8 (a8 A t v) r u:=fun u v=>by
  funext i j
  show(if i=t then v j else if i=r then u j else A i j)=if i=r then u j else if i=t then v j else A i j
  by_cases e1:i=r
  ·rw[if_pos e1,if_neg (by lia),if_pos e1]
  ·rw[if_neg e1,if_neg e1]
 have l1:∀u u' v,det n (B (fun j=>u j+1*u' j) v)=det n (B u v)+1*det n (B u' v):=fun u u' v=>by
  rw[comm,comm,comm];exact cC n _ _ 1 u u' hr
 have eA:det n A=det n (B (A r) (A t)):=bh n fun i j _ _=>by
  show A i j=if i=t then A t j else if i=r then A r j else A i j
  by_cases e1:i=t
  ·rw[if_pos e1,e1]
  ·rw[if_neg e1]
   by_cases e2:i=r
   ·rw[if_pos e2,e2]
   ·rw[if_neg e2]
 have eS:det n (cV A r t)=det n (B (A t) (A r)):=bh n fun i j _ _=>by
  show(if i=r then A t j else if i=t then A r j else A i j)=if i=t then A r j else if i=r then A t j else A i j
  by_cases e1:i=r
  ·rw[if_pos e1,if_neg (by lia),if_pos e1]
  ·rw[if_neg e1,if_neg e1]
 have s:=adj fun j=>A r j+1*A t j
 rw[l2,l1,l1,adj,adj] at s
 rw[eA,eS]
 grind
def tr(A:Nat→Nat→R):Nat→Nat→R:=fun i j=>A j i
theorem kP:∀(n:Nat) (A:Nat→Nat→R),det n (tr A)=det n A
 |0,_=>rfl
 |1,A=>rfl
 |n+2,A=>by
  have key:∀B:Nat→Nat→R,(∀m,m<n+2→∀C:Nat→Nat→R,det m (tr C)=det m C)→det (n+2) B=B 0 0*det (n+1) (del 0 B) - a7 (n+1) fun i=>a7 (n+1) fun j=>sg (i+j)*(B (i+1) 0*B 0 (j+1)*det n (fun a b=>B (skip i a+1) (skip j b+1))):=by
   intro B ih
   rw[cB,zM,AY]
   have e:a7 (n+1) (fun i=>sg (i+1)*(B (i+1) 0*det (n+1) (del (i+1) B)))= - a7 (n+1) fun i=>a7 (n+1) fun j=>sg (i+j)*(B (i+1) 0*B 0 (j+1)*det n (fun a b=>B (skip i a+1) (skip j b+1))):=by
    have m1:∀x:R,- x=(-1)*x:=fun x=>by grind
    rw[m1,←cg]
    refine bc _ fun i hi=> ?_
    rw[←ih (n+1) (by lia) (del (i+1) B),cB,←cg,←cg,←cg]
    refine bc _ fun j hj=> ?_
    have e1:tr (del (i+1) B) j 0=B 0 (j+1):=by
     show B (skip (i+1) 0) (j+1)=_
     unfold skip;rw[if_pos (by lia)]
    have e2:det n (del j (tr (del (i+1) B)))=det n (fun a b=>B (skip i a+1) (skip j b+1)):=by
     rw[←ih n (by lia) (fun a b=>B (skip i a+1) (skip j b+1))]
     refine bh n fun a b ha hb=> ?_
     show B (skip (i+1) (b+1)) (skip j a+1)=B (skip i b+1) (skip j a+1)
     have e3:skip (i+1) (b+1)=skip i b+1:=by
      unfold skip
      repeat' split
      all_goals lia
     rw[e3]
    rw[e1,e2,FT]
    have e4:(sg (i+j):R)=sg i*sg j:=by
     unfold sg
     repeat' split
     all_goals first |grind |lia
    rw[e4];grind
   rw[e];grind
  have ih:∀m,m<n+2→∀C:Nat→Nat→R,det m (tr C)=det m C:=fun m hm C=>kP m C
  rw[key A ih,key (tr A) ih,tQ]
  have e0:det (n+1) (del 0 (tr A))=det (n+1) (del 0 A):=by
   rw[←ih (n+1) (by lia) (del 0 A)]
   refine bh _ fun a b _ _=> ?_
   show A (b+1) (skip 0 a)=A (skip 0 b) (a+1)
   unfold skip;rw[if_neg (by lia),if_neg (by lia)]
  rw[e0]
  have e5:a7 (n+1) (fun j=>a7 (n+1) fun i=>sg (i+j)*(tr A (i+1) 0*tr A 0 (j+1)*det n (fun a b=>tr A (skip i a+1) (skip j b+1))))=a7 (n+1) fun i=>a7 (n+1) fun j=>sg (i+j)*(A (i+1) 0*A 0 (j+1)*det n (fun a b=>A (skip i a+1) (skip j b+1))):=by
   refine bc _ fun i hi=>bc _ fun j hj=> ?_
   have e6:det n (fun a b=>tr A (skip j a+1) (skip i b+1))=det n (fun a b=>A (skip i a+1) (skip j b+1)):=by
    rw[←ih n (by lia) (fun a b=>A (skip i a+1) (skip j b+1))];rfl
   rw[e6,Nat.add_comm j i]
   show sg (i+j)*(A 0 (j+1)*A (i+1) 0*_)=_
   grind
  rw[e5]
  rfl
theorem gV(A:Nat→Nat→R)(c:Nat)(v:Nat→R):tr (bE A c v)=a8 (tr A) c v:=rfl
theorem Cz(n:Nat)(A:Nat→Nat→R)(r:Nat)(c:R)(u v:Nat→R)(h:r<n):det n (bE A r fun j=>u j+c*v j)=det n (bE A r u)+c*det n (bE A r v):=by
 rw[←kP,←kP n (bE A r u),←kP n (bE A r v),gV,gV,gV]
 exact cC n _ _ _ _ _ h
theorem qf(n:Nat)(A:Nat→Nat→R)(r:Nat)(c:R)(v:Nat→R)(h:r<n):det n (bE A r fun j=>c*v j)=c*det n (bE A r v):=by
 rw[←kP,←kP n (bE A r v),gV,gV]
 exact kN n _ _ _ _ h
theorem iZ(n:Nat)(A:Nat→Nat→R)(c:Nat)(h:c<n)(hz:∀i,i<n→A i c=0):det n A=0:=by
 rw[←kP]
 exact ma n _ c h hz
theorem yK(n:Nat)(A:Nat→Nat→R)(r t:Nat)(hr:r<n)(ht:t<n)(hne:r≠t)(he:∀i,i<n→A i r=A i t):det n A=0:=by
 rw[←kP]
 exact pw n _ r t hr ht hne he
theorem oh(n:Nat)(A:Nat→Nat→R)(r:Nat)(hr:r<n):∀(m:Nat) (x:Nat→R) (v:Nat→Nat→R),det n (a8 A r fun j=>a7 m fun d=>x d*v d j)=a7 m fun d=>x d*det n (a8 A r (v d))
 |0,x,v=>ma n _ r hr fun j _=>bH
 |m+1,x,v=>by
  show det n (a8 A r fun j=>a7 m (fun d=>x d*v d j)+x m*v m j)=a7 m (fun d=>x d*det n (a8 A r (v d)))+x m*det n (a8 A r (v m))
  rw[cC n A r (x m) _ _ hr,oh n A r hr m x v]
theorem vj(n:Nat)(A:Nat→Nat→R)(c:Nat)(hc:c<n)(m:Nat)(x:Nat→R)(v:Nat→Nat→R):det n (bE A c fun i=>a7 m fun d=>x d*v d i)=a7 m fun d=>x d*det n (bE A c (v d)):=by
 rw[←kP,gV,oh n _ _ hc]
 refine bc _ fun d _=> ?_
 rw[←gV,kP]
theorem CA(A:Nat→Nat→R)(c:Nat):bE A c (fun i=>A i c)=A:=by
 funext i j
 by_cases q:j=c
 ·subst q;exact c8
 ·exact gb q
theorem CB(A:Nat→Nat→R)(r:Nat):a8 A r (A r)=A:=by
 funext i j
 by_cases q:i=r
 ·subst q;exact bH
 ·exact bO q
theorem wK(n:Nat)(A:Nat→Nat→R)(x b:Nat→R)(c:Nat)(hc:c<n)(h:∀i,i<n→a7 n (fun d=>A i d*x d)=b i):det n (bE A c b)=x c*det n A:=by
 have e:det n (bE A c b)=det n (bE A c fun i=>a7 n fun d=>x d*A i d):=bh n fun i j hi hj=>by
  by_cases q:j=c
  ·subst q
   rw[c8,c8,←h i hi]
   exact bc _ fun d _=>by grind
  ·rw[gb q,gb q]
 rw[e,vj n A c hc n x (fun d i=>A i d),iA n c hc]
 ·rw[CA]
 ·intro d hd hdc
  rw[yK n _ c d hc hd (Ne.symm hdc) fun i _=>by rw[c8,gb hdc]]
  grind
def ei(i:Nat):Nat→R:=fun j=>if j=i then 1 else 0
theorem m5(i:Nat):(ei i:Nat→R) i=1:=if_pos rfl
theorem qg{i j:Nat}(h:j≠i):(ei i:Nat→R) j=0:=if_neg h
theorem CC(n:Nat)(A:Nat→Nat→R)(i c:Nat)(hi:i<n)(hc:c<n):det n (bE A c (ei i))=det n (a8 A i (ei c)):=by
 have one:∀B:Nat→Nat→R,(∀a,a<n→B a c=ei i a)→det n B=det n (a8 B i (ei c)):=by
  intro B hB
  have e:det n B=det n (a8 B i fun j=>ei c j+1*(if j=c then 0 else B i j)):=bh n fun a b ha hb=>by
   by_cases q:a=i
   ·subst q
    rw[bH]
    by_cases q2:b=c
    ·subst q2;rw[hB a ha,m5,m5,if_pos rfl];grind
    ·rw[qg q2,if_neg q2];grind
   ·rw[bO q]
  rw[e,cC n B i 1 _ _ hi,iZ n (a8 B i fun j=>if j=c then 0 else B i j) c hc fun a ha=> ?_]
  ·grind
  ·by_cases q:a=i
   ·subst q;rw[bH,if_pos rfl]
   ·rw[bO q,hB a ha,qg q]
 have h1:=one (bE A c (ei i)) fun a _=>c8
 have h2:det n (a8 A i (ei c))=det n (bE (a8 A i (ei c)) c (ei i)):=by
  have e:det n (a8 A i (ei c))=det n (bE (a8 A i (ei c)) c fun a=>ei i a+1*(if a=i then 0 else A a c)):=bh n fun a b ha hb=>by
   by_cases q2:b=c
   ·subst q2
    rw[c8]
    by_cases q:a=i
    ·subst q;rw[bH,m5,m5,if_pos rfl];grind
    ·rw[bO q,qg q,if_neg q];grind
   ·rw[gb q2]
  rw[e,Cz n _ c 1 _ _ hc,ma n (bE (a8 A i (ei c)) c fun a=>if a=i then 0 else A a c) i hi fun b hb=> ?_]
  ·grind
  ·by_cases q2:b=c
   ·subst q2;rw[c8,if_pos rfl]
   ·rw[gb q2,bH,qg q2]
 rw[h1,h2]
 refine bh n fun a b _ _=> ?_
 show(if a=i then ei c b else if b=c then ei i a else A a b)=if b=c then ei i a else if a=i then ei c b else A a b
 by_cases q:a=i
 ·by_cases q2:b=c
  ·subst q q2;rw[if_pos rfl,if_pos rfl,m5,m5]
  ·rw[if_pos q,if_neg q2,if_pos q]
 ·rw[if_neg q,if_neg q]
theorem II(n:Nat)(A:Nat→Nat→R)(v:Nat→R)(r:Nat)(hr:r<n):a7 n (fun c=>A r c*det n (bE A c v))=det n A*v r:=by
 have ev:∀c,c<n→det n (bE A c v)=a7 n fun i=>v i*det n (a8 A i (ei c)):=fun c hc=>by
  have e:det n (bE A c v)=det n (bE A c fun a=>a7 n fun d=>v d*ei d a):=bh n fun a b ha hb=>by
   by_cases q:b=c
   ·subst q
    rw[c8,c8,iA n a ha,m5]
    ·grind
    ·intro d _ hd;rw[qg (Ne.symm hd)];grind
   ·rw[gb q,gb q]
  rw[e,vj n A c hc n v fun d=>ei d]
  exact bc _ fun d hd=>by rw[CC n A d c hd hc]
 have e1:a7 n (fun c=>A r c*det n (bE A c v))=a7 n fun c=>a7 n fun i=>v i*(A r c*det n (a8 A i (ei c))):=bc _ fun c hc=>by
  rw[ev c hc,←cg]
  exact bc _ fun i _=>by grind
 rw[e1,tQ]
 have e2:∀i,i<n→a7 n (fun c=>v i*(A r c*det n (a8 A i (ei c))))=v i*det n (a8 A i (A r)):=fun i hi=>by
  rw[cg,←oh n A i hi n (A r) fun d=>ei d]
  refine congrArg (v i* ·) (bh n fun a b ha hb=> ?_)
  by_cases q:a=i
  ·subst q
   rw[bH,bH,iA n b hb,m5]
   ·grind
   ·intro d _ hd;rw[qg (Ne.symm hd)];grind
  ·rw[bO q,bO q]
 rw[bc n e2,iA n r hr,CB]
 ·grind
 ·intro i hi hir
  rw[pw n (a8 A i (A r)) i r hi hr hir fun j _=>by rw[bH,bO (Ne.symm hir)]]
  grind
theorem CD:∀(n:Nat) (A:Nat→Nat→R),(∀j,j<n+1→A n j=ei n j)→det (n+1) A=det n A
 |0,A,h=>by
  rw[cB]
  show(0:R)+sg 0*(A 0 0*1)=1
  rw[h 0 (by lia),m5,AY];grind
 |n+1,A,h=>by
  rw[cB]
  show a7 (n+1) (fun i=>sg i*(A i 0*det (n+1) (del i A)))+sg (n+1)*(A (n+1) 0*det (n+1) (del (n+1) A))=det (n+1) A
  rw[h 0 (by lia),qg (by lia),cB n A]
  have e:a7 (n+1) (fun i=>sg i*(A i 0*det (n+1) (del i A)))=a7 (n+1) (fun i=>sg i*(A i 0*det n (del i A))):=bc _ fun i hi=>by
   rw[CD n (del i A) fun j hj=> ?_]
   show A (skip i n) (j+1)=ei n j
   have e1:skip i n=n+1:=by unfold skip;rw[if_neg (by lia)]
   rw[e1,h (j+1) (by lia)]
   unfold ei
   by_cases q:j=n
   ·rw[if_pos q,if_pos (by lia)]
   ·rw[if_neg q,if_neg (by lia)]
  rw[e];grind
end det
section bar
variable {R:Type} [CommRing R]
def Reg(a:R):Prop:=∀x y:R,a*x=a*y→x=y
def mk(A:Nat→Nat→R)(k:Nat):R:=det k A
def mc(A:Nat→Nat→R)(k c j:Nat):R:=det k (bE A c fun i=>A i j)
def ti(A:Nat→Nat→R)(k i j:Nat):R:=mk A k*A i j - a7 k fun c=>A i c*mc A k c j
theorem wL(n:Nat)(f g:Nat→R):a7 n (fun i=>f i - g i)=a7 n f - a7 n g:=by
 have e:a7 n (fun i=>f i - g i)=a7 n (fun i=>f i+(-1)*g i):=bc _ fun i _=>by grind
 rw[e,rN,cg];grind
theorem tR(A:Nat→Nat→R)(k r j:Nat)(hr:r<k):a7 k (fun c=>A r c*mc A k c j)=mk A k*A r j:=II k A (fun i=>A i j) r hr
theorem IJ(A:Nat→Nat→R)(k r j:Nat)(hr:r<k):ti A k r j=0:=by
 unfold ti;rw[tR A k r j hr];grind
theorem zN(A:Nat→Nat→R)(k i:Nat):a7 (k+1) (fun d=>A i d*(if d=k then mk A k else - mc A k d k))=ti A k i k:=by
 show a7 k (fun d=>A i d*(if d=k then mk A k else - mc A k d k))+A i k*(if k=k then mk A k else - mc A k k k)=_
 rw[if_pos rfl]
 have e:a7 k (fun d=>A i d*(if d=k then mk A k else - mc A k d k))=a7 k (fun d=>(-1)*(A i d*mc A k d k)):=bc _ fun d hd=>by rw[if_neg (by lia)];grind
 rw[e,cg];unfold ti;grind
theorem IK(A:Nat→Nat→R)(k:Nat):det (k+1) (bE A k (ei k))=mk A k:=by
 rw[CC (k+1) A k k (by lia) (by lia),CD k _ fun j _=>bH]
 exact bh k fun i j hi _=>bO (by lia)
theorem wM(A:Nat→Nat→R)(k:Nat)(h:Reg (mk A k)):ti A k k k=mk A (k+1):=by
 have c:=wK (k+1) A (fun d=>if d=k then mk A k else - mc A k d k) (fun i=>ti A k k k*ei k i) k (by lia) fun i hi=>by
  rw[zN]
  by_cases e:i=k
  ·subst e;rw[m5];grind
  ·rw[qg e,IJ A k i k (by lia)];grind
 rw[qf (k+1) A k _ _ (by lia),IK,if_pos rfl] at c
 refine h _ _ ?_
 show mk A k*ti A k k k=mk A k*det (k+1) A
 grind
theorem wj(A:Nat→Nat→R)(k j:Nat)(h:Reg (mk A k))(h1:Reg (mk A (k+1)))(c:Nat)(hc:c<k):
  mk A (k+1)*mc A k c j - mc A k c k*ti A k k j=mk A k*mc A (k+1) c j∧ti A k k j=mc A (k+1) k j:=by
 have hp:=wM A k h
 have sol:∀r,r<k+1→a7 (k+1) (fun d=>A r d*(if d=k then mk A k*ti A k k j else mk A (k+1)*mc A k d j - mc A k d k*ti A k k j))=(mk A k*mk A (k+1))*A r j:=fun r hr=>by
  show a7 k (fun d=>A r d*(if d=k then mk A k*ti A k k j else mk A (k+1)*mc A k d j - mc A k d k*ti A k k j))+A r k*(if k=k then mk A k*ti A k k j else _)=_
  rw[if_pos rfl]
  have e:a7 k (fun d=>A r d*(if d=k then mk A k*ti A k k j else mk A (k+1)*mc A k d j - mc A k d k*ti A k k j))=mk A (k+1)*a7 k (fun d=>A r d*mc A k d j) - ti A k k j*a7 k (fun d=>A r d*mc A k d k):=by
   rw[←cg,←cg,←wL]
   exact bc _ fun d hd=>by rw[if_neg (by lia)];grind
  rw[e]
  by_cases q:r=k
  ·subst q
   have e1:a7 r (fun d=>A r d*mc A r d j)=mk A r*A r j - ti A r r j:=by unfold ti;grind
   have e2:a7 r (fun d=>A r d*mc A r d r)=mk A r*A r r - ti A r r r:=by unfold ti;grind
   rw[e1,e2,hp];grind
  ·rw[tR A k r j (by lia),tR A k r k (by lia)];grind
 have go:∀d,d<k+1→mk A (k+1)*(if d=k then mk A k*ti A k k j else mk A (k+1)*mc A k d j - mc A k d k*ti A k k j)=mk A (k+1)*(mk A k*mc A (k+1) d j):=fun d hd=>by
  have c1:=wK (k+1) A _ (fun i=>(mk A k*mk A (k+1))*A i j) d hd sol
  rw[qf (k+1) A d _ (fun i=>A i j) hd] at c1
  have e:det (k+1) (bE A d fun i=>A i j)=mc A (k+1) d j:=rfl
  rw[e] at c1
  have e2:det (k+1) A=mk A (k+1):=rfl
  rw[e2] at c1
  grind
 refine⟨?_,?_⟩
 ·have g:=h1 _ _ (go c (by lia))
  rw[if_neg (by lia)] at g
  exact g
 ·have g:=h1 _ _ (go k (by lia))
  rw[if_pos rfl] at g
  exact h _ _ g
theorem FV(A:Nat→Nat→R)(k j:Nat)(h:Reg (mk A k))(h1:Reg (mk A (k+1))):ti A k k j=mc A (k+1) k j:=by
 by_cases q:0<k
 ·exact(wj A k j h h1 0 q).2
 ·have e:k=0:=by lia
  subst e
  show(1:R)*A 0 j - 0=0+sg 0*(bE A 0 (fun i=>A i j) 0 0*1)
  rw[c8,AY];grind
theorem FW(A:Nat→Nat→R)(k i j:Nat)(h:Reg (mk A k))(h1:Reg (mk A (k+1))):
  mk A (k+1)*ti A k i j - ti A k i k*ti A k k j=mk A k*ti A (k+1) i j:=by
 have e:ti A (k+1) i j=mk A (k+1)*A i j - (a7 k (fun c=>A i c*mc A (k+1) c j)+A i k*mc A (k+1) k j):=rfl
 have e1:mk A k*a7 k (fun c=>A i c*mc A (k+1) c j)=mk A (k+1)*a7 k (fun c=>A i c*mc A k c j) - ti A k k j*a7 k (fun c=>A i c*mc A k c k):=by
  rw[←cg,←cg,←cg,←wL]
  exact bc _ fun c hc=>by
   have s:=(wj A k j h h1 c hc).1
   grind
 have e2:=FV A k j h h1
 have e3:a7 k (fun c=>A i c*mc A k c j)=mk A k*A i j - ti A k i j:=by unfold ti;grind
 have e4:a7 k (fun c=>A i c*mc A k c k)=mk A k*A i k - ti A k i k:=by unfold ti;grind
 rw[e,←e2]
 rw[e3,e4] at e1
 grind
theorem IL(A:Nat→Nat→R)(n k:Nat)(hk:k<n)(h:Reg (mk A k))(hz:∀i,k≤i→i<n→ti A k i k=0):
  (∀i,i<n→a7 n (fun d=>A i d*(if d<k+1 then(if d=k then mk A k else - mc A k d k) else 0))=0)∧det n A=0:=by
 have tail:∀(m:Nat) (f:Nat→R),k+1≤m→a7 m (fun d=>if d<k+1 then f d else 0)=a7 (k+1) f:=by
  intro m
  induction m with
  |zero=>intro f hm;lia
  |succ m ih=>
   intro f hm
   show a7 m (fun d=>if d<k+1 then f d else 0)+(if m<k+1 then f m else 0)=_
   by_cases q:m=k
   ·subst q
    rw[if_pos (by lia)]
    show _=a7 m f+f m
    rw[bc m (g:=f) fun i hi=>if_pos (by lia)]
   ·rw[if_neg (by lia),ih f (by lia)];grind
 have sol:∀i,i<n→a7 n (fun d=>A i d*(if d<k+1 then(if d=k then mk A k else - mc A k d k) else 0))=0:=fun i hi=>by
  have e:a7 n (fun d=>A i d*(if d<k+1 then(if d=k then mk A k else - mc A k d k) else 0))=a7 n (fun d=>if d<k+1 then A i d*(if d=k then mk A k else - mc A k d k) else 0):=bc _ fun d _=>by
   by_cases q:d<k+1
   ·rw[if_pos q,if_pos q]
   ·rw[if_neg q,if_neg q];grind
  rw[e,tail n _ (by lia),zN]
  by_cases q:i<k
  ·exact IJ A k i k q
  ·exact hz i (by lia) hi
 refine⟨sol,?_⟩
 have c:=wK n A _ (fun _=>(0:R)) k hk sol
 rw[iZ n (bE A k fun _=>(0:R)) k hk fun i _=>c8,if_pos (by lia),if_pos rfl] at c
 refine h _ _ ?_
 grind
theorem A0(A:Nat→Nat→R)(k r t:Nat)(hr:k≤r)(ht:k≤t):mk (cV A r t) k=mk A k:=bh k fun i j hi _=>by
 show(if i=r then _ else if i=t then _ else A i j)=_
 rw[if_neg (by lia),if_neg (by lia)]
theorem A2(A:Nat→Nat→R)(k r t c j:Nat)(hr:k≤r)(ht:k≤t):mc (cV A r t) k c j=mc A k c j:=bh k fun i b hi _=>by
 have e:∀b,cV A r t i b=A i b:=fun b=>by
  show(if i=r then _ else if i=t then _ else A i b)=_
  rw[if_neg (by lia),if_neg (by lia)]
 show(if b=c then cV A r t i j else cV A r t i b)=if b=c then A i j else A i b
 rw[e,e]
def sw(r t i:Nat):Nat:=if i=r then t else if i=t then r else i
theorem FX(A:Nat→Nat→R)(k r t i j:Nat)(hr:k≤r)(ht:k≤t):ti (cV A r t) k i j=ti A k (sw r t i) j:=by
 have e:∀b,cV A r t i b=A (sw r t i) b:=fun b=>by
  show(if i=r then A t b else if i=t then A r b else A i b)=A (if i=r then t else if i=t then r else i) b
  by_cases q:i=r
  ·rw[if_pos q,if_pos q]
  ·rw[if_neg q,if_neg q]
   by_cases q2:i=t
   ·rw[if_pos q2,if_pos q2]
   ·rw[if_neg q2,if_neg q2]
 unfold ti
 rw[A0 A k r t hr ht,e]
 refine congrArg (_ - ·) (bc _ fun c _=> ?_)
 rw[e,A2 A k r t c j hr ht]
end bar
end ak
namespace ak
open Lean.Grind
open Wh (valueAt addPoly scalePoly mulPoly)
theorem A3(x:Rat):valueAt [] x=0:=rfl
theorem fi(a:Rat)(l:List Rat)(x:Rat):valueAt (a::l) x=a+x*valueAt l x:=rfl
theorem kQ:∀(p q:List Rat) (x:Rat),valueAt (addPoly p q) x=valueAt p x+valueAt q x
 |[],q,x=>by
  show valueAt q x=0+valueAt q x
  grind
 |a::p,[],x=>by
  show valueAt (a::p) x=valueAt (a::p) x+0
  grind
 |a::p,b::q,x=>by
  show(a+b)+x*valueAt (addPoly p q) x=_
  rw[kQ p q x,fi,fi];grind
theorem eW(c:Rat):∀(p:List Rat) (x:Rat),valueAt (scalePoly c p) x=c*valueAt p x
 |[],x=>by
  show(0:Rat)=c*0
  grind
 |a::p,x=>by
  show c*a+x*valueAt (scalePoly c p) x=_
  rw[eW c p x,fi];grind
theorem tS:∀(p q:List Rat) (x:Rat),valueAt (mulPoly p q) x=valueAt p x*valueAt q x
 |[],q,x=>by
  show(0:Rat)=0*valueAt q x
  grind
 |a::p,q,x=>by
  show valueAt (addPoly (scalePoly a q) (0::mulPoly p q)) x=_
  rw[kQ,eW,fi,tS p q x,fi];grind
structure PF where
 f:Rat→Rat
 h:∃l:List Rat,∀x,f x=valueAt l x
theorem PF.ext{a b:PF}(h:∀x,a.f x=b.f x):a=b:=by
 cases a;cases b
 have e:=funext h
 dsimp at e
 subst e
 rfl
namespace PF
def const(c:Rat):PF:=⟨fun _=>c,[c],fun x=>by rw[fi,A3];grind⟩
def add(a b:PF):PF:=⟨fun x=>a.f x+b.f x,by
 obtain⟨l,hl⟩:=a.h
 obtain⟨m,hm⟩:=b.h
 exact⟨addPoly l m,fun x=>by rw[kQ,←hl,←hm]⟩⟩
def mul(a b:PF):PF:=⟨fun x=>a.f x*b.f x,by
 obtain⟨l,hl⟩:=a.h
 obtain⟨m,hm⟩:=b.h
 exact⟨mulPoly l m,fun x=>by rw[tS,←hl,←hm]⟩⟩
def neg(a:PF):PF:=⟨fun x=> - a.f x,by
 obtain⟨l,hl⟩:=a.h
 exact⟨scalePoly (-1) l,fun x=>by rw[eW,←hl];grind⟩⟩
def sub(a b:PF):PF:=⟨fun x=>a.f x - b.f x,by
 obtain⟨l,hl⟩:=a.h
 obtain⟨m,hm⟩:=b.h
 exact⟨addPoly l (scalePoly (-1) m),fun x=>by rw[kQ,eW,←hl,←hm];grind⟩⟩
def npow(a:PF):Nat→PF
 |0=>const 1
 |n+1=>mul (npow a n) a
instance:Add PF:=⟨add⟩
instance:Mul PF:=⟨mul⟩
instance:Neg PF:=⟨neg⟩
instance:Sub PF:=⟨sub⟩
instance:NatCast PF:=⟨fun n=>const (n:Rat)⟩
instance:IntCast PF:=⟨fun n=>const (n:Rat)⟩
instance (n:Nat):OfNat PF n:=⟨const (n:Rat)⟩
instance:SMul Nat PF:=⟨fun n a=>mul (const (n:Rat)) a⟩
instance:SMul Int PF:=⟨fun n a=>mul (const (n:Rat)) a⟩
instance:HPow PF Nat PF:=⟨npow⟩
theorem Ot(a b:PF)(x:Rat):(a+b).f x=a.f x+b.f x:=rfl
theorem LC(a b:PF)(x:Rat):(a*b).f x=a.f x*b.f x:=rfl
theorem Ou(a:PF)(x:Rat):(- a).f x= - a.f x:=rfl
instance:CommRing PF where
 add_zero a:=PF.ext fun x=>by show a.f x+((0:Nat):Rat)=a.f x;grind
 add_comm a b:=PF.ext fun x=>by show a.f x+b.f x=b.f x+a.f x;grind
 add_assoc a b c:=PF.ext fun x=>by show a.f x+b.f x+c.f x=a.f x+(b.f x+c.f x);grind
 mul_assoc a b c:=PF.ext fun x=>by show a.f x*b.f x*c.f x=a.f x*(b.f x*c.f x);grind
 mul_one a:=PF.ext fun x=>by show a.f x*((1:Nat):Rat)=a.f x;grind
 one_mul a:=PF.ext fun x=>by show((1:Nat):Rat)*a.f x=a.f x;grind
 left_distrib a b c:=PF.ext fun x=>by show a.f x*(b.f x+c.f x)=a.f x*b.f x+a.f x*c.f x;grind
 right_distrib a b c:=PF.ext fun x=>by show(a.f x+b.f x)*c.f x=a.f x*c.f x+b.f x*c.f x;grind
 zero_mul a:=PF.ext fun x=>by show((0:Nat):Rat)*a.f x=((0:Nat):Rat);grind
 mul_zero a:=PF.ext fun x=>by show a.f x*((0:Nat):Rat)=((0:Nat):Rat);grind
 pow_zero a:=rfl
 pow_succ a n:=rfl
 ofNat_succ n:=PF.ext fun x=>by show((n+1:Nat):Rat)=(n:Rat)+((1:Nat):Rat);grind
 neg_add_cancel a:=PF.ext fun x=>by show - a.f x+a.f x=((0:Nat):Rat);grind
 sub_eq_add_neg a b:=PF.ext fun x=>by show a.f x - b.f x=a.f x+ - b.f x;grind
 neg_zsmul i a:=PF.ext fun x=>by show((-i:Int):Rat)*a.f x= -((i:Rat)*a.f x);grind
 zsmul_natCast_eq_nsmul n a:=PF.ext fun x=>by show(((n:Int)):Rat)*a.f x=((n:Nat):Rat)*a.f x;rw[Rat.intCast_natCast]
 intCast_ofNat n:=PF.ext fun x=>by show((OfNat.ofNat n:Int):Rat)=((n:Nat):Rat);exact Rat.intCast_natCast n
 intCast_neg i:=PF.ext fun x=>by show((-i:Int):Rat)= -((i:Int):Rat);grind
 mul_comm a b:=PF.ext fun x=>by show a.f x*b.f x=b.f x*a.f x;grind
end PF
example (a b c:PF):(a+b)*c=c*b+a*c:=by grind
def sdiv(r:Rat):List Rat→List Rat
 |[]=>[]
 |_::[]=>[]
 |_::b::t=>valueAt (b::t) r::sdiv r (b::t)
theorem wN(r:Rat):∀l:List Rat,(sdiv r l).length=l.length - 1
 |[]=>rfl
 |_::[]=>rfl
 |_::b::t=>by
  show(sdiv r (b::t)).length+1=_
  rw[wN r (b::t)];rfl
theorem A4(r:Rat)(x:Rat):∀l:List Rat,valueAt l x - valueAt l r=(x - r)*valueAt (sdiv r l) x
 |[]=>by
  show(0:Rat) - 0=(x - r)*0
  grind
 |a::[]=>by
  show(a+x*0) - (a+r*0)=(x - r)*0
  grind
 |a::b::t=>by
  have e:=A4 r x (b::t)
  show(a+x*valueAt (b::t) x) - (a+r*valueAt (b::t) r)=(x - r)*(valueAt (b::t) r+x*valueAt (sdiv r (b::t)) x)
  grind
def tU(l:List Rat):Prop:=∀c∈l,c=0
theorem tU.ev{l:List Rat}(h:tU l)(x:Rat):valueAt l x=0:=by
 induction l with
 |nil=>rfl
 |cons a l ih=>
  rw[fi,h a List.mem_cons_self,ih fun c hc=>h c (List.mem_cons_of_mem _ hc)];grind
theorem sdiv_zero(r:Rat):∀l:List Rat,tU (sdiv r l)→valueAt l r=0→tU l
 |[],_,_=>fun _ h=>by cases h
 |a::[],_,e=>fun c h=>by
  have:c=a:=by simpa using h
  subst this
  have e:c+r*0=0:=e
  grind
 |a::b::t,z,e=>by
  have z1:valueAt (b::t) r=0:=z _ List.mem_cons_self
  have ih:=sdiv_zero r (b::t) (fun c hc=>z c (List.mem_cons_of_mem _ hc)) z1
  intro c hc
  rcases List.mem_cons.mp hc with h |h
  ·subst h
   rw[fi,z1] at e
   grind
  ·exact ih c h
theorem roots:∀(xs:List Rat) (l:List Rat),xs.Nodup→l.length≤xs.length→(∀x∈xs,valueAt l x=0)→tU l
 |[],l,_,hl,_=>by
  have:l=[]:=List.length_eq_zero_iff.mp (by simpa using hl)
  subst this
  intro c h;cases h
 |r::xs,l,hn,hl,hz=>by
  have hr:=hz r List.mem_cons_self
  refine sdiv_zero r l (roots xs (sdiv r l) (List.nodup_cons.mp hn).2 ?_ ?_) hr
  ·rw[wN];simp at hl;lia
  ·intro x hx
   have e:=A4 r x l
   rw[hz x (List.mem_cons_of_mem _ hx),hr] at e
   have ne:x - r≠0:=fun q=>by
    have:x=r:=by grind
    subst this
    exact(List.nodup_cons.mp hn).1 hx
   have e2:(x - r)*valueAt (sdiv r l) x=0:=by grind
   rcases Rat.mul_eq_zero.mp e2 with q |q
   ·exact absurd q ne
   ·exact q
theorem Eg(n:Nat):((List.range n).map fun i:Nat=>(i:Rat)).Nodup:=by
 refine List.Pairwise.map _ ?_ (List.nodup_range (n:=n))
 intro a b h e
 exact h (by exact_mod_cast e)
theorem zO(n:Nat)(l:List Rat)(hl:l.length≤n)(h:∀i:Nat,i<n→valueAt l (i:Rat)=0):tU l:=
 roots _ l (Eg n) (by simpa using hl) fun x hx=>by
  obtain⟨i,hi,rfl⟩:=List.mem_map.mp hx
  exact h i (List.mem_range.mp hi)
theorem CF:∀(n:Nat) (l:List Rat),l.length≤n→¬tU l→∃N:Nat,∀i:Nat,N≤i→valueAt l (i:Rat)≠0
 |0,l,hl,hz=>absurd (fun c h=>by
   have:l=[]:=List.length_eq_zero_iff.mp (by lia)
   subst this;cases h) hz
 |n+1,l,hl,hz=>by
  by_cases q:∃r:Nat,valueAt l (r:Rat)=0
  ·obtain⟨r,hr⟩:=q
   obtain⟨N,hN⟩:=CF n (sdiv r l) (by rw[wN];lia) fun z=>hz (sdiv_zero r l z hr)
   refine⟨max N (r+1),fun i hi e=> ?_⟩
   have e1:=A4 r i l
   rw[e,hr] at e1
   have e2:((i:Rat) - r)*valueAt (sdiv r l) i=0:=by grind
   rcases Rat.mul_eq_zero.mp e2 with h |h
   ·have:(i:Rat)=(r:Rat):=by grind
    have:i=r:=by exact_mod_cast this
    lia
   ·exact hN i (by lia) h
  ·exact⟨0,fun i _ e=>q ⟨i,e⟩⟩
theorem wO{l:List Rat}(h:∀x,valueAt l x=0):tU l:=zO l.length l (Nat.le_refl _) fun i _=>h i
theorem PF.A5{a:PF}(h:a≠0):∃N:Nat,∀i:Nat,N≤i→a.f (i:Rat)≠0:=by
 obtain⟨l,hl⟩:=a.h
 obtain⟨N,hN⟩:=CF l.length l (Nat.le_refl _) fun z=>h (PF.ext fun x=>by rw[hl,z.ev];rfl)
 exact⟨N,fun i hi=>by rw[hl];exact hN i hi⟩
theorem PF.IM{a b:PF}(ha:a≠0)(hb:b≠0):a*b≠0:=by
 obtain⟨N,hN⟩:=PF.A5 ha
 obtain⟨M,hM⟩:=PF.A5 hb
 intro e
 have e1:(a*b).f ((max N M:Nat):Rat)=0:=by rw[e];rfl
 rcases Rat.mul_eq_zero.mp e1 with q |q
 ·exact hN _ (by lia) q
 ·exact hM _ (by lia) q
theorem PF.B8{a:PF}(ha:a≠0):Reg a:=by
 intro x y e
 by_cases q:x - y=0
 ·grind
 ·refine absurd ?_ (PF.IM ha q)
  grind
def rl(l:List Int):List Rat:=l.map fun z:Int=>(z:Rat)
def pS(l:List Rat):PF:=⟨fun x=>valueAt l x,l,fun _=>rfl⟩
def bK(l:List Int):PF:=pS (rl l)
theorem IP(l:List Rat)(x:Rat):(pS l).f x=valueAt l x:=rfl
theorem LD(l:List Int)(x:Rat):(bK l).f x=valueAt (rl l) x:=rfl
theorem bP(a:Int)(l:List Int)(x:Rat):(bK (a::l)).f x=(a:Rat)+x*(bK l).f x:=rfl
def Trim(l:List Int):Prop:=l.getLast?≠some 0
theorem vk:∀(p q:List Rat) (i:Nat),(addPoly p q).getD i 0=p.getD i 0+q.getD i 0
 |[],q,i=>by
  show q.getD i 0=([]:List Rat).getD i 0+q.getD i 0
  simp;grind
 |a::p,[],i=>by
  show(a::p).getD i 0=(a::p).getD i 0+([]:List Rat).getD i 0
  simp;grind
 |a::p,b::q,0=>rfl
 |a::p,b::q,i+1=>by
  show(addPoly p q).getD i 0=p.getD i 0+q.getD i 0
  exact vk p q i
theorem tV(c:Rat):∀(p:List Rat) (i:Nat),(scalePoly c p).getD i 0=c*p.getD i 0
 |[],i=>by
  show([]:List Rat).getD i 0=c*([]:List Rat).getD i 0
  simp
 |a::p,0=>rfl
 |a::p,i+1=>tV c p i
theorem tU.get{l:List Rat}(h:tU l)(i:Nat):l.getD i 0=0:=by
 rw[gDe]
 cases e:l[i]? with
 |none=>rfl
 |some c=>exact h c (List.mem_of_getElem? e)
theorem LF{p q:List Rat}(h:∀x,valueAt p x=valueAt q x)(i:Nat):p.getD i 0=q.getD i 0:=by
 have z:tU (addPoly p (scalePoly (-1) q)):=wO fun x=>by rw[kQ,eW,h];grind
 have e:=z.get i
 rw[vk,tV] at e
 grind
theorem Eh(l:List Int)(i:Nat):(rl l).getD i 0=((l.getD i 0:Int):Rat):=by
 unfold rl
 rw[gDe,gDe,List.getElem?_map]
 cases l[i]? <;>simp
theorem IQ{l m:List Int}(h:bK l=bK m)(i:Nat):l.getD i 0=m.getD i 0:=by
 have e:=LF (p:=rl l) (q:=rl m) (fun x=>by rw[←LD,←LD,h]) i
 rw[Eh,Eh] at e
 exact_mod_cast e
theorem CG{l m:List Int}(hl:Trim l)(h:∀i,l.getD i 0=m.getD i 0):l.length≤m.length:=by
 rcases Nat.eq_zero_or_pos l.length with q |q
 ·lia
 ·refine Nat.le_of_not_lt fun lt=>hl ?_
  have e:=h (l.length - 1)
  rw[List.getLast?_eq_getElem?]
  rw[gDe,gDe,List.getElem?_eq_none (l:=m) (by lia),List.getElem?_eq_getElem (by lia)] at e
  rw[List.getElem?_eq_getElem (by lia)]
  simpa using e
theorem wk{l m:List Int}(hl:Trim l)(hm:Trim m)(h:bK l=bK m):l=m:=by
 have e:=IQ h
 have n:l.length=m.length:=Nat.le_antisymm (CG hl e) (CG hm fun i=>(e i).symm)
 refine List.ext_getElem n fun i h1 h2=> ?_
 have:=e i
 simpa [gDe,List.getElem?_eq_getElem h1,List.getElem?_eq_getElem h2] using this
end ak
namespace ak
abbrev bw:=List Int
def qA(c:bw):Nat→Nat
 |0=>0
 |n+1=>if c.getD n 0=0 then qA c n else n+1
def G6(c:bw):bw:=c.take (qA c c.length)
def cst(x:Int):bw:=if x=0 then[] else[x]
def Kf(p:bw):bw:=p.map fun x=> -x
def iB:bw→bw→bw
 |[],q=>q
 |p,[]=>p
 |a::p,b::q=>(a+b)::iB p q
def A6(l r:bw):bw:=G6 (iB l r)
def rP(l r:bw):bw:=A6 l (Kf r)
def mulL:bw→bw→bw
 |[],_=>[]
 |a::p,q=>iB (q.map fun y=>a*y) (0::mulL p q)
def dO(l r:bw):bw:=if l=[]∨r=[] then[] else mulL l r
def lc(p:bw):Int:=p.getD (p.length - 1) 0
def FY(r:bw):Nat→bw→bw→bw
 |0,_,out=>out
 |t+1,rest,out=>
  let f:=(rest.getD (t+r.length - 1) 0).fdiv (lc r)
  FY r t ((List.range rest.length).map fun i=>rest.getD i 0 - (if t≤i∧i<t+r.length then f*r.getD (i - t) 0 else 0)) (f::out)
def IS(l r:bw):bw:=if l=[] then[] else FY r (l.length - r.length+1) l []
def bF(p:bw):Int:=p.headD 0
def CH(x y:Int):Int:=(Nat.gcd x.natAbs y.natAbs:Int)
abbrev fj:=List bw
def je(t:List fj)(k:Nat):Nat→Option Nat
 |0=>none
 |f+1=>let p:=t.length - (f+1)
  if(t.getD p []).getD k []≠[] then some p else je t k f
def gW(row by_:fj)(k:Nat)(before:bw):fj:=
 (List.range row.length).map fun j=>if k<j then IS (rP (dO (by_.getD k []) (row.getD j [])) (dO (row.getD k []) (by_.getD j []))) before else row.getD j []
def tW(t:List fj)(k:Nat)(before:bw):List fj:=
 (List.range t.length).map fun i=>if i=k then t.getD k [] else gW (t.getD i []) (t.getD k []) k before
def i9(t:List fj)(i k:Nat):List fj:=(t.set i (t.getD k [])).set k (t.getD i [])
def rQ:Nat→Nat→List fj→bw→Option (bw×List bw)
 |0,_,t,before=>some (before,t.map fun r=>r.getD (r.length - 1) [])
 |f+1,k,t,before=>match je t k (t.length - k) with
  |none=>none
  |some c=>rQ f (k+1) (tW (i9 t c k) k before) ((t.getD c []).getD k [])
def sol(t:List fj):Option (bw×List bw):=rQ t.length 0 t [1]
structure Part where
 kind:Int
 a:Int
 b:Int
 c:Int
 d:Int
 top:Int
 aC:Int
def Part.of(r:List Int):Part:=⟨r.getD 0 0,r.getD 1 0,r.getD 2 0,r.getD 3 0,r.getD 4 0,r.getD 5 0,r.getD 6 0⟩
def p0:Part:=⟨0,0,0,0,0,0,0⟩
structure Nw where
 last:Int
 af:List Part
def aM(aO:List Int):List (List Int):=(List.range ((aO.length - 1+6) / 7)).map fun i=>(aO.drop (1+7*i)).take 7
def dF(r:List Int):Bool:=
 if ¬(0≤r.getD 0 0∧r.getD 0 0≤13) then false
 else if ¬((r.drop 1).take 4).all (fun p=>decide (0≤p∧p≤63))=true then false
 else decide ((r.getD 5 0).natAbs≤1000000)&&decide (1≤r.getD 6 0∧r.getD 6 0≤1000000)
def jf(aO:List Int):Bool:=
 if aO.length=0∨¬(1≤aO.headD 0∧aO.headD 0≤8) then false
 else if(aO.length - 1) % 7≠0 then false
 else if 10<(aM aO).length then false
 else if ¬(aM aO).all dF=true then false
 else decide (((aM aO).filter fun r=>decide (r.getD 0 0=13)).length≤3)
def aW(aO:List Int):Nw:=⟨aO.headD 0,(aM aO).map Part.of⟩
def df(p:Part):List Int:=if p.kind=3 then[] else if p.kind=6∨p.kind=7∨p.kind=10∨p.kind=11 then[p.a,p.b,p.c,p.d] else[p.a,p.b]
def jg(p:Part):Bool:=
 if p.kind=0∨p.kind=1∨p.kind=2 then decide (0<p.top)
 else if p.kind=10 then decide (p.top≠0)
 else if p.kind=11 then decide (p.top=0)
 else if p.kind=12 then decide (p.top=0∨p.top=p.aC)
 else if p.kind=13 then decide (0≤p.top)
 else true
def kindAt(ps:List Part)(i:Int):Int:=(ps.getD i.toNat p0).kind
def cE(ps:List Part)(k:Nat):Bool:=
 let p:=ps.getD k p0
 if ¬(p.kind=8∨p.kind=9) then true else decide (p.c<k)&&decide (kindAt ps p.c≠3)
def aX(ps:List Part)(i:Int)(k:Nat):Bool:=decide (i<k)&&decide (kindAt ps i=2)
def eQ(p:Part)(one other:Int):Bool:=if p.kind≠3 then false else decide ((p.a=one∧p.b=other)∨(p.a=other∧p.b=one))
def tooMuch(c one other:Part):Bool:=decide (one.top*other.top*c.aC*c.aC<c.top*c.top*one.aC*other.aC)
def ja(ps:List Part)(k:Nat):Int:=
 let p:=ps.getD k p0
 if p.a=p.b∨aX ps p.a k=false∨aX ps p.b k=false then 3
 else if(ps.take k).any (fun q=>eQ q p.a p.b)=true then 3
 else if tooMuch p (ps.getD p.a.toNat p0) (ps.getD p.b.toNat p0)=true then 2
 else 0
def dU(n:Nw)(k:Nat):Int:=
 let p:=n.af.getD k p0
 if(df p).any (fun v=>decide (n.last<v))=true then 1
 else if jg p=false then 2
 else if cE n.af k=false then 3
 else if p.kind=3 then ja n.af k
 else 0
def fH(n:Nw):Nat→List Int
 |0=>[]
 |f+1=>let k:=n.af.length - (f+1)
  if dU n k≠0 then[(k:Int),dU n k] else fH n f
def fault(n:Nw):List Int:=fH n n.af.length
def bB(aO:List Int):List Int:=
 if jf aO=false then[-1] else match fault (aW aO) with
  |[]=>[]
  |f=> -2::f
abbrev Term:=Int×bw
def gd(p:Part):Int:=if p.kind=3 then 0 else if p.kind=10 then 2 else 1
def width(n:Nw):Int:=n.last+(n.af.map gd).sum
def dg(free:Int):List Part→List Int
 |[]=>[]
 |p::r=>free::dg (free+gd p) r
def places(n:Nw):List Int:=dg n.last n.af
structure gk where
 aO:Nw
 s:bw
 cQ:List Bool
 drives:List (Int×Int)
def CI(first second:Int):List Term:=(if 0<first then[(first - 1,[1])] else[]) ++ (if 0<second then[(second - 1,[-1])] else[])
def iT(p:Part):List Term:=CI p.a p.b
def A7(p:Part):List Term:=CI p.c p.d
def cur(g:gk)(k:Int):List Term:=[((places g.aO).getD k.toNat 0,[1])]
def md(ts:List Term)(p:bw):List Term:=ts.map fun t=>(t.1,dO t.2 p)
def jh(p:Part)(l r:List Term):List Term:=md l (cst p.aC) ++ md r (cst (-p.top))
def CJ(g:gk)(k:Nat)(ts:List Term):List Term:=md ts (cst (g.drives.getD k (0,1)).2) ++ [(width g.aO,cst (g.drives.getD k (0,1)).1)]
def bu(ps:List Part)(k:Nat):List (Int×Int×Int):=
 ((k:Int),(ps.getD k p0).top,(ps.getD k p0).aC)::(ps.filter fun p=>decide (p.kind=3∧((k:Int)=p.a∨(k:Int)=p.b))).map fun p=>(p.a+p.b - k,p.top,p.aC)
def common(sh:List (Int×Int×Int)):Int:=sh.foldl (fun c x=>c*x.2.2) 1
def me(g:gk)(k:Nat):List Term:=
 let sh:=bu g.aO.af k
 md (iT (g.aO.af.getD k p0)) (cst (common sh)) ++ sh.flatMap fun x=>md (md (cur g x.1) g.s) (cst (-x.2.1*(common sh).fdiv x.2.2))
def cF(g:gk)(k:Nat):List (List Term):=
 let p:=g.aO.af.getD k p0
 match p.kind.toNat with
 |0=>[jh p (iT p) (cur g k)]
 |1=>[jh p (cur g k) (md (iT p) g.s)]
 |2=>[me g k]
 |3=>[]
 |4=>[CJ g k (iT p)]
 |5=>[CJ g k (cur g k)]
 |6=>[jh p (iT p) (A7 p)]
 |7=>[jh p (cur g k) (A7 p)]
 |8=>[jh p (iT p) (cur g p.c)]
 |9=>[jh p (cur g k) (cur g p.c)]
 |10=>[jh p (iT p) (A7 p),jh p [((places g.aO).getD k 0+1,[1])] (md (cur g k) [-1])]
 |11=>[A7 p]
 |12=>[if p.top=0 then cur g k else iT p]
 |_=>if g.cQ.getD k false=true then[CJ g k (iT p)] else[cur g k]
def fI(n:Nw)(v:Int):List Term:=
 (n.af.zip (places n)).flatMap fun x=>if x.1.kind=3 then[] else
  (if x.1.a=v then[(x.2,[1])] else[]) ++ (if x.1.b=v then[(x.2,[-1])] else[]) ++
   (if x.1.kind=10 then(if x.1.c=v then[(x.2+1,[1])] else[]) ++ (if x.1.d=v then[(x.2+1,[-1])] else[]) else[])
def oj(row:fj)(t:Term):fj:=row.set t.1.toNat (A6 (row.getD t.1.toNat []) t.2)
def rowOf(w:Int)(ts:List Term):fj:=ts.foldl oj (List.replicate (w+1).toNat [])
def dh(g:gk):List (List Term):=((List.range g.aO.last.toNat).map fun(v:Nat)=>fI g.aO ((v:Int)+1)) ++ (List.range g.aO.af.length).flatMap fun k=>cF g k
def rows(g:gk):List fj:=(dh g).map (rowOf (width g.aO))
def bg:List Part→List (List Bool)→List (List Bool)
 |[],rs=>rs
 |p::r,rs=>bg r (rs.flatMap fun row=>if p.kind=13 then[row ++ [false],row ++ [true]] else[row ++ [false]])
def cz(s:bw×List bw)(v:Int):bw:=if 0<v then s.2.getD (v - 1).toNat [] else[]
def gv(g:gk)(s:bw×List bw)(k:Nat):bw:=s.2.getD ((places g.aO).getD k 0).toNat []
def pB(s:bw×List bw)(a b:Int):bw:=rP (cz s a) (cz s b)
def gw(g:gk)(s:bw×List bw)(k:Nat):bw:=pB s (g.aO.af.getD k p0).a (g.aO.af.getD k p0).b
def qB(g:gk)(s:bw×List bw)(k:Nat):Bool:=
 let p:=g.aO.af.getD k p0
 let d:=bF s.1
 if g.cQ.getD k false=true then decide (0≤bF (gv g s k)*d)
 else decide (bF (gw g s k)*d*p.aC≤p.top*d*d)
def eX(g:gk)(s:bw×List bw):Bool:=((List.range g.aO.af.length).filter fun k=>decide ((g.aO.af.getD k p0).kind=13)).all fun k=>qB g s k
def ik(n:Nw):List (List Bool)→Option (List Bool×(bw×List bw))
 |[]=>none
 |st::r=>let g:gk:=⟨n,[],st,n.af.map fun p=>(p.top,p.aC)⟩
  match sol (rows g) with
  |none=>ik n r
  |some s=>if eX g s=true then some (st,s) else ik n r
def point(n:Nw):Option (List Bool×(bw×List bw)):=ik n (bg n.af [[]])
def gf(n:Nw)(k:Int):Bool:=decide (k<n.af.length)&&decide (kindAt n.af k=4∨kindAt n.af k=5)
def fC(n:Nw)(what k:Int):Bool:=
 if what=0 then decide (k≤n.last)
 else if what=1∨what=2 then decide (k<n.af.length)&&decide (kindAt n.af k≠3)
 else false
def bN(n:Nw)(st:List Bool)(source:Int):gk:=⟨n,[0,1],st,(List.range n.af.length).map fun(k:Nat)=>if(k:Int)=source then(1,1) else(0,1)⟩
def fM(g:gk)(s:bw×List bw)(what k:Int):bw:=if what=0 then cz s k else if what=1 then gv g s k.toNat else gw g s k.toNat
structure LG where
 bB:List Int
 top:bw
 aC:bw
def bD(source what k:Int)(aO:List Int):LG:=
 if bB aO≠[] then⟨bB aO,[],[]⟩
 else if gf (aW aO) source=false∨fC (aW aO) what k=false then⟨[-3],[],[]⟩
 else match point (aW aO) with
  |none=>⟨[-4],[],[]⟩
  |some pt=>let g:=bN (aW aO) pt.1 source
   match sol (rows g) with
   |none=>⟨[],[],[]⟩
   |some s=>⟨[],fM g s what k,s.1⟩
end ak
namespace ak
open Lean.Grind
open Wh (valueAt)
theorem A8(c:bw):∀n,qA c n≤n
 |0=>Nat.le_refl _
 |n+1=>by
  unfold qA
  split
  ·exact Nat.le_succ_of_le (A8 c n)
  ·exact Nat.le_refl _
theorem zP(c:bw):∀n i,qA c n≤i→i<n→c.getD i 0=0
 |0,i,_,h=>by lia
 |n+1,i,h,hi=>by
  unfold qA at h
  split at h
  ·rename_i e
   by_cases q:i=n
   ·subst q;exact e
   ·exact zP c n i h (by lia)
  ·lia
theorem zQ(c:bw):∀n,0<qA c n→c.getD (qA c n - 1) 0≠0
 |0,h=>by
  unfold qA at h
  lia
 |n+1,h=>by
  unfold qA at h⊢
  split
  ·rename_i e
   rw[if_pos e] at h
   exact zQ c n h
  ·rename_i e
   exact e
theorem G7(l:bw)(n i:Nat):(l.take n).getD i 0=if i<n then l.getD i 0 else 0:=by
 rw[gDe,gDe,List.getElem?_take]
 split <;>rfl
theorem FZ(c:bw)(i:Nat):(G6 c).getD i 0=c.getD i 0:=by
 unfold G6
 rw[G7]
 split
 ·rfl
 ·rename_i h
  by_cases q:i<c.length
  ·exact(zP c c.length i (by lia) q).symm
  ·rw[gDe,List.getElem?_eq_none (by lia)];rfl
theorem A9(c:bw):(G6 c).length=qA c c.length:=by
 unfold G6
 rw[List.length_take]
 have:=A8 c c.length
 lia
theorem Ba(c:bw):(G6 c).length≤c.length:=by rw[A9];exact A8 _ _
theorem iC{l:bw}:Trim l↔(l≠[]→lc l≠0):=by
 unfold Trim lc
 cases l with
 |nil=>simp
 |cons a l=>
  rw[List.getLast?_eq_getElem?,List.getElem?_eq_getElem (by simp),gDe,List.getElem?_eq_getElem (by simp)]
  simp
theorem om:Trim []:=by unfold Trim;simp
theorem rR(c:bw):Trim (G6 c):=by
 rw[iC]
 intro h
 unfold lc
 rw[FZ,A9]
 refine zQ c _ ?_
 rw[←A9]
 exact List.length_pos_iff.mpr h
theorem Ei:∀{l m:bw},(∀i,l.getD i 0=m.getD i 0)→bK l=bK m:=by
 intro l
 induction l with
 |nil=>
  intro m
  induction m with
  |nil=>intro _;rfl
  |cons b m ih=>
   intro h
   have h0:(0:Int)=b:=by simpa using h 0
   subst h0
   have e:=ih fun i=>by simpa using h (i+1)
   refine PF.ext fun x=> ?_
   rw[bP,←e]
   show(0:Rat)=((0:Int):Rat)+x*0
   grind
 |cons a l ih=>
  intro m h
  cases m with
  |nil=>
   have h0:a=0:=by simpa using h 0
   subst h0
   have e:=ih (m:=[]) fun i=>by simpa using h (i+1)
   refine PF.ext fun x=> ?_
   rw[bP,e]
   show((0:Int):Rat)+x*0=0
   grind
  |cons b m=>
   have h0:a=b:=by simpa using h 0
   subst h0
   have e:=ih (m:=m) fun i=>by simpa using h (i+1)
   exact PF.ext fun x=>by rw[bP,bP,e]
theorem Bb(c:bw):bK (G6 c)=bK c:=Ei (FZ c)
theorem gh{l:bw}(h:Trim l):bK l=0↔l=[]:=
 ⟨fun e=>wk h om e,fun e=>by subst e;rfl⟩
theorem Ej(x:Rat):∀l r:bw,(bK (iB l r)).f x=(bK l).f x+(bK r).f x
 |[],r=>by
  show(bK r).f x=0+(bK r).f x
  grind
 |a::l,[]=>by
  show(bK (a::l)).f x=(bK (a::l)).f x+0
  grind
 |a::l,b::r=>by
  show(bK ((a+b)::iB l r)).f x=_
  rw[bP,bP,bP,Ej x l r,Rat.intCast_add]
  grind
theorem wQ(l r:bw):bK (iB l r)=bK l+bK r:=PF.ext fun x=>by rw[Ej,PF.Ot]
theorem gx:∀(l r:bw) (i:Nat),(iB l r).getD i 0=l.getD i 0+r.getD i 0
 |[],r,i=>by
  show r.getD i 0=([]:bw).getD i 0+r.getD i 0
  simp
 |a::l,[],i=>by
  show(a::l).getD i 0=(a::l).getD i 0+([]:bw).getD i 0
  simp
 |a::l,b::r,0=>rfl
 |a::l,b::r,i+1=>by
  show(iB l r).getD i 0=l.getD i 0+r.getD i 0
  exact gx l r i
theorem gy:∀l r:bw,(iB l r).length=max l.length r.length
 |[],r=>by
  show r.length=max 0 r.length
  lia
 |a::l,[]=>by
  show(a::l).length=max (a::l).length 0
  lia
 |a::l,b::r=>by
  show(iB l r).length+1=max (l.length+1) (r.length+1)
  rw[gy l r];lia
theorem CK(l r:bw):bK (A6 l r)=bK l+bK r:=by unfold A6;rw[Bb,wQ]
theorem G8(l r:bw):Trim (A6 l r):=rR _
theorem Bc(l:bw):bK (Kf l)= - bK l:=PF.ext fun x=>by
 rw[PF.Ou]
 induction l with
 |nil=>show(0:Rat)= - 0;grind
 |cons a l ih=>
  show(bK (-a::Kf l)).f x=_
  rw[bP,ih,bP,Rat.intCast_neg];grind
theorem wm(l:bw):(Kf l).length=l.length:=by unfold Kf;simp
theorem Be(f:Int→Int)(h0:f 0=0)(l:bw)(i:Nat):(l.map f).getD i 0=f (l.getD i 0):=by
 rw[gDe,gDe,List.getElem?_map]
 cases l[i]? with
 |none=>exact h0.symm
 |some v=>rfl
theorem oo(l r:bw):bK (rP l r)=bK l - bK r:=by
 unfold rP
 rw[CK,Bc];grind
theorem pC(l r:bw):Trim (rP l r):=rR _
theorem pE(x:Int):bK (cst x)=PF.const (x:Rat):=by
 unfold cst
 refine PF.ext fun y=> ?_
 split
 ·rename_i e
  subst e
  show(0:Rat)=((0:Int):Rat)
  grind
 ·rw[bP]
  show(x:Rat)+y*0=(x:Rat)
  grind
theorem F2(a:Int)(x:Rat):∀q:bw,(bK (q.map fun y=>a*y)).f x=(a:Rat)*(bK q).f x
 |[]=>by
  show(0:Rat)=(a:Rat)*0
  grind
 |b::q=>by
  show(bK (a*b::q.map fun y=>a*y)).f x=_
  rw[bP,F2 a x q,bP,Rat.intCast_mul];grind
theorem IT(x:Rat):∀l r:bw,(bK (mulL l r)).f x=(bK l).f x*(bK r).f x
 |[],r=>by
  show(0:Rat)=0*(bK r).f x
  grind
 |a::l,r=>by
  show(bK (iB (r.map fun y=>a*y) (0::mulL l r))).f x=_
  rw[Ej,F2,bP,IT x l r,bP]
  grind
theorem oq(l r:bw):bK (mulL l r)=bK l*bK r:=PF.ext fun x=>IT x l r
theorem dG:∀(l r:bw),l≠[]→r≠[]→(mulL l r).length=l.length+r.length - 1
 |[],_,h,_=>absurd rfl h
 |a::[],r,_,hr=>by
  show(iB (r.map fun y=>a*y) [0]).length=1+r.length - 1
  rw[gy,lMp]
  have:0<r.length:=List.length_pos_iff.mpr hr
  show max r.length 1=_
  lia
 |a::b::l,r,_,hr=>by
  have ih:=dG (b::l) r (by simp) hr
  show(iB (r.map fun y=>a*y) (0::mulL (b::l) r)).length=_
  rw[gy,lMp,List.length_cons,ih]
  have:0<r.length:=List.length_pos_iff.mpr hr
  simp only[List.length_cons]
  lia
theorem F3:∀(l r:bw),l≠[]→r≠[]→lc (mulL l r)=lc l*lc r
 |[],_,h,_=>absurd rfl h
 |a::[],r,h1,hr=>by
  unfold lc
  rw[dG _ r h1 hr]
  show(iB (r.map fun y=>a*y) [0]).getD _ 0=a*r.getD (r.length - 1) 0
  rw[gx,Be _ (by lia)]
  have e:([a].length+r.length - 1 - 1)=r.length - 1:=by simp only[List.length_cons,List.length_nil];lia
  rw[e]
  have z:([0]:bw).getD (r.length - 1) 0=0:=by
   cases r.length - 1 <;>simp
  rw[z];lia
 |a::b::l,r,h1,hr=>by
  have ih:=F3 (b::l) r (by simp) hr
  have n:=dG (b::l) r (by simp) hr
  have pr:0<r.length:=List.length_pos_iff.mpr hr
  unfold lc at ih⊢
  rw[dG _ r h1 hr]
  show(iB (r.map fun y=>a*y) (0::mulL (b::l) r)).getD _ 0=_
  rw[gx,Be _ (by lia)]
  have e:((a::b::l).length+r.length - 1 - 1)=(mulL (b::l) r).length - 1+1:=by rw[n];simp only[List.length_cons];lia
  rw[e]
  have z:r.getD ((mulL (b::l) r).length - 1+1) 0=0:=by
   rw[gDe,List.getElem?_eq_none (by rw[n];simp only[List.length_cons];lia)];rfl
  rw[z]
  show a*0+(mulL (b::l) r).getD ((mulL (b::l) r).length - 1) 0=_
  rw[ih]
  show a*0+_=(b::l).getD (b::l).length.pred 0*_
  simp
theorem ji(l r:bw):bK (dO l r)=bK l*bK r:=by
 unfold dO
 split
 ·rename_i h
  rcases h with h |h
  ·subst h
   show(0:PF)=0*bK r
   grind
  ·subst h
   show(0:PF)=bK l*0
   grind
 ·exact oq l r
theorem zR{l r:bw}(hl:Trim l)(hr:Trim r):Trim (dO l r):=by
 unfold dO
 split
 ·exact om
 ·rename_i h
  have h1:l≠[]:=fun e=>h (.inl e)
  have h2:r≠[]:=fun e=>h (.inr e)
  rw[iC]
  intro _
  rw[F3 l r h1 h2]
  exact Int.mul_ne_zero (iC.mp hl h1) (iC.mp hr h2)
theorem IU{l r:bw}(h1:l≠[])(h2:r≠[]):(dO l r).length=l.length+r.length - 1:=by
 unfold dO
 rw[if_neg (fun h=>h.elim h1 h2),dG l r h1 h2]
theorem G9(n:Nat)(f:Nat→Int)(i:Nat):((List.range n).map f).getD i 0=if i<n then f i else 0:=by
 rw[gDe,List.getElem?_map]
 by_cases h:i<n
 ·rw[if_pos h,List.getElem?_range h];rfl
 ·rw[if_neg h,List.getElem?_eq_none (by simpa using h)];rfl
theorem d8:∀(m:bw) (c:Int) (r:bw) (i:Nat),(mulL (m ++ [c]) r).getD i 0=(mulL m r).getD i 0+(if m.length≤i then c*r.getD (i - m.length) 0 else 0)
 |[],c,r,i=>by
  show(iB (r.map fun y=>c*y) [0]).getD i 0=0+_
  rw[gx,Be _ (by lia),if_pos (show([]:bw).length≤i from Nat.zero_le _)]
  have z:([0]:bw).getD i 0=0:=by cases i <;>simp
  rw[z];simp
 |a::m,c,r,0=>by
  show(iB (r.map fun y=>a*y) (0::mulL (m ++ [c]) r)).getD 0 0=(iB (r.map fun y=>a*y) (0::mulL m r)).getD 0 0+_
  rw[gx,gx,if_neg (by simp)];simp
 |a::m,c,r,i+1=>by
  show(iB (r.map fun y=>a*y) (0::mulL (m ++ [c]) r)).getD (i+1) 0=(iB (r.map fun y=>a*y) (0::mulL m r)).getD (i+1) 0+_
  rw[gx,gx]
  show _+ (mulL (m ++ [c]) r).getD i 0=_+ (mulL m r).getD i 0+_
  rw[d8 m c r i]
  simp only[List.length_cons,Nat.add_le_add_iff_right,Nat.add_sub_add_right]
  lia
theorem tX:∀(m:bw) (r:bw) (i:Nat),r≠[]→m.length+r.length - 1≤i→(mulL m r).getD i 0=0
 |[],r,i,_,_=>by
  show([]:bw).getD i 0=0
  simp
 |a::m,r,i,hr,h=>by
  have n:=dG (a::m) r (by simp) hr
  rw[gDe,List.getElem?_eq_none (by lia)];rfl
theorem wR(m:bw)(t:Nat)(h:t<m.length):m.take (t+1)=m.take t ++ [m.getD t 0]:=by
 rw[List.take_add_one,List.getElem?_eq_getElem h,gDe,List.getElem?_eq_getElem h]
 rfl
theorem CL(r:bw)(hr:r≠[])(hl:lc r≠0)(m:bw):∀(t:Nat) (rest:bw),t≤m.length→(∀i,rest.getD i 0=(mulL (m.take t) r).getD i 0)→t+r.length - 1≤rest.length→FY r t rest (m.drop t)=m
 |0,rest,_,_,_=>by
  show m.drop 0=m
  rfl
 |t+1,rest,ht,h,hz=>by
  have pr:0<r.length:=List.length_pos_iff.mpr hr
  have hm:m.take (t+1)=m.take t ++ [m.getD t 0]:=wR m t (by lia)
  have tl:(m.take t).length=t:=by rw[List.length_take];lia
  have ef:(rest.getD (t+r.length - 1) 0).fdiv (lc r)=m.getD t 0:=by
   rw[h,hm,d8,tl,tX (m.take t) r _ hr (by lia),if_pos (by lia)]
   have e:t+r.length - 1 - t=r.length - 1:=by lia
   rw[e]
   show(0+m.getD t 0*lc r).fdiv (lc r)=_
   rw[Int.zero_add,Int.mul_fdiv_cancel _ hl]
  show FY r t ((List.range rest.length).map fun i=>rest.getD i 0 - (if t≤i∧i<t+r.length then(rest.getD (t+r.length - 1) 0).fdiv (lc r)*r.getD (i - t) 0 else 0)) ((rest.getD (t+r.length - 1) 0).fdiv (lc r)::m.drop (t+1))=m
  rw[ef]
  have ed:m.getD t 0::m.drop (t+1)=m.drop t:=by
   rw[gDe,List.getElem?_eq_getElem (by lia:t<m.length)]
   exact(List.drop_eq_getElem_cons (by lia)).symm
  rw[ed]
  refine CL r hr hl m t _ (by lia) (fun i=> ?_) (by rw[lMp,List.length_range];lia)
  rw[G9]
  by_cases hi:i<rest.length
  ·rw[if_pos hi,h,hm,d8,tl]
   by_cases q:t≤i
   ·rw[if_pos q]
    by_cases q2:i<t+r.length
    ·rw[if_pos ⟨q,q2⟩];lia
    ·rw[if_neg (fun z=>q2 z.2)]
     have:r.getD (i - t) 0=0:=by rw[gDe,List.getElem?_eq_none (by lia)];rfl
     rw[this];lia
   ·rw[if_neg q,if_neg (fun z=>q z.1)];lia
  ·rw[if_neg hi]
   exact(tX (m.take t) r i hr (by rw[tl];lia)).symm
theorem F4{l r m:bw}(hl:Trim l)(hr:Trim r)(hm:Trim m)(hr0:r≠[])(h:bK l=bK m*bK r):IS l r=m:=by
 by_cases q:m=[]
 ·subst q
  have e:l=[]:=(gh hl).mp (by rw[h];show(0:PF)*_=0;grind)
  unfold IS
  rw[if_pos e]
 ·have el:l=mulL m r:=by
   have t:Trim (mulL m r):=by
    have:=zR hm hr
    unfold dO at this
    rwa [if_neg (fun h=>h.elim q hr0)] at this
   exact wk hl t (by rw[h,oq])
  have n:=dG m r q hr0
  have pm:0<m.length:=List.length_pos_iff.mpr q
  have pr:0<r.length:=List.length_pos_iff.mpr hr0
  unfold IS
  rw[if_neg (fun e=>by rw[el] at e;have:=congrArg List.length e;rw[n] at this;simp at this;lia),el,n]
  have e:m.length+r.length - 1 - r.length+1=m.length:=by lia
  rw[e]
  have d:=CL r hr0 (iC.mp hr hr0) m m.length (mulL m r) (Nat.le_refl _) (fun i=>by rw[List.take_length]) (by lia)
  rw[List.drop_length] at d
  exact d
end ak
namespace ak
open Lean.Grind
def gS(l:bw):Nat:=(l.map Int.natAbs).sum
structure Bd(f:PF)(d B:Nat):Prop where
 ex:∃l:bw,Trim l∧bK l=f∧l.length≤d+1∧gS l≤B
def fD(f:PF):Prop:=∃l:bw,Trim l∧bK l=f
theorem pF(l:bw):fD (bK l):=⟨G6 l,rR l,Bb l⟩
theorem Ha:fD 0:=pF []
theorem wU:fD 1:=by
 have e:bK [1]=1:=PF.ext fun x=>by
  rw[bP]
  show((1:Int):Rat)+x*0=((1:Nat):Rat)
  grind
 exact e▸pF [1]
theorem fD.add{f g:PF}(hf:fD f)(hg:fD g):fD (f+g):=by
 obtain⟨l,_,rfl⟩:=hf
 obtain⟨m,_,rfl⟩:=hg
 exact wQ l m▸pF _
theorem fD.mul{f g:PF}(hf:fD f)(hg:fD g):fD (f*g):=by
 obtain⟨l,_,rfl⟩:=hf
 obtain⟨m,_,rfl⟩:=hg
 exact oq l m▸pF _
theorem fD.neg{f:PF}(hf:fD f):fD (- f):=by
 obtain⟨l,_,rfl⟩:=hf
 exact Bc l▸pF _
theorem fD.sub{f g:PF}(hf:fD f)(hg:fD g):fD (f - g):=by
 have e:f - g=f+ - g:=by grind
 rw[e];exact hf.add hg.neg
theorem KA(i:Nat):fD (sg i):=by
 unfold sg
 split
 ·exact wU
 ·exact wU.neg
theorem tY:∀(n:Nat) {f:Nat→PF},(∀i,i<n→fD (f i))→fD (a7 n f)
 |0,_,_=>Ha
 |n+1,f,h=>(tY n fun i hi=>h i (by lia)).add (h n (by lia))
theorem wV:∀(n:Nat) {A:Nat→Nat→PF},(∀i j,i<n→j<n→fD (A i j))→fD (det n A)
 |0,_,_=>wU
 |n+1,A,h=>by
  rw[cB]
  refine tY _ fun i hi=>(KA i).mul ((h i 0 hi (by lia)).mul (wV n fun a b ha hb=>h _ _ (rO ha) (by lia)))
def ent(t:List fj)(i j:Nat):bw:=(t.getD i []).getD j []
structure Tab(n:Nat)(t:List fj):Prop where
 len:t.length=n
 row:∀i,i<n→(t.getD i []).length=n+1
 trim:∀i j,i<n→j<n+1→Trim (ent t i j)
def m6(t:List fj):Nat→Nat→PF:=fun i j=>bK (ent t i j)
structure Ord(n:Nat)(σ:Nat→Nat)(ε:PF):Prop where
 lt:∀i,i<n→σ i<n
 IV:∀i,i<n→∃a,a<n∧σ a=i
 sgn:ε=1∨ε= -1
 det:∀F:Nat→Nat→PF,det n (fun i j=>F (σ i) j)=ε*det n F
theorem Ord.id(n:Nat):Ord n (fun i=>i) 1:=⟨fun i h=>h,fun i h=>⟨i,h,rfl⟩,.inl rfl,fun F=>by grind⟩
theorem Ov(r t i:Nat):sw r t (sw r t i)=i:=by
 unfold sw
 repeat' split
 all_goals lia
theorem j5{r t i n:Nat}(hr:r<n)(ht:t<n)(hi:i<n):sw r t i<n:=by
 unfold sw
 repeat' split
 all_goals lia
theorem ot{R:Type}(A:Nat→Nat→R)(r t:Nat):cV A r t=fun i j=>A (sw r t i) j:=by
 funext i j
 show(if i=r then A t j else if i=t then A r j else A i j)=A (if i=r then t else if i=t then r else i) j
 by_cases q:i=r
 ·rw[if_pos q,if_pos q]
 ·rw[if_neg q,if_neg q]
  by_cases q2:i=t
  ·rw[if_pos q2,if_pos q2]
  ·rw[if_neg q2,if_neg q2]
theorem Ord.swap{n:Nat}{σ:Nat→Nat}{ε:PF}(o:Ord n σ ε)(r t:Nat)(hr:r<n)(ht:t<n):∃ε',Ord n (fun i=>σ (sw r t i)) ε':=by
 have lt:∀i,i<n→σ (sw r t i)<n:=fun i hi=>o.lt _ (j5 hr ht hi)
 have IV:∀i,i<n→∃a,a<n∧σ (sw r t a)=i:=fun i hi=>by
  obtain⟨a,ha,e⟩:=o.IV i hi
  exact⟨sw r t a,j5 hr ht ha,by rw[Ov];exact e⟩
 by_cases q:r=t
 ·subst q
  refine⟨ε,lt,IV,o.sgn,fun F=> ?_⟩
  have e:∀i,sw r r i=i:=fun i=>by
   unfold sw
   repeat' split
   all_goals lia
  simp only[e]
  exact o.det F
 ·refine⟨-ε,lt,IV,?_,fun F=> ?_⟩
  ·rcases o.sgn with e |e
   ·exact .inr (by rw[e])
   ·exact .inl (by rw[e];grind)
  ·have d:=IH n (fun i j=>F (σ i) j) r t hr ht q
   rw[ot] at d
   rw[d,o.det F];grind
theorem Ord.ne{n:Nat}{σ:Nat→Nat}{ε:PF}(o:Ord n σ ε):ε*ε=1:=by
 rcases o.sgn with e |e <;>rw[e] <;>grind
theorem Mz:(1:PF)≠0:=fun e=>by
 have e1:(1:PF).f 0=(0:PF).f 0:=by rw[e]
 have e2:(1:Rat)=0:=e1
 exact absurd e2 (by decide)
theorem CM(t:List fj)(i a:Nat)(r:fj)(h:i<t.length):(t.set i r).getD a []=if a=i then r else t.getD a []:=by
 rw[gDe,gDe,List.getElem?_set]
 by_cases q:i=a
 ·subst q
  rw[if_pos rfl,if_pos h,if_pos rfl];rfl
 ·rw[if_neg q,if_neg (Ne.symm q)]
theorem wo(t:List fj)(c k a:Nat)(hc:c<t.length)(hk:k<t.length):(i9 t c k).getD a []=t.getD (sw c k a) []:=by
 unfold i9
 rw[CM _ _ _ _ (by rw[List.length_set];exact hk),CM _ _ _ _ hc]
 unfold sw
 by_cases q:a=k
 ·subst q
  rw[if_pos rfl]
  by_cases q2:a=c
  ·subst q2;rw[if_pos rfl]
  ·rw[if_neg q2,if_pos rfl]
 ·rw[if_neg q]
  by_cases q2:a=c
  ·rw[if_pos q2,if_pos q2]
  ·rw[if_neg q2,if_neg q2,if_neg q]
theorem i0{α:Type}(n:Nat)(f:Nat→α)(i:Nat)(d:α)(h:i<n):((List.range n).map f).getD i d=f i:=by
 rw[gDe,List.getElem?_map,List.getElem?_range h];rfl
theorem Bf(t:List fj)(k:Nat)(before:bw)(i j:Nat)(hi:i<t.length)(hj:j<(t.getD i []).length):
  ent (tW t k before) i j=if i=k then ent t k j else if k<j then IS (rP (dO (ent t k k) (ent t i j)) (dO (ent t i k) (ent t k j))) before else ent t i j:=by
 unfold ent tW
 rw[i0 _ _ _ _ hi]
 by_cases q:i=k
 ·rw[if_pos q,if_pos q]
 ·rw[if_neg q,if_neg q]
  unfold gW
  rw[i0 _ _ _ _ hj]
theorem F5(t:List fj)(k:Nat)(before:bw)(i:Nat)(hi:i<t.length):((tW t k before).getD i []).length=(t.getD i []).length:=by
 unfold tW
 rw[i0 _ _ _ _ hi]
 by_cases q:i=k
 ·rw[if_pos q,q]
 ·rw[if_neg q]
  unfold gW
  simp
structure Nh(n k:Nat)(A:Nat→Nat→PF)(t:List fj)(before:bw)(σ:Nat→Nat)(ε:PF):Prop where
 tab:Tab n t
 ord:Ord n σ ε
 CN:Trim before
 yL:bK before=mk (fun i j=>A (σ i) j) k
 ne:mk (fun i j=>A (σ i) j) k≠0
 up:∀i j,i<k→k≤j→j<n+1→bK (ent t i j)=mc (fun i j=>A (σ i) j) k i j
 low:∀i j,k≤i→i<n→k≤j→j<n+1→bK (ent t i j)=ti (fun i j=>A (σ i) j) k i j
theorem zS(n:Nat)(t:List fj)(h:Tab n t):Nh n 0 (m6 t) t [1] (fun i=>i) 1 where
 tab:=h
 ord:=Ord.id n
 CN:=by unfold Trim;simp
 yL:=by
  show bK [1]=(1:PF)
  refine PF.ext fun x=> ?_
  rw[bP]
  show((1:Int):Rat)+x*0=((1:Nat):Rat)
  grind
 ne:=Mz
 up:=fun i j hi=>by lia
 low:=fun i j _ _ _ _=>by
  show bK (ent t i j)=(1:PF)*m6 t i j - 0
  unfold m6
  grind
theorem CO{n k:Nat}{A:Nat→Nat→PF}{t:List fj}{before:bw}{σ:Nat→Nat}{ε:PF}(hA:∀i j,i<n→j<n+1→fD (A i j))(hk:k<n)(S:Nh n k A t before σ ε)(c:Nat)(hkc:k≤c)(hc:c<n)(hp:ent t c k≠[]):
  ∃ε',Nh n (k+1) A (tW (i9 t c k) k before) (ent t c k) (fun i=>σ (sw c k i)) ε':=by
 obtain⟨ε',o'⟩:=S.ord.swap c k hc hk
 refine⟨ε',?_⟩
 have hB:(fun i j=>A (σ (sw c k i)) j)=cV (fun i j=>A (σ i) j) c k:=(ot (fun i j=>A (σ i) j) c k).symm
 have tl:=S.tab.len
 have sl:(i9 t c k).length=n:=by unfold i9;rw[List.length_set,List.length_set];exact tl
 have sg':∀a,(i9 t c k).getD a []=t.getD (sw c k a) []:=fun a=>wo t c k a (by lia) (by lia)
 have se:∀a j,ent (i9 t c k) a j=ent t (sw c k a) j:=fun a j=>by unfold ent;rw[sg']
 have skk:sw c k k=c:=by
  unfold sw
  repeat' split
  all_goals lia
 have slow:∀i,i<k→sw c k i=i:=fun i hi=>by unfold sw;rw[if_neg (by lia),if_neg (by lia)]
 have shigh:∀i,k≤i→k≤sw c k i:=fun i hi=>by
  unfold sw
  repeat' split
  all_goals lia
 have mkS:mk (fun i j=>A (σ (sw c k i)) j) k=mk (fun i j=>A (σ i) j) k:=by rw[hB];exact A0 _ k c k hkc (Nat.le_refl _)
 have mcS:∀i j,mc (fun i j=>A (σ (sw c k i)) j) k i j=mc (fun i j=>A (σ i) j) k i j:=fun i j=>by rw[hB];exact A2 _ k c k i j hkc (Nat.le_refl _)
 have tiS:∀i j,ti (fun i j=>A (σ (sw c k i)) j) k i j=ti (fun i j=>A (σ i) j) k (sw c k i) j:=fun i j=>by rw[hB];exact FX _ k c k i j hkc (Nat.le_refl _)
 have eU:∀i j,i<k→k≤j→j<n+1→bK (ent (i9 t c k) i j)=mc (fun i j=>A (σ (sw c k i)) j) k i j:=fun i j hi hj hjn=>by rw[se,slow i hi,S.up i j hi hj hjn,mcS]
 have eL:∀i j,k≤i→i<n→k≤j→j<n+1→bK (ent (i9 t c k) i j)=ti (fun i j=>A (σ (sw c k i)) j) k i j:=fun i j hi hin hj hjn=>by
  rw[se,S.low _ j (shigh i hi) (j5 hc hk hin) hj hjn,tiS]
 have sT:∀i j,i<n→j<n+1→Trim (ent (i9 t c k) i j):=fun i j hi hj=>by rw[se];exact S.tab.trim _ j (j5 hc hk hi) hj
 generalize hBd:(fun i j=>A (σ (sw c k i)) j)=B at *
 have hBI:∀i j,i<n→j<n+1→fD (B i j):=fun i j hi hj=>by rw[←hBd];exact hA _ j (S.ord.lt _ (j5 hc hk hi)) hj
 have B8:Reg (mk B k):=PF.B8 (by rw[mkS];exact S.ne)
 have piv:bK (ent t c k)=mk B (k+1):=by
  have e:=eL k k (Nat.le_refl _) hk (Nat.le_refl _) (by lia)
  rw[se,skk] at e
  rw[e,wM B k B8]
 have ne1:mk B (k+1)≠0:=fun z=>hp ((gh (S.tab.trim c k hc (by lia))).mp (piv.trans z))
 have reg1:Reg (mk B (k+1)):=PF.B8 ne1
 have bne:before≠[]:=fun z=>by
  have:=S.yL
  rw[z] at this
  exact S.ne this.symm
 have ekk:bK (ent (i9 t c k) k k)=mk B (k+1):=by rw[se,skk];exact piv
 have imk:fD (mk B (k+1)):=wV _ fun i j hi hj=>hBI i j (by lia) (by lia)
 have imc:∀i j,i<k+1→j<n+1→fD (mc B (k+1) i j):=fun i j hi hj=>wV _ fun a b ha hb=>by
  show fD (if b=i then B a j else B a b)
  split
  ·exact hBI a j (by lia) hj
  ·exact hBI a b (by lia) (by lia)
 have iti:∀i j,i<n→j<n+1→fD (ti B (k+1) i j):=fun i j hi hj=>(imk.mul (hBI i j hi hj)).sub (tY _ fun d hd=>(hBI i d hi (by lia)).mul (imc d j hd hj))
 have dv:∀i j f,i<n→k<j→j<n+1→i≠k→fD f→mk B (k+1)*bK (ent (i9 t c k) i j) - bK (ent (i9 t c k) i k)*bK (ent (i9 t c k) k j)=mk B k*f→∃m,Trim m∧bK m=f∧ent (tW (i9 t c k) k before) i j=m:=fun i j f hi hj hjn hik hf e=>by
  obtain⟨m,tm,em⟩:=hf
  refine⟨m,tm,em,?_⟩
  rw[Bf _ _ _ _ _ (by lia) (by rw[sg',S.tab.row _ (j5 hc hk hi)];exact hjn),if_neg hik,if_pos hj]
  refine F4 (pC _ _) S.CN tm bne ?_
  rw[oo,ji,ji,ekk,e,em,S.yL,←mkS]
  grind
 have up':∀i j,i<k+1→k+1≤j→j<n+1→Trim (ent (tW (i9 t c k) k before) i j)∧bK (ent (tW (i9 t c k) k before) i j)=mc B (k+1) i j:=fun i j hi hj hjn=>by
  by_cases q:i=k
  ·subst q
   rw[Bf _ _ _ _ _ (by lia) (by rw[sg',S.tab.row _ (j5 hc hk hk)];exact hjn),if_pos rfl]
   exact⟨sT _ j hk hjn,by rw[eL _ j (Nat.le_refl _) hk (by lia) hjn,FV B _ j B8 reg1]⟩
  ·obtain⟨m,tm,em,e⟩:=dv i j (mc B (k+1) i j) (by lia) (by lia) hjn q (imc i j hi hjn) (by
    rw[eU i j (by lia) (by lia) hjn,eU i k (by lia) (Nat.le_refl _) (by lia),eL k j (Nat.le_refl _) hk (by lia) hjn]
    exact(wj B k j B8 reg1 i (by lia)).1)
   rw[e]
   exact⟨tm,em⟩
 have low':∀i j,k+1≤i→i<n→k+1≤j→j<n+1→Trim (ent (tW (i9 t c k) k before) i j)∧bK (ent (tW (i9 t c k) k before) i j)=ti B (k+1) i j:=fun i j hi hin hj hjn=>by
  obtain⟨m,tm,em,e⟩:=dv i j (ti B (k+1) i j) hin (by lia) hjn (by lia) (iti i j hin hjn) (by
   rw[eL i j (by lia) hin (by lia) hjn,eL i k (by lia) hin (Nat.le_refl _) (by lia),eL k j (Nat.le_refl _) hk (by lia) hjn]
   exact FW B k i j B8 reg1)
  rw[e]
  exact⟨tm,em⟩
 have cl:(tW (i9 t c k) k before).length=n:=by unfold tW;rw[lMp,List.length_range];exact sl
 subst hBd
 refine⟨⟨cl,fun i hi=>by rw[F5 _ _ _ _ (by lia),sg',S.tab.row _ (j5 hc hk hi)],fun i j hi hj=> ?_⟩,o',S.tab.trim c k hc (by lia),piv,ne1,fun i j hi hj hjn=>(up' i j hi hj hjn).2,fun i j hi hin hj hjn=>(low' i j hi hin hj hjn).2⟩
 by_cases q:k+1≤j
 ·by_cases q2:i<k+1
  ·exact(up' i j q2 q hj).1
  ·exact(low' i j (by lia) hi q hj).1
 ·rw[Bf _ _ _ _ _ (by lia) (by rw[sg',S.tab.row _ (j5 hc hk hi)];exact hj)]
  by_cases q2:i=k
  ·rw[if_pos q2];exact sT k j hk hj
  ·rw[if_neg q2,if_neg (by lia)];exact sT i j hi hj
theorem mh(t:List fj)(k:Nat):∀(f c:Nat),f≤t.length→je t k f=some c→t.length - f≤c∧c<t.length∧ent t c k≠[]
 |0,c,_,h=>by cases h
 |f+1,c,hf,h=>by
  unfold je at h
  dsimp only at h
  split at h
  ·rename_i e
   cases h
   exact⟨Nat.le_refl _,by lia,e⟩
  ·obtain⟨h1,h2,h3⟩:=mh t k f c (by lia) h
   exact⟨by lia,h2,h3⟩
theorem wW(t:List fj)(k:Nat):∀(f:Nat),f≤t.length→je t k f=none→∀i,t.length - f≤i→i<t.length→ent t i k=[]
 |0,_,_,i,h1,h2=>by lia
 |f+1,hf,h,i,h1,h2=>by
  unfold je at h
  dsimp only at h
  split at h
  ·cases h
  ·rename_i e
   by_cases q:i=t.length - (f+1)
   ·rw[q]
    exact Classical.not_not.mp e
   ·exact wW t k f (by lia) h i (by lia) h2
structure Qp(n:Nat)(A:Nat→Nat→PF)(d:bw)(tops:List bw):Prop where
 len:tops.length=n
 F6:Trim d
 Qq:d≠[]
 trim:∀c,c<n→Trim (tops.getD c [])
 sgn:∃ε:PF,(ε=1∨ε= -1)∧bK d=ε*det n A∧∀c,c<n→bK (tops.getD c [])=ε*det n (bE A c fun i=>A i n)
theorem CP{n:Nat}{A:Nat→Nat→PF}(hA:∀i j,i<n→j<n+1→fD (A i j)):∀(f k:Nat) (t:List fj) (before:bw) (σ:Nat→Nat) (ε:PF),f+k=n→Nh n k A t before σ ε→
  (∃d tops,rQ f k t before=some (d,tops)∧Qp n A d tops)∨(rQ f k t before=none∧det n A=0∧∃x:Nat→PF,(∃j,j<n∧x j≠0)∧∀i,i<n→a7 n (fun d=>A i d*x d)=0)
 |0,k,t,before,σ,ε,hf,S=>by
  have hk:k=n:=by lia
  subst hk
  refine .inl ⟨_,_,rfl,?_⟩
  have tl:=S.tab.len
  have te:∀c,c<k→(t.map fun r=>r.getD (r.length - 1) []).getD c []=ent t c k:=fun c hc=>by
   have hr:=S.tab.row c hc
   unfold ent
   rw[gDe,List.getElem?_map,List.getElem?_eq_getElem (by lia)]
   rw[gDe,List.getElem?_eq_getElem (by lia)] at hr
   rw[gDe (l:=t),List.getElem?_eq_getElem (by lia)]
   simp only[Option.map_some,Option.getD_some] at hr⊢
   rw[hr];rfl
  refine⟨by rw[lMp];exact tl,S.CN,fun z=>S.ne (by rw[←S.yL,z];rfl),fun c hc=>by rw[te c hc];exact S.tab.trim c k hc (by lia),ε,S.ord.sgn,?_,fun c hc=> ?_⟩
  ·rw[S.yL]
   exact S.ord.det A
  ·rw[te c hc,S.up c k hc (Nat.le_refl _) (by lia)]
   exact S.ord.det (bE A c fun i=>A i k)
 |f+1,k,t,before,σ,ε,hf,S=>by
  have hk:k<n:=by lia
  have tl:=S.tab.len
  unfold rQ
  cases e:je t k (t.length - k) with
  |some c=>
   obtain⟨h1,h2,h3⟩:=mh t k _ c (by lia) e
   obtain⟨ε',S'⟩:=CO hA hk S c (by lia) (by lia) h3
   exact CP hA f (k+1) _ _ _ ε' (by lia) S'
  |none=>
   refine .inr ⟨rfl,?_⟩
   have z:=wW t k _ (by lia) e
   have B8:Reg (mk (fun i j=>A (σ i) j) k):=PF.B8 S.ne
   have np:=IL (fun i j=>A (σ i) j) n k hk B8 fun i hi hin=>by
    rw[←S.low i k hi hin (Nat.le_refl _) (by lia),z i (by lia) (by lia)];rfl
   refine⟨?_,fun d=>if d<k+1 then(if d=k then mk (fun i j=>A (σ i) j) k else - mc (fun i j=>A (σ i) j) k d k) else 0,⟨k,hk,?_⟩,fun i hi=> ?_⟩
   ·have d:=S.ord.det A
    rw[np.2] at d
    have o:=S.ord.ne
    grind
   ·dsimp only
    rw[if_pos (by lia),if_pos rfl]
    exact S.ne
   ·obtain⟨a,ha,ea⟩:=S.ord.IV i hi
    have s:=np.1 a ha
    rw[ea] at s
    exact s
theorem Ek{n:Nat}{t:List fj}(h:Tab n t):
  (∃d tops,sol t=some (d,tops)∧Qp n (m6 t) d tops)∨(sol t=none∧det n (m6 t)=0∧∃x:Nat→PF,(∃j,j<n∧x j≠0)∧∀i,i<n→a7 n (fun d=>m6 t i d*x d)=0):=by
 unfold sol
 rw[h.len]
 exact CP (fun i j _ _=>pF _) n 0 t [1] _ 1 rfl (zS n t h)
end ak
namespace ak
open Lean.Grind
open Wh (valueAt addPoly scalePoly mulPoly)
theorem El(x:Rat):∀(n:Nat) (f:Nat→PF),(a7 n f).f x=a7 n fun i=>(f i).f x
 |0,_=>rfl
 |n+1,f=>by
  show(a7 n f).f x+(f n).f x=_
  rw[El x n f];rfl
theorem Ow(x:Rat)(i:Nat):(sg i:PF).f x=sg i:=by
 unfold sg
 split <;>rfl
theorem zT(x:Rat):∀(n:Nat) (A:Nat→Nat→PF),(det n A).f x=det n fun i j=>(A i j).f x
 |0,_=>rfl
 |n+1,A=>by
  rw[cB,cB,El]
  refine bc _ fun i _=> ?_
  rw[PF.LC,PF.LC,Ow,zT x n];rfl
def LH(l:List (List Rat)):Nat→Nat→Rat:=fun i j=>(l.getD i []).getD j 0
theorem vm{R:Type} [CommRing R](n:Nat)(A:Nat→Nat→R)(p:Nat)(hp:p<n)(c:Nat→R):∀m,m≤n→det n (fun i j=>if i<m∧i≠p then A i j+c i*A p j else A i j)=det n A
 |0,_=>bh n fun i j _ _=>if_neg (by lia)
 |m+1,hm=>by
  rw[←vm n A p hp c m (by lia)]
  by_cases q:m=p
  ·refine bh n fun i j _ _=> ?_
   by_cases e:i<m+1∧i≠p
   ·rw[if_pos e,if_pos (by lia)]
   ·rw[if_neg e,if_neg (by lia)]
  ·have r:=Ef n (fun i j=>if i<m∧i≠p then A i j+c i*A p j else A i j) m p (c m) (by lia) hp q
   rw[←r]
   refine bh n fun i j _ _=> ?_
   by_cases e:i=m
   ·subst e
    rw[bH]
    rw[if_pos ⟨by lia,q⟩,if_neg (by lia),if_neg (by lia)]
   ·rw[bO e]
    by_cases e2:i<m+1∧i≠p
    ·rw[if_pos e2,if_pos (by lia)]
    ·rw[if_neg e2,if_neg (by lia)]
theorem jj(r:List Rat):r.headD 0=r.getD 0 0:=by cases r <;>rfl
theorem wX(r:List Rat)(j:Nat):(r.drop 1).getD j 0=r.getD (j+1) 0:=by cases r <;>simp
theorem zU(f:Rat→Rat→Rat)(a b:List Rat)(j:Nat)(ha:j<a.length)(hb:j<b.length):(List.zipWith f a b).getD j 0=f (a.getD j 0) (b.getD j 0):=by
 rw[gDe,List.getElem?_zipWith,gDe,gDe,List.getElem?_eq_getElem ha,List.getElem?_eq_getElem hb];rfl
theorem wY:∀(f:Nat) (l:List (List Rat)),l.length=f→(∀i,i<f→(l.getD i []).length=f)→Wh.detOf f l=det f (LH l)
 |0,_,_,_=>rfl
 |f+1,l,hl,hr=>by
  unfold Wh.detOf
  cases e:l.findIdx? fun r:List Rat=>decide (r.headD 0≠0) with
  |none=>
   dsimp only
   refine(iZ (f+1) (LH l) 0 (by lia) fun i hi=> ?_).symm
   have h:=List.findIdx?_eq_none_iff.mp e (l.getD i []) (by
    rw[gDe,List.getElem?_eq_getElem (by lia)]
    exact List.getElem_mem _)
   simp only[decide_eq_false_iff_not,Classical.not_not] at h
   show(l.getD i []).getD 0 0=0
   rw[←jj];exact h
  |some i=>
   obtain⟨hi,hp,_⟩:=List.findIdx?_eq_some_iff_getElem.mp e
   have hp':(l.getD i []).headD 0≠0:=by
    rw[gDe,List.getElem?_eq_getElem hi]
    simpa using hp
   dsimp only
   generalize hpr:l.getD i []=p at hp'⊢
   have lp:p.length=f+1:=by rw[←hpr];exact hr i (by lia)
   have pA:∀j,LH l i j=p.getD j 0:=fun j=>by show(l.getD i []).getD j 0=_;rw[hpr]
   rw[←vm (f+1) (LH l) i (by lia) (fun a=> -((l.getD a []).headD 0 / p.headD 0)) (f+1) (Nat.le_refl _),cB,iA (f+1) i (by lia)]
   ·have hsg:(sg i:Rat)=if i % 2=1 then -1 else 1:=by
     unfold sg
     by_cases q:i % 2=1
     ·rw[if_pos q,if_neg (by lia)]
     ·rw[if_neg q,if_pos (by lia)]
    rw[hsg]
    refine congrArg _ ?_
    rw[if_neg (by lia),pA,jj]
    refine congrArg _ ?_
    have ih:=wY f ((l.eraseIdx i).map fun r:List Rat=>List.zipWith (fun x y:Rat=>x - r.headD 0 / p.headD 0*y) (r.drop 1) (p.drop 1)) (by
     rw[lMp,List.length_eraseIdx,if_pos hi];lia) (fun a ha=>by
     have la:a<(l.eraseIdx i).length:=by rw[List.length_eraseIdx,if_pos hi];lia
     rw[gDe,List.getElem?_map,List.getElem?_eq_getElem la]
     simp only[Option.map_some,Option.getD_some,List.length_zipWith,List.length_drop]
     have hm:=List.mem_of_mem_eraseIdx (List.getElem_mem la)
     obtain⟨b,hb,eb⟩:=List.getElem_of_mem hm
     have:=hr b (by lia)
     rw[gDe,List.getElem?_eq_getElem hb] at this
     simp only[Option.getD_some] at this
     rw[←eb,this,lp];lia)
    rw[←jj,ih]
    refine bh f fun a b ha hb=> ?_
    have la:a<(l.eraseIdx i).length:=by rw[List.length_eraseIdx,if_pos hi];lia
    have ls:skip i a<l.length:=by have:=rO (i:=i) ha;lia
    have ee:(l.eraseIdx i)[a]=l[skip i a]:=by
     rw[List.getElem_eraseIdx]
     unfold skip
     split <;>rfl
    have lr:(l[skip i a]).length=f+1:=by
     have:=hr (skip i a) (by lia)
     rw[gDe,List.getElem?_eq_getElem ls] at this
     exact this
    have eg:l.getD (skip i a) []=l[skip i a]:=by rw[gDe,List.getElem?_eq_getElem ls];rfl
    show(((l.eraseIdx i).map fun r:List Rat=>List.zipWith (fun x y:Rat=>x - r.headD 0 / p.headD 0*y) (r.drop 1) (p.drop 1)).getD a []).getD b 0=if skip i a<f+1∧skip i a≠i then LH l (skip i a) (b+1)+ -((l.getD (skip i a) []).headD 0 / p.headD 0)*LH l i (b+1) else LH l (skip i a) (b+1)
    rw[if_pos ⟨by lia,FU i a⟩,gDe (l:=List.map _ _),List.getElem?_map,List.getElem?_eq_getElem la]
    simp only[Option.map_some,Option.getD_some]
    rw[ee,zU _ _ _ _ (by rw[List.length_drop];lia) (by rw[List.length_drop];lia),wX,wX,pA,eg]
    show _=(l.getD (skip i a) []).getD (b+1) 0+_
    rw[eg]
    grind
   ·intro a ha hai
    rw[if_pos ⟨ha,hai⟩,pA,←jj]
    have:LH l a 0=(l.getD a []).headD 0:=(jj _).symm
    rw[this]
    have z:(l.getD a []).headD 0+ -((l.getD a []).headD 0 / p.headD 0)*p.headD 0=0:=by
     have:=Rat.div_mul_cancel (a:=(l.getD a []).headD 0) hp'
     grind
    rw[z];grind
theorem F7:∀(p:List Rat) (x:Rat),valueAt (Wh.trim p) x=valueAt p x:=by
 intro p x
 have key:∀q:List Rat,valueAt ((q.dropWhile fun x:Rat=>decide (x=0)).reverse) x=valueAt q.reverse x:=by
  intro q
  induction q with
  |nil=>rfl
  |cons a q ih=>
   by_cases h:a=0
   ·rw[List.dropWhile_cons_of_pos (by simpa using h),ih,List.reverse_cons]
    have app:∀(r:List Rat),valueAt (r ++ [0]) x=valueAt r x:=by
     intro r
     induction r with
     |nil=>
      show(0:Rat)+x*0=0
      grind
     |cons b r ih2=>
      show b+x*valueAt (r ++ [0]) x=b+x*valueAt r x
      rw[ih2]
    rw[h,app]
   ·rw[List.dropWhile_cons_of_neg (by simpa using h)]
 unfold Wh.trim
 rw[key,List.reverse_reverse]
theorem CQ(p:List Rat):(Wh.trim p).length≤p.length:=by
 unfold Wh.trim
 rw[List.length_reverse]
 refine Nat.le_trans (List.Sublist.length_le (List.dropWhile_sublist _)) ?_
 rw[List.length_reverse];exact Nat.le_refl _
theorem rS:∀(p:List Rat) (a b:Rat),p≠[]→(mulPoly p [a,b]).length=p.length+1
 |[],_,_,h=>absurd rfl h
 |c::[],a,b,_=>rfl
 |c::d::p,a,b,_=>by
  have ih:=rS (d::p) a b (by simp)
  show(addPoly [c*a,c*b] (0::mulPoly (d::p) [a,b])).length=_
  have al:∀(u v:List Rat),(addPoly u v).length=max u.length v.length:=by
   intro u
   induction u with
   |nil=>
    intro v
    show v.length=max 0 v.length
    lia
   |cons x u ih2=>
    intro v
    cases v with
    |nil=>
     show(x::u).length=max (x::u).length 0
     lia
    |cons y v=>
     show(addPoly u v).length+1=max (u.length+1) (v.length+1)
     rw[ih2 v];lia
  rw[al,List.length_cons (a:=(0:Rat)),ih]
  simp only[List.length_cons,List.length_nil]
  lia
def Bg(i:Nat):List Nat→List Rat→List Rat:=fun js p=>js.foldl (fun(p:List Rat) (j:Nat)=>if j=i then p else mulPoly p [-(j:Rat) / ((i:Rat) - (j:Rat)),1 / ((i:Rat) - (j:Rat))]) p
theorem wZ(m i:Nat):Wh.basis m i=Bg i (List.range m) [1]:=rfl
theorem w4(i:Nat):∀(js:List Nat) (p:List Rat),p≠[]→(Bg i js p).length=p.length+(js.filter fun j=>decide (j≠i)).length
 |[],p,_=>rfl
 |j::js,p,h=>by
  show(Bg i js (if j=i then p else mulPoly p _)).length=_
  by_cases q:j=i
  ·rw[if_pos q,w4 i js p h,List.filter_cons_of_neg (by simpa using q)]
  ·have l2:=rS p (-(j:Rat) / ((i:Rat) - (j:Rat))) (1 / ((i:Rat) - (j:Rat))) h
   rw[if_neg q,w4 i js _ (by intro e;rw[e] at l2;simp at l2),l2,List.filter_cons_of_pos (by simpa using q),List.length_cons]
   lia
theorem IW{i j:Nat}(h:j≠i):(i:Rat) - (j:Rat)≠0:=fun e=>h (by
 have:(j:Rat)=(i:Rat):=by grind
 exact_mod_cast this)
theorem zV(i:Nat):∀(js:List Nat) (p:List Rat),valueAt (Bg i js p) (i:Rat)=valueAt p (i:Rat)
 |[],_=>rfl
 |j::js,p=>by
  show valueAt (Bg i js (if j=i then p else mulPoly p _)) (i:Rat)=_
  rw[zV i js]
  by_cases q:j=i
  ·rw[if_pos q]
  ·rw[if_neg q,tS,fi,fi,A3]
   have:=IW q
   have e: -(j:Rat) / ((i:Rat) - (j:Rat))+(i:Rat)*(1 / ((i:Rat) - (j:Rat))+(i:Rat)*0)=1:=by grind
   rw[e];grind
theorem zW(i:Nat):∀(js:List Nat) (p:List Rat) (x:Rat),valueAt p x=0→valueAt (Bg i js p) x=0
 |[],_,_,h=>h
 |j::js,p,x,h=>by
  show valueAt (Bg i js (if j=i then p else mulPoly p _)) x=0
  refine zW i js _ x ?_
  split
  ·exact h
  ·rw[tS,h];grind
theorem w6(i k:Nat)(hk:k≠i):∀(js:List Nat) (p:List Rat),k∈js→valueAt (Bg i js p) (k:Rat)=0
 |[],_,h=>by cases h
 |j::js,p,h=>by
  show valueAt (Bg i js (if j=i then p else mulPoly p _)) (k:Rat)=0
  by_cases q:k=j
  ·subst q
   rw[if_neg hk]
   refine zW i js _ _ ?_
   rw[tS,fi,fi,A3]
   have:=IW hk
   have e: -(k:Rat) / ((i:Rat) - (k:Rat))+(k:Rat)*(1 / ((i:Rat) - (k:Rat))+(k:Rat)*0)=0:=by grind
   rw[e];grind
  ·exact w6 i k hk js _ ((List.mem_cons.mp h).resolve_left q)
theorem m8(i:Nat):∀m,i<m→((List.range m).filter fun j=>decide (j≠i)).length+1=m
 |0,h=>by lia
 |m+1,h=>by
  rw[List.range_succ,List.filter_append,List.length_append]
  by_cases q:m=i
  ·subst q
   have e:(List.range m).filter (fun j=>decide (j≠m))=List.range m:=List.filter_eq_self.mpr fun a ha=>by
    have:=List.mem_range.mp ha
    simp;lia
   rw[e,List.filter_cons_of_neg (by simp)]
   simp
  ·have:=m8 i m (by lia)
   rw[List.filter_cons_of_pos (by simpa using q)]
   simp only[List.filter_nil,List.length_cons,List.length_nil]
   lia
theorem Hb{m i:Nat}(h:i<m):(Wh.basis m i).length=m:=by
 rw[wZ,w4 i _ _ (by simp)]
 have:=m8 i m h
 simp only[List.length_cons,List.length_nil]
 lia
theorem F8(x:Rat):∀(l:List (List Rat)) (acc:List Rat),valueAt (l.foldl addPoly acc) x=valueAt acc x+(l.map fun p=>valueAt p x).sum
 |[],acc=>by
  show valueAt acc x=valueAt acc x+0
  grind
 |p::l,acc=>by
  show valueAt (l.foldl addPoly (addPoly acc p)) x=_
  rw[F8 x l,kQ,List.map_cons,List.sum_cons]
  grind
theorem gi:∀(u v:List Rat),(addPoly u v).length=max u.length v.length:=by
 intro u
 induction u with
 |nil=>
  intro v
  show v.length=max 0 v.length
  lia
 |cons x u ih2=>
  intro v
  cases v with
  |nil=>
   show(x::u).length=max (x::u).length 0
   lia
  |cons y v=>
   show(addPoly u v).length+1=max (u.length+1) (v.length+1)
   rw[ih2 v];lia
theorem CS(m:Nat):∀(l:List (List Rat)) (acc:List Rat),acc.length≤m→(∀p∈l,p.length≤m)→(l.foldl addPoly acc).length≤m
 |[],_,h,_=>h
 |p::l,acc,h,hl=>by
  refine CS m l (addPoly acc p) ?_ fun q hq=>hl q (List.mem_cons_of_mem _ hq)
  rw[gi]
  have:=hl p List.mem_cons_self
  lia
theorem ou(l:List Rat):(Wh.through l).length≤l.length:=by
 unfold Wh.through
 refine Nat.le_trans (CQ _) (CS l.length _ _ (Nat.zero_le _) fun p hp=> ?_)
 obtain⟨y,hy,rfl⟩:=List.mem_map.mp hp
 have hi:y.2<l.length:=by
  have:=List.mem_zipIdx hy
  lia
 unfold Wh.scalePoly
 rw[lMp,Hb hi]
 exact Nat.le_refl _
theorem w8:∀(l:List Rat) (off k:Nat) (B:Nat→Rat),off≤k→k<off+l.length→(∀i,off≤i→i<off+l.length→i≠k→B i=0)→((l.zipIdx off).map fun y:Rat×Nat=>y.1*B y.2).sum=l.getD (k - off) 0*B k
 |[],off,k,B,h1,h2,_=>by simp at h2;lia
 |a::l,off,k,B,h1,h2,hB=>by
  rw[List.zipIdx_cons,List.map_cons,List.sum_cons]
  by_cases q:k=off
  ·subst q
   have z:((l.zipIdx (k+1)).map fun y:Rat×Nat=>y.1*B y.2).sum=0:=by
    have all:∀(r:List (Rat×Nat)),(∀y∈r,B y.2=0)→(r.map fun y:Rat×Nat=>y.1*B y.2).sum=0:=by
     intro r
     induction r with
     |nil=>intro _;rfl
     |cons y r ih=>
      intro h
      rw[List.map_cons,List.sum_cons,h y List.mem_cons_self,ih fun z hz=>h z (List.mem_cons_of_mem _ hz)]
      grind
    refine all _ fun y hy=> ?_
    have m:=List.mem_zipIdx hy
    exact hB y.2 (by lia) (by simp only[List.length_cons];lia) (by lia)
   rw[z]
   simp only[Nat.sub_self]
   show a*B k+0=a*B k
   grind
  ·have ih:=w8 l (off+1) k B (by lia) (by simp only[List.length_cons] at h2;lia) fun i h3 h4 h5=>hB i (by lia) (by simp only[List.length_cons];lia) h5
   rw[ih,hB off (Nat.le_refl _) (by simp only[List.length_cons];lia) (Ne.symm q)]
   have e:k - off=(k - (off+1))+1:=by lia
   rw[e]
   show a*0+_=l.getD (k - (off+1)) 0*B k
   grind
theorem Em(l:List Rat)(k:Nat)(hk:k<l.length):valueAt (Wh.through l) (k:Rat)=l.getD k 0:=by
 unfold Wh.through
 rw[F7,F8,List.map_map]
 have e:(l.zipIdx.map ((fun p:List Rat=>valueAt p (k:Rat)) ∘ fun y:Rat×Nat=>scalePoly y.1 (Wh.basis l.length y.2)))=l.zipIdx.map fun y:Rat×Nat=>y.1*valueAt (Wh.basis l.length y.2) (k:Rat):=by
  refine List.map_congr_left fun y _=> ?_
  show valueAt (scalePoly _ _) _=_
  rw[eW]
 rw[e,w8 l 0 k (fun i=>valueAt (Wh.basis l.length i) (k:Rat)) (Nat.zero_le _) (by lia) fun i _ hi hik=>by
  rw[wZ];exact w6 i k (Ne.symm hik) _ _ (List.mem_range.mpr hk)]
 rw[wZ,zV,fi,A3]
 simp only[Nat.sub_zero]
 grind
def Dg(f:PF)(d:Nat):Prop:=∃l:List Rat,pS l=f∧l.length≤d
theorem w9(ys:List Rat)(f:PF)(m:Nat)(hm:ys.length=m)(hd:Dg f m)(h:∀i:Nat,i<m→f.f (i:Rat)=ys.getD i 0):pS (Wh.through ys)=f:=by
 obtain⟨l,rfl,hl⟩:=hd
 refine PF.ext fun x=> ?_
 have z:tU (addPoly (Wh.through ys) (scalePoly (-1) l)):=by
  refine zO m _ ?_ fun i hi=> ?_
  ·rw[gi]
   have:=ou ys
   have e:(scalePoly (-1) l).length=l.length:=by unfold Wh.scalePoly;rw[lMp]
   lia
  ·rw[kQ,eW,Em ys i (by lia),←h i hi,IP];grind
 have e:=z.ev x
 rw[kQ,eW] at e
 rw[IP,IP]
 grind
theorem Dg.mono{f:PF}{d e:Nat}(h:Dg f d)(hde:d≤e):Dg f e:=let ⟨l,a,b⟩:=h;⟨l,a,Nat.le_trans b hde⟩
theorem Dg.add{f g:PF}{d:Nat}(hf:Dg f d)(hg:Dg g d):Dg (f+g) d:=by
 obtain⟨l,rfl,hl⟩:=hf
 obtain⟨m,rfl,hm⟩:=hg
 exact⟨addPoly l m,PF.ext fun x=>kQ l m x,by rw[gi];lia⟩
theorem Dg.smul{f:PF}{d:Nat}(c:Rat)(hf:Dg f d):Dg (PF.const c*f) d:=by
 obtain⟨l,rfl,hl⟩:=hf
 exact⟨scalePoly c l,PF.ext fun x=>eW c l x,by unfold Wh.scalePoly;rw[lMp];exact hl⟩
theorem rT(d:Nat):Dg 0 d:=⟨[],rfl,Nat.zero_le _⟩
theorem CT(c:Rat):Dg (PF.const c) 1:=⟨[c],PF.ext fun x=>by
 show c+x*0=c
 grind,Nat.le_refl _⟩
theorem vo:∀(p q:List Rat),p≠[]→q≠[]→(mulPoly p q).length=p.length+q.length - 1
 |[],_,h,_=>absurd rfl h
 |a::[],q,_,hq=>by
  show(addPoly (scalePoly a q) [0]).length=_
  have:0<q.length:=List.length_pos_iff.mpr hq
  rw[gi]
  unfold Wh.scalePoly
  rw[lMp]
  simp only[List.length_cons,List.length_nil]
  lia
 |a::b::p,q,_,hq=>by
  have ih:=vo (b::p) q (by simp) hq
  show(addPoly (scalePoly a q) (0::mulPoly (b::p) q)).length=_
  have:0<q.length:=List.length_pos_iff.mpr hq
  rw[gi,List.length_cons,ih]
  unfold Wh.scalePoly
  rw[lMp]
  simp only[List.length_cons]
  lia
theorem Dg.mul{f g:PF}{d e:Nat}(hf:Dg f (d+1))(hg:Dg g (e+1)):Dg (f*g) (d+e+1):=by
 obtain⟨l,rfl,hl⟩:=hf
 obtain⟨m,rfl,hm⟩:=hg
 refine⟨mulPoly l m,PF.ext fun x=>tS l m x,?_⟩
 by_cases q:l=[]
 ·subst q
  exact Nat.zero_le _
 ·by_cases q2:m=[]
  ·subst q2
   have:∀l:List Rat,(mulPoly l []).length≤l.length:=by
    intro l
    induction l with
    |nil=>exact Nat.le_refl _
    |cons a l ih=>
     show(addPoly (scalePoly a []) (0::mulPoly l [])).length≤_
     rw[gi]
     simp only[Wh.scalePoly,List.map_nil,List.length_nil,List.length_cons]
     lia
   have:=this l
   lia
  ·rw[vo l m q q2];lia
theorem F9(d:Nat):∀(n:Nat) {f:Nat→PF},(∀i,i<n→Dg (f i) d)→Dg (a7 n f) d
 |0,_,_=>rT d
 |n+1,f,h=>(F9 d n fun i hi=>h i (by lia)).add (h n (by lia))
def sumNat:Nat→(Nat→Nat)→Nat
 |0,_=>0
 |n+1,f=>sumNat n f+f n
theorem vq:∀(n i:Nat) (f:Nat→Nat),i<n+1→sumNat n (fun a=>f (skip i a))+f i=sumNat (n+1) f
 |0,i,f,h=>by
  have:i=0:=by lia
  subst this
  rfl
 |n+1,i,f,h=>by
  by_cases q:i=n+1
  ·subst q
   have e:∀m,m≤n+1→sumNat m (fun a=>f (skip (n+1) a))=sumNat m f:=by
    intro m
    induction m with
    |zero=>intro _;rfl
    |succ m ih=>
     intro hm
     show sumNat m (fun a=>f (skip (n+1) a))+f (skip (n+1) m)=sumNat m f+f m
     rw[ih (by lia)]
     have:skip (n+1) m=m:=by unfold skip;rw[if_pos (by lia)]
     rw[this]
   rw[e (n+1) (Nat.le_refl _)]
   rfl
  ·have ih:=vq n i f (by lia)
   show sumNat n (fun a=>f (skip i a))+f (skip i n)+f i=sumNat (n+1) f+f (n+1)
   have:skip i n=n+1:=by unfold skip;rw[if_neg (by lia)]
   rw[this,←ih]
   lia
theorem Bh:∀(n:Nat) {A:Nat→Nat→PF} {d:Nat→Nat},(∀i j,i<n→j<n→Dg (A i j) (d i+1))→Dg (det n A) (sumNat n d+1)
 |0,_,_,_=>CT 1
 |n+1,A,d,h=>by
  rw[cB]
  refine F9 _ _ fun i hi=> ?_
  have hs:(sg i:PF)=PF.const (sg i):=PF.ext fun x=>Ow x i
  rw[hs]
  refine Dg.smul _ ?_
  have m:=(h i 0 hi (by lia)).mul (Bh n (A:=del i A) (d:=fun a=>d (skip i a)) fun a b ha hb=>h _ _ (rO ha) (by lia))
  refine m.mono ?_
  have:=vq n i d hi
  lia
theorem lN(a b:Rat):PF.const (a*b)=PF.const a*PF.const b:=rfl
theorem fk:PF.const 1=1:=rfl
theorem xb:PF.const 0=0:=rfl
theorem CU{c:Rat}(h:c≠0):PF.const c≠0:=fun e=>h (by
 have:(PF.const c).f 0=(0:PF).f 0:=by rw[e]
 exact this)
theorem En{l:bw}(t:Trim l){c:Rat}(hc:c≠0){e:Nat}(h:Dg (PF.const c*bK l) e):l.length≤e:=by
 obtain⟨m,hm,hle⟩:=h
 refine Nat.le_trans (Nat.le_of_not_lt fun lt=> ?_) hle
 have hl0:l≠[]:=fun q=>by rw[q] at lt;exact absurd lt (by simp)
 have ec:=LF (p:=m) (q:=scalePoly c (rl l)) (fun x=>by
  have:=congrArg (fun q:PF=>q.f x) hm
  rw[eW]
  exact this) (l.length - 1)
 rw[tV,Eh,gDe,List.getElem?_eq_none (by lia)] at ec
 have:=iC.mp t hl0
 have e2:c*((l.getD (l.length - 1) 0:Int):Rat)=0:=ec.symm
 rcases Rat.mul_eq_zero.mp e2 with q |q
 ·exact hc q
 ·exact this (by exact_mod_cast q)
theorem MA(l:bw):Dg (bK l) l.length:=⟨rl l,rfl,by unfold rl;rw[lMp];exact Nat.le_refl _⟩
end ak
namespace ak
open Lean.Grind
open Wh (valueAt addPoly scalePoly mulPoly subPoly)
theorem IX(p:List Rat):pS (Wh.trim p)=pS p:=PF.ext fun x=>F7 p x
theorem ow:∀(q:List Rat),(q.dropWhile fun x:Rat=>decide (x=0))=[]∨∃a r,(q.dropWhile fun x:Rat=>decide (x=0))=a::r∧a≠0
 |[]=> .inl rfl
 |a::q=>by
  by_cases h:a=0
  ·rw[List.dropWhile_cons_of_pos (by simpa using h)]
   exact ow q
  ·rw[List.dropWhile_cons_of_neg (by simpa using h)]
   exact .inr ⟨a,q,rfl,h⟩
def LJ(p:List Rat):Prop:=p≠[]→p.getD (p.length - 1) 0≠0
theorem Eo(p:List Rat):LJ (Wh.trim p):=by
 intro h
 unfold Wh.trim at h⊢
 rcases ow p.reverse with e |⟨a,r,e,ha⟩
 ·rw[e] at h
  exact absurd rfl h
 ·rw[e]
  rw[List.reverse_cons,List.length_append,List.length_reverse,gDe]
  simp only[List.length_cons,List.length_nil]
  rw[List.getElem?_append_right (by rw[List.length_reverse];lia)]
  simp only[List.length_reverse]
  have:r.length+(0+1) - 1 - r.length=0:=by lia
  rw[this]
  exact ha
theorem Ep(p:List Rat):Wh.isZero p=true↔Wh.trim p=[]:=by
 unfold Wh.isZero
 exact List.isEmpty_iff
theorem Er{p:List Rat}(t:LJ p):pS p=0↔p=[]:=by
 refine⟨fun e=> ?_,fun e=>by rw[e];rfl⟩
 by_cases h:p=[]
 ·exact h
 ·have z:tU p:=wO fun x=>by
   have:=congrArg (fun q:PF=>q.f x) e
   exact this
  exact absurd (z.get _) (t h)
theorem Es(p:List Rat):Wh.isZero p=true↔pS p=0:=by
 rw[Ep,←IX p,Er (Eo p)]
theorem zX(c:Rat)(p:List Rat):pS (scalePoly c p)=PF.const c*pS p:=PF.ext fun x=>eW c p x
theorem KC(p q:List Rat):pS (addPoly p q)=pS p+pS q:=PF.ext fun x=>kQ p q x
theorem Ga(p q:List Rat):pS (subPoly p q)=pS p - pS q:=by
 unfold Wh.subPoly
 rw[KC,zX]
 exact PF.ext fun x=>by
  show(pS p).f x+(-1)*(pS q).f x=(pS p).f x - (pS q).f x
  grind
end ak
namespace ak
open Lean.Grind
def dot(m:Nat)(r:List Rat)(y:Nat→Rat):Rat:=a7 m fun j=>r.getD j 0*y j
def sat(m:Nat)(y:Nat→Rat)(z:Rat)(r:Wh.Row):Prop:=dot m r.1 y=z*r.2
theorem mi(q:Rat)(r:Wh.Row)(j:Nat):(Wh.scaleRow q r).1.getD j 0=q*r.1.getD j 0:=by
 show(r.1.map fun x:Rat=>q*x).getD j 0=_
 rw[gDe,gDe,List.getElem?_map]
 cases r.1[j]? with
 |none=>show(0:Rat)=q*0;grind
 |some v=>rfl
theorem mj(q:Rat)(r:Wh.Row):(Wh.scaleRow q r).1.length=r.1.length:=by
 show(r.1.map _).length=_
 rw[lMp]
theorem Et(a b:Wh.Row)(j:Nat)(h:a.1.length=b.1.length):(Wh.subRow a b).1.getD j 0=a.1.getD j 0 - b.1.getD j 0:=by
 show(List.zipWith (fun x y:Rat=>x - y) a.1 b.1).getD j 0=_
 by_cases q:j<a.1.length
 ·exact zU _ _ _ _ q (by lia)
 ·rw[gDe,gDe,gDe,List.getElem?_eq_none (by rw[List.length_zipWith];lia),List.getElem?_eq_none (by lia),List.getElem?_eq_none (by lia)]
  show(0:Rat)=0 - 0
  grind
theorem Eu(a b:Wh.Row)(h:a.1.length=b.1.length):(Wh.subRow a b).1.length=a.1.length:=by
 show(List.zipWith _ a.1 b.1).length=_
 rw[List.length_zipWith];lia
theorem zY(c:Nat)(p r:Wh.Row)(h:r.1.length=p.1.length):(Wh.clear c p r).1.length=r.1.length:=by
 unfold Wh.clear
 split
 ·rfl
 ·rw[Eu _ _ (by rw[mj];exact h)]
theorem tZ(c:Nat)(p r:Wh.Row)(h:r.1.length=p.1.length)(j:Nat):(Wh.clear c p r).1.getD j 0=r.1.getD j 0 - r.1.getD c 0*p.1.getD j 0:=by
 unfold Wh.clear
 split
 ·rename_i e
  rw[e];grind
 ·rw[Et _ _ _ (by rw[mj];exact h),mi]
theorem CV(c:Nat)(p r:Wh.Row):(Wh.clear c p r).2=r.2 - r.1.getD c 0*p.2:=by
 unfold Wh.clear
 split
 ·rename_i e
  rw[e];grind
 ·rfl
theorem Hc(m:Nat)(q:Rat)(r:Wh.Row)(y:Nat→Rat):dot m (Wh.scaleRow q r).1 y=q*dot m r.1 y:=by
 unfold dot
 rw[←cg]
 exact bc _ fun j _=>by rw[mi];grind
theorem Hd(m c:Nat)(p r:Wh.Row)(h:r.1.length=p.1.length)(y:Nat→Rat):dot m (Wh.clear c p r).1 y=dot m r.1 y - r.1.getD c 0*dot m p.1 y:=by
 unfold dot
 rw[←cg,←wL]
 exact bc _ fun j _=>by rw[tZ c p r h];grind
theorem He{m:Nat}{y:Nat→Rat}{z q:Rat}{r:Wh.Row}(hq:q≠0):sat m y z (Wh.scaleRow q r)↔sat m y z r:=by
 unfold sat
 rw[Hc]
 show q*dot m r.1 y=z*(q*r.2)↔_
 constructor
 ·intro e
  grind
 ·intro e
  rw[e];grind
theorem pG{m c:Nat}{y:Nat→Rat}{z:Rat}{p r:Wh.Row}(h:r.1.length=p.1.length)(hp:sat m y z p):sat m y z (Wh.clear c p r)↔sat m y z r:=by
 unfold sat at *
 rw[Hd m c p r h,CV,hp]
 constructor
 ·intro e;grind
 ·intro e;rw[e];grind
structure Red(m c:Nat)(l:List Wh.Row)(done:List (Nat×Wh.Row))(left:List Wh.Row):Prop where
 cols:done.map (·.1)=List.range c
 IY:∀x∈done,x.2.1.length=m
 Hf:∀r∈left,r.1.length=m
 unit:∀x∈done,∀j,j<c→x.2.1.getD j 0=if j=x.1 then 1 else 0
 zero:∀r∈left,∀j,j<c→r.1.getD j 0=0
 cnt:done.length+left.length=l.length
 same:∀y z,(∀r∈l,sat m y z r)↔(∀x∈done,sat m y z x.2)∧∀r∈left,sat m y z r
theorem qC(m:Nat):∀(f c:Nat) (done:List (Nat×Wh.Row)) (left:List Wh.Row),(Wh.reduceFrom f c done left).1.length≤done.length+f
 |0,_,done,_=>by
  show done.length≤_
  lia
 |f+1,c,done,left=>by
  unfold Wh.reduceFrom
  split
  ·have:=qC m f (c+1) done left
   lia
  ·rename_i i _
   refine Nat.le_trans (qC m f (c+1) _ _) ?_
   rw[List.length_append,lMp]
   simp only[List.length_cons,List.length_nil]
   lia
theorem mem_getD{left:List Wh.Row}{i:Nat}(h:i<left.length):left.getD i ([],0)∈left:=by
 rw[gDe,List.getElem?_eq_getElem h]
 exact List.getElem_mem h
theorem Bi{α:Type}(l:List α)(i:Nat)(h:i<l.length)(x:α)(hx:x∈l):x=l[i]∨x∈l.eraseIdx i:=by
 obtain⟨a,ha,e⟩:=List.getElem_of_mem hx
 by_cases q:a=i
 ·subst q
  exact .inl e.symm
 ·refine .inr (List.mem_eraseIdx_iff_getElem.mpr ⟨a,ha,q,e⟩)
theorem IZ{m c:Nat}(hc:c<m){l:List Wh.Row}{done:List (Nat×Wh.Row)}{left:List Wh.Row}(S:Red m c l done left){i:Nat}(hi:i<left.length)(hp:(left.getD i ([],0)).1.getD c 0≠0):
  Red m (c+1) l ((done.map fun x:Nat×Wh.Row=>(x.1,Wh.clear c (Wh.scaleRow (1 / (left.getD i ([],0)).1.getD c 0) (left.getD i ([],0))) x.2)) ++ [(c,Wh.scaleRow (1 / (left.getD i ([],0)).1.getD c 0) (left.getD i ([],0)))]) ((left.eraseIdx i).map fun r:Wh.Row=>Wh.clear c (Wh.scaleRow (1 / (left.getD i ([],0)).1.getD c 0) (left.getD i ([],0))) r):=by
 have mp:=mem_getD hi
 generalize hP:left.getD i ([],0)=P at *
 have hq:(1 / P.1.getD c 0:Rat)≠0:=by grind
 have eP:P=left[i]:=by
  rw[←hP,gDe,List.getElem?_eq_getElem hi];rfl
 have lP:=S.Hf P mp
 generalize hp':Wh.scaleRow (1 / P.1.getD c 0) P=p
 have lp:p.1.length=m:=by rw[←hp',mj];exact lP
 have pg:∀j,p.1.getD j 0=1 / P.1.getD c 0*P.1.getD j 0:=fun j=>by rw[←hp',mi]
 have pc:p.1.getD c 0=1:=by rw[pg];grind
 have pz:∀j,j<c→p.1.getD j 0=0:=fun j hj=>by rw[pg,S.zero P mp j hj];grind
 have psat:∀y z,sat m y z p↔sat m y z P:=fun y z=>by rw[←hp'];exact He hq
 have er:∀r∈left.eraseIdx i,r∈left:=fun r hr=>List.mem_of_mem_eraseIdx hr
 refine⟨?_,?_,?_,?_,?_,?_,?_⟩
 ·rw[List.map_append,List.map_map,List.range_succ,←S.cols];rfl
 ·intro x hx
  rcases List.mem_append.mp hx with h |h
  ·obtain⟨y,hy,rfl⟩:=List.mem_map.mp h
   show(Wh.clear c p y.2).1.length=m
   rw[zY _ _ _ (by rw[S.IY y hy,lp]),S.IY y hy]
  ·have:x=(c,p):=by simpa using h
   subst this
   exact lp
 ·intro r hr
  obtain⟨y,hy,rfl⟩:=List.mem_map.mp hr
  rw[zY _ _ _ (by rw[S.Hf y (er y hy),lp]),S.Hf y (er y hy)]
 ·intro x hx j hj
  rcases List.mem_append.mp hx with h |h
  ·obtain⟨y,hy,rfl⟩:=List.mem_map.mp h
   show(Wh.clear c p y.2).1.getD j 0=if j=y.1 then 1 else 0
   have hy1:y.1<c:=by
    have:y.1∈done.map (·.1):=List.mem_map.mpr ⟨y,hy,rfl⟩
    rw[S.cols] at this
    exact List.mem_range.mp this
   rw[tZ _ _ _ (by rw[S.IY y hy,lp])]
   by_cases q:j=c
   ·subst q
    rw[pc,if_neg (by lia)];grind
   ·rw[pz j (by lia),S.unit y hy j (by lia)];grind
  ·have:x=(c,p):=by simpa using h
   subst this
   show p.1.getD j 0=if j=c then 1 else 0
   by_cases q:j=c
   ·rw[if_pos q,q,pc]
   ·rw[if_neg q,pz j (by lia)]
 ·intro r hr j hj
  obtain⟨y,hy,rfl⟩:=List.mem_map.mp hr
  rw[tZ _ _ _ (by rw[S.Hf y (er y hy),lp])]
  by_cases q:j=c
  ·subst q
   rw[pc];grind
  ·rw[S.zero y (er y hy) j (by lia),pz j (by lia)];grind
 ·rw[List.length_append,lMp,lMp,List.length_eraseIdx,if_pos hi,←S.cnt]
  simp only[List.length_cons,List.length_nil]
  lia
 ·intro y z
  rw[S.same y z]
  constructor
  ·rintro⟨h1,h2⟩
   have hp2:=(psat y z).mpr (h2 P mp)
   refine⟨fun x hx=> ?_,fun r hr=> ?_⟩
   ·rcases List.mem_append.mp hx with h |h
    ·obtain⟨w,hw,rfl⟩:=List.mem_map.mp h
     exact(pG (by rw[S.IY w hw,lp]) hp2).mpr (h1 w hw)
    ·have:x=(c,p):=by simpa using h
     subst this
     exact hp2
   ·obtain⟨w,hw,rfl⟩:=List.mem_map.mp hr
    exact(pG (by rw[S.Hf w (er w hw),lp]) hp2).mpr (h2 w (er w hw))
  ·rintro⟨h1,h2⟩
   have hp2:sat m y z p:=h1 (c,p) (List.mem_append_right _ (by simp))
   refine⟨fun x hx=> ?_,fun r hr=> ?_⟩
   ·have:=h1 (x.1,Wh.clear c p x.2) (List.mem_append_left _ (List.mem_map.mpr ⟨x,hx,rfl⟩))
    exact(pG (by rw[S.IY x hx,lp]) hp2).mp this
   ·rcases Bi left i hi r hr with e |e
    ·rw[e,←eP]
     exact(psat y z).mp hp2
    ·exact(pG (by rw[S.Hf r hr,lp]) hp2).mp (h2 _ (List.mem_map.mpr ⟨r,e,rfl⟩))
theorem I0{m c:Nat}(hc:c<m){l:List Wh.Row}{done:List (Nat×Wh.Row)}{left:List Wh.Row}(S:Red m c l done left)(hz:∀r∈left,r.1.getD c 0=0):
  ∃y:Nat→Rat,y c≠0∧∀r∈l,dot m r.1 y=0:=by
 have dl:done.length=c:=by
  have:=congrArg List.length S.cols
  simpa using this
 let y:Nat→Rat:=fun j=>if j=c then 1 else if j<c then -((done.getD j (0,([],0))).2.1.getD c 0) else 0
 refine⟨y,by show(if c=c then(1:Rat) else _)≠0;rw[if_pos rfl];decide,?_⟩
 have key:∀r∈l,sat m y 0 r:=(S.same y 0).mpr ⟨fun x hx=> ?_,fun r hr=> ?_⟩
 ·intro r hr
  have:=key r hr
  unfold sat at this
  rw[this];grind
 ·obtain⟨a,ha,e⟩:=List.getElem_of_mem hx
  have xa:x.1=a:=by
   have h1:(done.map (·.1))[a]? =some x.1:=by rw[List.getElem?_map,List.getElem?_eq_getElem ha,e];rfl
   rw[S.cols,List.getElem?_range (by lia)] at h1
   exact(Option.some.inj h1).symm
  unfold sat dot
  have two:a7 m (fun j=>x.2.1.getD j 0*y j)=x.2.1.getD a 0*y a+x.2.1.getD c 0*y c:=by
   refine wJ m a c (by lia) hc fun j hj h1 h2=> ?_
   by_cases q:j<c
   ·rw[S.unit x hx j q,if_neg (by lia)];grind
   ·have:y j=0:=by
     show(if j=c then(1:Rat) else if j<c then _ else 0)=0
     rw[if_neg h2,if_neg q]
    rw[this];grind
  have ya:y a= -(x.2.1.getD c 0):=by
   show(if a=c then(1:Rat) else if a<c then -((done.getD a (0,([],0))).2.1.getD c 0) else 0)=_
   rw[if_neg (by lia),if_pos (by lia),gDe (l:=done),List.getElem?_eq_getElem ha,e];rfl
  have yc:y c=1:=if_pos rfl
  rw[two,ya,yc,S.unit x hx a (by lia),if_pos xa.symm]
  grind
 ·unfold sat dot
  have z:a7 m (fun j=>r.1.getD j 0*y j)=0:=pj m fun j hj=>by
   by_cases q:j<c
   ·rw[S.zero r hr j q];grind
   ·by_cases q2:j=c
    ·subst q2
     rw[hz r hr];grind
    ·have:y j=0:=by
      show(if j=c then(1:Rat) else if j<c then _ else 0)=0
      rw[if_neg q2,if_neg q]
     rw[this];grind
  rw[z];grind
theorem Gb{m:Nat}{l:List Wh.Row}:∀(f c:Nat) (done:List (Nat×Wh.Row)) (left:List Wh.Row),f+c=m→Red m c l done left→
  Red m m l (Wh.reduceFrom f c done left).1 (Wh.reduceFrom f c done left).2∨((Wh.reduceFrom f c done left).1.length<m∧∃y:Nat→Rat,(∃j,j<m∧y j≠0)∧∀r∈l,dot m r.1 y=0)
 |0,c,done,left,hf,S=>by
  have:c=m:=by lia
  subst this
  exact .inl S
 |f+1,c,done,left,hf,S=>by
  unfold Wh.reduceFrom
  cases e:left.findIdx? fun r:Wh.Row=>decide (r.1.getD c 0≠0) with
  |none=>
   refine .inr ⟨?_,?_⟩
   ·have h1:=qC m f (c+1) done left
    have dl:done.length=c:=by
     have:=congrArg List.length S.cols
     simpa using this
    show(Wh.reduceFrom f (c+1) done left).1.length<m
    lia
   ·obtain⟨y,hy,h⟩:=I0 (by lia) S fun r hr=>by
     have h:=List.findIdx?_eq_none_iff.mp e r hr
     simpa using h
    exact⟨y,⟨c,by lia,hy⟩,h⟩
  |some i=>
   obtain⟨hi,hp,_⟩:=List.findIdx?_eq_some_iff_getElem.mp e
   have hp':(left.getD i ([],0)).1.getD c 0≠0:=by
    rw[gDe (l:=left),List.getElem?_eq_getElem hi]
    simpa using hp
   exact Gb f (c+1) _ _ (by lia) (IZ (by lia) S hi hp')
theorem Ew{m:Nat}{l:List Wh.Row}(hl:l.length=m)(hr:∀r∈l,r.1.length=m):
  (∃x:List Rat,Wh.solve m l=some x∧x.length=m∧∀(y:Nat→Rat) (z:Rat),(∀r∈l,sat m y z r)↔∀j,j<m→y j=z*x.getD j 0)∨
  (Wh.solve m l=none∧∃y:Nat→Rat,(∃j,j<m∧y j≠0)∧∀r∈l,dot m r.1 y=0):=by
 have S0:Red m 0 l [] l:=⟨rfl,(fun _ h=>by cases h),hr,(fun _ h=>by cases h),(fun _ _ j hj=>by lia),(by simp),fun y z=>⟨fun h=>⟨fun _ h=>(by cases h),h⟩,fun h=>h.2⟩⟩
 rcases Gb m 0 [] l (by lia) S0 with S |⟨h1,h2⟩
 ·refine .inl ⟨(Wh.reduced m l).1.map fun x:Nat×Wh.Row=>x.2.2,?_,?_,?_⟩
  ·unfold Wh.solve Wh.rank
   have dl:(Wh.reduced m l).1.length=m:=by
    have:=congrArg List.length S.cols
    simpa [Wh.reduced] using this
   rw[if_pos ⟨dl,hl⟩]
  ·rw[lMp]
   have:=congrArg List.length S.cols
   simpa [Wh.reduced] using this
  ·intro y z
   change Red m m l (Wh.reduced m l).1 (Wh.reduced m l).2 at S
   have dl:(Wh.reduced m l).1.length=m:=by
    have:=congrArg List.length S.cols
    simpa using this
   have ll:(Wh.reduced m l).2=[]:=List.length_eq_zero_iff.mp (by have:=S.cnt;lia)
   rw[S.same y z,ll]
   have row:∀a (ha:a<(Wh.reduced m l).1.length),sat m y z ((Wh.reduced m l).1[a]).2↔y a=z*((Wh.reduced m l).1.map fun x:Nat×Wh.Row=>x.2.2).getD a 0:=fun a ha=>by
    have hx:=List.getElem_mem ha
    have xa:((Wh.reduced m l).1[a]).1=a:=by
     have h1:((Wh.reduced m l).1.map (·.1))[a]? =some ((Wh.reduced m l).1[a]).1:=by rw[List.getElem?_map,List.getElem?_eq_getElem ha];rfl
     rw[S.cols,List.getElem?_range (by lia)] at h1
     exact(Option.some.inj h1).symm
    have e2:((Wh.reduced m l).1.map fun x:Nat×Wh.Row=>x.2.2).getD a 0=((Wh.reduced m l).1[a]).2.2:=by
     rw[gDe,List.getElem?_map,List.getElem?_eq_getElem ha];rfl
    unfold sat dot
    rw[iA m a (by lia) fun j hj hja=>by rw[S.unit _ hx j hj,if_neg (by lia)];grind,S.unit _ hx a (by lia),if_pos xa.symm,e2]
    constructor
    ·intro h;grind
    ·intro h;rw[h];grind
   constructor
   ·rintro⟨h1,_⟩ j hj
    exact(row j (by lia)).mp (h1 _ (List.getElem_mem _))
   ·intro h
    refine⟨fun x hx=> ?_,fun _ h=>by cases h⟩
    obtain⟨a,ha,e⟩:=List.getElem_of_mem hx
    rw[←e]
    exact(row a ha).mpr (h a (by lia))
 ·refine .inr ⟨?_,h2⟩
  unfold Wh.solve Wh.rank
  rw[if_neg fun h=>by
   have:(Wh.reduced m l).1.length=m:=h.1
   have h1':(Wh.reduced m l).1.length<m:=h1
   lia]
end ak
namespace ak
open Lean.Grind (CommRing)
inductive Al{α β:Type}(R:α→β→Prop):List α→List β→Prop
 |nil:Al R [] []
 |cons {a:α} {b:β} {l:List α} {m:List β}:R a b→Al R l m→Al R (a::l) (b::m)
theorem Al.len{α β:Type}{R:α→β→Prop}:∀{l:List α} {m:List β},Al R l m→l.length=m.length
 |_,_,.nil=>rfl
 |_,_,.cons _ t=>congrArg (· +1) t.len
theorem Al.append{α β:Type}{R:α→β→Prop}:∀{l:List α} {m:List β} {l':List α} {m':List β},Al R l m→Al R l' m'→Al R (l ++ l') (m ++ m')
 |_,_,_,_,.nil,h=>h
 |_,_,_,_,.cons r t,h=> .cons r (t.append h)
theorem Al.get{α β:Type}{R:α→β→Prop}(d:α)(e:β):∀{l:List α} {m:List β},Al R l m→∀i,i<l.length→R (l.getD i d) (m.getD i e)
 |_,_,.nil,i,h=>by simp at h
 |_,_,.cons r t,0,_=>by simpa using r
 |_,_,.cons r t,i+1,h=>by
  have:=t.get d e i (by simpa using h)
  simpa using this
theorem Al.KD{α β γ δ:Type}{R:γ→δ→Prop}{f:α→γ}{g:β→δ}:∀{l:List α} {m:List β},Al (fun a b=>R (f a) (g b)) l m→Al R (l.map f) (m.map g)
 |_,_,.nil=> .nil
 |_,_,.cons r t=> .cons r t.KD
theorem Al.imp{α β:Type}{R S:α→β→Prop}(h:∀a b,R a b→S a b):∀{l:List α} {m:List β},Al R l m→Al S l m
 |_,_,.nil=> .nil
 |_,_,.cons r t=> .cons (h _ _ r) (t.imp h)
theorem Gd{α β γ:Type}{R:α→β→Prop}{f:γ→α}{g:γ→β}:∀(l:List γ),(∀i∈l,R (f i) (g i))→Al R (l.map f) (l.map g)
 |[],_=> .nil
 |x::l,h=> .cons (h x List.mem_cons_self) (Gd l fun i hi=>h i (List.mem_cons_of_mem _ hi))
theorem Ge{α β γ:Type}{R:α→β→Prop}{f:γ→List α}{g:γ→List β}:∀(l:List γ),(∀i∈l,Al R (f i) (g i))→Al R (l.flatMap f) (l.flatMap g)
 |[],_=> .nil
 |x::l,h=>by
  rw[List.flatMap_cons,List.flatMap_cons]
  exact(h x List.mem_cons_self).append (Ge l fun i hi=>h i (List.mem_cons_of_mem _ hi))
theorem zZ{α:Type}(l:List α)(d:α):l=(List.range l.length).map fun i=>l.getD i d:=by
 apply List.ext_getElem
 ·simp
 ·intro i h1 h2
  simp[gDe,List.getElem?_eq_getElem h1]
theorem Bj{α:Type}(l:List α)(d:α):l.zipIdx=(List.range l.length).map fun i=>(l.getD i d,i):=by
 apply List.ext_getElem
 ·simp
 ·intro i h1 h2
  have h3:i<l.length:=by simpa using h1
  simp[gDe,List.getElem?_eq_getElem h3]
theorem z4{α β:Type}(l:List α)(m:List β)(d:α)(e:β)(h:m.length=l.length):l.zip m=(List.range l.length).map fun i=>(l.getD i d,m.getD i e):=by
 apply List.ext_getElem
 ·simp[h]
 ·intro i h1 h2
  have h3:i<l.length:=by simp at h1;lia
  have h4:i<m.length:=by lia
  simp[gDe,List.getElem?_eq_getElem h3,List.getElem?_eq_getElem h4]
structure Pn(p:Part):Prop where
 k0:0≤p.kind
 k1:p.kind≤13
 a0:0≤p.a
 b0:0≤p.b
 c0:0≤p.c
 d0:0≤p.d
 t:p.top.natAbs≤1000000
 b1:1≤p.aC
 b2:p.aC≤1000000
def kindOf(z:Int):Wh.Kind:=Wh.kinds.getD z.toNat .R
def aF(p:Part):Wh.Elem:=
 ⟨kindOf p.kind,if Wh.nodeCount (kindOf p.kind)=0 then[] else[p.a.toNat,p.b.toNat,p.c.toNat,p.d.toNat].take (Wh.nodeCount (kindOf p.kind)),if kindOf p.kind= .M then[p.a.toNat,p.b.toNat] else if Wh.refCount (kindOf p.kind)=1 then[p.c.toNat] else[],(p.top:Rat) / (p.aC:Rat)⟩
def ao(n:Nw):Wh.Net:=⟨n.last.toNat,n.af.map aF⟩
theorem ml{z:Int}(h0:0≤z)(h1:z≤13):z=0∨z=1∨z=2∨z=3∨z=4∨z=5∨z=6∨z=7∨z=8∨z=9∨z=10∨z=11∨z=12∨z=13:=by lia
def kindB(z:Nat):Bool:=decide ((kindOf z= .M↔z=3)∧(kindOf z= .T↔z=10)∧(kindOf z= .D↔z=13)∧(kindOf z= .V↔z=4)∧(kindOf z= .I↔z=5)∧(kindOf z= .L↔z=2)∧(kindOf z= .C↔z=1)∧(kindOf z= .H↔z=8)∧(kindOf z= .F↔z=9)∧(kindOf z= .S↔z=12)∧(kindOf z= .O↔z=11)∧(kindOf z= .E↔z=6)∧(kindOf z= .G↔z=7)∧(kindOf z= .R↔z=0))
theorem Hg:(List.range 14).all kindB=true:=by decide +kernel
theorem eY{z:Int}(h0:0≤z)(h1:z≤13):(kindOf z= .M↔z=3)∧(kindOf z= .T↔z=10)∧(kindOf z= .D↔z=13)∧(kindOf z= .V↔z=4)∧(kindOf z= .I↔z=5)∧(kindOf z= .L↔z=2)∧(kindOf z= .C↔z=1)∧(kindOf z= .H↔z=8)∧(kindOf z= .F↔z=9)∧(kindOf z= .S↔z=12)∧(kindOf z= .O↔z=11)∧(kindOf z= .E↔z=6)∧(kindOf z= .G↔z=7)∧(kindOf z= .R↔z=0):=by
 have h:=List.all_eq_true.mp Hg z.toNat (List.mem_range.mpr (by lia))
 have e:((z.toNat:Nat):Int)=z:=by lia
 have q:=of_decide_eq_true h
 rw[e] at q
 refine⟨?_,?_,?_,?_,?_,?_,?_,?_,?_,?_,?_,?_,?_,?_⟩
 ·rw[q.1];lia
 ·rw[q.2.1];lia
 ·rw[q.2.2.1];lia
 ·rw[q.2.2.2.1];lia
 ·rw[q.2.2.2.2.1];lia
 ·rw[q.2.2.2.2.2.1];lia
 ·rw[q.2.2.2.2.2.2.1];lia
 ·rw[q.2.2.2.2.2.2.2.1];lia
 ·rw[q.2.2.2.2.2.2.2.2.1];lia
 ·rw[q.2.2.2.2.2.2.2.2.2.1];lia
 ·rw[q.2.2.2.2.2.2.2.2.2.2.1];lia
 ·rw[q.2.2.2.2.2.2.2.2.2.2.2.1];lia
 ·rw[q.2.2.2.2.2.2.2.2.2.2.2.2.1];lia
 ·rw[q.2.2.2.2.2.2.2.2.2.2.2.2.2];lia
theorem Pn.M{p:Part}(h:Pn p):kindOf p.kind= .M↔p.kind=3:=(eY h.k0 h.k1).1
theorem Pn.T{p:Part}(h:Pn p):kindOf p.kind= .T↔p.kind=10:=(eY h.k0 h.k1).2.1
theorem Pn.D{p:Part}(h:Pn p):kindOf p.kind= .D↔p.kind=13:=(eY h.k0 h.k1).2.2.1
theorem fm(p:Part):(aF p).kind=kindOf p.kind:=rfl
theorem Bk(p:Part):(aF p).q=(p.top:Rat) / (p.aC:Rat):=rfl
theorem Ja{p:Part}(h:Pn p):gd p=(((aF p).currents:Nat):Int):=by
 unfold gd Wh.Elem.currents
 rw[fm]
 by_cases h3:p.kind=3
 ·rw[if_pos h3,if_pos (h.M.mpr h3)];rfl
 ·rw[if_neg h3,if_neg (fun e=>h3 (h.M.mp e))]
  by_cases h10:p.kind=10
  ·rw[if_pos h10,if_pos (h.T.mpr h10)];rfl
  ·rw[if_neg h10,if_neg (fun e=>h10 (h.T.mp e))];rfl
theorem bU(a:Nat)(l:List Nat):Wh.sumNat (a::l)=a+Wh.sumNat l:=by
 have:∀(l:List Nat) (x:Nat),l.foldl (fun(a b:Nat)=>a+b) x=x+l.foldl (fun(a b:Nat)=>a+b) 0:=by
  intro l
  induction l with
  |nil=>intro x;simp
  |cons b l ih=>
   intro x
   rw[List.foldl_cons,List.foldl_cons,ih (x+b),ih (0+b)]
   lia
 unfold Wh.sumNat
 rw[List.foldl_cons,this]
 lia
theorem rV:∀(ps:List Part) (f:Int) (k:Nat),(∀p∈ps,Pn p)→k<ps.length→(dg f ps).getD k 0=f+((Wh.sumNat (((ps.map aF).take k).map Wh.Elem.currents):Nat):Int)
 |[],_,k,_,h=>by simp at h
 |p::ps,f,0,_,_=>by
  show f=f+((0:Nat):Int)
  lia
 |p::ps,f,k+1,hp,h=>by
  show(dg (f+gd p) ps).getD k 0=_
  rw[rV ps (f+gd p) k (fun q hq=>hp q (List.mem_cons_of_mem _ hq)) (by simpa using h),Ja (hp p List.mem_cons_self)]
  rw[List.map_cons,List.take_succ_cons,List.map_cons,bU]
  push_cast
  lia
theorem z5:∀(ps:List Part),(∀p∈ps,Pn p)→(ps.map gd).sum=((Wh.sumNat ((ps.map aF).map Wh.Elem.currents):Nat):Int)
 |[],_=>rfl
 |p::ps,hp=>by
  rw[List.map_cons,List.sum_cons,z5 ps (fun q hq=>hp q (List.mem_cons_of_mem _ hq)),Ja (hp p List.mem_cons_self),List.map_cons,List.map_cons,bU]
  push_cast
  rfl
structure Right(n:Nw):Prop where
 l1:1≤n.last
 l8:n.last≤8
 af:n.af.length≤10
 pn:∀p∈n.af,Pn p
 ok:fault n=[]
theorem memD{α:Type}{l:List α}{k:Nat}{d:α}(h:k<l.length):l.getD k d∈l:=by
 rw[gDe,List.getElem?_eq_getElem h]
 exact List.getElem_mem h
section
variable {n:Nw}(R:Right n)
include R
theorem Right.p{k:Nat}(h:k<n.af.length):Pn (n.af.getD k p0):=R.pn _ (memD h)
theorem Right.nodes:((ao n).nodes:Int)=n.last:=by
 show((n.last.toNat:Nat):Int)=n.last
 have:=R.l1
 lia
theorem Right.place{k:Nat}(h:k<n.af.length):(places n).getD k 0=(((ao n).at_ k:Nat):Int):=by
 unfold places
 rw[rV n.af n.last k R.pn h]
 unfold Wh.Net.at_
 have:=R.nodes
 push_cast
 rw[this]
 rfl
theorem Right.ue:width n=(((ao n).unknowns:Nat):Int):=by
 unfold width Wh.Net.unknowns Wh.Net.at_
 rw[z5 n.af R.pn]
 have:=R.nodes
 have e:(ao n).elems.take (ao n).elems.length=n.af.map aF:=List.take_length
 rw[e]
 push_cast
 rw[this]
theorem Right.elem{k:Nat}(h:k<n.af.length):(ao n).elems[k]? =some (aF (n.af.getD k p0)):=by
 show(n.af.map aF)[k]? =_
 rw[List.getElem?_map,gDe,List.getElem?_eq_getElem h]
 rfl
end
theorem vv(n:Nw):∀f,f≤n.af.length→fH n f=[]→∀k,n.af.length - f≤k→k<n.af.length→dU n k=0
 |0,_,_,k,h1,h2=>by lia
 |f+1,hf,h,k,h1,h2=>by
  unfold fH at h
  dsimp only at h
  split at h
  ·cases h
  ·rename_i e
   by_cases q:k=n.af.length - (f+1)
   ·rw[q]
    exact Classical.not_not.mp e
   ·exact vv n f (by lia) h k (by lia) h2
theorem Right.f0{n:Nw}(R:Right n){k:Nat}(h:k<n.af.length):dU n k=0:=vv n n.af.length (Nat.le_refl _) R.ok k (by lia) h
structure LK(n:Nw)(k:Nat):Prop where
 nodes:∀v∈df (n.af.getD k p0),v≤n.last
 num:jg (n.af.getD k p0)=true
 Ni:cE n.af k=true
 QG:(n.af.getD k p0).kind=3→ja n.af k=0
theorem KG{n:Nw}{k:Nat}(h:dU n k=0):LK n k:=by
 unfold dU at h
 dsimp only at h
 by_cases h1:(df (n.af.getD k p0)).any (fun v=>decide (n.last<v))=true
 ·rw[if_pos h1] at h;exact absurd h (by decide)
 rw[if_neg h1] at h
 by_cases h2:jg (n.af.getD k p0)=false
 ·rw[if_pos h2] at h;exact absurd h (by decide)
 rw[if_neg h2] at h
 by_cases h3:cE n.af k=false
 ·rw[if_pos h3] at h;exact absurd h (by decide)
 rw[if_neg h3] at h
 refine⟨fun v hv=> ?_,by simpa using h2,by simpa using h3,fun e=>by rw[if_pos e] at h;exact h⟩
 have:¬n.last<v:=fun q=>h1 (List.any_eq_true.mpr ⟨v,hv,decide_eq_true q⟩)
 lia
section
variable {n:Nw}(R:Right n){k:Nat}(h:k<n.af.length)
include R h
theorem Right.g1:LK n k:=KG (R.f0 h)
theorem Right.ab(h3:(n.af.getD k p0).kind≠3):(n.af.getD k p0).a≤n.last∧(n.af.getD k p0).b≤n.last:=by
 have g:=(R.g1 h).nodes
 unfold df at g
 rw[if_neg h3] at g
 split at g
 ·exact⟨g _ (by simp),g _ (by simp)⟩
 ·exact⟨g _ (by simp),g _ (by simp)⟩
theorem Right.cd(h4:(n.af.getD k p0).kind=6∨(n.af.getD k p0).kind=7∨(n.af.getD k p0).kind=10∨(n.af.getD k p0).kind=11):(n.af.getD k p0).c≤n.last∧(n.af.getD k p0).d≤n.last:=by
 have g:=(R.g1 h).nodes
 unfold df at g
 rw[if_neg (by lia),if_pos h4] at g
 exact⟨g _ (by simp),g _ (by simp)⟩
theorem Right.Ni(h4:(n.af.getD k p0).kind=8∨(n.af.getD k p0).kind=9):(n.af.getD k p0).c<k∧kindAt n.af (n.af.getD k p0).c≠3:=by
 have g:=(R.g1 h).Ni
 unfold cE at g
 dsimp only at g
 rw[if_neg (fun q=>q h4)] at g
 obtain⟨g1,g2⟩:=(Bool.and_eq_true _ _).mp g
 exact⟨of_decide_eq_true g1,of_decide_eq_true g2⟩
theorem Right.KH(h4:(n.af.getD k p0).kind=3):(n.af.getD k p0).a≠(n.af.getD k p0).b∧((n.af.getD k p0).a<k∧kindAt n.af (n.af.getD k p0).a=2)∧((n.af.getD k p0).b<k∧kindAt n.af (n.af.getD k p0).b=2):=by
 have g:=(R.g1 h).QG h4
 unfold ja at g
 dsimp only at g
 by_cases h1:(n.af.getD k p0).a=(n.af.getD k p0).b∨aX n.af (n.af.getD k p0).a k=false∨aX n.af (n.af.getD k p0).b k=false
 ·rw[if_pos h1] at g;exact absurd g (by decide)
 have q1:aX n.af (n.af.getD k p0).a k=true:=by
  cases e:aX n.af (n.af.getD k p0).a k with
  |true=>rfl
  |false=>exact absurd (.inr (.inl e)) h1
 have q2:aX n.af (n.af.getD k p0).b k=true:=by
  cases e:aX n.af (n.af.getD k p0).b k with
  |true=>rfl
  |false=>exact absurd (.inr (.inr e)) h1
 unfold aX at q1 q2
 obtain⟨a1,a2⟩:=(Bool.and_eq_true _ _).mp q1
 obtain⟨b1,b2⟩:=(Bool.and_eq_true _ _).mp q2
 exact⟨fun e=>h1 (.inl e),⟨of_decide_eq_true a1,of_decide_eq_true a2⟩,⟨of_decide_eq_true b1,of_decide_eq_true b2⟩⟩
end
def Pv(φ:Nat→PF):List Term→PF
 |[]=>0
 |t::ts=>bK t.2*φ t.1.toNat+Pv φ ts
theorem c9(φ:Nat→PF):∀a b:List Term,Pv φ (a ++ b)=Pv φ a+Pv φ b
 |[],b=>by
  show Pv φ b=0+Pv φ b
  grind
 |t::a,b=>by
  show bK t.2*φ t.1.toNat+Pv φ (a ++ b)=bK t.2*φ t.1.toNat+Pv φ a+Pv φ b
  rw[c9 φ a b]
  grind
theorem mq(φ:Nat→PF)(p:bw):∀a:List Term,Pv φ (md a p)=Pv φ a*bK p
 |[]=>by
  show(0:PF)=0*bK p
  grind
 |t::a=>by
  show bK (dO t.2 p)*φ t.1.toNat+Pv φ (md a p)=(bK t.2*φ t.1.toNat+Pv φ a)*bK p
  rw[mq φ p a,ji]
  grind
def Rv(φ:Nat→PF):List (Nat×Rat)→PF
 |[]=>0
 |t::ts=>PF.const t.2*φ t.1+Rv φ ts
theorem dH(φ:Nat→PF):∀a b:List (Nat×Rat),Rv φ (a ++ b)=Rv φ a+Rv φ b
 |[],b=>by
  show Rv φ b=0+Rv φ b
  grind
 |t::a,b=>by
  show PF.const t.2*φ t.1+Rv φ (a ++ b)=PF.const t.2*φ t.1+Rv φ a+Rv φ b
  rw[dH φ a b]
  grind
def Lv(φ:Nat→PF)(σ:PF)(m:Nat)(L:Wh.Law):PF:=Rv φ L.terms+σ*Rv φ L.byS+PF.const L.right*φ m
def xc(σ:PF)(m:Nat)(ts:List Term)(L:Wh.Law):Prop:=∃κ:Rat,0<κ∧∀φ:Nat→PF,Pv φ ts=PF.const κ*Lv φ σ m L
theorem rW:bK [1]=1:=PF.ext fun x=>by
 rw[bP]
 show((1:Int):Rat)+x*0=((1:Nat):Rat)
 grind
theorem xf:bK [-1]= -1:=PF.ext fun x=>by
 rw[bP]
 show((-1:Int):Rat)+x*0= -((1:Nat):Rat)
 grind
theorem cG(c:Rat):PF.const (-c)= - PF.const c:=rfl
def vN(φ:Nat→PF)(z:Int):PF:=if 0<z then φ (z - 1).toNat else 0
theorem gX(φ:Nat→PF)(a b:Int):Pv φ (CI a b)=vN φ a - vN φ b:=by
 unfold CI vN
 rw[c9]
 by_cases h1:0<a <;>by_cases h2:0<b <;>simp only[h1,h2,if_true,if_false] <;>simp only[Pv,rW,xf] <;>grind
theorem Gf(φ:Nat→PF)(a:Int)(ha:0≤a)(q:Rat):Rv φ (Wh.volt a.toNat q)=PF.const q*vN φ a:=by
 unfold Wh.volt vN
 by_cases h:0<a
 ·rw[if_neg (by lia),if_pos h]
  have e:a.toNat - 1=(a - 1).toNat:=by lia
  show PF.const q*φ (a.toNat - 1)+0=_
  rw[e];grind
 ·rw[if_pos (by lia),if_neg h]
  show(0:PF)=_
  grind
theorem cS(φ:Nat→PF)(a b:Int)(ha:0≤a)(hb:0≤b)(q:Rat):Rv φ (Wh.across a.toNat b.toNat q)=PF.const q*(vN φ a - vN φ b):=by
 unfold Wh.across
 rw[dH,Gf φ a ha,Gf φ b hb,cG]
 grind
structure gY(n:Nw)(g:gk)(G:Wh.Setting):Prop where
 aO:g.aO=n
 on:∀k,k<n.af.length→G.on k=g.cQ.getD k false
 val:∀k,k<n.af.length→((n.af.getD k p0).kind=4∨(n.af.getD k p0).kind=5)→0<(g.drives.getD k (0,1)).2∧G.value k=((g.drives.getD k (0,1)).1:Rat) / ((g.drives.getD k (0,1)).2:Rat)
 drop:∀k,k<n.af.length→(n.af.getD k p0).kind=13→0<(g.drives.getD k (0,1)).2∧G.drop k=((g.drives.getD k (0,1)).1:Rat) / ((g.drives.getD k (0,1)).2:Rat)
theorem fN{b:Int}(h:0<b):(0:Rat)<(b:Rat):=by exact_mod_cast h
theorem pI{a b:Int}(h:0<b):PF.const (b:Rat)*PF.const ((a:Rat) / (b:Rat))=PF.const (a:Rat):=by
 rw[←lN]
 congr 1
 have:=fN h
 grind
theorem yM(z:Int):PF.const ((-z:Int):Rat)= - PF.const (z:Rat):=PF.ext fun x=>by
 show((-z:Int):Rat)= -(z:Rat)
 push_cast
 rfl
section
variable {n:Nw}(R:Right n){g:gk}{G:Wh.Setting}(S:gY n g G){k:Nat}(hk:k<n.af.length)
include R
theorem MB{j:Int}(h0:0≤j)(hj:j<n.af.length):((places n).getD j.toNat 0).toNat=(ao n).at_ j.toNat:=by
 rw[R.place (by lia),Int.toNat_natCast]
include S
theorem Bl(φ:Nat→PF){j:Int}(h0:0≤j)(hj:j<n.af.length):Pv φ (cur g j)=φ ((ao n).at_ j.toNat):=by
 unfold cur
 rw[S.aO]
 show bK [1]*φ ((places n).getD j.toNat 0).toNat+0=_
 rw[MB R h0 hj,rW]
 grind
theorem Ex(φ:Nat→PF)(ts:List Term):Pv φ (CJ g k ts)=Pv φ ts*PF.const ((g.drives.getD k (0,1)).2:Rat)+PF.const ((g.drives.getD k (0,1)).1:Rat)*φ (ao n).unknowns:=by
 unfold CJ
 rw[c9,mq,pE,S.aO]
 show _+ (bK (cst _)*φ (width n).toNat+0)=_
 rw[pE,R.ue,Int.toNat_natCast]
 grind
omit S R in
theorem j6(φ:Nat→PF)(p:Part)(l r:List Term):Pv φ (jh p l r)=Pv φ l*PF.const (p.aC:Rat) - Pv φ r*PF.const (p.top:Rat):=by
 unfold jh
 rw[c9,mq,mq,pE,pE,yM]
 grind
end
theorem b9{p:Part}{d:Wh.Kind}(hd:kindOf p.kind=d)(h:Wh.nodeCount d=2∨Wh.nodeCount d=4):(aF p).node 0=p.a.toNat∧(aF p).node 1=p.b.toNat:=by
 unfold Wh.Elem.node aF
 dsimp only
 rw[hd]
 rcases h with h |h <;>rw[h] <;>exact⟨rfl,rfl⟩
theorem gz{p:Part}{d:Wh.Kind}(hd:kindOf p.kind=d)(h:Wh.nodeCount d=4):(aF p).node 2=p.c.toNat∧(aF p).node 3=p.d.toNat:=by
 unfold Wh.Elem.node aF
 dsimp only
 rw[hd,h]
 exact⟨rfl,rfl⟩
theorem Bm{p:Part}{d:Wh.Kind}(hd:kindOf p.kind=d)(hM:d≠.M)(h:Wh.refCount d=1):(aF p).refs.getD 0 0=p.c.toNat:=by
 unfold aF
 dsimp only
 rw[hd,if_neg hM,h]
 rfl
theorem qD{σ:PF}{m:Nat}{ts:List Term}{L:Wh.Law}(κ:Rat)(hκ:0<κ)(h:∀φ:Nat→PF,Pv φ ts=PF.const κ*Lv φ σ m L):Al (xc σ m) [ts] [L]:= .cons ⟨κ,hκ,h⟩ .nil
section
variable {n:Nw}(R:Right n){g:gk}{G:Wh.Setting}(S:gY n g G){k:Nat}(hk:k<n.af.length)
def Nj(φ:Nat→PF)(n:Nw)(sh:List (Int×Int×Int)):PF:=sh.foldr (fun x acc=>PF.const ((x.2.1:Rat) / (x.2.2:Rat))*φ ((ao n).at_ x.1.toNat)+acc) 0
theorem qE:∀(sh:List (Int×Int×Int)) (c:Int),0<c→(∀x∈sh,0<x.2.2)→0<sh.foldl (fun c x=>c*x.2.2) c
 |[],c,hc,_=>hc
 |x::sh,c,hc,h=>qE sh _ (Int.mul_pos hc (h x List.mem_cons_self)) fun y hy=>h y (List.mem_cons_of_mem _ hy)
theorem xg:∀(sh:List (Int×Int×Int)) (c:Int),c ∣ sh.foldl (fun c x=>c*x.2.2) c∧∀x∈sh,x.2.2 ∣ sh.foldl (fun c x=>c*x.2.2) c
 |[],c=>⟨Int.dvd_refl _,fun _ h=>by cases h⟩
 |x::sh,c=>by
  obtain⟨h1,h2⟩:=xg sh (c*x.2.2)
  refine⟨Int.dvd_trans ⟨x.2.2,rfl⟩ h1,fun y hy=> ?_⟩
  rcases List.mem_cons.mp hy with rfl |hy
  ·exact Int.dvd_trans ⟨c,Int.mul_comm _ _⟩ h1
  ·exact h2 y hy
include R S
theorem z8(φ:Nat→PF)(cm:Int)(hcm:0<cm):∀sh:List (Int×Int×Int),(∀x∈sh,0≤x.1∧x.1<n.af.length∧0<x.2.2∧x.2.2 ∣ cm)→
  Pv φ (sh.flatMap fun x=>md (md (cur g x.1) g.s) (cst (-x.2.1*cm.fdiv x.2.2)))= - (PF.const (cm:Rat)*(bK g.s*Nj φ n sh))
 |[],_=>by
  show(0:PF)= -(_* (_* 0))
  grind
 |x::sh,h=>by
  obtain⟨h0,h1,h2,h3⟩:=h x List.mem_cons_self
  rw[List.flatMap_cons,c9,z8 φ cm hcm sh (fun y hy=>h y (List.mem_cons_of_mem _ hy)),mq,mq,Bl R S φ h0 h1,pE]
  obtain⟨q,hq⟩:=h3
  have e:cm.fdiv x.2.2=q:=by
   rw[hq,Int.mul_comm,Int.mul_fdiv_cancel _ (by lia)]
  have e2:PF.const ((-x.2.1*q:Int):Rat)= - (PF.const (cm:Rat)*PF.const ((x.2.1:Rat) / (x.2.2:Rat))):=by
   rw[←lN,←cG]
   congr 1
   rw[hq]
   have:=fN h2
   push_cast
   grind
  rw[e,e2]
  show _= -(PF.const (cm:Rat)*(bK g.s*(PF.const ((x.2.1:Rat) / (x.2.2:Rat))*φ ((ao n).at_ x.1.toNat)+Nj φ n sh)))
  grind
end
theorem xh(φ:Nat→PF)(n:Nw)(x:Int×Int×Int)(sh:List (Int×Int×Int)):Nj φ n (x::sh)=PF.const ((x.2.1:Rat) / (x.2.2:Rat))*φ ((ao n).at_ x.1.toNat)+Nj φ n sh:=rfl
theorem vw(φ:Nat→PF)(n:Nw)(k:Nat):∀(ps:List Part),(∀p∈ps,Pn p∧(p.kind=3→p.a≠p.b))→
  Rv φ (((ps.map aF).filterMap fun(x:Wh.Elem)=>if x.kind= .M then(if x.refs.getD 0 0=k then some (x.refs.getD 1 0,x.q) else if x.refs.getD 1 0=k then some (x.refs.getD 0 0,x.q) else none) else none).map fun(p:Nat×Rat)=>((ao n).at_ p.1,-p.2))=
   - Nj φ n ((ps.filter fun p=>decide (p.kind=3∧((k:Int)=p.a∨(k:Int)=p.b))).map fun p=>(p.a+p.b - k,p.top,p.aC))
 |[],_=>by
  show(0:PF)= - 0
  grind
 |p::ps,h=>by
  obtain⟨hp,hab⟩:=h p List.mem_cons_self
  have ih:=vw φ n k ps fun q hq=>h q (List.mem_cons_of_mem _ hq)
  rw[List.map_cons,List.filterMap_cons]
  have eM:(aF p).kind= .M↔p.kind=3:=hp.M
  have a0:=hp.a0
  have b0:=hp.b0
  by_cases h3:p.kind=3
  ·have r0:(aF p).refs.getD 0 0=p.a.toNat∧(aF p).refs.getD 1 0=p.b.toNat:=by
    unfold aF
    dsimp only
    rw[if_pos (hp.M.mpr h3)]
    exact⟨rfl,rfl⟩
   have hne:=hab h3
   rw[if_pos (eM.mpr h3),r0.1,r0.2]
   by_cases ka:p.a.toNat=k
   ·rw[if_pos ka]
    dsimp only
    rw[List.filter_cons_of_pos (by exact decide_eq_true ⟨h3,.inl (by lia)⟩),List.map_cons,List.map_cons,xh]
    show PF.const (-(aF p).q)*φ ((ao n).at_ p.b.toNat)+Rv φ _=_
    rw[ih,cG,Bk]
    have e:(p.a+p.b - (k:Int)).toNat=p.b.toNat:=by lia
    rw[e]
    grind
   ·rw[if_neg ka]
    by_cases kb:p.b.toNat=k
    ·rw[if_pos kb]
     dsimp only
     rw[List.filter_cons_of_pos (by exact decide_eq_true ⟨h3,.inr (by lia)⟩),List.map_cons,List.map_cons,xh]
     show PF.const (-(aF p).q)*φ ((ao n).at_ p.a.toNat)+Rv φ _=_
     rw[ih,cG,Bk]
     have e:(p.a+p.b - (k:Int)).toNat=p.a.toNat:=by lia
     rw[e]
     grind
    ·rw[if_neg kb]
     dsimp only
     rw[List.filter_cons_of_neg (by rw[decide_eq_true_iff];lia)]
     exact ih
  ·rw[if_neg (fun e=>h3 (eM.mp e))]
   dsimp only
   rw[List.filter_cons_of_neg (by rw[decide_eq_true_iff];exact fun q=>h3 q.1)]
   exact ih
section
variable {n:Nw}(R:Right n){g:gk}{G:Wh.Setting}(S:gY n g G){k:Nat}(hk:k<n.af.length)
include R
theorem xi(hk2:(n.af.getD k p0).kind=2)(hk:k<n.af.length):∀x∈bu n.af k,0≤x.1∧x.1<n.af.length∧1≤x.2.2∧x.2.2≤1000000∧x.2.1.natAbs≤1000000:=fun x hx=>by
 unfold bu at hx
 rcases List.mem_cons.mp hx with rfl |hx
 ·have:=R.p hk
  exact⟨Int.natCast_nonneg _,by show(k:Int)<_;lia,this.b1,this.b2,this.t⟩
 ·obtain⟨p,hp,rfl⟩:=List.mem_map.mp hx
  obtain⟨hm,hc⟩:=List.mem_filter.mp hp
  have hc:=of_decide_eq_true hc
  obtain⟨i,hi,e⟩:=List.getElem_of_mem hm
  have ep:n.af.getD i p0=p:=by rw[gDe,List.getElem?_eq_getElem hi,e];rfl
  have cp:=R.KH hi (by rw[ep];exact hc.1)
  have pp:=R.p hi
  rw[ep] at cp pp
  have:=pp.a0
  have:=pp.b0
  refine⟨?_,?_,pp.b1,pp.b2,pp.t⟩
  ·show 0≤p.a+p.b - (k:Int)
   lia
  ·show p.a+p.b - (k:Int)<_
   lia
include S
theorem Jb(hk:k<n.af.length):Al (xc (bK g.s) (ao n).unknowns) (cF g k) ((ao n).lawsOf G k (aF (n.af.getD k p0))):=by
 have pp:=R.p hk
 have a0:=pp.a0
 have b0:=pp.b0
 have c0:=pp.c0
 have d0:=pp.d0
 have bp:(0:Rat)<((n.af.getD k p0).aC:Rat):=fN (by have:=pp.b1;lia)
 have cd:=pI (a:=(n.af.getD k p0).top) (b:=(n.af.getD k p0).aC) (by have:=pp.b1;lia)
 have ck:∀φ,Pv φ (cur g (k:Int))=φ ((ao n).at_ k):=fun φ=>by
  have:=Bl R S φ (j:=(k:Int)) (by lia) (by lia)
  rwa [Int.toNat_natCast] at this
 have c1:=fk
 have c00:=xb
 unfold cF Wh.Net.lawsOf
 rw[S.aO]
 dsimp only
 rw[fm,Bk]
 have mn:=(R.g1 hk).num
 have fo:=R.Ni hk
 have oi:=S.on k hk
 have va:=S.val k hk
 have dr:=S.drop k hk
 have cpl:=vw
 generalize hp:n.af.getD k p0=p at *
 rcases ml pp.k0 pp.k1 with e |e |e |e |e |e |e |e |e |e |e |e |e |e
 ·have hd:kindOf p.kind= .R:=by rw[e];rfl
  have ek:p.kind.toNat=0:=by rw[e];rfl
  rw[hd,ek]
  dsimp only
  obtain⟨n0,n1⟩:=b9 hd (.inl rfl)
  refine qD p.aC bp fun φ=> ?_
  unfold Lv
  dsimp only
  rw[n0,n1,j6,ck,dH,cS φ p.a p.b a0 b0]
  unfold iT
  rw[gX]
  simp only[Rv,cG]
  grind
 ·have hd:kindOf p.kind= .C:=by rw[e];rfl
  have ek:p.kind.toNat=1:=by rw[e];rfl
  rw[hd,ek]
  dsimp only
  obtain⟨n0,n1⟩:=b9 hd (.inl rfl)
  refine qD p.aC bp fun φ=> ?_
  unfold Lv
  dsimp only
  rw[n0,n1,j6,ck,cS φ p.a p.b a0 b0,mq]
  unfold iT
  rw[gX]
  simp only[Rv,cG]
  grind
 ·have hd:kindOf p.kind= .L:=by rw[e];rfl
  have ek:p.kind.toNat=2:=by rw[e];rfl
  rw[hd,ek]
  dsimp only
  obtain⟨n0,n1⟩:=b9 hd (.inl rfl)
  have sin:=xi R (k:=k) (by rw[hp];exact e) hk
  have cpos:0<common (bu n.af k):=qE _ 1 (by decide) fun x hx=>by have:=sin x hx;lia
  have cdv:=(xg (bu n.af k) 1).2
  refine qD (common (bu n.af k):Rat) (fN cpos) fun φ=> ?_
  unfold me Lv
  dsimp only
  rw[S.aO,c9,mq,pE,z8 R S φ _ cpos _ (fun x hx=>⟨(sin x hx).1,(sin x hx).2.1,by have:=sin x hx;lia,cdv x hx⟩),n0,n1,cS φ p.a p.b a0 b0,hp]
  unfold iT
  rw[gX]
  have e1:Rv φ (((ao n).at_ k,-((p.top:Rat) / (p.aC:Rat)))::((ao n).coupled k).map fun(p:Nat×Rat)=>((ao n).at_ p.1,-p.2))= - Nj φ n (bu n.af k):=by
   show PF.const (-((p.top:Rat) / (p.aC:Rat)))*φ ((ao n).at_ k)+Rv φ _=_
   unfold Wh.Net.coupled
   have:=cpl φ n k n.af (fun q hq=>⟨R.pn q hq,fun e3=>by
    obtain⟨i,hi,ei⟩:=List.getElem_of_mem hq
    have ep:n.af.getD i p0=q:=by rw[gDe,List.getElem?_eq_getElem hi,ei];rfl
    have:=R.KH hi (by rw[ep];exact e3)
    rw[ep] at this
    exact this.1⟩)
   rw[show(ao n).elems=n.af.map aF from rfl,this]
   unfold bu
   rw[xh,hp,Int.toNat_natCast,cG]
   grind
  rw[e1]
  grind
 ·have hd:kindOf p.kind= .M:=by rw[e];rfl
  have ek:p.kind.toNat=3:=by rw[e];rfl
  rw[hd,ek]
  exact .nil
 ·have hd:kindOf p.kind= .V:=by rw[e];rfl
  have ek:p.kind.toNat=4:=by rw[e];rfl
  rw[hd,ek]
  dsimp only
  obtain⟨n0,n1⟩:=b9 hd (.inl rfl)
  obtain⟨v1,v2⟩:=va (.inl e)
  refine qD _ (fN v1) fun φ=> ?_
  unfold Lv
  dsimp only
  have:=pI (a:=(g.drives.getD k (0,1)).1) v1
  rw[n0,n1,Ex R S,v2,cS φ p.a p.b a0 b0]
  unfold iT
  rw[gX]
  simp only[Rv]
  grind
 ·have hd:kindOf p.kind= .I:=by rw[e];rfl
  have ek:p.kind.toNat=5:=by rw[e];rfl
  rw[hd,ek]
  dsimp only
  obtain⟨v1,v2⟩:=va (.inr e)
  refine qD _ (fN v1) fun φ=> ?_
  unfold Lv
  dsimp only
  have:=pI (a:=(g.drives.getD k (0,1)).1) v1
  rw[Ex R S,v2,ck]
  simp only[Rv]
  grind
 ·have hd:kindOf p.kind= .E:=by rw[e];rfl
  have ek:p.kind.toNat=6:=by rw[e];rfl
  rw[hd,ek]
  dsimp only
  obtain⟨n0,n1⟩:=b9 hd (.inr rfl)
  obtain⟨n2,n3⟩:=gz hd rfl
  refine qD p.aC bp fun φ=> ?_
  unfold Lv
  dsimp only
  rw[n0,n1,n2,n3,j6,dH,cS φ p.a p.b a0 b0,cS φ p.c p.d c0 d0]
  unfold iT A7
  rw[gX,gX]
  simp only[Rv,cG]
  grind
 ·have hd:kindOf p.kind= .G:=by rw[e];rfl
  have ek:p.kind.toNat=7:=by rw[e];rfl
  rw[hd,ek]
  dsimp only
  obtain⟨n2,n3⟩:=gz hd rfl
  refine qD p.aC bp fun φ=> ?_
  unfold Lv
  dsimp only
  rw[n2,n3,j6,ck]
  show _=_* (PF.const 1*φ ((ao n).at_ k)+Rv φ (Wh.across p.c.toNat p.d.toNat (-((p.top:Rat) / (p.aC:Rat))))+bK g.s*0+_)
  rw[cS φ p.c p.d c0 d0]
  unfold A7
  rw[gX]
  simp only[cG]
  grind
 ·have hd:kindOf p.kind= .H:=by rw[e];rfl
  have ek:p.kind.toNat=8:=by rw[e];rfl
  rw[hd,ek]
  dsimp only
  obtain⟨n0,n1⟩:=b9 hd (.inl rfl)
  have r0:=Bm hd (by decide) rfl
  have ff:=fo (.inl e)
  refine qD p.aC bp fun φ=> ?_
  unfold Lv
  dsimp only
  rw[n0,n1,r0,j6,dH,cS φ p.a p.b a0 b0,Bl R S φ c0 (by lia)]
  unfold iT
  rw[gX]
  simp only[Rv,cG]
  grind
 ·have hd:kindOf p.kind= .F:=by rw[e];rfl
  have ek:p.kind.toNat=9:=by rw[e];rfl
  rw[hd,ek]
  dsimp only
  have r0:=Bm hd (by decide) rfl
  have ff:=fo (.inr e)
  refine qD p.aC bp fun φ=> ?_
  unfold Lv
  dsimp only
  rw[r0,j6,ck,Bl R S φ c0 (by lia)]
  simp only[Rv,cG]
  grind
 ·have hd:kindOf p.kind= .T:=by rw[e];rfl
  have ek:p.kind.toNat=10:=by rw[e];rfl
  rw[hd,ek]
  dsimp only
  obtain⟨n0,n1⟩:=b9 hd (.inr rfl)
  obtain⟨n2,n3⟩:=gz hd rfl
  refine .cons ⟨p.aC,bp,fun φ=> ?_⟩ (qD p.aC bp fun φ=> ?_)
  ·unfold Lv
   dsimp only
   rw[n0,n1,n2,n3,j6,dH,cS φ p.a p.b a0 b0,cS φ p.c p.d c0 d0]
   unfold iT A7
   rw[gX,gX]
   simp only[Rv,cG]
   grind
  ·unfold Lv
   dsimp only
   rw[j6,mq,ck,xf]
   have e1:Pv φ [((places n).getD k 0+1,[1])]=φ ((ao n).at_ k+1):=by
    show bK [1]*φ ((places n).getD k 0+1).toNat+0=_
    have:((places n).getD k 0+1).toNat=(ao n).at_ k+1:=by
     rw[R.place hk];lia
    rw[this,rW]
    grind
   rw[e1]
   simp only[Rv]
   grind
 ·have hd:kindOf p.kind= .O:=by rw[e];rfl
  have ek:p.kind.toNat=11:=by rw[e];rfl
  rw[hd,ek]
  dsimp only
  obtain⟨n2,n3⟩:=gz hd rfl
  refine qD 1 (by decide) fun φ=> ?_
  unfold Lv
  dsimp only
  rw[n2,n3,cS φ p.c p.d c0 d0]
  unfold A7
  rw[gX]
  simp only[Rv]
  grind
 ·have hd:kindOf p.kind= .S:=by rw[e];rfl
  have ek:p.kind.toNat=12:=by rw[e];rfl
  rw[hd,ek]
  show Al _ [if p.top=0 then cur g k else iT p] (if(p.top:Rat) / (p.aC:Rat)=1 then[_] else[_])
  obtain⟨n0,n1⟩:=b9 hd (.inl rfl)
  have hm:p.top=0∨p.top=p.aC:=by
   unfold jg at mn
   rw[if_neg (by lia),if_neg (by lia),if_neg (by lia),if_pos e] at mn
   exact of_decide_eq_true mn
  by_cases ht:p.top=0
  ·rw[if_pos ht,if_neg (by
    rw[ht]
    intro q
    have:(((0:Int):Rat) / (p.aC:Rat))=0:=by
     push_cast
     grind
    rw[this] at q
    exact absurd q (by decide))]
   refine qD 1 (by decide) fun φ=> ?_
   unfold Lv
   dsimp only
   rw[ck]
   simp only[Rv]
   grind
  ·have htb:p.top=p.aC:=hm.resolve_left ht
   rw[if_neg ht,if_pos (by rw[htb];grind)]
   refine qD 1 (by decide) fun φ=> ?_
   unfold Lv
   dsimp only
   rw[n0,n1,cS φ p.a p.b a0 b0]
   unfold iT
   rw[gX]
   simp only[Rv]
   grind
 ·have hd:kindOf p.kind= .D:=by rw[e];rfl
  have ek:p.kind.toNat=13:=by rw[e];rfl
  rw[hd,ek]
  show Al _ (if g.cQ.getD k false=true then[CJ g k (iT p)] else[cur g k]) (if G.on k=true then[_] else[_])
  obtain⟨n0,n1⟩:=b9 hd (.inl rfl)
  obtain⟨v1,v2⟩:=dr e
  rw[oi]
  by_cases ho:g.cQ.getD k false=true
  ·rw[if_pos ho,if_pos ho]
   refine qD _ (fN v1) fun φ=> ?_
   unfold Lv
   dsimp only
   have:=pI (a:=(g.drives.getD k (0,1)).1) v1
   rw[n0,n1,Ex R S,v2,cS φ p.a p.b a0 b0]
   unfold iT
   rw[gX]
   simp only[Rv]
   grind
  ·rw[if_neg ho,if_neg ho]
   refine qD 1 (by decide) fun φ=> ?_
   unfold Lv
   dsimp only
   rw[ck]
   simp only[Rv]
   grind
end
theorem cR(n:Nw):(ao n).indexed=(List.range n.af.length).map fun k=>(k,aF (n.af.getD k p0)):=by
 unfold Wh.Net.indexed
 rw[Bj (ao n).elems (aF p0),List.map_map]
 show(List.range (n.af.map aF).length).map _=_
 rw[lMp]
 apply List.map_congr_left
 intro i hi
 have hi:=List.mem_range.mp hi
 show(i,(n.af.map aF).getD i (aF p0))=_
 rw[gDe,List.getElem?_map,gDe,List.getElem?_eq_getElem hi]
 rfl
theorem Gg(φ:Nat→PF){γ:Type}{f:γ→List Term}{h:γ→List (Nat×Rat)}:∀(l:List γ),(∀i∈l,Pv φ (f i)=Rv φ (h i))→Pv φ (l.flatMap f)=Rv φ (l.flatMap h)
 |[],_=>rfl
 |x::l,e=>by
  rw[List.flatMap_cons,List.flatMap_cons,c9,dH,e x List.mem_cons_self,Gg φ l fun i hi=>e i (List.mem_cons_of_mem _ hi)]
theorem qh(n:Nw):(places n).length=n.af.length:=by
 unfold places
 have:∀(ps:List Part) (f:Int),(dg f ps).length=ps.length:=by
  intro ps
  induction ps with
  |nil=>intro f;rfl
  |cons p ps ih=>intro f;show(dg _ ps).length+1=_;rw[ih];rfl
 exact this _ _
theorem Ey(φ:Nat→PF)(c:Prop) [Decidable c](i:Nat):Rv φ (if c then[(i,1)] else[])=if c then φ i else 0:=by
 split
 ·show PF.const 1*φ i+0=_
  rw[fk];grind
 ·rfl
theorem Ez(φ:Nat→PF)(c:Prop) [Decidable c](i:Nat):Rv φ (if c then[(i,-1)] else[])=if c then - φ i else 0:=by
 split
 ·show PF.const (-1)*φ i+0=_
  rw[cG,fk];grind
 ·rfl
theorem EA(φ:Nat→PF)(c:Prop) [Decidable c](i:Int):Pv φ (if c then[(i,[1])] else[])=if c then φ i.toNat else 0:=by
 split
 ·show bK [1]*φ i.toNat+0=_
  rw[rW];grind
 ·rfl
theorem EC(φ:Nat→PF)(c:Prop) [Decidable c](i:Int):Pv φ (if c then[(i,[-1])] else[])=if c then - φ i.toNat else 0:=by
 split
 ·show bK [-1]*φ i.toNat+0=_
  rw[xf];grind
 ·rfl
theorem Jc{n:Nw}(R:Right n)(σ:PF)(m v:Nat):xc σ m (fI n ((v:Int)+1)) ⟨(ao n).indexed.flatMap fun(p:Nat×Wh.Elem)=>(ao n).outOf (v+1) p.1 p.2,[],0⟩:=by
 refine⟨1,by decide,fun φ=> ?_⟩
 unfold Lv
 dsimp only
 have e:Pv φ (fI n ((v:Int)+1))=Rv φ ((ao n).indexed.flatMap fun(p:Nat×Wh.Elem)=>(ao n).outOf (v+1) p.1 p.2):=by
  unfold fI
  rw[z4 n.af (places n) p0 0 (qh n),cR,List.flatMap_map,List.flatMap_map]
  refine Gg φ _ fun k hk=> ?_
  have hk:=List.mem_range.mp hk
  dsimp only
  have pp:=R.p hk
  rw[R.place hk]
  unfold Wh.Net.outOf
  dsimp only
  rw[fm]
  generalize n.af.getD k p0=p at pp⊢
  have a0:=pp.a0
  have b0:=pp.b0
  have c0:=pp.c0
  have d0:=pp.d0
  have ca:p.a=(v:Int)+1↔p.a.toNat=v+1:=by lia
  have cb:p.b=(v:Int)+1↔p.b.toNat=v+1:=by lia
  have cc:p.c=(v:Int)+1↔p.c.toNat=v+1:=by lia
  have cd:p.d=(v:Int)+1↔p.d.toNat=v+1:=by lia
  have t1:∀i:Nat,((i:Int)).toNat=i:=fun i=>Int.toNat_natCast i
  have t2:∀i:Nat,((i:Int)+1).toNat=i+1:=fun i=>by lia
  by_cases h3:p.kind=3
  ·rw[if_pos h3,if_pos (pp.M.mpr h3)];rfl
  ·rw[if_neg h3,if_neg (fun e=>h3 (pp.M.mp e))]
   by_cases h10:p.kind=10
   ·rw[if_pos h10,if_pos (pp.T.mpr h10)]
    obtain⟨n0,n1⟩:=b9 (pp.T.mpr h10) (.inr rfl)
    obtain⟨n2,n3⟩:=gz (pp.T.mpr h10) rfl
    rw[n0,n1,n2,n3]
    rw[c9,c9,c9,dH,dH,dH,EA,EA,EC,EC,Ey,Ey,Ez,Ez]
    simp only[ca,cb,cc,cd,t1,t2]
    grind
   ·rw[if_neg h10,if_neg (fun e=>h10 (pp.T.mp e))]
    have nc:Wh.nodeCount (kindOf p.kind)=2∨Wh.nodeCount (kindOf p.kind)=4:=by
     unfold Wh.nodeCount
     rw[if_neg (fun e=>h3 (pp.M.mp e))]
     split
     ·exact .inr rfl
     ·exact .inl rfl
    obtain⟨n0,n1⟩:=b9 (rfl:kindOf p.kind=kindOf p.kind) nc
    rw[n0,n1]
    rw[c9,c9,dH,EA,EC,Ey,Ez]
    simp only[ca,cb,t1]
    show _+ (0:PF)=_
    grind
 rw[e,fk,xb]
 show _=1*(_+ σ*0+0*φ m)
 grind
theorem pJ{n:Nw}(R:Right n){g:gk}{G:Wh.Setting}(S:gY n g G):Al (xc (bK g.s) (ao n).unknowns) (dh g) ((ao n).laws G):=by
 unfold dh Wh.Net.laws
 rw[S.aO]
 refine Al.append ?_ ?_
 ·exact Gd _ fun v _=>Jc R _ _ v
 ·rw[cR,List.flatMap_map]
  exact Ge _ fun k hk=>Jb R S (List.mem_range.mp hk)
theorem ED(N:Wh.Net)(G:Wh.Setting)(k:Nat)(x:Wh.Elem):(N.lawsOf G k x).length=x.currents:=by
 unfold Wh.Net.lawsOf Wh.Elem.currents
 dsimp only
 cases x.kind <;>simp <;>split <;>rfl
theorem oy{γ β:Type}{f:γ→List β}{c:γ→Nat}:∀(l:List γ),(∀i∈l,(f i).length=c i)→(l.flatMap f).length=Wh.sumNat (l.map c)
 |[],_=>rfl
 |x::l,h=>by
  rw[List.flatMap_cons,List.length_append,List.map_cons,bU,h x List.mem_cons_self,oy l fun i hi=>h i (List.mem_cons_of_mem _ hi)]
theorem d4(n:Nw)(G:Wh.Setting):((ao n).laws G).length=(ao n).unknowns:=by
 unfold Wh.Net.laws
 rw[List.length_append,lMp,List.length_range,oy (c:=fun p:Nat×Wh.Elem=>p.2.currents) _ (fun p _=>ED _ _ _ _)]
 unfold Wh.Net.unknowns Wh.Net.at_
 congr 2
 rw[List.take_length,cR,List.map_map]
 show _=(n.af.map aF).map Wh.Elem.currents
 rw[zZ (n.af.map aF) (aF p0),List.map_map,lMp]
 apply List.map_congr_left
 intro i hi
 have hi:=List.mem_range.mp hi
 show(aF (n.af.getD i p0)).currents=((n.af.map aF).getD i (aF p0)).currents
 congr 1
 rw[gDe,gDe,List.getElem?_map,List.getElem?_eq_getElem hi]
 rfl
theorem uf(row:fj)(t:Term):(oj row t).length=row.length:=by unfold oj;simp
theorem z9(row:fj)(i j:Nat)(x:bw)(h:j<row.length):(row.set i x).getD j []=if j=i then x else row.getD j []:=by
 rw[gDe,gDe,List.getElem?_set]
 by_cases q:i=j
 ·subst q
  rw[if_pos rfl,if_pos h,if_pos rfl];rfl
 ·rw[if_neg q,if_neg (Ne.symm q)]
theorem CW(j:Nat):∀(ts:List Term) (row:fj),j<row.length→bK ((ts.foldl oj row).getD j [])=bK (row.getD j [])+Pv (ei j) ts
 |[],row,_=>by
  show _=_+ (0:PF)
  rw[List.foldl_nil]
  grind
 |t::ts,row,h=>by
  rw[List.foldl_cons,CW j ts _ (by rw[uf];exact h)]
  show _=_+ (bK t.2*ei j t.1.toNat+Pv (ei j) ts)
  unfold oj
  rw[z9 _ _ _ _ h]
  by_cases q:j=t.1.toNat
  ·rw[if_pos q,CK,←q,m5]
   grind
  ·rw[if_neg q,qg (Ne.symm q)]
   grind
theorem Aa(j:Nat):∀(ts:List Term) (row:fj),j<row.length→Trim (row.getD j [])→Trim ((ts.foldl oj row).getD j [])
 |[],_,_,h=>h
 |t::ts,row,h,ht=>by
  rw[List.foldl_cons]
  refine Aa j ts _ (by rw[uf];exact h) ?_
  unfold oj
  rw[z9 _ _ _ _ h]
  split
  ·exact G8 _ _
  ·exact ht
theorem Ab:∀(ts:List Term) (row:fj),(ts.foldl oj row).length=row.length
 |[],_=>rfl
 |t::ts,row=>by rw[List.foldl_cons,Ab ts,uf]
theorem CY(m j:Nat):(List.replicate m ([]:bw)).getD j []=[]:=by
 rw[gDe,List.getElem?_replicate]
 split <;>rfl
theorem pK(w:Int)(ts:List Term)(j:Nat)(h:j<(w+1).toNat):bK ((rowOf w ts).getD j [])=Pv (ei j) ts∧Trim ((rowOf w ts).getD j [])∧(rowOf w ts).length=(w+1).toNat:=by
 unfold rowOf
 refine⟨?_,Aa j ts _ (by rw[List.length_replicate];exact h) (by rw[CY];exact om),by rw[Ab,List.length_replicate]⟩
 rw[CW j ts _ (by rw[List.length_replicate];exact h),CY]
 show(0:PF)+_=_
 grind
def L0:Wh.Law:=⟨[],[],0⟩
def Sm(n:Nw)(G:Wh.Setting)(σ:PF):Nat→Nat→PF:=fun i j=>Lv (ei j) σ (ao n).unknowns (((ao n).laws G).getD i L0)
section
variable {n:Nw}(R:Right n){g:gk}{G:Wh.Setting}(S:gY n g G)
include R S
theorem Jd:(rows g).length=(ao n).unknowns:=by
 unfold rows
 rw[lMp,(pJ R S).len,d4]
theorem rX{i:Nat}(h:i<(ao n).unknowns):(rows g).getD i []=rowOf (width n) ((dh g).getD i []):=by
 have l:(dh g).length=(ao n).unknowns:=by rw[(pJ R S).len,d4]
 unfold rows
 rw[gDe,List.getElem?_map,gDe,List.getElem?_eq_getElem (by lia),S.aO]
 rfl
theorem rY:Tab (ao n).unknowns (rows g):=by
 have w:(width n+1).toNat=(ao n).unknowns+1:=by rw[R.ue];lia
 refine⟨Jd R S,fun i hi=> ?_,fun i j hi hj=> ?_⟩
 ·rw[rX R S hi,(pK (width n) _ 0 (by lia)).2.2,w]
 ·unfold ent
  rw[rX R S hi]
  exact(pK _ _ j (by lia)).2.1
theorem Je:∃κ:Nat→Rat,(∀i,i<(ao n).unknowns→0<κ i)∧∀i j,i<(ao n).unknowns→j<(ao n).unknowns+1→m6 (rows g) i j=PF.const (κ i)*Sm n G (bK g.s) i j:=by
 have w:(width n+1).toNat=(ao n).unknowns+1:=by rw[R.ue];lia
 have l:(dh g).length=(ao n).unknowns:=by rw[(pJ R S).len,d4]
 have rel:∀i,i<(ao n).unknowns→xc (bK g.s) (ao n).unknowns ((dh g).getD i []) (((ao n).laws G).getD i L0):=fun i hi=>(pJ R S).get [] L0 i (by lia)
 refine⟨fun i=>if h:i<(ao n).unknowns then Classical.choose (rel i h) else 1,fun i hi=> ?_,fun i j hi hj=> ?_⟩
 ·dsimp only
  rw[dif_pos hi]
  exact(Classical.choose_spec (rel i hi)).1
 ·dsimp only
  rw[dif_pos hi]
  unfold m6 ent
  rw[rX R S hi,(pK _ _ j (by lia)).1]
  exact(Classical.choose_spec (rel i hi)).2 (ei j)
end
section
variable {A:Type} [CommRing A]
def Ac:Nat→(Nat→A)→A
 |0,_=>1
 |n+1,f=>Ac n f*f n
theorem Ad(n:Nat)(κ:Nat→A)(F:Nat→Nat→A):∀m,m≤n→det n (fun i j=>if i<m then κ i*F i j else F i j)=Ac m κ*det n F
 |0,_=>by
  show _=1*_
  rw[bh n (B:=F) fun i j _ _=>by rw[if_neg (by lia)]]
  grind
 |m+1,h=>by
  have ih:=Ad n κ F m (by lia)
  have e:(fun i j=>if i<m+1 then κ i*F i j else F i j)=a8 (fun i j=>if i<m then κ i*F i j else F i j) m (fun j=>κ m*F m j):=by
   funext i j
   show _=if i=m then κ m*F m j else if i<m then κ i*F i j else F i j
   by_cases q:i=m
   ·rw[if_pos q,if_pos (by lia),q]
   ·rw[if_neg q]
    by_cases q2:i<m
    ·rw[if_pos q2,if_pos (by lia)]
    ·rw[if_neg q2,if_neg (by lia)]
  have e2:a8 (fun i j=>if i<m then κ i*F i j else F i j) m (F m)=fun i j=>if i<m then κ i*F i j else F i j:=by
   funext i j
   show(if i=m then F m j else if i<m then κ i*F i j else F i j)=_
   by_cases q:i=m
   ·rw[if_pos q,if_neg (by lia),q]
   ·rw[if_neg q]
  rw[e,kN n _ m (κ m) (F m) (by lia),e2,ih]
  show _=Ac m κ*κ m*det n F
  grind
theorem xk(n:Nat)(κ:Nat→A)(F B:Nat→Nat→A)(h:∀i j,i<n→j<n→B i j=κ i*F i j):det n B=Ac n κ*det n F:=by
 rw[←Ad n κ F n (Nat.le_refl _)]
 exact bh n fun i j hi hj=>by rw[if_pos hi];exact h i j hi hj
end
theorem xm(κ:Nat→Rat):∀m,(∀i,i<m→0<κ i)→∃c:Rat,0<c∧Ac m (fun i=>PF.const (κ i))=PF.const c
 |0,_=>⟨1,by decide,rfl⟩
 |m+1,h=>by
  obtain⟨c,hc,e⟩:=xm κ m fun i hi=>h i (by lia)
  refine⟨c*κ m,Rat.mul_pos hc (h m (by lia)),?_⟩
  show Ac m _* PF.const (κ m)=_
  rw[e,lN]
theorem CZ{n:Nw}(R:Right n){g:gk}{G:Wh.Setting}(S:gY n g G):
  (∃d tops,sol (rows g)=some (d,tops)∧tops.length=(ao n).unknowns∧Trim d∧d≠[]∧(∀c,c<(ao n).unknowns→Trim (tops.getD c []))∧∃q:Rat,q≠0∧bK d=PF.const q*det (ao n).unknowns (Sm n G (bK g.s))∧∀c,c<(ao n).unknowns→bK (tops.getD c [])=PF.const q*det (ao n).unknowns (bE (Sm n G (bK g.s)) c fun i=>Sm n G (bK g.s) i (ao n).unknowns))∨
  (sol (rows g)=none∧det (ao n).unknowns (Sm n G (bK g.s))=0∧∃x:Nat→PF,(∃j,j<(ao n).unknowns∧x j≠0)∧∀i,i<(ao n).unknowns→a7 (ao n).unknowns (fun d=>Sm n G (bK g.s) i d*x d)=0):=by
 obtain⟨κ,kp,ke⟩:=Je R S
 obtain⟨c,cp,ce⟩:=xm κ (ao n).unknowns kp
 have Ki:c≠0:=fun e=>by rw[e] at cp;exact absurd cp (by decide)
 have dm:det (ao n).unknowns (m6 (rows g))=PF.const c*det (ao n).unknowns (Sm n G (bK g.s)):=by
  rw[xk _ (fun i=>PF.const (κ i)) (Sm n G (bK g.s)) _ fun i j hi hj=>ke i j hi (by lia),ce]
 rcases Ek (rY R S) with⟨d,tops,e,so⟩ |⟨e,h0,x,hx,hs⟩
 ·obtain⟨ε,he,hd,ht⟩:=so.sgn
  have es:∃q:Rat,q≠0∧ε=PF.const q:=by
   rcases he with e |e
   ·exact⟨1,by decide,by rw[e,fk]⟩
   ·exact⟨-1,by decide,by rw[e,cG,fk]⟩
  obtain⟨q,hq,eq⟩:=es
  refine .inl ⟨d,tops,e,so.len,so.F6,so.Qq,so.trim,q*c,?_,?_,fun a ha=> ?_⟩
  ·exact fun z=>by rcases Rat.mul_eq_zero.mp z with z |z <;>contradiction
  ·rw[hd,dm,eq,lN]
   grind
  ·rw[ht a ha,xk _ (fun i=>PF.const (κ i)) (bE (Sm n G (bK g.s)) a fun i=>Sm n G (bK g.s) i (ao n).unknowns) _ fun i j hi hj=>by
    show(if j=a then _ else _)=_* (if j=a then _ else _)
    split
    ·exact ke i _ hi (by lia)
    ·exact ke i j hi (by lia),ce,eq,lN]
   grind
 ·refine .inr ⟨e,?_,x,hx,fun i hi=> ?_⟩
  ·rw[dm] at h0
   exact PF.B8 (CU Ki) _ _ (by rw[h0];grind)
  ·have:=hs i hi
   have k0:κ i≠0:=fun e=>by have:=kp i hi;rw[e] at this;exact absurd this (by decide)
   refine PF.B8 (CU k0) _ _ ?_
   rw[←cg]
   rw[bc (g:=fun d=>PF.const (κ i)*(Sm n G (bK g.s) i d*x d)) _ fun j hj=>by rw[ke i j hi (by lia)];grind] at this
   rw[this]
   grind
theorem iD:∀l m:List Nat,Wh.sumNat (l ++ m)=Wh.sumNat l+Wh.sumNat m
 |[],m=>by
  show Wh.sumNat m=0+_
  lia
 |a::l,m=>by rw[List.cons_append,bU,bU,iD l m];lia
theorem C1(n:Nw){k:Nat}(h:k<n.af.length):∃r,(ao n).unknowns=(ao n).at_ k+(aF (n.af.getD k p0)).currents+r:=by
 have e:n.af.map aF=(n.af.map aF).take k ++ aF (n.af.getD k p0)::(n.af.map aF).drop (k+1):=by
  have h':k<(n.af.map aF).length:=by rw[lMp];exact h
  have q:(n.af.map aF)[k]=aF (n.af.getD k p0):=by
   rw[List.getElem_map,gDe,List.getElem?_eq_getElem h];rfl
  rw[←q,List.getElem_cons_drop,List.take_append_drop]
 refine⟨Wh.sumNat (((n.af.map aF).drop (k+1)).map Wh.Elem.currents),?_⟩
 unfold Wh.Net.unknowns Wh.Net.at_
 rw[List.take_length]
 show n.last.toNat+Wh.sumNat ((n.af.map aF).map Wh.Elem.currents)=n.last.toNat+Wh.sumNat (((n.af.map aF).take k).map Wh.Elem.currents)+_+ _
 have:=congrArg (fun l=>Wh.sumNat (l.map Wh.Elem.currents)) e
 rw[this,List.map_append,iD,List.map_cons,bU]
 lia
theorem jk(n:Nw):n.last.toNat≤(ao n).unknowns:=by
 show n.last.toNat≤n.last.toNat+_
 lia
theorem KI{p:Part}(h:Pn p)(h3:p.kind≠3):1≤(aF p).currents:=by
 unfold Wh.Elem.currents
 rw[fm,if_neg (fun e=>h3 (h.M.mp e))]
 split <;>decide
theorem KJ{p:Part}(h:Pn p)(h3:p.kind=10):(aF p).currents=2:=by
 unfold Wh.Elem.currents
 rw[fm,if_neg (fun e=>by have:=h.M.mp e;lia),if_pos (h.T.mpr h3)]
section
variable {n:Nw}(R:Right n)
include R
theorem lO{k:Nat}(h:k<n.af.length)(h3:(n.af.getD k p0).kind≠3):(ao n).at_ k<(ao n).unknowns:=by
 obtain⟨r,e⟩:=C1 n h
 have:=KI (R.p h) h3
 lia
theorem Bn{k:Nat}(h:k<n.af.length)(h3:(n.af.getD k p0).kind=10):(ao n).at_ k+1<(ao n).unknowns:=by
 obtain⟨r,e⟩:=C1 n h
 have:=KJ (R.p h) h3
 lia
omit R in
theorem Gh{m a:Nat}{q:Rat}(h:a≤m):∀t∈Wh.volt a q,t.1<m:=fun t ht=>by
 unfold Wh.volt at ht
 split at ht
 ·cases ht
 ·rw[List.mem_singleton.mp ht]
  show a - 1<m
  lia
omit R in
theorem cT{m a b:Nat}{q:Rat}(ha:a≤m)(hb:b≤m):∀t∈Wh.across a b q,t.1<m:=fun t ht=>by
 rcases List.mem_append.mp ht with h |h
 ·exact Gh ha t h
 ·exact Gh hb t h
def MC(m:Nat)(L:Wh.Law):Prop:=(∀t∈L.terms,t.1<m)∧∀t∈L.byS,t.1<m
omit R in
theorem none_lt{m:Nat}:∀t∈([]:List (Nat×Rat)),t.1<m:=fun t h=>by cases h
omit R in
theorem iK{m i:Nat}{q:Rat}(h:i<m):∀t∈[(i,q)],t.1<m:=fun t ht=>by rw[List.mem_singleton.mp ht];exact h
omit R in
theorem oz{m:Nat}{l r:List (Nat×Rat)}(hl:∀t∈l,t.1<m)(hr:∀t∈r,t.1<m):∀t∈l ++ r,t.1<m:=fun t ht=>(List.mem_append.mp ht).elim (hl t) (hr t)
theorem Hh(G:Wh.Setting){k:Nat}(hk:k<n.af.length):∀L∈(ao n).lawsOf G k (aF (n.af.getD k p0)),MC (ao n).unknowns L:=by
 have pp:=R.p hk
 have ab:=R.ab hk
 have cdd:=R.cd hk
 have fo:=R.Ni hk
 have nl:=jk n
 have al:=lO R hk
 have al2:=Bn R hk
 have a0:=pp.a0
 have b0:=pp.b0
 have c0:=pp.c0
 have d0:=pp.d0
 have lp:=R.l1
 unfold Wh.Net.lawsOf
 dsimp only
 rw[fm]
 have cpl:(n.af.getD k p0).kind=2→∀t∈((ao n).coupled k).map fun(p:Nat×Rat)=>((ao n).at_ p.1,-p.2),t.1<(ao n).unknowns:=fun _ t ht=>by
  obtain⟨q,hq,rfl⟩:=List.mem_map.mp ht
  unfold Wh.Net.coupled at hq
  obtain⟨x,hx,hxq⟩:=List.mem_filterMap.mp hq
  obtain⟨p,hp,rfl⟩:=List.mem_map.mp (show x∈n.af.map aF from hx)
  obtain⟨i,hi,ei⟩:=List.getElem_of_mem hp
  have ep:n.af.getD i p0=p:=by rw[gDe,List.getElem?_eq_getElem hi,ei];rfl
  by_cases hM:(aF p).kind= .M
  ·rw[if_pos hM] at hxq
   have h3:p.kind=3:=(R.pn p hp).M.mp hM
   have cp:=R.KH hi (by rw[ep];exact h3)
   rw[ep] at cp
   have r0:(aF p).refs.getD 0 0=p.a.toNat∧(aF p).refs.getD 1 0=p.b.toNat:=by
    unfold aF
    dsimp only
    rw[if_pos (show kindOf p.kind= .M from hM)]
    exact⟨rfl,rfl⟩
   have pa:=(R.pn p hp).a0
   have pb:=(R.pn p hp).b0
   have key:∀z:Int,0≤z→z<i→kindAt n.af z=2→(ao n).at_ z.toNat<(ao n).unknowns:=fun z z0 zi zk=>lO R (by lia) (by
    unfold kindAt at zk
    rw[zk];decide)
   rw[r0.1,r0.2] at hxq
   split at hxq
   ·cases hxq
    exact key p.b pb cp.2.2.1 cp.2.2.2
   ·split at hxq
    ·cases hxq
     exact key p.a pa cp.2.1.1 cp.2.1.2
    ·cases hxq
  ·rw[if_neg hM] at hxq
   cases hxq
 generalize hp:n.af.getD k p0=p at *
 rcases ml pp.k0 pp.k1 with e |e |e |e |e |e |e |e |e |e |e |e |e |e
 ·have hd:kindOf p.kind= .R:=by rw[e];rfl
  rw[hd]
  obtain⟨n0,n1⟩:=b9 hd (.inl rfl)
  rw[n0,n1]
  intro L hL
  rw[List.mem_singleton.mp hL]
  exact⟨oz (cT (by lia) (by lia)) (iK (al (by lia))),none_lt⟩
 ·have hd:kindOf p.kind= .C:=by rw[e];rfl
  rw[hd]
  obtain⟨n0,n1⟩:=b9 hd (.inl rfl)
  rw[n0,n1]
  intro L hL
  rw[List.mem_singleton.mp hL]
  exact⟨iK (al (by lia)),cT (by lia) (by lia)⟩
 ·have hd:kindOf p.kind= .L:=by rw[e];rfl
  rw[hd]
  obtain⟨n0,n1⟩:=b9 hd (.inl rfl)
  rw[n0,n1]
  intro L hL
  rw[List.mem_singleton.mp hL]
  exact⟨cT (by lia) (by lia),oz (l:=[_]) (iK (al (by lia))) (cpl e)⟩
 ·have hd:kindOf p.kind= .M:=by rw[e];rfl
  rw[hd]
  intro L hL
  cases hL
 ·have hd:kindOf p.kind= .V:=by rw[e];rfl
  rw[hd]
  obtain⟨n0,n1⟩:=b9 hd (.inl rfl)
  rw[n0,n1]
  intro L hL
  rw[List.mem_singleton.mp hL]
  exact⟨cT (by lia) (by lia),none_lt⟩
 ·have hd:kindOf p.kind= .I:=by rw[e];rfl
  rw[hd]
  intro L hL
  rw[List.mem_singleton.mp hL]
  exact⟨iK (al (by lia)),none_lt⟩
 ·have hd:kindOf p.kind= .E:=by rw[e];rfl
  rw[hd]
  obtain⟨n0,n1⟩:=b9 hd (.inr rfl)
  obtain⟨n2,n3⟩:=gz hd rfl
  rw[n0,n1,n2,n3]
  intro L hL
  rw[List.mem_singleton.mp hL]
  exact⟨oz (cT (by lia) (by lia)) (cT (by lia) (by lia)),none_lt⟩
 ·have hd:kindOf p.kind= .G:=by rw[e];rfl
  rw[hd]
  obtain⟨n2,n3⟩:=gz hd rfl
  rw[n2,n3]
  intro L hL
  rw[List.mem_singleton.mp hL]
  exact⟨oz (l:=[_]) (iK (al (by lia))) (cT (by lia) (by lia)),none_lt⟩
 ·have hd:kindOf p.kind= .H:=by rw[e];rfl
  rw[hd]
  obtain⟨n0,n1⟩:=b9 hd (.inl rfl)
  have r0:=Bm hd (by decide) rfl
  have ff:=fo (.inl e)
  rw[n0,n1,r0]
  intro L hL
  rw[List.mem_singleton.mp hL]
  exact⟨oz (cT (by lia) (by lia)) (iK (lO R (by lia) ff.2)),none_lt⟩
 ·have hd:kindOf p.kind= .F:=by rw[e];rfl
  rw[hd]
  have r0:=Bm hd (by decide) rfl
  have ff:=fo (.inr e)
  rw[r0]
  intro L hL
  rw[List.mem_singleton.mp hL]
  exact⟨oz (l:=[_]) (iK (al (by lia))) (iK (lO R (by lia) ff.2)),none_lt⟩
 ·have hd:kindOf p.kind= .T:=by rw[e];rfl
  rw[hd]
  obtain⟨n0,n1⟩:=b9 hd (.inr rfl)
  obtain⟨n2,n3⟩:=gz hd rfl
  rw[n0,n1,n2,n3]
  intro L hL
  rcases List.mem_cons.mp hL with rfl |hL
  ·exact⟨oz (cT (by lia) (by lia)) (cT (by lia) (by lia)),none_lt⟩
  ·rw[List.mem_singleton.mp hL]
   exact⟨oz (l:=[_]) (iK (al2 e)) (iK (al (by lia))),none_lt⟩
 ·have hd:kindOf p.kind= .O:=by rw[e];rfl
  rw[hd]
  obtain⟨n2,n3⟩:=gz hd rfl
  rw[n2,n3]
  intro L hL
  rw[List.mem_singleton.mp hL]
  exact⟨cT (by lia) (by lia),none_lt⟩
 ·have hd:kindOf p.kind= .S:=by rw[e];rfl
  rw[hd]
  obtain⟨n0,n1⟩:=b9 hd (.inl rfl)
  rw[n0,n1]
  intro L hL
  dsimp only at hL
  split at hL
  ·rw[List.mem_singleton.mp hL]
   exact⟨cT (by lia) (by lia),none_lt⟩
  ·rw[List.mem_singleton.mp hL]
   exact⟨iK (al (by lia)),none_lt⟩
 ·have hd:kindOf p.kind= .D:=by rw[e];rfl
  rw[hd]
  obtain⟨n0,n1⟩:=b9 hd (.inl rfl)
  rw[n0,n1]
  intro L hL
  dsimp only at hL
  split at hL
  ·rw[List.mem_singleton.mp hL]
   exact⟨cT (by lia) (by lia),none_lt⟩
  ·rw[List.mem_singleton.mp hL]
   exact⟨iK (al (by lia)),none_lt⟩
theorem C2(G:Wh.Setting):∀L∈(ao n).laws G,MC (ao n).unknowns L:=fun L hL=>by
 unfold Wh.Net.laws at hL
 rcases List.mem_append.mp hL with h |h
 ·obtain⟨v,hv,rfl⟩:=List.mem_map.mp h
  refine⟨fun t ht=> ?_,none_lt⟩
  rw[cR,List.flatMap_map] at ht
  obtain⟨k,hk,ht⟩:=List.mem_flatMap.mp ht
  have hk:=List.mem_range.mp hk
  have pp:=R.p hk
  unfold Wh.Net.outOf at ht
  dsimp only at ht
  rw[fm] at ht
  have one:∀(c:Prop) [Decidable c] (i:Nat) (q:Rat),t∈(if c then[(i,q)] else[])→t.1=i:=fun c _ i q h=>by
   split at h
   ·rw[List.mem_singleton.mp h]
   ·cases h
  by_cases h3:(n.af.getD k p0).kind=3
  ·rw[if_pos (pp.M.mpr h3)] at ht;cases ht
  ·rw[if_neg (fun e=>h3 (pp.M.mp e))] at ht
   have l1:=lO R hk h3
   by_cases h10:(n.af.getD k p0).kind=10
   ·have l2:=Bn R hk h10
    rw[if_pos (pp.T.mpr h10)] at ht
    rcases List.mem_append.mp ht with ht |ht
    ·have:=one _ _ _ ht;lia
    rcases List.mem_append.mp ht with ht |ht
    ·have:=one _ _ _ ht;lia
    rcases List.mem_append.mp ht with ht |ht
    ·have:=one _ _ _ ht;lia
    ·have:=one _ _ _ ht;lia
   ·rw[if_neg (fun e=>h10 (pp.T.mp e))] at ht
    rcases List.mem_append.mp ht with ht |ht
    ·have:=one _ _ _ ht;lia
    ·have:=one _ _ _ ht;lia
 ·rw[cR,List.flatMap_map] at h
  obtain⟨k,hk,h⟩:=List.mem_flatMap.mp h
  exact Hh R G (List.mem_range.mp hk) L h
end
theorem Bo(j:Nat):∀ts:List (Nat×Rat),(∀t∈ts,t.1<j)→Rv (ei j) ts=0
 |[],_=>rfl
 |t::ts,h=>by
  show PF.const t.2*ei j t.1+Rv (ei j) ts=0
  have:=h t List.mem_cons_self
  rw[qg (by lia),Bo j ts fun u hu=>h u (List.mem_cons_of_mem _ hu)]
  grind
theorem Ae(r:List Rat)(i j:Nat)(q:Rat)(h:j<r.length):(Wh.addAt r i q).getD j 0=r.getD j 0+if i=j then q else 0:=by
 unfold Wh.addAt
 rw[gDe,List.getElem?_set]
 by_cases e:i=j
 ·subst e
  rw[if_pos rfl,if_pos h,if_pos rfl];rfl
 ·rw[if_neg e,if_neg e,gDe]
  grind
theorem pL(r:List Rat)(i:Nat)(q:Rat):(Wh.addAt r i q).length=r.length:=by unfold Wh.addAt;simp
theorem MD(i j:Nat)(x:Rat):(ei j i:PF).f x=if i=j then 1 else 0:=by
 unfold ei
 split <;>rfl
theorem xn(j:Nat)(x:Rat):∀(ts:List (Nat×Rat)) (r:List Rat),j<r.length→(ts.foldl (fun(r:List Rat) (t:Nat×Rat)=>Wh.addAt r t.1 t.2) r).getD j 0=r.getD j 0+(Rv (ei j) ts).f x
 |[],r,h=>by
  show r.getD j 0=r.getD j 0+0
  grind
 |t::ts,r,h=>by
  rw[List.foldl_cons,xn j x ts _ (by rw[pL];exact h),Ae _ _ _ _ h]
  show _=_+ (t.2*(ei j t.1:PF).f x+(Rv (ei j) ts).f x)
  rw[MD]
  split <;>grind
theorem C3(j:Nat)(x s:Rat):∀(ts:List (Nat×Rat)) (r:List Rat),j<r.length→(ts.foldl (fun(r:List Rat) (t:Nat×Rat)=>Wh.addAt r t.1 (s*t.2)) r).getD j 0=r.getD j 0+s*(Rv (ei j) ts).f x
 |[],r,h=>by
  show r.getD j 0=r.getD j 0+s*0
  grind
 |t::ts,r,h=>by
  rw[List.foldl_cons,C3 j x s ts _ (by rw[pL];exact h),Ae _ _ _ _ h]
  show _=_+ s*(t.2*(ei j t.1:PF).f x+(Rv (ei j) ts).f x)
  rw[MD]
  split <;>grind
theorem ug:∀(ts:List (Nat×Rat)) (r:List Rat),(ts.foldl (fun(r:List Rat) (t:Nat×Rat)=>Wh.addAt r t.1 t.2) r).length=r.length
 |[],_=>rfl
 |t::ts,r=>by rw[List.foldl_cons,ug ts,pL]
theorem Af(s:Rat):∀(ts:List (Nat×Rat)) (r:List Rat),(ts.foldl (fun(r:List Rat) (t:Nat×Rat)=>Wh.addAt r t.1 (s*t.2)) r).length=r.length
 |[],_=>rfl
 |t::ts,r=>by rw[List.foldl_cons,Af s ts,pL]
theorem wq(L:Wh.Law)(m:Nat)(s:Rat):(L.row m s).1.length=m:=by
 unfold Wh.Law.row
 rw[Af,ug,List.length_replicate]
theorem Bp(L:Wh.Law)(m:Nat)(σ:PF)(x s:Rat)(hs:σ.f x=s)(j:Nat)(hj:j<m):(L.row m s).1.getD j 0=(Lv (ei j) σ m L).f x:=by
 unfold Wh.Law.row Lv
 rw[C3 j x s _ _ (by rw[ug,List.length_replicate];exact hj),xn j x _ _ (by rw[List.length_replicate];exact hj)]
 show _=(Rv (ei j) L.terms).f x+σ.f x*(Rv (ei j) L.byS).f x+L.right*(ei j m:PF).f x
 rw[hs,MD,if_neg (by lia)]
 have:(List.replicate m (0:Rat)).getD j 0=0:=by
  rw[gDe,List.getElem?_replicate]
  split <;>rfl
 rw[this]
 grind
theorem Ag(L:Wh.Law)(m:Nat)(σ:PF)(x s:Rat)(h:MC m L):(L.row m s).2=(Lv (ei m) σ m L).f x:=by
 unfold Wh.Law.row Lv
 rw[Bo m _ h.1,Bo m _ h.2,m5]
 show L.right=(0:Rat)+σ.f x*0+L.right*((1:Nat):Rat)
 grind
theorem rZ(n:Nw)(G:Wh.Setting)(s:Rat){i:Nat}(hi:i<(ao n).unknowns):((ao n).rows G s)[i]? =some ((((ao n).laws G).getD i L0).row (ao n).unknowns s):=by
 unfold Wh.Net.rows
 rw[List.getElem?_map,gDe,List.getElem?_eq_getElem (by rw[d4];exact hi)]
 rfl
section
variable {n:Nw}(R:Right n)(G:Wh.Setting)(σ:PF)(x s:Rat)(hs:σ.f x=s)
include R hs
theorem EE:Wh.detOf (ao n).unknowns (((ao n).rows G s).map fun(r:Wh.Row)=>r.1)=(det (ao n).unknowns (Sm n G σ)).f x:=by
 have l:((ao n).rows G s).length=(ao n).unknowns:=by unfold Wh.Net.rows;rw[lMp,d4]
 have gg:∀i,i<(ao n).unknowns→((((ao n).rows G s).map fun(r:Wh.Row)=>r.1).getD i [])=((((ao n).laws G).getD i L0).row (ao n).unknowns s).1:=fun i hi=>by
  rw[gDe,List.getElem?_map,rZ n G s hi]
  rfl
 rw[wY _ _ (by rw[lMp];exact l) fun i hi=>by rw[gg i hi,wq],zT]
 refine bh _ fun i j hi hj=> ?_
 show((((ao n).rows G s).map fun(r:Wh.Row)=>r.1).getD i []).getD j 0=_
 rw[gg i hi]
 exact Bp _ _ σ x s hs j hj
theorem EF{c:Nat}(hc:c<(ao n).unknowns):Wh.detOf (ao n).unknowns (((ao n).rows G s).map fun(r:Wh.Row)=>r.1.set c r.2)=(det (ao n).unknowns (bE (Sm n G σ) c fun i=>Sm n G σ i (ao n).unknowns)).f x:=by
 have l:((ao n).rows G s).length=(ao n).unknowns:=by unfold Wh.Net.rows;rw[lMp,d4]
 have gg:∀i,i<(ao n).unknowns→((((ao n).rows G s).map fun(r:Wh.Row)=>r.1.set c r.2).getD i [])=((((ao n).laws G).getD i L0).row (ao n).unknowns s).1.set c ((((ao n).laws G).getD i L0).row (ao n).unknowns s).2:=fun i hi=>by
  rw[gDe,List.getElem?_map,rZ n G s hi]
  rfl
 rw[wY _ _ (by rw[lMp];exact l) fun i hi=>by rw[gg i hi,List.length_set,wq],zT]
 refine bh _ fun i j hi hj=> ?_
 show((((ao n).rows G s).map fun(r:Wh.Row)=>r.1.set c r.2).getD i []).getD j 0=(if j=c then _ else _:PF).f x
 rw[gg i hi,gDe,List.getElem?_set]
 by_cases e:c=j
 ·subst e
  rw[if_pos rfl,if_pos rfl,if_pos (by rw[wq];exact hc)]
  exact Ag _ _ σ x s (C2 R G _ (memD (by rw[d4];exact hi)))
 ·rw[if_neg e,if_neg (Ne.symm e),←gDe]
  exact Bp _ _ σ x s hs j hj
end
def XX:PF:=bK [0,1]
theorem ME(x:Rat):XX.f x=x:=by
 unfold XX
 rw[bP,bP]
 show((0:Int):Rat)+x*(((1:Int):Rat)+x*0)=x
 grind
theorem Jf(i j:Nat):Dg (ei j i:PF) 1:=by
 unfold ei
 split
 ·exact fk▸CT 1
 ·exact rT 1
theorem Gi(j:Nat):∀ts:List (Nat×Rat),Dg (Rv (ei j) ts) 1
 |[]=>rT 1
 |t::ts=>((Jf t.1 j).smul t.2).add (Gi j ts)
def Ah(L:Wh.Law):Nat:=if L.byS.isEmpty=true then 0 else 1
theorem PB:Dg XX 2:=MA [0,1]
theorem Jg(L:Wh.Law)(m j:Nat):Dg (Lv (ei j) XX m L) (Ah L+1):=by
 unfold Lv Ah
 have h1:=Gi j L.terms
 have h3:=(Jf m j).smul L.right
 by_cases e:L.byS.isEmpty=true
 ·rw[if_pos e]
  have:L.byS=[]:=List.isEmpty_iff.mp e
  rw[this]
  have z:XX*Rv (ei j) []=0:=by
   show XX*0=0
   grind
  rw[z]
  exact(h1.add (rT 1)).add h3
 ·rw[if_neg e]
  have h2:Dg (XX*Rv (ei j) L.byS) 2:=Dg.mul (d:=1) (e:=0) PB (Gi j _)
  exact((h1.mono (by lia)).add h2).add (h3.mono (by lia))
theorem C4{α:Type}(f:α→Nat)(d:α)(l:List α):sumNat l.length (fun i=>f (l.getD i d))=Wh.sumNat (l.map f):=by
 have key:∀m,m≤l.length→sumNat m (fun i=>f (l.getD i d))=Wh.sumNat ((l.take m).map f):=by
  intro m
  induction m with
  |zero=>intro _;rfl
  |succ m ih=>
   intro hm
   show sumNat m _+ _=_
   rw[ih (by lia),List.take_add_one,List.getElem?_eq_getElem (by lia),List.map_append,iD]
   show _+ f (l.getD m d)=_+ Wh.sumNat [f _]
   rw[bU,gDe,List.getElem?_eq_getElem (by lia)]
   rfl
 rw[key _ (Nat.le_refl _),List.take_length]
theorem vx{γ β:Type}{f:γ→List β}{h:β→Nat}{c:γ→Nat}:∀l:List γ,(∀i∈l,Wh.sumNat ((f i).map h)≤c i)→Wh.sumNat ((l.flatMap f).map h)≤Wh.sumNat (l.map c)
 |[],_=>Nat.le_refl _
 |x::l,e=>by
  rw[List.flatMap_cons,List.map_append,iD,List.map_cons,bU]
  have:=e x List.mem_cons_self
  have:=vx (f:=f) (h:=h) (c:=c) l fun i hi=>e i (List.mem_cons_of_mem _ hi)
  lia
theorem xo{α:Type}(p:α→Bool):∀l:List α,(l.filter p).length=Wh.sumNat (l.map fun x=>if p x=true then 1 else 0)
 |[]=>rfl
 |x::l=>by
  rw[List.map_cons,bU,←xo p l]
  by_cases e:p x=true
  ·rw[List.filter_cons_of_pos e,if_pos e,List.length_cons];lia
  ·rw[List.filter_cons_of_neg e,if_neg e];lia
theorem C5{α:Type}(f:α→Nat):∀l:List α,(∀x∈l,f x=0)→Wh.sumNat (l.map f)=0
 |[],_=>rfl
 |x::l,h=>by
  rw[List.map_cons,bU,h x List.mem_cons_self,C5 f l fun y hy=>h y (List.mem_cons_of_mem _ hy)]
theorem KL(N:Wh.Net)(G:Wh.Setting)(k:Nat)(x:Wh.Elem):Wh.sumNat ((N.lawsOf G k x).map Ah)≤if(decide (x.kind= .C) ||decide (x.kind= .L))=true then 1 else 0:=by
 have d0:∀a b,Ah ⟨a,[],b⟩=0:=fun a b=>rfl
 have d1:∀L,Ah L≤1:=fun L=>by unfold Ah;split <;>lia
 have s1:∀L,Wh.sumNat ([L].map Ah)=Ah L:=fun L=>by
  show Wh.sumNat [Ah L]=_
  rw[bU]
  rfl
 have s2:∀L M,Wh.sumNat ([L,M].map Ah)=Ah L+Ah M:=fun L M=>by
  show Wh.sumNat [Ah L,Ah M]=_
  rw[bU,bU]
  rfl
 unfold Wh.Net.lawsOf
 dsimp only
 cases h:x.kind <;>dsimp only
 case C=>rw[s1];exact d1 _
 case L=>rw[s1];exact d1 _
 case T=>rw[s2];exact Nat.le_refl _
 case M=>exact Nat.le_refl _
 case S=>split <;>(rw[s1];exact Nat.le_refl _)
 case D=>split <;>(rw[s1];exact Nat.le_refl _)
 all_goals (rw[s1];exact Nat.le_refl _)
theorem Gj(n:Nw)(G:Wh.Setting):sumNat (ao n).unknowns (fun i=>Ah (((ao n).laws G).getD i L0))+1≤(ao n).places:=by
 rw[←d4 n G,C4 Ah L0]
 unfold Wh.Net.laws Wh.Net.places
 rw[List.map_append,iD,xo]
 have z:Wh.sumNat (((List.range (ao n).nodes).map fun(v:Nat)=>(⟨(ao n).indexed.flatMap fun(p:Nat×Wh.Elem)=>(ao n).outOf (v+1) p.1 p.2,[],0⟩:Wh.Law)).map Ah)=0:=by
  refine C5 _ _ fun L hL=> ?_
  obtain⟨v,_,rfl⟩:=List.mem_map.mp hL
  rfl
 rw[z]
 have q:=vx (f:=fun p:Nat×Wh.Elem=>(ao n).lawsOf G p.1 p.2) (h:=Ah) (c:=fun p:Nat×Wh.Elem=>if(decide (p.2.kind= .C) ||decide (p.2.kind= .L))=true then 1 else 0) (ao n).indexed fun p _=>KL _ _ _ _
 have e:((ao n).indexed.map fun p:Nat×Wh.Elem=>if(decide (p.2.kind= .C) ||decide (p.2.kind= .L))=true then 1 else 0)=(ao n).elems.map fun x=>if(decide (x.kind= .C) ||decide (x.kind= .L))=true then 1 else 0:=by
  rw[cR,List.map_map]
  show _=(n.af.map aF).map _
  rw[zZ (n.af.map aF) (aF p0),List.map_map,lMp]
  apply List.map_congr_left
  intro i hi
  have hi:=List.mem_range.mp hi
  have e:(n.af.map aF).getD i (aF p0)=aF (n.af.getD i p0):=by
   rw[gDe,gDe,List.getElem?_map,List.getElem?_eq_getElem hi]
   rfl
  show _=if(decide (((n.af.map aF).getD i (aF p0)).kind= .C) ||decide (((n.af.map aF).getD i (aF p0)).kind= .L))=true then 1 else 0
  rw[e]
  rfl
 rw[e] at q
 lia
section
variable {n:Nw}(R:Right n)(G:Wh.Setting)
include R
theorem xp:pS ((ao n).determinant G)=det (ao n).unknowns (Sm n G XX):=by
 unfold Wh.Net.determinant
 refine w9 _ _ (ao n).places (by rw[lMp,List.length_range]) ?_ fun i hi=> ?_
 ·exact(Bh _ (d:=fun i=>Ah (((ao n).laws G).getD i L0)) fun i j _ _=>Jg _ _ _).mono (Gj n G)
 ·rw[i0 _ _ _ _ hi]
  exact(EE R G XX _ _ (ME _)).symm
theorem Bq{c:Nat}(hc:c<(ao n).unknowns):pS ((ao n).numerator G c)=det (ao n).unknowns (bE (Sm n G XX) c fun i=>Sm n G XX i (ao n).unknowns):=by
 unfold Wh.Net.numerator
 refine w9 _ _ (ao n).places (by rw[lMp,List.length_range]) ?_ fun i hi=> ?_
 ·refine(Bh _ (d:=fun i=>Ah (((ao n).laws G).getD i L0)) fun i j _ _=> ?_).mono (Gj n G)
  show Dg (if j=c then _ else _) _
  split
  ·exact Jg _ _ _
  ·exact Jg _ _ _
 ·rw[i0 _ _ _ _ hi]
  exact(EF R G XX _ _ (ME _) hc).symm
end
def jl:List Part→List (List Bool)
 |[]=>[[]]
 |p::ps=>if p.kind=13 then(jl ps).map (fun r=>false::r) ++ (jl ps).map (fun r=>true::r) else(jl ps).map (fun r=>false::r)
theorem vy:∀(ps:List Part) (rs:List (List Bool)),bg ps rs=rs.flatMap fun row=>(jl ps).map fun r=>row ++ r
 |[],rs=>by
  show rs=rs.flatMap fun row=>[row ++ []]
  induction rs with
  |nil=>rfl
  |cons r rs ih=>rw[List.flatMap_cons,←ih];simp
 |p::ps,rs=>by
  show bg ps (rs.flatMap fun row=>if p.kind=13 then[row ++ [false],row ++ [true]] else[row ++ [false]])=_
  rw[vy ps,List.flatMap_assoc]
  congr 1
  funext row
  show _=(if p.kind=13 then(jl ps).map (fun r=>false::r) ++ (jl ps).map (fun r=>true::r) else(jl ps).map (fun r=>false::r)).map _
  by_cases h:p.kind=13
  ·rw[if_pos h,if_pos h,List.map_append,List.map_map,List.map_map]
   simp[Function.comp_def]
  ·rw[if_neg h,if_neg h,List.map_map]
   simp[Function.comp_def]
theorem vz(ps:List Part):bg ps [[]]=jl ps:=by
 rw[vy]
 simp
def i4(off:Nat):List Part→List Nat
 |[]=>[]
 |p::ps=>if p.kind=13 then off::i4 (off+1) ps else i4 (off+1) ps
def nA(off len:Nat)(st:List Bool)(r:List Nat):Prop:=st.length=len∧(∀k∈r,off≤k)∧∀k,off≤k→r.contains k=st.getD (k - off) false
theorem uh:∀(ps:List Part) (off:Nat),Al (nA off ps.length) (jl ps) (Wh.rowsOf (i4 off ps))
 |[],off=> .cons ⟨rfl,(fun _ h=>by cases h),fun k _=>by simp⟩ .nil
 |p::ps,off=>by
  have ih:=uh ps (off+1)
  have f1:∀st r,nA (off+1) ps.length st r→nA off (p::ps).length (false::st) r:=fun st r h=>by
   refine⟨by rw[List.length_cons,List.length_cons,h.1],fun k hk=>by have:=h.2.1 k hk;lia,fun k hk=> ?_⟩
   by_cases e:k=off
   ·subst e
    rw[Nat.sub_self]
    show r.contains k=false
    cases q:r.contains k with
    |false=>rfl
    |true=>
     have:=h.2.1 k (List.contains_iff_mem.mp q)
     lia
   ·have e2:k - off=(k - (off+1))+1:=by lia
    rw[e2,h.2.2 k (by lia)]
    rfl
  have f2:∀st r,nA (off+1) ps.length st r→nA off (p::ps).length (true::st) (off::r):=fun st r h=>by
   refine⟨by rw[List.length_cons,List.length_cons,h.1],fun k hk=> ?_,fun k hk=> ?_⟩
   ·rcases List.mem_cons.mp hk with rfl |hk
    ·exact Nat.le_refl _
    ·have:=h.2.1 k hk;lia
   ·by_cases e:k=off
    ·subst e
     rw[Nat.sub_self]
     simp
    ·have e2:k - off=(k - (off+1))+1:=by lia
     rw[e2]
     show(off::r).contains k=st.getD (k - (off+1)) false
     rw[←h.2.2 k (by lia),List.contains_cons]
     have:(k==off)=false:=by simpa using e
     rw[this,Bool.false_or]
  unfold jl i4
  by_cases h:p.kind=13
  ·rw[if_pos h,if_pos h]
   show Al _ _ (Wh.rowsOf (i4 (off+1) ps) ++ (Wh.rowsOf (i4 (off+1) ps)).map fun(s:Wh.States)=>off::s)
   refine Al.append ?_ ?_
   ·have:=(ih.imp f1).KD (f:=fun r=>false::r) (g:=fun r=>r) (R:=nA off (p::ps).length)
    rw[List.map_id'] at this
    exact this
   ·exact(ih.imp f2).KD (f:=fun r=>true::r) (g:=fun r=>off::r)
  ·rw[if_neg h,if_neg h]
   have:=(ih.imp f1).KD (f:=fun r=>false::r) (g:=fun r=>r) (R:=nA off (p::ps).length)
   rw[List.map_id'] at this
   exact this
theorem Gk:∀(ps:List Part) (off:Nat),(∀p∈ps,Pn p)→((((ps.map aF).zipIdx off).map fun(x:Wh.Elem×Nat)=>(x.2,x.1)).filter fun(p:Nat×Wh.Elem)=>decide (p.2.kind= .D)).map (fun(p:Nat×Wh.Elem)=>p.1)=i4 off ps
 |[],_,_=>rfl
 |p::ps,off,h=>by
  have ih:=Gk ps (off+1) fun q hq=>h q (List.mem_cons_of_mem _ hq)
  have hp:=h p List.mem_cons_self
  rw[List.map_cons,List.zipIdx_cons,List.map_cons]
  unfold i4
  by_cases e:p.kind=13
  ·rw[if_pos e,List.filter_cons_of_pos (by exact decide_eq_true (hp.D.mpr e)),List.map_cons,ih]
  ·rw[if_neg e,List.filter_cons_of_neg (by rw[decide_eq_true_iff];exact fun q=>e (hp.D.mp q)),ih]
theorem Hi{n:Nw}(R:Right n):(ao n).diodes=i4 0 n.af:=by
 unfold Wh.Net.diodes Wh.Net.ofKind Wh.Net.indexed
 exact Gk n.af 0 R.pn
theorem Br{n:Nw}(R:Right n):(ao n).diodes=(List.range n.af.length).filter fun k=>decide ((n.af.getD k p0).kind=13):=by
 unfold Wh.Net.diodes Wh.Net.ofKind
 rw[cR,List.filter_map,List.map_map]
 have e:((fun(p:Nat×Wh.Elem)=>p.1) ∘ fun k=>(k,aF (n.af.getD k p0)))=fun k:Nat=>k:=rfl
 rw[e,List.map_id']
 apply List.filter_congr
 intro k hk
 have hk:=List.mem_range.mp hk
 show decide (kindOf (n.af.getD k p0).kind= .D)=_
 rw[decide_eq_decide]
 exact(R.p hk).D
def DO(n:Nw)(st:List Bool):gk:=⟨n,[],st,n.af.map fun p=>(p.top,p.aC)⟩
theorem numAt_eq{n:Nw}(R:Right n){k:Nat}(h:k<n.af.length):(ao n).numAt k=((n.af.getD k p0).top:Rat) / ((n.af.getD k p0).aC:Rat):=by
 unfold Wh.Net.numAt
 rw[R.elem h]
 rfl
theorem EG{n:Nw}(R:Right n){st:List Bool}{r:List Nat}(h:nA 0 n.af.length st r):gY n (DO n st) ((ao n).rest r):=by
 have dv:∀k,k<n.af.length→(DO n st).drives.getD k (0,1)=((n.af.getD k p0).top,(n.af.getD k p0).aC):=fun k hk=>by
  show(n.af.map fun p=>(p.top,p.aC)).getD k (0,1)=_
  rw[gDe,gDe,List.getElem?_map,List.getElem?_eq_getElem hk]
  rfl
 refine⟨rfl,fun k hk=> ?_,fun k hk _=> ?_,fun k hk _=> ?_⟩
 ·show r.contains k=st.getD k false
  exact h.2.2 k (Nat.zero_le _)
 ·rw[dv k hk]
  exact⟨by have:=(R.p hk).b1;show 0<(n.af.getD k p0).aC;lia,numAt_eq R hk⟩
 ·rw[dv k hk]
  exact⟨by have:=(R.p hk).b1;show 0<(n.af.getD k p0).aC;lia,numAt_eq R hk⟩
theorem mr{n:Nw}(R:Right n){st:List Bool}{r:List Nat}(h:nA 0 n.af.length st r){src:Int}(h0:0≤src)(hs:gf n src=true):gY n (bN n st src) (Wh.alone r src.toNat):=by
 unfold gf at hs
 obtain⟨s1,s2⟩:=(Bool.and_eq_true _ _).mp hs
 have s1:=of_decide_eq_true s1
 have s2:=of_decide_eq_true s2
 unfold kindAt at s2
 have dv:∀k,k<n.af.length→(bN n st src).drives.getD k (0,1)=if(k:Int)=src then(1,1) else(0,1):=fun k hk=>i0 _ _ _ _ hk
 refine⟨rfl,fun k hk=> ?_,fun k hk _=> ?_,fun k hk h13=> ?_⟩
 ·show r.contains k=st.getD k false
  exact h.2.2 k (Nat.zero_le _)
 ·rw[dv k hk]
  show _∧(if k=src.toNat then(1:Rat) else 0)=_
  by_cases e:(k:Int)=src
  ·rw[if_pos e,if_pos (by lia)]
   exact⟨by decide,by decide +kernel⟩
  ·rw[if_neg e,if_neg (by lia)]
   exact⟨by decide,by decide +kernel⟩
 ·rw[dv k hk]
  show _∧(0:Rat)=_
  have e:¬(k:Int)=src:=fun e=>by
   have:src.toNat=k:=by lia
   rw[this,h13] at s2
   lia
  rw[if_neg e]
  exact⟨by decide,by decide +kernel⟩
theorem xq(l:bw):(bK l).f 0=((bF l:Int):Rat):=by
 cases l with
 |nil=>rfl
 |cons a l=>
  rw[bP]
  show(a:Rat)+0*_=(a:Rat)
  grind
theorem MF(L:Wh.Law)(m j:Nat):Dg (Lv (ei j) 0 m L) 1:=by
 unfold Lv
 have z:(0:PF)*Rv (ei j) L.byS=0:=by grind
 rw[z]
 exact((Gi j L.terms).add (rT 1)).add ((Jf m j).smul L.right)
theorem vA:∀m,sumNat m (fun _=>0)=0
 |0=>rfl
 |m+1=>by
  show sumNat m _+ 0=0
  rw[vA m]
theorem KN(n:Nw)(G:Wh.Setting):Dg (det (ao n).unknowns (Sm n G 0)) 1:=by
 have:=Bh (ao n).unknowns (A:=Sm n G 0) (d:=fun _=>0) fun i j _ _=>MF _ _ _
 rw[vA] at this
 exact this
theorem Bs{A:Type} [CommRing A](m:Nat)(F:Nat→Nat→A)(c:Nat)(hc:c<m):det m (bE F c fun _=>0)=0:=iZ m _ c hc fun i _=>c8
section
variable {n:Nw}(R:Right n){g:gk}{G:Wh.Setting}(S:gY n g G)(hs:g.s=[])
include R S hs
theorem Hj:(sol (rows g)=none∧(ao n).solved G 0=none)∨∃d tops x,sol (rows g)=some (d,tops)∧(ao n).solved G 0=some x∧tops.length=(ao n).unknowns∧(∃z,d=[z])∧bF d≠0∧(det (ao n).unknowns (Sm n G 0)).f 0≠0∧∀c,c<(ao n).unknowns→((bF (tops.getD c []):Int):Rat)=x.getD c 0*((bF d:Int):Rat):=by
 have σ0:bK g.s=0:=by rw[hs];rfl
 have zf:∀x:Rat,(0:PF).f x=0:=fun x=>rfl
 have rl:((ao n).rows G 0).length=(ao n).unknowns:=by unfold Wh.Net.rows;rw[lMp,d4]
 have rr:∀r∈(ao n).rows G 0,r.1.length=(ao n).unknowns:=fun r hr=>by
  unfold Wh.Net.rows at hr
  obtain⟨L,_,rfl⟩:=List.mem_map.mp hr
  exact wq _ _ _
 have rmem:∀i,i<(ao n).unknowns→(((ao n).laws G).getD i L0).row (ao n).unknowns 0∈(ao n).rows G 0:=fun i hi=>List.mem_of_getElem? (rZ n G 0 hi)
 have dotE:∀(i:Nat) (p:Rat) (y:Nat→Rat),dot (ao n).unknowns ((((ao n).laws G).getD i L0).row (ao n).unknowns 0).1 y=a7 (ao n).unknowns fun j=>(Sm n G 0 i j).f p*y j:=fun i p y=>by
  unfold dot
  exact bc _ fun j hj=>by rw[Bp _ _ 0 p 0 (zf p) j hj];rfl
 have spec:=Ew rl rr
 have sp:=CZ R S
 rw[σ0] at sp
 rcases sp with⟨d,tops,e,tl,td,dn,tt,q,hq,hd,ht⟩ |⟨e,h0,x,⟨j,hj,xj⟩,hx⟩
 ·have dl:d.length≤1:=En td (c:=1) (by decide) (e:=1) (by
   rw[hd,fk]
   have:=(KN n G).smul q
   have e2:(1:PF)*(PF.const q*det (ao n).unknowns (Sm n G 0))=PF.const q*det (ao n).unknowns (Sm n G 0):=by grind
   rw[e2]
   exact this)
  obtain⟨z,rfl⟩:∃z,d=[z]:=by
   cases d with
   |nil=>exact absurd rfl dn
   |cons z l=>
    cases l with
    |nil=>exact⟨z,rfl⟩
    |cons y l=>simp at dl
  have z0:bF [z]≠0:=iC.mp td (by simp)
  have dd:((bF [z]:Int):Rat)=q*(det (ao n).unknowns (Sm n G 0)).f 0:=by
   rw[←xq,hd];rfl
  have D0:(det (ao n).unknowns (Sm n G 0)).f 0≠0:=fun e=>by
   rw[e] at dd
   have:((bF [z]:Int):Rat)=0:=by rw[dd];grind
   exact z0 (by exact_mod_cast this)
  right
  rcases spec with⟨x,sx,xl,hx⟩ |⟨sn,y,⟨j,hj,yj⟩,hy⟩
  ·refine⟨[z],tops,x,e,sx,tl,⟨z,rfl⟩,z0,D0,fun c hc=> ?_⟩
   have sat1:=(hx (fun j=>x.getD j 0) 1).mpr fun j _=>by grind
   have eqs:∀i,i<(ao n).unknowns→a7 (ao n).unknowns (fun d=>(Sm n G 0 i d).f 0*x.getD d 0)=(Sm n G 0 i (ao n).unknowns).f 0:=fun i hi=>by
    have h1:=sat1 _ (rmem i hi)
    unfold sat at h1
    rw[dotE i 0,Ag _ _ 0 0 0 (C2 R G _ (memD (by rw[d4];exact hi)))] at h1
    rw[h1]
    show 1*(Sm n G 0 i (ao n).unknowns).f 0=_
    grind
   have cr:=wK (ao n).unknowns (fun i j=>(Sm n G 0 i j).f 0) (fun j=>x.getD j 0) (fun i=>(Sm n G 0 i (ao n).unknowns).f 0) c hc eqs
   have top:((bF (tops.getD c []):Int):Rat)=q*det (ao n).unknowns (bE (fun i j=>(Sm n G 0 i j).f 0) c fun i=>(Sm n G 0 i (ao n).unknowns).f 0):=by
    rw[←xq,ht c hc]
    show q*PF.f (det _ _) 0=_
    rw[zT]
    congr 1
    refine bh _ fun i j _ _=> ?_
    show(if j=c then _ else _:PF).f 0=if j=c then _ else _
    split <;>rfl
   rw[top,cr,dd,zT]
   grind
  ·exfalso
   have cr:=wK (ao n).unknowns (fun i j=>(Sm n G 0 i j).f 0) y (fun _=>0) j hj fun i hi=>by
    rw[←dotE i 0]
    exact hy _ (rmem i hi)
   rw[Bs _ _ _ hj,←zT] at cr
   rcases Rat.mul_eq_zero.mp cr.symm with h |h
   ·exact yj h
   ·exact D0 h
 ·left
  refine⟨e,?_⟩
  rcases spec with⟨x0,sx,xl,hx0⟩ |⟨sn,_⟩
  ·exfalso
   obtain⟨N,hN⟩:=PF.A5 xj
   have hN:=hN N (Nat.le_refl _)
   have:∀r∈(ao n).rows G 0,sat (ao n).unknowns (fun d=>(x d).f (N:Rat)) 0 r:=fun r hr=>by
    obtain⟨i,hi,er⟩:=List.getElem_of_mem hr
    have hi2:i<(ao n).unknowns:=by lia
    have e2:=rZ n G 0 hi2
    rw[List.getElem?_eq_getElem hi,er] at e2
    cases e2
    unfold sat
    rw[dotE i (N:Rat)]
    have h2:=hx i hi2
    have h3:(a7 (ao n).unknowns fun d=>Sm n G 0 i d*x d).f (N:Rat)=0:=by rw[h2];rfl
    rw[El] at h3
    rw[show(fun j=>(Sm n G 0 i j).f (N:Rat)*(x j).f (N:Rat))=fun j=>(Sm n G 0 i j*x j).f (N:Rat) from rfl,h3]
    grind
   have h4:=(hx0 _ 0).mp this j hj
   exact hN (by rw[h4];grind)
  ·exact sn
end
theorem KO(a b:bw):((bF (rP a b):Int):Rat)=((bF a:Int):Rat) - ((bF b:Int):Rat):=by
 rw[←xq,←xq,←xq,oo]
 rfl
section
variable {n:Nw}(R:Right n){d:bw}{tops:List bw}{x:List Rat}(tl:tops.length=(ao n).unknowns)(d0:bF d≠0)
 (ht:∀c,c<(ao n).unknowns→((bF (tops.getD c []):Int):Rat)=x.getD c 0*((bF d:Int):Rat))
include R ht
theorem Gm{v:Int}(h0:0≤v)(h1:v≤n.last):((bF (cz (d,tops) v):Int):Rat)=Wh.voltage x v.toNat*((bF d:Int):Rat):=by
 unfold cz Wh.voltage
 by_cases h:0<v
 ·rw[if_pos h,if_neg (by lia)]
  have nl:=jk n
  have:=ht (v - 1).toNat (by lia)
  have e:v.toNat - 1=(v - 1).toNat:=by lia
  rw[e]
  exact this
 ·rw[if_neg h,if_pos (by lia)]
  show((0:Int):Rat)=_
  push_cast
  grind
include tl d0
theorem Ai{st:List Bool}{r:List Nat}(hr:nA 0 n.af.length st r){k:Nat}(hk:k<n.af.length)(h13:(n.af.getD k p0).kind=13):
  qB (DO n st) (d,tops) k=if r.contains k=true then decide (0≤((ao n).quantity 1 k x).getD 0) else decide (((ao n).quantity 2 k x).getD 0≤(ao n).numAt k):=by
 have pp:=R.p hk
 have hD:=pp.D.mpr h13
 have hM:¬(aF (n.af.getD k p0)).kind= .M:=fun e=>by rw[fm,hD] at e;cases e
 obtain⟨n0,n1⟩:=b9 hD (.inl rfl)
 have ab:=R.ab hk (by lia)
 have dr:((bF d:Int):Rat)≠0:=fun e=>d0 (by exact_mod_cast e)
 have dd:0<((bF d:Int):Rat)*((bF d:Int):Rat):=by
  have h1:(0:Int)<bF d*bF d:=by
   rcases Int.lt_or_gt_of_ne d0 with h |h
   ·exact Int.mul_pos_of_neg_of_neg h h
   ·exact Int.mul_pos h h
  have h2:(0:Rat)<((bF d*bF d:Int):Rat):=by exact_mod_cast h1
  push_cast at h2
  exact h2
 have q1:((ao n).quantity 1 k x).getD 0=x.getD ((ao n).at_ k) 0:=by
  unfold Wh.Net.quantity
  rw[if_neg (by decide),R.elem hk]
  dsimp only
  rw[if_neg hM,if_pos rfl]
  rfl
 have q2:((ao n).quantity 2 k x).getD 0=Wh.voltage x (n.af.getD k p0).a.toNat - Wh.voltage x (n.af.getD k p0).b.toNat:=by
  unfold Wh.Net.quantity
  rw[if_neg (by decide),R.elem hk]
  dsimp only
  rw[if_neg hM,if_neg (by decide),if_pos rfl,n0,n1]
  rfl
 rw[q1,q2,numAt_eq R hk,hr.2.2 k (Nat.zero_le _)]
 unfold qB
 dsimp only
 show(if st.getD k false=true then decide (0≤bF (gv (DO n st) (d,tops) k)*bF d) else decide (bF (gw (DO n st) (d,tops) k)*bF d*(n.af.getD k p0).aC≤(n.af.getD k p0).top*bF d*bF d))=if st.getD k false=true then _ else _
 by_cases hb:st.getD k false=true
 ·rw[if_pos hb,if_pos hb,decide_eq_decide]
  have c1:((bF (gv (DO n st) (d,tops) k):Int):Rat)=x.getD ((ao n).at_ k) 0*((bF d:Int):Rat):=by
   unfold gv
   show((bF (tops.getD ((places n).getD k 0).toNat []):Int):Rat)=_
   rw[R.place hk,Int.toNat_natCast]
   exact ht _ (lO R hk (by lia))
  have c2:(0≤bF (gv (DO n st) (d,tops) k)*bF d)↔(0:Rat)≤((bF (gv (DO n st) (d,tops) k):Int):Rat)*((bF d:Int):Rat):=by
   constructor
   ·intro h
    have:(0:Rat)≤((bF (gv (DO n st) (d,tops) k)*bF d:Int):Rat):=by exact_mod_cast h
    push_cast at this
    exact this
   ·intro h
    have:(0:Rat)≤((bF (gv (DO n st) (d,tops) k)*bF d:Int):Rat):=by push_cast;exact h
    exact_mod_cast this
  rw[c2,c1]
  have e:x.getD ((ao n).at_ k) 0*((bF d:Int):Rat)*((bF d:Int):Rat)=x.getD ((ao n).at_ k) 0*(((bF d:Int):Rat)*((bF d:Int):Rat)):=by grind
  rw[e]
  constructor
  ·intro h
   refine Rat.le_of_mul_le_mul_right (c:=((bF d:Int):Rat)*((bF d:Int):Rat)) ?_ dd
   rw[Rat.zero_mul]
   exact h
  ·intro h
   exact Rat.mul_nonneg h (Rat.le_of_lt dd)
 ·rw[if_neg hb,if_neg hb,decide_eq_decide]
  have c1:((bF (gw (DO n st) (d,tops) k):Int):Rat)=(Wh.voltage x (n.af.getD k p0).a.toNat - Wh.voltage x (n.af.getD k p0).b.toNat)*((bF d:Int):Rat):=by
   unfold gw pB
   rw[KO]
   show((bF (cz (d,tops) (n.af.getD k p0).a):Int):Rat) - ((bF (cz (d,tops) (n.af.getD k p0).b):Int):Rat)=_
   rw[Gm R ht pp.a0 ab.1,Gm R ht pp.b0 ab.2]
   grind
  have bp:(0:Rat)<((n.af.getD k p0).aC:Rat):=fN (by have:=pp.b1;lia)
  generalize (Wh.voltage x (n.af.getD k p0).a.toNat - Wh.voltage x (n.af.getD k p0).b.toNat)=v at c1⊢
  generalize bF (gw (DO n st) (d,tops) k)=u at c1⊢
  generalize n.af.getD k p0=p at bp⊢
  have c2:(u*bF d*p.aC≤p.top*bF d*bF d)↔((u:Int):Rat)*((bF d:Int):Rat)*(p.aC:Rat)≤(p.top:Rat)*((bF d:Int):Rat)*((bF d:Int):Rat):=by
   constructor
   ·intro h
    have:((u*bF d*p.aC:Int):Rat)≤((p.top*bF d*bF d:Int):Rat):=by exact_mod_cast h
    push_cast at this
    exact this
   ·intro h
    have:((u*bF d*p.aC:Int):Rat)≤((p.top*bF d*bF d:Int):Rat):=by push_cast;exact h
    exact_mod_cast this
  rw[c2,c1]
  have pos:=Rat.mul_pos dd bp
  have e1:v*((bF d:Int):Rat)*((bF d:Int):Rat)*(p.aC:Rat)=v*(((bF d:Int):Rat)*((bF d:Int):Rat)*(p.aC:Rat)):=by grind
  have e2:(p.top:Rat)*((bF d:Int):Rat)*((bF d:Int):Rat)=(p.top:Rat) / (p.aC:Rat)*(((bF d:Int):Rat)*((bF d:Int):Rat)*(p.aC:Rat)):=by grind
  rw[e1,e2]
  exact⟨fun h=>Rat.le_of_mul_le_mul_right h pos,fun h=>Rat.mul_le_mul_of_nonneg_right h (Rat.le_of_lt pos)⟩
theorem KP{st:List Bool}{r:List Nat}(hr:nA 0 n.af.length st r):eX (DO n st) (d,tops)=(ao n).fits r x:=by
 unfold eX Wh.Net.fits
 rw[Br R]
 show((List.range n.af.length).filter fun k=>decide ((n.af.getD k p0).kind=13)).all _=_
 rw[Bool.eq_iff_iff,List.all_eq_true,List.all_eq_true]
 constructor
 ·intro h k hk
  obtain⟨hk1,hk2⟩:=List.mem_filter.mp hk
  rw[←Ai R tl d0 ht hr (List.mem_range.mp hk1) (of_decide_eq_true hk2)]
  exact h k hk
 ·intro h k hk
  obtain⟨hk1,hk2⟩:=List.mem_filter.mp hk
  rw[Ai R tl d0 ht hr (List.mem_range.mp hk1) (of_decide_eq_true hk2)]
  exact h k hk
end
def LL(n:Nw):Option (List Bool×(bw×List bw))→Option (Wh.States×List Rat)→Prop
 |none,none=>True
 |some p,some q=>p.1∈bg n.af [[]]∧nA 0 n.af.length p.1 q.1∧(det (ao n).unknowns (Sm n ((ao n).rest q.1) 0)).f 0≠0
 |_,_=>False
theorem vB{n:Nw}(R:Right n):∀{sts:List (List Bool)} {rs:List Wh.States},Al (nA 0 n.af.length) sts rs→(∀st∈sts,st∈bg n.af [[]])→
  LL n (ik n sts) (rs.findSome? fun(r:Wh.States)=>match(ao n).solved ((ao n).rest r) 0 with
   |none=>none
   |some x=>if(ao n).fits r x=true then some (r,x) else none)
 |_,_,.nil,_=>trivial
 |st::sts,r::rs,.cons h t,hm=>by
  have ih:=vB R t fun s hs=>hm s (List.mem_cons_of_mem _ hs)
  rw[List.findSome?_cons]
  have e:ik n (st::sts)=match sol (rows (DO n st)) with
   |none=>ik n sts
   |some s=>if eX (DO n st) s=true then some (st,s) else ik n sts:=rfl
  rw[e]
  rcases Hj R (EG R h) rfl with⟨e1,e2⟩ |⟨d,tops,x,e1,e2,tl,_,d0,D0,ht⟩
  ·rw[e1,e2]
   exact ih
  ·rw[e1,e2]
   dsimp only
   rw[KP R tl d0 ht h]
   by_cases hf:(ao n).fits r x=true
   ·rw[if_pos hf,if_pos hf]
    exact⟨hm st List.mem_cons_self,h,D0⟩
   ·rw[if_neg hf,if_neg hf]
    exact ih
theorem ui{n:Nw}(R:Right n):LL n (point n) (ao n).point:=by
 unfold point Wh.Net.point
 have e:bg n.af [[]]=jl n.af:=vz _
 refine vB R (rs:=Wh.rowsOf (ao n).diodes) ?_ fun st h=>h
 rw[e,Hi R]
 exact uh n.af 0
theorem Aj:∀(f:Nat) (l:List Int),l.length≤f→WhB.sevens f l=(List.range ((l.length+6) / 7)).map fun i=>(l.drop (7*i)).take 7
 |0,l,h=>by
  have:l=[]:=List.length_eq_zero_iff.mp (by lia)
  subst this
  rfl
 |f+1,l,h=>by
  unfold WhB.sevens
  by_cases e:l.isEmpty=true
  ·rw[if_pos e]
   have:l=[]:=List.isEmpty_iff.mp e
   subst this
   rfl
  ·rw[if_neg e]
   have hl:0<l.length:=by
    cases l with
    |nil=>exact absurd rfl e
    |cons=>simp
   rw[Aj f (l.drop 7) (by rw[List.length_drop];lia),List.length_drop]
   have e2:(l.length+6) / 7=(l.length - 7+6) / 7+1:=by lia
   rw[e2,List.range_succ_eq_map,List.map_cons,List.map_map]
   congr 1
   apply List.map_congr_left
   intro i _
   show((l.drop 7).drop (7*i)).take 7=(l.drop (7*(i+1))).take 7
   rw[List.drop_drop]
   congr 2
   lia
theorem vC(l:List Int):WhB.sevens l.length (l.drop 1)=aM l:=by
 rw[Aj l.length (l.drop 1) (by rw[List.length_drop];lia),List.length_drop]
 unfold aM
 apply List.map_congr_left
 intro i _
 rw[List.drop_drop]
theorem jm(l:List Int)(h:l.length % 7=1):∀r∈aM l,r.length=7:=fun r hr=>by
 unfold aM at hr
 obtain⟨i,hi,rfl⟩:=List.mem_map.mp hr
 have hi:=List.mem_range.mp hi
 rw[List.length_take,List.length_drop]
 lia
theorem Jh{r:List Int}(h:r.length=7):WhB.sevenOk r=dF r:=by
 match r,h with
 |[a,b,c,d,e,f,g],_=>
  rw[Bool.eq_iff_iff]
  unfold WhB.sevenOk dF WhB.small WhB.NUMBER
  simp
  (first |lia |omega)
theorem C6(r:List Int):r.headD 0=r.getD 0 0:=by cases r <;>rfl
theorem xr{α:Type}{p q:α→Bool}:∀{l:List α},(∀x∈l,p x=q x)→l.all p=l.all q
 |[],_=>rfl
 |x::l,h=>by
  rw[List.all_cons,List.all_cons,h x List.mem_cons_self,xr fun y hy=>h y (List.mem_cons_of_mem _ hy)]
theorem MG(l:List Int):WhB.rowOk l=jf l:=by
 unfold WhB.rowOk jf
 rw[vC]
 have fe:((aM l).filter fun(x:List Int)=>x.headD 0==13)=(aM l).filter fun r=>decide (r.getD 0 0=13):=by
  apply List.filter_congr
  intro r _
  rw[C6,Bool.eq_iff_iff]
  simp
 rw[fe]
 have pl:(aM l).length=(l.length - 1+6) / 7:=by unfold aM;simp
 by_cases h0:l.length=0∨¬(1≤l.headD 0∧l.headD 0≤8)
 ·rw[if_pos h0,Bool.eq_false_iff]
  intro q
  obtain⟨_,q⟩:=(Bool.and_eq_true _ _).mp q
  obtain⟨q1,q⟩:=(Bool.and_eq_true _ _).mp q
  obtain⟨q2,q⟩:=(Bool.and_eq_true _ _).mp q
  obtain⟨q3,q⟩:=(Bool.and_eq_true _ _).mp q
  have q1:=of_decide_eq_true q1
  have q2:=of_decide_eq_true q2
  have q3:l.headD 0≤((8:Nat):Int):=of_decide_eq_true q3
  rcases h0 with h |h
  ·lia
  ·exact h ⟨q2,by lia⟩
 rw[if_neg h0]
 have hh:1≤l.headD 0∧l.headD 0≤8:=Classical.byContradiction fun q=>h0 (.inr q)
 have hl:¬l.length=0:=fun q=>h0 (.inl q)
 by_cases h1:(l.length - 1) % 7=0
 rotate_left
 ·rw[if_pos h1,Bool.eq_false_iff]
  intro q
  obtain⟨_,q⟩:=(Bool.and_eq_true _ _).mp q
  obtain⟨q1,q⟩:=(Bool.and_eq_true _ _).mp q
  have q1:=of_decide_eq_true q1
  lia
 rw[if_neg (fun q=>q h1)]
 have h7:l.length % 7=1:=by lia
 by_cases h2:10<(aM l).length
 ·rw[if_pos h2,Bool.eq_false_iff]
  intro q
  obtain⟨_,q⟩:=(Bool.and_eq_true _ _).mp q
  obtain⟨_,q⟩:=(Bool.and_eq_true _ _).mp q
  obtain⟨_,q⟩:=(Bool.and_eq_true _ _).mp q
  obtain⟨_,q⟩:=(Bool.and_eq_true _ _).mp q
  obtain⟨q4,q⟩:=(Bool.and_eq_true _ _).mp q
  have q4:=of_decide_eq_true q4
  lia
 rw[if_neg h2]
 have ae:(aM l).all WhB.sevenOk=(aM l).all dF:=xr fun r hr=>Jh (jm l h7 r hr)
 rw[ae,decide_eq_true h7,decide_eq_true hh.1,decide_eq_true (show l.headD 0≤((Wh.NODES:Nat):Int) from hh.2),decide_eq_true (show l.length≤7*10+1 by lia)]
 by_cases h3:(aM l).all dF=true
 ·rw[if_neg (fun q=>q h3),h3]
  show(_&&true)=_
  rw[Bool.and_true]
  rfl
 ·rw[if_pos h3,show(aM l).all dF=false by simpa using h3]
  show(_&&false)=false
  rw[Bool.and_false]
theorem KQ{r:List Int}(h:r.length=7):WhB.elemIn r=aF (Part.of r):=by
 unfold WhB.elemIn aF Part.of kindOf
 have e:r.getD 6 1=r.getD 6 0:=by
  rw[gDe,gDe,List.getElem?_eq_getElem (by lia)]
  rfl
 rw[e]
theorem MH{l:List Int}(h:l.length % 7=1):WhB.netIn l=ao (aW l):=by
 unfold WhB.netIn ao aW
 rw[vC]
 dsimp only
 rw[List.map_map]
 congr 1
 apply List.map_congr_left
 intro r hr
 exact KQ (jm l h r hr)
theorem KR{r:List Int}(h:dF r=true)(h7:r.length=7):Pn (Part.of r):=by
 unfold dF at h
 by_cases h0:0≤r.getD 0 0∧r.getD 0 0≤13
 rotate_left
 ·rw[if_pos h0] at h;cases h
 rw[if_neg (fun q=>q h0)] at h
 by_cases h1:((r.drop 1).take 4).all (fun p=>decide (0≤p∧p≤63))=true
 rotate_left
 ·rw[if_pos h1] at h;cases h
 rw[if_neg (fun q=>q h1)] at h
 obtain⟨h2,h3⟩:=(Bool.and_eq_true _ _).mp h
 have h2:=of_decide_eq_true h2
 have h3:=of_decide_eq_true h3
 match r,h7 with
 |[a,b,d,e,f,g,k],_=>
  have q:=List.all_eq_true.mp h1
  have q1:=of_decide_eq_true (q b (by simp))
  have q2:=of_decide_eq_true (q d (by simp))
  have q3:=of_decide_eq_true (q e (by simp))
  have q4:=of_decide_eq_true (q f (by simp))
  exact⟨h0.1,h0.2,q1.1,q2.1,q3.1,q4.1,h2,h3.1,h3.2⟩
structure PD(l:List Int):Prop where
 m7:l.length % 7=1
 l1:1≤(aW l).last
 l8:(aW l).last≤8
 af:(aW l).af.length≤10
 pn:∀p∈(aW l).af,Pn p
theorem LM{l:List Int}(h:jf l=true):PD l:=by
 unfold jf at h
 by_cases h0:l.length=0∨¬(1≤l.headD 0∧l.headD 0≤8)
 ·rw[if_pos h0] at h;cases h
 rw[if_neg h0] at h
 by_cases h1:(l.length - 1) % 7=0
 rotate_left
 ·rw[if_pos h1] at h;cases h
 rw[if_neg (fun q=>q h1)] at h
 by_cases h2:10<(aM l).length
 ·rw[if_pos h2] at h;cases h
 rw[if_neg h2] at h
 by_cases h3:(aM l).all dF=true
 rotate_left
 ·rw[if_pos h3] at h;cases h
 have hh:1≤l.headD 0∧l.headD 0≤8:=Classical.byContradiction fun q=>h0 (.inr q)
 have hl:¬l.length=0:=fun q=>h0 (.inl q)
 have h7:l.length % 7=1:=by lia
 refine⟨h7,hh.1,hh.2,?_,fun p hp=> ?_⟩
 ·show((aM l).map Part.of).length≤10
  rw[lMp];lia
 ·obtain⟨r,hr,rfl⟩:=List.mem_map.mp (show p∈(aM l).map Part.of from hp)
  exact KR (List.all_eq_true.mp h3 r hr) (jm l h7 r hr)
theorem EH{a b c d:Int}(hb:0<b)(hd:0<d):((a:Rat) / (b:Rat)<(c:Rat) / (d:Rat))↔a*d<c*b:=by
 have b':=fN hb
 have d':=fN hd
 have p:=Rat.mul_pos b' d'
 have e1:(a:Rat) / (b:Rat)*((b:Rat)*(d:Rat))=((a*d:Int):Rat):=by push_cast;grind
 have e2:(c:Rat) / (d:Rat)*((b:Rat)*(d:Rat))=((c*b:Int):Rat):=by push_cast;grind
 rw[←Rat.mul_lt_mul_right p,e1,e2]
 constructor
 ·intro h;exact_mod_cast h
 ·intro h;exact_mod_cast h
theorem div_eq{a b c d:Int}(hb:0<b)(hd:0<d):((a:Rat) / (b:Rat)=(c:Rat) / (d:Rat))↔a*d=c*b:=by
 have b':=fN hb
 have d':=fN hd
 constructor
 ·intro h
  have:((a*d:Int):Rat)=((c*b:Int):Rat):=by push_cast;grind
  exact_mod_cast this
 ·intro h
  have:((a*d:Int):Rat)=((c*b:Int):Rat):=by exact_mod_cast h
  push_cast at this
  grind
section
variable {n:Nw}(hl:0≤n.last)(pn:∀p∈n.af,Pn p)
theorem Ox{p:Part}(h:Pn p):(0<(p.top:Rat) / (p.aC:Rat))↔0<p.top:=by
 have:=EH (a:=0) (b:=1) (c:=p.top) (d:=p.aC) (by decide) (by have:=h.b1;lia)
 have e:((0:Int):Rat) / ((1:Int):Rat)=0:=by decide +kernel
 rw[e] at this
 rw[this]
 lia
theorem MI{p:Part}(h:Pn p):((p.top:Rat) / (p.aC:Rat)=0)↔p.top=0:=by
 have:=div_eq (a:=p.top) (b:=p.aC) (c:=0) (d:=1) (by have:=h.b1;lia) (by decide)
 have e:((0:Int):Rat) / ((1:Int):Rat)=0:=by decide +kernel
 rw[e] at this
 rw[this]
 lia
theorem Oy{p:Part}(h:Pn p):((p.top:Rat) / (p.aC:Rat)=1)↔p.top=p.aC:=by
 have:=div_eq (a:=p.top) (b:=p.aC) (c:=1) (d:=1) (by have:=h.b1;lia) (by decide)
 have e:((1:Int):Rat) / ((1:Int):Rat)=1:=by decide +kernel
 rw[e] at this
 rw[this]
 lia
theorem Ji{p:Part}(h:Pn p):(0≤(p.top:Rat) / (p.aC:Rat))↔0≤p.top:=by
 have:=EH (a:=p.top) (b:=p.aC) (c:=0) (d:=1) (by have:=h.b1;lia) (by decide)
 have e:((0:Int):Rat) / ((1:Int):Rat)=0:=by decide +kernel
 rw[e] at this
 rw[←Rat.not_lt,this]
 lia
theorem MJ{p:Part}(h:Pn p):Wh.mayHave (kindOf p.kind) ((p.top:Rat) / (p.aC:Rat))=jg p:=by
 have k:=eY h.k0 h.k1
 obtain⟨kM,kT,kD,kV,kI,kL,kC,kH,kF,kS,kO,kE,kG,kR⟩:=k
 unfold Wh.mayHave jg
 simp only[kM,kT,kD,kV,kI,kL,kC,kH,kF,kS,kO,kE,kG,kR]
 have qp:=Ox h
 have qz:=MI h
 have qo:=Oy h
 have qn:=Ji h
 simp only[qp,qz,qo,qn,ne_eq]
 rcases ml h.k0 h.k1 with e |e |e |e |e |e |e |e |e |e |e |e |e |e <;>simp[e]
theorem Jj{p:Part}(h:Pn p)(hl:0≤n.last):(aF p).nodes.any (fun(v:Nat)=>decide ((ao n).nodes<v))=(df p).any (fun v=>decide (n.last<v)):=by
 have k:=eY h.k0 h.k1
 obtain⟨kM,kT,kD,kV,kI,kL,kC,kH,kF,kS,kO,kE,kG,kR⟩:=k
 have dv:∀v:Int,0≤v→decide ((ao n).nodes<v.toNat)=decide (n.last<v):=fun v h0=>by
  show decide (n.last.toNat<v.toNat)=_
  rw[decide_eq_decide];lia
 unfold aF df Wh.nodeCount
 dsimp only
 simp only[kM,kE,kG,kT,kO]
 by_cases h3:p.kind=3
 ·simp[h3]
 ·simp only[h3,if_false]
  by_cases h4:p.kind=6∨p.kind=7∨p.kind=10∨p.kind=11
  ·simp only[h4,if_true]
   show[p.a.toNat,p.b.toNat,p.c.toNat,p.d.toNat].any _=_
   simp only[List.any_cons,List.any_nil,dv _ h.a0,dv _ h.b0,dv _ h.c0,dv _ h.d0]
  ·simp only[h4,if_false]
   show[p.a.toNat,p.b.toNat].any _=_
   simp only[List.any_cons,List.any_nil,dv _ h.a0,dv _ h.b0]
include pn
theorem Bt{i:Int}(h0:0≤i)(h1:i<n.af.length):(ao n).kindAt i.toNat=some (kindOf (kindAt n.af i))∧0≤kindAt n.af i∧kindAt n.af i≤13:=by
 have hi:i.toNat<n.af.length:=by lia
 have pp:=pn _ (memD (d:=p0) hi)
 unfold Wh.Net.kindAt kindAt
 show((n.af.map aF)[i.toNat]?).map _=_∧_
 rw[List.getElem?_map,gDe,List.getElem?_eq_getElem hi]
 rw[gDe,List.getElem?_eq_getElem hi] at pp
 exact⟨rfl,pp.k0,pp.k1⟩
theorem Gn{k:Nat}(hk:k≤n.af.length){i:Int}(h0:0≤i):(decide (k≤i.toNat) ||(ao n).kindAt i.toNat !=some .L)= !aX n.af i k:=by
 unfold aX
 by_cases h:i<k
 ·obtain⟨e,e0,e1⟩:=Bt pn h0 (show i<n.af.length by lia)
  rw[e,decide_eq_true h,decide_eq_false (show ¬k≤i.toNat by lia)]
  have kL:=(eY e0 e1).2.2.2.2.2.1
  rw[Bool.false_or,Bool.true_and]
  by_cases q:kindAt n.af i=2
  ·rw[decide_eq_true q,kL.mpr q];rfl
  ·rw[decide_eq_false q]
   have:¬kindOf (kindAt n.af i)= .L:=fun z=>q (kL.mp z)
   simpa using this
 ·rw[decide_eq_false h,decide_eq_true (show k≤i.toNat by lia)]
  rfl
theorem MK{k:Nat}(hk:k≤n.af.length){i:Int}(h0:0≤i):(decide (k≤i.toNat) ||(ao n).kindAt i.toNat==some .M)= !(decide (i<k)&&decide (kindAt n.af i≠3)):=by
 by_cases h:i<k
 ·obtain⟨e,e0,e1⟩:=Bt pn h0 (show i<n.af.length by lia)
  rw[e,decide_eq_true h,decide_eq_false (show ¬k≤i.toNat by lia)]
  have kM:=(eY e0 e1).1
  rw[Bool.false_or,Bool.true_and]
  by_cases q:kindAt n.af i=3
  ·rw[decide_eq_false (fun z=>z q),kM.mpr q];rfl
  ·rw[decide_eq_true (show kindAt n.af i≠3 from q)]
   have:¬kindOf (kindAt n.af i)= .M:=fun z=>q (kM.mp z)
   simpa using this
 ·rw[decide_eq_false h,decide_eq_true (show k≤i.toNat by lia)]
  rfl
omit pn in
theorem xt{p q:Part}(hp:Pn p)(hq:Pn q)(h3:p.kind=3):(decide ((aF q).kind= .M)&&((aF q).refs==(aF p).refs ||(aF q).refs==(aF p).refs.reverse))=eQ q p.a p.b:=by
 have rp:(aF p).refs=[p.a.toNat,p.b.toNat]:=by
  unfold aF
  dsimp only
  rw[if_pos (hp.M.mpr h3)]
 unfold eQ
 by_cases hk:q.kind=3
 ·have rq:(aF q).refs=[q.a.toNat,q.b.toNat]:=by
   unfold aF
   dsimp only
   rw[if_pos (hq.M.mpr hk)]
  rw[if_neg (fun z=>z hk),rp,rq,decide_eq_true (show(aF q).kind= .M from hq.M.mpr hk)]
  have:=hp.a0
  have:=hp.b0
  have:=hq.a0
  have:=hq.b0
  rw[Bool.eq_iff_iff]
  simp
  lia
 ·rw[if_pos hk,decide_eq_false (show ¬(aF q).kind= .M from fun z=>hk (hq.M.mp z))]
  rfl
theorem Jk(hl:0≤n.last){k:Nat}(hk:k<n.af.length):dU n k=(((ao n).wrongAt k (aF (n.af.getD k p0)):Nat):Int):=by
 have pp:=pn _ (memD (d:=p0) hk)
 unfold dU Wh.Net.wrongAt
 dsimp only
 rw[Jj pp hl,fm,Bk,MJ pp]
 by_cases h1:(df (n.af.getD k p0)).any (fun v=>decide (n.last<v))=true
 ·rw[if_pos h1,if_pos h1];rfl
 rw[if_neg h1,if_neg h1]
 by_cases h2:jg (n.af.getD k p0)=false
 ·rw[if_pos h2,if_pos h2];rfl
 rw[if_neg h2,if_neg h2]
 by_cases h3:(n.af.getD k p0).kind=3
 ·have mf:cE n.af k=true:=by
   unfold cE
   dsimp only
   rw[if_pos (by lia)]
  rw[if_neg (by rw[mf];simp),if_pos h3,if_pos (pp.M.mpr h3)]
  unfold ja
  dsimp only
  have rp:(aF (n.af.getD k p0)).refs=[(n.af.getD k p0).a.toNat,(n.af.getD k p0).b.toNat]:=by
   unfold aF
   dsimp only
   rw[if_pos (pp.M.mpr h3)]
  have anyT:((ao n).elems.take k).any (fun(y:Wh.Elem)=>decide (y.kind= .M)&&(y.refs==(aF (n.af.getD k p0)).refs ||y.refs==(aF (n.af.getD k p0)).refs.reverse))=(n.af.take k).any (fun q=>eQ q (n.af.getD k p0).a (n.af.getD k p0).b):=by
   show((n.af.map aF).take k).any _=_
   rw[←List.map_take,List.any_map]
   rw[Bool.eq_iff_iff,List.any_eq_true,List.any_eq_true]
   constructor
   ·rintro⟨q,hq,e⟩
    refine⟨q,hq,?_⟩
    rw[←xt pp (pn q (List.mem_of_mem_take hq)) h3]
    exact e
   ·rintro⟨q,hq,e⟩
    refine⟨q,hq,?_⟩
    rw[←xt pp (pn q (List.mem_of_mem_take hq)) h3] at e
    exact e
  rw[anyT,rp]
  have anyR:[(n.af.getD k p0).a.toNat,(n.af.getD k p0).b.toNat].any (fun(a:Nat)=>decide (k≤a) ||(ao n).kindAt a !=some .L)=(!aX n.af (n.af.getD k p0).a k || !aX n.af (n.af.getD k p0).b k):=by
   rw[List.any_cons,List.any_cons,List.any_nil,Gn pn (Nat.le_of_lt hk) pp.a0,Gn pn (Nat.le_of_lt hk) pp.b0,Bool.or_false]
  rw[anyR]
  show _=(((if(!aX n.af (n.af.getD k p0).a k || !aX n.af (n.af.getD k p0).b k)=true∨(n.af.getD k p0).a.toNat=(n.af.getD k p0).b.toNat∨((n.af.take k).any fun q=>eQ q (n.af.getD k p0).a (n.af.getD k p0).b)=true then 3 else if(ao n).numAt (n.af.getD k p0).a.toNat*(ao n).numAt (n.af.getD k p0).b.toNat<((n.af.getD k p0).top:Rat) / ((n.af.getD k p0).aC:Rat)*(((n.af.getD k p0).top:Rat) / ((n.af.getD k p0).aC:Rat)) then 2 else 0:Nat)):Int)
  have abI:(n.af.getD k p0).a.toNat=(n.af.getD k p0).b.toNat↔(n.af.getD k p0).a=(n.af.getD k p0).b:=by
   have:=pp.a0
   have:=pp.b0
   lia
  by_cases q1:(n.af.getD k p0).a=(n.af.getD k p0).b
  ·rw[if_pos (Or.inl q1),if_pos (Or.inr (Or.inl (abI.mpr q1)))];rfl
  cases q2:aX n.af (n.af.getD k p0).a k with
  |false=>rw[if_pos (Or.inr (Or.inl rfl)),if_pos (.inl rfl)];rfl
  |true=>
  cases q3:aX n.af (n.af.getD k p0).b k with
  |false=>rw[if_pos (Or.inr (Or.inr rfl)),if_pos (.inl rfl)];rfl
  |true=>
  rw[if_neg (by rintro(h |h |h) <;>first |exact q1 h |cases h)]
  by_cases q4:(n.af.take k).any (fun q=>eQ q (n.af.getD k p0).a (n.af.getD k p0).b)=true
  ·rw[if_pos q4,if_pos (Or.inr (Or.inr q4))];rfl
  have nB:¬((!true || !true)=true∨(n.af.getD k p0).a.toNat=(n.af.getD k p0).b.toNat∨(n.af.take k).any (fun q=>eQ q (n.af.getD k p0).a (n.af.getD k p0).b)=true):=by
   rintro(h |h |h)
   ·cases h
   ·exact q1 (abI.mp h)
   ·exact q4 h
  rw[if_neg q4,if_neg nB]
  have lta:(n.af.getD k p0).a<k:=by
   unfold aX at q2
   exact of_decide_eq_true ((Bool.and_eq_true _ _).mp q2).1
  have ltb:(n.af.getD k p0).b<k:=by
   unfold aX at q3
   exact of_decide_eq_true ((Bool.and_eq_true _ _).mp q3).1
  have a0:=pp.a0
  have b0:=pp.b0
  have na:∀i:Nat,i<n.af.length→(ao n).numAt i=((n.af.getD i p0).top:Rat) / ((n.af.getD i p0).aC:Rat):=fun i hi=>by
   unfold Wh.Net.numAt
   show(((n.af.map aF)[i]?).map _).getD 0=_
   rw[List.getElem?_map,gDe,List.getElem?_eq_getElem hi]
   rfl
  rw[na _ (by lia),na _ (by lia)]
  have pa:=pn _ (memD (d:=p0) (show(n.af.getD k p0).a.toNat<n.af.length by lia))
  have pb:=pn _ (memD (d:=p0) (show(n.af.getD k p0).b.toNat<n.af.length by lia))
  have tm:tooMuch (n.af.getD k p0) (n.af.getD (n.af.getD k p0).a.toNat p0) (n.af.getD (n.af.getD k p0).b.toNat p0)=true↔((n.af.getD (n.af.getD k p0).a.toNat p0).top:Rat) / ((n.af.getD (n.af.getD k p0).a.toNat p0).aC:Rat)*(((n.af.getD (n.af.getD k p0).b.toNat p0).top:Rat) / ((n.af.getD (n.af.getD k p0).b.toNat p0).aC:Rat))<((n.af.getD k p0).top:Rat) / ((n.af.getD k p0).aC:Rat)*(((n.af.getD k p0).top:Rat) / ((n.af.getD k p0).aC:Rat)):=by
   generalize n.af.getD (n.af.getD k p0).a.toNat p0=u at pa⊢
   generalize n.af.getD (n.af.getD k p0).b.toNat p0=v at pb⊢
   generalize n.af.getD k p0=c at pp⊢
   have u1:=pa.b1
   have v1:=pb.b1
   have c1:=pp.b1
   unfold tooMuch
   rw[decide_eq_true_iff]
   have up:=fN (show 0<u.aC by lia)
   have vp:=fN (show 0<v.aC by lia)
   have cp:=fN (show 0<c.aC by lia)
   have e1:(u.top:Rat) / (u.aC:Rat)*((v.top:Rat) / (v.aC:Rat))=((u.top*v.top:Int):Rat) / ((u.aC*v.aC:Int):Rat):=by push_cast;grind
   have e2:(c.top:Rat) / (c.aC:Rat)*((c.top:Rat) / (c.aC:Rat))=((c.top*c.top:Int):Rat) / ((c.aC*c.aC:Int):Rat):=by push_cast;grind
   rw[e1,e2,EH (Int.mul_pos (by lia) (by lia)) (Int.mul_pos (by lia) (by lia)),←Int.mul_assoc,←Int.mul_assoc]
  by_cases q5:tooMuch (n.af.getD k p0) (n.af.getD (n.af.getD k p0).a.toNat p0) (n.af.getD (n.af.getD k p0).b.toNat p0)=true
  ·rw[if_pos q5,if_pos (tm.mp q5)];rfl
  ·rw[if_neg q5,if_neg (fun z=>q5 (tm.mpr z))];rfl
 ·rw[if_neg (fun e=>h3 (pp.M.mp e))]
  have kH:=(eY pp.k0 pp.k1).2.2.2.2.2.2.2.1
  have kF:=(eY pp.k0 pp.k1).2.2.2.2.2.2.2.2.1
  by_cases h4:(n.af.getD k p0).kind=8∨(n.af.getD k p0).kind=9
  ·have rc:Wh.refCount (kindOf (n.af.getD k p0).kind)=1:=by
    unfold Wh.refCount
    rw[if_neg (fun e=>h3 (pp.M.mp e)),if_pos (h4.imp kH.mpr kF.mpr)]
   have rp:(aF (n.af.getD k p0)).refs=[(n.af.getD k p0).c.toNat]:=by
    unfold aF
    dsimp only
    rw[if_neg (fun e=>h3 (pp.M.mp e)),if_pos rc]
   have mf:cE n.af k=(decide ((n.af.getD k p0).c<(k:Int))&&decide (kindAt n.af (n.af.getD k p0).c≠3)):=by
    unfold cE
    dsimp only
    rw[if_neg (fun q=>q h4)]
   rw[rp,List.any_cons,List.any_nil,Bool.or_false,MK pn (Nat.le_of_lt hk) pp.c0,mf]
   cases q:(decide ((n.af.getD k p0).c<(k:Int))&&decide (kindAt n.af (n.af.getD k p0).c≠3)) with
   |false=>rfl
   |true=>
    rw[if_neg (by simp),if_neg h3]
    rfl
  ·have rc:Wh.refCount (kindOf (n.af.getD k p0).kind)=0:=by
    unfold Wh.refCount
    rw[if_neg (fun e=>h3 (pp.M.mp e)),if_neg (fun z=>h4 (z.imp kH.mp kF.mp))]
   have rp:(aF (n.af.getD k p0)).refs=[]:=by
    unfold aF
    dsimp only
    rw[if_neg (fun e=>h3 (pp.M.mp e)),if_neg (by rw[rc];decide)]
   have mf:cE n.af k=true:=by
    unfold cE
    dsimp only
    rw[if_pos h4]
   rw[rp,mf,if_neg (by simp),if_neg h3]
   rfl
def tell:Option (Nat×Nat)→List Int
 |none=>[]
 |some x=>[(x.1:Int),(x.2:Int)]
theorem Jl(hl:0≤n.last):fault n=tell (ao n).wrong:=by
 unfold Wh.Net.wrong
 rw[cR,List.findSome?_map]
 have key:∀f,f≤n.af.length→fH n f=tell (((List.range n.af.length).drop (n.af.length - f)).findSome? ((fun(p:Nat×Wh.Elem)=>if(ao n).wrongAt p.1 p.2=0 then none else some (p.1,(ao n).wrongAt p.1 p.2)) ∘ fun k=>(k,aF (n.af.getD k p0)))):=by
  intro f
  induction f with
  |zero=>
   intro _
   rw[Nat.sub_zero,List.drop_of_length_le (by simp)]
   rfl
  |succ f ih=>
   intro hf
   have ih:=ih (by lia)
   have hk:n.af.length - (f+1)<n.af.length:=by lia
   have e:(List.range n.af.length).drop (n.af.length - (f+1))=(n.af.length - (f+1))::(List.range n.af.length).drop (n.af.length - f):=by
    rw[List.drop_eq_getElem_cons (by rw[List.length_range];exact hk),List.getElem_range]
    congr 2
    lia
   rw[e,List.findSome?_cons]
   unfold fH
   dsimp only
   rw[Jk pn hl hk]
   have e3:((fun(p:Nat×Wh.Elem)=>if(ao n).wrongAt p.1 p.2=0 then none else some (p.1,(ao n).wrongAt p.1 p.2)) ∘ fun k=>(k,aF (n.af.getD k p0))) (n.af.length - (f+1))=if(ao n).wrongAt (n.af.length - (f+1)) (aF (n.af.getD (n.af.length - (f+1)) p0))=0 then none else some (n.af.length - (f+1),(ao n).wrongAt (n.af.length - (f+1)) (aF (n.af.getD (n.af.length - (f+1)) p0))):=rfl
   rw[e3]
   by_cases q:(ao n).wrongAt (n.af.length - (f+1)) (aF (n.af.getD (n.af.length - (f+1)) p0))=0
   ·rw[if_pos q,if_neg (by rw[q];simp),ih]
   ·rw[if_neg q,if_pos (by lia)]
    rfl
 have:=key n.af.length (Nat.le_refl _)
 rw[Nat.sub_self,List.drop_zero] at this
 exact this
end
def left(L:Wh.Law):List (Nat×Rat)×List (Nat×Rat):=(L.terms,L.byS)
theorem Jm(N:Wh.Net)(G G':Wh.Setting)(ho:∀k,G.on k=G'.on k)(k:Nat)(x:Wh.Elem):(N.lawsOf G k x).map left=(N.lawsOf G' k x).map left:=by
 unfold Wh.Net.lawsOf
 dsimp only
 cases x.kind <;>dsimp only <;>try rfl
 rw[ho k]
 split <;>rfl
theorem Jn(N:Wh.Net)(G G':Wh.Setting)(ho:∀k,G.on k=G'.on k):(N.laws G).map left=(N.laws G').map left:=by
 unfold Wh.Net.laws
 rw[List.map_append,List.map_append]
 congr 1
 rw[List.map_flatMap,List.map_flatMap]
 congr 1
 funext p
 exact Jm N G G' ho p.1 p.2
theorem Hk(N:Wh.Net)(G G':Wh.Setting)(ho:∀k,G.on k=G'.on k)(s:Rat):((N.rows G s).map fun(r:Wh.Row)=>r.1)=(N.rows G' s).map fun(r:Wh.Row)=>r.1:=by
 unfold Wh.Net.rows
 rw[List.map_map,List.map_map]
 have e:∀G:Wh.Setting,(N.laws G).map ((fun(r:Wh.Row)=>r.1) ∘ fun(l:Wh.Law)=>l.row N.unknowns s)=((N.laws G).map left).map fun x=>x.2.foldl (fun(r:List Rat) (t:Nat×Rat)=>Wh.addAt r t.1 (s*t.2)) (x.1.foldl (fun(r:List Rat) (t:Nat×Rat)=>Wh.addAt r t.1 t.2) (List.replicate N.unknowns 0)):=fun G=>by
  rw[List.map_map]
  rfl
 rw[e G,e G',Jn N G G' ho]
theorem ML{n:Nw}(R:Right n){k:Int}(h0:0≤k):WhB.isSource (ao n) k.toNat=gf n k:=by
 unfold WhB.isSource gf
 by_cases h:k<n.af.length
 ·obtain⟨e,e0,e1⟩:=Bt R.pn h0 h
  rw[e,decide_eq_true h,Bool.true_and]
  have kV:=(eY e0 e1).2.2.2.1
  have kI:=(eY e0 e1).2.2.2.2.1
  rw[Bool.eq_iff_iff]
  simp[kV,kI]
 ·rw[decide_eq_false h]
  have:(ao n).kindAt k.toNat=none:=by
   unfold Wh.Net.kindAt
   show((n.af.map aF)[k.toNat]?).map _=none
   rw[List.getElem?_eq_none (by rw[lMp];lia)]
   rfl
  rw[this]
  rfl
theorem MM{n:Nw}(R:Right n){what k:Int}(w0:0≤what)(h0:0≤k):WhB.thereIs (ao n) what.toNat k.toNat=fC n what k:=by
 unfold WhB.thereIs fC Wh.Net.quantity
 have nn:=R.nodes
 have lp:=R.l1
 by_cases hw0:what=0
 ·subst hw0
  rw[if_pos rfl,if_pos (show Int.toNat 0=0 from rfl)]
  show(true&&_)=_
  rw[Bool.true_and]
  by_cases h:k≤n.last
  ·rw[decide_eq_true h,if_pos (by lia)];rfl
  ·rw[decide_eq_false h,if_neg (by lia)];rfl
 ·rw[if_neg hw0,if_neg (show ¬what.toNat=0 by lia)]
  by_cases hw:what=1∨what=2
  ·rw[if_pos hw,decide_eq_true (show what.toNat≤2 by lia),Bool.true_and]
   by_cases h:k<n.af.length
   ·have hk:k.toNat<n.af.length:=by lia
    rw[R.elem hk,decide_eq_true h,Bool.true_and]
    dsimp only
    have pp:=R.p hk
    unfold kindAt
    by_cases h3:(n.af.getD k.toNat p0).kind=3
    ·rw[if_pos (show(aF (n.af.getD k.toNat p0)).kind= .M from pp.M.mpr h3),decide_eq_false (fun z=>z h3)]
     rfl
    ·rw[if_neg (show ¬(aF (n.af.getD k.toNat p0)).kind= .M from fun z=>h3 (pp.M.mp z)),decide_eq_true (show(n.af.getD k.toNat p0).kind≠3 from h3)]
     rcases hw with rfl |rfl
     ·rfl
     ·rfl
   ·rw[decide_eq_false h]
    have:(ao n).elems[k.toNat]? =none:=by
     show(n.af.map aF)[k.toNat]? =none
     rw[List.getElem?_eq_none (by rw[lMp];lia)]
    rw[this]
    rfl
  ·rw[if_neg hw,decide_eq_false (show ¬what.toNat≤2 by lia),Bool.false_and]
structure Nk(n:Nw)(st:List Bool)(r:List Nat)(src:Int)(d:bw)(tops:List bw):Prop where
 len:tops.length=(ao n).unknowns
 F6:Trim d
 Qq:d≠[]
 trim:∀c,c<(ao n).unknowns→Trim (tops.getD c [])
 ex:∃q:Rat,q≠0∧bK d=PF.const q*pS ((ao n).determinant (Wh.alone r src.toNat))∧∀c,c<(ao n).unknowns→bK (tops.getD c [])=PF.const q*pS ((ao n).numerator (Wh.alone r src.toNat) c)
theorem qF{n:Nw}(R:Right n){st:List Bool}{r:List Nat}(h:nA 0 n.af.length st r)(D0:(det (ao n).unknowns (Sm n ((ao n).rest r) 0)).f 0≠0){src:Int}(h0:0≤src)(hs:gf n src=true):
  ∃d tops,sol (rows (bN n st src))=some (d,tops)∧Nk n st r src d tops:=by
 have S:=mr R h h0 hs
 have X0:bK (bN n st src).s=XX:=rfl
 have sp:=CZ R S
 rw[X0] at sp
 rcases sp with⟨d,tops,e,tl,td,dn,tt,q,hq,hd,ht⟩ |⟨_,z,_⟩
 ·refine⟨d,tops,e,tl,td,dn,tt,q,hq,?_,fun c hc=> ?_⟩
  ·rw[hd,xp R]
  ·rw[ht c hc,Bq R _ hc]
 ·exfalso
  refine D0 ?_
  have e1:=EE R ((ao n).rest r) 0 0 0 rfl
  have e2:=EE R (Wh.alone r src.toNat) XX 0 0 (ME 0)
  rw[←e1,Hk (ao n) ((ao n).rest r) (Wh.alone r src.toNat) (fun _=>rfl) 0,e2,z]
  rfl
theorem oA{n:Nw}(R:Right n){st:List Bool}{r:List Nat}{src:Int}{d:bw}{tops:List bw}(D:Nk n st r src d tops){q:Rat}(ht:∀c,c<(ao n).unknowns→bK (tops.getD c [])=PF.const q*pS ((ao n).numerator (Wh.alone r src.toNat) c)){v:Int}(h0:0≤v)(h1:v≤n.last):
  Trim (cz (d,tops) v)∧bK (cz (d,tops) v)=PF.const q*pS ((ao n).voltageOver (Wh.alone r src.toNat) v.toNat):=by
 unfold cz Wh.Net.voltageOver
 by_cases h:0<v
 ·rw[if_pos h,if_neg (by lia)]
  have nl:=jk n
  have e:v.toNat - 1=(v - 1).toNat:=by lia
  rw[e]
  exact⟨D.trim _ (by lia),ht _ (by lia)⟩
 ·rw[if_neg h,if_pos (by lia)]
  refine⟨om,?_⟩
  show(0:PF)=_* 0
  grind
theorem EI{n:Nw}(R:Right n){st:List Bool}{r:List Nat}{src:Int}{d:bw}{tops:List bw}(D:Nk n st r src d tops){q:Rat}(ht:∀c,c<(ao n).unknowns→bK (tops.getD c [])=PF.const q*pS ((ao n).numerator (Wh.alone r src.toNat) c)){what k:Int}(w0:0≤what)(k0:0≤k)(hq:fC n what k=true):
  Trim (fM (bN n st src) (d,tops) what k)∧bK (fM (bN n st src) (d,tops) what k)=PF.const q*pS ((ao n).over (Wh.alone r src.toNat) what.toNat k.toNat):=by
 unfold fC at hq
 unfold fM Wh.Net.over
 by_cases h0:what=0
 ·rw[if_pos h0] at hq
  rw[if_pos h0,if_pos (by lia)]
  exact oA R D ht k0 (of_decide_eq_true hq)
 ·rw[if_neg h0] at hq
  rw[if_neg h0,if_neg (show ¬what.toNat=0 by lia)]
  by_cases hw:what=1∨what=2
  ·rw[if_pos hw] at hq
   obtain⟨q1,q2⟩:=(Bool.and_eq_true _ _).mp hq
   have q1:=of_decide_eq_true q1
   have q2:=of_decide_eq_true q2
   have hk:k.toNat<n.af.length:=by lia
   unfold kindAt at q2
   have pp:=R.p hk
   have ab:=R.ab hk q2
   rw[R.elem hk]
   dsimp only
   by_cases h1:what=1
   ·rw[if_pos h1,if_pos (by lia)]
    unfold gv
    show Trim (tops.getD ((places n).getD k.toNat 0).toNat [])∧bK (tops.getD ((places n).getD k.toNat 0).toNat [])=_
    rw[R.place hk,Int.toNat_natCast]
    exact⟨D.trim _ (lO R hk q2),ht _ (lO R hk q2)⟩
   ·rw[if_neg h1,if_neg (show ¬what.toNat=1 by lia)]
    have nc:Wh.nodeCount (kindOf (n.af.getD k.toNat p0).kind)=2∨Wh.nodeCount (kindOf (n.af.getD k.toNat p0).kind)=4:=by
     unfold Wh.nodeCount
     rw[if_neg (fun e=>q2 (pp.M.mp e))]
     split
     ·exact .inr rfl
     ·exact .inl rfl
    obtain⟨n0,n1⟩:=b9 (rfl:kindOf (n.af.getD k.toNat p0).kind=_) nc
    rw[n0,n1]
    unfold gw pB
    refine⟨pC _ _,?_⟩
    rw[oo,Ga]
    show bK (cz (d,tops) (n.af.getD k.toNat p0).a) - bK (cz (d,tops) (n.af.getD k.toNat p0).b)=_
    rw[(oA R D ht pp.a0 ab.1).2,(oA R D ht pp.b0 ab.2).2]
    grind
  ·rw[if_neg hw] at hq
   cases hq
theorem right_of{l:List Int}(h:bB l=[]):Right (aW l)∧jf l=true:=by
 unfold bB at h
 cases e:jf l with
 |false=>rw[e,if_pos rfl] at h;cases h
 |true=>
  rw[e,if_neg (by simp)] at h
  have N:=LM e
  refine⟨⟨N.l1,N.l8,N.af,N.pn,?_⟩,rfl⟩
  cases f:fault (aW l) with
  |nil=>rfl
  |cons x xs=>rw[f] at h;cases h
theorem Jo(l:List Int)(f:Wh.Net→WhB.Answer):WhBNeutral.shown (WhB.ofNet l f)=if bB l≠[] then bB l else WhBNeutral.shown (f (ao (aW l))):=by
 unfold WhB.ofNet
 rw[MG]
 cases e:jf l with
 |false=>
  have er:bB l=[-1]:=by
   unfold bB
   rw[if_pos e]
  rw[er,if_pos rfl,if_pos (by simp)]
  rfl
 |true=>
  have N:=LM e
  have er:bB l=match fault (aW l) with
   |[]=>[]
   |f=> -2::f:=by
   unfold bB
   rw[if_neg (by rw[e];simp)]
   all_goals cases fault (aW l) <;>rfl
  rw[if_neg (by simp),MH N.m7]
  rw[Jl N.pn (by have:=N.l1;lia)] at er
  cases w:(ao (aW l)).wrong with
  |none=>
   rw[w] at er
   have er:bB l=[]:=er
   rw[er,if_neg (by simp)]
  |some x=>
   rw[w] at er
   have er:bB l=[-2,(x.1:Int),(x.2:Int)]:=er
   rw[er,if_pos (by simp)]
   rfl
theorem d5(a:Int)(l:bw):gS (a::l)=a.natAbs+gS l:=by unfold gS;simp
theorem KS:gS []=0:=rfl
theorem oB:∀l r:bw,gS (iB l r)≤gS l+gS r
 |[],r=>by
  show gS r≤0+gS r
  lia
 |a::l,[]=>by
  show gS (a::l)≤gS (a::l)+0
  lia
 |a::l,b::r=>by
  show gS ((a+b)::iB l r)≤_
  rw[d5,d5,d5]
  have:=oB l r
  have:=Int.natAbs_add_le a b
  lia
theorem Ak(c:Int):∀l:bw,gS (l.map fun y=>c*y)=c.natAbs*gS l
 |[]=>by
  show 0=c.natAbs*0
  lia
 |a::l=>by
  rw[List.map_cons,d5,d5,Ak c l,Int.natAbs_mul,Nat.mul_add]
theorem xu:∀l r:bw,gS (mulL l r)≤gS l*gS r
 |[],r=>by
  show 0≤_
  lia
 |a::l,r=>by
  show gS (iB (r.map fun y=>a*y) (0::mulL l r))≤_
  refine Nat.le_trans (oB _ _) ?_
  rw[Ak,d5,d5,Nat.add_mul]
  have:=xu l r
  have e:(0:Int).natAbs=0:=rfl
  lia
theorem C7:∀(l:bw) (k:Nat),gS (l.take k)≤gS l
 |[],k=>by simp[gS]
 |a::l,0=>by
  show 0≤_
  lia
 |a::l,k+1=>by
  rw[List.take_succ_cons,d5,d5]
  have:=C7 l k
  lia
theorem Bu(l:bw):gS (G6 l)≤gS l:=C7 _ _
theorem Bv(l:bw):gS (Kf l)=gS l:=by
 unfold gS Kf
 rw[List.map_map]
 congr 1
 apply List.map_congr_left
 intro x _
 exact Int.natAbs_neg x
theorem Bw:∀{l:bw} {x:Int},x∈l→x.natAbs≤gS l
 |a::l,x,h=>by
  rw[d5]
  rcases List.mem_cons.mp h with rfl |h
  ·lia
  ·have:=Bw h
   lia
theorem C8(l r:bw):gS (dO l r)≤gS l*gS r:=by
 unfold dO
 split
 ·show 0≤_
  lia
 ·exact xu l r
theorem KU(l r:bw):(mulL l r).length≤l.length+r.length:=by
 by_cases h1:l=[]
 ·subst h1;simp[mulL]
 ·by_cases h2:r=[]
  ·subst h2
   have:∀l:bw,(mulL l []).length≤l.length:=by
    intro l
    induction l with
    |nil=>simp[mulL]
    |cons a l ih=>
     show(iB [] (0::mulL l [])).length≤_
     rw[gy]
     simp
     lia
   exact Nat.le_trans (this l) (by lia)
  ·rw[dG l r h1 h2];lia
theorem Bd.mono{f:PF}{d e B C:Nat}(h:Bd f d B)(hd:d≤e)(hB:B≤C):Bd f e C:=by
 obtain⟨l,t,e1,h1,h2⟩:=h.ex
 exact⟨l,t,e1,by lia,by lia⟩
theorem C9(l:bw){d B:Nat}(hl:l.length≤d+1)(hB:gS l≤B):Bd (bK l) d B:=⟨G6 l,rR l,Bb l,Nat.le_trans (Ba l) hl,Nat.le_trans (Bu l) hB⟩
theorem Bd.add{f g:PF}{d B C:Nat}(hf:Bd f d B)(hg:Bd g d C):Bd (f+g) d (B+C):=by
 obtain⟨l,_,rfl,l1,l2⟩:=hf.ex
 obtain⟨m,_,rfl,m1,m2⟩:=hg.ex
 rw[←wQ]
 refine C9 _ ?_ ?_
 ·rw[gy];lia
 ·have:=oB l m
  lia
theorem Bd.neg{f:PF}{d B:Nat}(hf:Bd f d B):Bd (- f) d B:=by
 obtain⟨l,_,rfl,l1,l2⟩:=hf.ex
 rw[←Bc]
 refine C9 _ ?_ ?_
 ·rw[wm];exact l1
 ·rw[Bv];exact l2
theorem Bd.sub{f g:PF}{d B C:Nat}(hf:Bd f d B)(hg:Bd g d C):Bd (f - g) d (B+C):=by
 have e:f - g=f+ - g:=by grind
 rw[e];exact hf.add hg.neg
theorem Bd.mul{f g:PF}{d e B C:Nat}(hf:Bd f d B)(hg:Bd g e C):Bd (f*g) (d+e) (B*C):=by
 obtain⟨l,_,rfl,l1,l2⟩:=hf.ex
 obtain⟨m,_,rfl,m1,m2⟩:=hg.ex
 rw[←oq]
 refine C9 _ ?_ ?_
 ·by_cases h1:l=[]
  ·subst h1;simp[mulL]
  ·by_cases h2:m=[]
   ·subst h2
    have:=KU l []
    simp at this
    lia
   ·rw[dG l m h1 h2];lia
 ·exact Nat.le_trans (xu l m) (Nat.mul_le_mul l2 m2)
theorem Bx(d:Nat):Bd 0 d 0:=⟨[],om,rfl,by simp,Nat.le_refl _⟩
theorem EJ(d:Nat):Bd 1 d 1:=by
 rw[←rW]
 exact C9 [1] (by simp) (by decide)
theorem Oz(i:Nat):Bd (sg i) 0 1:=by
 unfold sg
 split
 ·exact EJ 0
 ·exact(EJ 0).neg
theorem By(d B:Nat):∀(n:Nat) {f:Nat→PF},(∀i,i<n→Bd (f i) d B)→Bd (a7 n f) d (n*B)
 |0,_,_=>by
  rw[Nat.zero_mul]
  exact Bx d
 |n+1,f,h=>by
  have:=(By d B n fun i hi=>h i (by lia)).add (h n (by lia))
  rw[Nat.succ_mul]
  exact this
def db(B:Nat):Nat→Nat
 |0=>1
 |n+1=>(n+1)*(B*db B n)
theorem xw(B:Nat):∀(n:Nat) {A:Nat→Nat→PF},(∀i j,i<n→j<n→Bd (A i j) 1 B)→Bd (det n A) n (db B n)
 |0,_,_=>EJ 0
 |n+1,A,h=>by
  rw[cB]
  refine By (n+1) (B*db B n) (n+1) fun i hi=> ?_
  have h2:=(Oz i).mul ((h i 0 hi (by lia)).mul (xw B n fun a b ha hb=>h _ _ (rO ha) (by lia):Bd (det n (del i A)) n (db B n)))
  exact h2.mono (by lia) (by lia)
theorem Jp{b:Nat}:∀n,n≤32→db (2^b) n≤2^((b+5)*n)
 |0,_=>by
  show 1≤_
  exact Nat.one_le_two_pow
 |n+1,h=>by
  have ih:=Jp (b:=b) n (by lia)
  show(n+1)*(2^b*db (2^b) n)≤_
  have e:2^((b+5)*(n+1))=2^5*(2^b*2^((b+5)*n)):=by
   rw[←Nat.pow_add,←Nat.pow_add]
   congr 1
   rw[Nat.mul_add]
   lia
  rw[e]
  exact Nat.mul_le_mul (by lia) (Nat.mul_le_mul (Nat.le_refl _) ih)
theorem Gp{b m n:Nat}(h:m≤n):db (2^b) m≤db (2^b) n:=by
 induction h with
 |refl=>exact Nat.le_refl _
 |step h ih=>
  rename_i q
  refine Nat.le_trans ih ?_
  show db (2^b) q≤(q+1)*(2^b*db (2^b) q)
  have h1:1≤2^b:=Nat.one_le_two_pow
  have h2:db (2^b) q≤2^b*db (2^b) q:=Nat.le_mul_of_pos_left _ (by lia)
  exact Nat.le_trans h2 (Nat.le_mul_of_pos_left _ (by lia))
theorem Bd.list{l:bw}{d B:Nat}(t:Trim l)(h:Bd (bK l) d B):l.length≤d+1∧gS l≤B:=by
 obtain⟨m,tm,e,h1,h2⟩:=h.ex
 rw[wk t tm e.symm]
 exact⟨h1,h2⟩
structure LB(w:Int)(m c:Nat)(ts:List Term):Prop where
 at_:∀t∈ts,0≤t.1∧t.1≤w∧t.2.length≤m∧gS t.2≤c
theorem LB.app{w:Int}{m c:Nat}{a b:List Term}(ha:LB w m c a)(hb:LB w m c b):LB w m c (a ++ b):=⟨fun t ht=>(List.mem_append.mp ht).elim (ha.at_ t) (hb.at_ t)⟩
theorem LB.mono{w:Int}{m c m' c':Nat}{a:List Term}(ha:LB w m c a)(hm:m≤m')(hc:c≤c'):LB w m' c' a:=⟨fun t ht=>by
 obtain⟨h1,h2,h3,h4⟩:=ha.at_ t ht
 exact⟨h1,h2,by lia,by lia⟩⟩
theorem Gq(z:Int):gS (cst z)=z.natAbs:=by
 unfold cst
 split
 ·rename_i h
  rw[h];rfl
 ·rw[d5];rfl
theorem Gr(z:Int):(cst z).length≤1:=by
 unfold cst
 split <;>simp
theorem Jq(l r:bw)(h:r.length≤1):(dO l r).length≤l.length:=by
 unfold dO
 split
 ·simp
 ·rename_i q
  have h1:l≠[]:=fun e=>q (.inl e)
  have h2:r≠[]:=fun e=>q (.inr e)
  rw[dG l r h1 h2];lia
theorem Jr(l r:bw)(h:r.length≤2):(dO l r).length≤l.length+1:=by
 unfold dO
 split
 ·simp
 ·rename_i q
  have h1:l≠[]:=fun e=>q (.inl e)
  have h2:r≠[]:=fun e=>q (.inr e)
  rw[dG l r h1 h2];lia
theorem LB.Hl{w:Int}{m c:Nat}{a:List Term}(ha:LB w m c a)(z:Int):LB w m (c*z.natAbs) (md a (cst z)):=⟨fun t ht=>by
 obtain⟨u,hu,rfl⟩:=List.mem_map.mp ht
 obtain⟨h1,h2,h3,h4⟩:=ha.at_ u hu
 refine⟨h1,h2,Nat.le_trans (Jq _ _ (Gr z)) h3,Nat.le_trans (C8 _ _) ?_⟩
 rw[Gq]
 exact Nat.mul_le_mul_right _ h4⟩
theorem LB.OA{w:Int}{c:Nat}{a:List Term}(ha:LB w 1 c a){s:bw}(hs:s=[]∨s=[0,1]):LB w 2 c (md a s):=⟨fun t ht=>by
 obtain⟨u,hu,rfl⟩:=List.mem_map.mp ht
 obtain⟨h1,h2,h3,h4⟩:=ha.at_ u hu
 have l2:s.length≤2:=by rcases hs with rfl |rfl <;>simp
 have n1:gS s≤1:=by rcases hs with rfl |rfl <;>decide
 refine⟨h1,h2,Nat.le_trans (Jr _ _ l2) (by lia),Nat.le_trans (C8 _ _) ?_⟩
 exact Nat.le_trans (Nat.mul_le_mul h4 n1) (by lia)⟩
theorem eZ(a:List Term)(p:bw):(md a p).length=a.length:=by unfold md;simp
theorem qG(a b:Int):(CI a b).length≤2:=by
 unfold CI
 split <;>split <;>simp
theorem gZ{w a b:Int}(ha:a≤w)(hb:b≤w):LB w 1 1 (CI a b):=⟨fun t ht=>by
 unfold CI at ht
 rcases List.mem_append.mp ht with h |h
 ·split at h
  ·rw[List.mem_singleton.mp h]
   exact⟨by show 0≤a - 1;lia,by show a - 1≤w;lia,by simp,(show gS [1]≤1 by decide)⟩
  ·cases h
 ·split at h
  ·rw[List.mem_singleton.mp h]
   exact⟨by show 0≤b - 1;lia,by show b - 1≤w;lia,by simp,(show gS [-1]≤1 by decide)⟩
  ·cases h⟩
structure Hm(n:Nw)(g:gk):Prop where
 aO:g.aO=n
 s:g.s=[]∨g.s=[0,1]
 dr:∀k,(g.drives.getD k (0,1)).1.natAbs≤1000000∧(g.drives.getD k (0,1)).2.natAbs≤1000000
section
variable {n:Nw}(R:Right n){g:gk}(S:Hm n g)
include R
theorem Js{j:Int}(h0:0≤j)(hj:j<n.af.length)(h3:kindAt n.af j≠3):0≤(places n).getD j.toNat 0∧(places n).getD j.toNat 0+1≤width n:=by
 rw[R.place (show j.toNat<n.af.length by lia),R.ue]
 have:=lO R (show j.toNat<n.af.length by lia) h3
 lia
theorem Gs:n.last≤width n:=by
 rw[R.ue]
 have:=jk n
 have:=R.l1
 lia
include S
theorem Bz{j:Int}(h0:0≤j)(hj:j<n.af.length)(h3:kindAt n.af j≠3):LB (width n) 1 1 (cur g j):=⟨fun t ht=>by
 unfold cur at ht
 rw[S.aO] at ht
 rw[List.mem_singleton.mp ht]
 have:=Js R h0 hj h3
 exact⟨this.1,by show(places n).getD j.toNat 0≤_;lia,by simp,(show gS [1]≤1 by decide)⟩⟩
omit S in
theorem j7{p:Part}(hp:Pn p){m:Nat}{l r:List Term}(hl:LB (width n) m 1 l)(hr:LB (width n) m 1 r):LB (width n) m 1000000 (jh p l r):=by
 unfold jh
 have b:p.aC.natAbs≤1000000:=by have:=hp.b1;have:=hp.b2;lia
 refine LB.app ((hl.Hl p.aC).mono (Nat.le_refl _) (by lia)) ((hr.Hl (-p.top)).mono (Nat.le_refl _) ?_)
 rw[Int.natAbs_neg]
 have:=hp.t
 lia
theorem EK{k:Nat}{m:Nat}(hm:1≤m){l:List Term}(hl:LB (width n) m 1 l):LB (width n) m 1000000 (CJ g k l):=by
 unfold CJ
 obtain⟨d1,d2⟩:=S.dr k
 refine LB.app ((hl.Hl _).mono (Nat.le_refl _) (by lia)) ⟨fun t ht=> ?_⟩
 rw[S.aO] at ht
 rw[List.mem_singleton.mp ht]
 refine⟨?_,Int.le_refl _,Nat.le_trans (Gr _) hm,?_⟩
 ·show 0≤width n
  rw[R.ue];lia
 ·show gS (cst _)≤_
  rw[Gq];exact d1
omit R S in
theorem Am:∀(sh:List (Int×Int×Int)) (c:Int),0≤c→(∀x∈sh,1≤x.2.2∧x.2.2≤1000000)→sh.foldl (fun c x=>c*x.2.2) c≤c*1000000^sh.length∧0≤sh.foldl (fun c x=>c*x.2.2) c
 |[],c,hc,_=>⟨by simp,hc⟩
 |x::sh,c,hc,h=>by
  obtain⟨x1,x2⟩:=h x List.mem_cons_self
  have nn:0≤c*x.2.2:=Int.mul_nonneg hc (by lia)
  obtain⟨h1,h2⟩:=Am sh (c*x.2.2) nn fun y hy=>h y (List.mem_cons_of_mem _ hy)
  refine⟨Int.le_trans h1 ?_,h2⟩
  rw[List.length_cons,Int.pow_succ,←Int.mul_assoc,Int.mul_assoc,Int.mul_comm x.2.2,←Int.mul_assoc]
  refine Int.mul_le_mul_of_nonneg_left x2 (Int.mul_nonneg hc (Int.pow_nonneg (by decide)))
omit R S in
theorem yN(ps:List Part)(k:Nat):(bu ps k).length≤ps.length+1:=by
 unfold bu
 rw[List.length_cons,lMp]
 have:=List.length_filter_le (fun p=>decide (p.kind=3∧((k:Int)=p.a∨(k:Int)=p.b))) ps
 lia
omit R S in
theorem BA{α β:Type}{f:α→List β}{c:Nat}:∀l:List α,(∀x∈l,(f x).length≤c)→(l.flatMap f).length≤l.length*c
 |[],_=>by simp
 |x::l,h=>by
  rw[List.flatMap_cons,List.length_append,List.length_cons,Nat.succ_mul]
  have:=h x List.mem_cons_self
  have:=BA l fun y hy=>h y (List.mem_cons_of_mem _ hy)
  lia
theorem KW{k:Nat}(hk:k<n.af.length)(h2:(n.af.getD k p0).kind=2):LB (width n) 2 (2^240) (me g k)∧(me g k).length≤64:=by
 have sin:=xi R h2 hk
 have sl:=yN n.af k
 have pk:=R.af
 have ab:=R.ab hk (by lia)
 have lw:=Gs R
 have cp:=Am (bu n.af k) 1 (by decide) (fun x hx=>⟨(sin x hx).2.2.1,(sin x hx).2.2.2.1⟩)
 have cb:(common (bu n.af k)).natAbs≤1000000^11:=by
  have h1:(1000000:Nat)^(bu n.af k).length≤1000000^11:=Nat.pow_le_pow_right (by decide) (by lia)
  have h3:common (bu n.af k)≤((1000000^(bu n.af k).length:Nat):Int):=by
   have:=cp.1
   rw[Int.one_mul] at this
   rw[Int.natCast_pow]
   exact this
  have h4:0≤common (bu n.af k):=cp.2
  generalize (1000000:Nat)^(bu n.af k).length=X at h1 h3
  generalize (1000000:Nat)^11=Y at h1⊢
  lia
 have cpos:0<common (bu n.af k):=qE _ 1 (by decide) fun x hx=>by have:=sin x hx;lia
 unfold me
 dsimp only
 rw[S.aO]
 refine⟨LB.app (((gZ (by lia) (by lia)).Hl _).mono (by lia) ?_) ⟨fun t ht=> ?_⟩,?_⟩
 ·refine Nat.le_trans (Nat.mul_le_mul_left 1 cb) ?_
  decide +kernel
 ·obtain⟨x,hx,ht⟩:=List.mem_flatMap.mp ht
  obtain⟨s1,s2,s3,s4,s5⟩:=sin x hx
  have h3:kindAt n.af x.1≠3:=by
   unfold bu at hx
   rcases List.mem_cons.mp hx with rfl |hx
   ·unfold kindAt
    show(n.af.getD ((k:Int)).toNat p0).kind≠3
    rw[Int.toNat_natCast,h2];decide
   ·obtain⟨p,hp,rfl⟩:=List.mem_map.mp hx
    obtain⟨hm,hc⟩:=List.mem_filter.mp hp
    have hc:=of_decide_eq_true hc
    obtain⟨i,hi,e⟩:=List.getElem_of_mem hm
    have ep:n.af.getD i p0=p:=by rw[gDe,List.getElem?_eq_getElem hi,e];rfl
    have cpp:=R.KH hi (by rw[ep];exact hc.1)
    rw[ep] at cpp
    show kindAt n.af (p.a+p.b - (k:Int))≠3
    rcases hc.2 with q |q
    ·have e2:p.a+p.b - (k:Int)=p.b:=by lia
     rw[e2,cpp.2.2.2];decide
    ·have e2:p.a+p.b - (k:Int)=p.a:=by lia
     rw[e2,cpp.2.1.2];decide
  have fd:((common (bu n.af k)).fdiv x.2.2).natAbs≤1000000^11:=by
   have e:(common (bu n.af k)).fdiv x.2.2=common (bu n.af k) / x.2.2:=Int.fdiv_eq_ediv_of_nonneg _ (by lia)
   rw[e]
   have h1:0≤common (bu n.af k) / x.2.2:=Int.ediv_nonneg (by lia) (by lia)
   have h2:common (bu n.af k) / x.2.2≤common (bu n.af k):=Int.ediv_le_self _ (by lia)
   lia
  have lbt:=(((Bz R S s1 s2 h3).OA S.s).Hl (-x.2.1*(common (bu n.af k)).fdiv x.2.2)).at_ t ht
  refine⟨lbt.1,lbt.2.1,lbt.2.2.1,Nat.le_trans lbt.2.2.2 ?_⟩
  rw[Nat.one_mul,Int.natAbs_mul,Int.natAbs_neg]
  refine Nat.le_trans (Nat.mul_le_mul s5 fd) ?_
  decide +kernel
 ·rw[List.length_append,eZ]
  have h1:=qG (n.af.getD k p0).a (n.af.getD k p0).b
  have h3:=BA (c:=1) (f:=fun x:Int×Int×Int=>md (md (cur g x.1) g.s) (cst (-x.2.1*(common (bu n.af k)).fdiv x.2.2))) (bu n.af k) (fun x _=>by rw[eZ,eZ];exact Nat.le_refl _)
  unfold iT
  lia
omit S R in
theorem dP(p:Part)(l r:List Term):(jh p l r).length=l.length+r.length:=by unfold jh;rw[List.length_append,eZ,eZ]
omit S R in
theorem qH(g:gk)(k:Nat)(l:List Term):(CJ g k l).length=l.length+1:=by unfold CJ;rw[List.length_append,eZ];rfl
theorem KY{k:Nat}(hk:k<n.af.length):∀ts∈cF g k,LB (width n) 2 (2^240) ts∧ts.length≤64:=by
 have pp:=R.p hk
 have ab:=R.ab hk
 have cdd:=R.cd hk
 have fo:=R.Ni hk
 have lw:=Gs R
 have cl:=KW R S hk
 have kk:kindAt n.af (k:Int)=(n.af.getD k p0).kind:=by
  unfold kindAt
  rw[Int.toNat_natCast]
 have ck:(n.af.getD k p0).kind≠3→LB (width n) 1 1 (cur g (k:Int)):=fun h3=>Bz R S (by lia) (by lia) (by rw[kk];exact h3)
 have big:1000000≤2^240:=by decide +kernel
 have one:1≤2^240:=by decide +kernel
 have bl:=qG (n.af.getD k p0).a (n.af.getD k p0).b
 have bl2:=qG (n.af.getD k p0).c (n.af.getD k p0).d
 have cl1:∀j,(cur g j).length=1:=fun j=>rfl
 unfold cF
 dsimp only
 rw[S.aO]
 have c0:=pp.c0
 have pl2:(n.af.getD k p0).kind=10→LB (width n) 1 1 [((places n).getD k 0+1,[1])]:=fun h10=>⟨fun t ht=>by
  rw[List.mem_singleton.mp ht]
  have h1:=Bn R hk h10
  have h2:=R.place hk
  have h3:=R.ue
  exact⟨by show 0≤(places n).getD k 0+1;lia,by show(places n).getD k 0+1≤_;lia,by simp,(show gS [1]≤1 by decide)⟩⟩
 generalize hp:n.af.getD k p0=p at *
 rcases ml pp.k0 pp.k1 with e |e |e |e |e |e |e |e |e |e |e |e |e |e
 ·have ek:p.kind.toNat=0:=by rw[e];rfl
  rw[ek]
  intro ts hts
  rw[List.mem_singleton.mp hts]
  refine⟨(j7 R pp (gZ (by lia) (by lia)) (ck (by lia))).mono (by lia) big,?_⟩
  rw[dP,cl1]
  unfold iT
  lia
 ·have ek:p.kind.toNat=1:=by rw[e];rfl
  rw[ek]
  intro ts hts
  rw[List.mem_singleton.mp hts]
  refine⟨(j7 R pp ((ck (by lia)).mono (by lia) (Nat.le_refl _)) ((gZ (by lia) (by lia)).OA S.s)).mono (by lia) big,?_⟩
  rw[dP,cl1,eZ]
  unfold iT
  lia
 ·have ek:p.kind.toNat=2:=by rw[e];rfl
  rw[ek]
  intro ts hts
  rw[List.mem_singleton.mp hts]
  exact cl e
 ·have ek:p.kind.toNat=3:=by rw[e];rfl
  rw[ek]
  intro ts hts
  cases hts
 ·have ek:p.kind.toNat=4:=by rw[e];rfl
  rw[ek]
  intro ts hts
  rw[List.mem_singleton.mp hts]
  refine⟨(EK R S (Nat.le_refl 1) (gZ (by lia) (by lia))).mono (by lia) big,?_⟩
  rw[qH]
  unfold iT
  lia
 ·have ek:p.kind.toNat=5:=by rw[e];rfl
  rw[ek]
  intro ts hts
  rw[List.mem_singleton.mp hts]
  refine⟨(EK R S (Nat.le_refl 1) (ck (by lia))).mono (by lia) big,?_⟩
  rw[qH,cl1]
  lia
 ·have ek:p.kind.toNat=6:=by rw[e];rfl
  rw[ek]
  intro ts hts
  rw[List.mem_singleton.mp hts]
  refine⟨(j7 R pp (gZ (by lia) (by lia)) (gZ (by lia) (by lia))).mono (by lia) big,?_⟩
  rw[dP]
  unfold iT A7
  lia
 ·have ek:p.kind.toNat=7:=by rw[e];rfl
  rw[ek]
  intro ts hts
  rw[List.mem_singleton.mp hts]
  refine⟨(j7 R pp (ck (by lia)) (gZ (by lia) (by lia))).mono (by lia) big,?_⟩
  rw[dP,cl1]
  unfold A7
  lia
 ·have ek:p.kind.toNat=8:=by rw[e];rfl
  rw[ek]
  intro ts hts
  rw[List.mem_singleton.mp hts]
  have ff:=fo (.inl e)
  refine⟨(j7 R pp (gZ (by lia) (by lia)) (Bz R S c0 (by lia) ff.2)).mono (by lia) big,?_⟩
  rw[dP,cl1]
  unfold iT
  lia
 ·have ek:p.kind.toNat=9:=by rw[e];rfl
  rw[ek]
  intro ts hts
  rw[List.mem_singleton.mp hts]
  have ff:=fo (.inr e)
  refine⟨(j7 R pp (ck (by lia)) (Bz R S c0 (by lia) ff.2)).mono (by lia) big,?_⟩
  rw[dP,cl1,cl1]
  lia
 ·have ek:p.kind.toNat=10:=by rw[e];rfl
  rw[ek]
  intro ts hts
  rcases List.mem_cons.mp hts with rfl |hts
  ·refine⟨(j7 R pp (gZ (by lia) (by lia)) (gZ (by lia) (by lia))).mono (by lia) big,?_⟩
   rw[dP]
   unfold iT A7
   lia
  ·rw[List.mem_singleton.mp hts]
   have h1:LB (width n) 1 1 (md (cur g (k:Int)) [-1]):=by
    have:=(ck (by lia)).Hl (-1)
    exact this
   refine⟨(j7 R pp (pl2 e) h1).mono (by lia) big,?_⟩
   rw[dP,eZ,cl1]
   simp
 ·have ek:p.kind.toNat=11:=by rw[e];rfl
  rw[ek]
  intro ts hts
  rw[List.mem_singleton.mp hts]
  refine⟨(gZ (by lia) (by lia)).mono (by lia) one,?_⟩
  unfold A7
  lia
 ·have ek:p.kind.toNat=12:=by rw[e];rfl
  rw[ek]
  intro ts hts
  rw[List.mem_singleton.mp (show ts∈[if p.top=0 then cur g (k:Int) else iT p] from hts)]
  split
  ·exact⟨(ck (by lia)).mono (by lia) one,by rw[cl1];lia⟩
  ·exact⟨(gZ (by lia) (by lia)).mono (by lia) one,by unfold iT;lia⟩
 ·have ek:p.kind.toNat=13:=by rw[e];rfl
  rw[ek]
  intro ts hts
  have hts:ts∈(if g.cQ.getD k false=true then[CJ g k (iT p)] else[cur g (k:Int)]):=hts
  split at hts
  ·rw[List.mem_singleton.mp hts]
   refine⟨(EK R S (Nat.le_refl 1) (gZ (by lia) (by lia))).mono (by lia) big,?_⟩
   rw[qH]
   unfold iT
   lia
  ·rw[List.mem_singleton.mp hts]
   exact⟨(ck (by lia)).mono (by lia) one,by rw[cl1];lia⟩
omit S in
theorem KZ(v:Int):LB (width n) 2 (2^240) (fI n v)∧(fI n v).length≤64:=by
 have one:1≤2^240:=by decide +kernel
 have pk:=R.af
 unfold fI
 rw[z4 n.af (places n) p0 0 (qh n),List.flatMap_map]
 refine⟨⟨fun t ht=> ?_⟩,?_⟩
 ·obtain⟨k,hk,ht⟩:=List.mem_flatMap.mp ht
  have hk:=List.mem_range.mp hk
  dsimp only at ht
  have pp:=R.p hk
  by_cases h3:(n.af.getD k p0).kind=3
  ·rw[if_pos h3] at ht;cases ht
  rw[if_neg h3] at ht
  have a1:=lO R hk h3
  have pl:=R.place hk
  have wd:=R.ue
  have mem1:∀(c:Prop) [Decidable c] (i:Int) (p:bw),t∈(if c then[(i,p)] else[])→t=(i,p):=fun c _ i p h=>by
   split at h
   ·exact List.mem_singleton.mp h
   ·cases h
  have fin:∀(i:Int) (z:Int),t=(i,[z])→z.natAbs=1→0≤i→i≤width n→0≤t.1∧t.1≤width n∧t.2.length≤2∧gS t.2≤2^240:=fun i z e hz h0 h1=>by
   rw[e]
   refine⟨h0,h1,by simp,?_⟩
   show gS [z]≤_
   rw[d5,KS,hz]
   exact one
  rcases List.mem_append.mp ht with ht |ht
  ·rcases List.mem_append.mp ht with ht |ht
   ·exact fin _ _ (mem1 _ _ _ ht) rfl (by lia) (by lia)
   ·exact fin _ _ (mem1 _ _ _ ht) rfl (by lia) (by lia)
  ·by_cases h10:(n.af.getD k p0).kind=10
   ·have a2:=Bn R hk h10
    rw[if_pos h10] at ht
    rcases List.mem_append.mp ht with ht |ht
    ·exact fin _ _ (mem1 _ _ _ ht) rfl (by lia) (by lia)
    ·exact fin _ _ (mem1 _ _ _ ht) rfl (by lia) (by lia)
   ·rw[if_neg h10] at ht;cases ht
 ·have l1:∀(c:Prop) [Decidable c] (t:Term),(if c then[t] else[]).length≤1:=fun c _ t=>by split <;>simp
  have:=BA (c:=4) (f:=fun k=>if(n.af.getD k p0).kind=3 then[] else(if(n.af.getD k p0).a=v then[((places n).getD k 0,[1])] else[]) ++ (if(n.af.getD k p0).b=v then[((places n).getD k 0,[-1])] else[]) ++ (if(n.af.getD k p0).kind=10 then(if(n.af.getD k p0).c=v then[((places n).getD k 0+1,[1])] else[]) ++ (if(n.af.getD k p0).d=v then[((places n).getD k 0+1,[-1])] else[]) else[])) (List.range n.af.length) (fun k _=>by
   split
   ·simp
   ·rw[List.length_append,List.length_append]
    have:=l1 ((n.af.getD k p0).a=v) ((places n).getD k 0,[1])
    have:=l1 ((n.af.getD k p0).b=v) ((places n).getD k 0,[-1])
    have h4:(if(n.af.getD k p0).kind=10 then(if(n.af.getD k p0).c=v then[((places n).getD k 0+1,[1])] else[]) ++ (if(n.af.getD k p0).d=v then[((places n).getD k 0+1,[-1])] else[]) else([]:List Term)).length≤2:=by
     by_cases h10:(n.af.getD k p0).kind=10
     ·rw[if_pos h10,List.length_append]
      have:=l1 ((n.af.getD k p0).c=v) ((places n).getD k 0+1,[1])
      have:=l1 ((n.af.getD k p0).d=v) ((places n).getD k 0+1,[-1])
      lia
     ·rw[if_neg h10]
      simp
    lia)
  rw[List.length_range] at this
  exact Nat.le_trans this (by lia)
theorem Jt:∀ts∈dh g,LB (width n) 2 (2^240) ts∧ts.length≤64:=fun ts hts=>by
 unfold dh at hts
 rw[S.aO] at hts
 rcases List.mem_append.mp hts with h |h
 ·obtain⟨v,_,rfl⟩:=List.mem_map.mp h
  exact KZ R _
 ·obtain⟨k,hk,h⟩:=List.mem_flatMap.mp h
  exact KY R S (List.mem_range.mp hk) ts h
end
theorem LN(j:Nat){w:Int}{c:Nat}:∀ts:List Term,LB w 2 c ts→Bd (Pv (ei j) ts) 1 (ts.length*c)
 |[],_=>by
  rw[List.length_nil,Nat.zero_mul]
  exact Bx 1
 |t::ts,h=>by
  obtain⟨h1,h2,h3,h4⟩:=h.at_ t List.mem_cons_self
  have ih:=LN j ts ⟨fun u hu=>h.at_ u (List.mem_cons_of_mem _ hu)⟩
  have b1:Bd (bK t.2*ei j t.1.toNat) 1 c:=by
   unfold ei
   split
   ·have e:bK t.2*(1:PF)=bK t.2:=by grind
    rw[e]
    exact C9 t.2 h3 h4
   ·have e:bK t.2*(0:PF)=0:=by grind
    rw[e]
    exact(Bx 1).mono (Nat.le_refl _) (Nat.zero_le _)
  have:=b1.add ih
  rw[List.length_cons,Nat.succ_mul,Nat.add_comm]
  exact this
theorem Gu{n:Nw}(R:Right n){g:gk}(S:Hm n g){G:Wh.Setting}(S2:gY n g G){i j:Nat}(hi:i<(ao n).unknowns)(hj:j<(ao n).unknowns+1):Bd (m6 (rows g) i j) 1 (2^246):=by
 have w:(width n+1).toNat=(ao n).unknowns+1:=by rw[R.ue];lia
 have l:(dh g).length=(ao n).unknowns:=by rw[(pJ R S2).len,d4]
 unfold m6 ent
 rw[rX R S2 hi,(pK _ _ j (by lia)).1]
 obtain⟨h1,h2⟩:=Jt R S ((dh g).getD i []) (memD (by lia))
 refine(LN j _ h1).mono (Nat.le_refl _) ?_
 refine Nat.le_trans (Nat.mul_le_mul_right _ h2) ?_
 decide +kernel
theorem Ju{n:Nw}(R:Right n):(ao n).unknowns≤28:=by
 have h1:=R.ue
 have h2:width n≤28:=by
  unfold width
  have:∀ps:List Part,(ps.map gd).sum≤2*ps.length:=by
   intro ps
   induction ps with
   |nil=>simp
   |cons p ps ih=>
    rw[List.map_cons,List.sum_cons,List.length_cons]
    have:gd p≤2:=by
     unfold gd
     split
     ·lia
     ·split <;>lia
    push_cast
    lia
  have:=this n.af
  have:=R.af
  have:=R.l8
  lia
 lia
structure EB(l:bw):Prop where
 len:l.length≤40
 gS:gS l≤2^7300
theorem LO{A:Nat→Nat→PF}{n:Nat}{B:Nat}(hA:∀i j,i<n→j<n+1→Bd (A i j) 1 B){k:Nat}(hk:k≤n):Bd (mk A k) k (db B k):=xw B k fun i j hi hj=>hA i j (by lia) (by lia)
theorem Gv{A:Nat→Nat→PF}{n:Nat}{B:Nat}(hA:∀i j,i<n→j<n+1→Bd (A i j) 1 B){k:Nat}(hk:k≤n)(c j:Nat)(hj:j<n+1):Bd (mc A k c j) k (db B k):=xw B k fun i b hi hb=>by
 show Bd (if b=c then A i j else A i b) 1 B
 split
 ·exact hA i j (by lia) hj
 ·exact hA i b (by lia) (by lia)
theorem Jv{A:Nat→Nat→PF}{n:Nat}{B:Nat}(hA:∀i j,i<n→j<n+1→Bd (A i j) 1 B){k:Nat}(hk:k≤n)(i j:Nat)(hi:i<n)(hj:j<n+1):Bd (ti A k i j) (k+1) (db B (k+1)):=by
 unfold ti
 have h1:=(LO hA hk).mul (hA i j hi hj)
 have h2:=By (k+1) (B*db B k) k (f:=fun c=>A i c*mc A k c j) fun c hc=>((hA i c hi (by lia)).mul (Gv hA hk c j hj)).mono (by lia) (Nat.le_refl _)
 refine(h1.sub h2).mono (Nat.le_refl _) ?_
 show db B k*B+k*(B*db B k)≤(k+1)*(B*db B k)
 rw[Nat.succ_mul,Nat.mul_comm (db B k) B]
 lia
theorem Dc{l:bw}{d m:Nat}(t:Trim l)(h:Bd (bK l) d (db (2^246) m))(hd:d≤39)(hm:m≤29):EB l:=by
 obtain⟨h1,h2⟩:=h.list t
 refine⟨by lia,Nat.le_trans h2 (Nat.le_trans (Gp hm) (Nat.le_trans (Jp 29 (by lia)) ?_))⟩
 exact Nat.pow_le_pow_right (by lia) (by lia)
theorem Jw{n k:Nat}{A:Nat→Nat→PF}{t:List fj}{before:bw}{σ:Nat→Nat}{ε:PF}(hn:n≤28)(hA:∀i j,i<n→j<n+1→Bd (A i j) 1 (2^246))(hk:k<n)(S:Nh n k A t before σ ε)(c:Nat)(hkc:k≤c)(hc:c<n)(hp:ent t c k≠[]){i j:Nat}(hi:i<n)(hik:i≠k)(hj:k<j)(hjn:j<n+1):
  EB before∧before≠[]∧EB (ent (i9 t c k) k k)∧EB (ent (i9 t c k) i j)∧EB (ent (i9 t c k) i k)∧EB (ent (i9 t c k) k j)∧∃m,Trim m∧EB m∧bK (rP (dO (ent (i9 t c k) k k) (ent (i9 t c k) i j)) (dO (ent (i9 t c k) i k) (ent (i9 t c k) k j)))=bK m*bK before:=by
 have tl:=S.tab.len
 have sg':∀a,(i9 t c k).getD a []=t.getD (sw c k a) []:=fun a=>wo t c k a (by lia) (by lia)
 have se:∀a j,ent (i9 t c k) a j=ent t (sw c k a) j:=fun a j=>by unfold ent;rw[sg']
 have skk:sw c k k=c:=by
  unfold sw
  repeat' split
  all_goals lia
 have slow:∀i,i<k→sw c k i=i:=fun i hi=>by unfold sw;rw[if_neg (by lia),if_neg (by lia)]
 have shigh:∀i,k≤i→k≤sw c k i:=fun i hi=>by
  unfold sw
  repeat' split
  all_goals lia
 have hB:(fun i j=>A (σ (sw c k i)) j)=cV (fun i j=>A (σ i) j) c k:=(ot (fun i j=>A (σ i) j) c k).symm
 have mkS:mk (fun i j=>A (σ (sw c k i)) j) k=mk (fun i j=>A (σ i) j) k:=by rw[hB];exact A0 _ k c k hkc (Nat.le_refl _)
 have mcS:∀i j,mc (fun i j=>A (σ (sw c k i)) j) k i j=mc (fun i j=>A (σ i) j) k i j:=fun i j=>by rw[hB];exact A2 _ k c k i j hkc (Nat.le_refl _)
 have tiS:∀i j,ti (fun i j=>A (σ (sw c k i)) j) k i j=ti (fun i j=>A (σ i) j) k (sw c k i) j:=fun i j=>by rw[hB];exact FX _ k c k i j hkc (Nat.le_refl _)
 have eU:∀i j,i<k→k≤j→j<n+1→bK (ent (i9 t c k) i j)=mc (fun i j=>A (σ (sw c k i)) j) k i j:=fun i j hi hj hjn=>by rw[se,slow i hi,S.up i j hi hj hjn,mcS]
 have eL:∀i j,k≤i→i<n→k≤j→j<n+1→bK (ent (i9 t c k) i j)=ti (fun i j=>A (σ (sw c k i)) j) k i j:=fun i j hi hin hj hjn=>by
  rw[se,S.low _ j (shigh i hi) (j5 hc hk hin) hj hjn,tiS]
 have sT:∀i j,i<n→j<n+1→Trim (ent (i9 t c k) i j):=fun i j hi hj=>by rw[se];exact S.tab.trim _ j (j5 hc hk hi) hj
 have hBI:∀i j,i<n→j<n+1→Bd (A (σ (sw c k i)) j) 1 (2^246):=fun i j hi hj=>hA _ j (S.ord.lt _ (j5 hc hk hi)) hj
 generalize hBd:(fun i j=>A (σ (sw c k i)) j)=B at *
 have hBI':∀i j,i<n→j<n+1→Bd (B i j) 1 (2^246):=fun i j hi hj=>by rw[←hBd];exact hBI i j hi hj
 have eB:EB before:=Dc S.CN (by rw[S.yL,←mkS];exact LO hBI' (Nat.le_of_lt hk)) (by lia) (by lia)
 have bne:before≠[]:=fun z=>by
  have:=S.yL
  rw[z] at this
  exact S.ne this.symm
 have eE:∀i j,i<n→k≤j→j<n+1→EB (ent (i9 t c k) i j):=fun i j hi hj hjn=>by
  by_cases q:i<k
  ·exact Dc (sT i j hi hjn) (by rw[eU i j q hj hjn];exact Gv hBI' (Nat.le_of_lt hk) i j hjn) (by lia) (by lia)
  ·exact Dc (sT i j hi hjn) (by rw[eL i j (by lia) hi hj hjn];exact Jv hBI' (Nat.le_of_lt hk) i j hi hjn) (by lia) (by lia)
 refine⟨eB,bne,eE k k hk (Nat.le_refl _) (by lia),eE i j hi (by lia) hjn,eE i k hi (Nat.le_refl _) (by lia),eE k j hk (by lia) hjn,?_⟩
 have B8:Reg (mk B k):=PF.B8 (by rw[mkS];exact S.ne)
 have piv:bK (ent t c k)=mk B (k+1):=by
  have e:=eL k k (Nat.le_refl _) hk (Nat.le_refl _) (by lia)
  rw[se,skk] at e
  rw[e,wM B k B8]
 have ne1:mk B (k+1)≠0:=fun z=>hp ((gh (S.tab.trim c k hc (by lia))).mp (piv.trans z))
 have reg1:Reg (mk B (k+1)):=PF.B8 ne1
 have ekk:bK (ent (i9 t c k) k k)=mk B (k+1):=by rw[se,skk];exact piv
 by_cases q:i<k
 ·obtain⟨m,tm,em,h1,h2⟩:=(Gv hBI' (show k+1≤n by lia) i j hjn).ex
  refine⟨m,tm,Dc tm (by rw[em];exact Gv hBI' (show k+1≤n by lia) i j hjn) (by lia) (by lia),?_⟩
  rw[oo,ji,ji,ekk,em,S.yL,←mkS,eU i j q (by lia) hjn,eU i k q (Nat.le_refl _) (by lia),eL k j (Nat.le_refl _) hk (by lia) hjn]
  have:=(wj B k j B8 reg1 i q).1
  rw[this]
  grind
 ·obtain⟨m,tm,em,h1,h2⟩:=(Jv hBI' (show k+1≤n by lia) i j hi hjn).ex
  refine⟨m,tm,Dc tm (by rw[em];exact Jv hBI' (show k+1≤n by lia) i j hi hjn) (by lia) (by lia),?_⟩
  rw[oo,ji,ji,ekk,em,S.yL,←mkS,eL i j (by lia) hi (by lia) hjn,eL i k (by lia) hi (Nat.le_refl _) (by lia),eL k j (Nat.le_refl _) hk (by lia) hjn]
  have:=FW B k i j B8 reg1
  rw[this]
  grind
theorem EL{n:Nw}(R:Right n){g:gk}(S:Hm n g){G:Wh.Setting}(S2:gY n g G){d:bw}{tops:List bw}(h:sol (rows g)=some (d,tops)):(d.length≤29∧gS d≤2^7028)∧∀c,c<(ao n).unknowns→(tops.getD c []).length≤29∧gS (tops.getD c [])≤2^7028:=by
 have un:=Ju R
 have hA:∀i j,i<(ao n).unknowns→j<(ao n).unknowns+1→Bd (m6 (rows g) i j) 1 (2^246):=fun i j hi hj=>Gu R S S2 hi hj
 have big:db (2^246) (ao n).unknowns≤2^7028:=Nat.le_trans (Gp un) (Nat.le_trans (Jp 28 (by lia)) (Nat.pow_le_pow_right (by lia) (by lia)))
 have eps:∀(ε f:PF) (dd B:Nat),(ε=1∨ε= -1)→Bd f dd B→Bd (ε*f) dd B:=fun ε f dd B h hb=>by
  rcases h with rfl |rfl
  ·have e:(1:PF)*f=f:=by grind
   rw[e];exact hb
  ·have e:(-1:PF)*f= -f:=by grind
   rw[e];exact hb.neg
 rcases Ek (rY R S2) with⟨d',tops',e,so⟩ |⟨e,_⟩
 ·rw[h] at e
  cases e
  obtain⟨ε,he,hd,ht⟩:=so.sgn
  refine⟨?_,fun c hc=> ?_⟩
  ·obtain⟨h1,h2⟩:=Bd.list so.F6 (by rw[hd];exact eps _ _ _ _ he (xw (2^246) (ao n).unknowns fun i j hi hj=>hA i j hi (by lia)))
   exact⟨by lia,by lia⟩
  ·obtain⟨h1,h2⟩:=Bd.list (so.trim c hc) (by
    rw[ht c hc]
    exact eps _ _ _ _ he (xw (2^246) (ao n).unknowns fun i j hi hj=>by
     show Bd (if j=c then _ else _) 1 _
     split
     ·exact hA i _ hi (by lia)
     ·exact hA i j hi (by lia)))
   exact⟨by lia,by lia⟩
 ·rw[h] at e
  cases e
theorem LP{n:Nw}(R:Right n)(st:List Bool):Hm n (DO n st):=by
 refine⟨rfl,.inl rfl,fun k=> ?_⟩
 show((n.af.map fun p:Part=>(p.top,p.aC)).getD k (0,1)).1.natAbs≤_∧((n.af.map fun p:Part=>(p.top,p.aC)).getD k (0,1)).2.natAbs≤_
 rw[gDe,List.getElem?_map]
 by_cases h:k<n.af.length
 ·rw[List.getElem?_eq_getElem h]
  have pp:=R.pn _ (List.getElem_mem h)
  have:=pp.b1
  have:=pp.b2
  exact⟨pp.t,by show(n.af[k]).aC.natAbs≤_;lia⟩
 ·rw[List.getElem?_eq_none (by lia)]
  exact⟨by decide,by decide⟩
theorem uj{n:Nw}(st:List Bool)(src:Int):Hm n (bN n st src):=by
 refine⟨rfl,.inr rfl,fun k=> ?_⟩
 show(((List.range n.af.length).map fun(k:Nat)=>if(k:Int)=src then((1:Int),(1:Int)) else(0,1)).getD k (0,1)).1.natAbs≤_∧_
 by_cases h:k<n.af.length
 ·have e:(bN n st src).drives.getD k (0,1)=if(k:Int)=src then(1,1) else(0,1):=i0 _ _ _ _ h
  show((bN n st src).drives.getD k (0,1)).1.natAbs≤_∧((bN n st src).drives.getD k (0,1)).2.natAbs≤_
  rw[e]
  split <;>exact⟨by decide,by decide⟩
 ·have e:(bN n st src).drives.getD k (0,1)=(0,1):=by
   unfold bN
   dsimp only
   rw[gDe,List.getElem?_eq_none (by simp;lia)]
   rfl
  show((bN n st src).drives.getD k (0,1)).1.natAbs≤_∧((bN n st src).drives.getD k (0,1)).2.natAbs≤_
  rw[e]
  exact⟨by decide,by decide⟩
theorem Al.mem{α β:Type}{R:α→β→Prop}:∀{l:List α} {m:List β},Al R l m→∀a∈l,∃b,b∈m∧R a b
 |_,_,.nil,a,h=>by cases h
 |_,_,.cons r t,a,h=>by
  rcases List.mem_cons.mp h with rfl |h
  ·exact⟨_,List.mem_cons_self,r⟩
  ·obtain⟨b,hb,q⟩:=t.mem a h
   exact⟨b,List.mem_cons_of_mem _ hb,q⟩
theorem Dd{n:Nw}{st:List Bool}(h:st∈bg n.af [[]]):∃r,nA 0 n.af.length st r:=by
 rw[vz] at h
 obtain⟨r,_,q⟩:=(uh n.af 0).mem st h
 exact⟨r,q⟩
theorem Hn{n:Nw}(R:Right n):(ao n).places≤11:=by
 unfold Wh.Net.places
 have:=List.length_filter_le (fun(x:Wh.Elem)=>decide (x.kind= .C) ||decide (x.kind= .L)) (ao n).elems
 have e:(ao n).elems.length=n.af.length:=lMp ..
 have:=R.af
 lia
theorem MN{n:Nw}(R:Right n){G:Wh.Setting}:Dg (pS ((ao n).determinant G)) 11∧∀c,c<(ao n).unknowns→Dg (pS ((ao n).numerator G c)) 11:=by
 have pl:=Hn R
 refine⟨?_,fun c hc=> ?_⟩
 ·unfold Wh.Net.determinant
  refine⟨_,rfl,Nat.le_trans (ou _) ?_⟩
  rw[lMp,List.length_range]
  exact pl
 ·unfold Wh.Net.numerator
  refine⟨_,rfl,Nat.le_trans (ou _) ?_⟩
  rw[lMp,List.length_range]
  exact pl
theorem K0{n:Nw}(R:Right n){st:List Bool}{r:List Nat}{src:Int}{d:bw}{tops:List bw}(D:Nk n st r src d tops):d.length≤11∧∀c,c<(ao n).unknowns→(tops.getD c []).length≤11:=by
 obtain⟨q,q0,hd,ht⟩:=D.ex
 obtain⟨d1,d2⟩:=MN R (G:=Wh.alone r src.toNat)
 have one:∀f:PF,PF.const 1*f=f:=fun f=>by
  rw[fk]
  grind
 refine⟨En D.F6 (c:=1) (by decide) (by rw[one,hd];exact d1.smul q),fun c hc=>En (D.trim c hc) (c:=1) (by decide) (by rw[one,ht c hc];exact(d2 c hc).smul q)⟩
theorem MO{n:Nw}(R:Right n){g:gk}(hg:g.aO=n){d:bw}{tops:List bw}{m B:Nat}(tl:tops.length=(ao n).unknowns)(hb:∀c,c<(ao n).unknowns→(tops.getD c []).length≤m∧gS (tops.getD c [])≤B){what k:Int}(k0:0≤k)(hq:fC n what k=true):
  (fM g (d,tops) what k).length≤m∧gS (fM g (d,tops) what k)≤2*B:=by
 have nl:=jk n
 have nd:∀v:Int,v≤n.last→(cz (d,tops) v).length≤m∧gS (cz (d,tops) v)≤B:=fun v hv=>by
  unfold cz
  by_cases h:0<v
  ·rw[if_pos h]
   exact hb _ (by lia)
  ·rw[if_neg h]
   exact⟨Nat.zero_le _,Nat.zero_le _⟩
 unfold fC at hq
 unfold fM
 by_cases h0:what=0
 ·rw[if_pos h0] at hq
  rw[if_pos h0]
  have:=nd k (of_decide_eq_true hq)
  lia
 ·rw[if_neg h0] at hq
  rw[if_neg h0]
  by_cases hw:what=1∨what=2
  ·rw[if_pos hw] at hq
   obtain⟨q1,q2⟩:=(Bool.and_eq_true _ _).mp hq
   have q1:=of_decide_eq_true q1
   have q2:=of_decide_eq_true q2
   have hk:k.toNat<n.af.length:=by lia
   unfold kindAt at q2
   have ab:=R.ab hk q2
   by_cases h1:what=1
   ·rw[if_pos h1]
    unfold gv
    rw[hg,R.place hk,Int.toNat_natCast]
    have:=hb _ (lO R hk q2)
    show(tops.getD ((ao n).at_ k.toNat) []).length≤m∧gS (tops.getD ((ao n).at_ k.toNat) [])≤2*B
    lia
   ·rw[if_neg h1]
    unfold gw pB
    rw[hg]
    have ha:=nd _ ab.1
    have hbb:=nd _ ab.2
    unfold rP A6
    refine⟨Nat.le_trans (Ba _) ?_,Nat.le_trans (Bu _) (Nat.le_trans (oB _ _) ?_)⟩
    ·rw[gy,wm];lia
    ·rw[Bv];lia
  ·rw[if_neg hw] at hq
   cases hq
theorem K1{src what k:Int}(s0:0≤src)(w0:0≤what)(k0:0≤k)(l:List Int):(bD src what k l).bB≠[]∨∃p d tops r,bB l=[]∧gf (aW l) src=true∧fC (aW l) what k=true∧point (aW l)=some p∧nA 0 (aW l).af.length p.1 r∧sol (rows (bN (aW l) p.1 src))=some (d,tops)∧Nk (aW l) p.1 r src d tops∧bD src what k l=⟨[],fM (bN (aW l) p.1 src) (d,tops) what k,d⟩:=by
 by_cases hr:bB l=[]
 rotate_left
 ·left
  unfold bD
  rw[if_pos hr]
  exact hr
 obtain⟨R,dB⟩:=right_of hr
 by_cases hq:gf (aW l) src=false∨fC (aW l) what k=false
 ·left
  unfold bD
  rw[if_neg (fun z=>z hr),if_pos hq]
  simp
 have h1:gf (aW l) src=true:=by
  cases e:gf (aW l) src with
  |true=>rfl
  |false=>exact absurd (.inl e) hq
 have h2:fC (aW l) what k=true:=by
  cases e:fC (aW l) what k with
  |true=>rfl
  |false=>exact absurd (.inr e) hq
 have pr:=ui R
 cases hp:point (aW l) with
 |none=>
  left
  unfold bD
  rw[if_neg (fun z=>z hr),if_neg hq,hp]
  simp
 |some p=>
  right
  rw[hp] at pr
  cases hP:(ao (aW l)).point with
  |none=>rw[hP] at pr;exact pr.elim
  |some y=>
   rw[hP] at pr
   obtain⟨_,hst,D0⟩:=pr
   obtain⟨d,tops,es,D⟩:=qF R hst D0 s0 h1
   refine⟨p,d,tops,y.1,hr,h1,h2,rfl,hst,es,D,?_⟩
   unfold bD
   rw[if_neg (fun z=>z hr),if_neg hq,hp]
   dsimp only
   rw[es]
theorem BB{l:List Int}(hr:bB l=[]){src:Int}(s0:0≤src)(h1:gf (aW l) src=true){p:List Bool×(bw×List bw)}(hp:point (aW l)=some p):∃d tops r,p.1∈bg (aW l).af [[]]∧nA 0 (aW l).af.length p.1 r∧sol (rows (bN (aW l) p.1 src))=some (d,tops)∧Nk (aW l) p.1 r src d tops:=by
 obtain⟨R,dB⟩:=right_of hr
 have pr:=ui R
 rw[hp] at pr
 cases hP:(ao (aW l)).point with
 |none=>rw[hP] at pr;exact pr.elim
 |some y=>
  rw[hP] at pr
  obtain⟨hm,hst,D0⟩:=pr
  obtain⟨d,tops,es,D⟩:=qF R hst D0 s0 h1
  exact⟨d,tops,y.1,hm,hst,es,D⟩
end ak
namespace ak
open Wh (Cx valueCx)
def Ho(t b:Int):List Int:=
 let d:=if b<0 then -CH t b else CH t b
 [t.fdiv d,b.fdiv d]
def Gw(l r:Int×Int):Int×Int:=(l.1*r.1 - l.2*r.2,l.1*r.2+l.2*r.1)
def um(place:Int×Int)(common:Int)(x:Int)(st:(Int×Int)×Int):(Int×Int)×Int:=(((Gw st.1 place).1+x*st.2,(Gw st.1 place).2),st.2*common)
def jn(place:Int×Int)(common:Int)(p:bw):(Int×Int)×Int:=p.foldr (um place common) ((0,0),1)
def g4(p:bw)(n:Nat):bw:=p ++ List.replicate (n - p.length) 0
def xx(p:bw)(s:List Int)(n:Nat):Int×Int:=(jn (s.getD 0 0*s.getD 3 0,s.getD 2 0*s.getD 1 0) (s.getD 1 0*s.getD 3 0) (g4 p n)).1
def vD(top aC:bw)(s:List Int):Option (List Int):=
 let n:=max top.length aC.length
 let a:=xx top s n
 let b:=xx aC s n
 let z:=b.1*b.1+b.2*b.2
 if z=0 then none else
  let t:=Gw a (b.1,-b.2)
  some (Ho t.1 z ++ Ho t.2 z)
def vE(t b:Int):Bool:=decide ((t.natAbs:Int)≤1000)&&(decide (1≤b)&&decide (b≤1000))
def g5(s:List Int):Bool:=decide (s.length=4)&&(vE (s.getD 0 0) (s.getD 1 0)&&vE (s.getD 2 0) (s.getD 3 0))
def value(src what k:Int)(aO s:List Int):List Int:=
 if g5 s=false then[-1] else
  let q:=bD src what k aO
  if q.bB≠[] then q.bB else match vD q.top q.aC s with
   |none=>[-5]
   |some l=>0::l
theorem uo{a b:Cx}(h1:a.re=b.re)(h2:a.im=b.im):a=b:=by
 cases a;cases b;cases h1;cases h2;rfl
theorem Jx(x:Cx):valueCx [] x=Cx.zero:=rfl
theorem i5(c:Rat)(p:List Rat)(x:Cx):valueCx (c::p) x=⟨c+(x.re*(valueCx p x).re - x.im*(valueCx p x).im),0+(x.re*(valueCx p x).im+x.im*(valueCx p x).re)⟩:=rfl
theorem xy(q:Rat)(x:Cx):∀p:List Rat,valueCx (Wh.scalePoly q p) x=⟨q*(valueCx p x).re,q*(valueCx p x).im⟩
 |[]=>by
  show(⟨0,0⟩:Cx)=⟨q*0,q*0⟩
  rw[Rat.mul_zero]
 |c::p=>by
  show valueCx (q*c::Wh.scalePoly q p) x=_
  rw[i5,xy q x p,i5]
  apply uo <;>dsimp only <;>grind
theorem Jy(x:Cx):∀p q:List Rat,valueCx (Wh.addPoly p q) x=⟨(valueCx p x).re+(valueCx q x).re,(valueCx p x).im+(valueCx q x).im⟩
 |[],q=>by
  have e:Wh.addPoly [] q=q:=by cases q <;>rfl
  rw[e,Jx]
  apply uo <;>show _=(0:Rat)+_ <;>grind
 |a::p,[]=>by
  have e:Wh.addPoly (a::p) []=a::p:=rfl
  rw[e,Jx]
  apply uo <;>show _=_+ (0:Rat) <;>grind
 |a::p,b::q=>by
  show valueCx ((a+b)::Wh.addPoly p q) x=_
  rw[i5,Jy x p q,i5,i5]
  apply uo <;>dsimp only <;>grind
theorem xA(x:Cx):∀{p:List Rat},(∀c∈p,c=0)→valueCx p x=Cx.zero
 |[],_=>rfl
 |c::p,h=>by
  rw[i5,xA x (fun c m=>h c (List.mem_cons_of_mem _ m)),h c List.mem_cons_self]
  apply uo
  ·show 0+(x.re*0 - x.im*0)=(0:Rat)
   grind
  ·show 0+(x.re*0+x.im*0)=(0:Rat)
   grind
theorem De:∀{p:List Rat},(p.dropWhile fun x:Rat=>decide (x=0))=[]→∀c∈p,c=0
 |[],_,c,h=>by cases h
 |a::p,h,c,hc=>by
  by_cases e:a=0
  ·rw[List.dropWhile_cons_of_pos (by simpa using e)] at h
   rcases List.mem_cons.mp hc with x |x
   ·rw[x,e]
   ·exact De h c x
  ·rw[List.dropWhile_cons_of_neg (by simpa using e)] at h
   cases h
theorem EM{p:List Rat}(h:Wh.isZero p=true):∀c∈p,c=0:=by
 unfold Wh.isZero Wh.trim at h
 have h1:(p.reverse.dropWhile fun x:Rat=>decide (x=0))=[]:=by
  cases e:p.reverse.dropWhile fun x:Rat=>decide (x=0) with
  |nil=>rfl
  |cons a r=>rw[e] at h;simp at h
 intro c hc
 exact De h1 c (List.mem_reverse.mpr hc)
theorem LQ{p P:List Rat}{q:Rat}(h:pS p=PF.const q*pS P)(x:Cx):valueCx p x=⟨q*(valueCx P x).re,q*(valueCx P x).im⟩:=by
 have z:pS (Wh.subPoly p (Wh.scalePoly q P))=0:=by
  rw[Ga,zX,h]
  grind
 have y:=xA x (EM ((Es _).mpr z))
 have e:valueCx (Wh.subPoly p (Wh.scalePoly q P)) x=⟨(valueCx p x).re+ -1*(q*(valueCx P x).re),(valueCx p x).im+ -1*(q*(valueCx P x).im)⟩:=by
  unfold Wh.subPoly
  rw[Jy,xy,xy]
 rw[e] at y
 have y1:(valueCx p x).re+ -1*(q*(valueCx P x).re)=0:=congrArg Cx.re y
 have y2:(valueCx p x).im+ -1*(q*(valueCx P x).im)=0:=congrArg Cx.im y
 apply uo <;>dsimp only <;>grind
theorem m9(x:Cx):∀(p:List Rat) (m:Nat),valueCx (p ++ List.replicate m 0) x=valueCx p x
 |[],m=>by
  rw[List.nil_append]
  exact xA x fun c hc=>List.eq_of_mem_replicate hc
 |c::p,m=>by
  rw[List.cons_append,i5,m9 x p m,i5]
theorem An(pl:Int×Int)(c:Int):∀p:bw,(jn pl c p).2=c^p.length
 |[]=>(Int.pow_zero c).symm
 |x::p=>by
  show(jn pl c p).2*c=c^(p.length+1)
  rw[An pl c p,Int.pow_succ]
theorem Jz(pl:Int×Int)(c:Int)(x:Cx)(h1:(c:Rat)*x.re=(pl.1:Rat))(h2:(c:Rat)*x.im=(pl.2:Rat)):∀p:bw,
  (c:Rat)*((jn pl c p).1.1:Rat)=(((jn pl c p).2:Int):Rat)*(valueCx (rl p) x).re∧(c:Rat)*((jn pl c p).1.2:Rat)=(((jn pl c p).2:Int):Rat)*(valueCx (rl p) x).im
 |[]=>by
  constructor <;>show(c:Rat)*((0:Int):Rat)=((1:Int):Rat)*0 <;>grind
 |a::p=>by
  obtain⟨e1,e2⟩:=Jz pl c x h1 h2 p
  have ew:jn pl c (a::p)=um pl c a (jn pl c p):=rfl
  have er:rl (a::p)=(a:Rat)::rl p:=rfl
  rw[ew,er,i5]
  unfold um Gw
  dsimp only
  generalize (jn pl c p).1.1=u1 at *
  generalize (jn pl c p).1.2=u2 at *
  generalize (jn pl c p).2=W at *
  generalize valueCx (rl p) x=v at *
  simp only[Rat.intCast_add,Rat.intCast_sub,Rat.intCast_mul]
  rw[←h1,←h2]
  constructor <;>grind
theorem Gx{t z:Int}(h:0<z):Ho t z=WhB.fraction ((t:Rat) / (z:Rat)):=by
 unfold Ho WhB.fraction
 rw[←Rat.divInt_eq_div,Rat.num_divInt,Rat.den_divInt,if_neg (by lia),if_neg (by lia),Int.sign_eq_one_of_pos h,Int.one_mul]
 dsimp only
 have g:CH t z=((z.gcd t:Nat):Int):=by
  unfold CH
  rw[Nat.gcd_comm]
  rfl
 rw[g]
 have g0:(0:Int)≤((z.gcd t:Nat):Int):=Int.natCast_nonneg _
 rw[Int.fdiv_eq_ediv_of_nonneg _ g0,Int.fdiv_eq_ediv_of_nonneg _ g0]
 have e:((z.natAbs / z.gcd t:Nat):Int)=z / ((z.gcd t:Nat):Int):=by
  rw[Int.natCast_ediv,Int.natAbs_of_nonneg (by lia)]
 rw[e]
theorem MP(p m:bw):rl (p ++ m)=rl p ++ rl m:=by
 unfold rl
 rw[List.map_append]
theorem JA(m:Nat):rl (List.replicate m 0)=List.replicate m 0:=by
 unfold rl
 rw[List.map_replicate]
 rfl
theorem Gy{s:List Int}{x:Cx}(h1:((s.getD 1 0*s.getD 3 0:Int):Rat)*x.re=((s.getD 0 0*s.getD 3 0:Int):Rat))(h2:((s.getD 1 0*s.getD 3 0:Int):Rat)*x.im=((s.getD 2 0*s.getD 1 0:Int):Rat))(p:bw){n:Nat}(hn:p.length≤n):
  ((s.getD 1 0*s.getD 3 0:Int):Rat)*((xx p s n).1:Rat)=(((s.getD 1 0*s.getD 3 0)^n:Int):Rat)*(valueCx (rl p) x).re∧((s.getD 1 0*s.getD 3 0:Int):Rat)*((xx p s n).2:Rat)=(((s.getD 1 0*s.getD 3 0)^n:Int):Rat)*(valueCx (rl p) x).im:=by
 have h:=Jz (s.getD 0 0*s.getD 3 0,s.getD 2 0*s.getD 1 0) (s.getD 1 0*s.getD 3 0) x h1 h2 (g4 p n)
 have e:valueCx (rl (g4 p n)) x=valueCx (rl p) x:=by
  unfold g4
  rw[MP,JA,m9]
 have l:(g4 p n).length=n:=by
  unfold g4
  rw[List.length_append,List.length_replicate]
  lia
 rw[An,e,l] at h
 exact h
theorem Qr(a:Int):0≤a*a:=by
 rcases Int.le_total 0 a with z |z
 ·exact Int.mul_nonneg z z
 ·exact Int.mul_nonneg_of_nonpos_of_nonpos z z
theorem K2{a b:Rat}:a*a+b*b=0↔a=0∧b=0:=by
 constructor
 ·intro h
  have h1:0≤a*a:=by
   rcases Rat.le_total (a:=0) (b:=a) with z |z
   ·exact Rat.mul_nonneg z z
   ·have:=Rat.mul_nonneg (show 0≤-a by grind) (show 0≤-a by grind)
    grind
  have h2:0≤b*b:=by
   rcases Rat.le_total (a:=0) (b:=b) with z |z
   ·exact Rat.mul_nonneg z z
   ·have:=Rat.mul_nonneg (show 0≤-b by grind) (show 0≤-b by grind)
    grind
  have e1:a*a=0:=by grind
  have e2:b*b=0:=by grind
  exact⟨(Rat.mul_eq_zero.mp e1).elim id id,(Rat.mul_eq_zero.mp e2).elim id id⟩
 ·rintro⟨rfl,rfl⟩
  grind
theorem r6{a b m n u:Rat}(hu:u≠0)(h1:u*a=n)(h2:u*b=m)(hm:m≠0):a / b=n / m:=by
 have hb:b≠0:=fun e=>hm (by rw[←h2,e];grind)
 grind
theorem JB{top aC:bw}{s:List Int}{x:Cx}(c0:s.getD 1 0*s.getD 3 0≠0)(h1:((s.getD 1 0*s.getD 3 0:Int):Rat)*x.re=((s.getD 0 0*s.getD 3 0:Int):Rat))(h2:((s.getD 1 0*s.getD 3 0:Int):Rat)*x.im=((s.getD 2 0*s.getD 1 0:Int):Rat)){T B:Cx}{q:Rat}(q0:q≠0)
  (hT:valueCx (rl top) x=⟨q*T.re,q*T.im⟩) (hB:valueCx (rl aC) x=⟨q*B.re,q*B.im⟩):vD top aC s=if B.isZero=true then none else some (WhB.fraction (T.by_ B).re ++ WhB.fraction (T.by_ B).im):=by
 obtain⟨a1,a2⟩:=Gy h1 h2 top (Nat.le_max_left top.length aC.length)
 obtain⟨b1,b2⟩:=Gy h1 h2 aC (Nat.le_max_right top.length aC.length)
 rw[hT] at a1 a2
 rw[hB] at b1 b2
 unfold vD
 dsimp only at a1 a2 b1 b2⊢
 generalize xx top s (max top.length aC.length)=a at *
 generalize xx aC s (max top.length aC.length)=b at *
 have W0:(((s.getD 1 0*s.getD 3 0)^(max top.length aC.length):Int):Rat)≠0:=by
  intro e
  have e:(s.getD 1 0*s.getD 3 0)^(max top.length aC.length)=0:=by exact_mod_cast e
  exact(Int.pow_ne_zero c0) e
 have C0:((s.getD 1 0*s.getD 3 0:Int):Rat)≠0:=fun e=>c0 (by exact_mod_cast e)
 generalize (((s.getD 1 0*s.getD 3 0)^(max top.length aC.length):Int):Rat)=W at *
 generalize ((s.getD 1 0*s.getD 3 0:Int):Rat)=c at *
 have hz:(c*c)*((b.1*b.1+b.2*b.2:Int):Rat)=(W*W*(q*q))*(B.re*B.re+B.im*B.im):=by
  rw[Rat.intCast_add,Rat.intCast_mul,Rat.intCast_mul]
  grind
 have ht1:(c*c)*(((Gw a (b.1,-b.2)).1:Int):Rat)=(W*W*(q*q))*(T.re*B.re+T.im*B.im):=by
  unfold Gw
  rw[Rat.intCast_sub,Rat.intCast_mul,Rat.intCast_mul,Rat.intCast_neg]
  grind
 have ht2:(c*c)*(((Gw a (b.1,-b.2)).2:Int):Rat)=(W*W*(q*q))*(T.im*B.re - T.re*B.im):=by
  unfold Gw
  rw[Rat.intCast_add,Rat.intCast_mul,Rat.intCast_mul,Rat.intCast_neg]
  grind
 have F0:W*W*(q*q)≠0:=by
  intro e
  rcases Rat.mul_eq_zero.mp e with e |e <;>rcases Rat.mul_eq_zero.mp e with e |e <;>contradiction
 have G0:c*c≠0:=by
  intro e
  rcases Rat.mul_eq_zero.mp e with e |e <;>contradiction
 have zb:B.isZero=true↔B.re*B.re+B.im*B.im=0:=by
  rw[K2]
  unfold Wh.Cx.isZero
  rw[Bool.and_eq_true,decide_eq_true_eq,decide_eq_true_eq]
 by_cases e:B.re*B.re+B.im*B.im=0
 ·have z0:b.1*b.1+b.2*b.2=0:=by
   rw[e,Rat.mul_zero] at hz
   rcases Rat.mul_eq_zero.mp hz with z |z
   ·contradiction
   ·exact_mod_cast z
  rw[if_pos z0,if_pos (zb.mpr e)]
 ·have z0:b.1*b.1+b.2*b.2≠0:=fun z=>by
   rw[z] at hz
   have hz:0=(W*W*(q*q))*(B.re*B.re+B.im*B.im):=by rw[←hz];grind
   rcases Rat.mul_eq_zero.mp hz.symm with z |z <;>contradiction
  rw[if_neg z0,if_neg (fun z=>e (zb.mp z))]
  have zp:0<b.1*b.1+b.2*b.2:=by
   have y1:0≤b.1*b.1:=Qr _
   have y2:0≤b.2*b.2:=Qr _
   lia
  rw[Gx zp,Gx zp]
  have m0:(c*c)*((b.1*b.1+b.2*b.2:Int):Rat)≠0:=fun z=>by
   rcases Rat.mul_eq_zero.mp z with z |z
   ·contradiction
   ·exact z0 (by exact_mod_cast z)
  have k1:=r6 G0 rfl rfl m0 (a:=(((Gw a (b.1,-b.2)).1:Int):Rat))
  have k2:=r6 G0 rfl rfl m0 (a:=(((Gw a (b.1,-b.2)).2:Int):Rat))
  have j0:(W*W*(q*q))*(B.re*B.re+B.im*B.im)≠0:=by rw[←hz];exact m0
  rw[k1,k2,ht1,ht2,hz,←r6 F0 rfl rfl j0,←r6 F0 rfl rfl j0]
  rfl
theorem K3:∀s:List Int,WhB.cxOk s=g5 s
 |[]=>rfl
 |[_]=>rfl
 |[_,_]=>rfl
 |[_,_,_]=>rfl
 |[a,b,c,d]=>by
  unfold WhB.cxOk g5 vE
  dsimp only
  rw[Bool.eq_iff_iff]
  simp only[Bool.and_eq_true,decide_eq_true_eq]
  constructor
  ·rintro⟨a1,a2,a3,a4,a5,a6⟩
   exact⟨rfl,⟨Int.ofNat_le.mpr a1,a2,a3⟩,Int.ofNat_le.mpr a4,a5,a6⟩
  ·rintro⟨_,⟨a1,a2,a3⟩,a4,a5,a6⟩
   exact⟨Int.ofNat_le.mp a1,a2,a3,Int.ofNat_le.mp a4,a5,a6⟩
 |a::b::c::d::e::r=>by
  unfold g5
  have z:decide ((a::b::c::d::e::r:List Int).length=4)=false:=decide_eq_false (by simp only[List.length_cons];lia)
  rw[z]
  rfl
theorem JC{s:List Int}(h:g5 s=true):1≤s.getD 1 0∧1≤s.getD 3 0∧s.length=4:=by
 unfold g5 vE at h
 simp only[Bool.and_eq_true,decide_eq_true_eq] at h
 lia
theorem OB{s:List Int}(h:g5 s=true):((s.getD 1 0*s.getD 3 0:Int):Rat)*(WhB.cxIn s).re=((s.getD 0 0*s.getD 3 0:Int):Rat)∧((s.getD 1 0*s.getD 3 0:Int):Rat)*(WhB.cxIn s).im=((s.getD 2 0*s.getD 1 0:Int):Rat):=by
 obtain⟨h1,h3,h4⟩:=JC h
 match s,h4 with
 |[a,b,c,d],_=>
  have h1:1≤b:=h1
  have h3:1≤d:=h3
  show((b*d:Int):Rat)*((a:Rat) / (b:Rat))=((a*d:Int):Rat)∧((b*d:Int):Rat)*((c:Rat) / (d:Rat))=((c*b:Int):Rat)
  have b0:(b:Rat)≠0:=fun e=>by
   have:b=0:=by exact_mod_cast e
   lia
  have d0:(d:Rat)≠0:=fun e=>by
   have:d=0:=by exact_mod_cast e
   lia
  rw[Rat.intCast_mul,Rat.intCast_mul,Rat.intCast_mul]
  constructor <;>grind
theorem value_eq{src what k:Int}(s0:0≤src)(w0:0≤what)(k0:0≤k)(l s:List Int):value src what k l s=PyWrwirb.value src what k l s:=by
 have e:PyWrwirb.value src what k l s=WhBNeutral.shown (WhB.answer (.value src.toNat what.toNat k.toNat l s)):=rfl
 rw[e]
 unfold WhB.answer
 dsimp only
 unfold value
 dsimp only
 rw[K3]
 cases hf:g5 s with
 |false=>rw[if_pos rfl,if_pos rfl];rfl
 |true=>
 rw[if_neg (show ¬true=false by simp),if_neg (show ¬true=false by simp),Jo]
 by_cases hr:bB l=[]
 rotate_left
 ·have dq:bD src what k l=⟨bB l,[],[]⟩:=by
   unfold bD
   rw[if_pos hr]
  rw[dq,if_pos hr,if_pos hr]
 rw[if_neg (fun z:bB l≠[]=>z hr)]
 obtain⟨R,dB⟩:=right_of hr
 rw[ML R s0,MM R w0 k0]
 by_cases hq:gf (aW l) src=false∨fC (aW l) what k=false
 ·have dq:bD src what k l=⟨[-3],[],[]⟩:=by
   unfold bD
   rw[if_neg (fun z=>z hr),if_pos hq]
  rw[dq,if_pos hq]
  rfl
 rw[if_neg hq]
 have h1:gf (aW l) src=true:=by
  cases e:gf (aW l) src with
  |true=>rfl
  |false=>exact absurd (.inl e) hq
 have h2:fC (aW l) what k=true:=by
  cases e:fC (aW l) what k with
  |true=>rfl
  |false=>exact absurd (.inr e) hq
 have dq0:bD src what k l=match point (aW l) with
  |none=>⟨[-4],[],[]⟩
  |some pt=>match sol (rows (bN (aW l) pt.1 src)) with
   |none=>⟨[],[],[]⟩
   |some s=>⟨[],fM (bN (aW l) pt.1 src) s what k,s.1⟩:=by
  unfold bD
  rw[if_neg (fun z=>z hr),if_neg hq]
  all_goals
   cases point (aW l) with
   |none=>rfl
   |some p=>
    dsimp only
    cases sol (rows (bN (aW l) p.1 src)) <;>rfl
 unfold WhB.ofPoint
 have pr:=ui R
 cases hp:point (aW l) with
 |none=>
  rw[hp] at pr dq0
  have dq:bD src what k l=⟨[-4],[],[]⟩:=dq0
  rw[dq]
  cases hP:(ao (aW l)).point with
  |none=>rfl
  |some y=>rw[hP] at pr;exact pr.elim
 |some p=>
  rw[hp] at pr dq0
  cases hP:(ao (aW l)).point with
  |none=>rw[hP] at pr;exact pr.elim
  |some y=>
   rw[hP] at pr
   obtain⟨_,hst,D0⟩:=pr
   obtain⟨d,tops,es,D⟩:=qF R hst D0 s0 h1
   obtain⟨q,q0,hd,ht⟩:=D.ex
   obtain⟨tT,eT⟩:=EI R D ht w0 k0 h2
   dsimp only at dq0
   rw[es] at dq0
   have dq:bD src what k l=⟨[],fM (bN (aW l) p.1 src) (d,tops) what k,d⟩:=dq0
   rw[dq,if_neg (by simp)]
   dsimp only
   obtain⟨x1,x2⟩:=OB hf
   have c0:s.getD 1 0*s.getD 3 0≠0:=by
    obtain⟨y1,y2,_⟩:=JC hf
    have:=Int.mul_pos (show 0<s.getD 1 0 by lia) (show 0<s.getD 3 0 by lia)
    lia
   rw[JB c0 x1 x2 q0 (LQ eT _) (LQ hd _)]
   by_cases hz:(valueCx ((ao (aW l)).determinant (Wh.alone y.1 src.toNat)) (WhB.cxIn s)).isZero=true
   ·rw[if_pos hz,if_pos hz]
    rfl
   ·rw[if_neg hz,if_neg hz]
    rfl
end ak
namespace B7
open PySem PySem.Spec PyProof.Rows L2
def top(i:Nat):Stmt:=PySem.Challenge.pw_wirequotients_s02_value.main.body.getD i (.Pass ⟨0,0,0,0⟩)
structure Txt(mg:Str→Option Value):Prop where
 dz:mg "len"=none
 xB:mg "list"=none
 Gz:mg "max"=none
 JD:mg "sum"=none
 Df:mg "all"=none
 GA:mg "any"=none
 Ao:mg "abs"=none
 fJ:mg "range"=none
 di:mg "enumerate"=none
 JE:mg "zip"=none
 qI:mg "reversed"=none
def cN(H:Hp)(v:V)(l:List Int):Prop:=∃a,v= .ref a∧H a=some (.lst (l.map V.int))
theorem cN.same{H H':Hp}{v:V}{l:List Int}(h:cN H v l)(s:aJ H H'):cN H' v l:=let ⟨a,e,q⟩:=h;⟨a,e,s _ _ q⟩
def nE(H:Hp)(Q:VK)(l:List Int):Prop:=∀p H',H p=none→aJ H H'→H' p=some (.lst (l.map V.int))→Q (.ref p) H'
theorem nE.of{H H1:Hp}{Q:VK}{l:List Int}(k:nE H Q l)(s:aJ H H1):nE H1 Q l:=fun p H' hp s' e=>k p H' (s.free hp) (s.trans s') e
section
variable {P:Program}{w:World}{K:PySem.W.Frag}{mg:Str→Option Value}{base:Heap}
abbrev qJ:Stmt:=top 17
theorem Dh:aE ["x"] ["x"] (au qJ):=sco rfl rfl rfl rfl (by decide +kernel)
def j8:Sp:=fun vs H Q _=>∃x:Int,vs=[.int x]∧nE H Q (ak.cst x)
theorem Di(G:dD K mg "constant" qJ ["x"]):bo P w K mg base "constant" ["x"] 1 j8:=by
 have sc:=Dh
 refine G.eD sc (fun vs H Q E ⟨x,e,_⟩=>by rw[e];rfl) fun f cdv A outer s H vs Q E hr h=> ?_
 obtain⟨x,rfl,k⟩:=h
 refine⟨_,(aq (aD (iy (bf vc (pv 0) aA (aZ _)) (aN (aa (pv 0) ah)) (aN ah)))),?_⟩
 refine⟨_,rfl,rfl,_,rfl,?_⟩
 by_cases hx:x=0
 ·subst hx
  refine LA rfl ?_
  exact⟨Nat.zero_le _,fun p hp=>k p _ hp (ay hp) ai⟩
 ·have e:(!decide (V.int x=V.int 0))=true:=by simp[hx]
  rw[e]
  refine bx ⟨_,rfl,aw (by simp),fun p hp=>k p _ hp (ay hp) ?_⟩
  rw[ai]
  unfold ak.cst
  rw[if_neg hx]
  rfl
abbrev uq:Stmt:=top 16
theorem EN:aE ["coefficients","length"] ["coefficients"] (au uq):=sco rfl rfl rfl rfl (by decide +kernel)
def xC:Sp:=fun vs H Q _=>∃v c,vs=[v]∧cN H v c∧nE H Q (ak.G6 c)
theorem EO(T:Txt mg)(G:dD K mg "trimmed" uq ["coefficients"]):bo P w K mg base "trimmed" ["coefficients"] 1 xC:=by
 have sc:=EN
 refine G.eD sc (fun vs H Q E ⟨v,c,e,_⟩=>by rw[e];rfl) fun f cdv A outer s H vs Q E hr h=> ?_
 obtain⟨v,c,rfl,⟨a,rfl,ha⟩,k⟩:=h
 refine⟨_,(aj (aH (i:=1) sc.nd rfl (by first|left;rfl|right;rfl) (aY (br K) rfl T.dz bb (aa (pv 0) ah)))
   (aj (Cf PassesOwn.never (PW.pt (DU (bf ve (pv 1) aA (aZ _)) (AI (bf de (aK (dR K) (pv 0) (a9 iI (pv 1) aA) (fun _ _=>rfl)) aA (aZ _))))) (aq (AK (i:=1) sc.nd rfl (Or.inl rfl) aA Ij)))
   (aq (aD (nV (Oq K) (pv 0) AN (lY (pv 1))))))),?_⟩
 refine⟨_,rfl,a,_,rfl,.inl (.of ha),?_⟩
 refine⟨fun m σ H'=>H'=H∧m≤c.length∧σ=[some (.ref a),some (.int (m:Int))]∧ak.qA c c.length=ak.qA c m,⟨c.length,rfl,Nat.le_refl _,by simp[L2.start],rfl⟩,?_⟩
 rintro m σ H' ⟨rfl,hm,rfl,ht⟩
 have fin:ak.qA c m=m→nE H' Q (c.take m):=fun e=>by
  unfold ak.G6 at k
  rwa [ht,e] at k
 refine⟨_,rfl,_,_,rfl,rfl,_,rfl,?_⟩
 have out:ak.qA c m=m→L6 (Ql (Mm K) (wA 0) FH (Lz (wA 1))) {nx:=fun _ H'=>Q .fG H',rt:=Q} [some (.ref a),some (.int (m:Int))] H':=fun e=>by
  refine⟨_,rfl,_,rfl,_,rfl,a,_,rfl,.of ha,fun p hp=> ?_⟩
  refine fin e p _ hp (ay hp) ?_
  rw[ai]
  unfold qu
  rw[HT.lX,lMp,Nat.min_eq_left hm]
  simp[HT.yI]
 by_cases h0:0<m
 ·rw[decide_eq_true (show(m:Int)>0 by lia)]
  have hx:(c.map V.int)[m - 1]? =some (.int (c.getD (m - 1) 0)):=cu (by lia)
  refine bx ⟨_,rfl,_,rfl,_,_,rfl,rfl,a,_,_,_,rfl,rfl,.of ha,aG (j:=m - 1) (by lia) hx,rfl,_,rfl,?_⟩
  obtain⟨n,rfl⟩:∃n,m=n+1:=⟨m - 1,by lia⟩
  by_cases hz:c.getD n 0=0
  ·have e:decide (V.int (c.getD (n+1 - 1) 0)=V.int 0)=true:=by simpa using hz
   rw[e]
   refine bx ⟨_,fun σ' H2 q=>⟨n,by lia,q⟩,_,rfl,_,_,rfl,rfl,rfl,by lia,?_,?_⟩
   ·show[some (V.ref a),some (V.int (((n+1:Nat):Int) - 1))]=_
    have:((n+1:Nat):Int) - 1=(n:Int):=by lia
    rw[this]
   ·rw[ht]
    show(if c.getD n 0=0 then _ else _)=_
    rw[if_pos hz]
  ·have e:decide (V.int (c.getD (n+1 - 1) 0)=V.int 0)=false:=by simpa using hz
   rw[e]
   refine bC (out ?_)
   show(if c.getD n 0=0 then _ else _)=_
   rw[if_neg hz]
 ·have e0:m=0:=by lia
  subst e0
  exact bC (bC (out rfl))
end
theorem bI{α β:Type}(f:α→β)(l:List α)(i:Nat)(x:α)(h:l[i]? =some x):(l.take (i+1)).map f=(l.take i).map f ++ [f x]:=by
 rw[List.take_add_one,h]
 simp
theorem il{l:List Int}{i:Nat}{v:V}(h:(l.map V.int)[i]? =some v):∃x,l[i]? =some x∧v= .int x:=by
 rw[List.getElem?_map] at h
 cases e:l[i]? with
 |none=>rw[e] at h;cases h
 |some x=>rw[e] at h;exact⟨x,rfl,(Option.some.inj h).symm⟩
theorem cD{α:Type}{l:List α}{i:Nat}{x:α}(h:l[i]? =some x):i<l.length:=(List.getElem?_eq_some_iff.mp h).1
section
variable {P:Program}{w:World}{K:PySem.W.Frag}{mg:Str→Option Value}{base:Heap}
def Short(l:List Int):Prop:=l.length<1000000
abbrev pM:Stmt:=top 18
theorem ER:aE ["polynomial","x"] ["polynomial"] (au pM):=sco rfl rfl rfl rfl (by decide +kernel)
def xD:Sp:=fun vs H Q _=>∃v c,vs=[v]∧cN H v c∧Short c∧nE H Q (ak.Kf c)
theorem ES(G:dD K mg "negated" pM ["polynomial"]):bo P w K mg base "negated" ["polynomial"] 1 xD:=by
 have sc:=ER
 refine G.eD sc (fun vs H Q E ⟨v,c,e,_⟩=>by rw[e];rfl) fun f cdv A outer s H vs Q E hr h=> ?_
 obtain⟨v,c,rfl,⟨a,rfl,ha⟩,hs,k⟩:=h
 refine⟨_,(aq (aD (lL rfl sc.nd (cw (pv 0)) (cf (own:=[("x",1)]) (by show lM ["polynomial","x"] (au pM) _ _=true;decide +kernel)) (fun _ _ _ _ _=>(aQ (i:=1) sc.nd rfl (Or.inl rfl))) (fun _ _ _ _ _=>dC) (fun _ _ _ _ _=>(gr dQ (pv 1)))))),?_⟩
 refine⟨_,rfl,a,rfl,⟨_,.of ha⟩,fun D hD=>ny (cy (.of ha)) hD (fun i _ acc=>acc=(c.take i).map fun x=>V.int (-x)) rfl ?_ ?_⟩
 ·rintro i x H1 H2 acc hi s1 hD1 hacc s2 s12 hD2 hx
  obtain⟨z,hz,rfl⟩:=il hx
  refine⟨rfl,⟨_,rfl,_,rfl,?_⟩⟩
  refine dE hD s2 hD2 ?_ ?_
  ·rw[hacc,lMp,List.length_take]
   unfold Short at hs
   exact aL (by lia)
  ·rw[hacc,bI _ _ _ _ hz]
 ·intro H1 acc s1 hD1 hacc
  refine k D H1 hD s1 ?_
  rw[hD1,hacc,lMp,List.take_length]
  unfold ak.Kf
  rw[List.map_map]
  rfl
end
def arr(n:Nat)(f:Nat→Int):List V:=(List.range n).map fun j=>V.int (f j)
theorem fK(n:Nat)(f:Nat→Int):(arr n f).length=n:=by unfold arr;simp
theorem j9{n:Nat}{f:Nat→Int}{i:Nat}(h:i<n):(arr n f)[i]? =some (V.int (f i)):=by
 unfold arr
 rw[List.getElem?_map,List.getElem?_range h];rfl
theorem cU{n:Nat}{f g:Nat→Int}(h:∀j,j<n→f j=g j):arr n f=arr n g:=by
 unfold arr
 exact List.map_congr_left fun j hj=>by rw[h j (List.mem_range.mp hj)]
theorem r8{n:Nat}{f:Nat→Int}{i:Nat}{z:Int}:(arr n f).set i (V.int z)=arr n fun j=>if j=i then z else f j:=by
 refine List.ext_getElem? fun j=> ?_
 rw[List.getElem?_set]
 by_cases q:i=j
 ·subst q
  rw[if_pos rfl,fK]
  by_cases h:i<n
  ·rw[if_pos h,j9 h,if_pos rfl]
  ·rw[if_neg h]
   exact(List.getElem?_eq_none (by rw[fK];lia)).symm
 ·rw[if_neg q]
  by_cases h:j<n
  ·rw[j9 h,j9 h,if_neg (Ne.symm q)]
  ·rw[List.getElem?_eq_none (by rw[fK];lia),List.getElem?_eq_none (by rw[fK];lia)]
theorem BC{l:List Int}{n:Nat}(h:l.length=n):l.map V.int=arr n fun j=>l.getD j 0:=by
 refine List.ext_getElem? fun j=> ?_
 by_cases q:j<n
 ·rw[j9 q,cu (by lia)]
 ·rw[List.getElem?_eq_none (by rw[lMp];lia),List.getElem?_eq_none (by rw[fK];lia)]
theorem BD(n:Nat):(List.replicate n [V.int 0]).flatten=arr n fun _=>0:=by
 unfold arr
 induction n with
 |zero=>rfl
 |succ n ih=>
  rw[List.replicate_succ',List.flatten_append,ih,List.range_succ,List.map_append]
  rfl
theorem imax(a b:Nat):(if(b:Int)>(a:Int) then(b:Int) else(a:Int))=((max a b:Nat):Int):=by
 split <;>lia
section
variable {P:Program}{w:World}{K:PySem.W.Frag}{mg:Str→Option Value}{base:Heap}
abbrev BE:Stmt:=top 19
theorem JF:aE ["left","right","result","power","x","y"] ["left","right"] (au BE):=sco rfl rfl rfl rfl (by decide +kernel)
def xE:Sp:=fun vs H Q _=>∃v u l r,vs=[v,u]∧cN H v l∧cN H u r∧Short l∧Short r∧nE H Q (ak.A6 l r)
theorem JG(T:Txt mg)(uu:bo P w K mg base "trimmed" ["coefficients"] 1 xC)(G:dD K mg "added" BE ["left","right"]):bo P w K mg base "added" ["left","right"] 2 xE:=by
 have sc:=JF
 refine G.eD sc (fun vs H Q E ⟨v,u,l,r,e,_⟩=>by rw[e];rfl) fun f cdv A outer s H vs Q E hr h=> ?_
 obtain⟨v,u,l,r,rfl,⟨a,rfl,ha⟩,⟨b,rfl,hb⟩,hl,hr',k⟩:=h
 unfold Short at hl hr'
 refine⟨_,(aj (aH (i:=2) sc.nd rfl (by first|left;rfl|right;rfl) (a9 AU (aN (aa aA ah)) (aY (zD rfl) rfl T.Gz wH (aa (aY (br K) rfl T.dz bb (aa (pv 0) ah)) (aa (aY (br K) rfl T.dz bb (aa (pv 1) ah)) ah)))))
   (aj (cX PassesOwn.never rfl (lZ rfl T.di (aa (pv 0) ah)) (gu K (n:=2) rfl (bM (aQ (i:=3) sc.nd rfl (Or.inl rfl)) (bM (aQ (i:=4) sc.nd rfl (Or.inl rfl)) gq))) (aq (tJ (pv 4) (tI (pv 2) (pv 3) set_list))))
   (aj (cX PassesOwn.never rfl (lZ rfl T.di (aa (pv 1) ah)) (gu K (n:=2) rfl (bM (aQ (i:=3) sc.nd rfl (Or.inl rfl)) (bM (aQ (i:=5) sc.nd rfl (Or.inl rfl)) gq))) (aq (AL (pv 2) (pv 3) qv (pv 5) DV set_list)))
   (aq (aD (aB uu (hr.mono (by decide)) rfl (aa (pv 2) ah))))))),?_⟩
 refine⟨aw (by simp),fun q hq=> ?_⟩
 have s1:aJ H (upd H q (.lst [.int 0])):=ay hq
 refine⟨_,rfl,a,_,rfl,.inl (.of (s1 _ _ ha)),_,rfl,b,_,rfl,.inl (.of (s1 _ _ hb)),_,_,rfl,?_⟩
 rw[lMp,lMp,imax]
 generalize hn:max l.length r.length=n
 refine⟨q,_,_,rfl,rfl,ai,by lia,by lia,aw (by simp;lia),fun p hp=> ?_⟩
 rw[Int.toNat_natCast,BD]
 have hpH:H p=none:=s1.free hp
 have s2:=s1.trans (ay (o:= .lst (arr n fun _=>0)) hp)
 refine⟨_,rfl,a,_,rfl,.of (s2 _ _ ha),fA (l6 (K:=K) (.of ha)) (fun i σ H'=>∃x3 x4,σ=[some (.ref a),some (.ref b),some (.ref p),x3,x4,none]∧aJ H H'∧H' p=some (.lst (arr n fun j=>if j<i then l.getD j 0 else 0))) ?_ (fun i σ H' ⟨_,_,_,s,_⟩=>s) ?_ ?_⟩
 ·exact⟨none,none,rfl,s2,by rw[ai];simp⟩
 ·rintro i x σ H1 H2 hi ⟨x3,x4,rfl,s3,hp1⟩ s4 s12 ⟨t,y,rfl,ht,hy⟩
  obtain⟨z,hz,rfl⟩:=il hy
  have hil:=cD hz
  refine⟨t,_,rfl,.of ht,rfl,_,_,rfl,_,_,rfl,rfl,?_⟩
  refine⟨_,rfl,_,rfl,_,rfl,p,_,_,i,rfl,rfl,s12 _ _ hp1,l9 rfl (by rw[fK];lia),?_⟩
  refine⟨_,_,rfl,s4.over hpH,?_⟩
  rw[ai,r8]
  refine congrArg (fun q=>some (HO.lst q)) (cU fun j hj=> ?_)
  by_cases e:j=i
  ·subst e
   rw[if_pos rfl,if_pos (by lia),gDe,hz];rfl
  ·rw[if_neg e]
   by_cases e2:j<i
   ·rw[if_pos e2,if_pos (by lia)]
   ·rw[if_neg e2,if_neg (by lia)]
 ·rintro σ H1 ⟨x3,x4,rfl,s3,hp1⟩
  refine⟨_,rfl,b,_,rfl,.of (s3 _ _ hb),fA (l6 (K:=K) (.of hb)) (fun i σ H'=>∃x3 x4 x5,σ=[some (.ref a),some (.ref b),some (.ref p),x3,x4,x5]∧aJ H H'∧H' p=some (.lst (arr n fun j=>l.getD j 0+if j<i then r.getD j 0 else 0))) ?_ (fun i σ H' ⟨_,_,_,_,s,_⟩=>s) ?_ ?_⟩
  ·refine⟨_,_,_,rfl,s3,?_⟩
   rw[hp1]
   refine congrArg (fun q=>some (HO.lst q)) (cU fun j hj=> ?_)
   rw[lMp]
   by_cases e:j<l.length
   ·rw[if_pos e,if_neg (by lia)];lia
   ·rw[if_neg e,if_neg (by lia),gDe,List.getElem?_eq_none (by lia)];rfl
  ·rintro i x σ H2 H3 hi ⟨x3,x4,x5,rfl,s5,hp2⟩ s6 s23 ⟨t,y,rfl,ht,hy⟩
   obtain⟨z,hz,rfl⟩:=il hy
   have hil:=cD hz
   have hp3:=s23 _ _ hp2
   refine⟨t,_,rfl,.of ht,rfl,_,_,rfl,_,_,rfl,rfl,?_⟩
   refine⟨_,rfl,_,rfl,p,_,_,i,_,rfl,rfl,.of hp3,rfl,j9 (by lia),_,rfl,_,_,rfl,rfl,p,_,_,i,rfl,rfl,hp3,l9 rfl (by rw[fK];lia),?_⟩
   refine⟨_,_,_,rfl,s6.over hpH,?_⟩
   rw[ai,r8]
   refine congrArg (fun q=>some (HO.lst q)) (cU fun j hj=> ?_)
   by_cases e:j=i
   ·subst e
    rw[if_pos rfl,if_neg (by lia),if_pos (by lia),gDe (l:=r),hz]
    simp
   ·rw[if_neg e]
    by_cases e2:j<i
    ·rw[if_pos e2,if_pos (by lia)]
    ·rw[if_neg e2,if_neg (by lia)]
  ·rintro σ H2 ⟨x3,x4,x5,rfl,s5,hp2⟩
   refine⟨_,rfl,.ref p,ak.iB l r,rfl,⟨p,rfl,?_⟩,k.of s5⟩
   rw[hp2,BC (l:=ak.iB l r) (n:=n) (by rw[ak.gy];exact hn)]
   refine congrArg (fun q=>some (HO.lst q)) (cU fun j hj=> ?_)
   rw[lMp,ak.gx]
   by_cases e:j<r.length
   ·rw[if_pos e]
   ·rw[if_neg e,gDe (l:=r),List.getElem?_eq_none (by lia)];rfl
end
section
variable {P:Program}{w:World}{K:PySem.W.Frag}{mg:Str→Option Value}{base:Heap}
abbrev mv:Stmt:=top 20
theorem yO:aE ["left","right"] ["left","right"] (au mv):=sco rfl rfl rfl rfl (by decide +kernel)
def kU:Sp:=fun vs H Q _=>∃v u l r,vs=[v,u]∧cN H v l∧cN H u r∧Short l∧Short r∧nE H Q (ak.rP l r)
theorem yP(uv:bo P w K mg base "negated" ["polynomial"] 1 xD)(pN:bo P w K mg base "added" ["left","right"] 2 xE)(G:dD K mg "subtracted" mv ["left","right"]):bo P w K mg base "subtracted" ["left","right"] 3 kU:=by
 have sc:=yO
 refine G.eD sc (fun vs H Q E ⟨v,u,l,r,e,_⟩=>by rw[e];rfl) fun f cdv A outer s H vs Q E hr h=> ?_
 obtain⟨v,u,l,r,rfl,pl,pr,hl,hr',k⟩:=h
 refine⟨_,(aq (aD (aB pN (hr.mono (by decide)) rfl (aa (pv 0) (aa (aB uv (hr.mono (by decide)) rfl (aa (pv 1) ah)) ah))))),?_⟩
 refine⟨_,rfl,_,rfl,_,_,rfl,pr,hr',fun p H' hp s1 e=> ?_⟩
 exact⟨_,_,l,ak.Kf r,rfl,pl.same s1,⟨p,rfl,e⟩,hl,by unfold Short at *;rw[ak.wm];exact hr',k.of s1⟩
abbrev kW:Stmt:=top 23
theorem xF:aE ["polynomial"] ["polynomial"] (au kW):=sco rfl rfl rfl rfl (by decide +kernel)
def oC:Sp:=fun vs H Q _=>∃v c,vs=[v]∧cN H v c∧Q (.int (ak.bF c)) H
theorem xG(G:dD K mg "constant_of" kW ["polynomial"]):bo P w K mg base "constant_of" ["polynomial"] 1 oC:=by
 have sc:=xF
 refine G.eD sc (fun vs H Q E ⟨v,c,e,_⟩=>by rw[e];rfl) fun f cdv A outer s H vs Q E hr h=> ?_
 obtain⟨v,c,rfl,⟨a,rfl,ha⟩,k⟩:=h
 refine⟨_,(aq (aD (iy (bA K (pv 0) (fun _=>rfl)) (aK (dR K) (pv 0) aA (fun _ _=>rfl)) aA))),?_⟩
 refine⟨_,rfl,_,.inl ⟨_,.of ha,rfl⟩,?_⟩
 cases c with
 |nil=>exact bC k
 |cons z c=>exact bx ⟨_,rfl,a,_,_,_,rfl,rfl,.of ha,aG (j:=0) rfl rfl,k⟩
abbrev fO:Stmt:=top 24
theorem pT:aE ["x","y","large","small","rest"] ["x","y"] (au fO):=sco rfl rfl rfl rfl (by decide +kernel)
def iU:Sp:=fun vs H Q _=>∃x y:Int,vs=[.int x,.int y]∧Q (.int (ak.CH x y)) H
theorem MQ(x:Int):(if x<0 then -x else x)=(x.natAbs:Int):=by split <;>lia
theorem pU(T:Txt mg)(G:dD K mg "greatest_divisor" fO ["x","y"]):bo P w K mg base "greatest_divisor" ["x","y"] 1 iU:=by
 have sc:=pT
 refine G.eD sc (fun vs H Q E ⟨x,y,e,_⟩=>by rw[e];rfl) fun f cdv A outer s H vs Q E hr h=> ?_
 obtain⟨x,y,rfl,k⟩:=h
 refine⟨_,(aj (aH (i:=2) sc.nd rfl (by first|left;rfl|right;rfl) (aY rJ rfl T.Ao l5 (aa (pv 0) ah)))
   (aj (aH (i:=3) sc.nd rfl (by first|left;rfl|right;rfl) (aY rJ rfl T.Ao l5 (aa (pv 1) ah)))
   (aj (Cf PassesOwn.never (bf vc (pv 3) aA (aZ _)) (aj (aH (i:=4) sc.nd rfl (by first|left;rfl|right;rfl) (a9 Ik (pv 2) (pv 3)))
   (aj (aH (i:=2) sc.nd rfl (by first|left;rfl|right;rfl) (pv 3))
   (aq (aH (i:=3) sc.nd rfl (by first|left;rfl|right;rfl) (pv 4))))))
   (aq (aD (pv 2)))))),?_⟩
 refine⟨_,rfl,_,rfl,_,rfl,_,rfl,?_⟩
 rw[MQ,MQ]
 refine⟨fun m σ H'=>∃(g:Nat) (z:Option V),H'=H∧σ=[some (.int x),some (.int y),some (.int (g:Int)),some (.int (m:Int)),z]∧Nat.gcd g m=Nat.gcd x.natAbs y.natAbs,⟨y.natAbs,x.natAbs,none,rfl,rfl,rfl⟩,?_⟩
 rintro m σ H' ⟨g,z,rfl,rfl,hg⟩
 refine⟨_,rfl,rfl,_,rfl,?_⟩
 by_cases h0:m=0
 ·subst h0
  refine LA rfl ?_
  refine⟨_,rfl,?_⟩
  unfold ak.CH at k
  rw[←hg,Nat.gcd_zero_right] at k
  exact k
 ·have e:(!decide (V.int (m:Int)=V.int 0))=true:=by simp[h0]
  rw[e]
  refine bx ⟨_,fun σ' H2 q=>⟨g % m,Nat.mod_lt _ (by lia),q⟩,_,rfl,_,rfl,_,_,rfl,rfl,by lia,?_⟩
  refine⟨_,rfl,_,rfl,m,some (.int ((g:Int) % (m:Int))),rfl,?_,?_⟩
  ·show[some (V.int x),some (V.int y),some (V.int (m:Int)),some (V.int ((g:Int) % (m:Int))),some (V.int ((g:Int) % (m:Int)))]=_
   rw[←Int.natCast_emod]
  ·rw[Nat.gcd_comm,←Nat.gcd_rec,Nat.gcd_comm];exact hg
end
theorem MR{l:List Int}(h:l≠[]):Iy (l.map V.int) (-1)=some (V.int (ak.lc l)):=by
 have hl:0<l.length:=List.length_pos_iff.mpr h
 unfold Iy Iw
 rw[lMp,if_neg (by decide),if_pos (by lia)]
 show(l.map V.int)[(-1+(l.length:Int)).toNat]? =_
 have e:(-1+(l.length:Int)).toNat=l.length - 1:=by lia
 rw[e,cu (by lia)]
 rfl
theorem ET{K:PySem.W.Frag}{H:Hp}{a:Addr}{l:List V}(h:H a=some (.lst l)):Kl K (.ref a) H (!l.isEmpty):= .inl ⟨_,.of h,rfl⟩
theorem g6{l:List Int}(h:l≠[]):(!(l.map V.int).isEmpty)=true:=by
 cases l with
 |nil=>exact absurd rfl h
 |cons=>rfl
section
variable {P:Program}{w:World}{K:PySem.W.Frag}{mg:Str→Option Value}{base:Heap}
abbrev mw:Stmt:=top 21
theorem yQ:aE ["left","right","result","low","x","high","y"] ["left","right"] (au mw):=sco rfl rfl rfl rfl (by decide +kernel)
def kX:Sp:=fun vs H Q _=>∃v u l r,vs=[v,u]∧cN H v l∧cN H u r∧Short l∧Short r∧(∀x∈l,∀y∈r,IntMulOk x y)∧nE H Q (ak.dO l r)
theorem yR(T:Txt mg)(G:dD K mg "multiplied" mw ["left","right"]):bo P w K mg base "multiplied" ["left","right"] 1 kX:=by
 have sc:=yQ
 refine G.eD sc (fun vs H Q E ⟨v,u,l,r,e,_⟩=>by rw[e];rfl) fun f cdv A outer s H vs Q E hr h=> ?_
 obtain⟨v,u,l,r,rfl,⟨a,rfl,ha⟩,⟨b,rfl,hb⟩,hl,hr',hm,k⟩:=h
 unfold Short at hl hr'
 refine⟨_,(aj (bJ (PW.pt (Cd (fL (bA K (pv 0) (fun _=>rfl))) (AJ (fL (bA K (pv 1) (fun _=>rfl)))))) (aq (aD (aN ah))) aT)
   (aj (aH (i:=2) sc.nd rfl (by first|left;rfl|right;rfl) (a9 AU (aN (aa aA ah)) (a9 iI (a9 eV (aY (br K) rfl T.dz bb (aa (pv 0) ah)) (aY (br K) rfl T.dz bb (aa (pv 1) ah))) aA)))
   (aj (cX PassesOwn.never rfl (lZ rfl T.di (aa (pv 0) ah)) (gu K (n:=2) rfl (bM (aQ (i:=3) sc.nd rfl (Or.inl rfl)) (bM (aQ (i:=4) sc.nd rfl (Or.inl rfl)) gq))) (aq (cX PassesOwn.never rfl (lZ rfl T.di (aa (pv 1) ah)) (gu K (n:=2) rfl (bM (aQ (i:=5) sc.nd rfl (Or.inl rfl)) (bM (aQ (i:=6) sc.nd rfl (Or.inl rfl)) gq))) (aq (AL (pv 2) (a9 eV (pv 3) (pv 5)) qv (a9 bW (pv 4) (pv 6)) DV set_list)))))
   (aq (aD (pv 2)))))),?_⟩
 refine⟨_,rfl,_,ET ha,?_⟩
 by_cases l0:l=[]
 ·subst l0
  refine bx (bx ⟨Nat.zero_le _,fun p hp=>k p _ hp (ay hp) ?_⟩)
  rw[ai];rfl
 rw[g6 l0]
 refine bC ⟨_,rfl,_,ET hb,?_⟩
 by_cases r0:r=[]
 ·subst r0
  refine bx ⟨Nat.zero_le _,fun p hp=>k p _ hp (ay hp) ?_⟩
  rw[ai]
  unfold ak.dO
  rw[if_pos (.inr rfl)];rfl
 rw[g6 r0]
 refine bC ?_
 have pl:0<l.length:=List.length_pos_iff.mpr l0
 have pr:0<r.length:=List.length_pos_iff.mpr r0
 have em:ak.dO l r=ak.mulL l r:=by
  unfold ak.dO
  rw[if_neg fun h=>h.elim l0 r0]
 rw[em] at k
 have n:=ak.dG l r l0 r0
 refine⟨aw (by simp),fun q hq=> ?_⟩
 have s1:aJ H (upd H q (.lst [.int 0])):=ay hq
 refine⟨_,rfl,a,_,rfl,.inl (.of (s1 _ _ ha)),_,rfl,b,_,rfl,.inl (.of (s1 _ _ hb)),_,_,rfl,rfl,_,_,rfl,rfl,?_⟩
 rw[lMp,lMp]
 generalize hn:l.length+r.length - 1=m at n
 have en:((l.length:Int)+(r.length:Int) - 1).toNat=m:=by lia
 refine⟨q,_,_,rfl,rfl,ai,by lia,by lia,aw (by simp;lia),fun p hp=> ?_⟩
 rw[en,BD]
 have hpH:H p=none:=s1.free hp
 have s2:=s1.trans (ay (o:= .lst (arr m fun _=>0)) hp)
 refine⟨_,rfl,a,_,rfl,.of (s2 _ _ ha),fA (l6 (K:=K) (.of ha)) (fun i σ H'=>∃x3 x4 x5 x6,σ=[some (.ref a),some (.ref b),some (.ref p),x3,x4,x5,x6]∧aJ H H'∧H' p=some (.lst (arr m fun j=>(ak.mulL (l.take i) r).getD j 0))) ?_ (fun i σ H' ⟨_,_,_,_,_,s,_⟩=>s) ?_ ?_⟩
 ·exact⟨none,none,none,none,rfl,s2,by rw[ai];rfl⟩
 ·rintro i x σ H1 H2 hi ⟨x3,x4,x5,x6,rfl,s3,hp1⟩ s4 s12 ⟨t,y,rfl,ht,hy⟩
  obtain⟨z,hz,rfl⟩:=il hy
  have hil:=cD hz
  have eT:l.take (i+1)=l.take i ++ [z]:=by rw[List.take_add_one,hz];rfl
  have lT:(l.take i).length=i:=by rw[List.length_take];lia
  refine⟨t,_,rfl,.of ht,rfl,_,_,rfl,_,_,rfl,rfl,?_⟩
  refine⟨_,rfl,b,_,rfl,.of (s4 _ _ hb),fA (l6 (K:=K) (.of hb)) (fun h σ H'=>∃x5 x6,σ=[some (.ref a),some (.ref b),some (.ref p),some (.int (i:Nat)),some (.int z),x5,x6]∧aJ H H'∧H' p=some (.lst (arr m fun j=>(ak.mulL (l.take i) r).getD j 0+if i≤j∧j<i+h then z*r.getD (j - i) 0 else 0))) ?_ (fun i σ H' ⟨_,_,_,s,_⟩=>s) ?_ ?_⟩
  ·refine⟨_,_,rfl,s4,?_⟩
   rw[s12 _ _ hp1]
   refine congrArg (fun q=>some (HO.lst q)) (cU fun j hj=> ?_)
   rw[if_neg (by lia)];lia
  ·rintro h x σ H3 H4 hh ⟨x5,x6,rfl,s5,hp3⟩ s6 s34 ⟨t2,y2,rfl,ht2,hy2⟩
   obtain⟨z2,hz2,rfl⟩:=il hy2
   have hhl:=cD hz2
   have hp4:=s34 _ _ hp3
   refine⟨t2,_,rfl,.of ht2,rfl,_,_,rfl,_,_,rfl,rfl,?_⟩
   refine⟨_,rfl,_,rfl,_,rfl,_,_,rfl,rfl,p,_,_,i+h,_,rfl,rfl,.of hp4,by lia,j9 (by lia),_,rfl,_,rfl,_,_,rfl,rfl,hm z (List.mem_of_getElem? hz) z2 (List.mem_of_getElem? hz2),_,_,rfl,rfl,p,_,_,i+h,rfl,rfl,hp4,l9 (by lia) (by rw[fK];lia),?_⟩
   refine⟨_,_,rfl,s6.over hpH,?_⟩
   rw[ai,r8]
   refine congrArg (fun q=>some (HO.lst q)) (cU fun j hj=> ?_)
   by_cases e:j=i+h
   ·subst e
    rw[if_pos rfl,if_neg (by lia),if_pos (by lia)]
    have e2:i+h - i=h:=by lia
    rw[e2,gDe (l:=r),hz2]
    simp
   ·rw[if_neg e]
    by_cases e2:i≤j∧j<i+h
    ·rw[if_pos e2,if_pos (by lia)]
    ·rw[if_neg e2,if_neg (by lia)]
  ·rintro σ H3 ⟨x5,x6,rfl,s5,hp3⟩
   refine⟨_,_,_,_,rfl,s5,?_⟩
   rw[hp3]
   refine congrArg (fun q=>some (HO.lst q)) (cU fun j hj=> ?_)
   rw[eT,ak.d8,lT,lMp]
   by_cases e:i≤j
   ·rw[if_pos e]
    by_cases e2:j<i+r.length
    ·rw[if_pos ⟨e,e2⟩]
    ·rw[if_neg (fun h=>e2 h.2),gDe (l:=r),List.getElem?_eq_none (by lia)]
     simp
   ·rw[if_neg e,if_neg (fun h=>e h.1)]
 ·rintro σ H1 ⟨x3,x4,x5,x6,rfl,s3,hp1⟩
  refine⟨_,rfl,k p H1 hpH s3 ?_⟩
  rw[hp1,lMp,List.take_length,BC (l:=ak.mulL l r) n]
abbrev uw:Stmt:=top 22
theorem EU:aE ["left","right","rest","result","shift","factor","power","y"] ["left","right"] (au uw):=sco rfl rfl rfl rfl (by decide +kernel)
def xH:Sp:=fun vs H Q _=>∃v u l r m,vs=[v,u]∧cN H v l∧cN H u r∧Short l∧Short r∧ak.Trim l∧ak.Trim r∧ak.Trim m∧r≠[]∧ak.bK l=ak.bK m*ak.bK r∧(ak.lc r).natAbs.log2<9000∧(∀x∈m,∀y∈r,IntMulOk x y)∧nE H Q m
theorem EV(T:Txt mg)(G:dD K mg "divided" uw ["left","right"]):bo P w K mg base "divided" ["left","right"] 1 xH:=by
 have sc:=EU
 refine G.eD sc (fun vs H Q E ⟨v,u,l,r,m,e,_⟩=>by rw[e];rfl) fun f cdv A outer s H vs Q E hr h=> ?_
 obtain⟨v,u,l,r,m,rfl,⟨a,rfl,ha⟩,⟨b,rfl,hb⟩,hl,hr',tl,tr,tm,r0,hlm,hlc,hmul,k⟩:=h
 unfold Short at hl hr'
 refine⟨_,(aj (bJ (fL (bA K (pv 0) (fun _=>rfl))) (aq (aD (aN ah))) aT)
   (aj (aH (i:=2) sc.nd rfl (by first|left;rfl|right;rfl) (tM (qw K) rfl T.xB oe (aa (pv 0) ah)))
   (aj (aH (i:=3) sc.nd rfl (by first|left;rfl|right;rfl) (a9 AU (aN (aa aA ah)) (a9 eV (a9 iI (aY (br K) rfl T.dz bb (aa (pv 0) ah)) (aY (br K) rfl T.dz bb (aa (pv 1) ah))) aA)))
   (aj (cX PassesOwn.never rfl (zK rfl T.fJ (aa (a9 iI (aY (br K) rfl T.dz bb (aa (pv 3) ah)) aA) (aa (gr dQ aA) (aa (gr dQ aA) ah)))) (aQ (i:=4) sc.nd rfl (Or.inl rfl)) (aj (aH (i:=5) sc.nd rfl (by first|left;rfl|right;rfl) (a9 Cw (aK (dR K) (pv 2) (a9 iI (a9 eV (pv 4) (aY (br K) rfl T.dz bb (aa (pv 1) ah))) aA) (fun _ _=>rfl)) (aK (dR K) (pv 1) (gr dQ aA) (fun _ _=>rfl))))
   (aj (tJ (pv 5) (tI (pv 3) (pv 4) set_list))
   (aq (cX PassesOwn.never rfl (lZ rfl T.di (aa (pv 1) ah)) (gu K (n:=2) rfl (bM (aQ (i:=6) sc.nd rfl (Or.inl rfl)) (bM (aQ (i:=7) sc.nd rfl (Or.inl rfl)) gq))) (aq (AL (pv 2) (a9 eV (pv 4) (pv 6)) qv (a9 bW (pv 5) (pv 7)) Ij set_list)))))))
   (aq (aD (pv 3))))))),?_⟩
 refine⟨_,rfl,_,ET ha,?_⟩
 by_cases l0:l=[]
 ·subst l0
  have m0:m=[]:=by
   have z:ak.bK m*ak.bK r=0:=hlm.symm
   by_cases q:m=[]
   ·exact q
   ·exact absurd z (ak.PF.IM (fun e=>q ((ak.gh tm).mp e)) (fun e=>r0 ((ak.gh tr).mp e)))
  subst m0
  exact bx ⟨Nat.zero_le _,fun p hp=>k p _ hp (ay hp) (by rw[ai];rfl)⟩
 rw[g6 l0]
 refine bC ?_
 have m0:m≠[]:=fun e=>l0 ((ak.gh tl).mp (by
  rw[hlm,e]
  show(0:ak.PF)*_=0
  grind))
 have el:l=ak.mulL m r:=by
  have t:ak.Trim (ak.mulL m r):=by
   have:=ak.zR tm tr
   unfold ak.dO at this
   rwa [if_neg (fun h=>h.elim m0 r0)] at this
  exact ak.wk tl t (by rw[hlm,ak.oq])
 have ll:l.length=m.length+r.length - 1:=by rw[el];exact ak.dG m r m0 r0
 have pm:0<m.length:=List.length_pos_iff.mpr m0
 have pr:0<r.length:=List.length_pos_iff.mpr r0
 have lcn:=ak.iC.mp tr r0
 refine⟨_,rfl,a,_,rfl,.inl (.of ha),fun c hc=> ?_⟩
 have s0:aJ H (upd H c (.lst (l.map V.int))):=ay hc
 refine⟨aw (by simp),fun q hq=> ?_⟩
 have s1:=s0.trans (ay (o:= .lst [.int 0]) hq)
 refine⟨_,rfl,a,_,rfl,.inl (.of (s1 _ _ ha)),_,rfl,b,_,rfl,.inl (.of (s1 _ _ hb)),_,_,rfl,rfl,_,_,rfl,rfl,?_⟩
 rw[lMp,lMp]
 have en:((l.length:Int) - (r.length:Int)+1).toNat=m.length:=by lia
 refine⟨q,_,_,rfl,rfl,ai,by lia,by lia,aw (by simp;lia),fun p hp=> ?_⟩
 rw[en,BD]
 have hpH:H p=none:=s1.free hp
 have s2:=s1.trans (ay (o:= .lst (arr m.length fun _=>0)) hp)
 have cp:c≠p:=fun e=>by
  rw[e] at hp
  exact absurd hp (by
   rw[←e,aR,ai]
   ·simp
   ·intro e2
    rw[←e2] at hq
    rw[ai] at hq
    cases hq)
 have hcq:(upd (upd (upd H c (.lst (l.map V.int))) q (.lst [.int 0])) p (.lst (arr m.length fun _=>0))) c=some (.lst (l.map V.int)):=by
  rw[aR cp,aR,ai]
  intro e2
  rw[←e2,ai] at hq
  cases hq
 refine⟨_,rfl,p,_,rfl,.inl (.of ai),_,_,rfl,rfl,_,rfl,_,rfl,_,_,_,m.length,rfl,?_,?_⟩
 ·have e:=Oi.neg (i:=(m.length:Int) - 1) (j:= -1) (by lia) (by lia) (by lia) (by lia)
  rw[fK]
  have e2:((m.length:Int) - 1 - -1).toNat=m.length:=by lia
  rw[e2] at e
  exact e
 rw[fK]
 refine fA (zL _ _ _ _) (fun i σ H'=>∃x4 x5 x6 x7,σ=[some (.ref a),some (.ref b),some (.ref c),some (.ref p),x4,x5,x6,x7]∧i≤m.length∧aJ H H'∧H' c=some (.lst (arr l.length fun j=>(ak.mulL (m.take (m.length - i)) r).getD j 0))∧H' p=some (.lst (arr m.length fun j=>if m.length - i≤j then m.getD j 0 else 0))) ?_ (fun i σ H' ⟨_,_,_,_,_,_,s,_⟩=>s) ?_ ?_
 ·refine⟨none,none,none,none,rfl,Nat.zero_le _,s2,?_,?_⟩
  ·rw[hcq,Nat.sub_zero,List.take_length,←el,BC (l:=l) rfl]
  ·rw[ai]
   refine congrArg (fun q=>some (HO.lst q)) (cU fun j hj=> ?_)
   rw[if_neg (by lia)]
 ·rintro i x σ H1 H2 hi ⟨x4,x5,x6,x7,rfl,hi2,s3,hc1,hp1⟩ s4 s12 rfl
  obtain⟨t,et⟩:∃t,m.length - i=t+1:=⟨m.length - i - 1,by lia⟩
  have et2:m.length - (i+1)=t:=by lia
  rw[et] at hc1 hp1
  have hsh:(m.length:Int) - 1+(i:Nat)*(-1)=(t:Int):=by lia
  have hc2:=s12 _ _ hc1
  have hp2:=s12 _ _ hp1
  have eT:m.take (t+1)=m.take t ++ [m.getD t 0]:=ak.wR m t (by lia)
  have lT:(m.take t).length=t:=by rw[List.length_take];lia
  have ef:((ak.mulL (m.take (t+1)) r).getD (t+r.length - 1) 0).fdiv (ak.lc r)=m.getD t 0:=by
   rw[eT,ak.d8,lT,ak.tX (m.take t) r _ r0 (by lia),if_pos (by lia)]
   have e:t+r.length - 1 - t=r.length - 1:=by lia
   rw[e]
   show(0+m.getD t 0*ak.lc r).fdiv (ak.lc r)=_
   rw[Int.zero_add,Int.mul_fdiv_cancel _ lcn]
  rw[hsh]
  refine⟨_,rfl,_,rfl,_,rfl,b,_,rfl,.inl (.of (s4 _ _ hb)),_,_,rfl,rfl,_,_,rfl,rfl,c,_,_,_,rfl,rfl,.of hc2,aG (j:=t+r.length - 1) (by rw[lMp];lia) (j9 (by lia)),?_⟩
  refine⟨_,rfl,_,rfl,b,_,_,_,rfl,rfl,.of (s4 _ _ hb),MR r0,_,_,rfl,rfl,⟨lcn,hlc⟩,?_⟩
  dsimp only[]
  rw[ef]
  refine⟨_,rfl,_,rfl,_,rfl,p,_,_,t,rfl,rfl,hp2,l9 rfl (by rw[fK];lia),?_⟩
  have cp':c≠p:=cp
  have s5:aJ H (upd H2 p (.lst ((arr m.length fun j=>if t+1≤j then m.getD j 0 else 0).set t (.int (m.getD t 0))))):=s4.over hpH
  have hcH:H c=none:=hc
  refine⟨_,rfl,b,_,rfl,.of (s5 _ _ hb),fA (l6 (K:=K) (.of hb)) (fun h σ H'=>∃x6 x7,σ=[some (.ref a),some (.ref b),some (.ref c),some (.ref p),some (.int (t:Int)),some (.int (m.getD t 0)),x6,x7]∧aJ H H'∧H' p=some (.lst (arr m.length fun j=>if t≤j then m.getD j 0 else 0))∧H' c=some (.lst (arr l.length fun j=>(ak.mulL (m.take (t+1)) r).getD j 0 - if t≤j∧j<t+h then m.getD t 0*r.getD (j - t) 0 else 0))) ?_ (fun i σ H' ⟨_,_,_,s,_⟩=>s) ?_ ?_⟩
  ·refine⟨_,_,rfl,s5,?_,?_⟩
   ·rw[ai,r8]
    refine congrArg (fun q=>some (HO.lst q)) (cU fun j hj=> ?_)
    by_cases e:j=t
    ·rw[if_pos e,if_pos (by lia),e]
    ·rw[if_neg e]
     by_cases e2:t+1≤j
     ·rw[if_pos e2,if_pos (by lia)]
     ·rw[if_neg e2,if_neg (by lia)]
   ·rw[aR cp',hc2]
    refine congrArg (fun q=>some (HO.lst q)) (cU fun j hj=> ?_)
    rw[if_neg (by lia)];lia
  ·rintro h x σ H3 H4 hh ⟨x6,x7,rfl,s6,hp3,hc3⟩ s7 s34 ⟨t2,y2,rfl,ht2,hy2⟩
   obtain⟨z2,hz2,rfl⟩:=il hy2
   have hhl:=cD hz2
   have hc4:=s34 _ _ hc3
   refine⟨t2,_,rfl,.of ht2,rfl,_,_,rfl,_,_,rfl,rfl,?_⟩
   have hmm:m.getD t 0∈m:=List.mem_of_getElem? (az (d:=0) (by lia))
   refine⟨_,rfl,_,rfl,_,rfl,_,_,rfl,rfl,c,_,_,t+h,_,rfl,rfl,.of hc4,by lia,j9 (by lia),_,rfl,_,rfl,_,_,rfl,rfl,hmul _ hmm z2 (List.mem_of_getElem? hz2),_,_,rfl,rfl,c,_,_,t+h,rfl,rfl,hc4,l9 (by lia) (by rw[fK];lia),?_⟩
   refine⟨_,_,rfl,s7.over hcH,?_,?_⟩
   ·rw[aR (Ne.symm cp')]
    exact s34 _ _ hp3
   ·rw[ai,r8]
    refine congrArg (fun q=>some (HO.lst q)) (cU fun j hj=> ?_)
    by_cases e:j=t+h
    ·subst e
     rw[if_pos rfl,if_neg (by lia),if_pos (by lia)]
     have e2:t+h - t=h:=by lia
     rw[e2,gDe (l:=r),hz2]
     simp
    ·rw[if_neg e]
     by_cases e2:t≤j∧j<t+h
     ·rw[if_pos e2,if_pos (by lia)]
     ·rw[if_neg e2,if_neg (by lia)]
  ·rintro σ H3 ⟨x6,x7,rfl,s6,hp3,hc3⟩
   refine⟨_,_,_,_,rfl,by lia,s6,?_,?_⟩
   ·rw[hc3,et2]
    refine congrArg (fun q=>some (HO.lst q)) (cU fun j hj=> ?_)
    rw[eT,ak.d8,lT,lMp]
    by_cases e:t≤j
    ·rw[if_pos e]
     by_cases e2:j<t+r.length
     ·rw[if_pos ⟨e,e2⟩];lia
     ·rw[if_neg (fun h=>e2 h.2),gDe (l:=r),List.getElem?_eq_none (by lia)]
      simp
    ·rw[if_neg e,if_neg (fun h=>e h.1)];lia
   ·rw[hp3,et2]
 ·rintro σ H1 ⟨x4,x5,x6,x7,rfl,hi2,s3,hc1,hp1⟩
  refine⟨_,rfl,k p H1 hpH s3 ?_⟩
  rw[hp1,BC (l:=m) rfl]
  refine congrArg (fun q=>some (HO.lst q)) (cU fun j hj=> ?_)
  rw[if_pos (by lia)]
end
abbrev Rp(α:Type):=(Addr→Prop)→Hp→V→α→Prop
def Off(S:Addr→Prop)(H H':Hp):Prop:=∀a o,¬S a→H a=some o→H' a=some o
theorem _root_.L2.aJ.off{H H':Hp}(s:aJ H H')(S:Addr→Prop):Off S H H':=fun a o _ h=>s a o h
theorem bS{S:Addr→Prop}{H:Hp}{p:Addr}{o:HO}(hp:S p):Off S H (upd H p o):=fun a u hs h=>by
 rw[aR (fun e=>hs (by rw[e];exact hp))]
 exact h
theorem _root_.PySem.Paired.dA{α β:Type}{F G:α→β→Prop}{l:List α}{m:List β}(p:Paired F l m)(f:∀a b,F a b→G a b):Paired G l m:=L2.Paired.L1 p f
structure Good{α:Type}(r:Rp α):Prop where
 off:∀{S:Addr→Prop} {H H':Hp} {v:V} {x:α},r S H v x→Off S H H'→r S H' v x
 ue:∀{S S':Addr→Prop} {H:Hp} {v:V} {x:α},r S H v x→(∀a,S' a→S a∨H a=none)→r S' H v x
theorem Good.same{α:Type}{r:Rp α}(g:Good r){S:Addr→Prop}{H H':Hp}{v:V}{x:α}(h:r S H v x)(s:aJ H H'):r S H' v x:=g.off h (s.off S)
theorem Good.less{α:Type}{r:Rp α}(g:Good r){S S':Addr→Prop}{H:Hp}{v:V}{x:α}(h:r S H v x)(s:∀a,S' a→S a):r S' H v x:=g.ue h fun a ha=> .inl (s a ha)
def nF:Rp (List Int):=fun S H v l=>∃a,v= .ref a∧¬S a∧H a=some (.lst (l.map V.int))
theorem cH:Good nF where
 off:=fun⟨a,e,hs,h⟩ o=>⟨a,e,hs,o a _ hs h⟩
 ue:=fun⟨a,e,hs,h⟩ w=>⟨a,e,(fun q=>(w a q).elim hs fun z=>(by rw[h] at z;cases z)),h⟩
theorem nF.at_{S:Addr→Prop}{H:Hp}{v:V}{l:List Int}(h:nF S H v l):cN H v l:=let ⟨a,e,_,q⟩:=h;⟨a,e,q⟩
theorem cN.s{H:Hp}{v:V}{l:List Int}(h:cN H v l):nF (fun _=>False) H v l:=let ⟨a,e,q⟩:=h;⟨a,e,fun z=>z,q⟩
def Hq{α:Type}(r:Rp α):Rp (List α):=fun S H v l=>∃a vs,v= .ref a∧¬S a∧H a=some (.lst vs)∧Paired (r S H) vs l
theorem JH{α:Type}{r:Rp α}(g:Good r):Good (Hq r) where
 off:=fun⟨a,vs,e,hs,h,p⟩ o=>⟨a,vs,e,hs,o a _ hs h,p.dA fun _ _ q=>g.off q o⟩
 ue:=fun⟨a,vs,e,hs,h,p⟩ w=>⟨a,vs,e,fun q=>(w a q).elim hs fun z=>(by rw[h] at z;cases z),h,p.dA fun _ _ q=>g.ue q w⟩
def gT:Rp (Int×List Int):=fun S H v t=>∃a p,v= .ref a∧¬S a∧H a=some (.tup [.int t.1,p])∧nF S H p t.2
theorem d6:Good gT where
 off:=fun⟨a,p,e,hs,h,q⟩ o=>⟨a,p,e,hs,o a _ hs h,cH.off q o⟩
 ue:=fun⟨a,p,e,hs,h,q⟩ w=>⟨a,p,e,fun z=>(w a z).elim hs fun y=>(by rw[h] at y;cases y),h,cH.ue q w⟩
abbrev oE:Rp (List (List Int)):=Hq nF
abbrev JI:Rp (List (List (List Int))):=Hq oE
abbrev mx:Rp (List (Int×List Int)):=Hq gT
abbrev OC:Rp (List (List (Int×List Int))):=Hq mx
theorem bG:Good oE:=JH cH
theorem GB:Good JI:=JH bG
theorem bq:Good mx:=JH d6
theorem _root_.PySem.Paired.iL{α β:Type}{F:α→β→Prop}:∀{l:List α} {m:List β} {i:Nat} {x:α},Paired F l m→l[i]? =some x→∃y,m[i]? =some y∧F x y
 |_,_,_,_,.nil,e=>by simp at e
 |_,_,0,_,.cons r _,e=>by
  simp at e
  subst e
  exact⟨_,rfl,r⟩
 |_,_,i+1,x,.cons _ t,e=>by
  obtain⟨y,h1,h2⟩:=PySem.Paired.iL (i:=i) (x:=x) t (by simpa using e)
  exact⟨y,by simpa using h1,h2⟩
theorem _root_.PySem.Paired.fP{α β:Type}{F:α→β→Prop}:∀{l:List α} {m:List β} {i:Nat} {y:β},Paired F l m→m[i]? =some y→∃x,l[i]? =some x∧F x y
 |_,_,_,_,.nil,e=>by simp at e
 |_,_,0,_,.cons r _,e=>by
  simp at e
  subst e
  exact⟨_,rfl,r⟩
 |_,_,i+1,y,.cons _ t,e=>by
  obtain⟨x,h1,h2⟩:=PySem.Paired.fP (i:=i) (y:=y) t (by simpa using e)
  exact⟨x,by simpa using h1,h2⟩
theorem _root_.PySem.Paired.fB{α β:Type}{F:α→β→Prop}:∀{l:List α} {m:List β} {x:α} {y:β},Paired F l m→F x y→Paired F (l ++ [x]) (m ++ [y])
 |_,_,_,_,.nil,h=> .cons h .nil
 |_,_,_,_,.cons r t,h=> .cons r (PySem.Paired.fB t h)
theorem _root_.PySem.Paired.app{α β:Type}{F:α→β→Prop}:∀{l l':List α} {m m':List β},Paired F l m→Paired F l' m'→Paired F (l ++ l') (m ++ m')
 |_,_,_,_,.nil,h=>h
 |_,_,_,_,.cons r t,h=> .cons r (PySem.Paired.app t h)
theorem _root_.PySem.Paired.setAt{α β:Type}{F:α→β→Prop}{x:α}{y:β}(h:F x y):∀{l:List α} {m:List β} (i:Nat),Paired F l m→Paired F (l.set i x) (m.set i y)
 |_,_,_,.nil=> .nil
 |_,_,0,.cons _ t=> .cons h t
 |_,_,i+1,.cons r t=> .cons r (PySem.Paired.setAt h i t)
theorem _root_.PySem.Paired.JJ{α β:Type}{F:α→β→Prop}:∀{l:List α} {m:List β} (i:Nat),Paired F l m→Paired F (l.take i) (m.take i)
 |_,_,0,_=> .nil
 |_,_,_+ 1,.nil=> .nil
 |_,_,i+1,.cons r t=> .cons r (PySem.Paired.JJ i t)
def HY(S:Addr→Prop)(H:Hp):Prop:=∀a,S a→H a≠none
theorem HY.same{S:Addr→Prop}{H H':Hp}(d:HY S H)(s:aJ H H'):HY S H':=fun a ha z=>d a ha (s.free z)
theorem HY.new{S:Addr→Prop}{H:Hp}{p:Addr}(d:HY S H)(h:H p=none):¬S p:=fun q=>d p q h
def bZ(S:Addr→Prop)(p:Addr):Addr→Prop:=fun a=>S a∨a=p
theorem HY.and{S:Addr→Prop}{H:Hp}{p:Addr}{o:HO}(d:HY S H)(h:H p=some o):HY (bZ S p) H:=fun a ha z=>by
 rcases ha with ha |rfl
 ·exact d a ha z
 ·rw[h] at z;cases z
theorem Good.and{α:Type}{r:Rp α}(g:Good r){S:Addr→Prop}{H:Hp}{v:V}{x:α}{p:Addr}(h:r S H v x)(hp:H p=none):r (bZ S p) H v x:=g.ue h fun a ha=>ha.elim .inl fun e=> .inr (by rw[e];exact hp)
theorem Good.un{α:Type}{r:Rp α}(g:Good r){S:Addr→Prop}{H:Hp}{v:V}{x:α}{p:Addr}(h:r (bZ S p) H v x):r S H v x:=g.less h fun a ha=> .inl ha
theorem _root_.PySem.Paired.K4{α:Type}{r:Rp α}(g:Good r){S:Addr→Prop}{H:Hp}{vs:List V}{l:List α}{p:Addr}(h:Paired (r S H) vs l)(hp:H p=none):Paired (r (bZ S p) H) vs l:=h.dA fun _ _ q=>g.and q hp
theorem _root_.PySem.Paired.HZ{α:Type}{r:Rp α}(g:Good r){S:Addr→Prop}{H:Hp}{vs:List V}{l:List α}{p:Addr}(h:Paired (r (bZ S p) H) vs l):Paired (r S H) vs l:=h.dA fun _ _ q=>g.un q
theorem _root_.PySem.Paired.oF{α:Type}{r:Rp α}(g:Good r){S:Addr→Prop}{H H':Hp}{vs:List V}{l:List α}(h:Paired (r S H) vs l)(o:Off S H H'):Paired (r S H') vs l:=h.dA fun _ _ q=>g.off q o
theorem _root_.PySem.Paired.d7{α:Type}{r:Rp α}(g:Good r){S:Addr→Prop}{H H':Hp}{vs:List V}{l:List α}(h:Paired (r S H) vs l)(s:aJ H H'):Paired (r S H') vs l:=h.dA fun _ _ q=>g.same q s
def JK(p:ak.Part):List (Str×V):=d3 "bottom" (.int p.aC) (d3 "top" (.int p.top) (d3 "d" (.int p.d) (d3 "c" (.int p.c) (d3 "b" (.int p.b) (d3 "a" (.int p.a) (d3 "kind" (.int p.kind) []))))))
def OD(last:Int)(ps:V):List (Str×V):=d3 "parts" ps (d3 "last_node" (.int last) [])
def PH(aO s cQ drives places:V)(width:Int):List (Str×V):=d3 "width" (.int width) (d3 "places" places (d3 "drives" drives (d3 "states" cQ (d3 "s" s (d3 "network" aO [])))))
def OE(det tops:V):List (Str×V):=d3 "tops" tops (d3 "determinant" det [])
def Qs(cQ sol:V):List (Str×V):=d3 "solution" sol (d3 "states" cQ [])
def MS(r t b:V):List (Str×V):=d3 "bottom" b (d3 "top" t (d3 "refusal" r []))
structure nG(K:PySem.W.Frag)(C:Addr)(fs:List Str):Prop where
 cl:Mf K C
 no:∀f∈fs,lW K C f
structure Cs where
 part:Addr
 aO:Addr
 dt:Addr
 sol:Addr
 pt:Addr
 ask:Addr
structure cK(K:PySem.W.Frag)(c:Cs):Prop where
 part:nG K c.part ["kind","a","b","c","d","top","bottom"]
 aO:nG K c.aO ["last_node","parts"]
 dt:nG K c.dt ["network","s","states","drives","places","width"]
 sol:nG K c.sol ["determinant","tops"]
 pt:nG K c.pt ["states","solution"]
 ask:nG K c.ask ["refusal","top","bottom"]
section
variable (c:Cs)
def du(H:Hp)(v:V)(p:ak.Part):Prop:=∃a dx,v= .ref a∧H a=some (.ins c.part dx (JK p))
def i6(H:Hp)(v:V)(ps:List ak.Part):Prop:=∃a vs,v= .ref a∧H a=some (.lst vs)∧Paired (du c H) vs ps
def kf(H:Hp)(v:V)(n:ak.Nw):Prop:=∃a dx vp,v= .ref a∧H a=some (.ins c.aO dx (OD n.last vp))∧i6 c H vp n.af
def r9(H:Hp)(v:V)(l:List Bool):Prop:=∃a,v= .ref a∧H a=some (.lst (l.map V.bl))
def Ap(H:Hp)(v:V)(l:List (Int×Int)):Prop:=∃a vs,v= .ref a∧H a=some (.lst vs)∧Paired (fun u (x:Int×Int)=>∃t,u= .ref t∧H t=some (.tup [.int x.1,.int x.2])) vs l
def iE(H:Hp)(v:V)(g:ak.gk):Prop:=∃a dx vn vs vst vd vp,v= .ref a∧H a=some (.ins c.dt dx (PH vn vs vst vd vp (ak.width g.aO)))∧kf c H vn g.aO∧cN H vs g.s∧r9 H vst g.cQ∧Ap H vd g.drives∧cN H vp (ak.places g.aO)
def ng(H:Hp)(v:V)(s:List Int×List (List Int)):Prop:=∃a dx vd vt,v= .ref a∧H a=some (.ins c.sol dx (OE vd vt))∧cN H vd s.1∧oE (fun _=>False) H vt s.2
variable {c}
theorem du.same{H H':Hp}{v:V}{p:ak.Part}(h:du c H v p)(s:aJ H H'):du c H' v p:=let ⟨a,dx,e,q⟩:=h;⟨a,dx,e,s _ _ q⟩
theorem i6.same{H H':Hp}{v:V}{p:List ak.Part}(h:i6 c H v p)(s:aJ H H'):i6 c H' v p:=let ⟨a,vs,e,q,r⟩:=h;⟨a,vs,e,s _ _ q,r.dA fun _ _ z=>z.same s⟩
theorem kf.same{H H':Hp}{v:V}{n:ak.Nw}(h:kf c H v n)(s:aJ H H'):kf c H' v n:=let ⟨a,dx,vp,e,q,r⟩:=h;⟨a,dx,vp,e,s _ _ q,r.same s⟩
theorem r9.same{H H':Hp}{v:V}{l:List Bool}(h:r9 H v l)(s:aJ H H'):r9 H' v l:=let ⟨a,e,q⟩:=h;⟨a,e,s _ _ q⟩
theorem Ap.same{H H':Hp}{v:V}{l:List (Int×Int)}(h:Ap H v l)(s:aJ H H'):Ap H' v l:=let ⟨a,vs,e,q,r⟩:=h;⟨a,vs,e,s _ _ q,r.dA fun _ _ ⟨t,e,z⟩=>⟨t,e,s _ _ z⟩⟩
theorem iE.same{H H':Hp}{v:V}{g:ak.gk}(h:iE c H v g)(s:aJ H H'):iE c H' v g:=let ⟨a,dx,vn,vs,vst,vd,vp,e,q,r1,r2,r3,r4,r5⟩:=h;⟨a,dx,vn,vs,vst,vd,vp,e,s _ _ q,r1.same s,r2.same s,r3.same s,r4.same s,r5.same s⟩
theorem ng.same{H H':Hp}{v:V}{x:List Int×List (List Int)}(h:ng c H v x)(s:aJ H H'):ng c H' v x:=let ⟨a,dx,vd,vt,e,q,r1,r2⟩:=h;⟨a,dx,vd,vt,e,s _ _ q,r1.same s,bG.same r2 s⟩
end
structure Txt2(mg:Str→Option Value):Prop extends Txt mg where
 qK:∃t,mg "RESISTOR"=some (.int 0 t)
 oG:∃t,mg "CAPACITOR"=some (.int 1 t)
 BF:∃t,mg "COIL"=some (.int 2 t)
 dw:∃t,mg "COUPLING"=some (.int 3 t)
 g7:∃t,mg "VOLTAGE_SOURCE"=some (.int 4 t)
 g8:∃t,mg "CURRENT_SOURCE"=some (.int 5 t)
 e7:∃t,mg "VOLTAGE_BY_VOLTAGE"=some (.int 6 t)
 e9:∃t,mg "CURRENT_BY_VOLTAGE"=some (.int 7 t)
 fb:∃t,mg "VOLTAGE_BY_CURRENT"=some (.int 8 t)
 fc:∃t,mg "CURRENT_BY_CURRENT"=some (.int 9 t)
 d9:∃t,mg "TRANSFORMER"=some (.int 10 t)
 kg:∃t,mg "AMPLIFIER"=some (.int 11 t)
 xI:∃t,mg "SWITCH"=some (.int 12 t)
 pO:∃t,mg "DIODE"=some (.int 13 t)
 oH:∃t,mg "LAST_KIND"=some (.int 13 t)
theorem nG.at_{K:PySem.W.Frag}{C:Addr}{fs:List Str}(h:nG K C fs){f:Str}(i:Nat)(e:fs[i]? =some f):lW K C f:=h.no f (List.mem_of_getElem? e)
theorem fE{a b:Int}:decide (V.int a=V.int b)=decide (a=b):=by
 by_cases h:a=b
 ·subst h;simp
 ·simp[h]
abbrev cj(H:Hp):Addr→Prop:=fun a=>H a≠none
def oI(H:Hp)(Q:VK)(ts:List (Int×List Int)):Prop:=∀z H',aJ H H'→mx (cj H) H' z ts→Q z H'
theorem cn{H H1:Hp}(s:aJ H H1):∀a,cj H a→cj H1 a:=fun a h z=>h (s.free z)
def iV(ts:List (Int×List Int)):Prop:=∀t∈ts,t.2.length≤100∧∀x∈t.2,x.natAbs≤1
theorem JL{x:Int}(h:x.natAbs≤1)(y:Int):IntMulOk x y:= .of_left (intBits_le_64 (by lia) (by lia))
section
variable {P:Program}{w:World}{K:PySem.W.Frag}{mg:Str→Option Value}{base:Heap}{c:Cs}
abbrev kY:Stmt:=top 28
theorem xJ:aE ["part"] ["part"] (au kY):=sco rfl rfl rfl rfl (by decide +kernel)
def jo(c:Cs):Sp:=fun vs H Q _=>∃v p,vs=[v]∧du c H v p∧Q (.int (ak.gd p)) H
theorem xK(T:Txt2 mg)(O:cK K c)(G:dD K mg "currents_of" kY ["part"]):bo P w K mg base "currents_of" ["part"] 1 (jo c):=by
 have sc:=xJ
 refine G.eD sc (fun vs H Q E ⟨v,p,e,_⟩=>by rw[e];rfl) fun f cdv A outer s H vs Q E hr h=> ?_
 obtain⟨v,p,rfl,⟨a,dx,rfl,ha⟩,k⟩:=h
 refine⟨_,(aj (bJ (bf de (ax K (pv 0) rfl) (gc T.dw) (aZ _)) (aq (aD aA)) aT)
   (aq (aD (iy (bf de (ax K (pv 0) rfl) (gc T.d9) (aZ _)) aA aA)))),?_⟩
 unfold ak.gd at k
 refine⟨_,rfl,a,c.part,dx,_,_,rfl,ha,O.part.cl,O.part.at_ 0 rfl,rfl,rfl,_,rfl,?_⟩
 rw[fE]
 refine Mw (fun h=> ?_) (fun h=> ?_)
 ·rw[if_pos (of_decide_eq_true h)] at k
  exact k
 ·have h3:¬p.kind=3:=fun e=>h (decide_eq_true e)
  rw[if_neg h3] at k
  refine⟨_,rfl,a,c.part,dx,_,_,rfl,ha,O.part.cl,O.part.at_ 0 rfl,rfl,rfl,_,rfl,?_⟩
  rw[fE]
  refine Mw (fun h=> ?_) (fun h=> ?_)
  ·rw[if_pos (of_decide_eq_true h)] at k
   exact k
  ·rw[if_neg (fun e=>h (decide_eq_true e))] at k
   exact k
abbrev iq:Stmt:=top 29
theorem xM:aE ["network","part"] ["network"] (au iq):=sco rfl rfl rfl rfl (by decide +kernel)
def oJ(c:Cs):Sp:=fun vs H Q _=>∃v n,vs=[v]∧kf c H v n∧n.af.length≤1000∧∀H',aJ H H'→Q (.int (ak.width n)) H'
theorem xN(T:Txt2 mg)(O:cK K c)(eh:bo P w K mg base "currents_of" ["part"] 1 (jo c))(G:dD K mg "unknowns_of" iq ["network"]):bo P w K mg base "unknowns_of" ["network"] 2 (oJ c):=by
 have sc:=xM
 refine G.eD sc (fun vs H Q E ⟨v,p,e,_⟩=>by rw[e];rfl) fun f cdv A outer s H vs Q E hr h=> ?_
 obtain⟨v,n,rfl,⟨a,dx,vp,rfl,ha,b,ws,rfl,hb,hps⟩,hl,k⟩:=h
 have ll:=hps.length
 refine⟨_,(aq (aD (a9 eV (ax K (pv 0) rfl) (aY (Kz K rfl) rfl T.JD Ec (aa (lL rfl sc.nd (cw (ax K (pv 0) rfl)) (cf (own:=[("part",1)]) (by show lM ["network","part"] (au iq) _ _=true;decide +kernel)) (fun _ _ _ _ _=>(aQ (i:=1) sc.nd rfl (Or.inl rfl))) (fun _ _ _ _ _=>dC) (fun _ _ _ _ _=>(aB eh (hr.mono (by decide)) rfl (aa (pv 1) ah)))) ah))))),?_⟩
 refine⟨_,rfl,a,c.aO,dx,_,_,rfl,ha,O.aO.cl,O.aO.at_ 0 rfl,rfl,?_⟩
 refine⟨_,rfl,a,c.aO,dx,_,_,rfl,ha,O.aO.cl,O.aO.at_ 1 rfl,rfl,b,rfl,⟨_,.of hb⟩,fun D hD=>ny (cy (.of hb)) hD (fun i _ acc=>acc=(n.af.take i).map fun p=>V.int (ak.gd p)) rfl ?_ ?_⟩
 ·rintro i x H1 H2 acc hi s1 hD1 hacc s2 s12 hD2 hx
  obtain⟨p,hp,q⟩:=hps.iL hx
  refine⟨rfl,⟨_,rfl,_,p,rfl,q.same s2,?_⟩⟩
  refine dE hD s2 hD2 ?_ ?_
  ·rw[hacc,lMp,List.length_take]
   exact aL (by lia)
  ·rw[hacc,bI _ _ _ _ hp]
 ·intro H1 acc s1 hD1 hacc
  refine⟨D,n.af.map ak.gd,rfl,.of ?_,_,_,rfl,rfl,k H1 s1⟩
  rw[hD1,hacc,ll,List.take_length,List.map_map]
  rfl
abbrev g9:Stmt:=top 30
theorem sd:aE ["network","places","free","part"] ["network"] (au g9):=sco rfl rfl rfl rfl (by decide +kernel)
def kh(c:Cs):Sp:=fun vs H Q _=>∃v n,vs=[v]∧kf c H v n∧n.af.length≤1000∧nE H Q (ak.places n)
theorem qi:∀(l:List ak.Part) (f:Int) (p:ak.Part),ak.dg f (l ++ [p])=ak.dg f l ++ [f+(l.map ak.gd).sum]
 |[],f,p=>by
  show[f]=[] ++ [f+0]
  simp
 |q::l,f,p=>by
  show f::ak.dg (f+ak.gd q) (l ++ [p])=f::(ak.dg (f+ak.gd q) l ++ [f+((q::l).map ak.gd).sum])
  rw[qi l,List.map_cons,List.sum_cons,Int.add_assoc]
theorem my:∀(l:List ak.Part) (f:Int),(ak.dg f l).length=l.length
 |[],_=>rfl
 |q::l,f=>congrArg (· +1) (my l _)
theorem xO:∀(l:List Int) (z:Int),(l ++ [z]).sum=l.sum+z
 |[],z=>by simp
 |a::l,z=>by
  rw[List.cons_append,List.sum_cons,List.sum_cons,xO l z]
  lia
theorem sf(T:Txt2 mg)(O:cK K c)(eh:bo P w K mg base "currents_of" ["part"] 1 (jo c))(G:dD K mg "current_places" g9 ["network"]):bo P w K mg base "current_places" ["network"] 2 (kh c):=by
 have sc:=sd
 refine G.eD sc (fun vs H Q E ⟨v,p,e,_⟩=>by rw[e];rfl) fun f cdv A outer s H vs Q E hr h=> ?_
 obtain⟨v,n,rfl,⟨a,dx,vp,rfl,ha,b,ws,rfl,hb,hps⟩,hl,k⟩:=h
 have ll:=hps.length
 refine⟨_,(aj (aH (i:=1) sc.nd rfl (by first|left;rfl|right;rfl) (aN ah))
   (aj (aH (i:=2) sc.nd rfl (by first|left;rfl|right;rfl) (ax K (pv 0) rfl))
   (aj (cX PassesOwn.never rfl (cw (ax K (pv 0) rfl)) (aQ (i:=3) sc.nd rfl (Or.inl rfl)) (aj (eO (j3 PySem.F.plainAttrs_list PySem.F.slot_list_append PySem.F.type_list_append c7 (pv 1) (aa (pv 2) ah)))
   (aq (AK (i:=2) sc.nd rfl (Or.inl rfl) (aB eh (hr.mono (by decide)) rfl (aa (pv 3) ah)) DV))))
   (aq (aD (pv 1)))))),?_⟩
 refine⟨Nat.zero_le _,fun q hq=> ?_⟩
 have s1:=ay (o:= .lst []) hq
 refine⟨_,rfl,a,c.aO,dx,_,_,rfl,s1 _ _ ha,O.aO.cl,O.aO.at_ 0 rfl,rfl,?_⟩
 refine⟨_,rfl,a,c.aO,dx,_,_,rfl,s1 _ _ ha,O.aO.cl,O.aO.at_ 1 rfl,rfl,b,rfl,⟨_,.of (s1 _ _ hb)⟩,fA (cy (K:=K) (.of hb)) (fun i σ H'=>∃x3,σ=[some (.ref a),some (.ref q),some (.int (n.last+((n.af.take i).map ak.gd).sum)),x3]∧aJ H H'∧H' q=some (.lst ((ak.dg n.last (n.af.take i)).map V.int))) ?_ (fun i σ H' ⟨_,_,s,_⟩=>s) ?_ ?_⟩
 ·refine⟨none,?_,s1,?_⟩
  ·simp[L2.start]
  ·rw[ai];rfl
 ·rintro i x σ H1 H2 hi ⟨x3,rfl,s2,hq1⟩ s3 s12 hx
  obtain⟨p,hp,pa⟩:=hps.iL hx
  have hq2:=s12 _ _ hq1
  refine⟨_,rfl,.inl ⟨rfl,_,.of hq2⟩,_,rfl,q,_,_,rfl,rfl,hq2,?_,?_⟩
  ·rw[lMp,my,List.length_take]
   exact aL (by lia)
  ·have s4:aJ H (upd H2 q (.lst ((ak.dg n.last (n.af.take i)).map V.int ++ [.int (n.last+((n.af.take i).map ak.gd).sum)]))):=s3.over hq
   refine⟨_,rfl,_,rfl,_,p,rfl,pa.same s4,_,_,rfl,rfl,some x,?_,s4,?_⟩
   ·rw[bI _ _ _ _ hp,xO,←Int.add_assoc]
    rfl
   ·rw[ai,List.take_add_one,hp]
    show _=some (HO.lst ((ak.dg n.last (n.af.take i ++ [p])).map V.int))
    rw[qi,List.map_append]
    rfl
 ·rintro σ H1 ⟨x3,rfl,s2,hq1⟩
  refine⟨_,rfl,k q H1 hq s2 ?_⟩
  rw[hq1,ll,List.take_length]
  rfl
abbrev sj:Stmt:=top 31
theorem Hr:aE ["terms","width","row","place","factor"] ["terms","width"] (au sj):=sco rfl rfl rfl rfl (by decide +kernel)
def Aq:Sp:=fun vs H Q _=>∃v ts wd,vs=[v,.int wd]∧mx (fun _=>False) H v ts∧0≤wd∧wd<1000∧(∀t∈ts,0≤t.1∧t.1≤wd∧t.2.length≤1000)∧∀z H',aJ H H'→oE (cj H) H' z (ak.rowOf wd ts)→Q z H'
theorem Ht(ts:List (Int×List Int)):∀row:List (List Int),(ts.foldl ak.oj row).length=row.length:=by
 induction ts with
 |nil=>intro row;rfl
 |cons t ts ih=>
  intro row
  rw[List.foldl_cons,ih]
  unfold ak.oj
  rw[List.length_set]
theorem Hu(wd:Int)(ts:List (Int×List Int)):(ak.rowOf wd ts).length=(wd+1).toNat:=by
 unfold ak.rowOf
 rw[Ht,List.length_replicate]
theorem xP{α:Type}{r:V→α→Prop}{x:α}:∀{vs:List V},(∀v∈vs,r v x)→Paired r vs (List.replicate vs.length x)
 |[],_=> .nil
 |v::vs,h=> .cons (h v List.mem_cons_self) (xP fun u hu=>h u (List.mem_cons_of_mem _ hu))
theorem Hv(T:Txt2 mg)(pN:bo P w K mg base "added" ["left","right"] 2 xE)(G:dD K mg "row_of" sj ["terms","width"]):bo P w K mg base "row_of" ["terms","width"] 3 Aq:=by
 have sc:=Hr
 refine G.eD sc (fun vs H Q E ⟨v,ts,wd,e,_⟩=>by rw[e];rfl) fun f cdv A outer s H vs Q E hr h=> ?_
 obtain⟨v,ts,wd,rfl,⟨a,us,rfl,_,ha,hts⟩,w0,w1,hb,k⟩:=h
 have ll:=hts.length
 refine⟨_,(aj (oa (i:=2) rfl sc.nd rfl rfl (rM rfl rfl rfl rfl) (i8 rfl T.fJ (aa (a9 eV (pv 1) aA) ah)) (cf (own:=[("place",3)]) (by show lM ["terms","width","row","place","factor"] (au sj) _ _=true;decide +kernel)) (fun _ _ _ _ _=>(aQ (i:=3) sc.nd rfl (Or.inl rfl))) (fun _ _ _ _ _=>dC) (fun _ _ _ _ _=>(aN ah)))
   (aj (cX PassesOwn.never rfl (cw (pv 0)) (gu K (n:=2) rfl (bM (aQ (i:=3) sc.nd rfl (Or.inl rfl)) (bM (aQ (i:=4) sc.nd rfl (Or.inl rfl)) gq))) (aq (tJ (aB pN (hr.mono (by decide)) rfl (aa (aK (dR K) (pv 2) (pv 3) (fun _ _=>rfl)) (aa (pv 4) ah))) (tI (pv 2) (pv 3) set_list))))
   (aq (aD (pv 2))))),?_⟩
 refine⟨_,rfl,_,_,rfl,rfl,_,rfl,by lia,by lia,fun D hD=>ny (iz H 0 _) hD (fun i H' acc=>acc.length=i∧(∀v∈acc,nF (bZ (cj H) D) H' v [])) ⟨rfl,fun _ h=>by cases h⟩ ?_ ?_⟩
 ·rintro i x H1 H2 acc hi s1 hD1 ⟨hacc,hpol⟩ s2 s12 hD2 rfl
  refine⟨rfl,⟨Nat.zero_le _,fun p hp=> ?_⟩⟩
  have s3:=ay (o:= .lst []) hp
  have np:¬bZ (cj H) D p:=fun q=>q.elim (fun z=>z (s2.free hp)) (fun z=>by rw[z,hD2] at hp;cases hp)
  refine dE hD (s2.trans s3) (s3 _ _ hD2) (by rw[hacc];exact aL (by lia)) ⟨by simp[hacc],fun v hv=> ?_⟩
  have od:Off (bZ (cj H) D) (upd H2 p (.lst [])) (upd (upd H2 p (.lst [])) D (.lst (acc ++ [.ref p]))):=bS (.inr rfl)
  rcases List.mem_append.mp hv with q |q
  ·exact cH.off (cH.same (hpol v q) (s12.trans s3)) od
  ·have:v= .ref p:=by simpa using q
   subst this
   exact cH.off ⟨p,rfl,np,by rw[ai];rfl⟩ od
 ·intro H1 acc s1 hD1 ⟨hacc,hpol⟩
  have hpr:Paired (nF (bZ (cj H) D) H1) acc (ak.rowOf wd (ts.take 0)):=by
   have e:ak.rowOf wd (ts.take 0)=List.replicate acc.length []:=by
    rw[hacc];rfl
   rw[e]
   exact xP hpol
  refine⟨_,rfl,a,rfl,⟨_,.of (s1 _ _ ha)⟩,fA (cy (K:=K) (.of ha)) (fun i σ H'=>∃x3 x4 ws,σ=[some (.ref a),some (.int wd),some (.ref D),x3,x4]∧aJ H H'∧H' D=some (.lst ws)∧Paired (nF (bZ (cj H) D) H') ws (ak.rowOf wd (ts.take i))∧∀r∈ak.rowOf wd (ts.take i),r.length≤1000) ?_ (fun i σ H' ⟨_,_,_,_,s,_⟩=>s) ?_ ?_⟩
  ·refine⟨_,_,acc,rfl,s1,hD1,hpr,fun r hr=> ?_⟩
   have e:ak.rowOf wd (ts.take 0)=List.replicate (wd+1).toNat []:=rfl
   rw[e] at hr
   rw[(List.mem_replicate.mp hr).2]
   simp
  ·rintro i x σ H2 H3 hi ⟨x3,x4,ws,rfl,s2,hD2,hws,hlen⟩ s3 s23 hx
   obtain⟨t,ht,tt⟩:=hts.iL hx
   obtain⟨ta,tp,rfl,_,hta,htp⟩:=d6.same tt s3
   obtain⟨b1,b2,b3⟩:=hb t (List.mem_of_getElem? ht)
   have hD3:=s23 _ _ hD2
   have hws3:=hws.d7 cH s23
   have lr:=Hu wd (ts.take i)
   have lw:=hws.length
   have hj:t.1.toNat<(ak.rowOf wd (ts.take i)).length:=by lia
   obtain⟨u,hu,pu⟩:=hws3.fP (az (d:=[]) hj)
   refine⟨ta,_,rfl,.of hta,rfl,_,_,rfl,_,_,rfl,rfl,?_⟩
   refine⟨_,rfl,_,rfl,D,_,_,_,rfl,rfl,.of hD3,aG (j:=t.1.toNat) (by lia) hu,_,rfl,?_⟩
   refine⟨_,_,_,_,rfl,pu.at_,htp.at_,?_,by unfold Short;lia,fun p H4 hp s4 hp4=> ?_⟩
   ·have:=hlen _ (List.mem_of_getElem? (az (d:=[]) hj))
    unfold Short;lia
   have hD4:=s4 _ _ hD3
   refine⟨_,rfl,_,rfl,D,_,_,t.1.toNat,rfl,rfl,hD4,l9 (by lia) (by lia),?_⟩
   have np:¬bZ (cj H) D p:=fun q=>q.elim (fun z=>z (s3.free hp)) (fun z=>by rw[z,hD3] at hp;cases hp)
   have od:∀o,Off (bZ (cj H) D) H4 (upd H4 D o):=fun o=>bS (.inr rfl)
   have e1:ak.rowOf wd (ts.take (i+1))=ak.oj (ak.rowOf wd (ts.take i)) t:=by
    unfold ak.rowOf
    rw[List.take_add_one,ht,List.foldl_append]
    rfl
   refine⟨_,_,_,rfl,(s3.trans s4).over hD,ai,?_,?_⟩
   ·rw[e1]
    exact((hws3.d7 cH s4).oF cH (od _)).setAt (cH.off ⟨p,rfl,np,hp4⟩ (od _)) _
   ·intro r hr
    rw[e1] at hr
    rcases List.mem_or_eq_of_mem_set hr with q |q
    ·exact hlen r q
    ·rw[q]
     have:=hlen _ (List.mem_of_getElem? (az (d:=[]) hj))
     refine Nat.le_trans (ak.Ba _) ?_
     rw[ak.gy]
     lia
  ·rintro σ H2 ⟨x3,x4,ws,rfl,s2,hD2,hws,_⟩
   refine⟨_,rfl,k _ H2 s2 ⟨D,ws,rfl,fun z=>z hD,hD2,?_⟩⟩
   rw[ll,List.take_length] at hws
   exact hws.HZ cH
end
theorem Dj{S:Addr→Prop}{H4:Hp}{q:Addr}{us:List V}{ts:List (Int×List Int)}{t:Int×List Int}{x:V}(hu:Paired (gT (bZ S q) H4) us ts)(ht:gT (bZ S q) H4 x t):Paired (gT (bZ S q) (upd H4 q (.lst (us ++ [x])))) (us ++ [x]) (ts ++ [t]):=
 (hu.oF d6 (bS (.inr rfl))).fB (d6.off ht (bS (.inr rfl)))
section
variable {P:Program}{w:World}{K:PySem.W.Frag}{mg:Str→Option Value}{base:Heap}{c:Cs}
abbrev gA:Stmt:=top 33
theorem qL:aE ["first","second","terms"] ["first","second"] (au gA):=sco rfl rfl rfl rfl (by decide +kernel)
def fQ:Sp:=fun vs H Q _=>∃x y:Int,vs=[.int x,.int y]∧oI H Q (ak.CI x y)
theorem Dk{H H2:Hp}{q p t:Addr}{us:List V}{ts:List (Int×List Int)}{x z:Int}(hq:H q=none)(s2:aJ H H2)(hq2:H2 q=some (.lst us))(hu:Paired (gT (bZ (cj H) q) H2) us ts)(hp:H2 p=none)(ht:upd H2 p (.lst [.int z]) t=none):
  aJ H (upd (upd (upd H2 p (.lst [.int z])) t (.tup [.int x,.ref p])) q (.lst (us ++ [.ref t])))∧Paired (gT (bZ (cj H) q) (upd (upd (upd H2 p (.lst [.int z])) t (.tup [.int x,.ref p])) q (.lst (us ++ [.ref t])))) (us ++ [.ref t]) (ts ++ [(x,[z])]):=by
 have s3:=ay (o:= .lst [.int z]) hp
 have s4:=ay (o:= .tup [.int x,.ref p]) ht
 have np:¬bZ (cj H) q p:=fun h=>h.elim (fun y=>y (s2.free hp)) (fun y=>by rw[y,hq2] at hp;cases hp)
 have nt:¬bZ (cj H) q t:=fun h=>h.elim (fun y=>y ((s2.trans s3).free ht)) (fun y=>by rw[y,s3 _ _ hq2] at ht;cases ht)
 refine⟨((s2.trans s3).trans s4).over hq,Dj (hu.d7 d6 (s3.trans s4)) ⟨t,.ref p,rfl,nt,ai,p,rfl,np,s4 _ _ ai⟩⟩
theorem qM(G:dD K mg "voltage_between" gA ["first","second"]):bo P w K mg base "voltage_between" ["first","second"] 1 fQ:=by
 have sc:=qL
 refine G.eD sc (fun vs H Q E ⟨x,y,e,_⟩=>by rw[e];rfl) fun f cdv A outer s H vs Q E hr h=> ?_
 obtain⟨x,y,rfl,k⟩:=h
 refine⟨_,(aj (aH (i:=2) sc.nd rfl (by first|left;rfl|right;rfl) (aN ah))
   (aj (bJ (bf ve (pv 0) aA (aZ _)) (aq (eO (j3 PySem.F.plainAttrs_list PySem.F.slot_list_append PySem.F.type_list_append c7 (pv 2) (aa (bY (aa (a9 iI (pv 0) aA) (aa (aN (aa aA ah)) ah))) ah)))) aT)
   (aj (bJ (bf ve (pv 1) aA (aZ _)) (aq (eO (j3 PySem.F.plainAttrs_list PySem.F.slot_list_append PySem.F.type_list_append c7 (pv 2) (aa (bY (aa (a9 iI (pv 1) aA) (aa (aN (aa (gr dQ aA) ah)) ah))) ah)))) aT)
   (aq (aD (pv 2)))))),?_⟩
 refine⟨Nat.zero_le _,fun q hq=> ?_⟩
 have s1:=ay (o:= .lst []) hq
 have fin:∀(H4:Hp) (us:List V),aJ H H4→H4 q=some (.lst us)→Paired (gT (bZ (cj H) q) H4) us (ak.CI x y)→Q (.ref q) H4:=fun H4 us s4 h4 hu=>k _ H4 s4 ⟨q,us,rfl,fun z=>z hq,h4,hu.HZ d6⟩
 have second:∀(H2:Hp) (us:List V),aJ H H2→H2 q=some (.lst us)→us.length<10→Paired (gT (bZ (cj H) q) H2) us (if 0<x then[(x - 1,[1])] else[])→
   NB (ND (Im (Mc (Ke fun i j=> .bl (decide (i>j))) (wA 1) (tC (.int 0)))) (Ls (Qn K "list" FK (wA 2) (Ck (NU (Ck (Mc (Ke fun i j=> .int (i - j)) (wA 1) (tC (.int 1))) (Ck (NV (Ck (Qj (rU fun i=> .int (-i)) (tC (.int 1))) Ko)) Ko))) Ko))) Lr) (L6 (wA 2)) {nx:=fun _ H'=>Q .fG H',rt:=Q} [some (.int x),some (.int y),some (.ref q)] H2:=fun H2 us s2 h2 hl hu=>by
  refine⟨_,rfl,_,_,rfl,rfl,_,rfl,?_⟩
  by_cases hy:0<y
  ·rw[decide_eq_true (show y>0 from hy)]
   refine bx ⟨_,rfl,.inl ⟨rfl,_,.of h2⟩,_,rfl,_,_,rfl,rfl,_,rfl,aw (by simp),fun p hp=>⟨aw (by simp),fun t ht=> ?_⟩⟩
   have h4:(upd (upd H2 p (.lst [.int (-1)])) t (.tup [.int (y - 1),.ref p])) q=some (.lst us):=ay ht _ _ (ay hp _ _ h2)
   obtain⟨s5,hu5⟩:=Dk (x:=y - 1) hq s2 h2 hu hp ht
   refine⟨q,us,_,rfl,rfl,h4,aL (by lia),_,rfl,fin _ _ s5 ai ?_⟩
   unfold ak.CI
   rw[if_pos hy]
   exact hu5
  ·rw[decide_eq_false (show ¬y>0 from hy)]
   refine bC ⟨_,rfl,fin H2 us s2 h2 ?_⟩
   unfold ak.CI
   rw[if_neg hy,List.append_nil]
   exact hu
 refine⟨_,rfl,_,_,rfl,rfl,_,rfl,?_⟩
 by_cases hx:0<x
 ·rw[decide_eq_true (show x>0 from hx)]
  refine bx ⟨_,rfl,.inl ⟨rfl,_,.of ai⟩,_,rfl,_,_,rfl,rfl,aw (by simp),fun p hp=>⟨aw (by simp),fun t ht=> ?_⟩⟩
  have h4:(upd (upd (upd H q (.lst [])) p (.lst [.int 1])) t (.tup [.int (x - 1),.ref p])) q=some (.lst []):=ay ht _ _ (ay hp _ _ ai)
  obtain⟨s5,hu5⟩:=Dk (x:=x - 1) hq s1 ai .nil hp ht
  refine⟨q,[],_,rfl,rfl,h4,aL (by decide),second _ _ s5 ai (by simp) ?_⟩
  rw[if_pos hx]
  exact hu5
 ·rw[decide_eq_false (show ¬x>0 from hx)]
  refine bC (second _ [] s1 ai (by simp) ?_)
  rw[if_neg hx]
  exact .nil
abbrev mz:Stmt:=top 34
theorem yS:aE ["part"] ["part"] (au mz):=sco rfl rfl rfl rfl (by decide +kernel)
def cA(c:Cs):Sp:=fun vs H Q _=>∃v p,vs=[v]∧du c H v p∧oI H Q (ak.iT p)
theorem yT(O:cK K c)(cI:bo P w K mg base "voltage_between" ["first","second"] 1 fQ)(G:dD K mg "voltage_of" mz ["part"]):bo P w K mg base "voltage_of" ["part"] 2 (cA c):=by
 have sc:=yS
 refine G.eD sc (fun vs H Q E ⟨v,p,e,_⟩=>by rw[e];rfl) fun f cdv A outer s H vs Q E hr h=> ?_
 obtain⟨v,p,rfl,⟨a,dx,rfl,ha⟩,k⟩:=h
 refine⟨_,(aq (aD (aB cI (hr.mono (by decide)) rfl (aa (ax K (pv 0) rfl) (aa (ax K (pv 0) rfl) ah))))),?_⟩
 exact⟨_,rfl,a,c.part,dx,_,_,rfl,ha,O.part.cl,O.part.at_ 1 rfl,rfl,_,rfl,a,c.part,dx,_,_,rfl,ha,O.part.cl,O.part.at_ 2 rfl,rfl,_,_,rfl,k⟩
abbrev eF:Stmt:=top 35
theorem mB:aE ["part"] ["part"] (au eF):=sco rfl rfl rfl rfl (by decide +kernel)
def b5(c:Cs):Sp:=fun vs H Q _=>∃v p,vs=[v]∧du c H v p∧oI H Q (ak.A7 p)
theorem mC(O:cK K c)(cI:bo P w K mg base "voltage_between" ["first","second"] 1 fQ)(G:dD K mg "controlling_voltage" eF ["part"]):bo P w K mg base "controlling_voltage" ["part"] 2 (b5 c):=by
 have sc:=mB
 refine G.eD sc (fun vs H Q E ⟨v,p,e,_⟩=>by rw[e];rfl) fun f cdv A outer s H vs Q E hr h=> ?_
 obtain⟨v,p,rfl,⟨a,dx,rfl,ha⟩,k⟩:=h
 refine⟨_,(aq (aD (aB cI (hr.mono (by decide)) rfl (aa (ax K (pv 0) rfl) (aa (ax K (pv 0) rfl) ah))))),?_⟩
 exact⟨_,rfl,a,c.part,dx,_,_,rfl,ha,O.part.cl,O.part.at_ 3 rfl,rfl,_,rfl,a,c.part,dx,_,_,rfl,ha,O.part.cl,O.part.at_ 4 rfl,rfl,_,_,rfl,k⟩
theorem BG{H H1:Hp}{p t q:Addr}{x:Int}{l:List Int}(s1:aJ H H1)(np:H p=none)(h1:H1 p=some (.lst (l.map V.int)))(ht:H1 t=none)(hq:upd H1 t (.tup [.int x,.ref p]) q=none):
  aJ H (upd (upd H1 t (.tup [.int x,.ref p])) q (.lst [.ref t]))∧mx (cj H) (upd (upd H1 t (.tup [.int x,.ref p])) q (.lst [.ref t])) (.ref q) [(x,l)]:=by
 have s2:=ay (o:= .tup [.int x,.ref p]) ht
 have s3:=ay (o:= .lst [.ref t]) hq
 refine⟨(s1.trans s2).trans s3,q,_,rfl,fun z=>z ((s1.trans s2).free hq),ai,.cons ⟨t,.ref p,rfl,fun z=>z (s1.free ht),s3 _ _ ai,p,rfl,fun z=>z np,s3 _ _ (s2 _ _ h1)⟩ .nil⟩
abbrev mD:Stmt:=top 36
theorem yU:aE ["setting","k"] ["setting","k"] (au mD):=sco rfl rfl rfl rfl (by decide +kernel)
def bQ(c:Cs):Sp:=fun vs H Q _=>∃v g k,vs=[v,.int k]∧iE c H v g∧0≤k∧k<g.aO.af.length∧oI H Q (ak.cur g k)
theorem places_len(n:ak.Nw):(ak.places n).length=n.af.length:=my _ _
theorem yV(O:cK K c)(G:dD K mg "current_of" mD ["setting","k"]):bo P w K mg base "current_of" ["setting","k"] 1 (bQ c):=by
 have sc:=yU
 refine G.eD sc (fun vs H Q E ⟨v,g,k,e,_⟩=>by rw[e];rfl) fun f cdv A outer s H vs Q E hr h=> ?_
 obtain⟨v,g,k,rfl,⟨a,dx,vn,vs,vst,vd,vp,rfl,ha,hn,hs,hst,hd,⟨pa,rfl,hpl⟩⟩,k0,k1,kk⟩:=h
 refine⟨_,(aq (aD (aN (aa (bY (aa (aK (dR K) (ax K (pv 0) rfl) (pv 1) (fun _ _=>rfl)) (aa (aN (aa aA ah)) ah))) ah)))),?_⟩
 have hj:k.toNat<(ak.places g.aO).length:=by rw[places_len];lia
 refine⟨_,rfl,a,c.dt,dx,_,_,rfl,ha,O.dt.cl,O.dt.at_ 4 rfl,rfl,_,rfl,pa,_,_,_,rfl,rfl,.of hpl,aG (j:=k.toNat) (by lia) (cu hj),aw (by simp),fun p hp=>⟨aw (by simp),fun t ht=>⟨aw (by simp),fun q hq=> ?_⟩⟩⟩
 obtain⟨s1,h1⟩:=BG (l:=[1]) (x:=(ak.places g.aO).getD k.toNat 0) (ay hp) hp ai ht hq
 exact kk _ _ s1 h1
abbrev sk:Stmt:=top 37
theorem Hw:aE ["terms","polynomial","place","factor"] ["terms","polynomial"] (au sk):=sco rfl rfl rfl rfl (by decide +kernel)
def jb:Sp:=fun vs H Q _=>∃v u ts p,vs=[v,u]∧mx (fun _=>False) H v ts∧cN H u p∧iV ts∧ts.length≤1000∧Short p∧oI H Q (ak.md ts p)
theorem Hx(dW:bo P w K mg base "multiplied" ["left","right"] 1 kX)(G:dD K mg "scaled" sk ["terms","polynomial"]):bo P w K mg base "scaled" ["terms","polynomial"] 2 jb:=by
 have sc:=Hw
 refine G.eD sc (fun vs H Q E ⟨v,u,ts,p,e,_⟩=>by rw[e];rfl) fun f cdv A outer s H vs Q E hr h=> ?_
 obtain⟨v,u,ts,p,rfl,⟨a,us,rfl,_,ha,hts⟩,pu,hun,hl,hs,k⟩:=h
 have ll:=hts.length
 refine⟨_,(aq (aD (lL rfl sc.nd (cw (pv 0)) (cf (own:=[("place",2),("factor",3)]) (by show lM ["terms","polynomial","place","factor"] (au sk) _ _=true;decide +kernel)) (fun _ _ _ _ _=>(gu K (n:=2) rfl (bM (aQ (i:=2) sc.nd rfl (Or.inl rfl)) (bM (aQ (i:=3) sc.nd rfl (Or.inl rfl)) gq)))) (fun _ _ _ _ _=>dC) (fun _ _ _ _ _=>(bY (aa (pv 2) (aa (aB dW (hr.mono (by decide)) rfl (aa (pv 3) (aa (pv 1) ah))) ah))))))),?_⟩
 refine⟨_,rfl,a,rfl,⟨_,.of ha⟩,fun D hD=>ny (cy (.of ha)) hD (fun i H' acc=>Paired (gT (bZ (cj H) D) H') acc (ak.md (ts.take i) p)) .nil ?_ ?_⟩
 ·rintro i x H1 H2 acc hi s1 hD1 hacc s2 s12 hD2 hx
  obtain⟨t,ht,tt⟩:=hts.iL hx
  obtain⟨ta,tp,rfl,_,hta,htp⟩:=d6.same tt s2
  have lacc:=hacc.length
  refine⟨ta,_,rfl,.of hta,rfl,_,_,rfl,_,_,rfl,rfl,rfl,?_⟩
  obtain⟨u1,u2⟩:=hun t (List.mem_of_getElem? ht)
  refine⟨_,rfl,_,rfl,_,rfl,_,_,_,_,rfl,htp.at_,pu.same s2,by unfold Short;lia,hs,fun x hx y _=>JL (u2 x hx) y,fun q H3 hq s3 hq3=> ?_⟩
  refine⟨aw (by simp),fun r hr'=> ?_⟩
  have s4:=ay (o:= .tup [.int t.1,.ref q]) hr'
  have nq:¬bZ (cj H) D q:=fun h=>h.elim (fun y=>y (s2.free hq)) (fun y=>by rw[y,hD2] at hq;cases hq)
  have nr:¬bZ (cj H) D r:=fun h=>h.elim (fun y=>y ((s2.trans s3).free hr')) (fun y=>by rw[y,s3 _ _ hD2] at hr';cases hr')
  refine dE hD ((s2.trans s3).trans s4) (s4 _ _ (s3 _ _ hD2)) ?_ ?_
  ·rw[lacc]
   unfold ak.md
   rw[lMp,List.length_take]
   exact aL (by lia)
  ·have e1:ak.md (ts.take (i+1)) p=ak.md (ts.take i) p ++ [(t.1,ak.dO t.2 p)]:=by
    unfold ak.md
    exact bI _ _ _ _ ht
   rw[e1]
   exact Dj (hacc.d7 d6 ((s12.trans s3).trans s4)) ⟨r,.ref q,rfl,nr,ai,q,rfl,nq,s4 _ _ hq3⟩
 ·intro H1 acc s1 hD1 hacc
  rw[ll,List.take_length] at hacc
  exact k _ H1 s1 ⟨D,acc,rfl,fun z=>z hD,hD1,hacc.HZ d6⟩
theorem GC{H H1 H2:Hp}{x y:V}{ts us:List (Int×List Int)}(s1:aJ H H1)(s2:aJ H1 H2)(hx:mx (cj H) H1 x ts)(hy:mx (cj H1) H2 y us)(hl:ts.length+us.length≤1000){Q:VK}(k:oI H Q (ts ++ us)):Od x y H2 Q:=by
 obtain⟨a,vs,rfl,na,ha,pa⟩:=hx
 obtain⟨b,ws,rfl,nb,hb,pb⟩:=hy
 have l1:=pa.length
 have l2:=pb.length
 refine⟨a,b,vs,ws,rfl,rfl,s2 _ _ ha,hb,aw (by lia),fun p hp=> ?_⟩
 have s3:=ay (o:= .lst (vs ++ ws)) hp
 have s12:=s1.trans s2
 exact k _ _ (s12.trans s3) ⟨p,_,rfl,fun z=>z (s12.free hp),ai,((pa.d7 d6 s2).d7 d6 s3).app (PySem.Paired.dA (pb.d7 d6 s3) fun _ _ q=>d6.less q (cn s1))⟩
theorem i7(ts:List (Int×List Int))(p:List Int):(ak.md ts p).length=ts.length:=by unfold ak.md;simp
theorem lQ(x:Int):Short (ak.cst x):=by
 unfold Short ak.cst
 split <;>simp
abbrev jq:Stmt:=top 38
theorem vO:aE ["part","left","right"] ["part","left","right"] (au jq):=sco rfl rfl rfl rfl (by decide +kernel)
def b7(c:Cs):Sp:=fun vs H Q _=>∃v x y p l r,vs=[v,x,y]∧du c H v p∧mx (fun _=>False) H x l∧mx (fun _=>False) H y r∧iV l∧iV r∧l.length≤100∧r.length≤100∧oI H Q (ak.jh p l r)
theorem vP(O:cK K c)(cM:bo P w K mg base "constant" ["x"] 1 j8)(cq:bo P w K mg base "scaled" ["terms","polynomial"] 2 jb)(G:dD K mg "times_number" jq ["part","left","right"]):bo P w K mg base "times_number" ["part","left","right"] 3 (b7 c):=by
 have sc:=vO
 refine G.eD sc (fun vs H Q E ⟨v,x,y,p,l,r,e,_⟩=>by rw[e];rfl) fun f cdv A outer s H vs Q E hr h=> ?_
 obtain⟨v,x,y,p,l,r,rfl,⟨a,dx,rfl,ha⟩,hx,hy,ul,ur,ll,lr,k⟩:=h
 refine⟨_,(aq (aD (a9 nX (aB cq (hr.mono (by decide)) rfl (aa (pv 1) (aa (aB cM (hr.mono (by decide)) rfl (aa (ax K (pv 0) rfl) ah)) ah))) (aB cq (hr.mono (by decide)) rfl (aa (pv 2) (aa (aB cM (hr.mono (by decide)) rfl (aa (gr dQ (ax K (pv 0) rfl)) ah)) ah)))))),?_⟩
 refine⟨_,rfl,_,rfl,a,c.part,dx,_,_,rfl,ha,O.part.cl,O.part.at_ 6 rfl,rfl,_,rfl,fun q H1 hq s1 hq1=> ?_⟩
 refine⟨_,_,_,_,rfl,bq.same hx s1,⟨q,rfl,hq1⟩,ul,by lia,lQ _,fun z H2 s2 hz=> ?_⟩
 have hz':=bq.less hz (cn s1)
 have s12:=s1.trans s2
 refine⟨_,rfl,_,rfl,a,c.part,dx,_,_,rfl,s12 _ _ ha,O.part.cl,O.part.at_ 5 rfl,rfl,_,rfl,_,rfl,fun q2 H3 hq2 s3 hq3=> ?_⟩
 refine⟨_,_,_,_,rfl,bq.same hy (s12.trans s3),⟨q2,rfl,hq3⟩,ur,by lia,lQ _,fun z2 H4 s4 hz2=> ?_⟩
 exact GC s12 (s3.trans s4) hz' (bq.less hz2 (cn s3)) (by rw[i7,i7];lia) k
abbrev jr:Stmt:=top 39
theorem vQ:aE ["setting","k","terms","drive"] ["setting","k","terms"] (au jr):=sco rfl rfl rfl rfl (by decide +kernel)
def iM(c:Cs):Sp:=fun vs H Q _=>∃v x g k ts,vs=[v,.int (k:Nat),x]∧iE c H v g∧k<g.drives.length∧mx (fun _=>False) H x ts∧iV ts∧ts.length≤100∧oI H Q (ak.CJ g k ts)
theorem vR(O:cK K c)(cM:bo P w K mg base "constant" ["x"] 1 j8)(cq:bo P w K mg base "scaled" ["terms","polynomial"] 2 jb)(G:dD K mg "set_to_drive" jr ["setting","k","terms"]):bo P w K mg base "set_to_drive" ["setting","k","terms"] 3 (iM c):=by
 have sc:=vQ
 refine G.eD sc (fun vs H Q E ⟨v,x,g,k,ts,e,_⟩=>by rw[e];rfl) fun f cdv A outer s H vs Q E hr h=> ?_
 obtain⟨v,x,g,k,ts,rfl,⟨a,dx,vn,vs,vst,vd,vp,rfl,ha,hn,hs,hst,⟨da,ds,rfl,hda,hds⟩,hpl⟩,hk,hx,ut,lt,kk⟩:=h
 refine⟨_,(aj (aH (i:=3) sc.nd rfl (by first|left;rfl|right;rfl) (aK (dR K) (ax K (pv 0) rfl) (pv 1) (fun _ _=>rfl)))
   (aq (aD (a9 nX (aB cq (hr.mono (by decide)) rfl (aa (pv 2) (aa (aB cM (hr.mono (by decide)) rfl (aa (aK (yF K) (pv 3) aA (fun _ _=>rfl)) ah)) ah))) (aN (aa (bY (aa (ax K (pv 0) rfl) (aa (aB cM (hr.mono (by decide)) rfl (aa (aK (yF K) (pv 3) aA (fun _ _=>rfl)) ah)) ah))) ah)))))),?_⟩
 obtain⟨u,hu,t,rfl,ht⟩:=hds.fP (az (d:=(0,1)) hk)
 refine⟨_,rfl,a,c.dt,dx,_,_,rfl,ha,O.dt.cl,O.dt.at_ 3 rfl,rfl,_,rfl,da,_,_,_,rfl,rfl,.of hda,aG (j:=k) rfl hu,?_⟩
 refine⟨_,rfl,_,rfl,t,_,_,_,rfl,rfl,.of ht,aG (j:=1) rfl rfl,_,rfl,fun q H1 hq s1 hq1=> ?_⟩
 refine⟨_,_,_,_,rfl,bq.same hx s1,⟨q,rfl,hq1⟩,ut,by lia,lQ _,fun z H2 s2 hz=> ?_⟩
 have hz':=bq.less hz (cn s1)
 have s12:=s1.trans s2
 refine⟨_,rfl,a,c.dt,dx,_,_,rfl,s12 _ _ ha,O.dt.cl,O.dt.at_ 5 rfl,rfl,_,rfl,t,_,_,_,rfl,rfl,.of (s12 _ _ ht),aG (j:=0) rfl rfl,_,rfl,fun q2 H3 hq2 s3 hq3=> ?_⟩
 refine⟨aw (by simp),fun r hr'=>⟨aw (by simp),fun b hb=> ?_⟩⟩
 obtain⟨s4,h4⟩:=BG (l:=ak.cst (g.drives.getD k (0,1)).1) (x:=ak.width g.aO) s3 hq2 hq3 hr' hb
 exact GC s12 s4 hz' h4 (by rw[i7];simp;lia) kk
end
def sq(H:Hp)(Q:VK)(L:List (List (Int×List Int))):Prop:=∀z H',aJ H H'→OC (cj H) H' z L→Q z H'
theorem dI{H H1:Hp}{x:V}{ts:List (Int×List Int)}{Q:VK}(s:aJ H H1)(h:mx (cj H) H1 x ts)(k:sq H Q [ts]):∀p,H1 p=none→Q (.ref p) (upd H1 p (.lst [x])):=fun p hp=>
 k _ _ (s.trans (ay hp)) ⟨p,_,rfl,fun z=>z (s.free hp),ai,.cons (bq.same h (ay hp)) .nil⟩
structure OX(g:ak.gk):Prop where
 af:g.aO.af.length≤20
 st:g.cQ.length=g.aO.af.length
 dr:g.drives.length=g.aO.af.length
 s:g.s=[]∨g.s=[0,1]
theorem lR(x y:Int):iV (ak.CI x y)∧(ak.CI x y).length≤2:=by
 unfold ak.CI iV
 refine⟨fun t ht=> ?_,?_⟩
 ·rcases List.mem_append.mp ht with h |h
  ·split at h
   ·have:t=(x - 1,[1]):=by simpa using h
    subst this
    simp
   ·cases h
  ·split at h
   ·have:t=(y - 1,[-1]):=by simpa using h
    subst this
    simp
   ·cases h
 ·split <;>split <;>simp
theorem ux(g:ak.gk)(k:Int):iV (ak.cur g k)∧(ak.cur g k).length≤2:=by
 unfold ak.cur iV
 refine⟨fun t ht=> ?_,by simp⟩
 have:t=((ak.places g.aO).getD k.toNat 0,[1]):=by simpa using ht
 subst this
 simp
theorem Hy{l p:List Int}(hl:l.length≤100∧∀x∈l,x.natAbs≤1)(hl1:l.length≤1)(hp:p=[]∨p=[0,1]∨p=[-1]):(ak.dO l p).length≤2∧∀x∈ak.dO l p,x.natAbs≤1:=by
 match l,hl1 with
 |[],_=>simp[ak.dO]
 |[z],_=>
  have hz:=hl.2 z (by simp)
  rcases hp with rfl |rfl |rfl
  ·simp[ak.dO]
  ·have e:ak.dO [z] [0,1]=[z*0+0,z*1]:=rfl
   rw[e]
   refine⟨by simp,fun x hx=> ?_⟩
   simp at hx
   rcases hx with rfl |rfl
   ·simp
   ·exact hz
  ·have e:ak.dO [z] [-1]=[z*(-1)+0]:=rfl
   rw[e]
   refine⟨by simp,fun x hx=> ?_⟩
   simp at hx
   subst hx
   lia
def One(ts:List (Int×List Int)):Prop:=∀t∈ts,t.2.length≤1
theorem uy{ts:List (Int×List Int)}{p:List Int}(h:iV ts)(h1:One ts)(hp:p=[]∨p=[0,1]∨p=[-1]):iV (ak.md ts p):=fun t ht=>by
 unfold ak.md at ht
 obtain⟨u,hu,rfl⟩:=List.mem_map.mp ht
 have:=Hy (h u hu) (h1 u hu) hp
 exact⟨by have:=this.1;show(ak.dO u.2 p).length≤100;lia,this.2⟩
theorem K5(x y:Int):One (ak.CI x y):=by
 unfold ak.CI One
 intro t ht
 rcases List.mem_append.mp ht with h |h
 ·split at h
  ·have:t=(x - 1,[1]):=by simpa using h
   subst this
   simp
  ·cases h
 ·split at h
  ·have:t=(y - 1,[-1]):=by simpa using h
   subst this
   simp
  ·cases h
theorem GD(g:ak.gk)(k:Int):One (ak.cur g k):=by
 unfold ak.cur One
 intro t ht
 have:t=((ak.places g.aO).getD k.toNat 0,[1]):=by simpa using ht
 subst this
 simp
section
variable {P:Program}{w:World}{K:PySem.W.Frag}{mg:Str→Option Value}{base:Heap}{c:Cs}
theorem JM(O:cK K c){H:Hp}{v:V}{g:ak.gk}(hg:iE c H v g){σ:L2.St}(h0:σ[0]? =some (some v)){Q:VK}(q:∀a ws,H a=some (.lst ws)→Paired (du c H) ws g.aO.af→Q (.ref a) H):
  GW K (GW K (wA 0) "network") "parts" σ H Q:=by
 obtain⟨a,dx,vn,vs,vst,vd,vp,rfl,ha,⟨na,ndx,nvp,rfl,hna,pa,ws,rfl,hpa,hps⟩,hs,hst,hd,hpl⟩:=hg
 exact⟨_,h0,a,c.dt,dx,_,_,rfl,ha,O.dt.cl,O.dt.at_ 0 rfl,rfl,na,c.aO,ndx,_,_,rfl,hna,O.aO.cl,O.aO.at_ 1 rfl,rfl,q pa ws hpa hps⟩
theorem ir(O:cK K c){H:Hp}{v:V}{g:ak.gk}(hg:iE c H v g){k:Nat}(hk:k<g.aO.af.length){σ:L2.St}(h0:σ[0]? =some (some v))(h1:σ[1]? =some (some (.int (k:Int)))){Q:VK}(q:∀u,du c H u (g.aO.af.getD k ak.p0)→Q u H):
  Mc (Mi K) (GW K (GW K (wA 0) "network") "parts") (wA 1) σ H Q:=by
 refine JM O hg h0 fun a ws ha hps=> ?_
 obtain⟨u,hu,pu⟩:=hps.fP (az (d:=ak.p0) hk)
 exact⟨_,h1,a,_,_,_,rfl,rfl,.of ha,aG (j:=k) rfl hu,q u pu⟩
def eG(c:Cs)(kd:ak.gk→Nat→Prop)(F:ak.gk→Nat→List (List (Int×List Int))):Sp:=fun vs H Q _=>∃v g k,vs=[v,.int ((k:Nat):Int)]∧iE c H v g∧OX g∧k<g.aO.af.length∧kd g k∧sq H Q (F g k)
theorem b6{c:Cs}{kd:ak.gk→Nat→Prop}{F:ak.gk→Nat→List (List (Int×List Int))}:∀vs H Q E,eG c kd F vs H Q E→vs.length=(["setting","k"]:List Str).length:=fun vs H Q E ⟨v,g,k,e,_⟩=>by rw[e];rfl
abbrev pat(g:ak.gk)(k:Nat):ak.Part:=g.aO.af.getD k ak.p0
theorem vF(p:ak.Part):(ak.iT p).length≤100:=Nat.le_trans (lR _ _).2 (by decide)
theorem JN(p:ak.Part):(ak.A7 p).length≤100:=Nat.le_trans (lR _ _).2 (by decide)
theorem oK(g:ak.gk)(k:Int):(ak.cur g k).length≤100:=Nat.le_trans (ux _ _).2 (by decide)
theorem LR(p:ak.Part):iV (ak.iT p):=(lR _ _).1
theorem PJ(p:ak.Part):iV (ak.A7 p):=(lR _ _).1
theorem JO(g:ak.gk)(k:Int):iV (ak.cur g k):=(ux _ _).1
theorem toF{S:Addr→Prop}{H:Hp}{v:V}{ts:List (Int×List Int)}(h:mx S H v ts):mx (fun _=>False) H v ts:=bq.less h (fun _ h=>h.elim)
abbrev vS:ak.gk→Nat→Prop:=fun _ _=>True
abbrev PK:ak.gk→Nat→Prop:=fun g k=>0≤(pat g k).c∧(pat g k).c<g.aO.af.length
abbrev iN:Stmt:=top 40
theorem uz:aE ["setting","k","part"] ["setting","k"] (au iN):=sco rfl rfl rfl rfl (by decide +kernel)
theorem uA(O:cK K c)(aP:bo P w K mg base "times_number" ["part","left","right"] 3 (b7 c))(aU:bo P w K mg base "voltage_of" ["part"] 2 (cA c))(aI:bo P w K mg base "current_of" ["setting","k"] 1 (bQ c))(G:dD K mg "resistor_laws" iN ["setting","k"]):bo P w K mg base "resistor_laws" ["setting","k"] 5 (eG c vS fun g k=>[ak.jh (pat g k) (ak.iT (pat g k)) (ak.cur g k)]):=by
 have sc:=uz
 refine G.eD sc b6 fun f cdv A outer s H vs Q E hr h=> ?_
 obtain⟨v,g,k,rfl,hg,ok,hk,kd,kk⟩:=h
 refine⟨_,(aj (aH (i:=2) sc.nd rfl (by first|left;rfl|right;rfl) (aK (dR K) (ax K (ax K (pv 0) rfl) rfl) (pv 1) (fun _ _=>rfl)))
   (aq (aD (aN (aa (aB aP (hr.mono (by decide)) rfl (aa (pv 2) (aa (aB aU (hr.mono (by decide)) rfl (aa (pv 2) ah)) (aa (aB aI (hr.mono (by decide)) rfl (aa (pv 0) (aa (pv 1) ah))) ah)))) ah))))),?_⟩
 refine ir O hg hk rfl rfl fun u hu=> ?_
 refine⟨_,rfl,?_⟩
 refine⟨_,rfl,_,_,rfl,hu,fun x1 H1 t1 hx1=> ?_⟩
 refine⟨_,rfl,_,rfl,_,_,_,rfl,hg.same t1,by lia,by lia,fun x2 H2 t2 hx2=> ?_⟩
 refine⟨_,_,_,_,_,_,rfl,hu.same (t1.trans t2),toF (bq.same hx1 t2),toF hx2,LR _,JO _ _,vF _,oK _ _,fun z H3 s3 hz=> ?_⟩
 exact⟨aw (by simp),dI ((t1.trans t2).trans s3) (bq.less hz (cn (t1.trans t2))) kk⟩
abbrev cZ:Stmt:=top 47
theorem jt:aE ["setting","k","part"] ["setting","k"] (au cZ):=sco rfl rfl rfl rfl (by decide +kernel)
theorem ju(O:cK K c)(aP:bo P w K mg base "times_number" ["part","left","right"] 3 (b7 c))(aU:bo P w K mg base "voltage_of" ["part"] 2 (cA c))(aV:bo P w K mg base "controlling_voltage" ["part"] 2 (b5 c))(G:dD K mg "voltage_by_voltage_laws" cZ ["setting","k"]):bo P w K mg base "voltage_by_voltage_laws" ["setting","k"] 5 (eG c vS fun g k=>[ak.jh (pat g k) (ak.iT (pat g k)) (ak.A7 (pat g k))]):=by
 have sc:=jt
 refine G.eD sc b6 fun f cdv A outer s H vs Q E hr h=> ?_
 obtain⟨v,g,k,rfl,hg,ok,hk,kd,kk⟩:=h
 refine⟨_,(aj (aH (i:=2) sc.nd rfl (by first|left;rfl|right;rfl) (aK (dR K) (ax K (ax K (pv 0) rfl) rfl) (pv 1) (fun _ _=>rfl)))
   (aq (aD (aN (aa (aB aP (hr.mono (by decide)) rfl (aa (pv 2) (aa (aB aU (hr.mono (by decide)) rfl (aa (pv 2) ah)) (aa (aB aV (hr.mono (by decide)) rfl (aa (pv 2) ah)) ah)))) ah))))),?_⟩
 refine ir O hg hk rfl rfl fun u hu=> ?_
 refine⟨_,rfl,?_⟩
 refine⟨_,rfl,_,_,rfl,hu,fun x1 H1 t1 hx1=> ?_⟩
 refine⟨_,rfl,_,_,rfl,hu.same t1,fun x2 H2 t2 hx2=> ?_⟩
 refine⟨_,_,_,_,_,_,rfl,hu.same (t1.trans t2),toF (bq.same hx1 t2),toF hx2,LR _,PJ _,vF _,JN _,fun z H3 s3 hz=> ?_⟩
 exact⟨aw (by simp),dI ((t1.trans t2).trans s3) (bq.less hz (cn (t1.trans t2))) kk⟩
abbrev c4:Stmt:=top 48
theorem jv:aE ["setting","k","part"] ["setting","k"] (au c4):=sco rfl rfl rfl rfl (by decide +kernel)
theorem jw(O:cK K c)(aP:bo P w K mg base "times_number" ["part","left","right"] 3 (b7 c))(aI:bo P w K mg base "current_of" ["setting","k"] 1 (bQ c))(aV:bo P w K mg base "controlling_voltage" ["part"] 2 (b5 c))(G:dD K mg "current_by_voltage_laws" c4 ["setting","k"]):bo P w K mg base "current_by_voltage_laws" ["setting","k"] 5 (eG c vS fun g k=>[ak.jh (pat g k) (ak.cur g k) (ak.A7 (pat g k))]):=by
 have sc:=jv
 refine G.eD sc b6 fun f cdv A outer s H vs Q E hr h=> ?_
 obtain⟨v,g,k,rfl,hg,ok,hk,kd,kk⟩:=h
 refine⟨_,(aj (aH (i:=2) sc.nd rfl (by first|left;rfl|right;rfl) (aK (dR K) (ax K (ax K (pv 0) rfl) rfl) (pv 1) (fun _ _=>rfl)))
   (aq (aD (aN (aa (aB aP (hr.mono (by decide)) rfl (aa (pv 2) (aa (aB aI (hr.mono (by decide)) rfl (aa (pv 0) (aa (pv 1) ah))) (aa (aB aV (hr.mono (by decide)) rfl (aa (pv 2) ah)) ah)))) ah))))),?_⟩
 refine ir O hg hk rfl rfl fun u hu=> ?_
 refine⟨_,rfl,?_⟩
 refine⟨_,rfl,_,rfl,_,_,_,rfl,hg,by lia,by lia,fun x1 H1 t1 hx1=> ?_⟩
 refine⟨_,rfl,_,_,rfl,hu.same t1,fun x2 H2 t2 hx2=> ?_⟩
 refine⟨_,_,_,_,_,_,rfl,hu.same (t1.trans t2),toF (bq.same hx1 t2),toF hx2,JO _ _,PJ _,oK _ _,JN _,fun z H3 s3 hz=> ?_⟩
 exact⟨aw (by simp),dI ((t1.trans t2).trans s3) (bq.less hz (cn (t1.trans t2))) kk⟩
abbrev c5:Stmt:=top 49
theorem jx:aE ["setting","k","part"] ["setting","k"] (au c5):=sco rfl rfl rfl rfl (by decide +kernel)
theorem jy(O:cK K c)(aP:bo P w K mg base "times_number" ["part","left","right"] 3 (b7 c))(aU:bo P w K mg base "voltage_of" ["part"] 2 (cA c))(aI:bo P w K mg base "current_of" ["setting","k"] 1 (bQ c))(G:dD K mg "voltage_by_current_laws" c5 ["setting","k"]):bo P w K mg base "voltage_by_current_laws" ["setting","k"] 5 (eG c PK fun g k=>[ak.jh (pat g k) (ak.iT (pat g k)) (ak.cur g (pat g k).c)]):=by
 have sc:=jx
 refine G.eD sc b6 fun f cdv A outer s H vs Q E hr h=> ?_
 obtain⟨v,g,k,rfl,hg,ok,hk,kd,kk⟩:=h
 refine⟨_,(aj (aH (i:=2) sc.nd rfl (by first|left;rfl|right;rfl) (aK (dR K) (ax K (ax K (pv 0) rfl) rfl) (pv 1) (fun _ _=>rfl)))
   (aq (aD (aN (aa (aB aP (hr.mono (by decide)) rfl (aa (pv 2) (aa (aB aU (hr.mono (by decide)) rfl (aa (pv 2) ah)) (aa (aB aI (hr.mono (by decide)) rfl (aa (pv 0) (aa (ax K (pv 2) rfl) ah))) ah)))) ah))))),?_⟩
 refine ir O hg hk rfl rfl fun u hu=> ?_
 obtain⟨pa,pdx,rfl,hpa⟩:=id hu
 refine⟨_,rfl,?_⟩
 refine⟨_,rfl,_,_,rfl,hu,fun x1 H1 t1 hx1=> ?_⟩
 refine⟨_,rfl,_,rfl,pa,c.part,pdx,_,_,rfl,t1 _ _ hpa,O.part.cl,O.part.at_ 3 rfl,rfl,_,_,_,rfl,hg.same t1,kd.1,kd.2,fun x2 H2 t2 hx2=> ?_⟩
 refine⟨_,_,_,_,_,_,rfl,hu.same (t1.trans t2),toF (bq.same hx1 t2),toF hx2,LR _,JO _ _,vF _,oK _ _,fun z H3 s3 hz=> ?_⟩
 exact⟨aw (by simp),dI ((t1.trans t2).trans s3) (bq.less hz (cn (t1.trans t2))) kk⟩
abbrev c6:Stmt:=top 50
theorem jz:aE ["setting","k","part"] ["setting","k"] (au c6):=sco rfl rfl rfl rfl (by decide +kernel)
theorem jA(O:cK K c)(aP:bo P w K mg base "times_number" ["part","left","right"] 3 (b7 c))(aI:bo P w K mg base "current_of" ["setting","k"] 1 (bQ c))(G:dD K mg "current_by_current_laws" c6 ["setting","k"]):bo P w K mg base "current_by_current_laws" ["setting","k"] 5 (eG c PK fun g k=>[ak.jh (pat g k) (ak.cur g k) (ak.cur g (pat g k).c)]):=by
 have sc:=jz
 refine G.eD sc b6 fun f cdv A outer s H vs Q E hr h=> ?_
 obtain⟨v,g,k,rfl,hg,ok,hk,kd,kk⟩:=h
 refine⟨_,(aj (aH (i:=2) sc.nd rfl (by first|left;rfl|right;rfl) (aK (dR K) (ax K (ax K (pv 0) rfl) rfl) (pv 1) (fun _ _=>rfl)))
   (aq (aD (aN (aa (aB aP (hr.mono (by decide)) rfl (aa (pv 2) (aa (aB aI (hr.mono (by decide)) rfl (aa (pv 0) (aa (pv 1) ah))) (aa (aB aI (hr.mono (by decide)) rfl (aa (pv 0) (aa (ax K (pv 2) rfl) ah))) ah)))) ah))))),?_⟩
 refine ir O hg hk rfl rfl fun u hu=> ?_
 obtain⟨pa,pdx,rfl,hpa⟩:=id hu
 refine⟨_,rfl,?_⟩
 refine⟨_,rfl,_,rfl,_,_,_,rfl,hg,by lia,by lia,fun x1 H1 t1 hx1=> ?_⟩
 refine⟨_,rfl,_,rfl,pa,c.part,pdx,_,_,rfl,t1 _ _ hpa,O.part.cl,O.part.at_ 3 rfl,rfl,_,_,_,rfl,hg.same t1,kd.1,kd.2,fun x2 H2 t2 hx2=> ?_⟩
 refine⟨_,_,_,_,_,_,rfl,hu.same (t1.trans t2),toF (bq.same hx1 t2),toF hx2,JO _ _,JO _ _,oK _ _,oK _ _,fun z H3 s3 hz=> ?_⟩
 exact⟨aw (by simp),dI ((t1.trans t2).trans s3) (bq.less hz (cn (t1.trans t2))) kk⟩
abbrev hC:Stmt:=top 41
theorem sr:aE ["setting","k","part"] ["setting","k"] (au hC):=sco rfl rfl rfl rfl (by decide +kernel)
theorem su(O:cK K c)(aP:bo P w K mg base "times_number" ["part","left","right"] 3 (b7 c))(aU:bo P w K mg base "voltage_of" ["part"] 2 (cA c))(aI:bo P w K mg base "current_of" ["setting","k"] 1 (bQ c))(cq:bo P w K mg base "scaled" ["terms","polynomial"] 2 jb)(G:dD K mg "capacitor_laws" hC ["setting","k"]):bo P w K mg base "capacitor_laws" ["setting","k"] 5 (eG c vS fun g k=>[ak.jh (pat g k) (ak.cur g k) (ak.md (ak.iT (pat g k)) g.s)]):=by
 have sc:=sr
 refine G.eD sc b6 fun f cdv A outer s H vs Q E hr h=> ?_
 obtain⟨v,g,k,rfl,hg,ok,hk,kd,kk⟩:=h
 refine⟨_,(aj (aH (i:=2) sc.nd rfl (by first|left;rfl|right;rfl) (aK (dR K) (ax K (ax K (pv 0) rfl) rfl) (pv 1) (fun _ _=>rfl)))
   (aq (aD (aN (aa (aB aP (hr.mono (by decide)) rfl (aa (pv 2) (aa (aB aI (hr.mono (by decide)) rfl (aa (pv 0) (aa (pv 1) ah))) (aa (aB cq (hr.mono (by decide)) rfl (aa (aB aU (hr.mono (by decide)) rfl (aa (pv 2) ah)) (aa (ax K (pv 0) rfl) ah))) ah)))) ah))))),?_⟩
 refine ir O hg hk rfl rfl fun u hu=> ?_
 refine⟨_,rfl,?_⟩
 refine⟨_,rfl,_,rfl,_,_,_,rfl,hg,by lia,by lia,fun x1 H1 t1 hx1=> ?_⟩
 refine⟨_,rfl,_,_,rfl,hu.same t1,fun x2 H2 t2 hx2=> ?_⟩
 have hg2:=hg.same (t1.trans t2)
 obtain⟨a,dx,vn,vs,vst,vd,vp,rfl,ha,_,hs,_⟩:=id hg2
 have lu:iV (ak.md (ak.iT (pat g k)) g.s):=uy (LR _) (K5 _ _) (ok.s.elim .inl fun e=> .inr (.inl e))
 have sh:Short g.s:=by
  unfold Short
  rcases ok.s with e |e <;>rw[e] <;>simp
 refine⟨_,rfl,a,c.dt,dx,_,_,rfl,ha,O.dt.cl,O.dt.at_ 1 rfl,rfl,_,_,_,_,rfl,toF hx2,hs,LR _,Nat.le_trans (vF _) (by decide),sh,fun x3 H3 t3 hx3=> ?_⟩
 refine⟨_,_,_,_,_,_,rfl,hu.same ((t1.trans t2).trans t3),toF (bq.same hx1 (t2.trans t3)),toF hx3,JO _ _,lu,oK _ _,by rw[i7];exact vF _,fun z H4 s4 hz=> ?_⟩
 exact⟨aw (by simp),dI (((t1.trans t2).trans t3).trans s4) (bq.less hz (cn ((t1.trans t2).trans t3))) kk⟩
abbrev iO:Stmt:=top 44
theorem uB:aE ["setting","k"] ["setting","k"] (au iO):=sco rfl rfl rfl rfl (by decide +kernel)
theorem uC(G:dD K mg "coupling_laws" iO ["setting","k"]):bo P w K mg base "coupling_laws" ["setting","k"] 5 (eG c vS fun g k=>[]):=by
 have sc:=uB
 refine bo.mono (j:=1) (G.eD sc b6 fun f cdv A outer s H vs Q E hr h=> ?_) (by decide)
 obtain⟨v,g,k,rfl,hg,ok,hk,kd,kk⟩:=h
 refine⟨_,(aq (aD (aN ah))),?_⟩
 exact⟨Nat.zero_le _,fun p hp=>kk _ _ (ay hp) ⟨p,_,rfl,fun z=>z hp,ai,.nil⟩⟩
abbrev eH:Stmt:=top 45
theorem mE:aE ["setting","k"] ["setting","k"] (au eH):=sco rfl rfl rfl rfl (by decide +kernel)
theorem mF(O:cK K c)(dJ:bo P w K mg base "set_to_drive" ["setting","k","terms"] 3 (iM c))(aU:bo P w K mg base "voltage_of" ["part"] 2 (cA c))(G:dD K mg "voltage_source_laws" eH ["setting","k"]):bo P w K mg base "voltage_source_laws" ["setting","k"] 4 (eG c vS fun g k=>[ak.CJ g k (ak.iT (pat g k))]):=by
 have sc:=mE
 refine G.eD sc b6 fun f cdv A outer s H vs Q E hr h=> ?_
 obtain⟨v,g,k,rfl,hg,ok,hk,kd,kk⟩:=h
 refine⟨_,(aq (aD (aN (aa (aB dJ (hr.mono (by decide)) rfl (aa (pv 0) (aa (pv 1) (aa (aB aU (hr.mono (by decide)) rfl (aa (aK (dR K) (ax K (ax K (pv 0) rfl) rfl) (pv 1) (fun _ _=>rfl)) ah)) ah)))) ah)))),?_⟩
 refine⟨_,rfl,_,rfl,?_⟩
 refine ir O hg hk rfl rfl fun u hu=> ?_
 refine⟨_,_,rfl,hu,fun x1 H1 t1 hx1=> ?_⟩
 refine⟨_,_,_,_,_,rfl,hg.same t1,by rw[ok.dr];exact hk,toF hx1,LR _,vF _,fun z H4 s4 hz=> ?_⟩
 exact⟨aw (by simp),dI (t1.trans s4) (bq.less hz (cn t1)) kk⟩
abbrev eI:Stmt:=top 46
theorem mG:aE ["setting","k"] ["setting","k"] (au eI):=sco rfl rfl rfl rfl (by decide +kernel)
theorem mH(O:cK K c)(dJ:bo P w K mg base "set_to_drive" ["setting","k","terms"] 3 (iM c))(aI:bo P w K mg base "current_of" ["setting","k"] 1 (bQ c))(G:dD K mg "current_source_laws" eI ["setting","k"]):bo P w K mg base "current_source_laws" ["setting","k"] 4 (eG c vS fun g k=>[ak.CJ g k (ak.cur g k)]):=by
 have sc:=mG
 refine G.eD sc b6 fun f cdv A outer s H vs Q E hr h=> ?_
 obtain⟨v,g,k,rfl,hg,ok,hk,kd,kk⟩:=h
 refine⟨_,(aq (aD (aN (aa (aB dJ (hr.mono (by decide)) rfl (aa (pv 0) (aa (pv 1) (aa (aB aI (hr.mono (by decide)) rfl (aa (pv 0) (aa (pv 1) ah))) ah)))) ah)))),?_⟩
 refine⟨_,rfl,_,rfl,?_⟩
 refine⟨_,rfl,_,rfl,_,_,_,rfl,hg,by lia,by lia,fun x1 H1 t1 hx1=> ?_⟩
 refine⟨_,_,_,_,_,rfl,hg.same t1,by rw[ok.dr];exact hk,toF hx1,JO _ _,oK _ _,fun z H4 s4 hz=> ?_⟩
 exact⟨aw (by simp),dI (t1.trans s4) (bq.less hz (cn t1)) kk⟩
abbrev hE:Stmt:=top 52
theorem sv:aE ["setting","k"] ["setting","k"] (au hE):=sco rfl rfl rfl rfl (by decide +kernel)
theorem sy(O:cK K c)(aV:bo P w K mg base "controlling_voltage" ["part"] 2 (b5 c))(G:dD K mg "amplifier_laws" hE ["setting","k"]):bo P w K mg base "amplifier_laws" ["setting","k"] 3 (eG c vS fun g k=>[ak.A7 (pat g k)]):=by
 have sc:=sv
 refine G.eD sc b6 fun f cdv A outer s H vs Q E hr h=> ?_
 obtain⟨v,g,k,rfl,hg,ok,hk,kd,kk⟩:=h
 refine⟨_,(aq (aD (aN (aa (aB aV (hr.mono (by decide)) rfl (aa (aK (dR K) (ax K (ax K (pv 0) rfl) rfl) (pv 1) (fun _ _=>rfl)) ah)) ah)))),?_⟩
 refine ir O hg hk rfl rfl fun u hu=> ?_
 refine⟨_,_,rfl,hu,fun x1 H1 t1 hx1=> ?_⟩
 exact⟨aw (by simp),dI t1 hx1 kk⟩
abbrev kZ:Stmt:=top 53
theorem xQ:aE ["setting","k","part"] ["setting","k"] (au kZ):=sco rfl rfl rfl rfl (by decide +kernel)
theorem xR(O:cK K c)(aI:bo P w K mg base "current_of" ["setting","k"] 1 (bQ c))(aU:bo P w K mg base "voltage_of" ["part"] 2 (cA c))(G:dD K mg "switch_laws" kZ ["setting","k"]):bo P w K mg base "switch_laws" ["setting","k"] 3 (eG c vS fun g k=>[if(pat g k).top=0 then ak.cur g k else ak.iT (pat g k)]):=by
 have sc:=xQ
 refine G.eD sc b6 fun f cdv A outer s H vs Q E hr h=> ?_
 obtain⟨v,g,k,rfl,hg,ok,hk,kd,kk⟩:=h
 refine⟨_,(aj (aH (i:=2) sc.nd rfl (by first|left;rfl|right;rfl) (aK (dR K) (ax K (ax K (pv 0) rfl) rfl) (pv 1) (fun _ _=>rfl)))
   (aq (aD (aN (aa (iy (bf de (ax K (pv 2) rfl) aA (aZ _)) (aB aI (hr.mono (by decide)) rfl (aa (pv 0) (aa (pv 1) ah))) (aB aU (hr.mono (by decide)) rfl (aa (pv 2) ah))) ah))))),?_⟩
 refine ir O hg hk rfl rfl fun u hu=> ?_
 obtain⟨pa,pdx,rfl,hpa⟩:=id hu
 change sq H Q [if(g.aO.af.getD k ak.p0).top=0 then ak.cur g k else ak.iT (g.aO.af.getD k ak.p0)] at kk
 refine⟨_,rfl,pa,c.part,pdx,_,_,rfl,hpa,O.part.cl,O.part.at_ 5 rfl,rfl,rfl,_,rfl,?_⟩
 rw[fE]
 refine Mw (fun h=> ?_) (fun h=> ?_)
 ·rw[if_pos (of_decide_eq_true h)] at kk
  refine⟨_,rfl,_,rfl,_,_,_,rfl,hg,by lia,by lia,fun x1 H1 t1 hx1=> ?_⟩
  exact⟨aw (by simp),dI t1 hx1 kk⟩
 ·rw[if_neg (fun e=>h (decide_eq_true e))] at kk
  refine⟨_,rfl,_,_,rfl,hu,fun x1 H1 t1 hx1=> ?_⟩
  exact⟨aw (by simp),dI t1 hx1 kk⟩
abbrev mI:Stmt:=top 54
theorem yW:aE ["setting","k"] ["setting","k"] (au mI):=sco rfl rfl rfl rfl (by decide +kernel)
theorem yX(O:cK K c)(cW:bo P w K mg base "voltage_source_laws" ["setting","k"] 4 (eG c vS fun g k=>[ak.CJ g k (ak.iT (pat g k))]))(aI:bo P w K mg base "current_of" ["setting","k"] 1 (bQ c))(G:dD K mg "diode_laws" mI ["setting","k"]):bo P w K mg base "diode_laws" ["setting","k"] 5 (eG c vS fun g k=>if g.cQ.getD k false=true then[ak.CJ g k (ak.iT (pat g k))] else[ak.cur g k]):=by
 have sc:=yW
 refine G.eD sc b6 fun f cdv A outer s H vs Q E hr h=> ?_
 obtain⟨v,g,k,rfl,hg,ok,hk,kd,kk⟩:=h
 refine⟨_,(aj (bJ (bA K (aK (dR K) (ax K (pv 0) rfl) (pv 1) (fun _ _=>rfl)) (fun _=>rfl)) (aq (aD (aB cW (hr.mono (by decide)) rfl (aa (pv 0) (aa (pv 1) ah))))) aT)
   (aq (aD (aN (aa (aB aI (hr.mono (by decide)) rfl (aa (pv 0) (aa (pv 1) ah))) ah))))),?_⟩
 obtain⟨a,dx,vn,vs,vst,vd,vp,rfl,ha,_,hs,⟨sa,rfl,hsa⟩,_⟩:=id hg
 have hb:(g.cQ.map V.bl)[k]? =some (.bl (g.cQ.getD k false)):=by
  rw[List.getElem?_map,az (d:=false) (by rw[ok.st];exact hk)];rfl
 refine⟨_,rfl,a,c.dt,dx,_,_,rfl,ha,O.dt.cl,O.dt.at_ 2 rfl,rfl,_,rfl,sa,_,_,_,rfl,rfl,.of hsa,aG (j:=k) rfl hb,_,rfl,?_⟩
 change sq H Q (if g.cQ.getD k false=true then[ak.CJ g k (ak.iT (pat g k))] else[ak.cur g k]) at kk
 cases e:g.cQ.getD k false with
 |true=>
  rw[e,if_pos rfl] at kk
  exact bx ⟨_,rfl,_,rfl,_,_,_,rfl,hg,ok,hk,trivial,kk⟩
 |false=>
  rw[e,if_neg (by decide)] at kk
  refine bC ⟨_,rfl,_,rfl,_,_,_,rfl,hg,by lia,by lia,fun x1 H1 t1 hx1=> ?_⟩
  exact⟨aw (by simp),dI t1 hx1 kk⟩
abbrev fR:Stmt:=top 51
theorem pV:aE ["setting","k","part","first","second"] ["setting","k"] (au fR):=sco rfl rfl rfl rfl (by decide +kernel)
theorem pW(O:cK K c)(aP:bo P w K mg base "times_number" ["part","left","right"] 3 (b7 c))(aU:bo P w K mg base "voltage_of" ["part"] 2 (cA c))(aV:bo P w K mg base "controlling_voltage" ["part"] 2 (b5 c))(aI:bo P w K mg base "current_of" ["setting","k"] 1 (bQ c))(cq:bo P w K mg base "scaled" ["terms","polynomial"] 2 jb)(G:dD K mg "transformer_laws" fR ["setting","k"]):bo P w K mg base "transformer_laws" ["setting","k"] 5 (eG c vS fun g k=>[ak.jh (pat g k) (ak.iT (pat g k)) (ak.A7 (pat g k)),ak.jh (pat g k) [((ak.places g.aO).getD k 0+1,[1])] (ak.md (ak.cur g k) [-1])]):=by
 have sc:=pV
 refine G.eD sc b6 fun f cdv A outer s H vs Q E hr h=> ?_
 obtain⟨v,g,k,rfl,hg,ok,hk,kd,kk⟩:=h
 refine⟨_,(aj (aH (i:=2) sc.nd rfl (by first|left;rfl|right;rfl) (aK (dR K) (ax K (ax K (pv 0) rfl) rfl) (pv 1) (fun _ _=>rfl)))
   (aj (aH (i:=3) sc.nd rfl (by first|left;rfl|right;rfl) (aB aI (hr.mono (by decide)) rfl (aa (pv 0) (aa (pv 1) ah))))
   (aj (aH (i:=4) sc.nd rfl (by first|left;rfl|right;rfl) (aN (aa (bY (aa (a9 eV (aK (dR K) (ax K (pv 0) rfl) (pv 1) (fun _ _=>rfl)) aA) (aa (aN (aa aA ah)) ah))) ah)))
   (aq (aD (aN (aa (aB aP (hr.mono (by decide)) rfl (aa (pv 2) (aa (aB aU (hr.mono (by decide)) rfl (aa (pv 2) ah)) (aa (aB aV (hr.mono (by decide)) rfl (aa (pv 2) ah)) ah)))) (aa (aB aP (hr.mono (by decide)) rfl (aa (pv 2) (aa (pv 4) (aa (aB cq (hr.mono (by decide)) rfl (aa (pv 3) (aa (aN (aa (gr dQ aA) ah)) ah))) ah)))) ah)))))))),?_⟩
 refine ir O hg hk rfl rfl fun u hu=> ?_
 refine⟨_,rfl,_,rfl,_,_,_,rfl,hg,by lia,by lia,fun x1 H1 t1 hx1=> ?_⟩
 have hg1:=hg.same t1
 obtain⟨a,dx,vn,vs,vst,vd,vp,rfl,ha,_,hs,_,_,⟨pa,rfl,hpl⟩⟩:=id hg1
 have hj:k<(ak.places g.aO).length:=by rw[places_len];exact hk
 refine⟨_,rfl,a,c.dt,dx,_,_,rfl,ha,O.dt.cl,O.dt.at_ 4 rfl,rfl,_,rfl,pa,_,_,_,rfl,rfl,.of hpl,aG (j:=k) rfl (cu hj),_,_,rfl,rfl,aw (by simp),fun p hp=>⟨aw (by simp),fun t ht=>⟨aw (by simp),fun q hq=> ?_⟩⟩⟩
 obtain⟨s2,hx2⟩:=BG (H:=H1) (H1:=upd H1 p (.lst [.int 1])) (l:=[1]) (x:=(ak.places g.aO).getD k 0+1) (ay hp) hp ai ht hq
 generalize hH2:upd (upd (upd H1 p (.lst [.int 1])) t (.tup [.int ((ak.places g.aO).getD k 0+1),.ref p])) q (.lst [.ref t])=H2 at s2 hx2
 have hu2:=hu.same (t1.trans s2)
 have u2:iV [((ak.places g.aO).getD k 0+1,[1])]:=fun t ht=>by
  have:t=((ak.places g.aO).getD k 0+1,[1]):=by simpa using ht
  subst this
  simp
 refine⟨_,rfl,_,rfl,_,_,rfl,hu2,fun x3 H3 t3 hx3=> ?_⟩
 refine⟨_,rfl,_,_,rfl,hu2.same t3,fun x4 H4 t4 hx4=> ?_⟩
 refine⟨_,_,_,_,_,_,rfl,hu2.same (t3.trans t4),toF (bq.same hx3 t4),toF hx4,LR _,PJ _,vF _,JN _,fun x5 H5 t5 hx5=> ?_⟩
 have t25:=(t3.trans t4).trans t5
 refine⟨_,rfl,_,rfl,_,rfl,_,rfl,aw (by simp),fun p6 hp6=> ?_⟩
 have s6:=ay (o:= .lst [.int (-1)]) hp6
 refine⟨_,_,_,[-1],rfl,toF (bq.same hx1 ((s2.trans t25).trans s6)),⟨p6,rfl,ai⟩,JO _ _,Nat.le_trans (oK _ _) (by decide),by unfold Short;simp,fun x7 H7 t7 hx7=> ?_⟩
 refine⟨_,_,_,_,_,_,rfl,hu2.same ((t25.trans s6).trans t7),toF (bq.same hx2 ((t25.trans s6).trans t7)),toF hx7,u2,uy (JO _ _) (GD _ _) (.inr (.inr rfl)),by simp,by rw[i7];exact oK _ _,fun x8 H8 t8 hx8=> ?_⟩
 refine⟨aw (by simp),fun r hr'=> ?_⟩
 have s9:=ay (o:= .lst [x5,x8]) hr'
 have t28:=(s6.trans t7).trans t8
 have all:aJ H H8:=(((t1.trans s2).trans t25).trans t28)
 refine kk _ _ (all.trans s9) ⟨r,_,rfl,fun z=>z (all.free hr'),ai,.cons ?_ (.cons ?_ .nil)⟩
 ·exact bq.same (bq.same (bq.less hx5 (cn (((t1.trans s2).trans t3).trans t4))) t28) s9
 ·exact bq.same (bq.less hx8 (cn (((t1.trans s2).trans t25).trans (s6.trans t7)))) s9
end
theorem no_ref{l:List Int}{a:Addr}(h:V.ref a∈l.map V.int):False:=by
 obtain⟨z,_,e⟩:=List.mem_map.mp h
 cases e
theorem sA{H:Hp}{a:Addr}{x y:List V}(h:H a=some (.lst x))(h':H a=some (.lst y)):x=y:=by
 rw[h] at h'
 cases h'
 rfl
theorem _root_.PySem.Paired.GF{α β:Type}{F G:α→β→Prop}:∀{l:List α} {m:List β},Paired F l m→(∀a b,a∈l→F a b→G a b)→Paired G l m
 |_,_,.nil,_=> .nil
 |_,_,.cons r t,f=> .cons (f _ _ List.mem_cons_self r) (t.GF fun a b ha=>f a b (List.mem_cons_of_mem _ ha))
theorem uD{S:Addr→Prop}{H:Hp}{p:Addr}{vs:List V}{v:V}{l:List Int}{a:Addr}(hp:H p=some (.lst vs))(hm:V.ref a∈vs)(h:nF S H v l):nF (bZ S p) H v l:=by
 obtain⟨b,e,hs,hb⟩:=h
 refine⟨b,e,fun q=>q.elim hs fun z=> ?_,hb⟩
 rw[z] at hb
 rw[sA hp hb] at hm
 exact no_ref hm
theorem xS{S:Addr→Prop}{H:Hp}{p:Addr}{vs:List V}{v:V}{t:Int×List Int}{a:Addr}(hp:H p=some (.lst vs))(hm:V.ref a∈vs)(h:gT S H v t):gT (bZ S p) H v t:=by
 obtain⟨b,x,e,hs,hb,hx⟩:=h
 refine⟨b,x,e,fun q=>q.elim hs fun z=> ?_,hb,uD hp hm hx⟩
 rw[z,hp] at hb
 cases hb
theorem JP{S:Addr→Prop}{H:Hp}{p:Addr}{vs:List V}{l:List (Int×List Int)}(hp:H p=some (.lst vs))(h:Paired (gT S H) vs l):Paired (gT (bZ S p) H) vs l:=h.GF fun v x hv q=>by
 obtain⟨a,_,rfl,_,_⟩:=id q
 exact xS hp hv q
theorem K6{S:Addr→Prop}{H:Hp}{p:Addr}{vs:List V}{l:List (List (Int×List Int))}(hp:H p=some (.lst vs))(h:Paired (mx S H) vs l):Paired (mx (bZ S p) H) vs l:=h.GF fun v x hv q=>by
 obtain⟨a,us,rfl,hs,ha,hu⟩:=q
 refine⟨a,us,rfl,fun z=>z.elim hs fun e=> ?_,ha,hu.dA fun u t ht=>xS hp hv ht⟩
 rw[e] at ha hv
 have e2:=sA ha hp
 rw[←e2] at hv
 obtain⟨i,hi⟩:=List.getElem?_of_mem hv
 obtain⟨_,_,b,_,e3,_,hb,_⟩:=hu.iL hi
 cases e3
 rw[hp] at hb
 cases hb
theorem K7{S:Addr→Prop}{H:Hp}{p:Addr}{vs:List V}{l:List (List (List Int))}(hp:H p=some (.lst vs))(h:Paired (oE S H) vs l):Paired (oE (bZ S p) H) vs l:=h.GF fun v x hv q=>by
 obtain⟨a,us,rfl,hs,ha,hu⟩:=q
 refine⟨a,us,rfl,fun z=>z.elim hs fun e=> ?_,ha,hu.dA fun u t ht=>uD hp hv ht⟩
 rw[e] at ha hv
 have e2:=sA ha hp
 rw[←e2] at hv
 obtain⟨i,hi⟩:=List.getElem?_of_mem hv
 obtain⟨_,_,b,e3,_,hb⟩:=hu.iL hi
 cases e3
 rw[sA ha hb] at hv
 exact no_ref hv
def LS(H:Hp)(u:V)(x:Int×Int×Int):Prop:=∃r,u= .ref r∧H r=some (.tup [.int x.1,.int x.2.1,.int x.2.2])
theorem LS.same{H H':Hp}{u:V}{x:Int×Int×Int}(h:LS H u x)(s:aJ H H'):LS H' u x:=let ⟨r,e,q⟩:=h;⟨r,e,s _ _ q⟩
def PL(H:Hp)(v:V)(l:List (Int×Int×Int)):Prop:=∃a vs,v= .ref a∧H a=some (.lst vs)∧Paired (LS H) vs l
theorem K8{H4:Hp}{q t:Addr}{us:List V}{sh:List (Int×Int×Int)}{x:Int×Int×Int}(hq:H4 q=some (.lst us))(hu:Paired (LS H4) us sh)(ht:H4 t=some (.tup [.int x.1,.int x.2.1,.int x.2.2])):
  Paired (LS (upd H4 q (.lst (us ++ [.ref t])))) (us ++ [.ref t]) (sh ++ [x]):=by
 have k:∀(y:Addr) (l:List V),H4 y=some (.tup l)→(upd H4 q (.lst (us ++ [.ref t]))) y=some (.tup l):=fun y l h=>by
  rw[aR (B9 h hq (by intro z;cases z))]
  exact h
 exact(hu.dA fun u y ⟨r,e,hr⟩=>⟨r,e,k _ _ hr⟩).fB ⟨t,rfl,k _ _ ht⟩
section
variable {P:Program}{w:World}{K:PySem.W.Frag}{mg:Str→Option Value}{base:Heap}{c:Cs}
def LU(k:Int)(p:ak.Part):Bool:=decide (p.kind=3∧(k=p.a∨k=p.b))
def OY(k:Int)(p:ak.Part):Int×Int×Int:=(p.a+p.b - k,p.top,p.aC)
theorem Ar(ps:List ak.Part)(k:Nat):ak.bu ps k=((k:Int),(ps.getD k ak.p0).top,(ps.getD k ak.p0).aC)::(ps.filter (LU k)).map (OY k):=rfl
theorem K9(k a b:Int):DN (.int k) [.int a,.int b]=decide (k=a∨k=b):=by
 by_cases h1:k=a
 ·subst h1
  simp[DN,GY]
 ·by_cases h2:k=b
  ·subst h2
   simp[DN,GY]
  ·simp[DN,GY,h1,h2,Ne.symm h1,Ne.symm h2]
abbrev lg:Stmt:=top 43
theorem xT:aE ["parts","k","shares","part"] ["parts","k"] (au lg):=sco rfl rfl rfl rfl (by decide +kernel)
def oM(c:Cs):Sp:=fun vs H Q _=>∃v ps k,vs=[v,.int ((k:Nat):Int)]∧i6 c H v ps∧k<ps.length∧ps.length≤20∧∀z H',aJ H H'→PL H' z (ak.bu ps k)→Q z H'
theorem xU(T:Txt2 mg)(O:cK K c)(G:dD K mg "coil_shares" lg ["parts","k"]):bo P w K mg base "coil_shares" ["parts","k"] 1 (oM c):=by
 have sc:=xT
 refine G.eD sc (fun vs H Q E ⟨v,ps,k,e,_⟩=>by rw[e];rfl) fun f cdv A outer s H vs Q E hr h=> ?_
 obtain⟨v,ps,k,rfl,⟨a,ws,rfl,ha,hps⟩,hk,hl,kk⟩:=h
 have ll:=hps.length
 refine⟨_,(aj (aH (i:=2) sc.nd rfl (by first|left;rfl|right;rfl) (aN (aa (bY (aa (pv 1) (aa (ax K (aK (dR K) (pv 0) (pv 1) (fun _ _=>rfl)) rfl) (aa (ax K (aK (dR K) (pv 0) (pv 1) (fun _ _=>rfl)) rfl) ah)))) ah)))
   (aj (cX PassesOwn.never rfl (cw (pv 0)) (aQ (i:=3) sc.nd rfl (Or.inl rfl)) (aq (bJ (PW.pt (DU (bf de (ax K (pv 3) rfl) (gc T.dw) (aZ _)) (AI (bf (wG K) (pv 1) (bY (aa (ax K (pv 3) rfl) (aa (ax K (pv 3) rfl) ah))) (by with_unfolding_all rfl))))) (aq (eO (j3 PySem.F.plainAttrs_list PySem.F.slot_list_append PySem.F.type_list_append c7 (pv 2) (aa (bY (aa (a9 iI (a9 eV (ax K (pv 3) rfl) (ax K (pv 3) rfl)) (pv 1)) (aa (ax K (pv 3) rfl) (aa (ax K (pv 3) rfl) ah)))) ah)))) aT)))
   (aq (aD (pv 2))))),?_⟩
 obtain⟨u,hu,pa,pdx,rfl,hpa⟩:=hps.fP (az (d:=ak.p0) hk)
 refine⟨_,rfl,_,rfl,_,rfl,a,_,_,_,rfl,rfl,.of ha,aG (j:=k) rfl hu,pa,c.part,pdx,_,_,rfl,hpa,O.part.cl,O.part.at_ 5 rfl,rfl,?_⟩
 refine⟨_,rfl,_,rfl,a,_,_,_,rfl,rfl,.of ha,aG (j:=k) rfl hu,pa,c.part,pdx,_,_,rfl,hpa,O.part.cl,O.part.at_ 6 rfl,rfl,?_⟩
 refine⟨aw (by simp),fun t ht=>⟨aw (by simp),fun q hq=> ?_⟩⟩
 have s1:=ay (o:= .tup [.int (k:Int),.int (ps.getD k ak.p0).top,.int (ps.getD k ak.p0).aC]) ht
 have s2:=s1.trans (ay (o:= .lst [.ref t]) hq)
 have hqH:H q=none:=s1.free hq
 refine⟨_,rfl,a,rfl,⟨_,.of (s2 _ _ ha)⟩,fA (cy (K:=K) (.of ha)) (fun i σ H'=>∃x3 us,σ=[some (.ref a),some (.int (k:Int)),some (.ref q),x3]∧aJ H H'∧H' q=some (.lst us)∧us.length≤i+1∧Paired (LS H') us (((k:Int),(ps.getD k ak.p0).top,(ps.getD k ak.p0).aC)::((ps.take i).filter (LU k)).map (OY k))) ?_ (fun i σ H' ⟨_,_,_,s,_⟩=>s) ?_ ?_⟩
 ·exact⟨none,_,rfl,s2,ai,by simp,.cons ⟨t,rfl,ay hq _ _ ai⟩ .nil⟩
 ·rintro i x σ H1 H2 hi ⟨x3,us,rfl,s3,hq1,hul,hus⟩ s4 s12 hx
  obtain⟨p,hp,pb,pbx,rfl,hpb⟩:=hps.iL hx
  have hq2:=s12 _ _ hq1
  have hpb2:=s4 _ _ hpb
  have hus2:=hus.dA fun u y z=>z.same s12
  have keep:LU k p=false→∀H3,aJ H2 H3→∃x3 us,[some (V.ref a),some (V.int (k:Int)),some (V.ref q),some (V.ref pb)]=[some (V.ref a),some (V.int (k:Int)),some (V.ref q),x3]∧aJ H H3∧H3 q=some (.lst us)∧us.length≤i+1+1∧Paired (LS H3) us (((k:Int),(ps.getD k ak.p0).top,(ps.getD k ak.p0).aC)::((ps.take (i+1)).filter (LU k)).map (OY k)):=fun e H3 s5=>by
   refine⟨_,us,rfl,s4.trans s5,s5 _ _ hq2,by lia,?_⟩
   rw[List.take_add_one,hp,List.filter_append]
   have:(Option.some p).toList.filter (LU k)=[]:=by simp[e]
   rw[this,List.append_nil]
   exact hus2.dA fun u y z=>z.same s5
  refine⟨_,rfl,pb,c.part,pbx,_,_,rfl,hpb2,O.part.cl,O.part.at_ 0 rfl,rfl,rfl,_,rfl,?_⟩
  rw[fE]
  by_cases h3:p.kind=3
  ·rw[decide_eq_true h3]
   refine bx ⟨_,rfl,_,rfl,pb,c.part,pbx,_,_,rfl,hpb2,O.part.cl,O.part.at_ 1 rfl,rfl,_,rfl,pb,c.part,pbx,_,_,rfl,hpb2,O.part.cl,O.part.at_ 2 rfl,rfl,aw (by simp),fun r hr'=> ?_⟩
   have s5:=ay (o:= .tup [.int p.a,.int p.b]) hr'
   refine⟨r,_,rfl,.inr (.of ai),rfl,rfl,_,rfl,?_⟩
   show if(DN (.int (k:Int)) [.int p.a,.int p.b])=true then _ else _
   rw[K9]
   by_cases h4:(k:Int)=p.a∨(k:Int)=p.b
   ·rw[decide_eq_true h4]
    have hpb3:=s5 _ _ hpb2
    refine bx ⟨_,rfl,.inl ⟨rfl,_,.of (s5 _ _ hq2)⟩,?_⟩
    refine⟨_,rfl,pb,c.part,pbx,_,_,rfl,hpb3,O.part.cl,O.part.at_ 1 rfl,rfl,_,rfl,pb,c.part,pbx,_,_,rfl,hpb3,O.part.cl,O.part.at_ 2 rfl,rfl,_,_,rfl,rfl,_,rfl,_,_,rfl,rfl,_,rfl,pb,c.part,pbx,_,_,rfl,hpb3,O.part.cl,O.part.at_ 5 rfl,rfl,_,rfl,pb,c.part,pbx,_,_,rfl,hpb3,O.part.cl,O.part.at_ 6 rfl,rfl,aw (by simp),fun t2 ht2=> ?_⟩
    have s6:=ay (o:= .tup [.int (p.a+p.b - (k:Int)),.int p.top,.int p.aC]) ht2
    have hq3:=s6 _ _ (s5 _ _ hq2)
    refine⟨q,us,_,rfl,rfl,hq3,aL (by lia),_,_,rfl,(((s4.trans s5).trans s6).over hqH),ai,by simp;lia,?_⟩
    have hF:LU k p=true:=decide_eq_true ⟨h3,h4⟩
    rw[List.take_add_one,hp,List.filter_append]
    have:(Option.some p).toList.filter (LU k)=[p]:=by simp[hF]
    rw[this,List.map_append]
    exact K8 (x:=OY k p) hq3 (hus2.dA fun u y z=>(z.same s5).same s6) ai
   ·rw[decide_eq_false h4]
    exact bC (keep (decide_eq_false fun h=>h4 h.2) _ s5)
  ·rw[decide_eq_false h3]
   exact bC (bC (keep (decide_eq_false fun h=>h3 h.1) _ (.refl _)))
 ·rintro σ H1 ⟨x3,us,rfl,s3,hq1,hul,hus⟩
  refine⟨_,rfl,kk _ H1 s3 ⟨q,us,rfl,hq1,?_⟩⟩
  rw[ll,List.take_length] at hus
  rw[Ar]
  exact hus
end
def JQ:ak.gk→Nat→Prop:=fun g k=>∀x∈ak.bu g.aO.af k,0≤x.1∧x.1<g.aO.af.length∧1≤x.2.2∧x.2.2≤1000000∧x.2.1.natAbs≤1000000
theorem EW(ps:List ak.Part)(k:Nat):(ak.bu ps k).length≤ps.length+1:=by
 rw[Ar,List.length_cons,lMp]
 have:=List.length_filter_le (LU k) ps
 lia
def Nl(g:ak.gk)(cm:Int)(x:Int×Int×Int):List (Int×List Int):=ak.md (ak.md (ak.cur g x.1) g.s) (ak.cst (-x.2.1*cm.fdiv x.2.2))
theorem EX(g:ak.gk)(k:Nat):ak.me g k=ak.md (ak.iT (pat g k)) (ak.cst (ak.common (ak.bu g.aO.af k))) ++ (ak.bu g.aO.af k).flatMap (Nl g (ak.common (ak.bu g.aO.af k))):=rfl
theorem sC{α β:Type}(f:α→List β)(l:List α)(i:Nat)(x:α)(h:l[i]? =some x):(l.take (i+1)).flatMap f=(l.take i).flatMap f ++ f x:=by
 rw[List.take_add_one,h,List.flatMap_append]
 simp
theorem GG(g:ak.gk)(cm:Int)(x:Int×Int×Int):(Nl g cm x).length≤2:=by
 unfold Nl
 rw[i7,i7]
 exact(ux g x.1).2
theorem oy(g:ak.gk)(cm:Int):∀l:List (Int×Int×Int),(l.flatMap (Nl g cm)).length≤2*l.length
 |[]=>by simp
 |x::l=>by
  rw[List.flatMap_cons,List.length_append,List.length_cons]
  have:=oy g cm l
  have:=GG g cm x
  lia
section
variable {P:Program}{w:World}{K:PySem.W.Frag}{mg:Str→Option Value}{base:Heap}{c:Cs}
abbrev oN:Stmt:=top 42
theorem BH:aE ["setting","k","shares","common","share","law","coil","top","bottom"] ["setting","k"] (au oN):=sco rfl rfl rfl rfl (by decide +kernel)
theorem BI(O:cK K c)(lh:bo P w K mg base "coil_shares" ["parts","k"] 1 (oM c))(aU:bo P w K mg base "voltage_of" ["part"] 2 (cA c))(aI:bo P w K mg base "current_of" ["setting","k"] 1 (bQ c))(cq:bo P w K mg base "scaled" ["terms","polynomial"] 2 jb)(cM:bo P w K mg base "constant" ["x"] 1 j8)(G:dD K mg "coil_laws" oN ["setting","k"]):bo P w K mg base "coil_laws" ["setting","k"] 5 (eG c JQ fun g k=>[ak.me g k]):=by
 have sc:=BH
 refine bo.mono (j:=4) (G.eD sc b6 fun f cdv A outer s H vs Q E hr h=> ?_) (by decide)
 obtain⟨v,g,k,rfl,hg,ok,hk,kd,kk⟩:=h
 have hp20:=ok.af
 refine⟨_,(aj (aH (i:=2) sc.nd rfl (by first|left;rfl|right;rfl) (aB lh (hr.mono (by decide)) rfl (aa (ax K (ax K (pv 0) rfl) rfl) (aa (pv 1) ah))))
   (aj (aH (i:=3) sc.nd rfl (by first|left;rfl|right;rfl) aA)
   (aj (cX PassesOwn.never rfl (cw (pv 2)) (aQ (i:=4) sc.nd rfl (Or.inl rfl)) (aq (AK (i:=3) sc.nd rfl (Or.inl rfl) (aK (yF K) (pv 4) aA (fun _ _=>rfl)) FQ)))
   (aj (aH (i:=5) sc.nd rfl (by first|left;rfl|right;rfl) (aB cq (hr.mono (by decide)) rfl (aa (aB aU (hr.mono (by decide)) rfl (aa (aK (dR K) (ax K (ax K (pv 0) rfl) rfl) (pv 1) (fun _ _=>rfl)) ah)) (aa (aB cM (hr.mono (by decide)) rfl (aa (pv 3) ah)) ah))))
   (aj (cX PassesOwn.never rfl (cw (pv 2)) (gu K (n:=3) rfl (bM (aQ (i:=6) sc.nd rfl (Or.inl rfl)) (bM (aQ (i:=7) sc.nd rfl (Or.inl rfl)) (bM (aQ (i:=8) sc.nd rfl (Or.inl rfl)) gq)))) (aq (eO (j3 PySem.F.plainAttrs_list PySem.F.slot_list_extend PySem.F.type_list_extend zI (pv 5) (aa (aB cq (hr.mono (by decide)) rfl (aa (aB cq (hr.mono (by decide)) rfl (aa (aB aI (hr.mono (by decide)) rfl (aa (pv 0) (aa (pv 6) ah))) (aa (ax K (pv 0) rfl) ah))) (aa (aB cM (hr.mono (by decide)) rfl (aa (a9 bW (gr dQ (pv 7)) (a9 Cw (pv 3) (pv 8))) ah)) ah))) ah)))))
   (aq (aD (aN (aa (pv 5) ah))))))))),?_⟩
 obtain⟨ga,gdx,gvn,gvs,gvst,gvd,gvp,rfl,hga,⟨na,ndx,nvp,rfl,hna,pa,ws,rfl,hpa,hps⟩,_⟩:=id hg
 refine⟨_,rfl,ga,c.dt,gdx,_,_,rfl,hga,O.dt.cl,O.dt.at_ 0 rfl,rfl,na,c.aO,ndx,_,_,rfl,hna,O.aO.cl,O.aO.at_ 1 rfl,rfl,_,rfl,_,_,_,rfl,⟨pa,ws,rfl,hpa,hps⟩,hk,hp20,fun z H1 s1 hz=> ?_⟩
 obtain⟨sa,us,rfl,hsa,hus⟩:=hz
 have ll:=hus.length
 have lsh:=EW g.aO.af k
 refine⟨_,rfl,sa,rfl,⟨_,.of hsa⟩,fA (cy (K:=K) (.of hsa)) (fun i σ H'=>∃x4,σ=[some (.ref ga),some (.int (k:Int)),some (.ref sa),some (.int (ak.common ((ak.bu g.aO.af k).take i))),x4,none,none,none,none]∧aJ H1 H') ⟨none,rfl,.refl _⟩ (fun i σ H' ⟨_,_,s⟩=>s) ?_ ?_⟩
 ·rintro i x σ H2 H3 hi ⟨x4,rfl,s2⟩ s3 s23 hx
  obtain⟨y,hy,t,rfl,ht⟩:=hus.iL hx
  obtain⟨_,_,b1,b2,_⟩:=kd y (List.mem_of_getElem? hy)
  refine⟨_,rfl,_,rfl,t,_,_,_,rfl,rfl,.of (s3 _ _ ht),aG (j:=2) rfl rfl,_,_,rfl,rfl,.of_right (intBits_le_64 (by lia) (by lia)),some (.ref t),?_,s3⟩
  unfold ak.common
  rw[List.take_add_one,hy,List.foldl_append]
  rfl
 ·rintro σ H2 ⟨x4,rfl,s2⟩
  rw[ll,List.take_length]
  have hg2:=hg.same (s1.trans s2)
  obtain⟨_,gdx2,_,_,_,_,_,e0,hga2,⟨na2,ndx2,_,rfl,hna2,pa2,ws2,rfl,hpa2,hps2⟩,_⟩:=id hg2
  cases e0
  obtain⟨u,hu0,hu⟩:=hps2.fP (az (d:=ak.p0) hk)
  refine⟨_,rfl,ga,c.dt,gdx2,_,_,rfl,hga2,O.dt.cl,O.dt.at_ 0 rfl,rfl,na2,c.aO,ndx2,_,_,rfl,hna2,O.aO.cl,O.aO.at_ 1 rfl,rfl,_,rfl,pa2,_,_,_,rfl,rfl,.of hpa2,aG (j:=k) rfl hu0,?_⟩
  refine⟨_,_,rfl,hu,fun x1 H3 s3 hx1=> ?_⟩
  refine⟨_,rfl,_,rfl,fun q H4 hq s4 hq4=> ?_⟩
  refine⟨_,_,_,_,rfl,toF (bq.same hx1 s4),⟨q,rfl,hq4⟩,LR _,Nat.le_trans (vF _) (by decide),lQ _,fun x2 H5 s5 hx2=> ?_⟩
  obtain⟨la,lv,rfl,nla,hla,hlv⟩:=hx2
  have s24:=(s2.trans s3).trans s4
  have laH4:H4 la=none:=Classical.not_not.mp nla
  have laH:H la=none:=(s1.trans s24).free laH4
  have laH1:H1 la=none:=s24.free laH4
  have lown:Paired (gT (bZ (cj H) la) H5) lv (ak.md (ak.iT (pat g k)) (ak.cst (ak.common (ak.bu g.aO.af k)))):=JP hla (hlv.dA fun _ _ q=>d6.less q (cn (s1.trans s24)))
  have s15:=s24.trans s5
  refine⟨_,rfl,sa,rfl,⟨_,.of (s15 _ _ hsa)⟩,fA (cy (K:=K) (.of hsa)) (fun i σ H'=>∃x6 x7 x8 lv,σ=[some (.ref ga),some (.int (k:Int)),some (.ref sa),some (.int (ak.common (ak.bu g.aO.af k))),x4,some (.ref la),x6,x7,x8]∧aJ H1 H'∧H' la=some (.lst lv)∧Paired (gT (bZ (cj H) la) H') lv (ak.md (ak.iT (pat g k)) (ak.cst (ak.common (ak.bu g.aO.af k))) ++ ((ak.bu g.aO.af k).take i).flatMap (Nl g (ak.common (ak.bu g.aO.af k))))) ?_ (fun i σ H' ⟨_,_,_,_,_,s,_⟩=>s) ?_ ?_⟩
  ·exact⟨none,none,none,lv,rfl,s15,hla,by simpa using lown⟩
  ·rintro i x σ H6 H7 hi ⟨x6,x7,x8,lv6,rfl,s6,hla6,hlv6⟩ s7 s67 hx
   obtain⟨y,hy,t,rfl,ht⟩:=hus.iL hx
   obtain⟨b0,b1,b2,b3,b4⟩:=kd y (List.mem_of_getElem? hy)
   refine⟨t,_,rfl,.of (s7 _ _ ht),rfl,_,_,rfl,_,_,rfl,_,_,rfl,rfl,?_⟩
   have hla7:=s67 _ _ hla6
   refine⟨_,rfl,.inl ⟨rfl,_,.of hla7⟩,?_⟩
   have hg7:=hg.same (s1.trans s7)
   refine⟨_,rfl,_,rfl,_,_,_,rfl,hg7,b0,b1,fun y1 H8 s8 hy1=> ?_⟩
   have hg8:=hg7.same s8
   obtain⟨a,dx,vn,vs,vst,vd,vp,e8,ha,_,hs,_⟩:=id hg8
   cases e8
   have sh:Short g.s:=by
    unfold Short
    rcases ok.s with e |e <;>rw[e] <;>simp
   have lu:iV (ak.md (ak.cur g y.1) g.s):=uy (JO _ _) (GD _ _) (ok.s.elim .inl fun e=> .inr (.inl e))
   refine⟨_,rfl,ga,c.dt,dx,_,_,rfl,ha,O.dt.cl,O.dt.at_ 1 rfl,rfl,_,_,_,_,rfl,toF hy1,hs,JO _ _,Nat.le_trans (oK _ _) (by decide),sh,fun y2 H9 s9 hy2=> ?_⟩
   refine⟨_,rfl,_,rfl,_,rfl,_,rfl,_,_,rfl,rfl,⟨by lia,?_⟩,_,_,rfl,rfl,.of_left (intBits_le_64 (by lia) (by lia)),_,rfl,fun q2 H10 hq2 s10 hq10=> ?_⟩
   ·have h1:y.2.2.natAbs≠0:=by lia
    have h2:y.2.2.natAbs<2^9000:=Nat.lt_of_lt_of_le (show y.2.2.natAbs<2^20 by lia) (Nat.pow_le_pow_right (by decide) (by decide))
    exact(Nat.log2_lt h1).mpr h2
   refine⟨_,_,_,_,rfl,toF (bq.same hy2 s10),⟨q2,rfl,hq10⟩,lu,by rw[i7];exact Nat.le_trans (oK _ _) (by decide),lQ _,fun y3 H11 s11 hy3=> ?_⟩
   obtain⟨ya,yv,rfl,nya,hya,hyv⟩:=hy3
   have s711:=((s8.trans s9).trans s10).trans s11
   have hla11:=s711 _ _ hla7
   have hl6:=hlv6.length
   have hy3l:=hyv.length
   have e1:=GG g (ak.common (ak.bu g.aO.af k)) y
   have e2:=oy g (ak.common (ak.bu g.aO.af k)) ((ak.bu g.aO.af k).take i)
   have e3:(ak.md (ak.iT (pat g k)) (ak.cst (ak.common (ak.bu g.aO.af k)))).length≤2:=by rw[i7];exact(lR _ _).2
   rw[List.length_append] at hl6
   rw[List.length_take] at e2
   have hy3l':yv.length≤2:=by rw[hy3l];exact e1
   refine⟨la,ya,_,_,rfl,rfl,hla11,hya,aw (by lia),_,_,_,_,rfl,(s7.trans s711).over laH1,ai,?_⟩
   rw[sC _ _ _ _ hy,←List.append_assoc]
   have od:Off (bZ (cj H) la) H11 (upd H11 la (.lst (lv6 ++ yv))):=bS (.inr rfl)
   refine((hlv6.d7 d6 (s67.trans s711)).oF d6 od).app ?_
   have hyv2:Paired (gT (bZ (cj H) la) H11) yv (Nl g (ak.common (ak.bu g.aO.af k)) y):=hyv.dA fun _ _ q=>d6.ue q fun a ha=>by
    have sAll:aJ H H10:=((((s1.trans s7).trans s8).trans s9).trans s10)
    rcases ha with ha |ha
    ·exact .inl (cn sAll a ha)
    ·refine .inl fun z=> ?_
     rw[ha] at z
     have:=(((s8.trans s9).trans s10)) _ _ hla7
     rw[z] at this
     cases this
   exact hyv2.oF d6 od
  ·rintro σ H6 ⟨x6,x7,x8,lv6,rfl,s6,hla6,hlv6⟩
   rw[ll,List.take_length,←EX] at hlv6
   refine⟨_,rfl,aw (by simp),dI (s1.trans s6) ⟨la,lv6,rfl,fun z=>z laH,hla6,hlv6.HZ d6⟩ kk⟩
end
abbrev Nm:=Int×List Int
def NS(H0:Hp)(D:Addr)(qs:List Addr):Addr→Prop:=fun a=>cj H0 a∨a=D∨a∈qs
structure NI(H0 H:Hp)(D:Addr)(qs:List Addr)(b:Nat)(tm:Nat→List Nm):Prop where
 same:aJ H0 H
 hD:H D=some (.lst (qs.map V.ref))
 nd:qs.Nodup
 nD:D∉qs
 d0:H0 D=none
 q0:∀q∈qs,H0 q=none
 len:∀v,(tm v).length≤b
 at_:∀v q,qs[v]? =some q→∃us,H q=some (.lst us)∧Paired (gT (NS H0 D qs) H) us (tm v)
theorem NI.grow{H0 H H':Hp}{D:Addr}{qs:List Addr}{b:Nat}{tm:Nat→List Nm}(N:NI H0 H D qs b tm)(s:aJ H H'):NI H0 H' D qs b tm:=
 ⟨N.same.trans s,s _ _ N.hD,N.nd,N.nD,N.d0,N.q0,N.len,fun v q hq=>let ⟨us,h1,h2⟩:=N.at_ v q hq;⟨us,s _ _ h1,h2.d7 d6 s⟩⟩
theorem NI.Qt{H0 H:Hp}{D:Addr}{qs:List Addr}{b:Nat}{tm:Nat→List Nm}(N:NI H0 H D qs b tm):HY (NS H0 D qs) H:=fun a ha z=>by
 rcases ha with ha |ha |ha
 ·exact ha (N.same.free z)
 ·rw[ha,N.hD] at z;cases z
 ·obtain⟨i,hi⟩:=List.getElem?_of_mem ha
  obtain⟨us,h1,_⟩:=N.at_ i a hi
  rw[h1] at z;cases z
theorem NI.push{H0 H:Hp}{D:Addr}{qs:List Addr}{b:Nat}{tm:Nat→List Nm}(N:NI H0 H D qs b tm){z:Nat}{q p t:Addr}{us:List V}{x y:Int}(hz:qs[z]? =some q)(hq:H q=some (.lst us))(hp:H p=none)(ht:upd H p (.lst [.int y]) t=none):
  NI H0 (upd (upd (upd H p (.lst [.int y])) t (.tup [.int x,.ref p])) q (.lst (us ++ [.ref t]))) D qs (b+1) (fun v=>tm v ++ if v=z then[(x,[y])] else[]):=by
 have s3:=ay (o:= .lst [.int y]) hp
 have s4:=ay (o:= .tup [.int x,.ref p]) ht
 have N4:=N.grow (s3.trans s4)
 have np:¬NS H0 D qs p:=N.Qt.new hp
 have nt:¬NS H0 D qs t:=(N.grow s3).Qt.new ht
 have hqm:q∈qs:=List.mem_of_getElem? hz
 have od:∀o,Off (NS H0 D qs) (upd (upd H p (.lst [.int y])) t (.tup [.int x,.ref p])) (upd (upd (upd H p (.lst [.int y])) t (.tup [.int x,.ref p])) q o):=fun o=>bS (.inr (.inr hqm))
 refine⟨N4.same.over (N.q0 q hqm),?_,N.nd,N.nD,N.d0,N.q0,fun v=> ?_,fun v r hr=> ?_⟩
 ·rw[aR fun e=>N.nD (by rw[e];exact hqm)]
  exact N4.hD
 ·have:=N.len v
  rw[List.length_append]
  split <;>simp <;>lia
 ·obtain⟨ws,h1,h2⟩:=N4.at_ v r hr
  by_cases e:v=z
  ·subst e
   have er:r=q:=Option.some.inj (hr.symm.trans hz)
   subst er
   have ew:ws=us:=sA h1 (s4 _ _ (s3 _ _ hq))
   subst ew
   rw[if_pos rfl]
   exact⟨_,ai,(h2.oF d6 (od _)).fB (d6.off ⟨t,.ref p,rfl,nt,ai,p,rfl,np,s4 _ _ ai⟩ (od _))⟩
  ·rw[if_neg e,List.append_nil]
   have hne:r≠q:=fun e2=>e (Om N.nd hr (by rw[e2];exact hz))
   exact⟨ws,by rw[aR hne];exact h1,h2.oF d6 (od _)⟩
def iG(v:Int)(x:ak.Part×Int):List Nm:=if x.1.kind=3 then[] else
  (if x.1.a=v then[(x.2,[1])] else[]) ++ (if x.1.b=v then[(x.2,[-1])] else[]) ++
   (if x.1.kind=10 then(if x.1.c=v then[(x.2+1,[1])] else[]) ++ (if x.1.d=v then[(x.2+1,[-1])] else[]) else[])
theorem EY(n:ak.Nw)(v:Int):ak.fI n v=(n.af.zip (ak.places n)).flatMap (iG v):=rfl
def BJ(n:ak.Nw):Prop:=∀p∈n.af,p.kind≠3→(0≤p.a∧p.a≤n.last)∧(0≤p.b∧p.b≤n.last)∧(p.kind=10→(0≤p.c∧p.c≤n.last)∧(0≤p.d∧p.d≤n.last))
theorem pP(z:Int)(hz:0≤z)(l:List Nm):(fun v:Nat=>if v=z.toNat then l else[])=fun v:Nat=>if z=(v:Int) then l else[]:=by
 funext v
 by_cases h:v=z.toNat
 ·rw[if_pos h,if_pos (by lia)]
 ·rw[if_neg h,if_neg (by lia)]
theorem uE{α β:Type}{F:α→β→Prop}:∀{l:List α} {m:List β},l.length=m.length→(∀(i:Nat) x y,l[i]? =some x→m[i]? =some y→F x y)→Paired F l m
 |[],[],_,_=> .nil
 |[],_::_,h,_=>by simp at h
 |_::_,[],h,_=>by simp at h
 |a::l,b::m,h,f=> .cons (f 0 a b rfl rfl) (uE (by simpa using h) fun i x y hx hy=>f (i+1) x y (by simpa using hx) (by simpa using hy))
section
variable {P:Program}{w:World}{K:PySem.W.Frag}{mg:Str→Option Value}{base:Heap}{c:Cs}
abbrev kj:Stmt:=top 32
theorem BK:aE ["setting","sums","node","part","place"] ["setting"] (au kj):=sco rfl rfl rfl rfl (by decide +kernel)
def sD(c:Cs):Sp:=fun vs H Q _=>∃v g,vs=[v]∧iE c H v g∧OX g∧0≤g.aO.last∧g.aO.last≤100∧BJ g.aO∧sq H Q ((List.range g.aO.last.toNat).map fun v:Nat=>ak.fI g.aO ((v:Int)+1))
theorem BL(T:Txt2 mg)(O:cK K c)(G:dD K mg "node_laws" kj ["setting"]):bo P w K mg base "node_laws" ["setting"] 1 (sD c):=by
 have sc:=BK
 refine G.eD sc (fun vs H Q E ⟨v,g,e,_⟩=>by rw[e];rfl) fun f cdv A outer s H vs Q E hr h=> ?_
 obtain⟨v,g,rfl,hg,ok,n0,n1,hin,kk⟩:=h
 obtain⟨ga,gdx,gvn,gvs,gvst,gvd,gvp,rfl,hga,⟨na,ndx,nvp,rfl,hna,pa,ws,rfl,hpa,hps⟩,_,_,_,⟨la,rfl,hla⟩⟩:=hg
 have lps:=hps.length
 have h20:=ok.af
 refine⟨_,(aj (oa (i:=1) rfl sc.nd rfl rfl (rM rfl rfl rfl rfl) (i8 rfl T.fJ (aa (a9 eV (ax K (ax K (pv 0) rfl) rfl) aA) ah)) (cf (own:=[("node",2)]) (by show lM ["setting","sums","node","part","place"] (au kj) _ _=true;decide +kernel)) (fun _ _ _ _ _=>(aQ (i:=2) sc.nd rfl (Or.inl rfl))) (fun _ _ _ _ _=>dC) (fun _ _ _ _ _=>(aN ah)))
   (aj (cX PassesOwn.never rfl (Mu rfl T.JE (aa (ax K (ax K (pv 0) rfl) rfl) (aa (ax K (pv 0) rfl) ah))) (gu K (n:=2) rfl (bM (aQ (i:=3) sc.nd rfl (Or.inl rfl)) (bM (aQ (i:=4) sc.nd rfl (Or.inl rfl)) gq))) (aj (bJ (bf de (ax K (pv 3) rfl) (gc T.dw) (aZ _)) (aq Ce) aT)
   (aj (eO (j3 PySem.F.plainAttrs_list PySem.F.slot_list_append PySem.F.type_list_append c7 (aK (dR K) (pv 1) (ax K (pv 3) rfl) (fun _ _=>rfl)) (aa (bY (aa (pv 4) (aa (aN (aa aA ah)) ah))) ah)))
   (aj (eO (j3 PySem.F.plainAttrs_list PySem.F.slot_list_append PySem.F.type_list_append c7 (aK (dR K) (pv 1) (ax K (pv 3) rfl) (fun _ _=>rfl)) (aa (bY (aa (pv 4) (aa (aN (aa (gr dQ aA) ah)) ah))) ah)))
   (aq (bJ (bf de (ax K (pv 3) rfl) (gc T.d9) (aZ _)) (aj (eO (j3 PySem.F.plainAttrs_list PySem.F.slot_list_append PySem.F.type_list_append c7 (aK (dR K) (pv 1) (ax K (pv 3) rfl) (fun _ _=>rfl)) (aa (bY (aa (a9 eV (pv 4) aA) (aa (aN (aa aA ah)) ah))) ah)))
   (aq (eO (j3 PySem.F.plainAttrs_list PySem.F.slot_list_append PySem.F.type_list_append c7 (aK (dR K) (pv 1) (ax K (pv 3) rfl) (fun _ _=>rfl)) (aa (bY (aa (a9 eV (pv 4) aA) (aa (aN (aa (gr dQ aA) ah)) ah))) ah))))) aT))))))
   (aq (aD (nV (Oq K) (pv 1) (lY aA) AN))))),?_⟩
 refine⟨_,rfl,ga,c.dt,gdx,_,_,rfl,hga,O.dt.cl,O.dt.at_ 0 rfl,rfl,na,c.aO,ndx,_,_,rfl,hna,O.aO.cl,O.aO.at_ 0 rfl,rfl,_,_,rfl,rfl,_,rfl,by lia,by lia,fun D hD=>ny (iz H 0 _) hD (fun i H' acc=>∃qs,acc=qs.map V.ref∧qs.length=i∧qs.Nodup∧D∉qs∧(∀q∈qs,H q=none∧H' q=some (.lst []))) ⟨[],rfl,rfl,List.nodup_nil,by simp,fun _ h=>by cases h⟩ ?_ ?_⟩
 ·rintro i x H1 H2 acc hi s1 hD1 ⟨qs,rfl,hql,hnd,hDq,hqs⟩ s2 s12 hD2 rfl
  refine⟨rfl,⟨Nat.zero_le _,fun p hp=> ?_⟩⟩
  have s3:=ay (o:= .lst []) hp
  have pD:p≠D:=fun e=>by rw[e,hD2] at hp;cases hp
  have pq:p∉qs:=fun m=>by
   have:=s12 _ _ (hqs p m).2
   rw[hp] at this;cases this
  refine dE hD (s2.trans s3) (s3 _ _ hD2) (by rw[lMp,hql];exact aL (by lia)) ⟨qs ++ [p],by simp,by simp[hql],?_,?_,?_⟩
  ·exact FP hnd pq
  ·intro m
   rcases List.mem_append.mp m with m |m
   ·exact hDq m
   ·exact pD ((show D=p by simpa using m).symm)
  ·intro q m
   rcases List.mem_append.mp m with m |m
   ·refine⟨(hqs q m).1,?_⟩
    rw[aR fun e=>hDq (by rw[←e];exact m)]
    exact s3 _ _ (s12 _ _ (hqs q m).2)
   ·have:q=p:=by simpa using m
    subst this
    refine⟨s2.free hp,?_⟩
    rw[aR pD,ai]
 ·rintro H1 acc s1 hD1 ⟨qs,rfl,hql,hnd,hDq,hqs⟩
  have hql':qs.length=g.aO.last.toNat+1:=by rw[hql];lia
  have N0:NI H H1 D qs 0 (fun _=>[]):=⟨s1,hD1,hnd,hDq,hD,fun q m=>(hqs q m).1,fun _=>Nat.le_refl _,fun v q hq=>⟨[],(hqs q (List.mem_of_getElem? hq)).2,.nil⟩⟩
  refine⟨_,rfl,ga,c.dt,gdx,_,_,rfl,s1 _ _ hga,O.dt.cl,O.dt.at_ 0 rfl,rfl,na,c.aO,ndx,_,_,rfl,s1 _ _ hna,O.aO.cl,O.aO.at_ 1 rfl,rfl,_,rfl,ga,c.dt,gdx,_,_,rfl,s1 _ _ hga,O.dt.cl,O.dt.at_ 4 rfl,rfl,pa,la,_,_,rfl,.of (s1 _ _ hpa),.of (s1 _ _ hla),fA (My (K:=K) (.of hpa) (.of hla) (by rw[lps,lMp,places_len])) (fun i σ H'=>∃x3 x4,σ=[some (.ref ga),some (.ref D),none,x3,x4]∧NI H H' D qs (4*i) (fun v=>((g.aO.af.zip (ak.places g.aO)).take i).flatMap (iG (v:Int)))) ⟨none,none,rfl,by simpa using N0⟩ (fun i σ H' ⟨_,_,_,N⟩=>N.same) ?_ ?_⟩
  ·rintro i x σ H2 H3 hi ⟨x3,x4,rfl,N2⟩ s3 s23 ⟨t,y,z,rfl,ht,hy,hz⟩
   obtain⟨p,hp,pb,pbx,rfl,hpb⟩:=hps.iL hy
   obtain⟨pl,hpl,rfl⟩:=il hz
   have ez:(g.aO.af.zip (ak.places g.aO))[i]? =some (p,pl):=by
    rw[List.getElem?_zip_eq_some]
    exact⟨hp,hpl⟩
   have N3:=N2.grow s23
   have hi':i<g.aO.af.length:=cD hp
   refine⟨t,_,rfl,.of ht,rfl,_,_,rfl,_,_,rfl,rfl,?_⟩
   have tmE:(fun v:Nat=>((g.aO.af.zip (ak.places g.aO)).take (i+1)).flatMap (iG (v:Int)))=fun v:Nat=>((g.aO.af.zip (ak.places g.aO)).take i).flatMap (iG (v:Int)) ++ iG (v:Int) (p,pl):=by
    funext v
    exact sC _ _ _ _ ez
   refine⟨_,rfl,pb,c.part,pbx,_,_,rfl,s3 _ _ hpb,O.part.cl,O.part.at_ 0 rfl,rfl,rfl,_,rfl,?_⟩
   rw[fE]
   by_cases h3:p.kind=3
   ·rw[decide_eq_true h3]
    refine bx ⟨_,_,rfl,?_⟩
    rw[tmE]
    have e0:(fun v:Nat=>((g.aO.af.zip (ak.places g.aO)).take i).flatMap (iG (v:Int)) ++ iG (v:Int) (p,pl))=fun v:Nat=>((g.aO.af.zip (ak.places g.aO)).take i).flatMap (iG (v:Int)):=by
     funext v
     unfold iG
     rw[if_pos h3,List.append_nil]
    rw[e0]
    exact⟨N3.same,N3.hD,N3.nd,N3.nD,N3.d0,N3.q0,fun v=>by have:=N3.len v;lia,N3.at_⟩
   ·rw[decide_eq_false h3]
    obtain⟨⟨a0,a1⟩,⟨b0,b1⟩,hT⟩:=hin p (List.mem_of_getElem? hp) h3
    refine bC ?_
    obtain⟨qa,hqa⟩:∃q,qs[p.a.toNat]? =some q:=⟨_,List.getElem?_eq_getElem (by lia)⟩
    have hqaV:(qs.map V.ref)[p.a.toNat]? =some (.ref qa):=by rw[List.getElem?_map,hqa];rfl
    obtain⟨ua,hua,hpa'⟩:=N3.at_ _ _ hqa
    have lua:=hpa'.length
    have lua':=N3.len p.a.toNat
    refine⟨_,rfl,_,rfl,pb,c.part,pbx,_,_,rfl,s3 _ _ hpb,O.part.cl,O.part.at_ 1 rfl,rfl,D,_,_,_,rfl,rfl,.of N3.hD,aG (j:=p.a.toNat) (by lia) hqaV,.inl ⟨rfl,_,.of hua⟩,_,rfl,aw (by simp),fun f1 hf1=>⟨aw (by simp),fun t1 ht1=>⟨qa,_,_,rfl,rfl,ay ht1 _ _ (ay hf1 _ _ hua),aL (by lia),?_⟩⟩⟩
    have N4:=N3.push (x:=pl) (y:=1) hqa hua hf1 ht1
    generalize upd (upd (upd H3 f1 (.lst [.int 1])) t1 (.tup [.int pl,.ref f1])) qa (.lst (ua ++ [.ref t1]))=H4 at N4
    obtain⟨qb,hqb⟩:∃q,qs[p.b.toNat]? =some q:=⟨_,List.getElem?_eq_getElem (by lia)⟩
    have hqbV:(qs.map V.ref)[p.b.toNat]? =some (.ref qb):=by rw[List.getElem?_map,hqb];rfl
    obtain⟨ub,hub,hpb'⟩:=N4.at_ _ _ hqb
    have lub:=hpb'.length
    have lub':=N4.len p.b.toNat
    refine⟨_,rfl,_,rfl,pb,c.part,pbx,_,_,rfl,N4.same _ _ hpb,O.part.cl,O.part.at_ 2 rfl,rfl,D,_,_,_,rfl,rfl,.of N4.hD,aG (j:=p.b.toNat) (by lia) hqbV,.inl ⟨rfl,_,.of hub⟩,_,rfl,_,rfl,aw (by simp),fun f2 hf2=>⟨aw (by simp),fun t2 ht2=>⟨qb,_,_,rfl,rfl,ay ht2 _ _ (ay hf2 _ _ hub),aL (by lia),?_⟩⟩⟩
    have N5:=N4.push (x:=pl) (y:= -1) hqb hub hf2 ht2
    generalize upd (upd (upd H4 f2 (.lst [.int (-1)])) t2 (.tup [.int pl,.ref f2])) qb (.lst (ub ++ [.ref t2]))=H5 at N5
    refine⟨_,rfl,pb,c.part,pbx,_,_,rfl,N5.same _ _ hpb,O.part.cl,O.part.at_ 0 rfl,rfl,rfl,_,rfl,?_⟩
    rw[fE]
    by_cases h10:p.kind=10
    ·rw[decide_eq_true h10]
     obtain⟨⟨c0,c1⟩,⟨d0,d1⟩⟩:=hT h10
     refine bx ?_
     obtain⟨qc,hqc⟩:∃q,qs[p.c.toNat]? =some q:=⟨_,List.getElem?_eq_getElem (by lia)⟩
     have hqcV:(qs.map V.ref)[p.c.toNat]? =some (.ref qc):=by rw[List.getElem?_map,hqc];rfl
     obtain⟨uc,huc,hpc'⟩:=N5.at_ _ _ hqc
     have luc:=hpc'.length
     have luc':=N5.len p.c.toNat
     refine⟨_,rfl,_,rfl,pb,c.part,pbx,_,_,rfl,N5.same _ _ hpb,O.part.cl,O.part.at_ 3 rfl,rfl,D,_,_,_,rfl,rfl,.of N5.hD,aG (j:=p.c.toNat) (by lia) hqcV,.inl ⟨rfl,_,.of huc⟩,_,rfl,_,_,rfl,rfl,aw (by simp),fun f3 hf3=>⟨aw (by simp),fun t3 ht3=>⟨qc,_,_,rfl,rfl,ay ht3 _ _ (ay hf3 _ _ huc),aL (by lia),?_⟩⟩⟩
     have N6:=N5.push (x:=pl+1) (y:=1) hqc huc hf3 ht3
     generalize upd (upd (upd H5 f3 (.lst [.int 1])) t3 (.tup [.int (pl+1),.ref f3])) qc (.lst (uc ++ [.ref t3]))=H6 at N6
     obtain⟨qd,hqd⟩:∃q,qs[p.d.toNat]? =some q:=⟨_,List.getElem?_eq_getElem (by lia)⟩
     have hqdV:(qs.map V.ref)[p.d.toNat]? =some (.ref qd):=by rw[List.getElem?_map,hqd];rfl
     obtain⟨ud,hud,hpd'⟩:=N6.at_ _ _ hqd
     have lud:=hpd'.length
     have lud':=N6.len p.d.toNat
     refine⟨_,rfl,_,rfl,pb,c.part,pbx,_,_,rfl,N6.same _ _ hpb,O.part.cl,O.part.at_ 4 rfl,rfl,D,_,_,_,rfl,rfl,.of N6.hD,aG (j:=p.d.toNat) (by lia) hqdV,.inl ⟨rfl,_,.of hud⟩,_,rfl,_,_,rfl,rfl,_,rfl,aw (by simp),fun f4 hf4=>⟨aw (by simp),fun t4 ht4=>⟨qd,_,_,rfl,rfl,ay ht4 _ _ (ay hf4 _ _ hud),aL (by lia),_,_,rfl,?_⟩⟩⟩
     have N7:=N6.push (x:=pl+1) (y:= -1) hqd hud hf4 ht4
     rw[tmE]
     have e0:(fun v:Nat=>((g.aO.af.zip (ak.places g.aO)).take i).flatMap (iG (v:Int)) ++ iG (v:Int) (p,pl))=fun v:Nat=>(((((g.aO.af.zip (ak.places g.aO)).take i).flatMap (iG (v:Int)) ++ if v=p.a.toNat then[(pl,[1])] else[]) ++ if v=p.b.toNat then[(pl,[-1])] else[]) ++ if v=p.c.toNat then[(pl+1,[1])] else[]) ++ if v=p.d.toNat then[(pl+1,[-1])] else[]:=by
      funext v
      unfold iG
      rw[if_neg h3,if_pos h10]
      have f1:=congrFun (pP p.a a0 [(pl,[1])]) v
      have f2:=congrFun (pP p.b b0 [(pl,[-1])]) v
      have f3:=congrFun (pP p.c c0 [(pl+1,[1])]) v
      have f4:=congrFun (pP p.d d0 [(pl+1,[-1])]) v
      rw[f1,f2,f3,f4]
      simp only[List.append_assoc]
     rw[e0]
     exact N7
    ·rw[decide_eq_false h10]
     refine bC ⟨_,_,rfl,?_⟩
     rw[tmE]
     have e0:(fun v:Nat=>((g.aO.af.zip (ak.places g.aO)).take i).flatMap (iG (v:Int)) ++ iG (v:Int) (p,pl))=fun v:Nat=>(((g.aO.af.zip (ak.places g.aO)).take i).flatMap (iG (v:Int)) ++ if v=p.a.toNat then[(pl,[1])] else[]) ++ if v=p.b.toNat then[(pl,[-1])] else[]:=by
      funext v
      unfold iG
      rw[if_neg h3,if_neg h10]
      have f1:=congrFun (pP p.a a0 [(pl,[1])]) v
      have f2:=congrFun (pP p.b b0 [(pl,[-1])]) v
      rw[f1,f2]
      simp only[List.append_assoc,List.append_nil]
     rw[e0]
     exact⟨N5.same,N5.hD,N5.nd,N5.nD,N5.d0,N5.q0,fun v=>by have:=N5.len v;lia,N5.at_⟩
  ·rintro σ H2 ⟨x3,x4,rfl,N2⟩
   rw[lps,show(g.aO.af.zip (ak.places g.aO)).take g.aO.af.length=g.aO.af.zip (ak.places g.aO) from List.take_of_length_le (by rw[List.length_zip,places_len];lia)] at N2
   refine⟨_,rfl,_,rfl,D,_,rfl,.of N2.hD,fun r hr'=> ?_⟩
   have s9:=ay (o:= .lst (qu (qs.map V.ref) (some 1) none)) hr'
   refine kk _ _ (N2.same.trans s9) ⟨r,_,rfl,fun z=>z (N2.same.free hr'),ai,?_⟩
   have ec:qu (qs.map V.ref) (some 1) none=(qs.map V.ref).drop 1:=by
    unfold qu
    have e1:HT.yI (qs.map V.ref).length 0 (some 1)=1:=by
     show HT.yI (qs.map V.ref).length 0 (some ((1:Nat):Int))=1
     rw[HT.lX,lMp]
     lia
    rw[e1,HT.Iv]
    exact List.take_of_length_le (by rw[List.length_drop];exact Nat.le_refl _)
   rw[ec] at s9⊢
   refine uE (by simp;lia) fun i x y hx hy=> ?_
   rw[List.getElem?_drop,List.getElem?_map] at hx
   rw[List.getElem?_map] at hy
   have hiN:i<g.aO.last.toNat:=by
    cases e:(List.range g.aO.last.toNat)[i]? with
    |none=>rw[e] at hy;cases hy
    |some j=>
     have:=cD e
     simpa using this
   rw[List.getElem?_range hiN] at hy
   have ey:ak.fI g.aO ((i:Int)+1)=y:=Option.some.inj hy
   cases e:qs[1+i]? with
   |none=>rw[e] at hx;cases hx
   |some q=>
    rw[e] at hx
    have ex:V.ref q=x:=Option.some.inj hx
    subst ex
    obtain⟨us,h1,h2⟩:=N2.at_ _ _ e
    refine⟨q,us,rfl,fun z=>z (N2.q0 q (List.mem_of_getElem? e)),s9 _ _ h1,?_⟩
    rw[←ey,EY]
    have ei:((1+i:Nat):Int)=(i:Int)+1:=by lia
    rw[ei] at h2
    exact(h2.dA fun _ _ q=>d6.less q fun a ha=> .inl ha).d7 d6 s9
end
structure GH(g:ak.gk)(k:Nat):Prop where
 kind:0≤(pat g k).kind∧(pat g k).kind≤13
 PM:(pat g k).kind=2→JQ g k
 ref:(pat g k).kind=8∨(pat g k).kind=9→PK g k
structure JR(g:ak.gk):Prop where
 w0:0≤ak.width g.aO
 w1:ak.width g.aO<1000
 terms:∀ts∈ak.dh g,∀t∈ts,0≤t.1∧t.1≤ak.width g.aO∧t.2.length≤1000
 cnt:(ak.dh g).length≤1000
section
variable {P:Program}{w:World}{K:PySem.W.Frag}{mg:Str→Option Value}{base:Heap}{c:Cs}
abbrev JS(c:Cs)(i:Nat):Sp:=eG c (fun g k=>(pat g k).kind=(i:Int)∧GH g k) (fun g k=>ak.cF g k)
structure JT(P:Program)(w:World)(K:PySem.W.Frag)(mg:Str→Option Value)(base:Heap)(c:Cs)(ta:Addr)(fs:List Addr):Prop where
 hm:mg "LAWS_OF_KIND"=some (.ref ta)
 tup:∀H:Hp,yE K H ta (fs.map V.ref)
 fn:∀i,i<14→∃f fd,fs[i]? =some f∧kK P w K mg base FO 5 f fd ["setting","k"] (JS c i)∧PySem.W.keepIn K (.ref f)=true∧Binds K fd ["setting","k"] []
abbrev mJ:Stmt:=top 56
theorem Dl:aE ["setting","laws","k","part","law"] ["setting"] (au mJ):=sco rfl rfl rfl rfl (by decide +kernel)
def oO(c:Cs):Sp:=fun vs H Q _=>∃v g,vs=[v]∧iE c H v g∧OX g∧0≤g.aO.last∧g.aO.last≤100∧BJ g.aO∧(∀k,k<g.aO.af.length→GH g k)∧JR g∧∀z H',aJ H H'→JI (cj H) H' z (ak.rows g)→Q z H'
theorem Dm{ta:Addr}{fs:List Addr}(T:Txt2 mg)(O:cK K c)(L:JT P w K mg base c ta fs)(oP:bo P w K mg base "node_laws" ["setting"] 1 (sD c))(xV:bo P w K mg base "row_of" ["terms","width"] 3 Aq)(G:dD K mg "law_rows" mJ ["setting"]):bo P w K mg base "law_rows" ["setting"] 6 (oO c):=by
 have sc:=Dl
 refine G.eD sc (fun vs H Q E ⟨v,g,e,_⟩=>by rw[e];rfl) fun f cdv A outer s H vs Q E hr h=> ?_
 obtain⟨v,g,rfl,hg,ok,n0,n1,hin,hlw,R,kk⟩:=h
 have hLK:=L.hm
 have h20:=ok.af
 refine⟨_,(aj (aH (i:=1) sc.nd rfl (by first|left;rfl|right;rfl) (aB oP (hr.mono (by decide)) rfl (aa (pv 0) ah)))
   (aj (cX PassesOwn.never rfl (lZ rfl T.di (aa (ax K (ax K (pv 0) rfl) rfl) ah)) (gu K (n:=2) rfl (bM (aQ (i:=2) sc.nd rfl (Or.inl rfl)) (bM (aQ (i:=3) sc.nd rfl (Or.inl rfl)) gq))) (aq (eO (j3 PySem.F.plainAttrs_list PySem.F.slot_list_extend PySem.F.type_list_extend zI (pv 1) (aa (Ky (aK (yF K) (Fy (v:= .ref ta) rfl hLK rfl) (ax K (pv 3) rfl) (fun _ _=>rfl)) (by rfl) (aa (pv 0) (aa (pv 2) ah))) ah)))))
   (aq (aD (lL rfl sc.nd (cw (pv 1)) (cf (own:=[("law",4)]) (by show lM ["setting","laws","k","part","law"] (au mJ) _ _=true;decide +kernel)) (fun _ _ _ _ _=>(aQ (i:=4) sc.nd rfl (Or.inl rfl))) (fun _ _ _ _ _=>dC) (fun _ _ _ _ _=>(aB xV (hr.mono (by decide)) rfl (aa (pv 4) (aa (ax K (pv 0) rfl) ah))))))))),?_⟩
 refine⟨_,rfl,_,g,rfl,hg,ok,n0,n1,hin,fun z H1 s1 hz=> ?_⟩
 obtain⟨p0,us,rfl,np0,hp0,hus⟩:=hz
 have p0H:H p0=none:=Classical.not_not.mp np0
 have hus0:=K6 hp0 hus
 obtain⟨ga,gdx,gvn,gvs,gvst,gvd,gvp,rfl,hga,⟨na,ndx,nvp,rfl,hna,pa,ws,rfl,hpa,hps⟩,hgr⟩:=id hg
 have lps:=hps.length
 refine⟨_,rfl,ga,c.dt,gdx,_,_,rfl,s1 _ _ hga,O.dt.cl,O.dt.at_ 0 rfl,rfl,na,c.aO,ndx,_,_,rfl,s1 _ _ hna,O.aO.cl,O.aO.at_ 1 rfl,rfl,pa,_,rfl,.of (s1 _ _ hpa),fA (l6 (K:=K) (.of hpa)) (fun i σ H'=>∃x2 x3 us,σ=[some (.ref ga),some (.ref p0),x2,x3,none]∧aJ H H'∧H' p0=some (.lst us)∧Paired (mx (bZ (cj H) p0) H') us ((List.range g.aO.last.toNat).map (fun v:Nat=>ak.fI g.aO ((v:Int)+1)) ++ (List.range i).flatMap fun k=>ak.cF g k)) ⟨none,none,us,rfl,s1,hp0,by simpa using hus0⟩ (fun i σ H' ⟨_,_,_,_,s,_⟩=>s) ?_ ?_⟩
 ·rintro i x σ H2 H3 hi ⟨x2,x3,us2,rfl,s2,hp2,hus2⟩ s3 s23 ⟨t,y,rfl,ht,hy⟩
  obtain⟨p,hp,pb,pbx,rfl,hpb⟩:=hps.iL hy
  have hi':i<g.aO.af.length:=cD hp
  have ep:pat g i=p:=by
   show g.aO.af.getD i ak.p0=p
   rw[gDe,hp];rfl
  have hp3:=s23 _ _ hp2
  have LI:=hlw i hi'
  obtain⟨kl,ku⟩:=LI.kind
  rw[ep] at kl ku
  refine⟨t,_,rfl,.of ht,rfl,_,_,rfl,_,_,rfl,rfl,?_⟩
  refine⟨_,rfl,.inl ⟨rfl,_,.of hp3⟩,?_⟩
  obtain⟨f1,fd1,hf1,F1,kp1,b1⟩:=L.fn p.kind.toNat (by lia)
  have hf1':(fs.map V.ref)[p.kind.toNat]? =some (.ref f1):=by rw[List.getElem?_map,hf1];rfl
  refine⟨_,rfl,pb,c.part,pbx,_,_,rfl,s3 _ _ hpb,O.part.cl,O.part.at_ 0 rfl,rfl,ta,_,_,_,rfl,rfl,L.tup _,aG (j:=p.kind.toNat) (by lia) hf1',?_⟩
  refine⟨f1,fd1,_,_,_,rfl,F1,hr.mono (by decide),kp1,b1,_,rfl,_,rfl,_,g,i,rfl,hg.same s3,ok,hi',⟨by rw[ep];lia,LI⟩,fun z H4 s4 hz=> ?_⟩
  obtain⟨za,zv,rfl,nz,hza,hzv⟩:=hz
  have hp4:=s4 _ _ hp3
  have lz:zv.length=(ak.cF g i).length:=hzv.length
  have l2:=hus2.length
  have cnt:=R.cnt
  have lsum:(List.map (fun v:Nat=>ak.fI g.aO ((v:Int)+1)) (List.range g.aO.last.toNat)).length+(((List.range i).flatMap fun k=>ak.cF g k).length+(ak.cF g i).length)≤1000:=by
   refine Nat.le_trans ?_ cnt
   unfold ak.dh
   rw[List.length_append]
   refine Nat.add_le_add_left ?_ _
   have e:(List.range (i+1)).flatMap (fun k=>ak.cF g k)=(List.range i).flatMap (fun k=>ak.cF g k) ++ ak.cF g i:=by
    rw[List.range_succ,List.flatMap_append];simp
   rw[←List.length_append,←e]
   have e2:∀m,((List.range (i+1)).flatMap fun k=>ak.cF g k).length≤((List.range (i+1+m)).flatMap fun k=>ak.cF g k).length:=by
    intro m
    induction m with
    |zero=>exact Nat.le_refl _
    |succ m ih=>
     have e4:(List.range (i+1+(m+1))).flatMap (fun k=>ak.cF g k)=(List.range (i+1+m)).flatMap (fun k=>ak.cF g k) ++ ak.cF g (i+1+m):=by
      rw[←Nat.add_assoc,List.range_succ,List.flatMap_append];simp
     rw[e4,List.length_append]
     lia
   have:=e2 (g.aO.af.length - (i+1))
   have e3:i+1+(g.aO.af.length - (i+1))=g.aO.af.length:=by lia
   rwa [e3] at this
  refine⟨p0,za,_,_,rfl,rfl,hp4,hza,aw (by rw[l2,lz,List.length_append];lia),_,_,_,rfl,(s3.trans s4).over p0H,ai,?_⟩
  have od:Off (bZ (cj H) p0) H4 (upd H4 p0 (.lst (us2 ++ zv))):=bS (.inr rfl)
  rw[List.range_succ,List.flatMap_append,←List.append_assoc]
  refine((hus2.d7 bq (s23.trans s4)).oF bq od).app ?_
  have hzv2:Paired (mx (bZ (cj H) p0) H4) zv ([i].flatMap fun k=>ak.cF g k):=by
   rw[List.flatMap_singleton]
   refine hzv.dA fun _ _ q=>bq.ue q fun a ha=> ?_
   rcases ha with ha |ha
   ·exact .inl (cn s3 a ha)
   ·refine .inl fun z=> ?_
    rw[ha,hp3] at z
    cases z
  exact hzv2.oF bq od
 ·rintro σ H2 ⟨x2,x3,us2,rfl,s2,hp2,hus2⟩
  rw[lps] at hus2
  change Paired (mx (bZ (cj H) p0) H2) us2 (ak.dh g) at hus2
  have l2:=hus2.length
  have cnt:=R.cnt
  refine⟨_,rfl,p0,rfl,⟨_,.of hp2⟩,fun D hD=>ny (cy (.of hp2)) hD (fun i H' acc=>Paired (oE (bZ (cj H) D) H') acc (((ak.dh g).take i).map (ak.rowOf (ak.width g.aO)))) .nil ?_ ?_⟩
  ·rintro i x H3 H4 acc hi s3 hD3 hacc s4 s34 hD4 hx
   obtain⟨ts,hts,tt⟩:=hus2.iL hx
   have lacc:=hacc.length
   refine⟨rfl,⟨_,rfl,_,rfl,ga,c.dt,gdx,_,_,rfl,s4 _ _ (s2 _ _ hga),O.dt.cl,O.dt.at_ 5 rfl,rfl,_,ts,_,rfl,toF (bq.same tt s4),R.w0,R.w1,R.terms ts (List.mem_of_getElem? hts),fun z H5 s5 hz=> ?_⟩⟩
   have hz2:oE (bZ (cj H) D) H5 z (ak.rowOf (ak.width g.aO) ts):=bG.ue hz fun a ha=>by
    rcases ha with ha |ha
    ·exact .inl (cn (s2.trans s4) a ha)
    ·refine .inl fun y=> ?_
     rw[ha,hD4] at y
     cases y
   refine dE hD (s4.trans s5) (s5 _ _ hD4) ?_ ?_
   ·rw[lacc,lMp,List.length_take]
    exact aL (by lia)
   ·rw[bI _ _ _ _ hts]
    exact((hacc.d7 bG (s34.trans s5)).oF bG (bS (.inr rfl))).fB (bG.off hz2 (bS (.inr rfl)))
  ·intro H3 acc s3 hD3 hacc
   rw[l2,List.take_length] at hacc
   exact kk _ H3 (s2.trans s3) ⟨D,acc,rfl,fun z=>z (s2.free hD),hD3,hacc.HZ bG⟩
end
structure uF(K:PySem.W.Frag)(mg:Str→Option Value)(x qual:Str)(C:Addr)(st:Stmt)(ps:List Str):Prop where
 ex:∃(f:Addr) (fd:FuncData),mg x=some (.ref C)∧Mk K C f∧Mv K "__init__" qual st f fd∧Binds K fd ps []
structure EZ(P:Program)(w:World)(K:PySem.W.Frag)(mg:Str→Option Value)(base:Heap)(x:Str)(C:Addr)(ps:List Str)(k:Nat)(sp:Sp):Prop where
 ex:∃(f:Addr) (fd:FuncData),mg x=some (.ref C)∧Mk K C f∧kK P w K mg base FO k f fd ps sp∧Binds K fd ps []
theorem uF.Nn{P:Program}{w:World}{K:PySem.W.Frag}{mg:Str→Option Value}{base:Heap}{x qual:Str}{C:Addr}{st:Stmt}{N ps:List Str}{k:Nat}{sp:Sp}(G:uF K mg x qual C st ps)(S:aE N ps (au st))(len:∀vs H Q E,sp vs H Q E→vs.length=ps.length)
  (h:∀(f:Addr) (cdv:Value) (A:Around) (outer:List Env) (s:Shared) (H:Hp) (vs:List V) (Q:VK) (E:XK),gR k (A.deeper (envOfC qual (au st) s.heap.objs.size f cdv))→sp vs H Q E→
   ∃t,DS (AM FO P w K mg base N qual (au st) f cdv A outer s H E).L5 (b8 st) t∧t {nx:=fun _ H'=>Q .fG H',rt:=Q} (L2.start N vs) H):EZ P w K mg base x C ps (k+1) sp:=by
 obtain⟨f,fd,hm,M,F,hb⟩:=G.ex
 exact⟨f,fd,hm,M,F.ok S len (fun cdv A outer s H vs Q E hr hsp=>h f cdv A outer s H vs Q E hr hsp),hb⟩
theorem qj{X:Cx}{k:Nat}{x:Str}{C:Addr}{ps:List Str}{sp:Sp}{e:Expr}{es:List Expr}{t:TA}{p pos:Pos}(m:EZ X.prog X.w X.K X.mg X.base x C ps k sp)(hr:gR (k+1) X.A)(hg:Gl X x)(ha:PA X (e::es) t)
  (hdb:(x==("__debug__":Str))=false:=by decide) (he:starEach (e::es) X.env=(false,eval e X.env)::starEach es X.env:=by rfl) (hpl:(backTo pos (starEach es X.env)).any (·.1)=false:=by rfl):
  PE X (.Call (.Name x p) (e::es) [] pos) (Ly C sp [] E0 t):=by
 obtain⟨f,fd,hm,M,F,hb⟩:=m.ex
 exact Kq M F hr hg hm hb .nil IE ha hdb he hpl
def xW(C:Addr)(x dx:Addr)(H:Hp)(Q:VK)(fs:List (Str×V)):Prop:=∀H',(∀b o,H b=some o→b≠x→H' b=some o)→H' x=some (.ins C dx fs)→Q .fG H'
section
variable {P:Program}{w:World}{K:PySem.W.Frag}{mg:Str→Option Value}{base:Heap}{c:Cs}
abbrev iP:Stmt:=inClass (top 94) 0
theorem uG:aE ["self","determinant","tops"] ["self","determinant","tops"] (au iP):=sco rfl rfl rfl rfl (by decide +kernel)
def sE(C:Addr):Sp:=fun vs H Q _=>∃x dx d t,vs=[.ref x,d,t]∧H x=some (.ins C dx [])∧xW C x dx H Q (OE d t)
theorem Dn{C:Addr}(O:nG K C ["determinant","tops"])(G:uF K mg "Solution" "Solution.__init__" C iP ["self","determinant","tops"]):EZ P w K mg base "Solution" C ["self","determinant","tops"] 1 (sE C):=by
 have sc:=uG
 refine G.Nn sc (fun vs H Q E ⟨x,dx,d,t,e,_⟩=>by rw[e];rfl) fun f cdv A outer s H vs Q E hr h=> ?_
 obtain⟨x,dx,d,t,rfl,hx,k⟩:=h
 refine⟨_,(aj (cY (pv 0) (pv 1) rfl)
   (aq (cY (pv 0) (pv 2) rfl))),?_⟩
 refine⟨_,rfl,_,rfl,x,C,dx,_,rfl,hx,O.cl,O.at_ 0 rfl,(by show 0<1000;decide),?_⟩
 refine⟨_,rfl,_,rfl,x,C,dx,_,rfl,ai,O.cl,O.at_ 1 rfl,(by show 1<1000;decide),?_⟩
 exact k _ (fun b o e hb=>by rw[aR hb,aR hb];exact e) ai
abbrev eJ:Stmt:=inClass (top 100) 0
theorem mK:aE ["self","states","solution"] ["self","states","solution"] (au eJ):=sco rfl rfl rfl rfl (by decide +kernel)
def jB(C:Addr):Sp:=fun vs H Q _=>∃x dx d t,vs=[.ref x,d,t]∧H x=some (.ins C dx [])∧xW C x dx H Q (Qs d t)
theorem sF{C:Addr}(O:nG K C ["states","solution"])(G:uF K mg "OperatingPoint" "OperatingPoint.__init__" C eJ ["self","states","solution"]):EZ P w K mg base "OperatingPoint" C ["self","states","solution"] 1 (jB C):=by
 have sc:=mK
 refine G.Nn sc (fun vs H Q E ⟨x,dx,d,t,e,_⟩=>by rw[e];rfl) fun f cdv A outer s H vs Q E hr h=> ?_
 obtain⟨x,dx,d,t,rfl,hx,k⟩:=h
 refine⟨_,(aj (cY (pv 0) (pv 1) rfl)
   (aq (cY (pv 0) (pv 2) rfl))),?_⟩
 refine⟨_,rfl,_,rfl,x,C,dx,_,rfl,hx,O.cl,O.at_ 0 rfl,(by show 0<1000;decide),?_⟩
 refine⟨_,rfl,_,rfl,x,C,dx,_,rfl,ai,O.cl,O.at_ 1 rfl,(by show 1<1000;decide),?_⟩
 exact k _ (fun b o e hb=>by rw[aR hb,aR hb];exact e) ai
abbrev jC:Stmt:=inClass (top 114) 0
theorem vT:aE ["self","last_node","parts"] ["self","last_node","parts"] (au jC):=sco rfl rfl rfl rfl (by decide +kernel)
def vG(C:Addr):Sp:=fun vs H Q _=>∃x dx n t,vs=[.ref x,.int n,t]∧H x=some (.ins C dx [])∧xW C x dx H Q (OD n t)
theorem Fb{C:Addr}(O:nG K C ["last_node","parts"])(G:uF K mg "Network" "Network.__init__" C jC ["self","last_node","parts"]):EZ P w K mg base "Network" C ["self","last_node","parts"] 1 (vG C):=by
 have sc:=vT
 refine G.Nn sc (fun vs H Q E ⟨x,dx,d,t,e,_⟩=>by rw[e];rfl) fun f cdv A outer s H vs Q E hr h=> ?_
 obtain⟨x,dx,d,t,rfl,hx,k⟩:=h
 refine⟨_,(aj (cY (pv 0) (pv 1) rfl)
   (aq (cY (pv 0) (pv 2) rfl))),?_⟩
 refine⟨_,rfl,_,rfl,x,C,dx,_,rfl,hx,O.cl,O.at_ 0 rfl,(by show 0<1000;decide),?_⟩
 refine⟨_,rfl,_,rfl,x,C,dx,_,rfl,ai,O.cl,O.at_ 1 rfl,(by show 1<1000;decide),?_⟩
 exact k _ (fun b o e hb=>by rw[aR hb,aR hb];exact e) ai
abbrev mL:Stmt:=inClass (top 120) 0
theorem yY:aE ["self","refusal","top","bottom"] ["self","refusal","top","bottom"] (au mL):=sco rfl rfl rfl rfl (by decide +kernel)
def As(C:Addr):Sp:=fun vs H Q _=>∃x dx a b d,vs=[.ref x,a,b,d]∧H x=some (.ins C dx [])∧xW C x dx H Q (MS a b d)
theorem JU{C:Addr}(O:nG K C ["refusal","top","bottom"])(G:uF K mg "Asked" "Asked.__init__" C mL ["self","refusal","top","bottom"]):EZ P w K mg base "Asked" C ["self","refusal","top","bottom"] 1 (As C):=by
 have sc:=yY
 refine G.Nn sc (fun vs H Q E ⟨x,dx,a,b,d,e,_⟩=>by rw[e];rfl) fun f cdv A outer s H vs Q E hr h=> ?_
 obtain⟨x,dx,a,b,d,rfl,hx,k⟩:=h
 refine⟨_,(aj (cY (pv 0) (pv 1) rfl)
   (aj (cY (pv 0) (pv 2) rfl)
   (aq (cY (pv 0) (pv 3) rfl)))),?_⟩
 refine⟨_,rfl,_,rfl,x,C,dx,_,rfl,hx,O.cl,O.at_ 0 rfl,(by show 0<1000;decide),?_⟩
 refine⟨_,rfl,_,rfl,x,C,dx,_,rfl,ai,O.cl,O.at_ 1 rfl,(by show 1<1000;decide),?_⟩
 refine⟨_,rfl,_,rfl,x,C,dx,_,rfl,ai,O.cl,O.at_ 2 rfl,(by show 2<1000;decide),?_⟩
 exact k _ (fun b o e hb=>by rw[aR hb,aR hb,aR hb];exact e) ai
abbrev oQ:Stmt:=inClass (top 113) 0
theorem BM:aE ["self","numbers"] ["self","numbers"] (au oQ):=sco rfl rfl rfl rfl (by decide +kernel)
def Dp(K:PySem.W.Frag)(C:Addr):Sp:=fun vs H Q _=>∃x dx a l,vs=[.ref x,.ref a]∧H x=some (.ins C dx [])∧H a=some (.lst (l.map V.int))∧l.length=7∧xW C x dx H Q (JK (ak.Part.of l))
theorem La{C:Addr}(O:nG K C ["kind","a","b","c","d","top","bottom"])(G:uF K mg "Part" "Part.__init__" C oQ ["self","numbers"]):EZ P w K mg base "Part" C ["self","numbers"] 1 (Dp K C):=by
 have sc:=BM
 refine G.Nn sc (fun vs H Q E ⟨x,dx,a,l,e,_⟩=>by rw[e];rfl) fun f cdv A outer s H vs Q E hr h=> ?_
 obtain⟨x,dx,a,l,rfl,hx,ha,hl,k⟩:=h
 have ne:a≠x:=B9 ha hx (by intro z;cases z)
 refine⟨_,(aj (cY (pv 0) (aK (dR K) (pv 1) aA (fun _ _=>rfl)) rfl)
   (aj (cY (pv 0) (aK (dR K) (pv 1) aA (fun _ _=>rfl)) rfl)
   (aj (cY (pv 0) (aK (dR K) (pv 1) aA (fun _ _=>rfl)) rfl)
   (aj (cY (pv 0) (aK (dR K) (pv 1) aA (fun _ _=>rfl)) rfl)
   (aj (cY (pv 0) (aK (dR K) (pv 1) aA (fun _ _=>rfl)) rfl)
   (aj (cY (pv 0) (aK (dR K) (pv 1) aA (fun _ _=>rfl)) rfl)
   (aq (cY (pv 0) (aK (dR K) (pv 1) aA (fun _ _=>rfl)) rfl)))))))),?_⟩
 refine⟨_,rfl,a,_,_,_,rfl,rfl,.of ha,aG (j:=0) rfl (cu (by lia)),_,rfl,x,C,dx,_,rfl,hx,O.cl,O.at_ 0 rfl,(by show 0<1000;decide),?_⟩
 refine⟨_,rfl,a,_,_,_,rfl,rfl,.of (by rw[aR ne];exact ha),aG (j:=1) rfl (cu (by lia)),_,rfl,x,C,dx,_,rfl,ai,O.cl,O.at_ 1 rfl,(by show 1<1000;decide),?_⟩
 rw[ij]
 refine⟨_,rfl,a,_,_,_,rfl,rfl,.of (by rw[aR ne];exact ha),aG (j:=2) rfl (cu (by lia)),_,rfl,x,C,dx,_,rfl,ai,O.cl,O.at_ 2 rfl,(by show 2<1000;decide),?_⟩
 rw[ij]
 refine⟨_,rfl,a,_,_,_,rfl,rfl,.of (by rw[aR ne];exact ha),aG (j:=3) rfl (cu (by lia)),_,rfl,x,C,dx,_,rfl,ai,O.cl,O.at_ 3 rfl,(by show 3<1000;decide),?_⟩
 rw[ij]
 refine⟨_,rfl,a,_,_,_,rfl,rfl,.of (by rw[aR ne];exact ha),aG (j:=4) rfl (cu (by lia)),_,rfl,x,C,dx,_,rfl,ai,O.cl,O.at_ 4 rfl,(by show 4<1000;decide),?_⟩
 rw[ij]
 refine⟨_,rfl,a,_,_,_,rfl,rfl,.of (by rw[aR ne];exact ha),aG (j:=5) rfl (cu (by lia)),_,rfl,x,C,dx,_,rfl,ai,O.cl,O.at_ 5 rfl,(by show 5<1000;decide),?_⟩
 rw[ij]
 refine⟨_,rfl,a,_,_,_,rfl,rfl,.of (by rw[aR ne];exact ha),aG (j:=6) rfl (cu (by lia)),_,rfl,x,C,dx,_,rfl,ai,O.cl,O.at_ 6 rfl,(by show 6<1000;decide),?_⟩
 rw[ij]
 exact k _ (fun b o e hb=>by rw[aR hb];exact e) ai
abbrev jD:Stmt:=inClass (top 27) 0
theorem vU:aE ["self","network","s","states","drives"] ["self","network","s","states","drives"] (au jD):=sco rfl rfl rfl rfl (by decide +kernel)
def oR(c:Cs):Sp:=fun vs H Q _=>∃H0 x dx vn vs' vst vd g,vs=[.ref x,vn,vs',vst,vd]∧H x=some (.ins c.dt dx [])∧aJ H0 H∧H0 x=none∧kf c H0 vn g.aO∧cN H0 vs' g.s∧r9 H0 vst g.cQ∧Ap H0 vd g.drives∧g.aO.af.length≤1000∧∀H',aJ H0 H'→iE c H' (.ref x) g→Q .fG H'
theorem Fc(O:cK K c)(hG:bo P w K mg base "current_places" ["network"] 2 (kh c))(lq:bo P w K mg base "unknowns_of" ["network"] 2 (oJ c))(G:uF K mg "Setting" "Setting.__init__" c.dt jD ["self","network","s","states","drives"]):EZ P w K mg base "Setting" c.dt ["self","network","s","states","drives"] 3 (oR c):=by
 have sc:=vU
 refine G.Nn sc (fun vs H Q E ⟨_,x,dx,_,_,_,_,g,e,_⟩=>by rw[e];rfl) fun f cdv A outer s H vs Q E hr h=> ?_
 obtain⟨H0,x,dx,vn,vs',vst,vd,g,rfl,hx,s0,hx0,hn,hs,hst,hd,hl,k⟩:=h
 refine⟨_,(aj (cY (pv 0) (pv 1) rfl)
   (aj (cY (pv 0) (pv 2) rfl)
   (aj (cY (pv 0) (pv 3) rfl)
   (aj (cY (pv 0) (pv 4) rfl)
   (aj (cY (pv 0) (aB hG (hr.mono (by decide)) rfl (aa (pv 1) ah)) rfl)
   (aq (cY (pv 0) (aB lq (hr.mono (by decide)) rfl (aa (pv 1) ah)) rfl))))))),?_⟩
 refine⟨_,rfl,_,rfl,x,c.dt,dx,_,rfl,hx,O.dt.cl,O.dt.at_ 0 rfl,(by show 0<1000;decide),?_⟩
 refine⟨_,rfl,_,rfl,x,c.dt,dx,_,rfl,ai,O.dt.cl,O.dt.at_ 1 rfl,(by show 1<1000;decide),?_⟩
 rw[ij]
 refine⟨_,rfl,_,rfl,x,c.dt,dx,_,rfl,ai,O.dt.cl,O.dt.at_ 2 rfl,(by show 2<1000;decide),?_⟩
 rw[ij]
 refine⟨_,rfl,_,rfl,x,c.dt,dx,_,rfl,ai,O.dt.cl,O.dt.at_ 3 rfl,(by show 3<1000;decide),?_⟩
 rw[ij]
 have s1:∀o,aJ H0 (upd H x o):=fun o=>s0.over hx0
 refine⟨_,rfl,_,_,rfl,hn.same (s1 _),hl,fun p H1 hp s2 hp1=> ?_⟩
 have x1:=s2 _ _ ai
 refine⟨_,rfl,x,c.dt,dx,_,rfl,x1,O.dt.cl,O.dt.at_ 4 rfl,(by show 4<1000;decide),?_⟩
 have px:p≠x:=fun e=>by rw[e,ai] at hp;cases hp
 have s3:∀o,aJ H0 (upd H1 x o):=fun o=>((s1 _).trans s2).over hx0
 refine⟨_,rfl,_,_,rfl,hn.same (s3 _),hl,fun H2 s4=> ?_⟩
 have x2:=s4 _ _ ai
 refine⟨_,rfl,x,c.dt,dx,_,rfl,x2,O.dt.cl,O.dt.at_ 5 rfl,(by show 5<1000;decide),?_⟩
 have s5:∀o,aJ H0 (upd H2 x o):=fun o=>((s3 _).trans s4).over hx0
 refine k _ (s5 _) ⟨x,dx,vn,vs',vst,vd,.ref p,rfl,ai,hn.same (s5 _),hs.same (s5 _),hst.same (s5 _),hd.same (s5 _),p,rfl,?_⟩
 rw[aR px]
 exact s4 _ _ (by rw[aR px];exact hp1)
end
abbrev FF:Addr→Prop:=fun _=>False
structure MT(bk rj rk bj before:List Int):Prop where
 s1:bk.length<100000
 s2:rj.length<100000
 s3:rk.length<100000
 s4:bj.length<100000
 s5:before.length<100000
 m1:∀x∈bk,∀y∈rj,IntMulOk x y
 m2:∀x∈rk,∀y∈bj,IntMulOk x y
 tb:ak.Trim before
 nb:before≠[]
 lb:(ak.lc before).natAbs.log2<9000
 ex:∃m,ak.Trim m∧ak.bK (ak.rP (ak.dO bk rj) (ak.dO rk bj))=ak.bK m*ak.bK before∧∀x∈m,∀y∈before,IntMulOk x y
def JV(row by_:List (List Int))(k:Nat)(before:List Int):Prop:=∀j,k<j→j<row.length→MT (by_.getD k []) (row.getD j []) (row.getD k []) (by_.getD j []) before
theorem vH(l r:List Int):(ak.dO l r).length≤l.length+r.length:=by
 by_cases h:l=[]∨r=[]
 ·unfold ak.dO
  rw[if_pos h]
  simp
 ·have h1:l≠[]:=fun e=>h (.inl e)
  have h2:r≠[]:=fun e=>h (.inr e)
  rw[ak.IU h1 h2]
  lia
theorem Dq(l r:List Int):(ak.rP l r).length≤max l.length r.length:=by
 unfold ak.rP ak.A6
 refine Nat.le_trans (ak.Ba _) ?_
 rw[ak.gy,ak.wm]
 exact Nat.le_refl _
section
variable {P:Program}{w:World}{K:PySem.W.Frag}{mg:Str→Option Value}{base:Heap}{c:Cs}
abbrev gB:Stmt:=top 96
theorem qN:aE ["table","k","place"] ["table","k"] (au gB):=sco rfl rfl rfl rfl (by decide +kernel)
def QH:Option Nat→V
 |none=> .fG
 |some c=> .int (c:Int)
def jE:Sp:=fun vs H Q _=>∃v t k,vs=[v,.int ((k:Nat):Int)]∧JI FF H v t∧k≤t.length∧t.length≤1000∧(∀r∈t,k<r.length)∧∀H',aJ H H'→Q (QH (ak.je t k (t.length - k))) H'
theorem qO(T:Txt2 mg)(G:dD K mg "row_to_solve_by" gB ["table","k"]):bo P w K mg base "row_to_solve_by" ["table","k"] 1 jE:=by
 have sc:=qN
 refine G.eD sc (fun vs H Q E ⟨v,t,k,e,_⟩=>by rw[e];rfl) fun f cdv A outer s H vs Q E hr h=> ?_
 obtain⟨v,t,k,rfl,⟨a,us,rfl,_,ha,hus⟩,hk,hl,hrow,kk⟩:=h
 have ll:=hus.length
 refine⟨_,(aj (cX PassesOwn.never rfl (zC rfl T.fJ (aa (pv 1) (aa (aY (br K) rfl T.dz bb (aa (pv 0) ah)) ah))) (aQ (i:=2) sc.nd rfl (Or.inl rfl)) (aq (bJ (bA K (aK (dR K) (aK (dR K) (pv 0) (pv 2) (fun _ _=>rfl)) (pv 1) (fun _ _=>rfl)) (fun _=>rfl)) (aq (aD (pv 2))) aT)))
   (aq (aD AF))),?_⟩
 refine⟨_,rfl,_,rfl,a,_,rfl,.inl (.of ha),_,_,rfl,⟨by lia,by lia,by lia,by lia⟩,?_⟩
 have en:((us.length:Int) - (k:Int)).toNat=t.length - k:=by lia
 rw[en]
 refine fA (iz H _ _) (fun i σ H'=>∃x2,σ=[some (.ref a),some (.int (k:Int)),x2]∧aJ H H'∧i≤t.length - k∧ak.je t k (t.length - k)=ak.je t k (t.length - k - i)) ⟨none,rfl,.refl _,Nat.zero_le _,rfl⟩ (fun i σ H' ⟨_,_,s,_⟩=>s) ?_ ?_
 ·rintro i x σ H1 H2 hi ⟨x2,rfl,s1,hi2,hpv⟩ s2 s12 rfl
  obtain⟨m,em⟩:∃m,t.length - k - i=m+1:=⟨t.length - k - i - 1,by lia⟩
  have epl:t.length - (m+1)=k+i:=by lia
  obtain⟨u,hu,ra,rv,rfl,_,hra,hrv⟩:=hus.fP (az (d:=[]) (show k+i<t.length by lia))
  have hkr:=hrow _ (List.mem_of_getElem? (az (d:=[]) (show k+i<t.length by lia)))
  obtain⟨q,hq,qa,rfl,_,hqa⟩:=hrv.fP (az (d:=[]) hkr)
  refine⟨_,rfl,_,rfl,a,_,_,_,rfl,rfl,.of (s2 _ _ ha),aG (j:=k+i) (by lia) hu,_,rfl,ra,_,_,_,rfl,rfl,.of (s2 _ _ hra),aG (j:=k) rfl hq,_,ET (s2 _ _ hqa),?_⟩
  rw[em,show ak.je t k (m+1)=(if(t.getD (t.length - (m+1)) []).getD k []≠[] then some (t.length - (m+1)) else ak.je t k m) from rfl,epl] at hpv
  by_cases h0:(t.getD (k+i) []).getD k []=[]
  ·rw[h0] at hpv⊢
   rw[if_neg (by simp)] at hpv
   refine bC ⟨_,rfl,s2,by lia,?_⟩
   have e2:t.length - k - (i+1)=m:=by lia
   rw[e2]
   exact hpv
  ·rw[g6 h0]
   rw[if_pos h0] at hpv
   refine bx ⟨_,rfl,?_⟩
   have q:=kk H2 s2
   rw[hpv] at q
   have e3:(k:Int)+(i:Nat)=((k+i:Nat):Int):=by lia
   rw[e3]
   exact q
 ·rintro σ H1 ⟨x2,rfl,s1,hi2,hpv⟩
  have q:=kk H1 s1
  rw[hpv,Nat.sub_self] at q
  exact q
abbrev ly:Stmt:=top 98
theorem xX:aE ["row","by","k","before","result","factor","place","kept"] ["row","by","k","before"] (au ly):=sco rfl rfl rfl rfl (by decide +kernel)
def oS:Sp:=fun vs H Q _=>∃S v u b row by_ k before,vs=[v,u,.int ((k:Nat):Int),b]∧HY S H∧oE S H v row∧oE S H u by_∧cN H b before∧k<row.length∧row.length=by_.length∧row.length≤1000∧JV row by_ k before∧∀z H',aJ H H'→oE S H' z (ak.gW row by_ k before)→Q z H'
theorem xY(T:Txt2 mg)(dW:bo P w K mg base "multiplied" ["left","right"] 1 kX)(fq:bo P w K mg base "subtracted" ["left","right"] 3 kU)(uH:bo P w K mg base "divided" ["left","right"] 1 xH)(G:dD K mg "cleared_row" ly ["row","by","k","before"]):bo P w K mg base "cleared_row" ["row","by","k","before"] 4 oS:=by
 have sc:=xX
 refine G.eD sc (fun vs H Q E ⟨S,v,u,b,row,by_,k,before,e,_⟩=>by rw[e];rfl) fun f cdv A outer s H vs Q E hr h=> ?_
 obtain⟨S,v,u,b,row,by_,k,before,rfl,dS,⟨ra,rv,rfl,nra,hra,hrv⟩,⟨ba,bv,rfl,nba,hba,hbv⟩,hb,hk,hlen,hl,rok,kk⟩:=h
 have lr:=hrv.length
 have lb:=hbv.length
 refine⟨_,(aj (aH (i:=4) sc.nd rfl (by first|left;rfl|right;rfl) (tM (qw K) rfl T.xB oe (aa (pv 0) ah)))
   (aj (aH (i:=5) sc.nd rfl (by first|left;rfl|right;rfl) (aK (dR K) (pv 0) (pv 2) (fun _ _=>rfl)))
   (aj (cX PassesOwn.never rfl (zC rfl T.fJ (aa (a9 eV (pv 2) aA) (aa (aY (br K) rfl T.dz bb (aa (pv 0) ah)) ah))) (aQ (i:=6) sc.nd rfl (Or.inl rfl)) (aj (aH (i:=7) sc.nd rfl (by first|left;rfl|right;rfl) (aB dW (hr.mono (by decide)) rfl (aa (aK (dR K) (pv 1) (pv 2) (fun _ _=>rfl)) (aa (aK (dR K) (pv 0) (pv 6) (fun _ _=>rfl)) ah))))
   (aq (tJ (aB uH (hr.mono (by decide)) rfl (aa (aB fq (hr.mono (by decide)) rfl (aa (pv 7) (aa (aB dW (hr.mono (by decide)) rfl (aa (pv 5) (aa (aK (dR K) (pv 1) (pv 6) (fun _ _=>rfl)) ah))) ah))) (aa (pv 3) ah))) (tI (pv 4) (pv 6) set_list)))))
   (aq (aD (pv 4)))))),?_⟩
 refine⟨_,rfl,ra,_,rfl,.inl (.of hra),fun p hp=> ?_⟩
 have s1:=ay (o:= .lst rv) hp
 obtain⟨fv,hfv,pf⟩:=hrv.fP (az (d:=[]) hk)
 refine⟨_,rfl,_,rfl,ra,_,_,_,rfl,rfl,.of (s1 _ _ hra),aG (j:=k) rfl hfv,?_⟩
 refine⟨_,rfl,_,_,rfl,rfl,_,rfl,ra,_,rfl,.inl (.of (s1 _ _ hra)),_,_,rfl,⟨by lia,by lia,by lia,by lia⟩,?_⟩
 have en:((rv.length:Int) - ((k:Int)+1)).toNat=row.length - (k+1):=by lia
 rw[en]
 have hrvA:Paired (nF (bZ S p) H) rv row:=hrv.K4 cH hp
 have hbvA:Paired (nF (bZ S p) H) bv by_:=hbv.K4 cH hp
 refine fA (iz H _ _) (fun i σ H'=>∃x6 x7 ws,σ=[some (.ref ra),some (.ref ba),some (.int (k:Int)),some b,some (.ref p),some fv,x6,x7]∧aJ H H'∧H' p=some (.lst ws)∧ws.length=row.length∧(∀j x,ws[j]? =some x→nF (bZ S p) H' x (if k<j∧j<k+1+i then(ak.gW row by_ k before).getD j [] else row.getD j []))) ⟨none,none,rv,rfl,s1,ai,lr,fun j x hx=> ?_⟩ (fun i σ H' ⟨_,_,_,_,s,_⟩=>s) ?_ ?_
 ·rw[if_neg (by lia)]
  obtain⟨y,hy,py⟩:=hrvA.iL hx
  have:row.getD j []=y:=by rw[gDe,hy];rfl
  rw[this]
  exact cH.same py s1
 ·rintro i x σ H1 H2 hi ⟨x6,x7,ws,rfl,s2,hp2,hwl,hws⟩ s3 s12 rfl
  have hj:k+1+i<row.length:=by lia
  have ej:((k:Int)+1)+((i:Nat):Int)=((k+1+i:Nat):Int):=by lia
  rw[ej]
  have O:=rok (k+1+i) (by lia) hj
  obtain⟨bkv,hbk,pbk⟩:=hbv.fP (az (d:=[]) (show k<by_.length by lia))
  obtain⟨bjv,hbj,pbj⟩:=hbv.fP (az (d:=[]) (show k+1+i<by_.length by lia))
  obtain⟨rjv,hrj,prj⟩:=hrv.fP (az (d:=[]) hj)
  refine⟨_,rfl,_,rfl,ba,_,_,_,rfl,rfl,.of (s3 _ _ hba),aG (j:=k) rfl hbk,_,rfl,_,rfl,ra,_,_,_,rfl,rfl,.of (s3 _ _ hra),aG (j:=k+1+i) rfl hrj,?_⟩
  refine⟨_,_,_,_,rfl,pbk.at_.same s3,prj.at_.same s3,by unfold Short;have:=O.s1;lia,by unfold Short;have:=O.s2;lia,O.m1,fun q1 H3 hq1 t1 hq1'=> ?_⟩
  have s34:=s3.trans t1
  refine⟨_,rfl,_,rfl,_,rfl,_,rfl,ba,_,_,_,rfl,rfl,.of (s34 _ _ hba),aG (j:=k+1+i) rfl hbj,?_⟩
  refine⟨_,_,_,_,rfl,pf.at_.same s34,pbj.at_.same s34,by unfold Short;have:=O.s3;lia,by unfold Short;have:=O.s4;lia,O.m2,fun q2 H4 hq2 t2 hq2'=> ?_⟩
  have l1:=vH (by_.getD k []) (row.getD (k+1+i) [])
  have l2:=vH (row.getD k []) (by_.getD (k+1+i) [])
  have o1:=O.s1
  have o2:=O.s2
  have o3:=O.s3
  have o4:=O.s4
  have o5:=O.s5
  refine⟨_,_,_,_,rfl,⟨q1,rfl,t2 _ _ hq1'⟩,⟨q2,rfl,hq2'⟩,by unfold Short;lia,by unfold Short;lia,fun q3 H5 hq3 t3 hq3'=> ?_⟩
  have l3:=Dq (ak.dO (by_.getD k []) (row.getD (k+1+i) [])) (ak.dO (row.getD k []) (by_.getD (k+1+i) []))
  obtain⟨m,tm,em,mm⟩:=O.ex
  have s35:=(s34.trans t2).trans t3
  refine⟨_,rfl,_,_,_,_,m,rfl,⟨q3,rfl,hq3'⟩,hb.same s35,by unfold Short;lia,by unfold Short;lia,ak.pC _ _,O.tb,tm,O.nb,em,O.lb,mm,fun q4 H6 hq4 t4 hq4'=> ?_⟩
  have s26:=((t1.trans t2).trans t3).trans t4
  have hp6:=s26 _ _ (s12 _ _ hp2)
  refine⟨_,rfl,_,rfl,p,_,_,k+1+i,rfl,rfl,hp6,l9 rfl (by lia),?_⟩
  have n4:¬bZ S p q4:=fun h=>h.elim (fun y=>(dS.same s35) q4 y hq4) (fun y=>by
   have:=((t1.trans t2).trans t3) _ _ (s12 _ _ hp2)
   rw[←y,hq4] at this
   cases this)
  have ed:(ak.gW row by_ k before).getD (k+1+i) []=m:=by
   unfold ak.gW
   rw[ak.i0 _ _ _ _ hj,if_pos (by lia)]
   exact ak.F4 (ak.pC _ _) O.tb tm O.nb em
  refine⟨_,_,_,rfl,(s3.trans s26).over hp,ai,by rw[List.length_set];exact hwl,fun j x hx=> ?_⟩
  have od:Off (bZ S p) H6 (upd H6 p (.lst (ws.set (k+1+i) (.ref q4)))):=bS (.inr rfl)
  rw[List.getElem?_set] at hx
  by_cases e:k+1+i=j
  ·subst e
   rw[if_pos rfl,if_pos (by lia)] at hx
   have:V.ref q4=x:=Option.some.inj hx
   subst this
   rw[if_pos (by lia),ed]
   exact cH.off ⟨q4,rfl,n4,hq4'⟩ od
  ·rw[if_neg e] at hx
   have hold:=cH.off (cH.same (hws j x hx) (s12.trans s26)) od
   by_cases e2:k<j∧j<k+1+i
   ·rw[if_pos e2] at hold
    rw[if_pos (by lia)]
    exact hold
   ·rw[if_neg e2] at hold
    rw[if_neg (by lia)]
    exact hold
 ·rintro σ H1 ⟨x6,x7,ws,rfl,s2,hp2,hwl,hws⟩
  refine⟨_,rfl,kk _ H1 s2 ⟨p,ws,rfl,dS.new hp,hp2,?_⟩⟩
  refine PySem.Paired.HZ (p:=p) cH (uE (by unfold ak.gW;simp[hwl]) fun j x y hx hy=> ?_)
  have h1:=hws j x hx
  have hjl:j<row.length:=by rw[←hwl];exact cD hx
  have ey:(ak.gW row by_ k before).getD j []=y:=by rw[gDe,hy];rfl
  by_cases e:k<j
  ·rw[if_pos ⟨e,by lia⟩,ey] at h1
   exact h1
  ·rw[if_neg (by lia)] at h1
   have e3:(ak.gW row by_ k before).getD j []=row.getD j []:=by
    unfold ak.gW
    rw[ak.i0 _ _ _ _ hjl,if_neg e]
   rw[←e3,ey] at h1
   exact h1
abbrev uI:Stmt:=top 97
theorem Fd:aE ["table","k","before","by","result","place","row"] ["table","k","before"] (au uI):=sco rfl rfl rfl rfl (by decide +kernel)
def xZ:Sp:=fun vs H Q _=>∃S v b t k before,vs=[v,.int ((k:Nat):Int),b]∧HY S H∧JI S H v t∧cN H b before∧k<t.length∧t.length≤900∧(∀i,i<t.length→(t.getD i []).length=t.length+1)∧(∀i,i<t.length→i≠k→JV (t.getD i []) (t.getD k []) k before)∧∀p us H',aJ H H'→H p=none→H' p=some (.lst us)→Paired (oE S H') us (ak.tW t k before)→Q (.ref p) H'
theorem Fe(T:Txt2 mg)(lA:bo P w K mg base "cleared_row" ["row","by","k","before"] 4 oS)(G:dD K mg "cleared" uI ["table","k","before"]):bo P w K mg base "cleared" ["table","k","before"] 5 xZ:=by
 have sc:=Fd
 refine G.eD sc (fun vs H Q E ⟨S,v,b,t,k,before,e,_⟩=>by rw[e];rfl) fun f cdv A outer s H vs Q E hr h=> ?_
 obtain⟨S,v,b,t,k,before,rfl,dS,⟨ta,tv,rfl,nta,hta,htv⟩,hb,hk,hl,hrl,hro,kk⟩:=h
 have lt:=htv.length
 refine⟨_,(aj (aH (i:=3) sc.nd rfl (by first|left;rfl|right;rfl) (aK (dR K) (pv 0) (pv 1) (fun _ _=>rfl)))
   (aj (aH (i:=4) sc.nd rfl (by first|left;rfl|right;rfl) (aN ah))
   (aj (cX PassesOwn.never rfl (lZ rfl T.di (aa (pv 0) ah)) (gu K (n:=2) rfl (bM (aQ (i:=5) sc.nd rfl (Or.inl rfl)) (bM (aQ (i:=6) sc.nd rfl (Or.inl rfl)) gq))) (aq (bJ (bf de (pv 5) (pv 1) (aZ _)) (aq (eO (j3 PySem.F.plainAttrs_list PySem.F.slot_list_append PySem.F.type_list_append c7 (pv 4) (aa (pv 6) ah)))) (aq (eO (j3 PySem.F.plainAttrs_list PySem.F.slot_list_append PySem.F.type_list_append c7 (pv 4) (aa (aB lA (hr.mono (by decide)) rfl (aa (pv 6) (aa (pv 3) (aa (pv 1) (aa (pv 2) ah))))) ah)))))))
   (aq (aD (pv 4)))))),?_⟩
 obtain⟨yv,hyv,ry⟩:=htv.fP (az (d:=[]) hk)
 refine⟨_,rfl,_,rfl,ta,_,_,_,rfl,rfl,.of hta,aG (j:=k) rfl hyv,Nat.zero_le _,fun p hp=> ?_⟩
 have s1:=ay (o:= .lst []) hp
 have htvA:=htv.K4 bG hp
 refine⟨_,rfl,ta,_,rfl,.of (s1 _ _ hta),fA (l6 (K:=K) (.of hta)) (fun i σ H'=>∃x5 x6 us,σ=[some (.ref ta),some (.int (k:Int)),some b,some yv,some (.ref p),x5,x6]∧aJ H H'∧H' p=some (.lst us)∧Paired (oE (bZ S p) H') us ((ak.tW t k before).take i)) ⟨none,none,[],rfl,s1,ai,.nil⟩ (fun i σ H' ⟨_,_,_,_,s,_⟩=>s) ?_ ?_⟩
 ·rintro i x σ H1 H2 hi ⟨x5,x6,us,rfl,s2,hp2,hus⟩ s3 s12 ⟨tt,y,rfl,ht,hy⟩
  obtain⟨row,hrow,rr⟩:=htvA.iL hy
  have hi':i<t.length:=cD hrow
  have er:t.getD i []=row:=by rw[gDe,hrow];rfl
  have hp3:=s12 _ _ hp2
  have lu:=hus.length
  rw[List.length_take] at lu
  have ec:(ak.tW t k before)[i]? =some (if i=k then t.getD k [] else ak.gW (t.getD i []) (t.getD k []) k before):=by
   unfold ak.tW
   rw[List.getElem?_map,List.getElem?_range hi'];rfl
  have etake:(ak.tW t k before).take (i+1)=(ak.tW t k before).take i ++ [if i=k then t.getD k [] else ak.gW (t.getD i []) (t.getD k []) k before]:=by
   rw[List.take_add_one,ec];rfl
  refine⟨tt,_,rfl,.of ht,rfl,_,_,rfl,_,_,rfl,rfl,?_⟩
  refine⟨_,rfl,_,rfl,rfl,_,rfl,?_⟩
  rw[fE]
  by_cases e:i=k
  ·rw[decide_eq_true (show((i:Nat):Int)=(k:Int) by lia)]
   refine bx ⟨_,rfl,.inl ⟨rfl,_,.of hp3⟩,_,rfl,p,_,_,rfl,rfl,hp3,aL (by lia),_,_,_,rfl,s3.over hp,ai,?_⟩
   have er2:t.getD k []=row:=by rw[←e];exact er
   rw[etake,if_pos e,er2]
   exact((hus.d7 bG s12).oF bG (bS (.inr rfl))).fB (bG.off (bG.same rr s3) (bS (.inr rfl)))
  ·rw[decide_eq_false (show ¬((i:Nat):Int)=(k:Int) by lia)]
   have ry2:=bG.same (bG.and ry hp) s3
   have dS2:HY (bZ S p) H2:=(dS.same s3).and hp3
   refine bC ⟨_,rfl,.inl ⟨rfl,_,.of hp3⟩,_,rfl,_,rfl,_,rfl,_,rfl,bZ S p,_,_,_,row,_,k,before,rfl,dS2,bG.same rr s3,ry2,hb.same s3,?_,?_,?_,?_,fun z H3 s4 hz=> ?_⟩
   ·rw[←er,hrl i hi'];lia
   ·rw[←er,hrl i hi',hrl k hk]
   ·rw[←er,hrl i hi'];lia
   ·rw[←er];exact hro i hi' e
   have hp4:=s4 _ _ hp3
   refine⟨p,_,_,rfl,rfl,hp4,aL (by lia),_,_,_,rfl,(s3.trans s4).over hp,ai,?_⟩
   rw[etake,if_neg e,er]
   exact((hus.d7 bG (s12.trans s4)).oF bG (bS (.inr rfl))).fB (bG.off hz (bS (.inr rfl)))
 ·rintro σ H1 ⟨x5,x6,us,rfl,s2,hp2,hus⟩
  have el:(ak.tW t k before).take tv.length=ak.tW t k before:=List.take_of_length_le (by unfold ak.tW;simp;lia)
  rw[el] at hus
  exact⟨_,rfl,kk p us H1 s2 hp hp2 (hus.HZ bG)⟩
end
def yb:Nat→Nat→List (List (List Int))→List Int→Prop
 |0,_,_,_=>True
 |f+1,k,t,before=>∀c,ak.je t k (t.length - k)=some c→(∀i,i<t.length→i≠k→JV ((ak.i9 t c k).getD i []) ((ak.i9 t c k).getD k []) k before)∧yb f (k+1) (ak.tW (ak.i9 t c k) k before) ((t.getD c []).getD k [])
theorem Lb{α:Type}{xs:List α}{m:Nat}{x:α}(h:xs.length=m+1)(hx:xs[m]? =some x):Iy xs (-1)=some x:=by
 unfold Iy Iw
 rw[if_neg (by decide),if_pos (by lia)]
 show xs[(-1+(xs.length:Int)).toNat]? =_
 have e:(-1+(xs.length:Int)).toNat=m:=by lia
 rw[e,hx]
theorem Lc(t:List (List (List Int)))(c k:Nat):(ak.i9 t c k).length=t.length:=by unfold ak.i9;simp
section
variable {P:Program}{w:World}{K:PySem.W.Frag}{mg:Str→Option Value}{base:Heap}{c:Cs}
abbrev oT:Stmt:=top 95
theorem Hz:aE ["rows","table","row","before","k","chosen","taken"] ["rows"] (au oT):=sco rfl rfl rfl rfl (by decide +kernel)
def OF(c:Cs)(H:Hp)(Q:VK):Option (List Int×List (List Int))→Prop
 |none=>∀H',aJ H H'→Q .fG H'
 |some s=>∀z H',aJ H H'→ng c H' z s→Q z H'
def uJ(c:Cs):Sp:=fun vs H Q _=>∃v rows,vs=[v]∧JI FF H v rows∧rows.length≤900∧(∀i,i<rows.length→(rows.getD i []).length=rows.length+1)∧yb rows.length 0 rows [1]∧OF c H Q (ak.sol rows)
theorem HA(T:Txt2 mg)(O:cK K c)(gC:bo P w K mg base "row_to_solve_by" ["table","k"] 1 jE)(uK:bo P w K mg base "cleared" ["table","k","before"] 5 xZ)(qP:EZ P w K mg base "Solution" c.sol ["self","determinant","tops"] 1 (sE c.sol))(G:dD K mg "solved" oT ["rows"]):bo P w K mg base "solved" ["rows"] 6 (uJ c):=by
 have sc:=Hz
 refine G.eD sc (fun vs H Q E ⟨v,rows,e,_⟩=>by rw[e];rfl) fun f cdv A outer s H vs Q E hr h=> ?_
 obtain⟨v,rows,rfl,⟨ra,rv,rfl,_,hra,hrv⟩,hl,hrl,run,kk⟩:=h
 have lr:=hrv.length
 refine⟨_,(aj (oa (i:=1) rfl sc.nd rfl rfl (rM rfl rfl rfl rfl) (cw (pv 0)) (cf (own:=[("row",2)]) (by show lM ["rows","table","row","before","k","chosen","taken"] (au oT) _ _=true;decide +kernel)) (fun _ _ _ _ _=>(aQ (i:=2) sc.nd rfl (Or.inl rfl))) (fun _ _ _ _ _=>dC) (fun _ _ _ _ _=>(tM (qw K) rfl T.xB oe (aa (pv 2) ah))))
   (aj (aH (i:=3) sc.nd rfl (by first|left;rfl|right;rfl) (aN (aa aA ah)))
   (aj (cX PassesOwn.never rfl (i8 rfl T.fJ (aa (aY (br K) rfl T.dz bb (aa (pv 1) ah)) ah)) (aQ (i:=4) sc.nd rfl (Or.inl rfl)) (aj (aH (i:=5) sc.nd rfl (by first|left;rfl|right;rfl) (aB gC (hr.mono (by decide)) rfl (aa (pv 1) (aa (pv 4) ah))))
   (aj (bJ (AH (DT (pv 5))) (aq (aD AF)) aT)
   (aj (aH (i:=6) sc.nd rfl (by first|left;rfl|right;rfl) (aK (dR K) (pv 1) (pv 5) (fun _ _=>rfl)))
   (aj (tJ (aK (dR K) (pv 1) (pv 4) (fun _ _=>rfl)) (tI (pv 1) (pv 5) set_list))
   (aj (tJ (pv 6) (tI (pv 1) (pv 4) set_list))
   (aj (aH (i:=1) sc.nd rfl (by first|left;rfl|right;rfl) (aB uK (hr.mono (by decide)) rfl (aa (pv 1) (aa (pv 4) (aa (pv 3) ah)))))
   (aq (aH (i:=3) sc.nd rfl (by first|left;rfl|right;rfl) (aK (dR K) (pv 6) (pv 4) (fun _ _=>rfl)))))))))))
   (aq (aD (qj qP (hr.mono (by decide)) rfl (aa (pv 3) (aa (lL rfl sc.nd (cw (pv 1)) (cf (own:=[("row",2)]) (by show lM ["rows","table","row","before","k","chosen","taken"] (au oT) _ _=true;decide +kernel)) (fun _ _ _ _ _=>(aQ (i:=2) sc.nd rfl (Or.inl rfl))) (fun _ _ _ _ _=>dC) (fun _ _ _ _ _=>(aK (dR K) (pv 2) (gr dQ aA) (fun _ _=>rfl)))) ah)))))))),?_⟩
 refine⟨_,rfl,ra,rfl,⟨_,.of hra⟩,fun D hD=>ny (cy (.of hra)) hD (fun i H' acc=>Paired (oE (bZ FF D) H') acc (rows.take i)) .nil ?_ ?_⟩
 ·rintro i x H1 H2 acc hi s1 hD1 hacc s2 s12 hD2 hx
  obtain⟨row,hrow,xa,xv,rfl,_,hxa,hxv⟩:=hrv.iL hx
  have lacc:=hacc.length
  refine⟨rfl,⟨_,rfl,xa,_,rfl,.inl (.of (s2 _ _ hxa)),fun q hq=> ?_⟩⟩
  have s3:=ay (o:= .lst xv) hq
  have nq:¬bZ FF D q:=fun h=>h.elim (fun y=>y) (fun y=>by rw[y,hD2] at hq;cases hq)
  have hxvD:Paired (nF (bZ FF D) H) xv row:=hxv.K4 cH hD
  refine dE hD (s2.trans s3) (s3 _ _ hD2) ?_ ?_
  ·rw[lacc,List.length_take]
   exact aL (by lia)
  ·rw[List.take_add_one,hrow]
   refine((hacc.d7 bG (s12.trans s3)).oF bG (bS (.inr rfl))).fB (bG.off ⟨q,xv,rfl,nq,ai,?_⟩ (bS (.inr rfl)))
   exact hxvD.d7 cH (s2.trans s3)
 ·intro H1 acc s1 hD1 hacc
  rw[lr,List.take_length] at hacc
  have lacc:=hacc.length
  refine⟨aw (by simp),fun q hq=> ?_⟩
  have s2:=ay (o:= .lst [.int 1]) hq
  refine⟨_,rfl,D,_,rfl,.inl (.of (s2 _ _ hD1)),_,rfl,by lia,by lia,?_⟩
  have en:((acc.length:Int)).toNat=rows.length:=by lia
  rw[en]
  refine fA (iz H _ _) (fun i σ H'=>∃p us t yL vb x4 x5 x6,σ=[some (.ref ra),some (.ref p),none,some vb,x4,x5,x6]∧aJ H H'∧H p=none∧H' p=some (.lst us)∧Paired (oE FF H') us t∧cN H' vb yL∧i≤rows.length∧t.length=rows.length∧(∀j,j<t.length→(t.getD j []).length=t.length+1)∧ak.rQ (rows.length - i) i t yL=ak.sol rows∧yb (rows.length - i) i t yL) ⟨D,acc,rows,[1],.ref q,none,none,none,rfl,s1.trans s2,hD,s2 _ _ hD1,(hacc.d7 bG s2).HZ bG,⟨q,rfl,ai⟩,Nat.zero_le _,rfl,hrl,rfl,run⟩ (fun i σ H' ⟨_,_,_,_,_,_,_,_,_,s,_⟩=>s) ?_ ?_
  ·rintro k x σ H2 H3 hi ⟨p,us,t,yL,vb,x4,x5,x6,rfl,s3,pH,hp2,hus,hbef,hk2,htl,htr,hso,hrun⟩ s4 s34 rfl
   obtain⟨m,em⟩:∃m,rows.length - k=m+1:=⟨rows.length - k - 1,by lia⟩
   have em2:rows.length - (k+1)=m:=by lia
   rw[em] at hso hrun
   have hp3:=s34 _ _ hp2
   have hus3:=hus.d7 bG s34
   have lus:=hus.length
   have e0:(0:Int)+((k:Nat):Int)=(k:Int):=by lia
   rw[e0]
   have hkt:k<t.length:=by lia
   refine⟨_,rfl,_,rfl,_,t,k,rfl,⟨p,us,rfl,fun z=>z,hp3,hus3⟩,by lia,by lia,fun r hr'=> ?_,fun H4 s5=> ?_⟩
   ·obtain⟨j,hj,ej⟩:=List.getElem_of_mem hr'
    have:=htr j hj
    rw[gDe,List.getElem?_eq_getElem hj] at this
    simp only[Option.getD_some,ej] at this
    lia
   cases hpv:ak.je t k (t.length - k) with
   |none=>
    refine⟨_,rfl,_,rfl,?_⟩
    refine bx ?_
    have:ak.sol rows=none:=by
     rw[←hso]
     unfold ak.rQ
     rw[hpv]
    rw[this] at kk
    exact kk H4 (s4.trans s5)
   |some ch=>
    obtain⟨c1,c2,c3⟩:=ak.mh t k _ ch (by lia) hpv
    obtain⟨run1,run2⟩:=hrun ch hpv
    have hso2:ak.rQ m (k+1) (ak.tW (ak.i9 t ch k) k yL) ((t.getD ch []).getD k [])=ak.sol rows:=by
     rw[←hso]
     show _=match ak.je t k (t.length - k) with
      |none=>none
      |some c=>ak.rQ m (k+1) (ak.tW (ak.i9 t c k) k yL) ((t.getD c []).getD k [])
     rw[hpv]
    refine⟨_,rfl,_,rfl,?_⟩
    refine bC ?_
    have hp4:=s5 _ _ hp3
    have hus4:=hus3.d7 bG s5
    have hown:=K7 hp4 hus4
    obtain⟨uc,huc,rc⟩:=hown.fP (az (d:=[]) c2)
    obtain⟨uk,huk,rk⟩:=hown.fP (az (d:=[]) hkt)
    have hbef4:nF (bZ FF p) H4 vb yL:=by
     obtain⟨ca,_,rfl,_⟩:=id rc
     exact uD hp4 (List.mem_of_getElem? huc) ((hbef.same (s34.trans s5)).s)
    refine⟨_,rfl,_,rfl,p,_,_,_,rfl,rfl,.of hp4,aG (j:=ch) rfl huc,?_⟩
    refine⟨_,rfl,_,rfl,p,_,_,_,rfl,rfl,.of hp4,aG (j:=k) rfl huk,_,rfl,_,rfl,p,_,_,ch,rfl,rfl,hp4,l9 rfl (by lia),?_⟩
    refine⟨_,rfl,_,rfl,_,rfl,p,_,_,k,rfl,rfl,ai,l9 rfl (by rw[List.length_set];lia),?_⟩
    rw[ij]
    have od:Off (bZ FF p) H4 (upd H4 p (.lst ((us.set ch uk).set k uc))):=bS (.inr rfl)
    have s6:aJ H (upd H4 p (.lst ((us.set ch uk).set k uc))):=(s4.trans s5).over pH
    have hsw:Paired (oE (bZ FF p) (upd H4 p (.lst ((us.set ch uk).set k uc)))) ((us.set ch uk).set k uc) (ak.i9 t ch k):=by
     unfold ak.i9
     exact((hown.oF bG od).setAt (bG.off rk od) ch).setAt (bG.off rc od) k
    have hp6:(upd H4 p (.lst ((us.set ch uk).set k uc))) p=some (.lst ((us.set ch uk).set k uc)):=ai
    have rc6:=bG.off rc od
    have hbef6:=cH.off hbef4 od
    generalize upd H4 p (.lst ((us.set ch uk).set k uc))=H6 at s6 hsw hp6 rc6 hbef6
    have sl:=Lc t ch k
    have srow:∀j,j<t.length→((ak.i9 t ch k).getD j []).length=t.length+1:=fun j hj=>by
     rw[ak.wo t ch k j c2 hkt]
     exact htr _ (ak.j5 c2 hkt hj)
    refine⟨_,rfl,_,rfl,_,rfl,FF,_,_,_,k,yL,rfl,fun a h=>h.elim,⟨p,_,rfl,fun z=>z,hp6,hsw.HZ bG⟩,hbef6.at_,by lia,by lia,?_,?_,fun p7 us7 H7 s7 p7n hp7 hus7=> ?_⟩
    ·intro j hj
     rw[sl] at hj⊢
     exact srow j hj
    ·intro j hj hjk
     exact run1 j (by lia) hjk
    ·obtain⟨ca,cv,rfl,_,hca,hcv⟩:=rc6
     have hcl:k<(t.getD ch []).length:=by rw[htr ch c2];lia
     obtain⟨kv,hkv,pkv⟩:=hcv.fP (az (d:=[]) hcl)
     refine⟨_,rfl,_,rfl,ca,_,_,_,rfl,rfl,.of (s7 _ _ hca),aG (j:=k) rfl hkv,?_⟩
     have cl:(ak.tW (ak.i9 t ch k) k yL).length=t.length:=by unfold ak.tW;simp[sl]
     refine⟨p7,us7,_,_,kv,_,_,_,rfl,s6.trans s7,s6.free p7n,hp7,hus7,(cH.same pkv s7).at_,by lia,by rw[cl,htl],?_,?_,?_⟩
     ·intro j hj
      rw[cl] at hj⊢
      rw[ak.F5 _ _ _ _ (by lia)]
      exact srow j hj
     ·rw[em2];exact hso2
     ·rw[em2];exact run2
  ·rintro σ H2 ⟨p,us,t,yL,vb,x4,x5,x6,rfl,s3,pH,hp2,hus,hbef,hk2,htl,htr,hso,hrun⟩
   have lus:=hus.length
   rw[Nat.sub_self] at hso
   have hsol:ak.sol rows=some (yL,t.map fun r=>r.getD (r.length - 1) []):=hso.symm
   rw[hsol] at kk
   refine⟨_,rfl,_,rfl,p,rfl,⟨_,.of hp2⟩,fun D2 hD2=>ny (cy (.of hp2)) hD2 (fun i H' acc=>Paired (nF (bZ FF D2) H') acc ((t.take i).map fun r=>r.getD (r.length - 1) [])) .nil ?_ ?_⟩
   ·rintro i x H3 H4 acc2 hi s4 hD3 hacc2 s5 s45 hD4 hx
    obtain⟨row,hrow,xa,xv,rfl,_,hxa,hxv⟩:=hus.iL hx
    have hi':i<t.length:=cD hrow
    have er:t.getD i []=row:=by rw[gDe,hrow];rfl
    have hrlen:row.length=t.length+1:=by rw[←er];exact htr i hi'
    have lxv:=hxv.length
    have lacc2:=hacc2.length
    obtain⟨lv,hlv,plv⟩:=hxv.fP (az (d:=[]) (show t.length<row.length by lia))
    refine⟨rfl,⟨_,rfl,_,rfl,xa,_,_,_,rfl,rfl,.of (s5 _ _ hxa),Lb (m:=t.length) (by lia) hlv,?_⟩⟩
    refine dE hD2 s5 hD4 ?_ ?_
    ·rw[lacc2,lMp,List.length_take]
     exact aL (by lia)
    ·rw[bI _ _ _ _ hrow]
     have e2:row.length - 1=t.length:=by lia
     rw[e2]
     exact((hacc2.d7 cH s45).oF cH (bS (.inr rfl))).fB (cH.off (cH.same (cH.and plv hD2) s5) (bS (.inr rfl)))
   ·intro H3 acc2 s4 hD3 hacc2
    rw[lus,List.take_length] at hacc2
    intro x dx nx nd ne
    refine⟨x,dx,vb,.ref D2,rfl,ai,fun H4 k4 hx4=>⟨rfl,?_⟩⟩
    have s5:aJ H3 H4:=aJ.made nx nd k4
    exact kk _ _ ((s3.trans s4).trans s5) ⟨x,dx,vb,.ref D2,rfl,hx4,hbef.same (s4.trans s5),D2,acc2,rfl,fun z=>z,s5 _ _ hD3,(hacc2.HZ cH).d7 cH s5⟩
end
structure Txt3(mg:Str→Option Value):Prop extends Txt2 mg where
 gD:∃t,mg "NODE_VOLTAGE"=some (.int 0 t)
 pQ:∃t,mg "CURRENT"=some (.int 1 t)
 uL:∃t,mg "VOLTAGE"=some (.int 2 t)
def qQ(H:Hp)(Q:VK)(l:List Int):Prop:=∀z H',aJ H H'→cN H' z l→Q z H'
theorem qQ.of{H H1:Hp}{Q:VK}{l:List Int}(k:qQ H Q l)(s:aJ H H1):qQ H1 Q l:=fun z H' s' h=>k z H' (s.trans s') h
theorem qQ.new{H:Hp}{Q:VK}{l:List Int}(k:qQ H Q l):nE H Q l:=fun p H' _ s h=>k _ _ s ⟨p,rfl,h⟩
section
variable {P:Program}{w:World}{K:PySem.W.Frag}{mg:Str→Option Value}{base:Heap}{c:Cs}
abbrev qR:Stmt:=top 89
theorem Dr:aE ["solution","node"] ["solution","node"] (au qR):=sco rfl rfl rfl rfl (by decide +kernel)
def oU(c:Cs):Sp:=fun vs H Q _=>∃v s n,vs=[v,.int n]∧ng c H v s∧n≤s.2.length∧qQ H Q (ak.cz s n)
theorem Ds(O:cK K c)(G:dD K mg "node_top" qR ["solution","node"]):bo P w K mg base "node_top" ["solution","node"] 1 (oU c):=by
 have sc:=Dr
 refine G.eD sc (fun vs H Q E ⟨v,s,n,e,_⟩=>by rw[e];rfl) fun f cdv A outer s0 H vs Q E hr h=> ?_
 obtain⟨v,s,n,rfl,⟨a,dx,vd,vt,rfl,ha,hd,⟨ta,tv,rfl,_,hta,htv⟩⟩,hn,k⟩:=h
 refine⟨_,(aq (aD (iy (bf ve (pv 1) aA (aZ _)) (aK (dR K) (ax K (pv 0) rfl) (a9 iI (pv 1) aA) (fun _ _=>rfl)) (aN ah)))),?_⟩
 unfold ak.cz at k
 refine⟨_,rfl,_,_,rfl,rfl,_,rfl,?_⟩
 by_cases h0:0<n
 ·rw[if_pos h0] at k
  rw[decide_eq_true (show n>0 from h0)]
  obtain⟨u,hu,pu⟩:=htv.fP (az (d:=[]) (show(n - 1).toNat<s.2.length by lia))
  exact bx ⟨_,rfl,a,c.sol,dx,_,_,rfl,ha,O.sol.cl,O.sol.at_ 1 rfl,rfl,_,rfl,_,_,rfl,rfl,ta,_,_,_,rfl,rfl,.of hta,aG (j:=(n - 1).toNat) (by lia) hu,k _ _ (.refl _) pu.at_⟩
 ·rw[if_neg h0] at k
  rw[decide_eq_false (show ¬n>0 from h0)]
  exact bC ⟨Nat.zero_le _,fun p hp=>k _ _ (ay hp) ⟨p,rfl,ai⟩⟩
abbrev lB:Stmt:=top 90
theorem yd:aE ["setting","solution","k"] ["setting","solution","k"] (au lB):=sco rfl rfl rfl rfl (by decide +kernel)
def jF(c:Cs):Sp:=fun vs H Q _=>∃v u g s k,vs=[u,v,.int ((k:Nat):Int)]∧ng c H v s∧iE c H u g∧k<g.aO.af.length∧0≤(ak.places g.aO).getD k 0∧(ak.places g.aO).getD k 0<s.2.length∧qQ H Q (ak.gv g s k)
theorem ye(O:cK K c)(G:dD K mg "current_top" lB ["setting","solution","k"]):bo P w K mg base "current_top" ["setting","solution","k"] 1 (jF c):=by
 have sc:=yd
 refine G.eD sc (fun vs H Q E ⟨v,u,g,s,k,e,_⟩=>by rw[e];rfl) fun f cdv A outer s0 H vs Q E hr h=> ?_
 obtain⟨v,u,g,s,k,rfl,⟨a,dx,vd,vt,rfl,ha,hd,⟨ta,tv,rfl,_,hta,htv⟩⟩,⟨ga,gdx,gvn,gvs,gvst,gvd,gvp,rfl,hga,_,_,_,_,⟨la,rfl,hla⟩⟩,hk,h0,h1,kk⟩:=h
 refine⟨_,(aq (aD (aK (dR K) (ax K (pv 1) rfl) (aK (dR K) (ax K (pv 0) rfl) (pv 2) (fun _ _=>rfl)) (fun _ _=>rfl)))),?_⟩
 obtain⟨x,hx,px⟩:=htv.fP (az (d:=[]) (show((ak.places g.aO).getD k 0).toNat<s.2.length by lia))
 have hj:k<(ak.places g.aO).length:=by rw[places_len];exact hk
 exact⟨_,rfl,a,c.sol,dx,_,_,rfl,ha,O.sol.cl,O.sol.at_ 1 rfl,rfl,_,rfl,ga,c.dt,gdx,_,_,rfl,hga,O.dt.cl,O.dt.at_ 4 rfl,rfl,_,rfl,la,_,_,_,rfl,rfl,.of hla,aG (j:=k) rfl (cu hj),ta,_,_,_,rfl,rfl,.of hta,aG (j:=((ak.places g.aO).getD k 0).toNat) (by lia) hx,kk _ _ (.refl _) px.at_⟩
def qS(s:List Int×List (List Int)):Prop:=Short s.1∧∀l∈s.2,Short l
theorem yf{s:List Int×List (List Int)}(h:qS s)(n:Int):Short (ak.cz s n):=by
 unfold ak.cz
 split
 ·rw[gDe]
  cases e:s.2[(n - 1).toNat]? with
  |none=>show([]:List Int).length<_;simp
  |some l=>exact h.2 l (List.mem_of_getElem? e)
 ·show([]:List Int).length<_
  simp
abbrev hJ:Stmt:=top 92
theorem sG:aE ["solution","first","second"] ["solution","first","second"] (au hJ):=sco rfl rfl rfl rfl (by decide +kernel)
def km(c:Cs):Sp:=fun vs H Q _=>∃v s x y,vs=[v,.int x,.int y]∧ng c H v s∧qS s∧x≤s.2.length∧y≤s.2.length∧qQ H Q (ak.pB s x y)
theorem sH(fS:bo P w K mg base "node_top" ["solution","node"] 1 (oU c))(fq:bo P w K mg base "subtracted" ["left","right"] 3 kU)(G:dD K mg "difference_top" hJ ["solution","first","second"]):bo P w K mg base "difference_top" ["solution","first","second"] 4 (km c):=by
 have sc:=sG
 refine G.eD sc (fun vs H Q E ⟨v,s,x,y,e,_⟩=>by rw[e];rfl) fun f cdv A outer s0 H vs Q E hr h=> ?_
 obtain⟨v,s,x,y,rfl,hs,hsh,hx,hy,k⟩:=h
 refine⟨_,(aq (aD (aB fq (hr.mono (by decide)) rfl (aa (aB fS (hr.mono (by decide)) rfl (aa (pv 0) (aa (pv 1) ah))) (aa (aB fS (hr.mono (by decide)) rfl (aa (pv 0) (aa (pv 2) ah))) ah))))),?_⟩
 refine⟨_,rfl,_,rfl,_,s,x,rfl,hs,hx,fun z1 H1 s1 p1=> ?_⟩
 refine⟨_,rfl,_,rfl,_,s,y,rfl,hs.same s1,hy,fun z2 H2 s2 p2=> ?_⟩
 exact⟨_,_,_,_,rfl,p1.same s2,p2,yf hsh x,yf hsh y,(k.of (s1.trans s2)).new⟩
abbrev lC:Stmt:=top 91
theorem yg:aE ["setting","solution","k","part"] ["setting","solution","k"] (au lC):=sco rfl rfl rfl rfl (by decide +kernel)
def jG(c:Cs):Sp:=fun vs H Q _=>∃v u g s k,vs=[u,v,.int ((k:Nat):Int)]∧ng c H v s∧qS s∧iE c H u g∧k<g.aO.af.length∧(pat g k).a≤s.2.length∧(pat g k).b≤s.2.length∧qQ H Q (ak.gw g s k)
theorem yh(O:cK K c)(hR:bo P w K mg base "difference_top" ["solution","first","second"] 4 (km c))(G:dD K mg "voltage_top" lC ["setting","solution","k"]):bo P w K mg base "voltage_top" ["setting","solution","k"] 5 (jG c):=by
 have sc:=yg
 refine G.eD sc (fun vs H Q E ⟨v,u,g,s,k,e,_⟩=>by rw[e];rfl) fun f cdv A outer s0 H vs Q E hr h=> ?_
 obtain⟨v,u,g,s,k,rfl,hs,hsh,⟨ga,gdx,gvn,gvs,gvst,gvd,gvp,rfl,hga,⟨na,ndx,nvp,rfl,hna,pa,ws,rfl,hpa,hps⟩,_⟩,hk,h0,h1,kk⟩:=h
 refine⟨_,(aj (aH (i:=3) sc.nd rfl (by first|left;rfl|right;rfl) (aK (dR K) (ax K (ax K (pv 0) rfl) rfl) (pv 2) (fun _ _=>rfl)))
   (aq (aD (aB hR (hr.mono (by decide)) rfl (aa (pv 1) (aa (ax K (pv 3) rfl) (aa (ax K (pv 3) rfl) ah))))))),?_⟩
 obtain⟨x,hx,pb,pbx,rfl,hpb⟩:=hps.fP (az (d:=ak.p0) hk)
 refine⟨_,rfl,ga,c.dt,gdx,_,_,rfl,hga,O.dt.cl,O.dt.at_ 0 rfl,rfl,na,c.aO,ndx,_,_,rfl,hna,O.aO.cl,O.aO.at_ 1 rfl,rfl,_,rfl,pa,_,_,_,rfl,rfl,.of hpa,aG (j:=k) rfl hx,?_⟩
 exact⟨_,rfl,_,rfl,pb,c.part,pbx,_,_,rfl,hpb,O.part.cl,O.part.at_ 1 rfl,rfl,_,rfl,pb,c.part,pbx,_,_,rfl,hpb,O.part.cl,O.part.at_ 2 rfl,rfl,_,s,_,_,rfl,hs,hsh,h0,h1,kk⟩
abbrev jH:Stmt:=top 88
theorem vV:aE ["setting","solution","what","k"] ["setting","solution","what","k"] (au jH):=sco rfl rfl rfl rfl (by decide +kernel)
def JW(g:ak.gk)(s:List Int×List (List Int))(what k:Int):Prop:=(what=0→k≤s.2.length)∧(what≠0→0≤k∧k<g.aO.af.length∧0≤(ak.places g.aO).getD k.toNat 0∧(ak.places g.aO).getD k.toNat 0<s.2.length∧(pat g k.toNat).a≤s.2.length∧(pat g k.toNat).b≤s.2.length)
def nh(c:Cs):Sp:=fun vs H Q _=>∃v u g s what k,vs=[u,v,.int what,.int k]∧ng c H v s∧qS s∧iE c H u g∧JW g s what k∧qQ H Q (ak.fM g s what k)
theorem vW(T:Txt3 mg)(fS:bo P w K mg base "node_top" ["solution","node"] 1 (oU c))(eu:bo P w K mg base "current_top" ["setting","solution","k"] 1 (jF c))(eC:bo P w K mg base "voltage_top" ["setting","solution","k"] 5 (jG c))(G:dD K mg "quantity_top" jH ["setting","solution","what","k"]):bo P w K mg base "quantity_top" ["setting","solution","what","k"] 6 (nh c):=by
 have sc:=vV
 refine G.eD sc (fun vs H Q E ⟨v,u,g,s,what,k,e,_⟩=>by rw[e];rfl) fun f cdv A outer s0 H vs Q E hr h=> ?_
 obtain⟨v,u,g,s,what,k,rfl,hs,hsh,hg,⟨q0,q1⟩,kk⟩:=h
 refine⟨_,(aj (bJ (bf de (pv 2) (gc T.gD) (aZ _)) (aq (aD (aB fS (hr.mono (by decide)) rfl (aa (pv 1) (aa (pv 3) ah))))) aT)
   (aj (bJ (bf de (pv 2) (gc T.pQ) (aZ _)) (aq (aD (aB eu (hr.mono (by decide)) rfl (aa (pv 0) (aa (pv 1) (aa (pv 3) ah)))))) aT)
   (aq (aD (aB eC (hr.mono (by decide)) rfl (aa (pv 0) (aa (pv 1) (aa (pv 3) ah)))))))),?_⟩
 unfold ak.fM at kk
 refine⟨_,rfl,rfl,_,rfl,?_⟩
 rw[fE]
 by_cases h0:what=0
 ·rw[decide_eq_true h0]
  rw[if_pos h0] at kk
  exact bx ⟨_,rfl,_,rfl,_,s,k,rfl,hs,q0 h0,kk⟩
 ·rw[decide_eq_false h0]
  rw[if_neg h0] at kk
  obtain⟨k0,k1,k2,k3,k4,k5⟩:=q1 h0
  have ek:k=((k.toNat:Nat):Int):=by lia
  refine bC ⟨_,rfl,rfl,_,rfl,?_⟩
  rw[fE]
  by_cases h1:what=1
  ·rw[decide_eq_true h1]
   rw[if_pos h1] at kk
   exact bx ⟨_,rfl,_,rfl,_,rfl,_,_,g,s,k.toNat,by rw[←ek];rfl,hs,hg,by lia,k2,k3,kk⟩
  ·rw[decide_eq_false h1]
   rw[if_neg h1] at kk
   exact bC ⟨_,rfl,_,rfl,_,rfl,_,_,g,s,k.toNat,by rw[←ek];rfl,hs,hsh,hg,by lia,k4,k5,kk⟩
abbrev oV:Stmt:=top 58
theorem BN:aE ["network","k"] ["network","k"] (au oV):=sco rfl rfl rfl rfl (by decide +kernel)
def sI(c:Cs):Sp:=fun vs H Q _=>∃v n k,vs=[v,.int k]∧kf c H v n∧0≤k∧∀H',aJ H H'→Q (.bl (ak.gf n k)) H'
theorem Au{ps:List ak.Part}{k:Int}{p:ak.Part}(h:ps[k.toNat]? =some p):ak.kindAt ps k=p.kind:=by
 unfold ak.kindAt
 rw[gDe,h];rfl
theorem BO(T:Txt2 mg)(O:cK K c)(G:dD K mg "is_source" oV ["network","k"]):bo P w K mg base "is_source" ["network","k"] 1 (sI c):=by
 have sc:=BN
 refine G.eD sc (fun vs H Q E ⟨v,n,k,e,_⟩=>by rw[e];rfl) fun f cdv A outer s0 H vs Q E hr h=> ?_
 obtain⟨v,n,k,rfl,⟨na,ndx,nvp,rfl,hna,pa,ws,rfl,hpa,hps⟩,k0,kk⟩:=h
 have ll:=hps.length
 refine⟨_,(aq (aD (nS (bV Ci (pv 1) (aY (br K) rfl T.dz bb (aa (ax K (pv 0) rfl) ah)) (aZ _)) (nR (bV (wG K) (ax K (aK (dR K) (ax K (pv 0) rfl) (pv 1) (fun _ _=>rfl)) rfl) (bY (aa (gc T.g7) (aa (gc T.g8) ah))) (by with_unfolding_all rfl)))))),?_⟩
 unfold ak.gf at kk
 refine⟨_,rfl,_,rfl,na,c.aO,ndx,_,_,rfl,hna,O.aO.cl,O.aO.at_ 1 rfl,rfl,pa,_,rfl,.inl (.of hpa),_,_,rfl,rfl,_,rfl,?_⟩
 rw[ll]
 by_cases h1:k<(n.af.length:Int)
 ·rw[decide_eq_true h1] at kk⊢
  obtain⟨u,hu,pb,pbx,rfl,hpb⟩:=hps.fP (az (d:=ak.p0) (show k.toNat<n.af.length by lia))
  refine bx ⟨_,rfl,na,c.aO,ndx,_,_,rfl,hna,O.aO.cl,O.aO.at_ 1 rfl,rfl,_,rfl,pa,_,_,_,rfl,rfl,.of hpa,aG (j:=k.toNat) (by lia) hu,pb,c.part,pbx,_,_,rfl,hpb,O.part.cl,O.part.at_ 0 rfl,rfl,aw (by simp),fun p hp=>⟨p,_,rfl,.inr (.of ai),rfl,rfl,?_⟩⟩
  show Q (.bl (DN (.int (n.af.getD k.toNat ak.p0).kind) [.int 4,.int 5])) _
  rw[K9]
  have:=kk _ (ay (o:= .tup [.int 4,.int 5]) hp)
  rw[Bool.true_and,Au (az (d:=ak.p0) (show k.toNat<n.af.length by lia))] at this
  exact this
 ·rw[decide_eq_false h1] at kk⊢
  exact bC (kk _ (.refl _))
abbrev fg:Stmt:=top 87
theorem nH:aE ["network","what","k"] ["network","what","k"] (au fg):=sco rfl rfl rfl rfl (by decide +kernel)
def gU(c:Cs):Sp:=fun vs H Q _=>∃v n what k,vs=[v,.int what,.int k]∧kf c H v n∧0≤k∧∀H',aJ H H'→Q (.bl (ak.fC n what k)) H'
theorem nI(T:Txt3 mg)(O:cK K c)(G:dD K mg "is_linear_quantity" fg ["network","what","k"]):bo P w K mg base "is_linear_quantity" ["network","what","k"] 1 (gU c):=by
 have sc:=nH
 refine G.eD sc (fun vs H Q E ⟨v,n,what,k,e,_⟩=>by rw[e];rfl) fun f cdv A outer s0 H vs Q E hr h=> ?_
 obtain⟨v,n,what,k,rfl,⟨na,ndx,nvp,rfl,hna,pa,ws,rfl,hpa,hps⟩,k0,kk⟩:=h
 have ll:=hps.length
 refine⟨_,(aj (bJ (bf de (pv 1) (gc T.gD) (aZ _)) (aq (aD (bV jd (pv 2) (ax K (pv 0) rfl) (aZ _)))) aT)
   (aj (bJ (bf (wG K) (pv 1) (bY (aa (gc T.pQ) (aa (gc T.uL) ah))) (by with_unfolding_all rfl)) (aq (aD (nS (bV Ci (pv 2) (aY (br K) rfl T.dz bb (aa (ax K (pv 0) rfl) ah)) (aZ _)) (nR (bV vc (ax K (aK (dR K) (ax K (pv 0) rfl) (pv 2) (fun _ _=>rfl)) rfl) (gc T.dw) (aZ _)))))) aT)
   (aq (aD mZ)))),?_⟩
 unfold ak.fC at kk
 refine⟨_,rfl,rfl,_,rfl,?_⟩
 rw[fE]
 by_cases h0:what=0
 ·rw[decide_eq_true h0]
  rw[if_pos h0] at kk
  exact bx ⟨_,rfl,_,rfl,na,c.aO,ndx,_,_,rfl,hna,O.aO.cl,O.aO.at_ 0 rfl,rfl,_,_,rfl,rfl,kk _ (.refl _)⟩
 ·rw[decide_eq_false h0]
  rw[if_neg h0] at kk
  refine bC ⟨_,rfl,aw (by simp),fun p hp=>⟨p,_,rfl,.inr (.of ai),rfl,rfl,_,rfl,?_⟩⟩
  show if(DN (.int what) [.int 1,.int 2])=true then _ else _
  rw[K9]
  have s1:=ay (o:= .tup [.int 1,.int 2]) hp
  by_cases h1:what=1∨what=2
  ·rw[decide_eq_true h1]
   rw[if_pos h1] at kk
   have hna1:=s1 _ _ hna
   have hpa1:=s1 _ _ hpa
   refine bx ⟨_,rfl,_,rfl,na,c.aO,ndx,_,_,rfl,hna1,O.aO.cl,O.aO.at_ 1 rfl,rfl,pa,_,rfl,.inl (.of hpa1),_,_,rfl,rfl,_,rfl,?_⟩
   rw[ll]
   by_cases h2:k<(n.af.length:Int)
   ·rw[decide_eq_true h2] at kk⊢
    obtain⟨u,hu,pb,pbx,rfl,hpb⟩:=hps.fP (az (d:=ak.p0) (show k.toNat<n.af.length by lia))
    refine bx ⟨_,rfl,na,c.aO,ndx,_,_,rfl,hna1,O.aO.cl,O.aO.at_ 1 rfl,rfl,_,rfl,pa,_,_,_,rfl,rfl,.of hpa1,aG (j:=k.toNat) (by lia) hu,pb,c.part,pbx,_,_,rfl,s1 _ _ hpb,O.part.cl,O.part.at_ 0 rfl,rfl,rfl,?_⟩
    rw[fE]
    have:=kk _ s1
    rw[Bool.true_and,Au (az (d:=ak.p0) (show k.toNat<n.af.length by lia))] at this
    have e:(!decide ((n.af.getD k.toNat ak.p0).kind=3))=decide ((n.af.getD k.toNat ak.p0).kind≠3):=by simp
    rw[e]
    exact this
   ·rw[decide_eq_false h2] at kk⊢
    exact bC (kk _ s1)
  ·rw[decide_eq_false h1]
   rw[if_neg h1] at kk
   exact bC (kk _ s1)
end
def JX(H:Hp):V→Int×Int→Prop:=fun u x=>∃t,u= .ref t∧H t=some (.tup [.int x.1,.int x.2])
theorem JX.same{H H':Hp}{v:V}{x:Int×Int}(h:JX H v x)(s:aJ H H'):JX H' v x:=let ⟨t,e,q⟩:=h;⟨t,e,s _ _ q⟩
theorem JX.over{H:Hp}{v:V}{x:Int×Int}{D:Addr}{vs us:List V}(h:JX H v x)(hD:H D=some (.lst vs)):JX (upd H D (.lst us)) v x:=let ⟨t,e,q⟩:=h;⟨t,e,by rw[aR (B9 q hD (by intro z;cases z))];exact q⟩
section
variable {P:Program}{w:World}{K:PySem.W.Frag}{mg:Str→Option Value}{base:Heap}{c:Cs}
abbrev ft:Stmt:=top 59
theorem sJ:aE ["network","states","source","drives","k"] ["network","states","source"] (au ft):=sco rfl rfl rfl rfl (by decide +kernel)
def kn(c:Cs):Sp:=fun vs H Q _=>∃v u n st src,vs=[v,u,.int src]∧kf c H v n∧r9 H u st∧n.af.length≤1000∧∀z H',aJ H H'→iE c H' z (ak.bN n st src)→Q z H'
theorem sL(T:Txt2 mg)(O:cK K c)(jc:EZ P w K mg base "Setting" c.dt ["self","network","s","states","drives"] 3 (oR c))(G:dD K mg "driven_setting" ft ["network","states","source"]):bo P w K mg base "driven_setting" ["network","states","source"] 5 (kn c):=by
 have sc:=sJ
 refine G.eD sc (fun vs H Q E ⟨v,u,n,st,src,e,_⟩=>by rw[e];rfl) fun f cdv A outer s H vs Q E hr h=> ?_
 obtain⟨v,u,n,st,src,rfl,hn,hst,hl,kk⟩:=h
 obtain⟨na,ndx,nvp,rfl,hna,pa,ws,rfl,hpa,hps⟩:=id hn
 have ll:=hps.length
 refine⟨_,(aj (oa (i:=3) rfl sc.nd rfl rfl (rM rfl rfl rfl rfl) (i8 rfl T.fJ (aa (aY (br K) rfl T.dz bb (aa (ax K (pv 0) rfl) ah)) ah)) (cf (own:=[("k",4)]) (by show lM ["network","states","source","drives","k"] (au ft) _ _=true;decide +kernel)) (fun _ _ _ _ _=>(aQ (i:=4) sc.nd rfl (Or.inl rfl))) (fun _ _ _ _ _=>dC) (fun _ _ _ _ _=>(iy (bf de (pv 4) (pv 2) (aZ _)) (bY (aa aA (aa aA ah))) (bY (aa aA (aa aA ah))))))
   (aq (aD (qj jc (hr.mono (by decide)) rfl (aa (pv 0) (aa (aN (aa aA (aa aA ah))) (aa (pv 1) (aa (pv 3) ah)))))))),?_⟩
 refine⟨_,rfl,na,c.aO,ndx,_,_,rfl,hna,O.aO.cl,O.aO.at_ 1 rfl,rfl,pa,_,rfl,.inl (.of hpa),_,rfl,by lia,by lia,fun D hD=>ny (iz H 0 _) hD (fun i H' acc=>Paired (JX H') acc (((List.range n.af.length).map fun(k:Nat)=>if(k:Int)=src then((1:Int),(1:Int)) else(0,1)).take i)) .nil ?_ ?_⟩
 ·rintro i x H1 H2 acc hi s1 hD1 hacc s2 s12 hD2 rfl
  have hi2:i<n.af.length:=by lia
  have la:=hacc.length
  rw[List.length_take] at la
  have et:((List.range n.af.length).map fun(k:Nat)=>if(k:Int)=src then((1:Int),(1:Int)) else(0,1)).take (i+1)=((List.range n.af.length).map fun(k:Nat)=>if(k:Int)=src then((1:Int),(1:Int)) else(0,1)).take i ++ [if(i:Int)=src then((1:Int),(1:Int)) else(0,1)]:=by
   rw[List.take_add_one,List.getElem?_map,List.getElem?_range hi2];rfl
  refine⟨rfl,⟨_,rfl,_,rfl,rfl,_,rfl,?_⟩⟩
  rw[fE,Int.zero_add]
  by_cases e:(i:Int)=src
  ·rw[decide_eq_true e]
   rw[if_pos e] at et
   refine bx ⟨aw (by simp),fun p hp=> ?_⟩
   have s3:=ay (o:= .tup [.int 1,.int 1]) hp
   refine dE hD (s2.trans s3) (s3 _ _ hD2) (aL (by lia)) ?_
   rw[et]
   exact(hacc.dA fun _ _ q=>(q.same (s12.trans s3)).over (s3 _ _ hD2)).fB (JX.over ⟨p,rfl,ai⟩ (s3 _ _ hD2))
  ·rw[decide_eq_false e]
   rw[if_neg e] at et
   refine bC ⟨aw (by simp),fun p hp=> ?_⟩
   have s3:=ay (o:= .tup [.int 0,.int 1]) hp
   refine dE hD (s2.trans s3) (s3 _ _ hD2) (aL (by lia)) ?_
   rw[et]
   exact(hacc.dA fun _ _ q=>(q.same (s12.trans s3)).over (s3 _ _ hD2)).fB (JX.over ⟨p,rfl,ai⟩ (s3 _ _ hD2))
 ·intro H1 acc s1 hD1 hacc
  rw[List.take_of_length_le (by simp;lia)] at hacc
  refine⟨_,rfl,aw (by simp),fun q hq=> ?_⟩
  have s2:=ay (o:= .lst [.int 0,.int 1]) hq
  refine⟨_,rfl,_,rfl,fun x dx nx nd ne=> ?_⟩
  have s3:=s1.trans s2
  refine⟨_,x,dx,_,_,_,_,ak.bN n st src,rfl,ai,aJ.made nx nd (fun b o h _=>h),nx,hn.same s3,⟨q,rfl,ai⟩,hst.same s3,⟨D,acc,rfl,s2 _ _ hD1,hacc.dA fun _ _ z=>z.same s2⟩,hl,fun H4 s4 hz=>⟨rfl,kk _ _ (s3.trans s4) hz⟩⟩
end
def MU:Rp (List Bool):=fun S H v l=>∃a,v= .ref a∧¬S a∧H a=some (.lst (l.map V.bl))
theorem qk:Good MU where
 off:=fun⟨a,e,hs,h⟩ o=>⟨a,e,hs,o a _ hs h⟩
 ue:=fun⟨a,e,hs,h⟩ w=>⟨a,e,(fun q=>(w a q).elim hs fun z=>(by rw[h] at z;cases z)),h⟩
abbrev PN:Rp (List (List Bool)):=Hq MU
theorem MU.at_{S:Addr→Prop}{H:Hp}{v:V}{l:List Bool}(h:MU S H v l):r9 H v l:=let ⟨a,e,_,q⟩:=h;⟨a,e,q⟩
def iQ(p:ak.Part)(rs:List (List Bool)):List (List Bool):=rs.flatMap fun row=>if p.kind=13 then[row ++ [false],row ++ [true]] else[row ++ [false]]
theorem ql:∀(l:List ak.Part) (p:ak.Part) (rs:List (List Bool)),ak.bg (l ++ [p]) rs=iQ p (ak.bg l rs)
 |[],p,rs=>rfl
 |q::l,p,rs=>ql l p _
theorem vI(p:ak.Part)(rs:List (List Bool))(r:List Bool):iQ p (rs ++ [r])=iQ p rs ++ (if p.kind=13 then[r ++ [false],r ++ [true]] else[r ++ [false]]):=by
 unfold iQ
 rw[List.flatMap_append]
 simp
theorem qT(p:ak.Part):∀rs:List (List Bool),(iQ p rs).length≤2*rs.length
 |[]=>Nat.le_refl _
 |r::rs=>by
  have:=qT p rs
  have e:iQ p (r::rs)=(if p.kind=13 then[r ++ [false],r ++ [true]] else[r ++ [false]]) ++ iQ p rs:=by
   unfold iQ
   rw[List.flatMap_cons]
  have l2:(if p.kind=13 then[r ++ [false],r ++ [true]] else[r ++ [false]]).length≤2:=by split <;>simp
  rw[e,List.length_append,List.length_cons]
  lia
theorem Ff(p:ak.Part)(m:Nat)(rs:List (List Bool))(h:∀r∈rs,r.length=m):∀r∈iQ p rs,r.length=m+1:=fun r hr=>by
 obtain⟨q,hq,e⟩:=List.mem_flatMap.mp hr
 have:=h q hq
 split at e
 ·rcases List.mem_cons.mp e with rfl |e
  ·simp[this]
  ·rw[List.mem_singleton.mp e];simp[this]
 ·rw[List.mem_singleton.mp e];simp[this]
theorem sM:∀(l:List ak.Part) (m:Nat) (rs:List (List Bool)),(∀r∈rs,r.length=m)→∀r∈ak.bg l rs,r.length=m+l.length
 |[],m,rs,h,r,hr=>h r hr
 |p::l,m,rs,h,r,hr=>by
  have:=sM l (m+1) _ (Ff p m rs h) r hr
  rw[this,List.length_cons];lia
theorem sN:∀(l:List ak.Part) (rs:List (List Bool)),(ak.bg l rs).length≤2^l.length*rs.length
 |[],rs=>by simp[ak.bg]
 |p::l,rs=>by
  have h1:=sN l (iQ p rs)
  have h2:=qT p rs
  refine Nat.le_trans h1 (Nat.le_trans (Nat.mul_le_mul_left _ h2) ?_)
  rw[List.length_cons,Nat.pow_succ,Nat.mul_assoc]
  exact Nat.le_refl _
theorem Dt{n:Nat}(h:n≤10):2^n≤1024:=Nat.pow_le_pow_right (n:=2) (by decide) h
section
variable {P:Program}{w:World}{K:PySem.W.Frag}{mg:Str→Option Value}{base:Heap}{c:Cs}
abbrev hU:Stmt:=top 102
theorem sO:aE ["parts","rows","part","longer","row"] ["parts"] (au hU):=sco rfl rfl rfl rfl (by decide +kernel)
def ko(c:Cs):Sp:=fun vs H Q _=>∃v ps,vs=[v]∧i6 c H v ps∧ps.length≤10∧∀z H',aJ H H'→PN FF H' z (ak.bg ps [[]])→Q z H'
theorem sP(T:Txt2 mg)(O:cK K c)(G:dD K mg "rows_of_states" hU ["parts"]):bo P w K mg base "rows_of_states" ["parts"] 1 (ko c):=by
 have sc:=sO
 refine G.eD sc (fun vs H Q E ⟨v,ps,e,_⟩=>by rw[e];rfl) fun f cdv A outer s H vs Q E hr h=> ?_
 obtain⟨v,ps,rfl,⟨pa,ws,rfl,hpa,hps⟩,hl,kk⟩:=h
 have ll:=hps.length
 refine⟨_,(aj (aH (i:=1) sc.nd rfl (by first|left;rfl|right;rfl) (aN (aa (aN ah) ah)))
   (aj (cX PassesOwn.never rfl (cw (pv 0)) (aQ (i:=2) sc.nd rfl (Or.inl rfl)) (aj (aH (i:=3) sc.nd rfl (by first|left;rfl|right;rfl) (aN ah))
   (aj (cX PassesOwn.never rfl (cw (pv 1)) (aQ (i:=4) sc.nd rfl (Or.inl rfl)) (aj (eO (j3 PySem.F.plainAttrs_list PySem.F.slot_list_append PySem.F.type_list_append c7 (pv 3) (aa (a9 nX (pv 4) (aN (aa mZ ah))) ah)))
   (aq (bJ (bf de (ax K (pv 2) rfl) (gc T.pO) (aZ _)) (aq (eO (j3 PySem.F.plainAttrs_list PySem.F.slot_list_append PySem.F.type_list_append c7 (pv 3) (aa (a9 nX (pv 4) (aN (aa mZ ah))) ah)))) aT))))
   (aq (aH (i:=1) sc.nd rfl (by first|left;rfl|right;rfl) (pv 3))))))
   (aq (aD (pv 1))))),?_⟩
 refine⟨aw (by simp),fun q hq=> ?_⟩
 have s1:=ay (o:= .lst []) hq
 refine⟨aw (by simp),fun r hr'=> ?_⟩
 have s2:=s1.trans (ay (o:= .lst [.ref q]) hr')
 have hqr:q≠r:=fun e=>by rw[←e,ai] at hr';cases hr'
 have lim:∀i,i≤ps.length→(ak.bg (ps.take i) [[]]).length≤1024:=fun i hi=>by
  have:=sN (ps.take i) [[]]
  have h2:=Dt (n:=(ps.take i).length) (by rw[List.length_take];lia)
  simp only[List.length_cons,List.length_nil,Nat.zero_add,Nat.mul_one] at this
  lia
 refine⟨_,rfl,pa,rfl,⟨_,.of (s2 _ _ hpa)⟩,fA (cy (K:=K) (.of hpa)) (fun i σ H'=>∃p us x2 x3 x4,σ=[some (.ref pa),some (.ref p),x2,x3,x4]∧aJ H H'∧H p=none∧H' p=some (.lst us)∧Paired (MU FF H') us (ak.bg (ps.take i) [[]])) ?_ (fun i σ H' ⟨_,_,_,_,_,_,s,_⟩=>s) ?_ ?_⟩
 ·refine⟨r,_,none,none,none,rfl,s2,s1.free hr',ai,.cons ⟨q,rfl,fun z=>z,?_⟩ .nil⟩
  rw[aR hqr,ai];rfl
 ·rintro i x σ H1 H2 hi ⟨p,us,x2,x3,x4,rfl,s3,pH,hp1,hus⟩ s4 s12 hx
  obtain⟨pt,hpt,pr⟩:=hps.iL hx
  have hi2:i<ps.length:=by lia
  have hp2:=s12 _ _ hp1
  have hus2:=hus.d7 qk s12
  have lu:=hus.length
  have li:=lim i (by lia)
  have hrow:∀r∈ak.bg (ps.take i) [[]],r.length≤1000:=fun r hr=>by
   have:=sM (ps.take i) 0 [[]] (by simp) r hr
   rw[List.length_take] at this;lia
  refine⟨Nat.zero_le _,fun l hl'=> ?_⟩
  have s5:=ay (o:= .lst []) hl'
  refine⟨_,rfl,p,rfl,⟨_,.of (s5 _ _ hp2)⟩,fA (cy (K:=K) (.of hp2)) (fun j σ H'=>∃y4 ls,σ=[some (.ref pa),some (.ref p),some x,some (.ref l),y4]∧aJ H2 H'∧H' l=some (.lst ls)∧Paired (MU (bZ FF l) H') ls (iQ pt ((ak.bg (ps.take i) [[]]).take j))) ?_ (fun i σ H' ⟨_,_,_,s,_⟩=>s) ?_ ?_⟩
  ·exact⟨_,[],rfl,s5,ai,.nil⟩
  ·rintro j y σ H3 H4 hj ⟨y4,ls,rfl,s6,hl3,hls⟩ s7 s34 hy
   obtain⟨row,hrw,ra,rfl,_,hra⟩:=hus2.iL hy
   have hl4:=s34 _ _ hl3
   have hra4:=s7 _ _ hra
   have lrow:=hrow row (List.mem_of_getElem? hrw)
   have lls:=hls.length
   have lst:=qT pt ((ak.bg (ps.take i) [[]]).take j)
   rw[List.length_take] at lst
   have et:(ak.bg (ps.take i) [[]]).take (j+1)=(ak.bg (ps.take i) [[]]).take j ++ [row]:=by
    rw[List.take_add_one,hrw];rfl
   obtain⟨pb,pbx,rfl,hpb⟩:=pr.same (s4.trans s7)
   refine⟨_,rfl,.inl ⟨rfl,_,.of hl4⟩,_,rfl,aw (by simp),fun m1 hm1=> ?_⟩
   have s8:=ay (o:= .lst [.bl false]) hm1
   refine⟨ra,m1,_,_,rfl,rfl,s8 _ _ hra4,ai,aw (by simp;lia),fun m2 hm2=> ?_⟩
   have s9:=s8.trans (ay (o:= .lst (row.map V.bl ++ [.bl false])) hm2)
   have hl5:=s9 _ _ hl4
   have nm2:¬bZ FF l m2:=fun h=>h.elim (fun z=>z) (fun e=>by rw[e,s8 _ _ hl4] at hm2;cases hm2)
   refine⟨l,_,_,rfl,rfl,hl5,aL (by lia),?_⟩
   have s10:=(s7.trans s9).over (o:= .lst (ls ++ [.ref m2])) hl'
   have hB:Paired (MU (bZ FF l) (upd (upd (upd H4 m1 (.lst [.bl false])) m2 (.lst (row.map V.bl ++ [.bl false]))) l (.lst (ls ++ [.ref m2])))) (ls ++ [.ref m2]) (iQ pt ((ak.bg (ps.take i) [[]]).take j) ++ [row ++ [false]]):=by
    refine((hls.d7 qk (s34.trans s9)).oF qk (bS (.inr rfl))).fB (qk.off ⟨m2,rfl,nm2,?_⟩ (bS (.inr rfl)))
    rw[ai,List.map_append];rfl
   have hl6:(upd (upd (upd H4 m1 (.lst [.bl false])) m2 (.lst (row.map V.bl ++ [.bl false]))) l (.lst (ls ++ [.ref m2]))) l=some (.lst (ls ++ [.ref m2])):=ai
   have hpb5:(upd (upd (upd H4 m1 (.lst [.bl false])) m2 (.lst (row.map V.bl ++ [.bl false]))) l (.lst (ls ++ [.ref m2]))) pb=some (.ins c.part pbx (JK pt)):=by
    rw[aR (B9 (s9 _ _ hpb) hl5 (by intro z;cases z))]
    exact s9 _ _ hpb
   generalize upd (upd (upd H4 m1 (.lst [.bl false])) m2 (.lst (row.map V.bl ++ [.bl false]))) l (.lst (ls ++ [.ref m2]))=H5 at s10 hB hl6 hpb5
   refine⟨_,rfl,pb,c.part,pbx,_,_,rfl,hpb5,O.part.cl,O.part.at_ 0 rfl,rfl,rfl,_,rfl,?_⟩
   rw[fE]
   by_cases h13:pt.kind=13
   ·rw[decide_eq_true h13]
    have hra5:=s10 _ _ hra
    refine bx ⟨_,rfl,.inl ⟨rfl,_,.of hl6⟩,_,rfl,aw (by simp),fun m3 hm3=> ?_⟩
    have s11:=ay (o:= .lst [.bl true]) hm3
    refine⟨ra,m3,_,_,rfl,rfl,s11 _ _ hra5,ai,aw (by simp;lia),fun m4 hm4=> ?_⟩
    have s12':=s11.trans (ay (o:= .lst (row.map V.bl ++ [.bl true])) hm4)
    have hl7:=s12' _ _ hl6
    have nm4:¬bZ FF l m4:=fun h=>h.elim (fun z=>z) (fun e=>by rw[e,s11 _ _ hl6] at hm4;cases hm4)
    refine⟨l,_,_,rfl,rfl,hl7,aL (by simp;lia),_,_,rfl,(s10.trans s12').over hl',ai,?_⟩
    rw[et,vI,if_pos h13,List.append_cons _ _ [_]]
    refine((hB.d7 qk s12').oF qk (bS (.inr rfl))).fB (qk.off ⟨m4,rfl,nm4,?_⟩ (bS (.inr rfl)))
    rw[ai,List.map_append];rfl
   ·rw[decide_eq_false h13]
    refine bC ⟨_,_,rfl,s10,hl6,?_⟩
    rw[et,vI,if_neg h13]
    exact hB
  ·rintro σ H3 ⟨y4,ls,rfl,s6,hl3,hls⟩
   rw[lu,List.take_length] at hls
   refine⟨_,rfl,l,ls,_,_,_,rfl,s4.trans s6,s4.free hl',hl3,?_⟩
   rw[List.take_add_one,hpt]
   show Paired _ _ (ak.bg (ps.take i ++ [pt]) [[]])
   rw[ql]
   exact hls.HZ qk
 ·rintro σ H1 ⟨p,us,x2,x3,x4,rfl,s3,pH,hp1,hus⟩
  rw[ll,List.take_length] at hus
  exact⟨_,rfl,kk _ _ s3 ⟨p,us,rfl,fun z=>z,hp1,hus⟩⟩
end
theorem Sz.prod{a b:Int}{m n:Nat}(ha:Sz m a)(hb:Sz n b):Sz (m+n) (a*b):=by
 unfold Sz at *
 rw[Int.natAbs_mul,Nat.pow_add]
 exact Nat.mul_lt_mul'' ha hb
theorem PQ{p:Nat→Bool}{i:Nat}(h:p i=true):[i].filter p=[i]:=by simp[h]
theorem PR{p:Nat→Bool}{i:Nat}(h:p i=false):[i].filter p=[]:=by simp[h]
structure JY(g:ak.gk)(s:List Int×List (List Int))(k:Nat):Prop where
 kl:k<g.aO.af.length
 st:g.cQ.length=g.aO.af.length
 p0:0≤(ak.places g.aO).getD k 0
 p1:(ak.places g.aO).getD k 0<s.2.length
 a:(pat g k).a≤s.2.length
 b:(pat g k).b≤s.2.length
 sh:qS s
 zd:Sz 8000 (ak.bF s.1)
 zc:Sz 8000 (ak.bF (ak.gv g s k))
 zv:Sz 8000 (ak.bF (ak.gw g s k))
 zt:Sz 64 (pat g k).top
 zb:Sz 64 (pat g k).aC
section
variable {P:Program}{w:World}{K:PySem.W.Frag}{mg:Str→Option Value}{base:Heap}{c:Cs}
abbrev jI:Stmt:=top 104
theorem vX:aE ["setting","solution","k","part","determinant","voltage"] ["setting","solution","k"] (au jI):=sco rfl rfl rfl rfl (by decide +kernel)
def nj(c:Cs):Sp:=fun vs H Q _=>∃v u g s k,vs=[u,v,.int ((k:Nat):Int)]∧ng c H v s∧iE c H u g∧JY g s k∧∀H',aJ H H'→Q (.bl (ak.qB g s k)) H'
theorem vY(O:cK K c)(fF:bo P w K mg base "constant_of" ["polynomial"] 1 oC)(eu:bo P w K mg base "current_top" ["setting","solution","k"] 1 (jF c))(eC:bo P w K mg base "voltage_top" ["setting","solution","k"] 5 (jG c))(G:dD K mg "diode_agrees" jI ["setting","solution","k"]):bo P w K mg base "diode_agrees" ["setting","solution","k"] 6 (nj c):=by
 have sc:=vX
 refine G.eD sc (fun vs H Q E ⟨v,u,g,s,k,e,_⟩=>by rw[e];rfl) fun f cdv A outer s0 H vs Q E hr h=> ?_
 obtain⟨v,u,g,s,k,rfl,hs,hg,ok,kk⟩:=h
 obtain⟨sa,sdx,vd,vt,rfl,hsa,hd,_⟩:=id hs
 obtain⟨ga,gdx,gvn,gvs,gvst,gvd,gvp,rfl,hga,⟨na,ndx,nvp,rfl,hna,pa,ws,rfl,hpa,hps⟩,_,⟨sta,rfl,hsta⟩,_,_⟩:=id hg
 refine⟨_,(aj (aH (i:=3) sc.nd rfl (by first|left;rfl|right;rfl) (aK (dR K) (ax K (ax K (pv 0) rfl) rfl) (pv 2) (fun _ _=>rfl)))
   (aj (aH (i:=4) sc.nd rfl (by first|left;rfl|right;rfl) (aB fF (hr.mono (by decide)) rfl (aa (ax K (pv 1) rfl) ah)))
   (aj (bJ (bA K (aK (dR K) (ax K (pv 0) rfl) (pv 2) (fun _ _=>rfl)) (fun _=>rfl)) (aq (aD (bV Lw (a9 bW (aB fF (hr.mono (by decide)) rfl (aa (aB eu (hr.mono (by decide)) rfl (aa (pv 0) (aa (pv 1) (aa (pv 2) ah)))) ah)) (pv 4)) aA (aZ _)))) aT)
   (aj (aH (i:=5) sc.nd rfl (by first|left;rfl|right;rfl) (aB fF (hr.mono (by decide)) rfl (aa (aB eC (hr.mono (by decide)) rfl (aa (pv 0) (aa (pv 1) (aa (pv 2) ah)))) ah)))
   (aq (aD (bV jd (a9 bW (a9 bW (pv 5) (pv 4)) (ax K (pv 3) rfl)) (a9 bW (a9 bW (ax K (pv 3) rfl) (pv 4)) (pv 4)) (aZ _)))))))),?_⟩
 obtain⟨x,hx,pb,pbx,rfl,hpb⟩:=hps.fP (az (d:=ak.p0) ok.kl)
 have hb:(g.cQ.map V.bl)[k]? =some (V.bl (g.cQ.getD k false)):=by
  rw[List.getElem?_map,az (d:=false) (by have:=ok.st;have:=ok.kl;lia)];rfl
 unfold ak.qB at kk
 refine⟨_,rfl,ga,c.dt,gdx,_,_,rfl,hga,O.dt.cl,O.dt.at_ 0 rfl,rfl,na,c.aO,ndx,_,_,rfl,hna,O.aO.cl,O.aO.at_ 1 rfl,rfl,_,rfl,pa,_,_,_,rfl,rfl,.of hpa,aG (j:=k) rfl hx,?_⟩
 refine⟨_,rfl,sa,c.sol,sdx,_,_,rfl,hsa,O.sol.cl,O.sol.at_ 0 rfl,rfl,_,_,rfl,hd,?_⟩
 refine⟨_,rfl,ga,c.dt,gdx,_,_,rfl,hga,O.dt.cl,O.dt.at_ 2 rfl,rfl,_,rfl,sta,_,_,_,rfl,rfl,.of hsta,aG (j:=k) rfl hb,_,rfl,?_⟩
 by_cases h1:g.cQ.getD k false=true
 ·rw[h1]
  simp only[h1,if_true] at kk
  refine bx ⟨_,rfl,_,rfl,_,rfl,_,_,g,s,k,rfl,hs,hg,ok.kl,ok.p0,ok.p1,fun z H1 s1 pz=> ?_⟩
  exact⟨_,_,rfl,pz,_,rfl,_,_,rfl,rfl,ok.zc.mul ok.zd (by decide),_,_,rfl,rfl,kk _ s1⟩
 ·have h2:g.cQ.getD k false=false:=by simpa using h1
  rw[h2]
  simp only[h2,if_false,Bool.false_eq_true] at kk
  refine bC ⟨_,rfl,_,rfl,_,rfl,_,_,g,s,k,rfl,hs,ok.sh,hg,ok.kl,ok.a,ok.b,fun z H1 s1 pz=> ?_⟩
  refine⟨_,_,rfl,pz,?_⟩
  have hpb1:=s1 _ _ hpb
  exact⟨_,rfl,_,rfl,_,_,rfl,rfl,ok.zv.mul ok.zd (by decide),_,rfl,pb,c.part,pbx,_,_,rfl,hpb1,O.part.cl,O.part.at_ 6 rfl,rfl,_,_,rfl,rfl,(ok.zv.prod ok.zd).mul ok.zb (by decide),_,rfl,pb,c.part,pbx,_,_,rfl,hpb1,O.part.cl,O.part.at_ 5 rfl,rfl,_,rfl,_,_,rfl,rfl,ok.zt.mul ok.zd (by decide),_,rfl,_,_,rfl,rfl,(ok.zt.prod ok.zd).mul ok.zd (by decide),_,_,rfl,rfl,kk _ s1⟩
abbrev dX:Stmt:=top 103
theorem pX:aE ["setting","solution","parts","k"] ["setting","solution"] (au dX):=sco rfl rfl rfl rfl (by decide +kernel)
def iW(c:Cs):Sp:=fun vs H Q _=>∃v u g s,vs=[u,v]∧ng c H v s∧iE c H u g∧g.aO.af.length≤1000∧(∀k,k<g.aO.af.length→(pat g k).kind=13→JY g s k)∧∀H',aJ H H'→Q (.bl (ak.eX g s)) H'
theorem pY(T:Txt2 mg)(O:cK K c)(jJ:bo P w K mg base "diode_agrees" ["setting","solution","k"] 6 (nj c))(G:dD K mg "all_diodes_agree" dX ["setting","solution"]):bo P w K mg base "all_diodes_agree" ["setting","solution"] 7 (iW c):=by
 have sc:=pX
 refine G.eD sc (fun vs H Q E ⟨v,u,g,s,e,_⟩=>by rw[e];rfl) fun f cdv A outer s0 H vs Q E hr h=> ?_
 obtain⟨v,u,g,s,rfl,hs,hg,hl,ok,kk⟩:=h
 obtain⟨ga,gdx,gvn,gvs,gvst,gvd,gvp,rfl,hga,⟨na,ndx,nvp,rfl,hna,pa,ws,rfl,hpa,hps⟩,_⟩:=id hg
 have ll:=hps.length
 refine⟨_,(aj (aH (i:=2) sc.nd rfl (by first|left;rfl|right;rfl) (ax K (ax K (pv 0) rfl) rfl))
   (aq (aD (aY (AX K rfl) rfl T.Df qx (aa (lL rfl sc.nd (i8 rfl T.fJ (aa (aY (br K) rfl T.dz bb (aa (pv 2) ah)) ah)) (cf (own:=[("k",3)]) (by show lM ["setting","solution","parts","k"] (au dX) _ _=true;decide +kernel)) (fun _ _ _ _ _=>(aQ (i:=3) sc.nd rfl (Or.inl rfl))) (fun _ _ _ _ _=>(FL (bf de (ax K (aK (dR K) (pv 2) (pv 3) (fun _ _=>rfl)) rfl) (gc T.pO) (aZ _)))) (fun _ _ _ _ _=>(aB jJ (hr.mono (by decide)) rfl (aa (pv 0) (aa (pv 1) (aa (pv 3) ah)))))) ah))))),?_⟩
 refine⟨_,rfl,ga,c.dt,gdx,_,_,rfl,hga,O.dt.cl,O.dt.at_ 0 rfl,rfl,na,c.aO,ndx,_,_,rfl,hna,O.aO.cl,O.aO.at_ 1 rfl,rfl,?_⟩
 refine⟨_,rfl,pa,_,rfl,.inl (.of hpa),_,rfl,by lia,by lia,fun D hD=>ny (iz H 0 _) hD (fun i _ acc=>acc=(((List.range i).filter fun k=>decide ((g.aO.af.getD k ak.p0).kind=13)).map fun k=>V.bl (ak.qB g s k))) rfl ?_ ?_⟩
 ·rintro i x H1 H2 acc hi s1 hD1 hacc s2 s12 hD2 rfl
  have hi2:i<g.aO.af.length:=by lia
  obtain⟨y,hy,pb,pbx,rfl,hpb⟩:=hps.fP (az (d:=ak.p0) hi2)
  have lf:acc.length≤i:=by
   rw[hacc,lMp]
   exact Nat.le_trans (List.length_filter_le _ _) (by simp)
  rw[Int.zero_add]
  refine⟨rfl,⟨_,rfl,_,rfl,pa,_,_,_,rfl,rfl,.of (s2 _ _ hpa),aG (j:=i) rfl hy,pb,c.part,pbx,_,_,rfl,s2 _ _ hpb,O.part.cl,O.part.at_ 0 rfl,rfl,rfl,_,rfl,?_⟩⟩
  rw[fE]
  by_cases h13:(g.aO.af.getD i ak.p0).kind=13
  ·rw[decide_eq_true h13]
   refine bx ⟨_,rfl,_,rfl,_,rfl,_,_,g,s,i,rfl,hs.same s2,hg.same s2,ok i hi2 h13,fun H3 s3=> ?_⟩
   refine dE hD (s2.trans s3) (s3 _ _ hD2) (aL (by lia)) ?_
   rw[hacc,List.range_succ,List.filter_append,List.map_append,PQ (decide_eq_true h13)]
   rfl
  ·rw[decide_eq_false h13]
   refine bC ⟨s2,acc,hD2,?_⟩
   rw[hacc,List.range_succ,List.filter_append,List.map_append,PR (decide_eq_false h13)]
   simp
 ·intro H1 acc s1 hD1 hacc
  have en:((ws.length:Int)).toNat=g.aO.af.length:=by lia
  rw[en] at hacc
  refine⟨D,((List.range g.aO.af.length).filter fun k=>decide ((g.aO.af.getD k ak.p0).kind=13)).map (ak.qB g s),rfl,.of ?_,?_⟩
  ·rw[hD1,hacc,List.map_map];rfl
  ·have:=kk _ s1
   unfold ak.eX at this
   rw[List.all_map]
   exact this
def PU(c:Cs)(H:Hp)(v:V)(pt:List Bool×(List Int×List (List Int))):Prop:=∃a dx vst vsl,v= .ref a∧H a=some (.ins c.pt dx (Qs vst vsl))∧r9 H vst pt.1∧ng c H vsl pt.2
structure Du(g:ak.gk):Prop where
 Qu:OX g
 l0:0≤g.aO.last
 l1:g.aO.last≤100
 Qv:BJ g.aO
 Qw:∀k,k<g.aO.af.length→GH g k
 Qx:JR g
 len:(ak.rows g).length≤900
 ue:∀i,i<(ak.rows g).length→((ak.rows g).getD i []).length=(ak.rows g).length+1
 run:yb (ak.rows g).length 0 (ak.rows g) [1]
def iH(n:ak.Nw)(st:List Bool):ak.gk:=⟨n,[],st,n.af.map fun p=>(p.top,p.aC)⟩
structure MV(n:ak.Nw):Prop where
 af:n.af.length≤10
 dt:∀st∈ak.bg n.af [[]],Du (iH n st)
 QI:∀st∈ak.bg n.af [[]],∀s,ak.sol (ak.rows (iH n st))=some s→∀k,k<n.af.length→(pat (iH n st) k).kind=13→JY (iH n st) s k
def PV(c:Cs)(H:Hp)(Q:VK):Option (List Bool×(List Int×List (List Int)))→Prop
 |none=>∀H',aJ H H'→Q .fG H'
 |some s=>∀z H',aJ H H'→PU c H' z s→Q z H'
abbrev eR:Stmt:=top 101
theorem qU:aE ["network","own","part","states","setting","solution"] ["network"] (au eR):=sco rfl rfl rfl rfl (by decide +kernel)
def jK(c:Cs):Sp:=fun vs H Q _=>∃v n,vs=[v]∧kf c H v n∧MV n∧PV c H Q (ak.point n)
theorem qV(T:Txt2 mg)(O:cK K c)(hW:bo P w K mg base "rows_of_states" ["parts"] 1 (ko c))(jc:EZ P w K mg base "Setting" c.dt ["self","network","s","states","drives"] 3 (oR c))(hX:bo P w K mg base "law_rows" ["setting"] 6 (oO c))(lS:bo P w K mg base "solved" ["rows"] 6 (uJ c))(fT:bo P w K mg base "all_diodes_agree" ["setting","solution"] 7 (iW c))(hZ:EZ P w K mg base "OperatingPoint" c.pt ["self","states","solution"] 1 (jB c.pt))(G:dD K mg "operating_point" eR ["network"]):bo P w K mg base "operating_point" ["network"] 8 (jK c):=by
 have sc:=qU
 refine G.eD sc (fun vs H Q E ⟨v,n,e,_⟩=>by rw[e];rfl) fun f cdv A outer s0 H vs Q E hr h=> ?_
 obtain⟨v,n,rfl,hn,ok,kk⟩:=h
 obtain⟨na,ndx,nvp,rfl,hna,pa,ws,rfl,hpa,hps⟩:=id hn
 have ll:=hps.length
 have l10:=ok.af
 refine⟨_,(aj (oa (i:=1) rfl sc.nd rfl rfl (rM rfl rfl rfl rfl) (cw (ax K (pv 0) rfl)) (cf (own:=[("part",2)]) (by show lM ["network","own","part","states","setting","solution"] (au eR) _ _=true;decide +kernel)) (fun _ _ _ _ _=>(aQ (i:=2) sc.nd rfl (Or.inl rfl))) (fun _ _ _ _ _=>dC) (fun _ _ _ _ _=>(bY (aa (ax K (pv 2) rfl) (aa (ax K (pv 2) rfl) ah)))))
   (aj (cX PassesOwn.never rfl (cw (aB hW (hr.mono (by decide)) rfl (aa (ax K (pv 0) rfl) ah))) (aQ (i:=3) sc.nd rfl (Or.inl rfl)) (aj (aH (i:=4) sc.nd rfl (by first|left;rfl|right;rfl) (qj jc (hr.mono (by decide)) rfl (aa (pv 0) (aa (aN ah) (aa (pv 3) (aa (pv 1) ah))))))
   (aj (aH (i:=5) sc.nd rfl (by first|left;rfl|right;rfl) (aB lS (hr.mono (by decide)) rfl (aa (aB hX (hr.mono (by decide)) rfl (aa (pv 4) ah)) ah)))
   (aq (bJ (PW.pt (DU (AH (Kj (pv 5))) (AI (bA K (aB fT (hr.mono (by decide)) rfl (aa (pv 4) (aa (pv 5) ah))) (fun _=>rfl))))) (aq (aD (qj hZ (hr.mono (by decide)) rfl (aa (pv 3) (aa (pv 5) ah))))) aT)))))
   (aq (aD AF)))),?_⟩
 refine⟨_,rfl,na,c.aO,ndx,_,_,rfl,hna,O.aO.cl,O.aO.at_ 1 rfl,rfl,pa,rfl,⟨_,.of hpa⟩,fun D hD=>ny (cy (.of hpa)) hD (fun i H' acc=>Paired (JX H') acc ((n.af.take i).map fun p=>(p.top,p.aC))) .nil ?_ ?_⟩
 ·rintro i x H1 H2 acc hi s1 hD1 hacc s2 s12 hD2 hx
  obtain⟨p,hp,pb,pbx,rfl,hpb⟩:=hps.iL hx
  have la:=hacc.length
  rw[lMp,List.length_take] at la
  have hpb2:=s2 _ _ hpb
  refine⟨rfl,⟨_,rfl,pb,c.part,pbx,_,_,rfl,hpb2,O.part.cl,O.part.at_ 5 rfl,rfl,_,rfl,pb,c.part,pbx,_,_,rfl,hpb2,O.part.cl,O.part.at_ 6 rfl,rfl,aw (by simp),fun q hq=> ?_⟩⟩
  have s3:=ay (o:= .tup [.int p.top,.int p.aC]) hq
  refine dE hD (s2.trans s3) (s3 _ _ hD2) (aL (by lia)) ?_
  rw[bI _ _ _ _ hp]
  exact(hacc.dA fun _ _ q=>(q.same (s12.trans s3)).over (s3 _ _ hD2)).fB (JX.over ⟨q,rfl,ai⟩ (s3 _ _ hD2))
 ·intro H1 acc s1 hD1 hacc
  rw[ll,List.take_length] at hacc
  have hown:Ap H1 (.ref D) (n.af.map fun p=>(p.top,p.aC)):=⟨D,acc,rfl,hD1,hacc⟩
  refine⟨_,rfl,na,c.aO,ndx,_,_,rfl,s1 _ _ hna,O.aO.cl,O.aO.at_ 1 rfl,rfl,_,n.af,rfl,⟨pa,ws,rfl,s1 _ _ hpa,hps.dA fun _ _ z=>z.same s1⟩,l10,fun z H2 s2 hz=> ?_⟩
  obtain⟨ra,us,rfl,_,hra,hus⟩:=hz
  have s12:=s1.trans s2
  have lu:=hus.length
  refine⟨ra,rfl,⟨_,.of hra⟩,fA (cy (K:=K) (.of hra)) (fun i σ H'=>∃x2 x3 x4 x5,σ=[some (.ref na),some (.ref D),x2,x3,x4,x5]∧aJ H2 H'∧i≤us.length∧ak.ik n ((ak.bg n.af [[]]).drop i)=ak.point n) ⟨none,none,none,none,rfl,.refl _,Nat.zero_le _,rfl⟩ (fun i σ H' ⟨_,_,_,_,_,s,_⟩=>s) ?_ ?_⟩
  ·rintro i x σ H3 H4 hi ⟨x2,x3,x4,x5,rfl,s3,hi2,hpo⟩ s4 s34 hx
   obtain⟨st,hst,rx⟩:=hus.iL hx
   have hmem:=List.mem_of_getElem? hst
   have ki:=ok.dt st hmem
   have edrop:(ak.bg n.af [[]]).drop i=st::(ak.bg n.af [[]]).drop (i+1):=by
    obtain⟨hlt,e⟩:=List.getElem?_eq_some_iff.mp hst
    rw[List.drop_eq_getElem_cons hlt,e]
   rw[edrop] at hpo
   have hpo':(match ak.sol (ak.rows (iH n st)) with
    |none=>ak.ik n ((ak.bg n.af [[]]).drop (i+1))
    |some s=>if ak.eX (iH n st) s=true then some (st,s) else ak.ik n ((ak.bg n.af [[]]).drop (i+1)))=ak.point n:=hpo
   have s24:=s12.trans s4
   refine⟨_,rfl,Nat.zero_le _,fun q hq=> ?_⟩
   have s5:=ay (o:= .lst []) hq
   refine⟨_,rfl,_,rfl,fun ox dx nx nd ne=> ?_⟩
   have s6:=s24.trans s5
   have hst5:r9 (upd H4 q (.lst [])) x st:=(qk.same rx (s4.trans s5)).at_
   refine⟨_,ox,dx,_,_,_,_,iH n st,rfl,ai,aJ.made nx nd (fun b o h _=>h),nx,hn.same s6,⟨q,rfl,ai⟩,hst5,hown.same ((s2.trans s4).trans s5),by show n.af.length≤1000;lia,fun H5 s7 hg=>⟨rfl,?_⟩⟩
   have s57:=s5.trans s7
   refine⟨_,rfl,_,iH n st,rfl,hg,ki.Qu,ki.l0,ki.l1,ki.Qv,ki.Qw,ki.Qx,fun z6 H6 s8 hrows=> ?_⟩
   refine⟨_,_,rfl,GB.less hrows (fun a h=>h.elim),ki.len,ki.ue,ki.run,?_⟩
   cases hso:ak.sol (ak.rows (iH n st)) with
   |none=>
    rw[hso] at hpo'
    intro H7 s9
    refine⟨_,rfl,_,rfl,?_⟩
    refine bC (bC ⟨_,_,_,_,rfl,((s4.trans s57).trans s8).trans s9,by lia,hpo'⟩)
   |some sl=>
    rw[hso] at hpo'
    intro z7 H7 s9 hsl
    have ag:=ok.QI st hmem sl hso
    obtain⟨za,zdx,zvd,zvt,rfl,hza,_⟩:=id hsl
    refine⟨_,rfl,_,rfl,?_⟩
    refine bx ⟨_,rfl,_,rfl,_,_,iH n st,sl,rfl,hsl,hg.same (s8.trans s9),by show n.af.length≤1000;lia,ag,fun H8 s10=> ?_⟩
    have s20:aJ H4 H8:=((s57.trans s8).trans s9).trans s10
    refine⟨_,rfl,?_⟩
    by_cases hag:ak.eX (iH n st) sl=true
    ·rw[hag]
     have hpo2:some (st,sl)=ak.point n:=by
      rw[←hpo']
      show _=if ak.eX (iH n st) sl=true then _ else _
      rw[if_pos hag]
     rw[←hpo2] at kk
     refine bx ⟨_,rfl,_,rfl,fun ox2 dx2 nx2 nd2 ne2=>⟨ox2,dx2,_,_,rfl,ai,fun H9 k9 hx9=>⟨rfl,?_⟩⟩⟩
     have s11:aJ H8 H9:=aJ.made nx2 nd2 k9
     exact kk _ _ (s24.trans (s20.trans s11)) ⟨ox2,dx2,x,_,rfl,hx9,(qk.same rx (s4.trans (s20.trans s11))).at_,hsl.same (s10.trans s11)⟩
    ·have hag2:ak.eX (iH n st) sl=false:=by simpa using hag
     rw[hag2]
     refine bC ⟨_,_,_,_,rfl,s4.trans s20,by lia,?_⟩
     rw[←hpo']
     show _=if ak.eX (iH n st) sl=true then _ else _
     rw[if_neg hag]
  ·rintro σ H3 ⟨x2,x3,x4,x5,rfl,s3,hi2,hpo⟩
   rw[List.drop_of_length_le (by lia)] at hpo
   have:ak.point n=none:=hpo.symm
   rw[this] at kk
   exact kk _ (s12.trans s3)
end
theorem vals2{a b:Int}{us:List Value}(r:Vals [.int a,.int b] us):∃t t',us=[.int a t,.int b t']:=by
 cases r with
 |cons r1 r=>
  cases r with
  |cons r2 r=>
   cases r
   obtain⟨t,rfl⟩:=r1
   obtain⟨t',rfl⟩:=r2
   exact⟨t,t',rfl⟩
theorem MW{a b:Addr}{us:List Value}(r:Vals [.ref a,.ref b] us):us=[.ref a,.ref b]:=by
 cases r with
 |cons r1 r=>
  cases r with
  |cons r2 r=>
   cases r
   cases r1
   cases r2
   rfl
theorem uM{A:Around}{s:Shared}{t1 t:Addr}{a1 b1 a b:Int}{k1 k2 k3 k4:Tok}(hu:A.units<cLine)(h1:IsTup s.heap t1 [Value.int a1 k1,.int b1 k2].toArray)(h:IsTup s.heap t [Value.int a k3,.int b k4].toArray)(hs:t1=t→a1=a∧b1=b):
  SeqAt.EqAt A s (.ref t1) (.ref t) (decide (a1=a∧b1=b)):=by
 by_cases e:t1=t
 ·rw[decide_eq_true (hs e),e]
  exact SeqAt.EqAt.same _
 ·have q:=SeqAt.EqAt.of_refs e (SeqAt.RcAt.tuples (e:=fun j=>if j=0 then a1==a else b1==b) h1 h hu (fun j j1 j2=>by
   have hj:j=0∨j=1:=by
    have:j<2:=j1
    lia
   rcases hj with rfl |rfl
   ·exact SeqAt.EqAt.int_int a1 k1 a k3
   ·exact SeqAt.EqAt.int_int b1 k2 b k4))
  have e2:((List.range (min [Value.int a1 k1,.int b1 k2].toArray.size [Value.int a k3,.int b k4].toArray.size)).all (fun j=>if j=0 then a1==a else b1==b)&&[Value.int a1 k1,.int b1 k2].toArray.size==[Value.int a k3,.int b k4].toArray.size)=decide (a1=a∧b1=b):=by
   show([0,1].all (fun j=>if j=0 then a1==a else b1==b)&&true)=_
   rw[Bool.eq_iff_iff]
   simp
  rw[e2] at q
  exact q
def PX(K:PySem.W.Frag):R2:=fun x y H Q=>∃t p t1 t2 a b a1 b1 a2 b2,x= .ref t∧y= .ref p∧yE K H t [.int a,.int b]∧yE K H p [.ref t1,.ref t2]∧yE K H t1 [.int a1,.int b1]∧yE K H t2 [.int a2,.int b2]∧Q (.bl (decide ((a1=a∧b1=b)∨(a2=a∧b2=b)))) H
def OG(t1:Addr)(e1 e2:Bool):Value→Bool
 | .ref x=>if x=t1 then e1 else e2
 |_=>false
theorem MX{X:Cx}(K:PySem.W.Frag)(hu:X.A.units+64<cLine)(h:X.K=K:=by rfl):rH X (compareOp .In) (PX K):=by
 subst h
 intro pins s σ H x y v u Q I rx ry h
 obtain⟨t,p,t1,t2,a,b,a1,b1,a2,b2,rfl,rfl,ht,hp,ht1,ht2,q⟩:=h
 cases rx
 cases ry
 obtain⟨its,r,pl,_⟩:=I.tuple ht
 obtain⟨its0,r0,pl0,_⟩:=I.tuple hp
 obtain⟨its1,r1,pl1,_⟩:=I.tuple ht1
 obtain⟨its2,r2,pl2,_⟩:=I.tuple ht2
 obtain⟨k3,k4,rfl⟩:=vals2 r
 obtain⟨k5,k6,rfl⟩:=vals2 r1
 obtain⟨k7,k8,rfl⟩:=vals2 r2
 cases MW r0
 have q1:t1=t→a1=a∧b1=b:=fun e=>by
  subst e
  have:=I.tH ht1 ht
  simpa using this
 have q2:t2=t→a2=a∧b2=b:=fun e=>by
  subst e
  have:=I.tH ht2 ht
  simpa using this
 have q12:t1=t2→a1=a2∧b1=b2:=fun e=>by
  subst e
  have:=I.tH ht1 ht2
  simpa using this
 have hu1:X.A.in1.units<cLine:=by rw[Around.in1_units];lia
 refine SeqAt.in_tupleAt (OG t1 (decide (a1=a∧b1=b)) (decide (a2=a∧b2=b))) pl0 (fun w hw=> ?_) ⟨.bl _,H,I,rfl,?_⟩
 ·have hw2:w= .ref t1∨w= .ref t2:=by simpa using hw
  rcases hw2 with rfl |rfl
  ·show SeqAt.EqAt _ _ _ _ (if t1=t1 then _ else _)
   rw[if_pos rfl]
   exact uM hu1 pl1 pl q1
  ·show SeqAt.EqAt _ _ _ _ (if t2=t1 then _ else _)
   by_cases e:t2=t1
   ·rw[if_pos e]
    obtain⟨e1,e2⟩:=q12 e.symm
    rw[e1,e2]
    exact uM hu1 pl2 pl q2
   ·rw[if_neg e]
    exact uM hu1 pl2 pl q2
 ·have e:([Value.ref t1,.ref t2].toArray.any (OG t1 (decide (a1=a∧b1=b)) (decide (a2=a∧b2=b))))=decide ((a1=a∧b1=b)∨(a2=a∧b2=b)):=by
   show([Value.ref t1,.ref t2].toArray.any _)=_
   rw[show([Value.ref t1,.ref t2].toArray.any (OG t1 (decide (a1=a∧b1=b)) (decide (a2=a∧b2=b))))=(OG t1 (decide (a1=a∧b1=b)) (decide (a2=a∧b2=b)) (.ref t1) ||OG t1 (decide (a1=a∧b1=b)) (decide (a2=a∧b2=b)) (.ref t2)) by simp]
   show((if t1=t1 then _ else _) ||(if t2=t1 then _ else _))=_
   rw[if_pos rfl]
   by_cases e:t2=t1
   ·rw[if_pos e]
    obtain⟨e1,e2⟩:=q12 e.symm
    rw[e1,e2]
    simp
   ·rw[if_neg e,Bool.eq_iff_iff]
    simp
  rw[e]
  exact q
section
variable {P:Program}{w:World}{K:PySem.W.Frag}{mg:Str→Option Value}{base:Heap}{c:Cs}
abbrev uN:Stmt:=top 72
theorem Fg:aE ["part","one","other"] ["part","one","other"] (au uN):=sco rfl rfl rfl rfl (by decide +kernel)
def yi(c:Cs):Sp:=fun vs H Q _=>∃v p one other,vs=[v,.int one,.int other]∧du c H v p∧∀H',aJ H H'→Q (.bl (ak.eQ p one other)) H'
theorem Fh(T:Txt2 mg)(O:cK K c)(G:dD K mg "couples" uN ["part","one","other"]):bo P w K mg base "couples" ["part","one","other"] 1 (yi c):=by
 have sc:=Fg
 refine G.eD sc (fun vs H Q E ⟨v,p,one,other,e,_⟩=>by rw[e];rfl) fun f cdv A outer s0 H vs Q E hr h=> ?_
 obtain⟨v,p,one,other,rfl,⟨pb,pbx,rfl,hpb⟩,kk⟩:=h
 refine⟨_,(aj (bJ (bf vc (ax K (pv 0) rfl) (gc T.dw) (aZ _)) (aq (aD mZ)) aT)
   (aq (aD (bV (MX K hr.units) (bY (aa (ax K (pv 0) rfl) (aa (ax K (pv 0) rfl) ah))) (bY (aa (bY (aa (pv 1) (aa (pv 2) ah))) (aa (bY (aa (pv 2) (aa (pv 1) ah))) ah))) (by with_unfolding_all rfl))))),?_⟩
 unfold ak.eQ at kk
 refine⟨_,rfl,pb,c.part,pbx,_,_,rfl,hpb,O.part.cl,O.part.at_ 0 rfl,rfl,rfl,_,rfl,?_⟩
 rw[fE]
 by_cases h3:p.kind=3
 ·rw[decide_eq_true h3]
  rw[if_neg (by simp[h3])] at kk
  refine bC ⟨_,rfl,pb,c.part,pbx,_,_,rfl,hpb,O.part.cl,O.part.at_ 1 rfl,rfl,_,rfl,pb,c.part,pbx,_,_,rfl,hpb,O.part.cl,O.part.at_ 2 rfl,rfl,aw (by simp),fun t ht=> ?_⟩
  have s1:=ay (o:= .tup [.int p.a,.int p.b]) ht
  refine⟨_,rfl,_,rfl,aw (by simp),fun t1 ht1=> ?_⟩
  have s2:=ay (o:= .tup [.int one,.int other]) ht1
  refine⟨_,rfl,_,rfl,aw (by simp),fun t2 ht2=> ?_⟩
  have s3:=ay (o:= .tup [.int other,.int one]) ht2
  refine⟨aw (by simp),fun t3 ht3=> ?_⟩
  have s4:=ay (o:= .tup [.ref t1,.ref t2]) ht3
  refine⟨t,t3,t1,t2,p.a,p.b,one,other,other,one,rfl,rfl,.of ((s2.trans (s3.trans s4)) _ _ ai),.of ai,.of ((s3.trans s4) _ _ ai),.of (s4 _ _ ai),?_⟩
  have e:decide ((one=p.a∧other=p.b)∨(other=p.a∧one=p.b))=decide ((p.a=one∧p.b=other)∨(p.a=other∧p.b=one)):=by
   rw[Bool.eq_iff_iff,decide_eq_true_iff,decide_eq_true_iff]
   constructor
   ·rintro(⟨e1,e2⟩ |⟨e1,e2⟩)
    ·exact .inl ⟨e1.symm,e2.symm⟩
    ·exact .inr ⟨e1.symm,e2.symm⟩
   ·rintro(⟨e1,e2⟩ |⟨e1,e2⟩)
    ·exact .inl ⟨e1.symm,e2.symm⟩
    ·exact .inr ⟨e1.symm,e2.symm⟩
  rw[e]
  exact kk _ (s1.trans (s2.trans (s3.trans s4)))
 ·rw[decide_eq_false h3]
  rw[if_pos h3] at kk
  exact bx (kk _ (.refl _))
end
structure Ia(p:ak.Part):Prop where
 k0:0≤p.kind
 k1:p.kind≤13
 a0:0≤p.a
 b0:0≤p.b
 c0:0≤p.c
 d0:0≤p.d
 t:p.top.natAbs≤1000000
 b1:1≤p.aC
 b2:p.aC≤1000000
theorem Ld{z:Int}(h:z.natAbs≤1000000):Sz 64 z:=by
 unfold Sz
 have:(1000000:Nat)<2^64:=by decide
 lia
theorem Ia.zt{p:ak.Part}(h:Ia p):Sz 64 p.top:=Ld h.t
theorem Ia.zb{p:ak.Part}(h:Ia p):Sz 64 p.aC:=Ld (by have:=h.b1;have:=h.b2;lia)
theorem PY(k a b d:Int):DN (.int k) [.int a,.int b,.int d]=decide (k=a∨k=b∨k=d):=by
 rw[Bool.eq_iff_iff]
 simp[DN,GY]
 lia
theorem PZ(k a b d e:Int):DN (.int k) [.int a,.int b,.int d,.int e]=decide (k=a∨k=b∨k=d∨k=e):=by
 rw[Bool.eq_iff_iff]
 simp[DN,GY]
 lia
structure Txt4(mg:Str→Option Value):Prop extends Txt3 mg where
 jL:∃t,mg "NO_FAULT"=some (.int 0 t)
 mM:∃t,mg "WRONG_NODE"=some (.int 1 t)
 gE:∃t,mg "WRONG_NUMBER"=some (.int 2 t)
 dj:∃t,mg "WRONG_REFERENCE"=some (.int 3 t)
 mN:∃t,mg "MOST_NODES"=some (.int 8 t)
 mO:∃t,mg "MOST_PARTS"=some (.int 10 t)
 lD:∃t,mg "MOST_DIODES"=some (.int 3 t)
 cO:∃t,mg "NUMBERS_OF_A_PART"=some (.int 7 t)
 mP:∃t,mg "LAST_PLACE"=some (.int 63 t)
 qW:∃t,mg "MOST_TOP"=some (.int 1000000 t)
 lE:∃t,mg "MOST_BOTTOM"=some (.int 1000000 t)
theorem MY(xs:List V)(k:Nat)(h:k≤xs.length):qu xs none (some (k:Int))=xs.take k:=by
 unfold qu
 rw[HT.lX,Nat.min_eq_left h]
 simp[HT.yI]
section
variable {P:Program}{w:World}{K:PySem.W.Frag}{mg:Str→Option Value}{base:Heap}{c:Cs}
abbrev qX:Stmt:=top 67
theorem Dv:aE ["part"] ["part"] (au qX):=sco rfl rfl rfl rfl (by decide +kernel)
def vJ(c:Cs):Sp:=fun vs H Q _=>∃v p,vs=[v]∧du c H v p∧nE H Q (ak.df p)
theorem Dx(T:Txt2 mg)(O:cK K c)(G:dD K mg "nodes_of" qX ["part"]):bo P w K mg base "nodes_of" ["part"] 1 (vJ c):=by
 have sc:=Dv
 refine G.eD sc (fun vs H Q E ⟨v,p,e,_⟩=>by rw[e];rfl) fun f cdv A outer s0 H vs Q E hr h=> ?_
 obtain⟨v,p,rfl,⟨pb,pbx,rfl,hpb⟩,kk⟩:=h
 refine⟨_,(aj (bJ (bf de (ax K (pv 0) rfl) (gc T.dw) (aZ _)) (aq (aD (aN ah))) aT)
   (aj (bJ (bf (wG K) (ax K (pv 0) rfl) (bY (aa (gc T.e7) (aa (gc T.e9) (aa (gc T.d9) (aa (gc T.kg) ah))))) (by with_unfolding_all rfl)) (aq (aD (aN (aa (ax K (pv 0) rfl) (aa (ax K (pv 0) rfl) (aa (ax K (pv 0) rfl) (aa (ax K (pv 0) rfl) ah))))))) aT)
   (aq (aD (aN (aa (ax K (pv 0) rfl) (aa (ax K (pv 0) rfl) ah))))))),?_⟩
 unfold ak.df at kk
 refine⟨_,rfl,pb,c.part,pbx,_,_,rfl,hpb,O.part.cl,O.part.at_ 0 rfl,rfl,rfl,_,rfl,?_⟩
 rw[fE]
 by_cases h3:p.kind=3
 ·rw[decide_eq_true h3]
  rw[if_pos h3] at kk
  exact bx ⟨Nat.zero_le _,fun q hq=>kk q _ hq (ay hq) ai⟩
 ·rw[decide_eq_false h3]
  rw[if_neg h3] at kk
  refine bC ⟨_,rfl,pb,c.part,pbx,_,_,rfl,hpb,O.part.cl,O.part.at_ 0 rfl,rfl,aw (by simp),fun t ht=>⟨t,_,rfl,.inr (.of ai),rfl,rfl,_,rfl,?_⟩⟩
  show if(DN (.int p.kind) [.int 6,.int 7,.int 10,.int 11])=true then _ else _
  rw[PZ]
  have s1:=ay (o:= .tup [.int 6,.int 7,.int 10,.int 11]) ht
  have h1:=s1 _ _ hpb
  by_cases h4:p.kind=6∨p.kind=7∨p.kind=10∨p.kind=11
  ·rw[decide_eq_true h4]
   rw[if_pos h4] at kk
   exact bx ⟨_,rfl,pb,c.part,pbx,_,_,rfl,h1,O.part.cl,O.part.at_ 1 rfl,rfl,_,rfl,pb,c.part,pbx,_,_,rfl,h1,O.part.cl,O.part.at_ 2 rfl,rfl,_,rfl,pb,c.part,pbx,_,_,rfl,h1,O.part.cl,O.part.at_ 3 rfl,rfl,_,rfl,pb,c.part,pbx,_,_,rfl,h1,O.part.cl,O.part.at_ 4 rfl,rfl,aw (by simp),fun q hq=>kk q _ (s1.free hq) (s1.trans (ay hq)) ai⟩
  ·rw[decide_eq_false h4]
   rw[if_neg h4] at kk
   exact bC ⟨_,rfl,pb,c.part,pbx,_,_,rfl,h1,O.part.cl,O.part.at_ 1 rfl,rfl,_,rfl,pb,c.part,pbx,_,_,rfl,h1,O.part.cl,O.part.at_ 2 rfl,rfl,aw (by simp),fun q hq=>kk q _ (s1.free hq) (s1.trans (ay hq)) ai⟩
abbrev gF:Stmt:=top 68
theorem qY:aE ["part"] ["part"] (au gF):=sco rfl rfl rfl rfl (by decide +kernel)
def jM(c:Cs):Sp:=fun vs H Q _=>∃v p,vs=[v]∧du c H v p∧∀H',aJ H H'→Q (.bl (ak.jg p)) H'
theorem qZ(T:Txt2 mg)(O:cK K c)(G:dD K mg "may_have_number" gF ["part"]):bo P w K mg base "may_have_number" ["part"] 1 (jM c):=by
 have sc:=qY
 refine G.eD sc (fun vs H Q E ⟨v,p,e,_⟩=>by rw[e];rfl) fun f cdv A outer s0 H vs Q E hr h=> ?_
 obtain⟨v,p,rfl,⟨pb,pbx,rfl,hpb⟩,kk⟩:=h
 refine⟨_,(aj (bJ (bf (wG K) (ax K (pv 0) rfl) (bY (aa (gc T.qK) (aa (gc T.oG) (aa (gc T.BF) ah)))) (by with_unfolding_all rfl)) (aq (aD (bV ve (ax K (pv 0) rfl) aA (aZ _)))) aT)
   (aj (bJ (bf de (ax K (pv 0) rfl) (gc T.d9) (aZ _)) (aq (aD (bV vc (ax K (pv 0) rfl) aA (aZ _)))) aT)
   (aj (bJ (bf de (ax K (pv 0) rfl) (gc T.kg) (aZ _)) (aq (aD (bV de (ax K (pv 0) rfl) aA (aZ _)))) aT)
   (aj (bJ (bf de (ax K (pv 0) rfl) (gc T.xI) (aZ _)) (aq (aD (Nz (bV de (ax K (pv 0) rfl) aA (aZ _)) (nR (bV de (ax K (pv 0) rfl) (ax K (pv 0) rfl) (aZ _)))))) aT)
   (aj (bJ (bf de (ax K (pv 0) rfl) (gc T.pO) (aZ _)) (aq (aD (bV Lw (ax K (pv 0) rfl) aA (aZ _)))) aT)
   (aq (aD mZ))))))),?_⟩
 unfold ak.jg at kk
 refine⟨_,rfl,pb,c.part,pbx,_,_,rfl,hpb,O.part.cl,O.part.at_ 0 rfl,rfl,aw (by simp),fun t ht=>⟨t,_,rfl,.inr (.of ai),rfl,rfl,_,rfl,?_⟩⟩
 show if(DN (.int p.kind) [.int 0,.int 1,.int 2])=true then _ else _
 rw[PY]
 have s1:=ay (o:= .tup [.int 0,.int 1,.int 2]) ht
 have h1:=s1 _ _ hpb
 have k1:=kk _ s1
 clear kk
 by_cases h3:p.kind=0∨p.kind=1∨p.kind=2
 ·rw[decide_eq_true h3]
  rw[if_pos h3] at k1
  exact bx ⟨_,rfl,pb,c.part,pbx,_,_,rfl,h1,O.part.cl,O.part.at_ 5 rfl,rfl,_,_,rfl,rfl,k1⟩
 rw[decide_eq_false h3]
 rw[if_neg h3] at k1
 refine bC ⟨_,rfl,pb,c.part,pbx,_,_,rfl,h1,O.part.cl,O.part.at_ 0 rfl,rfl,rfl,_,rfl,?_⟩
 rw[fE]
 by_cases h4:p.kind=10
 ·rw[decide_eq_true h4]
  rw[if_pos h4] at k1
  refine bx ⟨_,rfl,pb,c.part,pbx,_,_,rfl,h1,O.part.cl,O.part.at_ 5 rfl,rfl,rfl,?_⟩
  rw[fE]
  have e:(!decide (p.top=0))=decide (p.top≠0):=by simp
  rw[e]
  exact k1
 rw[decide_eq_false h4]
 rw[if_neg h4] at k1
 refine bC ⟨_,rfl,pb,c.part,pbx,_,_,rfl,h1,O.part.cl,O.part.at_ 0 rfl,rfl,rfl,_,rfl,?_⟩
 rw[fE]
 by_cases h5:p.kind=11
 ·rw[decide_eq_true h5]
  rw[if_pos h5] at k1
  refine bx ⟨_,rfl,pb,c.part,pbx,_,_,rfl,h1,O.part.cl,O.part.at_ 5 rfl,rfl,rfl,?_⟩
  rw[fE]
  exact k1
 rw[decide_eq_false h5]
 rw[if_neg h5] at k1
 refine bC ⟨_,rfl,pb,c.part,pbx,_,_,rfl,h1,O.part.cl,O.part.at_ 0 rfl,rfl,rfl,_,rfl,?_⟩
 rw[fE]
 by_cases h6:p.kind=12
 ·rw[decide_eq_true h6]
  rw[if_pos h6] at k1
  refine bx ⟨_,rfl,pb,c.part,pbx,_,_,rfl,h1,O.part.cl,O.part.at_ 5 rfl,rfl,rfl,_,rfl,?_⟩
  rw[fE]
  by_cases h7:p.top=0
  ·rw[decide_eq_true h7]
   rw[decide_eq_true (Or.inl h7)] at k1
   exact bx k1
  ·rw[decide_eq_false h7]
   refine bC ⟨_,rfl,pb,c.part,pbx,_,_,rfl,h1,O.part.cl,O.part.at_ 5 rfl,rfl,_,rfl,pb,c.part,pbx,_,_,rfl,h1,O.part.cl,O.part.at_ 6 rfl,rfl,rfl,?_⟩
   rw[fE]
   have e:decide (p.top=p.aC)=decide (p.top=0∨p.top=p.aC):=by simp[h7]
   rw[e]
   exact k1
 rw[decide_eq_false h6]
 rw[if_neg h6] at k1
 refine bC ⟨_,rfl,pb,c.part,pbx,_,_,rfl,h1,O.part.cl,O.part.at_ 0 rfl,rfl,rfl,_,rfl,?_⟩
 rw[fE]
 by_cases h8:p.kind=13
 ·rw[decide_eq_true h8]
  rw[if_pos h8] at k1
  exact bx ⟨_,rfl,pb,c.part,pbx,_,_,rfl,h1,O.part.cl,O.part.at_ 5 rfl,rfl,_,_,rfl,rfl,k1⟩
 rw[decide_eq_false h8]
 rw[if_neg h8] at k1
 exact bC k1
abbrev mQ:Stmt:=top 69
theorem yZ:aE ["parts","k","followed"] ["parts","k"] (au mQ):=sco rfl rfl rfl rfl (by decide +kernel)
def qm(c:Cs):Sp:=fun vs H Q _=>∃v ps k,vs=[v,.int ((k:Nat):Int)]∧i6 c H v ps∧k<ps.length∧0≤(ps.getD k ak.p0).c∧∀H',aJ H H'→Q (.bl (ak.cE ps k)) H'
theorem y6(T:Txt2 mg)(O:cK K c)(G:dD K mg "may_follow" mQ ["parts","k"]):bo P w K mg base "may_follow" ["parts","k"] 1 (qm c):=by
 have sc:=yZ
 refine G.eD sc (fun vs H Q E ⟨v,ps,k,e,_⟩=>by rw[e];rfl) fun f cdv A outer s0 H vs Q E hr h=> ?_
 obtain⟨v,ps,k,rfl,⟨pa,ws,rfl,hpa,hps⟩,hk,hc0,kk⟩:=h
 refine⟨_,(aj (bJ (bf (G5 K) (ax K (aK (dR K) (pv 0) (pv 1) (fun _ _=>rfl)) rfl) (bY (aa (gc T.fb) (aa (gc T.fc) ah))) (by with_unfolding_all rfl)) (aq (aD mZ)) aT)
   (aj (aH (i:=2) sc.nd rfl (by first|left;rfl|right;rfl) (ax K (aK (dR K) (pv 0) (pv 1) (fun _ _=>rfl)) rfl))
   (aq (aD (nS (bV Ci (pv 2) (pv 1) (aZ _)) (nR (bV vc (ax K (aK (dR K) (pv 0) (pv 2) (fun _ _=>rfl)) rfl) (gc T.dw) (aZ _)))))))),?_⟩
 obtain⟨x,hx,pb,pbx,rfl,hpb⟩:=hps.fP (az (d:=ak.p0) hk)
 refine⟨_,rfl,_,rfl,pa,_,_,_,rfl,rfl,.of hpa,aG (j:=k) rfl hx,pb,c.part,pbx,_,_,rfl,hpb,O.part.cl,O.part.at_ 0 rfl,rfl,aw (by simp),fun t ht=>⟨t,_,rfl,.inr (.of ai),rfl,rfl,_,rfl,?_⟩⟩
 show if(!DN (.int (ps.getD k ak.p0).kind) [.int 8,.int 9])=true then _ else _
 rw[K9]
 have s1:=ay (o:= .tup [.int 8,.int 9]) ht
 have hpa1:=s1 _ _ hpa
 have hpb1:=s1 _ _ hpb
 have k1:=kk _ s1
 clear kk
 unfold ak.cE at k1
 by_cases h1:(ps.getD k ak.p0).kind=8∨(ps.getD k ak.p0).kind=9
 ·rw[decide_eq_true h1]
  simp only[h1,not_true_eq_false,if_false] at k1
  refine bC ⟨_,rfl,_,rfl,pa,_,_,_,rfl,rfl,.of hpa1,aG (j:=k) rfl hx,pb,c.part,pbx,_,_,rfl,hpb1,O.part.cl,O.part.at_ 3 rfl,rfl,?_⟩
  refine⟨_,rfl,_,rfl,_,_,rfl,rfl,_,rfl,?_⟩
  by_cases h2:(ps.getD k ak.p0).c<(k:Int)
  ·rw[decide_eq_true h2] at k1⊢
   obtain⟨y,hy,pd,pdx,rfl,hpd⟩:=hps.fP (az (d:=ak.p0) (show(ps.getD k ak.p0).c.toNat<ps.length by lia))
   refine bx ⟨_,rfl,_,rfl,pa,_,_,_,rfl,rfl,.of hpa1,aG (j:=(ps.getD k ak.p0).c.toNat) (by lia) hy,pd,c.part,pdx,_,_,rfl,s1 _ _ hpd,O.part.cl,O.part.at_ 0 rfl,rfl,rfl,?_⟩
   rw[fE]
   have e:(!decide ((ps.getD (ps.getD k ak.p0).c.toNat ak.p0).kind=3))=decide (ak.kindAt ps (ps.getD k ak.p0).c≠3):=by
    unfold ak.kindAt
    simp
   rw[e]
   exact k1
  ·rw[decide_eq_false h2] at k1⊢
   exact bC k1
 ·rw[decide_eq_false h1]
  simp only[h1,not_false_eq_true,if_true] at k1
  exact bx k1
abbrev h9:Stmt:=top 71
theorem sQ:aE ["parts","place","k"] ["parts","place","k"] (au h9):=sco rfl rfl rfl rfl (by decide +kernel)
def kq(c:Cs):Sp:=fun vs H Q _=>∃v ps i k,vs=[v,.int i,.int ((k:Nat):Int)]∧i6 c H v ps∧k≤ps.length∧0≤i∧Q (.bl (ak.aX ps i k)) H
theorem sR(T:Txt2 mg)(O:cK K c)(G:dD K mg "is_coil_before" h9 ["parts","place","k"]):bo P w K mg base "is_coil_before" ["parts","place","k"] 1 (kq c):=by
 have sc:=sQ
 refine G.eD sc (fun vs H Q E ⟨v,ps,i,k,e,_⟩=>by rw[e];rfl) fun f cdv A outer s0 H vs Q E hr h=> ?_
 obtain⟨v,ps,i,k,rfl,⟨pa,ws,rfl,hpa,hps⟩,hk,hi,kk⟩:=h
 refine⟨_,(aq (aD (nS (bV Ci (pv 1) (pv 2) (aZ _)) (nR (bV de (ax K (aK (dR K) (pv 0) (pv 1) (fun _ _=>rfl)) rfl) (gc T.BF) (aZ _)))))),?_⟩
 unfold ak.aX at kk
 refine⟨_,rfl,_,rfl,_,_,rfl,rfl,_,rfl,?_⟩
 by_cases h2:i<(k:Int)
 ·rw[decide_eq_true h2] at kk⊢
  obtain⟨y,hy,pd,pdx,rfl,hpd⟩:=hps.fP (az (d:=ak.p0) (show i.toNat<ps.length by lia))
  refine bx ⟨_,rfl,_,rfl,pa,_,_,_,rfl,rfl,.of hpa,aG (j:=i.toNat) (by lia) hy,pd,c.part,pdx,_,_,rfl,hpd,O.part.cl,O.part.at_ 0 rfl,rfl,rfl,?_⟩
  rw[fE]
  exact kk
 ·rw[decide_eq_false h2] at kk⊢
  exact bC kk
abbrev eK:Stmt:=top 73
theorem mR:aE ["coupling","one","other","squared"] ["coupling","one","other"] (au eK):=sco rfl rfl rfl rfl (by decide +kernel)
def gG(c:Cs):Sp:=fun vs H Q _=>∃v1 v2 v3 p1 p2 p3,vs=[v1,v2,v3]∧du c H v1 p1∧du c H v2 p2∧du c H v3 p3∧Ia p1∧Ia p2∧Ia p3∧Q (.bl (ak.tooMuch p1 p2 p3)) H
theorem mS(O:cK K c)(G:dD K mg "is_coupled_too_much" eK ["coupling","one","other"]):bo P w K mg base "is_coupled_too_much" ["coupling","one","other"] 1 (gG c):=by
 have sc:=mR
 refine G.eD sc (fun vs H Q E ⟨v1,v2,v3,p1,p2,p3,e,_⟩=>by rw[e];rfl) fun f cdv A outer s0 H vs Q E hr h=> ?_
 obtain⟨v1,v2,v3,p1,p2,p3,rfl,⟨a1,x1,rfl,h1⟩,⟨a2,x2,rfl,h2⟩,⟨a3,x3,rfl,h3⟩,i1,i2,i3,kk⟩:=h
 refine⟨_,(aj (aH (i:=3) sc.nd rfl (by first|left;rfl|right;rfl) (a9 bW (a9 bW (a9 bW (ax K (pv 0) rfl) (ax K (pv 0) rfl)) (ax K (pv 1) rfl)) (ax K (pv 2) rfl)))
   (aq (aD (bV ve (pv 3) (a9 bW (a9 bW (a9 bW (ax K (pv 1) rfl) (ax K (pv 2) rfl)) (ax K (pv 0) rfl)) (ax K (pv 0) rfl)) (aZ _))))),?_⟩
 refine⟨_,rfl,a1,c.part,x1,_,_,rfl,h1,O.part.cl,O.part.at_ 5 rfl,rfl,_,rfl,a1,c.part,x1,_,_,rfl,h1,O.part.cl,O.part.at_ 5 rfl,rfl,_,_,rfl,rfl,i1.zt.mul i1.zt (by decide),?_⟩
 refine⟨_,rfl,a2,c.part,x2,_,_,rfl,h2,O.part.cl,O.part.at_ 6 rfl,rfl,_,_,rfl,rfl,(i1.zt.prod i1.zt).mul i2.zb (by decide),?_⟩
 refine⟨_,rfl,a3,c.part,x3,_,_,rfl,h3,O.part.cl,O.part.at_ 6 rfl,rfl,_,_,rfl,rfl,((i1.zt.prod i1.zt).prod i2.zb).mul i3.zb (by decide),?_⟩
 refine⟨_,rfl,_,rfl,a2,c.part,x2,_,_,rfl,h2,O.part.cl,O.part.at_ 5 rfl,rfl,_,rfl,a3,c.part,x3,_,_,rfl,h3,O.part.cl,O.part.at_ 5 rfl,rfl,_,_,rfl,rfl,i2.zt.mul i3.zt (by decide),?_⟩
 refine⟨_,rfl,a1,c.part,x1,_,_,rfl,h1,O.part.cl,O.part.at_ 6 rfl,rfl,_,_,rfl,rfl,(i2.zt.prod i3.zt).mul i1.zb (by decide),?_⟩
 exact⟨_,rfl,a1,c.part,x1,_,_,rfl,h1,O.part.cl,O.part.at_ 6 rfl,rfl,_,_,rfl,rfl,((i2.zt.prod i3.zt).prod i1.zb).mul i1.zb (by decide),_,_,rfl,rfl,kk⟩
abbrev fu:Stmt:=top 70
theorem sS:aE ["parts","k","one","other","part"] ["parts","k"] (au fu):=sco rfl rfl rfl rfl (by decide +kernel)
def kr(c:Cs):Sp:=fun vs H Q _=>∃v ps k,vs=[v,.int ((k:Nat):Int)]∧i6 c H v ps∧k<ps.length∧ps.length≤1000∧(∀p∈ps,Ia p)∧∀H',aJ H H'→Q (.int (ak.ja ps k)) H'
theorem sU(T:Txt4 mg)(O:cK K c)(fw:bo P w K mg base "is_coil_before" ["parts","place","k"] 1 (kq c))(uO:bo P w K mg base "couples" ["part","one","other"] 1 (yi c))(eN:bo P w K mg base "is_coupled_too_much" ["coupling","one","other"] 1 (gG c))(G:dD K mg "coupling_fault" fu ["parts","k"]):bo P w K mg base "coupling_fault" ["parts","k"] 2 (kr c):=by
 have sc:=sS
 refine G.eD sc (fun vs H Q E ⟨v,ps,k,e,_⟩=>by rw[e];rfl) fun f cdv A outer s0 H vs Q E hr h=> ?_
 obtain⟨v,ps,k,rfl,hpp,hk,hl,pin,kk⟩:=h
 obtain⟨pa,ws,rfl,hpa,hps⟩:=id hpp
 have ll:=hps.length
 refine⟨_,(aj (aH (i:=2) sc.nd rfl (by first|left;rfl|right;rfl) (ax K (aK (dR K) (pv 0) (pv 1) (fun _ _=>rfl)) rfl))
   (aj (aH (i:=3) sc.nd rfl (by first|left;rfl|right;rfl) (ax K (aK (dR K) (pv 0) (pv 1) (fun _ _=>rfl)) rfl))
   (aj (bJ (PW.pt (Cd (bf de (pv 2) (pv 3) (aZ _)) (Cd (fL (bA K (aB fw (hr.mono (by decide)) rfl (aa (pv 0) (aa (pv 2) (aa (pv 1) ah)))) (fun _=>rfl))) (AJ (fL (bA K (aB fw (hr.mono (by decide)) rfl (aa (pv 0) (aa (pv 3) (aa (pv 1) ah)))) (fun _=>rfl))))))) (aq (aD (gc T.dj))) aT)
   (aj (bJ (bA K (aY (FR K rfl) rfl T.GA wI (aa (lL rfl sc.nd (cw (nV (Oq K) (pv 0) AN (lY (pv 1)))) (cf (own:=[("part",4)]) (by show lM ["parts","k","one","other","part"] (au fu) _ _=true;decide +kernel)) (fun _ _ _ _ _=>(aQ (i:=4) sc.nd rfl (Or.inl rfl))) (fun _ _ _ _ _=>dC) (fun _ _ _ _ _=>(aB uO (hr.mono (by decide)) rfl (aa (pv 4) (aa (pv 2) (aa (pv 3) ah)))))) ah)) (fun _=>rfl)) (aq (aD (gc T.dj))) aT)
   (aj (bJ (bA K (aB eN (hr.mono (by decide)) rfl (aa (aK (dR K) (pv 0) (pv 1) (fun _ _=>rfl)) (aa (aK (dR K) (pv 0) (pv 2) (fun _ _=>rfl)) (aa (aK (dR K) (pv 0) (pv 3) (fun _ _=>rfl)) ah)))) (fun _=>rfl)) (aq (aD (gc T.gE))) aT)
   (aq (aD (gc T.jL)))))))),?_⟩
 obtain⟨x,hx,pb,pbx,rfl,hpb⟩:=hps.fP (az (d:=ak.p0) hk)
 have ip:=pin _ (List.mem_of_getElem? (az (d:=ak.p0) hk))
 unfold ak.ja at kk
 generalize hp:ps.getD k ak.p0=p at hpb ip kk
 have iF:∀{A:Prop} {x y:Int},¬A→∀[Decidable A],(if A then x else y)=y:=fun h _=>if_neg h
 refine⟨_,rfl,_,rfl,pa,_,_,_,rfl,rfl,.of hpa,aG (j:=k) rfl hx,pb,c.part,pbx,_,_,rfl,hpb,O.part.cl,O.part.at_ 1 rfl,rfl,?_⟩
 refine⟨_,rfl,_,rfl,pa,_,_,_,rfl,rfl,.of hpa,aG (j:=k) rfl hx,pb,c.part,pbx,_,_,rfl,hpb,O.part.cl,O.part.at_ 2 rfl,rfl,?_⟩
 have bad:(p.a=p.b∨ak.aX ps p.a k=false∨ak.aX ps p.b k=false)→∀H',aJ H H'→Q (.int 3) H':=fun h H' s=>by
  have:=kk H' s
  simp only[h,if_true] at this
  exact this
 refine⟨_,rfl,_,rfl,rfl,_,rfl,?_⟩
 rw[fE]
 by_cases h1:p.a=p.b
 ·rw[decide_eq_true h1]
  exact bx (bx (bad (.inl h1) _ (.refl _)))
 rw[decide_eq_false h1]
 refine bC ⟨_,rfl,_,rfl,_,rfl,_,ps,p.a,k,rfl,hpp,by lia,ip.a0,_,rfl,?_⟩
 cases h2:ak.aX ps p.a k with
 |false=>exact bx (bx (bad (.inr (.inl h2)) _ (.refl _)))
 |true=>
 refine bC ⟨_,rfl,_,rfl,_,rfl,_,ps,p.b,k,rfl,hpp,by lia,ip.b0,_,rfl,?_⟩
 cases h3:ak.aX ps p.b k with
 |false=>exact bx (bad (.inr (.inr h3)) _ (.refl _))
 |true=>
 refine bC ?_
 have nb:¬(p.a=p.b∨ak.aX ps p.a k=false∨ak.aX ps p.b k=false):=by
  rintro(h |h |h)
  ·exact h1 h
  ·rw[h2] at h;cases h
  ·rw[h3] at h;cases h
 have k2:∀H',aJ H H'→Q (.int (if(ps.take k).any (fun q=>ak.eQ q p.a p.b)=true then 3 else if ak.tooMuch p (ps.getD p.a.toNat ak.p0) (ps.getD p.b.toNat ak.p0)=true then 2 else 0)) H':=fun H' s=>by
  have:=kk H' s
  rw[if_neg nb] at this
  exact this
 have ca:p.a.toNat<k:=by
  have h:=h2
  unfold ak.aX at h
  have:=(Bool.and_eq_true _ _).mp h
  have:=of_decide_eq_true this.1
  have:=ip.a0
  lia
 have cb:p.b.toNat<k:=by
  have h:=h3
  unfold ak.aX at h
  have:=(Bool.and_eq_true _ _).mp h
  have:=of_decide_eq_true this.1
  have:=ip.b0
  lia
 refine⟨_,rfl,_,rfl,_,rfl,pa,_,rfl,.of hpa,fun sa hsa=> ?_⟩
 rw[MY ws k (by lia)]
 have s1:=ay (o:= .lst (ws.take k)) hsa
 refine⟨sa,rfl,⟨_,.of ai⟩,fun D hD=>ny (cy (.of ai)) hD (fun i _ acc=>acc=(((ps.take k).take i).map fun q=>V.bl (ak.eQ q p.a p.b))) rfl ?_ ?_⟩
 ·rintro i x H1 H2 acc hi s2 hD1 hacc s3 s23 hD2 hx
  obtain⟨q,hq,pq⟩:=(hps.JJ k).iL hx
  have la:acc.length≤i:=by
   rw[hacc,lMp,List.length_take];lia
  have li:i<k:=by rw[List.length_take] at hi;lia
  refine⟨rfl,⟨_,rfl,_,rfl,_,rfl,_,q,p.a,p.b,rfl,pq.same (s1.trans s3),fun H3 s4=> ?_⟩⟩
  refine dE hD (s3.trans s4) (s4 _ _ hD2) (aL (by lia)) ?_
  rw[hacc,bI _ _ _ _ hq]
 ·intro H1 acc s2 hD1 hacc
  have s3:=s1.trans s2
  rw[List.take_of_length_le (by rw[List.length_take,List.length_take];lia)] at hacc
  refine⟨D,(ps.take k).map fun q=>ak.eQ q p.a p.b,rfl,.of ?_,_,rfl,?_⟩
  ·rw[hD1,hacc,List.map_map];rfl
  rw[List.any_map]
  show if((ps.take k).any fun q=>ak.eQ q p.a p.b)=true then _ else _
  cases h5:(ps.take k).any (fun q=>ak.eQ q p.a p.b) with
  |true=>
   have:=k2 _ s3
   rw[h5] at this
   exact bx this
  |false=>
   refine bC ?_
   obtain⟨y,hy,py⟩:=hps.fP (az (d:=ak.p0) (show p.a.toNat<ps.length by lia))
   obtain⟨z,hz,pz⟩:=hps.fP (az (d:=ak.p0) (show p.b.toNat<ps.length by lia))
   have hpa3:=s3 _ _ hpa
   refine⟨_,rfl,_,rfl,pa,_,_,_,rfl,rfl,.of hpa3,aG (j:=k) rfl hx,_,rfl,_,rfl,pa,_,_,_,rfl,rfl,.of hpa3,aG (j:=p.a.toNat) (by have:=ip.a0;lia) hy,_,rfl,_,rfl,pa,_,_,_,rfl,rfl,.of hpa3,aG (j:=p.b.toNat) (by have:=ip.b0;lia) hz,_,_,_,p,_,_,rfl,⟨pb,pbx,rfl,s3 _ _ hpb⟩,py.same s3,pz.same s3,ip,pin _ (List.mem_of_getElem? (az (d:=ak.p0) (show p.a.toNat<ps.length by lia))),pin _ (List.mem_of_getElem? (az (d:=ak.p0) (show p.b.toNat<ps.length by lia))),_,rfl,?_⟩
   have k3:=k2 _ s3
   rw[h5] at k3
   rw[if_neg (by simp)] at k3
   cases h6:ak.tooMuch p (ps.getD p.a.toNat ak.p0) (ps.getD p.b.toNat ak.p0) with
   |true=>
    rw[h6] at k3
    exact bx k3
   |false=>
    rw[h6] at k3
    exact bC k3
abbrev mT:Stmt:=top 66
theorem Dy:aE ["network","k","part","node"] ["network","k"] (au mT):=sco rfl rfl rfl rfl (by decide +kernel)
def vK(c:Cs):Sp:=fun vs H Q _=>∃v n k,vs=[v,.int ((k:Nat):Int)]∧kf c H v n∧k<n.af.length∧n.af.length≤1000∧(∀p∈n.af,Ia p)∧∀H',aJ H H'→Q (.int (ak.dU n k)) H'
theorem Dz(p:ak.Part):(ak.df p).length≤4:=by
 unfold ak.df
 split
 ·simp
 ·split <;>simp
theorem DA(T:Txt4 mg)(O:cK K c)(rb:bo P w K mg base "nodes_of" ["part"] 1 (vJ c))(gH:bo P w K mg base "may_have_number" ["part"] 1 (jM c))(mU:bo P w K mg base "may_follow" ["parts","k"] 1 (qm c))(ia:bo P w K mg base "coupling_fault" ["parts","k"] 2 (kr c))(G:dD K mg "fault_of" mT ["network","k"]):bo P w K mg base "fault_of" ["network","k"] 3 (vK c):=by
 have sc:=Dy
 refine G.eD sc (fun vs H Q E ⟨v,n,k,e,_⟩=>by rw[e];rfl) fun f cdv A outer s0 H vs Q E hr h=> ?_
 obtain⟨v,n,k,rfl,hn,hk,hl,pin,kk⟩:=h
 obtain⟨na,ndx,nvp,rfl,hna,pa,ws,rfl,hpa,hps⟩:=id hn
 refine⟨_,(aj (aH (i:=2) sc.nd rfl (by first|left;rfl|right;rfl) (aK (dR K) (ax K (pv 0) rfl) (pv 1) (fun _ _=>rfl)))
   (aj (bJ (bA K (aY (FR K rfl) rfl T.GA wI (aa (lL rfl sc.nd (cw (aB rb (hr.mono (by decide)) rfl (aa (pv 2) ah))) (cf (own:=[("node",3)]) (by show lM ["network","k","part","node"] (au mT) _ _=true;decide +kernel)) (fun _ _ _ _ _=>(aQ (i:=3) sc.nd rfl (Or.inl rfl))) (fun _ _ _ _ _=>dC) (fun _ _ _ _ _=>(bV ve (pv 3) (ax K (pv 0) rfl) (aZ _)))) ah)) (fun _=>rfl)) (aq (aD (gc T.mM))) aT)
   (aj (bJ (fL (bA K (aB gH (hr.mono (by decide)) rfl (aa (pv 2) ah)) (fun _=>rfl))) (aq (aD (gc T.gE))) aT)
   (aj (bJ (fL (bA K (aB mU (hr.mono (by decide)) rfl (aa (ax K (pv 0) rfl) (aa (pv 1) ah))) (fun _=>rfl))) (aq (aD (gc T.dj))) aT)
   (aj (bJ (bf de (ax K (pv 2) rfl) (gc T.dw) (aZ _)) (aq (aD (aB ia (hr.mono (by decide)) rfl (aa (ax K (pv 0) rfl) (aa (pv 1) ah))))) aT)
   (aq (aD (gc T.jL)))))))),?_⟩
 obtain⟨x,hx,px⟩:=hps.fP (az (d:=ak.p0) hk)
 obtain⟨pb,pbx,rfl,hpb⟩:=id px
 have ip:=pin _ (List.mem_of_getElem? (az (d:=ak.p0) hk))
 unfold ak.dU at kk
 have nl:=Dz (n.af.getD k ak.p0)
 refine⟨_,rfl,na,c.aO,ndx,_,_,rfl,hna,O.aO.cl,O.aO.at_ 1 rfl,rfl,_,rfl,pa,_,_,_,rfl,rfl,.of hpa,aG (j:=k) rfl hx,?_⟩
 refine⟨_,rfl,_,_,rfl,px,fun la H1 hla s1 hla1=> ?_⟩
 refine⟨la,rfl,⟨_,.of hla1⟩,fun D hD=>ny (cy (.of hla1)) hD (fun i _ acc=>acc=(((ak.df (n.af.getD k ak.p0)).take i).map fun q=>V.bl (decide (n.last<q)))) rfl ?_ ?_⟩
 ·rintro i x H2 H3 acc hi s2 hD2 hacc s3 s23 hD3 hx
  obtain⟨q,hq,rfl⟩:=il hx
  have la:acc.length≤i:=by
   rw[hacc,lMp,List.length_take];lia
  have li:i<4:=by rw[lMp] at hi;lia
  refine⟨rfl,⟨_,rfl,_,rfl,na,c.aO,ndx,_,_,rfl,(s1.trans s3) _ _ hna,O.aO.cl,O.aO.at_ 0 rfl,rfl,_,_,rfl,rfl,?_⟩⟩
  refine dE hD s3 hD3 (aL (by lia)) ?_
  rw[hacc,bI _ _ _ _ hq]
 ·intro H2 acc s2 hD2 hacc
  have s3:=s1.trans s2
  rw[lMp,List.take_length] at hacc
  refine⟨D,(ak.df (n.af.getD k ak.p0)).map fun q=>decide (n.last<q),rfl,.of ?_,_,rfl,?_⟩
  ·rw[hD2,hacc,List.map_map];rfl
  rw[List.any_map]
  show if((ak.df (n.af.getD k ak.p0)).any fun q=>decide (n.last<q))=true then _ else _
  by_cases h1:((ak.df (n.af.getD k ak.p0)).any fun q=>decide (n.last<q))=true
  ·have:=kk _ s3
   rw[if_pos h1] at this
   rw[h1]
   exact bx this
  rw[show((ak.df (n.af.getD k ak.p0)).any fun q=>decide (n.last<q))=false by simpa using h1]
  simp only[if_neg h1] at kk
  refine bC ⟨_,rfl,_,_,rfl,px.same s3,fun H4 s4=>⟨_,rfl,?_⟩⟩
  have s34:=s3.trans s4
  cases h2:ak.jg (n.af.getD k ak.p0) with
  |false=>
   have:=kk _ s34
   rw[if_pos h2] at this
   exact bx this
  |true=>
  simp only[if_neg (show ¬ak.jg (n.af.getD k ak.p0)=false by rw[h2];simp)] at kk
  refine bC ⟨_,rfl,na,c.aO,ndx,_,_,rfl,s34 _ _ hna,O.aO.cl,O.aO.at_ 1 rfl,rfl,_,rfl,_,n.af,k,rfl,⟨pa,ws,rfl,s34 _ _ hpa,hps.dA fun _ _ z=>z.same s34⟩,hk,ip.c0,fun H5 s5=>⟨_,rfl,?_⟩⟩
  have s35:=s34.trans s5
  cases h3:ak.cE n.af k with
  |false=>
   have:=kk _ s35
   rw[if_pos h3] at this
   exact bx this
  |true=>
  simp only[if_neg (show ¬ak.cE n.af k=false by rw[h3];simp)] at kk
  refine bC ⟨_,rfl,pb,c.part,pbx,_,_,rfl,s35 _ _ hpb,O.part.cl,O.part.at_ 0 rfl,rfl,rfl,_,rfl,?_⟩
  rw[fE]
  by_cases h4:(n.af.getD k ak.p0).kind=3
  ·rw[decide_eq_true h4]
   simp only[if_pos h4] at kk
   exact bx ⟨_,rfl,na,c.aO,ndx,_,_,rfl,s35 _ _ hna,O.aO.cl,O.aO.at_ 1 rfl,rfl,_,rfl,_,n.af,k,rfl,⟨pa,ws,rfl,s35 _ _ hpa,hps.dA fun _ _ z=>z.same s35⟩,hk,hl,pin,fun H6 s6=>kk _ (s35.trans s6)⟩
  ·rw[decide_eq_false h4]
   simp only[if_neg h4] at kk
   exact bC (kk _ s35)
abbrev lF:Stmt:=top 65
theorem yk:aE ["network","k","fault"] ["network"] (au lF):=sco rfl rfl rfl rfl (by decide +kernel)
def oW(c:Cs):Sp:=fun vs H Q _=>∃v n,vs=[v]∧kf c H v n∧n.af.length≤1000∧(∀p∈n.af,Ia p)∧nE H Q (ak.fault n)
theorem ym(T:Txt4 mg)(O:cK K c)(rd:bo P w K mg base "fault_of" ["network","k"] 3 (vK c))(G:dD K mg "first_fault" lF ["network"]):bo P w K mg base "first_fault" ["network"] 4 (oW c):=by
 have sc:=yk
 refine G.eD sc (fun vs H Q E ⟨v,n,e,_⟩=>by rw[e];rfl) fun f cdv A outer s0 H vs Q E hr h=> ?_
 obtain⟨v,n,rfl,hn,hl,pin,kk⟩:=h
 obtain⟨na,ndx,nvp,rfl,hna,pa,ws,rfl,hpa,hps⟩:=id hn
 have ll:=hps.length
 refine⟨_,(aj (cX PassesOwn.never rfl (i8 rfl T.fJ (aa (aY (br K) rfl T.dz bb (aa (ax K (pv 0) rfl) ah)) ah)) (aQ (i:=1) sc.nd rfl (Or.inl rfl)) (aj (aH (i:=2) sc.nd rfl (by first|left;rfl|right;rfl) (aB rd (hr.mono (by decide)) rfl (aa (pv 0) (aa (pv 1) ah))))
   (aq (bJ (bf vc (pv 2) (gc T.jL) (aZ _)) (aq (aD (aN (aa (pv 1) (aa (pv 2) ah))))) aT))))
   (aq (aD (aN ah)))),?_⟩
 refine⟨_,rfl,na,c.aO,ndx,_,_,rfl,hna,O.aO.cl,O.aO.at_ 1 rfl,rfl,pa,_,rfl,.inl (.of hpa),_,rfl,by lia,by lia,?_⟩
 have en:((ws.length:Int)).toNat=n.af.length:=by lia
 rw[en]
 refine fA (iz H _ _) (fun i σ H'=>∃x1 x2,σ=[some (.ref na),x1,x2]∧aJ H H'∧i≤n.af.length∧ak.fH n (n.af.length - i)=ak.fault n) ⟨none,none,rfl,.refl _,Nat.zero_le _,rfl⟩ (fun i σ H' ⟨_,_,_,s,_⟩=>s) ?_ ?_
 ·rintro i x σ H1 H2 hi ⟨x1,x2,rfl,s1,hi2,hf⟩ s2 s12 rfl
  rw[Int.zero_add]
  obtain⟨m,em⟩:∃m,n.af.length - i=m+1:=⟨n.af.length - i - 1,by lia⟩
  have ek:n.af.length - (m+1)=i:=by lia
  have em2:n.af.length - (i+1)=m:=by lia
  rw[em] at hf
  have hf2:(if ak.dU n i≠0 then[(i:Int),ak.dU n i] else ak.fH n m)=ak.fault n:=by
   rw[←hf]
   show _=if ak.dU n (n.af.length - (m+1))≠0 then[((n.af.length - (m+1):Nat):Int),ak.dU n (n.af.length - (m+1))] else ak.fH n m
   rw[ek]
  refine⟨_,rfl,_,rfl,_,n,i,rfl,hn.same s2,hi,hl,pin,fun H3 s3=> ?_⟩
  refine⟨_,rfl,rfl,_,rfl,?_⟩
  rw[fE]
  by_cases h0:ak.dU n i=0
  ·rw[decide_eq_true h0]
   rw[if_neg (fun h=>h h0)] at hf2
   refine bC ⟨_,_,rfl,s2.trans s3,by lia,?_⟩
   rw[em2]
   exact hf2
  ·rw[decide_eq_false h0]
   rw[if_pos h0] at hf2
   rw[←hf2] at kk
   exact bx ⟨_,rfl,_,rfl,aw (by simp),fun q hq=>kk q _ ((s2.trans s3).free hq) ((s2.trans s3).trans (ay hq)) ai⟩
 ·rintro σ H1 ⟨x1,x2,rfl,s1,hi2,hf⟩
  rw[Nat.sub_self] at hf
  have:ak.fault n=[]:=hf.symm
  rw[this] at kk
  exact⟨Nat.zero_le _,fun q hq=>kk q _ (s1.free hq) (s1.trans (ay hq)) ai⟩
end
def P0(n:Nat):Bool:=Builtin.Range.small 1 (n:Int) 7&&decide (Builtin.Range.rangeSize 1 (n:Int) 7=(((n - 1+6) / 7:Nat):Int))
theorem JZ:(List.range 200).all (fun n=>P0 (n+1))=true:=by decide +kernel
theorem Qa{n:Nat}(h1:1≤n)(h2:n≤200):Oi 1 (n:Int) 7 ((n - 1+6) / 7):=by
 have h:=List.all_eq_true.mp JZ (n - 1) (List.mem_range.mpr (by lia))
 have e:n - 1+1=n:=by lia
 rw[e] at h
 obtain⟨a,b⟩:=(Bool.and_eq_true _ _).mp h
 exact⟨by decide,by decide,a,of_decide_eq_true b⟩
theorem Qb(l:List Int)(i:Nat)(h:1+7*i≤l.length):qu (l.map V.int) (some ((1+7*i:Nat):Int)) (some ((1+7*i+7:Nat):Int))=(((l.drop (1+7*i)).take 7).map V.int):=by
 unfold qu
 rw[HT.lX,HT.lX,lMp,Nat.min_eq_left h,List.map_take,List.map_drop]
 by_cases h2:1+7*i+7≤l.length
 ·rw[Nat.min_eq_left h2]
  have e:1+7*i+7 - (1+7*i)=7:=by lia
  rw[e]
 ·rw[Nat.min_eq_right (by lia),List.take_of_length_le (by simp),List.take_of_length_le (by simp;lia)]
theorem OH(l:List Int)(h:l.length=7):qu (l.map V.int) (some 1) (some 5)=(((l.drop 1).take 4).map V.int):=by
 show qu (l.map V.int) (some ((1:Nat):Int)) (some ((5:Nat):Int))=_
 unfold qu
 rw[HT.lX,HT.lX,lMp,h,List.map_take,List.map_drop]
 rfl
theorem gI(l:List Int):(ak.aM l).length=(l.length - 1+6) / 7:=by
 unfold ak.aM
 simp
theorem sV(l:List Int)(i:Nat)(h:i<(l.length - 1+6) / 7):(ak.aM l)[i]? =some ((l.drop (1+7*i)).take 7):=by
 unfold ak.aM
 rw[List.getElem?_map,List.getElem?_range h];rfl
theorem mV(l:List Int)(h:(l.length - 1) % 7=0):∀r∈ak.aM l,r.length=7:=fun r hr=>by
 obtain⟨i,hi,e⟩:=List.getElem_of_mem hr
 rw[gI] at hi
 have q:=sV l i hi
 rw[List.getElem?_eq_getElem (by rw[gI];exact hi),e] at q
 cases q
 rw[List.length_take,List.length_drop]
 lia
theorem Le(z:Int)(m:Nat):decide ((if z<0 then -z else z)≤(m:Int))=decide (z.natAbs≤m):=by
 rw[Bool.eq_iff_iff,decide_eq_true_iff,decide_eq_true_iff]
 split <;>lia
theorem Av(l:List Int)(h:0<l.length):(l.map V.int)[0]? =some (V.int (l.headD 0)):=by
 cases l with
 |nil=>simp at h
 |cons a l=>rfl
section
variable {P:Program}{w:World}{K:PySem.W.Frag}{mg:Str→Option Value}{base:Heap}{c:Cs}
abbrev ks:Stmt:=top 116
theorem BP:aE ["net","start"] ["net"] (au ks):=sco rfl rfl rfl rfl (by decide +kernel)
def mW(K:PySem.W.Frag):Sp:=fun vs H Q _=>∃a l,vs=[.ref a]∧gn K H a (l.map V.int)∧1≤l.length∧l.length≤200∧∀z H',aJ H H'→oE FF H' z (ak.aM l)→Q z H'
theorem BQ(T:Txt4 mg)(G:dD K mg "part_rows" ks ["net"]):bo P w K mg base "part_rows" ["net"] 1 (mW K):=by
 have sc:=BP
 refine G.eD sc (fun vs H Q E ⟨v,l,e,_⟩=>by rw[e];rfl) fun f cdv A outer s0 H vs Q E hr h=> ?_
 obtain⟨a,l,rfl,ha,l1,l2,kk⟩:=h
 refine⟨_,(aq (aD (lL rfl sc.nd (zK rfl T.fJ (aa aA (aa (aY (br K) rfl T.dz bb (aa (pv 0) ah)) (aa (gc T.cO) ah)))) (cf (own:=[("start",1)]) (by show lM ["net","start"] (au ks) _ _=true;decide +kernel)) (fun _ _ _ _ _=>(aQ (i:=1) sc.nd rfl (Or.inl rfl))) (fun _ _ _ _ _=>dC) (fun _ _ _ _ _=>(nV (Oq K) (pv 0) (lY (pv 1)) (lY (a9 eV (pv 1) (gc T.cO)))))))),?_⟩
 refine⟨_,rfl,a,_,rfl,.inl ha,_,_,_,_,rfl,?_,fun D hD=>ny (zL H 1 7 ((l.length - 1+6) / 7)) hD (fun i H' acc=>Paired (nF (bZ FF D) H') acc ((ak.aM l).take i)) .nil ?_ ?_⟩
 ·rw[lMp]
  exact Qa l1 l2
 ·rintro i x H1 H2 acc hi s1 hD1 hacc s2 s12 hD2 rfl
  have lacc:=hacc.length
  rw[List.length_take,gI] at lacc
  have e1:(1:Int)+(i:Nat)*7=((1+7*i:Nat):Int):=by lia
  have e2:(((1+7*i:Nat):Int))+7=((1+7*i+7:Nat):Int):=by lia
  rw[e1]
  refine⟨rfl,⟨_,rfl,_,rfl,_,rfl,_,rfl,_,_,rfl,rfl,_,rfl,a,_,rfl,s2.seq ha,fun q hq=> ?_⟩⟩
  dsimp only[]
  rw[e2,Qb l i (by lia)]
  have s3:=ay (o:= .lst (((l.drop (1+7*i)).take 7).map V.int)) hq
  have nq:¬bZ FF D q:=fun h=>h.elim (fun y=>y) (fun y=>by rw[y,hD2] at hq;cases hq)
  refine dE hD (s2.trans s3) (s3 _ _ hD2) (aL (by lia)) ?_
  rw[List.take_add_one (l:=ak.aM l),sV l i hi]
  exact((hacc.d7 cH (s12.trans s3)).oF cH (bS (.inr rfl))).fB (cH.off ⟨q,rfl,nq,ai⟩ (bS (.inr rfl)))
 ·intro H1 acc s1 hD1 hacc
  rw[List.take_of_length_le (by rw[gI];exact Nat.le_refl _)] at hacc
  exact kk _ _ s1 ⟨D,acc,rfl,fun z=>z,hD1,hacc.HZ cH⟩
abbrev iu:Stmt:=top 117
theorem yn:aE ["row","place"] ["row"] (au iu):=sco rfl rfl rfl rfl (by decide +kernel)
def oX:Sp:=fun vs H Q _=>∃v r,vs=[v]∧cN H v r∧r.length=7∧∀H',aJ H H'→Q (.bl (ak.dF r)) H'
theorem yo(T:Txt4 mg)(G:dD K mg "is_part_row" iu ["row"]):bo P w K mg base "is_part_row" ["row"] 1 oX:=by
 have sc:=yn
 refine G.eD sc (fun vs H Q E ⟨v,l,e,_⟩=>by rw[e];rfl) fun f cdv A outer s0 H vs Q E hr h=> ?_
 obtain⟨v,r,rfl,⟨a,rfl,ha⟩,hl,kk⟩:=h
 refine⟨_,(aj (bJ (fL (Cj jd jd aA (aK (dR K) (pv 0) aA (fun _ _=>rfl)) (gc T.oH))) (aq (aD mZ)) aT)
   (aj (bJ (fL (bA K (aY (AX K rfl) rfl T.Df qx (aa (lL rfl sc.nd (cw (nV (Oq K) (pv 0) (lY aA) (lY aA))) (cf (own:=[("place",1)]) (by show lM ["row","place"] (au iu) _ _=true;decide +kernel)) (fun _ _ _ _ _=>(aQ (i:=1) sc.nd rfl (Or.inl rfl))) (fun _ _ _ _ _=>dC) (fun _ _ _ _ _=>(wC jd jd aA (pv 1) (gc T.mP)))) ah)) (fun _=>rfl))) (aq (aD mZ)) aT)
   (aq (aD (nS (bV jd (aY rJ rfl T.Ao l5 (aa (aK (dR K) (pv 0) aA (fun _ _=>rfl)) ah)) (gc T.qW) (aZ _)) (nR (wC jd jd aA (aK (dR K) (pv 0) aA (fun _ _=>rfl)) (gc T.lE)))))))),?_⟩
 unfold ak.dF at kk
 refine⟨_,rfl,a,_,_,_,rfl,rfl,.of ha,aG (j:=0) rfl (cu (by lia)),_,_,rfl,rfl,_,rfl,?_⟩
 have bad:¬(0≤r.getD 0 0∧r.getD 0 0≤13)→Q (.bl false) H:=fun h=>by
  have:=kk _ (.refl _)
  rw[if_pos h] at this
  exact this
 by_cases h0:0≤r.getD 0 0
 rotate_left
 ·rw[decide_eq_false h0]
  exact bC ⟨_,rfl,bx (bad fun h=>h0 h.1)⟩
 rw[decide_eq_true h0]
 refine bx ⟨_,_,rfl,rfl,_,rfl,?_⟩
 by_cases h1:r.getD 0 0≤13
 rotate_left
 ·rw[decide_eq_false h1]
  exact bx (bad fun h=>h1 h.2)
 rw[decide_eq_true h1]
 refine bC ?_
 simp only[if_neg (show ¬¬(0≤r.getD 0 0∧r.getD 0 0≤13) from fun h=>h ⟨h0,h1⟩)] at kk
 refine⟨_,rfl,_,rfl,_,rfl,a,_,rfl,.of ha,fun sa hsa=> ?_⟩
 rw[OH r hl]
 have s1:=ay (o:= .lst (((r.drop 1).take 4).map V.int)) hsa
 have l4:((r.drop 1).take 4).length=4:=by simp;lia
 refine⟨sa,rfl,⟨_,.of ai⟩,fun D hD=>ny (cy (.of ai)) hD (fun i _ acc=>acc=((((r.drop 1).take 4).take i).map fun p=>V.bl (decide (0≤p∧p≤63)))) rfl ?_ ?_⟩
 ·rintro i x H1 H2 acc hi s2 hD1 hacc s3 s23 hD2 hx
  obtain⟨q,hq,rfl⟩:=il hx
  have li:i<4:=by rw[lMp] at hi;lia
  have la:acc.length≤4:=by rw[hacc,lMp,List.length_take];lia
  refine⟨rfl,⟨_,rfl,_,_,rfl,rfl,_,rfl,?_⟩⟩
  by_cases q0:0≤q
  rotate_left
  ·rw[decide_eq_false q0]
   refine bC (dE hD s3 hD2 (aL (by lia)) ?_)
   rw[hacc,bI _ _ _ _ hq,decide_eq_false (fun h=>q0 h.1)]
  ·rw[decide_eq_true q0]
   refine bx ⟨_,_,rfl,rfl,dE hD s3 hD2 (aL (by lia)) ?_⟩
   rw[hacc,bI _ _ _ _ hq]
   have e:decide (0≤q∧q≤63)=decide (q≤63):=by simp[q0]
   rw[e]
 ·intro H1 acc s2 hD1 hacc
  have s3:=s1.trans s2
  rw[lMp,List.take_length] at hacc
  refine⟨D,((r.drop 1).take 4).map fun p=>decide (0≤p∧p≤63),rfl,.of ?_,_,rfl,?_⟩
  ·rw[hD1,hacc,List.map_map];rfl
  rw[List.all_map]
  show if(!((r.drop 1).take 4).all fun p=>decide (0≤p∧p≤63))=true then _ else _
  have k3:=kk _ s3
  by_cases h2:(((r.drop 1).take 4).all fun p=>decide (0≤p∧p≤63))=true
  rotate_left
  ·rw[if_pos h2] at k3
   rw[show(((r.drop 1).take 4).all fun p=>decide (0≤p∧p≤63))=false by simpa using h2]
   exact bx k3
  rw[if_neg (fun h=>h h2)] at k3
  rw[h2]
  have ha3:=s3 _ _ ha
  refine bC ⟨_,rfl,a,_,_,_,rfl,rfl,.of ha3,aG (j:=5) rfl (cu (by lia)),_,rfl,_,_,rfl,rfl,_,rfl,?_⟩
  show if(decide ((if r.getD 5 0<0 then -r.getD 5 0 else r.getD 5 0)≤((1000000:Nat):Int)))=true then _ else _
  rw[Le]
  by_cases h3:(r.getD 5 0).natAbs≤1000000
  rotate_left
  ·rw[decide_eq_false h3] at k3⊢
   exact bC k3
  rw[decide_eq_true h3] at k3⊢
  refine bx ⟨_,rfl,a,_,_,_,rfl,rfl,.of ha3,aG (j:=6) rfl (cu (by lia)),_,_,rfl,rfl,_,rfl,?_⟩
  by_cases h4:1≤r.getD 6 0
  rotate_left
  ·rw[decide_eq_false h4]
   rw[decide_eq_false (show ¬(1≤r.getD 6 0∧r.getD 6 0≤1000000) from fun h=>h4 h.1)] at k3
   exact bC k3
  rw[decide_eq_true h4]
  refine bx ⟨_,_,rfl,rfl,?_⟩
  have e:(true&&decide (1≤r.getD 6 0∧r.getD 6 0≤1000000))=decide (r.getD 6 0≤1000000):=by
   rw[Bool.true_and,Bool.eq_iff_iff,decide_eq_true_iff,decide_eq_true_iff]
   lia
  rw[e] at k3
  exact k3
abbrev dM:Stmt:=top 115
theorem sW:aE ["net","rows","row"] ["net"] (au dM):=sco rfl rfl rfl rfl (by decide +kernel)
def kx(K:PySem.W.Frag):Sp:=fun vs H Q _=>∃a l,vs=[.ref a]∧gn K H a (l.map V.int)∧l.length≤200∧∀H',aJ H H'→Q (.bl (ak.jf l)) H'
theorem sX(T:Txt4 mg)(gj:bo P w K mg base "part_rows" ["net"] 1 (mW K))(lG:bo P w K mg base "is_part_row" ["row"] 1 oX)(G:dD K mg "is_network_row" dM ["net"]):bo P w K mg base "is_network_row" ["net"] 2 (kx K):=by
 have sc:=sW
 refine G.eD sc (fun vs H Q E ⟨v,l,e,_⟩=>by rw[e];rfl) fun f cdv A outer s0 H vs Q E hr h=> ?_
 obtain⟨a,l,rfl,ha,l2,kk⟩:=h
 refine⟨_,(aj (bJ (PW.pt (Cd (bf de (aY (br K) rfl T.dz bb (aa (pv 0) ah)) aA (aZ _)) (AJ (fL (Cj jd jd aA (aK (dR K) (pv 0) aA (fun _ _=>rfl)) (gc T.mN)))))) (aq (aD mZ)) aT)
   (aj (bJ (bf vc (a9 Ik (a9 iI (aY (br K) rfl T.dz bb (aa (pv 0) ah)) aA) (gc T.cO)) aA (aZ _)) (aq (aD mZ)) aT)
   (aj (aH (i:=1) sc.nd rfl (by first|left;rfl|right;rfl) (aB gj (hr.mono (by decide)) rfl (aa (pv 0) ah)))
   (aj (bJ (bf ve (aY (br K) rfl T.dz bb (aa (pv 1) ah)) (gc T.mO) (aZ _)) (aq (aD mZ)) aT)
   (aj (bJ (fL (bA K (aY (AX K rfl) rfl T.Df qx (aa (lL rfl sc.nd (cw (pv 1)) (cf (own:=[("row",2)]) (by show lM ["net","rows","row"] (au dM) _ _=true;decide +kernel)) (fun _ _ _ _ _=>(aQ (i:=2) sc.nd rfl (Or.inl rfl))) (fun _ _ _ _ _=>dC) (fun _ _ _ _ _=>(aB lG (hr.mono (by decide)) rfl (aa (pv 2) ah)))) ah)) (fun _=>rfl))) (aq (aD mZ)) aT)
   (aq (aD (bV jd (aY (br K) rfl T.dz bb (aa (lL rfl sc.nd (cw (pv 1)) (cf (own:=[("row",2)]) (by show lM ["net","rows","row"] (au dM) _ _=true;decide +kernel)) (fun _ _ _ _ _=>(aQ (i:=2) sc.nd rfl (Or.inl rfl))) (fun _ _ _ _ _=>(FL (bf de (aK (dR K) (pv 2) aA (fun _ _=>rfl)) (gc T.pO) (aZ _)))) (fun _ _ _ _ _=>(pv 2))) ah)) (gc T.lD) (aZ _))))))))),?_⟩
 unfold ak.jf at kk
 have bad:(l.length=0∨¬(1≤l.headD 0∧l.headD 0≤8))→Q (.bl false) H:=fun h=>by
  have:=kk _ (.refl _)
  rw[if_pos h] at this
  exact this
 refine⟨_,rfl,a,_,rfl,.inl ha,rfl,_,rfl,?_⟩
 rw[fE,lMp]
 by_cases h0:l.length=0
 ·rw[decide_eq_true (show((l.length:Nat):Int)=0 by lia)]
  exact bx (bx (bad (.inl h0)))
 rw[decide_eq_false (show ¬((l.length:Nat):Int)=0 by lia)]
 refine bC ⟨_,rfl,a,_,_,_,rfl,rfl,ha,aG (j:=0) rfl (Av l (by lia)),_,_,rfl,rfl,_,rfl,?_⟩
 by_cases h1:1≤l.headD 0
 rotate_left
 ·rw[decide_eq_false h1]
  exact bC ⟨_,rfl,bx (bad (.inr fun h=>h1 h.1))⟩
 rw[decide_eq_true h1]
 refine bx ⟨_,_,rfl,rfl,_,rfl,?_⟩
 by_cases h2:l.headD 0≤8
 rotate_left
 ·rw[decide_eq_false h2]
  exact bx (bad (.inr fun h=>h2 h.2))
 rw[decide_eq_true h2]
 refine bC ?_
 simp only[if_neg (show ¬(l.length=0∨¬(1≤l.headD 0∧l.headD 0≤8)) from fun h=>h.elim h0 fun h=>h ⟨h1,h2⟩)] at kk
 refine⟨_,rfl,a,_,rfl,.inl ha,_,_,rfl,rfl,_,_,rfl,rfl,(by show(0:Int)<7;decide),rfl,_,rfl,?_⟩
 rw[fE,lMp]
 by_cases h3:(l.length - 1) % 7=0
 rotate_left
 ·rw[decide_eq_false (show ¬((((l.length:Nat):Int) - 1) % 7=0) by lia)]
  have:=kk _ (.refl _)
  rw[if_pos h3] at this
  exact bx this
 rw[decide_eq_true (show(((l.length:Nat):Int) - 1) % 7=0 by lia)]
 refine bC ?_
 simp only[if_neg (show ¬(l.length - 1) % 7≠0 from fun h=>h h3)] at kk
 refine⟨_,rfl,a,l,rfl,ha,by lia,l2,fun z H1 s1 hz=> ?_⟩
 obtain⟨ra,rv,rfl,_,hra,hrv⟩:=hz
 have lr:=hrv.length
 have l7:=mV l h3
 refine⟨_,rfl,ra,_,rfl,.inl (.of hra),_,_,rfl,rfl,_,rfl,?_⟩
 rw[lr]
 by_cases h4:10<(ak.aM l).length
 ·rw[decide_eq_true (show(((ak.aM l).length:Nat):Int)>10 by lia)]
  have:=kk _ s1
  rw[if_pos h4] at this
  exact bx this
 rw[decide_eq_false (show ¬(((ak.aM l).length:Nat):Int)>10 by lia)]
 refine bC ?_
 simp only[if_neg h4] at kk
 refine⟨_,rfl,ra,rfl,⟨_,.of hra⟩,fun D hD=>ny (cy (.of hra)) hD (fun i _ acc=>acc=(((ak.aM l).take i).map fun r=>V.bl (ak.dF r))) rfl ?_ ?_⟩
 ·rintro i x H2 H3 acc hi s2 hD2 hacc s3 s23 hD3 hx
  obtain⟨r,hr',pr⟩:=hrv.iL hx
  have la:acc.length≤i:=by rw[hacc,lMp,List.length_take];lia
  refine⟨rfl,⟨_,rfl,_,r,rfl,(cH.same pr s3).at_,l7 r (List.mem_of_getElem? hr'),fun H4 s4=> ?_⟩⟩
  refine dE hD (s3.trans s4) (s4 _ _ hD3) (aL (by lia)) ?_
  rw[hacc,bI _ _ _ _ hr']
 ·intro H2 acc s2 hD2 hacc
  have s3:=s1.trans s2
  rw[lr,List.take_length] at hacc
  refine⟨D,(ak.aM l).map ak.dF,rfl,.of ?_,_,rfl,?_⟩
  ·rw[hD2,hacc,List.map_map];rfl
  rw[List.all_map]
  show if(!(ak.aM l).all ak.dF)=true then _ else _
  by_cases h5:(ak.aM l).all ak.dF=true
  rotate_left
  ·rw[show(ak.aM l).all ak.dF=false by simpa using h5]
   have:=kk _ s3
   rw[if_pos h5] at this
   exact bx this
  rw[h5]
  refine bC ?_
  simp only[if_neg (fun h:¬(ak.aM l).all ak.dF=true=>h h5)] at kk
  have hra2:=s2 _ _ hra
  refine⟨_,rfl,ra,rfl,⟨_,.of hra2⟩,fun D2 hDD=>ny (cy (.of hra2)) hDD (fun i _ acc=>acc.length=(((ak.aM l).take i).filter fun r=>decide (r.getD 0 0=13)).length) rfl ?_ ?_⟩
  ·rintro i x H4 H5 acc hi s4 hD4 hacc s5 s45 hD5 hx
   obtain⟨r,hr',xa,rfl,_,hxa⟩:=hrv.iL hx
   have hxa5:=s5 _ _ (s2 _ _ hxa)
   have r7:=l7 r (List.mem_of_getElem? hr')
   have la:acc.length≤i:=by
    rw[hacc]
    refine Nat.le_trans (List.length_filter_le _ _) ?_
    rw[List.length_take];lia
   have et:(ak.aM l).take (i+1)=(ak.aM l).take i ++ [r]:=by
    rw[List.take_add_one,hr'];rfl
   refine⟨rfl,⟨_,rfl,xa,_,_,_,rfl,rfl,.of hxa5,aG (j:=0) rfl (cu (by lia)),rfl,_,rfl,?_⟩⟩
   rw[fE]
   by_cases h13:r.getD 0 0=13
   ·rw[decide_eq_true h13]
    refine bx ⟨_,rfl,dE hDD s5 hD5 (aL (by lia)) ?_⟩
    rw[et,List.filter_append,List.length_append,List.length_append,hacc,List.filter_cons_of_pos (by exact decide_eq_true h13)]
    rfl
   ·rw[decide_eq_false h13]
    refine bC ⟨s5,acc,hD5,?_⟩
    show acc.length=_
    rw[et,List.filter_append,List.length_append,hacc,List.filter_cons_of_neg (by rw[decide_eq_false h13];simp)]
    rfl
  ·intro H4 acc s4 hD4 hacc
   rw[lr,List.take_length] at hacc
   refine⟨D2,_,rfl,.inl (.of hD4),_,_,rfl,rfl,?_⟩
   have k4:=kk _ (s3.trans s4)
   have e:decide (((ak.aM l).filter fun r=>decide (r.getD 0 0=13)).length≤3)=decide (((acc.length:Nat):Int)≤3):=by
    rw[Bool.eq_iff_iff,decide_eq_true_iff,decide_eq_true_iff]
    lia
   rw[e] at k4
   exact k4
abbrev gJ:Stmt:=top 118
theorem vZ:aE ["net","row"] ["net"] (au gJ):=sco rfl rfl rfl rfl (by decide +kernel)
def iR(K:PySem.W.Frag)(c:Cs):Sp:=fun vs H Q _=>∃a l,vs=[.ref a]∧gn K H a (l.map V.int)∧1≤l.length∧l.length≤200∧(l.length - 1) % 7=0∧∀z H',aJ H H'→kf c H' z (ak.aW l)→Q z H'
theorem du.over{H:Hp}{v:V}{p:ak.Part}{D:Addr}{vs us:List V}(h:du c H v p)(hD:H D=some (.lst vs)):du c (upd H D (.lst us)) v p:=let ⟨t,dx,e,q⟩:=h;⟨t,dx,e,by rw[aR (B9 q hD (by intro z;cases z))];exact q⟩
theorem v5(T:Txt4 mg)(O:cK K c)(gj:bo P w K mg base "part_rows" ["net"] 1 (mW K))(Fi:EZ P w K mg base "Part" c.part ["self","numbers"] 1 (Dp K c.part))(uP:EZ P w K mg base "Network" c.aO ["self","last_node","parts"] 1 (vG c.aO))(G:dD K mg "read_network" gJ ["net"]):bo P w K mg base "read_network" ["net"] 3 (iR K c):=by
 have sc:=vZ
 refine G.eD sc (fun vs H Q E ⟨v,l,e,_⟩=>by rw[e];rfl) fun f cdv A outer s0 H vs Q E hr h=> ?_
 obtain⟨a,l,rfl,ha,l1,l2,h7,kk⟩:=h
 refine⟨_,(aq (aD (qj uP (hr.mono (by decide)) rfl (aa (aK (dR K) (pv 0) aA (fun _ _=>rfl)) (aa (lL rfl sc.nd (cw (aB gj (hr.mono (by decide)) rfl (aa (pv 0) ah))) (cf (own:=[("row",1)]) (by show lM ["net","row"] (au gJ) _ _=true;decide +kernel)) (fun _ _ _ _ _=>(aQ (i:=1) sc.nd rfl (Or.inl rfl))) (fun _ _ _ _ _=>dC) (fun _ _ _ _ _=>(qj Fi (hr.mono (by decide)) rfl (aa (pv 1) ah)))) ah))))),?_⟩
 refine⟨_,rfl,a,_,_,_,rfl,rfl,ha,aG (j:=0) rfl (Av l (by lia)),?_⟩
 refine⟨_,rfl,a,l,rfl,ha,l1,l2,fun z H1 s1 hz=> ?_⟩
 obtain⟨ra,rv,rfl,_,hra,hrv⟩:=hz
 have lr:=hrv.length
 have l7:=mV l h7
 have ln:=gI l
 refine⟨ra,rfl,⟨_,.of hra⟩,fun D hD=>ny (cy (.of hra)) hD (fun i H' acc=>Paired (du c H') acc (((ak.aM l).take i).map ak.Part.of)) .nil ?_ ?_⟩
 ·rintro i x H2 H3 acc hi s2 hD2 hacc s3 s23 hD3 hx
  obtain⟨r,hr',xa,rfl,_,hxa⟩:=hrv.iL hx
  have la:=hacc.length
  rw[lMp,List.length_take] at la
  refine⟨rfl,⟨_,rfl,fun ox dx nx nd ne=> ?_⟩⟩
  have s4:aJ H3 (upd (upd H3 dx (.own ox)) ox (.ins c.part dx [])):=aJ.made nx nd (fun b o h _=>h)
  refine⟨ox,dx,xa,r,rfl,ai,s4 _ _ (s3 _ _ hxa),l7 r (List.mem_of_getElem? hr'),fun H4 k4 hx4=>⟨rfl,?_⟩⟩
  have s5:aJ H3 H4:=aJ.made nx nd k4
  have hD4:=s5 _ _ hD3
  refine dE hD (s3.trans s5) hD4 (aL (by lia)) ?_
  rw[bI _ _ _ _ hr']
  exact(hacc.dA fun _ _ q=>(q.same (s23.trans s5)).over hD4).fB (du.over ⟨ox,dx,rfl,hx4⟩ hD4)
 ·intro H2 acc s2 hD2 hacc
  rw[lr,List.take_length] at hacc
  refine fun ox dx nx nd ne=>⟨ox,dx,_,_,rfl,ai,fun H3 k3 hx3=>⟨rfl,?_⟩⟩
  have s3:aJ H2 H3:=aJ.made nx nd k3
  exact kk _ _ ((s1.trans s2).trans s3) ⟨ox,dx,_,rfl,hx3,D,acc,rfl,s3 _ _ hD2,hacc.dA fun _ _ q=>q.same s3⟩
end
theorem HB{r:List Int}(h:ak.dF r=true)(h7:r.length=7):Ia (ak.Part.of r):=by
 unfold ak.dF at h
 by_cases h0:0≤r.getD 0 0∧r.getD 0 0≤13
 rotate_left
 ·rw[if_pos h0] at h;cases h
 rw[if_neg (fun q=>q h0)] at h
 by_cases h1:((r.drop 1).take 4).all (fun p=>decide (0≤p∧p≤63))=true
 rotate_left
 ·rw[if_pos h1] at h;cases h
 rw[if_neg (fun q=>q h1)] at h
 obtain⟨h2,h3⟩:=(Bool.and_eq_true _ _).mp h
 have h2:=of_decide_eq_true h2
 have h3:=of_decide_eq_true h3
 match r,h7 with
 |[a,b,d,e,f,g,k],_=>
  have q:=List.all_eq_true.mp h1
  have q1:=of_decide_eq_true (q b (by simp))
  have q2:=of_decide_eq_true (q d (by simp))
  have q3:=of_decide_eq_true (q e (by simp))
  have q4:=of_decide_eq_true (q f (by simp))
  exact⟨h0.1,h0.2,q1.1,q2.1,q3.1,q4.1,h2,h3.1,h3.2⟩
structure QJ(l:List Int):Prop where
 len:1≤l.length
 m7:(l.length - 1) % 7=0
 l1:1≤l.headD 0
 l8:l.headD 0≤8
 af:(ak.aW l).af.length≤10
 pin:∀p∈(ak.aW l).af,Ia p
theorem DB{l:List Int}(h:ak.jf l=true):QJ l:=by
 unfold ak.jf at h
 by_cases h0:l.length=0∨¬(1≤l.headD 0∧l.headD 0≤8)
 ·rw[if_pos h0] at h;cases h
 rw[if_neg h0] at h
 by_cases h1:(l.length - 1) % 7=0
 rotate_left
 ·rw[if_pos h1] at h;cases h
 rw[if_neg (fun q=>q h1)] at h
 by_cases h2:10<(ak.aM l).length
 ·rw[if_pos h2] at h;cases h
 rw[if_neg h2] at h
 by_cases h3:(ak.aM l).all ak.dF=true
 rotate_left
 ·rw[if_pos h3] at h;cases h
 have hh:1≤l.headD 0∧l.headD 0≤8:=Classical.byContradiction fun q=>h0 (.inr q)
 have hl:¬l.length=0:=fun q=>h0 (.inl q)
 refine⟨by lia,h1,hh.1,hh.2,?_,fun p hp=> ?_⟩
 ·show((ak.aM l).map ak.Part.of).length≤10
  rw[lMp];lia
 ·obtain⟨r,hr,rfl⟩:=List.mem_map.mp (show p∈(ak.aM l).map ak.Part.of from hp)
  exact HB (List.all_eq_true.mp h3 r hr) (mV l h1 r hr)
section
variable {P:Program}{w:World}{K:PySem.W.Frag}{mg:Str→Option Value}{base:Heap}{c:Cs}
abbrev ib:Stmt:=top 123
theorem sY:aE ["net","fault"] ["net"] (au ib):=sco rfl rfl rfl rfl (by decide +kernel)
def kz(K:PySem.W.Frag):Sp:=fun vs H Q _=>∃a l,vs=[.ref a]∧gn K H a (l.map V.int)∧l.length≤200∧qQ H Q (ak.bB l)
theorem sZ(T:Txt4 mg)(ic:bo P w K mg base "is_network_row" ["net"] 2 (kx K))(dN:bo P w K mg base "read_network" ["net"] 3 (iR K c))(lH:bo P w K mg base "first_fault" ["network"] 4 (oW c))(G:dD K mg "refusal_of_net" ib ["net"]):bo P w K mg base "refusal_of_net" ["net"] 5 (kz K):=by
 have sc:=sY
 refine G.eD sc (fun vs H Q E ⟨v,l,e,_⟩=>by rw[e];rfl) fun f cdv A outer s0 H vs Q E hr h=> ?_
 obtain⟨a,l,rfl,ha,l2,kk⟩:=h
 refine⟨_,(aj (bJ (fL (bA K (aB ic (hr.mono (by decide)) rfl (aa (pv 0) ah)) (fun _=>rfl))) (aq (aD (aN (aa (gr dQ aA) ah)))) aT)
   (aj (aH (i:=1) sc.nd rfl (by first|left;rfl|right;rfl) (aB lH (hr.mono (by decide)) rfl (aa (aB dN (hr.mono (by decide)) rfl (aa (pv 0) ah)) ah)))
   (aq (aD (iy (bA K (pv 1) (fun _=>rfl)) (a9 nX (aN (aa (gr dQ aA) ah)) (pv 1)) (aN ah)))))),?_⟩
 unfold ak.bB at kk
 refine⟨_,rfl,a,l,rfl,ha,l2,fun H1 s1=>⟨_,rfl,?_⟩⟩
 cases hn:ak.jf l with
 |false=>
  rw[if_pos hn] at kk
  exact bx ⟨_,rfl,aw (by simp),fun p hp=>kk _ _ (s1.trans (ay hp)) ⟨p,rfl,ai⟩⟩
 |true=>
  rw[if_neg (by rw[hn];simp)] at kk
  have ni:=DB hn
  refine bC ⟨_,rfl,a,l,rfl,s1.seq ha,ni.len,l2,ni.m7,fun z H2 s2 hz=> ?_⟩
  refine⟨_,ak.aW l,rfl,hz,by have:=ni.af;lia,ni.pin,fun q H3 hq s3 hq3=> ?_⟩
  have s13:=(s1.trans s2).trans s3
  refine⟨_,rfl,_,ET hq3,?_⟩
  cases hf:ak.fault (ak.aW l) with
  |nil=>
   rw[hf] at kk
   exact bC ⟨Nat.zero_le _,fun p hp=>kk _ _ (s13.trans (ay hp)) ⟨p,rfl,ai⟩⟩
  |cons x xs=>
   rw[hf] at kk hq3
   refine bx ⟨_,rfl,aw (by simp),fun p hp=> ?_⟩
   have s4:=ay (o:= .lst [.int (-2)]) hp
   have lx:xs.length≤1:=by
    have:∀m,(ak.fH (ak.aW l) m).length≤2:=fun m=>by
     induction m with
     |zero=>simp[ak.fH]
     |succ m ih=>
      unfold ak.fH
      dsimp only[]
      split
      ·simp
      ·exact ih
    have:=this (ak.aW l).af.length
    unfold ak.fault at hf
    rw[hf,List.length_cons] at this
    lia
   refine⟨_,rfl,p,q,_,_,rfl,rfl,ai,s4 _ _ hq3,aw (by simp;lia),fun p2 hp2=> ?_⟩
   exact kk _ _ (s13.trans (s4.trans (ay hp2))) ⟨p2,rfl,ai⟩
def J0(c:Cs)(H:Hp)(v:V)(q:ak.LG):Prop:=∃x dx r t b,v= .ref x∧H x=some (.ins c.ask dx (MS r t b))∧cN H r q.bB∧cN H t q.top∧cN H b q.aC
structure MZ(src what k:Int)(l:List Int):Prop where
 pt:ak.bB l=[]→MV (ak.aW l)
 dr:ak.bB l=[]→ak.gf (ak.aW l) src=true→ak.fC (ak.aW l) what k=true→∀p,ak.point (ak.aW l)=some p→Du (ak.bN (ak.aW l) p.1 src)∧∃s,ak.sol (ak.rows (ak.bN (ak.aW l) p.1 src))=some s∧qS s∧JW (ak.bN (ak.aW l) p.1 src) s what k
abbrev gK:Stmt:=top 122
theorem rf:aE ["source","what","k","net","refusal","network","point","setting","solution"] ["source","what","k","net"] (au gK):=sco rfl rfl rfl rfl (by decide +kernel)
def jN(K:PySem.W.Frag)(c:Cs):Sp:=fun vs H Q _=>∃src what k a l,vs=[.int src,.int what,.int k,.ref a]∧gn K H a (l.map V.int)∧l.length≤200∧0≤src∧0≤k∧MZ src what k l∧∀z H',aJ H H'→J0 c H' z (ak.bD src what k l)→Q z H'
theorem rg(T:Txt4 mg)(O:cK K c)(ie:bo P w K mg base "refusal_of_net" ["net"] 5 (kz K))(pR:EZ P w K mg base "Asked" c.ask ["self","refusal","top","bottom"] 1 (As c.ask))(dN:bo P w K mg base "read_network" ["net"] 3 (iR K c))(oY:bo P w K mg base "is_source" ["network","k"] 1 (sI c))(fh:bo P w K mg base "is_linear_quantity" ["network","what","k"] 1 (gU c))(gL:bo P w K mg base "operating_point" ["network"] 8 (jK c))(ig:bo P w K mg base "driven_setting" ["network","states","source"] 5 (kn c))(hX:bo P w K mg base "law_rows" ["setting"] 6 (oO c))(lS:bo P w K mg base "solved" ["rows"] 6 (uJ c))(jO:bo P w K mg base "quantity_top" ["setting","solution","what","k"] 6 (nh c))(G:dD K mg "driven_quantity" gK ["source","what","k","net"]):bo P w K mg base "driven_quantity" ["source","what","k","net"] 9 (jN K c):=by
 have sc:=rf
 refine G.eD sc (fun vs H Q E ⟨src,what,k,a,l,e,_⟩=>by rw[e];rfl) fun f cdv A outer s0 H vs Q E hr h=> ?_
 obtain⟨src,what,k,a,l,rfl,ha,l2,src0,k0,ok,kk⟩:=h
 refine⟨_,(aj (aH (i:=4) sc.nd rfl (by first|left;rfl|right;rfl) (aB ie (hr.mono (by decide)) rfl (aa (pv 3) ah)))
   (aj (bJ (bA K (pv 4) (fun _=>rfl)) (aq (aD (qj pR (hr.mono (by decide)) rfl (aa (pv 4) (aa (aN ah) (aa (aN ah) ah)))))) aT)
   (aj (aH (i:=5) sc.nd rfl (by first|left;rfl|right;rfl) (aB dN (hr.mono (by decide)) rfl (aa (pv 3) ah)))
   (aj (bJ (PW.pt (Cd (fL (bA K (aB oY (hr.mono (by decide)) rfl (aa (pv 5) (aa (pv 0) ah))) (fun _=>rfl))) (AJ (fL (bA K (aB fh (hr.mono (by decide)) rfl (aa (pv 5) (aa (pv 1) (aa (pv 2) ah)))) (fun _=>rfl)))))) (aq (aD (qj pR (hr.mono (by decide)) rfl (aa (aN (aa (gr dQ aA) ah)) (aa (aN ah) (aa (aN ah) ah)))))) aT)
   (aj (aH (i:=6) sc.nd rfl (by first|left;rfl|right;rfl) (aB gL (hr.mono (by decide)) rfl (aa (pv 5) ah)))
   (aj (bJ (AH (DT (pv 6))) (aq (aD (qj pR (hr.mono (by decide)) rfl (aa (aN (aa (gr dQ aA) ah)) (aa (aN ah) (aa (aN ah) ah)))))) aT)
   (aj (aH (i:=7) sc.nd rfl (by first|left;rfl|right;rfl) (aB ig (hr.mono (by decide)) rfl (aa (pv 5) (aa (ax K (pv 6) rfl) (aa (pv 0) ah)))))
   (aj (aH (i:=8) sc.nd rfl (by first|left;rfl|right;rfl) (aB lS (hr.mono (by decide)) rfl (aa (aB hX (hr.mono (by decide)) rfl (aa (pv 7) ah)) ah)))
   (aq (aD (qj pR (hr.mono (by decide)) rfl (aa (aN ah) (aa (aB jO (hr.mono (by decide)) rfl (aa (pv 7) (aa (pv 8) (aa (pv 1) (aa (pv 2) ah))))) (aa (ax K (pv 8) rfl) ah)))))))))))))),?_⟩
 unfold ak.bD at kk
 refine⟨_,rfl,a,l,rfl,ha,l2,fun z H1 s1 hz=> ?_⟩
 obtain⟨ra,rfl,hra⟩:=hz
 refine⟨_,rfl,_,ET hra,?_⟩
 by_cases h1:ak.bB l=[]
 rotate_left
 ·rw[g6 h1]
  rw[if_pos h1] at kk
  refine bx ⟨_,rfl,Nat.zero_le _,fun q1 hq1=>⟨Nat.zero_le _,fun q2 hq2=> ?_⟩⟩
  have s2:=ay (o:= .lst []) hq1
  have s3:=ay (o:= .lst []) hq2
  refine fun ox dx nx nd ne=>⟨ox,dx,_,_,_,rfl,ai,fun H3 k3 hx3=>⟨rfl,?_⟩⟩
  have s4:aJ _ H3:=aJ.made nx nd k3
  exact kk _ _ (s1.trans (s2.trans (s3.trans s4))) ⟨ox,dx,_,_,_,rfl,hx3,⟨ra,rfl,(s2.trans (s3.trans s4)) _ _ hra⟩,⟨q1,rfl,(s3.trans s4) _ _ ai⟩,⟨q2,rfl,s4 _ _ ai⟩⟩
 rw[if_neg (fun h=>h h1)] at kk
 have dB:ak.jf l=true:=by
  cases e:ak.jf l with
  |true=>rfl
  |false=>
   unfold ak.bB at h1
   rw[if_pos e] at h1
   cases h1
 have ni:=DB dB
 have ptin:=ok.pt h1
 rw[h1] at hra⊢
 refine bC ⟨_,rfl,a,l,rfl,s1.seq ha,ni.len,l2,ni.m7,fun z H2 s2 hz=> ?_⟩
 have s12:=s1.trans s2
 have bad:∀H',aJ H H'→(ak.gf (ak.aW l) src=false∨ak.fC (ak.aW l) what k=false)→∀q1 q2 q3 ox dx,H' q1=some (.lst [.int (-3)])→H' q2=some (.lst [])→H' q3=some (.lst [])→H' ox=some (.ins c.ask dx (MS (.ref q1) (.ref q2) (.ref q3)))→Q (.ref ox) H':=fun H' s hb q1 q2 q3 ox dx e1 e2 e3 e4=>by
  rw[if_pos hb] at kk
  exact kk _ _ s ⟨ox,dx,_,_,_,rfl,e4,⟨q1,rfl,e1⟩,⟨q2,rfl,e2⟩,⟨q3,rfl,e3⟩⟩
 refine⟨_,rfl,_,rfl,_,_,_,rfl,hz,src0,fun H3 s3=>⟨_,rfl,?_⟩⟩
 cases hsrc:ak.gf (ak.aW l) src with
 |false=>
  refine bx (bx ⟨_,rfl,aw (by simp),fun q1 hq1=>⟨Nat.zero_le _,fun q2 hq2=>⟨Nat.zero_le _,fun q3 hq3=> ?_⟩⟩⟩)
  have s4:=ay (o:= .lst [.int (-3)]) hq1
  have s5:=ay (o:= .lst []) hq2
  have s6:=ay (o:= .lst []) hq3
  refine fun ox dx nx nd ne=>⟨ox,dx,_,_,_,rfl,ai,fun H7 k7 hx7=>⟨rfl,?_⟩⟩
  have s7:aJ _ H7:=aJ.made nx nd k7
  exact bad _ (s12.trans (s3.trans (s4.trans (s5.trans (s6.trans s7))))) (.inl hsrc) q1 q2 q3 ox dx ((s5.trans (s6.trans s7)) _ _ ai) ((s6.trans s7) _ _ ai) (s7 _ _ ai) hx7
 |true=>
 refine bC ⟨_,rfl,_,rfl,_,rfl,_,_,_,_,rfl,hz.same s3,k0,fun H4 s4=>⟨_,rfl,?_⟩⟩
 have s34:=s3.trans s4
 cases hq:ak.fC (ak.aW l) what k with
 |false=>
  refine bx ⟨_,rfl,aw (by simp),fun q1 hq1=>⟨Nat.zero_le _,fun q2 hq2=>⟨Nat.zero_le _,fun q3 hq3=> ?_⟩⟩⟩
  have s4:=ay (o:= .lst [.int (-3)]) hq1
  have s5:=ay (o:= .lst []) hq2
  have s6:=ay (o:= .lst []) hq3
  refine fun ox dx nx nd ne=>⟨ox,dx,_,_,_,rfl,ai,fun H7 k7 hx7=>⟨rfl,?_⟩⟩
  have s7:aJ _ H7:=aJ.made nx nd k7
  exact bad _ (s12.trans (s34.trans (s4.trans (s5.trans (s6.trans s7))))) (.inr hq) q1 q2 q3 ox dx ((s5.trans (s6.trans s7)) _ _ ai) ((s6.trans s7) _ _ ai) (s7 _ _ ai) hx7
 |true=>
 clear bad
 rw[if_neg (by rw[hsrc,hq];simp)] at kk
 have hz4:=hz.same s34
 have s14:=s12.trans s34
 refine bC ⟨_,rfl,_,_,rfl,hz4,ptin,?_⟩
 cases hpt:ak.point (ak.aW l) with
 |none=>
  rw[hpt] at kk
  intro H5 s5
  refine⟨_,rfl,_,rfl,bx ⟨_,rfl,aw (by simp),fun q1 hq1=>⟨Nat.zero_le _,fun q2 hq2=>⟨Nat.zero_le _,fun q3 hq3=> ?_⟩⟩⟩⟩
  have s6:=ay (o:= .lst [.int (-4)]) hq1
  have s7:=ay (o:= .lst []) hq2
  have s8:=ay (o:= .lst []) hq3
  refine fun ox dx nx nd ne=>⟨ox,dx,_,_,_,rfl,ai,fun H9 k9 hx9=>⟨rfl,?_⟩⟩
  have s9:aJ _ H9:=aJ.made nx nd k9
  exact kk _ _ (s14.trans (s5.trans (s6.trans (s7.trans (s8.trans s9))))) ⟨ox,dx,_,_,_,rfl,hx9,⟨q1,rfl,(s7.trans (s8.trans s9)) _ _ ai⟩,⟨q2,rfl,(s8.trans s9) _ _ ai⟩,⟨q3,rfl,s9 _ _ ai⟩⟩
 |some p=>
  rw[hpt] at kk
  obtain⟨si,sl,hsl,shs,qin⟩:=ok.dr h1 hsrc hq p hpt
  intro zp H5 s5 hzp
  obtain⟨xa,xdx,vst,vsl,rfl,hxa,hbls,hsol⟩:=hzp
  refine⟨_,rfl,_,rfl,bC ?_⟩
  refine⟨_,rfl,_,rfl,xa,c.pt,xdx,_,_,rfl,hxa,O.pt.cl,O.pt.at_ 0 rfl,rfl,_,rfl,_,_,_,p.1,src,rfl,hz4.same s5,hbls,by have:=ni.af;lia,fun zg H6 s6 hzg=> ?_⟩
  refine⟨_,rfl,_,_,rfl,hzg,si.Qu,si.l0,si.l1,si.Qv,si.Qw,si.Qx,fun zt H7 s7 hzt=> ?_⟩
  refine⟨_,_,rfl,GB.less hzt (fun a h=>h.elim),si.len,si.ue,si.run,?_⟩
  have kk2:∀z H',aJ H H'→J0 c H' z ⟨[],ak.fM (ak.bN (ak.aW l) p.1 src) sl what k,sl.1⟩→Q z H':=fun z H' s h=>by
   refine kk z H' s ?_
   show J0 c H' z (match ak.sol (ak.rows (ak.bN (ak.aW l) p.1 src)) with
    |none=>⟨[],[],[]⟩
    |some s=>⟨[],ak.fM (ak.bN (ak.aW l) p.1 src) s what k,s.1⟩)
   rw[hsl]
   exact h
  rw[hsl]
  intro zs H8 s8 hzs
  obtain⟨ya,ydx,vd,vt,rfl,hya,hvd,_⟩:=id hzs
  refine⟨Nat.zero_le _,fun q1 hq1=> ?_⟩
  have s9:=ay (o:= .lst []) hq1
  refine⟨_,rfl,_,rfl,_,rfl,_,rfl,_,_,_,sl,what,k,rfl,hzs.same s9,shs,hzg.same (s7.trans (s8.trans s9)),qin,fun zq H10 s10 hzq=> ?_⟩
  have s910:=s9.trans s10
  refine⟨_,rfl,ya,c.sol,ydx,_,_,rfl,s910 _ _ hya,O.sol.cl,O.sol.at_ 0 rfl,rfl,?_⟩
  refine fun ox dx nx nd ne=>⟨ox,dx,_,_,_,rfl,ai,fun H11 k11 hx11=>⟨rfl,?_⟩⟩
  have s11:aJ _ H11:=aJ.made nx nd k11
  exact kk2 _ _ (s14.trans (s5.trans (s6.trans (s7.trans (s8.trans (s910.trans s11)))))) ⟨ox,dx,_,_,_,rfl,hx11,⟨q1,rfl,(s10.trans s11) _ _ ai⟩,hzq.same s11,hvd.same (s910.trans s11)⟩
end
theorem DC{l:List Int}{b:Nat}(h:ak.gS l≤2^b){x:Int}(hx:x∈l):Sz (b+1) x:=by
 unfold Sz
 have h1:=ak.Bw hx
 have h2:2^(b+1)=2^b*2:=Nat.pow_succ 2 b
 have h3:1≤2^b:=Nat.one_le_two_pow
 lia
theorem M0{l:List Int}(h:l≠[]):ak.lc l∈l:=by
 unfold ak.lc
 exact ak.memD (by have:=List.length_pos_iff.mpr h;lia)
theorem M1{x b:Nat}(h:x≤2^b)(hb:b+1<9000):x.log2<9000:=by
 by_cases h0:x=0
 ·rw[h0]
  decide
 ·rw[Nat.log2_lt h0]
  refine Nat.lt_of_le_of_lt h ?_
  exact Nat.pow_lt_pow_right (by decide) (by lia)
theorem BR{l:List Int}{b:Nat}(h:ak.gS l≤2^b):Sz (b+1) (ak.bF l):=by
 cases l with
 |nil=>
  unfold Sz
  show 0<2^(b+1)
  exact Nat.two_pow_pos _
 |cons a l=>exact DC h List.mem_cons_self
theorem Sz.mono{m n:Nat}{z:Int}(h:Sz m z)(hmn:m≤n):Sz n z:=Nat.lt_of_lt_of_le h (Nat.pow_le_pow_right (by decide) hmn)
theorem Fj{l r:List Int}(hl:ak.EB l)(hr:ak.EB r):∀x∈l,∀y∈r,IntMulOk x y:=fun x hx y hy=>(DC hl.gS hx).mul (DC hr.gS hy) (by decide)
theorem J1{n:Nat}(hn:n≤28){A:Nat→Nat→ak.PF}(hA:∀i j,i<n→j<n+1→ak.Bd (A i j) 1 (2^246)):∀(f k:Nat) (t:List (List (List Int))) (before:List Int) (σ:Nat→Nat) (ε:ak.PF),f+k=n→ak.Nh n k A t before σ ε→yb f k t before
 |0,_,_,_,_,_,_,_=>trivial
 |f+1,k,t,before,σ,ε,hf,S=>by
  intro c hc
  have hk:k<n:=by lia
  have tl:=S.tab.len
  obtain⟨c1,c2,c3⟩:=ak.mh t k _ c (by lia) hc
  have hI:∀i j,i<n→j<n+1→ak.fD (A i j):=fun i j hi hj=>by
   obtain⟨l,tl,e,_,_⟩:=(hA i j hi hj).ex
   exact⟨l,tl,e⟩
  refine⟨fun i hi hik j hj hjl=> ?_,?_⟩
  ·have hi2:i<n:=by lia
   have hjn:j<n+1:=by
    have e:(ak.i9 t c k).getD i []=t.getD (ak.sw c k i) []:=ak.wo t c k i (by lia) (by lia)
    rw[e,S.tab.row _ (ak.j5 (by lia) hk hi2)] at hjl
    exact hjl
   obtain⟨eB,bne,e1,e2,e3,e4,m,tm,em,hm⟩:=ak.Jw hn hA hk S c (by lia) (by lia) c3 hi2 hik hj hjn
   have s:∀l,ak.EB l→l.length<100000:=fun l h=>by have:=h.len;lia
   refine⟨s _ e1,s _ e2,s _ e3,s _ e4,s _ eB,Fj e1 e2,Fj e3 e4,S.CN,bne,?_,m,tm,hm,Fj em eB⟩
   exact M1 (Nat.le_trans (ak.Bw (M0 bne)) eB.gS) (by decide)
  ·obtain⟨ε',S'⟩:=ak.CO hI hk S c (by lia) (by lia) c3
   exact J1 hn hA f (k+1) _ _ _ ε' (by lia) S'
section
variable {n:ak.Nw}(R:ak.Right n){g:ak.gk}(S:ak.Hm n g){G:Wh.Setting}(S2:ak.gY n g G)(hst:g.cQ.length=n.af.length)(hdr:g.drives.length=n.af.length)
include R S S2 hst hdr
theorem J2:Du g:=by
 have hn:=S.aO
 have un:=ak.Ju R
 have p10:=R.af
 have l1:=R.l1
 have l8:=R.l8
 have al:(ak.dh g).length=(ak.ao n).unknowns:=by rw[(ak.pJ R S2).len,ak.d4]
 have tab:=ak.rY R S2
 have gp:∀k,pat g k=n.af.getD k ak.p0:=fun k=>by
  show g.aO.af.getD k ak.p0=_
  rw[hn]
 refine⟨⟨by rw[hn];lia,by rw[hn];exact hst,by rw[hn];exact hdr,S.s⟩,by rw[hn];lia,by rw[hn];lia,?_,?_,?_,?_,?_,?_⟩
 ·intro p hp h3
  rw[hn] at hp⊢
  obtain⟨i,hi,e⟩:=List.getElem_of_mem hp
  have ep:n.af.getD i ak.p0=p:=by rw[gDe,List.getElem?_eq_getElem hi,e];rfl
  have ab:=R.ab hi (by rw[ep];exact h3)
  have cd:=R.cd hi
  have pp:=R.p hi
  rw[ep] at ab cd pp
  exact⟨⟨pp.a0,ab.1⟩,⟨pp.b0,ab.2⟩,fun h10=>⟨⟨pp.c0,(cd (.inr (.inr (.inl h10)))).1⟩,⟨pp.d0,(cd (.inr (.inr (.inl h10)))).2⟩⟩⟩
 ·intro k hk
  rw[hn] at hk
  have pp:=R.p hk
  have fo:=R.Ni hk
  refine⟨?_,?_,?_⟩
  ·rw[gp];exact⟨pp.k0,pp.k1⟩
  ·intro h2
   rw[gp] at h2
   intro x hx
   rw[hn] at hx⊢
   exact ak.xi R h2 hk x hx
  ·intro h8
   rw[gp] at h8
   show 0≤(pat g k).c∧(pat g k).c<(g.aO.af.length:Int)
   rw[gp,hn]
   have:=(fo h8).1
   exact⟨pp.c0,by lia⟩
 ·refine⟨?_,?_,fun ts hts t ht=> ?_,by lia⟩
  ·rw[hn,R.ue];lia
  ·rw[hn,R.ue];lia
  ·obtain⟨h1,h2,h3,_⟩:=(ak.Jt R S ts hts).1.at_ t ht
   rw[hn]
   exact⟨h1,h2,by lia⟩
 ·rw[tab.len];lia
 ·intro i hi
  rw[tab.len] at hi⊢
  exact tab.row i hi
 ·rw[tab.len]
  exact J1 un (fun i j hi hj=>ak.Gu R S S2 hi hj) _ 0 _ _ _ 1 (by lia) (ak.zS _ _ tab)
end
theorem J3{n:ak.Nw}(R:ak.Right n){st:List Bool}(h:st∈ak.bg n.af [[]]):Du (iH n st):=by
 obtain⟨r,hr⟩:=ak.Dd h
 exact J2 R (ak.LP R st) (ak.EG R hr) hr.1 (lMp ..)
theorem Aw{d:List Int}{tops:List (List Int)}{u:Nat}(hl:tops.length=u)(h1:d.length≤29)(h2:∀c,c<u→(tops.getD c []).length≤29):qS (d,tops):=by
 refine⟨by show d.length<_;lia,fun l hl'=> ?_⟩
 obtain⟨i,hi,e⟩:=List.getElem_of_mem hl'
 have:=h2 i (by have:i<tops.length:=hi;lia)
 rw[gDe,List.getElem?_eq_getElem hi] at this
 rw[←e]
 show(tops[i]).length<_
 have h3:(tops[i]).length≤29:=this
 lia
theorem Lf{n:ak.Nw}(R:ak.Right n){g:ak.gk}{G:Wh.Setting}(S2:ak.gY n g G){d:List Int}{tops:List (List Int)}(h:ak.sol (ak.rows g)=some (d,tops)):tops.length=(ak.ao n).unknowns:=by
 rcases ak.Ek (ak.rY R S2) with⟨d',tops',e,so⟩ |⟨e,_⟩
 ·rw[h] at e
  cases e
  exact so.len
 ·rw[h] at e
  cases e
theorem OI{n:ak.Nw}(R:ak.Right n):MV n:=by
 refine⟨R.af,fun st h=>J3 R h,fun st h s hs k hk h13=> ?_⟩
 obtain⟨r,hr⟩:=ak.Dd h
 obtain⟨d,tops⟩:=s
 have S2:=ak.EG R hr
 obtain⟨⟨b1,b2⟩,b3⟩:=ak.EL R (ak.LP R st) S2 hs
 have tl:tops.length=(ak.ao n).unknowns:=Lf R S2 hs
 have pp:=R.p hk
 have k3:(n.af.getD k ak.p0).kind≠3:=by
  have:(n.af.getD k ak.p0).kind=13:=h13
  lia
 have ab:=R.ab hk k3
 have nl:=ak.jk n
 have l1:=R.l1
 have pl:=R.place hk
 have al:=ak.lO R hk k3
 have e:(ak.places (iH n st).aO).getD k 0=(((ak.ao n).at_ k:Nat):Int):=pl
 have nd:∀v:Int,v≤n.last→ak.gS (ak.cz (d,tops) v)≤2^7028:=fun v hv=>by
  unfold ak.cz
  by_cases h:0<v
  ·rw[if_pos h]
   exact(b3 _ (by lia)).2
  ·rw[if_neg h]
   exact Nat.zero_le _
 refine⟨hk,hr.1,?_,?_,?_,?_,Aw tl b1 (fun c hc=>(b3 c hc).1),?_,?_,?_,?_,?_⟩
 ·rw[e];lia
 ·rw[e]
  show _<(tops.length:Int)
  lia
 ·show(n.af.getD k ak.p0).a≤(tops.length:Int)
  have:=ab.1
  lia
 ·show(n.af.getD k ak.p0).b≤(tops.length:Int)
  have:=ab.2
  lia
 ·exact(BR b2).mono (by decide)
 ·unfold ak.gv
  rw[e,Int.toNat_natCast]
  exact(BR (b3 _ al).2).mono (by decide)
 ·unfold ak.gw ak.pB
  refine(BR (b:=7029) ?_).mono (by decide)
  unfold ak.rP ak.A6
  refine Nat.le_trans (ak.Bu _) (Nat.le_trans (ak.oB _ _) ?_)
  rw[ak.Bv,show(7029:Nat)=7028+1 from rfl,Nat.pow_succ]
  have h1:=nd _ ab.1
  have h2:=nd _ ab.2
  have e2:(iH n st).aO=n:=rfl
  rw[e2]
  generalize (2:Nat)^7028=X at h1 h2⊢
  lia
 ·exact Ld pp.t
 ·refine Ld ?_
  have h1:=pp.b1
  have h2:=pp.b2
  show(n.af.getD k ak.p0).aC.natAbs≤_
  lia
theorem M3{n:ak.Nw}(R:ak.Right n){st:List Bool}{src:Int}{d:List Int}{tops:List (List Int)}(tl:tops.length=(ak.ao n).unknowns){what k:Int}(k0:0≤k)(hq:ak.fC n what k=true):JW (ak.bN n st src) (d,tops) what k:=by
 have nl:=ak.jk n
 have l1:=R.l1
 unfold ak.fC at hq
 refine⟨fun h0=> ?_,fun h0=> ?_⟩
 ·rw[if_pos h0] at hq
  have:=of_decide_eq_true hq
  show k≤(tops.length:Int)
  lia
 ·rw[if_neg h0] at hq
  by_cases hw:what=1∨what=2
  ·rw[if_pos hw] at hq
   obtain⟨q1,q2⟩:=(Bool.and_eq_true _ _).mp hq
   have q1:=of_decide_eq_true q1
   have q2:=of_decide_eq_true q2
   have hk:k.toNat<n.af.length:=by lia
   unfold ak.kindAt at q2
   have ab:=R.ab hk q2
   have al:=ak.lO R hk q2
   have e:(ak.places (ak.bN n st src).aO).getD k.toNat 0=(((ak.ao n).at_ k.toNat:Nat):Int):=R.place hk
   refine⟨k0,q1,?_,?_,?_,?_⟩
   ·rw[e];lia
   ·rw[e]
    show _<(tops.length:Int)
    lia
   ·show(n.af.getD k.toNat ak.p0).a≤(tops.length:Int)
    have:=ab.1
    lia
   ·show(n.af.getD k.toNat ak.p0).b≤(tops.length:Int)
    have:=ab.2
    lia
  ·rw[if_neg hw] at hq
   cases hq
theorem BS{n:ak.Nw}(R:ak.Right n){st:List Bool}{r:List Nat}(hr:ak.nA 0 n.af.length st r){src:Int}(s0:0≤src)(hs:ak.gf n src=true):Du (ak.bN n st src):=by
 refine J2 R (ak.uj st src) (ak.mr R hr s0 hs) hr.1 ?_
 show((List.range n.af.length).map _).length=_
 simp
theorem OJ{src what k:Int}(s0:0≤src)(k0:0≤k)(l:List Int):MZ src what k l:=by
 refine⟨fun hr=>OI (ak.right_of hr).1,fun hr h1 h2 p hp=> ?_⟩
 obtain⟨R,_⟩:=ak.right_of hr
 obtain⟨d,tops,r,_,hst,es,D⟩:=ak.BB hr s0 h1 hp
 have S2:=ak.mr R hst s0 h1
 obtain⟨⟨b1,b2⟩,b3⟩:=ak.EL R (ak.uj p.1 src) S2 es
 exact⟨BS R hst s0 h1,(d,tops),es,Aw D.len b1 (fun c hc=>(b3 c hc).1),M3 R D.len k0 h2⟩
structure TxtV(mg:Str→Option Value):Prop extends Txt4 mg where
 jP:∃t,mg "NUMBERS_OF_S"=some (.int 4 t)
 iS:∃t,mg "MOST_TOP_OF_S"=some (.int 1000 t)
 fU:∃t,mg "MOST_BOTTOM_OF_S"=some (.int 1000 t)
def OK(H:Hp)(v:V)(z:Int×Int):Prop:=∃a,v= .ref a∧H a=some (.tup [.int z.1,.int z.2])
def OL(H:Hp)(Q:VK)(z:Int×Int):Prop:=∀p H',H p=none→aJ H H'→H' p=some (.tup [.int z.1,.int z.2])→Q (.ref p) H'
theorem Sz.up{b c:Nat}{z:Int}(h:Sz b z)(l:b≤c):Sz c z:=Nat.lt_of_lt_of_le h (Nat.pow_le_pow_right (by decide) l)
theorem Sz.times{a b:Int}{m n:Nat}(ha:Sz m a)(hb:Sz n b):Sz (m+n) (a*b):=by
 unfold Sz at *
 rw[Int.natAbs_mul,Nat.pow_add]
 exact Nat.mul_lt_mul'' ha hb
theorem Sz.plus{a b:Int}{m:Nat}(ha:Sz m a)(hb:Sz m b):Sz (m+1) (a+b):=by
 unfold Sz at *
 rw[Nat.pow_succ]
 lia
theorem Sz.neg{a:Int}{m:Nat}(ha:Sz m a):Sz m (-a):=by
 unfold Sz at *
 rw[Int.natAbs_neg]
 exact ha
theorem Sz.minus{a b:Int}{m:Nat}(ha:Sz m a)(hb:Sz m b):Sz (m+1) (a - b):=by
 rw[Int.sub_eq_add_neg]
 exact ha.plus hb.neg
theorem J4{pl:Int×Int}{c:Int}{b:Nat}(h1:Sz 20 pl.1)(h2:Sz 20 pl.2)(hc:Sz 20 c):∀p:ak.bw,(∀x∈p,Sz b x)→Sz (b+22*p.length) (ak.jn pl c p).1.1∧Sz (b+22*p.length) (ak.jn pl c p).1.2∧Sz (20*p.length+1) (ak.jn pl c p).2
 |[],_=>by
  have z:Sz (b+22*0) 0:=by
   show(0:Int).natAbs<2^(b+22*0)
   exact Nat.pow_pos (by decide)
  exact⟨z,z,by show(1:Int).natAbs<2^1;decide⟩
 |x::p,h=>by
  obtain⟨r1,r2,rw_⟩:=J4 h1 h2 hc p fun x m=>h x (List.mem_cons_of_mem _ m)
  have hx:=h x List.mem_cons_self
  have ew:ak.jn pl c (x::p)=ak.um pl c x (ak.jn pl c p):=rfl
  rw[ew]
  unfold ak.um ak.Gw
  rw[List.length_cons]
  refine⟨?_,?_,?_⟩
  ·exact(((r1.times h1).minus (r2.times h2)).plus ((hx.times rw_).up (by lia))).up (by lia)
  ·exact((r1.times h2).plus (r2.times h1)).up (by lia)
  ·exact(rw_.times hc).up (by lia)
section
variable {P:Program}{w:World}{K:PySem.W.Frag}{mg:Str→Option Value}{base:Heap}{c:Cs}
abbrev gM:Stmt:=top 82
theorem rh:aE ["left","right"] ["left","right"] (au gM):=sco rfl rfl rfl rfl (by decide +kernel)
def fV:Sp:=fun vs H Q _=>∃v u l r,vs=[v,u]∧OK H v l∧OK H u r∧IntMulOk l.1 r.1∧IntMulOk l.2 r.2∧IntMulOk l.1 r.2∧IntMulOk l.2 r.1∧OL H Q (ak.Gw l r)
theorem rm(G:dD K mg "complex_product" gM ["left","right"]):bo P w K mg base "complex_product" ["left","right"] 1 fV:=by
 have sc:=rh
 refine G.eD sc (fun vs H Q E ⟨v,u,l,r,e,_⟩=>by rw[e];rfl) fun f cdv A outer s H vs Q E hr h=> ?_
 obtain⟨v,u,l,r,rfl,⟨a,rfl,ha⟩,⟨b,rfl,hb⟩,m1,m2,m3,m4,k⟩:=h
 refine⟨_,(aq (aD (bY (aa (a9 iI (a9 bW (aK (yF K) (pv 0) aA (fun _ _=>rfl)) (aK (yF K) (pv 1) aA (fun _ _=>rfl))) (a9 bW (aK (yF K) (pv 0) aA (fun _ _=>rfl)) (aK (yF K) (pv 1) aA (fun _ _=>rfl)))) (aa (a9 eV (a9 bW (aK (yF K) (pv 0) aA (fun _ _=>rfl)) (aK (yF K) (pv 1) aA (fun _ _=>rfl))) (a9 bW (aK (yF K) (pv 0) aA (fun _ _=>rfl)) (aK (yF K) (pv 1) aA (fun _ _=>rfl)))) ah))))),?_⟩
 refine⟨_,rfl,a,_,_,_,rfl,rfl,.of ha,aG (j:=0) rfl rfl,_,rfl,b,_,_,_,rfl,rfl,.of hb,aG (j:=0) rfl rfl,_,_,rfl,rfl,m1,?_⟩
 refine⟨_,rfl,a,_,_,_,rfl,rfl,.of ha,aG (j:=1) rfl rfl,_,rfl,b,_,_,_,rfl,rfl,.of hb,aG (j:=1) rfl rfl,_,_,rfl,rfl,m2,_,_,rfl,rfl,?_⟩
 refine⟨_,rfl,a,_,_,_,rfl,rfl,.of ha,aG (j:=0) rfl rfl,_,rfl,b,_,_,_,rfl,rfl,.of hb,aG (j:=1) rfl rfl,_,_,rfl,rfl,m3,?_⟩
 refine⟨_,rfl,a,_,_,_,rfl,rfl,.of ha,aG (j:=1) rfl rfl,_,rfl,b,_,_,_,rfl,rfl,.of hb,aG (j:=0) rfl rfl,_,_,rfl,rfl,m4,_,_,rfl,rfl,?_⟩
 exact⟨aw (by show 2≤16777216;decide),fun p hp=>k p _ hp (ay hp) ai⟩
abbrev fW:Stmt:=top 79
theorem pZ:aE ["top","bottom"] ["top","bottom"] (au fW):=sco rfl rfl rfl rfl (by decide +kernel)
def iX:Sp:=fun vs H Q _=>∃t b:Int,vs=[.int t,.int b]∧Q (.bl (ak.vE t b)) H
theorem p8(T:TxtV mg)(G:dD K mg "is_fraction_of_s" fW ["top","bottom"]):bo P w K mg base "is_fraction_of_s" ["top","bottom"] 1 iX:=by
 have sc:=pZ
 refine G.eD sc (fun vs H Q E ⟨t,b,e,_⟩=>by rw[e];rfl) fun f cdv A outer s H vs Q E hr h=> ?_
 obtain⟨t,b,rfl,k⟩:=h
 refine⟨_,(aq (aD (nS (bV jd (aY rJ rfl T.Ao l5 (aa (pv 0) ah)) (gc T.iS) (aZ _)) (nR (wC jd jd aA (pv 1) (gc T.fU)))))),?_⟩
 unfold ak.vE at k
 refine⟨_,rfl,_,rfl,_,_,rfl,rfl,_,rfl,?_⟩
 show if(decide ((if t<0 then -t else t)≤((1000:Nat):Int)))=true then _ else _
 rw[MQ]
 by_cases h1:(t.natAbs:Int)≤1000
 rotate_left
 ·rw[decide_eq_false h1] at k
  rw[decide_eq_false (show ¬(t.natAbs:Int)≤((1000:Nat):Int) from h1)]
  exact bC k
 rw[decide_eq_true h1] at k
 rw[decide_eq_true (show(t.natAbs:Int)≤((1000:Nat):Int) from h1)]
 refine bx ⟨_,rfl,_,_,rfl,rfl,_,rfl,?_⟩
 by_cases h2:1≤b
 rotate_left
 ·rw[decide_eq_false h2] at k⊢
  exact bC k
 rw[decide_eq_true h2] at k⊢
 exact bx ⟨_,_,rfl,rfl,k⟩
abbrev fX:Stmt:=top 78
theorem p9:aE ["s"] ["s"] (au fX):=sco rfl rfl rfl rfl (by decide +kernel)
def iY(K:PySem.W.Frag):Sp:=fun vs H Q _=>∃a l,vs=[.ref a]∧gn K H a (l.map V.int)∧Q (.bl (ak.g5 l)) H
theorem qe(T:TxtV mg)(dY:bo P w K mg base "is_fraction_of_s" ["top","bottom"] 1 iX)(G:dD K mg "is_frequency_row" fX ["s"]):bo P w K mg base "is_frequency_row" ["s"] 2 (iY K):=by
 have sc:=p9
 refine G.eD sc (fun vs H Q E ⟨a,l,e,_⟩=>by rw[e];rfl) fun f cdv A outer s H vs Q E hr h=> ?_
 obtain⟨a,l,rfl,ha,k⟩:=h
 refine⟨_,(aq (aD (nS (bV de (aY (br K) rfl T.dz bb (aa (pv 0) ah)) (gc T.jP) (aZ _)) (nS (aB dY (hr.mono (by decide)) rfl (aa (aK (dR K) (pv 0) aA (fun _ _=>rfl)) (aa (aK (dR K) (pv 0) aA (fun _ _=>rfl)) ah))) (nR (aB dY (hr.mono (by decide)) rfl (aa (aK (dR K) (pv 0) aA (fun _ _=>rfl)) (aa (aK (dR K) (pv 0) aA (fun _ _=>rfl)) ah)))))))),?_⟩
 unfold ak.g5 at k
 refine⟨_,rfl,a,_,rfl,.inl ha,rfl,_,rfl,?_⟩
 rw[lMp]
 by_cases h4:l.length=4
 rotate_left
 ·rw[decide_eq_false h4] at k
  rw[show decide (V.int (l.length:Int)=V.int 4)=false from decide_eq_false fun e=>h4 (by have:=V.int.inj e;lia)]
  exact bC k
 rw[decide_eq_true h4,Bool.true_and] at k
 rw[show decide (V.int (l.length:Int)=V.int 4)=true from decide_eq_true (by rw[h4];rfl)]
 refine bx ⟨_,rfl,a,_,_,_,rfl,rfl,ha,aG (j:=0) rfl (cu (by lia)),_,rfl,a,_,_,_,rfl,rfl,ha,aG (j:=1) rfl (cu (by lia)),_,_,rfl,_,rfl,?_⟩
 cases e:ak.vE (l.getD 0 0) (l.getD 1 0) with
 |false=>
  rw[e] at k
  exact bC k
 |true=>
  rw[e] at k
  exact bx ⟨_,rfl,a,_,_,_,rfl,rfl,ha,aG (j:=2) rfl (cu (by lia)),_,rfl,a,_,_,_,rfl,rfl,ha,aG (j:=3) rfl (cu (by lia)),_,_,rfl,k⟩
structure Fr(s:List Int):Prop where
 len:s.length=4
 le:∀j,j<4→(s.getD j 0).natAbs≤1000
theorem Fr.mul{s:List Int}(h:Fr s){i j:Nat}(hi:i<4)(hj:j<4):Sz 20 (s.getD i 0*s.getD j 0):=by
 have a:=h.le i hi
 have b:=h.le j hj
 have x:Sz 10 (s.getD i 0):=by unfold Sz;lia
 have y:Sz 10 (s.getD j 0):=by unfold Sz;lia
 exact x.times y
theorem Fr.ok{s:List Int}(h:Fr s){i j:Nat}(hi:i<4)(hj:j<4):IntMulOk (s.getD i 0) (s.getD j 0):=by
 have a:=h.le i hi
 have b:=h.le j hj
 have x:Sz 10 (s.getD i 0):=by unfold Sz;lia
 have y:Sz 10 (s.getD j 0):=by unfold Sz;lia
 exact x.mul y (by decide)
theorem J5{p:ak.bw}{n b:Nat}(h:∀x∈p,Sz b x):∀x∈ak.g4 p n,Sz b x:=by
 intro x hx
 rcases List.mem_append.mp hx with m |m
 ·exact h x m
 ·rw[List.eq_of_mem_replicate m]
  exact Nat.pow_pos (by decide)
theorem GI{p:ak.bw}{n:Nat}(h:p.length≤n):(ak.g4 p n).length=n:=by
 unfold ak.g4
 rw[List.length_append,List.length_replicate]
 lia
abbrev lI:Stmt:=top 81
theorem yp:aE ["polynomial","s","powers","common","place","padded","result","weight","x","turned"] ["polynomial","s","powers"] (au lI):=sco rfl rfl rfl rfl (by decide +kernel)
def oZ(K:PySem.W.Frag):Sp:=fun vs H Q _=>∃v u p s n b,vs=[v,.ref u,.int ((n:Nat):Int)]∧cN H v p∧gn K H u (s.map V.int)∧Fr s∧p.length≤n∧n≤1000∧(∀x∈p,Sz b x)∧b≤1000000∧OL H Q (ak.xx p s n)
theorem yq(T:TxtV mg)(cJ:bo P w K mg base "complex_product" ["left","right"] 1 fV)(G:dD K mg "whole_value" lI ["polynomial","s","powers"]):bo P w K mg base "whole_value" ["polynomial","s","powers"] 2 (oZ K):=by
 have sc:=yp
 refine G.eD sc (fun vs H Q E ⟨v,u,p,s,n,b,e,_⟩=>by rw[e];rfl) fun f cdv A outer s0 H vs Q E hr h=> ?_
 obtain⟨v,u,p,s,n,b,rfl,⟨a,rfl,ha⟩,hu,fr,l1,l2,hp,hb,k⟩:=h
 refine⟨_,(aj (aH (i:=3) sc.nd rfl (by first|left;rfl|right;rfl) (a9 bW (aK (dR K) (pv 1) aA (fun _ _=>rfl)) (aK (dR K) (pv 1) aA (fun _ _=>rfl))))
   (aj (aH (i:=4) sc.nd rfl (by first|left;rfl|right;rfl) (bY (aa (a9 bW (aK (dR K) (pv 1) aA (fun _ _=>rfl)) (aK (dR K) (pv 1) aA (fun _ _=>rfl))) (aa (a9 bW (aK (dR K) (pv 1) aA (fun _ _=>rfl)) (aK (dR K) (pv 1) aA (fun _ _=>rfl))) ah))))
   (aj (aH (i:=5) sc.nd rfl (by first|left;rfl|right;rfl) (a9 nX (pv 0) (a9 AU (aN (aa aA ah)) (a9 iI (pv 2) (aY (br K) rfl T.dz bb (aa (pv 0) ah))))))
   (aj (aH (i:=6) sc.nd rfl (by first|left;rfl|right;rfl) (bY (aa aA (aa aA ah))))
   (aj (aH (i:=7) sc.nd rfl (by first|left;rfl|right;rfl) aA)
   (aj (cX PassesOwn.never rfl (Cv rfl T.qI (aa (pv 5) ah)) (aQ (i:=8) sc.nd rfl (Or.inl rfl)) (aj (aH (i:=9) sc.nd rfl (by first|left;rfl|right;rfl) (aB cJ (hr.mono (by decide)) rfl (aa (pv 6) (aa (pv 4) ah))))
   (aj (aH (i:=6) sc.nd rfl (by first|left;rfl|right;rfl) (bY (aa (a9 eV (aK (yF K) (pv 9) aA (fun _ _=>rfl)) (a9 bW (pv 8) (pv 7))) (aa (aK (yF K) (pv 9) aA (fun _ _=>rfl)) ah))))
   (aq (AK (i:=7) sc.nd rfl (Or.inl rfl) (pv 3) FQ)))))
   (aq (aD (pv 6))))))))),?_⟩
 have fl:=fr.len
 refine⟨_,rfl,u,_,_,_,rfl,rfl,hu,aG (j:=1) rfl (cu (by lia)),_,rfl,u,_,_,_,rfl,rfl,hu,aG (j:=3) rfl (cu (by lia)),_,_,rfl,rfl,fr.ok (by decide) (by decide),?_⟩
 refine⟨_,rfl,u,_,_,_,rfl,rfl,hu,aG (j:=0) rfl (cu (by lia)),_,rfl,u,_,_,_,rfl,rfl,hu,aG (j:=3) rfl (cu (by lia)),_,_,rfl,rfl,fr.ok (by decide) (by decide),?_⟩
 refine⟨_,rfl,u,_,_,_,rfl,rfl,hu,aG (j:=2) rfl (cu (by lia)),_,rfl,u,_,_,_,rfl,rfl,hu,aG (j:=1) rfl (cu (by lia)),_,_,rfl,rfl,fr.ok (by decide) (by decide),?_⟩
 refine⟨aw (by show 2≤16777216;decide),fun q hq=> ?_⟩
 have s1:=ay (o:= .tup [.int (s.getD 0 0*s.getD 3 0),.int (s.getD 2 0*s.getD 1 0)]) hq
 refine⟨_,rfl,aw (by show 1≤16777216;decide),fun q1 hq1=> ?_⟩
 have s2:=ay (o:= .lst [.int 0]) hq1
 have s12:=s1.trans s2
 refine⟨_,rfl,_,rfl,a,_,rfl,.inl (.of (s12 _ _ ha)),_,_,rfl,rfl,?_⟩
 rw[lMp]
 have en:((n:Int) - (p.length:Int)).toNat=n - p.length:=by lia
 refine⟨q1,_,_,rfl,rfl,ai,by lia,by lia,?_,fun q2 hq2=> ?_⟩
 ·rw[en]
  exact aw (by show 1*(n - p.length)≤16777216;lia)
 have ef:(List.replicate ((n:Int) - (p.length:Int)).toNat [V.int 0]).flatten=(List.replicate (n - p.length) (0:Int)).map V.int:=by
  rw[en]
  generalize n - p.length=m
  induction m with
  |zero=>rfl
  |succ m ih=>rw[List.replicate_succ,List.flatten_cons,ih,List.replicate_succ];rfl
 rw[ef]
 have s3:=ay (o:= .lst ((List.replicate (n - p.length) (0:Int)).map V.int)) hq2
 have s13:=s12.trans s3
 refine⟨a,q2,_,_,rfl,rfl,s13 _ _ ha,ai,?_,fun q3 hq3=> ?_⟩
 ·rw[lMp,lMp,List.length_replicate]
  exact aw (by lia)
 have ep:p.map V.int ++ (List.replicate (n - p.length) (0:Int)).map V.int=(ak.g4 p n).map V.int:=by
  unfold ak.g4
  rw[List.map_append]
 rw[ep]
 have s4:=ay (o:= .lst ((ak.g4 p n).map V.int)) hq3
 have s14:=s13.trans s4
 refine⟨aw (by show 2≤16777216;decide),fun q4 hq4=> ?_⟩
 have s5:=ay (o:= .tup [.int 0,.int 0]) hq4
 have s15:=s14.trans s5
 have hpad:upd _ q4 (.tup [.int 0,.int 0]) q3=some (.lst ((ak.g4 p n).map V.int)):=s5 _ _ ai
 have hpl:upd _ q4 (.tup [.int 0,.int 0]) q=some (.tup [.int (s.getD 0 0*s.getD 3 0),.int (s.getD 2 0*s.getD 1 0)]):=(s2.trans (s3.trans (s4.trans s5))) _ _ ai
 have pz:=J5 (n:=n) hp
 have pl:=GI l1
 refine⟨_,rfl,q3,_,rfl,.of hpad,fA (Mx (K:=K) (.of hpad)) (fun i σ H'=>∃r x8 x9,σ=[some (.ref a),some (.ref u),some (.int (n:Int)),some (.int (s.getD 1 0*s.getD 3 0)),some (.ref q),some (.ref q3),some (.ref r),some (.int (ak.jn (s.getD 0 0*s.getD 3 0,s.getD 2 0*s.getD 1 0) (s.getD 1 0*s.getD 3 0) ((ak.g4 p n).drop (n - i))).2),x8,x9]∧aJ (upd _ q4 (.tup [.int 0,.int 0])) H'∧H r=none∧H' r=some (.tup [.int (ak.jn (s.getD 0 0*s.getD 3 0,s.getD 2 0*s.getD 1 0) (s.getD 1 0*s.getD 3 0) ((ak.g4 p n).drop (n - i))).1.1,.int (ak.jn (s.getD 0 0*s.getD 3 0,s.getD 2 0*s.getD 1 0) (s.getD 1 0*s.getD 3 0) ((ak.g4 p n).drop (n - i))).1.2])) ?_ (fun i σ H' ⟨_,_,_,_,s,_⟩=>s) ?_ ?_⟩
 ·have e0:(ak.g4 p n).drop (n - 0)=[]:=List.drop_eq_nil_of_le (by lia)
  rw[e0]
  exact⟨q4,none,none,rfl,.refl _,s14.free hq4,ai⟩
 ·rintro i x σ H1 H2 hi ⟨r,x8,x9,rfl,z1,hr0,hr1⟩ z2 z3 hx
  rw[lMp,pl] at hx hi
  obtain⟨y,hy,rfl⟩:=il hx
  have ed:(ak.g4 p n).drop (n - (i+1))=y::(ak.g4 p n).drop (n - i):=by
   have ej:n - (i+1)=n - 1 - i:=by lia
   have lj:n - 1 - i<(ak.g4 p n).length:=by lia
   rw[ej,List.drop_eq_getElem_cons lj]
   have ey:(ak.g4 p n)[n - 1 - i]=y:=by
    rw[List.getElem?_eq_getElem lj] at hy
    exact Option.some.inj hy
   rw[ey,show n - 1 - i+1=n - i by lia]
  obtain⟨w1,w2,w3⟩:=J4 (b:=b) (pl:=(s.getD 0 0*s.getD 3 0,s.getD 2 0*s.getD 1 0)) (c:=s.getD 1 0*s.getD 3 0) (fr.mul (by decide) (by decide)) (fr.mul (by decide) (by decide)) (fr.mul (by decide) (by decide)) ((ak.g4 p n).drop (n - i)) fun x m=>pz x (List.mem_of_mem_drop m)
  have ld:((ak.g4 p n).drop (n - i)).length≤1000:=by rw[List.length_drop];lia
  have yz:Sz b y:=pz y (List.mem_of_getElem? hy)
  have ew:ak.jn (s.getD 0 0*s.getD 3 0,s.getD 2 0*s.getD 1 0) (s.getD 1 0*s.getD 3 0) (y::(ak.g4 p n).drop (n - i))=ak.um (s.getD 0 0*s.getD 3 0,s.getD 2 0*s.getD 1 0) (s.getD 1 0*s.getD 3 0) y (ak.jn (s.getD 0 0*s.getD 3 0,s.getD 2 0*s.getD 1 0) (s.getD 1 0*s.getD 3 0) ((ak.g4 p n).drop (n - i))):=rfl
  rw[ed,ew]
  have m0:Sz 20 (s.getD 0 0*s.getD 3 0):=fr.mul (by decide) (by decide)
  have m1:Sz 20 (s.getD 2 0*s.getD 1 0):=fr.mul (by decide) (by decide)
  have m2:Sz 20 (s.getD 1 0*s.getD 3 0):=fr.mul (by decide) (by decide)
  generalize ak.jn (s.getD 0 0*s.getD 3 0,s.getD 2 0*s.getD 1 0) (s.getD 1 0*s.getD 3 0) ((ak.g4 p n).drop (n - i))=W at *
  have hr2:=z3 _ _ hr1
  have hq2':=z2 _ _ hpl
  refine⟨_,rfl,_,rfl,_,_,W.1,(s.getD 0 0*s.getD 3 0,s.getD 2 0*s.getD 1 0),rfl,⟨r,rfl,hr2⟩,⟨q,rfl,hq2'⟩,w1.mul m0 (by lia),w2.mul m1 (by lia),w1.mul m1 (by lia),w2.mul m0 (by lia),fun t H3 ht t3 ht3=> ?_⟩
  refine⟨_,rfl,t,_,_,_,rfl,rfl,.of ht3,aG (j:=0) rfl rfl,_,rfl,_,rfl,_,_,rfl,rfl,yz.mul w3 (by lia),_,_,rfl,rfl,_,rfl,t,_,_,_,rfl,rfl,.of ht3,aG (j:=1) rfl rfl,aw (by show 2≤16777216;decide),fun r2 hr2=> ?_⟩
  have s6:=ay (o:= .tup [.int ((ak.Gw W.1 (s.getD 0 0*s.getD 3 0,s.getD 2 0*s.getD 1 0)).1+y*W.2),.int (ak.Gw W.1 (s.getD 0 0*s.getD 3 0,s.getD 2 0*s.getD 1 0)).2]) hr2
  refine⟨_,rfl,_,rfl,_,_,rfl,rfl,w3.mul m2 (by lia),r2,_,_,rfl,z2.trans (t3.trans s6),s15.free (z2.free (t3.free hr2)),ai⟩
 ·rintro σ H1 ⟨r,x8,x9,rfl,z1,hr0,hr1⟩
  refine⟨_,rfl,?_⟩
  rw[lMp,pl,Nat.sub_self,List.drop_zero] at hr1
  exact k r H1 hr0 (s15.trans z1) hr1
abbrev gN:Stmt:=top 25
theorem v7:aE ["top","bottom","divisor"] ["top","bottom"] (au gN):=sco rfl rfl rfl rfl (by decide +kernel)
def nk:Sp:=fun vs H Q _=>∃t b:Int,vs=[.int t,.int b]∧b≠0∧nE H Q (ak.Ho t b)
theorem v8(hno:base.NoSeer)(htree:P.given.tree=none)(fY:bo P w K mg base "greatest_divisor" ["x","y"] 1 iU)(G:dD K mg "lowest_terms" gN ["top","bottom"]):bo P w K mg base "lowest_terms" ["top","bottom"] 41 nk:=by
 have sc:=v7
 refine G.eD sc (fun vs H Q E ⟨t,b,e,_⟩=>by rw[e];rfl) fun f cdv A outer s H vs Q E hr h=> ?_
 obtain⟨t,b,rfl,b0,k⟩:=h
 have Se:Oo (AM FO P w K mg base ["top","bottom","divisor"] "lowest_terms" (au gN) f cdv A outer s H E).L5:=⟨hno,htree,⟨_,outer,rfl,rfl,rfl,rfl,rfl⟩,by have:=hr.dp;show(A.deeper _).depth+100<_;lia⟩
 refine⟨_,(aj (aH (i:=2) sc.nd rfl (by first|left;rfl|right;rfl) (aB fY (hr.mono (by decide)) rfl (aa (pv 0) (aa (pv 1) ah))))
   (aj (bJ (bf Ci (pv 1) aA (aZ _)) (aq (aH (i:=2) sc.nd rfl (by first|left;rfl|right;rfl) (gr dQ (pv 2)))) aT)
   (aq (aD (aN (aa (a9 (Cy Se) (pv 0) (pv 2)) (aa (a9 (Cy Se) (pv 1) (pv 2)) ah))))))),?_⟩
 have g0:ak.CH t b≠0:=by
  unfold ak.CH
  intro e
  have e:Nat.gcd t.natAbs b.natAbs=0:=by lia
  have:=(Nat.gcd_eq_zero_iff.mp e).2
  lia
 unfold ak.Ho at k
 refine⟨_,rfl,_,rfl,t,b,rfl,_,rfl,_,_,rfl,rfl,_,rfl,?_⟩
 by_cases h:b<0
 ·rw[decide_eq_true h]
  rw[if_pos h] at k
  exact bx ⟨_,rfl,_,rfl,_,rfl,_,rfl,_,_,rfl,rfl,by lia,_,rfl,_,rfl,_,_,rfl,rfl,by lia,aw (by show 2≤16777216;decide),fun p hp=>k p _ hp (ay hp) ai⟩
 ·rw[decide_eq_false h]
  rw[if_neg h] at k
  exact bC ⟨_,rfl,_,rfl,_,_,rfl,rfl,g0,_,rfl,_,rfl,_,_,rfl,rfl,g0,aw (by show 2≤16777216;decide),fun p hp=>k p _ hp (ay hp) ai⟩
theorem GJ{s:List Int}(fr:Fr s){p:ak.bw}{n b:Nat}(l:p.length≤n)(h:∀x∈p,Sz b x):Sz (b+22*n) (ak.xx p s n).1∧Sz (b+22*n) (ak.xx p s n).2:=by
 obtain⟨h1,h2,_⟩:=J4 (b:=b) (pl:=(s.getD 0 0*s.getD 3 0,s.getD 2 0*s.getD 1 0)) (c:=s.getD 1 0*s.getD 3 0) (fr.mul (by decide) (by decide)) (fr.mul (by decide) (by decide)) (fr.mul (by decide) (by decide)) (ak.g4 p n) (J5 h)
 rw[GI l] at h1 h2
 exact⟨h1,h2⟩
def Qc(H:Hp)(Q:VK):Option (List Int)→Prop
 |none=>∀H',aJ H H'→Q .fG H'
 |some l=>nE H Q l
abbrev mX:Stmt:=top 80
theorem y8:aE ["top","bottom","s","powers","above","below","size","turned"] ["top","bottom","s"] (au mX):=sco rfl rfl rfl rfl (by decide +kernel)
def qr(K:PySem.W.Frag):Sp:=fun vs H Q _=>∃v u t b a s z,vs=[v,u,.ref a]∧cN H v t∧cN H u b∧gn K H a (s.map V.int)∧Fr s∧t.length≤1000∧b.length≤1000∧(∀x∈t,Sz z x)∧(∀x∈b,Sz z x)∧z≤1000000∧Qc H Q (ak.vD t b s)
theorem y9(T:TxtV mg)(cJ:bo P w K mg base "complex_product" ["left","right"] 1 fV)(iw:bo P w K mg base "whole_value" ["polynomial","s","powers"] 2 (oZ K))(gO:bo P w K mg base "lowest_terms" ["top","bottom"] 41 nk)(G:dD K mg "told_value" mX ["top","bottom","s"]):bo P w K mg base "told_value" ["top","bottom","s"] 42 (qr K):=by
 have sc:=y8
 refine G.eD sc (fun vs H Q E ⟨v,u,t,b,a,s,z,e,_⟩=>by rw[e];rfl) fun f cdv A outer s0 H vs Q E hr h=> ?_
 obtain⟨v,u,t,b,a,s,z,rfl,⟨ta,rfl,ht⟩,⟨ba,rfl,hb⟩,ha,fr,tl,bl,tz,bz,hz,k⟩:=h
 refine⟨_,(aj (aH (i:=3) sc.nd rfl (by first|left;rfl|right;rfl) (aY (zD rfl) rfl T.Gz wH (aa (aY (br K) rfl T.dz bb (aa (pv 0) ah)) (aa (aY (br K) rfl T.dz bb (aa (pv 1) ah)) ah))))
   (aj (aH (i:=4) sc.nd rfl (by first|left;rfl|right;rfl) (aB iw (hr.mono (by decide)) rfl (aa (pv 0) (aa (pv 2) (aa (pv 3) ah)))))
   (aj (aH (i:=5) sc.nd rfl (by first|left;rfl|right;rfl) (aB iw (hr.mono (by decide)) rfl (aa (pv 1) (aa (pv 2) (aa (pv 3) ah)))))
   (aj (aH (i:=6) sc.nd rfl (by first|left;rfl|right;rfl) (a9 eV (a9 bW (aK (yF K) (pv 5) aA (fun _ _=>rfl)) (aK (yF K) (pv 5) aA (fun _ _=>rfl))) (a9 bW (aK (yF K) (pv 5) aA (fun _ _=>rfl)) (aK (yF K) (pv 5) aA (fun _ _=>rfl)))))
   (aj (bJ (bf de (pv 6) aA (aZ _)) (aq (aD AF)) aT)
   (aj (aH (i:=7) sc.nd rfl (by first|left;rfl|right;rfl) (aB cJ (hr.mono (by decide)) rfl (aa (pv 4) (aa (bY (aa (aK (yF K) (pv 5) aA (fun _ _=>rfl)) (aa (gr dQ (aK (yF K) (pv 5) aA (fun _ _=>rfl))) ah))) ah))))
   (aq (aD (a9 nX (aB gO (hr.mono (by decide)) rfl (aa (aK (yF K) (pv 7) aA (fun _ _=>rfl)) (aa (pv 6) ah))) (aB gO (hr.mono (by decide)) rfl (aa (aK (yF K) (pv 7) aA (fun _ _=>rfl)) (aa (pv 6) ah)))))))))))),?_⟩
 refine⟨_,rfl,ta,_,rfl,.inl (.of ht),_,rfl,ba,_,rfl,.inl (.of hb),_,_,rfl,?_⟩
 rw[lMp,lMp]
 have em:(if((b.length:Nat):Int)>((t.length:Nat):Int) then((b.length:Nat):Int) else((t.length:Nat):Int))=((max t.length b.length:Nat):Int):=by
  split <;>lia
 rw[em]
 unfold ak.vD at k
 dsimp only at k
 have nl:max t.length b.length≤1000:=by lia
 have tn:=Nat.le_max_left t.length b.length
 have bn:=Nat.le_max_right t.length b.length
 generalize max t.length b.length=n at *
 obtain⟨a1,a2⟩:=GJ fr tn tz
 obtain⟨b1,b2⟩:=GJ fr bn bz
 refine⟨_,rfl,_,rfl,_,rfl,_,a,t,s,n,z,rfl,⟨ta,rfl,ht⟩,ha,fr,tn,nl,tz,hz,fun pa H1 hpa s1 hpa1=> ?_⟩
 refine⟨_,rfl,_,rfl,_,rfl,_,a,b,s,n,z,rfl,⟨ba,rfl,s1 _ _ hb⟩,s1.seq ha,fr,bn,nl,bz,hz,fun pb H2 hpb s2 hpb2=> ?_⟩
 have hpa2:=s2 _ _ hpa1
 generalize ak.xx t s n=A1 at *
 generalize ak.xx b s n=B1 at *
 have s12:=s1.trans s2
 refine⟨_,rfl,pb,_,_,_,rfl,rfl,.of hpb2,aG (j:=0) rfl rfl,_,rfl,pb,_,_,_,rfl,rfl,.of hpb2,aG (j:=0) rfl rfl,_,_,rfl,rfl,b1.mul b1 (by lia),?_⟩
 refine⟨_,rfl,pb,_,_,_,rfl,rfl,.of hpb2,aG (j:=1) rfl rfl,_,rfl,pb,_,_,_,rfl,rfl,.of hpb2,aG (j:=1) rfl rfl,_,_,rfl,rfl,b2.mul b2 (by lia),_,_,rfl,rfl,?_⟩
 refine⟨_,rfl,rfl,_,rfl,?_⟩
 by_cases h0:B1.1*B1.1+B1.2*B1.2=0
 ·rw[if_pos h0] at k
  rw[show decide (V.int (B1.1*B1.1+B1.2*B1.2)=V.int 0)=true from decide_eq_true (by rw[h0])]
  exact bx (k _ s12)
 rw[if_neg h0] at k
 rw[show decide (V.int (B1.1*B1.1+B1.2*B1.2)=V.int 0)=false from decide_eq_false fun e=>h0 (V.int.inj e)]
 have k:nE H Q _:=k
 refine bC ⟨_,rfl,_,rfl,pb,_,_,_,rfl,rfl,.of hpb2,aG (j:=0) rfl rfl,_,rfl,pb,_,_,_,rfl,rfl,.of hpb2,aG (j:=1) rfl rfl,_,rfl,aw (by show 2≤16777216;decide),fun q hq=> ?_⟩
 have s3:=ay (o:= .tup [.int B1.1,.int (-B1.2)]) hq
 refine⟨_,_,A1,(B1.1,-B1.2),rfl,⟨pa,rfl,s3 _ _ hpa2⟩,⟨q,rfl,ai⟩,a1.mul b1 (by lia),a2.mul b2.neg (by lia),a1.mul b2.neg (by lia),a2.mul b1 (by lia),fun r H4 hr0 s4 hr4=> ?_⟩
 have s34:=s3.trans s4
 refine⟨_,rfl,r,_,_,_,rfl,rfl,.of hr4,aG (j:=0) rfl rfl,_,rfl,_,_,rfl,h0,fun p5 H5 hp5 s5 hp55=> ?_⟩
 refine⟨_,rfl,r,_,_,_,rfl,rfl,.of (s5 _ _ hr4),aG (j:=1) rfl rfl,_,rfl,_,_,rfl,h0,fun p6 H6 hp6 s6 hp66=> ?_⟩
 refine⟨p5,p6,_,_,rfl,rfl,s6 _ _ hp55,hp66,aw (by show 4≤16777216;decide),fun p7 hp7=> ?_⟩
 have s7:=s12.trans (s34.trans (s5.trans s6))
 rw[←List.map_append]
 exact k p7 _ (s7.free hp7) (s7.trans (ay hp7)) ai
def M4(src what k:Int)(l:List Int):Prop:=(ak.bD src what k l).bB=[]→∃z,(ak.bD src what k l).top.length≤1000∧(ak.bD src what k l).aC.length≤1000∧(∀x∈(ak.bD src what k l).top,Sz z x)∧(∀x∈(ak.bD src what k l).aC,Sz z x)∧z≤1000000
theorem OM{s:List Int}(h:ak.g5 s=true):Fr s:=by
 unfold ak.g5 ak.vE at h
 simp only[Bool.and_eq_true,decide_eq_true_eq] at h
 obtain⟨h4,⟨x0,x1,x2⟩,x3,x4,x5⟩:=h
 refine⟨h4,fun j hj=> ?_⟩
 have:j=0∨j=1∨j=2∨j=3:=by lia
 rcases this with rfl |rfl |rfl |rfl <;>lia
theorem HC{t b s l:List Int}(h:ak.vD t b s=some l):l.length=4:=by
 unfold ak.vD at h
 dsimp only at h
 split at h
 ·cases h
 ·cases h
  rfl
abbrev BU:Stmt:=top 121
theorem J6:aE ["source","what","k","net","s","asked","told"] ["source","what","k","net","s"] (au BU):=sco rfl rfl rfl rfl (by decide +kernel)
def o6(K:PySem.W.Frag):Sp:=fun vs H Q _=>∃src what k a l b s,vs=[.int src,.int what,.int k,.ref a,.ref b]∧gn K H a (l.map V.int)∧gn K H b (s.map V.int)∧l.length≤200∧0≤src∧0≤k∧MZ src what k l∧M4 src what k l∧qQ H Q (ak.value src what k l s)
theorem J7(O:cK K c)(fZ:bo P w K mg base "is_frequency_row" ["s"] 2 (iY K))(gP:bo P w K mg base "driven_quantity" ["source","what","k","net"] 9 (jN K c))(mY:bo P w K mg base "told_value" ["top","bottom","s"] 42 (qr K))(G:dD K mg "value" BU ["source","what","k","net","s"]):bo P w K mg base "value" ["source","what","k","net","s"] 44 (o6 K):=by
 have sc:=J6
 refine G.eD sc (fun vs H Q E ⟨src,what,k,a,l,b,s,e,_⟩=>by rw[e];rfl) fun f cdv A outer s0 H vs Q E hr h=> ?_
 obtain⟨src,what,k,a,l,b,s,rfl,ha,hb,l2,src0,k0,ok,va,kk⟩:=h
 refine⟨_,(aj (bJ (fL (bA K (aB fZ (hr.mono (by decide)) rfl (aa (pv 4) ah)) (fun _=>rfl))) (aq (aD (aN (aa (gr dQ aA) ah)))) aT)
   (aj (aH (i:=5) sc.nd rfl (by first|left;rfl|right;rfl) (aB gP (hr.mono (by decide)) rfl (aa (pv 0) (aa (pv 1) (aa (pv 2) (aa (pv 3) ah))))))
   (aj (bJ (bA K (ax K (pv 5) rfl) (fun _=>rfl)) (aq (aD (ax K (pv 5) rfl))) aT)
   (aj (aH (i:=6) sc.nd rfl (by first|left;rfl|right;rfl) (aB mY (hr.mono (by decide)) rfl (aa (ax K (pv 5) rfl) (aa (ax K (pv 5) rfl) (aa (pv 4) ah)))))
   (aq (aD (iy (AH (DT (pv 6))) (aN (aa (gr dQ aA) ah)) (a9 nX (aN (aa aA ah)) (pv 6))))))))),?_⟩
 unfold ak.value at kk
 unfold M4 at va
 refine⟨_,rfl,b,s,rfl,hb,_,rfl,?_⟩
 cases hf:ak.g5 s with
 |false=>
  rw[hf,if_pos rfl] at kk
  refine bx ⟨_,rfl,aw (by show 1≤16777216;decide),fun p hp=>kk _ _ (ay hp) ⟨p,rfl,ai⟩⟩
 |true=>
 rw[hf,if_neg (show ¬true=false by simp)] at kk
 dsimp only at kk
 refine bC ⟨_,rfl,_,rfl,_,rfl,_,rfl,src,what,k,a,l,rfl,ha,l2,src0,k0,ok,fun z H1 s1 hz=> ?_⟩
 generalize ak.bD src what k l=q at va kk hz
 obtain⟨x,dx,r,t,bt,rfl,hx,⟨ra,rfl,hra⟩,ht,hbt⟩:=hz
 refine⟨_,rfl,x,c.ask,dx,_,_,rfl,hx,O.ask.cl,O.ask.at_ 0 rfl,rfl,_,ET hra,?_⟩
 by_cases h1:q.bB=[]
 ·obtain⟨z,t1,t2,t3,t4,t5⟩:=va h1
  have e1:(!(q.bB.map V.int).isEmpty)=false:=by rw[h1];rfl
  rw[e1]
  rw[if_neg (fun h=>h h1)] at kk
  refine bC ⟨_,rfl,x,c.ask,dx,_,_,rfl,hx,O.ask.cl,O.ask.at_ 1 rfl,rfl,_,rfl,x,c.ask,dx,_,_,rfl,hx,O.ask.cl,O.ask.at_ 2 rfl,rfl,_,rfl,_,_,q.top,q.aC,b,s,z,rfl,ht,hbt,s1.seq hb,OM hf,t1,t2,t3,t4,t5,?_⟩
  cases ev:ak.vD q.top q.aC s with
  |none=>
   rw[ev] at kk
   have kk:qQ H Q [-5]:=kk
   refine fun H2 s2=>⟨_,rfl,_,rfl,bx ⟨_,rfl,aw (by show 1≤16777216;decide),fun p hp=>kk _ _ (s1.trans (s2.trans (ay hp))) ⟨p,rfl,ai⟩⟩⟩
  |some l=>
   rw[ev] at kk
   have kk:qQ H Q (0::l):=kk
   refine fun p2 H2 hp2 s2 hp22=>⟨_,rfl,_,rfl,bC ⟨aw (by show 1≤16777216;decide),fun p hp=>⟨_,rfl,p,p2,_,_,rfl,rfl,ai,ay hp _ _ hp22,?_,fun p4 hp4=> ?_⟩⟩⟩
   ·have:=HC ev
    exact aw (by simp;lia)
   ·exact kk _ _ (s1.trans (s2.trans ((ay hp).trans (ay hp4)))) ⟨p4,rfl,ai⟩
 ·rw[g6 h1]
  have kk2:qQ H Q q.bB:=by
   rw[if_pos h1] at kk
   exact kk
  exact bx ⟨_,rfl,x,c.ask,dx,_,_,rfl,hx,O.ask.cl,O.ask.at_ 0 rfl,rfl,kk2 _ _ s1 ⟨ra,rfl,hra⟩⟩
end
theorem ON{src what k:Int}(s0:0≤src)(w0:0≤what)(k0:0≤k)(l:List Int):M4 src what k l:=by
 intro hr0
 rcases ak.K1 s0 w0 k0 l with h |⟨p,d,tops,r,hr,h1,h2,hp,hst,es,D,e⟩
 ·exact absurd hr0 h
 obtain⟨R,_⟩:=ak.right_of hr
 have S2:=ak.mr R hst s0 h1
 obtain⟨⟨b1,b2⟩,b3⟩:=ak.EL R (ak.uj p.1 src) S2 es
 obtain⟨l1,l2⟩:=ak.K0 R D
 obtain⟨c1,c2⟩:=ak.MO R (g:=ak.bN (ak.aW l) p.1 src) rfl (d:=d) D.len (fun c hc=>⟨l2 c hc,(b3 c hc).2⟩) k0 h2
 have big:2*2^7028=2^7029:=by rw[show(7029:Nat)=1+7028 from rfl,Nat.pow_add]
 rw[big] at c2
 rw[e]
 refine⟨7030,?_,?_,fun x hx=>DC c2 hx,fun x hx=>DC (Nat.le_trans b2 (Nat.pow_le_pow_right (by decide) (by decide))) hx,by decide⟩
 ·show(ak.fM (ak.bN (ak.aW l) p.1 src) (d,tops) what k).length≤_
  lia
 ·show d.length≤_
  lia
end B7
namespace L2
open PySem PySem.Spec PyProof.Rows
open PySem.W (WData Codec OpenSpec Well WellAll ReadsW ReadsAllW)
mutual
inductive Dw(K:PySem.W.Frag)(H:Hp):V→WData→Prop
 |fG:Dw K H .fG .none
 |bl (b:Bool):Dw K H (.bl b) (.bool b)
 |int (i:Int):Dw K H (.int i) (.int i)
 |str (x:Str):Dw K H (.str x) (.str x)
 |AB (b:Array UInt8):Dw K H (.AB b) (.bytes b.toList)
 |lst {a:Addr} {xs:List V} {ds:List WData}:gn K H a xs→lU K H xs ds→Dw K H (.ref a) (.list ds)
 |tup {a:Addr} {xs:List V} {ds:List WData}:yE K H a xs→lU K H xs ds→Dw K H (.ref a) (.tuple ds)
inductive lU(K:PySem.W.Frag)(H:Hp):List V→List WData→Prop
 |nil:lU K H [] []
 |cons {v:V} {vs:List V} {d:WData} {ds:List WData}:Dw K H v d→lU K H vs ds→lU K H (v::vs) (d::ds)
end
theorem GK{K:PySem.W.Frag}{H:Hp}:∀ns:List Int,lU K H (ns.map V.int) (ns.map WData.int)
 |[]=> .nil
 |n::r=> .cons (.int n) (GK r)
theorem BV{K:PySem.W.Frag}{H:Hp}:∀(ns:List Int) (xs:List V),lU K H xs (ns.map WData.int)→xs=ns.map V.int
 |[],xs,h=>by
  cases h
  rfl
 |n::r,xs,h=>by
  cases h with
  |cons h1 h2=>
   cases h1
   rw[BV r _ h2] <;>rfl
section
variable {P:Program}{w:World}{K:PySem.W.Frag}{H:Hp}{h:Heap}{R:PySem.W.WRecords}{cl:Str→Option Addr}
theorem M5{a:Addr}{xs:List V}(dB:rF P w H h)(KX:K.In h)(q:gn K H a xs):∃(its:List Value) (o:Obj) (n:Nat),Vals xs its∧h.get? a=some o∧o.cls= .type "list"∧o.data= .seq its.toArray n:=by
 rcases q with q |⟨o,its,n,e,hc,_,hd,_,hv⟩
 ·obtain⟨_,its,n,hv,e⟩:=(show gm P w H h a (.lst xs) from q.ok dB)
  exact⟨its,_,n,hv,e,rfl,rfl⟩
 ·exact⟨its.toList,o,n,hv,KX _ _ e,hc,by simp[hd]⟩
theorem M6{a:Addr}{xs:List V}(dB:rF P w H h)(KX:K.In h)(q:yE K H a xs):∃(its:List Value) (o:Obj) (n:Nat),Vals xs its∧h.get? a=some o∧o.cls= .type "tuple"∧o.data= .seq its.toArray n:=by
 rcases q with q |⟨o,its,n,e,hc,hd,_,hv⟩
 ·obtain⟨_,its,hv,o,e,hc,n,hd⟩:=(show gm P w H h a (.tup xs) from q.ok dB)
  exact⟨its,o,n,hv,e,hc,hd⟩
 ·exact⟨its.toList,o,n,hv,KX _ _ e,hc,by simp[hd]⟩
mutual
theorem Dw.reads(dB:rF P w H h)(KX:K.In h):∀(d:WData) (v:V) (u:Value),Dw K H v d→RelV v u→∃as,ReadsW R cl h u d as
 | .none,_,_,x,r=>by
  cases x
  cases r
  exact⟨_,ReadsW.none⟩
 | .bool b,_,_,x,r=>by
  cases x
  cases r
  exact⟨_,ReadsW.bool b⟩
 | .int i,_,_,x,r=>by
  cases x
  obtain⟨t,rfl⟩:=r
  exact⟨_,ReadsW.int i t⟩
 | .str s,_,_,x,r=>by
  cases x
  obtain⟨t,rfl⟩:=r
  exact⟨_,ReadsW.str s t⟩
 | .bytes b,_,_,x,r=>by
  cases x
  obtain⟨t,rfl⟩:=r
  exact⟨_,ReadsW.bytes _ t⟩
 | .list ds,_,_,x,r=>by
  cases x with
  |lst hs ha=>
   cases r
   obtain⟨its,o,n,rv,ho,hc,hd⟩:=M5 dB KX hs
   obtain⟨as,hr⟩:=Dw.readsAll dB KX ds _ its ha rv
   exact⟨_,ReadsW.list ho hc hd hr⟩
 | .tuple ds,_,_,x,r=>by
  cases x with
  |tup hs ha=>
   cases r
   obtain⟨its,o,n,rv,ho,hc,hd⟩:=M6 dB KX hs
   obtain⟨as,hr⟩:=Dw.readsAll dB KX ds _ its ha rv
   exact⟨_,ReadsW.tuple ho hc hd hr⟩
 | .float _,_,_,x,_=>by cases x
 | .dict _,_,_,x,_=>by cases x
 | .bytearray _,_,_,x,_=>by cases x
 | .set _,_,_,x,_=>by cases x
 | .frozenset _,_,_,x,_=>by cases x
 | .obj _ _,_,_,x,_=>by cases x
theorem Dw.readsAll(dB:rF P w H h)(KX:K.In h):∀(ds:List WData) (vs:List V) (us:List Value),lU K H vs ds→Vals vs us→∃as,ReadsAllW R cl h us ds as
 |[],_,_,x,r=>by
  cases x
  cases r
  exact⟨_,ReadsAllW.nil⟩
 |d::ds,_,_,x,r=>by
  cases x with
  |cons h1 h2=>
   cases r with
   |cons r1 r2=>
    obtain⟨as,q1⟩:=Dw.reads dB KX d _ _ h1 r1
    obtain⟨bs,q2⟩:=Dw.readsAll dB KX ds _ _ h2 r2
    exact⟨_,ReadsAllW.cons q1 q2⟩
end
end
mutual
def GL:WData→Bool
 | .none=>true
 | .bool _=>true
 | .int _=>true
 | .str _=>true
 | .bytes _=>true
 | .list xs=>v9 xs
 | .tuple xs=>v9 xs
 |_=>false
def v9:List WData→Bool
 |[]=>true
 |x::r=>GL x&&v9 r
end
theorem DD{α:Type}{f:α→WData}(h:∀a,GL (f a)=true):∀l:List α,v9 (l.map f)=true
 |[]=>rfl
 |x::r=>by
  show(GL (f x)&&v9 (r.map f))=true
  rw[h x,DD h r] <;>rfl
theorem o7:∀(c:Codec) (a:c.denote),GL (c.enc a)=true
 | .unit,_=>rfl
 | .bool,_=>rfl
 | .int _ _,_=>rfl
 | .nat _ _,_=>rfl
 | .u8,_=>rfl
 | .bytes _ _,_=>rfl
 | .text _ _ _ _,_=>rfl
 | .list _ _ c,a=>DD (fun x=>o7 c x) a
 | .pair c d,a=>by
  show(GL (c.enc a.1)&&(GL (d.enc a.2)&&true))=true
  rw[o7 c a.1,o7 d a.2] <;>rfl
 | .triple c d e,a=>by
  show(GL (c.enc a.1)&&(GL (d.enc a.2.1)&&(GL (e.enc a.2.2)&&true)))=true
  rw[o7 c a.1,o7 d a.2.1,o7 e a.2.2] <;>rfl
 | .option c,none=>rfl
 | .option c,some x=>o7 c x
theorem Ax:∀(cs:List Codec) (a:Codec.denoteAll cs),v9 (Codec.encAll cs a)=true
 |[],_=>rfl
 |c::cs,a=>by
  show(GL (c.enc a.1)&&v9 (Codec.encAll cs a.2))=true
  rw[o7 c a.1,Ax cs a.2] <;>rfl
theorem rn:∀{xs:List WData} {d:WData},d∈xs→d.weight≤WData.weightAll xs
 |[],d,h=>absurd h (by simp)
 |x::r,d,h=>by
  show d.weight≤x.weight+1+WData.weightAll r
  rcases List.mem_cons.mp h with e |m
  ·rw[e]
   lia
  ·have z:=rn m
   lia
def toV:Value→V
 | .none=> .fG
 | .bool b=> .bl b
 | .int i _=> .int i
 | .str x _=> .str x
 | .bytes b _=> .AB b
 | .ref a=> .ref a
 |_=> .fG
def HD(A:List Addr):Value→Prop
 | .none=>True
 | .bool _=>True
 | .int _ _=>True
 | .str _ _=>True
 | .bytes _ _=>True
 | .ref a=>a∈A
 |_=>False
theorem HD.mono{A B:List Addr}(h:∀a∈A,a∈B):∀{u:Value},HD A u→HD B u:=fun{u} x=>by
 cases u with
 |ref a=>exact h a x
 |none=>trivial
 |bool b=>trivial
 |int i t=>trivial
 |str s t=>trivial
 |bytes b t=>trivial
 |_=>exact False.elim x
theorem J8{A:List Addr}{u:Value}(x:HD A u):RelV (toV u) u:=by
 cases u with
 |ref a=>rfl
 |none=>rfl
 |bool b=>rfl
 |int i t=>exact⟨t,rfl⟩
 |str s t=>exact⟨t,rfl⟩
 |bytes b t=>exact⟨t,rfl⟩
 |_=>exact False.elim x
theorem lV{A:List Addr}:∀{vs:List Value},(∀u∈vs,HD A u)→Vals (vs.map toV) vs
 |[],_=> .nil
 |u::r,h=> .cons (J8 (h u (List.mem_cons_self ..))) (lV fun x hx=>h x (List.mem_cons_of_mem _ hx))
def nu(h:Heap)(A:List Addr)(a:Addr):Prop:=∃vs:List Value,vs.length≤sizeLine∧(∀u∈vs,HD A u)∧
 (h.get? a=some {cls:= .type "list",data:= .seq vs.toArray}∨h.get? a=some {cls:= .type "tuple",data:= .seq vs.toArray})
theorem nu.mono{h:Heap}{A B:List Addr}{a:Addr}(k:∀a∈A,a∈B)(x:nu h A a):nu h B a:=by
 obtain⟨vs,h1,h2,h3⟩:=x
 exact⟨vs,h1,fun u hu=>(h2 u hu).mono k,h3⟩
theorem kJ{P:Params}{h:Heap}:∀{vs:List Value} {ds:List WData},WellAll P h vs ds→vs.length=ds.length
 |_,_,.nil=>rfl
 |_,_,.cons _ b=>by
  show _+ 1=_+ 1
  rw[kJ b]
theorem Ay{P:Params}{h:Heap}{v:Value}{ds:List WData}(x:Well P h v (.list ds)):∃(a:Addr) (vs:List Value),v= .ref a∧h.get? a=some {cls:= .type "list",data:= .seq vs.toArray}∧WellAll P h vs ds:=by
 cases x with
 |list ho hall=>exact⟨_,_,rfl,ho,hall⟩
theorem yr{P:Params}{h:Heap}{v:Value}{ds:List WData}(x:Well P h v (.tuple ds)):∃(a:Addr) (vs:List Value),v= .ref a∧h.get? a=some {cls:= .type "tuple",data:= .seq vs.toArray}∧WellAll P h vs ds:=by
 cases x with
 |tuple ho hall=>exact⟨_,_,rfl,ho,hall⟩
theorem Az{P:Params}{h:Heap}{us:List Value}{d:WData}{ds:List WData}(x:WellAll P h us (d::ds)):∃(v:Value) (vs:List Value),us=v::vs∧Well P h v d∧WellAll P h vs ds:=by
 cases x with
 |cons a b=>exact⟨_,_,rfl,a,b⟩
theorem GN{n:Nat}(h:n≤1048576):n≤sizeLine:=Nat.le_trans h (by decide)
section
variable {P:Params}{h:Heap}
mutual
theorem J9:∀(d:WData) (v:Value),Well P h v d→GL d=true→d.weight≤1048576→∃A:List Addr,HD A v∧∀a∈A,nu h A a
 | .none,_,x,_,_=>by
  cases x
  exact⟨[],trivial,fun a m=>absurd m (by simp)⟩
 | .bool b,_,x,_,_=>by
  cases x
  exact⟨[],trivial,fun a m=>absurd m (by simp)⟩
 | .int i,_,x,_,_=>by
  cases x
  exact⟨[],trivial,fun a m=>absurd m (by simp)⟩
 | .str s,_,x,_,_=>by
  cases x
  exact⟨[],trivial,fun a m=>absurd m (by simp)⟩
 | .bytes b,_,x,_,_=>by
  cases x
  exact⟨[],trivial,fun a m=>absurd m (by simp)⟩
 | .list ds,_,x,p,z=>by
  obtain⟨a,vs,rfl,ho,hall⟩:=Ay x
  have z2:WData.weightAll ds≤1048576:=z
  obtain⟨A,h1,h2⟩:=tj ds _ hall p fun d hd=>Nat.le_trans (rn hd) z2
  have k:∀b∈A,b∈a::A:=fun b hb=>List.mem_cons_of_mem _ hb
  refine⟨a::A,List.mem_cons_self ..,fun b hb=> ?_⟩
  rcases List.mem_cons.mp hb with e |m
  ·rw[e]
   exact⟨vs,GN (by rw[kJ hall];exact Nat.le_trans (PySem.W.length_le_weightAllW ds) z2),fun u hu=>(h1 u hu).mono k,.inl ho⟩
  ·exact(h2 b m).mono k
 | .tuple ds,_,x,p,z=>by
  obtain⟨a,vs,rfl,ho,hall⟩:=yr x
  have z2:WData.weightAll ds≤1048576:=z
  obtain⟨A,h1,h2⟩:=tj ds _ hall p fun d hd=>Nat.le_trans (rn hd) z2
  have k:∀b∈A,b∈a::A:=fun b hb=>List.mem_cons_of_mem _ hb
  refine⟨a::A,List.mem_cons_self ..,fun b hb=> ?_⟩
  rcases List.mem_cons.mp hb with e |m
  ·rw[e]
   exact⟨vs,GN (by rw[kJ hall];exact Nat.le_trans (PySem.W.length_le_weightAllW ds) z2),fun u hu=>(h1 u hu).mono k,.inr ho⟩
  ·exact(h2 b m).mono k
 | .float _,_,_,p,_=>Bool.noConfusion (show false=true from p)
 | .dict _,_,_,p,_=>Bool.noConfusion (show false=true from p)
 | .bytearray _,_,_,p,_=>Bool.noConfusion (show false=true from p)
 | .set _,_,_,p,_=>Bool.noConfusion (show false=true from p)
 | .frozenset _,_,_,p,_=>Bool.noConfusion (show false=true from p)
 | .obj _ _,_,_,p,_=>Bool.noConfusion (show false=true from p)
theorem tj:∀(ds:List WData) (vs:List Value),WellAll P h vs ds→v9 ds=true→(∀d∈ds,d.weight≤1048576)→∃A:List Addr,(∀u∈vs,HD A u)∧∀a∈A,nu h A a
 |[],_,x,_,_=>by
  cases x
  exact⟨[],fun u m=>absurd m (by simp),fun a m=>absurd m (by simp)⟩
 |d::ds,_,x,p,z=>by
  obtain⟨v,vs,rfl,x1,x2⟩:=Az x
  have q:GL d=true∧v9 ds=true:=Bool.and_eq_true_iff.mp p
  obtain⟨A,a1,a2⟩:=J9 d v x1 q.1 (z d (List.mem_cons_self ..))
  obtain⟨B,b1,b2⟩:=tj ds vs x2 q.2 fun e he=>z e (List.mem_cons_of_mem _ he)
  have kA:∀b∈A,b∈A ++ B:=fun b hb=>List.mem_append.mpr (.inl hb)
  have kB:∀b∈B,b∈A ++ B:=fun b hb=>List.mem_append.mpr (.inr hb)
  refine⟨A ++ B,fun u hu=> ?_,fun b hb=> ?_⟩
  ·rcases List.mem_cons.mp hu with e |m
   ·rw[e]
    exact a1.mono kA
   ·exact(b1 u m).mono kB
  ·rcases List.mem_append.mp hb with m |m
   ·exact(a2 b m).mono kA
   ·exact(b2 b m).mono kB
end
end
def Lg(o:Obj):Option HO:=match o.data with
 | .seq vs _=>if(o.cls==Value.type "list")=true then some (.AD o (.lst (vs.toList.map toV))) else some (.AD o (.tup (vs.toList.map toV)))
 |_=>none
def lJ(K:PySem.W.Frag)(h:Heap)(A:List Addr):Hp:=fun b=>if b∈A then(if(K.lookup b).isNone=true then(h.get? b).bind Lg else none) else none
def DE(H:Hp):Prop:=∀b,H b=none∨∃o u,H b=some (.AD o u)
theorem DF(vs:List Value):Lg {cls:= .type "list",data:= .seq vs.toArray}=some (.AD {cls:= .type "list",data:= .seq vs.toArray} (.lst (vs.map toV))):=by
 show(if(Value.type "list"==Value.type "list")=true then some (HO.AD {cls:= .type "list",data:= .seq vs.toArray} (.lst (vs.toArray.toList.map toV))) else some (HO.AD {cls:= .type "list",data:= .seq vs.toArray} (.tup (vs.toArray.toList.map toV))))=_
 rw[if_pos (beq_self_eq_true _)]
theorem DG(vs:List Value):Lg {cls:= .type "tuple",data:= .seq vs.toArray}=some (.AD {cls:= .type "tuple",data:= .seq vs.toArray} (.tup (vs.map toV))):=by
 show(if(Value.type "tuple"==Value.type "list")=true then some (HO.AD {cls:= .type "tuple",data:= .seq vs.toArray} (.lst (vs.toArray.toList.map toV))) else some (HO.AD {cls:= .type "tuple",data:= .seq vs.toArray} (.tup (vs.toArray.toList.map toV))))=_
 rw[if_neg (by decide)]
section
variable {P:Program}{w:World}{K:PySem.W.Frag}{h:Heap}{A:List Addr}
theorem wt{b:Addr}{o:Obj}(hb:b∈A)(hk:K.lookup b=none)(e:h.get? b=some o):lJ K h A b=Lg o:=by
 unfold lJ
 rw[if_pos hb,hk,if_pos (show(none:Option Obj).isNone=true from rfl),e] <;>rfl
theorem Lh{b:Addr}{u:HO}(q:lJ K h A b=some u):b∈A∧K.lookup b=none:=by
 unfold lJ at q
 by_cases hb:b∈A
 ·rw[if_pos hb] at q
  cases hk:K.lookup b with
  |none=>exact⟨hb,rfl⟩
  |some o=>
   rw[hk,if_neg (by simp)] at q
   cases q
 ·rw[if_neg hb] at q
  cases q
theorem tq(ar:∀a∈A,nu h A a){b:Addr}{u:HO}(q:lJ K h A b=some u):K.lookup b=none∧∃vs:List Value,vs.length≤sizeLine∧(∀u∈vs,HD A u)∧
  ((h.get? b=some {cls:= .type "list",data:= .seq vs.toArray}∧u= .AD {cls:= .type "list",data:= .seq vs.toArray} (.lst (vs.map toV)))∨
   (h.get? b=some {cls:= .type "tuple",data:= .seq vs.toArray}∧u= .AD {cls:= .type "tuple",data:= .seq vs.toArray} (.tup (vs.map toV)))):=by
 obtain⟨hb,hk⟩:=Lh q
 obtain⟨vs,h1,h2,h3⟩:=ar b hb
 refine⟨hk,vs,h1,h2,?_⟩
 rcases h3 with e |e
 ·rw[wt hb hk e,DF] at q
  exact .inl ⟨e,(Option.some.inj q).symm⟩
 ·rw[wt hb hk e,DG] at q
  exact .inr ⟨e,(Option.some.inj q).symm⟩
theorem HE(ar:∀a∈A,nu h A a):DE (lJ K h A):=fun b=>by
 cases q:lJ K h A b with
 |none=>exact .inl rfl
 |some u=>
  obtain⟨_,vs,_,_,⟨_,e⟩ |⟨_,e⟩⟩:=tq ar q
  ·exact .inr ⟨_,_,by rw[e]⟩
  ·exact .inr ⟨_,_,by rw[e]⟩
theorem Li(ar:∀a∈A,nu h A a):rF P w (lJ K h A) h:=fun b u q=>by
 obtain⟨_,vs,h1,h2,⟨e,rfl⟩ |⟨e,rfl⟩⟩:=tq ar q
 ·exact⟨e,by rw[lMp];exact h1,vs,_,lV h2,e⟩
 ·exact⟨e,by rw[lMp];exact h1,vs,lV h2,_,e,rfl,_,rfl⟩
theorem wu{c c':Value}{vs us:List Value}(e:(some {cls:=c,data:= .seq vs.toArray}:Option Obj)=some {cls:=c',data:= .seq us.toArray}):c=c'∧vs=us:=by
 have e1:=Option.some.inj e
 have e2:c=c':=congrArg Obj.cls e1
 have e3:Data.seq vs.toArray=Data.seq us.toArray:=congrArg Obj.data e1
 injection e3 with e4
 refine⟨e2,?_⟩
 have e5:=congrArg Array.toList e4
 simpa using e5
theorem Qe(KX:K.In h)(ar:∀a∈A,nu h A a){a:Addr}{vs:List Value}(ha:a∈A)(e:h.get? a=some {cls:= .type "list",data:= .seq vs.toArray}):(∀u∈vs,HD A u)∧gn K (lJ K h A) a (vs.map toV):=by
 obtain⟨us,h1,h2,h3⟩:=ar a ha
 have hu:us=vs:=by
  rcases h3 with q |q
  ·rw[e] at q
   exact(wu q).2.symm
  ·rw[e] at q
   exact absurd (Value.type.inj (wu q).1) (by decide)
 subst hu
 refine⟨h2,?_⟩
 cases hk:K.lookup a with
 |none=>exact .inl (.inr ⟨_,by rw[wt ha hk e,DF]⟩)
 |some o=>
  have e2:=KX a o hk
  rw[e] at e2
  obtain rfl:=Option.some.inj e2
  exact .inr ⟨_,us.toArray,_,hk,rfl,rfl,rfl,by rw[List.size_toArray];exact h1,by simpa using lV h2⟩
theorem Qg(KX:K.In h)(ar:∀a∈A,nu h A a){a:Addr}{vs:List Value}(ha:a∈A)(e:h.get? a=some {cls:= .type "tuple",data:= .seq vs.toArray}):(∀u∈vs,HD A u)∧yE K (lJ K h A) a (vs.map toV):=by
 obtain⟨us,h1,h2,h3⟩:=ar a ha
 have hu:us=vs:=by
  rcases h3 with q |q
  ·rw[e] at q
   exact absurd (Value.type.inj (wu q).1) (by decide)
  ·rw[e] at q
   exact(wu q).2.symm
 subst hu
 refine⟨h2,?_⟩
 cases hk:K.lookup a with
 |none=>exact .inl (.inr ⟨_,by rw[wt ha hk e,DG]⟩)
 |some o=>
  have e2:=KX a o hk
  rw[e] at e2
  obtain rfl:=Option.some.inj e2
  exact .inr ⟨_,us.toArray,_,hk,rfl,rfl,by rw[List.size_toArray];exact h1,by simpa using lV h2⟩
mutual
theorem M7{Pm:Params}(KX:K.In h)(ar:∀a∈A,nu h A a):∀(d:WData) (v:Value),Well Pm h v d→GL d=true→HD A v→Dw K (lJ K h A) (toV v) d
 | .none,_,x,_,_=>by
  cases x
  exact .fG
 | .bool b,_,x,_,_=>by
  cases x
  exact .bl b
 | .int i,_,x,_,_=>by
  cases x
  exact .int i
 | .str s,_,x,_,_=>by
  cases x
  exact .str s
 | .bytes b,_,x,_,_=>by
  cases x
  have z:=Dw.AB (K:=K) (H:=lJ K h A) b.toArray
  exact z
 | .list ds,_,x,p,hu=>by
  obtain⟨a,vs,rfl,ho,hall⟩:=Ay x
  obtain⟨h2,hs⟩:=Qe KX ar hu ho
  exact .lst hs (BW KX ar ds _ hall p h2)
 | .tuple ds,_,x,p,hu=>by
  obtain⟨a,vs,rfl,ho,hall⟩:=yr x
  obtain⟨h2,hs⟩:=Qg KX ar hu ho
  exact .tup hs (BW KX ar ds _ hall p h2)
 | .float _,_,_,p,_=>Bool.noConfusion (show false=true from p)
 | .dict _,_,_,p,_=>Bool.noConfusion (show false=true from p)
 | .bytearray _,_,_,p,_=>Bool.noConfusion (show false=true from p)
 | .set _,_,_,p,_=>Bool.noConfusion (show false=true from p)
 | .frozenset _,_,_,p,_=>Bool.noConfusion (show false=true from p)
 | .obj _ _,_,_,p,_=>Bool.noConfusion (show false=true from p)
theorem BW{Pm:Params}(KX:K.In h)(ar:∀a∈A,nu h A a):∀(ds:List WData) (vs:List Value),WellAll Pm h vs ds→v9 ds=true→(∀u∈vs,HD A u)→lU K (lJ K h A) (vs.map toV) ds
 |[],_,x,_,_=>by
  cases x
  exact .nil
 |d::ds,_,x,p,hu=>by
  obtain⟨v,vs,rfl,x1,x2⟩:=Az x
  have q:GL d=true∧v9 ds=true:=Bool.and_eq_true_iff.mp p
  exact .cons (M7 KX ar d v x1 q.1 (hu _ (List.mem_cons_self ..))) (BW KX ar ds vs x2 q.2 fun u m=>hu u (List.mem_cons_of_mem _ m))
end
end
theorem HF{P:Program}{w:World}{K:PySem.W.Frag}{mg mb:Str→Option Value}{CX:HX}{k:Nat}{fa:Addr}{ps:List Str}{sp:Sp}{s₁:Shared}{vals:List Value}{ds:List WData}{R:PySem.W.WRecords}{cl:Str→Option Addr}{d0:WData}
  (KX:K.In s₁.heap) (hns:s₁.heap.Ns mainGlobals mg) (hb:s₁.heap.Ns builtinsNs mb) (hbb:∀x:Str,x≠"__name__"→mb x=bootBuiltins x) (hlim:s₁.heap.NoLimit) (hg:s₁.gens= #[])
  (hwl:WellAll w.params s₁.heap vals ds) (hpl:v9 ds=true) (hwt:∀d∈ds,d.weight≤1048576) (hr:gR k callerA) (hsee:s₁.heap.NoSeer)
  (F:∀base:Heap,K.In base→base.Ns mainGlobals mg→base.NoSeer→∃fd:FuncData,Binds K fd ps []∧kK P w K mg base CX k fa fd ps sp) (hlen:ds.length=ps.length)
  (hsp:∀(H:Hp) (xs:List V),DE H→lU K H xs ds→sp xs H (fun v H'=>Dw K H' v d0) fun _ _ _=>False)
  (hCX:∀H e s',CX [] H s₁ (fun _ _ _=>False) e s'→False):
  codeAny (model P w) callerA (.call (.ref fa) ⟨vals,[]⟩) (fun r s'=>∃u as,r= .ok (.ret u)∧ReadsW R cl s'.heap u d0 as∧OldK s₁.heap s'.heap∧s'.os=s₁.os∧AllBare s'.gens) s₁:=by
 obtain⟨A,ho,ar⟩:=tj ds vals hwl hpl hwt
 have hO:DE (lJ K s₁.heap A):=HE ar
 have dB:rF P w (lJ K s₁.heap A) s₁.heap:=Li ar
 have hS:=BW KX ar ds vals hwl hpl ho
 have hV:=lV ho
 have hK:∀b u,lJ K s₁.heap A b=some u→K.lookup b=none:=fun b u q=>(tq ar q).1
 have noA:∀{b:Addr} {o:Obj} {es:Array DictEntry} {ep:Nat},s₁.heap.get? b=some o→o.data= .dict es ep→lJ K s₁.heap A b=none:=fun{b o es ep} e d=>by
  cases q:lJ K s₁.heap A b with
  |none=>rfl
  |some u=>
   obtain⟨_,vs,_,_,⟨e2,_⟩ |⟨e2,_⟩⟩:=tq ar q
   ·rw[e2] at e
    cases e
    have d':Data.seq vs.toArray _=Data.dict es ep:=d
    cases d'
   ·rw[e2] at e
    cases e
    have d':Data.seq vs.toArray _=Data.dict es ep:=d
    cases d'
 have noM:∀{b:Addr} {o:Obj},s₁.heap.get? b=some o→o.cls= .type "module"→lJ K s₁.heap A b=none:=fun{b o} e d=>by
  cases q:lJ K s₁.heap A b with
  |none=>rfl
  |some u=>
   obtain⟨_,vs,_,_,⟨e2,_⟩ |⟨e2,_⟩⟩:=tq ar q
   ·rw[e2] at e
    cases e
    exact absurd (Value.type.inj d) (by decide)
   ·rw[e2] at e
    cases e
    exact absurd (Value.type.inj d) (by decide)
 generalize lJ K s₁.heap A=H at hO dB hS hK noA noM
 have base_of:∀{b:Addr} {o:Obj},s₁.heap.get? b=some o→H b=none→(yG s₁.heap H).get? b=some o:=fun e n=>Ib e n
 have nsK:∀{b:Addr} {m:Str→Option Value},s₁.heap.Ns b m→(yG s₁.heap H).Ns b m:=fun{b m} ⟨o,es,ep,e,d,r⟩=>⟨o,es,ep,base_of e (noA e d),d,r⟩
 have nK:∀b o,K.lookup b=some o→H b=none:=fun b o e=>by
  cases q:H b with
  |none=>rfl
  |some u=>
   rw[hK b u q] at e
   cases e
 have hKb:K.In (yG s₁.heap H):=fun b o e=>base_of (KX b o e) (nK b o e)
 have hM:Mod K mg (yG s₁.heap H):=⟨hKb,nsK hns,⟨mb,nsK hb,hbb⟩,let ⟨mc,h1,h2⟩:=hlim;⟨mc,nsK h1,h2⟩⟩
 have e0:D8 P w K mg (yG s₁.heap H) callerA [] s₁ H:=⟨rfl,hM,fun b o e=>Kg e,Nat.le_of_eq (GO _ _),trivial,fun b hb=>absurd (show b∈([]:List Addr) from hb) (by simp),dB,.of_eq hg⟩
 have hl:vals.length=ps.length:=by rw[kJ hwl];exact hlen
 have hSb:(yG s₁.heap H).NoSeer:={
  statics:=let ⟨mc,x,y⟩:=hsee.statics;⟨mc,nsK x,y⟩
  mods:=let ⟨mc,x,y⟩:=hsee.mods;⟨mc,nsK x,y⟩
  imp:=let ⟨mc,x,y⟩:=hsee.imp;⟨mc,nsK x,y⟩
  main:=let ⟨mg',bm,ob,x,y,z,u,v⟩:=hsee.main;⟨mg',bm,ob,nsK x,y,base_of z (noM z u),u,v⟩}
 obtain⟨fd,hbind,hF⟩:=F _ hKb (nsK hns) hSb
 refine codeAny_mono (hF.run callerA [] s₁ H ⟨vals,[]⟩ vals (vals.map toV) _ _ hr e0 (by have z:=hbind s₁ vals KX (by rw[List.append_nil];exact hl);rw[List.append_nil] at z;exact z) hV (hsp H _ hO hS)) fun r s' x=> ?_
 cases r with
 |error e=>exact(hCX H e s' x).elim
 |ok fl=>
  cases fl with
  |next=>exact False.elim x
  |brk=>exact False.elim x
  |cont=>exact False.elim x
  |ret u=>
   obtain⟨v,H',os,bare,un,hok',r',q⟩:=x
   have kept:∀b o,s₁.heap.get? b=some o→s'.heap.get? b=some o:=fun b o e=>by
    cases q2:H b with
    |none=>exact un.keep b o e q2 (by intro z;exact absurd (show b∈([]:List Addr) from z) (by simp)) (by simp)
    |some u2=>
     rcases hO b with z |⟨ob,u3,z⟩
     ·rw[q2] at z
      cases z
     ·have z2:=un.AE b ob _ z
      obtain⟨e1,_⟩:=dB b _ z
      obtain⟨e2,_⟩:=hok' b _ z2
      rw[e] at e1
      cases e1
      exact e2
   have KX':K.In s'.heap:=fun b o e=>kept b o (KX b o e)
   obtain⟨as,hrd⟩:=Dw.reads (R:=R) (cl:=cl) hok' KX' d0 v u q r'
   exact⟨u,as,rfl,hrd,OldK.of_keep kept,os,bare⟩
theorem yt{ds:List WData}(h:WData.layableAll ds=true):∀d∈ds,d.weight≤1048576:=fun d hd=>
 (PySem.W.layableW_iff.mp (List.all_eq_true.mp h d hd)).2.2
theorem yu:∀(cs:List Codec) (a:Codec.denoteAll cs),(Codec.encAll cs a).length=cs.length
 |[],_=>rfl
 |c::cs,a=>by
  show(Codec.encAll cs a.2).length+1=cs.length+1
  rw[yu cs a.2]
theorem HG{r:OpenSpec}{k:Nat}{q:Program}{loose:List Str}{XP:(Str→Option Value)→Heap→Prop}{YP:World→Heap→Prop}{d:DefRec}{K:Params→PySem.W.Frag}{CX:World→HX}{ps:List Str}{sp:World→Sp}
  (hwell:r.wellSaid=true) (himp:importsNone q=true) (hdf:d.params.defaults=[]) (hlen:r.args.length=ps.length) (hr:gR k callerA)
  (hY:∀(w:World) (h:Heap),YP w h→(K w.params).In h)
  (F:∀(w:World) (mg:Str→Option Value) (fa:Addr) (h:Heap),YP w h→(K w.params).In h→h.Ns mainGlobals mg→mg d.name=some (.ref fa)→
   ∀base:Heap,(K w.params).In base→base.Ns mainGlobals mg→base.NoSeer→∃fd:FuncData,Binds (K w.params) fd ps []∧kK r.prog w (K w.params) mg base (CX w) k fa fd ps (sp w))
  (hsp:∀(w:World) (H:Hp) (xs:List V) (a:Codec.denoteAll r.args),DE H→Codec.withinAll r.args a=true→Codec.app r.args r.asked a=true→lU (K w.params) H xs (Codec.encAll r.args a)→
   sp w xs H (fun v H'=>Dw (K w.params) H' v (r.ret.enc (Codec.app r.args r.f a))) fun _ _ _=>False)
  (hCX:∀(w:World) (H:Hp) (s:Shared) (e:Value) (s':Shared),CX w [] H s (fun _ _ _=>False) e s'→False):
  PySem.W.WalkOS q loose XP YP r d [] (fun f vs=>PySem.call f vs):=by
 intro w zA s₁ mg mb G Y fa o pm cd doc dV kV ho hd hcd hD hmg hg args vals as hpre hlay hrd hwl hlo
 obtain⟨a,e1,e2⟩:=PySem.W.os_pre_some hpre
 obtain⟨e3,hwi⟩:=Codec.encAll_of_decAll r.args args a e1
 subst e3
 have KX:=hY w _ Y
 refine PySem.W.enter_call (codeAny_mono (HF (R:=[]) (cl:=classAt zA.heap) (d0:=r.ret.enc (Codec.app r.args r.f a)) KX G.T.g G.T.b G.T.builtins G.T.nolimit hg hwl (Ax _ _) (yt hlay) hr (G.T.seer himp) (F w mg fa _ Y KX G.T.g hmg) (by rw[yu];exact hlen)
  (fun H xs hO hS=>hsp w H xs a hO hwi e2 hS) fun H e s'=>hCX w H s₁ e s') fun r' s' hq=> ?_)
 obtain⟨u,as',rfl,h1,h2,h3,h4⟩:=hq
 exact⟨.inl ⟨u,_,as',rfl,fun _=>rfl,h1,(OpenSpec.post_iff hwell hwi _ _).mpr rfl,fun z=>Bool.noConfusion (show false=true from z)⟩,h2,h3,h4⟩
end L2
namespace B7
open PySem PySem.Spec PyProof.Rows L2
open PySem.W (Codec OpenSpec)
def aS(K:PySem.W.Frag)(x:Str)(st:Stmt):Prop:=∃(f:Addr) (oc:Value) (od:Option Addr) (kV doc pm:Value) (an:Option Addr) (cdv ct:Value) (osl:Array (Option Value)),
 PySem.W.nsIn K mainGlobals x=some (some (.ref f))∧K.lookup f=some ⟨oc,od,.func (PySem.W.fnOf x x (cP st) (b8 st) (au st) .none kV doc pm an cdv ct),osl⟩∧PySem.W.codeIn K cdv x=true∧PySem.W.keepIn K (.ref f)=true
def bL(K:PySem.W.Frag)(x:Str)(z:Int):Prop:=∃t:Tok,PySem.W.nsIn K mainGlobals x=some (some (.int z t))
def nv(K:PySem.W.Frag)(x:Str):Prop:=PySem.W.nsIn K mainGlobals x=some none
def DH(K:PySem.W.Frag)(C:Addr):List Str→Prop
 |[]=>True
 |f::r=>PySem.W.findIn K (.ref C) f=some none∧DH K C r
def dZ(K:PySem.W.Frag)(x qual:Str)(st:Stmt)(fs:List Str):Prop:=∃(C f:Addr) (oc:Value) (od:Option Addr) (kV doc pm:Value) (an:Option Addr) (cdv ct:Value) (osl:Array (Option Value)),
 PySem.W.nsIn K mainGlobals x=some (some (.ref C))∧PySem.W.findIn K (.ref C) "__init__"=some (some (.ref f))∧PySem.W.isFn K (.ref f)=true∧K.lookup f=some ⟨oc,od,.func (PySem.W.fnOf "__init__" qual (cP st) (b8 st) (au st) .none kV doc pm an cdv ct),osl⟩∧PySem.W.codeIn K cdv qual=true∧PySem.W.keepIn K (.ref f)=true∧
 PySem.W.plainGet K C Str.empty=true∧PySem.W.hasDictIn K C=true∧PySem.W.plainOver K C=true∧PySem.W.findIn K (.ref C) "__setattr__"=some (some (.builtin "object.__setattr__"))∧PySem.W.makesIn K C=true∧PySem.W.keepIn K (.ref C)=true∧DH K C fs
theorem DH.at_{K:PySem.W.Frag}{C:Addr}:∀{fs:List Str},DH K C fs→∀f∈fs,lW K C f
 |[],_,f,h=>by cases h
 |g::r,h,f,hf=>by
  rcases List.mem_cons.mp hf with e |m
  ·rw[e];exact h.1
  ·exact h.2.at_ f m
section
variable {K:PySem.W.Frag}{h:Heap}{mg:Str→Option Value}(X:K.In h)(G:h.Ns mainGlobals mg)
include X G
theorem yw{x:Str}{st:Stmt}{ps:List Str}(H:aS K x st)(hb:∀(kV doc pm:Value) (an:Option Addr) (cdv ct:Value) (us:List Value),us.length=ps.length→bindArgs (PySem.W.fnOf x x (cP st) (b8 st) (au st) .none kV doc pm an cdv ct) ⟨us,[]⟩=pure (ps.zip us)):dD K mg x st ps:=by
 obtain⟨f,oc,od,kV,doc,pm,an,cdv,ct,osl,a,l,c,k⟩:=H
 have F:=IF (st:=st) l c k
 exact⟨f,_,PySem.W.mg_of X G a,F,F.binds hb⟩
theorem wx{x qual:Str}{st:Stmt}{fs ps:List Str}(H:dZ K x qual st fs)(hb:∀(kV doc pm:Value) (an:Option Addr) (cdv ct:Value) (us:List Value),us.length=ps.length→bindArgs (PySem.W.fnOf "__init__" qual (cP st) (b8 st) (au st) .none kV doc pm an cdv ct) ⟨us,[]⟩=pure (ps.zip us)):∃C,uF K mg x qual C st ps∧nG K C fs:=by
 obtain⟨C,f,oc,od,kV,doc,pm,an,cdv,ct,osl,a,i,fn,l,c,k,pg,hd,po,sa,mk,kc,no⟩:=H
 have F:=IF (st:=st) l c k
 exact⟨C,⟨f,_,PySem.W.mg_of X G a,⟨mk,i,fn,kc⟩,F,F.binds hb⟩,⟨⟨pg,hd,po,sa⟩,no.at_⟩⟩
theorem jQ{x:Str}{st:Stmt}{p0:Str}(H:aS K x st)(hb:∀(kV doc pm:Value) (an:Option Addr) (cdv ct:Value) (a0:Value),bindArgs (PySem.W.fnOf x x (cP st) (b8 st) (au st) .none kV doc pm an cdv ct) ⟨[a0],[]⟩=pure [(p0,a0)]):dD K mg x st [p0]:=yw X G H fun _ _ _ _ _ _ us hl=>match us,hl with |[_],_=>hb ..
theorem fz{x:Str}{st:Stmt}{p0 p1:Str}(H:aS K x st)(hb:∀(kV doc pm:Value) (an:Option Addr) (cdv ct:Value) (a0 a1:Value),bindArgs (PySem.W.fnOf x x (cP st) (b8 st) (au st) .none kV doc pm an cdv ct) ⟨[a0,a1],[]⟩=pure [(p0,a0),(p1,a1)]):dD K mg x st [p0,p1]:=yw X G H fun _ _ _ _ _ _ us hl=>match us,hl with |[_,_],_=>hb ..
theorem tu{x:Str}{st:Stmt}{p0 p1 p2:Str}(H:aS K x st)(hb:∀(kV doc pm:Value) (an:Option Addr) (cdv ct:Value) (a0 a1 a2:Value),bindArgs (PySem.W.fnOf x x (cP st) (b8 st) (au st) .none kV doc pm an cdv ct) ⟨[a0,a1,a2],[]⟩=pure [(p0,a0),(p1,a1),(p2,a2)]):dD K mg x st [p0,p1,p2]:=yw X G H fun _ _ _ _ _ _ us hl=>match us,hl with |[_,_,_],_=>hb ..
theorem M8{x:Str}{st:Stmt}{p0 p1 p2 p3:Str}(H:aS K x st)(hb:∀(kV doc pm:Value) (an:Option Addr) (cdv ct:Value) (a0 a1 a2 a3:Value),bindArgs (PySem.W.fnOf x x (cP st) (b8 st) (au st) .none kV doc pm an cdv ct) ⟨[a0,a1,a2,a3],[]⟩=pure [(p0,a0),(p1,a1),(p2,a2),(p3,a3)]):dD K mg x st [p0,p1,p2,p3]:=yw X G H fun _ _ _ _ _ _ us hl=>match us,hl with |[_,_,_,_],_=>hb ..
theorem Qh{x:Str}{st:Stmt}{p0 p1 p2 p3 p4:Str}(H:aS K x st)(hb:∀(kV doc pm:Value) (an:Option Addr) (cdv ct:Value) (a0 a1 a2 a3 a4:Value),bindArgs (PySem.W.fnOf x x (cP st) (b8 st) (au st) .none kV doc pm an cdv ct) ⟨[a0,a1,a2,a3,a4],[]⟩=pure [(p0,a0),(p1,a1),(p2,a2),(p3,a3),(p4,a4)]):dD K mg x st [p0,p1,p2,p3,p4]:=yw X G H fun _ _ _ _ _ _ us hl=>match us,hl with |[_,_,_,_,_],_=>hb ..
theorem OO{x qual:Str}{st:Stmt}{fs:List Str}{p0 p1:Str}(H:dZ K x qual st fs)(hb:∀(kV doc pm:Value) (an:Option Addr) (cdv ct:Value) (a0 a1:Value),bindArgs (PySem.W.fnOf "__init__" qual (cP st) (b8 st) (au st) .none kV doc pm an cdv ct) ⟨[a0,a1],[]⟩=pure [(p0,a0),(p1,a1)]):∃C,uF K mg x qual C st [p0,p1]∧nG K C fs:=wx X G H fun _ _ _ _ _ _ us hl=>match us,hl with |[_,_],_=>hb ..
theorem Ka{x qual:Str}{st:Stmt}{fs:List Str}{p0 p1 p2:Str}(H:dZ K x qual st fs)(hb:∀(kV doc pm:Value) (an:Option Addr) (cdv ct:Value) (a0 a1 a2:Value),bindArgs (PySem.W.fnOf "__init__" qual (cP st) (b8 st) (au st) .none kV doc pm an cdv ct) ⟨[a0,a1,a2],[]⟩=pure [(p0,a0),(p1,a1),(p2,a2)]):∃C,uF K mg x qual C st [p0,p1,p2]∧nG K C fs:=wx X G H fun _ _ _ _ _ _ us hl=>match us,hl with |[_,_,_],_=>hb ..
theorem OP{x qual:Str}{st:Stmt}{fs:List Str}{p0 p1 p2 p3:Str}(H:dZ K x qual st fs)(hb:∀(kV doc pm:Value) (an:Option Addr) (cdv ct:Value) (a0 a1 a2 a3:Value),bindArgs (PySem.W.fnOf "__init__" qual (cP st) (b8 st) (au st) .none kV doc pm an cdv ct) ⟨[a0,a1,a2,a3],[]⟩=pure [(p0,a0),(p1,a1),(p2,a2),(p3,a3)]):∃C,uF K mg x qual C st [p0,p1,p2,p3]∧nG K C fs:=wx X G H fun _ _ _ _ _ _ us hl=>match us,hl with |[_,_,_,_],_=>hb ..
theorem OQ{x qual:Str}{st:Stmt}{fs:List Str}{p0 p1 p2 p3 p4:Str}(H:dZ K x qual st fs)(hb:∀(kV doc pm:Value) (an:Option Addr) (cdv ct:Value) (a0 a1 a2 a3 a4:Value),bindArgs (PySem.W.fnOf "__init__" qual (cP st) (b8 st) (au st) .none kV doc pm an cdv ct) ⟨[a0,a1,a2,a3,a4],[]⟩=pure [(p0,a0),(p1,a1),(p2,a2),(p3,a3),(p4,a4)]):∃C,uF K mg x qual C st [p0,p1,p2,p3,p4]∧nG K C fs:=wx X G H fun _ _ _ _ _ _ us hl=>match us,hl with |[_,_,_,_,_],_=>hb ..
theorem bR{x:Str}{z:Int}(H:bL K x z):∃t,mg x=some (.int z t):=let ⟨t,e⟩:=H;⟨t,PySem.W.mg_of X G e⟩
theorem o8{x:Str}(H:nv K x):mg x=none:=PySem.W.mg_none_of X G H
end
def BX(K:PySem.W.Frag):Prop:=∃(ta:Addr) (od:Option Addr) (n:Nat) (sl:Array (Option Value)) (f0 f1 f2 f3 f4 f5 f6 f7 f8 f9 f10 f11 f12 f13:Addr),PySem.W.nsIn K mainGlobals "LAWS_OF_KIND"=some (some (.ref ta))∧K.lookup ta=some ⟨.type "tuple",od,.seq #[.ref f0,.ref f1,.ref f2,.ref f3,.ref f4,.ref f5,.ref f6,.ref f7,.ref f8,.ref f9,.ref f10,.ref f11,.ref f12,.ref f13] n,sl⟩∧PySem.W.nsIn K mainGlobals "resistor_laws"=some (some (.ref f0))∧PySem.W.nsIn K mainGlobals "capacitor_laws"=some (some (.ref f1))∧PySem.W.nsIn K mainGlobals "coil_laws"=some (some (.ref f2))∧PySem.W.nsIn K mainGlobals "coupling_laws"=some (some (.ref f3))∧PySem.W.nsIn K mainGlobals "voltage_source_laws"=some (some (.ref f4))∧PySem.W.nsIn K mainGlobals "current_source_laws"=some (some (.ref f5))∧PySem.W.nsIn K mainGlobals "voltage_by_voltage_laws"=some (some (.ref f6))∧PySem.W.nsIn K mainGlobals "current_by_voltage_laws"=some (some (.ref f7))∧PySem.W.nsIn K mainGlobals "voltage_by_current_laws"=some (some (.ref f8))∧PySem.W.nsIn K mainGlobals "current_by_current_laws"=some (some (.ref f9))∧PySem.W.nsIn K mainGlobals "transformer_laws"=some (some (.ref f10))∧PySem.W.nsIn K mainGlobals "amplifier_laws"=some (some (.ref f11))∧PySem.W.nsIn K mainGlobals "switch_laws"=some (some (.ref f12))∧PySem.W.nsIn K mainGlobals "diode_laws"=some (some (.ref f13))
theorem bL.mk{K:PySem.W.Frag}{x:Str}{z:Int}{t:Tok}(a:PySem.W.nsIn K mainGlobals x=some (some (.int z t))):bL K x z:=⟨t,a⟩
theorem aS.mk{K:PySem.W.Frag}{x:Str}{st:Stmt}{f:Addr}{oc:Value}{od:Option Addr}{kV doc pm:Value}{an:Option Addr}{cdv ct:Value}{osl:Array (Option Value)}
  (a:PySem.W.nsIn K mainGlobals x=some (some (.ref f))) (l:K.lookup f=some ⟨oc,od,.func (PySem.W.fnOf x x (cP st) (b8 st) (au st) .none kV doc pm an cdv ct),osl⟩) (c:PySem.W.codeIn K cdv x=true) (k:PySem.W.keepIn K (.ref f)=true):aS K x st:=⟨f,oc,od,kV,doc,pm,an,cdv,ct,osl,a,l,c,k⟩
theorem dZ.mk{K:PySem.W.Frag}{x qual:Str}{st:Stmt}{fs:List Str}{C f:Addr}{oc:Value}{od:Option Addr}{kV doc pm:Value}{an:Option Addr}{cdv ct:Value}{osl:Array (Option Value)}
  (a:PySem.W.nsIn K mainGlobals x=some (some (.ref C))) (i:PySem.W.findIn K (.ref C) "__init__"=some (some (.ref f))) (fn:PySem.W.isFn K (.ref f)=true) (l:K.lookup f=some ⟨oc,od,.func (PySem.W.fnOf "__init__" qual (cP st) (b8 st) (au st) .none kV doc pm an cdv ct),osl⟩) (c:PySem.W.codeIn K cdv qual=true) (k:PySem.W.keepIn K (.ref f)=true)
  (pg:PySem.W.plainGet K C Str.empty=true) (hd:PySem.W.hasDictIn K C=true) (po:PySem.W.plainOver K C=true) (sa:PySem.W.findIn K (.ref C) "__setattr__"=some (some (.builtin "object.__setattr__"))) (mk:PySem.W.makesIn K C=true) (kc:PySem.W.keepIn K (.ref C)=true) (no:DH K C fs):dZ K x qual st fs:=
 ⟨C,f,oc,od,kV,doc,pm,an,cdv,ct,osl,a,i,fn,l,c,k,pg,hd,po,sa,mk,kc,no⟩
theorem BX.mk{K:PySem.W.Frag}{ta:Addr}{od:Option Addr}{n:Nat}{sl:Array (Option Value)}{f0 f1 f2 f3 f4 f5 f6 f7 f8 f9 f10 f11 f12 f13:Addr}(a:PySem.W.nsIn K mainGlobals "LAWS_OF_KIND"=some (some (.ref ta)))(l:K.lookup ta=some ⟨.type "tuple",od,.seq #[.ref f0,.ref f1,.ref f2,.ref f3,.ref f4,.ref f5,.ref f6,.ref f7,.ref f8,.ref f9,.ref f10,.ref f11,.ref f12,.ref f13] n,sl⟩)(t0:PySem.W.nsIn K mainGlobals "resistor_laws"=some (some (.ref f0)))(t1:PySem.W.nsIn K mainGlobals "capacitor_laws"=some (some (.ref f1)))(t2:PySem.W.nsIn K mainGlobals "coil_laws"=some (some (.ref f2)))(t3:PySem.W.nsIn K mainGlobals "coupling_laws"=some (some (.ref f3)))(t4:PySem.W.nsIn K mainGlobals "voltage_source_laws"=some (some (.ref f4)))(t5:PySem.W.nsIn K mainGlobals "current_source_laws"=some (some (.ref f5)))(t6:PySem.W.nsIn K mainGlobals "voltage_by_voltage_laws"=some (some (.ref f6)))(t7:PySem.W.nsIn K mainGlobals "current_by_voltage_laws"=some (some (.ref f7)))(t8:PySem.W.nsIn K mainGlobals "voltage_by_current_laws"=some (some (.ref f8)))(t9:PySem.W.nsIn K mainGlobals "current_by_current_laws"=some (some (.ref f9)))(t10:PySem.W.nsIn K mainGlobals "transformer_laws"=some (some (.ref f10)))(t11:PySem.W.nsIn K mainGlobals "amplifier_laws"=some (some (.ref f11)))(t12:PySem.W.nsIn K mainGlobals "switch_laws"=some (some (.ref f12)))(t13:PySem.W.nsIn K mainGlobals "diode_laws"=some (some (.ref f13))):BX K:=
 ⟨ta,od,n,sl,f0,f1,f2,f3,f4,f5,f6,f7,f8,f9,f10,f11,f12,f13,a,l,t0,t1,t2,t3,t4,t5,t6,t7,t8,t9,t10,t11,t12,t13⟩
theorem gQ{P:Program}{w:World}{K:PySem.W.Frag}{mg:Str→Option Value}{base:Heap}{c:Cs}{x:Str}{k i:Nat}{f:Addr}{kd:ak.gk→Nat→Prop}{F:ak.gk→Nat→List (List (Int×List Int))}(C:bo P w K mg base x ["setting","k"] k (eG c kd F))(hk:k≤5)(hf:mg x=some (.ref f))(h1:∀g k,(pat g k).kind=(i:Int)→GH g k→kd g k)(h2:∀g k,(pat g k).kind=(i:Int)→ak.cF g k=F g k):∃fd,kK P w K mg base FO 5 f fd ["setting","k"] (JS c i)∧PySem.W.keepIn K (.ref f)=true∧Binds K fd ["setting","k"] []:=by
 obtain⟨f',fd,hm,ok,kp,b⟩:=C.ex
 rw[hf] at hm
 cases hm
 refine⟨fd,(ok.mono hk).imp ?_,kp,b⟩
 rintro vs H Q E ⟨v,g,k,e,hg,so,hl,⟨hi,li⟩,nl⟩
 refine⟨v,g,k,e,hg,so,hl,h1 g k hi li,?_⟩
 rw[←h2 g k hi]
 exact nl
theorem dk{g:ak.gk}{k i:Nat}(h:(pat g k).kind=(i:Int)):(g.aO.af.getD k ak.p0).kind.toNat=i:=by
 show(pat g k).kind.toNat=i
 rw[h,Int.toNat_natCast]
structure QK(K:PySem.W.Frag):Prop where
 dz:nv K "len"
 xB:nv K "list"
 Gz:nv K "max"
 JD:nv K "sum"
 Df:nv K "all"
 GA:nv K "any"
 Ao:nv K "abs"
 fJ:nv K "range"
 di:nv K "enumerate"
 JE:nv K "zip"
 qI:nv K "reversed"
 qK:bL K "RESISTOR" 0
 oG:bL K "CAPACITOR" 1
 BF:bL K "COIL" 2
 dw:bL K "COUPLING" 3
 g7:bL K "VOLTAGE_SOURCE" 4
 g8:bL K "CURRENT_SOURCE" 5
 e7:bL K "VOLTAGE_BY_VOLTAGE" 6
 e9:bL K "CURRENT_BY_VOLTAGE" 7
 fb:bL K "VOLTAGE_BY_CURRENT" 8
 fc:bL K "CURRENT_BY_CURRENT" 9
 d9:bL K "TRANSFORMER" 10
 kg:bL K "AMPLIFIER" 11
 xI:bL K "SWITCH" 12
 pO:bL K "DIODE" 13
 oH:bL K "LAST_KIND" 13
 gD:bL K "NODE_VOLTAGE" 0
 pQ:bL K "CURRENT" 1
 uL:bL K "VOLTAGE" 2
 jL:bL K "NO_FAULT" 0
 mM:bL K "WRONG_NODE" 1
 gE:bL K "WRONG_NUMBER" 2
 dj:bL K "WRONG_REFERENCE" 3
 mN:bL K "MOST_NODES" 8
 mO:bL K "MOST_PARTS" 10
 lD:bL K "MOST_DIODES" 3
 cO:bL K "NUMBERS_OF_A_PART" 7
 mP:bL K "LAST_PLACE" 63
 qW:bL K "MOST_TOP" 1000000
 lE:bL K "MOST_BOTTOM" 1000000
 jP:bL K "NUMBERS_OF_S" 4
 iS:bL K "MOST_TOP_OF_S" 1000
 fU:bL K "MOST_BOTTOM_OF_S" 1000
 rz:aS K "is_fraction_of_s" fW
 rA:aS K "is_frequency_row" fX
 DI:aS K "part_rows" ks
 ze:aS K "is_part_row" iu
 uQ:aS K "is_network_row" dM
 yx:aS K "read_network" gJ
 Fl:aS K "nodes_of" qX
 tw:aS K "may_have_number" gF
 BY:aS K "may_follow" mQ
 uR:aS K "is_coil_before" h9
 HH:aS K "couples" uN
 nJ:aS K "is_coupled_too_much" eK
 uS:aS K "coupling_fault" fu
 Fm:aS K "fault_of" mT
 zh:aS K "first_fault" lF
 uT:aS K "refusal_of_net" ib
 DJ:aS K "is_source" oV
 o9:aS K "is_linear_quantity" fg
 uU:aS K "rows_of_states" hU
 zj:aS K "currents_of" kY
 uV:aS K "current_places" g9
 zl:aS K "unknowns_of" iq
 Fn:aS K "constant" qJ
 BZ:aS K "multiplied" mw
 Kb:aS K "scaled" sk
 yy:aS K "times_number" jq
 tx:aS K "voltage_between" gA
 B0:aS K "voltage_of" mz
 B2:aS K "current_of" mD
 wa:aS K "resistor_laws" iN
 uW:aS K "capacitor_laws" hC
 zm:aS K "coil_shares" lg
 DK:aS K "coil_laws" oN
 wb:aS K "coupling_laws" iO
 yA:aS K "set_to_drive" jr
 nL:aS K "voltage_source_laws" eH
 nM:aS K "current_source_laws" eI
 nN:aS K "controlling_voltage" eF
 jR:aS K "voltage_by_voltage_laws" cZ
 jS:aS K "current_by_voltage_laws" c4
 jT:aS K "voltage_by_current_laws" c5
 jU:aS K "current_by_current_laws" c6
 rB:aS K "transformer_laws" fR
 uX:aS K "amplifier_laws" hE
 zo:aS K "switch_laws" kZ
 B3:aS K "diode_laws" mI
 DL:aS K "node_laws" kj
 HI:aS K "trimmed" uq
 Lj:aS K "added" BE
 Kc:aS K "row_of" sj
 Fo:aS K "law_rows" mJ
 tD:aS K "row_to_solve_by" gB
 HJ:aS K "negated" pM
 B4:aS K "subtracted" mv
 HK:aS K "divided" uw
 zr:aS K "cleared_row" ly
 HL:aS K "cleared" uI
 Kd:aS K "solved" oT
 zu:aS K "constant_of" kW
 zw:aS K "current_top" lB
 Fp:aS K "node_top" qR
 uY:aS K "difference_top" hJ
 zx:aS K "voltage_top" lC
 yB:aS K "diode_agrees" jI
 rC:aS K "all_diodes_agree" dX
 tE:aS K "operating_point" eR
 uZ:aS K "driven_setting" ft
 yC:aS K "quantity_top" jH
 tF:aS K "driven_quantity" gK
 tG:aS K "complex_product" gM
 zy:aS K "whole_value" lI
 rD:aS K "greatest_divisor" fO
 yD:aS K "lowest_terms" gN
 B5:aS K "told_value" mX
 Lk:aS K "value" BU
 M9:dZ K "Part" "Part.__init__" oQ ["kind","a","b","c","d","top","bottom"]
 HM:dZ K "Network" "Network.__init__" jC ["last_node","parts"]
 Ll:dZ K "Asked" "Asked.__init__" mL ["refusal","top","bottom"]
 HN:dZ K "Setting" "Setting.__init__" jD ["network","s","states","drives","places","width"]
 Fq:dZ K "Solution" "Solution.__init__" iP ["determinant","tops"]
 u0:dZ K "OperatingPoint" "OperatingPoint.__init__" eJ ["states","solution"]
 tab:BX K
theorem all_mk{P:Program}{w:World}{K:PySem.W.Frag}{h:Heap}{mg:Str→Option Value}{fa:Addr}(htree:P.given.tree=none)(X:K.In h)(G:h.Ns mainGlobals mg)(hfa:mg "value"=some (.ref fa))(W:QK K):
  ∀base:Heap,K.In base→base.Ns mainGlobals mg→base.NoSeer→∃fd:FuncData,Binds K fd ["source","what","k","net","s"] []∧kK P w K mg base FO 44 fa fd ["source","what","k","net","s"] (o6 K):=by
 have T:TxtV mg:=⟨⟨⟨⟨⟨o8 X G W.dz,o8 X G W.xB,o8 X G W.Gz,o8 X G W.JD,o8 X G W.Df,o8 X G W.GA,o8 X G W.Ao,o8 X G W.fJ,o8 X G W.di,o8 X G W.JE,o8 X G W.qI⟩,bR X G W.qK,bR X G W.oG,bR X G W.BF,bR X G W.dw,bR X G W.g7,bR X G W.g8,bR X G W.e7,bR X G W.e9,bR X G W.fb,bR X G W.fc,bR X G W.d9,bR X G W.kg,bR X G W.xI,bR X G W.pO,bR X G W.oH⟩,bR X G W.gD,bR X G W.pQ,bR X G W.uL⟩,bR X G W.jL,bR X G W.mM,bR X G W.gE,bR X G W.dj,bR X G W.mN,bR X G W.mO,bR X G W.lD,bR X G W.cO,bR X G W.mP,bR X G W.qW,bR X G W.lE⟩,bR X G W.jP,bR X G W.iS,bR X G W.fU⟩
 obtain⟨Na,Nb,Nc⟩:=OO (p0:="self") (p1:="numbers") X G W.M9 fun _ _ _ _ _ _ _ _=>rfl
 obtain⟨HP,HQ,HR⟩:=Ka (p0:="self") (p1:="last_node") (p2:="parts") X G W.HM fun _ _ _ _ _ _ _ _ _=>rfl
 obtain⟨Lm,Ln,Lo⟩:=OP (p0:="self") (p1:="refusal") (p2:="top") (p3:="bottom") X G W.Ll fun _ _ _ _ _ _ _ _ _ _=>rfl
 obtain⟨HS,HU,HV⟩:=OQ (p0:="self") (p1:="network") (p2:="s") (p3:="states") (p4:="drives") X G W.HN fun _ _ _ _ _ _ _ _ _ _ _=>rfl
 obtain⟨Fs,Ft,Fu⟩:=Ka (p0:="self") (p1:="determinant") (p2:="tops") X G W.Fq fun _ _ _ _ _ _ _ _ _=>rfl
 obtain⟨u4,u5,u6⟩:=Ka (p0:="self") (p1:="states") (p2:="solution") X G W.u0 fun _ _ _ _ _ _ _ _ _=>rfl
 let c:Cs:=⟨Na,HP,HS,Fs,u4,Lm⟩
 have O:cK K c:=⟨Nc,HR,HV,Fu,u6,Lo⟩
 obtain⟨ta,od,tn,sl,f0,f1,f2,f3,f4,f5,f6,f7,f8,f9,f10,f11,f12,f13,hT,lT,t0,t1,t2,t3,t4,t5,t6,t7,t8,t9,t10,t11,t12,t13⟩:=W.tab
 have big:∀base:Heap,K.In base→base.Ns mainGlobals mg→base.NoSeer→bo P w K mg base "value" ["source","what","k","net","s"] 44 (o6 K):=fun base _ _ hno=>by
  have dY:=p8 (P:=P) (w:=w) (base:=base) T (fz X G W.rz fun _ _ _ _ _ _ _ _=>rfl)
  have fZ:=qe (P:=P) (w:=w) (base:=base) T dY (jQ X G W.rA fun _ _ _ _ _ _ _=>rfl)
  have gj:=BQ (P:=P) (w:=w) (base:=base) T.toTxt4 (jQ X G W.DI fun _ _ _ _ _ _ _=>rfl)
  have lG:=yo (P:=P) (w:=w) (base:=base) T.toTxt4 (jQ X G W.ze fun _ _ _ _ _ _ _=>rfl)
  have ic:=sX (P:=P) (w:=w) (base:=base) T.toTxt4 gj lG (jQ X G W.uQ fun _ _ _ _ _ _ _=>rfl)
  have Fi:=La (P:=P) (w:=w) (base:=base) O.part Nb
  have uP:=Fb (P:=P) (w:=w) (base:=base) O.aO HQ
  have dN:=v5 (P:=P) (w:=w) (base:=base) T.toTxt4 O gj Fi uP (jQ X G W.yx fun _ _ _ _ _ _ _=>rfl)
  have rb:=Dx (P:=P) (w:=w) (base:=base) T.toTxt4.toTxt3.toTxt2 O (jQ X G W.Fl fun _ _ _ _ _ _ _=>rfl)
  have gH:=qZ (P:=P) (w:=w) (base:=base) T.toTxt4.toTxt3.toTxt2 O (jQ X G W.tw fun _ _ _ _ _ _ _=>rfl)
  have mU:=y6 (P:=P) (w:=w) (base:=base) T.toTxt4.toTxt3.toTxt2 O (fz X G W.BY fun _ _ _ _ _ _ _ _=>rfl)
  have fw:=sR (P:=P) (w:=w) (base:=base) T.toTxt4.toTxt3.toTxt2 O (tu X G W.uR fun _ _ _ _ _ _ _ _ _=>rfl)
  have uO:=Fh (P:=P) (w:=w) (base:=base) T.toTxt4.toTxt3.toTxt2 O (tu X G W.HH fun _ _ _ _ _ _ _ _ _=>rfl)
  have eN:=mS (P:=P) (w:=w) (base:=base) O (tu X G W.nJ fun _ _ _ _ _ _ _ _ _=>rfl)
  have ia:=sU (P:=P) (w:=w) (base:=base) T.toTxt4 O fw uO eN (fz X G W.uS fun _ _ _ _ _ _ _ _=>rfl)
  have rd:=DA (P:=P) (w:=w) (base:=base) T.toTxt4 O rb gH mU ia (fz X G W.Fm fun _ _ _ _ _ _ _ _=>rfl)
  have lH:=ym (P:=P) (w:=w) (base:=base) T.toTxt4 O rd (jQ X G W.zh fun _ _ _ _ _ _ _=>rfl)
  have ie:=sZ (P:=P) (w:=w) (base:=base) T.toTxt4 ic dN lH (jQ X G W.uT fun _ _ _ _ _ _ _=>rfl)
  have pR:=JU (P:=P) (w:=w) (base:=base) O.ask Ln
  have oY:=BO (P:=P) (w:=w) (base:=base) T.toTxt4.toTxt3.toTxt2 O (fz X G W.DJ fun _ _ _ _ _ _ _ _=>rfl)
  have fh:=nI (P:=P) (w:=w) (base:=base) T.toTxt4.toTxt3 O (tu X G W.o9 fun _ _ _ _ _ _ _ _ _=>rfl)
  have hW:=sP (P:=P) (w:=w) (base:=base) T.toTxt4.toTxt3.toTxt2 O (jQ X G W.uU fun _ _ _ _ _ _ _=>rfl)
  have eh:=xK (P:=P) (w:=w) (base:=base) T.toTxt4.toTxt3.toTxt2 O (jQ X G W.zj fun _ _ _ _ _ _ _=>rfl)
  have hG:=sf (P:=P) (w:=w) (base:=base) T.toTxt4.toTxt3.toTxt2 O eh (jQ X G W.uV fun _ _ _ _ _ _ _=>rfl)
  have lq:=xN (P:=P) (w:=w) (base:=base) T.toTxt4.toTxt3.toTxt2 O eh (jQ X G W.zl fun _ _ _ _ _ _ _=>rfl)
  have jc:=Fc (P:=P) (w:=w) (base:=base) O hG lq HU
  have cM:=Di (P:=P) (w:=w) (base:=base) (jQ X G W.Fn fun _ _ _ _ _ _ _=>rfl)
  have dW:=yR (P:=P) (w:=w) (base:=base) T.toTxt4.toTxt3.toTxt2.toTxt (fz X G W.BZ fun _ _ _ _ _ _ _ _=>rfl)
  have cq:=Hx (P:=P) (w:=w) (base:=base) dW (fz X G W.Kb fun _ _ _ _ _ _ _ _=>rfl)
  have aP:=vP (P:=P) (w:=w) (base:=base) O cM cq (tu X G W.yy fun _ _ _ _ _ _ _ _ _=>rfl)
  have cI:=qM (P:=P) (w:=w) (base:=base) (fz X G W.tx fun _ _ _ _ _ _ _ _=>rfl)
  have aU:=yT (P:=P) (w:=w) (base:=base) O cI (jQ X G W.B0 fun _ _ _ _ _ _ _=>rfl)
  have aI:=yV (P:=P) (w:=w) (base:=base) O (fz X G W.B2 fun _ _ _ _ _ _ _ _=>rfl)
  have wc:=uA (P:=P) (w:=w) (base:=base) O aP aU aI (fz X G W.wa fun _ _ _ _ _ _ _ _=>rfl)
  have u7:=su (P:=P) (w:=w) (base:=base) O aP aU aI cq (fz X G W.uW fun _ _ _ _ _ _ _ _=>rfl)
  have lh:=xU (P:=P) (w:=w) (base:=base) T.toTxt4.toTxt3.toTxt2 O (fz X G W.zm fun _ _ _ _ _ _ _ _=>rfl)
  have DM:=BI (P:=P) (w:=w) (base:=base) O lh aU aI cq cM (fz X G W.DK fun _ _ _ _ _ _ _ _=>rfl)
  have we:=uC (P:=P) (w:=w) (base:=base) (c:=c) (fz X G W.wb fun _ _ _ _ _ _ _ _=>rfl)
  have dJ:=vR (P:=P) (w:=w) (base:=base) O cM cq (tu X G W.yA fun _ _ _ _ _ _ _ _ _=>rfl)
  have cW:=mF (P:=P) (w:=w) (base:=base) O dJ aU (fz X G W.nL fun _ _ _ _ _ _ _ _=>rfl)
  have nO:=mH (P:=P) (w:=w) (base:=base) O dJ aI (fz X G W.nM fun _ _ _ _ _ _ _ _=>rfl)
  have aV:=mC (P:=P) (w:=w) (base:=base) O cI (jQ X G W.nN fun _ _ _ _ _ _ _=>rfl)
  have jV:=ju (P:=P) (w:=w) (base:=base) O aP aU aV (fz X G W.jR fun _ _ _ _ _ _ _ _=>rfl)
  have jW:=jw (P:=P) (w:=w) (base:=base) O aP aI aV (fz X G W.jS fun _ _ _ _ _ _ _ _=>rfl)
  have jX:=jy (P:=P) (w:=w) (base:=base) O aP aU aI (fz X G W.jT fun _ _ _ _ _ _ _ _=>rfl)
  have jY:=jA (P:=P) (w:=w) (base:=base) O aP aI (fz X G W.jU fun _ _ _ _ _ _ _ _=>rfl)
  have rE:=pW (P:=P) (w:=w) (base:=base) O aP aU aV aI cq (fz X G W.rB fun _ _ _ _ _ _ _ _=>rfl)
  have u9:=sy (P:=P) (w:=w) (base:=base) O aV (fz X G W.uX fun _ _ _ _ _ _ _ _=>rfl)
  have zz:=xR (P:=P) (w:=w) (base:=base) O aI aU (fz X G W.zo fun _ _ _ _ _ _ _ _=>rfl)
  have B6:=yX (P:=P) (w:=w) (base:=base) O cW aI (fz X G W.B3 fun _ _ _ _ _ _ _ _=>rfl)
  have oP:=BL (P:=P) (w:=w) (base:=base) T.toTxt4.toTxt3.toTxt2 O (jQ X G W.DL fun _ _ _ _ _ _ _=>rfl)
  have uu:=EO (P:=P) (w:=w) (base:=base) T.toTxt4.toTxt3.toTxt2.toTxt (jQ X G W.HI fun _ _ _ _ _ _ _=>rfl)
  have pN:=JG (P:=P) (w:=w) (base:=base) T.toTxt4.toTxt3.toTxt2.toTxt uu (fz X G W.Lj fun _ _ _ _ _ _ _ _=>rfl)
  have xV:=Hv (P:=P) (w:=w) (base:=base) T.toTxt4.toTxt3.toTxt2 pN (fz X G W.Kc fun _ _ _ _ _ _ _ _=>rfl)
  have L:JT P w K mg base c ta [f0,f1,f2,f3,f4,f5,f6,f7,f8,f9,f10,f11,f12,f13]:=by
   refine⟨PySem.W.mg_of X G hT,fun H=> .inr ⟨_,#[.ref f0,.ref f1,.ref f2,.ref f3,.ref f4,.ref f5,.ref f6,.ref f7,.ref f8,.ref f9,.ref f10,.ref f11,.ref f12,.ref f13],tn,lT,rfl,rfl,aw (by show 14≤16777216;decide),?_⟩,fun i hi=> ?_⟩
   ·exact .cons rfl (.cons rfl (.cons rfl (.cons rfl (.cons rfl (.cons rfl (.cons rfl (.cons rfl (.cons rfl (.cons rfl (.cons rfl (.cons rfl (.cons rfl (.cons rfl (.nil))))))))))))))
   ·have hi14:i=0∨i=1∨i=2∨i=3∨i=4∨i=5∨i=6∨i=7∨i=8∨i=9∨i=10∨i=11∨i=12∨i=13:=by omega
    rcases hi14 with rfl |rfl |rfl |rfl |rfl |rfl |rfl |rfl |rfl |rfl |rfl |rfl |rfl |rfl
    ·obtain⟨fd,x1,x2,x3⟩:=gQ (i:=0) wc (by decide) (PySem.W.mg_of X G t0) (fun g k hi li=>trivial) (fun g k hi=>by unfold ak.cF;dsimp only;rw[dk hi] <;>rfl)
     exact⟨f0,fd,rfl,x1,x2,x3⟩
    ·obtain⟨fd,x1,x2,x3⟩:=gQ (i:=1) u7 (by decide) (PySem.W.mg_of X G t1) (fun g k hi li=>trivial) (fun g k hi=>by unfold ak.cF;dsimp only;rw[dk hi] <;>rfl)
     exact⟨f1,fd,rfl,x1,x2,x3⟩
    ·obtain⟨fd,x1,x2,x3⟩:=gQ (i:=2) DM (by decide) (PySem.W.mg_of X G t2) (fun g k hi li=>li.PM hi) (fun g k hi=>by unfold ak.cF;dsimp only;rw[dk hi] <;>rfl)
     exact⟨f2,fd,rfl,x1,x2,x3⟩
    ·obtain⟨fd,x1,x2,x3⟩:=gQ (i:=3) we (by decide) (PySem.W.mg_of X G t3) (fun g k hi li=>trivial) (fun g k hi=>by unfold ak.cF;dsimp only;rw[dk hi] <;>rfl)
     exact⟨f3,fd,rfl,x1,x2,x3⟩
    ·obtain⟨fd,x1,x2,x3⟩:=gQ (i:=4) cW (by decide) (PySem.W.mg_of X G t4) (fun g k hi li=>trivial) (fun g k hi=>by unfold ak.cF;dsimp only;rw[dk hi] <;>rfl)
     exact⟨f4,fd,rfl,x1,x2,x3⟩
    ·obtain⟨fd,x1,x2,x3⟩:=gQ (i:=5) nO (by decide) (PySem.W.mg_of X G t5) (fun g k hi li=>trivial) (fun g k hi=>by unfold ak.cF;dsimp only;rw[dk hi] <;>rfl)
     exact⟨f5,fd,rfl,x1,x2,x3⟩
    ·obtain⟨fd,x1,x2,x3⟩:=gQ (i:=6) jV (by decide) (PySem.W.mg_of X G t6) (fun g k hi li=>trivial) (fun g k hi=>by unfold ak.cF;dsimp only;rw[dk hi] <;>rfl)
     exact⟨f6,fd,rfl,x1,x2,x3⟩
    ·obtain⟨fd,x1,x2,x3⟩:=gQ (i:=7) jW (by decide) (PySem.W.mg_of X G t7) (fun g k hi li=>trivial) (fun g k hi=>by unfold ak.cF;dsimp only;rw[dk hi] <;>rfl)
     exact⟨f7,fd,rfl,x1,x2,x3⟩
    ·obtain⟨fd,x1,x2,x3⟩:=gQ (i:=8) jX (by decide) (PySem.W.mg_of X G t8) (fun g k hi li=>li.ref (.inl hi)) (fun g k hi=>by unfold ak.cF;dsimp only;rw[dk hi] <;>rfl)
     exact⟨f8,fd,rfl,x1,x2,x3⟩
    ·obtain⟨fd,x1,x2,x3⟩:=gQ (i:=9) jY (by decide) (PySem.W.mg_of X G t9) (fun g k hi li=>li.ref (.inr hi)) (fun g k hi=>by unfold ak.cF;dsimp only;rw[dk hi] <;>rfl)
     exact⟨f9,fd,rfl,x1,x2,x3⟩
    ·obtain⟨fd,x1,x2,x3⟩:=gQ (i:=10) rE (by decide) (PySem.W.mg_of X G t10) (fun g k hi li=>trivial) (fun g k hi=>by unfold ak.cF;dsimp only;rw[dk hi] <;>rfl)
     exact⟨f10,fd,rfl,x1,x2,x3⟩
    ·obtain⟨fd,x1,x2,x3⟩:=gQ (i:=11) u9 (by decide) (PySem.W.mg_of X G t11) (fun g k hi li=>trivial) (fun g k hi=>by unfold ak.cF;dsimp only;rw[dk hi] <;>rfl)
     exact⟨f11,fd,rfl,x1,x2,x3⟩
    ·obtain⟨fd,x1,x2,x3⟩:=gQ (i:=12) zz (by decide) (PySem.W.mg_of X G t12) (fun g k hi li=>trivial) (fun g k hi=>by unfold ak.cF;dsimp only;rw[dk hi] <;>rfl)
     exact⟨f12,fd,rfl,x1,x2,x3⟩
    ·obtain⟨fd,x1,x2,x3⟩:=gQ (i:=13) B6 (by decide) (PySem.W.mg_of X G t13) (fun g k hi li=>trivial) (fun g k hi=>by unfold ak.cF;dsimp only;rw[dk hi] <;>rfl)
     exact⟨f13,fd,rfl,x1,x2,x3⟩
  have hX:=Dm (P:=P) (w:=w) (base:=base) T.toTxt4.toTxt3.toTxt2 O L oP xV (jQ X G W.Fo fun _ _ _ _ _ _ _=>rfl)
  have gC:=qO (P:=P) (w:=w) (base:=base) T.toTxt4.toTxt3.toTxt2 (fz X G W.tD fun _ _ _ _ _ _ _ _=>rfl)
  have uv:=ES (P:=P) (w:=w) (base:=base) (jQ X G W.HJ fun _ _ _ _ _ _ _=>rfl)
  have fq:=yP (P:=P) (w:=w) (base:=base) uv pN (fz X G W.B4 fun _ _ _ _ _ _ _ _=>rfl)
  have uH:=EV (P:=P) (w:=w) (base:=base) T.toTxt4.toTxt3.toTxt2.toTxt (fz X G W.HK fun _ _ _ _ _ _ _ _=>rfl)
  have lA:=xY (P:=P) (w:=w) (base:=base) T.toTxt4.toTxt3.toTxt2 dW fq uH (M8 X G W.zr fun _ _ _ _ _ _ _ _ _ _=>rfl)
  have uK:=Fe (P:=P) (w:=w) (base:=base) T.toTxt4.toTxt3.toTxt2 lA (tu X G W.HL fun _ _ _ _ _ _ _ _ _=>rfl)
  have qP:=Dn (P:=P) (w:=w) (base:=base) O.sol Ft
  have lS:=HA (P:=P) (w:=w) (base:=base) T.toTxt4.toTxt3.toTxt2 O gC uK qP (jQ X G W.Kd fun _ _ _ _ _ _ _=>rfl)
  have fF:=xG (P:=P) (w:=w) (base:=base) (jQ X G W.zu fun _ _ _ _ _ _ _=>rfl)
  have eu:=ye (P:=P) (w:=w) (base:=base) O (tu X G W.zw fun _ _ _ _ _ _ _ _ _=>rfl)
  have fS:=Ds (P:=P) (w:=w) (base:=base) O (fz X G W.Fp fun _ _ _ _ _ _ _ _=>rfl)
  have hR:=sH (P:=P) (w:=w) (base:=base) fS fq (tu X G W.uY fun _ _ _ _ _ _ _ _ _=>rfl)
  have eC:=yh (P:=P) (w:=w) (base:=base) O hR (tu X G W.zx fun _ _ _ _ _ _ _ _ _=>rfl)
  have jJ:=vY (P:=P) (w:=w) (base:=base) O fF eu eC (tu X G W.yB fun _ _ _ _ _ _ _ _ _=>rfl)
  have fT:=pY (P:=P) (w:=w) (base:=base) T.toTxt4.toTxt3.toTxt2 O jJ (fz X G W.rC fun _ _ _ _ _ _ _ _=>rfl)
  have hZ:=sF (P:=P) (w:=w) (base:=base) O.pt u5
  have gL:=qV (P:=P) (w:=w) (base:=base) T.toTxt4.toTxt3.toTxt2 O hW jc hX lS fT hZ (jQ X G W.tE fun _ _ _ _ _ _ _=>rfl)
  have ig:=sL (P:=P) (w:=w) (base:=base) T.toTxt4.toTxt3.toTxt2 O jc (tu X G W.uZ fun _ _ _ _ _ _ _ _ _=>rfl)
  have jO:=vW (P:=P) (w:=w) (base:=base) T.toTxt4.toTxt3 fS eu eC (M8 X G W.yC fun _ _ _ _ _ _ _ _ _ _=>rfl)
  have gP:=rg (P:=P) (w:=w) (base:=base) T.toTxt4 O ie pR dN oY fh gL ig hX lS jO (M8 X G W.tF fun _ _ _ _ _ _ _ _ _ _=>rfl)
  have cJ:=rm (P:=P) (w:=w) (base:=base) (fz X G W.tG fun _ _ _ _ _ _ _ _=>rfl)
  have iw:=yq (P:=P) (w:=w) (base:=base) T cJ (tu X G W.zy fun _ _ _ _ _ _ _ _ _=>rfl)
  have fY:=pU (P:=P) (w:=w) (base:=base) T.toTxt4.toTxt3.toTxt2.toTxt (fz X G W.rD fun _ _ _ _ _ _ _ _=>rfl)
  have gO:=v8 (P:=P) (w:=w) (base:=base) hno htree fY (fz X G W.yD fun _ _ _ _ _ _ _ _=>rfl)
  have mY:=y9 (P:=P) (w:=w) (base:=base) T cJ iw gO (tu X G W.B5 fun _ _ _ _ _ _ _ _ _=>rfl)
  have Lp:=J7 (P:=P) (w:=w) (base:=base) O fZ gP mY (Qh X G W.Lk fun _ _ _ _ _ _ _ _ _ _ _=>rfl)
  exact Lp
 intro base x1 x2 x3
 obtain⟨f',fd',hm,ok,_,hb⟩:=(big base x1 x2 x3).ex
 rw[hfa] at hm
 cases hm
 exact⟨fd',hb,ok⟩
theorem Fv{r:OpenSpec}{k:Nat}{q:Program}{loose:List Str}{XP:(Str→Option Value)→Heap→Prop}{YP:World→Heap→Prop}{d:DefRec}{K:Params→PySem.W.Frag}{ps:List Str}{sp:PySem.W.Frag→Sp}
  (hwell:r.wellSaid=true) (himp:importsNone q=true) (hdf:d.params.defaults=[]) (hlen:r.args.length=ps.length) (hr:gR k callerA)
  (hY:∀(w:World) (h:Heap),YP w h→(K w.params).In h)
  (F:∀(w:World) (mg:Str→Option Value) (fa:Addr) (h:Heap),YP w h→(K w.params).In h→h.Ns mainGlobals mg→mg d.name=some (.ref fa)→
   ∀base:Heap,(K w.params).In base→base.Ns mainGlobals mg→base.NoSeer→∃fd:FuncData,Binds (K w.params) fd ps []∧kK r.prog w (K w.params) mg base FO k fa fd ps (sp (K w.params)))
  (hsp:∀(K:PySem.W.Frag) (H:Hp) (xs:List V) (a:Codec.denoteAll r.args),DE H→Codec.withinAll r.args a=true→Codec.app r.args r.asked a=true→lU K H xs (Codec.encAll r.args a)→
   sp K xs H (fun v H'=>Dw K H' v (r.ret.enc (Codec.app r.args r.f a))) fun _ _ _=>False):
  PySem.W.WalkOS q loose XP YP r d [] (fun f vs=>PySem.call f vs):=
 HG (K:=K) (CX:=fun _=>FO) (sp:=fun w=>sp (K w.params)) hwell himp hdf hlen hr hY F (fun w H xs a h1 h2 h3 h4=>hsp (K w.params) H xs a h1 h2 h3 h4) fun _ H s e s' z=>z
theorem OR{K:PySem.W.Frag}{H:Hp}{xs:List V}{src what k:Int}{l s:List Int}(h1:0≤src)(h2:0≤what)(h3:0≤k)(hl:l.length≤120)(hx:lU K H xs [.int src,.int what,.int k,.list (l.map PySem.W.WData.int),.list (s.map PySem.W.WData.int)]):
  o6 K xs H (fun v H'=>Dw K H' v (.list ((PyWrwirb.value src what k l s).map PySem.W.WData.int))) fun _ _ _=>False:=by
 cases hx with
 |cons x1 y1=>
  cases x1
  cases y1 with
  |cons x2 y2=>
   cases x2
   cases y2 with
   |cons x3 y3=>
    cases x3
    cases y3 with
    |cons x4 y4=>
     cases x4 with
     |lst hs ha=>
      have e:=BV l _ ha
      subst e
      cases y4 with
      |cons x5 y5=>
       cases y5
       cases x5 with
       |lst hs2 ha2=>
        have e2:=BV s _ ha2
        subst e2
        refine⟨src,what,k,_,l,_,s,rfl,hs,hs2,by omega,h1,h3,OJ h1 h3 l,ON h1 h2 h3 l,?_⟩
        rw[ak.value_eq h1 h2 h3]
        exact fun z H' s ⟨p,e,hp⟩=>by rw[e];exact .lst (gn.of hp) (GK _)
end B7
namespace PySem.W.Fast
def tw17434364826823860642:=0
def tw11992186098628675530:=0
def tw5297684177451133864:=0
def tw3023664313569256132:=0
def tw5371664503946606842:=0
def tw9625717095742888386:=0
def tw8443557931905167342:=0
def tw1223511405569593881:=0
def tw11263014150118904050:=0
def tw9370435577040850460:=0
def tw8519560581720365276:=0
def tw4470940482544141245:=0
def tw17616937349438691529:=0
def tw9472427212735579947:=0
def tw4662883076708285454:=0
def tw14356045473088530551:=0
def tw4137263171832677084:=0
def tw13958709523095592504:=0
def tw11331659064433385575:=0
def tw11737792862772774153:=0
def tw17283923824600236228:=0
def tw16808913849186615478:=0
def tw12044635863207948151:=0
def tw797674784691793184:=0
def tw16142494470137660025:=0
def tw12398326162219595272:=0
def tw6549578310062689518:=0
def tw10900678054345630043:=0
def tw14693125862476738274:=0
def tw16950020282163845175:=0
def tw12462587513292121415:=0
def tw5237195560925224418:=0
def tw4342890018079217293:=0
def tw3646971299068437576:=0
def tw9122933966977127462:=0
def tw11870743523306755241:=0
def tw12137158801811006449:=0
def tw7179825764892409715:=0
def tw8808003210686696733:=0
def tw15397429821216198127:=0
def tw957648417865716619:=0
def tw18038948711756864264:=0
def tw16828573032880146636:=0
def tw803052323929462856:=0
def tw10821423164526213166:=0
def tw18253237612645922688:=0
def tw7102151325873836649:=0
def tw2624077559573057593:=0
def tw12272375521135783320:=0
def tw16530017981260485250:=0
def tw10453955602911044500:=0
def tw16086369927787797470:=0
def tw8450043461697949229:=0
def tw11592508695431953810:=0
def tw10768410604228874934:=0
def tw13984787697977318786:=0
def tw5166609209391253058:=0
def tw12769015614002305159:=0
def tw15083108011775491222:=0
def tw3550102939833784132:=0
def tw12722670372439528718:=0
def tw13589196871733514699:=0
def tw9168454101614634765:=0
def tw3884514451723309229:=0
def tw5005070643612996895:=0
def tw6294905592828135854:=0
def tw5237754376976541018:=0
def tw3970465368227535686:=0
def tw16580137353864367849:=0
def tw12174141271595423398:=0
def tw4674714780742316758:=0
def tw18254979232272099379:=0
def tw3690237163204423440:=0
def tw15659980115772751435:=0
def tw4614121191170576160:=0
def tw9192199532467333756:=0
def tw9596658772912483738:=0
def tw9350805025453119948:=0
def tw11033779970633528989:=0
def tw9509699761737821449:=0
def tw1153462039859114477:=0
def tw907883233692634136:=0
def tw4272469423267296991:=0
def tw12718915744678461142:=0
def tw10358840702211901375:=0
def tw13890898663885637424:=0
def tw3733618841835993069:=0
def tw7569060625795614958:=0
def tw4695908264062809006:=0
def tw13974422797030092741:=0
def tw14208498800524668623:=0
def tw510213733795666285:=0
def tw11834875103195351498:=0
def tw7292164420844748400:=0
def tw8825809371053245455:=0
def tw4554202433262442593:=0
def tw6767834778650043574:=0
def tw13772926353978692139:=0
def tw11595372806436378843:=0
def tw2373248598351346750:=0
def tw16406827503914490687:=0
def tw4037291916134435969:=0
def tw18227155578638061908:=0
def tw13277933197568125186:=0
def tw16325859764032127522:=0
def tw2897271768982483518:=0
def tw6518752096163264263:=0
def tw5126267479316385372:=0
def tw11784726436833880112:=0
def tw17455852889326193686:=0
def tw3256076022379243067:=0
def tw4707002563001883959:=0
def tw16315052299961480584:=0
def tw9822082498499155744:=0
def tw14283363110498092353:=0
def tw11741681783770288794:=0
def tw5571721148349405298:=0
def tw1981201796305409256:=0
def tw409049277705545648:=0
def tw6381032640767556758:=0
def tw6024556115800767110:=0
def tw1413560037343372385:=0
def tw4458148280162117622:=0
def tw12134743215922109073:=0
def tw6005890067637822575:=0
def tw197498125179526204:=0
def tw18363588194905951877:=0
def tw16548534302633779356:=0
def tw8457325906308424535:=0
def tw12934431788174795978:=0
def tw17804790479819050018:=0
def tw14460041346045771984:=0
def tw8033528452407370813:=0
def tw15397098313738077432:=0
def tw11978943943338879865:=0
def tw1128733495492727127:=0
def tw14848413341330261529:=0
def tw1816293413080522691:=0
def tw15461207004936875388:=0
def tw16368808245699040561:=0
def tw6522712360764038482:=0
def tw4052603186888754809:=0
def tw8636966017546828724:=0
def tw3272468001527692958:=0
def tw17131237120903783066:=0
def tw3387454177997270943:=0
def tw14916911929826075632:=0
def tw8844545787875849607:=0
def tw14517740890844052439:=0
def tw8005612791821384516:=0
def tw13297869919103587833:=0
def tw14864093793742336445:=0
def tw9007159205212319599:=0
def tw14101065396310096679:=0
def tw2134449532589819948:=0
def tw11787440332342162205:=0
def tw10545278168993010900:=0
def tw5628509019080508680:=0
def tw7036081980026054195:=0
def tw17810420531202980229:=0
def tw10240214331636810433:=0
def tw4371188155584453115:=0
def tw5112165964031061222:=0
def tw17414546838134534305:=0
def tw5370895335436020726:=0
def tw13168022596414554541:=0
def tw9168143528097911657:=0
def tw4636279674821216504:=0
def tw3794705538140805691:=0
def tw15211386030962454879:=0
def tw2821859302417108267:=0
def tw12781568532807419435:=0
def tw13566703482233094989:=0
def tw6490725631919005281:=0
def tw14097873867929406983:=0
def tw4586379308087471793:=0
def tw513615271585923831:=0
def tw15842829594775845305:=0
def tw3271666353735797841:=0
def tw8551008664321502862:=0
def tw7589835401879562871:=0
def tw13710715873230834944:=0
def tw10561676056482193146:=0
def tw11101783756985688323:=0
def tw7453871445219013268:=0
def tw13574314209627054713:=0
def tw7656176622490027545:=0
def tw1196194767693757960:=0
def tw1381787591426979442:=0
def tw16279313449769787506:=0
def tw5998378462096059363:=0
def tw15773781633321461408:=0
def tw15422979090916280366:=0
def tw11816655851230948579:=0
def tw4390091793826752206:=0
def tw16065953460686061667:=0
def tw12847443881720859538:=0
def tw96135216161577283:=0
def tw13977468396052112459:=0
def tw6592563281456578278:=0
def tw14217665363255910598:=0
def tw2465653176984010922:=0
def tw16825471689195372753:=0
def tw664737545283919865:=0
def tw10119430098832195657:=0
def tw8585916437736411698:=0
def tw3713632436186398935:=0
def tw2607090660954178398:=0
def tw2227304487489166877:=0
def tw9364932373398136385:=0
def tw6654254683558132341:=0
def tw3442966204167256664:=0
def tw12336188085990696846:=0
def tw150254507431191905:=0
def tw3548983538633025352:=0
def tw13811405663802054221:=0
def tw5899359009269879711:=0
def tw15342226707525762101:=0
def tw17900408731186618720:=0
def tw13752306395314181566:=0
def tw14048870989599264369:=0
def tw10350798116587868310:=0
def tw2765640977836067321:=0
def tw6767220948623293559:=0
def tw4515677134643667761:=0
def tw11841124957083181517:=0
def tw988847274083513110:=0
def tw12544007144575573017:=0
def tw14142000125239894974:=0
def tw12116689447948566469:=0
def tw8060180681855794318:=0
def tw4826590168185432890:=0
def tw1432794831585428488:=0
def tw5718217417844923767:=0
def tw304318735320971497:=0
def tw1802280750963182364:=0
def tw15876824358776677344:=0
def tw12885710589168487605:=0
def tw10158598554311640141:=0
def tw11752647748711570004:=0
def tw18309982371182026191:=0
def tw10299539704566473393:=0
def tw10766761466314839536:=0
def tw17610830632303190018:=0
def tw17174993241169802597:=0
def tw10620062226050512391:=0
def tw924807672516469143:=0
def tw8808618307360261108:=0
def tw6600555501178167818:=0
def tw2481198941050989587:=0
def tw17901788013177935883:=0
def tw2622775493730503573:=0
def tw1898305822689951760:=0
def tw11626814014943789430:=0
def tw9066153802638572969:=0
def tw4447676534175106840:=0
def tw8400209197464752495:=0
def tw3385904342739230611:=0
def tw165014706454008074:=0
def tw13939210351865102759:=0
def tw12911703746378951874:=0
def tw2086096413608501857:=0
def tw15113716218558761354:=0
def tw13371154302047360672:=0
def tw12183695129404281151:=0
def tw46818403140205231:=0
def tw18382833864434246741:=0
def tw14045715356789208478:=0
def tw13619918955056016080:=0
def tw986485146566622902:=0
def tw4489842767448710703:=0
def tw1919592335454204027:=0
def tw2478927626658264006:=0
def tw1794504605735126150:=0
def tw13668439602680596327:=0
def tw1184730164254695343:=0
def tw17363501778438614202:=0
def tw12336869145503732083:=0
def tw11080314772451475486:=0
def tw8016742303050942597:=0
def tw14545978315581924781:=0
def tw10974060191706480850:=0
def tw7413093117883977315:=0
def tw560821319396935034:=0
def tw8996901123494573867:=0
def tw6461546086705859148:=0
def tw10949396010848601150:=0
def tw904800620649658764:=0
def tw248571584867745388:=0
def tw1974202601395444547:=0
def tw2343114672796025001:=0
def tw16407320611786376990:=0
def tw1020330040026741362:=0
def tw8008217030584012665:=0
def tw10021291550435922259:=0
def tw5381644157825869941:=0
def tw12168335274467429405:=0
def tw9936175377372225397:=0
def tw15499275948778961699:=0
def tw1393561798424716843:=0
def tw11010384257518290968:=0
def tw10160266223017862591:=0
def tw7117032403329447031:=0
def tw17390608659482727910:=0
def tw17176211409884460091:=0
def tw16211407953532385433:=0
def tw14140978651352192884:=0
def tw4189403117207051862:=0
def tw11891660012063231352:=0
def tw13391488464279751501:=0
def tw15264632221828141005:=0
def tw9122508355893458360:=0
def tw5533946969233110883:=0
def tw12263342521869690621:=0
def tw16348814800884472315:=0
def tw708656147072754571:=0
def tw12991569810044524209:=0
def tw14280674748928118150:=0
def tw7410968716223931669:=0
def tw4673433627593839404:=0
def tw7766989048750549193:=0
def tw3204788475780062061:=0
def tw14014588891064352414:=0
def tw12203610863915552810:=0
def tw9218760521326876715:=0
def tw1051244112584329699:=0
def tw770862178634358236:=0
def tw7110191734834050129:=0
def tw4662346213011124333:=0
def tw290397922469240898:=0
def tw17966345002097080764:=0
def tw14523221347845418614:=0
def tw13488576899508389044:=0
def tw10922098769283484264:=0
def tw3059901066914938345:=0
def tw760625652889332299:=0
def tw12512935713949305799:=0
def tw9983381377879158566:=0
def tw10711092044495866774:=0
def tw16577784591069447101:=0
def tw16826157022202020338:=0
def tw8451686506133523970:=0
def tw4945315168292008514:=0
def tw13902545793326158135:=0
def tw5850967729654101126:=0
def tw710437111612147405:=0
def tw15856276858909422505:=0
def tw8433627092846883450:=0
def tw84168752785309204:=0
def tw14359247705732421093:=0
def tw14298305627877503792:=0
def tw10731860337306676019:=0
def tw1380136720819135458:=0
def tw17019329503015339464:=0
def tw18314270355523556426:=0
def tw14823976659891766934:=0
def tw7167814988998103979:=0
def tw5145130245494436587:=0
def tw4870504876141436110:=0
def tw8948595963268618340:=0
def tw8473334414054150398:=0
def tw746973130153812976:=0
def tw3915158384937233605:=0
def tw3848414192247084568:=0
def tw16044087662060174800:=0
def tw9396444599050930759:=0
def tw3169578564480332305:=0
def tw3073791646542129757:=0
def tw1639799648183464248:=0
def tw16023275948351145783:=0
def tw15781691791447142196:=0
def tw6123744884740716299:=0
def tw5408065870204638695:=0
def tw8987841502975111135:=0
def tw13406721036004215963:=0
def tw3928602734944716409:=0
def tw1688344681512406219:=0
def tw8762523857670708199:=0
def tw8748885572858907942:=0
def tw5721271504652661915:=0
def tw4435249888176827867:=0
def tw3784734901444572564:=0
def tw9588932105301340040:=0
def tw6166033109679282751:=0
def tw8660401028766327747:=0
def tw5103819714026753303:=0
def tw2969730801522176411:=0
def tw16300174261598894036:=0
def tw14823301436883847434:=0
def tw14424051615299780486:=0
def tw8311125784548950260:=0
def tw6017123896828036256:=0
def tw3707091631562238427:=0
def tw14357871301473528414:=0
def tw14220836294992073179:=0
def tw12101938387808415551:=0
def tw8864690556610746511:=0
def tw7728543203236591788:=0
def tw16369565511093835974:=0
def tw11552370739010202973:=0
def tw11257531115534775394:=0
def tw11130207653114827347:=0
def tw9897933170528371:=0
def tw9842663126484462250:=0
def tw9738029366613212580:=0
def tw9692845696233597310:=0
def tw9614500815169507397:=0
def tw9613968014465538550:=0
def tw9579920615827264713:=0
def tw953278193387389928:=0
def tw9414762953366269001:=0
def tw9413312980882137920:=0
def tw9260884944345990432:=0
def tw9210873591438547689:=0
def tw910405395345387501:=0
def tw8909977612915087636:=0
def tw8833802195123022251:=0
def tw8823810354333116628:=0
def tw8823548133956752594:=0
def tw880129045423197319:=0
def tw8760425983720230377:=0
def tw8317873305497282360:=0
def tw8295365479351877567:=0
def tw825514190889099134:=0
def tw8153221789774257161:=0
def tw8128207647886278569:=0
def tw8074085299971948162:=0
def tw8048080912131828584:=0
def tw7963054805721193977:=0
def tw791308912060395499:=0
def tw7894741455310405146:=0
def tw7867046114655686311:=0
def tw7407217620922572617:=0
def tw7317426840573127630:=0
def tw7070025940078311151:=0
def tw7053941041991661888:=0
def tw7018137567050015362:=0
def tw6926854056437668159:=0
def tw6778314400202748866:=0
def tw643650767145536456:=0
def tw6419470544498437634:=0
def tw6372913821866487395:=0
def tw6020277019437229686:=0
def tw5966248386651291619:=0
def tw5959778924898667522:=0
def tw5755444489786070018:=0
def tw5738120455760847992:=0
def tw5586752751234526024:=0
def tw5582488163578049171:=0
def tw540383061667427402:=0
def tw5357939361001079566:=0
def tw5341039011478535002:=0
def tw516677988707558633:=0
def tw4855779722944598807:=0
def tw4842476758614887677:=0
def tw4757580193260777909:=0
def tw4719445872261719281:=0
def tw4689213241117211083:=0
def tw4475669172597668317:=0
def tw4368235148593772942:=0
def tw4262982828982561040:=0
def tw4213745284215787812:=0
def tw3736035081318736909:=0
def tw3554648191250495849:=0
def tw3377080333597550971:=0
def tw3315113054376049585:=0
def tw3241897924143749008:=0
def tw2995299126857189592:=0
def tw2967679073895597115:=0
def tw2840973469374646040:=0
def tw275673984552720809:=0
def tw2742121662327533956:=0
def tw2696036239934186666:=0
def tw2576041835282917277:=0
def tw2487549845231580948:=0
def tw239740157702281790:=0
def tw2394261526342696007:=0
def tw2320535348511955215:=0
def tw2034743979641625438:=0
def tw2020839960140272792:=0
def tw1845604704147998424:=0
def tw18445751955680679615:=0
def tw18411308060311962507:=0
def tw18408508694875443291:=0
def tw18380678720970363761:=0
def tw18163857356148465770:=0
def tw17689448747379761457:=0
def tw17627298840130157820:=0
def tw17502151187204421019:=0
def tw17384613818764741239:=0
def tw17325365725009882449:=0
def tw17192088587618878456:=0
def tw17109198060703855413:=0
def tw17034748596256317399:=0
def tw16910614271004125466:=0
def tw16869164931811560260:=0
def tw16629302892117316406:=0
def tw15966305969129887847:=0
def tw15863817756706779710:=0
def tw15698183471684424037:=0
def tw15653078227776547268:=0
def tw15538288373852132055:=0
def tw15506645710342301999:=0
def tw15434112053187683083:=0
def tw14959223598875875207:=0
def tw1488104501278185019:=0
def tw14826949296873217302:=0
def tw14665212560745305163:=0
def tw14430975631254573678:=0
def tw14374848026656384515:=0
def tw1424551455259458643:=0
def tw14233859818754664024:=0
def tw14204428343072821784:=0
def tw14183028876868777316:=0
def tw14129220620085108187:=0
def tw14062190382375091648:=0
def tw1403856302839728381:=0
def tw14015744766088625756:=0
def tw13972814148678367360:=0
def tw13945625999965066069:=0
def tw13880812433996182133:=0
def tw13674889074803229347:=0
def tw13651554668930527502:=0
def tw13636007512512677406:=0
def tw13608826827381154777:=0
def tw13241920199186493077:=0
def tw13177023001931848749:=0
def tw13070243687586779636:=0
def tw13006909331068385939:=0
def tw12816491454842960330:=0
def tw12497638899173710476:=0
def tw12458424191184140387:=0
def tw12329266921068586514:=0
def tw12304612439758705822:=0
def tw12284084615876730508:=0
def tw12232452084766135936:=0
def tw12196088141488318746:=0
def tw12013813113656727331:=0
def tw11944492661691162487:=0
def tw11840305803177984627:=0
def tw11745036496383836663:=0
def tw11660627183860329236:=0
def tw1156253298182376635:=0
def tw11522678164365678097:=0
def tw11488661177551499982:=0
def tw11445937784509178255:=0
def tw1140576797781664715:=0
def tw11380099604931496561:=0
def tw11310090090221059325:=0
def tw11289144714161317502:=0
def tw11209538591990972450:=0
def tw10992225280606330504:=0
def tw10915631783249644838:=0
def tw10844352530560305783:=0
def tw1083512597902335433:=0
def tw10602803820401535456:=0
def tw10595370247807404110:=0
def tw10513243326365054904:=0
def tw10336302653551862947:=0
def tw10260181768617356658:=0
def tw10195676835618856847:=0
abbrev tw2042019313460164021:=PySem.Challenge.pw_wirequotients_s02_value
theorem te2042019313460164021:PySem.Challenge.pw_wirequotients_s02_value=tw2042019313460164021:=rfl
end PySem.W.Fast
open PySem PySem.W PyProof.Rows
set_option maxRecDepth 100000 in
set_option maxHeartbeats 0 in
theorem PySem.Challenge.cw_wirequotients_s02_value_holds : PySem.Challenge.rw_wirequotients_s02_value.Holds := by
 w_on;k_headS;(case hw=>exact⟨[.int 0,.int 0,.int 0,.list [],.list []],by decide +kernel,by decide +kernel⟩)
 k_fillS
 refine B7.Fv (r:=PySem.Challenge.rw_wirequotients_s02_value) (k:=44) (ps:=["source","what","k","net","s"]) (sp:=B7.o6) (by decide +kernel) (by decide +kernel) rfl rfl ⟨rfl,by decide,by decide⟩ (fun w h Y=>PySem.W.kIn_of Y) ?F ?S
 case F=>
  intro w mg fa h Y KX G hmg
  refine B7.all_mk rfl KX G hmg ?W
  constructor
  iterate 11 (show PySem.W.nsIn _ mainGlobals _=some none;k_is)
  iterate 32 (refine' B7.bL.mk ?a;(case a=>k_is))
  iterate 75 (refine' B7.aS.mk ?a ?l ?c ?k;(case a=>k_is);(case l=>k_is);(case c=>k_is);(case k=>k_is))
  (refine' B7.dZ.mk ?a ?i ?f ?l ?c ?k ?pg ?hd ?po ?sa ?mk ?kc ⟨?n0,?n1,?n2,?n3,?n4,?n5,?n6,trivial⟩;(case a=>k_is);(case i=>k_is);(case f=>k_is);(case l=>k_is);(case c=>k_is);(case k=>k_is);(case pg=>k_is);(case hd=>k_is);(case po=>k_is);(case sa=>k_is);(case mk=>k_is);(case kc=>k_is);(case n0=>k_is);(case n1=>k_is);(case n2=>k_is);(case n3=>k_is);(case n4=>k_is);(case n5=>k_is);(case n6=>k_is))
  (refine' B7.dZ.mk ?a ?i ?f ?l ?c ?k ?pg ?hd ?po ?sa ?mk ?kc ⟨?n0,?n1,trivial⟩;(case a=>k_is);(case i=>k_is);(case f=>k_is);(case l=>k_is);(case c=>k_is);(case k=>k_is);(case pg=>k_is);(case hd=>k_is);(case po=>k_is);(case sa=>k_is);(case mk=>k_is);(case kc=>k_is);(case n0=>k_is);(case n1=>k_is))
  (refine' B7.dZ.mk ?a ?i ?f ?l ?c ?k ?pg ?hd ?po ?sa ?mk ?kc ⟨?n0,?n1,?n2,trivial⟩;(case a=>k_is);(case i=>k_is);(case f=>k_is);(case l=>k_is);(case c=>k_is);(case k=>k_is);(case pg=>k_is);(case hd=>k_is);(case po=>k_is);(case sa=>k_is);(case mk=>k_is);(case kc=>k_is);(case n0=>k_is);(case n1=>k_is);(case n2=>k_is))
  (refine' B7.dZ.mk ?a ?i ?f ?l ?c ?k ?pg ?hd ?po ?sa ?mk ?kc ⟨?n0,?n1,?n2,?n3,?n4,?n5,trivial⟩;(case a=>k_is);(case i=>k_is);(case f=>k_is);(case l=>k_is);(case c=>k_is);(case k=>k_is);(case pg=>k_is);(case hd=>k_is);(case po=>k_is);(case sa=>k_is);(case mk=>k_is);(case kc=>k_is);(case n0=>k_is);(case n1=>k_is);(case n2=>k_is);(case n3=>k_is);(case n4=>k_is);(case n5=>k_is))
  (refine' B7.dZ.mk ?a ?i ?f ?l ?c ?k ?pg ?hd ?po ?sa ?mk ?kc ⟨?n0,?n1,trivial⟩;(case a=>k_is);(case i=>k_is);(case f=>k_is);(case l=>k_is);(case c=>k_is);(case k=>k_is);(case pg=>k_is);(case hd=>k_is);(case po=>k_is);(case sa=>k_is);(case mk=>k_is);(case kc=>k_is);(case n0=>k_is);(case n1=>k_is))
  (refine' B7.dZ.mk ?a ?i ?f ?l ?c ?k ?pg ?hd ?po ?sa ?mk ?kc ⟨?n0,?n1,trivial⟩;(case a=>k_is);(case i=>k_is);(case f=>k_is);(case l=>k_is);(case c=>k_is);(case k=>k_is);(case pg=>k_is);(case hd=>k_is);(case po=>k_is);(case sa=>k_is);(case mk=>k_is);(case kc=>k_is);(case n0=>k_is);(case n1=>k_is))
  (refine' B7.BX.mk ?a ?l ?t0 ?t1 ?t2 ?t3 ?t4 ?t5 ?t6 ?t7 ?t8 ?t9 ?t10 ?t11 ?t12 ?t13;(case a=>k_is);(case l=>k_is);(case t0=>k_is);(case t1=>k_is);(case t2=>k_is);(case t3=>k_is);(case t4=>k_is);(case t5=>k_is);(case t6=>k_is);(case t7=>k_is);(case t8=>k_is);(case t9=>k_is);(case t10=>k_is);(case t11=>k_is);(case t12=>k_is);(case t13=>k_is))
 case S=>
  intro K H xs a hO hwi hask hx
  have q:(Codec.inInt 0 4294967295 a.1&&(Codec.inInt 0 4294967295 a.2.1&&(Codec.inInt 0 4294967295 a.2.2.1&&((Codec.inLen 0 120 a.2.2.2.1&&a.2.2.2.1.all (Codec.inInt (-4294967295) 4294967295))&&((Codec.inLen 0 6 a.2.2.2.2.1&&a.2.2.2.2.1.all (Codec.inInt (-4294967295) 4294967295))&&true)))))=true:=hwi
  rw[Bool.and_eq_true,Bool.and_eq_true,Bool.and_eq_true,Bool.and_eq_true,Bool.and_eq_true] at q
  obtain⟨q1,q2,q3,⟨q4,_⟩,_⟩:=q
  exact B7.OR (Codec.inInt_iff.mp q1).1 (Codec.inInt_iff.mp q2).1 (Codec.inInt_iff.mp q3).1 (Codec.inNat_iff.mp q4).2 hx
