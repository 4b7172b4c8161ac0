import PyProof.Rows.All
import Wide.All
import OpenK.AllK
import Wide.FinOn
import PyProof.EqAt
import PyProof.EqKinds
import PyProof.TupleCall
import KE.BitLaws
import KE.IntBitsLaws
import WhPoly
import WhBSpec
import PyWrwirb
import PySem.Challenge.RW0_wirequotients_s04_port
import PyProof.MaxThree
import Open.SpecLaws
import KE.OsHead
import KE.OsGo
import KE.SpHead
import KE.OsShapes
import PySem.Challenge.RW_wirequotients_s04_port
set_option Elab.async false
set_option linter.all false
set_option genSizeOf false
set_option bootstrap.genMatcherCode false
set_option maxRecDepth 100000
set_option maxHeartbeats 2000000
noncomputable section
open List renaming getElem?_eq_getElem->aa,mem_cons_of_mem->ak,length_cons->aq,mem_singleton->au,mem_cons_self->ax,length_append->ay,getElem?_map->aA,mem_of_getElem?->aB,length_take->aC,length_pos_iff->aD,getElem?_eq_none->aE,take_length->aG,mem_cons->aH,size_toArray->aI,map_cons->aJ,mem_append->aK,mem_map->aN,map_append->aO,length_replicate->aP,map_map->aQ,filter_cons_of_pos->aR,mem_range->aT,filter_cons_of_neg->aU,getElem_of_mem->aW,map_congr_left->aY,take_add_one->aZ,flatMap_cons->bb,length_eq_zero_iff->bc,getElem?_eq_some_iff->bf,take_of_length_le->bg,mem_append_right->bo,length_reverse->bu,getElem?_append_right->bw,foldl_cons->bz,length_drop->bC,all_eq_true->bD,getElem?_range->bE,length_range->bF,length_nil->bI,any_eq_true->bJ,filter_append->bL,getElem_mem->bM,replicate_succ->bR,flatMap_append->bS,mem_filter->bT,append_nil->bU,nodup_cons->bV,length_set->bW,range_succ->bY,getElem?_append_left->bZ,sum_cons->b6,getElem?_replicate->b8,any_cons->cg,lookup_cons->cq,getLast?_eq_getElem?->cx,getElem?_set->cz,ext_getElem->cC,flatMap_map->cE,mem_flatMap->cF,take_append_of_le_length->cG,length_filter_le->cJ,append_assoc->cK,foldl_append->cN,mem_append_left->cO,length_eraseIdx->cP,map_id'->cS,isEmpty_iff->cT,drop_eq_getElem_cons->cU,filterMap_cons->cX
open Nat renaming le_refl->ai,le_trans->aw,zero_le->aL,lt_of_lt_of_le->aS,ne_of_lt->bt,pow_le_pow_right->bx,lt_irrefl->bO,mul_le_mul->bQ,le_of_lt->b5,mul_le_mul_right->b7,mul_le_mul_left->b9,sub_self->cf,le_add_right->cA,le_mul_of_pos_left->cI,succ_mul->cQ,le_of_not_lt->cR,gcd_pos_of_pos_right->c6
open Bool renaming and_eq_true->aF,false_ne_true->aM,eq_iff_iff->a6
open PySem.F renaming plainAttrs_list->aV,slot_list_append->a4,type_list_append->a5
open Option.some renaming inj->aX
open PySem renaming mem_of_lookup->a7
open Int renaming toNat_natCast->a8,natAbs_natCast->bH,natCast_dvd_natCast->bN,natAbs_mul->bP,dvd_trans->cj,natCast_nonneg->cw,ofNat_dvd_left->cH,mul_pos_of_neg_of_neg->cV,mul_fdiv_cancel->cZ
open PySem.W renaming mg_of->bh
open Rat renaming intCast_natCast->bq,mul_eq_zero->bX
open PyProof.Rows renaming callWith_type1->br
open Ne renaming symm->bK
open Classical renaming byContradiction->cy,not_not->cM
open Option renaming getD_some->cD
open Array renaming length_toList->cY
abbrev af:=@if_neg
abbrev ah:=@if_pos
abbrev aj:=@decide_eq_true
abbrev ao:=@decide_eq_false
abbrev az:=@of_decide_eq_true
abbrev a9:=@decide_eq_true_iff
abbrev cW:=@beq_eq_false_iff_ne
theorem gDe{A:Type _}{l:List A}{i:Nat}{d:A}:l.getD i d=(l[i]?).getD d:=List.getD_eq_getElem?_getD
theorem lMp{A:Type _}{B:Type _}{l:List A}(f:A->B):(l.map f).length=l.length:=List.length_map f
namespace L2
open PySem PySem.Spec PyProof.Rows
noncomputable abbrev Key:=Sum Int Str
noncomputable def Q7:Key->Value->Bool
 | .inl k,v=>Value.isInt k v
 | .inr x,v=>Value.isStrOf x v
noncomputable def UN (w:World):Key->Int
 | .inl k=>hashInt k
 | .inr x=>hashStr w x
theorem hU:∀{k:Key} {v:Value},Q7 k v=true->(∃i t,k=Sum.inl i/\v=Value.int i t)\/(∃x t,k=Sum.inr x/\v=Value.str x t)
 | .inl i,v,h=>by
  obtain⟨t,e⟩:=Value.isInt_shape (k:=i) (v:=v) h;exact .inl ⟨i,t,rfl,e⟩
 | .inr x,v,h=>by
  obtain⟨t,e⟩:=Value.isStrOf_shape (x:=x) (v:=v) h;exact .inr ⟨x,t,rfl,e⟩
theorem RB(a b:Int):decide ((Sum.inl a:Key)=Sum.inl b)=(a==b):=by
 by_cases e:a=b
 ·subst e;simp
 ·have h:¬(Sum.inl a:Key)=Sum.inl b:=fun q=>e (Sum.inl.inj q)
  rw[ao h];exact(cW.mpr e).symm
theorem RC(a b:Str):decide ((Sum.inr a:Key)=Sum.inr b)=decide (a=b):=by
 by_cases e:a=b
 ·subst e;simp
 ·have h:¬(Sum.inr a:Key)=Sum.inr b:=fun q=>e (Sum.inr.inj q)
  rw[ao h,ao e]
theorem RD(a:Int)(b:Str):decide ((Sum.inl a:Key)=Sum.inr b)=false:=ao (fun q=>nomatch q)
theorem RE(a:Str)(b:Int):decide ((Sum.inr a:Key)=Sum.inl b)=false:=ao (fun q=>nomatch q)
noncomputable def Fl (prog:Program) (w:World):PySem.KeyKind prog w Key where
 is:=Q7
 hash:=UN w
 inj:=fun v a b ha hb=>by
  rcases hU ha with⟨i,t,rfl,rfl⟩ |⟨x,t,rfl,rfl⟩
  ·rcases hU hb with⟨j,u,rfl,e⟩ |⟨y,u,rfl,e⟩
   ·injection e with e1 _;rw[e1]
   ·exact nomatch e
  ·rcases hU hb with⟨j,u,rfl,e⟩ |⟨y,u,rfl,e⟩
   ·exact nomatch e
   ·injection e with e1 _;rw[e1]
 byValue:=fun k v h=>by
  rcases hU h with⟨i,t,rfl,rfl⟩ |⟨x,t,rfl,rfl⟩ <;>rfl
 pyHash:=fun hv h=>by
  rcases hU hv with⟨i,t,rfl,rfl⟩ |⟨x,t,rfl,rfl⟩
  ·exact wpAny_pyHash_int h
  ·exact wpAny_pyHash_str h
 eqBool:=fun hu hv h=>by
  rcases hU hu with⟨i,t,rfl,rfl⟩ |⟨x,t,rfl,rfl⟩
  ·rcases hU hv with⟨j,u,rfl,rfl⟩ |⟨y,u,rfl,rfl⟩
   ·rw[RB] at h;exact wpAny_eqBool_int h
   ·rw[RD] at h;exact SeqAt.EqAt.int_str i t y u _ _ _ _ h
  ·rcases hU hv with⟨j,u,rfl,rfl⟩ |⟨y,u,rfl,rfl⟩
   ·rw[RE] at h;exact SeqAt.EqAt.str_int x t j u _ _ _ _ h
   ·rw[RC] at h;exact wpAny_eqBool_str h
 «strs»:=fun k x t v h=>by
  rcases hU h with⟨i,u,rfl,e⟩ |⟨y,u,rfl,e⟩
  ·exact nomatch e
  ·injection e with e1 _
   subst e1;cases v <;>rfl
inductive V where
 |jP |bl (b:Bool) |int (i:Int) |str (x:Str) |Fm (b:Array UInt8) |Tb (b:UInt64) |ref (a:Addr) |ty (n:String)
 deriving DecidableEq
noncomputable def RelV:V->Value->Prop
 | .jP,u=>u=Value.none
 | .bl b,u=>u=Value.bool b
 | .int i,u=>∃t,u=Value.int i t
 | .str x,u=>∃t,u=Value.str x t
 | .Fm b,u=>∃t,u=Value.bytes b t
 | .Tb b,u=>∃t,u=Value.float b t
 | .ref a,u=>u=Value.ref a
 | .ty n,u=>u=Value.type n
noncomputable abbrev Vals:List V->List Value->Prop:=Paired RelV
theorem Vals.length{xs:List V}{us:List Value}(r:Vals xs us):xs.length=us.length:=Paired.length r
theorem Vals.get:∀{xs:List V} {us:List Value} {i:Nat} {x:V},Vals xs us->xs[i]? =some x->∃u,us[i]? =some u/\RelV x u
 |_,_,_,_,.nil,e=>by simp at e
 |_,_,0,_,.cons r _,e=>by simp at e;subst e;exact⟨_,rfl,r⟩
 |_,_,i+1,x,.cons _ t,e=>by
  obtain⟨u,h1,h2⟩:=Vals.get (i:=i) (x:=x) t (by simpa using e);exact⟨u,by simpa using h1,h2⟩
theorem Vals.set{x:V}{u:Value}(r:RelV x u):∀{xs:List V} {us:List Value} (i:Nat),Vals xs us->Vals (xs.set i x) (us.set i u)
 |_,_,_,.nil=> .nil
 |_,_,0,.cons _ t=> .cons r t
 |_,_,i+1,.cons q t=> .cons q (Vals.set r i t)
theorem Vals.append:∀{xs ys:List V} {us ws:List Value},Vals xs us->Vals ys ws->Vals (xs ++ ys) (us ++ ws)
 |_,_,_,_,.nil,s=>s
 |_,_,_,_,.cons r t,s=> .cons r (Vals.append t s)
theorem Vals.take:∀{xs:List V} {us:List Value} (n:Nat),Vals xs us->Vals (xs.take n) (us.take n)
 |_,_,0,_=> .nil
 |_,_,_+ 1,.nil=> .nil
 |_,_,n+1,.cons r t=> .cons r (Vals.take n t)
theorem Vals.drop:∀{xs:List V} {us:List Value} (n:Nat),Vals xs us->Vals (xs.drop n) (us.drop n)
 |_,_,0,r=>r
 |_,_,_+ 1,.nil=> .nil
 |_,_,n+1,.cons _ t=>Vals.drop n t
noncomputable def IY:Option V->Option Value->Prop
 |some v,some u=>RelV v u
 |none,none=>True
 |_,_=>False
noncomputable def KV {κ:Type}:List (κ×V)->List (κ×Value)->Prop:=Paired fun(p:κ×V) (q:κ×Value)=>p.1=q.1/\RelV p.2 q.2
noncomputable def kV:Key->V
 | .inl i=> .int i
 | .inr x=> .str x
inductive HO where
  |lst (xs:List V)
  |tup (xs:List V)
  |dK (kvs:List (Key×V)) |dT (kvs:List (List Key×V))
  |set (S:Int->Bool) (n:Nat)
  |ins (C dx:Addr) (fs:List (Str×V))
  |own (x:Addr)
  |xd (fs:List (Str×V))
  |met (f x:Addr)
  |UO (lo hi:Int)
  |Fn (o:Obj) (u:HO)
  |RF (ps:Array Value)
  |ext (φ:Heap->Prop)
noncomputable abbrev Hp:=Addr->Option HO
noncomputable def upd (H:Hp) (a:Addr) (o:HO):Hp:=fun b=>if b=a then some o else H b
theorem dh{H:Hp}{a:Addr}{o:HO}:upd H a o a=some o:=by unfold upd;rw[ah rfl]
theorem d6{H:Hp}{a b:Addr}{o:HO}(h:b≠a):upd H a o b=H b:=by unfold upd;rw[af h]
theorem my{H:Hp}{a:Addr}{o u:HO}:upd (upd H a o) a u=upd H a u:=by
 funext b;unfold upd;split <;>rfl
theorem G0{H:Hp}{a b:Addr}{o u:HO}(h:H a=some o)(h':H b=some u)(d:o≠u):a≠b:=by
 intro e;subst e;rw[h] at h';exact d (aX h')
theorem fF{H:Hp}{a b:Addr}{o:HO}(h:H a=some o)(h':H b=none):a≠b:=by
 intro e;subst e;rw[h] at h';cases h'
section
variable (P:Program)(w:World)
noncomputable def j9 (H:Hp) (h:Heap) (a:Addr):HO->Prop
 | .lst xs=>xs.length<=sizeLine/\∃(its:List Value) (n:Nat),Vals xs its/\h.get? a=some {cls:= .type "list",data:= .seq its.toArray n}
 | .tup xs=>xs.length<=sizeLine/\∃its:List Value,Vals xs its/\IsTup h a its.toArray
 | .dK kvs=>kvs.length<=sizeLine/\(a==sysModules)=false/\∃vs,KV kvs vs/\h.DictOf (Fl P w) a vs
 | .dT kvs=>kvs.length<=sizeLine/\(a==sysModules)=false/\∃xs:List (List Key×Addr×Value),
   Paired (fun(p:List Key×V) (q:List Key×Addr×Value)=>p.1=q.1/\H q.2.1=some (.tup (p.1.map kV))/\RelV p.2 q.2.2) kvs xs/\
   ∃o es ep,h.get? a=some o/\o.ExactDict/\o.data= .dict es ep/\es.toList=xs.map (entryOfKey (tupleKind (Fl P w)))/\(xs.map (·.1)).Nodup
 | .set S n=>h.SetOf (intKind P w) a S n
 | .ins C dx fs=>H dx=some (.own a)/\fs.length<=1000/\dx≠a/\h.get? a=some (PySem.W.instObj C dx)/\
   ∃mA,h.Ns1 dx mA/\(∀f,IY (fs.lookup f) (mA f))/\PySem.Within mA (fs.map (·.1))
 | .own _=>∃o,h.get? a=some o
 | .xd fs=>∃mA,h.Ns1 a mA/\∀f,IY (fs.lookup f) (mA f)
 | .UO lo hi=>∃t u v,h.get? a=some {cls:= .type "range",data:= .fields #[.int lo t,.int hi u,.int 1 v]}
 | .Fn o u=>h.get? a=some o/\j9 H h a u
 | .RF ps=>h.get? a=some {cls:= .none,data:= .fields ps}
 | .met f x=>h.get? a=some (PySem.W.methodObj (.ref f) (.ref x))
 | .ext φ=>φ h/\(∃o,h.get? a=some o)/\∀h1 h2:Heap,φ h1->(∀o,h1.get? a=some o->h2.get? a=some o)->φ h2
noncomputable def wQ (H:Hp) (h:Heap):Prop:=∀a o,H a=some o->j9 P w H h a o
end
section
variable {P:Program}{w:World}{H H':Hp}{h h':Heap}{a:Addr}{o:HO}
theorem j9.lt(x:j9 P w H h a o):a<h.objs.size:=by
 cases o with
 |lst xs=>obtain⟨_,_,_,_,e⟩:=x;exact Heap.lt_size e
 |tup xs=>obtain⟨_,_,_,p⟩:=x;exact p.lt
 |dK kvs=>obtain⟨_,_,_,_,o,_,_,e,_⟩:=x;exact Heap.lt_size e
 |dT kvs=>obtain⟨_,_,_,_,o,_,_,e,_⟩:=x;exact Heap.lt_size e
 |set S n=>obtain⟨o,_,_,_,e,_⟩:=x;exact Heap.lt_size e
 |ins C dx fs=>obtain⟨_,_,_,e,_⟩:=x;exact Heap.lt_size e
 |own y=>obtain⟨_,e⟩:=x;exact Heap.lt_size e
 |xd fs=>obtain⟨_,⟨_,_,_,e,_⟩,_⟩:=x;exact Heap.lt_size e
 |UO lo hi=>obtain⟨_,_,_,e⟩:=x;exact Heap.lt_size e
 |Fn ob u=>obtain⟨e,_⟩:=x;exact Heap.lt_size e
 |RF ps=>exact Heap.lt_size (show h.get? a=some _ from x)
 |met f y=>exact Heap.lt_size (show h.get? a=some _ from x)
 |ext φ=>obtain⟨_,⟨_,e⟩,_⟩:=x;exact Heap.lt_size e
theorem Paired.RG{α β:Type}{F G:α->β->Prop}:∀{l₁:List α} {l₂:List β},Paired F l₁ l₂->(∀a b,F a b->G a b)->Paired G l₁ l₂
 |_,_,.nil,_=> .nil
 |_,_,.cons r t,f=> .cons (f _ _ r) (Paired.RG t f)
theorem j9.IZ(x:j9 P w H h a o)(k:∀b u,(b=a\/H b=some (.own a))->h.get? b=some u->h'.get? b=some u)
  (ho:∀b,H b=some (.own a)->H' b=some (.own a)) (ht:∀b xs,H b=some (.tup xs)->H' b=some (.tup xs)):j9 P w H' h' a o:=by
 induction o with
 |lst xs=>obtain⟨z,its,n,r,e⟩:=x;exact⟨z,its,n,r,k _ _ (.inl rfl) e⟩
 |tup xs=>obtain⟨z,its,r,ob,e,c⟩:=x;exact⟨z,its,r,ob,k _ _ (.inl rfl) e,c⟩
 |dK kvs=>obtain⟨z,y,vs,r,ob,es,ep,e,c⟩:=x;exact⟨z,y,vs,r,ob,es,ep,k _ _ (.inl rfl) e,c⟩
 |dT kvs=>
  obtain⟨z,y,xs,r,ob,es,ep,e,c⟩:=x;exact⟨z,y,xs,Paired.RG r fun p q z=>⟨z.1,ht _ _ z.2.1,z.2.2⟩,ob,es,ep,k _ _ (.inl rfl) e,c⟩
 |set S n=>obtain⟨ob,es,ep,t,e,c⟩:=x;exact⟨ob,es,ep,t,k _ _ (.inl rfl) e,c⟩
 |ins C dx fs=>
  obtain⟨d,z,ne,e,mA,⟨od,es,ep,e2,c⟩,r⟩:=x;exact⟨ho _ d,z,ne,k _ _ (.inl rfl) e,mA,⟨od,es,ep,k _ _ (.inr d) e2,c⟩,r⟩
 |own y=>obtain⟨ob,e⟩:=x;exact⟨ob,k _ _ (.inl rfl) e⟩
 |xd fs=>obtain⟨mA,⟨od,es,ep,e,c⟩,r⟩:=x;exact⟨mA,⟨od,es,ep,k _ _ (.inl rfl) e,c⟩,r⟩
 |UO lo hi=>obtain⟨t,u,v,e⟩:=x;exact⟨t,u,v,k _ _ (.inl rfl) e⟩
 |Fn ob u ih=>obtain⟨e,q⟩:=x;exact⟨k _ _ (.inl rfl) e,ih q⟩
 |RF ps=>
  have e:h.get? a=some {cls:= .none,data:= .fields ps}:=x;show h'.get? a=some {cls:= .none,data:= .fields ps};exact k a _ (.inl rfl) e
 |met f y=>
  have e:h.get? a=some (PySem.W.methodObj (.ref f) (.ref y)):=x;show h'.get? a=some (PySem.W.methodObj (.ref f) (.ref y));exact k a _ (.inl rfl) e
 |ext φ=>obtain⟨p,⟨o,e⟩,st⟩:=x;exact⟨st _ _ p fun o q=>k _ _ (.inl rfl) q,⟨o,k _ _ (.inl rfl) e⟩,st⟩
theorem wQ.lt(x:wQ P w H h)(e:H a=some o):a<h.objs.size:=(x a o e).lt
theorem wQ.fresh(x:wQ P w H h)(e:h.objs.size<=a):H a=none:=by
 cases q:H a with
 |none=>rfl
 |some u=>exact absurd (aS (x.lt q) e) (bO _)
theorem wQ.kept(x:wQ P w H h)(k:∀b u,h.get? b=some u->h'.get? b=some u):wQ P w H h':=fun a o e=>
 (x a o e).IZ (fun b u _ q=>k b u q) (fun _ q=>q) fun _ _ q=>q
theorem wQ.laid(x:wQ P w H h)(k:∀b u,h.get? b=some u->h'.get? b=some u)(hp:h.objs.size<=a)(new:j9 P w (upd H a o) h' a o):wQ P w (upd H a o) h':=fun b u e=>by
 have hn:=x.fresh hp;by_cases hb:b=a
 ·subst hb;rw[dh] at e;cases e;exact new
 ·rw[d6 hb] at e;exact(x b u e).IZ (fun c v _ q=>k c v q) (fun c q=>by rw[d6 (fF q hn)];exact q) fun c xs q=>by rw[d6 (fF q hn)];exact q
end
noncomputable def Rd (H:Hp) (a:Addr) (u:HO):Prop:=H a=some u\/∃o,H a=some (.Fn o u)
theorem Rd.ok{P:Program}{w:World}{H:Hp}{h:Heap}{a:Addr}{u:HO}(r:Rd H a u)(x:wQ P w H h):j9 P w H h a u:=by
 rcases r with r |⟨o,r⟩
 ·exact x a u r
 ·obtain⟨_,q⟩:=x a _ r;exact q
noncomputable def UG:Option HO->Prop
 |some (.lst _)=>True
 |some (.dK _)=>True
 |some (.dT _)=>True
 |some (.set _ _)=>True
 |some (.ins _ _ _)=>True
 |some (.ext _)=>True
 |_=>False
section
variable {P:Program}{w:World}{H:Hp}{h h':Heap}{x e:Addr}{o':HO}
theorem wQ.write(ok:wQ P w H h)(mu:UG (H x))(he:e=x\/H e=some (.own x))(k:∀b u,b≠e->h.get? b=some u->h'.get? b=some u)(heo:∃u,h'.get? e=some u)
  (new:j9 P w (upd H x o') h' x o'):wQ P w (upd H x o') h':=fun b u q=>by
 have nown:∀c y,H c=some (.own y)->c≠x:=fun c y r z=>by subst z;rw[r] at mu;exact mu
 have ntup:∀c xs,H c=some (.tup xs)->c≠x:=fun c xs r z=>by subst z;rw[r] at mu;exact mu
 by_cases hb:b=x
 ·subst hb;rw[dh] at q;cases q;exact new
 ·rw[d6 hb] at q;by_cases hbe:b=e
  ·have q':H b=some (.own x):=by
    rcases he with z |z
    ·exact absurd (hbe.trans z) hb
    ·rw[hbe];exact z
   rw[q] at q';cases q'
   obtain⟨v,hv⟩:=heo;exact⟨v,by rw[hbe];exact hv⟩
  ·refine(ok b u q).IZ (fun c v hc r=>k c v ?_ r) (fun c r=>by rw[d6 (nown c b r)];exact r) fun c xs r=>by rw[d6 (ntup c xs r)];exact r
   rcases hc with rfl |hc
   ·exact hbe
   ·rintro rfl;rcases he with z |z
    ·exact nown c b hc z
    ·rw[hc] at z;cases z;exact hb rfl
end
structure Un(fs ex:List Addr)(H H':Hp)(h h':Heap):Prop where
 keep:∀b o,h.get? b=some o->H b=none->b∉fs->b∉ex->h'.get? b=some o
 slot:∀b o,h.get? b=some o->H b=none->b∈fs->b∉ex->∃sl,h'.get? b=some {o with slots:=sl}
 free:∀b o,h.get? b=some o->H b=none->b∉ex->H' b=none
 there:∀b o,h.get? b=some o->b∉ex->∃o',h'.get? b=some o'
 G1:∀b xs,H b=some (.tup xs)->H' b=some (.tup xs)
 Fo:∀b o u,H b=some (.Fn o u)->H' b=some (.Fn o u)
 G3:∀b ps,H b=some (.RF ps)->∃more,H' b=some (.RF (ps ++ more))
section
variable {fs fs' ex ex':List Addr}{H H1 H2:Hp}{h h1 h2 h':Heap}{a x e:Addr}{o:HO}
theorem Un.any(u:Un fs ex H H1 h h1){b:Addr}{ob:Obj}(q:h.get? b=some ob)(n:H b=none)(hx:b∉ex):∃sl,h1.get? b=some {ob with slots:=sl}:=by
 by_cases hb:b∈fs
 ·exact u.slot b ob q n hb hx
 ·exact⟨ob.slots,u.keep b ob q n hb hx⟩
theorem Un.kept(k:∀b u,h.get? b=some u->h'.get? b=some u):Un fs ex H H h h':=
 ⟨fun b ob q _ _ _=>k b ob q,fun b ob q _ _ _=>⟨ob.slots,k b ob q⟩,fun _ _ _ n _=>n,fun b ob q _=>⟨ob,k b ob q⟩,fun _ _ q=>q,fun _ _ _ q=>q,fun _ ps q=>⟨#[],by rw[q];simp⟩⟩
theorem Un.refl:Un fs ex H H h h:=Un.kept fun _ _ q=>q
theorem Un.laid(k:∀b u,h.get? b=some u->h'.get? b=some u)(hp:h.objs.size<=a)(hn:H a=none):Un fs ex H (upd H a o) h h' where
 keep:=fun b u q _ _ _=>k b u q
 slot:=fun b u q _ _ _=>⟨u.slots,k b u q⟩
 free:=fun b u q n _=>by rw[d6 (bt (aS (Heap.lt_size q) hp))];exact n
 there:=fun b u q _=>⟨u,k b u q⟩
 G1:=fun b xs q=>by rw[d6 (fF q hn)];exact q
 Fo:=fun b u xs q=>by rw[d6 (fF q hn)];exact q
 G3:=fun b ps q=>⟨#[],by rw[d6 (fF q hn),q];simp⟩
theorem Un.write(mu:UG (H x))(he:e=x\/H e=some (.own x))(k:∀b u,b≠e->h.get? b=some u->h'.get? b=some u)(heo:∃u,h'.get? e=some u):Un fs ex H (upd H x o) h h':=by
 have hx:∀b,H b=none->b≠x:=fun b n z=>by subst z;rw[n] at mu;exact mu
 have hb:∀b,H b=none->b≠e:=fun b n z=>by
  subst z;rcases he with r |r
  ·exact hx b n r
  ·rw[n] at r;cases r
 have hm:∀b u,H b=some u->¬UG (some u)->b≠x:=fun b u q nm z=>by subst z;rw[q] at mu;exact nm mu
 refine⟨fun b u q n _ _=>k b u (hb b n) q,fun b u q n _ _=>⟨u.slots,k b u (hb b n) q⟩,fun b u q n _=>by rw[d6 (hx b n)];exact n,fun b u q _=> ?_,
  fun b xs q=>by rw[d6 (hm b _ q fun z=>z)];exact q,fun b u xs q=>by rw[d6 (hm b _ q fun z=>z)];exact q,fun b ps q=>⟨#[],by rw[d6 (hm b _ q fun z=>z),q];simp⟩⟩
 by_cases hbe:b=e
 ·subst hbe;exact heo
 ·exact⟨u,k b u hbe q⟩
end
noncomputable def UH (h:Heap) (H:Hp):List Addr:=(List.range h.objs.size).filter fun a=>(H a).isSome
noncomputable def Dx (h:Heap) (H:Hp):Heap:=PySem.W.hideAll h (UH h H)
theorem LO(h:Heap)(H:Hp):(Dx h H).objs.size=h.objs.size:=PySem.W.hideAll_size _ _
theorem Ni{h:Heap}{H:Hp}{b:Addr}{o:Obj}(e:h.get? b=some o)(n:H b=none):(Dx h H).get? b=some o:=
 PySem.W.hideAll_get _ e fun hm=>by
  have q:(H b).isSome=true:=(bT.mp hm).2;rw[n] at q;simp at q
theorem PH{h:Heap}{H:Hp}{b:Addr}{o:Obj}(e:(Dx h H).get? b=some o):h.get? b=some o/\H b=none:=by
 have e':h.get? b=some o:=PySem.W.of_hideAll (UH h H) e;refine⟨e',?_⟩;cases q:H b with
 |none=>rfl
 |some x=>
  have hm:b∈UH h H:=bT.mpr ⟨aT.mpr (Heap.lt_size e'),by simp[q]⟩;have z:(Dx h H).get? b=none:=PySem.W.hideAll_none (UH h H) hm;rw[z] at e;cases e
structure Mod(K:PySem.W.Frag)(mg:Str->Option Value)(base:Heap):Prop where
 Tc:K.In base
 glob:base.Ns mainGlobals mg
 blt:∃mb,base.Ns builtinsNs mb/\∀x:Str,x≠"__name__"->mb x=bootBuiltins x
 nolimit:base.NoLimit
structure Cx where
 prog:Program
 w:World
 K:PySem.W.Frag
 mg:Str->Option Value
 base:Heap
 A:Around
 N:List Str
 D8:Shared
 Td:Hp
 env:Env
 outer:List Env
 stack:List Env
 ex:List Addr
 fn:Str->Bool
 calm:Bool
 pn:List (Addr×Obj)
 xe:Value->Shared->Prop
noncomputable def Nj (l:List Env):List Addr:=l.filterMap (·.frame)
noncomputable abbrev Cx.fs (X:Cx):List Addr:=Nj X.outer
noncomputable def S5 (sc:Scope) (x:Str):Prop:=sc.names.lookup x=some .local\/sc.names.lookup x=some .cell\/sc.names.lookup x=some .free
noncomputable def Loc (sc:Scope) (x:Str):Prop:=sc.names.lookup x=some .local\/sc.names.lookup x=some .cell
noncomputable def Look (env:Env) (h:Heap) (m:Str->Option Value) (x:Str) (u:Value):Prop:=
 (env.kindOf x=some .local/\m x=some u)\/((env.kindOf x=some .cell\/env.kindOf x=some .free)/\∃c,env.cells.lookup x=some c/\h.IsCell c (some u))
structure Cx.Ok(X:Cx):Prop where
 mod:Mod X.K X.mg X.base
 kind:X.env.scope.kind= .function
 glob:X.env.globals=mainGlobals
 blt:X.env.builtins=builtinsNs
 above:X.D8.heap.objs.size<=X.env.locals
 inj:∀x y c,X.env.cells.lookup x=some c->X.env.cells.lookup y=some c->x=y
 has:∀x,(X.env.kindOf x=some .cell\/X.env.kindOf x=some .free)->∃c,X.env.cells.lookup x=some c
 Te:∀x c,X.fn x=true->X.env.cells.lookup x=some c->X.D8.heap.objs.size<=c
 hd:X.calm=true->X.A.handled=none
 frames:X.A.frames=some X.stack
 RH:X.stack=X.outer\/(X.stack=X.env::X.outer/\X.env.frame=some X.env.locals)
 UI:∀b∈X.ex,b≠X.env.locals/\∀x c,X.env.cells.lookup x=some c->c≠b
 bs:∀b o,X.base.get? b=some o->X.D8.heap.get? b=some o/\X.Td b=none
 PJ:X.base.objs.size<=X.D8.heap.objs.size
 Nk:∀b o,X.base.get? b=some o->b∉X.ex
 Nl:∀b∈X.ex,b∉X.fs
 AO:X.D8.heap.FunFrames X.base X.outer
 RI:∀b∈X.fs,X.Td b=none
structure Inv(X:Cx)(pins:List (Addr×Obj))(σ:List (Option V))(H:Hp)(s:Shared):Prop where
 ok:X.Ok
 os:s.os=X.D8.os
 bare:AllBare s.gens
 base:Un X.fs X.ex X.Td H X.D8.heap s.heap
 loc:∃m,s.heap.Ns X.env.locals m/\∀(i:Nat) (x:Str) (v:V),X.N[i]? =some x->σ[i]? =some (some v)->S5 X.env.scope x->∃u,RelV v u/\Look X.env s.heap m x u
 cell:∀x c,X.env.cells.lookup x=some c->∃v,s.heap.IsCell c v
 free:H X.env.locals=none
 sW:∀x c,X.env.cells.lookup x=some c->H c=none
 pin:∀p∈X.pn ++ pins,s.heap.get? p.1=some p.2/\H p.1=none/\p.1≠X.env.locals/\p.1∉X.fs/\∀v,p.2.data≠.cell v
 iI:wQ X.prog X.w H s.heap
 len:σ.length=X.N.length
section
variable {X:Cx}{pins:List (Addr×Obj)}{σ:List (Option V)}{H H':Hp}{s:Shared}{h':Heap}
theorem Cx.Ok.UP(ok:X.Ok){b:Addr}{o:Obj}(e:X.base.get? b=some o):b∉X.fs:=fun hb=>by
 have:=(ok.AO.mem hb).1;rw[e] at this;cases this
theorem Inv.bs(I:Inv X pins σ H s):∀b o,X.base.get? b=some o->s.heap.get? b=some o/\H b=none:=fun b o e=>
 ⟨I.base.keep b o (I.ok.bs b o e).1 (I.ok.bs b o e).2 (I.ok.UP e) (I.ok.Nk b o e),I.base.free b o (I.ok.bs b o e).1 (I.ok.bs b o e).2 (I.ok.Nk b o e)⟩
theorem Inv.bk(I:Inv X pins σ H s):∀b o,X.base.get? b=some o->s.heap.get? b=some o:=fun b o e=>(I.bs b o e).1
theorem Inv.mod(I:Inv X pins σ H s):Mod X.K X.mg X.base:=I.ok.mod
theorem Inv.Nc(I:Inv X pins σ H s):X.K.In s.heap:=I.ok.mod.Tc.keeps I.bk
theorem Inv.nolimit(I:Inv X pins σ H s):s.heap.NoLimit:=I.ok.mod.nolimit.keeps I.bk
theorem Inv.lt(I:Inv X pins σ H s):X.env.locals<s.heap.objs.size:=let ⟨_,hn,_⟩:=I.loc;hn.lt
theorem Inv.sz(I:Inv X pins σ H s):X.D8.heap.objs.size<=s.heap.objs.size:=aw I.ok.above (b5 I.lt)
theorem Inv.UQ(I:Inv X pins σ H s){a:Addr}(h:s.heap.objs.size<=a):a∉X.fs:=fun hb=>by
 obtain⟨_,o,ho,_⟩:=I.ok.AO.mem hb;exact absurd (aS (Heap.lt_size ho) (aw I.sz h)) (bO _)
theorem Inv.PK(I:Inv X pins σ H s):∀x c,X.env.cells.lookup x=some c->c≠X.env.locals:=fun x c e z=>by
 obtain⟨v,o,ho,hd⟩:=I.cell x c e;obtain⟨m,⟨o',es,ep,ho',hd',_⟩,_⟩:=I.loc;rw[z,ho'] at ho;cases ho;rw[hd'] at hd;cases hd
theorem Inv.AO(I:Inv X pins σ H s):s.heap.FunFrames X.base X.outer:=by
 have all:∀(l:List Env),(∀b∈Nj l,b∈X.fs)->X.D8.heap.FunFrames X.base l->s.heap.FunFrames X.base l:=by
  intro l;induction l with
  |nil=>intro _ _;trivial
  |cons env r ih=>
   intro hs hl;obtain⟨hk,⟨L,o,hf,hn,ho,hd⟩,hr⟩:=hl;have hL:L∈X.fs:=hs L (by unfold Nj;rw[cX,hf];exact ax);obtain⟨sl,e⟩:=I.base.slot L o ho (I.ok.RI L hL) hL fun z=>I.ok.Nl L z hL
   exact⟨hk,⟨L,_,hf,hn,e,hd⟩,ih (fun b hb=>hs b (by unfold Nj;rw[cX,hf];exact ak _ hb)) hr⟩
 exact all X.outer (fun _ hb=>hb) I.ok.AO
theorem Inv.stack(I:Inv X pins σ H s):s.heap.FunFrames X.base X.stack:=by
 rcases I.ok.RH with e |⟨e,hf⟩
 ·rw[e];exact I.AO
 ·rw[e];obtain⟨m,hn,_⟩:=I.loc;refine .cons (by rw[I.ok.kind];decide) hf hn ?_ I.AO;exact Heap.get?_none_of_le (aw I.ok.PJ I.ok.above)
theorem Inv.I0(I:Inv X pins σ H s):∀b∈Nj X.stack,b∈X.env.locals::X.fs:=fun b hb=>by
 rcases I.ok.RH with e |⟨e,hf⟩
 ·rw[e] at hb;exact ak _ hb
 ·rw[e] at hb;unfold Nj at hb;rw[cX,hf] at hb;exact hb
theorem Inv.Kw(I:Inv X pins σ H s):∀b∈Nj X.stack,H b=none:=fun b hb=>by
 rcases aH.mp (I.I0 b hb) with e |hb
 ·rw[e];exact I.free
 ·obtain⟨_,o,ho,_⟩:=I.ok.AO.mem hb;exact I.base.free b o ho (I.ok.RI b hb) fun z=>I.ok.Nl b z hb
theorem Inv.step{g':Array GenState}{t':Nat}{d':Drawn}{ch:List Addr}(I:Inv X pins σ H s)
  (hch:∀b∈ch,(b∈X.ex\/X.D8.heap.objs.size<=b)/\b≠X.env.locals/\(∀x c,X.env.cells.lookup x=some c->c≠b)/\∀p∈X.pn ++ pins,p.1≠b)
  (keep:∀b o,b≠X.env.locals->b∉X.fs->b∉ch->s.heap.get? b=some o->H b=none->h'.get? b=some o)
  (slot:∀b o,b≠X.env.locals->b∈X.fs->b∉ch->s.heap.get? b=some o->H b=none->∃sl,h'.get? b=some {o with slots:=sl}) (free:∀b o,b∉ch->s.heap.get? b=some o->H b=none->H' b=none)
  (there:∀b o,b∉ch->s.heap.get? b=some o->∃o',h'.get? b=some o')
  (G1:∀b xs,H b=some (.tup xs)->H' b=some (.tup xs)) (Fo:∀b o u,H b=some (.Fn o u)->H' b=some (.Fn o u)) (G3:∀b ps,H b=some (.RF ps)->∃more,H' b=some (.RF (ps ++ more)))
  (ns:∀m,s.heap.Ns X.env.locals m->h'.Ns X.env.locals m) (iI:wQ X.prog X.w H' h') (hg:AllBare g'):
  Inv X pins σ H' {s with heap:=h',gens:=g',drawn:=d',toks:=t'}:=by
 have neL:∀b o,X.D8.heap.get? b=some o->b≠X.env.locals:=fun b o e=>bt (aS (Heap.lt_size e) I.ok.above)
 have neC:∀b o,X.D8.heap.get? b=some o->b∉X.ex->b∉ch:=fun b o e hx hb=>by
  rcases(hch b hb).1 with z |z
  ·exact hx z
  ·exact absurd (aS (Heap.lt_size e) z) (bO _)
 have cellK:∀x c,X.env.cells.lookup x=some c->∀v,s.heap.IsCell c v->h'.IsCell c v:=fun x c e v ⟨o,ho,hd⟩=>by
  have nch:c∉ch:=fun z=>(hch c z).2.2.1 x c e rfl
  by_cases hc:c∈X.fs
  ·obtain⟨sl,q⟩:=slot c o (I.PK x c e) hc nch ho (I.sW x c e);exact⟨_,q,hd⟩
  ·exact⟨o,keep c o (I.PK x c e) hc nch ho (I.sW x c e),hd⟩
 refine⟨I.ok,I.os,hg,⟨fun b o e n hb hx=> ?_,fun b o e n hb hx=> ?_,fun b o e n hx=> ?_,fun b o e hx=> ?_,fun b xs e=>G1 b xs (I.base.G1 b xs e),fun b o xs e=>Fo b o xs (I.base.Fo b o xs e),fun b ps e=> ?_⟩,?_,fun x c e=> ?_,?_,fun x c e=> ?_,fun p hp=> ?_,iI,I.len⟩
 ·exact keep b o (neL b o e) hb (neC b o e hx) (I.base.keep b o e n hb hx) (I.base.free b o e n hx)
 ·obtain⟨sl,e1⟩:=I.base.slot b o e n hb hx;obtain⟨sl',e2⟩:=slot b _ (neL b o e) hb (neC b o e hx) e1 (I.base.free b o e n hx);exact⟨sl',e2⟩
 ·obtain⟨o',e1⟩:=I.base.there b o e hx;exact free b o' (neC b o e hx) e1 (I.base.free b o e n hx)
 ·obtain⟨o',e1⟩:=I.base.there b o e hx;exact there b o' (neC b o e hx) e1
 ·obtain⟨m1,e1⟩:=I.base.G3 b ps e;obtain⟨m2,e2⟩:=G3 b _ e1;exact⟨m1 ++ m2,by rw[e2,Array.append_assoc]⟩
 ·obtain⟨m,hn,hl⟩:=I.loc;refine⟨m,ns m hn,fun i x v e1 e2 e3=> ?_⟩;obtain⟨u,r,l⟩:=hl i x v e1 e2 e3;refine⟨u,r,?_⟩;rcases l with l |⟨k,c,e,z⟩
  ·exact .inl l
  ·exact .inr ⟨k,c,e,cellK x c e _ z⟩
 ·obtain⟨v,z⟩:=I.cell x c e;exact⟨v,cellK x c e v z⟩
 ·obtain⟨m,⟨o,_,_,ho,_⟩,_⟩:=I.loc;exact free _ o (fun z=>(hch _ z).2.1 rfl) ho I.free
 ·obtain⟨v,o,ho,hd⟩:=I.cell x c e;exact free c o (fun z=>(hch c z).2.2.1 x c e rfl) ho (I.sW x c e)
 ·obtain⟨e,n,ne,nf,d⟩:=I.pin p hp;have nch:p.1∉ch:=fun z=>(hch p.1 z).2.2.2 p hp rfl
  exact⟨keep p.1 p.2 ne nf nch e n,free p.1 p.2 nch e n,ne,nf,d⟩
theorem Inv.un{t':Nat}(I:Inv X pins σ H s)(u:Un X.fs [] H H' s.heap h')(iI:wQ X.prog X.w H' h'):Inv X pins σ H' {s with heap:=h',toks:=t'}:=by
 obtain⟨m,⟨o,es,ep,ho,r⟩,_⟩:=id I.loc;obtain⟨sl,hL⟩:=u.any ho I.free (by simp);exact I.step (g':=s.gens) (d':=s.drawn) (ch:=[]) (fun _ z=>nomatch z) (fun b o _ hb _ e n=>u.keep b o e n hb (by simp)) (fun b o _ hb _ e n=>u.slot b o e n hb (by simp)) (fun b o _ e n=>u.free b o e n (by simp)) (fun b o _ e=>u.there b o e (by simp)) u.G1 u.Fo u.G3 (fun m' hm=>by
  obtain⟨o',es',ep',ho',r'⟩:=hm;rw[ho] at ho';cases ho'
  exact⟨_,es',ep',hL,r'⟩) iI I.bare
theorem Inv.call{g':Array GenState}{t':Nat}{d':Drawn}{ch:List Addr}(I:Inv X pins σ H s)(u:Un (Nj X.stack) ch H H' s.heap h')(iI:wQ X.prog X.w H' h')(hg:AllBare g')
  (hch:∀b∈ch,(b∈X.ex\/X.D8.heap.objs.size<=b)/\b≠X.env.locals/\(∀x c,X.env.cells.lookup x=some c->c≠b)/\∀p∈X.pn ++ pins,p.1≠b):
  Inv X pins σ H' {s with heap:=h',gens:=g',drawn:=d',toks:=t'}:=by
 obtain⟨m,⟨o,es,ep,ho,r⟩,_⟩:=id I.loc;obtain⟨sl,hL⟩:=u.any ho I.free fun z=>(hch _ z).2.1 rfl
 exact I.step (ch:=ch) hch (fun b o hL hb hc e n=>u.keep b o e n (fun z=>(aH.mp (I.I0 b z)).elim hL hb) hc) (fun b o _ _ hc e n=>u.any e n hc) (fun b o hc e n=>u.free b o e n hc) (fun b o hc e=>u.there b o e hc) u.G1 u.Fo u.G3 (fun m' hm=>by
  obtain⟨o',es',ep',ho',r'⟩:=hm;rw[ho] at ho';cases ho'
  exact⟨_,es',ep',hL,r'⟩) iI hg
theorem Inv.turned{t':Nat}{it:Addr}(I:Inv X pins σ H s)(k:∀b o,b≠it->s.heap.get? b=some o->h'.get? b=some o)(hn:H it=none)(hL:it≠X.env.locals)
  (h1:it∈X.ex\/X.D8.heap.objs.size<=it) (h2:∀x c,X.env.cells.lookup x=some c->c≠it) (h3:∀p∈X.pn ++ pins,p.1≠it):Inv X pins σ H {s with heap:=h',toks:=t'}:=by
 have nit:∀b u,H b=some u->b≠it:=fun b u e z=>by rw[z,hn] at e;cases e
 refine I.step (g':=s.gens) (d':=s.drawn) (ch:=[it]) (fun b hb=> ?_) (fun b o _ _ hc e _=>k b o (fun z=>hc (by simp[z])) e) (fun b o _ _ hc e _=>⟨o.slots,k b o (fun z=>hc (by simp[z])) e⟩) (fun _ _ _ _ n=>n)
  (fun b o hc e=>⟨o,k b o (fun z=>hc (by simp[z])) e⟩) (fun _ _ e=>e) (fun _ _ _ e=>e) (fun b ps e=>⟨#[],by rw[e];simp⟩) (fun m hm=> ?_) (fun b u e=> ?_) I.bare
 ·have e:b=it:=by simpa using hb
  subst e;exact⟨h1,hL,h2,h3⟩
 ·obtain⟨o,es,ep,ho,r⟩:=hm;exact⟨o,es,ep,k _ o (bK hL) ho,r⟩
 ·refine(I.iI b u e).IZ (fun c v hc q=>k c v ?_ q) (fun _ q=>q) fun _ _ q=>q
  rcases hc with z |z
  ·rw[z];exact nit b u e
  ·exact nit c _ z
theorem Inv.tok(I:Inv X pins σ H s)(t:Nat):Inv X pins σ H {s with toks:=t}:=I.un (h':=s.heap) (t':=t) Un.refl I.iI
theorem Inv.kept{t':Nat}(I:Inv X pins σ H s)(k:∀b u,s.heap.get? b=some u->h'.get? b=some u):Inv X pins σ H {s with heap:=h',toks:=t'}:=I.un (Un.kept k) (I.iI.kept k)
theorem Inv.laid{a:Addr}{o:HO}{t':Nat}(I:Inv X pins σ H s)(k:∀b u,s.heap.get? b=some u->h'.get? b=some u)(hp:s.heap.objs.size<=a)(new:j9 X.prog X.w (upd H a o) h' a o):
  Inv X pins σ (upd H a o) {s with heap:=h',toks:=t'}:=I.un (Un.laid k hp (I.iI.fresh hp)) (I.iI.laid k hp new)
theorem Inv.write{x e:Addr}{o:HO}{t':Nat}(I:Inv X pins σ H s)(mu:UG (H x))(he:e=x\/H e=some (.own x))(k:∀b u,b≠e->s.heap.get? b=some u->h'.get? b=some u)(heo:∃u,h'.get? e=some u)
  (new:j9 X.prog X.w (upd H x o) h' x o):Inv X pins σ (upd H x o) {s with heap:=h',toks:=t'}:=I.un (Un.write mu he k heo) (I.iI.write mu he k heo new)
theorem Inv.weak{σ':List (Option V)}(I:Inv X pins σ H s)(hl:σ'.length=σ.length)(w:∀(i:Nat) v,σ'[i]? =some (some v)->σ[i]? =some (some v)):Inv X pins σ' H s:=
 ⟨I.ok,I.os,I.bare,I.base,let ⟨m,hn,hl'⟩:=I.loc;⟨m,hn,fun i x v e1 e2 e3=>hl' i x v e1 (w i v e2) e3⟩,I.cell,I.free,I.sW,I.pin,I.iI,hl.trans I.len⟩
theorem Inv.Kx{pins':List (Addr×Obj)}(I:Inv X pins σ H s)(h:∀p∈pins',s.heap.get? p.1=some p.2/\H p.1=none/\p.1≠X.env.locals/\p.1∉X.fs/\∀v,p.2.data≠.cell v):Inv X pins' σ H s:=
 ⟨I.ok,I.os,I.bare,I.base,I.loc,I.cell,I.free,I.sW,fun p hp=>(aK.mp hp).elim (fun z=>I.pin p (cO _ z)) (h p),I.iI,I.len⟩
theorem Bz{N:List Str}(hN:N.Nodup){i j:Nat}{x:Str}(a:N[i]? =some x)(b:N[j]? =some x):i=j:=by
 obtain⟨h1,e1⟩:=bf.mp a;obtain⟨h2,e2⟩:=bf.mp b;exact(List.getElem_inj hN).mp (e1.trans e2.symm)
theorem D9{M:Model}{A:Around}{E:Value->Shared->Prop}{i:Nat}{x:Str}{v:V}{u:Value}{Q:Unit->Shared->Prop}(I:Inv X pins σ H s)(hN:X.N.Nodup)(hi:X.N[i]? =some x)(hx:Loc X.env.scope x)(r:RelV v u)
  (h:∀s',Inv X pins (σ.set i (some v)) H s'->(∃a,Heap.SameBut a s.heap s'.heap/\(a=X.env.locals\/X.env.cells.lookup x=some a))->Q () s') (hf:X.fn x=true\/X.env.scope.names.lookup x=some .local:=by first |exact .inl rfl |exact .inr rfl |assumption):wpAny M A (storeName X.env x u) Q E s:=by
 obtain⟨m,hn,hl⟩:=id I.loc;have hcls:(X.env.scope.kind== .class ||(X.env.scope.kind== .module&&X.env.locals !=X.env.globals))=false:=by rw[I.ok.kind];rfl
 have hiσ:i<σ.length:=by rw[I.len];exact(bf.mp hi).1
 have PK:=I.PK;have tracked:∀{a:Addr} {h':Heap},(∃o,s.heap.get? a=some o/\H a=none)->Heap.SameBut a s.heap h'->wQ X.prog X.w H h':=fun{a h'} ha hs b ob e=>by
  obtain⟨_,_,hfree⟩:=ha;refine(I.iI b ob e).IZ (fun c w' hc q=>(hs.2 c ?_).trans q) (fun _ q=>q) fun _ _ q=>q
  rintro rfl;rcases hc with rfl |hc
  ·rw[hfree] at e;cases e
  ·rw[hfree] at hc;cases hc
 rcases hx with hk |hk
 ·refine wpAny_storeName_local hk hn (fun h' hn' hs=> ?_) hcls;obtain⟨oL,_,_,hoL,_⟩:=id hn;refine h _ ⟨I.ok,I.os,I.bare,⟨fun b o e n hb hx=> ?_,fun b o e n hb hx=> ?_,I.base.free,fun b o e hx=> ?_,I.base.G1,I.base.Fo,I.base.G3⟩,⟨_,hn',fun j y v' e1 e2 e3=> ?_⟩,fun y c e=> ?_,I.free,I.sW,fun p hp=> ?_,tracked ⟨oL,hoL,I.free⟩ hs,by simpa using I.len⟩ ⟨_,hs,.inl rfl⟩
  ·exact(hs.2 b (bt (aS (Heap.lt_size e) I.ok.above))).trans (I.base.keep b o e n hb hx)
  ·obtain⟨sl,e1⟩:=I.base.slot b o e n hb hx;exact⟨sl,(hs.2 b (bt (aS (Heap.lt_size e) I.ok.above))).trans e1⟩
  ·obtain⟨o',e1⟩:=I.base.there b o e hx;exact⟨o',(hs.2 b (bt (aS (Heap.lt_size e) I.ok.above))).trans e1⟩
  ·by_cases hj:j=i
   ·subst hj;rw[hi] at e1;cases e1
    rw[List.getElem?_set_self hiσ] at e2;cases e2
    exact⟨u,r,.inl ⟨hk,by simp⟩⟩
   ·rw[List.getElem?_set_ne (bK hj)] at e2;obtain⟨u',r',q⟩:=hl j y v' e1 e2 e3;refine⟨u',r',?_⟩;rcases q with⟨k,e⟩ |⟨k,c,e,z⟩
    ·refine .inl ⟨k,?_⟩;have:y≠x:=fun e=>hj (Bz hN e1 (e▸hi))
     simp[this,e]
    ·exact .inr ⟨k,c,e,z.sameBut hs (PK y c e)⟩
  ·obtain⟨w',z⟩:=I.cell y c e;exact⟨w',z.sameBut hs (PK y c e)⟩
  ·obtain⟨e,n,ne,nf,d⟩:=I.pin p hp;exact⟨(hs.2 p.1 ne).trans e,n,ne,nf,d⟩
 ·have hfn:X.fn x=true:=by
   rcases hf with z |z
   ·exact z
   ·rw[z] at hk;cases hk
  obtain⟨c,hc⟩:=I.ok.has x (.inl hk);obtain⟨w',z⟩:=I.cell x c hc;refine wpAny_storeName_cell I.ok.kind hk hc z (fun h' hc' hs=> ?_);obtain⟨oc,hoc,hocd⟩:=id z;refine h {s with heap:=h'} ⟨I.ok,I.os,I.bare,⟨fun b o e n hb hx=> ?_,fun b o e n hb hx=> ?_,I.base.free,fun b o e hx=> ?_,I.base.G1,I.base.Fo,I.base.G3⟩,⟨m,hn.sameBut hs (bK (PK x c hc)),fun j y v' e1 e2 e3=> ?_⟩,fun y c' e=> ?_,I.free,I.sW,fun p hp=> ?_,tracked ⟨oc,hoc,I.sW x c hc⟩ hs,by simpa using I.len⟩ ⟨c,hs,.inr hc⟩
  ·exact(hs.2 b (bt (aS (Heap.lt_size e) (I.ok.Te x c hfn hc)))).trans (I.base.keep b o e n hb hx)
  ·obtain⟨sl,e1⟩:=I.base.slot b o e n hb hx;exact⟨sl,(hs.2 b (bt (aS (Heap.lt_size e) (I.ok.Te x c hfn hc)))).trans e1⟩
  ·obtain⟨o',e1⟩:=I.base.there b o e hx;exact⟨o',(hs.2 b (bt (aS (Heap.lt_size e) (I.ok.Te x c hfn hc)))).trans e1⟩
  ·by_cases hj:j=i
   ·subst hj;rw[hi] at e1;cases e1
    rw[List.getElem?_set_self hiσ] at e2;cases e2
    exact⟨u,r,.inr ⟨.inl hk,c,hc,hc'⟩⟩
   ·rw[List.getElem?_set_ne (bK hj)] at e2;obtain⟨u',r',q⟩:=hl j y v' e1 e2 e3;refine⟨u',r',?_⟩;rcases q with q |⟨k,c',e,z'⟩
    ·exact .inl q
    ·refine .inr ⟨k,c',e,z'.sameBut hs ?_⟩;rintro rfl;exact hj (Bz hN e1 (I.ok.inj _ _ _ e hc▸hi))
  ·by_cases hcc:c'=c
   ·subst hcc;exact⟨_,hc'⟩
   ·obtain⟨w2,z2⟩:=I.cell y c' e;exact⟨w2,z2.sameBut hs hcc⟩
  ·obtain⟨e,n,ne,nf,d⟩:=I.pin p hp;refine⟨(hs.2 p.1 ?_).trans e,n,ne,nf,d⟩;intro q;rw[q,hoc] at e;have q':oc=p.2:=aX e;exact d w' (by rw[<-q'];exact hocd)
theorem BA{M:Model}{A:Around}{E:Value->Shared->Prop}{i:Nat}{x:Str}{v:V}{u:Value}{Q:Unit->Shared->Prop}(I:Inv X pins σ H s)(hN:X.N.Nodup)(hi:X.N[i]? =some x)(hx:Loc X.env.scope x)(r:RelV v u)
  (h:∀s',Inv X pins (σ.set i (some v)) H s'->Q () s') (hf:X.fn x=true\/X.env.scope.names.lookup x=some .local:=by first |exact .inl rfl |exact .inr rfl |assumption):wpAny M A (storeName X.env x u) Q E s:=
 D9 I hN hi hx r (fun s' I' _=>h s' I') hf
theorem Inv.Tf{s':Shared}{ch:List Addr}(I:Inv X pins σ H s)(ho:s'.os=s.os)(u:Un (Nj X.stack) ch H H' s.heap s'.heap)(iI:wQ X.prog X.w H' s'.heap)(hg:AllBare s'.gens)
  (hch:∀b∈ch,(b∈X.ex\/X.D8.heap.objs.size<=b)/\b≠X.env.locals/\(∀x c,X.env.cells.lookup x=some c->c≠b)/\∀p∈X.pn ++ pins,p.1≠b):Inv X pins σ H' s':=by
 obtain⟨h',g',d',t',o'⟩:=s';have e:o'=s.os:=ho;subst e;exact I.call (g':=g') (t':=t') (d':=d') u iI hg hch
end
noncomputable abbrev XK:=Value->Option Addr->Hp->Prop
noncomputable abbrev St:=List (Option V)
noncomputable abbrev VK:=V->Hp->Prop
noncomputable abbrev TE:=St->Hp->VK->Prop
noncomputable abbrev TT:=St->Hp->(Bool->Hp->Prop)->Prop
noncomputable abbrev TA:=St->Hp->(List V->Hp->Prop)->Prop
structure Ends where
 nx:St->Hp->Prop
 rt:VK
 bk:St->Hp->Prop:=fun _ _=>False
 ct:St->Hp->Prop:=fun _ _=>False
noncomputable abbrev TS:=Ends->St->Hp->Prop
noncomputable def EP (X:Cx) (pins:List (Addr×Obj)) (σ:St) (Q:VK) (u:Value) (s':Shared):Prop:=∃v H',Inv X pins σ H' s'/\RelV v u/\Q v H'
noncomputable def TP (X:Cx) (pins:List (Addr×Obj)) (σ:St) (Q:Bool->Hp->Prop) (b:Bool) (s':Shared):Prop:=∃H',Inv X pins σ H' s'/\Q b H'
noncomputable def AP (X:Cx) (pins:List (Addr×Obj)) (σ:St) (Q:List V->Hp->Prop) (us:List Value) (s':Shared):Prop:=∃vs H',Inv X pins σ H' s'/\Vals vs us/\Q vs H'
noncomputable def SP (X:Cx) (pins:List (Addr×Obj)) (D:Ends) (f:Flow) (s':Shared):Prop:=
 match f with
 | .next=>∃σ' H',Inv X pins σ' H' s'/\D.nx σ' H'
 | .brk=>∃σ' H',Inv X pins σ' H' s'/\D.bk σ' H'
 | .cont=>∃σ' H',Inv X pins σ' H' s'/\D.ct σ' H'
 | .ret u=>∃v σ' H',Inv X pins σ' H' s'/\RelV v u/\D.rt v H'
noncomputable def PE (X:Cx) (e:Expr) (t:TE):Prop:=
 ∀(pins:List (Addr×Obj)) (s:Shared) (σ:St) (H:Hp) (Q:VK),Inv X pins σ H s->t σ H Q->wpAny (model X.prog X.w) X.A (eval e X.env) (EP X pins σ Q) X.xe s
noncomputable def PT (X:Cx) (e:Expr) (t:TT):Prop:=
 ∀(pins:List (Addr×Obj)) (s:Shared) (σ:St) (H:Hp) (Q:Bool->Hp->Prop),Inv X pins σ H s->t σ H Q->wpAny (model X.prog X.w) X.A (isTrue e X.env (eval e X.env)) (TP X pins σ Q) X.xe s
noncomputable def PW (X:Cx) (e:Expr) (t:TT):Prop:=
 ∀(whole:Sem Value) (pins:List (Addr×Obj)) (s:Shared) (σ:St) (H:Hp) (Q:Bool->Hp->Prop),Inv X pins σ H s->t σ H Q->wpAny (model X.prog X.w) X.A (isTrue e X.env whole) (TP X pins σ Q) X.xe s
theorem PW.pt{X:Cx}{e:Expr}{t:TT}(h:PW X e t):PT X e t:=h _
noncomputable def PA (X:Cx) (es:List Expr) (t:TA):Prop:=
 ∀(pos:Pos) (pins:List (Addr×Obj)) (s:Shared) (σ:St) (H:Hp) (Q:List V->Hp->Prop),Inv X pins σ H s->t σ H Q->wpAny (model X.prog X.w) X.A (spliced (backTo pos (starEach es X.env))) (AP X pins σ Q) X.xe s
noncomputable def PS (X:Cx) (st:Stmt) (t:TS):Prop:=
 ∀(pins:List (Addr×Obj)) (s:Shared) (σ:St) (H:Hp) (D:Ends),Inv X pins σ H s->t D σ H->wpAny (model X.prog X.w) X.A (exec st X.env) (SP X pins D) X.xe s
noncomputable def Ja (X:Cx) (st:List Stmt) (t:TS):Prop:=
 ∀(pins:List (Addr×Obj)) (s:Shared) (σ:St) (H:Hp) (D:Ends),Inv X pins σ H s->t D σ H->wpAny (model X.prog X.w) X.A (execs st X.env) (SP X pins D) X.xe s
theorem ij{α:Type}{t:Sem α}{Q Q':α->Shared->Prop}{M:Model}{A:Around}{E:Value->Shared->Prop}{s:Shared}(h:wpAny M A t Q E s)(hQ:∀a s,Q a s->Q' a s):wpAny M A t Q' E s:=wpAny_mono h hQ fun _ _ x=>x
section
variable {X:Cx}
noncomputable def vB (i:Nat):TE:=fun σ H Q=>∃v,σ[i]? =some (some v)/\Q v H
noncomputable def tC (v:V):TE:=fun _ H Q=>Q v H
theorem RJ{i:Nat}{x:Str}{pos:Pos}(hN:X.N[i]? =some x)(hv:S5 X.env.scope x)(hd:(x==("__debug__":Str))=false:=by decide)(hcd:(x==("__classdict__":Str))=false:=by decide):PE X (.Name x pos) (vB i):=by
 intro pins s σ H Q I h;obtain⟨v,e,h⟩:=h;obtain⟨m,hn,hl⟩:=I.loc;obtain⟨u,r,l⟩:=hl i x v hN e hv;have fin:EP X pins σ Q u s:=⟨v,H,I,r,h⟩;rcases l with⟨hk,hm⟩ |⟨hk,c,hc,hcell⟩
 ·exact wpAny_Name (wpAny_loadName_local I.ok.kind hk hn hm fin) hd
 ·rcases hk with hk |hk
  ·exact wpAny_Name (wpAny_loadName_cell I.ok.kind hk hc hcell fin) hd
  ·exact wpAny_Name (wpAny_loadName_free I.ok.kind hk hc hcell fin hcd) hd
theorem dz{i j pos}:PE X (.Constant (.int i) j pos) (tC (.int i)):=fun _ _ _ H _ I h=>wpAny_Constant_int ⟨.int i,H,I.tok _,⟨_,rfl⟩,h⟩
theorem pK{b j pos}:PE X (.Constant (.bool b) j pos) (tC (.bl b)):=fun _ _ _ H _ I h=>Constant_bool ⟨.bl b,H,I,rfl,h⟩
theorem Fp{j pos}:PE X (.Constant .none j pos) (tC .jP):=fun _ _ _ H _ I h=>Constant_none ⟨.jP,H,I,rfl,h⟩
noncomputable def Gl (X:Cx) (x:Str):Prop:=X.env.kindOf x=some .globalImplicit
theorem Fq{E:Value->Shared->Prop}{pins:List (Addr×Obj)}{s:Shared}{σ:St}{H:Hp}{x:Str}{u:Value}{pos:Pos}{Q:Value->Shared->Prop}(I:Inv X pins σ H s)(hg:Gl X x)(hm:X.mg x=some u)(h:Q u s)
  (hd:(x==("__debug__":Str))=false:=by decide):wpAny (model X.prog X.w) X.A (eval (.Name x pos) X.env) Q E s:=
 Calls.Name_function_global I.ok.kind hg (Calls.loadGlobal_global (by rw[I.ok.glob];exact I.mod.glob.keeps I.bk) hm h) hd
theorem sX{E:Value->Shared->Prop}{pins:List (Addr×Obj)}{s:Shared}{σ:St}{H:Hp}{x:Str}{u:Value}{pos:Pos}{Q:Value->Shared->Prop}(I:Inv X pins σ H s)(hg:Gl X x)(hm:X.mg x=none)(hv:bootBuiltins x=some u)(h:Q u s)
  (hn:x≠"__name__":=by decide) (hd:(x==("__debug__":Str))=false:=by decide):wpAny (model X.prog X.w) X.A (eval (.Name x pos) X.env) Q E s:=by
 obtain⟨mb,h1,h2⟩:=I.mod.blt;exact Calls.Name_function_global I.ok.kind hg (Calls.loadGlobal_builtin (by rw[I.ok.glob];exact I.mod.glob.keeps I.bk) hm (by rw[I.ok.blt];exact h1.keeps I.bk) ((h2 x hn).trans hv) h) hd
theorem Ky{x:Str}{v:V}{u:Value}{pos:Pos}(hg:Gl X x)(hm:X.mg x=some u)(r:RelV v u)(hd:(x==("__debug__":Str))=false:=by decide):PE X (.Name x pos) (tC v):=
 fun _ _ _ H _ I h=>Fq I hg hm ⟨v,H,I,r,h⟩ hd
variable {a b:Expr}{ta tb:TE}{pos:Pos}
noncomputable def PC (X:Cx) (op:CmpOp) (a b:Expr) (t:TE):Prop:=
 ∀(pins:List (Addr×Obj)) (s:Shared) (σ:St) (H:Hp) (Q:VK),Inv X pins σ H s->t σ H Q->
  wpAny (model X.prog X.w) X.A (eval a X.env) (fun v s₁=>wpAny (model X.prog X.w) X.A (eval b X.env) (fun u s₂=>wpAny (model X.prog X.w) X.A (compareOp op v u) (EP X pins σ Q) X.xe s₂) X.xe s₁) X.xe s
theorem Nm(b:Expr){op:CmpOp}(h:op≠.In)(h2:op≠.NotIn):behindInMarks op b=false:=by
 have e1:(op==CmpOp.In)=false:=by cases op <;>first |rfl |exact absurd rfl h
 have e2:(op==CmpOp.NotIn)=false:=by cases op <;>first |rfl |exact absurd rfl h2
 cases b <;>simp[behindInMarks,e1,e2]
noncomputable def UR (ta:TE):TE:=fun σ H Q=>ta σ H fun x H1=>Q (.bl (decide (x= .jP))) H1
noncomputable def Tg (ta:TE):TE:=fun σ H Q=>ta σ H fun x H1=>Q (.bl (!decide (x= .jP))) H1
theorem RelV.G4{x:V}{v:Value}(r:RelV x v):(v==Value.none)=decide (x= .jP):=by
 cases x with
 |jP=>cases r;rfl
 |bl _=>cases r;rfl
 |int _=>obtain⟨t,rfl⟩:=r;rfl
 |str _=>obtain⟨t,rfl⟩:=r;rfl
 |Fm _=>obtain⟨t,rfl⟩:=r;rfl
 |Tb _=>obtain⟨t,rfl⟩:=r;rfl
 |ref _=>cases r;rfl
 |ty _=>cases r;rfl
theorem Fs{j pos'}(ha:PE X a ta):PC X .Is a (.Constant .none j pos') (UR ta):=by
 intro pins s σ H Q I h;refine ij (ha pins s σ H _ I h) fun v s1 ⟨x,H1,I1,r1,q1⟩=> ?_
 exact Constant_none (is_none_gen ⟨.bl _,H1,I1,by rw[r1.G4];rfl,q1⟩)
theorem PL{j pos'}(ha:PE X a ta):PC X .IsNot a (.Constant .none j pos') (Tg ta):=by
 intro pins s σ H Q I h;refine ij (ha pins s σ H _ I h) fun v s1 ⟨x,H1,I1,r1,q1⟩=> ?_
 exact Constant_none (isnot_none_gen ⟨.bl _,H1,I1,by rw[r1.G4];rfl,q1⟩)
noncomputable def tB (t:TE):TT:=fun σ H Q=>t σ H fun x H1=>∃c,x= .bl c/\Q c H1
theorem BB{op:CmpOp}{t:TE}(h:PC X op a b t)(h1:behindInMarks op b=false:=by first |exact Nm _ (by decide) (by decide) |rfl):PT X (.Compare a [op] [b] pos) (tB t):=by
 intro pins s σ H Q I hw;refine wpAny_isTrue_Compare1 (ij (h pins s σ H _ I hw) fun v s1 h1=>ij h1 fun u s2 h2=>ij h2 fun c s3 ⟨x,H1,I1,r1,q1⟩=> ?_) h1;obtain⟨d,rfl,q⟩:=q1;cases r1
 exact wpAny_truthy_bool ⟨H1,I1,q⟩
variable {tA tB':TT}{rest:List Expr}
noncomputable def US (t u:TT):TT:=fun σ H Q=>t σ H fun c H1=>if c=true then u σ H1 Q else Q false H1
noncomputable def V0 (t u:TT):TT:=fun σ H Q=>t σ H fun c H1=>if c=true then Q true H1 else u σ H1 Q
noncomputable def UT (t:TT):TT:=fun σ H Q=>t σ H fun c H1=>Q (!c) H1
theorem Ft(ha:PT X a tA):PW X (.BoolOp .And [a] pos) tA:=by
 intro wh pins s σ H Q I h;refine isTrue_and (ij (ha pins s σ H Q I h) fun c s1 e=> ?_);cases c with
 |true=>exact isTrue_and_nil e
 |false=>exact e
theorem Fu(ha:PT X a tA):PW X (.BoolOp .Or [a] pos) tA:=by
 intro wh pins s σ H Q I h;refine isTrue_or (ij (ha pins s σ H Q I h) fun c s1 e=> ?_);cases c with
 |false=>exact isTrue_or_nil e
 |true=>exact e
theorem Jb(ha:PT X a tA)(hb:PW X (.BoolOp .And (b::rest) pos) tB'):PW X (.BoolOp .And (a::b::rest) pos) (US tA tB'):=by
 intro wh pins s σ H Q I h;refine isTrue_and (ij (ha pins s σ H _ I h) fun c s1 ⟨H1,I1,q1⟩=> ?_);cases c with
 |true=>exact hb wh pins s1 σ H1 Q I1 q1
 |false=>exact⟨H1,I1,q1⟩
theorem G5(ha:PT X a tA)(hb:PW X (.BoolOp .Or (b::rest) pos) tB'):PW X (.BoolOp .Or (a::b::rest) pos) (V0 tA tB'):=by
 intro wh pins s σ H Q I h;refine isTrue_or (ij (ha pins s σ H _ I h) fun c s1 ⟨H1,I1,q1⟩=> ?_);cases c with
 |true=>exact⟨H1,I1,q1⟩
 |false=>exact hb wh pins s1 σ H1 Q I1 q1
theorem lE(ha:PT X a tA):PT X (.UnaryOp .Not a pos) (UT tA):=by
 intro pins s σ H Q I h;exact isTrue_not (ha pins s σ H (fun c H1=>Q (!c) H1) I h)
noncomputable def Th (ta tb:TE):TE:=fun σ H Q=>ta σ H fun x H1=>∃c,x= .bl c/\if c=true then tb σ H1 Q else Q (.bl false) H1
noncomputable def UU (ta tb:TE):TE:=fun σ H Q=>ta σ H fun x H1=>∃c,x= .bl c/\if c=true then Q (.bl true) H1 else tb σ H1 Q
theorem Fv{op}{t:TE}(h:PE X a t):PE X (.BoolOp op [a] pos) t:=fun pins s σ H Q I hw=>BoolOp_one (h pins s σ H Q I hw)
theorem Jc(ha:PE X a ta)(hb:PE X (.BoolOp .And (b::rest) pos) tb):PE X (.BoolOp .And (a::b::rest) pos) (Th ta tb):=by
 intro pins s σ H Q I h;refine BoolOp_and (ij (ha pins s σ H _ I h) fun v s1 ⟨x,H1,I1,r1,q1⟩=> ?_);obtain⟨c,rfl,q1⟩:=q1;cases r1
 refine wpAny_truthy_bool ?_;cases c with
 |true=>exact hb pins s1 σ H1 Q I1 q1
 |false=>exact⟨.bl false,H1,I1,rfl,q1⟩
theorem Ti(ha:PE X a ta)(hb:PE X (.BoolOp .Or (b::rest) pos) tb):PE X (.BoolOp .Or (a::b::rest) pos) (UU ta tb):=by
 intro pins s σ H Q I h;refine BoolOp_or (ij (ha pins s σ H _ I h) fun v s1 ⟨x,H1,I1,r1,q1⟩=> ?_);obtain⟨c,rfl,q1⟩:=q1;cases r1
 refine wpAny_truthy_bool ?_;cases c with
 |false=>exact hb pins s1 σ H1 Q I1 q1
 |true=>exact⟨.bl true,H1,I1,rfl,q1⟩
noncomputable def V1 (t:TT) (ta tb:TE):TE:=fun σ H Q=>t σ H fun c H1=>if c=true then ta σ H1 Q else tb σ H1 Q
theorem mH{c:Expr}(hc:PT X c tA)(ha:PE X a ta)(hb:PE X b tb):PE X (.IfExp c a b pos) (V1 tA ta tb):=by
 intro pins s σ H Q I h;refine wpAny_IfExp (ij (hc pins s σ H _ I h) fun d s1 ⟨H1,I1,q1⟩=> ?_);cases d with
 |true=>exact ha pins s1 σ H1 Q I1 q1
 |false=>exact hb pins s1 σ H1 Q I1 q1
end
noncomputable def ly (K:PySem.W.Frag) (H:Hp) (a:Addr) (xs:List V):Prop:=
 Rd H a (.lst xs)\/
  ∃(o:Obj) (its:Array Value) (n:Nat),K.lookup a=some o/\o.cls= .type "list"/\o.dict=none/\o.data= .seq its n/\its.size<=sizeLine/\Vals xs its.toList
noncomputable def Du (K:PySem.W.Frag) (H:Hp) (a:Addr) (xs:List V):Prop:=
 Rd H a (.tup xs)\/
  ∃(o:Obj) (its:Array Value) (n:Nat),K.lookup a=some o/\o.cls= .type "tuple"/\o.data= .seq its n/\its.size<=sizeLine/\Vals xs its.toList
noncomputable def UW:Value->Option V
 | .none=>some .jP
 | .bool b=>some (.bl b)
 | .int i _=>some (.int i)
 | .str x _=>some (.str x)
 | .bytes b _=>some (.Fm b)
 | .float b _=>some (.Tb b)
 | .ref a=>some (.ref a)
 | .type n=>some (.ty n)
 |_=>none
theorem RelV.abs{x:V}{u:Value}(r:RelV x u):UW u=some x:=by
 cases x with
 |jP=>cases r;rfl
 |bl _=>cases r;rfl
 |int _=>obtain⟨t,rfl⟩:=r;rfl
 |str _=>obtain⟨t,rfl⟩:=r;rfl
 |Fm _=>obtain⟨t,rfl⟩:=r;rfl
 |Tb _=>obtain⟨t,rfl⟩:=r;rfl
 |ref _=>cases r;rfl
 |ty _=>cases r;rfl
theorem RelV.inj{x y:V}{u:Value}(r:RelV x u)(q:RelV y u):x=y:=aX (r.abs.symm.trans q.abs)
theorem Vals.inj:∀{xs ys:List V} {us:List Value},Vals xs us->Vals ys us->xs=ys
 |_,_,_,.nil,.nil=>rfl
 |_,_,_,.cons r t,.cons r' t'=>by rw[r.inj r',Vals.inj t t']
section
variable {X:Cx}{pins:List (Addr×Obj)}{σ:St}{H:Hp}{s:Shared}{a:Addr}{xs ys:List V}
theorem ly.of{K:PySem.W.Frag}(h:H a=some (.lst xs)):ly K H a xs:= .inl (.inl h)
theorem Du.of{K:PySem.W.Frag}(h:H a=some (.tup xs)):Du K H a xs:= .inl (.inl h)
theorem Inv.list(I:Inv X pins σ H s)(h:ly X.K H a xs):∃its:List Value,Vals xs its/\PlainL s.heap a its.toArray/\xs.length<=sizeLine:=by
 rcases h with h |⟨o,its,n,hk,hc,hd,hs,hz,r⟩
 ·obtain⟨z,its,n,r,e⟩:=h.ok I.iI;exact⟨its,r,⟨_,n,e,rfl,rfl,rfl⟩,z⟩
 ·refine⟨its.toList,r,⟨o,n,I.Nc a o hk,hc,hd,by simpa using hs⟩,?_⟩;have e:=r.length;simp only[cY] at e;lia
theorem Inv.tuple(I:Inv X pins σ H s)(h:Du X.K H a xs):∃its:List Value,Vals xs its/\IsTup s.heap a its.toArray/\xs.length<=sizeLine:=by
 rcases h with h |⟨o,its,n,hk,hc,hs,hz,r⟩
 ·obtain⟨z,its,r,p⟩:=h.ok I.iI;exact⟨its,r,p,z⟩
 ·refine⟨its.toList,r,⟨o,I.Nc a o hk,hc,n,by simpa using hs⟩,?_⟩;have e:=r.length;simp only[cY] at e;lia
theorem Inv.sY(I:Inv X pins σ H s)(h:ly X.K H a xs)(h':ly X.K H a ys):xs=ys:=by
 obtain⟨its,r,⟨o,n,e,_,_,d⟩,_⟩:=I.list h;obtain⟨its',r',⟨o',n',e',_,_,d'⟩,_⟩:=I.list h';rw[e] at e';cases e'
 rw[d] at d';injection d' with d1 _
 have:its=its':=by simpa using congrArg Array.toList d1
 subst this;exact r.inj r'
theorem Inv.yI(I:Inv X pins σ H s)(h:Du X.K H a xs)(h':Du X.K H a ys):xs=ys:=by
 obtain⟨its,r,⟨o,e,_,n,d⟩,_⟩:=I.tuple h;obtain⟨its',r',⟨o',e',_,n',d'⟩,_⟩:=I.tuple h';rw[e] at e';cases e'
 rw[d] at d';injection d' with d1 _
 have:its=its':=by simpa using congrArg Array.toList d1
 subst this;exact r.inj r'
end
noncomputable abbrev Cx.Dy (X:Cx) (E:Value->Shared->Prop):Cx:={X with xe:=E}
noncomputable abbrev Cx.RK (X:Cx):Cx:=X.Dy fun _ _=>False
theorem Cx.Ok.Dy{X:Cx}(ok:X.Ok)(E:Value->Shared->Prop):(X.Dy E).Ok:=
 ⟨ok.mod,ok.kind,ok.glob,ok.blt,ok.above,ok.inj,ok.has,ok.Te,ok.hd,ok.frames,ok.RH,ok.UI,ok.bs,ok.PJ,ok.Nk,ok.Nl,ok.AO,ok.RI⟩
theorem Cx.Ok.sZ{X:Cx}{E:Value->Shared->Prop}(ok:(X.Dy E).Ok):X.Ok:=
 ⟨ok.mod,ok.kind,ok.glob,ok.blt,ok.above,ok.inj,ok.has,ok.Te,ok.hd,ok.frames,ok.RH,ok.UI,ok.bs,ok.PJ,ok.Nk,ok.Nl,ok.AO,ok.RI⟩
section
variable {X:Cx}{pins:List (Addr×Obj)}{σ:St}{H:Hp}{s:Shared}{E:Value->Shared->Prop}
theorem Inv.Dy(I:Inv X pins σ H s)(E:Value->Shared->Prop):Inv (X.Dy E) pins σ H s:=⟨I.ok.Dy E,I.os,I.bare,I.base,I.loc,I.cell,I.free,I.sW,I.pin,I.iI,I.len⟩
theorem Inv.sZ(I:Inv (X.Dy E) pins σ H s):Inv X pins σ H s:=⟨I.ok.sZ,I.os,I.bare,I.base,I.loc,I.cell,I.free,I.sW,I.pin,I.iI,I.len⟩
theorem SP.sZ{D:Ends}{f:Flow}{s':Shared}(h:SP (X.Dy E) pins D f s'):SP X pins D f s':=by
 cases f with
 |next=>obtain⟨σ',H',I,q⟩:=h;exact⟨σ',H',I.sZ,q⟩
 |brk=>obtain⟨σ',H',I,q⟩:=h;exact⟨σ',H',I.sZ,q⟩
 |cont=>obtain⟨σ',H',I,q⟩:=h;exact⟨σ',H',I.sZ,q⟩
 |ret u=>obtain⟨v,σ',H',I,r,q⟩:=h;exact⟨v,σ',H',I.sZ,r,q⟩
theorem Ja.RK{st:List Stmt}{t:TS}(h:Ja X.RK st t):Ja X st t:=fun pins s σ H D I hw=>
 wpAny_mono (h pins s σ H D (I.Dy _) hw) (fun _ _ q=>q.sZ) fun _ _ z=>False.elim z
end
section
variable {X:Cx}{st:Stmt}{rest:List Stmt}{t u:TS}{e:Expr}{te:TE}{pos:Pos}
noncomputable def Q8:TS:=fun D σ H=>D.nx σ H
noncomputable def Tj (t u:TS):TS:=fun D σ H=>t {D with nx:=u D} σ H
theorem d8:Ja X [] Q8:=fun _ _ σ H _ I h=>wpAny_execs_nil ⟨σ,H,I,h⟩
theorem df(h1:PS X st t)(h2:Ja X rest u):Ja X (st::rest) (Tj t u):=by
 intro pins s σ H D I h;refine wpAny_execs_cons (ij (h1 pins s σ H {D with nx:=u D} I h) fun f s1 q=> ?_);cases f with
 |next=>
  obtain⟨σ',H',I',q⟩:=q;exact h2 pins s1 σ' H' D I' q
 |ret v=>exact q
 |brk=>exact q
 |cont=>exact q
theorem dj(h1:PS X st t):Ja X [st] t:=by
 intro pins s σ H D I h;refine wpAny_execs_cons (ij (h1 pins s σ H D I h) fun f s1 q=> ?_);cases f with
 |next=>exact wpAny_execs_nil q
 |ret v=>exact q
 |brk=>exact q
 |cont=>exact q
noncomputable def Tn:TS:=fun D σ H=>D.ct σ H
theorem G6:PS X (.Continue pos) Tn:=fun _ _ σ H _ I h=>wpAny_Continue ⟨σ,H,I,h⟩
theorem Inv.quiet{pins:List (Addr×Obj)}{σ:St}{H:Hp}{s:Shared}(I:Inv X pins σ H s):interactive X.env=false:=by simp[interactive,I.ok.kind]
noncomputable def Q9 (te:TE):TS:=fun D σ H=>te σ H fun _ H1=>D.nx σ H1
theorem jg(he:PE X e te)(hs:swapsWith e none pos.line X.env=pure false:=by rfl):PS X (.Expr e pos) (Q9 te):=by
 intro pins s σ H D I h;exact wpAny_Expr_any (ij (he pins s σ H _ I h) fun v s1 ⟨x,H1,I1,r1,q1⟩=>⟨σ,H1,I1,q1⟩) I.quiet hs
noncomputable def PM (te:TE):TS:=fun D σ H=>te σ H D.rt
theorem dC(he:PE X e te):PS X (.Return (some e) pos) (PM te):=by
 intro pins s σ H D I h;exact wpAny_Return_some (ij (he pins s σ H _ I h) fun v s1 ⟨x,H1,I1,r1,q1⟩=>⟨x,σ,H1,I1,r1,q1⟩)
noncomputable def To (c:TT) (t u:TS):TS:=fun D σ H=>c σ H fun b H1=>if b=true then t D σ H1 else u D σ H1
theorem fk{c:Expr}{a b:List Stmt}{tc:TT}(hc:PT X c tc)(ha:Ja X a t)(hb:Ja X b u):PS X (.If c a b pos) (To tc t u):=by
 intro pins s σ H D I h;refine wpAny_If (ij (hc pins s σ H _ I h) fun d s1 ⟨H1,I1,q1⟩=> ?_);cases d with
 |true=>exact ha pins s1 σ H1 D I1 q1
 |false=>exact hb pins s1 σ H1 D I1 q1
end
noncomputable abbrev TG:=V->St->Hp->(St->Hp->Prop)->Prop
noncomputable abbrev Ra:=List V->St->Hp->(St->Hp->Prop)->Prop
noncomputable def PG (X:Cx) (target:Expr) (t:TG):Prop:=
 ∀(pins:List (Addr×Obj)) (s:Shared) (σ:St) (H:Hp) (v:V) (u:Value) (Q:St->Hp->Prop),Inv X pins σ H s->RelV v u->t v σ H Q->
  wpAny (model X.prog X.w) X.A (assign target X.env u) (fun _ s'=>∃σ' H',Inv X pins σ' H' s'/\Q σ' H') X.xe s
noncomputable def Tr (X:Cx) (ts:List Expr) (t:Ra):Prop:=
 ∀(pins:List (Addr×Obj)) (s:Shared) (σ:St) (H:Hp) (vs:List V) (us:List Value) (Q:St->Hp->Prop),Inv X pins σ H s->Vals vs us->t vs σ H Q->
  wpAny (model X.prog X.w) X.A (assignInOrder ((assignEach ts X.env).map (·.2)) us) (fun _ s'=>∃σ' H',Inv X pins σ' H' s'/\Q σ' H') X.xe s
noncomputable abbrev Nn:=V->V->V->Hp->(Hp->Prop)->Prop
noncomputable def RL (X:Cx) (t:Nn):Prop:=
 ∀(pins:List (Addr×Obj)) (s:Shared) (σ:St) (H:Hp) (o i v:V) (ov iv u:Value) (Q:Hp->Prop),Inv X pins σ H s->RelV o ov->RelV i iv->RelV v u->t o i v H Q->
  wpAny (model X.prog X.w) X.A (setItem ov iv u) (fun _ s'=>∃H',Inv X pins σ H' s'/\Q H') X.xe s
noncomputable abbrev RM:=V->V->Hp->VK->Prop
noncomputable def Ts (X:Cx) (op:Operator) (t:RM):Prop:=
 ∀(pins:List (Addr×Obj)) (s:Shared) (σ:St) (H:Hp) (x y:V) (v u:Value) (Q:VK),Inv X pins σ H s->RelV x v->RelV y u->t x y H Q->
  wpAny (model X.prog X.w) X.A (inplaceOp op v u) (EP X pins σ Q) X.xe s
section
variable {X:Cx}{pos:Pos}
noncomputable def Ea (i:Nat):TG:=fun v σ H Q=>Q (σ.set i (some v)) H
theorem PN{i:Nat}{x:Str}(hN:X.N.Nodup)(hi:X.N[i]? =some x)(hx:Loc X.env.scope x)(hf:X.fn x=true\/X.env.scope.names.lookup x=some .local:=by first |exact .inl rfl |exact .inr rfl |assumption):PG X (.Name x pos) (Ea i):=by
 intro pins s σ H v u Q I r h;exact wpAny_assign_Name (BA I hN hi hx r (fun s' I'=>⟨_,H,I',h⟩) hf)
noncomputable def UX:Ra:=fun vs σ H Q=>vs=[]/\Q σ H
noncomputable def Tt (t:TG) (u:Ra):Ra:=fun vs σ H Q=>∃v r,vs=v::r/\t v σ H fun σ' H'=>u r σ' H' Q
theorem kf:Tr X [] UX:=by
 intro pins s σ H vs us Q I r h;obtain⟨e,h⟩:=h;subst e;cases r
 exact assignInOrder_nil ⟨σ,H,I,h⟩
theorem fm{e:Expr}{es:List Expr}{t:TG}{u:Ra}(h1:PG X e t)(h2:Tr X es u)
  (hs:(assignEach (e::es) X.env).map (·.2)=assign e X.env::(assignEach es X.env).map (·.2):=by rfl):Tr X (e::es) (Tt t u):=by
 intro pins s σ H vs us Q I r h;obtain⟨v,vr,e1,h⟩:=h;subst e1;cases r with
 |cons r rr=>
  rw[hs];refine assignInOrder_cons (ij (h1 pins s σ H _ _ _ I r h) fun _ s1 ⟨σ1,H1,I1,q1⟩=> ?_);exact h2 pins s1 σ1 H1 _ _ Q I1 rr q1
noncomputable def Tu (K:PySem.W.Frag) (n:Nat) (t:Ra):TG:=fun v σ H Q=>∃a xs,v= .ref a/\Du K H a xs/\xs.length=n/\t xs σ H Q
theorem RN{es:List Expr}{k:Nat}{t:Ra}{n:Nat}(hc:X.calm=true)(h:Tr X es t)
  (hn:(assignEach es X.env).length=n:=by rfl) (hst:(assignEach es X.env).findIdx? (·.1)=none:=by rfl):PG X (.Tuple es k pos) (Tu X.K n t):=by
 intro pins s σ H v u Q I r hw;obtain⟨a,xs,e1,hq,hl,hw⟩:=hw;subst e1;cases r
 obtain⟨its,rv,ht,hz⟩:=I.tuple hq;refine assign_Tuple_tuple (I.ok.hd hc) ht (by simp[hn,<-hl,rv.length]) hst fun h' hx=> ?_
 have I1:Inv X pins σ H {s with heap:=h'}:=I.kept (t':=s.toks) fun b o e=>hx b o (bt (Heap.lt_size e)) e
 exact h pins _ σ H xs _ Q I1 (by simpa using rv) hw
noncomputable def UY (to ti:TE) (t:Nn):TG:=fun v σ H Q=>to σ H fun o H1=>ti σ H1 fun i H2=>t o i v H2 fun H3=>Q σ H3
theorem yJ{o i:Expr}{to ti:TE}{t:Nn}(ho:PE X o to)(hi:PE X i ti)(hs:RL X t)
  (ha:∀v,assign (.Subscript o i pos) X.env v=(do
   let ov<-holding [v] (eval o X.env);let iv<-holding [v,ov] (eval i X.env)
   standAt pos
   holding [v,ov,iv] (setItem ov iv v)
   release [v,ov,iv] []):=by intro _;rfl):PG X (.Subscript o i pos) (UY to ti t):=by
 intro pins s σ H v u Q I r h;rw[ha];refine wpAny_bind (wpAny_holding (ij (ho pins s σ H _ I h) fun ov s1 ⟨x,H1,I1,r1,q1⟩=> ?_));refine wpAny_bind (wpAny_holding (ij (hi pins s1 σ H1 _ I1 q1) fun iv s2 ⟨y,H2,I2,r2,q2⟩=> ?_));refine wpAny_bind (wpAny_standAt (wpAny_bind (wpAny_holding (ij (hs pins s2 σ H2 x y v ov iv u _ I2 r1 r2 r q2) fun _ s3 ⟨H3,I3,q3⟩=> ?_))));exact wpAny_release ⟨σ,H3,I3,q3⟩
noncomputable def PR (te:TE) (g:TG):TS:=fun D σ H=>te σ H fun x H1=>g x σ H1 D.nx
theorem yK{tg e:Expr}{te:TE}{g:TG}(he:PE X e te)(hg:PG X tg g)(hs:swapsWithSole [tg] e pos.line X.env=pure false:=by rfl)(hw:swappedStores [tg] e X.env=pure none:=by rfl)
  (h1:(assignEach [tg] X.env).map (·.2)=[assign tg X.env]:=by rfl):PS X (.Assign [tg] e pos) (PR te g):=by
 intro pins s σ H D I h;refine wpAny_Assign_stores (ij (he pins s σ H _ I h) fun v s1 ⟨x,H1,I1,r1,q1⟩=> ?_) hs hw;rw[h1];exact ij (hg pins s1 σ H1 x v _ I1 r1 q1) fun _ s2 q=>q
theorem RO{i:Nat}{x:Str}{e:Expr}{te:TE}{pos':Pos}(hN:X.N.Nodup)(hi:X.N[i]? =some x)(hx:Loc X.env.scope x)(he:PE X e te)(hs:swapsWith e (some (.Name x pos')) pos.line X.env=pure false:=by rfl)(hf:X.fn x=true\/X.env.scope.names.lookup x=some .local:=by first |exact .inl rfl |exact .inr rfl |assumption):
  PS X (.Assign [.Name x pos'] e pos) (PR te (Ea i)):=by
 intro pins s σ H D I h;refine wpAny_Assign_Name (ij (he pins s σ H _ I h) fun v s1 ⟨y,H1,I1,r1,q1⟩=> ?_) hs;exact BA I1 hN hi hx r1 (fun s2 I2=>⟨_,H1,I2,q1⟩) hf
noncomputable def UZ (i:Nat) (te:TE) (ti:RM):TS:=fun D σ H=>∃x,σ[i]? =some (some x)/\te σ H fun y H1=>ti x y H1 fun z H2=>D.nx (σ.set i (some z)) H2
theorem Jd{i:Nat}{x:Str}{e:Expr}{te:TE}{op:Operator}{ti:RM}{pos':Pos}(hN:X.N.Nodup)(hi:X.N[i]? =some x)(hx:Loc X.env.scope x)(he:PE X e te)(ho:Ts X op ti)(hf:X.fn x=true\/X.env.scope.names.lookup x=some .local:=by first |exact .inl rfl |exact .inr rfl |assumption):
  PS X (.AugAssign (.Name x pos') op e pos) (UZ i te ti):=by
 intro pins s σ H D I h;obtain⟨v,e1,h⟩:=h;obtain⟨m,hn,hl⟩:=I.loc;have vis:S5 X.env.scope x:=by rcases hx with k |k;exact .inl k;exact .inr (.inl k)
 obtain⟨u,r,l⟩:=hl i x v hi e1 vis;refine wpAny_AugAssign_Name ?_;have go:wpAny (model X.prog X.w) X.A (eval e X.env) (fun w s₂=>wpAny (model X.prog X.w) X.A (inplaceOp op u w) (fun r s₃=>wpAny (model X.prog X.w) X.A (storeName X.env x r) (fun _=>SP X pins D .next) X.xe s₃) X.xe s₂) X.xe s:=by
  refine ij (he pins s σ H _ I h) fun w s1 ⟨y,H1,I1,r1,q1⟩=> ?_
  refine ij (ho pins s1 σ H1 v y u w _ I1 r r1 q1) fun z s2 ⟨zv,H2,I2,r2,q2⟩=> ?_
  exact BA I2 hN hi hx r2 (fun s3 I3=>⟨_,H2,I3,q2⟩) hf
 rcases l with⟨hk,hm⟩ |⟨hk,c,hc,hcell⟩
 ·exact wpAny_loadName_local I.ok.kind hk hn hm go
 ·rcases hk with hk |hk
  ·exact wpAny_loadName_cell I.ok.kind hk hc hcell go
  ·rcases hx with k |k
   ·have:X.env.scope.names.lookup x=some .free:=hk;rw[k] at this;cases this
   ·have:X.env.scope.names.lookup x=some .free:=hk;rw[k] at this;cases this
noncomputable def Tv (to ti te:TE) (tget:V->V->Hp->VK->Prop) (tip:RM) (tset:Nn):TS:=fun D σ H=>to σ H fun o H1=>ti σ H1 fun i H2=>tget o i H2 fun x H3=>te σ H3 fun y H4=>tip x y H4 fun z H5=>tset o i z H5 fun H6=>D.nx σ H6
noncomputable def Tw (X:Cx) (t:V->V->Hp->VK->Prop):Prop:=
 ∀(pins:List (Addr×Obj)) (s:Shared) (σ:St) (H:Hp) (o i:V) (ov iv:Value) (Q:VK),Inv X pins σ H s->RelV o ov->RelV i iv->t o i H Q->
  wpAny (model X.prog X.w) X.A (getItem ov iv) (EP X pins σ Q) X.xe s
theorem Fw{o i e:Expr}{to ti te:TE}{tget:V->V->Hp->VK->Prop}{tip:RM}{tset:Nn}{op:Operator}{tpos:Pos}(ho:PE X o to)(hi:PE X i ti)(hg:Tw X tget)(he:PE X e te)(hp:Ts X op tip)(hs:RL X tset)
  (ha:∀ov iv new,augStore i ov iv new=(do holding [new,ov,iv] (setItem ov iv new);release [new,ov,iv] [];pure .next):=by intros;rfl):PS X (.AugAssign (.Subscript o i tpos) op e pos) (Tv to ti te tget tip tset):=by
 intro pins s σ H D I h;refine wpAny_AugAssign_SubscriptAny (ij (ho pins s σ H _ I h) fun ov s1 ⟨x1,H1,I1,r1,q1⟩=> ?_) ha;refine ij (hi pins s1 σ H1 _ I1 q1) fun iv s2 ⟨x2,H2,I2,r2,q2⟩=> ?_
 refine ij (hg pins s2 σ H2 x1 x2 ov iv _ I2 r1 r2 q2) fun old s3 ⟨x3,H3,I3,r3,q3⟩=> ?_
 refine ij (he pins s3 σ H3 _ I3 q3) fun v s4 ⟨x4,H4,I4,r4,q4⟩=> ?_
 refine ij (hp pins s4 σ H4 x3 x4 old v _ I4 r3 r4 q4) fun new s5 ⟨x5,H5,I5,r5,q5⟩=> ?_
 exact ij (hs pins s5 σ H5 x1 x2 x5 ov iv new _ I5 r1 r2 r5 q5) fun _ s6 ⟨H6,I6,q6⟩=>⟨σ,H6,I6,q6⟩
noncomputable def VO (f:Int->Int->Int):RM:=fun x y H Q=>∃i j,x= .int i/\y= .int j/\Q (.int (f i j)) H
theorem Je:Ts X .Add (VO fun i j=>i+j):=by
 intro pins s σ H x y v u Q I r1 r2 h;obtain⟨i,j,e1,e2,q⟩:=h;subst e1;subst e2;obtain⟨t,rfl⟩:=r1;obtain⟨t',rfl⟩:=r2;exact iadd_int ⟨.int _,H,I.tok _,⟨_,rfl⟩,q⟩
theorem Np:Ts X .Sub (VO fun i j=>i - j):=by
 intro pins s σ H x y v u Q I r1 r2 h;obtain⟨i,j,e1,e2,q⟩:=h;subst e1;subst e2;obtain⟨t,rfl⟩:=r1;obtain⟨t',rfl⟩:=r2;exact isub_int ⟨.int _,H,I.tok _,⟨_,rfl⟩,q⟩
end
section
variable {X:Cx}{pos:Pos}
noncomputable def RP (c:TT) (tb:TS):TS:=fun D σ H=>∃W:Nat->St->Hp->Prop,(∃m,W m σ H)/\∀m σ H,W m σ H->
 c σ H fun b H1=>if b=true then ∃N:St->Hp->Prop,(∀σ' H',N σ' H'->∃m',m' <m/\W m' σ' H')/\tb {D with nx:=N,ct:=N,bk:=D.nx} σ H1 else D.nx σ H1
theorem wR{c:Expr}{body:List Stmt}{tc:TT}{tb:TS}(hp:PassesOwn (model X.prog X.w) X.A X.env X.xe)(hc:PT X c tc)(hb:Ja X body tb):PS X (.While c body [] pos) (RP tc tb):=by
 intro pins s σ H D I h;obtain⟨W,⟨m0,w0⟩,turn⟩:=h;refine wpAny_While (codeAny_whileLoop (fun n s'=>∃σ' H',Inv X pins σ' H' s'/\W n σ' H') ?_ m0 ⟨σ,H,I,w0⟩);rintro n s1 ⟨σ1,H1,I1,w1⟩;refine wpAny_passesOwn hp (ij (hc pins s1 σ1 H1 _ I1 (turn n σ1 H1 w1)) fun b s2 ⟨H2,I2,q2⟩=> ?_);cases b with
 |true=>
  obtain⟨N,hN,q2⟩:=q2;rw[ah rfl];refine wpAny_passesOwn hp (ij (hb pins s2 σ1 H2 _ I2 q2) fun f s3 q3=> ?_);cases f with
  |next=>
   obtain⟨σ3,H3,I3,n3⟩:=q3;obtain⟨m',hm,w3⟩:=hN σ3 H3 n3;exact⟨m',hm,σ3,H3,I3,w3⟩
  |cont=>
   obtain⟨σ3,H3,I3,n3⟩:=q3;obtain⟨m',hm,w3⟩:=hN σ3 H3 n3;exact⟨m',hm,σ3,H3,I3,w3⟩
  |brk=>exact q3
  |ret v=>exact q3
 |false=>
  rw[af aM];exact wpAny_execs_nil ⟨σ1,H2,I2,q2⟩
end
structure It where
 go:Nat->Hp->Prop
 S6:Nat->Hp->V->Hp->Prop
 stop:Nat->Hp->Prop
noncomputable def AQ (X:Cx) (pins:List (Addr×Obj)) (H:Hp) (b:Addr):Prop:=
 H b=none/\b≠X.env.locals/\b∉X.fs/\(b∈X.ex\/X.D8.heap.objs.size<=b)/\(∀x c,X.env.cells.lookup x=some c->c≠b)/\∀p∈X.pn ++ pins,p.1≠b
theorem Inv.LP{X:Cx}{pins:List (Addr×Obj)}{σ:St}{H H':Hp}{s:Shared}{b:Addr}(I:Inv X pins σ H s)(hb:s.heap.objs.size<=b)(hn:H' b=none):AQ X pins H' b:=by
 refine⟨hn,Nat.ne_of_gt (aS I.lt hb),I.UQ hb,.inr (aw I.sz hb),fun x c e z=> ?_,fun p hp z=> ?_⟩
 ·obtain⟨v,q⟩:=I.cell x c e;exact absurd (aS q.lt (by rw[z];exact hb)) (bO _)
 ·exact absurd (aS (Heap.lt_size (I.pin p hp).1) (by rw[z];exact hb)) (bO _)
structure Turn(P:Program)(w:World)(K:PySem.W.Frag)(tg:Expr)(J:It)(fp:List Addr)(it:Addr)(tn:Nat->Heap->Prop):Prop where
 mem:it∈fp
 obj:∀i h,tn i h->∀b∈fp,∃o,h.get? b=some o/\∀v,o.data≠.cell v
 keep:∀i h h',tn i h->(∀b∈fp,∀o,h.get? b=some o->h'.get? b=some o)->tn i h'
 item:∀(X:Cx),X.prog=P->X.w=w->X.K=K->X.calm=true->∀(i:Nat) (pins:List (Addr×Obj)) (s:Shared) (σ:St) (H:Hp) (E:Value->Shared->Prop),Inv X pins σ H s->(∀b∈fp,AQ X pins H b)->tn i s.heap->J.go i H->
  wpAny (model P w) X.A (pyNext (.ref it)) (fun r s1=>∃u,r=some u/\
   wpAny (model P w) X.A (letOwnedTupleGo tg (.ref it) u) (fun _ s2=>∃x H',Inv X pins σ H' s2/\RelV x u/\J.S6 i H x H'/\tn (i+1) s2.heap/\∀b∈fp,H' b=none) E s1) E s
 done:∀(X:Cx),X.prog=P->X.w=w->X.K=K->X.calm=true->∀(i:Nat) (pins:List (Addr×Obj)) (s:Shared) (σ:St) (H:Hp) (E:Value->Shared->Prop),Inv X pins σ H s->(∀b∈fp,AQ X pins H b)->tn i s.heap->J.stop i H->
  wpAny (model P w) X.A (pyNext (.ref it)) (fun r s1=>r=none/\Inv X pins σ H s1) E s
 self:∀(A:Around) (i:Nat) (s:Shared) (Q:Value->Shared->Prop) (E:Value->Shared->Prop),tn i s.heap->Q (.ref it) s->wpAny (model P w) A (pyIter (.ref it)) Q E s
noncomputable abbrev TI:=St->Hp->(It->Hp->Prop)->Prop
noncomputable def U0 (X:Cx) (pins:List (Addr×Obj)) (σ:St) (tg:Expr) (R:It->Hp->Prop) (itv:Value) (s2:Shared):Prop:=
 ∃(it:Addr) (fp:List Addr) (tn:Nat->Heap->Prop) (J:It) (H':Hp),itv= .ref it/\Inv X pins σ H' s2/\Turn X.prog X.w X.K tg J fp it tn/\tn 0 s2.heap/\(∀b∈fp,AQ X pins H' b)/\R J H'
noncomputable def PI (X:Cx) (tg iter:Expr) (wi:TI):Prop:=
 ∀(pins:List (Addr×Obj)) (s:Shared) (σ:St) (H:Hp) (R:It->Hp->Prop),Inv X pins σ H s->wi σ H R->
  wpAny (model X.prog X.w) X.A (eval iter X.env) (fun v s1=>wpAny (model X.prog X.w) X.A (pyIter v) (U0 X pins σ tg R) X.xe s1) X.xe s
theorem Kz{M:Model}{A:Around}{E:Value->Shared->Prop}{s:Shared}{tg:Expr}{it:Addr}{u:Value}{o:Obj}{n:String}{vs:Array Value}{Q:Unit->Shared->Prop}(ho:s.heap.get? it=some o)(hc:o.cls= .type n)(hd:o.data= .fields vs)
  (hn:["enumerate","zip","dict_itemiterator","dict_reverseitemiterator","odict_iterator","itertools.zip_longest","itertools.pairwise"].contains n=false) (hQ:Q () s):wpAny M A (letOwnedTupleGo tg (.ref it) u) Q E s:=by
 unfold letOwnedTupleGo;cases tg <;>first
  |exact wpAny_pure hQ
  |(cases u <;>first
    |exact wpAny_pure hQ
    |(refine wpAny_bind (wpAny_load ho ?_)
      rw[hc,hd];show wpAny M A (if(["enumerate","zip","dict_itemiterator","dict_reverseitemiterator","odict_iterator","itertools.zip_longest","itertools.pairwise"].contains n&&vs[0]? ==some (rawInt _))=true then _ else _) Q E s;rw[af (by intro h;rw[hn,Bool.false_and] at h;cases h)];exact wpAny_pure hQ))
noncomputable def U1 (K:PySem.W.Frag) (a:Addr):It:=
 ⟨fun i H=>∃xs x,ly K H a xs/\xs[i]? =some x,fun i H x H'=>H'=H/\∀xs,ly K H a xs->xs[i]? =some x,fun i H=>∃xs,ly K H a xs/\xs.length<=i⟩
noncomputable def Tx (lo:Int) (n:Nat):It:=⟨fun i _=>i<n,fun i H x H'=>H'=H/\x= .int (lo+i),fun i _=>n<=i⟩
theorem LQ{P:Program}{w:World}{K:PySem.W.Frag}{tg:Expr}(a it:Addr):Turn P w K tg (U1 K a) [it] it (fun i h=>h.IsListIter it a i) where
 mem:=by simp
 obj:=fun i h st b hb=>by
  have e:b=it:=by simpa using hb
  subst e;obtain⟨o,e,c,d⟩:=st;exact⟨o,e,fun v z=>by rw[d] at z;cases z⟩
 keep:=fun i h h' st k=>st.at fun o e=>k it (by simp) o e
 item:=by
  intro X hP hw hK hc i pins s σ H E I hf st hg;subst hP hw hK;obtain⟨xs,x,hq,hx⟩:=hg;obtain⟨its,rv,p,hz⟩:=I.list hq;obtain⟨u,hu,ru⟩:=rv.get hx;obtain⟨f0,f1,f2,f3,f4,f5⟩:=hf it (by simp);refine wpAny_pyNext_list_item st p.isList (x:=u) (by simpa using hu) fun h' st' sb=> ?_
  have I1:Inv X pins σ H {s with heap:=h'}:=I.turned (t':=s.toks) (fun b o hb e=>(sb.2 b hb).trans e) f0 f1 f3 f4 f5;obtain⟨o,e,c,d⟩:=id st';exact⟨u,rfl,Kz (s:={s with heap:=h'}) e c d (by decide) ⟨x,H,I1,ru,⟨rfl,fun ys hy=>by rw[I.sY hy hq];exact hx⟩,st',fun b hb=>(hf b hb).1⟩⟩
 done:=by
  intro X hP hw hK hc i pins s σ H E I hf st hg;subst hP hw hK;obtain⟨xs,hq,hx⟩:=hg;obtain⟨its,rv,p,hz⟩:=I.list hq;obtain⟨f0,f1,f2,f3,f4,f5⟩:=hf it (by simp);have hl:=rv.length;exact wpAny_pyNext_list_end (I.ok.hd hc) st p.isList (by simp;lia) fun h' eb=>⟨rfl,I.turned (t':=s.toks) (fun b o hb e=>eb b o hb e) f0 f1 f3 f4 f5⟩
 self:=fun _ _ _ _ _ st h=>wpAny_pyIter_listiter st h
theorem Jf{P:Program}{w:World}{K:PySem.W.Frag}{tg:Expr}(it:Addr)(lo:Int)(n:Nat):Turn P w K tg (Tx lo n) [it] it (fun i h=>IsRangeIter h it (lo+(i:Nat)*1) ((n:Int) - (i:Nat)) 1) where
 mem:=by simp
 obj:=fun i h st b hb=>by
  have e:b=it:=by simpa using hb
  subst e;exact⟨_,st,fun v z=>by
   have z':Data.fields _=Data.cell v:=z;cases z'⟩
 keep:=fun i h h' st k=>k it (by simp) _ st
 item:=by
  intro X hP hw hK hc i pins s σ H E I hf st hg;subst hP hw hK;obtain⟨f0,f1,f2,f3,f4,f5⟩:=hf it (by simp);have W:=Walks.range (prog:=X.prog) (w:=X.w) (I.ok.hd hc) it lo 1 n;refine W.item i s _ _ hg st fun v h' tk hv st' kk=> ?_
  obtain⟨t,rfl⟩:=hv;have I1:Inv X pins σ H {s with heap:=h',toks:=tk}:=I.turned (fun b o hb e=>kk b o (by simpa using hb) e) f0 f1 f3 f4 f5;refine⟨_,rfl,Kz (s:={s with heap:=h',toks:=tk}) (n:="range_iterator") st' rfl rfl (by decide) ⟨.int (lo+i),H,I1,⟨t,?_⟩,⟨rfl,rfl⟩,st',fun b hb=>(hf b hb).1⟩⟩;rw[Int.mul_one]
 done:=by
  intro X hP hw hK hc i pins s σ H E I hf st hg;subst hP hw hK;obtain⟨f0,f1,f2,f3,f4,f5⟩:=hf it (by simp);exact wpAny_pyNext_range_end (I.ok.hd hc) st (by have:n<=i:=hg;lia) fun h' eb=>⟨rfl,I.turned (t':=s.toks) (fun b o hb e=>eb b o hb e) f0 f1 f3 f4 f5⟩
 self:=fun _ _ _ _ _ st h=>wpAny_pyIter_rangeiter st h
section
variable {X:Cx}{tg:Expr}
noncomputable def Tz (K:PySem.W.Frag) (tl:TE):TI:=fun σ H R=>tl σ H fun x H1=>∃a,x= .ref a/\(∃xs,ly K H1 a xs)/\R (U1 K a) H1
theorem fu{l:Expr}{tl:TE}(hl:PE X l tl):PI X tg l (Tz X.K tl):=by
 intro pins s σ H R I h;refine ij (hl pins s σ H _ I h) fun v s1 ⟨x,H1,I1,r1,q1⟩=> ?_
 obtain⟨a,e,⟨xs,hq⟩,q⟩:=q1;subst e;cases r1
 obtain⟨its,rv,p,hz⟩:=I1.list hq;refine wpAny_pyIter_list p.isList ?_;refine⟨s1.heap.objs.size,[s1.heap.objs.size],_,_,H1,rfl,I1.kept (t':=s1.toks) fun b o e=>Heap.get?_push_of_some _ e,LQ a _,⟨_,Heap.get?_push_size _ rfl,rfl,rfl⟩,fun b hb=> ?_,q⟩;have e:b=s1.heap.objs.size:=by simpa using hb
 subst e;exact I1.LP (ai _) (I1.iI.fresh (ai _))
theorem G7{pins:List (Addr×Obj)}{σ:St}{H:Hp}{s:Shared}{R:It->Hp->Prop}{E:Value->Shared->Prop}{lo hi:Int}{t u v:Tok}{tk:Nat}(I:Inv X pins σ H s)(h1: -(2^62)<=lo)(h2:lo<2^62)(h3: -(2^62)<=hi)(h4:hi<2^62)
  (q:R (Tx lo (hi - lo).toNat) H):wpAny (model X.prog X.w) X.A (pyIter (.ref s.heap.objs.size)) (U0 X pins σ tg R) E {s with heap:=s.heap.push {cls:= .type "range",data:= .fields #[.int lo t,.int hi u,.int 1 v]},toks:=tk}:=by
 refine wpAny_pyIter_range (IsRange.new ..) (small_one h1 h2 h3 h4) ?_;have I1:Inv X pins σ H {s with heap:=s.heap.push {cls:= .type "range",data:= .fields #[.int lo t,.int hi u,.int 1 v]},toks:=tk}:=I.kept fun b o e=>Heap.get?_push_of_some _ e
 refine⟨(s.heap.push {cls:= .type "range",data:= .fields #[.int lo t,.int hi u,.int 1 v]}).objs.size,[(s.heap.push {cls:= .type "range",data:= .fields #[.int lo t,.int hi u,.int 1 v]}).objs.size],_,_,H,rfl,
  I1.kept (t':=tk) fun b o e=>Heap.get?_push_of_some _ e,Jf _ lo (hi - lo).toNat,?_,fun b hb=> ?_,q⟩
 ·have e1:lo+((0:Nat):Int)*1=lo:=by simp
  have e2:(((hi - lo).toNat:Nat):Int) - ((0:Nat):Int)=Builtin.Range.rangeSize lo hi 1:=by rw[rangeSize_one];split <;>lia
  show IsRangeIter _ _ (lo+((0:Nat):Int)*1) ((((hi - lo).toNat:Nat):Int) - ((0:Nat):Int)) 1;rw[e1,e2];exact Heap.get?_push_size _ rfl
 ·have e:b=(s.heap.push {cls:= .type "range",data:= .fields #[.int lo t,.int hi u,.int 1 v]}).objs.size:=by simpa using hb
  subst e;exact I1.LP (ai _) (I1.iI.fresh (ai _))
noncomputable def TC (ta:TA):TI:=fun σ H R=>ta σ H fun vs H1=>∃j:Int,vs=[.int j]/\-(2^62)<=j/\j<2^62/\R (Tx 0 j.toNat) H1
noncomputable def TF (ta:TA):TI:=fun σ H R=>ta σ H fun vs H1=>∃i j:Int,vs=[.int i,.int j]/\(-(2^62)<=i/\i<2^62/\-(2^62)<=j/\j<2^62)/\R (Tx i (j - i).toNat) H1
theorem nM{a:Expr}{ta:TA}{p pos:Pos}(hg:Gl X "range")(hm:X.mg "range"=none)(ha:PA X [a] ta)(hs:starEach [a] X.env=[(false,eval a X.env)]:=by rfl):PI X tg (.Call (.Name "range" p) [a] [] pos) (TC ta):=by
 intro pins s σ H R I h;refine Call_ (sX I hg hm boot_range (br (ij (ha pos pins s σ H _ I h) fun us s1 ⟨vs,H1,I1,r1,q1⟩=> ?_) hs rfl));obtain⟨j,e,q1,q2,q⟩:=q1;subst e;cases r1 with
 |cons r rr=>
  cases rr
  obtain⟨t,rfl⟩:=r;exact call_range_1 (G7 I1 (by lia) (by lia) q1 q2 (by simpa using q))
theorem Eb{a b:Expr}{ta:TA}{p pos:Pos}(hg:Gl X "range")(hm:X.mg "range"=none)(ha:PA X [a,b] ta)(hs:starEach [a,b] X.env=[(false,eval a X.env),(false,eval b X.env)]:=by rfl)(hs2:starEach [b] X.env=[(false,eval b X.env)]:=by rfl):
  PI X tg (.Call (.Name "range" p) [a,b] [] pos) (TF ta):=by
 intro pins s σ H R I h;refine Call_ (sX I hg hm boot_range (br (ij (ha pos pins s σ H _ I h) fun us s1 ⟨vs,H1,I1,r1,q1⟩=> ?_) (by rw[hs,hs2]) (by rw[hs2];rfl)));obtain⟨i,j,e,⟨q1,q2,q3,q4⟩,q⟩:=q1;subst e;cases r1 with
 |cons r rr=>
  cases rr with
  |cons r' rr=>
   cases rr
   obtain⟨t,rfl⟩:=r;obtain⟨t',rfl⟩:=r';exact call_range_2 (G7 I1 q1 q2 q3 q4 q)
noncomputable def U2 (wi:TI) (g:TG) (tb:TS):TS:=fun D σ H=>wi σ H fun J H1=>∃W:Nat->Nat->St->Hp->Prop,(∃m,W 0 m σ H1)/\∀i m σ H,W i m σ H->
 (J.stop i H/\D.nx σ H)\/(J.go i H/\∃N:St->Hp->Prop,(∀σ' H',N σ' H'->∃m',m' <m/\W (i+1) m' σ' H')/\∀x H',J.S6 i H x H'->g x σ H' fun σ2 H2=>tb {D with nx:=N,ct:=N,bk:=D.nx} σ2 H2)
noncomputable def BC (fp:List Addr) (h:Heap):List (Addr×Obj):=fp.filterMap fun b=>(h.get? b).map fun o=>(b,o)
theorem vC{fp:List Addr}{h:Heap}{b:Addr}{o:Obj}(hb:b∈fp)(e:h.get? b=some o):(b,o)∈BC fp h:=List.mem_filterMap.mpr ⟨b,hb,by rw[e];rfl⟩
theorem LR{fp:List Addr}{h:Heap}{p:Addr×Obj}(hp:p∈BC fp h):p.1∈fp/\h.get? p.1=some p.2:=by
 obtain⟨b,hb,e⟩:=List.mem_filterMap.mp hp;cases q:h.get? b with
 |none=>rw[q] at e;cases e
 |some o=>
  rw[q] at e;have e':(b,o)=p:=aX e;subst e';exact⟨hb,q⟩
theorem Inv.pinned{pins:List (Addr×Obj)}{σ:St}{H:Hp}{s:Shared}{fp:List Addr}(I:Inv X pins σ H s)(hf:∀b∈fp,AQ X pins H b)(ho:∀b∈fp,∃o,s.heap.get? b=some o/\∀v,o.data≠.cell v):Inv X (pins ++ BC fp s.heap) σ H s:=
 I.Kx fun p hp=>(aK.mp hp).elim (fun z=>I.pin p (bo _ z)) fun z=>by
  obtain⟨hb,e⟩:=LR z;obtain⟨f0,f1,f2,_⟩:=hf p.1 hb;obtain⟨o,e',d⟩:=ho p.1 hb;rw[e] at e';cases e'
  exact⟨e,f0,f1,f2,d⟩
theorem Inv.wU{pins pl:List (Addr×Obj)}{σ:St}{H:Hp}{s:Shared}(I:Inv X (pins ++ pl) σ H s):Inv X pins σ H s:=I.Kx fun p hp=>I.pin p (bo _ (cO _ hp))
theorem gW{iter:Expr}{body:List Stmt}{wi:TI}{g:TG}{tb:TS}{pos:Pos}(hp:PassesOwn (model X.prog X.w) X.A X.env X.xe)(hc:X.calm=true)(hi:PI X tg iter wi)(hg:PG X tg g)(hb:Ja X body tb)
  (hs:∀x,foldedSetIterable iter X.env x=pure x:=by intro _;rfl):PS X (.For tg iter body [] pos) (U2 wi g tb):=by
 intro pins s σ H D I h;refine wpAny_For (ij (hi pins s σ H _ I h) fun v s1 h1=>ij h1 fun itv s2 h2=> ?_) hs;obtain⟨it,fp,tn,J,H2,e,I2,T,st2,f2,W,⟨m0,w0⟩,turn⟩:=h2;subst e;have stat:∀{H':Hp},(∀b∈fp,H' b=none)->∀b∈fp,AQ X pins H' b:=fun hn b hb=>⟨hn b hb,(f2 b hb).2⟩
 refine codeAny_forLoop_any (fun n s'=>∃i σ' H',Inv X pins σ' H' s'/\tn i s'.heap/\(∀b∈fp,H' b=none)/\W i n σ' H') ?_ m0 ⟨0,σ,H2,I2,st2,fun b hb=>(f2 b hb).1,w0⟩;rintro n s3 ⟨i,σ3,H3,I3,st3,fr3,w3⟩;rcases turn i n σ3 H3 w3 with⟨stop,qn⟩ |⟨go,N,hN,step⟩
 ·refine wpAny_passesOwn hp (ij (T.done X rfl rfl rfl hc i pins s3 σ3 H3 X.xe I3 (stat fr3) st3 stop) fun r s4 ⟨hr,I4⟩=> ?_);subst hr;exact wpAny_execs_nil ⟨σ3,H3,I4,qn⟩
 ·refine wpAny_passesOwn hp (ij (T.item X rfl rfl rfl hc i pins s3 σ3 H3 X.xe I3 (stat fr3) st3 go) fun r s4 ⟨u,hr,h4⟩=> ?_);subst hr;refine wpAny_passesOwn hp (ij h4 fun _ s5 ⟨x,H5,I5,r5,y5,st5,fr5⟩=> ?_);have I5':=I5.pinned (stat fr5) (T.obj _ _ st5);refine wpAny_passesOwn hp (ij (hg _ s5 σ3 H5 x u _ I5' r5 (step x H5 y5)) fun _ s6 ⟨σ6,H6,I6,q6⟩=> ?_);refine wpAny_passesOwn hp (ij (hb _ s6 σ6 H6 _ I6 q6) fun f s7 q7=> ?_);have again:∀{σ7:St} {H7:Hp},Inv X (pins ++ BC fp s5.heap) σ7 H7 s7->N σ7 H7->∃m,m<n/\∃i σ' H',Inv X pins σ' H' s7/\tn i s7.heap/\(∀b∈fp,H' b=none)/\W i m σ' H':=fun{σ7 H7} I7 n7=>by
   obtain⟨m',hm,w7⟩:=hN σ7 H7 n7;refine⟨m',hm,i+1,σ7,H7,I7.wU,T.keep _ _ _ st5 fun b hb o e=>(I7.pin (b,o) (bo _ (bo _ (vC hb e)))).1,fun b hb=> ?_,w7⟩;obtain⟨o,e,d⟩:=T.obj _ _ st5 b hb;exact(I7.pin (b,o) (bo _ (bo _ (vC hb e)))).2.1
  cases f with
  |next=>obtain⟨σ7,H7,I7,n7⟩:=q7;exact again I7 n7
  |cont=>obtain⟨σ7,H7,I7,n7⟩:=q7;exact again I7 n7
  |brk=>obtain⟨σ7,H7,I7,q7⟩:=q7;exact⟨σ7,H7,I7.wU,q7⟩
  |ret v=>obtain⟨x7,σ7,H7,I7,r7,q7⟩:=q7;exact⟨x7,σ7,H7,I7.wU,r7,q7⟩
end
noncomputable abbrev R2:=V->V->Hp->VK->Prop
noncomputable def wV (X:Cx) (f:Value->Value->Sem Value) (r:R2):Prop:=
 ∀(pins:List (Addr×Obj)) (s:Shared) (σ:St) (H:Hp) (x y:V) (v u:Value) (Q:VK),Inv X pins σ H s->RelV x v->RelV y u->r x y H Q->
  wpAny (model X.prog X.w) X.A (f v u) (EP X pins σ Q) X.xe s
noncomputable def U3 (X:Cx) (f:Value->Sem Value) (r:V->Hp->VK->Prop):Prop:=
 ∀(pins:List (Addr×Obj)) (s:Shared) (σ:St) (H:Hp) (x:V) (v:Value) (Q:VK),Inv X pins σ H s->RelV x v->r x H Q->
  wpAny (model X.prog X.w) X.A (f v) (EP X pins σ Q) X.xe s
noncomputable def mI (X:Cx) (f:Value) (r:List V->Hp->VK->Prop):Prop:=
 ∀(pins:List (Addr×Obj)) (s:Shared) (σ:St) (H:Hp) (xs:List V) (us:List Value) (Q:VK),Inv X pins σ H s->Vals xs us->r xs H Q->
  wpAny (model X.prog X.w) X.A (call f us) (EP X pins σ Q) X.xe s
noncomputable def U4 (X:Cx) (r:V->Hp->(Bool->Hp->Prop)->Prop):Prop:=
 ∀(pins:List (Addr×Obj)) (s:Shared) (σ:St) (H:Hp) (x:V) (v:Value) (Q:Bool->Hp->Prop),Inv X pins σ H s->RelV x v->r x H Q->
  wpAny (model X.prog X.w) X.A (truthy v) (TP X pins σ Q) X.xe s
noncomputable def Rb (r:R2) (ta tb:TE):TE:=fun σ H Q=>ta σ H fun x H1=>tb σ H1 fun y H2=>r x y H2 Q
noncomputable def VP (r:V->Hp->VK->Prop) (ta:TE):TE:=fun σ H Q=>ta σ H fun x H1=>r x H1 Q
noncomputable def rI (C:Int->Int->Prop) (g:Int->Int->V):R2:=fun x y H Q=>∃i j,x= .int i/\y= .int j/\C i j/\Q (g i j) H
noncomputable def PB (g:Int->Int->V):R2:=fun x y H Q=>∃i j,x= .int i/\y= .int j/\Q (g i j) H
noncomputable def rU (g:Int->V):V->Hp->VK->Prop:=fun x H Q=>∃i,x= .int i/\Q (g i) H
section
variable {X:Cx}{a b c:Expr}{ta tb tc:TE}{pos:Pos}
theorem RQ(ha:PE X a ta)(hb:PE X b tb){pins:List (Addr×Obj)}{s:Shared}{σ:St}{H:Hp}{R:V->V->Hp->Prop}(I:Inv X pins σ H s)
  (h:ta σ H fun x H1=>tb σ H1 fun y H2=>R x y H2) {Q:Value->Shared->Prop} {f:Value->Value->Sem Value}
  (hf:∀v u s2 x y H2,Inv X pins σ H2 s2->RelV x v->RelV y u->R x y H2->wpAny (model X.prog X.w) X.A (f v u) Q X.xe s2):
  wpAny (model X.prog X.w) X.A (eval a X.env) (fun v s₁=>wpAny (model X.prog X.w) X.A (eval b X.env) (fun u s₂=>wpAny (model X.prog X.w) X.A (f v u) Q X.xe s₂) X.xe s₁) X.xe s:=by
 refine ij (ha pins s σ H _ I h) fun v s1 ⟨x,H1,I1,r1,q1⟩=> ?_
 refine ij (hb pins s1 σ H1 _ I1 q1) fun u s2 ⟨y,H2,I2,r2,q2⟩=> ?_
 exact hf v u s2 x y H2 I2 r1 r2 q2
theorem eO{op:Operator}{r:R2}(ho:wV X (binaryOp op) r)(ha:PE X a ta)(hb:PE X b tb):PE X (.BinOp a op b pos) (Rb r ta tb):=by
 intro pins s σ H Q I h;exact wpAny_BinOp (RQ ha hb I h fun v u s2 x y H2 I2 rx ry q=>ho pins s2 σ H2 x y v u Q I2 rx ry q)
theorem jQ{op:UnaryOp}{r:V->Hp->VK->Prop}(ho:U3 X (unaryOp op) r)(ha:PE X a ta):PE X (.UnaryOp op a pos) (VP r ta):=by
 intro pins s σ H Q I h;exact UnaryOp_ (ij (ha pins s σ H _ I h) fun v s1 ⟨x,H1,I1,r1,q1⟩=>ho pins s1 σ H1 x v Q I1 r1 q1)
theorem U5{f:Value->Value->Sem Value}{C:Int->Int->Prop}{g:Int->Int->Int}
  (rule:∀(i j:Int) (t u:Tok) (s:Shared) (Q:Value->Shared->Prop) (E:Value->Shared->Prop),C i j->Q (.int (g i j) s.toks) {s with toks:=s.toks+1}->wpAny (model X.prog X.w) X.A (f (.int i t) (.int j u)) Q E s):
  wV X f (rI C fun i j=> .int (g i j)):=by
 intro pins s σ H x y v u Q I rx ry h;obtain⟨i,j,rfl,rfl,hc,q⟩:=h;obtain⟨t,rfl⟩:=rx;obtain⟨t',rfl⟩:=ry;exact rule i j t t' s _ _ hc ⟨.int (g i j),H,I.tok _,⟨_,rfl⟩,q⟩
theorem TH{f:Value->Value->Sem Value}{g:Int->Int->Int}
  (rule:∀(i j:Int) (t u:Tok) (s:Shared) (Q:Value->Shared->Prop) (E:Value->Shared->Prop),Q (.int (g i j) s.toks) {s with toks:=s.toks+1}->wpAny (model X.prog X.w) X.A (f (.int i t) (.int j u)) Q E s):
  wV X f (PB fun i j=> .int (g i j)):=by
 intro pins s σ H x y v u Q I rx ry h;obtain⟨i,j,rfl,rfl,q⟩:=h;obtain⟨t,rfl⟩:=rx;obtain⟨t',rfl⟩:=ry;exact rule i j t t' s _ _ ⟨.int (g i j),H,I.tok _,⟨_,rfl⟩,q⟩
theorem PU{f:Value->Value->Sem Value}{g:Int->Int->Bool}
  (rule:∀(i j:Int) (t u:Tok) (s:Shared) (Q:Value->Shared->Prop) (E:Value->Shared->Prop),Q (.bool (g i j)) s->wpAny (model X.prog X.w) X.A (f (.int i t) (.int j u)) Q E s):
  wV X f (PB fun i j=> .bl (g i j)):=by
 intro pins s σ H x y v u Q I rx ry h;obtain⟨i,j,rfl,rfl,q⟩:=h;obtain⟨t,rfl⟩:=rx;obtain⟨t',rfl⟩:=ry;exact rule i j t t' s _ _ ⟨.bl (g i j),H,I,rfl,q⟩
theorem jM:wV X (binaryOp .Add) (PB fun i j=> .int (i+j)):=TH fun _ _ _ _ _ _ _ q=>add_int q
theorem nX:wV X (binaryOp .Sub) (PB fun i j=> .int (i - j)):=TH fun _ _ _ _ _ _ _ q=>sub_int q
theorem Nq:wV X (binaryOp .Mod) (rI (fun _ j=>0<j) fun i j=> .int (i % j)):=U5 fun i j _ _ _ _ _ hc q=>by
 have h1:(0:Int)<j:=hc;exact mod_int' (by lia) (by rw[Int.fmod_eq_emod_of_nonneg i (by lia)];exact q)
theorem V2{f:Value->Sem Value}{g:Int->Int}
  (rule:∀(i:Int) (t:Tok) (s:Shared) (Q:Value->Shared->Prop) (E:Value->Shared->Prop),Q (.int (g i) s.toks) {s with toks:=s.toks+1}->wpAny (model X.prog X.w) X.A (f (.int i t)) Q E s):
  U3 X f (rU fun i=> .int (g i)):=by
 intro pins s σ H x v Q I rx h;obtain⟨i,rfl,q⟩:=h;obtain⟨t,rfl⟩:=rx;exact rule i t s _ _ ⟨.int (g i),H,I.tok _,⟨_,rfl⟩,q⟩
theorem ic:U3 X (unaryOp .USub) (rU fun i=> .int (-i)):=V2 fun _ _ _ _ _ q=>neg_int q
end
noncomputable def TJ:V->V->Bool
 | .jP,.jP=>true | .jP,.int _=>true | .int _,.jP=>true | .jP,.bl _=>true | .bl _,.jP=>true | .jP,.str _=>true | .str _,.jP=>true
 | .int _,.int _=>true | .bl _,.bl _=>true | .str _,.str _=>true | .Fm _,.Fm _=>true
 | .int _,.str _=>true | .str _,.int _=>true | .bl _,.str _=>true | .str _,.bl _=>true
 |_,_=>false
noncomputable def V3:R2:=fun x y H Q=>TJ x y=true/\Q (.bl (decide (x=y))) H
noncomputable def V4:R2:=fun x y H Q=>TJ x y=true/\Q (.bl (!decide (x=y))) H
theorem KA{i j:Int}:decide (V.int i=V.int j)=(i==j):=by
 rw[a6];simp
theorem Nr{i j:Bool}:decide (V.bl i=V.bl j)=(i==j):=by
 rw[a6];simp
theorem KC{i j:Str}:decide (V.str i=V.str j)=(i==j):=by
 rw[a6];simp
theorem KD{i j:Array UInt8}:decide (V.Fm i=V.Fm j)=(i.toList==j.toList):=by
 rw[a6];cases i
 cases j
 simp
section
variable {X:Cx}{a b c:Expr}{ta tb tc:TE}{pos:Pos}
theorem fK{pins:List (Addr×Obj)}{σ:St}{H:Hp}{s:Shared}{Q:VK}{k k':Bool}(I:Inv X pins σ H s)(q:Q (.bl k) H)(e:k=k'):EP X pins σ Q (.bool k') s:=by
 subst e;exact⟨.bl k,H,I,rfl,q⟩
theorem iV:wV X (compareOp .Eq) V3:=by
 intro pins s σ H x y v u Q I rx ry h;obtain⟨hs,q⟩:=h;cases x with
 |jP=>
  cases rx
  cases y with
  |jP=>cases ry;exact PySem.EqNone.eq_none_none (fK I q (by simp))
  |bl j=>cases ry;exact PySem.EqNone.eq_none_bool (fK I q (by simp))
  |int j=>obtain⟨t',rfl⟩:=ry;exact PySem.EqNone.eq_none_int (fK I q (by simp))
  |str j=>obtain⟨t',rfl⟩:=ry;exact PySem.EqNone.eq_none_str (fK I q (by simp))
  |_=>exact absurd (show false=true from hs) aM
 |bl i=>
  cases rx
  cases y with
  |jP=>cases ry;exact PySem.EqNone.eq_bool_none (fK I q (by simp))
  |bl j=>cases ry;exact eq_bool (fK I q Nr)
  |str j=>obtain⟨t',rfl⟩:=ry;exact PySem.EqMixed.eq_bool_str (fK I q (by simp))
  |_=>exact absurd (show false=true from hs) aM
 |int i=>
  obtain⟨t,rfl⟩:=rx;cases y with
  |jP=>cases ry;exact PySem.EqNone.eq_int_none (fK I q (by simp))
  |int j=>obtain⟨t',rfl⟩:=ry;exact eq_int (fK I q KA)
  |str j=>obtain⟨t',rfl⟩:=ry;exact PySem.EqMixed.eq_int_str (fK I q (by simp))
  |_=>exact absurd (show false=true from hs) aM
 |str i=>
  obtain⟨t,rfl⟩:=rx;cases y with
  |jP=>cases ry;exact PySem.EqNone.eq_str_none (fK I q (by simp))
  |bl j=>cases ry;exact PySem.EqMixed.eq_str_bool (fK I q (by simp))
  |int j=>obtain⟨t',rfl⟩:=ry;exact PySem.EqMixed.eq_str_int (fK I q (by simp))
  |str j=>obtain⟨t',rfl⟩:=ry;exact eq_str (fK I q KC)
  |_=>exact absurd (show false=true from hs) aM
 |Fm i=>
  obtain⟨t,rfl⟩:=rx;cases y with
  |Fm j=>obtain⟨t',rfl⟩:=ry;exact PySem.W.eq_bytes (fK I q KD)
  |_=>exact absurd (show false=true from hs) aM
 |_=>cases y <;>exact absurd (show false=true from hs) aM
theorem Ae:wV X (compareOp .NotEq) V4:=by
 intro pins s σ H x y v u Q I rx ry h;obtain⟨hs,q⟩:=h;cases x with
 |jP=>
  cases rx
  cases y with
  |jP=>cases ry;exact PySem.EqNone.ne_none_none (fK I q (by simp))
  |bl j=>cases ry;exact PySem.EqNone.ne_none_bool (fK I q (by simp))
  |int j=>obtain⟨t',rfl⟩:=ry;exact PySem.EqNone.ne_none_int (fK I q (by simp))
  |str j=>obtain⟨t',rfl⟩:=ry;exact PySem.EqNone.ne_none_str (fK I q (by simp))
  |_=>exact absurd (show false=true from hs) aM
 |bl i=>
  cases rx
  cases y with
  |jP=>cases ry;exact PySem.EqNone.ne_bool_none (fK I q (by simp))
  |bl j=>cases ry;exact ne_bool (fK I q (congrArg not Nr))
  |str j=>obtain⟨t',rfl⟩:=ry;exact PySem.EqMixed.ne_bool_str (fK I q (by simp))
  |_=>exact absurd (show false=true from hs) aM
 |int i=>
  obtain⟨t,rfl⟩:=rx;cases y with
  |jP=>cases ry;exact PySem.EqNone.ne_int_none (fK I q (by simp))
  |int j=>obtain⟨t',rfl⟩:=ry;exact ne_int (fK I q (congrArg not KA))
  |str j=>obtain⟨t',rfl⟩:=ry;exact PySem.EqMixed.ne_int_str (fK I q (by simp))
  |_=>exact absurd (show false=true from hs) aM
 |str i=>
  obtain⟨t,rfl⟩:=rx;cases y with
  |jP=>cases ry;exact PySem.EqNone.ne_str_none (fK I q (by simp))
  |bl j=>cases ry;exact PySem.EqMixed.ne_str_bool (fK I q (by simp))
  |int j=>obtain⟨t',rfl⟩:=ry;exact PySem.EqMixed.ne_str_int (fK I q (by simp))
  |str j=>obtain⟨t',rfl⟩:=ry;exact ne_str (fK I q (congrArg not KC))
  |_=>exact absurd (show false=true from hs) aM
 |Fm i=>
  obtain⟨t,rfl⟩:=rx;cases y with
  |Fm j=>obtain⟨t',rfl⟩:=ry;exact PySem.W.ne_bytes (fK I q (congrArg not KD))
  |_=>exact absurd (show false=true from hs) aM
 |_=>cases y <;>exact absurd (show false=true from hs) aM
theorem Nt:wV X (compareOp .Lt) (PB fun i j=> .bl (decide (i<j))):=PU fun _ _ _ _ _ _ _ q=>lt_int q
theorem tj:wV X (compareOp .LtE) (PB fun i j=> .bl (decide (i<=j))):=PU fun _ _ _ _ _ _ _ q=>le_int q
theorem vm:wV X (compareOp .Gt) (PB fun i j=> .bl (decide (j<i))):=PU fun _ _ _ _ _ _ _ q=>gt_int q
theorem Nu:wV X (compareOp .GtE) (PB fun i j=> .bl (decide (j<=i))):=PU fun _ _ _ _ _ _ _ q=>ge_int q
theorem eF(b:Expr){op:CmpOp}(h:op≠.In:=by decide)(h2:op≠.NotIn:=by decide):behindInMarks op b=false:=by
 have e1:(op==CmpOp.In)=false:=by cases op <;>first |rfl |exact absurd rfl h
 have e2:(op==CmpOp.NotIn)=false:=by cases op <;>first |rfl |exact absurd rfl h2
 cases b <;>simp[behindInMarks,e1,e2]
theorem hW{op:CmpOp}{r:R2}(ho:wV X (compareOp op) r)(ha:PE X a ta)(hb:PE X b tb)(hm:behindInMarks op b=false):PE X (.Compare a [op] [b] pos) (Rb r ta tb):=by
 intro pins s σ H Q I h;exact wpAny_Compare1 (RQ ha hb I h fun v u s2 x y H2 I2 rx ry q=>ho pins s2 σ H2 x y v u Q I2 rx ry q) hm
noncomputable def Nv (t:TE):TT:=fun σ H Q=>t σ H fun x H'=>∃k,x= .bl k/\Q k H'
theorem eJ{op:CmpOp}{r:R2}(ho:wV X (compareOp op) r)(ha:PE X a ta)(hb:PE X b tb)(hm:behindInMarks op b=false):PT X (.Compare a [op] [b] pos) (Nv (Rb r ta tb)):=by
 intro pins s σ H Q I h;refine wpAny_isTrue_Compare1 (ij (ha pins s σ H _ I h) fun v s1 ⟨x,H1,I1,r1,q1⟩=>ij (hb pins s1 σ H1 _ I1 q1) fun u s2 ⟨y,H2,I2,r2,q2⟩=>
  ij (ho pins s2 σ H2 x y v u _ I2 r1 r2 q2) fun c s3 ⟨z,H3,I3,r3,k,e,q3⟩=> ?_) hm
 subst e;cases r3
 exact wpAny_truthy_bool ⟨H3,I3,q3⟩
noncomputable def Ny (r r':R2) (ta tb tc:TE):TE:=fun σ H Q=>ta σ H fun x H1=>tb σ H1 fun y H2=>r x y H2 fun z H3=>∃k,z= .bl k/\
 (if k=true then tc σ H3 fun w' H4=>r' y w' H4 Q else Q (.bl false) H3)
theorem G8{op op':CmpOp}{r r':R2}(ho:wV X (compareOp op) r)(ho':wV X (compareOp op') r')(ha:PE X a ta)(hb:PE X b tb)(hc:PE X c tc)
  (hm:lastMarks [op,op'] [b,c]=false:=by with_unfolding_all rfl):PE X (.Compare a [op,op'] [b,c] pos) (Ny r r' ta tb tc):=by
 intro pins s σ H Q I h;refine Compare_chain (ij (ha pins s σ H _ I h) fun v s1 ⟨x,H1,I1,r1,q1⟩=>chain_link (ij (hb pins s1 σ H1 _ I1 q1) fun u s2 ⟨y,H2,I2,r2,q2⟩=>
  ij (ho pins s2 σ H2 x y v u _ I2 r1 r2 q2) fun d s3 ⟨z,H3,I3,r3,k,e,q3⟩=> ?_)) hm
 subst e;cases r3
 refine wpAny_truthy_bool ?_;cases k with
 |false=>exact ite_ff ⟨.bl false,H3,I3,rfl,q3⟩
 |true=>exact ite_tt (chain_last (ij (hc pins s3 σ H3 _ I3 q3) fun w' s4 ⟨z',H4,I4,r4,q4⟩=>ho' pins s4 σ H4 y z' u w' Q I4 r2 r4 q4))
theorem G9{op op':CmpOp}{r r':R2}(ho:wV X (compareOp op) r)(ho':wV X (compareOp op') r')(ha:PE X a ta)(hb:PE X b tb)(hc:PE X c tc)
  (hm:lastMarks [op,op'] [b,c]=false:=by with_unfolding_all rfl):PT X (.Compare a [op,op'] [b,c] pos) (Nv (Ny r r' ta tb tc)):=by
 intro pins s σ H Q I h;refine isTrue_chain (ij (ha pins s σ H _ I h) fun v s1 ⟨x,H1,I1,r1,q1⟩=>test_link (ij (hb pins s1 σ H1 _ I1 q1) fun u s2 ⟨y,H2,I2,r2,q2⟩=>
  ij (ho pins s2 σ H2 x y v u _ I2 r1 r2 q2) fun d s3 ⟨z,H3,I3,r3,k,e,q3⟩=> ?_)) hm
 subst e;cases r3
 refine wpAny_truthy_bool ?_;cases k with
 |false=>
  obtain⟨k',e',q'⟩:=q3;cases e'
  exact ite_ff ⟨H3,I3,q'⟩
 |true=>
  refine ite_tt (test_last (ij (hc pins s3 σ H3 _ I3 q3) fun w' s4 ⟨z',H4,I4,r4,q4⟩=>ij (ho' pins s4 σ H4 y z' u w' _ I4 r2 r4 q4) fun d' s5 ⟨z2,H5,I5,r5,k2,e2,q5⟩=> ?_));subst e2;cases r5
  exact wpAny_truthy_bool ⟨H5,I5,q5⟩
noncomputable def PV (K:PySem.W.Frag) (x:V) (H:Hp) (k:Bool):Prop:=
 match x with
 | .jP=>k=false
 | .bl b=>k=b
 | .int i=>k=(i !=0)
 | .str y=>y.length<=sizeLine/\k=((y.length:Int) !=0)
 | .Fm y=>y.size<=sizeLine/\k=((y.size:Int) !=0)
 | .ref p=>(∃xs,ly K H p xs/\k= !xs.isEmpty)\/(∃xs,Du K H p xs/\k= !xs.isEmpty)\/∃kvs,H p=some (.dK kvs)/\k= !kvs.isEmpty
 |_=>False
theorem Jg{κ:Type}{kvs:List (κ×V)}{vs:List (κ×Value)}(r:KV kvs vs):(!vs.isEmpty)= !kvs.isEmpty:=by
 cases r <;>rfl
theorem BD{xs:List V}{its:List Value}(r:Vals xs its):(!its.toArray.isEmpty)= !xs.isEmpty:=by
 cases r <;>simp
theorem yL:(sizeLine:Nat)<2^63:=by rw[sizeLine_eq];decide
theorem RR:U4 X (fun x H Q=>∃k,PV X.K x H k/\Q k H):=by
 intro pins s σ H x v Q I rx h;obtain⟨k,e,q⟩:=h;have hl:=yL;have hs:sizeLine=16777216:=sizeLine_eq;cases x with
 |jP=>
  cases rx
  have e':k=false:=e;subst e';exact truthy_none ⟨H,I,q⟩
 |bl b=>
  cases rx
  have e':k=b:=e;subst e';exact wpAny_truthy_bool ⟨H,I,q⟩
 |int i=>
  obtain⟨t,rfl⟩:=rx;have e':k=(i !=0):=e;subst e';exact PySem.P.truthy_int ⟨H,I,q⟩
 |str y=>
  obtain⟨t,rfl⟩:=rx;obtain⟨hy,e'⟩:y.length<=sizeLine/\k=((y.length:Int) !=0):=e;subst e';exact PySem.P.truthy_str (by lia) ⟨H,I.tok _,q⟩
 |Fm y=>
  obtain⟨t,rfl⟩:=rx;obtain⟨hy,e'⟩:y.size<=sizeLine/\k=((y.size:Int) !=0):=e;subst e';exact PySem.W.truthy_bytes (by lia) ⟨H,I.tok _,q⟩
 |ref p=>
  cases rx
  have e':(∃xs,ly X.K H p xs/\k= !xs.isEmpty)\/(∃xs,Du X.K H p xs/\k= !xs.isEmpty)\/∃kvs,H p=some (.dK kvs)/\k= !kvs.isEmpty:=e;rcases e' with⟨xs,hx,e'⟩ |⟨xs,hx,e'⟩ |⟨kvs,hx,e'⟩
  ·subst e';obtain⟨its,r,pl,hz⟩:=I.list hx;have hlen:=r.length;exact wpAny_truthy_list pl.isList (by simp only[aI];lia) ⟨H,I.tok _,by rw[BD r];exact q⟩
  ·subst e';obtain⟨its,r,pl,hz⟩:=I.tuple hx;have hlen:=r.length;exact truthy_tuple pl (by simp only[aI];lia) ⟨H,I.tok _,by rw[BD r];exact q⟩
  ·subst e';obtain⟨hz,hS,vs,r,m⟩:kvs.length<=sizeLine/\(p==sysModules)=false/\∃vs,KV kvs vs/\s.heap.DictOf (Fl X.prog X.w) p vs:=I.iI p _ hx;have hlen:kvs.length=vs.length:=Paired.length r;exact wpAny_truthy_dict hS m (by lia) ⟨H,I.tok _,by rw[Jg r];exact q⟩
 |_=>exact(show False from e).elim
theorem Nz(ha:PE X a ta)(he:∀whole,isTrue a X.env whole=(do let v<-whole;standAt a.pos;holding [v] (truthy v))):
  PT X a (fun σ H Q=>ta σ H fun x H'=>∃k,PV X.K x H' k/\Q k H'):=by
 intro pins s σ H Q I h;exact isTrue_plain (ij (ha pins s σ H _ I h) fun v s1 ⟨x,H1,I1,r1,q1⟩=>RR pins s1 σ H1 x v Q I1 r1 q1) (he _)
theorem vals1{x:V}{us:List Value}(r:Vals [x] us):∃u,us=[u]/\RelV x u:=by
 cases r with
 |cons r1 r2=>cases r2;exact⟨_,rfl,r1⟩
theorem vals2{x y:V}{us:List Value}(r:Vals [x,y] us):∃u w',us=[u,w']/\RelV x u/\RelV y w':=by
 cases r with
 |cons r1 r2=>
  cases r2 with
  |cons r3 r4=>cases r4;exact⟨_,_,rfl,r1,r3⟩
theorem BE:mI X (.builtin "abs") (fun xs H Q=>∃i,xs=[.int i]/\Q (.int (if i<0 then -i else i)) H):=by
 intro pins s σ H xs us Q I r h;obtain⟨i,rfl,q⟩:=h;obtain⟨u,rfl,t,rfl⟩:=vals1 r;exact call_abs_int fun u tk=>⟨.int (if i<0 then -i else i),H,I.tok _,⟨_,rfl⟩,q⟩
theorem LS(hc:X.calm=true):mI X (.builtin "max") (fun xs H Q=>∃i j,xs=[.int i,.int j]/\Q (.int (if j>i then j else i)) H):=by
 intro pins s σ H xs us Q I r h;obtain⟨i,j,rfl,q⟩:=h;obtain⟨u,w',rfl,⟨t,rfl⟩,⟨t',rfl⟩⟩:=vals2 r;refine max_two_ints (I.ok.hd hc) fun h' tk k=>⟨_,H,I.kept k,?_,q⟩
 by_cases hj:j>i
 ·rw[ah hj,ah hj];exact⟨_,rfl⟩
 ·rw[af hj,af hj];exact⟨_,rfl⟩
end
structure LU(h:Heap)(x dx C:Addr)(mA:Str->Option Value):Prop where
 obj:h.get? x=some (PySem.W.instObj C dx)
 ns:h.Ns1 dx mA
 ne:dx≠x
theorem LV{h:Heap}{dx:Addr}{mA:Str->Option Value}(n:h.Ns1 dx mA):∃od,h.get? dx=some od/\∀name,PySem.W.lookIn name od=some (mA name):=by
 obtain⟨o,es,ep,ho,hd,hk,_,hm⟩:=n;refine⟨o,ho,fun name=> ?_⟩;have e:=hm name;unfold nsFind findBy at e;rw[<-Array.find?_toList] at e;unfold PySem.W.lookIn;rw[hd];dsimp only;split
 ·rename_i y q;rw[q] at e;exact congrArg some e
 ·rename_i q;rw[q] at e;have a:es.toList.any (·.refKey)=false:=by
   rw[List.any_eq_false];intro y hy;obtain⟨z,t,hkey⟩:=hk y (Array.mem_toList_iff.mp hy);simp[DictEntry.refKey,hkey]
  have a':¬es.toList.any (·.refKey)=true:=by rw[a];exact aM
  rw[af a'];exact congrArg some e
theorem LU.look{h:Heap}{x dx C:Addr}{mA:Str->Option Value}(I:LU h x dx C mA):∃od,PySem.W.InstAt h x (PySem.W.instObj C dx) C (some od)/\∀name,PySem.W.lookIn name od=some (mA name):=
 let ⟨od,ho,hl⟩:=LV I.ns
 ⟨od,⟨I.obj,rfl,rfl,ho⟩,hl⟩
section
variable {prog:Program}{w:World}{A:Around}{E:Value->Shared->Prop}{s:Shared}{K:PySem.W.Frag}{x dx C f:Addr}{mA:Str->Option Value}{name:Str}{v:Value}
theorem get_map{expr:Bool}{Q:Value->Shared->Prop}(X:K.In s.heap)(I:LU s.heap x dx C mA)(hg:PySem.W.plainGet K C name=true)(hh:PySem.W.hasDictIn K C=true)
  (ha:PySem.W.findIn K (.ref C) name=some none) (hv:mA name=some v) (hv':PySem.W.handedIn v=true) (h:Q v {s with toks:=s.toks+1}):
  wpAny (model prog w) A (getAttr (.ref x) name expr) Q E s:=by
 obtain⟨od,J,hl⟩:=I.look;exact PySem.W.get_value X J (PySem.W.plainGet_of hg).1 (PySem.W.findObj_own hh ha rfl (by rw[hl,hv])) hv' h
theorem PX{ns:List Str}{Q:Unit->Shared->Prop}(X:K.In s.heap)(I:LU s.heap x dx C mA)
  (hs:PySem.W.findIn K (.ref C) "__setattr__"=some (some (.builtin "object.__setattr__"))) (hp:PySem.W.plainOver K C=true) (ht:PySem.W.takerIn K C name=some none) (hh:PySem.W.hasDictIn K C=true)
  (hw:PySem.Within mA ns) (hsz:ns.length<=sizeLine)
  (h:∀h',LU h' x dx C (fun y=>if y=name then some v else mA y)->Heap.SameBut dx s.heap h'->Q () {s with heap:=h',toks:=s.toks+2}):
  wpAny (model prog w) A (setAttr (.ref x) name v) Q E s:=by
 obtain⟨od,J,hl⟩:=I.look;refine PySem.W.set_plain X J hs (PySem.W.osa_open (s:={s with toks:=s.toks+1}) (r:=none) X J hp ht fun b=> ?_);obtain⟨cd,hc,hd'⟩:=PySem.W.any_some hh;have hx:s.heap.get? x=some ⟨.ref C,some dx,.plain,#[]⟩:=I.obj;refine wpAny_bind (wpAny_pure (wpAny_bind (wpAny_bind (wpAny_loadPart hx (wpAny_bind (PySem.W.Looks.here (s:={s with toks:=s.toks+1}) (PySem.W.looks_clsIn X hc) ?_))))));rw[hd'];refine wpAny_pure (a:=some dx) (wpAny_bind (wpAny_pure (wpAny_bind ?_)));refine wpAny_nsSet1 (s:={s with toks:=s.toks+1}) I.ns fun h' hn2 hs2=> ?_
 obtain⟨oD,esD,epD,hoD,hdD,hcD⟩:=hn2.count (PySem.Within.cons name v hw);refine wpAny_bind (wpAny_lookBehind hoD (by rw[hdD];exact pastItsLine_dict (aw hcD (by rw[aq];lia))) ?_);exact wpAny_pure (h _ ⟨(hs2.2 _ (bK I.ne)).trans I.obj,hn2,I.ne⟩ hs2)
theorem NB{R:Result->Shared->Prop}{vs:List Value}{kw:List (Str×Value)}(X:K.In s.heap)(hm:PySem.W.makesIn K C=true)
  (hi:PySem.W.findIn K (.ref C) "__init__"=some (some (.ref f))) (hf:PySem.W.typeIn K (.ref f)=some (.type "function"))
  (h:codeAny (model prog w) (A.under (.builtin "type.__call__" ⟨.ref C::vs,kw⟩)) (.call (.ref f) ⟨.ref (s.heap.objs.size+1)::vs,kw⟩) (PySem.W.InitBack (s.heap.objs.size+1) R)
   {s with heap:=(s.heap.push PySem.W.emptyDict).push (PySem.W.instObj C s.heap.objs.size)}):
  codeAny (model prog w) A (.call (.ref C) ⟨vs,kw⟩) R s:=by
 obtain⟨hh,g,d,t,os⟩:=s;exact PySem.W.make_core (PySem.W.makes_of X hm) (PySem.W.looks_findIn X hi) (fun self=>PySem.W.bind_fn X self hf) (.inl rfl) h
end
noncomputable def jn (f:Str) (v:V):List (Str×V)->List (Str×V)
 |[]=>[(f,v)]
 |(g,x)::r=>if g=f then(g,v)::r else(g,x)::jn f v r
theorem Af(f g:Str)(v:V):∀fs:List (Str×V),(jn f v fs).lookup g=if g=f then some v else fs.lookup g
 |[]=>by
  show List.lookup g [(f,v)]=_;by_cases h:g=f
  ·have hb:(g==f)=true:=beq_iff_eq.mpr h;simp only[List.lookup,hb,ah h]
  ·have hb:(g==f)=false:=cW.mpr h;simp only[List.lookup,hb,af h]
 |(k,x)::r=>by
  have ih:=Af f g v r;rw[show jn f v ((k,x)::r)=(if k=f then(k,v)::r else(k,x)::jn f v r) from rfl];by_cases hk:k=f
  ·rw[ah hk];by_cases h:g=k
   ·have hb:(g==k)=true:=beq_iff_eq.mpr h;simp only[List.lookup,hb,ah (h.trans hk)]
   ·have hb:(g==k)=false:=cW.mpr h;simp only[List.lookup,hb,af (fun e:g=f=>h (e.trans hk.symm))]
  ·rw[af hk];by_cases h:g=k
   ·have hb:(g==k)=true:=beq_iff_eq.mpr h;simp only[List.lookup,hb,af (fun e:g=f=>hk (h.symm.trans e))]
   ·have hb:(g==k)=false:=cW.mpr h;simp only[List.lookup,hb];exact ih
theorem yM(f:Str)(v:V):∀fs:List (Str×V),f∈(jn f v fs).map (·.1)/\∀g,g∈fs.map (·.1)->g∈(jn f v fs).map (·.1)
 |[]=>⟨by simp[jn],fun g h=>by simp at h⟩
 |(k,x)::r=>by
  obtain⟨i1,i2⟩:=yM f v r;rw[show jn f v ((k,x)::r)=(if k=f then(k,v)::r else(k,x)::jn f v r) from rfl];by_cases hk:k=f
  ·rw[ah hk];subst hk;exact⟨by simp,fun g h=>by simpa using h⟩
  ·rw[af hk];refine⟨?_,fun g h=> ?_⟩
   ·rw[aJ];exact ak _ i1
   ·rw[aJ] at h⊢;rcases aH.mp h with e |e
    ·exact aH.mpr (.inl e)
    ·exact ak _ (i2 g e)
theorem Ag(f:Str)(v:V):∀fs:List (Str×V),(jn f v fs).length<=fs.length+1
 |[]=>by simp[jn]
 |(k,x)::r=>by
  have ih:=Ag f v r;rw[show jn f v ((k,x)::r)=(if k=f then(k,v)::r else(k,x)::jn f v r) from rfl];by_cases hk:k=f
  ·rw[ah hk,aq,aq];lia
  ·rw[af hk,aq,aq];lia
theorem IY.some_of{v:V}{o:Option Value}(r:IY (some v) o):∃u,o=some u/\RelV v u:=by
 cases o with
 |none=>exact(show False from r).elim
 |some u=>exact⟨u,rfl,r⟩
theorem LW{v:V}{u:Value}(r:RelV v u):PySem.W.handedIn u=true:=by
 cases v with
 |jP=>cases(show u=Value.none from r);rfl
 |bl b=>cases(show u=Value.bool b from r);rfl
 |int i=>obtain⟨t,e⟩:=(show ∃t,u=Value.int i t from r);cases e;rfl
 |str x=>obtain⟨t,e⟩:=(show ∃t,u=Value.str x t from r);cases e;rfl
 |Fm b=>obtain⟨t,e⟩:=(show ∃t,u=Value.bytes b t from r);cases e;rfl
 |Tb b=>obtain⟨t,e⟩:=(show ∃t,u=Value.float b t from r);cases e;rfl
 |ref a=>cases(show u=Value.ref a from r);rfl
 |ty n=>cases(show u=Value.type n from r);rfl
section
variable {P:Program}{w:World}{H H':Hp}{h h':Heap}{a C dx:Addr}{fs fs':List (Str×V)}
theorem KG(iI:wQ P w H h)(e:H a=some (.ins C dx fs)):∃mA,LU h a dx C mA/\(∀f,IY (fs.lookup f) (mA f))/\PySem.Within mA (fs.map (·.1))/\fs.length<=1000/\H dx=some (.own a):=by
 obtain⟨d,z,ne,ob,mA,n,r,q⟩:=(show j9 P w H h a (.ins C dx fs) from iI a _ e);exact⟨mA,⟨ob,n,ne⟩,r,q,z,d⟩
end
structure PY(K:PySem.W.Frag)(C:Addr):Prop where
 pg:PySem.W.plainGet K C Str.empty=true
 hd:PySem.W.hasDictIn K C=true
 po:PySem.W.plainOver K C=true
 sa:PySem.W.findIn K (.ref C) "__setattr__"=some (some (.builtin "object.__setattr__"))
theorem PY.get{K:PySem.W.Frag}{C:Addr}(c:PY K C)(f:Str):PySem.W.plainGet K C f=true:=c.pg
noncomputable def nY (K:PySem.W.Frag) (C:Addr) (f:Str):Prop:=PySem.W.findIn K (.ref C) f=some none
theorem nY.TK{K:PySem.W.Frag}{C:Addr}{f:Str}(n:nY K C f):PySem.W.takerIn K C f=some none:=by
 unfold PySem.W.takerIn;rw[show PySem.W.findIn K (.ref C) f=some none from n];rfl
section
variable {X:Cx}{pins:List (Addr×Obj)}{σ:St}{H:Hp}{s:Shared}{a C dx:Addr}{fs:List (Str×V)}{f:Str}{v:V}{A:Around}{E:Value->Shared->Prop}
theorem Jh{b:Bool}{Q:Value->Shared->Prop}(I:Inv X pins σ H s)(e:H a=some (.ins C dx fs))(c:PY X.K C)(n:nY X.K C f)(l:fs.lookup f=some v)
  (h:∀u s',Inv X pins σ H s'->RelV v u->Q u s'):wpAny (model X.prog X.w) A (getAttr (.ref a) f b) Q E s:=by
 obtain⟨mA,O,r,_,_,_⟩:=KG I.iI e;obtain⟨u,hu,ru⟩:=IY.some_of (v:=v) (o:=mA f) (by rw[<-l];exact r f);exact get_map I.Nc O (c.get f) c.hd n hu (LW ru) (h u _ (I.tok _) ru)
theorem Ji{y:V}{u:Value}{Q:Unit->Shared->Prop}(I:Inv X pins σ H s)(e:H a=some (.ins C dx fs))(c:PY X.K C)(n:nY X.K C f)(hl:fs.length<1000)(ry:RelV y u)
  (h:∀s',Inv X pins σ (upd H a (.ins C dx (jn f y fs))) s'->Q () s'):wpAny (model X.prog X.w) A (setAttr (.ref a) f u) Q E s:=by
 obtain⟨mA,O,r,wi,_,ho⟩:=KG I.iI e;have hz:(fs.map (·.1)).length<=sizeLine:=by rw[lMp,sizeLine_eq];lia
 refine PX I.Nc O c.sa c.po n.TK c.hd wi hz fun h' O' sb=>h _ ?_
 have hd:∃o,h'.get? dx=some o:=let ⟨o,_,_,e',_⟩:=O'.ns;⟨o,e'⟩;refine I.write (x:=a) (e:=dx) (by rw[e];exact True.intro) (.inr ho) (fun b q hb z=>(sb.2 b hb).trans z) hd ?_;refine⟨by rw[d6 O.ne];exact ho,?_,O.ne,O'.obj,_,O'.ns,fun g=> ?_,fun g hg=> ?_⟩
 ·have:=Ag f y fs;lia
 ·show IY ((jn f y fs).lookup g) (if g=f then some u else mA g);rw[Af];by_cases q:g=f
  ·rw[ah q,ah q];exact ry
  ·rw[af q,af q];exact r g
 ·by_cases q:g=f
  ·rw[q];exact(yM f y fs).1
  ·refine(yM f y fs).2 g (wi g fun z=>hg ?_);show(if g=f then some u else mA g)=none;rw[af q];exact z
theorem Inv.made(I:Inv X pins σ H s):Inv X pins σ (upd (upd H s.heap.objs.size (.own (s.heap.objs.size+1))) (s.heap.objs.size+1) (.ins C s.heap.objs.size []))
  {s with heap:=(s.heap.push PySem.W.emptyDict).push (PySem.W.instObj C s.heap.objs.size)}:=by
 have e1:(s.heap.push PySem.W.emptyDict).get? s.heap.objs.size=some PySem.W.emptyDict:=Heap.get?_push_size s.heap rfl;have e2:((s.heap.push PySem.W.emptyDict).push (PySem.W.instObj C s.heap.objs.size)).get? (s.heap.objs.size+1)=some (PySem.W.instObj C s.heap.objs.size):=by
  have:=Heap.get?_push_size (s.heap.push PySem.W.emptyDict) (o:=PySem.W.instObj C s.heap.objs.size) rfl
  rwa [Heap.size_push] at this
 have e3:(s.heap.push PySem.W.emptyDict).Ns s.heap.objs.size (fun _=>none):=⟨PySem.W.emptyDict,#[],_,e1,rfl,(fun e he=>absurd he (by simp)),fun _=>rfl⟩;have I1:=I.laid (a:=s.heap.objs.size) (o:= .own (s.heap.objs.size+1)) (h':=s.heap.push PySem.W.emptyDict) (t':=s.toks) (fun b u q=>Heap.get?_push_of_some _ q) (ai _) ⟨_,e1⟩;refine I1.laid (a:=s.heap.objs.size+1) (o:= .ins C s.heap.objs.size []) (t':=s.toks) (fun b u q=>Heap.get?_push_of_some _ q) (Nat.le_of_eq (Heap.size_push _ _)) ?_;have ne:s.heap.objs.size≠s.heap.objs.size+1:=bt (Nat.lt_succ_self _);refine⟨by rw[d6 ne,dh],aL _,ne,e2,fun _=>none,(Heap.Ns1.of_empty e3).at fun o q=>Heap.get?_push_of_some _ q,fun _=>True.intro,fun y hy=>absurd rfl hy⟩
theorem PZ{prog:Program}{w:World}{env:Env}{e:Expr}{f:Str}{pos:Pos}{s:Shared}{Q:Value->Shared->Prop}(hb:attributeBase e f env (eval e env)=eval e env)
  (h:wpAny (model prog w) A (eval e env) (fun o s₁=>wpAny (model prog w) A (getAttr o f true) Q E s₁) E s):wpAny (model prog w) A (eval (.Attribute e f pos) env) Q E s:=
 Attribute_any_ h (by rw[arm_eval_Attribute,hb])
end
noncomputable def LX (K:PySem.W.Frag) (ta:TE) (f:Str):TE:=fun σ H Q=>ta σ H fun x H1=>∃a C dx fs v,x= .ref a/\H1 a=some (.ins C dx fs)/\PY K C/\nY K C f/\fs.lookup f=some v/\Q v H1
noncomputable def U6 (K:PySem.W.Frag) (ta tv:TE) (f:Str):TS:=fun D σ H=>tv σ H fun y H1=>ta σ H1 fun x H2=>∃a C dx fs,x= .ref a/\H2 a=some (.ins C dx fs)/\PY K C/\nY K C f/\fs.length<1000/\
 D.nx σ (upd H2 a (.ins C dx (jn f y fs)))
section
variable {X:Cx}{o e value:Expr}{f:Str}{pos pos' tpos:Pos}{ta tv:TE}
theorem RS(he:PE X e ta)(hb:attributeBase e f X.env (eval e X.env)=eval e X.env):PE X (.Attribute e f pos) (LX X.K ta f):=by
 intro pins s σ H Q I h;refine PZ hb (ij (he pins s σ H _ I h) fun u s1 ⟨x,H1,I1,rx,a,C,dx,fs,v,ex,ea,c,n,l,q⟩=> ?_);subst ex;obtain rfl:u=Value.ref a:=rx;exact Jh I1 ea c n l fun u' s2 I2 ru=>⟨v,H1,I2,ru,q⟩
theorem iL(ha:PE X o ta)(hv:PE X value tv)(hs:swapsWith value (some (.Attribute o f pos')) pos.line X.env=pure false):PS X (.Assign [.Attribute o f pos'] value pos) (U6 X.K ta tv f):=by
 intro pins s σ H D I h;refine plainObj_wpAny_Assign_Attribute (ij (hv pins s σ H _ I h) fun u s1 ⟨y,H1,I1,ry,q⟩=>ij (ha pins s1 σ H1 _ I1 q) fun ov s2 ⟨x,H2,I2,rx,a,C,dx,fs,ex,ea,c,n,l,q2⟩=> ?_) hs;subst ex;obtain rfl:ov=Value.ref a:=rx;exact Ji I2 ea c n l ry fun s3 I3=>⟨σ,_,I3,q2⟩
end
structure kg(k:Nat)(A:Around):Prop where
 hd:A.handled=none
 dp:A.depth+3*k+5<recursionLimit
 un:A.units+16*k+200<cLine
theorem kg.mono{j k:Nat}{A:Around}(r:kg k A)(h:j<=k):kg j A:=⟨r.hd,by have:=r.dp;lia,by have:=r.un;lia⟩
theorem kg.deeper{k:Nat}{A:Around}(r:kg (k+1) A)(env:Env):kg k (A.deeper env):=
 ⟨r.hd,by have:=r.dp;show A.depth+1+3*k+5<_;lia,by have:=r.un;show A.units+3+16*k+200<_;lia⟩
theorem Jj{A:Around}{C:Addr}{us:List Value}{kw:List (Str×Value)}:(A.under (.builtin "type.__call__" ⟨.ref C::us,kw⟩)).depth=A.depth+1:=by
 first |rfl |simp[Around.under,Code.weight,Code.isCreation,Code.isGuard,Code.isCaller,Code.frames,Code.isFrame,guardIds]
theorem Jk{A:Around}{C:Addr}{us:List Value}{kw:List (Str×Value)}:(A.under (.builtin "type.__call__" ⟨.ref C::us,kw⟩)).units=A.units+1:=by
 first |rfl |simp[Around.under,Code.cUnits,Code.frames,Code.isFrame]
theorem kg.make{k:Nat}{A:Around}(r:kg (k+1) A)(C:Addr)(us:List Value)(kw:List (Str×Value)):kg k (A.under (.builtin "type.__call__" ⟨.ref C::us,kw⟩)):=
 ⟨r.hd,by have:=r.dp;rw[Jj];lia,by have:=r.un;rw[Jk];lia⟩
theorem kg.depth{k:Nat}{A:Around}(r:kg k A):A.depth<recursionLimit:=by have:=r.dp;lia
theorem kg.units{k:Nat}{A:Around}(r:kg k A):A.units+64<cLine:=by have:=r.un;lia
noncomputable def LY:TA:=fun _ H Q=>Q [] H
noncomputable def wW (ta:TE) (tr:TA):TA:=fun σ H Q=>ta σ H fun x H1=>tr σ H1 fun xs H2=>Q (x::xs) H2
section
variable {X:Cx}{e:Expr}{es:List Expr}{te:TE}{t:TA}{pos:Pos}
theorem dc:PA X [] LY:=fun _ _ _ _ H Q I h=>Calls.spliced_nil ⟨[],H,I,.nil,h⟩
theorem c7(ha:PE X e te)(hr:PA X es t)(hs:starEach (e::es) X.env=(false,eval e X.env)::starEach es X.env:=by rfl):PA X (e::es) (wW te t):=by
 intro pos pins s σ H Q I h;rw[hs];show wpAny _ _ (spliced ((false,eval e X.env)::backTo pos (starEach es X.env))) _ _ s;refine Calls.spliced_cons (ij (ha pins s σ H _ I h) fun u s1 ⟨x,H1,I1,r1,q1⟩=> ?_);exact ij (hr pos pins s1 σ H1 _ I1 q1) fun us s2 ⟨xs,H2,I2,r2,q2⟩=>⟨x::xs,H2,I2,.cons r1 r2,q2⟩
noncomputable def TM (t:TA):TE:=fun σ H Q=>t σ H fun xs H1=>xs.length<=sizeLine/\∀p,H1 p=none->Q (.ref p) (upd H1 p (.tup xs))
noncomputable def TN (t:TA):TE:=fun σ H Q=>t σ H fun xs H1=>xs.length<=sizeLine/\∀p,H1 p=none->Q (.ref p) (upd H1 p (.lst xs))
theorem gj{x1}(h:PA X es t):PE X (.Tuple es x1 pos) (TM t):=by
 intro pins s σ H Q I hq;refine wpAny_Tuple_spliced (ij (h pos pins s σ H _ I hq) fun us s1 ⟨xs,H1,I1,r,z,q⟩=>⟨by rw[<-r.length];exact z,?_⟩);have hf:H1 s1.heap.objs.size=none:=I1.iI.fresh (ai _);refine⟨.ref s1.heap.objs.size,upd H1 s1.heap.objs.size (.tup xs),I1.laid (t':=s1.toks) (fun b u e=>Heap.get?_push_of_some _ e) (ai _) ?_,rfl,q _ hf⟩;exact⟨z,us,r,⟨_,Heap.get?_push_size _ rfl,rfl,_,rfl⟩⟩
theorem dO(h:PA X es t):PE X (.List es pos) (TN t):=by
 intro pins s σ H Q I hq;refine wpAny_List_spliced (ij (h pos pins s σ H _ I hq) fun us s1 ⟨xs,H1,I1,r,z,q⟩=>⟨by rw[<-r.length];exact z,?_⟩);have hf:H1 s1.heap.objs.size=none:=I1.iI.fresh (ai _);refine⟨.ref s1.heap.objs.size,upd H1 s1.heap.objs.size (.lst xs),I1.laid (t':=s1.toks) (fun b u e=>Heap.get?_push_of_some _ e) (ai _) ?_,rfl,q _ hf⟩;exact⟨z,us,0,r,Heap.get?_push_size _ rfl⟩
end
noncomputable abbrev Sp:=List V->Hp->VK->XK->Prop
noncomputable abbrev Nd:=List Env->Hp->Shared->XK->Value->Shared->Prop
structure Jl(P:Program)(w:World)(K:PySem.W.Frag)(mg:Str->Option Value)(base:Heap)(A:Around)(outer:List Env)(s:Shared)(H:Hp):Prop where
 frames:A.frames=some outer
 mod:Mod K mg base
 bs:∀b o,base.get? b=some o->s.heap.get? b=some o/\H b=none
 PJ:base.objs.size<=s.heap.objs.size
 AO:s.heap.FunFrames base outer
 RI:∀b∈Nj outer,H b=none
 iI:wQ P w H s.heap
 bare:AllBare s.gens
noncomputable def CE (outer:List Env) (P:Program) (w:World) (H:Hp) (s:Shared) (Q:VK) (u:Value) (s':Shared):Prop:=
 ∃v H',s'.os=s.os/\AllBare s'.gens/\Un (Nj outer) [] H H' s.heap s'.heap/\wQ P w H' s'.heap/\RelV v u/\Q v H'
noncomputable def CR (CX:Nd) (outer:List Env) (P:Program) (w:World) (H:Hp) (s:Shared) (Q:VK) (E:XK) (r:Result) (s':Shared):Prop:=
 match r with
 | .ok (.ret u)=>CE outer P w H s Q u s'
 | .ok _=>False
 | .error e=>CX outer H s E e s'
structure qr(P:Program)(w:World)(K:PySem.W.Frag)(mg:Str->Option Value)(base:Heap)(CX:Nd)(k:Nat)(f:Addr)(fd:FuncData)(ps:List Str)(sp:Sp):Prop where
 len:∀vs H Q E,sp vs H Q E->vs.length=ps.length
 run:∀(A:Around) (outer:List Env) (s:Shared) (H:Hp) (args:Args) (us:List Value) (vs:List V) (Q:VK) (E:XK),kg k A->Jl P w K mg base A outer s H->BindsTo s fd args (ps.zip us)->Vals vs us->sp vs H Q E->
  codeAny (model P w) A (.call (.ref f) args) (CR CX outer P w H s Q E) s
theorem qr.mono{P:Program}{w:World}{K:PySem.W.Frag}{mg:Str->Option Value}{base:Heap}{CX:Nd}{j k:Nat}{f:Addr}{fd:FuncData}{ps:List Str}{sp:Sp}(F:qr P w K mg base CX j f fd ps sp)(h:j<=k):
  qr P w K mg base CX k f fd ps sp:=⟨F.len,fun A outer s H args us vs Q E hr=>F.run A outer s H args us vs Q E (hr.mono h)⟩
theorem qr.imp{P:Program}{w:World}{K:PySem.W.Frag}{mg:Str->Option Value}{base:Heap}{CX:Nd}{k:Nat}{f:Addr}{fd:FuncData}{ps:List Str}{sp sp':Sp}(F:qr P w K mg base CX k f fd ps sp)
  (h:∀vs H Q E,sp' vs H Q E->sp vs H Q E):qr P w K mg base CX k f fd ps sp':=
 ⟨fun vs H Q E q=>F.len vs H Q E (h _ _ _ _ q),fun A outer s H args us vs Q E hr he hb hv hs=>F.run A outer s H args us vs Q E hr he hb hv (h _ _ _ _ hs)⟩
theorem Jl.make{P:Program}{w:World}{K:PySem.W.Frag}{mg:Str->Option Value}{base:Heap}{A:Around}{outer:List Env}{s:Shared}{H:Hp}(e:Jl P w K mg base A outer s H)(C:Addr)(us:List Value)(kw:List (Str×Value)):
  Jl P w K mg base (A.under (.builtin "type.__call__" ⟨.ref C::us,kw⟩)) outer s H:=⟨by first |exact e.frames |(simpa [Around.under,Code.envs,Code.isFrame,pushEnvs] using e.frames),e.mod,e.bs,e.PJ,e.AO,e.RI,e.iI,e.bare⟩
section
variable {X:Cx}{pins:List (Addr×Obj)}{σ:St}{H:Hp}{s s':Shared}
theorem Inv.TQ(I:Inv X pins σ H s):Jl X.prog X.w X.K X.mg X.base X.A X.stack s H:=
 ⟨I.ok.frames,I.ok.mod,I.bs,aw I.ok.PJ I.sz,I.stack,I.Kw,I.iI,I.bare⟩
theorem Inv.after{Q:VK}{u:Value}(I:Inv X pins σ H s)(h:CE X.stack X.prog X.w H s Q u s'):EP X pins σ Q u s':=by
 obtain⟨v,H',os,bare,un,iI,r,q⟩:=h;obtain⟨hh,g,d,t,os'⟩:=s';obtain rfl:os'=s.os:=os;exact⟨v,H',I.call (h':=hh) (g':=g) (d':=d) (t':=t) (ch:=[]) un iI bare (fun b z=>absurd z (by simp)),r,q⟩
end
noncomputable def KH (sp:Sp) (dvs:List V) (E:XK) (t:TA):TE:=fun σ H Q=>t σ H fun vs H1=>sp (vs ++ dvs) H1 Q E
noncomputable def Rc (C:Addr) (sp:Sp) (dvs:List V) (E:XK) (t:TA):TE:=fun σ H Q=>t σ H fun vs H1=>∀x dx,H1 x=none->H1 dx=none->dx≠x->
 sp (.ref x::(vs ++ dvs)) (upd (upd H1 dx (.own x)) x (.ins C dx [])) (fun v H2=>v= .jP/\Q (.ref x) H2) E
noncomputable def Binds (K:PySem.W.Frag) (fd:FuncData) (ps:List Str) (ds:List Value):Prop:=
 ∀(s:Shared) (us:List Value),K.In s.heap->(us ++ ds).length=ps.length->BindsTo s fd ⟨us,[]⟩ (ps.zip (us ++ ds))
theorem Binds.all{K:PySem.W.Frag}{fd:FuncData}{ps:List Str}(h:∀us:List Value,us.length=ps.length->bindArgs fd ⟨us,[]⟩=pure (ps.zip us)):Binds K fd ps []:=fun s us _ hl=>by
 rw[bU] at hl⊢;exact .of_eq (h us hl)
noncomputable def Passes (CX:Nd) (X:Cx) (E:XK):Prop:=∀(pins:List (Addr×Obj)) (σ:St) (H:Hp) (s:Shared) (e:Value) (s':Shared),Inv X pins σ H s->CX X.stack H s E e s'->X.xe e s'
section
variable {X:Cx}{CX:Nd}{k:Nat}{f C:Addr}{fd:FuncData}{ps:List Str}{sp:Sp}{dvs:List V}{ds:List Value}{E:XK}{x m:Str}{p pos apos:Pos}{e o:Expr}{es:List Expr}{ta:TE}{t:TA}
theorem NC{pins:List (Addr×Obj)}{σ:St}{H:Hp}{s:Shared}{Q:VK}{us:List Value}{vs:List V}(F:qr X.prog X.w X.K X.mg X.base CX k f fd ps sp)(hr:kg k X.A)(hb:Binds X.K fd ps ds)(hd:Vals dvs ds)(hx:Passes CX X E)
  (I:Inv X pins σ H s) (r:Vals vs us) (h:sp (vs ++ dvs) H Q E):wpAny (model X.prog X.w) X.A (call (.ref f) us) (EP X pins σ Q) X.xe s:=by
 have r2:Vals (vs ++ dvs) (us ++ ds):=r.append hd;have hl:(us ++ ds).length=ps.length:=by rw[<-r2.length];exact F.len _ _ _ _ h
 refine wpAny_call (codeAny_mono (F.run X.A X.stack s H ⟨us,[]⟩ (us ++ ds) (vs ++ dvs) Q E hr I.TQ (hb s us I.Nc hl) r2 h) fun r s' hq=> ?_);cases r with
 |error e=>exact hx pins σ H s e s' I hq
 |ok fl=>
  cases fl with
  |ret u=>exact I.after hq
  |next=>exact False.elim hq
  |brk=>exact False.elim hq
  |cont=>exact False.elim hq
theorem P0(F:qr X.prog X.w X.K X.mg X.base CX k f fd ps sp)(hr:kg k X.A)(hg:Gl X x)(hm:X.mg x=some (.ref f))(hk:PySem.W.keepIn X.K (.ref f)=true)(hb:Binds X.K fd ps ds)(hd:Vals dvs ds)(hx:Passes CX X E)
  (ha:PA X (e::es) t) (hdb:(x==("__debug__":Str))=false:=by decide) (he:starEach (e::es) X.env=(false,eval e X.env)::starEach es X.env:=by rfl) (hpl:(backTo pos (starEach es X.env)).any (·.1)=false:=by rfl):
  PE X (.Call (.Name x p) (e::es) [] pos) (KH sp dvs E t):=by
 intro pins s σ H Q I h;refine wpAny_Call_Name_kw (Fq I hg hm ?_ hdb);refine PySem.W.callWith_K (h₀:=X.base) I.ok.mod.Tc hk (ij (ha pos pins s σ H _ I h) fun us s1 ⟨vs,H1,I1,r,q⟩=>⟨I1.Nc,?_⟩) he hpl;exact NC F hr hb hd hx I1 r q
structure Mk(K:PySem.W.Frag)(C f:Addr):Prop where
 makes:PySem.W.makesIn K C=true
 init:PySem.W.findIn K (.ref C) "__init__"=some (some (.ref f))
 fn:PySem.W.isFn K (.ref f)=true
 kp:PySem.W.keepIn K (.ref C)=true
theorem ND{pins:List (Addr×Obj)}{σ:St}{H:Hp}{s:Shared}{Q:VK}{us:List Value}{vs:List V}(M:Mk X.K C f)(F:qr X.prog X.w X.K X.mg X.base CX k f fd ps sp)(hr:kg (k+1) X.A)(hb:Binds X.K fd ps ds)(hd:Vals dvs ds)
  (hx:Passes CX X E) (I:Inv X pins σ H s) (r:Vals vs us)
  (h:∀x dx,H x=none->H dx=none->dx≠x->sp (.ref x::(vs ++ dvs)) (upd (upd H dx (.own x)) x (.ins C dx [])) (fun v H2=>v= .jP/\Q (.ref x) H2) E):
  wpAny (model X.prog X.w) X.A (call (.ref C) us) (EP X pins σ Q) X.xe s:=by
 have hq:=h (s.heap.objs.size+1) s.heap.objs.size (I.iI.fresh (Nat.le_succ _)) (I.iI.fresh (ai _)) (bt (Nat.lt_succ_self _));have I2:=Inv.made (C:=C) I;have r2:Vals (V.ref (s.heap.objs.size+1)::(vs ++ dvs)) (Value.ref (s.heap.objs.size+1)::(us ++ ds)):= .cons rfl (r.append hd);have hl:(Value.ref (s.heap.objs.size+1)::us ++ ds).length=ps.length:=by
  have e:=r2.length;rw[F.len _ _ _ _ hq] at e;exact e.symm
 refine wpAny_call (NB (f:=f) I.Nc M.makes M.init (beq_iff_eq.mp M.fn) (codeAny_mono (F.run _ X.stack _ _ ⟨Value.ref (s.heap.objs.size+1)::us,[]⟩ (Value.ref (s.heap.objs.size+1)::(us ++ ds)) _ _ E (hr.make C us [])
  (I2.TQ.make C us []) (hb _ (Value.ref (s.heap.objs.size+1)::us) I2.Nc hl) r2 hq) fun r s' hq'=> ?_))
 cases r with
 |error e=>exact hx pins σ _ _ e s' I2 hq'
 |ok fl=>
  cases fl with
  |ret u=>
   obtain⟨v,H',I3,rv,ev,q3⟩:=I2.after hq';subst ev;exact⟨rv,⟨V.ref (s.heap.objs.size+1),H',I3,rfl,q3⟩⟩
  |next=>exact False.elim hq'
  |brk=>exact False.elim hq'
  |cont=>exact False.elim hq'
theorem Qa(M:Mk X.K C f)(F:qr X.prog X.w X.K X.mg X.base CX k f fd ps sp)(hr:kg (k+1) X.A)(hg:Gl X x)(hm:X.mg x=some (.ref C))(hb:Binds X.K fd ps ds)(hd:Vals dvs ds)(hx:Passes CX X E)
  (ha:PA X (e::es) t) (hdb:(x==("__debug__":Str))=false:=by decide) (he:starEach (e::es) X.env=(false,eval e X.env)::starEach es X.env:=by rfl) (hpl:(backTo pos (starEach es X.env)).any (·.1)=false:=by rfl):
  PE X (.Call (.Name x p) (e::es) [] pos) (Rc C sp dvs E t):=by
 intro pins s σ H Q I h;refine wpAny_Call_Name_kw (Fq I hg hm ?_ hdb);refine PySem.W.callWith_K (h₀:=X.base) I.ok.mod.Tc M.kp (ij (ha pos pins s σ H _ I h) fun us s1 ⟨vs,H1,I1,r,q⟩=>⟨I1.Nc,?_⟩) he hpl;exact ND M F hr hb hd hx I1 r q
end
structure dD(N P:List Str)(sc:Scope):Prop where
 kind:sc.kind= .function
 co:sc.isCoroutine=false
 gen:sc.isGenerator=false
 nd:N.Nodup
 pre:N.take P.length=P
 par:∀x∈P,sc.names.lookup x=some .local\/sc.names.lookup x=some .cell
 RT:∀y∈sc.names,y.2≠.free
theorem Ec{kindOf:Str->Option NameKind}{x:Str}:∀{binds:List (Str×Value)} {m:Str->Option Value},(∀v,(x,v)∉binds)->bindL kindOf binds m x=m x
 |[],_,_=>rfl
 |(n,v)::r,m,h=>by
  unfold bindL;rw[Ec fun w hw=>h w (ak _ hw)];split
  ·have:x≠n:=by rintro rfl;exact h v ax
   simp[this]
  ·rfl
theorem Ed{kindOf:Str->Option NameKind}{x:Str}:∀{binds:List (Str×Value)} {m:Str->Option Value},(∀v,(x,v)∉binds)->bindC kindOf binds m x=m x
 |[],_,_=>rfl
 |(n,v)::r,m,h=>by
  unfold bindC;rw[Ed fun w hw=>h w (ak _ hw)];split
  ·rfl
  ·have:x≠n:=by rintro rfl;exact h v ax
   simp[this]
theorem Ee{kindOf:Str->Option NameKind}{x:Str}{v:Value}:∀{P:List Str} {vs:List Value} {i:Nat} {m:Str->Option Value},P.Nodup->P[i]? =some x->vs[i]? =some v->kindOf x=some .local->
  bindL kindOf (P.zip vs) m x=some v
 |[],_,_,_,_,h,_,_=>by simp at h
 |_::_,[],_,_,_,_,h,_=>by simp at h
 |p::P,w::vs,0,m,nd,h1,h2,hk=>by
  simp at h1 h2;subst h1;subst h2;show bindL kindOf ((p,w)::P.zip vs) m p=_;unfold bindL;rw[Ec fun v hv=>(bV.mp nd).1 (List.of_mem_zip hv).1,ah hk];simp
 |p::P,w::vs,i+1,m,nd,h1,h2,hk=>by
  show bindL kindOf ((p,w)::P.zip vs) m x=_;unfold bindL;exact Ee (i:=i) (bV.mp nd).2 (by simpa using h1) (by simpa using h2) hk
theorem Ef{kindOf:Str->Option NameKind}{x:Str}{v:Value}:∀{P:List Str} {vs:List Value} {i:Nat} {m:Str->Option Value},P.Nodup->P[i]? =some x->vs[i]? =some v->kindOf x≠some .local->
  bindC kindOf (P.zip vs) m x=some v
 |[],_,_,_,_,h,_,_=>by simp at h
 |_::_,[],_,_,_,_,h,_=>by simp at h
 |p::P,w::vs,0,m,nd,h1,h2,hk=>by
  simp at h1 h2;subst h1;subst h2;show bindC kindOf ((p,w)::P.zip vs) m p=_;unfold bindC;rw[Ed fun v hv=>(bV.mp nd).1 (List.of_mem_zip hv).1,af hk];simp
 |p::P,w::vs,i+1,m,nd,h1,h2,hk=>by
  show bindC kindOf ((p,w)::P.zip vs) m x=_;unfold bindC;exact Ef (i:=i) (bV.mp nd).2 (by simpa using h1) (by simpa using h2) hk
noncomputable def start (N:List Str) (vs:List V):St:=vs.map some ++ List.replicate (N.length - vs.length) none
noncomputable def Fx (CX:Nd) (P:Program) (w:World) (K:PySem.W.Frag) (mg:Str->Option Value) (base:Heap) (N:List Str) (qual:Str) (scope:Scope) (f:Addr) (cd:Value) (A:Around) (outer:List Env) (s:Shared) (H:Hp) (E:XK):Cx where
 prog:=P
 w:=w
 K:=K
 mg:=mg
 base:=base
 A:=A.deeper (envOfC qual scope s.heap.objs.size f cd)
 N:=N
 D8:=s
 Td:=H
 env:=envOfC qual scope s.heap.objs.size f cd
 outer:=outer
 stack:=envOfC qual scope s.heap.objs.size f cd::outer
 ex:=[]
 calm:=true
 fn:=fun _=>true
 pn:=[]
 xe:=fun e s'=>wpAny (model P w) (A.deeper (envOfC qual scope s.heap.objs.size f cd)) (leaving (envOfC qual scope s.heap.objs.size f cd) e) (fun _ s''=>CX outer H s E e s'') (fun e' s''=>CX outer H s E e' s'') s'
theorem Ha{sc:Scope}{n:Nat}{x:Str}(h:sc.names.lookup x=some .cell):∃c,(cellsFrom n sc.names []).lookup x=some c:=by
 have q:=PySem.W.cellsFrom_some sc.names n [] (.inl h);exact Option.isSome_iff_exists.mp q
theorem LZ{CX:Nd}{P:Program}{w:World}{K:PySem.W.Frag}{mg:Str->Option Value}{base:Heap}{N ps:List Str}{qual:Str}{scope:Scope}{f:Addr}{cd:Value}{A:Around}{outer:List Env}{s s1:Shared}{H:Hp}{E:XK}{us:List Value}{vs:List V}
  (S:dD N ps scope) (hd:A.handled=none) (e0:Jl P w K mg base A outer s H) (hl:vs.length=ps.length) (r:Vals vs us)
  (x:InCallC s s.heap.objs.size (bindL (envOfC qual scope s.heap.objs.size f cd).kindOf (ps.zip us) fun _=>none) (cellsFrom (s.heap.objs.size+1) scope.names []) (bindC (envOfC qual scope s.heap.objs.size f cd).kindOf (ps.zip us) fun _=>none) s1):
  Inv (Fx CX P w K mg base N qual scope f cd A outer s H E) [] (start N vs) H s1:=by
 have hpl:ps.length<=N.length:=by have:=congrArg List.length S.pre;rw[aC] at this;lia
 obtain⟨h1,tk,rfl,hk⟩:=x.done;have noA:∀b:Addr,b∉(Fx CX P w K mg base N qual scope f cd A outer s H E).ex:=fun b z=>absurd (show b∈([]:List Addr) from z) (by simp)
 refine⟨⟨e0.mod,S.kind,rfl,rfl,ai _,fun y z c h1 h2=> ?_,fun y hy=> ?_,fun y c _ h=> ?_,fun _=>hd,Around.frames_deeper e0.frames,.inr ⟨rfl,rfl⟩,fun b z=>absurd z (noA b),e0.bs,e0.PJ,fun b _ _=>noA b,fun b z=>absurd z (noA b),e0.AO,e0.RI⟩,
  rfl,e0.bare,Un.kept hk,⟨_,x.toInCall.ns,fun i y v h1 h2 h3=> ?_⟩,fun y c h=>⟨_,x.cell y c h⟩,e0.iI.fresh (ai _),fun y c h=> ?_,fun p hp=>absurd (show p∈([]:List (Addr×Obj)) from hp) (by simp),e0.iI.kept hk,?_⟩
 ·exact name_of_addr x.apart (a7 h1) (a7 h2)
 ·have hy:scope.names.lookup y=some .cell\/scope.names.lookup y=some .free:=hy;rcases hy with hy |hy
  ·exact Ha hy
  ·exact absurd rfl (S.RT _ (a7 hy))
 ·exact b5 (x.above y c (a7 h))
 ·have hi:i<vs.length:=by
   unfold start at h2;by_cases hi:i<vs.length
   ·exact hi
   ·rw[bw (by simpa using hi)] at h2;rw[b8] at h2;split at h2 <;>cases h2
  have ha:vs[i]? =some v:=by
   unfold start at h2;rw[bZ (by simpa using hi),aA] at h2;cases e:vs[i]? with
   |none=>rw[e] at h2;cases h2
   |some a=>rw[e] at h2;cases h2;rfl
  obtain⟨u,hu,rv⟩:=r.get ha;have hp:ps[i]? =some y:=by
   rw[<-S.pre,List.getElem?_take_of_lt (by lia)];exact h1
  have ndP:ps.Nodup:=by rw[<-S.pre];exact S.nd.sublist (List.take_sublist _ _)
  refine⟨u,rv,?_⟩;rcases S.par y (aB hp) with k |k
  ·exact .inl ⟨k,Ee ndP hp hu k⟩
  ·obtain⟨c,e⟩:=Ha (n:=s.heap.objs.size+1) k;refine .inr ⟨.inl k,c,e,?_⟩;have q:=x.cell y c e;rw[Ef ndP hp hu (by show scope.names.lookup y≠_;rw[k];decide)] at q;exact q
 ·exact e0.iI.fresh (b5 (x.above y c (a7 h)))
 ·unfold start;show _=N.length;rw[ay,lMp,aP];lia
theorem TR{CX:Nd}{P:Program}{w:World}{K:PySem.W.Frag}{mg:Str->Option Value}{base:Heap}{k:Nat}{f:Addr}{name qual:Str}{params:Arguments}{body:List Stmt}{scope:Scope}{dV kV doc pm cdv ct oc:Value}{an od:Option Addr}
  {osl:Array (Option Value)} {N ps:List Str} {sp:Sp} (lk:K.lookup f=some ⟨oc,od,.func (PySem.W.fnOf name qual params body scope dV kV doc pm an cdv ct),osl⟩) (hcd:PySem.W.codeIn K cdv qual=true) (S:dD N ps scope)
  (len:∀vs H Q E,sp vs H Q E->vs.length=ps.length)
  (hbody:∀(A:Around) (outer:List Env) (s:Shared) (H:Hp) (vs:List V) (Q:VK) (E:XK),kg k (A.deeper (envOfC qual scope s.heap.objs.size f cdv))->sp vs H Q E->
   ∃t,Ja (Fx CX P w K mg base N qual scope f cdv A outer s H E) body t/\t {nx:=fun _ H'=>Q .jP H',rt:=Q} (start N vs) H):
  qr P w K mg base CX (k+1) f (PySem.W.fnOf name qual params body scope dV kV doc pm an cdv ct) ps sp:=by
 refine⟨len,fun A outer s H args us vs Q E hr e0 hb r hsp=> ?_⟩;have hl:=len _ _ _ _ hsp;have KX:K.In s.heap:=e0.mod.Tc.keeps fun b o e=>(e0.bs b o e).1
 have lim:s.heap.NoLimit:=e0.mod.nolimit.keeps fun b o e=>(e0.bs b o e).1
 have hkind:∀y∈ps.zip us,scope.names.lookup y.1=some .local\/(scope.names.lookup y.1=some .cell/\((cellsFrom (s.heap.objs.size+1) scope.names []).lookup y.1).isSome=true):=fun⟨n,v⟩ hy=>by
  rcases S.par n (List.of_mem_zip hy).1 with q |q
  ·exact .inl q
  ·exact .inr ⟨q,PySem.W.cellsFrom_some _ _ _ (.inl q)⟩
 refine codeAny_call_function hr.depth (KX _ _ lk) rfl S.co S.gen rfl (PySem.W.codeRec_of KX hcd) (hb _ _ _ _ ?_);refine wpAny_newFunctionEnv_cells S.kind hkind fun env he s1 x=> ?_
 subst he;refine⟨lim.keeps x.toInCall.keep,codeAny_func ?_⟩;obtain⟨t,ht,hq⟩:=hbody A outer s H vs Q E (hr.deeper _) hsp;have I:Inv (Fx CX P w K mg base N qual scope f cdv A outer s H E) [] (start N vs) H s1:=LZ S hr.hd e0 hl r x;refine wpAny_mono (ht [] s1 (start N vs) H _ I hq) (fun fl s' hs=> ?_) fun e s' hs=>hs
 have fin:∀{σ':St} {H':Hp} {v:V} {u:Value},Inv (Fx CX P w K mg base N qual scope f cdv A outer s H E) [] σ' H' s'->RelV v u->Q v H'->CE outer P w H s Q u s':=
  fun{σ' H' v u} J rv q=>⟨v,H',J.os,J.bare,J.base,J.iI,rv,q⟩
 cases fl with
 |ret u=>
  obtain⟨v,σ',H',J,rv,q⟩:=hs;exact fin J rv q
 |next=>
  obtain⟨σ',H',J,q⟩:=hs;exact fin (v:=V.jP) (u:=Value.none) J rfl q
 |brk=>
  obtain⟨_,_,_,q⟩:=hs;exact False.elim q
 |cont=>
  obtain⟨_,_,_,q⟩:=hs;exact False.elim q
section
variable {X:Cx}{x:Str}{p pos:Pos}{e:Expr}{es:List Expr}{t:TA}{id T:String}{r:List V->Hp->VK->Prop}
noncomputable def VQ (r:List V->Hp->VK->Prop) (t:TA):TE:=fun σ H Q=>t σ H fun vs H1=>r vs H1 Q
theorem d5(hc:mI X (.builtin id) r)(hg:Gl X x)(hm:X.mg x=none)(hv:bootBuiltins x=some (.builtin id))(ha:PA X (e::es) t)(hn:x≠"__name__":=by decide)(hdb:(x==("__debug__":Str))=false:=by decide)
  (he:starEach (e::es) X.env=(false,eval e X.env)::starEach es X.env:=by rfl) (hpl:(backTo pos (starEach es X.env)).any (·.1)=false:=by rfl):PE X (.Call (.Name x p) (e::es) [] pos) (VQ r t):=by
 intro pins s σ H Q I h;refine wpAny_Call_Name_kw (sX I hg hm hv ?_ hn hdb);exact PyProof.Rows.callWith_builtin1 (ij (ha pos pins s σ H _ I h) fun us s1 ⟨vs,H1,I1,r1,q1⟩=>hc pins s1 σ H1 vs us Q I1 r1 q1) he hpl
theorem yN(hc:mI X (.type T) r)(hg:Gl X x)(hm:X.mg x=none)(hv:bootBuiltins x=some (.type T))(ha:PA X (e::es) t)(hn:x≠"__name__":=by decide)(hdb:(x==("__debug__":Str))=false:=by decide)
  (he:starEach (e::es) X.env=(false,eval e X.env)::starEach es X.env:=by rfl) (hpl:(backTo pos (starEach es X.env)).any (·.1)=false:=by rfl):PE X (.Call (.Name x p) (e::es) [] pos) (VQ r t):=by
 intro pins s σ H Q I h;refine wpAny_Call_Name_kw (sX I hg hm hv ?_ hn hdb);exact br (ij (ha pos pins s σ H _ I h) fun us s1 ⟨vs,H1,I1,r1,q1⟩=>hc pins s1 σ H1 vs us Q I1 r1 q1) he hpl
end
end L2
namespace HT
open PySem PyProof.Rows
section
variable {prog:Program}{w:World}{A:Around}{E:Value->Shared->Prop}{s:Shared}
noncomputable def Dz (n d:Nat):Option Int->Nat
 |none=>d
 |some v=>if v<0 then(v+(n:Int)).toNat else min v.toNat n
theorem NF(n d:Nat):Dz n d none=d:=rfl
theorem rg(n d k:Nat):Dz n d (some (k:Int))=min k n:=by
 show(if(k:Int)<0 then((k:Int)+(n:Int)).toNat else min (k:Int).toNat n)=min k n;rw[af (by lia),a8]
end
end HT
namespace L2
open PySem PySem.Spec PyProof.Rows
noncomputable abbrev TO:=St->Hp->(Option Int->Hp->Prop)->Prop
noncomputable def PO (X:Cx) (e:Option Expr) (t:TO):Prop:=
 ∀(pins:List (Addr×Obj)) (s:Shared) (σ:St) (H:Hp) (Q:Option Int->Hp->Prop),Inv X pins σ H s->t σ H Q->
  wpAny (model X.prog X.w) X.A (evalPart e X.env) (fun u s'=>∃o H',Inv X pins σ H' s'/\IsPart u o/\Q o H') X.xe s
noncomputable def KI:TO:=fun _ H Q=>Q none H
noncomputable def Rf (t:TE):TO:=fun σ H Q=>t σ H fun x H1=>∃i,x= .int i/\Q (some i) H1
section
variable {X:Cx}{e:Expr}{te:TE}{lo hi:Option Expr}{tl th:TO}{pos p2:Pos}
theorem Fy:PO X none KI:=by
 intro pins s σ H Q I h;rw[evalPart_none];exact wpAny_pure ⟨none,H,I,.none,h⟩
theorem rh(h:PE X e te):PO X (some e) (Rf te):=by
 intro pins s σ H Q I hw;rw[evalPart_some];refine ij (h pins s σ H _ I hw) fun u s1 ⟨x,H1,I1,r1,q1⟩=> ?_
 obtain⟨i,rfl,q⟩:=q1;obtain⟨t,rfl⟩:=r1;exact⟨some i,H1,I1,.int i t,q⟩
noncomputable def U7 (X:Cx) (r:V->Option Int->Option Int->Hp->VK->Prop):Prop:=
 ∀(pins:List (Addr×Obj)) (s:Shared) (σ:St) (H:Hp) (x:V) (v vl vu:Value) (lo hi:Option Int) (sl:Addr) (Q:VK),Inv X pins σ H s->RelV x v->s.heap.IsSliceOf sl vl vu .none->IsPart vl lo->IsPart vu hi->r x lo hi H Q->
  ∃T id,typeLookup (.type T) "__getitem__"=pure (some (.builtin id))/\s.TypeIs v T/\wpAny (model X.prog X.w) X.A (getItem v (.ref sl)) (EP X pins σ Q) X.xe s
noncomputable def VR (r:V->Option Int->Option Int->Hp->VK->Prop) (te:TE) (tl th:TO):TE:=fun σ H Q=>te σ H fun x H1=>tl σ H1 fun l H2=>th σ H2 fun u H3=>r x l u H3 Q
theorem tu{r:V->Option Int->Option Int->Hp->VK->Prop}(hr:U7 X r)(he:PE X e te)(hl:PO X lo tl)(hu:PO X hi th):PE X (.Subscript e (.Slice lo hi none p2) pos) (VR r te tl th):=by
 intro pins s σ H Q I h;refine Subscript_ (ij (he pins s σ H _ I h) fun v s1 ⟨x,H1,I1,r1,q1⟩=> ?_);refine wpAny_Slice (ij (hl pins s1 σ H1 _ I1 q1) fun vl s2 ⟨l,H2,I2,pl,q2⟩=>ij (hu pins s2 σ H2 _ I2 q2) fun vu s3 ⟨u,H3,I3,pu,q3⟩=> ?_);rw[evalPart_none];refine wpAny_pure ?_;have I4:Inv X pins σ H3 {s3 with heap:=s3.heap.push {cls:= .type "slice",data:= .fields #[vl,vu,.none]}}:=I3.kept (t':=s3.toks) fun b ob q=>Heap.get?_push_of_some _ q
 obtain⟨T,id,hT,ht,hg⟩:=hr pins {s3 with heap:=s3.heap.push {cls:= .type "slice",data:= .fields #[vl,vu,.none]}} σ H3 x v vl vu l u s3.heap.objs.size Q I4 r1 (Heap.IsSliceOf.new ..) pl pu q3;show wpAny (model X.prog X.w) X.A (subscriptTail e (.Slice lo hi none p2) v (.ref s3.heap.objs.size)) (EP X pins σ Q) X.xe {s3 with heap:=s3.heap.push {cls:= .type "slice",data:= .fields #[vl,vu,.none]}};exact tail_any (ops:=[.ref s3.heap.objs.size,v]) ht hT hg (by with_unfolding_all rfl)
noncomputable def vD (xs:List V) (lo hi:Option Int):List V:=(xs.drop (HT.Dz xs.length 0 lo)).take (HT.Dz xs.length xs.length hi - HT.Dz xs.length 0 lo)
theorem Hb(xs:List V)(lo hi:Option Int):(vD xs lo hi).length<=xs.length:=by
 unfold vD;rw[aC,bC];lia
end
noncomputable def NG (n:Nat) (i:Int):Option Nat:=if 0<=i then(if i<n then some i.toNat else none) else if -(n:Int)<=i then some (i+n).toNat else none
noncomputable def L1 {α:Type} (xs:List α) (i:Int):Option α:=(NG xs.length i).bind fun j=>xs[j]?
theorem KJ{n:Nat}{i:Int}{j:Nat}(h:NG n i=some j):seqIndex? i n=some j/\j<n/\-(n:Int)<=i/\i<n:=by
 unfold NG at h;by_cases h0:0<=i
 ·rw[ah h0] at h;by_cases h1:i<n
  ·rw[ah h1] at h;have e:i.toNat=j:=aX h;exact⟨by rw[seqIndex_of h0 h1,e],by lia,by lia,h1⟩
  ·rw[af h1] at h;cases h
 ·rw[af h0] at h;by_cases h1: -(n:Int)<=i
  ·rw[ah h1] at h;have e:(i+n).toNat=j:=aX h;exact⟨by rw[seqIndex_neg (by lia) h1,e],by lia,h1,by lia⟩
  ·rw[af h1] at h;cases h
theorem KL{α:Type}{xs:List α}{i:Int}{v:α}(h:L1 xs i=some v):∃j,seqIndex? i xs.length=some j/\xs[j]? =some v/\j<xs.length/\-(xs.length:Int)<=i/\i<xs.length:=by
 unfold L1 at h;cases e:NG xs.length i with
 |none=>rw[e] at h;cases h
 |some j=>
  rw[e] at h;obtain⟨h1,h2,h3,h4⟩:=KJ e;exact⟨j,h1,h,h2,h3,h4⟩
theorem Qb{α:Type}{xs:List α}{j:Nat}{v:α}(h:xs[j]? =some v):L1 xs (j:Int)=some v:=by
 have hj:j<xs.length:=(bf.mp h).1;have e:NG xs.length (j:Int)=some j:=by
  unfold NG;rw[ah (by lia),ah (by lia)];simp
 unfold L1;rw[e];exact h
noncomputable def Qc (b:Expr):Prop:=∀o i,subscripted b false o i=operate [o,i] (getItem o i)
noncomputable def TU (X:Cx) (r:R2):Prop:=
 ∀(value slice:Expr) (pins:List (Addr×Obj)) (s:Shared) (σ:St) (H:Hp) (x y:V) (v u:Value) (Q:VK),Inv X pins σ H s->RelV x v->RelV y u->r x y H Q->
  subscripted slice false v u=operate [v,u] (getItem v u)->wpAny (model X.prog X.w) X.A (subscriptTail value slice v u) (EP X pins σ Q) X.xe s
noncomputable def V5 (X:Cx) (id:String) (r:V->List V->Hp->VK->Prop):Prop:=
 ∀(pins:List (Addr×Obj)) (s:Shared) (σ:St) (H:Hp) (x:V) (xs:List V) (v:Value) (us:List Value) (Q:VK),Inv X pins σ H s->RelV x v->Vals xs us->r x xs H Q->
  wpAny (model X.prog X.w) X.A (call (.builtin id) (v::us)) (EP X pins σ Q) X.xe s
section
variable {X:Cx}{a b:Expr}{ta tb:TE}{pos:Pos}
theorem dW{r:R2}(hr:TU X r)(ha:PE X a ta)(hb:PE X b tb)(hs:Qc b):PE X (.Subscript a b pos) (Rb r ta tb):=by
 intro pins s σ H Q I h;exact Subscript_ (RQ ha hb I h fun v u s2 x y H2 I2 rx ry q=>hr a b pins s2 σ H2 x y v u Q I2 rx ry q (hs _ _))
noncomputable def RU (K:PySem.W.Frag):R2:=fun x y H Q=>∃p xs i v,x= .ref p/\y= .int i/\ly K H p xs/\L1 xs i=some v/\Q v H
noncomputable def TV (K:PySem.W.Frag):R2:=fun x y H Q=>∃p xs i v,x= .ref p/\y= .int i/\Du K H p xs/\L1 xs i=some v/\Q v H
theorem Qe:TU X (RU X.K):=by
 intro value slice pins s σ H x y v u Q I rx ry h hs;obtain⟨p,xs,i,z,rfl,rfl,hq,he,q⟩:=h;cases rx
 obtain⟨t,rfl⟩:=ry;obtain⟨its,r,pl,hz⟩:=I.list hq;obtain⟨j,h1,h2,h3,h4,h5⟩:=KL he;obtain⟨w,ew,rw'⟩:=r.get h2;have hl:=r.length;have hn:=yL;have fin:EP X pins σ Q w s:=⟨z,H,I,rw',q⟩;by_cases h0:0<=i
 ·have hj:i.toNat=j:=by
   rw[seqIndex_of h0 h5] at h1;exact aX h1
  exact item_listR pl.isList h0 (by lia) (by rw[hj];simpa using ew) fin hs
 ·have hj:(i+(its.toArray.size:Int)).toNat=j:=by
   rw[seqIndex_neg (by lia) h4] at h1;rw[aI,<-hl];exact aX h1
  exact subscriptTail_builtinR (x:=w) pl.isList.typeIs slot_list_getitem.lookup
   (wpAny_getItem_list_neg (Q:=fun r s'=>r=w/\EP X pins σ Q r s') pl.isList (by lia) (by rw[aI] <;>lia) (by lia) (by rw[hj];simpa using ew) ⟨rfl,fin⟩) hs
theorem RV:TU X (TV X.K):=by
 intro value slice pins s σ H x y v u Q I rx ry h hs;obtain⟨p,xs,i,z,rfl,rfl,hq,he,q⟩:=h;cases rx
 obtain⟨t,rfl⟩:=ry;obtain⟨its,r,pl,hz⟩:=I.tuple hq;obtain⟨j,h1,h2,h3,h4,h5⟩:=KL he;obtain⟨w,ew,rw'⟩:=r.get h2;have hl:=r.length;have hn:=yL;have fin:EP X pins σ Q w s:=⟨z,H,I,rw',q⟩;exact subscriptTail_builtinR (x:=w) pl.typeIs slot_tuple_getitem.lookup
  (getItem_tuple (j:=j) (Q:=fun r s'=>r=w/\EP X pins σ Q r s') pl (by lia) (by lia) (by rw[aI,<-hl];exact h1) (by simpa using ew) ⟨rfl,fin⟩) hs
theorem Jm(its:List Value)(n j:Nat)(u:Value):Obj.mapSeq (·.setIfInBounds j u) {cls:= .type "list",data:= .seq its.toArray n}={cls:= .type "list",data:= .seq (its.set j u).toArray n}:=by
 simp[Obj.mapSeq]
theorem Inv.lst{pins:List (Addr×Obj)}{σ:St}{H:Hp}{s:Shared}{p:Addr}{xs:List V}(I:Inv X pins σ H s)(h:H p=some (.lst xs)):
  ∃(its:List Value) (n:Nat),Vals xs its/\s.heap.get? p=some {cls:= .type "list",data:= .seq its.toArray n}/\xs.length<=sizeLine:=by
 obtain⟨z,its,n,r,e⟩:=I.iI p _ h;exact⟨its,n,r,e,z⟩
theorem Inv.RW{pins:List (Addr×Obj)}{σ:St}{H:Hp}{s:Shared}{p:Addr}{xs ys:List V}{its its':List Value}{n n':Nat}{f:Obj->Obj}(I:Inv X pins σ H s)(h:H p=some (.lst xs))
  (ho:s.heap.get? p=some {cls:= .type "list",data:= .seq its.toArray n}) (hf:f {cls:= .type "list",data:= .seq its.toArray n}={cls:= .type "list",data:= .seq its'.toArray n'}) (r:Vals ys its') (hz:ys.length<=sizeLine) (t:Nat):
  Inv X pins σ (upd H p (.lst ys)) {s with heap:=s.heap.update p f,toks:=t}:=by
 have e:(s.heap.update p f).get? p=some {cls:= .type "list",data:= .seq its'.toArray n'}:=by
  rw[Heap.get?_update_self f ho (by rw[hf] <;>rfl),hf]
 refine I.write (x:=p) (e:=p) (by rw[h];trivial) (.inl rfl) (fun b u hb q=>(Heap.get?_update_other _ _ (bK hb)).trans q) ⟨_,e⟩ ?_;exact⟨hz,its',n',r,e⟩
noncomputable def TX:V->V->V->Hp->(Hp->Prop)->Prop:=fun o i v H Q=>∃p xs k j,o= .ref p/\i= .int k/\H p=some (.lst xs)/\NG xs.length k=some j/\Q (upd H p (.lst (xs.set j v)))
theorem set_list:RL X TX:=by
 intro pins s σ H o i v ov iv u Q I ro ri rv h;obtain⟨p,xs,k,j,rfl,rfl,hp,hj,q⟩:=h;cases ro
 obtain⟨t,rfl⟩:=ri;obtain⟨its,n,r,ho,hz⟩:=I.lst hp;obtain⟨h1,h2,h3,h4⟩:=KJ hj;have hl:=r.length;have hn:=yL;have I':Inv X pins σ (upd H p (.lst (xs.set j v))) {s with heap:=s.heap.update p (Obj.mapSeq (·.setIfInBounds j u))}:=
  I.RW hp ho (Jm its n j u) (r.set rv j) (by rw[bW];exact hz) s.toks
 by_cases h0:0<=k
 ·have hk:k.toNat=j:=by
   rw[seqIndex_of h0 h4] at h1;exact aX h1
  exact PySem.W.ki_setAt ho h0 (by lia) (by rw[aI,<-hl];exact h4) (by rw[hk];exact⟨_,I',q⟩)
 ·have hk:(k+(its.toArray.size:Int)).toNat=j:=by
   rw[seqIndex_neg (by lia) h3] at h1;rw[aI,<-hl];exact aX h1
  exact PySem.W.ki_setBack ho (by lia) (by rw[aI,<-hl];exact h3) (by lia) (by rw[hk];exact⟨_,I',q⟩)
theorem Fz(lo hi:Option Int)(n:Nat):(sliceBounds lo hi none n).1=((HT.Dz n 0 lo:Nat):Int)/\(sliceBounds lo hi none n).2.1=((HT.Dz n n hi:Nat):Int)/\(sliceBounds lo hi none n).2.2=1:=by
 refine⟨?_,?_,rfl⟩
 ·cases lo with
  |none=>simp[sliceBounds,HT.Dz]
  |some i=>
   simp only[sliceBounds,HT.Dz,Option.getD_none,show(1:Int)>0 by decide,if_true];by_cases h:i<0
   ·simp only[h,if_true] <;>lia
   ·simp only[h,if_false] <;>lia
 ·cases hi with
  |none=>simp[sliceBounds,HT.Dz]
  |some i=>
   simp only[sliceBounds,HT.Dz,Option.getD_none,show(1:Int)>0 by decide,if_true];by_cases h:i<0
   ·simp only[h,if_true] <;>lia
   ·simp only[h,if_false] <;>lia
theorem DA(its:List Value)(lo hi:Option Int):slicePick its.toArray lo hi none=((its.drop (HT.Dz its.length 0 lo)).take (HT.Dz its.length its.length hi - HT.Dz its.length 0 lo)).toArray:=by
 obtain⟨h1,h2,h3⟩:=Fz lo hi its.toArray.size;unfold slicePick;rw[h1,h2,h3];simp only[sliceRange_one,pick_run,aI] <;>rfl
noncomputable def RX (K:PySem.W.Frag):V->Option Int->Option Int->Hp->VK->Prop:=fun x lo hi H Q=>∃a xs,x= .ref a/\ly K H a xs/\∀p,H p=none->Q (.ref p) (upd H p (.lst (vD xs lo hi)))
theorem Qg:U7 X (RX X.K):=by
 intro pins s σ H x v vl vu lo hi sl Q I rx hs pl pu h;obtain⟨a,xs,rfl,hx,q⟩:=h;cases rx
 obtain⟨its,r,ht,hz⟩:=I.list hx;have hlen:=r.length;refine⟨"list",_,slot_list_getitem.lookup,ht.isList.typeIs,?_⟩;refine wpAny_getItem_list_slice ht.isList hs pl pu .none (by simp) ?_ (by rw[aI] <;>lia);rw[DA,<-hlen];refine⟨.ref s.heap.objs.size,_,I.laid (t':=s.toks) (o:= .lst (vD xs lo hi)) (fun b ob q=>Heap.get?_push_of_some _ q) (ai _) ?_,rfl,q _ (I.iI.fresh (ai _))⟩;exact⟨aw (Hb xs lo hi) hz,_,0,(r.drop (HT.Dz xs.length 0 lo)).take (HT.Dz xs.length xs.length hi - HT.Dz xs.length 0 lo),Heap.get?_push_size _ rfl⟩
noncomputable def Ah:V->Bool
 | .jP=>true
 | .bl _=>true
 | .int _=>true
 | .str _=>true
 |_=>false
noncomputable def L3:V->V->Bool
 | .jP,.jP=>true
 | .bl a,.bl b=>a==b
 | .bl a,.int b=>(if a then 1 else 0)==b
 | .int a,.bl b=>a==(if b then 1 else 0)
 | .int a,.int b=>a==b
 | .str a,.str b=>a==b
 |_,_=>false
theorem RY{A:Around}{s:Shared}{y x:V}{u v:Value}(ry:RelV y u)(rx:RelV x v)(fy:Ah y=true)(fx:Ah x=true):SeqAt.EqAt A s u v (L3 y x):=by
 cases y with
 |jP=>
  cases ry
  cases x with
  |jP=>cases rx;exact SeqAt.EqAt.same _
  |bl b=>cases rx;exact SeqAt.EqAt.none_bool b
  |int b=>obtain⟨t,rfl⟩:=rx;exact SeqAt.EqAt.none_int b t
  |str b=>obtain⟨t,rfl⟩:=rx;exact SeqAt.EqAt.none_str b t
  |_=>exact absurd (show false=true from fx) aM
 |bl a=>
  cases ry
  cases x with
  |jP=>cases rx;exact SeqAt.EqAt.bool_none a
  |bl b=>cases rx;exact SeqAt.EqAt.bool_bool a b
  |int b=>obtain⟨t,rfl⟩:=rx;exact SeqAt.EqAt.bool_int a b t
  |str b=>obtain⟨t,rfl⟩:=rx;exact SeqAt.EqAt.bool_str a b t
  |_=>exact absurd (show false=true from fx) aM
 |int a=>
  obtain⟨t',rfl⟩:=ry;cases x with
  |jP=>cases rx;exact SeqAt.EqAt.int_none a t'
  |bl b=>cases rx;exact SeqAt.EqAt.int_bool a t' b
  |int b=>obtain⟨t,rfl⟩:=rx;exact SeqAt.EqAt.int_int a t' b t
  |str b=>obtain⟨t,rfl⟩:=rx;exact SeqAt.EqAt.int_str a t' b t
  |_=>exact absurd (show false=true from fx) aM
 |str a=>
  obtain⟨t',rfl⟩:=ry;cases x with
  |jP=>cases rx;exact SeqAt.EqAt.str_none a t'
  |bl b=>cases rx;exact SeqAt.EqAt.str_bool a t' b
  |int b=>obtain⟨t,rfl⟩:=rx;exact SeqAt.EqAt.str_int a t' b t
  |str b=>obtain⟨t,rfl⟩:=rx;exact SeqAt.EqAt.str_str a t' b t
  |_=>exact absurd (show false=true from fx) aM
 |_=>exact absurd (show false=true from fy) aM
noncomputable def Jn (x:V) (u:Value):Bool:=match u with
 | .none=>L3 .jP x
 | .bool b=>L3 (.bl b) x
 | .int i _=>L3 (.int i) x
 | .str z _=>L3 (.str z) x
 |_=>false
theorem NH{x y:V}{u:Value}(r:RelV y u)(f:Ah y=true):Jn x u=L3 y x:=by
 cases y with
 |jP=>cases r;rfl
 |bl b=>cases r;rfl
 |int i=>obtain⟨t,rfl⟩:=r;rfl
 |str z=>obtain⟨t,rfl⟩:=r;rfl
 |_=>exact absurd (show false=true from f) aM
theorem wX{x:V}:∀{xs:List V} {us:List Value},Vals xs us->xs.all Ah=true->us.any (Jn x)=xs.any fun y=>L3 y x
 |_,_,.nil,_=>rfl
 |y::xs,u::us,.cons r t,f=>by
  rw[List.all_cons,aF] at f;rw[cg,cg,NH r f.1,wX t f.2]
theorem tx{A:Around}{s:Shared}{x:V}{v:Value}(rx:RelV x v)(fx:Ah x=true):∀{xs:List V} {us:List Value},Vals xs us->xs.all Ah=true->∀u∈us,SeqAt.EqAt A s u v (Jn x u)
 |_,_,.nil,_=>fun u hu=>by cases hu
 |y::xs,u::us,.cons r t,f=>fun u' hu=>by
  rw[List.all_cons,aF] at f;rcases aH.mp hu with rfl |hu
  ·rw[NH r f.1];exact RY r rx f.1 fx
  ·exact tx rx fx t f.2 u' hu
noncomputable def KN (x:V) (xs:List V):Bool:=xs.any fun y=>L3 y x
noncomputable def UJ (K:PySem.W.Frag) (neg:Bool):R2:=fun x y H Q=>∃p xs,y= .ref p/\(ly K H p xs\/Du K H p xs)/\Ah x=true/\xs.all Ah=true/\Q (.bl (if neg then !KN x xs else KN x xs)) H
theorem L4:wV X (compareOp .In) (UJ X.K false):=by
 intro pins s σ H x y v u Q I rx ry h;obtain⟨p,xs,rfl,hq,fx,fs,q⟩:=h;cases ry
 rcases hq with hq |hq
 ·obtain⟨its,r,pl,hz⟩:=I.list hq;refine SeqAt.in_listAt (Jn x) pl.isList (fun w hw=>tx rx fx r fs w (by simpa using hw)) ⟨.bl _,H,I,rfl,?_⟩;rw[show its.toArray.any (Jn x)=its.any (Jn x) by simp,wX r fs];exact q
 ·obtain⟨its,r,pl,hz⟩:=I.tuple hq;refine SeqAt.in_tupleAt (Jn x) pl (fun w hw=>tx rx fx r fs w (by simpa using hw)) ⟨.bl _,H,I,rfl,?_⟩;rw[show its.toArray.any (Jn x)=its.any (Jn x) by simp,wX r fs];exact q
theorem FA:wV X (compareOp .NotIn) (UJ X.K true):=by
 intro pins s σ H x y v u Q I rx ry h;obtain⟨p,xs,rfl,hq,fx,fs,q⟩:=h;cases ry
 rcases hq with hq |hq
 ·obtain⟨its,r,pl,hz⟩:=I.list hq;refine SeqAt.notIn_listAt (Jn x) pl.isList (fun w hw=>tx rx fx r fs w (by simpa using hw)) ⟨.bl _,H,I,rfl,?_⟩;rw[show its.toArray.any (Jn x)=its.any (Jn x) by simp,wX r fs];exact q
 ·obtain⟨its,r,pl,hz⟩:=I.tuple hq;refine SeqAt.notIn_tupleAt (Jn x) pl (fun w hw=>tx rx fx r fs w (by simpa using hw)) ⟨.bl _,H,I,rfl,?_⟩;rw[show its.toArray.any (Jn x)=its.any (Jn x) by simp,wX r fs];exact q
theorem FC:mI X (.builtin "len") (fun xs H Q=>∃p ys,xs=[.ref p]/\(ly X.K H p ys\/Du X.K H p ys)/\Q (.int ys.length) H):=by
 intro pins s σ H xs us Q I r h;obtain⟨p,ys,rfl,hq,q⟩:=h;obtain⟨u,rfl,rx⟩:=vals1 r;cases rx
 have hn:=yL;rcases hq with hq |hq
 ·obtain⟨its,r',pl,hz⟩:=I.list hq;have hlen:=r'.length;exact Calls.call_len_list pl.isList (by simp only[aI] <;>lia) ⟨.int ys.length,H,I.tok _,⟨s.toks+1,by rw[aI,hlen]⟩,q⟩
 ·obtain⟨its,r',pl,hz⟩:=I.tuple hq;have hlen:=r'.length;exact len_tuple pl (by simp only[aI] <;>lia) ⟨.int ys.length,H,I.tok _,⟨s.toks+1,by rw[aI,hlen]⟩,q⟩
theorem FD:mI X (.type "list") (fun xs H Q=>∃p ys,xs=[.ref p]/\(ly X.K H p ys\/Du X.K H p ys)/\∀l,H l=none->Q (.ref l) (upd H l (.lst ys))):=by
 intro pins s σ H xs us Q I r h;obtain⟨p,ys,rfl,hq,q⟩:=h;obtain⟨u,rfl,rx⟩:=vals1 r;cases rx
 have fin:∀(its:List Value),Vals ys its->ys.length<=sizeLine->∀(h':Heap) (c':Nat),(∀b o',s.heap.get? b=some o'->h'.get? b=some o')->
   h'.get? s.heap.objs.size=some {cls:= .type "list",dict:=none,data:= .seq its.toArray c',slots:= #[]}->EP X pins σ Q (.ref s.heap.objs.size) {s with heap:=h'}:=fun its r' hz h' c' kp e=>
  ⟨.ref s.heap.objs.size,_,I.laid (t':=s.toks) kp (ai _) (show j9 X.prog X.w _ h' _ (.lst ys) from⟨hz,its,c',r',e⟩),rfl,q _ (I.iI.fresh (ai _))⟩
 rcases hq with hq |hq
 ·obtain⟨its,r',pl,hz⟩:=I.list hq;have hlen:=r'.length;obtain⟨o,ho,hc,n,hd⟩:=pl.isList;exact call_list_seq p (.inl rfl) ho hc hd (fun h' c' kp e=>fin its r' hz h' c' kp e) (by simp only[aI] <;>lia)
 ·obtain⟨its,r',pl,hz⟩:=I.tuple hq;have hlen:=r'.length;obtain⟨o,ho,hc,n,hd⟩:=pl;exact call_list_seq p (.inr rfl) ho hc hd (fun h' c' kp e=>fin its r' hz h' c' kp e) (by simp only[aI] <;>lia)
noncomputable def VS (K:PySem.W.Frag) (T:String) (x:V) (H:Hp):Prop:=match x with
 | .str _=>T="str"
 | .int _=>T="int"
 | .ref p=>(T="list"/\∃xs,ly K H p xs)\/(T="tuple"/\∃o,K.lookup p=some o/\o.cls= .type "tuple"/\o.dict=none)\/
   (T="dict"/\((∃kvs,H p=some (.dK kvs))\/∃kvs,H p=some (.dT kvs)))\/(T="set"/\∃S n,H p=some (.set S n))
 |_=>False
theorem RZ{pins:List (Addr×Obj)}{σ:St}{H:Hp}{s:Shared}{T:String}{x:V}{v:Value}(I:Inv X pins σ H s)(r:RelV x v)(ty:VS X.K T x H):
  s.TypeIs v T/\∀a,v= .ref a->∃ob,s.heap.get? a=some ob/\ob.dict=none:=by
 cases x with
 |str z=>
  obtain⟨t,rfl⟩:=r;cases(show T="str" from ty)
  exact⟨typeIs_str s z t,fun _ e=>nomatch e⟩
 |int i=>
  obtain⟨t,rfl⟩:=r;cases(show T="int" from ty)
  exact⟨typeIs_int s i t,fun _ e=>nomatch e⟩
 |ref p=>
  cases r
  rcases ty with⟨rfl,xs,hq⟩ |⟨rfl,o,hk,hc,hd⟩ |⟨rfl,hk⟩ |⟨rfl,S,n,hk⟩
  ·obtain⟨its,_,pl,_⟩:=I.list hq;refine⟨pl.isList.typeIs,fun a e=> ?_⟩;cases e
   obtain⟨o,n,e,c,hd,_⟩:=pl;exact⟨o,e,hd⟩
  ·refine⟨⟨o,I.Nc p o hk,hc⟩,fun a e=> ?_⟩;cases e
   exact⟨o,I.Nc _ o hk,hd⟩
  ·have z:∃o,s.heap.get? p=some o/\o.ExactDict:=by
    rcases hk with⟨kvs,hk⟩ |⟨kvs,hk⟩
    ·obtain⟨_,_,_,_,o,_,_,e,ex,_⟩:=I.iI p _ hk;exact⟨o,e,ex⟩
    ·obtain⟨_,_,_,_,o,_,_,e,ex,_⟩:=I.iI p _ hk;exact⟨o,e,ex⟩
   obtain⟨o,e,ex⟩:=z;refine⟨⟨o,e,ex.1⟩,fun a e2=> ?_⟩;cases e2
   exact⟨o,e,ex.2.1⟩
  ·obtain⟨o,_,_,_,e,ex,_⟩:=I.iI p _ hk;refine⟨⟨o,e,ex.1⟩,fun a e2=> ?_⟩;cases e2
   exact⟨o,e,ex.2.1⟩
 |_=>exact False.elim ty
noncomputable def VT (K:PySem.W.Frag) (T:String) (r:V->List V->Hp->VK->Prop) (to:TE) (t:TA):TE:=fun σ H Q=>to σ H fun x H1=>VS K T x H1/\t σ H1 fun xs H2=>r x xs H2 Q
variable {o e:Expr}{es:List Expr}{to:TE}{t:TA}{name:Str}{apos cpos:Pos}{T id:String}{r:V->List V->Hp->VK->Prop}
theorem pL(pa:PlainAttrs T)(slot:Slot T name id)(hty:typeOf (.builtin id)=pure (.type "method_descriptor"))(hm:V5 X id r)(ho:PE X o to)(ha:PA X (e::es) t)
  (hbase:attributeBase o name X.env (eval o X.env)=eval o X.env:=by rfl)
  (hfew:((backTo cpos (starEach (e::es) X.env)).all (fun x=> !x.1)&&(backToKw cpos (keywordEach [] X.env)).all (fun x=>x.1.isSome)
   &&decide ((e::es).length+([]:List Keyword).length+(if([]:List Keyword).isEmpty then 0 else 1)<30))=true:=by rfl)
  (hline:(apos.endLine==cpos.line)=true:=by rfl) (hs:starEach (e::es) X.env=(false,eval e X.env)::starEach es X.env:=by rfl) (hplain:(backTo cpos (starEach es X.env)).any (·.1)=false:=by rfl):
  PE X (.Call (.Attribute o name apos) (e::es) [] cpos) (VT X.K T r to t):=by
 intro pins s σ H Q I h;refine wpAny_Call_method_late hbase hfew hline rfl (ij (ho pins s σ H _ I h) fun v s1 ⟨x,H1,I1,r1,ty,q1⟩=> ?_);obtain⟨h1,h2⟩:=RZ I1 r1 ty;refine⟨T,id,pa,slot,hty,h1,h2,?_⟩;have hA:=ha cpos pins s1 σ H1 _ I1 q1;rw[hs] at hA⊢;refine Calls.callWith_builtin (by show(false ||(backTo cpos (starEach es X.env)).any (·.1))=false;rw[hplain] <;>rfl) (Calls.evalArgs_plain ?_);exact ij hA fun us s2 ⟨vs,H2,I2,r2,q2⟩=>hm pins s2 σ H2 x vs v us Q I2 r1 r2 q2
end
noncomputable def VU (X:Cx) (id:String) (r:V->List V->Hp->VK->Prop):Prop:=
 ∀(pins:List (Addr×Obj)) (s:Shared) (σ:St) (H:Hp) (x:V) (xs:List V) (v:Value) (us:List Value) (Q:VK),Inv X pins σ H s->RelV x v->Vals xs us->r x xs H Q->
  wpAny (model X.prog X.w) X.A (call (.builtin id) (v::us)) (EP X pins σ Q) X.xe s
theorem Vals.one:∀{x:V} {us:List Value},Vals [x] us->∃u,us=[u]/\RelV x u
 |_,_,.cons r .nil=>⟨_,rfl,r⟩
theorem Vals.rep{xs:List V}{us:List Value}(h:Vals xs us):∀k:Nat,Vals (List.replicate k xs).flatten (List.replicate k us).flatten
 |0=> .nil
 |k+1=>by
  rw[bR,bR,List.flatten_cons,List.flatten_cons];exact Vals.append h (Vals.rep h k)
theorem foldl_rep(its:List Value):∀(k:Nat) (acc:List Value),
  List.foldl (fun x1 x2=>x1 ++ x2) acc.toArray (List.replicate k its.toArray)=(acc ++ (List.replicate k its).flatten).toArray
 |0,acc=>by simp
 |k+1,acc=>by
  have e:acc.toArray ++ its.toArray=(acc ++ its).toArray:=by simp
  have e2:(acc ++ its) ++ (List.replicate k its).flatten=acc ++ (List.replicate (k+1) its).flatten:=by
   rw[bR,List.flatten_cons,cK]
  rw[<-e2,<-foldl_rep its k (acc ++ its),<-e,bR,bz]
section
variable {X:Cx}{pins:List (Addr×Obj)}{σ:St}{H:Hp}{s:Shared}{l b:Addr}{xs ys zs:List V}
theorem Inv.TY{its its':List Value}{n:Nat}{f:Array Value->Array Value}{t':Nat}(I:Inv X pins σ H s)(hH:H l=some (.lst xs))
  (e:s.heap.get? l=some {cls:= .type "list",data:= .seq its.toArray n}) (hf:f its.toArray=its'.toArray) (hv:Vals ys its') (hz:ys.length<=sizeLine):
  Inv X pins σ (upd H l (.lst ys)) {s with heap:=s.heap.update l (Obj.mapSeq f),toks:=t'}:=by
 have q:=PySem.IsL.update e f;rw[hf] at q;refine I.write (x:=l) (e:=l) (by rw[hH];exact trivial) (.inl rfl) (fun b' u hb hu=>(Heap.get?_update_other s.heap (Obj.mapSeq f) (bK hb)).trans hu) ⟨_,q⟩ ?_;exact⟨hz,its',_,hv,q⟩
theorem Inv.TZ{its:List Value}{t':Nat}(I:Inv X pins σ H s)(hv:Vals ys its)(hz:ys.length<=sizeLine):
  Inv X pins σ (upd H s.heap.objs.size (.lst ys)) {s with heap:=s.heap.push {cls:= .type "list",data:= .seq its.toArray},toks:=t'}:=
 I.laid (fun _ _ q=>Heap.get?_push_of_some _ q) (ai _) ⟨hz,its,0,hv,Heap.get?_push_size _ rfl⟩
theorem Inv.fresh(I:Inv X pins σ H s):H s.heap.objs.size=none:=I.iI.fresh (ai _)
theorem Inv.L5(I:Inv X pins σ H s)(hH:H l=some (.lst xs)):xs.length<=sizeLine/\∃(its:List Value) (n:Nat),Vals xs its/\xs.length=its.length/\s.heap.get? l=some {cls:= .type "list",data:= .seq its.toArray n}:=by
 obtain⟨z,its,n,r,e⟩:=I.iI l _ hH;exact⟨z,its,n,r,r.length,e⟩
theorem Hc{n:Nat}(h:n<=sizeLine):Builtin.List.listTooLong n=false:=by
 unfold Builtin.List.listTooLong;exact ao (by lia)
end
section
variable {X:Cx}
noncomputable def KO:V->List V->Hp->VK->Prop:=fun x vs H Q=>∃l xs y,x= .ref l/\vs=[y]/\H l=some (.lst xs)/\xs.length<sizeLine/\Q .jP (upd H l (.lst (xs ++ [y])))
theorem g6:VU X "list.append" KO:=by
 intro pins s σ H x vs v us Q I rx rv h;obtain⟨l,xs,y,rfl,rfl,hH,hz,q⟩:=h;cases rx
 obtain⟨u,rfl,ru⟩:=rv.one;obtain⟨z,its,n,r,hl,e⟩:=I.L5 hH;refine call_meets F.slot_list_append ⟨_,e,rfl⟩ F.entry_list_append (F.args_list_append_2 _ _) (PySem.list_append l its.toArray n u (by rw[aI];lia)) ⟨e,?_⟩;refine⟨.jP,_,I.TY (its':=its ++ [u]) hH e (by simp) (r.append (.cons ru .nil)) ?_,rfl,q⟩;rw[ay,List.length_singleton];lia
noncomputable def Qh:V->List V->Hp->VK->Prop:=fun x vs H Q=>∃l b xs zs,x= .ref l/\vs=[.ref b]/\H l=some (.lst xs)/\H b=some (.lst zs)/\xs.length+zs.length<=sizeLine/\Q .jP (upd H l (.lst (xs ++ zs)))
theorem Eg:VU X "list.extend" Qh:=by
 intro pins s σ H x vs v us Q I rx rv h;obtain⟨l,b,xs,zs,rfl,rfl,hH,hB,hz,q⟩:=h;cases rx
 obtain⟨u,rfl,ru⟩:=rv.one;cases ru
 obtain⟨z,its,n,r,hl,e⟩:=I.L5 hH;obtain⟨z2,its2,n2,r2,hl2,e2⟩:=I.L5 hB;have hsz:its.toArray.size+its2.toArray.size<=sizeLine:=by rw[aI,aI];lia
 have hlong:¬(!its.toArray.isEmpty&&Builtin.List.listTooLong (its.toArray.size+its2.toArray.size))=true:=by
  rw[Hc hsz,Bool.and_false];exact aM
 refine call_meets F.slot_list_extend ⟨_,e,rfl⟩ F.entry_list_extend (F.args_list_extend_2 _ _)
  (AutoSeq1.list_extend_list_list_0 l its.toArray n b its2.toArray n2 hlong (by rw[aI];lia) (by lia)) ⟨e,e2,?_⟩
 refine⟨.jP,_,I.TY (its':=its ++ its2) hH e (by simp) (r.append r2) ?_,rfl,q⟩;rw[ay];lia
noncomputable def R3:R2:=fun x y H Q=>∃l b xs zs,x= .ref l/\y= .ref b/\H l=some (.lst xs)/\H b=some (.lst zs)/\xs.length+zs.length<=sizeLine/\∀p,H p=none->Q (.ref p) (upd H p (.lst (xs ++ zs)))
theorem lF:wV X (binaryOp .Add) R3:=by
 intro pins s σ H x y v u Q I rx ry h;obtain⟨l,b,xs,zs,rfl,rfl,hH,hB,hz,q⟩:=h;cases rx
 cases ry
 obtain⟨z,its,n,r,hl,e⟩:=I.L5 hH;obtain⟨z2,its2,n2,r2,hl2,e2⟩:=I.L5 hB;refine PySem.P.add_list e e2 ?_ (by rw[aI,aI];lia);have ea:its.toArray ++ its2.toArray=(its ++ its2).toArray:=by simp
 rw[ea];exact⟨.ref _,_,I.TZ (t':=s.toks) (r.append r2) (by rw[ay];lia),rfl,q _ I.fresh⟩
noncomputable def U8:R2:=fun x y H Q=>∃l k xs,x= .ref l/\y= .int k/\H l=some (.lst xs)/\-(2^63)<=k/\k<2^63/\xs.length*k.toNat<=sizeLine/\
 ∀p,H p=none->Q (.ref p) (upd H p (.lst (List.replicate k.toNat xs).flatten))
theorem len_rep{α:Type}(xs:List α)(k:Nat):(List.replicate k xs).flatten.length=k*xs.length:=by
 induction k with
 |zero=>simp
 |succ k ih=>rw[bR,List.flatten_cons,ay,ih,cQ,Nat.add_comm]
theorem FE:wV X (binaryOp .Mult) U8:=by
 intro pins s σ H x y v u Q I rx ry h;obtain⟨l,k,xs,rfl,rfl,hH,h1,h2,hz,q⟩:=h;cases rx
 obtain⟨t,rfl⟩:=ry;obtain⟨z,its,n,r,hl,e⟩:=I.L5 hH;have hlen:its.toArray.size*k.toNat<=sizeLine:=by rw[aI,<-hl];exact hz
 have hcap:¬its.toArray.size*k.toNat>(2^63 - 1) / 8:=by
  have:(sizeLine:Nat)<=(2^63 - 1) / 8:=by decide
  lia
 have hfit:¬(!Builtin.List.listFitsIndex k)=true:=by
  rw[fitsIndex_both h1 h2];exact aM
 have hlong:¬Builtin.List.listTooLong (its.toArray.size*k.toNat)=true:=by
  rw[Hc hlen];exact aM
 have hnew:List.foldl (fun x1 x2=>x1 ++ x2) #[] (List.replicate (if its.toArray.isEmpty=true then 0 else k.toNat) its.toArray)=(List.replicate k.toNat its).flatten.toArray:=by
  have f0:∀m:Nat,List.foldl (fun x1 x2=>x1 ++ x2) #[] (List.replicate m its.toArray)=(List.replicate m its).flatten.toArray:=fun m=>by
   have:=foldl_rep its m [];rw[List.nil_append] at this;exact this
  rw[f0];cases its with
  |nil=>simp
  |cons a r'=>rw[af (by simp)]
 refine wpAny_binaryOp_repeat_ref (T:="list") (U:="int") (by decide) ⟨_,e,rfl⟩ (fun s'=>typeIs_int s' k t) noFill_list_mul F.fills_int_mul F.slot_int_rmul repeat_list F.slot_int_index.lookup
  (call_meets F.slot_int_rmul (typeIs_int s k t) F.entry_int_rmul (F.args_int_rmul_2 _ _) (int___rmul___int_list k t l its.toArray n)
   ⟨e,rfl,⟨_,e,rfl⟩,call_meets F.slot_list_mul ⟨_,e,rfl⟩ F.entry_list_mul (F.args_list_mul_2 _ _) (AutoListH.list___mul___list_int_3 l its.toArray n k t hfit hcap hlong) ⟨e,?_⟩⟩)
 rw[hnew];exact⟨.ref _,_,I.TZ (t':=s.toks) (r.rep k.toNat) (by rw[len_rep,Nat.mul_comm];exact hz),rfl,q _ I.fresh⟩
end
theorem Vals.ints:∀{ns:List Int} {us:List Value},Vals (ns.map V.int) us->IntsAre us ns
 |[],us,h=>by
  rw[List.map_nil] at h;cases h
  exact IntsAre.nil
 |n::ns,us,h=>by
  rw[aJ] at h;cases h with
  |cons r t=>
   obtain⟨k,rfl⟩:=r;exact IntsAre.cons n k (Vals.ints t)
theorem Vals.U9:∀{bs:List Bool} {us:List Value},Vals (bs.map V.bl) us->us=bs.map Value.bool
 |[],us,h=>by
  rw[List.map_nil] at h;cases h
  rfl
 |b::bs,us,h=>by
  rw[aJ] at h;cases h with
  |cons r t=>
   cases r
   rw[Vals.U9 t,aJ]
theorem Vals.Qi{a:Addr}{us:List Value}(r:Vals [V.ref a] us):us=[Value.ref a]:=by
 cases r with
 |cons r t=>
  cases t
  cases r
  rfl
section
variable {prog:Program}{w:World}{A:Around}{E:Value->Shared->Prop}{s:Shared}{l:Addr}{its:List Value}{ns:List Int}{Q:Value->Shared->Prop}
theorem Qj(hh:A.handled=none)(hl:s.heap.IsList l its.toArray)(hi:IntsAre its ns)
  (h:∀h' tk t',(∀b o,s.heap.get? b=some o->h'.get? b=some o)->Q (.int ns.sum t') {s with heap:=h',toks:=tk}):wpAny (model prog w) A (call (.builtin "sum") [.ref l]) Q E s:=by
 obtain⟨xs,e⟩:=hi.allInts.items;have hn:numsOf (intItems xs).toList=ns:=by rw[<-e];exact hi.numsOf
 rw[nums_intItems] at hn;rw[e] at hl;refine PySem.sum_intListG hh hl fun h' tk t' hk=> ?_
 have:=h h' tk t' hk;rw[preSum_eq,bg (by simp),hn];exact this
theorem Qk(hh:A.handled=none)(hl:s.heap.IsList l its.toArray)(hi:IntsAre its ns)(hne:0<ns.length)
  (h:∀h' tk M t',(∀b o,s.heap.get? b=some o->h'.get? b=some o)->M∈ns->(∀a,a∈ns->a<=M)->Q (.int M t') {s with heap:=h',toks:=tk}):wpAny (model prog w) A (call (.builtin "max") [.ref l]) Q E s:=by
 obtain⟨xs,e⟩:=hi.allInts.items;have hn:numsOf (intItems xs).toList=ns:=by rw[<-e];exact hi.numsOf
 rw[nums_intItems] at hn;subst hn;rw[e] at hl;have hsz:0<xs.size:=by simpa using hne
 refine PySem.max_intList hh hl hsz fun v h' tk hv hk=> ?_
 obtain⟨t,rfl⟩:=intItems_at hv;obtain⟨h1,h2⟩:=argBest_gt (numAt xs) (xs.size - 1);refine h h' tk _ t hk ?_ fun a ha=> ?_
 ·rw[numAt_eq];exact PySem.getD_mem (by rw[lMp,cY];lia)
 ·obtain⟨j,hj,rfl⟩:=mem_getD ha;rw[lMp,cY] at hj;rw[<-numAt_eq];exact h2 j (by lia)
end
section
variable {X:Cx}
noncomputable def T1 (K:PySem.W.Frag):List V->Hp->VK->Prop:=fun vs H Q=>∃(a:Addr) (ns:List Int),vs=[V.ref a]/\ly K H a (ns.map V.int)/\Q (.int ns.sum) H
noncomputable def T2 (K:PySem.W.Frag):List V->Hp->VK->Prop:=fun vs H Q=>∃(a:Addr) (ns:List Int),vs=[V.ref a]/\ly K H a (ns.map V.int)/\0<ns.length/\∀m,m∈ns->(∀y,y∈ns->y<=m)->Q (.int m) H
theorem R4(hc:X.calm=true):mI X (.builtin "sum") (T1 X.K):=by
 intro pins s σ H vs us Q I r h;obtain⟨a,ns,rfl,hs,q⟩:=h;obtain⟨its,rv,hl,_⟩:=I.list hs;rw[Vals.Qi r];exact Qj (I.ok.hd hc) hl.isList rv.ints fun h' tk t' hk=>⟨.int _,H,I.kept hk,⟨_,rfl⟩,q⟩
theorem R5(hc:X.calm=true):mI X (.builtin "max") (T2 X.K):=by
 intro pins s σ H vs us Q I r h;obtain⟨a,ns,rfl,hs,hne,q⟩:=h;obtain⟨its,rv,hl,_⟩:=I.list hs;rw[Vals.Qi r];exact Qk (I.ok.hd hc) hl.isList rv.ints hne fun h' tk m t' hk h1 h2=>⟨.int _,H,I.kept hk,⟨_,rfl⟩,q m h1 h2⟩
end
theorem Hd{prog:Program}{w:World}{A:Around}{E:Value->Shared->Prop}{s:Shared}{l:Addr}{items:Array Value}{Q:Value->Shared->Prop}(hl:s.heap.IsList l items)
  (h:∀s₂:Shared,s₂={s with heap:=s.heap.push {cls:= .type "list_iterator",data:= .fields #[.ref l,.int 0 0]}}->
   (s₂.heap.IsListIter s.heap.objs.size l 0/\s₂.heap.IsList l items)->l≠s.heap.objs.size->Q (.ref s.heap.objs.size) s₂):wpAny (model prog w) A (pyIter (.ref l)) Q E s:=by
 have hlt:l<s.heap.objs.size:=by obtain⟨_,e,_⟩:=hl;exact Heap.lt_size e
 exact wpAny_pyIter_list hl (h _ rfl ⟨⟨_,Heap.get?_push_size _ rfl,rfl,rfl⟩,hl.push _⟩ (bt hlt))
theorem Ai{prog:Program}{w:World}{A:Around}{bs:List Bool}{its:List Value}(e:its=bs.map Value.bool):
  TruthOf prog w A (fun i v=>its.toArray[i]? =some v) (fun i=>bs.getD i false):=fun i v s Q E hv hq=>by
 have hv':its[i]? =some v:=by simpa using hv
 rw[e,aA] at hv';obtain⟨b,hb,rfl⟩:=Option.map_eq_some_iff.mp hv';have hg:bs.getD i false=b:=by rw[gDe,hb] <;>rfl
 have hq':Q (bs.getD i false) s:=hq;rw[hg] at hq';exact wpAny_truthy_bool hq'
theorem any_range:∀bs:List Bool,(List.range bs.length).any (fun i=>bs.getD i false)=bs.any id
 |[]=>rfl
 |b::bs=>by
  rw[aq,List.range_succ_eq_map,cg,List.any_map,cg,<-any_range bs]
  all_goals rfl
theorem all_range:∀bs:List Bool,(List.range bs.length).all (fun i=>bs.getD i false)=bs.all id
 |[]=>rfl
 |b::bs=>by
  rw[aq,List.range_succ_eq_map,List.all_cons,List.all_map,List.all_cons,<-all_range bs]
  all_goals rfl
section
variable {X:Cx}
noncomputable def T3 (K:PySem.W.Frag):List V->Hp->VK->Prop:=fun vs H Q=>∃(a:Addr) (bs:List Bool),vs=[V.ref a]/\ly K H a (bs.map V.bl)/\Q (.bl (bs.any id)) H
noncomputable def T4 (K:PySem.W.Frag):List V->Hp->VK->Prop:=fun vs H Q=>∃(a:Addr) (bs:List Bool),vs=[V.ref a]/\ly K H a (bs.map V.bl)/\Q (.bl (bs.all id)) H
theorem R6(hc:X.calm=true):mI X (.builtin "any") (T3 X.K):=by
 intro pins s σ H vs us Q I r h;obtain⟨a,bs,rfl,hs,q⟩:=h;obtain⟨its,rv,hl,_⟩:=I.list hs;rw[Vals.Qi r];have hb:=rv.U9;refine call_any_walk (Hd hl.isList fun s₂ e2 st hne=> ?_);subst e2;refine⟨_,_,_,_,_,_,_,rfl,Walks.list (A:=X.A.in1) (I.ok.hd hc) _ a hne its.toArray,st,Ai hb,fun h' tk hk=> ?_⟩;refine⟨.bl _,H,I.kept fun b o eo=>hk b o (fun hmem=> ?_) (Heap.get?_push_of_some _ eo),?_,q⟩
 ·rcases aH.mp hmem with e1 |hmem
  ·exact absurd (e1▸Heap.lt_size eo) (bO _)
  ·cases hmem
 ·show Value.bool _=Value.bool _;rw[<-any_range,hb,aI,lMp]
theorem R7(hc:X.calm=true):mI X (.builtin "all") (T4 X.K):=by
 intro pins s σ H vs us Q I r h;obtain⟨a,bs,rfl,hs,q⟩:=h;obtain⟨its,rv,hl,_⟩:=I.list hs;rw[Vals.Qi r];have hb:=rv.U9;refine call_all_walk (Hd hl.isList fun s₂ e2 st hne=> ?_);subst e2;refine⟨_,_,_,_,_,_,_,rfl,Walks.list (A:=X.A.in1) (I.ok.hd hc) _ a hne its.toArray,st,Ai hb,fun h' tk hk=> ?_⟩;refine⟨.bl _,H,I.kept fun b o eo=>hk b o (fun hmem=> ?_) (Heap.get?_push_of_some _ eo),?_,q⟩
 ·rcases aH.mp hmem with e1 |hmem
  ·exact absurd (e1▸Heap.lt_size eo) (bO _)
  ·cases hmem
 ·show Value.bool _=Value.bool _;rw[<-all_range,hb,aI,lMp]
end
noncomputable abbrev NJ (h:Heap) (c:Addr) (v:Option Value):Prop:=h.IsCell c v
noncomputable def Va (scope sc:Scope):Scope:=
 {scope with names:=scope.names.map fun(n,k)=>if(k== .free&&sc.kind== .function&&sc.names.lookup n==some .cell) then(n,.cell) else(n,k)}
noncomputable def gd (cells:List (Str×Addr)):List (Str×NameKind)->List (Str×Addr)->List (Str×Addr)
 |[],acc=>acc
 |(n,k)::r,acc=>if k== .free then gd cells r ((n,(cells.lookup n).getD 0)::acc) else gd cells r acc
theorem wY(env:Env)(f:Str×NameKind->List (Str×Addr)->Sem (ForInStep (List (Str×Addr))))
  (hf:∀n k c,f (n,k) c=if k== .free then(do let a<-cellOf env n;pure (.yield ((n,a)::c))) else pure (.yield c)):
  ∀(names:List (Str×NameKind)) (acc:List (Str×Addr)),(∀y∈names,y.2= .free->∃c,env.cells.lookup y.1=some c)->forIn names acc f=pure (gd env.cells names acc)
 |[],acc,_=>by rw[List.forIn_nil];rfl
 |(n,k)::r,acc,h=>by
  rw[List.forIn_cons,hf];have ih:=fun acc=>wY env f hf r acc fun y hy=>h y (ak _ hy)
  unfold gd;by_cases hk:(k==NameKind.free)=true
  ·rw[ah hk,ah hk];obtain⟨c,hc⟩:=h (n,k) ax (by simpa using hk);have e:cellOf env n=pure c:=by unfold cellOf;rw[hc]
   rw[e];have e2:(env.cells.lookup n).getD 0=c:=by rw[hc];rfl
   rw[e2];exact ih _
  ·rw[af hk,af hk];exact ih _
theorem Jo{scope:Scope}{env:Env}(h:∀y∈scope.names,y.2= .free->∃c,env.cells.lookup y.1=some c):closureFor scope env=pure (gd env.cells scope.names []):=by
 simp only[closureFor];rw[wY env _ (fun n k c=>rfl) scope.names [] h];rfl
theorem mem_lookup{α:Type}:∀{l:List (Str×α)} {n:Str} {c:α},(n,c)∈l->∃c',l.lookup n=some c'
 |(k,v)::r,n,c,h=>by
  rw[cq];cases hb:n==k with
  |true=>exact⟨_,rfl⟩
  |false=>
   rcases aH.mp h with e |h
   ·cases e;simp at hb
   ·exact mem_lookup h
theorem pM{cells:List (Str×Addr)}:∀{names:List (Str×NameKind)} {acc:List (Str×Addr)} {n:Str} {c:Addr},(n,c)∈gd cells names acc->(n,c)∈acc\/((n,.free)∈names/\c=(cells.lookup n).getD 0)
 |[],_,_,_,h=> .inl h
 |(m,k)::r,acc,n,c,h=>by
  unfold gd at h;split at h
  ·rename_i hk;have hk:k= .free:=by simpa using hk
   rcases pM h with h |⟨h1,h2⟩
   ·rcases aH.mp h with e |h
    ·cases e;exact .inr ⟨hk▸ax,rfl⟩
    ·exact .inl h
   ·exact .inr ⟨ak _ h1,h2⟩
  ·rcases pM h with h |⟨h1,h2⟩
   ·exact .inl h
   ·exact .inr ⟨ak _ h1,h2⟩
theorem tF{cells:List (Str×Addr)}:∀{names:List (Str×NameKind)} {acc:List (Str×Addr)} {p:Str×Addr},p∈acc->p∈gd cells names acc
 |[],_,_,h=>h
 |(m,k)::r,acc,p,h=>by
  unfold gd;split
  ·exact tF (ak _ h)
  ·exact tF h
theorem tH{cells:List (Str×Addr)}:∀{names:List (Str×NameKind)} {acc:List (Str×Addr)} {n:Str},(n,.free)∈names->(n,(cells.lookup n).getD 0)∈gd cells names acc
 |(m,k)::r,acc,n,h=>by
  unfold gd;rcases aH.mp h with e |h
  ·cases e
   exact tF ax
  ·split
   ·exact tH h
   ·exact tH h
theorem qR:∀{names:List (Str×NameKind)} {h:Heap} {acc:List (Str×Addr)} {x:Str} {c:Addr},(x,c)∈cellsFrom h.objs.size names acc->
  (x,c)∈acc\/((x,.cell)∈names/\h.objs.size<=c/\NJ (pushCells h names) c none)
 |[],_,_,_,_,h=> .inl h
 |(n,k)::r,h,acc,x,c,hm=>by
  unfold cellsFrom at hm;unfold pushCells;split at hm
  ·rename_i hk;rw[ah hk];have hk:k= .cell:=by simpa using hk
   rw[<-Heap.size_push h {cls:= .type "cell",data:= .cell none}] at hm;rcases qR hm with hm |⟨h1,h2,h3⟩
   ·rcases aH.mp hm with e |hm
    ·cases e
     exact .inr ⟨hk▸ax,ai _,_,pushCells_keeps r _ _ _ (Heap.get?_push_size _ rfl),rfl⟩
    ·exact .inl hm
   ·rw[Heap.size_push] at h2;exact .inr ⟨ak _ h1,Nat.le_of_succ_le h2,h3⟩
  ·rename_i hk;rw[af hk];rcases qR hm with hm |⟨h1,h2,h3⟩
   ·exact .inl hm
   ·exact .inr ⟨ak _ h1,h2,h3⟩
theorem uN:∀{names:List (Str×NameKind)} {n:Nat} {acc:List (Str×Addr)} {p:Str×Addr},p∈acc->p∈cellsFrom n names acc
 |[],_,_,_,h=>h
 |(m,k)::r,n,acc,p,h=>by
  unfold cellsFrom;split
  ·exact uN (ak _ h)
  ·exact uN h
theorem yO:∀{names:List (Str×NameKind)} {n:Nat} {acc:List (Str×Addr)} {x:Str},(x,.cell)∈names->∃c,(x,c)∈cellsFrom n names acc
 |(m,k)::r,n,acc,x,h=>by
  unfold cellsFrom;rcases aH.mp h with e |h
  ·cases e
   exact⟨n,uN ax⟩
  ·split
   ·exact yO h
   ·exact yO h
theorem yP:∀{names:List (Str×NameKind)} {h:Heap} {acc:List (Str×Addr)} {x y:Str} {c:Addr},(∀p∈acc,p.2<h.objs.size)->(∀x y c,(x,c)∈acc->(y,c)∈acc->x=y)->
  (x,c)∈cellsFrom h.objs.size names acc->(y,c)∈cellsFrom h.objs.size names acc->x=y
 |[],_,_,_,_,_,_,hi,h1,h2=>hi _ _ _ h1 h2
 |(n,k)::r,h,acc,x,y,c,hl,hi,h1,h2=>by
  unfold cellsFrom at h1 h2;split at h1
  ·rename_i hk;rw[ah hk] at h2;rw[<-Heap.size_push h {cls:= .type "cell",data:= .cell none}] at h1 h2;refine yP (h:=h.push _) (fun p hp=> ?_) (fun x y c a b=> ?_) h1 h2
   ·rw[Heap.size_push];rcases aH.mp hp with rfl |hp
    ·exact Nat.lt_succ_self _
    ·exact Nat.lt_succ_of_lt (hl p hp)
   ·rcases aH.mp a with e |a <;>rcases aH.mp b with e' |b
    ·cases e;cases e';rfl
    ·cases e;exact absurd (hl _ b) (bO _)
    ·cases e';exact absurd (hl _ a) (bO _)
    ·exact hi _ _ _ a b
  ·rename_i hk;rw[af hk] at h2;exact yP hl hi h1 h2
theorem He{M:Model}{A:Around}{E:Value->Shared->Prop}{s:Shared}{scope:Scope}{globals:Addr}{closure:List (Str×Addr)}{qual:Str}{func:Option Addr}{code:Value}{around:Env}{builtins:Addr}{Q:Env->Shared->Prop}
  (h:Q (newEnv scope s.heap.objs.size globals (cellsFrom (s.heap.objs.size+1) scope.names closure) qual func code (some around) builtins)
   {s with heap:=pushCells (s.heap.push {cls:= .type "dict",data:= .dict #[]}) scope.names}):
  wpAny M A (newFunctionEnv scope globals closure [] qual func code (some around) builtins) Q E s:=by
 simp only[newFunctionEnv,Option.isSome_some,if_true];refine wpAny_bind (wpAny_alloc ?_);refine wpAny_bind (wpAny_layCells _ (fun n k c=>rfl) scope.names closure _ _ ?_);rw[show({s with heap:=s.heap.push {cls:= .type "dict",data:= .dict #[]}}:Shared).heap.objs.size=s.heap.objs.size+1 from Heap.size_push ..];rw[List.forIn_nil];exact wpAny_bind (wpAny_pure (wpAny_pure h))
theorem tI{sc:Scope}:∀{names:List (Str×NameKind)} {x:Str} {k:NameKind},
  (names.map fun(n,k)=>if(k==NameKind.free&&sc.kind== .function&&sc.names.lookup n==some .cell) then(n,NameKind.cell) else(n,k)).lookup x=some k->
  ∃k',names.lookup x=some k'/\(k=k'\/(k'= .free/\k= .cell))
 |[],_,_,h=>by simp at h
 |(n,k₀)::r,x,k,h=>by
  have ih:= @tI sc r x k;have h':List.lookup x ((if(k₀==NameKind.free&&sc.kind== .function&&sc.names.lookup n==some .cell)=true then(n,NameKind.cell) else(n,k₀))::(r.map _))=some k:=h;cases hx:x==n with
  |true=>
   simp only[cq,hx];by_cases hc:(k₀==NameKind.free&&sc.kind== .function&&sc.names.lookup n==some .cell)=true
   ·rw[ah hc] at h';simp only[cq,hx] at h';cases h'
    simp only[aF,beq_iff_eq] at hc;exact⟨k₀,rfl,.inr ⟨hc.1.1,rfl⟩⟩
   ·rw[af hc] at h';simp only[cq,hx] at h';cases h'
    exact⟨_,rfl,.inl rfl⟩
  |false=>
   simp only[cq,hx];by_cases hc:(k₀==NameKind.free&&sc.kind== .function&&sc.names.lookup n==some .cell)=true
   ·rw[ah hc] at h';simp only[cq,hx] at h';exact ih h'
   ·rw[af hc] at h';simp only[cq,hx] at h';exact ih h'
structure Hf(N:List Str)(sc scope:Scope)(own:List (Str×Nat)):Prop where
 kind:scope.kind= .function
 uniq:∀y∈scope.names,scope.names.lookup y.1=some y.2
 ix:∀p∈own,N[p.2]? =some p.1
 free:∀y∈scope.names,y.2= .free->sc.names.lookup y.1=some .cell\/sc.names.lookup y.1=some .free
 own:∀y∈scope.names,y.2= .local\/y.2= .cell->y.1∈own.map (·.1)\/y.1∉N
noncomputable def wipe (σ:St):List Nat->St
 |[]=>σ
 |v::vs=>(wipe σ vs).set v none
theorem tJ(σ:St):∀vs:List Nat,(wipe σ vs).length=σ.length
 |[]=>rfl
 |v::vs=>by unfold wipe;rw[bW,tJ σ vs]
theorem yQ{σ:St}{i:Nat}{x:V}:∀{vs:List Nat},(wipe σ vs)[i]? =some (some x)->σ[i]? =some (some x)/\i∉vs
 |[],h=>⟨h,by simp⟩
 |v::vs,h=>by
  unfold wipe at h;by_cases hi:v=i
  ·subst hi;by_cases hv:v<(wipe σ vs).length
   ·rw[List.getElem?_set_self hv] at h;cases h
   ·rw[aE (by simpa using hv)] at h;cases h
  ·rw[List.getElem?_set_ne hi] at h;obtain⟨h1,h2⟩:=yQ h;exact⟨h1,by simp only[aH,not_or];exact⟨fun e=>hi e.symm,h2⟩⟩
noncomputable abbrev Cx.Dv (X:Cx) (s:Shared) (H:Hp) (scope:Scope) (cenv:Env) (fp:List Addr):Cx:={X with D8:=s,Td:=H,env:=cenv,outer:=X.stack,ex:=fp,fn:=fun x=>scope.names.lookup x==some .cell,pn:=[],xe:=fun _ _=>False}
section
variable {X:Cx}{pins:List (Addr×Obj)}{σ:St}{H:Hp}{s:Shared}
theorem Hg{scope:Scope}{own:List (Str×Nat)}{fp:List Addr}(I:Inv X pins σ H s)(ok:Hf X.N X.env.scope scope own)(hN:X.N.Nodup)(hfp:∀b∈fp,AQ X pins H b/\b<s.heap.objs.size):
  Inv (X.Dv s H scope (compEnvC scope (cellsFrom (s.heap.objs.size+1) scope.names (gd X.env.cells scope.names [])) s.heap.objs.size X.env) fp) [] (wipe σ (own.map (·.2))) H {s with heap:=pushCells (s.heap.push {cls:= .type "dict",data:= .dict #[]}) scope.names}:=by
 have hfree:∀y∈scope.names,y.2= .free->∃c,X.env.cells.lookup y.1=some c:=fun y hy e=>by
  rcases ok.free y hy e with k |k
  ·exact I.ok.has _ (.inl k)
  ·exact I.ok.has _ (.inr k)
 generalize hcenv:compEnvC scope (cellsFrom (s.heap.objs.size+1) scope.names (gd X.env.cells scope.names [])) s.heap.objs.size X.env=cenv;have kp:∀b o,s.heap.get? b=some o->(pushCells (s.heap.push {cls:= .type "dict",data:= .dict #[]}) scope.names).get? b=some o:=fun b o e=>pushCells_keeps _ _ _ _ (Heap.get?_push_of_some _ e)
 have hL:cenv.locals=s.heap.objs.size:=by rw[<-hcenv];rfl
 have hcl:cenv.cells=cellsFrom (s.heap.objs.size+1) scope.names (gd X.env.cells scope.names []):=by rw[<-hcenv];rfl
 have hsc:cenv.scope=Va scope X.env.scope:=by rw[<-hcenv];rfl
 rw[<-Heap.size_push s.heap {cls:= .type "dict",data:= .dict #[]}] at hcl;have cm:∀{y c},(y,c)∈gd X.env.cells scope.names []->X.env.cells.lookup y=some c/\c<s.heap.objs.size:=fun{y c} hm=>by
  rcases pM hm with hm |⟨h1,rfl⟩
  ·cases hm
  ·obtain⟨c,hc⟩:=hfree _ h1 rfl;rw[hc];obtain⟨w,z⟩:=I.cell _ _ hc;exact⟨rfl,z.lt⟩
 have mem:∀{y c},cenv.cells.lookup y=some c->(X.env.cells.lookup y=some c/\c<s.heap.objs.size)\/(s.heap.objs.size+1<=c/\NJ (pushCells (s.heap.push {cls:= .type "dict",data:= .dict #[]}) scope.names) c none):=fun{y c} e=>by
  rw[hcl] at e;rcases qR (a7 e) with hm |⟨_,h2,h3⟩
  ·exact .inl (cm hm)
  ·rw[Heap.size_push] at h2;exact .inr ⟨h2,h3⟩
 have look:∀{y},scope.names.lookup y=some .free->∃c,cenv.cells.lookup y=some c/\X.env.cells.lookup y=some c:=fun{y} hl=>by
  have hy:(y,NameKind.free)∈scope.names:=a7 hl;obtain⟨c',e'⟩:=mem_lookup (uN (names:=scope.names) (n:=(s.heap.push {cls:= .type "dict",data:= .dict #[]}).objs.size) (tH (cells:=X.env.cells) (acc:=[]) hy));rw[<-hcl] at e';refine⟨c',e',?_⟩;rw[hcl] at e';rcases qR (a7 e') with hm |⟨h1,_,_⟩
  ·exact(cm hm).1
  ·have:=ok.uniq _ h1;rw[hl] at this;cases this
 have okB:(X.Dv s H scope cenv fp).Ok:=by
  refine⟨I.ok.mod,by show cenv.scope.kind=_;rw[hsc];exact ok.kind,by show cenv.globals=_;rw[<-hcenv];exact I.ok.glob,by show cenv.builtins=_;rw[<-hcenv];exact I.ok.blt,by show s.heap.objs.size<=cenv.locals;rw[hL];exact ai _,
   fun y z c e1 e2=> ?_,fun y hy=> ?_,fun y c z e=> ?_,I.ok.hd,I.ok.frames,.inl rfl,fun b hb=>⟨?_,fun y c e z=> ?_⟩,I.bs,aw I.ok.PJ I.sz,fun b o e hb=> ?_,fun b hb z=> ?_,I.stack,I.Kw⟩
  ·have e1:cenv.cells.lookup y=some c:=e1;have e2:cenv.cells.lookup z=some c:=e2;rw[hcl] at e1 e2;refine yP (fun p hp=> ?_) (fun y z c a b=>I.ok.inj y z c (cm a).1 (cm b).1) (a7 e1) (a7 e2);rw[Heap.size_push];exact Nat.lt_succ_of_lt (cm (y:=p.1) (c:=p.2) hp).2
  ·show ∃c,cenv.cells.lookup y=some c;have key:∀k,cenv.kindOf y=some k->(k= .cell\/k= .free)->∃c,cenv.cells.lookup y=some c:=fun k hk hk'=>by
    unfold Env.kindOf at hk;rw[hsc] at hk;obtain⟨k',e,r⟩:=tI hk;have:k'= .cell\/k'= .free:=by
     rcases r with rfl |⟨rfl,_⟩
     ·exact hk'
     ·exact .inr rfl
    rcases this with rfl |rfl
    ·obtain⟨c,hm⟩:=yO (n:=(s.heap.push {cls:= .type "dict",data:= .dict #[]}).objs.size) (acc:=gd X.env.cells scope.names []) (a7 e);obtain⟨c',e'⟩:=mem_lookup hm;exact⟨c',by rw[hcl];exact e'⟩
    ·obtain⟨c,h1,_⟩:=look e;exact⟨c,h1⟩
   rcases hy with hy |hy
   ·exact key _ hy (.inl rfl)
   ·exact key _ hy (.inr rfl)
  ·have z:(scope.names.lookup y==some NameKind.cell)=true:=z;have z:scope.names.lookup y=some .cell:=by simpa using z
   have e:cenv.cells.lookup y=some c:=e;rw[hcl] at e;rcases qR (a7 e) with hm |⟨_,h2,_⟩
   ·rcases pM hm with hm |⟨h1,_⟩
    ·cases hm
    ·have q:=ok.uniq _ h1;rw[z] at q;cases q
   ·rw[Heap.size_push] at h2;exact Nat.le_of_succ_le h2
  ·show b≠cenv.locals;rw[hL];exact bt (hfp b hb).2
  ·have e:cenv.cells.lookup y=some c:=e;rcases mem e with⟨h1,_⟩ |⟨h1,_⟩
   ·exact(hfp b hb).1.2.2.2.2.1 y c h1 z
   ·have h2:s.heap.objs.size+1<=b:=by rw[<-z];exact h1
    exact absurd (aS (hfp b hb).2 (Nat.le_of_succ_le h2)) (bO _)
  ·rcases(hfp b hb).1.2.2.2.1 with z |z
   ·exact I.ok.Nk b o e z
   ·exact absurd (aS (Heap.lt_size e) (aw I.ok.PJ z)) (bO _)
  ·rcases aH.mp (I.I0 b z) with z |z
   ·exact(hfp b hb).1.2.1 z
   ·exact(hfp b hb).1.2.2.1 z
 refine⟨okB,rfl,I.bare,Un.kept kp,⟨fun _=>none,?_,fun i y av e1 e2 e3=> ?_⟩,fun y c e=> ?_,?_,fun y c e=> ?_,fun p hp=> ?_,I.iI.kept kp,by rw[tJ];exact I.len⟩
 ·show Heap.Ns _ cenv.locals _;rw[hL];exact Heap.Ns.keeps (Heap.Ns.new ..) fun b o e=>pushCells_keeps _ _ _ _ e
 ·obtain⟨e2,hne⟩:=yQ e2;have hfr:scope.names.lookup y=some .free/\(cenv.kindOf y=some .cell\/cenv.kindOf y=some .free):=by
   have key:∀k,cenv.scope.names.lookup y=some k->k= .local\/k= .cell\/k= .free->scope.names.lookup y=some .free/\(cenv.kindOf y=some .cell\/cenv.kindOf y=some .free):=fun k hk hk'=>by
    have hk0:=hk;rw[hsc] at hk;obtain⟨k',e,r⟩:=tI hk;have no:¬(k'= .local\/k'= .cell):=fun hh=>by
     rcases ok.own _ (a7 e) hh with e' |e'
     ·obtain⟨p,hp,hpy⟩:=aN.mp e';have e3:=ok.ix p hp;have:p.1=y:=hpy;rw[this] at e3;exact hne (aN.mpr ⟨p,hp,Bz hN e3 e1⟩)
     ·exact e' (aB e1)
    rcases r with rfl |⟨rfl,rfl⟩
    ·rcases hk' with rfl |rfl |rfl
     ·exact absurd (.inl rfl) no
     ·exact absurd (.inr rfl) no
     ·exact⟨e,.inr hk0⟩
    ·exact⟨e,.inl hk0⟩
   have e3:S5 cenv.scope y:=e3;rcases e3 with e3 |e3 |e3
   ·exact key _ e3 (.inl rfl)
   ·exact key _ e3 (.inr (.inl rfl))
   ·exact key _ e3 (.inr (.inr rfl))
  obtain⟨m,hn,hl⟩:=I.loc;have hvis:S5 X.env.scope y:=(ok.free _ (a7 hfr.1) rfl).elim (fun k=> .inr (.inl k)) (fun k=> .inr (.inr k));obtain⟨w,r,q⟩:=hl i y av e1 e2 hvis;refine⟨w,r,.inr ⟨hfr.2,?_⟩⟩;obtain⟨c,h1,h2⟩:=look hfr.1;rcases q with⟨k,_⟩ |⟨_,c',e',z⟩
  ·have k:X.env.scope.names.lookup y=some .local:=k;rcases ok.free _ (a7 hfr.1) rfl with k' |k' <;>rw[show X.env.scope.names.lookup y=_ from k'] at k <;>cases k
  ·rw[h2] at e';cases e'
   exact⟨c,h1,z.keeps kp⟩
 ·have e:cenv.cells.lookup y=some c:=e;rcases mem e with⟨h1,_⟩ |⟨_,z⟩
  ·obtain⟨w,z⟩:=I.cell y c h1;exact⟨w,z.keeps kp⟩
  ·exact⟨_,z⟩
 ·show H cenv.locals=none;rw[hL];exact I.iI.fresh (ai _)
 ·have e:cenv.cells.lookup y=some c:=e;rcases mem e with⟨h1,_⟩ |⟨h1,_⟩
  ·exact I.sW y c h1
  ·exact I.iI.fresh (Nat.le_of_succ_le h1)
 ·exact absurd (show p∈([]:List (Addr×Obj)) ++ [] from hp) (by simp)
theorem R8{E:Value->Shared->Prop}{D:Addr}{xs:List V}{y:V}{v:Value}{Q:Value->Shared->Prop}(I:Inv X pins σ H s)(hD:H D=some (.lst xs))(hz:xs.length<sizeLine)(r:RelV y v)
  (h:∀s',Inv X pins σ (upd H D (.lst (xs ++ [y]))) s'->Q .none s'):wpAny (model X.prog X.w) X.A (call (.builtin "list.append") [.ref D,v]) Q E s:=by
 obtain⟨hz',its,n,ri,e⟩:=I.iI D _ hD;have hl:=ri.length;refine append_at (hsz:=by rw[aI];lia) e fun h' sb ho'=> ?_
 refine h {s with heap:=h'} (I.write (t':=s.toks) (by rw[hD];trivial) (.inl rfl) (fun b u hb q=>(sb.2 b hb).trans q) ⟨_,ho'⟩ ⟨by rw[ay];exact hz,its ++ [v],n+1,ri.append (.cons r .nil),?_⟩);rw[ho'];simp
noncomputable def T5 (X:Cx) (ifs:List Expr) (t:TT):Prop:=
 ∀(pins:List (Addr×Obj)) (s:Shared) (σ:St) (H:Hp) (Q:Bool->Hp->Prop),Inv X pins σ H s->t σ H Q->
  wpAny (model X.prog X.w) X.A (forIn ifs true fun c r=>if r=true then do let ok<-isTrue c X.env (eval c X.env);pure (ForInStep.yield ok) else pure (ForInStep.yield r)) (TP X pins σ Q) X.xe s
noncomputable def Vb:TT:=fun _ H Q=>Q true H
theorem gf:T5 X [] Vb:=fun _ _ _ H _ I h=>wpAny_tests_nil ⟨H,I,h⟩
theorem KP{c:Expr}{t:TT}(h:PT X c t):T5 X [c] t:=fun pins s σ H Q I hw=>wpAny_tests_one (h pins s σ H Q I hw)
end
theorem L6{α:Type}{t:Sem α}{Q Q':α->Shared->Prop}{M:Model}{A:Around}{E:Value->Shared->Prop}{s:Shared}(h:wpAny M A t Q (fun _ _=>False) s)(hQ:∀a s,Q a s->Q' a s):wpAny M A t Q' E s:=wpAny_mono h hQ fun _ _ z=>False.elim z
theorem FG{prog:Program}{w:World}{A:Around}{R:Result->Shared->Prop}{s:Shared}{elt target iter:Expr}{ifs:List Expr}{scope:Scope}{pos:Pos}{it acc:Value}{env:Env}(I:Nat->Shared->Prop)
  (turn:∀n s,I n s->wpAny (model prog w) A (pyNext it) (fun r s₁=>match r with
   |none=>R (.ok .next) s₁
   |some v=>wpAny (model prog w) A (letOwnedTupleGo target it v) (fun _ s₁'=>wpAny (model prog w) A (assign target env v) (fun _ s₂=>
     wpAny (model prog w) A (forIn ifs true fun c r=>if r=true then do let ok<-isTrue c env (eval c env);pure (ForInStep.yield ok) else pure (ForInStep.yield r)) (fun ok s₃=>
      if ok=true then wpAny (model prog w) A (eval elt env) (fun x s₄=>
       wpAny (model prog w) A (call (.builtin "list.append") [acc,x]) (fun _ s₅=>∃m,m<n/\I m s₅) (notedBy (model prog w) A env fun e s'=>R (.error e) s') s₄) (notedBy (model prog w) A env fun e s'=>R (.error e) s') s₃
      else ∃m,m<n/\I m s₃) (notedBy (model prog w) A env fun e s'=>R (.error e) s') s₂) (notedBy (model prog w) A env fun e s'=>R (.error e) s') s₁') (notedBy (model prog w) A env fun e s'=>R (.error e) s') s₁) (notedBy (model prog w) A env fun e s'=>R (.error e) s') s)
  (n:Nat) (h:I n s):
  codeAny (model prog w) A (.compLoop (.ListComp elt [⟨target,iter,ifs,0⟩] scope pos) 0 it acc env) R s:=by
 refine codeAny_loop rfl I (fun n s hI=> ?_) n h;show wpAny _ A ((compTurn (.ListComp elt [⟨target,iter,ifs,0⟩] scope pos) 0 it acc env).onRaise (fun x=>do noteFrame x env;theTreesLotGoes x)) _ _ s;refine wpAny_noted ?_;rw[compTurn_list];refine wpAny_bind (wpAny_standAt (wpAny_bind (wpAny_mono (turn n s hI) (fun r s₁ h₁=> ?_) fun _ _ h'=>h')));cases r with
 |none=>exact wpAny_pure h₁
 |some v=>
  refine wpAny_bind (wpAny_mono h₁ (fun _ s₁' h₁'=> ?_) fun _ _ h'=>h');refine wpAny_bind (wpAny_mono h₁' (fun _ s₂ h₂=>wpAny_bind (wpAny_mono h₂ (fun ok s₃ h₃=> ?_) fun _ _ h'=>h')) fun _ _ h'=>h');cases ok with
  |false=>exact wpAny_pure ⟨rfl,h₃⟩
  |true=>
   exact wpAny_bind (wpAny_bind (wpAny_mono h₃ (fun x s₄ h₄=>wpAny_bind (wpAny_mono h₄ (fun _ s₅ h₅=>wpAny_pure (wpAny_pure ⟨rfl,h₅⟩)) fun _ _ h'=>h')) fun _ _ h'=>h'))
section
variable {X:Cx}
noncomputable def UK (wi:TI) (g:TG) (tt:TT) (te:TE) (vs:List Nat):TE:=fun σ H Q=>wi σ H fun J H1=>∀D,H1 D=none->∃W:Nat->Nat->Hp->Prop,(∃m,W 0 m (upd H1 D (.lst [])))/\∀i m H,W i m H->
 (J.stop i H/\Q (.ref D) H)\/(J.go i H/\∃Nx:Hp->Prop,(∀H',Nx H'->∃m',m' <m/\W (i+1) m' H')/\∀x H',J.S6 i H x H'->g x (wipe σ vs) H' fun σ2 H2=>wipe σ2 vs=wipe σ vs/\tt σ2 H2 fun b H3=>
  if b=true then te σ2 H3 fun y H4=>∃acc,H4 D=some (.lst acc)/\acc.length<sizeLine/\Nx (upd H4 D (.lst (acc ++ [y]))) else Nx H3)
theorem KQ{pins:List (Addr×Obj)}{s:Shared}{σ:St}{H:Hp}{Q:VK}{elt tg iter:Expr}{ifs:List Expr}{scope:Scope}{own:List (Str×Nat)}{pos pos':Pos}{wi:TI}{g:TG}{tt:TT}{te:TE}{use:Option (Value->Sem Unit)}{Qf:Value->Shared->Prop}
  (hc:X.calm=true) (hN:X.N.Nodup) (I:Inv X pins σ H s) (hi:PI X tg iter wi) (ok:Hf X.N X.env.scope scope own)
  (hg:∀(s:Shared) (H:Hp) (C:Addr) (cl:List (Str×Addr)) (fp:List Addr),PG (X.Dv s H scope (compEnvC scope cl C X.env) fp) tg g) (ht:∀(s:Shared) (H:Hp) (C:Addr) (cl:List (Str×Addr)) (fp:List Addr),T5 (X.Dv s H scope (compEnvC scope cl C X.env) fp) ifs tt)
  (he:∀(s:Shared) (H:Hp) (C:Addr) (cl:List (Str×Addr)) (fp:List Addr),PE (X.Dv s H scope (compEnvC scope cl C X.env) fp) elt te) (hs:∀x,foldedSetIterable iter X.env x=pure x)
  (h:UK wi g tt te (own.map (·.2)) σ H Q)
  (hRR:∀D C s' m H',Inv X pins σ H' s'->Q (.ref D) H'->s'.heap.Ns C m->AQ X pins H' C->compPost (model X.prog X.w) X.A X.xe use Qf (.ref D) C (.ok .next) s'):
  wpAny (model X.prog X.w) X.A (comprehension (.ListComp elt [⟨tg,iter,ifs,0⟩] scope pos) scope X.env pos' (newList []) false (eval iter X.env) use) Qf X.xe s:=by
 have hfree:∀y∈scope.names,y.2= .free->∃c,X.env.cells.lookup y.1=some c:=fun y hy e=>by
  rcases ok.free y hy e with k |k
  ·exact I.ok.has _ (.inl k)
  ·exact I.ok.has _ (.inr k)
 refine wpAny_comprehension_free (use:=use) rfl hs (Jo hfree) ok.kind (fun y hy e=>by rw[ok.uniq y hy,e])
  (ij (hi pins s σ H _ I h) fun xv s1 hx=>ij hx fun itv s2 h2=> ?_)
 obtain⟨it,fp,tn,J,H2,e,I2,T,st2,f2,q⟩:=h2;subst e;refine wpAny_newObj_type (He ?_) (by show 0<=sizeLine;decide);generalize hD:s2.heap.objs.size=D;have hDn:H2 D=none:=I2.iI.fresh (Nat.le_of_eq hD);obtain⟨W,⟨m0,w0⟩,turn⟩:=q D hDn;generalize hs3:({s2 with heap:=s2.heap.push {cls:= .type "list",data:= .seq ([]:List Value).toArray}}:Shared)=s3;have I3:Inv X pins σ (upd H2 D (.lst [])) s3:=by
  rw[<-hs3];refine I2.laid (t':=s2.toks) (fun b o e=>Heap.get?_push_of_some _ e) (Nat.le_of_eq hD) ⟨aL _,[],0,.nil,?_⟩;rw[<-hD];exact Heap.get?_push_size _ rfl
 have h3:s3.heap=s2.heap.push {cls:= .type "list",data:= .seq ([]:List Value).toArray}:=by rw[<-hs3]
 have sz:∀b∈fp,b<s2.heap.objs.size:=fun b hb=>by
  obtain⟨o,e,_⟩:=T.obj _ _ st2 b hb;exact Heap.lt_size e
 have f3:∀b∈fp,AQ X pins (upd H2 D (.lst [])) b/\b<s3.heap.objs.size:=fun b hb=>by
  have hlt:=sz b hb;refine⟨⟨?_,(f2 b hb).2⟩,by rw[h3,Heap.size_push];exact Nat.lt_succ_of_lt hlt⟩;rw[d6 (by rw[<-hD];exact bt hlt)];exact(f2 b hb).1
 have st3:tn 0 s3.heap:=T.keep _ _ _ st2 fun b _ o e=>by rw[h3];exact Heap.get?_push_of_some _ e
 have I4:=Hg I3 ok hN f3;have pg:=hg s3 (upd H2 D (.lst [])) s3.heap.objs.size (cellsFrom (s3.heap.objs.size+1) scope.names (gd X.env.cells scope.names [])) fp;have pt:=ht s3 (upd H2 D (.lst [])) s3.heap.objs.size (cellsFrom (s3.heap.objs.size+1) scope.names (gd X.env.cells scope.names [])) fp;have pe:=he s3 (upd H2 D (.lst [])) s3.heap.objs.size (cellsFrom (s3.heap.objs.size+1) scope.names (gd X.env.cells scope.names [])) fp;show codeAny _ _ (.compStart (.ListComp elt [⟨tg,iter,ifs,0⟩] scope pos) 0 (.ref it) (.ref D) (compEnvC scope (cellsFrom (s3.heap.objs.size+1) scope.names (gd X.env.cells scope.names [])) s3.heap.objs.size X.env)) (compPost (model X.prog X.w) X.A X.xe use Qf (.ref D) s3.heap.objs.size) {s3 with heap:=pushCells (s3.heap.push {cls:= .type "dict",data:= .dict #[]}) scope.names};have nfp:∀b∈fp,(upd H2 D (.lst [])) b=none:=fun b hb=>(f3 b hb).1.1
 generalize hce:compEnvC scope (cellsFrom (s3.heap.objs.size+1) scope.names (gd X.env.cells scope.names [])) s3.heap.objs.size X.env=ce at I4 pg pt pe⊢;have cL:ce.locals=s3.heap.objs.size:=by subst hce;rfl
 generalize hH3:upd H2 D (.lst [])=H3 at I3 I4 pg pt pe w0 nfp f3;generalize hs4:({s3 with heap:=pushCells (s3.heap.push {cls:= .type "dict",data:= .dict #[]}) scope.names}:Shared)=s4 at I4⊢;have st4:tn 0 s4.heap:=T.keep _ _ _ st3 fun b _ o e=>by rw[<-hs4];exact pushCells_keeps _ _ _ _ (Heap.get?_push_of_some _ e)
 have stat:∀{σ':St} {H':Hp} {s':Shared},Inv (X.Dv s3 H3 scope ce fp) [] σ' H' s'->(∀b∈fp,H' b=none)->∀b∈fp,AQ (X.Dv s3 H3 scope ce fp) [] H' b:=fun{σ' H' s'} I' hn b hb=>
  ⟨hn b hb,(I'.ok.UI b hb).1,I'.ok.Nl b hb,.inl hb,fun x c e=>(I'.ok.UI b hb).2 x c e,fun p hp=>absurd (show p∈([]:List (Addr×Obj)) ++ [] from hp) (by simp)⟩
 have loop:codeAny (model X.prog X.w) X.A (.compLoop (.ListComp elt [⟨tg,iter,ifs,0⟩] scope pos) 0 (.ref it) (.ref D) ce) (compPost (model X.prog X.w) X.A X.xe use Qf (.ref D) s3.heap.objs.size) s4:=by
  refine FG (fun n s'=>∃i H',Inv (X.Dv s3 H3 scope ce fp) [] (wipe σ (own.map (·.2))) H' s'/\tn i s'.heap/\(∀b∈fp,H' b=none)/\W i n H') ?_ m0 ⟨0,H3,I4,st4,nfp,w0⟩;rintro n s5 ⟨i,H5,I5,st5,n5,w5⟩;rcases turn i n H5 w5 with⟨stop,qq⟩ |⟨go,Nx,hNx,step⟩
  ·have td:=T.done (X.Dv s3 H3 scope ce fp) rfl rfl rfl hc i [] s5 _ H5 (fun _ _=>False) I5 (stat I5 n5) st5 stop;refine L6 td fun r s6 ⟨hr,I6⟩=> ?_
   subst hr;have I7:Inv X pins σ H5 s6:=I3.Tf (ch:=fp) I6.os I6.base I6.iI I6.bare fun b hb=>⟨(f3 b hb).1.2.2.2.1,(f3 b hb).1.2.1,(f3 b hb).1.2.2.2.2.1,(f3 b hb).1.2.2.2.2.2⟩
   have nC:H5 s3.heap.objs.size=none:=by
    have z:H5 ce.locals=none:=I6.free;rw[cL] at z;exact z
   obtain⟨m,hn,_⟩:=I6.loc;have hn:s6.heap.Ns ce.locals m:=hn;rw[cL] at hn;exact hRR D s3.heap.objs.size s6 m H5 I7 qq hn (I3.LP (ai _) nC)
  ·have ti:=T.item (X.Dv s3 H3 scope ce fp) rfl rfl rfl hc i [] s5 _ H5 (fun _ _=>False) I5 (stat I5 n5) st5 go;refine L6 ti fun r s6 ⟨u,hr,h6⟩=> ?_
   subst hr;refine L6 h6 fun _ s7 ⟨x,H7,I7,r7,y7,st7,n7⟩=> ?_
   have I7':=I7.pinned (stat I7 n7) (T.obj _ _ st7);refine L6 (pg _ s7 _ H7 x u _ I7' r7 (step x H7 y7)) fun _ s8 ⟨σ8,H8,I8,hw8,q8⟩=> ?_
   refine L6 (pt _ s8 σ8 H8 _ I8 q8) fun b s9 ⟨H9,I9,q9⟩=> ?_
   have fin:∀{s':Shared} {H':Hp},Inv (X.Dv s3 H3 scope ce fp) ([] ++ BC fp s7.heap) σ8 H' s'->Nx H'->∃m,m<n/\∃i H',Inv (X.Dv s3 H3 scope ce fp) [] (wipe σ (own.map (·.2))) H' s'/\tn i s'.heap/\(∀b∈fp,H' b=none)/\W i m H':=fun{s' H'} I' nx=>by
    obtain⟨m',hm,w'⟩:=hNx H' nx;have pin':∀b∈fp,∀o,s7.heap.get? b=some o->s'.heap.get? b=some o/\H' b=none:=fun b hb o e=>
     let z:=I'.pin (b,o) (bo _ (bo _ (vC hb e)))
     ⟨z.1,z.2.1⟩
    have hl:(wipe σ (own.map (·.2))).length=σ8.length:=by rw[<-hw8,tJ]
    refine⟨m',hm,i+1,H',(I'.wU (pins:=[])).weak hl (fun j v e=> ?_),T.keep _ _ _ st7 fun b hb o e=>(pin' b hb o e).1,fun b hb=> ?_,w'⟩
    ·rw[<-hw8] at e;exact(yQ e).1
    ·obtain⟨o,e,_⟩:=T.obj _ _ st7 b hb;exact(pin' b hb o e).2
   cases b with
   |false=>
    simp only[Bool.false_eq_true,if_false] at q9⊢;exact fin I9 q9
   |true=>
    simp only[if_true] at q9⊢;refine L6 (pe _ s9 σ8 H9 _ I9 q9) fun z s10 ⟨yv,H10,I10,r10,acc,hD10,hz10,nx⟩=> ?_
    exact R8 (X:=X.Dv s3 H3 scope ce fp) I10 hD10 hz10 r10 fun s11 I11=>fin I11 nx
 exact codeAny_compStart_list loop (T.self X.A 0 _ _ _ st4 loop)
theorem mJ{elt tg iter:Expr}{ifs:List Expr}{scope:Scope}{own:List (Str×Nat)}{pos:Pos}{wi:TI}{g:TG}{tt:TT}{te:TE}(hc:X.calm=true)(hN:X.N.Nodup)(hi:PI X tg iter wi)(ok:Hf X.N X.env.scope scope own)
  (hg:∀(s:Shared) (H:Hp) (C:Addr) (cl:List (Str×Addr)) (fp:List Addr),PG (X.Dv s H scope (compEnvC scope cl C X.env) fp) tg g) (ht:∀(s:Shared) (H:Hp) (C:Addr) (cl:List (Str×Addr)) (fp:List Addr),T5 (X.Dv s H scope (compEnvC scope cl C X.env) fp) ifs tt)
  (he:∀(s:Shared) (H:Hp) (C:Addr) (cl:List (Str×Addr)) (fp:List Addr),PE (X.Dv s H scope (compEnvC scope cl C X.env) fp) elt te) (hs:∀x,foldedSetIterable iter X.env x=pure x:=by intro _;rfl):
  PE X (.ListComp elt [⟨tg,iter,ifs,0⟩] scope pos) (UK wi g tt te (own.map (·.2))):=by
 intro pins s σ H Q I h;rw[eval_ListComp];refine KQ hc hN I hi ok hg ht he hs h fun D C s' m H' I' q hn f=>⟨m,hn,fun h'' sb=> ?_⟩
 obtain⟨f0,f1,f2,f3,f4,f5⟩:=f;exact⟨.ref D,H',I'.turned (t':=s'.toks) (fun b o hb e=>(sb.2 b hb).trans e) f0 f1 f3 f4 f5,rfl,q⟩
theorem qS{i:Nat}{y:Str}{py:Pos}{elt tg iter:Expr}{ifs:List Expr}{scope:Scope}{own:List (Str×Nat)}{pos spos:Pos}{wi:TI}{g:TG}{tt:TT}{te:TE}(hc:X.calm=true)(hN:X.N.Nodup)(hy:X.N[i]? =some y)(hyl:X.env.scope.names.lookup y=some .local)
  (hsw:swapsWith (.ListComp elt [⟨tg,iter,ifs,0⟩] scope pos) (some (.Name y py)) spos.line X.env=pure true) (hi:PI X tg iter wi) (ok:Hf X.N X.env.scope scope own)
  (hg:∀(s:Shared) (H:Hp) (C:Addr) (cl:List (Str×Addr)) (fp:List Addr),PG (X.Dv s H scope (compEnvC scope cl C X.env) fp) tg g) (ht:∀(s:Shared) (H:Hp) (C:Addr) (cl:List (Str×Addr)) (fp:List Addr),T5 (X.Dv s H scope (compEnvC scope cl C X.env) fp) ifs tt)
  (he:∀(s:Shared) (H:Hp) (C:Addr) (cl:List (Str×Addr)) (fp:List Addr),PE (X.Dv s H scope (compEnvC scope cl C X.env) fp) elt te) (hs:∀x,foldedSetIterable iter X.env x=pure x:=by intro _;rfl):
  PS X (.Assign [.Name y py] (.ListComp elt [⟨tg,iter,ifs,0⟩] scope pos) spos) (PR (UK wi g tt te (own.map (·.2))) (Ea i)):=by
 intro pins s σ H D I h;rw[exec_Assign_Name_used _ _ _ _ hsw];refine wpAny_bind (wpAny_standAt (wpAny_bind ?_));show wpAny _ X.A (do let _<-comprehension (.ListComp elt [⟨tg,iter,ifs,0⟩] scope pos) scope X.env (firstIterPos [⟨tg,iter,ifs,0⟩] pos) (newList []) false (eval iter X.env) (some (assign (.Name y py) X.env))) _ _ s;have h:UK wi g tt te (own.map (·.2)) σ H (fun x H1=>Ea i x σ H1 D.nx):=h;refine wpAny_bind (ij (KQ (Qf:=fun _ s'=>SP X pins D .next s') hc hN I hi ok hg ht he hs h fun L C s' m H' I' q hn f=> ?_) fun _ s' hq=>wpAny_pure (wpAny_pure hq));show wpAny _ _ (assign (.Name y py) X.env (.ref L)) _ _ _;refine wpAny_assign_Name (D9 (v:=V.ref L) I' hN hy (.inl hyl) rfl (fun s2 I2 ⟨a,sb,ha⟩=> ?_) (.inr hyl));obtain⟨f0,f1,f2,f3,f4,f5⟩:=f;have haC:C≠a:=by
  rcases ha with z |z
  ·rw[z];exact f1
  ·exact fun e=>f4 y a z e.symm
 refine⟨m,hn.sameBut sb haC,fun h3 sb3=> ?_⟩;exact⟨_,H',I2.turned (t':=s2.toks) (fun b o hb e=>(sb3.2 b hb).trans e) f0 f1 f3 f4 f5,q⟩
theorem uO{elt:Expr}{gs:List Comprehension}{scope:Scope}{pos py:Pos}{y:Str}{l:Nat}{env:Env}(hk:env.scope.kind= .function)(hy:env.scope.names.lookup y=some .local)(hl:(py.line==pos.line)=true)
  (ha:(scope.names.any fun(n,k)=>n==y&&(k== .local ||k== .cell))=false):swapsWith (.ListComp elt gs scope pos) (some (.Name y py)) l env=pure true:=by
 have ky:env.kindOf y=some .local:=hy;have hb:env.blockKind= .function:=by unfold Env.blockKind;rw[hk];rfl
 unfold swapsWith;simp only[hb,ky,ha,Expr.pos,hl];rfl
end
noncomputable def mV (N:List Str) (sc scope:Scope) (own:List (Str×Nat)):Bool:=
 (match scope.kind with | .function=>true |_=>false)&&(scope.names.all fun y=>decide (scope.names.lookup y.1=some y.2))&&(own.all fun p=>decide (N[p.2]? =some p.1))&&
  (scope.names.all fun y=>match y.2 with
   | .free=>(match sc.names.lookup y.1 with |some .cell=>true |some .free=>true |_=>false)
   | .local=>decide (y.1∈own.map (·.1)) ||decide (y.1∉N)
   | .cell=>decide (y.1∈own.map (·.1)) ||decide (y.1∉N)
   |_=>true)
theorem fq{N:List Str}{sc scope:Scope}{own:List (Str×Nat)}(h:mV N sc scope own=true):Hf N sc scope own:=by
 unfold mV at h;simp only[aF,bD,decide_eq_true_eq] at h;obtain⟨⟨⟨h1,h2⟩,h3⟩,h4⟩:=h;refine⟨?_,h2,h3,fun y hy e=> ?_,fun y hy e=> ?_⟩
 ·split at h1
  ·assumption
  ·cases h1
 ·have q:=h4 y hy;simp only[e] at q;split at q <;>first |exact .inl (by assumption) |exact .inr (by assumption) |cases q
 ·have q:=h4 y hy;rcases e with e |e <;>(simp only[e,Bool.or_eq_true,decide_eq_true_eq] at q;exact q)
theorem BF:bootBuiltins "reversed"=some (.type "reversed"):=by decide +kernel
section
variable {X:Cx}{pins:List (Addr×Obj)}{σ:St}{H:Hp}{s:Shared}{h':Heap}
theorem Inv.Ql{t':Nat}{ch:List Addr}(I:Inv X pins σ H s)(k:∀b o,b∉ch->s.heap.get? b=some o->h'.get? b=some o)(hf:∀b∈ch,AQ X pins H b):Inv X pins σ H {s with heap:=h',toks:=t'}:=by
 have nit:∀b u,H b=some u->b∉ch:=fun b u e z=>by
  have q:=(hf b z).1;rw[q] at e;cases e
 refine I.step (g':=s.gens) (d':=s.drawn) (ch:=ch) (fun b hb=>⟨(hf b hb).2.2.2.1,(hf b hb).2.1,(hf b hb).2.2.2.2.1,(hf b hb).2.2.2.2.2⟩) (fun b o _ _ hc e _=>k b o hc e) (fun b o _ _ hc e _=>⟨o.slots,k b o hc e⟩)
  (fun _ _ _ _ n=>n) (fun b o hc e=>⟨o,k b o hc e⟩) (fun _ _ e=>e) (fun _ _ _ e=>e) (fun b ps e=>⟨#[],by rw[e];simp⟩) (fun m hm=> ?_) (fun b u e=> ?_) I.bare
 ·obtain⟨o,es,ep,ho,r⟩:=hm;exact⟨o,es,ep,k _ o (fun z=>(hf _ z).2.1 rfl) ho,r⟩
 ·refine(I.iI b u e).IZ (fun c v hc q=>k c v ?_ q) (fun _ q=>q) fun _ _ q=>q
  rcases hc with z |z
  ·rw[z];exact nit b u e
  ·exact nit c _ z
theorem Inv.Eh{t':Nat}{ch:List Addr}{T:Addr}{ob:HO}(I:Inv X pins σ H s)(k:∀b o,b∉ch->s.heap.get? b=some o->h'.get? b=some o)(hf:∀b∈ch,AQ X pins H b)(hT:s.heap.objs.size<=T)
  (new:j9 X.prog X.w (upd H T ob) h' T ob):Inv X pins σ (upd H T ob) {s with heap:=h',toks:=t'}:=by
 have hn:H T=none:=I.iI.fresh hT;have nit:∀b u,H b=some u->b∉ch:=fun b u e z=>by
  have q:=(hf b z).1;rw[q] at e;cases e
 refine I.step (g':=s.gens) (d':=s.drawn) (ch:=ch) (fun b hb=>⟨(hf b hb).2.2.2.1,(hf b hb).2.1,(hf b hb).2.2.2.2.1,(hf b hb).2.2.2.2.2⟩) (fun b o _ _ hc e _=>k b o hc e) (fun b o _ _ hc e _=>⟨o.slots,k b o hc e⟩)
  (fun b o _ e n=> ?_) (fun b o hc e=>⟨o,k b o hc e⟩) (fun b xs e=> ?_) (fun b o u e=> ?_) (fun b ps e=>⟨#[],?_⟩) (fun m hm=> ?_) (fun b u e=> ?_) I.bare
 ·rw[d6 (bt (aS (Heap.lt_size e) hT))];exact n
 ·rw[d6 (fF e hn)];exact e
 ·rw[d6 (fF e hn)];exact e
 ·rw[d6 (fF e hn),e];simp
 ·obtain⟨o,es,ep,ho,r⟩:=hm;exact⟨o,es,ep,k _ o (fun z=>(hf _ z).2.1 rfl) ho,r⟩
 ·by_cases hb:b=T
  ·subst hb;rw[dh] at e;cases e
   exact new
  ·rw[d6 hb] at e;refine(I.iI b u e).IZ (fun c v hc q=>k c v ?_ q) (fun c q=>by rw[d6 (fF q hn)];exact q) fun c xs q=>by rw[d6 (fF q hn)];exact q
   rcases hc with z |z
   ·rw[z];exact nit b u e
   ·exact nit c _ z
end
section
variable {X:Cx}
theorem NK{tg:Expr}{pins:List (Addr×Obj)}{σ:St}{H:Hp}{s:Shared}{R:It->Hp->Prop}{J:It}{tn:Nat->Heap->Prop}{tk:Nat}(I:Inv X pins σ H s)(o:Obj)
  (T:Turn X.prog X.w X.K tg J [s.heap.objs.size] s.heap.objs.size tn) (st:tn 0 (s.heap.push o)) (q:R J H):U0 X pins σ tg R (.ref s.heap.objs.size) {s with heap:=s.heap.push o,toks:=tk}:=by
 refine⟨s.heap.objs.size,[s.heap.objs.size],tn,J,H,rfl,I.kept fun b ob e=>Heap.get?_push_of_some _ e,T,st,fun b hb=> ?_,q⟩;have e:b=s.heap.objs.size:=by simpa using hb
 subst e;exact I.LP (ai _) (I.iI.fresh (ai _))
end
noncomputable def Vc (lo c:Int) (n:Nat):It:=⟨fun i _=>i<n,fun i H x H'=>H'=H/\x= .int (lo+(i:Nat)*c),fun i _=>n<=i⟩
theorem Hh{P:Program}{w:World}{K:PySem.W.Frag}{tg:Expr}(it:Addr)(lo c:Int)(n:Nat):Turn P w K tg (Vc lo c n) [it] it (fun i h=>IsRangeIter h it (lo+(i:Nat)*c) ((n:Int) - (i:Nat)) c) where
 mem:=by simp
 obj:=fun i h st b hb=>by
  have e:b=it:=by simpa using hb
  subst e;exact⟨_,st,fun v z=>nomatch z⟩
 keep:=fun i h h' st k=>k it (by simp) _ st
 item:=by
  intro X hP hw hK hc i pins s σ H E I hf st hg;subst hP hw hK;obtain⟨f0,f1,f2,f3,f4,f5⟩:=hf it (by simp);have W:=Walks.range (prog:=X.prog) (w:=X.w) (I.ok.hd hc) it lo c n;refine W.item i s _ _ hg st fun v h' tk hv st' kk=> ?_
  obtain⟨t,rfl⟩:=hv;have I1:Inv X pins σ H {s with heap:=h',toks:=tk}:=I.turned (fun b o hb e=>kk b o (by simpa using hb) e) f0 f1 f3 f4 f5;exact⟨_,rfl,Kz (s:={s with heap:=h',toks:=tk}) (n:="range_iterator") st' rfl rfl (by decide) ⟨.int (lo+(i:Nat)*c),H,I1,⟨t,rfl⟩,⟨rfl,rfl⟩,st',fun b hb=>(hf b hb).1⟩⟩
 done:=by
  intro X hP hw hK hc i pins s σ H E I hf st hg;subst hP hw hK;obtain⟨f0,f1,f2,f3,f4,f5⟩:=hf it (by simp);exact wpAny_pyNext_range_end (I.ok.hd hc) st (by have:n<=i:=hg;lia) fun h' eb=>⟨rfl,I.turned (t':=s.toks) (fun b o hb e=>eb b o hb e) f0 f1 f3 f4 f5⟩
 self:=fun A i s Q E st h=>wpAny_pyIter_rangeiter st h
noncomputable def T6 (i j c:Int) (n:Nat):Prop:=c≠0/\c.natAbs<1073741824/\Builtin.Range.small i j c=true/\Builtin.Range.rangeSize i j c=n
theorem T6.neg{i j:Int}(ha: -(2^62)<=i)(ha':i<2^62)(hb: -(2^62)<=j)(hb':j<2^62):T6 i j (-1) (i - j).toNat:=
 ⟨by decide,by decide,PySem.W.small_down ha ha' hb hb',PySem.W.rangeSize_downNat i j⟩
noncomputable def T7 (ta:TA):TI:=fun σ H R=>ta σ H fun vs H1=>∃(i j c:Int) (n:Nat),vs=[.int i,.int j,.int c]/\T6 i j c n/\R (Vc i c n) H1
section
variable {X:Cx}{tg:Expr}
theorem Ei{a b c:Expr}{ta:TA}{p pos:Pos}(hg:Gl X "range")(hm:X.mg "range"=none)(ha:PA X [a,b,c] ta)
  (hs:starEach [a,b,c] X.env=(false,eval a X.env)::starEach [b,c] X.env:=by rfl) (hpl:(backTo pos (starEach [b,c] X.env)).any (·.1)=false:=by rfl):
  PI X tg (.Call (.Name "range" p) [a,b,c] [] pos) (T7 ta):=by
 intro pins s σ H R I h;refine Call_ (sX I hg hm boot_range (br (ij (ha pos pins s σ H _ I h) fun us s1 ⟨vs,H1,I1,r1,q1⟩=> ?_) hs hpl));obtain⟨i,j,k,n,e,⟨c0,c1,c2,c3⟩,q⟩:=q1;subst e;cases r1 with
 |cons r rr=>
  cases rr with
  |cons r' rr=>
   cases rr with
   |cons r'' rr=>
    cases rr
    obtain⟨t,rfl⟩:=r;obtain⟨t',rfl⟩:=r';obtain⟨t'',rfl⟩:=r'';refine call_range_3 c0 ?_ (.inl (PyProof.noPylong_small c1));refine wpAny_pyIter_range (IsRange.new ..) c2 ?_;have I2:Inv X pins σ H1 {s1 with heap:=s1.heap.push {cls:= .type "range",data:= .fields #[.int i t,.int j t',.int k t'']}}:=I1.kept (t':=s1.toks) fun b o e=>Heap.get?_push_of_some _ e
    refine NK (tk:=s1.toks) I2 _ (Hh _ i k n) ?_ q;have e1:i+((0:Nat):Int)*k=i:=by simp
    have e2:(n:Int) - ((0:Nat):Int)=Builtin.Range.rangeSize i j k:=by rw[c3];simp
    show IsRangeIter _ _ (i+((0:Nat):Int)*k) ((n:Int) - ((0:Nat):Int)) k;rw[e1,e2];exact Heap.get?_push_size _ rfl
end
noncomputable def Vd (K:PySem.W.Frag) (a:Addr) (n:Nat):It:=
 ⟨fun i H=>i<n/\∃(xs:List V) (x:V),ly K H a xs/\xs[n - 1 - i]? =some x,fun i H x H'=>H'=H/\∀xs,ly K H a xs->xs[n - 1 - i]? =some x,fun i _=>n<=i⟩
theorem NL{P:Program}{w:World}{K:PySem.W.Frag}{tg:Expr}(a it:Addr)(n:Nat):Turn P w K tg (Vd K a n) [it] it (fun i h=>i<=n/\h.IsRevIter it a ((n:Int) - 1 - (i:Nat))) where
 mem:=by simp
 obj:=fun i h st b hb=>by
  have e:b=it:=by simpa using hb
  subst e;obtain⟨_,o,e,c,d⟩:=st;exact⟨o,e,fun v z=>by rw[d] at z;cases z⟩
 keep:=fun i h h' st k=>⟨st.1,st.2.at fun o e=>k it (by simp) o e⟩
 item:=by
  intro X hP hw hK hc i pins s σ H E I hf st hg;subst hP hw hK;obtain⟨hin,xs,x,hq,hx⟩:=hg;obtain⟨its,rv,p,hz⟩:=I.list hq;obtain⟨u,hu,ru⟩:=rv.get hx;obtain⟨f0,f1,f2,f3,f4,f5⟩:=hf it (by simp);obtain⟨_,hit⟩:=st;have e1:(n:Int) - 1 - ((i:Nat):Int)=((n - 1 - i:Nat):Int):=by lia
  rw[e1] at hit;refine wpAny_pyNext_rev_item hit p.isList (x:=u) (by simpa using hu) fun h' st' sb=> ?_
  have e2:((n - 1 - i:Nat):Int) - 1=(n:Int) - 1 - ((i+1:Nat):Int):=by lia
  rw[e2] at st';have I1:Inv X pins σ H {s with heap:=h'}:=I.turned (t':=s.toks) (fun b o hb e=>(sb.2 b hb).trans e) f0 f1 f3 f4 f5;obtain⟨o,e,c,d⟩:=id st';exact⟨u,rfl,Kz (s:={s with heap:=h'}) e c d (by decide) ⟨x,H,I1,ru,⟨rfl,fun ys hy=>by rw[I.sY hy hq];exact hx⟩,⟨hin,st'⟩,fun b hb=>(hf b hb).1⟩⟩
 done:=by
  intro X hP hw hK hc i pins s σ H E I hf st hg;subst hP hw hK;obtain⟨f0,f1,f2,f3,f4,f5⟩:=hf it (by simp);obtain⟨hin,hit⟩:=st;have hge:n<=i:=hg;have e1:(n:Int) - 1 - ((i:Nat):Int)= -1:=by lia
  rw[e1] at hit;exact wpAny_pyNext_rev_end (I.ok.hd hc) hit fun h' eb=>⟨rfl,I.turned (t':=s.toks) (fun b o hb e=>eb b o hb e) f0 f1 f3 f4 f5⟩
 self:=fun A i s Q E st h=>wpAny_pyIter_revIter st.2 h
noncomputable def Ve (K:PySem.W.Frag) (ta:TA):TI:=fun σ H R=>ta σ H fun vs H1=>∃(a:Addr) (xs:List V),vs=[.ref a]/\ly K H1 a xs/\R (Vd K a xs.length) H1
section
variable {X:Cx}{tg:Expr}
theorem Hi{e:Expr}{ta:TA}{p pos:Pos}(hg:Gl X "reversed")(hm:X.mg "reversed"=none)(ha:PA X [e] ta)(hs:starEach [e] X.env=[(false,eval e X.env)]:=by rfl):PI X tg (.Call (.Name "reversed" p) [e] [] pos) (Ve X.K ta):=by
 intro pins s σ H R I h;refine Call_ (sX I hg hm BF (br (ij (ha pos pins s σ H _ I h) fun us s1 ⟨vs,H1,I1,r1,q1⟩=> ?_) hs rfl));obtain⟨a,xs,e,hq,q⟩:=q1;subst e;cases r1 with
 |cons r rr=>
  cases rr
  cases r
  obtain⟨its,rv,p',hz⟩:=I1.list hq;have hl:=rv.length;have e1:((its.toArray.size:Nat):Int) - 1=(xs.length:Int) - 1 - ((0:Nat):Int):=by simp only[aI];lia
  refine call_reversed_list p'.isList (wpAny_pyIter_revIter (l:=a) (i:=((its.toArray.size:Nat):Int) - 1) ⟨_,Heap.get?_push_size _ rfl,rfl,rfl⟩ ?_);refine NK (tk:=s1.toks) I1 _ (NL a _ xs.length) ⟨aL _,?_⟩ q;rw[<-e1];exact⟨_,Heap.get?_push_size _ rfl,rfl,rfl⟩
end
noncomputable def Vf (K:PySem.W.Frag) (a:Addr):It:=
 ⟨fun i H=>∃(xs:List V) (x:V),ly K H a xs/\xs[i]? =some x,fun i H v H'=>∃T x,v= .ref T/\H T=none/\H'=upd H T (.tup [.int (i:Nat),x])/\∀xs,ly K H a xs->xs[i]? =some x,fun i H=>∃xs:List V,ly K H a xs/\xs.length<=i⟩
theorem L7{P:Program}{w:World}{K:PySem.W.Frag}{elts:List Expr}{kk:Nat}{tpos:Pos}(a e it:Addr):
  Turn P w K (.Tuple elts kk tpos) (Vf K a) [e,it] e (fun i h=>(∃old,IsEnum h e it ((i:Nat):Int) old)/\h.IsListIter it a i/\e≠it) where
 mem:=by simp
 obj:=fun i h st b hb=>by
  obtain⟨⟨old,he⟩,⟨o,ho,hc,hd⟩,_⟩:=st;have e':b=e\/b=it:=by simpa using hb
  rcases e' with z |z
  ·rw[z];exact⟨_,he,fun v q=>nomatch q⟩
  ·rw[z];exact⟨o,ho,fun v q=>by rw[hd] at q;cases q⟩
 keep:=fun i h h' st k=>let ⟨⟨old,he⟩,hi,hne⟩:=st;⟨⟨old,k e (by simp) _ he⟩,hi.at fun o q=>k it (by simp) o q,hne⟩
 item:=by
  intro X hP hw hK hc i pins s σ H E I hf st hg;subst hP hw hK;obtain⟨⟨old,he⟩,hit,hne⟩:=st;obtain⟨xs,x,hq,hx⟩:=hg;obtain⟨its,rv,p,hz⟩:=I.list hq;obtain⟨u,hu,ru⟩:=rv.get hx;have hel:e<s.heap.objs.size:=Heap.lt_size he;have hil:it<s.heap.objs.size:=by obtain⟨_,q,_⟩:=hit;exact Heap.lt_size q
  refine wpAny_pyNext_enum_item he hit p.isList (x:=u) (by simpa using hu) hne fun h' ho hit' hT hsz hk=> ?_
  refine⟨_,rfl,wpAny_letOwnedTupleGo_enum (s:={s with heap:=h',toks:=s.toks+1}) ho fun h'' he' sb=> ?_⟩;have hT2:h''.get? s.heap.objs.size=some {cls:= .type "tuple",data:= .seq #[.int i s.toks,u]}:=(sb.2 _ (Nat.ne_of_gt hel)).trans hT;have new:j9 X.prog X.w (upd H s.heap.objs.size (.tup [.int (i:Nat),x])) h'' s.heap.objs.size (.tup [.int (i:Nat),x]):=
   ⟨by show 2<=sizeLine;decide,[.int i s.toks,u],.cons ⟨_,rfl⟩ (.cons ru .nil),⟨_,hT2,rfl,_,rfl⟩⟩
  have I1:Inv X pins σ (upd H s.heap.objs.size (.tup [.int (i:Nat),x])) {s with heap:=h'',toks:=s.toks+1}:=
   I.Eh (ch:=[e,it]) (fun b ob hb q=>(sb.2 b (fun z=>hb (by simp[z]))).trans (hk b ob (fun z=>hb (by simp[z])) (fun z=>hb (by simp[z])) q)) hf (ai _) new
  refine⟨.ref s.heap.objs.size,_,I1,rfl,⟨_,x,rfl,I.iI.fresh (ai _),rfl,fun ys hy=>by rw[I.sY hy hq];exact hx⟩,⟨⟨u,?_⟩,hit'.at fun o q=>(sb.2 it (bK hne)).trans q,hne⟩,fun b hb=> ?_⟩
  ·have e1:((i+1:Nat):Int)=(i:Int)+1:=by lia
   rw[e1];exact he'
  ·have hb':b<s.heap.objs.size:=by
    have e':b=e\/b=it:=by simpa using hb
    rcases e' with z |z
    ·rw[z];exact hel
    ·rw[z];exact hil
   rw[d6 (bt hb')];exact(hf b hb).1
 done:=by
  intro X hP hw hK hc i pins s σ H E I hf st hg;subst hP hw hK;obtain⟨⟨old,he⟩,hit,hne⟩:=st;obtain⟨xs,hq,hx⟩:=hg;obtain⟨its,rv,p,hz⟩:=I.list hq;obtain⟨f0,f1,f2,f3,f4,f5⟩:=hf it (by simp);have hl:=rv.length;exact wpAny_pyNext_enum_end (I.ok.hd hc) he hit p.isList (by simp;lia) fun h' eb=>⟨rfl,I.turned (t':=s.toks) (fun b o hb q=>eb b o hb q) f0 f1 f3 f4 f5⟩
 self:=fun A i s Q E st h=>let ⟨⟨_,he⟩,_⟩:=st;wpAny_pyIter_enum he h
noncomputable def T8 (K:PySem.W.Frag) (ta:TA):TI:=fun σ H R=>ta σ H fun vs H1=>∃a xs,vs=[.ref a]/\ly K H1 a xs/\R (Vf K a) H1
theorem rm{X:Cx}{e:Expr}{ta:TA}{p pos tpos:Pos}{elts:List Expr}{kk:Nat}(hg:Gl X "enumerate")(hm:X.mg "enumerate"=none)(ha:PA X [e] ta)(hs:starEach [e] X.env=[(false,eval e X.env)]:=by rfl):
  PI X (.Tuple elts kk tpos) (.Call (.Name "enumerate" p) [e] [] pos) (T8 X.K ta):=by
 intro pins s σ H R I h;refine Call_ (sX I hg hm boot_enumerate (br (ij (ha pos pins s σ H _ I h) fun us s1 ⟨vs,H1,I1,r1,q1⟩=> ?_) hs rfl));obtain⟨a,xs,ex,hq,q⟩:=q1;subst ex;cases r1 with
 |cons r rr=>
  cases rr
  cases r
  obtain⟨its,rv,p',hz⟩:=I1.list hq;refine call_enumerate_list p'.isList fun h' he hit hsz hk=>wpAny_pyIter_enum he ?_
  have I2:Inv X pins σ H1 {s1 with heap:=h'}:=I1.kept (t':=s1.toks) hk;refine⟨s1.heap.objs.size+1,[s1.heap.objs.size+1,s1.heap.objs.size],_,_,H1,rfl,I2,L7 a (s1.heap.objs.size+1) s1.heap.objs.size,⟨⟨.none,he⟩,hit,Nat.succ_ne_self _⟩,fun b hb=> ?_,q⟩;have e':b=s1.heap.objs.size+1\/b=s1.heap.objs.size:=by simpa using hb
  have hle:s1.heap.objs.size<=b:=by
   rcases e' with z |z
   ·rw[z];exact cA _ _
   ·rw[z];exact ai _
  exact I1.LP hle (I1.iI.fresh hle)
theorem L8:bootBuiltins "zip"=some (.type "zip"):=by decide +kernel
noncomputable def Vg (K:PySem.W.Frag) (a b:Addr):It:=
 ⟨fun i H=>∃(xs ys:List V) (x y:V),ly K H a xs/\ly K H b ys/\xs[i]? =some x/\ys[i]? =some y,
  fun i H v H'=>∃T x y,v= .ref T/\H T=none/\H'=upd H T (.tup [x,y])/\(∀xs,ly K H a xs->xs[i]? =some x)/\∀ys,ly K H b ys->ys[i]? =some y,
  fun i H=>∃xs ys:List V,ly K H a xs/\ly K H b ys/\(xs.length<=i\/ys.length<=i)⟩
theorem NM{P:Program}{w:World}{K:PySem.W.Frag}{elts:List Expr}{kk:Nat}{tpos:Pos}{a b z TI TO i1 i2:Addr}(D:ZipApart z TI TO i1 i2 a b):
  Turn P w K (.Tuple elts kk tpos) (Vg K a b) [z,TI,TO,i1,i2] z (fun i h=>IsZip h z TI TO .none/\IsPair h TI (.ref i1) (.ref i2)/\(∃x y,IsPair h TO x y)/\h.IsListIter i1 a i/\h.IsListIter i2 b i) where
 mem:=by simp
 obj:=fun i h st c hc=>by
  obtain⟨hz,hTI,⟨x,y,hTO⟩,⟨o1,e1,_,d1⟩,⟨o2,e2,_,d2⟩⟩:=st;have e':c=z\/c=TI\/c=TO\/c=i1\/c=i2:=by simpa using hc
  rcases e' with q |q |q |q |q
  ·rw[q];exact⟨_,hz,fun v q=>nomatch q⟩
  ·rw[q];exact⟨_,hTI,fun v q=>nomatch q⟩
  ·rw[q];exact⟨_,hTO,fun v q=>nomatch q⟩
  ·rw[q];exact⟨o1,e1,fun v q=>by rw[d1] at q;cases q⟩
  ·rw[q];exact⟨o2,e2,fun v q=>by rw[d2] at q;cases q⟩
 keep:=fun i h h' st k=>by
  obtain⟨hz,hTI,⟨x,y,hTO⟩,h1,h2⟩:=st;exact⟨k z (by simp) _ hz,k TI (by simp) _ hTI,⟨x,y,k TO (by simp) _ hTO⟩,h1.at fun o q=>k i1 (by simp) o q,h2.at fun o q=>k i2 (by simp) o q⟩
 item:=by
  intro X hP hw hK hc i pins s σ H E I hf st hg;subst hP hw hK;obtain⟨hz,hTI,⟨x0,y0,hTO⟩,h1,h2⟩:=st;obtain⟨xs,ys,x,y,hqx,hqy,hx,hy⟩:=hg;obtain⟨its,rv,p,_⟩:=I.list hqx;obtain⟨its2,rv2,p2,_⟩:=I.list hqy;obtain⟨u,hu,ru⟩:=rv.get hx;obtain⟨u2,hu2,ru2⟩:=rv2.get hy;have hzl:z<s.heap.objs.size:=Heap.lt_size hz;refine wpAny_pyNext_zip_item D hz hTI hTO h1 h2 p.isList p2.isList (x:=u) (y:=u2) (by simpa using hu) (by simpa using hu2) fun h' z' TO' h1' h2' hT hsz hk=> ?_
  refine⟨_,rfl,wpAny_letOwnedTupleGo_zip (s:={s with heap:=h'}) z' fun h'' z'' sb=> ?_⟩;have hT2:h''.get? s.heap.objs.size=some {cls:= .type "tuple",data:= .seq #[u,u2]}:=(sb.2 _ (Nat.ne_of_gt hzl)).trans hT;have new:j9 X.prog X.w (upd H s.heap.objs.size (.tup [x,y])) h'' s.heap.objs.size (.tup [x,y]):=
   ⟨by show 2<=sizeLine;decide,[u,u2],.cons ru (.cons ru2 .nil),⟨_,hT2,rfl,_,rfl⟩⟩
  have I1:Inv X pins σ (upd H s.heap.objs.size (.tup [x,y])) {s with heap:=h''}:=
   I.Eh (t':=s.toks) (ch:=[z,TI,TO,i1,i2]) (fun c o hb q=>(sb.2 c (fun q'=>hb (by simp[q']))).trans (hk c o (fun q'=>hb (by simp[q'])) (fun q'=>hb (by simp[q'])) (fun q'=>hb (by simp[q'])) (fun q'=>hb (by simp[q'])) q)) hf (ai _) new
  refine⟨.ref s.heap.objs.size,_,I1,rfl,⟨_,x,y,rfl,I.iI.fresh (ai _),rfl,fun l hl=>by rw[I.sY hl hqx];exact hx,fun l hl=>by rw[I.sY hl hqy];exact hy⟩,⟨z'',?_,⟨u,u2,?_⟩,?_,?_⟩,fun c hcm=> ?_⟩
  ·exact(sb.2 _ D.TIz).trans (hk _ _ D.TIz D.TITO D.TIi1 D.TIi2 hTI)
  ·exact(sb.2 _ D.TOz).trans TO'
  ·exact h1'.at fun o q=>(sb.2 _ D.i1z).trans q
  ·exact h2'.at fun o q=>(sb.2 _ D.i2z).trans q
  ·have hlt:c<s.heap.objs.size:=by
    have e':c=z\/c=TI\/c=TO\/c=i1\/c=i2:=by simpa using hcm
    rcases e' with q |q |q |q |q
    ·rw[q];exact hzl
    ·rw[q];exact Heap.lt_size hTI
    ·rw[q];exact Heap.lt_size hTO
    ·rw[q];obtain⟨_,e1,_⟩:=h1;exact Heap.lt_size e1
    ·rw[q];obtain⟨_,e2,_⟩:=h2;exact Heap.lt_size e2
   rw[d6 (bt hlt)];exact(hf c hcm).1
 done:=by
  intro X hP hw hK hc i pins s σ H E I hf st hg;subst hP hw hK;obtain⟨hz,hTI,⟨x0,y0,hTO⟩,h1,h2⟩:=st;obtain⟨xs,ys,hqx,hqy,hend⟩:=hg;obtain⟨its,rv,p,_⟩:=I.list hqx;obtain⟨its2,rv2,p2,_⟩:=I.list hqy;have l1:=rv.length;have l2:=rv2.length;have he:its.toArray[i]? =none\/its2.toArray[i]? =none:=by
   rcases hend with q |q
   ·exact .inl (by simp;lia)
   ·exact .inr (by simp;lia)
  exact wpAny_pyNext_zip_end (I.ok.hd hc) D hz hTI hTO h1 h2 p.isList p2.isList he fun h' hk=>⟨rfl,I.Ql (t':=s.toks) (ch:=[z,TI,TO,i1,i2]) (fun c o hb q=>
   hk c o (fun q'=>hb (by simp[q'])) (fun q'=>hb (by simp[q'])) (fun q'=>hb (by simp[q'])) (fun q'=>hb (by simp[q'])) q) hf⟩
 self:=fun A i s Q E st h=>wpAny_pyIter_zip st.1 h
noncomputable def Vh (K:PySem.W.Frag) (ta:TA):TI:=fun σ H R=>ta σ H fun vs H1=>∃a b xs ys,vs=[.ref a,.ref b]/\ly K H1 a xs/\ly K H1 b ys/\R (Vg K a b) H1
theorem R9{X:Cx}{e e2:Expr}{ta:TA}{p pos tpos:Pos}{elts:List Expr}{kk:Nat}(hg:Gl X "zip")(hm:X.mg "zip"=none)(ha:PA X [e,e2] ta)
  (hs:starEach [e,e2] X.env=(false,eval e X.env)::starEach [e2] X.env:=by rfl) (hpl:(backTo pos (starEach [e2] X.env)).any (·.1)=false:=by rfl):
  PI X (.Tuple elts kk tpos) (.Call (.Name "zip" p) [e,e2] [] pos) (Vh X.K ta):=by
 intro pins s σ H R I h;refine Call_ (sX I hg hm L8 (br (ij (ha pos pins s σ H _ I h) fun us s1 ⟨vs,H1,I1,r1,q1⟩=> ?_) hs hpl));obtain⟨a,b,xs,ys,ex,hqx,hqy,q⟩:=q1;subst ex;cases r1 with
 |cons r rr=>
  cases rr with
  |cons r' rr=>
   cases rr
   cases r
   cases r'
   obtain⟨its,rv,p1,_⟩:=I1.list hqx;obtain⟨its2,rv2,p2,_⟩:=I1.list hqy;have la:a<s1.heap.objs.size:=p1.lt;have lb:b<s1.heap.objs.size:=p2.lt;refine call_zip_2 p1.isList p2.isList fun h' hz hTI hTO h1 h2 hsz hk=>wpAny_pyIter_zip hz ?_
   have I2:Inv X pins σ H1 {s1 with heap:=h'}:=I1.kept (t':=s1.toks) hk;refine⟨s1.heap.objs.size+4,[s1.heap.objs.size+4,s1.heap.objs.size+2,s1.heap.objs.size+3,s1.heap.objs.size,s1.heap.objs.size+1],_,_,H1,rfl,I2,NM (PySem.W.ktu_apart s1.heap.objs.size a b la lb),⟨hz,hTI,⟨_,_,hTO⟩,h1,h2⟩,fun c hcm=> ?_,q⟩;have e':c=s1.heap.objs.size+4\/c=s1.heap.objs.size+2\/c=s1.heap.objs.size+3\/c=s1.heap.objs.size\/c=s1.heap.objs.size+1:=by simpa using hcm
   have hle:s1.heap.objs.size<=c:=by
    rcases e' with z |z |z |z |z
    ·rw[z];exact cA _ _
    ·rw[z];exact cA _ _
    ·rw[z];exact cA _ _
    ·rw[z];exact ai _
    ·rw[z];exact cA _ _
   exact I1.LP hle (I1.iI.fresh hle)
end L2
section
namespace Vi
open PySem PyProof.Rows
end Vi
end
section
namespace TL
open PySem PySem.Builtin PySem.Builtin.Str PySem.StrLaws
end TL
end
namespace L2
open PySem PySem.Spec PyProof.Rows
end L2
namespace V6
open PySem PySem.W PySem.Calls PyProof.Rows
end V6
namespace L2
open PySem PySem.Spec PyProof.Rows
noncomputable def inClass (s:Stmt) (j:Nat):Stmt:=match s with
 | .ClassDef _ _ _ body _ _ _ _ _ _ _=>body.getD j (.Pass ⟨0,0,0,0⟩)
 |_=> .Pass ⟨0,0,0,0⟩
noncomputable def jV (s:Stmt):Arguments:=match s with
 | .FunctionDef _ a _ _ _ _ _ _ _ _=>a
 |_=>{posonlyargs:=[],args:=[],vararg:=none,kwonlyargs:=[],kw_defaults:=[],kwarg:=none,defaults:=[]}
noncomputable def iM (s:Stmt):List Stmt:=match s with
 | .FunctionDef _ _ b _ _ _ _ _ _ _=>b
 |_=>[]
noncomputable def dk (s:Stmt):Scope:=match s with
 | .FunctionDef _ _ _ _ _ _ sc _ _ _=>sc
 |_=>{kind:= .function,names:=[],isGenerator:=false,isCoroutine:=false}
noncomputable abbrev KR:Nd:=fun _ _ _ _ _ _=>False
noncomputable abbrev E0:XK:=fun _ _ _=>False
theorem NN{X:Cx}:Passes KR X E0:=fun _ _ _ _ _ _ _ h=>h.elim
structure Sa(K:PySem.W.Frag)(x qual:Str)(st:Stmt)(f:Addr)(fd:FuncData):Prop where
 ex:∃(oc:Value) (od:Option Addr) (kV doc pm:Value) (an:Option Addr) (cdv ct:Value) (osl:Array (Option Value)),
  fd=PySem.W.fnOf x qual (jV st) (iM st) (dk st) .none kV doc pm an cdv ct/\K.lookup f=some ⟨oc,od,.func fd,osl⟩/\PySem.W.codeIn K cdv qual=true
 kp:PySem.W.keepIn K (.ref f)=true
section
variable {P:Program}{w:World}{K:PySem.W.Frag}{mg:Str->Option Value}{base:Heap}
theorem Sa.ok{x qual:Str}{st:Stmt}{f:Addr}{fd:FuncData}{N ps:List Str}{k:Nat}{sp:Sp}(F:Sa K x qual st f fd)(S:dD N ps (dk st))(len:∀vs H Q E,sp vs H Q E->vs.length=ps.length)
  (hbody:∀(cdv:Value) (A:Around) (outer:List Env) (s:Shared) (H:Hp) (vs:List V) (Q:VK) (E:XK),kg k (A.deeper (envOfC qual (dk st) s.heap.objs.size f cdv))->sp vs H Q E->
   ∃t,Ja (Fx KR P w K mg base N qual (dk st) f cdv A outer s H E).RK (iM st) t/\t {nx:=fun _ H'=>Q .jP H',rt:=Q} (start N vs) H):qr P w K mg base KR (k+1) f fd ps sp:=by
 obtain⟨oc,od,kV,doc,pm,an,cdv,ct,osl,rfl,lk,hcd⟩:=F.ex;refine TR lk hcd S len fun A outer s H vs Q E hr hsp=> ?_
 obtain⟨t,h,q⟩:=hbody cdv A outer s H vs Q E hr hsp;exact⟨t,h.RK,q⟩
theorem Sa.binds{x qual:Str}{st:Stmt}{f:Addr}{fd:FuncData}{ps:List Str}(F:Sa K x qual st f fd)
  (h:∀(kV doc pm:Value) (an:Option Addr) (cdv ct:Value) (us:List Value),us.length=ps.length->bindArgs (PySem.W.fnOf x qual (jV st) (iM st) (dk st) .none kV doc pm an cdv ct) ⟨us,[]⟩=pure (ps.zip us)):Binds K fd ps []:=by
 obtain⟨oc,od,kV,doc,pm,an,cdv,ct,osl,rfl,lk,hcd⟩:=F.ex;exact .all (h kV doc pm an cdv ct)
theorem NO{x qual:Str}{st:Stmt}{f:Addr}{oc:Value}{od an:Option Addr}{osl:Array (Option Value)}{kV doc pm cdv ct:Value}(l:K.lookup f=some ⟨oc,od,.func (PySem.W.fnOf x qual (jV st) (iM st) (dk st) .none kV doc pm an cdv ct),osl⟩)
  (c:PySem.W.codeIn K cdv qual=true) (k:PySem.W.keepIn K (.ref f)=true):Sa K x qual st f (PySem.W.fnOf x qual (jV st) (iM st) (dk st) .none kV doc pm an cdv ct):=⟨⟨oc,od,kV,doc,pm,an,cdv,ct,osl,rfl,l,c⟩,k⟩
end
section
variable {X:Cx}
theorem pv(i:Nat){x:Str}{pos:Pos}(hN:X.N[i]? =some x:=by rfl)(hv:S5 X.env.scope x:=by first |exact Or.inl rfl |exact Or.inr (Or.inl rfl) |exact Or.inr (Or.inr rfl))(hd:(x==("__debug__":Str))=false:=by decide)
  (hcd:(x==("__classdict__":Str))=false:=by decide):PE X (.Name x pos) (vB i):=RJ hN hv hd hcd
end
theorem fh{A B:Prop}(h:B):if false=true then A else B:=by
 rw[af aM];exact h
theorem eZ{A B:Prop}(h:A):if true=true then A else B:=by
 rw[ah rfl];exact h
theorem Sb{c A B:Prop} [Decidable c](h1:c->A)(h2:¬c->B):if c then A else B:=by
 by_cases h:c
 ·rw[ah h];exact h1 h
 ·rw[af h];exact h2 h
theorem Rg{c A B:Prop} [Decidable c](hc:c)(h:B):if(!decide c)=true then A else B:=by
 rw[aj hc];exact fh h
noncomputable def dJ (H H':Hp):Prop:=∀b o,H b=some o->H' b=some o
theorem dJ.refl(H:Hp):dJ H H:=fun _ _ h=>h
theorem dJ.trans{H H1 H2:Hp}(a:dJ H H1)(b:dJ H1 H2):dJ H H2:=fun c o h=>b c o (a c o h)
theorem dJ.free{H H':Hp}(e:dJ H H'){l:Addr}(h:H' l=Option.none):H l=Option.none:=by
 cases q:H l with
 |none=>rfl
 |some o=>
  rw[e l o q] at h;cases h
theorem dJ.seq{K:PySem.W.Frag}{H H':Hp}{a:Addr}{xs:List V}(e:dJ H H')(h:ly K H a xs):ly K H' a xs:=by
 rcases h with(h |⟨o,h⟩) |h
 ·exact .inl (.inl (e _ _ h))
 ·exact .inl (.inr ⟨o,e _ _ h⟩)
 ·exact .inr h
section
variable {κ:Type} [DecidableEq κ]
theorem KS:∀{l:List κ} {k:κ},l.Nodup->¬k∈l->(l ++ [k]).Nodup
 |[],k,_,_=>by simp
 |a::r,k,h,hk=>by
  obtain⟨h1,h2⟩:=bV.mp h;show(a::(r ++ [k])).Nodup;refine bV.mpr ⟨fun m=> ?_,KS h2 fun m=>hk (aH.mpr (Or.inr m))⟩;rcases aK.mp m with q |q
  ·exact h1 q
  ·exact hk (aH.mpr (Or.inl (au.mp q).symm))
end
theorem T9{α:Type}{l:List α}(hN:l.Nodup){i j:Nat}{x:α}(a:l[i]? =some x)(b:l[j]? =some x):i=j:=by
 obtain⟨h1,e1⟩:=bf.mp a;obtain⟨h2,e2⟩:=bf.mp b;exact(List.getElem_inj hN).mp (e1.trans e2.symm)
theorem dJ.made{H H1:Hp}{x dx C:Addr}(nx:H x=Option.none)(nd:H dx=Option.none)(k:∀b o,(upd (upd H dx (.own x)) x (.ins C dx [])) b=some o->b≠x->H1 b=some o):dJ H H1:=fun b o e=>
 k b o (by rw[d6 (fF e nx),d6 (fF e nd)];exact e) (fF e nx)
end L2
namespace Hj
open PySem PySem.Spec PyProof.Rows L2
structure eV(P:Program)(w:World)(K:PySem.W.Frag)(mg:Str->Option Value)(base:Heap)(x:Str)(ps:List Str)(k:Nat)(sp:Sp):Prop where
 ex:∃(f:Addr) (fd:FuncData),mg x=some (.ref f)/\qr P w K mg base KR k f fd ps sp/\PySem.W.keepIn K (.ref f)=true/\Binds K fd ps []
structure iN(K:PySem.W.Frag)(mg:Str->Option Value)(x:Str)(st:Stmt)(ps:List Str):Prop where
 ex:∃(f:Addr) (fd:FuncData),mg x=some (.ref f)/\Sa K x x st f fd/\Binds K fd ps []
section
variable {P:Program}{w:World}{K:PySem.W.Frag}{mg:Str->Option Value}{base:Heap}
theorem eV.mono{x:Str}{ps:List Str}{j k:Nat}{sp:Sp}(c:eV P w K mg base x ps j sp)(h:j<=k):eV P w K mg base x ps k sp:=
 let ⟨f,fd,a,b,d,e⟩:=c.ex
 ⟨f,fd,a,b.mono h,d,e⟩
noncomputable def V7 (P:Program) (w:World) (K:PySem.W.Frag) (mg:Str->Option Value) (base:Heap) (N ps:List Str) (x:Str) (st:Stmt) (k:Nat) (sp:Sp):Prop:=
 ∀(f:Addr) (cdv:Value) (A:Around) (outer:List Env) (s:Shared) (H:Hp) (vs:List V) (Q:VK) (E:XK),kg k (A.deeper (envOfC x (dk st) s.heap.objs.size f cdv))->sp vs H Q E->
   vs.length=ps.length/\∃t,Ja (Fx KR P w K mg base N x (dk st) f cdv A outer s H E).RK (iM st) t/\t {nx:=fun _ H'=>Q .jP H',rt:=Q} (start N vs) H
theorem Rh{k:Nat}(h:k<=99)(e:Env):kg k (Around.deeper {} e):=⟨rfl,by show 0+1+3*k+5<1000;lia,by show 1+3+16*k+200<9900;lia⟩
theorem iN.i8{x:Str}{st:Stmt}{N ps:List Str}{k:Nat}{sp:Sp}(G:iN K mg x st ps)(S:dD N ps (dk st))(h:V7 P w K mg base N ps x st k sp)(hk:k<=99:=by decide):eV P w K mg base x ps (k+1) sp:=by
 obtain⟨f,fd,hm,F,hb⟩:=G.ex;exact⟨f,fd,hm,F.ok S (fun vs H Q E q=>(h 0 .none {} [] {} H vs Q E (Rh hk _) q).1) (fun cdv A outer s H vs Q E hr hsp=>(h f cdv A outer s H vs Q E hr hsp).2),F.kp,hb⟩
end
section
variable {X:Cx}{k:Nat}{x:Str}{ps:List Str}{sp:Sp}{e:Expr}{es:List Expr}{t:TA}{p pos:Pos}
theorem dy{j:Nat}(c:eV X.prog X.w X.K X.mg X.base x ps k sp)(hr:kg j X.A)(ha:PA X (e::es) t)(hk:k<=j:=by decide)(hg:Gl X x:=by rfl)
  (hdb:(x==("__debug__":Str))=false:=by decide) (he:starEach (e::es) X.env=(false,eval e X.env)::starEach es X.env:=by rfl) (hpl:(backTo pos (starEach es X.env)).any (·.1)=false:=by rfl):
  PE X (.Call (.Name x p) (e::es) [] pos) (KH sp [] E0 t):=by
 obtain⟨f,fd,hm,F,kp,hb⟩:=c.ex;exact P0 F (hr.mono hk) hg hm kp hb .nil NN ha hdb he hpl
theorem Qm{fe:Expr}{tf:TE}(hf:PE X fe tf)(hev:eval (.Call fe (e::es) [] pos) X.env=(do let f<-eval fe X.env;callWith pos f [] (backTo pos (starEach (e::es) X.env)) (backToKw pos (keywordEach [] X.env))))
  (ha:PA X (e::es) t) (he:starEach (e::es) X.env=(false,eval e X.env)::starEach es X.env:=by rfl) (hpl:(backTo pos (starEach es X.env)).any (·.1)=false:=by rfl):
  PE X (.Call fe (e::es) [] pos) (fun σ H Q=>tf σ H fun v H1=>∃f fd ps k sp,v= .ref f/\qr X.prog X.w X.K X.mg X.base KR k f fd ps sp/\kg k X.A/\PySem.W.keepIn X.K (.ref f)=true/\Binds X.K fd ps []/\t σ H1 fun vs H2=>sp (vs ++ []) H2 Q E0):=by
 intro pins s σ H Q I h;rw[hev];refine wpAny_bind (ij (hf pins s σ H _ I h) fun u s1 ⟨v,H1,I1,rv,f,fd,ps,k,sp,e1,F,hr,hk,hb,q⟩=> ?_);subst e1;cases rv
 refine PySem.W.callWith_K (h₀:=X.base) I.ok.mod.Tc hk (ij (ha pos pins s1 σ H1 _ I1 q) fun us s2 ⟨vs,H2,I2,r,q2⟩=>⟨I2.Nc,?_⟩) he hpl;exact NC F hr hb .nil NN I2 r q2
end
noncomputable def Sz (b:Nat) (z:Int):Prop:=z.natAbs<2^b
theorem Sz.bits{b:Nat}{z:Int}(h:Sz b z):Builtin.Int.intBits z<=b:=by
 unfold Builtin.Int.intBits;split
 ·exact aL _
 ·rename_i hz;have h0:z.natAbs≠0:=fun q=>hz (by simpa using q)
  have:z.natAbs.log2<b:=(Nat.log2_lt h0).mpr h;lia
theorem Sz.mul{a b:Int}{m n:Nat}(ha:Sz m a)(hb:Sz n b)(h:m+n<=134217728):IntMulOk a b:=IntMulOk.of_le ha.bits hb.bits h
section
variable {X:Cx}
theorem il:wV X (binaryOp .Mult) (rI IntMulOk fun i j=> .int (i*j)):=U5 fun _ _ _ _ _ _ _ hc q=>mul_int q hc
theorem BG:wV X (binaryOp .FloorDiv) (rI (fun _ j=>j≠0/\j.natAbs.log2<9000) fun i j=> .int (i.fdiv j)):=U5 fun _ _ _ _ _ _ _ hc q=>floordiv_int hc.1 q (.inl (PyProof.noPylong_of_log2 hc.2))
structure L9(X:Cx):Prop where
 no:X.base.NoSeer
 tree:X.prog.given.tree=none
 RH:∃env l,X.stack=env::l/\env.scope.isGenerator=false/\env.scope.isCoroutine=false/\env.builtins=builtinsNs/\env.globals=mainGlobals
 room:X.A.depth+Builtin.pylongFrames<recursionLimit
theorem L9.Dv{s:Shared}{H:Hp}{scope:Scope}{ce:Env}{fp:List Addr}(S:L9 X):L9 (X.Dv s H scope ce fp):=⟨S.no,S.tree,S.RH,S.room⟩
theorem NP(S:L9 X):wV X (binaryOp .FloorDiv) (rI (fun _ j=>j≠0) fun i j=> .int (i.fdiv j)):=by
 intro pins s σ H x y v u Q I rx ry h;obtain⟨i,j,rfl,rfl,hc,q⟩:=h;obtain⟨t,rfl⟩:=rx;obtain⟨t',rfl⟩:=ry;obtain⟨env,l,e1,e2,e3,e4,e5⟩:=S.RH;exact floordiv_int hc ⟨.int (i.fdiv j),H,I.tok _,⟨_,rfl⟩,q⟩ (.inr (PylongRoom.of I.nolimit S.room (SeerAt.of (S.no.keeps I.bk) S.tree (I.ok.frames.trans (by rw[e1])) e2 e3 e4 e5)))
end
section
variable {X:Cx}
theorem gc{x:Str}{z:Int}{pos:Pos}(h:∃t,X.mg x=some (.int z t))(hg:Gl X x:=by rfl)(hd:(x==("__debug__":Str))=false:=by decide):PE X (.Name x pos) (tC (.int z)):=
 let ⟨t,e⟩:=h
 Ky hg e ⟨t,rfl⟩ hd
theorem vE:Tw X (fun o i H Q=>∃p xs k j v,o= .ref p/\i= .int k/\ly X.K H p xs/\k=((j:Nat):Int)/\xs[j]? =some v/\Q v H):=by
 intro pins s σ H o i ov iv Q I rx ry h;obtain⟨p,xs,k,j,z,rfl,rfl,hq,hk,he,q⟩:=h;cases rx
 obtain⟨t,rfl⟩:=ry;obtain⟨its,r,pl,hz⟩:=I.list hq;obtain⟨w,ew,rw'⟩:=r.get he;have hl:=r.length;have hn:=yL;have hj:j<its.length:=by
  have:=bf.mp ew;exact this.1
 exact getItem_listL pl.isList (by lia) (by lia) (by rw[hk];simpa using ew) ⟨z,H,I,rw',q⟩
noncomputable def Vj (C:Int->Int->Prop) (f:Int->Int->Int):RM:=fun x y H Q=>∃i j,x= .int i/\y= .int j/\C i j/\Q (.int (f i j)) H
theorem Qn:Ts X .Mult (Vj IntMulOk fun i j=>i*j):=by
 intro pins s σ H x y v u Q I r1 r2 h;obtain⟨i,j,e1,e2,hc,q⟩:=h;subst e1;subst e2;obtain⟨t,rfl⟩:=r1;obtain⟨t',rfl⟩:=r2;exact imul_int ⟨.int _,H,I.tok _,⟨_,rfl⟩,q⟩ hc
end
section
variable {X:Cx}(K:PySem.W.Frag)
theorem i0(h:X.K=K:=by rfl):TU X (RU K):=by subst h;exact Qe
theorem PD(h:X.K=K:=by rfl):TU X (TV K):=by subst h;exact RV
theorem Ua(h:X.K=K:=by rfl):U7 X (RX K):=by subst h;exact Qg
theorem Jp(h:X.K=K:=by rfl):wV X (compareOp .In) (UJ K false):=by subst h;exact L4
theorem Ma(h:X.K=K:=by rfl):wV X (compareOp .NotIn) (UJ K true):=by subst h;exact FA
theorem eK(h:X.K=K:=by rfl):mI X (.builtin "len") (fun xs H Q=>∃p ys,xs=[.ref p]/\(ly K H p ys\/Du K H p ys)/\Q (.int ys.length) H):=by subst h;exact FC
theorem vF(h:X.K=K:=by rfl):mI X (.type "list") (fun xs H Q=>∃p ys,xs=[.ref p]/\(ly K H p ys\/Du K H p ys)/\∀l,H l=none->Q (.ref l) (upd H l (.lst ys))):=by subst h;exact FD
theorem dq{e:Expr}{f:Str}{pos:Pos}{ta:TE}(he:PE X e ta)(hb:attributeBase e f X.env (eval e X.env)=eval e X.env)(h:X.K=K:=by rfl):PE X (.Attribute e f pos) (LX K ta f):=by subst h;exact RS he hb
theorem fb{a:Expr}{ta:TE}(ha:PE X a ta)(he:∀whole,isTrue a X.env whole=(do let v<-whole;standAt a.pos;holding [v] (truthy v)))(h:X.K=K:=by rfl):
  PT X a (fun σ H Q=>ta σ H fun x H'=>∃k,PV K x H' k/\Q k H'):=by subst h;exact Nz ha he
theorem kh{pos:Pos}{es:List Expr}{k:Nat}{t:Ra}{n:Nat}(hc:X.calm=true)(h:Tr X es t)
  (hn:(assignEach es X.env).length=n:=by rfl) (hst:(assignEach es X.env).findIdx? (·.1)=none:=by rfl) (hK:X.K=K:=by rfl):PG X (.Tuple es k pos) (Tu K n t):=by subst hK;exact RN hc h hn hst
theorem KU(hc:X.calm=true)(h:X.K=K:=by rfl):mI X (.builtin "any") (T3 K):=by subst h;exact R6 hc
theorem FH(hc:X.calm=true)(h:X.K=K:=by rfl):mI X (.builtin "all") (T4 K):=by subst h;exact R7 hc
theorem Qo(hc:X.calm=true)(h:X.K=K:=by rfl):mI X (.builtin "sum") (T1 K):=by subst h;exact R4 hc
end
theorem d9:bootBuiltins "len"=some (.builtin "len"):=by decide +kernel
theorem tK:bootBuiltins "list"=some (.type "list"):=by decide +kernel
theorem vG:bootBuiltins "max"=some (.builtin "max"):=by decide +kernel
theorem Jq:bootBuiltins "sum"=some (.builtin "sum"):=by decide +kernel
theorem vH:bootBuiltins "all"=some (.builtin "all"):=by decide +kernel
theorem BH:bootBuiltins "any"=some (.builtin "any"):=by decide +kernel
theorem vI:bootBuiltins "abs"=some (.builtin "abs"):=by decide +kernel
structure Yl(J:It)(H1:Hp)(n:Nat)(R:Nat->Hp->V->Prop):Prop where
 go:∀i H,dJ H1 H->i<n->J.go i H
 yl:∀i H x H',dJ H1 H->i<n->J.S6 i H x H'->dJ H H'/\R i H' x
 st:∀H,dJ H1 H->J.stop n H
theorem dt{H:Hp}{p:Addr}{o:HO}(h:H p=none):dJ H (upd H p o):=fun b u e=>by rw[d6 (fF e h)];exact e
theorem _root_.L2.dJ.over{H H':Hp}{p:Addr}{o:HO}(s:dJ H H')(h:H p=none):dJ H (upd H' p o):=fun b u e=>by rw[d6 (fF e h)];exact s b u e
theorem fw{K:PySem.W.Frag}{a:Addr}{H1:Hp}{vs:List V}(h:ly K H1 a vs):Yl (U1 K a) H1 vs.length (fun i _ x=>vs[i]? =some x) where
 go:=fun i H s hi=>⟨vs,vs[i],s.seq h,by simp[hi]⟩
 yl:=fun i H x H' s hi ⟨e,y⟩=>⟨by rw[e];exact .refl _,y vs (s.seq h)⟩
 st:=fun H s=>⟨vs,s.seq h,ai _⟩
theorem mK(H1:Hp)(lo:Int)(n:Nat):Yl (Tx lo n) H1 n (fun i _ x=>x= .int (lo+i)) where
 go:=fun i H s hi=>hi
 yl:=fun i H x H' s hi ⟨e,y⟩=>⟨by rw[e];exact .refl _,y⟩
 st:=fun H s=>ai _
theorem Ej(H1:Hp)(lo c:Int)(n:Nat):Yl (Vc lo c n) H1 n (fun i _ x=>x= .int (lo+(i:Nat)*c)) where
 go:=fun i H s hi=>hi
 yl:=fun i H x H' s hi ⟨e,y⟩=>⟨by rw[e];exact .refl _,y⟩
 st:=fun H s=>ai _
theorem Sd{K:PySem.W.Frag}{a:Addr}{H1:Hp}{vs:List V}(h:ly K H1 a vs):Yl (Vd K a vs.length) H1 vs.length (fun i _ x=>vs[vs.length - 1 - i]? =some x) where
 go:=fun i H s hi=>⟨hi,vs,vs[vs.length - 1 - i]'(by lia),s.seq h,by rw[aa (by lia)]⟩
 yl:=fun i H x H' s hi ⟨e,y⟩=>⟨by rw[e];exact .refl _,y vs (s.seq h)⟩
 st:=fun H s=>ai _
theorem rn{K:PySem.W.Frag}{a:Addr}{H1:Hp}{vs:List V}(h:ly K H1 a vs):Yl (Vf K a) H1 vs.length (fun i H x=>∃T y,x= .ref T/\H T=some (.tup [.int (i:Nat),y])/\vs[i]? =some y) where
 go:=fun i H s hi=>⟨vs,vs[i],s.seq h,by simp[hi]⟩
 yl:=fun i H x H' s hi ⟨T,y,e,n,e2,q⟩=>⟨by rw[e2];exact dt n,T,y,e,by rw[e2];exact dh,q vs (s.seq h)⟩
 st:=fun H s=>⟨vs,s.seq h,ai _⟩
theorem Sf{K:PySem.W.Frag}{a b:Addr}{H1:Hp}{vs us:List V}(h:ly K H1 a vs)(h':ly K H1 b us)(hl:vs.length=us.length):Yl (Vg K a b) H1 vs.length (fun i H x=>∃T y z,x= .ref T/\H T=some (.tup [y,z])/\vs[i]? =some y/\us[i]? =some z) where
 go:=fun i H s hi=>⟨vs,us,vs[i],us[i]'(by lia),s.seq h,s.seq h',by simp[hi],by rw[aa (by lia)]⟩
 yl:=fun i H x H' s hi ⟨T,y,z,e,n,e2,q,q2⟩=>⟨by rw[e2];exact dt n,T,y,z,e,by rw[e2];exact dh,q vs (s.seq h),q2 us (s.seq h')⟩
 st:=fun H s=>⟨vs,us,s.seq h,s.seq h',.inl (ai _)⟩
theorem jK{J:It}{H1:Hp}{n:Nat}{R:Nat->Hp->V->Prop}(Y:Yl J H1 n R){g:TG}{tb:TS}{D:Ends}{σ:L2.St}{Hs:Hp}(Pv:Nat->L2.St->Hp->Prop)(h0:Pv 0 σ Hs)(sm:∀i σ H,Pv i σ H->dJ H1 H)
  (hs:∀i x σ H H',i<n->Pv i σ H->dJ H1 H'->dJ H H'->R i H' x->g x σ H' fun σ2 H2=>tb {D with nx:=Pv (i+1),ct:=Pv (i+1),bk:=D.nx} σ2 H2) (hd:∀σ H,Pv n σ H->D.nx σ H):
  ∃W:Nat->Nat->L2.St->Hp->Prop,(∃m,W 0 m σ Hs)/\∀i m σ H,W i m σ H->
   (J.stop i H/\D.nx σ H)\/(J.go i H/\∃N:L2.St->Hp->Prop,(∀σ' H',N σ' H'->∃m',m' <m/\W (i+1) m' σ' H')/\∀x H',J.S6 i H x H'->g x σ H' fun σ2 H2=>tb {D with nx:=N,ct:=N,bk:=D.nx} σ2 H2):=by
 refine⟨fun i m σ H=>m=n - i/\i<=n/\Pv i σ H,⟨n,by simp,aL _,h0⟩,?_⟩;rintro i m σ H ⟨rfl,hi,p⟩;have s:=sm i σ H p;by_cases hlt:i<n
 ·refine .inr ⟨Y.go i H s hlt,Pv (i+1),fun σ' H' p'=>⟨n - (i+1),by lia,rfl,hlt,p'⟩,fun x H' y=> ?_⟩;obtain⟨s2,r⟩:=Y.yl i H x H' s hlt y;exact hs i x σ H H' hlt p (s.trans s2) s2 r
 ·have e:i=n:=by lia
  subst e;exact .inl ⟨Y.st H s,hd σ H p⟩
noncomputable def NQ (H1:Hp) (D:Addr) (P:Hp->List V->Prop) (H:Hp):Prop:=dJ H1 H/\∃acc,H D=some (.lst acc)/\P H acc
theorem gA{H1 H4:Hp}{D:Addr}{P:Hp->List V->Prop}{acc:List V}{y:V}(hD:H1 D=none)(s:dJ H1 H4)(h:H4 D=some (.lst acc))(hl:acc.length<sizeLine)(p:P (upd H4 D (.lst (acc ++ [y]))) (acc ++ [y])):
  ∃acc,H4 D=some (.lst acc)/\acc.length<sizeLine/\NQ H1 D P (upd H4 D (.lst (acc ++ [y]))):=⟨acc,h,hl,s.over hD,_,dh,p⟩
theorem nZ{J:It}{H1:Hp}{n:Nat}{R:Nat->Hp->V->Prop}(Y:Yl J H1 n R){g:TG}{tt:TT}{te:TE}{vs:List Nat}{σ:L2.St}{D:Addr}{Qd:Hp->Prop}(hD:H1 D=none)(Pv:Nat->Hp->List V->Prop)(h0:Pv 0 (upd H1 D (.lst [])) [])
  (hs:∀i x H H' acc,i<n->dJ H1 H->H D=some (.lst acc)->Pv i H acc->dJ H1 H'->dJ H H'->H' D=some (.lst acc)->R i H' x->g x (wipe σ vs) H' fun σ2 H2=>wipe σ2 vs=wipe σ vs/\tt σ2 H2 fun b H3=>
   if b=true then te σ2 H3 fun y H4=>∃acc,H4 D=some (.lst acc)/\acc.length<sizeLine/\NQ H1 D (Pv (i+1)) (upd H4 D (.lst (acc ++ [y]))) else NQ H1 D (Pv (i+1)) H3)
  (hd:∀H acc,dJ H1 H->H D=some (.lst acc)->Pv n H acc->Qd H):
  ∃W:Nat->Nat->Hp->Prop,(∃m,W 0 m (upd H1 D (.lst [])))/\∀i m H,W i m H->
   (J.stop i H/\Qd H)\/(J.go i H/\∃Nx:Hp->Prop,(∀H',Nx H'->∃m',m' <m/\W (i+1) m' H')/\∀x H',J.S6 i H x H'->g x (wipe σ vs) H' fun σ2 H2=>wipe σ2 vs=wipe σ vs/\tt σ2 H2 fun b H3=>
    if b=true then te σ2 H3 fun y H4=>∃acc,H4 D=some (.lst acc)/\acc.length<sizeLine/\Nx (upd H4 D (.lst (acc ++ [y]))) else Nx H3):=by
 refine⟨fun i m H=>m=n - i/\i<=n/\NQ H1 D (Pv i) H,⟨n,by simp,aL _,dt hD,[],dh,h0⟩,?_⟩;rintro i m H ⟨rfl,hi,s,acc,ha,p⟩;by_cases hlt:i<n
 ·refine .inr ⟨Y.go i H s hlt,NQ H1 D (Pv (i+1)),fun H' q=>⟨n - (i+1),by lia,rfl,hlt,q⟩,fun x H' y=> ?_⟩;obtain⟨s2,r⟩:=Y.yl i H x H' s hlt y;exact hs i x H H' acc hlt s ha p (s.trans s2) s2 (s2 _ _ ha) r
 ·have e:i=n:=by lia
  subst e;exact .inl ⟨Y.st H s,hd H acc s ha p⟩
theorem dM{α:Type}{xs:List α}{z:Int}{j:Nat}{v:α}(e:z=(j:Int))(h:xs[j]? =some v):L1 xs z=some v:=by rw[e];exact Qb h
theorem rz{n:Nat}{z:Int}{j:Nat}(e:z=(j:Int))(h:j<n):NG n z=some j:=by
 unfold NG;rw[e,ah (cw j),ah (by lia)];simp
theorem dw{α:Type}{l:List α}{d:α}{j:Nat}(h:j<l.length):l[j]? =some (l.getD j d):=by
 rw[gDe,aa h];rfl
theorem ie{l:List Int}{j:Nat}(h:j<l.length):(l.map V.int)[j]? =some (V.int (l.getD j 0)):=by
 rw[aA,dw (d:=0) h];rfl
theorem di{n:Nat}(h:n<=16777216):n<=sizeLine:=by rw[sizeLine_eq];exact h
theorem dH{n:Nat}(h:n<16777216):n<sizeLine:=by rw[sizeLine_eq];exact h
theorem dY{K:PySem.W.Frag}{H:Hp}{x C dx:Addr}{fs:List (Str×V)}{f:Str}{v:V}{Q:V->Prop}(h:H x=some (.ins C dx fs))(c:PY K C)(n:nY K C f)(l:fs.lookup f=some v)(k:Q v):∃a C dx fs v',V.ref x= .ref a/\H a=some (.ins C dx fs)/\PY K C/\nY K C f/\fs.lookup f=some v'/\Q v':=⟨x,C,dx,fs,v,rfl,h,c,n,l,k⟩
theorem jW{S:Addr->List V->Prop}{p:Addr}{xs:List V}{i:Int}{v:V}{Q:V->Prop}(h:S p xs)(e:L1 xs i=some v)(k:Q v):∃p' xs' i' v',V.ref p= .ref p'/\V.int i= .int i'/\S p' xs'/\L1 xs' i'=some v'/\Q v':=⟨p,xs,i,v,rfl,rfl,h,e,k⟩
theorem oY{i j:Int}{Q:Int->Int->Prop}(k:Q i j):∃i' j',V.int i= .int i'/\V.int j= .int j'/\Q i' j':=⟨i,j,rfl,rfl,k⟩
section
variable {X:Cx}{i:Nat}{x:Str}{e:Expr}{te:TE}{pos pos':Pos}
theorem dX(hN:X.N.Nodup)(he:PE X e te)(hi:X.N[i]? =some x:=by rfl)(hx:Loc X.env.scope x:=by first |exact Or.inl rfl |exact Or.inr rfl)(hs:swapsWith e (some (.Name x pos')) pos.line X.env=pure false:=by rfl)(hf:X.fn x=true\/X.env.scope.names.lookup x=some .local:=by first |exact .inl rfl |exact .inr rfl |assumption):
  PS X (.Assign [.Name x pos'] e pos) (PR te (Ea i)):=RO hN hi hx he hs hf
theorem eY(hN:X.N.Nodup)(hi:X.N[i]? =some x:=by rfl)(hx:Loc X.env.scope x:=by exact Or.inl rfl)(hf:X.fn x=true\/X.env.scope.names.lookup x=some .local:=by first |exact .inl rfl |exact .inr rfl |assumption):PG X (.Name x pos) (Ea i):=PN hN hi hx hf
end
theorem sco{N P:List Str}{sc:Scope}(a:sc.kind= .function:=by rfl)(b:sc.isCoroutine=false:=by rfl)(c:sc.isGenerator=false:=by rfl)(e:N.take P.length=P:=by rfl)(h:N.Nodup/\(∀x∈P,sc.names.lookup x=some .local\/sc.names.lookup x=some .cell)/\∀y∈sc.names,y.2≠.free:=by decide +kernel):dD N P sc:=⟨a,b,c,h.1,e,h.2.1,h.2.2⟩
end Hj
namespace c9
open Lean.Grind
section det
variable {R:Type} [CommRing R]
noncomputable def eh:Nat->(Nat->R)->R
 |0,_=>0
 |n+1,f=>eh n f+f n
theorem eC:∀(n:Nat) {f g:Nat->R},(∀i,i<n->f i=g i)->eh n f=eh n g
 |0,_,_,_=>rfl
 |n+1,f,g,h=>by
  show eh n f+f n=eh n g+g n;rw[eC n (fun i hi=>h i (by lia)),h n (by lia)]
theorem wZ:∀(n:Nat) (f g:Nat->R),eh n (fun i=>f i+g i)=eh n f+eh n g
 |0,_,_=>by show(0:R)=0+0;grind
 |n+1,f,g=>by
  show eh n (fun i=>f i+g i)+(f n+g n)=eh n f+f n+(eh n g+g n);rw[wZ n f g];grind
theorem fS:∀(n:Nat) (c:R) (f:Nat->R),eh n (fun i=>c*f i)=c*eh n f
 |0,c,_=>by show(0:R)=c*0;grind
 |n+1,c,f=>by
  show eh n (fun i=>c*f i)+c*f n=c*(eh n f+f n);rw[fS n c f];grind
theorem uP:∀(n:Nat) {f:Nat->R},(∀i,i<n->f i=0)->eh n f=0
 |0,_,_=>rfl
 |n+1,f,h=>by
  show eh n f+f n=0;rw[uP n (fun i hi=>h i (by lia)),h n (by lia)];grind
theorem mL:∀(n:Nat) {f:Nat->R} (k:Nat),k<n->(∀i,i<n->i≠k->f i=0)->eh n f=f k
 |0,_,k,hk,_=>by lia
 |n+1,f,k,hk,h=>by
  show eh n f+f n=f k;by_cases e:k=n
  ·subst e;rw[uP k (fun i hi=>h i (by lia) (by lia))];grind
  ·rw[mL n k (by lia) (fun i hi=>h i (by lia)),h n (by lia) (by lia)];grind
theorem BI:∀(n:Nat) {f:Nat->R} (k l:Nat),k<l->l<n->(∀i,i<n->i≠k->i≠l->f i=0)->eh n f=f k+f l
 |0,_,k,l,hk,hl,_=>by lia
 |n+1,f,k,l,hk,hl,h=>by
  show eh n f+f n=f k+f l;by_cases e:l=n
  ·subst e;rw[mL l k (by lia) (fun i hi hik=>h i (by lia) hik (by lia))]
  ·rw[BI n k l hk (by lia) (fun i hi=>h i (by lia)),h n (by lia) (by lia) (by lia)];grind
theorem yR:∀(n m:Nat) (f:Nat->Nat->R),eh n (fun i=>eh m (fun j=>f i j))=eh m (fun j=>eh n (fun i=>f i j))
 |0,m,f=>by
  show(0:R)=_;exact(uP m fun _ _=>rfl).symm
 |n+1,m,f=>by
  show eh n (fun i=>eh m (fun j=>f i j))+eh m (fun j=>f n j)=eh m (fun j=>eh n (fun i=>f i j)+f n j);rw[yR n m f,wZ]
theorem Ek:∀(n:Nat) (f:Nat->R),eh (n+1) f=f 0+eh n (fun i=>f (i+1))
 |0,f=>by show(0:R)+f 0=f 0+0;grind
 |n+1,f=>by
  show eh (n+1) f+f (n+1)=f 0+(eh n (fun i=>f (i+1))+f (n+1));rw[Ek n f];grind
noncomputable def sg (i:Nat):R:=if i % 2=0 then 1 else -1
theorem FI:(sg 0:R)=1:=by unfold sg;exact ah rfl
theorem KW(i:Nat):(sg (i+1):R)= - sg i:=by
 unfold sg;by_cases h:i % 2=0
 ·rw[ah h,af (by lia)]
 ·rw[af h,ah (by lia)];grind
noncomputable def skip (i a:Nat):Nat:=if a<i then a else a+1
noncomputable def del (i:Nat) (A:Nat->Nat->R):Nat->Nat->R:=fun a b=>A (skip i a) (b+1)
noncomputable def det:Nat->(Nat->Nat->R)->R
 |0,_=>1
 |n+1,A=>eh (n+1) fun i=>sg i*(A i 0*det n (del i A))
theorem gk(n:Nat)(A:Nat->Nat->R):det (n+1) A=eh (n+1) fun i=>sg i*(A i 0*det n (del i A)):=rfl
theorem w4{i a n:Nat}(h:a<n):skip i a<n+1:=by unfold skip;split <;>lia
theorem eH:∀(n:Nat) {A B:Nat->Nat->R},(∀i j,i<n->j<n->A i j=B i j)->det n A=det n B
 |0,_,_,_=>rfl
 |n+1,A,B,h=>by
  rw[gk,gk];refine eC _ fun i hi=> ?_
  rw[h i 0 hi (by lia),eH n (A:=del i A) (B:=del i B) fun a b ha hb=>h _ _ (w4 ha) (by lia)]
noncomputable def eu (A:Nat->Nat->R) (r:Nat) (v:Nat->R):Nat->Nat->R:=fun i j=>if i=r then v j else A i j
noncomputable def e7 (A:Nat->Nat->R) (c:Nat) (v:Nat->R):Nat->Nat->R:=fun i j=>if j=c then v i else A i j
theorem fi{A:Nat->Nat->R}{r:Nat}{v:Nat->R}{j:Nat}:eu A r v r j=v j:=ah rfl
theorem fz{A:Nat->Nat->R}{r i:Nat}{v:Nat->R}{j:Nat}(h:i≠r):eu A r v i j=A i j:=af h
theorem g7{A:Nat->Nat->R}{c:Nat}{v:Nat->R}{i:Nat}:e7 A c v i c=v i:=ah rfl
theorem j7{A:Nat->Nat->R}{c i:Nat}{v:Nat->R}{j:Nat}(h:j≠c):e7 A c v i j=A i j:=af h
noncomputable def place (i r:Nat):Nat:=if r<i then r else r - 1
theorem Jr{i r:Nat}(h:r≠i):skip i (place i r)=r:=by
 unfold skip place
 repeat' split
 all_goals lia
theorem Js(i a:Nat):place i (skip i a)=a:=by
 unfold skip place
 repeat' split
 all_goals lia
theorem KY(i a:Nat):skip i a≠i:=by unfold skip;split <;>lia
theorem place_lt{i r n:Nat}(hr:r<n+1)(hi:i<n+1)(h:r≠i):place i r<n:=by unfold place;split <;>lia
theorem mW(A:Nat->Nat->R)(r:Nat)(v:Nat->R):del r (eu A r v)=del r A:=by
 funext a b;exact fz (KY r a)
theorem vJ(A:Nat->Nat->R){i r:Nat}(h:r≠i)(v:Nat->R):del i (eu A r v)=eu (del i A) (place i r) (fun b=>v (b+1)):=by
 funext a b;show(if skip i a=r then v (b+1) else A (skip i a) (b+1))=if a=place i r then v (b+1) else A (skip i a) (b+1)
 by_cases e:a=place i r
 ·rw[ah e,ah (by rw[e];exact Jr h)]
 ·rw[af e,af (fun q=>e (by rw[<-q,Js]))]
theorem gm:∀(n:Nat) (A:Nat->Nat->R) (r:Nat) (c:R) (u v:Nat->R),r<n->det n (eu A r fun j=>u j+c*v j)=det n (eu A r u)+c*det n (eu A r v)
 |0,_,_,_,_,_,h=>by lia
 |n+1,A,r,c,u,v,h=>by
  rw[gk,gk,gk,<-fS,<-wZ];refine eC _ fun i hi=> ?_
  by_cases e:r=i
  ·subst e;rw[mW,mW,mW,fi,fi,fi];grind
  ·rw[vJ A e,vJ A e,vJ A e,fz (bK e),fz (bK e),fz (bK e),gm n _ _ _ _ _ (place_lt h hi e)];grind
theorem qt(n:Nat)(A:Nat->Nat->R)(r:Nat)(c:R)(v:Nat->R)(h:r<n):det n (eu A r fun j=>c*v j)=c*det n (eu A r v):=by
 have e0:det n (eu A r fun _=>(0:R))=0:=by
  have e:=gm n A r (-1) (fun _=>(0:R)) (fun _=>0) h;have e2:(fun _:Nat=>(0:R)+(-1)*0)=fun _=>0:=by funext j;grind
  rw[e2] at e;grind
 have e:=gm n A r c (fun _=>(0:R)) v h;have e2:(fun j:Nat=>(0:R)+c*v j)=fun j=>c*v j:=by funext j;grind
 rw[e2,e0] at e;grind
theorem rA(n:Nat)(A:Nat->Nat->R)(r:Nat)(h:r<n)(hz:∀j,j<n->A r j=0):det n A=0:=by
 have e:det n A=det n (eu A r fun j=>(0:R)*0):=eH n fun i j hi hj=>by
  by_cases q:i=r
  ·subst q;rw[fi,hz j hj];grind
  ·rw[fz q]
 rw[e,qt n A r 0 (fun _=>0) h];grind
theorem Be:∀(n:Nat) (A:Nat->Nat->R) (r:Nat),r+1<n->(∀j,j<n->A r j=A (r+1) j)->det n A=0
 |0,_,_,h,_=>by lia
 |n+1,A,r,h,he=>by
  rw[gk,BI (n+1) r (r+1) (by lia) h ?_]
  ·have e:det n (del r A)=det n (del (r+1) A):=eH n fun a b ha hb=>by
    show A (skip r a) (b+1)=A (skip (r+1) a) (b+1);by_cases q:a=r
    ·subst q;have e1:skip a a=a+1:=by unfold skip;rw[af (by lia)]
     have e2:skip (a+1) a=a:=by unfold skip;rw[ah (by lia)]
     rw[e1,e2,he _ (by lia)]
    ·have e1:skip r a=skip (r+1) a:=by unfold skip;split <;>split <;>lia
     rw[e1]
   rw[e,he 0 (by lia),KW];grind
  ·intro i hi h1 h2;have e:det n (del i A)=0:=by
    by_cases q:i<r
    ·refine Be n (del i A) (r - 1) (by lia) fun j hj=> ?_
     show A (skip i (r - 1)) (j+1)=A (skip i (r - 1+1)) (j+1);have e1:skip i (r - 1)=r:=by unfold skip;rw[af (by lia)];lia
     have e2:skip i (r - 1+1)=r+1:=by unfold skip;rw[af (by lia)];lia
     rw[e1,e2,he _ (by lia)]
    ·refine Be n (del i A) r (by lia) fun j hj=> ?_
     show A (skip i r) (j+1)=A (skip i (r+1)) (j+1);have e1:skip i r=r:=by unfold skip;rw[ah (by lia)]
     have e2:skip i (r+1)=r+1:=by unfold skip;rw[ah (by lia)]
     rw[e1,e2,he _ (by lia)]
   rw[e];grind
noncomputable def gM (A:Nat->Nat->R) (r t:Nat):Nat->Nat->R:=fun i j=>if i=r then A t j else if i=t then A r j else A i j
theorem FJ(n:Nat)(A:Nat->Nat->R)(r:Nat)(h:r+1<n):det n (gM A r (r+1))= - det n A:=by
 have hr:r<n:=by lia
 let B:(Nat->R)->(Nat->R)->Nat->Nat->R:=fun u v=>eu (eu A r u) (r+1) v
 have adj:∀u,det n (B u u)=0:=fun u=>Be n _ r h fun j _=>by
  show eu (eu A r u) (r+1) u r j=eu (eu A r u) (r+1) u (r+1) j;rw[fz (by lia),fi,fi]
 have l2:∀u v v',det n (B u fun j=>v j+1*v' j)=det n (B u v)+1*det n (B u v'):=fun u v v'=>gm n _ _ 1 v v' h
 have comm:∀u v,B u v=eu (eu A (r+1) v) r u:=fun u v=>by
  funext i j;show(if i=r+1 then v j else if i=r then u j else A i j)=if i=r then u j else if i=r+1 then v j else A i j
  by_cases e1:i=r
  ·rw[ah e1,af (by lia),ah e1]
  ·rw[af e1,af e1]
 have l1:∀u u' v,det n (B (fun j=>u j+1*u' j) v)=det n (B u v)+1*det n (B u' v):=fun u u' v=>by
  rw[comm,comm,comm];exact gm n _ _ 1 u u' hr
 have eA:det n A=det n (B (A r) (A (r+1))):=eH n fun i j _ _=>by
  show A i j=if i=r+1 then A (r+1) j else if i=r then A r j else A i j
  by_cases e1:i=r+1
  ·rw[ah e1,e1]
  ·rw[af e1];by_cases e2:i=r
   ·rw[ah e2,e2]
   ·rw[af e2]
 have eS:det n (gM A r (r+1))=det n (B (A (r+1)) (A r)):=eH n fun i j _ _=>by
  show(if i=r then A (r+1) j else if i=r+1 then A r j else A i j)=if i=r+1 then A r j else if i=r then A (r+1) j else A i j
  by_cases e1:i=r
  ·rw[ah e1,af (by lia),ah e1]
  ·rw[af e1,af e1]
 have s:=adj fun j=>A r j+1*A (r+1) j
 rw[l2,l1,l1,adj,adj] at s;rw[eA,eS];grind
theorem tL(n:Nat):∀(d:Nat) (A:Nat->Nat->R) (r:Nat),r+d+1<n->(∀j,j<n->A r j=A (r+d+1) j)->det n A=0
 |0,A,r,h,he=>Be n A r h he
 |d+1,A,r,h,he=>by
  have s:=FJ n A (r+d+1) (by lia);have z:det n (gM A (r+d+1) (r+d+1+1))=0:=by
   refine tL n d _ r (by lia) fun j hj=> ?_
   show(if r=r+d+1 then _ else if r=r+d+1+1 then _ else A r j)=if r+d+1=r+d+1 then A (r+d+1+1) j else _
   rw[af (by lia),af (by lia),ah rfl];exact he j hj
  rw[z] at s;grind
theorem uQ(n:Nat)(A:Nat->Nat->R)(r t:Nat)(hr:r<n)(ht:t<n)(hne:r≠t)(he:∀j,j<n->A r j=A t j):det n A=0:=by
 by_cases h:r<t
 ·obtain⟨d,rfl⟩:∃d,t=r+d+1:=⟨t - r - 1,by lia⟩;exact tL n d A r (by lia) he
 ·obtain⟨d,rfl⟩:∃d,r=t+d+1:=⟨r - t - 1,by lia⟩;exact tL n d A t (by lia) fun j hj=>(he j hj).symm
theorem Jt(n:Nat)(A:Nat->Nat->R)(r t:Nat)(c:R)(hr:r<n)(ht:t<n)(hne:r≠t):det n (eu A r fun j=>A r j+c*A t j)=det n A:=by
 rw[gm n A r c _ _ hr];have z:det n (eu A r (A t))=0:=uQ n _ r t hr ht hne fun j _=>by rw[fi,fz (bK hne)]
 have e:det n (eu A r (A r))=det n A:=eH n fun i j _ _=>by
  by_cases q:i=r
  ·subst q;exact fi
  ·exact fz q
 rw[z,e];grind
theorem NR(n:Nat)(A:Nat->Nat->R)(r t:Nat)(hr:r<n)(ht:t<n)(hne:r≠t):det n (gM A r t)= - det n A:=by
 let B:(Nat->R)->(Nat->R)->Nat->Nat->R:=fun u v=>eu (eu A r u) t v
 have adj:∀u,det n (B u u)=0:=fun u=>uQ n _ r t hr ht hne fun j _=>by
  show eu (eu A r u) t u r j=eu (eu A r u) t u t j;rw[fz hne,fi,fi]
 have l2:∀u v v',det n (B u fun j=>v j+1*v' j)=det n (B u v)+1*det n (B u v'):=fun u v v'=>gm n _ _ 1 v v' ht
 have comm:∀u v,B u v=eu (eu A t v) r u:=fun u v=>by
  funext i j;show(if i=t then v j else if i=r then u j else A i j)=if i=r then u j else if i=t then v j else A i j
  by_cases e1:i=r
  ·rw[ah e1,af (by lia),ah e1]
  ·rw[af e1,af e1]
 have l1:∀u u' v,det n (B (fun j=>u j+1*u' j) v)=det n (B u v)+1*det n (B u' v):=fun u u' v=>by
  rw[comm,comm,comm];exact gm n _ _ 1 u u' hr
 have eA:det n A=det n (B (A r) (A t)):=eH n fun i j _ _=>by
  show A i j=if i=t then A t j else if i=r then A r j else A i j
  by_cases e1:i=t
  ·rw[ah e1,e1]
  ·rw[af e1];by_cases e2:i=r
   ·rw[ah e2,e2]
   ·rw[af e2]
 have eS:det n (gM A r t)=det n (B (A t) (A r)):=eH n fun i j _ _=>by
  show(if i=r then A t j else if i=t then A r j else A i j)=if i=t then A r j else if i=r then A t j else A i j
  by_cases e1:i=r
  ·rw[ah e1,af (by lia),ah e1]
  ·rw[af e1,af e1]
 have s:=adj fun j=>A r j+1*A t j
 rw[l2,l1,l1,adj,adj] at s;rw[eA,eS];grind
noncomputable def tr (A:Nat->Nat->R):Nat->Nat->R:=fun i j=>A j i
theorem qu:∀(n:Nat) (A:Nat->Nat->R),det n (tr A)=det n A
 |0,_=>rfl
 |1,A=>rfl
 |n+2,A=>by
  have key:∀B:Nat->Nat->R,(∀m,m<n+2->∀C:Nat->Nat->R,det m (tr C)=det m C)->det (n+2) B=B 0 0*det (n+1) (del 0 B) - eh (n+1) fun i=>eh (n+1) fun j=>sg (i+j)*(B (i+1) 0*B 0 (j+1)*det n (fun a b=>B (skip i a+1) (skip j b+1))):=by
   intro B ih;rw[gk,Ek,FI];have e:eh (n+1) (fun i=>sg (i+1)*(B (i+1) 0*det (n+1) (del (i+1) B)))= - eh (n+1) fun i=>eh (n+1) fun j=>sg (i+j)*(B (i+1) 0*B 0 (j+1)*det n (fun a b=>B (skip i a+1) (skip j b+1))):=by
    have m1:∀x:R,- x=(-1)*x:=fun x=>by grind
    rw[m1,<-fS];refine eC _ fun i hi=> ?_
    rw[<-ih (n+1) (by lia) (del (i+1) B),gk,<-fS,<-fS,<-fS];refine eC _ fun j hj=> ?_
    have e1:tr (del (i+1) B) j 0=B 0 (j+1):=by
     show B (skip (i+1) 0) (j+1)=_;unfold skip;rw[ah (by lia)]
    have e2:det n (del j (tr (del (i+1) B)))=det n (fun a b=>B (skip i a+1) (skip j b+1)):=by
     rw[<-ih n (by lia) (fun a b=>B (skip i a+1) (skip j b+1))];refine eH n fun a b ha hb=> ?_
     show B (skip (i+1) (b+1)) (skip j a+1)=B (skip i b+1) (skip j a+1);have e3:skip (i+1) (b+1)=skip i b+1:=by
      unfold skip
      repeat' split
      all_goals lia
     rw[e3]
    rw[e1,e2,KW];have e4:(sg (i+j):R)=sg i*sg j:=by
     unfold sg
     repeat' split
     all_goals first |grind |lia
    rw[e4];grind
   rw[e];grind
  have ih:∀m,m<n+2->∀C:Nat->Nat->R,det m (tr C)=det m C:=fun m hm C=>qu m C
  rw[key A ih,key (tr A) ih,yR];have e0:det (n+1) (del 0 (tr A))=det (n+1) (del 0 A):=by
   rw[<-ih (n+1) (by lia) (del 0 A)];refine eH _ fun a b _ _=> ?_
   show A (b+1) (skip 0 a)=A (skip 0 b) (a+1);unfold skip;rw[af (by lia),af (by lia)]
  rw[e0];have e5:eh (n+1) (fun j=>eh (n+1) fun i=>sg (i+j)*(tr A (i+1) 0*tr A 0 (j+1)*det n (fun a b=>tr A (skip i a+1) (skip j b+1))))=eh (n+1) fun i=>eh (n+1) fun j=>sg (i+j)*(A (i+1) 0*A 0 (j+1)*det n (fun a b=>A (skip i a+1) (skip j b+1))):=by
   refine eC _ fun i hi=>eC _ fun j hj=> ?_
   have e6:det n (fun a b=>tr A (skip j a+1) (skip i b+1))=det n (fun a b=>A (skip i a+1) (skip j b+1)):=by
    rw[<-ih n (by lia) (fun a b=>A (skip i a+1) (skip j b+1))];rfl
   rw[e6,Nat.add_comm j i];show sg (i+j)*(A 0 (j+1)*A (i+1) 0*_)=_;grind
  rw[e5];rfl
theorem lH(A:Nat->Nat->R)(c:Nat)(v:Nat->R):tr (e7 A c v)=eu (tr A) c v:=rfl
theorem Hk(n:Nat)(A:Nat->Nat->R)(r:Nat)(c:R)(u v:Nat->R)(h:r<n):det n (e7 A r fun j=>u j+c*v j)=det n (e7 A r u)+c*det n (e7 A r v):=by
 rw[<-qu,<-qu n (e7 A r u),<-qu n (e7 A r v),lH,lH,lH];exact gm n _ _ _ _ _ h
theorem vo(n:Nat)(A:Nat->Nat->R)(r:Nat)(c:R)(v:Nat->R)(h:r<n):det n (e7 A r fun j=>c*v j)=c*det n (e7 A r v):=by
 rw[<-qu,<-qu n (e7 A r v),lH,lH];exact qt n _ _ _ _ h
theorem nF(n:Nat)(A:Nat->Nat->R)(c:Nat)(h:c<n)(hz:∀i,i<n->A i c=0):det n A=0:=by
 rw[<-qu];exact rA n _ c h hz
theorem DB(n:Nat)(A:Nat->Nat->R)(r t:Nat)(hr:r<n)(ht:t<n)(hne:r≠t)(he:∀i,i<n->A i r=A i t):det n A=0:=by
 rw[<-qu];exact uQ n _ r t hr ht hne he
theorem tM(n:Nat)(A:Nat->Nat->R)(r:Nat)(hr:r<n):∀(m:Nat) (x:Nat->R) (v:Nat->Nat->R),det n (eu A r fun j=>eh m fun d=>x d*v d j)=eh m fun d=>x d*det n (eu A r (v d))
 |0,x,v=>rA n _ r hr fun j _=>fi
 |m+1,x,v=>by
  show det n (eu A r fun j=>eh m (fun d=>x d*v d j)+x m*v m j)=eh m (fun d=>x d*det n (eu A r (v d)))+x m*det n (eu A r (v m));rw[gm n A r (x m) _ _ hr,tM n A r hr m x v]
theorem Aj(n:Nat)(A:Nat->Nat->R)(c:Nat)(hc:c<n)(m:Nat)(x:Nat->R)(v:Nat->Nat->R):det n (e7 A c fun i=>eh m fun d=>x d*v d i)=eh m fun d=>x d*det n (e7 A c (v d)):=by
 rw[<-qu,lH,tM n _ _ hc];refine eC _ fun d _=> ?_
 rw[<-lH,qu]
theorem Hl(A:Nat->Nat->R)(c:Nat):e7 A c (fun i=>A i c)=A:=by
 funext i j;by_cases q:j=c
 ·subst q;exact g7
 ·exact j7 q
theorem Hm(A:Nat->Nat->R)(r:Nat):eu A r (A r)=A:=by
 funext i j;by_cases q:i=r
 ·subst q;exact fi
 ·exact fz q
theorem BJ(n:Nat)(A:Nat->Nat->R)(x b:Nat->R)(c:Nat)(hc:c<n)(h:∀i,i<n->eh n (fun d=>A i d*x d)=b i):det n (e7 A c b)=x c*det n A:=by
 have e:det n (e7 A c b)=det n (e7 A c fun i=>eh n fun d=>x d*A i d):=eH n fun i j hi hj=>by
  by_cases q:j=c
  ·subst q;rw[g7,g7,<-h i hi];exact eC _ fun d _=>by grind
  ·rw[j7 q,j7 q]
 rw[e,Aj n A c hc n x (fun d i=>A i d),mL n c hc]
 ·rw[Hl]
 ·intro d hd hdc;rw[DB n _ c d hc hd (bK hdc) fun i _=>by rw[g7,j7 hdc]];grind
noncomputable def ei (i:Nat):Nat->R:=fun j=>if j=i then 1 else 0
theorem sF(i:Nat):(ei i:Nat->R) i=1:=ah rfl
theorem tO{i j:Nat}(h:j≠i):(ei i:Nat->R) j=0:=af h
theorem Hn(n:Nat)(A:Nat->Nat->R)(i c:Nat)(hi:i<n)(hc:c<n):det n (e7 A c (ei i))=det n (eu A i (ei c)):=by
 have one:∀B:Nat->Nat->R,(∀a,a<n->B a c=ei i a)->det n B=det n (eu B i (ei c)):=by
  intro B hB;have e:det n B=det n (eu B i fun j=>ei c j+1*(if j=c then 0 else B i j)):=eH n fun a b ha hb=>by
   by_cases q:a=i
   ·subst q;rw[fi];by_cases q2:b=c
    ·subst q2;rw[hB a ha,sF,sF,ah rfl];grind
    ·rw[tO q2,af q2];grind
   ·rw[fz q]
  rw[e,gm n B i 1 _ _ hi,nF n (eu B i fun j=>if j=c then 0 else B i j) c hc fun a ha=> ?_]
  ·grind
  ·by_cases q:a=i
   ·subst q;rw[fi,ah rfl]
   ·rw[fz q,hB a ha,tO q]
 have h1:=one (e7 A c (ei i)) fun a _=>g7
 have h2:det n (eu A i (ei c))=det n (e7 (eu A i (ei c)) c (ei i)):=by
  have e:det n (eu A i (ei c))=det n (e7 (eu A i (ei c)) c fun a=>ei i a+1*(if a=i then 0 else A a c)):=eH n fun a b ha hb=>by
   by_cases q2:b=c
   ·subst q2;rw[g7];by_cases q:a=i
    ·subst q;rw[fi,sF,sF,ah rfl];grind
    ·rw[fz q,tO q,af q];grind
   ·rw[j7 q2]
  rw[e,Hk n _ c 1 _ _ hc,rA n (e7 (eu A i (ei c)) c fun a=>if a=i then 0 else A a c) i hi fun b hb=> ?_]
  ·grind
  ·by_cases q2:b=c
   ·subst q2;rw[g7,ah rfl]
   ·rw[j7 q2,fi,tO q2]
 rw[h1,h2];refine eH n fun a b _ _=> ?_
 show(if a=i then ei c b else if b=c then ei i a else A a b)=if b=c then ei i a else if a=i then ei c b else A a b
 by_cases q:a=i
 ·by_cases q2:b=c
  ·subst q q2;rw[ah rfl,ah rfl,sF,sF]
  ·rw[ah q,af q2,ah q]
 ·rw[af q,af q]
theorem NT(n:Nat)(A:Nat->Nat->R)(v:Nat->R)(r:Nat)(hr:r<n):eh n (fun c=>A r c*det n (e7 A c v))=det n A*v r:=by
 have ev:∀c,c<n->det n (e7 A c v)=eh n fun i=>v i*det n (eu A i (ei c)):=fun c hc=>by
  have e:det n (e7 A c v)=det n (e7 A c fun a=>eh n fun d=>v d*ei d a):=eH n fun a b ha hb=>by
   by_cases q:b=c
   ·subst q;rw[g7,g7,mL n a ha,sF]
    ·grind
    ·intro d _ hd;rw[tO (bK hd)];grind
   ·rw[j7 q,j7 q]
  rw[e,Aj n A c hc n v fun d=>ei d];exact eC _ fun d hd=>by rw[Hn n A d c hd hc]
 have e1:eh n (fun c=>A r c*det n (e7 A c v))=eh n fun c=>eh n fun i=>v i*(A r c*det n (eu A i (ei c))):=eC _ fun c hc=>by
  rw[ev c hc,<-fS];exact eC _ fun i _=>by grind
 rw[e1,yR];have e2:∀i,i<n->eh n (fun c=>v i*(A r c*det n (eu A i (ei c))))=v i*det n (eu A i (A r)):=fun i hi=>by
  rw[fS,<-tM n A i hi n (A r) fun d=>ei d];refine congrArg (v i* ·) (eH n fun a b ha hb=> ?_);by_cases q:a=i
  ·subst q;rw[fi,fi,mL n b hb,sF]
   ·grind
   ·intro d _ hd;rw[tO (bK hd)];grind
  ·rw[fz q,fz q]
 rw[eC n e2,mL n r hr,Hm]
 ·grind
 ·intro i hi hir;rw[uQ n (eu A i (A r)) i r hi hr hir fun j _=>by rw[fi,fz (bK hir)]];grind
theorem BK:∀(n:Nat) (A:Nat->Nat->R),(∀j,j<n+1->A n j=ei n j)->det (n+1) A=det n A
 |0,A,h=>by
  rw[gk];show(0:R)+sg 0*(A 0 0*1)=1;rw[h 0 (by lia),sF,FI];grind
 |n+1,A,h=>by
  rw[gk];show eh (n+1) (fun i=>sg i*(A i 0*det (n+1) (del i A)))+sg (n+1)*(A (n+1) 0*det (n+1) (del (n+1) A))=det (n+1) A;rw[h 0 (by lia),tO (by lia),gk n A];have e:eh (n+1) (fun i=>sg i*(A i 0*det (n+1) (del i A)))=eh (n+1) (fun i=>sg i*(A i 0*det n (del i A))):=eC _ fun i hi=>by
   rw[BK n (del i A) fun j hj=> ?_];show A (skip i n) (j+1)=ei n j;have e1:skip i n=n+1:=by unfold skip;rw[af (by lia)]
   rw[e1,h (j+1) (by lia)];unfold ei;by_cases q:j=n
   ·rw[ah q,ah (by lia)]
   ·rw[af q,af (by lia)]
  rw[e];grind
end det
section bar
variable {R:Type} [CommRing R]
noncomputable def Reg (a:R):Prop:=∀x y:R,a*x=a*y->x=y
noncomputable def mk (A:Nat->Nat->R) (k:Nat):R:=det k A
noncomputable def mc (A:Nat->Nat->R) (k c j:Nat):R:=det k (e7 A c fun i=>A i j)
noncomputable def ti (A:Nat->Nat->R) (k i j:Nat):R:=mk A k*A i j - eh k fun c=>A i c*mc A k c j
theorem BL(n:Nat)(f g:Nat->R):eh n (fun i=>f i - g i)=eh n f - eh n g:=by
 have e:eh n (fun i=>f i - g i)=eh n (fun i=>f i+(-1)*g i):=eC _ fun i _=>by grind
 rw[e,wZ,fS];grind
theorem yS(A:Nat->Nat->R)(k r j:Nat)(hr:r<k):eh k (fun c=>A r c*mc A k c j)=mk A k*A r j:=NT k A (fun i=>A i j) r hr
theorem NU(A:Nat->Nat->R)(k r j:Nat)(hr:r<k):ti A k r j=0:=by
 unfold ti;rw[yS A k r j hr];grind
theorem El(A:Nat->Nat->R)(k i:Nat):eh (k+1) (fun d=>A i d*(if d=k then mk A k else - mc A k d k))=ti A k i k:=by
 show eh k (fun d=>A i d*(if d=k then mk A k else - mc A k d k))+A i k*(if k=k then mk A k else - mc A k k k)=_;rw[ah rfl];have e:eh k (fun d=>A i d*(if d=k then mk A k else - mc A k d k))=eh k (fun d=>(-1)*(A i d*mc A k d k)):=eC _ fun d hd=>by rw[af (by lia)];grind
 rw[e,fS];unfold ti;grind
theorem NV(A:Nat->Nat->R)(k:Nat):det (k+1) (e7 A k (ei k))=mk A k:=by
 rw[Hn (k+1) A k k (by lia) (by lia),BK k _ fun j _=>fi];exact eH k fun i j hi _=>fz (by lia)
theorem BM(A:Nat->Nat->R)(k:Nat)(h:Reg (mk A k)):ti A k k k=mk A (k+1):=by
 have c:=BJ (k+1) A (fun d=>if d=k then mk A k else - mc A k d k) (fun i=>ti A k k k*ei k i) k (by lia) fun i hi=>by
  rw[El];by_cases e:i=k
  ·subst e;rw[sF];grind
  ·rw[tO e,NU A k i k (by lia)];grind
 rw[vo (k+1) A k _ _ (by lia),NV,ah rfl] at c;refine h _ _ ?_;show mk A k*ti A k k k=mk A k*det (k+1) A;grind
theorem Bf(A:Nat->Nat->R)(k j:Nat)(h:Reg (mk A k))(h1:Reg (mk A (k+1)))(c:Nat)(hc:c<k):
  mk A (k+1)*mc A k c j - mc A k c k*ti A k k j=mk A k*mc A (k+1) c j/\ti A k k j=mc A (k+1) k j:=by
 have hp:=BM A k h;have sol:∀r,r<k+1->eh (k+1) (fun d=>A r d*(if d=k then mk A k*ti A k k j else mk A (k+1)*mc A k d j - mc A k d k*ti A k k j))=(mk A k*mk A (k+1))*A r j:=fun r hr=>by
  show eh k (fun d=>A r d*(if d=k then mk A k*ti A k k j else mk A (k+1)*mc A k d j - mc A k d k*ti A k k j))+A r k*(if k=k then mk A k*ti A k k j else _)=_;rw[ah rfl];have e:eh k (fun d=>A r d*(if d=k then mk A k*ti A k k j else mk A (k+1)*mc A k d j - mc A k d k*ti A k k j))=mk A (k+1)*eh k (fun d=>A r d*mc A k d j) - ti A k k j*eh k (fun d=>A r d*mc A k d k):=by
   rw[<-fS,<-fS,<-BL];exact eC _ fun d hd=>by rw[af (by lia)];grind
  rw[e];by_cases q:r=k
  ·subst q;have e1:eh r (fun d=>A r d*mc A r d j)=mk A r*A r j - ti A r r j:=by unfold ti;grind
   have e2:eh r (fun d=>A r d*mc A r d r)=mk A r*A r r - ti A r r r:=by unfold ti;grind
   rw[e1,e2,hp];grind
  ·rw[yS A k r j (by lia),yS A k r k (by lia)];grind
 have go:∀d,d<k+1->mk A (k+1)*(if d=k then mk A k*ti A k k j else mk A (k+1)*mc A k d j - mc A k d k*ti A k k j)=mk A (k+1)*(mk A k*mc A (k+1) d j):=fun d hd=>by
  have c1:=BJ (k+1) A _ (fun i=>(mk A k*mk A (k+1))*A i j) d hd sol;rw[vo (k+1) A d _ (fun i=>A i j) hd] at c1;have e:det (k+1) (e7 A d fun i=>A i j)=mc A (k+1) d j:=rfl;rw[e] at c1;have e2:det (k+1) A=mk A (k+1):=rfl;rw[e2] at c1;grind
 refine⟨?_,?_⟩
 ·have g:=h1 _ _ (go c (by lia));rw[af (by lia)] at g;exact g
 ·have g:=h1 _ _ (go k (by lia));rw[ah rfl] at g;exact h _ _ g
theorem KZ(A:Nat->Nat->R)(k j:Nat)(h:Reg (mk A k))(h1:Reg (mk A (k+1))):ti A k k j=mc A (k+1) k j:=by
 by_cases q:0<k
 ·exact(Bf A k j h h1 0 q).2
 ·have e:k=0:=by lia
  subst e;show(1:R)*A 0 j - 0=0+sg 0*(e7 A 0 (fun i=>A i j) 0 0*1);rw[g7,FI];grind
theorem K0(A:Nat->Nat->R)(k i j:Nat)(h:Reg (mk A k))(h1:Reg (mk A (k+1))):
  mk A (k+1)*ti A k i j - ti A k i k*ti A k k j=mk A k*ti A (k+1) i j:=by
 have e:ti A (k+1) i j=mk A (k+1)*A i j - (eh k (fun c=>A i c*mc A (k+1) c j)+A i k*mc A (k+1) k j):=rfl;have e1:mk A k*eh k (fun c=>A i c*mc A (k+1) c j)=mk A (k+1)*eh k (fun c=>A i c*mc A k c j) - ti A k k j*eh k (fun c=>A i c*mc A k c k):=by
  rw[<-fS,<-fS,<-fS,<-BL];exact eC _ fun c hc=>by
   have s:=(Bf A k j h h1 c hc).1;grind
 have e2:=KZ A k j h h1;have e3:eh k (fun c=>A i c*mc A k c j)=mk A k*A i j - ti A k i j:=by unfold ti;grind
 have e4:eh k (fun c=>A i c*mc A k c k)=mk A k*A i k - ti A k i k:=by unfold ti;grind
 rw[e,<-e2];rw[e3,e4] at e1;grind
theorem NW(A:Nat->Nat->R)(n k:Nat)(hk:k<n)(h:Reg (mk A k))(hz:∀i,k<=i->i<n->ti A k i k=0):
  (∀i,i<n->eh n (fun d=>A i d*(if d<k+1 then(if d=k then mk A k else - mc A k d k) else 0))=0)/\det n A=0:=by
 have tail:∀(m:Nat) (f:Nat->R),k+1<=m->eh m (fun d=>if d<k+1 then f d else 0)=eh (k+1) f:=by
  intro m;induction m with
  |zero=>intro f hm;lia
  |succ m ih=>
   intro f hm;show eh m (fun d=>if d<k+1 then f d else 0)+(if m<k+1 then f m else 0)=_;by_cases q:m=k
   ·subst q;rw[ah (by lia)];show _=eh m f+f m;rw[eC m (g:=f) fun i hi=>ah (by lia)]
   ·rw[af (by lia),ih f (by lia)];grind
 have sol:∀i,i<n->eh n (fun d=>A i d*(if d<k+1 then(if d=k then mk A k else - mc A k d k) else 0))=0:=fun i hi=>by
  have e:eh n (fun d=>A i d*(if d<k+1 then(if d=k then mk A k else - mc A k d k) else 0))=eh n (fun d=>if d<k+1 then A i d*(if d=k then mk A k else - mc A k d k) else 0):=eC _ fun d _=>by
   by_cases q:d<k+1
   ·rw[ah q,ah q]
   ·rw[af q,af q];grind
  rw[e,tail n _ (by lia),El];by_cases q:i<k
  ·exact NU A k i k q
  ·exact hz i (by lia) hi
 refine⟨sol,?_⟩;have c:=BJ n A _ (fun _=>(0:R)) k hk sol;rw[nF n (e7 A k fun _=>(0:R)) k hk fun i _=>g7,ah (by lia),ah rfl] at c;refine h _ _ ?_;grind
theorem FK(A:Nat->Nat->R)(k r t:Nat)(hr:k<=r)(ht:k<=t):mk (gM A r t) k=mk A k:=eH k fun i j hi _=>by
 show(if i=r then _ else if i=t then _ else A i j)=_;rw[af (by lia),af (by lia)]
theorem FL(A:Nat->Nat->R)(k r t c j:Nat)(hr:k<=r)(ht:k<=t):mc (gM A r t) k c j=mc A k c j:=eH k fun i b hi _=>by
 have e:∀b,gM A r t i b=A i b:=fun b=>by
  show(if i=r then _ else if i=t then _ else A i b)=_;rw[af (by lia),af (by lia)]
 show(if b=c then gM A r t i j else gM A r t i b)=if b=c then A i j else A i b
 rw[e,e]
noncomputable def sw (r t i:Nat):Nat:=if i=r then t else if i=t then r else i
theorem K1(A:Nat->Nat->R)(k r t i j:Nat)(hr:k<=r)(ht:k<=t):ti (gM A r t) k i j=ti A k (sw r t i) j:=by
 have e:∀b,gM A r t i b=A (sw r t i) b:=fun b=>by
  show(if i=r then A t b else if i=t then A r b else A i b)=A (if i=r then t else if i=t then r else i) b;by_cases q:i=r
  ·rw[ah q,ah q]
  ·rw[af q,af q];by_cases q2:i=t
   ·rw[ah q2,ah q2]
   ·rw[af q2,af q2]
 unfold ti;rw[FK A k r t hr ht,e];refine congrArg (_ - ·) (eC _ fun c _=> ?_);rw[e,FL A k r t c j hr ht]
end bar
end c9
namespace c9
open Lean.Grind
open Wh (valueAt addPoly scalePoly mulPoly)
theorem FN(x:Rat):valueAt [] x=0:=rfl
theorem iq(a:Rat)(l:List Rat)(x:Rat):valueAt (a::l) x=a+x*valueAt l x:=rfl
theorem qv:∀(p q:List Rat) (x:Rat),valueAt (addPoly p q) x=valueAt p x+valueAt q x
 |[],q,x=>by
  show valueAt q x=0+valueAt q x;grind
 |a::p,[],x=>by
  show valueAt (a::p) x=valueAt (a::p) x+0;grind
 |a::p,b::q,x=>by
  show(a+b)+x*valueAt (addPoly p q) x=_;rw[qv p q x,iq,iq];grind
theorem iW(c:Rat):∀(p:List Rat) (x:Rat),valueAt (scalePoly c p) x=c*valueAt p x
 |[],x=>by
  show(0:Rat)=c*0;grind
 |a::p,x=>by
  show c*a+x*valueAt (scalePoly c p) x=_;rw[iW c p x,iq];grind
theorem yT:∀(p q:List Rat) (x:Rat),valueAt (mulPoly p q) x=valueAt p x*valueAt q x
 |[],q,x=>by
  show(0:Rat)=0*valueAt q x;grind
 |a::p,q,x=>by
  show valueAt (addPoly (scalePoly a q) (0::mulPoly p q)) x=_;rw[qv,iW,iq,yT p q x,iq];grind
structure PF where
 f:Rat->Rat
 h:∃l:List Rat,∀x,f x=valueAt l x
theorem PF.ext{a b:PF}(h:∀x,a.f x=b.f x):a=b:=by
 cases a;cases b
 have e:=funext h;dsimp at e;subst e;rfl
namespace PF
noncomputable def const (c:Rat):PF:=⟨fun _=>c,[c],fun x=>by rw[iq,FN];grind⟩
noncomputable def add (a b:PF):PF:=⟨fun x=>a.f x+b.f x,by
 obtain⟨l,hl⟩:=a.h;obtain⟨m,hm⟩:=b.h;exact⟨addPoly l m,fun x=>by rw[qv,<-hl,<-hm]⟩⟩
noncomputable def mul (a b:PF):PF:=⟨fun x=>a.f x*b.f x,by
 obtain⟨l,hl⟩:=a.h;obtain⟨m,hm⟩:=b.h;exact⟨mulPoly l m,fun x=>by rw[yT,<-hl,<-hm]⟩⟩
noncomputable def neg (a:PF):PF:=⟨fun x=> - a.f x,by
 obtain⟨l,hl⟩:=a.h;exact⟨scalePoly (-1) l,fun x=>by rw[iW,<-hl];grind⟩⟩
noncomputable def sub (a b:PF):PF:=⟨fun x=>a.f x - b.f x,by
 obtain⟨l,hl⟩:=a.h;obtain⟨m,hm⟩:=b.h;exact⟨addPoly l (scalePoly (-1) m),fun x=>by rw[qv,iW,<-hl,<-hm];grind⟩⟩
noncomputable def npow (a:PF):Nat->PF
 |0=>const 1
 |n+1=>mul (npow a n) a
instance:Add PF:=⟨add⟩
instance:Mul PF:=⟨mul⟩
instance:Neg PF:=⟨neg⟩
instance:Sub PF:=⟨sub⟩
instance:NatCast PF:=⟨fun n=>const (n:Rat)⟩
instance:IntCast PF:=⟨fun n=>const (n:Rat)⟩
instance (n:Nat):OfNat PF n:=⟨const (n:Rat)⟩
instance:SMul Nat PF:=⟨fun n a=>mul (const (n:Rat)) a⟩
instance:SMul Int PF:=⟨fun n a=>mul (const (n:Rat)) a⟩
instance:HPow PF Nat PF:=⟨npow⟩
theorem Ub(a b:PF)(x:Rat):(a+b).f x=a.f x+b.f x:=rfl
theorem NX(a b:PF)(x:Rat):(a*b).f x=a.f x*b.f x:=rfl
theorem Uc(a:PF)(x:Rat):(- a).f x= - a.f x:=rfl
instance:CommRing PF where
 add_zero a:=PF.ext fun x=>by show a.f x+((0:Nat):Rat)=a.f x;grind
 add_comm a b:=PF.ext fun x=>by show a.f x+b.f x=b.f x+a.f x;grind
 add_assoc a b c:=PF.ext fun x=>by show a.f x+b.f x+c.f x=a.f x+(b.f x+c.f x);grind
 mul_assoc a b c:=PF.ext fun x=>by show a.f x*b.f x*c.f x=a.f x*(b.f x*c.f x);grind
 mul_one a:=PF.ext fun x=>by show a.f x*((1:Nat):Rat)=a.f x;grind
 one_mul a:=PF.ext fun x=>by show((1:Nat):Rat)*a.f x=a.f x;grind
 left_distrib a b c:=PF.ext fun x=>by show a.f x*(b.f x+c.f x)=a.f x*b.f x+a.f x*c.f x;grind
 right_distrib a b c:=PF.ext fun x=>by show(a.f x+b.f x)*c.f x=a.f x*c.f x+b.f x*c.f x;grind
 zero_mul a:=PF.ext fun x=>by show((0:Nat):Rat)*a.f x=((0:Nat):Rat);grind
 mul_zero a:=PF.ext fun x=>by show a.f x*((0:Nat):Rat)=((0:Nat):Rat);grind
 pow_zero a:=rfl
 pow_succ a n:=rfl
 ofNat_succ n:=PF.ext fun x=>by show((n+1:Nat):Rat)=(n:Rat)+((1:Nat):Rat);grind
 neg_add_cancel a:=PF.ext fun x=>by show - a.f x+a.f x=((0:Nat):Rat);grind
 sub_eq_add_neg a b:=PF.ext fun x=>by show a.f x - b.f x=a.f x+ - b.f x;grind
 neg_zsmul i a:=PF.ext fun x=>by show((-i:Int):Rat)*a.f x= -((i:Rat)*a.f x);grind
 zsmul_natCast_eq_nsmul n a:=PF.ext fun x=>by show(((n:Int)):Rat)*a.f x=((n:Nat):Rat)*a.f x;rw[bq]
 intCast_ofNat n:=PF.ext fun x=>by show((OfNat.ofNat n:Int):Rat)=((n:Nat):Rat);exact bq n
 intCast_neg i:=PF.ext fun x=>by show((-i:Int):Rat)= -((i:Int):Rat);grind
 mul_comm a b:=PF.ext fun x=>by show a.f x*b.f x=b.f x*a.f x;grind
end PF
example (a b c:PF):(a+b)*c=c*b+a*c:=by grind
noncomputable def sdiv (r:Rat):List Rat->List Rat
 |[]=>[]
 |_::[]=>[]
 |_::b::t=>valueAt (b::t) r::sdiv r (b::t)
theorem BN(r:Rat):∀l:List Rat,(sdiv r l).length=l.length - 1
 |[]=>rfl
 |_::[]=>rfl
 |_::b::t=>by
  show(sdiv r (b::t)).length+1=_;rw[BN r (b::t)];rfl
theorem FO(r:Rat)(x:Rat):∀l:List Rat,valueAt l x - valueAt l r=(x - r)*valueAt (sdiv r l) x
 |[]=>by
  show(0:Rat) - 0=(x - r)*0;grind
 |a::[]=>by
  show(a+x*0) - (a+r*0)=(x - r)*0;grind
 |a::b::t=>by
  have e:=FO r x (b::t);show(a+x*valueAt (b::t) x) - (a+r*valueAt (b::t) r)=(x - r)*(valueAt (b::t) r+x*valueAt (sdiv r (b::t)) x);grind
noncomputable def yU (l:List Rat):Prop:=∀c∈l,c=0
theorem yU.ev{l:List Rat}(h:yU l)(x:Rat):valueAt l x=0:=by
 induction l with
 |nil=>rfl
 |cons a l ih=>
  rw[iq,h a ax,ih fun c hc=>h c (ak _ hc)];grind
theorem sdiv_zero(r:Rat):∀l:List Rat,yU (sdiv r l)->valueAt l r=0->yU l
 |[],_,_=>fun _ h=>by cases h
 |a::[],_,e=>fun c h=>by
  have:c=a:=by simpa using h
  subst this;have e:c+r*0=0:=e;grind
 |a::b::t,z,e=>by
  have z1:valueAt (b::t) r=0:=z _ ax;have ih:=sdiv_zero r (b::t) (fun c hc=>z c (ak _ hc)) z1;intro c hc;rcases aH.mp hc with h |h
  ·subst h;rw[iq,z1] at e;grind
  ·exact ih c h
theorem roots:∀(xs:List Rat) (l:List Rat),xs.Nodup->l.length<=xs.length->(∀x∈xs,valueAt l x=0)->yU l
 |[],l,_,hl,_=>by
  have:l=[]:=bc.mp (by simpa using hl);subst this;intro c h;cases h
 |r::xs,l,hn,hl,hz=>by
  have hr:=hz r ax;refine sdiv_zero r l (roots xs (sdiv r l) (bV.mp hn).2 ?_ ?_) hr
  ·rw[BN];simp at hl;lia
  ·intro x hx;have e:=FO r x l;rw[hz x (ak _ hx),hr] at e;have ne:x - r≠0:=fun q=>by
    have:x=r:=by grind
    subst this;exact(bV.mp hn).1 hx
   have e2:(x - r)*valueAt (sdiv r l) x=0:=by grind
   rcases bX.mp e2 with q |q
   ·exact absurd q ne
   ·exact q
theorem Ju(n:Nat):((List.range n).map fun i:Nat=>(i:Rat)).Nodup:=by
 refine List.Pairwise.map _ ?_ (List.nodup_range (n:=n));intro a b h e;exact h (by exact_mod_cast e)
theorem Em(n:Nat)(l:List Rat)(hl:l.length<=n)(h:∀i:Nat,i<n->valueAt l (i:Rat)=0):yU l:=
 roots _ l (Ju n) (by simpa using hl) fun x hx=>by
  obtain⟨i,hi,rfl⟩:=aN.mp hx;exact h i (aT.mp hi)
theorem Ho:∀(n:Nat) (l:List Rat),l.length<=n->¬yU l->∃N:Nat,∀i:Nat,N<=i->valueAt l (i:Rat)≠0
 |0,l,hl,hz=>absurd (fun c h=>by
   have:l=[]:=bc.mp (by lia);subst this;cases h) hz
 |n+1,l,hl,hz=>by
  by_cases q:∃r:Nat,valueAt l (r:Rat)=0
  ·obtain⟨r,hr⟩:=q;obtain⟨N,hN⟩:=Ho n (sdiv r l) (by rw[BN];lia) fun z=>hz (sdiv_zero r l z hr)
   refine⟨max N (r+1),fun i hi e=> ?_⟩;have e1:=FO r i l;rw[e,hr] at e1;have e2:((i:Rat) - r)*valueAt (sdiv r l) i=0:=by grind
   rcases bX.mp e2 with h |h
   ·have:(i:Rat)=(r:Rat):=by grind
    have:i=r:=by exact_mod_cast this
    lia
   ·exact hN i (by lia) h
  ·exact⟨0,fun i _ e=>q ⟨i,e⟩⟩
theorem BO{l:List Rat}(h:∀x,valueAt l x=0):yU l:=Em l.length l (ai _) fun i _=>h i
theorem PF.Bg{a:PF}(h:a≠0):∃N:Nat,∀i:Nat,N<=i->a.f (i:Rat)≠0:=by
 obtain⟨l,hl⟩:=a.h;obtain⟨N,hN⟩:=Ho l.length l (ai _) fun z=>h (PF.ext fun x=>by rw[hl,z.ev];rfl)
 exact⟨N,fun i hi=>by rw[hl];exact hN i hi⟩
theorem PF.yV{a b:PF}(ha:a≠0)(hb:b≠0):a*b≠0:=by
 obtain⟨N,hN⟩:=PF.Bg ha;obtain⟨M,hM⟩:=PF.Bg hb;intro e;have e1:(a*b).f ((max N M:Nat):Rat)=0:=by rw[e];rfl
 rcases bX.mp e1 with q |q
 ·exact hN _ (by lia) q
 ·exact hM _ (by lia) q
theorem PF.w6{a:PF}(ha:a≠0):Reg a:=by
 intro x y e;by_cases q:x - y=0
 ·grind
 ·refine absurd ?_ (PF.yV ha q);grind
noncomputable def rl (l:List Int):List Rat:=l.map fun z:Int=>(z:Rat)
noncomputable def fj (l:List Rat):PF:=⟨fun x=>valueAt l x,l,fun _=>rfl⟩
noncomputable def dF (l:List Int):PF:=fj (rl l)
theorem K2(l:List Rat)(x:Rat):(fj l).f x=valueAt l x:=rfl
theorem Ri(l:List Int)(x:Rat):(dF l).f x=valueAt (rl l) x:=rfl
theorem e9(a:Int)(l:List Int)(x:Rat):(dF (a::l)).f x=(a:Rat)+x*(dF l).f x:=rfl
noncomputable def Trim (l:List Int):Prop:=l.getLast?≠some 0
theorem tP:∀(p q:List Rat) (i:Nat),(addPoly p q).getD i 0=p.getD i 0+q.getD i 0
 |[],q,i=>by
  show q.getD i 0=([]:List Rat).getD i 0+q.getD i 0;simp;grind
 |a::p,[],i=>by
  show(a::p).getD i 0=(a::p).getD i 0+([]:List Rat).getD i 0;simp;grind
 |a::p,b::q,0=>rfl
 |a::p,b::q,i+1=>by
  show(addPoly p q).getD i 0=p.getD i 0+q.getD i 0;exact tP p q i
theorem nO(c:Rat):∀(p:List Rat) (i:Nat),(scalePoly c p).getD i 0=c*p.getD i 0
 |[],i=>by
  show([]:List Rat).getD i 0=c*([]:List Rat).getD i 0;simp
 |a::p,0=>rfl
 |a::p,i+1=>nO c p i
theorem yU.get{l:List Rat}(h:yU l)(i:Nat):l.getD i 0=0:=by
 rw[gDe];cases e:l[i]? with
 |none=>rfl
 |some c=>exact h c (aB e)
theorem En{p q:List Rat}(h:∀x,valueAt p x=valueAt q x)(i:Nat):p.getD i 0=q.getD i 0:=by
 have z:yU (addPoly p (scalePoly (-1) q)):=BO fun x=>by rw[qv,iW,h];grind
 have e:=z.get i;rw[tP,nO] at e;grind
theorem FP(l:List Int)(i:Nat):(rl l).getD i 0=((l.getD i 0:Int):Rat):=by
 unfold rl;rw[gDe,gDe,aA];cases l[i]? <;>simp
theorem qT{l m:List Int}(h:dF l=dF m)(i:Nat):l.getD i 0=m.getD i 0:=by
 have e:=En (p:=rl l) (q:=rl m) (fun x=>by rw[<-Ri,<-Ri,h]) i;rw[FP,FP] at e;exact_mod_cast e
theorem Hq{l m:List Int}(hl:Trim l)(h:∀i,l.getD i 0=m.getD i 0):l.length<=m.length:=by
 rcases Nat.eq_zero_or_pos l.length with q |q
 ·lia
 ·refine cR fun lt=>hl ?_
  have e:=h (l.length - 1);rw[cx];rw[gDe,gDe,aE (l:=m) (by lia),aa (by lia)] at e;rw[aa (by lia)];simpa using e
theorem pN{l m:List Int}(hl:Trim l)(hm:Trim m)(h:dF l=dF m):l=m:=by
 have e:=qT h;have n:l.length=m.length:=Nat.le_antisymm (Hq hl e) (Hq hm fun i=>(e i).symm);refine cC n fun i h1 h2=> ?_
 have:=e i;simpa [gDe,aa h1,aa h2] using this
end c9
namespace c9
noncomputable abbrev dQ:=List Int
noncomputable def qw (c:dQ):Nat->Nat
 |0=>0
 |n+1=>if c.getD n 0=0 then qw c n else n+1
noncomputable def Jv (c:dQ):dQ:=c.take (qw c c.length)
noncomputable def cst (x:Int):dQ:=if x=0 then[] else[x]
noncomputable def Eo (p:dQ):dQ:=p.map fun x=> -x
noncomputable def iJ:dQ->dQ->dQ
 |[],q=>q
 |p,[]=>p
 |a::p,b::q=>(a+b)::iJ p q
noncomputable def BP (l r:dQ):dQ:=Jv (iJ l r)
noncomputable def tQ (l r:dQ):dQ:=BP l (Eo r)
noncomputable def mulL:dQ->dQ->dQ
 |[],_=>[]
 |a::p,q=>iJ (q.map fun y=>a*y) (0::mulL p q)
noncomputable def gX (l r:dQ):dQ:=if l=[]\/r=[] then[] else mulL l r
noncomputable def lc (p:dQ):Int:=p.getD (p.length - 1) 0
noncomputable def K3 (r:dQ):Nat->dQ->dQ->dQ
 |0,_,out=>out
 |t+1,rest,out=>
  let f:=(rest.getD (t+r.length - 1) 0).fdiv (lc r)
  K3 r t ((List.range rest.length).map fun i=>rest.getD i 0 - (if t<=i/\i<t+r.length then f*r.getD (i - t) 0 else 0)) (f::out)
noncomputable def mX (l r:dQ):dQ:=if l=[] then[] else K3 r (l.length - r.length+1) l []
noncomputable def fc (p:dQ):Int:=p.headD 0
noncomputable def rB (x y:Int):Int:=(Nat.gcd x.natAbs y.natAbs:Int)
noncomputable def cont (p:dQ):Int:=p.foldl rB 0
noncomputable def prim (p:dQ):dQ:=p.map fun x=>x.fdiv (cont p)
noncomputable def lC (rest right:dQ):dQ:=tQ (rest.map fun x=>lc right*x) (List.replicate (rest.length - right.length) 0 ++ right.map fun y=>lc rest*y)
noncomputable def yW:Nat->dQ->dQ->dQ
 |0,rest,_=>rest
 |f+1,rest,right=>if rest.length<right.length then rest else yW f (lC rest right) right
noncomputable def gN (l r:dQ):dQ:=yW (l.length+1) l r
noncomputable def AR:Nat->dQ->dQ->dQ
 |0,l,_=>l
 |f+1,l,s=>if s=[] then l else AR f s (prim (gN l s))
noncomputable def pO (l r:dQ):dQ:=AR (r.length+1) (prim l) (prim r)
noncomputable def sG (p:dQ) (f:Int):List Int:=(p.length:Int)::p.reverse.map fun x=>x.fdiv f
noncomputable def n8 (top dE:dQ):List Int:=
 if top=[] then[1,0,1,1] else
  let g:=pO top dE;let a:=mX top g;let b:=mX dE g;let f:=rB (cont a) (cont b);let f:=if lc b<0 then -f else f
  sG a f ++ sG b f
noncomputable abbrev jD:=List dQ
noncomputable def n9 (t:List jD) (k:Nat):Nat->Option Nat
 |0=>none
 |f+1=>let p:=t.length - (f+1)
  if(t.getD p []).getD k []≠[] then some p else n9 t k f
noncomputable def lI (row by_:jD) (k:Nat) (before:dQ):jD:=
 (List.range row.length).map fun j=>if k<j then mX (tQ (gX (by_.getD k []) (row.getD j [])) (gX (row.getD k []) (by_.getD j []))) before else row.getD j []
noncomputable def yX (t:List jD) (k:Nat) (before:dQ):List jD:=
 (List.range t.length).map fun i=>if i=k then t.getD k [] else lI (t.getD i []) (t.getD k []) k before
noncomputable def nP (t:List jD) (i k:Nat):List jD:=(t.set i (t.getD k [])).set k (t.getD i [])
noncomputable def w8:Nat->Nat->List jD->dQ->Option (dQ×List dQ)
 |0,_,t,before=>some (before,t.map fun r=>r.getD (r.length - 1) [])
 |f+1,k,t,before=>match n9 t k (t.length - k) with
  |none=>none
  |some c=>w8 f (k+1) (yX (nP t c k) k before) ((t.getD c []).getD k [])
noncomputable def sol (t:List jD):Option (dQ×List dQ):=w8 t.length 0 t [1]
structure Part where
 kind:Int
 a:Int
 b:Int
 c:Int
 d:Int
 top:Int
 dE:Int
noncomputable def Part.of (r:List Int):Part:=⟨r.getD 0 0,r.getD 1 0,r.getD 2 0,r.getD 3 0,r.getD 4 0,r.getD 5 0,r.getD 6 0⟩
noncomputable def p0:Part:=⟨0,0,0,0,0,0,0⟩
structure Nw where
 last:Int
 c8:List Part
noncomputable def dN (dZ:List Int):List (List Int):=(List.range ((dZ.length - 1+6) / 7)).map fun i=>(dZ.drop (1+7*i)).take 7
noncomputable def ir (r:List Int):Bool:=
 if ¬(0<=r.getD 0 0/\r.getD 0 0<=13) then false
 else if ¬((r.drop 1).take 4).all (fun p=>decide (0<=p/\p<=63))=true then false
 else decide ((r.getD 5 0).natAbs<=1000000)&&decide (1<=r.getD 6 0/\r.getD 6 0<=1000000)
noncomputable def nu (dZ:List Int):Bool:=
 if dZ.length=0\/¬(1<=dZ.headD 0/\dZ.headD 0<=8) then false
 else if(dZ.length - 1) % 7≠0 then false
 else if 10<(dN dZ).length then false
 else if ¬(dN dZ).all ir=true then false
 else decide (((dN dZ).filter fun r=>decide (r.getD 0 0=13)).length<=3)
noncomputable def dG (dZ:List Int):Nw:=⟨dZ.headD 0,(dN dZ).map Part.of⟩
noncomputable def gD (p:Part):List Int:=if p.kind=3 then[] else if p.kind=6\/p.kind=7\/p.kind=10\/p.kind=11 then[p.a,p.b,p.c,p.d] else[p.a,p.b]
noncomputable def lJ (p:Part):Bool:=
 if p.kind=0\/p.kind=1\/p.kind=2 then decide (0<p.top)
 else if p.kind=10 then decide (p.top≠0)
 else if p.kind=11 then decide (p.top=0)
 else if p.kind=12 then decide (p.top=0\/p.top=p.dE)
 else if p.kind=13 then decide (0<=p.top)
 else true
noncomputable def kindAt (ps:List Part) (i:Int):Int:=(ps.getD i.toNat p0).kind
noncomputable def fA (ps:List Part) (k:Nat):Bool:=
 let p:=ps.getD k p0
 if ¬(p.kind=8\/p.kind=9) then true else decide (p.c<k)&&decide (kindAt ps p.c≠3)
noncomputable def dU (ps:List Part) (i:Int) (k:Nat):Bool:=decide (i<k)&&decide (kindAt ps i=2)
noncomputable def jh (p:Part) (one other:Int):Bool:=if p.kind≠3 then false else decide ((p.a=one/\p.b=other)\/(p.a=other/\p.b=one))
noncomputable def tooMuch (c one other:Part):Bool:=decide (one.top*other.top*c.dE*c.dE<c.top*c.top*one.dE*other.dE)
noncomputable def lK (ps:List Part) (k:Nat):Int:=
 let p:=ps.getD k p0
 if p.a=p.b\/dU ps p.a k=false\/dU ps p.b k=false then 3
 else if(ps.take k).any (fun q=>jh q p.a p.b)=true then 3
 else if tooMuch p (ps.getD p.a.toNat p0) (ps.getD p.b.toNat p0)=true then 2
 else 0
noncomputable def gE (n:Nw) (k:Nat):Int:=
 let p:=n.c8.getD k p0
 if(gD p).any (fun v=>decide (n.last<v))=true then 1
 else if lJ p=false then 2
 else if fA n.c8 k=false then 3
 else if p.kind=3 then lK n.c8 k
 else 0
noncomputable def ji (n:Nw):Nat->List Int
 |0=>[]
 |f+1=>let k:=n.c8.length - (f+1)
  if gE n k≠0 then[(k:Int),gE n k] else ji n f
noncomputable def fault (n:Nw):List Int:=ji n n.c8.length
noncomputable def fN (dZ:List Int):List Int:=
 if nu dZ=false then[-1] else match fault (dG dZ) with
  |[]=>[]
  |f=> -2::f
noncomputable abbrev Term:=Int×dQ
noncomputable def hX (p:Part):Int:=if p.kind=3 then 0 else if p.kind=10 then 2 else 1
noncomputable def width (n:Nw):Int:=n.last+(n.c8.map hX).sum
noncomputable def fT (free:Int):List Part->List Int
 |[]=>[]
 |p::r=>free::fT (free+hX p) r
noncomputable def places (n:Nw):List Int:=fT n.last n.c8
structure lh where
 dZ:Nw
 s:dQ
 gF:List Bool
 drives:List (Int×Int)
noncomputable def Hr (first second:Int):List Term:=(if 0<first then[(first - 1,[1])] else[]) ++ (if 0<second then[(second - 1,[-1])] else[])
noncomputable def lL (p:Part):List Term:=Hr p.a p.b
noncomputable def FQ (p:Part):List Term:=Hr p.c p.d
noncomputable def cur (g:lh) (k:Int):List Term:=[((places g.dZ).getD k.toNat 0,[1])]
noncomputable def rC (ts:List Term) (p:dQ):List Term:=ts.map fun t=>(t.1,gX t.2 p)
noncomputable def oa (p:Part) (l r:List Term):List Term:=rC l (cst p.dE) ++ rC r (cst (-p.top))
noncomputable def Bh (g:lh) (k:Nat) (ts:List Term):List Term:=rC ts (cst (g.drives.getD k (0,1)).2) ++ [(width g.dZ,cst (g.drives.getD k (0,1)).1)]
noncomputable def eQ (ps:List Part) (k:Nat):List (Int×Int×Int):=
 ((k:Int),(ps.getD k p0).top,(ps.getD k p0).dE)::(ps.filter fun p=>decide (p.kind=3/\((k:Int)=p.a\/(k:Int)=p.b))).map fun p=>(p.a+p.b - k,p.top,p.dE)
noncomputable def common (sh:List (Int×Int×Int)):Int:=sh.foldl (fun c x=>c*x.2.2) 1
noncomputable def mz (g:lh) (k:Nat):List Term:=
 let sh:=eQ g.dZ.c8 k
 rC (lL (g.dZ.c8.getD k p0)) (cst (common sh)) ++ sh.flatMap fun x=>rC (rC (cur g x.1) g.s) (cst (-x.2.1*(common sh).fdiv x.2.2))
noncomputable def fQ (g:lh) (k:Nat):List (List Term):=
 let p:=g.dZ.c8.getD k p0;match p.kind.toNat with
 |0=>[oa p (lL p) (cur g k)]
 |1=>[oa p (cur g k) (rC (lL p) g.s)]
 |2=>[mz g k]
 |3=>[]
 |4=>[Bh g k (lL p)]
 |5=>[Bh g k (cur g k)]
 |6=>[oa p (lL p) (FQ p)]
 |7=>[oa p (cur g k) (FQ p)]
 |8=>[oa p (lL p) (cur g p.c)]
 |9=>[oa p (cur g k) (cur g p.c)]
 |10=>[oa p (lL p) (FQ p),oa p [((places g.dZ).getD k 0+1,[1])] (rC (cur g k) [-1])]
 |11=>[FQ p]
 |12=>[if p.top=0 then cur g k else lL p]
 |_=>if g.gF.getD k false=true then[Bh g k (lL p)] else[cur g k]
noncomputable def iO (n:Nw) (v:Int):List Term:=
 (n.c8.zip (places n)).flatMap fun x=>if x.1.kind=3 then[] else
  (if x.1.a=v then[(x.2,[1])] else[]) ++ (if x.1.b=v then[(x.2,[-1])] else[]) ++
   (if x.1.kind=10 then(if x.1.c=v then[(x.2+1,[1])] else[]) ++ (if x.1.d=v then[(x.2+1,[-1])] else[]) else[])
noncomputable def tS (row:jD) (t:Term):jD:=row.set t.1.toNat (BP (row.getD t.1.toNat []) t.2)
noncomputable def rowOf (w:Int) (ts:List Term):jD:=ts.foldl tS (List.replicate (w+1).toNat [])
noncomputable def gS (g:lh):List (List Term):=((List.range g.dZ.last.toNat).map fun(v:Nat)=>iO g.dZ ((v:Int)+1)) ++ (List.range g.dZ.c8.length).flatMap fun k=>fQ g k
noncomputable def rows (g:lh):List jD:=(gS g).map (rowOf (width g.dZ))
noncomputable def eW:List Part->List (List Bool)->List (List Bool)
 |[],rs=>rs
 |p::r,rs=>eW r (rs.flatMap fun row=>if p.kind=13 then[row ++ [false],row ++ [true]] else[row ++ [false]])
noncomputable def gT (s:dQ×List dQ) (v:Int):dQ:=if 0<v then s.2.getD (v - 1).toNat [] else[]
noncomputable def ig (g:lh) (s:dQ×List dQ) (k:Nat):dQ:=s.2.getD ((places g.dZ).getD k 0).toNat []
noncomputable def jE (s:dQ×List dQ) (a b:Int):dQ:=tQ (gT s a) (gT s b)
noncomputable def pP (g:lh) (s:dQ×List dQ) (k:Nat):dQ:=jE s (g.dZ.c8.getD k p0).a (g.dZ.c8.getD k p0).b
noncomputable def vK (g:lh) (s:dQ×List dQ) (k:Nat):Bool:=
 let p:=g.dZ.c8.getD k p0;let d:=fc s.1
 if g.gF.getD k false=true then decide (0<=fc (ig g s k)*d)
 else decide (fc (pP g s k)*d*p.dE<=p.top*d*d)
noncomputable def jo (g:lh) (s:dQ×List dQ):Bool:=((List.range g.dZ.c8.length).filter fun k=>decide ((g.dZ.c8.getD k p0).kind=13)).all fun k=>vK g s k
noncomputable def mC (n:Nw):List (List Bool)->Option (List Bool×(dQ×List dQ))
 |[]=>none
 |st::r=>let g:lh:=⟨n,[],st,n.c8.map fun p=>(p.top,p.dE)⟩
  match sol (rows g) with
  |none=>mC n r
  |some s=>if jo g s=true then some (st,s) else mC n r
noncomputable def point (n:Nw):Option (List Bool×(dQ×List dQ)):=mC n (eW n.c8 [[]])
noncomputable def sH (n:Nw) (k:Int):Bool:=decide (k<n.c8.length)&&decide (kindAt n.c8 k=4\/kindAt n.c8 k=5)
noncomputable def gG (n:Nw) (st:List Bool) (source:Int):lh:=⟨n,[0,1],st,(List.range n.c8.length).map fun(k:Nat)=>if(k:Int)=source then(1,1) else(0,1)⟩
end c9
namespace c9
open Lean.Grind
open Wh (valueAt)
theorem Bi(c:dQ):∀n,qw c n<=n
 |0=>ai _
 |n+1=>by
  unfold qw;split
  ·exact Nat.le_succ_of_le (Bi c n)
  ·exact ai _
theorem Ep(c:dQ):∀n i,qw c n<=i->i<n->c.getD i 0=0
 |0,i,_,h=>by lia
 |n+1,i,h,hi=>by
  unfold qw at h;split at h
  ·rename_i e;by_cases q:i=n
   ·subst q;exact e
   ·exact Ep c n i h (by lia)
  ·lia
theorem Er(c:dQ):∀n,0<qw c n->c.getD (qw c n - 1) 0≠0
 |0,h=>by
  unfold qw at h;lia
 |n+1,h=>by
  unfold qw at h⊢;split
  ·rename_i e;rw[ah e] at h;exact Er c n h
  ·rename_i e;exact e
theorem Mb(l:dQ)(n i:Nat):(l.take n).getD i 0=if i<n then l.getD i 0 else 0:=by
 rw[gDe,gDe,List.getElem?_take];split <;>rfl
theorem FR(c:dQ)(i:Nat):(Jv c).getD i 0=c.getD i 0:=by
 unfold Jv;rw[Mb];split
 ·rfl
 ·rename_i h;by_cases q:i<c.length
  ·exact(Ep c c.length i (by lia) q).symm
  ·rw[gDe,aE (by lia)];rfl
theorem Bj(c:dQ):(Jv c).length=qw c c.length:=by
 unfold Jv;rw[aC];have:=Bi c c.length;lia
theorem FT(c:dQ):(Jv c).length<=c.length:=by rw[Bj];exact Bi _ _
theorem ft{l:dQ}:Trim l↔(l≠[]->lc l≠0):=by
 unfold Trim lc;cases l with
 |nil=>simp
 |cons a l=>
  rw[cx,aa (by simp),gDe,aa (by simp)];simp
theorem tU:Trim []:=by unfold Trim;simp
theorem oe(c:dQ):Trim (Jv c):=by
 rw[ft];intro h;unfold lc;rw[FR,Bj];refine Er c _ ?_;rw[<-Bj];exact aD.mpr h
theorem Jw:∀{l m:dQ},(∀i,l.getD i 0=m.getD i 0)->dF l=dF m:=by
 intro l;induction l with
 |nil=>
  intro m;induction m with
  |nil=>intro _;rfl
  |cons b m ih=>
   intro h;have h0:(0:Int)=b:=by simpa using h 0
   subst h0;have e:=ih fun i=>by simpa using h (i+1)
   refine PF.ext fun x=> ?_
   rw[e9,<-e];show(0:Rat)=((0:Int):Rat)+x*0;grind
 |cons a l ih=>
  intro m h;cases m with
  |nil=>
   have h0:a=0:=by simpa using h 0
   subst h0;have e:=ih (m:=[]) fun i=>by simpa using h (i+1)
   refine PF.ext fun x=> ?_
   rw[e9,e];show((0:Int):Rat)+x*0=0;grind
  |cons b m=>
   have h0:a=b:=by simpa using h 0
   subst h0;have e:=ih (m:=m) fun i=>by simpa using h (i+1)
   exact PF.ext fun x=>by rw[e9,e9,e]
theorem w9(c:dQ):dF (Jv c)=dF c:=Jw (FR c)
theorem fI{l:dQ}(h:Trim l):dF l=0↔l=[]:=
 ⟨fun e=>pN h tU e,fun e=>by subst e;rfl⟩
theorem Jx(x:Rat):∀l r:dQ,(dF (iJ l r)).f x=(dF l).f x+(dF r).f x
 |[],r=>by
  show(dF r).f x=0+(dF r).f x;grind
 |a::l,[]=>by
  show(dF (a::l)).f x=(dF (a::l)).f x+0;grind
 |a::l,b::r=>by
  show(dF ((a+b)::iJ l r)).f x=_;rw[e9,e9,e9,Jx x l r,Rat.intCast_add];grind
theorem xb(l r:dQ):dF (iJ l r)=dF l+dF r:=PF.ext fun x=>by rw[Jx,PF.Ub]
theorem iX:∀(l r:dQ) (i:Nat),(iJ l r).getD i 0=l.getD i 0+r.getD i 0
 |[],r,i=>by
  show r.getD i 0=([]:dQ).getD i 0+r.getD i 0;simp
 |a::l,[],i=>by
  show(a::l).getD i 0=(a::l).getD i 0+([]:dQ).getD i 0;simp
 |a::l,b::r,0=>rfl
 |a::l,b::r,i+1=>by
  show(iJ l r).getD i 0=l.getD i 0+r.getD i 0;exact iX l r i
theorem jq:∀l r:dQ,(iJ l r).length=max l.length r.length
 |[],r=>by
  show r.length=max 0 r.length;lia
 |a::l,[]=>by
  show(a::l).length=max (a::l).length 0;lia
 |a::l,b::r=>by
  show(iJ l r).length+1=max (l.length+1) (r.length+1);rw[jq l r];lia
theorem Ht(l r:dQ):dF (BP l r)=dF l+dF r:=by unfold BP;rw[w9,xb]
theorem Mc(l r:dQ):Trim (BP l r):=oe _
theorem Bk(l:dQ):dF (Eo l)= - dF l:=PF.ext fun x=>by
 rw[PF.Uc];induction l with
 |nil=>show(0:Rat)= - 0;grind
 |cons a l ih=>
  show(dF (-a::Eo l)).f x=_;rw[e9,ih,e9,Rat.intCast_neg];grind
theorem uR(l:dQ):(Eo l).length=l.length:=by unfold Eo;simp
theorem iP(f:Int->Int)(h0:f 0=0)(l:dQ)(i:Nat):(l.map f).getD i 0=f (l.getD i 0):=by
 rw[gDe,gDe,aA];cases l[i]? with
 |none=>exact h0.symm
 |some v=>rfl
theorem Hu(f:Int->Int)(h0:f 0=0)(h:∀x,x≠0->f x≠0){l:dQ}(t:Trim l):Trim (l.map f):=by
 rw[ft] at t⊢;intro hl;unfold lc;rw[iP f h0,lMp];exact h _ (t fun e=>hl (by rw[e];rfl))
theorem Hv{l:dQ}(t:Trim l):Trim (Eo l):=Hu _ (by lia) (fun x h=>by lia) t
theorem qU(l r:dQ):dF (tQ l r)=dF l - dF r:=by
 unfold tQ;rw[Ht,Bk];grind
theorem uS(l r:dQ):Trim (tQ l r):=oe _
theorem uT(x:Int):dF (cst x)=PF.const (x:Rat):=by
 unfold cst;refine PF.ext fun y=> ?_
 split
 ·rename_i e;subst e;show(0:Rat)=((0:Int):Rat);grind
 ·rw[e9];show(x:Rat)+y*0=(x:Rat);grind
theorem Bl(a:Int)(x:Rat):∀q:dQ,(dF (q.map fun y=>a*y)).f x=(a:Rat)*(dF q).f x
 |[]=>by
  show(0:Rat)=(a:Rat)*0;grind
 |b::q=>by
  show(dF (a*b::q.map fun y=>a*y)).f x=_;rw[e9,Bl a x q,e9,Rat.intCast_mul];grind
theorem g8(a:Int)(q:dQ):dF (q.map fun y=>a*y)=PF.const (a:Rat)*dF q:=PF.ext fun x=>Bl a x q
theorem NY(x:Rat):∀l r:dQ,(dF (mulL l r)).f x=(dF l).f x*(dF r).f x
 |[],r=>by
  show(0:Rat)=0*(dF r).f x;grind
 |a::l,r=>by
  show(dF (iJ (r.map fun y=>a*y) (0::mulL l r))).f x=_;rw[Jx,Bl,e9,NY x l r,e9];grind
theorem jr(l r:dQ):dF (mulL l r)=dF l*dF r:=PF.ext fun x=>NY x l r
theorem iu:∀(l r:dQ),l≠[]->r≠[]->(mulL l r).length=l.length+r.length - 1
 |[],_,h,_=>absurd rfl h
 |a::[],r,_,hr=>by
  show(iJ (r.map fun y=>a*y) [0]).length=1+r.length - 1;rw[jq,lMp];have:0<r.length:=aD.mpr hr;show max r.length 1=_;lia
 |a::b::l,r,_,hr=>by
  have ih:=iu (b::l) r (by simp) hr;show(iJ (r.map fun y=>a*y) (0::mulL (b::l) r)).length=_;rw[jq,lMp,aq,ih];have:0<r.length:=aD.mpr hr;simp only[aq];lia
theorem K4:∀(l r:dQ),l≠[]->r≠[]->lc (mulL l r)=lc l*lc r
 |[],_,h,_=>absurd rfl h
 |a::[],r,h1,hr=>by
  unfold lc;rw[iu _ r h1 hr];show(iJ (r.map fun y=>a*y) [0]).getD _ 0=a*r.getD (r.length - 1) 0;rw[iX,iP _ (by lia)];have e:([a].length+r.length - 1 - 1)=r.length - 1:=by simp only[aq,bI];lia
  rw[e];have z:([0]:dQ).getD (r.length - 1) 0=0:=by
   cases r.length - 1 <;>simp
  rw[z];lia
 |a::b::l,r,h1,hr=>by
  have ih:=K4 (b::l) r (by simp) hr;have n:=iu (b::l) r (by simp) hr;have pr:0<r.length:=aD.mpr hr;unfold lc at ih⊢;rw[iu _ r h1 hr];show(iJ (r.map fun y=>a*y) (0::mulL (b::l) r)).getD _ 0=_;rw[iX,iP _ (by lia)];have e:((a::b::l).length+r.length - 1 - 1)=(mulL (b::l) r).length - 1+1:=by rw[n];simp only[aq];lia
  rw[e];have z:r.getD ((mulL (b::l) r).length - 1+1) 0=0:=by
   rw[gDe,aE (by rw[n];simp only[aq];lia)];rfl
  rw[z];show a*0+(mulL (b::l) r).getD ((mulL (b::l) r).length - 1) 0=_;rw[ih];show a*0+_=(b::l).getD (b::l).length.pred 0*_;simp
theorem jR(l r:dQ):dF (gX l r)=dF l*dF r:=by
 unfold gX;split
 ·rename_i h;rcases h with h |h
  ·subst h;show(0:PF)=0*dF r;grind
  ·subst h;show(0:PF)=dF l*0;grind
 ·exact jr l r
theorem qV{l r:dQ}(hl:Trim l)(hr:Trim r):Trim (gX l r):=by
 unfold gX;split
 ·exact tU
 ·rename_i h;have h1:l≠[]:=fun e=>h (.inl e)
  have h2:r≠[]:=fun e=>h (.inr e)
  rw[ft];intro _;rw[K4 l r h1 h2];exact Int.mul_ne_zero (ft.mp hl h1) (ft.mp hr h2)
theorem xc{l r:dQ}(h1:l≠[])(h2:r≠[]):(gX l r).length=l.length+r.length - 1:=by
 unfold gX;rw[af (fun h=>h.elim h1 h2),iu l r h1 h2]
theorem Md(n:Nat)(f:Nat->Int)(i:Nat):((List.range n).map f).getD i 0=if i<n then f i else 0:=by
 rw[gDe,aA];by_cases h:i<n
 ·rw[ah h,bE h];rfl
 ·rw[af h,aE (by simpa using h)];rfl
theorem i4:∀(m:dQ) (c:Int) (r:dQ) (i:Nat),(mulL (m ++ [c]) r).getD i 0=(mulL m r).getD i 0+(if m.length<=i then c*r.getD (i - m.length) 0 else 0)
 |[],c,r,i=>by
  show(iJ (r.map fun y=>c*y) [0]).getD i 0=0+_;rw[iX,iP _ (by lia),ah (show([]:dQ).length<=i from aL _)];have z:([0]:dQ).getD i 0=0:=by cases i <;>simp
  rw[z];simp
 |a::m,c,r,0=>by
  show(iJ (r.map fun y=>a*y) (0::mulL (m ++ [c]) r)).getD 0 0=(iJ (r.map fun y=>a*y) (0::mulL m r)).getD 0 0+_;rw[iX,iX,af (by simp)];simp
 |a::m,c,r,i+1=>by
  show(iJ (r.map fun y=>a*y) (0::mulL (m ++ [c]) r)).getD (i+1) 0=(iJ (r.map fun y=>a*y) (0::mulL m r)).getD (i+1) 0+_;rw[iX,iX];show _+ (mulL (m ++ [c]) r).getD i 0=_+ (mulL m r).getD i 0+_;rw[i4 m c r i];simp only[aq,Nat.add_le_add_iff_right,Nat.add_sub_add_right];lia
theorem yY:∀(m:dQ) (r:dQ) (i:Nat),r≠[]->m.length+r.length - 1<=i->(mulL m r).getD i 0=0
 |[],r,i,_,_=>by
  show([]:dQ).getD i 0=0;simp
 |a::m,r,i,hr,h=>by
  have n:=iu (a::m) r (by simp) hr;rw[gDe,aE (by lia)];rfl
theorem BQ(m:dQ)(t:Nat)(h:t<m.length):m.take (t+1)=m.take t ++ [m.getD t 0]:=by
 rw[aZ,aa h,gDe,aa h];rfl
theorem Hw(r:dQ)(hr:r≠[])(hl:lc r≠0)(m:dQ):∀(t:Nat) (rest:dQ),t<=m.length->(∀i,rest.getD i 0=(mulL (m.take t) r).getD i 0)->t+r.length - 1<=rest.length->K3 r t rest (m.drop t)=m
 |0,rest,_,_,_=>by
  show m.drop 0=m;rfl
 |t+1,rest,ht,h,hz=>by
  have pr:0<r.length:=aD.mpr hr;have hm:m.take (t+1)=m.take t ++ [m.getD t 0]:=BQ m t (by lia);have tl:(m.take t).length=t:=by rw[aC];lia
  have ef:(rest.getD (t+r.length - 1) 0).fdiv (lc r)=m.getD t 0:=by
   rw[h,hm,i4,tl,yY (m.take t) r _ hr (by lia),ah (by lia)];have e:t+r.length - 1 - t=r.length - 1:=by lia
   rw[e];show(0+m.getD t 0*lc r).fdiv (lc r)=_;rw[Int.zero_add,cZ _ hl]
  show K3 r t ((List.range rest.length).map fun i=>rest.getD i 0 - (if t<=i/\i<t+r.length then(rest.getD (t+r.length - 1) 0).fdiv (lc r)*r.getD (i - t) 0 else 0)) ((rest.getD (t+r.length - 1) 0).fdiv (lc r)::m.drop (t+1))=m;rw[ef];have ed:m.getD t 0::m.drop (t+1)=m.drop t:=by
   rw[gDe,aa (by lia:t<m.length)];exact(cU (by lia)).symm
  rw[ed];refine Hw r hr hl m t _ (by lia) (fun i=> ?_) (by rw[lMp,bF];lia);rw[Md];by_cases hi:i<rest.length
  ·rw[ah hi,h,hm,i4,tl];by_cases q:t<=i
   ·rw[ah q];by_cases q2:i<t+r.length
    ·rw[ah ⟨q,q2⟩];lia
    ·rw[af (fun z=>q2 z.2)];have:r.getD (i - t) 0=0:=by rw[gDe,aE (by lia)];rfl
     rw[this];lia
   ·rw[af q,af (fun z=>q z.1)];lia
  ·rw[af hi];exact(yY (m.take t) r i hr (by rw[tl];lia)).symm
theorem pQ{l r m:dQ}(hl:Trim l)(hr:Trim r)(hm:Trim m)(hr0:r≠[])(h:dF l=dF m*dF r):mX l r=m:=by
 by_cases q:m=[]
 ·subst q;have e:l=[]:=(fI hl).mp (by rw[h];show(0:PF)*_=0;grind);unfold mX;rw[ah e]
 ·have el:l=mulL m r:=by
   have t:Trim (mulL m r):=by
    have:=qV hm hr;unfold gX at this
    rwa [af (fun h=>h.elim q hr0)] at this
   exact pN hl t (by rw[h,jr])
  have n:=iu m r q hr0;have pm:0<m.length:=aD.mpr q;have pr:0<r.length:=aD.mpr hr0;unfold mX;rw[af (fun e=>by rw[el] at e;have:=congrArg List.length e;rw[n] at this;simp at this;lia),el,n];have e:m.length+r.length - 1 - r.length+1=m.length:=by lia
  rw[e];have d:=Hw r hr0 (ft.mp hr hr0) m m.length (mulL m r) (ai _) (fun i=>by rw[aG]) (by lia);rw[List.drop_length] at d;exact d
end c9
namespace c9
open Lean.Grind
noncomputable def ik (l:dQ):Nat:=(l.map Int.natAbs).sum
structure Bd(f:PF)(d B:Nat):Prop where
 ex:∃l:dQ,Trim l/\dF l=f/\l.length<=d+1/\ik l<=B
noncomputable def jS (f:PF):Prop:=∃l:dQ,Trim l/\dF l=f
theorem uU(l:dQ):jS (dF l):=⟨Jv l,oe l,w9 l⟩
theorem Me:jS 0:=uU []
theorem BR:jS 1:=by
 have e:dF [1]=1:=PF.ext fun x=>by
  rw[e9];show((1:Int):Rat)+x*0=((1:Nat):Rat);grind
 exact e▸uU [1]
theorem jS.add{f g:PF}(hf:jS f)(hg:jS g):jS (f+g):=by
 obtain⟨l,_,rfl⟩:=hf;obtain⟨m,_,rfl⟩:=hg;exact xb l m▸uU _
theorem jS.mul{f g:PF}(hf:jS f)(hg:jS g):jS (f*g):=by
 obtain⟨l,_,rfl⟩:=hf;obtain⟨m,_,rfl⟩:=hg;exact jr l m▸uU _
theorem jS.neg{f:PF}(hf:jS f):jS (- f):=by
 obtain⟨l,_,rfl⟩:=hf;exact Bk l▸uU _
theorem jS.sub{f g:PF}(hf:jS f)(hg:jS g):jS (f - g):=by
 have e:f - g=f+ - g:=by grind
 rw[e];exact hf.add hg.neg
theorem Qp(i:Nat):jS (sg i):=by
 unfold sg;split
 ·exact BR
 ·exact BR.neg
theorem yZ:∀(n:Nat) {f:Nat->PF},(∀i,i<n->jS (f i))->jS (eh n f)
 |0,_,_=>Me
 |n+1,f,h=>(yZ n fun i hi=>h i (by lia)).add (h n (by lia))
theorem BS:∀(n:Nat) {A:Nat->Nat->PF},(∀i j,i<n->j<n->jS (A i j))->jS (det n A)
 |0,_,_=>BR
 |n+1,A,h=>by
  rw[gk];refine yZ _ fun i hi=>(Qp i).mul ((h i 0 hi (by lia)).mul (BS n fun a b ha hb=>h _ _ (w4 ha) (by lia)))
noncomputable def ent (t:List jD) (i j:Nat):dQ:=(t.getD i []).getD j []
structure Tab(n:Nat)(t:List jD):Prop where
 len:t.length=n
 row:∀i,i<n->(t.getD i []).length=n+1
 trim:∀i j,i<n->j<n+1->Trim (ent t i j)
noncomputable def sI (t:List jD):Nat->Nat->PF:=fun i j=>dF (ent t i j)
structure Ord(n:Nat)(σ:Nat->Nat)(ε:PF):Prop where
 lt:∀i,i<n->σ i<n
 NZ:∀i,i<n->∃a,a<n/\σ a=i
 sgn:ε=1\/ε= -1
 det:∀F:Nat->Nat->PF,det n (fun i j=>F (σ i) j)=ε*det n F
theorem Ord.id(n:Nat):Ord n (fun i=>i) 1:=⟨fun i h=>h,fun i h=>⟨i,h,rfl⟩,.inl rfl,fun F=>by grind⟩
theorem Ud(r t i:Nat):sw r t (sw r t i)=i:=by
 unfold sw
 repeat' split
 all_goals lia
theorem pS{r t i n:Nat}(hr:r<n)(ht:t<n)(hi:i<n):sw r t i<n:=by
 unfold sw
 repeat' split
 all_goals lia
theorem tV{R:Type}(A:Nat->Nat->R)(r t:Nat):gM A r t=fun i j=>A (sw r t i) j:=by
 funext i j;show(if i=r then A t j else if i=t then A r j else A i j)=A (if i=r then t else if i=t then r else i) j;by_cases q:i=r
 ·rw[ah q,ah q]
 ·rw[af q,af q];by_cases q2:i=t
  ·rw[ah q2,ah q2]
  ·rw[af q2,af q2]
theorem Ord.swap{n:Nat}{σ:Nat->Nat}{ε:PF}(o:Ord n σ ε)(r t:Nat)(hr:r<n)(ht:t<n):∃ε',Ord n (fun i=>σ (sw r t i)) ε':=by
 have lt:∀i,i<n->σ (sw r t i)<n:=fun i hi=>o.lt _ (pS hr ht hi)
 have NZ:∀i,i<n->∃a,a<n/\σ (sw r t a)=i:=fun i hi=>by
  obtain⟨a,ha,e⟩:=o.NZ i hi;exact⟨sw r t a,pS hr ht ha,by rw[Ud];exact e⟩
 by_cases q:r=t
 ·subst q;refine⟨ε,lt,NZ,o.sgn,fun F=> ?_⟩;have e:∀i,sw r r i=i:=fun i=>by
   unfold sw
   repeat' split
   all_goals lia
  simp only[e];exact o.det F
 ·refine⟨-ε,lt,NZ,?_,fun F=> ?_⟩
  ·rcases o.sgn with e |e
   ·exact .inr (by rw[e])
   ·exact .inl (by rw[e];grind)
  ·have d:=NR n (fun i j=>F (σ i) j) r t hr ht q;rw[tV] at d;rw[d,o.det F];grind
theorem Ord.ne{n:Nat}{σ:Nat->Nat}{ε:PF}(o:Ord n σ ε):ε*ε=1:=by
 rcases o.sgn with e |e <;>rw[e] <;>grind
theorem Sg:(1:PF)≠0:=fun e=>by
 have e1:(1:PF).f 0=(0:PF).f 0:=by rw[e]
 have e2:(1:Rat)=0:=e1;exact absurd e2 (by decide)
theorem Hx(t:List jD)(i a:Nat)(r:jD)(h:i<t.length):(t.set i r).getD a []=if a=i then r else t.getD a []:=by
 rw[gDe,gDe,cz];by_cases q:i=a
 ·subst q;rw[ah rfl,ah h,ah rfl];rfl
 ·rw[af q,af (bK q)]
theorem Bm(t:List jD)(c k a:Nat)(hc:c<t.length)(hk:k<t.length):(nP t c k).getD a []=t.getD (sw c k a) []:=by
 unfold nP;rw[Hx _ _ _ _ (by rw[bW];exact hk),Hx _ _ _ _ hc];unfold sw;by_cases q:a=k
 ·subst q;rw[ah rfl];by_cases q2:a=c
  ·subst q2;rw[ah rfl]
  ·rw[af q2,ah rfl]
 ·rw[af q];by_cases q2:a=c
  ·rw[ah q2,ah q2]
  ·rw[af q2,af q2,af q]
theorem kj{α:Type}(n:Nat)(f:Nat->α)(i:Nat)(d:α)(h:i<n):((List.range n).map f).getD i d=f i:=by
 rw[gDe,aA,bE h];rfl
theorem FU(t:List jD)(k:Nat)(before:dQ)(i j:Nat)(hi:i<t.length)(hj:j<(t.getD i []).length):
  ent (yX t k before) i j=if i=k then ent t k j else if k<j then mX (tQ (gX (ent t k k) (ent t i j)) (gX (ent t i k) (ent t k j))) before else ent t i j:=by
 unfold ent yX;rw[kj _ _ _ _ hi];by_cases q:i=k
 ·rw[ah q,ah q]
 ·rw[af q,af q];unfold lI;rw[kj _ _ _ _ hj]
theorem K5(t:List jD)(k:Nat)(before:dQ)(i:Nat)(hi:i<t.length):((yX t k before).getD i []).length=(t.getD i []).length:=by
 unfold yX;rw[kj _ _ _ _ hi];by_cases q:i=k
 ·rw[ah q,q]
 ·rw[af q];unfold lI;simp
structure S7(n k:Nat)(A:Nat->Nat->PF)(t:List jD)(before:dQ)(σ:Nat->Nat)(ε:PF):Prop where
 tab:Tab n t
 ord:Ord n σ ε
 Hy:Trim before
 DC:dF before=mk (fun i j=>A (σ i) j) k
 ne:mk (fun i j=>A (σ i) j) k≠0
 up:∀i j,i<k->k<=j->j<n+1->dF (ent t i j)=mc (fun i j=>A (σ i) j) k i j
 low:∀i j,k<=i->i<n->k<=j->j<n+1->dF (ent t i j)=ti (fun i j=>A (σ i) j) k i j
theorem Es(n:Nat)(t:List jD)(h:Tab n t):S7 n 0 (sI t) t [1] (fun i=>i) 1 where
 tab:=h
 ord:=Ord.id n
 Hy:=by unfold Trim;simp
 DC:=by
  show dF [1]=(1:PF);refine PF.ext fun x=> ?_
  rw[e9];show((1:Int):Rat)+x*0=((1:Nat):Rat);grind
 ne:=Sg
 up:=fun i j hi=>by lia
 low:=fun i j _ _ _ _=>by
  show dF (ent t i j)=(1:PF)*sI t i j - 0;unfold sI;grind
theorem Hz{n k:Nat}{A:Nat->Nat->PF}{t:List jD}{before:dQ}{σ:Nat->Nat}{ε:PF}(hA:∀i j,i<n->j<n+1->jS (A i j))(hk:k<n)(S:S7 n k A t before σ ε)(c:Nat)(hkc:k<=c)(hc:c<n)(hp:ent t c k≠[]):
  ∃ε',S7 n (k+1) A (yX (nP t c k) k before) (ent t c k) (fun i=>σ (sw c k i)) ε':=by
 obtain⟨ε',o'⟩:=S.ord.swap c k hc hk;refine⟨ε',?_⟩;have hB:(fun i j=>A (σ (sw c k i)) j)=gM (fun i j=>A (σ i) j) c k:=(tV (fun i j=>A (σ i) j) c k).symm;have tl:=S.tab.len;have sl:(nP t c k).length=n:=by unfold nP;rw[bW,bW];exact tl
 have sg':∀a,(nP t c k).getD a []=t.getD (sw c k a) []:=fun a=>Bm t c k a (by lia) (by lia)
 have se:∀a j,ent (nP t c k) a j=ent t (sw c k a) j:=fun a j=>by unfold ent;rw[sg']
 have skk:sw c k k=c:=by
  unfold sw
  repeat' split
  all_goals lia
 have slow:∀i,i<k->sw c k i=i:=fun i hi=>by unfold sw;rw[af (by lia),af (by lia)]
 have shigh:∀i,k<=i->k<=sw c k i:=fun i hi=>by
  unfold sw
  repeat' split
  all_goals lia
 have mkS:mk (fun i j=>A (σ (sw c k i)) j) k=mk (fun i j=>A (σ i) j) k:=by rw[hB];exact FK _ k c k hkc (ai _)
 have mcS:∀i j,mc (fun i j=>A (σ (sw c k i)) j) k i j=mc (fun i j=>A (σ i) j) k i j:=fun i j=>by rw[hB];exact FL _ k c k i j hkc (ai _)
 have tiS:∀i j,ti (fun i j=>A (σ (sw c k i)) j) k i j=ti (fun i j=>A (σ i) j) k (sw c k i) j:=fun i j=>by rw[hB];exact K1 _ k c k i j hkc (ai _)
 have eU:∀i j,i<k->k<=j->j<n+1->dF (ent (nP t c k) i j)=mc (fun i j=>A (σ (sw c k i)) j) k i j:=fun i j hi hj hjn=>by rw[se,slow i hi,S.up i j hi hj hjn,mcS]
 have eL:∀i j,k<=i->i<n->k<=j->j<n+1->dF (ent (nP t c k) i j)=ti (fun i j=>A (σ (sw c k i)) j) k i j:=fun i j hi hin hj hjn=>by
  rw[se,S.low _ j (shigh i hi) (pS hc hk hin) hj hjn,tiS]
 have sT:∀i j,i<n->j<n+1->Trim (ent (nP t c k) i j):=fun i j hi hj=>by rw[se];exact S.tab.trim _ j (pS hc hk hi) hj
 generalize hBd:(fun i j=>A (σ (sw c k i)) j)=B at *;have hBI:∀i j,i<n->j<n+1->jS (B i j):=fun i j hi hj=>by rw[<-hBd];exact hA _ j (S.ord.lt _ (pS hc hk hi)) hj
 have w6:Reg (mk B k):=PF.w6 (by rw[mkS];exact S.ne);have piv:dF (ent t c k)=mk B (k+1):=by
  have e:=eL k k (ai _) hk (ai _) (by lia);rw[se,skk] at e;rw[e,BM B k w6]
 have ne1:mk B (k+1)≠0:=fun z=>hp ((fI (S.tab.trim c k hc (by lia))).mp (piv.trans z))
 have reg1:Reg (mk B (k+1)):=PF.w6 ne1;have bne:before≠[]:=fun z=>by
  have:=S.DC;rw[z] at this;exact S.ne this.symm
 have ekk:dF (ent (nP t c k) k k)=mk B (k+1):=by rw[se,skk];exact piv
 have imk:jS (mk B (k+1)):=BS _ fun i j hi hj=>hBI i j (by lia) (by lia)
 have imc:∀i j,i<k+1->j<n+1->jS (mc B (k+1) i j):=fun i j hi hj=>BS _ fun a b ha hb=>by
  show jS (if b=i then B a j else B a b);split
  ·exact hBI a j (by lia) hj
  ·exact hBI a b (by lia) (by lia)
 have iti:∀i j,i<n->j<n+1->jS (ti B (k+1) i j):=fun i j hi hj=>(imk.mul (hBI i j hi hj)).sub (yZ _ fun d hd=>(hBI i d hi (by lia)).mul (imc d j hd hj))
 have dv:∀i j f,i<n->k<j->j<n+1->i≠k->jS f->mk B (k+1)*dF (ent (nP t c k) i j) - dF (ent (nP t c k) i k)*dF (ent (nP t c k) k j)=mk B k*f->∃m,Trim m/\dF m=f/\ent (yX (nP t c k) k before) i j=m:=fun i j f hi hj hjn hik hf e=>by
  obtain⟨m,tm,em⟩:=hf;refine⟨m,tm,em,?_⟩;rw[FU _ _ _ _ _ (by lia) (by rw[sg',S.tab.row _ (pS hc hk hi)];exact hjn),af hik,ah hj];refine pQ (uS _ _) S.Hy tm bne ?_;rw[qU,jR,jR,ekk,e,em,S.DC,<-mkS];grind
 have up':∀i j,i<k+1->k+1<=j->j<n+1->Trim (ent (yX (nP t c k) k before) i j)/\dF (ent (yX (nP t c k) k before) i j)=mc B (k+1) i j:=fun i j hi hj hjn=>by
  by_cases q:i=k
  ·subst q;rw[FU _ _ _ _ _ (by lia) (by rw[sg',S.tab.row _ (pS hc hk hk)];exact hjn),ah rfl];exact⟨sT _ j hk hjn,by rw[eL _ j (ai _) hk (by lia) hjn,KZ B _ j w6 reg1]⟩
  ·obtain⟨m,tm,em,e⟩:=dv i j (mc B (k+1) i j) (by lia) (by lia) hjn q (imc i j hi hjn) (by
    rw[eU i j (by lia) (by lia) hjn,eU i k (by lia) (ai _) (by lia),eL k j (ai _) hk (by lia) hjn];exact(Bf B k j w6 reg1 i (by lia)).1)
   rw[e];exact⟨tm,em⟩
 have low':∀i j,k+1<=i->i<n->k+1<=j->j<n+1->Trim (ent (yX (nP t c k) k before) i j)/\dF (ent (yX (nP t c k) k before) i j)=ti B (k+1) i j:=fun i j hi hin hj hjn=>by
  obtain⟨m,tm,em,e⟩:=dv i j (ti B (k+1) i j) hin (by lia) hjn (by lia) (iti i j hin hjn) (by
   rw[eL i j (by lia) hin (by lia) hjn,eL i k (by lia) hin (ai _) (by lia),eL k j (ai _) hk (by lia) hjn];exact K0 B k i j w6 reg1)
  rw[e];exact⟨tm,em⟩
 have cl:(yX (nP t c k) k before).length=n:=by unfold yX;rw[lMp,bF];exact sl
 subst hBd;refine⟨⟨cl,fun i hi=>by rw[K5 _ _ _ _ (by lia),sg',S.tab.row _ (pS hc hk hi)],fun i j hi hj=> ?_⟩,o',S.tab.trim c k hc (by lia),piv,ne1,fun i j hi hj hjn=>(up' i j hi hj hjn).2,fun i j hi hin hj hjn=>(low' i j hi hin hj hjn).2⟩;by_cases q:k+1<=j
 ·by_cases q2:i<k+1
  ·exact(up' i j q2 q hj).1
  ·exact(low' i j (by lia) hi q hj).1
 ·rw[FU _ _ _ _ _ (by lia) (by rw[sg',S.tab.row _ (pS hc hk hi)];exact hj)];by_cases q2:i=k
  ·rw[ah q2];exact sT k j hk hj
  ·rw[af q2,af (by lia)];exact sT i j hi hj
theorem rD(t:List jD)(k:Nat):∀(f c:Nat),f<=t.length->n9 t k f=some c->t.length - f<=c/\c<t.length/\ent t c k≠[]
 |0,c,_,h=>by cases h
 |f+1,c,hf,h=>by
  unfold n9 at h;dsimp only at h;split at h
  ·rename_i e;cases h
   exact⟨ai _,by lia,e⟩
  ·obtain⟨h1,h2,h3⟩:=rD t k f c (by lia) h;exact⟨by lia,h2,h3⟩
theorem BU(t:List jD)(k:Nat):∀(f:Nat),f<=t.length->n9 t k f=none->∀i,t.length - f<=i->i<t.length->ent t i k=[]
 |0,_,_,i,h1,h2=>by lia
 |f+1,hf,h,i,h1,h2=>by
  unfold n9 at h;dsimp only at h;split at h
  ·cases h
  ·rename_i e;by_cases q:i=t.length - (f+1)
   ·rw[q];exact cM.mp e
   ·exact BU t k f (by lia) h i (by lia) h2
structure VV(n:Nat)(A:Nat->Nat->PF)(d:dQ)(tops:List dQ):Prop where
 len:tops.length=n
 xf:Trim d
 Sh:d≠[]
 trim:∀c,c<n->Trim (tops.getD c [])
 sgn:∃ε:PF,(ε=1\/ε= -1)/\dF d=ε*det n A/\∀c,c<n->dF (tops.getD c [])=ε*det n (e7 A c fun i=>A i n)
theorem HA{n:Nat}{A:Nat->Nat->PF}(hA:∀i j,i<n->j<n+1->jS (A i j)):∀(f k:Nat) (t:List jD) (before:dQ) (σ:Nat->Nat) (ε:PF),f+k=n->S7 n k A t before σ ε->
  (∃d tops,w8 f k t before=some (d,tops)/\VV n A d tops)\/(w8 f k t before=none/\det n A=0/\∃x:Nat->PF,(∃j,j<n/\x j≠0)/\∀i,i<n->eh n (fun d=>A i d*x d)=0)
 |0,k,t,before,σ,ε,hf,S=>by
  have hk:k=n:=by lia
  subst hk;refine .inl ⟨_,_,rfl,?_⟩;have tl:=S.tab.len;have te:∀c,c<k->(t.map fun r=>r.getD (r.length - 1) []).getD c []=ent t c k:=fun c hc=>by
   have hr:=S.tab.row c hc;unfold ent;rw[gDe,aA,aa (by lia)];rw[gDe,aa (by lia)] at hr;rw[gDe (l:=t),aa (by lia)];simp only[Option.map_some,cD] at hr⊢;rw[hr];rfl
  refine⟨by rw[lMp];exact tl,S.Hy,fun z=>S.ne (by rw[<-S.DC,z];rfl),fun c hc=>by rw[te c hc];exact S.tab.trim c k hc (by lia),ε,S.ord.sgn,?_,fun c hc=> ?_⟩
  ·rw[S.DC];exact S.ord.det A
  ·rw[te c hc,S.up c k hc (ai _) (by lia)];exact S.ord.det (e7 A c fun i=>A i k)
 |f+1,k,t,before,σ,ε,hf,S=>by
  have hk:k<n:=by lia
  have tl:=S.tab.len;unfold w8;cases e:n9 t k (t.length - k) with
  |some c=>
   obtain⟨h1,h2,h3⟩:=rD t k _ c (by lia) e;obtain⟨ε',S'⟩:=Hz hA hk S c (by lia) (by lia) h3;exact HA hA f (k+1) _ _ _ ε' (by lia) S'
  |none=>
   refine .inr ⟨rfl,?_⟩;have z:=BU t k _ (by lia) e;have w6:Reg (mk (fun i j=>A (σ i) j) k):=PF.w6 S.ne;have np:=NW (fun i j=>A (σ i) j) n k hk w6 fun i hi hin=>by
    rw[<-S.low i k hi hin (ai _) (by lia),z i (by lia) (by lia)];rfl
   refine⟨?_,fun d=>if d<k+1 then(if d=k then mk (fun i j=>A (σ i) j) k else - mc (fun i j=>A (σ i) j) k d k) else 0,⟨k,hk,?_⟩,fun i hi=> ?_⟩
   ·have d:=S.ord.det A;rw[np.2] at d;have o:=S.ord.ne;grind
   ·dsimp only;rw[ah (by lia),ah rfl];exact S.ne
   ·obtain⟨a,ha,ea⟩:=S.ord.NZ i hi;have s:=np.1 a ha;rw[ea] at s;exact s
theorem Jy{n:Nat}{t:List jD}(h:Tab n t):
  (∃d tops,sol t=some (d,tops)/\VV n (sI t) d tops)\/(sol t=none/\det n (sI t)=0/\∃x:Nat->PF,(∃j,j<n/\x j≠0)/\∀i,i<n->eh n (fun d=>sI t i d*x d)=0):=by
 unfold sol;rw[h.len];exact HA (fun i j _ _=>uU _) n 0 t [1] _ 1 rfl (Es n t h)
end c9
namespace c9
open Lean.Grind
open Wh (valueAt addPoly scalePoly mulPoly)
theorem Jz(x:Rat):∀(n:Nat) (f:Nat->PF),(eh n f).f x=eh n fun i=>(f i).f x
 |0,_=>rfl
 |n+1,f=>by
  show(eh n f).f x+(f n).f x=_;rw[Jz x n f];rfl
theorem Ue(x:Rat)(i:Nat):(sg i:PF).f x=sg i:=by
 unfold sg;split <;>rfl
theorem Et(x:Rat):∀(n:Nat) (A:Nat->Nat->PF),(det n A).f x=det n fun i j=>(A i j).f x
 |0,_=>rfl
 |n+1,A=>by
  rw[gk,gk,Jz];refine eC _ fun i _=> ?_
  rw[PF.NX,PF.NX,Ue,Et x n];rfl
noncomputable def Rj (l:List (List Rat)):Nat->Nat->Rat:=fun i j=>(l.getD i []).getD j 0
theorem Ak{R:Type} [CommRing R](n:Nat)(A:Nat->Nat->R)(p:Nat)(hp:p<n)(c:Nat->R):∀m,m<=n->det n (fun i j=>if i<m/\i≠p then A i j+c i*A p j else A i j)=det n A
 |0,_=>eH n fun i j _ _=>af (by lia)
 |m+1,hm=>by
  rw[<-Ak n A p hp c m (by lia)];by_cases q:m=p
  ·refine eH n fun i j _ _=> ?_
   by_cases e:i<m+1/\i≠p
   ·rw[ah e,ah (by lia)]
   ·rw[af e,af (by lia)]
  ·have r:=Jt n (fun i j=>if i<m/\i≠p then A i j+c i*A p j else A i j) m p (c m) (by lia) hp q;rw[<-r];refine eH n fun i j _ _=> ?_
   by_cases e:i=m
   ·subst e;rw[fi];rw[ah ⟨by lia,q⟩,af (by lia),af (by lia)]
   ·rw[fz e];by_cases e2:i<m+1/\i≠p
    ·rw[ah e2,ah (by lia)]
    ·rw[af e2,af (by lia)]
theorem og(r:List Rat):r.headD 0=r.getD 0 0:=by cases r <;>rfl
theorem BV(r:List Rat)(j:Nat):(r.drop 1).getD j 0=r.getD (j+1) 0:=by cases r <;>simp
theorem Eu(f:Rat->Rat->Rat)(a b:List Rat)(j:Nat)(ha:j<a.length)(hb:j<b.length):(List.zipWith f a b).getD j 0=f (a.getD j 0) (b.getD j 0):=by
 rw[gDe,List.getElem?_zipWith,gDe,gDe,aa ha,aa hb];rfl
theorem BW:∀(f:Nat) (l:List (List Rat)),l.length=f->(∀i,i<f->(l.getD i []).length=f)->Wh.detOf f l=det f (Rj l)
 |0,_,_,_=>rfl
 |f+1,l,hl,hr=>by
  unfold Wh.detOf;cases e:l.findIdx? fun r:List Rat=>decide (r.headD 0≠0) with
  |none=>
   dsimp only;refine(nF (f+1) (Rj l) 0 (by lia) fun i hi=> ?_).symm;have h:=List.findIdx?_eq_none_iff.mp e (l.getD i []) (by
    rw[gDe,aa (by lia)];exact bM _)
   simp only[decide_eq_false_iff_not,cM] at h;show(l.getD i []).getD 0 0=0;rw[<-og];exact h
  |some i=>
   obtain⟨hi,hp,_⟩:=List.findIdx?_eq_some_iff_getElem.mp e;have hp':(l.getD i []).headD 0≠0:=by
    rw[gDe,aa hi];simpa using hp
   dsimp only;generalize hpr:l.getD i []=p at hp'⊢;have lp:p.length=f+1:=by rw[<-hpr];exact hr i (by lia)
   have pA:∀j,Rj l i j=p.getD j 0:=fun j=>by show(l.getD i []).getD j 0=_;rw[hpr]
   rw[<-Ak (f+1) (Rj l) i (by lia) (fun a=> -((l.getD a []).headD 0 / p.headD 0)) (f+1) (ai _),gk,mL (f+1) i (by lia)]
   ·have hsg:(sg i:Rat)=if i % 2=1 then -1 else 1:=by
     unfold sg;by_cases q:i % 2=1
     ·rw[ah q,af (by lia)]
     ·rw[af q,ah (by lia)]
    rw[hsg];refine congrArg _ ?_;rw[af (by lia),pA,og];refine congrArg _ ?_;have ih:=BW f ((l.eraseIdx i).map fun r:List Rat=>List.zipWith (fun x y:Rat=>x - r.headD 0 / p.headD 0*y) (r.drop 1) (p.drop 1)) (by
     rw[lMp,cP,ah hi];lia) (fun a ha=>by
     have la:a<(l.eraseIdx i).length:=by rw[cP,ah hi];lia
     rw[gDe,aA,aa la];simp only[Option.map_some,cD,List.length_zipWith,bC];have hm:=List.mem_of_mem_eraseIdx (bM la);obtain⟨b,hb,eb⟩:=aW hm;have:=hr b (by lia);rw[gDe,aa hb] at this;simp only[cD] at this;rw[<-eb,this,lp];lia)
    rw[<-og,ih];refine eH f fun a b ha hb=> ?_
    have la:a<(l.eraseIdx i).length:=by rw[cP,ah hi];lia
    have ls:skip i a<l.length:=by have:=w4 (i:=i) ha;lia
    have ee:(l.eraseIdx i)[a]=l[skip i a]:=by
     rw[List.getElem_eraseIdx];unfold skip;split <;>rfl
    have lr:(l[skip i a]).length=f+1:=by
     have:=hr (skip i a) (by lia);rw[gDe,aa ls] at this;exact this
    have eg:l.getD (skip i a) []=l[skip i a]:=by rw[gDe,aa ls];rfl
    show(((l.eraseIdx i).map fun r:List Rat=>List.zipWith (fun x y:Rat=>x - r.headD 0 / p.headD 0*y) (r.drop 1) (p.drop 1)).getD a []).getD b 0=if skip i a<f+1/\skip i a≠i then Rj l (skip i a) (b+1)+ -((l.getD (skip i a) []).headD 0 / p.headD 0)*Rj l i (b+1) else Rj l (skip i a) (b+1)
    rw[ah ⟨by lia,KY i a⟩,gDe (l:=List.map _ _),aA,aa la];simp only[Option.map_some,cD];rw[ee,Eu _ _ _ _ (by rw[bC];lia) (by rw[bC];lia),BV,BV,pA,eg];show _=(l.getD (skip i a) []).getD (b+1) 0+_;rw[eg];grind
   ·intro a ha hai;rw[ah ⟨ha,hai⟩,pA,<-og];have:Rj l a 0=(l.getD a []).headD 0:=(og _).symm;rw[this];have z:(l.getD a []).headD 0+ -((l.getD a []).headD 0 / p.headD 0)*p.headD 0=0:=by
     have:=Rat.div_mul_cancel (a:=(l.getD a []).headD 0) hp';grind
    rw[z];grind
theorem Bn:∀(p:List Rat) (x:Rat),valueAt (Wh.trim p) x=valueAt p x:=by
 intro p x;have key:∀q:List Rat,valueAt ((q.dropWhile fun x:Rat=>decide (x=0)).reverse) x=valueAt q.reverse x:=by
  intro q;induction q with
  |nil=>rfl
  |cons a q ih=>
   by_cases h:a=0
   ·rw[List.dropWhile_cons_of_pos (by simpa using h),ih,List.reverse_cons];have app:∀(r:List Rat),valueAt (r ++ [0]) x=valueAt r x:=by
     intro r;induction r with
     |nil=>
      show(0:Rat)+x*0=0;grind
     |cons b r ih2=>
      show b+x*valueAt (r ++ [0]) x=b+x*valueAt r x;rw[ih2]
    rw[h,app]
   ·rw[List.dropWhile_cons_of_neg (by simpa using h)]
 unfold Wh.trim;rw[key,List.reverse_reverse]
theorem HB(p:List Rat):(Wh.trim p).length<=p.length:=by
 unfold Wh.trim;rw[bu];refine aw (List.Sublist.length_le (List.dropWhile_sublist _)) ?_;rw[bu];exact ai _
theorem xg:∀(p:List Rat) (a b:Rat),p≠[]->(mulPoly p [a,b]).length=p.length+1
 |[],_,_,h=>absurd rfl h
 |c::[],a,b,_=>rfl
 |c::d::p,a,b,_=>by
  have ih:=xg (d::p) a b (by simp);show(addPoly [c*a,c*b] (0::mulPoly (d::p) [a,b])).length=_;have al:∀(u v:List Rat),(addPoly u v).length=max u.length v.length:=by
   intro u;induction u with
   |nil=>
    intro v;show v.length=max 0 v.length;lia
   |cons x u ih2=>
    intro v;cases v with
    |nil=>
     show(x::u).length=max (x::u).length 0;lia
    |cons y v=>
     show(addPoly u v).length+1=max (u.length+1) (v.length+1);rw[ih2 v];lia
  rw[al,aq (a:=(0:Rat)),ih];simp only[aq,bI];lia
noncomputable def FV (i:Nat):List Nat->List Rat->List Rat:=fun js p=>js.foldl (fun(p:List Rat) (j:Nat)=>if j=i then p else mulPoly p [-(j:Rat) / ((i:Rat) - (j:Rat)),1 / ((i:Rat) - (j:Rat))]) p
theorem BX(m i:Nat):Wh.basis m i=FV i (List.range m) [1]:=rfl
theorem BY(i:Nat):∀(js:List Nat) (p:List Rat),p≠[]->(FV i js p).length=p.length+(js.filter fun j=>decide (j≠i)).length
 |[],p,_=>rfl
 |j::js,p,h=>by
  show(FV i js (if j=i then p else mulPoly p _)).length=_;by_cases q:j=i
  ·rw[ah q,BY i js p h,aU (by simpa using q)]
  ·have l2:=xg p (-(j:Rat) / ((i:Rat) - (j:Rat))) (1 / ((i:Rat) - (j:Rat))) h;rw[af q,BY i js _ (by intro e;rw[e] at l2;simp at l2),l2,aR (by simpa using q),aq];lia
theorem Oa{i j:Nat}(h:j≠i):(i:Rat) - (j:Rat)≠0:=fun e=>h (by
 have:(j:Rat)=(i:Rat):=by grind
 exact_mod_cast this)
theorem Ew(i:Nat):∀(js:List Nat) (p:List Rat),valueAt (FV i js p) (i:Rat)=valueAt p (i:Rat)
 |[],_=>rfl
 |j::js,p=>by
  show valueAt (FV i js (if j=i then p else mulPoly p _)) (i:Rat)=_;rw[Ew i js];by_cases q:j=i
  ·rw[ah q]
  ·rw[af q,yT,iq,iq,FN];have:=Oa q;have e: -(j:Rat) / ((i:Rat) - (j:Rat))+(i:Rat)*(1 / ((i:Rat) - (j:Rat))+(i:Rat)*0)=1:=by grind
   rw[e];grind
theorem Ex(i:Nat):∀(js:List Nat) (p:List Rat) (x:Rat),valueAt p x=0->valueAt (FV i js p) x=0
 |[],_,_,h=>h
 |j::js,p,x,h=>by
  show valueAt (FV i js (if j=i then p else mulPoly p _)) x=0;refine Ex i js _ x ?_;split
  ·exact h
  ·rw[yT,h];grind
theorem BZ(i k:Nat)(hk:k≠i):∀(js:List Nat) (p:List Rat),k∈js->valueAt (FV i js p) (k:Rat)=0
 |[],_,h=>by cases h
 |j::js,p,h=>by
  show valueAt (FV i js (if j=i then p else mulPoly p _)) (k:Rat)=0;by_cases q:k=j
  ·subst q;rw[af hk];refine Ex i js _ _ ?_;rw[yT,iq,iq,FN];have:=Oa hk;have e: -(k:Rat) / ((i:Rat) - (k:Rat))+(k:Rat)*(1 / ((i:Rat) - (k:Rat))+(k:Rat)*0)=0:=by grind
   rw[e];grind
  ·exact BZ i k hk js _ ((aH.mp h).resolve_left q)
theorem sJ(i:Nat):∀m,i<m->((List.range m).filter fun j=>decide (j≠i)).length+1=m
 |0,h=>by lia
 |m+1,h=>by
  rw[bY,bL,ay];by_cases q:m=i
  ·subst q;have e:(List.range m).filter (fun j=>decide (j≠m))=List.range m:=List.filter_eq_self.mpr fun a ha=>by
    have:=aT.mp ha;simp;lia
   rw[e,aU (by simp)];simp
  ·have:=sJ i m (by lia);rw[aR (by simpa using q)];simp only[List.filter_nil,aq,bI];lia
theorem Mf{m i:Nat}(h:i<m):(Wh.basis m i).length=m:=by
 rw[BX,BY i _ _ (by simp)];have:=sJ i m h;simp only[aq,bI];lia
theorem K6(x:Rat):∀(l:List (List Rat)) (acc:List Rat),valueAt (l.foldl addPoly acc) x=valueAt acc x+(l.map fun p=>valueAt p x).sum
 |[],acc=>by
  show valueAt acc x=valueAt acc x+0;grind
 |p::l,acc=>by
  show valueAt (l.foldl addPoly (addPoly acc p)) x=_;rw[K6 x l,qv,aJ,b6];grind
theorem jt:∀(u v:List Rat),(addPoly u v).length=max u.length v.length:=by
 intro u;induction u with
 |nil=>
  intro v;show v.length=max 0 v.length;lia
 |cons x u ih2=>
  intro v;cases v with
  |nil=>
   show(x::u).length=max (x::u).length 0;lia
  |cons y v=>
   show(addPoly u v).length+1=max (u.length+1) (v.length+1);rw[ih2 v];lia
theorem HC(m:Nat):∀(l:List (List Rat)) (acc:List Rat),acc.length<=m->(∀p∈l,p.length<=m)->(l.foldl addPoly acc).length<=m
 |[],_,h,_=>h
 |p::l,acc,h,hl=>by
  refine HC m l (addPoly acc p) ?_ fun q hq=>hl q (ak _ hq)
  rw[jt];have:=hl p ax;lia
theorem tW(l:List Rat):(Wh.through l).length<=l.length:=by
 unfold Wh.through;refine aw (HB _) (HC l.length _ _ (aL _) fun p hp=> ?_);obtain⟨y,hy,rfl⟩:=aN.mp hp;have hi:y.2<l.length:=by
  have:=List.mem_zipIdx hy;lia
 unfold Wh.scalePoly;rw[lMp,Mf hi];exact ai _
theorem B1:∀(l:List Rat) (off k:Nat) (B:Nat->Rat),off<=k->k<off+l.length->(∀i,off<=i->i<off+l.length->i≠k->B i=0)->((l.zipIdx off).map fun y:Rat×Nat=>y.1*B y.2).sum=l.getD (k - off) 0*B k
 |[],off,k,B,h1,h2,_=>by simp at h2;lia
 |a::l,off,k,B,h1,h2,hB=>by
  rw[List.zipIdx_cons,aJ,b6];by_cases q:k=off
  ·subst q;have z:((l.zipIdx (k+1)).map fun y:Rat×Nat=>y.1*B y.2).sum=0:=by
    have all:∀(r:List (Rat×Nat)),(∀y∈r,B y.2=0)->(r.map fun y:Rat×Nat=>y.1*B y.2).sum=0:=by
     intro r;induction r with
     |nil=>intro _;rfl
     |cons y r ih=>
      intro h;rw[aJ,b6,h y ax,ih fun z hz=>h z (ak _ hz)];grind
    refine all _ fun y hy=> ?_
    have m:=List.mem_zipIdx hy;exact hB y.2 (by lia) (by simp only[aq];lia) (by lia)
   rw[z];simp only[cf];show a*B k+0=a*B k;grind
  ·have ih:=B1 l (off+1) k B (by lia) (by simp only[aq] at h2;lia) fun i h3 h4 h5=>hB i (by lia) (by simp only[aq];lia) h5
   rw[ih,hB off (ai _) (by simp only[aq];lia) (bK q)];have e:k - off=(k - (off+1))+1:=by lia
   rw[e];show a*0+_=l.getD (k - (off+1)) 0*B k;grind
theorem JA(l:List Rat)(k:Nat)(hk:k<l.length):valueAt (Wh.through l) (k:Rat)=l.getD k 0:=by
 unfold Wh.through;rw[Bn,K6,aQ];have e:(l.zipIdx.map ((fun p:List Rat=>valueAt p (k:Rat)) ∘ fun y:Rat×Nat=>scalePoly y.1 (Wh.basis l.length y.2)))=l.zipIdx.map fun y:Rat×Nat=>y.1*valueAt (Wh.basis l.length y.2) (k:Rat):=by
  refine aY fun y _=> ?_
  show valueAt (scalePoly _ _) _=_;rw[iW]
 rw[e,B1 l 0 k (fun i=>valueAt (Wh.basis l.length i) (k:Rat)) (aL _) (by lia) fun i _ hi hik=>by
  rw[BX];exact BZ i k (bK hik) _ _ (aT.mpr hk)]
 rw[BX,Ew,iq,FN];simp only[Nat.sub_zero];grind
noncomputable def Dg (f:PF) (d:Nat):Prop:=∃l:List Rat,fj l=f/\l.length<=d
theorem B2(ys:List Rat)(f:PF)(m:Nat)(hm:ys.length=m)(hd:Dg f m)(h:∀i:Nat,i<m->f.f (i:Rat)=ys.getD i 0):fj (Wh.through ys)=f:=by
 obtain⟨l,rfl,hl⟩:=hd;refine PF.ext fun x=> ?_
 have z:yU (addPoly (Wh.through ys) (scalePoly (-1) l)):=by
  refine Em m _ ?_ fun i hi=> ?_
  ·rw[jt];have:=tW ys;have e:(scalePoly (-1) l).length=l.length:=by unfold Wh.scalePoly;rw[lMp]
   lia
  ·rw[qv,iW,JA ys i (by lia),<-h i hi,K2];grind
 have e:=z.ev x;rw[qv,iW] at e;rw[K2,K2];grind
theorem Dg.mono{f:PF}{d e:Nat}(h:Dg f d)(hde:d<=e):Dg f e:=let ⟨l,a,b⟩:=h;⟨l,a,aw b hde⟩
theorem Dg.add{f g:PF}{d:Nat}(hf:Dg f d)(hg:Dg g d):Dg (f+g) d:=by
 obtain⟨l,rfl,hl⟩:=hf;obtain⟨m,rfl,hm⟩:=hg;exact⟨addPoly l m,PF.ext fun x=>qv l m x,by rw[jt];lia⟩
theorem Dg.smul{f:PF}{d:Nat}(c:Rat)(hf:Dg f d):Dg (PF.const c*f) d:=by
 obtain⟨l,rfl,hl⟩:=hf;exact⟨scalePoly c l,PF.ext fun x=>iW c l x,by unfold Wh.scalePoly;rw[lMp];exact hl⟩
theorem xh(d:Nat):Dg 0 d:=⟨[],rfl,aL _⟩
theorem HD(c:Rat):Dg (PF.const c) 1:=⟨[c],PF.ext fun x=>by
 show c+x*0=c;grind,ai _⟩
theorem Am:∀(p q:List Rat),p≠[]->q≠[]->(mulPoly p q).length=p.length+q.length - 1
 |[],_,h,_=>absurd rfl h
 |a::[],q,_,hq=>by
  show(addPoly (scalePoly a q) [0]).length=_;have:0<q.length:=aD.mpr hq;rw[jt];unfold Wh.scalePoly;rw[lMp];simp only[aq,bI];lia
 |a::b::p,q,_,hq=>by
  have ih:=Am (b::p) q (by simp) hq;show(addPoly (scalePoly a q) (0::mulPoly (b::p) q)).length=_;have:0<q.length:=aD.mpr hq;rw[jt,aq,ih];unfold Wh.scalePoly;rw[lMp];simp only[aq];lia
theorem Dg.mul{f g:PF}{d e:Nat}(hf:Dg f (d+1))(hg:Dg g (e+1)):Dg (f*g) (d+e+1):=by
 obtain⟨l,rfl,hl⟩:=hf;obtain⟨m,rfl,hm⟩:=hg;refine⟨mulPoly l m,PF.ext fun x=>yT l m x,?_⟩;by_cases q:l=[]
 ·subst q;exact aL _
 ·by_cases q2:m=[]
  ·subst q2;have:∀l:List Rat,(mulPoly l []).length<=l.length:=by
    intro l;induction l with
    |nil=>exact ai _
    |cons a l ih=>
     show(addPoly (scalePoly a []) (0::mulPoly l [])).length<=_;rw[jt];simp only[Wh.scalePoly,List.map_nil,bI,aq];lia
   have:=this l;lia
  ·rw[Am l m q q2];lia
theorem K7(d:Nat):∀(n:Nat) {f:Nat->PF},(∀i,i<n->Dg (f i) d)->Dg (eh n f) d
 |0,_,_=>xh d
 |n+1,f,h=>(K7 d n fun i hi=>h i (by lia)).add (h n (by lia))
noncomputable def sumNat:Nat->(Nat->Nat)->Nat
 |0,_=>0
 |n+1,f=>sumNat n f+f n
theorem An:∀(n i:Nat) (f:Nat->Nat),i<n+1->sumNat n (fun a=>f (skip i a))+f i=sumNat (n+1) f
 |0,i,f,h=>by
  have:i=0:=by lia
  subst this;rfl
 |n+1,i,f,h=>by
  by_cases q:i=n+1
  ·subst q;have e:∀m,m<=n+1->sumNat m (fun a=>f (skip (n+1) a))=sumNat m f:=by
    intro m;induction m with
    |zero=>intro _;rfl
    |succ m ih=>
     intro hm;show sumNat m (fun a=>f (skip (n+1) a))+f (skip (n+1) m)=sumNat m f+f m;rw[ih (by lia)];have:skip (n+1) m=m:=by unfold skip;rw[ah (by lia)]
     rw[this]
   rw[e (n+1) (ai _)];rfl
  ·have ih:=An n i f (by lia);show sumNat n (fun a=>f (skip i a))+f (skip i n)+f i=sumNat (n+1) f+f (n+1);have:skip i n=n+1:=by unfold skip;rw[af (by lia)]
   rw[this,<-ih];lia
theorem FW:∀(n:Nat) {A:Nat->Nat->PF} {d:Nat->Nat},(∀i j,i<n->j<n->Dg (A i j) (d i+1))->Dg (det n A) (sumNat n d+1)
 |0,_,_,_=>HD 1
 |n+1,A,d,h=>by
  rw[gk];refine K7 _ _ fun i hi=> ?_
  have hs:(sg i:PF)=PF.const (sg i):=PF.ext fun x=>Ue x i
  rw[hs];refine Dg.smul _ ?_;have m:=(h i 0 hi (by lia)).mul (FW n (A:=del i A) (d:=fun a=>d (skip i a)) fun a b ha hb=>h _ _ (w4 ha) (by lia));refine m.mono ?_;have:=An n i d hi;lia
theorem nQ(a b:Rat):PF.const (a*b)=PF.const a*PF.const b:=rfl
theorem fX:PF.const 1=1:=rfl
theorem B3:PF.const 0=0:=rfl
theorem jT{c:Rat}(h:c≠0):PF.const c≠0:=fun e=>h (by
 have:(PF.const c).f 0=(0:PF).f 0:=by rw[e]
 exact this)
theorem qW{c:Rat}(h:c≠0):PF.const c*PF.const (1 / c)=1:=PF.ext fun x=>by
 show c*(1 / c)=1;grind
theorem rE{z:Int}(h:z≠0):(z:Rat)≠0:=fun e=>h (by exact_mod_cast e)
theorem K8(a:Rat):a*(a.den:Rat)=(a.num:Rat):=by
 have h:=Rat.num_divInt_den a;rw[Rat.divInt_eq_div] at h;have hd:((a.den:Int):Rat)≠0:=by
  rw[bq];intro e;have:a.den=0:=by exact_mod_cast e
  exact a.den_nz this
 rw[bq] at h hd;have:=Rat.div_mul_cancel (a:=(a.num:Rat)) hd;rw[h] at this;exact this
theorem clear_list:∀l:List Rat,∃(M:Nat) (R:dQ),0<M/\PF.const (M:Rat)*fj l=dF R
 |[]=>⟨1,[],by lia,PF.ext fun x=>by
   show((1:Nat):Rat)*0=0;grind⟩
 |a::l=>by
  obtain⟨M,R,hM,e⟩:=clear_list l;refine⟨M*a.den,(a.num*(M:Int))::R.map fun y=>(a.den:Int)*y,Nat.mul_pos hM (Rat.den_pos a),PF.ext fun x=> ?_⟩;have e1:(M:Rat)*valueAt l x=(dF R).f x:=by
   have:=congrArg (fun q:PF=>q.f x) e;exact this
  rw[e9,Bl,<-e1];show((M*a.den:Nat):Rat)*(a+x*valueAt l x)=((a.num*(M:Int):Int):Rat)+x*(((a.den:Int):Rat)*((M:Rat)*valueAt l x));have e2:a*(a.den:Rat)=(a.num:Rat):=K8 a;rw[Rat.natCast_mul,Rat.intCast_mul,bq,bq,<-e2];grind
theorem uV(f:PF):∃(M:Nat) (R:dQ),0<M/\Trim R/\PF.const (M:Rat)*f=dF R:=by
 obtain⟨l,hl⟩:=f.h;obtain⟨M,R,hM,e⟩:=clear_list l;refine⟨M,Jv R,hM,oe R,?_⟩;rw[w9,<-e];exact PF.ext fun x=>by
  show(M:Rat)*f.f x=(M:Rat)*valueAt l x;rw[hl]
theorem vL{M:Nat}(h:0<M):(M:Rat)≠0:=fun e=>by
 have:M=0:=by exact_mod_cast e
 lia
theorem vM{l:dQ}(t:Trim l){c:Rat}(hc:c≠0){e:Nat}(h:Dg (PF.const c*dF l) e):l.length<=e:=by
 obtain⟨m,hm,hle⟩:=h;refine aw (cR fun lt=> ?_) hle;have hl0:l≠[]:=fun q=>by rw[q] at lt;exact absurd lt (by simp)
 have ec:=En (p:=m) (q:=scalePoly c (rl l)) (fun x=>by
  have:=congrArg (fun q:PF=>q.f x) hm;rw[iW];exact this) (l.length - 1)
 rw[nO,FP,gDe,aE (by lia)] at ec;have:=ft.mp t hl0;have e2:c*((l.getD (l.length - 1) 0:Int):Rat)=0:=ec.symm;rcases bX.mp e2 with q |q
 ·exact hc q
 ·exact this (by exact_mod_cast q)
theorem FX(l:dQ):Dg (dF l) l.length:=⟨rl l,rfl,by unfold rl;rw[lMp];exact ai _⟩
theorem B4{l:dQ}(t:Trim l)(hl:l≠[]){f:PF}(hf:f≠0){c:Rat}(hc:c≠0){e:Nat}(h:Dg (PF.const c*(f*dF l)) e):l.length<=e:=by
 obtain⟨M,R,hM,tR,eR⟩:=uV f;have hR:R≠[]:=fun q=>by
  rw[q] at eR;exact PF.yV (jT (vL hM)) hf eR
 have d:Dg (PF.const c*dF (gX R l)) e:=by
  have e1:PF.const c*dF (gX R l)=PF.const (M:Rat)*(PF.const c*(f*dF l)):=by
   rw[jR,<-eR];grind
  rw[e1];exact h.smul _
 have:=vM (qV tR t) hc d;rw[xc hR hl] at this;have:0<R.length:=aD.mpr hR;lia
noncomputable def fL (l:dQ):Nat:=l.foldl (fun g x=>Nat.gcd g x.natAbs) 0
theorem jX(l:dQ):cont l=(fL l:Int):=by
 have key:∀(l:dQ) (g:Nat),l.foldl rB (g:Int)=(l.foldl (fun(g:Nat) (x:Int)=>Nat.gcd g x.natAbs) g:Nat):=by
  intro l;induction l with
  |nil=>intro g;rfl
  |cons a l ih=>
   intro g;show l.foldl rB (rB (g:Int) a)=(l.foldl _ (Nat.gcd g a.natAbs):Nat);exact ih (Nat.gcd g a.natAbs)
 exact key l 0
theorem xi:∀(l:dQ) (g:Nat),l.foldl (fun(g:Nat) (x:Int)=>Nat.gcd g x.natAbs) g=Nat.gcd g (fL l)
 |[],g=>by
  show g=Nat.gcd g 0;rw[Nat.gcd_zero_right]
 |a::l,g=>by
  show l.foldl _ (Nat.gcd g a.natAbs)=Nat.gcd g (l.foldl _ (Nat.gcd 0 a.natAbs));rw[xi l,xi l,Nat.gcd_zero_left,Nat.gcd_assoc]
theorem qX(a:Int)(l:dQ):fL (a::l)=Nat.gcd a.natAbs (fL l):=by
 show l.foldl _ (Nat.gcd 0 a.natAbs)=_;rw[xi,Nat.gcd_zero_left]
theorem tZ(l m:dQ):fL (l ++ m)=Nat.gcd (fL l) (fL m):=by
 show(l ++ m).foldl _ 0=_;rw[cN,xi];rfl
theorem mM{l:dQ}{x:Int}(h:x∈l):(fL l:Int) ∣ x:=by
 induction l with
 |nil=>cases h
 |cons a l ih=>
  rw[qX];rcases aH.mp h with e |e
  ·subst e;exact cj (bN.mpr (Nat.gcd_dvd_left _ _)) (Int.natAbs_dvd_self)
  ·exact cj (bN.mpr (Nat.gcd_dvd_right _ _)) (ih e)
theorem HE{l:dQ}{d:Nat}(h:∀x∈l,(d:Int) ∣ x):d ∣ fL l:=by
 induction l with
 |nil=>exact Nat.dvd_zero d
 |cons a l ih=>
  rw[qX];exact Nat.dvd_gcd (cH.mp (h a ax)) (ih fun x hx=>h x (ak _ hx))
theorem xk{l:dQ}{d c:Nat}(h:∀x∈l,(d:Int) ∣ (c:Int)*x):d ∣ c*fL l:=by
 induction l with
 |nil=>exact Nat.dvd_zero d
 |cons a l ih=>
  rw[qX,<-Nat.gcd_mul_left];refine Nat.dvd_gcd ?_ (ih fun x hx=>h x (ak _ hx));have:=cH.mp (h a ax)
  rwa [bP,bH] at this
theorem ju{l:dQ}(t:Trim l)(h:l≠[]):0<fL l:=by
 refine Nat.pos_of_ne_zero fun z=>ft.mp t h ?_
 have m:lc l∈l:=by
  unfold lc;have:0<l.length:=aD.mpr h;rw[gDe,aa (by lia)];exact bM _
 have d:=mM m;rw[z] at d;simpa using d
theorem gO(l:dQ):(prim l).length=l.length:=by unfold prim;simp
theorem rF(l:dQ):(prim l).map (fun y=>cont l*y)=l:=by
 unfold prim;rw[aQ];have:∀x∈l,((fun y=>cont l*y) ∘ fun x=>x.fdiv (cont l)) x=x:=fun x hx=>by
  show cont l*x.fdiv (cont l)=x;have d:cont l ∣ x:=by rw[jX];exact mM hx
  exact Int.mul_fdiv_cancel' d
 rw[aY this,cS]
theorem B5(l:dQ):PF.const ((cont l:Int):Rat)*dF (prim l)=dF l:=by
 rw[<-g8,rF]
theorem iw{l:dQ}(t:Trim l):Trim (prim l):=by
 rw[ft];intro h z;have hl:l≠[]:=fun e=>h (by rw[e];rfl)
 refine ft.mp t hl ?_;have e:=rF l;have:lc l=cont l*lc (prim l):=by
  have e2:lc ((prim l).map fun y=>cont l*y)=cont l*lc (prim l):=by
   unfold lc;rw[iP _ (by lia),lMp]
  rw[e] at e2;exact e2
 rw[this,z];lia
theorem B6{l:dQ}(t:Trim l)(h:l≠[]):fL (prim l)=1:=by
 have p:=ju t h;have d:fL l*fL (prim l) ∣ fL l:=HE fun x hx=>by
  rw[<-rF l] at hx;obtain⟨y,hy,rfl⟩:=aN.mp hx;rw[jX,Int.natCast_mul];exact Int.mul_dvd_mul_left _ (mM hy)
 have:=Nat.le_of_dvd p d;have q:0<fL (prim l):=ju (iw t) (fun e=>h (by have:=congrArg List.length e;rw[gO] at this;exact bc.mp (by simpa using this)));rcases Nat.lt_or_ge (fL (prim l)) 2 with r |r
 ·lia
 ·have:fL l*2<=fL l*fL (prim l):=b9 _ r;lia
noncomputable def Bo (p:Nat):Prop:=2<=p/\∀d,d ∣ p->d=1\/d=p
theorem FY:∀(n:Nat),2<=n->∃p,Bo p/\p ∣ n:=by
 intro n;induction n using Nat.strongRecOn with
 |ind n ih=>
  intro h;by_cases q:∃d,d ∣ n/\d≠1/\d≠n
  ·obtain⟨d,hd,h1,h2⟩:=q;have hd0:0<d:=Nat.pos_of_dvd_of_pos hd (by lia);have hdn:d<=n:=Nat.le_of_dvd (by lia) hd;obtain⟨p,hp,hpd⟩:=ih d (by lia) (by lia);exact⟨p,hp,Nat.dvd_trans hpd hd⟩
  ·refine⟨n,⟨h,fun d hd=> ?_⟩,Nat.dvd_refl n⟩;by_cases h1:d=1
   ·exact .inl h1
   ·by_cases h2:d=n
    ·exact .inr h2
    ·exact absurd ⟨d,hd,h1,h2⟩ q
theorem Bo.mul{p:Nat}(hp:Bo p){a b:Int}(h:(p:Int) ∣ a*b):(p:Int) ∣ a\/(p:Int) ∣ b:=by
 rw[cH,bP] at h;rcases hp.2 (Nat.gcd p a.natAbs) (Nat.gcd_dvd_left _ _) with g |g
 ·exact .inr (cH.mpr (Nat.Coprime.dvd_of_dvd_mul_left g h))
 ·refine .inl (cH.mpr ?_);rw[<-g];exact Nat.gcd_dvd_right _ _
noncomputable def B7 (p:Int) (l:dQ):Prop:=∀i,p ∣ l.getD i 0
theorem B7.mem{p:Int}{l:dQ}(h:B7 p l):∀x∈l,p ∣ x:=fun x hx=>by
 obtain⟨i,hi,e⟩:=aW hx;have:=h i;rw[gDe,aa hi] at this;simpa [e] using this
theorem vq(l m:dQ)(i:Nat):(mulL l m).getD i 0=(mulL m l).getD i 0:=qT (by rw[jr,jr];grind) i
theorem qx(a:Int)(l m:dQ)(i:Nat):(mulL (a::l) m).getD i 0=a*m.getD i 0+(if i=0 then 0 else(mulL l m).getD (i - 1) 0):=by
 show(iJ (m.map fun y=>a*y) (0::mulL l m)).getD i 0=_;rw[iX,iP _ (by lia)];cases i with
 |zero=>simp
 |succ i=>simp
theorem ue{p:Nat}(hp:Bo p):∀(n:Nat) (R g:dQ),R.length+g.length<=n->B7 p (mulL R g)->B7 p R\/B7 p g
 |n,[],g,_,_=> .inl fun i=>by simp
 |n,R,[],_,_=> .inr fun i=>by simp
 |0,a::R,b::g,hn,_=>by simp at hn
 |n+1,a::R,b::g,hn,h=>by
  simp only[aq] at hn;have h0:=h 0;rw[qx] at h0;have h0':(p:Int) ∣ a*b:=by simpa using h0
  rcases hp.mul h0' with pa |pb
  ·have d:B7 p (mulL R (b::g)):=fun i=>by
    have hi:=h (i+1);rw[qx,af (by lia)] at hi;have e:i+1 - 1=i:=by lia
    rw[e] at hi;exact(Int.dvd_add_right (Int.dvd_mul_of_dvd_left pa)).mp hi
   rcases ue hp n R (b::g) (by simp only[aq];lia) d with r |r
   ·refine .inl fun i=> ?_
    cases i with
    |zero=>exact pa
    |succ i=>exact r i
   ·exact .inr r
  ·have d:B7 p (mulL (a::R) g):=fun i=>by
    have hi:=h (i+1);rw[vq,qx,af (by lia)] at hi;have e:i+1 - 1=i:=by lia
    rw[e] at hi;rw[vq];exact(Int.dvd_add_right (Int.dvd_mul_of_dvd_left pb)).mp hi
   rcases ue hp n (a::R) g (by simp only[aq];lia) d with r |r
   ·exact .inl r
   ·refine .inr fun i=> ?_
    cases i with
    |zero=>exact pb
    |succ i=>exact r i
theorem Ug{g:dQ}(hg:fL g=1):∀(d:Nat),0<d->∀R:dQ,B7 (d:Int) (mulL R g)->B7 (d:Int) R:=by
 intro d;induction d using Nat.strongRecOn with
 |ind d ih=>
  intro hd R h;by_cases h1:d=1
  ·subst h1;exact fun i=>Int.one_dvd _
  ·obtain⟨p,hp,hpd⟩:=FY d (by lia);obtain⟨e,rfl⟩:=hpd;have he:0<e:=Nat.pos_of_mul_pos_left hd;have hp2:=hp.1;have hR:B7 p R:=by
    rcases ue hp _ R g (ai _) (fun i=>cj (by rw[Int.natCast_mul];exact Int.dvd_mul_right _ _) (h i)) with r |r
    ·exact r
    ·have:=HE (l:=g) (d:=p) r.mem;rw[hg] at this;have:=Nat.le_of_dvd (by lia) this;lia
   have eS:(R.map fun x=>x / (p:Int)).map (fun y=>(p:Int)*y)=R:=by
    rw[aQ];have:∀x∈R,((fun y=>(p:Int)*y) ∘ fun x=>x / (p:Int)) x=x:=fun x hx=>Int.mul_ediv_cancel' (hR.mem x hx)
    rw[aY this,cS]
   generalize (R.map fun x=>x / (p:Int))=S at eS;have hp0:(p:Int)≠0:=by lia
   have ge:∀i,(mulL R g).getD i 0=(p:Int)*(mulL S g).getD i 0:=fun i=>by
    rw[<-eS];have:dF (mulL (S.map fun y=>(p:Int)*y) g)=dF ((mulL S g).map fun y=>(p:Int)*y):=by
     rw[jr,g8,g8,jr];grind
    rw[qT this,iP _ (by lia)]
   have hS:=ih e (by
    have:e*1<e*p:=Nat.mul_lt_mul_of_pos_left (by lia) he;rw[Nat.mul_comm p e];lia) he S fun i=>by
    have:=h i;rw[ge,Int.natCast_mul] at this;exact Int.dvd_of_mul_dvd_mul_left hp0 this
   intro i;rw[<-eS,iP _ (by lia),Int.natCast_mul];exact Int.mul_dvd_mul_left _ (hS i)
theorem nR{T g:dQ}(hg:fL g=1){f:PF}(h:dF T=f*dF g):∃A:dQ,Trim A/\dF A=f:=by
 obtain⟨M,R,hM,tR,eR⟩:=uV f;have d:B7 (M:Int) (mulL R g):=fun i=>by
  have:dF (mulL R g)=dF (T.map fun y=>(M:Int)*y):=by
   rw[jr,g8,<-eR,h];have:((M:Int):Rat)=(M:Rat):=bq M;rw[this];grind
  rw[qT this,iP _ (by lia)];exact Int.dvd_mul_right _ _
 have dR:=Ug hg M hM R d;have eS:(R.map fun x=>x / (M:Int)).map (fun y=>(M:Int)*y)=R:=by
  rw[aQ];have:∀x∈R,((fun y=>(M:Int)*y) ∘ fun x=>x / (M:Int)) x=x:=fun x hx=>Int.mul_ediv_cancel' (dR.mem x hx)
  rw[aY this,cS]
 refine⟨Jv (R.map fun x=>x / (M:Int)),oe _,?_⟩;rw[w9];have e:=g8 (M:Int) (R.map fun x=>x / (M:Int));rw[eS,<-eR] at e;have:((M:Int):Rat)=(M:Rat):=bq M;rw[this] at e;exact(PF.w6 (jT (vL hM)) _ _ e).symm
theorem FZ(k:Nat)(l:dQ)(x:Rat):(dF (List.replicate k 0 ++ l)).f x=x^k*(dF l).f x:=by
 induction k with
 |zero=>
  show(dF l).f x=x^0*_;grind
 |succ k ih=>
  rw[bR,List.cons_append,e9,ih];have:x^(k+1)=x^k*x:=Rat.pow_succ x k;rw[this];grind
noncomputable def vO (k:Nat):PF:=dF (List.replicate k 0 ++ [1])
theorem Mh(k:Nat)(l:dQ):dF (List.replicate k 0 ++ l)=vO k*dF l:=PF.ext fun x=>by
 rw[FZ];show _=(dF (List.replicate k 0 ++ [1])).f x*_;rw[FZ];show _=x^k*(((1:Int):Rat)+x*0)*_;grind
theorem K9(k:Nat)(l:dQ)(i:Nat)(h:k<=i):(List.replicate k 0 ++ l).getD i 0=l.getD (i - k) 0:=by
 rw[gDe,bw (by rw[aP];lia),aP,<-gDe]
theorem AS(c:dQ)(n:Nat)(h:c.getD n 0=0):qw c (n+1)<=n:=by
 show(if c.getD n 0=0 then qw c n else n+1)<=n;rw[ah h];exact Bi c n
theorem B8{rest right:dQ}(h:right.length<=rest.length)(hr:right≠[]):
  PF.const ((lc right:Int):Rat)*dF rest=(PF.const ((lc rest:Int):Rat)*vO (rest.length - right.length))*dF right+dF (lC rest right)/\(lC rest right).length<rest.length/\Trim (lC rest right):=by
 have pr:0<right.length:=aD.mpr hr;refine⟨?_,?_,oe _⟩
 ·unfold lC;rw[qU,g8,Mh,g8];grind
 ·unfold lC tQ BP;rw[Bj];have ll:(iJ (rest.map fun x=>lc right*x) (Eo (List.replicate (rest.length - right.length) 0 ++ right.map fun y=>lc rest*y))).length=(rest.length - 1)+1:=by
   rw[jq,uR,ay,aP,lMp,lMp];lia
  rw[ll];refine Nat.lt_of_le_of_lt (AS _ _ ?_) (by lia);rw[iX,iP _ (by lia)];unfold Eo;rw[iP _ (by lia),K9 _ _ _ (by lia),iP _ (by lia)];have e:rest.length - 1 - (rest.length - right.length)=right.length - 1:=by lia
  rw[e];show lc right*lc rest+ -(lc rest*lc right)=0;rw[Int.mul_comm];lia
theorem xm{right:dQ}(hr:right≠[])(tr:Trim right):∀(f:Nat) (rest:dQ),Trim rest->rest.length<f->∃(k:Rat) (q:PF),k≠0/\PF.const k*dF rest=q*dF right+dF (yW f rest right)/\(yW f rest right).length<right.length/\Trim (yW f rest right)
 |0,rest,_,h=>by lia
 |f+1,rest,t,h=>by
  unfold yW;by_cases q:rest.length<right.length
  ·rw[ah q];exact⟨1,0,by decide,by rw[fX];grind,q,t⟩
  ·rw[af q];obtain⟨e1,e2,e3⟩:=B8 (rest:=rest) (right:=right) (by lia) hr;obtain⟨k,u,hk,e4,e5,e6⟩:=xm hr tr f (lC rest right) e3 (by lia);refine⟨k*((lc right:Int):Rat),PF.const k*(PF.const ((lc rest:Int):Rat)*vO (rest.length - right.length))+u,?_,?_,e5,e6⟩
   ·intro z;rcases bX.mp z with z |z
    ·exact hk z
    ·exact rE (ft.mp tr hr) z
   ·rw[nQ];have:PF.const k*PF.const ((lc right:Int):Rat)*dF rest=PF.const k*(PF.const ((lc right:Int):Rat)*dF rest):=by grind
    rw[this,e1];have:PF.const k*((PF.const ((lc rest:Int):Rat)*vO (rest.length - right.length))*dF right+dF (lC rest right))=PF.const k*((PF.const ((lc rest:Int):Rat)*vO (rest.length - right.length))*dF right)+PF.const k*dF (lC rest right):=by grind
    rw[this,e4];grind
structure Span(T B l s:PF):Prop where
 Qq:∃p q:PF,l=p*T+q*B
 Uh:∃p q:PF,s=p*T+q*B
 Si:∃p q:PF,T=p*l+q*s
 Sj:∃p q:PF,B=p*l+q*s
theorem La{T B:PF}:∀(f:Nat) (l s:dQ),s.length<f->Trim l->Trim s->l≠[]->fL l=1->(s≠[]->fL s=1)->Span T B (dF l) (dF s)->Trim (AR f l s)/\AR f l s≠[]/\fL (AR f l s)=1/\(∃p q:PF,dF (AR f l s)=p*T+q*B)/\(∃p:PF,T=p*dF (AR f l s))/\∃p:PF,B=p*dF (AR f l s)
 |0,l,s,h,_,_,_,_,_,_=>by lia
 |f+1,l,s,h,tl,ts,hl,gl,gs,S=>by
  unfold AR;by_cases q:s=[]
  ·rw[ah q];subst q;obtain⟨p1,q1,e1⟩:=S.Si;obtain⟨p2,q2,e2⟩:=S.Sj;have z:dF []=0:=rfl;exact⟨tl,hl,gl,S.Qq,⟨p1,by rw[e1,z];grind⟩,p2,by rw[e2,z];grind⟩
  ·rw[af q];obtain⟨k,u,hk,e,hlen,tw⟩:=xm q ts (l.length+1) l tl (by lia);have pr:=B5 (gN l s);change PF.const k*dF l=u*dF s+dF (gN l s) at e;change (gN l s).length<s.length at hlen;change Trim (gN l s) at tw;obtain⟨lp,lq,el⟩:=S.Qq;obtain⟨sp,sq,es⟩:=S.Uh;obtain⟨Tp,Tq,eT⟩:=S.Si;obtain⟨Bp,Bq,eB⟩:=S.Sj;have ki:=qW hk;have el2:dF l=(PF.const (1 / k)*u)*dF s+(PF.const (1 / k)*PF.const ((cont (gN l s):Int):Rat))*dF (prim (gN l s)):=by
    have:dF l=PF.const (1 / k)*(PF.const k*dF l):=by grind
    rw[this,e,<-pr];grind
   refine La f s (prim (gN l s)) (by rw[gO];lia) ts (iw tw) q (gs q) (fun hn=>B6 tw fun z=>hn (by rw[z];rfl)) ⟨⟨sp,sq,es⟩,?_,?_,?_⟩
   ·by_cases z:gN l s=[]
    ·refine⟨0,0,?_⟩;rw[z];show(0:PF)=_;grind
    ·have hc:((cont (gN l s):Int):Rat)≠0:=rE (by
      rw[jX];have:=ju tw z;lia)
     have ci:=qW hc;refine⟨PF.const (1 / ((cont (gN l s):Int):Rat))*(PF.const k*lp - u*sp),PF.const (1 / ((cont (gN l s):Int):Rat))*(PF.const k*lq - u*sq),?_⟩;have e2:dF (prim (gN l s))=PF.const (1 / ((cont (gN l s):Int):Rat))*dF (gN l s):=by rw[<-pr];grind
     have e3:dF (gN l s)=PF.const k*dF l - u*dF s:=by rw[e];grind
     rw[e2,e3,el,es];grind
   ·refine⟨Tp*(PF.const (1 / k)*u)+Tq,Tp*(PF.const (1 / k)*PF.const ((cont (gN l s):Int):Rat)),?_⟩;have:Tp*dF l+Tq*dF s=Tp*((PF.const (1 / k)*u)*dF s+(PF.const (1 / k)*PF.const ((cont (gN l s):Int):Rat))*dF (prim (gN l s)))+Tq*dF s:=by rw[<-el2]
    rw[eT,this];grind
   ·refine⟨Bp*(PF.const (1 / k)*u)+Bq,Bp*(PF.const (1 / k)*PF.const ((cont (gN l s):Int):Rat)),?_⟩;have:Bp*dF l+Bq*dF s=Bp*((PF.const (1 / k)*u)*dF s+(PF.const (1 / k)*PF.const ((cont (gN l s):Int):Rat))*dF (prim (gN l s)))+Bq*dF s:=by rw[<-el2]
    rw[eB,this];grind
theorem JB{T B:dQ}(tT:Trim T)(tB:Trim B)(hT:T≠[]):
  Trim (pO T B)/\pO T B≠[]/\fL (pO T B)=1/\(∃p q:PF,dF (pO T B)=p*dF T+q*dF B)/\(∃p:PF,dF T=p*dF (pO T B))/\∃p:PF,dF B=p*dF (pO T B):=by
 have hc:((cont T:Int):Rat)≠0:=rE (by
  rw[jX];have:=ju tT hT;lia)
 have ci:=qW hc;have pT:=B5 T;have pB:=B5 B;refine La (B.length+1) (prim T) (prim B) (by rw[gO];lia) (iw tT) (iw tB) (fun e=>hT (by
  have:=congrArg List.length e;rw[gO] at this;exact bc.mp (by simpa using this))) (B6 tT hT) (fun hn=>B6 tB fun z=>hn (by rw[z];rfl)) ⟨⟨PF.const (1 / ((cont T:Int):Rat)),0,by rw[<-pT];grind⟩,?_,⟨PF.const ((cont T:Int):Rat),0,by rw[pT];grind⟩,⟨0,PF.const ((cont B:Int):Rat),by rw[pB];grind⟩⟩
 by_cases z:B=[]
 ·refine⟨0,0,?_⟩;rw[z];show(0:PF)=_;grind
 ·have hcB:((cont B:Int):Rat)≠0:=rE (by
   rw[jX];have:=ju tB z;lia)
  have ciB:=qW hcB;exact⟨0,PF.const (1 / ((cont B:Int):Rat)),by rw[<-pB];grind⟩
end c9
namespace c9
open Lean.Grind
open Wh (valueAt addPoly scalePoly mulPoly subPoly)
structure Canon(u d:PF)(N D:dQ):Prop where
 tN:Trim N
 tD:Trim D
 nN:N≠[]
 nD:D≠[]
 eq:dF N*d=u*dF D
 Sk:∃p q:PF,p*dF N+q*dF D=1
 gcd:Nat.gcd (fL N) (fL D)=1
 pos:0<lc D
theorem Canon.scale{u d:PF}{N D:dQ}(C:Canon u d N D)(c:PF):Canon (c*u) (c*d) N D:=
 ⟨C.tN,C.tD,C.nN,C.nD,by have:=C.eq;grind,C.Sk,C.gcd,C.pos⟩
theorem rG{l:dQ}(t:Trim l)(h:l≠[]):dF l≠0:=fun e=>h ((fI t).mp e)
theorem HF{D E:dQ}(tD:Trim D)(tE:Trim E)(hD:D≠[])(hE:E≠[]){r s:PF}(h1:dF E=r*dF D)(h2:dF D=s*dF E):∃(c:Int) (M:Nat),0<M/\c≠0/\PF.const (M:Rat)*dF E=PF.const ((c:Int):Rat)*dF D:=by
 obtain⟨M,R,hM,tR,eR⟩:=uV r;have hr:r≠0:=fun z=>rG tE hE (by rw[h1,z];grind)
 have hs:s≠0:=fun z=>rG tD hD (by rw[h2,z];grind)
 have hR:R≠[]:=fun q=>by
  rw[q] at eR;exact PF.yV (jT (vL hM)) hr eR
 have l0:Dg (PF.const 1*(s*dF E)) D.length:=by
  have:PF.const 1*(s*dF E)=dF D:=by rw[fX,<-h2];grind
  rw[this];exact FX D
 have l1:E.length<=D.length:=B4 tE hE hs (c:=1) (by decide) l0;have e3:dF (gX R D)=dF (E.map fun y=>(M:Int)*y):=by
  rw[jR,g8,<-eR,h1];have:((M:Int):Rat)=(M:Rat):=bq M;rw[this];grind
 have e4:gX R D=E.map fun y=>(M:Int)*y:=pN (qV tR tD) (Hu _ (by lia) (fun x hx=>Int.mul_ne_zero (by lia) hx) tE) e3
 have l2:=congrArg List.length e4;rw[xc hR hD,lMp] at l2;have pR:0<R.length:=aD.mpr hR;have pD:0<D.length:=aD.mpr hD;have lR:R.length=1:=by lia
 obtain⟨c,rfl⟩:=List.length_eq_one_iff.mp lR;refine⟨c,M,hM,fun z=> ?_,?_⟩
 ·have:=ft.mp tR (by simp);exact this (by rw[z];rfl)
 ·have e5:dF [c]=PF.const ((c:Int):Rat):=PF.ext fun x=>by
   rw[e9];show(c:Rat)+x*0=(c:Rat);grind
  rw[h1,<-e5,<-eR];grind
theorem B9{l m:dQ}{a b:Int}(h:PF.const ((a:Int):Rat)*dF l=PF.const ((b:Int):Rat)*dF m)(i:Nat):a*l.getD i 0=b*m.getD i 0:=by
 rw[<-g8,<-g8] at h;have e:=qT h i
 rwa [iP _ (by lia),iP _ (by lia)] at e
theorem xn{l m:dQ}{a b:Int}(h:PF.const ((a:Int):Rat)*dF l=PF.const ((b:Int):Rat)*dF m):∀x∈m,a ∣ b*x:=fun x hx=>by
 obtain⟨i,hi,e⟩:=aW hx;have:=B9 h i;rw[gDe (l:=m),aa hi] at this;simp only[cD,e] at this;exact⟨_,this.symm⟩
theorem Canon.unique{u d:PF}(hd:d≠0){N D N' D':dQ}(C:Canon u d N D)(C':Canon u d N' D'):N=N'/\D=D':=by
 have w6:=PF.w6 hd;have cross:dF N*dF D'=dF N' *dF D:=by
  refine w6 _ _ ?_;have e1:=C.eq;have e2:=C'.eq;have:d*(dF N*dF D')=(dF N*d)*dF D':=by grind
  rw[this,e1];have:d*(dF N' *dF D)=(dF N' *d)*dF D:=by grind
  rw[this,e2];grind
 obtain⟨p,q,b1⟩:=C.Sk;obtain⟨p',q',b2⟩:=C'.Sk;have h1:dF D'=(p*dF N' +q*dF D')*dF D:=by
  have:dF D'=dF D' *(p*dF N+q*dF D):=by rw[b1];grind
  rw[this];have:dF D' *(p*dF N+q*dF D)=p*(dF N*dF D')+q*dF D*dF D':=by grind
  rw[this,cross];grind
 have h2:dF D=(p' *dF N+q' *dF D)*dF D':=by
  have:dF D=dF D*(p' *dF N' +q' *dF D'):=by rw[b2];grind
  rw[this];have:dF D*(p' *dF N' +q' *dF D')=p' *(dF N' *dF D)+q' *dF D' *dF D:=by grind
  rw[this,<-cross];grind
 obtain⟨c,M,hM,hc,eD⟩:=HF C.tD C'.tD C.nD C'.nD h1 h2;have hMr:((M:Int):Rat)=(M:Rat):=bq M;rw[<-hMr] at eD;have eN:PF.const ((M:Int):Rat)*dF N'=PF.const ((c:Int):Rat)*dF N:=by
  refine PF.w6 (rG C.tD C.nD) _ _ ?_;have:dF D*(PF.const ((M:Int):Rat)*dF N')=PF.const ((M:Int):Rat)*(dF N' *dF D):=by grind
  rw[this,<-cross];have:PF.const ((M:Int):Rat)*(dF N*dF D')=dF N*(PF.const ((M:Int):Rat)*dF D'):=by grind
  rw[this,eD];grind
 have cn:0<c.natAbs:=Int.natAbs_pos.mpr hc;have d1:M ∣ c.natAbs:=by
  have g:M ∣ c.natAbs*fL (N ++ D):=xk fun x hx=>by
   have:(M:Int) ∣ c*x:=by
    rcases aK.mp hx with h |h
    ·exact xn eN x h
    ·exact xn eD x h
   rcases Int.natAbs_eq c with e |e
   ·rwa [<-e]
   ·rw[e,Int.neg_mul] at this;exact Int.dvd_neg.mp this
  rwa [tZ,C.gcd,Nat.mul_one] at g
 have d2:c.natAbs ∣ M:=by
  have g:c.natAbs ∣ M*fL (N' ++ D'):=xk fun x hx=>by
   have:c ∣ (M:Int)*x:=by
    rcases aK.mp hx with h |h
    ·exact xn eN.symm x h
    ·exact xn eD.symm x h
   exact Int.natAbs_dvd.mpr this
  rwa [tZ,C'.gcd,Nat.mul_one] at g
 have eM:M=c.natAbs:=Nat.dvd_antisymm d1 d2;have ln:D'.length=D.length:=by
  have a1:=vM C'.tD (c:=((M:Int):Rat)) (rE (by lia)) (e:=D.length) (by rw[eD];exact(FX D).smul _);have a2:=vM C.tD (c:=((c:Int):Rat)) (rE hc) (e:=D'.length) (by rw[<-eD];exact(FX D').smul _);lia
 have lcs:(M:Int)*lc D'=c*lc D:=by
  have:=B9 eD (D.length - 1);unfold lc;rw[ln];exact this
 have cpos:0<c:=by
  have h1:0<(M:Int)*lc D':=Int.mul_pos (by lia) C'.pos;rw[lcs] at h1;rcases Int.lt_trichotomy c 0 with h |h |h
  ·have:=Int.mul_neg_of_neg_of_pos h C.pos;lia
  ·exact absurd h hc
  ·exact h
 have eMc:(M:Int)=c:=by lia
 rw[eMc] at eD eN;exact⟨(pN C'.tN C.tN (PF.w6 (jT (rE hc)) _ _ eN)).symm,(pN C'.tD C.tD (PF.w6 (jT (rE hc)) _ _ eD)).symm⟩
theorem xo{l:dQ}{f:Int}(hf:f≠0)(h:∀x∈l,f ∣ x):(l.map fun x=>x.fdiv f).map (fun y=>f*y)=l:=by
 rw[aQ];have:∀x∈l,((fun y=>f*y) ∘ fun x=>x.fdiv f) x=x:=fun x hx=>Int.mul_fdiv_cancel' (h x hx)
 rw[aY this,cS]
theorem Ob(f:Int->Int)(h0:f 0=0)(l:dQ):lc (l.map f)=f (lc l):=by
 unfold lc;rw[iP f h0,lMp]
theorem Ca(f:Int){L:dQ}:∀{M:dQ},M.map (fun y=>f*y)=L->fL L=f.natAbs*fL M:=by
 intro M;induction M generalizing L with
 |nil=>intro e;rw[<-e];exact(Nat.mul_zero _).symm
 |cons a M ih=>intro e;rw[<-e,aJ,qX,qX,bP,ih rfl,Nat.gcd_mul_left]
theorem HG{u d:PF}{A B:dQ}(tA:Trim A)(tB:Trim B)(hA:A≠[])(hB:B≠[])(eq:dF A*d=u*dF B)(Sk:∃p q:PF,p*dF A+q*dF B=1){f:Int}(hf:f.natAbs=Nat.gcd (fL A) (fL B))(hs:0<f*lc B):
  Canon u d (A.map fun x=>x.fdiv f) (B.map fun x=>x.fdiv f):=by
 have pA:=ju tA hA;have f0:f≠0:=fun z=>by
  rw[z] at hs;simp at hs
 have dA:∀x∈A,f ∣ x:=fun x hx=>Int.natAbs_dvd.mp (by rw[hf];exact cj (bN.mpr (Nat.gcd_dvd_left _ _)) (mM hx))
 have dB:∀x∈B,f ∣ x:=fun x hx=>Int.natAbs_dvd.mp (by rw[hf];exact cj (bN.mpr (Nat.gcd_dvd_right _ _)) (mM hx))
 have sA:=xo f0 dA;have sB:=xo f0 dB;have e0:(0:Int).fdiv f=0:=Int.zero_fdiv f;generalize hN:(A.map fun x=>x.fdiv f)=N at sA⊢;generalize hD:(B.map fun x=>x.fdiv f)=D at sB⊢;have oA:dF A=PF.const ((f:Int):Rat)*dF N:=by rw[<-g8,sA]
 have oB:dF B=PF.const ((f:Int):Rat)*dF D:=by rw[<-g8,sB]
 have lA:lc A=f*lc N:=by rw[<-sA];exact Ob _ (by lia) N
 have lB:lc B=f*lc D:=by rw[<-sB];exact Ob _ (by lia) D
 have tN:Trim N:=ft.mpr fun _ z=>ft.mp tA hA (by rw[lA,z];lia)
 have tD:Trim D:=ft.mpr fun _ z=>ft.mp tB hB (by rw[lB,z];lia)
 have nN:N≠[]:=fun z=>hA (by rw[<-sA,z];rfl)
 have nD:D≠[]:=fun z=>hB (by rw[<-sB,z];rfl)
 refine⟨tN,tD,nN,nD,?_,?_,?_,?_⟩
 ·refine PF.w6 (jT (rE f0)) _ _ ?_;rw[oA,oB] at eq;grind
 ·obtain⟨p,q,b⟩:=Sk;rw[oA,oB] at b;exact⟨p*PF.const ((f:Int):Rat),q*PF.const ((f:Int):Rat),by rw[<-b];grind⟩
 ·
  have g1:=Ca f sA;have g2:=Ca f sB;rw[g1,g2,Nat.gcd_mul_left] at hf;have pf:0<f.natAbs:=Int.natAbs_pos.mpr f0;rcases Nat.lt_or_ge (Nat.gcd (fL N) (fL D)) 2 with r |r
  ·have:Nat.gcd (fL N) (fL D)≠0:=fun z=>by
    rw[z] at hf;lia
   lia
  ·have:f.natAbs*2<=f.natAbs*Nat.gcd (fL N) (fL D):=b9 _ r;lia
 ·rw[lB] at hs;have e:f*(f*lc D)=(f*f)*lc D:=by rw[Int.mul_assoc]
  rw[e] at hs;have ff:0<=f*f:=by
   rcases Int.le_total 0 f with h |h
   ·exact Int.mul_nonneg h h
   ·exact Int.mul_nonneg_of_nonpos_of_nonpos h h
  rcases Int.lt_or_le 0 (lc D) with h |h
  ·exact h
  ·have:=Int.mul_nonpos_of_nonneg_of_nonpos ff h;lia
theorem Oc{T B:dQ}(tT:Trim T)(tB:Trim B)(hT:T≠[])(hB:B≠[]):∃N D,Canon (dF T) (dF B) N D/\n8 T B=((N.length:Int)::N.reverse) ++ ((D.length:Int)::D.reverse):=by
 obtain⟨tg,hg,gg,⟨p,q,eg⟩,⟨a,ea⟩,⟨b,eb⟩⟩:=JB tT tB hT;obtain⟨A,tA,oA⟩:=nR gg ea;obtain⟨Bq,tBq,oB⟩:=nR gg eb;have dA:mX T (pO T B)=A:=pQ tT tg tA hg (by rw[oA];exact ea);have dB:mX B (pO T B)=Bq:=pQ tB tg tBq hg (by rw[oB];exact eb);have hA:A≠[]:=fun z=>hT ((fI tT).mp (by
  rw[ea,<-oA,z];show(0:PF)*_=0;grind))
 have hBq:Bq≠[]:=fun z=>hB ((fI tB).mp (by
  rw[eb,<-oB,z];show(0:PF)*_=0;grind))
 have Sk:∃p q:PF,p*dF A+q*dF Bq=1:=⟨p,q,by
  refine PF.w6 (rG tg hg) _ _ ?_;have e1:dF (pO T B)*(p*dF A+q*dF Bq)=p*(a*dF (pO T B))+q*(b*dF (pO T B)):=by rw[oA,oB];grind
  rw[e1,<-ea,<-eb,<-eg];grind⟩
 have eq:dF A*dF B=dF T*dF Bq:=by rw[ea,eb,oA,oB];grind
 have nlc:=ft.mp tBq hBq;have pB:=ju tBq hBq;have pg:0<Nat.gcd (fL A) (fL Bq):=c6 _ pB;have eg':rB (cont A) (cont Bq)=(Nat.gcd (fL A) (fL Bq):Int):=by
  unfold rB;rw[jX,jX,bH,bH]
 unfold n8;dsimp only;rw[af hT,dA,dB,eg'];generalize hf:(if lc Bq<0 then -(Nat.gcd (fL A) (fL Bq):Int) else(Nat.gcd (fL A) (fL Bq):Int))=f;have fn:f.natAbs=Nat.gcd (fL A) (fL Bq):=by
  rw[<-hf];split <;>lia
 have fs:0<f*lc Bq:=by
  rw[<-hf];split
  ·rename_i h;exact cV (by lia) h
  ·exact Int.mul_pos (by lia) (by lia)
 refine⟨_,_,HG tA tBq hA hBq eq Sk fn fs,?_⟩;unfold sG;rw[lMp,lMp,List.map_reverse,List.map_reverse]
theorem gn(p:List Rat):fj (Wh.trim p)=fj p:=PF.ext fun x=>Bn p x
theorem uf:∀(q:List Rat),(q.dropWhile fun x:Rat=>decide (x=0))=[]\/∃a r,(q.dropWhile fun x:Rat=>decide (x=0))=a::r/\a≠0
 |[]=> .inl rfl
 |a::q=>by
  by_cases h:a=0
  ·rw[List.dropWhile_cons_of_pos (by simpa using h)];exact uf q
  ·rw[List.dropWhile_cons_of_neg (by simpa using h)];exact .inr ⟨a,q,rfl,h⟩
noncomputable def Ey (p:List Rat):Prop:=p≠[]->p.getD (p.length - 1) 0≠0
theorem lM(p:List Rat):Ey (Wh.trim p):=by
 intro h;unfold Wh.trim at h⊢;rcases uf p.reverse with e |⟨a,r,e,ha⟩
 ·rw[e] at h;exact absurd rfl h
 ·rw[e];rw[List.reverse_cons,ay,bu,gDe];simp only[aq,bI];rw[bw (by rw[bu];lia)];simp only[bu];have:r.length+(0+1) - 1 - r.length=0:=by lia
  rw[this];exact ha
theorem F0(p:List Rat):Wh.lead p=(Wh.trim p).getD ((Wh.trim p).length - 1) 0:=by
 unfold Wh.lead;rw[cx,gDe]
theorem oh(p:List Rat):Wh.isZero p=true↔Wh.trim p=[]:=by
 unfold Wh.isZero;exact cT
theorem JC{p:List Rat}(t:Ey p):fj p=0↔p=[]:=by
 refine⟨fun e=> ?_,fun e=>by rw[e];rfl⟩;by_cases h:p=[]
 ·exact h
 ·have z:yU p:=BO fun x=>by
   have:=congrArg (fun q:PF=>q.f x) e;exact this
  exact absurd (z.get _) (t h)
theorem lN(p:List Rat):Wh.isZero p=true↔fj p=0:=by
 rw[oh,<-gn p,JC (lM p)]
theorem Od(k:Nat)(p:List Rat)(x:Rat):valueAt (Wh.shifted k p) x=x^k*valueAt p x:=by
 unfold Wh.shifted;induction k with
 |zero=>
  show valueAt p x=x^0*_;grind
 |succ k ih=>
  rw[bR,List.cons_append,iq,ih];have:x^(k+1)=x^k*x:=Rat.pow_succ x k;rw[this];grind
theorem Sl(k:Nat)(x:Rat):(vO k).f x=x^k:=by
 unfold vO;rw[FZ];show x^k*(((1:Int):Rat)+x*0)=_;grind
theorem y6(k:Nat)(p:List Rat):fj (Wh.shifted k p)=vO k*fj p:=PF.ext fun x=>by
 rw[K2,Od,PF.NX,Sl];rfl
theorem uW(c:Rat)(p:List Rat):fj (scalePoly c p)=PF.const c*fj p:=PF.ext fun x=>iW c p x
theorem Lb(p q:List Rat):fj (addPoly p q)=fj p+fj q:=PF.ext fun x=>qv p q x
theorem F3(p q:List Rat):fj (subPoly p q)=fj p - fj q:=by
 unfold Wh.subPoly;rw[Lb,uW];exact PF.ext fun x=>by
  show(fj p).f x+(-1)*(fj q).f x=(fj p).f x - (fj q).f x;grind
theorem xp{p:List Rat}{e:Nat}(h:Dg (fj p) e):(Wh.trim p).length<=e:=by
 obtain⟨m,hm,hle⟩:=h;refine aw (cR fun lt=> ?_) hle;have hl0:Wh.trim p≠[]:=fun q=>by rw[q] at lt;exact absurd lt (by simp)
 have ec:=En (p:=m) (q:=Wh.trim p) (fun x=>by
  have:=congrArg (fun q:PF=>q.f x) (hm.trans (gn p).symm);exact this) ((Wh.trim p).length - 1)
 rw[gDe,aE (by lia)] at ec;exact lM p hl0 ec.symm
theorem Sn(p:List Rat):Dg (fj p) (Wh.trim p).length:=⟨Wh.trim p,gn p,ai _⟩
theorem Qr{p:List Rat}(h:Wh.trim p≠[]):Wh.lead p≠0:=by rw[F0];exact lM p h
theorem JD{p q:List Rat}(hp:Wh.trim p≠[])(hq:Wh.trim q≠[])(h:(Wh.trim q).length<=(Wh.trim p).length):
  fj p=(PF.const (Wh.lead p / Wh.lead q)*vO ((Wh.trim p).length - (Wh.trim q).length))*fj q+fj (Wh.lowered p q)/\(Wh.trim (Wh.lowered p q)).length<(Wh.trim p).length:=by
 have pp:0<(Wh.trim p).length:=aD.mpr hp;have pq:0<(Wh.trim q).length:=aD.mpr hq;have e:fj (Wh.lowered p q)=fj p - PF.const (Wh.lead p / Wh.lead q)*(vO ((Wh.trim p).length - (Wh.trim q).length)*fj q):=by
  unfold Wh.lowered;rw[gn,F3,uW,y6,gn]
 refine⟨by rw[e];grind,?_⟩;have dg:Dg (fj (Wh.lowered p q)) ((Wh.trim p).length - 1):=by
  let r:=subPoly (Wh.trim p) (scalePoly (Wh.lead p / Wh.lead q) (Wh.shifted ((Wh.trim p).length - (Wh.trim q).length) (Wh.trim q)));have lr:r.length=(Wh.trim p).length:=by
   show(addPoly (Wh.trim p) (scalePoly (-1) (scalePoly _ (Wh.shifted _ _)))).length=_;rw[jt];unfold Wh.scalePoly Wh.shifted;simp only[lMp,ay,aP];lia
  have er:fj r=fj (Wh.lowered p q):=by
   show fj (subPoly _ _)=_;rw[F3,uW,y6,gn,gn,e]
  have zr:r.getD ((Wh.trim p).length - 1) 0=0:=by
   show(addPoly (Wh.trim p) (scalePoly (-1) (scalePoly _ (Wh.shifted _ _)))).getD _ 0=0;rw[tP,nO,nO];have es:(Wh.shifted ((Wh.trim p).length - (Wh.trim q).length) (Wh.trim q)).getD ((Wh.trim p).length - 1) 0=Wh.lead q:=by
    unfold Wh.shifted;rw[gDe,bw (by rw[aP];lia),aP,<-gDe,F0];have:(Wh.trim p).length - 1 - ((Wh.trim p).length - (Wh.trim q).length)=(Wh.trim q).length - 1:=by lia
    rw[this]
   rw[es,<-F0];have:=Qr hq;grind
  refine⟨r.take ((Wh.trim p).length - 1),?_,by rw[aC];lia⟩;rw[<-er];have ev:∀(l:List Rat) (n:Nat),l.length=n+1->l.getD n 0=0->∀x,valueAt (l.take n) x=valueAt l x:=by
   intro l;induction l with
   |nil=>intro n h;simp at h
   |cons a l ih=>
    intro n h hz x;cases n with
    |zero=>
     have:l=[]:=bc.mp (by simpa using h);subst this;have:a=0:=hz;subst this;show(0:Rat)=0+x*0;grind
    |succ n=>
     rw[List.take_succ_cons,iq,iq,ih n (by simpa using h) (by simpa using hz)]
  exact PF.ext fun x=>ev r ((Wh.trim p).length - 1) (by lia) zr x
 have:=xp dg;lia
theorem Cb{q:List Rat}(hq:Wh.trim q≠[]):∀(f:Nat) (p:List Rat),(Wh.trim p).length<f->fj p=fj (Wh.quotOn f p q)*fj q+fj (Wh.restOn f p q)/\(Wh.trim (Wh.restOn f p q)).length<(Wh.trim q).length
 |0,p,h=>by lia
 |f+1,p,h=>by
  have pq:0<(Wh.trim q).length:=aD.mpr hq;unfold Wh.quotOn Wh.restOn;by_cases c:Wh.isZero p=true\/(Wh.trim p).length<(Wh.trim q).length
  ·rw[ah c,ah c];have tt:Wh.trim (Wh.trim p)=Wh.trim p:=by
    have l1:=xp (p:=Wh.trim p) (e:=(Wh.trim p).length) ⟨Wh.trim p,rfl,ai _⟩;have l2:=xp (p:=p) (e:=(Wh.trim (Wh.trim p)).length) ⟨Wh.trim (Wh.trim p),by rw[gn,gn],ai _⟩;refine cC (by lia) fun i h1 h2=> ?_
    have ec:=En (p:=Wh.trim (Wh.trim p)) (q:=Wh.trim p) (fun x=>Bn _ x) i;simpa [gDe,aa h1,aa h2] using ec
   refine⟨?_,?_⟩
   ·rw[gn];show fj p=(0:PF)*fj q+fj p;grind
   ·rw[tt];rcases c with c |c
    ·rw[(oh p).mp c];exact pq
    ·exact c
  ·rw[af c,af c];have hp:Wh.trim p≠[]:=fun z=>c (.inl ((oh p).mpr z))
   obtain⟨e1,e2⟩:=JD hp hq (cR fun z=>c (.inr z));obtain⟨e3,e4⟩:=Cb hq f (Wh.lowered p q) (by lia);refine⟨?_,e4⟩;have e5:fj (Wh.shifted ((Wh.trim p).length - (Wh.trim q).length) [Wh.lead p / Wh.lead q])=PF.const (Wh.lead p / Wh.lead q)*vO ((Wh.trim p).length - (Wh.trim q).length):=by
    rw[y6];exact PF.ext fun x=>by
     show(vO _).f x*(Wh.lead p / Wh.lead q+x*0)=(Wh.lead p / Wh.lead q)*(vO _).f x;grind
   rw[Lb,e5,e1];have:(PF.const (Wh.lead p / Wh.lead q)*vO ((Wh.trim p).length - (Wh.trim q).length))*fj q+fj (Wh.lowered p q)=(PF.const (Wh.lead p / Wh.lead q)*vO ((Wh.trim p).length - (Wh.trim q).length))*fj q+(fj (Wh.quotOn f (Wh.lowered p q) q)*fj q+fj (Wh.restOn f (Wh.lowered p q) q)):=by rw[<-e3]
   rw[this];grind
theorem Mi(p:List Rat):Wh.trim (Wh.trim p)=Wh.trim p:=by
 have l1:=xp (p:=Wh.trim p) (e:=(Wh.trim p).length) ⟨Wh.trim p,rfl,ai _⟩;have l2:=xp (p:=p) (e:=(Wh.trim (Wh.trim p)).length) ⟨Wh.trim (Wh.trim p),by rw[gn,gn],ai _⟩;refine cC (by lia) fun i h1 h2=> ?_
 have ec:=En (p:=Wh.trim (Wh.trim p)) (q:=Wh.trim p) (fun x=>Bn _ x) i;simpa [gDe,aa h1,aa h2] using ec
theorem HH{q:List Rat}(hq:Wh.trim q≠[])(p:List Rat):fj p=fj (Wh.quot p q)*fj q+fj (Wh.rest p q)/\(Wh.trim (Wh.rest p q)).length<(Wh.trim q).length:=by
 have:=Cb hq ((Wh.trim p).length+1) (Wh.trim p) (by rw[Mi];lia);rw[gn] at this;exact this
theorem HI{T B:PF}:∀(f:Nat) (l s:List Rat),(Wh.trim s).length<f->Span T B (fj l) (fj s)->(∃p q:PF,fj (Wh.gcdOn f l s)=p*T+q*B)/\(∃p:PF,T=p*fj (Wh.gcdOn f l s))/\∃p:PF,B=p*fj (Wh.gcdOn f l s)
 |0,_,_,h,_=>by lia
 |f+1,l,s,h,S=>by
  unfold Wh.gcdOn;obtain⟨Tp,Tq,eT⟩:=S.Si;obtain⟨Bp,Bq,eB⟩:=S.Sj;by_cases q:Wh.isZero s=true
  ·rw[ah q,gn];have z:=(lN s).mp q;rw[z] at eT eB;exact⟨S.Qq,⟨Tp,by rw[eT];grind⟩,Bp,by rw[eB];grind⟩
  ·rw[af q];have hs:Wh.trim s≠[]:=fun z=>q ((oh s).mpr z)
   obtain⟨e,hlen⟩:=HH hs l;obtain⟨lp,lq,el⟩:=S.Qq;obtain⟨sp,sq,es⟩:=S.Uh;refine HI f s (Wh.rest l s) (by lia) ⟨⟨sp,sq,es⟩,⟨lp - fj (Wh.quot l s)*sp,lq - fj (Wh.quot l s)*sq,?_⟩,⟨Tp*fj (Wh.quot l s)+Tq,Tp,?_⟩,⟨Bp*fj (Wh.quot l s)+Bq,Bp,?_⟩⟩
   ·have:fj (Wh.rest l s)=fj l - fj (Wh.quot l s)*fj s:=by
     have e':fj l - fj (Wh.quot l s)*fj s=(fj (Wh.quot l s)*fj s+fj (Wh.rest l s)) - fj (Wh.quot l s)*fj s:=by rw[<-e]
     rw[e'];grind
    rw[this,el,es];grind
   ·have:Tp*fj l+Tq*fj s=Tp*(fj (Wh.quot l s)*fj s+fj (Wh.rest l s))+Tq*fj s:=by rw[<-e]
    rw[eT,this];grind
   ·have:Bp*fj l+Bq*fj s=Bp*(fj (Wh.quot l s)*fj s+fj (Wh.rest l s))+Bq*fj s:=by rw[<-e]
    rw[eB,this];grind
theorem So(u d:List Rat):(∃p q:PF,fj (Wh.gcdPoly u d)=p*fj u+q*fj d)/\(∃p:PF,fj u=p*fj (Wh.gcdPoly u d))/\∃p:PF,fj d=p*fj (Wh.gcdPoly u d):=
 HI _ u d (by lia) ⟨⟨1,0,by grind⟩,⟨0,1,by grind⟩,⟨1,0,by grind⟩,⟨0,1,by grind⟩⟩
theorem JE{l:List Rat}(t:Ey l):∃(M:Nat) (G:dQ),0<M/\Trim G/\G.length=l.length/\PF.const (M:Rat)*fj l=dF G:=by
 obtain⟨M,G,hM,tG,e⟩:=uV (fj l);have ec:∀i,((G.getD i 0:Int):Rat)=(M:Rat)*l.getD i 0:=fun i=>by
  have:=En (p:=rl G) (q:=scalePoly (M:Rat) l) (fun x=>by
   have:=congrArg (fun q:PF=>q.f x) e;rw[iW];exact this.symm) i
  rwa [FP,nO] at this
 have l1:G.length<=l.length:=by
  have:=vM tG (c:=1) (by decide) (e:=l.length) (by
   rw[fX];have:(1:PF)*dF G=dF G:=by grind
   rw[this,<-e];exact Dg.smul _ ⟨l,rfl,ai _⟩)
  exact this
 refine⟨M,G,hM,tG,Nat.le_antisymm l1 (cR fun lt=> ?_),e⟩;have h0:l≠[]:=fun z=>by rw[z] at lt;exact absurd lt (by simp)
 have:=ec (l.length - 1);rw[gDe,aE (by lia)] at this;have z:(M:Rat)*l.getD (l.length - 1) 0=0:=by rw[<-this];rfl
 rcases bX.mp z with z |z
 ·exact vL hM z
 ·exact t h0 z
theorem Cc{p g:List Rat}(hg:Wh.trim g≠[]){a:PF}(h:fj p=a*fj g):fj (Wh.quot p g)=a:=by
 obtain⟨e,hlen⟩:=HH hg p;by_cases z:a - fj (Wh.quot p g)=0
 ·grind
 ·exfalso;obtain⟨M,G,hM,tG,lG,eG⟩:=JE (lM g);rw[gn] at eG;have nG:G≠[]:=fun q=>hg (bc.mp (by rw[<-lG,q];rfl))
  have er:fj (Wh.rest p g)=(a - fj (Wh.quot p g))*fj g:=by
   have:fj (Wh.rest p g)=fj p - fj (Wh.quot p g)*fj g:=by
    have e':fj p - fj (Wh.quot p g)*fj g=(fj (Wh.quot p g)*fj g+fj (Wh.rest p g)) - fj (Wh.quot p g)*fj g:=by rw[<-e]
    rw[e'];grind
   rw[this,h];grind
  have d:Dg (PF.const 1*((a - fj (Wh.quot p g))*dF G)) (Wh.trim (Wh.rest p g)).length:=by
   have:PF.const 1*((a - fj (Wh.quot p g))*dF G)=PF.const (M:Rat)*fj (Wh.rest p g):=by
    rw[fX,<-eG,er];grind
   rw[this];exact(Sn _).smul _
  have:=B4 tG nG z (c:=1) (by decide) d;lia
theorem Ao:∀(l:List Nat) (acc:Nat),acc ∣ l.foldl Nat.lcm acc/\∀x∈l,x ∣ l.foldl Nat.lcm acc
 |[],acc=>⟨Nat.dvd_refl _,fun _ h=>by cases h⟩
 |a::l,acc=>by
  obtain⟨h1,h2⟩:=Ao l (Nat.lcm acc a);refine⟨Nat.dvd_trans (Nat.dvd_lcm_left acc a) h1,fun x hx=> ?_⟩;rcases aH.mp hx with e |e
  ·subst e;exact Nat.dvd_trans (Nat.dvd_lcm_right acc x) h1
  ·exact h2 x e
theorem lcm_pos:∀(l:List Nat) (acc:Nat),0<acc->(∀x∈l,0<x)->0<l.foldl Nat.lcm acc
 |[],_,h,_=>h
 |a::l,acc,h,hl=>lcm_pos l _ (Nat.lcm_pos h (hl a ax)) fun x hx=>hl x (ak _ hx)
theorem Ez{x:Rat}{m:Nat}(h:x.den ∣ m):(((x*(m:Rat)).num:Int):Rat)=x*(m:Rat):=by
 obtain⟨k,rfl⟩:=h;have e:x*((x.den*k:Nat):Rat)=((x.num*(k:Int):Int):Rat):=by
  rw[Rat.natCast_mul,Rat.intCast_mul,bq,<-K8 x];grind
 rw[e,Rat.num_intCast]
theorem y8(m:Nat):∀l:List Rat,(∀x∈l,x.den ∣ m)->dF (l.map fun x:Rat=>(x*(m:Rat)).num)=PF.const (m:Rat)*fj l
 |[],_=>PF.ext fun x=>by
  show(0:Rat)=(m:Rat)*0;grind
 |a::l,h=>PF.ext fun x=>by
  have ih:=congrArg (fun q:PF=>q.f x) (y8 m l fun y hy=>h y (ak _ hy));have ih':(dF (l.map fun x:Rat=>(x*(m:Rat)).num)).f x=(m:Rat)*valueAt l x:=ih;rw[aJ,e9,ih',Ez (h a ax)];show _=(m:Rat)*(a+x*valueAt l x);grind
theorem Mj(m:Nat)(l:List Rat)(h:∀x∈l,x.den ∣ m)(i:Nat):(((l.map fun x:Rat=>(x*(m:Rat)).num).getD i 0:Int):Rat)=(m:Rat)*l.getD i 0:=by
 rw[gDe,gDe,aA];cases e:l[i]? with
 |none=>
  show((0:Int):Rat)=(m:Rat)*0;grind
 |some v=>
  show(((v*(m:Rat)).num:Int):Rat)=(m:Rat)*v;rw[Ez (h v (aB e))];grind
theorem Cd{m:Nat}(hm:0<m){l:List Rat}(t:Ey l)(h:∀x∈l,x.den ∣ m):Trim (l.map fun x:Rat=>(x*(m:Rat)).num):=by
 rw[ft];intro hl z;have h0:l≠[]:=fun q=>hl (by rw[q];rfl)
 have e:=Mj m l h (l.length - 1);unfold lc at z;rw[lMp] at z;rw[z] at e;have:(m:Rat)*l.getD (l.length - 1) 0=0:=by rw[<-e];rfl
 rcases bX.mp this with q |q
 ·exact vL hm q
 ·exact t h0 q
theorem Oe(l:dQ):Wh.gcdOf (l.map Int.natAbs)=fL l:=by
 unfold Wh.gcdOf fL;rw[List.foldl_map]
theorem HJ{u d:List Rat}(hu:fj u≠0)(hd:fj d≠0):Canon (fj u) (fj d) (Wh.quotient u d).num (Wh.quotient u d).den:=by
 obtain⟨⟨p,q,eg⟩,⟨a,ea⟩,⟨b,eb⟩⟩:=So u d;have ng:fj (Wh.gcdPoly u d)≠0:=fun z=>hu (by rw[ea,z];grind)
 have tg:Wh.trim (Wh.gcdPoly u d)≠[]:=fun z=>ng ((lN _).mp ((oh _).mpr z))
 have qa:=Cc tg ea;have qb:=Cc tg eb;have zu:¬Wh.isZero u=true:=fun z=>hu ((lN u).mp z)
 have ha:a≠0:=fun z=>hu (by rw[ea,z];grind)
 have hb:b≠0:=fun z=>hd (by rw[eb,z];grind)
 unfold Wh.quotient;dsimp only;rw[af zu,af zu];generalize hA:Wh.trim (Wh.quot u (Wh.gcdPoly u d))=A;generalize hB:Wh.trim (Wh.quot d (Wh.gcdPoly u d))=B;have oA:fj A=a:=by rw[<-hA,gn,qa]
 have oB:fj B=b:=by rw[<-hB,gn,qb]
 have tA:Ey A:=by rw[<-hA];exact lM _
 have tB:Ey B:=by rw[<-hB];exact lM _
 generalize hm:Wh.lcmOf ((A ++ B).map fun x:Rat=>x.den)=m;have dm:∀x∈A ++ B,x.den ∣ m:=fun x hx=>by
  rw[<-hm];exact(Ao _ 1).2 _ (aN.mpr ⟨x,hx,rfl⟩)
 have pm:0<m:=by
  rw[<-hm];exact lcm_pos _ 1 (by lia) fun x hx=>by
   obtain⟨y,_,rfl⟩:=aN.mp hx;exact Rat.den_pos y
 have dA:∀x∈A,x.den ∣ m:=fun x hx=>dm x (cO _ hx)
 have dB:∀x∈B,x.den ∣ m:=fun x hx=>dm x (bo _ hx)
 have iA:=y8 m A dA;have iB:=y8 m B dB;have ttA:=Cd pm tA dA;have ttB:=Cd pm tB dB;generalize hA':(A.map fun x:Rat=>(x*(m:Rat)).num)=A' at iA ttA⊢;generalize hB':(B.map fun x:Rat=>(x*(m:Rat)).num)=B' at iB ttB⊢;have nm:=jT (vL pm);have hA0:A'≠[]:=fun z=>by
  rw[z,oA] at iA;exact PF.yV nm ha iA.symm
 have hB0:B'≠[]:=fun z=>by
  rw[z,oB] at iB;exact PF.yV nm hb iB.symm
 have nlc:=ft.mp ttB hB0;have elast:B'.getLast?.getD 1=lc B':=by
  rw[cx];unfold lc;have:0<B'.length:=aD.mpr hB0;rw[aa (by lia),gDe,aa (by lia)];rfl
 rw[elast,Oe,tZ];have pg:0<Nat.gcd (fL A') (fL B'):=c6 _ (ju ttB hB0);generalize hf:((Nat.gcd (fL A') (fL B'):Nat):Int)*(if lc B' <0 then -1 else 1)=f;have fn:f.natAbs=Nat.gcd (fL A') (fL B'):=by
  rw[<-hf];split <;>lia
 have fs:0<f*lc B':=by
  rw[<-hf];split
  ·rename_i h;exact cV (by lia) h
  ·exact Int.mul_pos (by lia) (by lia)
 have f0:f≠0:=fun z=>by rw[z] at fs;simp at fs
 have cn:=HG (u:=fj u) (d:=fj d) (f:=f) ttA ttB hA0 hB0 (by rw[iA,iB,oA,oB];rw[ea,eb];grind) ⟨p*PF.const (1 / (m:Rat)),q*PF.const (1 / (m:Rat)),by
  have ci:=qW (vL pm);refine PF.w6 ng _ _ ?_;rw[iA,iB,oA,oB];have:fj (Wh.gcdPoly u d)*(p*PF.const (1 / (m:Rat))*(PF.const (m:Rat)*a)+q*PF.const (1 / (m:Rat))*(PF.const (m:Rat)*b))=(PF.const (m:Rat)*PF.const (1 / (m:Rat)))*(p*(a*fj (Wh.gcdPoly u d))+q*(b*fj (Wh.gcdPoly u d))):=by grind
  rw[this,ci,<-ea,<-eb,<-eg];grind⟩ fn fs
 have same:∀(L:dQ),(∀x∈L,f ∣ x)->(L.map fun x:Int=>x / f)=L.map fun x=>x.fdiv f:=fun L h=>aY fun x hx=>by
  obtain⟨y,rfl⟩:=h x hx;rw[Int.mul_ediv_cancel_left _ f0,Int.mul_comm,cZ _ f0]
 have dA':∀x∈A',f ∣ x:=fun x hx=>Int.natAbs_dvd.mp (by rw[fn];exact cj (bN.mpr (Nat.gcd_dvd_left _ _)) (mM hx))
 have dB':∀x∈B',f ∣ x:=fun x hx=>Int.natAbs_dvd.mp (by rw[fn];exact cj (bN.mpr (Nat.gcd_dvd_right _ _)) (mM hx))
 rw[same A' dA',same B' dB'];exact cn
theorem Lc{T B:dQ}{u d:List Rat}(tT:Trim T)(tB:Trim B)(hB:B≠[]){c:Rat}(hc:c≠0)(eT:dF T=PF.const c*fj u)(eB:dF B=PF.const c*fj d):
  n8 T B=(WhB.polyTold (Wh.quotient u d).num ++ WhB.polyTold (Wh.quotient u d).den):=by
 have nc:=jT hc;have hd:fj d≠0:=fun z=>rG tB hB (by rw[eB,z];grind)
 by_cases hT:T=[]
 ·have hu:fj u=0:=by
   refine PF.w6 nc _ _ ?_;rw[<-eT,hT];show(0:PF)=_;grind
  have zu:=(lN u).mpr hu;have e1:n8 T B=[1,0,1,1]:=by unfold n8;rw[ah hT]
  rw[e1];unfold Wh.quotient;dsimp only;rw[ah zu,ah zu];decide +kernel
 ·have hu:fj u≠0:=fun z=>rG tT hT (by rw[eT,z];grind)
  obtain⟨N,D,C,e⟩:=Oc tT tB hT hB;have C2:=(HJ hu hd).scale (PF.const c);rw[<-eT,<-eB] at C2;obtain⟨e1,e2⟩:=Canon.unique (rG tB hB) C C2;rw[e,<-e1,<-e2];unfold WhB.polyTold;rw[af (by rw[cT];exact C.nN),af (by rw[cT];exact C.nD)]
end c9
namespace c9
open Lean.Grind
noncomputable def dot (m:Nat) (r:List Rat) (y:Nat->Rat):Rat:=eh m fun j=>r.getD j 0*y j
noncomputable def sat (m:Nat) (y:Nat->Rat) (z:Rat) (r:Wh.Row):Prop:=dot m r.1 y=z*r.2
theorem rH(q:Rat)(r:Wh.Row)(j:Nat):(Wh.scaleRow q r).1.getD j 0=q*r.1.getD j 0:=by
 show(r.1.map fun x:Rat=>q*x).getD j 0=_;rw[gDe,gDe,aA];cases r.1[j]? with
 |none=>show(0:Rat)=q*0;grind
 |some v=>rfl
theorem rJ(q:Rat)(r:Wh.Row):(Wh.scaleRow q r).1.length=r.1.length:=by
 show(r.1.map _).length=_;rw[lMp]
theorem JF(a b:Wh.Row)(j:Nat)(h:a.1.length=b.1.length):(Wh.subRow a b).1.getD j 0=a.1.getD j 0 - b.1.getD j 0:=by
 show(List.zipWith (fun x y:Rat=>x - y) a.1 b.1).getD j 0=_;by_cases q:j<a.1.length
 ·exact Eu _ _ _ _ q (by lia)
 ·rw[gDe,gDe,gDe,aE (by rw[List.length_zipWith];lia),aE (by lia),aE (by lia)];show(0:Rat)=0 - 0;grind
theorem JG(a b:Wh.Row)(h:a.1.length=b.1.length):(Wh.subRow a b).1.length=a.1.length:=by
 show(List.zipWith _ a.1 b.1).length=_;rw[List.length_zipWith];lia
theorem EA(c:Nat)(p r:Wh.Row)(h:r.1.length=p.1.length):(Wh.clear c p r).1.length=r.1.length:=by
 unfold Wh.clear;split
 ·rfl
 ·rw[JG _ _ (by rw[rJ];exact h)]
theorem y9(c:Nat)(p r:Wh.Row)(h:r.1.length=p.1.length)(j:Nat):(Wh.clear c p r).1.getD j 0=r.1.getD j 0 - r.1.getD c 0*p.1.getD j 0:=by
 unfold Wh.clear;split
 ·rename_i e;rw[e];grind
 ·rw[JF _ _ _ (by rw[rJ];exact h),rH]
theorem HK(c:Nat)(p r:Wh.Row):(Wh.clear c p r).2=r.2 - r.1.getD c 0*p.2:=by
 unfold Wh.clear;split
 ·rename_i e;rw[e];grind
 ·rfl
theorem Ml(m:Nat)(q:Rat)(r:Wh.Row)(y:Nat->Rat):dot m (Wh.scaleRow q r).1 y=q*dot m r.1 y:=by
 unfold dot;rw[<-fS];exact eC _ fun j _=>by rw[rH];grind
theorem Mm(m c:Nat)(p r:Wh.Row)(h:r.1.length=p.1.length)(y:Nat->Rat):dot m (Wh.clear c p r).1 y=dot m r.1 y - r.1.getD c 0*dot m p.1 y:=by
 unfold dot;rw[<-fS,<-BL];exact eC _ fun j _=>by rw[y9 c p r h];grind
theorem Mn{m:Nat}{y:Nat->Rat}{z q:Rat}{r:Wh.Row}(hq:q≠0):sat m y z (Wh.scaleRow q r)↔sat m y z r:=by
 unfold sat;rw[Ml];show q*dot m r.1 y=z*(q*r.2)↔_;constructor
 ·intro e;grind
 ·intro e;rw[e];grind
theorem uX{m c:Nat}{y:Nat->Rat}{z:Rat}{p r:Wh.Row}(h:r.1.length=p.1.length)(hp:sat m y z p):sat m y z (Wh.clear c p r)↔sat m y z r:=by
 unfold sat at *;rw[Mm m c p r h,HK,hp];constructor
 ·intro e;grind
 ·intro e;rw[e];grind
structure Red(m c:Nat)(l:List Wh.Row)(done:List (Nat×Wh.Row))(left:List Wh.Row):Prop where
 cols:done.map (·.1)=List.range c
 Of:∀x∈done,x.2.1.length=m
 Mo:∀r∈left,r.1.length=m
 unit:∀x∈done,∀j,j<c->x.2.1.getD j 0=if j=x.1 then 1 else 0
 zero:∀r∈left,∀j,j<c->r.1.getD j 0=0
 cnt:done.length+left.length=l.length
 same:∀y z,(∀r∈l,sat m y z r)↔(∀x∈done,sat m y z x.2)/\∀r∈left,sat m y z r
theorem vP(m:Nat):∀(f c:Nat) (done:List (Nat×Wh.Row)) (left:List Wh.Row),(Wh.reduceFrom f c done left).1.length<=done.length+f
 |0,_,done,_=>by
  show done.length<=_;lia
 |f+1,c,done,left=>by
  unfold Wh.reduceFrom;split
  ·have:=vP m f (c+1) done left;lia
  ·rename_i i _;refine aw (vP m f (c+1) _ _) ?_;rw[ay,lMp];simp only[aq,bI];lia
theorem mem_getD{left:List Wh.Row}{i:Nat}(h:i<left.length):left.getD i ([],0)∈left:=by
 rw[gDe,aa h];exact bM h
theorem F4{α:Type}(l:List α)(i:Nat)(h:i<l.length)(x:α)(hx:x∈l):x=l[i]\/x∈l.eraseIdx i:=by
 obtain⟨a,ha,e⟩:=aW hx;by_cases q:a=i
 ·subst q;exact .inl e.symm
 ·refine .inr (List.mem_eraseIdx_iff_getElem.mpr ⟨a,ha,q,e⟩)
theorem Og{m c:Nat}(hc:c<m){l:List Wh.Row}{done:List (Nat×Wh.Row)}{left:List Wh.Row}(S:Red m c l done left){i:Nat}(hi:i<left.length)(hp:(left.getD i ([],0)).1.getD c 0≠0):
  Red m (c+1) l ((done.map fun x:Nat×Wh.Row=>(x.1,Wh.clear c (Wh.scaleRow (1 / (left.getD i ([],0)).1.getD c 0) (left.getD i ([],0))) x.2)) ++ [(c,Wh.scaleRow (1 / (left.getD i ([],0)).1.getD c 0) (left.getD i ([],0)))]) ((left.eraseIdx i).map fun r:Wh.Row=>Wh.clear c (Wh.scaleRow (1 / (left.getD i ([],0)).1.getD c 0) (left.getD i ([],0))) r):=by
 have mp:=mem_getD hi;generalize hP:left.getD i ([],0)=P at *;have hq:(1 / P.1.getD c 0:Rat)≠0:=by grind
 have eP:P=left[i]:=by
  rw[<-hP,gDe,aa hi];rfl
 have lP:=S.Mo P mp;generalize hp':Wh.scaleRow (1 / P.1.getD c 0) P=p;have lp:p.1.length=m:=by rw[<-hp',rJ];exact lP
 have pg:∀j,p.1.getD j 0=1 / P.1.getD c 0*P.1.getD j 0:=fun j=>by rw[<-hp',rH]
 have pc:p.1.getD c 0=1:=by rw[pg];grind
 have pz:∀j,j<c->p.1.getD j 0=0:=fun j hj=>by rw[pg,S.zero P mp j hj];grind
 have psat:∀y z,sat m y z p↔sat m y z P:=fun y z=>by rw[<-hp'];exact Mn hq
 have er:∀r∈left.eraseIdx i,r∈left:=fun r hr=>List.mem_of_mem_eraseIdx hr
 refine⟨?_,?_,?_,?_,?_,?_,?_⟩
 ·rw[aO,aQ,bY,<-S.cols];rfl
 ·intro x hx;rcases aK.mp hx with h |h
  ·obtain⟨y,hy,rfl⟩:=aN.mp h;show(Wh.clear c p y.2).1.length=m;rw[EA _ _ _ (by rw[S.Of y hy,lp]),S.Of y hy]
  ·have:x=(c,p):=by simpa using h
   subst this;exact lp
 ·intro r hr;obtain⟨y,hy,rfl⟩:=aN.mp hr;rw[EA _ _ _ (by rw[S.Mo y (er y hy),lp]),S.Mo y (er y hy)]
 ·intro x hx j hj;rcases aK.mp hx with h |h
  ·obtain⟨y,hy,rfl⟩:=aN.mp h;show(Wh.clear c p y.2).1.getD j 0=if j=y.1 then 1 else 0
   have hy1:y.1<c:=by
    have:y.1∈done.map (·.1):=aN.mpr ⟨y,hy,rfl⟩;rw[S.cols] at this;exact aT.mp this
   rw[y9 _ _ _ (by rw[S.Of y hy,lp])];by_cases q:j=c
   ·subst q;rw[pc,af (by lia)];grind
   ·rw[pz j (by lia),S.unit y hy j (by lia)];grind
  ·have:x=(c,p):=by simpa using h
   subst this;show p.1.getD j 0=if j=c then 1 else 0
   by_cases q:j=c
   ·rw[ah q,q,pc]
   ·rw[af q,pz j (by lia)]
 ·intro r hr j hj;obtain⟨y,hy,rfl⟩:=aN.mp hr;rw[y9 _ _ _ (by rw[S.Mo y (er y hy),lp])];by_cases q:j=c
  ·subst q;rw[pc];grind
  ·rw[S.zero y (er y hy) j (by lia),pz j (by lia)];grind
 ·rw[ay,lMp,lMp,cP,ah hi,<-S.cnt];simp only[aq,bI];lia
 ·intro y z;rw[S.same y z];constructor
  ·rintro⟨h1,h2⟩;have hp2:=(psat y z).mpr (h2 P mp);refine⟨fun x hx=> ?_,fun r hr=> ?_⟩
   ·rcases aK.mp hx with h |h
    ·obtain⟨w,hw,rfl⟩:=aN.mp h;exact(uX (by rw[S.Of w hw,lp]) hp2).mpr (h1 w hw)
    ·have:x=(c,p):=by simpa using h
     subst this;exact hp2
   ·obtain⟨w,hw,rfl⟩:=aN.mp hr;exact(uX (by rw[S.Mo w (er w hw),lp]) hp2).mpr (h2 w (er w hw))
  ·rintro⟨h1,h2⟩;have hp2:sat m y z p:=h1 (c,p) (bo _ (by simp));refine⟨fun x hx=> ?_,fun r hr=> ?_⟩
   ·have:=h1 (x.1,Wh.clear c p x.2) (cO _ (aN.mpr ⟨x,hx,rfl⟩));exact(uX (by rw[S.Of x hx,lp]) hp2).mp this
   ·rcases F4 left i hi r hr with e |e
    ·rw[e,<-eP];exact(psat y z).mp hp2
    ·exact(uX (by rw[S.Mo r hr,lp]) hp2).mp (h2 _ (aN.mpr ⟨r,e,rfl⟩))
theorem Oh{m c:Nat}(hc:c<m){l:List Wh.Row}{done:List (Nat×Wh.Row)}{left:List Wh.Row}(S:Red m c l done left)(hz:∀r∈left,r.1.getD c 0=0):
  ∃y:Nat->Rat,y c≠0/\∀r∈l,dot m r.1 y=0:=by
 have dl:done.length=c:=by
  have:=congrArg List.length S.cols;simpa using this
 let y:Nat->Rat:=fun j=>if j=c then 1 else if j<c then -((done.getD j (0,([],0))).2.1.getD c 0) else 0
 refine⟨y,by show(if c=c then(1:Rat) else _)≠0;rw[ah rfl];decide,?_⟩;have key:∀r∈l,sat m y 0 r:=(S.same y 0).mpr ⟨fun x hx=> ?_,fun r hr=> ?_⟩
 ·intro r hr;have:=key r hr;unfold sat at this;rw[this];grind
 ·obtain⟨a,ha,e⟩:=aW hx;have xa:x.1=a:=by
   have h1:(done.map (·.1))[a]? =some x.1:=by rw[aA,aa ha,e];rfl
   rw[S.cols,bE (by lia)] at h1;exact(aX h1).symm
  unfold sat dot;have two:eh m (fun j=>x.2.1.getD j 0*y j)=x.2.1.getD a 0*y a+x.2.1.getD c 0*y c:=by
   refine BI m a c (by lia) hc fun j hj h1 h2=> ?_
   by_cases q:j<c
   ·rw[S.unit x hx j q,af (by lia)];grind
   ·have:y j=0:=by
     show(if j=c then(1:Rat) else if j<c then _ else 0)=0;rw[af h2,af q]
    rw[this];grind
  have ya:y a= -(x.2.1.getD c 0):=by
   show(if a=c then(1:Rat) else if a<c then -((done.getD a (0,([],0))).2.1.getD c 0) else 0)=_;rw[af (by lia),ah (by lia),gDe (l:=done),aa ha,e];rfl
  have yc:y c=1:=ah rfl;rw[two,ya,yc,S.unit x hx a (by lia),ah xa.symm];grind
 ·unfold sat dot;have z:eh m (fun j=>r.1.getD j 0*y j)=0:=uP m fun j hj=>by
   by_cases q:j<c
   ·rw[S.zero r hr j q];grind
   ·by_cases q2:j=c
    ·subst q2;rw[hz r hr];grind
    ·have:y j=0:=by
      show(if j=c then(1:Rat) else if j<c then _ else 0)=0;rw[af q2,af q]
     rw[this];grind
  rw[z];grind
theorem Ld{m:Nat}{l:List Wh.Row}:∀(f c:Nat) (done:List (Nat×Wh.Row)) (left:List Wh.Row),f+c=m->Red m c l done left->
  Red m m l (Wh.reduceFrom f c done left).1 (Wh.reduceFrom f c done left).2\/((Wh.reduceFrom f c done left).1.length<m/\∃y:Nat->Rat,(∃j,j<m/\y j≠0)/\∀r∈l,dot m r.1 y=0)
 |0,c,done,left,hf,S=>by
  have:c=m:=by lia
  subst this;exact .inl S
 |f+1,c,done,left,hf,S=>by
  unfold Wh.reduceFrom;cases e:left.findIdx? fun r:Wh.Row=>decide (r.1.getD c 0≠0) with
  |none=>
   refine .inr ⟨?_,?_⟩
   ·have h1:=vP m f (c+1) done left;have dl:done.length=c:=by
     have:=congrArg List.length S.cols;simpa using this
    show(Wh.reduceFrom f (c+1) done left).1.length<m;lia
   ·obtain⟨y,hy,h⟩:=Oh (by lia) S fun r hr=>by
     have h:=List.findIdx?_eq_none_iff.mp e r hr;simpa using h
    exact⟨y,⟨c,by lia,hy⟩,h⟩
  |some i=>
   obtain⟨hi,hp,_⟩:=List.findIdx?_eq_some_iff_getElem.mp e;have hp':(left.getD i ([],0)).1.getD c 0≠0:=by
    rw[gDe (l:=left),aa hi];simpa using hp
   exact Ld f (c+1) _ _ (by lia) (Og (by lia) S hi hp')
theorem JH{m:Nat}{l:List Wh.Row}(hl:l.length=m)(hr:∀r∈l,r.1.length=m):
  (∃x:List Rat,Wh.solve m l=some x/\x.length=m/\∀(y:Nat->Rat) (z:Rat),(∀r∈l,sat m y z r)↔∀j,j<m->y j=z*x.getD j 0)\/
  (Wh.solve m l=none/\∃y:Nat->Rat,(∃j,j<m/\y j≠0)/\∀r∈l,dot m r.1 y=0):=by
 have S0:Red m 0 l [] l:=⟨rfl,(fun _ h=>by cases h),hr,(fun _ h=>by cases h),(fun _ _ j hj=>by lia),(by simp),fun y z=>⟨fun h=>⟨fun _ h=>(by cases h),h⟩,fun h=>h.2⟩⟩;rcases Ld m 0 [] l (by lia) S0 with S |⟨h1,h2⟩
 ·refine .inl ⟨(Wh.reduced m l).1.map fun x:Nat×Wh.Row=>x.2.2,?_,?_,?_⟩
  ·unfold Wh.solve Wh.rank;have dl:(Wh.reduced m l).1.length=m:=by
    have:=congrArg List.length S.cols;simpa [Wh.reduced] using this
   rw[ah ⟨dl,hl⟩]
  ·rw[lMp];have:=congrArg List.length S.cols;simpa [Wh.reduced] using this
  ·intro y z;change Red m m l (Wh.reduced m l).1 (Wh.reduced m l).2 at S;have dl:(Wh.reduced m l).1.length=m:=by
    have:=congrArg List.length S.cols;simpa using this
   have ll:(Wh.reduced m l).2=[]:=bc.mp (by have:=S.cnt;lia);rw[S.same y z,ll];have row:∀a (ha:a<(Wh.reduced m l).1.length),sat m y z ((Wh.reduced m l).1[a]).2↔y a=z*((Wh.reduced m l).1.map fun x:Nat×Wh.Row=>x.2.2).getD a 0:=fun a ha=>by
    have hx:=bM ha;have xa:((Wh.reduced m l).1[a]).1=a:=by
     have h1:((Wh.reduced m l).1.map (·.1))[a]? =some ((Wh.reduced m l).1[a]).1:=by rw[aA,aa ha];rfl
     rw[S.cols,bE (by lia)] at h1;exact(aX h1).symm
    have e2:((Wh.reduced m l).1.map fun x:Nat×Wh.Row=>x.2.2).getD a 0=((Wh.reduced m l).1[a]).2.2:=by
     rw[gDe,aA,aa ha];rfl
    unfold sat dot;rw[mL m a (by lia) fun j hj hja=>by rw[S.unit _ hx j hj,af (by lia)];grind,S.unit _ hx a (by lia),ah xa.symm,e2];constructor
    ·intro h;grind
    ·intro h;rw[h];grind
   constructor
   ·rintro⟨h1,_⟩ j hj;exact(row j (by lia)).mp (h1 _ (bM _))
   ·intro h;refine⟨fun x hx=> ?_,fun _ h=>by cases h⟩;obtain⟨a,ha,e⟩:=aW hx;rw[<-e];exact(row a ha).mpr (h a (by lia))
 ·refine .inr ⟨?_,h2⟩;unfold Wh.solve Wh.rank;rw[af fun h=>by
   have:(Wh.reduced m l).1.length=m:=h.1;have h1':(Wh.reduced m l).1.length<m:=h1;lia]
end c9
namespace c9
open Lean.Grind (CommRing)
inductive Al{α β:Type}(R:α->β->Prop):List α->List β->Prop
 |nil:Al R [] []
 |cons {a:α} {b:β} {l:List α} {m:List β}:R a b->Al R l m->Al R (a::l) (b::m)
theorem Al.len{α β:Type}{R:α->β->Prop}:∀{l:List α} {m:List β},Al R l m->l.length=m.length
 |_,_,.nil=>rfl
 |_,_,.cons _ t=>congrArg (· +1) t.len
theorem Al.append{α β:Type}{R:α->β->Prop}:∀{l:List α} {m:List β} {l':List α} {m':List β},Al R l m->Al R l' m'->Al R (l ++ l') (m ++ m')
 |_,_,_,_,.nil,h=>h
 |_,_,_,_,.cons r t,h=> .cons r (t.append h)
theorem Al.get{α β:Type}{R:α->β->Prop}(d:α)(e:β):∀{l:List α} {m:List β},Al R l m->∀i,i<l.length->R (l.getD i d) (m.getD i e)
 |_,_,.nil,i,h=>by simp at h
 |_,_,.cons r t,0,_=>by simpa using r
 |_,_,.cons r t,i+1,h=>by
  have:=t.get d e i (by simpa using h);simpa using this
theorem Al.Qs{α β γ δ:Type}{R:γ->δ->Prop}{f:α->γ}{g:β->δ}:∀{l:List α} {m:List β},Al (fun a b=>R (f a) (g b)) l m->Al R (l.map f) (m.map g)
 |_,_,.nil=> .nil
 |_,_,.cons r t=> .cons r t.Qs
theorem Al.imp{α β:Type}{R S:α->β->Prop}(h:∀a b,R a b->S a b):∀{l:List α} {m:List β},Al R l m->Al S l m
 |_,_,.nil=> .nil
 |_,_,.cons r t=> .cons (h _ _ r) (t.imp h)
theorem Le{α β γ:Type}{R:α->β->Prop}{f:γ->α}{g:γ->β}:∀(l:List γ),(∀i∈l,R (f i) (g i))->Al R (l.map f) (l.map g)
 |[],_=> .nil
 |x::l,h=> .cons (h x ax) (Le l fun i hi=>h i (ak _ hi))
theorem Lf{α β γ:Type}{R:α->β->Prop}{f:γ->List α}{g:γ->List β}:∀(l:List γ),(∀i∈l,Al R (f i) (g i))->Al R (l.flatMap f) (l.flatMap g)
 |[],_=> .nil
 |x::l,h=>by
  rw[bb,bb];exact(h x ax).append (Lf l fun i hi=>h i (ak _ hi))
theorem EC{α:Type}(l:List α)(d:α):l=(List.range l.length).map fun i=>l.getD i d:=by
 apply cC
 ·simp
 ·intro i h1 h2;simp[gDe,aa h1]
theorem F5{α:Type}(l:List α)(d:α):l.zipIdx=(List.range l.length).map fun i=>(l.getD i d,i):=by
 apply cC
 ·simp
 ·intro i h1 h2;have h3:i<l.length:=by simpa using h1
  simp[gDe,aa h3]
theorem ED{α β:Type}(l:List α)(m:List β)(d:α)(e:β)(h:m.length=l.length):l.zip m=(List.range l.length).map fun i=>(l.getD i d,m.getD i e):=by
 apply cC
 ·simp[h]
 ·intro i h1 h2;have h3:i<l.length:=by simp at h1;lia
  have h4:i<m.length:=by lia
  simp[gDe,aa h3,aa h4]
structure Pn(p:Part):Prop where
 k0:0<=p.kind
 k1:p.kind<=13
 a0:0<=p.a
 b0:0<=p.b
 c0:0<=p.c
 d0:0<=p.d
 t:p.top.natAbs<=1000000
 b1:1<=p.dE
 b2:p.dE<=1000000
noncomputable def kindOf (z:Int):Wh.Kind:=Wh.kinds.getD z.toNat .R
noncomputable def du (p:Part):Wh.Elem:=
 ⟨kindOf p.kind,if Wh.nodeCount (kindOf p.kind)=0 then[] else[p.a.toNat,p.b.toNat,p.c.toNat,p.d.toNat].take (Wh.nodeCount (kindOf p.kind)),if kindOf p.kind= .M then[p.a.toNat,p.b.toNat] else if Wh.refCount (kindOf p.kind)=1 then[p.c.toNat] else[],(p.top:Rat) / (p.dE:Rat)⟩
noncomputable def de (n:Nw):Wh.Net:=⟨n.last.toNat,n.c8.map du⟩
theorem oj{z:Int}(h0:0<=z)(h1:z<=13):z=0\/z=1\/z=2\/z=3\/z=4\/z=5\/z=6\/z=7\/z=8\/z=9\/z=10\/z=11\/z=12\/z=13:=by lia
noncomputable def kindB (z:Nat):Bool:=decide ((kindOf z= .M↔z=3)/\(kindOf z= .T↔z=10)/\(kindOf z= .D↔z=13)/\(kindOf z= .V↔z=4)/\(kindOf z= .I↔z=5)/\(kindOf z= .L↔z=2)/\(kindOf z= .C↔z=1)/\(kindOf z= .H↔z=8)/\(kindOf z= .F↔z=9)/\(kindOf z= .S↔z=12)/\(kindOf z= .O↔z=11)/\(kindOf z= .E↔z=6)/\(kindOf z= .G↔z=7)/\(kindOf z= .R↔z=0))
theorem Mp:(List.range 14).all kindB=true:=by decide +kernel
theorem iy{z:Int}(h0:0<=z)(h1:z<=13):(kindOf z= .M↔z=3)/\(kindOf z= .T↔z=10)/\(kindOf z= .D↔z=13)/\(kindOf z= .V↔z=4)/\(kindOf z= .I↔z=5)/\(kindOf z= .L↔z=2)/\(kindOf z= .C↔z=1)/\(kindOf z= .H↔z=8)/\(kindOf z= .F↔z=9)/\(kindOf z= .S↔z=12)/\(kindOf z= .O↔z=11)/\(kindOf z= .E↔z=6)/\(kindOf z= .G↔z=7)/\(kindOf z= .R↔z=0):=by
 have h:=bD.mp Mp z.toNat (aT.mpr (by lia));have e:((z.toNat:Nat):Int)=z:=by lia
 have q:=az h;rw[e] at q;refine⟨?_,?_,?_,?_,?_,?_,?_,?_,?_,?_,?_,?_,?_,?_⟩
 ·rw[q.1];lia
 ·rw[q.2.1];lia
 ·rw[q.2.2.1];lia
 ·rw[q.2.2.2.1];lia
 ·rw[q.2.2.2.2.1];lia
 ·rw[q.2.2.2.2.2.1];lia
 ·rw[q.2.2.2.2.2.2.1];lia
 ·rw[q.2.2.2.2.2.2.2.1];lia
 ·rw[q.2.2.2.2.2.2.2.2.1];lia
 ·rw[q.2.2.2.2.2.2.2.2.2.1];lia
 ·rw[q.2.2.2.2.2.2.2.2.2.2.1];lia
 ·rw[q.2.2.2.2.2.2.2.2.2.2.2.1];lia
 ·rw[q.2.2.2.2.2.2.2.2.2.2.2.2.1];lia
 ·rw[q.2.2.2.2.2.2.2.2.2.2.2.2.2];lia
theorem Pn.M{p:Part}(h:Pn p):kindOf p.kind= .M↔p.kind=3:=(iy h.k0 h.k1).1
theorem Pn.T{p:Part}(h:Pn p):kindOf p.kind= .T↔p.kind=10:=(iy h.k0 h.k1).2.1
theorem Pn.D{p:Part}(h:Pn p):kindOf p.kind= .D↔p.kind=13:=(iy h.k0 h.k1).2.2.1
theorem jF(p:Part):(du p).kind=kindOf p.kind:=rfl
theorem F6(p:Part):(du p).q=(p.top:Rat) / (p.dE:Rat):=rfl
theorem Oi{p:Part}(h:Pn p):hX p=(((du p).currents:Nat):Int):=by
 unfold hX Wh.Elem.currents;rw[jF];by_cases h3:p.kind=3
 ·rw[ah h3,ah (h.M.mpr h3)];rfl
 ·rw[af h3,af (fun e=>h3 (h.M.mp e))];by_cases h10:p.kind=10
  ·rw[ah h10,ah (h.T.mpr h10)];rfl
  ·rw[af h10,af (fun e=>h10 (h.T.mp e))];rfl
theorem fJ(a:Nat)(l:List Nat):Wh.sumNat (a::l)=a+Wh.sumNat l:=by
 have:∀(l:List Nat) (x:Nat),l.foldl (fun(a b:Nat)=>a+b) x=x+l.foldl (fun(a b:Nat)=>a+b) 0:=by
  intro l;induction l with
  |nil=>intro x;simp
  |cons b l ih=>
   intro x;rw[bz,bz,ih (x+b),ih (0+b)];lia
 unfold Wh.sumNat;rw[bz,this];lia
theorem xq:∀(ps:List Part) (f:Int) (k:Nat),(∀p∈ps,Pn p)->k<ps.length->(fT f ps).getD k 0=f+((Wh.sumNat (((ps.map du).take k).map Wh.Elem.currents):Nat):Int)
 |[],_,k,_,h=>by simp at h
 |p::ps,f,0,_,_=>by
  show f=f+((0:Nat):Int);lia
 |p::ps,f,k+1,hp,h=>by
  show(fT (f+hX p) ps).getD k 0=_;rw[xq ps (f+hX p) k (fun q hq=>hp q (ak _ hq)) (by simpa using h),Oi (hp p ax)];rw[aJ,List.take_succ_cons,aJ,fJ];push_cast;lia
theorem EE:∀(ps:List Part),(∀p∈ps,Pn p)->(ps.map hX).sum=((Wh.sumNat ((ps.map du).map Wh.Elem.currents):Nat):Int)
 |[],_=>rfl
 |p::ps,hp=>by
  rw[aJ,b6,EE ps (fun q hq=>hp q (ak _ hq)),Oi (hp p ax),aJ,aJ,fJ];push_cast;rfl
structure Right(n:Nw):Prop where
 l1:1<=n.last
 l8:n.last<=8
 c8:n.c8.length<=12
 ns:(n.c8.filter fun p=>decide (p.kind≠4/\p.kind≠5)).length<=10
 pn:∀p∈n.c8,Pn p
 ok:fault n=[]
theorem memD{α:Type}{l:List α}{k:Nat}{d:α}(h:k<l.length):l.getD k d∈l:=by
 rw[gDe,aa h];exact bM h
section
variable {n:Nw}(R:Right n)
include R
theorem Right.p{k:Nat}(h:k<n.c8.length):Pn (n.c8.getD k p0):=R.pn _ (memD h)
theorem Right.nodes:((de n).nodes:Int)=n.last:=by
 show((n.last.toNat:Nat):Int)=n.last;have:=R.l1;lia
theorem Right.place{k:Nat}(h:k<n.c8.length):(places n).getD k 0=(((de n).at_ k:Nat):Int):=by
 unfold places;rw[xq n.c8 n.last k R.pn h];unfold Wh.Net.at_;have:=R.nodes;push_cast;rw[this];rfl
theorem Right.yH:width n=(((de n).unknowns:Nat):Int):=by
 unfold width Wh.Net.unknowns Wh.Net.at_;rw[EE n.c8 R.pn];have:=R.nodes;have e:(de n).elems.take (de n).elems.length=n.c8.map du:=aG;rw[e];push_cast;rw[this]
theorem Right.elem{k:Nat}(h:k<n.c8.length):(de n).elems[k]? =some (du (n.c8.getD k p0)):=by
 show(n.c8.map du)[k]? =_;rw[aA,gDe,aa h];rfl
end
theorem Ap(n:Nw):∀f,f<=n.c8.length->ji n f=[]->∀k,n.c8.length - f<=k->k<n.c8.length->gE n k=0
 |0,_,_,k,h1,h2=>by lia
 |f+1,hf,h,k,h1,h2=>by
  unfold ji at h;dsimp only at h;split at h
  ·cases h
  ·rename_i e;by_cases q:k=n.c8.length - (f+1)
   ·rw[q];exact cM.mp e
   ·exact Ap n f (by lia) h k (by lia) h2
theorem Right.f0{n:Nw}(R:Right n){k:Nat}(h:k<n.c8.length):gE n k=0:=Ap n n.c8.length (ai _) R.ok k (by lia) h
structure Rk(n:Nw)(k:Nat):Prop where
 nodes:∀v∈gD (n.c8.getD k p0),v<=n.last
 num:lJ (n.c8.getD k p0)=true
 Qt:fA n.c8 k=true
 VW:(n.c8.getD k p0).kind=3->lK n.c8 k=0
theorem Qu{n:Nw}{k:Nat}(h:gE n k=0):Rk n k:=by
 unfold gE at h;dsimp only at h;by_cases h1:(gD (n.c8.getD k p0)).any (fun v=>decide (n.last<v))=true
 ·rw[ah h1] at h;exact absurd h (by decide)
 rw[af h1] at h;by_cases h2:lJ (n.c8.getD k p0)=false
 ·rw[ah h2] at h;exact absurd h (by decide)
 rw[af h2] at h;by_cases h3:fA n.c8 k=false
 ·rw[ah h3] at h;exact absurd h (by decide)
 rw[af h3] at h;refine⟨fun v hv=> ?_,by simpa using h2,by simpa using h3,fun e=>by rw[ah e] at h;exact h⟩;have:¬n.last<v:=fun q=>h1 (bJ.mpr ⟨v,hv,aj q⟩)
 lia
section
variable {n:Nw}(R:Right n){k:Nat}(h:k<n.c8.length)
include R h
theorem Right.g1:Rk n k:=Qu (R.f0 h)
theorem Right.ab(h3:(n.c8.getD k p0).kind≠3):(n.c8.getD k p0).a<=n.last/\(n.c8.getD k p0).b<=n.last:=by
 have g:=(R.g1 h).nodes;unfold gD at g;rw[af h3] at g;split at g
 ·exact⟨g _ (by simp),g _ (by simp)⟩
 ·exact⟨g _ (by simp),g _ (by simp)⟩
theorem Right.cd(h4:(n.c8.getD k p0).kind=6\/(n.c8.getD k p0).kind=7\/(n.c8.getD k p0).kind=10\/(n.c8.getD k p0).kind=11):(n.c8.getD k p0).c<=n.last/\(n.c8.getD k p0).d<=n.last:=by
 have g:=(R.g1 h).nodes;unfold gD at g;rw[af (by lia),ah h4] at g;exact⟨g _ (by simp),g _ (by simp)⟩
theorem Right.Qt(h4:(n.c8.getD k p0).kind=8\/(n.c8.getD k p0).kind=9):(n.c8.getD k p0).c<k/\kindAt n.c8 (n.c8.getD k p0).c≠3:=by
 have g:=(R.g1 h).Qt;unfold fA at g;dsimp only at g;rw[af (fun q=>q h4)] at g;obtain⟨g1,g2⟩:=(aF _ _).mp g;exact⟨az g1,az g2⟩
theorem Right.Mq(h4:(n.c8.getD k p0).kind=3):(n.c8.getD k p0).a≠(n.c8.getD k p0).b/\((n.c8.getD k p0).a<k/\kindAt n.c8 (n.c8.getD k p0).a=2)/\((n.c8.getD k p0).b<k/\kindAt n.c8 (n.c8.getD k p0).b=2):=by
 have g:=(R.g1 h).VW h4;unfold lK at g;dsimp only at g;by_cases h1:(n.c8.getD k p0).a=(n.c8.getD k p0).b\/dU n.c8 (n.c8.getD k p0).a k=false\/dU n.c8 (n.c8.getD k p0).b k=false
 ·rw[ah h1] at g;exact absurd g (by decide)
 have q1:dU n.c8 (n.c8.getD k p0).a k=true:=by
  cases e:dU n.c8 (n.c8.getD k p0).a k with
  |true=>rfl
  |false=>exact absurd (.inr (.inl e)) h1
 have q2:dU n.c8 (n.c8.getD k p0).b k=true:=by
  cases e:dU n.c8 (n.c8.getD k p0).b k with
  |true=>rfl
  |false=>exact absurd (.inr (.inr e)) h1
 unfold dU at q1 q2;obtain⟨a1,a2⟩:=(aF _ _).mp q1;obtain⟨b1,b2⟩:=(aF _ _).mp q2;exact⟨fun e=>h1 (.inl e),⟨az a1,az a2⟩,⟨az b1,az b2⟩⟩
end
noncomputable def Pv (φ:Nat->PF):List Term->PF
 |[]=>0
 |t::ts=>dF t.2*φ t.1.toNat+Pv φ ts
theorem g9(φ:Nat->PF):∀a b:List Term,Pv φ (a ++ b)=Pv φ a+Pv φ b
 |[],b=>by
  show Pv φ b=0+Pv φ b;grind
 |t::a,b=>by
  show dF t.2*φ t.1.toNat+Pv φ (a ++ b)=dF t.2*φ t.1.toNat+Pv φ a+Pv φ b;rw[g9 φ a b];grind
theorem rK(φ:Nat->PF)(p:dQ):∀a:List Term,Pv φ (rC a p)=Pv φ a*dF p
 |[]=>by
  show(0:PF)=0*dF p;grind
 |t::a=>by
  show dF (gX t.2 p)*φ t.1.toNat+Pv φ (rC a p)=(dF t.2*φ t.1.toNat+Pv φ a)*dF p;rw[rK φ p a,jR];grind
noncomputable def Rv (φ:Nat->PF):List (Nat×Rat)->PF
 |[]=>0
 |t::ts=>PF.const t.2*φ t.1+Rv φ ts
theorem hC(φ:Nat->PF):∀a b:List (Nat×Rat),Rv φ (a ++ b)=Rv φ a+Rv φ b
 |[],b=>by
  show Rv φ b=0+Rv φ b;grind
 |t::a,b=>by
  show PF.const t.2*φ t.1+Rv φ (a ++ b)=PF.const t.2*φ t.1+Rv φ a+Rv φ b;rw[hC φ a b];grind
noncomputable def Lv (φ:Nat->PF) (σ:PF) (m:Nat) (L:Wh.Law):PF:=Rv φ L.terms+σ*Rv φ L.byS+PF.const L.right*φ m
noncomputable def Ce (σ:PF) (m:Nat) (ts:List Term) (L:Wh.Law):Prop:=∃κ:Rat,0<κ/\∀φ:Nat->PF,Pv φ ts=PF.const κ*Lv φ σ m L
theorem xr:dF [1]=1:=PF.ext fun x=>by
 rw[e9];show((1:Int):Rat)+x*0=((1:Nat):Rat);grind
theorem Cf:dF [-1]= -1:=PF.ext fun x=>by
 rw[e9];show((-1:Int):Rat)+x*0= -((1:Nat):Rat);grind
theorem gu(c:Rat):PF.const (-c)= - PF.const c:=rfl
noncomputable def vN (φ:Nat->PF) (z:Int):PF:=if 0<z then φ (z - 1).toNat else 0
theorem lO(φ:Nat->PF)(a b:Int):Pv φ (Hr a b)=vN φ a - vN φ b:=by
 unfold Hr vN;rw[g9];by_cases h1:0<a <;>by_cases h2:0<b <;>simp only[h1,h2,if_true,if_false] <;>simp only[Pv,xr,Cf] <;>grind
theorem Lg(φ:Nat->PF)(a:Int)(ha:0<=a)(q:Rat):Rv φ (Wh.volt a.toNat q)=PF.const q*vN φ a:=by
 unfold Wh.volt vN;by_cases h:0<a
 ·rw[af (by lia),ah h];have e:a.toNat - 1=(a - 1).toNat:=by lia
  show PF.const q*φ (a.toNat - 1)+0=_;rw[e];grind
 ·rw[ah (by lia),af h];show(0:PF)=_;grind
theorem gI(φ:Nat->PF)(a b:Int)(ha:0<=a)(hb:0<=b)(q:Rat):Rv φ (Wh.across a.toNat b.toNat q)=PF.const q*(vN φ a - vN φ b):=by
 unfold Wh.across;rw[hC,Lg φ a ha,Lg φ b hb,gu];grind
structure lQ(n:Nw)(g:lh)(G:Wh.Setting):Prop where
 dZ:g.dZ=n
 on:∀k,k<n.c8.length->G.on k=g.gF.getD k false
 val:∀k,k<n.c8.length->((n.c8.getD k p0).kind=4\/(n.c8.getD k p0).kind=5)->0<(g.drives.getD k (0,1)).2/\G.value k=((g.drives.getD k (0,1)).1:Rat) / ((g.drives.getD k (0,1)).2:Rat)
 drop:∀k,k<n.c8.length->(n.c8.getD k p0).kind=13->0<(g.drives.getD k (0,1)).2/\G.drop k=((g.drives.getD k (0,1)).1:Rat) / ((g.drives.getD k (0,1)).2:Rat)
theorem jZ{b:Int}(h:0<b):(0:Rat)<(b:Rat):=by exact_mod_cast h
theorem uY{a b:Int}(h:0<b):PF.const (b:Rat)*PF.const ((a:Rat) / (b:Rat))=PF.const (a:Rat):=by
 rw[<-nQ];congr 1;have:=jZ h;grind
theorem DD(z:Int):PF.const ((-z:Int):Rat)= - PF.const (z:Rat):=PF.ext fun x=>by
 show((-z:Int):Rat)= -(z:Rat);push_cast;rfl
section
variable {n:Nw}(R:Right n){g:lh}{G:Wh.Setting}(S:lQ n g G){k:Nat}(hk:k<n.c8.length)
include R
theorem Sq{j:Int}(h0:0<=j)(hj:j<n.c8.length):((places n).getD j.toNat 0).toNat=(de n).at_ j.toNat:=by
 rw[R.place (by lia),a8]
include S
theorem F7(φ:Nat->PF){j:Int}(h0:0<=j)(hj:j<n.c8.length):Pv φ (cur g j)=φ ((de n).at_ j.toNat):=by
 unfold cur;rw[S.dZ];show dF [1]*φ ((places n).getD j.toNat 0).toNat+0=_;rw[Sq R h0 hj,xr];grind
theorem JI(φ:Nat->PF)(ts:List Term):Pv φ (Bh g k ts)=Pv φ ts*PF.const ((g.drives.getD k (0,1)).2:Rat)+PF.const ((g.drives.getD k (0,1)).1:Rat)*φ (de n).unknowns:=by
 unfold Bh;rw[g9,rK,uT,S.dZ];show _+ (dF (cst _)*φ (width n).toNat+0)=_;rw[uT,R.yH,a8];grind
omit S R in
theorem pU(φ:Nat->PF)(p:Part)(l r:List Term):Pv φ (oa p l r)=Pv φ l*PF.const (p.dE:Rat) - Pv φ r*PF.const (p.top:Rat):=by
 unfold oa;rw[g9,rK,rK,uT,uT,DD];grind
end
theorem gh{p:Part}{d:Wh.Kind}(hd:kindOf p.kind=d)(h:Wh.nodeCount d=2\/Wh.nodeCount d=4):(du p).node 0=p.a.toNat/\(du p).node 1=p.b.toNat:=by
 unfold Wh.Elem.node du;dsimp only;rw[hd];rcases h with h |h <;>rw[h] <;>exact⟨rfl,rfl⟩
theorem km{p:Part}{d:Wh.Kind}(hd:kindOf p.kind=d)(h:Wh.nodeCount d=4):(du p).node 2=p.c.toNat/\(du p).node 3=p.d.toNat:=by
 unfold Wh.Elem.node du;dsimp only;rw[hd,h];exact⟨rfl,rfl⟩
theorem F8{p:Part}{d:Wh.Kind}(hd:kindOf p.kind=d)(hM:d≠.M)(h:Wh.refCount d=1):(du p).refs.getD 0 0=p.c.toNat:=by
 unfold du;dsimp only;rw[hd,af hM,h];rfl
theorem vQ{σ:PF}{m:Nat}{ts:List Term}{L:Wh.Law}(κ:Rat)(hκ:0<κ)(h:∀φ:Nat->PF,Pv φ ts=PF.const κ*Lv φ σ m L):Al (Ce σ m) [ts] [L]:= .cons ⟨κ,hκ,h⟩ .nil
section
variable {n:Nw}(R:Right n){g:lh}{G:Wh.Setting}(S:lQ n g G){k:Nat}(hk:k<n.c8.length)
noncomputable def S8 (φ:Nat->PF) (n:Nw) (sh:List (Int×Int×Int)):PF:=sh.foldr (fun x acc=>PF.const ((x.2.1:Rat) / (x.2.2:Rat))*φ ((de n).at_ x.1.toNat)+acc) 0
theorem vR:∀(sh:List (Int×Int×Int)) (c:Int),0<c->(∀x∈sh,0<x.2.2)->0<sh.foldl (fun c x=>c*x.2.2) c
 |[],c,hc,_=>hc
 |x::sh,c,hc,h=>vR sh _ (Int.mul_pos hc (h x ax)) fun y hy=>h y (ak _ hy)
theorem Cg:∀(sh:List (Int×Int×Int)) (c:Int),c ∣ sh.foldl (fun c x=>c*x.2.2) c/\∀x∈sh,x.2.2 ∣ sh.foldl (fun c x=>c*x.2.2) c
 |[],c=>⟨Int.dvd_refl _,fun _ h=>by cases h⟩
 |x::sh,c=>by
  obtain⟨h1,h2⟩:=Cg sh (c*x.2.2);refine⟨cj ⟨x.2.2,rfl⟩ h1,fun y hy=> ?_⟩;rcases aH.mp hy with rfl |hy
  ·exact cj ⟨c,Int.mul_comm _ _⟩ h1
  ·exact h2 y hy
include R S
theorem EF(φ:Nat->PF)(cm:Int)(hcm:0<cm):∀sh:List (Int×Int×Int),(∀x∈sh,0<=x.1/\x.1<n.c8.length/\0<x.2.2/\x.2.2 ∣ cm)->
  Pv φ (sh.flatMap fun x=>rC (rC (cur g x.1) g.s) (cst (-x.2.1*cm.fdiv x.2.2)))= - (PF.const (cm:Rat)*(dF g.s*S8 φ n sh))
 |[],_=>by
  show(0:PF)= -(_* (_* 0));grind
 |x::sh,h=>by
  obtain⟨h0,h1,h2,h3⟩:=h x ax;rw[bb,g9,EF φ cm hcm sh (fun y hy=>h y (ak _ hy)),rK,rK,F7 R S φ h0 h1,uT];obtain⟨q,hq⟩:=h3;have e:cm.fdiv x.2.2=q:=by
   rw[hq,Int.mul_comm,cZ _ (by lia)]
  have e2:PF.const ((-x.2.1*q:Int):Rat)= - (PF.const (cm:Rat)*PF.const ((x.2.1:Rat) / (x.2.2:Rat))):=by
   rw[<-nQ,<-gu];congr 1;rw[hq];have:=jZ h2;push_cast;grind
  rw[e,e2];show _= -(PF.const (cm:Rat)*(dF g.s*(PF.const ((x.2.1:Rat) / (x.2.2:Rat))*φ ((de n).at_ x.1.toNat)+S8 φ n sh)));grind
end
theorem Ci(φ:Nat->PF)(n:Nw)(x:Int×Int×Int)(sh:List (Int×Int×Int)):S8 φ n (x::sh)=PF.const ((x.2.1:Rat) / (x.2.2:Rat))*φ ((de n).at_ x.1.toNat)+S8 φ n sh:=rfl
theorem Ar(φ:Nat->PF)(n:Nw)(k:Nat):∀(ps:List Part),(∀p∈ps,Pn p/\(p.kind=3->p.a≠p.b))->
  Rv φ (((ps.map du).filterMap fun(x:Wh.Elem)=>if x.kind= .M then(if x.refs.getD 0 0=k then some (x.refs.getD 1 0,x.q) else if x.refs.getD 1 0=k then some (x.refs.getD 0 0,x.q) else none) else none).map fun(p:Nat×Rat)=>((de n).at_ p.1,-p.2))=
   - S8 φ n ((ps.filter fun p=>decide (p.kind=3/\((k:Int)=p.a\/(k:Int)=p.b))).map fun p=>(p.a+p.b - k,p.top,p.dE))
 |[],_=>by
  show(0:PF)= - 0;grind
 |p::ps,h=>by
  obtain⟨hp,hab⟩:=h p ax;have ih:=Ar φ n k ps fun q hq=>h q (ak _ hq)
  rw[aJ,cX];have eM:(du p).kind= .M↔p.kind=3:=hp.M;have a0:=hp.a0;have b0:=hp.b0;by_cases h3:p.kind=3
  ·have r0:(du p).refs.getD 0 0=p.a.toNat/\(du p).refs.getD 1 0=p.b.toNat:=by
    unfold du;dsimp only;rw[ah (hp.M.mpr h3)];exact⟨rfl,rfl⟩
   have hne:=hab h3;rw[ah (eM.mpr h3),r0.1,r0.2];by_cases ka:p.a.toNat=k
   ·rw[ah ka];dsimp only;rw[aR (by exact aj ⟨h3,.inl (by lia)⟩),aJ,aJ,Ci];show PF.const (-(du p).q)*φ ((de n).at_ p.b.toNat)+Rv φ _=_;rw[ih,gu,F6];have e:(p.a+p.b - (k:Int)).toNat=p.b.toNat:=by lia
    rw[e];grind
   ·rw[af ka];by_cases kb:p.b.toNat=k
    ·rw[ah kb];dsimp only;rw[aR (by exact aj ⟨h3,.inr (by lia)⟩),aJ,aJ,Ci];show PF.const (-(du p).q)*φ ((de n).at_ p.a.toNat)+Rv φ _=_;rw[ih,gu,F6];have e:(p.a+p.b - (k:Int)).toNat=p.a.toNat:=by lia
     rw[e];grind
    ·rw[af kb];dsimp only;rw[aU (by rw[a9];lia)];exact ih
  ·rw[af (fun e=>h3 (eM.mp e))];dsimp only;rw[aU (by rw[a9];exact fun q=>h3 q.1)];exact ih
section
variable {n:Nw}(R:Right n){g:lh}{G:Wh.Setting}(S:lQ n g G){k:Nat}(hk:k<n.c8.length)
include R
theorem Cj(hk2:(n.c8.getD k p0).kind=2)(hk:k<n.c8.length):∀x∈eQ n.c8 k,0<=x.1/\x.1<n.c8.length/\1<=x.2.2/\x.2.2<=1000000/\x.2.1.natAbs<=1000000:=fun x hx=>by
 unfold eQ at hx;rcases aH.mp hx with rfl |hx
 ·have:=R.p hk;exact⟨cw _,by show(k:Int)<_;lia,this.b1,this.b2,this.t⟩
 ·obtain⟨p,hp,rfl⟩:=aN.mp hx;obtain⟨hm,hc⟩:=bT.mp hp;have hc:=az hc;obtain⟨i,hi,e⟩:=aW hm;have ep:n.c8.getD i p0=p:=by rw[gDe,aa hi,e];rfl
  have cp:=R.Mq hi (by rw[ep];exact hc.1);have pp:=R.p hi;rw[ep] at cp pp;have:=pp.a0;have:=pp.b0;refine⟨?_,?_,pp.b1,pp.b2,pp.t⟩
  ·show 0<=p.a+p.b - (k:Int);lia
  ·show p.a+p.b - (k:Int)<_;lia
include S
theorem Oj(hk:k<n.c8.length):Al (Ce (dF g.s) (de n).unknowns) (fQ g k) ((de n).lawsOf G k (du (n.c8.getD k p0))):=by
 have pp:=R.p hk;have a0:=pp.a0;have b0:=pp.b0;have c0:=pp.c0;have d0:=pp.d0;have bp:(0:Rat)<((n.c8.getD k p0).dE:Rat):=jZ (by have:=pp.b1;lia);have cd:=uY (a:=(n.c8.getD k p0).top) (b:=(n.c8.getD k p0).dE) (by have:=pp.b1;lia);have ck:∀φ,Pv φ (cur g (k:Int))=φ ((de n).at_ k):=fun φ=>by
  have:=F7 R S φ (j:=(k:Int)) (by lia) (by lia)
  rwa [a8] at this
 have c1:=fX;have c00:=B3;unfold fQ Wh.Net.lawsOf;rw[S.dZ];dsimp only;rw[jF,F6];have mn:=(R.g1 hk).num;have fo:=R.Qt hk;have oi:=S.on k hk;have va:=S.val k hk;have dr:=S.drop k hk;have cpl:=Ar;generalize hp:n.c8.getD k p0=p at *;rcases oj pp.k0 pp.k1 with e |e |e |e |e |e |e |e |e |e |e |e |e |e
 ·have hd:kindOf p.kind= .R:=by rw[e];rfl
  have ek:p.kind.toNat=0:=by rw[e];rfl
  rw[hd,ek];dsimp only;obtain⟨n0,n1⟩:=gh hd (.inl rfl);refine vQ p.dE bp fun φ=> ?_
  unfold Lv;dsimp only;rw[n0,n1,pU,ck,hC,gI φ p.a p.b a0 b0];unfold lL;rw[lO];simp only[Rv,gu];grind
 ·have hd:kindOf p.kind= .C:=by rw[e];rfl
  have ek:p.kind.toNat=1:=by rw[e];rfl
  rw[hd,ek];dsimp only;obtain⟨n0,n1⟩:=gh hd (.inl rfl);refine vQ p.dE bp fun φ=> ?_
  unfold Lv;dsimp only;rw[n0,n1,pU,ck,gI φ p.a p.b a0 b0,rK];unfold lL;rw[lO];simp only[Rv,gu];grind
 ·have hd:kindOf p.kind= .L:=by rw[e];rfl
  have ek:p.kind.toNat=2:=by rw[e];rfl
  rw[hd,ek];dsimp only;obtain⟨n0,n1⟩:=gh hd (.inl rfl);have sin:=Cj R (k:=k) (by rw[hp];exact e) hk;have cpos:0<common (eQ n.c8 k):=vR _ 1 (by decide) fun x hx=>by have:=sin x hx;lia
  have cdv:=(Cg (eQ n.c8 k) 1).2;refine vQ (common (eQ n.c8 k):Rat) (jZ cpos) fun φ=> ?_
  unfold mz Lv;dsimp only;rw[S.dZ,g9,rK,uT,EF R S φ _ cpos _ (fun x hx=>⟨(sin x hx).1,(sin x hx).2.1,by have:=sin x hx;lia,cdv x hx⟩),n0,n1,gI φ p.a p.b a0 b0,hp];unfold lL;rw[lO];have e1:Rv φ (((de n).at_ k,-((p.top:Rat) / (p.dE:Rat)))::((de n).coupled k).map fun(p:Nat×Rat)=>((de n).at_ p.1,-p.2))= - S8 φ n (eQ n.c8 k):=by
   show PF.const (-((p.top:Rat) / (p.dE:Rat)))*φ ((de n).at_ k)+Rv φ _=_;unfold Wh.Net.coupled;have:=cpl φ n k n.c8 (fun q hq=>⟨R.pn q hq,fun e3=>by
    obtain⟨i,hi,ei⟩:=aW hq;have ep:n.c8.getD i p0=q:=by rw[gDe,aa hi,ei];rfl
    have:=R.Mq hi (by rw[ep];exact e3);rw[ep] at this;exact this.1⟩)
   rw[show(de n).elems=n.c8.map du from rfl,this];unfold eQ;rw[Ci,hp,a8,gu];grind
  rw[e1];grind
 ·have hd:kindOf p.kind= .M:=by rw[e];rfl
  have ek:p.kind.toNat=3:=by rw[e];rfl
  rw[hd,ek];exact .nil
 ·have hd:kindOf p.kind= .V:=by rw[e];rfl
  have ek:p.kind.toNat=4:=by rw[e];rfl
  rw[hd,ek];dsimp only;obtain⟨n0,n1⟩:=gh hd (.inl rfl);obtain⟨v1,v2⟩:=va (.inl e);refine vQ _ (jZ v1) fun φ=> ?_
  unfold Lv;dsimp only;have:=uY (a:=(g.drives.getD k (0,1)).1) v1;rw[n0,n1,JI R S,v2,gI φ p.a p.b a0 b0];unfold lL;rw[lO];simp only[Rv];grind
 ·have hd:kindOf p.kind= .I:=by rw[e];rfl
  have ek:p.kind.toNat=5:=by rw[e];rfl
  rw[hd,ek];dsimp only;obtain⟨v1,v2⟩:=va (.inr e);refine vQ _ (jZ v1) fun φ=> ?_
  unfold Lv;dsimp only;have:=uY (a:=(g.drives.getD k (0,1)).1) v1;rw[JI R S,v2,ck];simp only[Rv];grind
 ·have hd:kindOf p.kind= .E:=by rw[e];rfl
  have ek:p.kind.toNat=6:=by rw[e];rfl
  rw[hd,ek];dsimp only;obtain⟨n0,n1⟩:=gh hd (.inr rfl);obtain⟨n2,n3⟩:=km hd rfl;refine vQ p.dE bp fun φ=> ?_
  unfold Lv;dsimp only;rw[n0,n1,n2,n3,pU,hC,gI φ p.a p.b a0 b0,gI φ p.c p.d c0 d0];unfold lL FQ;rw[lO,lO];simp only[Rv,gu];grind
 ·have hd:kindOf p.kind= .G:=by rw[e];rfl
  have ek:p.kind.toNat=7:=by rw[e];rfl
  rw[hd,ek];dsimp only;obtain⟨n2,n3⟩:=km hd rfl;refine vQ p.dE bp fun φ=> ?_
  unfold Lv;dsimp only;rw[n2,n3,pU,ck];show _=_* (PF.const 1*φ ((de n).at_ k)+Rv φ (Wh.across p.c.toNat p.d.toNat (-((p.top:Rat) / (p.dE:Rat))))+dF g.s*0+_);rw[gI φ p.c p.d c0 d0];unfold FQ;rw[lO];simp only[gu];grind
 ·have hd:kindOf p.kind= .H:=by rw[e];rfl
  have ek:p.kind.toNat=8:=by rw[e];rfl
  rw[hd,ek];dsimp only;obtain⟨n0,n1⟩:=gh hd (.inl rfl);have r0:=F8 hd (by decide) rfl;have ff:=fo (.inl e);refine vQ p.dE bp fun φ=> ?_
  unfold Lv;dsimp only;rw[n0,n1,r0,pU,hC,gI φ p.a p.b a0 b0,F7 R S φ c0 (by lia)];unfold lL;rw[lO];simp only[Rv,gu];grind
 ·have hd:kindOf p.kind= .F:=by rw[e];rfl
  have ek:p.kind.toNat=9:=by rw[e];rfl
  rw[hd,ek];dsimp only;have r0:=F8 hd (by decide) rfl;have ff:=fo (.inr e);refine vQ p.dE bp fun φ=> ?_
  unfold Lv;dsimp only;rw[r0,pU,ck,F7 R S φ c0 (by lia)];simp only[Rv,gu];grind
 ·have hd:kindOf p.kind= .T:=by rw[e];rfl
  have ek:p.kind.toNat=10:=by rw[e];rfl
  rw[hd,ek];dsimp only;obtain⟨n0,n1⟩:=gh hd (.inr rfl);obtain⟨n2,n3⟩:=km hd rfl;refine .cons ⟨p.dE,bp,fun φ=> ?_⟩ (vQ p.dE bp fun φ=> ?_)
  ·unfold Lv;dsimp only;rw[n0,n1,n2,n3,pU,hC,gI φ p.a p.b a0 b0,gI φ p.c p.d c0 d0];unfold lL FQ;rw[lO,lO];simp only[Rv,gu];grind
  ·unfold Lv;dsimp only;rw[pU,rK,ck,Cf];have e1:Pv φ [((places n).getD k 0+1,[1])]=φ ((de n).at_ k+1):=by
    show dF [1]*φ ((places n).getD k 0+1).toNat+0=_;have:((places n).getD k 0+1).toNat=(de n).at_ k+1:=by
     rw[R.place hk];lia
    rw[this,xr];grind
   rw[e1];simp only[Rv];grind
 ·have hd:kindOf p.kind= .O:=by rw[e];rfl
  have ek:p.kind.toNat=11:=by rw[e];rfl
  rw[hd,ek];dsimp only;obtain⟨n2,n3⟩:=km hd rfl;refine vQ 1 (by decide) fun φ=> ?_
  unfold Lv;dsimp only;rw[n2,n3,gI φ p.c p.d c0 d0];unfold FQ;rw[lO];simp only[Rv];grind
 ·have hd:kindOf p.kind= .S:=by rw[e];rfl
  have ek:p.kind.toNat=12:=by rw[e];rfl
  rw[hd,ek];show Al _ [if p.top=0 then cur g k else lL p] (if(p.top:Rat) / (p.dE:Rat)=1 then[_] else[_]);obtain⟨n0,n1⟩:=gh hd (.inl rfl);have hm:p.top=0\/p.top=p.dE:=by
   unfold lJ at mn;rw[af (by lia),af (by lia),af (by lia),ah e] at mn;exact az mn
  by_cases ht:p.top=0
  ·rw[ah ht,af (by
    rw[ht];intro q;have:(((0:Int):Rat) / (p.dE:Rat))=0:=by
     push_cast;grind
    rw[this] at q;exact absurd q (by decide))]
   refine vQ 1 (by decide) fun φ=> ?_
   unfold Lv;dsimp only;rw[ck];simp only[Rv];grind
  ·have htb:p.top=p.dE:=hm.resolve_left ht;rw[af ht,ah (by rw[htb];grind)];refine vQ 1 (by decide) fun φ=> ?_
   unfold Lv;dsimp only;rw[n0,n1,gI φ p.a p.b a0 b0];unfold lL;rw[lO];simp only[Rv];grind
 ·have hd:kindOf p.kind= .D:=by rw[e];rfl
  have ek:p.kind.toNat=13:=by rw[e];rfl
  rw[hd,ek];show Al _ (if g.gF.getD k false=true then[Bh g k (lL p)] else[cur g k]) (if G.on k=true then[_] else[_]);obtain⟨n0,n1⟩:=gh hd (.inl rfl);obtain⟨v1,v2⟩:=dr e;rw[oi];by_cases ho:g.gF.getD k false=true
  ·rw[ah ho,ah ho];refine vQ _ (jZ v1) fun φ=> ?_
   unfold Lv;dsimp only;have:=uY (a:=(g.drives.getD k (0,1)).1) v1;rw[n0,n1,JI R S,v2,gI φ p.a p.b a0 b0];unfold lL;rw[lO];simp only[Rv];grind
  ·rw[af ho,af ho];refine vQ 1 (by decide) fun φ=> ?_
   unfold Lv;dsimp only;rw[ck];simp only[Rv];grind
end
theorem fB(n:Nw):(de n).indexed=(List.range n.c8.length).map fun k=>(k,du (n.c8.getD k p0)):=by
 unfold Wh.Net.indexed;rw[F5 (de n).elems (du p0),aQ];show(List.range (n.c8.map du).length).map _=_;rw[lMp];apply aY;intro i hi;have hi:=aT.mp hi;show(i,(n.c8.map du).getD i (du p0))=_;rw[gDe,aA,gDe,aa hi];rfl
theorem Lh(φ:Nat->PF){γ:Type}{f:γ->List Term}{h:γ->List (Nat×Rat)}:∀(l:List γ),(∀i∈l,Pv φ (f i)=Rv φ (h i))->Pv φ (l.flatMap f)=Rv φ (l.flatMap h)
 |[],_=>rfl
 |x::l,e=>by
  rw[bb,bb,g9,hC,e x ax,Lh φ l fun i hi=>e i (ak _ hi)]
theorem vw(n:Nw):(places n).length=n.c8.length:=by
 unfold places;have:∀(ps:List Part) (f:Int),(fT f ps).length=ps.length:=by
  intro ps;induction ps with
  |nil=>intro f;rfl
  |cons p ps ih=>intro f;show(fT _ ps).length+1=_;rw[ih];rfl
 exact this _ _
theorem JJ(φ:Nat->PF)(c:Prop) [Decidable c](i:Nat):Rv φ (if c then[(i,1)] else[])=if c then φ i else 0:=by
 split
 ·show PF.const 1*φ i+0=_;rw[fX];grind
 ·rfl
theorem JK(φ:Nat->PF)(c:Prop) [Decidable c](i:Nat):Rv φ (if c then[(i,-1)] else[])=if c then - φ i else 0:=by
 split
 ·show PF.const (-1)*φ i+0=_;rw[gu,fX];grind
 ·rfl
theorem JL(φ:Nat->PF)(c:Prop) [Decidable c](i:Int):Pv φ (if c then[(i,[1])] else[])=if c then φ i.toNat else 0:=by
 split
 ·show dF [1]*φ i.toNat+0=_;rw[xr];grind
 ·rfl
theorem JM(φ:Nat->PF)(c:Prop) [Decidable c](i:Int):Pv φ (if c then[(i,[-1])] else[])=if c then - φ i.toNat else 0:=by
 split
 ·show dF [-1]*φ i.toNat+0=_;rw[Cf];grind
 ·rfl
theorem Ol{n:Nw}(R:Right n)(σ:PF)(m v:Nat):Ce σ m (iO n ((v:Int)+1)) ⟨(de n).indexed.flatMap fun(p:Nat×Wh.Elem)=>(de n).outOf (v+1) p.1 p.2,[],0⟩:=by
 refine⟨1,by decide,fun φ=> ?_⟩;unfold Lv;dsimp only;have e:Pv φ (iO n ((v:Int)+1))=Rv φ ((de n).indexed.flatMap fun(p:Nat×Wh.Elem)=>(de n).outOf (v+1) p.1 p.2):=by
  unfold iO;rw[ED n.c8 (places n) p0 0 (vw n),fB,cE,cE];refine Lh φ _ fun k hk=> ?_
  have hk:=aT.mp hk;dsimp only;have pp:=R.p hk;rw[R.place hk];unfold Wh.Net.outOf;dsimp only;rw[jF];generalize n.c8.getD k p0=p at pp⊢;have a0:=pp.a0;have b0:=pp.b0;have c0:=pp.c0;have d0:=pp.d0;have ca:p.a=(v:Int)+1↔p.a.toNat=v+1:=by lia
  have cb:p.b=(v:Int)+1↔p.b.toNat=v+1:=by lia
  have cc:p.c=(v:Int)+1↔p.c.toNat=v+1:=by lia
  have cd:p.d=(v:Int)+1↔p.d.toNat=v+1:=by lia
  have t1:∀i:Nat,((i:Int)).toNat=i:=fun i=>a8 i
  have t2:∀i:Nat,((i:Int)+1).toNat=i+1:=fun i=>by lia
  by_cases h3:p.kind=3
  ·rw[ah h3,ah (pp.M.mpr h3)];rfl
  ·rw[af h3,af (fun e=>h3 (pp.M.mp e))];by_cases h10:p.kind=10
   ·rw[ah h10,ah (pp.T.mpr h10)];obtain⟨n0,n1⟩:=gh (pp.T.mpr h10) (.inr rfl);obtain⟨n2,n3⟩:=km (pp.T.mpr h10) rfl;rw[n0,n1,n2,n3];rw[g9,g9,g9,hC,hC,hC,JL,JL,JM,JM,JJ,JJ,JK,JK];simp only[ca,cb,cc,cd,t1,t2];grind
   ·rw[af h10,af (fun e=>h10 (pp.T.mp e))];have nc:Wh.nodeCount (kindOf p.kind)=2\/Wh.nodeCount (kindOf p.kind)=4:=by
     unfold Wh.nodeCount;rw[af (fun e=>h3 (pp.M.mp e))];split
     ·exact .inr rfl
     ·exact .inl rfl
    obtain⟨n0,n1⟩:=gh (rfl:kindOf p.kind=kindOf p.kind) nc;rw[n0,n1];rw[g9,g9,hC,JL,JM,JJ,JK];simp only[ca,cb,t1];show _+ (0:PF)=_;grind
 rw[e,fX,B3];show _=1*(_+ σ*0+0*φ m);grind
theorem uZ{n:Nw}(R:Right n){g:lh}{G:Wh.Setting}(S:lQ n g G):Al (Ce (dF g.s) (de n).unknowns) (gS g) ((de n).laws G):=by
 unfold gS Wh.Net.laws;rw[S.dZ];refine Al.append ?_ ?_
 ·exact Le _ fun v _=>Ol R _ _ v
 ·rw[fB,cE];exact Lf _ fun k hk=>Oj R S (aT.mp hk)
theorem JN(N:Wh.Net)(G:Wh.Setting)(k:Nat)(x:Wh.Elem):(N.lawsOf G k x).length=x.currents:=by
 unfold Wh.Net.lawsOf Wh.Elem.currents;dsimp only;cases x.kind <;>simp <;>split <;>rfl
theorem ug{γ β:Type}{f:γ->List β}{c:γ->Nat}:∀(l:List γ),(∀i∈l,(f i).length=c i)->(l.flatMap f).length=Wh.sumNat (l.map c)
 |[],_=>rfl
 |x::l,h=>by
  rw[bb,ay,aJ,fJ,h x ax,ug l fun i hi=>h i (ak _ hi)]
theorem iz(n:Nw)(G:Wh.Setting):((de n).laws G).length=(de n).unknowns:=by
 unfold Wh.Net.laws;rw[ay,lMp,bF,ug (c:=fun p:Nat×Wh.Elem=>p.2.currents) _ (fun p _=>JN _ _ _ _)];unfold Wh.Net.unknowns Wh.Net.at_;congr 2;rw[aG,fB,aQ];show _=(n.c8.map du).map Wh.Elem.currents;rw[EC (n.c8.map du) (du p0),aQ,lMp];apply aY;intro i hi;have hi:=aT.mp hi;show(du (n.c8.getD i p0)).currents=((n.c8.map du).getD i (du p0)).currents;congr 1;rw[gDe,gDe,aA,aa hi];rfl
theorem ze(row:jD)(t:Term):(tS row t).length=row.length:=by unfold tS;simp
theorem EG(row:jD)(i j:Nat)(x:dQ)(h:j<row.length):(row.set i x).getD j []=if j=i then x else row.getD j []:=by
 rw[gDe,gDe,cz];by_cases q:i=j
 ·subst q;rw[ah rfl,ah h,ah rfl];rfl
 ·rw[af q,af (bK q)]
theorem HL(j:Nat):∀(ts:List Term) (row:jD),j<row.length->dF ((ts.foldl tS row).getD j [])=dF (row.getD j [])+Pv (ei j) ts
 |[],row,_=>by
  show _=_+ (0:PF);rw[List.foldl_nil];grind
 |t::ts,row,h=>by
  rw[bz,HL j ts _ (by rw[ze];exact h)];show _=_+ (dF t.2*ei j t.1.toNat+Pv (ei j) ts);unfold tS;rw[EG _ _ _ _ h];by_cases q:j=t.1.toNat
  ·rw[ah q,Ht,<-q,sF];grind
  ·rw[af q,tO (bK q)];grind
theorem EH(j:Nat):∀(ts:List Term) (row:jD),j<row.length->Trim (row.getD j [])->Trim ((ts.foldl tS row).getD j [])
 |[],_,_,h=>h
 |t::ts,row,h,ht=>by
  rw[bz];refine EH j ts _ (by rw[ze];exact h) ?_;unfold tS;rw[EG _ _ _ _ h];split
  ·exact Mc _ _
  ·exact ht
theorem EI:∀(ts:List Term) (row:jD),(ts.foldl tS row).length=row.length
 |[],_=>rfl
 |t::ts,row=>by rw[bz,EI ts,ze]
theorem HM(m j:Nat):(List.replicate m ([]:dQ)).getD j []=[]:=by
 rw[gDe,b8];split <;>rfl
theorem u0(w:Int)(ts:List Term)(j:Nat)(h:j<(w+1).toNat):dF ((rowOf w ts).getD j [])=Pv (ei j) ts/\Trim ((rowOf w ts).getD j [])/\(rowOf w ts).length=(w+1).toNat:=by
 unfold rowOf;refine⟨?_,EH j ts _ (by rw[aP];exact h) (by rw[HM];exact tU),by rw[EI,aP]⟩;rw[HL j ts _ (by rw[aP];exact h),HM];show(0:PF)+_=_;grind
noncomputable def L0:Wh.Law:=⟨[],[],0⟩
noncomputable def Sm (n:Nw) (G:Wh.Setting) (σ:PF):Nat->Nat->PF:=fun i j=>Lv (ei j) σ (de n).unknowns (((de n).laws G).getD i L0)
section
variable {n:Nw}(R:Right n){g:lh}{G:Wh.Setting}(S:lQ n g G)
include R S
theorem Om:(rows g).length=(de n).unknowns:=by
 unfold rows;rw[lMp,(uZ R S).len,iz]
theorem xt{i:Nat}(h:i<(de n).unknowns):(rows g).getD i []=rowOf (width n) ((gS g).getD i []):=by
 have l:(gS g).length=(de n).unknowns:=by rw[(uZ R S).len,iz]
 unfold rows;rw[gDe,aA,gDe,aa (by lia),S.dZ];rfl
theorem xu:Tab (de n).unknowns (rows g):=by
 have w:(width n+1).toNat=(de n).unknowns+1:=by rw[R.yH];lia
 refine⟨Om R S,fun i hi=> ?_,fun i j hi hj=> ?_⟩
 ·rw[xt R S hi,(u0 (width n) _ 0 (by lia)).2.2,w]
 ·unfold ent;rw[xt R S hi];exact(u0 _ _ j (by lia)).2.1
theorem Oo:∃κ:Nat->Rat,(∀i,i<(de n).unknowns->0<κ i)/\∀i j,i<(de n).unknowns->j<(de n).unknowns+1->sI (rows g) i j=PF.const (κ i)*Sm n G (dF g.s) i j:=by
 have w:(width n+1).toNat=(de n).unknowns+1:=by rw[R.yH];lia
 have l:(gS g).length=(de n).unknowns:=by rw[(uZ R S).len,iz]
 have rel:∀i,i<(de n).unknowns->Ce (dF g.s) (de n).unknowns ((gS g).getD i []) (((de n).laws G).getD i L0):=fun i hi=>(uZ R S).get [] L0 i (by lia)
 refine⟨fun i=>if h:i<(de n).unknowns then Classical.choose (rel i h) else 1,fun i hi=> ?_,fun i j hi hj=> ?_⟩
 ·dsimp only;rw[dif_pos hi];exact(Classical.choose_spec (rel i hi)).1
 ·dsimp only;rw[dif_pos hi];unfold sI ent;rw[xt R S hi,(u0 _ _ j (by lia)).1];exact(Classical.choose_spec (rel i hi)).2 (ei j)
end
section
variable {A:Type} [CommRing A]
noncomputable def EJ:Nat->(Nat->A)->A
 |0,_=>1
 |n+1,f=>EJ n f*f n
theorem EK(n:Nat)(κ:Nat->A)(F:Nat->Nat->A):∀m,m<=n->det n (fun i j=>if i<m then κ i*F i j else F i j)=EJ m κ*det n F
 |0,_=>by
  show _=1*_;rw[eH n (B:=F) fun i j _ _=>by rw[af (by lia)]];grind
 |m+1,h=>by
  have ih:=EK n κ F m (by lia);have e:(fun i j=>if i<m+1 then κ i*F i j else F i j)=eu (fun i j=>if i<m then κ i*F i j else F i j) m (fun j=>κ m*F m j):=by
   funext i j;show _=if i=m then κ m*F m j else if i<m then κ i*F i j else F i j
   by_cases q:i=m
   ·rw[ah q,ah (by lia),q]
   ·rw[af q];by_cases q2:i<m
    ·rw[ah q2,ah (by lia)]
    ·rw[af q2,af (by lia)]
  have e2:eu (fun i j=>if i<m then κ i*F i j else F i j) m (F m)=fun i j=>if i<m then κ i*F i j else F i j:=by
   funext i j;show(if i=m then F m j else if i<m then κ i*F i j else F i j)=_;by_cases q:i=m
   ·rw[ah q,af (by lia),q]
   ·rw[af q]
  rw[e,qt n _ m (κ m) (F m) (by lia),e2,ih];show _=EJ m κ*κ m*det n F;grind
theorem Ck(n:Nat)(κ:Nat->A)(F B:Nat->Nat->A)(h:∀i j,i<n->j<n->B i j=κ i*F i j):det n B=EJ n κ*det n F:=by
 rw[<-EK n κ F n (ai _)];exact eH n fun i j hi hj=>by rw[ah hi];exact h i j hi hj
end
theorem Cm(κ:Nat->Rat):∀m,(∀i,i<m->0<κ i)->∃c:Rat,0<c/\EJ m (fun i=>PF.const (κ i))=PF.const c
 |0,_=>⟨1,by decide,rfl⟩
 |m+1,h=>by
  obtain⟨c,hc,e⟩:=Cm κ m fun i hi=>h i (by lia)
  refine⟨c*κ m,Rat.mul_pos hc (h m (by lia)),?_⟩;show EJ m _* PF.const (κ m)=_;rw[e,nQ]
theorem Cn{n:Nw}(R:Right n){g:lh}{G:Wh.Setting}(S:lQ n g G):
  (∃d tops,sol (rows g)=some (d,tops)/\tops.length=(de n).unknowns/\Trim d/\d≠[]/\(∀c,c<(de n).unknowns->Trim (tops.getD c []))/\∃q:Rat,q≠0/\dF d=PF.const q*det (de n).unknowns (Sm n G (dF g.s))/\∀c,c<(de n).unknowns->dF (tops.getD c [])=PF.const q*det (de n).unknowns (e7 (Sm n G (dF g.s)) c fun i=>Sm n G (dF g.s) i (de n).unknowns))\/
  (sol (rows g)=none/\det (de n).unknowns (Sm n G (dF g.s))=0/\∃x:Nat->PF,(∃j,j<(de n).unknowns/\x j≠0)/\∀i,i<(de n).unknowns->eh (de n).unknowns (fun d=>Sm n G (dF g.s) i d*x d)=0):=by
 obtain⟨κ,kp,ke⟩:=Oo R S;obtain⟨c,cp,ce⟩:=Cm κ (de n).unknowns kp;have PK:c≠0:=fun e=>by rw[e] at cp;exact absurd cp (by decide)
 have dm:det (de n).unknowns (sI (rows g))=PF.const c*det (de n).unknowns (Sm n G (dF g.s)):=by
  rw[Ck _ (fun i=>PF.const (κ i)) (Sm n G (dF g.s)) _ fun i j hi hj=>ke i j hi (by lia),ce]
 rcases Jy (xu R S) with⟨d,tops,e,so⟩ |⟨e,h0,x,hx,hs⟩
 ·obtain⟨ε,he,hd,ht⟩:=so.sgn;have es:∃q:Rat,q≠0/\ε=PF.const q:=by
   rcases he with e |e
   ·exact⟨1,by decide,by rw[e,fX]⟩
   ·exact⟨-1,by decide,by rw[e,gu,fX]⟩
  obtain⟨q,hq,eq⟩:=es;refine .inl ⟨d,tops,e,so.len,so.xf,so.Sh,so.trim,q*c,?_,?_,fun a ha=> ?_⟩
  ·exact fun z=>by rcases bX.mp z with z |z <;>contradiction
  ·rw[hd,dm,eq,nQ];grind
  ·rw[ht a ha,Ck _ (fun i=>PF.const (κ i)) (e7 (Sm n G (dF g.s)) a fun i=>Sm n G (dF g.s) i (de n).unknowns) _ fun i j hi hj=>by
    show(if j=a then _ else _)=_* (if j=a then _ else _);split
    ·exact ke i _ hi (by lia)
    ·exact ke i j hi (by lia),ce,eq,nQ]
   grind
 ·refine .inr ⟨e,?_,x,hx,fun i hi=> ?_⟩
  ·rw[dm] at h0;exact PF.w6 (jT PK) _ _ (by rw[h0];grind)
  ·have:=hs i hi;have k0:κ i≠0:=fun e=>by have:=kp i hi;rw[e] at this;exact absurd this (by decide)
   refine PF.w6 (jT k0) _ _ ?_;rw[<-fS];rw[eC (g:=fun d=>PF.const (κ i)*(Sm n G (dF g.s) i d*x d)) _ fun j hj=>by rw[ke i j hi (by lia)];grind] at this;rw[this];grind
theorem mN:∀l m:List Nat,Wh.sumNat (l ++ m)=Wh.sumNat l+Wh.sumNat m
 |[],m=>by
  show Wh.sumNat m=0+_;lia
 |a::l,m=>by rw[List.cons_append,fJ,fJ,mN l m];lia
theorem HN(n:Nw){k:Nat}(h:k<n.c8.length):∃r,(de n).unknowns=(de n).at_ k+(du (n.c8.getD k p0)).currents+r:=by
 have e:n.c8.map du=(n.c8.map du).take k ++ du (n.c8.getD k p0)::(n.c8.map du).drop (k+1):=by
  have h':k<(n.c8.map du).length:=by rw[lMp];exact h
  have q:(n.c8.map du)[k]=du (n.c8.getD k p0):=by
   rw[List.getElem_map,gDe,aa h];rfl
  rw[<-q,List.getElem_cons_drop,List.take_append_drop]
 refine⟨Wh.sumNat (((n.c8.map du).drop (k+1)).map Wh.Elem.currents),?_⟩;unfold Wh.Net.unknowns Wh.Net.at_;rw[aG];show n.last.toNat+Wh.sumNat ((n.c8.map du).map Wh.Elem.currents)=n.last.toNat+Wh.sumNat (((n.c8.map du).take k).map Wh.Elem.currents)+_+ _;have:=congrArg (fun l=>Wh.sumNat (l.map Wh.Elem.currents)) e;rw[this,aO,mN,aJ,fJ];lia
theorem om(n:Nw):n.last.toNat<=(de n).unknowns:=by
 show n.last.toNat<=n.last.toNat+_;lia
theorem Qv{p:Part}(h:Pn p)(h3:p.kind≠3):1<=(du p).currents:=by
 unfold Wh.Elem.currents;rw[jF,af (fun e=>h3 (h.M.mp e))];split <;>decide
theorem Qw{p:Part}(h:Pn p)(h3:p.kind=10):(du p).currents=2:=by
 unfold Wh.Elem.currents;rw[jF,af (fun e=>by have:=h.M.mp e;lia),ah (h.T.mpr h3)]
section
variable {n:Nw}(R:Right n)
include R
theorem uh{k:Nat}(h:k<n.c8.length)(h3:(n.c8.getD k p0).kind≠3):(de n).at_ k<(de n).unknowns:=by
 obtain⟨r,e⟩:=HN n h;have:=Qv (R.p h) h3;lia
theorem F9{k:Nat}(h:k<n.c8.length)(h3:(n.c8.getD k p0).kind=10):(de n).at_ k+1<(de n).unknowns:=by
 obtain⟨r,e⟩:=HN n h;have:=Qw (R.p h) h3;lia
omit R in
theorem Li{m a:Nat}{q:Rat}(h:a<=m):∀t∈Wh.volt a q,t.1<m:=fun t ht=>by
 unfold Wh.volt at ht;split at ht
 ·cases ht
 ·rw[au.mp ht];show a - 1<m;lia
omit R in
theorem gJ{m a b:Nat}{q:Rat}(ha:a<=m)(hb:b<=m):∀t∈Wh.across a b q,t.1<m:=fun t ht=>by
 rcases aK.mp ht with h |h
 ·exact Li ha t h
 ·exact Li hb t h
noncomputable def Sr (m:Nat) (L:Wh.Law):Prop:=(∀t∈L.terms,t.1<m)/\∀t∈L.byS,t.1<m
omit R in
theorem none_lt{m:Nat}:∀t∈([]:List (Nat×Rat)),t.1<m:=fun t h=>by cases h
omit R in
theorem mY{m i:Nat}{q:Rat}(h:i<m):∀t∈[(i,q)],t.1<m:=fun t ht=>by rw[au.mp ht];exact h
omit R in
theorem ui{m:Nat}{l r:List (Nat×Rat)}(hl:∀t∈l,t.1<m)(hr:∀t∈r,t.1<m):∀t∈l ++ r,t.1<m:=fun t ht=>(aK.mp ht).elim (hl t) (hr t)
theorem Mr(G:Wh.Setting){k:Nat}(hk:k<n.c8.length):∀L∈(de n).lawsOf G k (du (n.c8.getD k p0)),Sr (de n).unknowns L:=by
 have pp:=R.p hk;have ab:=R.ab hk;have cdd:=R.cd hk;have fo:=R.Qt hk;have nl:=om n;have al:=uh R hk;have al2:=F9 R hk;have a0:=pp.a0;have b0:=pp.b0;have c0:=pp.c0;have d0:=pp.d0;have lp:=R.l1;unfold Wh.Net.lawsOf;dsimp only;rw[jF];have cpl:(n.c8.getD k p0).kind=2->∀t∈((de n).coupled k).map fun(p:Nat×Rat)=>((de n).at_ p.1,-p.2),t.1<(de n).unknowns:=fun _ t ht=>by
  obtain⟨q,hq,rfl⟩:=aN.mp ht;unfold Wh.Net.coupled at hq;obtain⟨x,hx,hxq⟩:=List.mem_filterMap.mp hq;obtain⟨p,hp,rfl⟩:=aN.mp (show x∈n.c8.map du from hx);obtain⟨i,hi,ei⟩:=aW hp;have ep:n.c8.getD i p0=p:=by rw[gDe,aa hi,ei];rfl
  by_cases hM:(du p).kind= .M
  ·rw[ah hM] at hxq;have h3:p.kind=3:=(R.pn p hp).M.mp hM;have cp:=R.Mq hi (by rw[ep];exact h3);rw[ep] at cp;have r0:(du p).refs.getD 0 0=p.a.toNat/\(du p).refs.getD 1 0=p.b.toNat:=by
    unfold du;dsimp only;rw[ah (show kindOf p.kind= .M from hM)];exact⟨rfl,rfl⟩
   have pa:=(R.pn p hp).a0;have pb:=(R.pn p hp).b0;have key:∀z:Int,0<=z->z<i->kindAt n.c8 z=2->(de n).at_ z.toNat<(de n).unknowns:=fun z z0 zi zk=>uh R (by lia) (by
    unfold kindAt at zk;rw[zk];decide)
   rw[r0.1,r0.2] at hxq;split at hxq
   ·cases hxq
    exact key p.b pb cp.2.2.1 cp.2.2.2
   ·split at hxq
    ·cases hxq
     exact key p.a pa cp.2.1.1 cp.2.1.2
    ·cases hxq
  ·rw[af hM] at hxq;cases hxq
 generalize hp:n.c8.getD k p0=p at *;have hab:p.kind≠3->p.a.toNat<=(de n).unknowns/\p.b.toNat<=(de n).unknowns:=fun h=>by have:=ab h;clear cdd fo al al2 cpl;lia
 have hcd:(p.kind=6\/p.kind=7\/p.kind=10\/p.kind=11)->p.c.toNat<=(de n).unknowns/\p.d.toNat<=(de n).unknowns:=fun h=>by have:=cdd h;clear ab fo al al2 cpl hab;lia
 have three:∀{z:Int},p.kind=z->decide (z≠3)=true->p.kind≠3:=fun e h=>by rw[e];exact az h
 clear ab cdd nl a0 b0 d0 lp;rcases oj pp.k0 pp.k1 with e |e |e |e |e |e |e |e |e |e |e |e |e |e
 ·have hd:kindOf p.kind= .R:=by rw[e];rfl
  rw[hd];obtain⟨n0,n1⟩:=gh hd (.inl rfl);rw[n0,n1];intro L hL;rw[au.mp hL];exact⟨ui (gJ (hab (three e rfl)).1 (hab (three e rfl)).2) (mY (al (three e rfl))),none_lt⟩
 ·have hd:kindOf p.kind= .C:=by rw[e];rfl
  rw[hd];obtain⟨n0,n1⟩:=gh hd (.inl rfl);rw[n0,n1];intro L hL;rw[au.mp hL];exact⟨mY (al (three e rfl)),gJ (hab (three e rfl)).1 (hab (three e rfl)).2⟩
 ·have hd:kindOf p.kind= .L:=by rw[e];rfl
  rw[hd];obtain⟨n0,n1⟩:=gh hd (.inl rfl);rw[n0,n1];intro L hL;rw[au.mp hL];exact⟨gJ (hab (three e rfl)).1 (hab (three e rfl)).2,ui (l:=[_]) (mY (al (three e rfl))) (cpl e)⟩
 ·have hd:kindOf p.kind= .M:=by rw[e];rfl
  rw[hd];intro L hL;cases hL
 ·have hd:kindOf p.kind= .V:=by rw[e];rfl
  rw[hd];obtain⟨n0,n1⟩:=gh hd (.inl rfl);rw[n0,n1];intro L hL;rw[au.mp hL];exact⟨gJ (hab (three e rfl)).1 (hab (three e rfl)).2,none_lt⟩
 ·have hd:kindOf p.kind= .I:=by rw[e];rfl
  rw[hd];intro L hL;rw[au.mp hL];exact⟨mY (al (three e rfl)),none_lt⟩
 ·have hd:kindOf p.kind= .E:=by rw[e];rfl
  rw[hd];obtain⟨n0,n1⟩:=gh hd (.inr rfl);obtain⟨n2,n3⟩:=km hd rfl;rw[n0,n1,n2,n3];intro L hL;rw[au.mp hL];exact⟨ui (gJ (hab (three e rfl)).1 (hab (three e rfl)).2) (gJ (hcd (.inl e)).1 (hcd (.inl e)).2),none_lt⟩
 ·have hd:kindOf p.kind= .G:=by rw[e];rfl
  rw[hd];obtain⟨n2,n3⟩:=km hd rfl;rw[n2,n3];intro L hL;rw[au.mp hL];exact⟨ui (l:=[_]) (mY (al (three e rfl))) (gJ (hcd (.inr (.inl e))).1 (hcd (.inr (.inl e))).2),none_lt⟩
 ·have hd:kindOf p.kind= .H:=by rw[e];rfl
  rw[hd];obtain⟨n0,n1⟩:=gh hd (.inl rfl);have r0:=F8 hd (by decide) rfl;have ff:=fo (.inl e);rw[n0,n1,r0];intro L hL;rw[au.mp hL];exact⟨ui (gJ (hab (three e rfl)).1 (hab (three e rfl)).2) (mY (uh R (by lia) ff.2)),none_lt⟩
 ·have hd:kindOf p.kind= .F:=by rw[e];rfl
  rw[hd];have r0:=F8 hd (by decide) rfl;have ff:=fo (.inr e);rw[r0];intro L hL;rw[au.mp hL];exact⟨ui (l:=[_]) (mY (al (three e rfl))) (mY (uh R (by lia) ff.2)),none_lt⟩
 ·have hd:kindOf p.kind= .T:=by rw[e];rfl
  rw[hd];obtain⟨n0,n1⟩:=gh hd (.inr rfl);obtain⟨n2,n3⟩:=km hd rfl;rw[n0,n1,n2,n3];intro L hL;rcases aH.mp hL with rfl |hL
  ·exact⟨ui (gJ (hab (three e rfl)).1 (hab (three e rfl)).2) (gJ (hcd (.inr (.inr (.inl e)))).1 (hcd (.inr (.inr (.inl e)))).2),none_lt⟩
  ·rw[au.mp hL];exact⟨ui (l:=[_]) (mY (al2 e)) (mY (al (three e rfl))),none_lt⟩
 ·have hd:kindOf p.kind= .O:=by rw[e];rfl
  rw[hd];obtain⟨n2,n3⟩:=km hd rfl;rw[n2,n3];intro L hL;rw[au.mp hL];exact⟨gJ (hcd (.inr (.inr (.inr e)))).1 (hcd (.inr (.inr (.inr e)))).2,none_lt⟩
 ·have hd:kindOf p.kind= .S:=by rw[e];rfl
  rw[hd];obtain⟨n0,n1⟩:=gh hd (.inl rfl);rw[n0,n1];intro L hL;dsimp only at hL;split at hL
  ·rw[au.mp hL];exact⟨gJ (hab (three e rfl)).1 (hab (three e rfl)).2,none_lt⟩
  ·rw[au.mp hL];exact⟨mY (al (three e rfl)),none_lt⟩
 ·have hd:kindOf p.kind= .D:=by rw[e];rfl
  rw[hd];obtain⟨n0,n1⟩:=gh hd (.inl rfl);rw[n0,n1];intro L hL;dsimp only at hL;split at hL
  ·rw[au.mp hL];exact⟨gJ (hab (three e rfl)).1 (hab (three e rfl)).2,none_lt⟩
  ·rw[au.mp hL];exact⟨mY (al (three e rfl)),none_lt⟩
theorem HP(G:Wh.Setting):∀L∈(de n).laws G,Sr (de n).unknowns L:=fun L hL=>by
 unfold Wh.Net.laws at hL;rcases aK.mp hL with h |h
 ·obtain⟨v,hv,rfl⟩:=aN.mp h;refine⟨fun t ht=> ?_,none_lt⟩;rw[fB,cE] at ht;obtain⟨k,hk,ht⟩:=cF.mp ht;have hk:=aT.mp hk;have pp:=R.p hk;unfold Wh.Net.outOf at ht;dsimp only at ht;rw[jF] at ht;have one:∀(c:Prop) [Decidable c] (i:Nat) (q:Rat),t∈(if c then[(i,q)] else[])->t.1=i:=fun c _ i q h=>by
   split at h
   ·rw[au.mp h]
   ·cases h
  by_cases h3:(n.c8.getD k p0).kind=3
  ·rw[ah (pp.M.mpr h3)] at ht;cases ht
  ·rw[af (fun e=>h3 (pp.M.mp e))] at ht;have l1:=uh R hk h3;by_cases h10:(n.c8.getD k p0).kind=10
   ·have l2:=F9 R hk h10;rw[ah (pp.T.mpr h10)] at ht;rcases aK.mp ht with ht |ht
    ·have:=one _ _ _ ht;lia
    rcases aK.mp ht with ht |ht
    ·have:=one _ _ _ ht;lia
    rcases aK.mp ht with ht |ht
    ·have:=one _ _ _ ht;lia
    ·have:=one _ _ _ ht;lia
   ·rw[af (fun e=>h10 (pp.T.mp e))] at ht;rcases aK.mp ht with ht |ht
    ·have:=one _ _ _ ht;lia
    ·have:=one _ _ _ ht;lia
 ·rw[fB,cE] at h;obtain⟨k,hk,h⟩:=cF.mp h;exact Mr R G (aT.mp hk) L h
end
theorem Ga(j:Nat):∀ts:List (Nat×Rat),(∀t∈ts,t.1<j)->Rv (ei j) ts=0
 |[],_=>rfl
 |t::ts,h=>by
  show PF.const t.2*ei j t.1+Rv (ei j) ts=0;have:=h t ax;rw[tO (by lia),Ga j ts fun u hu=>h u (ak _ hu)];grind
theorem EL(r:List Rat)(i j:Nat)(q:Rat)(h:j<r.length):(Wh.addAt r i q).getD j 0=r.getD j 0+if i=j then q else 0:=by
 unfold Wh.addAt;rw[gDe,cz];by_cases e:i=j
 ·subst e;rw[ah rfl,ah h,ah rfl];rfl
 ·rw[af e,af e,gDe];grind
theorem u4(r:List Rat)(i:Nat)(q:Rat):(Wh.addAt r i q).length=r.length:=by unfold Wh.addAt;simp
theorem Ss(i j:Nat)(x:Rat):(ei j i:PF).f x=if i=j then 1 else 0:=by
 unfold ei;split <;>rfl
theorem Co(j:Nat)(x:Rat):∀(ts:List (Nat×Rat)) (r:List Rat),j<r.length->(ts.foldl (fun(r:List Rat) (t:Nat×Rat)=>Wh.addAt r t.1 t.2) r).getD j 0=r.getD j 0+(Rv (ei j) ts).f x
 |[],r,h=>by
  show r.getD j 0=r.getD j 0+0;grind
 |t::ts,r,h=>by
  rw[bz,Co j x ts _ (by rw[u4];exact h),EL _ _ _ _ h];show _=_+ (t.2*(ei j t.1:PF).f x+(Rv (ei j) ts).f x);rw[Ss];split <;>grind
theorem HQ(j:Nat)(x s:Rat):∀(ts:List (Nat×Rat)) (r:List Rat),j<r.length->(ts.foldl (fun(r:List Rat) (t:Nat×Rat)=>Wh.addAt r t.1 (s*t.2)) r).getD j 0=r.getD j 0+s*(Rv (ei j) ts).f x
 |[],r,h=>by
  show r.getD j 0=r.getD j 0+s*0;grind
 |t::ts,r,h=>by
  rw[bz,HQ j x s ts _ (by rw[u4];exact h),EL _ _ _ _ h];show _=_+ s*(t.2*(ei j t.1:PF).f x+(Rv (ei j) ts).f x);rw[Ss];split <;>grind
theorem zh:∀(ts:List (Nat×Rat)) (r:List Rat),(ts.foldl (fun(r:List Rat) (t:Nat×Rat)=>Wh.addAt r t.1 t.2) r).length=r.length
 |[],_=>rfl
 |t::ts,r=>by rw[bz,zh ts,u4]
theorem EM(s:Rat):∀(ts:List (Nat×Rat)) (r:List Rat),(ts.foldl (fun(r:List Rat) (t:Nat×Rat)=>Wh.addAt r t.1 (s*t.2)) r).length=r.length
 |[],_=>rfl
 |t::ts,r=>by rw[bz,EM s ts,u4]
theorem Br(L:Wh.Law)(m:Nat)(s:Rat):(L.row m s).1.length=m:=by
 unfold Wh.Law.row;rw[EM,zh,aP]
theorem Gb(L:Wh.Law)(m:Nat)(σ:PF)(x s:Rat)(hs:σ.f x=s)(j:Nat)(hj:j<m):(L.row m s).1.getD j 0=(Lv (ei j) σ m L).f x:=by
 unfold Wh.Law.row Lv;rw[HQ j x s _ _ (by rw[zh,aP];exact hj),Co j x _ _ (by rw[aP];exact hj)];show _=(Rv (ei j) L.terms).f x+σ.f x*(Rv (ei j) L.byS).f x+L.right*(ei j m:PF).f x;rw[hs,Ss,af (by lia)];have:(List.replicate m (0:Rat)).getD j 0=0:=by
  rw[gDe,b8];split <;>rfl
 rw[this];grind
theorem EN(L:Wh.Law)(m:Nat)(σ:PF)(x s:Rat)(h:Sr m L):(L.row m s).2=(Lv (ei m) σ m L).f x:=by
 unfold Wh.Law.row Lv;rw[Ga m _ h.1,Ga m _ h.2,sF];show L.right=(0:Rat)+σ.f x*0+L.right*((1:Nat):Rat);grind
theorem xw(n:Nw)(G:Wh.Setting)(s:Rat){i:Nat}(hi:i<(de n).unknowns):((de n).rows G s)[i]? =some ((((de n).laws G).getD i L0).row (de n).unknowns s):=by
 unfold Wh.Net.rows;rw[aA,gDe,aa (by rw[iz];exact hi)];rfl
section
variable {n:Nw}(R:Right n)(G:Wh.Setting)(σ:PF)(x s:Rat)(hs:σ.f x=s)
include R hs
theorem JO:Wh.detOf (de n).unknowns (((de n).rows G s).map fun(r:Wh.Row)=>r.1)=(det (de n).unknowns (Sm n G σ)).f x:=by
 have l:((de n).rows G s).length=(de n).unknowns:=by unfold Wh.Net.rows;rw[lMp,iz]
 have gg:∀i,i<(de n).unknowns->((((de n).rows G s).map fun(r:Wh.Row)=>r.1).getD i [])=((((de n).laws G).getD i L0).row (de n).unknowns s).1:=fun i hi=>by
  rw[gDe,aA,xw n G s hi];rfl
 rw[BW _ _ (by rw[lMp];exact l) fun i hi=>by rw[gg i hi,Br],Et];refine eH _ fun i j hi hj=> ?_
 show((((de n).rows G s).map fun(r:Wh.Row)=>r.1).getD i []).getD j 0=_;rw[gg i hi];exact Gb _ _ σ x s hs j hj
theorem JP{c:Nat}(hc:c<(de n).unknowns):Wh.detOf (de n).unknowns (((de n).rows G s).map fun(r:Wh.Row)=>r.1.set c r.2)=(det (de n).unknowns (e7 (Sm n G σ) c fun i=>Sm n G σ i (de n).unknowns)).f x:=by
 have l:((de n).rows G s).length=(de n).unknowns:=by unfold Wh.Net.rows;rw[lMp,iz]
 have gg:∀i,i<(de n).unknowns->((((de n).rows G s).map fun(r:Wh.Row)=>r.1.set c r.2).getD i [])=((((de n).laws G).getD i L0).row (de n).unknowns s).1.set c ((((de n).laws G).getD i L0).row (de n).unknowns s).2:=fun i hi=>by
  rw[gDe,aA,xw n G s hi];rfl
 rw[BW _ _ (by rw[lMp];exact l) fun i hi=>by rw[gg i hi,bW,Br],Et];refine eH _ fun i j hi hj=> ?_
 show((((de n).rows G s).map fun(r:Wh.Row)=>r.1.set c r.2).getD i []).getD j 0=(if j=c then _ else _:PF).f x;rw[gg i hi,gDe,cz];by_cases e:c=j
 ·subst e;rw[ah rfl,ah rfl,ah (by rw[Br];exact hc)];exact EN _ _ σ x s (HP R G _ (memD (by rw[iz];exact hi)))
 ·rw[af e,af (bK e),<-gDe];exact Gb _ _ σ x s hs j hj
end
noncomputable def XX:PF:=dF [0,1]
theorem Su(x:Rat):XX.f x=x:=by
 unfold XX;rw[e9,e9];show((0:Int):Rat)+x*(((1:Int):Rat)+x*0)=x;grind
theorem Oq(i j:Nat):Dg (ei j i:PF) 1:=by
 unfold ei;split
 ·exact fX▸HD 1
 ·exact xh 1
theorem Lj(j:Nat):∀ts:List (Nat×Rat),Dg (Rv (ei j) ts) 1
 |[]=>xh 1
 |t::ts=>((Oq t.1 j).smul t.2).add (Lj j ts)
noncomputable def EO (L:Wh.Law):Nat:=if L.byS.isEmpty=true then 0 else 1
theorem Vk:Dg XX 2:=FX [0,1]
theorem Ot(L:Wh.Law)(m j:Nat):Dg (Lv (ei j) XX m L) (EO L+1):=by
 unfold Lv EO;have h1:=Lj j L.terms;have h3:=(Oq m j).smul L.right;by_cases e:L.byS.isEmpty=true
 ·rw[ah e];have:L.byS=[]:=cT.mp e;rw[this];have z:XX*Rv (ei j) []=0:=by
   show XX*0=0;grind
  rw[z];exact(h1.add (xh 1)).add h3
 ·rw[af e];have h2:Dg (XX*Rv (ei j) L.byS) 2:=Dg.mul (d:=1) (e:=0) Vk (Lj j _);exact((h1.mono (by lia)).add h2).add (h3.mono (by lia))
theorem HR{α:Type}(f:α->Nat)(d:α)(l:List α):sumNat l.length (fun i=>f (l.getD i d))=Wh.sumNat (l.map f):=by
 have key:∀m,m<=l.length->sumNat m (fun i=>f (l.getD i d))=Wh.sumNat ((l.take m).map f):=by
  intro m;induction m with
  |zero=>intro _;rfl
  |succ m ih=>
   intro hm;show sumNat m _+ _=_;rw[ih (by lia),aZ,aa (by lia),aO,mN];show _+ f (l.getD m d)=_+ Wh.sumNat [f _];rw[fJ,gDe,aa (by lia)];rfl
 rw[key _ (ai _),aG]
theorem As{γ β:Type}{f:γ->List β}{h:β->Nat}{c:γ->Nat}:∀l:List γ,(∀i∈l,Wh.sumNat ((f i).map h)<=c i)->Wh.sumNat ((l.flatMap f).map h)<=Wh.sumNat (l.map c)
 |[],_=>ai _
 |x::l,e=>by
  rw[bb,aO,mN,aJ,fJ];have:=e x ax;have:=As (f:=f) (h:=h) (c:=c) l fun i hi=>e i (ak _ hi)
  lia
theorem Cp{α:Type}(p:α->Bool):∀l:List α,(l.filter p).length=Wh.sumNat (l.map fun x=>if p x=true then 1 else 0)
 |[]=>rfl
 |x::l=>by
  rw[aJ,fJ,<-Cp p l];by_cases e:p x=true
  ·rw[aR e,ah e,aq];lia
  ·rw[aU e,af e];lia
theorem HS{α:Type}(f:α->Nat):∀l:List α,(∀x∈l,f x=0)->Wh.sumNat (l.map f)=0
 |[],_=>rfl
 |x::l,h=>by
  rw[aJ,fJ,h x ax,HS f l fun y hy=>h y (ak _ hy)]
theorem Qx(N:Wh.Net)(G:Wh.Setting)(k:Nat)(x:Wh.Elem):Wh.sumNat ((N.lawsOf G k x).map EO)<=if(decide (x.kind= .C) ||decide (x.kind= .L))=true then 1 else 0:=by
 have d0:∀a b,EO ⟨a,[],b⟩=0:=fun a b=>rfl
 have d1:∀L,EO L<=1:=fun L=>by unfold EO;split <;>lia
 have s1:∀L,Wh.sumNat ([L].map EO)=EO L:=fun L=>by
  show Wh.sumNat [EO L]=_;rw[fJ];rfl
 have s2:∀L M,Wh.sumNat ([L,M].map EO)=EO L+EO M:=fun L M=>by
  show Wh.sumNat [EO L,EO M]=_;rw[fJ,fJ];rfl
 unfold Wh.Net.lawsOf;dsimp only;cases h:x.kind <;>dsimp only
 case C=>rw[s1];exact d1 _
 case L=>rw[s1];exact d1 _
 case T=>rw[s2];exact ai _
 case M=>exact ai _
 case S=>split <;>(rw[s1];exact ai _)
 case D=>split <;>(rw[s1];exact ai _)
 all_goals (rw[s1];exact ai _)
theorem Lk(n:Nw)(G:Wh.Setting):sumNat (de n).unknowns (fun i=>EO (((de n).laws G).getD i L0))+1<=(de n).places:=by
 rw[<-iz n G,HR EO L0];unfold Wh.Net.laws Wh.Net.places;rw[aO,mN,Cp];have z:Wh.sumNat (((List.range (de n).nodes).map fun(v:Nat)=>(⟨(de n).indexed.flatMap fun(p:Nat×Wh.Elem)=>(de n).outOf (v+1) p.1 p.2,[],0⟩:Wh.Law)).map EO)=0:=by
  refine HS _ _ fun L hL=> ?_
  obtain⟨v,_,rfl⟩:=aN.mp hL;rfl
 rw[z];have q:=As (f:=fun p:Nat×Wh.Elem=>(de n).lawsOf G p.1 p.2) (h:=EO) (c:=fun p:Nat×Wh.Elem=>if(decide (p.2.kind= .C) ||decide (p.2.kind= .L))=true then 1 else 0) (de n).indexed fun p _=>Qx _ _ _ _
 have e:((de n).indexed.map fun p:Nat×Wh.Elem=>if(decide (p.2.kind= .C) ||decide (p.2.kind= .L))=true then 1 else 0)=(de n).elems.map fun x=>if(decide (x.kind= .C) ||decide (x.kind= .L))=true then 1 else 0:=by
  rw[fB,aQ];show _=(n.c8.map du).map _;rw[EC (n.c8.map du) (du p0),aQ,lMp];apply aY;intro i hi;have hi:=aT.mp hi;have e:(n.c8.map du).getD i (du p0)=du (n.c8.getD i p0):=by
   rw[gDe,gDe,aA,aa hi];rfl
  show _=if(decide (((n.c8.map du).getD i (du p0)).kind= .C) ||decide (((n.c8.map du).getD i (du p0)).kind= .L))=true then 1 else 0
  rw[e];rfl
 rw[e] at q;lia
section
variable {n:Nw}(R:Right n)(G:Wh.Setting)
include R
theorem oo:fj ((de n).determinant G)=det (de n).unknowns (Sm n G XX):=by
 unfold Wh.Net.determinant;refine B2 _ _ (de n).places (by rw[lMp,bF]) ?_ fun i hi=> ?_
 ·exact(FW _ (d:=fun i=>EO (((de n).laws G).getD i L0)) fun i j _ _=>Ot _ _ _).mono (Lk n G)
 ·rw[kj _ _ _ _ hi];exact(JO R G XX _ _ (Su _)).symm
theorem xx{c:Nat}(hc:c<(de n).unknowns):fj ((de n).numerator G c)=det (de n).unknowns (e7 (Sm n G XX) c fun i=>Sm n G XX i (de n).unknowns):=by
 unfold Wh.Net.numerator;refine B2 _ _ (de n).places (by rw[lMp,bF]) ?_ fun i hi=> ?_
 ·refine(FW _ (d:=fun i=>EO (((de n).laws G).getD i L0)) fun i j _ _=> ?_).mono (Lk n G);show Dg (if j=c then _ else _) _;split
  ·exact Ot _ _ _
  ·exact Ot _ _ _
 ·rw[kj _ _ _ _ hi];exact(JP R G XX _ _ (Su _) hc).symm
end
noncomputable def oq:List Part->List (List Bool)
 |[]=>[[]]
 |p::ps=>if p.kind=13 then(oq ps).map (fun r=>false::r) ++ (oq ps).map (fun r=>true::r) else(oq ps).map (fun r=>false::r)
theorem Au:∀(ps:List Part) (rs:List (List Bool)),eW ps rs=rs.flatMap fun row=>(oq ps).map fun r=>row ++ r
 |[],rs=>by
  show rs=rs.flatMap fun row=>[row ++ []]
  induction rs with
  |nil=>rfl
  |cons r rs ih=>rw[bb,<-ih];simp
 |p::ps,rs=>by
  show eW ps (rs.flatMap fun row=>if p.kind=13 then[row ++ [false],row ++ [true]] else[row ++ [false]])=_;rw[Au ps,List.flatMap_assoc];congr 1;funext row;show _=(if p.kind=13 then(oq ps).map (fun r=>false::r) ++ (oq ps).map (fun r=>true::r) else(oq ps).map (fun r=>false::r)).map _;by_cases h:p.kind=13
  ·rw[ah h,ah h,aO,aQ,aQ];simp[Function.comp_def]
  ·rw[af h,af h,aQ];simp[Function.comp_def]
theorem Av(ps:List Part):eW ps [[]]=oq ps:=by
 rw[Au];simp
noncomputable def nH (off:Nat):List Part->List Nat
 |[]=>[]
 |p::ps=>if p.kind=13 then off::nH (off+1) ps else nH (off+1) ps
noncomputable def nI (off len:Nat) (st:List Bool) (r:List Nat):Prop:=st.length=len/\(∀k∈r,off<=k)/\∀k,off<=k->r.contains k=st.getD (k - off) false
theorem zj:∀(ps:List Part) (off:Nat),Al (nI off ps.length) (oq ps) (Wh.rowsOf (nH off ps))
 |[],off=> .cons ⟨rfl,(fun _ h=>by cases h),fun k _=>by simp⟩ .nil
 |p::ps,off=>by
  have ih:=zj ps (off+1);have f1:∀st r,nI (off+1) ps.length st r->nI off (p::ps).length (false::st) r:=fun st r h=>by
   refine⟨by rw[aq,aq,h.1],fun k hk=>by have:=h.2.1 k hk;lia,fun k hk=> ?_⟩;by_cases e:k=off
   ·subst e;rw[cf];show r.contains k=false;cases q:r.contains k with
    |false=>rfl
    |true=>
     have:=h.2.1 k (List.contains_iff_mem.mp q);lia
   ·have e2:k - off=(k - (off+1))+1:=by lia
    rw[e2,h.2.2 k (by lia)];rfl
  have f2:∀st r,nI (off+1) ps.length st r->nI off (p::ps).length (true::st) (off::r):=fun st r h=>by
   refine⟨by rw[aq,aq,h.1],fun k hk=> ?_,fun k hk=> ?_⟩
   ·rcases aH.mp hk with rfl |hk
    ·exact ai _
    ·have:=h.2.1 k hk;lia
   ·by_cases e:k=off
    ·subst e;rw[cf];simp
    ·have e2:k - off=(k - (off+1))+1:=by lia
     rw[e2];show(off::r).contains k=st.getD (k - (off+1)) false;rw[<-h.2.2 k (by lia),List.contains_cons];have:(k==off)=false:=by simpa using e
     rw[this,Bool.false_or]
  unfold oq nH;by_cases h:p.kind=13
  ·rw[ah h,ah h];show Al _ _ (Wh.rowsOf (nH (off+1) ps) ++ (Wh.rowsOf (nH (off+1) ps)).map fun(s:Wh.States)=>off::s);refine Al.append ?_ ?_
   ·have:=(ih.imp f1).Qs (f:=fun r=>false::r) (g:=fun r=>r) (R:=nI off (p::ps).length);rw[cS] at this;exact this
   ·exact(ih.imp f2).Qs (f:=fun r=>true::r) (g:=fun r=>off::r)
  ·rw[af h,af h];have:=(ih.imp f1).Qs (f:=fun r=>false::r) (g:=fun r=>r) (R:=nI off (p::ps).length);rw[cS] at this;exact this
theorem Ll:∀(ps:List Part) (off:Nat),(∀p∈ps,Pn p)->((((ps.map du).zipIdx off).map fun(x:Wh.Elem×Nat)=>(x.2,x.1)).filter fun(p:Nat×Wh.Elem)=>decide (p.2.kind= .D)).map (fun(p:Nat×Wh.Elem)=>p.1)=nH off ps
 |[],_,_=>rfl
 |p::ps,off,h=>by
  have ih:=Ll ps (off+1) fun q hq=>h q (ak _ hq)
  have hp:=h p ax;rw[aJ,List.zipIdx_cons,aJ];unfold nH;by_cases e:p.kind=13
  ·rw[ah e,aR (by exact aj (hp.D.mpr e)),aJ,ih]
  ·rw[af e,aU (by rw[a9];exact fun q=>e (hp.D.mp q)),ih]
theorem Ms{n:Nw}(R:Right n):(de n).diodes=nH 0 n.c8:=by
 unfold Wh.Net.diodes Wh.Net.ofKind Wh.Net.indexed;exact Ll n.c8 0 R.pn
theorem Gd{n:Nw}(R:Right n):(de n).diodes=(List.range n.c8.length).filter fun k=>decide ((n.c8.getD k p0).kind=13):=by
 unfold Wh.Net.diodes Wh.Net.ofKind;rw[fB,List.filter_map,aQ];have e:((fun(p:Nat×Wh.Elem)=>p.1) ∘ fun k=>(k,du (n.c8.getD k p0)))=fun k:Nat=>k:=rfl
 rw[e,cS];apply List.filter_congr;intro k hk;have hk:=aT.mp hk;show decide (kindOf (n.c8.getD k p0).kind= .D)=_;rw[decide_eq_decide];exact(R.p hk).D
noncomputable def IX (n:Nw) (st:List Bool):lh:=⟨n,[],st,n.c8.map fun p=>(p.top,p.dE)⟩
theorem numAt_eq{n:Nw}(R:Right n){k:Nat}(h:k<n.c8.length):(de n).numAt k=((n.c8.getD k p0).top:Rat) / ((n.c8.getD k p0).dE:Rat):=by
 unfold Wh.Net.numAt;rw[R.elem h];rfl
theorem JQ{n:Nw}(R:Right n){st:List Bool}{r:List Nat}(h:nI 0 n.c8.length st r):lQ n (IX n st) ((de n).rest r):=by
 have dv:∀k,k<n.c8.length->(IX n st).drives.getD k (0,1)=((n.c8.getD k p0).top,(n.c8.getD k p0).dE):=fun k hk=>by
  show(n.c8.map fun p=>(p.top,p.dE)).getD k (0,1)=_;rw[gDe,gDe,aA,aa hk];rfl
 refine⟨rfl,fun k hk=> ?_,fun k hk _=> ?_,fun k hk _=> ?_⟩
 ·show r.contains k=st.getD k false;exact h.2.2 k (aL _)
 ·rw[dv k hk];exact⟨by have:=(R.p hk).b1;show 0<(n.c8.getD k p0).dE;lia,numAt_eq R hk⟩
 ·rw[dv k hk];exact⟨by have:=(R.p hk).b1;show 0<(n.c8.getD k p0).dE;lia,numAt_eq R hk⟩
theorem ot{n:Nw}(R:Right n){st:List Bool}{r:List Nat}(h:nI 0 n.c8.length st r){src:Int}(h0:0<=src)(hs:sH n src=true):lQ n (gG n st src) (Wh.alone r src.toNat):=by
 unfold sH at hs;obtain⟨s1,s2⟩:=(aF _ _).mp hs;have s1:=az s1;have s2:=az s2;unfold kindAt at s2;have dv:∀k,k<n.c8.length->(gG n st src).drives.getD k (0,1)=if(k:Int)=src then(1,1) else(0,1):=fun k hk=>kj _ _ _ _ hk
 refine⟨rfl,fun k hk=> ?_,fun k hk _=> ?_,fun k hk h13=> ?_⟩
 ·show r.contains k=st.getD k false;exact h.2.2 k (aL _)
 ·rw[dv k hk];show _/\(if k=src.toNat then(1:Rat) else 0)=_;by_cases e:(k:Int)=src
  ·rw[ah e,ah (by lia)];exact⟨by decide,by decide +kernel⟩
  ·rw[af e,af (by lia)];exact⟨by decide,by decide +kernel⟩
 ·rw[dv k hk];show _/\(0:Rat)=_;have e:¬(k:Int)=src:=fun e=>by
   have:src.toNat=k:=by lia
   rw[this,h13] at s2;lia
  rw[af e];exact⟨by decide,by decide +kernel⟩
theorem Cq(l:dQ):(dF l).f 0=((fc l:Int):Rat):=by
 cases l with
 |nil=>rfl
 |cons a l=>
  rw[e9];show(a:Rat)+0*_=(a:Rat);grind
theorem Sw(L:Wh.Law)(m j:Nat):Dg (Lv (ei j) 0 m L) 1:=by
 unfold Lv;have z:(0:PF)*Rv (ei j) L.byS=0:=by grind
 rw[z];exact((Lj j L.terms).add (xh 1)).add ((Oq m j).smul L.right)
theorem Aw:∀m,sumNat m (fun _=>0)=0
 |0=>rfl
 |m+1=>by
  show sumNat m _+ 0=0;rw[Aw m]
theorem Qy(n:Nw)(G:Wh.Setting):Dg (det (de n).unknowns (Sm n G 0)) 1:=by
 have:=FW (de n).unknowns (A:=Sm n G 0) (d:=fun _=>0) fun i j _ _=>Sw _ _ _
 rw[Aw] at this;exact this
theorem Ge{A:Type} [CommRing A](m:Nat)(F:Nat->Nat->A)(c:Nat)(hc:c<m):det m (e7 F c fun _=>0)=0:=nF m _ c hc fun i _=>g7
section
variable {n:Nw}(R:Right n){g:lh}{G:Wh.Setting}(S:lQ n g G)(hs:g.s=[])
include R S hs
theorem Mt:(sol (rows g)=none/\(de n).solved G 0=none)\/∃d tops x,sol (rows g)=some (d,tops)/\(de n).solved G 0=some x/\tops.length=(de n).unknowns/\(∃z,d=[z])/\fc d≠0/\(det (de n).unknowns (Sm n G 0)).f 0≠0/\∀c,c<(de n).unknowns->((fc (tops.getD c []):Int):Rat)=x.getD c 0*((fc d:Int):Rat):=by
 have σ0:dF g.s=0:=by rw[hs];rfl
 have zf:∀x:Rat,(0:PF).f x=0:=fun x=>rfl
 have rl:((de n).rows G 0).length=(de n).unknowns:=by unfold Wh.Net.rows;rw[lMp,iz]
 have rr:∀r∈(de n).rows G 0,r.1.length=(de n).unknowns:=fun r hr=>by
  unfold Wh.Net.rows at hr;obtain⟨L,_,rfl⟩:=aN.mp hr;exact Br _ _ _
 have rmem:∀i,i<(de n).unknowns->(((de n).laws G).getD i L0).row (de n).unknowns 0∈(de n).rows G 0:=fun i hi=>aB (xw n G 0 hi)
 have dotE:∀(i:Nat) (p:Rat) (y:Nat->Rat),dot (de n).unknowns ((((de n).laws G).getD i L0).row (de n).unknowns 0).1 y=eh (de n).unknowns fun j=>(Sm n G 0 i j).f p*y j:=fun i p y=>by
  unfold dot;exact eC _ fun j hj=>by rw[Gb _ _ 0 p 0 (zf p) j hj];rfl
 have spec:=JH rl rr;have sp:=Cn R S;rw[σ0] at sp;rcases sp with⟨d,tops,e,tl,td,dn,tt,q,hq,hd,ht⟩ |⟨e,h0,x,⟨j,hj,xj⟩,hx⟩
 ·have dl:d.length<=1:=vM td (c:=1) (by decide) (e:=1) (by
   rw[hd,fX];have:=(Qy n G).smul q;have e2:(1:PF)*(PF.const q*det (de n).unknowns (Sm n G 0))=PF.const q*det (de n).unknowns (Sm n G 0):=by grind
   rw[e2];exact this)
  obtain⟨z,rfl⟩:∃z,d=[z]:=by
   cases d with
   |nil=>exact absurd rfl dn
   |cons z l=>
    cases l with
    |nil=>exact⟨z,rfl⟩
    |cons y l=>simp at dl
  have z0:fc [z]≠0:=ft.mp td (by simp);have dd:((fc [z]:Int):Rat)=q*(det (de n).unknowns (Sm n G 0)).f 0:=by
   rw[<-Cq,hd];rfl
  have D0:(det (de n).unknowns (Sm n G 0)).f 0≠0:=fun e=>by
   rw[e] at dd;have:((fc [z]:Int):Rat)=0:=by rw[dd];grind
   exact z0 (by exact_mod_cast this)
  right;rcases spec with⟨x,sx,xl,hx⟩ |⟨sn,y,⟨j,hj,yj⟩,hy⟩
  ·refine⟨[z],tops,x,e,sx,tl,⟨z,rfl⟩,z0,D0,fun c hc=> ?_⟩;have sat1:=(hx (fun j=>x.getD j 0) 1).mpr fun j _=>by grind
   have eqs:∀i,i<(de n).unknowns->eh (de n).unknowns (fun d=>(Sm n G 0 i d).f 0*x.getD d 0)=(Sm n G 0 i (de n).unknowns).f 0:=fun i hi=>by
    have h1:=sat1 _ (rmem i hi);unfold sat at h1;rw[dotE i 0,EN _ _ 0 0 0 (HP R G _ (memD (by rw[iz];exact hi)))] at h1;rw[h1];show 1*(Sm n G 0 i (de n).unknowns).f 0=_;grind
   have cr:=BJ (de n).unknowns (fun i j=>(Sm n G 0 i j).f 0) (fun j=>x.getD j 0) (fun i=>(Sm n G 0 i (de n).unknowns).f 0) c hc eqs;have top:((fc (tops.getD c []):Int):Rat)=q*det (de n).unknowns (e7 (fun i j=>(Sm n G 0 i j).f 0) c fun i=>(Sm n G 0 i (de n).unknowns).f 0):=by
    rw[<-Cq,ht c hc];show q*PF.f (det _ _) 0=_;rw[Et];congr 1;refine eH _ fun i j _ _=> ?_
    show(if j=c then _ else _:PF).f 0=if j=c then _ else _
    split <;>rfl
   rw[top,cr,dd,Et];grind
  ·exfalso;have cr:=BJ (de n).unknowns (fun i j=>(Sm n G 0 i j).f 0) y (fun _=>0) j hj fun i hi=>by
    rw[<-dotE i 0];exact hy _ (rmem i hi)
   rw[Ge _ _ _ hj,<-Et] at cr;rcases bX.mp cr.symm with h |h
   ·exact yj h
   ·exact D0 h
 ·left;refine⟨e,?_⟩;rcases spec with⟨x0,sx,xl,hx0⟩ |⟨sn,_⟩
  ·exfalso;obtain⟨N,hN⟩:=PF.Bg xj;have hN:=hN N (ai _);have:∀r∈(de n).rows G 0,sat (de n).unknowns (fun d=>(x d).f (N:Rat)) 0 r:=fun r hr=>by
    obtain⟨i,hi,er⟩:=aW hr;have hi2:i<(de n).unknowns:=by lia
    have e2:=xw n G 0 hi2;rw[aa hi,er] at e2;cases e2
    unfold sat;rw[dotE i (N:Rat)];have h2:=hx i hi2;have h3:(eh (de n).unknowns fun d=>Sm n G 0 i d*x d).f (N:Rat)=0:=by rw[h2];rfl
    rw[Jz] at h3;rw[show(fun j=>(Sm n G 0 i j).f (N:Rat)*(x j).f (N:Rat))=fun j=>(Sm n G 0 i j*x j).f (N:Rat) from rfl,h3];grind
   have h4:=(hx0 _ 0).mp this j hj;exact hN (by rw[h4];grind)
  ·exact sn
end
theorem Qz(a b:dQ):((fc (tQ a b):Int):Rat)=((fc a:Int):Rat) - ((fc b:Int):Rat):=by
 rw[<-Cq,<-Cq,<-Cq,qU];rfl
section
variable {n:Nw}(R:Right n){d:dQ}{tops:List dQ}{x:List Rat}(tl:tops.length=(de n).unknowns)(d0:fc d≠0)
 (ht:∀c,c<(de n).unknowns->((fc (tops.getD c []):Int):Rat)=x.getD c 0*((fc d:Int):Rat))
include R ht
theorem Lm{v:Int}(h0:0<=v)(h1:v<=n.last):((fc (gT (d,tops) v):Int):Rat)=Wh.voltage x v.toNat*((fc d:Int):Rat):=by
 unfold gT Wh.voltage;by_cases h:0<v
 ·rw[ah h,af (by lia)];have nl:=om n;have:=ht (v - 1).toNat (by lia);have e:v.toNat - 1=(v - 1).toNat:=by lia
  rw[e];exact this
 ·rw[af h,ah (by lia)];show((0:Int):Rat)=_;push_cast;grind
include tl d0
theorem ER{st:List Bool}{r:List Nat}(hr:nI 0 n.c8.length st r){k:Nat}(hk:k<n.c8.length)(h13:(n.c8.getD k p0).kind=13):
  vK (IX n st) (d,tops) k=if r.contains k=true then decide (0<=((de n).quantity 1 k x).getD 0) else decide (((de n).quantity 2 k x).getD 0<=(de n).numAt k):=by
 have pp:=R.p hk;have hD:=pp.D.mpr h13;have hM:¬(du (n.c8.getD k p0)).kind= .M:=fun e=>by rw[jF,hD] at e;cases e
 obtain⟨n0,n1⟩:=gh hD (.inl rfl);have ab:=R.ab hk (by lia);have dr:((fc d:Int):Rat)≠0:=fun e=>d0 (by exact_mod_cast e)
 have dd:0<((fc d:Int):Rat)*((fc d:Int):Rat):=by
  have h1:(0:Int)<fc d*fc d:=by
   rcases Int.lt_or_gt_of_ne d0 with h |h
   ·exact cV h h
   ·exact Int.mul_pos h h
  have h2:(0:Rat)<((fc d*fc d:Int):Rat):=by exact_mod_cast h1
  push_cast at h2;exact h2
 have q1:((de n).quantity 1 k x).getD 0=x.getD ((de n).at_ k) 0:=by
  unfold Wh.Net.quantity;rw[af (by decide),R.elem hk];dsimp only;rw[af hM,ah rfl];rfl
 have q2:((de n).quantity 2 k x).getD 0=Wh.voltage x (n.c8.getD k p0).a.toNat - Wh.voltage x (n.c8.getD k p0).b.toNat:=by
  unfold Wh.Net.quantity;rw[af (by decide),R.elem hk];dsimp only;rw[af hM,af (by decide),ah rfl,n0,n1];rfl
 rw[q1,q2,numAt_eq R hk,hr.2.2 k (aL _)];unfold vK;dsimp only;show(if st.getD k false=true then decide (0<=fc (ig (IX n st) (d,tops) k)*fc d) else decide (fc (pP (IX n st) (d,tops) k)*fc d*(n.c8.getD k p0).dE<=(n.c8.getD k p0).top*fc d*fc d))=if st.getD k false=true then _ else _
 by_cases hb:st.getD k false=true
 ·rw[ah hb,ah hb,decide_eq_decide];have c1:((fc (ig (IX n st) (d,tops) k):Int):Rat)=x.getD ((de n).at_ k) 0*((fc d:Int):Rat):=by
   unfold ig;show((fc (tops.getD ((places n).getD k 0).toNat []):Int):Rat)=_;rw[R.place hk,a8];exact ht _ (uh R hk (by lia))
  have c2:(0<=fc (ig (IX n st) (d,tops) k)*fc d)↔(0:Rat)<=((fc (ig (IX n st) (d,tops) k):Int):Rat)*((fc d:Int):Rat):=by
   constructor
   ·intro h;have:(0:Rat)<=((fc (ig (IX n st) (d,tops) k)*fc d:Int):Rat):=by exact_mod_cast h
    push_cast at this;exact this
   ·intro h;have:(0:Rat)<=((fc (ig (IX n st) (d,tops) k)*fc d:Int):Rat):=by push_cast;exact h
    exact_mod_cast this
  rw[c2,c1];have e:x.getD ((de n).at_ k) 0*((fc d:Int):Rat)*((fc d:Int):Rat)=x.getD ((de n).at_ k) 0*(((fc d:Int):Rat)*((fc d:Int):Rat)):=by grind
  rw[e];constructor
  ·intro h;refine Rat.le_of_mul_le_mul_right (c:=((fc d:Int):Rat)*((fc d:Int):Rat)) ?_ dd;rw[Rat.zero_mul];exact h
  ·intro h;exact Rat.mul_nonneg h (Rat.le_of_lt dd)
 ·rw[af hb,af hb,decide_eq_decide];have c1:((fc (pP (IX n st) (d,tops) k):Int):Rat)=(Wh.voltage x (n.c8.getD k p0).a.toNat - Wh.voltage x (n.c8.getD k p0).b.toNat)*((fc d:Int):Rat):=by
   unfold pP jE;rw[Qz];show((fc (gT (d,tops) (n.c8.getD k p0).a):Int):Rat) - ((fc (gT (d,tops) (n.c8.getD k p0).b):Int):Rat)=_;rw[Lm R ht pp.a0 ab.1,Lm R ht pp.b0 ab.2];grind
  have bp:(0:Rat)<((n.c8.getD k p0).dE:Rat):=jZ (by have:=pp.b1;lia);generalize (Wh.voltage x (n.c8.getD k p0).a.toNat - Wh.voltage x (n.c8.getD k p0).b.toNat)=v at c1⊢;generalize fc (pP (IX n st) (d,tops) k)=u at c1⊢;generalize n.c8.getD k p0=p at bp⊢;have c2:(u*fc d*p.dE<=p.top*fc d*fc d)↔((u:Int):Rat)*((fc d:Int):Rat)*(p.dE:Rat)<=(p.top:Rat)*((fc d:Int):Rat)*((fc d:Int):Rat):=by
   constructor
   ·intro h;have:((u*fc d*p.dE:Int):Rat)<=((p.top*fc d*fc d:Int):Rat):=by exact_mod_cast h
    push_cast at this;exact this
   ·intro h;have:((u*fc d*p.dE:Int):Rat)<=((p.top*fc d*fc d:Int):Rat):=by push_cast;exact h
    exact_mod_cast this
  rw[c2,c1];have pos:=Rat.mul_pos dd bp;have e1:v*((fc d:Int):Rat)*((fc d:Int):Rat)*(p.dE:Rat)=v*(((fc d:Int):Rat)*((fc d:Int):Rat)*(p.dE:Rat)):=by grind
  have e2:(p.top:Rat)*((fc d:Int):Rat)*((fc d:Int):Rat)=(p.top:Rat) / (p.dE:Rat)*(((fc d:Int):Rat)*((fc d:Int):Rat)*(p.dE:Rat)):=by grind
  rw[e1,e2];exact⟨fun h=>Rat.le_of_mul_le_mul_right h pos,fun h=>Rat.mul_le_mul_of_nonneg_right h (Rat.le_of_lt pos)⟩
theorem QA{st:List Bool}{r:List Nat}(hr:nI 0 n.c8.length st r):jo (IX n st) (d,tops)=(de n).fits r x:=by
 unfold jo Wh.Net.fits;rw[Gd R];show((List.range n.c8.length).filter fun k=>decide ((n.c8.getD k p0).kind=13)).all _=_;rw[a6,bD,bD];constructor
 ·intro h k hk;obtain⟨hk1,hk2⟩:=bT.mp hk;rw[<-ER R tl d0 ht hr (aT.mp hk1) (az hk2)];exact h k hk
 ·intro h k hk;obtain⟨hk1,hk2⟩:=bT.mp hk;rw[ER R tl d0 ht hr (aT.mp hk1) (az hk2)];exact h k hk
end
noncomputable def Rl (n:Nw):Option (List Bool×(dQ×List dQ))->Option (Wh.States×List Rat)->Prop
 |none,none=>True
 |some p,some q=>p.1∈eW n.c8 [[]]/\nI 0 n.c8.length p.1 q.1/\(det (de n).unknowns (Sm n ((de n).rest q.1) 0)).f 0≠0
 |_,_=>False
theorem Ax{n:Nw}(R:Right n):∀{sts:List (List Bool)} {rs:List Wh.States},Al (nI 0 n.c8.length) sts rs->(∀st∈sts,st∈eW n.c8 [[]])->
  Rl n (mC n sts) (rs.findSome? fun(r:Wh.States)=>match(de n).solved ((de n).rest r) 0 with
   |none=>none
   |some x=>if(de n).fits r x=true then some (r,x) else none)
 |_,_,.nil,_=>trivial
 |st::sts,r::rs,.cons h t,hm=>by
  have ih:=Ax R t fun s hs=>hm s (ak _ hs)
  rw[List.findSome?_cons];have e:mC n (st::sts)=match sol (rows (IX n st)) with
   |none=>mC n sts
   |some s=>if jo (IX n st) s=true then some (st,s) else mC n sts:=rfl
  rw[e];rcases Mt R (JQ R h) rfl with⟨e1,e2⟩ |⟨d,tops,x,e1,e2,tl,_,d0,D0,ht⟩
  ·rw[e1,e2];exact ih
  ·rw[e1,e2];dsimp only;rw[QA R tl d0 ht h];by_cases hf:(de n).fits r x=true
   ·rw[ah hf,ah hf];exact⟨hm st ax,h,D0⟩
   ·rw[af hf,af hf];exact ih
theorem ES{n:Nw}(R:Right n):Rl n (point n) (de n).point:=by
 unfold point Wh.Net.point;have e:eW n.c8 [[]]=oq n.c8:=Av _;refine Ax R (rs:=Wh.rowsOf (de n).diodes) ?_ fun st h=>h
 rw[e,Ms R];exact zj n.c8 0
theorem ET:∀(f:Nat) (l:List Int),l.length<=f->WhB.sevens f l=(List.range ((l.length+6) / 7)).map fun i=>(l.drop (7*i)).take 7
 |0,l,h=>by
  have:l=[]:=bc.mp (by lia);subst this;rfl
 |f+1,l,h=>by
  unfold WhB.sevens;by_cases e:l.isEmpty=true
  ·rw[ah e];have:l=[]:=cT.mp e;subst this;rfl
  ·rw[af e];have hl:0<l.length:=by
    cases l with
    |nil=>exact absurd rfl e
    |cons=>simp
   rw[ET f (l.drop 7) (by rw[bC];lia),bC];have e2:(l.length+6) / 7=(l.length - 7+6) / 7+1:=by lia
   rw[e2,List.range_succ_eq_map,aJ,aQ];congr 1;apply aY;intro i _;show((l.drop 7).drop (7*i)).take 7=(l.drop (7*(i+1))).take 7;rw[List.drop_drop];congr 2;lia
theorem Ay(l:List Int):WhB.sevens l.length (l.drop 1)=dN l:=by
 rw[ET l.length (l.drop 1) (by rw[bC];lia),bC];unfold dN;apply aY;intro i _;rw[List.drop_drop]
theorem ou(l:List Int)(h:l.length % 7=1):∀r∈dN l,r.length=7:=fun r hr=>by
 unfold dN at hr;obtain⟨i,hi,rfl⟩:=aN.mp hr;have hi:=aT.mp hi;rw[aC,bC];lia
theorem Ou{r:List Int}(h:r.length=7):WhB.sevenOk r=ir r:=by
 match r,h with
 |[a,b,c,d,e,f,g],_=>
  rw[a6];unfold WhB.sevenOk ir WhB.small WhB.NUMBER;simp
  (first |lia |omega)
theorem HU(r:List Int):r.headD 0=r.getD 0 0:=by cases r <;>rfl
theorem Cr{α:Type}{p q:α->Bool}:∀{l:List α},(∀x∈l,p x=q x)->l.all p=l.all q
 |[],_=>rfl
 |x::l,h=>by
  rw[List.all_cons,List.all_cons,h x ax,Cr fun y hy=>h y (ak _ hy)]
theorem Sx(l:List Int):WhB.rowOk l=nu l:=by
 unfold WhB.rowOk nu;rw[Ay];have fe:((dN l).filter fun(x:List Int)=>x.headD 0==13)=(dN l).filter fun r=>decide (r.getD 0 0=13):=by
  apply List.filter_congr;intro r _;rw[HU,a6];simp
 rw[fe];have pl:(dN l).length=(l.length - 1+6) / 7:=by unfold dN;simp
 by_cases h0:l.length=0\/¬(1<=l.headD 0/\l.headD 0<=8)
 ·rw[ah h0,Bool.eq_false_iff];intro q;obtain⟨_,q⟩:=(aF _ _).mp q;obtain⟨q1,q⟩:=(aF _ _).mp q;obtain⟨q2,q⟩:=(aF _ _).mp q;obtain⟨q3,q⟩:=(aF _ _).mp q;have q1:=az q1;have q2:=az q2;have q3:l.headD 0<=((8:Nat):Int):=az q3;rcases h0 with h |h
  ·lia
  ·exact h ⟨q2,by lia⟩
 rw[af h0];have hh:1<=l.headD 0/\l.headD 0<=8:=cy fun q=>h0 (.inr q)
 have hl:¬l.length=0:=fun q=>h0 (.inl q)
 by_cases h1:(l.length - 1) % 7=0
 rotate_left
 ·rw[ah h1,Bool.eq_false_iff];intro q;obtain⟨_,q⟩:=(aF _ _).mp q;obtain⟨q1,q⟩:=(aF _ _).mp q;have q1:=az q1;lia
 rw[af (fun q=>q h1)];have h7:l.length % 7=1:=by lia
 by_cases h2:10<(dN l).length
 ·rw[ah h2,Bool.eq_false_iff];intro q;obtain⟨_,q⟩:=(aF _ _).mp q;obtain⟨_,q⟩:=(aF _ _).mp q;obtain⟨_,q⟩:=(aF _ _).mp q;obtain⟨_,q⟩:=(aF _ _).mp q;obtain⟨q4,q⟩:=(aF _ _).mp q;have q4:=az q4;lia
 rw[af h2];have ae:(dN l).all WhB.sevenOk=(dN l).all ir:=Cr fun r hr=>Ou (ou l h7 r hr)
 rw[ae,aj h7,aj hh.1,aj (show l.headD 0<=((Wh.NODES:Nat):Int) from hh.2),aj (show l.length<=7*10+1 by lia)];by_cases h3:(dN l).all ir=true
 ·rw[af (fun q=>q h3),h3];show(_&&true)=_;rw[Bool.and_true];rfl
 ·rw[ah h3,show(dN l).all ir=false by simpa using h3];show(_&&false)=false;rw[Bool.and_false]
theorem QB{r:List Int}(h:r.length=7):WhB.elemIn r=du (Part.of r):=by
 unfold WhB.elemIn du Part.of kindOf;have e:r.getD 6 1=r.getD 6 0:=by
  rw[gDe,gDe,aa (by lia)];rfl
 rw[e]
theorem Sy{l:List Int}(h:l.length % 7=1):WhB.netIn l=de (dG l):=by
 unfold WhB.netIn de dG;rw[Ay];dsimp only;rw[aQ];congr 1;apply aY;intro r hr;exact QB (ou l h r hr)
theorem QC{r:List Int}(h:ir r=true)(h7:r.length=7):Pn (Part.of r):=by
 unfold ir at h;by_cases h0:0<=r.getD 0 0/\r.getD 0 0<=13
 rotate_left
 ·rw[ah h0] at h;cases h
 rw[af (fun q=>q h0)] at h;by_cases h1:((r.drop 1).take 4).all (fun p=>decide (0<=p/\p<=63))=true
 rotate_left
 ·rw[ah h1] at h;cases h
 rw[af (fun q=>q h1)] at h;obtain⟨h2,h3⟩:=(aF _ _).mp h;have h2:=az h2;have h3:=az h3;match r,h7 with
 |[a,b,d,e,f,g,k],_=>
  have q:=bD.mp h1;have q1:=az (q b (by simp));have q2:=az (q d (by simp));have q3:=az (q e (by simp));have q4:=az (q f (by simp));exact⟨h0.1,h0.2,q1.1,q2.1,q3.1,q4.1,h2,h3.1,h3.2⟩
structure Vl(l:List Int):Prop where
 m7:l.length % 7=1
 l1:1<=(dG l).last
 l8:(dG l).last<=8
 c8:(dG l).c8.length<=10
 pn:∀p∈(dG l).c8,Pn p
theorem Ov{l:List Int}(h:nu l=true):Vl l:=by
 unfold nu at h;by_cases h0:l.length=0\/¬(1<=l.headD 0/\l.headD 0<=8)
 ·rw[ah h0] at h;cases h
 rw[af h0] at h;by_cases h1:(l.length - 1) % 7=0
 rotate_left
 ·rw[ah h1] at h;cases h
 rw[af (fun q=>q h1)] at h;by_cases h2:10<(dN l).length
 ·rw[ah h2] at h;cases h
 rw[af h2] at h;by_cases h3:(dN l).all ir=true
 rotate_left
 ·rw[ah h3] at h;cases h
 have hh:1<=l.headD 0/\l.headD 0<=8:=cy fun q=>h0 (.inr q)
 have hl:¬l.length=0:=fun q=>h0 (.inl q)
 have h7:l.length % 7=1:=by lia
 refine⟨h7,hh.1,hh.2,?_,fun p hp=> ?_⟩
 ·show((dN l).map Part.of).length<=10;rw[lMp];lia
 ·obtain⟨r,hr,rfl⟩:=aN.mp (show p∈(dN l).map Part.of from hp);exact QC (bD.mp h3 r hr) (ou l h7 r hr)
theorem JR{a b c d:Int}(hb:0<b)(hd:0<d):((a:Rat) / (b:Rat)<(c:Rat) / (d:Rat))↔a*d<c*b:=by
 have b':=jZ hb;have d':=jZ hd;have p:=Rat.mul_pos b' d';have e1:(a:Rat) / (b:Rat)*((b:Rat)*(d:Rat))=((a*d:Int):Rat):=by push_cast;grind
 have e2:(c:Rat) / (d:Rat)*((b:Rat)*(d:Rat))=((c*b:Int):Rat):=by push_cast;grind
 rw[<-Rat.mul_lt_mul_right p,e1,e2];constructor
 ·intro h;exact_mod_cast h
 ·intro h;exact_mod_cast h
theorem div_eq{a b c d:Int}(hb:0<b)(hd:0<d):((a:Rat) / (b:Rat)=(c:Rat) / (d:Rat))↔a*d=c*b:=by
 have b':=jZ hb;have d':=jZ hd;constructor
 ·intro h;have:((a*d:Int):Rat)=((c*b:Int):Rat):=by push_cast;grind
  exact_mod_cast this
 ·intro h;have:((a*d:Int):Rat)=((c*b:Int):Rat):=by exact_mod_cast h
  push_cast at this;grind
section
variable {n:Nw}(hl:0<=n.last)(pn:∀p∈n.c8,Pn p)
theorem Ui{p:Part}(h:Pn p):(0<(p.top:Rat) / (p.dE:Rat))↔0<p.top:=by
 have:=JR (a:=0) (b:=1) (c:=p.top) (d:=p.dE) (by decide) (by have:=h.b1;lia);have e:((0:Int):Rat) / ((1:Int):Rat)=0:=by decide +kernel
 rw[e] at this;rw[this];lia
theorem SA{p:Part}(h:Pn p):((p.top:Rat) / (p.dE:Rat)=0)↔p.top=0:=by
 have:=div_eq (a:=p.top) (b:=p.dE) (c:=0) (d:=1) (by have:=h.b1;lia) (by decide);have e:((0:Int):Rat) / ((1:Int):Rat)=0:=by decide +kernel
 rw[e] at this;rw[this];lia
theorem Uj{p:Part}(h:Pn p):((p.top:Rat) / (p.dE:Rat)=1)↔p.top=p.dE:=by
 have:=div_eq (a:=p.top) (b:=p.dE) (c:=1) (d:=1) (by have:=h.b1;lia) (by decide);have e:((1:Int):Rat) / ((1:Int):Rat)=1:=by decide +kernel
 rw[e] at this;rw[this];lia
theorem Ow{p:Part}(h:Pn p):(0<=(p.top:Rat) / (p.dE:Rat))↔0<=p.top:=by
 have:=JR (a:=p.top) (b:=p.dE) (c:=0) (d:=1) (by have:=h.b1;lia) (by decide);have e:((0:Int):Rat) / ((1:Int):Rat)=0:=by decide +kernel
 rw[e] at this;rw[<-Rat.not_lt,this];lia
theorem SD{p:Part}(h:Pn p):Wh.mayHave (kindOf p.kind) ((p.top:Rat) / (p.dE:Rat))=lJ p:=by
 have k:=iy h.k0 h.k1;obtain⟨kM,kT,kD,kV,kI,kL,kC,kH,kF,kS,kO,kE,kG,kR⟩:=k;unfold Wh.mayHave lJ;simp only[kM,kT,kD,kV,kI,kL,kC,kH,kF,kS,kO,kE,kG,kR];have qp:=Ui h;have qz:=SA h;have qo:=Uj h;have qn:=Ow h;simp only[qp,qz,qo,qn,ne_eq];rcases oj h.k0 h.k1 with e |e |e |e |e |e |e |e |e |e |e |e |e |e <;>simp[e]
theorem Ox{p:Part}(h:Pn p)(hl:0<=n.last):(du p).nodes.any (fun(v:Nat)=>decide ((de n).nodes<v))=(gD p).any (fun v=>decide (n.last<v)):=by
 have k:=iy h.k0 h.k1;obtain⟨kM,kT,kD,kV,kI,kL,kC,kH,kF,kS,kO,kE,kG,kR⟩:=k;have dv:∀v:Int,0<=v->decide ((de n).nodes<v.toNat)=decide (n.last<v):=fun v h0=>by
  show decide (n.last.toNat<v.toNat)=_;rw[decide_eq_decide];lia
 unfold du gD Wh.nodeCount;dsimp only;simp only[kM,kE,kG,kT,kO];by_cases h3:p.kind=3
 ·simp[h3]
 ·simp only[h3,if_false];by_cases h4:p.kind=6\/p.kind=7\/p.kind=10\/p.kind=11
  ·simp only[h4,if_true];show[p.a.toNat,p.b.toNat,p.c.toNat,p.d.toNat].any _=_;simp only[cg,List.any_nil,dv _ h.a0,dv _ h.b0,dv _ h.c0,dv _ h.d0]
  ·simp only[h4,if_false];show[p.a.toNat,p.b.toNat].any _=_;simp only[cg,List.any_nil,dv _ h.a0,dv _ h.b0]
include pn
theorem Ln{i:Int}(h0:0<=i)(h1:i<n.c8.length):(de n).kindAt i.toNat=some (kindOf (kindAt n.c8 i))/\0<=kindAt n.c8 i/\kindAt n.c8 i<=13:=by
 have hi:i.toNat<n.c8.length:=by lia
 have pp:=pn _ (memD (d:=p0) hi);unfold Wh.Net.kindAt kindAt;show((n.c8.map du)[i.toNat]?).map _=_/\_;rw[aA,gDe,aa hi];rw[gDe,aa hi] at pp;exact⟨rfl,pp.k0,pp.k1⟩
theorem Lo{k:Nat}(hk:k<=n.c8.length){i:Int}(h0:0<=i):(decide (k<=i.toNat) ||(de n).kindAt i.toNat !=some .L)= !dU n.c8 i k:=by
 unfold dU;by_cases h:i<k
 ·obtain⟨e,e0,e1⟩:=Ln pn h0 (show i<n.c8.length by lia);rw[e,aj h,ao (show ¬k<=i.toNat by lia)];have kL:=(iy e0 e1).2.2.2.2.2.1;rw[Bool.false_or,Bool.true_and];by_cases q:kindAt n.c8 i=2
  ·rw[aj q,kL.mpr q];rfl
  ·rw[ao q];have:¬kindOf (kindAt n.c8 i)= .L:=fun z=>q (kL.mp z)
   simpa using this
 ·rw[ao h,aj (show k<=i.toNat by lia)];rfl
theorem SE{k:Nat}(hk:k<=n.c8.length){i:Int}(h0:0<=i):(decide (k<=i.toNat) ||(de n).kindAt i.toNat==some .M)= !(decide (i<k)&&decide (kindAt n.c8 i≠3)):=by
 by_cases h:i<k
 ·obtain⟨e,e0,e1⟩:=Ln pn h0 (show i<n.c8.length by lia);rw[e,aj h,ao (show ¬k<=i.toNat by lia)];have kM:=(iy e0 e1).1;rw[Bool.false_or,Bool.true_and];by_cases q:kindAt n.c8 i=3
  ·rw[ao (fun z=>z q),kM.mpr q];rfl
  ·rw[aj (show kindAt n.c8 i≠3 from q)];have:¬kindOf (kindAt n.c8 i)= .M:=fun z=>q (kM.mp z)
   simpa using this
 ·rw[ao h,aj (show k<=i.toNat by lia)];rfl
omit pn in
theorem Ct{p q:Part}(hp:Pn p)(hq:Pn q)(h3:p.kind=3):(decide ((du q).kind= .M)&&((du q).refs==(du p).refs ||(du q).refs==(du p).refs.reverse))=jh q p.a p.b:=by
 have rp:(du p).refs=[p.a.toNat,p.b.toNat]:=by
  unfold du;dsimp only;rw[ah (hp.M.mpr h3)]
 unfold jh;by_cases hk:q.kind=3
 ·have rq:(du q).refs=[q.a.toNat,q.b.toNat]:=by
   unfold du;dsimp only;rw[ah (hq.M.mpr hk)]
  rw[af (fun z=>z hk),rp,rq,aj (show(du q).kind= .M from hq.M.mpr hk)];have:=hp.a0;have:=hp.b0;have:=hq.a0;have:=hq.b0;rw[a6];simp;lia
 ·rw[ah hk,ao (show ¬(du q).kind= .M from fun z=>hk (hq.M.mp z))];rfl
theorem Oy(hl:0<=n.last){k:Nat}(hk:k<n.c8.length):gE n k=(((de n).wrongAt k (du (n.c8.getD k p0)):Nat):Int):=by
 have pp:=pn _ (memD (d:=p0) hk);unfold gE Wh.Net.wrongAt;dsimp only;rw[Ox pp hl,jF,F6,SD pp];by_cases h1:(gD (n.c8.getD k p0)).any (fun v=>decide (n.last<v))=true
 ·rw[ah h1,ah h1];rfl
 rw[af h1,af h1];by_cases h2:lJ (n.c8.getD k p0)=false
 ·rw[ah h2,ah h2];rfl
 rw[af h2,af h2];by_cases h3:(n.c8.getD k p0).kind=3
 ·have mf:fA n.c8 k=true:=by
   unfold fA;dsimp only;rw[ah (by lia)]
  rw[af (by rw[mf];simp),ah h3,ah (pp.M.mpr h3)];unfold lK;dsimp only;have rp:(du (n.c8.getD k p0)).refs=[(n.c8.getD k p0).a.toNat,(n.c8.getD k p0).b.toNat]:=by
   unfold du;dsimp only;rw[ah (pp.M.mpr h3)]
  have anyT:((de n).elems.take k).any (fun(y:Wh.Elem)=>decide (y.kind= .M)&&(y.refs==(du (n.c8.getD k p0)).refs ||y.refs==(du (n.c8.getD k p0)).refs.reverse))=(n.c8.take k).any (fun q=>jh q (n.c8.getD k p0).a (n.c8.getD k p0).b):=by
   show((n.c8.map du).take k).any _=_;rw[<-List.map_take,List.any_map];rw[a6,bJ,bJ];constructor
   ·rintro⟨q,hq,e⟩;refine⟨q,hq,?_⟩;rw[<-Ct pp (pn q (List.mem_of_mem_take hq)) h3];exact e
   ·rintro⟨q,hq,e⟩;refine⟨q,hq,?_⟩;rw[<-Ct pp (pn q (List.mem_of_mem_take hq)) h3] at e;exact e
  rw[anyT,rp];have anyR:[(n.c8.getD k p0).a.toNat,(n.c8.getD k p0).b.toNat].any (fun(a:Nat)=>decide (k<=a) ||(de n).kindAt a !=some .L)=(!dU n.c8 (n.c8.getD k p0).a k || !dU n.c8 (n.c8.getD k p0).b k):=by
   rw[cg,cg,List.any_nil,Lo pn (b5 hk) pp.a0,Lo pn (b5 hk) pp.b0,Bool.or_false]
  rw[anyR];show _=(((if(!dU n.c8 (n.c8.getD k p0).a k || !dU n.c8 (n.c8.getD k p0).b k)=true\/(n.c8.getD k p0).a.toNat=(n.c8.getD k p0).b.toNat\/((n.c8.take k).any fun q=>jh q (n.c8.getD k p0).a (n.c8.getD k p0).b)=true then 3 else if(de n).numAt (n.c8.getD k p0).a.toNat*(de n).numAt (n.c8.getD k p0).b.toNat<((n.c8.getD k p0).top:Rat) / ((n.c8.getD k p0).dE:Rat)*(((n.c8.getD k p0).top:Rat) / ((n.c8.getD k p0).dE:Rat)) then 2 else 0:Nat)):Int);have abI:(n.c8.getD k p0).a.toNat=(n.c8.getD k p0).b.toNat↔(n.c8.getD k p0).a=(n.c8.getD k p0).b:=by
   have:=pp.a0;have:=pp.b0;lia
  by_cases q1:(n.c8.getD k p0).a=(n.c8.getD k p0).b
  ·rw[ah (Or.inl q1),ah (Or.inr (Or.inl (abI.mpr q1)))];rfl
  cases q2:dU n.c8 (n.c8.getD k p0).a k with
  |false=>rw[ah (Or.inr (Or.inl rfl)),ah (.inl rfl)];rfl
  |true=>
  cases q3:dU n.c8 (n.c8.getD k p0).b k with
  |false=>rw[ah (Or.inr (Or.inr rfl)),ah (.inl rfl)];rfl
  |true=>
  rw[af (by rintro(h |h |h) <;>first |exact q1 h |cases h)];by_cases q4:(n.c8.take k).any (fun q=>jh q (n.c8.getD k p0).a (n.c8.getD k p0).b)=true
  ·rw[ah q4,ah (Or.inr (Or.inr q4))];rfl
  have nB:¬((!true || !true)=true\/(n.c8.getD k p0).a.toNat=(n.c8.getD k p0).b.toNat\/(n.c8.take k).any (fun q=>jh q (n.c8.getD k p0).a (n.c8.getD k p0).b)=true):=by
   rintro(h |h |h)
   ·cases h
   ·exact q1 (abI.mp h)
   ·exact q4 h
  rw[af q4,af nB];have lta:(n.c8.getD k p0).a<k:=by
   unfold dU at q2;exact az ((aF _ _).mp q2).1
  have ltb:(n.c8.getD k p0).b<k:=by
   unfold dU at q3;exact az ((aF _ _).mp q3).1
  have a0:=pp.a0;have b0:=pp.b0;have na:∀i:Nat,i<n.c8.length->(de n).numAt i=((n.c8.getD i p0).top:Rat) / ((n.c8.getD i p0).dE:Rat):=fun i hi=>by
   unfold Wh.Net.numAt;show(((n.c8.map du)[i]?).map _).getD 0=_;rw[aA,gDe,aa hi];rfl
  rw[na _ (by lia),na _ (by lia)];have pa:=pn _ (memD (d:=p0) (show(n.c8.getD k p0).a.toNat<n.c8.length by lia));have pb:=pn _ (memD (d:=p0) (show(n.c8.getD k p0).b.toNat<n.c8.length by lia));have tm:tooMuch (n.c8.getD k p0) (n.c8.getD (n.c8.getD k p0).a.toNat p0) (n.c8.getD (n.c8.getD k p0).b.toNat p0)=true↔((n.c8.getD (n.c8.getD k p0).a.toNat p0).top:Rat) / ((n.c8.getD (n.c8.getD k p0).a.toNat p0).dE:Rat)*(((n.c8.getD (n.c8.getD k p0).b.toNat p0).top:Rat) / ((n.c8.getD (n.c8.getD k p0).b.toNat p0).dE:Rat))<((n.c8.getD k p0).top:Rat) / ((n.c8.getD k p0).dE:Rat)*(((n.c8.getD k p0).top:Rat) / ((n.c8.getD k p0).dE:Rat)):=by
   generalize n.c8.getD (n.c8.getD k p0).a.toNat p0=u at pa⊢;generalize n.c8.getD (n.c8.getD k p0).b.toNat p0=v at pb⊢;generalize n.c8.getD k p0=c at pp⊢;have u1:=pa.b1;have v1:=pb.b1;have c1:=pp.b1;unfold tooMuch;rw[a9];have up:=jZ (show 0<u.dE by lia);have vp:=jZ (show 0<v.dE by lia);have cp:=jZ (show 0<c.dE by lia);have e1:(u.top:Rat) / (u.dE:Rat)*((v.top:Rat) / (v.dE:Rat))=((u.top*v.top:Int):Rat) / ((u.dE*v.dE:Int):Rat):=by push_cast;grind
   have e2:(c.top:Rat) / (c.dE:Rat)*((c.top:Rat) / (c.dE:Rat))=((c.top*c.top:Int):Rat) / ((c.dE*c.dE:Int):Rat):=by push_cast;grind
   rw[e1,e2,JR (Int.mul_pos (by lia) (by lia)) (Int.mul_pos (by lia) (by lia)),<-Int.mul_assoc,<-Int.mul_assoc]
  by_cases q5:tooMuch (n.c8.getD k p0) (n.c8.getD (n.c8.getD k p0).a.toNat p0) (n.c8.getD (n.c8.getD k p0).b.toNat p0)=true
  ·rw[ah q5,ah (tm.mp q5)];rfl
  ·rw[af q5,af (fun z=>q5 (tm.mpr z))];rfl
 ·rw[af (fun e=>h3 (pp.M.mp e))];have kH:=(iy pp.k0 pp.k1).2.2.2.2.2.2.2.1;have kF:=(iy pp.k0 pp.k1).2.2.2.2.2.2.2.2.1;by_cases h4:(n.c8.getD k p0).kind=8\/(n.c8.getD k p0).kind=9
  ·have rc:Wh.refCount (kindOf (n.c8.getD k p0).kind)=1:=by
    unfold Wh.refCount;rw[af (fun e=>h3 (pp.M.mp e)),ah (h4.imp kH.mpr kF.mpr)]
   have rp:(du (n.c8.getD k p0)).refs=[(n.c8.getD k p0).c.toNat]:=by
    unfold du;dsimp only;rw[af (fun e=>h3 (pp.M.mp e)),ah rc]
   have mf:fA n.c8 k=(decide ((n.c8.getD k p0).c<(k:Int))&&decide (kindAt n.c8 (n.c8.getD k p0).c≠3)):=by
    unfold fA;dsimp only;rw[af (fun q=>q h4)]
   rw[rp,cg,List.any_nil,Bool.or_false,SE pn (b5 hk) pp.c0,mf];cases q:(decide ((n.c8.getD k p0).c<(k:Int))&&decide (kindAt n.c8 (n.c8.getD k p0).c≠3)) with
   |false=>rfl
   |true=>
    rw[af (by simp),af h3];rfl
  ·have rc:Wh.refCount (kindOf (n.c8.getD k p0).kind)=0:=by
    unfold Wh.refCount;rw[af (fun e=>h3 (pp.M.mp e)),af (fun z=>h4 (z.imp kH.mp kF.mp))]
   have rp:(du (n.c8.getD k p0)).refs=[]:=by
    unfold du;dsimp only;rw[af (fun e=>h3 (pp.M.mp e)),af (by rw[rc];decide)]
   have mf:fA n.c8 k=true:=by
    unfold fA;dsimp only;rw[ah h4]
   rw[rp,mf,af (by simp),af h3];rfl
noncomputable def tell:Option (Nat×Nat)->List Int
 |none=>[]
 |some x=>[(x.1:Int),(x.2:Int)]
theorem Oz(hl:0<=n.last):fault n=tell (de n).wrong:=by
 unfold Wh.Net.wrong;rw[fB,List.findSome?_map];have key:∀f,f<=n.c8.length->ji n f=tell (((List.range n.c8.length).drop (n.c8.length - f)).findSome? ((fun(p:Nat×Wh.Elem)=>if(de n).wrongAt p.1 p.2=0 then none else some (p.1,(de n).wrongAt p.1 p.2)) ∘ fun k=>(k,du (n.c8.getD k p0)))):=by
  intro f;induction f with
  |zero=>
   intro _;rw[Nat.sub_zero,List.drop_of_length_le (by simp)];rfl
  |succ f ih=>
   intro hf;have ih:=ih (by lia);have hk:n.c8.length - (f+1)<n.c8.length:=by lia
   have e:(List.range n.c8.length).drop (n.c8.length - (f+1))=(n.c8.length - (f+1))::(List.range n.c8.length).drop (n.c8.length - f):=by
    rw[cU (by rw[bF];exact hk),List.getElem_range];congr 2;lia
   rw[e,List.findSome?_cons];unfold ji;dsimp only;rw[Oy pn hl hk];have e3:((fun(p:Nat×Wh.Elem)=>if(de n).wrongAt p.1 p.2=0 then none else some (p.1,(de n).wrongAt p.1 p.2)) ∘ fun k=>(k,du (n.c8.getD k p0))) (n.c8.length - (f+1))=if(de n).wrongAt (n.c8.length - (f+1)) (du (n.c8.getD (n.c8.length - (f+1)) p0))=0 then none else some (n.c8.length - (f+1),(de n).wrongAt (n.c8.length - (f+1)) (du (n.c8.getD (n.c8.length - (f+1)) p0))):=rfl
   rw[e3];by_cases q:(de n).wrongAt (n.c8.length - (f+1)) (du (n.c8.getD (n.c8.length - (f+1)) p0))=0
   ·rw[ah q,af (by rw[q];simp),ih]
   ·rw[af q,ah (by lia)];rfl
 have:=key n.c8.length (ai _);rw[cf,List.drop_zero] at this;exact this
end
noncomputable def left (L:Wh.Law):List (Nat×Rat)×List (Nat×Rat):=(L.terms,L.byS)
theorem OA(N:Wh.Net)(G G':Wh.Setting)(ho:∀k,G.on k=G'.on k)(k:Nat)(x:Wh.Elem):(N.lawsOf G k x).map left=(N.lawsOf G' k x).map left:=by
 unfold Wh.Net.lawsOf;dsimp only;cases x.kind <;>dsimp only <;>try rfl
 rw[ho k];split <;>rfl
theorem OB(N:Wh.Net)(G G':Wh.Setting)(ho:∀k,G.on k=G'.on k):(N.laws G).map left=(N.laws G').map left:=by
 unfold Wh.Net.laws;rw[aO,aO];congr 1;rw[List.map_flatMap,List.map_flatMap];congr 1;funext p;exact OA N G G' ho p.1 p.2
theorem Mu(N:Wh.Net)(G G':Wh.Setting)(ho:∀k,G.on k=G'.on k)(s:Rat):((N.rows G s).map fun(r:Wh.Row)=>r.1)=(N.rows G' s).map fun(r:Wh.Row)=>r.1:=by
 unfold Wh.Net.rows;rw[aQ,aQ];have e:∀G:Wh.Setting,(N.laws G).map ((fun(r:Wh.Row)=>r.1) ∘ fun(l:Wh.Law)=>l.row N.unknowns s)=((N.laws G).map left).map fun x=>x.2.foldl (fun(r:List Rat) (t:Nat×Rat)=>Wh.addAt r t.1 (s*t.2)) (x.1.foldl (fun(r:List Rat) (t:Nat×Rat)=>Wh.addAt r t.1 t.2) (List.replicate N.unknowns 0)):=fun G=>by
  rw[aQ];rfl
 rw[e G,e G',OB N G G' ho]
structure Rm(n:Nw)(st:List Bool)(r:List Nat)(src:Int)(d:dQ)(tops:List dQ):Prop where
 len:tops.length=(de n).unknowns
 xf:Trim d
 Sh:d≠[]
 trim:∀c,c<(de n).unknowns->Trim (tops.getD c [])
 ex:∃q:Rat,q≠0/\dF d=PF.const q*fj ((de n).determinant (Wh.alone r src.toNat))/\∀c,c<(de n).unknowns->dF (tops.getD c [])=PF.const q*fj ((de n).numerator (Wh.alone r src.toNat) c)
theorem JS{n:Nw}(R:Right n){st:List Bool}{r:List Nat}(h:nI 0 n.c8.length st r)(D0:(det (de n).unknowns (Sm n ((de n).rest r) 0)).f 0≠0){src:Int}(h0:0<=src)(hs:sH n src=true):
  ∃d tops,sol (rows (gG n st src))=some (d,tops)/\Rm n st r src d tops:=by
 have S:=ot R h h0 hs;have X0:dF (gG n st src).s=XX:=rfl;have sp:=Cn R S;rw[X0] at sp;rcases sp with⟨d,tops,e,tl,td,dn,tt,q,hq,hd,ht⟩ |⟨_,z,_⟩
 ·refine⟨d,tops,e,tl,td,dn,tt,q,hq,?_,fun c hc=> ?_⟩
  ·rw[hd,oo R]
  ·rw[ht c hc,xx R _ hc]
 ·exfalso;refine D0 ?_;have e1:=JO R ((de n).rest r) 0 0 0 rfl;have e2:=JO R (Wh.alone r src.toNat) XX 0 0 (Su 0);rw[<-e1,Mu (de n) ((de n).rest r) (Wh.alone r src.toNat) (fun _=>rfl) 0,e2,z];rfl
theorem Az{n:Nw}(R:Right n){st:List Bool}{r:List Nat}{src:Int}{d:dQ}{tops:List dQ}(D:Rm n st r src d tops){q:Rat}(ht:∀c,c<(de n).unknowns->dF (tops.getD c [])=PF.const q*fj ((de n).numerator (Wh.alone r src.toNat) c)){v:Int}(h0:0<=v)(h1:v<=n.last):
  Trim (gT (d,tops) v)/\dF (gT (d,tops) v)=PF.const q*fj ((de n).voltageOver (Wh.alone r src.toNat) v.toNat):=by
 unfold gT Wh.Net.voltageOver;by_cases h:0<v
 ·rw[ah h,af (by lia)];have nl:=om n;have e:v.toNat - 1=(v - 1).toNat:=by lia
  rw[e];exact⟨D.trim _ (by lia),ht _ (by lia)⟩
 ·rw[af h,ah (by lia)];refine⟨tU,?_⟩;show(0:PF)=_* 0;grind
theorem right_of{l:List Int}(h:fN l=[]):Right (dG l)/\nu l=true:=by
 unfold fN at h;cases e:nu l with
 |false=>rw[e,ah rfl] at h;cases h
 |true=>
  rw[e,af (by simp)] at h;have N:=Ov e;refine⟨⟨N.l1,N.l8,aw N.c8 (by decide),aw (cJ ..) N.c8,N.pn,?_⟩,rfl⟩;cases f:fault (dG l) with
  |nil=>rfl
  |cons x xs=>rw[f] at h;cases h
theorem OC(l:List Int)(f:Wh.Net->WhB.Answer):WhBNeutral.shown (WhB.ofNet l f)=if fN l≠[] then fN l else WhBNeutral.shown (f (de (dG l))):=by
 unfold WhB.ofNet;rw[Sx];cases e:nu l with
 |false=>
  have er:fN l=[-1]:=by
   unfold fN;rw[ah e]
  rw[er,ah rfl,ah (by simp)];rfl
 |true=>
  have N:=Ov e;have er:fN l=match fault (dG l) with
   |[]=>[]
   |f=> -2::f:=by
   unfold fN;rw[af (by rw[e];simp)]
   all_goals cases fault (dG l) <;>rfl
  rw[af (by simp),Sy N.m7];rw[Oz N.pn (by have:=N.l1;lia)] at er;cases w:(de (dG l)).wrong with
  |none=>
   rw[w] at er;have er:fN l=[]:=er;rw[er,af (by simp)]
  |some x=>
   rw[w] at er;have er:fN l=[-2,(x.1:Int),(x.2:Int)]:=er;rw[er,ah (by simp)];rfl
theorem fO(a:Int)(l:dQ):ik (a::l)=a.natAbs+ik l:=by unfold ik;simp
theorem Gf:ik []=0:=rfl
theorem qY:∀l r:dQ,ik (iJ l r)<=ik l+ik r
 |[],r=>by
  show ik r<=0+ik r;lia
 |a::l,[]=>by
  show ik (a::l)<=ik (a::l)+0;lia
 |a::l,b::r=>by
  show ik ((a+b)::iJ l r)<=_;rw[fO,fO,fO];have:=qY l r;have:=Int.natAbs_add_le a b;lia
theorem EU(c:Int):∀l:dQ,ik (l.map fun y=>c*y)=c.natAbs*ik l
 |[]=>by
  show 0=c.natAbs*0;lia
 |a::l=>by
  rw[aJ,fO,fO,EU c l,bP,Nat.mul_add]
theorem xy:∀l r:dQ,ik (mulL l r)<=ik l*ik r
 |[],r=>by
  show 0<=_;lia
 |a::l,r=>by
  show ik (iJ (r.map fun y=>a*y) (0::mulL l r))<=_;refine aw (qY _ _) ?_;rw[EU,fO,fO,Nat.add_mul];have:=xy l r;have e:(0:Int).natAbs=0:=rfl;lia
theorem HV:∀(l:dQ) (k:Nat),ik (l.take k)<=ik l
 |[],k=>by simp[ik]
 |a::l,0=>by
  show 0<=_;lia
 |a::l,k+1=>by
  rw[List.take_succ_cons,fO,fO];have:=HV l k;lia
theorem Gg(l:dQ):ik (Jv l)<=ik l:=HV _ _
theorem Bs(l:dQ):ik (Eo l)=ik l:=by
 unfold ik Eo;rw[aQ];congr 1;apply aY;intro x _;exact Int.natAbs_neg x
theorem u5:∀{l:dQ} {x:Int},x∈l->x.natAbs<=ik l
 |a::l,x,h=>by
  rw[fO];rcases aH.mp h with rfl |h
  ·lia
  ·have:=u5 h;lia
theorem HW(l r:dQ):ik (gX l r)<=ik l*ik r:=by
 unfold gX;split
 ·show 0<=_;lia
 ·exact xy l r
theorem QD(l r:dQ):(mulL l r).length<=l.length+r.length:=by
 by_cases h1:l=[]
 ·subst h1;simp[mulL]
 ·by_cases h2:r=[]
  ·subst h2;have:∀l:dQ,(mulL l []).length<=l.length:=by
    intro l;induction l with
    |nil=>simp[mulL]
    |cons a l ih=>
     show(iJ [] (0::mulL l [])).length<=_;rw[jq];simp;lia
   exact aw (this l) (by lia)
  ·rw[iu l r h1 h2];lia
theorem Bd.mono{f:PF}{d e B C:Nat}(h:Bd f d B)(hd:d<=e)(hB:B<=C):Bd f e C:=by
 obtain⟨l,t,e1,h1,h2⟩:=h.ex;exact⟨l,t,e1,by lia,by lia⟩
theorem HX(l:dQ){d B:Nat}(hl:l.length<=d+1)(hB:ik l<=B):Bd (dF l) d B:=⟨Jv l,oe l,w9 l,aw (FT l) hl,aw (Gg l) hB⟩
theorem Bd.add{f g:PF}{d B C:Nat}(hf:Bd f d B)(hg:Bd g d C):Bd (f+g) d (B+C):=by
 obtain⟨l,_,rfl,l1,l2⟩:=hf.ex;obtain⟨m,_,rfl,m1,m2⟩:=hg.ex;rw[<-xb];refine HX _ ?_ ?_
 ·rw[jq];lia
 ·have:=qY l m;lia
theorem Bd.neg{f:PF}{d B:Nat}(hf:Bd f d B):Bd (- f) d B:=by
 obtain⟨l,_,rfl,l1,l2⟩:=hf.ex;rw[<-Bk];refine HX _ ?_ ?_
 ·rw[uR];exact l1
 ·rw[Bs];exact l2
theorem Bd.sub{f g:PF}{d B C:Nat}(hf:Bd f d B)(hg:Bd g d C):Bd (f - g) d (B+C):=by
 have e:f - g=f+ - g:=by grind
 rw[e];exact hf.add hg.neg
theorem Bd.mul{f g:PF}{d e B C:Nat}(hf:Bd f d B)(hg:Bd g e C):Bd (f*g) (d+e) (B*C):=by
 obtain⟨l,_,rfl,l1,l2⟩:=hf.ex;obtain⟨m,_,rfl,m1,m2⟩:=hg.ex;rw[<-jr];refine HX _ ?_ ?_
 ·by_cases h1:l=[]
  ·subst h1;simp[mulL]
  ·by_cases h2:m=[]
   ·subst h2;have:=QD l [];simp at this;lia
   ·rw[iu l m h1 h2];lia
 ·exact aw (xy l m) (bQ l2 m2)
theorem Gh(d:Nat):Bd 0 d 0:=⟨[],tU,rfl,by simp,ai _⟩
theorem JT(d:Nat):Bd 1 d 1:=by
 rw[<-xr];exact HX [1] (by simp) (by decide)
theorem Uk(i:Nat):Bd (sg i) 0 1:=by
 unfold sg;split
 ·exact JT 0
 ·exact(JT 0).neg
theorem Gi(d B:Nat):∀(n:Nat) {f:Nat->PF},(∀i,i<n->Bd (f i) d B)->Bd (eh n f) d (n*B)
 |0,_,_=>by
  rw[Nat.zero_mul];exact Gh d
 |n+1,f,h=>by
  have:=(Gi d B n fun i hi=>h i (by lia)).add (h n (by lia));rw[cQ];exact this
noncomputable def db (B:Nat):Nat->Nat
 |0=>1
 |n+1=>(n+1)*(B*db B n)
theorem Cu(B:Nat):∀(n:Nat) {A:Nat->Nat->PF},(∀i j,i<n->j<n->Bd (A i j) 1 B)->Bd (det n A) n (db B n)
 |0,_,_=>JT 0
 |n+1,A,h=>by
  rw[gk];refine Gi (n+1) (B*db B n) (n+1) fun i hi=> ?_
  have h2:=(Uk i).mul ((h i 0 hi (by lia)).mul (Cu B n fun a b ha hb=>h _ _ (w4 ha) (by lia):Bd (det n (del i A)) n (db B n)));exact h2.mono (by lia) (by lia)
theorem OD{b:Nat}:∀n,n<=32->db (2^b) n<=2^((b+5)*n)
 |0,_=>by
  show 1<=_;exact Nat.one_le_two_pow
 |n+1,h=>by
  have ih:=OD (b:=b) n (by lia);show(n+1)*(2^b*db (2^b) n)<=_;have e:2^((b+5)*(n+1))=2^5*(2^b*2^((b+5)*n)):=by
   rw[<-Nat.pow_add,<-Nat.pow_add];congr 1;rw[Nat.mul_add];lia
  rw[e];exact bQ (by lia) (bQ (ai _) ih)
theorem Lp{b m n:Nat}(h:m<=n):db (2^b) m<=db (2^b) n:=by
 induction h with
 |refl=>exact ai _
 |step h ih=>
  rename_i q;refine aw ih ?_;show db (2^b) q<=(q+1)*(2^b*db (2^b) q);have h1:1<=2^b:=Nat.one_le_two_pow;have h2:db (2^b) q<=2^b*db (2^b) q:=cI _ (by lia);exact aw h2 (cI _ (by lia))
theorem Bd.list{l:dQ}{d B:Nat}(t:Trim l)(h:Bd (dF l) d B):l.length<=d+1/\ik l<=B:=by
 obtain⟨m,tm,e,h1,h2⟩:=h.ex;rw[pN t tm e.symm];exact⟨h1,h2⟩
structure LB(w:Int)(m c:Nat)(ts:List Term):Prop where
 at_:∀t∈ts,0<=t.1/\t.1<=w/\t.2.length<=m/\ik t.2<=c
theorem LB.app{w:Int}{m c:Nat}{a b:List Term}(ha:LB w m c a)(hb:LB w m c b):LB w m c (a ++ b):=⟨fun t ht=>(aK.mp ht).elim (ha.at_ t) (hb.at_ t)⟩
theorem LB.mono{w:Int}{m c m' c':Nat}{a:List Term}(ha:LB w m c a)(hm:m<=m')(hc:c<=c'):LB w m' c' a:=⟨fun t ht=>by
 obtain⟨h1,h2,h3,h4⟩:=ha.at_ t ht;exact⟨h1,h2,by lia,by lia⟩⟩
theorem Lq(z:Int):ik (cst z)=z.natAbs:=by
 unfold cst;split
 ·rename_i h;rw[h];rfl
 ·rw[fO];rfl
theorem Lr(z:Int):(cst z).length<=1:=by
 unfold cst;split <;>simp
theorem OE(l r:dQ)(h:r.length<=1):(gX l r).length<=l.length:=by
 unfold gX;split
 ·simp
 ·rename_i q;have h1:l≠[]:=fun e=>q (.inl e)
  have h2:r≠[]:=fun e=>q (.inr e)
  rw[iu l r h1 h2];lia
theorem OF(l r:dQ)(h:r.length<=2):(gX l r).length<=l.length+1:=by
 unfold gX;split
 ·simp
 ·rename_i q;have h1:l≠[]:=fun e=>q (.inl e)
  have h2:r≠[]:=fun e=>q (.inr e)
  rw[iu l r h1 h2];lia
theorem LB.Mv{w:Int}{m c:Nat}{a:List Term}(ha:LB w m c a)(z:Int):LB w m (c*z.natAbs) (rC a (cst z)):=⟨fun t ht=>by
 obtain⟨u,hu,rfl⟩:=aN.mp ht;obtain⟨h1,h2,h3,h4⟩:=ha.at_ u hu;refine⟨h1,h2,aw (OE _ _ (Lr z)) h3,aw (HW _ _) ?_⟩;rw[Lq];exact b7 _ h4⟩
theorem LB.Ul{w:Int}{c:Nat}{a:List Term}(ha:LB w 1 c a){s:dQ}(hs:s=[]\/s=[0,1]):LB w 2 c (rC a s):=⟨fun t ht=>by
 obtain⟨u,hu,rfl⟩:=aN.mp ht;obtain⟨h1,h2,h3,h4⟩:=ha.at_ u hu;have l2:s.length<=2:=by rcases hs with rfl |rfl <;>simp
 have n1:ik s<=1:=by rcases hs with rfl |rfl <;>decide
 refine⟨h1,h2,aw (OF _ _ l2) (by lia),aw (HW _ _) ?_⟩;exact aw (bQ h4 n1) (by lia)⟩
theorem jv(a:List Term)(p:dQ):(rC a p).length=a.length:=by unfold rC;simp
theorem vS(a b:Int):(Hr a b).length<=2:=by
 unfold Hr;split <;>split <;>simp
theorem lS{w a b:Int}(ha:a<=w)(hb:b<=w):LB w 1 1 (Hr a b):=⟨fun t ht=>by
 unfold Hr at ht;rcases aK.mp ht with h |h
 ·split at h
  ·rw[au.mp h];exact⟨by show 0<=a - 1;lia,by show a - 1<=w;lia,by simp,(show ik [1]<=1 by decide)⟩
  ·cases h
 ·split at h
  ·rw[au.mp h];exact⟨by show 0<=b - 1;lia,by show b - 1<=w;lia,by simp,(show ik [-1]<=1 by decide)⟩
  ·cases h⟩
structure Mw(n:Nw)(g:lh):Prop where
 dZ:g.dZ=n
 s:g.s=[]\/g.s=[0,1]
 dr:∀k,(g.drives.getD k (0,1)).1.natAbs<=1000000/\(g.drives.getD k (0,1)).2.natAbs<=1000000
section
variable {n:Nw}(R:Right n){g:lh}(S:Mw n g)
include R
theorem OG{j:Int}(h0:0<=j)(hj:j<n.c8.length)(h3:kindAt n.c8 j≠3):0<=(places n).getD j.toNat 0/\(places n).getD j.toNat 0+1<=width n:=by
 rw[R.place (show j.toNat<n.c8.length by lia),R.yH];have:=uh R (show j.toNat<n.c8.length by lia) h3;lia
theorem Ls:n.last<=width n:=by
 rw[R.yH];have:=om n;have:=R.l1;lia
include S
theorem Gj{j:Int}(h0:0<=j)(hj:j<n.c8.length)(h3:kindAt n.c8 j≠3):LB (width n) 1 1 (cur g j):=⟨fun t ht=>by
 unfold cur at ht;rw[S.dZ] at ht;rw[au.mp ht];have:=OG R h0 hj h3;exact⟨this.1,by show(places n).getD j.toNat 0<=_;lia,by simp,(show ik [1]<=1 by decide)⟩⟩
omit S in
theorem pV{p:Part}(hp:Pn p){m:Nat}{l r:List Term}(hl:LB (width n) m 1 l)(hr:LB (width n) m 1 r):LB (width n) m 1000000 (oa p l r):=by
 unfold oa;have b:p.dE.natAbs<=1000000:=by have:=hp.b1;have:=hp.b2;lia
 refine LB.app ((hl.Mv p.dE).mono (ai _) (by lia)) ((hr.Mv (-p.top)).mono (ai _) ?_);rw[Int.natAbs_neg];have:=hp.t;lia
theorem JU{k:Nat}{m:Nat}(hm:1<=m){l:List Term}(hl:LB (width n) m 1 l):LB (width n) m 1000000 (Bh g k l):=by
 unfold Bh;obtain⟨d1,d2⟩:=S.dr k;refine LB.app ((hl.Mv _).mono (ai _) (by lia)) ⟨fun t ht=> ?_⟩;rw[S.dZ] at ht;rw[au.mp ht];refine⟨?_,Int.le_refl _,aw (Lr _) hm,?_⟩
 ·show 0<=width n;rw[R.yH];lia
 ·show ik (cst _)<=_;rw[Lq];exact d1
omit R S in
theorem EV:∀(sh:List (Int×Int×Int)) (c:Int),0<=c->(∀x∈sh,1<=x.2.2/\x.2.2<=1000000)->sh.foldl (fun c x=>c*x.2.2) c<=c*1000000^sh.length/\0<=sh.foldl (fun c x=>c*x.2.2) c
 |[],c,hc,_=>⟨by simp,hc⟩
 |x::sh,c,hc,h=>by
  obtain⟨x1,x2⟩:=h x ax;have nn:0<=c*x.2.2:=Int.mul_nonneg hc (by lia);obtain⟨h1,h2⟩:=EV sh (c*x.2.2) nn fun y hy=>h y (ak _ hy)
  refine⟨Int.le_trans h1 ?_,h2⟩;rw[aq,Int.pow_succ,<-Int.mul_assoc,Int.mul_assoc,Int.mul_comm x.2.2,<-Int.mul_assoc];refine Int.mul_le_mul_of_nonneg_left x2 (Int.mul_nonneg hc (Int.pow_nonneg (by decide)))
omit R S in
theorem vT{p q:Part->Bool}(h:∀x,p x=true->q x=true):∀l:List Part,(l.filter p).length<=(l.filter q).length
 |[]=>ai _
 |x::l=>by
  have ih:=vT h l;cases e:p x with
  |true=>rw[aR e,aR (h x e)];exact Nat.succ_le_succ ih
  |false=>
   rw[aU (by rw[e];simp)];cases e2:q x with
   |true=>rw[aR e2,aq];lia
   |false=>rw[aU (by rw[e2];simp)];exact ih
omit R S in
theorem DE(ps:List Part)(k:Nat):(eQ ps k).length<=(ps.filter fun p=>decide (p.kind≠4/\p.kind≠5)).length+1:=by
 unfold eQ;rw[aq,lMp];have:=vT (p:=fun p=>decide (p.kind=3/\((k:Int)=p.a\/(k:Int)=p.b))) (q:=fun p=>decide (p.kind≠4/\p.kind≠5)) (fun x h=>aj (by have:=(az h).1;lia)) ps;lia
omit R S in
theorem Gk{α β:Type}{f:α->List β}{c:Nat}:∀l:List α,(∀x∈l,(f x).length<=c)->(l.flatMap f).length<=l.length*c
 |[],_=>by simp
 |x::l,h=>by
  rw[bb,ay,aq,cQ];have:=h x ax;have:=Gk l fun y hy=>h y (ak _ hy)
  lia
theorem QE{k:Nat}(hk:k<n.c8.length)(h2:(n.c8.getD k p0).kind=2):LB (width n) 2 (2^240) (mz g k)/\(mz g k).length<=64:=by
 have sin:=Cj R h2 hk;have sl:=DE n.c8 k;have pk:=R.ns;have ab:=R.ab hk (by lia);have lw:=Ls R;have cp:=EV (eQ n.c8 k) 1 (by decide) (fun x hx=>⟨(sin x hx).2.2.1,(sin x hx).2.2.2.1⟩);have cb:(common (eQ n.c8 k)).natAbs<=1000000^11:=by
  have h1:(1000000:Nat)^(eQ n.c8 k).length<=1000000^11:=bx (by decide) (by lia);have h3:common (eQ n.c8 k)<=((1000000^(eQ n.c8 k).length:Nat):Int):=by
   have:=cp.1;rw[Int.one_mul] at this;rw[Int.natCast_pow];exact this
  have h4:0<=common (eQ n.c8 k):=cp.2;generalize (1000000:Nat)^(eQ n.c8 k).length=X at h1 h3;generalize (1000000:Nat)^11=Y at h1⊢;lia
 have cpos:0<common (eQ n.c8 k):=vR _ 1 (by decide) fun x hx=>by have:=sin x hx;lia
 unfold mz;dsimp only;rw[S.dZ];refine⟨LB.app (((lS (by lia) (by lia)).Mv _).mono (by lia) ?_) ⟨fun t ht=> ?_⟩,?_⟩
 ·refine aw (b9 1 cb) ?_;decide +kernel
 ·obtain⟨x,hx,ht⟩:=cF.mp ht;obtain⟨s1,s2,s3,s4,s5⟩:=sin x hx;have h3:kindAt n.c8 x.1≠3:=by
   unfold eQ at hx;rcases aH.mp hx with rfl |hx
   ·unfold kindAt;show(n.c8.getD ((k:Int)).toNat p0).kind≠3;rw[a8,h2];decide
   ·obtain⟨p,hp,rfl⟩:=aN.mp hx;obtain⟨hm,hc⟩:=bT.mp hp;have hc:=az hc;obtain⟨i,hi,e⟩:=aW hm;have ep:n.c8.getD i p0=p:=by rw[gDe,aa hi,e];rfl
    have cpp:=R.Mq hi (by rw[ep];exact hc.1);rw[ep] at cpp;show kindAt n.c8 (p.a+p.b - (k:Int))≠3;rcases hc.2 with q |q
    ·have e2:p.a+p.b - (k:Int)=p.b:=by lia
     rw[e2,cpp.2.2.2];decide
    ·have e2:p.a+p.b - (k:Int)=p.a:=by lia
     rw[e2,cpp.2.1.2];decide
  have fd:((common (eQ n.c8 k)).fdiv x.2.2).natAbs<=1000000^11:=by
   have e:(common (eQ n.c8 k)).fdiv x.2.2=common (eQ n.c8 k) / x.2.2:=Int.fdiv_eq_ediv_of_nonneg _ (by lia);rw[e];have h1:0<=common (eQ n.c8 k) / x.2.2:=Int.ediv_nonneg (by lia) (by lia);have h2:common (eQ n.c8 k) / x.2.2<=common (eQ n.c8 k):=Int.ediv_le_self _ (by lia);lia
  have lbt:=(((Gj R S s1 s2 h3).Ul S.s).Mv (-x.2.1*(common (eQ n.c8 k)).fdiv x.2.2)).at_ t ht;refine⟨lbt.1,lbt.2.1,lbt.2.2.1,aw lbt.2.2.2 ?_⟩;rw[Nat.one_mul,bP,Int.natAbs_neg];refine aw (bQ s5 fd) ?_;decide +kernel
 ·rw[ay,jv];have h1:=vS (n.c8.getD k p0).a (n.c8.getD k p0).b;have h3:=Gk (c:=1) (f:=fun x:Int×Int×Int=>rC (rC (cur g x.1) g.s) (cst (-x.2.1*(common (eQ n.c8 k)).fdiv x.2.2))) (eQ n.c8 k) (fun x _=>by rw[jv,jv];exact ai _);unfold lL;lia
omit S R in
theorem iK(p:Part)(l r:List Term):(oa p l r).length=l.length+r.length:=by unfold oa;rw[ay,jv,jv]
omit S R in
theorem vU(g:lh)(k:Nat)(l:List Term):(Bh g k l).length=l.length+1:=by unfold Bh;rw[ay,jv];rfl
theorem QF{k:Nat}(hk:k<n.c8.length):∀ts∈fQ g k,LB (width n) 2 (2^240) ts/\ts.length<=64:=by
 have pp:=R.p hk;have ab:=R.ab hk;have cdd:=R.cd hk;have fo:=R.Qt hk;have lw:=Ls R;have cl:=QE R S hk;have kk:kindAt n.c8 (k:Int)=(n.c8.getD k p0).kind:=by
  unfold kindAt;rw[a8]
 have ck:(n.c8.getD k p0).kind≠3->LB (width n) 1 1 (cur g (k:Int)):=fun h3=>Gj R S (by lia) (by lia) (by rw[kk];exact h3)
 have big:1000000<=2^240:=by decide +kernel
 have one:1<=2^240:=by decide +kernel
 have bl:=vS (n.c8.getD k p0).a (n.c8.getD k p0).b;have bl2:=vS (n.c8.getD k p0).c (n.c8.getD k p0).d;have cl1:∀j,(cur g j).length=1:=fun j=>rfl
 unfold fQ;dsimp only;rw[S.dZ];have c0:=pp.c0;have pl2:(n.c8.getD k p0).kind=10->LB (width n) 1 1 [((places n).getD k 0+1,[1])]:=fun h10=>⟨fun t ht=>by
  rw[au.mp ht];have h1:=F9 R hk h10;have h2:=R.place hk;have h3:=R.yH;exact⟨by show 0<=(places n).getD k 0+1;lia,by show(places n).getD k 0+1<=_;lia,by simp,(show ik [1]<=1 by decide)⟩⟩
 generalize hp:n.c8.getD k p0=p at *;rcases oj pp.k0 pp.k1 with e |e |e |e |e |e |e |e |e |e |e |e |e |e
 ·have ek:p.kind.toNat=0:=by rw[e];rfl
  rw[ek];intro ts hts;rw[au.mp hts];refine⟨(pV R pp (lS (by lia) (by lia)) (ck (by lia))).mono (by lia) big,?_⟩;rw[iK,cl1];unfold lL;lia
 ·have ek:p.kind.toNat=1:=by rw[e];rfl
  rw[ek];intro ts hts;rw[au.mp hts];refine⟨(pV R pp ((ck (by lia)).mono (by lia) (ai _)) ((lS (by lia) (by lia)).Ul S.s)).mono (by lia) big,?_⟩;rw[iK,cl1,jv];unfold lL;lia
 ·have ek:p.kind.toNat=2:=by rw[e];rfl
  rw[ek];intro ts hts;rw[au.mp hts];exact cl e
 ·have ek:p.kind.toNat=3:=by rw[e];rfl
  rw[ek];intro ts hts;cases hts
 ·have ek:p.kind.toNat=4:=by rw[e];rfl
  rw[ek];intro ts hts;rw[au.mp hts];refine⟨(JU R S (ai 1) (lS (by lia) (by lia))).mono (by lia) big,?_⟩;rw[vU];unfold lL;lia
 ·have ek:p.kind.toNat=5:=by rw[e];rfl
  rw[ek];intro ts hts;rw[au.mp hts];refine⟨(JU R S (ai 1) (ck (by lia))).mono (by lia) big,?_⟩;rw[vU,cl1];lia
 ·have ek:p.kind.toNat=6:=by rw[e];rfl
  rw[ek];intro ts hts;rw[au.mp hts];refine⟨(pV R pp (lS (by lia) (by lia)) (lS (by lia) (by lia))).mono (by lia) big,?_⟩;rw[iK];unfold lL FQ;lia
 ·have ek:p.kind.toNat=7:=by rw[e];rfl
  rw[ek];intro ts hts;rw[au.mp hts];refine⟨(pV R pp (ck (by lia)) (lS (by lia) (by lia))).mono (by lia) big,?_⟩;rw[iK,cl1];unfold FQ;lia
 ·have ek:p.kind.toNat=8:=by rw[e];rfl
  rw[ek];intro ts hts;rw[au.mp hts];have ff:=fo (.inl e);refine⟨(pV R pp (lS (by lia) (by lia)) (Gj R S c0 (by lia) ff.2)).mono (by lia) big,?_⟩;rw[iK,cl1];unfold lL;lia
 ·have ek:p.kind.toNat=9:=by rw[e];rfl
  rw[ek];intro ts hts;rw[au.mp hts];have ff:=fo (.inr e);refine⟨(pV R pp (ck (by lia)) (Gj R S c0 (by lia) ff.2)).mono (by lia) big,?_⟩;rw[iK,cl1,cl1];lia
 ·have ek:p.kind.toNat=10:=by rw[e];rfl
  rw[ek];intro ts hts;rcases aH.mp hts with rfl |hts
  ·refine⟨(pV R pp (lS (by lia) (by lia)) (lS (by lia) (by lia))).mono (by lia) big,?_⟩;rw[iK];unfold lL FQ;lia
  ·rw[au.mp hts];have h1:LB (width n) 1 1 (rC (cur g (k:Int)) [-1]):=by
    have:=(ck (by lia)).Mv (-1);exact this
   refine⟨(pV R pp (pl2 e) h1).mono (by lia) big,?_⟩;rw[iK,jv,cl1];simp
 ·have ek:p.kind.toNat=11:=by rw[e];rfl
  rw[ek];intro ts hts;rw[au.mp hts];refine⟨(lS (by lia) (by lia)).mono (by lia) one,?_⟩;unfold FQ;lia
 ·have ek:p.kind.toNat=12:=by rw[e];rfl
  rw[ek];intro ts hts;rw[au.mp (show ts∈[if p.top=0 then cur g (k:Int) else lL p] from hts)];split
  ·exact⟨(ck (by lia)).mono (by lia) one,by rw[cl1];lia⟩
  ·exact⟨(lS (by lia) (by lia)).mono (by lia) one,by unfold lL;lia⟩
 ·have ek:p.kind.toNat=13:=by rw[e];rfl
  rw[ek];intro ts hts;have hts:ts∈(if g.gF.getD k false=true then[Bh g k (lL p)] else[cur g (k:Int)]):=hts;split at hts
  ·rw[au.mp hts];refine⟨(JU R S (ai 1) (lS (by lia) (by lia))).mono (by lia) big,?_⟩;rw[vU];unfold lL;lia
  ·rw[au.mp hts];exact⟨(ck (by lia)).mono (by lia) one,by rw[cl1];lia⟩
omit S in
theorem QG(v:Int):LB (width n) 2 (2^240) (iO n v)/\(iO n v).length<=64:=by
 have one:1<=2^240:=by decide +kernel
 have pk:=R.c8;unfold iO;rw[ED n.c8 (places n) p0 0 (vw n),cE];refine⟨⟨fun t ht=> ?_⟩,?_⟩
 ·obtain⟨k,hk,ht⟩:=cF.mp ht;have hk:=aT.mp hk;dsimp only at ht;have pp:=R.p hk;by_cases h3:(n.c8.getD k p0).kind=3
  ·rw[ah h3] at ht;cases ht
  rw[af h3] at ht;have a1:=uh R hk h3;have pl:=R.place hk;have wd:=R.yH;have mem1:∀(c:Prop) [Decidable c] (i:Int) (p:dQ),t∈(if c then[(i,p)] else[])->t=(i,p):=fun c _ i p h=>by
   split at h
   ·exact au.mp h
   ·cases h
  have fin:∀(i:Int) (z:Int),t=(i,[z])->z.natAbs=1->0<=i->i<=width n->0<=t.1/\t.1<=width n/\t.2.length<=2/\ik t.2<=2^240:=fun i z e hz h0 h1=>by
   rw[e];refine⟨h0,h1,by simp,?_⟩;show ik [z]<=_;rw[fO,Gf,hz];exact one
  rcases aK.mp ht with ht |ht
  ·rcases aK.mp ht with ht |ht
   ·exact fin _ _ (mem1 _ _ _ ht) rfl (by lia) (by lia)
   ·exact fin _ _ (mem1 _ _ _ ht) rfl (by lia) (by lia)
  ·by_cases h10:(n.c8.getD k p0).kind=10
   ·have a2:=F9 R hk h10;rw[ah h10] at ht;rcases aK.mp ht with ht |ht
    ·exact fin _ _ (mem1 _ _ _ ht) rfl (by lia) (by lia)
    ·exact fin _ _ (mem1 _ _ _ ht) rfl (by lia) (by lia)
   ·rw[af h10] at ht;cases ht
 ·have l1:∀(c:Prop) [Decidable c] (t:Term),(if c then[t] else[]).length<=1:=fun c _ t=>by split <;>simp
  have:=Gk (c:=4) (f:=fun k=>if(n.c8.getD k p0).kind=3 then[] else(if(n.c8.getD k p0).a=v then[((places n).getD k 0,[1])] else[]) ++ (if(n.c8.getD k p0).b=v then[((places n).getD k 0,[-1])] else[]) ++ (if(n.c8.getD k p0).kind=10 then(if(n.c8.getD k p0).c=v then[((places n).getD k 0+1,[1])] else[]) ++ (if(n.c8.getD k p0).d=v then[((places n).getD k 0+1,[-1])] else[]) else[])) (List.range n.c8.length) (fun k _=>by
   split
   ·simp
   ·rw[ay,ay];have:=l1 ((n.c8.getD k p0).a=v) ((places n).getD k 0,[1]);have:=l1 ((n.c8.getD k p0).b=v) ((places n).getD k 0,[-1]);have h4:(if(n.c8.getD k p0).kind=10 then(if(n.c8.getD k p0).c=v then[((places n).getD k 0+1,[1])] else[]) ++ (if(n.c8.getD k p0).d=v then[((places n).getD k 0+1,[-1])] else[]) else([]:List Term)).length<=2:=by
     by_cases h10:(n.c8.getD k p0).kind=10
     ·rw[ah h10,ay];have:=l1 ((n.c8.getD k p0).c=v) ((places n).getD k 0+1,[1]);have:=l1 ((n.c8.getD k p0).d=v) ((places n).getD k 0+1,[-1]);lia
     ·rw[af h10];simp
    lia)
  rw[bF] at this;exact aw this (by lia)
theorem OH:∀ts∈gS g,LB (width n) 2 (2^240) ts/\ts.length<=64:=fun ts hts=>by
 unfold gS at hts;rw[S.dZ] at hts;rcases aK.mp hts with h |h
 ·obtain⟨v,_,rfl⟩:=aN.mp h;exact QG R _
 ·obtain⟨k,hk,h⟩:=cF.mp h;exact QF R S (aT.mp hk) ts h
end
theorem Rn(j:Nat){w:Int}{c:Nat}:∀ts:List Term,LB w 2 c ts->Bd (Pv (ei j) ts) 1 (ts.length*c)
 |[],_=>by
  rw[bI,Nat.zero_mul];exact Gh 1
 |t::ts,h=>by
  obtain⟨h1,h2,h3,h4⟩:=h.at_ t ax;have ih:=Rn j ts ⟨fun u hu=>h.at_ u (ak _ hu)⟩;have b1:Bd (dF t.2*ei j t.1.toNat) 1 c:=by
   unfold ei;split
   ·have e:dF t.2*(1:PF)=dF t.2:=by grind
    rw[e];exact HX t.2 h3 h4
   ·have e:dF t.2*(0:PF)=0:=by grind
    rw[e];exact(Gh 1).mono (ai _) (aL _)
  have:=b1.add ih;rw[aq,cQ,Nat.add_comm];exact this
theorem Lu{n:Nw}(R:Right n){g:lh}(S:Mw n g){G:Wh.Setting}(S2:lQ n g G){i j:Nat}(hi:i<(de n).unknowns)(hj:j<(de n).unknowns+1):Bd (sI (rows g) i j) 1 (2^246):=by
 have w:(width n+1).toNat=(de n).unknowns+1:=by rw[R.yH];lia
 have l:(gS g).length=(de n).unknowns:=by rw[(uZ R S2).len,iz]
 unfold sI ent;rw[xt R S2 hi,(u0 _ _ j (by lia)).1];obtain⟨h1,h2⟩:=OH R S ((gS g).getD i []) (memD (by lia));refine(Rn j _ h1).mono (ai _) ?_;refine aw (b7 _ h2) ?_;decide +kernel
theorem OI{n:Nw}(R:Right n):(de n).unknowns<=30:=by
 have h1:=R.yH;have h2:width n<=30:=by
  unfold width;have:∀ps:List Part,(ps.map hX).sum<=ps.length+(ps.filter fun p=>decide (p.kind≠4/\p.kind≠5)).length:=by
   intro ps;induction ps with
   |nil=>simp
   |cons p ps ih=>
    rw[aJ,b6,aq];by_cases hp:p.kind≠4/\p.kind≠5
    ·rw[aR (p:=fun p:Part=>decide (p.kind≠4/\p.kind≠5)) (aj hp),aq];have:hX p<=2:=by
      unfold hX;split
      ·lia
      ·split <;>lia
     push_cast;lia
    ·rw[aU (p:=fun p:Part=>decide (p.kind≠4/\p.kind≠5)) (by rw[ao hp];simp)];have:hX p<=1:=by
      unfold hX;split
      ·lia
      ·split <;>lia
     push_cast;lia
  have:=this n.c8;have:=R.c8;have:=R.ns;have:=R.l8;lia
 lia
structure EB(l:dQ):Prop where
 len:l.length<=40
 ik:ik l<=2^7800
theorem Ro{A:Nat->Nat->PF}{n:Nat}{B:Nat}(hA:∀i j,i<n->j<n+1->Bd (A i j) 1 B){k:Nat}(hk:k<=n):Bd (mk A k) k (db B k):=Cu B k fun i j hi hj=>hA i j (by lia) (by lia)
theorem Lw{A:Nat->Nat->PF}{n:Nat}{B:Nat}(hA:∀i j,i<n->j<n+1->Bd (A i j) 1 B){k:Nat}(hk:k<=n)(c j:Nat)(hj:j<n+1):Bd (mc A k c j) k (db B k):=Cu B k fun i b hi hb=>by
 show Bd (if b=c then A i j else A i b) 1 B;split
 ·exact hA i j (by lia) hj
 ·exact hA i b (by lia) (by lia)
theorem OJ{A:Nat->Nat->PF}{n:Nat}{B:Nat}(hA:∀i j,i<n->j<n+1->Bd (A i j) 1 B){k:Nat}(hk:k<=n)(i j:Nat)(hi:i<n)(hj:j<n+1):Bd (ti A k i j) (k+1) (db B (k+1)):=by
 unfold ti;have h1:=(Ro hA hk).mul (hA i j hi hj);have h2:=Gi (k+1) (B*db B k) k (f:=fun c=>A i c*mc A k c j) fun c hc=>((hA i c hi (by lia)).mul (Lw hA hk c j hj)).mono (by lia) (ai _)
 refine(h1.sub h2).mono (ai _) ?_;show db B k*B+k*(B*db B k)<=(k+1)*(B*db B k);rw[cQ,Nat.mul_comm (db B k) B];lia
theorem HY{l:dQ}{d m:Nat}(t:Trim l)(h:Bd (dF l) d (db (2^246) m))(hd:d<=39)(hm:m<=31):EB l:=by
 obtain⟨h1,h2⟩:=h.list t;refine⟨by lia,aw h2 (aw (Lp hm) (aw (OD 31 (by lia)) ?_))⟩;exact bx (by lia) (by lia)
theorem OK{n k:Nat}{A:Nat->Nat->PF}{t:List jD}{before:dQ}{σ:Nat->Nat}{ε:PF}(hn:n<=30)(hA:∀i j,i<n->j<n+1->Bd (A i j) 1 (2^246))(hk:k<n)(S:S7 n k A t before σ ε)(c:Nat)(hkc:k<=c)(hc:c<n)(hp:ent t c k≠[]){i j:Nat}(hi:i<n)(hik:i≠k)(hj:k<j)(hjn:j<n+1):
  EB before/\before≠[]/\EB (ent (nP t c k) k k)/\EB (ent (nP t c k) i j)/\EB (ent (nP t c k) i k)/\EB (ent (nP t c k) k j)/\∃m,Trim m/\EB m/\dF (tQ (gX (ent (nP t c k) k k) (ent (nP t c k) i j)) (gX (ent (nP t c k) i k) (ent (nP t c k) k j)))=dF m*dF before:=by
 have tl:=S.tab.len;have sg':∀a,(nP t c k).getD a []=t.getD (sw c k a) []:=fun a=>Bm t c k a (by lia) (by lia)
 have se:∀a j,ent (nP t c k) a j=ent t (sw c k a) j:=fun a j=>by unfold ent;rw[sg']
 have skk:sw c k k=c:=by
  unfold sw
  repeat' split
  all_goals lia
 have slow:∀i,i<k->sw c k i=i:=fun i hi=>by unfold sw;rw[af (by lia),af (by lia)]
 have shigh:∀i,k<=i->k<=sw c k i:=fun i hi=>by
  unfold sw
  repeat' split
  all_goals lia
 have hB:(fun i j=>A (σ (sw c k i)) j)=gM (fun i j=>A (σ i) j) c k:=(tV (fun i j=>A (σ i) j) c k).symm;have mkS:mk (fun i j=>A (σ (sw c k i)) j) k=mk (fun i j=>A (σ i) j) k:=by rw[hB];exact FK _ k c k hkc (ai _)
 have mcS:∀i j,mc (fun i j=>A (σ (sw c k i)) j) k i j=mc (fun i j=>A (σ i) j) k i j:=fun i j=>by rw[hB];exact FL _ k c k i j hkc (ai _)
 have tiS:∀i j,ti (fun i j=>A (σ (sw c k i)) j) k i j=ti (fun i j=>A (σ i) j) k (sw c k i) j:=fun i j=>by rw[hB];exact K1 _ k c k i j hkc (ai _)
 have eU:∀i j,i<k->k<=j->j<n+1->dF (ent (nP t c k) i j)=mc (fun i j=>A (σ (sw c k i)) j) k i j:=fun i j hi hj hjn=>by rw[se,slow i hi,S.up i j hi hj hjn,mcS]
 have eL:∀i j,k<=i->i<n->k<=j->j<n+1->dF (ent (nP t c k) i j)=ti (fun i j=>A (σ (sw c k i)) j) k i j:=fun i j hi hin hj hjn=>by
  rw[se,S.low _ j (shigh i hi) (pS hc hk hin) hj hjn,tiS]
 have sT:∀i j,i<n->j<n+1->Trim (ent (nP t c k) i j):=fun i j hi hj=>by rw[se];exact S.tab.trim _ j (pS hc hk hi) hj
 have hBI:∀i j,i<n->j<n+1->Bd (A (σ (sw c k i)) j) 1 (2^246):=fun i j hi hj=>hA _ j (S.ord.lt _ (pS hc hk hi)) hj
 generalize hBd:(fun i j=>A (σ (sw c k i)) j)=B at *;have hBI':∀i j,i<n->j<n+1->Bd (B i j) 1 (2^246):=fun i j hi hj=>by rw[<-hBd];exact hBI i j hi hj
 have eB:EB before:=HY S.Hy (by rw[S.DC,<-mkS];exact Ro hBI' (b5 hk)) (by lia) (by lia);have bne:before≠[]:=fun z=>by
  have:=S.DC;rw[z] at this;exact S.ne this.symm
 have eE:∀i j,i<n->k<=j->j<n+1->EB (ent (nP t c k) i j):=fun i j hi hj hjn=>by
  by_cases q:i<k
  ·exact HY (sT i j hi hjn) (by rw[eU i j q hj hjn];exact Lw hBI' (b5 hk) i j hjn) (by lia) (by lia)
  ·exact HY (sT i j hi hjn) (by rw[eL i j (by lia) hi hj hjn];exact OJ hBI' (b5 hk) i j hi hjn) (by lia) (by lia)
 refine⟨eB,bne,eE k k hk (ai _) (by lia),eE i j hi (by lia) hjn,eE i k hi (ai _) (by lia),eE k j hk (by lia) hjn,?_⟩;have w6:Reg (mk B k):=PF.w6 (by rw[mkS];exact S.ne);have piv:dF (ent t c k)=mk B (k+1):=by
  have e:=eL k k (ai _) hk (ai _) (by lia);rw[se,skk] at e;rw[e,BM B k w6]
 have ne1:mk B (k+1)≠0:=fun z=>hp ((fI (S.tab.trim c k hc (by lia))).mp (piv.trans z))
 have reg1:Reg (mk B (k+1)):=PF.w6 ne1;have ekk:dF (ent (nP t c k) k k)=mk B (k+1):=by rw[se,skk];exact piv
 by_cases q:i<k
 ·obtain⟨m,tm,em,h1,h2⟩:=(Lw hBI' (show k+1<=n by lia) i j hjn).ex;refine⟨m,tm,HY tm (by rw[em];exact Lw hBI' (show k+1<=n by lia) i j hjn) (by lia) (by lia),?_⟩;rw[qU,jR,jR,ekk,em,S.DC,<-mkS,eU i j q (by lia) hjn,eU i k q (ai _) (by lia),eL k j (ai _) hk (by lia) hjn];have:=(Bf B k j w6 reg1 i q).1;rw[this];grind
 ·obtain⟨m,tm,em,h1,h2⟩:=(OJ hBI' (show k+1<=n by lia) i j hi hjn).ex;refine⟨m,tm,HY tm (by rw[em];exact OJ hBI' (show k+1<=n by lia) i j hi hjn) (by lia) (by lia),?_⟩;rw[qU,jR,jR,ekk,em,S.DC,<-mkS,eL i j (by lia) hi (by lia) hjn,eL i k (by lia) hi (ai _) (by lia),eL k j (ai _) hk (by lia) hjn];have:=K0 B k i j w6 reg1;rw[this];grind
theorem JV{n:Nw}(R:Right n){g:lh}(S:Mw n g){G:Wh.Setting}(S2:lQ n g G){d:dQ}{tops:List dQ}(h:sol (rows g)=some (d,tops)):(d.length<=31/\ik d<=2^7530)/\∀c,c<(de n).unknowns->(tops.getD c []).length<=31/\ik (tops.getD c [])<=2^7530:=by
 have un:=OI R;have hA:∀i j,i<(de n).unknowns->j<(de n).unknowns+1->Bd (sI (rows g) i j) 1 (2^246):=fun i j hi hj=>Lu R S S2 hi hj
 have big:db (2^246) (de n).unknowns<=2^7530:=aw (Lp un) (aw (OD 30 (by lia)) (bx (by lia) (by lia)));have eps:∀(ε f:PF) (dd B:Nat),(ε=1\/ε= -1)->Bd f dd B->Bd (ε*f) dd B:=fun ε f dd B h hb=>by
  rcases h with rfl |rfl
  ·have e:(1:PF)*f=f:=by grind
   rw[e];exact hb
  ·have e:(-1:PF)*f= -f:=by grind
   rw[e];exact hb.neg
 rcases Jy (xu R S2) with⟨d',tops',e,so⟩ |⟨e,_⟩
 ·rw[h] at e;cases e
  obtain⟨ε,he,hd,ht⟩:=so.sgn;refine⟨?_,fun c hc=> ?_⟩
  ·obtain⟨h1,h2⟩:=Bd.list so.xf (by rw[hd];exact eps _ _ _ _ he (Cu (2^246) (de n).unknowns fun i j hi hj=>hA i j hi (by lia)));exact⟨by lia,by lia⟩
  ·obtain⟨h1,h2⟩:=Bd.list (so.trim c hc) (by
    rw[ht c hc];exact eps _ _ _ _ he (Cu (2^246) (de n).unknowns fun i j hi hj=>by
     show Bd (if j=c then _ else _) 1 _;split
     ·exact hA i _ hi (by lia)
     ·exact hA i j hi (by lia)))
   exact⟨by lia,by lia⟩
 ·rw[h] at e;cases e
theorem Rq{n:Nw}(R:Right n)(st:List Bool):Mw n (IX n st):=by
 refine⟨rfl,.inl rfl,fun k=> ?_⟩;show((n.c8.map fun p:Part=>(p.top,p.dE)).getD k (0,1)).1.natAbs<=_/\((n.c8.map fun p:Part=>(p.top,p.dE)).getD k (0,1)).2.natAbs<=_;rw[gDe,aA];by_cases h:k<n.c8.length
 ·rw[aa h];have pp:=R.pn _ (bM h);have:=pp.b1;have:=pp.b2;exact⟨pp.t,by show(n.c8[k]).dE.natAbs<=_;lia⟩
 ·rw[aE (by lia)];exact⟨by decide,by decide⟩
theorem zl{n:Nw}(st:List Bool)(src:Int):Mw n (gG n st src):=by
 refine⟨rfl,.inr rfl,fun k=> ?_⟩;show(((List.range n.c8.length).map fun(k:Nat)=>if(k:Int)=src then((1:Int),(1:Int)) else(0,1)).getD k (0,1)).1.natAbs<=_/\_;by_cases h:k<n.c8.length
 ·have e:(gG n st src).drives.getD k (0,1)=if(k:Int)=src then(1,1) else(0,1):=kj _ _ _ _ h
  show((gG n st src).drives.getD k (0,1)).1.natAbs<=_/\((gG n st src).drives.getD k (0,1)).2.natAbs<=_;rw[e];split <;>exact⟨by decide,by decide⟩
 ·have e:(gG n st src).drives.getD k (0,1)=(0,1):=by
   unfold gG;dsimp only;rw[gDe,aE (by simp;lia)];rfl
  show((gG n st src).drives.getD k (0,1)).1.natAbs<=_/\((gG n st src).drives.getD k (0,1)).2.natAbs<=_;rw[e];exact⟨by decide,by decide⟩
noncomputable def jN:dQ->Int->Int
 |[],_=>0
 |a::l,x=>a+x*jN l x
theorem xA(x:Int):∀l:dQ,(dF l).f (x:Rat)=((jN l x:Int):Rat)
 |[]=>rfl
 |a::l=>by
  rw[e9,xA x l];show(a:Rat)+(x:Rat)*_=((a+x*jN l x:Int):Rat);push_cast;rfl
theorem HZ(x:Int):∀l r:dQ,jN (iJ l r) x=jN l x+jN r x
 |[],r=>by
  show jN r x=0+jN r x;lia
 |a::l,[]=>by
  show jN (a::l) x=jN (a::l) x+0;lia
 |a::l,b::r=>by
  show(a+b)+x*jN (iJ l r) x=(a+x*jN l x)+(b+x*jN r x);rw[HZ x l r];grind
theorem EW(c x:Int):∀l:dQ,jN (l.map fun y=>c*y) x=c*jN l x
 |[]=>by
  show 0=c*0;lia
 |a::l=>by
  show c*a+x*jN (l.map fun y=>c*y) x=c*(a+x*jN l x);rw[EW c x l];grind
noncomputable def Ia (r:Int):dQ->dQ
 |[]=>[]
 |_::m=>iJ m ((Ia r m).map fun y=>r*y)
theorem Lx(r:Int):∀l:dQ,(Ia r l).length=l.length - 1
 |[]=>rfl
 |a::m=>by
  show(iJ m _).length=_;rw[jq,lMp,Lx r m,aq];lia
theorem JW(r x:Int):∀l:dQ,jN l x - jN l r=(x - r)*jN (Ia r l) x
 |[]=>by
  show(0:Int) - 0=(x - r)*0;lia
 |a::m=>by
  show(a+x*jN m x) - (a+r*jN m r)=(x - r)*jN (iJ m ((Ia r m).map fun y=>r*y)) x;rw[HZ,EW];have:=JW r x m;grind
theorem Cv:∀{l:dQ},(∀i,l.getD i 0=0)->ik l=0
 |[],_=>rfl
 |a::l,h=>by
  rw[fO];have h0:a=0:=h 0;have:=Cv (l:=l) fun i=>h (i+1)
  rw[this,h0];rfl
theorem EX:∀{l m:dQ},(∀i,l.getD i 0=m.getD i 0)->ik l=ik m
 |[],m,h=>(Cv fun i=>(h i).symm.trans (by simp)).symm
 |a::l,[],h=>Cv fun i=>(h i).trans (by simp)
 |a::l,b::m,h=>by
  rw[fO,fO];have h0:a=b:=h 0;have:=EX (l:=l) (m:=m) fun i=>h (i+1)
  rw[this,h0]
theorem SF(r:Int)(l:dQ):ik l<=(jN l r).natAbs+(1+r.natAbs)*ik (Ia r l):=by
 have e:dF l=dF (iJ [jN l r] (mulL [-r,1] (Ia r l))):=by
  refine PF.ext fun x=> ?_
  have key:∀i:Nat,(dF l).f ((i:Int):Rat)=(dF (iJ [jN l r] (mulL [-r,1] (Ia r l)))).f ((i:Int):Rat):=fun i=>by
   rw[xb,jr];show _=(dF [jN l r]).f ((i:Int):Rat)+(dF [-r,1]).f ((i:Int):Rat)*(dF (Ia r l)).f ((i:Int):Rat);rw[xA,xA,xA,xA];have:=JW r (i:Int) l;have e1:jN [jN l r] (i:Int)=jN l r:=by
    show jN l r+(i:Int)*0=_;lia
   have e2:jN [-r,1] (i:Int)=(i:Int) - r:=by
    show -r+(i:Int)*(1+(i:Int)*0)=_;grind
   rw[e1,e2];have:jN l (i:Int)=jN l r+((i:Int) - r)*jN (Ia r l) (i:Int):=by lia
   rw[this];push_cast;rfl
  have d0:dF l - dF (iJ [jN l r] (mulL [-r,1] (Ia r l)))=0:=by
   by_cases q:dF l - dF (iJ [jN l r] (mulL [-r,1] (Ia r l)))=0
   ·exact q
   ·obtain⟨N,hN⟩:=PF.Bg q;have h1:=hN N (ai _);exfalso;apply h1;show(dF l).f (N:Rat) - (dF (iJ [jN l r] (mulL [-r,1] (Ia r l)))).f (N:Rat)=0;have h2:=key N;have e3:(((N:Int)):Rat)=(N:Rat):=by push_cast;rfl
    rw[e3] at h2;rw[h2];grind
  have h3:(dF l - dF (iJ [jN l r] (mulL [-r,1] (Ia r l)))).f x=0:=by rw[d0];rfl
  have h4:(dF l).f x - (dF (iJ [jN l r] (mulL [-r,1] (Ia r l)))).f x=0:=h3;grind
 rw[EX (qT e)];refine aw (qY _ _) ?_;have h1:ik [jN l r]=(jN l r).natAbs:=by rw[fO,Gf];rfl
 have h2:=xy [-r,1] (Ia r l);have h3:ik [-r,1]=1+r.natAbs:=by
  rw[fO,fO,Gf,Int.natAbs_neg];show r.natAbs+(1+0)=_;lia
 rw[h3] at h2;lia
noncomputable def cB (P:Nat):Nat->Nat
 |0=>0
 |m+1=>1+(1+P)*(2*cB P m)
theorem Gm{a b c:Int}(h:a=b*c)(hb:b≠0):c.natAbs<=a.natAbs:=by
 rw[h,bP];have:1<=b.natAbs:=by lia
 exact cI _ (by lia)
theorem Um(P:Nat):∀(m:Nat) (l:dQ) (xs:List Int) (M:Nat),l.length<=m->xs.Nodup->m<=xs.length->(∀x∈xs,x.natAbs<=P)->(∀x∈xs,(jN l x).natAbs<=M)->ik l<=cB P m*M
 |0,l,xs,M,hl,_,_,_,_=>by
  have:l=[]:=bc.mp (by lia);subst this;show 0<=_;lia
 |m+1,l,[],M,hl,_,hx,_,_=>by simp at hx
 |m+1,l,r::ys,M,hl,hnd,hx,hP,hM=>by
  obtain⟨hr,hys⟩:=bV.mp hnd;have r1:=hM r ax;have rP:=hP r ax;have ih:=Um P m (Ia r l) ys (2*M) (by rw[Lx];lia) hys (by simpa using hx) (fun x hx=>hP x (ak _ hx)) fun y hy=>by
   have y1:=hM y (ak _ hy);have ne:y - r≠0:=fun e=>hr (by
    have:y=r:=by lia
    rw[<-this];exact hy)
   have:=Gm (JW r y l) ne;have h2:(jN l y - jN l r).natAbs<=(jN l y).natAbs+(jN l r).natAbs:=Int.natAbs_sub_le _ _;lia
  have h1:=SF r l;have h2:(1+r.natAbs)*ik (Ia r l)<=(1+P)*(cB P m*(2*M)):=bQ (by lia) ih;show ik l<=(1+(1+P)*(2*cB P m))*M;have e:(1+(1+P)*(2*cB P m))*M=M+(1+P)*(cB P m*(2*M)):=by grind
  rw[e];lia
theorem Rr(P:Nat)(hP:1<=P){x:Int}(hx:x.natAbs<=P):∀l:dQ,(jN l x).natAbs<=ik l*P^l.length
 |[]=>by
  show 0<=_;lia
 |a::l=>by
  have ih:=Rr P hP hx l;show(a+x*jN l x).natAbs<=ik (a::l)*P^(l.length+1);have h1:=Int.natAbs_add_le a (x*jN l x);rw[bP] at h1;have h2:x.natAbs*(jN l x).natAbs<=P*(ik l*P^l.length):=bQ hx ih;have h3:1<=P^(l.length+1):=Nat.one_le_pow _ _ (by lia);rw[fO,Nat.add_mul];have h4:a.natAbs<=a.natAbs*P^(l.length+1):=Nat.le_mul_of_pos_right _ (by lia);have e:P*(ik l*P^l.length)=ik l*P^(l.length+1):=by
   rw[Nat.pow_succ];grind
  lia
theorem JX{T A g:dQ}(hT:T.length<=11)(tg:Trim g)(g0:g≠[])(hg:g.length<=11)(hA:A.length<=11)(e:dF T=dF A*dF g):ik A<=cB 20 11*(ik T*20^11):=by
 have ev:∀j:Int,jN T j=jN A j*jN g j:=fun j=>by
  have:(dF T).f (j:Rat)=(dF A).f (j:Rat)*(dF g).f (j:Rat):=by rw[e];rfl
  rw[xA,xA,xA] at this;have h2:((jN T j:Int):Rat)=((jN A j*jN g j:Int):Rat):=by push_cast;exact this
  exact_mod_cast h2
 let pts:List Int:=((List.range 21).map fun i:Nat=>(i:Int)).filter fun j=>decide (jN g j≠0)
 have nd:((List.range 21).map fun i:Nat=>(i:Int)).Nodup:=by decide
 have zs:(((List.range 21).map fun i:Nat=>(i:Int)).filter fun j=>decide (jN g j=0)).length<=10:=by
  refine cy fun q=> ?_
  have hz:=roots ((((List.range 21).map fun i:Nat=>(i:Int)).filter fun j=>decide (jN g j=0)).map fun j:Int=>(j:Rat)) (rl g) (by
   refine List.Pairwise.map _ ?_ (nd.filter _);intro a b hab z;exact hab (by exact_mod_cast z)) (by
   unfold rl;rw[lMp,lMp];lia) (fun x hx=>by
   obtain⟨j,hj,rfl⟩:=aN.mp hx;have:=az (bT.mp hj).2;show(dF g).f (j:Rat)=0;rw[xA,this];rfl)
  have:dF g=0:=PF.ext fun x=>hz.ev x
  exact rG tg g0 this
 have cnt:((List.range 21).map fun i:Nat=>(i:Int)).length=pts.length+(((List.range 21).map fun i:Nat=>(i:Int)).filter fun j=>decide (jN g j=0)).length:=by
  have:∀l:List Int,l.length=(l.filter fun j=>decide (jN g j≠0)).length+(l.filter fun j=>decide (jN g j=0)).length:=by
   intro l;induction l with
   |nil=>rfl
   |cons a l ih=>
    by_cases h:jN g a=0
    ·rw[aU (by simp[h]),aR (by simp[h]),aq,aq];lia
    ·rw[aR (by simp[h]),aU (by simp[h]),aq,aq];lia
  exact this _
 have len:((List.range 21).map fun i:Nat=>(i:Int)).length=21:=by simp
 refine Um 20 11 A pts (ik T*20^11) hA (nd.filter _) (by lia) (fun x hx=> ?_) fun x hx=> ?_
 ·obtain⟨i,hi,rfl⟩:=aN.mp (bT.mp hx).1;have:=aT.mp hi;lia
 ·obtain⟨h1,h2⟩:=bT.mp hx;have h2:=az h2;obtain⟨i,hi,rfl⟩:=aN.mp h1;have hi:=aT.mp hi;have h3:=Gm (show jN T (i:Int)=jN g (i:Int)*jN A (i:Int) by rw[ev,Int.mul_comm]) h2;have h4:=Rr 20 (by decide) (x:=(i:Int)) (by lia) T;refine aw h3 (aw h4 (b9 _ ?_));exact bx (by decide) hT
noncomputable def Mg (γ:Nat) (l:dQ):Prop:=∀i,2*(l.getD i 0).natAbs<=2^γ
theorem Mg.mono{γ δ:Nat}{l:dQ}(h:Mg γ l)(hd:γ<=δ):Mg δ l:=fun i=>aw (h i) (bx (by decide) hd)
theorem Mg.mem{γ:Nat}{l:dQ}(h:Mg γ l){x:Int}(hx:x∈l):2*x.natAbs<=2^γ:=by
 obtain⟨i,hi,e⟩:=aW hx;have:=h i;rw[gDe,aa hi] at this;rw[<-e];exact this
theorem Mx{l:dQ}{γ:Nat}(h:2*ik l<=2^γ):Mg γ l:=fun i=>by
 rw[gDe];by_cases hi:i<l.length
 ·rw[aa hi];have:=u5 (bM hi);show 2*(l[i]).natAbs<=_;lia
 ·rw[aE (by lia)];exact aL _
theorem Bt{l:dQ}{γ:Nat}(h:Mg γ l):Mg γ (prim l):=fun i=>by
 have hs:=rF l;have e:l.getD i 0=cont l*(prim l).getD i 0:=by
  have h2:((prim l).map fun y=>cont l*y).getD i 0=cont l*(prim l).getD i 0:=by
   rw[gDe,aA,gDe];cases(prim l)[i]? <;>simp
  rw[<-h2,hs]
 by_cases c0:cont l=0
 ·have:(prim l).getD i 0=0:=by
   unfold prim;rw[gDe,aA,c0];cases l[i]? <;>simp
  rw[this];exact aL _
 ·have:=Gm e c0;have:=h i;lia
theorem My(rest right:dQ)(i:Nat):(lC rest right).getD i 0=lc right*rest.getD i 0 - lc rest*(if i<rest.length - right.length then 0 else right.getD (i - (rest.length - right.length)) 0):=by
 unfold lC tQ BP;rw[FR,iX];have sc:∀(c:Int) (l:dQ) (i:Nat),(l.map fun y=>c*y).getD i 0=c*l.getD i 0:=fun c l i=>by
  rw[gDe,aA,gDe];cases l[i]? <;>simp
 have ng:∀(l:dQ) (i:Nat),(Eo l).getD i 0= - l.getD i 0:=fun l i=>by
  unfold Eo;rw[gDe,aA,gDe];cases l[i]? <;>simp
 rw[sc,ng];by_cases h:i<rest.length - right.length
 ·rw[ah h];have:(List.replicate (rest.length - right.length) (0:Int) ++ right.map fun y=>lc rest*y).getD i 0=0:=by
   rw[gDe,bZ (by rw[aP];exact h),b8,ah h];rfl
  rw[this];lia
 ·rw[af h,K9 _ _ _ (by lia),sc];lia
theorem OL{γ δ:Nat}{rest right:dQ}(h1:Mg γ rest)(h2:Mg δ right):Mg (γ+δ) (lC rest right):=fun i=>by
 rw[My];have a1:2*(lc right).natAbs<=2^δ:=h2 _;have a2:2*(lc rest).natAbs<=2^γ:=h1 _;have b1:=h1 i;have b2:2*(if i<rest.length - right.length then(0:Int) else right.getD (i - (rest.length - right.length)) 0).natAbs<=2^δ:=by
  split
  ·exact aL _
  ·exact h2 _
 generalize (if i<rest.length - right.length then(0:Int) else right.getD (i - (rest.length - right.length)) 0)=y at b2⊢;have t:=Int.natAbs_sub_le (lc right*rest.getD i 0) (lc rest*y);rw[bP,bP] at t;have p1:=bQ a1 b1;have p2:=bQ a2 b2;rw[Nat.pow_add];have e1:2*(lc right).natAbs*(2*(rest.getD i 0).natAbs)=4*((lc right).natAbs*(rest.getD i 0).natAbs):=by grind
 have e2:2*(lc rest).natAbs*(2*y.natAbs)=4*((lc rest).natAbs*y.natAbs):=by grind
 rw[e1] at p1;rw[e2] at p2;have e3:2^δ*2^γ=2^γ*2^δ:=Nat.mul_comm _ _;rw[e3] at p1;lia
noncomputable def WM (b:Nat):Nat->dQ->dQ->Prop
 |0,_,_=>True
 |f+1,rest,right=>rest.length<right.length\/((∃γ δ,γ+δ<=b/\Mg γ rest/\Mg δ right)/\WM b f (lC rest right) right)
theorem Gn{b δ:Nat}{right:dQ}(hr:right≠[])(h2:Mg δ right):∀(f d γ:Nat) (rest:dQ),rest.length<right.length+d->Mg γ rest->γ+d*δ<=b->Mg (γ+d*δ) (yW f rest right)/\WM b f rest right
 |0,d,γ,rest,hl,h1,hb=>⟨h1.mono (by lia),trivial⟩
 |f+1,d,γ,rest,hl,h1,hb=>by
  by_cases q:rest.length<right.length
  ·have e:yW (f+1) rest right=rest:=ah q;rw[e];exact⟨h1.mono (by lia),.inl q⟩
  ·have e:yW (f+1) rest right=yW f (lC rest right) right:=af q;obtain⟨d',rfl⟩:∃d',d=d' +1:=⟨d - 1,by lia⟩;have ws:=B8 (rest:=rest) (right:=right) (by lia) hr;have e2:γ+(d' +1)*δ=(γ+δ)+d' *δ:=by
    rw[cQ];lia
   have ih:=Gn (b:=b) hr h2 f d' (γ+δ) (lC rest right) (by have:=ws.2.1;lia) (OL h1 h2) (by lia);rw[e,e2];refine⟨ih.1,.inr ⟨⟨γ,δ,?_,h1,h2⟩,ih.2⟩⟩;have:=cA (γ+δ) (d' *δ);lia
noncomputable def CM (b:Nat):Nat->dQ->dQ->Prop
 |0,_,_=>True
 |f+1,l,s=>s=[]\/(WM b (l.length+1) l s/\CM b f s (prim (gN l s)))
noncomputable def pl:Nat->Nat
 |0=>1
 |1=>2
 |n+2=>2*pl (n+1)+pl n
theorem QH(n:Nat):pl n<=pl (n+1):=by
 match n with
 |0=>decide
 |n+1=>
  show pl (n+1)<=2*pl (n+1)+pl n;lia
theorem xB{m n:Nat}(h:m<=n):pl m<=pl n:=by
 induction h with
 |refl=>exact ai _
 |step h ih=>exact aw ih (QH _)
theorem OM(y:Nat):∀g,pl y+(g+2)*pl (y+1)<=pl (y+g+2)
 |0=>by
  show pl y+(0+2)*pl (y+1)<=2*pl (y+1)+pl y;lia
 |g+1=>by
  have ih:=OM y g;show pl y+(g+1+2)*pl (y+1)<=pl (y+(g+1)+2);have e:y+(g+1)+2=(y+g+1)+2:=by lia
  rw[e];show _<=2*pl (y+g+1+1)+pl (y+g+1);have m1:pl (y+1)<=pl (y+g+1):=xB (by lia);have e2:(g+1+2)*pl (y+1)=(g+2)*pl (y+1)+pl (y+1):=by
   rw[show g+1+2=(g+2)+1 by lia,cQ]
  have e3:y+g+1+1=y+g+2:=by lia
  rw[e2,e3];lia
theorem Cw{b:Nat}:∀(f:Nat) (l s:dQ) (y:Nat),Trim l->Trim s->s.length<l.length->l.length+y=11->Mg (pl y*b) l->Mg (pl (y+1)*b) s->CM (13860*b) f l s
 |0,_,_,_,_,_,_,_,_,_=>trivial
 |f+1,l,s,y,tl,ts,hl,hy,ml,ms=>by
  by_cases s0:s=[]
  ·exact .inl s0
  have c1:1<=s.length:=aD.mpr s0;obtain⟨g,eg⟩:∃g,l.length=s.length+g+1:=⟨l.length - s.length - 1,by lia⟩;have gap:=OM y g;have top:pl (y+g+2)<=13860:=by
   have:pl (y+g+2)<=pl 11:=xB (by lia);have e:pl 11=13860:=by decide
   lia
  have key:pl y*b+(g+2)*(pl (y+1)*b)<=pl (y+g+2)*b:=by
   rw[<-Nat.mul_assoc,<-Nat.add_mul];exact b7 _ gap
  have lim:pl (y+g+2)*b<=13860*b:=b7 _ top;have wm:=Gn (b:=13860*b) s0 ms (l.length+1) (g+2) (pl y*b) l (by lia) ml (by lia);have wo:=xm s0 ts (l.length+1) l tl (by lia);obtain⟨_,_,_,_,wl,wt⟩:=wo;refine .inr ⟨wm.2,Cw f s (prim (gN l s)) (y+g+1) ts (iw wt) ?_ (by lia) (ms.mono (b7 _ (xB (by lia)))) ?_⟩
  ·rw[gO];exact wl
  ·exact Bt (wm.1.mono key)
theorem Ib{b:Nat}{T B:dQ}(tT:Trim T)(tB:Trim B)(hB:B≠[])(lT:T.length<=11)(lB:B.length<=11)(mT:Mg b T)(mB:Mg b B)(f:Nat):CM (13860*b) (f+1) T B:=by
 have p1:∀y,1<=pl y:=fun y=>xB (m:=0) (aL y)
 have p2:∀y,2<=pl (y+1):=fun y=>xB (m:=1) (by lia)
 have one:∀y,b<=pl y*b:=fun y=>cI _ (p1 y)
 by_cases h1:B.length<T.length
 ·exact Cw (f+1) T B (11 - T.length) tT tB h1 (by lia) (mT.mono (one _)) (mB.mono (one _))
 ·have c1:1<=B.length:=aD.mpr hB;have wm:=Gn (b:=13860*b) hB mB (T.length+1) 1 b T (by lia) mT (by lia);obtain⟨_,_,_,_,wl,wt⟩:=xm hB tB (T.length+1) T tT (by lia);refine .inr ⟨wm.2,Cw f B (prim (gN T B)) (11 - B.length) tB (iw wt) (by rw[gO];exact wl) (by lia) (mB.mono (one _)) ?_⟩;refine Bt (wm.1.mono ?_);have:=b7 b (p2 (11 - B.length));lia
theorem Al.mem{α β:Type}{R:α->β->Prop}:∀{l:List α} {m:List β},Al R l m->∀a∈l,∃b,b∈m/\R a b
 |_,_,.nil,a,h=>by cases h
 |_,_,.cons r t,a,h=>by
  rcases aH.mp h with rfl |h
  ·exact⟨_,ax,r⟩
  ·obtain⟨b,hb,q⟩:=t.mem a h;exact⟨b,ak _ hb,q⟩
theorem Ic{n:Nw}{st:List Bool}(h:st∈eW n.c8 [[]]):∃r,nI 0 n.c8.length st r:=by
 rw[Av] at h;obtain⟨r,_,q⟩:=(zj n.c8 0).mem st h;exact⟨r,q⟩
theorem Mz{n:Nw}(R:Right n):(de n).places<=11:=by
 unfold Wh.Net.places;show(((n.c8.map du).filter fun(x:Wh.Elem)=>decide (x.kind= .C) ||decide (x.kind= .L)).length+1)<=11;rw[List.filter_map,lMp];have:=vT (p:=(fun(x:Wh.Elem)=>decide (x.kind= .C) ||decide (x.kind= .L)) ∘ du) (q:=fun p=>decide (p.kind≠4/\p.kind≠5)) (fun x h=>aj (by
  have h:(decide ((du x).kind= .C) ||decide ((du x).kind= .L))=true:=h;have ek:(du x).kind=kindOf x.kind:=rfl;rw[ek] at h;constructor
  ·intro e;rw[e] at h;exact absurd h (by decide)
  ·intro e;rw[e] at h;exact absurd h (by decide))) n.c8
 have:=R.ns;lia
theorem SG{n:Nw}(R:Right n){G:Wh.Setting}:Dg (fj ((de n).determinant G)) 11/\∀c,c<(de n).unknowns->Dg (fj ((de n).numerator G c)) 11:=by
 have pl:=Mz R;refine⟨?_,fun c hc=> ?_⟩
 ·unfold Wh.Net.determinant;refine⟨_,rfl,aw (tW _) ?_⟩;rw[lMp,bF];exact pl
 ·unfold Wh.Net.numerator;refine⟨_,rfl,aw (tW _) ?_⟩;rw[lMp,bF];exact pl
theorem Ly{n:Nw}(R:Right n){st:List Bool}{r:List Nat}{src:Int}{d:dQ}{tops:List dQ}(D:Rm n st r src d tops):d.length<=11/\∀c,c<(de n).unknowns->(tops.getD c []).length<=11:=by
 obtain⟨q,q0,hd,ht⟩:=D.ex;obtain⟨d1,d2⟩:=SG R (G:=Wh.alone r src.toNat);have one:∀f:PF,PF.const 1*f=f:=fun f=>by
  rw[fX];grind
 refine⟨vM D.xf (c:=1) (by decide) (by rw[one,hd];exact d1.smul q),fun c hc=>vM (D.trim c hc) (c:=1) (by decide) (by rw[one,ht c hc];exact(d2 c hc).smul q)⟩
structure TB(T B:dQ):Prop where
 chain:CM 104393520 (B.length+1) (prim T) (prim B)
 g:(pO T B).length<=11/\ik (pO T B)<=2^7702
 a:(mX T (pO T B)).length<=11/\ik (mX T (pO T B))<=2^7702
 b:(mX B (pO T B)).length<=11/\ik (mX B (pO T B))<=2^7702
 f:(rB (cont (mX T (pO T B))) (cont (mX B (pO T B)))).natAbs<=2^7702
theorem Uo:cB 20 11*20^11<=2^171:=by decide +kernel
theorem QI{T B:dQ}(tT:Trim T)(tB:Trim B)(hT:T≠[])(hB:B≠[])(lT:T.length<=11)(lB:B.length<=11)(nT:ik T<=2^7531)(nB:ik B<=2^7531):TB T B:=by
 obtain⟨tg,hg,gg,_,⟨a,ea⟩,⟨b,eb⟩⟩:=JB tT tB hT;obtain⟨A,tA,oA⟩:=nR gg ea;obtain⟨Bq,tBq,oB⟩:=nR gg eb;have dA:mX T (pO T B)=A:=pQ tT tg tA hg (by rw[oA];exact ea);have dB:mX B (pO T B)=Bq:=pQ tB tg tBq hg (by rw[oB];exact eb);have hA:A≠[]:=fun z=>hT ((fI tT).mp (by
  rw[ea,<-oA,z];show(0:PF)*_=0;grind))
 have hBq:Bq≠[]:=fun z=>hB ((fI tB).mp (by
  rw[eb,<-oB,z];show(0:PF)*_=0;grind))
 have eT:dF T=dF A*dF (pO T B):=by rw[oA];exact ea
 have eB:dF B=dF Bq*dF (pO T B):=by rw[oB];exact eb
 have len:∀(X Y G:dQ),Trim X->Trim Y->Trim G->Y≠[]->G≠[]->dF X=dF Y*dF G->X.length=Y.length+G.length - 1:=fun X Y G tX tY tG hY hG e=>by
  have:X=gX Y G:=pN tX (qV tY tG) (by rw[jR];exact e);rw[this,xc hY hG]
 have l1:=len T A (pO T B) tT tA tg hA hg eT;have l2:=len B Bq (pO T B) tB tBq tg hBq hg eB;have pA:0<A.length:=aD.mpr hA;have pB:0<Bq.length:=aD.mpr hBq;have pG:0<(pO T B).length:=aD.mpr hg;have big:∀x:Nat,x<=2^7531->cB 20 11*(x*20^11)<=2^7702:=fun x hx=>by
  have e:cB 20 11*(x*20^11)=(cB 20 11*20^11)*x:=by
   rw[Nat.mul_comm x,Nat.mul_assoc]
  rw[e,show(7702:Nat)=171+7531 from rfl,Nat.pow_add];exact bQ Uo hx
 have bA:=aw (JX lT tg hg (by lia) (by lia) eT) (big _ nT);have bB:=aw (JX lB tg hg (by lia) (by lia) eB) (big _ nB);have bG:=aw (JX lT tA hA (by lia) (show(pO T B).length<=11 by lia) (show dF T=dF (pO T B)*dF A by rw[eT];grind)) (big _ nT);have mg:∀X:dQ,ik X<=2^7531->Mg 7532 X:=fun X h=>Mx (by
  rw[show(7532:Nat)=1+7531 from rfl,Nat.pow_add];exact b9 2 h)
 refine⟨?_,⟨by lia,bG⟩,?_,?_,?_⟩
 ·exact Ib (b:=7532) (iw tT) (iw tB) (fun z=>hB (by
   have:=congrArg List.length z;rw[gO] at this;exact bc.mp (by simpa using this))) (by rw[gO];exact lT) (by rw[gO];exact lB) (Bt (mg T nT)) (Bt (mg B nB)) B.length
 ·rw[dA];exact⟨by lia,bA⟩
 ·rw[dB];exact⟨by lia,bB⟩
 ·rw[dA,dB];unfold rB;rw[jX,jX,bH,bH,bH];have ga:=ju tA hA;refine aw (Nat.gcd_le_left _ ga) ?_;have nl:=ft.mp tA hA;have hm:lc A∈A:=by
   unfold lc;exact memD (by lia)
  have dv:=mM hm;have h1:fL A<=(lc A).natAbs:=by
   have:=Int.natAbs_dvd_natAbs.mpr dv;rw[bH] at this;exact Nat.le_of_dvd (by lia) this
  have:=u5 hm;lia
theorem MA{T B:dQ}(h:T≠[]->TB T B):(n8 T B).length<=100:=by
 unfold n8;by_cases e:T=[]
 ·rw[ah e];decide
 ·rw[af e];have:=h e;dsimp only;unfold sG;rw[ay,aq,aq,lMp,lMp,bu,bu];have:=this.a.1;have:=(h e).b.1;lia
noncomputable def more (n:Nw) (ps:List Part):Nw:=⟨n.last,n.c8 ++ ps⟩
noncomputable def xC (p q:Part):Prop:=p=q\/((p.kind=4\/p.kind=5)/\q.kind=p.kind/\q.a=p.a/\q.b=p.b/\q.c=p.c/\q.d=p.d)
inductive gP:List Part->List Part->Prop
 |nil:gP [] []
 |cons {p q:Part} {ps qs:List Part}:xC p q->gP ps qs->gP (p::ps) (q::qs)
theorem xC.kind{p q:Part}(h:xC p q):q.kind=p.kind/\q.a=p.a/\q.b=p.b/\q.c=p.c/\q.d=p.d:=by
 rcases h with rfl |⟨_,h⟩
 ·exact⟨rfl,rfl,rfl,rfl,rfl⟩
 ·exact h
theorem xC.refl(p:Part):xC p p:= .inl rfl
theorem gP.refl:∀ps:List Part,gP ps ps
 |[]=> .nil
 |p::ps=> .cons (.refl p) (gP.refl ps)
theorem gP.app{a b:List Part}:∀{l m:List Part},gP l m->gP a b->gP (l ++ a) (m ++ b)
 |_,_,.nil,h=>h
 |_,_,.cons x y,h=> .cons x (y.app h)
theorem gP.len:∀{l m:List Part},gP l m->m.length=l.length
 |_,_,.nil=>rfl
 |_,_,.cons _ y=>by rw[aq,aq,y.len]
theorem gP.get:∀{l m:List Part},gP l m->∀k,xC (l.getD k p0) (m.getD k p0)
 |_,_,.nil,k=>by
  show xC (([]:List Part).getD k p0) (([]:List Part).getD k p0);exact .refl _
 |_,_,.cons x y,0=>x
 |_,_,.cons x y,k+1=>y.get k
theorem Rt{p q:Part}(h:xC p q):hX q=hX p:=by
 unfold hX;rw[h.kind.1]
theorem Cy:∀{l m:List Part},gP l m->∀f,fT f m=fT f l
 |_,_,.nil,f=>rfl
 |_,_,.cons x y,f=>by
  show f::fT (f+hX _) _=f::fT (f+hX _) _;rw[Rt x,Cy y]
theorem Ru:∀{l m:List Part},gP l m->(m.map hX).sum=(l.map hX).sum
 |_,_,.nil=>rfl
 |_,_,.cons x y=>by rw[aJ,aJ,b6,b6,Rt x,Ru y]
theorem ON(k:Int):∀{l m:List Part},gP l m->((m.filter fun p=>decide (p.kind=3/\(k=p.a\/k=p.b))).map fun p=>(p.a+p.b - k,p.top,p.dE))=(l.filter fun p=>decide (p.kind=3/\(k=p.a\/k=p.b))).map fun p=>(p.a+p.b - k,p.top,p.dE)
 |_,_,.nil=>rfl
 |_,_,.cons (p:=p) (q:=q) x y=>by
  have ih:=ON k y;by_cases h:p.kind=3/\(k=p.a\/k=p.b)
  ·have e:q=p:=by
    rcases x with e |⟨h4,_⟩
    ·exact e.symm
    ·lia
   rw[e,aR (p:=fun p:Part=>decide (p.kind=3/\(k=p.a\/k=p.b))) (aj h),aR (p:=fun p:Part=>decide (p.kind=3/\(k=p.a\/k=p.b))) (aj h),aJ,aJ,ih]
  ·have h':¬(q.kind=3/\(k=q.a\/k=q.b)):=by
    obtain⟨e1,e2,e3,_⟩:=x.kind;rw[e1,e2,e3];exact h
   rw[aU (p:=fun p:Part=>decide (p.kind=3/\(k=p.a\/k=p.b))) (by rw[ao h'];simp),aU (p:=fun p:Part=>decide (p.kind=3/\(k=p.a\/k=p.b))) (by rw[ao h];simp),ih]
theorem OO(v:Int):∀{l m:List Part},gP l m->∀is:List Int,((m.zip is).flatMap fun x=>if x.1.kind=3 then[] else
  (if x.1.a=v then[(x.2,[1])] else[]) ++ (if x.1.b=v then[(x.2,[-1])] else[]) ++
   (if x.1.kind=10 then(if x.1.c=v then[(x.2+1,[1])] else[]) ++ (if x.1.d=v then[(x.2+1,[-1])] else[]) else[]))=(((l.zip is).flatMap fun x=>if x.1.kind=3 then[] else
  (if x.1.a=v then[(x.2,[1])] else[]) ++ (if x.1.b=v then[(x.2,[-1])] else[]) ++
   (if x.1.kind=10 then(if x.1.c=v then[(x.2+1,[1])] else[]) ++ (if x.1.d=v then[(x.2+1,[-1])] else[]) else[])):List Term)
 |_,_,.nil,is=>rfl
 |_,_,.cons x y,[]=>rfl
 |_,_,.cons x y,i::is=>by
  rw[List.zip_cons_cons,List.zip_cons_cons,bb,bb,OO v y is];obtain⟨e1,e2,e3,e4,e5⟩:=x.kind;dsimp only;rw[e1,e2,e3,e4,e5]
theorem SH{n m:Nw}(hl:m.last=n.last)(h:gP n.c8 m.c8)(s:dQ)(st:List Bool)(dr:List (Int×Int)):rows ⟨m,s,st,dr⟩=rows ⟨n,s,st,dr⟩:=by
 have pl:places m=places n:=by
  unfold places;rw[hl,Cy h]
 have wd:width m=width n:=by
  unfold width;rw[hl,Ru h]
 have nl:∀v,iO m v=iO n v:=fun v=>by
  unfold iO;rw[pl,OO v h]
 have cu:∀k,cur ⟨m,s,st,dr⟩ k=cur ⟨n,s,st,dr⟩ k:=fun k=>by
  unfold cur;rw[pl]
 have dv:∀k ts,Bh ⟨m,s,st,dr⟩ k ts=Bh ⟨n,s,st,dr⟩ k ts:=fun k ts=>by
  unfold Bh;rw[wd]
 have l1:∀k,fQ ⟨m,s,st,dr⟩ k=fQ ⟨n,s,st,dr⟩ k:=fun k=>by
  have g:=h.get k;rcases g with e |⟨h4,e1,e2,e3,e4,e5⟩
  ·have cl:mz ⟨m,s,st,dr⟩ k=mz ⟨n,s,st,dr⟩ k:=by
    have sh:eQ m.c8 k=eQ n.c8 k:=by
     unfold eQ;rw[ON k h,e]
    unfold mz;dsimp only;rw[sh,e];simp only[cu]
   unfold fQ;dsimp only;rw[<-e];simp only[cu,dv,cl,pl]
  ·unfold fQ;dsimp only;rw[e1];have vv:lL (m.c8.getD k p0)=lL (n.c8.getD k p0):=by
    unfold lL;rw[e2,e3]
   rcases h4 with h4 |h4
   ·rw[h4];show[Bh ⟨m,s,st,dr⟩ k (lL (m.c8.getD k p0))]=[Bh ⟨n,s,st,dr⟩ k (lL (n.c8.getD k p0))];rw[vv,dv]
   ·rw[h4];show[Bh ⟨m,s,st,dr⟩ k (cur ⟨m,s,st,dr⟩ k)]=[Bh ⟨n,s,st,dr⟩ k (cur ⟨n,s,st,dr⟩ k)];rw[cu,dv]
 unfold rows gS;dsimp only;rw[hl,h.len,wd];simp only[nl,l1]
theorem Cz{l ps:List Part}{k:Nat}(h:k<l.length):(l ++ ps).getD k p0=l.getD k p0:=by
 rw[gDe,gDe,bZ h]
theorem zm{l ps:List Part}{k:Nat}(h:l.length<=k):(l ++ ps).getD k p0=ps.getD (k - l.length) p0:=by
 rw[gDe,gDe,bw h]
theorem EY(n:Nw)(h:∀k,k<n.c8.length->gE n k=0):∀f,f<=n.c8.length->ji n f=[]
 |0,_=>rfl
 |f+1,hf=>by
  unfold ji;dsimp only;rw[af (fun z=>z (h _ (by lia))),EY n h f (by lia)]
structure Src(last:Int)(p:Part):Prop where
 kind:p.kind=4\/p.kind=5
 pn:Pn p
 a:p.a<=last
 b:p.b<=last
theorem JY{n:Nw}(R:Right n){ps:List Part}(hs:∀p∈ps,Src n.last p){k:Nat}(hk:k<(more n ps).c8.length):gE (more n ps) k=0:=by
 have el:(more n ps).c8=n.c8 ++ ps:=rfl;have ln:(more n ps).last=n.last:=rfl;by_cases h:k<n.c8.length
 ·have G:=R.g1 h;have ep:(more n ps).c8.getD k p0=n.c8.getD k p0:=Cz h;have ka:∀i:Int,i<k->kindAt (more n ps).c8 i=kindAt n.c8 i:=fun i hi=>by
   unfold kindAt;rw[el,Cz (by lia)]
  unfold gE;dsimp only;rw[ep,ln];rw[af (fun z=>by
   obtain⟨v,hv,hv2⟩:=bJ.mp z;have:=G.nodes v hv;have:=az hv2;lia),af (by rw[G.num];simp)]
  have mf:fA (more n ps).c8 k=true:=by
   have g:=G.Qt;unfold fA at g⊢;dsimp only at g⊢;rw[ep];by_cases h4:(n.c8.getD k p0).kind=8\/(n.c8.getD k p0).kind=9
   ·have:=R.Qt h h4;rw[af (fun q=>q h4),ka _ this.1,aj this.1,aj this.2];rfl
   ·rw[ah h4]
  rw[af (by rw[mf];simp)];by_cases h3:(n.c8.getD k p0).kind=3
  ·rw[ah h3];have g:=G.VW h3;obtain⟨c1,⟨c2,c3⟩,c4,c5⟩:=R.Mq h h3;rw[<-g];unfold lK;dsimp only;have cb:∀i:Int,i<k->dU (more n ps).c8 i k=dU n.c8 i k:=fun i hi=>by
    unfold dU;rw[ka i hi]
   have tk:(more n ps).c8.take k=n.c8.take k:=by
    rw[el,cG (by lia)]
   have pp:=R.p h;have ga:(more n ps).c8.getD (n.c8.getD k p0).a.toNat p0=n.c8.getD (n.c8.getD k p0).a.toNat p0:=Cz (by lia);have gb:(more n ps).c8.getD (n.c8.getD k p0).b.toNat p0=n.c8.getD (n.c8.getD k p0).b.toNat p0:=Cz (by lia);rw[ep,cb _ c2,cb _ c4,tk,ga,gb]
  ·rw[af h3]
 ·have ep:(more n ps).c8.getD k p0=ps.getD (k - n.c8.length) p0:=zm (by lia);have hk2:k - n.c8.length<ps.length:=by
   rw[el,ay] at hk;lia
  have S:=hs _ (memD (d:=p0) hk2);unfold gE;dsimp only;rw[ep,ln];generalize ps.getD (k - n.c8.length) p0=p at S ep;obtain⟨kd,pn,ha,hb⟩:=S;have nd:gD p=[p.a,p.b]:=by
   unfold gD;rw[af (by lia),af (by lia)]
  rw[nd,af (fun z=>by
   obtain⟨v,hv,hv2⟩:=bJ.mp z;have:=az hv2;rcases aH.mp hv with e |hv
   ·lia
   ·have:=au.mp hv;lia)]
  have mn:lJ p=true:=by
   unfold lJ;rw[af (by lia),af (by lia),af (by lia),af (by lia),af (by lia)]
  have mf:fA (more n ps).c8 k=true:=by
   unfold fA;dsimp only;rw[ep,ah (by lia)]
  rw[af (by rw[mn];simp),af (by rw[mf];simp),af (by lia)]
theorem ow{n:Nw}(R:Right n)(h10:n.c8.length<=10){ps:List Part}(h2:ps.length<=2)(hs:∀p∈ps,Src n.last p):Right (more n ps):=by
 have el:(more n ps).c8=n.c8 ++ ps:=rfl;refine⟨R.l1,R.l8,?_,?_,fun p hp=> ?_,?_⟩
 ·rw[el,ay];lia
 ·rw[el,bL,ay];have e:ps.filter (fun p=>decide (p.kind≠4/\p.kind≠5))=[]:=List.filter_eq_nil_iff.mpr fun p hp=>by
   have:=(hs p hp).kind;rw[ao (by lia)];simp
  rw[e];exact R.ns
 ·rw[el] at hp;rcases aK.mp hp with m |m
  ·exact R.pn p m
  ·exact(hs p m).pn
 ·exact EY _ (fun k hk=>JY R hs hk) _ (ai _)
theorem CA(n:Nw)(ps:List Part):de (more n ps)=WhB.with_ (de n) (ps.map du):=by
 unfold de more WhB.with_;dsimp only;rw[aO]
theorem xD(n:Nw)(ps:List Part){k:Nat}(h:k<=n.c8.length):(de (more n ps)).at_ k=(de n).at_ k:=by
 unfold Wh.Net.at_;show(more n ps).last.toNat+Wh.sumNat ((((n.c8 ++ ps).map du).take k).map Wh.Elem.currents)=n.last.toNat+Wh.sumNat (((n.c8.map du).take k).map Wh.Elem.currents);rw[aO,cG (by rw[lMp];exact h)];rfl
theorem OP(n:Nw)(ps:List Part){k:Nat}(h:k<n.c8.length):(de (more n ps)).numAt k=(de n).numAt k:=by
 unfold Wh.Net.numAt;show(((((n.c8 ++ ps).map du)[k]?).map fun(x:Wh.Elem)=>x.q).getD 0:Rat)=((((n.c8.map du)[k]?).map fun(x:Wh.Elem)=>x.q).getD 0:Rat);rw[aO,bZ (by rw[lMp];exact h)]
theorem Ie(n:Nw)(ps:List Part):(de n).unknowns=(de (more n ps)).at_ n.c8.length:=by
 rw[xD n ps (ai _)];unfold Wh.Net.unknowns;show(de n).at_ (n.c8.map du).length=_;rw[lMp]
theorem Gp{n:Nw}{ps:List Part}(hs:∀p∈ps,Src n.last p)(k:Nat):(de (more n ps)).coupled k=(de n).coupled k:=by
 unfold Wh.Net.coupled;show((n.c8 ++ ps).map du).filterMap _=(n.c8.map du).filterMap _;rw[aO,List.filterMap_append];have e:(ps.map du).filterMap (fun(x:Wh.Elem)=>if x.kind= .M then(if x.refs.getD 0 0=k then some (x.refs.getD 1 0,x.q) else if x.refs.getD 1 0=k then some (x.refs.getD 0 0,x.q) else none) else none)=[]:=List.filterMap_eq_nil_iff.mpr fun x hx=>by
  obtain⟨p,hp,rfl⟩:=aN.mp hx;have ek:(du p).kind=kindOf p.kind:=rfl;rw[ek];rcases(hs p hp).kind with h |h <;>rw[h] <;>rfl
 rw[e,bU]
theorem JZ{n:Nw}(R:Right n){k:Nat}{x:Nat×Rat}(hx:x∈(de n).coupled k):x.1<=n.c8.length:=by
 unfold Wh.Net.coupled at hx;obtain⟨e,he,h⟩:=List.mem_filterMap.mp hx;obtain⟨p,hp,rfl⟩:=aN.mp he;obtain⟨i,hi,ei⟩:=aW hp;have eg:n.c8.getD i p0=p:=by rw[gDe,aa hi,ei];rfl
 have pn:=R.pn p hp;by_cases h3:(du p).kind= .M
 ·rw[ah h3] at h;have k3:p.kind=3:=by
   have:=(iy pn.k0 pn.k1).1;exact this.mp h3
  have cp:=R.Mq hi (by rw[eg];exact k3);rw[eg] at cp;have r0:(du p).refs=[p.a.toNat,p.b.toNat]:=by
   unfold du;dsimp only;rw[ah (show kindOf p.kind= .M from h3)]
  rw[r0] at h;have:=pn.a0;have:=pn.b0;split at h
  ·cases h
   show p.b.toNat<=_;lia
  ·split at h
   ·cases h
    show p.a.toNat<=_;lia
   ·cases h
 ·rw[af h3] at h;cases h
theorem QJ{n:Nw}(R:Right n){k:Nat}(hk:k<n.c8.length)(h3:(n.c8.getD k p0).kind≠3):(du (n.c8.getD k p0)).refs.getD 0 0<=n.c8.length:=by
 have pn:=R.p hk;by_cases h8:(n.c8.getD k p0).kind=8\/(n.c8.getD k p0).kind=9
 ·have f:=R.Qt hk h8;unfold du;dsimp only;have e1:¬kindOf (n.c8.getD k p0).kind= .M:=fun e=>h3 ((iy pn.k0 pn.k1).1.mp e)
  have e2:Wh.refCount (kindOf (n.c8.getD k p0).kind)=1:=by rcases h8 with h |h <;>rw[h] <;>rfl
  rw[af e1,ah e2];show(n.c8.getD k p0).c.toNat<=_;lia
 ·unfold du;dsimp only;have e1:¬kindOf (n.c8.getD k p0).kind= .M:=fun e=>h3 ((iy pn.k0 pn.k1).1.mp e)
  have e2:¬Wh.refCount (kindOf (n.c8.getD k p0).kind)=1:=by
   rcases oj pn.k0 pn.k1 with h |h |h |h |h |h |h |h |h |h |h |h |h |h <;>first |lia |(rw[h];decide)
  rw[af e1,af e2];exact aL _
theorem MB{n:Nw}(R:Right n){ps:List Part}(hs:∀p∈ps,Src n.last p)(r:List Nat){k:Nat}(hk:k<n.c8.length):(de (more n ps)).lawsOf ((de (more n ps)).rest r) k (du (n.c8.getD k p0))=(de n).lawsOf ((de n).rest r) k (du (n.c8.getD k p0)):=by
 have a1:=xD n ps (b5 hk);have nm:=OP n ps hk;have cp:=Gp hs k;have cm:((de n).coupled k).map (fun(p:Nat×Rat)=>((de (more n ps)).at_ p.1,-p.2))=((de n).coupled k).map (fun(p:Nat×Rat)=>((de n).at_ p.1,-p.2)):=aY fun x hx=>by
  rw[xD n ps (JZ R hx)]
 have pn:=R.p hk;by_cases h3:(n.c8.getD k p0).kind=3
 ·have e:(du (n.c8.getD k p0)).kind= .M:=(iy pn.k0 pn.k1).1.mpr h3;unfold Wh.Net.lawsOf;dsimp only;rw[e]
 ·have a2:=xD n ps (QJ R hk h3);unfold Wh.Net.lawsOf Wh.Net.rest;dsimp only;rw[a1,a2,nm,cp,cm]
theorem Bu{α:Type}{l m:List α}{d:α}{k:Nat}(h:k<l.length):(l ++ m).getD k d=l.getD k d:=by
 rw[gDe,gDe,bZ h]
theorem xE{α:Type}{l m:List α}{d:α}{k:Nat}(h:l.length<=k):(l ++ m).getD k d=m.getD (k - l.length) d:=by
 rw[gDe,gDe,bw h]
theorem Gq{α β:Type}{f g:α->List β}:∀{l:List α},(∀x∈l,f x=g x)->l.flatMap f=l.flatMap g
 |[],_=>rfl
 |x::l,h=>by rw[bb,bb,h x ax,Gq fun y m=>h y (ak _ m)]
theorem OQ{n:Nw}{ps:List Part}{k:Nat}(hk:k<=n.c8.length)(v:Nat)(x:Wh.Elem):(de (more n ps)).outOf v k x=(de n).outOf v k x:=by
 unfold Wh.Net.outOf;rw[xD n ps hk]
theorem Lz(φ:Nat->PF):∀{l:List (Nat×Rat)},(∀t∈l,φ t.1=0)->Rv φ l=0
 |[],_=>rfl
 |t::l,h=>by
  show PF.const t.2*φ t.1+Rv φ l=0;rw[h t ax,Lz φ fun t m=>h t (ak _ m)];grind
section
variable {n:Nw}(R:Right n){p:Part}(hp:Src n.last p)(h5:p.kind=5)
include R hp h5
theorem Vm:(de (more n [p])).unknowns=(de n).unknowns+1:=by
 rw[Ie n [p]];unfold Wh.Net.unknowns Wh.Net.at_;show(more n [p]).last.toNat+Wh.sumNat ((((n.c8 ++ [p]).map du).take ((n.c8 ++ [p]).map du).length).map Wh.Elem.currents)=(more n [p]).last.toNat+Wh.sumNat ((((n.c8 ++ [p]).map du).take n.c8.length).map Wh.Elem.currents)+1;rw[aG,aO,cG (by rw[lMp];exact ai _),bg (by rw[lMp];exact ai _),aO];unfold Wh.sumNat;rw[cN];show _+ ((List.foldl (fun a b=>a+b) 0 ((n.c8.map du).map Wh.Elem.currents))+(du p).currents)=_;have e:(du p).currents=1:=by
  unfold Wh.Elem.currents;have ek:(du p).kind=kindOf p.kind:=rfl;rw[ek,h5];rfl
 rw[e];lia
theorem Up(r:List Nat):∃A B A':List Wh.Law,(de n).laws ((de n).rest r)=A ++ B/\(de (more n [p])).laws ((de (more n [p])).rest r)=A' ++ (B ++ [⟨[((de n).unknowns,1)],[],(de (more n [p])).numAt n.c8.length⟩])/\A'.length=A.length/\
  ∀i,i<A.length->∃T T':List (Nat×Rat),A.getD i L0=⟨T,[],0⟩/\A'.getD i L0=⟨T ++ T',[],0⟩/\∀t∈T',t.1=(de n).unknowns:=by
 have lm:(more n [p]).c8.length=n.c8.length+1:=by
  show(n.c8 ++ [p]).length=_;rw[ay];rfl
 have gl:∀k,k<n.c8.length->(more n [p]).c8.getD k p0=n.c8.getD k p0:=fun k hk=>Cz hk
 have gp:(more n [p]).c8.getD n.c8.length p0=p:=by
  show(n.c8 ++ [p]).getD _ _=_;rw[zm (ai _),cf];rfl
 have ix:(de (more n [p])).indexed=(de n).indexed ++ [(n.c8.length,du p)]:=by
  rw[fB,fB,lm,bY,aO,List.map_singleton,gp];congr 1;exact aY fun k hk=>by rw[gl k (aT.mp hk)]
 have um:(de (more n [p])).at_ n.c8.length=(de n).unknowns:=(Ie n [p]).symm;have ek:(du p).kind= .I:=by
  have ek:(du p).kind=kindOf p.kind:=rfl;rw[ek,h5];rfl
 have mem:∀q∈(de n).indexed,q.1<n.c8.length/\q.2=du (n.c8.getD q.1 p0):=fun q hq=>by
  rw[fB] at hq;obtain⟨k,hk,rfl⟩:=aN.mp hq;exact⟨aT.mp hk,rfl⟩
 refine⟨_,_,(List.range (de (more n [p])).nodes).map fun(v:Nat)=>⟨(de (more n [p])).indexed.flatMap fun(q:Nat×Wh.Elem)=>(de (more n [p])).outOf (v+1) q.1 q.2,[],0⟩,rfl,?_,?_,?_⟩
 ·unfold Wh.Net.laws;congr 1;rw[ix,bS];congr 1
  ·exact Gq fun q hq=>by
    obtain⟨h1,h2⟩:=mem q hq;rw[h2];refine MB R (fun x hx=> ?_) r h1;rw[au.mp hx];exact hp
  ·rw[List.flatMap_singleton];unfold Wh.Net.lawsOf;dsimp only;rw[ek,um];rfl
 ·rw[lMp,lMp];rfl
 ·intro i hi;rw[lMp,bF] at hi;refine⟨(de n).indexed.flatMap fun q=>(de n).outOf (i+1) q.1 q.2,(de (more n [p])).outOf (i+1) n.c8.length (du p),?_,?_,?_⟩
  ·exact kj _ _ _ _ hi
  ·refine(kj _ _ _ _ (show i<(de (more n [p])).nodes from hi)).trans ?_;rw[ix,bS,List.flatMap_singleton];congr 2;exact Gq fun q hq=>OQ (b5 (mem q hq).1) _ _
  ·intro t ht;unfold Wh.Net.outOf at ht;dsimp only at ht;rw[ek,af (by decide),af (by decide),um] at ht;rcases aK.mp ht with h |h
   ·split at h
    ·rw[au.mp h]
    ·cases h
   ·split at h
    ·rw[au.mp h]
    ·cases h
theorem QK(r:List Nat):det (de (more n [p])).unknowns (Sm (more n [p]) ((de (more n [p])).rest r) 0)=det (de n).unknowns (Sm n ((de n).rest r) 0):=by
 obtain⟨A,B,A',e1,e2,la,hA⟩:=Up R hp h5 r;have u:=Vm R hp h5;have ll:=iz n ((de n).rest r);rw[e1,ay] at ll;rw[u];have eiz:∀j m:Nat,j<m->(ei j:Nat->PF) m=0:=fun j m h=>tO (by lia)
 rw[BK]
 ·refine eH _ fun i j hi hj=> ?_
  unfold Sm;rw[e1,e2,u];by_cases h:i<A.length
  ·obtain⟨T,T',t1,t2,t3⟩:=hA i h;rw[Bu h,Bu (by lia),t1,t2];unfold Lv;dsimp only;rw[hC,Lz (ei j) (l:=T') (fun t ht=>by rw[t3 t ht];exact eiz j _ hj),eiz j _ hj,eiz j _ (by lia)];grind
  ·have g1:(A' ++ (B ++ [(⟨[((de n).unknowns,1)],[],(de (more n [p])).numAt n.c8.length⟩:Wh.Law)])).getD i L0=B.getD (i - A.length) L0:=by
    rw[xE (by lia),la,Bu (by lia)]
   have g2:(A ++ B).getD i L0=B.getD (i - A.length) L0:=xE (by lia);rw[g1,g2];unfold Lv;rw[eiz j _ hj,eiz j _ (by lia)]
   all_goals grind
 ·intro j hj;unfold Sm;have g1:(A' ++ (B ++ [(⟨[((de n).unknowns,1)],[],(de (more n [p])).numAt n.c8.length⟩:Wh.Law)])).getD (de n).unknowns L0=(⟨[((de n).unknowns,1)],[],(de (more n [p])).numAt n.c8.length⟩:Wh.Law):=by
   rw[xE (by lia),xE (by lia),show(de n).unknowns - A'.length - B.length=0 by lia];rfl
  rw[e2,u,g1];show Lv (ei j) 0 ((de n).unknowns+1) ⟨[((de n).unknowns,1)],[],_⟩=ei (de n).unknowns j;unfold Lv;dsimp only;rw[eiz j _ (by lia)];show(PF.const 1*(ei j:Nat->PF) (de n).unknowns+0)+0*0+_* 0=_;have es:(ei j:Nat->PF) (de n).unknowns=ei (de n).unknowns j:=by
   unfold ei;by_cases e:j=(de n).unknowns
   ·rw[ah e,ah e.symm]
   ·rw[af e,af (fun z=>e z.symm)]
  rw[es,fX];grind
end
noncomputable def fG (kind a b top:Int):Part:=⟨kind,a,b,0,0,top,1⟩
noncomputable def Ig (n:Nw) (st:List Bool) (into:Int×Int):lh:=gG (more n [fG 5 into.2 into.1 0]) (st ++ [false]) (n.c8.length:Int)
noncomputable def EZ (s:dQ×List dQ) (ac:Int×Int):List Int:=n8 (jE s ac.1 ac.2) s.1
noncomputable def mO (n:Nw) (st:List Bool) (x y:Int×Int) (col:Int):lh:=gG (more n [fG 4 x.1 x.2 0,fG 4 y.1 y.2 0]) (st ++ [false,false]) ((n.c8.length:Int)+col)
noncomputable def AA (n:Nw) (st:List Bool) (x y:Int×Int) (row col:Int):Option (List Int):=match sol (rows (mO n st x y col)) with
 |none=>none
 |some s=>some (n8 (Eo (ig (mO n st x y col) s (n.c8.length+row.toNat))) s.1)
noncomputable def pick (x y:Int×Int) (k:Int):Int×Int:=if k=0 then x else y
noncomputable def port (kind row col:Int) (dZ nodes:List Int):List Int:=
 if(1<kind\/1<row\/1<col)\/nodes.length≠4 then[-1]
 else if fN dZ≠[] then fN dZ
 else if nodes.any (fun v=>decide ((dG dZ).last<v))=true then[-3]
 else match point (dG dZ) with
  |none=>[-4]
  |some pt=>
   if kind=0 then match sol (rows (Ig (dG dZ) pt.1 (pick (nodes.getD 0 0,nodes.getD 1 0) (nodes.getD 2 0,nodes.getD 3 0) col))) with
    |none=>[]
    |some s=>0::EZ s (pick (nodes.getD 0 0,nodes.getD 1 0) (nodes.getD 2 0,nodes.getD 3 0) row)
   else match AA (dG dZ) pt.1 (nodes.getD 0 0,nodes.getD 1 0) (nodes.getD 2 0,nodes.getD 3 0) row col with
    |none=>[-5]
    |some l=>0::l
theorem vV{last kind a b top:Int}(hk:kind=4\/kind=5)(a0:0<=a)(b0:0<=b)(al:a<=last)(bl:b<=last)(ht:top=0\/top=1):Src last (fG kind a b top):=
 ⟨hk,⟨by show 0<=kind;lia,by show kind<=13;lia,a0,b0,by show(0:Int)<=0;lia,by show(0:Int)<=0;lia,by show top.natAbs<=1000000;lia,by show(1:Int)<=1;lia,by show(1:Int)<=1000000;lia⟩,al,bl⟩
theorem OR(kind a b t u:Int)(hk:kind=4\/kind=5):xC (fG kind a b t) (fG kind a b u):= .inr ⟨hk,rfl,rfl,rfl,rfl,rfl⟩
theorem LA{n m:Nw}(hl:m.last=n.last)(h:gP n.c8 m.c8)(st:List Bool)(src:Int):rows (gG m st src)=rows (gG n st src):=by
 unfold gG;rw[h.len];exact SH hl h _ _ _
theorem Bv{len j:Nat}{st:List Bool}{r:List Nat}(h:nI 0 len st r):nI 0 (len+j) (st ++ List.replicate j false) r:=by
 obtain⟨h1,h2,h3⟩:=h;refine⟨by rw[ay,aP,h1],h2,fun k hk=> ?_⟩;rw[h3 k hk];by_cases hl:k - 0<st.length
 ·rw[Bu hl]
 ·rw[xE (by lia)];rw[gDe,gDe,aE (by lia)];cases e:(List.replicate j false)[k - 0 - st.length]? with
  |none=>rfl
  |some b=>rw[List.eq_of_mem_replicate (aB e)];rfl
theorem SI(c d:Int):du (fG 5 d c 1)=WhB.currentInto c.toNat d.toNat:=by
 unfold du fG WhB.currentInto;show(⟨.I,[d.toNat,c.toNat],[],((1:Int):Rat) / ((1:Int):Rat)⟩:Wh.Elem)=_;congr 1;have e:((1:Int):Rat)=1:=rfl;rw[e];grind
theorem OS(a b t:Int):du (fG 4 a b t)=WhB.voltBetween a.toNat b.toNat (t:Rat):=by
 unfold du fG WhB.voltBetween;show(⟨.V,[a.toNat,b.toNat],[],(t:Rat) / ((1:Int):Rat)⟩:Wh.Elem)=_;congr 1;have e:((1:Int):Rat)=1:=rfl;rw[e];grind
theorem AB(N:Wh.Net)(r:List Nat)(l:List Wh.Elem)(e:Nat)(h:∀k,(l[k]?.map fun x=>x.q).getD 0=if k=e then(1:Rat) else 0):WhB.drives N r l=Wh.alone r (N.elems.length+e):=by
 unfold WhB.drives Wh.alone;congr 1;funext k;by_cases hk:k<N.elems.length
 ·rw[ah hk,af (by lia)]
 ·rw[af hk];unfold Wh.Net.numAt WhB.with_;dsimp only;rw[bw (by lia),h];by_cases q:k - N.elems.length=e
  ·rw[ah q,ah (by lia)]
  ·rw[af q,af (by lia)]
theorem Gr{l:List Int}(h:fN l=[]):(dG l).c8.length<=10:=by
 unfold fN at h;cases e:nu l with
 |false=>rw[e,ah rfl] at h;cases h
 |true=>exact(Ov e).c8
theorem AD{n:Nw}(R:Right n){st:List Bool}{r:List Nat}{src:Int}{d:dQ}{tops:List dQ}(D:Rm n st r src d tops){q:Rat}(ht:∀c,c<(de n).unknowns->dF (tops.getD c [])=PF.const q*fj ((de n).numerator (Wh.alone r src.toNat) c)){a b:Int}(a0:0<=a)(al:a<=n.last)(b0:0<=b)(bl:b<=n.last):
  Trim (jE (d,tops) a b)/\dF (jE (d,tops) a b)=PF.const q*fj (Wh.subPoly ((de n).voltageOver (Wh.alone r src.toNat) a.toNat) ((de n).voltageOver (Wh.alone r src.toNat) b.toNat)):=by
 obtain⟨t1,e1⟩:=Az R D ht a0 al;obtain⟨t2,e2⟩:=Az R D ht b0 bl;unfold jE;refine⟨uS _ _,?_⟩;rw[qU,e1,e2,F3];grind
theorem Rw{n:Nw}{st:List Bool}{r:List Nat}{src:Int}{d:dQ}{tops:List dQ}(D:Rm n st r src d tops){q:Rat}(hd:dF d=PF.const q*fj ((de n).determinant (Wh.alone r src.toNat))):¬Wh.isZero ((de n).determinant (Wh.alone r src.toNat))=true:=fun z=>by
 have:=(lN _).mp z;rw[this] at hd;exact rG D.xf D.Sh (by rw[hd];grind)
theorem Uq{n:Nw}(R:Right n)(h10:n.c8.length<=10){st:List Bool}{r:List Nat}(hst:nI 0 n.c8.length st r)(D0:(det (de n).unknowns (Sm n ((de n).rest r) 0)).f 0≠0){a b c d:Int}(a0:0<=a)(al:a<=n.last)(b0:0<=b)(bl:b<=n.last)(c0:0<=c)(cl:c<=n.last)(d0:0<=d)(dl:d<=n.last):
  ∃e tops,sol (rows (Ig n st (c,d)))=some (e,tops)/\Rm (more n [fG 5 d c 1]) (st ++ [false]) r (n.c8.length:Int) e tops/\WhBNeutral.shown (WhB.ofQuotient (WhB.zOf (de n) r a.toNat b.toNat c.toNat d.toNat))=0::EZ (e,tops) (a,b):=by
 have hs:∀p∈[fG 5 d c 1],Src n.last p:=fun p hp=>by
  rw[au.mp hp];exact vV (.inr rfl) d0 c0 dl cl (.inr rfl)
 have R':=ow R h10 (ps:=[fG 5 d c 1]) (by show 1<=2;decide) hs;have lm:(more n [fG 5 d c 1]).c8.length=n.c8.length+1:=by
  show(n.c8 ++ [_]).length=_;rw[ay];rfl
 have hst':nI 0 (more n [fG 5 d c 1]).c8.length (st ++ [false]) r:=by
  rw[lm];exact Bv (j:=1) hst
 have D0':(det (de (more n [fG 5 d c 1])).unknowns (Sm (more n [fG 5 d c 1]) ((de (more n [fG 5 d c 1])).rest r) 0)).f 0≠0:=by
  rw[QK R (hs _ (au.mpr rfl)) rfl r];exact D0
 have is:sH (more n [fG 5 d c 1]) (n.c8.length:Int)=true:=by
  unfold sH kindAt;rw[lm,a8];show(decide _&&decide (((n.c8 ++ [fG 5 d c 1]).getD n.c8.length p0).kind=4\/((n.c8 ++ [fG 5 d c 1]).getD n.c8.length p0).kind=5))=true;rw[zm (ai _),cf];rw[aj (by lia)];rfl
 obtain⟨e,tops,es,D⟩:=JS R' hst' D0' (cw _) is;obtain⟨q,q0,hd,ht⟩:=D.ex;have er:rows (Ig n st (c,d))=rows (gG (more n [fG 5 d c 1]) (st ++ [false]) (n.c8.length:Int)):=LA (n:=more n [fG 5 d c 1]) (m:=more n [fG 5 d c 0]) rfl ((gP.refl _).app (.cons (OR 5 d c 1 0 (.inr rfl)) .nil)) _ _;refine⟨e,tops,by rw[er];exact es,D,?_⟩;obtain⟨tT,eT⟩:=AD R' D ht a0 al b0 bl;have nz:=Rw D hd;have em:de (more n [fG 5 d c 1])=WhB.with_ (de n) [WhB.currentInto c.toNat d.toNat]:=by
  rw[CA,List.map_singleton,SI]
 have eg:WhB.drives (de n) r [WhB.currentInto c.toNat d.toNat]=Wh.alone r ((n.c8.length:Int)).toNat:=by
  rw[AB (de n) r _ 0 (fun k=>by cases k <;>rfl),a8];show Wh.alone r ((n.c8.map du).length+0)=_;rw[lMp];rfl
 unfold WhB.zOf WhB.over;dsimp only;rw[eg,<-em,af nz];show 0::(WhB.polyTold _ ++ WhB.polyTold _)=_;unfold EZ;dsimp only;rw[Lc tT D.xf D.Sh q0 eT hd]
noncomputable def oZ (n:Nw) (x y:Int×Int) (col:Int):Nw:=more n [fG 4 x.1 x.2 (if col=0 then 1 else 0),fG 4 y.1 y.2 (if col=1 then 1 else 0)]
theorem LC{n:Nw}(R:Right n)(h10:n.c8.length<=10){x y:Int×Int}(col:Int)(x1:0<=x.1/\x.1<=n.last)(x2:0<=x.2/\x.2<=n.last)(y1:0<=y.1/\y.1<=n.last)(y2:0<=y.2/\y.2<=n.last):Right (oZ n x y col):=by
 refine ow R h10 (by show 2<=2;decide) fun p hp=> ?_
 rcases aH.mp hp with e |hp
 ·rw[e];exact vV (.inl rfl) x1.1 x2.1 x1.2 x2.2 (by split <;>simp)
 ·rw[au.mp hp];exact vV (.inl rfl) y1.1 y2.1 y1.2 y2.2 (by split <;>simp)
theorem Ur(n:Nw)(x y:Int×Int)(col:Int):(oZ n x y col).c8.length=n.c8.length+2:=by
 show(n.c8 ++ [_,_]).length=_;rw[ay];rfl
theorem OT(n:Nw)(x y:Int×Int)(col:Int){k:Nat}(hk:k<2):((oZ n x y col).c8.getD (n.c8.length+k) p0).kind=4:=by
 show((n.c8 ++ [_,_]).getD (n.c8.length+k) p0).kind=4;rw[zm (by lia),show n.c8.length+k - n.c8.length=k by lia];have:k=0\/k=1:=by lia
 rcases this with rfl |rfl <;>rfl
theorem y_eq{n:Nw}(R:Right n)(h10:n.c8.length<=10){st:List Bool}{r:List Nat}(hst:nI 0 n.c8.length st r){x y:Int×Int}{row col:Int}(x1:0<=x.1/\x.1<=n.last)(x2:0<=x.2/\x.2<=n.last)(y1:0<=y.1/\y.1<=n.last)(y2:0<=y.2/\y.2<=n.last)(r0:0<=row)(r1:row<=1)(c0:0<=col)(c1:col<=1):
  (∀e tops,sol (rows (mO n st x y col))=some (e,tops)->Rm (oZ n x y col) (st ++ [false,false]) r ((n.c8.length:Int)+col) e tops)/\
  WhBNeutral.shown (WhB.ofQuotient (WhB.yOf (de n) r [x.1.toNat,x.2.toNat,y.1.toNat,y.2.toNat] row.toNat col.toNat))=match AA n st x y row col with
   |none=>[-5]
   |some l=>0::l:=by
 have R':=LC R h10 col x1 x2 y1 y2;have lm:=Ur n x y col;have hst':nI 0 (oZ n x y col).c8.length (st ++ [false,false]) r:=by
  rw[lm];exact Bv (j:=2) hst
 have en:((n.c8.length:Int)+col).toNat=n.c8.length+col.toNat:=by lia
 have is:sH (oZ n x y col) ((n.c8.length:Int)+col)=true:=by
  unfold sH kindAt;rw[lm,en,OT n x y col (by lia),aj (by lia)];rfl
 have S:=ot R' hst' (by lia) is;have er:rows (mO n st x y col)=rows (gG (oZ n x y col) (st ++ [false,false]) ((n.c8.length:Int)+col)):=LA (n:=oZ n x y col) (m:=more n [fG 4 x.1 x.2 0,fG 4 y.1 y.2 0]) rfl ((gP.refl _).app (.cons (OR 4 _ _ _ _ (.inl rfl)) (.cons (OR 4 _ _ _ _ (.inl rfl)) .nil))) _ _;have sp:=Cn R' S;have X0:dF (gG (oZ n x y col) (st ++ [false,false]) ((n.c8.length:Int)+col)).s=XX:=rfl;rw[X0,<-er] at sp;have mk:∀e tops,sol (rows (mO n st x y col))=some (e,tops)->Rm (oZ n x y col) (st ++ [false,false]) r ((n.c8.length:Int)+col) e tops:=fun e tops he=>by
  rcases sp with⟨d,tops',e',tl,td,dn,tt,q,hq,hd,ht⟩ |⟨e',_⟩
  ·rw[he] at e';cases e'
   refine⟨tl,td,dn,tt,q,hq,?_,fun c hc=> ?_⟩
   ·rw[hd,oo R']
   ·rw[ht c hc,xx R' _ hc]
  ·rw[he] at e';cases e'
 refine⟨mk,?_⟩;have cc:col=0\/col=1:=by lia
 have em:de (oZ n x y col)=WhB.with_ (de n) [WhB.voltBetween x.1.toNat x.2.toNat (if col.toNat=0 then 1 else 0),WhB.voltBetween y.1.toNat y.2.toNat (if col.toNat=1 then 1 else 0)]:=by
  unfold oZ;rw[CA,aJ,List.map_singleton,OS,OS];rcases cc with h |h <;>rw[h] <;>rfl
 have eg:WhB.drives (de n) r [WhB.voltBetween x.1.toNat x.2.toNat (if col.toNat=0 then 1 else 0),WhB.voltBetween y.1.toNat y.2.toNat (if col.toNat=1 then 1 else 0)]=Wh.alone r ((n.c8.length:Int)+col).toNat:=by
  rw[AB (de n) r _ col.toNat (fun k=> ?_),en]
  ·show Wh.alone r ((n.c8.map du).length+_)=_;rw[lMp]
  ·rcases cc with h |h <;>rw[h] <;>match k with
    |0=>rfl
    |1=>rfl
    |k+2=>rfl
 unfold WhB.yOf WhB.over AA;show WhBNeutral.shown (WhB.ofQuotient (if Wh.isZero ((WhB.with_ (de n) [WhB.voltBetween x.1.toNat x.2.toNat (if col.toNat=0 then 1 else 0),WhB.voltBetween y.1.toNat y.2.toNat (if col.toNat=1 then 1 else 0)]).determinant (WhB.drives (de n) r [WhB.voltBetween x.1.toNat x.2.toNat (if col.toNat=0 then 1 else 0),WhB.voltBetween y.1.toNat y.2.toNat (if col.toNat=1 then 1 else 0)]))=true then none else some (Wh.quotient (Wh.scalePoly (-1) ((WhB.with_ (de n) [WhB.voltBetween x.1.toNat x.2.toNat (if col.toNat=0 then 1 else 0),WhB.voltBetween y.1.toNat y.2.toNat (if col.toNat=1 then 1 else 0)]).numerator (WhB.drives (de n) r [WhB.voltBetween x.1.toNat x.2.toNat (if col.toNat=0 then 1 else 0),WhB.voltBetween y.1.toNat y.2.toNat (if col.toNat=1 then 1 else 0)]) ((WhB.with_ (de n) [WhB.voltBetween x.1.toNat x.2.toNat (if col.toNat=0 then 1 else 0),WhB.voltBetween y.1.toNat y.2.toNat (if col.toNat=1 then 1 else 0)]).at_ ((de n).elems.length+row.toNat)))) ((WhB.with_ (de n) [WhB.voltBetween x.1.toNat x.2.toNat (if col.toNat=0 then 1 else 0),WhB.voltBetween y.1.toNat y.2.toNat (if col.toNat=1 then 1 else 0)]).determinant (WhB.drives (de n) r [WhB.voltBetween x.1.toNat x.2.toNat (if col.toNat=0 then 1 else 0),WhB.voltBetween y.1.toNat y.2.toNat (if col.toNat=1 then 1 else 0)])))))=_;rw[eg,<-em];have el:(de n).elems.length=n.c8.length:=lMp ..;rw[el];cases hsol:sol (rows (mO n st x y col)) with
 |none=>
  rcases sp with⟨d,tops',e',_⟩ |⟨_,z,_⟩
  ·rw[hsol] at e';cases e'
  ·have:Wh.isZero ((de (oZ n x y col)).determinant (Wh.alone r ((n.c8.length:Int)+col).toNat))=true:=(lN _).mpr (by rw[oo R'];exact z);rw[ah this];rfl
 |some s=>
  obtain⟨e,tops⟩:=s;have D:=mk e tops hsol;obtain⟨q,q0,hd,ht⟩:=D.ex;have nz:=Rw D hd;rw[af nz];have hk:n.c8.length+row.toNat<(oZ n x y col).c8.length:=by lia
  have pl:=R'.place hk;have al:=uh R' hk (by rw[OT n x y col (by lia)];decide);have ct:ig (mO n st x y col) (e,tops) (n.c8.length+row.toNat)=tops.getD ((de (oZ n x y col)).at_ (n.c8.length+row.toNat)) []:=by
   unfold ig;have ep:places (mO n st x y col).dZ=places (oZ n x y col):=by
    show places (more n [fG 4 x.1 x.2 0,fG 4 y.1 y.2 0])=places (oZ n x y col);unfold places;exact Cy (l:=(oZ n x y col).c8) ((gP.refl _).app (.cons (OR 4 _ _ _ _ (.inl rfl)) (.cons (OR 4 _ _ _ _ (.inl rfl)) .nil))) _
   rw[ep,pl,a8]
  dsimp only;rw[ct];have eT:dF (Eo (tops.getD ((de (oZ n x y col)).at_ (n.c8.length+row.toNat)) []))=PF.const q*fj (Wh.scalePoly (-1) ((de (oZ n x y col)).numerator (Wh.alone r ((n.c8.length:Int)+col).toNat) ((de (oZ n x y col)).at_ (n.c8.length+row.toNat)))):=by
   rw[Bk,ht _ al,uW];have:PF.const (-1)= -1:=by
    have e:=fX;exact PF.ext fun _=>rfl
   rw[this];grind
  rw[Lc (Hv (D.trim _ al)) D.xf D.Sh q0 eT hd];rfl
theorem QL{kind row col:Int}(k0:0<=kind)(r0:0<=row)(c0:0<=col)(l nodes:List Int)(n0:∀v∈nodes,0<=v):port kind row col l nodes=PyWrwirb.port kind row col l nodes:=by
 have e:PyWrwirb.port kind row col l nodes=WhBNeutral.shown (WhB.answer (.port kind.toNat row.toNat col.toNat l (nodes.map Int.toNat))):=rfl;rw[e];unfold WhB.answer;dsimp only;unfold port;by_cases h1:(1<kind\/1<row\/1<col)\/nodes.length≠4
 ·have h2:1<kind.toNat\/1<row.toNat\/1<col.toNat\/(nodes.map Int.toNat).length≠4:=by
   rw[lMp];lia
  rw[ah h1,ah h2];rfl
 have h2:¬(1<kind.toNat\/1<row.toNat\/1<col.toNat\/(nodes.map Int.toNat).length≠4):=by
  rw[lMp];lia
 rw[af h1,af h2,OC];by_cases hr:fN l=[]
 rotate_left
 ·rw[ah hr,ah hr]
 rw[af (fun z:fN l≠[]=>z hr),af (fun z:fN l≠[]=>z hr)];obtain⟨R,iI⟩:=right_of hr;have h10:=Gr hr;have ea:((nodes.map Int.toNat).any fun(v:Nat)=>decide ((de (dG l)).nodes<v))=nodes.any fun v=>decide ((dG l).last<v):=by
  rw[List.any_map,a6,bJ,bJ];have hn:=R.nodes;constructor
  ·rintro⟨v,hv,h⟩;have h:decide ((de (dG l)).nodes<v.toNat)=true:=h;have:=az h;exact⟨v,hv,aj (by lia)⟩
  ·rintro⟨v,hv,h⟩;have:=az h;refine⟨v,hv,?_⟩;show decide ((de (dG l)).nodes<v.toNat)=true;exact aj (by have:=n0 v hv;lia)
 rw[ea];by_cases ha:nodes.any (fun v=>decide ((dG l).last<v))=true
 ·rw[ah ha,ah ha];rfl
 rw[af ha,af ha];have l4:nodes.length=4:=by lia
 match nodes,l4,n0,ha with
 |[v0,v1,v2,v3],_,n0,ha=>
 have le:∀v∈[v0,v1,v2,v3],0<=v/\v<=(dG l).last:=fun v hv=>⟨n0 v hv,by
  have:¬(dG l).last<v:=fun z=>ha (bJ.mpr ⟨v,hv,aj z⟩)
  lia⟩
 have g0:=le v0 (by simp);have g1:=le v1 (by simp);have g2:=le v2 (by simp);have g3:=le v3 (by simp);unfold WhB.ofPoint;have pr:=ES R;cases hp:point (dG l) with
 |none=>
  rw[hp] at pr;cases hP:(de (dG l)).point with
  |none=>rfl
  |some y=>rw[hP] at pr;exact pr.elim
 |some p=>
  rw[hp] at pr;cases hP:(de (dG l)).point with
  |none=>rw[hP] at pr;exact pr.elim
  |some y=>
   rw[hP] at pr;obtain⟨_,hst,D0⟩:=pr;dsimp only;by_cases hk:kind=0
   ·rw[ah hk,ah (by lia)];have pz:∀w:Int,0<=w->w<=1->∃a b:Int,pick (v0,v1) (v2,v3) w=(a,b)/\(0<=a/\a<=(dG l).last)/\(0<=b/\b<=(dG l).last)/\([v0,v1,v2,v3].map Int.toNat).getD (2*w.toNat) 0=a.toNat/\([v0,v1,v2,v3].map Int.toNat).getD (2*w.toNat+1) 0=b.toNat:=fun w w0 w1=>by
     have:w=0\/w=1:=by lia
     rcases this with rfl |rfl
     ·exact⟨v0,v1,rfl,g0,g1,rfl,rfl⟩
     ·exact⟨v2,v3,rfl,g2,g3,rfl,rfl⟩
    obtain⟨a,b,ea,ha,hb,i1,i2⟩:=pz row r0 (by lia);obtain⟨c,d,ec,hc,hd,j1,j2⟩:=pz col c0 (by lia);obtain⟨e,tops,es,_,ez⟩:=Uq R h10 hst D0 ha.1 ha.2 hb.1 hb.2 hc.1 hc.2 hd.1 hd.2;show(match sol (rows (Ig (dG l) p.1 (pick (v0,v1) (v2,v3) col))) with
     |none=>[]
     |some s=>0::EZ s (pick (v0,v1) (v2,v3) row))=_
    rw[ea,ec,es,i1,i2,j1,j2];exact ez.symm
   ·rw[af hk,af (by lia)];have ye:=(y_eq R h10 hst (x:=(v0,v1)) (y:=(v2,v3)) (row:=row) (col:=col) g0 g1 g2 g3 r0 (by lia) c0 (by lia)).2;exact ye.symm
end c9
namespace Hj
open PySem PySem.Spec PyProof.Rows L2
noncomputable def top (i:Nat):Stmt:=PySem.Challenge.pw_wirequotients_s04_port.main.body.getD i (.Pass ⟨0,0,0,0⟩)
structure Txt(mg:Str->Option Value):Prop where
 gV:mg "len"=none
 CB:mg "list"=none
 Ih:mg "max"=none
 OU:mg "sum"=none
 Ii:mg "all"=none
 LD:mg "any"=none
 Ij:mg "abs"=none
 jY:mg "range"=none
 hZ:mg "enumerate"=none
 OV:mg "zip"=none
 vW:mg "reversed"=none
noncomputable def fE (H:Hp) (v:V) (l:List Int):Prop:=∃a,v= .ref a/\H a=some (.lst (l.map V.int))
theorem fE.same{H H':Hp}{v:V}{l:List Int}(h:fE H v l)(s:dJ H H'):fE H' v l:=let ⟨a,e,q⟩:=h;⟨a,e,s _ _ q⟩
noncomputable def o9 (H:Hp) (Q:VK) (l:List Int):Prop:=∀p H',H p=none->dJ H H'->H' p=some (.lst (l.map V.int))->Q (.ref p) H'
theorem o9.of{H H1:Hp}{Q:VK}{l:List Int}(k:o9 H Q l)(s:dJ H H1):o9 H1 Q l:=fun p H' hp s' e=>k p H' (s.free hp) (s.trans s') e
section
variable {P:Program}{w:World}{K:PySem.W.Frag}{mg:Str->Option Value}{base:Heap}
noncomputable abbrev vX:Stmt:=top 17
theorem Ik:dD ["x"] ["x"] (dk vX):=sco
noncomputable def pW:Sp:=fun vs H Q _=>∃x:Int,vs=[.int x]/\o9 H Q (c9.cst x)
theorem Il(G:iN K mg "constant" vX ["x"]):eV P w K mg base "constant" ["x"] 1 pW:=by
 have sc:=Ik;refine G.i8 sc fun f cdv A outer s H vs Q E hr h=> ?_
 obtain⟨x,rfl,k⟩:=h;refine⟨rfl,_,(dj (dC (mH (eJ Ae (pv 0) dz (eF _)) (dO (c7 (pv 0) dc)) (dO dc)))),?_⟩;refine⟨_,rfl,rfl,_,rfl,?_⟩;by_cases hx:x=0
 ·subst hx;refine Rg rfl ?_;exact⟨aL _,fun p hp=>k p _ hp (dt hp) dh⟩
 ·have e:(!decide (V.int x=V.int 0))=true:=by simp[hx]
  rw[e];refine eZ ⟨_,rfl,di (by simp),fun p hp=>k p _ hp (dt hp) ?_⟩;rw[dh];unfold c9.cst;rw[af hx];rfl
noncomputable abbrev zo:Stmt:=top 16
theorem J0:dD ["coefficients","length"] ["coefficients"] (dk zo):=sco
noncomputable def CC:Sp:=fun vs H Q _=>∃v c,vs=[v]/\fE H v c/\o9 H Q (c9.Jv c)
theorem J1(T:Txt mg)(G:iN K mg "trimmed" zo ["coefficients"]):eV P w K mg base "trimmed" ["coefficients"] 1 CC:=by
 have sc:=J0;refine G.i8 sc fun f cdv A outer s H vs Q E hr h=> ?_
 obtain⟨v,c,rfl,⟨a,rfl,ha⟩,k⟩:=h;refine⟨rfl,_,(df (dX (i:=1) sc.nd (d5 (eK K) rfl T.gV d9 (c7 (pv 0) dc)))
   (df (wR PassesOwn.never (PW.pt (Jb (eJ vm (pv 1) dz (eF _)) (Ft (eJ iV (dW (i0 K) (pv 0) (eO nX (pv 1) dz) (fun _ _=>rfl)) dz (eF _))))) (dj (Jd (i:=1) sc.nd rfl (Or.inl rfl) dz Np)))
   (dj (dC (tu (Ua K) (pv 0) Fy (rh (pv 1))))))),?_⟩
 refine⟨_,rfl,a,_,rfl,.inl (.of ha),?_⟩;refine⟨fun m σ H'=>H'=H/\m<=c.length/\σ=[some (.ref a),some (.int (m:Int))]/\c9.qw c c.length=c9.qw c m,⟨c.length,rfl,ai _,by simp[L2.start],rfl⟩,?_⟩;rintro m σ H' ⟨rfl,hm,rfl,ht⟩;have fin:c9.qw c m=m->o9 H' Q (c.take m):=fun e=>by
  unfold c9.Jv at k
  rwa [ht,e] at k
 refine⟨_,rfl,_,_,rfl,rfl,_,rfl,?_⟩;have out:c9.qw c m=m->PM (VR (RX K) (vB 0) KI (Rf (vB 1))) {nx:=fun _ H'=>Q .jP H',rt:=Q} [some (.ref a),some (.int (m:Int))] H':=fun e=>by
  refine⟨_,rfl,_,rfl,_,rfl,a,_,rfl,.of ha,fun p hp=> ?_⟩;refine fin e p _ hp (dt hp) ?_;rw[dh];unfold vD;rw[HT.rg,lMp,Nat.min_eq_left hm];simp[HT.Dz]
 by_cases h0:0<m
 ·rw[aj (show(m:Int)>0 by lia)];have hx:(c.map V.int)[m - 1]? =some (.int (c.getD (m - 1) 0)):=ie (by lia);refine eZ ⟨_,rfl,_,rfl,_,_,rfl,rfl,a,_,_,_,rfl,rfl,.of ha,dM (j:=m - 1) (by lia) hx,rfl,_,rfl,?_⟩;obtain⟨n,rfl⟩:∃n,m=n+1:=⟨m - 1,by lia⟩;by_cases hz:c.getD n 0=0
  ·have e:decide (V.int (c.getD (n+1 - 1) 0)=V.int 0)=true:=by simpa using hz
   rw[e];refine eZ ⟨_,fun σ' H2 q=>⟨n,by lia,q⟩,_,rfl,_,_,rfl,rfl,rfl,by lia,?_,?_⟩
   ·show[some (V.ref a),some (V.int (((n+1:Nat):Int) - 1))]=_;have:((n+1:Nat):Int) - 1=(n:Int):=by lia
    rw[this]
   ·rw[ht];show(if c.getD n 0=0 then _ else _)=_;rw[ah hz]
  ·have e:decide (V.int (c.getD (n+1 - 1) 0)=V.int 0)=false:=by simpa using hz
   rw[e];refine fh (out ?_);show(if c.getD n 0=0 then _ else _)=_;rw[af hz]
 ·have e0:m=0:=by lia
  subst e0;exact fh (fh (out rfl))
end
theorem eI{α β:Type}(f:α->β)(l:List α)(i:Nat)(x:α)(h:l[i]? =some x):(l.take (i+1)).map f=(l.take i).map f ++ [f x]:=by
 rw[aZ,h];simp
theorem jj{l:List Int}{i:Nat}{v:V}(h:(l.map V.int)[i]? =some v):∃x,l[i]? =some x/\v= .int x:=by
 rw[aA] at h;cases e:l[i]? with
 |none=>rw[e] at h;cases h
 |some x=>rw[e] at h;exact⟨x,rfl,(aX h).symm⟩
theorem gq{α:Type}{l:List α}{i:Nat}{x:α}(h:l[i]? =some x):i<l.length:=(bf.mp h).1
section
variable {P:Program}{w:World}{K:PySem.W.Frag}{mg:Str->Option Value}{base:Heap}
noncomputable def Short (l:List Int):Prop:=l.length<1000000
noncomputable abbrev u6:Stmt:=top 18
theorem J2:dD ["polynomial","x"] ["polynomial"] (dk u6):=sco
noncomputable def vY:Sp:=fun vs H Q _=>∃v c,vs=[v]/\fE H v c/\Short c/\o9 H Q (c9.Eo c)
theorem J3(G:iN K mg "negated" u6 ["polynomial"]):eV P w K mg base "negated" ["polynomial"] 1 vY:=by
 have sc:=J2;refine G.i8 sc fun f cdv A outer s H vs Q E hr h=> ?_
 obtain⟨v,c,rfl,⟨a,rfl,ha⟩,hs,k⟩:=h;refine⟨rfl,_,(dj (dC (mJ rfl sc.nd (fu (pv 0)) (fq (own:=[("x",1)]) (by show mV ["polynomial","x"] (dk u6) _ _=true;decide +kernel)) (fun _ _ _ _ _=>(eY (i:=1) sc.nd)) (fun _ _ _ _ _=>gf) (fun _ _ _ _ _=>(jQ ic (pv 1)))))),?_⟩;refine⟨_,rfl,a,rfl,⟨_,.of ha⟩,fun D hD=>nZ (fw (.of ha)) hD (fun i _ acc=>acc=(c.take i).map fun x=>V.int (-x)) rfl ?_ ?_⟩
 ·rintro i x H1 H2 acc hi s1 hD1 hacc s2 s12 hD2 hx;obtain⟨z,hz,rfl⟩:=jj hx;refine⟨rfl,⟨_,rfl,_,rfl,?_⟩⟩;refine gA hD s2 hD2 ?_ ?_
  ·rw[hacc,lMp,aC];unfold Short at hs;exact dH (by lia)
  ·rw[hacc,eI _ _ _ _ hz]
 ·intro H1 acc s1 hD1 hacc;refine k D H1 hD s1 ?_;rw[hD1,hacc,lMp,aG];unfold c9.Eo;rw[aQ];rfl
end
noncomputable def arr (n:Nat) (f:Nat->Int):List V:=(List.range n).map fun j=>V.int (f j)
theorem jG(n:Nat)(f:Nat->Int):(arr n f).length=n:=by unfold arr;simp
theorem pX{n:Nat}{f:Nat->Int}{i:Nat}(h:i<n):(arr n f)[i]? =some (V.int (f i)):=by
 unfold arr;rw[aA,bE h];rfl
theorem gv{n:Nat}{f g:Nat->Int}(h:∀j,j<n->f j=g j):arr n f=arr n g:=by
 unfold arr;exact aY fun j hj=>by rw[h j (aT.mp hj)]
theorem xF{n:Nat}{f:Nat->Int}{i:Nat}{z:Int}:(arr n f).set i (V.int z)=arr n fun j=>if j=i then z else f j:=by
 refine List.ext_getElem? fun j=> ?_
 rw[cz];by_cases q:i=j
 ·subst q;rw[ah rfl,jG];by_cases h:i<n
  ·rw[ah h,pX h,ah rfl]
  ·rw[af h];exact(aE (by rw[jG];lia)).symm
 ·rw[af q];by_cases h:j<n
  ·rw[pX h,pX h,af (bK q)]
  ·rw[aE (by rw[jG];lia),aE (by rw[jG];lia)]
theorem CD{l:List Int}{n:Nat}(h:l.length=n):l.map V.int=arr n fun j=>l.getD j 0:=by
 refine List.ext_getElem? fun j=> ?_
 by_cases q:j<n
 ·rw[pX q,ie (by lia)]
 ·rw[aE (by rw[lMp];lia),aE (by rw[jG];lia)]
theorem Bw(n:Nat):(List.replicate n [V.int 0]).flatten=arr n fun _=>0:=by
 unfold arr;induction n with
 |zero=>rfl
 |succ n ih=>
  rw[List.replicate_succ',List.flatten_append,ih,bY,aO];rfl
theorem imax(a b:Nat):(if(b:Int)>(a:Int) then(b:Int) else(a:Int))=((max a b:Nat):Int):=by
 split <;>lia
section
variable {P:Program}{w:World}{K:PySem.W.Frag}{mg:Str->Option Value}{base:Heap}
noncomputable abbrev Gs:Stmt:=top 19
theorem OW:dD ["left","right","result","power","x","y"] ["left","right"] (dk Gs):=sco
noncomputable def CF:Sp:=fun vs H Q _=>∃v u l r,vs=[v,u]/\fE H v l/\fE H u r/\Short l/\Short r/\o9 H Q (c9.BP l r)
theorem OX(T:Txt mg)(zq:eV P w K mg base "trimmed" ["coefficients"] 1 CC)(G:iN K mg "added" Gs ["left","right"]):eV P w K mg base "added" ["left","right"] 2 CF:=by
 have sc:=OW;refine G.i8 sc fun f cdv A outer s H vs Q E hr h=> ?_
 obtain⟨v,u,l,r,rfl,⟨a,rfl,ha⟩,⟨b,rfl,hb⟩,hl,hr',k⟩:=h;unfold Short at hl hr';refine⟨rfl,_,(df (dX (i:=2) sc.nd (eO FE (dO (c7 dz dc)) (d5 (LS rfl) rfl T.Ih vG (c7 (d5 (eK K) rfl T.gV d9 (c7 (pv 0) dc)) (c7 (d5 (eK K) rfl T.gV d9 (c7 (pv 1) dc)) dc)))))
   (df (gW PassesOwn.never rfl (rm rfl T.hZ (c7 (pv 0) dc)) (kh K (n:=2) rfl (fm (eY (i:=3) sc.nd) (fm (eY (i:=4) sc.nd) kf))) (dj (yK (pv 4) (yJ (pv 2) (pv 3) set_list))))
   (df (gW PassesOwn.never rfl (rm rfl T.hZ (c7 (pv 1) dc)) (kh K (n:=2) rfl (fm (eY (i:=3) sc.nd) (fm (eY (i:=5) sc.nd) kf))) (dj (Fw (pv 2) (pv 3) vE (pv 5) Je set_list)))
   (dj (dC (dy zq hr (c7 (pv 2) dc))))))),?_⟩
 refine⟨di (by simp),fun q hq=> ?_⟩;have s1:dJ H (upd H q (.lst [.int 0])):=dt hq;refine⟨_,rfl,a,_,rfl,.inl (.of (s1 _ _ ha)),_,rfl,b,_,rfl,.inl (.of (s1 _ _ hb)),_,_,rfl,?_⟩;rw[lMp,lMp,imax];generalize hn:max l.length r.length=n;refine⟨q,_,_,rfl,rfl,dh,by lia,by lia,di (by simp;lia),fun p hp=> ?_⟩;rw[a8,Bw];have hpH:H p=none:=s1.free hp;have s2:=s1.trans (dt (o:= .lst (arr n fun _=>0)) hp);refine⟨_,rfl,a,_,rfl,.of (s2 _ _ ha),jK (rn (K:=K) (.of ha)) (fun i σ H'=>∃x3 x4,σ=[some (.ref a),some (.ref b),some (.ref p),x3,x4,none]/\dJ H H'/\H' p=some (.lst (arr n fun j=>if j<i then l.getD j 0 else 0))) ?_ (fun i σ H' ⟨_,_,_,s,_⟩=>s) ?_ ?_⟩
 ·exact⟨none,none,rfl,s2,by rw[dh];simp⟩
 ·rintro i x σ H1 H2 hi ⟨x3,x4,rfl,s3,hp1⟩ s4 s12 ⟨t,y,rfl,ht,hy⟩;obtain⟨z,hz,rfl⟩:=jj hy;have hil:=gq hz;refine⟨t,_,rfl,.of ht,rfl,_,_,rfl,_,_,rfl,rfl,?_⟩;refine⟨_,rfl,_,rfl,_,rfl,p,_,_,i,rfl,rfl,s12 _ _ hp1,rz rfl (by rw[jG];lia),?_⟩;refine⟨_,_,rfl,s4.over hpH,?_⟩;rw[dh,xF];refine congrArg (fun q=>some (HO.lst q)) (gv fun j hj=> ?_);by_cases e:j=i
  ·subst e;rw[ah rfl,ah (by lia),gDe,hz];rfl
  ·rw[af e];by_cases e2:j<i
   ·rw[ah e2,ah (by lia)]
   ·rw[af e2,af (by lia)]
 ·rintro σ H1 ⟨x3,x4,rfl,s3,hp1⟩;refine⟨_,rfl,b,_,rfl,.of (s3 _ _ hb),jK (rn (K:=K) (.of hb)) (fun i σ H'=>∃x3 x4 x5,σ=[some (.ref a),some (.ref b),some (.ref p),x3,x4,x5]/\dJ H H'/\H' p=some (.lst (arr n fun j=>l.getD j 0+if j<i then r.getD j 0 else 0))) ?_ (fun i σ H' ⟨_,_,_,_,s,_⟩=>s) ?_ ?_⟩
  ·refine⟨_,_,_,rfl,s3,?_⟩;rw[hp1];refine congrArg (fun q=>some (HO.lst q)) (gv fun j hj=> ?_);rw[lMp];by_cases e:j<l.length
   ·rw[ah e,af (by lia)];lia
   ·rw[af e,af (by lia),gDe,aE (by lia)];rfl
  ·rintro i x σ H2 H3 hi ⟨x3,x4,x5,rfl,s5,hp2⟩ s6 s23 ⟨t,y,rfl,ht,hy⟩;obtain⟨z,hz,rfl⟩:=jj hy;have hil:=gq hz;have hp3:=s23 _ _ hp2;refine⟨t,_,rfl,.of ht,rfl,_,_,rfl,_,_,rfl,rfl,?_⟩;refine⟨_,rfl,_,rfl,p,_,_,i,_,rfl,rfl,.of hp3,rfl,pX (by lia),_,rfl,_,_,rfl,rfl,p,_,_,i,rfl,rfl,hp3,rz rfl (by rw[jG];lia),?_⟩;refine⟨_,_,_,rfl,s6.over hpH,?_⟩;rw[dh,xF];refine congrArg (fun q=>some (HO.lst q)) (gv fun j hj=> ?_);by_cases e:j=i
   ·subst e;rw[ah rfl,af (by lia),ah (by lia),gDe (l:=r),hz];simp
   ·rw[af e];by_cases e2:j<i
    ·rw[ah e2,ah (by lia)]
    ·rw[af e2,af (by lia)]
  ·rintro σ H2 ⟨x3,x4,x5,rfl,s5,hp2⟩;refine⟨_,rfl,.ref p,c9.iJ l r,rfl,⟨p,rfl,?_⟩,k.of s5⟩;rw[hp2,CD (l:=c9.iJ l r) (n:=n) (by rw[c9.jq];exact hn)];refine congrArg (fun q=>some (HO.lst q)) (gv fun j hj=> ?_);rw[lMp,c9.iX];by_cases e:j<r.length
   ·rw[ah e]
   ·rw[af e,gDe (l:=r),aE (by lia)];rfl
end
section
variable {P:Program}{w:World}{K:PySem.W.Frag}{mg:Str->Option Value}{base:Heap}
noncomputable abbrev rL:Stmt:=top 20
theorem DF:dD ["left","right"] ["left","right"] (dk rL):=sco
noncomputable def mD:Sp:=fun vs H Q _=>∃v u l r,vs=[v,u]/\fE H v l/\fE H u r/\Short l/\Short r/\o9 H Q (c9.tQ l r)
theorem DG(nS:eV P w K mg base "negated" ["polynomial"] 1 vY)(u7:eV P w K mg base "added" ["left","right"] 2 CF)(G:iN K mg "subtracted" rL ["left","right"]):eV P w K mg base "subtracted" ["left","right"] 3 mD:=by
 have sc:=DF;refine G.i8 sc fun f cdv A outer s H vs Q E hr h=> ?_
 obtain⟨v,u,l,r,rfl,pl,pr,hl,hr',k⟩:=h;refine⟨rfl,_,(dj (dC (dy u7 hr (c7 (pv 0) (c7 (dy nS hr (c7 (pv 1) dc)) dc))))),?_⟩;refine⟨_,rfl,_,rfl,_,_,rfl,pr,hr',fun p H' hp s1 e=> ?_⟩;exact⟨_,_,l,c9.Eo r,rfl,pl.same s1,⟨p,rfl,e⟩,hl,by unfold Short at *;rw[c9.uR];exact hr',k.of s1⟩
noncomputable abbrev qy:Stmt:=top 23
theorem CG:dD ["polynomial"] ["polynomial"] (dk qy):=sco
noncomputable def uj:Sp:=fun vs H Q _=>∃v c,vs=[v]/\fE H v c/\Q (.int (c9.fc c)) H
theorem CH(G:iN K mg "constant_of" qy ["polynomial"]):eV P w K mg base "constant_of" ["polynomial"] 1 uj:=by
 have sc:=CG;refine G.i8 sc fun f cdv A outer s H vs Q E hr h=> ?_
 obtain⟨v,c,rfl,⟨a,rfl,ha⟩,k⟩:=h;refine⟨rfl,_,(dj (dC (mH (fb K (pv 0) (fun _=>rfl)) (dW (i0 K) (pv 0) dz (fun _ _=>rfl)) dz))),?_⟩;refine⟨_,rfl,_,.inl ⟨_,.of ha,rfl⟩,?_⟩;cases c with
 |nil=>exact fh k
 |cons z c=>exact eZ ⟨_,rfl,jW (.of ha) (dM (j:=0) rfl rfl) k⟩
noncomputable abbrev j0:Stmt:=top 24
theorem vf:dD ["x","y","large","small","rest"] ["x","y"] (dk j0):=sco
noncomputable def jO:Sp:=fun vs H Q _=>∃x y:Int,vs=[.int x,.int y]/\Q (.int (c9.rB x y)) H
theorem Us(x:Int):(if x<0 then -x else x)=(x.natAbs:Int):=by split <;>lia
theorem vg(T:Txt mg)(G:iN K mg "greatest_divisor" j0 ["x","y"]):eV P w K mg base "greatest_divisor" ["x","y"] 1 jO:=by
 have sc:=vf;refine G.i8 sc fun f cdv A outer s H vs Q E hr h=> ?_
 obtain⟨x,y,rfl,k⟩:=h;refine⟨rfl,_,(df (dX (i:=2) sc.nd (d5 BE rfl T.Ij vI (c7 (pv 0) dc)))
   (df (dX (i:=3) sc.nd (d5 BE rfl T.Ij vI (c7 (pv 1) dc)))
   (df (wR PassesOwn.never (eJ Ae (pv 3) dz (eF _)) (df (dX (i:=4) sc.nd (eO Nq (pv 2) (pv 3)))
   (df (dX (i:=2) sc.nd (pv 3))
   (dj (dX (i:=3) sc.nd (pv 4))))))
   (dj (dC (pv 2)))))),?_⟩
 refine⟨_,rfl,_,rfl,_,rfl,_,rfl,?_⟩;rw[Us,Us];refine⟨fun m σ H'=>∃(g:Nat) (z:Option V),H'=H/\σ=[some (.int x),some (.int y),some (.int (g:Int)),some (.int (m:Int)),z]/\Nat.gcd g m=Nat.gcd x.natAbs y.natAbs,⟨y.natAbs,x.natAbs,none,rfl,rfl,rfl⟩,?_⟩;rintro m σ H' ⟨g,z,rfl,rfl,hg⟩;refine⟨_,rfl,rfl,_,rfl,?_⟩;by_cases h0:m=0
 ·subst h0;refine Rg rfl ?_;refine⟨_,rfl,?_⟩;unfold c9.rB at k;rw[<-hg,Nat.gcd_zero_right] at k;exact k
 ·have e:(!decide (V.int (m:Int)=V.int 0))=true:=by simp[h0]
  rw[e];refine eZ ⟨_,fun σ' H2 q=>⟨g % m,Nat.mod_lt _ (by lia),q⟩,_,rfl,_,rfl,oY ⟨by lia,?_⟩⟩;refine⟨_,rfl,_,rfl,m,some (.int ((g:Int) % (m:Int))),rfl,?_,?_⟩
  ·show[some (V.int x),some (V.int y),some (V.int (m:Int)),some (V.int ((g:Int) % (m:Int))),some (V.int ((g:Int) % (m:Int)))]=_;rw[<-Int.natCast_emod]
  ·rw[Nat.gcd_comm,<-Nat.gcd_rec,Nat.gcd_comm];exact hg
noncomputable abbrev zx:Stmt:=top 25
theorem J4:dD ["polynomial","result","x"] ["polynomial"] (dk zx):=sco
noncomputable def vZ:Sp:=fun vs H Q _=>∃v c,vs=[v]/\fE H v c/\∀H',dJ H H'->Q (.int (c9.cont c)) H'
theorem J5(fY:eV P w K mg base "greatest_divisor" ["x","y"] 1 jO)(G:iN K mg "content" zx ["polynomial"]):eV P w K mg base "content" ["polynomial"] 2 vZ:=by
 have sc:=J4;refine G.i8 sc fun f cdv A outer s H vs Q E hr h=> ?_
 obtain⟨v,c,rfl,⟨a,rfl,ha⟩,k⟩:=h;refine⟨rfl,_,(df (dX (i:=1) sc.nd dz)
   (df (gW PassesOwn.never rfl (fu (pv 0)) (eY (i:=2) sc.nd) (dj (dX (i:=1) sc.nd (dy fY hr (c7 (pv 1) (c7 (pv 2) dc))))))
   (dj (dC (pv 1))))),?_⟩
 refine⟨_,rfl,a,rfl,⟨_,.of ha⟩,jK (fw (K:=K) (.of ha)) (fun i σ H'=>∃z,dJ H H'/\σ=[some (.ref a),some (.int ((c.take i).foldl c9.rB 0)),z]) ⟨none,.refl _,rfl⟩ (fun i σ H' ⟨_,e,_⟩=>e) ?_ ?_⟩
 ·rintro i x σ H1 H2 hi ⟨z,s0,rfl⟩ s1 s2 hx;obtain⟨y,hy,rfl⟩:=jj hx;refine⟨_,rfl,_,rfl,_,_,rfl,some (.int y),s1,?_⟩;rw[aZ,hy,cN];rfl
 ·rintro σ H1 ⟨z,s1,rfl⟩;refine⟨_,rfl,?_⟩;rw[lMp,aG];exact k H1 s1
noncomputable abbrev mP:Stmt:=top 26
theorem Gu:dD ["polynomial","divisor","x"] ["polynomial"] (dk mP):=sco
noncomputable def xG:Sp:=fun vs H Q _=>∃v c,vs=[v]/\fE H v c/\Short c/\c9.Trim c/\o9 H Q (c9.prim c)
theorem Gv(hno:base.NoSeer)(htree:P.given.tree=none)(lU:eV P w K mg base "content" ["polynomial"] 2 vZ)(G:iN K mg "primitive" mP ["polynomial"]):eV P w K mg base "primitive" ["polynomial"] 41 xG:=by
 have sc:=Gu;refine G.i8 sc fun f cdv A outer s H vs Q E hr h=> ?_
 obtain⟨v,c,rfl,⟨a,rfl,ha⟩,hs,ht,k⟩:=h;have Se:L9 (Fx KR P w K mg base ["polynomial","divisor","x"] "primitive" (dk mP) f cdv A outer s H E).RK:=⟨hno,htree,⟨_,outer,rfl,rfl,rfl,rfl,rfl⟩,by have:=hr.dp;show(A.deeper _).depth+100<_;lia⟩;refine⟨rfl,_,(df (dX (i:=1) sc.nd (dy lU hr (c7 (pv 0) dc)))
   (dj (dC (mJ rfl sc.nd (fu (pv 0)) (fq (own:=[("x",2)]) (by show mV ["polynomial","divisor","x"] (dk mP) _ _=true;decide +kernel)) (fun _ _ _ _ _=>(eY (i:=2) sc.nd)) (fun _ _ _ _ _=>gf) (fun _ _ _ _ _=>(eO (NP (L9.Dv Se)) (pv 2) (pv 1))))))),?_⟩
 refine⟨_,rfl,_,c,rfl,⟨a,rfl,ha⟩,fun H1 s1=> ?_⟩;have ha1:=s1 _ _ ha;refine⟨_,rfl,a,rfl,⟨_,.of ha1⟩,fun D hD=>nZ (fw (.of ha1)) hD (fun i _ acc=>acc=(c.take i).map fun x=>V.int (x.fdiv (c9.cont c))) rfl ?_ ?_⟩
 ·rintro i x H2 H3 acc hi s2 hD1 hacc s3 s23 hD2 hx;obtain⟨z,hz,rfl⟩:=jj hx;have hc:c9.cont c≠0:=by
   rw[c9.jX];have:=c9.ju ht (fun e=>by rw[e] at hz;cases hz);lia
  refine⟨rfl,⟨_,rfl,_,rfl,oY ⟨hc,?_⟩⟩⟩;refine gA hD s3 hD2 ?_ ?_
  ·rw[hacc,lMp,aC];unfold Short at hs;exact dH (by lia)
  ·rw[hacc,eI _ _ _ _ hz]
 ·intro H2 acc s2 hD1 hacc;refine k.of s1 D H2 hD s2 ?_;rw[hD1,hacc,lMp,aG];unfold c9.prim;rw[aQ];rfl
noncomputable abbrev jk:Stmt:=top 95
theorem v5:dD ["polynomial","factor","x"] ["polynomial","factor"] (dk jk):=sco
noncomputable def iQ:Sp:=fun vs H Q _=>∃v c fa,vs=[v,.int fa]/\fE H v c/\Short c/\fa≠0/\fa.natAbs.log2<9000/\o9 H Q (c9.sG c fa)
theorem QM{c:List Int}{i:Nat}{x:V}(hi:i<c.length)(h:(c.map V.int)[c.length - 1 - i]? =some x):∃z,c.reverse[i]? =some z/\x= .int z:=by
 obtain⟨z,hz,e⟩:=jj h;refine⟨z,?_,e⟩;rw[List.getElem?_reverse hi];exact hz
theorem v7(T:Txt mg)(G:iN K mg "told_polynomial" jk ["polynomial","factor"]):eV P w K mg base "told_polynomial" ["polynomial","factor"] 1 iQ:=by
 have sc:=v5;refine G.i8 sc fun f cdv A outer s H vs Q E hr h=> ?_
 obtain⟨v,c,fa,rfl,⟨a,rfl,ha⟩,hs,hf,hf2,k⟩:=h;unfold Short at hs;refine⟨rfl,_,(dj (dC (eO lF (dO (c7 (d5 (eK K) rfl T.gV d9 (c7 (pv 0) dc)) dc)) (mJ rfl sc.nd (Hi rfl T.vW (c7 (pv 0) dc)) (fq (own:=[("x",2)]) (by show mV ["polynomial","factor","x"] (dk jk) _ _=true;decide +kernel)) (fun _ _ _ _ _=>(eY (i:=2) sc.nd)) (fun _ _ _ _ _=>gf) (fun _ _ _ _ _=>(eO BG (pv 2) (pv 1))))))),?_⟩;refine⟨_,rfl,a,_,rfl,.inl (.of ha),di (by simp),fun q hq=> ?_⟩;have s1:=dt (o:= .lst [.int ((c.map V.int).length:Int)]) hq;have ha1:=s1 _ _ ha;have hq1:(upd H q (.lst [.int ((c.map V.int).length:Int)])) q=some (.lst [.int ((c.map V.int).length:Int)]):=dh;refine⟨_,rfl,a,_,rfl,.of ha1,fun D hD=>nZ (Sd (.of ha1)) hD (fun i _ acc=>acc=(c.reverse.take i).map fun x=>V.int (x.fdiv fa)) rfl ?_ ?_⟩
 ·rintro i x H2 H3 acc hi s2 hD1 hacc s3 s23 hD2 hx;rw[lMp] at hx hi;obtain⟨z,hz,rfl⟩:=QM hi hx;refine⟨rfl,⟨_,rfl,_,rfl,oY ⟨⟨hf,hf2⟩,?_⟩⟩⟩;refine gA hD s3 hD2 ?_ ?_
  ·rw[hacc,lMp,aC,bu];exact dH (by lia)
  ·rw[hacc,eI _ _ _ _ hz]
 ·intro H2 acc s2 hD1 hacc;refine⟨q,D,_,_,rfl,rfl,s2 _ _ hq1,hD1,?_,fun p hp=> ?_⟩
  ·rw[hacc,lMp,lMp,aC,bu];exact di (by simp;lia)
  ·refine k.of (s1.trans s2) p _ hp (dt hp) ?_;rw[dh,hacc,lMp];have e:c.reverse.take c.length=c.reverse:=by rw[<-bu,aG]
   rw[e];unfold c9.sG;rw[aJ,aQ];rfl
end
theorem Gw{l:List Int}(h:l≠[]):L1 (l.map V.int) (-1)=some (V.int (c9.lc l)):=by
 have hl:0<l.length:=aD.mpr h;unfold L1 NG;rw[lMp,af (by decide),ah (by lia)];show(l.map V.int)[(-1+(l.length:Int)).toNat]? =_;have e:(-1+(l.length:Int)).toNat=l.length - 1:=by lia
 rw[e,ie (by lia)];rfl
theorem Im{K:PySem.W.Frag}{H:Hp}{a:Addr}{l:List V}(h:H a=some (.lst l)):PV K (.ref a) H (!l.isEmpty):= .inl ⟨_,.of h,rfl⟩
theorem j3{l:List Int}(h:l≠[]):(!(l.map V.int).isEmpty)=true:=by
 cases l with
 |nil=>exact absurd rfl h
 |cons=>rfl
section
variable {P:Program}{w:World}{K:PySem.W.Frag}{mg:Str->Option Value}{base:Heap}
noncomputable abbrev rM:Stmt:=top 21
theorem DH:dD ["left","right","result","low","x","high","y"] ["left","right"] (dk rM):=sco
noncomputable def qA:Sp:=fun vs H Q _=>∃v u l r,vs=[v,u]/\fE H v l/\fE H u r/\Short l/\Short r/\(∀x∈l,∀y∈r,IntMulOk x y)/\o9 H Q (c9.gX l r)
theorem DI(T:Txt mg)(G:iN K mg "multiplied" rM ["left","right"]):eV P w K mg base "multiplied" ["left","right"] 1 qA:=by
 have sc:=DH;refine G.i8 sc fun f cdv A outer s H vs Q E hr h=> ?_
 obtain⟨v,u,l,r,rfl,⟨a,rfl,ha⟩,⟨b,rfl,hb⟩,hl,hr',hm,k⟩:=h;unfold Short at hl hr';refine⟨rfl,_,(df (fk (PW.pt (G5 (lE (fb K (pv 0) (fun _=>rfl))) (Fu (lE (fb K (pv 1) (fun _=>rfl)))))) (dj (dC (dO dc))) d8)
   (df (dX (i:=2) sc.nd (eO FE (dO (c7 dz dc)) (eO nX (eO jM (d5 (eK K) rfl T.gV d9 (c7 (pv 0) dc)) (d5 (eK K) rfl T.gV d9 (c7 (pv 1) dc))) dz)))
   (df (gW PassesOwn.never rfl (rm rfl T.hZ (c7 (pv 0) dc)) (kh K (n:=2) rfl (fm (eY (i:=3) sc.nd) (fm (eY (i:=4) sc.nd) kf))) (dj (gW PassesOwn.never rfl (rm rfl T.hZ (c7 (pv 1) dc)) (kh K (n:=2) rfl (fm (eY (i:=5) sc.nd) (fm (eY (i:=6) sc.nd) kf))) (dj (Fw (pv 2) (eO jM (pv 3) (pv 5)) vE (eO il (pv 4) (pv 6)) Je set_list)))))
   (dj (dC (pv 2)))))),?_⟩
 refine⟨_,rfl,_,Im ha,?_⟩;by_cases l0:l=[]
 ·subst l0;refine eZ (eZ ⟨aL _,fun p hp=>k p _ hp (dt hp) ?_⟩);rw[dh];rfl
 rw[j3 l0];refine fh ⟨_,rfl,_,Im hb,?_⟩;by_cases r0:r=[]
 ·subst r0;refine eZ ⟨aL _,fun p hp=>k p _ hp (dt hp) ?_⟩;rw[dh];unfold c9.gX;rw[ah (.inr rfl)];rfl
 rw[j3 r0];refine fh ?_;have pl:0<l.length:=aD.mpr l0;have pr:0<r.length:=aD.mpr r0;have em:c9.gX l r=c9.mulL l r:=by
  unfold c9.gX;rw[af fun h=>h.elim l0 r0]
 rw[em] at k;have n:=c9.iu l r l0 r0;refine⟨di (by simp),fun q hq=> ?_⟩;have s1:dJ H (upd H q (.lst [.int 0])):=dt hq;refine⟨_,rfl,a,_,rfl,.inl (.of (s1 _ _ ha)),_,rfl,b,_,rfl,.inl (.of (s1 _ _ hb)),_,_,rfl,rfl,_,_,rfl,rfl,?_⟩;rw[lMp,lMp];generalize hn:l.length+r.length - 1=m at n;have en:((l.length:Int)+(r.length:Int) - 1).toNat=m:=by lia
 refine⟨q,_,_,rfl,rfl,dh,by lia,by lia,di (by simp;lia),fun p hp=> ?_⟩;rw[en,Bw];have hpH:H p=none:=s1.free hp;have s2:=s1.trans (dt (o:= .lst (arr m fun _=>0)) hp);refine⟨_,rfl,a,_,rfl,.of (s2 _ _ ha),jK (rn (K:=K) (.of ha)) (fun i σ H'=>∃x3 x4 x5 x6,σ=[some (.ref a),some (.ref b),some (.ref p),x3,x4,x5,x6]/\dJ H H'/\H' p=some (.lst (arr m fun j=>(c9.mulL (l.take i) r).getD j 0))) ?_ (fun i σ H' ⟨_,_,_,_,_,s,_⟩=>s) ?_ ?_⟩
 ·exact⟨none,none,none,none,rfl,s2,by rw[dh];rfl⟩
 ·rintro i x σ H1 H2 hi ⟨x3,x4,x5,x6,rfl,s3,hp1⟩ s4 s12 ⟨t,y,rfl,ht,hy⟩;obtain⟨z,hz,rfl⟩:=jj hy;have hil:=gq hz;have eT:l.take (i+1)=l.take i ++ [z]:=by rw[aZ,hz];rfl
  have lT:(l.take i).length=i:=by rw[aC];lia
  refine⟨t,_,rfl,.of ht,rfl,_,_,rfl,_,_,rfl,rfl,?_⟩;refine⟨_,rfl,b,_,rfl,.of (s4 _ _ hb),jK (rn (K:=K) (.of hb)) (fun h σ H'=>∃x5 x6,σ=[some (.ref a),some (.ref b),some (.ref p),some (.int (i:Nat)),some (.int z),x5,x6]/\dJ H H'/\H' p=some (.lst (arr m fun j=>(c9.mulL (l.take i) r).getD j 0+if i<=j/\j<i+h then z*r.getD (j - i) 0 else 0))) ?_ (fun i σ H' ⟨_,_,_,s,_⟩=>s) ?_ ?_⟩
  ·refine⟨_,_,rfl,s4,?_⟩;rw[s12 _ _ hp1];refine congrArg (fun q=>some (HO.lst q)) (gv fun j hj=> ?_);rw[af (by lia)];lia
  ·rintro h x σ H3 H4 hh ⟨x5,x6,rfl,s5,hp3⟩ s6 s34 ⟨t2,y2,rfl,ht2,hy2⟩;obtain⟨z2,hz2,rfl⟩:=jj hy2;have hhl:=gq hz2;have hp4:=s34 _ _ hp3;refine⟨t2,_,rfl,.of ht2,rfl,_,_,rfl,_,_,rfl,rfl,?_⟩;refine⟨_,rfl,_,rfl,_,rfl,_,_,rfl,rfl,p,_,_,i+h,_,rfl,rfl,.of hp4,by lia,pX (by lia),_,rfl,_,rfl,_,_,rfl,rfl,hm z (aB hz) z2 (aB hz2),_,_,rfl,rfl,p,_,_,i+h,rfl,rfl,hp4,rz (by lia) (by rw[jG];lia),?_⟩;refine⟨_,_,rfl,s6.over hpH,?_⟩;rw[dh,xF];refine congrArg (fun q=>some (HO.lst q)) (gv fun j hj=> ?_);by_cases e:j=i+h
   ·subst e;rw[ah rfl,af (by lia),ah (by lia)];have e2:i+h - i=h:=by lia
    rw[e2,gDe (l:=r),hz2];simp
   ·rw[af e];by_cases e2:i<=j/\j<i+h
    ·rw[ah e2,ah (by lia)]
    ·rw[af e2,af (by lia)]
  ·rintro σ H3 ⟨x5,x6,rfl,s5,hp3⟩;refine⟨_,_,_,_,rfl,s5,?_⟩;rw[hp3];refine congrArg (fun q=>some (HO.lst q)) (gv fun j hj=> ?_);rw[eT,c9.i4,lT,lMp];by_cases e:i<=j
   ·rw[ah e];by_cases e2:j<i+r.length
    ·rw[ah ⟨e,e2⟩]
    ·rw[af (fun h=>e2 h.2),gDe (l:=r),aE (by lia)];simp
   ·rw[af e,af (fun h=>e h.1)]
 ·rintro σ H1 ⟨x3,x4,x5,x6,rfl,s3,hp1⟩;refine⟨_,rfl,k p H1 hpH s3 ?_⟩;rw[hp1,lMp,aG,CD (l:=c9.mulL l r) n]
noncomputable abbrev zy:Stmt:=top 22
theorem J6:dD ["left","right","rest","result","shift","factor","power","y"] ["left","right"] (dk zy):=sco
noncomputable def v8:Sp:=fun vs H Q _=>∃v u l r m,vs=[v,u]/\fE H v l/\fE H u r/\Short l/\Short r/\c9.Trim l/\c9.Trim r/\c9.Trim m/\r≠[]/\c9.dF l=c9.dF m*c9.dF r/\(c9.lc r).natAbs.log2<9000/\(∀x∈m,∀y∈r,IntMulOk x y)/\o9 H Q m
theorem J7(T:Txt mg)(G:iN K mg "divided" zy ["left","right"]):eV P w K mg base "divided" ["left","right"] 1 v8:=by
 have sc:=J6;refine G.i8 sc fun f cdv A outer s H vs Q E hr h=> ?_
 obtain⟨v,u,l,r,m,rfl,⟨a,rfl,ha⟩,⟨b,rfl,hb⟩,hl,hr',tl,tr,tm,r0,hlm,hlc,hmul,k⟩:=h;unfold Short at hl hr';refine⟨rfl,_,(df (fk (lE (fb K (pv 0) (fun _=>rfl))) (dj (dC (dO dc))) d8)
   (df (dX (i:=2) sc.nd (yN (vF K) rfl T.CB tK (c7 (pv 0) dc)))
   (df (dX (i:=3) sc.nd (eO FE (dO (c7 dz dc)) (eO jM (eO nX (d5 (eK K) rfl T.gV d9 (c7 (pv 0) dc)) (d5 (eK K) rfl T.gV d9 (c7 (pv 1) dc))) dz)))
   (df (gW PassesOwn.never rfl (Ei rfl T.jY (c7 (eO nX (d5 (eK K) rfl T.gV d9 (c7 (pv 3) dc)) dz) (c7 (jQ ic dz) (c7 (jQ ic dz) dc)))) (eY (i:=4) sc.nd) (df (dX (i:=5) sc.nd (eO BG (dW (i0 K) (pv 2) (eO nX (eO jM (pv 4) (d5 (eK K) rfl T.gV d9 (c7 (pv 1) dc))) dz) (fun _ _=>rfl)) (dW (i0 K) (pv 1) (jQ ic dz) (fun _ _=>rfl))))
   (df (yK (pv 5) (yJ (pv 3) (pv 4) set_list))
   (dj (gW PassesOwn.never rfl (rm rfl T.hZ (c7 (pv 1) dc)) (kh K (n:=2) rfl (fm (eY (i:=6) sc.nd) (fm (eY (i:=7) sc.nd) kf))) (dj (Fw (pv 2) (eO jM (pv 4) (pv 6)) vE (eO il (pv 5) (pv 7)) Np set_list)))))))
   (dj (dC (pv 3))))))),?_⟩
 refine⟨_,rfl,_,Im ha,?_⟩;by_cases l0:l=[]
 ·subst l0;have m0:m=[]:=by
   have z:c9.dF m*c9.dF r=0:=hlm.symm;by_cases q:m=[]
   ·exact q
   ·exact absurd z (c9.PF.yV (fun e=>q ((c9.fI tm).mp e)) (fun e=>r0 ((c9.fI tr).mp e)))
  subst m0;exact eZ ⟨aL _,fun p hp=>k p _ hp (dt hp) (by rw[dh];rfl)⟩
 rw[j3 l0];refine fh ?_;have m0:m≠[]:=fun e=>l0 ((c9.fI tl).mp (by
  rw[hlm,e];show(0:c9.PF)*_=0;grind))
 have el:l=c9.mulL m r:=by
  have t:c9.Trim (c9.mulL m r):=by
   have:=c9.qV tm tr;unfold c9.gX at this
   rwa [af (fun h=>h.elim m0 r0)] at this
  exact c9.pN tl t (by rw[hlm,c9.jr])
 have ll:l.length=m.length+r.length - 1:=by rw[el];exact c9.iu m r m0 r0
 have pm:0<m.length:=aD.mpr m0;have pr:0<r.length:=aD.mpr r0;have lcn:=c9.ft.mp tr r0;refine⟨_,rfl,a,_,rfl,.inl (.of ha),fun c hc=> ?_⟩;have s0:dJ H (upd H c (.lst (l.map V.int))):=dt hc;refine⟨di (by simp),fun q hq=> ?_⟩;have s1:=s0.trans (dt (o:= .lst [.int 0]) hq);refine⟨_,rfl,a,_,rfl,.inl (.of (s1 _ _ ha)),_,rfl,b,_,rfl,.inl (.of (s1 _ _ hb)),_,_,rfl,rfl,_,_,rfl,rfl,?_⟩;rw[lMp,lMp];have en:((l.length:Int) - (r.length:Int)+1).toNat=m.length:=by lia
 refine⟨q,_,_,rfl,rfl,dh,by lia,by lia,di (by simp;lia),fun p hp=> ?_⟩;rw[en,Bw];have hpH:H p=none:=s1.free hp;have s2:=s1.trans (dt (o:= .lst (arr m.length fun _=>0)) hp);have cp:c≠p:=fun e=>by
  rw[e] at hp;exact absurd hp (by
   rw[<-e,d6,dh]
   ·simp
   ·intro e2;rw[<-e2] at hq;rw[dh] at hq;cases hq)
 have hcq:(upd (upd (upd H c (.lst (l.map V.int))) q (.lst [.int 0])) p (.lst (arr m.length fun _=>0))) c=some (.lst (l.map V.int)):=by
  rw[d6 cp,d6,dh];intro e2;rw[<-e2,dh] at hq;cases hq
 refine⟨_,rfl,p,_,rfl,.inl (.of dh),_,_,rfl,rfl,_,rfl,_,rfl,_,_,_,m.length,rfl,?_,?_⟩
 ·have e:=T6.neg (i:=(m.length:Int) - 1) (j:= -1) (by lia) (by lia) (by lia) (by lia);rw[jG];have e2:((m.length:Int) - 1 - -1).toNat=m.length:=by lia
  rw[e2] at e;exact e
 rw[jG];refine jK (Ej _ _ _ _) (fun i σ H'=>∃x4 x5 x6 x7,σ=[some (.ref a),some (.ref b),some (.ref c),some (.ref p),x4,x5,x6,x7]/\i<=m.length/\dJ H H'/\H' c=some (.lst (arr l.length fun j=>(c9.mulL (m.take (m.length - i)) r).getD j 0))/\H' p=some (.lst (arr m.length fun j=>if m.length - i<=j then m.getD j 0 else 0))) ?_ (fun i σ H' ⟨_,_,_,_,_,_,s,_⟩=>s) ?_ ?_
 ·refine⟨none,none,none,none,rfl,aL _,s2,?_,?_⟩
  ·rw[hcq,Nat.sub_zero,aG,<-el,CD (l:=l) rfl]
  ·rw[dh];refine congrArg (fun q=>some (HO.lst q)) (gv fun j hj=> ?_);rw[af (by lia)]
 ·rintro i x σ H1 H2 hi ⟨x4,x5,x6,x7,rfl,hi2,s3,hc1,hp1⟩ s4 s12 rfl;obtain⟨t,et⟩:∃t,m.length - i=t+1:=⟨m.length - i - 1,by lia⟩;have et2:m.length - (i+1)=t:=by lia
  rw[et] at hc1 hp1;have hsh:(m.length:Int) - 1+(i:Nat)*(-1)=(t:Int):=by lia
  have hc2:=s12 _ _ hc1;have hp2:=s12 _ _ hp1;have eT:m.take (t+1)=m.take t ++ [m.getD t 0]:=c9.BQ m t (by lia);have lT:(m.take t).length=t:=by rw[aC];lia
  have ef:((c9.mulL (m.take (t+1)) r).getD (t+r.length - 1) 0).fdiv (c9.lc r)=m.getD t 0:=by
   rw[eT,c9.i4,lT,c9.yY (m.take t) r _ r0 (by lia),ah (by lia)];have e:t+r.length - 1 - t=r.length - 1:=by lia
   rw[e];show(0+m.getD t 0*c9.lc r).fdiv (c9.lc r)=_;rw[Int.zero_add,cZ _ lcn]
  rw[hsh];refine⟨_,rfl,_,rfl,_,rfl,b,_,rfl,.inl (.of (s4 _ _ hb)),_,_,rfl,rfl,_,_,rfl,rfl,jW (.of hc2) (dM (j:=t+r.length - 1) (by rw[lMp];lia) (pX (by lia))) ?_⟩;refine⟨_,rfl,_,rfl,b,_,_,_,rfl,rfl,.of (s4 _ _ hb),Gw r0,_,_,rfl,rfl,⟨lcn,hlc⟩,?_⟩;dsimp only[];rw[ef];refine⟨_,rfl,_,rfl,_,rfl,p,_,_,t,rfl,rfl,hp2,rz rfl (by rw[jG];lia),?_⟩;have cp':c≠p:=cp;have s5:dJ H (upd H2 p (.lst ((arr m.length fun j=>if t+1<=j then m.getD j 0 else 0).set t (.int (m.getD t 0))))):=s4.over hpH;have hcH:H c=none:=hc;refine⟨_,rfl,b,_,rfl,.of (s5 _ _ hb),jK (rn (K:=K) (.of hb)) (fun h σ H'=>∃x6 x7,σ=[some (.ref a),some (.ref b),some (.ref c),some (.ref p),some (.int (t:Int)),some (.int (m.getD t 0)),x6,x7]/\dJ H H'/\H' p=some (.lst (arr m.length fun j=>if t<=j then m.getD j 0 else 0))/\H' c=some (.lst (arr l.length fun j=>(c9.mulL (m.take (t+1)) r).getD j 0 - if t<=j/\j<t+h then m.getD t 0*r.getD (j - t) 0 else 0))) ?_ (fun i σ H' ⟨_,_,_,s,_⟩=>s) ?_ ?_⟩
  ·refine⟨_,_,rfl,s5,?_,?_⟩
   ·rw[dh,xF];refine congrArg (fun q=>some (HO.lst q)) (gv fun j hj=> ?_);by_cases e:j=t
    ·rw[ah e,ah (by lia),e]
    ·rw[af e];by_cases e2:t+1<=j
     ·rw[ah e2,ah (by lia)]
     ·rw[af e2,af (by lia)]
   ·rw[d6 cp',hc2];refine congrArg (fun q=>some (HO.lst q)) (gv fun j hj=> ?_);rw[af (by lia)];lia
  ·rintro h x σ H3 H4 hh ⟨x6,x7,rfl,s6,hp3,hc3⟩ s7 s34 ⟨t2,y2,rfl,ht2,hy2⟩;obtain⟨z2,hz2,rfl⟩:=jj hy2;have hhl:=gq hz2;have hc4:=s34 _ _ hc3;refine⟨t2,_,rfl,.of ht2,rfl,_,_,rfl,_,_,rfl,rfl,?_⟩;have hmm:m.getD t 0∈m:=aB (dw (d:=0) (by lia));refine⟨_,rfl,_,rfl,_,rfl,_,_,rfl,rfl,c,_,_,t+h,_,rfl,rfl,.of hc4,by lia,pX (by lia),_,rfl,_,rfl,_,_,rfl,rfl,hmul _ hmm z2 (aB hz2),_,_,rfl,rfl,c,_,_,t+h,rfl,rfl,hc4,rz (by lia) (by rw[jG];lia),?_⟩;refine⟨_,_,rfl,s7.over hcH,?_,?_⟩
   ·rw[d6 (bK cp')];exact s34 _ _ hp3
   ·rw[dh,xF];refine congrArg (fun q=>some (HO.lst q)) (gv fun j hj=> ?_);by_cases e:j=t+h
    ·subst e;rw[ah rfl,af (by lia),ah (by lia)];have e2:t+h - t=h:=by lia
     rw[e2,gDe (l:=r),hz2];simp
    ·rw[af e];by_cases e2:t<=j/\j<t+h
     ·rw[ah e2,ah (by lia)]
     ·rw[af e2,af (by lia)]
  ·rintro σ H3 ⟨x6,x7,rfl,s6,hp3,hc3⟩;refine⟨_,_,_,_,rfl,by lia,s6,?_,?_⟩
   ·rw[hc3,et2];refine congrArg (fun q=>some (HO.lst q)) (gv fun j hj=> ?_);rw[eT,c9.i4,lT,lMp];by_cases e:t<=j
    ·rw[ah e];by_cases e2:j<t+r.length
     ·rw[ah ⟨e,e2⟩];lia
     ·rw[af (fun h=>e2 h.2),gDe (l:=r),aE (by lia)];simp
    ·rw[af e,af (fun h=>e h.1)];lia
   ·rw[hp3,et2]
 ·rintro σ H1 ⟨x4,x5,x6,x7,rfl,hi2,s3,hc1,hp1⟩;refine⟨_,rfl,k p H1 hpH s3 ?_⟩;rw[hp1,CD (l:=m) rfl];refine congrArg (fun q=>some (HO.lst q)) (gv fun j hj=> ?_);rw[ah (by lia)]
end
noncomputable def Ut:Nat->List Int->List Int->Prop
 |0,_,_=>True
 |f+1,rest,right=>rest.length<right.length\/((∀x∈rest,IntMulOk (c9.lc right) x)/\(∀y∈right,IntMulOk (c9.lc rest) y)/\Ut f (c9.lC rest right) right)
noncomputable def Uu:Nat->List Int->List Int->Prop
 |0,_,_=>True
 |f+1,l,s=>s=[]\/(Ut (l.length+1) l s/\Uu f s (c9.prim (c9.gN l s)))
structure Vn(T B:List Int):Prop where
 chain:Uu (B.length+1) (c9.prim T) (c9.prim B)
 Wc:(c9.lc (c9.pO T B)).natAbs.log2<9000
 mA:∀x∈c9.mX T (c9.pO T B),∀y∈c9.pO T B,IntMulOk x y
 mB:∀x∈c9.mX B (c9.pO T B),∀y∈c9.pO T B,IntMulOk x y
 Wd:(c9.rB (c9.cont (c9.mX T (c9.pO T B))) (c9.cont (c9.mX B (c9.pO T B)))).natAbs.log2<9000
 lT:(c9.mX T (c9.pO T B)).length<1000000
 lB:(c9.mX B (c9.pO T B)).length<1000000
 lG:(c9.pO T B).length<1000000
section
variable {P:Program}{w:World}{K:PySem.W.Frag}{mg:Str->Option Value}{base:Heap}
noncomputable abbrev h9:Stmt:=top 27
theorem v9:dD ["left","right","rest","shift","taken","y","x"] ["left","right"] (dk h9):=sco
noncomputable def oy:Sp:=fun vs H Q _=>∃v u l r,vs=[v,u]/\fE H v l/\fE H u r/\Short l/\Short r/\c9.Trim l/\r≠[]/\Ut (l.length+1) l r/\∀z H',dJ H H'->fE H' z (c9.gN l r)->Q z H'
theorem wa(T:Txt mg)(gH:eV P w K mg base "subtracted" ["left","right"] 3 mD)(G:iN K mg "whole_remainder" h9 ["left","right"]):eV P w K mg base "whole_remainder" ["left","right"] 4 oy:=by
 have sc:=v9;refine G.i8 sc fun f cdv A outer s H vs Q E hr h=> ?_
 obtain⟨v,u,l,r,rfl,pl,⟨b,rfl,hb⟩,hl,hr',tl,r0,wk,k⟩:=h;unfold Short at hl hr';have pr:0<r.length:=aD.mpr r0;refine⟨rfl,_,(df (dX (i:=2) sc.nd (pv 0))
   (df (wR PassesOwn.never (eJ Nu (d5 (eK K) rfl T.gV d9 (c7 (pv 2) dc)) (d5 (eK K) rfl T.gV d9 (c7 (pv 1) dc)) (eF _)) (df (dX (i:=3) sc.nd (eO nX (d5 (eK K) rfl T.gV d9 (c7 (pv 2) dc)) (d5 (eK K) rfl T.gV d9 (c7 (pv 1) dc))))
   (df (dX (i:=4) sc.nd (eO lF (eO FE (dO (c7 dz dc)) (pv 3)) (mJ rfl sc.nd (fu (pv 1)) (fq (own:=[("y",5)]) (by show mV ["left","right","rest","shift","taken","y","x"] (dk h9) _ _=true;decide +kernel)) (fun _ _ _ _ _=>(eY (i:=5) sc.nd)) (fun _ _ _ _ _=>gf) (fun _ _ _ _ _=>(eO il (dW (i0 K) (pv 2) (jQ ic dz) (fun _ _=>rfl)) (pv 5))))))
   (dj (dX (i:=2) sc.nd (dy gH hr (c7 (mJ rfl sc.nd (fu (pv 2)) (fq (own:=[("x",6)]) (by show mV ["left","right","rest","shift","taken","y","x"] (dk h9) _ _=true;decide +kernel)) (fun _ _ _ _ _=>(eY (i:=6) sc.nd)) (fun _ _ _ _ _=>gf) (fun _ _ _ _ _=>(eO il (dW (i0 K) (pv 1) (jQ ic dz) (fun _ _=>rfl)) (pv 6)))) (c7 (pv 4) dc))))))))
   (dj (dC (pv 2))))),?_⟩
 refine⟨_,rfl,fun m σ H'=>∃z rest g x3 x4,σ=[some v,some (.ref b),some z,x3,x4,none,none]/\dJ H H'/\fE H' z rest/\rest.length=m/\m<=l.length/\rest.length<g/\c9.Trim rest/\Ut g rest r/\c9.yW g rest r=c9.gN l r,⟨l.length,v,l,l.length+1,none,none,rfl,.refl _,pl,rfl,ai _,by lia,tl,wk,rfl⟩,?_⟩;rintro m σ H1 ⟨z,rest,g,x3,x4,rfl,s1,⟨a,rfl,ha⟩,hm,hml,hg,tre,wk',hw⟩;obtain⟨g,rfl⟩:∃g',g=g' +1:=⟨g - 1,by lia⟩;have hb1:=s1 _ _ hb;refine⟨_,rfl,a,_,rfl,.inl (.of ha),_,rfl,b,_,rfl,.inl (.of hb1),_,_,rfl,rfl,_,rfl,?_⟩;rw[lMp,lMp];by_cases hlt:rest.length<r.length
 ·rw[ao (show ¬(rest.length:Int) ≥ (r.length:Int) by lia)];refine fh ⟨_,rfl,k _ H1 s1 ⟨a,rfl,?_⟩⟩;have e:c9.yW (g+1) rest r=rest:=ah hlt;rw[<-hw,e];exact ha
 ·rw[aj (show(rest.length:Int) ≥ (r.length:Int) by lia)];obtain⟨m1,m2,m3⟩:=wk'.resolve_left hlt;have rest0:rest≠[]:=fun e=>hlt (by rw[e];exact pr)
  refine eZ ⟨fun σ' H'=>∃z rest' x3 x4,σ'=[some v,some (.ref b),some z,x3,x4,none,none]/\dJ H H'/\fE H' z rest'/\rest'=c9.lC rest r,?_,?_⟩
  ·rintro σ' H' ⟨z,rest',x3,x4,rfl,s2,pz,rfl⟩;have ws:=c9.B8 (rest:=rest) (right:=r) (by lia) r0;refine⟨_,by rw[<-hm];exact ws.2.1,z,_,g,x3,x4,rfl,s2,pz,rfl,by have:=ws.2.1;lia,by have:=ws.2.1;lia,ws.2.2,m3,?_⟩;rw[<-hw];show _=if rest.length<r.length then rest else c9.yW g (c9.lC rest r) r
   rw[af hlt]
  refine⟨_,rfl,a,_,rfl,.inl (.of ha),_,rfl,b,_,rfl,.inl (.of hb1),_,_,rfl,rfl,?_⟩;refine⟨di (by simp),fun q hq=> ?_⟩;have s2:dJ H1 (upd H1 q (.lst [.int 0])):=dt hq;refine⟨_,rfl,q,_,_,rfl,rfl,dh,by rw[lMp,lMp];lia,by rw[lMp,lMp];lia,di (by simp;lia),fun p hp=> ?_⟩;have en:((rest.length:Int) - (r.length:Int)).toNat=rest.length - r.length:=by lia
  rw[lMp,lMp,en,Bw];have s3:=s2.trans (dt (o:= .lst (arr (rest.length - r.length) fun _=>0)) hp);have hb3:=s3 _ _ hb1;have ha3:=s3 _ _ ha;have hp3:(upd (upd H1 q (.lst [.int 0])) p (.lst (arr (rest.length - r.length) fun _=>0))) p=some (.lst (arr (rest.length - r.length) fun _=>0)):=dh;generalize hH3:upd (upd H1 q (.lst [.int 0])) p (.lst (arr (rest.length - r.length) fun _=>0))=H3 at s3 hb3 ha3 hp3;refine⟨_,rfl,b,rfl,⟨_,.of hb3⟩,fun D hD=>nZ (fw (.of hb3)) hD (fun i _ acc=>acc=(r.take i).map fun y=>V.int (c9.lc rest*y)) rfl ?_ ?_⟩
  ·rintro i x H4 H5 acc hi s4 hD1 hacc s5 s45 hD2 hx;obtain⟨y,hy,rfl⟩:=jj hx;refine⟨rfl,⟨_,rfl,_,rfl,a,_,_,_,rfl,rfl,.of (s5 _ _ ha3),Gw rest0,_,rfl,oY ⟨m2 y (aB hy),?_⟩⟩⟩;refine gA hD s5 hD2 ?_ ?_
   ·rw[hacc,lMp,aC];exact dH (by lia)
   ·rw[hacc,eI _ _ _ _ hy]
  ·intro H4 acc s4 hD1 hacc;rw[lMp,aG] at hacc;refine⟨p,D,_,_,rfl,rfl,s4 _ _ hp3,hD1,by rw[hacc,jG,lMp];exact di (by lia),fun t ht=> ?_⟩;have s5:=(s3.trans s4).trans (dt (o:= .lst (arr (rest.length - r.length) (fun _=>0) ++ acc)) ht);have htk:(upd H4 t (.lst (arr (rest.length - r.length) (fun _=>0) ++ acc))) t=some (.lst (arr (rest.length - r.length) (fun _=>0) ++ acc)):=dh;have ha5:=s5 _ _ ha;have hb5:=s5 _ _ hb1;generalize hH5:upd H4 t (.lst (arr (rest.length - r.length) (fun _=>0) ++ acc))=H5 at s5 htk ha5 hb5;refine⟨_,rfl,a,rfl,⟨_,.of ha5⟩,fun D2 hD2=>nZ (fw (.of ha5)) hD2 (fun i _ acc=>acc=(rest.take i).map fun y=>V.int (c9.lc r*y)) rfl ?_ ?_⟩
   ·rintro i x H6 H7 acc2 hi s6 hD3 hacc2 s7 s67 hD4 hx;obtain⟨y,hy,rfl⟩:=jj hx;refine⟨rfl,⟨_,rfl,_,rfl,b,_,_,_,rfl,rfl,.of (s7 _ _ hb5),Gw r0,_,rfl,oY ⟨m1 y (aB hy),?_⟩⟩⟩;refine gA hD2 s7 hD4 ?_ ?_
    ·rw[hacc2,lMp,aC];exact dH (by lia)
    ·rw[hacc2,eI _ _ _ _ hy]
   ·intro H6 acc2 s6 hD3 hacc2;rw[lMp,aG] at hacc2;refine⟨_,rfl,?_⟩;have e1:acc2=(rest.map fun x=>c9.lc r*x).map V.int:=by rw[hacc2,aQ];rfl
    have e2:arr (rest.length - r.length) (fun _=>0) ++ acc=(List.replicate (rest.length - r.length) 0 ++ r.map fun y=>c9.lc rest*y).map V.int:=by
     have e3:arr (rest.length - r.length) (fun _=>0)=(List.replicate (rest.length - r.length) (0:Int)).map V.int:=by
      rw[CD (l:=List.replicate (rest.length - r.length) 0) (n:=rest.length - r.length) (by simp)];refine gv fun j hj=> ?_
      rw[gDe,b8];split <;>rfl
     rw[aO,hacc,aQ,e3];rfl
    refine⟨_,_,_,_,rfl,⟨D2,rfl,by rw[hD3,e1]⟩,⟨t,rfl,by rw[s6 _ _ htk,e2]⟩,?_,?_,fun z H' hz s8 hzz=> ?_⟩
    ·unfold Short;rw[lMp];lia
    ·unfold Short;rw[ay,aP,lMp];lia
    ·exact⟨.ref z,_,_,_,rfl,((s1.trans s5).trans s6).trans s8,⟨z,rfl,hzz⟩,rfl⟩
noncomputable abbrev lV:Stmt:=top 28
theorem xH:dD ["left","right","large","small","rest"] ["left","right"] (dk lV):=sco
noncomputable def pY:Sp:=fun vs H Q _=>∃v u l r,vs=[v,u]/\fE H v l/\fE H u r/\Short l/\Short r/\c9.Trim l/\c9.Trim r/\Uu (r.length+1) (c9.prim l) (c9.prim r)/\∀z H',dJ H H'->fE H' z (c9.pO l r)->Q z H'
theorem OY{l s:List Int}(ts:c9.Trim s)(tl:c9.Trim l)(hs:s≠[]):(c9.gN l s).length<s.length/\c9.Trim (c9.gN l s):=by
 obtain⟨_,_,_,_,h1,h2⟩:=c9.xm hs ts (l.length+1) l tl (by lia);exact⟨h1,h2⟩
theorem xI(mQ:eV P w K mg base "primitive" ["polynomial"] 41 xG)(kn:eV P w K mg base "whole_remainder" ["left","right"] 4 oy)(G:iN K mg "common_divisor" lV ["left","right"]):eV P w K mg base "common_divisor" ["left","right"] 42 pY:=by
 have sc:=xH;refine G.i8 sc fun f cdv A outer s H vs Q E hr h=> ?_
 obtain⟨v,u,l,r,rfl,pl,pr,hl,hr',tl,tr,ck,k⟩:=h;refine⟨rfl,_,(df (dX (i:=2) sc.nd (dy mQ hr (c7 (pv 0) dc)))
   (df (dX (i:=3) sc.nd (dy mQ hr (c7 (pv 1) dc)))
   (df (wR PassesOwn.never (fb K (pv 3) (fun _=>rfl)) (df (dX (i:=4) sc.nd (dy mQ hr (c7 (dy kn hr (c7 (pv 2) (c7 (pv 3) dc))) dc)))
   (df (dX (i:=2) sc.nd (pv 3))
   (dj (dX (i:=3) sc.nd (pv 4))))))
   (dj (dC (pv 2)))))),?_⟩
 refine⟨_,rfl,_,_,rfl,pl,hl,tl,fun a H1 ha s1 ha1=> ?_⟩;refine⟨_,rfl,_,_,rfl,pr.same s1,hr',tr,fun b H2 hb s2 hb2=> ?_⟩;unfold Short at hl hr';refine⟨fun m σ H'=>∃x y g p q z,σ=[some v,some u,some x,some y,z]/\dJ H H'/\fE H' x p/\fE H' y q/\q.length=m/\p.length<1000000/\q.length<1000000/\c9.Trim p/\c9.Trim q/\q.length<g/\Uu g p q/\c9.AR g p q=c9.pO l r,⟨_,.ref a,.ref b,r.length+1,_,_,none,rfl,s1.trans s2,⟨a,rfl,s2 _ _ ha1⟩,⟨b,rfl,hb2⟩,rfl,by rw[c9.gO];exact hl,by rw[c9.gO];exact hr',c9.iw tl,c9.iw tr,by rw[c9.gO];lia,ck,rfl⟩,?_⟩;rintro m σ H3 ⟨x,y,g,p,q,z,rfl,s3,px,⟨yb,rfl,hy⟩,hm,lp,lq,tp,tq,hg,ck',hcd⟩;obtain⟨g,rfl⟩:∃g',g=g' +1:=⟨g - 1,by lia⟩;refine⟨_,rfl,_,Im hy,?_⟩;by_cases q0:q=[]
 ·subst q0;refine fh ⟨_,rfl,k _ _ s3 ?_⟩;have e:c9.AR (g+1) p []=p:=ah rfl;rw[<-hcd,e];exact px
 ·rw[j3 q0];obtain⟨c1,c2⟩:=ck'.resolve_left q0;obtain⟨w1,w2⟩:=OY tq tp q0;refine eZ ⟨_,fun σ' H' q=>q,_,rfl,_,rfl,_,_,_,_,rfl,px,⟨yb,rfl,hy⟩,lp,lq,tp,q0,c1,fun z1 H4 s4 pz=> ?_⟩;refine⟨_,_,rfl,pz,by unfold Short;lia,w2,fun c H5 hc s5 hc5=> ?_⟩;refine⟨_,rfl,_,rfl,_,by rw[<-hm];exact w1,.ref yb,.ref c,g,q,_,some (.ref c),rfl,(s3.trans s4).trans s5,⟨yb,rfl,s5 _ _ (s4 _ _ hy)⟩,⟨c,rfl,hc5⟩,c9.gO _,lq,by rw[c9.gO];lia,tq,c9.iw w2,by rw[c9.gO];lia,c2,?_⟩;rw[<-hcd];show _=if q=[] then p else c9.AR g q (c9.prim (c9.gN p q))
  rw[af q0]
noncomputable abbrev mZ:Stmt:=top 94
theorem zz:dD ["top","bottom","shared","lean_top","lean_bottom","factor"] ["top","bottom"] (dk mZ):=sco
noncomputable def lW:Sp:=fun vs H Q _=>∃v u T B,vs=[v,u]/\fE H v T/\fE H u B/\Short T/\Short B/\c9.Trim T/\c9.Trim B/\B≠[]/\(T≠[]->Vn T B)/\o9 H Q (c9.n8 T B)
theorem zA(lX:eV P w K mg base "common_divisor" ["left","right"] 42 pY)(lY:eV P w K mg base "divided" ["left","right"] 1 v8)(lU:eV P w K mg base "content" ["polynomial"] 2 vZ)(fY:eV P w K mg base "greatest_divisor" ["x","y"] 1 jO)(jl:eV P w K mg base "told_polynomial" ["polynomial","factor"] 1 iQ)(G:iN K mg "told_quotient" mZ ["top","bottom"]):eV P w K mg base "told_quotient" ["top","bottom"] 43 lW:=by
 have sc:=zz;refine G.i8 sc fun f cdv A outer s H vs Q E hr h=> ?_
 obtain⟨v,u,T,B,rfl,⟨a,rfl,ha⟩,⟨b,rfl,hb⟩,hT,hB,tT,tB,B0,ok,k⟩:=h;refine⟨rfl,_,(df (fk (lE (fb K (pv 0) (fun _=>rfl))) (dj (dC (dO (c7 dz (c7 dz (c7 dz (c7 dz dc))))))) d8)
   (df (dX (i:=2) sc.nd (dy lX hr (c7 (pv 0) (c7 (pv 1) dc))))
   (df (dX (i:=3) sc.nd (dy lY hr (c7 (pv 0) (c7 (pv 2) dc))))
   (df (dX (i:=4) sc.nd (dy lY hr (c7 (pv 1) (c7 (pv 2) dc))))
   (df (dX (i:=5) sc.nd (dy fY hr (c7 (dy lU hr (c7 (pv 3) dc)) (c7 (dy lU hr (c7 (pv 4) dc)) dc))))
   (df (fk (eJ Nt (dW (i0 K) (pv 4) (jQ ic dz) (fun _ _=>rfl)) dz (eF _)) (dj (dX (i:=5) sc.nd (jQ ic (pv 5)))) d8)
   (dj (dC (eO lF (dy jl hr (c7 (pv 3) (c7 (pv 5) dc))) (dy jl hr (c7 (pv 4) (c7 (pv 5) dc)))))))))))),?_⟩
 refine⟨_,rfl,_,Im ha,?_⟩;by_cases T0:T=[]
 ·subst T0;exact eZ ⟨di (by simp),fun p hp=>k p _ hp (dt hp) (by rw[dh];rfl)⟩
 rw[j3 T0];have O:=ok T0;obtain⟨tg,hg,gg,_,⟨pa,ea⟩,⟨pb,eb⟩⟩:=c9.JB tT tB T0;obtain⟨Aq,tA,oA⟩:=c9.nR gg ea;obtain⟨Bq,tBq,oB⟩:=c9.nR gg eb;have dA:c9.mX T (c9.pO T B)=Aq:=c9.pQ tT tg tA hg (by rw[oA];exact ea);have dB:c9.mX B (c9.pO T B)=Bq:=c9.pQ tB tg tBq hg (by rw[oB];exact eb);obtain⟨o1,o2,o3,o4,o5,o6,o7,o8⟩:=O;rw[dA] at o3 o5 o6;rw[dB] at o4 o5 o7;have Bq0:Bq≠[]:=fun z=>B0 ((c9.fI tB).mp (by
  rw[eb,<-oB,z];show(0:c9.PF)*_=0;grind))
 have Aq0:Aq≠[]:=fun z=>T0 ((c9.fI tT).mp (by
  rw[ea,<-oA,z];show(0:c9.PF)*_=0;grind))
 have ek:c9.n8 T B=c9.sG Aq (if c9.lc Bq<0 then -(c9.rB (c9.cont Aq) (c9.cont Bq)) else c9.rB (c9.cont Aq) (c9.cont Bq)) ++ c9.sG Bq (if c9.lc Bq<0 then -(c9.rB (c9.cont Aq) (c9.cont Bq)) else c9.rB (c9.cont Aq) (c9.cont Bq)):=by
  unfold c9.n8;dsimp only;rw[af T0,dA,dB]
 rw[ek] at k;have f0:c9.rB (c9.cont Aq) (c9.cont Bq)≠0:=by
  unfold c9.rB;rw[c9.jX,c9.jX,bH,bH];have:=c6 (c9.fL Aq) (c9.ju tBq Bq0);lia
 refine fh ⟨_,rfl,_,rfl,_,_,_,_,rfl,⟨a,rfl,ha⟩,⟨b,rfl,hb⟩,hT,hB,tT,tB,o1,fun z1 H1 s1 pz=> ?_⟩;refine⟨_,rfl,_,rfl,_,_,T,_,Aq,rfl,⟨a,rfl,s1 _ _ ha⟩,pz,hT,o8,tT,tg,tA,hg,by rw[oA];exact ea,o2,o3,fun c H2 hc s2 hc2=> ?_⟩;refine⟨_,rfl,_,rfl,_,_,B,_,Bq,rfl,⟨b,rfl,s2 _ _ (s1 _ _ hb)⟩,pz.same s2,hB,o8,tB,tg,tBq,hg,by rw[oB];exact eb,o2,o4,fun d H3 hd s3 hd3=> ?_⟩;refine⟨_,rfl,_,_,rfl,⟨c,rfl,s3 _ _ hc2⟩,fun H4 s4=> ?_⟩;refine⟨_,rfl,_,_,rfl,⟨d,rfl,s4 _ _ hd3⟩,fun H5 s5=> ?_⟩;refine⟨_,_,rfl,?_⟩;have hc5:=s5 _ _ (s4 _ _ (s3 _ _ hc2));have hd5:=s5 _ _ (s4 _ _ hd3);have s05:dJ H H5:=(((s1.trans s2).trans s3).trans s4).trans s5;have tail:∀fa:Int,fa≠0->fa.natAbs.log2<9000->o9 H Q (c9.sG Aq fa ++ c9.sG Bq fa)->PM (Rb R3 (KH iQ [] E0 (wW (vB 3) (wW (vB 5) LY))) (KH iQ [] E0 (wW (vB 4) (wW (vB 5) LY)))) {nx:=fun _ H'=>Q .jP H',rt:=Q} [some (.ref a),some (.ref b),some z1,some (.ref c),some (.ref d),some (.int fa)] H5:=fun fa h1 h2 k=>by
  refine⟨_,rfl,_,rfl,_,_,_,rfl,⟨c,rfl,hc5⟩,o6,h1,h2,fun p H6 hp s6 hp6=> ?_⟩;refine⟨_,rfl,_,rfl,_,_,_,rfl,⟨d,rfl,s6 _ _ hd5⟩,o7,h1,h2,fun q H7 hq s7 hq7=> ?_⟩;have l1:∀(c:List Int) (f:Int),(c9.sG c f).length=c.length+1:=fun c f=>by unfold c9.sG;simp
  refine⟨p,q,_,_,rfl,rfl,s7 _ _ hp6,hq7,by rw[lMp,lMp,l1,l1];exact di (by lia),fun t ht=> ?_⟩;refine k t _ ((s05.trans (s6.trans s7)).free ht) ((s05.trans (s6.trans s7)).trans (dt ht)) ?_;rw[dh,aO]
 refine⟨_,rfl,_,rfl,d,_,_,_,rfl,rfl,.of hd5,Gw Bq0,_,_,rfl,rfl,_,rfl,?_⟩;by_cases hn:c9.lc Bq<0
 ·rw[ah hn] at k;rw[aj hn];exact eZ ⟨_,rfl,_,rfl,tail _ (by lia) (by rw[Int.natAbs_neg];exact o5) k⟩
 ·rw[af hn] at k;rw[ao hn];exact fh (tail _ f0 o5 k)
end
noncomputable abbrev Rp (α:Type):=(Addr->Prop)->Hp->V->α->Prop
noncomputable def Off (S:Addr->Prop) (H H':Hp):Prop:=∀a o,¬S a->H a=some o->H' a=some o
theorem _root_.L2.dJ.off{H H':Hp}(s:dJ H H')(S:Addr->Prop):Off S H H':=fun a o _ h=>s a o h
theorem fD{S:Addr->Prop}{H:Hp}{p:Addr}{o:HO}(hp:S p):Off S H (upd H p o):=fun a u hs h=>by
 rw[d6 (fun e=>hs (by rw[e];exact hp))];exact h
theorem _root_.PySem.Paired.gQ{α β:Type}{F G:α->β->Prop}{l:List α}{m:List β}(p:Paired F l m)(f:∀a b,F a b->G a b):Paired G l m:=L2.Paired.RG p f
structure Good{α:Type}(r:Rp α):Prop where
 off:∀{S:Addr->Prop} {H H':Hp} {v:V} {x:α},r S H v x->Off S H H'->r S H' v x
 yH:∀{S S':Addr->Prop} {H:Hp} {v:V} {x:α},r S H v x->(∀a,S' a->S a\/H a=none)->r S' H v x
theorem Good.same{α:Type}{r:Rp α}(g:Good r){S:Addr->Prop}{H H':Hp}{v:V}{x:α}(h:r S H v x)(s:dJ H H'):r S H' v x:=g.off h (s.off S)
theorem Good.less{α:Type}{r:Rp α}(g:Good r){S S':Addr->Prop}{H:Hp}{v:V}{x:α}(h:r S H v x)(s:∀a,S' a->S a):r S' H v x:=g.yH h fun a ha=> .inl (s a ha)
noncomputable def sP:Rp (List Int):=fun S H v l=>∃a,v= .ref a/\¬S a/\H a=some (.lst (l.map V.int))
theorem gw:Good sP where
 off:=fun⟨a,e,hs,h⟩ o=>⟨a,e,hs,o a _ hs h⟩
 yH:=fun⟨a,e,hs,h⟩ w=>⟨a,e,(fun q=>(w a q).elim hs fun z=>(by rw[h] at z;cases z)),h⟩
theorem sP.at_{S:Addr->Prop}{H:Hp}{v:V}{l:List Int}(h:sP S H v l):fE H v l:=let ⟨a,e,_,q⟩:=h;⟨a,e,q⟩
theorem fE.s{H:Hp}{v:V}{l:List Int}(h:fE H v l):sP (fun _=>False) H v l:=let ⟨a,e,q⟩:=h;⟨a,e,fun z=>z,q⟩
noncomputable def MC {α:Type} (r:Rp α):Rp (List α):=fun S H v l=>∃a vs,v= .ref a/\¬S a/\H a=some (.lst vs)/\Paired (r S H) vs l
theorem OZ{α:Type}{r:Rp α}(g:Good r):Good (MC r) where
 off:=fun⟨a,vs,e,hs,h,p⟩ o=>⟨a,vs,e,hs,o a _ hs h,p.gQ fun _ _ q=>g.off q o⟩
 yH:=fun⟨a,vs,e,hs,h,p⟩ w=>⟨a,vs,e,fun q=>(w a q).elim hs fun z=>(by rw[h] at z;cases z),h,p.gQ fun _ _ q=>g.yH q w⟩
noncomputable def lD:Rp (Int×List Int):=fun S H v t=>∃a p,v= .ref a/\¬S a/\H a=some (.tup [.int t.1,p])/\sP S H p t.2
theorem iY:Good lD where
 off:=fun⟨a,p,e,hs,h,q⟩ o=>⟨a,p,e,hs,o a _ hs h,gw.off q o⟩
 yH:=fun⟨a,p,e,hs,h,q⟩ w=>⟨a,p,e,fun z=>(w a z).elim hs fun y=>(by rw[h] at y;cases y),h,gw.yH q w⟩
noncomputable abbrev uo:Rp (List (List Int)):=MC sP
noncomputable abbrev O0:Rp (List (List (List Int))):=MC uo
noncomputable abbrev rN:Rp (List (Int×List Int)):=MC lD
noncomputable abbrev Uv:Rp (List (List (Int×List Int))):=MC rN
theorem fg:Good uo:=OZ gw
theorem Gx:Good O0:=OZ fg
theorem eX:Good rN:=OZ iY
theorem _root_.PySem.Paired.mR{α β:Type}{F:α->β->Prop}:∀{l:List α} {m:List β} {i:Nat} {x:α},Paired F l m->l[i]? =some x->∃y,m[i]? =some y/\F x y
 |_,_,_,_,.nil,e=>by simp at e
 |_,_,0,_,.cons r _,e=>by
  simp at e;subst e;exact⟨_,rfl,r⟩
 |_,_,i+1,x,.cons _ t,e=>by
  obtain⟨y,h1,h2⟩:=PySem.Paired.mR (i:=i) (x:=x) t (by simpa using e);exact⟨y,by simpa using h1,h2⟩
theorem _root_.PySem.Paired.ko{α β:Type}{F:α->β->Prop}:∀{l:List α} {m:List β} {i:Nat} {y:β},Paired F l m->m[i]? =some y->∃x,l[i]? =some x/\F x y
 |_,_,_,_,.nil,e=>by simp at e
 |_,_,0,_,.cons r _,e=>by
  simp at e;subst e;exact⟨_,rfl,r⟩
 |_,_,i+1,y,.cons _ t,e=>by
  obtain⟨x,h1,h2⟩:=PySem.Paired.ko (i:=i) (y:=y) t (by simpa using e);exact⟨x,by simpa using h1,h2⟩
theorem _root_.PySem.Paired.jw{α β:Type}{F:α->β->Prop}:∀{l:List α} {m:List β} {x:α} {y:β},Paired F l m->F x y->Paired F (l ++ [x]) (m ++ [y])
 |_,_,_,_,.nil,h=> .cons h .nil
 |_,_,_,_,.cons r t,h=> .cons r (PySem.Paired.jw t h)
theorem _root_.PySem.Paired.app{α β:Type}{F:α->β->Prop}:∀{l l':List α} {m m':List β},Paired F l m->Paired F l' m'->Paired F (l ++ l') (m ++ m')
 |_,_,_,_,.nil,h=>h
 |_,_,_,_,.cons r t,h=> .cons r (PySem.Paired.app t h)
theorem _root_.PySem.Paired.setAt{α β:Type}{F:α->β->Prop}{x:α}{y:β}(h:F x y):∀{l:List α} {m:List β} (i:Nat),Paired F l m->Paired F (l.set i x) (m.set i y)
 |_,_,_,.nil=> .nil
 |_,_,0,.cons _ t=> .cons h t
 |_,_,i+1,.cons r t=> .cons r (PySem.Paired.setAt h i t)
theorem _root_.PySem.Paired.O1{α β:Type}{F:α->β->Prop}:∀{l:List α} {m:List β} (i:Nat),Paired F l m->Paired F (l.take i) (m.take i)
 |_,_,0,_=> .nil
 |_,_,_+ 1,.nil=> .nil
 |_,_,i+1,.cons r t=> .cons r (PySem.Paired.O1 i t)
noncomputable def Nf (S:Addr->Prop) (H:Hp):Prop:=∀a,S a->H a≠none
theorem Nf.same{S:Addr->Prop}{H H':Hp}(d:Nf S H)(s:dJ H H'):Nf S H':=fun a ha z=>d a ha (s.free z)
theorem Nf.new{S:Addr->Prop}{H:Hp}{p:Addr}(d:Nf S H)(h:H p=none):¬S p:=fun q=>d p q h
noncomputable def fM (S:Addr->Prop) (p:Addr):Addr->Prop:=fun a=>S a\/a=p
theorem Nf.and{S:Addr->Prop}{H:Hp}{p:Addr}{o:HO}(d:Nf S H)(h:H p=some o):Nf (fM S p) H:=fun a ha z=>by
 rcases ha with ha |rfl
 ·exact d a ha z
 ·rw[h] at z;cases z
theorem Good.and{α:Type}{r:Rp α}(g:Good r){S:Addr->Prop}{H:Hp}{v:V}{x:α}{p:Addr}(h:r S H v x)(hp:H p=none):r (fM S p) H v x:=g.yH h fun a ha=>ha.elim .inl fun e=> .inr (by rw[e];exact hp)
theorem Good.un{α:Type}{r:Rp α}(g:Good r){S:Addr->Prop}{H:Hp}{v:V}{x:α}{p:Addr}(h:r (fM S p) H v x):r S H v x:=g.less h fun a ha=> .inl ha
theorem _root_.PySem.Paired.QN{α:Type}{r:Rp α}(g:Good r){S:Addr->Prop}{H:Hp}{vs:List V}{l:List α}{p:Addr}(h:Paired (r S H) vs l)(hp:H p=none):Paired (r (fM S p) H) vs l:=h.gQ fun _ _ q=>g.and q hp
theorem _root_.PySem.Paired.Ng{α:Type}{r:Rp α}(g:Good r){S:Addr->Prop}{H:Hp}{vs:List V}{l:List α}{p:Addr}(h:Paired (r (fM S p) H) vs l):Paired (r S H) vs l:=h.gQ fun _ _ q=>g.un q
theorem _root_.PySem.Paired.uq{α:Type}{r:Rp α}(g:Good r){S:Addr->Prop}{H H':Hp}{vs:List V}{l:List α}(h:Paired (r S H) vs l)(o:Off S H H'):Paired (r S H') vs l:=h.gQ fun _ _ q=>g.off q o
theorem _root_.PySem.Paired.iZ{α:Type}{r:Rp α}(g:Good r){S:Addr->Prop}{H H':Hp}{vs:List V}{l:List α}(h:Paired (r S H) vs l)(s:dJ H H'):Paired (r S H') vs l:=h.gQ fun _ _ q=>g.same q s
noncomputable def O2 (p:c9.Part):List (Str×V):=jn "bottom" (.int p.dE) (jn "top" (.int p.top) (jn "d" (.int p.d) (jn "c" (.int p.c) (jn "b" (.int p.b) (jn "a" (.int p.a) (jn "kind" (.int p.kind) []))))))
noncomputable def Uw (last:Int) (ps:V):List (Str×V):=jn "parts" ps (jn "last_node" (.int last) [])
noncomputable def Vo (dZ s gF drives places:V) (width:Int):List (Str×V):=jn "width" (.int width) (jn "places" places (jn "drives" drives (jn "states" gF (jn "s" s (jn "network" dZ [])))))
noncomputable def Ux (det tops:V):List (Str×V):=jn "tops" tops (jn "determinant" det [])
noncomputable def VX (gF sol:V):List (Str×V):=jn "solution" sol (jn "states" gF [])
structure zB(K:PySem.W.Frag)(C:Addr)(fs:List Str):Prop where
 cl:PY K C
 no:∀f∈fs,nY K C f
structure Cs where
 part:Addr
 dZ:Addr
 jL:Addr
 sol:Addr
 pt:Addr
 ask:Addr
structure gr(K:PySem.W.Frag)(c:Cs):Prop where
 part:zB K c.part ["kind","a","b","c","d","top","bottom"]
 dZ:zB K c.dZ ["last_node","parts"]
 jL:zB K c.jL ["network","s","states","drives","places","width"]
 sol:zB K c.sol ["determinant","tops"]
 pt:zB K c.pt ["states","solution"]
section
variable (c:Cs)
noncomputable def gR (H:Hp) (v:V) (p:c9.Part):Prop:=∃a dx,v= .ref a/\H a=some (.ins c.part dx (O2 p))
noncomputable def nJ (H:Hp) (v:V) (ps:List c9.Part):Prop:=∃a vs,v= .ref a/\H a=some (.lst vs)/\Paired (gR c H) vs ps
noncomputable def nv (H:Hp) (v:V) (n:c9.Nw):Prop:=∃a dx vp,v= .ref a/\H a=some (.ins c.dZ dx (Uw n.last vp))/\nJ c H vp n.c8
noncomputable def uu (H:Hp) (v:V) (l:List Bool):Prop:=∃a,v= .ref a/\H a=some (.lst (l.map V.bl))
noncomputable def AE (H:Hp) (v:V) (l:List (Int×Int)):Prop:=∃a vs,v= .ref a/\H a=some (.lst vs)/\Paired (fun u (x:Int×Int)=>∃t,u= .ref t/\H t=some (.tup [.int x.1,.int x.2])) vs l
noncomputable def ny (H:Hp) (v:V) (g:c9.lh):Prop:=∃a dx vn vs vst vd vp,v= .ref a/\H a=some (.ins c.jL dx (Vo vn vs vst vd vp (c9.width g.dZ)))/\nv c H vn g.dZ/\fE H vs g.s/\uu H vst g.gF/\AE H vd g.drives/\fE H vp (c9.places g.dZ)
noncomputable def sL (H:Hp) (v:V) (s:List Int×List (List Int)):Prop:=∃a dx vd vt,v= .ref a/\H a=some (.ins c.sol dx (Ux vd vt))/\fE H vd s.1/\uo (fun _=>False) H vt s.2
variable {c}
theorem gR.same{H H':Hp}{v:V}{p:c9.Part}(h:gR c H v p)(s:dJ H H'):gR c H' v p:=let ⟨a,dx,e,q⟩:=h;⟨a,dx,e,s _ _ q⟩
theorem nJ.same{H H':Hp}{v:V}{p:List c9.Part}(h:nJ c H v p)(s:dJ H H'):nJ c H' v p:=let ⟨a,vs,e,q,r⟩:=h;⟨a,vs,e,s _ _ q,r.gQ fun _ _ z=>z.same s⟩
theorem nv.same{H H':Hp}{v:V}{n:c9.Nw}(h:nv c H v n)(s:dJ H H'):nv c H' v n:=let ⟨a,dx,vp,e,q,r⟩:=h;⟨a,dx,vp,e,s _ _ q,r.same s⟩
theorem uu.same{H H':Hp}{v:V}{l:List Bool}(h:uu H v l)(s:dJ H H'):uu H' v l:=let ⟨a,e,q⟩:=h;⟨a,e,s _ _ q⟩
theorem AE.same{H H':Hp}{v:V}{l:List (Int×Int)}(h:AE H v l)(s:dJ H H'):AE H' v l:=let ⟨a,vs,e,q,r⟩:=h;⟨a,vs,e,s _ _ q,r.gQ fun _ _ ⟨t,e,z⟩=>⟨t,e,s _ _ z⟩⟩
theorem ny.same{H H':Hp}{v:V}{g:c9.lh}(h:ny c H v g)(s:dJ H H'):ny c H' v g:=let ⟨a,dx,vn,vs,vst,vd,vp,e,q,r1,r2,r3,r4,r5⟩:=h;⟨a,dx,vn,vs,vst,vd,vp,e,s _ _ q,r1.same s,r2.same s,r3.same s,r4.same s,r5.same s⟩
theorem sL.same{H H':Hp}{v:V}{x:List Int×List (List Int)}(h:sL c H v x)(s:dJ H H'):sL c H' v x:=let ⟨a,dx,vd,vt,e,q,r1,r2⟩:=h;⟨a,dx,vd,vt,e,s _ _ q,r1.same s,fg.same r2 s⟩
end
structure Txt2(mg:Str->Option Value):Prop extends Txt mg where
 wb:∃t,mg "RESISTOR"=some (.int 0 t)
 uv:∃t,mg "CAPACITOR"=some (.int 1 t)
 Gy:∃t,mg "COIL"=some (.int 2 t)
 iR:∃t,mg "COUPLING"=some (.int 3 t)
 lZ:∃t,mg "VOLTAGE_SOURCE"=some (.int 4 t)
 l5:∃t,mg "CURRENT_SOURCE"=some (.int 5 t)
 jx:∃t,mg "VOLTAGE_BY_VOLTAGE"=some (.int 6 t)
 jy:∃t,mg "CURRENT_BY_VOLTAGE"=some (.int 7 t)
 jz:∃t,mg "VOLTAGE_BY_CURRENT"=some (.int 8 t)
 jA:∃t,mg "CURRENT_BY_CURRENT"=some (.int 9 t)
 i5:∃t,mg "TRANSFORMER"=some (.int 10 t)
 pZ:∃t,mg "AMPLIFIER"=some (.int 11 t)
 CI:∃t,mg "SWITCH"=some (.int 12 t)
 u9:∃t,mg "DIODE"=some (.int 13 t)
 uw:∃t,mg "LAST_KIND"=some (.int 13 t)
theorem zB.at_{K:PySem.W.Frag}{C:Addr}{fs:List Str}(h:zB K C fs){f:Str}(i:Nat)(e:fs[i]? =some f):nY K C f:=h.no f (aB e)
theorem lj{a b:Int}:decide (V.int a=V.int b)=decide (a=b):=by
 by_cases h:a=b
 ·subst h;simp
 ·simp[h]
noncomputable abbrev fU (H:Hp):Addr->Prop:=fun a=>H a≠none
noncomputable def ux (H:Hp) (Q:VK) (ts:List (Int×List Int)):Prop:=∀z H',dJ H H'->rN (fU H) H' z ts->Q z H'
theorem fV{H H1:Hp}(s:dJ H H1):∀a,fU H a->fU H1 a:=fun a h z=>h (s.free z)
noncomputable def nA (ts:List (Int×List Int)):Prop:=∀t∈ts,t.2.length<=100/\∀x∈t.2,x.natAbs<=1
theorem O3{x:Int}(h:x.natAbs<=1)(y:Int):IntMulOk x y:= .of_left (intBits_le_64 (by lia) (by lia))
section
variable {P:Program}{w:World}{K:PySem.W.Frag}{mg:Str->Option Value}{base:Heap}{c:Cs}
noncomputable abbrev qB:Stmt:=top 31
theorem CJ:dD ["part"] ["part"] (dk qB):=sco
noncomputable def oz (c:Cs):Sp:=fun vs H Q _=>∃v p,vs=[v]/\gR c H v p/\Q (.int (c9.hX p)) H
theorem CK(T:Txt2 mg)(O:gr K c)(G:iN K mg "currents_of" qB ["part"]):eV P w K mg base "currents_of" ["part"] 1 (oz c):=by
 have sc:=CJ;refine G.i8 sc fun f cdv A outer s H vs Q E hr h=> ?_
 obtain⟨v,p,rfl,⟨a,dx,rfl,ha⟩,k⟩:=h;refine⟨rfl,_,(df (fk (eJ iV (dq K (pv 0) rfl) (gc T.iR) (eF _)) (dj (dC dz)) d8)
   (dj (dC (mH (eJ iV (dq K (pv 0) rfl) (gc T.i5) (eF _)) dz dz)))),?_⟩
 unfold c9.hX at k;refine⟨_,rfl,dY ha O.part.cl (O.part.at_ 0 rfl) rfl ⟨rfl,_,rfl,?_⟩⟩;rw[lj];refine Sb (fun h=> ?_) (fun h=> ?_)
 ·rw[ah (az h)] at k;exact k
 ·have h3:¬p.kind=3:=fun e=>h (aj e)
  rw[af h3] at k;refine⟨_,rfl,dY ha O.part.cl (O.part.at_ 0 rfl) rfl ⟨rfl,_,rfl,?_⟩⟩;rw[lj];refine Sb (fun h=> ?_) (fun h=> ?_)
  ·rw[ah (az h)] at k;exact k
  ·rw[af (fun e=>h (aj e))] at k;exact k
noncomputable abbrev mE:Stmt:=top 32
theorem CL:dD ["network","part"] ["network"] (dk mE):=sco
noncomputable def uy (c:Cs):Sp:=fun vs H Q _=>∃v n,vs=[v]/\nv c H v n/\n.c8.length<=1000/\∀H',dJ H H'->Q (.int (c9.width n)) H'
theorem CN(T:Txt2 mg)(O:gr K c)(i6:eV P w K mg base "currents_of" ["part"] 1 (oz c))(G:iN K mg "unknowns_of" mE ["network"]):eV P w K mg base "unknowns_of" ["network"] 2 (uy c):=by
 have sc:=CL;refine G.i8 sc fun f cdv A outer s H vs Q E hr h=> ?_
 obtain⟨v,n,rfl,⟨a,dx,vp,rfl,ha,b,ws,rfl,hb,hps⟩,hl,k⟩:=h;have ll:=hps.length;refine⟨rfl,_,(dj (dC (eO jM (dq K (pv 0) rfl) (d5 (Qo K rfl) rfl T.OU Jq (c7 (mJ rfl sc.nd (fu (dq K (pv 0) rfl)) (fq (own:=[("part",1)]) (by show mV ["network","part"] (dk mE) _ _=true;decide +kernel)) (fun _ _ _ _ _=>(eY (i:=1) sc.nd)) (fun _ _ _ _ _=>gf) (fun _ _ _ _ _=>(dy i6 hr (c7 (pv 1) dc)))) dc))))),?_⟩;refine⟨_,rfl,dY ha O.dZ.cl (O.dZ.at_ 0 rfl) rfl ?_⟩;refine⟨_,rfl,dY ha O.dZ.cl (O.dZ.at_ 1 rfl) rfl ⟨b,rfl,⟨_,.of hb⟩,fun D hD=>nZ (fw (.of hb)) hD (fun i _ acc=>acc=(n.c8.take i).map fun p=>V.int (c9.hX p)) rfl ?_ ?_⟩⟩
 ·rintro i x H1 H2 acc hi s1 hD1 hacc s2 s12 hD2 hx;obtain⟨p,hp,q⟩:=hps.mR hx;refine⟨rfl,⟨_,rfl,_,p,rfl,q.same s2,?_⟩⟩;refine gA hD s2 hD2 ?_ ?_
  ·rw[hacc,lMp,aC];exact dH (by lia)
  ·rw[hacc,eI _ _ _ _ hp]
 ·intro H1 acc s1 hD1 hacc;refine⟨D,n.c8.map c9.hX,rfl,.of ?_,_,_,rfl,rfl,k H1 s1⟩;rw[hD1,hacc,ll,aG,aQ];rfl
noncomputable abbrev l6:Stmt:=top 33
theorem xJ:dD ["network","places","free","part"] ["network"] (dk l6):=sco
noncomputable def p5 (c:Cs):Sp:=fun vs H Q _=>∃v n,vs=[v]/\nv c H v n/\n.c8.length<=1000/\o9 H Q (c9.places n)
theorem vx:∀(l:List c9.Part) (f:Int) (p:c9.Part),c9.fT f (l ++ [p])=c9.fT f l ++ [f+(l.map c9.hX).sum]
 |[],f,p=>by
  show[f]=[] ++ [f+0];simp
 |q::l,f,p=>by
  show f::c9.fT (f+c9.hX q) (l ++ [p])=f::(c9.fT (f+c9.hX q) l ++ [f+((q::l).map c9.hX).sum]);rw[vx l,aJ,b6,Int.add_assoc]
theorem rO:∀(l:List c9.Part) (f:Int),(c9.fT f l).length=l.length
 |[],_=>rfl
 |q::l,f=>congrArg (· +1) (rO l _)
theorem CO:∀(l:List Int) (z:Int),(l ++ [z]).sum=l.sum+z
 |[],z=>by simp
 |a::l,z=>by
  rw[List.cons_append,b6,b6,CO l z];lia
theorem xK(T:Txt2 mg)(O:gr K c)(i6:eV P w K mg base "currents_of" ["part"] 1 (oz c))(G:iN K mg "current_places" l6 ["network"]):eV P w K mg base "current_places" ["network"] 2 (p5 c):=by
 have sc:=xJ;refine G.i8 sc fun f cdv A outer s H vs Q E hr h=> ?_
 obtain⟨v,n,rfl,⟨a,dx,vp,rfl,ha,b,ws,rfl,hb,hps⟩,hl,k⟩:=h;have ll:=hps.length;refine⟨rfl,_,(df (dX (i:=1) sc.nd (dO dc))
   (df (dX (i:=2) sc.nd (dq K (pv 0) rfl))
   (df (gW PassesOwn.never rfl (fu (dq K (pv 0) rfl)) (eY (i:=3) sc.nd) (df (jg (pL aV a4 a5 g6 (pv 1) (c7 (pv 2) dc)))
   (dj (Jd (i:=2) sc.nd rfl (Or.inl rfl) (dy i6 hr (c7 (pv 3) dc)) Je))))
   (dj (dC (pv 1)))))),?_⟩
 refine⟨aL _,fun q hq=> ?_⟩;have s1:=dt (o:= .lst []) hq;refine⟨_,rfl,dY (s1 _ _ ha) O.dZ.cl (O.dZ.at_ 0 rfl) rfl ?_⟩;refine⟨_,rfl,dY (s1 _ _ ha) O.dZ.cl (O.dZ.at_ 1 rfl) rfl ⟨b,rfl,⟨_,.of (s1 _ _ hb)⟩,jK (fw (K:=K) (.of hb)) (fun i σ H'=>∃x3,σ=[some (.ref a),some (.ref q),some (.int (n.last+((n.c8.take i).map c9.hX).sum)),x3]/\dJ H H'/\H' q=some (.lst ((c9.fT n.last (n.c8.take i)).map V.int))) ?_ (fun i σ H' ⟨_,_,s,_⟩=>s) ?_ ?_⟩⟩
 ·refine⟨none,?_,s1,?_⟩
  ·simp[L2.start]
  ·rw[dh];rfl
 ·rintro i x σ H1 H2 hi ⟨x3,rfl,s2,hq1⟩ s3 s12 hx;obtain⟨p,hp,pa⟩:=hps.mR hx;have hq2:=s12 _ _ hq1;refine⟨_,rfl,.inl ⟨rfl,_,.of hq2⟩,_,rfl,q,_,_,rfl,rfl,hq2,?_,?_⟩
  ·rw[lMp,rO,aC];exact dH (by lia)
  ·have s4:dJ H (upd H2 q (.lst ((c9.fT n.last (n.c8.take i)).map V.int ++ [.int (n.last+((n.c8.take i).map c9.hX).sum)]))):=s3.over hq;refine⟨_,rfl,_,rfl,_,p,rfl,pa.same s4,_,_,rfl,rfl,some x,?_,s4,?_⟩
   ·rw[eI _ _ _ _ hp,CO,<-Int.add_assoc];rfl
   ·rw[dh,aZ,hp];show _=some (HO.lst ((c9.fT n.last (n.c8.take i ++ [p])).map V.int));rw[vx,aO];rfl
 ·rintro σ H1 ⟨x3,rfl,s2,hq1⟩;refine⟨_,rfl,k q H1 hq s2 ?_⟩;rw[hq1,ll,aG];rfl
noncomputable abbrev xM:Stmt:=top 34
theorem MD:dD ["terms","width","row","place","factor"] ["terms","width"] (dk xM):=sco
noncomputable def Fb:Sp:=fun vs H Q _=>∃v ts wd,vs=[v,.int wd]/\rN (fun _=>False) H v ts/\0<=wd/\wd<1000/\(∀t∈ts,0<=t.1/\t.1<=wd/\t.2.length<=1000)/\∀z H',dJ H H'->uo (fU H) H' z (c9.rowOf wd ts)->Q z H'
theorem ME(ts:List (Int×List Int)):∀row:List (List Int),(ts.foldl c9.tS row).length=row.length:=by
 induction ts with
 |nil=>intro row;rfl
 |cons t ts ih=>
  intro row;rw[bz,ih];unfold c9.tS;rw[bW]
theorem MF(wd:Int)(ts:List (Int×List Int)):(c9.rowOf wd ts).length=(wd+1).toNat:=by
 unfold c9.rowOf;rw[ME,aP]
theorem CP{α:Type}{r:V->α->Prop}{x:α}:∀{vs:List V},(∀v∈vs,r v x)->Paired r vs (List.replicate vs.length x)
 |[],_=> .nil
 |v::vs,h=> .cons (h v ax) (CP fun u hu=>h u (ak _ hu))
theorem MG(T:Txt2 mg)(u7:eV P w K mg base "added" ["left","right"] 2 CF)(G:iN K mg "row_of" xM ["terms","width"]):eV P w K mg base "row_of" ["terms","width"] 3 Fb:=by
 have sc:=MD;refine G.i8 sc fun f cdv A outer s H vs Q E hr h=> ?_
 obtain⟨v,ts,wd,rfl,⟨a,us,rfl,_,ha,hts⟩,w0,w1,hb,k⟩:=h;have ll:=hts.length;refine⟨rfl,_,(df (qS (i:=2) rfl sc.nd rfl rfl (uO rfl rfl rfl rfl) (nM rfl T.jY (c7 (eO jM (pv 1) dz) dc)) (fq (own:=[("place",3)]) (by show mV ["terms","width","row","place","factor"] (dk xM) _ _=true;decide +kernel)) (fun _ _ _ _ _=>(eY (i:=3) sc.nd)) (fun _ _ _ _ _=>gf) (fun _ _ _ _ _=>(dO dc)))
   (df (gW PassesOwn.never rfl (fu (pv 0)) (kh K (n:=2) rfl (fm (eY (i:=3) sc.nd) (fm (eY (i:=4) sc.nd) kf))) (dj (yK (dy u7 hr (c7 (dW (i0 K) (pv 2) (pv 3) (fun _ _=>rfl)) (c7 (pv 4) dc))) (yJ (pv 2) (pv 3) set_list))))
   (dj (dC (pv 2))))),?_⟩
 refine⟨_,rfl,_,_,rfl,rfl,_,rfl,by lia,by lia,fun D hD=>nZ (mK H 0 _) hD (fun i H' acc=>acc.length=i/\(∀v∈acc,sP (fM (fU H) D) H' v [])) ⟨rfl,fun _ h=>by cases h⟩ ?_ ?_⟩
 ·rintro i x H1 H2 acc hi s1 hD1 ⟨hacc,hpol⟩ s2 s12 hD2 rfl;refine⟨rfl,⟨aL _,fun p hp=> ?_⟩⟩;have s3:=dt (o:= .lst []) hp;have np:¬fM (fU H) D p:=fun q=>q.elim (fun z=>z (s2.free hp)) (fun z=>by rw[z,hD2] at hp;cases hp)
  refine gA hD (s2.trans s3) (s3 _ _ hD2) (by rw[hacc];exact dH (by lia)) ⟨by simp[hacc],fun v hv=> ?_⟩;have od:Off (fM (fU H) D) (upd H2 p (.lst [])) (upd (upd H2 p (.lst [])) D (.lst (acc ++ [.ref p]))):=fD (.inr rfl);rcases aK.mp hv with q |q
  ·exact gw.off (gw.same (hpol v q) (s12.trans s3)) od
  ·have:v= .ref p:=by simpa using q
   subst this;exact gw.off ⟨p,rfl,np,by rw[dh];rfl⟩ od
 ·intro H1 acc s1 hD1 ⟨hacc,hpol⟩;have hpr:Paired (sP (fM (fU H) D) H1) acc (c9.rowOf wd (ts.take 0)):=by
   have e:c9.rowOf wd (ts.take 0)=List.replicate acc.length []:=by
    rw[hacc];rfl
   rw[e];exact CP hpol
  refine⟨_,rfl,a,rfl,⟨_,.of (s1 _ _ ha)⟩,jK (fw (K:=K) (.of ha)) (fun i σ H'=>∃x3 x4 ws,σ=[some (.ref a),some (.int wd),some (.ref D),x3,x4]/\dJ H H'/\H' D=some (.lst ws)/\Paired (sP (fM (fU H) D) H') ws (c9.rowOf wd (ts.take i))/\∀r∈c9.rowOf wd (ts.take i),r.length<=1000) ?_ (fun i σ H' ⟨_,_,_,_,s,_⟩=>s) ?_ ?_⟩
  ·refine⟨_,_,acc,rfl,s1,hD1,hpr,fun r hr=> ?_⟩;have e:c9.rowOf wd (ts.take 0)=List.replicate (wd+1).toNat []:=rfl;rw[e] at hr;rw[(List.mem_replicate.mp hr).2];simp
  ·rintro i x σ H2 H3 hi ⟨x3,x4,ws,rfl,s2,hD2,hws,hlen⟩ s3 s23 hx;obtain⟨t,ht,tt⟩:=hts.mR hx;obtain⟨ta,tp,rfl,_,hta,htp⟩:=iY.same tt s3;obtain⟨b1,b2,b3⟩:=hb t (aB ht);have hD3:=s23 _ _ hD2;have hws3:=hws.iZ gw s23;have lr:=MF wd (ts.take i);have lw:=hws.length;have hj:t.1.toNat<(c9.rowOf wd (ts.take i)).length:=by lia
   obtain⟨u,hu,pu⟩:=hws3.ko (dw (d:=[]) hj);refine⟨ta,_,rfl,.of hta,rfl,_,_,rfl,_,_,rfl,rfl,?_⟩;refine⟨_,rfl,_,rfl,jW (.of hD3) (dM (j:=t.1.toNat) (by lia) hu) ⟨_,rfl,?_⟩⟩;refine⟨_,_,_,_,rfl,pu.at_,htp.at_,?_,by unfold Short;lia,fun p H4 hp s4 hp4=> ?_⟩
   ·have:=hlen _ (aB (dw (d:=[]) hj));unfold Short;lia
   have hD4:=s4 _ _ hD3;refine⟨_,rfl,_,rfl,D,_,_,t.1.toNat,rfl,rfl,hD4,rz (by lia) (by lia),?_⟩;have np:¬fM (fU H) D p:=fun q=>q.elim (fun z=>z (s3.free hp)) (fun z=>by rw[z,hD3] at hp;cases hp)
   have od:∀o,Off (fM (fU H) D) H4 (upd H4 D o):=fun o=>fD (.inr rfl)
   have e1:c9.rowOf wd (ts.take (i+1))=c9.tS (c9.rowOf wd (ts.take i)) t:=by
    unfold c9.rowOf;rw[aZ,ht,cN];rfl
   refine⟨_,_,_,rfl,(s3.trans s4).over hD,dh,?_,?_⟩
   ·rw[e1];exact((hws3.iZ gw s4).uq gw (od _)).setAt (gw.off ⟨p,rfl,np,hp4⟩ (od _)) _
   ·intro r hr;rw[e1] at hr;rcases List.mem_or_eq_of_mem_set hr with q |q
    ·exact hlen r q
    ·rw[q];have:=hlen _ (aB (dw (d:=[]) hj));refine aw (c9.FT _) ?_;rw[c9.jq];lia
  ·rintro σ H2 ⟨x3,x4,ws,rfl,s2,hD2,hws,_⟩;refine⟨_,rfl,k _ H2 s2 ⟨D,ws,rfl,fun z=>z hD,hD2,?_⟩⟩;rw[ll,aG] at hws;exact hws.Ng gw
end
theorem Io{S:Addr->Prop}{H4:Hp}{q:Addr}{us:List V}{ts:List (Int×List Int)}{t:Int×List Int}{x:V}(hu:Paired (lD (fM S q) H4) us ts)(ht:lD (fM S q) H4 x t):Paired (lD (fM S q) (upd H4 q (.lst (us ++ [x])))) (us ++ [x]) (ts ++ [t]):=
 (hu.uq iY (fD (.inr rfl))).jw (iY.off ht (fD (.inr rfl)))
section
variable {P:Program}{w:World}{K:PySem.W.Frag}{mg:Str->Option Value}{base:Heap}{c:Cs}
noncomputable abbrev kq:Stmt:=top 36
theorem wc:dD ["first","second","terms"] ["first","second"] (dk kq):=sco
noncomputable def j4:Sp:=fun vs H Q _=>∃x y:Int,vs=[.int x,.int y]/\ux H Q (c9.Hr x y)
theorem Ip{H H2:Hp}{q p t:Addr}{us:List V}{ts:List (Int×List Int)}{x z:Int}(hq:H q=none)(s2:dJ H H2)(hq2:H2 q=some (.lst us))(hu:Paired (lD (fM (fU H) q) H2) us ts)(hp:H2 p=none)(ht:upd H2 p (.lst [.int z]) t=none):
  dJ H (upd (upd (upd H2 p (.lst [.int z])) t (.tup [.int x,.ref p])) q (.lst (us ++ [.ref t])))/\Paired (lD (fM (fU H) q) (upd (upd (upd H2 p (.lst [.int z])) t (.tup [.int x,.ref p])) q (.lst (us ++ [.ref t])))) (us ++ [.ref t]) (ts ++ [(x,[z])]):=by
 have s3:=dt (o:= .lst [.int z]) hp;have s4:=dt (o:= .tup [.int x,.ref p]) ht;have np:¬fM (fU H) q p:=fun h=>h.elim (fun y=>y (s2.free hp)) (fun y=>by rw[y,hq2] at hp;cases hp)
 have nt:¬fM (fU H) q t:=fun h=>h.elim (fun y=>y ((s2.trans s3).free ht)) (fun y=>by rw[y,s3 _ _ hq2] at ht;cases ht)
 refine⟨((s2.trans s3).trans s4).over hq,Io (hu.iZ iY (s3.trans s4)) ⟨t,.ref p,rfl,nt,dh,p,rfl,np,s4 _ _ dh⟩⟩
theorem we(G:iN K mg "voltage_between" kq ["first","second"]):eV P w K mg base "voltage_between" ["first","second"] 1 j4:=by
 have sc:=wc;refine G.i8 sc fun f cdv A outer s H vs Q E hr h=> ?_
 obtain⟨x,y,rfl,k⟩:=h;refine⟨rfl,_,(df (dX (i:=2) sc.nd (dO dc))
   (df (fk (eJ vm (pv 0) dz (eF _)) (dj (jg (pL aV a4 a5 g6 (pv 2) (c7 (gj (c7 (eO nX (pv 0) dz) (c7 (dO (c7 dz dc)) dc))) dc)))) d8)
   (df (fk (eJ vm (pv 1) dz (eF _)) (dj (jg (pL aV a4 a5 g6 (pv 2) (c7 (gj (c7 (eO nX (pv 1) dz) (c7 (dO (c7 (jQ ic dz) dc)) dc))) dc)))) d8)
   (dj (dC (pv 2)))))),?_⟩
 refine⟨aL _,fun q hq=> ?_⟩;have s1:=dt (o:= .lst []) hq;have fin:∀(H4:Hp) (us:List V),dJ H H4->H4 q=some (.lst us)->Paired (lD (fM (fU H) q) H4) us (c9.Hr x y)->Q (.ref q) H4:=fun H4 us s4 h4 hu=>k _ H4 s4 ⟨q,us,rfl,fun z=>z hq,h4,hu.Ng iY⟩
 have second:∀(H2:Hp) (us:List V),dJ H H2->H2 q=some (.lst us)->us.length<10->Paired (lD (fM (fU H) q) H2) us (if 0<x then[(x - 1,[1])] else[])->
   Tj (To (Nv (Rb (PB fun i j=> .bl (decide (i>j))) (vB 1) (tC (.int 0)))) (Q9 (VT K "list" KO (vB 2) (wW (TM (wW (Rb (PB fun i j=> .int (i - j)) (vB 1) (tC (.int 1))) (wW (TN (wW (VP (rU fun i=> .int (-i)) (tC (.int 1))) LY)) LY))) LY))) Q8) (PM (vB 2)) {nx:=fun _ H'=>Q .jP H',rt:=Q} [some (.int x),some (.int y),some (.ref q)] H2:=fun H2 us s2 h2 hl hu=>by
  refine⟨_,rfl,oY ⟨_,rfl,?_⟩⟩;by_cases hy:0<y
  ·rw[aj (show y>0 from hy)];refine eZ ⟨_,rfl,.inl ⟨rfl,_,.of h2⟩,_,rfl,oY ⟨_,rfl,di (by simp),fun p hp=>⟨di (by simp),fun t ht=> ?_⟩⟩⟩;have h4:(upd (upd H2 p (.lst [.int (-1)])) t (.tup [.int (y - 1),.ref p])) q=some (.lst us):=dt ht _ _ (dt hp _ _ h2);obtain⟨s5,hu5⟩:=Ip (x:=y - 1) hq s2 h2 hu hp ht;refine⟨q,us,_,rfl,rfl,h4,dH (by lia),_,rfl,fin _ _ s5 dh ?_⟩;unfold c9.Hr;rw[ah hy];exact hu5
  ·rw[ao (show ¬y>0 from hy)];refine fh ⟨_,rfl,fin H2 us s2 h2 ?_⟩;unfold c9.Hr;rw[af hy,bU];exact hu
 refine⟨_,rfl,oY ⟨_,rfl,?_⟩⟩;by_cases hx:0<x
 ·rw[aj (show x>0 from hx)];refine eZ ⟨_,rfl,.inl ⟨rfl,_,.of dh⟩,_,rfl,oY ⟨di (by simp),fun p hp=>⟨di (by simp),fun t ht=> ?_⟩⟩⟩;have h4:(upd (upd (upd H q (.lst [])) p (.lst [.int 1])) t (.tup [.int (x - 1),.ref p])) q=some (.lst []):=dt ht _ _ (dt hp _ _ dh);obtain⟨s5,hu5⟩:=Ip (x:=x - 1) hq s1 dh .nil hp ht;refine⟨q,[],_,rfl,rfl,h4,dH (by decide),second _ _ s5 dh (by simp) ?_⟩;rw[ah hx];exact hu5
 ·rw[ao (show ¬x>0 from hx)];refine fh (second _ [] s1 dh (by simp) ?_);rw[af hx];exact .nil
noncomputable abbrev rQ:Stmt:=top 37
theorem DJ:dD ["part"] ["part"] (dk rQ):=sco
noncomputable def gi (c:Cs):Sp:=fun vs H Q _=>∃v p,vs=[v]/\gR c H v p/\ux H Q (c9.lL p)
theorem DK(O:gr K c)(gx:eV P w K mg base "voltage_between" ["first","second"] 1 j4)(G:iN K mg "voltage_of" rQ ["part"]):eV P w K mg base "voltage_of" ["part"] 2 (gi c):=by
 have sc:=DJ;refine G.i8 sc fun f cdv A outer s H vs Q E hr h=> ?_
 obtain⟨v,p,rfl,⟨a,dx,rfl,ha⟩,k⟩:=h;refine⟨rfl,_,(dj (dC (dy gx hr (c7 (dq K (pv 0) rfl) (c7 (dq K (pv 0) rfl) dc))))),?_⟩;exact⟨_,rfl,dY ha O.part.cl (O.part.at_ 1 rfl) rfl ⟨_,rfl,dY ha O.part.cl (O.part.at_ 2 rfl) rfl ⟨_,_,rfl,k⟩⟩⟩
noncomputable abbrev i9:Stmt:=top 38
theorem rR:dD ["part"] ["part"] (dk i9):=sco
noncomputable def fP (c:Cs):Sp:=fun vs H Q _=>∃v p,vs=[v]/\gR c H v p/\ux H Q (c9.FQ p)
theorem rS(O:gr K c)(gx:eV P w K mg base "voltage_between" ["first","second"] 1 j4)(G:iN K mg "controlling_voltage" i9 ["part"]):eV P w K mg base "controlling_voltage" ["part"] 2 (fP c):=by
 have sc:=rR;refine G.i8 sc fun f cdv A outer s H vs Q E hr h=> ?_
 obtain⟨v,p,rfl,⟨a,dx,rfl,ha⟩,k⟩:=h;refine⟨rfl,_,(dj (dC (dy gx hr (c7 (dq K (pv 0) rfl) (c7 (dq K (pv 0) rfl) dc))))),?_⟩;exact⟨_,rfl,dY ha O.part.cl (O.part.at_ 3 rfl) rfl ⟨_,rfl,dY ha O.part.cl (O.part.at_ 4 rfl) rfl ⟨_,_,rfl,k⟩⟩⟩
theorem Gz{H H1:Hp}{p t q:Addr}{x:Int}{l:List Int}(s1:dJ H H1)(np:H p=none)(h1:H1 p=some (.lst (l.map V.int)))(ht:H1 t=none)(hq:upd H1 t (.tup [.int x,.ref p]) q=none):
  dJ H (upd (upd H1 t (.tup [.int x,.ref p])) q (.lst [.ref t]))/\rN (fU H) (upd (upd H1 t (.tup [.int x,.ref p])) q (.lst [.ref t])) (.ref q) [(x,l)]:=by
 have s2:=dt (o:= .tup [.int x,.ref p]) ht;have s3:=dt (o:= .lst [.ref t]) hq;refine⟨(s1.trans s2).trans s3,q,_,rfl,fun z=>z ((s1.trans s2).free hq),dh,.cons ⟨t,.ref p,rfl,fun z=>z (s1.free ht),s3 _ _ dh,p,rfl,fun z=>z np,s3 _ _ (s2 _ _ h1)⟩ .nil⟩
noncomputable abbrev rT:Stmt:=top 39
theorem DL:dD ["setting","k"] ["setting","k"] (dk rT):=sco
noncomputable def fC (c:Cs):Sp:=fun vs H Q _=>∃v g k,vs=[v,.int k]/\ny c H v g/\0<=k/\k<g.dZ.c8.length/\ux H Q (c9.cur g k)
theorem places_len(n:c9.Nw):(c9.places n).length=n.c8.length:=rO _ _
theorem DM(O:gr K c)(G:iN K mg "current_of" rT ["setting","k"]):eV P w K mg base "current_of" ["setting","k"] 1 (fC c):=by
 have sc:=DL;refine G.i8 sc fun f cdv A outer s H vs Q E hr h=> ?_
 obtain⟨v,g,k,rfl,⟨a,dx,vn,vs,vst,vd,vp,rfl,ha,hn,hs,hst,hd,⟨pa,rfl,hpl⟩⟩,k0,k1,kk⟩:=h;refine⟨rfl,_,(dj (dC (dO (c7 (gj (c7 (dW (i0 K) (dq K (pv 0) rfl) (pv 1) (fun _ _=>rfl)) (c7 (dO (c7 dz dc)) dc))) dc)))),?_⟩;have hj:k.toNat<(c9.places g.dZ).length:=by rw[places_len];lia
 refine⟨_,rfl,dY ha O.jL.cl (O.jL.at_ 4 rfl) rfl ⟨_,rfl,jW (.of hpl) (dM (j:=k.toNat) (by lia) (ie hj)) ⟨di (by simp),fun p hp=>⟨di (by simp),fun t ht=>⟨di (by simp),fun q hq=> ?_⟩⟩⟩⟩⟩;obtain⟨s1,h1⟩:=Gz (l:=[1]) (x:=(c9.places g.dZ).getD k.toNat 0) (dt hp) hp dh ht hq;exact kk _ _ s1 h1
noncomputable abbrev xN:Stmt:=top 40
theorem MH:dD ["terms","polynomial","place","factor"] ["terms","polynomial"] (dk xN):=sco
noncomputable def nU:Sp:=fun vs H Q _=>∃v u ts p,vs=[v,u]/\rN (fun _=>False) H v ts/\fE H u p/\nA ts/\ts.length<=1000/\Short p/\ux H Q (c9.rC ts p)
theorem MI(iS:eV P w K mg base "multiplied" ["left","right"] 1 qA)(G:iN K mg "scaled" xN ["terms","polynomial"]):eV P w K mg base "scaled" ["terms","polynomial"] 2 nU:=by
 have sc:=MH;refine G.i8 sc fun f cdv A outer s H vs Q E hr h=> ?_
 obtain⟨v,u,ts,p,rfl,⟨a,us,rfl,_,ha,hts⟩,pu,hun,hl,hs,k⟩:=h;have ll:=hts.length;refine⟨rfl,_,(dj (dC (mJ rfl sc.nd (fu (pv 0)) (fq (own:=[("place",2),("factor",3)]) (by show mV ["terms","polynomial","place","factor"] (dk xN) _ _=true;decide +kernel)) (fun _ _ _ _ _=>(kh K (n:=2) rfl (fm (eY (i:=2) sc.nd) (fm (eY (i:=3) sc.nd) kf)))) (fun _ _ _ _ _=>gf) (fun _ _ _ _ _=>(gj (c7 (pv 2) (c7 (dy iS hr (c7 (pv 3) (c7 (pv 1) dc))) dc))))))),?_⟩;refine⟨_,rfl,a,rfl,⟨_,.of ha⟩,fun D hD=>nZ (fw (.of ha)) hD (fun i H' acc=>Paired (lD (fM (fU H) D) H') acc (c9.rC (ts.take i) p)) .nil ?_ ?_⟩
 ·rintro i x H1 H2 acc hi s1 hD1 hacc s2 s12 hD2 hx;obtain⟨t,ht,tt⟩:=hts.mR hx;obtain⟨ta,tp,rfl,_,hta,htp⟩:=iY.same tt s2;have lacc:=hacc.length;refine⟨ta,_,rfl,.of hta,rfl,_,_,rfl,_,_,rfl,rfl,rfl,?_⟩;obtain⟨u1,u2⟩:=hun t (aB ht);refine⟨_,rfl,_,rfl,_,rfl,_,_,_,_,rfl,htp.at_,pu.same s2,by unfold Short;lia,hs,fun x hx y _=>O3 (u2 x hx) y,fun q H3 hq s3 hq3=> ?_⟩;refine⟨di (by simp),fun r hr'=> ?_⟩;have s4:=dt (o:= .tup [.int t.1,.ref q]) hr';have nq:¬fM (fU H) D q:=fun h=>h.elim (fun y=>y (s2.free hq)) (fun y=>by rw[y,hD2] at hq;cases hq)
  have nr:¬fM (fU H) D r:=fun h=>h.elim (fun y=>y ((s2.trans s3).free hr')) (fun y=>by rw[y,s3 _ _ hD2] at hr';cases hr')
  refine gA hD ((s2.trans s3).trans s4) (s4 _ _ (s3 _ _ hD2)) ?_ ?_
  ·rw[lacc];unfold c9.rC;rw[lMp,aC];exact dH (by lia)
  ·have e1:c9.rC (ts.take (i+1)) p=c9.rC (ts.take i) p ++ [(t.1,c9.gX t.2 p)]:=by
    unfold c9.rC;exact eI _ _ _ _ ht
   rw[e1];exact Io (hacc.iZ iY ((s12.trans s3).trans s4)) ⟨r,.ref q,rfl,nr,dh,q,rfl,nq,s4 _ _ hq3⟩
 ·intro H1 acc s1 hD1 hacc;rw[ll,aG] at hacc;exact k _ H1 s1 ⟨D,acc,rfl,fun z=>z hD,hD1,hacc.Ng iY⟩
theorem LF{H H1 H2:Hp}{x y:V}{ts us:List (Int×List Int)}(s1:dJ H H1)(s2:dJ H1 H2)(hx:rN (fU H) H1 x ts)(hy:rN (fU H1) H2 y us)(hl:ts.length+us.length<=1000){Q:VK}(k:ux H Q (ts ++ us)):R3 x y H2 Q:=by
 obtain⟨a,vs,rfl,na,ha,pa⟩:=hx;obtain⟨b,ws,rfl,nb,hb,pb⟩:=hy;have l1:=pa.length;have l2:=pb.length;refine⟨a,b,vs,ws,rfl,rfl,s2 _ _ ha,hb,di (by lia),fun p hp=> ?_⟩;have s3:=dt (o:= .lst (vs ++ ws)) hp;have s12:=s1.trans s2;exact k _ _ (s12.trans s3) ⟨p,_,rfl,fun z=>z (s12.free hp),dh,((pa.iZ iY s2).iZ iY s3).app (PySem.Paired.gQ (pb.iZ iY s3) fun _ _ q=>iY.less q (fV s1))⟩
theorem nL(ts:List (Int×List Int))(p:List Int):(c9.rC ts p).length=ts.length:=by unfold c9.rC;simp
theorem qZ(x:Int):Short (c9.cst x):=by
 unfold Short c9.cst;split <;>simp
noncomputable abbrev oC:Stmt:=top 41
theorem AU:dD ["part","left","right"] ["part","left","right"] (dk oC):=sco
noncomputable def fR (c:Cs):Sp:=fun vs H Q _=>∃v x y p l r,vs=[v,x,y]/\gR c H v p/\rN (fun _=>False) H x l/\rN (fun _=>False) H y r/\nA l/\nA r/\l.length<=100/\r.length<=100/\ux H Q (c9.oa p l r)
theorem AV(O:gr K c)(gB:eV P w K mg base "constant" ["x"] 1 pW)(fW:eV P w K mg base "scaled" ["terms","polynomial"] 2 nU)(G:iN K mg "times_number" oC ["part","left","right"]):eV P w K mg base "times_number" ["part","left","right"] 3 (fR c):=by
 have sc:=AU;refine G.i8 sc fun f cdv A outer s H vs Q E hr h=> ?_
 obtain⟨v,x,y,p,l,r,rfl,⟨a,dx,rfl,ha⟩,hx,hy,ul,ur,ll,lr,k⟩:=h;refine⟨rfl,_,(dj (dC (eO lF (dy fW hr (c7 (pv 1) (c7 (dy gB hr (c7 (dq K (pv 0) rfl) dc)) dc))) (dy fW hr (c7 (pv 2) (c7 (dy gB hr (c7 (jQ ic (dq K (pv 0) rfl)) dc)) dc)))))),?_⟩;refine⟨_,rfl,_,rfl,dY ha O.part.cl (O.part.at_ 6 rfl) rfl ⟨_,rfl,fun q H1 hq s1 hq1=> ?_⟩⟩;refine⟨_,_,_,_,rfl,eX.same hx s1,⟨q,rfl,hq1⟩,ul,by lia,qZ _,fun z H2 s2 hz=> ?_⟩;have hz':=eX.less hz (fV s1);have s12:=s1.trans s2;refine⟨_,rfl,_,rfl,dY (s12 _ _ ha) O.part.cl (O.part.at_ 5 rfl) rfl ⟨_,rfl,_,rfl,fun q2 H3 hq2 s3 hq3=> ?_⟩⟩;refine⟨_,_,_,_,rfl,eX.same hy (s12.trans s3),⟨q2,rfl,hq3⟩,ur,by lia,qZ _,fun z2 H4 s4 hz2=> ?_⟩;exact LF s12 (s3.trans s4) hz' (eX.less hz2 (fV s3)) (by rw[nL,nL];lia) k
noncomputable abbrev oE:Stmt:=top 42
theorem AW:dD ["setting","k","terms","drive"] ["setting","k","terms"] (dk oE):=sco
noncomputable def m5 (c:Cs):Sp:=fun vs H Q _=>∃v x g k ts,vs=[v,.int (k:Nat),x]/\ny c H v g/\k<g.drives.length/\rN (fun _=>False) H x ts/\nA ts/\ts.length<=100/\ux H Q (c9.Bh g k ts)
theorem AX(O:gr K c)(gB:eV P w K mg base "constant" ["x"] 1 pW)(fW:eV P w K mg base "scaled" ["terms","polynomial"] 2 nU)(G:iN K mg "set_to_drive" oE ["setting","k","terms"]):eV P w K mg base "set_to_drive" ["setting","k","terms"] 3 (m5 c):=by
 have sc:=AW;refine G.i8 sc fun f cdv A outer s H vs Q E hr h=> ?_
 obtain⟨v,x,g,k,ts,rfl,⟨a,dx,vn,vs,vst,vd,vp,rfl,ha,hn,hs,hst,⟨da,ds,rfl,hda,hds⟩,hpl⟩,hk,hx,ut,lt,kk⟩:=h;refine⟨rfl,_,(df (dX (i:=3) sc.nd (dW (i0 K) (dq K (pv 0) rfl) (pv 1) (fun _ _=>rfl)))
   (dj (dC (eO lF (dy fW hr (c7 (pv 2) (c7 (dy gB hr (c7 (dW (PD K) (pv 3) dz (fun _ _=>rfl)) dc)) dc))) (dO (c7 (gj (c7 (dq K (pv 0) rfl) (c7 (dy gB hr (c7 (dW (PD K) (pv 3) dz (fun _ _=>rfl)) dc)) dc))) dc)))))),?_⟩
 obtain⟨u,hu,t,rfl,ht⟩:=hds.ko (dw (d:=(0,1)) hk);refine⟨_,rfl,dY ha O.jL.cl (O.jL.at_ 3 rfl) rfl ⟨_,rfl,jW (.of hda) (dM (j:=k) rfl hu) ?_⟩⟩;refine⟨_,rfl,_,rfl,jW (.of ht) (dM (j:=1) rfl rfl) ⟨_,rfl,fun q H1 hq s1 hq1=> ?_⟩⟩;refine⟨_,_,_,_,rfl,eX.same hx s1,⟨q,rfl,hq1⟩,ut,by lia,qZ _,fun z H2 s2 hz=> ?_⟩;have hz':=eX.less hz (fV s1);have s12:=s1.trans s2;refine⟨_,rfl,dY (s12 _ _ ha) O.jL.cl (O.jL.at_ 5 rfl) rfl ⟨_,rfl,jW (.of (s12 _ _ ht)) (dM (j:=0) rfl rfl) ⟨_,rfl,fun q2 H3 hq2 s3 hq3=> ?_⟩⟩⟩;refine⟨di (by simp),fun r hr'=>⟨di (by simp),fun b hb=> ?_⟩⟩;obtain⟨s4,h4⟩:=Gz (l:=c9.cst (g.drives.getD k (0,1)).1) (x:=c9.width g.dZ) s3 hq2 hq3 hr' hb;exact LF s12 s4 hz' h4 (by rw[nL];simp;lia) kk
end
noncomputable def xO (H:Hp) (Q:VK) (L:List (List (Int×List Int))):Prop:=∀z H',dJ H H'->Uv (fU H) H' z L->Q z H'
theorem iC{H H1:Hp}{x:V}{ts:List (Int×List Int)}{Q:VK}(s:dJ H H1)(h:rN (fU H) H1 x ts)(k:xO H Q [ts]):∀p,H1 p=none->Q (.ref p) (upd H1 p (.lst [x])):=fun p hp=>
 k _ _ (s.trans (dt hp)) ⟨p,_,rfl,fun z=>z (s.free hp),dh,.cons (eX.same h (dt hp)) .nil⟩
structure UL(g:c9.lh):Prop where
 c8:g.dZ.c8.length<=20
 st:g.gF.length=g.dZ.c8.length
 dr:g.drives.length=g.dZ.c8.length
 s:g.s=[]\/g.s=[0,1]
theorem rb(x y:Int):nA (c9.Hr x y)/\(c9.Hr x y).length<=2:=by
 unfold c9.Hr nA;refine⟨fun t ht=> ?_,?_⟩
 ·rcases aK.mp ht with h |h
  ·split at h
   ·have:t=(x - 1,[1]):=by simpa using h
    subst this;simp
   ·cases h
  ·split at h
   ·have:t=(y - 1,[-1]):=by simpa using h
    subst this;simp
   ·cases h
 ·split <;>split <;>simp
theorem zC(g:c9.lh)(k:Int):nA (c9.cur g k)/\(c9.cur g k).length<=2:=by
 unfold c9.cur nA;refine⟨fun t ht=> ?_,by simp⟩;have:t=((c9.places g.dZ).getD k.toNat 0,[1]):=by simpa using ht
 subst this;simp
theorem MJ{l p:List Int}(hl:l.length<=100/\∀x∈l,x.natAbs<=1)(hl1:l.length<=1)(hp:p=[]\/p=[0,1]\/p=[-1]):(c9.gX l p).length<=2/\∀x∈c9.gX l p,x.natAbs<=1:=by
 match l,hl1 with
 |[],_=>simp[c9.gX]
 |[z],_=>
  have hz:=hl.2 z (by simp);rcases hp with rfl |rfl |rfl
  ·simp[c9.gX]
  ·have e:c9.gX [z] [0,1]=[z*0+0,z*1]:=rfl;rw[e];refine⟨by simp,fun x hx=> ?_⟩;simp at hx;rcases hx with rfl |rfl
   ·simp
   ·exact hz
  ·have e:c9.gX [z] [-1]=[z*(-1)+0]:=rfl;rw[e];refine⟨by simp,fun x hx=> ?_⟩;simp at hx;subst hx;lia
noncomputable def One (ts:List (Int×List Int)):Prop:=∀t∈ts,t.2.length<=1
theorem zD{ts:List (Int×List Int)}{p:List Int}(h:nA ts)(h1:One ts)(hp:p=[]\/p=[0,1]\/p=[-1]):nA (c9.rC ts p):=fun t ht=>by
 unfold c9.rC at ht;obtain⟨u,hu,rfl⟩:=aN.mp ht;have:=MJ (h u hu) (h1 u hu) hp;exact⟨by have:=this.1;show(c9.gX u.2 p).length<=100;lia,this.2⟩
theorem QO(x y:Int):One (c9.Hr x y):=by
 unfold c9.Hr One;intro t ht;rcases aK.mp ht with h |h
 ·split at h
  ·have:t=(x - 1,[1]):=by simpa using h
   subst this;simp
  ·cases h
 ·split at h
  ·have:t=(y - 1,[-1]):=by simpa using h
   subst this;simp
  ·cases h
theorem LG(g:c9.lh)(k:Int):One (c9.cur g k):=by
 unfold c9.cur One;intro t ht;have:t=((c9.places g.dZ).getD k.toNat 0,[1]):=by simpa using ht
 subst this;simp
section
variable {P:Program}{w:World}{K:PySem.W.Frag}{mg:Str->Option Value}{base:Heap}{c:Cs}
theorem O4(O:gr K c){H:Hp}{v:V}{g:c9.lh}(hg:ny c H v g){σ:L2.St}(h0:σ[0]? =some (some v)){Q:VK}(q:∀a ws,H a=some (.lst ws)->Paired (gR c H) ws g.dZ.c8->Q (.ref a) H):
  LX K (LX K (vB 0) "network") "parts" σ H Q:=by
 obtain⟨a,dx,vn,vs,vst,vd,vp,rfl,ha,⟨na,ndx,nvp,rfl,hna,pa,ws,rfl,hpa,hps⟩,hs,hst,hd,hpl⟩:=hg;exact⟨_,h0,dY ha O.jL.cl (O.jL.at_ 0 rfl) rfl (dY hna O.dZ.cl (O.dZ.at_ 1 rfl) rfl (q pa ws hpa hps))⟩
theorem mF(O:gr K c){H:Hp}{v:V}{g:c9.lh}(hg:ny c H v g){k:Nat}(hk:k<g.dZ.c8.length){σ:L2.St}(h0:σ[0]? =some (some v))(h1:σ[1]? =some (some (.int (k:Int)))){Q:VK}(q:∀u,gR c H u (g.dZ.c8.getD k c9.p0)->Q u H):
  Rb (RU K) (LX K (LX K (vB 0) "network") "parts") (vB 1) σ H Q:=by
 refine O4 O hg h0 fun a ws ha hps=> ?_
 obtain⟨u,hu,pu⟩:=hps.ko (dw (d:=c9.p0) hk);exact⟨_,h1,jW (.of ha) (dM (j:=k) rfl hu) (q u pu)⟩
noncomputable def jB (c:Cs) (kd:c9.lh->Nat->Prop) (F:c9.lh->Nat->List (List (Int×List Int))):Sp:=fun vs H Q _=>∃v g k,vs=[v,.int ((k:Nat):Int)]/\ny c H v g/\UL g/\k<g.dZ.c8.length/\kd g k/\xO H Q (F g k)
noncomputable abbrev pat (g:c9.lh) (k:Nat):c9.Part:=g.dZ.c8.getD k c9.p0
theorem AF(p:c9.Part):(c9.lL p).length<=100:=aw (rb _ _).2 (by decide)
theorem O5(p:c9.Part):(c9.FQ p).length<=100:=aw (rb _ _).2 (by decide)
theorem uz(g:c9.lh)(k:Int):(c9.cur g k).length<=100:=aw (zC _ _).2 (by decide)
theorem Rx(p:c9.Part):nA (c9.lL p):=(rb _ _).1
theorem Vp(p:c9.Part):nA (c9.FQ p):=(rb _ _).1
theorem O6(g:c9.lh)(k:Int):nA (c9.cur g k):=(zC _ _).1
theorem toF{S:Addr->Prop}{H:Hp}{v:V}{ts:List (Int×List Int)}(h:rN S H v ts):rN (fun _=>False) H v ts:=eX.less h (fun _ h=>h.elim)
noncomputable abbrev AY:c9.lh->Nat->Prop:=fun _ _=>True
noncomputable abbrev Vq:c9.lh->Nat->Prop:=fun g k=>0<=(pat g k).c/\(pat g k).c<g.dZ.c8.length
noncomputable abbrev m6:Stmt:=top 43
theorem zE:dD ["setting","k","part"] ["setting","k"] (dk m6):=sco
theorem zF(O:gr K c)(dP:eV P w K mg base "times_number" ["part","left","right"] 3 (fR c))(d3:eV P w K mg base "voltage_of" ["part"] 2 (gi c))(dI:eV P w K mg base "current_of" ["setting","k"] 1 (fC c))(G:iN K mg "resistor_laws" m6 ["setting","k"]):eV P w K mg base "resistor_laws" ["setting","k"] 5 (jB c AY fun g k=>[c9.oa (pat g k) (c9.lL (pat g k)) (c9.cur g k)]):=by
 have sc:=zE;refine G.i8 sc fun f cdv A outer s H vs Q E hr h=> ?_
 obtain⟨v,g,k,rfl,hg,ok,hk,kd,kk⟩:=h;refine⟨rfl,_,(df (dX (i:=2) sc.nd (dW (i0 K) (dq K (dq K (pv 0) rfl) rfl) (pv 1) (fun _ _=>rfl)))
   (dj (dC (dO (c7 (dy dP hr (c7 (pv 2) (c7 (dy d3 hr (c7 (pv 2) dc)) (c7 (dy dI hr (c7 (pv 0) (c7 (pv 1) dc))) dc)))) dc))))),?_⟩
 refine mF O hg hk rfl rfl fun u hu=> ?_
 refine⟨_,rfl,?_⟩;refine⟨_,rfl,_,_,rfl,hu,fun x1 H1 t1 hx1=> ?_⟩;refine⟨_,rfl,_,rfl,_,_,_,rfl,hg.same t1,by lia,by lia,fun x2 H2 t2 hx2=> ?_⟩;refine⟨_,_,_,_,_,_,rfl,hu.same (t1.trans t2),toF (eX.same hx1 t2),toF hx2,Rx _,O6 _ _,AF _,uz _ _,fun z H3 s3 hz=> ?_⟩;exact⟨di (by simp),iC ((t1.trans t2).trans s3) (eX.less hz (fV (t1.trans t2))) kk⟩
noncomputable abbrev gY:Stmt:=top 50
theorem oF:dD ["setting","k","part"] ["setting","k"] (dk gY):=sco
theorem oG(O:gr K c)(dP:eV P w K mg base "times_number" ["part","left","right"] 3 (fR c))(d3:eV P w K mg base "voltage_of" ["part"] 2 (gi c))(d4:eV P w K mg base "controlling_voltage" ["part"] 2 (fP c))(G:iN K mg "voltage_by_voltage_laws" gY ["setting","k"]):eV P w K mg base "voltage_by_voltage_laws" ["setting","k"] 5 (jB c AY fun g k=>[c9.oa (pat g k) (c9.lL (pat g k)) (c9.FQ (pat g k))]):=by
 have sc:=oF;refine G.i8 sc fun f cdv A outer s H vs Q E hr h=> ?_
 obtain⟨v,g,k,rfl,hg,ok,hk,kd,kk⟩:=h;refine⟨rfl,_,(df (dX (i:=2) sc.nd (dW (i0 K) (dq K (dq K (pv 0) rfl) rfl) (pv 1) (fun _ _=>rfl)))
   (dj (dC (dO (c7 (dy dP hr (c7 (pv 2) (c7 (dy d3 hr (c7 (pv 2) dc)) (c7 (dy d4 hr (c7 (pv 2) dc)) dc)))) dc))))),?_⟩
 refine mF O hg hk rfl rfl fun u hu=> ?_
 refine⟨_,rfl,?_⟩;refine⟨_,rfl,_,_,rfl,hu,fun x1 H1 t1 hx1=> ?_⟩;refine⟨_,rfl,_,_,rfl,hu.same t1,fun x2 H2 t2 hx2=> ?_⟩;refine⟨_,_,_,_,_,_,rfl,hu.same (t1.trans t2),toF (eX.same hx1 t2),toF hx2,Rx _,Vp _,AF _,O5 _,fun z H3 s3 hz=> ?_⟩;exact⟨di (by simp),iC ((t1.trans t2).trans s3) (eX.less hz (fV (t1.trans t2))) kk⟩
noncomputable abbrev gZ:Stmt:=top 51
theorem oH:dD ["setting","k","part"] ["setting","k"] (dk gZ):=sco
theorem oI(O:gr K c)(dP:eV P w K mg base "times_number" ["part","left","right"] 3 (fR c))(dI:eV P w K mg base "current_of" ["setting","k"] 1 (fC c))(d4:eV P w K mg base "controlling_voltage" ["part"] 2 (fP c))(G:iN K mg "current_by_voltage_laws" gZ ["setting","k"]):eV P w K mg base "current_by_voltage_laws" ["setting","k"] 5 (jB c AY fun g k=>[c9.oa (pat g k) (c9.cur g k) (c9.FQ (pat g k))]):=by
 have sc:=oH;refine G.i8 sc fun f cdv A outer s H vs Q E hr h=> ?_
 obtain⟨v,g,k,rfl,hg,ok,hk,kd,kk⟩:=h;refine⟨rfl,_,(df (dX (i:=2) sc.nd (dW (i0 K) (dq K (dq K (pv 0) rfl) rfl) (pv 1) (fun _ _=>rfl)))
   (dj (dC (dO (c7 (dy dP hr (c7 (pv 2) (c7 (dy dI hr (c7 (pv 0) (c7 (pv 1) dc))) (c7 (dy d4 hr (c7 (pv 2) dc)) dc)))) dc))))),?_⟩
 refine mF O hg hk rfl rfl fun u hu=> ?_
 refine⟨_,rfl,?_⟩;refine⟨_,rfl,_,rfl,_,_,_,rfl,hg,by lia,by lia,fun x1 H1 t1 hx1=> ?_⟩;refine⟨_,rfl,_,_,rfl,hu.same t1,fun x2 H2 t2 hx2=> ?_⟩;refine⟨_,_,_,_,_,_,rfl,hu.same (t1.trans t2),toF (eX.same hx1 t2),toF hx2,O6 _ _,Vp _,uz _ _,O5 _,fun z H3 s3 hz=> ?_⟩;exact⟨di (by simp),iC ((t1.trans t2).trans s3) (eX.less hz (fV (t1.trans t2))) kk⟩
noncomputable abbrev g4:Stmt:=top 52
theorem oJ:dD ["setting","k","part"] ["setting","k"] (dk g4):=sco
theorem oK(O:gr K c)(dP:eV P w K mg base "times_number" ["part","left","right"] 3 (fR c))(d3:eV P w K mg base "voltage_of" ["part"] 2 (gi c))(dI:eV P w K mg base "current_of" ["setting","k"] 1 (fC c))(G:iN K mg "voltage_by_current_laws" g4 ["setting","k"]):eV P w K mg base "voltage_by_current_laws" ["setting","k"] 5 (jB c Vq fun g k=>[c9.oa (pat g k) (c9.lL (pat g k)) (c9.cur g (pat g k).c)]):=by
 have sc:=oJ;refine G.i8 sc fun f cdv A outer s H vs Q E hr h=> ?_
 obtain⟨v,g,k,rfl,hg,ok,hk,kd,kk⟩:=h;refine⟨rfl,_,(df (dX (i:=2) sc.nd (dW (i0 K) (dq K (dq K (pv 0) rfl) rfl) (pv 1) (fun _ _=>rfl)))
   (dj (dC (dO (c7 (dy dP hr (c7 (pv 2) (c7 (dy d3 hr (c7 (pv 2) dc)) (c7 (dy dI hr (c7 (pv 0) (c7 (dq K (pv 2) rfl) dc))) dc)))) dc))))),?_⟩
 refine mF O hg hk rfl rfl fun u hu=> ?_
 obtain⟨pa,pdx,rfl,hpa⟩:=id hu;refine⟨_,rfl,?_⟩;refine⟨_,rfl,_,_,rfl,hu,fun x1 H1 t1 hx1=> ?_⟩;refine⟨_,rfl,_,rfl,dY (t1 _ _ hpa) O.part.cl (O.part.at_ 3 rfl) rfl ⟨_,_,_,rfl,hg.same t1,kd.1,kd.2,fun x2 H2 t2 hx2=> ?_⟩⟩;refine⟨_,_,_,_,_,_,rfl,hu.same (t1.trans t2),toF (eX.same hx1 t2),toF hx2,Rx _,O6 _ _,AF _,uz _ _,fun z H3 s3 hz=> ?_⟩;exact⟨di (by simp),iC ((t1.trans t2).trans s3) (eX.less hz (fV (t1.trans t2))) kk⟩
noncomputable abbrev g5:Stmt:=top 53
theorem oM:dD ["setting","k","part"] ["setting","k"] (dk g5):=sco
theorem oN(O:gr K c)(dP:eV P w K mg base "times_number" ["part","left","right"] 3 (fR c))(dI:eV P w K mg base "current_of" ["setting","k"] 1 (fC c))(G:iN K mg "current_by_current_laws" g5 ["setting","k"]):eV P w K mg base "current_by_current_laws" ["setting","k"] 5 (jB c Vq fun g k=>[c9.oa (pat g k) (c9.cur g k) (c9.cur g (pat g k).c)]):=by
 have sc:=oM;refine G.i8 sc fun f cdv A outer s H vs Q E hr h=> ?_
 obtain⟨v,g,k,rfl,hg,ok,hk,kd,kk⟩:=h;refine⟨rfl,_,(df (dX (i:=2) sc.nd (dW (i0 K) (dq K (dq K (pv 0) rfl) rfl) (pv 1) (fun _ _=>rfl)))
   (dj (dC (dO (c7 (dy dP hr (c7 (pv 2) (c7 (dy dI hr (c7 (pv 0) (c7 (pv 1) dc))) (c7 (dy dI hr (c7 (pv 0) (c7 (dq K (pv 2) rfl) dc))) dc)))) dc))))),?_⟩
 refine mF O hg hk rfl rfl fun u hu=> ?_
 obtain⟨pa,pdx,rfl,hpa⟩:=id hu;refine⟨_,rfl,?_⟩;refine⟨_,rfl,_,rfl,_,_,_,rfl,hg,by lia,by lia,fun x1 H1 t1 hx1=> ?_⟩;refine⟨_,rfl,_,rfl,dY (t1 _ _ hpa) O.part.cl (O.part.at_ 3 rfl) rfl ⟨_,_,_,rfl,hg.same t1,kd.1,kd.2,fun x2 H2 t2 hx2=> ?_⟩⟩;refine⟨_,_,_,_,_,_,rfl,hu.same (t1.trans t2),toF (eX.same hx1 t2),toF hx2,O6 _ _,O6 _ _,uz _ _,uz _ _,fun z H3 s3 hz=> ?_⟩;exact⟨di (by simp),iC ((t1.trans t2).trans s3) (eX.less hz (fV (t1.trans t2))) kk⟩
noncomputable abbrev l9:Stmt:=top 44
theorem xP:dD ["setting","k","part"] ["setting","k"] (dk l9):=sco
theorem xQ(O:gr K c)(dP:eV P w K mg base "times_number" ["part","left","right"] 3 (fR c))(d3:eV P w K mg base "voltage_of" ["part"] 2 (gi c))(dI:eV P w K mg base "current_of" ["setting","k"] 1 (fC c))(fW:eV P w K mg base "scaled" ["terms","polynomial"] 2 nU)(G:iN K mg "capacitor_laws" l9 ["setting","k"]):eV P w K mg base "capacitor_laws" ["setting","k"] 5 (jB c AY fun g k=>[c9.oa (pat g k) (c9.cur g k) (c9.rC (c9.lL (pat g k)) g.s)]):=by
 have sc:=xP;refine G.i8 sc fun f cdv A outer s H vs Q E hr h=> ?_
 obtain⟨v,g,k,rfl,hg,ok,hk,kd,kk⟩:=h;refine⟨rfl,_,(df (dX (i:=2) sc.nd (dW (i0 K) (dq K (dq K (pv 0) rfl) rfl) (pv 1) (fun _ _=>rfl)))
   (dj (dC (dO (c7 (dy dP hr (c7 (pv 2) (c7 (dy dI hr (c7 (pv 0) (c7 (pv 1) dc))) (c7 (dy fW hr (c7 (dy d3 hr (c7 (pv 2) dc)) (c7 (dq K (pv 0) rfl) dc))) dc)))) dc))))),?_⟩
 refine mF O hg hk rfl rfl fun u hu=> ?_
 refine⟨_,rfl,?_⟩;refine⟨_,rfl,_,rfl,_,_,_,rfl,hg,by lia,by lia,fun x1 H1 t1 hx1=> ?_⟩;refine⟨_,rfl,_,_,rfl,hu.same t1,fun x2 H2 t2 hx2=> ?_⟩;have hg2:=hg.same (t1.trans t2);obtain⟨a,dx,vn,vs,vst,vd,vp,rfl,ha,_,hs,_⟩:=id hg2;have lu:nA (c9.rC (c9.lL (pat g k)) g.s):=zD (Rx _) (QO _ _) (ok.s.elim .inl fun e=> .inr (.inl e));have sh:Short g.s:=by
  unfold Short;rcases ok.s with e |e <;>rw[e] <;>simp
 refine⟨_,rfl,dY ha O.jL.cl (O.jL.at_ 1 rfl) rfl ⟨_,_,_,_,rfl,toF hx2,hs,Rx _,aw (AF _) (by decide),sh,fun x3 H3 t3 hx3=> ?_⟩⟩;refine⟨_,_,_,_,_,_,rfl,hu.same ((t1.trans t2).trans t3),toF (eX.same hx1 (t2.trans t3)),toF hx3,O6 _ _,lu,uz _ _,by rw[nL];exact AF _,fun z H4 s4 hz=> ?_⟩;exact⟨di (by simp),iC (((t1.trans t2).trans t3).trans s4) (eX.less hz (fV ((t1.trans t2).trans t3))) kk⟩
noncomputable abbrev m8:Stmt:=top 47
theorem zG:dD ["setting","k"] ["setting","k"] (dk m8):=sco
theorem zH(G:iN K mg "coupling_laws" m8 ["setting","k"]):eV P w K mg base "coupling_laws" ["setting","k"] 5 (jB c AY fun g k=>[]):=by
 have sc:=zG;refine eV.mono (j:=1) (G.i8 sc fun f cdv A outer s H vs Q E hr h=> ?_) (by decide);obtain⟨v,g,k,rfl,hg,ok,hk,kd,kk⟩:=h;refine⟨rfl,_,(dj (dC (dO dc))),?_⟩;exact⟨aL _,fun p hp=>kk _ _ (dt hp) ⟨p,_,rfl,fun z=>z hp,dh,.nil⟩⟩
noncomputable abbrev ja:Stmt:=top 48
theorem rV:dD ["setting","k"] ["setting","k"] (dk ja):=sco
theorem rW(O:gr K c)(iD:eV P w K mg base "set_to_drive" ["setting","k","terms"] 3 (m5 c))(d3:eV P w K mg base "voltage_of" ["part"] 2 (gi c))(G:iN K mg "voltage_source_laws" ja ["setting","k"]):eV P w K mg base "voltage_source_laws" ["setting","k"] 4 (jB c AY fun g k=>[c9.Bh g k (c9.lL (pat g k))]):=by
 have sc:=rV;refine G.i8 sc fun f cdv A outer s H vs Q E hr h=> ?_
 obtain⟨v,g,k,rfl,hg,ok,hk,kd,kk⟩:=h;refine⟨rfl,_,(dj (dC (dO (c7 (dy iD hr (c7 (pv 0) (c7 (pv 1) (c7 (dy d3 hr (c7 (dW (i0 K) (dq K (dq K (pv 0) rfl) rfl) (pv 1) (fun _ _=>rfl)) dc)) dc)))) dc)))),?_⟩;refine⟨_,rfl,_,rfl,?_⟩;refine mF O hg hk rfl rfl fun u hu=> ?_
 refine⟨_,_,rfl,hu,fun x1 H1 t1 hx1=> ?_⟩;refine⟨_,_,_,_,_,rfl,hg.same t1,by rw[ok.dr];exact hk,toF hx1,Rx _,AF _,fun z H4 s4 hz=> ?_⟩;exact⟨di (by simp),iC (t1.trans s4) (eX.less hz (fV t1)) kk⟩
noncomputable abbrev jb:Stmt:=top 49
theorem rX:dD ["setting","k"] ["setting","k"] (dk jb):=sco
theorem rY(O:gr K c)(iD:eV P w K mg base "set_to_drive" ["setting","k","terms"] 3 (m5 c))(dI:eV P w K mg base "current_of" ["setting","k"] 1 (fC c))(G:iN K mg "current_source_laws" jb ["setting","k"]):eV P w K mg base "current_source_laws" ["setting","k"] 4 (jB c AY fun g k=>[c9.Bh g k (c9.cur g k)]):=by
 have sc:=rX;refine G.i8 sc fun f cdv A outer s H vs Q E hr h=> ?_
 obtain⟨v,g,k,rfl,hg,ok,hk,kd,kk⟩:=h;refine⟨rfl,_,(dj (dC (dO (c7 (dy iD hr (c7 (pv 0) (c7 (pv 1) (c7 (dy dI hr (c7 (pv 0) (c7 (pv 1) dc))) dc)))) dc)))),?_⟩;refine⟨_,rfl,_,rfl,?_⟩;refine⟨_,rfl,_,rfl,_,_,_,rfl,hg,by lia,by lia,fun x1 H1 t1 hx1=> ?_⟩;refine⟨_,_,_,_,_,rfl,hg.same t1,by rw[ok.dr];exact hk,toF hx1,O6 _ _,uz _ _,fun z H4 s4 hz=> ?_⟩;exact⟨di (by simp),iC (t1.trans s4) (eX.less hz (fV t1)) kk⟩
noncomputable abbrev ma:Stmt:=top 55
theorem xR:dD ["setting","k"] ["setting","k"] (dk ma):=sco
theorem xS(O:gr K c)(d4:eV P w K mg base "controlling_voltage" ["part"] 2 (fP c))(G:iN K mg "amplifier_laws" ma ["setting","k"]):eV P w K mg base "amplifier_laws" ["setting","k"] 3 (jB c AY fun g k=>[c9.FQ (pat g k)]):=by
 have sc:=xR;refine G.i8 sc fun f cdv A outer s H vs Q E hr h=> ?_
 obtain⟨v,g,k,rfl,hg,ok,hk,kd,kk⟩:=h;refine⟨rfl,_,(dj (dC (dO (c7 (dy d4 hr (c7 (dW (i0 K) (dq K (dq K (pv 0) rfl) rfl) (pv 1) (fun _ _=>rfl)) dc)) dc)))),?_⟩;refine mF O hg hk rfl rfl fun u hu=> ?_
 refine⟨_,_,rfl,hu,fun x1 H1 t1 hx1=> ?_⟩;exact⟨di (by simp),iC t1 hx1 kk⟩
noncomputable abbrev qC:Stmt:=top 56
theorem CQ:dD ["setting","k","part"] ["setting","k"] (dk qC):=sco
theorem CS(O:gr K c)(dI:eV P w K mg base "current_of" ["setting","k"] 1 (fC c))(d3:eV P w K mg base "voltage_of" ["part"] 2 (gi c))(G:iN K mg "switch_laws" qC ["setting","k"]):eV P w K mg base "switch_laws" ["setting","k"] 3 (jB c AY fun g k=>[if(pat g k).top=0 then c9.cur g k else c9.lL (pat g k)]):=by
 have sc:=CQ;refine G.i8 sc fun f cdv A outer s H vs Q E hr h=> ?_
 obtain⟨v,g,k,rfl,hg,ok,hk,kd,kk⟩:=h;refine⟨rfl,_,(df (dX (i:=2) sc.nd (dW (i0 K) (dq K (dq K (pv 0) rfl) rfl) (pv 1) (fun _ _=>rfl)))
   (dj (dC (dO (c7 (mH (eJ iV (dq K (pv 2) rfl) dz (eF _)) (dy dI hr (c7 (pv 0) (c7 (pv 1) dc))) (dy d3 hr (c7 (pv 2) dc))) dc))))),?_⟩
 refine mF O hg hk rfl rfl fun u hu=> ?_
 obtain⟨pa,pdx,rfl,hpa⟩:=id hu;change xO H Q [if(g.dZ.c8.getD k c9.p0).top=0 then c9.cur g k else c9.lL (g.dZ.c8.getD k c9.p0)] at kk;refine⟨_,rfl,dY hpa O.part.cl (O.part.at_ 5 rfl) rfl ⟨rfl,_,rfl,?_⟩⟩;rw[lj];refine Sb (fun h=> ?_) (fun h=> ?_)
 ·rw[ah (az h)] at kk;refine⟨_,rfl,_,rfl,_,_,_,rfl,hg,by lia,by lia,fun x1 H1 t1 hx1=> ?_⟩;exact⟨di (by simp),iC t1 hx1 kk⟩
 ·rw[af (fun e=>h (aj e))] at kk;refine⟨_,rfl,_,_,rfl,hu,fun x1 H1 t1 hx1=> ?_⟩;exact⟨di (by simp),iC t1 hx1 kk⟩
noncomputable abbrev rZ:Stmt:=top 57
theorem DN:dD ["setting","k"] ["setting","k"] (dk rZ):=sco
theorem DO(O:gr K c)(gU:eV P w K mg base "voltage_source_laws" ["setting","k"] 4 (jB c AY fun g k=>[c9.Bh g k (c9.lL (pat g k))]))(dI:eV P w K mg base "current_of" ["setting","k"] 1 (fC c))(G:iN K mg "diode_laws" rZ ["setting","k"]):eV P w K mg base "diode_laws" ["setting","k"] 5 (jB c AY fun g k=>if g.gF.getD k false=true then[c9.Bh g k (c9.lL (pat g k))] else[c9.cur g k]):=by
 have sc:=DN;refine G.i8 sc fun f cdv A outer s H vs Q E hr h=> ?_
 obtain⟨v,g,k,rfl,hg,ok,hk,kd,kk⟩:=h;refine⟨rfl,_,(df (fk (fb K (dW (i0 K) (dq K (pv 0) rfl) (pv 1) (fun _ _=>rfl)) (fun _=>rfl)) (dj (dC (dy gU hr (c7 (pv 0) (c7 (pv 1) dc))))) d8)
   (dj (dC (dO (c7 (dy dI hr (c7 (pv 0) (c7 (pv 1) dc))) dc))))),?_⟩
 obtain⟨a,dx,vn,vs,vst,vd,vp,rfl,ha,_,hs,⟨sa,rfl,hsa⟩,_⟩:=id hg;have hb:(g.gF.map V.bl)[k]? =some (.bl (g.gF.getD k false)):=by
  rw[aA,dw (d:=false) (by rw[ok.st];exact hk)];rfl
 refine⟨_,rfl,dY ha O.jL.cl (O.jL.at_ 2 rfl) rfl ⟨_,rfl,jW (.of hsa) (dM (j:=k) rfl hb) ⟨_,rfl,?_⟩⟩⟩;change xO H Q (if g.gF.getD k false=true then[c9.Bh g k (c9.lL (pat g k))] else[c9.cur g k]) at kk;cases e:g.gF.getD k false with
 |true=>
  rw[e,ah rfl] at kk;exact eZ ⟨_,rfl,_,rfl,_,_,_,rfl,hg,ok,hk,trivial,kk⟩
 |false=>
  rw[e,af (by decide)] at kk;refine fh ⟨_,rfl,_,rfl,_,_,_,rfl,hg,by lia,by lia,fun x1 H1 t1 hx1=> ?_⟩;exact⟨di (by simp),iC t1 hx1 kk⟩
noncomputable abbrev j5:Stmt:=top 54
theorem vh:dD ["setting","k","part","first","second"] ["setting","k"] (dk j5):=sco
theorem vi(O:gr K c)(dP:eV P w K mg base "times_number" ["part","left","right"] 3 (fR c))(d3:eV P w K mg base "voltage_of" ["part"] 2 (gi c))(d4:eV P w K mg base "controlling_voltage" ["part"] 2 (fP c))(dI:eV P w K mg base "current_of" ["setting","k"] 1 (fC c))(fW:eV P w K mg base "scaled" ["terms","polynomial"] 2 nU)(G:iN K mg "transformer_laws" j5 ["setting","k"]):eV P w K mg base "transformer_laws" ["setting","k"] 5 (jB c AY fun g k=>[c9.oa (pat g k) (c9.lL (pat g k)) (c9.FQ (pat g k)),c9.oa (pat g k) [((c9.places g.dZ).getD k 0+1,[1])] (c9.rC (c9.cur g k) [-1])]):=by
 have sc:=vh;refine G.i8 sc fun f cdv A outer s H vs Q E hr h=> ?_
 obtain⟨v,g,k,rfl,hg,ok,hk,kd,kk⟩:=h;refine⟨rfl,_,(df (dX (i:=2) sc.nd (dW (i0 K) (dq K (dq K (pv 0) rfl) rfl) (pv 1) (fun _ _=>rfl)))
   (df (dX (i:=3) sc.nd (dy dI hr (c7 (pv 0) (c7 (pv 1) dc))))
   (df (dX (i:=4) sc.nd (dO (c7 (gj (c7 (eO jM (dW (i0 K) (dq K (pv 0) rfl) (pv 1) (fun _ _=>rfl)) dz) (c7 (dO (c7 dz dc)) dc))) dc)))
   (dj (dC (dO (c7 (dy dP hr (c7 (pv 2) (c7 (dy d3 hr (c7 (pv 2) dc)) (c7 (dy d4 hr (c7 (pv 2) dc)) dc)))) (c7 (dy dP hr (c7 (pv 2) (c7 (pv 4) (c7 (dy fW hr (c7 (pv 3) (c7 (dO (c7 (jQ ic dz) dc)) dc))) dc)))) dc)))))))),?_⟩
 refine mF O hg hk rfl rfl fun u hu=> ?_
 refine⟨_,rfl,_,rfl,_,_,_,rfl,hg,by lia,by lia,fun x1 H1 t1 hx1=> ?_⟩;have hg1:=hg.same t1;obtain⟨a,dx,vn,vs,vst,vd,vp,rfl,ha,_,hs,_,_,⟨pa,rfl,hpl⟩⟩:=id hg1;have hj:k<(c9.places g.dZ).length:=by rw[places_len];exact hk
 refine⟨_,rfl,dY ha O.jL.cl (O.jL.at_ 4 rfl) rfl ⟨_,rfl,jW (.of hpl) (dM (j:=k) rfl (ie hj)) (oY ⟨di (by simp),fun p hp=>⟨di (by simp),fun t ht=>⟨di (by simp),fun q hq=> ?_⟩⟩⟩)⟩⟩;obtain⟨s2,hx2⟩:=Gz (H:=H1) (H1:=upd H1 p (.lst [.int 1])) (l:=[1]) (x:=(c9.places g.dZ).getD k 0+1) (dt hp) hp dh ht hq;generalize hH2:upd (upd (upd H1 p (.lst [.int 1])) t (.tup [.int ((c9.places g.dZ).getD k 0+1),.ref p])) q (.lst [.ref t])=H2 at s2 hx2;have hu2:=hu.same (t1.trans s2);have u2:nA [((c9.places g.dZ).getD k 0+1,[1])]:=fun t ht=>by
  have:t=((c9.places g.dZ).getD k 0+1,[1]):=by simpa using ht
  subst this;simp
 refine⟨_,rfl,_,rfl,_,_,rfl,hu2,fun x3 H3 t3 hx3=> ?_⟩;refine⟨_,rfl,_,_,rfl,hu2.same t3,fun x4 H4 t4 hx4=> ?_⟩;refine⟨_,_,_,_,_,_,rfl,hu2.same (t3.trans t4),toF (eX.same hx3 t4),toF hx4,Rx _,Vp _,AF _,O5 _,fun x5 H5 t5 hx5=> ?_⟩;have t25:=(t3.trans t4).trans t5;refine⟨_,rfl,_,rfl,_,rfl,_,rfl,di (by simp),fun p6 hp6=> ?_⟩;have s6:=dt (o:= .lst [.int (-1)]) hp6;refine⟨_,_,_,[-1],rfl,toF (eX.same hx1 ((s2.trans t25).trans s6)),⟨p6,rfl,dh⟩,O6 _ _,aw (uz _ _) (by decide),by unfold Short;simp,fun x7 H7 t7 hx7=> ?_⟩;refine⟨_,_,_,_,_,_,rfl,hu2.same ((t25.trans s6).trans t7),toF (eX.same hx2 ((t25.trans s6).trans t7)),toF hx7,u2,zD (O6 _ _) (LG _ _) (.inr (.inr rfl)),by simp,by rw[nL];exact uz _ _,fun x8 H8 t8 hx8=> ?_⟩;refine⟨di (by simp),fun r hr'=> ?_⟩;have s9:=dt (o:= .lst [x5,x8]) hr';have t28:=(s6.trans t7).trans t8;have all:dJ H H8:=(((t1.trans s2).trans t25).trans t28);refine kk _ _ (all.trans s9) ⟨r,_,rfl,fun z=>z (all.free hr'),dh,.cons ?_ (.cons ?_ .nil)⟩
 ·exact eX.same (eX.same (eX.less hx5 (fV (((t1.trans s2).trans t3).trans t4))) t28) s9
 ·exact eX.same (eX.less hx8 (fV (((t1.trans s2).trans t25).trans (s6.trans t7)))) s9
end
theorem no_ref{l:List Int}{a:Addr}(h:V.ref a∈l.map V.int):False:=by
 obtain⟨z,_,e⟩:=aN.mp h;cases e
theorem xT{H:Hp}{a:Addr}{x y:List V}(h:H a=some (.lst x))(h':H a=some (.lst y)):x=y:=by
 rw[h] at h';cases h'
 rfl
theorem _root_.PySem.Paired.LH{α β:Type}{F G:α->β->Prop}:∀{l:List α} {m:List β},Paired F l m->(∀a b,a∈l->F a b->G a b)->Paired G l m
 |_,_,.nil,_=> .nil
 |_,_,.cons r t,f=> .cons (f _ _ ax r) (t.LH fun a b ha=>f a b (ak _ ha))
theorem zI{S:Addr->Prop}{H:Hp}{p:Addr}{vs:List V}{v:V}{l:List Int}{a:Addr}(hp:H p=some (.lst vs))(hm:V.ref a∈vs)(h:sP S H v l):sP (fM S p) H v l:=by
 obtain⟨b,e,hs,hb⟩:=h;refine⟨b,e,fun q=>q.elim hs fun z=> ?_,hb⟩;rw[z] at hb;rw[xT hp hb] at hm;exact no_ref hm
theorem CT{S:Addr->Prop}{H:Hp}{p:Addr}{vs:List V}{v:V}{t:Int×List Int}{a:Addr}(hp:H p=some (.lst vs))(hm:V.ref a∈vs)(h:lD S H v t):lD (fM S p) H v t:=by
 obtain⟨b,x,e,hs,hb,hx⟩:=h;refine⟨b,x,e,fun q=>q.elim hs fun z=> ?_,hb,zI hp hm hx⟩;rw[z,hp] at hb;cases hb
theorem O7{S:Addr->Prop}{H:Hp}{p:Addr}{vs:List V}{l:List (Int×List Int)}(hp:H p=some (.lst vs))(h:Paired (lD S H) vs l):Paired (lD (fM S p) H) vs l:=h.LH fun v x hv q=>by
 obtain⟨a,_,rfl,_,_⟩:=id q;exact CT hp hv q
theorem QP{S:Addr->Prop}{H:Hp}{p:Addr}{vs:List V}{l:List (List (Int×List Int))}(hp:H p=some (.lst vs))(h:Paired (rN S H) vs l):Paired (rN (fM S p) H) vs l:=h.LH fun v x hv q=>by
 obtain⟨a,us,rfl,hs,ha,hu⟩:=q;refine⟨a,us,rfl,fun z=>z.elim hs fun e=> ?_,ha,hu.gQ fun u t ht=>CT hp hv ht⟩;rw[e] at ha hv;have e2:=xT ha hp;rw[<-e2] at hv;obtain⟨i,hi⟩:=List.getElem?_of_mem hv;obtain⟨_,_,b,_,e3,_,hb,_⟩:=hu.mR hi;cases e3
 rw[hp] at hb;cases hb
theorem QQ{S:Addr->Prop}{H:Hp}{p:Addr}{vs:List V}{l:List (List (List Int))}(hp:H p=some (.lst vs))(h:Paired (uo S H) vs l):Paired (uo (fM S p) H) vs l:=h.LH fun v x hv q=>by
 obtain⟨a,us,rfl,hs,ha,hu⟩:=q;refine⟨a,us,rfl,fun z=>z.elim hs fun e=> ?_,ha,hu.gQ fun u t ht=>zI hp hv ht⟩;rw[e] at ha hv;have e2:=xT ha hp;rw[<-e2] at hv;obtain⟨i,hi⟩:=List.getElem?_of_mem hv;obtain⟨_,_,b,e3,_,hb⟩:=hu.mR hi;cases e3
 rw[xT ha hb] at hv;exact no_ref hv
noncomputable def Ry (H:Hp) (u:V) (x:Int×Int×Int):Prop:=∃r,u= .ref r/\H r=some (.tup [.int x.1,.int x.2.1,.int x.2.2])
theorem Ry.same{H H':Hp}{u:V}{x:Int×Int×Int}(h:Ry H u x)(s:dJ H H'):Ry H' u x:=let ⟨r,e,q⟩:=h;⟨r,e,s _ _ q⟩
noncomputable def Vr (H:Hp) (v:V) (l:List (Int×Int×Int)):Prop:=∃a vs,v= .ref a/\H a=some (.lst vs)/\Paired (Ry H) vs l
theorem QR{H4:Hp}{q t:Addr}{us:List V}{sh:List (Int×Int×Int)}{x:Int×Int×Int}(hq:H4 q=some (.lst us))(hu:Paired (Ry H4) us sh)(ht:H4 t=some (.tup [.int x.1,.int x.2.1,.int x.2.2])):
  Paired (Ry (upd H4 q (.lst (us ++ [.ref t])))) (us ++ [.ref t]) (sh ++ [x]):=by
 have k:∀(y:Addr) (l:List V),H4 y=some (.tup l)->(upd H4 q (.lst (us ++ [.ref t]))) y=some (.tup l):=fun y l h=>by
  rw[d6 (G0 h hq (by intro z;cases z))];exact h
 exact(hu.gQ fun u y ⟨r,e,hr⟩=>⟨r,e,k _ _ hr⟩).jw ⟨t,rfl,k _ _ ht⟩
section
variable {P:Program}{w:World}{K:PySem.W.Frag}{mg:Str->Option Value}{base:Heap}{c:Cs}
noncomputable def Rz (k:Int) (p:c9.Part):Bool:=decide (p.kind=3/\(k=p.a\/k=p.b))
noncomputable def UM (k:Int) (p:c9.Part):Int×Int×Int:=(p.a+p.b - k,p.top,p.dE)
theorem Fc(ps:List c9.Part)(k:Nat):c9.eQ ps k=((k:Int),(ps.getD k c9.p0).top,(ps.getD k c9.p0).dE)::(ps.filter (Rz k)).map (UM k):=rfl
theorem Uy(k a b:Int):KN (.int k) [.int a,.int b]=decide (k=a\/k=b):=by
 by_cases h1:k=a
 ·subst h1;simp[KN,L3]
 ·by_cases h2:k=b
  ·subst h2;simp[KN,L3]
  ·simp[KN,L3,h1,h2,bK h1,bK h2]
noncomputable abbrev qD:Stmt:=top 46
theorem CU:dD ["parts","k","shares","part"] ["parts","k"] (dk qD):=sco
noncomputable def uA (c:Cs):Sp:=fun vs H Q _=>∃v ps k,vs=[v,.int ((k:Nat):Int)]/\nJ c H v ps/\k<ps.length/\ps.length<=20/\∀z H',dJ H H'->Vr H' z (c9.eQ ps k)->Q z H'
theorem CV(T:Txt2 mg)(O:gr K c)(G:iN K mg "coil_shares" qD ["parts","k"]):eV P w K mg base "coil_shares" ["parts","k"] 1 (uA c):=by
 have sc:=CU;refine G.i8 sc fun f cdv A outer s H vs Q E hr h=> ?_
 obtain⟨v,ps,k,rfl,⟨a,ws,rfl,ha,hps⟩,hk,hl,kk⟩:=h;have ll:=hps.length;refine⟨rfl,_,(df (dX (i:=2) sc.nd (dO (c7 (gj (c7 (pv 1) (c7 (dq K (dW (i0 K) (pv 0) (pv 1) (fun _ _=>rfl)) rfl) (c7 (dq K (dW (i0 K) (pv 0) (pv 1) (fun _ _=>rfl)) rfl) dc)))) dc)))
   (df (gW PassesOwn.never rfl (fu (pv 0)) (eY (i:=3) sc.nd) (dj (fk (PW.pt (Jb (eJ iV (dq K (pv 3) rfl) (gc T.iR) (eF _)) (Ft (eJ (Jp K) (pv 1) (gj (c7 (dq K (pv 3) rfl) (c7 (dq K (pv 3) rfl) dc))) (by with_unfolding_all rfl))))) (dj (jg (pL aV a4 a5 g6 (pv 2) (c7 (gj (c7 (eO nX (eO jM (dq K (pv 3) rfl) (dq K (pv 3) rfl)) (pv 1)) (c7 (dq K (pv 3) rfl) (c7 (dq K (pv 3) rfl) dc)))) dc)))) d8)))
   (dj (dC (pv 2))))),?_⟩
 obtain⟨u,hu,pa,pdx,rfl,hpa⟩:=hps.ko (dw (d:=c9.p0) hk);refine⟨_,rfl,_,rfl,_,rfl,jW (.of ha) (dM (j:=k) rfl hu) (dY hpa O.part.cl (O.part.at_ 5 rfl) rfl ?_)⟩;refine⟨_,rfl,_,rfl,jW (.of ha) (dM (j:=k) rfl hu) (dY hpa O.part.cl (O.part.at_ 6 rfl) rfl ?_)⟩;refine⟨di (by simp),fun t ht=>⟨di (by simp),fun q hq=> ?_⟩⟩;have s1:=dt (o:= .tup [.int (k:Int),.int (ps.getD k c9.p0).top,.int (ps.getD k c9.p0).dE]) ht;have s2:=s1.trans (dt (o:= .lst [.ref t]) hq);have hqH:H q=none:=s1.free hq;refine⟨_,rfl,a,rfl,⟨_,.of (s2 _ _ ha)⟩,jK (fw (K:=K) (.of ha)) (fun i σ H'=>∃x3 us,σ=[some (.ref a),some (.int (k:Int)),some (.ref q),x3]/\dJ H H'/\H' q=some (.lst us)/\us.length<=i+1/\Paired (Ry H') us (((k:Int),(ps.getD k c9.p0).top,(ps.getD k c9.p0).dE)::((ps.take i).filter (Rz k)).map (UM k))) ?_ (fun i σ H' ⟨_,_,_,s,_⟩=>s) ?_ ?_⟩
 ·exact⟨none,_,rfl,s2,dh,by simp,.cons ⟨t,rfl,dt hq _ _ dh⟩ .nil⟩
 ·rintro i x σ H1 H2 hi ⟨x3,us,rfl,s3,hq1,hul,hus⟩ s4 s12 hx;obtain⟨p,hp,pb,pbx,rfl,hpb⟩:=hps.mR hx;have hq2:=s12 _ _ hq1;have hpb2:=s4 _ _ hpb;have hus2:=hus.gQ fun u y z=>z.same s12
  have keep:Rz k p=false->∀H3,dJ H2 H3->∃x3 us,[some (V.ref a),some (V.int (k:Int)),some (V.ref q),some (V.ref pb)]=[some (V.ref a),some (V.int (k:Int)),some (V.ref q),x3]/\dJ H H3/\H3 q=some (.lst us)/\us.length<=i+1+1/\Paired (Ry H3) us (((k:Int),(ps.getD k c9.p0).top,(ps.getD k c9.p0).dE)::((ps.take (i+1)).filter (Rz k)).map (UM k)):=fun e H3 s5=>by
   refine⟨_,us,rfl,s4.trans s5,s5 _ _ hq2,by lia,?_⟩;rw[aZ,hp,bL];have:(Option.some p).toList.filter (Rz k)=[]:=by simp[e]
   rw[this,bU];exact hus2.gQ fun u y z=>z.same s5
  refine⟨_,rfl,dY hpb2 O.part.cl (O.part.at_ 0 rfl) rfl ⟨rfl,_,rfl,?_⟩⟩;rw[lj];by_cases h3:p.kind=3
  ·rw[aj h3];refine eZ ⟨_,rfl,_,rfl,dY hpb2 O.part.cl (O.part.at_ 1 rfl) rfl ⟨_,rfl,dY hpb2 O.part.cl (O.part.at_ 2 rfl) rfl ⟨di (by simp),fun r hr'=> ?_⟩⟩⟩;have s5:=dt (o:= .tup [.int p.a,.int p.b]) hr';refine⟨r,_,rfl,.inr (.of dh),rfl,rfl,_,rfl,?_⟩;show if(KN (.int (k:Int)) [.int p.a,.int p.b])=true then _ else _
   rw[Uy];by_cases h4:(k:Int)=p.a\/(k:Int)=p.b
   ·rw[aj h4];have hpb3:=s5 _ _ hpb2;refine eZ ⟨_,rfl,.inl ⟨rfl,_,.of (s5 _ _ hq2)⟩,?_⟩;refine⟨_,rfl,dY hpb3 O.part.cl (O.part.at_ 1 rfl) rfl ⟨_,rfl,dY hpb3 O.part.cl (O.part.at_ 2 rfl) rfl (oY ⟨_,rfl,oY ⟨_,rfl,dY hpb3 O.part.cl (O.part.at_ 5 rfl) rfl ⟨_,rfl,dY hpb3 O.part.cl (O.part.at_ 6 rfl) rfl ⟨di (by simp),fun t2 ht2=> ?_⟩⟩⟩⟩)⟩⟩;have s6:=dt (o:= .tup [.int (p.a+p.b - (k:Int)),.int p.top,.int p.dE]) ht2;have hq3:=s6 _ _ (s5 _ _ hq2);refine⟨q,us,_,rfl,rfl,hq3,dH (by lia),_,_,rfl,(((s4.trans s5).trans s6).over hqH),dh,by simp;lia,?_⟩;have hF:Rz k p=true:=aj ⟨h3,h4⟩;rw[aZ,hp,bL];have:(Option.some p).toList.filter (Rz k)=[p]:=by simp[hF]
    rw[this,aO];exact QR (x:=UM k p) hq3 (hus2.gQ fun u y z=>(z.same s5).same s6) dh
   ·rw[ao h4];exact fh (keep (ao fun h=>h4 h.2) _ s5)
  ·rw[ao h3];exact fh (fh (keep (ao fun h=>h3 h.1) _ (.refl _)))
 ·rintro σ H1 ⟨x3,us,rfl,s3,hq1,hul,hus⟩;refine⟨_,rfl,kk _ H1 s3 ⟨q,us,rfl,hq1,?_⟩⟩;rw[ll,aG] at hus;rw[Fc];exact hus
end
noncomputable def O8:c9.lh->Nat->Prop:=fun g k=>∀x∈c9.eQ g.dZ.c8 k,0<=x.1/\x.1<g.dZ.c8.length/\1<=x.2.2/\x.2.2<=1000000/\x.2.1.natAbs<=1000000
theorem J8(ps:List c9.Part)(k:Nat):(c9.eQ ps k).length<=ps.length+1:=by
 rw[Fc,aq,lMp];have:=cJ (Rz k) ps;lia
noncomputable def S9 (g:c9.lh) (cm:Int) (x:Int×Int×Int):List (Int×List Int):=c9.rC (c9.rC (c9.cur g x.1) g.s) (c9.cst (-x.2.1*cm.fdiv x.2.2))
theorem J9(g:c9.lh)(k:Nat):c9.mz g k=c9.rC (c9.lL (pat g k)) (c9.cst (c9.common (c9.eQ g.dZ.c8 k))) ++ (c9.eQ g.dZ.c8 k).flatMap (S9 g (c9.common (c9.eQ g.dZ.c8 k))):=rfl
theorem xU{α β:Type}(f:α->List β)(l:List α)(i:Nat)(x:α)(h:l[i]? =some x):(l.take (i+1)).flatMap f=(l.take i).flatMap f ++ f x:=by
 rw[aZ,h,bS];simp
theorem LJ(g:c9.lh)(cm:Int)(x:Int×Int×Int):(S9 g cm x).length<=2:=by
 unfold S9;rw[nL,nL];exact(zC g x.1).2
theorem ug(g:c9.lh)(cm:Int):∀l:List (Int×Int×Int),(l.flatMap (S9 g cm)).length<=2*l.length
 |[]=>by simp
 |x::l=>by
  rw[bb,ay,aq];have:=ug g cm l;have:=LJ g cm x;lia
section
variable {P:Program}{w:World}{K:PySem.W.Frag}{mg:Str->Option Value}{base:Heap}{c:Cs}
noncomputable abbrev uB:Stmt:=top 45
theorem GA:dD ["setting","k","shares","common","share","law","coil","top","bottom"] ["setting","k"] (dk uB):=sco
theorem GB(O:gr K c)(qE:eV P w K mg base "coil_shares" ["parts","k"] 1 (uA c))(d3:eV P w K mg base "voltage_of" ["part"] 2 (gi c))(dI:eV P w K mg base "current_of" ["setting","k"] 1 (fC c))(fW:eV P w K mg base "scaled" ["terms","polynomial"] 2 nU)(gB:eV P w K mg base "constant" ["x"] 1 pW)(G:iN K mg "coil_laws" uB ["setting","k"]):eV P w K mg base "coil_laws" ["setting","k"] 5 (jB c O8 fun g k=>[c9.mz g k]):=by
 have sc:=GA;refine eV.mono (j:=4) (G.i8 sc fun f cdv A outer s H vs Q E hr h=> ?_) (by decide);obtain⟨v,g,k,rfl,hg,ok,hk,kd,kk⟩:=h;have hp20:=ok.c8;refine⟨rfl,_,(df (dX (i:=2) sc.nd (dy qE hr (c7 (dq K (dq K (pv 0) rfl) rfl) (c7 (pv 1) dc))))
   (df (dX (i:=3) sc.nd dz)
   (df (gW PassesOwn.never rfl (fu (pv 2)) (eY (i:=4) sc.nd) (dj (Jd (i:=3) sc.nd rfl (Or.inl rfl) (dW (PD K) (pv 4) dz (fun _ _=>rfl)) Qn)))
   (df (dX (i:=5) sc.nd (dy fW hr (c7 (dy d3 hr (c7 (dW (i0 K) (dq K (dq K (pv 0) rfl) rfl) (pv 1) (fun _ _=>rfl)) dc)) (c7 (dy gB hr (c7 (pv 3) dc)) dc))))
   (df (gW PassesOwn.never rfl (fu (pv 2)) (kh K (n:=3) rfl (fm (eY (i:=6) sc.nd) (fm (eY (i:=7) sc.nd) (fm (eY (i:=8) sc.nd) kf)))) (dj (jg (pL aV PySem.F.slot_list_extend PySem.F.type_list_extend Eg (pv 5) (c7 (dy fW hr (c7 (dy fW hr (c7 (dy dI hr (c7 (pv 0) (c7 (pv 6) dc))) (c7 (dq K (pv 0) rfl) dc))) (c7 (dy gB hr (c7 (eO il (jQ ic (pv 7)) (eO BG (pv 3) (pv 8))) dc)) dc))) dc)))))
   (dj (dC (dO (c7 (pv 5) dc))))))))),?_⟩
 obtain⟨ga,gdx,gvn,gvs,gvst,gvd,gvp,rfl,hga,⟨na,ndx,nvp,rfl,hna,pa,ws,rfl,hpa,hps⟩,_⟩:=id hg;refine⟨_,rfl,dY hga O.jL.cl (O.jL.at_ 0 rfl) rfl (dY hna O.dZ.cl (O.dZ.at_ 1 rfl) rfl ⟨_,rfl,_,_,_,rfl,⟨pa,ws,rfl,hpa,hps⟩,hk,hp20,fun z H1 s1 hz=> ?_⟩)⟩;obtain⟨sa,us,rfl,hsa,hus⟩:=hz;have ll:=hus.length;have lsh:=J8 g.dZ.c8 k;refine⟨_,rfl,sa,rfl,⟨_,.of hsa⟩,jK (fw (K:=K) (.of hsa)) (fun i σ H'=>∃x4,σ=[some (.ref ga),some (.int (k:Int)),some (.ref sa),some (.int (c9.common ((c9.eQ g.dZ.c8 k).take i))),x4,none,none,none,none]/\dJ H1 H') ⟨none,rfl,.refl _⟩ (fun i σ H' ⟨_,_,s⟩=>s) ?_ ?_⟩
 ·rintro i x σ H2 H3 hi ⟨x4,rfl,s2⟩ s3 s23 hx;obtain⟨y,hy,t,rfl,ht⟩:=hus.mR hx;obtain⟨_,_,b1,b2,_⟩:=kd y (aB hy);refine⟨_,rfl,_,rfl,jW (.of (s3 _ _ ht)) (dM (j:=2) rfl rfl) ⟨_,_,rfl,rfl,.of_right (intBits_le_64 (by lia) (by lia)),some (.ref t),?_,s3⟩⟩;unfold c9.common;rw[aZ,hy,cN];rfl
 ·rintro σ H2 ⟨x4,rfl,s2⟩;rw[ll,aG];have hg2:=hg.same (s1.trans s2);obtain⟨_,gdx2,_,_,_,_,_,e0,hga2,⟨na2,ndx2,_,rfl,hna2,pa2,ws2,rfl,hpa2,hps2⟩,_⟩:=id hg2;cases e0
  obtain⟨u,hu0,hu⟩:=hps2.ko (dw (d:=c9.p0) hk);refine⟨_,rfl,dY hga2 O.jL.cl (O.jL.at_ 0 rfl) rfl (dY hna2 O.dZ.cl (O.dZ.at_ 1 rfl) rfl ⟨_,rfl,jW (.of hpa2) (dM (j:=k) rfl hu0) ?_⟩)⟩;refine⟨_,_,rfl,hu,fun x1 H3 s3 hx1=> ?_⟩;refine⟨_,rfl,_,rfl,fun q H4 hq s4 hq4=> ?_⟩;refine⟨_,_,_,_,rfl,toF (eX.same hx1 s4),⟨q,rfl,hq4⟩,Rx _,aw (AF _) (by decide),qZ _,fun x2 H5 s5 hx2=> ?_⟩;obtain⟨la,lv,rfl,nla,hla,hlv⟩:=hx2;have s24:=(s2.trans s3).trans s4;have laH4:H4 la=none:=cM.mp nla;have laH:H la=none:=(s1.trans s24).free laH4;have laH1:H1 la=none:=s24.free laH4;have lown:Paired (lD (fM (fU H) la) H5) lv (c9.rC (c9.lL (pat g k)) (c9.cst (c9.common (c9.eQ g.dZ.c8 k)))):=O7 hla (hlv.gQ fun _ _ q=>iY.less q (fV (s1.trans s24)));have s15:=s24.trans s5;refine⟨_,rfl,sa,rfl,⟨_,.of (s15 _ _ hsa)⟩,jK (fw (K:=K) (.of hsa)) (fun i σ H'=>∃x6 x7 x8 lv,σ=[some (.ref ga),some (.int (k:Int)),some (.ref sa),some (.int (c9.common (c9.eQ g.dZ.c8 k))),x4,some (.ref la),x6,x7,x8]/\dJ H1 H'/\H' la=some (.lst lv)/\Paired (lD (fM (fU H) la) H') lv (c9.rC (c9.lL (pat g k)) (c9.cst (c9.common (c9.eQ g.dZ.c8 k))) ++ ((c9.eQ g.dZ.c8 k).take i).flatMap (S9 g (c9.common (c9.eQ g.dZ.c8 k))))) ?_ (fun i σ H' ⟨_,_,_,_,_,s,_⟩=>s) ?_ ?_⟩
  ·exact⟨none,none,none,lv,rfl,s15,hla,by simpa using lown⟩
  ·rintro i x σ H6 H7 hi ⟨x6,x7,x8,lv6,rfl,s6,hla6,hlv6⟩ s7 s67 hx;obtain⟨y,hy,t,rfl,ht⟩:=hus.mR hx;obtain⟨b0,b1,b2,b3,b4⟩:=kd y (aB hy);refine⟨t,_,rfl,.of (s7 _ _ ht),rfl,_,_,rfl,_,_,rfl,_,_,rfl,rfl,?_⟩;have hla7:=s67 _ _ hla6;refine⟨_,rfl,.inl ⟨rfl,_,.of hla7⟩,?_⟩;have hg7:=hg.same (s1.trans s7);refine⟨_,rfl,_,rfl,_,_,_,rfl,hg7,b0,b1,fun y1 H8 s8 hy1=> ?_⟩;have hg8:=hg7.same s8;obtain⟨a,dx,vn,vs,vst,vd,vp,e8,ha,_,hs,_⟩:=id hg8;cases e8
   have sh:Short g.s:=by
    unfold Short;rcases ok.s with e |e <;>rw[e] <;>simp
   have lu:nA (c9.rC (c9.cur g y.1) g.s):=zD (O6 _ _) (LG _ _) (ok.s.elim .inl fun e=> .inr (.inl e));refine⟨_,rfl,dY ha O.jL.cl (O.jL.at_ 1 rfl) rfl ⟨_,_,_,_,rfl,toF hy1,hs,O6 _ _,aw (uz _ _) (by decide),sh,fun y2 H9 s9 hy2=> ?_⟩⟩;refine⟨_,rfl,_,rfl,_,rfl,_,rfl,_,_,rfl,rfl,⟨by lia,?_⟩,_,_,rfl,rfl,.of_left (intBits_le_64 (by lia) (by lia)),_,rfl,fun q2 H10 hq2 s10 hq10=> ?_⟩
   ·have h1:y.2.2.natAbs≠0:=by lia
    have h2:y.2.2.natAbs<2^9000:=aS (show y.2.2.natAbs<2^20 by lia) (bx (by decide) (by decide));exact(Nat.log2_lt h1).mpr h2
   refine⟨_,_,_,_,rfl,toF (eX.same hy2 s10),⟨q2,rfl,hq10⟩,lu,by rw[nL];exact aw (uz _ _) (by decide),qZ _,fun y3 H11 s11 hy3=> ?_⟩;obtain⟨ya,yv,rfl,nya,hya,hyv⟩:=hy3;have s711:=((s8.trans s9).trans s10).trans s11;have hla11:=s711 _ _ hla7;have hl6:=hlv6.length;have hy3l:=hyv.length;have e1:=LJ g (c9.common (c9.eQ g.dZ.c8 k)) y;have e2:=ug g (c9.common (c9.eQ g.dZ.c8 k)) ((c9.eQ g.dZ.c8 k).take i);have e3:(c9.rC (c9.lL (pat g k)) (c9.cst (c9.common (c9.eQ g.dZ.c8 k)))).length<=2:=by rw[nL];exact(rb _ _).2
   rw[ay] at hl6;rw[aC] at e2;have hy3l':yv.length<=2:=by rw[hy3l];exact e1
   refine⟨la,ya,_,_,rfl,rfl,hla11,hya,di (by lia),_,_,_,_,rfl,(s7.trans s711).over laH1,dh,?_⟩;rw[xU _ _ _ _ hy,<-cK];have od:Off (fM (fU H) la) H11 (upd H11 la (.lst (lv6 ++ yv))):=fD (.inr rfl);refine((hlv6.iZ iY (s67.trans s711)).uq iY od).app ?_;have hyv2:Paired (lD (fM (fU H) la) H11) yv (S9 g (c9.common (c9.eQ g.dZ.c8 k)) y):=hyv.gQ fun _ _ q=>iY.yH q fun a ha=>by
    have sAll:dJ H H10:=((((s1.trans s7).trans s8).trans s9).trans s10);rcases ha with ha |ha
    ·exact .inl (fV sAll a ha)
    ·refine .inl fun z=> ?_
     rw[ha] at z;have:=(((s8.trans s9).trans s10)) _ _ hla7;rw[z] at this;cases this
   exact hyv2.uq iY od
  ·rintro σ H6 ⟨x6,x7,x8,lv6,rfl,s6,hla6,hlv6⟩;rw[ll,aG,<-J9] at hlv6;refine⟨_,rfl,di (by simp),iC (s1.trans s6) ⟨la,lv6,rfl,fun z=>z laH,hla6,hlv6.Ng iY⟩ kk⟩
end
noncomputable abbrev Ta:=Int×List Int
noncomputable def NS (H0:Hp) (D:Addr) (qs:List Addr):Addr->Prop:=fun a=>fU H0 a\/a=D\/a∈qs
structure NI(H0 H:Hp)(D:Addr)(qs:List Addr)(b:Nat)(tm:Nat->List Ta):Prop where
 same:dJ H0 H
 hD:H D=some (.lst (qs.map V.ref))
 nd:qs.Nodup
 nD:D∉qs
 d0:H0 D=none
 q0:∀q∈qs,H0 q=none
 len:∀v,(tm v).length<=b
 at_:∀v q,qs[v]? =some q->∃us,H q=some (.lst us)/\Paired (lD (NS H0 D qs) H) us (tm v)
theorem NI.grow{H0 H H':Hp}{D:Addr}{qs:List Addr}{b:Nat}{tm:Nat->List Ta}(N:NI H0 H D qs b tm)(s:dJ H H'):NI H0 H' D qs b tm:=
 ⟨N.same.trans s,s _ _ N.hD,N.nd,N.nD,N.d0,N.q0,N.len,fun v q hq=>let ⟨us,h1,h2⟩:=N.at_ v q hq;⟨us,s _ _ h1,h2.iZ iY s⟩⟩
theorem NI.VY{H0 H:Hp}{D:Addr}{qs:List Addr}{b:Nat}{tm:Nat->List Ta}(N:NI H0 H D qs b tm):Nf (NS H0 D qs) H:=fun a ha z=>by
 rcases ha with ha |ha |ha
 ·exact ha (N.same.free z)
 ·rw[ha,N.hD] at z;cases z
 ·obtain⟨i,hi⟩:=List.getElem?_of_mem ha;obtain⟨us,h1,_⟩:=N.at_ i a hi;rw[h1] at z;cases z
theorem NI.push{H0 H:Hp}{D:Addr}{qs:List Addr}{b:Nat}{tm:Nat->List Ta}(N:NI H0 H D qs b tm){z:Nat}{q p t:Addr}{us:List V}{x y:Int}(hz:qs[z]? =some q)(hq:H q=some (.lst us))(hp:H p=none)(ht:upd H p (.lst [.int y]) t=none):
  NI H0 (upd (upd (upd H p (.lst [.int y])) t (.tup [.int x,.ref p])) q (.lst (us ++ [.ref t]))) D qs (b+1) (fun v=>tm v ++ if v=z then[(x,[y])] else[]):=by
 have s3:=dt (o:= .lst [.int y]) hp;have s4:=dt (o:= .tup [.int x,.ref p]) ht;have N4:=N.grow (s3.trans s4);have np:¬NS H0 D qs p:=N.VY.new hp;have nt:¬NS H0 D qs t:=(N.grow s3).VY.new ht;have hqm:q∈qs:=aB hz;have od:∀o,Off (NS H0 D qs) (upd (upd H p (.lst [.int y])) t (.tup [.int x,.ref p])) (upd (upd (upd H p (.lst [.int y])) t (.tup [.int x,.ref p])) q o):=fun o=>fD (.inr (.inr hqm))
 refine⟨N4.same.over (N.q0 q hqm),?_,N.nd,N.nD,N.d0,N.q0,fun v=> ?_,fun v r hr=> ?_⟩
 ·rw[d6 fun e=>N.nD (by rw[e];exact hqm)];exact N4.hD
 ·have:=N.len v;rw[ay];split <;>simp <;>lia
 ·obtain⟨ws,h1,h2⟩:=N4.at_ v r hr;by_cases e:v=z
  ·subst e;have er:r=q:=aX (hr.symm.trans hz);subst er;have ew:ws=us:=xT h1 (s4 _ _ (s3 _ _ hq));subst ew;rw[ah rfl];exact⟨_,dh,(h2.uq iY (od _)).jw (iY.off ⟨t,.ref p,rfl,nt,dh,p,rfl,np,s4 _ _ dh⟩ (od _))⟩
  ·rw[af e,bU];have hne:r≠q:=fun e2=>e (T9 N.nd hr (by rw[e2];exact hz))
   exact⟨ws,by rw[d6 hne];exact h1,h2.uq iY (od _)⟩
noncomputable def mS (v:Int) (x:c9.Part×Int):List Ta:=if x.1.kind=3 then[] else
  (if x.1.a=v then[(x.2,[1])] else[]) ++ (if x.1.b=v then[(x.2,[-1])] else[]) ++
   (if x.1.kind=10 then(if x.1.c=v then[(x.2+1,[1])] else[]) ++ (if x.1.d=v then[(x.2+1,[-1])] else[]) else[])
theorem Ka(n:c9.Nw)(v:Int):c9.iO n v=(n.c8.zip (c9.places n)).flatMap (mS v):=rfl
noncomputable def GC (n:c9.Nw):Prop:=∀p∈n.c8,p.kind≠3->(0<=p.a/\p.a<=n.last)/\(0<=p.b/\p.b<=n.last)/\(p.kind=10->(0<=p.c/\p.c<=n.last)/\(0<=p.d/\p.d<=n.last))
theorem vc(z:Int)(hz:0<=z)(l:List Ta):(fun v:Nat=>if v=z.toNat then l else[])=fun v:Nat=>if z=(v:Int) then l else[]:=by
 funext v;by_cases h:v=z.toNat
 ·rw[ah h,ah (by lia)]
 ·rw[af h,af (by lia)]
theorem zJ{α β:Type}{F:α->β->Prop}:∀{l:List α} {m:List β},l.length=m.length->(∀(i:Nat) x y,l[i]? =some x->m[i]? =some y->F x y)->Paired F l m
 |[],[],_,_=> .nil
 |[],_::_,h,_=>by simp at h
 |_::_,[],h,_=>by simp at h
 |a::l,b::m,h,f=> .cons (f 0 a b rfl rfl) (zJ (by simpa using h) fun i x y hx hy=>f (i+1) x y (by simpa using hx) (by simpa using hy))
section
variable {P:Program}{w:World}{K:PySem.W.Frag}{mg:Str->Option Value}{base:Heap}{c:Cs}
noncomputable abbrev qe:Stmt:=top 35
theorem GD:dD ["setting","sums","node","part","place"] ["setting"] (dk qe):=sco
noncomputable def xV (c:Cs):Sp:=fun vs H Q _=>∃v g,vs=[v]/\ny c H v g/\UL g/\0<=g.dZ.last/\g.dZ.last<=100/\GC g.dZ/\xO H Q ((List.range g.dZ.last.toNat).map fun v:Nat=>c9.iO g.dZ ((v:Int)+1))
theorem GF(T:Txt2 mg)(O:gr K c)(G:iN K mg "node_laws" qe ["setting"]):eV P w K mg base "node_laws" ["setting"] 1 (xV c):=by
 have sc:=GD;refine G.i8 sc fun f cdv A outer s H vs Q E hr h=> ?_
 obtain⟨v,g,rfl,hg,ok,n0,n1,hin,kk⟩:=h;obtain⟨ga,gdx,gvn,gvs,gvst,gvd,gvp,rfl,hga,⟨na,ndx,nvp,rfl,hna,pa,ws,rfl,hpa,hps⟩,_,_,_,⟨la,rfl,hla⟩⟩:=hg;have lps:=hps.length;have h20:=ok.c8;refine⟨rfl,_,(df (qS (i:=1) rfl sc.nd rfl rfl (uO rfl rfl rfl rfl) (nM rfl T.jY (c7 (eO jM (dq K (dq K (pv 0) rfl) rfl) dz) dc)) (fq (own:=[("node",2)]) (by show mV ["setting","sums","node","part","place"] (dk qe) _ _=true;decide +kernel)) (fun _ _ _ _ _=>(eY (i:=2) sc.nd)) (fun _ _ _ _ _=>gf) (fun _ _ _ _ _=>(dO dc)))
   (df (gW PassesOwn.never rfl (R9 rfl T.OV (c7 (dq K (dq K (pv 0) rfl) rfl) (c7 (dq K (pv 0) rfl) dc))) (kh K (n:=2) rfl (fm (eY (i:=3) sc.nd) (fm (eY (i:=4) sc.nd) kf))) (df (fk (eJ iV (dq K (pv 3) rfl) (gc T.iR) (eF _)) (dj G6) d8)
   (df (jg (pL aV a4 a5 g6 (dW (i0 K) (pv 1) (dq K (pv 3) rfl) (fun _ _=>rfl)) (c7 (gj (c7 (pv 4) (c7 (dO (c7 dz dc)) dc))) dc)))
   (df (jg (pL aV a4 a5 g6 (dW (i0 K) (pv 1) (dq K (pv 3) rfl) (fun _ _=>rfl)) (c7 (gj (c7 (pv 4) (c7 (dO (c7 (jQ ic dz) dc)) dc))) dc)))
   (dj (fk (eJ iV (dq K (pv 3) rfl) (gc T.i5) (eF _)) (df (jg (pL aV a4 a5 g6 (dW (i0 K) (pv 1) (dq K (pv 3) rfl) (fun _ _=>rfl)) (c7 (gj (c7 (eO jM (pv 4) dz) (c7 (dO (c7 dz dc)) dc))) dc)))
   (dj (jg (pL aV a4 a5 g6 (dW (i0 K) (pv 1) (dq K (pv 3) rfl) (fun _ _=>rfl)) (c7 (gj (c7 (eO jM (pv 4) dz) (c7 (dO (c7 (jQ ic dz) dc)) dc))) dc))))) d8))))))
   (dj (dC (tu (Ua K) (pv 1) (rh dz) Fy))))),?_⟩
 refine⟨_,rfl,dY hga O.jL.cl (O.jL.at_ 0 rfl) rfl (dY hna O.dZ.cl (O.dZ.at_ 0 rfl) rfl ⟨_,_,rfl,rfl,_,rfl,by lia,by lia,fun D hD=>nZ (mK H 0 _) hD (fun i H' acc=>∃qs,acc=qs.map V.ref/\qs.length=i/\qs.Nodup/\D∉qs/\(∀q∈qs,H q=none/\H' q=some (.lst []))) ⟨[],rfl,rfl,List.nodup_nil,by simp,fun _ h=>by cases h⟩ ?_ ?_⟩)⟩
 ·rintro i x H1 H2 acc hi s1 hD1 ⟨qs,rfl,hql,hnd,hDq,hqs⟩ s2 s12 hD2 rfl;refine⟨rfl,⟨aL _,fun p hp=> ?_⟩⟩;have s3:=dt (o:= .lst []) hp;have pD:p≠D:=fun e=>by rw[e,hD2] at hp;cases hp
  have pq:p∉qs:=fun m=>by
   have:=s12 _ _ (hqs p m).2;rw[hp] at this;cases this
  refine gA hD (s2.trans s3) (s3 _ _ hD2) (by rw[lMp,hql];exact dH (by lia)) ⟨qs ++ [p],by simp,by simp[hql],?_,?_,?_⟩
  ·exact KS hnd pq
  ·intro m;rcases aK.mp m with m |m
   ·exact hDq m
   ·exact pD ((show D=p by simpa using m).symm)
  ·intro q m;rcases aK.mp m with m |m
   ·refine⟨(hqs q m).1,?_⟩;rw[d6 fun e=>hDq (by rw[<-e];exact m)];exact s3 _ _ (s12 _ _ (hqs q m).2)
   ·have:q=p:=by simpa using m
    subst this;refine⟨s2.free hp,?_⟩;rw[d6 pD,dh]
 ·rintro H1 acc s1 hD1 ⟨qs,rfl,hql,hnd,hDq,hqs⟩;have hql':qs.length=g.dZ.last.toNat+1:=by rw[hql];lia
  have N0:NI H H1 D qs 0 (fun _=>[]):=⟨s1,hD1,hnd,hDq,hD,fun q m=>(hqs q m).1,fun _=>ai _,fun v q hq=>⟨[],(hqs q (aB hq)).2,.nil⟩⟩;refine⟨_,rfl,dY (s1 _ _ hga) O.jL.cl (O.jL.at_ 0 rfl) rfl (dY (s1 _ _ hna) O.dZ.cl (O.dZ.at_ 1 rfl) rfl ⟨_,rfl,dY (s1 _ _ hga) O.jL.cl (O.jL.at_ 4 rfl) rfl ⟨pa,la,_,_,rfl,.of (s1 _ _ hpa),.of (s1 _ _ hla),jK (Sf (K:=K) (.of hpa) (.of hla) (by rw[lps,lMp,places_len])) (fun i σ H'=>∃x3 x4,σ=[some (.ref ga),some (.ref D),none,x3,x4]/\NI H H' D qs (4*i) (fun v=>((g.dZ.c8.zip (c9.places g.dZ)).take i).flatMap (mS (v:Int)))) ⟨none,none,rfl,by simpa using N0⟩ (fun i σ H' ⟨_,_,_,N⟩=>N.same) ?_ ?_⟩⟩)⟩
  ·rintro i x σ H2 H3 hi ⟨x3,x4,rfl,N2⟩ s3 s23 ⟨t,y,z,rfl,ht,hy,hz⟩;obtain⟨p,hp,pb,pbx,rfl,hpb⟩:=hps.mR hy;obtain⟨pl,hpl,rfl⟩:=jj hz;have ez:(g.dZ.c8.zip (c9.places g.dZ))[i]? =some (p,pl):=by
    rw[List.getElem?_zip_eq_some];exact⟨hp,hpl⟩
   have N3:=N2.grow s23;have hi':i<g.dZ.c8.length:=gq hp;refine⟨t,_,rfl,.of ht,rfl,_,_,rfl,_,_,rfl,rfl,?_⟩;have tmE:(fun v:Nat=>((g.dZ.c8.zip (c9.places g.dZ)).take (i+1)).flatMap (mS (v:Int)))=fun v:Nat=>((g.dZ.c8.zip (c9.places g.dZ)).take i).flatMap (mS (v:Int)) ++ mS (v:Int) (p,pl):=by
    funext v;exact xU _ _ _ _ ez
   refine⟨_,rfl,dY (s3 _ _ hpb) O.part.cl (O.part.at_ 0 rfl) rfl ⟨rfl,_,rfl,?_⟩⟩;rw[lj];by_cases h3:p.kind=3
   ·rw[aj h3];refine eZ ⟨_,_,rfl,?_⟩;rw[tmE];have e0:(fun v:Nat=>((g.dZ.c8.zip (c9.places g.dZ)).take i).flatMap (mS (v:Int)) ++ mS (v:Int) (p,pl))=fun v:Nat=>((g.dZ.c8.zip (c9.places g.dZ)).take i).flatMap (mS (v:Int)):=by
     funext v;unfold mS;rw[ah h3,bU]
    rw[e0];exact⟨N3.same,N3.hD,N3.nd,N3.nD,N3.d0,N3.q0,fun v=>by have:=N3.len v;lia,N3.at_⟩
   ·rw[ao h3];obtain⟨⟨a0,a1⟩,⟨b0,b1⟩,hT⟩:=hin p (aB hp) h3;refine fh ?_;obtain⟨qa,hqa⟩:∃q,qs[p.a.toNat]? =some q:=⟨_,aa (by lia)⟩;have hqaV:(qs.map V.ref)[p.a.toNat]? =some (.ref qa):=by rw[aA,hqa];rfl
    obtain⟨ua,hua,hpa'⟩:=N3.at_ _ _ hqa;have lua:=hpa'.length;have lua':=N3.len p.a.toNat;refine⟨_,rfl,_,rfl,dY (s3 _ _ hpb) O.part.cl (O.part.at_ 1 rfl) rfl (jW (.of N3.hD) (dM (j:=p.a.toNat) (by lia) hqaV) ⟨.inl ⟨rfl,_,.of hua⟩,_,rfl,di (by simp),fun f1 hf1=>⟨di (by simp),fun t1 ht1=>⟨qa,_,_,rfl,rfl,dt ht1 _ _ (dt hf1 _ _ hua),dH (by lia),?_⟩⟩⟩)⟩;have N4:=N3.push (x:=pl) (y:=1) hqa hua hf1 ht1;generalize upd (upd (upd H3 f1 (.lst [.int 1])) t1 (.tup [.int pl,.ref f1])) qa (.lst (ua ++ [.ref t1]))=H4 at N4;obtain⟨qb,hqb⟩:∃q,qs[p.b.toNat]? =some q:=⟨_,aa (by lia)⟩;have hqbV:(qs.map V.ref)[p.b.toNat]? =some (.ref qb):=by rw[aA,hqb];rfl
    obtain⟨ub,hub,hpb'⟩:=N4.at_ _ _ hqb;have lub:=hpb'.length;have lub':=N4.len p.b.toNat;refine⟨_,rfl,_,rfl,dY (N4.same _ _ hpb) O.part.cl (O.part.at_ 2 rfl) rfl (jW (.of N4.hD) (dM (j:=p.b.toNat) (by lia) hqbV) ⟨.inl ⟨rfl,_,.of hub⟩,_,rfl,_,rfl,di (by simp),fun f2 hf2=>⟨di (by simp),fun t2 ht2=>⟨qb,_,_,rfl,rfl,dt ht2 _ _ (dt hf2 _ _ hub),dH (by lia),?_⟩⟩⟩)⟩;have N5:=N4.push (x:=pl) (y:= -1) hqb hub hf2 ht2;generalize upd (upd (upd H4 f2 (.lst [.int (-1)])) t2 (.tup [.int pl,.ref f2])) qb (.lst (ub ++ [.ref t2]))=H5 at N5;refine⟨_,rfl,dY (N5.same _ _ hpb) O.part.cl (O.part.at_ 0 rfl) rfl ⟨rfl,_,rfl,?_⟩⟩;rw[lj];by_cases h10:p.kind=10
    ·rw[aj h10];obtain⟨⟨c0,c1⟩,⟨d0,d1⟩⟩:=hT h10;refine eZ ?_;obtain⟨qc,hqc⟩:∃q,qs[p.c.toNat]? =some q:=⟨_,aa (by lia)⟩;have hqcV:(qs.map V.ref)[p.c.toNat]? =some (.ref qc):=by rw[aA,hqc];rfl
     obtain⟨uc,huc,hpc'⟩:=N5.at_ _ _ hqc;have luc:=hpc'.length;have luc':=N5.len p.c.toNat;refine⟨_,rfl,_,rfl,dY (N5.same _ _ hpb) O.part.cl (O.part.at_ 3 rfl) rfl (jW (.of N5.hD) (dM (j:=p.c.toNat) (by lia) hqcV) ⟨.inl ⟨rfl,_,.of huc⟩,_,rfl,_,_,rfl,rfl,di (by simp),fun f3 hf3=>⟨di (by simp),fun t3 ht3=>⟨qc,_,_,rfl,rfl,dt ht3 _ _ (dt hf3 _ _ huc),dH (by lia),?_⟩⟩⟩)⟩;have N6:=N5.push (x:=pl+1) (y:=1) hqc huc hf3 ht3;generalize upd (upd (upd H5 f3 (.lst [.int 1])) t3 (.tup [.int (pl+1),.ref f3])) qc (.lst (uc ++ [.ref t3]))=H6 at N6;obtain⟨qd,hqd⟩:∃q,qs[p.d.toNat]? =some q:=⟨_,aa (by lia)⟩;have hqdV:(qs.map V.ref)[p.d.toNat]? =some (.ref qd):=by rw[aA,hqd];rfl
     obtain⟨ud,hud,hpd'⟩:=N6.at_ _ _ hqd;have lud:=hpd'.length;have lud':=N6.len p.d.toNat;refine⟨_,rfl,_,rfl,dY (N6.same _ _ hpb) O.part.cl (O.part.at_ 4 rfl) rfl (jW (.of N6.hD) (dM (j:=p.d.toNat) (by lia) hqdV) ⟨.inl ⟨rfl,_,.of hud⟩,_,rfl,_,_,rfl,rfl,_,rfl,di (by simp),fun f4 hf4=>⟨di (by simp),fun t4 ht4=>⟨qd,_,_,rfl,rfl,dt ht4 _ _ (dt hf4 _ _ hud),dH (by lia),_,_,rfl,?_⟩⟩⟩)⟩;have N7:=N6.push (x:=pl+1) (y:= -1) hqd hud hf4 ht4;rw[tmE];have e0:(fun v:Nat=>((g.dZ.c8.zip (c9.places g.dZ)).take i).flatMap (mS (v:Int)) ++ mS (v:Int) (p,pl))=fun v:Nat=>(((((g.dZ.c8.zip (c9.places g.dZ)).take i).flatMap (mS (v:Int)) ++ if v=p.a.toNat then[(pl,[1])] else[]) ++ if v=p.b.toNat then[(pl,[-1])] else[]) ++ if v=p.c.toNat then[(pl+1,[1])] else[]) ++ if v=p.d.toNat then[(pl+1,[-1])] else[]:=by
      funext v;unfold mS;rw[af h3,ah h10];have f1:=congrFun (vc p.a a0 [(pl,[1])]) v;have f2:=congrFun (vc p.b b0 [(pl,[-1])]) v;have f3:=congrFun (vc p.c c0 [(pl+1,[1])]) v;have f4:=congrFun (vc p.d d0 [(pl+1,[-1])]) v;rw[f1,f2,f3,f4];simp only[cK]
     rw[e0];exact N7
    ·rw[ao h10];refine fh ⟨_,_,rfl,?_⟩;rw[tmE];have e0:(fun v:Nat=>((g.dZ.c8.zip (c9.places g.dZ)).take i).flatMap (mS (v:Int)) ++ mS (v:Int) (p,pl))=fun v:Nat=>(((g.dZ.c8.zip (c9.places g.dZ)).take i).flatMap (mS (v:Int)) ++ if v=p.a.toNat then[(pl,[1])] else[]) ++ if v=p.b.toNat then[(pl,[-1])] else[]:=by
      funext v;unfold mS;rw[af h3,af h10];have f1:=congrFun (vc p.a a0 [(pl,[1])]) v;have f2:=congrFun (vc p.b b0 [(pl,[-1])]) v;rw[f1,f2];simp only[cK,bU]
     rw[e0];exact⟨N5.same,N5.hD,N5.nd,N5.nD,N5.d0,N5.q0,fun v=>by have:=N5.len v;lia,N5.at_⟩
  ·rintro σ H2 ⟨x3,x4,rfl,N2⟩;rw[lps,show(g.dZ.c8.zip (c9.places g.dZ)).take g.dZ.c8.length=g.dZ.c8.zip (c9.places g.dZ) from bg (by rw[List.length_zip,places_len];lia)] at N2;refine⟨_,rfl,_,rfl,D,_,rfl,.of N2.hD,fun r hr'=> ?_⟩;have s9:=dt (o:= .lst (vD (qs.map V.ref) (some 1) none)) hr';refine kk _ _ (N2.same.trans s9) ⟨r,_,rfl,fun z=>z (N2.same.free hr'),dh,?_⟩;have ec:vD (qs.map V.ref) (some 1) none=(qs.map V.ref).drop 1:=by
    unfold vD;have e1:HT.Dz (qs.map V.ref).length 0 (some 1)=1:=by
     show HT.Dz (qs.map V.ref).length 0 (some ((1:Nat):Int))=1;rw[HT.rg,lMp];lia
    rw[e1,HT.NF];exact bg (by rw[bC];exact ai _)
   rw[ec] at s9⊢;refine zJ (by simp;lia) fun i x y hx hy=> ?_
   rw[List.getElem?_drop,aA] at hx;rw[aA] at hy;have hiN:i<g.dZ.last.toNat:=by
    cases e:(List.range g.dZ.last.toNat)[i]? with
    |none=>rw[e] at hy;cases hy
    |some j=>
     have:=gq e;simpa using this
   rw[bE hiN] at hy;have ey:c9.iO g.dZ ((i:Int)+1)=y:=aX hy;cases e:qs[1+i]? with
   |none=>rw[e] at hx;cases hx
   |some q=>
    rw[e] at hx;have ex:V.ref q=x:=aX hx;subst ex;obtain⟨us,h1,h2⟩:=N2.at_ _ _ e;refine⟨q,us,rfl,fun z=>z (N2.q0 q (aB e)),s9 _ _ h1,?_⟩;rw[<-ey,Ka];have ei:((1+i:Nat):Int)=(i:Int)+1:=by lia
    rw[ei] at h2;exact(h2.gQ fun _ _ q=>iY.less q fun a ha=> .inl ha).iZ iY s9
end
structure LK(g:c9.lh)(k:Nat):Prop where
 kind:0<=(pat g k).kind/\(pat g k).kind<=13
 Vs:(pat g k).kind=2->O8 g k
 ref:(pat g k).kind=8\/(pat g k).kind=9->Vq g k
structure O9(g:c9.lh):Prop where
 w0:0<=c9.width g.dZ
 w1:c9.width g.dZ<1000
 terms:∀ts∈c9.gS g,∀t∈ts,0<=t.1/\t.1<=c9.width g.dZ/\t.2.length<=1000
 cnt:(c9.gS g).length<=1000
section
variable {P:Program}{w:World}{K:PySem.W.Frag}{mg:Str->Option Value}{base:Heap}{c:Cs}
noncomputable abbrev Pa (c:Cs) (i:Nat):Sp:=jB c (fun g k=>(pat g k).kind=(i:Int)/\LK g k) (fun g k=>c9.fQ g k)
structure Pb(P:Program)(w:World)(K:PySem.W.Frag)(mg:Str->Option Value)(base:Heap)(c:Cs)(ta:Addr)(fs:List Addr):Prop where
 hm:mg "LAWS_OF_KIND"=some (.ref ta)
 tup:∀H:Hp,Du K H ta (fs.map V.ref)
 fn:∀i,i<14->∃f fd,fs[i]? =some f/\qr P w K mg base KR 5 f fd ["setting","k"] (Pa c i)/\PySem.W.keepIn K (.ref f)=true/\Binds K fd ["setting","k"] []
noncomputable abbrev r6:Stmt:=top 59
theorem Iq:dD ["setting","laws","k","part","law"] ["setting"] (dk r6):=sco
noncomputable def qf (c:Cs):Sp:=fun vs H Q _=>∃v g,vs=[v]/\ny c H v g/\UL g/\0<=g.dZ.last/\g.dZ.last<=100/\GC g.dZ/\(∀k,k<g.dZ.c8.length->LK g k)/\O9 g/\∀z H',dJ H H'->O0 (fU H) H' z (c9.rows g)->Q z H'
theorem Ir{ta:Addr}{fs:List Addr}(T:Txt2 mg)(O:gr K c)(L:Pb P w K mg base c ta fs)(uC:eV P w K mg base "node_laws" ["setting"] 1 (xV c))(CW:eV P w K mg base "row_of" ["terms","width"] 3 Fb)(G:iN K mg "law_rows" r6 ["setting"]):eV P w K mg base "law_rows" ["setting"] 6 (qf c):=by
 have sc:=Iq;refine G.i8 sc fun f cdv A outer s H vs Q E hr h=> ?_
 obtain⟨v,g,rfl,hg,ok,n0,n1,hin,hlw,R,kk⟩:=h;have hLK:=L.hm;have h20:=ok.c8;refine⟨rfl,_,(df (dX (i:=1) sc.nd (dy uC hr (c7 (pv 0) dc)))
   (df (gW PassesOwn.never rfl (rm rfl T.hZ (c7 (dq K (dq K (pv 0) rfl) rfl) dc)) (kh K (n:=2) rfl (fm (eY (i:=2) sc.nd) (fm (eY (i:=3) sc.nd) kf))) (dj (jg (pL aV PySem.F.slot_list_extend PySem.F.type_list_extend Eg (pv 1) (c7 (Qm (dW (PD K) (Ky (v:= .ref ta) rfl hLK rfl) (dq K (pv 3) rfl) (fun _ _=>rfl)) (by rfl) (c7 (pv 0) (c7 (pv 2) dc))) dc)))))
   (dj (dC (mJ rfl sc.nd (fu (pv 1)) (fq (own:=[("law",4)]) (by show mV ["setting","laws","k","part","law"] (dk r6) _ _=true;decide +kernel)) (fun _ _ _ _ _=>(eY (i:=4) sc.nd)) (fun _ _ _ _ _=>gf) (fun _ _ _ _ _=>(dy CW hr (c7 (pv 4) (c7 (dq K (pv 0) rfl) dc))))))))),?_⟩
 refine⟨_,rfl,_,g,rfl,hg,ok,n0,n1,hin,fun z H1 s1 hz=> ?_⟩;obtain⟨p0,us,rfl,np0,hp0,hus⟩:=hz;have p0H:H p0=none:=cM.mp np0;have hus0:=QP hp0 hus;obtain⟨ga,gdx,gvn,gvs,gvst,gvd,gvp,rfl,hga,⟨na,ndx,nvp,rfl,hna,pa,ws,rfl,hpa,hps⟩,hgr⟩:=id hg;have lps:=hps.length;refine⟨_,rfl,dY (s1 _ _ hga) O.jL.cl (O.jL.at_ 0 rfl) rfl (dY (s1 _ _ hna) O.dZ.cl (O.dZ.at_ 1 rfl) rfl ⟨pa,_,rfl,.of (s1 _ _ hpa),jK (rn (K:=K) (.of hpa)) (fun i σ H'=>∃x2 x3 us,σ=[some (.ref ga),some (.ref p0),x2,x3,none]/\dJ H H'/\H' p0=some (.lst us)/\Paired (rN (fM (fU H) p0) H') us ((List.range g.dZ.last.toNat).map (fun v:Nat=>c9.iO g.dZ ((v:Int)+1)) ++ (List.range i).flatMap fun k=>c9.fQ g k)) ⟨none,none,us,rfl,s1,hp0,by simpa using hus0⟩ (fun i σ H' ⟨_,_,_,_,s,_⟩=>s) ?_ ?_⟩)⟩
 ·rintro i x σ H2 H3 hi ⟨x2,x3,us2,rfl,s2,hp2,hus2⟩ s3 s23 ⟨t,y,rfl,ht,hy⟩;obtain⟨p,hp,pb,pbx,rfl,hpb⟩:=hps.mR hy;have hi':i<g.dZ.c8.length:=gq hp;have ep:pat g i=p:=by
   show g.dZ.c8.getD i c9.p0=p;rw[gDe,hp];rfl
  have hp3:=s23 _ _ hp2;have LI:=hlw i hi';obtain⟨kl,ku⟩:=LI.kind;rw[ep] at kl ku;refine⟨t,_,rfl,.of ht,rfl,_,_,rfl,_,_,rfl,rfl,?_⟩;refine⟨_,rfl,.inl ⟨rfl,_,.of hp3⟩,?_⟩;obtain⟨f1,fd1,hf1,F1,kp1,b1⟩:=L.fn p.kind.toNat (by lia);have hf1':(fs.map V.ref)[p.kind.toNat]? =some (.ref f1):=by rw[aA,hf1];rfl
  refine⟨_,rfl,dY (s3 _ _ hpb) O.part.cl (O.part.at_ 0 rfl) rfl (jW (L.tup _) (dM (j:=p.kind.toNat) (by lia) hf1') ?_)⟩;refine⟨f1,fd1,_,_,_,rfl,F1,hr.mono (by decide),kp1,b1,_,rfl,_,rfl,_,g,i,rfl,hg.same s3,ok,hi',⟨by rw[ep];lia,LI⟩,fun z H4 s4 hz=> ?_⟩;obtain⟨za,zv,rfl,nz,hza,hzv⟩:=hz;have hp4:=s4 _ _ hp3;have lz:zv.length=(c9.fQ g i).length:=hzv.length;have l2:=hus2.length;have cnt:=R.cnt;have lsum:(List.map (fun v:Nat=>c9.iO g.dZ ((v:Int)+1)) (List.range g.dZ.last.toNat)).length+(((List.range i).flatMap fun k=>c9.fQ g k).length+(c9.fQ g i).length)<=1000:=by
   refine aw ?_ cnt;unfold c9.gS;rw[ay];refine Nat.add_le_add_left ?_ _;have e:(List.range (i+1)).flatMap (fun k=>c9.fQ g k)=(List.range i).flatMap (fun k=>c9.fQ g k) ++ c9.fQ g i:=by
    rw[bY,bS];simp
   rw[<-ay,<-e];have e2:∀m,((List.range (i+1)).flatMap fun k=>c9.fQ g k).length<=((List.range (i+1+m)).flatMap fun k=>c9.fQ g k).length:=by
    intro m;induction m with
    |zero=>exact ai _
    |succ m ih=>
     have e4:(List.range (i+1+(m+1))).flatMap (fun k=>c9.fQ g k)=(List.range (i+1+m)).flatMap (fun k=>c9.fQ g k) ++ c9.fQ g (i+1+m):=by
      rw[<-Nat.add_assoc,bY,bS];simp
     rw[e4,ay];lia
   have:=e2 (g.dZ.c8.length - (i+1));have e3:i+1+(g.dZ.c8.length - (i+1))=g.dZ.c8.length:=by lia
   rwa [e3] at this
  refine⟨p0,za,_,_,rfl,rfl,hp4,hza,di (by rw[l2,lz,ay];lia),_,_,_,rfl,(s3.trans s4).over p0H,dh,?_⟩;have od:Off (fM (fU H) p0) H4 (upd H4 p0 (.lst (us2 ++ zv))):=fD (.inr rfl);rw[bY,bS,<-cK];refine((hus2.iZ eX (s23.trans s4)).uq eX od).app ?_;have hzv2:Paired (rN (fM (fU H) p0) H4) zv ([i].flatMap fun k=>c9.fQ g k):=by
   rw[List.flatMap_singleton];refine hzv.gQ fun _ _ q=>eX.yH q fun a ha=> ?_
   rcases ha with ha |ha
   ·exact .inl (fV s3 a ha)
   ·refine .inl fun z=> ?_
    rw[ha,hp3] at z;cases z
  exact hzv2.uq eX od
 ·rintro σ H2 ⟨x2,x3,us2,rfl,s2,hp2,hus2⟩;rw[lps] at hus2;change Paired (rN (fM (fU H) p0) H2) us2 (c9.gS g) at hus2;have l2:=hus2.length;have cnt:=R.cnt;refine⟨_,rfl,p0,rfl,⟨_,.of hp2⟩,fun D hD=>nZ (fw (.of hp2)) hD (fun i H' acc=>Paired (uo (fM (fU H) D) H') acc (((c9.gS g).take i).map (c9.rowOf (c9.width g.dZ)))) .nil ?_ ?_⟩
  ·rintro i x H3 H4 acc hi s3 hD3 hacc s4 s34 hD4 hx;obtain⟨ts,hts,tt⟩:=hus2.mR hx;have lacc:=hacc.length;refine⟨rfl,⟨_,rfl,_,rfl,dY (s4 _ _ (s2 _ _ hga)) O.jL.cl (O.jL.at_ 5 rfl) rfl ⟨_,ts,_,rfl,toF (eX.same tt s4),R.w0,R.w1,R.terms ts (aB hts),fun z H5 s5 hz=> ?_⟩⟩⟩;have hz2:uo (fM (fU H) D) H5 z (c9.rowOf (c9.width g.dZ) ts):=fg.yH hz fun a ha=>by
    rcases ha with ha |ha
    ·exact .inl (fV (s2.trans s4) a ha)
    ·refine .inl fun y=> ?_
     rw[ha,hD4] at y;cases y
   refine gA hD (s4.trans s5) (s5 _ _ hD4) ?_ ?_
   ·rw[lacc,lMp,aC];exact dH (by lia)
   ·rw[eI _ _ _ _ hts];exact((hacc.iZ fg (s34.trans s5)).uq fg (fD (.inr rfl))).jw (fg.off hz2 (fD (.inr rfl)))
  ·intro H3 acc s3 hD3 hacc;rw[l2,aG] at hacc;exact kk _ H3 (s2.trans s3) ⟨D,acc,rfl,fun z=>z (s2.free hD),hD3,hacc.Ng fg⟩
end
structure GG(K:PySem.W.Frag)(mg:Str->Option Value)(x qual:Str)(C:Addr)(st:Stmt)(ps:List Str):Prop where
 ex:∃(f:Addr) (fd:FuncData),mg x=some (.ref C)/\Mk K C f/\Sa K "__init__" qual st f fd/\Binds K fd ps []
structure Kb(P:Program)(w:World)(K:PySem.W.Frag)(mg:Str->Option Value)(base:Heap)(x:Str)(C:Addr)(ps:List Str)(k:Nat)(sp:Sp):Prop where
 ex:∃(f:Addr) (fd:FuncData),mg x=some (.ref C)/\Mk K C f/\qr P w K mg base KR k f fd ps sp/\Binds K fd ps []
theorem GG.Uz{P:Program}{w:World}{K:PySem.W.Frag}{mg:Str->Option Value}{base:Heap}{x qual:Str}{C:Addr}{st:Stmt}{N ps:List Str}{k:Nat}{sp:Sp}(G:GG K mg x qual C st ps)(S:dD N ps (dk st))
  (h:∀(f:Addr) (cdv:Value) (A:Around) (outer:List Env) (s:Shared) (H:Hp) (vs:List V) (Q:VK) (E:XK),kg k (A.deeper (envOfC qual (dk st) s.heap.objs.size f cdv))->sp vs H Q E->
   vs.length=ps.length/\∃t,Ja (Fx KR P w K mg base N qual (dk st) f cdv A outer s H E).RK (iM st) t/\t {nx:=fun _ H'=>Q .jP H',rt:=Q} (L2.start N vs) H) (hk:k<=99:=by decide):Kb P w K mg base x C ps (k+1) sp:=by
 obtain⟨f,fd,hm,M,F,hb⟩:=G.ex;exact⟨f,fd,hm,M,F.ok S (fun vs H Q E q=>(h 0 .none {} [] {} H vs Q E (Rh hk _) q).1) (fun cdv A outer s H vs Q E hr hsp=>(h f cdv A outer s H vs Q E hr hsp).2),hb⟩
theorem AG{X:Cx}{k:Nat}{x:Str}{C:Addr}{ps:List Str}{sp:Sp}{e:Expr}{es:List Expr}{t:TA}{p pos:Pos}{j:Nat}(m:Kb X.prog X.w X.K X.mg X.base x C ps k sp)(hr:kg j X.A)(ha:PA X (e::es) t)(hk:k+1<=j:=by decide)(hg:Gl X x:=by rfl)
  (hdb:(x==("__debug__":Str))=false:=by decide) (he:starEach (e::es) X.env=(false,eval e X.env)::starEach es X.env:=by rfl) (hpl:(backTo pos (starEach es X.env)).any (·.1)=false:=by rfl):
  PE X (.Call (.Name x p) (e::es) [] pos) (Rc C sp [] E0 t):=by
 obtain⟨f,fd,hm,M,F,hb⟩:=m.ex;exact Qa M F (hr.mono hk) hg hm hb .nil NN ha hdb he hpl
noncomputable def GH (C:Addr) (x dx:Addr) (H:Hp) (Q:VK) (fs:List (Str×V)):Prop:=∀H',(∀b o,H b=some o->b≠x->H' b=some o)->H' x=some (.ins C dx fs)->Q .jP H'
section
variable {P:Program}{w:World}{K:PySem.W.Frag}{mg:Str->Option Value}{base:Heap}{c:Cs}
noncomputable abbrev m9:Stmt:=inClass (top 82) 0
theorem zK:dD ["self","determinant","tops"] ["self","determinant","tops"] (dk m9):=sco
noncomputable def xW (C:Addr):Sp:=fun vs H Q _=>∃x dx d t,vs=[.ref x,d,t]/\H x=some (.ins C dx [])/\GH C x dx H Q (Ux d t)
theorem Iu{C:Addr}(O:zB K C ["determinant","tops"])(G:GG K mg "Solution" "Solution.__init__" C m9 ["self","determinant","tops"]):Kb P w K mg base "Solution" C ["self","determinant","tops"] 1 (xW C):=by
 have sc:=zK;refine G.Uz sc fun f cdv A outer s H vs Q E hr h=> ?_
 obtain⟨x,dx,d,t,rfl,hx,k⟩:=h;refine⟨rfl,_,(df (iL (pv 0) (pv 1) rfl)
   (dj (iL (pv 0) (pv 2) rfl))),?_⟩
 refine⟨_,rfl,_,rfl,x,C,dx,_,rfl,hx,O.cl,O.at_ 0 rfl,(by show 0<1000;decide),?_⟩;refine⟨_,rfl,_,rfl,x,C,dx,_,rfl,dh,O.cl,O.at_ 1 rfl,(by show 1<1000;decide),?_⟩;exact k _ (fun b o e hb=>by rw[d6 hb,d6 hb];exact e) dh
noncomputable abbrev jc:Stmt:=inClass (top 88) 0
theorem r8:dD ["self","states","solution"] ["self","states","solution"] (dk jc):=sco
noncomputable def oO (C:Addr):Sp:=fun vs H Q _=>∃x dx d t,vs=[.ref x,d,t]/\H x=some (.ins C dx [])/\GH C x dx H Q (VX d t)
theorem xX{C:Addr}(O:zB K C ["states","solution"])(G:GG K mg "OperatingPoint" "OperatingPoint.__init__" C jc ["self","states","solution"]):Kb P w K mg base "OperatingPoint" C ["self","states","solution"] 1 (oO C):=by
 have sc:=r8;refine G.Uz sc fun f cdv A outer s H vs Q E hr h=> ?_
 obtain⟨x,dx,d,t,rfl,hx,k⟩:=h;refine⟨rfl,_,(df (iL (pv 0) (pv 1) rfl)
   (dj (iL (pv 0) (pv 2) rfl))),?_⟩
 refine⟨_,rfl,_,rfl,x,C,dx,_,rfl,hx,O.cl,O.at_ 0 rfl,(by show 0<1000;decide),?_⟩;refine⟨_,rfl,_,rfl,x,C,dx,_,rfl,dh,O.cl,O.at_ 1 rfl,(by show 1<1000;decide),?_⟩;exact k _ (fun b o e hb=>by rw[d6 hb,d6 hb];exact e) dh
noncomputable abbrev oP:Stmt:=inClass (top 105) 0
theorem AZ:dD ["self","last_node","parts"] ["self","last_node","parts"] (dk oP):=sco
noncomputable def uD (C:Addr):Sp:=fun vs H Q _=>∃x dx n t,vs=[.ref x,.int n,t]/\H x=some (.ins C dx [])/\GH C x dx H Q (Uw n t)
theorem Kc{C:Addr}(O:zB K C ["last_node","parts"])(G:GG K mg "Network" "Network.__init__" C oP ["self","last_node","parts"]):Kb P w K mg base "Network" C ["self","last_node","parts"] 1 (uD C):=by
 have sc:=AZ;refine G.Uz sc fun f cdv A outer s H vs Q E hr h=> ?_
 obtain⟨x,dx,d,t,rfl,hx,k⟩:=h;refine⟨rfl,_,(df (iL (pv 0) (pv 1) rfl)
   (dj (iL (pv 0) (pv 2) rfl))),?_⟩
 refine⟨_,rfl,_,rfl,x,C,dx,_,rfl,hx,O.cl,O.at_ 0 rfl,(by show 0<1000;decide),?_⟩;refine⟨_,rfl,_,rfl,x,C,dx,_,rfl,dh,O.cl,O.at_ 1 rfl,(by show 1<1000;decide),?_⟩;exact k _ (fun b o e hb=>by rw[d6 hb,d6 hb];exact e) dh
noncomputable abbrev uE:Stmt:=inClass (top 104) 0
theorem GI:dD ["self","numbers"] ["self","numbers"] (dk uE):=sco
noncomputable def CY (K:PySem.W.Frag) (C:Addr):Sp:=fun vs H Q _=>∃x dx a l,vs=[.ref x,.ref a]/\H x=some (.ins C dx [])/\H a=some (.lst (l.map V.int))/\l.length=7/\GH C x dx H Q (O2 (c9.Part.of l))
theorem QS{C:Addr}(O:zB K C ["kind","a","b","c","d","top","bottom"])(G:GG K mg "Part" "Part.__init__" C uE ["self","numbers"]):Kb P w K mg base "Part" C ["self","numbers"] 1 (CY K C):=by
 have sc:=GI;refine G.Uz sc fun f cdv A outer s H vs Q E hr h=> ?_
 obtain⟨x,dx,a,l,rfl,hx,ha,hl,k⟩:=h;have ne:a≠x:=G0 ha hx (by intro z;cases z);refine⟨rfl,_,(df (iL (pv 0) (dW (i0 K) (pv 1) dz (fun _ _=>rfl)) rfl)
   (df (iL (pv 0) (dW (i0 K) (pv 1) dz (fun _ _=>rfl)) rfl)
   (df (iL (pv 0) (dW (i0 K) (pv 1) dz (fun _ _=>rfl)) rfl)
   (df (iL (pv 0) (dW (i0 K) (pv 1) dz (fun _ _=>rfl)) rfl)
   (df (iL (pv 0) (dW (i0 K) (pv 1) dz (fun _ _=>rfl)) rfl)
   (df (iL (pv 0) (dW (i0 K) (pv 1) dz (fun _ _=>rfl)) rfl)
   (dj (iL (pv 0) (dW (i0 K) (pv 1) dz (fun _ _=>rfl)) rfl)))))))),?_⟩
 refine⟨_,rfl,a,_,_,_,rfl,rfl,.of ha,dM (j:=0) rfl (ie (by lia)),_,rfl,x,C,dx,_,rfl,hx,O.cl,O.at_ 0 rfl,(by show 0<1000;decide),?_⟩;refine⟨_,rfl,a,_,_,_,rfl,rfl,.of (by rw[d6 ne];exact ha),dM (j:=1) rfl (ie (by lia)),_,rfl,x,C,dx,_,rfl,dh,O.cl,O.at_ 1 rfl,(by show 1<1000;decide),?_⟩;rw[my];refine⟨_,rfl,a,_,_,_,rfl,rfl,.of (by rw[d6 ne];exact ha),dM (j:=2) rfl (ie (by lia)),_,rfl,x,C,dx,_,rfl,dh,O.cl,O.at_ 2 rfl,(by show 2<1000;decide),?_⟩;rw[my];refine⟨_,rfl,a,_,_,_,rfl,rfl,.of (by rw[d6 ne];exact ha),dM (j:=3) rfl (ie (by lia)),_,rfl,x,C,dx,_,rfl,dh,O.cl,O.at_ 3 rfl,(by show 3<1000;decide),?_⟩;rw[my];refine⟨_,rfl,a,_,_,_,rfl,rfl,.of (by rw[d6 ne];exact ha),dM (j:=4) rfl (ie (by lia)),_,rfl,x,C,dx,_,rfl,dh,O.cl,O.at_ 4 rfl,(by show 4<1000;decide),?_⟩;rw[my];refine⟨_,rfl,a,_,_,_,rfl,rfl,.of (by rw[d6 ne];exact ha),dM (j:=5) rfl (ie (by lia)),_,rfl,x,C,dx,_,rfl,dh,O.cl,O.at_ 5 rfl,(by show 5<1000;decide),?_⟩;rw[my];refine⟨_,rfl,a,_,_,_,rfl,rfl,.of (by rw[d6 ne];exact ha),dM (j:=6) rfl (ie (by lia)),_,rfl,x,C,dx,_,rfl,dh,O.cl,O.at_ 6 rfl,(by show 6<1000;decide),?_⟩;rw[my];exact k _ (fun b o e hb=>by rw[d6 hb];exact e) dh
noncomputable abbrev oQ:Stmt:=inClass (top 30) 0
theorem A0:dD ["self","network","s","states","drives"] ["self","network","s","states","drives"] (dk oQ):=sco
noncomputable def uF (c:Cs):Sp:=fun vs H Q _=>∃H0 x dx vn vs' vst vd g,vs=[.ref x,vn,vs',vst,vd]/\H x=some (.ins c.jL dx [])/\dJ H0 H/\H0 x=none/\nv c H0 vn g.dZ/\fE H0 vs' g.s/\uu H0 vst g.gF/\AE H0 vd g.drives/\g.dZ.c8.length<=1000/\∀H',dJ H0 H'->ny c H' (.ref x) g->Q .jP H'
theorem Kd(O:gr K c)(md:eV P w K mg base "current_places" ["network"] 2 (p5 c))(qF:eV P w K mg base "unknowns_of" ["network"] 2 (uy c))(G:GG K mg "Setting" "Setting.__init__" c.jL oQ ["self","network","s","states","drives"]):Kb P w K mg base "Setting" c.jL ["self","network","s","states","drives"] 3 (uF c):=by
 have sc:=A0;refine G.Uz sc fun f cdv A outer s H vs Q E hr h=> ?_
 obtain⟨H0,x,dx,vn,vs',vst,vd,g,rfl,hx,s0,hx0,hn,hs,hst,hd,hl,k⟩:=h;refine⟨rfl,_,(df (iL (pv 0) (pv 1) rfl)
   (df (iL (pv 0) (pv 2) rfl)
   (df (iL (pv 0) (pv 3) rfl)
   (df (iL (pv 0) (pv 4) rfl)
   (df (iL (pv 0) (dy md hr (c7 (pv 1) dc)) rfl)
   (dj (iL (pv 0) (dy qF hr (c7 (pv 1) dc)) rfl))))))),?_⟩
 refine⟨_,rfl,_,rfl,x,c.jL,dx,_,rfl,hx,O.jL.cl,O.jL.at_ 0 rfl,(by show 0<1000;decide),?_⟩;refine⟨_,rfl,_,rfl,x,c.jL,dx,_,rfl,dh,O.jL.cl,O.jL.at_ 1 rfl,(by show 1<1000;decide),?_⟩;rw[my];refine⟨_,rfl,_,rfl,x,c.jL,dx,_,rfl,dh,O.jL.cl,O.jL.at_ 2 rfl,(by show 2<1000;decide),?_⟩;rw[my];refine⟨_,rfl,_,rfl,x,c.jL,dx,_,rfl,dh,O.jL.cl,O.jL.at_ 3 rfl,(by show 3<1000;decide),?_⟩;rw[my];have s1:∀o,dJ H0 (upd H x o):=fun o=>s0.over hx0
 refine⟨_,rfl,_,_,rfl,hn.same (s1 _),hl,fun p H1 hp s2 hp1=> ?_⟩;have x1:=s2 _ _ dh;refine⟨_,rfl,x,c.jL,dx,_,rfl,x1,O.jL.cl,O.jL.at_ 4 rfl,(by show 4<1000;decide),?_⟩;have px:p≠x:=fun e=>by rw[e,dh] at hp;cases hp
 have s3:∀o,dJ H0 (upd H1 x o):=fun o=>((s1 _).trans s2).over hx0
 refine⟨_,rfl,_,_,rfl,hn.same (s3 _),hl,fun H2 s4=> ?_⟩;have x2:=s4 _ _ dh;refine⟨_,rfl,x,c.jL,dx,_,rfl,x2,O.jL.cl,O.jL.at_ 5 rfl,(by show 5<1000;decide),?_⟩;have s5:∀o,dJ H0 (upd H2 x o):=fun o=>((s3 _).trans s4).over hx0
 refine k _ (s5 _) ⟨x,dx,vn,vs',vst,vd,.ref p,rfl,dh,hn.same (s5 _),hs.same (s5 _),hst.same (s5 _),hd.same (s5 _),p,rfl,?_⟩;rw[d6 px];exact s4 _ _ (by rw[d6 px];exact hp1)
end
noncomputable abbrev FF:Addr->Prop:=fun _=>False
structure SJ(bk rj rk bj before:List Int):Prop where
 s1:bk.length<100000
 s2:rj.length<100000
 s3:rk.length<100000
 s4:bj.length<100000
 s5:before.length<100000
 m1:∀x∈bk,∀y∈rj,IntMulOk x y
 m2:∀x∈rk,∀y∈bj,IntMulOk x y
 tb:c9.Trim before
 nb:before≠[]
 lb:(c9.lc before).natAbs.log2<9000
 ex:∃m,c9.Trim m/\c9.dF (c9.tQ (c9.gX bk rj) (c9.gX rk bj))=c9.dF m*c9.dF before/\∀x∈m,∀y∈before,IntMulOk x y
noncomputable def Pc (row by_:List (List Int)) (k:Nat) (before:List Int):Prop:=∀j,k<j->j<row.length->SJ (by_.getD k []) (row.getD j []) (row.getD k []) (by_.getD j []) before
theorem AH(l r:List Int):(c9.gX l r).length<=l.length+r.length:=by
 by_cases h:l=[]\/r=[]
 ·unfold c9.gX;rw[ah h];simp
 ·have h1:l≠[]:=fun e=>h (.inl e)
  have h2:r≠[]:=fun e=>h (.inr e)
  rw[c9.xc h1 h2];lia
theorem Iv(l r:List Int):(c9.tQ l r).length<=max l.length r.length:=by
 unfold c9.tQ c9.BP;refine aw (c9.FT _) ?_;rw[c9.jq,c9.uR];exact ai _
section
variable {P:Program}{w:World}{K:PySem.W.Frag}{mg:Str->Option Value}{base:Heap}{c:Cs}
noncomputable abbrev kr:Stmt:=top 84
theorem wg:dD ["table","k","place"] ["table","k"] (dk kr):=sco
noncomputable def V8:Option Nat->V
 |none=> .jP
 |some c=> .int (c:Int)
noncomputable def oR:Sp:=fun vs H Q _=>∃v t k,vs=[v,.int ((k:Nat):Int)]/\O0 FF H v t/\k<=t.length/\t.length<=1000/\(∀r∈t,k<r.length)/\∀H',dJ H H'->Q (V8 (c9.n9 t k (t.length - k))) H'
theorem wj(T:Txt2 mg)(G:iN K mg "row_to_solve_by" kr ["table","k"]):eV P w K mg base "row_to_solve_by" ["table","k"] 1 oR:=by
 have sc:=wg;refine G.i8 sc fun f cdv A outer s H vs Q E hr h=> ?_
 obtain⟨v,t,k,rfl,⟨a,us,rfl,_,ha,hus⟩,hk,hl,hrow,kk⟩:=h;have ll:=hus.length;refine⟨rfl,_,(df (gW PassesOwn.never rfl (Eb rfl T.jY (c7 (pv 1) (c7 (d5 (eK K) rfl T.gV d9 (c7 (pv 0) dc)) dc))) (eY (i:=2) sc.nd) (dj (fk (fb K (dW (i0 K) (dW (i0 K) (pv 0) (pv 2) (fun _ _=>rfl)) (pv 1) (fun _ _=>rfl)) (fun _=>rfl)) (dj (dC (pv 2))) d8)))
   (dj (dC Fp))),?_⟩
 refine⟨_,rfl,_,rfl,a,_,rfl,.inl (.of ha),_,_,rfl,⟨by lia,by lia,by lia,by lia⟩,?_⟩;have en:((us.length:Int) - (k:Int)).toNat=t.length - k:=by lia
 rw[en];refine jK (mK H _ _) (fun i σ H'=>∃x2,σ=[some (.ref a),some (.int (k:Int)),x2]/\dJ H H'/\i<=t.length - k/\c9.n9 t k (t.length - k)=c9.n9 t k (t.length - k - i)) ⟨none,rfl,.refl _,aL _,rfl⟩ (fun i σ H' ⟨_,_,s,_⟩=>s) ?_ ?_
 ·rintro i x σ H1 H2 hi ⟨x2,rfl,s1,hi2,hpv⟩ s2 s12 rfl;obtain⟨m,em⟩:∃m,t.length - k - i=m+1:=⟨t.length - k - i - 1,by lia⟩;have epl:t.length - (m+1)=k+i:=by lia
  obtain⟨u,hu,ra,rv,rfl,_,hra,hrv⟩:=hus.ko (dw (d:=[]) (show k+i<t.length by lia));have hkr:=hrow _ (aB (dw (d:=[]) (show k+i<t.length by lia)));obtain⟨q,hq,qa,rfl,_,hqa⟩:=hrv.ko (dw (d:=[]) hkr);refine⟨_,rfl,_,rfl,jW (.of (s2 _ _ ha)) (dM (j:=k+i) (by lia) hu) ⟨_,rfl,jW (.of (s2 _ _ hra)) (dM (j:=k) rfl hq) ⟨_,Im (s2 _ _ hqa),?_⟩⟩⟩;rw[em,show c9.n9 t k (m+1)=(if(t.getD (t.length - (m+1)) []).getD k []≠[] then some (t.length - (m+1)) else c9.n9 t k m) from rfl,epl] at hpv;by_cases h0:(t.getD (k+i) []).getD k []=[]
  ·rw[h0] at hpv⊢;rw[af (by simp)] at hpv;refine fh ⟨_,rfl,s2,by lia,?_⟩;have e2:t.length - k - (i+1)=m:=by lia
   rw[e2];exact hpv
  ·rw[j3 h0];rw[ah h0] at hpv;refine eZ ⟨_,rfl,?_⟩;have q:=kk H2 s2;rw[hpv] at q;have e3:(k:Int)+(i:Nat)=((k+i:Nat):Int):=by lia
   rw[e3];exact q
 ·rintro σ H1 ⟨x2,rfl,s1,hi2,hpv⟩;have q:=kk H1 s1;rw[hpv,cf] at q;exact q
noncomputable abbrev qG:Stmt:=top 86
theorem CZ:dD ["row","by","k","before","result","factor","place","kept"] ["row","by","k","before"] (dk qG):=sco
noncomputable def uG:Sp:=fun vs H Q _=>∃S v u b row by_ k before,vs=[v,u,.int ((k:Nat):Int),b]/\Nf S H/\uo S H v row/\uo S H u by_/\fE H b before/\k<row.length/\row.length=by_.length/\row.length<=1000/\Pc row by_ k before/\∀z H',dJ H H'->uo S H' z (c9.lI row by_ k before)->Q z H'
theorem C0(T:Txt2 mg)(iS:eV P w K mg base "multiplied" ["left","right"] 1 qA)(gH:eV P w K mg base "subtracted" ["left","right"] 3 mD)(lY:eV P w K mg base "divided" ["left","right"] 1 v8)(G:iN K mg "cleared_row" qG ["row","by","k","before"]):eV P w K mg base "cleared_row" ["row","by","k","before"] 4 uG:=by
 have sc:=CZ;refine G.i8 sc fun f cdv A outer s H vs Q E hr h=> ?_
 obtain⟨S,v,u,b,row,by_,k,before,rfl,dS,⟨ra,rv,rfl,nra,hra,hrv⟩,⟨ba,bv,rfl,nba,hba,hbv⟩,hb,hk,hlen,hl,rok,kk⟩:=h;have lr:=hrv.length;have lb:=hbv.length;refine⟨rfl,_,(df (dX (i:=4) sc.nd (yN (vF K) rfl T.CB tK (c7 (pv 0) dc)))
   (df (dX (i:=5) sc.nd (dW (i0 K) (pv 0) (pv 2) (fun _ _=>rfl)))
   (df (gW PassesOwn.never rfl (Eb rfl T.jY (c7 (eO jM (pv 2) dz) (c7 (d5 (eK K) rfl T.gV d9 (c7 (pv 0) dc)) dc))) (eY (i:=6) sc.nd) (df (dX (i:=7) sc.nd (dy iS hr (c7 (dW (i0 K) (pv 1) (pv 2) (fun _ _=>rfl)) (c7 (dW (i0 K) (pv 0) (pv 6) (fun _ _=>rfl)) dc))))
   (dj (yK (dy lY hr (c7 (dy gH hr (c7 (pv 7) (c7 (dy iS hr (c7 (pv 5) (c7 (dW (i0 K) (pv 1) (pv 6) (fun _ _=>rfl)) dc))) dc))) (c7 (pv 3) dc))) (yJ (pv 4) (pv 6) set_list)))))
   (dj (dC (pv 4)))))),?_⟩
 refine⟨_,rfl,ra,_,rfl,.inl (.of hra),fun p hp=> ?_⟩;have s1:=dt (o:= .lst rv) hp;obtain⟨fv,hfv,pf⟩:=hrv.ko (dw (d:=[]) hk);refine⟨_,rfl,_,rfl,jW (.of (s1 _ _ hra)) (dM (j:=k) rfl hfv) ?_⟩;refine⟨_,rfl,oY ⟨_,rfl,ra,_,rfl,.inl (.of (s1 _ _ hra)),_,_,rfl,⟨by lia,by lia,by lia,by lia⟩,?_⟩⟩;have en:((rv.length:Int) - ((k:Int)+1)).toNat=row.length - (k+1):=by lia
 rw[en];have hrvA:Paired (sP (fM S p) H) rv row:=hrv.QN gw hp;have hbvA:Paired (sP (fM S p) H) bv by_:=hbv.QN gw hp;refine jK (mK H _ _) (fun i σ H'=>∃x6 x7 ws,σ=[some (.ref ra),some (.ref ba),some (.int (k:Int)),some b,some (.ref p),some fv,x6,x7]/\dJ H H'/\H' p=some (.lst ws)/\ws.length=row.length/\(∀j x,ws[j]? =some x->sP (fM S p) H' x (if k<j/\j<k+1+i then(c9.lI row by_ k before).getD j [] else row.getD j []))) ⟨none,none,rv,rfl,s1,dh,lr,fun j x hx=> ?_⟩ (fun i σ H' ⟨_,_,_,_,s,_⟩=>s) ?_ ?_
 ·rw[af (by lia)];obtain⟨y,hy,py⟩:=hrvA.mR hx;have:row.getD j []=y:=by rw[gDe,hy];rfl
  rw[this];exact gw.same py s1
 ·rintro i x σ H1 H2 hi ⟨x6,x7,ws,rfl,s2,hp2,hwl,hws⟩ s3 s12 rfl;have hj:k+1+i<row.length:=by lia
  have ej:((k:Int)+1)+((i:Nat):Int)=((k+1+i:Nat):Int):=by lia
  rw[ej];have O:=rok (k+1+i) (by lia) hj;obtain⟨bkv,hbk,pbk⟩:=hbv.ko (dw (d:=[]) (show k<by_.length by lia));obtain⟨bjv,hbj,pbj⟩:=hbv.ko (dw (d:=[]) (show k+1+i<by_.length by lia));obtain⟨rjv,hrj,prj⟩:=hrv.ko (dw (d:=[]) hj);refine⟨_,rfl,_,rfl,jW (.of (s3 _ _ hba)) (dM (j:=k) rfl hbk) ⟨_,rfl,_,rfl,jW (.of (s3 _ _ hra)) (dM (j:=k+1+i) rfl hrj) ?_⟩⟩;refine⟨_,_,_,_,rfl,pbk.at_.same s3,prj.at_.same s3,by unfold Short;have:=O.s1;lia,by unfold Short;have:=O.s2;lia,O.m1,fun q1 H3 hq1 t1 hq1'=> ?_⟩;have s34:=s3.trans t1;refine⟨_,rfl,_,rfl,_,rfl,_,rfl,jW (.of (s34 _ _ hba)) (dM (j:=k+1+i) rfl hbj) ?_⟩;refine⟨_,_,_,_,rfl,pf.at_.same s34,pbj.at_.same s34,by unfold Short;have:=O.s3;lia,by unfold Short;have:=O.s4;lia,O.m2,fun q2 H4 hq2 t2 hq2'=> ?_⟩;have l1:=AH (by_.getD k []) (row.getD (k+1+i) []);have l2:=AH (row.getD k []) (by_.getD (k+1+i) []);have o1:=O.s1;have o2:=O.s2;have o3:=O.s3;have o4:=O.s4;have o5:=O.s5;refine⟨_,_,_,_,rfl,⟨q1,rfl,t2 _ _ hq1'⟩,⟨q2,rfl,hq2'⟩,by unfold Short;lia,by unfold Short;lia,fun q3 H5 hq3 t3 hq3'=> ?_⟩;have l3:=Iv (c9.gX (by_.getD k []) (row.getD (k+1+i) [])) (c9.gX (row.getD k []) (by_.getD (k+1+i) []));obtain⟨m,tm,em,mm⟩:=O.ex;have s35:=(s34.trans t2).trans t3;refine⟨_,rfl,_,_,_,_,m,rfl,⟨q3,rfl,hq3'⟩,hb.same s35,by unfold Short;lia,by unfold Short;lia,c9.uS _ _,O.tb,tm,O.nb,em,O.lb,mm,fun q4 H6 hq4 t4 hq4'=> ?_⟩;have s26:=((t1.trans t2).trans t3).trans t4;have hp6:=s26 _ _ (s12 _ _ hp2);refine⟨_,rfl,_,rfl,p,_,_,k+1+i,rfl,rfl,hp6,rz rfl (by lia),?_⟩;have n4:¬fM S p q4:=fun h=>h.elim (fun y=>(dS.same s35) q4 y hq4) (fun y=>by
   have:=((t1.trans t2).trans t3) _ _ (s12 _ _ hp2);rw[<-y,hq4] at this;cases this)
  have ed:(c9.lI row by_ k before).getD (k+1+i) []=m:=by
   unfold c9.lI;rw[c9.kj _ _ _ _ hj,ah (by lia)];exact c9.pQ (c9.uS _ _) O.tb tm O.nb em
  refine⟨_,_,_,rfl,(s3.trans s26).over hp,dh,by rw[bW];exact hwl,fun j x hx=> ?_⟩;have od:Off (fM S p) H6 (upd H6 p (.lst (ws.set (k+1+i) (.ref q4)))):=fD (.inr rfl);rw[cz] at hx;by_cases e:k+1+i=j
  ·subst e;rw[ah rfl,ah (by lia)] at hx;have:V.ref q4=x:=aX hx;subst this;rw[ah (by lia),ed];exact gw.off ⟨q4,rfl,n4,hq4'⟩ od
  ·rw[af e] at hx;have hold:=gw.off (gw.same (hws j x hx) (s12.trans s26)) od;by_cases e2:k<j/\j<k+1+i
   ·rw[ah e2] at hold;rw[ah (by lia)];exact hold
   ·rw[af e2] at hold;rw[af (by lia)];exact hold
 ·rintro σ H1 ⟨x6,x7,ws,rfl,s2,hp2,hwl,hws⟩;refine⟨_,rfl,kk _ H1 s2 ⟨p,ws,rfl,dS.new hp,hp2,?_⟩⟩;refine PySem.Paired.Ng (p:=p) gw (zJ (by unfold c9.lI;simp[hwl]) fun j x y hx hy=> ?_);have h1:=hws j x hx;have hjl:j<row.length:=by rw[<-hwl];exact gq hx
  have ey:(c9.lI row by_ k before).getD j []=y:=by rw[gDe,hy];rfl
  by_cases e:k<j
  ·rw[ah ⟨e,by lia⟩,ey] at h1;exact h1
  ·rw[af (by lia)] at h1;have e3:(c9.lI row by_ k before).getD j []=row.getD j []:=by
    unfold c9.lI;rw[c9.kj _ _ _ _ hjl,af e]
   rw[<-e3,ey] at h1;exact h1
noncomputable abbrev zL:Stmt:=top 85
theorem Ke:dD ["table","k","before","by","result","place","row"] ["table","k","before"] (dk zL):=sco
noncomputable def C1:Sp:=fun vs H Q _=>∃S v b t k before,vs=[v,.int ((k:Nat):Int),b]/\Nf S H/\O0 S H v t/\fE H b before/\k<t.length/\t.length<=900/\(∀i,i<t.length->(t.getD i []).length=t.length+1)/\(∀i,i<t.length->i≠k->Pc (t.getD i []) (t.getD k []) k before)/\∀p us H',dJ H H'->H p=none->H' p=some (.lst us)->Paired (uo S H') us (c9.yX t k before)->Q (.ref p) H'
theorem Kf(T:Txt2 mg)(qH:eV P w K mg base "cleared_row" ["row","by","k","before"] 4 uG)(G:iN K mg "cleared" zL ["table","k","before"]):eV P w K mg base "cleared" ["table","k","before"] 5 C1:=by
 have sc:=Ke;refine G.i8 sc fun f cdv A outer s H vs Q E hr h=> ?_
 obtain⟨S,v,b,t,k,before,rfl,dS,⟨ta,tv,rfl,nta,hta,htv⟩,hb,hk,hl,hrl,hro,kk⟩:=h;have lt:=htv.length;refine⟨rfl,_,(df (dX (i:=3) sc.nd (dW (i0 K) (pv 0) (pv 1) (fun _ _=>rfl)))
   (df (dX (i:=4) sc.nd (dO dc))
   (df (gW PassesOwn.never rfl (rm rfl T.hZ (c7 (pv 0) dc)) (kh K (n:=2) rfl (fm (eY (i:=5) sc.nd) (fm (eY (i:=6) sc.nd) kf))) (dj (fk (eJ iV (pv 5) (pv 1) (eF _)) (dj (jg (pL aV a4 a5 g6 (pv 4) (c7 (pv 6) dc)))) (dj (jg (pL aV a4 a5 g6 (pv 4) (c7 (dy qH hr (c7 (pv 6) (c7 (pv 3) (c7 (pv 1) (c7 (pv 2) dc))))) dc)))))))
   (dj (dC (pv 4)))))),?_⟩
 obtain⟨yv,hyv,ry⟩:=htv.ko (dw (d:=[]) hk);refine⟨_,rfl,_,rfl,jW (.of hta) (dM (j:=k) rfl hyv) ⟨aL _,fun p hp=> ?_⟩⟩;have s1:=dt (o:= .lst []) hp;have htvA:=htv.QN fg hp;refine⟨_,rfl,ta,_,rfl,.of (s1 _ _ hta),jK (rn (K:=K) (.of hta)) (fun i σ H'=>∃x5 x6 us,σ=[some (.ref ta),some (.int (k:Int)),some b,some yv,some (.ref p),x5,x6]/\dJ H H'/\H' p=some (.lst us)/\Paired (uo (fM S p) H') us ((c9.yX t k before).take i)) ⟨none,none,[],rfl,s1,dh,.nil⟩ (fun i σ H' ⟨_,_,_,_,s,_⟩=>s) ?_ ?_⟩
 ·rintro i x σ H1 H2 hi ⟨x5,x6,us,rfl,s2,hp2,hus⟩ s3 s12 ⟨tt,y,rfl,ht,hy⟩;obtain⟨row,hrow,rr⟩:=htvA.mR hy;have hi':i<t.length:=gq hrow;have er:t.getD i []=row:=by rw[gDe,hrow];rfl
  have hp3:=s12 _ _ hp2;have lu:=hus.length;rw[aC] at lu;have ec:(c9.yX t k before)[i]? =some (if i=k then t.getD k [] else c9.lI (t.getD i []) (t.getD k []) k before):=by
   unfold c9.yX;rw[aA,bE hi'];rfl
  have etake:(c9.yX t k before).take (i+1)=(c9.yX t k before).take i ++ [if i=k then t.getD k [] else c9.lI (t.getD i []) (t.getD k []) k before]:=by
   rw[aZ,ec];rfl
  refine⟨tt,_,rfl,.of ht,rfl,_,_,rfl,_,_,rfl,rfl,?_⟩;refine⟨_,rfl,_,rfl,rfl,_,rfl,?_⟩;rw[lj];by_cases e:i=k
  ·rw[aj (show((i:Nat):Int)=(k:Int) by lia)];refine eZ ⟨_,rfl,.inl ⟨rfl,_,.of hp3⟩,_,rfl,p,_,_,rfl,rfl,hp3,dH (by lia),_,_,_,rfl,s3.over hp,dh,?_⟩;have er2:t.getD k []=row:=by rw[<-e];exact er
   rw[etake,ah e,er2];exact((hus.iZ fg s12).uq fg (fD (.inr rfl))).jw (fg.off (fg.same rr s3) (fD (.inr rfl)))
  ·rw[ao (show ¬((i:Nat):Int)=(k:Int) by lia)];have ry2:=fg.same (fg.and ry hp) s3;have dS2:Nf (fM S p) H2:=(dS.same s3).and hp3;refine fh ⟨_,rfl,.inl ⟨rfl,_,.of hp3⟩,_,rfl,_,rfl,_,rfl,_,rfl,fM S p,_,_,_,row,_,k,before,rfl,dS2,fg.same rr s3,ry2,hb.same s3,?_,?_,?_,?_,fun z H3 s4 hz=> ?_⟩
   ·rw[<-er,hrl i hi'];lia
   ·rw[<-er,hrl i hi',hrl k hk]
   ·rw[<-er,hrl i hi'];lia
   ·rw[<-er];exact hro i hi' e
   have hp4:=s4 _ _ hp3;refine⟨p,_,_,rfl,rfl,hp4,dH (by lia),_,_,_,rfl,(s3.trans s4).over hp,dh,?_⟩;rw[etake,af e,er];exact((hus.iZ fg (s12.trans s4)).uq fg (fD (.inr rfl))).jw (fg.off hz (fD (.inr rfl)))
 ·rintro σ H1 ⟨x5,x6,us,rfl,s2,hp2,hus⟩;have el:(c9.yX t k before).take tv.length=c9.yX t k before:=bg (by unfold c9.yX;simp;lia);rw[el] at hus;exact⟨_,rfl,kk p us H1 s2 hp hp2 (hus.Ng fg)⟩
end
noncomputable def C3:Nat->Nat->List (List (List Int))->List Int->Prop
 |0,_,_,_=>True
 |f+1,k,t,before=>∀c,c9.n9 t k (t.length - k)=some c->(∀i,i<t.length->i≠k->Pc ((c9.nP t c k).getD i []) ((c9.nP t c k).getD k []) k before)/\C3 f (k+1) (c9.yX (c9.nP t c k) k before) ((t.getD c []).getD k [])
theorem QT{α:Type}{xs:List α}{m:Nat}{x:α}(h:xs.length=m+1)(hx:xs[m]? =some x):L1 xs (-1)=some x:=by
 unfold L1 NG;rw[af (by decide),ah (by lia)];show xs[(-1+(xs.length:Int)).toNat]? =_;have e:(-1+(xs.length:Int)).toNat=m:=by lia
 rw[e,hx]
theorem QU(t:List (List (List Int)))(c k:Nat):(c9.nP t c k).length=t.length:=by unfold c9.nP;simp
section
variable {P:Program}{w:World}{K:PySem.W.Frag}{mg:Str->Option Value}{base:Heap}{c:Cs}
noncomputable abbrev uH:Stmt:=top 83
theorem MK:dD ["rows","table","row","before","k","chosen","taken"] ["rows"] (dk uH):=sco
noncomputable def Iw (c:Cs) (H:Hp) (Q:VK):Option (List Int×List (List Int))->Prop
 |none=>∀H',dJ H H'->Q .jP H'
 |some s=>∀z H',dJ H H'->sL c H' z s->Q z H'
noncomputable def ve (c:Cs):Sp:=fun vs H Q _=>∃v rows,vs=[v]/\O0 FF H v rows/\rows.length<=900/\(∀i,i<rows.length->(rows.getD i []).length=rows.length+1)/\C3 rows.length 0 rows [1]/\Iw c H Q (c9.sol rows)
theorem ML(T:Txt2 mg)(O:gr K c)(ks:eV P w K mg base "row_to_solve_by" ["table","k"] 1 oR)(zM:eV P w K mg base "cleared" ["table","k","before"] 5 C1)(wq:Kb P w K mg base "Solution" c.sol ["self","determinant","tops"] 1 (xW c.sol))(G:iN K mg "solved" uH ["rows"]):eV P w K mg base "solved" ["rows"] 6 (ve c):=by
 have sc:=MK;refine G.i8 sc fun f cdv A outer s H vs Q E hr h=> ?_
 obtain⟨v,rows,rfl,⟨ra,rv,rfl,_,hra,hrv⟩,hl,hrl,run,kk⟩:=h;have lr:=hrv.length;refine⟨rfl,_,(df (qS (i:=1) rfl sc.nd rfl rfl (uO rfl rfl rfl rfl) (fu (pv 0)) (fq (own:=[("row",2)]) (by show mV ["rows","table","row","before","k","chosen","taken"] (dk uH) _ _=true;decide +kernel)) (fun _ _ _ _ _=>(eY (i:=2) sc.nd)) (fun _ _ _ _ _=>gf) (fun _ _ _ _ _=>(yN (vF K) rfl T.CB tK (c7 (pv 2) dc))))
   (df (dX (i:=3) sc.nd (dO (c7 dz dc)))
   (df (gW PassesOwn.never rfl (nM rfl T.jY (c7 (d5 (eK K) rfl T.gV d9 (c7 (pv 1) dc)) dc)) (eY (i:=4) sc.nd) (df (dX (i:=5) sc.nd (dy ks hr (c7 (pv 1) (c7 (pv 4) dc))))
   (df (fk (BB (Fs (pv 5))) (dj (dC Fp)) d8)
   (df (dX (i:=6) sc.nd (dW (i0 K) (pv 1) (pv 5) (fun _ _=>rfl)))
   (df (yK (dW (i0 K) (pv 1) (pv 4) (fun _ _=>rfl)) (yJ (pv 1) (pv 5) set_list))
   (df (yK (pv 6) (yJ (pv 1) (pv 4) set_list))
   (df (dX (i:=1) sc.nd (dy zM hr (c7 (pv 1) (c7 (pv 4) (c7 (pv 3) dc)))))
   (dj (dX (i:=3) sc.nd (dW (i0 K) (pv 6) (pv 4) (fun _ _=>rfl)))))))))))
   (dj (dC (AG wq hr (c7 (pv 3) (c7 (mJ rfl sc.nd (fu (pv 1)) (fq (own:=[("row",2)]) (by show mV ["rows","table","row","before","k","chosen","taken"] (dk uH) _ _=true;decide +kernel)) (fun _ _ _ _ _=>(eY (i:=2) sc.nd)) (fun _ _ _ _ _=>gf) (fun _ _ _ _ _=>(dW (i0 K) (pv 2) (jQ ic dz) (fun _ _=>rfl)))) dc)))))))),?_⟩
 refine⟨_,rfl,ra,rfl,⟨_,.of hra⟩,fun D hD=>nZ (fw (.of hra)) hD (fun i H' acc=>Paired (uo (fM FF D) H') acc (rows.take i)) .nil ?_ ?_⟩
 ·rintro i x H1 H2 acc hi s1 hD1 hacc s2 s12 hD2 hx;obtain⟨row,hrow,xa,xv,rfl,_,hxa,hxv⟩:=hrv.mR hx;have lacc:=hacc.length;refine⟨rfl,⟨_,rfl,xa,_,rfl,.inl (.of (s2 _ _ hxa)),fun q hq=> ?_⟩⟩;have s3:=dt (o:= .lst xv) hq;have nq:¬fM FF D q:=fun h=>h.elim (fun y=>y) (fun y=>by rw[y,hD2] at hq;cases hq)
  have hxvD:Paired (sP (fM FF D) H) xv row:=hxv.QN gw hD;refine gA hD (s2.trans s3) (s3 _ _ hD2) ?_ ?_
  ·rw[lacc,aC];exact dH (by lia)
  ·rw[aZ,hrow];refine((hacc.iZ fg (s12.trans s3)).uq fg (fD (.inr rfl))).jw (fg.off ⟨q,xv,rfl,nq,dh,?_⟩ (fD (.inr rfl)));exact hxvD.iZ gw (s2.trans s3)
 ·intro H1 acc s1 hD1 hacc;rw[lr,aG] at hacc;have lacc:=hacc.length;refine⟨di (by simp),fun q hq=> ?_⟩;have s2:=dt (o:= .lst [.int 1]) hq;refine⟨_,rfl,D,_,rfl,.inl (.of (s2 _ _ hD1)),_,rfl,by lia,by lia,?_⟩;have en:((acc.length:Int)).toNat=rows.length:=by lia
  rw[en];refine jK (mK H _ _) (fun i σ H'=>∃p us t DC vb x4 x5 x6,σ=[some (.ref ra),some (.ref p),none,some vb,x4,x5,x6]/\dJ H H'/\H p=none/\H' p=some (.lst us)/\Paired (uo FF H') us t/\fE H' vb DC/\i<=rows.length/\t.length=rows.length/\(∀j,j<t.length->(t.getD j []).length=t.length+1)/\c9.w8 (rows.length - i) i t DC=c9.sol rows/\C3 (rows.length - i) i t DC) ⟨D,acc,rows,[1],.ref q,none,none,none,rfl,s1.trans s2,hD,s2 _ _ hD1,(hacc.iZ fg s2).Ng fg,⟨q,rfl,dh⟩,aL _,rfl,hrl,rfl,run⟩ (fun i σ H' ⟨_,_,_,_,_,_,_,_,_,s,_⟩=>s) ?_ ?_
  ·rintro k x σ H2 H3 hi ⟨p,us,t,DC,vb,x4,x5,x6,rfl,s3,pH,hp2,hus,hbef,hk2,htl,htr,hso,hrun⟩ s4 s34 rfl;obtain⟨m,em⟩:∃m,rows.length - k=m+1:=⟨rows.length - k - 1,by lia⟩;have em2:rows.length - (k+1)=m:=by lia
   rw[em] at hso hrun;have hp3:=s34 _ _ hp2;have hus3:=hus.iZ fg s34;have lus:=hus.length;have e0:(0:Int)+((k:Nat):Int)=(k:Int):=by lia
   rw[e0];have hkt:k<t.length:=by lia
   refine⟨_,rfl,_,rfl,_,t,k,rfl,⟨p,us,rfl,fun z=>z,hp3,hus3⟩,by lia,by lia,fun r hr'=> ?_,fun H4 s5=> ?_⟩
   ·obtain⟨j,hj,ej⟩:=aW hr';have:=htr j hj;rw[gDe,aa hj] at this;simp only[cD,ej] at this;lia
   cases hpv:c9.n9 t k (t.length - k) with
   |none=>
    refine⟨_,rfl,_,rfl,?_⟩;refine eZ ?_;have:c9.sol rows=none:=by
     rw[<-hso];unfold c9.w8;rw[hpv]
    rw[this] at kk;exact kk H4 (s4.trans s5)
   |some ch=>
    obtain⟨c1,c2,c3⟩:=c9.rD t k _ ch (by lia) hpv;obtain⟨run1,run2⟩:=hrun ch hpv;have hso2:c9.w8 m (k+1) (c9.yX (c9.nP t ch k) k DC) ((t.getD ch []).getD k [])=c9.sol rows:=by
     rw[<-hso];show _=match c9.n9 t k (t.length - k) with
      |none=>none
      |some c=>c9.w8 m (k+1) (c9.yX (c9.nP t c k) k DC) ((t.getD c []).getD k [])
     rw[hpv]
    refine⟨_,rfl,_,rfl,?_⟩;refine fh ?_;have hp4:=s5 _ _ hp3;have hus4:=hus3.iZ fg s5;have hown:=QQ hp4 hus4;obtain⟨uc,huc,rc⟩:=hown.ko (dw (d:=[]) c2);obtain⟨uk,huk,rk⟩:=hown.ko (dw (d:=[]) hkt);have hbef4:sP (fM FF p) H4 vb DC:=by
     obtain⟨ca,_,rfl,_⟩:=id rc;exact zI hp4 (aB huc) ((hbef.same (s34.trans s5)).s)
    refine⟨_,rfl,_,rfl,jW (.of hp4) (dM (j:=ch) rfl huc) ?_⟩;refine⟨_,rfl,_,rfl,jW (.of hp4) (dM (j:=k) rfl huk) ⟨_,rfl,_,rfl,p,_,_,ch,rfl,rfl,hp4,rz rfl (by lia),?_⟩⟩;refine⟨_,rfl,_,rfl,_,rfl,p,_,_,k,rfl,rfl,dh,rz rfl (by rw[bW];lia),?_⟩;rw[my];have od:Off (fM FF p) H4 (upd H4 p (.lst ((us.set ch uk).set k uc))):=fD (.inr rfl);have s6:dJ H (upd H4 p (.lst ((us.set ch uk).set k uc))):=(s4.trans s5).over pH;have hsw:Paired (uo (fM FF p) (upd H4 p (.lst ((us.set ch uk).set k uc)))) ((us.set ch uk).set k uc) (c9.nP t ch k):=by
     unfold c9.nP;exact((hown.uq fg od).setAt (fg.off rk od) ch).setAt (fg.off rc od) k
    have hp6:(upd H4 p (.lst ((us.set ch uk).set k uc))) p=some (.lst ((us.set ch uk).set k uc)):=dh;have rc6:=fg.off rc od;have hbef6:=gw.off hbef4 od;generalize upd H4 p (.lst ((us.set ch uk).set k uc))=H6 at s6 hsw hp6 rc6 hbef6;have sl:=QU t ch k;have srow:∀j,j<t.length->((c9.nP t ch k).getD j []).length=t.length+1:=fun j hj=>by
     rw[c9.Bm t ch k j c2 hkt];exact htr _ (c9.pS c2 hkt hj)
    refine⟨_,rfl,_,rfl,_,rfl,FF,_,_,_,k,DC,rfl,fun a h=>h.elim,⟨p,_,rfl,fun z=>z,hp6,hsw.Ng fg⟩,hbef6.at_,by lia,by lia,?_,?_,fun p7 us7 H7 s7 p7n hp7 hus7=> ?_⟩
    ·intro j hj;rw[sl] at hj⊢;exact srow j hj
    ·intro j hj hjk;exact run1 j (by lia) hjk
    ·obtain⟨ca,cv,rfl,_,hca,hcv⟩:=rc6;have hcl:k<(t.getD ch []).length:=by rw[htr ch c2];lia
     obtain⟨kv,hkv,pkv⟩:=hcv.ko (dw (d:=[]) hcl);refine⟨_,rfl,_,rfl,jW (.of (s7 _ _ hca)) (dM (j:=k) rfl hkv) ?_⟩;have cl:(c9.yX (c9.nP t ch k) k DC).length=t.length:=by unfold c9.yX;simp[sl]
     refine⟨p7,us7,_,_,kv,_,_,_,rfl,s6.trans s7,s6.free p7n,hp7,hus7,(gw.same pkv s7).at_,by lia,by rw[cl,htl],?_,?_,?_⟩
     ·intro j hj;rw[cl] at hj⊢;rw[c9.K5 _ _ _ _ (by lia)];exact srow j hj
     ·rw[em2];exact hso2
     ·rw[em2];exact run2
  ·rintro σ H2 ⟨p,us,t,DC,vb,x4,x5,x6,rfl,s3,pH,hp2,hus,hbef,hk2,htl,htr,hso,hrun⟩;have lus:=hus.length;rw[cf] at hso;have hsol:c9.sol rows=some (DC,t.map fun r=>r.getD (r.length - 1) []):=hso.symm;rw[hsol] at kk;refine⟨_,rfl,_,rfl,p,rfl,⟨_,.of hp2⟩,fun D2 hD2=>nZ (fw (.of hp2)) hD2 (fun i H' acc=>Paired (sP (fM FF D2) H') acc ((t.take i).map fun r=>r.getD (r.length - 1) [])) .nil ?_ ?_⟩
   ·rintro i x H3 H4 acc2 hi s4 hD3 hacc2 s5 s45 hD4 hx;obtain⟨row,hrow,xa,xv,rfl,_,hxa,hxv⟩:=hus.mR hx;have hi':i<t.length:=gq hrow;have er:t.getD i []=row:=by rw[gDe,hrow];rfl
    have hrlen:row.length=t.length+1:=by rw[<-er];exact htr i hi'
    have lxv:=hxv.length;have lacc2:=hacc2.length;obtain⟨lv,hlv,plv⟩:=hxv.ko (dw (d:=[]) (show t.length<row.length by lia));refine⟨rfl,⟨_,rfl,_,rfl,xa,_,_,_,rfl,rfl,.of (s5 _ _ hxa),QT (m:=t.length) (by lia) hlv,?_⟩⟩;refine gA hD2 s5 hD4 ?_ ?_
    ·rw[lacc2,lMp,aC];exact dH (by lia)
    ·rw[eI _ _ _ _ hrow];have e2:row.length - 1=t.length:=by lia
     rw[e2];exact((hacc2.iZ gw s45).uq gw (fD (.inr rfl))).jw (gw.off (gw.same (gw.and plv hD2) s5) (fD (.inr rfl)))
   ·intro H3 acc2 s4 hD3 hacc2;rw[lus,aG] at hacc2;intro x dx nx nd ne;refine⟨x,dx,vb,.ref D2,rfl,dh,fun H4 k4 hx4=>⟨rfl,?_⟩⟩;have s5:dJ H3 H4:=dJ.made nx nd k4;exact kk _ _ ((s3.trans s4).trans s5) ⟨x,dx,vb,.ref D2,rfl,hx4,hbef.same (s4.trans s5),D2,acc2,rfl,fun z=>z,s5 _ _ hD3,(hacc2.Ng gw).iZ gw s5⟩
end
structure Txt3(mg:Str->Option Value):Prop extends Txt2 mg where
noncomputable def zN (H:Hp) (Q:VK) (l:List Int):Prop:=∀z H',dJ H H'->fE H' z l->Q z H'
theorem zN.of{H H1:Hp}{Q:VK}{l:List Int}(k:zN H Q l)(s:dJ H H1):zN H1 Q l:=fun z H' s' h=>k z H' (s.trans s') h
theorem zN.new{H:Hp}{Q:VK}{l:List Int}(k:zN H Q l):o9 H Q l:=fun p H' _ s h=>k _ _ s ⟨p,rfl,h⟩
section
variable {P:Program}{w:World}{K:PySem.W.Frag}{mg:Str->Option Value}{base:Heap}{c:Cs}
noncomputable abbrev wu:Stmt:=top 77
theorem Iy:dD ["solution","node"] ["solution","node"] (dk wu):=sco
noncomputable def AI (c:Cs):Sp:=fun vs H Q _=>∃v s n,vs=[v,.int n]/\sL c H v s/\n<=s.2.length/\zN H Q (c9.gT s n)
theorem Iz(O:gr K c)(G:iN K mg "node_top" wu ["solution","node"]):eV P w K mg base "node_top" ["solution","node"] 1 (AI c):=by
 have sc:=Iy;refine G.i8 sc fun f cdv A outer s0 H vs Q E hr h=> ?_
 obtain⟨v,s,n,rfl,⟨a,dx,vd,vt,rfl,ha,hd,⟨ta,tv,rfl,_,hta,htv⟩⟩,hn,k⟩:=h;refine⟨rfl,_,(dj (dC (mH (eJ vm (pv 1) dz (eF _)) (dW (i0 K) (dq K (pv 0) rfl) (eO nX (pv 1) dz) (fun _ _=>rfl)) (dO dc)))),?_⟩;unfold c9.gT at k;refine⟨_,rfl,oY ⟨_,rfl,?_⟩⟩;by_cases h0:0<n
 ·rw[ah h0] at k;rw[aj (show n>0 from h0)];obtain⟨u,hu,pu⟩:=htv.ko (dw (d:=[]) (show(n - 1).toNat<s.2.length by lia));exact eZ ⟨_,rfl,dY ha O.sol.cl (O.sol.at_ 1 rfl) rfl ⟨_,rfl,oY (jW (.of hta) (dM (j:=(n - 1).toNat) (by lia) hu) (k _ _ (.refl _) pu.at_))⟩⟩
 ·rw[af h0] at k;rw[ao (show ¬n>0 from h0)];exact fh ⟨aL _,fun p hp=>k _ _ (dt hp) ⟨p,rfl,dh⟩⟩
noncomputable abbrev qI:Stmt:=top 78
theorem C4:dD ["setting","solution","k"] ["setting","solution","k"] (dk qI):=sco
noncomputable def oS (c:Cs):Sp:=fun vs H Q _=>∃v u g s k,vs=[u,v,.int ((k:Nat):Int)]/\sL c H v s/\ny c H u g/\k<g.dZ.c8.length/\0<=(c9.places g.dZ).getD k 0/\(c9.places g.dZ).getD k 0<s.2.length/\zN H Q (c9.ig g s k)
theorem C5(O:gr K c)(G:iN K mg "current_top" qI ["setting","solution","k"]):eV P w K mg base "current_top" ["setting","solution","k"] 1 (oS c):=by
 have sc:=C4;refine G.i8 sc fun f cdv A outer s0 H vs Q E hr h=> ?_
 obtain⟨v,u,g,s,k,rfl,⟨a,dx,vd,vt,rfl,ha,hd,⟨ta,tv,rfl,_,hta,htv⟩⟩,⟨ga,gdx,gvn,gvs,gvst,gvd,gvp,rfl,hga,_,_,_,_,⟨la,rfl,hla⟩⟩,hk,h0,h1,kk⟩:=h;refine⟨rfl,_,(dj (dC (dW (i0 K) (dq K (pv 1) rfl) (dW (i0 K) (dq K (pv 0) rfl) (pv 2) (fun _ _=>rfl)) (fun _ _=>rfl)))),?_⟩;obtain⟨x,hx,px⟩:=htv.ko (dw (d:=[]) (show((c9.places g.dZ).getD k 0).toNat<s.2.length by lia));have hj:k<(c9.places g.dZ).length:=by rw[places_len];exact hk
 exact⟨_,rfl,dY ha O.sol.cl (O.sol.at_ 1 rfl) rfl ⟨_,rfl,dY hga O.jL.cl (O.jL.at_ 4 rfl) rfl ⟨_,rfl,jW (.of hla) (dM (j:=k) rfl (ie hj)) (jW (.of hta) (dM (j:=((c9.places g.dZ).getD k 0).toNat) (by lia) hx) (kk _ _ (.refl _) px.at_))⟩⟩⟩
noncomputable def wx (s:List Int×List (List Int)):Prop:=Short s.1/\∀l∈s.2,Short l
theorem C6{s:List Int×List (List Int)}(h:wx s)(n:Int):Short (c9.gT s n):=by
 unfold c9.gT;split
 ·rw[gDe];cases e:s.2[(n - 1).toNat]? with
  |none=>show([]:List Int).length<_;simp
  |some l=>exact h.2 l (aB e)
 ·show([]:List Int).length<_;simp
noncomputable abbrev me:Stmt:=top 80
theorem xY:dD ["solution","first","second"] ["solution","first","second"] (dk me):=sco
noncomputable def kx (c:Cs):Sp:=fun vs H Q _=>∃v s x y,vs=[v,.int x,.int y]/\sL c H v s/\wx s/\x<=s.2.length/\y<=s.2.length/\zN H Q (c9.jE s x y)
theorem xZ(r9:eV P w K mg base "node_top" ["solution","node"] 1 (AI c))(gH:eV P w K mg base "subtracted" ["left","right"] 3 mD)(G:iN K mg "difference_top" me ["solution","first","second"]):eV P w K mg base "difference_top" ["solution","first","second"] 4 (kx c):=by
 have sc:=xY;refine G.i8 sc fun f cdv A outer s0 H vs Q E hr h=> ?_
 obtain⟨v,s,x,y,rfl,hs,hsh,hx,hy,k⟩:=h;refine⟨rfl,_,(dj (dC (dy gH hr (c7 (dy r9 hr (c7 (pv 0) (c7 (pv 1) dc))) (c7 (dy r9 hr (c7 (pv 0) (c7 (pv 2) dc))) dc))))),?_⟩;refine⟨_,rfl,_,rfl,_,s,x,rfl,hs,hx,fun z1 H1 s1 p1=> ?_⟩;refine⟨_,rfl,_,rfl,_,s,y,rfl,hs.same s1,hy,fun z2 H2 s2 p2=> ?_⟩;exact⟨_,_,_,_,rfl,p1.same s2,p2,C6 hsh x,C6 hsh y,(k.of (s1.trans s2)).new⟩
noncomputable abbrev qJ:Stmt:=top 79
theorem C7:dD ["setting","solution","k","part"] ["setting","solution","k"] (dk qJ):=sco
noncomputable def uI (c:Cs):Sp:=fun vs H Q _=>∃v u g s k,vs=[u,v,.int ((k:Nat):Int)]/\sL c H v s/\wx s/\ny c H u g/\k<g.dZ.c8.length/\(pat g k).a<=s.2.length/\(pat g k).b<=s.2.length/\zN H Q (c9.pP g s k)
theorem C8(O:gr K c)(gK:eV P w K mg base "difference_top" ["solution","first","second"] 4 (kx c))(G:iN K mg "voltage_top" qJ ["setting","solution","k"]):eV P w K mg base "voltage_top" ["setting","solution","k"] 5 (uI c):=by
 have sc:=C7;refine G.i8 sc fun f cdv A outer s0 H vs Q E hr h=> ?_
 obtain⟨v,u,g,s,k,rfl,hs,hsh,⟨ga,gdx,gvn,gvs,gvst,gvd,gvp,rfl,hga,⟨na,ndx,nvp,rfl,hna,pa,ws,rfl,hpa,hps⟩,_⟩,hk,h0,h1,kk⟩:=h;refine⟨rfl,_,(df (dX (i:=3) sc.nd (dW (i0 K) (dq K (dq K (pv 0) rfl) rfl) (pv 2) (fun _ _=>rfl)))
   (dj (dC (dy gK hr (c7 (pv 1) (c7 (dq K (pv 3) rfl) (c7 (dq K (pv 3) rfl) dc))))))),?_⟩
 obtain⟨x,hx,pb,pbx,rfl,hpb⟩:=hps.ko (dw (d:=c9.p0) hk);refine⟨_,rfl,dY hga O.jL.cl (O.jL.at_ 0 rfl) rfl (dY hna O.dZ.cl (O.dZ.at_ 1 rfl) rfl ⟨_,rfl,jW (.of hpa) (dM (j:=k) rfl hx) ?_⟩)⟩;exact⟨_,rfl,_,rfl,dY hpb O.part.cl (O.part.at_ 1 rfl) rfl ⟨_,rfl,dY hpb O.part.cl (O.part.at_ 2 rfl) rfl ⟨_,s,_,_,rfl,hs,hsh,h0,h1,kk⟩⟩⟩
end
noncomputable def Pd (H:Hp):V->Int×Int->Prop:=fun u x=>∃t,u= .ref t/\H t=some (.tup [.int x.1,.int x.2])
theorem Pd.same{H H':Hp}{v:V}{x:Int×Int}(h:Pd H v x)(s:dJ H H'):Pd H' v x:=let ⟨t,e,q⟩:=h;⟨t,e,s _ _ q⟩
theorem Pd.over{H:Hp}{v:V}{x:Int×Int}{D:Addr}{vs us:List V}(h:Pd H v x)(hD:H D=some (.lst vs)):Pd (upd H D (.lst us)) v x:=let ⟨t,e,q⟩:=h;⟨t,e,by rw[d6 (G0 q hD (by intro z;cases z))];exact q⟩
section
variable {P:Program}{w:World}{K:PySem.W.Frag}{mg:Str->Option Value}{base:Heap}{c:Cs}
noncomputable abbrev jH:Stmt:=top 61
theorem x9:dD ["network","states","source","drives","k"] ["network","states","source"] (dk jH):=sco
noncomputable def kz (c:Cs):Sp:=fun vs H Q _=>∃v u n st src,vs=[v,u,.int src]/\nv c H v n/\uu H u st/\n.c8.length<=1000/\∀z H',dJ H H'->ny c H' z (c9.gG n st src)->Q z H'
theorem yd(T:Txt2 mg)(O:gr K c)(nV:Kb P w K mg base "Setting" c.jL ["self","network","s","states","drives"] 3 (uF c))(G:iN K mg "driven_setting" jH ["network","states","source"]):eV P w K mg base "driven_setting" ["network","states","source"] 5 (kz c):=by
 have sc:=x9;refine G.i8 sc fun f cdv A outer s H vs Q E hr h=> ?_
 obtain⟨v,u,n,st,src,rfl,hn,hst,hl,kk⟩:=h;obtain⟨na,ndx,nvp,rfl,hna,pa,ws,rfl,hpa,hps⟩:=id hn;have ll:=hps.length;refine⟨rfl,_,(df (qS (i:=3) rfl sc.nd rfl rfl (uO rfl rfl rfl rfl) (nM rfl T.jY (c7 (d5 (eK K) rfl T.gV d9 (c7 (dq K (pv 0) rfl) dc)) dc)) (fq (own:=[("k",4)]) (by show mV ["network","states","source","drives","k"] (dk jH) _ _=true;decide +kernel)) (fun _ _ _ _ _=>(eY (i:=4) sc.nd)) (fun _ _ _ _ _=>gf) (fun _ _ _ _ _=>(mH (eJ iV (pv 4) (pv 2) (eF _)) (gj (c7 dz (c7 dz dc))) (gj (c7 dz (c7 dz dc))))))
   (dj (dC (AG nV hr (c7 (pv 0) (c7 (dO (c7 dz (c7 dz dc))) (c7 (pv 1) (c7 (pv 3) dc)))))))),?_⟩
 refine⟨_,rfl,dY hna O.dZ.cl (O.dZ.at_ 1 rfl) rfl ⟨pa,_,rfl,.inl (.of hpa),_,rfl,by lia,by lia,fun D hD=>nZ (mK H 0 _) hD (fun i H' acc=>Paired (Pd H') acc (((List.range n.c8.length).map fun(k:Nat)=>if(k:Int)=src then((1:Int),(1:Int)) else(0,1)).take i)) .nil ?_ ?_⟩⟩
 ·rintro i x H1 H2 acc hi s1 hD1 hacc s2 s12 hD2 rfl;have hi2:i<n.c8.length:=by lia
  have la:=hacc.length;rw[aC] at la;have et:((List.range n.c8.length).map fun(k:Nat)=>if(k:Int)=src then((1:Int),(1:Int)) else(0,1)).take (i+1)=((List.range n.c8.length).map fun(k:Nat)=>if(k:Int)=src then((1:Int),(1:Int)) else(0,1)).take i ++ [if(i:Int)=src then((1:Int),(1:Int)) else(0,1)]:=by
   rw[aZ,aA,bE hi2];rfl
  refine⟨rfl,⟨_,rfl,_,rfl,rfl,_,rfl,?_⟩⟩;rw[lj,Int.zero_add];by_cases e:(i:Int)=src
  ·rw[aj e];rw[ah e] at et;refine eZ ⟨di (by simp),fun p hp=> ?_⟩;have s3:=dt (o:= .tup [.int 1,.int 1]) hp;refine gA hD (s2.trans s3) (s3 _ _ hD2) (dH (by lia)) ?_;rw[et];exact(hacc.gQ fun _ _ q=>(q.same (s12.trans s3)).over (s3 _ _ hD2)).jw (Pd.over ⟨p,rfl,dh⟩ (s3 _ _ hD2))
  ·rw[ao e];rw[af e] at et;refine fh ⟨di (by simp),fun p hp=> ?_⟩;have s3:=dt (o:= .tup [.int 0,.int 1]) hp;refine gA hD (s2.trans s3) (s3 _ _ hD2) (dH (by lia)) ?_;rw[et];exact(hacc.gQ fun _ _ q=>(q.same (s12.trans s3)).over (s3 _ _ hD2)).jw (Pd.over ⟨p,rfl,dh⟩ (s3 _ _ hD2))
 ·intro H1 acc s1 hD1 hacc;rw[bg (by simp;lia)] at hacc;refine⟨_,rfl,di (by simp),fun q hq=> ?_⟩;have s2:=dt (o:= .lst [.int 0,.int 1]) hq;refine⟨_,rfl,_,rfl,fun x dx nx nd ne=> ?_⟩;have s3:=s1.trans s2;refine⟨_,x,dx,_,_,_,_,c9.gG n st src,rfl,dh,dJ.made nx nd (fun b o h _=>h),nx,hn.same s3,⟨q,rfl,dh⟩,hst.same s3,⟨D,acc,rfl,s2 _ _ hD1,hacc.gQ fun _ _ z=>z.same s2⟩,hl,fun H4 s4 hz=>⟨rfl,kk _ _ (s3.trans s4) hz⟩⟩
end
noncomputable def SK:Rp (List Bool):=fun S H v l=>∃a,v= .ref a/\¬S a/\H a=some (.lst (l.map V.bl))
theorem vy:Good SK where
 off:=fun⟨a,e,hs,h⟩ o=>⟨a,e,hs,o a _ hs h⟩
 yH:=fun⟨a,e,hs,h⟩ w=>⟨a,e,(fun q=>(w a q).elim hs fun z=>(by rw[h] at z;cases z)),h⟩
noncomputable abbrev Vt:Rp (List (List Bool)):=MC SK
theorem SK.at_{S:Addr->Prop}{H:Hp}{v:V}{l:List Bool}(h:SK S H v l):uu H v l:=let ⟨a,e,_,q⟩:=h;⟨a,e,q⟩
noncomputable def nh (p:c9.Part) (rs:List (List Bool)):List (List Bool):=rs.flatMap fun row=>if p.kind=13 then[row ++ [false],row ++ [true]] else[row ++ [false]]
theorem vz:∀(l:List c9.Part) (p:c9.Part) (rs:List (List Bool)),c9.eW (l ++ [p]) rs=nh p (c9.eW l rs)
 |[],p,rs=>rfl
 |q::l,p,rs=>vz l p _
theorem AJ(p:c9.Part)(rs:List (List Bool))(r:List Bool):nh p (rs ++ [r])=nh p rs ++ (if p.kind=13 then[r ++ [false],r ++ [true]] else[r ++ [false]]):=by
 unfold nh;rw[bS];simp
theorem wy(p:c9.Part):∀rs:List (List Bool),(nh p rs).length<=2*rs.length
 |[]=>ai _
 |r::rs=>by
  have:=wy p rs;have e:nh p (r::rs)=(if p.kind=13 then[r ++ [false],r ++ [true]] else[r ++ [false]]) ++ nh p rs:=by
   unfold nh;rw[bb]
  have l2:(if p.kind=13 then[r ++ [false],r ++ [true]] else[r ++ [false]]).length<=2:=by split <;>simp
  rw[e,ay,aq];lia
theorem Kg(p:c9.Part)(m:Nat)(rs:List (List Bool))(h:∀r∈rs,r.length=m):∀r∈nh p rs,r.length=m+1:=fun r hr=>by
 obtain⟨q,hq,e⟩:=cF.mp hr;have:=h q hq;split at e
 ·rcases aH.mp e with rfl |e
  ·simp[this]
  ·rw[au.mp e];simp[this]
 ·rw[au.mp e];simp[this]
theorem yf:∀(l:List c9.Part) (m:Nat) (rs:List (List Bool)),(∀r∈rs,r.length=m)->∀r∈c9.eW l rs,r.length=m+l.length
 |[],m,rs,h,r,hr=>h r hr
 |p::l,m,rs,h,r,hr=>by
  have:=yf l (m+1) _ (Kg p m rs h) r hr;rw[this,aq];lia
theorem yg:∀(l:List c9.Part) (rs:List (List Bool)),(c9.eW l rs).length<=2^l.length*rs.length
 |[],rs=>by simp[c9.eW]
 |p::l,rs=>by
  have h1:=yg l (nh p rs);have h2:=wy p rs;refine aw h1 (aw (b9 _ h2) ?_);rw[aq,Nat.pow_succ,Nat.mul_assoc];exact ai _
theorem IA{n:Nat}(h:n<=10):2^n<=1024:=bx (n:=2) (by decide) h
section
variable {P:Program}{w:World}{K:PySem.W.Frag}{mg:Str->Option Value}{base:Heap}{c:Cs}
noncomputable abbrev mh:Stmt:=top 90
theorem yh:dD ["parts","rows","part","longer","row"] ["parts"] (dk mh):=sco
noncomputable def qg (c:Cs):Sp:=fun vs H Q _=>∃v ps,vs=[v]/\nJ c H v ps/\ps.length<=10/\∀z H',dJ H H'->Vt FF H' z (c9.eW ps [[]])->Q z H'
theorem yk(T:Txt2 mg)(O:gr K c)(G:iN K mg "rows_of_states" mh ["parts"]):eV P w K mg base "rows_of_states" ["parts"] 1 (qg c):=by
 have sc:=yh;refine G.i8 sc fun f cdv A outer s H vs Q E hr h=> ?_
 obtain⟨v,ps,rfl,⟨pa,ws,rfl,hpa,hps⟩,hl,kk⟩:=h;have ll:=hps.length;refine⟨rfl,_,(df (dX (i:=1) sc.nd (dO (c7 (dO dc) dc)))
   (df (gW PassesOwn.never rfl (fu (pv 0)) (eY (i:=2) sc.nd) (df (dX (i:=3) sc.nd (dO dc))
   (df (gW PassesOwn.never rfl (fu (pv 1)) (eY (i:=4) sc.nd) (df (jg (pL aV a4 a5 g6 (pv 3) (c7 (eO lF (pv 4) (dO (c7 pK dc))) dc)))
   (dj (fk (eJ iV (dq K (pv 2) rfl) (gc T.u9) (eF _)) (dj (jg (pL aV a4 a5 g6 (pv 3) (c7 (eO lF (pv 4) (dO (c7 pK dc))) dc)))) d8))))
   (dj (dX (i:=1) sc.nd (pv 3))))))
   (dj (dC (pv 1))))),?_⟩
 refine⟨di (by simp),fun q hq=> ?_⟩;have s1:=dt (o:= .lst []) hq;refine⟨di (by simp),fun r hr'=> ?_⟩;have s2:=s1.trans (dt (o:= .lst [.ref q]) hr');have hqr:q≠r:=fun e=>by rw[<-e,dh] at hr';cases hr'
 have lim:∀i,i<=ps.length->(c9.eW (ps.take i) [[]]).length<=1024:=fun i hi=>by
  have:=yg (ps.take i) [[]];have h2:=IA (n:=(ps.take i).length) (by rw[aC];lia);simp only[aq,bI,Nat.zero_add,Nat.mul_one] at this;lia
 refine⟨_,rfl,pa,rfl,⟨_,.of (s2 _ _ hpa)⟩,jK (fw (K:=K) (.of hpa)) (fun i σ H'=>∃p us x2 x3 x4,σ=[some (.ref pa),some (.ref p),x2,x3,x4]/\dJ H H'/\H p=none/\H' p=some (.lst us)/\Paired (SK FF H') us (c9.eW (ps.take i) [[]])) ?_ (fun i σ H' ⟨_,_,_,_,_,_,s,_⟩=>s) ?_ ?_⟩
 ·refine⟨r,_,none,none,none,rfl,s2,s1.free hr',dh,.cons ⟨q,rfl,fun z=>z,?_⟩ .nil⟩;rw[d6 hqr,dh];rfl
 ·rintro i x σ H1 H2 hi ⟨p,us,x2,x3,x4,rfl,s3,pH,hp1,hus⟩ s4 s12 hx;obtain⟨pt,hpt,pr⟩:=hps.mR hx;have hi2:i<ps.length:=by lia
  have hp2:=s12 _ _ hp1;have hus2:=hus.iZ vy s12;have lu:=hus.length;have li:=lim i (by lia);have hrow:∀r∈c9.eW (ps.take i) [[]],r.length<=1000:=fun r hr=>by
   have:=yf (ps.take i) 0 [[]] (by simp) r hr;rw[aC] at this;lia
  refine⟨aL _,fun l hl'=> ?_⟩;have s5:=dt (o:= .lst []) hl';refine⟨_,rfl,p,rfl,⟨_,.of (s5 _ _ hp2)⟩,jK (fw (K:=K) (.of hp2)) (fun j σ H'=>∃y4 ls,σ=[some (.ref pa),some (.ref p),some x,some (.ref l),y4]/\dJ H2 H'/\H' l=some (.lst ls)/\Paired (SK (fM FF l) H') ls (nh pt ((c9.eW (ps.take i) [[]]).take j))) ?_ (fun i σ H' ⟨_,_,_,s,_⟩=>s) ?_ ?_⟩
  ·exact⟨_,[],rfl,s5,dh,.nil⟩
  ·rintro j y σ H3 H4 hj ⟨y4,ls,rfl,s6,hl3,hls⟩ s7 s34 hy;obtain⟨row,hrw,ra,rfl,_,hra⟩:=hus2.mR hy;have hl4:=s34 _ _ hl3;have hra4:=s7 _ _ hra;have lrow:=hrow row (aB hrw);have lls:=hls.length;have lst:=wy pt ((c9.eW (ps.take i) [[]]).take j);rw[aC] at lst;have et:(c9.eW (ps.take i) [[]]).take (j+1)=(c9.eW (ps.take i) [[]]).take j ++ [row]:=by
    rw[aZ,hrw];rfl
   obtain⟨pb,pbx,rfl,hpb⟩:=pr.same (s4.trans s7);refine⟨_,rfl,.inl ⟨rfl,_,.of hl4⟩,_,rfl,di (by simp),fun m1 hm1=> ?_⟩;have s8:=dt (o:= .lst [.bl false]) hm1;refine⟨ra,m1,_,_,rfl,rfl,s8 _ _ hra4,dh,di (by simp;lia),fun m2 hm2=> ?_⟩;have s9:=s8.trans (dt (o:= .lst (row.map V.bl ++ [.bl false])) hm2);have hl5:=s9 _ _ hl4;have nm2:¬fM FF l m2:=fun h=>h.elim (fun z=>z) (fun e=>by rw[e,s8 _ _ hl4] at hm2;cases hm2)
   refine⟨l,_,_,rfl,rfl,hl5,dH (by lia),?_⟩;have s10:=(s7.trans s9).over (o:= .lst (ls ++ [.ref m2])) hl';have hB:Paired (SK (fM FF l) (upd (upd (upd H4 m1 (.lst [.bl false])) m2 (.lst (row.map V.bl ++ [.bl false]))) l (.lst (ls ++ [.ref m2])))) (ls ++ [.ref m2]) (nh pt ((c9.eW (ps.take i) [[]]).take j) ++ [row ++ [false]]):=by
    refine((hls.iZ vy (s34.trans s9)).uq vy (fD (.inr rfl))).jw (vy.off ⟨m2,rfl,nm2,?_⟩ (fD (.inr rfl)));rw[dh,aO];rfl
   have hl6:(upd (upd (upd H4 m1 (.lst [.bl false])) m2 (.lst (row.map V.bl ++ [.bl false]))) l (.lst (ls ++ [.ref m2]))) l=some (.lst (ls ++ [.ref m2])):=dh;have hpb5:(upd (upd (upd H4 m1 (.lst [.bl false])) m2 (.lst (row.map V.bl ++ [.bl false]))) l (.lst (ls ++ [.ref m2]))) pb=some (.ins c.part pbx (O2 pt)):=by
    rw[d6 (G0 (s9 _ _ hpb) hl5 (by intro z;cases z))];exact s9 _ _ hpb
   generalize upd (upd (upd H4 m1 (.lst [.bl false])) m2 (.lst (row.map V.bl ++ [.bl false]))) l (.lst (ls ++ [.ref m2]))=H5 at s10 hB hl6 hpb5;refine⟨_,rfl,dY hpb5 O.part.cl (O.part.at_ 0 rfl) rfl ⟨rfl,_,rfl,?_⟩⟩;rw[lj];by_cases h13:pt.kind=13
   ·rw[aj h13];have hra5:=s10 _ _ hra;refine eZ ⟨_,rfl,.inl ⟨rfl,_,.of hl6⟩,_,rfl,di (by simp),fun m3 hm3=> ?_⟩;have s11:=dt (o:= .lst [.bl true]) hm3;refine⟨ra,m3,_,_,rfl,rfl,s11 _ _ hra5,dh,di (by simp;lia),fun m4 hm4=> ?_⟩;have s12':=s11.trans (dt (o:= .lst (row.map V.bl ++ [.bl true])) hm4);have hl7:=s12' _ _ hl6;have nm4:¬fM FF l m4:=fun h=>h.elim (fun z=>z) (fun e=>by rw[e,s11 _ _ hl6] at hm4;cases hm4)
    refine⟨l,_,_,rfl,rfl,hl7,dH (by simp;lia),_,_,rfl,(s10.trans s12').over hl',dh,?_⟩;rw[et,AJ,ah h13,List.append_cons _ _ [_]];refine((hB.iZ vy s12').uq vy (fD (.inr rfl))).jw (vy.off ⟨m4,rfl,nm4,?_⟩ (fD (.inr rfl)));rw[dh,aO];rfl
   ·rw[ao h13];refine fh ⟨_,_,rfl,s10,hl6,?_⟩;rw[et,AJ,af h13];exact hB
  ·rintro σ H3 ⟨y4,ls,rfl,s6,hl3,hls⟩;rw[lu,aG] at hls;refine⟨_,rfl,l,ls,_,_,_,rfl,s4.trans s6,s4.free hl',hl3,?_⟩;rw[aZ,hpt];show Paired _ _ (c9.eW (ps.take i ++ [pt]) [[]]);rw[vz];exact hls.Ng vy
 ·rintro σ H1 ⟨p,us,x2,x3,x4,rfl,s3,pH,hp1,hus⟩;rw[ll,aG] at hus;exact⟨_,rfl,kk _ _ s3 ⟨p,us,rfl,fun z=>z,hp1,hus⟩⟩
end
theorem Sz.prod{a b:Int}{m n:Nat}(ha:Sz m a)(hb:Sz n b):Sz (m+n) (a*b):=by
 unfold Sz at *;rw[bP,Nat.pow_add];exact Nat.mul_lt_mul'' ha hb
theorem Vu{p:Nat->Bool}{i:Nat}(h:p i=true):[i].filter p=[i]:=by simp[h]
theorem Vv{p:Nat->Bool}{i:Nat}(h:p i=false):[i].filter p=[]:=by simp[h]
structure Pe(g:c9.lh)(s:List Int×List (List Int))(k:Nat):Prop where
 kl:k<g.dZ.c8.length
 st:g.gF.length=g.dZ.c8.length
 p0:0<=(c9.places g.dZ).getD k 0
 p1:(c9.places g.dZ).getD k 0<s.2.length
 a:(pat g k).a<=s.2.length
 b:(pat g k).b<=s.2.length
 sh:wx s
 zd:Sz 8000 (c9.fc s.1)
 zc:Sz 8000 (c9.fc (c9.ig g s k))
 zv:Sz 8000 (c9.fc (c9.pP g s k))
 zt:Sz 64 (pat g k).top
 zb:Sz 64 (pat g k).dE
section
variable {P:Program}{w:World}{K:PySem.W.Frag}{mg:Str->Option Value}{base:Heap}{c:Cs}
noncomputable abbrev oT:Stmt:=top 92
theorem A1:dD ["setting","solution","k","part","determinant","voltage"] ["setting","solution","k"] (dk oT):=sco
noncomputable def sM (c:Cs):Sp:=fun vs H Q _=>∃v u g s k,vs=[u,v,.int ((k:Nat):Int)]/\sL c H v s/\ny c H u g/\Pe g s k/\∀H',dJ H H'->Q (.bl (c9.vK g s k)) H'
theorem A2(O:gr K c)(jU:eV P w K mg base "constant_of" ["polynomial"] 1 uj)(i7:eV P w K mg base "current_top" ["setting","solution","k"] 1 (oS c))(qK:eV P w K mg base "voltage_top" ["setting","solution","k"] 5 (uI c))(G:iN K mg "diode_agrees" oT ["setting","solution","k"]):eV P w K mg base "diode_agrees" ["setting","solution","k"] 6 (sM c):=by
 have sc:=A1;refine G.i8 sc fun f cdv A outer s0 H vs Q E hr h=> ?_
 obtain⟨v,u,g,s,k,rfl,hs,hg,ok,kk⟩:=h;obtain⟨sa,sdx,vd,vt,rfl,hsa,hd,_⟩:=id hs;obtain⟨ga,gdx,gvn,gvs,gvst,gvd,gvp,rfl,hga,⟨na,ndx,nvp,rfl,hna,pa,ws,rfl,hpa,hps⟩,_,⟨sta,rfl,hsta⟩,_,_⟩:=id hg;refine⟨rfl,_,(df (dX (i:=3) sc.nd (dW (i0 K) (dq K (dq K (pv 0) rfl) rfl) (pv 2) (fun _ _=>rfl)))
   (df (dX (i:=4) sc.nd (dy jU hr (c7 (dq K (pv 1) rfl) dc)))
   (df (fk (fb K (dW (i0 K) (dq K (pv 0) rfl) (pv 2) (fun _ _=>rfl)) (fun _=>rfl)) (dj (dC (hW Nu (eO il (dy jU hr (c7 (dy i7 hr (c7 (pv 0) (c7 (pv 1) (c7 (pv 2) dc)))) dc)) (pv 4)) dz (eF _)))) d8)
   (df (dX (i:=5) sc.nd (dy jU hr (c7 (dy qK hr (c7 (pv 0) (c7 (pv 1) (c7 (pv 2) dc)))) dc)))
   (dj (dC (hW tj (eO il (eO il (pv 5) (pv 4)) (dq K (pv 3) rfl)) (eO il (eO il (dq K (pv 3) rfl) (pv 4)) (pv 4)) (eF _)))))))),?_⟩
 obtain⟨x,hx,pb,pbx,rfl,hpb⟩:=hps.ko (dw (d:=c9.p0) ok.kl);have hb:(g.gF.map V.bl)[k]? =some (V.bl (g.gF.getD k false)):=by
  rw[aA,dw (d:=false) (by have:=ok.st;have:=ok.kl;lia)];rfl
 unfold c9.vK at kk;refine⟨_,rfl,dY hga O.jL.cl (O.jL.at_ 0 rfl) rfl (dY hna O.dZ.cl (O.dZ.at_ 1 rfl) rfl ⟨_,rfl,jW (.of hpa) (dM (j:=k) rfl hx) ?_⟩)⟩;refine⟨_,rfl,dY hsa O.sol.cl (O.sol.at_ 0 rfl) rfl ⟨_,_,rfl,hd,?_⟩⟩;refine⟨_,rfl,dY hga O.jL.cl (O.jL.at_ 2 rfl) rfl ⟨_,rfl,jW (.of hsta) (dM (j:=k) rfl hb) ⟨_,rfl,?_⟩⟩⟩;by_cases h1:g.gF.getD k false=true
 ·rw[h1];simp only[h1,if_true] at kk;refine eZ ⟨_,rfl,_,rfl,_,rfl,_,_,g,s,k,rfl,hs,hg,ok.kl,ok.p0,ok.p1,fun z H1 s1 pz=> ?_⟩;exact⟨_,_,rfl,pz,_,rfl,oY ⟨ok.zc.mul ok.zd (by decide),_,_,rfl,rfl,kk _ s1⟩⟩
 ·have h2:g.gF.getD k false=false:=by simpa using h1
  rw[h2];simp only[h2,if_false,Bool.false_eq_true] at kk;refine fh ⟨_,rfl,_,rfl,_,rfl,_,_,g,s,k,rfl,hs,ok.sh,hg,ok.kl,ok.a,ok.b,fun z H1 s1 pz=> ?_⟩;refine⟨_,_,rfl,pz,?_⟩;have hpb1:=s1 _ _ hpb;exact⟨_,rfl,_,rfl,oY ⟨ok.zv.mul ok.zd (by decide),_,rfl,dY hpb1 O.part.cl (O.part.at_ 6 rfl) rfl (oY ⟨(ok.zv.prod ok.zd).mul ok.zb (by decide),_,rfl,dY hpb1 O.part.cl (O.part.at_ 5 rfl) rfl ⟨_,rfl,oY ⟨ok.zt.mul ok.zd (by decide),_,rfl,oY ⟨(ok.zt.prod ok.zd).mul ok.zd (by decide),_,_,rfl,rfl,kk _ s1⟩⟩⟩⟩)⟩⟩
noncomputable abbrev iT:Stmt:=top 91
theorem vj:dD ["setting","solution","parts","k"] ["setting","solution"] (dk iT):=sco
noncomputable def nE (c:Cs):Sp:=fun vs H Q _=>∃v u g s,vs=[u,v]/\sL c H v s/\ny c H u g/\g.dZ.c8.length<=1000/\(∀k,k<g.dZ.c8.length->(pat g k).kind=13->Pe g s k)/\∀H',dJ H H'->Q (.bl (c9.jo g s)) H'
theorem vk(T:Txt2 mg)(O:gr K c)(oU:eV P w K mg base "diode_agrees" ["setting","solution","k"] 6 (sM c))(G:iN K mg "all_diodes_agree" iT ["setting","solution"]):eV P w K mg base "all_diodes_agree" ["setting","solution"] 7 (nE c):=by
 have sc:=vj;refine G.i8 sc fun f cdv A outer s0 H vs Q E hr h=> ?_
 obtain⟨v,u,g,s,rfl,hs,hg,hl,ok,kk⟩:=h;obtain⟨ga,gdx,gvn,gvs,gvst,gvd,gvp,rfl,hga,⟨na,ndx,nvp,rfl,hna,pa,ws,rfl,hpa,hps⟩,_⟩:=id hg;have ll:=hps.length;refine⟨rfl,_,(df (dX (i:=2) sc.nd (dq K (dq K (pv 0) rfl) rfl))
   (dj (dC (d5 (FH K rfl) rfl T.Ii vH (c7 (mJ rfl sc.nd (nM rfl T.jY (c7 (d5 (eK K) rfl T.gV d9 (c7 (pv 2) dc)) dc)) (fq (own:=[("k",3)]) (by show mV ["setting","solution","parts","k"] (dk iT) _ _=true;decide +kernel)) (fun _ _ _ _ _=>(eY (i:=3) sc.nd)) (fun _ _ _ _ _=>(KP (eJ iV (dq K (dW (i0 K) (pv 2) (pv 3) (fun _ _=>rfl)) rfl) (gc T.u9) (eF _)))) (fun _ _ _ _ _=>(dy oU hr (c7 (pv 0) (c7 (pv 1) (c7 (pv 3) dc)))))) dc))))),?_⟩
 refine⟨_,rfl,dY hga O.jL.cl (O.jL.at_ 0 rfl) rfl (dY hna O.dZ.cl (O.dZ.at_ 1 rfl) rfl ?_)⟩;refine⟨_,rfl,pa,_,rfl,.inl (.of hpa),_,rfl,by lia,by lia,fun D hD=>nZ (mK H 0 _) hD (fun i _ acc=>acc=(((List.range i).filter fun k=>decide ((g.dZ.c8.getD k c9.p0).kind=13)).map fun k=>V.bl (c9.vK g s k))) rfl ?_ ?_⟩
 ·rintro i x H1 H2 acc hi s1 hD1 hacc s2 s12 hD2 rfl;have hi2:i<g.dZ.c8.length:=by lia
  obtain⟨y,hy,pb,pbx,rfl,hpb⟩:=hps.ko (dw (d:=c9.p0) hi2);have lf:acc.length<=i:=by
   rw[hacc,lMp];exact aw (cJ _ _) (by simp)
  rw[Int.zero_add];refine⟨rfl,⟨_,rfl,_,rfl,jW (.of (s2 _ _ hpa)) (dM (j:=i) rfl hy) (dY (s2 _ _ hpb) O.part.cl (O.part.at_ 0 rfl) rfl ⟨rfl,_,rfl,?_⟩)⟩⟩;rw[lj];by_cases h13:(g.dZ.c8.getD i c9.p0).kind=13
  ·rw[aj h13];refine eZ ⟨_,rfl,_,rfl,_,rfl,_,_,g,s,i,rfl,hs.same s2,hg.same s2,ok i hi2 h13,fun H3 s3=> ?_⟩;refine gA hD (s2.trans s3) (s3 _ _ hD2) (dH (by lia)) ?_;rw[hacc,bY,bL,aO,Vu (aj h13)];rfl
  ·rw[ao h13];refine fh ⟨s2,acc,hD2,?_⟩;rw[hacc,bY,bL,aO,Vv (ao h13)];simp
 ·intro H1 acc s1 hD1 hacc;have en:((ws.length:Int)).toNat=g.dZ.c8.length:=by lia
  rw[en] at hacc;refine⟨D,((List.range g.dZ.c8.length).filter fun k=>decide ((g.dZ.c8.getD k c9.p0).kind=13)).map (c9.vK g s),rfl,.of ?_,?_⟩
  ·rw[hD1,hacc,aQ];rfl
  ·have:=kk _ s1;unfold c9.jo at this;rw[List.all_map];exact this
noncomputable def Vw (c:Cs) (H:Hp) (v:V) (pt:List Bool×(List Int×List (List Int))):Prop:=∃a dx vst vsl,v= .ref a/\H a=some (.ins c.pt dx (VX vst vsl))/\uu H vst pt.1/\sL c H vsl pt.2
structure AK(g:c9.lh):Prop where
 Vx:UL g
 l0:0<=g.dZ.last
 l1:g.dZ.last<=100
 Vy:GC g.dZ
 Vz:∀k,k<g.dZ.c8.length->LK g k
 VA:O9 g
 len:(c9.rows g).length<=900
 yH:∀i,i<(c9.rows g).length->((c9.rows g).getD i []).length=(c9.rows g).length+1
 run:C3 (c9.rows g).length 0 (c9.rows g) [1]
noncomputable def mU (n:c9.Nw) (st:List Bool):c9.lh:=⟨n,[],st,n.c8.map fun p=>(p.top,p.dE)⟩
structure SM(n:c9.Nw):Prop where
 c8:n.c8.length<=10
 jL:∀st∈c9.eW n.c8 [[]],AK (mU n st)
 V9:∀st∈c9.eW n.c8 [[]],∀s,c9.sol (c9.rows (mU n st))=some s->∀k,k<n.c8.length->(pat (mU n st) k).kind=13->Pe (mU n st) s k
noncomputable def VB (c:Cs) (H:Hp) (Q:VK):Option (List Bool×(List Int×List (List Int)))->Prop
 |none=>∀H',dJ H H'->Q .jP H'
 |some s=>∀z H',dJ H H'->Vw c H' z s->Q z H'
noncomputable abbrev jm:Stmt:=top 89
theorem wz:dD ["network","own","part","states","setting","solution"] ["network"] (dk jm):=sco
noncomputable def oV (c:Cs):Sp:=fun vs H Q _=>∃v n,vs=[v]/\nv c H v n/\SM n/\VB c H Q (c9.point n)
theorem wA(T:Txt2 mg)(O:gr K c)(mi:eV P w K mg base "rows_of_states" ["parts"] 1 (qg c))(nV:Kb P w K mg base "Setting" c.jL ["self","network","s","states","drives"] 3 (uF c))(iU:eV P w K mg base "law_rows" ["setting"] 6 (qf c))(kJ:eV P w K mg base "solved" ["rows"] 6 (ve c))(j6:eV P w K mg base "all_diodes_agree" ["setting","solution"] 7 (nE c))(mj:Kb P w K mg base "OperatingPoint" c.pt ["self","states","solution"] 1 (oO c.pt))(G:iN K mg "operating_point" jm ["network"]):eV P w K mg base "operating_point" ["network"] 8 (oV c):=by
 have sc:=wz;refine G.i8 sc fun f cdv A outer s0 H vs Q E hr h=> ?_
 obtain⟨v,n,rfl,hn,ok,kk⟩:=h;obtain⟨na,ndx,nvp,rfl,hna,pa,ws,rfl,hpa,hps⟩:=id hn;have ll:=hps.length;have l10:=ok.c8;refine⟨rfl,_,(df (qS (i:=1) rfl sc.nd rfl rfl (uO rfl rfl rfl rfl) (fu (dq K (pv 0) rfl)) (fq (own:=[("part",2)]) (by show mV ["network","own","part","states","setting","solution"] (dk jm) _ _=true;decide +kernel)) (fun _ _ _ _ _=>(eY (i:=2) sc.nd)) (fun _ _ _ _ _=>gf) (fun _ _ _ _ _=>(gj (c7 (dq K (pv 2) rfl) (c7 (dq K (pv 2) rfl) dc)))))
   (df (gW PassesOwn.never rfl (fu (dy mi hr (c7 (dq K (pv 0) rfl) dc))) (eY (i:=3) sc.nd) (df (dX (i:=4) sc.nd (AG nV hr (c7 (pv 0) (c7 (dO dc) (c7 (pv 3) (c7 (pv 1) dc))))))
   (df (dX (i:=5) sc.nd (dy kJ hr (c7 (dy iU hr (c7 (pv 4) dc)) dc)))
   (dj (fk (PW.pt (Jb (BB (PL (pv 5))) (Ft (fb K (dy j6 hr (c7 (pv 4) (c7 (pv 5) dc))) (fun _=>rfl))))) (dj (dC (AG mj hr (c7 (pv 3) (c7 (pv 5) dc))))) d8)))))
   (dj (dC Fp)))),?_⟩
 refine⟨_,rfl,dY hna O.dZ.cl (O.dZ.at_ 1 rfl) rfl ⟨pa,rfl,⟨_,.of hpa⟩,fun D hD=>nZ (fw (.of hpa)) hD (fun i H' acc=>Paired (Pd H') acc ((n.c8.take i).map fun p=>(p.top,p.dE))) .nil ?_ ?_⟩⟩
 ·rintro i x H1 H2 acc hi s1 hD1 hacc s2 s12 hD2 hx;obtain⟨p,hp,pb,pbx,rfl,hpb⟩:=hps.mR hx;have la:=hacc.length;rw[lMp,aC] at la;have hpb2:=s2 _ _ hpb;refine⟨rfl,⟨_,rfl,dY hpb2 O.part.cl (O.part.at_ 5 rfl) rfl ⟨_,rfl,dY hpb2 O.part.cl (O.part.at_ 6 rfl) rfl ⟨di (by simp),fun q hq=> ?_⟩⟩⟩⟩;have s3:=dt (o:= .tup [.int p.top,.int p.dE]) hq;refine gA hD (s2.trans s3) (s3 _ _ hD2) (dH (by lia)) ?_;rw[eI _ _ _ _ hp];exact(hacc.gQ fun _ _ q=>(q.same (s12.trans s3)).over (s3 _ _ hD2)).jw (Pd.over ⟨q,rfl,dh⟩ (s3 _ _ hD2))
 ·intro H1 acc s1 hD1 hacc;rw[ll,aG] at hacc;have hown:AE H1 (.ref D) (n.c8.map fun p=>(p.top,p.dE)):=⟨D,acc,rfl,hD1,hacc⟩;refine⟨_,rfl,dY (s1 _ _ hna) O.dZ.cl (O.dZ.at_ 1 rfl) rfl ⟨_,n.c8,rfl,⟨pa,ws,rfl,s1 _ _ hpa,hps.gQ fun _ _ z=>z.same s1⟩,l10,fun z H2 s2 hz=> ?_⟩⟩;obtain⟨ra,us,rfl,_,hra,hus⟩:=hz;have s12:=s1.trans s2;have lu:=hus.length;refine⟨ra,rfl,⟨_,.of hra⟩,jK (fw (K:=K) (.of hra)) (fun i σ H'=>∃x2 x3 x4 x5,σ=[some (.ref na),some (.ref D),x2,x3,x4,x5]/\dJ H2 H'/\i<=us.length/\c9.mC n ((c9.eW n.c8 [[]]).drop i)=c9.point n) ⟨none,none,none,none,rfl,.refl _,aL _,rfl⟩ (fun i σ H' ⟨_,_,_,_,_,s,_⟩=>s) ?_ ?_⟩
  ·rintro i x σ H3 H4 hi ⟨x2,x3,x4,x5,rfl,s3,hi2,hpo⟩ s4 s34 hx;obtain⟨st,hst,rx⟩:=hus.mR hx;have hmem:=aB hst;have ki:=ok.jL st hmem;have edrop:(c9.eW n.c8 [[]]).drop i=st::(c9.eW n.c8 [[]]).drop (i+1):=by
    obtain⟨hlt,e⟩:=bf.mp hst;rw[cU hlt,e]
   rw[edrop] at hpo;have hpo':(match c9.sol (c9.rows (mU n st)) with
    |none=>c9.mC n ((c9.eW n.c8 [[]]).drop (i+1))
    |some s=>if c9.jo (mU n st) s=true then some (st,s) else c9.mC n ((c9.eW n.c8 [[]]).drop (i+1)))=c9.point n:=hpo
   have s24:=s12.trans s4;refine⟨_,rfl,aL _,fun q hq=> ?_⟩;have s5:=dt (o:= .lst []) hq;refine⟨_,rfl,_,rfl,fun ox dx nx nd ne=> ?_⟩;have s6:=s24.trans s5;have hst5:uu (upd H4 q (.lst [])) x st:=(vy.same rx (s4.trans s5)).at_;refine⟨_,ox,dx,_,_,_,_,mU n st,rfl,dh,dJ.made nx nd (fun b o h _=>h),nx,hn.same s6,⟨q,rfl,dh⟩,hst5,hown.same ((s2.trans s4).trans s5),by show n.c8.length<=1000;lia,fun H5 s7 hg=>⟨rfl,?_⟩⟩;have s57:=s5.trans s7;refine⟨_,rfl,_,mU n st,rfl,hg,ki.Vx,ki.l0,ki.l1,ki.Vy,ki.Vz,ki.VA,fun z6 H6 s8 hrows=> ?_⟩;refine⟨_,_,rfl,Gx.less hrows (fun a h=>h.elim),ki.len,ki.yH,ki.run,?_⟩;cases hso:c9.sol (c9.rows (mU n st)) with
   |none=>
    rw[hso] at hpo';intro H7 s9;refine⟨_,rfl,_,rfl,?_⟩;refine fh (fh ⟨_,_,_,_,rfl,((s4.trans s57).trans s8).trans s9,by lia,hpo'⟩)
   |some sl=>
    rw[hso] at hpo';intro z7 H7 s9 hsl;have ag:=ok.V9 st hmem sl hso;obtain⟨za,zdx,zvd,zvt,rfl,hza,_⟩:=id hsl;refine⟨_,rfl,_,rfl,?_⟩;refine eZ ⟨_,rfl,_,rfl,_,_,mU n st,sl,rfl,hsl,hg.same (s8.trans s9),by show n.c8.length<=1000;lia,ag,fun H8 s10=> ?_⟩;have s20:dJ H4 H8:=((s57.trans s8).trans s9).trans s10;refine⟨_,rfl,?_⟩;by_cases hag:c9.jo (mU n st) sl=true
    ·rw[hag];have hpo2:some (st,sl)=c9.point n:=by
      rw[<-hpo'];show _=if c9.jo (mU n st) sl=true then _ else _
      rw[ah hag]
     rw[<-hpo2] at kk;refine eZ ⟨_,rfl,_,rfl,fun ox2 dx2 nx2 nd2 ne2=>⟨ox2,dx2,_,_,rfl,dh,fun H9 k9 hx9=>⟨rfl,?_⟩⟩⟩;have s11:dJ H8 H9:=dJ.made nx2 nd2 k9;exact kk _ _ (s24.trans (s20.trans s11)) ⟨ox2,dx2,x,_,rfl,hx9,(vy.same rx (s4.trans (s20.trans s11))).at_,hsl.same (s10.trans s11)⟩
    ·have hag2:c9.jo (mU n st) sl=false:=by simpa using hag
     rw[hag2];refine fh ⟨_,_,_,_,rfl,s4.trans s20,by lia,?_⟩;rw[<-hpo'];show _=if c9.jo (mU n st) sl=true then _ else _
     rw[af hag]
  ·rintro σ H3 ⟨x2,x3,x4,x5,rfl,s3,hi2,hpo⟩;rw[List.drop_of_length_le (by lia)] at hpo;have:c9.point n=none:=hpo.symm;rw[this] at kk;exact kk _ (s12.trans s3)
end
theorem vals2{a b:Int}{us:List Value}(r:Vals [.int a,.int b] us):∃t t',us=[.int a t,.int b t']:=by
 cases r with
 |cons r1 r=>
  cases r with
  |cons r2 r=>
   cases r
   obtain⟨t,rfl⟩:=r1;obtain⟨t',rfl⟩:=r2;exact⟨t,t',rfl⟩
theorem SN{a b:Addr}{us:List Value}(r:Vals [.ref a,.ref b] us):us=[.ref a,.ref b]:=by
 cases r with
 |cons r1 r=>
  cases r with
  |cons r2 r=>
   cases r
   cases r1
   cases r2
   rfl
theorem zO{A:Around}{s:Shared}{t1 t:Addr}{a1 b1 a b:Int}{k1 k2 k3 k4:Tok}(hu:A.units<cLine)(h1:IsTup s.heap t1 [Value.int a1 k1,.int b1 k2].toArray)(h:IsTup s.heap t [Value.int a k3,.int b k4].toArray)(hs:t1=t->a1=a/\b1=b):
  SeqAt.EqAt A s (.ref t1) (.ref t) (decide (a1=a/\b1=b)):=by
 by_cases e:t1=t
 ·rw[aj (hs e),e];exact SeqAt.EqAt.same _
 ·have q:=SeqAt.EqAt.of_refs e (SeqAt.RcAt.tuples (e:=fun j=>if j=0 then a1==a else b1==b) h1 h hu (fun j j1 j2=>by
   have hj:j=0\/j=1:=by
    have:j<2:=j1;lia
   rcases hj with rfl |rfl
   ·exact SeqAt.EqAt.int_int a1 k1 a k3
   ·exact SeqAt.EqAt.int_int b1 k2 b k4))
  have e2:((List.range (min [Value.int a1 k1,.int b1 k2].toArray.size [Value.int a k3,.int b k4].toArray.size)).all (fun j=>if j=0 then a1==a else b1==b)&&[Value.int a1 k1,.int b1 k2].toArray.size==[Value.int a k3,.int b k4].toArray.size)=decide (a1=a/\b1=b):=by
   show([0,1].all (fun j=>if j=0 then a1==a else b1==b)&&true)=_;rw[a6];simp
  rw[e2] at q;exact q
noncomputable def VC (K:PySem.W.Frag):R2:=fun x y H Q=>∃t p t1 t2 a b a1 b1 a2 b2,x= .ref t/\y= .ref p/\Du K H t [.int a,.int b]/\Du K H p [.ref t1,.ref t2]/\Du K H t1 [.int a1,.int b1]/\Du K H t2 [.int a2,.int b2]/\Q (.bl (decide ((a1=a/\b1=b)\/(a2=a/\b2=b)))) H
noncomputable def UA (t1:Addr) (e1 e2:Bool):Value->Bool
 | .ref x=>if x=t1 then e1 else e2
 |_=>false
theorem SO{X:Cx}(K:PySem.W.Frag)(hu:X.A.units+64<cLine)(h:X.K=K:=by rfl):wV X (compareOp .In) (VC K):=by
 subst h;intro pins s σ H x y v u Q I rx ry h;obtain⟨t,p,t1,t2,a,b,a1,b1,a2,b2,rfl,rfl,ht,hp,ht1,ht2,q⟩:=h;cases rx
 cases ry
 obtain⟨its,r,pl,_⟩:=I.tuple ht;obtain⟨its0,r0,pl0,_⟩:=I.tuple hp;obtain⟨its1,r1,pl1,_⟩:=I.tuple ht1;obtain⟨its2,r2,pl2,_⟩:=I.tuple ht2;obtain⟨k3,k4,rfl⟩:=vals2 r;obtain⟨k5,k6,rfl⟩:=vals2 r1;obtain⟨k7,k8,rfl⟩:=vals2 r2;cases SN r0
 have q1:t1=t->a1=a/\b1=b:=fun e=>by
  subst e;have:=I.yI ht1 ht;simpa using this
 have q2:t2=t->a2=a/\b2=b:=fun e=>by
  subst e;have:=I.yI ht2 ht;simpa using this
 have q12:t1=t2->a1=a2/\b1=b2:=fun e=>by
  subst e;have:=I.yI ht1 ht2;simpa using this
 have hu1:X.A.in1.units<cLine:=by rw[Around.in1_units];lia
 refine SeqAt.in_tupleAt (UA t1 (decide (a1=a/\b1=b)) (decide (a2=a/\b2=b))) pl0 (fun w hw=> ?_) ⟨.bl _,H,I,rfl,?_⟩
 ·have hw2:w= .ref t1\/w= .ref t2:=by simpa using hw
  rcases hw2 with rfl |rfl
  ·show SeqAt.EqAt _ _ _ _ (if t1=t1 then _ else _);rw[ah rfl];exact zO hu1 pl1 pl q1
  ·show SeqAt.EqAt _ _ _ _ (if t2=t1 then _ else _);by_cases e:t2=t1
   ·rw[ah e];obtain⟨e1,e2⟩:=q12 e.symm;rw[e1,e2];exact zO hu1 pl2 pl q2
   ·rw[af e];exact zO hu1 pl2 pl q2
 ·have e:([Value.ref t1,.ref t2].toArray.any (UA t1 (decide (a1=a/\b1=b)) (decide (a2=a/\b2=b))))=decide ((a1=a/\b1=b)\/(a2=a/\b2=b)):=by
   show([Value.ref t1,.ref t2].toArray.any _)=_;rw[show([Value.ref t1,.ref t2].toArray.any (UA t1 (decide (a1=a/\b1=b)) (decide (a2=a/\b2=b))))=(UA t1 (decide (a1=a/\b1=b)) (decide (a2=a/\b2=b)) (.ref t1) ||UA t1 (decide (a1=a/\b1=b)) (decide (a2=a/\b2=b)) (.ref t2)) by simp];show((if t1=t1 then _ else _) ||(if t2=t1 then _ else _))=_;rw[ah rfl];by_cases e:t2=t1
   ·rw[ah e];obtain⟨e1,e2⟩:=q12 e.symm;rw[e1,e2];simp
   ·rw[af e,a6];simp
  rw[e];exact q
section
variable {P:Program}{w:World}{K:PySem.W.Frag}{mg:Str->Option Value}{base:Heap}{c:Cs}
noncomputable abbrev zP:Stmt:=top 74
theorem Kh:dD ["part","one","other"] ["part","one","other"] (dk zP):=sco
noncomputable def C9 (c:Cs):Sp:=fun vs H Q _=>∃v p one other,vs=[v,.int one,.int other]/\gR c H v p/\∀H',dJ H H'->Q (.bl (c9.jh p one other)) H'
theorem Ki(T:Txt2 mg)(O:gr K c)(G:iN K mg "couples" zP ["part","one","other"]):eV P w K mg base "couples" ["part","one","other"] 1 (C9 c):=by
 have sc:=Kh;refine G.i8 sc fun f cdv A outer s0 H vs Q E hr h=> ?_
 obtain⟨v,p,one,other,rfl,⟨pb,pbx,rfl,hpb⟩,kk⟩:=h;refine⟨rfl,_,(df (fk (eJ Ae (dq K (pv 0) rfl) (gc T.iR) (eF _)) (dj (dC pK)) d8)
   (dj (dC (hW (SO K hr.units) (gj (c7 (dq K (pv 0) rfl) (c7 (dq K (pv 0) rfl) dc))) (gj (c7 (gj (c7 (pv 1) (c7 (pv 2) dc))) (c7 (gj (c7 (pv 2) (c7 (pv 1) dc))) dc))) (by with_unfolding_all rfl))))),?_⟩
 unfold c9.jh at kk;refine⟨_,rfl,dY hpb O.part.cl (O.part.at_ 0 rfl) rfl ⟨rfl,_,rfl,?_⟩⟩;rw[lj];by_cases h3:p.kind=3
 ·rw[aj h3];rw[af (by simp[h3])] at kk;refine fh ⟨_,rfl,dY hpb O.part.cl (O.part.at_ 1 rfl) rfl ⟨_,rfl,dY hpb O.part.cl (O.part.at_ 2 rfl) rfl ⟨di (by simp),fun t ht=> ?_⟩⟩⟩;have s1:=dt (o:= .tup [.int p.a,.int p.b]) ht;refine⟨_,rfl,_,rfl,di (by simp),fun t1 ht1=> ?_⟩;have s2:=dt (o:= .tup [.int one,.int other]) ht1;refine⟨_,rfl,_,rfl,di (by simp),fun t2 ht2=> ?_⟩;have s3:=dt (o:= .tup [.int other,.int one]) ht2;refine⟨di (by simp),fun t3 ht3=> ?_⟩;have s4:=dt (o:= .tup [.ref t1,.ref t2]) ht3;refine⟨t,t3,t1,t2,p.a,p.b,one,other,other,one,rfl,rfl,.of ((s2.trans (s3.trans s4)) _ _ dh),.of dh,.of ((s3.trans s4) _ _ dh),.of (s4 _ _ dh),?_⟩;have e:decide ((one=p.a/\other=p.b)\/(other=p.a/\one=p.b))=decide ((p.a=one/\p.b=other)\/(p.a=other/\p.b=one)):=by
   rw[a6,a9,a9];constructor
   ·rintro(⟨e1,e2⟩ |⟨e1,e2⟩)
    ·exact .inl ⟨e1.symm,e2.symm⟩
    ·exact .inr ⟨e1.symm,e2.symm⟩
   ·rintro(⟨e1,e2⟩ |⟨e1,e2⟩)
    ·exact .inl ⟨e1.symm,e2.symm⟩
    ·exact .inr ⟨e1.symm,e2.symm⟩
  rw[e];exact kk _ (s1.trans (s2.trans (s3.trans s4)))
 ·rw[ao h3];rw[ah h3] at kk;exact eZ (kk _ (.refl _))
end
structure Nh(p:c9.Part):Prop where
 k0:0<=p.kind
 k1:p.kind<=13
 a0:0<=p.a
 b0:0<=p.b
 c0:0<=p.c
 d0:0<=p.d
 t:p.top.natAbs<=1000000
 b1:1<=p.dE
 b2:p.dE<=1000000
theorem QV{z:Int}(h:z.natAbs<=1000000):Sz 64 z:=by
 unfold Sz;have:(1000000:Nat)<2^64:=by decide
 lia
theorem Nh.zt{p:c9.Part}(h:Nh p):Sz 64 p.top:=QV h.t
theorem Nh.zb{p:c9.Part}(h:Nh p):Sz 64 p.dE:=QV (by have:=h.b1;have:=h.b2;lia)
theorem VD(k a b d:Int):KN (.int k) [.int a,.int b,.int d]=decide (k=a\/k=b\/k=d):=by
 rw[a6];simp[KN,L3];lia
theorem VE(k a b d e:Int):KN (.int k) [.int a,.int b,.int d,.int e]=decide (k=a\/k=b\/k=d\/k=e):=by
 rw[a6];simp[KN,L3];lia
structure Txt4(mg:Str->Option Value):Prop extends Txt3 mg where
 oW:∃t,mg "NO_FAULT"=some (.int 0 t)
 sd:∃t,mg "WRONG_NODE"=some (.int 1 t)
 kK:∃t,mg "WRONG_NUMBER"=some (.int 2 t)
 ia:∃t,mg "WRONG_REFERENCE"=some (.int 3 t)
 sf:∃t,mg "MOST_NODES"=some (.int 8 t)
 sj:∃t,mg "MOST_PARTS"=some (.int 10 t)
 qL:∃t,mg "MOST_DIODES"=some (.int 3 t)
 gC:∃t,mg "NUMBERS_OF_A_PART"=some (.int 7 t)
 sk:∃t,mg "LAST_PLACE"=some (.int 63 t)
 wB:∃t,mg "MOST_TOP"=some (.int 1000000 t)
 qM:∃t,mg "MOST_BOTTOM"=some (.int 1000000 t)
theorem SQ(xs:List V)(k:Nat)(h:k<=xs.length):vD xs none (some (k:Int))=xs.take k:=by
 unfold vD;rw[HT.rg,Nat.min_eq_left h];simp[HT.Dz]
section
variable {P:Program}{w:World}{K:PySem.W.Frag}{mg:Str->Option Value}{base:Heap}{c:Cs}
noncomputable abbrev wC:Stmt:=top 69
theorem IB:dD ["part"] ["part"] (dk wC):=sco
noncomputable def AL (c:Cs):Sp:=fun vs H Q _=>∃v p,vs=[v]/\gR c H v p/\o9 H Q (c9.gD p)
theorem IC(T:Txt2 mg)(O:gr K c)(G:iN K mg "nodes_of" wC ["part"]):eV P w K mg base "nodes_of" ["part"] 1 (AL c):=by
 have sc:=IB;refine G.i8 sc fun f cdv A outer s0 H vs Q E hr h=> ?_
 obtain⟨v,p,rfl,⟨pb,pbx,rfl,hpb⟩,kk⟩:=h;refine⟨rfl,_,(df (fk (eJ iV (dq K (pv 0) rfl) (gc T.iR) (eF _)) (dj (dC (dO dc))) d8)
   (df (fk (eJ (Jp K) (dq K (pv 0) rfl) (gj (c7 (gc T.jx) (c7 (gc T.jy) (c7 (gc T.i5) (c7 (gc T.pZ) dc))))) (by with_unfolding_all rfl)) (dj (dC (dO (c7 (dq K (pv 0) rfl) (c7 (dq K (pv 0) rfl) (c7 (dq K (pv 0) rfl) (c7 (dq K (pv 0) rfl) dc))))))) d8)
   (dj (dC (dO (c7 (dq K (pv 0) rfl) (c7 (dq K (pv 0) rfl) dc))))))),?_⟩
 unfold c9.gD at kk;refine⟨_,rfl,dY hpb O.part.cl (O.part.at_ 0 rfl) rfl ⟨rfl,_,rfl,?_⟩⟩;rw[lj];by_cases h3:p.kind=3
 ·rw[aj h3];rw[ah h3] at kk;exact eZ ⟨aL _,fun q hq=>kk q _ hq (dt hq) dh⟩
 ·rw[ao h3];rw[af h3] at kk;refine fh ⟨_,rfl,dY hpb O.part.cl (O.part.at_ 0 rfl) rfl ⟨di (by simp),fun t ht=>⟨t,_,rfl,.inr (.of dh),rfl,rfl,_,rfl,?_⟩⟩⟩;show if(KN (.int p.kind) [.int 6,.int 7,.int 10,.int 11])=true then _ else _
  rw[VE];have s1:=dt (o:= .tup [.int 6,.int 7,.int 10,.int 11]) ht;have h1:=s1 _ _ hpb;by_cases h4:p.kind=6\/p.kind=7\/p.kind=10\/p.kind=11
  ·rw[aj h4];rw[ah h4] at kk;exact eZ ⟨_,rfl,dY h1 O.part.cl (O.part.at_ 1 rfl) rfl ⟨_,rfl,dY h1 O.part.cl (O.part.at_ 2 rfl) rfl ⟨_,rfl,dY h1 O.part.cl (O.part.at_ 3 rfl) rfl ⟨_,rfl,dY h1 O.part.cl (O.part.at_ 4 rfl) rfl ⟨di (by simp),fun q hq=>kk q _ (s1.free hq) (s1.trans (dt hq)) dh⟩⟩⟩⟩⟩
  ·rw[ao h4];rw[af h4] at kk;exact fh ⟨_,rfl,dY h1 O.part.cl (O.part.at_ 1 rfl) rfl ⟨_,rfl,dY h1 O.part.cl (O.part.at_ 2 rfl) rfl ⟨di (by simp),fun q hq=>kk q _ (s1.free hq) (s1.trans (dt hq)) dh⟩⟩⟩
noncomputable abbrev kN:Stmt:=top 70
theorem wD:dD ["part"] ["part"] (dk kN):=sco
noncomputable def oX (c:Cs):Sp:=fun vs H Q _=>∃v p,vs=[v]/\gR c H v p/\∀H',dJ H H'->Q (.bl (c9.lJ p)) H'
theorem wF(T:Txt2 mg)(O:gr K c)(G:iN K mg "may_have_number" kN ["part"]):eV P w K mg base "may_have_number" ["part"] 1 (oX c):=by
 have sc:=wD;refine G.i8 sc fun f cdv A outer s0 H vs Q E hr h=> ?_
 obtain⟨v,p,rfl,⟨pb,pbx,rfl,hpb⟩,kk⟩:=h;refine⟨rfl,_,(df (fk (eJ (Jp K) (dq K (pv 0) rfl) (gj (c7 (gc T.wb) (c7 (gc T.uv) (c7 (gc T.Gy) dc)))) (by with_unfolding_all rfl)) (dj (dC (hW vm (dq K (pv 0) rfl) dz (eF _)))) d8)
   (df (fk (eJ iV (dq K (pv 0) rfl) (gc T.i5) (eF _)) (dj (dC (hW Ae (dq K (pv 0) rfl) dz (eF _)))) d8)
   (df (fk (eJ iV (dq K (pv 0) rfl) (gc T.pZ) (eF _)) (dj (dC (hW iV (dq K (pv 0) rfl) dz (eF _)))) d8)
   (df (fk (eJ iV (dq K (pv 0) rfl) (gc T.CI) (eF _)) (dj (dC (Ti (hW iV (dq K (pv 0) rfl) dz (eF _)) (Fv (hW iV (dq K (pv 0) rfl) (dq K (pv 0) rfl) (eF _)))))) d8)
   (df (fk (eJ iV (dq K (pv 0) rfl) (gc T.u9) (eF _)) (dj (dC (hW Nu (dq K (pv 0) rfl) dz (eF _)))) d8)
   (dj (dC pK))))))),?_⟩
 unfold c9.lJ at kk;refine⟨_,rfl,dY hpb O.part.cl (O.part.at_ 0 rfl) rfl ⟨di (by simp),fun t ht=>⟨t,_,rfl,.inr (.of dh),rfl,rfl,_,rfl,?_⟩⟩⟩;show if(KN (.int p.kind) [.int 0,.int 1,.int 2])=true then _ else _
 rw[VD];have s1:=dt (o:= .tup [.int 0,.int 1,.int 2]) ht;have h1:=s1 _ _ hpb;have k1:=kk _ s1;clear kk;by_cases h3:p.kind=0\/p.kind=1\/p.kind=2
 ·rw[aj h3];rw[ah h3] at k1;exact eZ ⟨_,rfl,dY h1 O.part.cl (O.part.at_ 5 rfl) rfl (oY k1)⟩
 rw[ao h3];rw[af h3] at k1;refine fh ⟨_,rfl,dY h1 O.part.cl (O.part.at_ 0 rfl) rfl ⟨rfl,_,rfl,?_⟩⟩;rw[lj];by_cases h4:p.kind=10
 ·rw[aj h4];rw[ah h4] at k1;refine eZ ⟨_,rfl,dY h1 O.part.cl (O.part.at_ 5 rfl) rfl ⟨rfl,?_⟩⟩;rw[lj];have e:(!decide (p.top=0))=decide (p.top≠0):=by simp
  rw[e];exact k1
 rw[ao h4];rw[af h4] at k1;refine fh ⟨_,rfl,dY h1 O.part.cl (O.part.at_ 0 rfl) rfl ⟨rfl,_,rfl,?_⟩⟩;rw[lj];by_cases h5:p.kind=11
 ·rw[aj h5];rw[ah h5] at k1;refine eZ ⟨_,rfl,dY h1 O.part.cl (O.part.at_ 5 rfl) rfl ⟨rfl,?_⟩⟩;rw[lj];exact k1
 rw[ao h5];rw[af h5] at k1;refine fh ⟨_,rfl,dY h1 O.part.cl (O.part.at_ 0 rfl) rfl ⟨rfl,_,rfl,?_⟩⟩;rw[lj];by_cases h6:p.kind=12
 ·rw[aj h6];rw[ah h6] at k1;refine eZ ⟨_,rfl,dY h1 O.part.cl (O.part.at_ 5 rfl) rfl ⟨rfl,_,rfl,?_⟩⟩;rw[lj];by_cases h7:p.top=0
  ·rw[aj h7];rw[aj (Or.inl h7)] at k1;exact eZ k1
  ·rw[ao h7];refine fh ⟨_,rfl,dY h1 O.part.cl (O.part.at_ 5 rfl) rfl ⟨_,rfl,dY h1 O.part.cl (O.part.at_ 6 rfl) rfl ⟨rfl,?_⟩⟩⟩;rw[lj];have e:decide (p.top=p.dE)=decide (p.top=0\/p.top=p.dE):=by simp[h7]
   rw[e];exact k1
 rw[ao h6];rw[af h6] at k1;refine fh ⟨_,rfl,dY h1 O.part.cl (O.part.at_ 0 rfl) rfl ⟨rfl,_,rfl,?_⟩⟩;rw[lj];by_cases h8:p.kind=13
 ·rw[aj h8];rw[ah h8] at k1;exact eZ ⟨_,rfl,dY h1 O.part.cl (O.part.at_ 5 rfl) rfl (oY k1)⟩
 rw[ao h8];rw[af h8] at k1;exact fh k1
noncomputable abbrev sr:Stmt:=top 71
theorem DP:dD ["parts","k","followed"] ["parts","k"] (dk sr):=sco
noncomputable def vA (c:Cs):Sp:=fun vs H Q _=>∃v ps k,vs=[v,.int ((k:Nat):Int)]/\nJ c H v ps/\k<ps.length/\0<=(ps.getD k c9.p0).c/\∀H',dJ H H'->Q (.bl (c9.fA ps k)) H'
theorem DQ(T:Txt2 mg)(O:gr K c)(G:iN K mg "may_follow" sr ["parts","k"]):eV P w K mg base "may_follow" ["parts","k"] 1 (vA c):=by
 have sc:=DP;refine G.i8 sc fun f cdv A outer s0 H vs Q E hr h=> ?_
 obtain⟨v,ps,k,rfl,⟨pa,ws,rfl,hpa,hps⟩,hk,hc0,kk⟩:=h;refine⟨rfl,_,(df (fk (eJ (Ma K) (dq K (dW (i0 K) (pv 0) (pv 1) (fun _ _=>rfl)) rfl) (gj (c7 (gc T.jz) (c7 (gc T.jA) dc))) (by with_unfolding_all rfl)) (dj (dC pK)) d8)
   (df (dX (i:=2) sc.nd (dq K (dW (i0 K) (pv 0) (pv 1) (fun _ _=>rfl)) rfl))
   (dj (dC (Jc (hW Nt (pv 2) (pv 1) (eF _)) (Fv (hW Ae (dq K (dW (i0 K) (pv 0) (pv 2) (fun _ _=>rfl)) rfl) (gc T.iR) (eF _)))))))),?_⟩
 obtain⟨x,hx,pb,pbx,rfl,hpb⟩:=hps.ko (dw (d:=c9.p0) hk);refine⟨_,rfl,_,rfl,jW (.of hpa) (dM (j:=k) rfl hx) (dY hpb O.part.cl (O.part.at_ 0 rfl) rfl ⟨di (by simp),fun t ht=>⟨t,_,rfl,.inr (.of dh),rfl,rfl,_,rfl,?_⟩⟩)⟩;show if(!KN (.int (ps.getD k c9.p0).kind) [.int 8,.int 9])=true then _ else _
 rw[Uy];have s1:=dt (o:= .tup [.int 8,.int 9]) ht;have hpa1:=s1 _ _ hpa;have hpb1:=s1 _ _ hpb;have k1:=kk _ s1;clear kk;unfold c9.fA at k1;by_cases h1:(ps.getD k c9.p0).kind=8\/(ps.getD k c9.p0).kind=9
 ·rw[aj h1];simp only[h1,not_true_eq_false,if_false] at k1;refine fh ⟨_,rfl,_,rfl,jW (.of hpa1) (dM (j:=k) rfl hx) (dY hpb1 O.part.cl (O.part.at_ 3 rfl) rfl ?_)⟩;refine⟨_,rfl,_,rfl,oY ⟨_,rfl,?_⟩⟩;by_cases h2:(ps.getD k c9.p0).c<(k:Int)
  ·rw[aj h2] at k1⊢;obtain⟨y,hy,pd,pdx,rfl,hpd⟩:=hps.ko (dw (d:=c9.p0) (show(ps.getD k c9.p0).c.toNat<ps.length by lia));refine eZ ⟨_,rfl,_,rfl,jW (.of hpa1) (dM (j:=(ps.getD k c9.p0).c.toNat) (by lia) hy) (dY (s1 _ _ hpd) O.part.cl (O.part.at_ 0 rfl) rfl ⟨rfl,?_⟩)⟩;rw[lj];have e:(!decide ((ps.getD (ps.getD k c9.p0).c.toNat c9.p0).kind=3))=decide (c9.kindAt ps (ps.getD k c9.p0).c≠3):=by
    unfold c9.kindAt;simp
   rw[e];exact k1
  ·rw[ao h2] at k1⊢;exact fh k1
 ·rw[ao h1];simp only[h1,not_false_eq_true,if_true] at k1;exact eZ k1
noncomputable abbrev mq:Stmt:=top 73
theorem ym:dD ["parts","place","k"] ["parts","place","k"] (dk mq):=sco
noncomputable def qh (c:Cs):Sp:=fun vs H Q _=>∃v ps i k,vs=[v,.int i,.int ((k:Nat):Int)]/\nJ c H v ps/\k<=ps.length/\0<=i/\Q (.bl (c9.dU ps i k)) H
theorem yn(T:Txt2 mg)(O:gr K c)(G:iN K mg "is_coil_before" mq ["parts","place","k"]):eV P w K mg base "is_coil_before" ["parts","place","k"] 1 (qh c):=by
 have sc:=ym;refine G.i8 sc fun f cdv A outer s0 H vs Q E hr h=> ?_
 obtain⟨v,ps,i,k,rfl,⟨pa,ws,rfl,hpa,hps⟩,hk,hi,kk⟩:=h;refine⟨rfl,_,(dj (dC (Jc (hW Nt (pv 1) (pv 2) (eF _)) (Fv (hW iV (dq K (dW (i0 K) (pv 0) (pv 1) (fun _ _=>rfl)) rfl) (gc T.Gy) (eF _)))))),?_⟩;unfold c9.dU at kk;refine⟨_,rfl,_,rfl,oY ⟨_,rfl,?_⟩⟩;by_cases h2:i<(k:Int)
 ·rw[aj h2] at kk⊢;obtain⟨y,hy,pd,pdx,rfl,hpd⟩:=hps.ko (dw (d:=c9.p0) (show i.toNat<ps.length by lia));refine eZ ⟨_,rfl,_,rfl,jW (.of hpa) (dM (j:=i.toNat) (by lia) hy) (dY hpd O.part.cl (O.part.at_ 0 rfl) rfl ⟨rfl,?_⟩)⟩;rw[lj];exact kk
 ·rw[ao h2] at kk⊢;exact fh kk
noncomputable abbrev jd:Stmt:=top 75
theorem su:dD ["coupling","one","other","squared"] ["coupling","one","other"] (dk jd):=sco
noncomputable def kP (c:Cs):Sp:=fun vs H Q _=>∃v1 v2 v3 p1 p2 p3,vs=[v1,v2,v3]/\gR c H v1 p1/\gR c H v2 p2/\gR c H v3 p3/\Nh p1/\Nh p2/\Nh p3/\Q (.bl (c9.tooMuch p1 p2 p3)) H
theorem sv(O:gr K c)(G:iN K mg "is_coupled_too_much" jd ["coupling","one","other"]):eV P w K mg base "is_coupled_too_much" ["coupling","one","other"] 1 (kP c):=by
 have sc:=su;refine G.i8 sc fun f cdv A outer s0 H vs Q E hr h=> ?_
 obtain⟨v1,v2,v3,p1,p2,p3,rfl,⟨a1,x1,rfl,h1⟩,⟨a2,x2,rfl,h2⟩,⟨a3,x3,rfl,h3⟩,i1,i2,i3,kk⟩:=h;refine⟨rfl,_,(df (dX (i:=3) sc.nd (eO il (eO il (eO il (dq K (pv 0) rfl) (dq K (pv 0) rfl)) (dq K (pv 1) rfl)) (dq K (pv 2) rfl)))
   (dj (dC (hW vm (pv 3) (eO il (eO il (eO il (dq K (pv 1) rfl) (dq K (pv 2) rfl)) (dq K (pv 0) rfl)) (dq K (pv 0) rfl)) (eF _))))),?_⟩
 refine⟨_,rfl,dY h1 O.part.cl (O.part.at_ 5 rfl) rfl ⟨_,rfl,dY h1 O.part.cl (O.part.at_ 5 rfl) rfl (oY ⟨i1.zt.mul i1.zt (by decide),?_⟩)⟩⟩;refine⟨_,rfl,dY h2 O.part.cl (O.part.at_ 6 rfl) rfl (oY ⟨(i1.zt.prod i1.zt).mul i2.zb (by decide),?_⟩)⟩;refine⟨_,rfl,dY h3 O.part.cl (O.part.at_ 6 rfl) rfl (oY ⟨((i1.zt.prod i1.zt).prod i2.zb).mul i3.zb (by decide),?_⟩)⟩;refine⟨_,rfl,_,rfl,dY h2 O.part.cl (O.part.at_ 5 rfl) rfl ⟨_,rfl,dY h3 O.part.cl (O.part.at_ 5 rfl) rfl (oY ⟨i2.zt.mul i3.zt (by decide),?_⟩)⟩⟩;refine⟨_,rfl,dY h1 O.part.cl (O.part.at_ 6 rfl) rfl (oY ⟨(i2.zt.prod i3.zt).mul i1.zb (by decide),?_⟩)⟩;exact⟨_,rfl,dY h1 O.part.cl (O.part.at_ 6 rfl) rfl (oY ⟨((i2.zt.prod i3.zt).prod i1.zb).mul i1.zb (by decide),_,_,rfl,rfl,kk⟩)⟩
noncomputable abbrev jI:Stmt:=top 72
theorem yo:dD ["parts","k","one","other","part"] ["parts","k"] (dk jI):=sco
noncomputable def qi (c:Cs):Sp:=fun vs H Q _=>∃v ps k,vs=[v,.int ((k:Nat):Int)]/\nJ c H v ps/\k<ps.length/\ps.length<=1000/\(∀p∈ps,Nh p)/\∀H',dJ H H'->Q (.int (c9.lK ps k)) H'
theorem yp(T:Txt4 mg)(O:gr K c)(jJ:eV P w K mg base "is_coil_before" ["parts","place","k"] 1 (qh c))(zQ:eV P w K mg base "couples" ["part","one","other"] 1 (C9 c))(je:eV P w K mg base "is_coupled_too_much" ["coupling","one","other"] 1 (kP c))(G:iN K mg "coupling_fault" jI ["parts","k"]):eV P w K mg base "coupling_fault" ["parts","k"] 2 (qi c):=by
 have sc:=yo;refine G.i8 sc fun f cdv A outer s0 H vs Q E hr h=> ?_
 obtain⟨v,ps,k,rfl,hpp,hk,hl,pin,kk⟩:=h;obtain⟨pa,ws,rfl,hpa,hps⟩:=id hpp;have ll:=hps.length;refine⟨rfl,_,(df (dX (i:=2) sc.nd (dq K (dW (i0 K) (pv 0) (pv 1) (fun _ _=>rfl)) rfl))
   (df (dX (i:=3) sc.nd (dq K (dW (i0 K) (pv 0) (pv 1) (fun _ _=>rfl)) rfl))
   (df (fk (PW.pt (G5 (eJ iV (pv 2) (pv 3) (eF _)) (G5 (lE (fb K (dy jJ hr (c7 (pv 0) (c7 (pv 2) (c7 (pv 1) dc)))) (fun _=>rfl))) (Fu (lE (fb K (dy jJ hr (c7 (pv 0) (c7 (pv 3) (c7 (pv 1) dc)))) (fun _=>rfl))))))) (dj (dC (gc T.ia))) d8)
   (df (fk (fb K (d5 (KU K rfl) rfl T.LD BH (c7 (mJ rfl sc.nd (fu (tu (Ua K) (pv 0) Fy (rh (pv 1)))) (fq (own:=[("part",4)]) (by show mV ["parts","k","one","other","part"] (dk jI) _ _=true;decide +kernel)) (fun _ _ _ _ _=>(eY (i:=4) sc.nd)) (fun _ _ _ _ _=>gf) (fun _ _ _ _ _=>(dy zQ hr (c7 (pv 4) (c7 (pv 2) (c7 (pv 3) dc)))))) dc)) (fun _=>rfl)) (dj (dC (gc T.ia))) d8)
   (df (fk (fb K (dy je hr (c7 (dW (i0 K) (pv 0) (pv 1) (fun _ _=>rfl)) (c7 (dW (i0 K) (pv 0) (pv 2) (fun _ _=>rfl)) (c7 (dW (i0 K) (pv 0) (pv 3) (fun _ _=>rfl)) dc)))) (fun _=>rfl)) (dj (dC (gc T.kK))) d8)
   (dj (dC (gc T.oW)))))))),?_⟩
 obtain⟨x,hx,pb,pbx,rfl,hpb⟩:=hps.ko (dw (d:=c9.p0) hk);have ip:=pin _ (aB (dw (d:=c9.p0) hk));unfold c9.lK at kk;generalize hp:ps.getD k c9.p0=p at hpb ip kk;have iF:∀{A:Prop} {x y:Int},¬A->∀[Decidable A],(if A then x else y)=y:=fun h _=>af h
 refine⟨_,rfl,_,rfl,jW (.of hpa) (dM (j:=k) rfl hx) (dY hpb O.part.cl (O.part.at_ 1 rfl) rfl ?_)⟩;refine⟨_,rfl,_,rfl,jW (.of hpa) (dM (j:=k) rfl hx) (dY hpb O.part.cl (O.part.at_ 2 rfl) rfl ?_)⟩;have bad:(p.a=p.b\/c9.dU ps p.a k=false\/c9.dU ps p.b k=false)->∀H',dJ H H'->Q (.int 3) H':=fun h H' s=>by
  have:=kk H' s;simp only[h,if_true] at this;exact this
 refine⟨_,rfl,_,rfl,rfl,_,rfl,?_⟩;rw[lj];by_cases h1:p.a=p.b
 ·rw[aj h1];exact eZ (eZ (bad (.inl h1) _ (.refl _)))
 rw[ao h1];refine fh ⟨_,rfl,_,rfl,_,rfl,_,ps,p.a,k,rfl,hpp,by lia,ip.a0,_,rfl,?_⟩;cases h2:c9.dU ps p.a k with
 |false=>exact eZ (eZ (bad (.inr (.inl h2)) _ (.refl _)))
 |true=>
 refine fh ⟨_,rfl,_,rfl,_,rfl,_,ps,p.b,k,rfl,hpp,by lia,ip.b0,_,rfl,?_⟩;cases h3:c9.dU ps p.b k with
 |false=>exact eZ (bad (.inr (.inr h3)) _ (.refl _))
 |true=>
 refine fh ?_;have nb:¬(p.a=p.b\/c9.dU ps p.a k=false\/c9.dU ps p.b k=false):=by
  rintro(h |h |h)
  ·exact h1 h
  ·rw[h2] at h;cases h
  ·rw[h3] at h;cases h
 have k2:∀H',dJ H H'->Q (.int (if(ps.take k).any (fun q=>c9.jh q p.a p.b)=true then 3 else if c9.tooMuch p (ps.getD p.a.toNat c9.p0) (ps.getD p.b.toNat c9.p0)=true then 2 else 0)) H':=fun H' s=>by
  have:=kk H' s;rw[af nb] at this;exact this
 have ca:p.a.toNat<k:=by
  have h:=h2;unfold c9.dU at h;have:=(aF _ _).mp h;have:=az this.1;have:=ip.a0;lia
 have cb:p.b.toNat<k:=by
  have h:=h3;unfold c9.dU at h;have:=(aF _ _).mp h;have:=az this.1;have:=ip.b0;lia
 refine⟨_,rfl,_,rfl,_,rfl,pa,_,rfl,.of hpa,fun sa hsa=> ?_⟩;rw[SQ ws k (by lia)];have s1:=dt (o:= .lst (ws.take k)) hsa;refine⟨sa,rfl,⟨_,.of dh⟩,fun D hD=>nZ (fw (.of dh)) hD (fun i _ acc=>acc=(((ps.take k).take i).map fun q=>V.bl (c9.jh q p.a p.b))) rfl ?_ ?_⟩
 ·rintro i x H1 H2 acc hi s2 hD1 hacc s3 s23 hD2 hx;obtain⟨q,hq,pq⟩:=(hps.O1 k).mR hx;have la:acc.length<=i:=by
   rw[hacc,lMp,aC];lia
  have li:i<k:=by rw[aC] at hi;lia
  refine⟨rfl,⟨_,rfl,_,rfl,_,rfl,_,q,p.a,p.b,rfl,pq.same (s1.trans s3),fun H3 s4=> ?_⟩⟩;refine gA hD (s3.trans s4) (s4 _ _ hD2) (dH (by lia)) ?_;rw[hacc,eI _ _ _ _ hq]
 ·intro H1 acc s2 hD1 hacc;have s3:=s1.trans s2;rw[bg (by rw[aC,aC];lia)] at hacc;refine⟨D,(ps.take k).map fun q=>c9.jh q p.a p.b,rfl,.of ?_,_,rfl,?_⟩
  ·rw[hD1,hacc,aQ];rfl
  rw[List.any_map];show if((ps.take k).any fun q=>c9.jh q p.a p.b)=true then _ else _
  cases h5:(ps.take k).any (fun q=>c9.jh q p.a p.b) with
  |true=>
   have:=k2 _ s3;rw[h5] at this;exact eZ this
  |false=>
   refine fh ?_;obtain⟨y,hy,py⟩:=hps.ko (dw (d:=c9.p0) (show p.a.toNat<ps.length by lia));obtain⟨z,hz,pz⟩:=hps.ko (dw (d:=c9.p0) (show p.b.toNat<ps.length by lia));have hpa3:=s3 _ _ hpa;refine⟨_,rfl,_,rfl,jW (.of hpa3) (dM (j:=k) rfl hx) ⟨_,rfl,_,rfl,jW (.of hpa3) (dM (j:=p.a.toNat) (by have:=ip.a0;lia) hy) ⟨_,rfl,_,rfl,jW (.of hpa3) (dM (j:=p.b.toNat) (by have:=ip.b0;lia) hz) ⟨_,_,_,p,_,_,rfl,⟨pb,pbx,rfl,s3 _ _ hpb⟩,py.same s3,pz.same s3,ip,pin _ (aB (dw (d:=c9.p0) (show p.a.toNat<ps.length by lia))),pin _ (aB (dw (d:=c9.p0) (show p.b.toNat<ps.length by lia))),_,rfl,?_⟩⟩⟩⟩;have k3:=k2 _ s3;rw[h5] at k3;rw[af (by simp)] at k3;cases h6:c9.tooMuch p (ps.getD p.a.toNat c9.p0) (ps.getD p.b.toNat c9.p0) with
   |true=>
    rw[h6] at k3;exact eZ k3
   |false=>
    rw[h6] at k3;exact fh k3
noncomputable abbrev sy:Stmt:=top 68
theorem ID:dD ["network","k","part","node"] ["network","k"] (dk sy):=sco
noncomputable def AM (c:Cs):Sp:=fun vs H Q _=>∃v n k,vs=[v,.int ((k:Nat):Int)]/\nv c H v n/\k<n.c8.length/\n.c8.length<=1000/\(∀p∈n.c8,Nh p)/\∀H',dJ H H'->Q (.int (c9.gE n k)) H'
theorem IE(p:c9.Part):(c9.gD p).length<=4:=by
 unfold c9.gD;split
 ·simp
 ·split <;>simp
theorem IF(T:Txt4 mg)(O:gr K c)(wG:eV P w K mg base "nodes_of" ["part"] 1 (AL c))(kQ:eV P w K mg base "may_have_number" ["part"] 1 (oX c))(sC:eV P w K mg base "may_follow" ["parts","k"] 1 (vA c))(mr:eV P w K mg base "coupling_fault" ["parts","k"] 2 (qi c))(G:iN K mg "fault_of" sy ["network","k"]):eV P w K mg base "fault_of" ["network","k"] 3 (AM c):=by
 have sc:=ID;refine G.i8 sc fun f cdv A outer s0 H vs Q E hr h=> ?_
 obtain⟨v,n,k,rfl,hn,hk,hl,pin,kk⟩:=h;obtain⟨na,ndx,nvp,rfl,hna,pa,ws,rfl,hpa,hps⟩:=id hn;refine⟨rfl,_,(df (dX (i:=2) sc.nd (dW (i0 K) (dq K (pv 0) rfl) (pv 1) (fun _ _=>rfl)))
   (df (fk (fb K (d5 (KU K rfl) rfl T.LD BH (c7 (mJ rfl sc.nd (fu (dy wG hr (c7 (pv 2) dc))) (fq (own:=[("node",3)]) (by show mV ["network","k","part","node"] (dk sy) _ _=true;decide +kernel)) (fun _ _ _ _ _=>(eY (i:=3) sc.nd)) (fun _ _ _ _ _=>gf) (fun _ _ _ _ _=>(hW vm (pv 3) (dq K (pv 0) rfl) (eF _)))) dc)) (fun _=>rfl)) (dj (dC (gc T.sd))) d8)
   (df (fk (lE (fb K (dy kQ hr (c7 (pv 2) dc)) (fun _=>rfl))) (dj (dC (gc T.kK))) d8)
   (df (fk (lE (fb K (dy sC hr (c7 (dq K (pv 0) rfl) (c7 (pv 1) dc))) (fun _=>rfl))) (dj (dC (gc T.ia))) d8)
   (df (fk (eJ iV (dq K (pv 2) rfl) (gc T.iR) (eF _)) (dj (dC (dy mr hr (c7 (dq K (pv 0) rfl) (c7 (pv 1) dc))))) d8)
   (dj (dC (gc T.oW)))))))),?_⟩
 obtain⟨x,hx,px⟩:=hps.ko (dw (d:=c9.p0) hk);obtain⟨pb,pbx,rfl,hpb⟩:=id px;have ip:=pin _ (aB (dw (d:=c9.p0) hk));unfold c9.gE at kk;have nl:=IE (n.c8.getD k c9.p0);refine⟨_,rfl,dY hna O.dZ.cl (O.dZ.at_ 1 rfl) rfl ⟨_,rfl,jW (.of hpa) (dM (j:=k) rfl hx) ?_⟩⟩;refine⟨_,rfl,_,_,rfl,px,fun la H1 hla s1 hla1=> ?_⟩;refine⟨la,rfl,⟨_,.of hla1⟩,fun D hD=>nZ (fw (.of hla1)) hD (fun i _ acc=>acc=(((c9.gD (n.c8.getD k c9.p0)).take i).map fun q=>V.bl (decide (n.last<q)))) rfl ?_ ?_⟩
 ·rintro i x H2 H3 acc hi s2 hD2 hacc s3 s23 hD3 hx;obtain⟨q,hq,rfl⟩:=jj hx;have la:acc.length<=i:=by
   rw[hacc,lMp,aC];lia
  have li:i<4:=by rw[lMp] at hi;lia
  refine⟨rfl,⟨_,rfl,_,rfl,dY ((s1.trans s3) _ _ hna) O.dZ.cl (O.dZ.at_ 0 rfl) rfl (oY ?_)⟩⟩;refine gA hD s3 hD3 (dH (by lia)) ?_;rw[hacc,eI _ _ _ _ hq]
 ·intro H2 acc s2 hD2 hacc;have s3:=s1.trans s2;rw[lMp,aG] at hacc;refine⟨D,(c9.gD (n.c8.getD k c9.p0)).map fun q=>decide (n.last<q),rfl,.of ?_,_,rfl,?_⟩
  ·rw[hD2,hacc,aQ];rfl
  rw[List.any_map];show if((c9.gD (n.c8.getD k c9.p0)).any fun q=>decide (n.last<q))=true then _ else _
  by_cases h1:((c9.gD (n.c8.getD k c9.p0)).any fun q=>decide (n.last<q))=true
  ·have:=kk _ s3;rw[ah h1] at this;rw[h1];exact eZ this
  rw[show((c9.gD (n.c8.getD k c9.p0)).any fun q=>decide (n.last<q))=false by simpa using h1];simp only[af h1] at kk;refine fh ⟨_,rfl,_,_,rfl,px.same s3,fun H4 s4=>⟨_,rfl,?_⟩⟩;have s34:=s3.trans s4;cases h2:c9.lJ (n.c8.getD k c9.p0) with
  |false=>
   have:=kk _ s34;rw[ah h2] at this;exact eZ this
  |true=>
  simp only[af (show ¬c9.lJ (n.c8.getD k c9.p0)=false by rw[h2];simp)] at kk;refine fh ⟨_,rfl,dY (s34 _ _ hna) O.dZ.cl (O.dZ.at_ 1 rfl) rfl ⟨_,rfl,_,n.c8,k,rfl,⟨pa,ws,rfl,s34 _ _ hpa,hps.gQ fun _ _ z=>z.same s34⟩,hk,ip.c0,fun H5 s5=>⟨_,rfl,?_⟩⟩⟩;have s35:=s34.trans s5;cases h3:c9.fA n.c8 k with
  |false=>
   have:=kk _ s35;rw[ah h3] at this;exact eZ this
  |true=>
  simp only[af (show ¬c9.fA n.c8 k=false by rw[h3];simp)] at kk;refine fh ⟨_,rfl,dY (s35 _ _ hpb) O.part.cl (O.part.at_ 0 rfl) rfl ⟨rfl,_,rfl,?_⟩⟩;rw[lj];by_cases h4:(n.c8.getD k c9.p0).kind=3
  ·rw[aj h4];simp only[ah h4] at kk;exact eZ ⟨_,rfl,dY (s35 _ _ hna) O.dZ.cl (O.dZ.at_ 1 rfl) rfl ⟨_,rfl,_,n.c8,k,rfl,⟨pa,ws,rfl,s35 _ _ hpa,hps.gQ fun _ _ z=>z.same s35⟩,hk,hl,pin,fun H6 s6=>kk _ (s35.trans s6)⟩⟩
  ·rw[ao h4];simp only[af h4] at kk;exact fh (kk _ s35)
noncomputable abbrev qN:Stmt:=top 67
theorem Dc:dD ["network","k","fault"] ["network"] (dk qN):=sco
noncomputable def uJ (c:Cs):Sp:=fun vs H Q _=>∃v n,vs=[v]/\nv c H v n/\n.c8.length<=1000/\(∀p∈n.c8,Nh p)/\o9 H Q (c9.fault n)
theorem Dd(T:Txt4 mg)(O:gr K c)(wH:eV P w K mg base "fault_of" ["network","k"] 3 (AM c))(G:iN K mg "first_fault" qN ["network"]):eV P w K mg base "first_fault" ["network"] 4 (uJ c):=by
 have sc:=Dc;refine G.i8 sc fun f cdv A outer s0 H vs Q E hr h=> ?_
 obtain⟨v,n,rfl,hn,hl,pin,kk⟩:=h;obtain⟨na,ndx,nvp,rfl,hna,pa,ws,rfl,hpa,hps⟩:=id hn;have ll:=hps.length;refine⟨rfl,_,(df (gW PassesOwn.never rfl (nM rfl T.jY (c7 (d5 (eK K) rfl T.gV d9 (c7 (dq K (pv 0) rfl) dc)) dc)) (eY (i:=1) sc.nd) (df (dX (i:=2) sc.nd (dy wH hr (c7 (pv 0) (c7 (pv 1) dc))))
   (dj (fk (eJ Ae (pv 2) (gc T.oW) (eF _)) (dj (dC (dO (c7 (pv 1) (c7 (pv 2) dc))))) d8))))
   (dj (dC (dO dc)))),?_⟩
 refine⟨_,rfl,dY hna O.dZ.cl (O.dZ.at_ 1 rfl) rfl ⟨pa,_,rfl,.inl (.of hpa),_,rfl,by lia,by lia,?_⟩⟩;have en:((ws.length:Int)).toNat=n.c8.length:=by lia
 rw[en];refine jK (mK H _ _) (fun i σ H'=>∃x1 x2,σ=[some (.ref na),x1,x2]/\dJ H H'/\i<=n.c8.length/\c9.ji n (n.c8.length - i)=c9.fault n) ⟨none,none,rfl,.refl _,aL _,rfl⟩ (fun i σ H' ⟨_,_,_,s,_⟩=>s) ?_ ?_
 ·rintro i x σ H1 H2 hi ⟨x1,x2,rfl,s1,hi2,hf⟩ s2 s12 rfl;rw[Int.zero_add];obtain⟨m,em⟩:∃m,n.c8.length - i=m+1:=⟨n.c8.length - i - 1,by lia⟩;have ek:n.c8.length - (m+1)=i:=by lia
  have em2:n.c8.length - (i+1)=m:=by lia
  rw[em] at hf;have hf2:(if c9.gE n i≠0 then[(i:Int),c9.gE n i] else c9.ji n m)=c9.fault n:=by
   rw[<-hf];show _=if c9.gE n (n.c8.length - (m+1))≠0 then[((n.c8.length - (m+1):Nat):Int),c9.gE n (n.c8.length - (m+1))] else c9.ji n m
   rw[ek]
  refine⟨_,rfl,_,rfl,_,n,i,rfl,hn.same s2,hi,hl,pin,fun H3 s3=> ?_⟩;refine⟨_,rfl,rfl,_,rfl,?_⟩;rw[lj];by_cases h0:c9.gE n i=0
  ·rw[aj h0];rw[af (fun h=>h h0)] at hf2;refine fh ⟨_,_,rfl,s2.trans s3,by lia,?_⟩;rw[em2];exact hf2
  ·rw[ao h0];rw[ah h0] at hf2;rw[<-hf2] at kk;exact eZ ⟨_,rfl,_,rfl,di (by simp),fun q hq=>kk q _ ((s2.trans s3).free hq) ((s2.trans s3).trans (dt hq)) dh⟩
 ·rintro σ H1 ⟨x1,x2,rfl,s1,hi2,hf⟩;rw[cf] at hf;have:c9.fault n=[]:=hf.symm;rw[this] at kk;exact⟨aL _,fun q hq=>kk q _ (s1.free hq) (s1.trans (dt hq)) dh⟩
end
noncomputable def VF (n:Nat):Bool:=Builtin.Range.small 1 (n:Int) 7&&decide (Builtin.Range.rangeSize 1 (n:Int) 7=(((n - 1+6) / 7:Nat):Int))
theorem Pf:(List.range 200).all (fun n=>VF (n+1))=true:=by decide +kernel
theorem VG{n:Nat}(h1:1<=n)(h2:n<=200):T6 1 (n:Int) 7 ((n - 1+6) / 7):=by
 have h:=bD.mp Pf (n - 1) (aT.mpr (by lia));have e:n - 1+1=n:=by lia
 rw[e] at h;obtain⟨a,b⟩:=(aF _ _).mp h;exact⟨by decide,by decide,a,az b⟩
theorem VH(l:List Int)(i:Nat)(h:1+7*i<=l.length):vD (l.map V.int) (some ((1+7*i:Nat):Int)) (some ((1+7*i+7:Nat):Int))=(((l.drop (1+7*i)).take 7).map V.int):=by
 unfold vD;rw[HT.rg,HT.rg,lMp,Nat.min_eq_left h,List.map_take,List.map_drop];by_cases h2:1+7*i+7<=l.length
 ·rw[Nat.min_eq_left h2];have e:1+7*i+7 - (1+7*i)=7:=by lia
  rw[e]
 ·rw[Nat.min_eq_right (by lia),bg (by simp),bg (by simp;lia)]
theorem UB(l:List Int)(h:l.length=7):vD (l.map V.int) (some 1) (some 5)=(((l.drop 1).take 4).map V.int):=by
 show vD (l.map V.int) (some ((1:Nat):Int)) (some ((5:Nat):Int))=_;unfold vD;rw[HT.rg,HT.rg,lMp,h,List.map_take,List.map_drop];rfl
theorem kU(l:List Int):(c9.dN l).length=(l.length - 1+6) / 7:=by
 unfold c9.dN;simp
theorem yq(l:List Int)(i:Nat)(h:i<(l.length - 1+6) / 7):(c9.dN l)[i]? =some ((l.drop (1+7*i)).take 7):=by
 unfold c9.dN;rw[aA,bE h];rfl
theorem sD(l:List Int)(h:(l.length - 1) % 7=0):∀r∈c9.dN l,r.length=7:=fun r hr=>by
 obtain⟨i,hi,e⟩:=aW hr;rw[kU] at hi;have q:=yq l i hi;rw[aa (by rw[kU];exact hi),e] at q;cases q
 rw[aC,bC];lia
theorem QW(z:Int)(m:Nat):decide ((if z<0 then -z else z)<=(m:Int))=decide (z.natAbs<=m):=by
 rw[a6,a9,a9];split <;>lia
theorem Fd(l:List Int)(h:0<l.length):(l.map V.int)[0]? =some (V.int (l.headD 0)):=by
 cases l with
 |nil=>simp at h
 |cons a l=>rfl
section
variable {P:Program}{w:World}{K:PySem.W.Frag}{mg:Str->Option Value}{base:Heap}{c:Cs}
noncomputable abbrev qj:Stmt:=top 107
theorem GJ:dD ["net","start"] ["net"] (dk qj):=sco
noncomputable def sE (K:PySem.W.Frag):Sp:=fun vs H Q _=>∃a l,vs=[.ref a]/\ly K H a (l.map V.int)/\1<=l.length/\l.length<=200/\∀z H',dJ H H'->uo FF H' z (c9.dN l)->Q z H'
theorem GK(T:Txt4 mg)(G:iN K mg "part_rows" qj ["net"]):eV P w K mg base "part_rows" ["net"] 1 (sE K):=by
 have sc:=GJ;refine G.i8 sc fun f cdv A outer s0 H vs Q E hr h=> ?_
 obtain⟨a,l,rfl,ha,l1,l2,kk⟩:=h;refine⟨rfl,_,(dj (dC (mJ rfl sc.nd (Ei rfl T.jY (c7 dz (c7 (d5 (eK K) rfl T.gV d9 (c7 (pv 0) dc)) (c7 (gc T.gC) dc)))) (fq (own:=[("start",1)]) (by show mV ["net","start"] (dk qj) _ _=true;decide +kernel)) (fun _ _ _ _ _=>(eY (i:=1) sc.nd)) (fun _ _ _ _ _=>gf) (fun _ _ _ _ _=>(tu (Ua K) (pv 0) (rh (pv 1)) (rh (eO jM (pv 1) (gc T.gC)))))))),?_⟩;refine⟨_,rfl,a,_,rfl,.inl ha,_,_,_,_,rfl,?_,fun D hD=>nZ (Ej H 1 7 ((l.length - 1+6) / 7)) hD (fun i H' acc=>Paired (sP (fM FF D) H') acc ((c9.dN l).take i)) .nil ?_ ?_⟩
 ·rw[lMp];exact VG l1 l2
 ·rintro i x H1 H2 acc hi s1 hD1 hacc s2 s12 hD2 rfl;have lacc:=hacc.length;rw[aC,kU] at lacc;have e1:(1:Int)+(i:Nat)*7=((1+7*i:Nat):Int):=by lia
  have e2:(((1+7*i:Nat):Int))+7=((1+7*i+7:Nat):Int):=by lia
  rw[e1];refine⟨rfl,⟨_,rfl,_,rfl,_,rfl,_,rfl,oY ⟨_,rfl,a,_,rfl,s2.seq ha,fun q hq=> ?_⟩⟩⟩;dsimp only[];rw[e2,VH l i (by lia)];have s3:=dt (o:= .lst (((l.drop (1+7*i)).take 7).map V.int)) hq;have nq:¬fM FF D q:=fun h=>h.elim (fun y=>y) (fun y=>by rw[y,hD2] at hq;cases hq)
  refine gA hD (s2.trans s3) (s3 _ _ hD2) (dH (by lia)) ?_;rw[aZ (l:=c9.dN l),yq l i hi];exact((hacc.iZ gw (s12.trans s3)).uq gw (fD (.inr rfl))).jw (gw.off ⟨q,rfl,nq,dh⟩ (fD (.inr rfl)))
 ·intro H1 acc s1 hD1 hacc;rw[bg (by rw[kU];exact ai _)] at hacc;exact kk _ _ s1 ⟨D,acc,rfl,fun z=>z,hD1,hacc.Ng gw⟩
noncomputable abbrev mG:Stmt:=top 108
theorem De:dD ["row","place"] ["row"] (dk mG):=sco
noncomputable def uK:Sp:=fun vs H Q _=>∃v r,vs=[v]/\fE H v r/\r.length=7/\∀H',dJ H H'->Q (.bl (c9.ir r)) H'
theorem Df(T:Txt4 mg)(G:iN K mg "is_part_row" mG ["row"]):eV P w K mg base "is_part_row" ["row"] 1 uK:=by
 have sc:=De;refine G.i8 sc fun f cdv A outer s0 H vs Q E hr h=> ?_
 obtain⟨v,r,rfl,⟨a,rfl,ha⟩,hl,kk⟩:=h;refine⟨rfl,_,(df (fk (lE (G9 tj tj dz (dW (i0 K) (pv 0) dz (fun _ _=>rfl)) (gc T.uw))) (dj (dC pK)) d8)
   (df (fk (lE (fb K (d5 (FH K rfl) rfl T.Ii vH (c7 (mJ rfl sc.nd (fu (tu (Ua K) (pv 0) (rh dz) (rh dz))) (fq (own:=[("place",1)]) (by show mV ["row","place"] (dk mG) _ _=true;decide +kernel)) (fun _ _ _ _ _=>(eY (i:=1) sc.nd)) (fun _ _ _ _ _=>gf) (fun _ _ _ _ _=>(G8 tj tj dz (pv 1) (gc T.sk)))) dc)) (fun _=>rfl))) (dj (dC pK)) d8)
   (dj (dC (Jc (hW tj (d5 BE rfl T.Ij vI (c7 (dW (i0 K) (pv 0) dz (fun _ _=>rfl)) dc)) (gc T.wB) (eF _)) (Fv (G8 tj tj dz (dW (i0 K) (pv 0) dz (fun _ _=>rfl)) (gc T.qM)))))))),?_⟩
 unfold c9.ir at kk;refine⟨_,rfl,jW (.of ha) (dM (j:=0) rfl (ie (by lia))) (oY ⟨_,rfl,?_⟩)⟩;have bad:¬(0<=r.getD 0 0/\r.getD 0 0<=13)->Q (.bl false) H:=fun h=>by
  have:=kk _ (.refl _);rw[ah h] at this;exact this
 by_cases h0:0<=r.getD 0 0
 rotate_left
 ·rw[ao h0];exact fh ⟨_,rfl,eZ (bad fun h=>h0 h.1)⟩
 rw[aj h0];refine eZ (oY ⟨_,rfl,?_⟩);by_cases h1:r.getD 0 0<=13
 rotate_left
 ·rw[ao h1];exact eZ (bad fun h=>h1 h.2)
 rw[aj h1];refine fh ?_;simp only[af (show ¬¬(0<=r.getD 0 0/\r.getD 0 0<=13) from fun h=>h ⟨h0,h1⟩)] at kk;refine⟨_,rfl,_,rfl,_,rfl,a,_,rfl,.of ha,fun sa hsa=> ?_⟩;rw[UB r hl];have s1:=dt (o:= .lst (((r.drop 1).take 4).map V.int)) hsa;have l4:((r.drop 1).take 4).length=4:=by simp;lia
 refine⟨sa,rfl,⟨_,.of dh⟩,fun D hD=>nZ (fw (.of dh)) hD (fun i _ acc=>acc=((((r.drop 1).take 4).take i).map fun p=>V.bl (decide (0<=p/\p<=63)))) rfl ?_ ?_⟩
 ·rintro i x H1 H2 acc hi s2 hD1 hacc s3 s23 hD2 hx;obtain⟨q,hq,rfl⟩:=jj hx;have li:i<4:=by rw[lMp] at hi;lia
  have la:acc.length<=4:=by rw[hacc,lMp,aC];lia
  refine⟨rfl,⟨_,rfl,oY ⟨_,rfl,?_⟩⟩⟩;by_cases q0:0<=q
  rotate_left
  ·rw[ao q0];refine fh (gA hD s3 hD2 (dH (by lia)) ?_);rw[hacc,eI _ _ _ _ hq,ao (fun h=>q0 h.1)]
  ·rw[aj q0];refine eZ (oY (gA hD s3 hD2 (dH (by lia)) ?_));rw[hacc,eI _ _ _ _ hq];have e:decide (0<=q/\q<=63)=decide (q<=63):=by simp[q0]
   rw[e]
 ·intro H1 acc s2 hD1 hacc;have s3:=s1.trans s2;rw[lMp,aG] at hacc;refine⟨D,((r.drop 1).take 4).map fun p=>decide (0<=p/\p<=63),rfl,.of ?_,_,rfl,?_⟩
  ·rw[hD1,hacc,aQ];rfl
  rw[List.all_map];show if(!((r.drop 1).take 4).all fun p=>decide (0<=p/\p<=63))=true then _ else _
  have k3:=kk _ s3;by_cases h2:(((r.drop 1).take 4).all fun p=>decide (0<=p/\p<=63))=true
  rotate_left
  ·rw[ah h2] at k3;rw[show(((r.drop 1).take 4).all fun p=>decide (0<=p/\p<=63))=false by simpa using h2];exact eZ k3
  rw[af (fun h=>h h2)] at k3;rw[h2];have ha3:=s3 _ _ ha;refine fh ⟨_,rfl,jW (.of ha3) (dM (j:=5) rfl (ie (by lia))) ⟨_,rfl,oY ⟨_,rfl,?_⟩⟩⟩;show if(decide ((if r.getD 5 0<0 then -r.getD 5 0 else r.getD 5 0)<=((1000000:Nat):Int)))=true then _ else _
  rw[QW];by_cases h3:(r.getD 5 0).natAbs<=1000000
  rotate_left
  ·rw[ao h3] at k3⊢;exact fh k3
  rw[aj h3] at k3⊢;refine eZ ⟨_,rfl,jW (.of ha3) (dM (j:=6) rfl (ie (by lia))) (oY ⟨_,rfl,?_⟩)⟩;by_cases h4:1<=r.getD 6 0
  rotate_left
  ·rw[ao h4];rw[ao (show ¬(1<=r.getD 6 0/\r.getD 6 0<=1000000) from fun h=>h4 h.1)] at k3;exact fh k3
  rw[aj h4];refine eZ (oY ?_);have e:(true&&decide (1<=r.getD 6 0/\r.getD 6 0<=1000000))=decide (r.getD 6 0<=1000000):=by
   rw[Bool.true_and,a6,a9,a9];lia
  rw[e] at k3;exact k3
noncomputable abbrev iE:Stmt:=top 106
theorem yr:dD ["net","rows","row"] ["net"] (dk iE):=sco
noncomputable def qk (K:PySem.W.Frag):Sp:=fun vs H Q _=>∃a l,vs=[.ref a]/\ly K H a (l.map V.int)/\l.length<=200/\∀H',dJ H H'->Q (.bl (c9.nu l)) H'
theorem yt(T:Txt4 mg)(j8:eV P w K mg base "part_rows" ["net"] 1 (sE K))(qO:eV P w K mg base "is_part_row" ["row"] 1 uK)(G:iN K mg "is_network_row" iE ["net"]):eV P w K mg base "is_network_row" ["net"] 2 (qk K):=by
 have sc:=yr;refine G.i8 sc fun f cdv A outer s0 H vs Q E hr h=> ?_
 obtain⟨a,l,rfl,ha,l2,kk⟩:=h;refine⟨rfl,_,(df (fk (PW.pt (G5 (eJ iV (d5 (eK K) rfl T.gV d9 (c7 (pv 0) dc)) dz (eF _)) (Fu (lE (G9 tj tj dz (dW (i0 K) (pv 0) dz (fun _ _=>rfl)) (gc T.sf)))))) (dj (dC pK)) d8)
   (df (fk (eJ Ae (eO Nq (eO nX (d5 (eK K) rfl T.gV d9 (c7 (pv 0) dc)) dz) (gc T.gC)) dz (eF _)) (dj (dC pK)) d8)
   (df (dX (i:=1) sc.nd (dy j8 hr (c7 (pv 0) dc)))
   (df (fk (eJ vm (d5 (eK K) rfl T.gV d9 (c7 (pv 1) dc)) (gc T.sj) (eF _)) (dj (dC pK)) d8)
   (df (fk (lE (fb K (d5 (FH K rfl) rfl T.Ii vH (c7 (mJ rfl sc.nd (fu (pv 1)) (fq (own:=[("row",2)]) (by show mV ["net","rows","row"] (dk iE) _ _=true;decide +kernel)) (fun _ _ _ _ _=>(eY (i:=2) sc.nd)) (fun _ _ _ _ _=>gf) (fun _ _ _ _ _=>(dy qO hr (c7 (pv 2) dc)))) dc)) (fun _=>rfl))) (dj (dC pK)) d8)
   (dj (dC (hW tj (d5 (eK K) rfl T.gV d9 (c7 (mJ rfl sc.nd (fu (pv 1)) (fq (own:=[("row",2)]) (by show mV ["net","rows","row"] (dk iE) _ _=true;decide +kernel)) (fun _ _ _ _ _=>(eY (i:=2) sc.nd)) (fun _ _ _ _ _=>(KP (eJ iV (dW (i0 K) (pv 2) dz (fun _ _=>rfl)) (gc T.u9) (eF _)))) (fun _ _ _ _ _=>(pv 2))) dc)) (gc T.qL) (eF _))))))))),?_⟩
 unfold c9.nu at kk;have bad:(l.length=0\/¬(1<=l.headD 0/\l.headD 0<=8))->Q (.bl false) H:=fun h=>by
  have:=kk _ (.refl _);rw[ah h] at this;exact this
 refine⟨_,rfl,a,_,rfl,.inl ha,rfl,_,rfl,?_⟩;rw[lj,lMp];by_cases h0:l.length=0
 ·rw[aj (show((l.length:Nat):Int)=0 by lia)];exact eZ (eZ (bad (.inl h0)))
 rw[ao (show ¬((l.length:Nat):Int)=0 by lia)];refine fh ⟨_,rfl,jW ha (dM (j:=0) rfl (Fd l (by lia))) (oY ⟨_,rfl,?_⟩)⟩;by_cases h1:1<=l.headD 0
 rotate_left
 ·rw[ao h1];exact fh ⟨_,rfl,eZ (bad (.inr fun h=>h1 h.1))⟩
 rw[aj h1];refine eZ (oY ⟨_,rfl,?_⟩);by_cases h2:l.headD 0<=8
 rotate_left
 ·rw[ao h2];exact eZ (bad (.inr fun h=>h2 h.2))
 rw[aj h2];refine fh ?_;simp only[af (show ¬(l.length=0\/¬(1<=l.headD 0/\l.headD 0<=8)) from fun h=>h.elim h0 fun h=>h ⟨h1,h2⟩)] at kk;refine⟨_,rfl,a,_,rfl,.inl ha,_,_,rfl,rfl,oY ⟨(by show(0:Int)<7;decide),rfl,_,rfl,?_⟩⟩;rw[lj,lMp];by_cases h3:(l.length - 1) % 7=0
 rotate_left
 ·rw[ao (show ¬((((l.length:Nat):Int) - 1) % 7=0) by lia)];have:=kk _ (.refl _);rw[ah h3] at this;exact eZ this
 rw[aj (show(((l.length:Nat):Int) - 1) % 7=0 by lia)];refine fh ?_;simp only[af (show ¬(l.length - 1) % 7≠0 from fun h=>h h3)] at kk;refine⟨_,rfl,a,l,rfl,ha,by lia,l2,fun z H1 s1 hz=> ?_⟩;obtain⟨ra,rv,rfl,_,hra,hrv⟩:=hz;have lr:=hrv.length;have l7:=sD l h3;refine⟨_,rfl,ra,_,rfl,.inl (.of hra),_,_,rfl,rfl,_,rfl,?_⟩;rw[lr];by_cases h4:10<(c9.dN l).length
 ·rw[aj (show(((c9.dN l).length:Nat):Int)>10 by lia)];have:=kk _ s1;rw[ah h4] at this;exact eZ this
 rw[ao (show ¬(((c9.dN l).length:Nat):Int)>10 by lia)];refine fh ?_;simp only[af h4] at kk;refine⟨_,rfl,ra,rfl,⟨_,.of hra⟩,fun D hD=>nZ (fw (.of hra)) hD (fun i _ acc=>acc=(((c9.dN l).take i).map fun r=>V.bl (c9.ir r))) rfl ?_ ?_⟩
 ·rintro i x H2 H3 acc hi s2 hD2 hacc s3 s23 hD3 hx;obtain⟨r,hr',pr⟩:=hrv.mR hx;have la:acc.length<=i:=by rw[hacc,lMp,aC];lia
  refine⟨rfl,⟨_,rfl,_,r,rfl,(gw.same pr s3).at_,l7 r (aB hr'),fun H4 s4=> ?_⟩⟩;refine gA hD (s3.trans s4) (s4 _ _ hD3) (dH (by lia)) ?_;rw[hacc,eI _ _ _ _ hr']
 ·intro H2 acc s2 hD2 hacc;have s3:=s1.trans s2;rw[lr,aG] at hacc;refine⟨D,(c9.dN l).map c9.ir,rfl,.of ?_,_,rfl,?_⟩
  ·rw[hD2,hacc,aQ];rfl
  rw[List.all_map];show if(!(c9.dN l).all c9.ir)=true then _ else _
  by_cases h5:(c9.dN l).all c9.ir=true
  rotate_left
  ·rw[show(c9.dN l).all c9.ir=false by simpa using h5];have:=kk _ s3;rw[ah h5] at this;exact eZ this
  rw[h5];refine fh ?_;simp only[af (fun h:¬(c9.dN l).all c9.ir=true=>h h5)] at kk;have hra2:=s2 _ _ hra;refine⟨_,rfl,ra,rfl,⟨_,.of hra2⟩,fun D2 hDD=>nZ (fw (.of hra2)) hDD (fun i _ acc=>acc.length=(((c9.dN l).take i).filter fun r=>decide (r.getD 0 0=13)).length) rfl ?_ ?_⟩
  ·rintro i x H4 H5 acc hi s4 hD4 hacc s5 s45 hD5 hx;obtain⟨r,hr',xa,rfl,_,hxa⟩:=hrv.mR hx;have hxa5:=s5 _ _ (s2 _ _ hxa);have r7:=l7 r (aB hr');have la:acc.length<=i:=by
    rw[hacc];refine aw (cJ _ _) ?_;rw[aC];lia
   have et:(c9.dN l).take (i+1)=(c9.dN l).take i ++ [r]:=by
    rw[aZ,hr'];rfl
   refine⟨rfl,⟨_,rfl,jW (.of hxa5) (dM (j:=0) rfl (ie (by lia))) ⟨rfl,_,rfl,?_⟩⟩⟩;rw[lj];by_cases h13:r.getD 0 0=13
   ·rw[aj h13];refine eZ ⟨_,rfl,gA hDD s5 hD5 (dH (by lia)) ?_⟩;rw[et,bL,ay,ay,hacc,aR (by exact aj h13)];rfl
   ·rw[ao h13];refine fh ⟨s5,acc,hD5,?_⟩;show acc.length=_;rw[et,bL,ay,hacc,aU (by rw[ao h13];simp)];rfl
  ·intro H4 acc s4 hD4 hacc;rw[lr,aG] at hacc;refine⟨D2,_,rfl,.inl (.of hD4),_,_,rfl,rfl,?_⟩;have k4:=kk _ (s3.trans s4);have e:decide (((c9.dN l).filter fun r=>decide (r.getD 0 0=13)).length<=3)=decide (((acc.length:Nat):Int)<=3):=by
    rw[a6,a9,a9];lia
   rw[e] at k4;exact k4
noncomputable abbrev kW:Stmt:=top 109
theorem A3:dD ["net","row"] ["net"] (dk kW):=sco
noncomputable def nj (K:PySem.W.Frag) (c:Cs):Sp:=fun vs H Q _=>∃a l,vs=[.ref a]/\ly K H a (l.map V.int)/\1<=l.length/\l.length<=200/\(l.length - 1) % 7=0/\∀z H',dJ H H'->nv c H' z (c9.dG l)->Q z H'
theorem gR.over{H:Hp}{v:V}{p:c9.Part}{D:Addr}{vs us:List V}(h:gR c H v p)(hD:H D=some (.lst vs)):gR c (upd H D (.lst us)) v p:=let ⟨t,dx,e,q⟩:=h;⟨t,dx,e,by rw[d6 (G0 q hD (by intro z;cases z))];exact q⟩
theorem A4(T:Txt4 mg)(O:gr K c)(j8:eV P w K mg base "part_rows" ["net"] 1 (sE K))(zR:Kb P w K mg base "Part" c.part ["self","numbers"] 1 (CY K c.part))(nW:Kb P w K mg base "Network" c.dZ ["self","last_node","parts"] 1 (uD c.dZ))(G:iN K mg "read_network" kW ["net"]):eV P w K mg base "read_network" ["net"] 3 (nj K c):=by
 have sc:=A3;refine G.i8 sc fun f cdv A outer s0 H vs Q E hr h=> ?_
 obtain⟨a,l,rfl,ha,l1,l2,h7,kk⟩:=h;refine⟨rfl,_,(dj (dC (AG nW hr (c7 (dW (i0 K) (pv 0) dz (fun _ _=>rfl)) (c7 (mJ rfl sc.nd (fu (dy j8 hr (c7 (pv 0) dc))) (fq (own:=[("row",1)]) (by show mV ["net","row"] (dk kW) _ _=true;decide +kernel)) (fun _ _ _ _ _=>(eY (i:=1) sc.nd)) (fun _ _ _ _ _=>gf) (fun _ _ _ _ _=>(AG zR hr (c7 (pv 1) dc)))) dc))))),?_⟩;refine⟨_,rfl,jW ha (dM (j:=0) rfl (Fd l (by lia))) ?_⟩;refine⟨_,rfl,a,l,rfl,ha,l1,l2,fun z H1 s1 hz=> ?_⟩;obtain⟨ra,rv,rfl,_,hra,hrv⟩:=hz;have lr:=hrv.length;have l7:=sD l h7;have ln:=kU l;refine⟨ra,rfl,⟨_,.of hra⟩,fun D hD=>nZ (fw (.of hra)) hD (fun i H' acc=>Paired (gR c H') acc (((c9.dN l).take i).map c9.Part.of)) .nil ?_ ?_⟩
 ·rintro i x H2 H3 acc hi s2 hD2 hacc s3 s23 hD3 hx;obtain⟨r,hr',xa,rfl,_,hxa⟩:=hrv.mR hx;have la:=hacc.length;rw[lMp,aC] at la;refine⟨rfl,⟨_,rfl,fun ox dx nx nd ne=> ?_⟩⟩;have s4:dJ H3 (upd (upd H3 dx (.own ox)) ox (.ins c.part dx [])):=dJ.made nx nd (fun b o h _=>h);refine⟨ox,dx,xa,r,rfl,dh,s4 _ _ (s3 _ _ hxa),l7 r (aB hr'),fun H4 k4 hx4=>⟨rfl,?_⟩⟩;have s5:dJ H3 H4:=dJ.made nx nd k4;have hD4:=s5 _ _ hD3;refine gA hD (s3.trans s5) hD4 (dH (by lia)) ?_;rw[eI _ _ _ _ hr'];exact(hacc.gQ fun _ _ q=>(q.same (s23.trans s5)).over hD4).jw (gR.over ⟨ox,dx,rfl,hx4⟩ hD4)
 ·intro H2 acc s2 hD2 hacc;rw[lr,aG] at hacc;refine fun ox dx nx nd ne=>⟨ox,dx,_,_,rfl,dh,fun H3 k3 hx3=>⟨rfl,?_⟩⟩
  have s3:dJ H2 H3:=dJ.made nx nd k3;exact kk _ _ ((s1.trans s2).trans s3) ⟨ox,dx,_,rfl,hx3,D,acc,rfl,s3 _ _ hD2,hacc.gQ fun _ _ q=>q.same s3⟩
end
theorem MM{r:List Int}(h:c9.ir r=true)(h7:r.length=7):Nh (c9.Part.of r):=by
 unfold c9.ir at h;by_cases h0:0<=r.getD 0 0/\r.getD 0 0<=13
 rotate_left
 ·rw[ah h0] at h;cases h
 rw[af (fun q=>q h0)] at h;by_cases h1:((r.drop 1).take 4).all (fun p=>decide (0<=p/\p<=63))=true
 rotate_left
 ·rw[ah h1] at h;cases h
 rw[af (fun q=>q h1)] at h;obtain⟨h2,h3⟩:=(aF _ _).mp h;have h2:=az h2;have h3:=az h3;match r,h7 with
 |[a,b,d,e,f,g,k],_=>
  have q:=bD.mp h1;have q1:=az (q b (by simp));have q2:=az (q d (by simp));have q3:=az (q e (by simp));have q4:=az (q f (by simp));exact⟨h0.1,h0.2,q1.1,q2.1,q3.1,q4.1,h2,h3.1,h3.2⟩
structure Wa(l:List Int):Prop where
 len:1<=l.length
 m7:(l.length - 1) % 7=0
 l1:1<=l.headD 0
 l8:l.headD 0<=8
 c8:(c9.dG l).c8.length<=10
 pin:∀p∈(c9.dG l).c8,Nh p
theorem IG{l:List Int}(h:c9.nu l=true):Wa l:=by
 unfold c9.nu at h;by_cases h0:l.length=0\/¬(1<=l.headD 0/\l.headD 0<=8)
 ·rw[ah h0] at h;cases h
 rw[af h0] at h;by_cases h1:(l.length - 1) % 7=0
 rotate_left
 ·rw[ah h1] at h;cases h
 rw[af (fun q=>q h1)] at h;by_cases h2:10<(c9.dN l).length
 ·rw[ah h2] at h;cases h
 rw[af h2] at h;by_cases h3:(c9.dN l).all c9.ir=true
 rotate_left
 ·rw[ah h3] at h;cases h
 have hh:1<=l.headD 0/\l.headD 0<=8:=cy fun q=>h0 (.inr q)
 have hl:¬l.length=0:=fun q=>h0 (.inl q)
 refine⟨by lia,h1,hh.1,hh.2,?_,fun p hp=> ?_⟩
 ·show((c9.dN l).map c9.Part.of).length<=10;rw[lMp];lia
 ·obtain⟨r,hr,rfl⟩:=aN.mp (show p∈(c9.dN l).map c9.Part.of from hp);exact MM (bD.mp h3 r hr) (sD l h1 r hr)
section
variable {P:Program}{w:World}{K:PySem.W.Frag}{mg:Str->Option Value}{base:Heap}{c:Cs}
noncomputable abbrev mv:Stmt:=top 118
theorem yu:dD ["net","fault"] ["net"] (dk mv):=sco
noncomputable def ql (K:PySem.W.Frag):Sp:=fun vs H Q _=>∃a l,vs=[.ref a]/\ly K H a (l.map V.int)/\l.length<=200/\zN H Q (c9.fN l)
theorem yw(T:Txt4 mg)(mw:eV P w K mg base "is_network_row" ["net"] 2 (qk K))(iG:eV P w K mg base "read_network" ["net"] 3 (nj K c))(qP:eV P w K mg base "first_fault" ["network"] 4 (uJ c))(G:iN K mg "refusal_of_net" mv ["net"]):eV P w K mg base "refusal_of_net" ["net"] 5 (ql K):=by
 have sc:=yu;refine G.i8 sc fun f cdv A outer s0 H vs Q E hr h=> ?_
 obtain⟨a,l,rfl,ha,l2,kk⟩:=h;refine⟨rfl,_,(df (fk (lE (fb K (dy mw hr (c7 (pv 0) dc)) (fun _=>rfl))) (dj (dC (dO (c7 (jQ ic dz) dc)))) d8)
   (df (dX (i:=1) sc.nd (dy qP hr (c7 (dy iG hr (c7 (pv 0) dc)) dc)))
   (dj (dC (mH (fb K (pv 1) (fun _=>rfl)) (eO lF (dO (c7 (jQ ic dz) dc)) (pv 1)) (dO dc)))))),?_⟩
 unfold c9.fN at kk;refine⟨_,rfl,a,l,rfl,ha,l2,fun H1 s1=>⟨_,rfl,?_⟩⟩;cases hn:c9.nu l with
 |false=>
  rw[ah hn] at kk;exact eZ ⟨_,rfl,di (by simp),fun p hp=>kk _ _ (s1.trans (dt hp)) ⟨p,rfl,dh⟩⟩
 |true=>
  rw[af (by rw[hn];simp)] at kk;have ni:=IG hn;refine fh ⟨_,rfl,a,l,rfl,s1.seq ha,ni.len,l2,ni.m7,fun z H2 s2 hz=> ?_⟩;refine⟨_,c9.dG l,rfl,hz,by have:=ni.c8;lia,ni.pin,fun q H3 hq s3 hq3=> ?_⟩;have s13:=(s1.trans s2).trans s3;refine⟨_,rfl,_,Im hq3,?_⟩;cases hf:c9.fault (c9.dG l) with
  |nil=>
   rw[hf] at kk;exact fh ⟨aL _,fun p hp=>kk _ _ (s13.trans (dt hp)) ⟨p,rfl,dh⟩⟩
  |cons x xs=>
   rw[hf] at kk hq3;refine eZ ⟨_,rfl,di (by simp),fun p hp=> ?_⟩;have s4:=dt (o:= .lst [.int (-2)]) hp;have lx:xs.length<=1:=by
    have:∀m,(c9.ji (c9.dG l) m).length<=2:=fun m=>by
     induction m with
     |zero=>simp[c9.ji]
     |succ m ih=>
      unfold c9.ji;dsimp only[];split
      ·simp
      ·exact ih
    have:=this (c9.dG l).c8.length;unfold c9.fault at hf;rw[hf,aq] at this;lia
   refine⟨_,rfl,p,q,_,_,rfl,rfl,dh,s4 _ _ hq3,di (by simp;lia),fun p2 hp2=> ?_⟩;exact kk _ _ (s13.trans (s4.trans (dt hp2))) ⟨p2,rfl,dh⟩
end
theorem IH{l:List Int}{b:Nat}(h:c9.ik l<=2^b){x:Int}(hx:x∈l):Sz (b+1) x:=by
 unfold Sz;have h1:=c9.u5 hx;have h2:2^(b+1)=2^b*2:=Nat.pow_succ 2 b;have h3:1<=2^b:=Nat.one_le_two_pow;lia
theorem GL{l:List Int}(h:l≠[]):c9.lc l∈l:=by
 unfold c9.lc;exact c9.memD (by have:=aD.mpr h;lia)
theorem Kj{x b:Nat}(h:x<=2^b)(hb:b+1<9000):x.log2<9000:=by
 by_cases h0:x=0
 ·rw[h0];decide
 ·rw[Nat.log2_lt h0];refine Nat.lt_of_le_of_lt h ?_;exact Nat.pow_lt_pow_right (by decide) (by lia)
theorem GN{l:List Int}{b:Nat}(h:c9.ik l<=2^b):Sz (b+1) (c9.fc l):=by
 cases l with
 |nil=>
  unfold Sz;show 0<2^(b+1);exact Nat.two_pow_pos _
 |cons a l=>exact IH h ax
theorem Sz.mono{m n:Nat}{z:Int}(h:Sz m z)(hmn:m<=n):Sz n z:=aS h (bx (by decide) hmn)
theorem Kk{l r:List Int}(hl:c9.EB l)(hr:c9.EB r):∀x∈l,∀y∈r,IntMulOk x y:=fun x hx y hy=>(IH hl.ik hx).mul (IH hr.ik hy) (by decide)
theorem Pg{n:Nat}(hn:n<=30){A:Nat->Nat->c9.PF}(hA:∀i j,i<n->j<n+1->c9.Bd (A i j) 1 (2^246)):∀(f k:Nat) (t:List (List (List Int))) (before:List Int) (σ:Nat->Nat) (ε:c9.PF),f+k=n->c9.S7 n k A t before σ ε->C3 f k t before
 |0,_,_,_,_,_,_,_=>trivial
 |f+1,k,t,before,σ,ε,hf,S=>by
  intro c hc;have hk:k<n:=by lia
  have tl:=S.tab.len;obtain⟨c1,c2,c3⟩:=c9.rD t k _ c (by lia) hc;have hI:∀i j,i<n->j<n+1->c9.jS (A i j):=fun i j hi hj=>by
   obtain⟨l,tl,e,_,_⟩:=(hA i j hi hj).ex;exact⟨l,tl,e⟩
  refine⟨fun i hi hik j hj hjl=> ?_,?_⟩
  ·have hi2:i<n:=by lia
   have hjn:j<n+1:=by
    have e:(c9.nP t c k).getD i []=t.getD (c9.sw c k i) []:=c9.Bm t c k i (by lia) (by lia);rw[e,S.tab.row _ (c9.pS (by lia) hk hi2)] at hjl;exact hjl
   obtain⟨eB,bne,e1,e2,e3,e4,m,tm,em,hm⟩:=c9.OK hn hA hk S c (by lia) (by lia) c3 hi2 hik hj hjn;have s:∀l,c9.EB l->l.length<100000:=fun l h=>by have:=h.len;lia
   refine⟨s _ e1,s _ e2,s _ e3,s _ e4,s _ eB,Kk e1 e2,Kk e3 e4,S.Hy,bne,?_,m,tm,hm,Kk em eB⟩;exact Kj (aw (c9.u5 (GL bne)) eB.ik) (by decide)
  ·obtain⟨ε',S'⟩:=c9.Hz hI hk S c (by lia) (by lia) c3;exact Pg hn hA f (k+1) _ _ _ ε' (by lia) S'
section
variable {n:c9.Nw}(R:c9.Right n){g:c9.lh}(S:c9.Mw n g){G:Wh.Setting}(S2:c9.lQ n g G)(hst:g.gF.length=n.c8.length)(hdr:g.drives.length=n.c8.length)
include R S S2 hst hdr
theorem Ph:AK g:=by
 have hn:=S.dZ;have un:=c9.OI R;have p10:=R.c8;have l1:=R.l1;have l8:=R.l8;have al:(c9.gS g).length=(c9.de n).unknowns:=by rw[(c9.uZ R S2).len,c9.iz]
 have tab:=c9.xu R S2;have gp:∀k,pat g k=n.c8.getD k c9.p0:=fun k=>by
  show g.dZ.c8.getD k c9.p0=_;rw[hn]
 refine⟨⟨by rw[hn];lia,by rw[hn];exact hst,by rw[hn];exact hdr,S.s⟩,by rw[hn];lia,by rw[hn];lia,?_,?_,?_,?_,?_,?_⟩
 ·intro p hp h3;rw[hn] at hp⊢;obtain⟨i,hi,e⟩:=aW hp;have ep:n.c8.getD i c9.p0=p:=by rw[gDe,aa hi,e];rfl
  have ab:=R.ab hi (by rw[ep];exact h3);have cd:=R.cd hi;have pp:=R.p hi;rw[ep] at ab cd pp;exact⟨⟨pp.a0,ab.1⟩,⟨pp.b0,ab.2⟩,fun h10=>⟨⟨pp.c0,(cd (.inr (.inr (.inl h10)))).1⟩,⟨pp.d0,(cd (.inr (.inr (.inl h10)))).2⟩⟩⟩
 ·intro k hk;rw[hn] at hk;have pp:=R.p hk;have fo:=R.Qt hk;refine⟨?_,?_,?_⟩
  ·rw[gp];exact⟨pp.k0,pp.k1⟩
  ·intro h2;rw[gp] at h2;intro x hx;rw[hn] at hx⊢;exact c9.Cj R h2 hk x hx
  ·intro h8;rw[gp] at h8;show 0<=(pat g k).c/\(pat g k).c<(g.dZ.c8.length:Int);rw[gp,hn];have:=(fo h8).1;exact⟨pp.c0,by lia⟩
 ·refine⟨?_,?_,fun ts hts t ht=> ?_,by lia⟩
  ·rw[hn,R.yH];lia
  ·rw[hn,R.yH];lia
  ·obtain⟨h1,h2,h3,_⟩:=(c9.OH R S ts hts).1.at_ t ht;rw[hn];exact⟨h1,h2,by lia⟩
 ·rw[tab.len];lia
 ·intro i hi;rw[tab.len] at hi⊢;exact tab.row i hi
 ·rw[tab.len];exact Pg un (fun i j hi hj=>c9.Lu R S S2 hi hj) _ 0 _ _ _ 1 (by lia) (c9.Es _ _ tab)
end
theorem Pj{n:c9.Nw}(R:c9.Right n){st:List Bool}(h:st∈c9.eW n.c8 [[]]):AK (mU n st):=by
 obtain⟨r,hr⟩:=c9.Ic h;exact Ph R (c9.Rq R st) (c9.JQ R hr) hr.1 (lMp ..)
theorem Fe{d:List Int}{tops:List (List Int)}{u:Nat}(hl:tops.length=u)(h1:d.length<=31)(h2:∀c,c<u->(tops.getD c []).length<=31):wx (d,tops):=by
 refine⟨by show d.length<_;lia,fun l hl'=> ?_⟩;obtain⟨i,hi,e⟩:=aW hl';have:=h2 i (by have:i<tops.length:=hi;lia);rw[gDe,aa hi] at this;rw[<-e];show(tops[i]).length<_;have h3:(tops[i]).length<=31:=this;lia
theorem GO{n:c9.Nw}(R:c9.Right n){g:c9.lh}{G:Wh.Setting}(S2:c9.lQ n g G){d:List Int}{tops:List (List Int)}(h:c9.sol (c9.rows g)=some (d,tops)):tops.length=(c9.de n).unknowns:=by
 rcases c9.Jy (c9.xu R S2) with⟨d',tops',e,so⟩ |⟨e,_⟩
 ·rw[h] at e;cases e
  exact so.len
 ·rw[h] at e;cases e
theorem UC{n:c9.Nw}(R:c9.Right n)(h10:n.c8.length<=10):SM n:=by
 refine⟨h10,fun st h=>Pj R h,fun st h s hs k hk h13=> ?_⟩;obtain⟨r,hr⟩:=c9.Ic h;obtain⟨d,tops⟩:=s;have S2:=c9.JQ R hr;obtain⟨⟨b1,b2⟩,b3⟩:=c9.JV R (c9.Rq R st) S2 hs;have tl:tops.length=(c9.de n).unknowns:=GO R S2 hs;have pp:=R.p hk;have k3:(n.c8.getD k c9.p0).kind≠3:=by
  have:(n.c8.getD k c9.p0).kind=13:=h13;lia
 have ab:=R.ab hk k3;have nl:=c9.om n;have l1:=R.l1;have pl:=R.place hk;have al:=c9.uh R hk k3;have e:(c9.places (mU n st).dZ).getD k 0=(((c9.de n).at_ k:Nat):Int):=pl;have nd:∀v:Int,v<=n.last->c9.ik (c9.gT (d,tops) v)<=2^7530:=fun v hv=>by
  unfold c9.gT;by_cases h:0<v
  ·rw[ah h];exact(b3 _ (by lia)).2
  ·rw[af h];exact aL _
 refine⟨hk,hr.1,?_,?_,?_,?_,Fe tl b1 (fun c hc=>(b3 c hc).1),?_,?_,?_,?_,?_⟩
 ·rw[e];lia
 ·rw[e];show _<(tops.length:Int);lia
 ·show(n.c8.getD k c9.p0).a<=(tops.length:Int);have:=ab.1;lia
 ·show(n.c8.getD k c9.p0).b<=(tops.length:Int);have:=ab.2;lia
 ·exact(GN b2).mono (by decide)
 ·unfold c9.ig;rw[e,a8];exact(GN (b3 _ al).2).mono (by decide)
 ·unfold c9.pP c9.jE;refine(GN (b:=7531) ?_).mono (by decide);unfold c9.tQ c9.BP;refine aw (c9.Gg _) (aw (c9.qY _ _) ?_);rw[c9.Bs,show(7531:Nat)=7530+1 from rfl,Nat.pow_succ];have h1:=nd _ ab.1;have h2:=nd _ ab.2;have e2:(mU n st).dZ=n:=rfl;rw[e2];generalize (2:Nat)^7530=X at h1 h2⊢;lia
 ·exact QV pp.t
 ·refine QV ?_;have h1:=pp.b1;have h2:=pp.b2;show(n.c8.getD k c9.p0).dE.natAbs<=_;lia
theorem yx{n:c9.Nw}(R:c9.Right n){st:List Bool}{r:List Nat}(hr:c9.nI 0 n.c8.length st r){src:Int}(s0:0<=src)(hs:c9.sH n src=true):AK (c9.gG n st src):=by
 refine Ph R (c9.zl st src) (c9.ot R hr s0 hs) hr.1 ?_;show((List.range n.c8.length).map _).length=_;simp
theorem Pk{b:Nat}(hb:b<=134217728){right:List Int}(hr:right≠[]):∀(f:Nat) (rest:List Int),c9.WM b f rest right->Ut f rest right
 |0,_,_=>trivial
 |f+1,rest,h=>by
  rcases h with h |⟨⟨γ,δ,hs,h1,h2⟩,h3⟩
  ·exact .inl h
  ·by_cases q:rest.length<right.length
   ·exact .inl q
   have r0:rest≠[]:=fun z=>q (by rw[z];exact aD.mpr hr)
   have z1:∀x∈rest,Sz γ x:=fun x hx=>by
    have:=h1.mem hx;unfold Sz;have:=Nat.two_pow_pos γ;lia
   have z2:∀x∈right,Sz δ x:=fun x hx=>by
    have:=h2.mem hx;unfold Sz;have:=Nat.two_pow_pos δ;lia
   refine .inr ⟨fun x hx=>(z2 _ (GL hr)).mul (z1 x hx) (by lia),fun y hy=>(z1 _ (GL r0)).mul (z2 y hy) (by lia),Pk hb hr f _ h3⟩
theorem Pl{b:Nat}(hb:b<=134217728):∀(f:Nat) (l s:List Int),c9.CM b f l s->Uu f l s
 |0,_,_,_=>trivial
 |f+1,l,s,h=>by
  rcases h with h |⟨h1,h2⟩
  ·exact .inl h
  ·by_cases q:s=[]
   ·exact .inl q
   ·exact .inr ⟨Pk hb q _ _ h1,Pl hb f _ _ h2⟩
theorem SR{T B:List Int}(h:c9.TB T B):Vn T B:=by
 have mu:∀{l r:List Int},c9.ik l<=2^7702->c9.ik r<=2^7702->∀x∈l,∀y∈r,IntMulOk x y:=fun hl hr x hx y hy=>(IH hl hx).mul (IH hr hy) (by decide)
 refine⟨Pl (by decide) _ _ _ h.chain,?_,mu h.a.2 h.g.2,mu h.b.2 h.g.2,Kj h.f (by decide),by have:=h.a.1;lia,by have:=h.b.1;lia,by have:=h.g.1;lia⟩;by_cases q:c9.pO T B=[]
 ·rw[q];decide
 ·exact Kj (aw (c9.u5 (GL q)) h.g.2) (by decide)
section
variable {X:Cx}
theorem MN(hc:X.calm=true):mI X (.builtin "max") (fun xs H Q=>∃i j k,xs=[.int i,.int j,.int k]/\Q (.int (if j>i then(if k>j then k else j) else(if k>i then k else i))) H):=by
 intro pins s σ H xs us Q I r h;obtain⟨i,j,k,rfl,q⟩:=h;cases r with
 |cons r1 r2=>
 cases r2 with
 |cons r2 r3=>
 cases r3 with
 |cons r3 r4=>
 cases r4
 obtain⟨t1,rfl⟩:=r1;obtain⟨t2,rfl⟩:=r2;obtain⟨t3,rfl⟩:=r3;refine max_three_ints (I.ok.hd hc) fun h' tk k=>⟨_,H,I.kept k,?_,q⟩
 repeat' split
 all_goals exact⟨_,rfl⟩
theorem QX(K:PySem.W.Frag)(hc:X.calm=true)(h:X.K=K:=by rfl):mI X (.builtin "max") (T2 K):=by subst h;exact R5 hc
end
structure QY(mg:Str->Option Value):Prop extends Txt4 mg where
 jC:∃t,mg "NODES_OF_TWO_PORTS"=some (.int 4 t)
noncomputable def VZ (H:Hp) (v:V) (z:Int×Int):Prop:=∃a,v= .ref a/\H a=some (.tup [.int z.1,.int z.2])
noncomputable def VI (H:Hp) (Q:VK):Option (List Int)->Prop
 |none=>∀H',dJ H H'->Q .jP H'
 |some l=>o9 H Q l
section
variable {P:Program}{w:World}{K:PySem.W.Frag}{mg:Str->Option Value}{base:Heap}{c:Cs}
noncomputable abbrev kX:Stmt:=top 114
theorem A5:dD ["network","kind","pairs","more","pair"] ["network","kind","pairs"] (dk kX):=sco
noncomputable def nk (c:Cs):Sp:=fun vs H Q _=>∃v u n kind prs,vs=[v,.int kind,u]/\nv c H v n/\AE H u prs/\n.c8.length<=1000/\prs.length<=1000/\∀z H',dJ H H'->nv c H' z (c9.more n (prs.map fun x=>c9.fG kind x.1 x.2 0))->Q z H'
theorem A6(O:gr K c)(zR:Kb P w K mg base "Part" c.part ["self","numbers"] 1 (CY K c.part))(nW:Kb P w K mg base "Network" c.dZ ["self","last_node","parts"] 1 (uD c.dZ))(G:iN K mg "with_sources" kX ["network","kind","pairs"]):eV P w K mg base "with_sources" ["network","kind","pairs"] 3 (nk c):=by
 have sc:=A5;refine G.i8 sc fun f cdv A outer s0 H vs Q E hr h=> ?_
 obtain⟨v,u,n,kind,prs,rfl,hn,⟨ra,rv,rfl,hra,hrv⟩,l1,l2,kk⟩:=h;refine⟨rfl,_,(df (qS (i:=3) rfl sc.nd rfl rfl (uO rfl rfl rfl rfl) (fu (pv 2)) (fq (own:=[("pair",4)]) (by show mV ["network","kind","pairs","more","pair"] (dk kX) _ _=true;decide +kernel)) (fun _ _ _ _ _=>(eY (i:=4) sc.nd)) (fun _ _ _ _ _=>gf) (fun _ _ _ _ _=>(AG zR hr (c7 (dO (c7 (pv 1) (c7 (dW (PD K) (pv 4) dz (fun _ _=>rfl)) (c7 (dW (PD K) (pv 4) dz (fun _ _=>rfl)) (c7 dz (c7 dz (c7 dz (c7 dz dc)))))))) dc))))
   (dj (dC (AG nW hr (c7 (dq K (pv 0) rfl) (c7 (eO lF (dq K (pv 0) rfl) (pv 3)) dc)))))),?_⟩
 have lr:=hrv.length;refine⟨_,rfl,ra,rfl,⟨_,.of hra⟩,fun D hD=>nZ (fw (.of hra)) hD (fun i H' acc=>Paired (gR c H') acc ((prs.take i).map fun x=>c9.fG kind x.1 x.2 0)) .nil ?_ ?_⟩
 ·rintro i x H2 H3 acc hi s2 hD2 hacc s3 s23 hD3 hx;obtain⟨r,hr',t,rfl,ht⟩:=hrv.mR hx;have la:=hacc.length;rw[lMp,aC] at la;have ht3:=s3 _ _ ht;refine⟨rfl,⟨_,rfl,_,rfl,jW (.of ht3) (dM (j:=0) rfl rfl) ⟨_,rfl,jW (.of ht3) (dM (j:=1) rfl rfl) ⟨di (by show 7<=16777216;decide),fun q hq=>fun ox dx nx nd ne=> ?_⟩⟩⟩⟩;have s4:=dt (o:= .lst ([kind,r.1,r.2,0,0,0,1].map V.int)) hq;have s5:dJ (upd H3 q (.lst ([kind,r.1,r.2,0,0,0,1].map V.int))) (upd (upd (upd H3 q (.lst ([kind,r.1,r.2,0,0,0,1].map V.int))) dx (.own ox)) ox (.ins c.part dx [])):=dJ.made nx nd (fun b o h _=>h);refine⟨ox,dx,q,[kind,r.1,r.2,0,0,0,1],rfl,dh,s5 _ _ dh,rfl,fun H4 k4 hx4=>⟨rfl,?_⟩⟩;have s6:dJ (upd H3 q (.lst ([kind,r.1,r.2,0,0,0,1].map V.int))) H4:=dJ.made nx nd k4;have s46:=s4.trans s6;have hD4:=s46 _ _ hD3;refine gA hD (s3.trans s46) hD4 (dH (by lia)) ?_;rw[eI _ _ _ _ hr'];exact(hacc.gQ fun _ _ q=>(q.same (s23.trans s46)).over hD4).jw (gR.over ⟨ox,dx,rfl,hx4⟩ hD4)
 ·intro H2 acc s2 hD2 hacc;rw[lr,aG] at hacc;obtain⟨na,ndx,nvp,rfl,hna,pa,ws,rfl,hpa,hps⟩:=id hn;have lw:=hps.length;have la:=hacc.length;rw[lMp] at la;have hna2:=s2 _ _ hna;refine⟨_,rfl,dY hna2 O.dZ.cl (O.dZ.at_ 0 rfl) rfl ⟨_,rfl,dY hna2 O.dZ.cl (O.dZ.at_ 1 rfl) rfl ⟨_,rfl,pa,D,_,_,rfl,rfl,s2 _ _ hpa,hD2,di (by lia),fun p hp=> ?_⟩⟩⟩;have s3:=dt (o:= .lst (ws ++ acc)) hp;refine fun ox dx nx nd ne=>⟨ox,dx,_,_,rfl,dh,fun H3 k3 hx3=>⟨rfl,?_⟩⟩
  have s4:dJ _ H3:=dJ.made nx nd k3;refine kk _ _ (s2.trans (s3.trans s4)) ⟨ox,dx,_,rfl,hx3,p,_,rfl,s4 _ _ dh,?_⟩;exact(hps.gQ fun _ _ q=>q.same (s2.trans (s3.trans s4))).app (hacc.gQ fun _ _ q=>q.same (s3.trans s4))
noncomputable abbrev wI:Stmt:=top 111
theorem II:dD ["network","states","into","wider"] ["network","states","into"] (dk wI):=sco
noncomputable def AN (c:Cs):Sp:=fun vs H Q _=>∃v u z n st x,vs=[v,u,z]/\nv c H v n/\uu H u st/\VZ H z x/\n.c8.length<=100/\st.length<=1000/\AK (c9.Ig n st x)/\Iw c H Q (c9.sol (c9.rows (c9.Ig n st x)))
theorem Iw.of{H H1:Hp}{Q:VK}{o:Option (List Int×List (List Int))}(k:Iw c H Q o)(s:dJ H H1):Iw c H1 Q o:=by
 cases o with
 |none=>exact fun H' s'=>k H' (s.trans s')
 |some x=>exact fun z H' s' h=>k z H' (s.trans s') h
theorem IJ(T:QY mg)(O:gr K c)(iH:eV P w K mg base "with_sources" ["network","kind","pairs"] 3 (nk c))(gL:eV P w K mg base "driven_setting" ["network","states","source"] 5 (kz c))(iU:eV P w K mg base "law_rows" ["setting"] 6 (qf c))(kJ:eV P w K mg base "solved" ["rows"] 6 (ve c))(G:iN K mg "put_into" wI ["network","states","into"]):eV P w K mg base "put_into" ["network","states","into"] 8 (AN c):=by
 have sc:=II;refine G.i8 sc fun f cdv A outer s0 H vs Q E hr h=> ?_
 obtain⟨v,u,z,n,st,x,rfl,hn,⟨ua,rfl,hu⟩,⟨t,rfl,ht⟩,l1,l2,si,kk⟩:=h;refine⟨rfl,_,(df (dX (i:=3) sc.nd (dy iH hr (c7 (pv 0) (c7 (gc T.l5) (c7 (dO (c7 (gj (c7 (dW (PD K) (pv 2) dz (fun _ _=>rfl)) (c7 (dW (PD K) (pv 2) dz (fun _ _=>rfl)) dc))) dc)) dc)))))
   (dj (dC (dy kJ hr (c7 (dy iU hr (c7 (dy gL hr (c7 (pv 3) (c7 (eO lF (pv 1) (dO (c7 pK dc))) (c7 (d5 (eK K) rfl T.gV d9 (c7 (dq K (pv 0) rfl) dc)) dc)))) dc)) dc))))),?_⟩
 refine⟨_,rfl,_,rfl,jW (.of ht) (dM (j:=1) rfl rfl) ⟨_,rfl,jW (.of ht) (dM (j:=0) rfl rfl) ⟨di (by show 2<=16777216;decide),fun q hq=>⟨di (by show 1<=16777216;decide),fun q2 hq2=> ?_⟩⟩⟩⟩;have s1:=dt (o:= .tup [.int x.2,.int x.1]) hq;have s2:=dt (o:= .lst [.ref q]) hq2;have s12:=s1.trans s2;refine⟨_,_,n,5,[(x.2,x.1)],rfl,hn.same s12,⟨q2,_,rfl,dh,.cons ⟨q,rfl,s2 _ _ dh⟩ .nil⟩,by lia,by show 1<=1000;decide,fun zw H3 s3 hzw=> ?_⟩;have s13:=s12.trans s3;refine⟨_,rfl,_,rfl,di (by show 1<=16777216;decide),fun q3 hq3=> ?_⟩;have s4:=dt (o:= .lst [.bl false]) hq3;have s14:=s13.trans s4;refine⟨ua,q3,_,_,rfl,rfl,s14 _ _ hu,dh,di (by rw[lMp];show st.length+1<=_;lia),fun q4 hq4=> ?_⟩;have es:st.map V.bl ++ [.bl false]=(st ++ [false]).map V.bl:=by rw[aO];rfl
 rw[es];have s5:=dt (o:= .lst ((st ++ [false]).map V.bl)) hq4;have s15:=s14.trans s5;obtain⟨na,ndx,nvp,rfl,hna,pa,ws,rfl,hpa,hps⟩:=id hn;have lw:=hps.length;refine⟨_,rfl,dY (s15 _ _ hna) O.dZ.cl (O.dZ.at_ 1 rfl) rfl ⟨pa,_,rfl,.inl (.of (s15 _ _ hpa)),?_⟩⟩;rw[lw];refine⟨_,_,_,st ++ [false],(n.c8.length:Int),rfl,hzw.same (s4.trans s5),⟨q4,rfl,dh⟩,?_,fun zg H6 s6 hzg=> ?_⟩
 ·show(n.c8 ++ [_]).length<=1000;rw[ay];show n.c8.length+1<=1000;lia
 refine⟨_,_,rfl,hzg,si.Vx,si.l0,si.l1,si.Vy,si.Vz,si.VA,fun zt H7 s7 hzt=> ?_⟩;exact⟨_,_,rfl,Gx.less hzt (fun a h=>h.elim),si.len,si.yH,si.run,kk.of (s15.trans (s6.trans s7))⟩
structure Po(T B:List Int):Prop where
 sT:Short T
 sB:Short B
 tT:c9.Trim T
 tB:c9.Trim B
 ne:B≠[]
 ok:T≠[]->Vn T B
noncomputable abbrev Dh:Stmt:=top 112
theorem MO:dD ["solution","across"] ["solution","across"] (dk Dh):=sco
noncomputable def Ff (c:Cs):Sp:=fun vs H Q _=>∃v z s x,vs=[v,z]/\sL c H v s/\VZ H z x/\wx s/\x.1<=s.2.length/\x.2<=s.2.length/\Po (c9.jE s x.1 x.2) s.1/\o9 H Q (c9.EZ s x)
theorem MP(O:gr K c)(gK:eV P w K mg base "difference_top" ["solution","first","second"] 4 (kx c))(hJ:eV P w K mg base "told_quotient" ["top","bottom"] 43 lW)(G:iN K mg "told_z" Dh ["solution","across"]):eV P w K mg base "told_z" ["solution","across"] 44 (Ff c):=by
 have sc:=MO;refine G.i8 sc fun f cdv A outer s0 H vs Q E hr h=> ?_
 obtain⟨v,z,s,x,rfl,hs,⟨t,rfl,ht⟩,sh,x1,x2,td,kk⟩:=h;refine⟨rfl,_,(dj (dC (dy hJ hr (c7 (dy gK hr (c7 (pv 0) (c7 (dW (PD K) (pv 1) dz (fun _ _=>rfl)) (c7 (dW (PD K) (pv 1) dz (fun _ _=>rfl)) dc)))) (c7 (dq K (pv 0) rfl) dc))))),?_⟩;refine⟨_,rfl,_,rfl,jW (.of ht) (dM (j:=0) rfl rfl) ⟨_,rfl,jW (.of ht) (dM (j:=1) rfl rfl) ?_⟩⟩;refine⟨_,s,x.1,x.2,rfl,hs,sh,x1,x2,fun zd H1 s1 hzd=> ?_⟩;obtain⟨ya,ydx,vd,vt,rfl,hya,hvd,_⟩:=id hs;refine⟨_,rfl,dY (s1 _ _ hya) O.sol.cl (O.sol.at_ 0 rfl) rfl ?_⟩;exact⟨_,_,_,s.1,rfl,hzd,hvd.same s1,td.sT,td.sB,td.tT,td.tB,td.ne,td.ok,kk.of s1⟩
noncomputable abbrev Di:Stmt:=top 113
theorem MQ:dD ["network","states","ports","row","col","first","wider","setting","solution"] ["network","states","ports","row","col"] (dk Di):=sco
noncomputable def VJ (n:c9.Nw) (st:List Bool) (x y:Int×Int) (row col:Int):Prop:=∀s,c9.sol (c9.rows (c9.mO n st x y col))=some s->0<=(c9.places (c9.mO n st x y col).dZ).getD (n.c8.length+row.toNat) 0/\(c9.places (c9.mO n st x y col).dZ).getD (n.c8.length+row.toNat) 0<s.2.length/\Short (c9.ig (c9.mO n st x y col) s (n.c8.length+row.toNat))/\Po (c9.Eo (c9.ig (c9.mO n st x y col) s (n.c8.length+row.toNat))) s.1
noncomputable def Fg (c:Cs):Sp:=fun vs H Q _=>∃v u z n st x y row col,vs=[v,u,z,.int row,.int col]/\nv c H v n/\uu H u st/\AE H z [x,y]/\n.c8.length<=100/\st.length<=1000/\0<=row/\row<=1/\AK (c9.mO n st x y col)/\VJ n st x y row col/\VI H Q (c9.AA n st x y row col)
theorem MR(T:QY mg)(O:gr K c)(iH:eV P w K mg base "with_sources" ["network","kind","pairs"] 3 (nk c))(gL:eV P w K mg base "driven_setting" ["network","states","source"] 5 (kz c))(iU:eV P w K mg base "law_rows" ["setting"] 6 (qf c))(kJ:eV P w K mg base "solved" ["rows"] 6 (ve c))(i7:eV P w K mg base "current_top" ["setting","solution","k"] 1 (oS c))(nS:eV P w K mg base "negated" ["polynomial"] 1 vY)(hJ:eV P w K mg base "told_quotient" ["top","bottom"] 43 lW)(G:iN K mg "told_y" Di ["network","states","ports","row","col"]):eV P w K mg base "told_y" ["network","states","ports","row","col"] 44 (Fg c):=by
 have sc:=MQ;refine G.i8 sc fun f cdv A outer s0 H vs Q E hr h=> ?_
 obtain⟨v,u,z,n,st,x,y,row,col,rfl,hn,⟨ua,rfl,hu⟩,hz,l1,l2,r0,r1,si,yi,kk⟩:=h;refine⟨rfl,_,(df (dX (i:=5) sc.nd (d5 (eK K) rfl T.gV d9 (c7 (dq K (pv 0) rfl) dc)))
   (df (dX (i:=6) sc.nd (dy iH hr (c7 (pv 0) (c7 (gc T.lZ) (c7 (pv 2) dc)))))
   (df (dX (i:=7) sc.nd (dy gL hr (c7 (pv 6) (c7 (eO lF (pv 1) (dO (c7 pK (c7 pK dc)))) (c7 (eO jM (pv 5) (pv 4)) dc)))))
   (df (dX (i:=8) sc.nd (dy kJ hr (c7 (dy iU hr (c7 (pv 7) dc)) dc)))
   (df (fk (BB (Fs (pv 8))) (dj (dC Fp)) d8)
   (dj (dC (dy hJ hr (c7 (dy nS hr (c7 (dy i7 hr (c7 (pv 7) (c7 (pv 8) (c7 (eO jM (pv 5) (pv 3)) dc)))) dc)) (c7 (dq K (pv 8) rfl) dc)))))))))),?_⟩
 obtain⟨na,ndx,nvp,rfl,hna,pa,ws,rfl,hpa,hps⟩:=id hn;have lw:=hps.length;refine⟨_,rfl,dY hna O.dZ.cl (O.dZ.at_ 1 rfl) rfl ⟨pa,_,rfl,.inl (.of hpa),?_⟩⟩;rw[lw];refine⟨_,rfl,_,rfl,_,_,n,4,[x,y],rfl,hn,hz,by lia,by show 2<=1000;decide,fun zw H1 s1 hzw=> ?_⟩;refine⟨_,rfl,_,rfl,di (by show 2<=16777216;decide),fun q3 hq3=> ?_⟩;have s2:=dt (o:= .lst [.bl false,.bl false]) hq3;have s12:=s1.trans s2;refine⟨ua,q3,_,_,rfl,rfl,s12 _ _ hu,dh,di (by rw[lMp];show st.length+2<=_;lia),fun q4 hq4=> ?_⟩;have es:st.map V.bl ++ [.bl false,.bl false]=(st ++ [false,false]).map V.bl:=by rw[aO];rfl
 rw[es];have s3:=dt (o:= .lst ((st ++ [false,false]).map V.bl)) hq4;have s13:=s12.trans s3;refine⟨_,rfl,_,rfl,oY ?_⟩;refine⟨_,_,_,st ++ [false,false],_,rfl,hzw.same (s2.trans s3),⟨q4,rfl,dh⟩,?_,fun zg H4 s4 hzg=> ?_⟩
 ·show(n.c8 ++ [_,_]).length<=1000;rw[ay];show n.c8.length+2<=1000;lia
 have s14:=s13.trans s4;refine⟨_,rfl,_,_,rfl,hzg,si.Vx,si.l0,si.l1,si.Vy,si.Vz,si.VA,fun zt H5 s5 hzt=> ?_⟩;refine⟨_,_,rfl,Gx.less hzt (fun a h=>h.elim),si.len,si.yH,si.run,?_⟩;have s15:=s14.trans s5;unfold c9.AA at kk;unfold VJ at yi;have es:c9.sol (c9.rows (c9.gG (c9.more n ([x,y].map fun x=>c9.fG 4 x.1 x.2 0)) (st ++ [false,false]) ((n.c8.length:Int)+col)))=c9.sol (c9.rows (c9.mO n st x y col)):=rfl;rw[es];cases e:c9.sol (c9.rows (c9.mO n st x y col)) with
 |none=>
  rw[e] at kk;exact fun H6 s6=>⟨_,rfl,_,rfl,eZ (kk _ (s15.trans s6))⟩
 |some s=>
  rw[e] at kk;obtain⟨p0,p1,sh,td⟩:=yi s e;intro zs H6 s6 hzs;obtain⟨ya,ydx,vd,vt,rfl,hya,hvd,_⟩:=id hzs;have ek:(n.c8.length:Int)+row=((n.c8.length+row.toNat:Nat):Int):=by lia
  refine⟨_,rfl,_,rfl,fh ⟨_,rfl,_,rfl,_,rfl,_,rfl,oY ?_⟩⟩;refine⟨_,_,_,s,n.c8.length+row.toNat,?_,hzs,hzg.same (s5.trans s6),?_,p0,p1,fun zc H7 s7 hzc=> ?_⟩
  ·show[zg,V.ref _,V.int ((n.c8.length:Int)+row)]=[zg,V.ref _,_];rw[ek]
  ·show _<(n.c8 ++ [_,_]).length;rw[ay];show _<n.c8.length+2;lia
  refine⟨_,_,rfl,hzc,sh,fun p8 H8 hp8 s8 hp88=> ?_⟩;have s78:=s7.trans s8;refine⟨_,rfl,dY (s78 _ _ hya) O.sol.cl (O.sol.at_ 0 rfl) rfl ?_⟩;have kk:o9 H Q _:=kk;exact⟨_,_,_,s.1,rfl,⟨p8,rfl,hp88⟩,hvd.same s78,td.sT,td.sB,td.tT,td.tB,td.ne,td.ok,kk.of (s15.trans (s6.trans s78))⟩
structure UD(kind row col:Int)(l nodes:List Int):Prop where
 pt:c9.fN l=[]->SM (c9.dG l)
 go:c9.fN l=[]->nodes.length=4->nodes.any (fun v=>decide ((c9.dG l).last<v))=false->row<=1->col<=1->∀p,c9.point (c9.dG l)=some p->p.1.length<=1000/\
  (kind=0->AK (c9.Ig (c9.dG l) p.1 (c9.pick (nodes.getD 0 0,nodes.getD 1 0) (nodes.getD 2 0,nodes.getD 3 0) col))/\∃s,c9.sol (c9.rows (c9.Ig (c9.dG l) p.1 (c9.pick (nodes.getD 0 0,nodes.getD 1 0) (nodes.getD 2 0,nodes.getD 3 0) col)))=some s/\wx s/\(c9.pick (nodes.getD 0 0,nodes.getD 1 0) (nodes.getD 2 0,nodes.getD 3 0) row).1<=s.2.length/\(c9.pick (nodes.getD 0 0,nodes.getD 1 0) (nodes.getD 2 0,nodes.getD 3 0) row).2<=s.2.length/\Po (c9.jE s (c9.pick (nodes.getD 0 0,nodes.getD 1 0) (nodes.getD 2 0,nodes.getD 3 0) row).1 (c9.pick (nodes.getD 0 0,nodes.getD 1 0) (nodes.getD 2 0,nodes.getD 3 0) row).2) s.1/\(c9.EZ s (c9.pick (nodes.getD 0 0,nodes.getD 1 0) (nodes.getD 2 0,nodes.getD 3 0) row)).length<=1000000)/\
  (kind≠0->AK (c9.mO (c9.dG l) p.1 (nodes.getD 0 0,nodes.getD 1 0) (nodes.getD 2 0,nodes.getD 3 0) col)/\VJ (c9.dG l) p.1 (nodes.getD 0 0,nodes.getD 1 0) (nodes.getD 2 0,nodes.getD 3 0) row col/\∀t,c9.AA (c9.dG l) p.1 (nodes.getD 0 0,nodes.getD 1 0) (nodes.getD 2 0,nodes.getD 3 0) row col=some t->t.length<=1000000)
noncomputable abbrev Kl:Stmt:=top 117
theorem QZ:dD ["kind","row","col","net","nodes","refusal","network","point","ports","told"] ["kind","row","col","net","nodes"] (dk Kl):=sco
noncomputable def yy (K:PySem.W.Frag):Sp:=fun vs H Q _=>∃kind row col a l b nodes,vs=[.int kind,.int row,.int col,.ref a,.ref b]/\ly K H a (l.map V.int)/\ly K H b (nodes.map V.int)/\l.length<=200/\0<=kind/\0<=row/\0<=col/\UD kind row col l nodes/\zN H Q (c9.port kind row col l nodes)
theorem Q0(T:QY mg)(O:gr K c)(mx:eV P w K mg base "refusal_of_net" ["net"] 5 (ql K))(iG:eV P w K mg base "read_network" ["net"] 3 (nj K c))(kY:eV P w K mg base "operating_point" ["network"] 8 (oV c))(wJ:eV P w K mg base "put_into" ["network","states","into"] 8 (AN c))(Dj:eV P w K mg base "told_z" ["solution","across"] 44 (Ff c))(Dk:eV P w K mg base "told_y" ["network","states","ports","row","col"] 44 (Fg c))(G:iN K mg "port" Kl ["kind","row","col","net","nodes"]):eV P w K mg base "port" ["kind","row","col","net","nodes"] 45 (yy K):=by
 have sc:=QZ;refine G.i8 sc fun f cdv A outer s0 H vs Q E hr h=> ?_
 obtain⟨kind,row,col,a,l,b,nodes,rfl,ha,hb,l2,k0,r0,c0,ok,kk⟩:=h;refine⟨rfl,_,(df (fk (PW.pt (G5 (eJ vm (d5 (MN rfl) rfl T.Ih vG (c7 (pv 0) (c7 (pv 1) (c7 (pv 2) dc)))) dz (eF _)) (Fu (eJ Ae (d5 (eK K) rfl T.gV d9 (c7 (pv 4) dc)) (gc T.jC) (eF _))))) (dj (dC (dO (c7 (jQ ic dz) dc)))) d8)
   (df (dX (i:=5) sc.nd (dy mx hr (c7 (pv 3) dc)))
   (df (fk (fb K (pv 5) (fun _=>rfl)) (dj (dC (pv 5))) d8)
   (df (dX (i:=6) sc.nd (dy iG hr (c7 (pv 3) dc)))
   (df (fk (eJ vm (d5 (QX K rfl) rfl T.Ih vG (c7 (pv 4) dc)) (dq K (pv 6) rfl) (eF _)) (dj (dC (dO (c7 (jQ ic dz) dc)))) d8)
   (df (dX (i:=7) sc.nd (dy kY hr (c7 (pv 6) dc)))
   (df (fk (BB (Fs (pv 7))) (dj (dC (dO (c7 (jQ ic dz) dc)))) d8)
   (df (dX (i:=8) sc.nd (dO (c7 (gj (c7 (dW (i0 K) (pv 4) dz (fun _ _=>rfl)) (c7 (dW (i0 K) (pv 4) dz (fun _ _=>rfl)) dc))) (c7 (gj (c7 (dW (i0 K) (pv 4) dz (fun _ _=>rfl)) (c7 (dW (i0 K) (pv 4) dz (fun _ _=>rfl)) dc))) dc))))
   (df (fk (eJ iV (pv 0) dz (eF _)) (dj (dC (eO lF (dO (c7 dz dc)) (dy Dj hr (c7 (dy wJ hr (c7 (pv 6) (c7 (dq K (pv 7) rfl) (c7 (dW (i0 K) (pv 8) (pv 2) (fun _ _=>rfl)) dc)))) (c7 (dW (i0 K) (pv 8) (pv 1) (fun _ _=>rfl)) dc)))))) d8)
   (df (dX (i:=9) sc.nd (dy Dk hr (c7 (pv 6) (c7 (dq K (pv 7) rfl) (c7 (pv 8) (c7 (pv 1) (c7 (pv 2) dc)))))))
   (dj (dC (mH (BB (Fs (pv 9))) (dO (c7 (jQ ic dz) dc)) (eO lF (dO (c7 dz dc)) (pv 9))))))))))))))),?_⟩
 unfold c9.port at kk;refine⟨_,rfl,_,rfl,_,rfl,_,_,_,rfl,oY ⟨_,rfl,?_⟩⟩;have em:decide ((if row>kind then(if col>row then col else row) else(if col>kind then col else kind))>1)=decide (1<kind\/1<row\/1<col):=by
  rw[a6,a9,a9]
  repeat' split
  all_goals lia
 rw[em];by_cases h1:1<kind\/1<row\/1<col
 ·rw[aj h1];rw[ah (.inl h1)] at kk;exact eZ (eZ ⟨_,rfl,di (by show 1<=16777216;decide),fun p hp=>kk _ _ (dt hp) ⟨p,rfl,dh⟩⟩)
 rw[ao h1];refine fh ⟨_,rfl,b,_,rfl,.inl hb,rfl,_,rfl,?_⟩;rw[lMp];by_cases h4:nodes.length=4
 rotate_left
 ·rw[show decide (V.int (nodes.length:Int)=V.int 4)=false from ao fun e=>h4 (by have:=V.int.inj e;lia)];rw[ah (.inr h4)] at kk;exact eZ ⟨_,rfl,di (by show 1<=16777216;decide),fun p hp=>kk _ _ (dt hp) ⟨p,rfl,dh⟩⟩
 rw[show decide (V.int (nodes.length:Int)=V.int 4)=true from aj (by rw[h4];rfl)];rw[af (by lia)] at kk;refine fh ⟨_,rfl,a,l,rfl,ha,l2,fun z H1 s1 hz=> ?_⟩;obtain⟨ra,rfl,hra⟩:=hz;refine⟨_,rfl,_,Im hra,?_⟩;by_cases hre:c9.fN l=[]
 rotate_left
 ·rw[j3 hre];rw[ah hre] at kk;exact eZ ⟨_,rfl,kk _ _ s1 ⟨ra,rfl,hra⟩⟩
 rw[af (fun h=>h hre)] at kk;have iI:c9.nu l=true:=by
  cases e:c9.nu l with
  |true=>rfl
  |false=>
   unfold c9.fN at hre;rw[ah e] at hre;cases hre
 have ni:=IG iI;have ptin:=ok.pt hre;have n10:=ptin.c8;rw[hre] at hra⊢;refine fh ⟨_,rfl,a,l,rfl,s1.seq ha,ni.len,l2,ni.m7,fun z H2 s2 hz=> ?_⟩;have s12:=s1.trans s2;have hb2:=s12.seq hb;obtain⟨na,ndx,nvp,rfl,hna,hpsn⟩:=id hz;refine⟨_,rfl,b,nodes,rfl,hb2,by lia,fun m hm hmax=>⟨_,rfl,dY hna O.dZ.cl (O.dZ.at_ 0 rfl) rfl (oY ⟨_,rfl,?_⟩)⟩⟩;have en:decide (m>(c9.dG l).last)=nodes.any fun v=>decide ((c9.dG l).last<v):=by
  rw[a6,a9,bJ];constructor
  ·intro h;exact⟨m,hm,aj h⟩
  ·rintro⟨v,hv,h⟩;have:=az h;have:=hmax v hv;lia
 rw[en];cases hany:nodes.any fun v=>decide ((c9.dG l).last<v) with
 |true=>
  rw[ah hany] at kk;exact eZ ⟨_,rfl,di (by show 1<=16777216;decide),fun p hp=>kk _ _ (s12.trans (dt hp)) ⟨p,rfl,dh⟩⟩
 |false=>
 rw[af (by rw[hany];simp)] at kk;refine fh ⟨_,rfl,_,_,rfl,hz,ptin,?_⟩;cases hpt:c9.point (c9.dG l) with
 |none=>
  rw[hpt] at kk;exact fun H3 s3=>⟨_,rfl,_,rfl,eZ ⟨_,rfl,di (by show 1<=16777216;decide),fun p hp=>kk _ _ (s12.trans (s3.trans (dt hp))) ⟨p,rfl,dh⟩⟩⟩
 |some p=>
  rw[hpt] at kk;obtain⟨pl,gz,gy⟩:=ok.go hre h4 hany (by lia) (by lia) p hpt;intro zp H3 s3 hzp;obtain⟨xa,xdx,vst,vsl,rfl,hxa,hbls,hsol⟩:=hzp;refine⟨_,rfl,_,rfl,fh ?_⟩;have s13:=s12.trans s3;have hb3:=s13.seq hb;refine⟨_,rfl,jW hb3 (dM (j:=0) rfl (ie (by lia))) ⟨_,rfl,jW hb3 (dM (j:=1) rfl (ie (by lia))) ⟨di (by show 2<=16777216;decide),fun q1 hq1=> ?_⟩⟩⟩;have s4:=dt (o:= .tup [.int (nodes.getD 0 0),.int (nodes.getD 1 0)]) hq1;have hb4:=s4.seq hb3;refine⟨_,rfl,jW hb4 (dM (j:=2) rfl (ie (by lia))) ⟨_,rfl,jW hb4 (dM (j:=3) rfl (ie (by lia))) ⟨di (by show 2<=16777216;decide),fun q2 hq2=>⟨di (by show 2<=16777216;decide),fun q3 hq3=> ?_⟩⟩⟩⟩;have s5:=dt (o:= .tup [.int (nodes.getD 2 0),.int (nodes.getD 3 0)]) hq2;have s6:=dt (o:= .lst [.ref q1,.ref q2]) hq3;have s46:=s4.trans (s5.trans s6);have s16:=s13.trans s46;have hq13:upd (upd (upd H3 q1 (.tup [.int (nodes.getD 0 0),.int (nodes.getD 1 0)])) q2 (.tup [.int (nodes.getD 2 0),.int (nodes.getD 3 0)])) q3 (.lst [.ref q1,.ref q2]) q1=some (.tup [.int (nodes.getD 0 0),.int (nodes.getD 1 0)]):=(s5.trans s6) _ _ dh;have hq23:upd (upd (upd H3 q1 (.tup [.int (nodes.getD 0 0),.int (nodes.getD 1 0)])) q2 (.tup [.int (nodes.getD 2 0),.int (nodes.getD 3 0)])) q3 (.lst [.ref q1,.ref q2]) q2=some (.tup [.int (nodes.getD 2 0),.int (nodes.getD 3 0)]):=s6 _ _ dh;have hq33:upd (upd (upd H3 q1 (.tup [.int (nodes.getD 0 0),.int (nodes.getD 1 0)])) q2 (.tup [.int (nodes.getD 2 0),.int (nodes.getD 3 0)])) q3 (.lst [.ref q1,.ref q2]) q3=some (.lst [.ref q1,.ref q2]):=dh;clear s4 s5 s6 hb4;generalize upd (upd (upd H3 q1 (.tup [.int (nodes.getD 0 0),.int (nodes.getD 1 0)])) q2 (.tup [.int (nodes.getD 2 0),.int (nodes.getD 3 0)])) q3 (.lst [.ref q1,.ref q2])=H6 at *;have pk:∀w:Int,0<=w->w<=1->∃t,([V.ref q1,V.ref q2]:List V)[w.toNat]? =some (.ref t)/\H6 t=some (.tup [.int (c9.pick (nodes.getD 0 0,nodes.getD 1 0) (nodes.getD 2 0,nodes.getD 3 0) w).1,.int (c9.pick (nodes.getD 0 0,nodes.getD 1 0) (nodes.getD 2 0,nodes.getD 3 0) w).2]):=fun w w0 w1=>by
   have:w=0\/w=1:=by lia
   rcases this with rfl |rfl
   ·exact⟨q1,rfl,hq13⟩
   ·exact⟨q2,rfl,hq23⟩
  obtain⟨tc,hc1,hc2⟩:=pk col c0 (by lia);obtain⟨tr,hr1,hr2⟩:=pk row r0 (by lia);dsimp only at kk;have s36:=s3.trans s46;have hz6:=hz.same s36;refine⟨_,rfl,rfl,_,rfl,?_⟩;by_cases hk:kind=0
  ·rw[show decide (V.int kind=V.int 0)=true from aj (by rw[hk])];rw[ah hk] at kk;obtain⟨si,s,es,sh,x1,x2,td,tl⟩:=gz hk;rw[es] at kk;dsimp only at kk;refine eZ ⟨di (by show 1<=16777216;decide),fun q7 hq7=> ?_⟩;have s7:=dt (o:= .lst [.int 0]) hq7;have s67:=s46.trans s7;refine⟨_,rfl,_,rfl,dY (s67 _ _ hxa) O.pt.cl (O.pt.at_ 0 rfl) rfl ⟨_,rfl,_,rfl,jW (.of (s7 _ _ hq33)) (dM (j:=col.toNat) (by lia) hc1) ?_⟩⟩;refine⟨_,_,_,_,p.1,_,rfl,hz6.same s7,hbls.same s67,⟨tc,rfl,s7 _ _ hc2⟩,by lia,pl,si,?_⟩;rw[es];intro zs H8 s8 hzs;refine⟨_,rfl,_,rfl,jW (.of ((s7.trans s8) _ _ hq33)) (dM (j:=row.toNat) (by lia) hr1) ?_⟩;refine⟨_,_,s,_,rfl,hzs,⟨tr,rfl,(s7.trans s8) _ _ hr2⟩,sh,x1,x2,td,fun p9 H9 hp9 s9 hp99=> ?_⟩;refine⟨q7,p9,_,_,rfl,rfl,(s8.trans s9) _ _ dh,hp99,di (by rw[lMp];show 1+_<=16777216;lia),fun p10 hp10=> ?_⟩;exact kk _ _ (s16.trans (s7.trans (s8.trans (s9.trans (dt hp10))))) ⟨p10,rfl,dh⟩
  ·rw[show decide (V.int kind=V.int 0)=false from ao fun e=>hk (V.int.inj e)];rw[af hk] at kk;obtain⟨si,yi,tl⟩:=gy hk;refine fh ⟨_,rfl,_,rfl,dY (s46 _ _ hxa) O.pt.cl (O.pt.at_ 0 rfl) rfl ⟨_,rfl,_,rfl,_,rfl,?_⟩⟩;refine⟨_,_,_,_,p.1,(nodes.getD 0 0,nodes.getD 1 0),(nodes.getD 2 0,nodes.getD 3 0),row,col,rfl,hz6,hbls.same s46,⟨q3,_,rfl,hq33,.cons ⟨q1,rfl,hq13⟩ (.cons ⟨q2,rfl,hq23⟩ .nil)⟩,by lia,pl,r0,by lia,si,yi,?_⟩;cases ey:c9.AA (c9.dG l) p.1 (nodes.getD 0 0,nodes.getD 1 0) (nodes.getD 2 0,nodes.getD 3 0) row col with
   |none=>
    rw[ey] at kk;have kk:zN H Q [-5]:=kk;exact fun H7 s7=>⟨_,rfl,_,rfl,eZ ⟨_,rfl,di (by show 1<=16777216;decide),fun p hp=>kk _ _ (s16.trans (s7.trans (dt hp))) ⟨p,rfl,dh⟩⟩⟩
   |some t=>
    rw[ey] at kk;have kk:zN H Q (0::t):=kk;have:=tl t ey;refine fun p2 H7 hp2 s7 hp22=>⟨_,rfl,_,rfl,fh ⟨di (by show 1<=16777216;decide),fun p hp=>⟨_,rfl,p,p2,_,_,rfl,rfl,dh,dt hp _ _ hp22,di (by rw[lMp];show 1+_<=16777216;lia),fun p4 hp4=> ?_⟩⟩⟩
    exact kk _ _ (s16.trans (s7.trans ((dt hp).trans (dt hp4)))) ⟨p4,rfl,dh⟩
end
theorem Q1{n:c9.Nw}{d:List Int}{tops:List (List Int)}{m B:Nat}(tl:tops.length=(c9.de n).unknowns)(hb:∀c,c<(c9.de n).unknowns->(tops.getD c []).length<=m/\c9.ik (tops.getD c [])<=B){a b:Int}(ha:a<=n.last)(hb':b<=n.last):(c9.jE (d,tops) a b).length<=m/\c9.ik (c9.jE (d,tops) a b)<=2*B:=by
 have nl:=c9.om n;have nd:∀v:Int,v<=n.last->(c9.gT (d,tops) v).length<=m/\c9.ik (c9.gT (d,tops) v)<=B:=fun v hv=>by
  unfold c9.gT;by_cases h:0<v
  ·rw[ah h];exact hb _ (by lia)
  ·rw[af h];exact⟨aL _,aL _⟩
 have x:=nd _ ha;have y:=nd _ hb';unfold c9.jE c9.tQ c9.BP;refine⟨aw (c9.FT _) ?_,aw (c9.Gg _) (aw (c9.qY _ _) ?_)⟩
 ·rw[c9.jq,c9.uR];lia
 ·rw[c9.Bs];lia
theorem RA{T B:List Int}(tT:c9.Trim T)(tB:c9.Trim B)(ne:B≠[])(lT:T.length<=11)(lB:B.length<=11)(nT:c9.ik T<=2^7531)(nB:c9.ik B<=2^7531):Po T B/\(c9.n8 T B).length<=100:=by
 have tb:T≠[]->c9.TB T B:=fun h=>c9.QI tT tB h ne lT lB nT nB
 refine⟨⟨?_,?_,tT,tB,ne,fun h=>SR (tb h)⟩,c9.MA tb⟩
 ·show T.length<_;lia
 ·show B.length<_;lia
theorem VL:2*2^7530=2^7531:=by rw[show(7531:Nat)=1+7530 from rfl,Nat.pow_add]
theorem up1{x:Nat}(h:x<=2^7530):x<=2^7531:=aw h (bx (by decide) (by decide))
theorem UE{kind row col:Int}(r0:0<=row)(c0:0<=col)(l nodes:List Int)(n0:∀v∈nodes,0<=v):UD kind row col l nodes:=by
 refine⟨fun hr=>UC (c9.right_of hr).1 (c9.Gr hr),fun hr h4 hany r1 c1 p hp=> ?_⟩;obtain⟨R,_⟩:=c9.right_of hr;have h10:=c9.Gr hr;have pr:=c9.ES R;rw[hp] at pr;have bd:∀j,j<4->0<=nodes.getD j 0/\nodes.getD j 0<=(c9.dG l).last:=fun j hj=>by
  have hm:nodes.getD j 0∈nodes:=c9.memD (by lia);refine⟨n0 _ hm,?_⟩;have:¬(c9.dG l).last<nodes.getD j 0:=fun z=>by
   have:nodes.any (fun v=>decide ((c9.dG l).last<v))=true:=bJ.mpr ⟨_,hm,aj z⟩;rw[hany] at this;cases this
  lia
 have g0:=bd 0 (by decide);have g1:=bd 1 (by decide);have g2:=bd 2 (by decide);have g3:=bd 3 (by decide);generalize nodes.getD 0 0=v0 at *;generalize nodes.getD 1 0=v1 at *;generalize nodes.getD 2 0=v2 at *;generalize nodes.getD 3 0=v3 at *;cases hP:(c9.de (c9.dG l)).point with
 |none=>rw[hP] at pr;exact pr.elim
 |some y=>
 rw[hP] at pr;obtain⟨_,hst,D0⟩:=pr;have s1:p.1.length<=1000:=by
  have:=hst.1;lia
 refine⟨s1,fun _=> ?_,fun _=> ?_⟩
 ·have pz:∀w:Int,0<=w->w<=1->∃a b:Int,c9.pick (v0,v1) (v2,v3) w=(a,b)/\(0<=a/\a<=(c9.dG l).last)/\(0<=b/\b<=(c9.dG l).last):=fun w w0 w1=>by
   have:w=0\/w=1:=by lia
   rcases this with rfl |rfl
   ·exact⟨v0,v1,rfl,g0,g1⟩
   ·exact⟨v2,v3,rfl,g2,g3⟩
  obtain⟨a,b,ea,ha,hb⟩:=pz row r0 r1;obtain⟨c,d,ec,hc,hd⟩:=pz col c0 c1;rw[ea,ec];obtain⟨e,tops,es,D,_⟩:=c9.Uq R h10 hst D0 ha.1 ha.2 hb.1 hb.2 hc.1 hc.2 hd.1 hd.2;have R1:c9.Right (c9.more (c9.dG l) [c9.fG 5 d c 1]):=c9.ow R h10 (by show 1<=2;decide) fun p hp=>by
   rw[au.mp hp];exact c9.vV (.inr rfl) hd.1 hc.1 hd.2 hc.2 (.inr rfl)
  have R0:c9.Right (c9.more (c9.dG l) [c9.fG 5 d c 0]):=c9.ow R h10 (by show 1<=2;decide) fun p hp=>by
   rw[au.mp hp];exact c9.vV (.inr rfl) hd.1 hc.1 hd.2 hc.2 (.inl rfl)
  have lm:(c9.more (c9.dG l) [c9.fG 5 d c 0]).c8.length=(c9.dG l).c8.length+1:=by
   show((c9.dG l).c8 ++ [_]).length=_;rw[ay];rfl
  have hst0:c9.nI 0 (c9.more (c9.dG l) [c9.fG 5 d c 0]).c8.length (p.1 ++ [false]) y.1:=by
   rw[lm];exact c9.Bv (j:=1) hst
  have is:c9.sH (c9.more (c9.dG l) [c9.fG 5 d c 0]) ((c9.dG l).c8.length:Int)=true:=by
   unfold c9.sH c9.kindAt;rw[lm,a8];show(decide _&&decide ((((c9.dG l).c8 ++ [c9.fG 5 d c 0]).getD (c9.dG l).c8.length c9.p0).kind=4\/(((c9.dG l).c8 ++ [c9.fG 5 d c 0]).getD (c9.dG l).c8.length c9.p0).kind=5))=true;rw[c9.zm (ai _),cf];rw[aj (by lia)];rfl
  have S2:=c9.ot R0 hst0 (cw _) is;obtain⟨⟨b1,b2⟩,b3⟩:=c9.JV R0 (c9.zl (p.1 ++ [false]) ((c9.dG l).c8.length:Int)) S2 es;have tl0:=GO R0 S2 es;have tl1:=D.len;obtain⟨l1,l2⟩:=c9.Ly R1 D;obtain⟨q,q0,hd',ht'⟩:=D.ex;obtain⟨tT,_⟩:=c9.AD R1 D ht' ha.1 ha.2 hb.1 hb.2;have hbb:∀k,k<(c9.de (c9.more (c9.dG l) [c9.fG 5 d c 1])).unknowns->(tops.getD k []).length<=11/\c9.ik (tops.getD k [])<=2^7530:=fun k hk=>⟨l2 k hk,(b3 k (by rw[<-tl0,tl1];exact hk)).2⟩
  obtain⟨c1',c2'⟩:=Q1 (n:=c9.more (c9.dG l) [c9.fG 5 d c 1]) (d:=e) tl1 hbb ha.2 hb.2;rw[VL] at c2';obtain⟨td,qw⟩:=RA tT D.xf D.Sh c1' l1 c2' (up1 b2);have nl:=c9.om (c9.more (c9.dG l) [c9.fG 5 d c 1]);have ln:(c9.more (c9.dG l) [c9.fG 5 d c 1]).last=(c9.dG l).last:=rfl;refine⟨yx R0 hst0 (cw _) is,(e,tops),es,Fe tl0 b1 (fun c hc=>(b3 c hc).1),?_,?_,td,?_⟩
  ·show a<=(tops.length:Int);lia
  ·show b<=(tops.length:Int);lia
  ·show(c9.n8 _ _).length<=_;dsimp only at qw⊢;lia
 ·have R1:=c9.LC R h10 (x:=(v0,v1)) (y:=(v2,v3)) col g0 g1 g2 g3;have R0:c9.Right (c9.more (c9.dG l) [c9.fG 4 v0 v1 0,c9.fG 4 v2 v3 0]):=c9.ow R h10 (by show 2<=2;decide) fun p hp=>by
   rcases aH.mp hp with e |hp
   ·rw[e];exact c9.vV (.inl rfl) g0.1 g1.1 g0.2 g1.2 (.inl rfl)
   ·rw[au.mp hp];exact c9.vV (.inl rfl) g2.1 g3.1 g2.2 g3.2 (.inl rfl)
  have lm:(c9.more (c9.dG l) [c9.fG 4 v0 v1 0,c9.fG 4 v2 v3 0]).c8.length=(c9.dG l).c8.length+2:=by
   show((c9.dG l).c8 ++ [_,_]).length=_;rw[ay];rfl
  have hst0:c9.nI 0 (c9.more (c9.dG l) [c9.fG 4 v0 v1 0,c9.fG 4 v2 v3 0]).c8.length (p.1 ++ [false,false]) y.1:=by
   rw[lm];exact c9.Bv (j:=2) hst
  have en:(((c9.dG l).c8.length:Int)+col).toNat=(c9.dG l).c8.length+col.toNat:=by lia
  have k4:∀k,k<2->((c9.more (c9.dG l) [c9.fG 4 v0 v1 0,c9.fG 4 v2 v3 0]).c8.getD ((c9.dG l).c8.length+k) c9.p0).kind=4:=fun k hk=>by
   show(((c9.dG l).c8 ++ [_,_]).getD ((c9.dG l).c8.length+k) c9.p0).kind=4;rw[c9.zm (by lia),show(c9.dG l).c8.length+k - (c9.dG l).c8.length=k by lia];have:k=0\/k=1:=by lia
   rcases this with rfl |rfl <;>rfl
  have is:c9.sH (c9.more (c9.dG l) [c9.fG 4 v0 v1 0,c9.fG 4 v2 v3 0]) (((c9.dG l).c8.length:Int)+col)=true:=by
   unfold c9.sH c9.kindAt;rw[lm,en,k4 _ (by lia),aj (by lia)];rfl
  have S2:=c9.ot R0 hst0 (by lia) is;have ye:=c9.y_eq R h10 hst (x:=(v0,v1)) (y:=(v2,v3)) (row:=row) (col:=col) g0 g1 g2 g3 r0 r1 c0 c1;have key:∀s,c9.sol (c9.rows (c9.mO (c9.dG l) p.1 (v0,v1) (v2,v3) col))=some s->(0<=(c9.places (c9.mO (c9.dG l) p.1 (v0,v1) (v2,v3) col).dZ).getD ((c9.dG l).c8.length+row.toNat) 0/\(c9.places (c9.mO (c9.dG l) p.1 (v0,v1) (v2,v3) col).dZ).getD ((c9.dG l).c8.length+row.toNat) 0<s.2.length/\Short (c9.ig (c9.mO (c9.dG l) p.1 (v0,v1) (v2,v3) col) s ((c9.dG l).c8.length+row.toNat))/\Po (c9.Eo (c9.ig (c9.mO (c9.dG l) p.1 (v0,v1) (v2,v3) col) s ((c9.dG l).c8.length+row.toNat))) s.1)/\(c9.n8 (c9.Eo (c9.ig (c9.mO (c9.dG l) p.1 (v0,v1) (v2,v3) col) s ((c9.dG l).c8.length+row.toNat))) s.1).length<=100:=fun s hs=>by
   obtain⟨e,tops⟩:=s;have D:=ye.1 e tops hs;obtain⟨⟨b1,b2⟩,b3⟩:=c9.JV R0 (c9.zl (p.1 ++ [false,false]) (((c9.dG l).c8.length:Int)+col)) S2 hs;have tl0:=GO R0 S2 hs;have tl1:=D.len;obtain⟨l1,l2⟩:=c9.Ly R1 D;have hk:(c9.dG l).c8.length+row.toNat<(c9.more (c9.dG l) [c9.fG 4 v0 v1 0,c9.fG 4 v2 v3 0]).c8.length:=by lia
   have pl:(c9.places (c9.mO (c9.dG l) p.1 (v0,v1) (v2,v3) col).dZ).getD ((c9.dG l).c8.length+row.toNat) 0=(((c9.de (c9.more (c9.dG l) [c9.fG 4 v0 v1 0,c9.fG 4 v2 v3 0])).at_ ((c9.dG l).c8.length+row.toNat):Nat):Int):=R0.place hk;have al:=c9.uh R0 hk (by rw[k4 _ (by lia)];decide);have ct:c9.ig (c9.mO (c9.dG l) p.1 (v0,v1) (v2,v3) col) (e,tops) ((c9.dG l).c8.length+row.toNat)=tops.getD ((c9.de (c9.more (c9.dG l) [c9.fG 4 v0 v1 0,c9.fG 4 v2 v3 0])).at_ ((c9.dG l).c8.length+row.toNat)) []:=by
    unfold c9.ig;rw[pl,a8]
   rw[ct,pl];have al1:(c9.de (c9.more (c9.dG l) [c9.fG 4 v0 v1 0,c9.fG 4 v2 v3 0])).at_ ((c9.dG l).c8.length+row.toNat)<(c9.de (c9.oZ (c9.dG l) (v0,v1) (v2,v3) col)).unknowns:=by
    rw[<-tl1,tl0];exact al
   have ll:=l2 _ al1;obtain⟨td,qw⟩:=RA (c9.Hv (D.trim _ al1)) D.xf D.Sh (by rw[c9.uR];exact ll) l1 (by rw[c9.Bs];exact up1 (b3 _ al).2) (up1 b2);refine⟨⟨cw _,?_,?_,td⟩,qw⟩
   ·show _<(tops.length:Int);lia
   ·show List.length _<_;lia
  refine⟨yx R0 hst0 (by lia) is,fun s hs=>(key s hs).1,fun t ht=> ?_⟩;unfold c9.AA at ht;cases hs:c9.sol (c9.rows (c9.mO (c9.dG l) p.1 (v0,v1) (v2,v3) col)) with
  |none=>rw[hs] at ht;cases ht
  |some s=>
   rw[hs] at ht;cases ht
   have:=(key s hs).2;lia
end Hj
namespace L2
open PySem PySem.Spec PyProof.Rows
open PySem.W (WData Codec OpenSpec Well WellAll ReadsW ReadsAllW)
mutual
inductive Dw(K:PySem.W.Frag)(H:Hp):V->WData->Prop
 |jP:Dw K H .jP .none
 |bl (b:Bool):Dw K H (.bl b) (.bool b)
 |int (i:Int):Dw K H (.int i) (.int i)
 |str (x:Str):Dw K H (.str x) (.str x)
 |Fm (b:Array UInt8):Dw K H (.Fm b) (.bytes b.toList)
 |lst {a:Addr} {xs:List V} {ds:List WData}:ly K H a xs->rd K H xs ds->Dw K H (.ref a) (.list ds)
 |tup {a:Addr} {xs:List V} {ds:List WData}:Du K H a xs->rd K H xs ds->Dw K H (.ref a) (.tuple ds)
inductive rd(K:PySem.W.Frag)(H:Hp):List V->List WData->Prop
 |nil:rd K H [] []
 |cons {v:V} {vs:List V} {d:WData} {ds:List WData}:Dw K H v d->rd K H vs ds->rd K H (v::vs) (d::ds)
end
theorem LL{K:PySem.W.Frag}{H:Hp}:∀ns:List Int,rd K H (ns.map V.int) (ns.map WData.int)
 |[]=> .nil
 |n::r=> .cons (.int n) (LL r)
theorem GP{K:PySem.W.Frag}{H:Hp}:∀(ns:List Int) (xs:List V),rd K H xs (ns.map WData.int)->xs=ns.map V.int
 |[],xs,h=>by
  cases h
  rfl
 |n::r,xs,h=>by
  cases h with
  |cons h1 h2=>
   cases h1
   rw[GP r _ h2] <;>rfl
section
variable {P:Program}{w:World}{K:PySem.W.Frag}{H:Hp}{h:Heap}{R:PySem.W.WRecords}{cl:Str->Option Addr}
theorem SS{a:Addr}{xs:List V}(iI:wQ P w H h)(KX:K.In h)(q:ly K H a xs):∃(its:List Value) (o:Obj) (n:Nat),Vals xs its/\h.get? a=some o/\o.cls= .type "list"/\o.data= .seq its.toArray n:=by
 rcases q with q |⟨o,its,n,e,hc,_,hd,_,hv⟩
 ·obtain⟨_,its,n,hv,e⟩:=(show j9 P w H h a (.lst xs) from q.ok iI);exact⟨its,_,n,hv,e,rfl,rfl⟩
 ·exact⟨its.toList,o,n,hv,KX _ _ e,hc,by simp[hd]⟩
theorem SU{a:Addr}{xs:List V}(iI:wQ P w H h)(KX:K.In h)(q:Du K H a xs):∃(its:List Value) (o:Obj) (n:Nat),Vals xs its/\h.get? a=some o/\o.cls= .type "tuple"/\o.data= .seq its.toArray n:=by
 rcases q with q |⟨o,its,n,e,hc,hd,_,hv⟩
 ·obtain⟨_,its,hv,o,e,hc,n,hd⟩:=(show j9 P w H h a (.tup xs) from q.ok iI);exact⟨its,o,n,hv,e,hc,hd⟩
 ·exact⟨its.toList,o,n,hv,KX _ _ e,hc,by simp[hd]⟩
mutual
theorem Dw.reads(iI:wQ P w H h)(KX:K.In h):∀(d:WData) (v:V) (u:Value),Dw K H v d->RelV v u->∃as,ReadsW R cl h u d as
 | .none,_,_,x,r=>by
  cases x
  cases r
  exact⟨_,ReadsW.none⟩
 | .bool b,_,_,x,r=>by
  cases x
  cases r
  exact⟨_,ReadsW.bool b⟩
 | .int i,_,_,x,r=>by
  cases x
  obtain⟨t,rfl⟩:=r;exact⟨_,ReadsW.int i t⟩
 | .str s,_,_,x,r=>by
  cases x
  obtain⟨t,rfl⟩:=r;exact⟨_,ReadsW.str s t⟩
 | .bytes b,_,_,x,r=>by
  cases x
  obtain⟨t,rfl⟩:=r;exact⟨_,ReadsW.bytes _ t⟩
 | .list ds,_,_,x,r=>by
  cases x with
  |lst hs ha=>
   cases r
   obtain⟨its,o,n,rv,ho,hc,hd⟩:=SS iI KX hs;obtain⟨as,hr⟩:=Dw.readsAll iI KX ds _ its ha rv;exact⟨_,ReadsW.list ho hc hd hr⟩
 | .tuple ds,_,_,x,r=>by
  cases x with
  |tup hs ha=>
   cases r
   obtain⟨its,o,n,rv,ho,hc,hd⟩:=SU iI KX hs;obtain⟨as,hr⟩:=Dw.readsAll iI KX ds _ its ha rv;exact⟨_,ReadsW.tuple ho hc hd hr⟩
 | .float _,_,_,x,_=>by cases x
 | .dict _,_,_,x,_=>by cases x
 | .bytearray _,_,_,x,_=>by cases x
 | .set _,_,_,x,_=>by cases x
 | .frozenset _,_,_,x,_=>by cases x
 | .obj _ _,_,_,x,_=>by cases x
theorem Dw.readsAll(iI:wQ P w H h)(KX:K.In h):∀(ds:List WData) (vs:List V) (us:List Value),rd K H vs ds->Vals vs us->∃as,ReadsAllW R cl h us ds as
 |[],_,_,x,r=>by
  cases x
  cases r
  exact⟨_,ReadsAllW.nil⟩
 |d::ds,_,_,x,r=>by
  cases x with
  |cons h1 h2=>
   cases r with
   |cons r1 r2=>
    obtain⟨as,q1⟩:=Dw.reads iI KX d _ _ h1 r1;obtain⟨bs,q2⟩:=Dw.readsAll iI KX ds _ _ h2 r2;exact⟨_,ReadsAllW.cons q1 q2⟩
end
end
mutual
noncomputable def LM:WData->Bool
 | .none=>true
 | .bool _=>true
 | .int _=>true
 | .str _=>true
 | .bytes _=>true
 | .list xs=>A7 xs
 | .tuple xs=>A7 xs
 |_=>false
noncomputable def A7:List WData->Bool
 |[]=>true
 |x::r=>LM x&&A7 r
end
theorem IK{α:Type}{f:α->WData}(h:∀a,LM (f a)=true):∀l:List α,A7 (l.map f)=true
 |[]=>rfl
 |x::r=>by
  show(LM (f x)&&A7 (r.map f))=true;rw[h x,IK h r] <;>rfl
theorem uL:∀(c:Codec) (a:c.denote),LM (c.enc a)=true
 | .unit,_=>rfl
 | .bool,_=>rfl
 | .int _ _,_=>rfl
 | .nat _ _,_=>rfl
 | .u8,_=>rfl
 | .bytes _ _,_=>rfl
 | .text _ _ _ _,_=>rfl
 | .list _ _ c,a=>IK (fun x=>uL c x) a
 | .pair c d,a=>by
  show(LM (c.enc a.1)&&(LM (d.enc a.2)&&true))=true;rw[uL c a.1,uL d a.2] <;>rfl
 | .triple c d e,a=>by
  show(LM (c.enc a.1)&&(LM (d.enc a.2.1)&&(LM (e.enc a.2.2)&&true)))=true;rw[uL c a.1,uL d a.2.1,uL e a.2.2] <;>rfl
 | .option c,none=>rfl
 | .option c,some x=>uL c x
theorem Fh:∀(cs:List Codec) (a:Codec.denoteAll cs),A7 (Codec.encAll cs a)=true
 |[],_=>rfl
 |c::cs,a=>by
  show(LM (c.enc a.1)&&A7 (Codec.encAll cs a.2))=true;rw[uL c a.1,Fh cs a.2] <;>rfl
theorem wK:∀{xs:List WData} {d:WData},d∈xs->d.weight<=WData.weightAll xs
 |[],d,h=>absurd h (by simp)
 |x::r,d,h=>by
  show d.weight<=x.weight+1+WData.weightAll r;rcases aH.mp h with e |m
  ·rw[e];omega
  ·have z:=wK m;omega
noncomputable def toV:Value->V
 | .none=> .jP
 | .bool b=> .bl b
 | .int i _=> .int i
 | .str x _=> .str x
 | .bytes b _=> .Fm b
 | .ref a=> .ref a
 |_=> .jP
noncomputable def MS (A:List Addr):Value->Prop
 | .none=>True
 | .bool _=>True
 | .int _ _=>True
 | .str _ _=>True
 | .bytes _ _=>True
 | .ref a=>a∈A
 |_=>False
theorem MS.mono{A B:List Addr}(h:∀a∈A,a∈B):∀{u:Value},MS A u->MS B u:=fun{u} x=>by
 cases u with
 |ref a=>exact h a x
 |none=>trivial
 |bool b=>trivial
 |int i t=>trivial
 |str s t=>trivial
 |bytes b t=>trivial
 |_=>exact False.elim x
theorem Pp{A:List Addr}{u:Value}(x:MS A u):RelV (toV u) u:=by
 cases u with
 |ref a=>rfl
 |none=>rfl
 |bool b=>rfl
 |int i t=>exact⟨t,rfl⟩
 |str s t=>exact⟨t,rfl⟩
 |bytes b t=>exact⟨t,rfl⟩
 |_=>exact False.elim x
theorem rf{A:List Addr}:∀{vs:List Value},(∀u∈vs,MS A u)->Vals (vs.map toV) vs
 |[],_=> .nil
 |u::r,h=> .cons (Pp (h u (ax ..))) (rf fun x hx=>h x (ak _ hx))
noncomputable def sN (h:Heap) (A:List Addr) (a:Addr):Prop:=∃vs:List Value,vs.length<=sizeLine/\(∀u∈vs,MS A u)/\
 (h.get? a=some {cls:= .type "list",data:= .seq vs.toArray}\/h.get? a=some {cls:= .type "tuple",data:= .seq vs.toArray})
theorem sN.mono{h:Heap}{A B:List Addr}{a:Addr}(k:∀a∈A,a∈B)(x:sN h A a):sN h B a:=by
 obtain⟨vs,h1,h2,h3⟩:=x;exact⟨vs,h1,fun u hu=>(h2 u hu).mono k,h3⟩
theorem qm{P:Params}{h:Heap}:∀{vs:List Value} {ds:List WData},WellAll P h vs ds->vs.length=ds.length
 |_,_,.nil=>rfl
 |_,_,.cons _ b=>by
  show _+ 1=_+ 1;rw[qm b]
theorem Fi{P:Params}{h:Heap}{v:Value}{ds:List WData}(x:Well P h v (.list ds)):∃(a:Addr) (vs:List Value),v= .ref a/\h.get? a=some {cls:= .type "list",data:= .seq vs.toArray}/\WellAll P h vs ds:=by
 cases x with
 |list ho hall=>exact⟨_,_,rfl,ho,hall⟩
theorem Dl{P:Params}{h:Heap}{v:Value}{ds:List WData}(x:Well P h v (.tuple ds)):∃(a:Addr) (vs:List Value),v= .ref a/\h.get? a=some {cls:= .type "tuple",data:= .seq vs.toArray}/\WellAll P h vs ds:=by
 cases x with
 |tuple ho hall=>exact⟨_,_,rfl,ho,hall⟩
theorem Fj{P:Params}{h:Heap}{us:List Value}{d:WData}{ds:List WData}(x:WellAll P h us (d::ds)):∃(v:Value) (vs:List Value),us=v::vs/\Well P h v d/\WellAll P h vs ds:=by
 cases x with
 |cons a b=>exact⟨_,_,rfl,a,b⟩
theorem LN{n:Nat}(h:n<=1048576):n<=sizeLine:=aw h (by decide)
section
variable {P:Params}{h:Heap}
mutual
theorem Pq:∀(d:WData) (v:Value),Well P h v d->LM d=true->d.weight<=1048576->∃A:List Addr,MS A v/\∀a∈A,sN h A a
 | .none,_,x,_,_=>by
  cases x
  exact⟨[],trivial,fun a m=>absurd m (by simp)⟩
 | .bool b,_,x,_,_=>by
  cases x
  exact⟨[],trivial,fun a m=>absurd m (by simp)⟩
 | .int i,_,x,_,_=>by
  cases x
  exact⟨[],trivial,fun a m=>absurd m (by simp)⟩
 | .str s,_,x,_,_=>by
  cases x
  exact⟨[],trivial,fun a m=>absurd m (by simp)⟩
 | .bytes b,_,x,_,_=>by
  cases x
  exact⟨[],trivial,fun a m=>absurd m (by simp)⟩
 | .list ds,_,x,p,z=>by
  obtain⟨a,vs,rfl,ho,hall⟩:=Fi x;have z2:WData.weightAll ds<=1048576:=z;obtain⟨A,h1,h2⟩:=yz ds _ hall p fun d hd=>aw (wK hd) z2
  have k:∀b∈A,b∈a::A:=fun b hb=>ak _ hb
  refine⟨a::A,ax ..,fun b hb=> ?_⟩;rcases aH.mp hb with e |m
  ·rw[e];exact⟨vs,LN (by rw[qm hall];exact aw (PySem.W.length_le_weightAllW ds) z2),fun u hu=>(h1 u hu).mono k,.inl ho⟩
  ·exact(h2 b m).mono k
 | .tuple ds,_,x,p,z=>by
  obtain⟨a,vs,rfl,ho,hall⟩:=Dl x;have z2:WData.weightAll ds<=1048576:=z;obtain⟨A,h1,h2⟩:=yz ds _ hall p fun d hd=>aw (wK hd) z2
  have k:∀b∈A,b∈a::A:=fun b hb=>ak _ hb
  refine⟨a::A,ax ..,fun b hb=> ?_⟩;rcases aH.mp hb with e |m
  ·rw[e];exact⟨vs,LN (by rw[qm hall];exact aw (PySem.W.length_le_weightAllW ds) z2),fun u hu=>(h1 u hu).mono k,.inr ho⟩
  ·exact(h2 b m).mono k
 | .float _,_,_,p,_=>Bool.noConfusion (show false=true from p)
 | .dict _,_,_,p,_=>Bool.noConfusion (show false=true from p)
 | .bytearray _,_,_,p,_=>Bool.noConfusion (show false=true from p)
 | .set _,_,_,p,_=>Bool.noConfusion (show false=true from p)
 | .frozenset _,_,_,p,_=>Bool.noConfusion (show false=true from p)
 | .obj _ _,_,_,p,_=>Bool.noConfusion (show false=true from p)
theorem yz:∀(ds:List WData) (vs:List Value),WellAll P h vs ds->A7 ds=true->(∀d∈ds,d.weight<=1048576)->∃A:List Addr,(∀u∈vs,MS A u)/\∀a∈A,sN h A a
 |[],_,x,_,_=>by
  cases x
  exact⟨[],fun u m=>absurd m (by simp),fun a m=>absurd m (by simp)⟩
 |d::ds,_,x,p,z=>by
  obtain⟨v,vs,rfl,x1,x2⟩:=Fj x;have q:LM d=true/\A7 ds=true:=Bool.and_eq_true_iff.mp p;obtain⟨A,a1,a2⟩:=Pq d v x1 q.1 (z d (ax ..));obtain⟨B,b1,b2⟩:=yz ds vs x2 q.2 fun e he=>z e (ak _ he)
  have kA:∀b∈A,b∈A ++ B:=fun b hb=>aK.mpr (.inl hb)
  have kB:∀b∈B,b∈A ++ B:=fun b hb=>aK.mpr (.inr hb)
  refine⟨A ++ B,fun u hu=> ?_,fun b hb=> ?_⟩
  ·rcases aH.mp hu with e |m
   ·rw[e];exact a1.mono kA
   ·exact(b1 u m).mono kB
  ·rcases aK.mp hb with m |m
   ·exact(a2 b m).mono kA
   ·exact(b2 b m).mono kB
end
end
noncomputable def Q2 (o:Obj):Option HO:=match o.data with
 | .seq vs _=>if(o.cls==Value.type "list")=true then some (.Fn o (.lst (vs.toList.map toV))) else some (.Fn o (.tup (vs.toList.map toV)))
 |_=>none
noncomputable def qQ (K:PySem.W.Frag) (h:Heap) (A:List Addr):Hp:=fun b=>if b∈A then(if(K.lookup b).isNone=true then(h.get? b).bind Q2 else none) else none
noncomputable def IL (H:Hp):Prop:=∀b,H b=none\/∃o u,H b=some (.Fn o u)
theorem IM(vs:List Value):Q2 {cls:= .type "list",data:= .seq vs.toArray}=some (.Fn {cls:= .type "list",data:= .seq vs.toArray} (.lst (vs.map toV))):=by
 show(if(Value.type "list"==Value.type "list")=true then some (HO.Fn {cls:= .type "list",data:= .seq vs.toArray} (.lst (vs.toArray.toList.map toV))) else some (HO.Fn {cls:= .type "list",data:= .seq vs.toArray} (.tup (vs.toArray.toList.map toV))))=_;rw[ah (beq_self_eq_true _)]
theorem IP(vs:List Value):Q2 {cls:= .type "tuple",data:= .seq vs.toArray}=some (.Fn {cls:= .type "tuple",data:= .seq vs.toArray} (.tup (vs.map toV))):=by
 show(if(Value.type "tuple"==Value.type "list")=true then some (HO.Fn {cls:= .type "tuple",data:= .seq vs.toArray} (.lst (vs.toArray.toList.map toV))) else some (HO.Fn {cls:= .type "tuple",data:= .seq vs.toArray} (.tup (vs.toArray.toList.map toV))))=_;rw[af (by decide)]
section
variable {P:Program}{w:World}{K:PySem.W.Frag}{h:Heap}{A:List Addr}
theorem Bx{b:Addr}{o:Obj}(hb:b∈A)(hk:K.lookup b=none)(e:h.get? b=some o):qQ K h A b=Q2 o:=by
 unfold qQ;rw[ah hb,hk,ah (show(none:Option Obj).isNone=true from rfl),e] <;>rfl
theorem Q3{b:Addr}{u:HO}(q:qQ K h A b=some u):b∈A/\K.lookup b=none:=by
 unfold qQ at q;by_cases hb:b∈A
 ·rw[ah hb] at q;cases hk:K.lookup b with
  |none=>exact⟨hb,rfl⟩
  |some o=>
   rw[hk,af (by simp)] at q;cases q
 ·rw[af hb] at q;cases q
theorem yA(ar:∀a∈A,sN h A a){b:Addr}{u:HO}(q:qQ K h A b=some u):K.lookup b=none/\∃vs:List Value,vs.length<=sizeLine/\(∀u∈vs,MS A u)/\
  ((h.get? b=some {cls:= .type "list",data:= .seq vs.toArray}/\u= .Fn {cls:= .type "list",data:= .seq vs.toArray} (.lst (vs.map toV)))\/
   (h.get? b=some {cls:= .type "tuple",data:= .seq vs.toArray}/\u= .Fn {cls:= .type "tuple",data:= .seq vs.toArray} (.tup (vs.map toV)))):=by
 obtain⟨hb,hk⟩:=Q3 q;obtain⟨vs,h1,h2,h3⟩:=ar b hb;refine⟨hk,vs,h1,h2,?_⟩;rcases h3 with e |e
 ·rw[Bx hb hk e,IM] at q;exact .inl ⟨e,(aX q).symm⟩
 ·rw[Bx hb hk e,IP] at q;exact .inr ⟨e,(aX q).symm⟩
theorem MT(ar:∀a∈A,sN h A a):IL (qQ K h A):=fun b=>by
 cases q:qQ K h A b with
 |none=>exact .inl rfl
 |some u=>
  obtain⟨_,vs,_,_,⟨_,e⟩ |⟨_,e⟩⟩:=yA ar q
  ·exact .inr ⟨_,_,by rw[e]⟩
  ·exact .inr ⟨_,_,by rw[e]⟩
theorem Q4(ar:∀a∈A,sN h A a):wQ P w (qQ K h A) h:=fun b u q=>by
 obtain⟨_,vs,h1,h2,⟨e,rfl⟩ |⟨e,rfl⟩⟩:=yA ar q
 ·exact⟨e,by rw[lMp];exact h1,vs,_,rf h2,e⟩
 ·exact⟨e,by rw[lMp];exact h1,vs,rf h2,_,e,rfl,_,rfl⟩
theorem By{c c':Value}{vs us:List Value}(e:(some {cls:=c,data:= .seq vs.toArray}:Option Obj)=some {cls:=c',data:= .seq us.toArray}):c=c'/\vs=us:=by
 have e1:=aX e;have e2:c=c':=congrArg Obj.cls e1;have e3:Data.seq vs.toArray=Data.seq us.toArray:=congrArg Obj.data e1;injection e3 with e4
 refine⟨e2,?_⟩;have e5:=congrArg Array.toList e4;simpa using e5
theorem VM(KX:K.In h)(ar:∀a∈A,sN h A a){a:Addr}{vs:List Value}(ha:a∈A)(e:h.get? a=some {cls:= .type "list",data:= .seq vs.toArray}):(∀u∈vs,MS A u)/\ly K (qQ K h A) a (vs.map toV):=by
 obtain⟨us,h1,h2,h3⟩:=ar a ha;have hu:us=vs:=by
  rcases h3 with q |q
  ·rw[e] at q;exact(By q).2.symm
  ·rw[e] at q;exact absurd (Value.type.inj (By q).1) (by decide)
 subst hu;refine⟨h2,?_⟩;cases hk:K.lookup a with
 |none=>exact .inl (.inr ⟨_,by rw[Bx ha hk e,IM]⟩)
 |some o=>
  have e2:=KX a o hk;rw[e] at e2;obtain rfl:=aX e2;exact .inr ⟨_,us.toArray,_,hk,rfl,rfl,rfl,by rw[aI];exact h1,by simpa using rf h2⟩
theorem VN(KX:K.In h)(ar:∀a∈A,sN h A a){a:Addr}{vs:List Value}(ha:a∈A)(e:h.get? a=some {cls:= .type "tuple",data:= .seq vs.toArray}):(∀u∈vs,MS A u)/\Du K (qQ K h A) a (vs.map toV):=by
 obtain⟨us,h1,h2,h3⟩:=ar a ha;have hu:us=vs:=by
  rcases h3 with q |q
  ·rw[e] at q;exact absurd (Value.type.inj (By q).1) (by decide)
  ·rw[e] at q;exact(By q).2.symm
 subst hu;refine⟨h2,?_⟩;cases hk:K.lookup a with
 |none=>exact .inl (.inr ⟨_,by rw[Bx ha hk e,IP]⟩)
 |some o=>
  have e2:=KX a o hk;rw[e] at e2;obtain rfl:=aX e2;exact .inr ⟨_,us.toArray,_,hk,rfl,rfl,by rw[aI];exact h1,by simpa using rf h2⟩
mutual
theorem SV{Pm:Params}(KX:K.In h)(ar:∀a∈A,sN h A a):∀(d:WData) (v:Value),Well Pm h v d->LM d=true->MS A v->Dw K (qQ K h A) (toV v) d
 | .none,_,x,_,_=>by
  cases x
  exact .jP
 | .bool b,_,x,_,_=>by
  cases x
  exact .bl b
 | .int i,_,x,_,_=>by
  cases x
  exact .int i
 | .str s,_,x,_,_=>by
  cases x
  exact .str s
 | .bytes b,_,x,_,_=>by
  cases x
  have z:=Dw.Fm (K:=K) (H:=qQ K h A) b.toArray;exact z
 | .list ds,_,x,p,hu=>by
  obtain⟨a,vs,rfl,ho,hall⟩:=Fi x;obtain⟨h2,hs⟩:=VM KX ar hu ho;exact .lst hs (GQ KX ar ds _ hall p h2)
 | .tuple ds,_,x,p,hu=>by
  obtain⟨a,vs,rfl,ho,hall⟩:=Dl x;obtain⟨h2,hs⟩:=VN KX ar hu ho;exact .tup hs (GQ KX ar ds _ hall p h2)
 | .float _,_,_,p,_=>Bool.noConfusion (show false=true from p)
 | .dict _,_,_,p,_=>Bool.noConfusion (show false=true from p)
 | .bytearray _,_,_,p,_=>Bool.noConfusion (show false=true from p)
 | .set _,_,_,p,_=>Bool.noConfusion (show false=true from p)
 | .frozenset _,_,_,p,_=>Bool.noConfusion (show false=true from p)
 | .obj _ _,_,_,p,_=>Bool.noConfusion (show false=true from p)
theorem GQ{Pm:Params}(KX:K.In h)(ar:∀a∈A,sN h A a):∀(ds:List WData) (vs:List Value),WellAll Pm h vs ds->A7 ds=true->(∀u∈vs,MS A u)->rd K (qQ K h A) (vs.map toV) ds
 |[],_,x,_,_=>by
  cases x
  exact .nil
 |d::ds,_,x,p,hu=>by
  obtain⟨v,vs,rfl,x1,x2⟩:=Fj x;have q:LM d=true/\A7 ds=true:=Bool.and_eq_true_iff.mp p;exact .cons (SV KX ar d v x1 q.1 (hu _ (ax ..))) (GQ KX ar ds vs x2 q.2 fun u m=>hu u (ak _ m))
end
end
theorem MU{P:Program}{w:World}{K:PySem.W.Frag}{mg mb:Str->Option Value}{CX:Nd}{k:Nat}{fa:Addr}{ps:List Str}{sp:Sp}{s₁:Shared}{vals:List Value}{ds:List WData}{R:PySem.W.WRecords}{cl:Str->Option Addr}{d0:WData}
  (KX:K.In s₁.heap) (hns:s₁.heap.Ns mainGlobals mg) (hb:s₁.heap.Ns builtinsNs mb) (hbb:∀x:Str,x≠"__name__"->mb x=bootBuiltins x) (hlim:s₁.heap.NoLimit) (hg:s₁.gens= #[])
  (hwl:WellAll w.params s₁.heap vals ds) (hpl:A7 ds=true) (hwt:∀d∈ds,d.weight<=1048576) (hr:kg k callerA) (hsee:s₁.heap.NoSeer)
  (F:∀base:Heap,K.In base->base.Ns mainGlobals mg->base.NoSeer->∃fd:FuncData,Binds K fd ps []/\qr P w K mg base CX k fa fd ps sp) (hlen:ds.length=ps.length)
  (hsp:∀(H:Hp) (xs:List V),IL H->rd K H xs ds->sp xs H (fun v H'=>Dw K H' v d0) fun _ _ _=>False)
  (hCX:∀H e s',CX [] H s₁ (fun _ _ _=>False) e s'->False):
  codeAny (model P w) callerA (.call (.ref fa) ⟨vals,[]⟩) (fun r s'=>∃u as,r= .ok (.ret u)/\ReadsW R cl s'.heap u d0 as/\OldK s₁.heap s'.heap/\s'.os=s₁.os/\AllBare s'.gens) s₁:=by
 obtain⟨A,ho,ar⟩:=yz ds vals hwl hpl hwt;have hO:IL (qQ K s₁.heap A):=MT ar;have iI:wQ P w (qQ K s₁.heap A) s₁.heap:=Q4 ar;have hS:=GQ KX ar ds vals hwl hpl ho;have hV:=rf ho;have hK:∀b u,qQ K s₁.heap A b=some u->K.lookup b=none:=fun b u q=>(yA ar q).1
 have noA:∀{b:Addr} {o:Obj} {es:Array DictEntry} {ep:Nat},s₁.heap.get? b=some o->o.data= .dict es ep->qQ K s₁.heap A b=none:=fun{b o es ep} e d=>by
  cases q:qQ K s₁.heap A b with
  |none=>rfl
  |some u=>
   obtain⟨_,vs,_,_,⟨e2,_⟩ |⟨e2,_⟩⟩:=yA ar q
   ·rw[e2] at e;cases e
    have d':Data.seq vs.toArray _=Data.dict es ep:=d;cases d'
   ·rw[e2] at e;cases e
    have d':Data.seq vs.toArray _=Data.dict es ep:=d;cases d'
 have noM:∀{b:Addr} {o:Obj},s₁.heap.get? b=some o->o.cls= .type "module"->qQ K s₁.heap A b=none:=fun{b o} e d=>by
  cases q:qQ K s₁.heap A b with
  |none=>rfl
  |some u=>
   obtain⟨_,vs,_,_,⟨e2,_⟩ |⟨e2,_⟩⟩:=yA ar q
   ·rw[e2] at e;cases e
    exact absurd (Value.type.inj d) (by decide)
   ·rw[e2] at e;cases e
    exact absurd (Value.type.inj d) (by decide)
 generalize qQ K s₁.heap A=H at hO iI hS hK noA noM;have base_of:∀{b:Addr} {o:Obj},s₁.heap.get? b=some o->H b=none->(Dx s₁.heap H).get? b=some o:=fun e n=>Ni e n
 have nsK:∀{b:Addr} {m:Str->Option Value},s₁.heap.Ns b m->(Dx s₁.heap H).Ns b m:=fun{b m} ⟨o,es,ep,e,d,r⟩=>⟨o,es,ep,base_of e (noA e d),d,r⟩
 have nK:∀b o,K.lookup b=some o->H b=none:=fun b o e=>by
  cases q:H b with
  |none=>rfl
  |some u=>
   rw[hK b u q] at e;cases e
 have hKb:K.In (Dx s₁.heap H):=fun b o e=>base_of (KX b o e) (nK b o e)
 have hM:Mod K mg (Dx s₁.heap H):=⟨hKb,nsK hns,⟨mb,nsK hb,hbb⟩,let ⟨mc,h1,h2⟩:=hlim;⟨mc,nsK h1,h2⟩⟩;have e0:Jl P w K mg (Dx s₁.heap H) callerA [] s₁ H:=⟨rfl,hM,fun b o e=>PH e,Nat.le_of_eq (LO _ _),trivial,fun b hb=>absurd (show b∈([]:List Addr) from hb) (by simp),iI,.of_eq hg⟩;have hl:vals.length=ps.length:=by rw[qm hwl];exact hlen
 have hSb:(Dx s₁.heap H).NoSeer:={
  statics:=let ⟨mc,x,y⟩:=hsee.statics;⟨mc,nsK x,y⟩
  mods:=let ⟨mc,x,y⟩:=hsee.mods;⟨mc,nsK x,y⟩
  imp:=let ⟨mc,x,y⟩:=hsee.imp;⟨mc,nsK x,y⟩
  main:=let ⟨mg',bm,ob,x,y,z,u,v⟩:=hsee.main;⟨mg',bm,ob,nsK x,y,base_of z (noM z u),u,v⟩}
 obtain⟨fd,hbind,hF⟩:=F _ hKb (nsK hns) hSb;refine codeAny_mono (hF.run callerA [] s₁ H ⟨vals,[]⟩ vals (vals.map toV) _ _ hr e0 (by have z:=hbind s₁ vals KX (by rw[bU];exact hl);rw[bU] at z;exact z) hV (hsp H _ hO hS)) fun r s' x=> ?_
 cases r with
 |error e=>exact(hCX H e s' x).elim
 |ok fl=>
  cases fl with
  |next=>exact False.elim x
  |brk=>exact False.elim x
  |cont=>exact False.elim x
  |ret u=>
   obtain⟨v,H',os,bare,un,hok',r',q⟩:=x;have kept:∀b o,s₁.heap.get? b=some o->s'.heap.get? b=some o:=fun b o e=>by
    cases q2:H b with
    |none=>exact un.keep b o e q2 (by intro z;exact absurd (show b∈([]:List Addr) from z) (by simp)) (by simp)
    |some u2=>
     rcases hO b with z |⟨ob,u3,z⟩
     ·rw[q2] at z;cases z
     ·have z2:=un.Fo b ob _ z;obtain⟨e1,_⟩:=iI b _ z;obtain⟨e2,_⟩:=hok' b _ z2;rw[e] at e1;cases e1
      exact e2
   have KX':K.In s'.heap:=fun b o e=>kept b o (KX b o e)
   obtain⟨as,hrd⟩:=Dw.reads (R:=R) (cl:=cl) hok' KX' d0 v u q r';exact⟨u,as,rfl,hrd,OldK.of_keep kept,os,bare⟩
theorem Dm{ds:List WData}(h:WData.layableAll ds=true):∀d∈ds,d.weight<=1048576:=fun d hd=>
 (PySem.W.layableW_iff.mp (bD.mp h d hd)).2.2
theorem Dn:∀(cs:List Codec) (a:Codec.denoteAll cs),(Codec.encAll cs a).length=cs.length
 |[],_=>rfl
 |c::cs,a=>by
  show(Codec.encAll cs a.2).length+1=cs.length+1;rw[Dn cs a.2]
theorem MV{r:OpenSpec}{k:Nat}{q:Program}{loose:List Str}{XP:(Str->Option Value)->Heap->Prop}{YP:World->Heap->Prop}{d:DefRec}{K:Params->PySem.W.Frag}{CX:World->Nd}{ps:List Str}{sp:World->Sp}
  (hwell:r.wellSaid=true) (himp:importsNone q=true) (hdf:d.params.defaults=[]) (hlen:r.args.length=ps.length) (hr:kg k callerA)
  (hY:∀(w:World) (h:Heap),YP w h->(K w.params).In h)
  (F:∀(w:World) (mg:Str->Option Value) (fa:Addr) (h:Heap),YP w h->(K w.params).In h->h.Ns mainGlobals mg->mg d.name=some (.ref fa)->
   ∀base:Heap,(K w.params).In base->base.Ns mainGlobals mg->base.NoSeer->∃fd:FuncData,Binds (K w.params) fd ps []/\qr r.prog w (K w.params) mg base (CX w) k fa fd ps (sp w))
  (hsp:∀(w:World) (H:Hp) (xs:List V) (a:Codec.denoteAll r.args),IL H->Codec.withinAll r.args a=true->Codec.app r.args r.asked a=true->rd (K w.params) H xs (Codec.encAll r.args a)->
   sp w xs H (fun v H'=>Dw (K w.params) H' v (r.ret.enc (Codec.app r.args r.f a))) fun _ _ _=>False)
  (hCX:∀(w:World) (H:Hp) (s:Shared) (e:Value) (s':Shared),CX w [] H s (fun _ _ _=>False) e s'->False):
  PySem.W.WalkOS q loose XP YP r d [] (fun f vs=>PySem.call f vs):=by
 intro w D8 s₁ mg mb G Y fa o pm cd doc dV kV ho hd hcd hD hmg hg args vals as hpre hlay hrd hwl hlo;obtain⟨a,e1,e2⟩:=PySem.W.os_pre_some hpre;obtain⟨e3,hwi⟩:=Codec.encAll_of_decAll r.args args a e1;subst e3;have KX:=hY w _ Y;refine PySem.W.enter_call (codeAny_mono (MU (R:=[]) (cl:=classAt D8.heap) (d0:=r.ret.enc (Codec.app r.args r.f a)) KX G.T.g G.T.b G.T.builtins G.T.nolimit hg hwl (Fh _ _) (Dm hlay) hr (G.T.seer himp) (F w mg fa _ Y KX G.T.g hmg) (by rw[Dn];exact hlen)
  (fun H xs hO hS=>hsp w H xs a hO hwi e2 hS) fun H e s'=>hCX w H s₁ e s') fun r' s' hq=> ?_)
 obtain⟨u,as',rfl,h1,h2,h3,h4⟩:=hq;exact⟨.inl ⟨u,_,as',rfl,fun _=>rfl,h1,(OpenSpec.post_iff hwell hwi _ _).mpr rfl,fun z=>Bool.noConfusion (show false=true from z)⟩,h2,h3,h4⟩
end L2
namespace Hj
open PySem PySem.Spec PyProof.Rows L2
open PySem.W (Codec OpenSpec)
noncomputable def d7 (K:PySem.W.Frag) (x:Str) (st:Stmt):Prop:=∃(f:Addr) (oc:Value) (od:Option Addr) (kV doc pm:Value) (an:Option Addr) (cdv ct:Value) (osl:Array (Option Value)),
 PySem.W.nsIn K mainGlobals x=some (some (.ref f))/\K.lookup f=some ⟨oc,od,.func (PySem.W.fnOf x x (jV st) (iM st) (dk st) .none kV doc pm an cdv ct),osl⟩/\PySem.W.codeIn K cdv x=true/\PySem.W.keepIn K (.ref f)=true
noncomputable def fH (K:PySem.W.Frag) (x:Str) (z:Int):Prop:=∃t:Tok,PySem.W.nsIn K mainGlobals x=some (some (.int z t))
noncomputable def sO (K:PySem.W.Frag) (x:Str):Prop:=PySem.W.nsIn K mainGlobals x=some none
noncomputable def IQ (K:PySem.W.Frag) (C:Addr):List Str->Prop
 |[]=>True
 |f::r=>PySem.W.findIn K (.ref C) f=some none/\IQ K C r
noncomputable def kZ (K:PySem.W.Frag) (x qual:Str) (st:Stmt) (fs:List Str):Prop:=∃(C f:Addr) (oc:Value) (od:Option Addr) (kV doc pm:Value) (an:Option Addr) (cdv ct:Value) (osl:Array (Option Value)),
 PySem.W.nsIn K mainGlobals x=some (some (.ref C))/\PySem.W.findIn K (.ref C) "__init__"=some (some (.ref f))/\PySem.W.isFn K (.ref f)=true/\K.lookup f=some ⟨oc,od,.func (PySem.W.fnOf "__init__" qual (jV st) (iM st) (dk st) .none kV doc pm an cdv ct),osl⟩/\PySem.W.codeIn K cdv qual=true/\PySem.W.keepIn K (.ref f)=true/\
 PySem.W.plainGet K C Str.empty=true/\PySem.W.hasDictIn K C=true/\PySem.W.plainOver K C=true/\PySem.W.findIn K (.ref C) "__setattr__"=some (some (.builtin "object.__setattr__"))/\PySem.W.makesIn K C=true/\PySem.W.keepIn K (.ref C)=true/\IQ K C fs
theorem IQ.at_{K:PySem.W.Frag}{C:Addr}:∀{fs:List Str},IQ K C fs->∀f∈fs,nY K C f
 |[],_,f,h=>by cases h
 |g::r,h,f,hf=>by
  rcases aH.mp hf with e |m
  ·rw[e];exact h.1
  ·exact h.2.at_ f m
noncomputable def MW:List Str->(List Value->Prop)->Prop
 |[],P=>P []
 |_::ps,P=>∀a,MW ps fun l=>P (a::l)
theorem MW.of:∀{ps:List Str} {P:List Value->Prop},MW ps P->∀us:List Value,us.length=ps.length->P us
 |[],_,h,[],_=>h
 |_::_,_,h,a::us,e=>MW.of (h a) us (Nat.succ.inj e)
section
variable {K:PySem.W.Frag}{h:Heap}{mg:Str->Option Value}(X:K.In h)(G:h.Ns mainGlobals mg)
include X G
theorem SW{x:Str}{st:Stmt}{ps:List Str}(H:d7 K x st)(hb:∀(kV doc pm:Value) (an:Option Addr) (cdv ct:Value) (us:List Value),us.length=ps.length->bindArgs (PySem.W.fnOf x x (jV st) (iM st) (dk st) .none kV doc pm an cdv ct) ⟨us,[]⟩=pure (ps.zip us)):iN K mg x st ps:=by
 obtain⟨f,oc,od,kV,doc,pm,an,cdv,ct,osl,a,l,c,k⟩:=H;have F:=NO (st:=st) l c k;exact⟨f,_,bh X G a,F,F.binds hb⟩
theorem Q5{x qual:Str}{st:Stmt}{fs ps:List Str}(H:kZ K x qual st fs)(hb:∀(kV doc pm:Value) (an:Option Addr) (cdv ct:Value) (us:List Value),us.length=ps.length->bindArgs (PySem.W.fnOf "__init__" qual (jV st) (iM st) (dk st) .none kV doc pm an cdv ct) ⟨us,[]⟩=pure (ps.zip us)):∃C,GG K mg x qual C st ps/\zB K C fs:=by
 obtain⟨C,f,oc,od,kV,doc,pm,an,cdv,ct,osl,a,i,fn,l,c,k,pg,hd,po,sa,mk,kc,no⟩:=H;have F:=NO (st:=st) l c k;exact⟨C,⟨f,_,bh X G a,⟨mk,i,fn,kc⟩,F,F.binds hb⟩,⟨⟨pg,hd,po,sa⟩,no.at_⟩⟩
theorem jf{x:Str}{st:Stmt}{ps:List Str}(H:d7 K x st)(hb:∀(kV doc pm:Value) (an:Option Addr) (cdv ct:Value),MW ps fun us=>bindArgs (PySem.W.fnOf x x (jV st) (iM st) (dk st) .none kV doc pm an cdv ct) ⟨us,[]⟩=pure (ps.zip us)):iN K mg x st ps:=SW X G H fun a b c d e f us hl=>(hb a b c d e f).of us hl
theorem Pr{x qual:Str}{st:Stmt}{fs ps:List Str}(H:kZ K x qual st fs)(hb:∀(kV doc pm:Value) (an:Option Addr) (cdv ct:Value),MW ps fun us=>bindArgs (PySem.W.fnOf "__init__" qual (jV st) (iM st) (dk st) .none kV doc pm an cdv ct) ⟨us,[]⟩=pure (ps.zip us)):∃C,GG K mg x qual C st ps/\zB K C fs:=Q5 X G H fun a b c d e f us hl=>(hb a b c d e f).of us hl
theorem fZ{x:Str}{z:Int}(H:fH K x z):∃t,mg x=some (.int z t):=let ⟨t,e⟩:=H;⟨t,bh X G e⟩
theorem uM{x:Str}(H:sO K x):mg x=none:=PySem.W.mg_none_of X G H
end
noncomputable def GR (K:PySem.W.Frag):Prop:=∃(ta:Addr) (od:Option Addr) (n:Nat) (sl:Array (Option Value)) (f0 f1 f2 f3 f4 f5 f6 f7 f8 f9 f10 f11 f12 f13:Addr),PySem.W.nsIn K mainGlobals "LAWS_OF_KIND"=some (some (.ref ta))/\K.lookup ta=some ⟨.type "tuple",od,.seq #[.ref f0,.ref f1,.ref f2,.ref f3,.ref f4,.ref f5,.ref f6,.ref f7,.ref f8,.ref f9,.ref f10,.ref f11,.ref f12,.ref f13] n,sl⟩/\PySem.W.nsIn K mainGlobals "resistor_laws"=some (some (.ref f0))/\PySem.W.nsIn K mainGlobals "capacitor_laws"=some (some (.ref f1))/\PySem.W.nsIn K mainGlobals "coil_laws"=some (some (.ref f2))/\PySem.W.nsIn K mainGlobals "coupling_laws"=some (some (.ref f3))/\PySem.W.nsIn K mainGlobals "voltage_source_laws"=some (some (.ref f4))/\PySem.W.nsIn K mainGlobals "current_source_laws"=some (some (.ref f5))/\PySem.W.nsIn K mainGlobals "voltage_by_voltage_laws"=some (some (.ref f6))/\PySem.W.nsIn K mainGlobals "current_by_voltage_laws"=some (some (.ref f7))/\PySem.W.nsIn K mainGlobals "voltage_by_current_laws"=some (some (.ref f8))/\PySem.W.nsIn K mainGlobals "current_by_current_laws"=some (some (.ref f9))/\PySem.W.nsIn K mainGlobals "transformer_laws"=some (some (.ref f10))/\PySem.W.nsIn K mainGlobals "amplifier_laws"=some (some (.ref f11))/\PySem.W.nsIn K mainGlobals "switch_laws"=some (some (.ref f12))/\PySem.W.nsIn K mainGlobals "diode_laws"=some (some (.ref f13))
theorem fH.mk{K:PySem.W.Frag}{x:Str}{z:Int}{t:Tok}(a:PySem.W.nsIn K mainGlobals x=some (some (.int z t))):fH K x z:=⟨t,a⟩
theorem d7.mk{K:PySem.W.Frag}{x:Str}{st:Stmt}{f:Addr}{oc:Value}{od:Option Addr}{kV doc pm:Value}{an:Option Addr}{cdv ct:Value}{osl:Array (Option Value)}
  (a:PySem.W.nsIn K mainGlobals x=some (some (.ref f))) (l:K.lookup f=some ⟨oc,od,.func (PySem.W.fnOf x x (jV st) (iM st) (dk st) .none kV doc pm an cdv ct),osl⟩) (c:PySem.W.codeIn K cdv x=true) (k:PySem.W.keepIn K (.ref f)=true):d7 K x st:=⟨f,oc,od,kV,doc,pm,an,cdv,ct,osl,a,l,c,k⟩
theorem kZ.mk{K:PySem.W.Frag}{x qual:Str}{st:Stmt}{fs:List Str}{C f:Addr}{oc:Value}{od:Option Addr}{kV doc pm:Value}{an:Option Addr}{cdv ct:Value}{osl:Array (Option Value)}
  (a:PySem.W.nsIn K mainGlobals x=some (some (.ref C))) (i:PySem.W.findIn K (.ref C) "__init__"=some (some (.ref f))) (fn:PySem.W.isFn K (.ref f)=true) (l:K.lookup f=some ⟨oc,od,.func (PySem.W.fnOf "__init__" qual (jV st) (iM st) (dk st) .none kV doc pm an cdv ct),osl⟩) (c:PySem.W.codeIn K cdv qual=true) (k:PySem.W.keepIn K (.ref f)=true)
  (pg:PySem.W.plainGet K C Str.empty=true) (hd:PySem.W.hasDictIn K C=true) (po:PySem.W.plainOver K C=true) (sa:PySem.W.findIn K (.ref C) "__setattr__"=some (some (.builtin "object.__setattr__"))) (mk:PySem.W.makesIn K C=true) (kc:PySem.W.keepIn K (.ref C)=true) (no:IQ K C fs):kZ K x qual st fs:=
 ⟨C,f,oc,od,kV,doc,pm,an,cdv,ct,osl,a,i,fn,l,c,k,pg,hd,po,sa,mk,kc,no⟩
theorem GR.mk{K:PySem.W.Frag}{ta:Addr}{od:Option Addr}{n:Nat}{sl:Array (Option Value)}{f0 f1 f2 f3 f4 f5 f6 f7 f8 f9 f10 f11 f12 f13:Addr}(a:PySem.W.nsIn K mainGlobals "LAWS_OF_KIND"=some (some (.ref ta)))(l:K.lookup ta=some ⟨.type "tuple",od,.seq #[.ref f0,.ref f1,.ref f2,.ref f3,.ref f4,.ref f5,.ref f6,.ref f7,.ref f8,.ref f9,.ref f10,.ref f11,.ref f12,.ref f13] n,sl⟩)(t0:PySem.W.nsIn K mainGlobals "resistor_laws"=some (some (.ref f0)))(t1:PySem.W.nsIn K mainGlobals "capacitor_laws"=some (some (.ref f1)))(t2:PySem.W.nsIn K mainGlobals "coil_laws"=some (some (.ref f2)))(t3:PySem.W.nsIn K mainGlobals "coupling_laws"=some (some (.ref f3)))(t4:PySem.W.nsIn K mainGlobals "voltage_source_laws"=some (some (.ref f4)))(t5:PySem.W.nsIn K mainGlobals "current_source_laws"=some (some (.ref f5)))(t6:PySem.W.nsIn K mainGlobals "voltage_by_voltage_laws"=some (some (.ref f6)))(t7:PySem.W.nsIn K mainGlobals "current_by_voltage_laws"=some (some (.ref f7)))(t8:PySem.W.nsIn K mainGlobals "voltage_by_current_laws"=some (some (.ref f8)))(t9:PySem.W.nsIn K mainGlobals "current_by_current_laws"=some (some (.ref f9)))(t10:PySem.W.nsIn K mainGlobals "transformer_laws"=some (some (.ref f10)))(t11:PySem.W.nsIn K mainGlobals "amplifier_laws"=some (some (.ref f11)))(t12:PySem.W.nsIn K mainGlobals "switch_laws"=some (some (.ref f12)))(t13:PySem.W.nsIn K mainGlobals "diode_laws"=some (some (.ref f13))):GR K:=
 ⟨ta,od,n,sl,f0,f1,f2,f3,f4,f5,f6,f7,f8,f9,f10,f11,f12,f13,a,l,t0,t1,t2,t3,t4,t5,t6,t7,t8,t9,t10,t11,t12,t13⟩
theorem lg{P:Program}{w:World}{K:PySem.W.Frag}{mg:Str->Option Value}{base:Heap}{c:Cs}{x:Str}{k i:Nat}{f:Addr}{kd:c9.lh->Nat->Prop}{F:c9.lh->Nat->List (List (Int×List Int))}(C:eV P w K mg base x ["setting","k"] k (jB c kd F))(hk:k<=5)(hf:mg x=some (.ref f))(h1:∀g k,(pat g k).kind=(i:Int)->LK g k->kd g k)(h2:∀g k,(pat g k).kind=(i:Int)->c9.fQ g k=F g k):∃fd,qr P w K mg base KR 5 f fd ["setting","k"] (Pa c i)/\PySem.W.keepIn K (.ref f)=true/\Binds K fd ["setting","k"] []:=by
 obtain⟨f',fd,hm,ok,kp,b⟩:=C.ex;rw[hf] at hm;cases hm
 refine⟨fd,(ok.mono hk).imp ?_,kp,b⟩;rintro vs H Q E ⟨v,g,k,e,hg,so,hl,⟨hi,li⟩,nl⟩;refine⟨v,g,k,e,hg,so,hl,h1 g k hi li,?_⟩;rw[<-h2 g k hi];exact nl
theorem ib{g:c9.lh}{k i:Nat}(h:(pat g k).kind=(i:Int)):(g.dZ.c8.getD k c9.p0).kind.toNat=i:=by
 show(pat g k).kind.toNat=i;rw[h,a8]
structure Wb(K:PySem.W.Frag):Prop where
 gV:sO K "len"
 CB:sO K "list"
 Ih:sO K "max"
 OU:sO K "sum"
 Ii:sO K "all"
 LD:sO K "any"
 Ij:sO K "abs"
 jY:sO K "range"
 hZ:sO K "enumerate"
 OV:sO K "zip"
 vW:sO K "reversed"
 wb:fH K "RESISTOR" 0
 uv:fH K "CAPACITOR" 1
 Gy:fH K "COIL" 2
 iR:fH K "COUPLING" 3
 lZ:fH K "VOLTAGE_SOURCE" 4
 l5:fH K "CURRENT_SOURCE" 5
 jx:fH K "VOLTAGE_BY_VOLTAGE" 6
 jy:fH K "CURRENT_BY_VOLTAGE" 7
 jz:fH K "VOLTAGE_BY_CURRENT" 8
 jA:fH K "CURRENT_BY_CURRENT" 9
 i5:fH K "TRANSFORMER" 10
 pZ:fH K "AMPLIFIER" 11
 CI:fH K "SWITCH" 12
 u9:fH K "DIODE" 13
 uw:fH K "LAST_KIND" 13
 oW:fH K "NO_FAULT" 0
 sd:fH K "WRONG_NODE" 1
 kK:fH K "WRONG_NUMBER" 2
 ia:fH K "WRONG_REFERENCE" 3
 sf:fH K "MOST_NODES" 8
 sj:fH K "MOST_PARTS" 10
 qL:fH K "MOST_DIODES" 3
 gC:fH K "NUMBERS_OF_A_PART" 7
 sk:fH K "LAST_PLACE" 63
 wB:fH K "MOST_TOP" 1000000
 qM:fH K "MOST_BOTTOM" 1000000
 jC:fH K "NODES_OF_TWO_PORTS" 4
 IS:d7 K "part_rows" qj
 DR:d7 K "is_part_row" mG
 zS:d7 K "is_network_row" iE
 Dp:d7 K "read_network" kW
 Km:d7 K "nodes_of" wC
 yB:d7 K "may_have_number" kN
 GS:d7 K "may_follow" sr
 zT:d7 K "is_coil_before" mq
 MX:d7 K "couples" zP
 sQ:d7 K "is_coupled_too_much" jd
 zU:d7 K "coupling_fault" jI
 Kn:d7 K "fault_of" sy
 DS:d7 K "first_fault" qN
 zV:d7 K "refusal_of_net" mv
 zW:d7 K "rows_of_states" mh
 DT:d7 K "currents_of" qB
 zX:d7 K "current_places" l6
 DU:d7 K "unknowns_of" mE
 Ko:d7 K "constant" vX
 GU:d7 K "multiplied" rM
 Pt:d7 K "scaled" xN
 Dq:d7 K "times_number" oC
 yC:d7 K "voltage_between" kq
 GV:d7 K "voltage_of" rQ
 GW:d7 K "current_of" rT
 A8:d7 K "resistor_laws" m6
 zY:d7 K "capacitor_laws" l9
 DV:d7 K "coil_shares" qD
 IT:d7 K "coil_laws" uB
 A9:d7 K "coupling_laws" m8
 Dr:d7 K "set_to_drive" oE
 sR:d7 K "voltage_source_laws" ja
 sS:d7 K "current_source_laws" jb
 sU:d7 K "controlling_voltage" i9
 ph:d7 K "voltage_by_voltage_laws" gY
 pj:d7 K "current_by_voltage_laws" gZ
 pw:d7 K "voltage_by_current_laws" g4
 pC:d7 K "current_by_current_laws" g5
 wL:d7 K "transformer_laws" j5
 zZ:d7 K "amplifier_laws" ma
 DW:d7 K "switch_laws" qC
 GX:d7 K "diode_laws" rZ
 IU:d7 K "node_laws" qe
 MY:d7 K "trimmed" zo
 Q6:d7 K "added" Gs
 Pu:d7 K "row_of" xM
 Kp:d7 K "law_rows" r6
 yD:d7 K "row_to_solve_by" kr
 MZ:d7 K "negated" u6
 GY:d7 K "subtracted" rL
 M0:d7 K "divided" zy
 DX:d7 K "cleared_row" qG
 M1:d7 K "cleared" zL
 Pw:d7 K "solved" uH
 DY:d7 K "constant_of" qy
 DZ:d7 K "current_top" qI
 Kq:d7 K "node_top" wu
 z3:d7 K "difference_top" me
 D6:d7 K "voltage_top" qJ
 Ds:d7 K "diode_agrees" oT
 wM:d7 K "all_diodes_agree" iT
 yE:d7 K "operating_point" jm
 Dt:d7 K "with_sources" kX
 z4:d7 K "driven_setting" jH
 Kr:d7 K "put_into" wI
 wN:d7 K "greatest_divisor" j0
 M3:d7 K "content" zx
 IV:d7 K "primitive" mP
 yF:d7 K "whole_remainder" h9
 z5:d7 K "common_divisor" lV
 yG:d7 K "told_polynomial" jk
 Ba:d7 K "told_quotient" mZ
 Px:d7 K "told_z" Dh
 Py:d7 K "told_y" Di
 SX:d7 K "port" Kl
 SY:kZ K "Part" "Part.__init__" uE ["kind","a","b","c","d","top","bottom"]
 M4:kZ K "Network" "Network.__init__" oP ["last_node","parts"]
 M5:kZ K "Setting" "Setting.__init__" oQ ["network","s","states","drives","places","width"]
 Ks:kZ K "Solution" "Solution.__init__" m9 ["determinant","tops"]
 z8:kZ K "OperatingPoint" "OperatingPoint.__init__" jc ["states","solution"]
 tab:GR K
theorem all_mk{P:Program}{w:World}{K:PySem.W.Frag}{h:Heap}{mg:Str->Option Value}{fa:Addr}(htree:P.given.tree=none)(X:K.In h)(G:h.Ns mainGlobals mg)(hfa:mg "port"=some (.ref fa))(W:Wb K):
  ∀base:Heap,K.In base->base.Ns mainGlobals mg->base.NoSeer->∃fd:FuncData,Binds K fd ["kind","row","col","net","nodes"] []/\qr P w K mg base KR 45 fa fd ["kind","row","col","net","nodes"] (yy K):=by
 have T:QY mg:=⟨⟨⟨⟨⟨uM X G W.gV,uM X G W.CB,uM X G W.Ih,uM X G W.OU,uM X G W.Ii,uM X G W.LD,uM X G W.Ij,uM X G W.jY,uM X G W.hZ,uM X G W.OV,uM X G W.vW⟩,fZ X G W.wb,fZ X G W.uv,fZ X G W.Gy,fZ X G W.iR,fZ X G W.lZ,fZ X G W.l5,fZ X G W.jx,fZ X G W.jy,fZ X G W.jz,fZ X G W.jA,fZ X G W.i5,fZ X G W.pZ,fZ X G W.CI,fZ X G W.u9,fZ X G W.uw⟩⟩,fZ X G W.oW,fZ X G W.sd,fZ X G W.kK,fZ X G W.ia,fZ X G W.sf,fZ X G W.sj,fZ X G W.qL,fZ X G W.gC,fZ X G W.sk,fZ X G W.wB,fZ X G W.qM⟩,fZ X G W.jC⟩;obtain⟨Pz,S1,S3⟩:=Pr (ps:=["self","numbers"]) X G W.SY fun _ _ _ _ _ _ _ _=>rfl
 obtain⟨M6,M7,M8⟩:=Pr (ps:=["self","last_node","parts"]) X G W.M4 fun _ _ _ _ _ _ _ _ _=>rfl
 obtain⟨M9,Na,Nb⟩:=Pr (ps:=["self","network","s","states","drives"]) X G W.M5 fun _ _ _ _ _ _ _ _ _ _ _=>rfl
 obtain⟨Kt,Ku,Kv⟩:=Pr (ps:=["self","determinant","tops"]) X G W.Ks fun _ _ _ _ _ _ _ _ _=>rfl
 obtain⟨z9,Aa,Ab⟩:=Pr (ps:=["self","states","solution"]) X G W.z8 fun _ _ _ _ _ _ _ _ _=>rfl
 let c:Cs:=⟨Pz,M6,M9,Kt,z9,Pz⟩;have O:gr K c:=⟨S3,M8,Nb,Kv,Ab⟩;obtain⟨ta,od,tn,sl,f0,f1,f2,f3,f4,f5,f6,f7,f8,f9,f10,f11,f12,f13,hT,lT,t0,t1,t2,t3,t4,t5,t6,t7,t8,t9,t10,t11,t12,t13⟩:=W.tab;have big:∀base:Heap,K.In base->base.Ns mainGlobals mg->base.NoSeer->eV P w K mg base "port" ["kind","row","col","net","nodes"] 45 (yy K):=fun base _ _ hno=>by
  have j8:=GK (P:=P) (w:=w) (base:=base) T.toTxt4 (jf X G W.IS fun _ _ _ _ _ _ _=>rfl);have qO:=Df (P:=P) (w:=w) (base:=base) T.toTxt4 (jf X G W.DR fun _ _ _ _ _ _ _=>rfl);have mw:=yt (P:=P) (w:=w) (base:=base) T.toTxt4 j8 qO (jf X G W.zS fun _ _ _ _ _ _ _=>rfl);have zR:=QS (P:=P) (w:=w) (base:=base) O.part S1;have nW:=Kc (P:=P) (w:=w) (base:=base) O.dZ M7;have iG:=A4 (P:=P) (w:=w) (base:=base) T.toTxt4 O j8 zR nW (jf X G W.Dp fun _ _ _ _ _ _ _=>rfl);have wG:=IC (P:=P) (w:=w) (base:=base) T.toTxt4.toTxt3.toTxt2 O (jf X G W.Km fun _ _ _ _ _ _ _=>rfl);have kQ:=wF (P:=P) (w:=w) (base:=base) T.toTxt4.toTxt3.toTxt2 O (jf X G W.yB fun _ _ _ _ _ _ _=>rfl);have sC:=DQ (P:=P) (w:=w) (base:=base) T.toTxt4.toTxt3.toTxt2 O (jf X G W.GS fun _ _ _ _ _ _ _ _=>rfl);have jJ:=yn (P:=P) (w:=w) (base:=base) T.toTxt4.toTxt3.toTxt2 O (jf X G W.zT fun _ _ _ _ _ _ _ _ _=>rfl);have zQ:=Ki (P:=P) (w:=w) (base:=base) T.toTxt4.toTxt3.toTxt2 O (jf X G W.MX fun _ _ _ _ _ _ _ _ _=>rfl);have je:=sv (P:=P) (w:=w) (base:=base) O (jf X G W.sQ fun _ _ _ _ _ _ _ _ _=>rfl);have mr:=yp (P:=P) (w:=w) (base:=base) T.toTxt4 O jJ zQ je (jf X G W.zU fun _ _ _ _ _ _ _ _=>rfl);have wH:=IF (P:=P) (w:=w) (base:=base) T.toTxt4 O wG kQ sC mr (jf X G W.Kn fun _ _ _ _ _ _ _ _=>rfl);have qP:=Dd (P:=P) (w:=w) (base:=base) T.toTxt4 O wH (jf X G W.DS fun _ _ _ _ _ _ _=>rfl);have mx:=yw (P:=P) (w:=w) (base:=base) T.toTxt4 mw iG qP (jf X G W.zV fun _ _ _ _ _ _ _=>rfl);have mi:=yk (P:=P) (w:=w) (base:=base) T.toTxt4.toTxt3.toTxt2 O (jf X G W.zW fun _ _ _ _ _ _ _=>rfl);have i6:=CK (P:=P) (w:=w) (base:=base) T.toTxt4.toTxt3.toTxt2 O (jf X G W.DT fun _ _ _ _ _ _ _=>rfl);have md:=xK (P:=P) (w:=w) (base:=base) T.toTxt4.toTxt3.toTxt2 O i6 (jf X G W.zX fun _ _ _ _ _ _ _=>rfl);have qF:=CN (P:=P) (w:=w) (base:=base) T.toTxt4.toTxt3.toTxt2 O i6 (jf X G W.DU fun _ _ _ _ _ _ _=>rfl);have nV:=Kd (P:=P) (w:=w) (base:=base) O md qF Na;have gB:=Il (P:=P) (w:=w) (base:=base) (jf X G W.Ko fun _ _ _ _ _ _ _=>rfl);have iS:=DI (P:=P) (w:=w) (base:=base) T.toTxt4.toTxt3.toTxt2.toTxt (jf X G W.GU fun _ _ _ _ _ _ _ _=>rfl);have fW:=MI (P:=P) (w:=w) (base:=base) iS (jf X G W.Pt fun _ _ _ _ _ _ _ _=>rfl);have dP:=AV (P:=P) (w:=w) (base:=base) O gB fW (jf X G W.Dq fun _ _ _ _ _ _ _ _ _=>rfl);have gx:=we (P:=P) (w:=w) (base:=base) (jf X G W.yC fun _ _ _ _ _ _ _ _=>rfl);have d3:=DK (P:=P) (w:=w) (base:=base) O gx (jf X G W.GV fun _ _ _ _ _ _ _=>rfl);have dI:=DM (P:=P) (w:=w) (base:=base) O (jf X G W.GW fun _ _ _ _ _ _ _ _=>rfl);have Bb:=zF (P:=P) (w:=w) (base:=base) O dP d3 dI (jf X G W.A8 fun _ _ _ _ _ _ _ _=>rfl);have Ac:=xQ (P:=P) (w:=w) (base:=base) O dP d3 dI fW (jf X G W.zY fun _ _ _ _ _ _ _ _=>rfl);have qE:=CV (P:=P) (w:=w) (base:=base) T.toTxt4.toTxt3.toTxt2 O (jf X G W.DV fun _ _ _ _ _ _ _ _=>rfl);have IW:=GB (P:=P) (w:=w) (base:=base) O qE d3 dI fW gB (jf X G W.IT fun _ _ _ _ _ _ _ _=>rfl);have Bc:=zH (P:=P) (w:=w) (base:=base) (c:=c) (jf X G W.A9 fun _ _ _ _ _ _ _ _=>rfl);have iD:=AX (P:=P) (w:=w) (base:=base) O gB fW (jf X G W.Dr fun _ _ _ _ _ _ _ _ _=>rfl);have gU:=rW (P:=P) (w:=w) (base:=base) O iD d3 (jf X G W.sR fun _ _ _ _ _ _ _ _=>rfl);have sV:=rY (P:=P) (w:=w) (base:=base) O iD dI (jf X G W.sS fun _ _ _ _ _ _ _ _=>rfl);have d4:=rS (P:=P) (w:=w) (base:=base) O gx (jf X G W.sU fun _ _ _ _ _ _ _=>rfl);have pE:=oG (P:=P) (w:=w) (base:=base) O dP d3 d4 (jf X G W.ph fun _ _ _ _ _ _ _ _=>rfl);have pF:=oI (P:=P) (w:=w) (base:=base) O dP dI d4 (jf X G W.pj fun _ _ _ _ _ _ _ _=>rfl);have pI:=oK (P:=P) (w:=w) (base:=base) O dP d3 dI (jf X G W.pw fun _ _ _ _ _ _ _ _=>rfl);have pJ:=oN (P:=P) (w:=w) (base:=base) O dP dI (jf X G W.pC fun _ _ _ _ _ _ _ _=>rfl);have wO:=vi (P:=P) (w:=w) (base:=base) O dP d3 d4 dI fW (jf X G W.wL fun _ _ _ _ _ _ _ _=>rfl);have Ad:=xS (P:=P) (w:=w) (base:=base) O d4 (jf X G W.zZ fun _ _ _ _ _ _ _ _=>rfl);have D7:=CS (P:=P) (w:=w) (base:=base) O dI d3 (jf X G W.DW fun _ _ _ _ _ _ _ _=>rfl);have GZ:=DO (P:=P) (w:=w) (base:=base) O gU dI (jf X G W.GX fun _ _ _ _ _ _ _ _=>rfl);have uC:=GF (P:=P) (w:=w) (base:=base) T.toTxt4.toTxt3.toTxt2 O (jf X G W.IU fun _ _ _ _ _ _ _=>rfl)
  have zq:=J1 (P:=P) (w:=w) (base:=base) T.toTxt4.toTxt3.toTxt2.toTxt (jf X G W.MY fun _ _ _ _ _ _ _=>rfl);have u7:=OX (P:=P) (w:=w) (base:=base) T.toTxt4.toTxt3.toTxt2.toTxt zq (jf X G W.Q6 fun _ _ _ _ _ _ _ _=>rfl);have CW:=MG (P:=P) (w:=w) (base:=base) T.toTxt4.toTxt3.toTxt2 u7 (jf X G W.Pu fun _ _ _ _ _ _ _ _=>rfl);have L:Pb P w K mg base c ta [f0,f1,f2,f3,f4,f5,f6,f7,f8,f9,f10,f11,f12,f13]:=by
   refine⟨bh X G hT,fun H=> .inr ⟨_,#[.ref f0,.ref f1,.ref f2,.ref f3,.ref f4,.ref f5,.ref f6,.ref f7,.ref f8,.ref f9,.ref f10,.ref f11,.ref f12,.ref f13],tn,lT,rfl,rfl,di (by show 14<=16777216;decide),?_⟩,fun i hi=> ?_⟩
   ·exact .cons rfl (.cons rfl (.cons rfl (.cons rfl (.cons rfl (.cons rfl (.cons rfl (.cons rfl (.cons rfl (.cons rfl (.cons rfl (.cons rfl (.cons rfl (.cons rfl (.nil))))))))))))))
   ·have hi14:i=0\/i=1\/i=2\/i=3\/i=4\/i=5\/i=6\/i=7\/i=8\/i=9\/i=10\/i=11\/i=12\/i=13:=by omega
    rcases hi14 with rfl |rfl |rfl |rfl |rfl |rfl |rfl |rfl |rfl |rfl |rfl |rfl |rfl |rfl
    ·obtain⟨fd,x1,x2,x3⟩:=lg (i:=0) Bb (by decide) (bh X G t0) (fun g k hi li=>trivial) (fun g k hi=>by unfold c9.fQ;dsimp only;rw[ib hi] <;>rfl);exact⟨f0,fd,rfl,x1,x2,x3⟩
    ·obtain⟨fd,x1,x2,x3⟩:=lg (i:=1) Ac (by decide) (bh X G t1) (fun g k hi li=>trivial) (fun g k hi=>by unfold c9.fQ;dsimp only;rw[ib hi] <;>rfl);exact⟨f1,fd,rfl,x1,x2,x3⟩
    ·obtain⟨fd,x1,x2,x3⟩:=lg (i:=2) IW (by decide) (bh X G t2) (fun g k hi li=>li.Vs hi) (fun g k hi=>by unfold c9.fQ;dsimp only;rw[ib hi] <;>rfl);exact⟨f2,fd,rfl,x1,x2,x3⟩
    ·obtain⟨fd,x1,x2,x3⟩:=lg (i:=3) Bc (by decide) (bh X G t3) (fun g k hi li=>trivial) (fun g k hi=>by unfold c9.fQ;dsimp only;rw[ib hi] <;>rfl);exact⟨f3,fd,rfl,x1,x2,x3⟩
    ·obtain⟨fd,x1,x2,x3⟩:=lg (i:=4) gU (by decide) (bh X G t4) (fun g k hi li=>trivial) (fun g k hi=>by unfold c9.fQ;dsimp only;rw[ib hi] <;>rfl);exact⟨f4,fd,rfl,x1,x2,x3⟩
    ·obtain⟨fd,x1,x2,x3⟩:=lg (i:=5) sV (by decide) (bh X G t5) (fun g k hi li=>trivial) (fun g k hi=>by unfold c9.fQ;dsimp only;rw[ib hi] <;>rfl);exact⟨f5,fd,rfl,x1,x2,x3⟩
    ·obtain⟨fd,x1,x2,x3⟩:=lg (i:=6) pE (by decide) (bh X G t6) (fun g k hi li=>trivial) (fun g k hi=>by unfold c9.fQ;dsimp only;rw[ib hi] <;>rfl);exact⟨f6,fd,rfl,x1,x2,x3⟩
    ·obtain⟨fd,x1,x2,x3⟩:=lg (i:=7) pF (by decide) (bh X G t7) (fun g k hi li=>trivial) (fun g k hi=>by unfold c9.fQ;dsimp only;rw[ib hi] <;>rfl);exact⟨f7,fd,rfl,x1,x2,x3⟩
    ·obtain⟨fd,x1,x2,x3⟩:=lg (i:=8) pI (by decide) (bh X G t8) (fun g k hi li=>li.ref (.inl hi)) (fun g k hi=>by unfold c9.fQ;dsimp only;rw[ib hi] <;>rfl);exact⟨f8,fd,rfl,x1,x2,x3⟩
    ·obtain⟨fd,x1,x2,x3⟩:=lg (i:=9) pJ (by decide) (bh X G t9) (fun g k hi li=>li.ref (.inr hi)) (fun g k hi=>by unfold c9.fQ;dsimp only;rw[ib hi] <;>rfl);exact⟨f9,fd,rfl,x1,x2,x3⟩
    ·obtain⟨fd,x1,x2,x3⟩:=lg (i:=10) wO (by decide) (bh X G t10) (fun g k hi li=>trivial) (fun g k hi=>by unfold c9.fQ;dsimp only;rw[ib hi] <;>rfl);exact⟨f10,fd,rfl,x1,x2,x3⟩
    ·obtain⟨fd,x1,x2,x3⟩:=lg (i:=11) Ad (by decide) (bh X G t11) (fun g k hi li=>trivial) (fun g k hi=>by unfold c9.fQ;dsimp only;rw[ib hi] <;>rfl);exact⟨f11,fd,rfl,x1,x2,x3⟩
    ·obtain⟨fd,x1,x2,x3⟩:=lg (i:=12) D7 (by decide) (bh X G t12) (fun g k hi li=>trivial) (fun g k hi=>by unfold c9.fQ;dsimp only;rw[ib hi] <;>rfl);exact⟨f12,fd,rfl,x1,x2,x3⟩
    ·obtain⟨fd,x1,x2,x3⟩:=lg (i:=13) GZ (by decide) (bh X G t13) (fun g k hi li=>trivial) (fun g k hi=>by unfold c9.fQ;dsimp only;rw[ib hi] <;>rfl);exact⟨f13,fd,rfl,x1,x2,x3⟩
  have iU:=Ir (P:=P) (w:=w) (base:=base) T.toTxt4.toTxt3.toTxt2 O L uC CW (jf X G W.Kp fun _ _ _ _ _ _ _=>rfl);have ks:=wj (P:=P) (w:=w) (base:=base) T.toTxt4.toTxt3.toTxt2 (jf X G W.yD fun _ _ _ _ _ _ _ _=>rfl);have nS:=J3 (P:=P) (w:=w) (base:=base) (jf X G W.MZ fun _ _ _ _ _ _ _=>rfl);have gH:=DG (P:=P) (w:=w) (base:=base) nS u7 (jf X G W.GY fun _ _ _ _ _ _ _ _=>rfl);have lY:=J7 (P:=P) (w:=w) (base:=base) T.toTxt4.toTxt3.toTxt2.toTxt (jf X G W.M0 fun _ _ _ _ _ _ _ _=>rfl);have qH:=C0 (P:=P) (w:=w) (base:=base) T.toTxt4.toTxt3.toTxt2 iS gH lY (jf X G W.DX fun _ _ _ _ _ _ _ _ _ _=>rfl);have zM:=Kf (P:=P) (w:=w) (base:=base) T.toTxt4.toTxt3.toTxt2 qH (jf X G W.M1 fun _ _ _ _ _ _ _ _ _=>rfl);have wq:=Iu (P:=P) (w:=w) (base:=base) O.sol Ku;have kJ:=ML (P:=P) (w:=w) (base:=base) T.toTxt4.toTxt3.toTxt2 O ks zM wq (jf X G W.Pw fun _ _ _ _ _ _ _=>rfl);have jU:=CH (P:=P) (w:=w) (base:=base) (jf X G W.DY fun _ _ _ _ _ _ _=>rfl);have i7:=C5 (P:=P) (w:=w) (base:=base) O (jf X G W.DZ fun _ _ _ _ _ _ _ _ _=>rfl);have r9:=Iz (P:=P) (w:=w) (base:=base) O (jf X G W.Kq fun _ _ _ _ _ _ _ _=>rfl);have gK:=xZ (P:=P) (w:=w) (base:=base) r9 gH (jf X G W.z3 fun _ _ _ _ _ _ _ _ _=>rfl);have qK:=C8 (P:=P) (w:=w) (base:=base) O gK (jf X G W.D6 fun _ _ _ _ _ _ _ _ _=>rfl);have oU:=A2 (P:=P) (w:=w) (base:=base) O jU i7 qK (jf X G W.Ds fun _ _ _ _ _ _ _ _ _=>rfl);have j6:=vk (P:=P) (w:=w) (base:=base) T.toTxt4.toTxt3.toTxt2 O oU (jf X G W.wM fun _ _ _ _ _ _ _ _=>rfl);have mj:=xX (P:=P) (w:=w) (base:=base) O.pt Aa;have kY:=wA (P:=P) (w:=w) (base:=base) T.toTxt4.toTxt3.toTxt2 O mi nV iU kJ j6 mj (jf X G W.yE fun _ _ _ _ _ _ _=>rfl);have iH:=A6 (P:=P) (w:=w) (base:=base) O zR nW (jf X G W.Dt fun _ _ _ _ _ _ _ _ _=>rfl);have gL:=yd (P:=P) (w:=w) (base:=base) T.toTxt4.toTxt3.toTxt2 O nV (jf X G W.z4 fun _ _ _ _ _ _ _ _ _=>rfl);have wJ:=IJ (P:=P) (w:=w) (base:=base) T O iH gL iU kJ (jf X G W.Kr fun _ _ _ _ _ _ _ _ _=>rfl);have fY:=vg (P:=P) (w:=w) (base:=base) T.toTxt4.toTxt3.toTxt2.toTxt (jf X G W.wN fun _ _ _ _ _ _ _ _=>rfl);have lU:=J5 (P:=P) (w:=w) (base:=base) fY (jf X G W.M3 fun _ _ _ _ _ _ _=>rfl);have mQ:=Gv (P:=P) (w:=w) (base:=base) hno htree lU (jf X G W.IV fun _ _ _ _ _ _ _=>rfl);have kn:=wa (P:=P) (w:=w) (base:=base) T.toTxt4.toTxt3.toTxt2.toTxt gH (jf X G W.yF fun _ _ _ _ _ _ _ _=>rfl);have lX:=xI (P:=P) (w:=w) (base:=base) mQ kn (jf X G W.z5 fun _ _ _ _ _ _ _ _=>rfl);have jl:=v7 (P:=P) (w:=w) (base:=base) T.toTxt4.toTxt3.toTxt2.toTxt (jf X G W.yG fun _ _ _ _ _ _ _ _=>rfl);have hJ:=zA (P:=P) (w:=w) (base:=base) lX lY lU fY jl (jf X G W.Ba fun _ _ _ _ _ _ _ _=>rfl);have Dj:=MP (P:=P) (w:=w) (base:=base) O gK hJ (jf X G W.Px fun _ _ _ _ _ _ _ _=>rfl);have Dk:=MR (P:=P) (w:=w) (base:=base) T O iH gL iU kJ i7 nS hJ (jf X G W.Py fun _ _ _ _ _ _ _ _ _ _ _=>rfl);have S4:=Q0 (P:=P) (w:=w) (base:=base) T O mx iG kY wJ Dj Dk (jf X G W.SX fun _ _ _ _ _ _ _ _ _ _ _=>rfl);exact S4
 intro base x1 x2 x3;obtain⟨f',fd',hm,ok,_,hb⟩:=(big base x1 x2 x3).ex;rw[hfa] at hm;cases hm
 exact⟨fd',hb,ok⟩
theorem walk_specK{r:OpenSpec}{k:Nat}{q:Program}{loose:List Str}{XP:(Str->Option Value)->Heap->Prop}{YP:World->Heap->Prop}{d:DefRec}{K:Params->PySem.W.Frag}{ps:List Str}{sp:PySem.W.Frag->Sp}
  (hwell:r.wellSaid=true) (himp:importsNone q=true) (hdf:d.params.defaults=[]) (hlen:r.args.length=ps.length) (hr:kg k callerA)
  (hY:∀(w:World) (h:Heap),YP w h->(K w.params).In h)
  (F:∀(w:World) (mg:Str->Option Value) (fa:Addr) (h:Heap),YP w h->(K w.params).In h->h.Ns mainGlobals mg->mg d.name=some (.ref fa)->
   ∀base:Heap,(K w.params).In base->base.Ns mainGlobals mg->base.NoSeer->∃fd:FuncData,Binds (K w.params) fd ps []/\qr r.prog w (K w.params) mg base KR k fa fd ps (sp (K w.params)))
  (hsp:∀(K:PySem.W.Frag) (H:Hp) (xs:List V) (a:Codec.denoteAll r.args),IL H->Codec.withinAll r.args a=true->Codec.app r.args r.asked a=true->rd K H xs (Codec.encAll r.args a)->
   sp K xs H (fun v H'=>Dw K H' v (r.ret.enc (Codec.app r.args r.f a))) fun _ _ _=>False):
  PySem.W.WalkOS q loose XP YP r d [] (fun f vs=>PySem.call f vs):=
 MV (K:=K) (CX:=fun _=>KR) (sp:=fun w=>sp (K w.params)) hwell himp hdf hlen hr hY F (fun w H xs a h1 h2 h3 h4=>hsp (K w.params) H xs a h1 h2 h3 h4) fun _ H s e s' z=>z
theorem sp_of{K:PySem.W.Frag}{H:Hp}{xs:List V}{kind row col:Int}{l nodes:List Int}(h1:0<=kind)(h2:0<=row)(h3:0<=col)(hl:l.length<=120)(hn:∀v∈nodes,0<=v)(hx:rd K H xs [.int kind,.int row,.int col,.list (l.map PySem.W.WData.int),.list (nodes.map PySem.W.WData.int)]):
  yy K xs H (fun v H'=>Dw K H' v (.list ((PyWrwirb.port kind row col l nodes).map PySem.W.WData.int))) fun _ _ _=>False:=by
 cases hx with
 |cons x1 y1=>
  cases x1
  cases y1 with
  |cons x2 y2=>
   cases x2
   cases y2 with
   |cons x3 y3=>
    cases x3
    cases y3 with
    |cons x4 y4=>
     cases x4 with
     |lst hs ha=>
      have e:=GP l _ ha;subst e;cases y4 with
      |cons x5 y5=>
       cases y5
       cases x5 with
       |lst hs2 ha2=>
        have e2:=GP nodes _ ha2;subst e2;refine⟨kind,row,col,_,l,_,nodes,rfl,hs,hs2,by lia,h1,h2,h3,UE h2 h3 l nodes hn,?_⟩;rw[c9.QL h1 h2 h3 l nodes hn];exact fun z H' s ⟨p,e,hp⟩=>by rw[e];exact .lst (ly.of hp) (LL _)
end Hj
namespace PySem.W.Fast
def tw5820574044880470239:=0
def tw11476206068366229722:=0
def tw6335987029735916728:=0
def tw2570794161974562464:=0
def tw11884869438448311976:=0
def tw8719911006157676973:=0
def tw9678527105625456361:=0
def tw9268969799959251796:=0
def tw13109026946296785390:=0
def tw11814292541420917471:=0
def tw7757783868239087920:=0
def tw14244850092011964754:=0
def tw8509553903258435416:=0
def tw1961906381260928821:=0
def tw8433537796050777397:=0
def tw10950809774400669794:=0
def tw9984452348595097447:=0
def tw11127566225952072097:=0
def tw818983428907255782:=0
def tw10719325150479636307:=0
def tw296463333602630822:=0
def tw17640740067793310410:=0
def tw2432118618388608615:=0
def tw13040897883785715432:=0
def tw9424897239040281303:=0
def tw17529644851406167657:=0
def tw3653624073829492278:=0
def tw7668294528437897170:=0
def tw12634224206004206595:=0
def tw8136890244424964414:=0
def tw1644073014217954849:=0
def tw8822272102105709026:=0
def tw2077020078946919211:=0
def tw14702399024813721654:=0
def tw17382093602392687496:=0
def tw6226529932348340366:=0
def tw11462589950655173044:=0
def tw8898623436940846168:=0
def tw1554530280254836577:=0
def tw10680461213217598058:=0
def tw16630504811990150665:=0
def tw7116987609794820673:=0
def tw3593867361321576827:=0
def tw4474754526564012397:=0
def tw4751555950649529724:=0
def tw599162331866079006:=0
def tw14988999797828746032:=0
def tw17450700302764552765:=0
def tw10135567320084230203:=0
def tw3986116125750614231:=0
def tw16652850513159886190:=0
def tw16417985356009094461:=0
def tw12363489940762975576:=0
def tw3173890810842819692:=0
def tw2676124868906805509:=0
def tw5763727304669463717:=0
def tw6671813720653462980:=0
def tw9642977735483447967:=0
def tw7834559347143370098:=0
def tw17967105986615496868:=0
def tw15030093479061757239:=0
def tw3950327585714479595:=0
def tw14937052220686766066:=0
def tw8571457976674671108:=0
def tw14697461102790372680:=0
def tw16090688940724911357:=0
def tw7511024847793445765:=0
def tw11451141021050781526:=0
def tw8844114618357475642:=0
def tw9202253132561455798:=0
def tw9960291004288594996:=0
def tw15172869279333998420:=0
def tw11278980585185022848:=0
def tw15162227641243397911:=0
def tw5370795677649421234:=0
def tw11047816124313881896:=0
def tw4625043998083926514:=0
def tw13996162756540017095:=0
def tw9180533548091432858:=0
def tw7080718044635377709:=0
def tw3456035088684740889:=0
def tw9696910099513362131:=0
def tw6420376647996006587:=0
def tw8718092864696831882:=0
def tw1472801370620812952:=0
def tw218191723894904922:=0
def tw10855146573281360039:=0
def tw2276068741057181053:=0
def tw9739293749344289828:=0
def tw6152939399384760240:=0
def tw2653169552897558667:=0
def tw939001067403908817:=0
def tw5960305251152753894:=0
def tw15319785570835712828:=0
def tw7378750498684436830:=0
def tw7573622430369508285:=0
def tw9942090656389992953:=0
def tw11788949088596927480:=0
def tw7239681055260575063:=0
def tw7114873533851616993:=0
def tw6552288745358988271:=0
def tw2144461981238796225:=0
def tw3531560519323693395:=0
def tw5308449456431501019:=0
def tw3121886967613778536:=0
def tw11850432690934446508:=0
def tw2120431270743383631:=0
def tw3993701824326601821:=0
def tw16600163255276286386:=0
def tw16503628741101703935:=0
def tw5556465942531960914:=0
def tw15267984323601342046:=0
def tw9249567793992354662:=0
def tw829891645798384664:=0
def tw14910364863671980526:=0
def tw18433950174004191223:=0
def tw4042284989621532284:=0
def tw12451934073955696629:=0
def tw25106626731562195:=0
def tw5607988086157952945:=0
def tw15741332741280012186:=0
def tw312781619965928586:=0
def tw7862749717822989476:=0
def tw8064924779468488260:=0
def tw14417394389294594704:=0
def tw3433561157996007021:=0
def tw13076020862217505881:=0
def tw12886443909316067945:=0
def tw11981010902160307688:=0
def tw12620524542360582763:=0
def tw12524505353986469664:=0
def tw5505927688930201214:=0
def tw504969565264926478:=0
def tw15583031923381078715:=0
def tw10139590223328231716:=0
def tw9890128271764919631:=0
def tw13582576427292706363:=0
def tw10481786294828679689:=0
def tw12069823071176939665:=0
def tw17833913712871177701:=0
def tw10577523625276145145:=0
def tw12852851280531972750:=0
def tw15518288071675194138:=0
def tw15497612283140428810:=0
def tw9277326941566753154:=0
def tw13382588277495511261:=0
def tw2912479286535561876:=0
def tw17049164690536197601:=0
def tw11583185243494099816:=0
def tw17034708146202625505:=0
def tw10507949825409521453:=0
def tw3865256539800340650:=0
def tw1554715303356661121:=0
def tw8732886036233560776:=0
def tw8769225217785395428:=0
def tw179396650274625795:=0
def tw17077859631992407655:=0
def tw9140448424160070974:=0
def tw12695682112745675291:=0
def tw13898131611542393787:=0
def tw17982001682720917110:=0
def tw11532353818131666833:=0
def tw6031674389539819422:=0
def tw2035891099263161589:=0
def tw8223378776690459938:=0
def tw13742087449761982610:=0
def tw8101049796478318905:=0
def tw2540128644140626849:=0
def tw9967560059657147999:=0
def tw8290845074207069859:=0
def tw6288192215874424118:=0
def tw11960398439845721977:=0
def tw14536623629890990334:=0
def tw11744920749663586769:=0
def tw14155604705962183243:=0
def tw5445408028337984519:=0
def tw4438817492329044720:=0
def tw5727929697832569195:=0
def tw8500026709815248400:=0
def tw15419807279279413254:=0
def tw9529660810171303795:=0
def tw9865824617893281427:=0
def tw5278945774200854028:=0
def tw2059340578171756594:=0
def tw14652439014188733766:=0
def tw8658119094672835870:=0
def tw11020039101660219903:=0
def tw10221998727538326624:=0
def tw9416449396961949433:=0
def tw2563503485675968587:=0
def tw1376614910611770083:=0
def tw17018696966238175533:=0
def tw18240810290516088115:=0
def tw9333942661742338701:=0
def tw7646208720293663564:=0
def tw13979584288723499478:=0
def tw7392056747179599034:=0
def tw17341218206475453273:=0
def tw1811748042257635801:=0
def tw15975361650361841656:=0
def tw8880765462853435435:=0
def tw10781870168870214683:=0
def tw7836310185298501751:=0
def tw1800535322065243309:=0
def tw8824296008413018092:=0
def tw1630409433858483019:=0
def tw16490504255980675397:=0
def tw249217699647999903:=0
def tw4818690575253110020:=0
def tw15439600890182881696:=0
def tw6570713731534751151:=0
def tw4940335847465431141:=0
def tw3512800182899457838:=0
def tw8852691654207479176:=0
def tw6494860430534335149:=0
def tw13188202846514036824:=0
def tw7258947950264330214:=0
def tw3609338806967501268:=0
def tw1248528847007161167:=0
def tw18123600470715316360:=0
def tw13645829400903926150:=0
def tw839996717802862982:=0
def tw6085092299420029518:=0
def tw18406082992623755096:=0
def tw16003874030272846474:=0
def tw7609695460401564260:=0
def tw13466824508606348696:=0
def tw10653928321243597741:=0
def tw5729970309714397323:=0
def tw1936095905559264820:=0
def tw1381776383427446305:=0
def tw7459761545927909095:=0
def tw12569908254102939597:=0
def tw8773835980128737631:=0
def tw8605938365835088231:=0
def tw520406538115315892:=0
def tw13365609148920614677:=0
def tw2079933072808212499:=0
def tw14422612036526610002:=0
def tw5532013036714915449:=0
def tw2557623068445047060:=0
def tw2434016298545640271:=0
def tw10639448542485308286:=0
def tw10243789740247976809:=0
def tw4591962749760728556:=0
def tw16513483609556101618:=0
def tw5753841699755295043:=0
def tw12138515122607816767:=0
def tw9863003578376592528:=0
def tw17604662328171233364:=0
def tw15953821652455599171:=0
def tw12442983521953087816:=0
def tw11764420279533757386:=0
def tw8052243592522674891:=0
def tw3396109096317584154:=0
def tw6305644614790335067:=0
def tw17784540648205354332:=0
def tw2735969784146607169:=0
def tw15222051485676921119:=0
def tw6176378691508989912:=0
def tw18412007511372279541:=0
def tw15967318736272259575:=0
def tw2143314871060041950:=0
def tw17609376775905742999:=0
def tw1611101798223265078:=0
def tw7235005602022558903:=0
def tw12054508860376520298:=0
def tw5258998623213260228:=0
def tw14995206088622892936:=0
def tw9830586298135766026:=0
def tw6654093064849352358:=0
def tw1058209652307816448:=0
def tw931305808794645715:=0
def tw1454530263557048905:=0
def tw11855006877432122346:=0
def tw2961507076866232474:=0
def tw2136712817282566299:=0
def tw15042481656269046281:=0
def tw3167042948486397390:=0
def tw9016919797418686576:=0
def tw6705947505692079965:=0
def tw3626848470257199677:=0
def tw4841863560495636810:=0
def tw17879690213887302201:=0
def tw16036128704559250496:=0
def tw10181531434817778134:=0
def tw15230812059079776843:=0
def tw12416858619278442249:=0
def tw2035259015427426153:=0
def tw15565353066220258575:=0
def tw3732366455463779795:=0
def tw3059587676463492613:=0
def tw14234890650296433159:=0
def tw10926866417989198355:=0
def tw17703505534946912444:=0
def tw11608515046542282693:=0
def tw1314003768823281871:=0
def tw17364505793286932194:=0
def tw4291235857725251195:=0
def tw10823705997130873828:=0
def tw971410909670857604:=0
def tw5115124200534761688:=0
def tw14920853741050098128:=0
def tw1231438862476116839:=0
def tw16030136091490856165:=0
def tw2250797939055068238:=0
def tw430286051478736441:=0
def tw5454824600513557156:=0
def tw7368725098840458531:=0
def tw2793658962356433151:=0
def tw14148287897133656475:=0
def tw16904354978227811172:=0
def tw13716124743225311373:=0
def tw5990014533925677426:=0
def tw17151093147157280777:=0
def tw15124416604825862044:=0
def tw5686419524859975453:=0
def tw6687731070556893511:=0
def tw6215353971148626832:=0
def tw5737209079927984361:=0
def tw1975512091549874174:=0
def tw18208909050954782021:=0
def tw16015705955443901631:=0
def tw12134900409621567790:=0
def tw10029257694347443125:=0
def tw609040472195980274:=0
def tw9357636955324355842:=0
def tw15973072991685323581:=0
def tw16573398952631236426:=0
def tw292591556553211048:=0
def tw7364963995381933570:=0
def tw3177455672810886992:=0
def tw17984065532207023558:=0
def tw1405820443764404098:=0
def tw8717566754092760598:=0
def tw3373839679029745093:=0
def tw9256403641774881519:=0
def tw8975629391293218396:=0
def tw7126484390899475910:=0
def tw6020212690474186674:=0
def tw5872608567487299221:=0
def tw8035053428737811707:=0
def tw8364607891738677739:=0
def tw882555466091339747:=0
def tw12059897065085162096:=0
def tw4425536618582781690:=0
def tw2454380534555493182:=0
def tw8294127005931072450:=0
def tw5993722724623045582:=0
def tw2139334280920595283:=0
def tw14969202052896880435:=0
def tw12595805373695032582:=0
def tw8251480994226216381:=0
def tw16413688829921255983:=0
def tw1618756429719848184:=0
def tw13287670075815568626:=0
def tw11162210397403296562:=0
def tw11096888620694331910:=0
def tw16158115651938765285:=0
def tw14930427261580999467:=0
def tw11806716284683289193:=0
def tw12441942955556578718:=0
def tw4659959027166705759:=0
def tw4426401297299608282:=0
def tw3217573561418899107:=0
def tw13713341292455429223:=0
def tw13557226072253582550:=0
def tw4010026451932372504:=0
def tw18043896401966952554:=0
def tw14362971932076935349:=0
def tw14101747094427064892:=0
def tw13378018814528455197:=0
def tw13087616702661418707:=0
def tw969069108090232475:=0
def tw7253325533300748871:=0
def tw17818985714122738527:=0
def tw14153717835281701569:=0
def tw13007330472725886413:=0
def tw888538953778131518:=0
def tw8106338729228089790:=0
def tw8067744557519056244:=0
def tw5632043069625733188:=0
def tw1131136158323074839:=0
def tw9965088977970977709:=0
def tw9630950854799550650:=0
def tw9627439978279964326:=0
def tw9419585332018766493:=0
def tw9401871653910986959:=0
def tw9396417263918574846:=0
def tw9141478577285322381:=0
def tw9007637507401770642:=0
def tw8956306488993069608:=0
def tw8902058931579422488:=0
def tw8834268391274044212:=0
def tw8599287407777221912:=0
def tw8483490901649102373:=0
def tw830274635428547814:=0
def tw8263141349608417795:=0
def tw816662005403344207:=0
def tw8098430023895411662:=0
def tw7993643636875290305:=0
def tw7861595484359118470:=0
def tw7632500513588332211:=0
def tw7631355838062605759:=0
def tw761315724726642207:=0
def tw7569041741084082437:=0
def tw7388733431625995553:=0
def tw738543759961161437:=0
def tw7318850223586089194:=0
def tw7086279257475790597:=0
def tw6966227974821644927:=0
def tw6917349325645559246:=0
def tw6620086822210910344:=0
def tw6567399689621399296:=0
def tw6523007029025857422:=0
def tw6512789095785656978:=0
def tw6434566895889358974:=0
def tw6075325208085256091:=0
def tw6058143833181556410:=0
def tw5852851728790670854:=0
def tw583656428911891618:=0
def tw5568834039005857867:=0
def tw5387043611787044284:=0
def tw5379767413912604837:=0
def tw5093063567298230073:=0
def tw5039813721187196336:=0
def tw4992042755600676772:=0
def tw4966249813932734894:=0
def tw4961545083176418791:=0
def tw4802215615651698584:=0
def tw480219817433747304:=0
def tw4562998384928700428:=0
def tw43487791056801847:=0
def tw4270422410892499580:=0
def tw4213668728684156226:=0
def tw4171434352553104157:=0
def tw41201861132741595:=0
def tw3969029973703460482:=0
def tw3714329750952978341:=0
def tw3499814890286670868:=0
def tw3344214494292001493:=0
def tw3171078853943985805:=0
def tw3043707201514240582:=0
def tw2898660466959392087:=0
def tw2822064721116416109:=0
def tw27699662668852911:=0
def tw2313861930762328626:=0
def tw229100600362881578:=0
def tw2241354143658087216:=0
def tw216788579447494934:=0
def tw2064846809400668265:=0
def tw2022364064397509287:=0
def tw1942945362286196635:=0
def tw18445656220497259267:=0
def tw18421469093916572756:=0
def tw18420506435668705305:=0
def tw18407508433933381090:=0
def tw18160236000283515287:=0
def tw18121785677011367645:=0
def tw18061795125053977401:=0
def tw18059826061529780144:=0
def tw18042537931773693156:=0
def tw17993521641190245038:=0
def tw17709221079642914511:=0
def tw17608432216719825134:=0
def tw1747923703624608223:=0
def tw17319588685121289593:=0
def tw17293444100655663820:=0
def tw17099075687068629670:=0
def tw16748495507241302134:=0
def tw16647962546233027897:=0
def tw16461684452635234999:=0
def tw1618069019523551576:=0
def tw1598634340992655231:=0
def tw15901835115035720789:=0
def tw15683060179769774048:=0
def tw15648753536866469064:=0
def tw15540794278912726173:=0
def tw15505682931333338494:=0
def tw15331675585134734405:=0
def tw15265924163170284893:=0
def tw15010468371023790246:=0
def tw14944818006680239663:=0
def tw14794008209155919500:=0
def tw14520419244156134077:=0
def tw14269795538997198059:=0
def tw13953964809215703297:=0
def tw13912578434245189386:=0
def tw13764103270985929457:=0
def tw13718681041527352018:=0
def tw13549811745358062663:=0
def tw13540679199269750707:=0
def tw13502619428562243959:=0
def tw13428405160339989963:=0
def tw13293486595713126948:=0
def tw13114568822947487108:=0
def tw13104088590659609478:=0
def tw1307684855376124823:=0
def tw13017468464880282179:=0
def tw13002591982397846779:=0
def tw12953642010788958840:=0
def tw1287032707392582808:=0
def tw12673067121200621554:=0
def tw12649866856409894684:=0
def tw1257125249826611347:=0
def tw12414100918370941478:=0
def tw12316532074251976446:=0
def tw12315990155554280631:=0
def tw12313778502526893447:=0
def tw12208524839335097810:=0
def tw12195521136924460740:=0
def tw11985488582766881907:=0
def tw11864115448424460315:=0
def tw11860931235837380208:=0
def tw11843497085574560520:=0
def tw11799723880016327015:=0
def tw11746159150557974479:=0
def tw11718605706080434393:=0
def tw1148695811524540359:=0
def tw11443259544060837144:=0
def tw11339362346750618491:=0
def tw11308513542365429267:=0
def tw11284688553359448286:=0
def tw11239142004655846724:=0
def tw11145006896230950861:=0
def tw10991558973543941845:=0
def tw1094518679836557998:=0
def tw10799161585109307254:=0
def tw10755358381123196369:=0
def tw10702914638862627077:=0
def tw10465668260517518977:=0
def tw10436317676800877475:=0
def tw10225395983233147947:=0
def tw10202913918557564395:=0
abbrev tw16658863107694434154:=PySem.Challenge.pw_wirequotients_s04_port
theorem te16658863107694434154:PySem.Challenge.pw_wirequotients_s04_port=tw16658863107694434154:=rfl
end PySem.W.Fast
open PySem PySem.W PyProof.Rows
set_option maxRecDepth 100000 in
set_option maxHeartbeats 0 in
theorem PySem.Challenge.cw_wirequotients_s04_port_holds : PySem.Challenge.rw_wirequotients_s04_port.Holds := by
 w_on;k_headS;(case hw=>exact⟨[.int 0,.int 0,.int 0,.list [],.list []],by decide +kernel,by decide +kernel⟩)
 k_fillS
 refine Hj.walk_specK (r:=PySem.Challenge.rw_wirequotients_s04_port) (k:=45) (ps:=["kind","row","col","net","nodes"]) (sp:=Hj.yy) (by decide +kernel) (by decide +kernel) rfl rfl ⟨rfl,by decide,by decide⟩ (fun w h Y=>PySem.W.kIn_of Y) ?F ?S
 case F=>
  intro w mg fa h Y KX G hmg;refine Hj.all_mk rfl KX G hmg ?W;constructor
  iterate 11 (show PySem.W.nsIn _ mainGlobals _=some none;k_is)
  iterate 27 (refine' Hj.fH.mk ?a;(case a=>k_is))
  iterate 75 (refine' Hj.d7.mk ?a ?l ?c ?k;(case a=>k_is);(case l=>k_is);(case c=>k_is);(case k=>k_is))
  (refine' Hj.kZ.mk ?a ?i ?f ?l ?c ?k ?pg ?hd ?po ?sa ?mk ?kc ⟨?n0,?n1,?n2,?n3,?n4,?n5,?n6,trivial⟩;(case a=>k_is);(case i=>k_is);(case f=>k_is);(case l=>k_is);(case c=>k_is);(case k=>k_is);(case pg=>k_is);(case hd=>k_is);(case po=>k_is);(case sa=>k_is);(case mk=>k_is);(case kc=>k_is);(case n0=>k_is);(case n1=>k_is);(case n2=>k_is);(case n3=>k_is);(case n4=>k_is);(case n5=>k_is);(case n6=>k_is))
  (refine' Hj.kZ.mk ?a ?i ?f ?l ?c ?k ?pg ?hd ?po ?sa ?mk ?kc ⟨?n0,?n1,trivial⟩;(case a=>k_is);(case i=>k_is);(case f=>k_is);(case l=>k_is);(case c=>k_is);(case k=>k_is);(case pg=>k_is);(case hd=>k_is);(case po=>k_is);(case sa=>k_is);(case mk=>k_is);(case kc=>k_is);(case n0=>k_is);(case n1=>k_is))
  (refine' Hj.kZ.mk ?a ?i ?f ?l ?c ?k ?pg ?hd ?po ?sa ?mk ?kc ⟨?n0,?n1,?n2,?n3,?n4,?n5,trivial⟩;(case a=>k_is);(case i=>k_is);(case f=>k_is);(case l=>k_is);(case c=>k_is);(case k=>k_is);(case pg=>k_is);(case hd=>k_is);(case po=>k_is);(case sa=>k_is);(case mk=>k_is);(case kc=>k_is);(case n0=>k_is);(case n1=>k_is);(case n2=>k_is);(case n3=>k_is);(case n4=>k_is);(case n5=>k_is))
  (refine' Hj.kZ.mk ?a ?i ?f ?l ?c ?k ?pg ?hd ?po ?sa ?mk ?kc ⟨?n0,?n1,trivial⟩;(case a=>k_is);(case i=>k_is);(case f=>k_is);(case l=>k_is);(case c=>k_is);(case k=>k_is);(case pg=>k_is);(case hd=>k_is);(case po=>k_is);(case sa=>k_is);(case mk=>k_is);(case kc=>k_is);(case n0=>k_is);(case n1=>k_is))
  (refine' Hj.kZ.mk ?a ?i ?f ?l ?c ?k ?pg ?hd ?po ?sa ?mk ?kc ⟨?n0,?n1,trivial⟩;(case a=>k_is);(case i=>k_is);(case f=>k_is);(case l=>k_is);(case c=>k_is);(case k=>k_is);(case pg=>k_is);(case hd=>k_is);(case po=>k_is);(case sa=>k_is);(case mk=>k_is);(case kc=>k_is);(case n0=>k_is);(case n1=>k_is))
  (refine' Hj.GR.mk ?a ?l ?t0 ?t1 ?t2 ?t3 ?t4 ?t5 ?t6 ?t7 ?t8 ?t9 ?t10 ?t11 ?t12 ?t13;(case a=>k_is);(case l=>k_is);(case t0=>k_is);(case t1=>k_is);(case t2=>k_is);(case t3=>k_is);(case t4=>k_is);(case t5=>k_is);(case t6=>k_is);(case t7=>k_is);(case t8=>k_is);(case t9=>k_is);(case t10=>k_is);(case t11=>k_is);(case t12=>k_is);(case t13=>k_is))
 case S=>
  intro K H xs a hO hwi hask hx;have q:(Codec.inInt 0 4294967295 a.1&&(Codec.inInt 0 4294967295 a.2.1&&(Codec.inInt 0 4294967295 a.2.2.1&&((Codec.inLen 0 120 a.2.2.2.1&&a.2.2.2.1.all (Codec.inInt (-4294967295) 4294967295))&&((Codec.inLen 0 6 a.2.2.2.2.1&&a.2.2.2.2.1.all (Codec.inInt 0 4294967295))&&true)))))=true:=hwi;rw[aF,aF,aF,aF,aF,aF,aF] at q;obtain⟨q1,q2,q3,⟨q4,_⟩,⟨_,q5⟩,_⟩:=q;exact Hj.sp_of (Codec.inInt_iff.mp q1).1 (Codec.inInt_iff.mp q2).1 (Codec.inInt_iff.mp q3).1 (Codec.inNat_iff.mp q4).2 (fun v hv=>(Codec.inInt_iff.mp (bD.mp q5 v hv)).1) hx
