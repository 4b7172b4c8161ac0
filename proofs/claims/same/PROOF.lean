import PyProof.Rows.All
import Wide.All
import OpenK.AllK
import Wide.FinOn
import PyProof.EqAt
import PyProof.EqKinds
import PyProof.TupleCall
import KE.BitLaws
import KE.IntBitsLaws
import WhPoly
import WhBSpec
import PyWrwirb
import PySem.Challenge.RW0_wirequotients_s05_same
import PyProof.MaxThree
import Open.SpecLaws
import KE.OsHead
import KE.OsGo
import KE.SpHead
import KE.OsShapes
import PySem.Challenge.RW_wirequotients_s05_same
set_option Elab.async false
set_option linter.all false
set_option genSizeOf false
set_option bootstrap.genMatcherCode false
set_option maxRecDepth 100000
set_option maxHeartbeats 2000000
noncomputable section
open List renaming getElem?_eq_getElem->aa,mem_cons_of_mem->ao,length_cons->au,mem_singleton->aw,mem_cons_self->ax,length_append->aA,mem_of_getElem?->aB,getElem?_map->aC,length_take->aD,length_pos_iff->aE,take_length->aG,map_cons->aH,getElem?_eq_none->aI,mem_cons->aJ,size_toArray->aK,mem_map->aL,mem_append->aN,map_append->aP,length_replicate->aQ,map_map->aR,filter_cons_of_pos->aS,map_congr_left->aU,mem_range->aW,filter_cons_of_neg->aX,getElem_of_mem->aY,take_add_one->a5,flatMap_cons->a9,all_eq_true->bc,length_eq_zero_iff->bg,getElem?_eq_some_iff->bh,take_of_length_le->bo,mem_append_right->br,length_reverse->bu,getElem?_append_right->bz,foldl_cons->bD,length_drop->bE,getElem?_range->bF,length_range->bH,length_nil->bJ,any_eq_true->bK,append_nil->bM,filter_append->bN,getElem_mem->bO,replicate_succ->bT,flatMap_append->bU,mem_filter->bV,nodup_cons->bW,length_set->bX,range_succ->bZ,getElem?_append_left->b5,sum_cons->b8,getElem?_replicate->cf,any_cons->cq,lookup_cons->cx,getLast?_eq_getElem?->cy,append_assoc->cA,getElem?_set->cC,ext_getElem->cE,flatMap_map->cG,mem_flatMap->cH,take_append_of_le_length->cI,length_filter_le->cM,foldl_append->cO,mem_append_left->cP,length_eraseIdx->cQ,map_id'->cT,isEmpty_iff->cU,drop_eq_getElem_cons->cV,filterMap_cons->cY
open Nat renaming le_refl->aj,le_trans->ay,zero_le->aM,lt_of_lt_of_le->aV,ne_of_lt->bx,pow_le_pow_right->bC,lt_irrefl->bQ,mul_le_mul->bS,le_of_lt->b7,mul_le_mul_right->b9,mul_le_mul_left->cg,sub_self->cj,le_add_right->cD,le_mul_of_pos_left->cK,succ_mul->cR,le_of_not_lt->cS,gcd_pos_of_pos_right->c7
open Bool renaming and_eq_true->aF,false_ne_true->aO,eq_iff_iff->a4
open PySem.F renaming plainAttrs_list->aT,slot_list_append->a6,type_list_append->a7
open Option.some renaming inj->aZ
open PySem renaming mem_of_lookup->a8
open Int renaming toNat_natCast->bb,natAbs_natCast->bI,natCast_dvd_natCast->bP,natAbs_mul->bR,natCast_nonneg->b6,dvd_trans->cw,ofNat_dvd_left->cJ,mul_pos_of_neg_of_neg->cW,mul_fdiv_cancel->c6
open PySem.W renaming mg_of->bq
open Rat renaming intCast_natCast->bt,mul_eq_zero->bY
open PyProof.Rows renaming callWith_type1->bw
open Ne renaming symm->bL
open Classical renaming byContradiction->cz,not_not->cN
open Option renaming getD_some->cF
open Array renaming length_toList->cZ
abbrev af:=@if_neg
abbrev ah:=@if_pos
abbrev ak:=@decide_eq_true
abbrev aq:=@decide_eq_false
abbrev az:=@of_decide_eq_true
abbrev bf:=@decide_eq_true_iff
abbrev cX:=@beq_eq_false_iff_ne
theorem gDe{A:Type _}{l:List A}{i:Nat}{d:A}:l.getD i d=(l[i]?).getD d:=List.getD_eq_getElem?_getD
theorem lMp{A:Type _}{B:Type _}{l:List A}(f:A->B):(l.map f).length=l.length:=List.length_map f
namespace L2
open PySem PySem.Spec PyProof.Rows
noncomputable abbrev Key:=Sum Int Str
noncomputable def RN:Key->Value->Bool
 | .inl k,v=>Value.isInt k v
 | .inr x,v=>Value.isStrOf x v
noncomputable def Vy (w:World):Key->Int
 | .inl k=>hashInt k
 | .inr x=>hashStr w x
theorem hU:∀{k:Key} {v:Value},RN k v=true->(∃i t,k=Sum.inl i/\v=Value.int i t)\/(∃x t,k=Sum.inr x/\v=Value.str x t)
 | .inl i,v,h=>by
  obtain⟨t,e⟩:=Value.isInt_shape (k:=i) (v:=v) h;exact .inl ⟨i,t,rfl,e⟩
 | .inr x,v,h=>by
  obtain⟨t,e⟩:=Value.isStrOf_shape (x:=x) (v:=v) h;exact .inr ⟨x,t,rfl,e⟩
theorem Sg(a b:Int):decide ((Sum.inl a:Key)=Sum.inl b)=(a==b):=by
 by_cases e:a=b
 ·subst e;simp
 ·have h:¬(Sum.inl a:Key)=Sum.inl b:=fun q=>e (Sum.inl.inj q)
  rw[aq h];exact(cX.mpr e).symm
theorem Sh(a b:Str):decide ((Sum.inr a:Key)=Sum.inr b)=decide (a=b):=by
 by_cases e:a=b
 ·subst e;simp
 ·have h:¬(Sum.inr a:Key)=Sum.inr b:=fun q=>e (Sum.inr.inj q)
  rw[aq h,aq e]
theorem Si(a:Int)(b:Str):decide ((Sum.inl a:Key)=Sum.inr b)=false:=aq (fun q=>nomatch q)
theorem Sj(a:Str)(b:Int):decide ((Sum.inr a:Key)=Sum.inl b)=false:=aq (fun q=>nomatch q)
noncomputable def FT (prog:Program) (w:World):PySem.KeyKind prog w Key where
 is:=RN
 hash:=Vy w
 inj:=fun v a b ha hb=>by
  rcases hU ha with⟨i,t,rfl,rfl⟩ |⟨x,t,rfl,rfl⟩
  ·rcases hU hb with⟨j,u,rfl,e⟩ |⟨y,u,rfl,e⟩
   ·injection e with e1 _;rw[e1]
   ·exact nomatch e
  ·rcases hU hb with⟨j,u,rfl,e⟩ |⟨y,u,rfl,e⟩
   ·exact nomatch e
   ·injection e with e1 _;rw[e1]
 byValue:=fun k v h=>by
  rcases hU h with⟨i,t,rfl,rfl⟩ |⟨x,t,rfl,rfl⟩ <;>rfl
 pyHash:=fun hv h=>by
  rcases hU hv with⟨i,t,rfl,rfl⟩ |⟨x,t,rfl,rfl⟩
  ·exact wpAny_pyHash_int h
  ·exact wpAny_pyHash_str h
 eqBool:=fun hu hv h=>by
  rcases hU hu with⟨i,t,rfl,rfl⟩ |⟨x,t,rfl,rfl⟩
  ·rcases hU hv with⟨j,u,rfl,rfl⟩ |⟨y,u,rfl,rfl⟩
   ·rw[Sg] at h;exact wpAny_eqBool_int h
   ·rw[Si] at h;exact SeqAt.EqAt.int_str i t y u _ _ _ _ h
  ·rcases hU hv with⟨j,u,rfl,rfl⟩ |⟨y,u,rfl,rfl⟩
   ·rw[Sj] at h;exact SeqAt.EqAt.str_int x t j u _ _ _ _ h
   ·rw[Sh] at h;exact wpAny_eqBool_str h
 «strs»:=fun k x t v h=>by
  rcases hU h with⟨i,u,rfl,e⟩ |⟨y,u,rfl,e⟩
  ·exact nomatch e
  ·injection e with e1 _
   subst e1;cases v <;>rfl
inductive V where
 |jS |bl (b:Bool) |int (i:Int) |str (x:Str) |FU (b:Array UInt8) |T8 (b:UInt64) |ref (a:Addr) |ty (n:String)
 deriving DecidableEq
noncomputable def RelV:V->Value->Prop
 | .jS,u=>u=Value.none
 | .bl b,u=>u=Value.bool b
 | .int i,u=>∃t,u=Value.int i t
 | .str x,u=>∃t,u=Value.str x t
 | .FU b,u=>∃t,u=Value.bytes b t
 | .T8 b,u=>∃t,u=Value.float b t
 | .ref a,u=>u=Value.ref a
 | .ty n,u=>u=Value.type n
noncomputable abbrev Vals:List V->List Value->Prop:=Paired RelV
theorem Vals.length{xs:List V}{us:List Value}(r:Vals xs us):xs.length=us.length:=Paired.length r
theorem Vals.get:∀{xs:List V} {us:List Value} {i:Nat} {x:V},Vals xs us->xs[i]? =some x->∃u,us[i]? =some u/\RelV x u
 |_,_,_,_,.nil,e=>by simp at e
 |_,_,0,_,.cons r _,e=>by simp at e;subst e;exact⟨_,rfl,r⟩
 |_,_,i+1,x,.cons _ t,e=>by
  obtain⟨u,h1,h2⟩:=Vals.get (i:=i) (x:=x) t (by simpa using e);exact⟨u,by simpa using h1,h2⟩
theorem Vals.set{x:V}{u:Value}(r:RelV x u):∀{xs:List V} {us:List Value} (i:Nat),Vals xs us->Vals (xs.set i x) (us.set i u)
 |_,_,_,.nil=> .nil
 |_,_,0,.cons _ t=> .cons r t
 |_,_,i+1,.cons q t=> .cons q (Vals.set r i t)
theorem Vals.append:∀{xs ys:List V} {us ws:List Value},Vals xs us->Vals ys ws->Vals (xs ++ ys) (us ++ ws)
 |_,_,_,_,.nil,s=>s
 |_,_,_,_,.cons r t,s=> .cons r (Vals.append t s)
theorem Vals.take:∀{xs:List V} {us:List Value} (n:Nat),Vals xs us->Vals (xs.take n) (us.take n)
 |_,_,0,_=> .nil
 |_,_,_+ 1,.nil=> .nil
 |_,_,n+1,.cons r t=> .cons r (Vals.take n t)
theorem Vals.drop:∀{xs:List V} {us:List Value} (n:Nat),Vals xs us->Vals (xs.drop n) (us.drop n)
 |_,_,0,r=>r
 |_,_,_+ 1,.nil=> .nil
 |_,_,n+1,.cons _ t=>Vals.drop n t
noncomputable def Jw:Option V->Option Value->Prop
 |some v,some u=>RelV v u
 |none,none=>True
 |_,_=>False
noncomputable def KV {κ:Type}:List (κ×V)->List (κ×Value)->Prop:=Paired fun(p:κ×V) (q:κ×Value)=>p.1=q.1/\RelV p.2 q.2
noncomputable def kV:Key->V
 | .inl i=> .int i
 | .inr x=> .str x
inductive HO where
  |lst (xs:List V)
  |tup (xs:List V)
  |dK (kvs:List (Key×V)) |dT (kvs:List (List Key×V))
  |set (S:Int->Bool) (n:Nat)
  |ins (C dx:Addr) (fs:List (Str×V))
  |own (x:Addr)
  |xd (fs:List (Str×V))
  |met (f x:Addr)
  |Vz (lo hi:Int)
  |FV (o:Obj) (u:HO)
  |Sk (ps:Array Value)
  |ext (φ:Heap->Prop)
noncomputable abbrev Hp:=Addr->Option HO
noncomputable def upd (H:Hp) (a:Addr) (o:HO):Hp:=fun b=>if b=a then some o else H b
theorem di{H:Hp}{a:Addr}{o:HO}:upd H a o a=some o:=by unfold upd;rw[ah rfl]
theorem d4{H:Hp}{a b:Addr}{o:HO}(h:b≠a):upd H a o b=H b:=by unfold upd;rw[af h]
theorem mF{H:Hp}{a:Addr}{o u:HO}:upd (upd H a o) a u=upd H a u:=by
 funext b;unfold upd;split <;>rfl
theorem Hu{H:Hp}{a b:Addr}{o u:HO}(h:H a=some o)(h':H b=some u)(d:o≠u):a≠b:=by
 intro e;subst e;rw[h] at h';exact d (aZ h')
theorem fJ{H:Hp}{a b:Addr}{o:HO}(h:H a=some o)(h':H b=none):a≠b:=by
 intro e;subst e;rw[h] at h';cases h'
section
variable (P:Program)(w:World)
noncomputable def kh (H:Hp) (h:Heap) (a:Addr):HO->Prop
 | .lst xs=>xs.length<=sizeLine/\∃(its:List Value) (n:Nat),Vals xs its/\h.get? a=some {cls:= .type "list",data:= .seq its.toArray n}
 | .tup xs=>xs.length<=sizeLine/\∃its:List Value,Vals xs its/\IsTup h a its.toArray
 | .dK kvs=>kvs.length<=sizeLine/\(a==sysModules)=false/\∃vs,KV kvs vs/\h.DictOf (FT P w) a vs
 | .dT kvs=>kvs.length<=sizeLine/\(a==sysModules)=false/\∃xs:List (List Key×Addr×Value),
   Paired (fun(p:List Key×V) (q:List Key×Addr×Value)=>p.1=q.1/\H q.2.1=some (.tup (p.1.map kV))/\RelV p.2 q.2.2) kvs xs/\
   ∃o es ep,h.get? a=some o/\o.ExactDict/\o.data= .dict es ep/\es.toList=xs.map (entryOfKey (tupleKind (FT P w)))/\(xs.map (·.1)).Nodup
 | .set S n=>h.SetOf (intKind P w) a S n
 | .ins C dx fs=>H dx=some (.own a)/\fs.length<=1000/\dx≠a/\h.get? a=some (PySem.W.instObj C dx)/\
   ∃mA,h.Ns1 dx mA/\(∀f,Jw (fs.lookup f) (mA f))/\PySem.Within mA (fs.map (·.1))
 | .own _=>∃o,h.get? a=some o
 | .xd fs=>∃mA,h.Ns1 a mA/\∀f,Jw (fs.lookup f) (mA f)
 | .Vz lo hi=>∃t u v,h.get? a=some {cls:= .type "range",data:= .fields #[.int lo t,.int hi u,.int 1 v]}
 | .FV o u=>h.get? a=some o/\kh H h a u
 | .Sk ps=>h.get? a=some {cls:= .none,data:= .fields ps}
 | .met f x=>h.get? a=some (PySem.W.methodObj (.ref f) (.ref x))
 | .ext φ=>φ h/\(∃o,h.get? a=some o)/\∀h1 h2:Heap,φ h1->(∀o,h1.get? a=some o->h2.get? a=some o)->φ h2
noncomputable def w9 (H:Hp) (h:Heap):Prop:=∀a o,H a=some o->kh P w H h a o
end
section
variable {P:Program}{w:World}{H H':Hp}{h h':Heap}{a:Addr}{o:HO}
theorem kh.lt(x:kh P w H h a o):a<h.objs.size:=by
 cases o with
 |lst xs=>obtain⟨_,_,_,_,e⟩:=x;exact Heap.lt_size e
 |tup xs=>obtain⟨_,_,_,p⟩:=x;exact p.lt
 |dK kvs=>obtain⟨_,_,_,_,o,_,_,e,_⟩:=x;exact Heap.lt_size e
 |dT kvs=>obtain⟨_,_,_,_,o,_,_,e,_⟩:=x;exact Heap.lt_size e
 |set S n=>obtain⟨o,_,_,_,e,_⟩:=x;exact Heap.lt_size e
 |ins C dx fs=>obtain⟨_,_,_,e,_⟩:=x;exact Heap.lt_size e
 |own y=>obtain⟨_,e⟩:=x;exact Heap.lt_size e
 |xd fs=>obtain⟨_,⟨_,_,_,e,_⟩,_⟩:=x;exact Heap.lt_size e
 |Vz lo hi=>obtain⟨_,_,_,e⟩:=x;exact Heap.lt_size e
 |FV ob u=>obtain⟨e,_⟩:=x;exact Heap.lt_size e
 |Sk ps=>exact Heap.lt_size (show h.get? a=some _ from x)
 |met f y=>exact Heap.lt_size (show h.get? a=some _ from x)
 |ext φ=>obtain⟨_,⟨_,e⟩,_⟩:=x;exact Heap.lt_size e
theorem Paired.Sl{α β:Type}{F G:α->β->Prop}:∀{l₁:List α} {l₂:List β},Paired F l₁ l₂->(∀a b,F a b->G a b)->Paired G l₁ l₂
 |_,_,.nil,_=> .nil
 |_,_,.cons r t,f=> .cons (f _ _ r) (Paired.Sl t f)
theorem kh.Jx(x:kh P w H h a o)(k:∀b u,(b=a\/H b=some (.own a))->h.get? b=some u->h'.get? b=some u)
  (ho:∀b,H b=some (.own a)->H' b=some (.own a)) (ht:∀b xs,H b=some (.tup xs)->H' b=some (.tup xs)):kh P w H' h' a o:=by
 induction o with
 |lst xs=>obtain⟨z,its,n,r,e⟩:=x;exact⟨z,its,n,r,k _ _ (.inl rfl) e⟩
 |tup xs=>obtain⟨z,its,r,ob,e,c⟩:=x;exact⟨z,its,r,ob,k _ _ (.inl rfl) e,c⟩
 |dK kvs=>obtain⟨z,y,vs,r,ob,es,ep,e,c⟩:=x;exact⟨z,y,vs,r,ob,es,ep,k _ _ (.inl rfl) e,c⟩
 |dT kvs=>
  obtain⟨z,y,xs,r,ob,es,ep,e,c⟩:=x;exact⟨z,y,xs,Paired.Sl r fun p q z=>⟨z.1,ht _ _ z.2.1,z.2.2⟩,ob,es,ep,k _ _ (.inl rfl) e,c⟩
 |set S n=>obtain⟨ob,es,ep,t,e,c⟩:=x;exact⟨ob,es,ep,t,k _ _ (.inl rfl) e,c⟩
 |ins C dx fs=>
  obtain⟨d,z,ne,e,mA,⟨od,es,ep,e2,c⟩,r⟩:=x;exact⟨ho _ d,z,ne,k _ _ (.inl rfl) e,mA,⟨od,es,ep,k _ _ (.inr d) e2,c⟩,r⟩
 |own y=>obtain⟨ob,e⟩:=x;exact⟨ob,k _ _ (.inl rfl) e⟩
 |xd fs=>obtain⟨mA,⟨od,es,ep,e,c⟩,r⟩:=x;exact⟨mA,⟨od,es,ep,k _ _ (.inl rfl) e,c⟩,r⟩
 |Vz lo hi=>obtain⟨t,u,v,e⟩:=x;exact⟨t,u,v,k _ _ (.inl rfl) e⟩
 |FV ob u ih=>obtain⟨e,q⟩:=x;exact⟨k _ _ (.inl rfl) e,ih q⟩
 |Sk ps=>
  have e:h.get? a=some {cls:= .none,data:= .fields ps}:=x;show h'.get? a=some {cls:= .none,data:= .fields ps};exact k a _ (.inl rfl) e
 |met f y=>
  have e:h.get? a=some (PySem.W.methodObj (.ref f) (.ref y)):=x;show h'.get? a=some (PySem.W.methodObj (.ref f) (.ref y));exact k a _ (.inl rfl) e
 |ext φ=>obtain⟨p,⟨o,e⟩,st⟩:=x;exact⟨st _ _ p fun o q=>k _ _ (.inl rfl) q,⟨o,k _ _ (.inl rfl) e⟩,st⟩
theorem w9.lt(x:w9 P w H h)(e:H a=some o):a<h.objs.size:=(x a o e).lt
theorem w9.fresh(x:w9 P w H h)(e:h.objs.size<=a):H a=none:=by
 cases q:H a with
 |none=>rfl
 |some u=>exact absurd (aV (x.lt q) e) (bQ _)
theorem w9.kept(x:w9 P w H h)(k:∀b u,h.get? b=some u->h'.get? b=some u):w9 P w H h':=fun a o e=>
 (x a o e).Jx (fun b u _ q=>k b u q) (fun _ q=>q) fun _ _ q=>q
theorem w9.laid(x:w9 P w H h)(k:∀b u,h.get? b=some u->h'.get? b=some u)(hp:h.objs.size<=a)(new:kh P w (upd H a o) h' a o):w9 P w (upd H a o) h':=fun b u e=>by
 have hn:=x.fresh hp;by_cases hb:b=a
 ·subst hb;rw[di] at e;cases e;exact new
 ·rw[d4 hb] at e;exact(x b u e).Jx (fun c v _ q=>k c v q) (fun c q=>by rw[d4 (fJ q hn)];exact q) fun c xs q=>by rw[d4 (fJ q hn)];exact q
end
noncomputable def Rd (H:Hp) (a:Addr) (u:HO):Prop:=H a=some u\/∃o,H a=some (.FV o u)
theorem Rd.ok{P:Program}{w:World}{H:Hp}{h:Heap}{a:Addr}{u:HO}(r:Rd H a u)(x:w9 P w H h):kh P w H h a u:=by
 rcases r with r |⟨o,r⟩
 ·exact x a u r
 ·obtain⟨_,q⟩:=x a _ r;exact q
noncomputable def Vr:Option HO->Prop
 |some (.lst _)=>True
 |some (.dK _)=>True
 |some (.dT _)=>True
 |some (.set _ _)=>True
 |some (.ins _ _ _)=>True
 |some (.ext _)=>True
 |_=>False
section
variable {P:Program}{w:World}{H:Hp}{h h':Heap}{x e:Addr}{o':HO}
theorem w9.write(ok:w9 P w H h)(mu:Vr (H x))(he:e=x\/H e=some (.own x))(k:∀b u,b≠e->h.get? b=some u->h'.get? b=some u)(heo:∃u,h'.get? e=some u)
  (new:kh P w (upd H x o') h' x o'):w9 P w (upd H x o') h':=fun b u q=>by
 have nown:∀c y,H c=some (.own y)->c≠x:=fun c y r z=>by subst z;rw[r] at mu;exact mu
 have ntup:∀c xs,H c=some (.tup xs)->c≠x:=fun c xs r z=>by subst z;rw[r] at mu;exact mu
 by_cases hb:b=x
 ·subst hb;rw[di] at q;cases q;exact new
 ·rw[d4 hb] at q;by_cases hbe:b=e
  ·have q':H b=some (.own x):=by
    rcases he with z |z
    ·exact absurd (hbe.trans z) hb
    ·rw[hbe];exact z
   rw[q] at q';cases q'
   obtain⟨v,hv⟩:=heo;exact⟨v,by rw[hbe];exact hv⟩
  ·refine(ok b u q).Jx (fun c v hc r=>k c v ?_ r) (fun c r=>by rw[d4 (nown c b r)];exact r) fun c xs r=>by rw[d4 (ntup c xs r)];exact r
   rcases hc with rfl |hc
   ·exact hbe
   ·rintro rfl;rcases he with z |z
    ·exact nown c b hc z
    ·rw[hc] at z;cases z;exact hb rfl
end
structure Un(fs ex:List Addr)(H H':Hp)(h h':Heap):Prop where
 keep:∀b o,h.get? b=some o->H b=none->b∉fs->b∉ex->h'.get? b=some o
 slot:∀b o,h.get? b=some o->H b=none->b∈fs->b∉ex->∃sl,h'.get? b=some {o with slots:=sl}
 free:∀b o,h.get? b=some o->H b=none->b∉ex->H' b=none
 there:∀b o,h.get? b=some o->b∉ex->∃o',h'.get? b=some o'
 Hv:∀b xs,H b=some (.tup xs)->H' b=some (.tup xs)
 FW:∀b o u,H b=some (.FV o u)->H' b=some (.FV o u)
 Hw:∀b ps,H b=some (.Sk ps)->∃more,H' b=some (.Sk (ps ++ more))
section
variable {fs fs' ex ex':List Addr}{H H1 H2:Hp}{h h1 h2 h':Heap}{a x e:Addr}{o:HO}
theorem Un.any(u:Un fs ex H H1 h h1){b:Addr}{ob:Obj}(q:h.get? b=some ob)(n:H b=none)(hx:b∉ex):∃sl,h1.get? b=some {ob with slots:=sl}:=by
 by_cases hb:b∈fs
 ·exact u.slot b ob q n hb hx
 ·exact⟨ob.slots,u.keep b ob q n hb hx⟩
theorem Un.kept(k:∀b u,h.get? b=some u->h'.get? b=some u):Un fs ex H H h h':=
 ⟨fun b ob q _ _ _=>k b ob q,fun b ob q _ _ _=>⟨ob.slots,k b ob q⟩,fun _ _ _ n _=>n,fun b ob q _=>⟨ob,k b ob q⟩,fun _ _ q=>q,fun _ _ _ q=>q,fun _ ps q=>⟨#[],by rw[q];simp⟩⟩
theorem Un.refl:Un fs ex H H h h:=Un.kept fun _ _ q=>q
theorem Un.laid(k:∀b u,h.get? b=some u->h'.get? b=some u)(hp:h.objs.size<=a)(hn:H a=none):Un fs ex H (upd H a o) h h' where
 keep:=fun b u q _ _ _=>k b u q
 slot:=fun b u q _ _ _=>⟨u.slots,k b u q⟩
 free:=fun b u q n _=>by rw[d4 (bx (aV (Heap.lt_size q) hp))];exact n
 there:=fun b u q _=>⟨u,k b u q⟩
 Hv:=fun b xs q=>by rw[d4 (fJ q hn)];exact q
 FW:=fun b u xs q=>by rw[d4 (fJ q hn)];exact q
 Hw:=fun b ps q=>⟨#[],by rw[d4 (fJ q hn),q];simp⟩
theorem Un.write(mu:Vr (H x))(he:e=x\/H e=some (.own x))(k:∀b u,b≠e->h.get? b=some u->h'.get? b=some u)(heo:∃u,h'.get? e=some u):Un fs ex H (upd H x o) h h':=by
 have hx:∀b,H b=none->b≠x:=fun b n z=>by subst z;rw[n] at mu;exact mu
 have hb:∀b,H b=none->b≠e:=fun b n z=>by
  subst z;rcases he with r |r
  ·exact hx b n r
  ·rw[n] at r;cases r
 have hm:∀b u,H b=some u->¬Vr (some u)->b≠x:=fun b u q nm z=>by subst z;rw[q] at mu;exact nm mu
 refine⟨fun b u q n _ _=>k b u (hb b n) q,fun b u q n _ _=>⟨u.slots,k b u (hb b n) q⟩,fun b u q n _=>by rw[d4 (hx b n)];exact n,fun b u q _=> ?_,
  fun b xs q=>by rw[d4 (hm b _ q fun z=>z)];exact q,fun b u xs q=>by rw[d4 (hm b _ q fun z=>z)];exact q,fun b ps q=>⟨#[],by rw[d4 (hm b _ q fun z=>z),q];simp⟩⟩
 by_cases hbe:b=e
 ·subst hbe;exact heo
 ·exact⟨u,k b u hbe q⟩
end
noncomputable def Vs (h:Heap) (H:Hp):List Addr:=(List.range h.objs.size).filter fun a=>(H a).isSome
noncomputable def DY (h:Heap) (H:Hp):Heap:=PySem.W.hideAll h (Vs h H)
theorem Mp(h:Heap)(H:Hp):(DY h H).objs.size=h.objs.size:=PySem.W.hideAll_size _ _
theorem NU{h:Heap}{H:Hp}{b:Addr}{o:Obj}(e:h.get? b=some o)(n:H b=none):(DY h H).get? b=some o:=
 PySem.W.hideAll_get _ e fun hm=>by
  have q:(H b).isSome=true:=(bV.mp hm).2;rw[n] at q;simp at q
theorem Qv{h:Heap}{H:Hp}{b:Addr}{o:Obj}(e:(DY h H).get? b=some o):h.get? b=some o/\H b=none:=by
 have e':h.get? b=some o:=PySem.W.of_hideAll (Vs h H) e;refine⟨e',?_⟩;cases q:H b with
 |none=>rfl
 |some x=>
  have hm:b∈Vs h H:=bV.mpr ⟨aW.mpr (Heap.lt_size e'),by simp[q]⟩;have z:(DY h H).get? b=none:=PySem.W.hideAll_none (Vs h H) hm;rw[z] at e;cases e
structure Mod(K:PySem.W.Frag)(mg:Str->Option Value)(base:Heap):Prop where
 T9:K.In base
 glob:base.Ns mainGlobals mg
 blt:∃mb,base.Ns builtinsNs mb/\∀x:Str,x≠"__name__"->mb x=bootBuiltins x
 nolimit:base.NoLimit
structure Cx where
 prog:Program
 w:World
 K:PySem.W.Frag
 mg:Str->Option Value
 base:Heap
 A:Around
 N:List Str
 EF:Shared
 Ua:Hp
 env:Env
 outer:List Env
 stack:List Env
 ex:List Addr
 fn:Str->Bool
 calm:Bool
 pn:List (Addr×Obj)
 xe:Value->Shared->Prop
noncomputable def NV (l:List Env):List Addr:=l.filterMap (·.frame)
noncomputable abbrev Cx.fs (X:Cx):List Addr:=NV X.outer
noncomputable def T1 (sc:Scope) (x:Str):Prop:=sc.names.lookup x=some .local\/sc.names.lookup x=some .cell\/sc.names.lookup x=some .free
noncomputable def Loc (sc:Scope) (x:Str):Prop:=sc.names.lookup x=some .local\/sc.names.lookup x=some .cell
noncomputable def Look (env:Env) (h:Heap) (m:Str->Option Value) (x:Str) (u:Value):Prop:=
 (env.kindOf x=some .local/\m x=some u)\/((env.kindOf x=some .cell\/env.kindOf x=some .free)/\∃c,env.cells.lookup x=some c/\h.IsCell c (some u))
structure Cx.Ok(X:Cx):Prop where
 mod:Mod X.K X.mg X.base
 kind:X.env.scope.kind= .function
 glob:X.env.globals=mainGlobals
 blt:X.env.builtins=builtinsNs
 above:X.EF.heap.objs.size<=X.env.locals
 inj:∀x y c,X.env.cells.lookup x=some c->X.env.cells.lookup y=some c->x=y
 has:∀x,(X.env.kindOf x=some .cell\/X.env.kindOf x=some .free)->∃c,X.env.cells.lookup x=some c
 Ub:∀x c,X.fn x=true->X.env.cells.lookup x=some c->X.EF.heap.objs.size<=c
 hd:X.calm=true->X.A.handled=none
 frames:X.A.frames=some X.stack
 Sn:X.stack=X.outer\/(X.stack=X.env::X.outer/\X.env.frame=some X.env.locals)
 Vt:∀b∈X.ex,b≠X.env.locals/\∀x c,X.env.cells.lookup x=some c->c≠b
 bs:∀b o,X.base.get? b=some o->X.EF.heap.get? b=some o/\X.Ua b=none
 Qw:X.base.objs.size<=X.EF.heap.objs.size
 NW:∀b o,X.base.get? b=some o->b∉X.ex
 NX:∀b∈X.ex,b∉X.fs
 A5:X.EF.heap.FunFrames X.base X.outer
 So:∀b∈X.fs,X.Ua b=none
structure Inv(X:Cx)(pins:List (Addr×Obj))(σ:List (Option V))(H:Hp)(s:Shared):Prop where
 ok:X.Ok
 os:s.os=X.EF.os
 bare:AllBare s.gens
 base:Un X.fs X.ex X.Ua H X.EF.heap s.heap
 loc:∃m,s.heap.Ns X.env.locals m/\∀(i:Nat) (x:Str) (v:V),X.N[i]? =some x->σ[i]? =some (some v)->T1 X.env.scope x->∃u,RelV v u/\Look X.env s.heap m x u
 cell:∀x c,X.env.cells.lookup x=some c->∃v,s.heap.IsCell c v
 free:H X.env.locals=none
 tJ:∀x c,X.env.cells.lookup x=some c->H c=none
 pin:∀p∈X.pn ++ pins,s.heap.get? p.1=some p.2/\H p.1=none/\p.1≠X.env.locals/\p.1∉X.fs/\∀v,p.2.data≠.cell v
 iL:w9 X.prog X.w H s.heap
 len:σ.length=X.N.length
section
variable {X:Cx}{pins:List (Addr×Obj)}{σ:List (Option V)}{H H':Hp}{s:Shared}{h':Heap}
theorem Cx.Ok.VA(ok:X.Ok){b:Addr}{o:Obj}(e:X.base.get? b=some o):b∉X.fs:=fun hb=>by
 have:=(ok.A5.mem hb).1;rw[e] at this;cases this
theorem Inv.bs(I:Inv X pins σ H s):∀b o,X.base.get? b=some o->s.heap.get? b=some o/\H b=none:=fun b o e=>
 ⟨I.base.keep b o (I.ok.bs b o e).1 (I.ok.bs b o e).2 (I.ok.VA e) (I.ok.NW b o e),I.base.free b o (I.ok.bs b o e).1 (I.ok.bs b o e).2 (I.ok.NW b o e)⟩
theorem Inv.bk(I:Inv X pins σ H s):∀b o,X.base.get? b=some o->s.heap.get? b=some o:=fun b o e=>(I.bs b o e).1
theorem Inv.mod(I:Inv X pins σ H s):Mod X.K X.mg X.base:=I.ok.mod
theorem Inv.NO(I:Inv X pins σ H s):X.K.In s.heap:=I.ok.mod.T9.keeps I.bk
theorem Inv.nolimit(I:Inv X pins σ H s):s.heap.NoLimit:=I.ok.mod.nolimit.keeps I.bk
theorem Inv.lt(I:Inv X pins σ H s):X.env.locals<s.heap.objs.size:=let ⟨_,hn,_⟩:=I.loc;hn.lt
theorem Inv.sz(I:Inv X pins σ H s):X.EF.heap.objs.size<=s.heap.objs.size:=ay I.ok.above (b7 I.lt)
theorem Inv.VB(I:Inv X pins σ H s){a:Addr}(h:s.heap.objs.size<=a):a∉X.fs:=fun hb=>by
 obtain⟨_,o,ho,_⟩:=I.ok.A5.mem hb;exact absurd (aV (Heap.lt_size ho) (ay I.sz h)) (bQ _)
theorem Inv.Qx(I:Inv X pins σ H s):∀x c,X.env.cells.lookup x=some c->c≠X.env.locals:=fun x c e z=>by
 obtain⟨v,o,ho,hd⟩:=I.cell x c e;obtain⟨m,⟨o',es,ep,ho',hd',_⟩,_⟩:=I.loc;rw[z,ho'] at ho;cases ho;rw[hd'] at hd;cases hd
theorem Inv.A5(I:Inv X pins σ H s):s.heap.FunFrames X.base X.outer:=by
 have all:∀(l:List Env),(∀b∈NV l,b∈X.fs)->X.EF.heap.FunFrames X.base l->s.heap.FunFrames X.base l:=by
  intro l;induction l with
  |nil=>intro _ _;trivial
  |cons env r ih=>
   intro hs hl;obtain⟨hk,⟨L,o,hf,hn,ho,hd⟩,hr⟩:=hl;have hL:L∈X.fs:=hs L (by unfold NV;rw[cY,hf];exact ax);obtain⟨sl,e⟩:=I.base.slot L o ho (I.ok.So L hL) hL fun z=>I.ok.NX L z hL
   exact⟨hk,⟨L,_,hf,hn,e,hd⟩,ih (fun b hb=>hs b (by unfold NV;rw[cY,hf];exact ao _ hb)) hr⟩
 exact all X.outer (fun _ hb=>hb) I.ok.A5
theorem Inv.stack(I:Inv X pins σ H s):s.heap.FunFrames X.base X.stack:=by
 rcases I.ok.Sn with e |⟨e,hf⟩
 ·rw[e];exact I.A5
 ·rw[e];obtain⟨m,hn,_⟩:=I.loc;refine .cons (by rw[I.ok.kind];decide) hf hn ?_ I.A5;exact Heap.get?_none_of_le (ay I.ok.Qw I.ok.above)
theorem Inv.Jy(I:Inv X pins σ H s):∀b∈NV X.stack,b∈X.env.locals::X.fs:=fun b hb=>by
 rcases I.ok.Sn with e |⟨e,hf⟩
 ·rw[e] at hb;exact ao _ hb
 ·rw[e] at hb;unfold NV at hb;rw[cY,hf] at hb;exact hb
theorem Inv.K6(I:Inv X pins σ H s):∀b∈NV X.stack,H b=none:=fun b hb=>by
 rcases aJ.mp (I.Jy b hb) with e |hb
 ·rw[e];exact I.free
 ·obtain⟨_,o,ho,_⟩:=I.ok.A5.mem hb;exact I.base.free b o ho (I.ok.So b hb) fun z=>I.ok.NX b z hb
theorem Inv.step{g':Array GenState}{t':Nat}{d':Drawn}{ch:List Addr}(I:Inv X pins σ H s)
  (hch:∀b∈ch,(b∈X.ex\/X.EF.heap.objs.size<=b)/\b≠X.env.locals/\(∀x c,X.env.cells.lookup x=some c->c≠b)/\∀p∈X.pn ++ pins,p.1≠b)
  (keep:∀b o,b≠X.env.locals->b∉X.fs->b∉ch->s.heap.get? b=some o->H b=none->h'.get? b=some o)
  (slot:∀b o,b≠X.env.locals->b∈X.fs->b∉ch->s.heap.get? b=some o->H b=none->∃sl,h'.get? b=some {o with slots:=sl}) (free:∀b o,b∉ch->s.heap.get? b=some o->H b=none->H' b=none)
  (there:∀b o,b∉ch->s.heap.get? b=some o->∃o',h'.get? b=some o')
  (Hv:∀b xs,H b=some (.tup xs)->H' b=some (.tup xs)) (FW:∀b o u,H b=some (.FV o u)->H' b=some (.FV o u)) (Hw:∀b ps,H b=some (.Sk ps)->∃more,H' b=some (.Sk (ps ++ more)))
  (ns:∀m,s.heap.Ns X.env.locals m->h'.Ns X.env.locals m) (iL:w9 X.prog X.w H' h') (hg:AllBare g'):
  Inv X pins σ H' {s with heap:=h',gens:=g',drawn:=d',toks:=t'}:=by
 have neL:∀b o,X.EF.heap.get? b=some o->b≠X.env.locals:=fun b o e=>bx (aV (Heap.lt_size e) I.ok.above)
 have neC:∀b o,X.EF.heap.get? b=some o->b∉X.ex->b∉ch:=fun b o e hx hb=>by
  rcases(hch b hb).1 with z |z
  ·exact hx z
  ·exact absurd (aV (Heap.lt_size e) z) (bQ _)
 have cellK:∀x c,X.env.cells.lookup x=some c->∀v,s.heap.IsCell c v->h'.IsCell c v:=fun x c e v ⟨o,ho,hd⟩=>by
  have nch:c∉ch:=fun z=>(hch c z).2.2.1 x c e rfl
  by_cases hc:c∈X.fs
  ·obtain⟨sl,q⟩:=slot c o (I.Qx x c e) hc nch ho (I.tJ x c e);exact⟨_,q,hd⟩
  ·exact⟨o,keep c o (I.Qx x c e) hc nch ho (I.tJ x c e),hd⟩
 refine⟨I.ok,I.os,hg,⟨fun b o e n hb hx=> ?_,fun b o e n hb hx=> ?_,fun b o e n hx=> ?_,fun b o e hx=> ?_,fun b xs e=>Hv b xs (I.base.Hv b xs e),fun b o xs e=>FW b o xs (I.base.FW b o xs e),fun b ps e=> ?_⟩,?_,fun x c e=> ?_,?_,fun x c e=> ?_,fun p hp=> ?_,iL,I.len⟩
 ·exact keep b o (neL b o e) hb (neC b o e hx) (I.base.keep b o e n hb hx) (I.base.free b o e n hx)
 ·obtain⟨sl,e1⟩:=I.base.slot b o e n hb hx;obtain⟨sl',e2⟩:=slot b _ (neL b o e) hb (neC b o e hx) e1 (I.base.free b o e n hx);exact⟨sl',e2⟩
 ·obtain⟨o',e1⟩:=I.base.there b o e hx;exact free b o' (neC b o e hx) e1 (I.base.free b o e n hx)
 ·obtain⟨o',e1⟩:=I.base.there b o e hx;exact there b o' (neC b o e hx) e1
 ·obtain⟨m1,e1⟩:=I.base.Hw b ps e;obtain⟨m2,e2⟩:=Hw b _ e1;exact⟨m1 ++ m2,by rw[e2,Array.append_assoc]⟩
 ·obtain⟨m,hn,hl⟩:=I.loc;refine⟨m,ns m hn,fun i x v e1 e2 e3=> ?_⟩;obtain⟨u,r,l⟩:=hl i x v e1 e2 e3;refine⟨u,r,?_⟩;rcases l with l |⟨k,c,e,z⟩
  ·exact .inl l
  ·exact .inr ⟨k,c,e,cellK x c e _ z⟩
 ·obtain⟨v,z⟩:=I.cell x c e;exact⟨v,cellK x c e v z⟩
 ·obtain⟨m,⟨o,_,_,ho,_⟩,_⟩:=I.loc;exact free _ o (fun z=>(hch _ z).2.1 rfl) ho I.free
 ·obtain⟨v,o,ho,hd⟩:=I.cell x c e;exact free c o (fun z=>(hch c z).2.2.1 x c e rfl) ho (I.tJ x c e)
 ·obtain⟨e,n,ne,nf,d⟩:=I.pin p hp;have nch:p.1∉ch:=fun z=>(hch p.1 z).2.2.2 p hp rfl
  exact⟨keep p.1 p.2 ne nf nch e n,free p.1 p.2 nch e n,ne,nf,d⟩
theorem Inv.un{t':Nat}(I:Inv X pins σ H s)(u:Un X.fs [] H H' s.heap h')(iL:w9 X.prog X.w H' h'):Inv X pins σ H' {s with heap:=h',toks:=t'}:=by
 obtain⟨m,⟨o,es,ep,ho,r⟩,_⟩:=id I.loc;obtain⟨sl,hL⟩:=u.any ho I.free (by simp);exact I.step (g':=s.gens) (d':=s.drawn) (ch:=[]) (fun _ z=>nomatch z) (fun b o _ hb _ e n=>u.keep b o e n hb (by simp)) (fun b o _ hb _ e n=>u.slot b o e n hb (by simp)) (fun b o _ e n=>u.free b o e n (by simp)) (fun b o _ e=>u.there b o e (by simp)) u.Hv u.FW u.Hw (fun m' hm=>by
  obtain⟨o',es',ep',ho',r'⟩:=hm;rw[ho] at ho';cases ho'
  exact⟨_,es',ep',hL,r'⟩) iL I.bare
theorem Inv.call{g':Array GenState}{t':Nat}{d':Drawn}{ch:List Addr}(I:Inv X pins σ H s)(u:Un (NV X.stack) ch H H' s.heap h')(iL:w9 X.prog X.w H' h')(hg:AllBare g')
  (hch:∀b∈ch,(b∈X.ex\/X.EF.heap.objs.size<=b)/\b≠X.env.locals/\(∀x c,X.env.cells.lookup x=some c->c≠b)/\∀p∈X.pn ++ pins,p.1≠b):
  Inv X pins σ H' {s with heap:=h',gens:=g',drawn:=d',toks:=t'}:=by
 obtain⟨m,⟨o,es,ep,ho,r⟩,_⟩:=id I.loc;obtain⟨sl,hL⟩:=u.any ho I.free fun z=>(hch _ z).2.1 rfl
 exact I.step (ch:=ch) hch (fun b o hL hb hc e n=>u.keep b o e n (fun z=>(aJ.mp (I.Jy b z)).elim hL hb) hc) (fun b o _ _ hc e n=>u.any e n hc) (fun b o hc e n=>u.free b o e n hc) (fun b o hc e=>u.there b o e hc) u.Hv u.FW u.Hw (fun m' hm=>by
  obtain⟨o',es',ep',ho',r'⟩:=hm;rw[ho] at ho';cases ho'
  exact⟨_,es',ep',hL,r'⟩) iL hg
theorem Inv.turned{t':Nat}{it:Addr}(I:Inv X pins σ H s)(k:∀b o,b≠it->s.heap.get? b=some o->h'.get? b=some o)(hn:H it=none)(hL:it≠X.env.locals)
  (h1:it∈X.ex\/X.EF.heap.objs.size<=it) (h2:∀x c,X.env.cells.lookup x=some c->c≠it) (h3:∀p∈X.pn ++ pins,p.1≠it):Inv X pins σ H {s with heap:=h',toks:=t'}:=by
 have nit:∀b u,H b=some u->b≠it:=fun b u e z=>by rw[z,hn] at e;cases e
 refine I.step (g':=s.gens) (d':=s.drawn) (ch:=[it]) (fun b hb=> ?_) (fun b o _ _ hc e _=>k b o (fun z=>hc (by simp[z])) e) (fun b o _ _ hc e _=>⟨o.slots,k b o (fun z=>hc (by simp[z])) e⟩) (fun _ _ _ _ n=>n)
  (fun b o hc e=>⟨o,k b o (fun z=>hc (by simp[z])) e⟩) (fun _ _ e=>e) (fun _ _ _ e=>e) (fun b ps e=>⟨#[],by rw[e];simp⟩) (fun m hm=> ?_) (fun b u e=> ?_) I.bare
 ·have e:b=it:=by simpa using hb
  subst e;exact⟨h1,hL,h2,h3⟩
 ·obtain⟨o,es,ep,ho,r⟩:=hm;exact⟨o,es,ep,k _ o (bL hL) ho,r⟩
 ·refine(I.iL b u e).Jx (fun c v hc q=>k c v ?_ q) (fun _ q=>q) fun _ _ q=>q
  rcases hc with z |z
  ·rw[z];exact nit b u e
  ·exact nit c _ z
theorem Inv.tok(I:Inv X pins σ H s)(t:Nat):Inv X pins σ H {s with toks:=t}:=I.un (h':=s.heap) (t':=t) Un.refl I.iL
theorem Inv.kept{t':Nat}(I:Inv X pins σ H s)(k:∀b u,s.heap.get? b=some u->h'.get? b=some u):Inv X pins σ H {s with heap:=h',toks:=t'}:=I.un (Un.kept k) (I.iL.kept k)
theorem Inv.laid{a:Addr}{o:HO}{t':Nat}(I:Inv X pins σ H s)(k:∀b u,s.heap.get? b=some u->h'.get? b=some u)(hp:s.heap.objs.size<=a)(new:kh X.prog X.w (upd H a o) h' a o):
  Inv X pins σ (upd H a o) {s with heap:=h',toks:=t'}:=I.un (Un.laid k hp (I.iL.fresh hp)) (I.iL.laid k hp new)
theorem Inv.write{x e:Addr}{o:HO}{t':Nat}(I:Inv X pins σ H s)(mu:Vr (H x))(he:e=x\/H e=some (.own x))(k:∀b u,b≠e->s.heap.get? b=some u->h'.get? b=some u)(heo:∃u,h'.get? e=some u)
  (new:kh X.prog X.w (upd H x o) h' x o):Inv X pins σ (upd H x o) {s with heap:=h',toks:=t'}:=I.un (Un.write mu he k heo) (I.iL.write mu he k heo new)
theorem Inv.weak{σ':List (Option V)}(I:Inv X pins σ H s)(hl:σ'.length=σ.length)(w:∀(i:Nat) v,σ'[i]? =some (some v)->σ[i]? =some (some v)):Inv X pins σ' H s:=
 ⟨I.ok,I.os,I.bare,I.base,let ⟨m,hn,hl'⟩:=I.loc;⟨m,hn,fun i x v e1 e2 e3=>hl' i x v e1 (w i v e2) e3⟩,I.cell,I.free,I.tJ,I.pin,I.iL,hl.trans I.len⟩
theorem Inv.K7{pins':List (Addr×Obj)}(I:Inv X pins σ H s)(h:∀p∈pins',s.heap.get? p.1=some p.2/\H p.1=none/\p.1≠X.env.locals/\p.1∉X.fs/\∀v,p.2.data≠.cell v):Inv X pins' σ H s:=
 ⟨I.ok,I.os,I.bare,I.base,I.loc,I.cell,I.free,I.tJ,fun p hp=>(aN.mp hp).elim (fun z=>I.pin p (cP _ z)) (h p),I.iL,I.len⟩
theorem BS{N:List Str}(hN:N.Nodup){i j:Nat}{x:Str}(a:N[i]? =some x)(b:N[j]? =some x):i=j:=by
 obtain⟨h1,e1⟩:=bh.mp a;obtain⟨h2,e2⟩:=bh.mp b;exact(List.getElem_inj hN).mp (e1.trans e2.symm)
theorem EG{M:Model}{A:Around}{E:Value->Shared->Prop}{i:Nat}{x:Str}{v:V}{u:Value}{Q:Unit->Shared->Prop}(I:Inv X pins σ H s)(hN:X.N.Nodup)(hi:X.N[i]? =some x)(hx:Loc X.env.scope x)(r:RelV v u)
  (h:∀s',Inv X pins (σ.set i (some v)) H s'->(∃a,Heap.SameBut a s.heap s'.heap/\(a=X.env.locals\/X.env.cells.lookup x=some a))->Q () s') (hf:X.fn x=true\/X.env.scope.names.lookup x=some .local:=by first |exact .inl rfl |exact .inr rfl |assumption):wpAny M A (storeName X.env x u) Q E s:=by
 obtain⟨m,hn,hl⟩:=id I.loc;have hcls:(X.env.scope.kind== .class ||(X.env.scope.kind== .module&&X.env.locals !=X.env.globals))=false:=by rw[I.ok.kind];rfl
 have hiσ:i<σ.length:=by rw[I.len];exact(bh.mp hi).1
 have Qx:=I.Qx;have tracked:∀{a:Addr} {h':Heap},(∃o,s.heap.get? a=some o/\H a=none)->Heap.SameBut a s.heap h'->w9 X.prog X.w H h':=fun{a h'} ha hs b ob e=>by
  obtain⟨_,_,hfree⟩:=ha;refine(I.iL b ob e).Jx (fun c w' hc q=>(hs.2 c ?_).trans q) (fun _ q=>q) fun _ _ q=>q
  rintro rfl;rcases hc with rfl |hc
  ·rw[hfree] at e;cases e
  ·rw[hfree] at hc;cases hc
 rcases hx with hk |hk
 ·refine wpAny_storeName_local hk hn (fun h' hn' hs=> ?_) hcls;obtain⟨oL,_,_,hoL,_⟩:=id hn;refine h _ ⟨I.ok,I.os,I.bare,⟨fun b o e n hb hx=> ?_,fun b o e n hb hx=> ?_,I.base.free,fun b o e hx=> ?_,I.base.Hv,I.base.FW,I.base.Hw⟩,⟨_,hn',fun j y v' e1 e2 e3=> ?_⟩,fun y c e=> ?_,I.free,I.tJ,fun p hp=> ?_,tracked ⟨oL,hoL,I.free⟩ hs,by simpa using I.len⟩ ⟨_,hs,.inl rfl⟩
  ·exact(hs.2 b (bx (aV (Heap.lt_size e) I.ok.above))).trans (I.base.keep b o e n hb hx)
  ·obtain⟨sl,e1⟩:=I.base.slot b o e n hb hx;exact⟨sl,(hs.2 b (bx (aV (Heap.lt_size e) I.ok.above))).trans e1⟩
  ·obtain⟨o',e1⟩:=I.base.there b o e hx;exact⟨o',(hs.2 b (bx (aV (Heap.lt_size e) I.ok.above))).trans e1⟩
  ·by_cases hj:j=i
   ·subst hj;rw[hi] at e1;cases e1
    rw[List.getElem?_set_self hiσ] at e2;cases e2
    exact⟨u,r,.inl ⟨hk,by simp⟩⟩
   ·rw[List.getElem?_set_ne (bL hj)] at e2;obtain⟨u',r',q⟩:=hl j y v' e1 e2 e3;refine⟨u',r',?_⟩;rcases q with⟨k,e⟩ |⟨k,c,e,z⟩
    ·refine .inl ⟨k,?_⟩;have:y≠x:=fun e=>hj (BS hN e1 (e▸hi))
     simp[this,e]
    ·exact .inr ⟨k,c,e,z.sameBut hs (Qx y c e)⟩
  ·obtain⟨w',z⟩:=I.cell y c e;exact⟨w',z.sameBut hs (Qx y c e)⟩
  ·obtain⟨e,n,ne,nf,d⟩:=I.pin p hp;exact⟨(hs.2 p.1 ne).trans e,n,ne,nf,d⟩
 ·have hfn:X.fn x=true:=by
   rcases hf with z |z
   ·exact z
   ·rw[z] at hk;cases hk
  obtain⟨c,hc⟩:=I.ok.has x (.inl hk);obtain⟨w',z⟩:=I.cell x c hc;refine wpAny_storeName_cell I.ok.kind hk hc z (fun h' hc' hs=> ?_);obtain⟨oc,hoc,hocd⟩:=id z;refine h {s with heap:=h'} ⟨I.ok,I.os,I.bare,⟨fun b o e n hb hx=> ?_,fun b o e n hb hx=> ?_,I.base.free,fun b o e hx=> ?_,I.base.Hv,I.base.FW,I.base.Hw⟩,⟨m,hn.sameBut hs (bL (Qx x c hc)),fun j y v' e1 e2 e3=> ?_⟩,fun y c' e=> ?_,I.free,I.tJ,fun p hp=> ?_,tracked ⟨oc,hoc,I.tJ x c hc⟩ hs,by simpa using I.len⟩ ⟨c,hs,.inr hc⟩
  ·exact(hs.2 b (bx (aV (Heap.lt_size e) (I.ok.Ub x c hfn hc)))).trans (I.base.keep b o e n hb hx)
  ·obtain⟨sl,e1⟩:=I.base.slot b o e n hb hx;exact⟨sl,(hs.2 b (bx (aV (Heap.lt_size e) (I.ok.Ub x c hfn hc)))).trans e1⟩
  ·obtain⟨o',e1⟩:=I.base.there b o e hx;exact⟨o',(hs.2 b (bx (aV (Heap.lt_size e) (I.ok.Ub x c hfn hc)))).trans e1⟩
  ·by_cases hj:j=i
   ·subst hj;rw[hi] at e1;cases e1
    rw[List.getElem?_set_self hiσ] at e2;cases e2
    exact⟨u,r,.inr ⟨.inl hk,c,hc,hc'⟩⟩
   ·rw[List.getElem?_set_ne (bL hj)] at e2;obtain⟨u',r',q⟩:=hl j y v' e1 e2 e3;refine⟨u',r',?_⟩;rcases q with q |⟨k,c',e,z'⟩
    ·exact .inl q
    ·refine .inr ⟨k,c',e,z'.sameBut hs ?_⟩;rintro rfl;exact hj (BS hN e1 (I.ok.inj _ _ _ e hc▸hi))
  ·by_cases hcc:c'=c
   ·subst hcc;exact⟨_,hc'⟩
   ·obtain⟨w2,z2⟩:=I.cell y c' e;exact⟨w2,z2.sameBut hs hcc⟩
  ·obtain⟨e,n,ne,nf,d⟩:=I.pin p hp;refine⟨(hs.2 p.1 ?_).trans e,n,ne,nf,d⟩;intro q;rw[q,hoc] at e;have q':oc=p.2:=aZ e;exact d w' (by rw[<-q'];exact hocd)
theorem BU{M:Model}{A:Around}{E:Value->Shared->Prop}{i:Nat}{x:Str}{v:V}{u:Value}{Q:Unit->Shared->Prop}(I:Inv X pins σ H s)(hN:X.N.Nodup)(hi:X.N[i]? =some x)(hx:Loc X.env.scope x)(r:RelV v u)
  (h:∀s',Inv X pins (σ.set i (some v)) H s'->Q () s') (hf:X.fn x=true\/X.env.scope.names.lookup x=some .local:=by first |exact .inl rfl |exact .inr rfl |assumption):wpAny M A (storeName X.env x u) Q E s:=
 EG I hN hi hx r (fun s' I' _=>h s' I') hf
theorem Inv.Uc{s':Shared}{ch:List Addr}(I:Inv X pins σ H s)(ho:s'.os=s.os)(u:Un (NV X.stack) ch H H' s.heap s'.heap)(iL:w9 X.prog X.w H' s'.heap)(hg:AllBare s'.gens)
  (hch:∀b∈ch,(b∈X.ex\/X.EF.heap.objs.size<=b)/\b≠X.env.locals/\(∀x c,X.env.cells.lookup x=some c->c≠b)/\∀p∈X.pn ++ pins,p.1≠b):Inv X pins σ H' s':=by
 obtain⟨h',g',d',t',o'⟩:=s';have e:o'=s.os:=ho;subst e;exact I.call (g':=g') (t':=t') (d':=d') u iL hg hch
end
noncomputable abbrev XK:=Value->Option Addr->Hp->Prop
noncomputable abbrev St:=List (Option V)
noncomputable abbrev VK:=V->Hp->Prop
noncomputable abbrev TE:=St->Hp->VK->Prop
noncomputable abbrev TT:=St->Hp->(Bool->Hp->Prop)->Prop
noncomputable abbrev TA:=St->Hp->(List V->Hp->Prop)->Prop
structure Ends where
 nx:St->Hp->Prop
 rt:VK
 bk:St->Hp->Prop:=fun _ _=>False
 ct:St->Hp->Prop:=fun _ _=>False
noncomputable abbrev TS:=Ends->St->Hp->Prop
noncomputable def EP (X:Cx) (pins:List (Addr×Obj)) (σ:St) (Q:VK) (u:Value) (s':Shared):Prop:=∃v H',Inv X pins σ H' s'/\RelV v u/\Q v H'
noncomputable def TP (X:Cx) (pins:List (Addr×Obj)) (σ:St) (Q:Bool->Hp->Prop) (b:Bool) (s':Shared):Prop:=∃H',Inv X pins σ H' s'/\Q b H'
noncomputable def AP (X:Cx) (pins:List (Addr×Obj)) (σ:St) (Q:List V->Hp->Prop) (us:List Value) (s':Shared):Prop:=∃vs H',Inv X pins σ H' s'/\Vals vs us/\Q vs H'
noncomputable def SP (X:Cx) (pins:List (Addr×Obj)) (D:Ends) (f:Flow) (s':Shared):Prop:=
 match f with
 | .next=>∃σ' H',Inv X pins σ' H' s'/\D.nx σ' H'
 | .brk=>∃σ' H',Inv X pins σ' H' s'/\D.bk σ' H'
 | .cont=>∃σ' H',Inv X pins σ' H' s'/\D.ct σ' H'
 | .ret u=>∃v σ' H',Inv X pins σ' H' s'/\RelV v u/\D.rt v H'
noncomputable def PE (X:Cx) (e:Expr) (t:TE):Prop:=
 ∀(pins:List (Addr×Obj)) (s:Shared) (σ:St) (H:Hp) (Q:VK),Inv X pins σ H s->t σ H Q->wpAny (model X.prog X.w) X.A (eval e X.env) (EP X pins σ Q) X.xe s
noncomputable def PT (X:Cx) (e:Expr) (t:TT):Prop:=
 ∀(pins:List (Addr×Obj)) (s:Shared) (σ:St) (H:Hp) (Q:Bool->Hp->Prop),Inv X pins σ H s->t σ H Q->wpAny (model X.prog X.w) X.A (isTrue e X.env (eval e X.env)) (TP X pins σ Q) X.xe s
noncomputable def PW (X:Cx) (e:Expr) (t:TT):Prop:=
 ∀(whole:Sem Value) (pins:List (Addr×Obj)) (s:Shared) (σ:St) (H:Hp) (Q:Bool->Hp->Prop),Inv X pins σ H s->t σ H Q->wpAny (model X.prog X.w) X.A (isTrue e X.env whole) (TP X pins σ Q) X.xe s
theorem PW.pt{X:Cx}{e:Expr}{t:TT}(h:PW X e t):PT X e t:=h _
noncomputable def PA (X:Cx) (es:List Expr) (t:TA):Prop:=
 ∀(pos:Pos) (pins:List (Addr×Obj)) (s:Shared) (σ:St) (H:Hp) (Q:List V->Hp->Prop),Inv X pins σ H s->t σ H Q->wpAny (model X.prog X.w) X.A (spliced (backTo pos (starEach es X.env))) (AP X pins σ Q) X.xe s
noncomputable def PS (X:Cx) (st:Stmt) (t:TS):Prop:=
 ∀(pins:List (Addr×Obj)) (s:Shared) (σ:St) (H:Hp) (D:Ends),Inv X pins σ H s->t D σ H->wpAny (model X.prog X.w) X.A (exec st X.env) (SP X pins D) X.xe s
noncomputable def Jz (X:Cx) (st:List Stmt) (t:TS):Prop:=
 ∀(pins:List (Addr×Obj)) (s:Shared) (σ:St) (H:Hp) (D:Ends),Inv X pins σ H s->t D σ H->wpAny (model X.prog X.w) X.A (execs st X.env) (SP X pins D) X.xe s
theorem ic{α:Type}{t:Sem α}{Q Q':α->Shared->Prop}{M:Model}{A:Around}{E:Value->Shared->Prop}{s:Shared}(h:wpAny M A t Q E s)(hQ:∀a s,Q a s->Q' a s):wpAny M A t Q' E s:=wpAny_mono h hQ fun _ _ x=>x
section
variable {X:Cx}
noncomputable def vL (i:Nat):TE:=fun σ H Q=>∃v,σ[i]? =some (some v)/\Q v H
noncomputable def tC (v:V):TE:=fun _ H Q=>Q v H
theorem Sq{i:Nat}{x:Str}{pos:Pos}(hN:X.N[i]? =some x)(hv:T1 X.env.scope x)(hd:(x==("__debug__":Str))=false:=by decide)(hcd:(x==("__classdict__":Str))=false:=by decide):PE X (.Name x pos) (vL i):=by
 intro pins s σ H Q I h;obtain⟨v,e,h⟩:=h;obtain⟨m,hn,hl⟩:=I.loc;obtain⟨u,r,l⟩:=hl i x v hN e hv;have fin:EP X pins σ Q u s:=⟨v,H,I,r,h⟩;rcases l with⟨hk,hm⟩ |⟨hk,c,hc,hcell⟩
 ·exact wpAny_Name (wpAny_loadName_local I.ok.kind hk hn hm fin) hd
 ·rcases hk with hk |hk
  ·exact wpAny_Name (wpAny_loadName_cell I.ok.kind hk hc hcell fin) hd
  ·exact wpAny_Name (wpAny_loadName_free I.ok.kind hk hc hcell fin hcd) hd
theorem dC{i j pos}:PE X (.Constant (.int i) j pos) (tC (.int i)):=fun _ _ _ H _ I h=>wpAny_Constant_int ⟨.int i,H,I.tok _,⟨_,rfl⟩,h⟩
theorem sL{b j pos}:PE X (.Constant (.bool b) j pos) (tC (.bl b)):=fun _ _ _ H _ I h=>Constant_bool ⟨.bl b,H,I,rfl,h⟩
theorem JA{j pos}:PE X (.Constant .none j pos) (tC .jS):=fun _ _ _ H _ I h=>Constant_none ⟨.jS,H,I,rfl,h⟩
noncomputable def Gl (X:Cx) (x:Str):Prop:=X.env.kindOf x=some .globalImplicit
theorem FX{E:Value->Shared->Prop}{pins:List (Addr×Obj)}{s:Shared}{σ:St}{H:Hp}{x:Str}{u:Value}{pos:Pos}{Q:Value->Shared->Prop}(I:Inv X pins σ H s)(hg:Gl X x)(hm:X.mg x=some u)(h:Q u s)
  (hd:(x==("__debug__":Str))=false:=by decide):wpAny (model X.prog X.w) X.A (eval (.Name x pos) X.env) Q E s:=
 Calls.Name_function_global I.ok.kind hg (Calls.loadGlobal_global (by rw[I.ok.glob];exact I.mod.glob.keeps I.bk) hm h) hd
theorem tK{E:Value->Shared->Prop}{pins:List (Addr×Obj)}{s:Shared}{σ:St}{H:Hp}{x:Str}{u:Value}{pos:Pos}{Q:Value->Shared->Prop}(I:Inv X pins σ H s)(hg:Gl X x)(hm:X.mg x=none)(hv:bootBuiltins x=some u)(h:Q u s)
  (hn:x≠"__name__":=by decide) (hd:(x==("__debug__":Str))=false:=by decide):wpAny (model X.prog X.w) X.A (eval (.Name x pos) X.env) Q E s:=by
 obtain⟨mb,h1,h2⟩:=I.mod.blt;exact Calls.Name_function_global I.ok.kind hg (Calls.loadGlobal_builtin (by rw[I.ok.glob];exact I.mod.glob.keeps I.bk) hm (by rw[I.ok.blt];exact h1.keeps I.bk) ((h2 x hn).trans hv) h) hd
theorem K8{x:Str}{v:V}{u:Value}{pos:Pos}(hg:Gl X x)(hm:X.mg x=some u)(r:RelV v u)(hd:(x==("__debug__":Str))=false:=by decide):PE X (.Name x pos) (tC v):=
 fun _ _ _ H _ I h=>FX I hg hm ⟨v,H,I,r,h⟩ hd
variable {a b:Expr}{ta tb:TE}{pos:Pos}
noncomputable def PC (X:Cx) (op:CmpOp) (a b:Expr) (t:TE):Prop:=
 ∀(pins:List (Addr×Obj)) (s:Shared) (σ:St) (H:Hp) (Q:VK),Inv X pins σ H s->t σ H Q->
  wpAny (model X.prog X.w) X.A (eval a X.env) (fun v s₁=>wpAny (model X.prog X.w) X.A (eval b X.env) (fun u s₂=>wpAny (model X.prog X.w) X.A (compareOp op v u) (EP X pins σ Q) X.xe s₂) X.xe s₁) X.xe s
theorem NY(b:Expr){op:CmpOp}(h:op≠.In)(h2:op≠.NotIn):behindInMarks op b=false:=by
 have e1:(op==CmpOp.In)=false:=by cases op <;>first |rfl |exact absurd rfl h
 have e2:(op==CmpOp.NotIn)=false:=by cases op <;>first |rfl |exact absurd rfl h2
 cases b <;>simp[behindInMarks,e1,e2]
noncomputable def VC (ta:TE):TE:=fun σ H Q=>ta σ H fun x H1=>Q (.bl (decide (x= .jS))) H1
noncomputable def Ud (ta:TE):TE:=fun σ H Q=>ta σ H fun x H1=>Q (.bl (!decide (x= .jS))) H1
theorem RelV.Hx{x:V}{v:Value}(r:RelV x v):(v==Value.none)=decide (x= .jS):=by
 cases x with
 |jS=>cases r;rfl
 |bl _=>cases r;rfl
 |int _=>obtain⟨t,rfl⟩:=r;rfl
 |str _=>obtain⟨t,rfl⟩:=r;rfl
 |FU _=>obtain⟨t,rfl⟩:=r;rfl
 |T8 _=>obtain⟨t,rfl⟩:=r;rfl
 |ref _=>cases r;rfl
 |ty _=>cases r;rfl
theorem JB{j pos'}(ha:PE X a ta):PC X .Is a (.Constant .none j pos') (VC ta):=by
 intro pins s σ H Q I h;refine ic (ha pins s σ H _ I h) fun v s1 ⟨x,H1,I1,r1,q1⟩=> ?_
 exact Constant_none (is_none_gen ⟨.bl _,H1,I1,by rw[r1.Hx];rfl,q1⟩)
theorem Qy{j pos'}(ha:PE X a ta):PC X .IsNot a (.Constant .none j pos') (Ud ta):=by
 intro pins s σ H Q I h;refine ic (ha pins s σ H _ I h) fun v s1 ⟨x,H1,I1,r1,q1⟩=> ?_
 exact Constant_none (isnot_none_gen ⟨.bl _,H1,I1,by rw[r1.Hx];rfl,q1⟩)
noncomputable def tB (t:TE):TT:=fun σ H Q=>t σ H fun x H1=>∃c,x= .bl c/\Q c H1
theorem FY{op:CmpOp}{t:TE}(h:PC X op a b t)(h1:behindInMarks op b=false:=by first |exact NY _ (by decide) (by decide) |rfl):PT X (.Compare a [op] [b] pos) (tB t):=by
 intro pins s σ H Q I hw;refine wpAny_isTrue_Compare1 (ic (h pins s σ H _ I hw) fun v s1 h1=>ic h1 fun u s2 h2=>ic h2 fun c s3 ⟨x,H1,I1,r1,q1⟩=> ?_) h1;obtain⟨d,rfl,q⟩:=q1;cases r1
 exact wpAny_truthy_bool ⟨H1,I1,q⟩
variable {tA tB':TT}{rest:List Expr}
noncomputable def VD (t u:TT):TT:=fun σ H Q=>t σ H fun c H1=>if c=true then u σ H1 Q else Q false H1
noncomputable def WT (t u:TT):TT:=fun σ H Q=>t σ H fun c H1=>if c=true then Q true H1 else u σ H1 Q
noncomputable def VE (t:TT):TT:=fun σ H Q=>t σ H fun c H1=>Q (!c) H1
theorem FZ(ha:PT X a tA):PW X (.BoolOp .And [a] pos) tA:=by
 intro wh pins s σ H Q I h;refine isTrue_and (ic (ha pins s σ H Q I h) fun c s1 e=> ?_);cases c with
 |true=>exact isTrue_and_nil e
 |false=>exact e
theorem yP(ha:PT X a tA):PW X (.BoolOp .Or [a] pos) tA:=by
 intro wh pins s σ H Q I h;refine isTrue_or (ic (ha pins s σ H Q I h) fun c s1 e=> ?_);cases c with
 |false=>exact isTrue_or_nil e
 |true=>exact e
theorem JC(ha:PT X a tA)(hb:PW X (.BoolOp .And (b::rest) pos) tB'):PW X (.BoolOp .And (a::b::rest) pos) (VD tA tB'):=by
 intro wh pins s σ H Q I h;refine isTrue_and (ic (ha pins s σ H _ I h) fun c s1 ⟨H1,I1,q1⟩=> ?_);cases c with
 |true=>exact hb wh pins s1 σ H1 Q I1 q1
 |false=>exact⟨H1,I1,q1⟩
theorem BV(ha:PT X a tA)(hb:PW X (.BoolOp .Or (b::rest) pos) tB'):PW X (.BoolOp .Or (a::b::rest) pos) (WT tA tB'):=by
 intro wh pins s σ H Q I h;refine isTrue_or (ic (ha pins s σ H _ I h) fun c s1 ⟨H1,I1,q1⟩=> ?_);cases c with
 |true=>exact⟨H1,I1,q1⟩
 |false=>exact hb wh pins s1 σ H1 Q I1 q1
theorem kj(ha:PT X a tA):PT X (.UnaryOp .Not a pos) (VE tA):=by
 intro pins s σ H Q I h;exact isTrue_not (ha pins s σ H (fun c H1=>Q (!c) H1) I h)
noncomputable def Ue (ta tb:TE):TE:=fun σ H Q=>ta σ H fun x H1=>∃c,x= .bl c/\if c=true then tb σ H1 Q else Q (.bl false) H1
noncomputable def VF (ta tb:TE):TE:=fun σ H Q=>ta σ H fun x H1=>∃c,x= .bl c/\if c=true then Q (.bl true) H1 else tb σ H1 Q
theorem BW{op}{t:TE}(h:PE X a t):PE X (.BoolOp op [a] pos) t:=fun pins s σ H Q I hw=>BoolOp_one (h pins s σ H Q I hw)
theorem JD(ha:PE X a ta)(hb:PE X (.BoolOp .And (b::rest) pos) tb):PE X (.BoolOp .And (a::b::rest) pos) (Ue ta tb):=by
 intro pins s σ H Q I h;refine BoolOp_and (ic (ha pins s σ H _ I h) fun v s1 ⟨x,H1,I1,r1,q1⟩=> ?_);obtain⟨c,rfl,q1⟩:=q1;cases r1
 refine wpAny_truthy_bool ?_;cases c with
 |true=>exact hb pins s1 σ H1 Q I1 q1
 |false=>exact⟨.bl false,H1,I1,rfl,q1⟩
theorem Ug(ha:PE X a ta)(hb:PE X (.BoolOp .Or (b::rest) pos) tb):PE X (.BoolOp .Or (a::b::rest) pos) (VF ta tb):=by
 intro pins s σ H Q I h;refine BoolOp_or (ic (ha pins s σ H _ I h) fun v s1 ⟨x,H1,I1,r1,q1⟩=> ?_);obtain⟨c,rfl,q1⟩:=q1;cases r1
 refine wpAny_truthy_bool ?_;cases c with
 |false=>exact hb pins s1 σ H1 Q I1 q1
 |true=>exact⟨.bl true,H1,I1,rfl,q1⟩
noncomputable def WU (t:TT) (ta tb:TE):TE:=fun σ H Q=>t σ H fun c H1=>if c=true then ta σ H1 Q else tb σ H1 Q
theorem mM{c:Expr}(hc:PT X c tA)(ha:PE X a ta)(hb:PE X b tb):PE X (.IfExp c a b pos) (WU tA ta tb):=by
 intro pins s σ H Q I h;refine wpAny_IfExp (ic (hc pins s σ H _ I h) fun d s1 ⟨H1,I1,q1⟩=> ?_);cases d with
 |true=>exact ha pins s1 σ H1 Q I1 q1
 |false=>exact hb pins s1 σ H1 Q I1 q1
end
noncomputable def kg (K:PySem.W.Frag) (H:Hp) (a:Addr) (xs:List V):Prop:=
 Rd H a (.lst xs)\/
  ∃(o:Obj) (its:Array Value) (n:Nat),K.lookup a=some o/\o.cls= .type "list"/\o.dict=none/\o.data= .seq its n/\its.size<=sizeLine/\Vals xs its.toList
noncomputable def BX (K:PySem.W.Frag) (H:Hp) (a:Addr) (xs:List V):Prop:=
 Rd H a (.tup xs)\/
  ∃(o:Obj) (its:Array Value) (n:Nat),K.lookup a=some o/\o.cls= .type "tuple"/\o.data= .seq its n/\its.size<=sizeLine/\Vals xs its.toList
noncomputable def VG:Value->Option V
 | .none=>some .jS
 | .bool b=>some (.bl b)
 | .int i _=>some (.int i)
 | .str x _=>some (.str x)
 | .bytes b _=>some (.FU b)
 | .float b _=>some (.T8 b)
 | .ref a=>some (.ref a)
 | .type n=>some (.ty n)
 |_=>none
theorem RelV.abs{x:V}{u:Value}(r:RelV x u):VG u=some x:=by
 cases x with
 |jS=>cases r;rfl
 |bl _=>cases r;rfl
 |int _=>obtain⟨t,rfl⟩:=r;rfl
 |str _=>obtain⟨t,rfl⟩:=r;rfl
 |FU _=>obtain⟨t,rfl⟩:=r;rfl
 |T8 _=>obtain⟨t,rfl⟩:=r;rfl
 |ref _=>cases r;rfl
 |ty _=>cases r;rfl
theorem RelV.inj{x y:V}{u:Value}(r:RelV x u)(q:RelV y u):x=y:=aZ (r.abs.symm.trans q.abs)
theorem Vals.inj:∀{xs ys:List V} {us:List Value},Vals xs us->Vals ys us->xs=ys
 |_,_,_,.nil,.nil=>rfl
 |_,_,_,.cons r t,.cons r' t'=>by rw[r.inj r',Vals.inj t t']
section
variable {X:Cx}{pins:List (Addr×Obj)}{σ:St}{H:Hp}{s:Shared}{a:Addr}{xs ys:List V}
theorem kg.of{K:PySem.W.Frag}(h:H a=some (.lst xs)):kg K H a xs:= .inl (.inl h)
theorem BX.of{K:PySem.W.Frag}(h:H a=some (.tup xs)):BX K H a xs:= .inl (.inl h)
theorem Inv.list(I:Inv X pins σ H s)(h:kg X.K H a xs):∃its:List Value,Vals xs its/\PlainL s.heap a its.toArray/\xs.length<=sizeLine:=by
 rcases h with h |⟨o,its,n,hk,hc,hd,hs,hz,r⟩
 ·obtain⟨z,its,n,r,e⟩:=h.ok I.iL;exact⟨its,r,⟨_,n,e,rfl,rfl,rfl⟩,z⟩
 ·refine⟨its.toList,r,⟨o,n,I.NO a o hk,hc,hd,by simpa using hs⟩,?_⟩;have e:=r.length;simp only[cZ] at e;lia
theorem Inv.tuple(I:Inv X pins σ H s)(h:BX X.K H a xs):∃its:List Value,Vals xs its/\IsTup s.heap a its.toArray/\xs.length<=sizeLine:=by
 rcases h with h |⟨o,its,n,hk,hc,hs,hz,r⟩
 ·obtain⟨z,its,r,p⟩:=h.ok I.iL;exact⟨its,r,p,z⟩
 ·refine⟨its.toList,r,⟨o,I.NO a o hk,hc,n,by simpa using hs⟩,?_⟩;have e:=r.length;simp only[cZ] at e;lia
theorem Inv.tL(I:Inv X pins σ H s)(h:kg X.K H a xs)(h':kg X.K H a ys):xs=ys:=by
 obtain⟨its,r,⟨o,n,e,_,_,d⟩,_⟩:=I.list h;obtain⟨its',r',⟨o',n',e',_,_,d'⟩,_⟩:=I.list h';rw[e] at e';cases e'
 rw[d] at d';injection d' with d1 _
 have:its=its':=by simpa using congrArg Array.toList d1
 subst this;exact r.inj r'
theorem Inv.yQ(I:Inv X pins σ H s)(h:BX X.K H a xs)(h':BX X.K H a ys):xs=ys:=by
 obtain⟨its,r,⟨o,e,_,n,d⟩,_⟩:=I.tuple h;obtain⟨its',r',⟨o',e',_,n',d'⟩,_⟩:=I.tuple h';rw[e] at e';cases e'
 rw[d] at d';injection d' with d1 _
 have:its=its':=by simpa using congrArg Array.toList d1
 subst this;exact r.inj r'
end
noncomputable abbrev Cx.DZ (X:Cx) (E:Value->Shared->Prop):Cx:={X with xe:=E}
noncomputable abbrev Cx.RO (X:Cx):Cx:=X.DZ fun _ _=>False
theorem Cx.Ok.DZ{X:Cx}(ok:X.Ok)(E:Value->Shared->Prop):(X.DZ E).Ok:=
 ⟨ok.mod,ok.kind,ok.glob,ok.blt,ok.above,ok.inj,ok.has,ok.Ub,ok.hd,ok.frames,ok.Sn,ok.Vt,ok.bs,ok.Qw,ok.NW,ok.NX,ok.A5,ok.So⟩
theorem Cx.Ok.tM{X:Cx}{E:Value->Shared->Prop}(ok:(X.DZ E).Ok):X.Ok:=
 ⟨ok.mod,ok.kind,ok.glob,ok.blt,ok.above,ok.inj,ok.has,ok.Ub,ok.hd,ok.frames,ok.Sn,ok.Vt,ok.bs,ok.Qw,ok.NW,ok.NX,ok.A5,ok.So⟩
section
variable {X:Cx}{pins:List (Addr×Obj)}{σ:St}{H:Hp}{s:Shared}{E:Value->Shared->Prop}
theorem Inv.DZ(I:Inv X pins σ H s)(E:Value->Shared->Prop):Inv (X.DZ E) pins σ H s:=⟨I.ok.DZ E,I.os,I.bare,I.base,I.loc,I.cell,I.free,I.tJ,I.pin,I.iL,I.len⟩
theorem Inv.tM(I:Inv (X.DZ E) pins σ H s):Inv X pins σ H s:=⟨I.ok.tM,I.os,I.bare,I.base,I.loc,I.cell,I.free,I.tJ,I.pin,I.iL,I.len⟩
theorem SP.tM{D:Ends}{f:Flow}{s':Shared}(h:SP (X.DZ E) pins D f s'):SP X pins D f s':=by
 cases f with
 |next=>obtain⟨σ',H',I,q⟩:=h;exact⟨σ',H',I.tM,q⟩
 |brk=>obtain⟨σ',H',I,q⟩:=h;exact⟨σ',H',I.tM,q⟩
 |cont=>obtain⟨σ',H',I,q⟩:=h;exact⟨σ',H',I.tM,q⟩
 |ret u=>obtain⟨v,σ',H',I,r,q⟩:=h;exact⟨v,σ',H',I.tM,r,q⟩
theorem Jz.RO{st:List Stmt}{t:TS}(h:Jz X.RO st t):Jz X st t:=fun pins s σ H D I hw=>
 wpAny_mono (h pins s σ H D (I.DZ _) hw) (fun _ _ q=>q.tM) fun _ _ z=>False.elim z
end
section
variable {X:Cx}{st:Stmt}{rest:List Stmt}{t u:TS}{e:Expr}{te:TE}{pos:Pos}
noncomputable def RP:TS:=fun D σ H=>D.nx σ H
noncomputable def Uh (t u:TS):TS:=fun D σ H=>t {D with nx:=u D} σ H
theorem eh:Jz X [] RP:=fun _ _ σ H _ I h=>wpAny_execs_nil ⟨σ,H,I,h⟩
theorem dh(h1:PS X st t)(h2:Jz X rest u):Jz X (st::rest) (Uh t u):=by
 intro pins s σ H D I h;refine wpAny_execs_cons (ic (h1 pins s σ H {D with nx:=u D} I h) fun f s1 q=> ?_);cases f with
 |next=>
  obtain⟨σ',H',I',q⟩:=q;exact h2 pins s1 σ' H' D I' q
 |ret v=>exact q
 |brk=>exact q
 |cont=>exact q
theorem dk(h1:PS X st t):Jz X [st] t:=by
 intro pins s σ H D I h;refine wpAny_execs_cons (ic (h1 pins s σ H D I h) fun f s1 q=> ?_);cases f with
 |next=>exact wpAny_execs_nil q
 |ret v=>exact q
 |brk=>exact q
 |cont=>exact q
noncomputable def Ui:TS:=fun D σ H=>D.ct σ H
theorem Hy:PS X (.Continue pos) Ui:=fun _ _ σ H _ I h=>wpAny_Continue ⟨σ,H,I,h⟩
theorem Inv.quiet{pins:List (Addr×Obj)}{σ:St}{H:Hp}{s:Shared}(I:Inv X pins σ H s):interactive X.env=false:=by simp[interactive,I.ok.kind]
noncomputable def RQ (te:TE):TS:=fun D σ H=>te σ H fun _ H1=>D.nx σ H1
theorem iM(he:PE X e te)(hs:swapsWith e none pos.line X.env=pure false:=by rfl):PS X (.Expr e pos) (RQ te):=by
 intro pins s σ H D I h;exact wpAny_Expr_any (ic (he pins s σ H _ I h) fun v s1 ⟨x,H1,I1,r1,q1⟩=>⟨σ,H1,I1,q1⟩) I.quiet hs
noncomputable def Qz (te:TE):TS:=fun D σ H=>te σ H D.rt
theorem dD(he:PE X e te):PS X (.Return (some e) pos) (Qz te):=by
 intro pins s σ H D I h;exact wpAny_Return_some (ic (he pins s σ H _ I h) fun v s1 ⟨x,H1,I1,r1,q1⟩=>⟨x,σ,H1,I1,r1,q1⟩)
noncomputable def Uj (c:TT) (t u:TS):TS:=fun D σ H=>c σ H fun b H1=>if b=true then t D σ H1 else u D σ H1
theorem fC{c:Expr}{a b:List Stmt}{tc:TT}(hc:PT X c tc)(ha:Jz X a t)(hb:Jz X b u):PS X (.If c a b pos) (Uj tc t u):=by
 intro pins s σ H D I h;refine wpAny_If (ic (hc pins s σ H _ I h) fun d s1 ⟨H1,I1,q1⟩=> ?_);cases d with
 |true=>exact ha pins s1 σ H1 D I1 q1
 |false=>exact hb pins s1 σ H1 D I1 q1
end
noncomputable abbrev TG:=V->St->Hp->(St->Hp->Prop)->Prop
noncomputable abbrev RR:=List V->St->Hp->(St->Hp->Prop)->Prop
noncomputable def PG (X:Cx) (target:Expr) (t:TG):Prop:=
 ∀(pins:List (Addr×Obj)) (s:Shared) (σ:St) (H:Hp) (v:V) (u:Value) (Q:St->Hp->Prop),Inv X pins σ H s->RelV v u->t v σ H Q->
  wpAny (model X.prog X.w) X.A (assign target X.env u) (fun _ s'=>∃σ' H',Inv X pins σ' H' s'/\Q σ' H') X.xe s
noncomputable def Uk (X:Cx) (ts:List Expr) (t:RR):Prop:=
 ∀(pins:List (Addr×Obj)) (s:Shared) (σ:St) (H:Hp) (vs:List V) (us:List Value) (Q:St->Hp->Prop),Inv X pins σ H s->Vals vs us->t vs σ H Q->
  wpAny (model X.prog X.w) X.A (assignInOrder ((assignEach ts X.env).map (·.2)) us) (fun _ s'=>∃σ' H',Inv X pins σ' H' s'/\Q σ' H') X.xe s
noncomputable abbrev NZ:=V->V->V->Hp->(Hp->Prop)->Prop
noncomputable def Sr (X:Cx) (t:NZ):Prop:=
 ∀(pins:List (Addr×Obj)) (s:Shared) (σ:St) (H:Hp) (o i v:V) (ov iv u:Value) (Q:Hp->Prop),Inv X pins σ H s->RelV o ov->RelV i iv->RelV v u->t o i v H Q->
  wpAny (model X.prog X.w) X.A (setItem ov iv u) (fun _ s'=>∃H',Inv X pins σ H' s'/\Q H') X.xe s
noncomputable abbrev Ss:=V->V->Hp->VK->Prop
noncomputable def Ul (X:Cx) (op:Operator) (t:Ss):Prop:=
 ∀(pins:List (Addr×Obj)) (s:Shared) (σ:St) (H:Hp) (x y:V) (v u:Value) (Q:VK),Inv X pins σ H s->RelV x v->RelV y u->t x y H Q->
  wpAny (model X.prog X.w) X.A (inplaceOp op v u) (EP X pins σ Q) X.xe s
section
variable {X:Cx}{pos:Pos}
noncomputable def EH (i:Nat):TG:=fun v σ H Q=>Q (σ.set i (some v)) H
theorem QA{i:Nat}{x:Str}(hN:X.N.Nodup)(hi:X.N[i]? =some x)(hx:Loc X.env.scope x)(hf:X.fn x=true\/X.env.scope.names.lookup x=some .local:=by first |exact .inl rfl |exact .inr rfl |assumption):PG X (.Name x pos) (EH i):=by
 intro pins s σ H v u Q I r h;exact wpAny_assign_Name (BU I hN hi hx r (fun s' I'=>⟨_,H,I',h⟩) hf)
noncomputable def VH:RR:=fun vs σ H Q=>vs=[]/\Q σ H
noncomputable def Um (t:TG) (u:RR):RR:=fun vs σ H Q=>∃v r,vs=v::r/\t v σ H fun σ' H'=>u r σ' H' Q
theorem km:Uk X [] VH:=by
 intro pins s σ H vs us Q I r h;obtain⟨e,h⟩:=h;subst e;cases r
 exact assignInOrder_nil ⟨σ,H,I,h⟩
theorem fA{e:Expr}{es:List Expr}{t:TG}{u:RR}(h1:PG X e t)(h2:Uk X es u)
  (hs:(assignEach (e::es) X.env).map (·.2)=assign e X.env::(assignEach es X.env).map (·.2):=by rfl):Uk X (e::es) (Um t u):=by
 intro pins s σ H vs us Q I r h;obtain⟨v,vr,e1,h⟩:=h;subst e1;cases r with
 |cons r rr=>
  rw[hs];refine assignInOrder_cons (ic (h1 pins s σ H _ _ _ I r h) fun _ s1 ⟨σ1,H1,I1,q1⟩=> ?_);exact h2 pins s1 σ1 H1 _ _ Q I1 rr q1
noncomputable def Uo (K:PySem.W.Frag) (n:Nat) (t:RR):TG:=fun v σ H Q=>∃a xs,v= .ref a/\BX K H a xs/\xs.length=n/\t xs σ H Q
theorem Su{es:List Expr}{k:Nat}{t:RR}{n:Nat}(hc:X.calm=true)(h:Uk X es t)
  (hn:(assignEach es X.env).length=n:=by rfl) (hst:(assignEach es X.env).findIdx? (·.1)=none:=by rfl):PG X (.Tuple es k pos) (Uo X.K n t):=by
 intro pins s σ H v u Q I r hw;obtain⟨a,xs,e1,hq,hl,hw⟩:=hw;subst e1;cases r
 obtain⟨its,rv,ht,hz⟩:=I.tuple hq;refine assign_Tuple_tuple (I.ok.hd hc) ht (by simp[hn,<-hl,rv.length]) hst fun h' hx=> ?_
 have I1:Inv X pins σ H {s with heap:=h'}:=I.kept (t':=s.toks) fun b o e=>hx b o (bx (Heap.lt_size e)) e
 exact h pins _ σ H xs _ Q I1 (by simpa using rv) hw
noncomputable def VI (to ti:TE) (t:NZ):TG:=fun v σ H Q=>to σ H fun o H1=>ti σ H1 fun i H2=>t o i v H2 fun H3=>Q σ H3
theorem yR{o i:Expr}{to ti:TE}{t:NZ}(ho:PE X o to)(hi:PE X i ti)(hs:Sr X t)
  (ha:∀v,assign (.Subscript o i pos) X.env v=(do
   let ov<-holding [v] (eval o X.env);let iv<-holding [v,ov] (eval i X.env)
   standAt pos
   holding [v,ov,iv] (setItem ov iv v)
   release [v,ov,iv] []):=by intro _;rfl):PG X (.Subscript o i pos) (VI to ti t):=by
 intro pins s σ H v u Q I r h;rw[ha];refine wpAny_bind (wpAny_holding (ic (ho pins s σ H _ I h) fun ov s1 ⟨x,H1,I1,r1,q1⟩=> ?_));refine wpAny_bind (wpAny_holding (ic (hi pins s1 σ H1 _ I1 q1) fun iv s2 ⟨y,H2,I2,r2,q2⟩=> ?_));refine wpAny_bind (wpAny_standAt (wpAny_bind (wpAny_holding (ic (hs pins s2 σ H2 x y v ov iv u _ I2 r1 r2 r q2) fun _ s3 ⟨H3,I3,q3⟩=> ?_))));exact wpAny_release ⟨σ,H3,I3,q3⟩
noncomputable def QB (te:TE) (g:TG):TS:=fun D σ H=>te σ H fun x H1=>g x σ H1 D.nx
theorem yS{tg e:Expr}{te:TE}{g:TG}(he:PE X e te)(hg:PG X tg g)(hs:swapsWithSole [tg] e pos.line X.env=pure false:=by rfl)(hw:swappedStores [tg] e X.env=pure none:=by rfl)
  (h1:(assignEach [tg] X.env).map (·.2)=[assign tg X.env]:=by rfl):PS X (.Assign [tg] e pos) (QB te g):=by
 intro pins s σ H D I h;refine wpAny_Assign_stores (ic (he pins s σ H _ I h) fun v s1 ⟨x,H1,I1,r1,q1⟩=> ?_) hs hw;rw[h1];exact ic (hg pins s1 σ H1 x v _ I1 r1 q1) fun _ s2 q=>q
theorem Sw{i:Nat}{x:Str}{e:Expr}{te:TE}{pos':Pos}(hN:X.N.Nodup)(hi:X.N[i]? =some x)(hx:Loc X.env.scope x)(he:PE X e te)(hs:swapsWith e (some (.Name x pos')) pos.line X.env=pure false:=by rfl)(hf:X.fn x=true\/X.env.scope.names.lookup x=some .local:=by first |exact .inl rfl |exact .inr rfl |assumption):
  PS X (.Assign [.Name x pos'] e pos) (QB te (EH i)):=by
 intro pins s σ H D I h;refine wpAny_Assign_Name (ic (he pins s σ H _ I h) fun v s1 ⟨y,H1,I1,r1,q1⟩=> ?_) hs;exact BU I1 hN hi hx r1 (fun s2 I2=>⟨_,H1,I2,q1⟩) hf
noncomputable def VJ (i:Nat) (te:TE) (ti:Ss):TS:=fun D σ H=>∃x,σ[i]? =some (some x)/\te σ H fun y H1=>ti x y H1 fun z H2=>D.nx (σ.set i (some z)) H2
theorem JE{i:Nat}{x:Str}{e:Expr}{te:TE}{op:Operator}{ti:Ss}{pos':Pos}(hN:X.N.Nodup)(hi:X.N[i]? =some x)(hx:Loc X.env.scope x)(he:PE X e te)(ho:Ul X op ti)(hf:X.fn x=true\/X.env.scope.names.lookup x=some .local:=by first |exact .inl rfl |exact .inr rfl |assumption):
  PS X (.AugAssign (.Name x pos') op e pos) (VJ i te ti):=by
 intro pins s σ H D I h;obtain⟨v,e1,h⟩:=h;obtain⟨m,hn,hl⟩:=I.loc;have vis:T1 X.env.scope x:=by rcases hx with k |k;exact .inl k;exact .inr (.inl k)
 obtain⟨u,r,l⟩:=hl i x v hi e1 vis;refine wpAny_AugAssign_Name ?_;have go:wpAny (model X.prog X.w) X.A (eval e X.env) (fun w s₂=>wpAny (model X.prog X.w) X.A (inplaceOp op u w) (fun r s₃=>wpAny (model X.prog X.w) X.A (storeName X.env x r) (fun _=>SP X pins D .next) X.xe s₃) X.xe s₂) X.xe s:=by
  refine ic (he pins s σ H _ I h) fun w s1 ⟨y,H1,I1,r1,q1⟩=> ?_
  refine ic (ho pins s1 σ H1 v y u w _ I1 r r1 q1) fun z s2 ⟨zv,H2,I2,r2,q2⟩=> ?_
  exact BU I2 hN hi hx r2 (fun s3 I3=>⟨_,H2,I3,q2⟩) hf
 rcases l with⟨hk,hm⟩ |⟨hk,c,hc,hcell⟩
 ·exact wpAny_loadName_local I.ok.kind hk hn hm go
 ·rcases hk with hk |hk
  ·exact wpAny_loadName_cell I.ok.kind hk hc hcell go
  ·rcases hx with k |k
   ·have:X.env.scope.names.lookup x=some .free:=hk;rw[k] at this;cases this
   ·have:X.env.scope.names.lookup x=some .free:=hk;rw[k] at this;cases this
noncomputable def Up (to ti te:TE) (tget:V->V->Hp->VK->Prop) (tip:Ss) (tset:NZ):TS:=fun D σ H=>to σ H fun o H1=>ti σ H1 fun i H2=>tget o i H2 fun x H3=>te σ H3 fun y H4=>tip x y H4 fun z H5=>tset o i z H5 fun H6=>D.nx σ H6
noncomputable def Uq (X:Cx) (t:V->V->Hp->VK->Prop):Prop:=
 ∀(pins:List (Addr×Obj)) (s:Shared) (σ:St) (H:Hp) (o i:V) (ov iv:Value) (Q:VK),Inv X pins σ H s->RelV o ov->RelV i iv->t o i H Q->
  wpAny (model X.prog X.w) X.A (getItem ov iv) (EP X pins σ Q) X.xe s
theorem F0{o i e:Expr}{to ti te:TE}{tget:V->V->Hp->VK->Prop}{tip:Ss}{tset:NZ}{op:Operator}{tpos:Pos}(ho:PE X o to)(hi:PE X i ti)(hg:Uq X tget)(he:PE X e te)(hp:Ul X op tip)(hs:Sr X tset)
  (ha:∀ov iv new,augStore i ov iv new=(do holding [new,ov,iv] (setItem ov iv new);release [new,ov,iv] [];pure .next):=by intros;rfl):PS X (.AugAssign (.Subscript o i tpos) op e pos) (Up to ti te tget tip tset):=by
 intro pins s σ H D I h;refine wpAny_AugAssign_SubscriptAny (ic (ho pins s σ H _ I h) fun ov s1 ⟨x1,H1,I1,r1,q1⟩=> ?_) ha;refine ic (hi pins s1 σ H1 _ I1 q1) fun iv s2 ⟨x2,H2,I2,r2,q2⟩=> ?_
 refine ic (hg pins s2 σ H2 x1 x2 ov iv _ I2 r1 r2 q2) fun old s3 ⟨x3,H3,I3,r3,q3⟩=> ?_
 refine ic (he pins s3 σ H3 _ I3 q3) fun v s4 ⟨x4,H4,I4,r4,q4⟩=> ?_
 refine ic (hp pins s4 σ H4 x3 x4 old v _ I4 r3 r4 q4) fun new s5 ⟨x5,H5,I5,r5,q5⟩=> ?_
 exact ic (hs pins s5 σ H5 x1 x2 x5 ov iv new _ I5 r1 r2 r5 q5) fun _ s6 ⟨H6,I6,q6⟩=>⟨σ,H6,I6,q6⟩
noncomputable def Wy (f:Int->Int->Int):Ss:=fun x y H Q=>∃i j,x= .int i/\y= .int j/\Q (.int (f i j)) H
theorem JF:Ul X .Add (Wy fun i j=>i+j):=by
 intro pins s σ H x y v u Q I r1 r2 h;obtain⟨i,j,e1,e2,q⟩:=h;subst e1;subst e2;obtain⟨t,rfl⟩:=r1;obtain⟨t',rfl⟩:=r2;exact iadd_int ⟨.int _,H,I.tok _,⟨_,rfl⟩,q⟩
theorem Oa:Ul X .Sub (Wy fun i j=>i - j):=by
 intro pins s σ H x y v u Q I r1 r2 h;obtain⟨i,j,e1,e2,q⟩:=h;subst e1;subst e2;obtain⟨t,rfl⟩:=r1;obtain⟨t',rfl⟩:=r2;exact isub_int ⟨.int _,H,I.tok _,⟨_,rfl⟩,q⟩
end
section
variable {X:Cx}{pos:Pos}
noncomputable def Sx (c:TT) (tb:TS):TS:=fun D σ H=>∃W:Nat->St->Hp->Prop,(∃m,W m σ H)/\∀m σ H,W m σ H->
 c σ H fun b H1=>if b=true then ∃N:St->Hp->Prop,(∀σ' H',N σ' H'->∃m',m' <m/\W m' σ' H')/\tb {D with nx:=N,ct:=N,bk:=D.nx} σ H1 else D.nx σ H1
theorem xb{c:Expr}{body:List Stmt}{tc:TT}{tb:TS}(hp:PassesOwn (model X.prog X.w) X.A X.env X.xe)(hc:PT X c tc)(hb:Jz X body tb):PS X (.While c body [] pos) (Sx tc tb):=by
 intro pins s σ H D I h;obtain⟨W,⟨m0,w0⟩,turn⟩:=h;refine wpAny_While (codeAny_whileLoop (fun n s'=>∃σ' H',Inv X pins σ' H' s'/\W n σ' H') ?_ m0 ⟨σ,H,I,w0⟩);rintro n s1 ⟨σ1,H1,I1,w1⟩;refine wpAny_passesOwn hp (ic (hc pins s1 σ1 H1 _ I1 (turn n σ1 H1 w1)) fun b s2 ⟨H2,I2,q2⟩=> ?_);cases b with
 |true=>
  obtain⟨N,hN,q2⟩:=q2;rw[ah rfl];refine wpAny_passesOwn hp (ic (hb pins s2 σ1 H2 _ I2 q2) fun f s3 q3=> ?_);cases f with
  |next=>
   obtain⟨σ3,H3,I3,n3⟩:=q3;obtain⟨m',hm,w3⟩:=hN σ3 H3 n3;exact⟨m',hm,σ3,H3,I3,w3⟩
  |cont=>
   obtain⟨σ3,H3,I3,n3⟩:=q3;obtain⟨m',hm,w3⟩:=hN σ3 H3 n3;exact⟨m',hm,σ3,H3,I3,w3⟩
  |brk=>exact q3
  |ret v=>exact q3
 |false=>
  rw[af aO];exact wpAny_execs_nil ⟨σ1,H2,I2,q2⟩
end
structure It where
 go:Nat->Hp->Prop
 T2:Nat->Hp->V->Hp->Prop
 stop:Nat->Hp->Prop
noncomputable def A6 (X:Cx) (pins:List (Addr×Obj)) (H:Hp) (b:Addr):Prop:=
 H b=none/\b≠X.env.locals/\b∉X.fs/\(b∈X.ex\/X.EF.heap.objs.size<=b)/\(∀x c,X.env.cells.lookup x=some c->c≠b)/\∀p∈X.pn ++ pins,p.1≠b
theorem Inv.Mq{X:Cx}{pins:List (Addr×Obj)}{σ:St}{H H':Hp}{s:Shared}{b:Addr}(I:Inv X pins σ H s)(hb:s.heap.objs.size<=b)(hn:H' b=none):A6 X pins H' b:=by
 refine⟨hn,Nat.ne_of_gt (aV I.lt hb),I.VB hb,.inr (ay I.sz hb),fun x c e z=> ?_,fun p hp z=> ?_⟩
 ·obtain⟨v,q⟩:=I.cell x c e;exact absurd (aV q.lt (by rw[z];exact hb)) (bQ _)
 ·exact absurd (aV (Heap.lt_size (I.pin p hp).1) (by rw[z];exact hb)) (bQ _)
structure Turn(P:Program)(w:World)(K:PySem.W.Frag)(tg:Expr)(J:It)(fp:List Addr)(it:Addr)(tn:Nat->Heap->Prop):Prop where
 mem:it∈fp
 obj:∀i h,tn i h->∀b∈fp,∃o,h.get? b=some o/\∀v,o.data≠.cell v
 keep:∀i h h',tn i h->(∀b∈fp,∀o,h.get? b=some o->h'.get? b=some o)->tn i h'
 item:∀(X:Cx),X.prog=P->X.w=w->X.K=K->X.calm=true->∀(i:Nat) (pins:List (Addr×Obj)) (s:Shared) (σ:St) (H:Hp) (E:Value->Shared->Prop),Inv X pins σ H s->(∀b∈fp,A6 X pins H b)->tn i s.heap->J.go i H->
  wpAny (model P w) X.A (pyNext (.ref it)) (fun r s1=>∃u,r=some u/\
   wpAny (model P w) X.A (letOwnedTupleGo tg (.ref it) u) (fun _ s2=>∃x H',Inv X pins σ H' s2/\RelV x u/\J.T2 i H x H'/\tn (i+1) s2.heap/\∀b∈fp,H' b=none) E s1) E s
 done:∀(X:Cx),X.prog=P->X.w=w->X.K=K->X.calm=true->∀(i:Nat) (pins:List (Addr×Obj)) (s:Shared) (σ:St) (H:Hp) (E:Value->Shared->Prop),Inv X pins σ H s->(∀b∈fp,A6 X pins H b)->tn i s.heap->J.stop i H->
  wpAny (model P w) X.A (pyNext (.ref it)) (fun r s1=>r=none/\Inv X pins σ H s1) E s
 self:∀(A:Around) (i:Nat) (s:Shared) (Q:Value->Shared->Prop) (E:Value->Shared->Prop),tn i s.heap->Q (.ref it) s->wpAny (model P w) A (pyIter (.ref it)) Q E s
noncomputable abbrev TI:=St->Hp->(It->Hp->Prop)->Prop
noncomputable def VL (X:Cx) (pins:List (Addr×Obj)) (σ:St) (tg:Expr) (R:It->Hp->Prop) (itv:Value) (s2:Shared):Prop:=
 ∃(it:Addr) (fp:List Addr) (tn:Nat->Heap->Prop) (J:It) (H':Hp),itv= .ref it/\Inv X pins σ H' s2/\Turn X.prog X.w X.K tg J fp it tn/\tn 0 s2.heap/\(∀b∈fp,A6 X pins H' b)/\R J H'
noncomputable def PI (X:Cx) (tg iter:Expr) (wi:TI):Prop:=
 ∀(pins:List (Addr×Obj)) (s:Shared) (σ:St) (H:Hp) (R:It->Hp->Prop),Inv X pins σ H s->wi σ H R->
  wpAny (model X.prog X.w) X.A (eval iter X.env) (fun v s1=>wpAny (model X.prog X.w) X.A (pyIter v) (VL X pins σ tg R) X.xe s1) X.xe s
theorem K9{M:Model}{A:Around}{E:Value->Shared->Prop}{s:Shared}{tg:Expr}{it:Addr}{u:Value}{o:Obj}{n:String}{vs:Array Value}{Q:Unit->Shared->Prop}(ho:s.heap.get? it=some o)(hc:o.cls= .type n)(hd:o.data= .fields vs)
  (hn:["enumerate","zip","dict_itemiterator","dict_reverseitemiterator","odict_iterator","itertools.zip_longest","itertools.pairwise"].contains n=false) (hQ:Q () s):wpAny M A (letOwnedTupleGo tg (.ref it) u) Q E s:=by
 unfold letOwnedTupleGo;cases tg <;>first
  |exact wpAny_pure hQ
  |(cases u <;>first
    |exact wpAny_pure hQ
    |(refine wpAny_bind (wpAny_load ho ?_)
      rw[hc,hd];show wpAny M A (if(["enumerate","zip","dict_itemiterator","dict_reverseitemiterator","odict_iterator","itertools.zip_longest","itertools.pairwise"].contains n&&vs[0]? ==some (rawInt _))=true then _ else _) Q E s;rw[af (by intro h;rw[hn,Bool.false_and] at h;cases h)];exact wpAny_pure hQ))
noncomputable def VM (K:PySem.W.Frag) (a:Addr):It:=
 ⟨fun i H=>∃xs x,kg K H a xs/\xs[i]? =some x,fun i H x H'=>H'=H/\∀xs,kg K H a xs->xs[i]? =some x,fun i H=>∃xs,kg K H a xs/\xs.length<=i⟩
noncomputable def Ur (lo:Int) (n:Nat):It:=⟨fun i _=>i<n,fun i H x H'=>H'=H/\x= .int (lo+i),fun i _=>n<=i⟩
theorem Mr{P:Program}{w:World}{K:PySem.W.Frag}{tg:Expr}(a it:Addr):Turn P w K tg (VM K a) [it] it (fun i h=>h.IsListIter it a i) where
 mem:=by simp
 obj:=fun i h st b hb=>by
  have e:b=it:=by simpa using hb
  subst e;obtain⟨o,e,c,d⟩:=st;exact⟨o,e,fun v z=>by rw[d] at z;cases z⟩
 keep:=fun i h h' st k=>st.at fun o e=>k it (by simp) o e
 item:=by
  intro X hP hw hK hc i pins s σ H E I hf st hg;subst hP hw hK;obtain⟨xs,x,hq,hx⟩:=hg;obtain⟨its,rv,p,hz⟩:=I.list hq;obtain⟨u,hu,ru⟩:=rv.get hx;obtain⟨f0,f1,f2,f3,f4,f5⟩:=hf it (by simp);refine wpAny_pyNext_list_item st p.isList (x:=u) (by simpa using hu) fun h' st' sb=> ?_
  have I1:Inv X pins σ H {s with heap:=h'}:=I.turned (t':=s.toks) (fun b o hb e=>(sb.2 b hb).trans e) f0 f1 f3 f4 f5;obtain⟨o,e,c,d⟩:=id st';exact⟨u,rfl,K9 (s:={s with heap:=h'}) e c d (by decide) ⟨x,H,I1,ru,⟨rfl,fun ys hy=>by rw[I.tL hy hq];exact hx⟩,st',fun b hb=>(hf b hb).1⟩⟩
 done:=by
  intro X hP hw hK hc i pins s σ H E I hf st hg;subst hP hw hK;obtain⟨xs,hq,hx⟩:=hg;obtain⟨its,rv,p,hz⟩:=I.list hq;obtain⟨f0,f1,f2,f3,f4,f5⟩:=hf it (by simp);have hl:=rv.length;exact wpAny_pyNext_list_end (I.ok.hd hc) st p.isList (by simp;lia) fun h' eb=>⟨rfl,I.turned (t':=s.toks) (fun b o hb e=>eb b o hb e) f0 f1 f3 f4 f5⟩
 self:=fun _ _ _ _ _ st h=>wpAny_pyIter_listiter st h
theorem JG{P:Program}{w:World}{K:PySem.W.Frag}{tg:Expr}(it:Addr)(lo:Int)(n:Nat):Turn P w K tg (Ur lo n) [it] it (fun i h=>IsRangeIter h it (lo+(i:Nat)*1) ((n:Int) - (i:Nat)) 1) where
 mem:=by simp
 obj:=fun i h st b hb=>by
  have e:b=it:=by simpa using hb
  subst e;exact⟨_,st,fun v z=>by
   have z':Data.fields _=Data.cell v:=z;cases z'⟩
 keep:=fun i h h' st k=>k it (by simp) _ st
 item:=by
  intro X hP hw hK hc i pins s σ H E I hf st hg;subst hP hw hK;obtain⟨f0,f1,f2,f3,f4,f5⟩:=hf it (by simp);have W:=Walks.range (prog:=X.prog) (w:=X.w) (I.ok.hd hc) it lo 1 n;refine W.item i s _ _ hg st fun v h' tk hv st' kk=> ?_
  obtain⟨t,rfl⟩:=hv;have I1:Inv X pins σ H {s with heap:=h',toks:=tk}:=I.turned (fun b o hb e=>kk b o (by simpa using hb) e) f0 f1 f3 f4 f5;refine⟨_,rfl,K9 (s:={s with heap:=h',toks:=tk}) (n:="range_iterator") st' rfl rfl (by decide) ⟨.int (lo+i),H,I1,⟨t,?_⟩,⟨rfl,rfl⟩,st',fun b hb=>(hf b hb).1⟩⟩;rw[Int.mul_one]
 done:=by
  intro X hP hw hK hc i pins s σ H E I hf st hg;subst hP hw hK;obtain⟨f0,f1,f2,f3,f4,f5⟩:=hf it (by simp);exact wpAny_pyNext_range_end (I.ok.hd hc) st (by have:n<=i:=hg;lia) fun h' eb=>⟨rfl,I.turned (t':=s.toks) (fun b o hb e=>eb b o hb e) f0 f1 f3 f4 f5⟩
 self:=fun _ _ _ _ _ st h=>wpAny_pyIter_rangeiter st h
section
variable {X:Cx}{tg:Expr}
noncomputable def Us (K:PySem.W.Frag) (tl:TE):TI:=fun σ H R=>tl σ H fun x H1=>∃a,x= .ref a/\(∃xs,kg K H1 a xs)/\R (VM K a) H1
theorem fu{l:Expr}{tl:TE}(hl:PE X l tl):PI X tg l (Us X.K tl):=by
 intro pins s σ H R I h;refine ic (hl pins s σ H _ I h) fun v s1 ⟨x,H1,I1,r1,q1⟩=> ?_
 obtain⟨a,e,⟨xs,hq⟩,q⟩:=q1;subst e;cases r1
 obtain⟨its,rv,p,hz⟩:=I1.list hq;refine wpAny_pyIter_list p.isList ?_;refine⟨s1.heap.objs.size,[s1.heap.objs.size],_,_,H1,rfl,I1.kept (t':=s1.toks) fun b o e=>Heap.get?_push_of_some _ e,Mr a _,⟨_,Heap.get?_push_size _ rfl,rfl,rfl⟩,fun b hb=> ?_,q⟩;have e:b=s1.heap.objs.size:=by simpa using hb
 subst e;exact I1.Mq (aj _) (I1.iL.fresh (aj _))
theorem Hz{pins:List (Addr×Obj)}{σ:St}{H:Hp}{s:Shared}{R:It->Hp->Prop}{E:Value->Shared->Prop}{lo hi:Int}{t u v:Tok}{tk:Nat}(I:Inv X pins σ H s)(h1: -(2^62)<=lo)(h2:lo<2^62)(h3: -(2^62)<=hi)(h4:hi<2^62)
  (q:R (Ur lo (hi - lo).toNat) H):wpAny (model X.prog X.w) X.A (pyIter (.ref s.heap.objs.size)) (VL X pins σ tg R) E {s with heap:=s.heap.push {cls:= .type "range",data:= .fields #[.int lo t,.int hi u,.int 1 v]},toks:=tk}:=by
 refine wpAny_pyIter_range (IsRange.new ..) (small_one h1 h2 h3 h4) ?_;have I1:Inv X pins σ H {s with heap:=s.heap.push {cls:= .type "range",data:= .fields #[.int lo t,.int hi u,.int 1 v]},toks:=tk}:=I.kept fun b o e=>Heap.get?_push_of_some _ e
 refine⟨(s.heap.push {cls:= .type "range",data:= .fields #[.int lo t,.int hi u,.int 1 v]}).objs.size,[(s.heap.push {cls:= .type "range",data:= .fields #[.int lo t,.int hi u,.int 1 v]}).objs.size],_,_,H,rfl,
  I1.kept (t':=tk) fun b o e=>Heap.get?_push_of_some _ e,JG _ lo (hi - lo).toNat,?_,fun b hb=> ?_,q⟩
 ·have e1:lo+((0:Nat):Int)*1=lo:=by simp
  have e2:(((hi - lo).toNat:Nat):Int) - ((0:Nat):Int)=Builtin.Range.rangeSize lo hi 1:=by rw[rangeSize_one];split <;>lia
  show IsRangeIter _ _ (lo+((0:Nat):Int)*1) ((((hi - lo).toNat:Nat):Int) - ((0:Nat):Int)) 1;rw[e1,e2];exact Heap.get?_push_size _ rfl
 ·have e:b=(s.heap.push {cls:= .type "range",data:= .fields #[.int lo t,.int hi u,.int 1 v]}).objs.size:=by simpa using hb
  subst e;exact I1.Mq (aj _) (I1.iL.fresh (aj _))
noncomputable def Ut (ta:TA):TI:=fun σ H R=>ta σ H fun vs H1=>∃j:Int,vs=[.int j]/\-(2^62)<=j/\j<2^62/\R (Ur 0 j.toNat) H1
noncomputable def Uu (ta:TA):TI:=fun σ H R=>ta σ H fun vs H1=>∃i j:Int,vs=[.int i,.int j]/\(-(2^62)<=i/\i<2^62/\-(2^62)<=j/\j<2^62)/\R (Ur i (j - i).toNat) H1
theorem nQ{a:Expr}{ta:TA}{p pos:Pos}(hg:Gl X "range")(hm:X.mg "range"=none)(ha:PA X [a] ta)(hs:starEach [a] X.env=[(false,eval a X.env)]:=by rfl):PI X tg (.Call (.Name "range" p) [a] [] pos) (Ut ta):=by
 intro pins s σ H R I h;refine Call_ (tK I hg hm boot_range (bw (ic (ha pos pins s σ H _ I h) fun us s1 ⟨vs,H1,I1,r1,q1⟩=> ?_) hs rfl));obtain⟨j,e,q1,q2,q⟩:=q1;subst e;cases r1 with
 |cons r rr=>
  cases rr
  obtain⟨t,rfl⟩:=r;exact call_range_1 (Hz I1 (by lia) (by lia) q1 q2 (by simpa using q))
theorem EI{a b:Expr}{ta:TA}{p pos:Pos}(hg:Gl X "range")(hm:X.mg "range"=none)(ha:PA X [a,b] ta)(hs:starEach [a,b] X.env=[(false,eval a X.env),(false,eval b X.env)]:=by rfl)(hs2:starEach [b] X.env=[(false,eval b X.env)]:=by rfl):
  PI X tg (.Call (.Name "range" p) [a,b] [] pos) (Uu ta):=by
 intro pins s σ H R I h;refine Call_ (tK I hg hm boot_range (bw (ic (ha pos pins s σ H _ I h) fun us s1 ⟨vs,H1,I1,r1,q1⟩=> ?_) (by rw[hs,hs2]) (by rw[hs2];rfl)));obtain⟨i,j,e,⟨q1,q2,q3,q4⟩,q⟩:=q1;subst e;cases r1 with
 |cons r rr=>
  cases rr with
  |cons r' rr=>
   cases rr
   obtain⟨t,rfl⟩:=r;obtain⟨t',rfl⟩:=r';exact call_range_2 (Hz I1 q1 q2 q3 q4 q)
noncomputable def VN (wi:TI) (g:TG) (tb:TS):TS:=fun D σ H=>wi σ H fun J H1=>∃W:Nat->Nat->St->Hp->Prop,(∃m,W 0 m σ H1)/\∀i m σ H,W i m σ H->
 (J.stop i H/\D.nx σ H)\/(J.go i H/\∃N:St->Hp->Prop,(∀σ' H',N σ' H'->∃m',m' <m/\W (i+1) m' σ' H')/\∀x H',J.T2 i H x H'->g x σ H' fun σ2 H2=>tb {D with nx:=N,ct:=N,bk:=D.nx} σ2 H2)
noncomputable def BY (fp:List Addr) (h:Heap):List (Addr×Obj):=fp.filterMap fun b=>(h.get? b).map fun o=>(b,o)
theorem vM{fp:List Addr}{h:Heap}{b:Addr}{o:Obj}(hb:b∈fp)(e:h.get? b=some o):(b,o)∈BY fp h:=List.mem_filterMap.mpr ⟨b,hb,by rw[e];rfl⟩
theorem Ms{fp:List Addr}{h:Heap}{p:Addr×Obj}(hp:p∈BY fp h):p.1∈fp/\h.get? p.1=some p.2:=by
 obtain⟨b,hb,e⟩:=List.mem_filterMap.mp hp;cases q:h.get? b with
 |none=>rw[q] at e;cases e
 |some o=>
  rw[q] at e;have e':(b,o)=p:=aZ e;subst e';exact⟨hb,q⟩
theorem Inv.pinned{pins:List (Addr×Obj)}{σ:St}{H:Hp}{s:Shared}{fp:List Addr}(I:Inv X pins σ H s)(hf:∀b∈fp,A6 X pins H b)(ho:∀b∈fp,∃o,s.heap.get? b=some o/\∀v,o.data≠.cell v):Inv X (pins ++ BY fp s.heap) σ H s:=
 I.K7 fun p hp=>(aN.mp hp).elim (fun z=>I.pin p (br _ z)) fun z=>by
  obtain⟨hb,e⟩:=Ms z;obtain⟨f0,f1,f2,_⟩:=hf p.1 hb;obtain⟨o,e',d⟩:=ho p.1 hb;rw[e] at e';cases e'
  exact⟨e,f0,f1,f2,d⟩
theorem Inv.xc{pins pl:List (Addr×Obj)}{σ:St}{H:Hp}{s:Shared}(I:Inv X (pins ++ pl) σ H s):Inv X pins σ H s:=I.K7 fun p hp=>I.pin p (br _ (cP _ hp))
theorem gN{iter:Expr}{body:List Stmt}{wi:TI}{g:TG}{tb:TS}{pos:Pos}(hp:PassesOwn (model X.prog X.w) X.A X.env X.xe)(hc:X.calm=true)(hi:PI X tg iter wi)(hg:PG X tg g)(hb:Jz X body tb)
  (hs:∀x,foldedSetIterable iter X.env x=pure x:=by intro _;rfl):PS X (.For tg iter body [] pos) (VN wi g tb):=by
 intro pins s σ H D I h;refine wpAny_For (ic (hi pins s σ H _ I h) fun v s1 h1=>ic h1 fun itv s2 h2=> ?_) hs;obtain⟨it,fp,tn,J,H2,e,I2,T,st2,f2,W,⟨m0,w0⟩,turn⟩:=h2;subst e;have stat:∀{H':Hp},(∀b∈fp,H' b=none)->∀b∈fp,A6 X pins H' b:=fun hn b hb=>⟨hn b hb,(f2 b hb).2⟩
 refine codeAny_forLoop_any (fun n s'=>∃i σ' H',Inv X pins σ' H' s'/\tn i s'.heap/\(∀b∈fp,H' b=none)/\W i n σ' H') ?_ m0 ⟨0,σ,H2,I2,st2,fun b hb=>(f2 b hb).1,w0⟩;rintro n s3 ⟨i,σ3,H3,I3,st3,fr3,w3⟩;rcases turn i n σ3 H3 w3 with⟨stop,qn⟩ |⟨go,N,hN,step⟩
 ·refine wpAny_passesOwn hp (ic (T.done X rfl rfl rfl hc i pins s3 σ3 H3 X.xe I3 (stat fr3) st3 stop) fun r s4 ⟨hr,I4⟩=> ?_);subst hr;exact wpAny_execs_nil ⟨σ3,H3,I4,qn⟩
 ·refine wpAny_passesOwn hp (ic (T.item X rfl rfl rfl hc i pins s3 σ3 H3 X.xe I3 (stat fr3) st3 go) fun r s4 ⟨u,hr,h4⟩=> ?_);subst hr;refine wpAny_passesOwn hp (ic h4 fun _ s5 ⟨x,H5,I5,r5,y5,st5,fr5⟩=> ?_);have I5':=I5.pinned (stat fr5) (T.obj _ _ st5);refine wpAny_passesOwn hp (ic (hg _ s5 σ3 H5 x u _ I5' r5 (step x H5 y5)) fun _ s6 ⟨σ6,H6,I6,q6⟩=> ?_);refine wpAny_passesOwn hp (ic (hb _ s6 σ6 H6 _ I6 q6) fun f s7 q7=> ?_);have again:∀{σ7:St} {H7:Hp},Inv X (pins ++ BY fp s5.heap) σ7 H7 s7->N σ7 H7->∃m,m<n/\∃i σ' H',Inv X pins σ' H' s7/\tn i s7.heap/\(∀b∈fp,H' b=none)/\W i m σ' H':=fun{σ7 H7} I7 n7=>by
   obtain⟨m',hm,w7⟩:=hN σ7 H7 n7;refine⟨m',hm,i+1,σ7,H7,I7.xc,T.keep _ _ _ st5 fun b hb o e=>(I7.pin (b,o) (br _ (br _ (vM hb e)))).1,fun b hb=> ?_,w7⟩;obtain⟨o,e,d⟩:=T.obj _ _ st5 b hb;exact(I7.pin (b,o) (br _ (br _ (vM hb e)))).2.1
  cases f with
  |next=>obtain⟨σ7,H7,I7,n7⟩:=q7;exact again I7 n7
  |cont=>obtain⟨σ7,H7,I7,n7⟩:=q7;exact again I7 n7
  |brk=>obtain⟨σ7,H7,I7,q7⟩:=q7;exact⟨σ7,H7,I7.xc,q7⟩
  |ret v=>obtain⟨x7,σ7,H7,I7,r7,q7⟩:=q7;exact⟨x7,σ7,H7,I7.xc,r7,q7⟩
end
noncomputable abbrev R2:=V->V->Hp->VK->Prop
noncomputable def vO (X:Cx) (f:Value->Value->Sem Value) (r:R2):Prop:=
 ∀(pins:List (Addr×Obj)) (s:Shared) (σ:St) (H:Hp) (x y:V) (v u:Value) (Q:VK),Inv X pins σ H s->RelV x v->RelV y u->r x y H Q->
  wpAny (model X.prog X.w) X.A (f v u) (EP X pins σ Q) X.xe s
noncomputable def VO (X:Cx) (f:Value->Sem Value) (r:V->Hp->VK->Prop):Prop:=
 ∀(pins:List (Addr×Obj)) (s:Shared) (σ:St) (H:Hp) (x:V) (v:Value) (Q:VK),Inv X pins σ H s->RelV x v->r x H Q->
  wpAny (model X.prog X.w) X.A (f v) (EP X pins σ Q) X.xe s
noncomputable def ny (X:Cx) (f:Value) (r:List V->Hp->VK->Prop):Prop:=
 ∀(pins:List (Addr×Obj)) (s:Shared) (σ:St) (H:Hp) (xs:List V) (us:List Value) (Q:VK),Inv X pins σ H s->Vals xs us->r xs H Q->
  wpAny (model X.prog X.w) X.A (call f us) (EP X pins σ Q) X.xe s
noncomputable def VP (X:Cx) (r:V->Hp->(Bool->Hp->Prop)->Prop):Prop:=
 ∀(pins:List (Addr×Obj)) (s:Shared) (σ:St) (H:Hp) (x:V) (v:Value) (Q:Bool->Hp->Prop),Inv X pins σ H s->RelV x v->r x H Q->
  wpAny (model X.prog X.w) X.A (truthy v) (TP X pins σ Q) X.xe s
noncomputable def RS (r:R2) (ta tb:TE):TE:=fun σ H Q=>ta σ H fun x H1=>tb σ H1 fun y H2=>r x y H2 Q
noncomputable def Wz (r:V->Hp->VK->Prop) (ta:TE):TE:=fun σ H Q=>ta σ H fun x H1=>r x H1 Q
noncomputable def rI (C:Int->Int->Prop) (g:Int->Int->V):R2:=fun x y H Q=>∃i j,x= .int i/\y= .int j/\C i j/\Q (g i j) H
noncomputable def Qt (g:Int->Int->V):R2:=fun x y H Q=>∃i j,x= .int i/\y= .int j/\Q (g i j) H
noncomputable def rU (g:Int->V):V->Hp->VK->Prop:=fun x H Q=>∃i,x= .int i/\Q (g i) H
section
variable {X:Cx}{a b c:Expr}{ta tb tc:TE}{pos:Pos}
theorem Sy(ha:PE X a ta)(hb:PE X b tb){pins:List (Addr×Obj)}{s:Shared}{σ:St}{H:Hp}{R:V->V->Hp->Prop}(I:Inv X pins σ H s)
  (h:ta σ H fun x H1=>tb σ H1 fun y H2=>R x y H2) {Q:Value->Shared->Prop} {f:Value->Value->Sem Value}
  (hf:∀v u s2 x y H2,Inv X pins σ H2 s2->RelV x v->RelV y u->R x y H2->wpAny (model X.prog X.w) X.A (f v u) Q X.xe s2):
  wpAny (model X.prog X.w) X.A (eval a X.env) (fun v s₁=>wpAny (model X.prog X.w) X.A (eval b X.env) (fun u s₂=>wpAny (model X.prog X.w) X.A (f v u) Q X.xe s₂) X.xe s₁) X.xe s:=by
 refine ic (ha pins s σ H _ I h) fun v s1 ⟨x,H1,I1,r1,q1⟩=> ?_
 refine ic (hb pins s1 σ H1 _ I1 q1) fun u s2 ⟨y,H2,I2,r2,q2⟩=> ?_
 exact hf v u s2 x y H2 I2 r1 r2 q2
theorem eX{op:Operator}{r:R2}(ho:vO X (binaryOp op) r)(ha:PE X a ta)(hb:PE X b tb):PE X (.BinOp a op b pos) (RS r ta tb):=by
 intro pins s σ H Q I h;exact wpAny_BinOp (Sy ha hb I h fun v u s2 x y H2 I2 rx ry q=>ho pins s2 σ H2 x y v u Q I2 rx ry q)
theorem jT{op:UnaryOp}{r:V->Hp->VK->Prop}(ho:VO X (unaryOp op) r)(ha:PE X a ta):PE X (.UnaryOp op a pos) (Wz r ta):=by
 intro pins s σ H Q I h;exact UnaryOp_ (ic (ha pins s σ H _ I h) fun v s1 ⟨x,H1,I1,r1,q1⟩=>ho pins s1 σ H1 x v Q I1 r1 q1)
theorem VQ{f:Value->Value->Sem Value}{C:Int->Int->Prop}{g:Int->Int->Int}
  (rule:∀(i j:Int) (t u:Tok) (s:Shared) (Q:Value->Shared->Prop) (E:Value->Shared->Prop),C i j->Q (.int (g i j) s.toks) {s with toks:=s.toks+1}->wpAny (model X.prog X.w) X.A (f (.int i t) (.int j u)) Q E s):
  vO X f (rI C fun i j=> .int (g i j)):=by
 intro pins s σ H x y v u Q I rx ry h;obtain⟨i,j,rfl,rfl,hc,q⟩:=h;obtain⟨t,rfl⟩:=rx;obtain⟨t',rfl⟩:=ry;exact rule i j t t' s _ _ hc ⟨.int (g i j),H,I.tok _,⟨_,rfl⟩,q⟩
theorem Uv{f:Value->Value->Sem Value}{g:Int->Int->Int}
  (rule:∀(i j:Int) (t u:Tok) (s:Shared) (Q:Value->Shared->Prop) (E:Value->Shared->Prop),Q (.int (g i j) s.toks) {s with toks:=s.toks+1}->wpAny (model X.prog X.w) X.A (f (.int i t) (.int j u)) Q E s):
  vO X f (Qt fun i j=> .int (g i j)):=by
 intro pins s σ H x y v u Q I rx ry h;obtain⟨i,j,rfl,rfl,q⟩:=h;obtain⟨t,rfl⟩:=rx;obtain⟨t',rfl⟩:=ry;exact rule i j t t' s _ _ ⟨.int (g i j),H,I.tok _,⟨_,rfl⟩,q⟩
theorem QC{f:Value->Value->Sem Value}{g:Int->Int->Bool}
  (rule:∀(i j:Int) (t u:Tok) (s:Shared) (Q:Value->Shared->Prop) (E:Value->Shared->Prop),Q (.bool (g i j)) s->wpAny (model X.prog X.w) X.A (f (.int i t) (.int j u)) Q E s):
  vO X f (Qt fun i j=> .bl (g i j)):=by
 intro pins s σ H x y v u Q I rx ry h;obtain⟨i,j,rfl,rfl,q⟩:=h;obtain⟨t,rfl⟩:=rx;obtain⟨t',rfl⟩:=ry;exact rule i j t t' s _ _ ⟨.bl (g i j),H,I,rfl,q⟩
theorem kn:vO X (binaryOp .Add) (Qt fun i j=> .int (i+j)):=Uv fun _ _ _ _ _ _ _ q=>add_int q
theorem nZ:vO X (binaryOp .Sub) (Qt fun i j=> .int (i - j)):=Uv fun _ _ _ _ _ _ _ q=>sub_int q
theorem Ob:vO X (binaryOp .Mod) (rI (fun _ j=>0<j) fun i j=> .int (i % j)):=VQ fun i j _ _ _ _ _ hc q=>by
 have h1:(0:Int)<j:=hc;exact mod_int' (by lia) (by rw[Int.fmod_eq_emod_of_nonneg i (by lia)];exact q)
theorem WV{f:Value->Sem Value}{g:Int->Int}
  (rule:∀(i:Int) (t:Tok) (s:Shared) (Q:Value->Shared->Prop) (E:Value->Shared->Prop),Q (.int (g i) s.toks) {s with toks:=s.toks+1}->wpAny (model X.prog X.w) X.A (f (.int i t)) Q E s):
  VO X f (rU fun i=> .int (g i)):=by
 intro pins s σ H x v Q I rx h;obtain⟨i,rfl,q⟩:=h;obtain⟨t,rfl⟩:=rx;exact rule i t s _ _ ⟨.int (g i),H,I.tok _,⟨_,rfl⟩,q⟩
theorem ie:VO X (unaryOp .USub) (rU fun i=> .int (-i)):=WV fun _ _ _ _ _ q=>neg_int q
end
noncomputable def Uw:V->V->Bool
 | .jS,.jS=>true | .jS,.int _=>true | .int _,.jS=>true | .jS,.bl _=>true | .bl _,.jS=>true | .jS,.str _=>true | .str _,.jS=>true
 | .int _,.int _=>true | .bl _,.bl _=>true | .str _,.str _=>true | .FU _,.FU _=>true
 | .int _,.str _=>true | .str _,.int _=>true | .bl _,.str _=>true | .str _,.bl _=>true
 |_,_=>false
noncomputable def WW:R2:=fun x y H Q=>Uw x y=true/\Q (.bl (decide (x=y))) H
noncomputable def WX:R2:=fun x y H Q=>Uw x y=true/\Q (.bl (!decide (x=y))) H
theorem La{i j:Int}:decide (V.int i=V.int j)=(i==j):=by
 rw[a4];simp
theorem Oc{i j:Bool}:decide (V.bl i=V.bl j)=(i==j):=by
 rw[a4];simp
theorem Lb{i j:Str}:decide (V.str i=V.str j)=(i==j):=by
 rw[a4];simp
theorem Lc{i j:Array UInt8}:decide (V.FU i=V.FU j)=(i.toList==j.toList):=by
 rw[a4];cases i
 cases j
 simp
section
variable {X:Cx}{a b c:Expr}{ta tb tc:TE}{pos:Pos}
theorem fM{pins:List (Addr×Obj)}{σ:St}{H:Hp}{s:Shared}{Q:VK}{k k':Bool}(I:Inv X pins σ H s)(q:Q (.bl k) H)(e:k=k'):EP X pins σ Q (.bool k') s:=by
 subst e;exact⟨.bl k,H,I,rfl,q⟩
theorem ji:vO X (compareOp .Eq) WW:=by
 intro pins s σ H x y v u Q I rx ry h;obtain⟨hs,q⟩:=h;cases x with
 |jS=>
  cases rx
  cases y with
  |jS=>cases ry;exact PySem.EqNone.eq_none_none (fM I q (by simp))
  |bl j=>cases ry;exact PySem.EqNone.eq_none_bool (fM I q (by simp))
  |int j=>obtain⟨t',rfl⟩:=ry;exact PySem.EqNone.eq_none_int (fM I q (by simp))
  |str j=>obtain⟨t',rfl⟩:=ry;exact PySem.EqNone.eq_none_str (fM I q (by simp))
  |_=>exact absurd (show false=true from hs) aO
 |bl i=>
  cases rx
  cases y with
  |jS=>cases ry;exact PySem.EqNone.eq_bool_none (fM I q (by simp))
  |bl j=>cases ry;exact eq_bool (fM I q Oc)
  |str j=>obtain⟨t',rfl⟩:=ry;exact PySem.EqMixed.eq_bool_str (fM I q (by simp))
  |_=>exact absurd (show false=true from hs) aO
 |int i=>
  obtain⟨t,rfl⟩:=rx;cases y with
  |jS=>cases ry;exact PySem.EqNone.eq_int_none (fM I q (by simp))
  |int j=>obtain⟨t',rfl⟩:=ry;exact eq_int (fM I q La)
  |str j=>obtain⟨t',rfl⟩:=ry;exact PySem.EqMixed.eq_int_str (fM I q (by simp))
  |_=>exact absurd (show false=true from hs) aO
 |str i=>
  obtain⟨t,rfl⟩:=rx;cases y with
  |jS=>cases ry;exact PySem.EqNone.eq_str_none (fM I q (by simp))
  |bl j=>cases ry;exact PySem.EqMixed.eq_str_bool (fM I q (by simp))
  |int j=>obtain⟨t',rfl⟩:=ry;exact PySem.EqMixed.eq_str_int (fM I q (by simp))
  |str j=>obtain⟨t',rfl⟩:=ry;exact eq_str (fM I q Lb)
  |_=>exact absurd (show false=true from hs) aO
 |FU i=>
  obtain⟨t,rfl⟩:=rx;cases y with
  |FU j=>obtain⟨t',rfl⟩:=ry;exact PySem.W.eq_bytes (fM I q Lc)
  |_=>exact absurd (show false=true from hs) aO
 |_=>cases y <;>exact absurd (show false=true from hs) aO
theorem Ay:vO X (compareOp .NotEq) WX:=by
 intro pins s σ H x y v u Q I rx ry h;obtain⟨hs,q⟩:=h;cases x with
 |jS=>
  cases rx
  cases y with
  |jS=>cases ry;exact PySem.EqNone.ne_none_none (fM I q (by simp))
  |bl j=>cases ry;exact PySem.EqNone.ne_none_bool (fM I q (by simp))
  |int j=>obtain⟨t',rfl⟩:=ry;exact PySem.EqNone.ne_none_int (fM I q (by simp))
  |str j=>obtain⟨t',rfl⟩:=ry;exact PySem.EqNone.ne_none_str (fM I q (by simp))
  |_=>exact absurd (show false=true from hs) aO
 |bl i=>
  cases rx
  cases y with
  |jS=>cases ry;exact PySem.EqNone.ne_bool_none (fM I q (by simp))
  |bl j=>cases ry;exact ne_bool (fM I q (congrArg not Oc))
  |str j=>obtain⟨t',rfl⟩:=ry;exact PySem.EqMixed.ne_bool_str (fM I q (by simp))
  |_=>exact absurd (show false=true from hs) aO
 |int i=>
  obtain⟨t,rfl⟩:=rx;cases y with
  |jS=>cases ry;exact PySem.EqNone.ne_int_none (fM I q (by simp))
  |int j=>obtain⟨t',rfl⟩:=ry;exact ne_int (fM I q (congrArg not La))
  |str j=>obtain⟨t',rfl⟩:=ry;exact PySem.EqMixed.ne_int_str (fM I q (by simp))
  |_=>exact absurd (show false=true from hs) aO
 |str i=>
  obtain⟨t,rfl⟩:=rx;cases y with
  |jS=>cases ry;exact PySem.EqNone.ne_str_none (fM I q (by simp))
  |bl j=>cases ry;exact PySem.EqMixed.ne_str_bool (fM I q (by simp))
  |int j=>obtain⟨t',rfl⟩:=ry;exact PySem.EqMixed.ne_str_int (fM I q (by simp))
  |str j=>obtain⟨t',rfl⟩:=ry;exact ne_str (fM I q (congrArg not Lb))
  |_=>exact absurd (show false=true from hs) aO
 |FU i=>
  obtain⟨t,rfl⟩:=rx;cases y with
  |FU j=>obtain⟨t',rfl⟩:=ry;exact PySem.W.ne_bytes (fM I q (congrArg not Lc))
  |_=>exact absurd (show false=true from hs) aO
 |_=>cases y <;>exact absurd (show false=true from hs) aO
theorem Ld:vO X (compareOp .Lt) (Qt fun i j=> .bl (decide (i<j))):=QC fun _ _ _ _ _ _ _ q=>lt_int q
theorem qQ:vO X (compareOp .LtE) (Qt fun i j=> .bl (decide (i<=j))):=QC fun _ _ _ _ _ _ _ q=>le_int q
theorem vB:vO X (compareOp .Gt) (Qt fun i j=> .bl (decide (j<i))):=QC fun _ _ _ _ _ _ _ q=>gt_int q
theorem Od:vO X (compareOp .GtE) (Qt fun i j=> .bl (decide (j<=i))):=QC fun _ _ _ _ _ _ _ q=>ge_int q
theorem eH(b:Expr){op:CmpOp}(h:op≠.In:=by decide)(h2:op≠.NotIn:=by decide):behindInMarks op b=false:=by
 have e1:(op==CmpOp.In)=false:=by cases op <;>first |rfl |exact absurd rfl h
 have e2:(op==CmpOp.NotIn)=false:=by cases op <;>first |rfl |exact absurd rfl h2
 cases b <;>simp[behindInMarks,e1,e2]
theorem gU{op:CmpOp}{r:R2}(ho:vO X (compareOp op) r)(ha:PE X a ta)(hb:PE X b tb)(hm:behindInMarks op b=false):PE X (.Compare a [op] [b] pos) (RS r ta tb):=by
 intro pins s σ H Q I h;exact wpAny_Compare1 (Sy ha hb I h fun v u s2 x y H2 I2 rx ry q=>ho pins s2 σ H2 x y v u Q I2 rx ry q) hm
noncomputable def Oe (t:TE):TT:=fun σ H Q=>t σ H fun x H'=>∃k,x= .bl k/\Q k H'
theorem eO{op:CmpOp}{r:R2}(ho:vO X (compareOp op) r)(ha:PE X a ta)(hb:PE X b tb)(hm:behindInMarks op b=false):PT X (.Compare a [op] [b] pos) (Oe (RS r ta tb)):=by
 intro pins s σ H Q I h;refine wpAny_isTrue_Compare1 (ic (ha pins s σ H _ I h) fun v s1 ⟨x,H1,I1,r1,q1⟩=>ic (hb pins s1 σ H1 _ I1 q1) fun u s2 ⟨y,H2,I2,r2,q2⟩=>
  ic (ho pins s2 σ H2 x y v u _ I2 r1 r2 q2) fun c s3 ⟨z,H3,I3,r3,k,e,q3⟩=> ?_) hm
 subst e;cases r3
 exact wpAny_truthy_bool ⟨H3,I3,q3⟩
noncomputable def Of (r r':R2) (ta tb tc:TE):TE:=fun σ H Q=>ta σ H fun x H1=>tb σ H1 fun y H2=>r x y H2 fun z H3=>∃k,z= .bl k/\
 (if k=true then tc σ H3 fun w' H4=>r' y w' H4 Q else Q (.bl false) H3)
theorem HA{op op':CmpOp}{r r':R2}(ho:vO X (compareOp op) r)(ho':vO X (compareOp op') r')(ha:PE X a ta)(hb:PE X b tb)(hc:PE X c tc)
  (hm:lastMarks [op,op'] [b,c]=false:=by with_unfolding_all rfl):PE X (.Compare a [op,op'] [b,c] pos) (Of r r' ta tb tc):=by
 intro pins s σ H Q I h;refine Compare_chain (ic (ha pins s σ H _ I h) fun v s1 ⟨x,H1,I1,r1,q1⟩=>chain_link (ic (hb pins s1 σ H1 _ I1 q1) fun u s2 ⟨y,H2,I2,r2,q2⟩=>
  ic (ho pins s2 σ H2 x y v u _ I2 r1 r2 q2) fun d s3 ⟨z,H3,I3,r3,k,e,q3⟩=> ?_)) hm
 subst e;cases r3
 refine wpAny_truthy_bool ?_;cases k with
 |false=>exact ite_ff ⟨.bl false,H3,I3,rfl,q3⟩
 |true=>exact ite_tt (chain_last (ic (hc pins s3 σ H3 _ I3 q3) fun w' s4 ⟨z',H4,I4,r4,q4⟩=>ho' pins s4 σ H4 y z' u w' Q I4 r2 r4 q4))
theorem BZ{op op':CmpOp}{r r':R2}(ho:vO X (compareOp op) r)(ho':vO X (compareOp op') r')(ha:PE X a ta)(hb:PE X b tb)(hc:PE X c tc)
  (hm:lastMarks [op,op'] [b,c]=false:=by with_unfolding_all rfl):PT X (.Compare a [op,op'] [b,c] pos) (Oe (Of r r' ta tb tc)):=by
 intro pins s σ H Q I h;refine isTrue_chain (ic (ha pins s σ H _ I h) fun v s1 ⟨x,H1,I1,r1,q1⟩=>test_link (ic (hb pins s1 σ H1 _ I1 q1) fun u s2 ⟨y,H2,I2,r2,q2⟩=>
  ic (ho pins s2 σ H2 x y v u _ I2 r1 r2 q2) fun d s3 ⟨z,H3,I3,r3,k,e,q3⟩=> ?_)) hm
 subst e;cases r3
 refine wpAny_truthy_bool ?_;cases k with
 |false=>
  obtain⟨k',e',q'⟩:=q3;cases e'
  exact ite_ff ⟨H3,I3,q'⟩
 |true=>
  refine ite_tt (test_last (ic (hc pins s3 σ H3 _ I3 q3) fun w' s4 ⟨z',H4,I4,r4,q4⟩=>ic (ho' pins s4 σ H4 y z' u w' _ I4 r2 r4 q4) fun d' s5 ⟨z2,H5,I5,r5,k2,e2,q5⟩=> ?_));subst e2;cases r5
  exact wpAny_truthy_bool ⟨H5,I5,q5⟩
noncomputable def Og (K:PySem.W.Frag) (x:V) (H:Hp) (k:Bool):Prop:=
 match x with
 | .jS=>k=false
 | .bl b=>k=b
 | .int i=>k=(i !=0)
 | .str y=>y.length<=sizeLine/\k=((y.length:Int) !=0)
 | .FU y=>y.size<=sizeLine/\k=((y.size:Int) !=0)
 | .ref p=>(∃xs,kg K H p xs/\k= !xs.isEmpty)\/(∃xs,BX K H p xs/\k= !xs.isEmpty)\/∃kvs,H p=some (.dK kvs)/\k= !kvs.isEmpty
 |_=>False
theorem JH{κ:Type}{kvs:List (κ×V)}{vs:List (κ×Value)}(r:KV kvs vs):(!vs.isEmpty)= !kvs.isEmpty:=by
 cases r <;>rfl
theorem B1{xs:List V}{its:List Value}(r:Vals xs its):(!its.toArray.isEmpty)= !xs.isEmpty:=by
 cases r <;>simp
theorem yT:(sizeLine:Nat)<2^63:=by rw[sizeLine_eq];decide
theorem Oh:VP X (fun x H Q=>∃k,Og X.K x H k/\Q k H):=by
 intro pins s σ H x v Q I rx h;obtain⟨k,e,q⟩:=h;have hl:=yT;have hs:sizeLine=16777216:=sizeLine_eq;cases x with
 |jS=>
  cases rx
  have e':k=false:=e;subst e';exact truthy_none ⟨H,I,q⟩
 |bl b=>
  cases rx
  have e':k=b:=e;subst e';exact wpAny_truthy_bool ⟨H,I,q⟩
 |int i=>
  obtain⟨t,rfl⟩:=rx;have e':k=(i !=0):=e;subst e';exact PySem.P.truthy_int ⟨H,I,q⟩
 |str y=>
  obtain⟨t,rfl⟩:=rx;obtain⟨hy,e'⟩:y.length<=sizeLine/\k=((y.length:Int) !=0):=e;subst e';exact PySem.P.truthy_str (by lia) ⟨H,I.tok _,q⟩
 |FU y=>
  obtain⟨t,rfl⟩:=rx;obtain⟨hy,e'⟩:y.size<=sizeLine/\k=((y.size:Int) !=0):=e;subst e';exact PySem.W.truthy_bytes (by lia) ⟨H,I.tok _,q⟩
 |ref p=>
  cases rx
  have e':(∃xs,kg X.K H p xs/\k= !xs.isEmpty)\/(∃xs,BX X.K H p xs/\k= !xs.isEmpty)\/∃kvs,H p=some (.dK kvs)/\k= !kvs.isEmpty:=e;rcases e' with⟨xs,hx,e'⟩ |⟨xs,hx,e'⟩ |⟨kvs,hx,e'⟩
  ·subst e';obtain⟨its,r,pl,hz⟩:=I.list hx;have hlen:=r.length;exact wpAny_truthy_list pl.isList (by simp only[aK];lia) ⟨H,I.tok _,by rw[B1 r];exact q⟩
  ·subst e';obtain⟨its,r,pl,hz⟩:=I.tuple hx;have hlen:=r.length;exact truthy_tuple pl (by simp only[aK];lia) ⟨H,I.tok _,by rw[B1 r];exact q⟩
  ·subst e';obtain⟨hz,hS,vs,r,m⟩:kvs.length<=sizeLine/\(p==sysModules)=false/\∃vs,KV kvs vs/\s.heap.DictOf (FT X.prog X.w) p vs:=I.iL p _ hx;have hlen:kvs.length=vs.length:=Paired.length r;exact wpAny_truthy_dict hS m (by lia) ⟨H,I.tok _,by rw[JH r];exact q⟩
 |_=>exact(show False from e).elim
theorem Oi(ha:PE X a ta)(he:∀whole,isTrue a X.env whole=(do let v<-whole;standAt a.pos;holding [v] (truthy v))):
  PT X a (fun σ H Q=>ta σ H fun x H'=>∃k,Og X.K x H' k/\Q k H'):=by
 intro pins s σ H Q I h;exact isTrue_plain (ic (ha pins s σ H _ I h) fun v s1 ⟨x,H1,I1,r1,q1⟩=>Oh pins s1 σ H1 x v Q I1 r1 q1) (he _)
theorem vals1{x:V}{us:List Value}(r:Vals [x] us):∃u,us=[u]/\RelV x u:=by
 cases r with
 |cons r1 r2=>cases r2;exact⟨_,rfl,r1⟩
theorem vals2{x y:V}{us:List Value}(r:Vals [x,y] us):∃u w',us=[u,w']/\RelV x u/\RelV y w':=by
 cases r with
 |cons r1 r2=>
  cases r2 with
  |cons r3 r4=>cases r4;exact⟨_,_,rfl,r1,r3⟩
theorem B2:ny X (.builtin "abs") (fun xs H Q=>∃i,xs=[.int i]/\Q (.int (if i<0 then -i else i)) H):=by
 intro pins s σ H xs us Q I r h;obtain⟨i,rfl,q⟩:=h;obtain⟨u,rfl,t,rfl⟩:=vals1 r;exact call_abs_int fun u tk=>⟨.int (if i<0 then -i else i),H,I.tok _,⟨_,rfl⟩,q⟩
theorem Mt(hc:X.calm=true):ny X (.builtin "max") (fun xs H Q=>∃i j,xs=[.int i,.int j]/\Q (.int (if j>i then j else i)) H):=by
 intro pins s σ H xs us Q I r h;obtain⟨i,j,rfl,q⟩:=h;obtain⟨u,w',rfl,⟨t,rfl⟩,⟨t',rfl⟩⟩:=vals2 r;refine max_two_ints (I.ok.hd hc) fun h' tk k=>⟨_,H,I.kept k,?_,q⟩
 by_cases hj:j>i
 ·rw[ah hj,ah hj];exact⟨_,rfl⟩
 ·rw[af hj,af hj];exact⟨_,rfl⟩
end
structure Mu(h:Heap)(x dx C:Addr)(mA:Str->Option Value):Prop where
 obj:h.get? x=some (PySem.W.instObj C dx)
 ns:h.Ns1 dx mA
 ne:dx≠x
theorem Mv{h:Heap}{dx:Addr}{mA:Str->Option Value}(n:h.Ns1 dx mA):∃od,h.get? dx=some od/\∀name,PySem.W.lookIn name od=some (mA name):=by
 obtain⟨o,es,ep,ho,hd,hk,_,hm⟩:=n;refine⟨o,ho,fun name=> ?_⟩;have e:=hm name;unfold nsFind findBy at e;rw[<-Array.find?_toList] at e;unfold PySem.W.lookIn;rw[hd];dsimp only;split
 ·rename_i y q;rw[q] at e;exact congrArg some e
 ·rename_i q;rw[q] at e;have a:es.toList.any (·.refKey)=false:=by
   rw[List.any_eq_false];intro y hy;obtain⟨z,t,hkey⟩:=hk y (Array.mem_toList_iff.mp hy);simp[DictEntry.refKey,hkey]
  have a':¬es.toList.any (·.refKey)=true:=by rw[a];exact aO
  rw[af a'];exact congrArg some e
theorem Mu.look{h:Heap}{x dx C:Addr}{mA:Str->Option Value}(I:Mu h x dx C mA):∃od,PySem.W.InstAt h x (PySem.W.instObj C dx) C (some od)/\∀name,PySem.W.lookIn name od=some (mA name):=
 let ⟨od,ho,hl⟩:=Mv I.ns
 ⟨od,⟨I.obj,rfl,rfl,ho⟩,hl⟩
section
variable {prog:Program}{w:World}{A:Around}{E:Value->Shared->Prop}{s:Shared}{K:PySem.W.Frag}{x dx C f:Addr}{mA:Str->Option Value}{name:Str}{v:Value}
theorem get_map{expr:Bool}{Q:Value->Shared->Prop}(X:K.In s.heap)(I:Mu s.heap x dx C mA)(hg:PySem.W.plainGet K C name=true)(hh:PySem.W.hasDictIn K C=true)
  (ha:PySem.W.findIn K (.ref C) name=some none) (hv:mA name=some v) (hv':PySem.W.handedIn v=true) (h:Q v {s with toks:=s.toks+1}):
  wpAny (model prog w) A (getAttr (.ref x) name expr) Q E s:=by
 obtain⟨od,J,hl⟩:=I.look;exact PySem.W.get_value X J (PySem.W.plainGet_of hg).1 (PySem.W.findObj_own hh ha rfl (by rw[hl,hv])) hv' h
theorem QD{ns:List Str}{Q:Unit->Shared->Prop}(X:K.In s.heap)(I:Mu s.heap x dx C mA)
  (hs:PySem.W.findIn K (.ref C) "__setattr__"=some (some (.builtin "object.__setattr__"))) (hp:PySem.W.plainOver K C=true) (ht:PySem.W.takerIn K C name=some none) (hh:PySem.W.hasDictIn K C=true)
  (hw:PySem.Within mA ns) (hsz:ns.length<=sizeLine)
  (h:∀h',Mu h' x dx C (fun y=>if y=name then some v else mA y)->Heap.SameBut dx s.heap h'->Q () {s with heap:=h',toks:=s.toks+2}):
  wpAny (model prog w) A (setAttr (.ref x) name v) Q E s:=by
 obtain⟨od,J,hl⟩:=I.look;refine PySem.W.set_plain X J hs (PySem.W.osa_open (s:={s with toks:=s.toks+1}) (r:=none) X J hp ht fun b=> ?_);obtain⟨cd,hc,hd'⟩:=PySem.W.any_some hh;have hx:s.heap.get? x=some ⟨.ref C,some dx,.plain,#[]⟩:=I.obj;refine wpAny_bind (wpAny_pure (wpAny_bind (wpAny_bind (wpAny_loadPart hx (wpAny_bind (PySem.W.Looks.here (s:={s with toks:=s.toks+1}) (PySem.W.looks_clsIn X hc) ?_))))));rw[hd'];refine wpAny_pure (a:=some dx) (wpAny_bind (wpAny_pure (wpAny_bind ?_)));refine wpAny_nsSet1 (s:={s with toks:=s.toks+1}) I.ns fun h' hn2 hs2=> ?_
 obtain⟨oD,esD,epD,hoD,hdD,hcD⟩:=hn2.count (PySem.Within.cons name v hw);refine wpAny_bind (wpAny_lookBehind hoD (by rw[hdD];exact pastItsLine_dict (ay hcD (by rw[au];lia))) ?_);exact wpAny_pure (h _ ⟨(hs2.2 _ (bL I.ne)).trans I.obj,hn2,I.ne⟩ hs2)
theorem Oj{R:Result->Shared->Prop}{vs:List Value}{kw:List (Str×Value)}(X:K.In s.heap)(hm:PySem.W.makesIn K C=true)
  (hi:PySem.W.findIn K (.ref C) "__init__"=some (some (.ref f))) (hf:PySem.W.typeIn K (.ref f)=some (.type "function"))
  (h:codeAny (model prog w) (A.under (.builtin "type.__call__" ⟨.ref C::vs,kw⟩)) (.call (.ref f) ⟨.ref (s.heap.objs.size+1)::vs,kw⟩) (PySem.W.InitBack (s.heap.objs.size+1) R)
   {s with heap:=(s.heap.push PySem.W.emptyDict).push (PySem.W.instObj C s.heap.objs.size)}):
  codeAny (model prog w) A (.call (.ref C) ⟨vs,kw⟩) R s:=by
 obtain⟨hh,g,d,t,os⟩:=s;exact PySem.W.make_core (PySem.W.makes_of X hm) (PySem.W.looks_findIn X hi) (fun self=>PySem.W.bind_fn X self hf) (.inl rfl) h
end
noncomputable def jr (f:Str) (v:V):List (Str×V)->List (Str×V)
 |[]=>[(f,v)]
 |(g,x)::r=>if g=f then(g,v)::r else(g,x)::jr f v r
theorem Az(f g:Str)(v:V):∀fs:List (Str×V),(jr f v fs).lookup g=if g=f then some v else fs.lookup g
 |[]=>by
  show List.lookup g [(f,v)]=_;by_cases h:g=f
  ·have hb:(g==f)=true:=beq_iff_eq.mpr h;simp only[List.lookup,hb,ah h]
  ·have hb:(g==f)=false:=cX.mpr h;simp only[List.lookup,hb,af h]
 |(k,x)::r=>by
  have ih:=Az f g v r;rw[show jr f v ((k,x)::r)=(if k=f then(k,v)::r else(k,x)::jr f v r) from rfl];by_cases hk:k=f
  ·rw[ah hk];by_cases h:g=k
   ·have hb:(g==k)=true:=beq_iff_eq.mpr h;simp only[List.lookup,hb,ah (h.trans hk)]
   ·have hb:(g==k)=false:=cX.mpr h;simp only[List.lookup,hb,af (fun e:g=f=>h (e.trans hk.symm))]
  ·rw[af hk];by_cases h:g=k
   ·have hb:(g==k)=true:=beq_iff_eq.mpr h;simp only[List.lookup,hb,af (fun e:g=f=>hk (h.symm.trans e))]
   ·have hb:(g==k)=false:=cX.mpr h;simp only[List.lookup,hb];exact ih
theorem yU(f:Str)(v:V):∀fs:List (Str×V),f∈(jr f v fs).map (·.1)/\∀g,g∈fs.map (·.1)->g∈(jr f v fs).map (·.1)
 |[]=>⟨by simp[jr],fun g h=>by simp at h⟩
 |(k,x)::r=>by
  obtain⟨i1,i2⟩:=yU f v r;rw[show jr f v ((k,x)::r)=(if k=f then(k,v)::r else(k,x)::jr f v r) from rfl];by_cases hk:k=f
  ·rw[ah hk];subst hk;exact⟨by simp,fun g h=>by simpa using h⟩
  ·rw[af hk];refine⟨?_,fun g h=> ?_⟩
   ·rw[aH];exact ao _ i1
   ·rw[aH] at h⊢;rcases aJ.mp h with e |e
    ·exact aJ.mpr (.inl e)
    ·exact ao _ (i2 g e)
theorem AA(f:Str)(v:V):∀fs:List (Str×V),(jr f v fs).length<=fs.length+1
 |[]=>by simp[jr]
 |(k,x)::r=>by
  have ih:=AA f v r;rw[show jr f v ((k,x)::r)=(if k=f then(k,v)::r else(k,x)::jr f v r) from rfl];by_cases hk:k=f
  ·rw[ah hk,au,au];lia
  ·rw[af hk,au,au];lia
theorem Jw.some_of{v:V}{o:Option Value}(r:Jw (some v) o):∃u,o=some u/\RelV v u:=by
 cases o with
 |none=>exact(show False from r).elim
 |some u=>exact⟨u,rfl,r⟩
theorem Mw{v:V}{u:Value}(r:RelV v u):PySem.W.handedIn u=true:=by
 cases v with
 |jS=>cases(show u=Value.none from r);rfl
 |bl b=>cases(show u=Value.bool b from r);rfl
 |int i=>obtain⟨t,e⟩:=(show ∃t,u=Value.int i t from r);cases e;rfl
 |str x=>obtain⟨t,e⟩:=(show ∃t,u=Value.str x t from r);cases e;rfl
 |FU b=>obtain⟨t,e⟩:=(show ∃t,u=Value.bytes b t from r);cases e;rfl
 |T8 b=>obtain⟨t,e⟩:=(show ∃t,u=Value.float b t from r);cases e;rfl
 |ref a=>cases(show u=Value.ref a from r);rfl
 |ty n=>cases(show u=Value.type n from r);rfl
section
variable {P:Program}{w:World}{H H':Hp}{h h':Heap}{a C dx:Addr}{fs fs':List (Str×V)}
theorem Le(iL:w9 P w H h)(e:H a=some (.ins C dx fs)):∃mA,Mu h a dx C mA/\(∀f,Jw (fs.lookup f) (mA f))/\PySem.Within mA (fs.map (·.1))/\fs.length<=1000/\H dx=some (.own a):=by
 obtain⟨d,z,ne,ob,mA,n,r,q⟩:=(show kh P w H h a (.ins C dx fs) from iL a _ e);exact⟨mA,⟨ob,n,ne⟩,r,q,z,d⟩
end
structure QE(K:PySem.W.Frag)(C:Addr):Prop where
 pg:PySem.W.plainGet K C Str.empty=true
 hd:PySem.W.hasDictIn K C=true
 po:PySem.W.plainOver K C=true
 sa:PySem.W.findIn K (.ref C) "__setattr__"=some (some (.builtin "object.__setattr__"))
theorem QE.get{K:PySem.W.Frag}{C:Addr}(c:QE K C)(f:Str):PySem.W.plainGet K C f=true:=c.pg
noncomputable def n8 (K:PySem.W.Frag) (C:Addr) (f:Str):Prop:=PySem.W.findIn K (.ref C) f=some none
theorem n8.Ux{K:PySem.W.Frag}{C:Addr}{f:Str}(n:n8 K C f):PySem.W.takerIn K C f=some none:=by
 unfold PySem.W.takerIn;rw[show PySem.W.findIn K (.ref C) f=some none from n];rfl
section
variable {X:Cx}{pins:List (Addr×Obj)}{σ:St}{H:Hp}{s:Shared}{a C dx:Addr}{fs:List (Str×V)}{f:Str}{v:V}{A:Around}{E:Value->Shared->Prop}
theorem JI{b:Bool}{Q:Value->Shared->Prop}(I:Inv X pins σ H s)(e:H a=some (.ins C dx fs))(c:QE X.K C)(n:n8 X.K C f)(l:fs.lookup f=some v)
  (h:∀u s',Inv X pins σ H s'->RelV v u->Q u s'):wpAny (model X.prog X.w) A (getAttr (.ref a) f b) Q E s:=by
 obtain⟨mA,O,r,_,_,_⟩:=Le I.iL e;obtain⟨u,hu,ru⟩:=Jw.some_of (v:=v) (o:=mA f) (by rw[<-l];exact r f);exact get_map I.NO O (c.get f) c.hd n hu (Mw ru) (h u _ (I.tok _) ru)
theorem JJ{y:V}{u:Value}{Q:Unit->Shared->Prop}(I:Inv X pins σ H s)(e:H a=some (.ins C dx fs))(c:QE X.K C)(n:n8 X.K C f)(hl:fs.length<1000)(ry:RelV y u)
  (h:∀s',Inv X pins σ (upd H a (.ins C dx (jr f y fs))) s'->Q () s'):wpAny (model X.prog X.w) A (setAttr (.ref a) f u) Q E s:=by
 obtain⟨mA,O,r,wi,_,ho⟩:=Le I.iL e;have hz:(fs.map (·.1)).length<=sizeLine:=by rw[lMp,sizeLine_eq];lia
 refine QD I.NO O c.sa c.po n.Ux c.hd wi hz fun h' O' sb=>h _ ?_
 have hd:∃o,h'.get? dx=some o:=let ⟨o,_,_,e',_⟩:=O'.ns;⟨o,e'⟩;refine I.write (x:=a) (e:=dx) (by rw[e];exact True.intro) (.inr ho) (fun b q hb z=>(sb.2 b hb).trans z) hd ?_;refine⟨by rw[d4 O.ne];exact ho,?_,O.ne,O'.obj,_,O'.ns,fun g=> ?_,fun g hg=> ?_⟩
 ·have:=AA f y fs;lia
 ·show Jw ((jr f y fs).lookup g) (if g=f then some u else mA g);rw[Az];by_cases q:g=f
  ·rw[ah q,ah q];exact ry
  ·rw[af q,af q];exact r g
 ·by_cases q:g=f
  ·rw[q];exact(yU f y fs).1
  ·refine(yU f y fs).2 g (wi g fun z=>hg ?_);show(if g=f then some u else mA g)=none;rw[af q];exact z
theorem Inv.made(I:Inv X pins σ H s):Inv X pins σ (upd (upd H s.heap.objs.size (.own (s.heap.objs.size+1))) (s.heap.objs.size+1) (.ins C s.heap.objs.size []))
  {s with heap:=(s.heap.push PySem.W.emptyDict).push (PySem.W.instObj C s.heap.objs.size)}:=by
 have e1:(s.heap.push PySem.W.emptyDict).get? s.heap.objs.size=some PySem.W.emptyDict:=Heap.get?_push_size s.heap rfl;have e2:((s.heap.push PySem.W.emptyDict).push (PySem.W.instObj C s.heap.objs.size)).get? (s.heap.objs.size+1)=some (PySem.W.instObj C s.heap.objs.size):=by
  have:=Heap.get?_push_size (s.heap.push PySem.W.emptyDict) (o:=PySem.W.instObj C s.heap.objs.size) rfl
  rwa [Heap.size_push] at this
 have e3:(s.heap.push PySem.W.emptyDict).Ns s.heap.objs.size (fun _=>none):=⟨PySem.W.emptyDict,#[],_,e1,rfl,(fun e he=>absurd he (by simp)),fun _=>rfl⟩;have I1:=I.laid (a:=s.heap.objs.size) (o:= .own (s.heap.objs.size+1)) (h':=s.heap.push PySem.W.emptyDict) (t':=s.toks) (fun b u q=>Heap.get?_push_of_some _ q) (aj _) ⟨_,e1⟩;refine I1.laid (a:=s.heap.objs.size+1) (o:= .ins C s.heap.objs.size []) (t':=s.toks) (fun b u q=>Heap.get?_push_of_some _ q) (Nat.le_of_eq (Heap.size_push _ _)) ?_;have ne:s.heap.objs.size≠s.heap.objs.size+1:=bx (Nat.lt_succ_self _);refine⟨by rw[d4 ne,di],aM _,ne,e2,fun _=>none,(Heap.Ns1.of_empty e3).at fun o q=>Heap.get?_push_of_some _ q,fun _=>True.intro,fun y hy=>absurd rfl hy⟩
theorem QF{prog:Program}{w:World}{env:Env}{e:Expr}{f:Str}{pos:Pos}{s:Shared}{Q:Value->Shared->Prop}(hb:attributeBase e f env (eval e env)=eval e env)
  (h:wpAny (model prog w) A (eval e env) (fun o s₁=>wpAny (model prog w) A (getAttr o f true) Q E s₁) E s):wpAny (model prog w) A (eval (.Attribute e f pos) env) Q E s:=
 Attribute_any_ h (by rw[arm_eval_Attribute,hb])
end
noncomputable def Mx (K:PySem.W.Frag) (ta:TE) (f:Str):TE:=fun σ H Q=>ta σ H fun x H1=>∃a C dx fs v,x= .ref a/\H1 a=some (.ins C dx fs)/\QE K C/\n8 K C f/\fs.lookup f=some v/\Q v H1
noncomputable def VR (K:PySem.W.Frag) (ta tv:TE) (f:Str):TS:=fun D σ H=>tv σ H fun y H1=>ta σ H1 fun x H2=>∃a C dx fs,x= .ref a/\H2 a=some (.ins C dx fs)/\QE K C/\n8 K C f/\fs.length<1000/\
 D.nx σ (upd H2 a (.ins C dx (jr f y fs)))
section
variable {X:Cx}{o e value:Expr}{f:Str}{pos pos' tpos:Pos}{ta tv:TE}
theorem SA(he:PE X e ta)(hb:attributeBase e f X.env (eval e X.env)=eval e X.env):PE X (.Attribute e f pos) (Mx X.K ta f):=by
 intro pins s σ H Q I h;refine QF hb (ic (he pins s σ H _ I h) fun u s1 ⟨x,H1,I1,rx,a,C,dx,fs,v,ex,ea,c,n,l,q⟩=> ?_);subst ex;obtain rfl:u=Value.ref a:=rx;exact JI I1 ea c n l fun u' s2 I2 ru=>⟨v,H1,I2,ru,q⟩
theorem iN(ha:PE X o ta)(hv:PE X value tv)(hs:swapsWith value (some (.Attribute o f pos')) pos.line X.env=pure false):PS X (.Assign [.Attribute o f pos'] value pos) (VR X.K ta tv f):=by
 intro pins s σ H D I h;refine plainObj_wpAny_Assign_Attribute (ic (hv pins s σ H _ I h) fun u s1 ⟨y,H1,I1,ry,q⟩=>ic (ha pins s1 σ H1 _ I1 q) fun ov s2 ⟨x,H2,I2,rx,a,C,dx,fs,ex,ea,c,n,l,q2⟩=> ?_) hs;subst ex;obtain rfl:ov=Value.ref a:=rx;exact JJ I2 ea c n l ry fun s3 I3=>⟨σ,_,I3,q2⟩
end
structure ko(k:Nat)(A:Around):Prop where
 hd:A.handled=none
 dp:A.depth+3*k+5<recursionLimit
 un:A.units+16*k+200<cLine
theorem ko.mono{j k:Nat}{A:Around}(r:ko k A)(h:j<=k):ko j A:=⟨r.hd,by have:=r.dp;lia,by have:=r.un;lia⟩
theorem ko.deeper{k:Nat}{A:Around}(r:ko (k+1) A)(env:Env):ko k (A.deeper env):=
 ⟨r.hd,by have:=r.dp;show A.depth+1+3*k+5<_;lia,by have:=r.un;show A.units+3+16*k+200<_;lia⟩
theorem JK{A:Around}{C:Addr}{us:List Value}{kw:List (Str×Value)}:(A.under (.builtin "type.__call__" ⟨.ref C::us,kw⟩)).depth=A.depth+1:=by
 first |rfl |simp[Around.under,Code.weight,Code.isCreation,Code.isGuard,Code.isCaller,Code.frames,Code.isFrame,guardIds]
theorem JL{A:Around}{C:Addr}{us:List Value}{kw:List (Str×Value)}:(A.under (.builtin "type.__call__" ⟨.ref C::us,kw⟩)).units=A.units+1:=by
 first |rfl |simp[Around.under,Code.cUnits,Code.frames,Code.isFrame]
theorem ko.make{k:Nat}{A:Around}(r:ko (k+1) A)(C:Addr)(us:List Value)(kw:List (Str×Value)):ko k (A.under (.builtin "type.__call__" ⟨.ref C::us,kw⟩)):=
 ⟨r.hd,by have:=r.dp;rw[JK];lia,by have:=r.un;rw[JL];lia⟩
theorem ko.depth{k:Nat}{A:Around}(r:ko k A):A.depth<recursionLimit:=by have:=r.dp;lia
theorem ko.units{k:Nat}{A:Around}(r:ko k A):A.units+64<cLine:=by have:=r.un;lia
noncomputable def My:TA:=fun _ H Q=>Q [] H
noncomputable def xf (ta:TE) (tr:TA):TA:=fun σ H Q=>ta σ H fun x H1=>tr σ H1 fun xs H2=>Q (x::xs) H2
section
variable {X:Cx}{e:Expr}{es:List Expr}{te:TE}{t:TA}{pos:Pos}
theorem dc:PA X [] My:=fun _ _ _ _ H Q I h=>Calls.spliced_nil ⟨[],H,I,.nil,h⟩
theorem c8(ha:PE X e te)(hr:PA X es t)(hs:starEach (e::es) X.env=(false,eval e X.env)::starEach es X.env:=by rfl):PA X (e::es) (xf te t):=by
 intro pos pins s σ H Q I h;rw[hs];show wpAny _ _ (spliced ((false,eval e X.env)::backTo pos (starEach es X.env))) _ _ s;refine Calls.spliced_cons (ic (ha pins s σ H _ I h) fun u s1 ⟨x,H1,I1,r1,q1⟩=> ?_);exact ic (hr pos pins s1 σ H1 _ I1 q1) fun us s2 ⟨xs,H2,I2,r2,q2⟩=>⟨x::xs,H2,I2,.cons r1 r2,q2⟩
noncomputable def Uy (t:TA):TE:=fun σ H Q=>t σ H fun xs H1=>xs.length<=sizeLine/\∀p,H1 p=none->Q (.ref p) (upd H1 p (.tup xs))
noncomputable def Uz (t:TA):TE:=fun σ H Q=>t σ H fun xs H1=>xs.length<=sizeLine/\∀p,H1 p=none->Q (.ref p) (upd H1 p (.lst xs))
theorem gq{x1}(h:PA X es t):PE X (.Tuple es x1 pos) (Uy t):=by
 intro pins s σ H Q I hq;refine wpAny_Tuple_spliced (ic (h pos pins s σ H _ I hq) fun us s1 ⟨xs,H1,I1,r,z,q⟩=>⟨by rw[<-r.length];exact z,?_⟩);have hf:H1 s1.heap.objs.size=none:=I1.iL.fresh (aj _);refine⟨.ref s1.heap.objs.size,upd H1 s1.heap.objs.size (.tup xs),I1.laid (t':=s1.toks) (fun b u e=>Heap.get?_push_of_some _ e) (aj _) ?_,rfl,q _ hf⟩;exact⟨z,us,r,⟨_,Heap.get?_push_size _ rfl,rfl,_,rfl⟩⟩
theorem dP(h:PA X es t):PE X (.List es pos) (Uz t):=by
 intro pins s σ H Q I hq;refine wpAny_List_spliced (ic (h pos pins s σ H _ I hq) fun us s1 ⟨xs,H1,I1,r,z,q⟩=>⟨by rw[<-r.length];exact z,?_⟩);have hf:H1 s1.heap.objs.size=none:=I1.iL.fresh (aj _);refine⟨.ref s1.heap.objs.size,upd H1 s1.heap.objs.size (.lst xs),I1.laid (t':=s1.toks) (fun b u e=>Heap.get?_push_of_some _ e) (aj _) ?_,rfl,q _ hf⟩;exact⟨z,us,0,r,Heap.get?_push_size _ rfl⟩
end
noncomputable abbrev Sp:=List V->Hp->VK->XK->Prop
noncomputable abbrev NP:=List Env->Hp->Shared->XK->Value->Shared->Prop
structure JM(P:Program)(w:World)(K:PySem.W.Frag)(mg:Str->Option Value)(base:Heap)(A:Around)(outer:List Env)(s:Shared)(H:Hp):Prop where
 frames:A.frames=some outer
 mod:Mod K mg base
 bs:∀b o,base.get? b=some o->s.heap.get? b=some o/\H b=none
 Qw:base.objs.size<=s.heap.objs.size
 A5:s.heap.FunFrames base outer
 So:∀b∈NV outer,H b=none
 iL:w9 P w H s.heap
 bare:AllBare s.gens
noncomputable def CE (outer:List Env) (P:Program) (w:World) (H:Hp) (s:Shared) (Q:VK) (u:Value) (s':Shared):Prop:=
 ∃v H',s'.os=s.os/\AllBare s'.gens/\Un (NV outer) [] H H' s.heap s'.heap/\w9 P w H' s'.heap/\RelV v u/\Q v H'
noncomputable def CR (CX:NP) (outer:List Env) (P:Program) (w:World) (H:Hp) (s:Shared) (Q:VK) (E:XK) (r:Result) (s':Shared):Prop:=
 match r with
 | .ok (.ret u)=>CE outer P w H s Q u s'
 | .ok _=>False
 | .error e=>CX outer H s E e s'
structure qk(P:Program)(w:World)(K:PySem.W.Frag)(mg:Str->Option Value)(base:Heap)(CX:NP)(k:Nat)(f:Addr)(fd:FuncData)(ps:List Str)(sp:Sp):Prop where
 len:∀vs H Q E,sp vs H Q E->vs.length=ps.length
 run:∀(A:Around) (outer:List Env) (s:Shared) (H:Hp) (args:Args) (us:List Value) (vs:List V) (Q:VK) (E:XK),ko k A->JM P w K mg base A outer s H->BindsTo s fd args (ps.zip us)->Vals vs us->sp vs H Q E->
  codeAny (model P w) A (.call (.ref f) args) (CR CX outer P w H s Q E) s
theorem qk.mono{P:Program}{w:World}{K:PySem.W.Frag}{mg:Str->Option Value}{base:Heap}{CX:NP}{j k:Nat}{f:Addr}{fd:FuncData}{ps:List Str}{sp:Sp}(F:qk P w K mg base CX j f fd ps sp)(h:j<=k):
  qk P w K mg base CX k f fd ps sp:=⟨F.len,fun A outer s H args us vs Q E hr=>F.run A outer s H args us vs Q E (hr.mono h)⟩
theorem qk.imp{P:Program}{w:World}{K:PySem.W.Frag}{mg:Str->Option Value}{base:Heap}{CX:NP}{k:Nat}{f:Addr}{fd:FuncData}{ps:List Str}{sp sp':Sp}(F:qk P w K mg base CX k f fd ps sp)
  (h:∀vs H Q E,sp' vs H Q E->sp vs H Q E):qk P w K mg base CX k f fd ps sp':=
 ⟨fun vs H Q E q=>F.len vs H Q E (h _ _ _ _ q),fun A outer s H args us vs Q E hr he hb hv hs=>F.run A outer s H args us vs Q E hr he hb hv (h _ _ _ _ hs)⟩
theorem JM.make{P:Program}{w:World}{K:PySem.W.Frag}{mg:Str->Option Value}{base:Heap}{A:Around}{outer:List Env}{s:Shared}{H:Hp}(e:JM P w K mg base A outer s H)(C:Addr)(us:List Value)(kw:List (Str×Value)):
  JM P w K mg base (A.under (.builtin "type.__call__" ⟨.ref C::us,kw⟩)) outer s H:=⟨by first |exact e.frames |(simpa [Around.under,Code.envs,Code.isFrame,pushEnvs] using e.frames),e.mod,e.bs,e.Qw,e.A5,e.So,e.iL,e.bare⟩
section
variable {X:Cx}{pins:List (Addr×Obj)}{σ:St}{H:Hp}{s s':Shared}
theorem Inv.UA(I:Inv X pins σ H s):JM X.prog X.w X.K X.mg X.base X.A X.stack s H:=
 ⟨I.ok.frames,I.ok.mod,I.bs,ay I.ok.Qw I.sz,I.stack,I.K6,I.iL,I.bare⟩
theorem Inv.after{Q:VK}{u:Value}(I:Inv X pins σ H s)(h:CE X.stack X.prog X.w H s Q u s'):EP X pins σ Q u s':=by
 obtain⟨v,H',os,bare,un,iL,r,q⟩:=h;obtain⟨hh,g,d,t,os'⟩:=s';obtain rfl:os'=s.os:=os;exact⟨v,H',I.call (h':=hh) (g':=g) (d':=d) (t':=t) (ch:=[]) un iL bare (fun b z=>absurd z (by simp)),r,q⟩
end
noncomputable def Lf (sp:Sp) (dvs:List V) (E:XK) (t:TA):TE:=fun σ H Q=>t σ H fun vs H1=>sp (vs ++ dvs) H1 Q E
noncomputable def RT (C:Addr) (sp:Sp) (dvs:List V) (E:XK) (t:TA):TE:=fun σ H Q=>t σ H fun vs H1=>∀x dx,H1 x=none->H1 dx=none->dx≠x->
 sp (.ref x::(vs ++ dvs)) (upd (upd H1 dx (.own x)) x (.ins C dx [])) (fun v H2=>v= .jS/\Q (.ref x) H2) E
noncomputable def Binds (K:PySem.W.Frag) (fd:FuncData) (ps:List Str) (ds:List Value):Prop:=
 ∀(s:Shared) (us:List Value),K.In s.heap->(us ++ ds).length=ps.length->BindsTo s fd ⟨us,[]⟩ (ps.zip (us ++ ds))
theorem Binds.all{K:PySem.W.Frag}{fd:FuncData}{ps:List Str}(h:∀us:List Value,us.length=ps.length->bindArgs fd ⟨us,[]⟩=pure (ps.zip us)):Binds K fd ps []:=fun s us _ hl=>by
 rw[bM] at hl⊢;exact .of_eq (h us hl)
noncomputable def Passes (CX:NP) (X:Cx) (E:XK):Prop:=∀(pins:List (Addr×Obj)) (σ:St) (H:Hp) (s:Shared) (e:Value) (s':Shared),Inv X pins σ H s->CX X.stack H s E e s'->X.xe e s'
section
variable {X:Cx}{CX:NP}{k:Nat}{f C:Addr}{fd:FuncData}{ps:List Str}{sp:Sp}{dvs:List V}{ds:List Value}{E:XK}{x m:Str}{p pos apos:Pos}{e o:Expr}{es:List Expr}{ta:TE}{t:TA}
theorem Ol{pins:List (Addr×Obj)}{σ:St}{H:Hp}{s:Shared}{Q:VK}{us:List Value}{vs:List V}(F:qk X.prog X.w X.K X.mg X.base CX k f fd ps sp)(hr:ko k X.A)(hb:Binds X.K fd ps ds)(hd:Vals dvs ds)(hx:Passes CX X E)
  (I:Inv X pins σ H s) (r:Vals vs us) (h:sp (vs ++ dvs) H Q E):wpAny (model X.prog X.w) X.A (call (.ref f) us) (EP X pins σ Q) X.xe s:=by
 have r2:Vals (vs ++ dvs) (us ++ ds):=r.append hd;have hl:(us ++ ds).length=ps.length:=by rw[<-r2.length];exact F.len _ _ _ _ h
 refine wpAny_call (codeAny_mono (F.run X.A X.stack s H ⟨us,[]⟩ (us ++ ds) (vs ++ dvs) Q E hr I.UA (hb s us I.NO hl) r2 h) fun r s' hq=> ?_);cases r with
 |error e=>exact hx pins σ H s e s' I hq
 |ok fl=>
  cases fl with
  |ret u=>exact I.after hq
  |next=>exact False.elim hq
  |brk=>exact False.elim hq
  |cont=>exact False.elim hq
theorem QG(F:qk X.prog X.w X.K X.mg X.base CX k f fd ps sp)(hr:ko k X.A)(hg:Gl X x)(hm:X.mg x=some (.ref f))(hk:PySem.W.keepIn X.K (.ref f)=true)(hb:Binds X.K fd ps ds)(hd:Vals dvs ds)(hx:Passes CX X E)
  (ha:PA X (e::es) t) (hdb:(x==("__debug__":Str))=false:=by decide) (he:starEach (e::es) X.env=(false,eval e X.env)::starEach es X.env:=by rfl) (hpl:(backTo pos (starEach es X.env)).any (·.1)=false:=by rfl):
  PE X (.Call (.Name x p) (e::es) [] pos) (Lf sp dvs E t):=by
 intro pins s σ H Q I h;refine wpAny_Call_Name_kw (FX I hg hm ?_ hdb);refine PySem.W.callWith_K (h₀:=X.base) I.ok.mod.T9 hk (ic (ha pos pins s σ H _ I h) fun us s1 ⟨vs,H1,I1,r,q⟩=>⟨I1.NO,?_⟩) he hpl;exact Ol F hr hb hd hx I1 r q
structure Mk(K:PySem.W.Frag)(C f:Addr):Prop where
 makes:PySem.W.makesIn K C=true
 init:PySem.W.findIn K (.ref C) "__init__"=some (some (.ref f))
 fn:PySem.W.isFn K (.ref f)=true
 kp:PySem.W.keepIn K (.ref C)=true
theorem Om{pins:List (Addr×Obj)}{σ:St}{H:Hp}{s:Shared}{Q:VK}{us:List Value}{vs:List V}(M:Mk X.K C f)(F:qk X.prog X.w X.K X.mg X.base CX k f fd ps sp)(hr:ko (k+1) X.A)(hb:Binds X.K fd ps ds)(hd:Vals dvs ds)
  (hx:Passes CX X E) (I:Inv X pins σ H s) (r:Vals vs us)
  (h:∀x dx,H x=none->H dx=none->dx≠x->sp (.ref x::(vs ++ dvs)) (upd (upd H dx (.own x)) x (.ins C dx [])) (fun v H2=>v= .jS/\Q (.ref x) H2) E):
  wpAny (model X.prog X.w) X.A (call (.ref C) us) (EP X pins σ Q) X.xe s:=by
 have hq:=h (s.heap.objs.size+1) s.heap.objs.size (I.iL.fresh (Nat.le_succ _)) (I.iL.fresh (aj _)) (bx (Nat.lt_succ_self _));have I2:=Inv.made (C:=C) I;have r2:Vals (V.ref (s.heap.objs.size+1)::(vs ++ dvs)) (Value.ref (s.heap.objs.size+1)::(us ++ ds)):= .cons rfl (r.append hd);have hl:(Value.ref (s.heap.objs.size+1)::us ++ ds).length=ps.length:=by
  have e:=r2.length;rw[F.len _ _ _ _ hq] at e;exact e.symm
 refine wpAny_call (Oj (f:=f) I.NO M.makes M.init (beq_iff_eq.mp M.fn) (codeAny_mono (F.run _ X.stack _ _ ⟨Value.ref (s.heap.objs.size+1)::us,[]⟩ (Value.ref (s.heap.objs.size+1)::(us ++ ds)) _ _ E (hr.make C us [])
  (I2.UA.make C us []) (hb _ (Value.ref (s.heap.objs.size+1)::us) I2.NO hl) r2 hq) fun r s' hq'=> ?_))
 cases r with
 |error e=>exact hx pins σ _ _ e s' I2 hq'
 |ok fl=>
  cases fl with
  |ret u=>
   obtain⟨v,H',I3,rv,ev,q3⟩:=I2.after hq';subst ev;exact⟨rv,⟨V.ref (s.heap.objs.size+1),H',I3,rfl,q3⟩⟩
  |next=>exact False.elim hq'
  |brk=>exact False.elim hq'
  |cont=>exact False.elim hq'
theorem QH(M:Mk X.K C f)(F:qk X.prog X.w X.K X.mg X.base CX k f fd ps sp)(hr:ko (k+1) X.A)(hg:Gl X x)(hm:X.mg x=some (.ref C))(hb:Binds X.K fd ps ds)(hd:Vals dvs ds)(hx:Passes CX X E)
  (ha:PA X (e::es) t) (hdb:(x==("__debug__":Str))=false:=by decide) (he:starEach (e::es) X.env=(false,eval e X.env)::starEach es X.env:=by rfl) (hpl:(backTo pos (starEach es X.env)).any (·.1)=false:=by rfl):
  PE X (.Call (.Name x p) (e::es) [] pos) (RT C sp dvs E t):=by
 intro pins s σ H Q I h;refine wpAny_Call_Name_kw (FX I hg hm ?_ hdb);refine PySem.W.callWith_K (h₀:=X.base) I.ok.mod.T9 M.kp (ic (ha pos pins s σ H _ I h) fun us s1 ⟨vs,H1,I1,r,q⟩=>⟨I1.NO,?_⟩) he hpl;exact Om M F hr hb hd hx I1 r q
end
structure dE(N P:List Str)(sc:Scope):Prop where
 kind:sc.kind= .function
 co:sc.isCoroutine=false
 gen:sc.isGenerator=false
 nd:N.Nodup
 pre:N.take P.length=P
 par:∀x∈P,sc.names.lookup x=some .local\/sc.names.lookup x=some .cell
 SD:∀y∈sc.names,y.2≠.free
theorem EJ{kindOf:Str->Option NameKind}{x:Str}:∀{binds:List (Str×Value)} {m:Str->Option Value},(∀v,(x,v)∉binds)->bindL kindOf binds m x=m x
 |[],_,_=>rfl
 |(n,v)::r,m,h=>by
  unfold bindL;rw[EJ fun w hw=>h w (ao _ hw)];split
  ·have:x≠n:=by rintro rfl;exact h v ax
   simp[this]
  ·rfl
theorem EK{kindOf:Str->Option NameKind}{x:Str}:∀{binds:List (Str×Value)} {m:Str->Option Value},(∀v,(x,v)∉binds)->bindC kindOf binds m x=m x
 |[],_,_=>rfl
 |(n,v)::r,m,h=>by
  unfold bindC;rw[EK fun w hw=>h w (ao _ hw)];split
  ·rfl
  ·have:x≠n:=by rintro rfl;exact h v ax
   simp[this]
theorem EL{kindOf:Str->Option NameKind}{x:Str}{v:Value}:∀{P:List Str} {vs:List Value} {i:Nat} {m:Str->Option Value},P.Nodup->P[i]? =some x->vs[i]? =some v->kindOf x=some .local->
  bindL kindOf (P.zip vs) m x=some v
 |[],_,_,_,_,h,_,_=>by simp at h
 |_::_,[],_,_,_,_,h,_=>by simp at h
 |p::P,w::vs,0,m,nd,h1,h2,hk=>by
  simp at h1 h2;subst h1;subst h2;show bindL kindOf ((p,w)::P.zip vs) m p=_;unfold bindL;rw[EJ fun v hv=>(bW.mp nd).1 (List.of_mem_zip hv).1,ah hk];simp
 |p::P,w::vs,i+1,m,nd,h1,h2,hk=>by
  show bindL kindOf ((p,w)::P.zip vs) m x=_;unfold bindL;exact EL (i:=i) (bW.mp nd).2 (by simpa using h1) (by simpa using h2) hk
theorem EM{kindOf:Str->Option NameKind}{x:Str}{v:Value}:∀{P:List Str} {vs:List Value} {i:Nat} {m:Str->Option Value},P.Nodup->P[i]? =some x->vs[i]? =some v->kindOf x≠some .local->
  bindC kindOf (P.zip vs) m x=some v
 |[],_,_,_,_,h,_,_=>by simp at h
 |_::_,[],_,_,_,_,h,_=>by simp at h
 |p::P,w::vs,0,m,nd,h1,h2,hk=>by
  simp at h1 h2;subst h1;subst h2;show bindC kindOf ((p,w)::P.zip vs) m p=_;unfold bindC;rw[EK fun v hv=>(bW.mp nd).1 (List.of_mem_zip hv).1,af hk];simp
 |p::P,w::vs,i+1,m,nd,h1,h2,hk=>by
  show bindC kindOf ((p,w)::P.zip vs) m x=_;unfold bindC;exact EM (i:=i) (bW.mp nd).2 (by simpa using h1) (by simpa using h2) hk
noncomputable def start (N:List Str) (vs:List V):St:=vs.map some ++ List.replicate (N.length - vs.length) none
noncomputable def D6 (CX:NP) (P:Program) (w:World) (K:PySem.W.Frag) (mg:Str->Option Value) (base:Heap) (N:List Str) (qual:Str) (scope:Scope) (f:Addr) (cd:Value) (A:Around) (outer:List Env) (s:Shared) (H:Hp) (E:XK):Cx where
 prog:=P
 w:=w
 K:=K
 mg:=mg
 base:=base
 A:=A.deeper (envOfC qual scope s.heap.objs.size f cd)
 N:=N
 EF:=s
 Ua:=H
 env:=envOfC qual scope s.heap.objs.size f cd
 outer:=outer
 stack:=envOfC qual scope s.heap.objs.size f cd::outer
 ex:=[]
 calm:=true
 fn:=fun _=>true
 pn:=[]
 xe:=fun e s'=>wpAny (model P w) (A.deeper (envOfC qual scope s.heap.objs.size f cd)) (leaving (envOfC qual scope s.heap.objs.size f cd) e) (fun _ s''=>CX outer H s E e s'') (fun e' s''=>CX outer H s E e' s'') s'
theorem HB{sc:Scope}{n:Nat}{x:Str}(h:sc.names.lookup x=some .cell):∃c,(cellsFrom n sc.names []).lookup x=some c:=by
 have q:=PySem.W.cellsFrom_some sc.names n [] (.inl h);exact Option.isSome_iff_exists.mp q
theorem Mz{CX:NP}{P:Program}{w:World}{K:PySem.W.Frag}{mg:Str->Option Value}{base:Heap}{N ps:List Str}{qual:Str}{scope:Scope}{f:Addr}{cd:Value}{A:Around}{outer:List Env}{s s1:Shared}{H:Hp}{E:XK}{us:List Value}{vs:List V}
  (S:dE N ps scope) (hd:A.handled=none) (e0:JM P w K mg base A outer s H) (hl:vs.length=ps.length) (r:Vals vs us)
  (x:InCallC s s.heap.objs.size (bindL (envOfC qual scope s.heap.objs.size f cd).kindOf (ps.zip us) fun _=>none) (cellsFrom (s.heap.objs.size+1) scope.names []) (bindC (envOfC qual scope s.heap.objs.size f cd).kindOf (ps.zip us) fun _=>none) s1):
  Inv (D6 CX P w K mg base N qual scope f cd A outer s H E) [] (start N vs) H s1:=by
 have hpl:ps.length<=N.length:=by have:=congrArg List.length S.pre;rw[aD] at this;lia
 obtain⟨h1,tk,rfl,hk⟩:=x.done;have noA:∀b:Addr,b∉(D6 CX P w K mg base N qual scope f cd A outer s H E).ex:=fun b z=>absurd (show b∈([]:List Addr) from z) (by simp)
 refine⟨⟨e0.mod,S.kind,rfl,rfl,aj _,fun y z c h1 h2=> ?_,fun y hy=> ?_,fun y c _ h=> ?_,fun _=>hd,Around.frames_deeper e0.frames,.inr ⟨rfl,rfl⟩,fun b z=>absurd z (noA b),e0.bs,e0.Qw,fun b _ _=>noA b,fun b z=>absurd z (noA b),e0.A5,e0.So⟩,
  rfl,e0.bare,Un.kept hk,⟨_,x.toInCall.ns,fun i y v h1 h2 h3=> ?_⟩,fun y c h=>⟨_,x.cell y c h⟩,e0.iL.fresh (aj _),fun y c h=> ?_,fun p hp=>absurd (show p∈([]:List (Addr×Obj)) from hp) (by simp),e0.iL.kept hk,?_⟩
 ·exact name_of_addr x.apart (a8 h1) (a8 h2)
 ·have hy:scope.names.lookup y=some .cell\/scope.names.lookup y=some .free:=hy;rcases hy with hy |hy
  ·exact HB hy
  ·exact absurd rfl (S.SD _ (a8 hy))
 ·exact b7 (x.above y c (a8 h))
 ·have hi:i<vs.length:=by
   unfold start at h2;by_cases hi:i<vs.length
   ·exact hi
   ·rw[bz (by simpa using hi)] at h2;rw[cf] at h2;split at h2 <;>cases h2
  have ha:vs[i]? =some v:=by
   unfold start at h2;rw[b5 (by simpa using hi),aC] at h2;cases e:vs[i]? with
   |none=>rw[e] at h2;cases h2
   |some a=>rw[e] at h2;cases h2;rfl
  obtain⟨u,hu,rv⟩:=r.get ha;have hp:ps[i]? =some y:=by
   rw[<-S.pre,List.getElem?_take_of_lt (by lia)];exact h1
  have ndP:ps.Nodup:=by rw[<-S.pre];exact S.nd.sublist (List.take_sublist _ _)
  refine⟨u,rv,?_⟩;rcases S.par y (aB hp) with k |k
  ·exact .inl ⟨k,EL ndP hp hu k⟩
  ·obtain⟨c,e⟩:=HB (n:=s.heap.objs.size+1) k;refine .inr ⟨.inl k,c,e,?_⟩;have q:=x.cell y c e;rw[EM ndP hp hu (by show scope.names.lookup y≠_;rw[k];decide)] at q;exact q
 ·exact e0.iL.fresh (b7 (x.above y c (a8 h)))
 ·unfold start;show _=N.length;rw[aA,lMp,aQ];lia
theorem UB{CX:NP}{P:Program}{w:World}{K:PySem.W.Frag}{mg:Str->Option Value}{base:Heap}{k:Nat}{f:Addr}{name qual:Str}{params:Arguments}{body:List Stmt}{scope:Scope}{dV kV doc pm cdv ct oc:Value}{an od:Option Addr}
  {osl:Array (Option Value)} {N ps:List Str} {sp:Sp} (lk:K.lookup f=some ⟨oc,od,.func (PySem.W.fnOf name qual params body scope dV kV doc pm an cdv ct),osl⟩) (hcd:PySem.W.codeIn K cdv qual=true) (S:dE N ps scope)
  (len:∀vs H Q E,sp vs H Q E->vs.length=ps.length)
  (hbody:∀(A:Around) (outer:List Env) (s:Shared) (H:Hp) (vs:List V) (Q:VK) (E:XK),ko k (A.deeper (envOfC qual scope s.heap.objs.size f cdv))->sp vs H Q E->
   ∃t,Jz (D6 CX P w K mg base N qual scope f cdv A outer s H E) body t/\t {nx:=fun _ H'=>Q .jS H',rt:=Q} (start N vs) H):
  qk P w K mg base CX (k+1) f (PySem.W.fnOf name qual params body scope dV kV doc pm an cdv ct) ps sp:=by
 refine⟨len,fun A outer s H args us vs Q E hr e0 hb r hsp=> ?_⟩;have hl:=len _ _ _ _ hsp;have KX:K.In s.heap:=e0.mod.T9.keeps fun b o e=>(e0.bs b o e).1
 have lim:s.heap.NoLimit:=e0.mod.nolimit.keeps fun b o e=>(e0.bs b o e).1
 have hkind:∀y∈ps.zip us,scope.names.lookup y.1=some .local\/(scope.names.lookup y.1=some .cell/\((cellsFrom (s.heap.objs.size+1) scope.names []).lookup y.1).isSome=true):=fun⟨n,v⟩ hy=>by
  rcases S.par n (List.of_mem_zip hy).1 with q |q
  ·exact .inl q
  ·exact .inr ⟨q,PySem.W.cellsFrom_some _ _ _ (.inl q)⟩
 refine codeAny_call_function hr.depth (KX _ _ lk) rfl S.co S.gen rfl (PySem.W.codeRec_of KX hcd) (hb _ _ _ _ ?_);refine wpAny_newFunctionEnv_cells S.kind hkind fun env he s1 x=> ?_
 subst he;refine⟨lim.keeps x.toInCall.keep,codeAny_func ?_⟩;obtain⟨t,ht,hq⟩:=hbody A outer s H vs Q E (hr.deeper _) hsp;have I:Inv (D6 CX P w K mg base N qual scope f cdv A outer s H E) [] (start N vs) H s1:=Mz S hr.hd e0 hl r x;refine wpAny_mono (ht [] s1 (start N vs) H _ I hq) (fun fl s' hs=> ?_) fun e s' hs=>hs
 have fin:∀{σ':St} {H':Hp} {v:V} {u:Value},Inv (D6 CX P w K mg base N qual scope f cdv A outer s H E) [] σ' H' s'->RelV v u->Q v H'->CE outer P w H s Q u s':=
  fun{σ' H' v u} J rv q=>⟨v,H',J.os,J.bare,J.base,J.iL,rv,q⟩
 cases fl with
 |ret u=>
  obtain⟨v,σ',H',J,rv,q⟩:=hs;exact fin J rv q
 |next=>
  obtain⟨σ',H',J,q⟩:=hs;exact fin (v:=V.jS) (u:=Value.none) J rfl q
 |brk=>
  obtain⟨_,_,_,q⟩:=hs;exact False.elim q
 |cont=>
  obtain⟨_,_,_,q⟩:=hs;exact False.elim q
section
variable {X:Cx}{x:Str}{p pos:Pos}{e:Expr}{es:List Expr}{t:TA}{id T:String}{r:List V->Hp->VK->Prop}
noncomputable def WA (r:List V->Hp->VK->Prop) (t:TA):TE:=fun σ H Q=>t σ H fun vs H1=>r vs H1 Q
theorem dY(hc:ny X (.builtin id) r)(hg:Gl X x)(hm:X.mg x=none)(hv:bootBuiltins x=some (.builtin id))(ha:PA X (e::es) t)(hn:x≠"__name__":=by decide)(hdb:(x==("__debug__":Str))=false:=by decide)
  (he:starEach (e::es) X.env=(false,eval e X.env)::starEach es X.env:=by rfl) (hpl:(backTo pos (starEach es X.env)).any (·.1)=false:=by rfl):PE X (.Call (.Name x p) (e::es) [] pos) (WA r t):=by
 intro pins s σ H Q I h;refine wpAny_Call_Name_kw (tK I hg hm hv ?_ hn hdb);exact PyProof.Rows.callWith_builtin1 (ic (ha pos pins s σ H _ I h) fun us s1 ⟨vs,H1,I1,r1,q1⟩=>hc pins s1 σ H1 vs us Q I1 r1 q1) he hpl
theorem yV(hc:ny X (.type T) r)(hg:Gl X x)(hm:X.mg x=none)(hv:bootBuiltins x=some (.type T))(ha:PA X (e::es) t)(hn:x≠"__name__":=by decide)(hdb:(x==("__debug__":Str))=false:=by decide)
  (he:starEach (e::es) X.env=(false,eval e X.env)::starEach es X.env:=by rfl) (hpl:(backTo pos (starEach es X.env)).any (·.1)=false:=by rfl):PE X (.Call (.Name x p) (e::es) [] pos) (WA r t):=by
 intro pins s σ H Q I h;refine wpAny_Call_Name_kw (tK I hg hm hv ?_ hn hdb);exact bw (ic (ha pos pins s σ H _ I h) fun us s1 ⟨vs,H1,I1,r1,q1⟩=>hc pins s1 σ H1 vs us Q I1 r1 q1) he hpl
end
end L2
namespace HT
open PySem PyProof.Rows
section
variable {prog:Program}{w:World}{A:Around}{E:Value->Shared->Prop}{s:Shared}
noncomputable def D7 (n d:Nat):Option Int->Nat
 |none=>d
 |some v=>if v<0 then(v+(n:Int)).toNat else min v.toNat n
theorem Oo(n d:Nat):D7 n d none=d:=rfl
theorem rz(n d k:Nat):D7 n d (some (k:Int))=min k n:=by
 show(if(k:Int)<0 then((k:Int)+(n:Int)).toNat else min (k:Int).toNat n)=min k n;rw[af (by lia),bb]
end
end HT
namespace L2
open PySem PySem.Spec PyProof.Rows
noncomputable abbrev TO:=St->Hp->(Option Int->Hp->Prop)->Prop
noncomputable def PO (X:Cx) (e:Option Expr) (t:TO):Prop:=
 ∀(pins:List (Addr×Obj)) (s:Shared) (σ:St) (H:Hp) (Q:Option Int->Hp->Prop),Inv X pins σ H s->t σ H Q->
  wpAny (model X.prog X.w) X.A (evalPart e X.env) (fun u s'=>∃o H',Inv X pins σ H' s'/\IsPart u o/\Q o H') X.xe s
noncomputable def Lg:TO:=fun _ H Q=>Q none H
noncomputable def RU (t:TE):TO:=fun σ H Q=>t σ H fun x H1=>∃i,x= .int i/\Q (some i) H1
section
variable {X:Cx}{e:Expr}{te:TE}{lo hi:Option Expr}{tl th:TO}{pos p2:Pos}
theorem F3:PO X none Lg:=by
 intro pins s σ H Q I h;rw[evalPart_none];exact wpAny_pure ⟨none,H,I,.none,h⟩
theorem rA(h:PE X e te):PO X (some e) (RU te):=by
 intro pins s σ H Q I hw;rw[evalPart_some];refine ic (h pins s σ H _ I hw) fun u s1 ⟨x,H1,I1,r1,q1⟩=> ?_
 obtain⟨i,rfl,q⟩:=q1;obtain⟨t,rfl⟩:=r1;exact⟨some i,H1,I1,.int i t,q⟩
noncomputable def VS (X:Cx) (r:V->Option Int->Option Int->Hp->VK->Prop):Prop:=
 ∀(pins:List (Addr×Obj)) (s:Shared) (σ:St) (H:Hp) (x:V) (v vl vu:Value) (lo hi:Option Int) (sl:Addr) (Q:VK),Inv X pins σ H s->RelV x v->s.heap.IsSliceOf sl vl vu .none->IsPart vl lo->IsPart vu hi->r x lo hi H Q->
  ∃T id,typeLookup (.type T) "__getitem__"=pure (some (.builtin id))/\s.TypeIs v T/\wpAny (model X.prog X.w) X.A (getItem v (.ref sl)) (EP X pins σ Q) X.xe s
noncomputable def WB (r:V->Option Int->Option Int->Hp->VK->Prop) (te:TE) (tl th:TO):TE:=fun σ H Q=>te σ H fun x H1=>tl σ H1 fun l H2=>th σ H2 fun u H3=>r x l u H3 Q
theorem tO{r:V->Option Int->Option Int->Hp->VK->Prop}(hr:VS X r)(he:PE X e te)(hl:PO X lo tl)(hu:PO X hi th):PE X (.Subscript e (.Slice lo hi none p2) pos) (WB r te tl th):=by
 intro pins s σ H Q I h;refine Subscript_ (ic (he pins s σ H _ I h) fun v s1 ⟨x,H1,I1,r1,q1⟩=> ?_);refine wpAny_Slice (ic (hl pins s1 σ H1 _ I1 q1) fun vl s2 ⟨l,H2,I2,pl,q2⟩=>ic (hu pins s2 σ H2 _ I2 q2) fun vu s3 ⟨u,H3,I3,pu,q3⟩=> ?_);rw[evalPart_none];refine wpAny_pure ?_;have I4:Inv X pins σ H3 {s3 with heap:=s3.heap.push {cls:= .type "slice",data:= .fields #[vl,vu,.none]}}:=I3.kept (t':=s3.toks) fun b ob q=>Heap.get?_push_of_some _ q
 obtain⟨T,id,hT,ht,hg⟩:=hr pins {s3 with heap:=s3.heap.push {cls:= .type "slice",data:= .fields #[vl,vu,.none]}} σ H3 x v vl vu l u s3.heap.objs.size Q I4 r1 (Heap.IsSliceOf.new ..) pl pu q3;show wpAny (model X.prog X.w) X.A (subscriptTail e (.Slice lo hi none p2) v (.ref s3.heap.objs.size)) (EP X pins σ Q) X.xe {s3 with heap:=s3.heap.push {cls:= .type "slice",data:= .fields #[vl,vu,.none]}};exact tail_any (ops:=[.ref s3.heap.objs.size,v]) ht hT hg (by with_unfolding_all rfl)
noncomputable def vP (xs:List V) (lo hi:Option Int):List V:=(xs.drop (HT.D7 xs.length 0 lo)).take (HT.D7 xs.length xs.length hi - HT.D7 xs.length 0 lo)
theorem HC(xs:List V)(lo hi:Option Int):(vP xs lo hi).length<=xs.length:=by
 unfold vP;rw[aD,bE];lia
end
noncomputable def Oq (n:Nat) (i:Int):Option Nat:=if 0<=i then(if i<n then some i.toNat else none) else if -(n:Int)<=i then some (i+n).toNat else none
noncomputable def MA {α:Type} (xs:List α) (i:Int):Option α:=(Oq xs.length i).bind fun j=>xs[j]?
theorem Lh{n:Nat}{i:Int}{j:Nat}(h:Oq n i=some j):seqIndex? i n=some j/\j<n/\-(n:Int)<=i/\i<n:=by
 unfold Oq at h;by_cases h0:0<=i
 ·rw[ah h0] at h;by_cases h1:i<n
  ·rw[ah h1] at h;have e:i.toNat=j:=aZ h;exact⟨by rw[seqIndex_of h0 h1,e],by lia,by lia,h1⟩
  ·rw[af h1] at h;cases h
 ·rw[af h0] at h;by_cases h1: -(n:Int)<=i
  ·rw[ah h1] at h;have e:(i+n).toNat=j:=aZ h;exact⟨by rw[seqIndex_neg (by lia) h1,e],by lia,h1,by lia⟩
  ·rw[af h1] at h;cases h
theorem Li{α:Type}{xs:List α}{i:Int}{v:α}(h:MA xs i=some v):∃j,seqIndex? i xs.length=some j/\xs[j]? =some v/\j<xs.length/\-(xs.length:Int)<=i/\i<xs.length:=by
 unfold MA at h;cases e:Oq xs.length i with
 |none=>rw[e] at h;cases h
 |some j=>
  rw[e] at h;obtain⟨h1,h2,h3,h4⟩:=Lh e;exact⟨j,h1,h,h2,h3,h4⟩
theorem QI{α:Type}{xs:List α}{j:Nat}{v:α}(h:xs[j]? =some v):MA xs (j:Int)=some v:=by
 have hj:j<xs.length:=(bh.mp h).1;have e:Oq xs.length (j:Int)=some j:=by
  unfold Oq;rw[ah (by lia),ah (by lia)];simp
 unfold MA;rw[e];exact h
noncomputable def QJ (b:Expr):Prop:=∀o i,subscripted b false o i=operate [o,i] (getItem o i)
noncomputable def UC (X:Cx) (r:R2):Prop:=
 ∀(value slice:Expr) (pins:List (Addr×Obj)) (s:Shared) (σ:St) (H:Hp) (x y:V) (v u:Value) (Q:VK),Inv X pins σ H s->RelV x v->RelV y u->r x y H Q->
  subscripted slice false v u=operate [v,u] (getItem v u)->wpAny (model X.prog X.w) X.A (subscriptTail value slice v u) (EP X pins σ Q) X.xe s
noncomputable def WY (X:Cx) (id:String) (r:V->List V->Hp->VK->Prop):Prop:=
 ∀(pins:List (Addr×Obj)) (s:Shared) (σ:St) (H:Hp) (x:V) (xs:List V) (v:Value) (us:List Value) (Q:VK),Inv X pins σ H s->RelV x v->Vals xs us->r x xs H Q->
  wpAny (model X.prog X.w) X.A (call (.builtin id) (v::us)) (EP X pins σ Q) X.xe s
section
variable {X:Cx}{a b:Expr}{ta tb:TE}{pos:Pos}
theorem d6{r:R2}(hr:UC X r)(ha:PE X a ta)(hb:PE X b tb)(hs:QJ b):PE X (.Subscript a b pos) (RS r ta tb):=by
 intro pins s σ H Q I h;exact Subscript_ (Sy ha hb I h fun v u s2 x y H2 I2 rx ry q=>hr a b pins s2 σ H2 x y v u Q I2 rx ry q (hs _ _))
noncomputable def SE (K:PySem.W.Frag):R2:=fun x y H Q=>∃p xs i v,x= .ref p/\y= .int i/\kg K H p xs/\MA xs i=some v/\Q v H
noncomputable def UD (K:PySem.W.Frag):R2:=fun x y H Q=>∃p xs i v,x= .ref p/\y= .int i/\BX K H p xs/\MA xs i=some v/\Q v H
theorem QK:UC X (SE X.K):=by
 intro value slice pins s σ H x y v u Q I rx ry h hs;obtain⟨p,xs,i,z,rfl,rfl,hq,he,q⟩:=h;cases rx
 obtain⟨t,rfl⟩:=ry;obtain⟨its,r,pl,hz⟩:=I.list hq;obtain⟨j,h1,h2,h3,h4,h5⟩:=Li he;obtain⟨w,ew,rw'⟩:=r.get h2;have hl:=r.length;have hn:=yT;have fin:EP X pins σ Q w s:=⟨z,H,I,rw',q⟩;by_cases h0:0<=i
 ·have hj:i.toNat=j:=by
   rw[seqIndex_of h0 h5] at h1;exact aZ h1
  exact item_listR pl.isList h0 (by lia) (by rw[hj];simpa using ew) fin hs
 ·have hj:(i+(its.toArray.size:Int)).toNat=j:=by
   rw[seqIndex_neg (by lia) h4] at h1;rw[aK,<-hl];exact aZ h1
  exact subscriptTail_builtinR (x:=w) pl.isList.typeIs slot_list_getitem.lookup
   (wpAny_getItem_list_neg (Q:=fun r s'=>r=w/\EP X pins σ Q r s') pl.isList (by lia) (by rw[aK] <;>lia) (by lia) (by rw[hj];simpa using ew) ⟨rfl,fin⟩) hs
theorem SF:UC X (UD X.K):=by
 intro value slice pins s σ H x y v u Q I rx ry h hs;obtain⟨p,xs,i,z,rfl,rfl,hq,he,q⟩:=h;cases rx
 obtain⟨t,rfl⟩:=ry;obtain⟨its,r,pl,hz⟩:=I.tuple hq;obtain⟨j,h1,h2,h3,h4,h5⟩:=Li he;obtain⟨w,ew,rw'⟩:=r.get h2;have hl:=r.length;have hn:=yT;have fin:EP X pins σ Q w s:=⟨z,H,I,rw',q⟩;exact subscriptTail_builtinR (x:=w) pl.typeIs slot_tuple_getitem.lookup
  (getItem_tuple (j:=j) (Q:=fun r s'=>r=w/\EP X pins σ Q r s') pl (by lia) (by lia) (by rw[aK,<-hl];exact h1) (by simpa using ew) ⟨rfl,fin⟩) hs
theorem JN(its:List Value)(n j:Nat)(u:Value):Obj.mapSeq (·.setIfInBounds j u) {cls:= .type "list",data:= .seq its.toArray n}={cls:= .type "list",data:= .seq (its.set j u).toArray n}:=by
 simp[Obj.mapSeq]
theorem Inv.lst{pins:List (Addr×Obj)}{σ:St}{H:Hp}{s:Shared}{p:Addr}{xs:List V}(I:Inv X pins σ H s)(h:H p=some (.lst xs)):
  ∃(its:List Value) (n:Nat),Vals xs its/\s.heap.get? p=some {cls:= .type "list",data:= .seq its.toArray n}/\xs.length<=sizeLine:=by
 obtain⟨z,its,n,r,e⟩:=I.iL p _ h;exact⟨its,n,r,e,z⟩
theorem Inv.SG{pins:List (Addr×Obj)}{σ:St}{H:Hp}{s:Shared}{p:Addr}{xs ys:List V}{its its':List Value}{n n':Nat}{f:Obj->Obj}(I:Inv X pins σ H s)(h:H p=some (.lst xs))
  (ho:s.heap.get? p=some {cls:= .type "list",data:= .seq its.toArray n}) (hf:f {cls:= .type "list",data:= .seq its.toArray n}={cls:= .type "list",data:= .seq its'.toArray n'}) (r:Vals ys its') (hz:ys.length<=sizeLine) (t:Nat):
  Inv X pins σ (upd H p (.lst ys)) {s with heap:=s.heap.update p f,toks:=t}:=by
 have e:(s.heap.update p f).get? p=some {cls:= .type "list",data:= .seq its'.toArray n'}:=by
  rw[Heap.get?_update_self f ho (by rw[hf] <;>rfl),hf]
 refine I.write (x:=p) (e:=p) (by rw[h];trivial) (.inl rfl) (fun b u hb q=>(Heap.get?_update_other _ _ (bL hb)).trans q) ⟨_,e⟩ ?_;exact⟨hz,its',n',r,e⟩
noncomputable def UE:V->V->V->Hp->(Hp->Prop)->Prop:=fun o i v H Q=>∃p xs k j,o= .ref p/\i= .int k/\H p=some (.lst xs)/\Oq xs.length k=some j/\Q (upd H p (.lst (xs.set j v)))
theorem set_list:Sr X UE:=by
 intro pins s σ H o i v ov iv u Q I ro ri rv h;obtain⟨p,xs,k,j,rfl,rfl,hp,hj,q⟩:=h;cases ro
 obtain⟨t,rfl⟩:=ri;obtain⟨its,n,r,ho,hz⟩:=I.lst hp;obtain⟨h1,h2,h3,h4⟩:=Lh hj;have hl:=r.length;have hn:=yT;have I':Inv X pins σ (upd H p (.lst (xs.set j v))) {s with heap:=s.heap.update p (Obj.mapSeq (·.setIfInBounds j u))}:=
  I.SG hp ho (JN its n j u) (r.set rv j) (by rw[bX];exact hz) s.toks
 by_cases h0:0<=k
 ·have hk:k.toNat=j:=by
   rw[seqIndex_of h0 h4] at h1;exact aZ h1
  exact PySem.W.ki_setAt ho h0 (by lia) (by rw[aK,<-hl];exact h4) (by rw[hk];exact⟨_,I',q⟩)
 ·have hk:(k+(its.toArray.size:Int)).toNat=j:=by
   rw[seqIndex_neg (by lia) h3] at h1;rw[aK,<-hl];exact aZ h1
  exact PySem.W.ki_setBack ho (by lia) (by rw[aK,<-hl];exact h3) (by lia) (by rw[hk];exact⟨_,I',q⟩)
theorem F4(lo hi:Option Int)(n:Nat):(sliceBounds lo hi none n).1=((HT.D7 n 0 lo:Nat):Int)/\(sliceBounds lo hi none n).2.1=((HT.D7 n n hi:Nat):Int)/\(sliceBounds lo hi none n).2.2=1:=by
 refine⟨?_,?_,rfl⟩
 ·cases lo with
  |none=>simp[sliceBounds,HT.D7]
  |some i=>
   simp only[sliceBounds,HT.D7,Option.getD_none,show(1:Int)>0 by decide,if_true];by_cases h:i<0
   ·simp only[h,if_true] <;>lia
   ·simp only[h,if_false] <;>lia
 ·cases hi with
  |none=>simp[sliceBounds,HT.D7]
  |some i=>
   simp only[sliceBounds,HT.D7,Option.getD_none,show(1:Int)>0 by decide,if_true];by_cases h:i<0
   ·simp only[h,if_true] <;>lia
   ·simp only[h,if_false] <;>lia
theorem D8(its:List Value)(lo hi:Option Int):slicePick its.toArray lo hi none=((its.drop (HT.D7 its.length 0 lo)).take (HT.D7 its.length its.length hi - HT.D7 its.length 0 lo)).toArray:=by
 obtain⟨h1,h2,h3⟩:=F4 lo hi its.toArray.size;unfold slicePick;rw[h1,h2,h3];simp only[sliceRange_one,pick_run,aK] <;>rfl
noncomputable def SH (K:PySem.W.Frag):V->Option Int->Option Int->Hp->VK->Prop:=fun x lo hi H Q=>∃a xs,x= .ref a/\kg K H a xs/\∀p,H p=none->Q (.ref p) (upd H p (.lst (vP xs lo hi)))
theorem QL:VS X (SH X.K):=by
 intro pins s σ H x v vl vu lo hi sl Q I rx hs pl pu h;obtain⟨a,xs,rfl,hx,q⟩:=h;cases rx
 obtain⟨its,r,ht,hz⟩:=I.list hx;have hlen:=r.length;refine⟨"list",_,slot_list_getitem.lookup,ht.isList.typeIs,?_⟩;refine wpAny_getItem_list_slice ht.isList hs pl pu .none (by simp) ?_ (by rw[aK] <;>lia);rw[D8,<-hlen];refine⟨.ref s.heap.objs.size,_,I.laid (t':=s.toks) (o:= .lst (vP xs lo hi)) (fun b ob q=>Heap.get?_push_of_some _ q) (aj _) ?_,rfl,q _ (I.iL.fresh (aj _))⟩;exact⟨ay (HC xs lo hi) hz,_,0,(r.drop (HT.D7 xs.length 0 lo)).take (HT.D7 xs.length xs.length hi - HT.D7 xs.length 0 lo),Heap.get?_push_size _ rfl⟩
noncomputable def AB:V->Bool
 | .jS=>true
 | .bl _=>true
 | .int _=>true
 | .str _=>true
 |_=>false
noncomputable def MB:V->V->Bool
 | .jS,.jS=>true
 | .bl a,.bl b=>a==b
 | .bl a,.int b=>(if a then 1 else 0)==b
 | .int a,.bl b=>a==(if b then 1 else 0)
 | .int a,.int b=>a==b
 | .str a,.str b=>a==b
 |_,_=>false
theorem SI{A:Around}{s:Shared}{y x:V}{u v:Value}(ry:RelV y u)(rx:RelV x v)(fy:AB y=true)(fx:AB x=true):SeqAt.EqAt A s u v (MB y x):=by
 cases y with
 |jS=>
  cases ry
  cases x with
  |jS=>cases rx;exact SeqAt.EqAt.same _
  |bl b=>cases rx;exact SeqAt.EqAt.none_bool b
  |int b=>obtain⟨t,rfl⟩:=rx;exact SeqAt.EqAt.none_int b t
  |str b=>obtain⟨t,rfl⟩:=rx;exact SeqAt.EqAt.none_str b t
  |_=>exact absurd (show false=true from fx) aO
 |bl a=>
  cases ry
  cases x with
  |jS=>cases rx;exact SeqAt.EqAt.bool_none a
  |bl b=>cases rx;exact SeqAt.EqAt.bool_bool a b
  |int b=>obtain⟨t,rfl⟩:=rx;exact SeqAt.EqAt.bool_int a b t
  |str b=>obtain⟨t,rfl⟩:=rx;exact SeqAt.EqAt.bool_str a b t
  |_=>exact absurd (show false=true from fx) aO
 |int a=>
  obtain⟨t',rfl⟩:=ry;cases x with
  |jS=>cases rx;exact SeqAt.EqAt.int_none a t'
  |bl b=>cases rx;exact SeqAt.EqAt.int_bool a t' b
  |int b=>obtain⟨t,rfl⟩:=rx;exact SeqAt.EqAt.int_int a t' b t
  |str b=>obtain⟨t,rfl⟩:=rx;exact SeqAt.EqAt.int_str a t' b t
  |_=>exact absurd (show false=true from fx) aO
 |str a=>
  obtain⟨t',rfl⟩:=ry;cases x with
  |jS=>cases rx;exact SeqAt.EqAt.str_none a t'
  |bl b=>cases rx;exact SeqAt.EqAt.str_bool a t' b
  |int b=>obtain⟨t,rfl⟩:=rx;exact SeqAt.EqAt.str_int a t' b t
  |str b=>obtain⟨t,rfl⟩:=rx;exact SeqAt.EqAt.str_str a t' b t
  |_=>exact absurd (show false=true from fx) aO
 |_=>exact absurd (show false=true from fy) aO
noncomputable def JO (x:V) (u:Value):Bool:=match u with
 | .none=>MB .jS x
 | .bool b=>MB (.bl b) x
 | .int i _=>MB (.int i) x
 | .str z _=>MB (.str z) x
 |_=>false
theorem Ot{x y:V}{u:Value}(r:RelV y u)(f:AB y=true):JO x u=MB y x:=by
 cases y with
 |jS=>cases r;rfl
 |bl b=>cases r;rfl
 |int i=>obtain⟨t,rfl⟩:=r;rfl
 |str z=>obtain⟨t,rfl⟩:=r;rfl
 |_=>exact absurd (show false=true from f) aO
theorem xg{x:V}:∀{xs:List V} {us:List Value},Vals xs us->xs.all AB=true->us.any (JO x)=xs.any fun y=>MB y x
 |_,_,.nil,_=>rfl
 |y::xs,u::us,.cons r t,f=>by
  rw[List.all_cons,aF] at f;rw[cq,cq,Ot r f.1,xg t f.2]
theorem tP{A:Around}{s:Shared}{x:V}{v:Value}(rx:RelV x v)(fx:AB x=true):∀{xs:List V} {us:List Value},Vals xs us->xs.all AB=true->∀u∈us,SeqAt.EqAt A s u v (JO x u)
 |_,_,.nil,_=>fun u hu=>by cases hu
 |y::xs,u::us,.cons r t,f=>fun u' hu=>by
  rw[List.all_cons,aF] at f;rcases aJ.mp hu with rfl |hu
  ·rw[Ot r f.1];exact SI r rx f.1 fx
  ·exact tP rx fx t f.2 u' hu
noncomputable def Lj (x:V) (xs:List V):Bool:=xs.any fun y=>MB y x
noncomputable def Vu (K:PySem.W.Frag) (neg:Bool):R2:=fun x y H Q=>∃p xs,y= .ref p/\(kg K H p xs\/BX K H p xs)/\AB x=true/\xs.all AB=true/\Q (.bl (if neg then !Lj x xs else Lj x xs)) H
theorem MC:vO X (compareOp .In) (Vu X.K false):=by
 intro pins s σ H x y v u Q I rx ry h;obtain⟨p,xs,rfl,hq,fx,fs,q⟩:=h;cases ry
 rcases hq with hq |hq
 ·obtain⟨its,r,pl,hz⟩:=I.list hq;refine SeqAt.in_listAt (JO x) pl.isList (fun w hw=>tP rx fx r fs w (by simpa using hw)) ⟨.bl _,H,I,rfl,?_⟩;rw[show its.toArray.any (JO x)=its.any (JO x) by simp,xg r fs];exact q
 ·obtain⟨its,r,pl,hz⟩:=I.tuple hq;refine SeqAt.in_tupleAt (JO x) pl (fun w hw=>tP rx fx r fs w (by simpa using hw)) ⟨.bl _,H,I,rfl,?_⟩;rw[show its.toArray.any (JO x)=its.any (JO x) by simp,xg r fs];exact q
theorem F5:vO X (compareOp .NotIn) (Vu X.K true):=by
 intro pins s σ H x y v u Q I rx ry h;obtain⟨p,xs,rfl,hq,fx,fs,q⟩:=h;cases ry
 rcases hq with hq |hq
 ·obtain⟨its,r,pl,hz⟩:=I.list hq;refine SeqAt.notIn_listAt (JO x) pl.isList (fun w hw=>tP rx fx r fs w (by simpa using hw)) ⟨.bl _,H,I,rfl,?_⟩;rw[show its.toArray.any (JO x)=its.any (JO x) by simp,xg r fs];exact q
 ·obtain⟨its,r,pl,hz⟩:=I.tuple hq;refine SeqAt.notIn_tupleAt (JO x) pl (fun w hw=>tP rx fx r fs w (by simpa using hw)) ⟨.bl _,H,I,rfl,?_⟩;rw[show its.toArray.any (JO x)=its.any (JO x) by simp,xg r fs];exact q
theorem F6:ny X (.builtin "len") (fun xs H Q=>∃p ys,xs=[.ref p]/\(kg X.K H p ys\/BX X.K H p ys)/\Q (.int ys.length) H):=by
 intro pins s σ H xs us Q I r h;obtain⟨p,ys,rfl,hq,q⟩:=h;obtain⟨u,rfl,rx⟩:=vals1 r;cases rx
 have hn:=yT;rcases hq with hq |hq
 ·obtain⟨its,r',pl,hz⟩:=I.list hq;have hlen:=r'.length;exact Calls.call_len_list pl.isList (by simp only[aK] <;>lia) ⟨.int ys.length,H,I.tok _,⟨s.toks+1,by rw[aK,hlen]⟩,q⟩
 ·obtain⟨its,r',pl,hz⟩:=I.tuple hq;have hlen:=r'.length;exact len_tuple pl (by simp only[aK] <;>lia) ⟨.int ys.length,H,I.tok _,⟨s.toks+1,by rw[aK,hlen]⟩,q⟩
theorem F7:ny X (.type "list") (fun xs H Q=>∃p ys,xs=[.ref p]/\(kg X.K H p ys\/BX X.K H p ys)/\∀l,H l=none->Q (.ref l) (upd H l (.lst ys))):=by
 intro pins s σ H xs us Q I r h;obtain⟨p,ys,rfl,hq,q⟩:=h;obtain⟨u,rfl,rx⟩:=vals1 r;cases rx
 have fin:∀(its:List Value),Vals ys its->ys.length<=sizeLine->∀(h':Heap) (c':Nat),(∀b o',s.heap.get? b=some o'->h'.get? b=some o')->
   h'.get? s.heap.objs.size=some {cls:= .type "list",dict:=none,data:= .seq its.toArray c',slots:= #[]}->EP X pins σ Q (.ref s.heap.objs.size) {s with heap:=h'}:=fun its r' hz h' c' kp e=>
  ⟨.ref s.heap.objs.size,_,I.laid (t':=s.toks) kp (aj _) (show kh X.prog X.w _ h' _ (.lst ys) from⟨hz,its,c',r',e⟩),rfl,q _ (I.iL.fresh (aj _))⟩
 rcases hq with hq |hq
 ·obtain⟨its,r',pl,hz⟩:=I.list hq;have hlen:=r'.length;obtain⟨o,ho,hc,n,hd⟩:=pl.isList;exact call_list_seq p (.inl rfl) ho hc hd (fun h' c' kp e=>fin its r' hz h' c' kp e) (by simp only[aK] <;>lia)
 ·obtain⟨its,r',pl,hz⟩:=I.tuple hq;have hlen:=r'.length;obtain⟨o,ho,hc,n,hd⟩:=pl;exact call_list_seq p (.inr rfl) ho hc hd (fun h' c' kp e=>fin its r' hz h' c' kp e) (by simp only[aK] <;>lia)
noncomputable def WC (K:PySem.W.Frag) (T:String) (x:V) (H:Hp):Prop:=match x with
 | .str _=>T="str"
 | .int _=>T="int"
 | .ref p=>(T="list"/\∃xs,kg K H p xs)\/(T="tuple"/\∃o,K.lookup p=some o/\o.cls= .type "tuple"/\o.dict=none)\/
   (T="dict"/\((∃kvs,H p=some (.dK kvs))\/∃kvs,H p=some (.dT kvs)))\/(T="set"/\∃S n,H p=some (.set S n))
 |_=>False
theorem SJ{pins:List (Addr×Obj)}{σ:St}{H:Hp}{s:Shared}{T:String}{x:V}{v:Value}(I:Inv X pins σ H s)(r:RelV x v)(ty:WC X.K T x H):
  s.TypeIs v T/\∀a,v= .ref a->∃ob,s.heap.get? a=some ob/\ob.dict=none:=by
 cases x with
 |str z=>
  obtain⟨t,rfl⟩:=r;cases(show T="str" from ty)
  exact⟨typeIs_str s z t,fun _ e=>nomatch e⟩
 |int i=>
  obtain⟨t,rfl⟩:=r;cases(show T="int" from ty)
  exact⟨typeIs_int s i t,fun _ e=>nomatch e⟩
 |ref p=>
  cases r
  rcases ty with⟨rfl,xs,hq⟩ |⟨rfl,o,hk,hc,hd⟩ |⟨rfl,hk⟩ |⟨rfl,S,n,hk⟩
  ·obtain⟨its,_,pl,_⟩:=I.list hq;refine⟨pl.isList.typeIs,fun a e=> ?_⟩;cases e
   obtain⟨o,n,e,c,hd,_⟩:=pl;exact⟨o,e,hd⟩
  ·refine⟨⟨o,I.NO p o hk,hc⟩,fun a e=> ?_⟩;cases e
   exact⟨o,I.NO _ o hk,hd⟩
  ·have z:∃o,s.heap.get? p=some o/\o.ExactDict:=by
    rcases hk with⟨kvs,hk⟩ |⟨kvs,hk⟩
    ·obtain⟨_,_,_,_,o,_,_,e,ex,_⟩:=I.iL p _ hk;exact⟨o,e,ex⟩
    ·obtain⟨_,_,_,_,o,_,_,e,ex,_⟩:=I.iL p _ hk;exact⟨o,e,ex⟩
   obtain⟨o,e,ex⟩:=z;refine⟨⟨o,e,ex.1⟩,fun a e2=> ?_⟩;cases e2
   exact⟨o,e,ex.2.1⟩
  ·obtain⟨o,_,_,_,e,ex,_⟩:=I.iL p _ hk;refine⟨⟨o,e,ex.1⟩,fun a e2=> ?_⟩;cases e2
   exact⟨o,e,ex.2.1⟩
 |_=>exact False.elim ty
noncomputable def WD (K:PySem.W.Frag) (T:String) (r:V->List V->Hp->VK->Prop) (to:TE) (t:TA):TE:=fun σ H Q=>to σ H fun x H1=>WC K T x H1/\t σ H1 fun xs H2=>r x xs H2 Q
variable {o e:Expr}{es:List Expr}{to:TE}{t:TA}{name:Str}{apos cpos:Pos}{T id:String}{r:V->List V->Hp->VK->Prop}
theorem n9(pa:PlainAttrs T)(slot:Slot T name id)(hty:typeOf (.builtin id)=pure (.type "method_descriptor"))(hm:WY X id r)(ho:PE X o to)(ha:PA X (e::es) t)
  (hbase:attributeBase o name X.env (eval o X.env)=eval o X.env:=by rfl)
  (hfew:((backTo cpos (starEach (e::es) X.env)).all (fun x=> !x.1)&&(backToKw cpos (keywordEach [] X.env)).all (fun x=>x.1.isSome)
   &&decide ((e::es).length+([]:List Keyword).length+(if([]:List Keyword).isEmpty then 0 else 1)<30))=true:=by rfl)
  (hline:(apos.endLine==cpos.line)=true:=by rfl) (hs:starEach (e::es) X.env=(false,eval e X.env)::starEach es X.env:=by rfl) (hplain:(backTo cpos (starEach es X.env)).any (·.1)=false:=by rfl):
  PE X (.Call (.Attribute o name apos) (e::es) [] cpos) (WD X.K T r to t):=by
 intro pins s σ H Q I h;refine wpAny_Call_method_late hbase hfew hline rfl (ic (ho pins s σ H _ I h) fun v s1 ⟨x,H1,I1,r1,ty,q1⟩=> ?_);obtain⟨h1,h2⟩:=SJ I1 r1 ty;refine⟨T,id,pa,slot,hty,h1,h2,?_⟩;have hA:=ha cpos pins s1 σ H1 _ I1 q1;rw[hs] at hA⊢;refine Calls.callWith_builtin (by show(false ||(backTo cpos (starEach es X.env)).any (·.1))=false;rw[hplain] <;>rfl) (Calls.evalArgs_plain ?_);exact ic hA fun us s2 ⟨vs,H2,I2,r2,q2⟩=>hm pins s2 σ H2 x vs v us Q I2 r1 r2 q2
end
noncomputable def WE (X:Cx) (id:String) (r:V->List V->Hp->VK->Prop):Prop:=
 ∀(pins:List (Addr×Obj)) (s:Shared) (σ:St) (H:Hp) (x:V) (xs:List V) (v:Value) (us:List Value) (Q:VK),Inv X pins σ H s->RelV x v->Vals xs us->r x xs H Q->
  wpAny (model X.prog X.w) X.A (call (.builtin id) (v::us)) (EP X pins σ Q) X.xe s
theorem Vals.one:∀{x:V} {us:List Value},Vals [x] us->∃u,us=[u]/\RelV x u
 |_,_,.cons r .nil=>⟨_,rfl,r⟩
theorem Vals.rep{xs:List V}{us:List Value}(h:Vals xs us):∀k:Nat,Vals (List.replicate k xs).flatten (List.replicate k us).flatten
 |0=> .nil
 |k+1=>by
  rw[bT,bT,List.flatten_cons,List.flatten_cons];exact Vals.append h (Vals.rep h k)
theorem foldl_rep(its:List Value):∀(k:Nat) (acc:List Value),
  List.foldl (fun x1 x2=>x1 ++ x2) acc.toArray (List.replicate k its.toArray)=(acc ++ (List.replicate k its).flatten).toArray
 |0,acc=>by simp
 |k+1,acc=>by
  have e:acc.toArray ++ its.toArray=(acc ++ its).toArray:=by simp
  have e2:(acc ++ its) ++ (List.replicate k its).flatten=acc ++ (List.replicate (k+1) its).flatten:=by
   rw[bT,List.flatten_cons,cA]
  rw[<-e2,<-foldl_rep its k (acc ++ its),<-e,bT,bD]
section
variable {X:Cx}{pins:List (Addr×Obj)}{σ:St}{H:Hp}{s:Shared}{l b:Addr}{xs ys zs:List V}
theorem Inv.UG{its its':List Value}{n:Nat}{f:Array Value->Array Value}{t':Nat}(I:Inv X pins σ H s)(hH:H l=some (.lst xs))
  (e:s.heap.get? l=some {cls:= .type "list",data:= .seq its.toArray n}) (hf:f its.toArray=its'.toArray) (hv:Vals ys its') (hz:ys.length<=sizeLine):
  Inv X pins σ (upd H l (.lst ys)) {s with heap:=s.heap.update l (Obj.mapSeq f),toks:=t'}:=by
 have q:=PySem.IsL.update e f;rw[hf] at q;refine I.write (x:=l) (e:=l) (by rw[hH];exact trivial) (.inl rfl) (fun b' u hb hu=>(Heap.get?_update_other s.heap (Obj.mapSeq f) (bL hb)).trans hu) ⟨_,q⟩ ?_;exact⟨hz,its',_,hv,q⟩
theorem Inv.UH{its:List Value}{t':Nat}(I:Inv X pins σ H s)(hv:Vals ys its)(hz:ys.length<=sizeLine):
  Inv X pins σ (upd H s.heap.objs.size (.lst ys)) {s with heap:=s.heap.push {cls:= .type "list",data:= .seq its.toArray},toks:=t'}:=
 I.laid (fun _ _ q=>Heap.get?_push_of_some _ q) (aj _) ⟨hz,its,0,hv,Heap.get?_push_size _ rfl⟩
theorem Inv.fresh(I:Inv X pins σ H s):H s.heap.objs.size=none:=I.iL.fresh (aj _)
theorem Inv.MD(I:Inv X pins σ H s)(hH:H l=some (.lst xs)):xs.length<=sizeLine/\∃(its:List Value) (n:Nat),Vals xs its/\xs.length=its.length/\s.heap.get? l=some {cls:= .type "list",data:= .seq its.toArray n}:=by
 obtain⟨z,its,n,r,e⟩:=I.iL l _ hH;exact⟨z,its,n,r,r.length,e⟩
theorem HD{n:Nat}(h:n<=sizeLine):Builtin.List.listTooLong n=false:=by
 unfold Builtin.List.listTooLong;exact aq (by lia)
end
section
variable {X:Cx}
noncomputable def Lk:V->List V->Hp->VK->Prop:=fun x vs H Q=>∃l xs y,x= .ref l/\vs=[y]/\H l=some (.lst xs)/\xs.length<sizeLine/\Q .jS (upd H l (.lst (xs ++ [y])))
theorem g7:WE X "list.append" Lk:=by
 intro pins s σ H x vs v us Q I rx rv h;obtain⟨l,xs,y,rfl,rfl,hH,hz,q⟩:=h;cases rx
 obtain⟨u,rfl,ru⟩:=rv.one;obtain⟨z,its,n,r,hl,e⟩:=I.MD hH;refine call_meets F.slot_list_append ⟨_,e,rfl⟩ F.entry_list_append (F.args_list_append_2 _ _) (PySem.list_append l its.toArray n u (by rw[aK];lia)) ⟨e,?_⟩;refine⟨.jS,_,I.UG (its':=its ++ [u]) hH e (by simp) (r.append (.cons ru .nil)) ?_,rfl,q⟩;rw[aA,List.length_singleton];lia
noncomputable def QM:V->List V->Hp->VK->Prop:=fun x vs H Q=>∃l b xs zs,x= .ref l/\vs=[.ref b]/\H l=some (.lst xs)/\H b=some (.lst zs)/\xs.length+zs.length<=sizeLine/\Q .jS (upd H l (.lst (xs ++ zs)))
theorem yW:WE X "list.extend" QM:=by
 intro pins s σ H x vs v us Q I rx rv h;obtain⟨l,b,xs,zs,rfl,rfl,hH,hB,hz,q⟩:=h;cases rx
 obtain⟨u,rfl,ru⟩:=rv.one;cases ru
 obtain⟨z,its,n,r,hl,e⟩:=I.MD hH;obtain⟨z2,its2,n2,r2,hl2,e2⟩:=I.MD hB;have hsz:its.toArray.size+its2.toArray.size<=sizeLine:=by rw[aK,aK];lia
 have hlong:¬(!its.toArray.isEmpty&&Builtin.List.listTooLong (its.toArray.size+its2.toArray.size))=true:=by
  rw[HD hsz,Bool.and_false];exact aO
 refine call_meets F.slot_list_extend ⟨_,e,rfl⟩ F.entry_list_extend (F.args_list_extend_2 _ _)
  (AutoSeq1.list_extend_list_list_0 l its.toArray n b its2.toArray n2 hlong (by rw[aK];lia) (by lia)) ⟨e,e2,?_⟩
 refine⟨.jS,_,I.UG (its':=its ++ its2) hH e (by simp) (r.append r2) ?_,rfl,q⟩;rw[aA];lia
noncomputable def SK:R2:=fun x y H Q=>∃l b xs zs,x= .ref l/\y= .ref b/\H l=some (.lst xs)/\H b=some (.lst zs)/\xs.length+zs.length<=sizeLine/\∀p,H p=none->Q (.ref p) (upd H p (.lst (xs ++ zs)))
theorem ql:vO X (binaryOp .Add) SK:=by
 intro pins s σ H x y v u Q I rx ry h;obtain⟨l,b,xs,zs,rfl,rfl,hH,hB,hz,q⟩:=h;cases rx
 cases ry
 obtain⟨z,its,n,r,hl,e⟩:=I.MD hH;obtain⟨z2,its2,n2,r2,hl2,e2⟩:=I.MD hB;refine PySem.P.add_list e e2 ?_ (by rw[aK,aK];lia);have ea:its.toArray ++ its2.toArray=(its ++ its2).toArray:=by simp
 rw[ea];exact⟨.ref _,_,I.UH (t':=s.toks) (r.append r2) (by rw[aA];lia),rfl,q _ I.fresh⟩
noncomputable def VT:R2:=fun x y H Q=>∃l k xs,x= .ref l/\y= .int k/\H l=some (.lst xs)/\-(2^63)<=k/\k<2^63/\xs.length*k.toNat<=sizeLine/\
 ∀p,H p=none->Q (.ref p) (upd H p (.lst (List.replicate k.toNat xs).flatten))
theorem len_rep{α:Type}(xs:List α)(k:Nat):(List.replicate k xs).flatten.length=k*xs.length:=by
 induction k with
 |zero=>simp
 |succ k ih=>rw[bT,List.flatten_cons,aA,ih,cR,Nat.add_comm]
theorem F8:vO X (binaryOp .Mult) VT:=by
 intro pins s σ H x y v u Q I rx ry h;obtain⟨l,k,xs,rfl,rfl,hH,h1,h2,hz,q⟩:=h;cases rx
 obtain⟨t,rfl⟩:=ry;obtain⟨z,its,n,r,hl,e⟩:=I.MD hH;have hlen:its.toArray.size*k.toNat<=sizeLine:=by rw[aK,<-hl];exact hz
 have hcap:¬its.toArray.size*k.toNat>(2^63 - 1) / 8:=by
  have:(sizeLine:Nat)<=(2^63 - 1) / 8:=by decide
  lia
 have hfit:¬(!Builtin.List.listFitsIndex k)=true:=by
  rw[fitsIndex_both h1 h2];exact aO
 have hlong:¬Builtin.List.listTooLong (its.toArray.size*k.toNat)=true:=by
  rw[HD hlen];exact aO
 have hnew:List.foldl (fun x1 x2=>x1 ++ x2) #[] (List.replicate (if its.toArray.isEmpty=true then 0 else k.toNat) its.toArray)=(List.replicate k.toNat its).flatten.toArray:=by
  have f0:∀m:Nat,List.foldl (fun x1 x2=>x1 ++ x2) #[] (List.replicate m its.toArray)=(List.replicate m its).flatten.toArray:=fun m=>by
   have:=foldl_rep its m [];rw[List.nil_append] at this;exact this
  rw[f0];cases its with
  |nil=>simp
  |cons a r'=>rw[af (by simp)]
 refine wpAny_binaryOp_repeat_ref (T:="list") (U:="int") (by decide) ⟨_,e,rfl⟩ (fun s'=>typeIs_int s' k t) noFill_list_mul F.fills_int_mul F.slot_int_rmul repeat_list F.slot_int_index.lookup
  (call_meets F.slot_int_rmul (typeIs_int s k t) F.entry_int_rmul (F.args_int_rmul_2 _ _) (int___rmul___int_list k t l its.toArray n)
   ⟨e,rfl,⟨_,e,rfl⟩,call_meets F.slot_list_mul ⟨_,e,rfl⟩ F.entry_list_mul (F.args_list_mul_2 _ _) (AutoListH.list___mul___list_int_3 l its.toArray n k t hfit hcap hlong) ⟨e,?_⟩⟩)
 rw[hnew];exact⟨.ref _,_,I.UH (t':=s.toks) (r.rep k.toNat) (by rw[len_rep,Nat.mul_comm];exact hz),rfl,q _ I.fresh⟩
end
theorem Vals.ints:∀{ns:List Int} {us:List Value},Vals (ns.map V.int) us->IntsAre us ns
 |[],us,h=>by
  rw[List.map_nil] at h;cases h
  exact IntsAre.nil
 |n::ns,us,h=>by
  rw[aH] at h;cases h with
  |cons r t=>
   obtain⟨k,rfl⟩:=r;exact IntsAre.cons n k (Vals.ints t)
theorem Vals.VU:∀{bs:List Bool} {us:List Value},Vals (bs.map V.bl) us->us=bs.map Value.bool
 |[],us,h=>by
  rw[List.map_nil] at h;cases h
  rfl
 |b::bs,us,h=>by
  rw[aH] at h;cases h with
  |cons r t=>
   cases r
   rw[Vals.VU t,aH]
theorem Vals.QN{a:Addr}{us:List Value}(r:Vals [V.ref a] us):us=[Value.ref a]:=by
 cases r with
 |cons r t=>
  cases t
  cases r
  rfl
section
variable {prog:Program}{w:World}{A:Around}{E:Value->Shared->Prop}{s:Shared}{l:Addr}{its:List Value}{ns:List Int}{Q:Value->Shared->Prop}
theorem QO(hh:A.handled=none)(hl:s.heap.IsList l its.toArray)(hi:IntsAre its ns)
  (h:∀h' tk t',(∀b o,s.heap.get? b=some o->h'.get? b=some o)->Q (.int ns.sum t') {s with heap:=h',toks:=tk}):wpAny (model prog w) A (call (.builtin "sum") [.ref l]) Q E s:=by
 obtain⟨xs,e⟩:=hi.allInts.items;have hn:numsOf (intItems xs).toList=ns:=by rw[<-e];exact hi.numsOf
 rw[nums_intItems] at hn;rw[e] at hl;refine PySem.sum_intListG hh hl fun h' tk t' hk=> ?_
 have:=h h' tk t' hk;rw[preSum_eq,bo (by simp),hn];exact this
theorem QP(hh:A.handled=none)(hl:s.heap.IsList l its.toArray)(hi:IntsAre its ns)(hne:0<ns.length)
  (h:∀h' tk M t',(∀b o,s.heap.get? b=some o->h'.get? b=some o)->M∈ns->(∀a,a∈ns->a<=M)->Q (.int M t') {s with heap:=h',toks:=tk}):wpAny (model prog w) A (call (.builtin "max") [.ref l]) Q E s:=by
 obtain⟨xs,e⟩:=hi.allInts.items;have hn:numsOf (intItems xs).toList=ns:=by rw[<-e];exact hi.numsOf
 rw[nums_intItems] at hn;subst hn;rw[e] at hl;have hsz:0<xs.size:=by simpa using hne
 refine PySem.max_intList hh hl hsz fun v h' tk hv hk=> ?_
 obtain⟨t,rfl⟩:=intItems_at hv;obtain⟨h1,h2⟩:=argBest_gt (numAt xs) (xs.size - 1);refine h h' tk _ t hk ?_ fun a ha=> ?_
 ·rw[numAt_eq];exact PySem.getD_mem (by rw[lMp,cZ];lia)
 ·obtain⟨j,hj,rfl⟩:=mem_getD ha;rw[lMp,cZ] at hj;rw[<-numAt_eq];exact h2 j (by lia)
end
section
variable {X:Cx}
noncomputable def UI (K:PySem.W.Frag):List V->Hp->VK->Prop:=fun vs H Q=>∃(a:Addr) (ns:List Int),vs=[V.ref a]/\kg K H a (ns.map V.int)/\Q (.int ns.sum) H
noncomputable def UJ (K:PySem.W.Frag):List V->Hp->VK->Prop:=fun vs H Q=>∃(a:Addr) (ns:List Int),vs=[V.ref a]/\kg K H a (ns.map V.int)/\0<ns.length/\∀m,m∈ns->(∀y,y∈ns->y<=m)->Q (.int m) H
theorem SM(hc:X.calm=true):ny X (.builtin "sum") (UI X.K):=by
 intro pins s σ H vs us Q I r h;obtain⟨a,ns,rfl,hs,q⟩:=h;obtain⟨its,rv,hl,_⟩:=I.list hs;rw[Vals.QN r];exact QO (I.ok.hd hc) hl.isList rv.ints fun h' tk t' hk=>⟨.int _,H,I.kept hk,⟨_,rfl⟩,q⟩
theorem SN(hc:X.calm=true):ny X (.builtin "max") (UJ X.K):=by
 intro pins s σ H vs us Q I r h;obtain⟨a,ns,rfl,hs,hne,q⟩:=h;obtain⟨its,rv,hl,_⟩:=I.list hs;rw[Vals.QN r];exact QP (I.ok.hd hc) hl.isList rv.ints hne fun h' tk m t' hk h1 h2=>⟨.int _,H,I.kept hk,⟨_,rfl⟩,q m h1 h2⟩
end
theorem HE{prog:Program}{w:World}{A:Around}{E:Value->Shared->Prop}{s:Shared}{l:Addr}{items:Array Value}{Q:Value->Shared->Prop}(hl:s.heap.IsList l items)
  (h:∀s₂:Shared,s₂={s with heap:=s.heap.push {cls:= .type "list_iterator",data:= .fields #[.ref l,.int 0 0]}}->
   (s₂.heap.IsListIter s.heap.objs.size l 0/\s₂.heap.IsList l items)->l≠s.heap.objs.size->Q (.ref s.heap.objs.size) s₂):wpAny (model prog w) A (pyIter (.ref l)) Q E s:=by
 have hlt:l<s.heap.objs.size:=by obtain⟨_,e,_⟩:=hl;exact Heap.lt_size e
 exact wpAny_pyIter_list hl (h _ rfl ⟨⟨_,Heap.get?_push_size _ rfl,rfl,rfl⟩,hl.push _⟩ (bx hlt))
theorem AD{prog:Program}{w:World}{A:Around}{bs:List Bool}{its:List Value}(e:its=bs.map Value.bool):
  TruthOf prog w A (fun i v=>its.toArray[i]? =some v) (fun i=>bs.getD i false):=fun i v s Q E hv hq=>by
 have hv':its[i]? =some v:=by simpa using hv
 rw[e,aC] at hv';obtain⟨b,hb,rfl⟩:=Option.map_eq_some_iff.mp hv';have hg:bs.getD i false=b:=by rw[gDe,hb] <;>rfl
 have hq':Q (bs.getD i false) s:=hq;rw[hg] at hq';exact wpAny_truthy_bool hq'
theorem any_range:∀bs:List Bool,(List.range bs.length).any (fun i=>bs.getD i false)=bs.any id
 |[]=>rfl
 |b::bs=>by
  rw[au,List.range_succ_eq_map,cq,List.any_map,cq,<-any_range bs]
  all_goals rfl
theorem all_range:∀bs:List Bool,(List.range bs.length).all (fun i=>bs.getD i false)=bs.all id
 |[]=>rfl
 |b::bs=>by
  rw[au,List.range_succ_eq_map,List.all_cons,List.all_map,List.all_cons,<-all_range bs]
  all_goals rfl
section
variable {X:Cx}
noncomputable def UK (K:PySem.W.Frag):List V->Hp->VK->Prop:=fun vs H Q=>∃(a:Addr) (bs:List Bool),vs=[V.ref a]/\kg K H a (bs.map V.bl)/\Q (.bl (bs.any id)) H
noncomputable def UL (K:PySem.W.Frag):List V->Hp->VK->Prop:=fun vs H Q=>∃(a:Addr) (bs:List Bool),vs=[V.ref a]/\kg K H a (bs.map V.bl)/\Q (.bl (bs.all id)) H
theorem SO(hc:X.calm=true):ny X (.builtin "any") (UK X.K):=by
 intro pins s σ H vs us Q I r h;obtain⟨a,bs,rfl,hs,q⟩:=h;obtain⟨its,rv,hl,_⟩:=I.list hs;rw[Vals.QN r];have hb:=rv.VU;refine call_any_walk (HE hl.isList fun s₂ e2 st hne=> ?_);subst e2;refine⟨_,_,_,_,_,_,_,rfl,Walks.list (A:=X.A.in1) (I.ok.hd hc) _ a hne its.toArray,st,AD hb,fun h' tk hk=> ?_⟩;refine⟨.bl _,H,I.kept fun b o eo=>hk b o (fun hmem=> ?_) (Heap.get?_push_of_some _ eo),?_,q⟩
 ·rcases aJ.mp hmem with e1 |hmem
  ·exact absurd (e1▸Heap.lt_size eo) (bQ _)
  ·cases hmem
 ·show Value.bool _=Value.bool _;rw[<-any_range,hb,aK,lMp]
theorem SQ(hc:X.calm=true):ny X (.builtin "all") (UL X.K):=by
 intro pins s σ H vs us Q I r h;obtain⟨a,bs,rfl,hs,q⟩:=h;obtain⟨its,rv,hl,_⟩:=I.list hs;rw[Vals.QN r];have hb:=rv.VU;refine call_all_walk (HE hl.isList fun s₂ e2 st hne=> ?_);subst e2;refine⟨_,_,_,_,_,_,_,rfl,Walks.list (A:=X.A.in1) (I.ok.hd hc) _ a hne its.toArray,st,AD hb,fun h' tk hk=> ?_⟩;refine⟨.bl _,H,I.kept fun b o eo=>hk b o (fun hmem=> ?_) (Heap.get?_push_of_some _ eo),?_,q⟩
 ·rcases aJ.mp hmem with e1 |hmem
  ·exact absurd (e1▸Heap.lt_size eo) (bQ _)
  ·cases hmem
 ·show Value.bool _=Value.bool _;rw[<-all_range,hb,aK,lMp]
end
mutual
inductive Dp(K:PySem.W.Frag)(H:Hp):V->PyData->Prop
 |jS:Dp K H .jS .none
 |bl (b:Bool):Dp K H (.bl b) (.bool b)
 |int (i:Int):Dp K H (.int i) (.int i)
 |str (x:Str):Dp K H (.str x) (.str x)
 |lst {a:Addr} {xs:List V} {ds:List PyData}:kg K H a xs->AE K H xs ds->Dp K H (.ref a) (.list ds)
 |tup {a:Addr} {xs:List V} {ds:List PyData}:BX K H a xs->AE K H xs ds->Dp K H (.ref a) (.tuple ds)
inductive AE(K:PySem.W.Frag)(H:Hp):List V->List PyData->Prop
 |nil:AE K H [] []
 |cons {v:V} {vs:List V} {d:PyData} {ds:List PyData}:Dp K H v d->AE K H vs ds->AE K H (v::vs) (d::ds)
end
section
variable {X:Cx}{pins:List (Addr×Obj)}{σ:St}{H:Hp}{s:Shared}
mutual
theorem Dp.reads(I:Inv X pins σ H s):∀(d:PyData) (v:V) (u:Value),Dp X.K H v d->RelV v u->∃as,Reads s.heap u d as
 | .none,_,_,h,r=>by
  cases h
  cases r
  exact⟨_,Reads.none⟩
 | .bool b,_,_,h,r=>by
  cases h
  cases r
  exact⟨_,Reads.bool b⟩
 | .int i,_,_,h,r=>by
  cases h
  obtain⟨t,rfl⟩:=r;exact⟨_,Reads.int i t⟩
 | .str x,_,_,h,r=>by
  cases h
  obtain⟨t,rfl⟩:=r;exact⟨_,Reads.str x t⟩
 | .list ds,_,_,h,r=>by
  cases h with
  |lst hs ha=>
   cases r
   obtain⟨its,rv,⟨o,n,ho,hc,_,hd⟩,_⟩:=I.list hs;obtain⟨as,hr⟩:=Dp.readsAll I ds _ its ha rv;exact⟨_,Reads.list ho hc hd hr⟩
 | .tuple ds,_,_,h,r=>by
  cases h with
  |tup hs ha=>
   cases r
   obtain⟨its,rv,⟨o,ho,hc,n,hd⟩,_⟩:=I.tuple hs;obtain⟨as,hr⟩:=Dp.readsAll I ds _ its ha rv;exact⟨_,Reads.tuple ho hc hd hr⟩
 | .dict _,_,_,h,_=>by cases h
theorem Dp.readsAll(I:Inv X pins σ H s):∀(ds:List PyData) (vs:List V) (us:List Value),AE X.K H vs ds->Vals vs us->∃as,ReadsAll s.heap us ds as
 |[],_,_,h,r=>by
  cases h
  cases r
  exact⟨_,ReadsAll.nil⟩
 |d::ds,_,_,h,r=>by
  cases h with
  |cons h1 h2=>
   cases r with
   |cons r1 r2=>
    obtain⟨as,q1⟩:=Dp.reads I d _ _ h1 r1;obtain⟨bs,q2⟩:=Dp.readsAll I ds _ _ h2 r2;exact⟨_,ReadsAll.cons q1 q2⟩
end
end
section
variable {X:Cx}
noncomputable def VV (K:PySem.W.Frag):R2:=fun x y H Q=>∃d e,Dp K H x d/\Dp K H y e/\SeqAt.shaped d=true/\SeqAt.shaped e=true/\Q (.bl (PyData.eqv d e)) H
theorem SR(hu:X.A.units+64<cLine):vO X (compareOp .Eq) (VV X.K):=by
 intro pins s σ H x y v u Q I rx ry h;obtain⟨d,e,hd,he,sd,se,q⟩:=h;obtain⟨as,r1⟩:=Dp.reads I d x v hd rx;obtain⟨bs,r2⟩:=Dp.reads I e y u he ry;exact SeqAt.compareEq_shaped r1 r2 sd se hu ⟨.bl _,H,I,rfl,q⟩
end
noncomputable abbrev Ou (h:Heap) (c:Addr) (v:Option Value):Prop:=h.IsCell c v
noncomputable def VW (scope sc:Scope):Scope:=
 {scope with names:=scope.names.map fun(n,k)=>if(k== .free&&sc.kind== .function&&sc.names.lookup n==some .cell) then(n,.cell) else(n,k)}
noncomputable def gi (cells:List (Str×Addr)):List (Str×NameKind)->List (Str×Addr)->List (Str×Addr)
 |[],acc=>acc
 |(n,k)::r,acc=>if k== .free then gi cells r ((n,(cells.lookup n).getD 0)::acc) else gi cells r acc
theorem xh(env:Env)(f:Str×NameKind->List (Str×Addr)->Sem (ForInStep (List (Str×Addr))))
  (hf:∀n k c,f (n,k) c=if k== .free then(do let a<-cellOf env n;pure (.yield ((n,a)::c))) else pure (.yield c)):
  ∀(names:List (Str×NameKind)) (acc:List (Str×Addr)),(∀y∈names,y.2= .free->∃c,env.cells.lookup y.1=some c)->forIn names acc f=pure (gi env.cells names acc)
 |[],acc,_=>by rw[List.forIn_nil];rfl
 |(n,k)::r,acc,h=>by
  rw[List.forIn_cons,hf];have ih:=fun acc=>xh env f hf r acc fun y hy=>h y (ao _ hy)
  unfold gi;by_cases hk:(k==NameKind.free)=true
  ·rw[ah hk,ah hk];obtain⟨c,hc⟩:=h (n,k) ax (by simpa using hk);have e:cellOf env n=pure c:=by unfold cellOf;rw[hc]
   rw[e];have e2:(env.cells.lookup n).getD 0=c:=by rw[hc];rfl
   rw[e2];exact ih _
  ·rw[af hk,af hk];exact ih _
theorem JP{scope:Scope}{env:Env}(h:∀y∈scope.names,y.2= .free->∃c,env.cells.lookup y.1=some c):closureFor scope env=pure (gi env.cells scope.names []):=by
 simp only[closureFor];rw[xh env _ (fun n k c=>rfl) scope.names [] h];rfl
theorem mem_lookup{α:Type}:∀{l:List (Str×α)} {n:Str} {c:α},(n,c)∈l->∃c',l.lookup n=some c'
 |(k,v)::r,n,c,h=>by
  rw[cx];cases hb:n==k with
  |true=>exact⟨_,rfl⟩
  |false=>
   rcases aJ.mp h with e |h
   ·cases e;simp at hb
   ·exact mem_lookup h
theorem pM{cells:List (Str×Addr)}:∀{names:List (Str×NameKind)} {acc:List (Str×Addr)} {n:Str} {c:Addr},(n,c)∈gi cells names acc->(n,c)∈acc\/((n,.free)∈names/\c=(cells.lookup n).getD 0)
 |[],_,_,_,h=> .inl h
 |(m,k)::r,acc,n,c,h=>by
  unfold gi at h;split at h
  ·rename_i hk;have hk:k= .free:=by simpa using hk
   rcases pM h with h |⟨h1,h2⟩
   ·rcases aJ.mp h with e |h
    ·cases e;exact .inr ⟨hk▸ax,rfl⟩
    ·exact .inl h
   ·exact .inr ⟨ao _ h1,h2⟩
  ·rcases pM h with h |⟨h1,h2⟩
   ·exact .inl h
   ·exact .inr ⟨ao _ h1,h2⟩
theorem tQ{cells:List (Str×Addr)}:∀{names:List (Str×NameKind)} {acc:List (Str×Addr)} {p:Str×Addr},p∈acc->p∈gi cells names acc
 |[],_,_,h=>h
 |(m,k)::r,acc,p,h=>by
  unfold gi;split
  ·exact tQ (ao _ h)
  ·exact tQ h
theorem tS{cells:List (Str×Addr)}:∀{names:List (Str×NameKind)} {acc:List (Str×Addr)} {n:Str},(n,.free)∈names->(n,(cells.lookup n).getD 0)∈gi cells names acc
 |(m,k)::r,acc,n,h=>by
  unfold gi;rcases aJ.mp h with e |h
  ·cases e
   exact tQ ax
  ·split
   ·exact tS h
   ·exact tS h
theorem qR:∀{names:List (Str×NameKind)} {h:Heap} {acc:List (Str×Addr)} {x:Str} {c:Addr},(x,c)∈cellsFrom h.objs.size names acc->
  (x,c)∈acc\/((x,.cell)∈names/\h.objs.size<=c/\Ou (pushCells h names) c none)
 |[],_,_,_,_,h=> .inl h
 |(n,k)::r,h,acc,x,c,hm=>by
  unfold cellsFrom at hm;unfold pushCells;split at hm
  ·rename_i hk;rw[ah hk];have hk:k= .cell:=by simpa using hk
   rw[<-Heap.size_push h {cls:= .type "cell",data:= .cell none}] at hm;rcases qR hm with hm |⟨h1,h2,h3⟩
   ·rcases aJ.mp hm with e |hm
    ·cases e
     exact .inr ⟨hk▸ax,aj _,_,pushCells_keeps r _ _ _ (Heap.get?_push_size _ rfl),rfl⟩
    ·exact .inl hm
   ·rw[Heap.size_push] at h2;exact .inr ⟨ao _ h1,Nat.le_of_succ_le h2,h3⟩
  ·rename_i hk;rw[af hk];rcases qR hm with hm |⟨h1,h2,h3⟩
   ·exact .inl hm
   ·exact .inr ⟨ao _ h1,h2,h3⟩
theorem uZ:∀{names:List (Str×NameKind)} {n:Nat} {acc:List (Str×Addr)} {p:Str×Addr},p∈acc->p∈cellsFrom n names acc
 |[],_,_,_,h=>h
 |(m,k)::r,n,acc,p,h=>by
  unfold cellsFrom;split
  ·exact uZ (ao _ h)
  ·exact uZ h
theorem yX:∀{names:List (Str×NameKind)} {n:Nat} {acc:List (Str×Addr)} {x:Str},(x,.cell)∈names->∃c,(x,c)∈cellsFrom n names acc
 |(m,k)::r,n,acc,x,h=>by
  unfold cellsFrom;rcases aJ.mp h with e |h
  ·cases e
   exact⟨n,uZ ax⟩
  ·split
   ·exact yX h
   ·exact yX h
theorem yY:∀{names:List (Str×NameKind)} {h:Heap} {acc:List (Str×Addr)} {x y:Str} {c:Addr},(∀p∈acc,p.2<h.objs.size)->(∀x y c,(x,c)∈acc->(y,c)∈acc->x=y)->
  (x,c)∈cellsFrom h.objs.size names acc->(y,c)∈cellsFrom h.objs.size names acc->x=y
 |[],_,_,_,_,_,_,hi,h1,h2=>hi _ _ _ h1 h2
 |(n,k)::r,h,acc,x,y,c,hl,hi,h1,h2=>by
  unfold cellsFrom at h1 h2;split at h1
  ·rename_i hk;rw[ah hk] at h2;rw[<-Heap.size_push h {cls:= .type "cell",data:= .cell none}] at h1 h2;refine yY (h:=h.push _) (fun p hp=> ?_) (fun x y c a b=> ?_) h1 h2
   ·rw[Heap.size_push];rcases aJ.mp hp with rfl |hp
    ·exact Nat.lt_succ_self _
    ·exact Nat.lt_succ_of_lt (hl p hp)
   ·rcases aJ.mp a with e |a <;>rcases aJ.mp b with e' |b
    ·cases e;cases e';rfl
    ·cases e;exact absurd (hl _ b) (bQ _)
    ·cases e';exact absurd (hl _ a) (bQ _)
    ·exact hi _ _ _ a b
  ·rename_i hk;rw[af hk] at h2;exact yY hl hi h1 h2
theorem HF{M:Model}{A:Around}{E:Value->Shared->Prop}{s:Shared}{scope:Scope}{globals:Addr}{closure:List (Str×Addr)}{qual:Str}{func:Option Addr}{code:Value}{around:Env}{builtins:Addr}{Q:Env->Shared->Prop}
  (h:Q (newEnv scope s.heap.objs.size globals (cellsFrom (s.heap.objs.size+1) scope.names closure) qual func code (some around) builtins)
   {s with heap:=pushCells (s.heap.push {cls:= .type "dict",data:= .dict #[]}) scope.names}):
  wpAny M A (newFunctionEnv scope globals closure [] qual func code (some around) builtins) Q E s:=by
 simp only[newFunctionEnv,Option.isSome_some,if_true];refine wpAny_bind (wpAny_alloc ?_);refine wpAny_bind (wpAny_layCells _ (fun n k c=>rfl) scope.names closure _ _ ?_);rw[show({s with heap:=s.heap.push {cls:= .type "dict",data:= .dict #[]}}:Shared).heap.objs.size=s.heap.objs.size+1 from Heap.size_push ..];rw[List.forIn_nil];exact wpAny_bind (wpAny_pure (wpAny_pure h))
theorem tU{sc:Scope}:∀{names:List (Str×NameKind)} {x:Str} {k:NameKind},
  (names.map fun(n,k)=>if(k==NameKind.free&&sc.kind== .function&&sc.names.lookup n==some .cell) then(n,NameKind.cell) else(n,k)).lookup x=some k->
  ∃k',names.lookup x=some k'/\(k=k'\/(k'= .free/\k= .cell))
 |[],_,_,h=>by simp at h
 |(n,k₀)::r,x,k,h=>by
  have ih:= @tU sc r x k;have h':List.lookup x ((if(k₀==NameKind.free&&sc.kind== .function&&sc.names.lookup n==some .cell)=true then(n,NameKind.cell) else(n,k₀))::(r.map _))=some k:=h;cases hx:x==n with
  |true=>
   simp only[cx,hx];by_cases hc:(k₀==NameKind.free&&sc.kind== .function&&sc.names.lookup n==some .cell)=true
   ·rw[ah hc] at h';simp only[cx,hx] at h';cases h'
    simp only[aF,beq_iff_eq] at hc;exact⟨k₀,rfl,.inr ⟨hc.1.1,rfl⟩⟩
   ·rw[af hc] at h';simp only[cx,hx] at h';cases h'
    exact⟨_,rfl,.inl rfl⟩
  |false=>
   simp only[cx,hx];by_cases hc:(k₀==NameKind.free&&sc.kind== .function&&sc.names.lookup n==some .cell)=true
   ·rw[ah hc] at h';simp only[cx,hx] at h';exact ih h'
   ·rw[af hc] at h';simp only[cx,hx] at h';exact ih h'
structure HG(N:List Str)(sc scope:Scope)(own:List (Str×Nat)):Prop where
 kind:scope.kind= .function
 uniq:∀y∈scope.names,scope.names.lookup y.1=some y.2
 ix:∀p∈own,N[p.2]? =some p.1
 free:∀y∈scope.names,y.2= .free->sc.names.lookup y.1=some .cell\/sc.names.lookup y.1=some .free
 own:∀y∈scope.names,y.2= .local\/y.2= .cell->y.1∈own.map (·.1)\/y.1∉N
noncomputable def wipe (σ:St):List Nat->St
 |[]=>σ
 |v::vs=>(wipe σ vs).set v none
theorem tV(σ:St):∀vs:List Nat,(wipe σ vs).length=σ.length
 |[]=>rfl
 |v::vs=>by unfold wipe;rw[bX,tV σ vs]
theorem yZ{σ:St}{i:Nat}{x:V}:∀{vs:List Nat},(wipe σ vs)[i]? =some (some x)->σ[i]? =some (some x)/\i∉vs
 |[],h=>⟨h,by simp⟩
 |v::vs,h=>by
  unfold wipe at h;by_cases hi:v=i
  ·subst hi;by_cases hv:v<(wipe σ vs).length
   ·rw[List.getElem?_set_self hv] at h;cases h
   ·rw[aI (by simpa using hv)] at h;cases h
  ·rw[List.getElem?_set_ne hi] at h;obtain⟨h1,h2⟩:=yZ h;exact⟨h1,by simp only[aJ,not_or];exact⟨fun e=>hi e.symm,h2⟩⟩
noncomputable abbrev Cx.DX (X:Cx) (s:Shared) (H:Hp) (scope:Scope) (cenv:Env) (fp:List Addr):Cx:={X with EF:=s,Ua:=H,env:=cenv,outer:=X.stack,ex:=fp,fn:=fun x=>scope.names.lookup x==some .cell,pn:=[],xe:=fun _ _=>False}
section
variable {X:Cx}{pins:List (Addr×Obj)}{σ:St}{H:Hp}{s:Shared}
theorem HH{scope:Scope}{own:List (Str×Nat)}{fp:List Addr}(I:Inv X pins σ H s)(ok:HG X.N X.env.scope scope own)(hN:X.N.Nodup)(hfp:∀b∈fp,A6 X pins H b/\b<s.heap.objs.size):
  Inv (X.DX s H scope (compEnvC scope (cellsFrom (s.heap.objs.size+1) scope.names (gi X.env.cells scope.names [])) s.heap.objs.size X.env) fp) [] (wipe σ (own.map (·.2))) H {s with heap:=pushCells (s.heap.push {cls:= .type "dict",data:= .dict #[]}) scope.names}:=by
 have hfree:∀y∈scope.names,y.2= .free->∃c,X.env.cells.lookup y.1=some c:=fun y hy e=>by
  rcases ok.free y hy e with k |k
  ·exact I.ok.has _ (.inl k)
  ·exact I.ok.has _ (.inr k)
 generalize hcenv:compEnvC scope (cellsFrom (s.heap.objs.size+1) scope.names (gi X.env.cells scope.names [])) s.heap.objs.size X.env=cenv;have kp:∀b o,s.heap.get? b=some o->(pushCells (s.heap.push {cls:= .type "dict",data:= .dict #[]}) scope.names).get? b=some o:=fun b o e=>pushCells_keeps _ _ _ _ (Heap.get?_push_of_some _ e)
 have hL:cenv.locals=s.heap.objs.size:=by rw[<-hcenv];rfl
 have hcl:cenv.cells=cellsFrom (s.heap.objs.size+1) scope.names (gi X.env.cells scope.names []):=by rw[<-hcenv];rfl
 have hsc:cenv.scope=VW scope X.env.scope:=by rw[<-hcenv];rfl
 rw[<-Heap.size_push s.heap {cls:= .type "dict",data:= .dict #[]}] at hcl;have cm:∀{y c},(y,c)∈gi X.env.cells scope.names []->X.env.cells.lookup y=some c/\c<s.heap.objs.size:=fun{y c} hm=>by
  rcases pM hm with hm |⟨h1,rfl⟩
  ·cases hm
  ·obtain⟨c,hc⟩:=hfree _ h1 rfl;rw[hc];obtain⟨w,z⟩:=I.cell _ _ hc;exact⟨rfl,z.lt⟩
 have mem:∀{y c},cenv.cells.lookup y=some c->(X.env.cells.lookup y=some c/\c<s.heap.objs.size)\/(s.heap.objs.size+1<=c/\Ou (pushCells (s.heap.push {cls:= .type "dict",data:= .dict #[]}) scope.names) c none):=fun{y c} e=>by
  rw[hcl] at e;rcases qR (a8 e) with hm |⟨_,h2,h3⟩
  ·exact .inl (cm hm)
  ·rw[Heap.size_push] at h2;exact .inr ⟨h2,h3⟩
 have look:∀{y},scope.names.lookup y=some .free->∃c,cenv.cells.lookup y=some c/\X.env.cells.lookup y=some c:=fun{y} hl=>by
  have hy:(y,NameKind.free)∈scope.names:=a8 hl;obtain⟨c',e'⟩:=mem_lookup (uZ (names:=scope.names) (n:=(s.heap.push {cls:= .type "dict",data:= .dict #[]}).objs.size) (tS (cells:=X.env.cells) (acc:=[]) hy));rw[<-hcl] at e';refine⟨c',e',?_⟩;rw[hcl] at e';rcases qR (a8 e') with hm |⟨h1,_,_⟩
  ·exact(cm hm).1
  ·have:=ok.uniq _ h1;rw[hl] at this;cases this
 have okB:(X.DX s H scope cenv fp).Ok:=by
  refine⟨I.ok.mod,by show cenv.scope.kind=_;rw[hsc];exact ok.kind,by show cenv.globals=_;rw[<-hcenv];exact I.ok.glob,by show cenv.builtins=_;rw[<-hcenv];exact I.ok.blt,by show s.heap.objs.size<=cenv.locals;rw[hL];exact aj _,
   fun y z c e1 e2=> ?_,fun y hy=> ?_,fun y c z e=> ?_,I.ok.hd,I.ok.frames,.inl rfl,fun b hb=>⟨?_,fun y c e z=> ?_⟩,I.bs,ay I.ok.Qw I.sz,fun b o e hb=> ?_,fun b hb z=> ?_,I.stack,I.K6⟩
  ·have e1:cenv.cells.lookup y=some c:=e1;have e2:cenv.cells.lookup z=some c:=e2;rw[hcl] at e1 e2;refine yY (fun p hp=> ?_) (fun y z c a b=>I.ok.inj y z c (cm a).1 (cm b).1) (a8 e1) (a8 e2);rw[Heap.size_push];exact Nat.lt_succ_of_lt (cm (y:=p.1) (c:=p.2) hp).2
  ·show ∃c,cenv.cells.lookup y=some c;have key:∀k,cenv.kindOf y=some k->(k= .cell\/k= .free)->∃c,cenv.cells.lookup y=some c:=fun k hk hk'=>by
    unfold Env.kindOf at hk;rw[hsc] at hk;obtain⟨k',e,r⟩:=tU hk;have:k'= .cell\/k'= .free:=by
     rcases r with rfl |⟨rfl,_⟩
     ·exact hk'
     ·exact .inr rfl
    rcases this with rfl |rfl
    ·obtain⟨c,hm⟩:=yX (n:=(s.heap.push {cls:= .type "dict",data:= .dict #[]}).objs.size) (acc:=gi X.env.cells scope.names []) (a8 e);obtain⟨c',e'⟩:=mem_lookup hm;exact⟨c',by rw[hcl];exact e'⟩
    ·obtain⟨c,h1,_⟩:=look e;exact⟨c,h1⟩
   rcases hy with hy |hy
   ·exact key _ hy (.inl rfl)
   ·exact key _ hy (.inr rfl)
  ·have z:(scope.names.lookup y==some NameKind.cell)=true:=z;have z:scope.names.lookup y=some .cell:=by simpa using z
   have e:cenv.cells.lookup y=some c:=e;rw[hcl] at e;rcases qR (a8 e) with hm |⟨_,h2,_⟩
   ·rcases pM hm with hm |⟨h1,_⟩
    ·cases hm
    ·have q:=ok.uniq _ h1;rw[z] at q;cases q
   ·rw[Heap.size_push] at h2;exact Nat.le_of_succ_le h2
  ·show b≠cenv.locals;rw[hL];exact bx (hfp b hb).2
  ·have e:cenv.cells.lookup y=some c:=e;rcases mem e with⟨h1,_⟩ |⟨h1,_⟩
   ·exact(hfp b hb).1.2.2.2.2.1 y c h1 z
   ·have h2:s.heap.objs.size+1<=b:=by rw[<-z];exact h1
    exact absurd (aV (hfp b hb).2 (Nat.le_of_succ_le h2)) (bQ _)
  ·rcases(hfp b hb).1.2.2.2.1 with z |z
   ·exact I.ok.NW b o e z
   ·exact absurd (aV (Heap.lt_size e) (ay I.ok.Qw z)) (bQ _)
  ·rcases aJ.mp (I.Jy b z) with z |z
   ·exact(hfp b hb).1.2.1 z
   ·exact(hfp b hb).1.2.2.1 z
 refine⟨okB,rfl,I.bare,Un.kept kp,⟨fun _=>none,?_,fun i y av e1 e2 e3=> ?_⟩,fun y c e=> ?_,?_,fun y c e=> ?_,fun p hp=> ?_,I.iL.kept kp,by rw[tV];exact I.len⟩
 ·show Heap.Ns _ cenv.locals _;rw[hL];exact Heap.Ns.keeps (Heap.Ns.new ..) fun b o e=>pushCells_keeps _ _ _ _ e
 ·obtain⟨e2,hne⟩:=yZ e2;have hfr:scope.names.lookup y=some .free/\(cenv.kindOf y=some .cell\/cenv.kindOf y=some .free):=by
   have key:∀k,cenv.scope.names.lookup y=some k->k= .local\/k= .cell\/k= .free->scope.names.lookup y=some .free/\(cenv.kindOf y=some .cell\/cenv.kindOf y=some .free):=fun k hk hk'=>by
    have hk0:=hk;rw[hsc] at hk;obtain⟨k',e,r⟩:=tU hk;have no:¬(k'= .local\/k'= .cell):=fun hh=>by
     rcases ok.own _ (a8 e) hh with e' |e'
     ·obtain⟨p,hp,hpy⟩:=aL.mp e';have e3:=ok.ix p hp;have:p.1=y:=hpy;rw[this] at e3;exact hne (aL.mpr ⟨p,hp,BS hN e3 e1⟩)
     ·exact e' (aB e1)
    rcases r with rfl |⟨rfl,rfl⟩
    ·rcases hk' with rfl |rfl |rfl
     ·exact absurd (.inl rfl) no
     ·exact absurd (.inr rfl) no
     ·exact⟨e,.inr hk0⟩
    ·exact⟨e,.inl hk0⟩
   have e3:T1 cenv.scope y:=e3;rcases e3 with e3 |e3 |e3
   ·exact key _ e3 (.inl rfl)
   ·exact key _ e3 (.inr (.inl rfl))
   ·exact key _ e3 (.inr (.inr rfl))
  obtain⟨m,hn,hl⟩:=I.loc;have hvis:T1 X.env.scope y:=(ok.free _ (a8 hfr.1) rfl).elim (fun k=> .inr (.inl k)) (fun k=> .inr (.inr k));obtain⟨w,r,q⟩:=hl i y av e1 e2 hvis;refine⟨w,r,.inr ⟨hfr.2,?_⟩⟩;obtain⟨c,h1,h2⟩:=look hfr.1;rcases q with⟨k,_⟩ |⟨_,c',e',z⟩
  ·have k:X.env.scope.names.lookup y=some .local:=k;rcases ok.free _ (a8 hfr.1) rfl with k' |k' <;>rw[show X.env.scope.names.lookup y=_ from k'] at k <;>cases k
  ·rw[h2] at e';cases e'
   exact⟨c,h1,z.keeps kp⟩
 ·have e:cenv.cells.lookup y=some c:=e;rcases mem e with⟨h1,_⟩ |⟨_,z⟩
  ·obtain⟨w,z⟩:=I.cell y c h1;exact⟨w,z.keeps kp⟩
  ·exact⟨_,z⟩
 ·show H cenv.locals=none;rw[hL];exact I.iL.fresh (aj _)
 ·have e:cenv.cells.lookup y=some c:=e;rcases mem e with⟨h1,_⟩ |⟨h1,_⟩
  ·exact I.tJ y c h1
  ·exact I.iL.fresh (Nat.le_of_succ_le h1)
 ·exact absurd (show p∈([]:List (Addr×Obj)) ++ [] from hp) (by simp)
theorem SS{E:Value->Shared->Prop}{D:Addr}{xs:List V}{y:V}{v:Value}{Q:Value->Shared->Prop}(I:Inv X pins σ H s)(hD:H D=some (.lst xs))(hz:xs.length<sizeLine)(r:RelV y v)
  (h:∀s',Inv X pins σ (upd H D (.lst (xs ++ [y]))) s'->Q .none s'):wpAny (model X.prog X.w) X.A (call (.builtin "list.append") [.ref D,v]) Q E s:=by
 obtain⟨hz',its,n,ri,e⟩:=I.iL D _ hD;have hl:=ri.length;refine append_at (hsz:=by rw[aK];lia) e fun h' sb ho'=> ?_
 refine h {s with heap:=h'} (I.write (t':=s.toks) (by rw[hD];trivial) (.inl rfl) (fun b u hb q=>(sb.2 b hb).trans q) ⟨_,ho'⟩ ⟨by rw[aA];exact hz,its ++ [v],n+1,ri.append (.cons r .nil),?_⟩);rw[ho'];simp
noncomputable def UM (X:Cx) (ifs:List Expr) (t:TT):Prop:=
 ∀(pins:List (Addr×Obj)) (s:Shared) (σ:St) (H:Hp) (Q:Bool->Hp->Prop),Inv X pins σ H s->t σ H Q->
  wpAny (model X.prog X.w) X.A (forIn ifs true fun c r=>if r=true then do let ok<-isTrue c X.env (eval c X.env);pure (ForInStep.yield ok) else pure (ForInStep.yield r)) (TP X pins σ Q) X.xe s
noncomputable def VX:TT:=fun _ H Q=>Q true H
theorem fQ:UM X [] VX:=fun _ _ _ H _ I h=>wpAny_tests_nil ⟨H,I,h⟩
theorem Ll{c:Expr}{t:TT}(h:PT X c t):UM X [c] t:=fun pins s σ H Q I hw=>wpAny_tests_one (h pins s σ H Q I hw)
end
theorem ME{α:Type}{t:Sem α}{Q Q':α->Shared->Prop}{M:Model}{A:Around}{E:Value->Shared->Prop}{s:Shared}(h:wpAny M A t Q (fun _ _=>False) s)(hQ:∀a s,Q a s->Q' a s):wpAny M A t Q' E s:=wpAny_mono h hQ fun _ _ z=>False.elim z
theorem F9{prog:Program}{w:World}{A:Around}{R:Result->Shared->Prop}{s:Shared}{elt target iter:Expr}{ifs:List Expr}{scope:Scope}{pos:Pos}{it acc:Value}{env:Env}(I:Nat->Shared->Prop)
  (turn:∀n s,I n s->wpAny (model prog w) A (pyNext it) (fun r s₁=>match r with
   |none=>R (.ok .next) s₁
   |some v=>wpAny (model prog w) A (letOwnedTupleGo target it v) (fun _ s₁'=>wpAny (model prog w) A (assign target env v) (fun _ s₂=>
     wpAny (model prog w) A (forIn ifs true fun c r=>if r=true then do let ok<-isTrue c env (eval c env);pure (ForInStep.yield ok) else pure (ForInStep.yield r)) (fun ok s₃=>
      if ok=true then wpAny (model prog w) A (eval elt env) (fun x s₄=>
       wpAny (model prog w) A (call (.builtin "list.append") [acc,x]) (fun _ s₅=>∃m,m<n/\I m s₅) (notedBy (model prog w) A env fun e s'=>R (.error e) s') s₄) (notedBy (model prog w) A env fun e s'=>R (.error e) s') s₃
      else ∃m,m<n/\I m s₃) (notedBy (model prog w) A env fun e s'=>R (.error e) s') s₂) (notedBy (model prog w) A env fun e s'=>R (.error e) s') s₁') (notedBy (model prog w) A env fun e s'=>R (.error e) s') s₁) (notedBy (model prog w) A env fun e s'=>R (.error e) s') s)
  (n:Nat) (h:I n s):
  codeAny (model prog w) A (.compLoop (.ListComp elt [⟨target,iter,ifs,0⟩] scope pos) 0 it acc env) R s:=by
 refine codeAny_loop rfl I (fun n s hI=> ?_) n h;show wpAny _ A ((compTurn (.ListComp elt [⟨target,iter,ifs,0⟩] scope pos) 0 it acc env).onRaise (fun x=>do noteFrame x env;theTreesLotGoes x)) _ _ s;refine wpAny_noted ?_;rw[compTurn_list];refine wpAny_bind (wpAny_standAt (wpAny_bind (wpAny_mono (turn n s hI) (fun r s₁ h₁=> ?_) fun _ _ h'=>h')));cases r with
 |none=>exact wpAny_pure h₁
 |some v=>
  refine wpAny_bind (wpAny_mono h₁ (fun _ s₁' h₁'=> ?_) fun _ _ h'=>h');refine wpAny_bind (wpAny_mono h₁' (fun _ s₂ h₂=>wpAny_bind (wpAny_mono h₂ (fun ok s₃ h₃=> ?_) fun _ _ h'=>h')) fun _ _ h'=>h');cases ok with
  |false=>exact wpAny_pure ⟨rfl,h₃⟩
  |true=>
   exact wpAny_bind (wpAny_bind (wpAny_mono h₃ (fun x s₄ h₄=>wpAny_bind (wpAny_mono h₄ (fun _ s₅ h₅=>wpAny_pure (wpAny_pure ⟨rfl,h₅⟩)) fun _ _ h'=>h')) fun _ _ h'=>h'))
section
variable {X:Cx}
noncomputable def Vv (wi:TI) (g:TG) (tt:TT) (te:TE) (vs:List Nat):TE:=fun σ H Q=>wi σ H fun J H1=>∀D,H1 D=none->∃W:Nat->Nat->Hp->Prop,(∃m,W 0 m (upd H1 D (.lst [])))/\∀i m H,W i m H->
 (J.stop i H/\Q (.ref D) H)\/(J.go i H/\∃Nx:Hp->Prop,(∀H',Nx H'->∃m',m' <m/\W (i+1) m' H')/\∀x H',J.T2 i H x H'->g x (wipe σ vs) H' fun σ2 H2=>wipe σ2 vs=wipe σ vs/\tt σ2 H2 fun b H3=>
  if b=true then te σ2 H3 fun y H4=>∃acc,H4 D=some (.lst acc)/\acc.length<sizeLine/\Nx (upd H4 D (.lst (acc ++ [y]))) else Nx H3)
theorem Lm{pins:List (Addr×Obj)}{s:Shared}{σ:St}{H:Hp}{Q:VK}{elt tg iter:Expr}{ifs:List Expr}{scope:Scope}{own:List (Str×Nat)}{pos pos':Pos}{wi:TI}{g:TG}{tt:TT}{te:TE}{use:Option (Value->Sem Unit)}{Qf:Value->Shared->Prop}
  (hc:X.calm=true) (hN:X.N.Nodup) (I:Inv X pins σ H s) (hi:PI X tg iter wi) (ok:HG X.N X.env.scope scope own)
  (hg:∀(s:Shared) (H:Hp) (C:Addr) (cl:List (Str×Addr)) (fp:List Addr),PG (X.DX s H scope (compEnvC scope cl C X.env) fp) tg g) (ht:∀(s:Shared) (H:Hp) (C:Addr) (cl:List (Str×Addr)) (fp:List Addr),UM (X.DX s H scope (compEnvC scope cl C X.env) fp) ifs tt)
  (he:∀(s:Shared) (H:Hp) (C:Addr) (cl:List (Str×Addr)) (fp:List Addr),PE (X.DX s H scope (compEnvC scope cl C X.env) fp) elt te) (hs:∀x,foldedSetIterable iter X.env x=pure x)
  (h:Vv wi g tt te (own.map (·.2)) σ H Q)
  (hRR:∀D C s' m H',Inv X pins σ H' s'->Q (.ref D) H'->s'.heap.Ns C m->A6 X pins H' C->compPost (model X.prog X.w) X.A X.xe use Qf (.ref D) C (.ok .next) s'):
  wpAny (model X.prog X.w) X.A (comprehension (.ListComp elt [⟨tg,iter,ifs,0⟩] scope pos) scope X.env pos' (newList []) false (eval iter X.env) use) Qf X.xe s:=by
 have hfree:∀y∈scope.names,y.2= .free->∃c,X.env.cells.lookup y.1=some c:=fun y hy e=>by
  rcases ok.free y hy e with k |k
  ·exact I.ok.has _ (.inl k)
  ·exact I.ok.has _ (.inr k)
 refine wpAny_comprehension_free (use:=use) rfl hs (JP hfree) ok.kind (fun y hy e=>by rw[ok.uniq y hy,e])
  (ic (hi pins s σ H _ I h) fun xv s1 hx=>ic hx fun itv s2 h2=> ?_)
 obtain⟨it,fp,tn,J,H2,e,I2,T,st2,f2,q⟩:=h2;subst e;refine wpAny_newObj_type (HF ?_) (by show 0<=sizeLine;decide);generalize hD:s2.heap.objs.size=D;have hDn:H2 D=none:=I2.iL.fresh (Nat.le_of_eq hD);obtain⟨W,⟨m0,w0⟩,turn⟩:=q D hDn;generalize hs3:({s2 with heap:=s2.heap.push {cls:= .type "list",data:= .seq ([]:List Value).toArray}}:Shared)=s3;have I3:Inv X pins σ (upd H2 D (.lst [])) s3:=by
  rw[<-hs3];refine I2.laid (t':=s2.toks) (fun b o e=>Heap.get?_push_of_some _ e) (Nat.le_of_eq hD) ⟨aM _,[],0,.nil,?_⟩;rw[<-hD];exact Heap.get?_push_size _ rfl
 have h3:s3.heap=s2.heap.push {cls:= .type "list",data:= .seq ([]:List Value).toArray}:=by rw[<-hs3]
 have sz:∀b∈fp,b<s2.heap.objs.size:=fun b hb=>by
  obtain⟨o,e,_⟩:=T.obj _ _ st2 b hb;exact Heap.lt_size e
 have f3:∀b∈fp,A6 X pins (upd H2 D (.lst [])) b/\b<s3.heap.objs.size:=fun b hb=>by
  have hlt:=sz b hb;refine⟨⟨?_,(f2 b hb).2⟩,by rw[h3,Heap.size_push];exact Nat.lt_succ_of_lt hlt⟩;rw[d4 (by rw[<-hD];exact bx hlt)];exact(f2 b hb).1
 have st3:tn 0 s3.heap:=T.keep _ _ _ st2 fun b _ o e=>by rw[h3];exact Heap.get?_push_of_some _ e
 have I4:=HH I3 ok hN f3;have pg:=hg s3 (upd H2 D (.lst [])) s3.heap.objs.size (cellsFrom (s3.heap.objs.size+1) scope.names (gi X.env.cells scope.names [])) fp;have pt:=ht s3 (upd H2 D (.lst [])) s3.heap.objs.size (cellsFrom (s3.heap.objs.size+1) scope.names (gi X.env.cells scope.names [])) fp;have pe:=he s3 (upd H2 D (.lst [])) s3.heap.objs.size (cellsFrom (s3.heap.objs.size+1) scope.names (gi X.env.cells scope.names [])) fp;show codeAny _ _ (.compStart (.ListComp elt [⟨tg,iter,ifs,0⟩] scope pos) 0 (.ref it) (.ref D) (compEnvC scope (cellsFrom (s3.heap.objs.size+1) scope.names (gi X.env.cells scope.names [])) s3.heap.objs.size X.env)) (compPost (model X.prog X.w) X.A X.xe use Qf (.ref D) s3.heap.objs.size) {s3 with heap:=pushCells (s3.heap.push {cls:= .type "dict",data:= .dict #[]}) scope.names};have nfp:∀b∈fp,(upd H2 D (.lst [])) b=none:=fun b hb=>(f3 b hb).1.1
 generalize hce:compEnvC scope (cellsFrom (s3.heap.objs.size+1) scope.names (gi X.env.cells scope.names [])) s3.heap.objs.size X.env=ce at I4 pg pt pe⊢;have cL:ce.locals=s3.heap.objs.size:=by subst hce;rfl
 generalize hH3:upd H2 D (.lst [])=H3 at I3 I4 pg pt pe w0 nfp f3;generalize hs4:({s3 with heap:=pushCells (s3.heap.push {cls:= .type "dict",data:= .dict #[]}) scope.names}:Shared)=s4 at I4⊢;have st4:tn 0 s4.heap:=T.keep _ _ _ st3 fun b _ o e=>by rw[<-hs4];exact pushCells_keeps _ _ _ _ (Heap.get?_push_of_some _ e)
 have stat:∀{σ':St} {H':Hp} {s':Shared},Inv (X.DX s3 H3 scope ce fp) [] σ' H' s'->(∀b∈fp,H' b=none)->∀b∈fp,A6 (X.DX s3 H3 scope ce fp) [] H' b:=fun{σ' H' s'} I' hn b hb=>
  ⟨hn b hb,(I'.ok.Vt b hb).1,I'.ok.NX b hb,.inl hb,fun x c e=>(I'.ok.Vt b hb).2 x c e,fun p hp=>absurd (show p∈([]:List (Addr×Obj)) ++ [] from hp) (by simp)⟩
 have loop:codeAny (model X.prog X.w) X.A (.compLoop (.ListComp elt [⟨tg,iter,ifs,0⟩] scope pos) 0 (.ref it) (.ref D) ce) (compPost (model X.prog X.w) X.A X.xe use Qf (.ref D) s3.heap.objs.size) s4:=by
  refine F9 (fun n s'=>∃i H',Inv (X.DX s3 H3 scope ce fp) [] (wipe σ (own.map (·.2))) H' s'/\tn i s'.heap/\(∀b∈fp,H' b=none)/\W i n H') ?_ m0 ⟨0,H3,I4,st4,nfp,w0⟩;rintro n s5 ⟨i,H5,I5,st5,n5,w5⟩;rcases turn i n H5 w5 with⟨stop,qq⟩ |⟨go,Nx,hNx,step⟩
  ·have td:=T.done (X.DX s3 H3 scope ce fp) rfl rfl rfl hc i [] s5 _ H5 (fun _ _=>False) I5 (stat I5 n5) st5 stop;refine ME td fun r s6 ⟨hr,I6⟩=> ?_
   subst hr;have I7:Inv X pins σ H5 s6:=I3.Uc (ch:=fp) I6.os I6.base I6.iL I6.bare fun b hb=>⟨(f3 b hb).1.2.2.2.1,(f3 b hb).1.2.1,(f3 b hb).1.2.2.2.2.1,(f3 b hb).1.2.2.2.2.2⟩
   have nC:H5 s3.heap.objs.size=none:=by
    have z:H5 ce.locals=none:=I6.free;rw[cL] at z;exact z
   obtain⟨m,hn,_⟩:=I6.loc;have hn:s6.heap.Ns ce.locals m:=hn;rw[cL] at hn;exact hRR D s3.heap.objs.size s6 m H5 I7 qq hn (I3.Mq (aj _) nC)
  ·have ti:=T.item (X.DX s3 H3 scope ce fp) rfl rfl rfl hc i [] s5 _ H5 (fun _ _=>False) I5 (stat I5 n5) st5 go;refine ME ti fun r s6 ⟨u,hr,h6⟩=> ?_
   subst hr;refine ME h6 fun _ s7 ⟨x,H7,I7,r7,y7,st7,n7⟩=> ?_
   have I7':=I7.pinned (stat I7 n7) (T.obj _ _ st7);refine ME (pg _ s7 _ H7 x u _ I7' r7 (step x H7 y7)) fun _ s8 ⟨σ8,H8,I8,hw8,q8⟩=> ?_
   refine ME (pt _ s8 σ8 H8 _ I8 q8) fun b s9 ⟨H9,I9,q9⟩=> ?_
   have fin:∀{s':Shared} {H':Hp},Inv (X.DX s3 H3 scope ce fp) ([] ++ BY fp s7.heap) σ8 H' s'->Nx H'->∃m,m<n/\∃i H',Inv (X.DX s3 H3 scope ce fp) [] (wipe σ (own.map (·.2))) H' s'/\tn i s'.heap/\(∀b∈fp,H' b=none)/\W i m H':=fun{s' H'} I' nx=>by
    obtain⟨m',hm,w'⟩:=hNx H' nx;have pin':∀b∈fp,∀o,s7.heap.get? b=some o->s'.heap.get? b=some o/\H' b=none:=fun b hb o e=>
     let z:=I'.pin (b,o) (br _ (br _ (vM hb e)))
     ⟨z.1,z.2.1⟩
    have hl:(wipe σ (own.map (·.2))).length=σ8.length:=by rw[<-hw8,tV]
    refine⟨m',hm,i+1,H',(I'.xc (pins:=[])).weak hl (fun j v e=> ?_),T.keep _ _ _ st7 fun b hb o e=>(pin' b hb o e).1,fun b hb=> ?_,w'⟩
    ·rw[<-hw8] at e;exact(yZ e).1
    ·obtain⟨o,e,_⟩:=T.obj _ _ st7 b hb;exact(pin' b hb o e).2
   cases b with
   |false=>
    simp only[Bool.false_eq_true,if_false] at q9⊢;exact fin I9 q9
   |true=>
    simp only[if_true] at q9⊢;refine ME (pe _ s9 σ8 H9 _ I9 q9) fun z s10 ⟨yv,H10,I10,r10,acc,hD10,hz10,nx⟩=> ?_
    exact SS (X:=X.DX s3 H3 scope ce fp) I10 hD10 hz10 r10 fun s11 I11=>fin I11 nx
 exact codeAny_compStart_list loop (T.self X.A 0 _ _ _ st4 loop)
theorem lH{elt tg iter:Expr}{ifs:List Expr}{scope:Scope}{own:List (Str×Nat)}{pos:Pos}{wi:TI}{g:TG}{tt:TT}{te:TE}(hc:X.calm=true)(hN:X.N.Nodup)(hi:PI X tg iter wi)(ok:HG X.N X.env.scope scope own)
  (hg:∀(s:Shared) (H:Hp) (C:Addr) (cl:List (Str×Addr)) (fp:List Addr),PG (X.DX s H scope (compEnvC scope cl C X.env) fp) tg g) (ht:∀(s:Shared) (H:Hp) (C:Addr) (cl:List (Str×Addr)) (fp:List Addr),UM (X.DX s H scope (compEnvC scope cl C X.env) fp) ifs tt)
  (he:∀(s:Shared) (H:Hp) (C:Addr) (cl:List (Str×Addr)) (fp:List Addr),PE (X.DX s H scope (compEnvC scope cl C X.env) fp) elt te) (hs:∀x,foldedSetIterable iter X.env x=pure x:=by intro _;rfl):
  PE X (.ListComp elt [⟨tg,iter,ifs,0⟩] scope pos) (Vv wi g tt te (own.map (·.2))):=by
 intro pins s σ H Q I h;rw[eval_ListComp];refine Lm hc hN I hi ok hg ht he hs h fun D C s' m H' I' q hn f=>⟨m,hn,fun h'' sb=> ?_⟩
 obtain⟨f0,f1,f2,f3,f4,f5⟩:=f;exact⟨.ref D,H',I'.turned (t':=s'.toks) (fun b o hb e=>(sb.2 b hb).trans e) f0 f1 f3 f4 f5,rfl,q⟩
theorem oa{i:Nat}{y:Str}{py:Pos}{elt tg iter:Expr}{ifs:List Expr}{scope:Scope}{own:List (Str×Nat)}{pos spos:Pos}{wi:TI}{g:TG}{tt:TT}{te:TE}(hc:X.calm=true)(hN:X.N.Nodup)(hy:X.N[i]? =some y)(hyl:X.env.scope.names.lookup y=some .local)
  (hsw:swapsWith (.ListComp elt [⟨tg,iter,ifs,0⟩] scope pos) (some (.Name y py)) spos.line X.env=pure true) (hi:PI X tg iter wi) (ok:HG X.N X.env.scope scope own)
  (hg:∀(s:Shared) (H:Hp) (C:Addr) (cl:List (Str×Addr)) (fp:List Addr),PG (X.DX s H scope (compEnvC scope cl C X.env) fp) tg g) (ht:∀(s:Shared) (H:Hp) (C:Addr) (cl:List (Str×Addr)) (fp:List Addr),UM (X.DX s H scope (compEnvC scope cl C X.env) fp) ifs tt)
  (he:∀(s:Shared) (H:Hp) (C:Addr) (cl:List (Str×Addr)) (fp:List Addr),PE (X.DX s H scope (compEnvC scope cl C X.env) fp) elt te) (hs:∀x,foldedSetIterable iter X.env x=pure x:=by intro _;rfl):
  PS X (.Assign [.Name y py] (.ListComp elt [⟨tg,iter,ifs,0⟩] scope pos) spos) (QB (Vv wi g tt te (own.map (·.2))) (EH i)):=by
 intro pins s σ H D I h;rw[exec_Assign_Name_used _ _ _ _ hsw];refine wpAny_bind (wpAny_standAt (wpAny_bind ?_));show wpAny _ X.A (do let _<-comprehension (.ListComp elt [⟨tg,iter,ifs,0⟩] scope pos) scope X.env (firstIterPos [⟨tg,iter,ifs,0⟩] pos) (newList []) false (eval iter X.env) (some (assign (.Name y py) X.env))) _ _ s;have h:Vv wi g tt te (own.map (·.2)) σ H (fun x H1=>EH i x σ H1 D.nx):=h;refine wpAny_bind (ic (Lm (Qf:=fun _ s'=>SP X pins D .next s') hc hN I hi ok hg ht he hs h fun L C s' m H' I' q hn f=> ?_) fun _ s' hq=>wpAny_pure (wpAny_pure hq));show wpAny _ _ (assign (.Name y py) X.env (.ref L)) _ _ _;refine wpAny_assign_Name (EG (v:=V.ref L) I' hN hy (.inl hyl) rfl (fun s2 I2 ⟨a,sb,ha⟩=> ?_) (.inr hyl));obtain⟨f0,f1,f2,f3,f4,f5⟩:=f;have haC:C≠a:=by
  rcases ha with z |z
  ·rw[z];exact f1
  ·exact fun e=>f4 y a z e.symm
 refine⟨m,hn.sameBut sb haC,fun h3 sb3=> ?_⟩;exact⟨_,H',I2.turned (t':=s2.toks) (fun b o hb e=>(sb3.2 b hb).trans e) f0 f1 f3 f4 f5,q⟩
theorem rB{elt:Expr}{gs:List Comprehension}{scope:Scope}{pos py:Pos}{y:Str}{l:Nat}{env:Env}(hk:env.scope.kind= .function)(hy:env.scope.names.lookup y=some .local)(hl:(py.line==pos.line)=true)
  (ha:(scope.names.any fun(n,k)=>n==y&&(k== .local ||k== .cell))=false):swapsWith (.ListComp elt gs scope pos) (some (.Name y py)) l env=pure true:=by
 have ky:env.kindOf y=some .local:=hy;have hb:env.blockKind= .function:=by unfold Env.blockKind;rw[hk];rfl
 unfold swapsWith;simp only[hb,ky,ha,Expr.pos,hl];rfl
end
noncomputable def lL (N:List Str) (sc scope:Scope) (own:List (Str×Nat)):Bool:=
 (match scope.kind with | .function=>true |_=>false)&&(scope.names.all fun y=>decide (scope.names.lookup y.1=some y.2))&&(own.all fun p=>decide (N[p.2]? =some p.1))&&
  (scope.names.all fun y=>match y.2 with
   | .free=>(match sc.names.lookup y.1 with |some .cell=>true |some .free=>true |_=>false)
   | .local=>decide (y.1∈own.map (·.1)) ||decide (y.1∉N)
   | .cell=>decide (y.1∈own.map (·.1)) ||decide (y.1∉N)
   |_=>true)
theorem fm{N:List Str}{sc scope:Scope}{own:List (Str×Nat)}(h:lL N sc scope own=true):HG N sc scope own:=by
 unfold lL at h;simp only[aF,bc,decide_eq_true_eq] at h;obtain⟨⟨⟨h1,h2⟩,h3⟩,h4⟩:=h;refine⟨?_,h2,h3,fun y hy e=> ?_,fun y hy e=> ?_⟩
 ·split at h1
  ·assumption
  ·cases h1
 ·have q:=h4 y hy;simp only[e] at q;split at q <;>first |exact .inl (by assumption) |exact .inr (by assumption) |cases q
 ·have q:=h4 y hy;rcases e with e |e <;>(simp only[e,Bool.or_eq_true,decide_eq_true_eq] at q;exact q)
theorem B3:bootBuiltins "reversed"=some (.type "reversed"):=by decide +kernel
section
variable {X:Cx}{pins:List (Addr×Obj)}{σ:St}{H:Hp}{s:Shared}{h':Heap}
theorem Inv.QQ{t':Nat}{ch:List Addr}(I:Inv X pins σ H s)(k:∀b o,b∉ch->s.heap.get? b=some o->h'.get? b=some o)(hf:∀b∈ch,A6 X pins H b):Inv X pins σ H {s with heap:=h',toks:=t'}:=by
 have nit:∀b u,H b=some u->b∉ch:=fun b u e z=>by
  have q:=(hf b z).1;rw[q] at e;cases e
 refine I.step (g':=s.gens) (d':=s.drawn) (ch:=ch) (fun b hb=>⟨(hf b hb).2.2.2.1,(hf b hb).2.1,(hf b hb).2.2.2.2.1,(hf b hb).2.2.2.2.2⟩) (fun b o _ _ hc e _=>k b o hc e) (fun b o _ _ hc e _=>⟨o.slots,k b o hc e⟩)
  (fun _ _ _ _ n=>n) (fun b o hc e=>⟨o,k b o hc e⟩) (fun _ _ e=>e) (fun _ _ _ e=>e) (fun b ps e=>⟨#[],by rw[e];simp⟩) (fun m hm=> ?_) (fun b u e=> ?_) I.bare
 ·obtain⟨o,es,ep,ho,r⟩:=hm;exact⟨o,es,ep,k _ o (fun z=>(hf _ z).2.1 rfl) ho,r⟩
 ·refine(I.iL b u e).Jx (fun c v hc q=>k c v ?_ q) (fun _ q=>q) fun _ _ q=>q
  rcases hc with z |z
  ·rw[z];exact nit b u e
  ·exact nit c _ z
theorem Inv.EN{t':Nat}{ch:List Addr}{T:Addr}{ob:HO}(I:Inv X pins σ H s)(k:∀b o,b∉ch->s.heap.get? b=some o->h'.get? b=some o)(hf:∀b∈ch,A6 X pins H b)(hT:s.heap.objs.size<=T)
  (new:kh X.prog X.w (upd H T ob) h' T ob):Inv X pins σ (upd H T ob) {s with heap:=h',toks:=t'}:=by
 have hn:H T=none:=I.iL.fresh hT;have nit:∀b u,H b=some u->b∉ch:=fun b u e z=>by
  have q:=(hf b z).1;rw[q] at e;cases e
 refine I.step (g':=s.gens) (d':=s.drawn) (ch:=ch) (fun b hb=>⟨(hf b hb).2.2.2.1,(hf b hb).2.1,(hf b hb).2.2.2.2.1,(hf b hb).2.2.2.2.2⟩) (fun b o _ _ hc e _=>k b o hc e) (fun b o _ _ hc e _=>⟨o.slots,k b o hc e⟩)
  (fun b o _ e n=> ?_) (fun b o hc e=>⟨o,k b o hc e⟩) (fun b xs e=> ?_) (fun b o u e=> ?_) (fun b ps e=>⟨#[],?_⟩) (fun m hm=> ?_) (fun b u e=> ?_) I.bare
 ·rw[d4 (bx (aV (Heap.lt_size e) hT))];exact n
 ·rw[d4 (fJ e hn)];exact e
 ·rw[d4 (fJ e hn)];exact e
 ·rw[d4 (fJ e hn),e];simp
 ·obtain⟨o,es,ep,ho,r⟩:=hm;exact⟨o,es,ep,k _ o (fun z=>(hf _ z).2.1 rfl) ho,r⟩
 ·by_cases hb:b=T
  ·subst hb;rw[di] at e;cases e
   exact new
  ·rw[d4 hb] at e;refine(I.iL b u e).Jx (fun c v hc q=>k c v ?_ q) (fun c q=>by rw[d4 (fJ q hn)];exact q) fun c xs q=>by rw[d4 (fJ q hn)];exact q
   rcases hc with z |z
   ·rw[z];exact nit b u e
   ·exact nit c _ z
end
section
variable {X:Cx}
theorem Ov{tg:Expr}{pins:List (Addr×Obj)}{σ:St}{H:Hp}{s:Shared}{R:It->Hp->Prop}{J:It}{tn:Nat->Heap->Prop}{tk:Nat}(I:Inv X pins σ H s)(o:Obj)
  (T:Turn X.prog X.w X.K tg J [s.heap.objs.size] s.heap.objs.size tn) (st:tn 0 (s.heap.push o)) (q:R J H):VL X pins σ tg R (.ref s.heap.objs.size) {s with heap:=s.heap.push o,toks:=tk}:=by
 refine⟨s.heap.objs.size,[s.heap.objs.size],tn,J,H,rfl,I.kept fun b ob e=>Heap.get?_push_of_some _ e,T,st,fun b hb=> ?_,q⟩;have e:b=s.heap.objs.size:=by simpa using hb
 subst e;exact I.Mq (aj _) (I.iL.fresh (aj _))
end
noncomputable def VY (lo c:Int) (n:Nat):It:=⟨fun i _=>i<n,fun i H x H'=>H'=H/\x= .int (lo+(i:Nat)*c),fun i _=>n<=i⟩
theorem HI{P:Program}{w:World}{K:PySem.W.Frag}{tg:Expr}(it:Addr)(lo c:Int)(n:Nat):Turn P w K tg (VY lo c n) [it] it (fun i h=>IsRangeIter h it (lo+(i:Nat)*c) ((n:Int) - (i:Nat)) c) where
 mem:=by simp
 obj:=fun i h st b hb=>by
  have e:b=it:=by simpa using hb
  subst e;exact⟨_,st,fun v z=>nomatch z⟩
 keep:=fun i h h' st k=>k it (by simp) _ st
 item:=by
  intro X hP hw hK hc i pins s σ H E I hf st hg;subst hP hw hK;obtain⟨f0,f1,f2,f3,f4,f5⟩:=hf it (by simp);have W:=Walks.range (prog:=X.prog) (w:=X.w) (I.ok.hd hc) it lo c n;refine W.item i s _ _ hg st fun v h' tk hv st' kk=> ?_
  obtain⟨t,rfl⟩:=hv;have I1:Inv X pins σ H {s with heap:=h',toks:=tk}:=I.turned (fun b o hb e=>kk b o (by simpa using hb) e) f0 f1 f3 f4 f5;exact⟨_,rfl,K9 (s:={s with heap:=h',toks:=tk}) (n:="range_iterator") st' rfl rfl (by decide) ⟨.int (lo+(i:Nat)*c),H,I1,⟨t,rfl⟩,⟨rfl,rfl⟩,st',fun b hb=>(hf b hb).1⟩⟩
 done:=by
  intro X hP hw hK hc i pins s σ H E I hf st hg;subst hP hw hK;obtain⟨f0,f1,f2,f3,f4,f5⟩:=hf it (by simp);exact wpAny_pyNext_range_end (I.ok.hd hc) st (by have:n<=i:=hg;lia) fun h' eb=>⟨rfl,I.turned (t':=s.toks) (fun b o hb e=>eb b o hb e) f0 f1 f3 f4 f5⟩
 self:=fun A i s Q E st h=>wpAny_pyIter_rangeiter st h
noncomputable def UN (i j c:Int) (n:Nat):Prop:=c≠0/\c.natAbs<1073741824/\Builtin.Range.small i j c=true/\Builtin.Range.rangeSize i j c=n
theorem UN.neg{i j:Int}(ha: -(2^62)<=i)(ha':i<2^62)(hb: -(2^62)<=j)(hb':j<2^62):UN i j (-1) (i - j).toNat:=
 ⟨by decide,by decide,PySem.W.small_down ha ha' hb hb',PySem.W.rangeSize_downNat i j⟩
noncomputable def UO (ta:TA):TI:=fun σ H R=>ta σ H fun vs H1=>∃(i j c:Int) (n:Nat),vs=[.int i,.int j,.int c]/\UN i j c n/\R (VY i c n) H1
section
variable {X:Cx}{tg:Expr}
theorem EO{a b c:Expr}{ta:TA}{p pos:Pos}(hg:Gl X "range")(hm:X.mg "range"=none)(ha:PA X [a,b,c] ta)
  (hs:starEach [a,b,c] X.env=(false,eval a X.env)::starEach [b,c] X.env:=by rfl) (hpl:(backTo pos (starEach [b,c] X.env)).any (·.1)=false:=by rfl):
  PI X tg (.Call (.Name "range" p) [a,b,c] [] pos) (UO ta):=by
 intro pins s σ H R I h;refine Call_ (tK I hg hm boot_range (bw (ic (ha pos pins s σ H _ I h) fun us s1 ⟨vs,H1,I1,r1,q1⟩=> ?_) hs hpl));obtain⟨i,j,k,n,e,⟨c0,c1,c2,c3⟩,q⟩:=q1;subst e;cases r1 with
 |cons r rr=>
  cases rr with
  |cons r' rr=>
   cases rr with
   |cons r'' rr=>
    cases rr
    obtain⟨t,rfl⟩:=r;obtain⟨t',rfl⟩:=r';obtain⟨t'',rfl⟩:=r'';refine call_range_3 c0 ?_ (.inl (PyProof.noPylong_small c1));refine wpAny_pyIter_range (IsRange.new ..) c2 ?_;have I2:Inv X pins σ H1 {s1 with heap:=s1.heap.push {cls:= .type "range",data:= .fields #[.int i t,.int j t',.int k t'']}}:=I1.kept (t':=s1.toks) fun b o e=>Heap.get?_push_of_some _ e
    refine Ov (tk:=s1.toks) I2 _ (HI _ i k n) ?_ q;have e1:i+((0:Nat):Int)*k=i:=by simp
    have e2:(n:Int) - ((0:Nat):Int)=Builtin.Range.rangeSize i j k:=by rw[c3];simp
    show IsRangeIter _ _ (i+((0:Nat):Int)*k) ((n:Int) - ((0:Nat):Int)) k;rw[e1,e2];exact Heap.get?_push_size _ rfl
end
noncomputable def VZ (K:PySem.W.Frag) (a:Addr) (n:Nat):It:=
 ⟨fun i H=>i<n/\∃(xs:List V) (x:V),kg K H a xs/\xs[n - 1 - i]? =some x,fun i H x H'=>H'=H/\∀xs,kg K H a xs->xs[n - 1 - i]? =some x,fun i _=>n<=i⟩
theorem Ow{P:Program}{w:World}{K:PySem.W.Frag}{tg:Expr}(a it:Addr)(n:Nat):Turn P w K tg (VZ K a n) [it] it (fun i h=>i<=n/\h.IsRevIter it a ((n:Int) - 1 - (i:Nat))) where
 mem:=by simp
 obj:=fun i h st b hb=>by
  have e:b=it:=by simpa using hb
  subst e;obtain⟨_,o,e,c,d⟩:=st;exact⟨o,e,fun v z=>by rw[d] at z;cases z⟩
 keep:=fun i h h' st k=>⟨st.1,st.2.at fun o e=>k it (by simp) o e⟩
 item:=by
  intro X hP hw hK hc i pins s σ H E I hf st hg;subst hP hw hK;obtain⟨hin,xs,x,hq,hx⟩:=hg;obtain⟨its,rv,p,hz⟩:=I.list hq;obtain⟨u,hu,ru⟩:=rv.get hx;obtain⟨f0,f1,f2,f3,f4,f5⟩:=hf it (by simp);obtain⟨_,hit⟩:=st;have e1:(n:Int) - 1 - ((i:Nat):Int)=((n - 1 - i:Nat):Int):=by lia
  rw[e1] at hit;refine wpAny_pyNext_rev_item hit p.isList (x:=u) (by simpa using hu) fun h' st' sb=> ?_
  have e2:((n - 1 - i:Nat):Int) - 1=(n:Int) - 1 - ((i+1:Nat):Int):=by lia
  rw[e2] at st';have I1:Inv X pins σ H {s with heap:=h'}:=I.turned (t':=s.toks) (fun b o hb e=>(sb.2 b hb).trans e) f0 f1 f3 f4 f5;obtain⟨o,e,c,d⟩:=id st';exact⟨u,rfl,K9 (s:={s with heap:=h'}) e c d (by decide) ⟨x,H,I1,ru,⟨rfl,fun ys hy=>by rw[I.tL hy hq];exact hx⟩,⟨hin,st'⟩,fun b hb=>(hf b hb).1⟩⟩
 done:=by
  intro X hP hw hK hc i pins s σ H E I hf st hg;subst hP hw hK;obtain⟨f0,f1,f2,f3,f4,f5⟩:=hf it (by simp);obtain⟨hin,hit⟩:=st;have hge:n<=i:=hg;have e1:(n:Int) - 1 - ((i:Nat):Int)= -1:=by lia
  rw[e1] at hit;exact wpAny_pyNext_rev_end (I.ok.hd hc) hit fun h' eb=>⟨rfl,I.turned (t':=s.toks) (fun b o hb e=>eb b o hb e) f0 f1 f3 f4 f5⟩
 self:=fun A i s Q E st h=>wpAny_pyIter_revIter st.2 h
noncomputable def V0 (K:PySem.W.Frag) (ta:TA):TI:=fun σ H R=>ta σ H fun vs H1=>∃(a:Addr) (xs:List V),vs=[.ref a]/\kg K H1 a xs/\R (VZ K a xs.length) H1
section
variable {X:Cx}{tg:Expr}
theorem HJ{e:Expr}{ta:TA}{p pos:Pos}(hg:Gl X "reversed")(hm:X.mg "reversed"=none)(ha:PA X [e] ta)(hs:starEach [e] X.env=[(false,eval e X.env)]:=by rfl):PI X tg (.Call (.Name "reversed" p) [e] [] pos) (V0 X.K ta):=by
 intro pins s σ H R I h;refine Call_ (tK I hg hm B3 (bw (ic (ha pos pins s σ H _ I h) fun us s1 ⟨vs,H1,I1,r1,q1⟩=> ?_) hs rfl));obtain⟨a,xs,e,hq,q⟩:=q1;subst e;cases r1 with
 |cons r rr=>
  cases rr
  cases r
  obtain⟨its,rv,p',hz⟩:=I1.list hq;have hl:=rv.length;have e1:((its.toArray.size:Nat):Int) - 1=(xs.length:Int) - 1 - ((0:Nat):Int):=by simp only[aK];lia
  refine call_reversed_list p'.isList (wpAny_pyIter_revIter (l:=a) (i:=((its.toArray.size:Nat):Int) - 1) ⟨_,Heap.get?_push_size _ rfl,rfl,rfl⟩ ?_);refine Ov (tk:=s1.toks) I1 _ (Ow a _ xs.length) ⟨aM _,?_⟩ q;rw[<-e1];exact⟨_,Heap.get?_push_size _ rfl,rfl,rfl⟩
end
noncomputable def V1 (K:PySem.W.Frag) (a:Addr):It:=
 ⟨fun i H=>∃(xs:List V) (x:V),kg K H a xs/\xs[i]? =some x,fun i H v H'=>∃T x,v= .ref T/\H T=none/\H'=upd H T (.tup [.int (i:Nat),x])/\∀xs,kg K H a xs->xs[i]? =some x,fun i H=>∃xs:List V,kg K H a xs/\xs.length<=i⟩
theorem MF{P:Program}{w:World}{K:PySem.W.Frag}{elts:List Expr}{kk:Nat}{tpos:Pos}(a e it:Addr):
  Turn P w K (.Tuple elts kk tpos) (V1 K a) [e,it] e (fun i h=>(∃old,IsEnum h e it ((i:Nat):Int) old)/\h.IsListIter it a i/\e≠it) where
 mem:=by simp
 obj:=fun i h st b hb=>by
  obtain⟨⟨old,he⟩,⟨o,ho,hc,hd⟩,_⟩:=st;have e':b=e\/b=it:=by simpa using hb
  rcases e' with z |z
  ·rw[z];exact⟨_,he,fun v q=>nomatch q⟩
  ·rw[z];exact⟨o,ho,fun v q=>by rw[hd] at q;cases q⟩
 keep:=fun i h h' st k=>let ⟨⟨old,he⟩,hi,hne⟩:=st;⟨⟨old,k e (by simp) _ he⟩,hi.at fun o q=>k it (by simp) o q,hne⟩
 item:=by
  intro X hP hw hK hc i pins s σ H E I hf st hg;subst hP hw hK;obtain⟨⟨old,he⟩,hit,hne⟩:=st;obtain⟨xs,x,hq,hx⟩:=hg;obtain⟨its,rv,p,hz⟩:=I.list hq;obtain⟨u,hu,ru⟩:=rv.get hx;have hel:e<s.heap.objs.size:=Heap.lt_size he;have hil:it<s.heap.objs.size:=by obtain⟨_,q,_⟩:=hit;exact Heap.lt_size q
  refine wpAny_pyNext_enum_item he hit p.isList (x:=u) (by simpa using hu) hne fun h' ho hit' hT hsz hk=> ?_
  refine⟨_,rfl,wpAny_letOwnedTupleGo_enum (s:={s with heap:=h',toks:=s.toks+1}) ho fun h'' he' sb=> ?_⟩;have hT2:h''.get? s.heap.objs.size=some {cls:= .type "tuple",data:= .seq #[.int i s.toks,u]}:=(sb.2 _ (Nat.ne_of_gt hel)).trans hT;have new:kh X.prog X.w (upd H s.heap.objs.size (.tup [.int (i:Nat),x])) h'' s.heap.objs.size (.tup [.int (i:Nat),x]):=
   ⟨by show 2<=sizeLine;decide,[.int i s.toks,u],.cons ⟨_,rfl⟩ (.cons ru .nil),⟨_,hT2,rfl,_,rfl⟩⟩
  have I1:Inv X pins σ (upd H s.heap.objs.size (.tup [.int (i:Nat),x])) {s with heap:=h'',toks:=s.toks+1}:=
   I.EN (ch:=[e,it]) (fun b ob hb q=>(sb.2 b (fun z=>hb (by simp[z]))).trans (hk b ob (fun z=>hb (by simp[z])) (fun z=>hb (by simp[z])) q)) hf (aj _) new
  refine⟨.ref s.heap.objs.size,_,I1,rfl,⟨_,x,rfl,I.iL.fresh (aj _),rfl,fun ys hy=>by rw[I.tL hy hq];exact hx⟩,⟨⟨u,?_⟩,hit'.at fun o q=>(sb.2 it (bL hne)).trans q,hne⟩,fun b hb=> ?_⟩
  ·have e1:((i+1:Nat):Int)=(i:Int)+1:=by lia
   rw[e1];exact he'
  ·have hb':b<s.heap.objs.size:=by
    have e':b=e\/b=it:=by simpa using hb
    rcases e' with z |z
    ·rw[z];exact hel
    ·rw[z];exact hil
   rw[d4 (bx hb')];exact(hf b hb).1
 done:=by
  intro X hP hw hK hc i pins s σ H E I hf st hg;subst hP hw hK;obtain⟨⟨old,he⟩,hit,hne⟩:=st;obtain⟨xs,hq,hx⟩:=hg;obtain⟨its,rv,p,hz⟩:=I.list hq;obtain⟨f0,f1,f2,f3,f4,f5⟩:=hf it (by simp);have hl:=rv.length;exact wpAny_pyNext_enum_end (I.ok.hd hc) he hit p.isList (by simp;lia) fun h' eb=>⟨rfl,I.turned (t':=s.toks) (fun b o hb q=>eb b o hb q) f0 f1 f3 f4 f5⟩
 self:=fun A i s Q E st h=>let ⟨⟨_,he⟩,_⟩:=st;wpAny_pyIter_enum he h
noncomputable def UP (K:PySem.W.Frag) (ta:TA):TI:=fun σ H R=>ta σ H fun vs H1=>∃a xs,vs=[.ref a]/\kg K H1 a xs/\R (V1 K a) H1
theorem rC{X:Cx}{e:Expr}{ta:TA}{p pos tpos:Pos}{elts:List Expr}{kk:Nat}(hg:Gl X "enumerate")(hm:X.mg "enumerate"=none)(ha:PA X [e] ta)(hs:starEach [e] X.env=[(false,eval e X.env)]:=by rfl):
  PI X (.Tuple elts kk tpos) (.Call (.Name "enumerate" p) [e] [] pos) (UP X.K ta):=by
 intro pins s σ H R I h;refine Call_ (tK I hg hm boot_enumerate (bw (ic (ha pos pins s σ H _ I h) fun us s1 ⟨vs,H1,I1,r1,q1⟩=> ?_) hs rfl));obtain⟨a,xs,ex,hq,q⟩:=q1;subst ex;cases r1 with
 |cons r rr=>
  cases rr
  cases r
  obtain⟨its,rv,p',hz⟩:=I1.list hq;refine call_enumerate_list p'.isList fun h' he hit hsz hk=>wpAny_pyIter_enum he ?_
  have I2:Inv X pins σ H1 {s1 with heap:=h'}:=I1.kept (t':=s1.toks) hk;refine⟨s1.heap.objs.size+1,[s1.heap.objs.size+1,s1.heap.objs.size],_,_,H1,rfl,I2,MF a (s1.heap.objs.size+1) s1.heap.objs.size,⟨⟨.none,he⟩,hit,Nat.succ_ne_self _⟩,fun b hb=> ?_,q⟩;have e':b=s1.heap.objs.size+1\/b=s1.heap.objs.size:=by simpa using hb
  have hle:s1.heap.objs.size<=b:=by
   rcases e' with z |z
   ·rw[z];exact cD _ _
   ·rw[z];exact aj _
  exact I1.Mq hle (I1.iL.fresh hle)
theorem MG:bootBuiltins "zip"=some (.type "zip"):=by decide +kernel
noncomputable def V2 (K:PySem.W.Frag) (a b:Addr):It:=
 ⟨fun i H=>∃(xs ys:List V) (x y:V),kg K H a xs/\kg K H b ys/\xs[i]? =some x/\ys[i]? =some y,
  fun i H v H'=>∃T x y,v= .ref T/\H T=none/\H'=upd H T (.tup [x,y])/\(∀xs,kg K H a xs->xs[i]? =some x)/\∀ys,kg K H b ys->ys[i]? =some y,
  fun i H=>∃xs ys:List V,kg K H a xs/\kg K H b ys/\(xs.length<=i\/ys.length<=i)⟩
theorem Ox{P:Program}{w:World}{K:PySem.W.Frag}{elts:List Expr}{kk:Nat}{tpos:Pos}{a b z TI TO i1 i2:Addr}(D:ZipApart z TI TO i1 i2 a b):
  Turn P w K (.Tuple elts kk tpos) (V2 K a b) [z,TI,TO,i1,i2] z (fun i h=>IsZip h z TI TO .none/\IsPair h TI (.ref i1) (.ref i2)/\(∃x y,IsPair h TO x y)/\h.IsListIter i1 a i/\h.IsListIter i2 b i) where
 mem:=by simp
 obj:=fun i h st c hc=>by
  obtain⟨hz,hTI,⟨x,y,hTO⟩,⟨o1,e1,_,d1⟩,⟨o2,e2,_,d2⟩⟩:=st;have e':c=z\/c=TI\/c=TO\/c=i1\/c=i2:=by simpa using hc
  rcases e' with q |q |q |q |q
  ·rw[q];exact⟨_,hz,fun v q=>nomatch q⟩
  ·rw[q];exact⟨_,hTI,fun v q=>nomatch q⟩
  ·rw[q];exact⟨_,hTO,fun v q=>nomatch q⟩
  ·rw[q];exact⟨o1,e1,fun v q=>by rw[d1] at q;cases q⟩
  ·rw[q];exact⟨o2,e2,fun v q=>by rw[d2] at q;cases q⟩
 keep:=fun i h h' st k=>by
  obtain⟨hz,hTI,⟨x,y,hTO⟩,h1,h2⟩:=st;exact⟨k z (by simp) _ hz,k TI (by simp) _ hTI,⟨x,y,k TO (by simp) _ hTO⟩,h1.at fun o q=>k i1 (by simp) o q,h2.at fun o q=>k i2 (by simp) o q⟩
 item:=by
  intro X hP hw hK hc i pins s σ H E I hf st hg;subst hP hw hK;obtain⟨hz,hTI,⟨x0,y0,hTO⟩,h1,h2⟩:=st;obtain⟨xs,ys,x,y,hqx,hqy,hx,hy⟩:=hg;obtain⟨its,rv,p,_⟩:=I.list hqx;obtain⟨its2,rv2,p2,_⟩:=I.list hqy;obtain⟨u,hu,ru⟩:=rv.get hx;obtain⟨u2,hu2,ru2⟩:=rv2.get hy;have hzl:z<s.heap.objs.size:=Heap.lt_size hz;refine wpAny_pyNext_zip_item D hz hTI hTO h1 h2 p.isList p2.isList (x:=u) (y:=u2) (by simpa using hu) (by simpa using hu2) fun h' z' TO' h1' h2' hT hsz hk=> ?_
  refine⟨_,rfl,wpAny_letOwnedTupleGo_zip (s:={s with heap:=h'}) z' fun h'' z'' sb=> ?_⟩;have hT2:h''.get? s.heap.objs.size=some {cls:= .type "tuple",data:= .seq #[u,u2]}:=(sb.2 _ (Nat.ne_of_gt hzl)).trans hT;have new:kh X.prog X.w (upd H s.heap.objs.size (.tup [x,y])) h'' s.heap.objs.size (.tup [x,y]):=
   ⟨by show 2<=sizeLine;decide,[u,u2],.cons ru (.cons ru2 .nil),⟨_,hT2,rfl,_,rfl⟩⟩
  have I1:Inv X pins σ (upd H s.heap.objs.size (.tup [x,y])) {s with heap:=h''}:=
   I.EN (t':=s.toks) (ch:=[z,TI,TO,i1,i2]) (fun c o hb q=>(sb.2 c (fun q'=>hb (by simp[q']))).trans (hk c o (fun q'=>hb (by simp[q'])) (fun q'=>hb (by simp[q'])) (fun q'=>hb (by simp[q'])) (fun q'=>hb (by simp[q'])) q)) hf (aj _) new
  refine⟨.ref s.heap.objs.size,_,I1,rfl,⟨_,x,y,rfl,I.iL.fresh (aj _),rfl,fun l hl=>by rw[I.tL hl hqx];exact hx,fun l hl=>by rw[I.tL hl hqy];exact hy⟩,⟨z'',?_,⟨u,u2,?_⟩,?_,?_⟩,fun c hcm=> ?_⟩
  ·exact(sb.2 _ D.TIz).trans (hk _ _ D.TIz D.TITO D.TIi1 D.TIi2 hTI)
  ·exact(sb.2 _ D.TOz).trans TO'
  ·exact h1'.at fun o q=>(sb.2 _ D.i1z).trans q
  ·exact h2'.at fun o q=>(sb.2 _ D.i2z).trans q
  ·have hlt:c<s.heap.objs.size:=by
    have e':c=z\/c=TI\/c=TO\/c=i1\/c=i2:=by simpa using hcm
    rcases e' with q |q |q |q |q
    ·rw[q];exact hzl
    ·rw[q];exact Heap.lt_size hTI
    ·rw[q];exact Heap.lt_size hTO
    ·rw[q];obtain⟨_,e1,_⟩:=h1;exact Heap.lt_size e1
    ·rw[q];obtain⟨_,e2,_⟩:=h2;exact Heap.lt_size e2
   rw[d4 (bx hlt)];exact(hf c hcm).1
 done:=by
  intro X hP hw hK hc i pins s σ H E I hf st hg;subst hP hw hK;obtain⟨hz,hTI,⟨x0,y0,hTO⟩,h1,h2⟩:=st;obtain⟨xs,ys,hqx,hqy,hend⟩:=hg;obtain⟨its,rv,p,_⟩:=I.list hqx;obtain⟨its2,rv2,p2,_⟩:=I.list hqy;have l1:=rv.length;have l2:=rv2.length;have he:its.toArray[i]? =none\/its2.toArray[i]? =none:=by
   rcases hend with q |q
   ·exact .inl (by simp;lia)
   ·exact .inr (by simp;lia)
  exact wpAny_pyNext_zip_end (I.ok.hd hc) D hz hTI hTO h1 h2 p.isList p2.isList he fun h' hk=>⟨rfl,I.QQ (t':=s.toks) (ch:=[z,TI,TO,i1,i2]) (fun c o hb q=>
   hk c o (fun q'=>hb (by simp[q'])) (fun q'=>hb (by simp[q'])) (fun q'=>hb (by simp[q'])) (fun q'=>hb (by simp[q'])) q) hf⟩
 self:=fun A i s Q E st h=>wpAny_pyIter_zip st.1 h
noncomputable def V3 (K:PySem.W.Frag) (ta:TA):TI:=fun σ H R=>ta σ H fun vs H1=>∃a b xs ys,vs=[.ref a,.ref b]/\kg K H1 a xs/\kg K H1 b ys/\R (V2 K a b) H1
theorem SU{X:Cx}{e e2:Expr}{ta:TA}{p pos tpos:Pos}{elts:List Expr}{kk:Nat}(hg:Gl X "zip")(hm:X.mg "zip"=none)(ha:PA X [e,e2] ta)
  (hs:starEach [e,e2] X.env=(false,eval e X.env)::starEach [e2] X.env:=by rfl) (hpl:(backTo pos (starEach [e2] X.env)).any (·.1)=false:=by rfl):
  PI X (.Tuple elts kk tpos) (.Call (.Name "zip" p) [e,e2] [] pos) (V3 X.K ta):=by
 intro pins s σ H R I h;refine Call_ (tK I hg hm MG (bw (ic (ha pos pins s σ H _ I h) fun us s1 ⟨vs,H1,I1,r1,q1⟩=> ?_) hs hpl));obtain⟨a,b,xs,ys,ex,hqx,hqy,q⟩:=q1;subst ex;cases r1 with
 |cons r rr=>
  cases rr with
  |cons r' rr=>
   cases rr
   cases r
   cases r'
   obtain⟨its,rv,p1,_⟩:=I1.list hqx;obtain⟨its2,rv2,p2,_⟩:=I1.list hqy;have la:a<s1.heap.objs.size:=p1.lt;have lb:b<s1.heap.objs.size:=p2.lt;refine call_zip_2 p1.isList p2.isList fun h' hz hTI hTO h1 h2 hsz hk=>wpAny_pyIter_zip hz ?_
   have I2:Inv X pins σ H1 {s1 with heap:=h'}:=I1.kept (t':=s1.toks) hk;refine⟨s1.heap.objs.size+4,[s1.heap.objs.size+4,s1.heap.objs.size+2,s1.heap.objs.size+3,s1.heap.objs.size,s1.heap.objs.size+1],_,_,H1,rfl,I2,Ox (PySem.W.ktu_apart s1.heap.objs.size a b la lb),⟨hz,hTI,⟨_,_,hTO⟩,h1,h2⟩,fun c hcm=> ?_,q⟩;have e':c=s1.heap.objs.size+4\/c=s1.heap.objs.size+2\/c=s1.heap.objs.size+3\/c=s1.heap.objs.size\/c=s1.heap.objs.size+1:=by simpa using hcm
   have hle:s1.heap.objs.size<=c:=by
    rcases e' with z |z |z |z |z
    ·rw[z];exact cD _ _
    ·rw[z];exact cD _ _
    ·rw[z];exact cD _ _
    ·rw[z];exact aj _
    ·rw[z];exact cD _ _
   exact I1.Mq hle (I1.iL.fresh hle)
end L2
section
namespace V4
open PySem PyProof.Rows
end V4
end
section
namespace TL
open PySem PySem.Builtin PySem.Builtin.Str PySem.StrLaws
end TL
end
namespace L2
open PySem PySem.Spec PyProof.Rows
end L2
namespace WZ
open PySem PySem.W PySem.Calls PyProof.Rows
end WZ
namespace L2
open PySem PySem.Spec PyProof.Rows
noncomputable def inClass (s:Stmt) (j:Nat):Stmt:=match s with
 | .ClassDef _ _ _ body _ _ _ _ _ _ _=>body.getD j (.Pass ⟨0,0,0,0⟩)
 |_=> .Pass ⟨0,0,0,0⟩
noncomputable def jX (s:Stmt):Arguments:=match s with
 | .FunctionDef _ a _ _ _ _ _ _ _ _=>a
 |_=>{posonlyargs:=[],args:=[],vararg:=none,kwonlyargs:=[],kw_defaults:=[],kwarg:=none,defaults:=[]}
noncomputable def iO (s:Stmt):List Stmt:=match s with
 | .FunctionDef _ _ b _ _ _ _ _ _ _=>b
 |_=>[]
noncomputable def dj (s:Stmt):Scope:=match s with
 | .FunctionDef _ _ _ _ _ _ sc _ _ _=>sc
 |_=>{kind:= .function,names:=[],isGenerator:=false,isCoroutine:=false}
noncomputable abbrev JQ:NP:=fun _ _ _ _ _ _=>False
noncomputable abbrev E0:XK:=fun _ _ _=>False
theorem Oy{X:Cx}:Passes JQ X E0:=fun _ _ _ _ _ _ _ h=>h.elim
structure SV(K:PySem.W.Frag)(x qual:Str)(st:Stmt)(f:Addr)(fd:FuncData):Prop where
 ex:∃(oc:Value) (od:Option Addr) (kV doc pm:Value) (an:Option Addr) (cdv ct:Value) (osl:Array (Option Value)),
  fd=PySem.W.fnOf x qual (jX st) (iO st) (dj st) .none kV doc pm an cdv ct/\K.lookup f=some ⟨oc,od,.func fd,osl⟩/\PySem.W.codeIn K cdv qual=true
 kp:PySem.W.keepIn K (.ref f)=true
section
variable {P:Program}{w:World}{K:PySem.W.Frag}{mg:Str->Option Value}{base:Heap}
theorem SV.ok{x qual:Str}{st:Stmt}{f:Addr}{fd:FuncData}{N ps:List Str}{k:Nat}{sp:Sp}(F:SV K x qual st f fd)(S:dE N ps (dj st))(len:∀vs H Q E,sp vs H Q E->vs.length=ps.length)
  (hbody:∀(cdv:Value) (A:Around) (outer:List Env) (s:Shared) (H:Hp) (vs:List V) (Q:VK) (E:XK),ko k (A.deeper (envOfC qual (dj st) s.heap.objs.size f cdv))->sp vs H Q E->
   ∃t,Jz (D6 JQ P w K mg base N qual (dj st) f cdv A outer s H E).RO (iO st) t/\t {nx:=fun _ H'=>Q .jS H',rt:=Q} (start N vs) H):qk P w K mg base JQ (k+1) f fd ps sp:=by
 obtain⟨oc,od,kV,doc,pm,an,cdv,ct,osl,rfl,lk,hcd⟩:=F.ex;refine UB lk hcd S len fun A outer s H vs Q E hr hsp=> ?_
 obtain⟨t,h,q⟩:=hbody cdv A outer s H vs Q E hr hsp;exact⟨t,h.RO,q⟩
theorem SV.binds{x qual:Str}{st:Stmt}{f:Addr}{fd:FuncData}{ps:List Str}(F:SV K x qual st f fd)
  (h:∀(kV doc pm:Value) (an:Option Addr) (cdv ct:Value) (us:List Value),us.length=ps.length->bindArgs (PySem.W.fnOf x qual (jX st) (iO st) (dj st) .none kV doc pm an cdv ct) ⟨us,[]⟩=pure (ps.zip us)):Binds K fd ps []:=by
 obtain⟨oc,od,kV,doc,pm,an,cdv,ct,osl,rfl,lk,hcd⟩:=F.ex;exact .all (h kV doc pm an cdv ct)
theorem Oz{x qual:Str}{st:Stmt}{f:Addr}{oc:Value}{od an:Option Addr}{osl:Array (Option Value)}{kV doc pm cdv ct:Value}(l:K.lookup f=some ⟨oc,od,.func (PySem.W.fnOf x qual (jX st) (iO st) (dj st) .none kV doc pm an cdv ct),osl⟩)
  (c:PySem.W.codeIn K cdv qual=true) (k:PySem.W.keepIn K (.ref f)=true):SV K x qual st f (PySem.W.fnOf x qual (jX st) (iO st) (dj st) .none kV doc pm an cdv ct):=⟨⟨oc,od,kV,doc,pm,an,cdv,ct,osl,rfl,l,c⟩,k⟩
end
section
variable {X:Cx}
theorem pv(i:Nat){x:Str}{pos:Pos}(hN:X.N[i]? =some x:=by rfl)(hv:T1 X.env.scope x:=by first |exact Or.inl rfl |exact Or.inr (Or.inl rfl) |exact Or.inr (Or.inr rfl))(hd:(x==("__debug__":Str))=false:=by decide)
  (hcd:(x==("__classdict__":Str))=false:=by decide):PE X (.Name x pos) (vL i):=Sq hN hv hd hcd
end
theorem fh{A B:Prop}(h:B):if false=true then A else B:=by
 rw[af aO];exact h
theorem e7{A B:Prop}(h:A):if true=true then A else B:=by
 rw[ah rfl];exact h
theorem SW{c A B:Prop} [Decidable c](h1:c->A)(h2:¬c->B):if c then A else B:=by
 by_cases h:c
 ·rw[ah h];exact h1 h
 ·rw[af h];exact h2 h
theorem RV{c A B:Prop} [Decidable c](hc:c)(h:B):if(!decide c)=true then A else B:=by
 rw[ak hc];exact fh h
noncomputable def dI (H H':Hp):Prop:=∀b o,H b=some o->H' b=some o
theorem dI.refl(H:Hp):dI H H:=fun _ _ h=>h
theorem dI.trans{H H1 H2:Hp}(a:dI H H1)(b:dI H1 H2):dI H H2:=fun c o h=>b c o (a c o h)
theorem dI.free{H H':Hp}(e:dI H H'){l:Addr}(h:H' l=Option.none):H l=Option.none:=by
 cases q:H l with
 |none=>rfl
 |some o=>
  rw[e l o q] at h;cases h
theorem dI.seq{K:PySem.W.Frag}{H H':Hp}{a:Addr}{xs:List V}(e:dI H H')(h:kg K H a xs):kg K H' a xs:=by
 rcases h with(h |⟨o,h⟩) |h
 ·exact .inl (.inl (e _ _ h))
 ·exact .inl (.inr ⟨o,e _ _ h⟩)
 ·exact .inr h
section
variable {κ:Type} [DecidableEq κ]
theorem Ln:∀{l:List κ} {k:κ},l.Nodup->¬k∈l->(l ++ [k]).Nodup
 |[],k,_,_=>by simp
 |a::r,k,h,hk=>by
  obtain⟨h1,h2⟩:=bW.mp h;show(a::(r ++ [k])).Nodup;refine bW.mpr ⟨fun m=> ?_,Ln h2 fun m=>hk (aJ.mpr (Or.inr m))⟩;rcases aN.mp m with q |q
  ·exact h1 q
  ·exact hk (aJ.mpr (Or.inl (aw.mp q).symm))
end
theorem UQ{α:Type}{l:List α}(hN:l.Nodup){i j:Nat}{x:α}(a:l[i]? =some x)(b:l[j]? =some x):i=j:=by
 obtain⟨h1,e1⟩:=bh.mp a;obtain⟨h2,e2⟩:=bh.mp b;exact(List.getElem_inj hN).mp (e1.trans e2.symm)
theorem dI.made{H H1:Hp}{x dx C:Addr}(nx:H x=Option.none)(nd:H dx=Option.none)(k:∀b o,(upd (upd H dx (.own x)) x (.ins C dx [])) b=some o->b≠x->H1 b=some o):dI H H1:=fun b o e=>
 k b o (by rw[d4 (fJ e nx),d4 (fJ e nd)];exact e) (fJ e nx)
end L2
namespace HK
open PySem PySem.Spec PyProof.Rows L2
structure eV(P:Program)(w:World)(K:PySem.W.Frag)(mg:Str->Option Value)(base:Heap)(x:Str)(ps:List Str)(k:Nat)(sp:Sp):Prop where
 ex:∃(f:Addr) (fd:FuncData),mg x=some (.ref f)/\qk P w K mg base JQ k f fd ps sp/\PySem.W.keepIn K (.ref f)=true/\Binds K fd ps []
structure iI(K:PySem.W.Frag)(mg:Str->Option Value)(x:Str)(st:Stmt)(ps:List Str):Prop where
 ex:∃(f:Addr) (fd:FuncData),mg x=some (.ref f)/\SV K x x st f fd/\Binds K fd ps []
section
variable {P:Program}{w:World}{K:PySem.W.Frag}{mg:Str->Option Value}{base:Heap}
theorem eV.mono{x:Str}{ps:List Str}{j k:Nat}{sp:Sp}(c:eV P w K mg base x ps j sp)(h:j<=k):eV P w K mg base x ps k sp:=
 let ⟨f,fd,a,b,d,e⟩:=c.ex
 ⟨f,fd,a,b.mono h,d,e⟩
noncomputable def W0 (P:Program) (w:World) (K:PySem.W.Frag) (mg:Str->Option Value) (base:Heap) (N ps:List Str) (x:Str) (st:Stmt) (k:Nat) (sp:Sp):Prop:=
 ∀(f:Addr) (cdv:Value) (A:Around) (outer:List Env) (s:Shared) (H:Hp) (vs:List V) (Q:VK) (E:XK),ko k (A.deeper (envOfC x (dj st) s.heap.objs.size f cdv))->sp vs H Q E->
   vs.length=ps.length/\∃t,Jz (D6 JQ P w K mg base N x (dj st) f cdv A outer s H E).RO (iO st) t/\t {nx:=fun _ H'=>Q .jS H',rt:=Q} (start N vs) H
theorem RW{k:Nat}(h:k<=99)(e:Env):ko k (Around.deeper {} e):=⟨rfl,by show 0+1+3*k+5<1000;lia,by show 1+3+16*k+200<9900;lia⟩
theorem iI.iX{x:Str}{st:Stmt}{N ps:List Str}{k:Nat}{sp:Sp}(G:iI K mg x st ps)(S:dE N ps (dj st))(h:W0 P w K mg base N ps x st k sp)(hk:k<=99:=by decide):eV P w K mg base x ps (k+1) sp:=by
 obtain⟨f,fd,hm,F,hb⟩:=G.ex;exact⟨f,fd,hm,F.ok S (fun vs H Q E q=>(h 0 .none {} [] {} H vs Q E (RW hk _) q).1) (fun cdv A outer s H vs Q E hr hsp=>(h f cdv A outer s H vs Q E hr hsp).2),F.kp,hb⟩
end
section
variable {X:Cx}{k:Nat}{x:Str}{ps:List Str}{sp:Sp}{e:Expr}{es:List Expr}{t:TA}{p pos:Pos}
theorem dz{j:Nat}(c:eV X.prog X.w X.K X.mg X.base x ps k sp)(hr:ko j X.A)(ha:PA X (e::es) t)(hk:k<=j:=by decide)(hg:Gl X x:=by rfl)
  (hdb:(x==("__debug__":Str))=false:=by decide) (he:starEach (e::es) X.env=(false,eval e X.env)::starEach es X.env:=by rfl) (hpl:(backTo pos (starEach es X.env)).any (·.1)=false:=by rfl):
  PE X (.Call (.Name x p) (e::es) [] pos) (Lf sp [] E0 t):=by
 obtain⟨f,fd,hm,F,kp,hb⟩:=c.ex;exact QG F (hr.mono hk) hg hm kp hb .nil Oy ha hdb he hpl
theorem QR{fe:Expr}{tf:TE}(hf:PE X fe tf)(hev:eval (.Call fe (e::es) [] pos) X.env=(do let f<-eval fe X.env;callWith pos f [] (backTo pos (starEach (e::es) X.env)) (backToKw pos (keywordEach [] X.env))))
  (ha:PA X (e::es) t) (he:starEach (e::es) X.env=(false,eval e X.env)::starEach es X.env:=by rfl) (hpl:(backTo pos (starEach es X.env)).any (·.1)=false:=by rfl):
  PE X (.Call fe (e::es) [] pos) (fun σ H Q=>tf σ H fun v H1=>∃f fd ps k sp,v= .ref f/\qk X.prog X.w X.K X.mg X.base JQ k f fd ps sp/\ko k X.A/\PySem.W.keepIn X.K (.ref f)=true/\Binds X.K fd ps []/\t σ H1 fun vs H2=>sp (vs ++ []) H2 Q E0):=by
 intro pins s σ H Q I h;rw[hev];refine wpAny_bind (ic (hf pins s σ H _ I h) fun u s1 ⟨v,H1,I1,rv,f,fd,ps,k,sp,e1,F,hr,hk,hb,q⟩=> ?_);subst e1;cases rv
 refine PySem.W.callWith_K (h₀:=X.base) I.ok.mod.T9 hk (ic (ha pos pins s1 σ H1 _ I1 q) fun us s2 ⟨vs,H2,I2,r,q2⟩=>⟨I2.NO,?_⟩) he hpl;exact Ol F hr hb .nil Oy I2 r q2
end
noncomputable def Sz (b:Nat) (z:Int):Prop:=z.natAbs<2^b
theorem Sz.bits{b:Nat}{z:Int}(h:Sz b z):Builtin.Int.intBits z<=b:=by
 unfold Builtin.Int.intBits;split
 ·exact aM _
 ·rename_i hz;have h0:z.natAbs≠0:=fun q=>hz (by simpa using q)
  have:z.natAbs.log2<b:=(Nat.log2_lt h0).mpr h;lia
theorem Sz.mul{a b:Int}{m n:Nat}(ha:Sz m a)(hb:Sz n b)(h:m+n<=134217728):IntMulOk a b:=IntMulOk.of_le ha.bits hb.bits h
section
variable {X:Cx}
theorem ik:vO X (binaryOp .Mult) (rI IntMulOk fun i j=> .int (i*j)):=VQ fun _ _ _ _ _ _ _ hc q=>mul_int q hc
theorem B4:vO X (binaryOp .FloorDiv) (rI (fun _ j=>j≠0/\j.natAbs.log2<9000) fun i j=> .int (i.fdiv j)):=VQ fun _ _ _ _ _ _ _ hc q=>floordiv_int hc.1 q (.inl (PyProof.noPylong_of_log2 hc.2))
structure JR(X:Cx):Prop where
 no:X.base.NoSeer
 tree:X.prog.given.tree=none
 Sn:∃env l,X.stack=env::l/\env.scope.isGenerator=false/\env.scope.isCoroutine=false/\env.builtins=builtinsNs/\env.globals=mainGlobals
 room:X.A.depth+Builtin.pylongFrames<recursionLimit
theorem JR.DX{s:Shared}{H:Hp}{scope:Scope}{ce:Env}{fp:List Addr}(S:JR X):JR (X.DX s H scope ce fp):=⟨S.no,S.tree,S.Sn,S.room⟩
theorem B5(S:JR X):vO X (binaryOp .FloorDiv) (rI (fun _ j=>j≠0) fun i j=> .int (i.fdiv j)):=by
 intro pins s σ H x y v u Q I rx ry h;obtain⟨i,j,rfl,rfl,hc,q⟩:=h;obtain⟨t,rfl⟩:=rx;obtain⟨t',rfl⟩:=ry;obtain⟨env,l,e1,e2,e3,e4,e5⟩:=S.Sn;exact floordiv_int hc ⟨.int (i.fdiv j),H,I.tok _,⟨_,rfl⟩,q⟩ (.inr (PylongRoom.of I.nolimit S.room (SeerAt.of (S.no.keeps I.bk) S.tree (I.ok.frames.trans (by rw[e1])) e2 e3 e4 e5)))
end
section
variable {X:Cx}
theorem gc{x:Str}{z:Int}{pos:Pos}(h:∃t,X.mg x=some (.int z t))(hg:Gl X x:=by rfl)(hd:(x==("__debug__":Str))=false:=by decide):PE X (.Name x pos) (tC (.int z)):=
 let ⟨t,e⟩:=h
 K8 hg e ⟨t,rfl⟩ hd
theorem vQ:Uq X (fun o i H Q=>∃p xs k j v,o= .ref p/\i= .int k/\kg X.K H p xs/\k=((j:Nat):Int)/\xs[j]? =some v/\Q v H):=by
 intro pins s σ H o i ov iv Q I rx ry h;obtain⟨p,xs,k,j,z,rfl,rfl,hq,hk,he,q⟩:=h;cases rx
 obtain⟨t,rfl⟩:=ry;obtain⟨its,r,pl,hz⟩:=I.list hq;obtain⟨w,ew,rw'⟩:=r.get he;have hl:=r.length;have hn:=yT;have hj:j<its.length:=by
  have:=bh.mp ew;exact this.1
 exact getItem_listL pl.isList (by lia) (by lia) (by rw[hk];simpa using ew) ⟨z,H,I,rw',q⟩
noncomputable def V5 (C:Int->Int->Prop) (f:Int->Int->Int):Ss:=fun x y H Q=>∃i j,x= .int i/\y= .int j/\C i j/\Q (.int (f i j)) H
theorem QS:Ul X .Mult (V5 IntMulOk fun i j=>i*j):=by
 intro pins s σ H x y v u Q I r1 r2 h;obtain⟨i,j,e1,e2,hc,q⟩:=h;subst e1;subst e2;obtain⟨t,rfl⟩:=r1;obtain⟨t',rfl⟩:=r2;exact imul_int ⟨.int _,H,I.tok _,⟨_,rfl⟩,q⟩ hc
end
section
variable {X:Cx}(K:PySem.W.Frag)
theorem jH(h:X.K=K:=by rfl):UC X (SE K):=by subst h;exact QK
theorem Qu(h:X.K=K:=by rfl):UC X (UD K):=by subst h;exact SF
theorem UR(h:X.K=K:=by rfl):VS X (SH K):=by subst h;exact QL
theorem JS(h:X.K=K:=by rfl):vO X (compareOp .In) (Vu K false):=by subst h;exact MC
theorem MH(h:X.K=K:=by rfl):vO X (compareOp .NotIn) (Vu K true):=by subst h;exact F5
theorem eJ(h:X.K=K:=by rfl):ny X (.builtin "len") (fun xs H Q=>∃p ys,xs=[.ref p]/\(kg K H p ys\/BX K H p ys)/\Q (.int ys.length) H):=by subst h;exact F6
theorem vR(h:X.K=K:=by rfl):ny X (.type "list") (fun xs H Q=>∃p ys,xs=[.ref p]/\(kg K H p ys\/BX K H p ys)/\∀l,H l=none->Q (.ref l) (upd H l (.lst ys))):=by subst h;exact F7
theorem dt{e:Expr}{f:Str}{pos:Pos}{ta:TE}(he:PE X e ta)(hb:attributeBase e f X.env (eval e X.env)=eval e X.env)(h:X.K=K:=by rfl):PE X (.Attribute e f pos) (Mx K ta f):=by subst h;exact SA he hb
theorem fc{a:Expr}{ta:TE}(ha:PE X a ta)(he:∀whole,isTrue a X.env whole=(do let v<-whole;standAt a.pos;holding [v] (truthy v)))(h:X.K=K:=by rfl):
  PT X a (fun σ H Q=>ta σ H fun x H'=>∃k,Og K x H' k/\Q k H'):=by subst h;exact Oi ha he
theorem kq{pos:Pos}{es:List Expr}{k:Nat}{t:RR}{n:Nat}(hc:X.calm=true)(h:Uk X es t)
  (hn:(assignEach es X.env).length=n:=by rfl) (hst:(assignEach es X.env).findIdx? (·.1)=none:=by rfl) (hK:X.K=K:=by rfl):PG X (.Tuple es k pos) (Uo K n t):=by subst hK;exact Su hc h hn hst
theorem Lo(hc:X.calm=true)(h:X.K=K:=by rfl):ny X (.builtin "any") (UK K):=by subst h;exact SO hc
theorem Ga(hc:X.calm=true)(h:X.K=K:=by rfl):ny X (.builtin "all") (UL K):=by subst h;exact SQ hc
theorem QT(hc:X.calm=true)(h:X.K=K:=by rfl):ny X (.builtin "sum") (UI K):=by subst h;exact SM hc
end
theorem d7:bootBuiltins "len"=some (.builtin "len"):=by decide +kernel
theorem tW:bootBuiltins "list"=some (.type "list"):=by decide +kernel
theorem vS:bootBuiltins "max"=some (.builtin "max"):=by decide +kernel
theorem JT:bootBuiltins "sum"=some (.builtin "sum"):=by decide +kernel
theorem vT:bootBuiltins "all"=some (.builtin "all"):=by decide +kernel
theorem B6:bootBuiltins "any"=some (.builtin "any"):=by decide +kernel
theorem vU:bootBuiltins "abs"=some (.builtin "abs"):=by decide +kernel
structure Yl(J:It)(H1:Hp)(n:Nat)(R:Nat->Hp->V->Prop):Prop where
 go:∀i H,dI H1 H->i<n->J.go i H
 yl:∀i H x H',dI H1 H->i<n->J.T2 i H x H'->dI H H'/\R i H' x
 st:∀H,dI H1 H->J.stop n H
theorem du{H:Hp}{p:Addr}{o:HO}(h:H p=none):dI H (upd H p o):=fun b u e=>by rw[d4 (fJ e h)];exact e
theorem _root_.L2.dI.over{H H':Hp}{p:Addr}{o:HO}(s:dI H H')(h:H p=none):dI H (upd H' p o):=fun b u e=>by rw[d4 (fJ e h)];exact s b u e
theorem fw{K:PySem.W.Frag}{a:Addr}{H1:Hp}{vs:List V}(h:kg K H1 a vs):Yl (VM K a) H1 vs.length (fun i _ x=>vs[i]? =some x) where
 go:=fun i H s hi=>⟨vs,vs[i],s.seq h,by simp[hi]⟩
 yl:=fun i H x H' s hi ⟨e,y⟩=>⟨by rw[e];exact .refl _,y vs (s.seq h)⟩
 st:=fun H s=>⟨vs,s.seq h,aj _⟩
theorem mN(H1:Hp)(lo:Int)(n:Nat):Yl (Ur lo n) H1 n (fun i _ x=>x= .int (lo+i)) where
 go:=fun i H s hi=>hi
 yl:=fun i H x H' s hi ⟨e,y⟩=>⟨by rw[e];exact .refl _,y⟩
 st:=fun H s=>aj _
theorem ER(H1:Hp)(lo c:Int)(n:Nat):Yl (VY lo c n) H1 n (fun i _ x=>x= .int (lo+(i:Nat)*c)) where
 go:=fun i H s hi=>hi
 yl:=fun i H x H' s hi ⟨e,y⟩=>⟨by rw[e];exact .refl _,y⟩
 st:=fun H s=>aj _
theorem SX{K:PySem.W.Frag}{a:Addr}{H1:Hp}{vs:List V}(h:kg K H1 a vs):Yl (VZ K a vs.length) H1 vs.length (fun i _ x=>vs[vs.length - 1 - i]? =some x) where
 go:=fun i H s hi=>⟨hi,vs,vs[vs.length - 1 - i]'(by lia),s.seq h,by rw[aa (by lia)]⟩
 yl:=fun i H x H' s hi ⟨e,y⟩=>⟨by rw[e];exact .refl _,y vs (s.seq h)⟩
 st:=fun H s=>aj _
theorem rD{K:PySem.W.Frag}{a:Addr}{H1:Hp}{vs:List V}(h:kg K H1 a vs):Yl (V1 K a) H1 vs.length (fun i H x=>∃T y,x= .ref T/\H T=some (.tup [.int (i:Nat),y])/\vs[i]? =some y) where
 go:=fun i H s hi=>⟨vs,vs[i],s.seq h,by simp[hi]⟩
 yl:=fun i H x H' s hi ⟨T,y,e,n,e2,q⟩=>⟨by rw[e2];exact du n,T,y,e,by rw[e2];exact di,q vs (s.seq h)⟩
 st:=fun H s=>⟨vs,s.seq h,aj _⟩
theorem SY{K:PySem.W.Frag}{a b:Addr}{H1:Hp}{vs us:List V}(h:kg K H1 a vs)(h':kg K H1 b us)(hl:vs.length=us.length):Yl (V2 K a b) H1 vs.length (fun i H x=>∃T y z,x= .ref T/\H T=some (.tup [y,z])/\vs[i]? =some y/\us[i]? =some z) where
 go:=fun i H s hi=>⟨vs,us,vs[i],us[i]'(by lia),s.seq h,s.seq h',by simp[hi],by rw[aa (by lia)]⟩
 yl:=fun i H x H' s hi ⟨T,y,z,e,n,e2,q,q2⟩=>⟨by rw[e2];exact du n,T,y,z,e,by rw[e2];exact di,q vs (s.seq h),q2 us (s.seq h')⟩
 st:=fun H s=>⟨vs,us,s.seq h,s.seq h',.inl (aj _)⟩
theorem jt{J:It}{H1:Hp}{n:Nat}{R:Nat->Hp->V->Prop}(Y:Yl J H1 n R){g:TG}{tb:TS}{D:Ends}{σ:L2.St}{Hs:Hp}(Pv:Nat->L2.St->Hp->Prop)(h0:Pv 0 σ Hs)(sm:∀i σ H,Pv i σ H->dI H1 H)
  (hs:∀i x σ H H',i<n->Pv i σ H->dI H1 H'->dI H H'->R i H' x->g x σ H' fun σ2 H2=>tb {D with nx:=Pv (i+1),ct:=Pv (i+1),bk:=D.nx} σ2 H2) (hd:∀σ H,Pv n σ H->D.nx σ H):
  ∃W:Nat->Nat->L2.St->Hp->Prop,(∃m,W 0 m σ Hs)/\∀i m σ H,W i m σ H->
   (J.stop i H/\D.nx σ H)\/(J.go i H/\∃N:L2.St->Hp->Prop,(∀σ' H',N σ' H'->∃m',m' <m/\W (i+1) m' σ' H')/\∀x H',J.T2 i H x H'->g x σ H' fun σ2 H2=>tb {D with nx:=N,ct:=N,bk:=D.nx} σ2 H2):=by
 refine⟨fun i m σ H=>m=n - i/\i<=n/\Pv i σ H,⟨n,by simp,aM _,h0⟩,?_⟩;rintro i m σ H ⟨rfl,hi,p⟩;have s:=sm i σ H p;by_cases hlt:i<n
 ·refine .inr ⟨Y.go i H s hlt,Pv (i+1),fun σ' H' p'=>⟨n - (i+1),by lia,rfl,hlt,p'⟩,fun x H' y=> ?_⟩;obtain⟨s2,r⟩:=Y.yl i H x H' s hlt y;exact hs i x σ H H' hlt p (s.trans s2) s2 r
 ·have e:i=n:=by lia
  subst e;exact .inl ⟨Y.st H s,hd σ H p⟩
noncomputable def OA (H1:Hp) (D:Addr) (P:Hp->List V->Prop) (H:Hp):Prop:=dI H1 H/\∃acc,H D=some (.lst acc)/\P H acc
theorem gh{H1 H4:Hp}{D:Addr}{P:Hp->List V->Prop}{acc:List V}{y:V}(hD:H1 D=none)(s:dI H1 H4)(h:H4 D=some (.lst acc))(hl:acc.length<sizeLine)(p:P (upd H4 D (.lst (acc ++ [y]))) (acc ++ [y])):
  ∃acc,H4 D=some (.lst acc)/\acc.length<sizeLine/\OA H1 D P (upd H4 D (.lst (acc ++ [y]))):=⟨acc,h,hl,s.over hD,_,di,p⟩
theorem mX{J:It}{H1:Hp}{n:Nat}{R:Nat->Hp->V->Prop}(Y:Yl J H1 n R){g:TG}{tt:TT}{te:TE}{vs:List Nat}{σ:L2.St}{D:Addr}{Qd:Hp->Prop}(hD:H1 D=none)(Pv:Nat->Hp->List V->Prop)(h0:Pv 0 (upd H1 D (.lst [])) [])
  (hs:∀i x H H' acc,i<n->dI H1 H->H D=some (.lst acc)->Pv i H acc->dI H1 H'->dI H H'->H' D=some (.lst acc)->R i H' x->g x (wipe σ vs) H' fun σ2 H2=>wipe σ2 vs=wipe σ vs/\tt σ2 H2 fun b H3=>
   if b=true then te σ2 H3 fun y H4=>∃acc,H4 D=some (.lst acc)/\acc.length<sizeLine/\OA H1 D (Pv (i+1)) (upd H4 D (.lst (acc ++ [y]))) else OA H1 D (Pv (i+1)) H3)
  (hd:∀H acc,dI H1 H->H D=some (.lst acc)->Pv n H acc->Qd H):
  ∃W:Nat->Nat->Hp->Prop,(∃m,W 0 m (upd H1 D (.lst [])))/\∀i m H,W i m H->
   (J.stop i H/\Qd H)\/(J.go i H/\∃Nx:Hp->Prop,(∀H',Nx H'->∃m',m' <m/\W (i+1) m' H')/\∀x H',J.T2 i H x H'->g x (wipe σ vs) H' fun σ2 H2=>wipe σ2 vs=wipe σ vs/\tt σ2 H2 fun b H3=>
    if b=true then te σ2 H3 fun y H4=>∃acc,H4 D=some (.lst acc)/\acc.length<sizeLine/\Nx (upd H4 D (.lst (acc ++ [y]))) else Nx H3):=by
 refine⟨fun i m H=>m=n - i/\i<=n/\OA H1 D (Pv i) H,⟨n,by simp,aM _,du hD,[],di,h0⟩,?_⟩;rintro i m H ⟨rfl,hi,s,acc,ha,p⟩;by_cases hlt:i<n
 ·refine .inr ⟨Y.go i H s hlt,OA H1 D (Pv (i+1)),fun H' q=>⟨n - (i+1),by lia,rfl,hlt,q⟩,fun x H' y=> ?_⟩;obtain⟨s2,r⟩:=Y.yl i H x H' s hlt y;exact hs i x H H' acc hlt s ha p (s.trans s2) s2 (s2 _ _ ha) r
 ·have e:i=n:=by lia
  subst e;exact .inl ⟨Y.st H s,hd H acc s ha p⟩
theorem dQ{α:Type}{xs:List α}{z:Int}{j:Nat}{v:α}(e:z=(j:Int))(h:xs[j]? =some v):MA xs z=some v:=by rw[e];exact QI h
theorem rE{n:Nat}{z:Int}{j:Nat}(e:z=(j:Int))(h:j<n):Oq n z=some j:=by
 unfold Oq;rw[e,ah (b6 j),ah (by lia)];simp
theorem dy{α:Type}{l:List α}{d:α}{j:Nat}(h:j<l.length):l[j]? =some (l.getD j d):=by
 rw[gDe,aa h];rfl
theorem ju{l:List Int}{j:Nat}(h:j<l.length):(l.map V.int)[j]? =some (V.int (l.getD j 0)):=by
 rw[aC,dy (d:=0) h];rfl
theorem dq{n:Nat}(h:n<=16777216):n<=sizeLine:=by rw[sizeLine_eq];exact h
theorem dH{n:Nat}(h:n<16777216):n<sizeLine:=by rw[sizeLine_eq];exact h
theorem dX{K:PySem.W.Frag}{H:Hp}{x C dx:Addr}{fs:List (Str×V)}{f:Str}{v:V}{Q:V->Prop}(h:H x=some (.ins C dx fs))(c:QE K C)(n:n8 K C f)(l:fs.lookup f=some v)(k:Q v):∃a C dx fs v',V.ref x= .ref a/\H a=some (.ins C dx fs)/\QE K C/\n8 K C f/\fs.lookup f=some v'/\Q v':=⟨x,C,dx,fs,v,rfl,h,c,n,l,k⟩
theorem lD{S:Addr->List V->Prop}{p:Addr}{xs:List V}{i:Int}{v:V}{Q:V->Prop}(h:S p xs)(e:MA xs i=some v)(k:Q v):∃p' xs' i' v',V.ref p= .ref p'/\V.int i= .int i'/\S p' xs'/\MA xs' i'=some v'/\Q v':=⟨p,xs,i,v,rfl,rfl,h,e,k⟩
theorem ph{i j:Int}{Q:Int->Int->Prop}(k:Q i j):∃i' j',V.int i= .int i'/\V.int j= .int j'/\Q i' j':=⟨i,j,rfl,rfl,k⟩
section
variable {X:Cx}{i:Nat}{x:Str}{e:Expr}{te:TE}{pos pos':Pos}
theorem dW(hN:X.N.Nodup)(he:PE X e te)(hi:X.N[i]? =some x:=by rfl)(hx:Loc X.env.scope x:=by first |exact Or.inl rfl |exact Or.inr rfl)(hs:swapsWith e (some (.Name x pos')) pos.line X.env=pure false:=by rfl)(hf:X.fn x=true\/X.env.scope.names.lookup x=some .local:=by first |exact .inl rfl |exact .inr rfl |assumption):
  PS X (.Assign [.Name x pos'] e pos) (QB te (EH i)):=Sw hN hi hx he hs hf
theorem eZ(hN:X.N.Nodup)(hi:X.N[i]? =some x:=by rfl)(hx:Loc X.env.scope x:=by exact Or.inl rfl)(hf:X.fn x=true\/X.env.scope.names.lookup x=some .local:=by first |exact .inl rfl |exact .inr rfl |assumption):PG X (.Name x pos) (EH i):=QA hN hi hx hf
end
theorem sco{N P:List Str}{sc:Scope}(a:sc.kind= .function:=by rfl)(b:sc.isCoroutine=false:=by rfl)(c:sc.isGenerator=false:=by rfl)(e:N.take P.length=P:=by rfl)(h:N.Nodup/\(∀x∈P,sc.names.lookup x=some .local\/sc.names.lookup x=some .cell)/\∀y∈sc.names,y.2≠.free:=by decide +kernel):dE N P sc:=⟨a,b,c,h.1,e,h.2.1,h.2.2⟩
end HK
namespace de
open Lean.Grind
section det
variable {R:Type} [CommRing R]
noncomputable def eC:Nat->(Nat->R)->R
 |0,_=>0
 |n+1,f=>eC n f+f n
theorem eI:∀(n:Nat) {f g:Nat->R},(∀i,i<n->f i=g i)->eC n f=eC n g
 |0,_,_,_=>rfl
 |n+1,f,g,h=>by
  show eC n f+f n=eC n g+g n;rw[eI n (fun i hi=>h i (by lia)),h n (by lia)]
theorem xi:∀(n:Nat) (f g:Nat->R),eC n (fun i=>f i+g i)=eC n f+eC n g
 |0,_,_=>by show(0:R)=0+0;grind
 |n+1,f,g=>by
  show eC n (fun i=>f i+g i)+(f n+g n)=eC n f+f n+(eC n g+g n);rw[xi n f g];grind
theorem fW:∀(n:Nat) (c:R) (f:Nat->R),eC n (fun i=>c*f i)=c*eC n f
 |0,c,_=>by show(0:R)=c*0;grind
 |n+1,c,f=>by
  show eC n (fun i=>c*f i)+c*f n=c*(eC n f+f n);rw[fW n c f];grind
theorem u0:∀(n:Nat) {f:Nat->R},(∀i,i<n->f i=0)->eC n f=0
 |0,_,_=>rfl
 |n+1,f,h=>by
  show eC n f+f n=0;rw[u0 n (fun i hi=>h i (by lia)),h n (by lia)];grind
theorem mO:∀(n:Nat) {f:Nat->R} (k:Nat),k<n->(∀i,i<n->i≠k->f i=0)->eC n f=f k
 |0,_,k,hk,_=>by lia
 |n+1,f,k,hk,h=>by
  show eC n f+f n=f k;by_cases e:k=n
  ·subst e;rw[u0 k (fun i hi=>h i (by lia) (by lia))];grind
  ·rw[mO n k (by lia) (fun i hi=>h i (by lia)),h n (by lia) (by lia)];grind
theorem B7:∀(n:Nat) {f:Nat->R} (k l:Nat),k<l->l<n->(∀i,i<n->i≠k->i≠l->f i=0)->eC n f=f k+f l
 |0,_,k,l,hk,hl,_=>by lia
 |n+1,f,k,l,hk,hl,h=>by
  show eC n f+f n=f k+f l;by_cases e:l=n
  ·subst e;rw[mO l k (by lia) (fun i hi hik=>h i (by lia) hik (by lia))]
  ·rw[B7 n k l hk (by lia) (fun i hi=>h i (by lia)),h n (by lia) (by lia) (by lia)];grind
theorem y6:∀(n m:Nat) (f:Nat->Nat->R),eC n (fun i=>eC m (fun j=>f i j))=eC m (fun j=>eC n (fun i=>f i j))
 |0,m,f=>by
  show(0:R)=_;exact(u0 m fun _ _=>rfl).symm
 |n+1,m,f=>by
  show eC n (fun i=>eC m (fun j=>f i j))+eC m (fun j=>f n j)=eC m (fun j=>eC n (fun i=>f i j)+f n j);rw[y6 n m f,xi]
theorem ES:∀(n:Nat) (f:Nat->R),eC (n+1) f=f 0+eC n (fun i=>f (i+1))
 |0,f=>by show(0:R)+f 0=f 0+0;grind
 |n+1,f=>by
  show eC (n+1) f+f (n+1)=f 0+(eC n (fun i=>f (i+1))+f (n+1));rw[ES n f];grind
noncomputable def sg (i:Nat):R:=if i % 2=0 then 1 else -1
theorem Gb:(sg 0:R)=1:=by unfold sg;exact ah rfl
theorem Lp(i:Nat):(sg (i+1):R)= - sg i:=by
 unfold sg;by_cases h:i % 2=0
 ·rw[ah h,af (by lia)]
 ·rw[af h,ah (by lia)];grind
noncomputable def skip (i a:Nat):Nat:=if a<i then a else a+1
noncomputable def del (i:Nat) (A:Nat->Nat->R):Nat->Nat->R:=fun a b=>A (skip i a) (b+1)
noncomputable def det:Nat->(Nat->Nat->R)->R
 |0,_=>1
 |n+1,A=>eC (n+1) fun i=>sg i*(A i 0*det n (del i A))
theorem gr(n:Nat)(A:Nat->Nat->R):det (n+1) A=eC (n+1) fun i=>sg i*(A i 0*det n (del i A)):=rfl
theorem xk{i a n:Nat}(h:a<n):skip i a<n+1:=by unfold skip;split <;>lia
theorem eK:∀(n:Nat) {A B:Nat->Nat->R},(∀i j,i<n->j<n->A i j=B i j)->det n A=det n B
 |0,_,_,_=>rfl
 |n+1,A,B,h=>by
  rw[gr,gr];refine eI _ fun i hi=> ?_
  rw[h i 0 hi (by lia),eK n (A:=del i A) (B:=del i B) fun a b ha hb=>h _ _ (xk ha) (by lia)]
noncomputable def eF (A:Nat->Nat->R) (r:Nat) (v:Nat->R):Nat->Nat->R:=fun i j=>if i=r then v j else A i j
noncomputable def fg (A:Nat->Nat->R) (c:Nat) (v:Nat->R):Nat->Nat->R:=fun i j=>if j=c then v i else A i j
theorem ft{A:Nat->Nat->R}{r:Nat}{v:Nat->R}{j:Nat}:eF A r v r j=v j:=ah rfl
theorem fE{A:Nat->Nat->R}{r i:Nat}{v:Nat->R}{j:Nat}(h:i≠r):eF A r v i j=A i j:=af h
theorem g8{A:Nat->Nat->R}{c:Nat}{v:Nat->R}{i:Nat}:fg A c v i c=v i:=ah rfl
theorem j9{A:Nat->Nat->R}{c i:Nat}{v:Nat->R}{j:Nat}(h:j≠c):fg A c v i j=A i j:=af h
noncomputable def place (i r:Nat):Nat:=if r<i then r else r - 1
theorem JU{i r:Nat}(h:r≠i):skip i (place i r)=r:=by
 unfold skip place
 repeat' split
 all_goals lia
theorem JV(i a:Nat):place i (skip i a)=a:=by
 unfold skip place
 repeat' split
 all_goals lia
theorem Lq(i a:Nat):skip i a≠i:=by unfold skip;split <;>lia
theorem place_lt{i r n:Nat}(hr:r<n+1)(hi:i<n+1)(h:r≠i):place i r<n:=by unfold place;split <;>lia
theorem mY(A:Nat->Nat->R)(r:Nat)(v:Nat->R):del r (eF A r v)=del r A:=by
 funext a b;exact fE (Lq r a)
theorem vV(A:Nat->Nat->R){i r:Nat}(h:r≠i)(v:Nat->R):del i (eF A r v)=eF (del i A) (place i r) (fun b=>v (b+1)):=by
 funext a b;show(if skip i a=r then v (b+1) else A (skip i a) (b+1))=if a=place i r then v (b+1) else A (skip i a) (b+1)
 by_cases e:a=place i r
 ·rw[ah e,ah (by rw[e];exact JU h)]
 ·rw[af e,af (fun q=>e (by rw[<-q,JV]))]
theorem gu:∀(n:Nat) (A:Nat->Nat->R) (r:Nat) (c:R) (u v:Nat->R),r<n->det n (eF A r fun j=>u j+c*v j)=det n (eF A r u)+c*det n (eF A r v)
 |0,_,_,_,_,_,h=>by lia
 |n+1,A,r,c,u,v,h=>by
  rw[gr,gr,gr,<-fW,<-xi];refine eI _ fun i hi=> ?_
  by_cases e:r=i
  ·subst e;rw[mY,mY,mY,ft,ft,ft];grind
  ·rw[vV A e,vV A e,vV A e,fE (bL e),fE (bL e),fE (bL e),gu n _ _ _ _ _ (place_lt h hi e)];grind
theorem qm(n:Nat)(A:Nat->Nat->R)(r:Nat)(c:R)(v:Nat->R)(h:r<n):det n (eF A r fun j=>c*v j)=c*det n (eF A r v):=by
 have e0:det n (eF A r fun _=>(0:R))=0:=by
  have e:=gu n A r (-1) (fun _=>(0:R)) (fun _=>0) h;have e2:(fun _:Nat=>(0:R)+(-1)*0)=fun _=>0:=by funext j;grind
  rw[e2] at e;grind
 have e:=gu n A r c (fun _=>(0:R)) v h;have e2:(fun j:Nat=>(0:R)+c*v j)=fun j=>c*v j:=by funext j;grind
 rw[e2,e0] at e;grind
theorem rF(n:Nat)(A:Nat->Nat->R)(r:Nat)(h:r<n)(hz:∀j,j<n->A r j=0):det n A=0:=by
 have e:det n A=det n (eF A r fun j=>(0:R)*0):=eK n fun i j hi hj=>by
  by_cases q:i=r
  ·subst q;rw[ft,hz j hj];grind
  ·rw[fE q]
 rw[e,qm n A r 0 (fun _=>0) h];grind
theorem BA:∀(n:Nat) (A:Nat->Nat->R) (r:Nat),r+1<n->(∀j,j<n->A r j=A (r+1) j)->det n A=0
 |0,_,_,h,_=>by lia
 |n+1,A,r,h,he=>by
  rw[gr,B7 (n+1) r (r+1) (by lia) h ?_]
  ·have e:det n (del r A)=det n (del (r+1) A):=eK n fun a b ha hb=>by
    show A (skip r a) (b+1)=A (skip (r+1) a) (b+1);by_cases q:a=r
    ·subst q;have e1:skip a a=a+1:=by unfold skip;rw[af (by lia)]
     have e2:skip (a+1) a=a:=by unfold skip;rw[ah (by lia)]
     rw[e1,e2,he _ (by lia)]
    ·have e1:skip r a=skip (r+1) a:=by unfold skip;split <;>split <;>lia
     rw[e1]
   rw[e,he 0 (by lia),Lp];grind
  ·intro i hi h1 h2;have e:det n (del i A)=0:=by
    by_cases q:i<r
    ·refine BA n (del i A) (r - 1) (by lia) fun j hj=> ?_
     show A (skip i (r - 1)) (j+1)=A (skip i (r - 1+1)) (j+1);have e1:skip i (r - 1)=r:=by unfold skip;rw[af (by lia)];lia
     have e2:skip i (r - 1+1)=r+1:=by unfold skip;rw[af (by lia)];lia
     rw[e1,e2,he _ (by lia)]
    ·refine BA n (del i A) r (by lia) fun j hj=> ?_
     show A (skip i r) (j+1)=A (skip i (r+1)) (j+1);have e1:skip i r=r:=by unfold skip;rw[ah (by lia)]
     have e2:skip i (r+1)=r+1:=by unfold skip;rw[ah (by lia)]
     rw[e1,e2,he _ (by lia)]
   rw[e];grind
noncomputable def gO (A:Nat->Nat->R) (r t:Nat):Nat->Nat->R:=fun i j=>if i=r then A t j else if i=t then A r j else A i j
theorem Gd(n:Nat)(A:Nat->Nat->R)(r:Nat)(h:r+1<n):det n (gO A r (r+1))= - det n A:=by
 have hr:r<n:=by lia
 let B:(Nat->R)->(Nat->R)->Nat->Nat->R:=fun u v=>eF (eF A r u) (r+1) v
 have adj:∀u,det n (B u u)=0:=fun u=>BA n _ r h fun j _=>by
  show eF (eF A r u) (r+1) u r j=eF (eF A r u) (r+1) u (r+1) j;rw[fE (by lia),ft,ft]
 have l2:∀u v v',det n (B u fun j=>v j+1*v' j)=det n (B u v)+1*det n (B u v'):=fun u v v'=>gu n _ _ 1 v v' h
 have comm:∀u v,B u v=eF (eF A (r+1) v) r u:=fun u v=>by
  funext i j;show(if i=r+1 then v j else if i=r then u j else A i j)=if i=r then u j else if i=r+1 then v j else A i j
  by_cases e1:i=r
  ·rw[ah e1,af (by lia),ah e1]
  ·rw[af e1,af e1]
 have l1:∀u u' v,det n (B (fun j=>u j+1*u' j) v)=det n (B u v)+1*det n (B u' v):=fun u u' v=>by
  rw[comm,comm,comm];exact gu n _ _ 1 u u' hr
 have eA:det n A=det n (B (A r) (A (r+1))):=eK n fun i j _ _=>by
  show A i j=if i=r+1 then A (r+1) j else if i=r then A r j else A i j
  by_cases e1:i=r+1
  ·rw[ah e1,e1]
  ·rw[af e1];by_cases e2:i=r
   ·rw[ah e2,e2]
   ·rw[af e2]
 have eS:det n (gO A r (r+1))=det n (B (A (r+1)) (A r)):=eK n fun i j _ _=>by
  show(if i=r then A (r+1) j else if i=r+1 then A r j else A i j)=if i=r+1 then A r j else if i=r then A (r+1) j else A i j
  by_cases e1:i=r
  ·rw[ah e1,af (by lia),ah e1]
  ·rw[af e1,af e1]
 have s:=adj fun j=>A r j+1*A (r+1) j
 rw[l2,l1,l1,adj,adj] at s;rw[eA,eS];grind
theorem tZ(n:Nat):∀(d:Nat) (A:Nat->Nat->R) (r:Nat),r+d+1<n->(∀j,j<n->A r j=A (r+d+1) j)->det n A=0
 |0,A,r,h,he=>BA n A r h he
 |d+1,A,r,h,he=>by
  have s:=Gd n A (r+d+1) (by lia);have z:det n (gO A (r+d+1) (r+d+1+1))=0:=by
   refine tZ n d _ r (by lia) fun j hj=> ?_
   show(if r=r+d+1 then _ else if r=r+d+1+1 then _ else A r j)=if r+d+1=r+d+1 then A (r+d+1+1) j else _
   rw[af (by lia),af (by lia),ah rfl];exact he j hj
  rw[z] at s;grind
theorem u4(n:Nat)(A:Nat->Nat->R)(r t:Nat)(hr:r<n)(ht:t<n)(hne:r≠t)(he:∀j,j<n->A r j=A t j):det n A=0:=by
 by_cases h:r<t
 ·obtain⟨d,rfl⟩:∃d,t=r+d+1:=⟨t - r - 1,by lia⟩;exact tZ n d A r (by lia) he
 ·obtain⟨d,rfl⟩:∃d,r=t+d+1:=⟨r - t - 1,by lia⟩;exact tZ n d A t (by lia) fun j hj=>(he j hj).symm
theorem JW(n:Nat)(A:Nat->Nat->R)(r t:Nat)(c:R)(hr:r<n)(ht:t<n)(hne:r≠t):det n (eF A r fun j=>A r j+c*A t j)=det n A:=by
 rw[gu n A r c _ _ hr];have z:det n (eF A r (A t))=0:=u4 n _ r t hr ht hne fun j _=>by rw[ft,fE (bL hne)]
 have e:det n (eF A r (A r))=det n A:=eK n fun i j _ _=>by
  by_cases q:i=r
  ·subst q;exact ft
  ·exact fE q
 rw[z,e];grind
theorem OB(n:Nat)(A:Nat->Nat->R)(r t:Nat)(hr:r<n)(ht:t<n)(hne:r≠t):det n (gO A r t)= - det n A:=by
 let B:(Nat->R)->(Nat->R)->Nat->Nat->R:=fun u v=>eF (eF A r u) t v
 have adj:∀u,det n (B u u)=0:=fun u=>u4 n _ r t hr ht hne fun j _=>by
  show eF (eF A r u) t u r j=eF (eF A r u) t u t j;rw[fE hne,ft,ft]
 have l2:∀u v v',det n (B u fun j=>v j+1*v' j)=det n (B u v)+1*det n (B u v'):=fun u v v'=>gu n _ _ 1 v v' ht
 have comm:∀u v,B u v=eF (eF A t v) r u:=fun u v=>by
  funext i j;show(if i=t then v j else if i=r then u j else A i j)=if i=r then u j else if i=t then v j else A i j
  by_cases e1:i=r
  ·rw[ah e1,af (by lia),ah e1]
  ·rw[af e1,af e1]
 have l1:∀u u' v,det n (B (fun j=>u j+1*u' j) v)=det n (B u v)+1*det n (B u' v):=fun u u' v=>by
  rw[comm,comm,comm];exact gu n _ _ 1 u u' hr
 have eA:det n A=det n (B (A r) (A t)):=eK n fun i j _ _=>by
  show A i j=if i=t then A t j else if i=r then A r j else A i j
  by_cases e1:i=t
  ·rw[ah e1,e1]
  ·rw[af e1];by_cases e2:i=r
   ·rw[ah e2,e2]
   ·rw[af e2]
 have eS:det n (gO A r t)=det n (B (A t) (A r)):=eK n fun i j _ _=>by
  show(if i=r then A t j else if i=t then A r j else A i j)=if i=t then A r j else if i=r then A t j else A i j
  by_cases e1:i=r
  ·rw[ah e1,af (by lia),ah e1]
  ·rw[af e1,af e1]
 have s:=adj fun j=>A r j+1*A t j
 rw[l2,l1,l1,adj,adj] at s;rw[eA,eS];grind
noncomputable def tr (A:Nat->Nat->R):Nat->Nat->R:=fun i j=>A j i
theorem qt:∀(n:Nat) (A:Nat->Nat->R),det n (tr A)=det n A
 |0,_=>rfl
 |1,A=>rfl
 |n+2,A=>by
  have key:∀B:Nat->Nat->R,(∀m,m<n+2->∀C:Nat->Nat->R,det m (tr C)=det m C)->det (n+2) B=B 0 0*det (n+1) (del 0 B) - eC (n+1) fun i=>eC (n+1) fun j=>sg (i+j)*(B (i+1) 0*B 0 (j+1)*det n (fun a b=>B (skip i a+1) (skip j b+1))):=by
   intro B ih;rw[gr,ES,Gb];have e:eC (n+1) (fun i=>sg (i+1)*(B (i+1) 0*det (n+1) (del (i+1) B)))= - eC (n+1) fun i=>eC (n+1) fun j=>sg (i+j)*(B (i+1) 0*B 0 (j+1)*det n (fun a b=>B (skip i a+1) (skip j b+1))):=by
    have m1:∀x:R,- x=(-1)*x:=fun x=>by grind
    rw[m1,<-fW];refine eI _ fun i hi=> ?_
    rw[<-ih (n+1) (by lia) (del (i+1) B),gr,<-fW,<-fW,<-fW];refine eI _ fun j hj=> ?_
    have e1:tr (del (i+1) B) j 0=B 0 (j+1):=by
     show B (skip (i+1) 0) (j+1)=_;unfold skip;rw[ah (by lia)]
    have e2:det n (del j (tr (del (i+1) B)))=det n (fun a b=>B (skip i a+1) (skip j b+1)):=by
     rw[<-ih n (by lia) (fun a b=>B (skip i a+1) (skip j b+1))];refine eK n fun a b ha hb=> ?_
     show B (skip (i+1) (b+1)) (skip j a+1)=B (skip i b+1) (skip j a+1);have e3:skip (i+1) (b+1)=skip i b+1:=by
      unfold skip
      repeat' split
      all_goals lia
     rw[e3]
    rw[e1,e2,Lp];have e4:(sg (i+j):R)=sg i*sg j:=by
     unfold sg
     repeat' split
     all_goals first |grind |lia
    rw[e4];grind
   rw[e];grind
  have ih:∀m,m<n+2->∀C:Nat->Nat->R,det m (tr C)=det m C:=fun m hm C=>qt m C
  rw[key A ih,key (tr A) ih,y6];have e0:det (n+1) (del 0 (tr A))=det (n+1) (del 0 A):=by
   rw[<-ih (n+1) (by lia) (del 0 A)];refine eK _ fun a b _ _=> ?_
   show A (b+1) (skip 0 a)=A (skip 0 b) (a+1);unfold skip;rw[af (by lia),af (by lia)]
  rw[e0];have e5:eC (n+1) (fun j=>eC (n+1) fun i=>sg (i+j)*(tr A (i+1) 0*tr A 0 (j+1)*det n (fun a b=>tr A (skip i a+1) (skip j b+1))))=eC (n+1) fun i=>eC (n+1) fun j=>sg (i+j)*(A (i+1) 0*A 0 (j+1)*det n (fun a b=>A (skip i a+1) (skip j b+1))):=by
   refine eI _ fun i hi=>eI _ fun j hj=> ?_
   have e6:det n (fun a b=>tr A (skip j a+1) (skip i b+1))=det n (fun a b=>A (skip i a+1) (skip j b+1)):=by
    rw[<-ih n (by lia) (fun a b=>A (skip i a+1) (skip j b+1))];rfl
   rw[e6,Nat.add_comm j i];show sg (i+j)*(A 0 (j+1)*A (i+1) 0*_)=_;grind
  rw[e5];rfl
theorem lM(A:Nat->Nat->R)(c:Nat)(v:Nat->R):tr (fg A c v)=eF (tr A) c v:=rfl
theorem HL(n:Nat)(A:Nat->Nat->R)(r:Nat)(c:R)(u v:Nat->R)(h:r<n):det n (fg A r fun j=>u j+c*v j)=det n (fg A r u)+c*det n (fg A r v):=by
 rw[<-qt,<-qt n (fg A r u),<-qt n (fg A r v),lM,lM,lM];exact gu n _ _ _ _ _ h
theorem vC(n:Nat)(A:Nat->Nat->R)(r:Nat)(c:R)(v:Nat->R)(h:r<n):det n (fg A r fun j=>c*v j)=c*det n (fg A r v):=by
 rw[<-qt,<-qt n (fg A r v),lM,lM];exact qm n _ _ _ _ h
theorem nJ(n:Nat)(A:Nat->Nat->R)(c:Nat)(h:c<n)(hz:∀i,i<n->A i c=0):det n A=0:=by
 rw[<-qt];exact rF n _ c h hz
theorem D9(n:Nat)(A:Nat->Nat->R)(r t:Nat)(hr:r<n)(ht:t<n)(hne:r≠t)(he:∀i,i<n->A i r=A i t):det n A=0:=by
 rw[<-qt];exact u4 n _ r t hr ht hne he
theorem ue(n:Nat)(A:Nat->Nat->R)(r:Nat)(hr:r<n):∀(m:Nat) (x:Nat->R) (v:Nat->Nat->R),det n (eF A r fun j=>eC m fun d=>x d*v d j)=eC m fun d=>x d*det n (eF A r (v d))
 |0,x,v=>rF n _ r hr fun j _=>ft
 |m+1,x,v=>by
  show det n (eF A r fun j=>eC m (fun d=>x d*v d j)+x m*v m j)=eC m (fun d=>x d*det n (eF A r (v d)))+x m*det n (eF A r (v m));rw[gu n A r (x m) _ _ hr,ue n A r hr m x v]
theorem AF(n:Nat)(A:Nat->Nat->R)(c:Nat)(hc:c<n)(m:Nat)(x:Nat->R)(v:Nat->Nat->R):det n (fg A c fun i=>eC m fun d=>x d*v d i)=eC m fun d=>x d*det n (fg A c (v d)):=by
 rw[<-qt,lM,ue n _ _ hc];refine eI _ fun d _=> ?_
 rw[<-lM,qt]
theorem HM(A:Nat->Nat->R)(c:Nat):fg A c (fun i=>A i c)=A:=by
 funext i j;by_cases q:j=c
 ·subst q;exact g8
 ·exact j9 q
theorem HN(A:Nat->Nat->R)(r:Nat):eF A r (A r)=A:=by
 funext i j;by_cases q:i=r
 ·subst q;exact ft
 ·exact fE q
theorem B8(n:Nat)(A:Nat->Nat->R)(x b:Nat->R)(c:Nat)(hc:c<n)(h:∀i,i<n->eC n (fun d=>A i d*x d)=b i):det n (fg A c b)=x c*det n A:=by
 have e:det n (fg A c b)=det n (fg A c fun i=>eC n fun d=>x d*A i d):=eK n fun i j hi hj=>by
  by_cases q:j=c
  ·subst q;rw[g8,g8,<-h i hi];exact eI _ fun d _=>by grind
  ·rw[j9 q,j9 q]
 rw[e,AF n A c hc n x (fun d i=>A i d),mO n c hc]
 ·rw[HM]
 ·intro d hd hdc;rw[D9 n _ c d hc hd (bL hdc) fun i _=>by rw[g8,j9 hdc]];grind
noncomputable def ei (i:Nat):Nat->R:=fun j=>if j=i then 1 else 0
theorem sM(i:Nat):(ei i:Nat->R) i=1:=ah rfl
theorem uf{i j:Nat}(h:j≠i):(ei i:Nat->R) j=0:=af h
theorem HP(n:Nat)(A:Nat->Nat->R)(i c:Nat)(hi:i<n)(hc:c<n):det n (fg A c (ei i))=det n (eF A i (ei c)):=by
 have one:∀B:Nat->Nat->R,(∀a,a<n->B a c=ei i a)->det n B=det n (eF B i (ei c)):=by
  intro B hB;have e:det n B=det n (eF B i fun j=>ei c j+1*(if j=c then 0 else B i j)):=eK n fun a b ha hb=>by
   by_cases q:a=i
   ·subst q;rw[ft];by_cases q2:b=c
    ·subst q2;rw[hB a ha,sM,sM,ah rfl];grind
    ·rw[uf q2,af q2];grind
   ·rw[fE q]
  rw[e,gu n B i 1 _ _ hi,nJ n (eF B i fun j=>if j=c then 0 else B i j) c hc fun a ha=> ?_]
  ·grind
  ·by_cases q:a=i
   ·subst q;rw[ft,ah rfl]
   ·rw[fE q,hB a ha,uf q]
 have h1:=one (fg A c (ei i)) fun a _=>g8
 have h2:det n (eF A i (ei c))=det n (fg (eF A i (ei c)) c (ei i)):=by
  have e:det n (eF A i (ei c))=det n (fg (eF A i (ei c)) c fun a=>ei i a+1*(if a=i then 0 else A a c)):=eK n fun a b ha hb=>by
   by_cases q2:b=c
   ·subst q2;rw[g8];by_cases q:a=i
    ·subst q;rw[ft,sM,sM,ah rfl];grind
    ·rw[fE q,uf q,af q];grind
   ·rw[j9 q2]
  rw[e,HL n _ c 1 _ _ hc,rF n (fg (eF A i (ei c)) c fun a=>if a=i then 0 else A a c) i hi fun b hb=> ?_]
  ·grind
  ·by_cases q2:b=c
   ·subst q2;rw[g8,ah rfl]
   ·rw[j9 q2,ft,uf q2]
 rw[h1,h2];refine eK n fun a b _ _=> ?_
 show(if a=i then ei c b else if b=c then ei i a else A a b)=if b=c then ei i a else if a=i then ei c b else A a b
 by_cases q:a=i
 ·by_cases q2:b=c
  ·subst q q2;rw[ah rfl,ah rfl,sM,sM]
  ·rw[ah q,af q2,ah q]
 ·rw[af q,af q]
theorem OC(n:Nat)(A:Nat->Nat->R)(v:Nat->R)(r:Nat)(hr:r<n):eC n (fun c=>A r c*det n (fg A c v))=det n A*v r:=by
 have ev:∀c,c<n->det n (fg A c v)=eC n fun i=>v i*det n (eF A i (ei c)):=fun c hc=>by
  have e:det n (fg A c v)=det n (fg A c fun a=>eC n fun d=>v d*ei d a):=eK n fun a b ha hb=>by
   by_cases q:b=c
   ·subst q;rw[g8,g8,mO n a ha,sM]
    ·grind
    ·intro d _ hd;rw[uf (bL hd)];grind
   ·rw[j9 q,j9 q]
  rw[e,AF n A c hc n v fun d=>ei d];exact eI _ fun d hd=>by rw[HP n A d c hd hc]
 have e1:eC n (fun c=>A r c*det n (fg A c v))=eC n fun c=>eC n fun i=>v i*(A r c*det n (eF A i (ei c))):=eI _ fun c hc=>by
  rw[ev c hc,<-fW];exact eI _ fun i _=>by grind
 rw[e1,y6];have e2:∀i,i<n->eC n (fun c=>v i*(A r c*det n (eF A i (ei c))))=v i*det n (eF A i (A r)):=fun i hi=>by
  rw[fW,<-ue n A i hi n (A r) fun d=>ei d];refine congrArg (v i* ·) (eK n fun a b ha hb=> ?_);by_cases q:a=i
  ·subst q;rw[ft,ft,mO n b hb,sM]
   ·grind
   ·intro d _ hd;rw[uf (bL hd)];grind
  ·rw[fE q,fE q]
 rw[eI n e2,mO n r hr,HN]
 ·grind
 ·intro i hi hir;rw[u4 n (eF A i (A r)) i r hi hr hir fun j _=>by rw[ft,fE (bL hir)]];grind
theorem B9:∀(n:Nat) (A:Nat->Nat->R),(∀j,j<n+1->A n j=ei n j)->det (n+1) A=det n A
 |0,A,h=>by
  rw[gr];show(0:R)+sg 0*(A 0 0*1)=1;rw[h 0 (by lia),sM,Gb];grind
 |n+1,A,h=>by
  rw[gr];show eC (n+1) (fun i=>sg i*(A i 0*det (n+1) (del i A)))+sg (n+1)*(A (n+1) 0*det (n+1) (del (n+1) A))=det (n+1) A;rw[h 0 (by lia),uf (by lia),gr n A];have e:eC (n+1) (fun i=>sg i*(A i 0*det (n+1) (del i A)))=eC (n+1) (fun i=>sg i*(A i 0*det n (del i A))):=eI _ fun i hi=>by
   rw[B9 n (del i A) fun j hj=> ?_];show A (skip i n) (j+1)=ei n j;have e1:skip i n=n+1:=by unfold skip;rw[af (by lia)]
   rw[e1,h (j+1) (by lia)];unfold ei;by_cases q:j=n
   ·rw[ah q,ah (by lia)]
   ·rw[af q,af (by lia)]
  rw[e];grind
end det
section bar
variable {R:Type} [CommRing R]
noncomputable def Reg (a:R):Prop:=∀x y:R,a*x=a*y->x=y
noncomputable def mk (A:Nat->Nat->R) (k:Nat):R:=det k A
noncomputable def mc (A:Nat->Nat->R) (k c j:Nat):R:=det k (fg A c fun i=>A i j)
noncomputable def ti (A:Nat->Nat->R) (k i j:Nat):R:=mk A k*A i j - eC k fun c=>A i c*mc A k c j
theorem Ca(n:Nat)(f g:Nat->R):eC n (fun i=>f i - g i)=eC n f - eC n g:=by
 have e:eC n (fun i=>f i - g i)=eC n (fun i=>f i+(-1)*g i):=eI _ fun i _=>by grind
 rw[e,xi,fW];grind
theorem y8(A:Nat->Nat->R)(k r j:Nat)(hr:r<k):eC k (fun c=>A r c*mc A k c j)=mk A k*A r j:=OC k A (fun i=>A i j) r hr
theorem OD(A:Nat->Nat->R)(k r j:Nat)(hr:r<k):ti A k r j=0:=by
 unfold ti;rw[y8 A k r j hr];grind
theorem ET(A:Nat->Nat->R)(k i:Nat):eC (k+1) (fun d=>A i d*(if d=k then mk A k else - mc A k d k))=ti A k i k:=by
 show eC k (fun d=>A i d*(if d=k then mk A k else - mc A k d k))+A i k*(if k=k then mk A k else - mc A k k k)=_;rw[ah rfl];have e:eC k (fun d=>A i d*(if d=k then mk A k else - mc A k d k))=eC k (fun d=>(-1)*(A i d*mc A k d k)):=eI _ fun d hd=>by rw[af (by lia)];grind
 rw[e,fW];unfold ti;grind
theorem OE(A:Nat->Nat->R)(k:Nat):det (k+1) (fg A k (ei k))=mk A k:=by
 rw[HP (k+1) A k k (by lia) (by lia),B9 k _ fun j _=>ft];exact eK k fun i j hi _=>fE (by lia)
theorem Cb(A:Nat->Nat->R)(k:Nat)(h:Reg (mk A k)):ti A k k k=mk A (k+1):=by
 have c:=B8 (k+1) A (fun d=>if d=k then mk A k else - mc A k d k) (fun i=>ti A k k k*ei k i) k (by lia) fun i hi=>by
  rw[ET];by_cases e:i=k
  ·subst e;rw[sM];grind
  ·rw[uf e,OD A k i k (by lia)];grind
 rw[vC (k+1) A k _ _ (by lia),OE,ah rfl] at c;refine h _ _ ?_;show mk A k*ti A k k k=mk A k*det (k+1) A;grind
theorem BB(A:Nat->Nat->R)(k j:Nat)(h:Reg (mk A k))(h1:Reg (mk A (k+1)))(c:Nat)(hc:c<k):
  mk A (k+1)*mc A k c j - mc A k c k*ti A k k j=mk A k*mc A (k+1) c j/\ti A k k j=mc A (k+1) k j:=by
 have hp:=Cb A k h;have sol:∀r,r<k+1->eC (k+1) (fun d=>A r d*(if d=k then mk A k*ti A k k j else mk A (k+1)*mc A k d j - mc A k d k*ti A k k j))=(mk A k*mk A (k+1))*A r j:=fun r hr=>by
  show eC k (fun d=>A r d*(if d=k then mk A k*ti A k k j else mk A (k+1)*mc A k d j - mc A k d k*ti A k k j))+A r k*(if k=k then mk A k*ti A k k j else _)=_;rw[ah rfl];have e:eC k (fun d=>A r d*(if d=k then mk A k*ti A k k j else mk A (k+1)*mc A k d j - mc A k d k*ti A k k j))=mk A (k+1)*eC k (fun d=>A r d*mc A k d j) - ti A k k j*eC k (fun d=>A r d*mc A k d k):=by
   rw[<-fW,<-fW,<-Ca];exact eI _ fun d hd=>by rw[af (by lia)];grind
  rw[e];by_cases q:r=k
  ·subst q;have e1:eC r (fun d=>A r d*mc A r d j)=mk A r*A r j - ti A r r j:=by unfold ti;grind
   have e2:eC r (fun d=>A r d*mc A r d r)=mk A r*A r r - ti A r r r:=by unfold ti;grind
   rw[e1,e2,hp];grind
  ·rw[y8 A k r j (by lia),y8 A k r k (by lia)];grind
 have go:∀d,d<k+1->mk A (k+1)*(if d=k then mk A k*ti A k k j else mk A (k+1)*mc A k d j - mc A k d k*ti A k k j)=mk A (k+1)*(mk A k*mc A (k+1) d j):=fun d hd=>by
  have c1:=B8 (k+1) A _ (fun i=>(mk A k*mk A (k+1))*A i j) d hd sol;rw[vC (k+1) A d _ (fun i=>A i j) hd] at c1;have e:det (k+1) (fg A d fun i=>A i j)=mc A (k+1) d j:=rfl;rw[e] at c1;have e2:det (k+1) A=mk A (k+1):=rfl;rw[e2] at c1;grind
 refine⟨?_,?_⟩
 ·have g:=h1 _ _ (go c (by lia));rw[af (by lia)] at g;exact g
 ·have g:=h1 _ _ (go k (by lia));rw[ah rfl] at g;exact h _ _ g
theorem Lr(A:Nat->Nat->R)(k j:Nat)(h:Reg (mk A k))(h1:Reg (mk A (k+1))):ti A k k j=mc A (k+1) k j:=by
 by_cases q:0<k
 ·exact(BB A k j h h1 0 q).2
 ·have e:k=0:=by lia
  subst e;show(1:R)*A 0 j - 0=0+sg 0*(fg A 0 (fun i=>A i j) 0 0*1);rw[g8,Gb];grind
theorem Ls(A:Nat->Nat->R)(k i j:Nat)(h:Reg (mk A k))(h1:Reg (mk A (k+1))):
  mk A (k+1)*ti A k i j - ti A k i k*ti A k k j=mk A k*ti A (k+1) i j:=by
 have e:ti A (k+1) i j=mk A (k+1)*A i j - (eC k (fun c=>A i c*mc A (k+1) c j)+A i k*mc A (k+1) k j):=rfl;have e1:mk A k*eC k (fun c=>A i c*mc A (k+1) c j)=mk A (k+1)*eC k (fun c=>A i c*mc A k c j) - ti A k k j*eC k (fun c=>A i c*mc A k c k):=by
  rw[<-fW,<-fW,<-fW,<-Ca];exact eI _ fun c hc=>by
   have s:=(BB A k j h h1 c hc).1;grind
 have e2:=Lr A k j h h1;have e3:eC k (fun c=>A i c*mc A k c j)=mk A k*A i j - ti A k i j:=by unfold ti;grind
 have e4:eC k (fun c=>A i c*mc A k c k)=mk A k*A i k - ti A k i k:=by unfold ti;grind
 rw[e,<-e2];rw[e3,e4] at e1;grind
theorem OF(A:Nat->Nat->R)(n k:Nat)(hk:k<n)(h:Reg (mk A k))(hz:∀i,k<=i->i<n->ti A k i k=0):
  (∀i,i<n->eC n (fun d=>A i d*(if d<k+1 then(if d=k then mk A k else - mc A k d k) else 0))=0)/\det n A=0:=by
 have tail:∀(m:Nat) (f:Nat->R),k+1<=m->eC m (fun d=>if d<k+1 then f d else 0)=eC (k+1) f:=by
  intro m;induction m with
  |zero=>intro f hm;lia
  |succ m ih=>
   intro f hm;show eC m (fun d=>if d<k+1 then f d else 0)+(if m<k+1 then f m else 0)=_;by_cases q:m=k
   ·subst q;rw[ah (by lia)];show _=eC m f+f m;rw[eI m (g:=f) fun i hi=>ah (by lia)]
   ·rw[af (by lia),ih f (by lia)];grind
 have sol:∀i,i<n->eC n (fun d=>A i d*(if d<k+1 then(if d=k then mk A k else - mc A k d k) else 0))=0:=fun i hi=>by
  have e:eC n (fun d=>A i d*(if d<k+1 then(if d=k then mk A k else - mc A k d k) else 0))=eC n (fun d=>if d<k+1 then A i d*(if d=k then mk A k else - mc A k d k) else 0):=eI _ fun d _=>by
   by_cases q:d<k+1
   ·rw[ah q,ah q]
   ·rw[af q,af q];grind
  rw[e,tail n _ (by lia),ET];by_cases q:i<k
  ·exact OD A k i k q
  ·exact hz i (by lia) hi
 refine⟨sol,?_⟩;have c:=B8 n A _ (fun _=>(0:R)) k hk sol;rw[nJ n (fg A k fun _=>(0:R)) k hk fun i _=>g8,ah (by lia),ah rfl] at c;refine h _ _ ?_;grind
theorem Ge(A:Nat->Nat->R)(k r t:Nat)(hr:k<=r)(ht:k<=t):mk (gO A r t) k=mk A k:=eK k fun i j hi _=>by
 show(if i=r then _ else if i=t then _ else A i j)=_;rw[af (by lia),af (by lia)]
theorem Gf(A:Nat->Nat->R)(k r t c j:Nat)(hr:k<=r)(ht:k<=t):mc (gO A r t) k c j=mc A k c j:=eK k fun i b hi _=>by
 have e:∀b,gO A r t i b=A i b:=fun b=>by
  show(if i=r then _ else if i=t then _ else A i b)=_;rw[af (by lia),af (by lia)]
 show(if b=c then gO A r t i j else gO A r t i b)=if b=c then A i j else A i b
 rw[e,e]
noncomputable def sw (r t i:Nat):Nat:=if i=r then t else if i=t then r else i
theorem Lu(A:Nat->Nat->R)(k r t i j:Nat)(hr:k<=r)(ht:k<=t):ti (gO A r t) k i j=ti A k (sw r t i) j:=by
 have e:∀b,gO A r t i b=A (sw r t i) b:=fun b=>by
  show(if i=r then A t b else if i=t then A r b else A i b)=A (if i=r then t else if i=t then r else i) b;by_cases q:i=r
  ·rw[ah q,ah q]
  ·rw[af q,af q];by_cases q2:i=t
   ·rw[ah q2,ah q2]
   ·rw[af q2,af q2]
 unfold ti;rw[Ge A k r t hr ht,e];refine congrArg (_ - ·) (eI _ fun c _=> ?_);rw[e,Gf A k r t c j hr ht]
end bar
end de
namespace de
open Lean.Grind
open Wh (valueAt addPoly scalePoly mulPoly)
theorem Gg(x:Rat):valueAt [] x=0:=rfl
theorem iq(a:Rat)(l:List Rat)(x:Rat):valueAt (a::l) x=a+x*valueAt l x:=rfl
theorem qu:∀(p q:List Rat) (x:Rat),valueAt (addPoly p q) x=valueAt p x+valueAt q x
 |[],q,x=>by
  show valueAt q x=0+valueAt q x;grind
 |a::p,[],x=>by
  show valueAt (a::p) x=valueAt (a::p) x+0;grind
 |a::p,b::q,x=>by
  show(a+b)+x*valueAt (addPoly p q) x=_;rw[qu p q x,iq,iq];grind
theorem iY(c:Rat):∀(p:List Rat) (x:Rat),valueAt (scalePoly c p) x=c*valueAt p x
 |[],x=>by
  show(0:Rat)=c*0;grind
 |a::p,x=>by
  show c*a+x*valueAt (scalePoly c p) x=_;rw[iY c p x,iq];grind
theorem y9:∀(p q:List Rat) (x:Rat),valueAt (mulPoly p q) x=valueAt p x*valueAt q x
 |[],q,x=>by
  show(0:Rat)=0*valueAt q x;grind
 |a::p,q,x=>by
  show valueAt (addPoly (scalePoly a q) (0::mulPoly p q)) x=_;rw[qu,iY,iq,y9 p q x,iq];grind
structure PF where
 f:Rat->Rat
 h:∃l:List Rat,∀x,f x=valueAt l x
theorem PF.ext{a b:PF}(h:∀x,a.f x=b.f x):a=b:=by
 cases a;cases b
 have e:=funext h;dsimp at e;subst e;rfl
namespace PF
noncomputable def const (c:Rat):PF:=⟨fun _=>c,[c],fun x=>by rw[iq,Gg];grind⟩
noncomputable def add (a b:PF):PF:=⟨fun x=>a.f x+b.f x,by
 obtain⟨l,hl⟩:=a.h;obtain⟨m,hm⟩:=b.h;exact⟨addPoly l m,fun x=>by rw[qu,<-hl,<-hm]⟩⟩
noncomputable def mul (a b:PF):PF:=⟨fun x=>a.f x*b.f x,by
 obtain⟨l,hl⟩:=a.h;obtain⟨m,hm⟩:=b.h;exact⟨mulPoly l m,fun x=>by rw[y9,<-hl,<-hm]⟩⟩
noncomputable def neg (a:PF):PF:=⟨fun x=> - a.f x,by
 obtain⟨l,hl⟩:=a.h;exact⟨scalePoly (-1) l,fun x=>by rw[iY,<-hl];grind⟩⟩
noncomputable def sub (a b:PF):PF:=⟨fun x=>a.f x - b.f x,by
 obtain⟨l,hl⟩:=a.h;obtain⟨m,hm⟩:=b.h;exact⟨addPoly l (scalePoly (-1) m),fun x=>by rw[qu,iY,<-hl,<-hm];grind⟩⟩
noncomputable def npow (a:PF):Nat->PF
 |0=>const 1
 |n+1=>mul (npow a n) a
instance:Add PF:=⟨add⟩
instance:Mul PF:=⟨mul⟩
instance:Neg PF:=⟨neg⟩
instance:Sub PF:=⟨sub⟩
instance:NatCast PF:=⟨fun n=>const (n:Rat)⟩
instance:IntCast PF:=⟨fun n=>const (n:Rat)⟩
instance (n:Nat):OfNat PF n:=⟨const (n:Rat)⟩
instance:SMul Nat PF:=⟨fun n a=>mul (const (n:Rat)) a⟩
instance:SMul Int PF:=⟨fun n a=>mul (const (n:Rat)) a⟩
instance:HPow PF Nat PF:=⟨npow⟩
theorem US(a b:PF)(x:Rat):(a+b).f x=a.f x+b.f x:=rfl
theorem OG(a b:PF)(x:Rat):(a*b).f x=a.f x*b.f x:=rfl
theorem UT(a:PF)(x:Rat):(- a).f x= - a.f x:=rfl
instance:CommRing PF where
 add_zero a:=PF.ext fun x=>by show a.f x+((0:Nat):Rat)=a.f x;grind
 add_comm a b:=PF.ext fun x=>by show a.f x+b.f x=b.f x+a.f x;grind
 add_assoc a b c:=PF.ext fun x=>by show a.f x+b.f x+c.f x=a.f x+(b.f x+c.f x);grind
 mul_assoc a b c:=PF.ext fun x=>by show a.f x*b.f x*c.f x=a.f x*(b.f x*c.f x);grind
 mul_one a:=PF.ext fun x=>by show a.f x*((1:Nat):Rat)=a.f x;grind
 one_mul a:=PF.ext fun x=>by show((1:Nat):Rat)*a.f x=a.f x;grind
 left_distrib a b c:=PF.ext fun x=>by show a.f x*(b.f x+c.f x)=a.f x*b.f x+a.f x*c.f x;grind
 right_distrib a b c:=PF.ext fun x=>by show(a.f x+b.f x)*c.f x=a.f x*c.f x+b.f x*c.f x;grind
 zero_mul a:=PF.ext fun x=>by show((0:Nat):Rat)*a.f x=((0:Nat):Rat);grind
 mul_zero a:=PF.ext fun x=>by show a.f x*((0:Nat):Rat)=((0:Nat):Rat);grind
 pow_zero a:=rfl
 pow_succ a n:=rfl
 ofNat_succ n:=PF.ext fun x=>by show((n+1:Nat):Rat)=(n:Rat)+((1:Nat):Rat);grind
 neg_add_cancel a:=PF.ext fun x=>by show - a.f x+a.f x=((0:Nat):Rat);grind
 sub_eq_add_neg a b:=PF.ext fun x=>by show a.f x - b.f x=a.f x+ - b.f x;grind
 neg_zsmul i a:=PF.ext fun x=>by show((-i:Int):Rat)*a.f x= -((i:Rat)*a.f x);grind
 zsmul_natCast_eq_nsmul n a:=PF.ext fun x=>by show(((n:Int)):Rat)*a.f x=((n:Nat):Rat)*a.f x;rw[bt]
 intCast_ofNat n:=PF.ext fun x=>by show((OfNat.ofNat n:Int):Rat)=((n:Nat):Rat);exact bt n
 intCast_neg i:=PF.ext fun x=>by show((-i:Int):Rat)= -((i:Int):Rat);grind
 mul_comm a b:=PF.ext fun x=>by show a.f x*b.f x=b.f x*a.f x;grind
end PF
example (a b c:PF):(a+b)*c=c*b+a*c:=by grind
noncomputable def sdiv (r:Rat):List Rat->List Rat
 |[]=>[]
 |_::[]=>[]
 |_::b::t=>valueAt (b::t) r::sdiv r (b::t)
theorem Cc(r:Rat):∀l:List Rat,(sdiv r l).length=l.length - 1
 |[]=>rfl
 |_::[]=>rfl
 |_::b::t=>by
  show(sdiv r (b::t)).length+1=_;rw[Cc r (b::t)];rfl
theorem Gh(r:Rat)(x:Rat):∀l:List Rat,valueAt l x - valueAt l r=(x - r)*valueAt (sdiv r l) x
 |[]=>by
  show(0:Rat) - 0=(x - r)*0;grind
 |a::[]=>by
  show(a+x*0) - (a+r*0)=(x - r)*0;grind
 |a::b::t=>by
  have e:=Gh r x (b::t);show(a+x*valueAt (b::t) x) - (a+r*valueAt (b::t) r)=(x - r)*(valueAt (b::t) r+x*valueAt (sdiv r (b::t)) x);grind
noncomputable def ze (l:List Rat):Prop:=∀c∈l,c=0
theorem ze.ev{l:List Rat}(h:ze l)(x:Rat):valueAt l x=0:=by
 induction l with
 |nil=>rfl
 |cons a l ih=>
  rw[iq,h a ax,ih fun c hc=>h c (ao _ hc)];grind
theorem sdiv_zero(r:Rat):∀l:List Rat,ze (sdiv r l)->valueAt l r=0->ze l
 |[],_,_=>fun _ h=>by cases h
 |a::[],_,e=>fun c h=>by
  have:c=a:=by simpa using h
  subst this;have e:c+r*0=0:=e;grind
 |a::b::t,z,e=>by
  have z1:valueAt (b::t) r=0:=z _ ax;have ih:=sdiv_zero r (b::t) (fun c hc=>z c (ao _ hc)) z1;intro c hc;rcases aJ.mp hc with h |h
  ·subst h;rw[iq,z1] at e;grind
  ·exact ih c h
theorem roots:∀(xs:List Rat) (l:List Rat),xs.Nodup->l.length<=xs.length->(∀x∈xs,valueAt l x=0)->ze l
 |[],l,_,hl,_=>by
  have:l=[]:=bg.mp (by simpa using hl);subst this;intro c h;cases h
 |r::xs,l,hn,hl,hz=>by
  have hr:=hz r ax;refine sdiv_zero r l (roots xs (sdiv r l) (bW.mp hn).2 ?_ ?_) hr
  ·rw[Cc];simp at hl;lia
  ·intro x hx;have e:=Gh r x l;rw[hz x (ao _ hx),hr] at e;have ne:x - r≠0:=fun q=>by
    have:x=r:=by grind
    subst this;exact(bW.mp hn).1 hx
   have e2:(x - r)*valueAt (sdiv r l) x=0:=by grind
   rcases bY.mp e2 with q |q
   ·exact absurd q ne
   ·exact q
theorem JX(n:Nat):((List.range n).map fun i:Nat=>(i:Rat)).Nodup:=by
 refine List.Pairwise.map _ ?_ (List.nodup_range (n:=n));intro a b h e;exact h (by exact_mod_cast e)
theorem EU(n:Nat)(l:List Rat)(hl:l.length<=n)(h:∀i:Nat,i<n->valueAt l (i:Rat)=0):ze l:=
 roots _ l (JX n) (by simpa using hl) fun x hx=>by
  obtain⟨i,hi,rfl⟩:=aL.mp hx;exact h i (aW.mp hi)
theorem HQ:∀(n:Nat) (l:List Rat),l.length<=n->¬ze l->∃N:Nat,∀i:Nat,N<=i->valueAt l (i:Rat)≠0
 |0,l,hl,hz=>absurd (fun c h=>by
   have:l=[]:=bg.mp (by lia);subst this;cases h) hz
 |n+1,l,hl,hz=>by
  by_cases q:∃r:Nat,valueAt l (r:Rat)=0
  ·obtain⟨r,hr⟩:=q;obtain⟨N,hN⟩:=HQ n (sdiv r l) (by rw[Cc];lia) fun z=>hz (sdiv_zero r l z hr)
   refine⟨max N (r+1),fun i hi e=> ?_⟩;have e1:=Gh r i l;rw[e,hr] at e1;have e2:((i:Rat) - r)*valueAt (sdiv r l) i=0:=by grind
   rcases bY.mp e2 with h |h
   ·have:(i:Rat)=(r:Rat):=by grind
    have:i=r:=by exact_mod_cast this
    lia
   ·exact hN i (by lia) h
  ·exact⟨0,fun i _ e=>q ⟨i,e⟩⟩
theorem Cd{l:List Rat}(h:∀x,valueAt l x=0):ze l:=EU l.length l (aj _) fun i _=>h i
theorem PF.BC{a:PF}(h:a≠0):∃N:Nat,∀i:Nat,N<=i->a.f (i:Rat)≠0:=by
 obtain⟨l,hl⟩:=a.h;obtain⟨N,hN⟩:=HQ l.length l (aj _) fun z=>h (PF.ext fun x=>by rw[hl,z.ev];rfl)
 exact⟨N,fun i hi=>by rw[hl];exact hN i hi⟩
theorem PF.zh{a b:PF}(ha:a≠0)(hb:b≠0):a*b≠0:=by
 obtain⟨N,hN⟩:=PF.BC ha;obtain⟨M,hM⟩:=PF.BC hb;intro e;have e1:(a*b).f ((max N M:Nat):Rat)=0:=by rw[e];rfl
 rcases bY.mp e1 with q |q
 ·exact hN _ (by lia) q
 ·exact hM _ (by lia) q
theorem PF.xm{a:PF}(ha:a≠0):Reg a:=by
 intro x y e;by_cases q:x - y=0
 ·grind
 ·refine absurd ?_ (PF.zh ha q);grind
noncomputable def rl (l:List Int):List Rat:=l.map fun z:Int=>(z:Rat)
noncomputable def fz (l:List Rat):PF:=⟨fun x=>valueAt l x,l,fun _=>rfl⟩
noncomputable def dG (l:List Int):PF:=fz (rl l)
theorem Lw(l:List Rat)(x:Rat):(fz l).f x=valueAt l x:=rfl
theorem RX(l:List Int)(x:Rat):(dG l).f x=valueAt (rl l) x:=rfl
theorem fi(a:Int)(l:List Int)(x:Rat):(dG (a::l)).f x=(a:Rat)+x*(dG l).f x:=rfl
noncomputable def Trim (l:List Int):Prop:=l.getLast?≠some 0
theorem ug:∀(p q:List Rat) (i:Nat),(addPoly p q).getD i 0=p.getD i 0+q.getD i 0
 |[],q,i=>by
  show q.getD i 0=([]:List Rat).getD i 0+q.getD i 0;simp;grind
 |a::p,[],i=>by
  show(a::p).getD i 0=(a::p).getD i 0+([]:List Rat).getD i 0;simp;grind
 |a::p,b::q,0=>rfl
 |a::p,b::q,i+1=>by
  show(addPoly p q).getD i 0=p.getD i 0+q.getD i 0;exact ug p q i
theorem nR(c:Rat):∀(p:List Rat) (i:Nat),(scalePoly c p).getD i 0=c*p.getD i 0
 |[],i=>by
  show([]:List Rat).getD i 0=c*([]:List Rat).getD i 0;simp
 |a::p,0=>rfl
 |a::p,i+1=>nR c p i
theorem ze.get{l:List Rat}(h:ze l)(i:Nat):l.getD i 0=0:=by
 rw[gDe];cases e:l[i]? with
 |none=>rfl
 |some c=>exact h c (aB e)
theorem EV{p q:List Rat}(h:∀x,valueAt p x=valueAt q x)(i:Nat):p.getD i 0=q.getD i 0:=by
 have z:ze (addPoly p (scalePoly (-1) q)):=Cd fun x=>by rw[qu,iY,h];grind
 have e:=z.get i;rw[ug,nR] at e;grind
theorem Gi(l:List Int)(i:Nat):(rl l).getD i 0=((l.getD i 0:Int):Rat):=by
 unfold rl;rw[gDe,gDe,aC];cases l[i]? <;>simp
theorem qS{l m:List Int}(h:dG l=dG m)(i:Nat):l.getD i 0=m.getD i 0:=by
 have e:=EV (p:=rl l) (q:=rl m) (fun x=>by rw[<-RX,<-RX,h]) i;rw[Gi,Gi] at e;exact_mod_cast e
theorem HR{l m:List Int}(hl:Trim l)(h:∀i,l.getD i 0=m.getD i 0):l.length<=m.length:=by
 rcases Nat.eq_zero_or_pos l.length with q |q
 ·lia
 ·refine cS fun lt=>hl ?_
  have e:=h (l.length - 1);rw[cy];rw[gDe,gDe,aI (l:=m) (by lia),aa (by lia)] at e;rw[aa (by lia)];simpa using e
theorem pN{l m:List Int}(hl:Trim l)(hm:Trim m)(h:dG l=dG m):l=m:=by
 have e:=qS h;have n:l.length=m.length:=Nat.le_antisymm (HR hl e) (HR hm fun i=>(e i).symm);refine cE n fun i h1 h2=> ?_
 have:=e i;simpa [gDe,aa h1,aa h2] using this
end de
namespace de
noncomputable abbrev dN:=List Int
noncomputable def sZ (c:dN):Nat->Nat
 |0=>0
 |n+1=>if c.getD n 0=0 then sZ c n else n+1
noncomputable def JY (c:dN):dN:=c.take (sZ c c.length)
noncomputable def cst (x:Int):dN:=if x=0 then[] else[x]
noncomputable def Lx (p:dN):dN:=p.map fun x=> -x
noncomputable def iJ:dN->dN->dN
 |[],q=>q
 |p,[]=>p
 |a::p,b::q=>(a+b)::iJ p q
noncomputable def Ce (l r:dN):dN:=JY (iJ l r)
noncomputable def uh (l r:dN):dN:=Ce l (Lx r)
noncomputable def mulL:dN->dN->dN
 |[],_=>[]
 |a::p,q=>iJ (q.map fun y=>a*y) (0::mulL p q)
noncomputable def gX (l r:dN):dN:=if l=[]\/r=[] then[] else mulL l r
noncomputable def lc (p:dN):Int:=p.getD (p.length - 1) 0
noncomputable def Ly (r:dN):Nat->dN->dN->dN
 |0,_,out=>out
 |t+1,rest,out=>
  let f:=(rest.getD (t+r.length - 1) 0).fdiv (lc r)
  Ly r t ((List.range rest.length).map fun i=>rest.getD i 0 - (if t<=i/\i<t+r.length then f*r.getD (i - t) 0 else 0)) (f::out)
noncomputable def mZ (l r:dN):dN:=if l=[] then[] else Ly r (l.length - r.length+1) l []
noncomputable def e9 (p:dN):Int:=p.headD 0
noncomputable def lE (x y:Int):Int:=(Nat.gcd x.natAbs y.natAbs:Int)
noncomputable def cont (p:dN):Int:=p.foldl lE 0
noncomputable def prim (p:dN):dN:=p.map fun x=>x.fdiv (cont p)
noncomputable def lI (rest right:dN):dN:=uh (rest.map fun x=>lc right*x) (List.replicate (rest.length - right.length) 0 ++ right.map fun y=>lc rest*y)
noncomputable def zj:Nat->dN->dN->dN
 |0,rest,_=>rest
 |f+1,rest,right=>if rest.length<right.length then rest else zj f (lI rest right) right
noncomputable def gP (l r:dN):dN:=zj (l.length+1) l r
noncomputable def A7:Nat->dN->dN->dN
 |0,l,_=>l
 |f+1,l,s=>if s=[] then l else A7 f s (prim (gP l s))
noncomputable def pO (l r:dN):dN:=A7 (r.length+1) (prim l) (prim r)
noncomputable def sN (p:dN) (f:Int):List Int:=(p.length:Int)::p.reverse.map fun x=>x.fdiv f
noncomputable def sO (top dF:dN):List Int:=
 if top=[] then[1,0,1,1] else
  let g:=pO top dF;let a:=mZ top g;let b:=mZ dF g;let f:=lE (cont a) (cont b);let f:=if lc b<0 then -f else f
  sN a f ++ sN b f
noncomputable abbrev jI:=List dN
noncomputable def oe (t:List jI) (k:Nat):Nat->Option Nat
 |0=>none
 |f+1=>let p:=t.length - (f+1)
  if(t.getD p []).getD k []≠[] then some p else oe t k f
noncomputable def lN (row by_:jI) (k:Nat) (before:dN):jI:=
 (List.range row.length).map fun j=>if k<j then mZ (uh (gX (by_.getD k []) (row.getD j [])) (gX (row.getD k []) (by_.getD j []))) before else row.getD j []
noncomputable def zl (t:List jI) (k:Nat) (before:dN):List jI:=
 (List.range t.length).map fun i=>if i=k then t.getD k [] else lN (t.getD i []) (t.getD k []) k before
noncomputable def nS (t:List jI) (i k:Nat):List jI:=(t.set i (t.getD k [])).set k (t.getD i [])
noncomputable def xn:Nat->Nat->List jI->dN->Option (dN×List dN)
 |0,_,t,before=>some (before,t.map fun r=>r.getD (r.length - 1) [])
 |f+1,k,t,before=>match oe t k (t.length - k) with
  |none=>none
  |some c=>xn f (k+1) (zl (nS t c k) k before) ((t.getD c []).getD k [])
noncomputable def sol (t:List jI):Option (dN×List dN):=xn t.length 0 t [1]
structure Part where
 kind:Int
 a:Int
 b:Int
 c:Int
 d:Int
 top:Int
 dF:Int
noncomputable def Part.of (r:List Int):Part:=⟨r.getD 0 0,r.getD 1 0,r.getD 2 0,r.getD 3 0,r.getD 4 0,r.getD 5 0,r.getD 6 0⟩
noncomputable def p0:Part:=⟨0,0,0,0,0,0,0⟩
structure Nw where
 last:Int
 c9:List Part
noncomputable def dM (d8:List Int):List (List Int):=(List.range ((d8.length - 1+6) / 7)).map fun i=>(d8.drop (1+7*i)).take 7
noncomputable def iu (r:List Int):Bool:=
 if ¬(0<=r.getD 0 0/\r.getD 0 0<=13) then false
 else if ¬((r.drop 1).take 4).all (fun p=>decide (0<=p/\p<=63))=true then false
 else decide ((r.getD 5 0).natAbs<=1000000)&&decide (1<=r.getD 6 0/\r.getD 6 0<=1000000)
noncomputable def nA (d8:List Int):Bool:=
 if d8.length=0\/¬(1<=d8.headD 0/\d8.headD 0<=8) then false
 else if(d8.length - 1) % 7≠0 then false
 else if 10<(dM d8).length then false
 else if ¬(dM d8).all iu=true then false
 else decide (((dM d8).filter fun r=>decide (r.getD 0 0=13)).length<=3)
noncomputable def fb (d8:List Int):Nw:=⟨d8.headD 0,(dM d8).map Part.of⟩
noncomputable def gG (p:Part):List Int:=if p.kind=3 then[] else if p.kind=6\/p.kind=7\/p.kind=10\/p.kind=11 then[p.a,p.b,p.c,p.d] else[p.a,p.b]
noncomputable def lO (p:Part):Bool:=
 if p.kind=0\/p.kind=1\/p.kind=2 then decide (0<p.top)
 else if p.kind=10 then decide (p.top≠0)
 else if p.kind=11 then decide (p.top=0)
 else if p.kind=12 then decide (p.top=0\/p.top=p.dF)
 else if p.kind=13 then decide (0<=p.top)
 else true
noncomputable def kindAt (ps:List Part) (i:Int):Int:=(ps.getD i.toNat p0).kind
noncomputable def fF (ps:List Part) (k:Nat):Bool:=
 let p:=ps.getD k p0
 if ¬(p.kind=8\/p.kind=9) then true else decide (p.c<k)&&decide (kindAt ps p.c≠3)
noncomputable def dU (ps:List Part) (i:Int) (k:Nat):Bool:=decide (i<k)&&decide (kindAt ps i=2)
noncomputable def jj (p:Part) (one other:Int):Bool:=if p.kind≠3 then false else decide ((p.a=one/\p.b=other)\/(p.a=other/\p.b=one))
noncomputable def tooMuch (c one other:Part):Bool:=decide (one.top*other.top*c.dF*c.dF<c.top*c.top*one.dF*other.dF)
noncomputable def lQ (ps:List Part) (k:Nat):Int:=
 let p:=ps.getD k p0
 if p.a=p.b\/dU ps p.a k=false\/dU ps p.b k=false then 3
 else if(ps.take k).any (fun q=>jj q p.a p.b)=true then 3
 else if tooMuch p (ps.getD p.a.toNat p0) (ps.getD p.b.toNat p0)=true then 2
 else 0
noncomputable def gH (n:Nw) (k:Nat):Int:=
 let p:=n.c9.getD k p0
 if(gG p).any (fun v=>decide (n.last<v))=true then 1
 else if lO p=false then 2
 else if fF n.c9 k=false then 3
 else if p.kind=3 then lQ n.c9 k
 else 0
noncomputable def jk (n:Nw):Nat->List Int
 |0=>[]
 |f+1=>let k:=n.c9.length - (f+1)
  if gH n k≠0 then[(k:Int),gH n k] else jk n f
noncomputable def fault (n:Nw):List Int:=jk n n.c9.length
noncomputable def fq (d8:List Int):List Int:=
 if nA d8=false then[-1] else match fault (fb d8) with
  |[]=>[]
  |f=> -2::f
noncomputable abbrev Term:=Int×dN
noncomputable def hW (p:Part):Int:=if p.kind=3 then 0 else if p.kind=10 then 2 else 1
noncomputable def width (n:Nw):Int:=n.last+(n.c9.map hW).sum
noncomputable def fX (free:Int):List Part->List Int
 |[]=>[]
 |p::r=>free::fX (free+hW p) r
noncomputable def places (n:Nw):List Int:=fX n.last n.c9
structure lJ where
 d8:Nw
 s:dN
 gI:List Bool
 drives:List (Int×Int)
noncomputable def HS (first second:Int):List Term:=(if 0<first then[(first - 1,[1])] else[]) ++ (if 0<second then[(second - 1,[-1])] else[])
noncomputable def lS (p:Part):List Term:=HS p.a p.b
noncomputable def Gj (p:Part):List Term:=HS p.c p.d
noncomputable def cur (g:lJ) (k:Int):List Term:=[((places g.d8).getD k.toNat 0,[1])]
noncomputable def rG (ts:List Term) (p:dN):List Term:=ts.map fun t=>(t.1,gX t.2 p)
noncomputable def og (p:Part) (l r:List Term):List Term:=rG l (cst p.dF) ++ rG r (cst (-p.top))
noncomputable def BD (g:lJ) (k:Nat) (ts:List Term):List Term:=rG ts (cst (g.drives.getD k (0,1)).2) ++ [(width g.d8,cst (g.drives.getD k (0,1)).1)]
noncomputable def eQ (ps:List Part) (k:Nat):List (Int×Int×Int):=
 ((k:Int),(ps.getD k p0).top,(ps.getD k p0).dF)::(ps.filter fun p=>decide (p.kind=3/\((k:Int)=p.a\/(k:Int)=p.b))).map fun p=>(p.a+p.b - k,p.top,p.dF)
noncomputable def common (sh:List (Int×Int×Int)):Int:=sh.foldl (fun c x=>c*x.2.2) 1
noncomputable def mG (g:lJ) (k:Nat):List Term:=
 let sh:=eQ g.d8.c9 k
 rG (lS (g.d8.c9.getD k p0)) (cst (common sh)) ++ sh.flatMap fun x=>rG (rG (cur g x.1) g.s) (cst (-x.2.1*(common sh).fdiv x.2.2))
noncomputable def fT (g:lJ) (k:Nat):List (List Term):=
 let p:=g.d8.c9.getD k p0;match p.kind.toNat with
 |0=>[og p (lS p) (cur g k)]
 |1=>[og p (cur g k) (rG (lS p) g.s)]
 |2=>[mG g k]
 |3=>[]
 |4=>[BD g k (lS p)]
 |5=>[BD g k (cur g k)]
 |6=>[og p (lS p) (Gj p)]
 |7=>[og p (cur g k) (Gj p)]
 |8=>[og p (lS p) (cur g p.c)]
 |9=>[og p (cur g k) (cur g p.c)]
 |10=>[og p (lS p) (Gj p),og p [((places g.d8).getD k 0+1,[1])] (rG (cur g k) [-1])]
 |11=>[Gj p]
 |12=>[if p.top=0 then cur g k else lS p]
 |_=>if g.gI.getD k false=true then[BD g k (lS p)] else[cur g k]
noncomputable def iP (n:Nw) (v:Int):List Term:=
 (n.c9.zip (places n)).flatMap fun x=>if x.1.kind=3 then[] else
  (if x.1.a=v then[(x.2,[1])] else[]) ++ (if x.1.b=v then[(x.2,[-1])] else[]) ++
   (if x.1.kind=10 then(if x.1.c=v then[(x.2+1,[1])] else[]) ++ (if x.1.d=v then[(x.2+1,[-1])] else[]) else[])
noncomputable def ui (row:jI) (t:Term):jI:=row.set t.1.toNat (Ce (row.getD t.1.toNat []) t.2)
noncomputable def rowOf (w:Int) (ts:List Term):jI:=ts.foldl ui (List.replicate (w+1).toNat [])
noncomputable def gV (g:lJ):List (List Term):=((List.range g.d8.last.toNat).map fun(v:Nat)=>iP g.d8 ((v:Int)+1)) ++ (List.range g.d8.c9.length).flatMap fun k=>fT g k
noncomputable def rows (g:lJ):List jI:=(gV g).map (rowOf (width g.d8))
noncomputable def eW:List Part->List (List Bool)->List (List Bool)
 |[],rs=>rs
 |p::r,rs=>eW r (rs.flatMap fun row=>if p.kind=13 then[row ++ [false],row ++ [true]] else[row ++ [false]])
noncomputable def gy (s:dN×List dN) (v:Int):dN:=if 0<v then s.2.getD (v - 1).toNat [] else[]
noncomputable def oh (g:lJ) (s:dN×List dN) (k:Nat):dN:=s.2.getD ((places g.d8).getD k 0).toNat []
noncomputable def jl (s:dN×List dN) (a b:Int):dN:=uh (gy s a) (gy s b)
noncomputable def pP (g:lJ) (s:dN×List dN) (k:Nat):dN:=jl s (g.d8.c9.getD k p0).a (g.d8.c9.getD k p0).b
noncomputable def vW (g:lJ) (s:dN×List dN) (k:Nat):Bool:=
 let p:=g.d8.c9.getD k p0;let d:=e9 s.1
 if g.gI.getD k false=true then decide (0<=e9 (oh g s k)*d)
 else decide (e9 (pP g s k)*d*p.dF<=p.top*d*d)
noncomputable def jv (g:lJ) (s:dN×List dN):Bool:=((List.range g.d8.c9.length).filter fun k=>decide ((g.d8.c9.getD k p0).kind=13)).all fun k=>vW g s k
noncomputable def mH (n:Nw):List (List Bool)->Option (List Bool×(dN×List dN))
 |[]=>none
 |st::r=>let g:lJ:=⟨n,[],st,n.c9.map fun p=>(p.top,p.dF)⟩
  match sol (rows g) with
  |none=>mH n r
  |some s=>if jv g s=true then some (st,s) else mH n r
noncomputable def point (n:Nw):Option (List Bool×(dN×List dN)):=mH n (eW n.c9 [[]])
noncomputable def AG (n:Nw) (k:Int):Bool:=decide (k<n.c9.length)&&decide (kindAt n.c9 k=4\/kindAt n.c9 k=5)
noncomputable def iw (n:Nw) (st:List Bool) (source:Int):lJ:=⟨n,[0,1],st,(List.range n.c9.length).map fun(k:Nat)=>if(k:Int)=source then(1,1) else(0,1)⟩
end de
namespace de
open Lean.Grind
open Wh (valueAt)
theorem BE(c:dN):∀n,sZ c n<=n
 |0=>aj _
 |n+1=>by
  unfold sZ;split
  ·exact Nat.le_succ_of_le (BE c n)
  ·exact aj _
theorem EW(c:dN):∀n i,sZ c n<=i->i<n->c.getD i 0=0
 |0,i,_,h=>by lia
 |n+1,i,h,hi=>by
  unfold sZ at h;split at h
  ·rename_i e;by_cases q:i=n
   ·subst q;exact e
   ·exact EW c n i h (by lia)
  ·lia
theorem EX(c:dN):∀n,0<sZ c n->c.getD (sZ c n - 1) 0≠0
 |0,h=>by
  unfold sZ at h;lia
 |n+1,h=>by
  unfold sZ at h⊢;split
  ·rename_i e;rw[ah e] at h;exact EX c n h
  ·rename_i e;exact e
theorem MI(l:dN)(n i:Nat):(l.take n).getD i 0=if i<n then l.getD i 0 else 0:=by
 rw[gDe,gDe,List.getElem?_take];split <;>rfl
theorem Gk(c:dN)(i:Nat):(JY c).getD i 0=c.getD i 0:=by
 unfold JY;rw[MI];split
 ·rfl
 ·rename_i h;by_cases q:i<c.length
  ·exact(EW c c.length i (by lia) q).symm
  ·rw[gDe,aI (by lia)];rfl
theorem BF(c:dN):(JY c).length=sZ c c.length:=by
 unfold JY;rw[aD];have:=BE c c.length;lia
theorem Gm(c:dN):(JY c).length<=c.length:=by rw[BF];exact BE _ _
theorem fB{l:dN}:Trim l↔(l≠[]->lc l≠0):=by
 unfold Trim lc;cases l with
 |nil=>simp
 |cons a l=>
  rw[cy,aa (by simp),gDe,aa (by simp)];simp
theorem uj:Trim []:=by unfold Trim;simp
theorem oj(c:dN):Trim (JY c):=by
 rw[fB];intro h;unfold lc;rw[Gk,BF];refine EX c _ ?_;rw[<-BF];exact aE.mpr h
theorem JZ:∀{l m:dN},(∀i,l.getD i 0=m.getD i 0)->dG l=dG m:=by
 intro l;induction l with
 |nil=>
  intro m;induction m with
  |nil=>intro _;rfl
  |cons b m ih=>
   intro h;have h0:(0:Int)=b:=by simpa using h 0
   subst h0;have e:=ih fun i=>by simpa using h (i+1)
   refine PF.ext fun x=> ?_
   rw[fi,<-e];show(0:Rat)=((0:Int):Rat)+x*0;grind
 |cons a l ih=>
  intro m h;cases m with
  |nil=>
   have h0:a=0:=by simpa using h 0
   subst h0;have e:=ih (m:=[]) fun i=>by simpa using h (i+1)
   refine PF.ext fun x=> ?_
   rw[fi,e];show((0:Int):Rat)+x*0=0;grind
  |cons b m=>
   have h0:a=b:=by simpa using h 0
   subst h0;have e:=ih (m:=m) fun i=>by simpa using h (i+1)
   exact PF.ext fun x=>by rw[fi,fi,e]
theorem xo(c:dN):dG (JY c)=dG c:=JZ (Gk c)
theorem fK{l:dN}(h:Trim l):dG l=0↔l=[]:=
 ⟨fun e=>pN h uj e,fun e=>by subst e;rfl⟩
theorem J0(x:Rat):∀l r:dN,(dG (iJ l r)).f x=(dG l).f x+(dG r).f x
 |[],r=>by
  show(dG r).f x=0+(dG r).f x;grind
 |a::l,[]=>by
  show(dG (a::l)).f x=(dG (a::l)).f x+0;grind
 |a::l,b::r=>by
  show(dG ((a+b)::iJ l r)).f x=_;rw[fi,fi,fi,J0 x l r,Rat.intCast_add];grind
theorem xp(l r:dN):dG (iJ l r)=dG l+dG r:=PF.ext fun x=>by rw[J0,PF.US]
theorem iZ:∀(l r:dN) (i:Nat),(iJ l r).getD i 0=l.getD i 0+r.getD i 0
 |[],r,i=>by
  show r.getD i 0=([]:dN).getD i 0+r.getD i 0;simp
 |a::l,[],i=>by
  show(a::l).getD i 0=(a::l).getD i 0+([]:dN).getD i 0;simp
 |a::l,b::r,0=>rfl
 |a::l,b::r,i+1=>by
  show(iJ l r).getD i 0=l.getD i 0+r.getD i 0;exact iZ l r i
theorem jw:∀l r:dN,(iJ l r).length=max l.length r.length
 |[],r=>by
  show r.length=max 0 r.length;lia
 |a::l,[]=>by
  show(a::l).length=max (a::l).length 0;lia
 |a::l,b::r=>by
  show(iJ l r).length+1=max (l.length+1) (r.length+1);rw[jw l r];lia
theorem HU(l r:dN):dG (Ce l r)=dG l+dG r:=by unfold Ce;rw[xo,xp]
theorem MJ(l r:dN):Trim (Ce l r):=oj _
theorem Gn(l:dN):dG (Lx l)= - dG l:=PF.ext fun x=>by
 rw[PF.UT];induction l with
 |nil=>show(0:Rat)= - 0;grind
 |cons a l ih=>
  show(dG (-a::Lx l)).f x=_;rw[fi,ih,fi,Rat.intCast_neg];grind
theorem xq(l:dN):(Lx l).length=l.length:=by unfold Lx;simp
theorem iQ(f:Int->Int)(h0:f 0=0)(l:dN)(i:Nat):(l.map f).getD i 0=f (l.getD i 0):=by
 rw[gDe,gDe,aC];cases l[i]? with
 |none=>exact h0.symm
 |some v=>rfl
theorem OH(f:Int->Int)(h0:f 0=0)(h:∀x,x≠0->f x≠0){l:dN}(t:Trim l):Trim (l.map f):=by
 rw[fB] at t⊢;intro hl;unfold lc;rw[iQ f h0,lMp];exact h _ (t fun e=>hl (by rw[e];rfl))
theorem qT(l r:dN):dG (uh l r)=dG l - dG r:=by
 unfold uh;rw[HU,Gn];grind
theorem u5(l r:dN):Trim (uh l r):=oj _
theorem u6(x:Int):dG (cst x)=PF.const (x:Rat):=by
 unfold cst;refine PF.ext fun y=> ?_
 split
 ·rename_i e;subst e;show(0:Rat)=((0:Int):Rat);grind
 ·rw[fi];show(x:Rat)+y*0=(x:Rat);grind
theorem BG(a:Int)(x:Rat):∀q:dN,(dG (q.map fun y=>a*y)).f x=(a:Rat)*(dG q).f x
 |[]=>by
  show(0:Rat)=(a:Rat)*0;grind
 |b::q=>by
  show(dG (a*b::q.map fun y=>a*y)).f x=_;rw[fi,BG a x q,fi,Rat.intCast_mul];grind
theorem g9(a:Int)(q:dN):dG (q.map fun y=>a*y)=PF.const (a:Rat)*dG q:=PF.ext fun x=>BG a x q
theorem OI(x:Rat):∀l r:dN,(dG (mulL l r)).f x=(dG l).f x*(dG r).f x
 |[],r=>by
  show(0:Rat)=0*(dG r).f x;grind
 |a::l,r=>by
  show(dG (iJ (r.map fun y=>a*y) (0::mulL l r))).f x=_;rw[J0,BG,fi,OI x l r,fi];grind
theorem jx(l r:dN):dG (mulL l r)=dG l*dG r:=PF.ext fun x=>OI x l r
theorem iy:∀(l r:dN),l≠[]->r≠[]->(mulL l r).length=l.length+r.length - 1
 |[],_,h,_=>absurd rfl h
 |a::[],r,_,hr=>by
  show(iJ (r.map fun y=>a*y) [0]).length=1+r.length - 1;rw[jw,lMp];have:0<r.length:=aE.mpr hr;show max r.length 1=_;lia
 |a::b::l,r,_,hr=>by
  have ih:=iy (b::l) r (by simp) hr;show(iJ (r.map fun y=>a*y) (0::mulL (b::l) r)).length=_;rw[jw,lMp,au,ih];have:0<r.length:=aE.mpr hr;simp only[au];lia
theorem Lz:∀(l r:dN),l≠[]->r≠[]->lc (mulL l r)=lc l*lc r
 |[],_,h,_=>absurd rfl h
 |a::[],r,h1,hr=>by
  unfold lc;rw[iy _ r h1 hr];show(iJ (r.map fun y=>a*y) [0]).getD _ 0=a*r.getD (r.length - 1) 0;rw[iZ,iQ _ (by lia)];have e:([a].length+r.length - 1 - 1)=r.length - 1:=by simp only[au,bJ];lia
  rw[e];have z:([0]:dN).getD (r.length - 1) 0=0:=by
   cases r.length - 1 <;>simp
  rw[z];lia
 |a::b::l,r,h1,hr=>by
  have ih:=Lz (b::l) r (by simp) hr;have n:=iy (b::l) r (by simp) hr;have pr:0<r.length:=aE.mpr hr;unfold lc at ih⊢;rw[iy _ r h1 hr];show(iJ (r.map fun y=>a*y) (0::mulL (b::l) r)).getD _ 0=_;rw[iZ,iQ _ (by lia)];have e:((a::b::l).length+r.length - 1 - 1)=(mulL (b::l) r).length - 1+1:=by rw[n];simp only[au];lia
  rw[e];have z:r.getD ((mulL (b::l) r).length - 1+1) 0=0:=by
   rw[gDe,aI (by rw[n];simp only[au];lia)];rfl
  rw[z];show a*0+(mulL (b::l) r).getD ((mulL (b::l) r).length - 1) 0=_;rw[ih];show a*0+_=(b::l).getD (b::l).length.pred 0*_;simp
theorem jU(l r:dN):dG (gX l r)=dG l*dG r:=by
 unfold gX;split
 ·rename_i h;rcases h with h |h
  ·subst h;show(0:PF)=0*dG r;grind
  ·subst h;show(0:PF)=dG l*0;grind
 ·exact jx l r
theorem qU{l r:dN}(hl:Trim l)(hr:Trim r):Trim (gX l r):=by
 unfold gX;split
 ·exact uj
 ·rename_i h;have h1:l≠[]:=fun e=>h (.inl e)
  have h2:r≠[]:=fun e=>h (.inr e)
  rw[fB];intro _;rw[Lz l r h1 h2];exact Int.mul_ne_zero (fB.mp hl h1) (fB.mp hr h2)
theorem xr{l r:dN}(h1:l≠[])(h2:r≠[]):(gX l r).length=l.length+r.length - 1:=by
 unfold gX;rw[af (fun h=>h.elim h1 h2),iy l r h1 h2]
theorem MK(n:Nat)(f:Nat->Int)(i:Nat):((List.range n).map f).getD i 0=if i<n then f i else 0:=by
 rw[gDe,aC];by_cases h:i<n
 ·rw[ah h,bF h];rfl
 ·rw[af h,aI (by simpa using h)];rfl
theorem i8:∀(m:dN) (c:Int) (r:dN) (i:Nat),(mulL (m ++ [c]) r).getD i 0=(mulL m r).getD i 0+(if m.length<=i then c*r.getD (i - m.length) 0 else 0)
 |[],c,r,i=>by
  show(iJ (r.map fun y=>c*y) [0]).getD i 0=0+_;rw[iZ,iQ _ (by lia),ah (show([]:dN).length<=i from aM _)];have z:([0]:dN).getD i 0=0:=by cases i <;>simp
  rw[z];simp
 |a::m,c,r,0=>by
  show(iJ (r.map fun y=>a*y) (0::mulL (m ++ [c]) r)).getD 0 0=(iJ (r.map fun y=>a*y) (0::mulL m r)).getD 0 0+_;rw[iZ,iZ,af (by simp)];simp
 |a::m,c,r,i+1=>by
  show(iJ (r.map fun y=>a*y) (0::mulL (m ++ [c]) r)).getD (i+1) 0=(iJ (r.map fun y=>a*y) (0::mulL m r)).getD (i+1) 0+_;rw[iZ,iZ];show _+ (mulL (m ++ [c]) r).getD i 0=_+ (mulL m r).getD i 0+_;rw[i8 m c r i];simp only[au,Nat.add_le_add_iff_right,Nat.add_sub_add_right];lia
theorem zo:∀(m:dN) (r:dN) (i:Nat),r≠[]->m.length+r.length - 1<=i->(mulL m r).getD i 0=0
 |[],r,i,_,_=>by
  show([]:dN).getD i 0=0;simp
 |a::m,r,i,hr,h=>by
  have n:=iy (a::m) r (by simp) hr;rw[gDe,aI (by lia)];rfl
theorem Cf(m:dN)(t:Nat)(h:t<m.length):m.take (t+1)=m.take t ++ [m.getD t 0]:=by
 rw[a5,aa h,gDe,aa h];rfl
theorem HV(r:dN)(hr:r≠[])(hl:lc r≠0)(m:dN):∀(t:Nat) (rest:dN),t<=m.length->(∀i,rest.getD i 0=(mulL (m.take t) r).getD i 0)->t+r.length - 1<=rest.length->Ly r t rest (m.drop t)=m
 |0,rest,_,_,_=>by
  show m.drop 0=m;rfl
 |t+1,rest,ht,h,hz=>by
  have pr:0<r.length:=aE.mpr hr;have hm:m.take (t+1)=m.take t ++ [m.getD t 0]:=Cf m t (by lia);have tl:(m.take t).length=t:=by rw[aD];lia
  have ef:(rest.getD (t+r.length - 1) 0).fdiv (lc r)=m.getD t 0:=by
   rw[h,hm,i8,tl,zo (m.take t) r _ hr (by lia),ah (by lia)];have e:t+r.length - 1 - t=r.length - 1:=by lia
   rw[e];show(0+m.getD t 0*lc r).fdiv (lc r)=_;rw[Int.zero_add,c6 _ hl]
  show Ly r t ((List.range rest.length).map fun i=>rest.getD i 0 - (if t<=i/\i<t+r.length then(rest.getD (t+r.length - 1) 0).fdiv (lc r)*r.getD (i - t) 0 else 0)) ((rest.getD (t+r.length - 1) 0).fdiv (lc r)::m.drop (t+1))=m;rw[ef];have ed:m.getD t 0::m.drop (t+1)=m.drop t:=by
   rw[gDe,aa (by lia:t<m.length)];exact(cV (by lia)).symm
  rw[ed];refine HV r hr hl m t _ (by lia) (fun i=> ?_) (by rw[lMp,bH];lia);rw[MK];by_cases hi:i<rest.length
  ·rw[ah hi,h,hm,i8,tl];by_cases q:t<=i
   ·rw[ah q];by_cases q2:i<t+r.length
    ·rw[ah ⟨q,q2⟩];lia
    ·rw[af (fun z=>q2 z.2)];have:r.getD (i - t) 0=0:=by rw[gDe,aI (by lia)];rfl
     rw[this];lia
   ·rw[af q,af (fun z=>q z.1)];lia
  ·rw[af hi];exact(zo (m.take t) r i hr (by rw[tl];lia)).symm
theorem pQ{l r m:dN}(hl:Trim l)(hr:Trim r)(hm:Trim m)(hr0:r≠[])(h:dG l=dG m*dG r):mZ l r=m:=by
 by_cases q:m=[]
 ·subst q;have e:l=[]:=(fK hl).mp (by rw[h];show(0:PF)*_=0;grind);unfold mZ;rw[ah e]
 ·have el:l=mulL m r:=by
   have t:Trim (mulL m r):=by
    have:=qU hm hr;unfold gX at this
    rwa [af (fun h=>h.elim q hr0)] at this
   exact pN hl t (by rw[h,jx])
  have n:=iy m r q hr0;have pm:0<m.length:=aE.mpr q;have pr:0<r.length:=aE.mpr hr0;unfold mZ;rw[af (fun e=>by rw[el] at e;have:=congrArg List.length e;rw[n] at this;simp at this;lia),el,n];have e:m.length+r.length - 1 - r.length+1=m.length:=by lia
  rw[e];have d:=HV r hr0 (fB.mp hr hr0) m m.length (mulL m r) (aj _) (fun i=>by rw[aG]) (by lia);rw[List.drop_length] at d;exact d
end de
namespace de
open Lean.Grind
noncomputable def ij (l:dN):Nat:=(l.map Int.natAbs).sum
structure Bd(f:PF)(d B:Nat):Prop where
 ex:∃l:dN,Trim l/\dG l=f/\l.length<=d+1/\ij l<=B
noncomputable def jV (f:PF):Prop:=∃l:dN,Trim l/\dG l=f
theorem u7(l:dN):jV (dG l):=⟨JY l,oj l,xo l⟩
theorem ML:jV 0:=u7 []
theorem Cg:jV 1:=by
 have e:dG [1]=1:=PF.ext fun x=>by
  rw[fi];show((1:Int):Rat)+x*0=((1:Nat):Rat);grind
 exact e▸u7 [1]
theorem jV.add{f g:PF}(hf:jV f)(hg:jV g):jV (f+g):=by
 obtain⟨l,_,rfl⟩:=hf;obtain⟨m,_,rfl⟩:=hg;exact xp l m▸u7 _
theorem jV.mul{f g:PF}(hf:jV f)(hg:jV g):jV (f*g):=by
 obtain⟨l,_,rfl⟩:=hf;obtain⟨m,_,rfl⟩:=hg;exact jx l m▸u7 _
theorem jV.neg{f:PF}(hf:jV f):jV (- f):=by
 obtain⟨l,_,rfl⟩:=hf;exact Gn l▸u7 _
theorem jV.sub{f g:PF}(hf:jV f)(hg:jV g):jV (f - g):=by
 have e:f - g=f+ - g:=by grind
 rw[e];exact hf.add hg.neg
theorem QU(i:Nat):jV (sg i):=by
 unfold sg;split
 ·exact Cg
 ·exact Cg.neg
theorem zx:∀(n:Nat) {f:Nat->PF},(∀i,i<n->jV (f i))->jV (eC n f)
 |0,_,_=>ML
 |n+1,f,h=>(zx n fun i hi=>h i (by lia)).add (h n (by lia))
theorem Ci:∀(n:Nat) {A:Nat->Nat->PF},(∀i j,i<n->j<n->jV (A i j))->jV (det n A)
 |0,_,_=>Cg
 |n+1,A,h=>by
  rw[gr];refine zx _ fun i hi=>(QU i).mul ((h i 0 hi (by lia)).mul (Ci n fun a b ha hb=>h _ _ (xk ha) (by lia)))
noncomputable def ent (t:List jI) (i j:Nat):dN:=(t.getD i []).getD j []
structure Tab(n:Nat)(t:List jI):Prop where
 len:t.length=n
 row:∀i,i<n->(t.getD i []).length=n+1
 trim:∀i j,i<n->j<n+1->Trim (ent t i j)
noncomputable def sP (t:List jI):Nat->Nat->PF:=fun i j=>dG (ent t i j)
structure Ord(n:Nat)(σ:Nat->Nat)(ε:PF):Prop where
 lt:∀i,i<n->σ i<n
 OJ:∀i,i<n->∃a,a<n/\σ a=i
 sgn:ε=1\/ε= -1
 det:∀F:Nat->Nat->PF,det n (fun i j=>F (σ i) j)=ε*det n F
theorem Ord.id(n:Nat):Ord n (fun i=>i) 1:=⟨fun i h=>h,fun i h=>⟨i,h,rfl⟩,.inl rfl,fun F=>by grind⟩
theorem UU(r t i:Nat):sw r t (sw r t i)=i:=by
 unfold sw
 repeat' split
 all_goals lia
theorem pS{r t i n:Nat}(hr:r<n)(ht:t<n)(hi:i<n):sw r t i<n:=by
 unfold sw
 repeat' split
 all_goals lia
theorem uo{R:Type}(A:Nat->Nat->R)(r t:Nat):gO A r t=fun i j=>A (sw r t i) j:=by
 funext i j;show(if i=r then A t j else if i=t then A r j else A i j)=A (if i=r then t else if i=t then r else i) j;by_cases q:i=r
 ·rw[ah q,ah q]
 ·rw[af q,af q];by_cases q2:i=t
  ·rw[ah q2,ah q2]
  ·rw[af q2,af q2]
theorem Ord.swap{n:Nat}{σ:Nat->Nat}{ε:PF}(o:Ord n σ ε)(r t:Nat)(hr:r<n)(ht:t<n):∃ε',Ord n (fun i=>σ (sw r t i)) ε':=by
 have lt:∀i,i<n->σ (sw r t i)<n:=fun i hi=>o.lt _ (pS hr ht hi)
 have OJ:∀i,i<n->∃a,a<n/\σ (sw r t a)=i:=fun i hi=>by
  obtain⟨a,ha,e⟩:=o.OJ i hi;exact⟨sw r t a,pS hr ht ha,by rw[UU];exact e⟩
 by_cases q:r=t
 ·subst q;refine⟨ε,lt,OJ,o.sgn,fun F=> ?_⟩;have e:∀i,sw r r i=i:=fun i=>by
   unfold sw
   repeat' split
   all_goals lia
  simp only[e];exact o.det F
 ·refine⟨-ε,lt,OJ,?_,fun F=> ?_⟩
  ·rcases o.sgn with e |e
   ·exact .inr (by rw[e])
   ·exact .inl (by rw[e];grind)
  ·have d:=OB n (fun i j=>F (σ i) j) r t hr ht q;rw[uo] at d;rw[d,o.det F];grind
theorem Ord.ne{n:Nat}{σ:Nat->Nat}{ε:PF}(o:Ord n σ ε):ε*ε=1:=by
 rcases o.sgn with e |e <;>rw[e] <;>grind
theorem S1:(1:PF)≠0:=fun e=>by
 have e1:(1:PF).f 0=(0:PF).f 0:=by rw[e]
 have e2:(1:Rat)=0:=e1;exact absurd e2 (by decide)
theorem HW(t:List jI)(i a:Nat)(r:jI)(h:i<t.length):(t.set i r).getD a []=if a=i then r else t.getD a []:=by
 rw[gDe,gDe,cC];by_cases q:i=a
 ·subst q;rw[ah rfl,ah h,ah rfl];rfl
 ·rw[af q,af (bL q)]
theorem BH(t:List jI)(c k a:Nat)(hc:c<t.length)(hk:k<t.length):(nS t c k).getD a []=t.getD (sw c k a) []:=by
 unfold nS;rw[HW _ _ _ _ (by rw[bX];exact hk),HW _ _ _ _ hc];unfold sw;by_cases q:a=k
 ·subst q;rw[ah rfl];by_cases q2:a=c
  ·subst q2;rw[ah rfl]
  ·rw[af q2,ah rfl]
 ·rw[af q];by_cases q2:a=c
  ·rw[ah q2,ah q2]
  ·rw[af q2,af q2,af q]
theorem kr{α:Type}(n:Nat)(f:Nat->α)(i:Nat)(d:α)(h:i<n):((List.range n).map f).getD i d=f i:=by
 rw[gDe,aC,bF h];rfl
theorem Gp(t:List jI)(k:Nat)(before:dN)(i j:Nat)(hi:i<t.length)(hj:j<(t.getD i []).length):
  ent (zl t k before) i j=if i=k then ent t k j else if k<j then mZ (uh (gX (ent t k k) (ent t i j)) (gX (ent t i k) (ent t k j))) before else ent t i j:=by
 unfold ent zl;rw[kr _ _ _ _ hi];by_cases q:i=k
 ·rw[ah q,ah q]
 ·rw[af q,af q];unfold lN;rw[kr _ _ _ _ hj]
theorem LA(t:List jI)(k:Nat)(before:dN)(i:Nat)(hi:i<t.length):((zl t k before).getD i []).length=(t.getD i []).length:=by
 unfold zl;rw[kr _ _ _ _ hi];by_cases q:i=k
 ·rw[ah q,q]
 ·rw[af q];unfold lN;simp
structure T3(n k:Nat)(A:Nat->Nat->PF)(t:List jI)(before:dN)(σ:Nat->Nat)(ε:PF):Prop where
 tab:Tab n t
 ord:Ord n σ ε
 HX:Trim before
 Ea:dG before=mk (fun i j=>A (σ i) j) k
 ne:mk (fun i j=>A (σ i) j) k≠0
 up:∀i j,i<k->k<=j->j<n+1->dG (ent t i j)=mc (fun i j=>A (σ i) j) k i j
 low:∀i j,k<=i->i<n->k<=j->j<n+1->dG (ent t i j)=ti (fun i j=>A (σ i) j) k i j
theorem EY(n:Nat)(t:List jI)(h:Tab n t):T3 n 0 (sP t) t [1] (fun i=>i) 1 where
 tab:=h
 ord:=Ord.id n
 HX:=by unfold Trim;simp
 Ea:=by
  show dG [1]=(1:PF);refine PF.ext fun x=> ?_
  rw[fi];show((1:Int):Rat)+x*0=((1:Nat):Rat);grind
 ne:=S1
 up:=fun i j hi=>by lia
 low:=fun i j _ _ _ _=>by
  show dG (ent t i j)=(1:PF)*sP t i j - 0;unfold sP;grind
theorem HY{n k:Nat}{A:Nat->Nat->PF}{t:List jI}{before:dN}{σ:Nat->Nat}{ε:PF}(hA:∀i j,i<n->j<n+1->jV (A i j))(hk:k<n)(S:T3 n k A t before σ ε)(c:Nat)(hkc:k<=c)(hc:c<n)(hp:ent t c k≠[]):
  ∃ε',T3 n (k+1) A (zl (nS t c k) k before) (ent t c k) (fun i=>σ (sw c k i)) ε':=by
 obtain⟨ε',o'⟩:=S.ord.swap c k hc hk;refine⟨ε',?_⟩;have hB:(fun i j=>A (σ (sw c k i)) j)=gO (fun i j=>A (σ i) j) c k:=(uo (fun i j=>A (σ i) j) c k).symm;have tl:=S.tab.len;have sl:(nS t c k).length=n:=by unfold nS;rw[bX,bX];exact tl
 have sg':∀a,(nS t c k).getD a []=t.getD (sw c k a) []:=fun a=>BH t c k a (by lia) (by lia)
 have se:∀a j,ent (nS t c k) a j=ent t (sw c k a) j:=fun a j=>by unfold ent;rw[sg']
 have skk:sw c k k=c:=by
  unfold sw
  repeat' split
  all_goals lia
 have slow:∀i,i<k->sw c k i=i:=fun i hi=>by unfold sw;rw[af (by lia),af (by lia)]
 have shigh:∀i,k<=i->k<=sw c k i:=fun i hi=>by
  unfold sw
  repeat' split
  all_goals lia
 have mkS:mk (fun i j=>A (σ (sw c k i)) j) k=mk (fun i j=>A (σ i) j) k:=by rw[hB];exact Ge _ k c k hkc (aj _)
 have mcS:∀i j,mc (fun i j=>A (σ (sw c k i)) j) k i j=mc (fun i j=>A (σ i) j) k i j:=fun i j=>by rw[hB];exact Gf _ k c k i j hkc (aj _)
 have tiS:∀i j,ti (fun i j=>A (σ (sw c k i)) j) k i j=ti (fun i j=>A (σ i) j) k (sw c k i) j:=fun i j=>by rw[hB];exact Lu _ k c k i j hkc (aj _)
 have eU:∀i j,i<k->k<=j->j<n+1->dG (ent (nS t c k) i j)=mc (fun i j=>A (σ (sw c k i)) j) k i j:=fun i j hi hj hjn=>by rw[se,slow i hi,S.up i j hi hj hjn,mcS]
 have eL:∀i j,k<=i->i<n->k<=j->j<n+1->dG (ent (nS t c k) i j)=ti (fun i j=>A (σ (sw c k i)) j) k i j:=fun i j hi hin hj hjn=>by
  rw[se,S.low _ j (shigh i hi) (pS hc hk hin) hj hjn,tiS]
 have sT:∀i j,i<n->j<n+1->Trim (ent (nS t c k) i j):=fun i j hi hj=>by rw[se];exact S.tab.trim _ j (pS hc hk hi) hj
 generalize hBd:(fun i j=>A (σ (sw c k i)) j)=B at *;have hBI:∀i j,i<n->j<n+1->jV (B i j):=fun i j hi hj=>by rw[<-hBd];exact hA _ j (S.ord.lt _ (pS hc hk hi)) hj
 have xm:Reg (mk B k):=PF.xm (by rw[mkS];exact S.ne);have piv:dG (ent t c k)=mk B (k+1):=by
  have e:=eL k k (aj _) hk (aj _) (by lia);rw[se,skk] at e;rw[e,Cb B k xm]
 have ne1:mk B (k+1)≠0:=fun z=>hp ((fK (S.tab.trim c k hc (by lia))).mp (piv.trans z))
 have reg1:Reg (mk B (k+1)):=PF.xm ne1;have bne:before≠[]:=fun z=>by
  have:=S.Ea;rw[z] at this;exact S.ne this.symm
 have ekk:dG (ent (nS t c k) k k)=mk B (k+1):=by rw[se,skk];exact piv
 have imk:jV (mk B (k+1)):=Ci _ fun i j hi hj=>hBI i j (by lia) (by lia)
 have imc:∀i j,i<k+1->j<n+1->jV (mc B (k+1) i j):=fun i j hi hj=>Ci _ fun a b ha hb=>by
  show jV (if b=i then B a j else B a b);split
  ·exact hBI a j (by lia) hj
  ·exact hBI a b (by lia) (by lia)
 have iti:∀i j,i<n->j<n+1->jV (ti B (k+1) i j):=fun i j hi hj=>(imk.mul (hBI i j hi hj)).sub (zx _ fun d hd=>(hBI i d hi (by lia)).mul (imc d j hd hj))
 have dv:∀i j f,i<n->k<j->j<n+1->i≠k->jV f->mk B (k+1)*dG (ent (nS t c k) i j) - dG (ent (nS t c k) i k)*dG (ent (nS t c k) k j)=mk B k*f->∃m,Trim m/\dG m=f/\ent (zl (nS t c k) k before) i j=m:=fun i j f hi hj hjn hik hf e=>by
  obtain⟨m,tm,em⟩:=hf;refine⟨m,tm,em,?_⟩;rw[Gp _ _ _ _ _ (by lia) (by rw[sg',S.tab.row _ (pS hc hk hi)];exact hjn),af hik,ah hj];refine pQ (u5 _ _) S.HX tm bne ?_;rw[qT,jU,jU,ekk,e,em,S.Ea,<-mkS];grind
 have up':∀i j,i<k+1->k+1<=j->j<n+1->Trim (ent (zl (nS t c k) k before) i j)/\dG (ent (zl (nS t c k) k before) i j)=mc B (k+1) i j:=fun i j hi hj hjn=>by
  by_cases q:i=k
  ·subst q;rw[Gp _ _ _ _ _ (by lia) (by rw[sg',S.tab.row _ (pS hc hk hk)];exact hjn),ah rfl];exact⟨sT _ j hk hjn,by rw[eL _ j (aj _) hk (by lia) hjn,Lr B _ j xm reg1]⟩
  ·obtain⟨m,tm,em,e⟩:=dv i j (mc B (k+1) i j) (by lia) (by lia) hjn q (imc i j hi hjn) (by
    rw[eU i j (by lia) (by lia) hjn,eU i k (by lia) (aj _) (by lia),eL k j (aj _) hk (by lia) hjn];exact(BB B k j xm reg1 i (by lia)).1)
   rw[e];exact⟨tm,em⟩
 have low':∀i j,k+1<=i->i<n->k+1<=j->j<n+1->Trim (ent (zl (nS t c k) k before) i j)/\dG (ent (zl (nS t c k) k before) i j)=ti B (k+1) i j:=fun i j hi hin hj hjn=>by
  obtain⟨m,tm,em,e⟩:=dv i j (ti B (k+1) i j) hin (by lia) hjn (by lia) (iti i j hin hjn) (by
   rw[eL i j (by lia) hin (by lia) hjn,eL i k (by lia) hin (aj _) (by lia),eL k j (aj _) hk (by lia) hjn];exact Ls B k i j xm reg1)
  rw[e];exact⟨tm,em⟩
 have cl:(zl (nS t c k) k before).length=n:=by unfold zl;rw[lMp,bH];exact sl
 subst hBd;refine⟨⟨cl,fun i hi=>by rw[LA _ _ _ _ (by lia),sg',S.tab.row _ (pS hc hk hi)],fun i j hi hj=> ?_⟩,o',S.tab.trim c k hc (by lia),piv,ne1,fun i j hi hj hjn=>(up' i j hi hj hjn).2,fun i j hi hin hj hjn=>(low' i j hi hin hj hjn).2⟩;by_cases q:k+1<=j
 ·by_cases q2:i<k+1
  ·exact(up' i j q2 q hj).1
  ·exact(low' i j (by lia) hi q hj).1
 ·rw[Gp _ _ _ _ _ (by lia) (by rw[sg',S.tab.row _ (pS hc hk hi)];exact hj)];by_cases q2:i=k
  ·rw[ah q2];exact sT k j hk hj
  ·rw[af q2,af (by lia)];exact sT i j hi hj
theorem rH(t:List jI)(k:Nat):∀(f c:Nat),f<=t.length->oe t k f=some c->t.length - f<=c/\c<t.length/\ent t c k≠[]
 |0,c,_,h=>by cases h
 |f+1,c,hf,h=>by
  unfold oe at h;dsimp only at h;split at h
  ·rename_i e;cases h
   exact⟨aj _,by lia,e⟩
  ·obtain⟨h1,h2,h3⟩:=rH t k f c (by lia) h;exact⟨by lia,h2,h3⟩
theorem Cj(t:List jI)(k:Nat):∀(f:Nat),f<=t.length->oe t k f=none->∀i,t.length - f<=i->i<t.length->ent t i k=[]
 |0,_,_,i,h1,h2=>by lia
 |f+1,hf,h,i,h1,h2=>by
  unfold oe at h;dsimp only at h;split at h
  ·cases h
  ·rename_i e;by_cases q:i=t.length - (f+1)
   ·rw[q];exact cN.mp e
   ·exact Cj t k f (by lia) h i (by lia) h2
structure WG(n:Nat)(A:Nat->Nat->PF)(d:dN)(tops:List dN):Prop where
 len:tops.length=n
 Ck:Trim d
 UW:d≠[]
 trim:∀c,c<n->Trim (tops.getD c [])
 sgn:∃ε:PF,(ε=1\/ε= -1)/\dG d=ε*det n A/\∀c,c<n->dG (tops.getD c [])=ε*det n (fg A c fun i=>A i n)
theorem HZ{n:Nat}{A:Nat->Nat->PF}(hA:∀i j,i<n->j<n+1->jV (A i j)):∀(f k:Nat) (t:List jI) (before:dN) (σ:Nat->Nat) (ε:PF),f+k=n->T3 n k A t before σ ε->
  (∃d tops,xn f k t before=some (d,tops)/\WG n A d tops)\/(xn f k t before=none/\det n A=0/\∃x:Nat->PF,(∃j,j<n/\x j≠0)/\∀i,i<n->eC n (fun d=>A i d*x d)=0)
 |0,k,t,before,σ,ε,hf,S=>by
  have hk:k=n:=by lia
  subst hk;refine .inl ⟨_,_,rfl,?_⟩;have tl:=S.tab.len;have te:∀c,c<k->(t.map fun r=>r.getD (r.length - 1) []).getD c []=ent t c k:=fun c hc=>by
   have hr:=S.tab.row c hc;unfold ent;rw[gDe,aC,aa (by lia)];rw[gDe,aa (by lia)] at hr;rw[gDe (l:=t),aa (by lia)];simp only[Option.map_some,cF] at hr⊢;rw[hr];rfl
  refine⟨by rw[lMp];exact tl,S.HX,fun z=>S.ne (by rw[<-S.Ea,z];rfl),fun c hc=>by rw[te c hc];exact S.tab.trim c k hc (by lia),ε,S.ord.sgn,?_,fun c hc=> ?_⟩
  ·rw[S.Ea];exact S.ord.det A
  ·rw[te c hc,S.up c k hc (aj _) (by lia)];exact S.ord.det (fg A c fun i=>A i k)
 |f+1,k,t,before,σ,ε,hf,S=>by
  have hk:k<n:=by lia
  have tl:=S.tab.len;unfold xn;cases e:oe t k (t.length - k) with
  |some c=>
   obtain⟨h1,h2,h3⟩:=rH t k _ c (by lia) e;obtain⟨ε',S'⟩:=HY hA hk S c (by lia) (by lia) h3;exact HZ hA f (k+1) _ _ _ ε' (by lia) S'
  |none=>
   refine .inr ⟨rfl,?_⟩;have z:=Cj t k _ (by lia) e;have xm:Reg (mk (fun i j=>A (σ i) j) k):=PF.xm S.ne;have np:=OF (fun i j=>A (σ i) j) n k hk xm fun i hi hin=>by
    rw[<-S.low i k hi hin (aj _) (by lia),z i (by lia) (by lia)];rfl
   refine⟨?_,fun d=>if d<k+1 then(if d=k then mk (fun i j=>A (σ i) j) k else - mc (fun i j=>A (σ i) j) k d k) else 0,⟨k,hk,?_⟩,fun i hi=> ?_⟩
   ·have d:=S.ord.det A;rw[np.2] at d;have o:=S.ord.ne;grind
   ·dsimp only;rw[ah (by lia),ah rfl];exact S.ne
   ·obtain⟨a,ha,ea⟩:=S.ord.OJ i hi;have s:=np.1 a ha;rw[ea] at s;exact s
theorem J1{n:Nat}{t:List jI}(h:Tab n t):
  (∃d tops,sol t=some (d,tops)/\WG n (sP t) d tops)\/(sol t=none/\det n (sP t)=0/\∃x:Nat->PF,(∃j,j<n/\x j≠0)/\∀i,i<n->eC n (fun d=>sP t i d*x d)=0):=by
 unfold sol;rw[h.len];exact HZ (fun i j _ _=>u7 _) n 0 t [1] _ 1 rfl (EY n t h)
end de
namespace de
open Lean.Grind
open Wh (valueAt addPoly scalePoly mulPoly)
theorem J2(x:Rat):∀(n:Nat) (f:Nat->PF),(eC n f).f x=eC n fun i=>(f i).f x
 |0,_=>rfl
 |n+1,f=>by
  show(eC n f).f x+(f n).f x=_;rw[J2 x n f];rfl
theorem UX(x:Rat)(i:Nat):(sg i:PF).f x=sg i:=by
 unfold sg;split <;>rfl
theorem EZ(x:Rat):∀(n:Nat) (A:Nat->Nat->PF),(det n A).f x=det n fun i j=>(A i j).f x
 |0,_=>rfl
 |n+1,A=>by
  rw[gr,gr,J2];refine eI _ fun i _=> ?_
  rw[PF.OG,PF.OG,UX,EZ x n];rfl
noncomputable def RY (l:List (List Rat)):Nat->Nat->Rat:=fun i j=>(l.getD i []).getD j 0
theorem AH{R:Type} [CommRing R](n:Nat)(A:Nat->Nat->R)(p:Nat)(hp:p<n)(c:Nat->R):∀m,m<=n->det n (fun i j=>if i<m/\i≠p then A i j+c i*A p j else A i j)=det n A
 |0,_=>eK n fun i j _ _=>af (by lia)
 |m+1,hm=>by
  rw[<-AH n A p hp c m (by lia)];by_cases q:m=p
  ·refine eK n fun i j _ _=> ?_
   by_cases e:i<m+1/\i≠p
   ·rw[ah e,ah (by lia)]
   ·rw[af e,af (by lia)]
  ·have r:=JW n (fun i j=>if i<m/\i≠p then A i j+c i*A p j else A i j) m p (c m) (by lia) hp q;rw[<-r];refine eK n fun i j _ _=> ?_
   by_cases e:i=m
   ·subst e;rw[ft];rw[ah ⟨by lia,q⟩,af (by lia),af (by lia)]
   ·rw[fE e];by_cases e2:i<m+1/\i≠p
    ·rw[ah e2,ah (by lia)]
    ·rw[af e2,af (by lia)]
theorem om(r:List Rat):r.headD 0=r.getD 0 0:=by cases r <;>rfl
theorem Cm(r:List Rat)(j:Nat):(r.drop 1).getD j 0=r.getD (j+1) 0:=by cases r <;>simp
theorem Fb(f:Rat->Rat->Rat)(a b:List Rat)(j:Nat)(ha:j<a.length)(hb:j<b.length):(List.zipWith f a b).getD j 0=f (a.getD j 0) (b.getD j 0):=by
 rw[gDe,List.getElem?_zipWith,gDe,gDe,aa ha,aa hb];rfl
theorem Cn:∀(f:Nat) (l:List (List Rat)),l.length=f->(∀i,i<f->(l.getD i []).length=f)->Wh.detOf f l=det f (RY l)
 |0,_,_,_=>rfl
 |f+1,l,hl,hr=>by
  unfold Wh.detOf;cases e:l.findIdx? fun r:List Rat=>decide (r.headD 0≠0) with
  |none=>
   dsimp only;refine(nJ (f+1) (RY l) 0 (by lia) fun i hi=> ?_).symm;have h:=List.findIdx?_eq_none_iff.mp e (l.getD i []) (by
    rw[gDe,aa (by lia)];exact bO _)
   simp only[decide_eq_false_iff_not,cN] at h;show(l.getD i []).getD 0 0=0;rw[<-om];exact h
  |some i=>
   obtain⟨hi,hp,_⟩:=List.findIdx?_eq_some_iff_getElem.mp e;have hp':(l.getD i []).headD 0≠0:=by
    rw[gDe,aa hi];simpa using hp
   dsimp only;generalize hpr:l.getD i []=p at hp'⊢;have lp:p.length=f+1:=by rw[<-hpr];exact hr i (by lia)
   have pA:∀j,RY l i j=p.getD j 0:=fun j=>by show(l.getD i []).getD j 0=_;rw[hpr]
   rw[<-AH (f+1) (RY l) i (by lia) (fun a=> -((l.getD a []).headD 0 / p.headD 0)) (f+1) (aj _),gr,mO (f+1) i (by lia)]
   ·have hsg:(sg i:Rat)=if i % 2=1 then -1 else 1:=by
     unfold sg;by_cases q:i % 2=1
     ·rw[ah q,af (by lia)]
     ·rw[af q,ah (by lia)]
    rw[hsg];refine congrArg _ ?_;rw[af (by lia),pA,om];refine congrArg _ ?_;have ih:=Cn f ((l.eraseIdx i).map fun r:List Rat=>List.zipWith (fun x y:Rat=>x - r.headD 0 / p.headD 0*y) (r.drop 1) (p.drop 1)) (by
     rw[lMp,cQ,ah hi];lia) (fun a ha=>by
     have la:a<(l.eraseIdx i).length:=by rw[cQ,ah hi];lia
     rw[gDe,aC,aa la];simp only[Option.map_some,cF,List.length_zipWith,bE];have hm:=List.mem_of_mem_eraseIdx (bO la);obtain⟨b,hb,eb⟩:=aY hm;have:=hr b (by lia);rw[gDe,aa hb] at this;simp only[cF] at this;rw[<-eb,this,lp];lia)
    rw[<-om,ih];refine eK f fun a b ha hb=> ?_
    have la:a<(l.eraseIdx i).length:=by rw[cQ,ah hi];lia
    have ls:skip i a<l.length:=by have:=xk (i:=i) ha;lia
    have ee:(l.eraseIdx i)[a]=l[skip i a]:=by
     rw[List.getElem_eraseIdx];unfold skip;split <;>rfl
    have lr:(l[skip i a]).length=f+1:=by
     have:=hr (skip i a) (by lia);rw[gDe,aa ls] at this;exact this
    have eg:l.getD (skip i a) []=l[skip i a]:=by rw[gDe,aa ls];rfl
    show(((l.eraseIdx i).map fun r:List Rat=>List.zipWith (fun x y:Rat=>x - r.headD 0 / p.headD 0*y) (r.drop 1) (p.drop 1)).getD a []).getD b 0=if skip i a<f+1/\skip i a≠i then RY l (skip i a) (b+1)+ -((l.getD (skip i a) []).headD 0 / p.headD 0)*RY l i (b+1) else RY l (skip i a) (b+1)
    rw[ah ⟨by lia,Lq i a⟩,gDe (l:=List.map _ _),aC,aa la];simp only[Option.map_some,cF];rw[ee,Fb _ _ _ _ (by rw[bE];lia) (by rw[bE];lia),Cm,Cm,pA,eg];show _=(l.getD (skip i a) []).getD (b+1) 0+_;rw[eg];grind
   ·intro a ha hai;rw[ah ⟨ha,hai⟩,pA,<-om];have:RY l a 0=(l.getD a []).headD 0:=(om _).symm;rw[this];have z:(l.getD a []).headD 0+ -((l.getD a []).headD 0 / p.headD 0)*p.headD 0=0:=by
     have:=Rat.div_mul_cancel (a:=(l.getD a []).headD 0) hp';grind
    rw[z];grind
theorem BI:∀(p:List Rat) (x:Rat),valueAt (Wh.trim p) x=valueAt p x:=by
 intro p x;have key:∀q:List Rat,valueAt ((q.dropWhile fun x:Rat=>decide (x=0)).reverse) x=valueAt q.reverse x:=by
  intro q;induction q with
  |nil=>rfl
  |cons a q ih=>
   by_cases h:a=0
   ·rw[List.dropWhile_cons_of_pos (by simpa using h),ih,List.reverse_cons];have app:∀(r:List Rat),valueAt (r ++ [0]) x=valueAt r x:=by
     intro r;induction r with
     |nil=>
      show(0:Rat)+x*0=0;grind
     |cons b r ih2=>
      show b+x*valueAt (r ++ [0]) x=b+x*valueAt r x;rw[ih2]
    rw[h,app]
   ·rw[List.dropWhile_cons_of_neg (by simpa using h)]
 unfold Wh.trim;rw[key,List.reverse_reverse]
theorem Ia(p:List Rat):(Wh.trim p).length<=p.length:=by
 unfold Wh.trim;rw[bu];refine ay (List.Sublist.length_le (List.dropWhile_sublist _)) ?_;rw[bu];exact aj _
theorem xt:∀(p:List Rat) (a b:Rat),p≠[]->(mulPoly p [a,b]).length=p.length+1
 |[],_,_,h=>absurd rfl h
 |c::[],a,b,_=>rfl
 |c::d::p,a,b,_=>by
  have ih:=xt (d::p) a b (by simp);show(addPoly [c*a,c*b] (0::mulPoly (d::p) [a,b])).length=_;have al:∀(u v:List Rat),(addPoly u v).length=max u.length v.length:=by
   intro u;induction u with
   |nil=>
    intro v;show v.length=max 0 v.length;lia
   |cons x u ih2=>
    intro v;cases v with
    |nil=>
     show(x::u).length=max (x::u).length 0;lia
    |cons y v=>
     show(addPoly u v).length+1=max (u.length+1) (v.length+1);rw[ih2 v];lia
  rw[al,au (a:=(0:Rat)),ih];simp only[au,bJ];lia
noncomputable def Gq (i:Nat):List Nat->List Rat->List Rat:=fun js p=>js.foldl (fun(p:List Rat) (j:Nat)=>if j=i then p else mulPoly p [-(j:Rat) / ((i:Rat) - (j:Rat)),1 / ((i:Rat) - (j:Rat))]) p
theorem Co(m i:Nat):Wh.basis m i=Gq i (List.range m) [1]:=rfl
theorem Cp(i:Nat):∀(js:List Nat) (p:List Rat),p≠[]->(Gq i js p).length=p.length+(js.filter fun j=>decide (j≠i)).length
 |[],p,_=>rfl
 |j::js,p,h=>by
  show(Gq i js (if j=i then p else mulPoly p _)).length=_;by_cases q:j=i
  ·rw[ah q,Cp i js p h,aX (by simpa using q)]
  ·have l2:=xt p (-(j:Rat) / ((i:Rat) - (j:Rat))) (1 / ((i:Rat) - (j:Rat))) h;rw[af q,Cp i js _ (by intro e;rw[e] at l2;simp at l2),l2,aS (by simpa using q),au];lia
theorem OK{i j:Nat}(h:j≠i):(i:Rat) - (j:Rat)≠0:=fun e=>h (by
 have:(j:Rat)=(i:Rat):=by grind
 exact_mod_cast this)
theorem Fc(i:Nat):∀(js:List Nat) (p:List Rat),valueAt (Gq i js p) (i:Rat)=valueAt p (i:Rat)
 |[],_=>rfl
 |j::js,p=>by
  show valueAt (Gq i js (if j=i then p else mulPoly p _)) (i:Rat)=_;rw[Fc i js];by_cases q:j=i
  ·rw[ah q]
  ·rw[af q,y9,iq,iq,Gg];have:=OK q;have e: -(j:Rat) / ((i:Rat) - (j:Rat))+(i:Rat)*(1 / ((i:Rat) - (j:Rat))+(i:Rat)*0)=1:=by grind
   rw[e];grind
theorem Fd(i:Nat):∀(js:List Nat) (p:List Rat) (x:Rat),valueAt p x=0->valueAt (Gq i js p) x=0
 |[],_,_,h=>h
 |j::js,p,x,h=>by
  show valueAt (Gq i js (if j=i then p else mulPoly p _)) x=0;refine Fd i js _ x ?_;split
  ·exact h
  ·rw[y9,h];grind
theorem Cq(i k:Nat)(hk:k≠i):∀(js:List Nat) (p:List Rat),k∈js->valueAt (Gq i js p) (k:Rat)=0
 |[],_,h=>by cases h
 |j::js,p,h=>by
  show valueAt (Gq i js (if j=i then p else mulPoly p _)) (k:Rat)=0;by_cases q:k=j
  ·subst q;rw[af hk];refine Fd i js _ _ ?_;rw[y9,iq,iq,Gg];have:=OK hk;have e: -(k:Rat) / ((i:Rat) - (k:Rat))+(k:Rat)*(1 / ((i:Rat) - (k:Rat))+(k:Rat)*0)=0:=by grind
   rw[e];grind
  ·exact Cq i k hk js _ ((aJ.mp h).resolve_left q)
theorem sQ(i:Nat):∀m,i<m->((List.range m).filter fun j=>decide (j≠i)).length+1=m
 |0,h=>by lia
 |m+1,h=>by
  rw[bZ,bN,aA];by_cases q:m=i
  ·subst q;have e:(List.range m).filter (fun j=>decide (j≠m))=List.range m:=List.filter_eq_self.mpr fun a ha=>by
    have:=aW.mp ha;simp;lia
   rw[e,aX (by simp)];simp
  ·have:=sQ i m (by lia);rw[aS (by simpa using q)];simp only[List.filter_nil,au,bJ];lia
theorem MM{m i:Nat}(h:i<m):(Wh.basis m i).length=m:=by
 rw[Co,Cp i _ _ (by simp)];have:=sQ i m h;simp only[au,bJ];lia
theorem LC(x:Rat):∀(l:List (List Rat)) (acc:List Rat),valueAt (l.foldl addPoly acc) x=valueAt acc x+(l.map fun p=>valueAt p x).sum
 |[],acc=>by
  show valueAt acc x=valueAt acc x+0;grind
 |p::l,acc=>by
  show valueAt (l.foldl addPoly (addPoly acc p)) x=_;rw[LC x l,qu,aH,b8];grind
theorem jy:∀(u v:List Rat),(addPoly u v).length=max u.length v.length:=by
 intro u;induction u with
 |nil=>
  intro v;show v.length=max 0 v.length;lia
 |cons x u ih2=>
  intro v;cases v with
  |nil=>
   show(x::u).length=max (x::u).length 0;lia
  |cons y v=>
   show(addPoly u v).length+1=max (u.length+1) (v.length+1);rw[ih2 v];lia
theorem Ib(m:Nat):∀(l:List (List Rat)) (acc:List Rat),acc.length<=m->(∀p∈l,p.length<=m)->(l.foldl addPoly acc).length<=m
 |[],_,h,_=>h
 |p::l,acc,h,hl=>by
  refine Ib m l (addPoly acc p) ?_ fun q hq=>hl q (ao _ hq)
  rw[jy];have:=hl p ax;lia
theorem uq(l:List Rat):(Wh.through l).length<=l.length:=by
 unfold Wh.through;refine ay (Ia _) (Ib l.length _ _ (aM _) fun p hp=> ?_);obtain⟨y,hy,rfl⟩:=aL.mp hp;have hi:y.2<l.length:=by
  have:=List.mem_zipIdx hy;lia
 unfold Wh.scalePoly;rw[lMp,MM hi];exact aj _
theorem Cr:∀(l:List Rat) (off k:Nat) (B:Nat->Rat),off<=k->k<off+l.length->(∀i,off<=i->i<off+l.length->i≠k->B i=0)->((l.zipIdx off).map fun y:Rat×Nat=>y.1*B y.2).sum=l.getD (k - off) 0*B k
 |[],off,k,B,h1,h2,_=>by simp at h2;lia
 |a::l,off,k,B,h1,h2,hB=>by
  rw[List.zipIdx_cons,aH,b8];by_cases q:k=off
  ·subst q;have z:((l.zipIdx (k+1)).map fun y:Rat×Nat=>y.1*B y.2).sum=0:=by
    have all:∀(r:List (Rat×Nat)),(∀y∈r,B y.2=0)->(r.map fun y:Rat×Nat=>y.1*B y.2).sum=0:=by
     intro r;induction r with
     |nil=>intro _;rfl
     |cons y r ih=>
      intro h;rw[aH,b8,h y ax,ih fun z hz=>h z (ao _ hz)];grind
    refine all _ fun y hy=> ?_
    have m:=List.mem_zipIdx hy;exact hB y.2 (by lia) (by simp only[au];lia) (by lia)
   rw[z];simp only[cj];show a*B k+0=a*B k;grind
  ·have ih:=Cr l (off+1) k B (by lia) (by simp only[au] at h2;lia) fun i h3 h4 h5=>hB i (by lia) (by simp only[au];lia) h5
   rw[ih,hB off (aj _) (by simp only[au];lia) (bL q)];have e:k - off=(k - (off+1))+1:=by lia
   rw[e];show a*0+_=l.getD (k - (off+1)) 0*B k;grind
theorem J3(l:List Rat)(k:Nat)(hk:k<l.length):valueAt (Wh.through l) (k:Rat)=l.getD k 0:=by
 unfold Wh.through;rw[BI,LC,aR];have e:(l.zipIdx.map ((fun p:List Rat=>valueAt p (k:Rat)) ∘ fun y:Rat×Nat=>scalePoly y.1 (Wh.basis l.length y.2)))=l.zipIdx.map fun y:Rat×Nat=>y.1*valueAt (Wh.basis l.length y.2) (k:Rat):=by
  refine aU fun y _=> ?_
  show valueAt (scalePoly _ _) _=_;rw[iY]
 rw[e,Cr l 0 k (fun i=>valueAt (Wh.basis l.length i) (k:Rat)) (aM _) (by lia) fun i _ hi hik=>by
  rw[Co];exact Cq i k (bL hik) _ _ (aW.mpr hk)]
 rw[Co,Fc,iq,Gg];simp only[Nat.sub_zero];grind
noncomputable def Dg (f:PF) (d:Nat):Prop:=∃l:List Rat,fz l=f/\l.length<=d
theorem Ct(ys:List Rat)(f:PF)(m:Nat)(hm:ys.length=m)(hd:Dg f m)(h:∀i:Nat,i<m->f.f (i:Rat)=ys.getD i 0):fz (Wh.through ys)=f:=by
 obtain⟨l,rfl,hl⟩:=hd;refine PF.ext fun x=> ?_
 have z:ze (addPoly (Wh.through ys) (scalePoly (-1) l)):=by
  refine EU m _ ?_ fun i hi=> ?_
  ·rw[jy];have:=uq ys;have e:(scalePoly (-1) l).length=l.length:=by unfold Wh.scalePoly;rw[lMp]
   lia
  ·rw[qu,iY,J3 ys i (by lia),<-h i hi,Lw];grind
 have e:=z.ev x;rw[qu,iY] at e;rw[Lw,Lw];grind
theorem Dg.mono{f:PF}{d e:Nat}(h:Dg f d)(hde:d<=e):Dg f e:=let ⟨l,a,b⟩:=h;⟨l,a,ay b hde⟩
theorem Dg.add{f g:PF}{d:Nat}(hf:Dg f d)(hg:Dg g d):Dg (f+g) d:=by
 obtain⟨l,rfl,hl⟩:=hf;obtain⟨m,rfl,hm⟩:=hg;exact⟨addPoly l m,PF.ext fun x=>qu l m x,by rw[jy];lia⟩
theorem Dg.smul{f:PF}{d:Nat}(c:Rat)(hf:Dg f d):Dg (PF.const c*f) d:=by
 obtain⟨l,rfl,hl⟩:=hf;exact⟨scalePoly c l,PF.ext fun x=>iY c l x,by unfold Wh.scalePoly;rw[lMp];exact hl⟩
theorem xu(d:Nat):Dg 0 d:=⟨[],rfl,aM _⟩
theorem Ic(c:Rat):Dg (PF.const c) 1:=⟨[c],PF.ext fun x=>by
 show c+x*0=c;grind,aj _⟩
theorem AI:∀(p q:List Rat),p≠[]->q≠[]->(mulPoly p q).length=p.length+q.length - 1
 |[],_,h,_=>absurd rfl h
 |a::[],q,_,hq=>by
  show(addPoly (scalePoly a q) [0]).length=_;have:0<q.length:=aE.mpr hq;rw[jy];unfold Wh.scalePoly;rw[lMp];simp only[au,bJ];lia
 |a::b::p,q,_,hq=>by
  have ih:=AI (b::p) q (by simp) hq;show(addPoly (scalePoly a q) (0::mulPoly (b::p) q)).length=_;have:0<q.length:=aE.mpr hq;rw[jy,au,ih];unfold Wh.scalePoly;rw[lMp];simp only[au];lia
theorem Dg.mul{f g:PF}{d e:Nat}(hf:Dg f (d+1))(hg:Dg g (e+1)):Dg (f*g) (d+e+1):=by
 obtain⟨l,rfl,hl⟩:=hf;obtain⟨m,rfl,hm⟩:=hg;refine⟨mulPoly l m,PF.ext fun x=>y9 l m x,?_⟩;by_cases q:l=[]
 ·subst q;exact aM _
 ·by_cases q2:m=[]
  ·subst q2;have:∀l:List Rat,(mulPoly l []).length<=l.length:=by
    intro l;induction l with
    |nil=>exact aj _
    |cons a l ih=>
     show(addPoly (scalePoly a []) (0::mulPoly l [])).length<=_;rw[jy];simp only[Wh.scalePoly,List.map_nil,bJ,au];lia
   have:=this l;lia
  ·rw[AI l m q q2];lia
theorem LD(d:Nat):∀(n:Nat) {f:Nat->PF},(∀i,i<n->Dg (f i) d)->Dg (eC n f) d
 |0,_,_=>xu d
 |n+1,f,h=>(LD d n fun i hi=>h i (by lia)).add (h n (by lia))
noncomputable def sumNat:Nat->(Nat->Nat)->Nat
 |0,_=>0
 |n+1,f=>sumNat n f+f n
theorem AJ:∀(n i:Nat) (f:Nat->Nat),i<n+1->sumNat n (fun a=>f (skip i a))+f i=sumNat (n+1) f
 |0,i,f,h=>by
  have:i=0:=by lia
  subst this;rfl
 |n+1,i,f,h=>by
  by_cases q:i=n+1
  ·subst q;have e:∀m,m<=n+1->sumNat m (fun a=>f (skip (n+1) a))=sumNat m f:=by
    intro m;induction m with
    |zero=>intro _;rfl
    |succ m ih=>
     intro hm;show sumNat m (fun a=>f (skip (n+1) a))+f (skip (n+1) m)=sumNat m f+f m;rw[ih (by lia)];have:skip (n+1) m=m:=by unfold skip;rw[ah (by lia)]
     rw[this]
   rw[e (n+1) (aj _)];rfl
  ·have ih:=AJ n i f (by lia);show sumNat n (fun a=>f (skip i a))+f (skip i n)+f i=sumNat (n+1) f+f (n+1);have:skip i n=n+1:=by unfold skip;rw[af (by lia)]
   rw[this,<-ih];lia
theorem Gr:∀(n:Nat) {A:Nat->Nat->PF} {d:Nat->Nat},(∀i j,i<n->j<n->Dg (A i j) (d i+1))->Dg (det n A) (sumNat n d+1)
 |0,_,_,_=>Ic 1
 |n+1,A,d,h=>by
  rw[gr];refine LD _ _ fun i hi=> ?_
  have hs:(sg i:PF)=PF.const (sg i):=PF.ext fun x=>UX x i
  rw[hs];refine Dg.smul _ ?_;have m:=(h i 0 hi (by lia)).mul (Gr n (A:=del i A) (d:=fun a=>d (skip i a)) fun a b ha hb=>h _ _ (xk ha) (by lia));refine m.mono ?_;have:=AJ n i d hi;lia
theorem nU(a b:Rat):PF.const (a*b)=PF.const a*PF.const b:=rfl
theorem gz:PF.const 1=1:=rfl
theorem Cu:PF.const 0=0:=rfl
theorem jW{c:Rat}(h:c≠0):PF.const c≠0:=fun e=>h (by
 have:(PF.const c).f 0=(0:PF).f 0:=by rw[e]
 exact this)
theorem qV{c:Rat}(h:c≠0):PF.const c*PF.const (1 / c)=1:=PF.ext fun x=>by
 show c*(1 / c)=1;grind
theorem rJ{z:Int}(h:z≠0):(z:Rat)≠0:=fun e=>h (by exact_mod_cast e)
theorem LF(a:Rat):a*(a.den:Rat)=(a.num:Rat):=by
 have h:=Rat.num_divInt_den a;rw[Rat.divInt_eq_div] at h;have hd:((a.den:Int):Rat)≠0:=by
  rw[bt];intro e;have:a.den=0:=by exact_mod_cast e
  exact a.den_nz this
 rw[bt] at h hd;have:=Rat.div_mul_cancel (a:=(a.num:Rat)) hd;rw[h] at this;exact this
theorem clear_list:∀l:List Rat,∃(M:Nat) (R:dN),0<M/\PF.const (M:Rat)*fz l=dG R
 |[]=>⟨1,[],by lia,PF.ext fun x=>by
   show((1:Nat):Rat)*0=0;grind⟩
 |a::l=>by
  obtain⟨M,R,hM,e⟩:=clear_list l;refine⟨M*a.den,(a.num*(M:Int))::R.map fun y=>(a.den:Int)*y,Nat.mul_pos hM (Rat.den_pos a),PF.ext fun x=> ?_⟩;have e1:(M:Rat)*valueAt l x=(dG R).f x:=by
   have:=congrArg (fun q:PF=>q.f x) e;exact this
  rw[fi,BG,<-e1];show((M*a.den:Nat):Rat)*(a+x*valueAt l x)=((a.num*(M:Int):Int):Rat)+x*(((a.den:Int):Rat)*((M:Rat)*valueAt l x));have e2:a*(a.den:Rat)=(a.num:Rat):=LF a;rw[Rat.natCast_mul,Rat.intCast_mul,bt,bt,<-e2];grind
theorem u9(f:PF):∃(M:Nat) (R:dN),0<M/\Trim R/\PF.const (M:Rat)*f=dG R:=by
 obtain⟨l,hl⟩:=f.h;obtain⟨M,R,hM,e⟩:=clear_list l;refine⟨M,JY R,hM,oj R,?_⟩;rw[xo,<-e];exact PF.ext fun x=>by
  show(M:Rat)*f.f x=(M:Rat)*valueAt l x;rw[hl]
theorem vX{M:Nat}(h:0<M):(M:Rat)≠0:=fun e=>by
 have:M=0:=by exact_mod_cast e
 lia
theorem vY{l:dN}(t:Trim l){c:Rat}(hc:c≠0){e:Nat}(h:Dg (PF.const c*dG l) e):l.length<=e:=by
 obtain⟨m,hm,hle⟩:=h;refine ay (cS fun lt=> ?_) hle;have hl0:l≠[]:=fun q=>by rw[q] at lt;exact absurd lt (by simp)
 have ec:=EV (p:=m) (q:=scalePoly c (rl l)) (fun x=>by
  have:=congrArg (fun q:PF=>q.f x) hm;rw[iY];exact this) (l.length - 1)
 rw[nR,Gi,gDe,aI (by lia)] at ec;have:=fB.mp t hl0;have e2:c*((l.getD (l.length - 1) 0:Int):Rat)=0:=ec.symm;rcases bY.mp e2 with q |q
 ·exact hc q
 ·exact this (by exact_mod_cast q)
theorem Gs(l:dN):Dg (dG l) l.length:=⟨rl l,rfl,by unfold rl;rw[lMp];exact aj _⟩
theorem Cv{l:dN}(t:Trim l)(hl:l≠[]){f:PF}(hf:f≠0){c:Rat}(hc:c≠0){e:Nat}(h:Dg (PF.const c*(f*dG l)) e):l.length<=e:=by
 obtain⟨M,R,hM,tR,eR⟩:=u9 f;have hR:R≠[]:=fun q=>by
  rw[q] at eR;exact PF.zh (jW (vX hM)) hf eR
 have d:Dg (PF.const c*dG (gX R l)) e:=by
  have e1:PF.const c*dG (gX R l)=PF.const (M:Rat)*(PF.const c*(f*dG l)):=by
   rw[jU,<-eR];grind
  rw[e1];exact h.smul _
 have:=vY (qU tR t) hc d;rw[xr hR hl] at this;have:0<R.length:=aE.mpr hR;lia
noncomputable def fO (l:dN):Nat:=l.foldl (fun g x=>Nat.gcd g x.natAbs) 0
theorem jY(l:dN):cont l=(fO l:Int):=by
 have key:∀(l:dN) (g:Nat),l.foldl lE (g:Int)=(l.foldl (fun(g:Nat) (x:Int)=>Nat.gcd g x.natAbs) g:Nat):=by
  intro l;induction l with
  |nil=>intro g;rfl
  |cons a l ih=>
   intro g;show l.foldl lE (lE (g:Int) a)=(l.foldl _ (Nat.gcd g a.natAbs):Nat);exact ih (Nat.gcd g a.natAbs)
 exact key l 0
theorem xw:∀(l:dN) (g:Nat),l.foldl (fun(g:Nat) (x:Int)=>Nat.gcd g x.natAbs) g=Nat.gcd g (fO l)
 |[],g=>by
  show g=Nat.gcd g 0;rw[Nat.gcd_zero_right]
 |a::l,g=>by
  show l.foldl _ (Nat.gcd g a.natAbs)=Nat.gcd g (l.foldl _ (Nat.gcd 0 a.natAbs));rw[xw l,xw l,Nat.gcd_zero_left,Nat.gcd_assoc]
theorem qW(a:Int)(l:dN):fO (a::l)=Nat.gcd a.natAbs (fO l):=by
 show l.foldl _ (Nat.gcd 0 a.natAbs)=_;rw[xw,Nat.gcd_zero_left]
theorem uu(l m:dN):fO (l ++ m)=Nat.gcd (fO l) (fO m):=by
 show(l ++ m).foldl _ 0=_;rw[cO,xw];rfl
theorem mP{l:dN}{x:Int}(h:x∈l):(fO l:Int) ∣ x:=by
 induction l with
 |nil=>cases h
 |cons a l ih=>
  rw[qW];rcases aJ.mp h with e |e
  ·subst e;exact cw (bP.mpr (Nat.gcd_dvd_left _ _)) (Int.natAbs_dvd_self)
  ·exact cw (bP.mpr (Nat.gcd_dvd_right _ _)) (ih e)
theorem Ie{l:dN}{d:Nat}(h:∀x∈l,(d:Int) ∣ x):d ∣ fO l:=by
 induction l with
 |nil=>exact Nat.dvd_zero d
 |cons a l ih=>
  rw[qW];exact Nat.dvd_gcd (cJ.mp (h a ax)) (ih fun x hx=>h x (ao _ hx))
theorem xx{l:dN}{d c:Nat}(h:∀x∈l,(d:Int) ∣ (c:Int)*x):d ∣ c*fO l:=by
 induction l with
 |nil=>exact Nat.dvd_zero d
 |cons a l ih=>
  rw[qW,<-Nat.gcd_mul_left];refine Nat.dvd_gcd ?_ (ih fun x hx=>h x (ao _ hx));have:=cJ.mp (h a ax)
  rwa [bR,bI] at this
theorem jz{l:dN}(t:Trim l)(h:l≠[]):0<fO l:=by
 refine Nat.pos_of_ne_zero fun z=>fB.mp t h ?_
 have m:lc l∈l:=by
  unfold lc;have:0<l.length:=aE.mpr h;rw[gDe,aa (by lia)];exact bO _
 have d:=mP m;rw[z] at d;simpa using d
theorem gQ(l:dN):(prim l).length=l.length:=by unfold prim;simp
theorem rK(l:dN):(prim l).map (fun y=>cont l*y)=l:=by
 unfold prim;rw[aR];have:∀x∈l,((fun y=>cont l*y) ∘ fun x=>x.fdiv (cont l)) x=x:=fun x hx=>by
  show cont l*x.fdiv (cont l)=x;have d:cont l ∣ x:=by rw[jY];exact mP hx
  exact Int.mul_fdiv_cancel' d
 rw[aU this,cT]
theorem Cw(l:dN):PF.const ((cont l:Int):Rat)*dG (prim l)=dG l:=by
 rw[<-g9,rK]
theorem iz{l:dN}(t:Trim l):Trim (prim l):=by
 rw[fB];intro h z;have hl:l≠[]:=fun e=>h (by rw[e];rfl)
 refine fB.mp t hl ?_;have e:=rK l;have:lc l=cont l*lc (prim l):=by
  have e2:lc ((prim l).map fun y=>cont l*y)=cont l*lc (prim l):=by
   unfold lc;rw[iQ _ (by lia),lMp]
  rw[e] at e2;exact e2
 rw[this,z];lia
theorem Cy{l:dN}(t:Trim l)(h:l≠[]):fO (prim l)=1:=by
 have p:=jz t h;have d:fO l*fO (prim l) ∣ fO l:=Ie fun x hx=>by
  rw[<-rK l] at hx;obtain⟨y,hy,rfl⟩:=aL.mp hx;rw[jY,Int.natCast_mul];exact Int.mul_dvd_mul_left _ (mP hy)
 have:=Nat.le_of_dvd p d;have q:0<fO (prim l):=jz (iz t) (fun e=>h (by have:=congrArg List.length e;rw[gQ] at this;exact bg.mp (by simpa using this)));rcases Nat.lt_or_ge (fO (prim l)) 2 with r |r
 ·lia
 ·have:fO l*2<=fO l*fO (prim l):=cg _ r;lia
noncomputable def BJ (p:Nat):Prop:=2<=p/\∀d,d ∣ p->d=1\/d=p
theorem Gu:∀(n:Nat),2<=n->∃p,BJ p/\p ∣ n:=by
 intro n;induction n using Nat.strongRecOn with
 |ind n ih=>
  intro h;by_cases q:∃d,d ∣ n/\d≠1/\d≠n
  ·obtain⟨d,hd,h1,h2⟩:=q;have hd0:0<d:=Nat.pos_of_dvd_of_pos hd (by lia);have hdn:d<=n:=Nat.le_of_dvd (by lia) hd;obtain⟨p,hp,hpd⟩:=ih d (by lia) (by lia);exact⟨p,hp,Nat.dvd_trans hpd hd⟩
  ·refine⟨n,⟨h,fun d hd=> ?_⟩,Nat.dvd_refl n⟩;by_cases h1:d=1
   ·exact .inl h1
   ·by_cases h2:d=n
    ·exact .inr h2
    ·exact absurd ⟨d,hd,h1,h2⟩ q
theorem BJ.mul{p:Nat}(hp:BJ p){a b:Int}(h:(p:Int) ∣ a*b):(p:Int) ∣ a\/(p:Int) ∣ b:=by
 rw[cJ,bR] at h;rcases hp.2 (Nat.gcd p a.natAbs) (Nat.gcd_dvd_left _ _) with g |g
 ·exact .inr (cJ.mpr (Nat.Coprime.dvd_of_dvd_mul_left g h))
 ·refine .inl (cJ.mpr ?_);rw[<-g];exact Nat.gcd_dvd_right _ _
noncomputable def Cz (p:Int) (l:dN):Prop:=∀i,p ∣ l.getD i 0
theorem Cz.mem{p:Int}{l:dN}(h:Cz p l):∀x∈l,p ∣ x:=fun x hx=>by
 obtain⟨i,hi,e⟩:=aY hx;have:=h i;rw[gDe,aa hi] at this;simpa [e] using this
theorem vD(l m:dN)(i:Nat):(mulL l m).getD i 0=(mulL m l).getD i 0:=qS (by rw[jx,jx];grind) i
theorem qv(a:Int)(l m:dN)(i:Nat):(mulL (a::l) m).getD i 0=a*m.getD i 0+(if i=0 then 0 else(mulL l m).getD (i - 1) 0):=by
 show(iJ (m.map fun y=>a*y) (0::mulL l m)).getD i 0=_;rw[iZ,iQ _ (by lia)];cases i with
 |zero=>simp
 |succ i=>simp
theorem uv{p:Nat}(hp:BJ p):∀(n:Nat) (R g:dN),R.length+g.length<=n->Cz p (mulL R g)->Cz p R\/Cz p g
 |n,[],g,_,_=> .inl fun i=>by simp
 |n,R,[],_,_=> .inr fun i=>by simp
 |0,a::R,b::g,hn,_=>by simp at hn
 |n+1,a::R,b::g,hn,h=>by
  simp only[au] at hn;have h0:=h 0;rw[qv] at h0;have h0':(p:Int) ∣ a*b:=by simpa using h0
  rcases hp.mul h0' with pa |pb
  ·have d:Cz p (mulL R (b::g)):=fun i=>by
    have hi:=h (i+1);rw[qv,af (by lia)] at hi;have e:i+1 - 1=i:=by lia
    rw[e] at hi;exact(Int.dvd_add_right (Int.dvd_mul_of_dvd_left pa)).mp hi
   rcases uv hp n R (b::g) (by simp only[au];lia) d with r |r
   ·refine .inl fun i=> ?_
    cases i with
    |zero=>exact pa
    |succ i=>exact r i
   ·exact .inr r
  ·have d:Cz p (mulL (a::R) g):=fun i=>by
    have hi:=h (i+1);rw[vD,qv,af (by lia)] at hi;have e:i+1 - 1=i:=by lia
    rw[e] at hi;rw[vD];exact(Int.dvd_add_right (Int.dvd_mul_of_dvd_left pb)).mp hi
   rcases uv hp n (a::R) g (by simp only[au];lia) d with r |r
   ·exact .inl r
   ·refine .inr fun i=> ?_
    cases i with
    |zero=>exact pb
    |succ i=>exact r i
theorem UY{g:dN}(hg:fO g=1):∀(d:Nat),0<d->∀R:dN,Cz (d:Int) (mulL R g)->Cz (d:Int) R:=by
 intro d;induction d using Nat.strongRecOn with
 |ind d ih=>
  intro hd R h;by_cases h1:d=1
  ·subst h1;exact fun i=>Int.one_dvd _
  ·obtain⟨p,hp,hpd⟩:=Gu d (by lia);obtain⟨e,rfl⟩:=hpd;have he:0<e:=Nat.pos_of_mul_pos_left hd;have hp2:=hp.1;have hR:Cz p R:=by
    rcases uv hp _ R g (aj _) (fun i=>cw (by rw[Int.natCast_mul];exact Int.dvd_mul_right _ _) (h i)) with r |r
    ·exact r
    ·have:=Ie (l:=g) (d:=p) r.mem;rw[hg] at this;have:=Nat.le_of_dvd (by lia) this;lia
   have eS:(R.map fun x=>x / (p:Int)).map (fun y=>(p:Int)*y)=R:=by
    rw[aR];have:∀x∈R,((fun y=>(p:Int)*y) ∘ fun x=>x / (p:Int)) x=x:=fun x hx=>Int.mul_ediv_cancel' (hR.mem x hx)
    rw[aU this,cT]
   generalize (R.map fun x=>x / (p:Int))=S at eS;have hp0:(p:Int)≠0:=by lia
   have ge:∀i,(mulL R g).getD i 0=(p:Int)*(mulL S g).getD i 0:=fun i=>by
    rw[<-eS];have:dG (mulL (S.map fun y=>(p:Int)*y) g)=dG ((mulL S g).map fun y=>(p:Int)*y):=by
     rw[jx,g9,g9,jx];grind
    rw[qS this,iQ _ (by lia)]
   have hS:=ih e (by
    have:e*1<e*p:=Nat.mul_lt_mul_of_pos_left (by lia) he;rw[Nat.mul_comm p e];lia) he S fun i=>by
    have:=h i;rw[ge,Int.natCast_mul] at this;exact Int.dvd_of_mul_dvd_mul_left hp0 this
   intro i;rw[<-eS,iQ _ (by lia),Int.natCast_mul];exact Int.mul_dvd_mul_left _ (hS i)
theorem nV{T g:dN}(hg:fO g=1){f:PF}(h:dG T=f*dG g):∃A:dN,Trim A/\dG A=f:=by
 obtain⟨M,R,hM,tR,eR⟩:=u9 f;have d:Cz (M:Int) (mulL R g):=fun i=>by
  have:dG (mulL R g)=dG (T.map fun y=>(M:Int)*y):=by
   rw[jx,g9,<-eR,h];have:((M:Int):Rat)=(M:Rat):=bt M;rw[this];grind
  rw[qS this,iQ _ (by lia)];exact Int.dvd_mul_right _ _
 have dR:=UY hg M hM R d;have eS:(R.map fun x=>x / (M:Int)).map (fun y=>(M:Int)*y)=R:=by
  rw[aR];have:∀x∈R,((fun y=>(M:Int)*y) ∘ fun x=>x / (M:Int)) x=x:=fun x hx=>Int.mul_ediv_cancel' (dR.mem x hx)
  rw[aU this,cT]
 refine⟨JY (R.map fun x=>x / (M:Int)),oj _,?_⟩;rw[xo];have e:=g9 (M:Int) (R.map fun x=>x / (M:Int));rw[eS,<-eR] at e;have:((M:Int):Rat)=(M:Rat):=bt M;rw[this] at e;exact(PF.xm (jW (vX hM)) _ _ e).symm
theorem Gv(k:Nat)(l:dN)(x:Rat):(dG (List.replicate k 0 ++ l)).f x=x^k*(dG l).f x:=by
 induction k with
 |zero=>
  show(dG l).f x=x^0*_;grind
 |succ k ih=>
  rw[bT,List.cons_append,fi,ih];have:x^(k+1)=x^k*x:=Rat.pow_succ x k;rw[this];grind
noncomputable def vZ (k:Nat):PF:=dG (List.replicate k 0 ++ [1])
theorem MN(k:Nat)(l:dN):dG (List.replicate k 0 ++ l)=vZ k*dG l:=PF.ext fun x=>by
 rw[Gv];show _=(dG (List.replicate k 0 ++ [1])).f x*_;rw[Gv];show _=x^k*(((1:Int):Rat)+x*0)*_;grind
theorem LG(k:Nat)(l:dN)(i:Nat)(h:k<=i):(List.replicate k 0 ++ l).getD i 0=l.getD (i - k) 0:=by
 rw[gDe,bz (by rw[aQ];lia),aQ,<-gDe]
theorem A8(c:dN)(n:Nat)(h:c.getD n 0=0):sZ c (n+1)<=n:=by
 show(if c.getD n 0=0 then sZ c n else n+1)<=n;rw[ah h];exact BE c n
theorem CA{rest right:dN}(h:right.length<=rest.length)(hr:right≠[]):
  PF.const ((lc right:Int):Rat)*dG rest=(PF.const ((lc rest:Int):Rat)*vZ (rest.length - right.length))*dG right+dG (lI rest right)/\(lI rest right).length<rest.length/\Trim (lI rest right):=by
 have pr:0<right.length:=aE.mpr hr;refine⟨?_,?_,oj _⟩
 ·unfold lI;rw[qT,g9,MN,g9];grind
 ·unfold lI uh Ce;rw[BF];have ll:(iJ (rest.map fun x=>lc right*x) (Lx (List.replicate (rest.length - right.length) 0 ++ right.map fun y=>lc rest*y))).length=(rest.length - 1)+1:=by
   rw[jw,xq,aA,aQ,lMp,lMp];lia
  rw[ll];refine Nat.lt_of_le_of_lt (A8 _ _ ?_) (by lia);rw[iZ,iQ _ (by lia)];unfold Lx;rw[iQ _ (by lia),LG _ _ _ (by lia),iQ _ (by lia)];have e:rest.length - 1 - (rest.length - right.length)=right.length - 1:=by lia
  rw[e];show lc right*lc rest+ -(lc rest*lc right)=0;rw[Int.mul_comm];lia
theorem xy{right:dN}(hr:right≠[])(tr:Trim right):∀(f:Nat) (rest:dN),Trim rest->rest.length<f->∃(k:Rat) (q:PF),k≠0/\PF.const k*dG rest=q*dG right+dG (zj f rest right)/\(zj f rest right).length<right.length/\Trim (zj f rest right)
 |0,rest,_,h=>by lia
 |f+1,rest,t,h=>by
  unfold zj;by_cases q:rest.length<right.length
  ·rw[ah q];exact⟨1,0,by decide,by rw[gz];grind,q,t⟩
  ·rw[af q];obtain⟨e1,e2,e3⟩:=CA (rest:=rest) (right:=right) (by lia) hr;obtain⟨k,u,hk,e4,e5,e6⟩:=xy hr tr f (lI rest right) e3 (by lia);refine⟨k*((lc right:Int):Rat),PF.const k*(PF.const ((lc rest:Int):Rat)*vZ (rest.length - right.length))+u,?_,?_,e5,e6⟩
   ·intro z;rcases bY.mp z with z |z
    ·exact hk z
    ·exact rJ (fB.mp tr hr) z
   ·rw[nU];have:PF.const k*PF.const ((lc right:Int):Rat)*dG rest=PF.const k*(PF.const ((lc right:Int):Rat)*dG rest):=by grind
    rw[this,e1];have:PF.const k*((PF.const ((lc rest:Int):Rat)*vZ (rest.length - right.length))*dG right+dG (lI rest right))=PF.const k*((PF.const ((lc rest:Int):Rat)*vZ (rest.length - right.length))*dG right)+PF.const k*dG (lI rest right):=by grind
    rw[this,e4];grind
structure Span(T B l s:PF):Prop where
 QV:∃p q:PF,l=p*T+q*B
 UZ:∃p q:PF,s=p*T+q*B
 S3:∃p q:PF,T=p*l+q*s
 S4:∃p q:PF,B=p*l+q*s
theorem LH{T B:PF}:∀(f:Nat) (l s:dN),s.length<f->Trim l->Trim s->l≠[]->fO l=1->(s≠[]->fO s=1)->Span T B (dG l) (dG s)->Trim (A7 f l s)/\A7 f l s≠[]/\fO (A7 f l s)=1/\(∃p q:PF,dG (A7 f l s)=p*T+q*B)/\(∃p:PF,T=p*dG (A7 f l s))/\∃p:PF,B=p*dG (A7 f l s)
 |0,l,s,h,_,_,_,_,_,_=>by lia
 |f+1,l,s,h,tl,ts,hl,gl,gs,S=>by
  unfold A7;by_cases q:s=[]
  ·rw[ah q];subst q;obtain⟨p1,q1,e1⟩:=S.S3;obtain⟨p2,q2,e2⟩:=S.S4;have z:dG []=0:=rfl;exact⟨tl,hl,gl,S.QV,⟨p1,by rw[e1,z];grind⟩,p2,by rw[e2,z];grind⟩
  ·rw[af q];obtain⟨k,u,hk,e,hlen,tw⟩:=xy q ts (l.length+1) l tl (by lia);have pr:=Cw (gP l s);change PF.const k*dG l=u*dG s+dG (gP l s) at e;change (gP l s).length<s.length at hlen;change Trim (gP l s) at tw;obtain⟨lp,lq,el⟩:=S.QV;obtain⟨sp,sq,es⟩:=S.UZ;obtain⟨Tp,Tq,eT⟩:=S.S3;obtain⟨Bp,Bq,eB⟩:=S.S4;have ki:=qV hk;have el2:dG l=(PF.const (1 / k)*u)*dG s+(PF.const (1 / k)*PF.const ((cont (gP l s):Int):Rat))*dG (prim (gP l s)):=by
    have:dG l=PF.const (1 / k)*(PF.const k*dG l):=by grind
    rw[this,e,<-pr];grind
   refine LH f s (prim (gP l s)) (by rw[gQ];lia) ts (iz tw) q (gs q) (fun hn=>Cy tw fun z=>hn (by rw[z];rfl)) ⟨⟨sp,sq,es⟩,?_,?_,?_⟩
   ·by_cases z:gP l s=[]
    ·refine⟨0,0,?_⟩;rw[z];show(0:PF)=_;grind
    ·have hc:((cont (gP l s):Int):Rat)≠0:=rJ (by
      rw[jY];have:=jz tw z;lia)
     have ci:=qV hc;refine⟨PF.const (1 / ((cont (gP l s):Int):Rat))*(PF.const k*lp - u*sp),PF.const (1 / ((cont (gP l s):Int):Rat))*(PF.const k*lq - u*sq),?_⟩;have e2:dG (prim (gP l s))=PF.const (1 / ((cont (gP l s):Int):Rat))*dG (gP l s):=by rw[<-pr];grind
     have e3:dG (gP l s)=PF.const k*dG l - u*dG s:=by rw[e];grind
     rw[e2,e3,el,es];grind
   ·refine⟨Tp*(PF.const (1 / k)*u)+Tq,Tp*(PF.const (1 / k)*PF.const ((cont (gP l s):Int):Rat)),?_⟩;have:Tp*dG l+Tq*dG s=Tp*((PF.const (1 / k)*u)*dG s+(PF.const (1 / k)*PF.const ((cont (gP l s):Int):Rat))*dG (prim (gP l s)))+Tq*dG s:=by rw[<-el2]
    rw[eT,this];grind
   ·refine⟨Bp*(PF.const (1 / k)*u)+Bq,Bp*(PF.const (1 / k)*PF.const ((cont (gP l s):Int):Rat)),?_⟩;have:Bp*dG l+Bq*dG s=Bp*((PF.const (1 / k)*u)*dG s+(PF.const (1 / k)*PF.const ((cont (gP l s):Int):Rat))*dG (prim (gP l s)))+Bq*dG s:=by rw[<-el2]
    rw[eB,this];grind
theorem J4{T B:dN}(tT:Trim T)(tB:Trim B)(hT:T≠[]):
  Trim (pO T B)/\pO T B≠[]/\fO (pO T B)=1/\(∃p q:PF,dG (pO T B)=p*dG T+q*dG B)/\(∃p:PF,dG T=p*dG (pO T B))/\∃p:PF,dG B=p*dG (pO T B):=by
 have hc:((cont T:Int):Rat)≠0:=rJ (by
  rw[jY];have:=jz tT hT;lia)
 have ci:=qV hc;have pT:=Cw T;have pB:=Cw B;refine LH (B.length+1) (prim T) (prim B) (by rw[gQ];lia) (iz tT) (iz tB) (fun e=>hT (by
  have:=congrArg List.length e;rw[gQ] at this;exact bg.mp (by simpa using this))) (Cy tT hT) (fun hn=>Cy tB fun z=>hn (by rw[z];rfl)) ⟨⟨PF.const (1 / ((cont T:Int):Rat)),0,by rw[<-pT];grind⟩,?_,⟨PF.const ((cont T:Int):Rat),0,by rw[pT];grind⟩,⟨0,PF.const ((cont B:Int):Rat),by rw[pB];grind⟩⟩
 by_cases z:B=[]
 ·refine⟨0,0,?_⟩;rw[z];show(0:PF)=_;grind
 ·have hcB:((cont B:Int):Rat)≠0:=rJ (by
   rw[jY];have:=jz tB z;lia)
  have ciB:=qV hcB;exact⟨0,PF.const (1 / ((cont B:Int):Rat)),by rw[<-pB];grind⟩
end de
namespace de
open Lean.Grind
open Wh (valueAt addPoly scalePoly mulPoly subPoly)
structure Canon(u d:PF)(N D:dN):Prop where
 tN:Trim N
 tD:Trim D
 nN:N≠[]
 nD:D≠[]
 eq:dG N*d=u*dG D
 S5:∃p q:PF,p*dG N+q*dG D=1
 gcd:Nat.gcd (fO N) (fO D)=1
 pos:0<lc D
theorem Canon.scale{u d:PF}{N D:dN}(C:Canon u d N D)(c:PF):Canon (c*u) (c*d) N D:=
 ⟨C.tN,C.tD,C.nN,C.nD,by have:=C.eq;grind,C.S5,C.gcd,C.pos⟩
theorem rL{l:dN}(t:Trim l)(h:l≠[]):dG l≠0:=fun e=>h ((fK t).mp e)
theorem Ig{D E:dN}(tD:Trim D)(tE:Trim E)(hD:D≠[])(hE:E≠[]){r s:PF}(h1:dG E=r*dG D)(h2:dG D=s*dG E):∃(c:Int) (M:Nat),0<M/\c≠0/\PF.const (M:Rat)*dG E=PF.const ((c:Int):Rat)*dG D:=by
 obtain⟨M,R,hM,tR,eR⟩:=u9 r;have hr:r≠0:=fun z=>rL tE hE (by rw[h1,z];grind)
 have hs:s≠0:=fun z=>rL tD hD (by rw[h2,z];grind)
 have hR:R≠[]:=fun q=>by
  rw[q] at eR;exact PF.zh (jW (vX hM)) hr eR
 have l0:Dg (PF.const 1*(s*dG E)) D.length:=by
  have:PF.const 1*(s*dG E)=dG D:=by rw[gz,<-h2];grind
  rw[this];exact Gs D
 have l1:E.length<=D.length:=Cv tE hE hs (c:=1) (by decide) l0;have e3:dG (gX R D)=dG (E.map fun y=>(M:Int)*y):=by
  rw[jU,g9,<-eR,h1];have:((M:Int):Rat)=(M:Rat):=bt M;rw[this];grind
 have e4:gX R D=E.map fun y=>(M:Int)*y:=pN (qU tR tD) (OH _ (by lia) (fun x hx=>Int.mul_ne_zero (by lia) hx) tE) e3
 have l2:=congrArg List.length e4;rw[xr hR hD,lMp] at l2;have pR:0<R.length:=aE.mpr hR;have pD:0<D.length:=aE.mpr hD;have lR:R.length=1:=by lia
 obtain⟨c,rfl⟩:=List.length_eq_one_iff.mp lR;refine⟨c,M,hM,fun z=> ?_,?_⟩
 ·have:=fB.mp tR (by simp);exact this (by rw[z];rfl)
 ·have e5:dG [c]=PF.const ((c:Int):Rat):=PF.ext fun x=>by
   rw[fi];show(c:Rat)+x*0=(c:Rat);grind
  rw[h1,<-e5,<-eR];grind
theorem CB{l m:dN}{a b:Int}(h:PF.const ((a:Int):Rat)*dG l=PF.const ((b:Int):Rat)*dG m)(i:Nat):a*l.getD i 0=b*m.getD i 0:=by
 rw[<-g9,<-g9] at h;have e:=qS h i
 rwa [iQ _ (by lia),iQ _ (by lia)] at e
theorem xA{l m:dN}{a b:Int}(h:PF.const ((a:Int):Rat)*dG l=PF.const ((b:Int):Rat)*dG m):∀x∈m,a ∣ b*x:=fun x hx=>by
 obtain⟨i,hi,e⟩:=aY hx;have:=CB h i;rw[gDe (l:=m),aa hi] at this;simp only[cF,e] at this;exact⟨_,this.symm⟩
theorem Canon.unique{u d:PF}(hd:d≠0){N D N' D':dN}(C:Canon u d N D)(C':Canon u d N' D'):N=N'/\D=D':=by
 have xm:=PF.xm hd;have cross:dG N*dG D'=dG N' *dG D:=by
  refine xm _ _ ?_;have e1:=C.eq;have e2:=C'.eq;have:d*(dG N*dG D')=(dG N*d)*dG D':=by grind
  rw[this,e1];have:d*(dG N' *dG D)=(dG N' *d)*dG D:=by grind
  rw[this,e2];grind
 obtain⟨p,q,b1⟩:=C.S5;obtain⟨p',q',b2⟩:=C'.S5;have h1:dG D'=(p*dG N' +q*dG D')*dG D:=by
  have:dG D'=dG D' *(p*dG N+q*dG D):=by rw[b1];grind
  rw[this];have:dG D' *(p*dG N+q*dG D)=p*(dG N*dG D')+q*dG D*dG D':=by grind
  rw[this,cross];grind
 have h2:dG D=(p' *dG N+q' *dG D)*dG D':=by
  have:dG D=dG D*(p' *dG N' +q' *dG D'):=by rw[b2];grind
  rw[this];have:dG D*(p' *dG N' +q' *dG D')=p' *(dG N' *dG D)+q' *dG D' *dG D:=by grind
  rw[this,<-cross];grind
 obtain⟨c,M,hM,hc,eD⟩:=Ig C.tD C'.tD C.nD C'.nD h1 h2;have hMr:((M:Int):Rat)=(M:Rat):=bt M;rw[<-hMr] at eD;have eN:PF.const ((M:Int):Rat)*dG N'=PF.const ((c:Int):Rat)*dG N:=by
  refine PF.xm (rL C.tD C.nD) _ _ ?_;have:dG D*(PF.const ((M:Int):Rat)*dG N')=PF.const ((M:Int):Rat)*(dG N' *dG D):=by grind
  rw[this,<-cross];have:PF.const ((M:Int):Rat)*(dG N*dG D')=dG N*(PF.const ((M:Int):Rat)*dG D'):=by grind
  rw[this,eD];grind
 have cn:0<c.natAbs:=Int.natAbs_pos.mpr hc;have d1:M ∣ c.natAbs:=by
  have g:M ∣ c.natAbs*fO (N ++ D):=xx fun x hx=>by
   have:(M:Int) ∣ c*x:=by
    rcases aN.mp hx with h |h
    ·exact xA eN x h
    ·exact xA eD x h
   rcases Int.natAbs_eq c with e |e
   ·rwa [<-e]
   ·rw[e,Int.neg_mul] at this;exact Int.dvd_neg.mp this
  rwa [uu,C.gcd,Nat.mul_one] at g
 have d2:c.natAbs ∣ M:=by
  have g:c.natAbs ∣ M*fO (N' ++ D'):=xx fun x hx=>by
   have:c ∣ (M:Int)*x:=by
    rcases aN.mp hx with h |h
    ·exact xA eN.symm x h
    ·exact xA eD.symm x h
   exact Int.natAbs_dvd.mpr this
  rwa [uu,C'.gcd,Nat.mul_one] at g
 have eM:M=c.natAbs:=Nat.dvd_antisymm d1 d2;have ln:D'.length=D.length:=by
  have a1:=vY C'.tD (c:=((M:Int):Rat)) (rJ (by lia)) (e:=D.length) (by rw[eD];exact(Gs D).smul _);have a2:=vY C.tD (c:=((c:Int):Rat)) (rJ hc) (e:=D'.length) (by rw[<-eD];exact(Gs D').smul _);lia
 have lcs:(M:Int)*lc D'=c*lc D:=by
  have:=CB eD (D.length - 1);unfold lc;rw[ln];exact this
 have cpos:0<c:=by
  have h1:0<(M:Int)*lc D':=Int.mul_pos (by lia) C'.pos;rw[lcs] at h1;rcases Int.lt_trichotomy c 0 with h |h |h
  ·have:=Int.mul_neg_of_neg_of_pos h C.pos;lia
  ·exact absurd h hc
  ·exact h
 have eMc:(M:Int)=c:=by lia
 rw[eMc] at eD eN;exact⟨(pN C'.tN C.tN (PF.xm (jW (rJ hc)) _ _ eN)).symm,(pN C'.tD C.tD (PF.xm (jW (rJ hc)) _ _ eD)).symm⟩
theorem xB{l:dN}{f:Int}(hf:f≠0)(h:∀x∈l,f ∣ x):(l.map fun x=>x.fdiv f).map (fun y=>f*y)=l:=by
 rw[aR];have:∀x∈l,((fun y=>f*y) ∘ fun x=>x.fdiv f) x=x:=fun x hx=>Int.mul_fdiv_cancel' (h x hx)
 rw[aU this,cT]
theorem OL(f:Int->Int)(h0:f 0=0)(l:dN):lc (l.map f)=f (lc l):=by
 unfold lc;rw[iQ f h0,lMp]
theorem CC(f:Int){L:dN}:∀{M:dN},M.map (fun y=>f*y)=L->fO L=f.natAbs*fO M:=by
 intro M;induction M generalizing L with
 |nil=>intro e;rw[<-e];exact(Nat.mul_zero _).symm
 |cons a M ih=>intro e;rw[<-e,aH,qW,qW,bR,ih rfl,Nat.gcd_mul_left]
theorem Ih{u d:PF}{A B:dN}(tA:Trim A)(tB:Trim B)(hA:A≠[])(hB:B≠[])(eq:dG A*d=u*dG B)(S5:∃p q:PF,p*dG A+q*dG B=1){f:Int}(hf:f.natAbs=Nat.gcd (fO A) (fO B))(hs:0<f*lc B):
  Canon u d (A.map fun x=>x.fdiv f) (B.map fun x=>x.fdiv f):=by
 have pA:=jz tA hA;have f0:f≠0:=fun z=>by
  rw[z] at hs;simp at hs
 have dA:∀x∈A,f ∣ x:=fun x hx=>Int.natAbs_dvd.mp (by rw[hf];exact cw (bP.mpr (Nat.gcd_dvd_left _ _)) (mP hx))
 have dB:∀x∈B,f ∣ x:=fun x hx=>Int.natAbs_dvd.mp (by rw[hf];exact cw (bP.mpr (Nat.gcd_dvd_right _ _)) (mP hx))
 have sA:=xB f0 dA;have sB:=xB f0 dB;have e0:(0:Int).fdiv f=0:=Int.zero_fdiv f;generalize hN:(A.map fun x=>x.fdiv f)=N at sA⊢;generalize hD:(B.map fun x=>x.fdiv f)=D at sB⊢;have oA:dG A=PF.const ((f:Int):Rat)*dG N:=by rw[<-g9,sA]
 have oB:dG B=PF.const ((f:Int):Rat)*dG D:=by rw[<-g9,sB]
 have lA:lc A=f*lc N:=by rw[<-sA];exact OL _ (by lia) N
 have lB:lc B=f*lc D:=by rw[<-sB];exact OL _ (by lia) D
 have tN:Trim N:=fB.mpr fun _ z=>fB.mp tA hA (by rw[lA,z];lia)
 have tD:Trim D:=fB.mpr fun _ z=>fB.mp tB hB (by rw[lB,z];lia)
 have nN:N≠[]:=fun z=>hA (by rw[<-sA,z];rfl)
 have nD:D≠[]:=fun z=>hB (by rw[<-sB,z];rfl)
 refine⟨tN,tD,nN,nD,?_,?_,?_,?_⟩
 ·refine PF.xm (jW (rJ f0)) _ _ ?_;rw[oA,oB] at eq;grind
 ·obtain⟨p,q,b⟩:=S5;rw[oA,oB] at b;exact⟨p*PF.const ((f:Int):Rat),q*PF.const ((f:Int):Rat),by rw[<-b];grind⟩
 ·
  have g1:=CC f sA;have g2:=CC f sB;rw[g1,g2,Nat.gcd_mul_left] at hf;have pf:0<f.natAbs:=Int.natAbs_pos.mpr f0;rcases Nat.lt_or_ge (Nat.gcd (fO N) (fO D)) 2 with r |r
  ·have:Nat.gcd (fO N) (fO D)≠0:=fun z=>by
    rw[z] at hf;lia
   lia
  ·have:f.natAbs*2<=f.natAbs*Nat.gcd (fO N) (fO D):=cg _ r;lia
 ·rw[lB] at hs;have e:f*(f*lc D)=(f*f)*lc D:=by rw[Int.mul_assoc]
  rw[e] at hs;have ff:0<=f*f:=by
   rcases Int.le_total 0 f with h |h
   ·exact Int.mul_nonneg h h
   ·exact Int.mul_nonneg_of_nonpos_of_nonpos h h
  rcases Int.lt_or_le 0 (lc D) with h |h
  ·exact h
  ·have:=Int.mul_nonpos_of_nonneg_of_nonpos ff h;lia
theorem OM{T B:dN}(tT:Trim T)(tB:Trim B)(hT:T≠[])(hB:B≠[]):∃N D,Canon (dG T) (dG B) N D/\sO T B=((N.length:Int)::N.reverse) ++ ((D.length:Int)::D.reverse):=by
 obtain⟨tg,hg,gg,⟨p,q,eg⟩,⟨a,ea⟩,⟨b,eb⟩⟩:=J4 tT tB hT;obtain⟨A,tA,oA⟩:=nV gg ea;obtain⟨Bq,tBq,oB⟩:=nV gg eb;have dA:mZ T (pO T B)=A:=pQ tT tg tA hg (by rw[oA];exact ea);have dB:mZ B (pO T B)=Bq:=pQ tB tg tBq hg (by rw[oB];exact eb);have hA:A≠[]:=fun z=>hT ((fK tT).mp (by
  rw[ea,<-oA,z];show(0:PF)*_=0;grind))
 have hBq:Bq≠[]:=fun z=>hB ((fK tB).mp (by
  rw[eb,<-oB,z];show(0:PF)*_=0;grind))
 have S5:∃p q:PF,p*dG A+q*dG Bq=1:=⟨p,q,by
  refine PF.xm (rL tg hg) _ _ ?_;have e1:dG (pO T B)*(p*dG A+q*dG Bq)=p*(a*dG (pO T B))+q*(b*dG (pO T B)):=by rw[oA,oB];grind
  rw[e1,<-ea,<-eb,<-eg];grind⟩
 have eq:dG A*dG B=dG T*dG Bq:=by rw[ea,eb,oA,oB];grind
 have nlc:=fB.mp tBq hBq;have pB:=jz tBq hBq;have pg:0<Nat.gcd (fO A) (fO Bq):=c7 _ pB;have eg':lE (cont A) (cont Bq)=(Nat.gcd (fO A) (fO Bq):Int):=by
  unfold lE;rw[jY,jY,bI,bI]
 unfold sO;dsimp only;rw[af hT,dA,dB,eg'];generalize hf:(if lc Bq<0 then -(Nat.gcd (fO A) (fO Bq):Int) else(Nat.gcd (fO A) (fO Bq):Int))=f;have fn:f.natAbs=Nat.gcd (fO A) (fO Bq):=by
  rw[<-hf];split <;>lia
 have fs:0<f*lc Bq:=by
  rw[<-hf];split
  ·rename_i h;exact cW (by lia) h
  ·exact Int.mul_pos (by lia) (by lia)
 refine⟨_,_,Ih tA tBq hA hBq eq S5 fn fs,?_⟩;unfold sN;rw[lMp,lMp,List.map_reverse,List.map_reverse]
theorem gv(p:List Rat):fz (Wh.trim p)=fz p:=PF.ext fun x=>BI p x
theorem uw:∀(q:List Rat),(q.dropWhile fun x:Rat=>decide (x=0))=[]\/∃a r,(q.dropWhile fun x:Rat=>decide (x=0))=a::r/\a≠0
 |[]=> .inl rfl
 |a::q=>by
  by_cases h:a=0
  ·rw[List.dropWhile_cons_of_pos (by simpa using h)];exact uw q
  ·rw[List.dropWhile_cons_of_neg (by simpa using h)];exact .inr ⟨a,q,rfl,h⟩
noncomputable def Fe (p:List Rat):Prop:=p≠[]->p.getD (p.length - 1) 0≠0
theorem lU(p:List Rat):Fe (Wh.trim p):=by
 intro h;unfold Wh.trim at h⊢;rcases uw p.reverse with e |⟨a,r,e,ha⟩
 ·rw[e] at h;exact absurd rfl h
 ·rw[e];rw[List.reverse_cons,aA,bu,gDe];simp only[au,bJ];rw[bz (by rw[bu];lia)];simp only[bu];have:r.length+(0+1) - 1 - r.length=0:=by lia
  rw[this];exact ha
theorem Gw(p:List Rat):Wh.lead p=(Wh.trim p).getD ((Wh.trim p).length - 1) 0:=by
 unfold Wh.lead;rw[cy,gDe]
theorem oo(p:List Rat):Wh.isZero p=true↔Wh.trim p=[]:=by
 unfold Wh.isZero;exact cU
theorem J5{p:List Rat}(t:Fe p):fz p=0↔p=[]:=by
 refine⟨fun e=> ?_,fun e=>by rw[e];rfl⟩;by_cases h:p=[]
 ·exact h
 ·have z:ze p:=Cd fun x=>by
   have:=congrArg (fun q:PF=>q.f x) e;exact this
  exact absurd (z.get _) (t h)
theorem jA(p:List Rat):Wh.isZero p=true↔fz p=0:=by
 rw[oo,<-gv p,J5 (lU p)]
theorem ON(k:Nat)(p:List Rat)(x:Rat):valueAt (Wh.shifted k p) x=x^k*valueAt p x:=by
 unfold Wh.shifted;induction k with
 |zero=>
  show valueAt p x=x^0*_;grind
 |succ k ih=>
  rw[bT,List.cons_append,iq,ih];have:x^(k+1)=x^k*x:=Rat.pow_succ x k;rw[this];grind
theorem S6(k:Nat)(x:Rat):(vZ k).f x=x^k:=by
 unfold vZ;rw[Gv];show x^k*(((1:Int):Rat)+x*0)=_;grind
theorem zy(k:Nat)(p:List Rat):fz (Wh.shifted k p)=vZ k*fz p:=PF.ext fun x=>by
 rw[Lw,ON,PF.OG,S6];rfl
theorem zz(c:Rat)(p:List Rat):fz (scalePoly c p)=PF.const c*fz p:=PF.ext fun x=>iY c p x
theorem LJ(p q:List Rat):fz (addPoly p q)=fz p+fz q:=PF.ext fun x=>qu p q x
theorem Gx(p q:List Rat):fz (subPoly p q)=fz p - fz q:=by
 unfold Wh.subPoly;rw[LJ,zz];exact PF.ext fun x=>by
  show(fz p).f x+(-1)*(fz q).f x=(fz p).f x - (fz q).f x;grind
theorem xC{p:List Rat}{e:Nat}(h:Dg (fz p) e):(Wh.trim p).length<=e:=by
 obtain⟨m,hm,hle⟩:=h;refine ay (cS fun lt=> ?_) hle;have hl0:Wh.trim p≠[]:=fun q=>by rw[q] at lt;exact absurd lt (by simp)
 have ec:=EV (p:=m) (q:=Wh.trim p) (fun x=>by
  have:=congrArg (fun q:PF=>q.f x) (hm.trans (gv p).symm);exact this) ((Wh.trim p).length - 1)
 rw[gDe,aI (by lia)] at ec;exact lU p hl0 ec.symm
theorem S7(p:List Rat):Dg (fz p) (Wh.trim p).length:=⟨Wh.trim p,gv p,aj _⟩
theorem QW{p:List Rat}(h:Wh.trim p≠[]):Wh.lead p≠0:=by rw[Gw];exact lU p h
theorem J6{p q:List Rat}(hp:Wh.trim p≠[])(hq:Wh.trim q≠[])(h:(Wh.trim q).length<=(Wh.trim p).length):
  fz p=(PF.const (Wh.lead p / Wh.lead q)*vZ ((Wh.trim p).length - (Wh.trim q).length))*fz q+fz (Wh.lowered p q)/\(Wh.trim (Wh.lowered p q)).length<(Wh.trim p).length:=by
 have pp:0<(Wh.trim p).length:=aE.mpr hp;have pq:0<(Wh.trim q).length:=aE.mpr hq;have e:fz (Wh.lowered p q)=fz p - PF.const (Wh.lead p / Wh.lead q)*(vZ ((Wh.trim p).length - (Wh.trim q).length)*fz q):=by
  unfold Wh.lowered;rw[gv,Gx,zz,zy,gv]
 refine⟨by rw[e];grind,?_⟩;have dg:Dg (fz (Wh.lowered p q)) ((Wh.trim p).length - 1):=by
  let r:=subPoly (Wh.trim p) (scalePoly (Wh.lead p / Wh.lead q) (Wh.shifted ((Wh.trim p).length - (Wh.trim q).length) (Wh.trim q)));have lr:r.length=(Wh.trim p).length:=by
   show(addPoly (Wh.trim p) (scalePoly (-1) (scalePoly _ (Wh.shifted _ _)))).length=_;rw[jy];unfold Wh.scalePoly Wh.shifted;simp only[lMp,aA,aQ];lia
  have er:fz r=fz (Wh.lowered p q):=by
   show fz (subPoly _ _)=_;rw[Gx,zz,zy,gv,gv,e]
  have zr:r.getD ((Wh.trim p).length - 1) 0=0:=by
   show(addPoly (Wh.trim p) (scalePoly (-1) (scalePoly _ (Wh.shifted _ _)))).getD _ 0=0;rw[ug,nR,nR];have es:(Wh.shifted ((Wh.trim p).length - (Wh.trim q).length) (Wh.trim q)).getD ((Wh.trim p).length - 1) 0=Wh.lead q:=by
    unfold Wh.shifted;rw[gDe,bz (by rw[aQ];lia),aQ,<-gDe,Gw];have:(Wh.trim p).length - 1 - ((Wh.trim p).length - (Wh.trim q).length)=(Wh.trim q).length - 1:=by lia
    rw[this]
   rw[es,<-Gw];have:=QW hq;grind
  refine⟨r.take ((Wh.trim p).length - 1),?_,by rw[aD];lia⟩;rw[<-er];have ev:∀(l:List Rat) (n:Nat),l.length=n+1->l.getD n 0=0->∀x,valueAt (l.take n) x=valueAt l x:=by
   intro l;induction l with
   |nil=>intro n h;simp at h
   |cons a l ih=>
    intro n h hz x;cases n with
    |zero=>
     have:l=[]:=bg.mp (by simpa using h);subst this;have:a=0:=hz;subst this;show(0:Rat)=0+x*0;grind
    |succ n=>
     rw[List.take_succ_cons,iq,iq,ih n (by simpa using h) (by simpa using hz)]
  exact PF.ext fun x=>ev r ((Wh.trim p).length - 1) (by lia) zr x
 have:=xC dg;lia
theorem CD{q:List Rat}(hq:Wh.trim q≠[]):∀(f:Nat) (p:List Rat),(Wh.trim p).length<f->fz p=fz (Wh.quotOn f p q)*fz q+fz (Wh.restOn f p q)/\(Wh.trim (Wh.restOn f p q)).length<(Wh.trim q).length
 |0,p,h=>by lia
 |f+1,p,h=>by
  have pq:0<(Wh.trim q).length:=aE.mpr hq;unfold Wh.quotOn Wh.restOn;by_cases c:Wh.isZero p=true\/(Wh.trim p).length<(Wh.trim q).length
  ·rw[ah c,ah c];have tt:Wh.trim (Wh.trim p)=Wh.trim p:=by
    have l1:=xC (p:=Wh.trim p) (e:=(Wh.trim p).length) ⟨Wh.trim p,rfl,aj _⟩;have l2:=xC (p:=p) (e:=(Wh.trim (Wh.trim p)).length) ⟨Wh.trim (Wh.trim p),by rw[gv,gv],aj _⟩;refine cE (by lia) fun i h1 h2=> ?_
    have ec:=EV (p:=Wh.trim (Wh.trim p)) (q:=Wh.trim p) (fun x=>BI _ x) i;simpa [gDe,aa h1,aa h2] using ec
   refine⟨?_,?_⟩
   ·rw[gv];show fz p=(0:PF)*fz q+fz p;grind
   ·rw[tt];rcases c with c |c
    ·rw[(oo p).mp c];exact pq
    ·exact c
  ·rw[af c,af c];have hp:Wh.trim p≠[]:=fun z=>c (.inl ((oo p).mpr z))
   obtain⟨e1,e2⟩:=J6 hp hq (cS fun z=>c (.inr z));obtain⟨e3,e4⟩:=CD hq f (Wh.lowered p q) (by lia);refine⟨?_,e4⟩;have e5:fz (Wh.shifted ((Wh.trim p).length - (Wh.trim q).length) [Wh.lead p / Wh.lead q])=PF.const (Wh.lead p / Wh.lead q)*vZ ((Wh.trim p).length - (Wh.trim q).length):=by
    rw[zy];exact PF.ext fun x=>by
     show(vZ _).f x*(Wh.lead p / Wh.lead q+x*0)=(Wh.lead p / Wh.lead q)*(vZ _).f x;grind
   rw[LJ,e5,e1];have:(PF.const (Wh.lead p / Wh.lead q)*vZ ((Wh.trim p).length - (Wh.trim q).length))*fz q+fz (Wh.lowered p q)=(PF.const (Wh.lead p / Wh.lead q)*vZ ((Wh.trim p).length - (Wh.trim q).length))*fz q+(fz (Wh.quotOn f (Wh.lowered p q) q)*fz q+fz (Wh.restOn f (Wh.lowered p q) q)):=by rw[<-e3]
   rw[this];grind
theorem MO(p:List Rat):Wh.trim (Wh.trim p)=Wh.trim p:=by
 have l1:=xC (p:=Wh.trim p) (e:=(Wh.trim p).length) ⟨Wh.trim p,rfl,aj _⟩;have l2:=xC (p:=p) (e:=(Wh.trim (Wh.trim p)).length) ⟨Wh.trim (Wh.trim p),by rw[gv,gv],aj _⟩;refine cE (by lia) fun i h1 h2=> ?_
 have ec:=EV (p:=Wh.trim (Wh.trim p)) (q:=Wh.trim p) (fun x=>BI _ x) i;simpa [gDe,aa h1,aa h2] using ec
theorem Ii{q:List Rat}(hq:Wh.trim q≠[])(p:List Rat):fz p=fz (Wh.quot p q)*fz q+fz (Wh.rest p q)/\(Wh.trim (Wh.rest p q)).length<(Wh.trim q).length:=by
 have:=CD hq ((Wh.trim p).length+1) (Wh.trim p) (by rw[MO];lia);rw[gv] at this;exact this
theorem Ij{T B:PF}:∀(f:Nat) (l s:List Rat),(Wh.trim s).length<f->Span T B (fz l) (fz s)->(∃p q:PF,fz (Wh.gcdOn f l s)=p*T+q*B)/\(∃p:PF,T=p*fz (Wh.gcdOn f l s))/\∃p:PF,B=p*fz (Wh.gcdOn f l s)
 |0,_,_,h,_=>by lia
 |f+1,l,s,h,S=>by
  unfold Wh.gcdOn;obtain⟨Tp,Tq,eT⟩:=S.S3;obtain⟨Bp,Bq,eB⟩:=S.S4;by_cases q:Wh.isZero s=true
  ·rw[ah q,gv];have z:=(jA s).mp q;rw[z] at eT eB;exact⟨S.QV,⟨Tp,by rw[eT];grind⟩,Bp,by rw[eB];grind⟩
  ·rw[af q];have hs:Wh.trim s≠[]:=fun z=>q ((oo s).mpr z)
   obtain⟨e,hlen⟩:=Ii hs l;obtain⟨lp,lq,el⟩:=S.QV;obtain⟨sp,sq,es⟩:=S.UZ;refine Ij f s (Wh.rest l s) (by lia) ⟨⟨sp,sq,es⟩,⟨lp - fz (Wh.quot l s)*sp,lq - fz (Wh.quot l s)*sq,?_⟩,⟨Tp*fz (Wh.quot l s)+Tq,Tp,?_⟩,⟨Bp*fz (Wh.quot l s)+Bq,Bp,?_⟩⟩
   ·have:fz (Wh.rest l s)=fz l - fz (Wh.quot l s)*fz s:=by
     have e':fz l - fz (Wh.quot l s)*fz s=(fz (Wh.quot l s)*fz s+fz (Wh.rest l s)) - fz (Wh.quot l s)*fz s:=by rw[<-e]
     rw[e'];grind
    rw[this,el,es];grind
   ·have:Tp*fz l+Tq*fz s=Tp*(fz (Wh.quot l s)*fz s+fz (Wh.rest l s))+Tq*fz s:=by rw[<-e]
    rw[eT,this];grind
   ·have:Bp*fz l+Bq*fz s=Bp*(fz (Wh.quot l s)*fz s+fz (Wh.rest l s))+Bq*fz s:=by rw[<-e]
    rw[eB,this];grind
theorem S8(u d:List Rat):(∃p q:PF,fz (Wh.gcdPoly u d)=p*fz u+q*fz d)/\(∃p:PF,fz u=p*fz (Wh.gcdPoly u d))/\∃p:PF,fz d=p*fz (Wh.gcdPoly u d):=
 Ij _ u d (by lia) ⟨⟨1,0,by grind⟩,⟨0,1,by grind⟩,⟨1,0,by grind⟩,⟨0,1,by grind⟩⟩
theorem J7{l:List Rat}(t:Fe l):∃(M:Nat) (G:dN),0<M/\Trim G/\G.length=l.length/\PF.const (M:Rat)*fz l=dG G:=by
 obtain⟨M,G,hM,tG,e⟩:=u9 (fz l);have ec:∀i,((G.getD i 0:Int):Rat)=(M:Rat)*l.getD i 0:=fun i=>by
  have:=EV (p:=rl G) (q:=scalePoly (M:Rat) l) (fun x=>by
   have:=congrArg (fun q:PF=>q.f x) e;rw[iY];exact this.symm) i
  rwa [Gi,nR] at this
 have l1:G.length<=l.length:=by
  have:=vY tG (c:=1) (by decide) (e:=l.length) (by
   rw[gz];have:(1:PF)*dG G=dG G:=by grind
   rw[this,<-e];exact Dg.smul _ ⟨l,rfl,aj _⟩)
  exact this
 refine⟨M,G,hM,tG,Nat.le_antisymm l1 (cS fun lt=> ?_),e⟩;have h0:l≠[]:=fun z=>by rw[z] at lt;exact absurd lt (by simp)
 have:=ec (l.length - 1);rw[gDe,aI (by lia)] at this;have z:(M:Rat)*l.getD (l.length - 1) 0=0:=by rw[<-this];rfl
 rcases bY.mp z with z |z
 ·exact vX hM z
 ·exact t h0 z
theorem CF{p g:List Rat}(hg:Wh.trim g≠[]){a:PF}(h:fz p=a*fz g):fz (Wh.quot p g)=a:=by
 obtain⟨e,hlen⟩:=Ii hg p;by_cases z:a - fz (Wh.quot p g)=0
 ·grind
 ·exfalso;obtain⟨M,G,hM,tG,lG,eG⟩:=J7 (lU g);rw[gv] at eG;have nG:G≠[]:=fun q=>hg (bg.mp (by rw[<-lG,q];rfl))
  have er:fz (Wh.rest p g)=(a - fz (Wh.quot p g))*fz g:=by
   have:fz (Wh.rest p g)=fz p - fz (Wh.quot p g)*fz g:=by
    have e':fz p - fz (Wh.quot p g)*fz g=(fz (Wh.quot p g)*fz g+fz (Wh.rest p g)) - fz (Wh.quot p g)*fz g:=by rw[<-e]
    rw[e'];grind
   rw[this,h];grind
  have d:Dg (PF.const 1*((a - fz (Wh.quot p g))*dG G)) (Wh.trim (Wh.rest p g)).length:=by
   have:PF.const 1*((a - fz (Wh.quot p g))*dG G)=PF.const (M:Rat)*fz (Wh.rest p g):=by
    rw[gz,<-eG,er];grind
   rw[this];exact(S7 _).smul _
  have:=Cv tG nG z (c:=1) (by decide) d;lia
theorem AK:∀(l:List Nat) (acc:Nat),acc ∣ l.foldl Nat.lcm acc/\∀x∈l,x ∣ l.foldl Nat.lcm acc
 |[],acc=>⟨Nat.dvd_refl _,fun _ h=>by cases h⟩
 |a::l,acc=>by
  obtain⟨h1,h2⟩:=AK l (Nat.lcm acc a);refine⟨Nat.dvd_trans (Nat.dvd_lcm_left acc a) h1,fun x hx=> ?_⟩;rcases aJ.mp hx with e |e
  ·subst e;exact Nat.dvd_trans (Nat.dvd_lcm_right acc x) h1
  ·exact h2 x e
theorem lcm_pos:∀(l:List Nat) (acc:Nat),0<acc->(∀x∈l,0<x)->0<l.foldl Nat.lcm acc
 |[],_,h,_=>h
 |a::l,acc,h,hl=>lcm_pos l _ (Nat.lcm_pos h (hl a ax)) fun x hx=>hl x (ao _ hx)
theorem Ff{x:Rat}{m:Nat}(h:x.den ∣ m):(((x*(m:Rat)).num:Int):Rat)=x*(m:Rat):=by
 obtain⟨k,rfl⟩:=h;have e:x*((x.den*k:Nat):Rat)=((x.num*(k:Int):Int):Rat):=by
  rw[Rat.natCast_mul,Rat.intCast_mul,bt,<-LF x];grind
 rw[e,Rat.num_intCast]
theorem zA(m:Nat):∀l:List Rat,(∀x∈l,x.den ∣ m)->dG (l.map fun x:Rat=>(x*(m:Rat)).num)=PF.const (m:Rat)*fz l
 |[],_=>PF.ext fun x=>by
  show(0:Rat)=(m:Rat)*0;grind
 |a::l,h=>PF.ext fun x=>by
  have ih:=congrArg (fun q:PF=>q.f x) (zA m l fun y hy=>h y (ao _ hy));have ih':(dG (l.map fun x:Rat=>(x*(m:Rat)).num)).f x=(m:Rat)*valueAt l x:=ih;rw[aH,fi,ih',Ff (h a ax)];show _=(m:Rat)*(a+x*valueAt l x);grind
theorem MP(m:Nat)(l:List Rat)(h:∀x∈l,x.den ∣ m)(i:Nat):(((l.map fun x:Rat=>(x*(m:Rat)).num).getD i 0:Int):Rat)=(m:Rat)*l.getD i 0:=by
 rw[gDe,gDe,aC];cases e:l[i]? with
 |none=>
  show((0:Int):Rat)=(m:Rat)*0;grind
 |some v=>
  show(((v*(m:Rat)).num:Int):Rat)=(m:Rat)*v;rw[Ff (h v (aB e))];grind
theorem CG{m:Nat}(hm:0<m){l:List Rat}(t:Fe l)(h:∀x∈l,x.den ∣ m):Trim (l.map fun x:Rat=>(x*(m:Rat)).num):=by
 rw[fB];intro hl z;have h0:l≠[]:=fun q=>hl (by rw[q];rfl)
 have e:=MP m l h (l.length - 1);unfold lc at z;rw[lMp] at z;rw[z] at e;have:(m:Rat)*l.getD (l.length - 1) 0=0:=by rw[<-e];rfl
 rcases bY.mp this with q |q
 ·exact vX hm q
 ·exact t h0 q
theorem OO(l:dN):Wh.gcdOf (l.map Int.natAbs)=fO l:=by
 unfold Wh.gcdOf fO;rw[List.foldl_map]
theorem AL{u d:List Rat}(hu:fz u≠0)(hd:fz d≠0):Canon (fz u) (fz d) (Wh.quotient u d).num (Wh.quotient u d).den:=by
 obtain⟨⟨p,q,eg⟩,⟨a,ea⟩,⟨b,eb⟩⟩:=S8 u d;have ng:fz (Wh.gcdPoly u d)≠0:=fun z=>hu (by rw[ea,z];grind)
 have tg:Wh.trim (Wh.gcdPoly u d)≠[]:=fun z=>ng ((jA _).mp ((oo _).mpr z))
 have qa:=CF tg ea;have qb:=CF tg eb;have zu:¬Wh.isZero u=true:=fun z=>hu ((jA u).mp z)
 have ha:a≠0:=fun z=>hu (by rw[ea,z];grind)
 have hb:b≠0:=fun z=>hd (by rw[eb,z];grind)
 unfold Wh.quotient;dsimp only;rw[af zu,af zu];generalize hA:Wh.trim (Wh.quot u (Wh.gcdPoly u d))=A;generalize hB:Wh.trim (Wh.quot d (Wh.gcdPoly u d))=B;have oA:fz A=a:=by rw[<-hA,gv,qa]
 have oB:fz B=b:=by rw[<-hB,gv,qb]
 have tA:Fe A:=by rw[<-hA];exact lU _
 have tB:Fe B:=by rw[<-hB];exact lU _
 generalize hm:Wh.lcmOf ((A ++ B).map fun x:Rat=>x.den)=m;have dm:∀x∈A ++ B,x.den ∣ m:=fun x hx=>by
  rw[<-hm];exact(AK _ 1).2 _ (aL.mpr ⟨x,hx,rfl⟩)
 have pm:0<m:=by
  rw[<-hm];exact lcm_pos _ 1 (by lia) fun x hx=>by
   obtain⟨y,_,rfl⟩:=aL.mp hx;exact Rat.den_pos y
 have dA:∀x∈A,x.den ∣ m:=fun x hx=>dm x (cP _ hx)
 have dB:∀x∈B,x.den ∣ m:=fun x hx=>dm x (br _ hx)
 have iA:=zA m A dA;have iB:=zA m B dB;have ttA:=CG pm tA dA;have ttB:=CG pm tB dB;generalize hA':(A.map fun x:Rat=>(x*(m:Rat)).num)=A' at iA ttA⊢;generalize hB':(B.map fun x:Rat=>(x*(m:Rat)).num)=B' at iB ttB⊢;have nm:=jW (vX pm);have hA0:A'≠[]:=fun z=>by
  rw[z,oA] at iA;exact PF.zh nm ha iA.symm
 have hB0:B'≠[]:=fun z=>by
  rw[z,oB] at iB;exact PF.zh nm hb iB.symm
 have nlc:=fB.mp ttB hB0;have elast:B'.getLast?.getD 1=lc B':=by
  rw[cy];unfold lc;have:0<B'.length:=aE.mpr hB0;rw[aa (by lia),gDe,aa (by lia)];rfl
 rw[elast,OO,uu];have pg:0<Nat.gcd (fO A') (fO B'):=c7 _ (jz ttB hB0);generalize hf:((Nat.gcd (fO A') (fO B'):Nat):Int)*(if lc B' <0 then -1 else 1)=f;have fn:f.natAbs=Nat.gcd (fO A') (fO B'):=by
  rw[<-hf];split <;>lia
 have fs:0<f*lc B':=by
  rw[<-hf];split
  ·rename_i h;exact cW (by lia) h
  ·exact Int.mul_pos (by lia) (by lia)
 have f0:f≠0:=fun z=>by rw[z] at fs;simp at fs
 have cn:=Ih (u:=fz u) (d:=fz d) (f:=f) ttA ttB hA0 hB0 (by rw[iA,iB,oA,oB];rw[ea,eb];grind) ⟨p*PF.const (1 / (m:Rat)),q*PF.const (1 / (m:Rat)),by
  have ci:=qV (vX pm);refine PF.xm ng _ _ ?_;rw[iA,iB,oA,oB];have:fz (Wh.gcdPoly u d)*(p*PF.const (1 / (m:Rat))*(PF.const (m:Rat)*a)+q*PF.const (1 / (m:Rat))*(PF.const (m:Rat)*b))=(PF.const (m:Rat)*PF.const (1 / (m:Rat)))*(p*(a*fz (Wh.gcdPoly u d))+q*(b*fz (Wh.gcdPoly u d))):=by grind
  rw[this,ci,<-ea,<-eb,<-eg];grind⟩ fn fs
 have same:∀(L:dN),(∀x∈L,f ∣ x)->(L.map fun x:Int=>x / f)=L.map fun x=>x.fdiv f:=fun L h=>aU fun x hx=>by
  obtain⟨y,rfl⟩:=h x hx;rw[Int.mul_ediv_cancel_left _ f0,Int.mul_comm,c6 _ f0]
 have dA':∀x∈A',f ∣ x:=fun x hx=>Int.natAbs_dvd.mp (by rw[fn];exact cw (bP.mpr (Nat.gcd_dvd_left _ _)) (mP hx))
 have dB':∀x∈B',f ∣ x:=fun x hx=>Int.natAbs_dvd.mp (by rw[fn];exact cw (bP.mpr (Nat.gcd_dvd_right _ _)) (mP hx))
 rw[same A' dA',same B' dB'];exact cn
theorem QX{T B:dN}{u d:List Rat}(tT:Trim T)(tB:Trim B)(hB:B≠[]){c:Rat}(hc:c≠0)(eT:dG T=PF.const c*fz u)(eB:dG B=PF.const c*fz d):
  sO T B=(WhB.polyTold (Wh.quotient u d).num ++ WhB.polyTold (Wh.quotient u d).den):=by
 have nc:=jW hc;have hd:fz d≠0:=fun z=>rL tB hB (by rw[eB,z];grind)
 by_cases hT:T=[]
 ·have hu:fz u=0:=by
   refine PF.xm nc _ _ ?_;rw[<-eT,hT];show(0:PF)=_;grind
  have zu:=(jA u).mpr hu;have e1:sO T B=[1,0,1,1]:=by unfold sO;rw[ah hT]
  rw[e1];unfold Wh.quotient;dsimp only;rw[ah zu,ah zu];decide +kernel
 ·have hu:fz u≠0:=fun z=>rL tT hT (by rw[eT,z];grind)
  obtain⟨N,D,C,e⟩:=OM tT tB hT hB;have C2:=(AL hu hd).scale (PF.const c);rw[<-eT,<-eB] at C2;obtain⟨e1,e2⟩:=Canon.unique (rL tB hB) C C2;rw[e,<-e1,<-e2];unfold WhB.polyTold;rw[af (by rw[cU];exact C.nN),af (by rw[cU];exact C.nD)]
end de
namespace de
open Lean.Grind
noncomputable def dot (m:Nat) (r:List Rat) (y:Nat->Rat):Rat:=eC m fun j=>r.getD j 0*y j
noncomputable def sat (m:Nat) (y:Nat->Rat) (z:Rat) (r:Wh.Row):Prop:=dot m r.1 y=z*r.2
theorem rM(q:Rat)(r:Wh.Row)(j:Nat):(Wh.scaleRow q r).1.getD j 0=q*r.1.getD j 0:=by
 show(r.1.map fun x:Rat=>q*x).getD j 0=_;rw[gDe,gDe,aC];cases r.1[j]? with
 |none=>show(0:Rat)=q*0;grind
 |some v=>rfl
theorem rN(q:Rat)(r:Wh.Row):(Wh.scaleRow q r).1.length=r.1.length:=by
 show(r.1.map _).length=_;rw[lMp]
theorem J8(a b:Wh.Row)(j:Nat)(h:a.1.length=b.1.length):(Wh.subRow a b).1.getD j 0=a.1.getD j 0 - b.1.getD j 0:=by
 show(List.zipWith (fun x y:Rat=>x - y) a.1 b.1).getD j 0=_;by_cases q:j<a.1.length
 ·exact Fb _ _ _ _ q (by lia)
 ·rw[gDe,gDe,gDe,aI (by rw[List.length_zipWith];lia),aI (by lia),aI (by lia)];show(0:Rat)=0 - 0;grind
theorem J9(a b:Wh.Row)(h:a.1.length=b.1.length):(Wh.subRow a b).1.length=a.1.length:=by
 show(List.zipWith _ a.1 b.1).length=_;rw[List.length_zipWith];lia
theorem Fg(c:Nat)(p r:Wh.Row)(h:r.1.length=p.1.length):(Wh.clear c p r).1.length=r.1.length:=by
 unfold Wh.clear;split
 ·rfl
 ·rw[J9 _ _ (by rw[rN];exact h)]
theorem zB(c:Nat)(p r:Wh.Row)(h:r.1.length=p.1.length)(j:Nat):(Wh.clear c p r).1.getD j 0=r.1.getD j 0 - r.1.getD c 0*p.1.getD j 0:=by
 unfold Wh.clear;split
 ·rename_i e;rw[e];grind
 ·rw[J8 _ _ _ (by rw[rN];exact h),rM]
theorem Ik(c:Nat)(p r:Wh.Row):(Wh.clear c p r).2=r.2 - r.1.getD c 0*p.2:=by
 unfold Wh.clear;split
 ·rename_i e;rw[e];grind
 ·rfl
theorem MQ(m:Nat)(q:Rat)(r:Wh.Row)(y:Nat->Rat):dot m (Wh.scaleRow q r).1 y=q*dot m r.1 y:=by
 unfold dot;rw[<-fW];exact eI _ fun j _=>by rw[rM];grind
theorem MR(m c:Nat)(p r:Wh.Row)(h:r.1.length=p.1.length)(y:Nat->Rat):dot m (Wh.clear c p r).1 y=dot m r.1 y - r.1.getD c 0*dot m p.1 y:=by
 unfold dot;rw[<-fW,<-Ca];exact eI _ fun j _=>by rw[zB c p r h];grind
theorem MS{m:Nat}{y:Nat->Rat}{z q:Rat}{r:Wh.Row}(hq:q≠0):sat m y z (Wh.scaleRow q r)↔sat m y z r:=by
 unfold sat;rw[MQ];show q*dot m r.1 y=z*(q*r.2)↔_;constructor
 ·intro e;grind
 ·intro e;rw[e];grind
theorem vc{m c:Nat}{y:Nat->Rat}{z:Rat}{p r:Wh.Row}(h:r.1.length=p.1.length)(hp:sat m y z p):sat m y z (Wh.clear c p r)↔sat m y z r:=by
 unfold sat at *;rw[MR m c p r h,Ik,hp];constructor
 ·intro e;grind
 ·intro e;rw[e];grind
structure Red(m c:Nat)(l:List Wh.Row)(done:List (Nat×Wh.Row))(left:List Wh.Row):Prop where
 cols:done.map (·.1)=List.range c
 OP:∀x∈done,x.2.1.length=m
 MT:∀r∈left,r.1.length=m
 unit:∀x∈done,∀j,j<c->x.2.1.getD j 0=if j=x.1 then 1 else 0
 zero:∀r∈left,∀j,j<c->r.1.getD j 0=0
 cnt:done.length+left.length=l.length
 same:∀y z,(∀r∈l,sat m y z r)↔(∀x∈done,sat m y z x.2)/\∀r∈left,sat m y z r
theorem v5(m:Nat):∀(f c:Nat) (done:List (Nat×Wh.Row)) (left:List Wh.Row),(Wh.reduceFrom f c done left).1.length<=done.length+f
 |0,_,done,_=>by
  show done.length<=_;lia
 |f+1,c,done,left=>by
  unfold Wh.reduceFrom;split
  ·have:=v5 m f (c+1) done left;lia
  ·rename_i i _;refine ay (v5 m f (c+1) _ _) ?_;rw[aA,lMp];simp only[au,bJ];lia
theorem mem_getD{left:List Wh.Row}{i:Nat}(h:i<left.length):left.getD i ([],0)∈left:=by
 rw[gDe,aa h];exact bO h
theorem Gy{α:Type}(l:List α)(i:Nat)(h:i<l.length)(x:α)(hx:x∈l):x=l[i]\/x∈l.eraseIdx i:=by
 obtain⟨a,ha,e⟩:=aY hx;by_cases q:a=i
 ·subst q;exact .inl e.symm
 ·refine .inr (List.mem_eraseIdx_iff_getElem.mpr ⟨a,ha,q,e⟩)
theorem OQ{m c:Nat}(hc:c<m){l:List Wh.Row}{done:List (Nat×Wh.Row)}{left:List Wh.Row}(S:Red m c l done left){i:Nat}(hi:i<left.length)(hp:(left.getD i ([],0)).1.getD c 0≠0):
  Red m (c+1) l ((done.map fun x:Nat×Wh.Row=>(x.1,Wh.clear c (Wh.scaleRow (1 / (left.getD i ([],0)).1.getD c 0) (left.getD i ([],0))) x.2)) ++ [(c,Wh.scaleRow (1 / (left.getD i ([],0)).1.getD c 0) (left.getD i ([],0)))]) ((left.eraseIdx i).map fun r:Wh.Row=>Wh.clear c (Wh.scaleRow (1 / (left.getD i ([],0)).1.getD c 0) (left.getD i ([],0))) r):=by
 have mp:=mem_getD hi;generalize hP:left.getD i ([],0)=P at *;have hq:(1 / P.1.getD c 0:Rat)≠0:=by grind
 have eP:P=left[i]:=by
  rw[<-hP,gDe,aa hi];rfl
 have lP:=S.MT P mp;generalize hp':Wh.scaleRow (1 / P.1.getD c 0) P=p;have lp:p.1.length=m:=by rw[<-hp',rN];exact lP
 have pg:∀j,p.1.getD j 0=1 / P.1.getD c 0*P.1.getD j 0:=fun j=>by rw[<-hp',rM]
 have pc:p.1.getD c 0=1:=by rw[pg];grind
 have pz:∀j,j<c->p.1.getD j 0=0:=fun j hj=>by rw[pg,S.zero P mp j hj];grind
 have psat:∀y z,sat m y z p↔sat m y z P:=fun y z=>by rw[<-hp'];exact MS hq
 have er:∀r∈left.eraseIdx i,r∈left:=fun r hr=>List.mem_of_mem_eraseIdx hr
 refine⟨?_,?_,?_,?_,?_,?_,?_⟩
 ·rw[aP,aR,bZ,<-S.cols];rfl
 ·intro x hx;rcases aN.mp hx with h |h
  ·obtain⟨y,hy,rfl⟩:=aL.mp h;show(Wh.clear c p y.2).1.length=m;rw[Fg _ _ _ (by rw[S.OP y hy,lp]),S.OP y hy]
  ·have:x=(c,p):=by simpa using h
   subst this;exact lp
 ·intro r hr;obtain⟨y,hy,rfl⟩:=aL.mp hr;rw[Fg _ _ _ (by rw[S.MT y (er y hy),lp]),S.MT y (er y hy)]
 ·intro x hx j hj;rcases aN.mp hx with h |h
  ·obtain⟨y,hy,rfl⟩:=aL.mp h;show(Wh.clear c p y.2).1.getD j 0=if j=y.1 then 1 else 0
   have hy1:y.1<c:=by
    have:y.1∈done.map (·.1):=aL.mpr ⟨y,hy,rfl⟩;rw[S.cols] at this;exact aW.mp this
   rw[zB _ _ _ (by rw[S.OP y hy,lp])];by_cases q:j=c
   ·subst q;rw[pc,af (by lia)];grind
   ·rw[pz j (by lia),S.unit y hy j (by lia)];grind
  ·have:x=(c,p):=by simpa using h
   subst this;show p.1.getD j 0=if j=c then 1 else 0
   by_cases q:j=c
   ·rw[ah q,q,pc]
   ·rw[af q,pz j (by lia)]
 ·intro r hr j hj;obtain⟨y,hy,rfl⟩:=aL.mp hr;rw[zB _ _ _ (by rw[S.MT y (er y hy),lp])];by_cases q:j=c
  ·subst q;rw[pc];grind
  ·rw[S.zero y (er y hy) j (by lia),pz j (by lia)];grind
 ·rw[aA,lMp,lMp,cQ,ah hi,<-S.cnt];simp only[au,bJ];lia
 ·intro y z;rw[S.same y z];constructor
  ·rintro⟨h1,h2⟩;have hp2:=(psat y z).mpr (h2 P mp);refine⟨fun x hx=> ?_,fun r hr=> ?_⟩
   ·rcases aN.mp hx with h |h
    ·obtain⟨w,hw,rfl⟩:=aL.mp h;exact(vc (by rw[S.OP w hw,lp]) hp2).mpr (h1 w hw)
    ·have:x=(c,p):=by simpa using h
     subst this;exact hp2
   ·obtain⟨w,hw,rfl⟩:=aL.mp hr;exact(vc (by rw[S.MT w (er w hw),lp]) hp2).mpr (h2 w (er w hw))
  ·rintro⟨h1,h2⟩;have hp2:sat m y z p:=h1 (c,p) (br _ (by simp));refine⟨fun x hx=> ?_,fun r hr=> ?_⟩
   ·have:=h1 (x.1,Wh.clear c p x.2) (cP _ (aL.mpr ⟨x,hx,rfl⟩));exact(vc (by rw[S.OP x hx,lp]) hp2).mp this
   ·rcases Gy left i hi r hr with e |e
    ·rw[e,<-eP];exact(psat y z).mp hp2
    ·exact(vc (by rw[S.MT r hr,lp]) hp2).mp (h2 _ (aL.mpr ⟨r,e,rfl⟩))
theorem OR{m c:Nat}(hc:c<m){l:List Wh.Row}{done:List (Nat×Wh.Row)}{left:List Wh.Row}(S:Red m c l done left)(hz:∀r∈left,r.1.getD c 0=0):
  ∃y:Nat->Rat,y c≠0/\∀r∈l,dot m r.1 y=0:=by
 have dl:done.length=c:=by
  have:=congrArg List.length S.cols;simpa using this
 let y:Nat->Rat:=fun j=>if j=c then 1 else if j<c then -((done.getD j (0,([],0))).2.1.getD c 0) else 0
 refine⟨y,by show(if c=c then(1:Rat) else _)≠0;rw[ah rfl];decide,?_⟩;have key:∀r∈l,sat m y 0 r:=(S.same y 0).mpr ⟨fun x hx=> ?_,fun r hr=> ?_⟩
 ·intro r hr;have:=key r hr;unfold sat at this;rw[this];grind
 ·obtain⟨a,ha,e⟩:=aY hx;have xa:x.1=a:=by
   have h1:(done.map (·.1))[a]? =some x.1:=by rw[aC,aa ha,e];rfl
   rw[S.cols,bF (by lia)] at h1;exact(aZ h1).symm
  unfold sat dot;have two:eC m (fun j=>x.2.1.getD j 0*y j)=x.2.1.getD a 0*y a+x.2.1.getD c 0*y c:=by
   refine B7 m a c (by lia) hc fun j hj h1 h2=> ?_
   by_cases q:j<c
   ·rw[S.unit x hx j q,af (by lia)];grind
   ·have:y j=0:=by
     show(if j=c then(1:Rat) else if j<c then _ else 0)=0;rw[af h2,af q]
    rw[this];grind
  have ya:y a= -(x.2.1.getD c 0):=by
   show(if a=c then(1:Rat) else if a<c then -((done.getD a (0,([],0))).2.1.getD c 0) else 0)=_;rw[af (by lia),ah (by lia),gDe (l:=done),aa ha,e];rfl
  have yc:y c=1:=ah rfl;rw[two,ya,yc,S.unit x hx a (by lia),ah xa.symm];grind
 ·unfold sat dot;have z:eC m (fun j=>r.1.getD j 0*y j)=0:=u0 m fun j hj=>by
   by_cases q:j<c
   ·rw[S.zero r hr j q];grind
   ·by_cases q2:j=c
    ·subst q2;rw[hz r hr];grind
    ·have:y j=0:=by
      show(if j=c then(1:Rat) else if j<c then _ else 0)=0;rw[af q2,af q]
     rw[this];grind
  rw[z];grind
theorem LK{m:Nat}{l:List Wh.Row}:∀(f c:Nat) (done:List (Nat×Wh.Row)) (left:List Wh.Row),f+c=m->Red m c l done left->
  Red m m l (Wh.reduceFrom f c done left).1 (Wh.reduceFrom f c done left).2\/((Wh.reduceFrom f c done left).1.length<m/\∃y:Nat->Rat,(∃j,j<m/\y j≠0)/\∀r∈l,dot m r.1 y=0)
 |0,c,done,left,hf,S=>by
  have:c=m:=by lia
  subst this;exact .inl S
 |f+1,c,done,left,hf,S=>by
  unfold Wh.reduceFrom;cases e:left.findIdx? fun r:Wh.Row=>decide (r.1.getD c 0≠0) with
  |none=>
   refine .inr ⟨?_,?_⟩
   ·have h1:=v5 m f (c+1) done left;have dl:done.length=c:=by
     have:=congrArg List.length S.cols;simpa using this
    show(Wh.reduceFrom f (c+1) done left).1.length<m;lia
   ·obtain⟨y,hy,h⟩:=OR (by lia) S fun r hr=>by
     have h:=List.findIdx?_eq_none_iff.mp e r hr;simpa using h
    exact⟨y,⟨c,by lia,hy⟩,h⟩
  |some i=>
   obtain⟨hi,hp,_⟩:=List.findIdx?_eq_some_iff_getElem.mp e;have hp':(left.getD i ([],0)).1.getD c 0≠0:=by
    rw[gDe (l:=left),aa hi];simpa using hp
   exact LK f (c+1) _ _ (by lia) (OQ (by lia) S hi hp')
theorem Ka{m:Nat}{l:List Wh.Row}(hl:l.length=m)(hr:∀r∈l,r.1.length=m):
  (∃x:List Rat,Wh.solve m l=some x/\x.length=m/\∀(y:Nat->Rat) (z:Rat),(∀r∈l,sat m y z r)↔∀j,j<m->y j=z*x.getD j 0)\/
  (Wh.solve m l=none/\∃y:Nat->Rat,(∃j,j<m/\y j≠0)/\∀r∈l,dot m r.1 y=0):=by
 have S0:Red m 0 l [] l:=⟨rfl,(fun _ h=>by cases h),hr,(fun _ h=>by cases h),(fun _ _ j hj=>by lia),(by simp),fun y z=>⟨fun h=>⟨fun _ h=>(by cases h),h⟩,fun h=>h.2⟩⟩;rcases LK m 0 [] l (by lia) S0 with S |⟨h1,h2⟩
 ·refine .inl ⟨(Wh.reduced m l).1.map fun x:Nat×Wh.Row=>x.2.2,?_,?_,?_⟩
  ·unfold Wh.solve Wh.rank;have dl:(Wh.reduced m l).1.length=m:=by
    have:=congrArg List.length S.cols;simpa [Wh.reduced] using this
   rw[ah ⟨dl,hl⟩]
  ·rw[lMp];have:=congrArg List.length S.cols;simpa [Wh.reduced] using this
  ·intro y z;change Red m m l (Wh.reduced m l).1 (Wh.reduced m l).2 at S;have dl:(Wh.reduced m l).1.length=m:=by
    have:=congrArg List.length S.cols;simpa using this
   have ll:(Wh.reduced m l).2=[]:=bg.mp (by have:=S.cnt;lia);rw[S.same y z,ll];have row:∀a (ha:a<(Wh.reduced m l).1.length),sat m y z ((Wh.reduced m l).1[a]).2↔y a=z*((Wh.reduced m l).1.map fun x:Nat×Wh.Row=>x.2.2).getD a 0:=fun a ha=>by
    have hx:=bO ha;have xa:((Wh.reduced m l).1[a]).1=a:=by
     have h1:((Wh.reduced m l).1.map (·.1))[a]? =some ((Wh.reduced m l).1[a]).1:=by rw[aC,aa ha];rfl
     rw[S.cols,bF (by lia)] at h1;exact(aZ h1).symm
    have e2:((Wh.reduced m l).1.map fun x:Nat×Wh.Row=>x.2.2).getD a 0=((Wh.reduced m l).1[a]).2.2:=by
     rw[gDe,aC,aa ha];rfl
    unfold sat dot;rw[mO m a (by lia) fun j hj hja=>by rw[S.unit _ hx j hj,af (by lia)];grind,S.unit _ hx a (by lia),ah xa.symm,e2];constructor
    ·intro h;grind
    ·intro h;rw[h];grind
   constructor
   ·rintro⟨h1,_⟩ j hj;exact(row j (by lia)).mp (h1 _ (bO _))
   ·intro h;refine⟨fun x hx=> ?_,fun _ h=>by cases h⟩;obtain⟨a,ha,e⟩:=aY hx;rw[<-e];exact(row a ha).mpr (h a (by lia))
 ·refine .inr ⟨?_,h2⟩;unfold Wh.solve Wh.rank;rw[af fun h=>by
   have:(Wh.reduced m l).1.length=m:=h.1;have h1':(Wh.reduced m l).1.length<m:=h1;lia]
end de
namespace de
open Lean.Grind (CommRing)
inductive Al{α β:Type}(R:α->β->Prop):List α->List β->Prop
 |nil:Al R [] []
 |cons {a:α} {b:β} {l:List α} {m:List β}:R a b->Al R l m->Al R (a::l) (b::m)
theorem Al.len{α β:Type}{R:α->β->Prop}:∀{l:List α} {m:List β},Al R l m->l.length=m.length
 |_,_,.nil=>rfl
 |_,_,.cons _ t=>congrArg (· +1) t.len
theorem Al.append{α β:Type}{R:α->β->Prop}:∀{l:List α} {m:List β} {l':List α} {m':List β},Al R l m->Al R l' m'->Al R (l ++ l') (m ++ m')
 |_,_,_,_,.nil,h=>h
 |_,_,_,_,.cons r t,h=> .cons r (t.append h)
theorem Al.get{α β:Type}{R:α->β->Prop}(d:α)(e:β):∀{l:List α} {m:List β},Al R l m->∀i,i<l.length->R (l.getD i d) (m.getD i e)
 |_,_,.nil,i,h=>by simp at h
 |_,_,.cons r t,0,_=>by simpa using r
 |_,_,.cons r t,i+1,h=>by
  have:=t.get d e i (by simpa using h);simpa using this
theorem Al.QY{α β γ δ:Type}{R:γ->δ->Prop}{f:α->γ}{g:β->δ}:∀{l:List α} {m:List β},Al (fun a b=>R (f a) (g b)) l m->Al R (l.map f) (m.map g)
 |_,_,.nil=> .nil
 |_,_,.cons r t=> .cons r t.QY
theorem Al.imp{α β:Type}{R S:α->β->Prop}(h:∀a b,R a b->S a b):∀{l:List α} {m:List β},Al R l m->Al S l m
 |_,_,.nil=> .nil
 |_,_,.cons r t=> .cons (h _ _ r) (t.imp h)
theorem LL{α β γ:Type}{R:α->β->Prop}{f:γ->α}{g:γ->β}:∀(l:List γ),(∀i∈l,R (f i) (g i))->Al R (l.map f) (l.map g)
 |[],_=> .nil
 |x::l,h=> .cons (h x ax) (LL l fun i hi=>h i (ao _ hi))
theorem LM{α β γ:Type}{R:α->β->Prop}{f:γ->List α}{g:γ->List β}:∀(l:List γ),(∀i∈l,Al R (f i) (g i))->Al R (l.flatMap f) (l.flatMap g)
 |[],_=> .nil
 |x::l,h=>by
  rw[a9,a9];exact(h x ax).append (LM l fun i hi=>h i (ao _ hi))
theorem Fh{α:Type}(l:List α)(d:α):l=(List.range l.length).map fun i=>l.getD i d:=by
 apply cE
 ·simp
 ·intro i h1 h2;simp[gDe,aa h1]
theorem Gz{α:Type}(l:List α)(d:α):l.zipIdx=(List.range l.length).map fun i=>(l.getD i d,i):=by
 apply cE
 ·simp
 ·intro i h1 h2;have h3:i<l.length:=by simpa using h1
  simp[gDe,aa h3]
theorem Fi{α β:Type}(l:List α)(m:List β)(d:α)(e:β)(h:m.length=l.length):l.zip m=(List.range l.length).map fun i=>(l.getD i d,m.getD i e):=by
 apply cE
 ·simp[h]
 ·intro i h1 h2;have h3:i<l.length:=by simp at h1;lia
  have h4:i<m.length:=by lia
  simp[gDe,aa h3,aa h4]
structure Pn(p:Part):Prop where
 k0:0<=p.kind
 k1:p.kind<=13
 a0:0<=p.a
 b0:0<=p.b
 c0:0<=p.c
 d0:0<=p.d
 t:p.top.natAbs<=1000000
 b1:1<=p.dF
 b2:p.dF<=1000000
noncomputable def kindOf (z:Int):Wh.Kind:=Wh.kinds.getD z.toNat .R
noncomputable def dw (p:Part):Wh.Elem:=
 ⟨kindOf p.kind,if Wh.nodeCount (kindOf p.kind)=0 then[] else[p.a.toNat,p.b.toNat,p.c.toNat,p.d.toNat].take (Wh.nodeCount (kindOf p.kind)),if kindOf p.kind= .M then[p.a.toNat,p.b.toNat] else if Wh.refCount (kindOf p.kind)=1 then[p.c.toNat] else[],(p.top:Rat) / (p.dF:Rat)⟩
noncomputable def df (n:Nw):Wh.Net:=⟨n.last.toNat,n.c9.map dw⟩
theorem oq{z:Int}(h0:0<=z)(h1:z<=13):z=0\/z=1\/z=2\/z=3\/z=4\/z=5\/z=6\/z=7\/z=8\/z=9\/z=10\/z=11\/z=12\/z=13:=by lia
noncomputable def kindB (z:Nat):Bool:=decide ((kindOf z= .M↔z=3)/\(kindOf z= .T↔z=10)/\(kindOf z= .D↔z=13)/\(kindOf z= .V↔z=4)/\(kindOf z= .I↔z=5)/\(kindOf z= .L↔z=2)/\(kindOf z= .C↔z=1)/\(kindOf z= .H↔z=8)/\(kindOf z= .F↔z=9)/\(kindOf z= .S↔z=12)/\(kindOf z= .O↔z=11)/\(kindOf z= .E↔z=6)/\(kindOf z= .G↔z=7)/\(kindOf z= .R↔z=0))
theorem MU:(List.range 14).all kindB=true:=by decide +kernel
theorem iC{z:Int}(h0:0<=z)(h1:z<=13):(kindOf z= .M↔z=3)/\(kindOf z= .T↔z=10)/\(kindOf z= .D↔z=13)/\(kindOf z= .V↔z=4)/\(kindOf z= .I↔z=5)/\(kindOf z= .L↔z=2)/\(kindOf z= .C↔z=1)/\(kindOf z= .H↔z=8)/\(kindOf z= .F↔z=9)/\(kindOf z= .S↔z=12)/\(kindOf z= .O↔z=11)/\(kindOf z= .E↔z=6)/\(kindOf z= .G↔z=7)/\(kindOf z= .R↔z=0):=by
 have h:=bc.mp MU z.toNat (aW.mpr (by lia));have e:((z.toNat:Nat):Int)=z:=by lia
 have q:=az h;rw[e] at q;refine⟨?_,?_,?_,?_,?_,?_,?_,?_,?_,?_,?_,?_,?_,?_⟩
 ·rw[q.1];lia
 ·rw[q.2.1];lia
 ·rw[q.2.2.1];lia
 ·rw[q.2.2.2.1];lia
 ·rw[q.2.2.2.2.1];lia
 ·rw[q.2.2.2.2.2.1];lia
 ·rw[q.2.2.2.2.2.2.1];lia
 ·rw[q.2.2.2.2.2.2.2.1];lia
 ·rw[q.2.2.2.2.2.2.2.2.1];lia
 ·rw[q.2.2.2.2.2.2.2.2.2.1];lia
 ·rw[q.2.2.2.2.2.2.2.2.2.2.1];lia
 ·rw[q.2.2.2.2.2.2.2.2.2.2.2.1];lia
 ·rw[q.2.2.2.2.2.2.2.2.2.2.2.2.1];lia
 ·rw[q.2.2.2.2.2.2.2.2.2.2.2.2.2];lia
theorem Pn.M{p:Part}(h:Pn p):kindOf p.kind= .M↔p.kind=3:=(iC h.k0 h.k1).1
theorem Pn.T{p:Part}(h:Pn p):kindOf p.kind= .T↔p.kind=10:=(iC h.k0 h.k1).2.1
theorem Pn.D{p:Part}(h:Pn p):kindOf p.kind= .D↔p.kind=13:=(iC h.k0 h.k1).2.2.1
theorem jJ(p:Part):(dw p).kind=kindOf p.kind:=rfl
theorem GA(p:Part):(dw p).q=(p.top:Rat) / (p.dF:Rat):=rfl
theorem OS{p:Part}(h:Pn p):hW p=(((dw p).currents:Nat):Int):=by
 unfold hW Wh.Elem.currents;rw[jJ];by_cases h3:p.kind=3
 ·rw[ah h3,ah (h.M.mpr h3)];rfl
 ·rw[af h3,af (fun e=>h3 (h.M.mp e))];by_cases h10:p.kind=10
  ·rw[ah h10,ah (h.T.mpr h10)];rfl
  ·rw[af h10,af (fun e=>h10 (h.T.mp e))];rfl
theorem fL(a:Nat)(l:List Nat):Wh.sumNat (a::l)=a+Wh.sumNat l:=by
 have:∀(l:List Nat) (x:Nat),l.foldl (fun(a b:Nat)=>a+b) x=x+l.foldl (fun(a b:Nat)=>a+b) 0:=by
  intro l;induction l with
  |nil=>intro x;simp
  |cons b l ih=>
   intro x;rw[bD,bD,ih (x+b),ih (0+b)];lia
 unfold Wh.sumNat;rw[bD,this];lia
theorem xD:∀(ps:List Part) (f:Int) (k:Nat),(∀p∈ps,Pn p)->k<ps.length->(fX f ps).getD k 0=f+((Wh.sumNat (((ps.map dw).take k).map Wh.Elem.currents):Nat):Int)
 |[],_,k,_,h=>by simp at h
 |p::ps,f,0,_,_=>by
  show f=f+((0:Nat):Int);lia
 |p::ps,f,k+1,hp,h=>by
  show(fX (f+hW p) ps).getD k 0=_;rw[xD ps (f+hW p) k (fun q hq=>hp q (ao _ hq)) (by simpa using h),OS (hp p ax)];rw[aH,List.take_succ_cons,aH,fL];push_cast;lia
theorem Fj:∀(ps:List Part),(∀p∈ps,Pn p)->(ps.map hW).sum=((Wh.sumNat ((ps.map dw).map Wh.Elem.currents):Nat):Int)
 |[],_=>rfl
 |p::ps,hp=>by
  rw[aH,b8,Fj ps (fun q hq=>hp q (ao _ hq)),OS (hp p ax),aH,aH,fL];push_cast;rfl
structure Right(n:Nw):Prop where
 l1:1<=n.last
 l8:n.last<=8
 c9:n.c9.length<=12
 ns:(n.c9.filter fun p=>decide (p.kind≠4/\p.kind≠5)).length<=10
 pn:∀p∈n.c9,Pn p
 ok:fault n=[]
theorem memD{α:Type}{l:List α}{k:Nat}{d:α}(h:k<l.length):l.getD k d∈l:=by
 rw[gDe,aa h];exact bO h
section
variable {n:Nw}(R:Right n)
include R
theorem Right.p{k:Nat}(h:k<n.c9.length):Pn (n.c9.getD k p0):=R.pn _ (memD h)
theorem Right.nodes:((df n).nodes:Int)=n.last:=by
 show((n.last.toNat:Nat):Int)=n.last;have:=R.l1;lia
theorem Right.place{k:Nat}(h:k<n.c9.length):(places n).getD k 0=(((df n).at_ k:Nat):Int):=by
 unfold places;rw[xD n.c9 n.last k R.pn h];unfold Wh.Net.at_;have:=R.nodes;push_cast;rw[this];rfl
theorem Right.zC:width n=(((df n).unknowns:Nat):Int):=by
 unfold width Wh.Net.unknowns Wh.Net.at_;rw[Fj n.c9 R.pn];have:=R.nodes;have e:(df n).elems.take (df n).elems.length=n.c9.map dw:=aG;rw[e];push_cast;rw[this]
theorem Right.elem{k:Nat}(h:k<n.c9.length):(df n).elems[k]? =some (dw (n.c9.getD k p0)):=by
 show(n.c9.map dw)[k]? =_;rw[aC,gDe,aa h];rfl
end
theorem AM(n:Nw):∀f,f<=n.c9.length->jk n f=[]->∀k,n.c9.length - f<=k->k<n.c9.length->gH n k=0
 |0,_,_,k,h1,h2=>by lia
 |f+1,hf,h,k,h1,h2=>by
  unfold jk at h;dsimp only at h;split at h
  ·cases h
  ·rename_i e;by_cases q:k=n.c9.length - (f+1)
   ·rw[q];exact cN.mp e
   ·exact AM n f (by lia) h k (by lia) h2
theorem Right.f0{n:Nw}(R:Right n){k:Nat}(h:k<n.c9.length):gH n k=0:=AM n n.c9.length (aj _) R.ok k (by lia) h
structure RZ(n:Nw)(k:Nat):Prop where
 nodes:∀v∈gG (n.c9.getD k p0),v<=n.last
 num:lO (n.c9.getD k p0)=true
 QZ:fF n.c9 k=true
 WH:(n.c9.getD k p0).kind=3->lQ n.c9 k=0
theorem Q0{n:Nw}{k:Nat}(h:gH n k=0):RZ n k:=by
 unfold gH at h;dsimp only at h;by_cases h1:(gG (n.c9.getD k p0)).any (fun v=>decide (n.last<v))=true
 ·rw[ah h1] at h;exact absurd h (by decide)
 rw[af h1] at h;by_cases h2:lO (n.c9.getD k p0)=false
 ·rw[ah h2] at h;exact absurd h (by decide)
 rw[af h2] at h;by_cases h3:fF n.c9 k=false
 ·rw[ah h3] at h;exact absurd h (by decide)
 rw[af h3] at h;refine⟨fun v hv=> ?_,by simpa using h2,by simpa using h3,fun e=>by rw[ah e] at h;exact h⟩;have:¬n.last<v:=fun q=>h1 (bK.mpr ⟨v,hv,ak q⟩)
 lia
section
variable {n:Nw}(R:Right n){k:Nat}(h:k<n.c9.length)
include R h
theorem Right.g1:RZ n k:=Q0 (R.f0 h)
theorem Right.ab(h3:(n.c9.getD k p0).kind≠3):(n.c9.getD k p0).a<=n.last/\(n.c9.getD k p0).b<=n.last:=by
 have g:=(R.g1 h).nodes;unfold gG at g;rw[af h3] at g;split at g
 ·exact⟨g _ (by simp),g _ (by simp)⟩
 ·exact⟨g _ (by simp),g _ (by simp)⟩
theorem Right.cd(h4:(n.c9.getD k p0).kind=6\/(n.c9.getD k p0).kind=7\/(n.c9.getD k p0).kind=10\/(n.c9.getD k p0).kind=11):(n.c9.getD k p0).c<=n.last/\(n.c9.getD k p0).d<=n.last:=by
 have g:=(R.g1 h).nodes;unfold gG at g;rw[af (by lia),ah h4] at g;exact⟨g _ (by simp),g _ (by simp)⟩
theorem Right.QZ(h4:(n.c9.getD k p0).kind=8\/(n.c9.getD k p0).kind=9):(n.c9.getD k p0).c<k/\kindAt n.c9 (n.c9.getD k p0).c≠3:=by
 have g:=(R.g1 h).QZ;unfold fF at g;dsimp only at g;rw[af (fun q=>q h4)] at g;obtain⟨g1,g2⟩:=(aF _ _).mp g;exact⟨az g1,az g2⟩
theorem Right.MV(h4:(n.c9.getD k p0).kind=3):(n.c9.getD k p0).a≠(n.c9.getD k p0).b/\((n.c9.getD k p0).a<k/\kindAt n.c9 (n.c9.getD k p0).a=2)/\((n.c9.getD k p0).b<k/\kindAt n.c9 (n.c9.getD k p0).b=2):=by
 have g:=(R.g1 h).WH h4;unfold lQ at g;dsimp only at g;by_cases h1:(n.c9.getD k p0).a=(n.c9.getD k p0).b\/dU n.c9 (n.c9.getD k p0).a k=false\/dU n.c9 (n.c9.getD k p0).b k=false
 ·rw[ah h1] at g;exact absurd g (by decide)
 have q1:dU n.c9 (n.c9.getD k p0).a k=true:=by
  cases e:dU n.c9 (n.c9.getD k p0).a k with
  |true=>rfl
  |false=>exact absurd (.inr (.inl e)) h1
 have q2:dU n.c9 (n.c9.getD k p0).b k=true:=by
  cases e:dU n.c9 (n.c9.getD k p0).b k with
  |true=>rfl
  |false=>exact absurd (.inr (.inr e)) h1
 unfold dU at q1 q2;obtain⟨a1,a2⟩:=(aF _ _).mp q1;obtain⟨b1,b2⟩:=(aF _ _).mp q2;exact⟨fun e=>h1 (.inl e),⟨az a1,az a2⟩,⟨az b1,az b2⟩⟩
end
noncomputable def Pv (φ:Nat->PF):List Term->PF
 |[]=>0
 |t::ts=>dG t.2*φ t.1.toNat+Pv φ ts
theorem hC(φ:Nat->PF):∀a b:List Term,Pv φ (a ++ b)=Pv φ a+Pv φ b
 |[],b=>by
  show Pv φ b=0+Pv φ b;grind
 |t::a,b=>by
  show dG t.2*φ t.1.toNat+Pv φ (a ++ b)=dG t.2*φ t.1.toNat+Pv φ a+Pv φ b;rw[hC φ a b];grind
theorem rO(φ:Nat->PF)(p:dN):∀a:List Term,Pv φ (rG a p)=Pv φ a*dG p
 |[]=>by
  show(0:PF)=0*dG p;grind
 |t::a=>by
  show dG (gX t.2 p)*φ t.1.toNat+Pv φ (rG a p)=(dG t.2*φ t.1.toNat+Pv φ a)*dG p;rw[rO φ p a,jU];grind
noncomputable def Rv (φ:Nat->PF):List (Nat×Rat)->PF
 |[]=>0
 |t::ts=>PF.const t.2*φ t.1+Rv φ ts
theorem hJ(φ:Nat->PF):∀a b:List (Nat×Rat),Rv φ (a ++ b)=Rv φ a+Rv φ b
 |[],b=>by
  show Rv φ b=0+Rv φ b;grind
 |t::a,b=>by
  show PF.const t.2*φ t.1+Rv φ (a ++ b)=PF.const t.2*φ t.1+Rv φ a+Rv φ b;rw[hJ φ a b];grind
noncomputable def Lv (φ:Nat->PF) (σ:PF) (m:Nat) (L:Wh.Law):PF:=Rv φ L.terms+σ*Rv φ L.byS+PF.const L.right*φ m
noncomputable def CH (σ:PF) (m:Nat) (ts:List Term) (L:Wh.Law):Prop:=∃κ:Rat,0<κ/\∀φ:Nat->PF,Pv φ ts=PF.const κ*Lv φ σ m L
theorem xE:dG [1]=1:=PF.ext fun x=>by
 rw[fi];show((1:Int):Rat)+x*0=((1:Nat):Rat);grind
theorem CI:dG [-1]= -1:=PF.ext fun x=>by
 rw[fi];show((-1:Int):Rat)+x*0= -((1:Nat):Rat);grind
theorem gA(c:Rat):PF.const (-c)= - PF.const c:=rfl
noncomputable def vN (φ:Nat->PF) (z:Int):PF:=if 0<z then φ (z - 1).toNat else 0
theorem lV(φ:Nat->PF)(a b:Int):Pv φ (HS a b)=vN φ a - vN φ b:=by
 unfold HS vN;rw[hC];by_cases h1:0<a <;>by_cases h2:0<b <;>simp only[h1,h2,if_true,if_false] <;>simp only[Pv,xE,CI] <;>grind
theorem LN(φ:Nat->PF)(a:Int)(ha:0<=a)(q:Rat):Rv φ (Wh.volt a.toNat q)=PF.const q*vN φ a:=by
 unfold Wh.volt vN;by_cases h:0<a
 ·rw[af (by lia),ah h];have e:a.toNat - 1=(a - 1).toNat:=by lia
  show PF.const q*φ (a.toNat - 1)+0=_;rw[e];grind
 ·rw[ah (by lia),af h];show(0:PF)=_;grind
theorem gK(φ:Nat->PF)(a b:Int)(ha:0<=a)(hb:0<=b)(q:Rat):Rv φ (Wh.across a.toNat b.toNat q)=PF.const q*(vN φ a - vN φ b):=by
 unfold Wh.across;rw[hJ,LN φ a ha,LN φ b hb,gA];grind
structure lW(n:Nw)(g:lJ)(G:Wh.Setting):Prop where
 d8:g.d8=n
 on:∀k,k<n.c9.length->G.on k=g.gI.getD k false
 val:∀k,k<n.c9.length->((n.c9.getD k p0).kind=4\/(n.c9.getD k p0).kind=5)->0<(g.drives.getD k (0,1)).2/\G.value k=((g.drives.getD k (0,1)).1:Rat) / ((g.drives.getD k (0,1)).2:Rat)
 drop:∀k,k<n.c9.length->(n.c9.getD k p0).kind=13->0<(g.drives.getD k (0,1)).2/\G.drop k=((g.drives.getD k (0,1)).1:Rat) / ((g.drives.getD k (0,1)).2:Rat)
theorem j3{b:Int}(h:0<b):(0:Rat)<(b:Rat):=by exact_mod_cast h
theorem ve{a b:Int}(h:0<b):PF.const (b:Rat)*PF.const ((a:Rat) / (b:Rat))=PF.const (a:Rat):=by
 rw[<-nU];congr 1;have:=j3 h;grind
theorem Eb(z:Int):PF.const ((-z:Int):Rat)= - PF.const (z:Rat):=PF.ext fun x=>by
 show((-z:Int):Rat)= -(z:Rat);push_cast;rfl
section
variable {n:Nw}(R:Right n){g:lJ}{G:Wh.Setting}(S:lW n g G){k:Nat}(hk:k<n.c9.length)
include R
theorem S9{j:Int}(h0:0<=j)(hj:j<n.c9.length):((places n).getD j.toNat 0).toNat=(df n).at_ j.toNat:=by
 rw[R.place (by lia),bb]
include S
theorem GB(φ:Nat->PF){j:Int}(h0:0<=j)(hj:j<n.c9.length):Pv φ (cur g j)=φ ((df n).at_ j.toNat):=by
 unfold cur;rw[S.d8];show dG [1]*φ ((places n).getD j.toNat 0).toNat+0=_;rw[S9 R h0 hj,xE];grind
theorem Kb(φ:Nat->PF)(ts:List Term):Pv φ (BD g k ts)=Pv φ ts*PF.const ((g.drives.getD k (0,1)).2:Rat)+PF.const ((g.drives.getD k (0,1)).1:Rat)*φ (df n).unknowns:=by
 unfold BD;rw[hC,rO,u6,S.d8];show _+ (dG (cst _)*φ (width n).toNat+0)=_;rw[u6,R.zC,bb];grind
omit S R in
theorem pU(φ:Nat->PF)(p:Part)(l r:List Term):Pv φ (og p l r)=Pv φ l*PF.const (p.dF:Rat) - Pv φ r*PF.const (p.top:Rat):=by
 unfold og;rw[hC,rO,rO,u6,u6,Eb];grind
end
theorem gj{p:Part}{d:Wh.Kind}(hd:kindOf p.kind=d)(h:Wh.nodeCount d=2\/Wh.nodeCount d=4):(dw p).node 0=p.a.toNat/\(dw p).node 1=p.b.toNat:=by
 unfold Wh.Elem.node dw;dsimp only;rw[hd];rcases h with h |h <;>rw[h] <;>exact⟨rfl,rfl⟩
theorem ks{p:Part}{d:Wh.Kind}(hd:kindOf p.kind=d)(h:Wh.nodeCount d=4):(dw p).node 2=p.c.toNat/\(dw p).node 3=p.d.toNat:=by
 unfold Wh.Elem.node dw;dsimp only;rw[hd,h];exact⟨rfl,rfl⟩
theorem GC{p:Part}{d:Wh.Kind}(hd:kindOf p.kind=d)(hM:d≠.M)(h:Wh.refCount d=1):(dw p).refs.getD 0 0=p.c.toNat:=by
 unfold dw;dsimp only;rw[hd,af hM,h];rfl
theorem v7{σ:PF}{m:Nat}{ts:List Term}{L:Wh.Law}(κ:Rat)(hκ:0<κ)(h:∀φ:Nat->PF,Pv φ ts=PF.const κ*Lv φ σ m L):Al (CH σ m) [ts] [L]:= .cons ⟨κ,hκ,h⟩ .nil
section
variable {n:Nw}(R:Right n){g:lJ}{G:Wh.Setting}(S:lW n g G){k:Nat}(hk:k<n.c9.length)
noncomputable def T4 (φ:Nat->PF) (n:Nw) (sh:List (Int×Int×Int)):PF:=sh.foldr (fun x acc=>PF.const ((x.2.1:Rat) / (x.2.2:Rat))*φ ((df n).at_ x.1.toNat)+acc) 0
theorem v8:∀(sh:List (Int×Int×Int)) (c:Int),0<c->(∀x∈sh,0<x.2.2)->0<sh.foldl (fun c x=>c*x.2.2) c
 |[],c,hc,_=>hc
 |x::sh,c,hc,h=>v8 sh _ (Int.mul_pos hc (h x ax)) fun y hy=>h y (ao _ hy)
theorem CJ:∀(sh:List (Int×Int×Int)) (c:Int),c ∣ sh.foldl (fun c x=>c*x.2.2) c/\∀x∈sh,x.2.2 ∣ sh.foldl (fun c x=>c*x.2.2) c
 |[],c=>⟨Int.dvd_refl _,fun _ h=>by cases h⟩
 |x::sh,c=>by
  obtain⟨h1,h2⟩:=CJ sh (c*x.2.2);refine⟨cw ⟨x.2.2,rfl⟩ h1,fun y hy=> ?_⟩;rcases aJ.mp hy with rfl |hy
  ·exact cw ⟨c,Int.mul_comm _ _⟩ h1
  ·exact h2 y hy
include R S
theorem Fl(φ:Nat->PF)(cm:Int)(hcm:0<cm):∀sh:List (Int×Int×Int),(∀x∈sh,0<=x.1/\x.1<n.c9.length/\0<x.2.2/\x.2.2 ∣ cm)->
  Pv φ (sh.flatMap fun x=>rG (rG (cur g x.1) g.s) (cst (-x.2.1*cm.fdiv x.2.2)))= - (PF.const (cm:Rat)*(dG g.s*T4 φ n sh))
 |[],_=>by
  show(0:PF)= -(_* (_* 0));grind
 |x::sh,h=>by
  obtain⟨h0,h1,h2,h3⟩:=h x ax;rw[a9,hC,Fl φ cm hcm sh (fun y hy=>h y (ao _ hy)),rO,rO,GB R S φ h0 h1,u6];obtain⟨q,hq⟩:=h3;have e:cm.fdiv x.2.2=q:=by
   rw[hq,Int.mul_comm,c6 _ (by lia)]
  have e2:PF.const ((-x.2.1*q:Int):Rat)= - (PF.const (cm:Rat)*PF.const ((x.2.1:Rat) / (x.2.2:Rat))):=by
   rw[<-nU,<-gA];congr 1;rw[hq];have:=j3 h2;push_cast;grind
  rw[e,e2];show _= -(PF.const (cm:Rat)*(dG g.s*(PF.const ((x.2.1:Rat) / (x.2.2:Rat))*φ ((df n).at_ x.1.toNat)+T4 φ n sh)));grind
end
theorem CK(φ:Nat->PF)(n:Nw)(x:Int×Int×Int)(sh:List (Int×Int×Int)):T4 φ n (x::sh)=PF.const ((x.2.1:Rat) / (x.2.2:Rat))*φ ((df n).at_ x.1.toNat)+T4 φ n sh:=rfl
theorem AN(φ:Nat->PF)(n:Nw)(k:Nat):∀(ps:List Part),(∀p∈ps,Pn p/\(p.kind=3->p.a≠p.b))->
  Rv φ (((ps.map dw).filterMap fun(x:Wh.Elem)=>if x.kind= .M then(if x.refs.getD 0 0=k then some (x.refs.getD 1 0,x.q) else if x.refs.getD 1 0=k then some (x.refs.getD 0 0,x.q) else none) else none).map fun(p:Nat×Rat)=>((df n).at_ p.1,-p.2))=
   - T4 φ n ((ps.filter fun p=>decide (p.kind=3/\((k:Int)=p.a\/(k:Int)=p.b))).map fun p=>(p.a+p.b - k,p.top,p.dF))
 |[],_=>by
  show(0:PF)= - 0;grind
 |p::ps,h=>by
  obtain⟨hp,hab⟩:=h p ax;have ih:=AN φ n k ps fun q hq=>h q (ao _ hq)
  rw[aH,cY];have eM:(dw p).kind= .M↔p.kind=3:=hp.M;have a0:=hp.a0;have b0:=hp.b0;by_cases h3:p.kind=3
  ·have r0:(dw p).refs.getD 0 0=p.a.toNat/\(dw p).refs.getD 1 0=p.b.toNat:=by
    unfold dw;dsimp only;rw[ah (hp.M.mpr h3)];exact⟨rfl,rfl⟩
   have hne:=hab h3;rw[ah (eM.mpr h3),r0.1,r0.2];by_cases ka:p.a.toNat=k
   ·rw[ah ka];dsimp only;rw[aS (by exact ak ⟨h3,.inl (by lia)⟩),aH,aH,CK];show PF.const (-(dw p).q)*φ ((df n).at_ p.b.toNat)+Rv φ _=_;rw[ih,gA,GA];have e:(p.a+p.b - (k:Int)).toNat=p.b.toNat:=by lia
    rw[e];grind
   ·rw[af ka];by_cases kb:p.b.toNat=k
    ·rw[ah kb];dsimp only;rw[aS (by exact ak ⟨h3,.inr (by lia)⟩),aH,aH,CK];show PF.const (-(dw p).q)*φ ((df n).at_ p.a.toNat)+Rv φ _=_;rw[ih,gA,GA];have e:(p.a+p.b - (k:Int)).toNat=p.a.toNat:=by lia
     rw[e];grind
    ·rw[af kb];dsimp only;rw[aX (by rw[bf];lia)];exact ih
  ·rw[af (fun e=>h3 (eM.mp e))];dsimp only;rw[aX (by rw[bf];exact fun q=>h3 q.1)];exact ih
section
variable {n:Nw}(R:Right n){g:lJ}{G:Wh.Setting}(S:lW n g G){k:Nat}(hk:k<n.c9.length)
include R
theorem CL(hk2:(n.c9.getD k p0).kind=2)(hk:k<n.c9.length):∀x∈eQ n.c9 k,0<=x.1/\x.1<n.c9.length/\1<=x.2.2/\x.2.2<=1000000/\x.2.1.natAbs<=1000000:=fun x hx=>by
 unfold eQ at hx;rcases aJ.mp hx with rfl |hx
 ·have:=R.p hk;exact⟨b6 _,by show(k:Int)<_;lia,this.b1,this.b2,this.t⟩
 ·obtain⟨p,hp,rfl⟩:=aL.mp hx;obtain⟨hm,hc⟩:=bV.mp hp;have hc:=az hc;obtain⟨i,hi,e⟩:=aY hm;have ep:n.c9.getD i p0=p:=by rw[gDe,aa hi,e];rfl
  have cp:=R.MV hi (by rw[ep];exact hc.1);have pp:=R.p hi;rw[ep] at cp pp;have:=pp.a0;have:=pp.b0;refine⟨?_,?_,pp.b1,pp.b2,pp.t⟩
  ·show 0<=p.a+p.b - (k:Int);lia
  ·show p.a+p.b - (k:Int)<_;lia
include S
theorem OT(hk:k<n.c9.length):Al (CH (dG g.s) (df n).unknowns) (fT g k) ((df n).lawsOf G k (dw (n.c9.getD k p0))):=by
 have pp:=R.p hk;have a0:=pp.a0;have b0:=pp.b0;have c0:=pp.c0;have d0:=pp.d0;have bp:(0:Rat)<((n.c9.getD k p0).dF:Rat):=j3 (by have:=pp.b1;lia);have cd:=ve (a:=(n.c9.getD k p0).top) (b:=(n.c9.getD k p0).dF) (by have:=pp.b1;lia);have ck:∀φ,Pv φ (cur g (k:Int))=φ ((df n).at_ k):=fun φ=>by
  have:=GB R S φ (j:=(k:Int)) (by lia) (by lia)
  rwa [bb] at this
 have c1:=gz;have c00:=Cu;unfold fT Wh.Net.lawsOf;rw[S.d8];dsimp only;rw[jJ,GA];have mn:=(R.g1 hk).num;have fo:=R.QZ hk;have oi:=S.on k hk;have va:=S.val k hk;have dr:=S.drop k hk;have cpl:=AN;generalize hp:n.c9.getD k p0=p at *;rcases oq pp.k0 pp.k1 with e |e |e |e |e |e |e |e |e |e |e |e |e |e
 ·have hd:kindOf p.kind= .R:=by rw[e];rfl
  have ek:p.kind.toNat=0:=by rw[e];rfl
  rw[hd,ek];dsimp only;obtain⟨n0,n1⟩:=gj hd (.inl rfl);refine v7 p.dF bp fun φ=> ?_
  unfold Lv;dsimp only;rw[n0,n1,pU,ck,hJ,gK φ p.a p.b a0 b0];unfold lS;rw[lV];simp only[Rv,gA];grind
 ·have hd:kindOf p.kind= .C:=by rw[e];rfl
  have ek:p.kind.toNat=1:=by rw[e];rfl
  rw[hd,ek];dsimp only;obtain⟨n0,n1⟩:=gj hd (.inl rfl);refine v7 p.dF bp fun φ=> ?_
  unfold Lv;dsimp only;rw[n0,n1,pU,ck,gK φ p.a p.b a0 b0,rO];unfold lS;rw[lV];simp only[Rv,gA];grind
 ·have hd:kindOf p.kind= .L:=by rw[e];rfl
  have ek:p.kind.toNat=2:=by rw[e];rfl
  rw[hd,ek];dsimp only;obtain⟨n0,n1⟩:=gj hd (.inl rfl);have sin:=CL R (k:=k) (by rw[hp];exact e) hk;have cpos:0<common (eQ n.c9 k):=v8 _ 1 (by decide) fun x hx=>by have:=sin x hx;lia
  have cdv:=(CJ (eQ n.c9 k) 1).2;refine v7 (common (eQ n.c9 k):Rat) (j3 cpos) fun φ=> ?_
  unfold mG Lv;dsimp only;rw[S.d8,hC,rO,u6,Fl R S φ _ cpos _ (fun x hx=>⟨(sin x hx).1,(sin x hx).2.1,by have:=sin x hx;lia,cdv x hx⟩),n0,n1,gK φ p.a p.b a0 b0,hp];unfold lS;rw[lV];have e1:Rv φ (((df n).at_ k,-((p.top:Rat) / (p.dF:Rat)))::((df n).coupled k).map fun(p:Nat×Rat)=>((df n).at_ p.1,-p.2))= - T4 φ n (eQ n.c9 k):=by
   show PF.const (-((p.top:Rat) / (p.dF:Rat)))*φ ((df n).at_ k)+Rv φ _=_;unfold Wh.Net.coupled;have:=cpl φ n k n.c9 (fun q hq=>⟨R.pn q hq,fun e3=>by
    obtain⟨i,hi,ei⟩:=aY hq;have ep:n.c9.getD i p0=q:=by rw[gDe,aa hi,ei];rfl
    have:=R.MV hi (by rw[ep];exact e3);rw[ep] at this;exact this.1⟩)
   rw[show(df n).elems=n.c9.map dw from rfl,this];unfold eQ;rw[CK,hp,bb,gA];grind
  rw[e1];grind
 ·have hd:kindOf p.kind= .M:=by rw[e];rfl
  have ek:p.kind.toNat=3:=by rw[e];rfl
  rw[hd,ek];exact .nil
 ·have hd:kindOf p.kind= .V:=by rw[e];rfl
  have ek:p.kind.toNat=4:=by rw[e];rfl
  rw[hd,ek];dsimp only;obtain⟨n0,n1⟩:=gj hd (.inl rfl);obtain⟨v1,v2⟩:=va (.inl e);refine v7 _ (j3 v1) fun φ=> ?_
  unfold Lv;dsimp only;have:=ve (a:=(g.drives.getD k (0,1)).1) v1;rw[n0,n1,Kb R S,v2,gK φ p.a p.b a0 b0];unfold lS;rw[lV];simp only[Rv];grind
 ·have hd:kindOf p.kind= .I:=by rw[e];rfl
  have ek:p.kind.toNat=5:=by rw[e];rfl
  rw[hd,ek];dsimp only;obtain⟨v1,v2⟩:=va (.inr e);refine v7 _ (j3 v1) fun φ=> ?_
  unfold Lv;dsimp only;have:=ve (a:=(g.drives.getD k (0,1)).1) v1;rw[Kb R S,v2,ck];simp only[Rv];grind
 ·have hd:kindOf p.kind= .E:=by rw[e];rfl
  have ek:p.kind.toNat=6:=by rw[e];rfl
  rw[hd,ek];dsimp only;obtain⟨n0,n1⟩:=gj hd (.inr rfl);obtain⟨n2,n3⟩:=ks hd rfl;refine v7 p.dF bp fun φ=> ?_
  unfold Lv;dsimp only;rw[n0,n1,n2,n3,pU,hJ,gK φ p.a p.b a0 b0,gK φ p.c p.d c0 d0];unfold lS Gj;rw[lV,lV];simp only[Rv,gA];grind
 ·have hd:kindOf p.kind= .G:=by rw[e];rfl
  have ek:p.kind.toNat=7:=by rw[e];rfl
  rw[hd,ek];dsimp only;obtain⟨n2,n3⟩:=ks hd rfl;refine v7 p.dF bp fun φ=> ?_
  unfold Lv;dsimp only;rw[n2,n3,pU,ck];show _=_* (PF.const 1*φ ((df n).at_ k)+Rv φ (Wh.across p.c.toNat p.d.toNat (-((p.top:Rat) / (p.dF:Rat))))+dG g.s*0+_);rw[gK φ p.c p.d c0 d0];unfold Gj;rw[lV];simp only[gA];grind
 ·have hd:kindOf p.kind= .H:=by rw[e];rfl
  have ek:p.kind.toNat=8:=by rw[e];rfl
  rw[hd,ek];dsimp only;obtain⟨n0,n1⟩:=gj hd (.inl rfl);have r0:=GC hd (by decide) rfl;have ff:=fo (.inl e);refine v7 p.dF bp fun φ=> ?_
  unfold Lv;dsimp only;rw[n0,n1,r0,pU,hJ,gK φ p.a p.b a0 b0,GB R S φ c0 (by lia)];unfold lS;rw[lV];simp only[Rv,gA];grind
 ·have hd:kindOf p.kind= .F:=by rw[e];rfl
  have ek:p.kind.toNat=9:=by rw[e];rfl
  rw[hd,ek];dsimp only;have r0:=GC hd (by decide) rfl;have ff:=fo (.inr e);refine v7 p.dF bp fun φ=> ?_
  unfold Lv;dsimp only;rw[r0,pU,ck,GB R S φ c0 (by lia)];simp only[Rv,gA];grind
 ·have hd:kindOf p.kind= .T:=by rw[e];rfl
  have ek:p.kind.toNat=10:=by rw[e];rfl
  rw[hd,ek];dsimp only;obtain⟨n0,n1⟩:=gj hd (.inr rfl);obtain⟨n2,n3⟩:=ks hd rfl;refine .cons ⟨p.dF,bp,fun φ=> ?_⟩ (v7 p.dF bp fun φ=> ?_)
  ·unfold Lv;dsimp only;rw[n0,n1,n2,n3,pU,hJ,gK φ p.a p.b a0 b0,gK φ p.c p.d c0 d0];unfold lS Gj;rw[lV,lV];simp only[Rv,gA];grind
  ·unfold Lv;dsimp only;rw[pU,rO,ck,CI];have e1:Pv φ [((places n).getD k 0+1,[1])]=φ ((df n).at_ k+1):=by
    show dG [1]*φ ((places n).getD k 0+1).toNat+0=_;have:((places n).getD k 0+1).toNat=(df n).at_ k+1:=by
     rw[R.place hk];lia
    rw[this,xE];grind
   rw[e1];simp only[Rv];grind
 ·have hd:kindOf p.kind= .O:=by rw[e];rfl
  have ek:p.kind.toNat=11:=by rw[e];rfl
  rw[hd,ek];dsimp only;obtain⟨n2,n3⟩:=ks hd rfl;refine v7 1 (by decide) fun φ=> ?_
  unfold Lv;dsimp only;rw[n2,n3,gK φ p.c p.d c0 d0];unfold Gj;rw[lV];simp only[Rv];grind
 ·have hd:kindOf p.kind= .S:=by rw[e];rfl
  have ek:p.kind.toNat=12:=by rw[e];rfl
  rw[hd,ek];show Al _ [if p.top=0 then cur g k else lS p] (if(p.top:Rat) / (p.dF:Rat)=1 then[_] else[_]);obtain⟨n0,n1⟩:=gj hd (.inl rfl);have hm:p.top=0\/p.top=p.dF:=by
   unfold lO at mn;rw[af (by lia),af (by lia),af (by lia),ah e] at mn;exact az mn
  by_cases ht:p.top=0
  ·rw[ah ht,af (by
    rw[ht];intro q;have:(((0:Int):Rat) / (p.dF:Rat))=0:=by
     push_cast;grind
    rw[this] at q;exact absurd q (by decide))]
   refine v7 1 (by decide) fun φ=> ?_
   unfold Lv;dsimp only;rw[ck];simp only[Rv];grind
  ·have htb:p.top=p.dF:=hm.resolve_left ht;rw[af ht,ah (by rw[htb];grind)];refine v7 1 (by decide) fun φ=> ?_
   unfold Lv;dsimp only;rw[n0,n1,gK φ p.a p.b a0 b0];unfold lS;rw[lV];simp only[Rv];grind
 ·have hd:kindOf p.kind= .D:=by rw[e];rfl
  have ek:p.kind.toNat=13:=by rw[e];rfl
  rw[hd,ek];show Al _ (if g.gI.getD k false=true then[BD g k (lS p)] else[cur g k]) (if G.on k=true then[_] else[_]);obtain⟨n0,n1⟩:=gj hd (.inl rfl);obtain⟨v1,v2⟩:=dr e;rw[oi];by_cases ho:g.gI.getD k false=true
  ·rw[ah ho,ah ho];refine v7 _ (j3 v1) fun φ=> ?_
   unfold Lv;dsimp only;have:=ve (a:=(g.drives.getD k (0,1)).1) v1;rw[n0,n1,Kb R S,v2,gK φ p.a p.b a0 b0];unfold lS;rw[lV];simp only[Rv];grind
  ·rw[af ho,af ho];refine v7 1 (by decide) fun φ=> ?_
   unfold Lv;dsimp only;rw[ck];simp only[Rv];grind
end
theorem fG(n:Nw):(df n).indexed=(List.range n.c9.length).map fun k=>(k,dw (n.c9.getD k p0)):=by
 unfold Wh.Net.indexed;rw[Gz (df n).elems (dw p0),aR];show(List.range (n.c9.map dw).length).map _=_;rw[lMp];apply aU;intro i hi;have hi:=aW.mp hi;show(i,(n.c9.map dw).getD i (dw p0))=_;rw[gDe,aC,gDe,aa hi];rfl
theorem LO(φ:Nat->PF){γ:Type}{f:γ->List Term}{h:γ->List (Nat×Rat)}:∀(l:List γ),(∀i∈l,Pv φ (f i)=Rv φ (h i))->Pv φ (l.flatMap f)=Rv φ (l.flatMap h)
 |[],_=>rfl
 |x::l,e=>by
  rw[a9,a9,hC,hJ,e x ax,LO φ l fun i hi=>e i (ao _ hi)]
theorem vE(n:Nw):(places n).length=n.c9.length:=by
 unfold places;have:∀(ps:List Part) (f:Int),(fX f ps).length=ps.length:=by
  intro ps;induction ps with
  |nil=>intro f;rfl
  |cons p ps ih=>intro f;show(fX _ ps).length+1=_;rw[ih];rfl
 exact this _ _
theorem Kc(φ:Nat->PF)(c:Prop) [Decidable c](i:Nat):Rv φ (if c then[(i,1)] else[])=if c then φ i else 0:=by
 split
 ·show PF.const 1*φ i+0=_;rw[gz];grind
 ·rfl
theorem Kd(φ:Nat->PF)(c:Prop) [Decidable c](i:Nat):Rv φ (if c then[(i,-1)] else[])=if c then - φ i else 0:=by
 split
 ·show PF.const (-1)*φ i+0=_;rw[gA,gz];grind
 ·rfl
theorem Ke(φ:Nat->PF)(c:Prop) [Decidable c](i:Int):Pv φ (if c then[(i,[1])] else[])=if c then φ i.toNat else 0:=by
 split
 ·show dG [1]*φ i.toNat+0=_;rw[xE];grind
 ·rfl
theorem Kf(φ:Nat->PF)(c:Prop) [Decidable c](i:Int):Pv φ (if c then[(i,[-1])] else[])=if c then - φ i.toNat else 0:=by
 split
 ·show dG [-1]*φ i.toNat+0=_;rw[CI];grind
 ·rfl
theorem OU{n:Nw}(R:Right n)(σ:PF)(m v:Nat):CH σ m (iP n ((v:Int)+1)) ⟨(df n).indexed.flatMap fun(p:Nat×Wh.Elem)=>(df n).outOf (v+1) p.1 p.2,[],0⟩:=by
 refine⟨1,by decide,fun φ=> ?_⟩;unfold Lv;dsimp only;have e:Pv φ (iP n ((v:Int)+1))=Rv φ ((df n).indexed.flatMap fun(p:Nat×Wh.Elem)=>(df n).outOf (v+1) p.1 p.2):=by
  unfold iP;rw[Fi n.c9 (places n) p0 0 (vE n),fG,cG,cG];refine LO φ _ fun k hk=> ?_
  have hk:=aW.mp hk;dsimp only;have pp:=R.p hk;rw[R.place hk];unfold Wh.Net.outOf;dsimp only;rw[jJ];generalize n.c9.getD k p0=p at pp⊢;have a0:=pp.a0;have b0:=pp.b0;have c0:=pp.c0;have d0:=pp.d0;have ca:p.a=(v:Int)+1↔p.a.toNat=v+1:=by lia
  have cb:p.b=(v:Int)+1↔p.b.toNat=v+1:=by lia
  have cc:p.c=(v:Int)+1↔p.c.toNat=v+1:=by lia
  have cd:p.d=(v:Int)+1↔p.d.toNat=v+1:=by lia
  have t1:∀i:Nat,((i:Int)).toNat=i:=fun i=>bb i
  have t2:∀i:Nat,((i:Int)+1).toNat=i+1:=fun i=>by lia
  by_cases h3:p.kind=3
  ·rw[ah h3,ah (pp.M.mpr h3)];rfl
  ·rw[af h3,af (fun e=>h3 (pp.M.mp e))];by_cases h10:p.kind=10
   ·rw[ah h10,ah (pp.T.mpr h10)];obtain⟨n0,n1⟩:=gj (pp.T.mpr h10) (.inr rfl);obtain⟨n2,n3⟩:=ks (pp.T.mpr h10) rfl;rw[n0,n1,n2,n3];rw[hC,hC,hC,hJ,hJ,hJ,Ke,Ke,Kf,Kf,Kc,Kc,Kd,Kd];simp only[ca,cb,cc,cd,t1,t2];grind
   ·rw[af h10,af (fun e=>h10 (pp.T.mp e))];have nc:Wh.nodeCount (kindOf p.kind)=2\/Wh.nodeCount (kindOf p.kind)=4:=by
     unfold Wh.nodeCount;rw[af (fun e=>h3 (pp.M.mp e))];split
     ·exact .inr rfl
     ·exact .inl rfl
    obtain⟨n0,n1⟩:=gj (rfl:kindOf p.kind=kindOf p.kind) nc;rw[n0,n1];rw[hC,hC,hJ,Ke,Kf,Kc,Kd];simp only[ca,cb,t1];show _+ (0:PF)=_;grind
 rw[e,gz,Cu];show _=1*(_+ σ*0+0*φ m);grind
theorem vf{n:Nw}(R:Right n){g:lJ}{G:Wh.Setting}(S:lW n g G):Al (CH (dG g.s) (df n).unknowns) (gV g) ((df n).laws G):=by
 unfold gV Wh.Net.laws;rw[S.d8];refine Al.append ?_ ?_
 ·exact LL _ fun v _=>OU R _ _ v
 ·rw[fG,cG];exact LM _ fun k hk=>OT R S (aW.mp hk)
theorem Kg(N:Wh.Net)(G:Wh.Setting)(k:Nat)(x:Wh.Elem):(N.lawsOf G k x).length=x.currents:=by
 unfold Wh.Net.lawsOf Wh.Elem.currents;dsimp only;cases x.kind <;>simp <;>split <;>rfl
theorem ux{γ β:Type}{f:γ->List β}{c:γ->Nat}:∀(l:List γ),(∀i∈l,(f i).length=c i)->(l.flatMap f).length=Wh.sumNat (l.map c)
 |[],_=>rfl
 |x::l,h=>by
  rw[a9,aA,aH,fL,h x ax,ux l fun i hi=>h i (ao _ hi)]
theorem iD(n:Nw)(G:Wh.Setting):((df n).laws G).length=(df n).unknowns:=by
 unfold Wh.Net.laws;rw[aA,lMp,bH,ux (c:=fun p:Nat×Wh.Elem=>p.2.currents) _ (fun p _=>Kg _ _ _ _)];unfold Wh.Net.unknowns Wh.Net.at_;congr 2;rw[aG,fG,aR];show _=(n.c9.map dw).map Wh.Elem.currents;rw[Fh (n.c9.map dw) (dw p0),aR,lMp];apply aU;intro i hi;have hi:=aW.mp hi;show(dw (n.c9.getD i p0)).currents=((n.c9.map dw).getD i (dw p0)).currents;congr 1;rw[gDe,gDe,aC,aa hi];rfl
theorem zD(row:jI)(t:Term):(ui row t).length=row.length:=by unfold ui;simp
theorem Fm(row:jI)(i j:Nat)(x:dN)(h:j<row.length):(row.set i x).getD j []=if j=i then x else row.getD j []:=by
 rw[gDe,gDe,cC];by_cases q:i=j
 ·subst q;rw[ah rfl,ah h,ah rfl];rfl
 ·rw[af q,af (bL q)]
theorem Il(j:Nat):∀(ts:List Term) (row:jI),j<row.length->dG ((ts.foldl ui row).getD j [])=dG (row.getD j [])+Pv (ei j) ts
 |[],row,_=>by
  show _=_+ (0:PF);rw[List.foldl_nil];grind
 |t::ts,row,h=>by
  rw[bD,Il j ts _ (by rw[zD];exact h)];show _=_+ (dG t.2*ei j t.1.toNat+Pv (ei j) ts);unfold ui;rw[Fm _ _ _ _ h];by_cases q:j=t.1.toNat
  ·rw[ah q,HU,<-q,sM];grind
  ·rw[af q,uf (bL q)];grind
theorem Fn(j:Nat):∀(ts:List Term) (row:jI),j<row.length->Trim (row.getD j [])->Trim ((ts.foldl ui row).getD j [])
 |[],_,_,h=>h
 |t::ts,row,h,ht=>by
  rw[bD];refine Fn j ts _ (by rw[zD];exact h) ?_;unfold ui;rw[Fm _ _ _ _ h];split
  ·exact MJ _ _
  ·exact ht
theorem Fo:∀(ts:List Term) (row:jI),(ts.foldl ui row).length=row.length
 |[],_=>rfl
 |t::ts,row=>by rw[bD,Fo ts,zD]
theorem Im(m j:Nat):(List.replicate m ([]:dN)).getD j []=[]:=by
 rw[gDe,cf];split <;>rfl
theorem vg(w:Int)(ts:List Term)(j:Nat)(h:j<(w+1).toNat):dG ((rowOf w ts).getD j [])=Pv (ei j) ts/\Trim ((rowOf w ts).getD j [])/\(rowOf w ts).length=(w+1).toNat:=by
 unfold rowOf;refine⟨?_,Fn j ts _ (by rw[aQ];exact h) (by rw[Im];exact uj),by rw[Fo,aQ]⟩;rw[Il j ts _ (by rw[aQ];exact h),Im];show(0:PF)+_=_;grind
noncomputable def L0:Wh.Law:=⟨[],[],0⟩
noncomputable def Sm (n:Nw) (G:Wh.Setting) (σ:PF):Nat->Nat->PF:=fun i j=>Lv (ei j) σ (df n).unknowns (((df n).laws G).getD i L0)
section
variable {n:Nw}(R:Right n){g:lJ}{G:Wh.Setting}(S:lW n g G)
include R S
theorem OV:(rows g).length=(df n).unknowns:=by
 unfold rows;rw[lMp,(vf R S).len,iD]
theorem xF{i:Nat}(h:i<(df n).unknowns):(rows g).getD i []=rowOf (width n) ((gV g).getD i []):=by
 have l:(gV g).length=(df n).unknowns:=by rw[(vf R S).len,iD]
 unfold rows;rw[gDe,aC,gDe,aa (by lia),S.d8];rfl
theorem xG:Tab (df n).unknowns (rows g):=by
 have w:(width n+1).toNat=(df n).unknowns+1:=by rw[R.zC];lia
 refine⟨OV R S,fun i hi=> ?_,fun i j hi hj=> ?_⟩
 ·rw[xF R S hi,(vg (width n) _ 0 (by lia)).2.2,w]
 ·unfold ent;rw[xF R S hi];exact(vg _ _ j (by lia)).2.1
theorem OW:∃κ:Nat->Rat,(∀i,i<(df n).unknowns->0<κ i)/\∀i j,i<(df n).unknowns->j<(df n).unknowns+1->sP (rows g) i j=PF.const (κ i)*Sm n G (dG g.s) i j:=by
 have w:(width n+1).toNat=(df n).unknowns+1:=by rw[R.zC];lia
 have l:(gV g).length=(df n).unknowns:=by rw[(vf R S).len,iD]
 have rel:∀i,i<(df n).unknowns->CH (dG g.s) (df n).unknowns ((gV g).getD i []) (((df n).laws G).getD i L0):=fun i hi=>(vf R S).get [] L0 i (by lia)
 refine⟨fun i=>if h:i<(df n).unknowns then Classical.choose (rel i h) else 1,fun i hi=> ?_,fun i j hi hj=> ?_⟩
 ·dsimp only;rw[dif_pos hi];exact(Classical.choose_spec (rel i hi)).1
 ·dsimp only;rw[dif_pos hi];unfold sP ent;rw[xF R S hi,(vg _ _ j (by lia)).1];exact(Classical.choose_spec (rel i hi)).2 (ei j)
end
section
variable {A:Type} [CommRing A]
noncomputable def Fp:Nat->(Nat->A)->A
 |0,_=>1
 |n+1,f=>Fp n f*f n
theorem Fq(n:Nat)(κ:Nat->A)(F:Nat->Nat->A):∀m,m<=n->det n (fun i j=>if i<m then κ i*F i j else F i j)=Fp m κ*det n F
 |0,_=>by
  show _=1*_;rw[eK n (B:=F) fun i j _ _=>by rw[af (by lia)]];grind
 |m+1,h=>by
  have ih:=Fq n κ F m (by lia);have e:(fun i j=>if i<m+1 then κ i*F i j else F i j)=eF (fun i j=>if i<m then κ i*F i j else F i j) m (fun j=>κ m*F m j):=by
   funext i j;show _=if i=m then κ m*F m j else if i<m then κ i*F i j else F i j
   by_cases q:i=m
   ·rw[ah q,ah (by lia),q]
   ·rw[af q];by_cases q2:i<m
    ·rw[ah q2,ah (by lia)]
    ·rw[af q2,af (by lia)]
  have e2:eF (fun i j=>if i<m then κ i*F i j else F i j) m (F m)=fun i j=>if i<m then κ i*F i j else F i j:=by
   funext i j;show(if i=m then F m j else if i<m then κ i*F i j else F i j)=_;by_cases q:i=m
   ·rw[ah q,af (by lia),q]
   ·rw[af q]
  rw[e,qm n _ m (κ m) (F m) (by lia),e2,ih];show _=Fp m κ*κ m*det n F;grind
theorem CN(n:Nat)(κ:Nat->A)(F B:Nat->Nat->A)(h:∀i j,i<n->j<n->B i j=κ i*F i j):det n B=Fp n κ*det n F:=by
 rw[<-Fq n κ F n (aj _)];exact eK n fun i j hi hj=>by rw[ah hi];exact h i j hi hj
end
theorem CO(κ:Nat->Rat):∀m,(∀i,i<m->0<κ i)->∃c:Rat,0<c/\Fp m (fun i=>PF.const (κ i))=PF.const c
 |0,_=>⟨1,by decide,rfl⟩
 |m+1,h=>by
  obtain⟨c,hc,e⟩:=CO κ m fun i hi=>h i (by lia)
  refine⟨c*κ m,Rat.mul_pos hc (h m (by lia)),?_⟩;show Fp m _* PF.const (κ m)=_;rw[e,nU]
theorem Io{n:Nw}(R:Right n){g:lJ}{G:Wh.Setting}(S:lW n g G):
  (∃d tops,sol (rows g)=some (d,tops)/\tops.length=(df n).unknowns/\Trim d/\d≠[]/\(∀c,c<(df n).unknowns->Trim (tops.getD c []))/\∃q:Rat,q≠0/\dG d=PF.const q*det (df n).unknowns (Sm n G (dG g.s))/\∀c,c<(df n).unknowns->dG (tops.getD c [])=PF.const q*det (df n).unknowns (fg (Sm n G (dG g.s)) c fun i=>Sm n G (dG g.s) i (df n).unknowns))\/
  (sol (rows g)=none/\det (df n).unknowns (Sm n G (dG g.s))=0/\∃x:Nat->PF,(∃j,j<(df n).unknowns/\x j≠0)/\∀i,i<(df n).unknowns->eC (df n).unknowns (fun d=>Sm n G (dG g.s) i d*x d)=0):=by
 obtain⟨κ,kp,ke⟩:=OW R S;obtain⟨c,cp,ce⟩:=CO κ (df n).unknowns kp;have Qx:c≠0:=fun e=>by rw[e] at cp;exact absurd cp (by decide)
 have dm:det (df n).unknowns (sP (rows g))=PF.const c*det (df n).unknowns (Sm n G (dG g.s)):=by
  rw[CN _ (fun i=>PF.const (κ i)) (Sm n G (dG g.s)) _ fun i j hi hj=>ke i j hi (by lia),ce]
 rcases J1 (xG R S) with⟨d,tops,e,so⟩ |⟨e,h0,x,hx,hs⟩
 ·obtain⟨ε,he,hd,ht⟩:=so.sgn;have es:∃q:Rat,q≠0/\ε=PF.const q:=by
   rcases he with e |e
   ·exact⟨1,by decide,by rw[e,gz]⟩
   ·exact⟨-1,by decide,by rw[e,gA,gz]⟩
  obtain⟨q,hq,eq⟩:=es;refine .inl ⟨d,tops,e,so.len,so.Ck,so.UW,so.trim,q*c,?_,?_,fun a ha=> ?_⟩
  ·exact fun z=>by rcases bY.mp z with z |z <;>contradiction
  ·rw[hd,dm,eq,nU];grind
  ·rw[ht a ha,CN _ (fun i=>PF.const (κ i)) (fg (Sm n G (dG g.s)) a fun i=>Sm n G (dG g.s) i (df n).unknowns) _ fun i j hi hj=>by
    show(if j=a then _ else _)=_* (if j=a then _ else _);split
    ·exact ke i _ hi (by lia)
    ·exact ke i j hi (by lia),ce,eq,nU]
   grind
 ·refine .inr ⟨e,?_,x,hx,fun i hi=> ?_⟩
  ·rw[dm] at h0;exact PF.xm (jW Qx) _ _ (by rw[h0];grind)
  ·have:=hs i hi;have k0:κ i≠0:=fun e=>by have:=kp i hi;rw[e] at this;exact absurd this (by decide)
   refine PF.xm (jW k0) _ _ ?_;rw[<-fW];rw[eI (g:=fun d=>PF.const (κ i)*(Sm n G (dG g.s) i d*x d)) _ fun j hj=>by rw[ke i j hi (by lia)];grind] at this;rw[this];grind
theorem mQ:∀l m:List Nat,Wh.sumNat (l ++ m)=Wh.sumNat l+Wh.sumNat m
 |[],m=>by
  show Wh.sumNat m=0+_;lia
 |a::l,m=>by rw[List.cons_append,fL,fL,mQ l m];lia
theorem Ip(n:Nw){k:Nat}(h:k<n.c9.length):∃r,(df n).unknowns=(df n).at_ k+(dw (n.c9.getD k p0)).currents+r:=by
 have e:n.c9.map dw=(n.c9.map dw).take k ++ dw (n.c9.getD k p0)::(n.c9.map dw).drop (k+1):=by
  have h':k<(n.c9.map dw).length:=by rw[lMp];exact h
  have q:(n.c9.map dw)[k]=dw (n.c9.getD k p0):=by
   rw[List.getElem_map,gDe,aa h];rfl
  rw[<-q,List.getElem_cons_drop,List.take_append_drop]
 refine⟨Wh.sumNat (((n.c9.map dw).drop (k+1)).map Wh.Elem.currents),?_⟩;unfold Wh.Net.unknowns Wh.Net.at_;rw[aG];show n.last.toNat+Wh.sumNat ((n.c9.map dw).map Wh.Elem.currents)=n.last.toNat+Wh.sumNat (((n.c9.map dw).take k).map Wh.Elem.currents)+_+ _;have:=congrArg (fun l=>Wh.sumNat (l.map Wh.Elem.currents)) e;rw[this,aP,mQ,aH,fL];lia
theorem kx(n:Nw):n.last.toNat<=(df n).unknowns:=by
 show n.last.toNat<=n.last.toNat+_;lia
theorem Q1{p:Part}(h:Pn p)(h3:p.kind≠3):1<=(dw p).currents:=by
 unfold Wh.Elem.currents;rw[jJ,af (fun e=>h3 (h.M.mp e))];split <;>decide
theorem Q2{p:Part}(h:Pn p)(h3:p.kind=10):(dw p).currents=2:=by
 unfold Wh.Elem.currents;rw[jJ,af (fun e=>by have:=h.M.mp e;lia),ah (h.T.mpr h3)]
section
variable {n:Nw}(R:Right n)
include R
theorem xH{k:Nat}(h:k<n.c9.length)(h3:(n.c9.getD k p0).kind≠3):(df n).at_ k<(df n).unknowns:=by
 obtain⟨r,e⟩:=Ip n h;have:=Q1 (R.p h) h3;lia
theorem GD{k:Nat}(h:k<n.c9.length)(h3:(n.c9.getD k p0).kind=10):(df n).at_ k+1<(df n).unknowns:=by
 obtain⟨r,e⟩:=Ip n h;have:=Q2 (R.p h) h3;lia
omit R in
theorem LP{m a:Nat}{q:Rat}(h:a<=m):∀t∈Wh.volt a q,t.1<m:=fun t ht=>by
 unfold Wh.volt at ht;split at ht
 ·cases ht
 ·rw[aw.mp ht];show a - 1<m;lia
omit R in
theorem gL{m a b:Nat}{q:Rat}(ha:a<=m)(hb:b<=m):∀t∈Wh.across a b q,t.1<m:=fun t ht=>by
 rcases aN.mp ht with h |h
 ·exact LP ha t h
 ·exact LP hb t h
noncomputable def Ta (m:Nat) (L:Wh.Law):Prop:=(∀t∈L.terms,t.1<m)/\∀t∈L.byS,t.1<m
omit R in
theorem none_lt{m:Nat}:∀t∈([]:List (Nat×Rat)),t.1<m:=fun t h=>by cases h
omit R in
theorem m5{m i:Nat}{q:Rat}(h:i<m):∀t∈[(i,q)],t.1<m:=fun t ht=>by rw[aw.mp ht];exact h
omit R in
theorem uy{m:Nat}{l r:List (Nat×Rat)}(hl:∀t∈l,t.1<m)(hr:∀t∈r,t.1<m):∀t∈l ++ r,t.1<m:=fun t ht=>(aN.mp ht).elim (hl t) (hr t)
theorem MW(G:Wh.Setting){k:Nat}(hk:k<n.c9.length):∀L∈(df n).lawsOf G k (dw (n.c9.getD k p0)),Ta (df n).unknowns L:=by
 have pp:=R.p hk;have ab:=R.ab hk;have cdd:=R.cd hk;have fo:=R.QZ hk;have nl:=kx n;have al:=xH R hk;have al2:=GD R hk;have a0:=pp.a0;have b0:=pp.b0;have c0:=pp.c0;have d0:=pp.d0;have lp:=R.l1;unfold Wh.Net.lawsOf;dsimp only;rw[jJ];have cpl:(n.c9.getD k p0).kind=2->∀t∈((df n).coupled k).map fun(p:Nat×Rat)=>((df n).at_ p.1,-p.2),t.1<(df n).unknowns:=fun _ t ht=>by
  obtain⟨q,hq,rfl⟩:=aL.mp ht;unfold Wh.Net.coupled at hq;obtain⟨x,hx,hxq⟩:=List.mem_filterMap.mp hq;obtain⟨p,hp,rfl⟩:=aL.mp (show x∈n.c9.map dw from hx);obtain⟨i,hi,ei⟩:=aY hp;have ep:n.c9.getD i p0=p:=by rw[gDe,aa hi,ei];rfl
  by_cases hM:(dw p).kind= .M
  ·rw[ah hM] at hxq;have h3:p.kind=3:=(R.pn p hp).M.mp hM;have cp:=R.MV hi (by rw[ep];exact h3);rw[ep] at cp;have r0:(dw p).refs.getD 0 0=p.a.toNat/\(dw p).refs.getD 1 0=p.b.toNat:=by
    unfold dw;dsimp only;rw[ah (show kindOf p.kind= .M from hM)];exact⟨rfl,rfl⟩
   have pa:=(R.pn p hp).a0;have pb:=(R.pn p hp).b0;have key:∀z:Int,0<=z->z<i->kindAt n.c9 z=2->(df n).at_ z.toNat<(df n).unknowns:=fun z z0 zi zk=>xH R (by lia) (by
    unfold kindAt at zk;rw[zk];decide)
   rw[r0.1,r0.2] at hxq;split at hxq
   ·cases hxq
    exact key p.b pb cp.2.2.1 cp.2.2.2
   ·split at hxq
    ·cases hxq
     exact key p.a pa cp.2.1.1 cp.2.1.2
    ·cases hxq
  ·rw[af hM] at hxq;cases hxq
 generalize hp:n.c9.getD k p0=p at *;have hab:p.kind≠3->p.a.toNat<=(df n).unknowns/\p.b.toNat<=(df n).unknowns:=fun h=>by have:=ab h;clear cdd fo al al2 cpl;lia
 have hcd:(p.kind=6\/p.kind=7\/p.kind=10\/p.kind=11)->p.c.toNat<=(df n).unknowns/\p.d.toNat<=(df n).unknowns:=fun h=>by have:=cdd h;clear ab fo al al2 cpl hab;lia
 have three:∀{z:Int},p.kind=z->decide (z≠3)=true->p.kind≠3:=fun e h=>by rw[e];exact az h
 clear ab cdd nl a0 b0 d0 lp;rcases oq pp.k0 pp.k1 with e |e |e |e |e |e |e |e |e |e |e |e |e |e
 ·have hd:kindOf p.kind= .R:=by rw[e];rfl
  rw[hd];obtain⟨n0,n1⟩:=gj hd (.inl rfl);rw[n0,n1];intro L hL;rw[aw.mp hL];exact⟨uy (gL (hab (three e rfl)).1 (hab (three e rfl)).2) (m5 (al (three e rfl))),none_lt⟩
 ·have hd:kindOf p.kind= .C:=by rw[e];rfl
  rw[hd];obtain⟨n0,n1⟩:=gj hd (.inl rfl);rw[n0,n1];intro L hL;rw[aw.mp hL];exact⟨m5 (al (three e rfl)),gL (hab (three e rfl)).1 (hab (three e rfl)).2⟩
 ·have hd:kindOf p.kind= .L:=by rw[e];rfl
  rw[hd];obtain⟨n0,n1⟩:=gj hd (.inl rfl);rw[n0,n1];intro L hL;rw[aw.mp hL];exact⟨gL (hab (three e rfl)).1 (hab (three e rfl)).2,uy (l:=[_]) (m5 (al (three e rfl))) (cpl e)⟩
 ·have hd:kindOf p.kind= .M:=by rw[e];rfl
  rw[hd];intro L hL;cases hL
 ·have hd:kindOf p.kind= .V:=by rw[e];rfl
  rw[hd];obtain⟨n0,n1⟩:=gj hd (.inl rfl);rw[n0,n1];intro L hL;rw[aw.mp hL];exact⟨gL (hab (three e rfl)).1 (hab (three e rfl)).2,none_lt⟩
 ·have hd:kindOf p.kind= .I:=by rw[e];rfl
  rw[hd];intro L hL;rw[aw.mp hL];exact⟨m5 (al (three e rfl)),none_lt⟩
 ·have hd:kindOf p.kind= .E:=by rw[e];rfl
  rw[hd];obtain⟨n0,n1⟩:=gj hd (.inr rfl);obtain⟨n2,n3⟩:=ks hd rfl;rw[n0,n1,n2,n3];intro L hL;rw[aw.mp hL];exact⟨uy (gL (hab (three e rfl)).1 (hab (three e rfl)).2) (gL (hcd (.inl e)).1 (hcd (.inl e)).2),none_lt⟩
 ·have hd:kindOf p.kind= .G:=by rw[e];rfl
  rw[hd];obtain⟨n2,n3⟩:=ks hd rfl;rw[n2,n3];intro L hL;rw[aw.mp hL];exact⟨uy (l:=[_]) (m5 (al (three e rfl))) (gL (hcd (.inr (.inl e))).1 (hcd (.inr (.inl e))).2),none_lt⟩
 ·have hd:kindOf p.kind= .H:=by rw[e];rfl
  rw[hd];obtain⟨n0,n1⟩:=gj hd (.inl rfl);have r0:=GC hd (by decide) rfl;have ff:=fo (.inl e);rw[n0,n1,r0];intro L hL;rw[aw.mp hL];exact⟨uy (gL (hab (three e rfl)).1 (hab (three e rfl)).2) (m5 (xH R (by lia) ff.2)),none_lt⟩
 ·have hd:kindOf p.kind= .F:=by rw[e];rfl
  rw[hd];have r0:=GC hd (by decide) rfl;have ff:=fo (.inr e);rw[r0];intro L hL;rw[aw.mp hL];exact⟨uy (l:=[_]) (m5 (al (three e rfl))) (m5 (xH R (by lia) ff.2)),none_lt⟩
 ·have hd:kindOf p.kind= .T:=by rw[e];rfl
  rw[hd];obtain⟨n0,n1⟩:=gj hd (.inr rfl);obtain⟨n2,n3⟩:=ks hd rfl;rw[n0,n1,n2,n3];intro L hL;rcases aJ.mp hL with rfl |hL
  ·exact⟨uy (gL (hab (three e rfl)).1 (hab (three e rfl)).2) (gL (hcd (.inr (.inr (.inl e)))).1 (hcd (.inr (.inr (.inl e)))).2),none_lt⟩
  ·rw[aw.mp hL];exact⟨uy (l:=[_]) (m5 (al2 e)) (m5 (al (three e rfl))),none_lt⟩
 ·have hd:kindOf p.kind= .O:=by rw[e];rfl
  rw[hd];obtain⟨n2,n3⟩:=ks hd rfl;rw[n2,n3];intro L hL;rw[aw.mp hL];exact⟨gL (hcd (.inr (.inr (.inr e)))).1 (hcd (.inr (.inr (.inr e)))).2,none_lt⟩
 ·have hd:kindOf p.kind= .S:=by rw[e];rfl
  rw[hd];obtain⟨n0,n1⟩:=gj hd (.inl rfl);rw[n0,n1];intro L hL;dsimp only at hL;split at hL
  ·rw[aw.mp hL];exact⟨gL (hab (three e rfl)).1 (hab (three e rfl)).2,none_lt⟩
  ·rw[aw.mp hL];exact⟨m5 (al (three e rfl)),none_lt⟩
 ·have hd:kindOf p.kind= .D:=by rw[e];rfl
  rw[hd];obtain⟨n0,n1⟩:=gj hd (.inl rfl);rw[n0,n1];intro L hL;dsimp only at hL;split at hL
  ·rw[aw.mp hL];exact⟨gL (hab (three e rfl)).1 (hab (three e rfl)).2,none_lt⟩
  ·rw[aw.mp hL];exact⟨m5 (al (three e rfl)),none_lt⟩
theorem Iq(G:Wh.Setting):∀L∈(df n).laws G,Ta (df n).unknowns L:=fun L hL=>by
 unfold Wh.Net.laws at hL;rcases aN.mp hL with h |h
 ·obtain⟨v,hv,rfl⟩:=aL.mp h;refine⟨fun t ht=> ?_,none_lt⟩;rw[fG,cG] at ht;obtain⟨k,hk,ht⟩:=cH.mp ht;have hk:=aW.mp hk;have pp:=R.p hk;unfold Wh.Net.outOf at ht;dsimp only at ht;rw[jJ] at ht;have one:∀(c:Prop) [Decidable c] (i:Nat) (q:Rat),t∈(if c then[(i,q)] else[])->t.1=i:=fun c _ i q h=>by
   split at h
   ·rw[aw.mp h]
   ·cases h
  by_cases h3:(n.c9.getD k p0).kind=3
  ·rw[ah (pp.M.mpr h3)] at ht;cases ht
  ·rw[af (fun e=>h3 (pp.M.mp e))] at ht;have l1:=xH R hk h3;by_cases h10:(n.c9.getD k p0).kind=10
   ·have l2:=GD R hk h10;rw[ah (pp.T.mpr h10)] at ht;rcases aN.mp ht with ht |ht
    ·have:=one _ _ _ ht;lia
    rcases aN.mp ht with ht |ht
    ·have:=one _ _ _ ht;lia
    rcases aN.mp ht with ht |ht
    ·have:=one _ _ _ ht;lia
    ·have:=one _ _ _ ht;lia
   ·rw[af (fun e=>h10 (pp.T.mp e))] at ht;rcases aN.mp ht with ht |ht
    ·have:=one _ _ _ ht;lia
    ·have:=one _ _ _ ht;lia
 ·rw[fG,cG] at h;obtain⟨k,hk,h⟩:=cH.mp h;exact MW R G (aW.mp hk) L h
end
theorem GF(j:Nat):∀ts:List (Nat×Rat),(∀t∈ts,t.1<j)->Rv (ei j) ts=0
 |[],_=>rfl
 |t::ts,h=>by
  show PF.const t.2*ei j t.1+Rv (ei j) ts=0;have:=h t ax;rw[uf (by lia),GF j ts fun u hu=>h u (ao _ hu)];grind
theorem Fs(r:List Rat)(i j:Nat)(q:Rat)(h:j<r.length):(Wh.addAt r i q).getD j 0=r.getD j 0+if i=j then q else 0:=by
 unfold Wh.addAt;rw[gDe,cC];by_cases e:i=j
 ·subst e;rw[ah rfl,ah h,ah rfl];rfl
 ·rw[af e,af e,gDe];grind
theorem vh(r:List Rat)(i:Nat)(q:Rat):(Wh.addAt r i q).length=r.length:=by unfold Wh.addAt;simp
theorem Tb(i j:Nat)(x:Rat):(ei j i:PF).f x=if i=j then 1 else 0:=by
 unfold ei;split <;>rfl
theorem CP(j:Nat)(x:Rat):∀(ts:List (Nat×Rat)) (r:List Rat),j<r.length->(ts.foldl (fun(r:List Rat) (t:Nat×Rat)=>Wh.addAt r t.1 t.2) r).getD j 0=r.getD j 0+(Rv (ei j) ts).f x
 |[],r,h=>by
  show r.getD j 0=r.getD j 0+0;grind
 |t::ts,r,h=>by
  rw[bD,CP j x ts _ (by rw[vh];exact h),Fs _ _ _ _ h];show _=_+ (t.2*(ei j t.1:PF).f x+(Rv (ei j) ts).f x);rw[Tb];split <;>grind
theorem Ir(j:Nat)(x s:Rat):∀(ts:List (Nat×Rat)) (r:List Rat),j<r.length->(ts.foldl (fun(r:List Rat) (t:Nat×Rat)=>Wh.addAt r t.1 (s*t.2)) r).getD j 0=r.getD j 0+s*(Rv (ei j) ts).f x
 |[],r,h=>by
  show r.getD j 0=r.getD j 0+s*0;grind
 |t::ts,r,h=>by
  rw[bD,Ir j x s ts _ (by rw[vh];exact h),Fs _ _ _ _ h];show _=_+ s*(t.2*(ei j t.1:PF).f x+(Rv (ei j) ts).f x);rw[Tb];split <;>grind
theorem zE:∀(ts:List (Nat×Rat)) (r:List Rat),(ts.foldl (fun(r:List Rat) (t:Nat×Rat)=>Wh.addAt r t.1 t.2) r).length=r.length
 |[],_=>rfl
 |t::ts,r=>by rw[bD,zE ts,vh]
theorem Ft(s:Rat):∀(ts:List (Nat×Rat)) (r:List Rat),(ts.foldl (fun(r:List Rat) (t:Nat×Rat)=>Wh.addAt r t.1 (s*t.2)) r).length=r.length
 |[],_=>rfl
 |t::ts,r=>by rw[bD,Ft s ts,vh]
theorem BK(L:Wh.Law)(m:Nat)(s:Rat):(L.row m s).1.length=m:=by
 unfold Wh.Law.row;rw[Ft,zE,aQ]
theorem GG(L:Wh.Law)(m:Nat)(σ:PF)(x s:Rat)(hs:σ.f x=s)(j:Nat)(hj:j<m):(L.row m s).1.getD j 0=(Lv (ei j) σ m L).f x:=by
 unfold Wh.Law.row Lv;rw[Ir j x s _ _ (by rw[zE,aQ];exact hj),CP j x _ _ (by rw[aQ];exact hj)];show _=(Rv (ei j) L.terms).f x+σ.f x*(Rv (ei j) L.byS).f x+L.right*(ei j m:PF).f x;rw[hs,Tb,af (by lia)];have:(List.replicate m (0:Rat)).getD j 0=0:=by
  rw[gDe,cf];split <;>rfl
 rw[this];grind
theorem Fu(L:Wh.Law)(m:Nat)(σ:PF)(x s:Rat)(h:Ta m L):(L.row m s).2=(Lv (ei m) σ m L).f x:=by
 unfold Wh.Law.row Lv;rw[GF m _ h.1,GF m _ h.2,sM];show L.right=(0:Rat)+σ.f x*0+L.right*((1:Nat):Rat);grind
theorem xI(n:Nw)(G:Wh.Setting)(s:Rat){i:Nat}(hi:i<(df n).unknowns):((df n).rows G s)[i]? =some ((((df n).laws G).getD i L0).row (df n).unknowns s):=by
 unfold Wh.Net.rows;rw[aC,gDe,aa (by rw[iD];exact hi)];rfl
section
variable {n:Nw}(R:Right n)(G:Wh.Setting)(σ:PF)(x s:Rat)(hs:σ.f x=s)
include R hs
theorem CQ:Wh.detOf (df n).unknowns (((df n).rows G s).map fun(r:Wh.Row)=>r.1)=(det (df n).unknowns (Sm n G σ)).f x:=by
 have l:((df n).rows G s).length=(df n).unknowns:=by unfold Wh.Net.rows;rw[lMp,iD]
 have gg:∀i,i<(df n).unknowns->((((df n).rows G s).map fun(r:Wh.Row)=>r.1).getD i [])=((((df n).laws G).getD i L0).row (df n).unknowns s).1:=fun i hi=>by
  rw[gDe,aC,xI n G s hi];rfl
 rw[Cn _ _ (by rw[lMp];exact l) fun i hi=>by rw[gg i hi,BK],EZ];refine eK _ fun i j hi hj=> ?_
 show((((df n).rows G s).map fun(r:Wh.Row)=>r.1).getD i []).getD j 0=_;rw[gg i hi];exact GG _ _ σ x s hs j hj
theorem Kh{c:Nat}(hc:c<(df n).unknowns):Wh.detOf (df n).unknowns (((df n).rows G s).map fun(r:Wh.Row)=>r.1.set c r.2)=(det (df n).unknowns (fg (Sm n G σ) c fun i=>Sm n G σ i (df n).unknowns)).f x:=by
 have l:((df n).rows G s).length=(df n).unknowns:=by unfold Wh.Net.rows;rw[lMp,iD]
 have gg:∀i,i<(df n).unknowns->((((df n).rows G s).map fun(r:Wh.Row)=>r.1.set c r.2).getD i [])=((((df n).laws G).getD i L0).row (df n).unknowns s).1.set c ((((df n).laws G).getD i L0).row (df n).unknowns s).2:=fun i hi=>by
  rw[gDe,aC,xI n G s hi];rfl
 rw[Cn _ _ (by rw[lMp];exact l) fun i hi=>by rw[gg i hi,bX,BK],EZ];refine eK _ fun i j hi hj=> ?_
 show((((df n).rows G s).map fun(r:Wh.Row)=>r.1.set c r.2).getD i []).getD j 0=(if j=c then _ else _:PF).f x;rw[gg i hi,gDe,cC];by_cases e:c=j
 ·subst e;rw[ah rfl,ah rfl,ah (by rw[BK];exact hc)];exact Fu _ _ σ x s (Iq R G _ (memD (by rw[iD];exact hi)))
 ·rw[af e,af (bL e),<-gDe];exact GG _ _ σ x s hs j hj
end
noncomputable def XX:PF:=dG [0,1]
theorem Q3(x:Rat):XX.f x=x:=by
 unfold XX;rw[fi,fi];show((0:Int):Rat)+x*(((1:Int):Rat)+x*0)=x;grind
theorem OX(i j:Nat):Dg (ei j i:PF) 1:=by
 unfold ei;split
 ·exact gz▸Ic 1
 ·exact xu 1
theorem LQ(j:Nat):∀ts:List (Nat×Rat),Dg (Rv (ei j) ts) 1
 |[]=>xu 1
 |t::ts=>((OX t.1 j).smul t.2).add (LQ j ts)
noncomputable def Fv (L:Wh.Law):Nat:=if L.byS.isEmpty=true then 0 else 1
theorem V6:Dg XX 2:=Gs [0,1]
theorem OY(L:Wh.Law)(m j:Nat):Dg (Lv (ei j) XX m L) (Fv L+1):=by
 unfold Lv Fv;have h1:=LQ j L.terms;have h3:=(OX m j).smul L.right;by_cases e:L.byS.isEmpty=true
 ·rw[ah e];have:L.byS=[]:=cU.mp e;rw[this];have z:XX*Rv (ei j) []=0:=by
   show XX*0=0;grind
  rw[z];exact(h1.add (xu 1)).add h3
 ·rw[af e];have h2:Dg (XX*Rv (ei j) L.byS) 2:=Dg.mul (d:=1) (e:=0) V6 (LQ j _);exact((h1.mono (by lia)).add h2).add (h3.mono (by lia))
theorem Iu{α:Type}(f:α->Nat)(d:α)(l:List α):sumNat l.length (fun i=>f (l.getD i d))=Wh.sumNat (l.map f):=by
 have key:∀m,m<=l.length->sumNat m (fun i=>f (l.getD i d))=Wh.sumNat ((l.take m).map f):=by
  intro m;induction m with
  |zero=>intro _;rfl
  |succ m ih=>
   intro hm;show sumNat m _+ _=_;rw[ih (by lia),a5,aa (by lia),aP,mQ];show _+ f (l.getD m d)=_+ Wh.sumNat [f _];rw[fL,gDe,aa (by lia)];rfl
 rw[key _ (aj _),aG]
theorem AO{γ β:Type}{f:γ->List β}{h:β->Nat}{c:γ->Nat}:∀l:List γ,(∀i∈l,Wh.sumNat ((f i).map h)<=c i)->Wh.sumNat ((l.flatMap f).map h)<=Wh.sumNat (l.map c)
 |[],_=>aj _
 |x::l,e=>by
  rw[a9,aP,mQ,aH,fL];have:=e x ax;have:=AO (f:=f) (h:=h) (c:=c) l fun i hi=>e i (ao _ hi)
  lia
theorem CS{α:Type}(p:α->Bool):∀l:List α,(l.filter p).length=Wh.sumNat (l.map fun x=>if p x=true then 1 else 0)
 |[]=>rfl
 |x::l=>by
  rw[aH,fL,<-CS p l];by_cases e:p x=true
  ·rw[aS e,ah e,au];lia
  ·rw[aX e,af e];lia
theorem Iv{α:Type}(f:α->Nat):∀l:List α,(∀x∈l,f x=0)->Wh.sumNat (l.map f)=0
 |[],_=>rfl
 |x::l,h=>by
  rw[aH,fL,h x ax,Iv f l fun y hy=>h y (ao _ hy)]
theorem Q4(N:Wh.Net)(G:Wh.Setting)(k:Nat)(x:Wh.Elem):Wh.sumNat ((N.lawsOf G k x).map Fv)<=if(decide (x.kind= .C) ||decide (x.kind= .L))=true then 1 else 0:=by
 have d0:∀a b,Fv ⟨a,[],b⟩=0:=fun a b=>rfl
 have d1:∀L,Fv L<=1:=fun L=>by unfold Fv;split <;>lia
 have s1:∀L,Wh.sumNat ([L].map Fv)=Fv L:=fun L=>by
  show Wh.sumNat [Fv L]=_;rw[fL];rfl
 have s2:∀L M,Wh.sumNat ([L,M].map Fv)=Fv L+Fv M:=fun L M=>by
  show Wh.sumNat [Fv L,Fv M]=_;rw[fL,fL];rfl
 unfold Wh.Net.lawsOf;dsimp only;cases h:x.kind <;>dsimp only
 case C=>rw[s1];exact d1 _
 case L=>rw[s1];exact d1 _
 case T=>rw[s2];exact aj _
 case M=>exact aj _
 case S=>split <;>(rw[s1];exact aj _)
 case D=>split <;>(rw[s1];exact aj _)
 all_goals (rw[s1];exact aj _)
theorem LR(n:Nw)(G:Wh.Setting):sumNat (df n).unknowns (fun i=>Fv (((df n).laws G).getD i L0))+1<=(df n).places:=by
 rw[<-iD n G,Iu Fv L0];unfold Wh.Net.laws Wh.Net.places;rw[aP,mQ,CS];have z:Wh.sumNat (((List.range (df n).nodes).map fun(v:Nat)=>(⟨(df n).indexed.flatMap fun(p:Nat×Wh.Elem)=>(df n).outOf (v+1) p.1 p.2,[],0⟩:Wh.Law)).map Fv)=0:=by
  refine Iv _ _ fun L hL=> ?_
  obtain⟨v,_,rfl⟩:=aL.mp hL;rfl
 rw[z];have q:=AO (f:=fun p:Nat×Wh.Elem=>(df n).lawsOf G p.1 p.2) (h:=Fv) (c:=fun p:Nat×Wh.Elem=>if(decide (p.2.kind= .C) ||decide (p.2.kind= .L))=true then 1 else 0) (df n).indexed fun p _=>Q4 _ _ _ _
 have e:((df n).indexed.map fun p:Nat×Wh.Elem=>if(decide (p.2.kind= .C) ||decide (p.2.kind= .L))=true then 1 else 0)=(df n).elems.map fun x=>if(decide (x.kind= .C) ||decide (x.kind= .L))=true then 1 else 0:=by
  rw[fG,aR];show _=(n.c9.map dw).map _;rw[Fh (n.c9.map dw) (dw p0),aR,lMp];apply aU;intro i hi;have hi:=aW.mp hi;have e:(n.c9.map dw).getD i (dw p0)=dw (n.c9.getD i p0):=by
   rw[gDe,gDe,aC,aa hi];rfl
  show _=if(decide (((n.c9.map dw).getD i (dw p0)).kind= .C) ||decide (((n.c9.map dw).getD i (dw p0)).kind= .L))=true then 1 else 0
  rw[e];rfl
 rw[e] at q;lia
section
variable {n:Nw}(R:Right n)(G:Wh.Setting)
include R
theorem uz:fz ((df n).determinant G)=det (df n).unknowns (Sm n G XX):=by
 unfold Wh.Net.determinant;refine Ct _ _ (df n).places (by rw[lMp,bH]) ?_ fun i hi=> ?_
 ·exact(Gr _ (d:=fun i=>Fv (((df n).laws G).getD i L0)) fun i j _ _=>OY _ _ _).mono (LR n G)
 ·rw[kr _ _ _ _ hi];exact(CQ R G XX _ _ (Q3 _)).symm
theorem GH{c:Nat}(hc:c<(df n).unknowns):fz ((df n).numerator G c)=det (df n).unknowns (fg (Sm n G XX) c fun i=>Sm n G XX i (df n).unknowns):=by
 unfold Wh.Net.numerator;refine Ct _ _ (df n).places (by rw[lMp,bH]) ?_ fun i hi=> ?_
 ·refine(Gr _ (d:=fun i=>Fv (((df n).laws G).getD i L0)) fun i j _ _=> ?_).mono (LR n G);show Dg (if j=c then _ else _) _;split
  ·exact OY _ _ _
  ·exact OY _ _ _
 ·rw[kr _ _ _ _ hi];exact(Kh R G XX _ _ (Q3 _) hc).symm
end
noncomputable def ot:List Part->List (List Bool)
 |[]=>[[]]
 |p::ps=>if p.kind=13 then(ot ps).map (fun r=>false::r) ++ (ot ps).map (fun r=>true::r) else(ot ps).map (fun r=>false::r)
theorem AQ:∀(ps:List Part) (rs:List (List Bool)),eW ps rs=rs.flatMap fun row=>(ot ps).map fun r=>row ++ r
 |[],rs=>by
  show rs=rs.flatMap fun row=>[row ++ []]
  induction rs with
  |nil=>rfl
  |cons r rs ih=>rw[a9,<-ih];simp
 |p::ps,rs=>by
  show eW ps (rs.flatMap fun row=>if p.kind=13 then[row ++ [false],row ++ [true]] else[row ++ [false]])=_;rw[AQ ps,List.flatMap_assoc];congr 1;funext row;show _=(if p.kind=13 then(ot ps).map (fun r=>false::r) ++ (ot ps).map (fun r=>true::r) else(ot ps).map (fun r=>false::r)).map _;by_cases h:p.kind=13
  ·rw[ah h,ah h,aP,aR,aR];simp[Function.comp_def]
  ·rw[af h,af h,aR];simp[Function.comp_def]
theorem AR(ps:List Part):eW ps [[]]=ot ps:=by
 rw[AQ];simp
noncomputable def nL (off:Nat):List Part->List Nat
 |[]=>[]
 |p::ps=>if p.kind=13 then off::nL (off+1) ps else nL (off+1) ps
noncomputable def nM (off len:Nat) (st:List Bool) (r:List Nat):Prop:=st.length=len/\(∀k∈r,off<=k)/\∀k,off<=k->r.contains k=st.getD (k - off) false
theorem zF:∀(ps:List Part) (off:Nat),Al (nM off ps.length) (ot ps) (Wh.rowsOf (nL off ps))
 |[],off=> .cons ⟨rfl,(fun _ h=>by cases h),fun k _=>by simp⟩ .nil
 |p::ps,off=>by
  have ih:=zF ps (off+1);have f1:∀st r,nM (off+1) ps.length st r->nM off (p::ps).length (false::st) r:=fun st r h=>by
   refine⟨by rw[au,au,h.1],fun k hk=>by have:=h.2.1 k hk;lia,fun k hk=> ?_⟩;by_cases e:k=off
   ·subst e;rw[cj];show r.contains k=false;cases q:r.contains k with
    |false=>rfl
    |true=>
     have:=h.2.1 k (List.contains_iff_mem.mp q);lia
   ·have e2:k - off=(k - (off+1))+1:=by lia
    rw[e2,h.2.2 k (by lia)];rfl
  have f2:∀st r,nM (off+1) ps.length st r->nM off (p::ps).length (true::st) (off::r):=fun st r h=>by
   refine⟨by rw[au,au,h.1],fun k hk=> ?_,fun k hk=> ?_⟩
   ·rcases aJ.mp hk with rfl |hk
    ·exact aj _
    ·have:=h.2.1 k hk;lia
   ·by_cases e:k=off
    ·subst e;rw[cj];simp
    ·have e2:k - off=(k - (off+1))+1:=by lia
     rw[e2];show(off::r).contains k=st.getD (k - (off+1)) false;rw[<-h.2.2 k (by lia),List.contains_cons];have:(k==off)=false:=by simpa using e
     rw[this,Bool.false_or]
  unfold ot nL;by_cases h:p.kind=13
  ·rw[ah h,ah h];show Al _ _ (Wh.rowsOf (nL (off+1) ps) ++ (Wh.rowsOf (nL (off+1) ps)).map fun(s:Wh.States)=>off::s);refine Al.append ?_ ?_
   ·have:=(ih.imp f1).QY (f:=fun r=>false::r) (g:=fun r=>r) (R:=nM off (p::ps).length);rw[cT] at this;exact this
   ·exact(ih.imp f2).QY (f:=fun r=>true::r) (g:=fun r=>off::r)
  ·rw[af h,af h];have:=(ih.imp f1).QY (f:=fun r=>false::r) (g:=fun r=>r) (R:=nM off (p::ps).length);rw[cT] at this;exact this
theorem LS:∀(ps:List Part) (off:Nat),(∀p∈ps,Pn p)->((((ps.map dw).zipIdx off).map fun(x:Wh.Elem×Nat)=>(x.2,x.1)).filter fun(p:Nat×Wh.Elem)=>decide (p.2.kind= .D)).map (fun(p:Nat×Wh.Elem)=>p.1)=nL off ps
 |[],_,_=>rfl
 |p::ps,off,h=>by
  have ih:=LS ps (off+1) fun q hq=>h q (ao _ hq)
  have hp:=h p ax;rw[aH,List.zipIdx_cons,aH];unfold nL;by_cases e:p.kind=13
  ·rw[ah e,aS (by exact ak (hp.D.mpr e)),aH,ih]
  ·rw[af e,aX (by rw[bf];exact fun q=>e (hp.D.mp q)),ih]
theorem MX{n:Nw}(R:Right n):(df n).diodes=nL 0 n.c9:=by
 unfold Wh.Net.diodes Wh.Net.ofKind Wh.Net.indexed;exact LS n.c9 0 R.pn
theorem GI{n:Nw}(R:Right n):(df n).diodes=(List.range n.c9.length).filter fun k=>decide ((n.c9.getD k p0).kind=13):=by
 unfold Wh.Net.diodes Wh.Net.ofKind;rw[fG,List.filter_map,aR];have e:((fun(p:Nat×Wh.Elem)=>p.1) ∘ fun k=>(k,dw (n.c9.getD k p0)))=fun k:Nat=>k:=rfl
 rw[e,cT];apply List.filter_congr;intro k hk;have hk:=aW.mp hk;show decide (kindOf (n.c9.getD k p0).kind= .D)=_;rw[decide_eq_decide];exact(R.p hk).D
noncomputable def Jv (n:Nw) (st:List Bool):lJ:=⟨n,[],st,n.c9.map fun p=>(p.top,p.dF)⟩
theorem numAt_eq{n:Nw}(R:Right n){k:Nat}(h:k<n.c9.length):(df n).numAt k=((n.c9.getD k p0).top:Rat) / ((n.c9.getD k p0).dF:Rat):=by
 unfold Wh.Net.numAt;rw[R.elem h];rfl
theorem Ki{n:Nw}(R:Right n){st:List Bool}{r:List Nat}(h:nM 0 n.c9.length st r):lW n (Jv n st) ((df n).rest r):=by
 have dv:∀k,k<n.c9.length->(Jv n st).drives.getD k (0,1)=((n.c9.getD k p0).top,(n.c9.getD k p0).dF):=fun k hk=>by
  show(n.c9.map fun p=>(p.top,p.dF)).getD k (0,1)=_;rw[gDe,gDe,aC,aa hk];rfl
 refine⟨rfl,fun k hk=> ?_,fun k hk _=> ?_,fun k hk _=> ?_⟩
 ·show r.contains k=st.getD k false;exact h.2.2 k (aM _)
 ·rw[dv k hk];exact⟨by have:=(R.p hk).b1;show 0<(n.c9.getD k p0).dF;lia,numAt_eq R hk⟩
 ·rw[dv k hk];exact⟨by have:=(R.p hk).b1;show 0<(n.c9.getD k p0).dF;lia,numAt_eq R hk⟩
theorem v9{n:Nw}(R:Right n){st:List Bool}{r:List Nat}(h:nM 0 n.c9.length st r){src:Int}(h0:0<=src)(hs:AG n src=true):lW n (iw n st src) (Wh.alone r src.toNat):=by
 unfold AG at hs;obtain⟨s1,s2⟩:=(aF _ _).mp hs;have s1:=az s1;have s2:=az s2;unfold kindAt at s2;have dv:∀k,k<n.c9.length->(iw n st src).drives.getD k (0,1)=if(k:Int)=src then(1,1) else(0,1):=fun k hk=>kr _ _ _ _ hk
 refine⟨rfl,fun k hk=> ?_,fun k hk _=> ?_,fun k hk h13=> ?_⟩
 ·show r.contains k=st.getD k false;exact h.2.2 k (aM _)
 ·rw[dv k hk];show _/\(if k=src.toNat then(1:Rat) else 0)=_;by_cases e:(k:Int)=src
  ·rw[ah e,ah (by lia)];exact⟨by decide,by decide +kernel⟩
  ·rw[af e,af (by lia)];exact⟨by decide,by decide +kernel⟩
 ·rw[dv k hk];show _/\(0:Rat)=_;have e:¬(k:Int)=src:=fun e=>by
   have:src.toNat=k:=by lia
   rw[this,h13] at s2;lia
  rw[af e];exact⟨by decide,by decide +kernel⟩
theorem CT(l:dN):(dG l).f 0=((e9 l:Int):Rat):=by
 cases l with
 |nil=>rfl
 |cons a l=>
  rw[fi];show(a:Rat)+0*_=(a:Rat);grind
theorem Tc(L:Wh.Law)(m j:Nat):Dg (Lv (ei j) 0 m L) 1:=by
 unfold Lv;have z:(0:PF)*Rv (ei j) L.byS=0:=by grind
 rw[z];exact((LQ j L.terms).add (xu 1)).add ((OX m j).smul L.right)
theorem AS:∀m,sumNat m (fun _=>0)=0
 |0=>rfl
 |m+1=>by
  show sumNat m _+ 0=0;rw[AS m]
theorem Q5(n:Nw)(G:Wh.Setting):Dg (det (df n).unknowns (Sm n G 0)) 1:=by
 have:=Gr (df n).unknowns (A:=Sm n G 0) (d:=fun _=>0) fun i j _ _=>Tc _ _ _
 rw[AS] at this;exact this
theorem GJ{A:Type} [CommRing A](m:Nat)(F:Nat->Nat->A)(c:Nat)(hc:c<m):det m (fg F c fun _=>0)=0:=nJ m _ c hc fun i _=>g8
section
variable {n:Nw}(R:Right n){g:lJ}{G:Wh.Setting}(S:lW n g G)(hs:g.s=[])
include R S hs
theorem MY:(sol (rows g)=none/\(df n).solved G 0=none)\/∃d tops x,sol (rows g)=some (d,tops)/\(df n).solved G 0=some x/\tops.length=(df n).unknowns/\(∃z,d=[z])/\e9 d≠0/\(det (df n).unknowns (Sm n G 0)).f 0≠0/\∀c,c<(df n).unknowns->((e9 (tops.getD c []):Int):Rat)=x.getD c 0*((e9 d:Int):Rat):=by
 have σ0:dG g.s=0:=by rw[hs];rfl
 have zf:∀x:Rat,(0:PF).f x=0:=fun x=>rfl
 have rl:((df n).rows G 0).length=(df n).unknowns:=by unfold Wh.Net.rows;rw[lMp,iD]
 have rr:∀r∈(df n).rows G 0,r.1.length=(df n).unknowns:=fun r hr=>by
  unfold Wh.Net.rows at hr;obtain⟨L,_,rfl⟩:=aL.mp hr;exact BK _ _ _
 have rmem:∀i,i<(df n).unknowns->(((df n).laws G).getD i L0).row (df n).unknowns 0∈(df n).rows G 0:=fun i hi=>aB (xI n G 0 hi)
 have dotE:∀(i:Nat) (p:Rat) (y:Nat->Rat),dot (df n).unknowns ((((df n).laws G).getD i L0).row (df n).unknowns 0).1 y=eC (df n).unknowns fun j=>(Sm n G 0 i j).f p*y j:=fun i p y=>by
  unfold dot;exact eI _ fun j hj=>by rw[GG _ _ 0 p 0 (zf p) j hj];rfl
 have spec:=Ka rl rr;have sp:=Io R S;rw[σ0] at sp;rcases sp with⟨d,tops,e,tl,td,dn,tt,q,hq,hd,ht⟩ |⟨e,h0,x,⟨j,hj,xj⟩,hx⟩
 ·have dl:d.length<=1:=vY td (c:=1) (by decide) (e:=1) (by
   rw[hd,gz];have:=(Q5 n G).smul q;have e2:(1:PF)*(PF.const q*det (df n).unknowns (Sm n G 0))=PF.const q*det (df n).unknowns (Sm n G 0):=by grind
   rw[e2];exact this)
  obtain⟨z,rfl⟩:∃z,d=[z]:=by
   cases d with
   |nil=>exact absurd rfl dn
   |cons z l=>
    cases l with
    |nil=>exact⟨z,rfl⟩
    |cons y l=>simp at dl
  have z0:e9 [z]≠0:=fB.mp td (by simp);have dd:((e9 [z]:Int):Rat)=q*(det (df n).unknowns (Sm n G 0)).f 0:=by
   rw[<-CT,hd];rfl
  have D0:(det (df n).unknowns (Sm n G 0)).f 0≠0:=fun e=>by
   rw[e] at dd;have:((e9 [z]:Int):Rat)=0:=by rw[dd];grind
   exact z0 (by exact_mod_cast this)
  right;rcases spec with⟨x,sx,xl,hx⟩ |⟨sn,y,⟨j,hj,yj⟩,hy⟩
  ·refine⟨[z],tops,x,e,sx,tl,⟨z,rfl⟩,z0,D0,fun c hc=> ?_⟩;have sat1:=(hx (fun j=>x.getD j 0) 1).mpr fun j _=>by grind
   have eqs:∀i,i<(df n).unknowns->eC (df n).unknowns (fun d=>(Sm n G 0 i d).f 0*x.getD d 0)=(Sm n G 0 i (df n).unknowns).f 0:=fun i hi=>by
    have h1:=sat1 _ (rmem i hi);unfold sat at h1;rw[dotE i 0,Fu _ _ 0 0 0 (Iq R G _ (memD (by rw[iD];exact hi)))] at h1;rw[h1];show 1*(Sm n G 0 i (df n).unknowns).f 0=_;grind
   have cr:=B8 (df n).unknowns (fun i j=>(Sm n G 0 i j).f 0) (fun j=>x.getD j 0) (fun i=>(Sm n G 0 i (df n).unknowns).f 0) c hc eqs;have top:((e9 (tops.getD c []):Int):Rat)=q*det (df n).unknowns (fg (fun i j=>(Sm n G 0 i j).f 0) c fun i=>(Sm n G 0 i (df n).unknowns).f 0):=by
    rw[<-CT,ht c hc];show q*PF.f (det _ _) 0=_;rw[EZ];congr 1;refine eK _ fun i j _ _=> ?_
    show(if j=c then _ else _:PF).f 0=if j=c then _ else _
    split <;>rfl
   rw[top,cr,dd,EZ];grind
  ·exfalso;have cr:=B8 (df n).unknowns (fun i j=>(Sm n G 0 i j).f 0) y (fun _=>0) j hj fun i hi=>by
    rw[<-dotE i 0];exact hy _ (rmem i hi)
   rw[GJ _ _ _ hj,<-EZ] at cr;rcases bY.mp cr.symm with h |h
   ·exact yj h
   ·exact D0 h
 ·left;refine⟨e,?_⟩;rcases spec with⟨x0,sx,xl,hx0⟩ |⟨sn,_⟩
  ·exfalso;obtain⟨N,hN⟩:=PF.BC xj;have hN:=hN N (aj _);have:∀r∈(df n).rows G 0,sat (df n).unknowns (fun d=>(x d).f (N:Rat)) 0 r:=fun r hr=>by
    obtain⟨i,hi,er⟩:=aY hr;have hi2:i<(df n).unknowns:=by lia
    have e2:=xI n G 0 hi2;rw[aa hi,er] at e2;cases e2
    unfold sat;rw[dotE i (N:Rat)];have h2:=hx i hi2;have h3:(eC (df n).unknowns fun d=>Sm n G 0 i d*x d).f (N:Rat)=0:=by rw[h2];rfl
    rw[J2] at h3;rw[show(fun j=>(Sm n G 0 i j).f (N:Rat)*(x j).f (N:Rat))=fun j=>(Sm n G 0 i j*x j).f (N:Rat) from rfl,h3];grind
   have h4:=(hx0 _ 0).mp this j hj;exact hN (by rw[h4];grind)
  ·exact sn
end
theorem Q6(a b:dN):((e9 (uh a b):Int):Rat)=((e9 a:Int):Rat) - ((e9 b:Int):Rat):=by
 rw[<-CT,<-CT,<-CT,qT];rfl
section
variable {n:Nw}(R:Right n){d:dN}{tops:List dN}{x:List Rat}(tl:tops.length=(df n).unknowns)(d0:e9 d≠0)
 (ht:∀c,c<(df n).unknowns->((e9 (tops.getD c []):Int):Rat)=x.getD c 0*((e9 d:Int):Rat))
include R ht
theorem LU{v:Int}(h0:0<=v)(h1:v<=n.last):((e9 (gy (d,tops) v):Int):Rat)=Wh.voltage x v.toNat*((e9 d:Int):Rat):=by
 unfold gy Wh.voltage;by_cases h:0<v
 ·rw[ah h,af (by lia)];have nl:=kx n;have:=ht (v - 1).toNat (by lia);have e:v.toNat - 1=(v - 1).toNat:=by lia
  rw[e];exact this
 ·rw[af h,ah (by lia)];show((0:Int):Rat)=_;push_cast;grind
include tl d0
theorem Fw{st:List Bool}{r:List Nat}(hr:nM 0 n.c9.length st r){k:Nat}(hk:k<n.c9.length)(h13:(n.c9.getD k p0).kind=13):
  vW (Jv n st) (d,tops) k=if r.contains k=true then decide (0<=((df n).quantity 1 k x).getD 0) else decide (((df n).quantity 2 k x).getD 0<=(df n).numAt k):=by
 have pp:=R.p hk;have hD:=pp.D.mpr h13;have hM:¬(dw (n.c9.getD k p0)).kind= .M:=fun e=>by rw[jJ,hD] at e;cases e
 obtain⟨n0,n1⟩:=gj hD (.inl rfl);have ab:=R.ab hk (by lia);have dr:((e9 d:Int):Rat)≠0:=fun e=>d0 (by exact_mod_cast e)
 have dd:0<((e9 d:Int):Rat)*((e9 d:Int):Rat):=by
  have h1:(0:Int)<e9 d*e9 d:=by
   rcases Int.lt_or_gt_of_ne d0 with h |h
   ·exact cW h h
   ·exact Int.mul_pos h h
  have h2:(0:Rat)<((e9 d*e9 d:Int):Rat):=by exact_mod_cast h1
  push_cast at h2;exact h2
 have q1:((df n).quantity 1 k x).getD 0=x.getD ((df n).at_ k) 0:=by
  unfold Wh.Net.quantity;rw[af (by decide),R.elem hk];dsimp only;rw[af hM,ah rfl];rfl
 have q2:((df n).quantity 2 k x).getD 0=Wh.voltage x (n.c9.getD k p0).a.toNat - Wh.voltage x (n.c9.getD k p0).b.toNat:=by
  unfold Wh.Net.quantity;rw[af (by decide),R.elem hk];dsimp only;rw[af hM,af (by decide),ah rfl,n0,n1];rfl
 rw[q1,q2,numAt_eq R hk,hr.2.2 k (aM _)];unfold vW;dsimp only;show(if st.getD k false=true then decide (0<=e9 (oh (Jv n st) (d,tops) k)*e9 d) else decide (e9 (pP (Jv n st) (d,tops) k)*e9 d*(n.c9.getD k p0).dF<=(n.c9.getD k p0).top*e9 d*e9 d))=if st.getD k false=true then _ else _
 by_cases hb:st.getD k false=true
 ·rw[ah hb,ah hb,decide_eq_decide];have c1:((e9 (oh (Jv n st) (d,tops) k):Int):Rat)=x.getD ((df n).at_ k) 0*((e9 d:Int):Rat):=by
   unfold oh;show((e9 (tops.getD ((places n).getD k 0).toNat []):Int):Rat)=_;rw[R.place hk,bb];exact ht _ (xH R hk (by lia))
  have c2:(0<=e9 (oh (Jv n st) (d,tops) k)*e9 d)↔(0:Rat)<=((e9 (oh (Jv n st) (d,tops) k):Int):Rat)*((e9 d:Int):Rat):=by
   constructor
   ·intro h;have:(0:Rat)<=((e9 (oh (Jv n st) (d,tops) k)*e9 d:Int):Rat):=by exact_mod_cast h
    push_cast at this;exact this
   ·intro h;have:(0:Rat)<=((e9 (oh (Jv n st) (d,tops) k)*e9 d:Int):Rat):=by push_cast;exact h
    exact_mod_cast this
  rw[c2,c1];have e:x.getD ((df n).at_ k) 0*((e9 d:Int):Rat)*((e9 d:Int):Rat)=x.getD ((df n).at_ k) 0*(((e9 d:Int):Rat)*((e9 d:Int):Rat)):=by grind
  rw[e];constructor
  ·intro h;refine Rat.le_of_mul_le_mul_right (c:=((e9 d:Int):Rat)*((e9 d:Int):Rat)) ?_ dd;rw[Rat.zero_mul];exact h
  ·intro h;exact Rat.mul_nonneg h (Rat.le_of_lt dd)
 ·rw[af hb,af hb,decide_eq_decide];have c1:((e9 (pP (Jv n st) (d,tops) k):Int):Rat)=(Wh.voltage x (n.c9.getD k p0).a.toNat - Wh.voltage x (n.c9.getD k p0).b.toNat)*((e9 d:Int):Rat):=by
   unfold pP jl;rw[Q6];show((e9 (gy (d,tops) (n.c9.getD k p0).a):Int):Rat) - ((e9 (gy (d,tops) (n.c9.getD k p0).b):Int):Rat)=_;rw[LU R ht pp.a0 ab.1,LU R ht pp.b0 ab.2];grind
  have bp:(0:Rat)<((n.c9.getD k p0).dF:Rat):=j3 (by have:=pp.b1;lia);generalize (Wh.voltage x (n.c9.getD k p0).a.toNat - Wh.voltage x (n.c9.getD k p0).b.toNat)=v at c1⊢;generalize e9 (pP (Jv n st) (d,tops) k)=u at c1⊢;generalize n.c9.getD k p0=p at bp⊢;have c2:(u*e9 d*p.dF<=p.top*e9 d*e9 d)↔((u:Int):Rat)*((e9 d:Int):Rat)*(p.dF:Rat)<=(p.top:Rat)*((e9 d:Int):Rat)*((e9 d:Int):Rat):=by
   constructor
   ·intro h;have:((u*e9 d*p.dF:Int):Rat)<=((p.top*e9 d*e9 d:Int):Rat):=by exact_mod_cast h
    push_cast at this;exact this
   ·intro h;have:((u*e9 d*p.dF:Int):Rat)<=((p.top*e9 d*e9 d:Int):Rat):=by push_cast;exact h
    exact_mod_cast this
  rw[c2,c1];have pos:=Rat.mul_pos dd bp;have e1:v*((e9 d:Int):Rat)*((e9 d:Int):Rat)*(p.dF:Rat)=v*(((e9 d:Int):Rat)*((e9 d:Int):Rat)*(p.dF:Rat)):=by grind
  have e2:(p.top:Rat)*((e9 d:Int):Rat)*((e9 d:Int):Rat)=(p.top:Rat) / (p.dF:Rat)*(((e9 d:Int):Rat)*((e9 d:Int):Rat)*(p.dF:Rat)):=by grind
  rw[e1,e2];exact⟨fun h=>Rat.le_of_mul_le_mul_right h pos,fun h=>Rat.mul_le_mul_of_nonneg_right h (Rat.le_of_lt pos)⟩
theorem Q7{st:List Bool}{r:List Nat}(hr:nM 0 n.c9.length st r):jv (Jv n st) (d,tops)=(df n).fits r x:=by
 unfold jv Wh.Net.fits;rw[GI R];show((List.range n.c9.length).filter fun k=>decide ((n.c9.getD k p0).kind=13)).all _=_;rw[a4,bc,bc];constructor
 ·intro h k hk;obtain⟨hk1,hk2⟩:=bV.mp hk;rw[<-Fw R tl d0 ht hr (aW.mp hk1) (az hk2)];exact h k hk
 ·intro h k hk;obtain⟨hk1,hk2⟩:=bV.mp hk;rw[Fw R tl d0 ht hr (aW.mp hk1) (az hk2)];exact h k hk
end
noncomputable def Iw (n:Nw):Option (List Bool×(dN×List dN))->Option (Wh.States×List Rat)->Prop
 |none,none=>True
 |some p,some q=>(p.1∈eW n.c9 [[]]/\e9 p.2.1≠0/\p.2.2.length=(df n).unknowns/\∀c,c<(df n).unknowns->((e9 (p.2.2.getD c []):Int):Rat)=q.2.getD c 0*((e9 p.2.1:Int):Rat))/\nM 0 n.c9.length p.1 q.1/\(det (df n).unknowns (Sm n ((df n).rest q.1) 0)).f 0≠0
 |_,_=>False
theorem AU{n:Nw}(R:Right n):∀{sts:List (List Bool)} {rs:List Wh.States},Al (nM 0 n.c9.length) sts rs->(∀st∈sts,st∈eW n.c9 [[]])->
  Iw n (mH n sts) (rs.findSome? fun(r:Wh.States)=>match(df n).solved ((df n).rest r) 0 with
   |none=>none
   |some x=>if(df n).fits r x=true then some (r,x) else none)
 |_,_,.nil,_=>trivial
 |st::sts,r::rs,.cons h t,hm=>by
  have ih:=AU R t fun s hs=>hm s (ao _ hs)
  rw[List.findSome?_cons];have e:mH n (st::sts)=match sol (rows (Jv n st)) with
   |none=>mH n sts
   |some s=>if jv (Jv n st) s=true then some (st,s) else mH n sts:=rfl
  rw[e];rcases MY R (Ki R h) rfl with⟨e1,e2⟩ |⟨d,tops,x,e1,e2,tl,_,d0,D0,ht⟩
  ·rw[e1,e2];exact ih
  ·rw[e1,e2];dsimp only;rw[Q7 R tl d0 ht h];by_cases hf:(df n).fits r x=true
   ·rw[ah hf,ah hf];exact⟨⟨hm st ax,d0,tl,ht⟩,h,D0⟩
   ·rw[af hf,af hf];exact ih
theorem zG{n:Nw}(R:Right n):Iw n (point n) (df n).point:=by
 unfold point Wh.Net.point;have e:eW n.c9 [[]]=ot n.c9:=AR _;refine AU R (rs:=Wh.rowsOf (df n).diodes) ?_ fun st h=>h
 rw[e,MX R];exact zF n.c9 0
theorem Fx:∀(f:Nat) (l:List Int),l.length<=f->WhB.sevens f l=(List.range ((l.length+6) / 7)).map fun i=>(l.drop (7*i)).take 7
 |0,l,h=>by
  have:l=[]:=bg.mp (by lia);subst this;rfl
 |f+1,l,h=>by
  unfold WhB.sevens;by_cases e:l.isEmpty=true
  ·rw[ah e];have:l=[]:=cU.mp e;subst this;rfl
  ·rw[af e];have hl:0<l.length:=by
    cases l with
    |nil=>exact absurd rfl e
    |cons=>simp
   rw[Fx f (l.drop 7) (by rw[bE];lia),bE];have e2:(l.length+6) / 7=(l.length - 7+6) / 7+1:=by lia
   rw[e2,List.range_succ_eq_map,aH,aR];congr 1;apply aU;intro i _;show((l.drop 7).drop (7*i)).take 7=(l.drop (7*(i+1))).take 7;rw[List.drop_drop];congr 2;lia
theorem AV(l:List Int):WhB.sevens l.length (l.drop 1)=dM l:=by
 rw[Fx l.length (l.drop 1) (by rw[bE];lia),bE];unfold dM;apply aU;intro i _;rw[List.drop_drop]
theorem ou(l:List Int)(h:l.length % 7=1):∀r∈dM l,r.length=7:=fun r hr=>by
 unfold dM at hr;obtain⟨i,hi,rfl⟩:=aL.mp hr;have hi:=aW.mp hi;rw[aD,bE];lia
theorem OZ{r:List Int}(h:r.length=7):WhB.sevenOk r=iu r:=by
 match r,h with
 |[a,b,c,d,e,f,g],_=>
  rw[a4];unfold WhB.sevenOk iu WhB.small WhB.NUMBER;simp
  (first |lia |omega)
theorem Iy(r:List Int):r.headD 0=r.getD 0 0:=by cases r <;>rfl
theorem CU{α:Type}{p q:α->Bool}:∀{l:List α},(∀x∈l,p x=q x)->l.all p=l.all q
 |[],_=>rfl
 |x::l,h=>by
  rw[List.all_cons,List.all_cons,h x ax,CU fun y hy=>h y (ao _ hy)]
theorem Td(l:List Int):WhB.rowOk l=nA l:=by
 unfold WhB.rowOk nA;rw[AV];have fe:((dM l).filter fun(x:List Int)=>x.headD 0==13)=(dM l).filter fun r=>decide (r.getD 0 0=13):=by
  apply List.filter_congr;intro r _;rw[Iy,a4];simp
 rw[fe];have pl:(dM l).length=(l.length - 1+6) / 7:=by unfold dM;simp
 by_cases h0:l.length=0\/¬(1<=l.headD 0/\l.headD 0<=8)
 ·rw[ah h0,Bool.eq_false_iff];intro q;obtain⟨_,q⟩:=(aF _ _).mp q;obtain⟨q1,q⟩:=(aF _ _).mp q;obtain⟨q2,q⟩:=(aF _ _).mp q;obtain⟨q3,q⟩:=(aF _ _).mp q;have q1:=az q1;have q2:=az q2;have q3:l.headD 0<=((8:Nat):Int):=az q3;rcases h0 with h |h
  ·lia
  ·exact h ⟨q2,by lia⟩
 rw[af h0];have hh:1<=l.headD 0/\l.headD 0<=8:=cz fun q=>h0 (.inr q)
 have hl:¬l.length=0:=fun q=>h0 (.inl q)
 by_cases h1:(l.length - 1) % 7=0
 rotate_left
 ·rw[ah h1,Bool.eq_false_iff];intro q;obtain⟨_,q⟩:=(aF _ _).mp q;obtain⟨q1,q⟩:=(aF _ _).mp q;have q1:=az q1;lia
 rw[af (fun q=>q h1)];have h7:l.length % 7=1:=by lia
 by_cases h2:10<(dM l).length
 ·rw[ah h2,Bool.eq_false_iff];intro q;obtain⟨_,q⟩:=(aF _ _).mp q;obtain⟨_,q⟩:=(aF _ _).mp q;obtain⟨_,q⟩:=(aF _ _).mp q;obtain⟨_,q⟩:=(aF _ _).mp q;obtain⟨q4,q⟩:=(aF _ _).mp q;have q4:=az q4;lia
 rw[af h2];have ae:(dM l).all WhB.sevenOk=(dM l).all iu:=CU fun r hr=>OZ (ou l h7 r hr)
 rw[ae,ak h7,ak hh.1,ak (show l.headD 0<=((Wh.NODES:Nat):Int) from hh.2),ak (show l.length<=7*10+1 by lia)];by_cases h3:(dM l).all iu=true
 ·rw[af (fun q=>q h3),h3];show(_&&true)=_;rw[Bool.and_true];rfl
 ·rw[ah h3,show(dM l).all iu=false by simpa using h3];show(_&&false)=false;rw[Bool.and_false]
theorem Q8{r:List Int}(h:r.length=7):WhB.elemIn r=dw (Part.of r):=by
 unfold WhB.elemIn dw Part.of kindOf;have e:r.getD 6 1=r.getD 6 0:=by
  rw[gDe,gDe,aa (by lia)];rfl
 rw[e]
theorem Te{l:List Int}(h:l.length % 7=1):WhB.netIn l=df (fb l):=by
 unfold WhB.netIn df fb;rw[AV];dsimp only;rw[aR];congr 1;apply aU;intro r hr;exact Q8 (ou l h r hr)
theorem Q9{r:List Int}(h:iu r=true)(h7:r.length=7):Pn (Part.of r):=by
 unfold iu at h;by_cases h0:0<=r.getD 0 0/\r.getD 0 0<=13
 rotate_left
 ·rw[ah h0] at h;cases h
 rw[af (fun q=>q h0)] at h;by_cases h1:((r.drop 1).take 4).all (fun p=>decide (0<=p/\p<=63))=true
 rotate_left
 ·rw[ah h1] at h;cases h
 rw[af (fun q=>q h1)] at h;obtain⟨h2,h3⟩:=(aF _ _).mp h;have h2:=az h2;have h3:=az h3;match r,h7 with
 |[a,b,d,e,f,g,k],_=>
  have q:=bc.mp h1;have q1:=az (q b (by simp));have q2:=az (q d (by simp));have q3:=az (q e (by simp));have q4:=az (q f (by simp));exact⟨h0.1,h0.2,q1.1,q2.1,q3.1,q4.1,h2,h3.1,h3.2⟩
structure V7(l:List Int):Prop where
 m7:l.length % 7=1
 l1:1<=(fb l).last
 l8:(fb l).last<=8
 c9:(fb l).c9.length<=10
 pn:∀p∈(fb l).c9,Pn p
theorem O0{l:List Int}(h:nA l=true):V7 l:=by
 unfold nA at h;by_cases h0:l.length=0\/¬(1<=l.headD 0/\l.headD 0<=8)
 ·rw[ah h0] at h;cases h
 rw[af h0] at h;by_cases h1:(l.length - 1) % 7=0
 rotate_left
 ·rw[ah h1] at h;cases h
 rw[af (fun q=>q h1)] at h;by_cases h2:10<(dM l).length
 ·rw[ah h2] at h;cases h
 rw[af h2] at h;by_cases h3:(dM l).all iu=true
 rotate_left
 ·rw[ah h3] at h;cases h
 have hh:1<=l.headD 0/\l.headD 0<=8:=cz fun q=>h0 (.inr q)
 have hl:¬l.length=0:=fun q=>h0 (.inl q)
 have h7:l.length % 7=1:=by lia
 refine⟨h7,hh.1,hh.2,?_,fun p hp=> ?_⟩
 ·show((dM l).map Part.of).length<=10;rw[lMp];lia
 ·obtain⟨r,hr,rfl⟩:=aL.mp (show p∈(dM l).map Part.of from hp);exact Q9 (bc.mp h3 r hr) (ou l h7 r hr)
theorem Kj{a b c d:Int}(hb:0<b)(hd:0<d):((a:Rat) / (b:Rat)<(c:Rat) / (d:Rat))↔a*d<c*b:=by
 have b':=j3 hb;have d':=j3 hd;have p:=Rat.mul_pos b' d';have e1:(a:Rat) / (b:Rat)*((b:Rat)*(d:Rat))=((a*d:Int):Rat):=by push_cast;grind
 have e2:(c:Rat) / (d:Rat)*((b:Rat)*(d:Rat))=((c*b:Int):Rat):=by push_cast;grind
 rw[<-Rat.mul_lt_mul_right p,e1,e2];constructor
 ·intro h;exact_mod_cast h
 ·intro h;exact_mod_cast h
theorem div_eq{a b c d:Int}(hb:0<b)(hd:0<d):((a:Rat) / (b:Rat)=(c:Rat) / (d:Rat))↔a*d=c*b:=by
 have b':=j3 hb;have d':=j3 hd;constructor
 ·intro h;have:((a*d:Int):Rat)=((c*b:Int):Rat):=by push_cast;grind
  exact_mod_cast this
 ·intro h;have:((a*d:Int):Rat)=((c*b:Int):Rat):=by exact_mod_cast h
  push_cast at this;grind
section
variable {n:Nw}(hl:0<=n.last)(pn:∀p∈n.c9,Pn p)
theorem U0{p:Part}(h:Pn p):(0<(p.top:Rat) / (p.dF:Rat))↔0<p.top:=by
 have:=Kj (a:=0) (b:=1) (c:=p.top) (d:=p.dF) (by decide) (by have:=h.b1;lia);have e:((0:Int):Rat) / ((1:Int):Rat)=0:=by decide +kernel
 rw[e] at this;rw[this];lia
theorem Tf{p:Part}(h:Pn p):((p.top:Rat) / (p.dF:Rat)=0)↔p.top=0:=by
 have:=div_eq (a:=p.top) (b:=p.dF) (c:=0) (d:=1) (by have:=h.b1;lia) (by decide);have e:((0:Int):Rat) / ((1:Int):Rat)=0:=by decide +kernel
 rw[e] at this;rw[this];lia
theorem U1{p:Part}(h:Pn p):((p.top:Rat) / (p.dF:Rat)=1)↔p.top=p.dF:=by
 have:=div_eq (a:=p.top) (b:=p.dF) (c:=1) (d:=1) (by have:=h.b1;lia) (by decide);have e:((1:Int):Rat) / ((1:Int):Rat)=1:=by decide +kernel
 rw[e] at this;rw[this];lia
theorem O1{p:Part}(h:Pn p):(0<=(p.top:Rat) / (p.dF:Rat))↔0<=p.top:=by
 have:=Kj (a:=p.top) (b:=p.dF) (c:=0) (d:=1) (by have:=h.b1;lia) (by decide);have e:((0:Int):Rat) / ((1:Int):Rat)=0:=by decide +kernel
 rw[e] at this;rw[<-Rat.not_lt,this];lia
theorem Tg{p:Part}(h:Pn p):Wh.mayHave (kindOf p.kind) ((p.top:Rat) / (p.dF:Rat))=lO p:=by
 have k:=iC h.k0 h.k1;obtain⟨kM,kT,kD,kV,kI,kL,kC,kH,kF,kS,kO,kE,kG,kR⟩:=k;unfold Wh.mayHave lO;simp only[kM,kT,kD,kV,kI,kL,kC,kH,kF,kS,kO,kE,kG,kR];have qp:=U0 h;have qz:=Tf h;have qo:=U1 h;have qn:=O1 h;simp only[qp,qz,qo,qn,ne_eq];rcases oq h.k0 h.k1 with e |e |e |e |e |e |e |e |e |e |e |e |e |e <;>simp[e]
theorem O2{p:Part}(h:Pn p)(hl:0<=n.last):(dw p).nodes.any (fun(v:Nat)=>decide ((df n).nodes<v))=(gG p).any (fun v=>decide (n.last<v)):=by
 have k:=iC h.k0 h.k1;obtain⟨kM,kT,kD,kV,kI,kL,kC,kH,kF,kS,kO,kE,kG,kR⟩:=k;have dv:∀v:Int,0<=v->decide ((df n).nodes<v.toNat)=decide (n.last<v):=fun v h0=>by
  show decide (n.last.toNat<v.toNat)=_;rw[decide_eq_decide];lia
 unfold dw gG Wh.nodeCount;dsimp only;simp only[kM,kE,kG,kT,kO];by_cases h3:p.kind=3
 ·simp[h3]
 ·simp only[h3,if_false];by_cases h4:p.kind=6\/p.kind=7\/p.kind=10\/p.kind=11
  ·simp only[h4,if_true];show[p.a.toNat,p.b.toNat,p.c.toNat,p.d.toNat].any _=_;simp only[cq,List.any_nil,dv _ h.a0,dv _ h.b0,dv _ h.c0,dv _ h.d0]
  ·simp only[h4,if_false];show[p.a.toNat,p.b.toNat].any _=_;simp only[cq,List.any_nil,dv _ h.a0,dv _ h.b0]
include pn
theorem LV{i:Int}(h0:0<=i)(h1:i<n.c9.length):(df n).kindAt i.toNat=some (kindOf (kindAt n.c9 i))/\0<=kindAt n.c9 i/\kindAt n.c9 i<=13:=by
 have hi:i.toNat<n.c9.length:=by lia
 have pp:=pn _ (memD (d:=p0) hi);unfold Wh.Net.kindAt kindAt;show((n.c9.map dw)[i.toNat]?).map _=_/\_;rw[aC,gDe,aa hi];rw[gDe,aa hi] at pp;exact⟨rfl,pp.k0,pp.k1⟩
theorem LW{k:Nat}(hk:k<=n.c9.length){i:Int}(h0:0<=i):(decide (k<=i.toNat) ||(df n).kindAt i.toNat !=some .L)= !dU n.c9 i k:=by
 unfold dU;by_cases h:i<k
 ·obtain⟨e,e0,e1⟩:=LV pn h0 (show i<n.c9.length by lia);rw[e,ak h,aq (show ¬k<=i.toNat by lia)];have kL:=(iC e0 e1).2.2.2.2.2.1;rw[Bool.false_or,Bool.true_and];by_cases q:kindAt n.c9 i=2
  ·rw[ak q,kL.mpr q];rfl
  ·rw[aq q];have:¬kindOf (kindAt n.c9 i)= .L:=fun z=>q (kL.mp z)
   simpa using this
 ·rw[aq h,ak (show k<=i.toNat by lia)];rfl
theorem Th{k:Nat}(hk:k<=n.c9.length){i:Int}(h0:0<=i):(decide (k<=i.toNat) ||(df n).kindAt i.toNat==some .M)= !(decide (i<k)&&decide (kindAt n.c9 i≠3)):=by
 by_cases h:i<k
 ·obtain⟨e,e0,e1⟩:=LV pn h0 (show i<n.c9.length by lia);rw[e,ak h,aq (show ¬k<=i.toNat by lia)];have kM:=(iC e0 e1).1;rw[Bool.false_or,Bool.true_and];by_cases q:kindAt n.c9 i=3
  ·rw[aq (fun z=>z q),kM.mpr q];rfl
  ·rw[ak (show kindAt n.c9 i≠3 from q)];have:¬kindOf (kindAt n.c9 i)= .M:=fun z=>q (kM.mp z)
   simpa using this
 ·rw[aq h,ak (show k<=i.toNat by lia)];rfl
omit pn in
theorem CV{p q:Part}(hp:Pn p)(hq:Pn q)(h3:p.kind=3):(decide ((dw q).kind= .M)&&((dw q).refs==(dw p).refs ||(dw q).refs==(dw p).refs.reverse))=jj q p.a p.b:=by
 have rp:(dw p).refs=[p.a.toNat,p.b.toNat]:=by
  unfold dw;dsimp only;rw[ah (hp.M.mpr h3)]
 unfold jj;by_cases hk:q.kind=3
 ·have rq:(dw q).refs=[q.a.toNat,q.b.toNat]:=by
   unfold dw;dsimp only;rw[ah (hq.M.mpr hk)]
  rw[af (fun z=>z hk),rp,rq,ak (show(dw q).kind= .M from hq.M.mpr hk)];have:=hp.a0;have:=hp.b0;have:=hq.a0;have:=hq.b0;rw[a4];simp;lia
 ·rw[ah hk,aq (show ¬(dw q).kind= .M from fun z=>hk (hq.M.mp z))];rfl
theorem O3(hl:0<=n.last){k:Nat}(hk:k<n.c9.length):gH n k=(((df n).wrongAt k (dw (n.c9.getD k p0)):Nat):Int):=by
 have pp:=pn _ (memD (d:=p0) hk);unfold gH Wh.Net.wrongAt;dsimp only;rw[O2 pp hl,jJ,GA,Tg pp];by_cases h1:(gG (n.c9.getD k p0)).any (fun v=>decide (n.last<v))=true
 ·rw[ah h1,ah h1];rfl
 rw[af h1,af h1];by_cases h2:lO (n.c9.getD k p0)=false
 ·rw[ah h2,ah h2];rfl
 rw[af h2,af h2];by_cases h3:(n.c9.getD k p0).kind=3
 ·have mf:fF n.c9 k=true:=by
   unfold fF;dsimp only;rw[ah (by lia)]
  rw[af (by rw[mf];simp),ah h3,ah (pp.M.mpr h3)];unfold lQ;dsimp only;have rp:(dw (n.c9.getD k p0)).refs=[(n.c9.getD k p0).a.toNat,(n.c9.getD k p0).b.toNat]:=by
   unfold dw;dsimp only;rw[ah (pp.M.mpr h3)]
  have anyT:((df n).elems.take k).any (fun(y:Wh.Elem)=>decide (y.kind= .M)&&(y.refs==(dw (n.c9.getD k p0)).refs ||y.refs==(dw (n.c9.getD k p0)).refs.reverse))=(n.c9.take k).any (fun q=>jj q (n.c9.getD k p0).a (n.c9.getD k p0).b):=by
   show((n.c9.map dw).take k).any _=_;rw[<-List.map_take,List.any_map];rw[a4,bK,bK];constructor
   ·rintro⟨q,hq,e⟩;refine⟨q,hq,?_⟩;rw[<-CV pp (pn q (List.mem_of_mem_take hq)) h3];exact e
   ·rintro⟨q,hq,e⟩;refine⟨q,hq,?_⟩;rw[<-CV pp (pn q (List.mem_of_mem_take hq)) h3] at e;exact e
  rw[anyT,rp];have anyR:[(n.c9.getD k p0).a.toNat,(n.c9.getD k p0).b.toNat].any (fun(a:Nat)=>decide (k<=a) ||(df n).kindAt a !=some .L)=(!dU n.c9 (n.c9.getD k p0).a k || !dU n.c9 (n.c9.getD k p0).b k):=by
   rw[cq,cq,List.any_nil,LW pn (b7 hk) pp.a0,LW pn (b7 hk) pp.b0,Bool.or_false]
  rw[anyR];show _=(((if(!dU n.c9 (n.c9.getD k p0).a k || !dU n.c9 (n.c9.getD k p0).b k)=true\/(n.c9.getD k p0).a.toNat=(n.c9.getD k p0).b.toNat\/((n.c9.take k).any fun q=>jj q (n.c9.getD k p0).a (n.c9.getD k p0).b)=true then 3 else if(df n).numAt (n.c9.getD k p0).a.toNat*(df n).numAt (n.c9.getD k p0).b.toNat<((n.c9.getD k p0).top:Rat) / ((n.c9.getD k p0).dF:Rat)*(((n.c9.getD k p0).top:Rat) / ((n.c9.getD k p0).dF:Rat)) then 2 else 0:Nat)):Int);have abI:(n.c9.getD k p0).a.toNat=(n.c9.getD k p0).b.toNat↔(n.c9.getD k p0).a=(n.c9.getD k p0).b:=by
   have:=pp.a0;have:=pp.b0;lia
  by_cases q1:(n.c9.getD k p0).a=(n.c9.getD k p0).b
  ·rw[ah (Or.inl q1),ah (Or.inr (Or.inl (abI.mpr q1)))];rfl
  cases q2:dU n.c9 (n.c9.getD k p0).a k with
  |false=>rw[ah (Or.inr (Or.inl rfl)),ah (.inl rfl)];rfl
  |true=>
  cases q3:dU n.c9 (n.c9.getD k p0).b k with
  |false=>rw[ah (Or.inr (Or.inr rfl)),ah (.inl rfl)];rfl
  |true=>
  rw[af (by rintro(h |h |h) <;>first |exact q1 h |cases h)];by_cases q4:(n.c9.take k).any (fun q=>jj q (n.c9.getD k p0).a (n.c9.getD k p0).b)=true
  ·rw[ah q4,ah (Or.inr (Or.inr q4))];rfl
  have nB:¬((!true || !true)=true\/(n.c9.getD k p0).a.toNat=(n.c9.getD k p0).b.toNat\/(n.c9.take k).any (fun q=>jj q (n.c9.getD k p0).a (n.c9.getD k p0).b)=true):=by
   rintro(h |h |h)
   ·cases h
   ·exact q1 (abI.mp h)
   ·exact q4 h
  rw[af q4,af nB];have lta:(n.c9.getD k p0).a<k:=by
   unfold dU at q2;exact az ((aF _ _).mp q2).1
  have ltb:(n.c9.getD k p0).b<k:=by
   unfold dU at q3;exact az ((aF _ _).mp q3).1
  have a0:=pp.a0;have b0:=pp.b0;have na:∀i:Nat,i<n.c9.length->(df n).numAt i=((n.c9.getD i p0).top:Rat) / ((n.c9.getD i p0).dF:Rat):=fun i hi=>by
   unfold Wh.Net.numAt;show(((n.c9.map dw)[i]?).map _).getD 0=_;rw[aC,gDe,aa hi];rfl
  rw[na _ (by lia),na _ (by lia)];have pa:=pn _ (memD (d:=p0) (show(n.c9.getD k p0).a.toNat<n.c9.length by lia));have pb:=pn _ (memD (d:=p0) (show(n.c9.getD k p0).b.toNat<n.c9.length by lia));have tm:tooMuch (n.c9.getD k p0) (n.c9.getD (n.c9.getD k p0).a.toNat p0) (n.c9.getD (n.c9.getD k p0).b.toNat p0)=true↔((n.c9.getD (n.c9.getD k p0).a.toNat p0).top:Rat) / ((n.c9.getD (n.c9.getD k p0).a.toNat p0).dF:Rat)*(((n.c9.getD (n.c9.getD k p0).b.toNat p0).top:Rat) / ((n.c9.getD (n.c9.getD k p0).b.toNat p0).dF:Rat))<((n.c9.getD k p0).top:Rat) / ((n.c9.getD k p0).dF:Rat)*(((n.c9.getD k p0).top:Rat) / ((n.c9.getD k p0).dF:Rat)):=by
   generalize n.c9.getD (n.c9.getD k p0).a.toNat p0=u at pa⊢;generalize n.c9.getD (n.c9.getD k p0).b.toNat p0=v at pb⊢;generalize n.c9.getD k p0=c at pp⊢;have u1:=pa.b1;have v1:=pb.b1;have c1:=pp.b1;unfold tooMuch;rw[bf];have up:=j3 (show 0<u.dF by lia);have vp:=j3 (show 0<v.dF by lia);have cp:=j3 (show 0<c.dF by lia);have e1:(u.top:Rat) / (u.dF:Rat)*((v.top:Rat) / (v.dF:Rat))=((u.top*v.top:Int):Rat) / ((u.dF*v.dF:Int):Rat):=by push_cast;grind
   have e2:(c.top:Rat) / (c.dF:Rat)*((c.top:Rat) / (c.dF:Rat))=((c.top*c.top:Int):Rat) / ((c.dF*c.dF:Int):Rat):=by push_cast;grind
   rw[e1,e2,Kj (Int.mul_pos (by lia) (by lia)) (Int.mul_pos (by lia) (by lia)),<-Int.mul_assoc,<-Int.mul_assoc]
  by_cases q5:tooMuch (n.c9.getD k p0) (n.c9.getD (n.c9.getD k p0).a.toNat p0) (n.c9.getD (n.c9.getD k p0).b.toNat p0)=true
  ·rw[ah q5,ah (tm.mp q5)];rfl
  ·rw[af q5,af (fun z=>q5 (tm.mpr z))];rfl
 ·rw[af (fun e=>h3 (pp.M.mp e))];have kH:=(iC pp.k0 pp.k1).2.2.2.2.2.2.2.1;have kF:=(iC pp.k0 pp.k1).2.2.2.2.2.2.2.2.1;by_cases h4:(n.c9.getD k p0).kind=8\/(n.c9.getD k p0).kind=9
  ·have rc:Wh.refCount (kindOf (n.c9.getD k p0).kind)=1:=by
    unfold Wh.refCount;rw[af (fun e=>h3 (pp.M.mp e)),ah (h4.imp kH.mpr kF.mpr)]
   have rp:(dw (n.c9.getD k p0)).refs=[(n.c9.getD k p0).c.toNat]:=by
    unfold dw;dsimp only;rw[af (fun e=>h3 (pp.M.mp e)),ah rc]
   have mf:fF n.c9 k=(decide ((n.c9.getD k p0).c<(k:Int))&&decide (kindAt n.c9 (n.c9.getD k p0).c≠3)):=by
    unfold fF;dsimp only;rw[af (fun q=>q h4)]
   rw[rp,cq,List.any_nil,Bool.or_false,Th pn (b7 hk) pp.c0,mf];cases q:(decide ((n.c9.getD k p0).c<(k:Int))&&decide (kindAt n.c9 (n.c9.getD k p0).c≠3)) with
   |false=>rfl
   |true=>
    rw[af (by simp),af h3];rfl
  ·have rc:Wh.refCount (kindOf (n.c9.getD k p0).kind)=0:=by
    unfold Wh.refCount;rw[af (fun e=>h3 (pp.M.mp e)),af (fun z=>h4 (z.imp kH.mp kF.mp))]
   have rp:(dw (n.c9.getD k p0)).refs=[]:=by
    unfold dw;dsimp only;rw[af (fun e=>h3 (pp.M.mp e)),af (by rw[rc];decide)]
   have mf:fF n.c9 k=true:=by
    unfold fF;dsimp only;rw[ah h4]
   rw[rp,mf,af (by simp),af h3];rfl
noncomputable def tell:Option (Nat×Nat)->List Int
 |none=>[]
 |some x=>[(x.1:Int),(x.2:Int)]
theorem O4(hl:0<=n.last):fault n=tell (df n).wrong:=by
 unfold Wh.Net.wrong;rw[fG,List.findSome?_map];have key:∀f,f<=n.c9.length->jk n f=tell (((List.range n.c9.length).drop (n.c9.length - f)).findSome? ((fun(p:Nat×Wh.Elem)=>if(df n).wrongAt p.1 p.2=0 then none else some (p.1,(df n).wrongAt p.1 p.2)) ∘ fun k=>(k,dw (n.c9.getD k p0)))):=by
  intro f;induction f with
  |zero=>
   intro _;rw[Nat.sub_zero,List.drop_of_length_le (by simp)];rfl
  |succ f ih=>
   intro hf;have ih:=ih (by lia);have hk:n.c9.length - (f+1)<n.c9.length:=by lia
   have e:(List.range n.c9.length).drop (n.c9.length - (f+1))=(n.c9.length - (f+1))::(List.range n.c9.length).drop (n.c9.length - f):=by
    rw[cV (by rw[bH];exact hk),List.getElem_range];congr 2;lia
   rw[e,List.findSome?_cons];unfold jk;dsimp only;rw[O3 pn hl hk];have e3:((fun(p:Nat×Wh.Elem)=>if(df n).wrongAt p.1 p.2=0 then none else some (p.1,(df n).wrongAt p.1 p.2)) ∘ fun k=>(k,dw (n.c9.getD k p0))) (n.c9.length - (f+1))=if(df n).wrongAt (n.c9.length - (f+1)) (dw (n.c9.getD (n.c9.length - (f+1)) p0))=0 then none else some (n.c9.length - (f+1),(df n).wrongAt (n.c9.length - (f+1)) (dw (n.c9.getD (n.c9.length - (f+1)) p0))):=rfl
   rw[e3];by_cases q:(df n).wrongAt (n.c9.length - (f+1)) (dw (n.c9.getD (n.c9.length - (f+1)) p0))=0
   ·rw[ah q,af (by rw[q];simp),ih]
   ·rw[af q,ah (by lia)];rfl
 have:=key n.c9.length (aj _);rw[cj,List.drop_zero] at this;exact this
end
noncomputable def left (L:Wh.Law):List (Nat×Rat)×List (Nat×Rat):=(L.terms,L.byS)
theorem O5(N:Wh.Net)(G G':Wh.Setting)(ho:∀k,G.on k=G'.on k)(k:Nat)(x:Wh.Elem):(N.lawsOf G k x).map left=(N.lawsOf G' k x).map left:=by
 unfold Wh.Net.lawsOf;dsimp only;cases x.kind <;>dsimp only <;>try rfl
 rw[ho k];split <;>rfl
theorem O6(N:Wh.Net)(G G':Wh.Setting)(ho:∀k,G.on k=G'.on k):(N.laws G).map left=(N.laws G').map left:=by
 unfold Wh.Net.laws;rw[aP,aP];congr 1;rw[List.map_flatMap,List.map_flatMap];congr 1;funext p;exact O5 N G G' ho p.1 p.2
theorem Fy(N:Wh.Net)(G G':Wh.Setting)(ho:∀k,G.on k=G'.on k)(s:Rat):((N.rows G s).map fun(r:Wh.Row)=>r.1)=(N.rows G' s).map fun(r:Wh.Row)=>r.1:=by
 unfold Wh.Net.rows;rw[aR,aR];have e:∀G:Wh.Setting,(N.laws G).map ((fun(r:Wh.Row)=>r.1) ∘ fun(l:Wh.Law)=>l.row N.unknowns s)=((N.laws G).map left).map fun x=>x.2.foldl (fun(r:List Rat) (t:Nat×Rat)=>Wh.addAt r t.1 (s*t.2)) (x.1.foldl (fun(r:List Rat) (t:Nat×Rat)=>Wh.addAt r t.1 t.2) (List.replicate N.unknowns 0)):=fun G=>by
  rw[aR];rfl
 rw[e G,e G',O6 N G G' ho]
structure T5(n:Nw)(st:List Bool)(r:List Nat)(src:Int)(d:dN)(tops:List dN):Prop where
 len:tops.length=(df n).unknowns
 Ck:Trim d
 UW:d≠[]
 trim:∀c,c<(df n).unknowns->Trim (tops.getD c [])
 ex:∃q:Rat,q≠0/\dG d=PF.const q*fz ((df n).determinant (Wh.alone r src.toNat))/\∀c,c<(df n).unknowns->dG (tops.getD c [])=PF.const q*fz ((df n).numerator (Wh.alone r src.toNat) c)
theorem Kk{n:Nw}(R:Right n){st:List Bool}{r:List Nat}(h:nM 0 n.c9.length st r)(D0:(det (df n).unknowns (Sm n ((df n).rest r) 0)).f 0≠0){src:Int}(h0:0<=src)(hs:AG n src=true):
  ∃d tops,sol (rows (iw n st src))=some (d,tops)/\T5 n st r src d tops:=by
 have S:=v9 R h h0 hs;have X0:dG (iw n st src).s=XX:=rfl;have sp:=Io R S;rw[X0] at sp;rcases sp with⟨d,tops,e,tl,td,dn,tt,q,hq,hd,ht⟩ |⟨_,z,_⟩
 ·refine⟨d,tops,e,tl,td,dn,tt,q,hq,?_,fun c hc=> ?_⟩
  ·rw[hd,uz R]
  ·rw[ht c hc,GH R _ hc]
 ·exfalso;refine D0 ?_;have e1:=CQ R ((df n).rest r) 0 0 0 rfl;have e2:=CQ R (Wh.alone r src.toNat) XX 0 0 (Q3 0);rw[<-e1,Fy (df n) ((df n).rest r) (Wh.alone r src.toNat) (fun _=>rfl) 0,e2,z];rfl
theorem AW{n:Nw}(R:Right n){st:List Bool}{r:List Nat}{src:Int}{d:dN}{tops:List dN}(D:T5 n st r src d tops){q:Rat}(ht:∀c,c<(df n).unknowns->dG (tops.getD c [])=PF.const q*fz ((df n).numerator (Wh.alone r src.toNat) c)){v:Int}(h0:0<=v)(h1:v<=n.last):
  Trim (gy (d,tops) v)/\dG (gy (d,tops) v)=PF.const q*fz ((df n).voltageOver (Wh.alone r src.toNat) v.toNat):=by
 unfold gy Wh.Net.voltageOver;by_cases h:0<v
 ·rw[ah h,af (by lia)];have nl:=kx n;have e:v.toNat - 1=(v - 1).toNat:=by lia
  rw[e];exact⟨D.trim _ (by lia),ht _ (by lia)⟩
 ·rw[af h,ah (by lia)];refine⟨uj,?_⟩;show(0:PF)=_* 0;grind
theorem right_of{l:List Int}(h:fq l=[]):Right (fb l)/\nA l=true:=by
 unfold fq at h;cases e:nA l with
 |false=>rw[e,ah rfl] at h;cases h
 |true=>
  rw[e,af (by simp)] at h;have N:=O0 e;refine⟨⟨N.l1,N.l8,ay N.c9 (by decide),ay (cM ..) N.c9,N.pn,?_⟩,rfl⟩;cases f:fault (fb l) with
  |nil=>rfl
  |cons x xs=>rw[f] at h;cases h
theorem Iz(l:List Int)(f:Wh.Net->WhB.Answer):WhBNeutral.shown (WhB.ofNet l f)=if fq l≠[] then fq l else WhBNeutral.shown (f (df (fb l))):=by
 unfold WhB.ofNet;rw[Td];cases e:nA l with
 |false=>
  have er:fq l=[-1]:=by
   unfold fq;rw[ah e]
  rw[er,ah rfl,ah (by simp)];rfl
 |true=>
  have N:=O0 e;have er:fq l=match fault (fb l) with
   |[]=>[]
   |f=> -2::f:=by
   unfold fq;rw[af (by rw[e];simp)]
   all_goals cases fault (fb l) <;>rfl
  rw[af (by simp),Te N.m7];rw[O4 N.pn (by have:=N.l1;lia)] at er;cases w:(df (fb l)).wrong with
  |none=>
   rw[w] at er;have er:fq l=[]:=er;rw[er,af (by simp)]
  |some x=>
   rw[w] at er;have er:fq l=[-2,(x.1:Int),(x.2:Int)]:=er;rw[er,ah (by simp)];rfl
theorem fR(a:Int)(l:dN):ij (a::l)=a.natAbs+ij l:=by unfold ij;simp
theorem GK:ij []=0:=rfl
theorem qX:∀l r:dN,ij (iJ l r)<=ij l+ij r
 |[],r=>by
  show ij r<=0+ij r;lia
 |a::l,[]=>by
  show ij (a::l)<=ij (a::l)+0;lia
 |a::l,b::r=>by
  show ij ((a+b)::iJ l r)<=_;rw[fR,fR,fR];have:=qX l r;have:=Int.natAbs_add_le a b;lia
theorem Fz(c:Int):∀l:dN,ij (l.map fun y=>c*y)=c.natAbs*ij l
 |[]=>by
  show 0=c.natAbs*0;lia
 |a::l=>by
  rw[aH,fR,fR,Fz c l,bR,Nat.mul_add]
theorem xJ:∀l r:dN,ij (mulL l r)<=ij l*ij r
 |[],r=>by
  show 0<=_;lia
 |a::l,r=>by
  show ij (iJ (r.map fun y=>a*y) (0::mulL l r))<=_;refine ay (qX _ _) ?_;rw[Fz,fR,fR,Nat.add_mul];have:=xJ l r;have e:(0:Int).natAbs=0:=rfl;lia
theorem IA:∀(l:dN) (k:Nat),ij (l.take k)<=ij l
 |[],k=>by simp[ij]
 |a::l,0=>by
  show 0<=_;lia
 |a::l,k+1=>by
  rw[List.take_succ_cons,fR,fR];have:=IA l k;lia
theorem GL(l:dN):ij (JY l)<=ij l:=IA _ _
theorem GN(l:dN):ij (Lx l)=ij l:=by
 unfold ij Lx;rw[aR];congr 1;apply aU;intro x _;exact Int.natAbs_neg x
theorem vi:∀{l:dN} {x:Int},x∈l->x.natAbs<=ij l
 |a::l,x,h=>by
  rw[fR];rcases aJ.mp h with rfl |h
  ·lia
  ·have:=vi h;lia
theorem IB(l r:dN):ij (gX l r)<=ij l*ij r:=by
 unfold gX;split
 ·show 0<=_;lia
 ·exact xJ l r
theorem Ra(l r:dN):(mulL l r).length<=l.length+r.length:=by
 by_cases h1:l=[]
 ·subst h1;simp[mulL]
 ·by_cases h2:r=[]
  ·subst h2;have:∀l:dN,(mulL l []).length<=l.length:=by
    intro l;induction l with
    |nil=>simp[mulL]
    |cons a l ih=>
     show(iJ [] (0::mulL l [])).length<=_;rw[jw];simp;lia
   exact ay (this l) (by lia)
  ·rw[iy l r h1 h2];lia
theorem Bd.mono{f:PF}{d e B C:Nat}(h:Bd f d B)(hd:d<=e)(hB:B<=C):Bd f e C:=by
 obtain⟨l,t,e1,h1,h2⟩:=h.ex;exact⟨l,t,e1,by lia,by lia⟩
theorem IC(l:dN){d B:Nat}(hl:l.length<=d+1)(hB:ij l<=B):Bd (dG l) d B:=⟨JY l,oj l,xo l,ay (Gm l) hl,ay (GL l) hB⟩
theorem Bd.add{f g:PF}{d B C:Nat}(hf:Bd f d B)(hg:Bd g d C):Bd (f+g) d (B+C):=by
 obtain⟨l,_,rfl,l1,l2⟩:=hf.ex;obtain⟨m,_,rfl,m1,m2⟩:=hg.ex;rw[<-xp];refine IC _ ?_ ?_
 ·rw[jw];lia
 ·have:=qX l m;lia
theorem Bd.neg{f:PF}{d B:Nat}(hf:Bd f d B):Bd (- f) d B:=by
 obtain⟨l,_,rfl,l1,l2⟩:=hf.ex;rw[<-Gn];refine IC _ ?_ ?_
 ·rw[xq];exact l1
 ·rw[GN];exact l2
theorem Bd.sub{f g:PF}{d B C:Nat}(hf:Bd f d B)(hg:Bd g d C):Bd (f - g) d (B+C):=by
 have e:f - g=f+ - g:=by grind
 rw[e];exact hf.add hg.neg
theorem Bd.mul{f g:PF}{d e B C:Nat}(hf:Bd f d B)(hg:Bd g e C):Bd (f*g) (d+e) (B*C):=by
 obtain⟨l,_,rfl,l1,l2⟩:=hf.ex;obtain⟨m,_,rfl,m1,m2⟩:=hg.ex;rw[<-jx];refine IC _ ?_ ?_
 ·by_cases h1:l=[]
  ·subst h1;simp[mulL]
  ·by_cases h2:m=[]
   ·subst h2;have:=Ra l [];simp at this;lia
   ·rw[iy l m h1 h2];lia
 ·exact ay (xJ l m) (bS l2 m2)
theorem GO(d:Nat):Bd 0 d 0:=⟨[],uj,rfl,by simp,aj _⟩
theorem Kl(d:Nat):Bd 1 d 1:=by
 rw[<-xE];exact IC [1] (by simp) (by decide)
theorem U2(i:Nat):Bd (sg i) 0 1:=by
 unfold sg;split
 ·exact Kl 0
 ·exact(Kl 0).neg
theorem GP(d B:Nat):∀(n:Nat) {f:Nat->PF},(∀i,i<n->Bd (f i) d B)->Bd (eC n f) d (n*B)
 |0,_,_=>by
  rw[Nat.zero_mul];exact GO d
 |n+1,f,h=>by
  have:=(GP d B n fun i hi=>h i (by lia)).add (h n (by lia));rw[cR];exact this
noncomputable def db (B:Nat):Nat->Nat
 |0=>1
 |n+1=>(n+1)*(B*db B n)
theorem CW(B:Nat):∀(n:Nat) {A:Nat->Nat->PF},(∀i j,i<n->j<n->Bd (A i j) 1 B)->Bd (det n A) n (db B n)
 |0,_,_=>Kl 0
 |n+1,A,h=>by
  rw[gr];refine GP (n+1) (B*db B n) (n+1) fun i hi=> ?_
  have h2:=(U2 i).mul ((h i 0 hi (by lia)).mul (CW B n fun a b ha hb=>h _ _ (xk ha) (by lia):Bd (det n (del i A)) n (db B n)));exact h2.mono (by lia) (by lia)
theorem O7{b:Nat}:∀n,n<=32->db (2^b) n<=2^((b+5)*n)
 |0,_=>by
  show 1<=_;exact Nat.one_le_two_pow
 |n+1,h=>by
  have ih:=O7 (b:=b) n (by lia);show(n+1)*(2^b*db (2^b) n)<=_;have e:2^((b+5)*(n+1))=2^5*(2^b*2^((b+5)*n)):=by
   rw[<-Nat.pow_add,<-Nat.pow_add];congr 1;rw[Nat.mul_add];lia
  rw[e];exact bS (by lia) (bS (aj _) ih)
theorem LX{b m n:Nat}(h:m<=n):db (2^b) m<=db (2^b) n:=by
 induction h with
 |refl=>exact aj _
 |step h ih=>
  rename_i q;refine ay ih ?_;show db (2^b) q<=(q+1)*(2^b*db (2^b) q);have h1:1<=2^b:=Nat.one_le_two_pow;have h2:db (2^b) q<=2^b*db (2^b) q:=cK _ (by lia);exact ay h2 (cK _ (by lia))
theorem Bd.list{l:dN}{d B:Nat}(t:Trim l)(h:Bd (dG l) d B):l.length<=d+1/\ij l<=B:=by
 obtain⟨m,tm,e,h1,h2⟩:=h.ex;rw[pN t tm e.symm];exact⟨h1,h2⟩
structure LB(w:Int)(m c:Nat)(ts:List Term):Prop where
 at_:∀t∈ts,0<=t.1/\t.1<=w/\t.2.length<=m/\ij t.2<=c
theorem LB.app{w:Int}{m c:Nat}{a b:List Term}(ha:LB w m c a)(hb:LB w m c b):LB w m c (a ++ b):=⟨fun t ht=>(aN.mp ht).elim (ha.at_ t) (hb.at_ t)⟩
theorem LB.mono{w:Int}{m c m' c':Nat}{a:List Term}(ha:LB w m c a)(hm:m<=m')(hc:c<=c'):LB w m' c' a:=⟨fun t ht=>by
 obtain⟨h1,h2,h3,h4⟩:=ha.at_ t ht;exact⟨h1,h2,by lia,by lia⟩⟩
theorem LY(z:Int):ij (cst z)=z.natAbs:=by
 unfold cst;split
 ·rename_i h;rw[h];rfl
 ·rw[fR];rfl
theorem LZ(z:Int):(cst z).length<=1:=by
 unfold cst;split <;>simp
theorem O8(l r:dN)(h:r.length<=1):(gX l r).length<=l.length:=by
 unfold gX;split
 ·simp
 ·rename_i q;have h1:l≠[]:=fun e=>q (.inl e)
  have h2:r≠[]:=fun e=>q (.inr e)
  rw[iy l r h1 h2];lia
theorem O9(l r:dN)(h:r.length<=2):(gX l r).length<=l.length+1:=by
 unfold gX;split
 ·simp
 ·rename_i q;have h1:l≠[]:=fun e=>q (.inl e)
  have h2:r≠[]:=fun e=>q (.inr e)
  rw[iy l r h1 h2];lia
theorem LB.MZ{w:Int}{m c:Nat}{a:List Term}(ha:LB w m c a)(z:Int):LB w m (c*z.natAbs) (rG a (cst z)):=⟨fun t ht=>by
 obtain⟨u,hu,rfl⟩:=aL.mp ht;obtain⟨h1,h2,h3,h4⟩:=ha.at_ u hu;refine⟨h1,h2,ay (O8 _ _ (LZ z)) h3,ay (IB _ _) ?_⟩;rw[LY];exact b9 _ h4⟩
theorem LB.U3{w:Int}{c:Nat}{a:List Term}(ha:LB w 1 c a){s:dN}(hs:s=[]\/s=[0,1]):LB w 2 c (rG a s):=⟨fun t ht=>by
 obtain⟨u,hu,rfl⟩:=aL.mp ht;obtain⟨h1,h2,h3,h4⟩:=ha.at_ u hu;have l2:s.length<=2:=by rcases hs with rfl |rfl <;>simp
 have n1:ij s<=1:=by rcases hs with rfl |rfl <;>decide
 refine⟨h1,h2,ay (O9 _ _ l2) (by lia),ay (IB _ _) ?_⟩;exact ay (bS h4 n1) (by lia)⟩
theorem jB(a:List Term)(p:dN):(rG a p).length=a.length:=by unfold rG;simp
theorem wa(a b:Int):(HS a b).length<=2:=by
 unfold HS;split <;>split <;>simp
theorem lX{w a b:Int}(ha:a<=w)(hb:b<=w):LB w 1 1 (HS a b):=⟨fun t ht=>by
 unfold HS at ht;rcases aN.mp ht with h |h
 ·split at h
  ·rw[aw.mp h];exact⟨by show 0<=a - 1;lia,by show a - 1<=w;lia,by simp,(show ij [1]<=1 by decide)⟩
  ·cases h
 ·split at h
  ·rw[aw.mp h];exact⟨by show 0<=b - 1;lia,by show b - 1<=w;lia,by simp,(show ij [-1]<=1 by decide)⟩
  ·cases h⟩
structure M0(n:Nw)(g:lJ):Prop where
 d8:g.d8=n
 s:g.s=[]\/g.s=[0,1]
 dr:∀k,(g.drives.getD k (0,1)).1.natAbs<=1000000/\(g.drives.getD k (0,1)).2.natAbs<=1000000
section
variable {n:Nw}(R:Right n){g:lJ}(S:M0 n g)
include R
theorem Pa{j:Int}(h0:0<=j)(hj:j<n.c9.length)(h3:kindAt n.c9 j≠3):0<=(places n).getD j.toNat 0/\(places n).getD j.toNat 0+1<=width n:=by
 rw[R.place (show j.toNat<n.c9.length by lia),R.zC];have:=xH R (show j.toNat<n.c9.length by lia) h3;lia
theorem L1:n.last<=width n:=by
 rw[R.zC];have:=kx n;have:=R.l1;lia
include S
theorem GQ{j:Int}(h0:0<=j)(hj:j<n.c9.length)(h3:kindAt n.c9 j≠3):LB (width n) 1 1 (cur g j):=⟨fun t ht=>by
 unfold cur at ht;rw[S.d8] at ht;rw[aw.mp ht];have:=Pa R h0 hj h3;exact⟨this.1,by show(places n).getD j.toNat 0<=_;lia,by simp,(show ij [1]<=1 by decide)⟩⟩
omit S in
theorem pV{p:Part}(hp:Pn p){m:Nat}{l r:List Term}(hl:LB (width n) m 1 l)(hr:LB (width n) m 1 r):LB (width n) m 1000000 (og p l r):=by
 unfold og;have b:p.dF.natAbs<=1000000:=by have:=hp.b1;have:=hp.b2;lia
 refine LB.app ((hl.MZ p.dF).mono (aj _) (by lia)) ((hr.MZ (-p.top)).mono (aj _) ?_);rw[Int.natAbs_neg];have:=hp.t;lia
theorem Km{k:Nat}{m:Nat}(hm:1<=m){l:List Term}(hl:LB (width n) m 1 l):LB (width n) m 1000000 (BD g k l):=by
 unfold BD;obtain⟨d1,d2⟩:=S.dr k;refine LB.app ((hl.MZ _).mono (aj _) (by lia)) ⟨fun t ht=> ?_⟩;rw[S.d8] at ht;rw[aw.mp ht];refine⟨?_,Int.le_refl _,ay (LZ _) hm,?_⟩
 ·show 0<=width n;rw[R.zC];lia
 ·show ij (cst _)<=_;rw[LY];exact d1
omit R S in
theorem FA:∀(sh:List (Int×Int×Int)) (c:Int),0<=c->(∀x∈sh,1<=x.2.2/\x.2.2<=1000000)->sh.foldl (fun c x=>c*x.2.2) c<=c*1000000^sh.length/\0<=sh.foldl (fun c x=>c*x.2.2) c
 |[],c,hc,_=>⟨by simp,hc⟩
 |x::sh,c,hc,h=>by
  obtain⟨x1,x2⟩:=h x ax;have nn:0<=c*x.2.2:=Int.mul_nonneg hc (by lia);obtain⟨h1,h2⟩:=FA sh (c*x.2.2) nn fun y hy=>h y (ao _ hy)
  refine⟨Int.le_trans h1 ?_,h2⟩;rw[au,Int.pow_succ,<-Int.mul_assoc,Int.mul_assoc,Int.mul_comm x.2.2,<-Int.mul_assoc];refine Int.mul_le_mul_of_nonneg_left x2 (Int.mul_nonneg hc (Int.pow_nonneg (by decide)))
omit R S in
theorem wb{p q:Part->Bool}(h:∀x,p x=true->q x=true):∀l:List Part,(l.filter p).length<=(l.filter q).length
 |[]=>aj _
 |x::l=>by
  have ih:=wb h l;cases e:p x with
  |true=>rw[aS e,aS (h x e)];exact Nat.succ_le_succ ih
  |false=>
   rw[aX (by rw[e];simp)];cases e2:q x with
   |true=>rw[aS e2,au];lia
   |false=>rw[aX (by rw[e2];simp)];exact ih
omit R S in
theorem Ec(ps:List Part)(k:Nat):(eQ ps k).length<=(ps.filter fun p=>decide (p.kind≠4/\p.kind≠5)).length+1:=by
 unfold eQ;rw[au,lMp];have:=wb (p:=fun p=>decide (p.kind=3/\((k:Int)=p.a\/(k:Int)=p.b))) (q:=fun p=>decide (p.kind≠4/\p.kind≠5)) (fun x h=>ak (by have:=(az h).1;lia)) ps;lia
omit R S in
theorem GR{α β:Type}{f:α->List β}{c:Nat}:∀l:List α,(∀x∈l,(f x).length<=c)->(l.flatMap f).length<=l.length*c
 |[],_=>by simp
 |x::l,h=>by
  rw[a9,aA,au,cR];have:=h x ax;have:=GR l fun y hy=>h y (ao _ hy)
  lia
theorem Rb{k:Nat}(hk:k<n.c9.length)(h2:(n.c9.getD k p0).kind=2):LB (width n) 2 (2^240) (mG g k)/\(mG g k).length<=64:=by
 have sin:=CL R h2 hk;have sl:=Ec n.c9 k;have pk:=R.ns;have ab:=R.ab hk (by lia);have lw:=L1 R;have cp:=FA (eQ n.c9 k) 1 (by decide) (fun x hx=>⟨(sin x hx).2.2.1,(sin x hx).2.2.2.1⟩);have cb:(common (eQ n.c9 k)).natAbs<=1000000^11:=by
  have h1:(1000000:Nat)^(eQ n.c9 k).length<=1000000^11:=bC (by decide) (by lia);have h3:common (eQ n.c9 k)<=((1000000^(eQ n.c9 k).length:Nat):Int):=by
   have:=cp.1;rw[Int.one_mul] at this;rw[Int.natCast_pow];exact this
  have h4:0<=common (eQ n.c9 k):=cp.2;generalize (1000000:Nat)^(eQ n.c9 k).length=X at h1 h3;generalize (1000000:Nat)^11=Y at h1⊢;lia
 have cpos:0<common (eQ n.c9 k):=v8 _ 1 (by decide) fun x hx=>by have:=sin x hx;lia
 unfold mG;dsimp only;rw[S.d8];refine⟨LB.app (((lX (by lia) (by lia)).MZ _).mono (by lia) ?_) ⟨fun t ht=> ?_⟩,?_⟩
 ·refine ay (cg 1 cb) ?_;decide +kernel
 ·obtain⟨x,hx,ht⟩:=cH.mp ht;obtain⟨s1,s2,s3,s4,s5⟩:=sin x hx;have h3:kindAt n.c9 x.1≠3:=by
   unfold eQ at hx;rcases aJ.mp hx with rfl |hx
   ·unfold kindAt;show(n.c9.getD ((k:Int)).toNat p0).kind≠3;rw[bb,h2];decide
   ·obtain⟨p,hp,rfl⟩:=aL.mp hx;obtain⟨hm,hc⟩:=bV.mp hp;have hc:=az hc;obtain⟨i,hi,e⟩:=aY hm;have ep:n.c9.getD i p0=p:=by rw[gDe,aa hi,e];rfl
    have cpp:=R.MV hi (by rw[ep];exact hc.1);rw[ep] at cpp;show kindAt n.c9 (p.a+p.b - (k:Int))≠3;rcases hc.2 with q |q
    ·have e2:p.a+p.b - (k:Int)=p.b:=by lia
     rw[e2,cpp.2.2.2];decide
    ·have e2:p.a+p.b - (k:Int)=p.a:=by lia
     rw[e2,cpp.2.1.2];decide
  have fd:((common (eQ n.c9 k)).fdiv x.2.2).natAbs<=1000000^11:=by
   have e:(common (eQ n.c9 k)).fdiv x.2.2=common (eQ n.c9 k) / x.2.2:=Int.fdiv_eq_ediv_of_nonneg _ (by lia);rw[e];have h1:0<=common (eQ n.c9 k) / x.2.2:=Int.ediv_nonneg (by lia) (by lia);have h2:common (eQ n.c9 k) / x.2.2<=common (eQ n.c9 k):=Int.ediv_le_self _ (by lia);lia
  have lbt:=(((GQ R S s1 s2 h3).U3 S.s).MZ (-x.2.1*(common (eQ n.c9 k)).fdiv x.2.2)).at_ t ht;refine⟨lbt.1,lbt.2.1,lbt.2.2.1,ay lbt.2.2.2 ?_⟩;rw[Nat.one_mul,bR,Int.natAbs_neg];refine ay (bS s5 fd) ?_;decide +kernel
 ·rw[aA,jB];have h1:=wa (n.c9.getD k p0).a (n.c9.getD k p0).b;have h3:=GR (c:=1) (f:=fun x:Int×Int×Int=>rG (rG (cur g x.1) g.s) (cst (-x.2.1*(common (eQ n.c9 k)).fdiv x.2.2))) (eQ n.c9 k) (fun x _=>by rw[jB,jB];exact aj _);unfold lS;lia
omit S R in
theorem iK(p:Part)(l r:List Term):(og p l r).length=l.length+r.length:=by unfold og;rw[aA,jB,jB]
omit S R in
theorem wc(g:lJ)(k:Nat)(l:List Term):(BD g k l).length=l.length+1:=by unfold BD;rw[aA,jB];rfl
theorem Rc{k:Nat}(hk:k<n.c9.length):∀ts∈fT g k,LB (width n) 2 (2^240) ts/\ts.length<=64:=by
 have pp:=R.p hk;have ab:=R.ab hk;have cdd:=R.cd hk;have fo:=R.QZ hk;have lw:=L1 R;have cl:=Rb R S hk;have kk:kindAt n.c9 (k:Int)=(n.c9.getD k p0).kind:=by
  unfold kindAt;rw[bb]
 have ck:(n.c9.getD k p0).kind≠3->LB (width n) 1 1 (cur g (k:Int)):=fun h3=>GQ R S (by lia) (by lia) (by rw[kk];exact h3)
 have big:1000000<=2^240:=by decide +kernel
 have one:1<=2^240:=by decide +kernel
 have bl:=wa (n.c9.getD k p0).a (n.c9.getD k p0).b;have bl2:=wa (n.c9.getD k p0).c (n.c9.getD k p0).d;have cl1:∀j,(cur g j).length=1:=fun j=>rfl
 unfold fT;dsimp only;rw[S.d8];have c0:=pp.c0;have pl2:(n.c9.getD k p0).kind=10->LB (width n) 1 1 [((places n).getD k 0+1,[1])]:=fun h10=>⟨fun t ht=>by
  rw[aw.mp ht];have h1:=GD R hk h10;have h2:=R.place hk;have h3:=R.zC;exact⟨by show 0<=(places n).getD k 0+1;lia,by show(places n).getD k 0+1<=_;lia,by simp,(show ij [1]<=1 by decide)⟩⟩
 generalize hp:n.c9.getD k p0=p at *;rcases oq pp.k0 pp.k1 with e |e |e |e |e |e |e |e |e |e |e |e |e |e
 ·have ek:p.kind.toNat=0:=by rw[e];rfl
  rw[ek];intro ts hts;rw[aw.mp hts];refine⟨(pV R pp (lX (by lia) (by lia)) (ck (by lia))).mono (by lia) big,?_⟩;rw[iK,cl1];unfold lS;lia
 ·have ek:p.kind.toNat=1:=by rw[e];rfl
  rw[ek];intro ts hts;rw[aw.mp hts];refine⟨(pV R pp ((ck (by lia)).mono (by lia) (aj _)) ((lX (by lia) (by lia)).U3 S.s)).mono (by lia) big,?_⟩;rw[iK,cl1,jB];unfold lS;lia
 ·have ek:p.kind.toNat=2:=by rw[e];rfl
  rw[ek];intro ts hts;rw[aw.mp hts];exact cl e
 ·have ek:p.kind.toNat=3:=by rw[e];rfl
  rw[ek];intro ts hts;cases hts
 ·have ek:p.kind.toNat=4:=by rw[e];rfl
  rw[ek];intro ts hts;rw[aw.mp hts];refine⟨(Km R S (aj 1) (lX (by lia) (by lia))).mono (by lia) big,?_⟩;rw[wc];unfold lS;lia
 ·have ek:p.kind.toNat=5:=by rw[e];rfl
  rw[ek];intro ts hts;rw[aw.mp hts];refine⟨(Km R S (aj 1) (ck (by lia))).mono (by lia) big,?_⟩;rw[wc,cl1];lia
 ·have ek:p.kind.toNat=6:=by rw[e];rfl
  rw[ek];intro ts hts;rw[aw.mp hts];refine⟨(pV R pp (lX (by lia) (by lia)) (lX (by lia) (by lia))).mono (by lia) big,?_⟩;rw[iK];unfold lS Gj;lia
 ·have ek:p.kind.toNat=7:=by rw[e];rfl
  rw[ek];intro ts hts;rw[aw.mp hts];refine⟨(pV R pp (ck (by lia)) (lX (by lia) (by lia))).mono (by lia) big,?_⟩;rw[iK,cl1];unfold Gj;lia
 ·have ek:p.kind.toNat=8:=by rw[e];rfl
  rw[ek];intro ts hts;rw[aw.mp hts];have ff:=fo (.inl e);refine⟨(pV R pp (lX (by lia) (by lia)) (GQ R S c0 (by lia) ff.2)).mono (by lia) big,?_⟩;rw[iK,cl1];unfold lS;lia
 ·have ek:p.kind.toNat=9:=by rw[e];rfl
  rw[ek];intro ts hts;rw[aw.mp hts];have ff:=fo (.inr e);refine⟨(pV R pp (ck (by lia)) (GQ R S c0 (by lia) ff.2)).mono (by lia) big,?_⟩;rw[iK,cl1,cl1];lia
 ·have ek:p.kind.toNat=10:=by rw[e];rfl
  rw[ek];intro ts hts;rcases aJ.mp hts with rfl |hts
  ·refine⟨(pV R pp (lX (by lia) (by lia)) (lX (by lia) (by lia))).mono (by lia) big,?_⟩;rw[iK];unfold lS Gj;lia
  ·rw[aw.mp hts];have h1:LB (width n) 1 1 (rG (cur g (k:Int)) [-1]):=by
    have:=(ck (by lia)).MZ (-1);exact this
   refine⟨(pV R pp (pl2 e) h1).mono (by lia) big,?_⟩;rw[iK,jB,cl1];simp
 ·have ek:p.kind.toNat=11:=by rw[e];rfl
  rw[ek];intro ts hts;rw[aw.mp hts];refine⟨(lX (by lia) (by lia)).mono (by lia) one,?_⟩;unfold Gj;lia
 ·have ek:p.kind.toNat=12:=by rw[e];rfl
  rw[ek];intro ts hts;rw[aw.mp (show ts∈[if p.top=0 then cur g (k:Int) else lS p] from hts)];split
  ·exact⟨(ck (by lia)).mono (by lia) one,by rw[cl1];lia⟩
  ·exact⟨(lX (by lia) (by lia)).mono (by lia) one,by unfold lS;lia⟩
 ·have ek:p.kind.toNat=13:=by rw[e];rfl
  rw[ek];intro ts hts;have hts:ts∈(if g.gI.getD k false=true then[BD g k (lS p)] else[cur g (k:Int)]):=hts;split at hts
  ·rw[aw.mp hts];refine⟨(Km R S (aj 1) (lX (by lia) (by lia))).mono (by lia) big,?_⟩;rw[wc];unfold lS;lia
  ·rw[aw.mp hts];exact⟨(ck (by lia)).mono (by lia) one,by rw[cl1];lia⟩
omit S in
theorem Rf(v:Int):LB (width n) 2 (2^240) (iP n v)/\(iP n v).length<=64:=by
 have one:1<=2^240:=by decide +kernel
 have pk:=R.c9;unfold iP;rw[Fi n.c9 (places n) p0 0 (vE n),cG];refine⟨⟨fun t ht=> ?_⟩,?_⟩
 ·obtain⟨k,hk,ht⟩:=cH.mp ht;have hk:=aW.mp hk;dsimp only at ht;have pp:=R.p hk;by_cases h3:(n.c9.getD k p0).kind=3
  ·rw[ah h3] at ht;cases ht
  rw[af h3] at ht;have a1:=xH R hk h3;have pl:=R.place hk;have wd:=R.zC;have mem1:∀(c:Prop) [Decidable c] (i:Int) (p:dN),t∈(if c then[(i,p)] else[])->t=(i,p):=fun c _ i p h=>by
   split at h
   ·exact aw.mp h
   ·cases h
  have fin:∀(i:Int) (z:Int),t=(i,[z])->z.natAbs=1->0<=i->i<=width n->0<=t.1/\t.1<=width n/\t.2.length<=2/\ij t.2<=2^240:=fun i z e hz h0 h1=>by
   rw[e];refine⟨h0,h1,by simp,?_⟩;show ij [z]<=_;rw[fR,GK,hz];exact one
  rcases aN.mp ht with ht |ht
  ·rcases aN.mp ht with ht |ht
   ·exact fin _ _ (mem1 _ _ _ ht) rfl (by lia) (by lia)
   ·exact fin _ _ (mem1 _ _ _ ht) rfl (by lia) (by lia)
  ·by_cases h10:(n.c9.getD k p0).kind=10
   ·have a2:=GD R hk h10;rw[ah h10] at ht;rcases aN.mp ht with ht |ht
    ·exact fin _ _ (mem1 _ _ _ ht) rfl (by lia) (by lia)
    ·exact fin _ _ (mem1 _ _ _ ht) rfl (by lia) (by lia)
   ·rw[af h10] at ht;cases ht
 ·have l1:∀(c:Prop) [Decidable c] (t:Term),(if c then[t] else[]).length<=1:=fun c _ t=>by split <;>simp
  have:=GR (c:=4) (f:=fun k=>if(n.c9.getD k p0).kind=3 then[] else(if(n.c9.getD k p0).a=v then[((places n).getD k 0,[1])] else[]) ++ (if(n.c9.getD k p0).b=v then[((places n).getD k 0,[-1])] else[]) ++ (if(n.c9.getD k p0).kind=10 then(if(n.c9.getD k p0).c=v then[((places n).getD k 0+1,[1])] else[]) ++ (if(n.c9.getD k p0).d=v then[((places n).getD k 0+1,[-1])] else[]) else[])) (List.range n.c9.length) (fun k _=>by
   split
   ·simp
   ·rw[aA,aA];have:=l1 ((n.c9.getD k p0).a=v) ((places n).getD k 0,[1]);have:=l1 ((n.c9.getD k p0).b=v) ((places n).getD k 0,[-1]);have h4:(if(n.c9.getD k p0).kind=10 then(if(n.c9.getD k p0).c=v then[((places n).getD k 0+1,[1])] else[]) ++ (if(n.c9.getD k p0).d=v then[((places n).getD k 0+1,[-1])] else[]) else([]:List Term)).length<=2:=by
     by_cases h10:(n.c9.getD k p0).kind=10
     ·rw[ah h10,aA];have:=l1 ((n.c9.getD k p0).c=v) ((places n).getD k 0+1,[1]);have:=l1 ((n.c9.getD k p0).d=v) ((places n).getD k 0+1,[-1]);lia
     ·rw[af h10];simp
    lia)
  rw[bH] at this;exact ay this (by lia)
theorem Pb:∀ts∈gV g,LB (width n) 2 (2^240) ts/\ts.length<=64:=fun ts hts=>by
 unfold gV at hts;rw[S.d8] at hts;rcases aN.mp hts with h |h
 ·obtain⟨v,_,rfl⟩:=aL.mp h;exact Rf R _
 ·obtain⟨k,hk,h⟩:=cH.mp h;exact Rc R S (aW.mp hk) ts h
end
theorem R3(j:Nat){w:Int}{c:Nat}:∀ts:List Term,LB w 2 c ts->Bd (Pv (ei j) ts) 1 (ts.length*c)
 |[],_=>by
  rw[bJ,Nat.zero_mul];exact GO 1
 |t::ts,h=>by
  obtain⟨h1,h2,h3,h4⟩:=h.at_ t ax;have ih:=R3 j ts ⟨fun u hu=>h.at_ u (ao _ hu)⟩;have b1:Bd (dG t.2*ei j t.1.toNat) 1 c:=by
   unfold ei;split
   ·have e:dG t.2*(1:PF)=dG t.2:=by grind
    rw[e];exact IC t.2 h3 h4
   ·have e:dG t.2*(0:PF)=0:=by grind
    rw[e];exact(GO 1).mono (aj _) (aM _)
  have:=b1.add ih;rw[au,cR,Nat.add_comm];exact this
theorem L3{n:Nw}(R:Right n){g:lJ}(S:M0 n g){G:Wh.Setting}(S2:lW n g G){i j:Nat}(hi:i<(df n).unknowns)(hj:j<(df n).unknowns+1):Bd (sP (rows g) i j) 1 (2^246):=by
 have w:(width n+1).toNat=(df n).unknowns+1:=by rw[R.zC];lia
 have l:(gV g).length=(df n).unknowns:=by rw[(vf R S2).len,iD]
 unfold sP ent;rw[xF R S2 hi,(vg _ _ j (by lia)).1];obtain⟨h1,h2⟩:=Pb R S ((gV g).getD i []) (memD (by lia));refine(R3 j _ h1).mono (aj _) ?_;refine ay (b9 _ h2) ?_;decide +kernel
theorem Pc{n:Nw}(R:Right n):(df n).unknowns<=30:=by
 have h1:=R.zC;have h2:width n<=30:=by
  unfold width;have:∀ps:List Part,(ps.map hW).sum<=ps.length+(ps.filter fun p=>decide (p.kind≠4/\p.kind≠5)).length:=by
   intro ps;induction ps with
   |nil=>simp
   |cons p ps ih=>
    rw[aH,b8,au];by_cases hp:p.kind≠4/\p.kind≠5
    ·rw[aS (p:=fun p:Part=>decide (p.kind≠4/\p.kind≠5)) (ak hp),au];have:hW p<=2:=by
      unfold hW;split
      ·lia
      ·split <;>lia
     push_cast;lia
    ·rw[aX (p:=fun p:Part=>decide (p.kind≠4/\p.kind≠5)) (by rw[aq hp];simp)];have:hW p<=1:=by
      unfold hW;split
      ·lia
      ·split <;>lia
     push_cast;lia
  have:=this n.c9;have:=R.c9;have:=R.ns;have:=R.l8;lia
 lia
structure EB(l:dN):Prop where
 len:l.length<=40
 ij:ij l<=2^7800
theorem R4{A:Nat->Nat->PF}{n:Nat}{B:Nat}(hA:∀i j,i<n->j<n+1->Bd (A i j) 1 B){k:Nat}(hk:k<=n):Bd (mk A k) k (db B k):=CW B k fun i j hi hj=>hA i j (by lia) (by lia)
theorem L4{A:Nat->Nat->PF}{n:Nat}{B:Nat}(hA:∀i j,i<n->j<n+1->Bd (A i j) 1 B){k:Nat}(hk:k<=n)(c j:Nat)(hj:j<n+1):Bd (mc A k c j) k (db B k):=CW B k fun i b hi hb=>by
 show Bd (if b=c then A i j else A i b) 1 B;split
 ·exact hA i j (by lia) hj
 ·exact hA i b (by lia) (by lia)
theorem Pd{A:Nat->Nat->PF}{n:Nat}{B:Nat}(hA:∀i j,i<n->j<n+1->Bd (A i j) 1 B){k:Nat}(hk:k<=n)(i j:Nat)(hi:i<n)(hj:j<n+1):Bd (ti A k i j) (k+1) (db B (k+1)):=by
 unfold ti;have h1:=(R4 hA hk).mul (hA i j hi hj);have h2:=GP (k+1) (B*db B k) k (f:=fun c=>A i c*mc A k c j) fun c hc=>((hA i c hi (by lia)).mul (L4 hA hk c j hj)).mono (by lia) (aj _)
 refine(h1.sub h2).mono (aj _) ?_;show db B k*B+k*(B*db B k)<=(k+1)*(B*db B k);rw[cR,Nat.mul_comm (db B k) B];lia
theorem ID{l:dN}{d m:Nat}(t:Trim l)(h:Bd (dG l) d (db (2^246) m))(hd:d<=39)(hm:m<=31):EB l:=by
 obtain⟨h1,h2⟩:=h.list t;refine⟨by lia,ay h2 (ay (LX hm) (ay (O7 31 (by lia)) ?_))⟩;exact bC (by lia) (by lia)
theorem Pe{n k:Nat}{A:Nat->Nat->PF}{t:List jI}{before:dN}{σ:Nat->Nat}{ε:PF}(hn:n<=30)(hA:∀i j,i<n->j<n+1->Bd (A i j) 1 (2^246))(hk:k<n)(S:T3 n k A t before σ ε)(c:Nat)(hkc:k<=c)(hc:c<n)(hp:ent t c k≠[]){i j:Nat}(hi:i<n)(hik:i≠k)(hj:k<j)(hjn:j<n+1):
  EB before/\before≠[]/\EB (ent (nS t c k) k k)/\EB (ent (nS t c k) i j)/\EB (ent (nS t c k) i k)/\EB (ent (nS t c k) k j)/\∃m,Trim m/\EB m/\dG (uh (gX (ent (nS t c k) k k) (ent (nS t c k) i j)) (gX (ent (nS t c k) i k) (ent (nS t c k) k j)))=dG m*dG before:=by
 have tl:=S.tab.len;have sg':∀a,(nS t c k).getD a []=t.getD (sw c k a) []:=fun a=>BH t c k a (by lia) (by lia)
 have se:∀a j,ent (nS t c k) a j=ent t (sw c k a) j:=fun a j=>by unfold ent;rw[sg']
 have skk:sw c k k=c:=by
  unfold sw
  repeat' split
  all_goals lia
 have slow:∀i,i<k->sw c k i=i:=fun i hi=>by unfold sw;rw[af (by lia),af (by lia)]
 have shigh:∀i,k<=i->k<=sw c k i:=fun i hi=>by
  unfold sw
  repeat' split
  all_goals lia
 have hB:(fun i j=>A (σ (sw c k i)) j)=gO (fun i j=>A (σ i) j) c k:=(uo (fun i j=>A (σ i) j) c k).symm;have mkS:mk (fun i j=>A (σ (sw c k i)) j) k=mk (fun i j=>A (σ i) j) k:=by rw[hB];exact Ge _ k c k hkc (aj _)
 have mcS:∀i j,mc (fun i j=>A (σ (sw c k i)) j) k i j=mc (fun i j=>A (σ i) j) k i j:=fun i j=>by rw[hB];exact Gf _ k c k i j hkc (aj _)
 have tiS:∀i j,ti (fun i j=>A (σ (sw c k i)) j) k i j=ti (fun i j=>A (σ i) j) k (sw c k i) j:=fun i j=>by rw[hB];exact Lu _ k c k i j hkc (aj _)
 have eU:∀i j,i<k->k<=j->j<n+1->dG (ent (nS t c k) i j)=mc (fun i j=>A (σ (sw c k i)) j) k i j:=fun i j hi hj hjn=>by rw[se,slow i hi,S.up i j hi hj hjn,mcS]
 have eL:∀i j,k<=i->i<n->k<=j->j<n+1->dG (ent (nS t c k) i j)=ti (fun i j=>A (σ (sw c k i)) j) k i j:=fun i j hi hin hj hjn=>by
  rw[se,S.low _ j (shigh i hi) (pS hc hk hin) hj hjn,tiS]
 have sT:∀i j,i<n->j<n+1->Trim (ent (nS t c k) i j):=fun i j hi hj=>by rw[se];exact S.tab.trim _ j (pS hc hk hi) hj
 have hBI:∀i j,i<n->j<n+1->Bd (A (σ (sw c k i)) j) 1 (2^246):=fun i j hi hj=>hA _ j (S.ord.lt _ (pS hc hk hi)) hj
 generalize hBd:(fun i j=>A (σ (sw c k i)) j)=B at *;have hBI':∀i j,i<n->j<n+1->Bd (B i j) 1 (2^246):=fun i j hi hj=>by rw[<-hBd];exact hBI i j hi hj
 have eB:EB before:=ID S.HX (by rw[S.Ea,<-mkS];exact R4 hBI' (b7 hk)) (by lia) (by lia);have bne:before≠[]:=fun z=>by
  have:=S.Ea;rw[z] at this;exact S.ne this.symm
 have eE:∀i j,i<n->k<=j->j<n+1->EB (ent (nS t c k) i j):=fun i j hi hj hjn=>by
  by_cases q:i<k
  ·exact ID (sT i j hi hjn) (by rw[eU i j q hj hjn];exact L4 hBI' (b7 hk) i j hjn) (by lia) (by lia)
  ·exact ID (sT i j hi hjn) (by rw[eL i j (by lia) hi hj hjn];exact Pd hBI' (b7 hk) i j hi hjn) (by lia) (by lia)
 refine⟨eB,bne,eE k k hk (aj _) (by lia),eE i j hi (by lia) hjn,eE i k hi (aj _) (by lia),eE k j hk (by lia) hjn,?_⟩;have xm:Reg (mk B k):=PF.xm (by rw[mkS];exact S.ne);have piv:dG (ent t c k)=mk B (k+1):=by
  have e:=eL k k (aj _) hk (aj _) (by lia);rw[se,skk] at e;rw[e,Cb B k xm]
 have ne1:mk B (k+1)≠0:=fun z=>hp ((fK (S.tab.trim c k hc (by lia))).mp (piv.trans z))
 have reg1:Reg (mk B (k+1)):=PF.xm ne1;have ekk:dG (ent (nS t c k) k k)=mk B (k+1):=by rw[se,skk];exact piv
 by_cases q:i<k
 ·obtain⟨m,tm,em,h1,h2⟩:=(L4 hBI' (show k+1<=n by lia) i j hjn).ex;refine⟨m,tm,ID tm (by rw[em];exact L4 hBI' (show k+1<=n by lia) i j hjn) (by lia) (by lia),?_⟩;rw[qT,jU,jU,ekk,em,S.Ea,<-mkS,eU i j q (by lia) hjn,eU i k q (aj _) (by lia),eL k j (aj _) hk (by lia) hjn];have:=(BB B k j xm reg1 i q).1;rw[this];grind
 ·obtain⟨m,tm,em,h1,h2⟩:=(Pd hBI' (show k+1<=n by lia) i j hi hjn).ex;refine⟨m,tm,ID tm (by rw[em];exact Pd hBI' (show k+1<=n by lia) i j hi hjn) (by lia) (by lia),?_⟩;rw[qT,jU,jU,ekk,em,S.Ea,<-mkS,eL i j (by lia) hi (by lia) hjn,eL i k (by lia) hi (aj _) (by lia),eL k j (aj _) hk (by lia) hjn];have:=Ls B k i j xm reg1;rw[this];grind
theorem Pf{n:Nw}(R:Right n){g:lJ}(S:M0 n g){G:Wh.Setting}(S2:lW n g G){d:dN}{tops:List dN}(h:sol (rows g)=some (d,tops)):(d.length<=31/\ij d<=2^7530)/\∀c,c<(df n).unknowns->(tops.getD c []).length<=31/\ij (tops.getD c [])<=2^7530:=by
 have un:=Pc R;have hA:∀i j,i<(df n).unknowns->j<(df n).unknowns+1->Bd (sP (rows g) i j) 1 (2^246):=fun i j hi hj=>L3 R S S2 hi hj
 have big:db (2^246) (df n).unknowns<=2^7530:=ay (LX un) (ay (O7 30 (by lia)) (bC (by lia) (by lia)));have eps:∀(ε f:PF) (dd B:Nat),(ε=1\/ε= -1)->Bd f dd B->Bd (ε*f) dd B:=fun ε f dd B h hb=>by
  rcases h with rfl |rfl
  ·have e:(1:PF)*f=f:=by grind
   rw[e];exact hb
  ·have e:(-1:PF)*f= -f:=by grind
   rw[e];exact hb.neg
 rcases J1 (xG R S2) with⟨d',tops',e,so⟩ |⟨e,_⟩
 ·rw[h] at e;cases e
  obtain⟨ε,he,hd,ht⟩:=so.sgn;refine⟨?_,fun c hc=> ?_⟩
  ·obtain⟨h1,h2⟩:=Bd.list so.Ck (by rw[hd];exact eps _ _ _ _ he (CW (2^246) (df n).unknowns fun i j hi hj=>hA i j hi (by lia)));exact⟨by lia,by lia⟩
  ·obtain⟨h1,h2⟩:=Bd.list (so.trim c hc) (by
    rw[ht c hc];exact eps _ _ _ _ he (CW (2^246) (df n).unknowns fun i j hi hj=>by
     show Bd (if j=c then _ else _) 1 _;split
     ·exact hA i _ hi (by lia)
     ·exact hA i j hi (by lia)))
   exact⟨by lia,by lia⟩
 ·rw[h] at e;cases e
theorem R5{n:Nw}(R:Right n)(st:List Bool):M0 n (Jv n st):=by
 refine⟨rfl,.inl rfl,fun k=> ?_⟩;show((n.c9.map fun p:Part=>(p.top,p.dF)).getD k (0,1)).1.natAbs<=_/\((n.c9.map fun p:Part=>(p.top,p.dF)).getD k (0,1)).2.natAbs<=_;rw[gDe,aC];by_cases h:k<n.c9.length
 ·rw[aa h];have pp:=R.pn _ (bO h);have:=pp.b1;have:=pp.b2;exact⟨pp.t,by show(n.c9[k]).dF.natAbs<=_;lia⟩
 ·rw[aI (by lia)];exact⟨by decide,by decide⟩
theorem FC{n:Nw}(st:List Bool)(src:Int):M0 n (iw n st src):=by
 refine⟨rfl,.inr rfl,fun k=> ?_⟩;show(((List.range n.c9.length).map fun(k:Nat)=>if(k:Int)=src then((1:Int),(1:Int)) else(0,1)).getD k (0,1)).1.natAbs<=_/\_;by_cases h:k<n.c9.length
 ·have e:(iw n st src).drives.getD k (0,1)=if(k:Int)=src then(1,1) else(0,1):=kr _ _ _ _ h
  show((iw n st src).drives.getD k (0,1)).1.natAbs<=_/\((iw n st src).drives.getD k (0,1)).2.natAbs<=_;rw[e];split <;>exact⟨by decide,by decide⟩
 ·have e:(iw n st src).drives.getD k (0,1)=(0,1):=by
   unfold iw;dsimp only;rw[gDe,aI (by simp;lia)];rfl
  show((iw n st src).drives.getD k (0,1)).1.natAbs<=_/\((iw n st src).drives.getD k (0,1)).2.natAbs<=_;rw[e];exact⟨by decide,by decide⟩
noncomputable def jR:dN->Int->Int
 |[],_=>0
 |a::l,x=>a+x*jR l x
theorem xK(x:Int):∀l:dN,(dG l).f (x:Rat)=((jR l x:Int):Rat)
 |[]=>rfl
 |a::l=>by
  rw[fi,xK x l];show(a:Rat)+(x:Rat)*_=((a+x*jR l x:Int):Rat);push_cast;rfl
theorem IE(x:Int):∀l r:dN,jR (iJ l r) x=jR l x+jR r x
 |[],r=>by
  show jR r x=0+jR r x;lia
 |a::l,[]=>by
  show jR (a::l) x=jR (a::l) x+0;lia
 |a::l,b::r=>by
  show(a+b)+x*jR (iJ l r) x=(a+x*jR l x)+(b+x*jR r x);rw[IE x l r];grind
theorem FD(c x:Int):∀l:dN,jR (l.map fun y=>c*y) x=c*jR l x
 |[]=>by
  show 0=c*0;lia
 |a::l=>by
  show c*a+x*jR (l.map fun y=>c*y) x=c*(a+x*jR l x);rw[FD c x l];grind
noncomputable def IF (r:Int):dN->dN
 |[]=>[]
 |_::m=>iJ m ((IF r m).map fun y=>r*y)
theorem L5(r:Int):∀l:dN,(IF r l).length=l.length - 1
 |[]=>rfl
 |a::m=>by
  show(iJ m _).length=_;rw[jw,lMp,L5 r m,au];lia
theorem Kn(r x:Int):∀l:dN,jR l x - jR l r=(x - r)*jR (IF r l) x
 |[]=>by
  show(0:Int) - 0=(x - r)*0;lia
 |a::m=>by
  show(a+x*jR m x) - (a+r*jR m r)=(x - r)*jR (iJ m ((IF r m).map fun y=>r*y)) x;rw[IE,FD];have:=Kn r x m;grind
theorem CY:∀{l:dN},(∀i,l.getD i 0=0)->ij l=0
 |[],_=>rfl
 |a::l,h=>by
  rw[fR];have h0:a=0:=h 0;have:=CY (l:=l) fun i=>h (i+1)
  rw[this,h0];rfl
theorem FE:∀{l m:dN},(∀i,l.getD i 0=m.getD i 0)->ij l=ij m
 |[],m,h=>(CY fun i=>(h i).symm.trans (by simp)).symm
 |a::l,[],h=>CY fun i=>(h i).trans (by simp)
 |a::l,b::m,h=>by
  rw[fR,fR];have h0:a=b:=h 0;have:=FE (l:=l) (m:=m) fun i=>h (i+1)
  rw[this,h0]
theorem Ti(r:Int)(l:dN):ij l<=(jR l r).natAbs+(1+r.natAbs)*ij (IF r l):=by
 have e:dG l=dG (iJ [jR l r] (mulL [-r,1] (IF r l))):=by
  refine PF.ext fun x=> ?_
  have key:∀i:Nat,(dG l).f ((i:Int):Rat)=(dG (iJ [jR l r] (mulL [-r,1] (IF r l)))).f ((i:Int):Rat):=fun i=>by
   rw[xp,jx];show _=(dG [jR l r]).f ((i:Int):Rat)+(dG [-r,1]).f ((i:Int):Rat)*(dG (IF r l)).f ((i:Int):Rat);rw[xK,xK,xK,xK];have:=Kn r (i:Int) l;have e1:jR [jR l r] (i:Int)=jR l r:=by
    show jR l r+(i:Int)*0=_;lia
   have e2:jR [-r,1] (i:Int)=(i:Int) - r:=by
    show -r+(i:Int)*(1+(i:Int)*0)=_;grind
   rw[e1,e2];have:jR l (i:Int)=jR l r+((i:Int) - r)*jR (IF r l) (i:Int):=by lia
   rw[this];push_cast;rfl
  have d0:dG l - dG (iJ [jR l r] (mulL [-r,1] (IF r l)))=0:=by
   by_cases q:dG l - dG (iJ [jR l r] (mulL [-r,1] (IF r l)))=0
   ·exact q
   ·obtain⟨N,hN⟩:=PF.BC q;have h1:=hN N (aj _);exfalso;apply h1;show(dG l).f (N:Rat) - (dG (iJ [jR l r] (mulL [-r,1] (IF r l)))).f (N:Rat)=0;have h2:=key N;have e3:(((N:Int)):Rat)=(N:Rat):=by push_cast;rfl
    rw[e3] at h2;rw[h2];grind
  have h3:(dG l - dG (iJ [jR l r] (mulL [-r,1] (IF r l)))).f x=0:=by rw[d0];rfl
  have h4:(dG l).f x - (dG (iJ [jR l r] (mulL [-r,1] (IF r l)))).f x=0:=h3;grind
 rw[FE (qS e)];refine ay (qX _ _) ?_;have h1:ij [jR l r]=(jR l r).natAbs:=by rw[fR,GK];rfl
 have h2:=xJ [-r,1] (IF r l);have h3:ij [-r,1]=1+r.natAbs:=by
  rw[fR,fR,GK,Int.natAbs_neg];show r.natAbs+(1+0)=_;lia
 rw[h3] at h2;lia
noncomputable def cB (P:Nat):Nat->Nat
 |0=>0
 |m+1=>1+(1+P)*(2*cB P m)
theorem GS{a b c:Int}(h:a=b*c)(hb:b≠0):c.natAbs<=a.natAbs:=by
 rw[h,bR];have:1<=b.natAbs:=by lia
 exact cK _ (by lia)
theorem U4(P:Nat):∀(m:Nat) (l:dN) (xs:List Int) (M:Nat),l.length<=m->xs.Nodup->m<=xs.length->(∀x∈xs,x.natAbs<=P)->(∀x∈xs,(jR l x).natAbs<=M)->ij l<=cB P m*M
 |0,l,xs,M,hl,_,_,_,_=>by
  have:l=[]:=bg.mp (by lia);subst this;show 0<=_;lia
 |m+1,l,[],M,hl,_,hx,_,_=>by simp at hx
 |m+1,l,r::ys,M,hl,hnd,hx,hP,hM=>by
  obtain⟨hr,hys⟩:=bW.mp hnd;have r1:=hM r ax;have rP:=hP r ax;have ih:=U4 P m (IF r l) ys (2*M) (by rw[L5];lia) hys (by simpa using hx) (fun x hx=>hP x (ao _ hx)) fun y hy=>by
   have y1:=hM y (ao _ hy);have ne:y - r≠0:=fun e=>hr (by
    have:y=r:=by lia
    rw[<-this];exact hy)
   have:=GS (Kn r y l) ne;have h2:(jR l y - jR l r).natAbs<=(jR l y).natAbs+(jR l r).natAbs:=Int.natAbs_sub_le _ _;lia
  have h1:=Ti r l;have h2:(1+r.natAbs)*ij (IF r l)<=(1+P)*(cB P m*(2*M)):=bS (by lia) ih;show ij l<=(1+(1+P)*(2*cB P m))*M;have e:(1+(1+P)*(2*cB P m))*M=M+(1+P)*(cB P m*(2*M)):=by grind
  rw[e];lia
theorem R6(P:Nat)(hP:1<=P){x:Int}(hx:x.natAbs<=P):∀l:dN,(jR l x).natAbs<=ij l*P^l.length
 |[]=>by
  show 0<=_;lia
 |a::l=>by
  have ih:=R6 P hP hx l;show(a+x*jR l x).natAbs<=ij (a::l)*P^(l.length+1);have h1:=Int.natAbs_add_le a (x*jR l x);rw[bR] at h1;have h2:x.natAbs*(jR l x).natAbs<=P*(ij l*P^l.length):=bS hx ih;have h3:1<=P^(l.length+1):=Nat.one_le_pow _ _ (by lia);rw[fR,Nat.add_mul];have h4:a.natAbs<=a.natAbs*P^(l.length+1):=Nat.le_mul_of_pos_right _ (by lia);have e:P*(ij l*P^l.length)=ij l*P^(l.length+1):=by
   rw[Nat.pow_succ];grind
  lia
theorem Ko{T A g:dN}(hT:T.length<=11)(tg:Trim g)(g0:g≠[])(hg:g.length<=11)(hA:A.length<=11)(e:dG T=dG A*dG g):ij A<=cB 20 11*(ij T*20^11):=by
 have ev:∀j:Int,jR T j=jR A j*jR g j:=fun j=>by
  have:(dG T).f (j:Rat)=(dG A).f (j:Rat)*(dG g).f (j:Rat):=by rw[e];rfl
  rw[xK,xK,xK] at this;have h2:((jR T j:Int):Rat)=((jR A j*jR g j:Int):Rat):=by push_cast;exact this
  exact_mod_cast h2
 let pts:List Int:=((List.range 21).map fun i:Nat=>(i:Int)).filter fun j=>decide (jR g j≠0)
 have nd:((List.range 21).map fun i:Nat=>(i:Int)).Nodup:=by decide
 have zs:(((List.range 21).map fun i:Nat=>(i:Int)).filter fun j=>decide (jR g j=0)).length<=10:=by
  refine cz fun q=> ?_
  have hz:=roots ((((List.range 21).map fun i:Nat=>(i:Int)).filter fun j=>decide (jR g j=0)).map fun j:Int=>(j:Rat)) (rl g) (by
   refine List.Pairwise.map _ ?_ (nd.filter _);intro a b hab z;exact hab (by exact_mod_cast z)) (by
   unfold rl;rw[lMp,lMp];lia) (fun x hx=>by
   obtain⟨j,hj,rfl⟩:=aL.mp hx;have:=az (bV.mp hj).2;show(dG g).f (j:Rat)=0;rw[xK,this];rfl)
  have:dG g=0:=PF.ext fun x=>hz.ev x
  exact rL tg g0 this
 have cnt:((List.range 21).map fun i:Nat=>(i:Int)).length=pts.length+(((List.range 21).map fun i:Nat=>(i:Int)).filter fun j=>decide (jR g j=0)).length:=by
  have:∀l:List Int,l.length=(l.filter fun j=>decide (jR g j≠0)).length+(l.filter fun j=>decide (jR g j=0)).length:=by
   intro l;induction l with
   |nil=>rfl
   |cons a l ih=>
    by_cases h:jR g a=0
    ·rw[aX (by simp[h]),aS (by simp[h]),au,au];lia
    ·rw[aS (by simp[h]),aX (by simp[h]),au,au];lia
  exact this _
 have len:((List.range 21).map fun i:Nat=>(i:Int)).length=21:=by simp
 refine U4 20 11 A pts (ij T*20^11) hA (nd.filter _) (by lia) (fun x hx=> ?_) fun x hx=> ?_
 ·obtain⟨i,hi,rfl⟩:=aL.mp (bV.mp hx).1;have:=aW.mp hi;lia
 ·obtain⟨h1,h2⟩:=bV.mp hx;have h2:=az h2;obtain⟨i,hi,rfl⟩:=aL.mp h1;have hi:=aW.mp hi;have h3:=GS (show jR T (i:Int)=jR g (i:Int)*jR A (i:Int) by rw[ev,Int.mul_comm]) h2;have h4:=R6 20 (by decide) (x:=(i:Int)) (by lia) T;refine ay h3 (ay h4 (cg _ ?_));exact bC (by decide) hT
noncomputable def Mg (γ:Nat) (l:dN):Prop:=∀i,2*(l.getD i 0).natAbs<=2^γ
theorem Mg.mono{γ δ:Nat}{l:dN}(h:Mg γ l)(hd:γ<=δ):Mg δ l:=fun i=>ay (h i) (bC (by decide) hd)
theorem Mg.mem{γ:Nat}{l:dN}(h:Mg γ l){x:Int}(hx:x∈l):2*x.natAbs<=2^γ:=by
 obtain⟨i,hi,e⟩:=aY hx;have:=h i;rw[gDe,aa hi] at this;rw[<-e];exact this
theorem M1{l:dN}{γ:Nat}(h:2*ij l<=2^γ):Mg γ l:=fun i=>by
 rw[gDe];by_cases hi:i<l.length
 ·rw[aa hi];have:=vi (bO hi);show 2*(l[i]).natAbs<=_;lia
 ·rw[aI (by lia)];exact aM _
theorem BL{l:dN}{γ:Nat}(h:Mg γ l):Mg γ (prim l):=fun i=>by
 have hs:=rK l;have e:l.getD i 0=cont l*(prim l).getD i 0:=by
  have h2:((prim l).map fun y=>cont l*y).getD i 0=cont l*(prim l).getD i 0:=by
   rw[gDe,aC,gDe];cases(prim l)[i]? <;>simp
  rw[<-h2,hs]
 by_cases c0:cont l=0
 ·have:(prim l).getD i 0=0:=by
   unfold prim;rw[gDe,aC,c0];cases l[i]? <;>simp
  rw[this];exact aM _
 ·have:=GS e c0;have:=h i;lia
theorem M3(rest right:dN)(i:Nat):(lI rest right).getD i 0=lc right*rest.getD i 0 - lc rest*(if i<rest.length - right.length then 0 else right.getD (i - (rest.length - right.length)) 0):=by
 unfold lI uh Ce;rw[Gk,iZ];have sc:∀(c:Int) (l:dN) (i:Nat),(l.map fun y=>c*y).getD i 0=c*l.getD i 0:=fun c l i=>by
  rw[gDe,aC,gDe];cases l[i]? <;>simp
 have ng:∀(l:dN) (i:Nat),(Lx l).getD i 0= - l.getD i 0:=fun l i=>by
  unfold Lx;rw[gDe,aC,gDe];cases l[i]? <;>simp
 rw[sc,ng];by_cases h:i<rest.length - right.length
 ·rw[ah h];have:(List.replicate (rest.length - right.length) (0:Int) ++ right.map fun y=>lc rest*y).getD i 0=0:=by
   rw[gDe,b5 (by rw[aQ];exact h),cf,ah h];rfl
  rw[this];lia
 ·rw[af h,LG _ _ _ (by lia),sc];lia
theorem Pg{γ δ:Nat}{rest right:dN}(h1:Mg γ rest)(h2:Mg δ right):Mg (γ+δ) (lI rest right):=fun i=>by
 rw[M3];have a1:2*(lc right).natAbs<=2^δ:=h2 _;have a2:2*(lc rest).natAbs<=2^γ:=h1 _;have b1:=h1 i;have b2:2*(if i<rest.length - right.length then(0:Int) else right.getD (i - (rest.length - right.length)) 0).natAbs<=2^δ:=by
  split
  ·exact aM _
  ·exact h2 _
 generalize (if i<rest.length - right.length then(0:Int) else right.getD (i - (rest.length - right.length)) 0)=y at b2⊢;have t:=Int.natAbs_sub_le (lc right*rest.getD i 0) (lc rest*y);rw[bR,bR] at t;have p1:=bS a1 b1;have p2:=bS a2 b2;rw[Nat.pow_add];have e1:2*(lc right).natAbs*(2*(rest.getD i 0).natAbs)=4*((lc right).natAbs*(rest.getD i 0).natAbs):=by grind
 have e2:2*(lc rest).natAbs*(2*y.natAbs)=4*((lc rest).natAbs*y.natAbs):=by grind
 rw[e1] at p1;rw[e2] at p2;have e3:2^δ*2^γ=2^γ*2^δ:=Nat.mul_comm _ _;rw[e3] at p1;lia
noncomputable def WM (b:Nat):Nat->dN->dN->Prop
 |0,_,_=>True
 |f+1,rest,right=>rest.length<right.length\/((∃γ δ,γ+δ<=b/\Mg γ rest/\Mg δ right)/\WM b f (lI rest right) right)
theorem GU{b δ:Nat}{right:dN}(hr:right≠[])(h2:Mg δ right):∀(f d γ:Nat) (rest:dN),rest.length<right.length+d->Mg γ rest->γ+d*δ<=b->Mg (γ+d*δ) (zj f rest right)/\WM b f rest right
 |0,d,γ,rest,hl,h1,hb=>⟨h1.mono (by lia),trivial⟩
 |f+1,d,γ,rest,hl,h1,hb=>by
  by_cases q:rest.length<right.length
  ·have e:zj (f+1) rest right=rest:=ah q;rw[e];exact⟨h1.mono (by lia),.inl q⟩
  ·have e:zj (f+1) rest right=zj f (lI rest right) right:=af q;obtain⟨d',rfl⟩:∃d',d=d' +1:=⟨d - 1,by lia⟩;have ws:=CA (rest:=rest) (right:=right) (by lia) hr;have e2:γ+(d' +1)*δ=(γ+δ)+d' *δ:=by
    rw[cR];lia
   have ih:=GU (b:=b) hr h2 f d' (γ+δ) (lI rest right) (by have:=ws.2.1;lia) (Pg h1 h2) (by lia);rw[e,e2];refine⟨ih.1,.inr ⟨⟨γ,δ,?_,h1,h2⟩,ih.2⟩⟩;have:=cD (γ+δ) (d' *δ);lia
noncomputable def CM (b:Nat):Nat->dN->dN->Prop
 |0,_,_=>True
 |f+1,l,s=>s=[]\/(WM b (l.length+1) l s/\CM b f s (prim (gP l s)))
noncomputable def pl:Nat->Nat
 |0=>1
 |1=>2
 |n+2=>2*pl (n+1)+pl n
theorem Rg(n:Nat):pl n<=pl (n+1):=by
 match n with
 |0=>decide
 |n+1=>
  show pl (n+1)<=2*pl (n+1)+pl n;lia
theorem xM{m n:Nat}(h:m<=n):pl m<=pl n:=by
 induction h with
 |refl=>exact aj _
 |step h ih=>exact ay ih (Rg _)
theorem Ph(y:Nat):∀g,pl y+(g+2)*pl (y+1)<=pl (y+g+2)
 |0=>by
  show pl y+(0+2)*pl (y+1)<=2*pl (y+1)+pl y;lia
 |g+1=>by
  have ih:=Ph y g;show pl y+(g+1+2)*pl (y+1)<=pl (y+(g+1)+2);have e:y+(g+1)+2=(y+g+1)+2:=by lia
  rw[e];show _<=2*pl (y+g+1+1)+pl (y+g+1);have m1:pl (y+1)<=pl (y+g+1):=xM (by lia);have e2:(g+1+2)*pl (y+1)=(g+2)*pl (y+1)+pl (y+1):=by
   rw[show g+1+2=(g+2)+1 by lia,cR]
  have e3:y+g+1+1=y+g+2:=by lia
  rw[e2,e3];lia
theorem CZ{b:Nat}:∀(f:Nat) (l s:dN) (y:Nat),Trim l->Trim s->s.length<l.length->l.length+y=11->Mg (pl y*b) l->Mg (pl (y+1)*b) s->CM (13860*b) f l s
 |0,_,_,_,_,_,_,_,_,_=>trivial
 |f+1,l,s,y,tl,ts,hl,hy,ml,ms=>by
  by_cases s0:s=[]
  ·exact .inl s0
  have c1:1<=s.length:=aE.mpr s0;obtain⟨g,eg⟩:∃g,l.length=s.length+g+1:=⟨l.length - s.length - 1,by lia⟩;have gap:=Ph y g;have top:pl (y+g+2)<=13860:=by
   have:pl (y+g+2)<=pl 11:=xM (by lia);have e:pl 11=13860:=by decide
   lia
  have key:pl y*b+(g+2)*(pl (y+1)*b)<=pl (y+g+2)*b:=by
   rw[<-Nat.mul_assoc,<-Nat.add_mul];exact b9 _ gap
  have lim:pl (y+g+2)*b<=13860*b:=b9 _ top;have wm:=GU (b:=13860*b) s0 ms (l.length+1) (g+2) (pl y*b) l (by lia) ml (by lia);have wo:=xy s0 ts (l.length+1) l tl (by lia);obtain⟨_,_,_,_,wl,wt⟩:=wo;refine .inr ⟨wm.2,CZ f s (prim (gP l s)) (y+g+1) ts (iz wt) ?_ (by lia) (ms.mono (b9 _ (xM (by lia)))) ?_⟩
  ·rw[gQ];exact wl
  ·exact BL (wm.1.mono key)
theorem IG{b:Nat}{T B:dN}(tT:Trim T)(tB:Trim B)(hB:B≠[])(lT:T.length<=11)(lB:B.length<=11)(mT:Mg b T)(mB:Mg b B)(f:Nat):CM (13860*b) (f+1) T B:=by
 have p1:∀y,1<=pl y:=fun y=>xM (m:=0) (aM y)
 have p2:∀y,2<=pl (y+1):=fun y=>xM (m:=1) (by lia)
 have one:∀y,b<=pl y*b:=fun y=>cK _ (p1 y)
 by_cases h1:B.length<T.length
 ·exact CZ (f+1) T B (11 - T.length) tT tB h1 (by lia) (mT.mono (one _)) (mB.mono (one _))
 ·have c1:1<=B.length:=aE.mpr hB;have wm:=GU (b:=13860*b) hB mB (T.length+1) 1 b T (by lia) mT (by lia);obtain⟨_,_,_,_,wl,wt⟩:=xy hB tB (T.length+1) T tT (by lia);refine .inr ⟨wm.2,CZ f B (prim (gP T B)) (11 - B.length) tB (iz wt) (by rw[gQ];exact wl) (by lia) (mB.mono (one _)) ?_⟩;refine BL (wm.1.mono ?_);have:=b9 b (p2 (11 - B.length));lia
theorem Al.mem{α β:Type}{R:α->β->Prop}:∀{l:List α} {m:List β},Al R l m->∀a∈l,∃b,b∈m/\R a b
 |_,_,.nil,a,h=>by cases h
 |_,_,.cons r t,a,h=>by
  rcases aJ.mp h with rfl |h
  ·exact⟨_,ax,r⟩
  ·obtain⟨b,hb,q⟩:=t.mem a h;exact⟨b,ao _ hb,q⟩
theorem IH{n:Nw}{st:List Bool}(h:st∈eW n.c9 [[]]):∃r,nM 0 n.c9.length st r:=by
 rw[AR] at h;obtain⟨r,_,q⟩:=(zF n.c9 0).mem st h;exact⟨r,q⟩
theorem M4{n:Nw}(R:Right n):(df n).places<=11:=by
 unfold Wh.Net.places;show(((n.c9.map dw).filter fun(x:Wh.Elem)=>decide (x.kind= .C) ||decide (x.kind= .L)).length+1)<=11;rw[List.filter_map,lMp];have:=wb (p:=(fun(x:Wh.Elem)=>decide (x.kind= .C) ||decide (x.kind= .L)) ∘ dw) (q:=fun p=>decide (p.kind≠4/\p.kind≠5)) (fun x h=>ak (by
  have h:(decide ((dw x).kind= .C) ||decide ((dw x).kind= .L))=true:=h;have ek:(dw x).kind=kindOf x.kind:=rfl;rw[ek] at h;constructor
  ·intro e;rw[e] at h;exact absurd h (by decide)
  ·intro e;rw[e] at h;exact absurd h (by decide))) n.c9
 have:=R.ns;lia
theorem Tj{n:Nw}(R:Right n){G:Wh.Setting}:Dg (fz ((df n).determinant G)) 11/\∀c,c<(df n).unknowns->Dg (fz ((df n).numerator G c)) 11:=by
 have pl:=M4 R;refine⟨?_,fun c hc=> ?_⟩
 ·unfold Wh.Net.determinant;refine⟨_,rfl,ay (uq _) ?_⟩;rw[lMp,bH];exact pl
 ·unfold Wh.Net.numerator;refine⟨_,rfl,ay (uq _) ?_⟩;rw[lMp,bH];exact pl
theorem Rh{n:Nw}(R:Right n){st:List Bool}{r:List Nat}{src:Int}{d:dN}{tops:List dN}(D:T5 n st r src d tops):d.length<=11/\∀c,c<(df n).unknowns->(tops.getD c []).length<=11:=by
 obtain⟨q,q0,hd,ht⟩:=D.ex;obtain⟨d1,d2⟩:=Tj R (G:=Wh.alone r src.toNat);have one:∀f:PF,PF.const 1*f=f:=fun f=>by
  rw[gz];grind
 refine⟨vY D.Ck (c:=1) (by decide) (by rw[one,hd];exact d1.smul q),fun c hc=>vY (D.trim c hc) (c:=1) (by decide) (by rw[one,ht c hc];exact(d2 c hc).smul q)⟩
structure TB(T B:dN):Prop where
 chain:CM 104393520 (B.length+1) (prim T) (prim B)
 g:(pO T B).length<=11/\ij (pO T B)<=2^7702
 a:(mZ T (pO T B)).length<=11/\ij (mZ T (pO T B))<=2^7702
 b:(mZ B (pO T B)).length<=11/\ij (mZ B (pO T B))<=2^7702
 f:(lE (cont (mZ T (pO T B))) (cont (mZ B (pO T B)))).natAbs<=2^7702
theorem U5:cB 20 11*20^11<=2^171:=by decide +kernel
theorem Ri{T B:dN}(tT:Trim T)(tB:Trim B)(hT:T≠[])(hB:B≠[])(lT:T.length<=11)(lB:B.length<=11)(nT:ij T<=2^7531)(nB:ij B<=2^7531):TB T B:=by
 obtain⟨tg,hg,gg,_,⟨a,ea⟩,⟨b,eb⟩⟩:=J4 tT tB hT;obtain⟨A,tA,oA⟩:=nV gg ea;obtain⟨Bq,tBq,oB⟩:=nV gg eb;have dA:mZ T (pO T B)=A:=pQ tT tg tA hg (by rw[oA];exact ea);have dB:mZ B (pO T B)=Bq:=pQ tB tg tBq hg (by rw[oB];exact eb);have hA:A≠[]:=fun z=>hT ((fK tT).mp (by
  rw[ea,<-oA,z];show(0:PF)*_=0;grind))
 have hBq:Bq≠[]:=fun z=>hB ((fK tB).mp (by
  rw[eb,<-oB,z];show(0:PF)*_=0;grind))
 have eT:dG T=dG A*dG (pO T B):=by rw[oA];exact ea
 have eB:dG B=dG Bq*dG (pO T B):=by rw[oB];exact eb
 have len:∀(X Y G:dN),Trim X->Trim Y->Trim G->Y≠[]->G≠[]->dG X=dG Y*dG G->X.length=Y.length+G.length - 1:=fun X Y G tX tY tG hY hG e=>by
  have:X=gX Y G:=pN tX (qU tY tG) (by rw[jU];exact e);rw[this,xr hY hG]
 have l1:=len T A (pO T B) tT tA tg hA hg eT;have l2:=len B Bq (pO T B) tB tBq tg hBq hg eB;have pA:0<A.length:=aE.mpr hA;have pB:0<Bq.length:=aE.mpr hBq;have pG:0<(pO T B).length:=aE.mpr hg;have big:∀x:Nat,x<=2^7531->cB 20 11*(x*20^11)<=2^7702:=fun x hx=>by
  have e:cB 20 11*(x*20^11)=(cB 20 11*20^11)*x:=by
   rw[Nat.mul_comm x,Nat.mul_assoc]
  rw[e,show(7702:Nat)=171+7531 from rfl,Nat.pow_add];exact bS U5 hx
 have bA:=ay (Ko lT tg hg (by lia) (by lia) eT) (big _ nT);have bB:=ay (Ko lB tg hg (by lia) (by lia) eB) (big _ nB);have bG:=ay (Ko lT tA hA (by lia) (show(pO T B).length<=11 by lia) (show dG T=dG (pO T B)*dG A by rw[eT];grind)) (big _ nT);have mg:∀X:dN,ij X<=2^7531->Mg 7532 X:=fun X h=>M1 (by
  rw[show(7532:Nat)=1+7531 from rfl,Nat.pow_add];exact cg 2 h)
 refine⟨?_,⟨by lia,bG⟩,?_,?_,?_⟩
 ·exact IG (b:=7532) (iz tT) (iz tB) (fun z=>hB (by
   have:=congrArg List.length z;rw[gQ] at this;exact bg.mp (by simpa using this))) (by rw[gQ];exact lT) (by rw[gQ];exact lB) (BL (mg T nT)) (BL (mg B nB)) B.length
 ·rw[dA];exact⟨by lia,bA⟩
 ·rw[dB];exact⟨by lia,bB⟩
 ·rw[dA,dB];unfold lE;rw[jY,jY,bI,bI,bI];have ga:=jz tA hA;refine ay (Nat.gcd_le_left _ ga) ?_;have nl:=fB.mp tA hA;have hm:lc A∈A:=by
   unfold lc;exact memD (by lia)
  have dv:=mP hm;have h1:fO A<=(lc A).natAbs:=by
   have:=Int.natAbs_dvd_natAbs.mpr dv;rw[bI] at this;exact Nat.le_of_dvd (by lia) this
  have:=vi hm;lia
theorem M5{T B:dN}(h:T≠[]->TB T B):(sO T B).length<=100:=by
 unfold sO;by_cases e:T=[]
 ·rw[ah e];decide
 ·rw[af e];have:=h e;dsimp only;unfold sN;rw[aA,au,au,lMp,lMp,bu,bu];have:=this.a.1;have:=(h e).b.1;lia
noncomputable def more (n:Nw) (ps:List Part):Nw:=⟨n.last,n.c9 ++ ps⟩
noncomputable def xN (p q:Part):Prop:=p=q\/((p.kind=4\/p.kind=5)/\q.kind=p.kind/\q.a=p.a/\q.b=p.b/\q.c=p.c/\q.d=p.d)
inductive ig:List Part->List Part->Prop
 |nil:ig [] []
 |cons {p q:Part} {ps qs:List Part}:xN p q->ig ps qs->ig (p::ps) (q::qs)
theorem xN.kind{p q:Part}(h:xN p q):q.kind=p.kind/\q.a=p.a/\q.b=p.b/\q.c=p.c/\q.d=p.d:=by
 rcases h with rfl |⟨_,h⟩
 ·exact⟨rfl,rfl,rfl,rfl,rfl⟩
 ·exact h
theorem xN.refl(p:Part):xN p p:= .inl rfl
theorem ig.refl:∀ps:List Part,ig ps ps
 |[]=> .nil
 |p::ps=> .cons (.refl p) (ig.refl ps)
theorem ig.app{a b:List Part}:∀{l m:List Part},ig l m->ig a b->ig (l ++ a) (m ++ b)
 |_,_,.nil,h=>h
 |_,_,.cons x y,h=> .cons x (y.app h)
theorem ig.len:∀{l m:List Part},ig l m->m.length=l.length
 |_,_,.nil=>rfl
 |_,_,.cons _ y=>by rw[au,au,y.len]
theorem ig.get:∀{l m:List Part},ig l m->∀k,xN (l.getD k p0) (m.getD k p0)
 |_,_,.nil,k=>by
  show xN (([]:List Part).getD k p0) (([]:List Part).getD k p0);exact .refl _
 |_,_,.cons x y,0=>x
 |_,_,.cons x y,k+1=>y.get k
theorem R7{p q:Part}(h:xN p q):hW q=hW p:=by
 unfold hW;rw[h.kind.1]
theorem II:∀{l m:List Part},ig l m->∀f,fX f m=fX f l
 |_,_,.nil,f=>rfl
 |_,_,.cons x y,f=>by
  show f::fX (f+hW _) _=f::fX (f+hW _) _;rw[R7 x,II y]
theorem R8:∀{l m:List Part},ig l m->(m.map hW).sum=(l.map hW).sum
 |_,_,.nil=>rfl
 |_,_,.cons x y=>by rw[aH,aH,b8,b8,R7 x,R8 y]
theorem Pj(k:Int):∀{l m:List Part},ig l m->((m.filter fun p=>decide (p.kind=3/\(k=p.a\/k=p.b))).map fun p=>(p.a+p.b - k,p.top,p.dF))=(l.filter fun p=>decide (p.kind=3/\(k=p.a\/k=p.b))).map fun p=>(p.a+p.b - k,p.top,p.dF)
 |_,_,.nil=>rfl
 |_,_,.cons (p:=p) (q:=q) x y=>by
  have ih:=Pj k y;by_cases h:p.kind=3/\(k=p.a\/k=p.b)
  ·have e:q=p:=by
    rcases x with e |⟨h4,_⟩
    ·exact e.symm
    ·lia
   rw[e,aS (p:=fun p:Part=>decide (p.kind=3/\(k=p.a\/k=p.b))) (ak h),aS (p:=fun p:Part=>decide (p.kind=3/\(k=p.a\/k=p.b))) (ak h),aH,aH,ih]
  ·have h':¬(q.kind=3/\(k=q.a\/k=q.b)):=by
    obtain⟨e1,e2,e3,_⟩:=x.kind;rw[e1,e2,e3];exact h
   rw[aX (p:=fun p:Part=>decide (p.kind=3/\(k=p.a\/k=p.b))) (by rw[aq h'];simp),aX (p:=fun p:Part=>decide (p.kind=3/\(k=p.a\/k=p.b))) (by rw[aq h];simp),ih]
theorem Pk(v:Int):∀{l m:List Part},ig l m->∀is:List Int,((m.zip is).flatMap fun x=>if x.1.kind=3 then[] else
  (if x.1.a=v then[(x.2,[1])] else[]) ++ (if x.1.b=v then[(x.2,[-1])] else[]) ++
   (if x.1.kind=10 then(if x.1.c=v then[(x.2+1,[1])] else[]) ++ (if x.1.d=v then[(x.2+1,[-1])] else[]) else[]))=(((l.zip is).flatMap fun x=>if x.1.kind=3 then[] else
  (if x.1.a=v then[(x.2,[1])] else[]) ++ (if x.1.b=v then[(x.2,[-1])] else[]) ++
   (if x.1.kind=10 then(if x.1.c=v then[(x.2+1,[1])] else[]) ++ (if x.1.d=v then[(x.2+1,[-1])] else[]) else[])):List Term)
 |_,_,.nil,is=>rfl
 |_,_,.cons x y,[]=>rfl
 |_,_,.cons x y,i::is=>by
  rw[List.zip_cons_cons,List.zip_cons_cons,a9,a9,Pk v y is];obtain⟨e1,e2,e3,e4,e5⟩:=x.kind;dsimp only;rw[e1,e2,e3,e4,e5]
theorem Tn{n m:Nw}(hl:m.last=n.last)(h:ig n.c9 m.c9)(s:dN)(st:List Bool)(dr:List (Int×Int)):rows ⟨m,s,st,dr⟩=rows ⟨n,s,st,dr⟩:=by
 have pl:places m=places n:=by
  unfold places;rw[hl,II h]
 have wd:width m=width n:=by
  unfold width;rw[hl,R8 h]
 have nl:∀v,iP m v=iP n v:=fun v=>by
  unfold iP;rw[pl,Pk v h]
 have cu:∀k,cur ⟨m,s,st,dr⟩ k=cur ⟨n,s,st,dr⟩ k:=fun k=>by
  unfold cur;rw[pl]
 have dv:∀k ts,BD ⟨m,s,st,dr⟩ k ts=BD ⟨n,s,st,dr⟩ k ts:=fun k ts=>by
  unfold BD;rw[wd]
 have l1:∀k,fT ⟨m,s,st,dr⟩ k=fT ⟨n,s,st,dr⟩ k:=fun k=>by
  have g:=h.get k;rcases g with e |⟨h4,e1,e2,e3,e4,e5⟩
  ·have cl:mG ⟨m,s,st,dr⟩ k=mG ⟨n,s,st,dr⟩ k:=by
    have sh:eQ m.c9 k=eQ n.c9 k:=by
     unfold eQ;rw[Pj k h,e]
    unfold mG;dsimp only;rw[sh,e];simp only[cu]
   unfold fT;dsimp only;rw[<-e];simp only[cu,dv,cl,pl]
  ·unfold fT;dsimp only;rw[e1];have vv:lS (m.c9.getD k p0)=lS (n.c9.getD k p0):=by
    unfold lS;rw[e2,e3]
   rcases h4 with h4 |h4
   ·rw[h4];show[BD ⟨m,s,st,dr⟩ k (lS (m.c9.getD k p0))]=[BD ⟨n,s,st,dr⟩ k (lS (n.c9.getD k p0))];rw[vv,dv]
   ·rw[h4];show[BD ⟨m,s,st,dr⟩ k (cur ⟨m,s,st,dr⟩ k)]=[BD ⟨n,s,st,dr⟩ k (cur ⟨n,s,st,dr⟩ k)];rw[cu,dv]
 unfold rows gV;dsimp only;rw[hl,h.len,wd];simp only[nl,l1]
theorem C0{l ps:List Part}{k:Nat}(h:k<l.length):(l ++ ps).getD k p0=l.getD k p0:=by
 rw[gDe,gDe,b5 h]
theorem GV{l ps:List Part}{k:Nat}(h:l.length<=k):(l ++ ps).getD k p0=ps.getD (k - l.length) p0:=by
 rw[gDe,gDe,bz h]
theorem FG(n:Nw)(h:∀k,k<n.c9.length->gH n k=0):∀f,f<=n.c9.length->jk n f=[]
 |0,_=>rfl
 |f+1,hf=>by
  unfold jk;dsimp only;rw[af (fun z=>z (h _ (by lia))),FG n h f (by lia)]
structure Src(last:Int)(p:Part):Prop where
 kind:p.kind=4\/p.kind=5
 pn:Pn p
 a:p.a<=last
 b:p.b<=last
theorem Kp{n:Nw}(R:Right n){ps:List Part}(hs:∀p∈ps,Src n.last p){k:Nat}(hk:k<(more n ps).c9.length):gH (more n ps) k=0:=by
 have el:(more n ps).c9=n.c9 ++ ps:=rfl;have ln:(more n ps).last=n.last:=rfl;by_cases h:k<n.c9.length
 ·have G:=R.g1 h;have ep:(more n ps).c9.getD k p0=n.c9.getD k p0:=C0 h;have ka:∀i:Int,i<k->kindAt (more n ps).c9 i=kindAt n.c9 i:=fun i hi=>by
   unfold kindAt;rw[el,C0 (by lia)]
  unfold gH;dsimp only;rw[ep,ln];rw[af (fun z=>by
   obtain⟨v,hv,hv2⟩:=bK.mp z;have:=G.nodes v hv;have:=az hv2;lia),af (by rw[G.num];simp)]
  have mf:fF (more n ps).c9 k=true:=by
   have g:=G.QZ;unfold fF at g⊢;dsimp only at g⊢;rw[ep];by_cases h4:(n.c9.getD k p0).kind=8\/(n.c9.getD k p0).kind=9
   ·have:=R.QZ h h4;rw[af (fun q=>q h4),ka _ this.1,ak this.1,ak this.2];rfl
   ·rw[ah h4]
  rw[af (by rw[mf];simp)];by_cases h3:(n.c9.getD k p0).kind=3
  ·rw[ah h3];have g:=G.WH h3;obtain⟨c1,⟨c2,c3⟩,c4,c5⟩:=R.MV h h3;rw[<-g];unfold lQ;dsimp only;have cb:∀i:Int,i<k->dU (more n ps).c9 i k=dU n.c9 i k:=fun i hi=>by
    unfold dU;rw[ka i hi]
   have tk:(more n ps).c9.take k=n.c9.take k:=by
    rw[el,cI (by lia)]
   have pp:=R.p h;have ga:(more n ps).c9.getD (n.c9.getD k p0).a.toNat p0=n.c9.getD (n.c9.getD k p0).a.toNat p0:=C0 (by lia);have gb:(more n ps).c9.getD (n.c9.getD k p0).b.toNat p0=n.c9.getD (n.c9.getD k p0).b.toNat p0:=C0 (by lia);rw[ep,cb _ c2,cb _ c4,tk,ga,gb]
  ·rw[af h3]
 ·have ep:(more n ps).c9.getD k p0=ps.getD (k - n.c9.length) p0:=GV (by lia);have hk2:k - n.c9.length<ps.length:=by
   rw[el,aA] at hk;lia
  have S:=hs _ (memD (d:=p0) hk2);unfold gH;dsimp only;rw[ep,ln];generalize ps.getD (k - n.c9.length) p0=p at S ep;obtain⟨kd,pn,ha,hb⟩:=S;have nd:gG p=[p.a,p.b]:=by
   unfold gG;rw[af (by lia),af (by lia)]
  rw[nd,af (fun z=>by
   obtain⟨v,hv,hv2⟩:=bK.mp z;have:=az hv2;rcases aJ.mp hv with e |hv
   ·lia
   ·have:=aw.mp hv;lia)]
  have mn:lO p=true:=by
   unfold lO;rw[af (by lia),af (by lia),af (by lia),af (by lia),af (by lia)]
  have mf:fF (more n ps).c9 k=true:=by
   unfold fF;dsimp only;rw[ep,ah (by lia)]
  rw[af (by rw[mn];simp),af (by rw[mf];simp),af (by lia)]
theorem we{n:Nw}(R:Right n)(h10:n.c9.length<=10){ps:List Part}(h2:ps.length<=2)(hs:∀p∈ps,Src n.last p):Right (more n ps):=by
 have el:(more n ps).c9=n.c9 ++ ps:=rfl;refine⟨R.l1,R.l8,?_,?_,fun p hp=> ?_,?_⟩
 ·rw[el,aA];lia
 ·rw[el,bN,aA];have e:ps.filter (fun p=>decide (p.kind≠4/\p.kind≠5))=[]:=List.filter_eq_nil_iff.mpr fun p hp=>by
   have:=(hs p hp).kind;rw[aq (by lia)];simp
  rw[e];exact R.ns
 ·rw[el] at hp;rcases aN.mp hp with m |m
  ·exact R.pn p m
  ·exact(hs p m).pn
 ·exact FG _ (fun k hk=>Kp R hs hk) _ (aj _)
theorem Kq(n:Nw)(ps:List Part):df (more n ps)=WhB.with_ (df n) (ps.map dw):=by
 unfold df more WhB.with_;dsimp only;rw[aP]
theorem xO(n:Nw)(ps:List Part){k:Nat}(h:k<=n.c9.length):(df (more n ps)).at_ k=(df n).at_ k:=by
 unfold Wh.Net.at_;show(more n ps).last.toNat+Wh.sumNat ((((n.c9 ++ ps).map dw).take k).map Wh.Elem.currents)=n.last.toNat+Wh.sumNat (((n.c9.map dw).take k).map Wh.Elem.currents);rw[aP,cI (by rw[lMp];exact h)];rfl
theorem Pl(n:Nw)(ps:List Part){k:Nat}(h:k<n.c9.length):(df (more n ps)).numAt k=(df n).numAt k:=by
 unfold Wh.Net.numAt;show(((((n.c9 ++ ps).map dw)[k]?).map fun(x:Wh.Elem)=>x.q).getD 0:Rat)=((((n.c9.map dw)[k]?).map fun(x:Wh.Elem)=>x.q).getD 0:Rat);rw[aP,b5 (by rw[lMp];exact h)]
theorem IJ(n:Nw)(ps:List Part):(df n).unknowns=(df (more n ps)).at_ n.c9.length:=by
 rw[xO n ps (aj _)];unfold Wh.Net.unknowns;show(df n).at_ (n.c9.map dw).length=_;rw[lMp]
theorem GW{n:Nw}{ps:List Part}(hs:∀p∈ps,Src n.last p)(k:Nat):(df (more n ps)).coupled k=(df n).coupled k:=by
 unfold Wh.Net.coupled;show((n.c9 ++ ps).map dw).filterMap _=(n.c9.map dw).filterMap _;rw[aP,List.filterMap_append];have e:(ps.map dw).filterMap (fun(x:Wh.Elem)=>if x.kind= .M then(if x.refs.getD 0 0=k then some (x.refs.getD 1 0,x.q) else if x.refs.getD 1 0=k then some (x.refs.getD 0 0,x.q) else none) else none)=[]:=List.filterMap_eq_nil_iff.mpr fun x hx=>by
  obtain⟨p,hp,rfl⟩:=aL.mp hx;have ek:(dw p).kind=kindOf p.kind:=rfl;rw[ek];rcases(hs p hp).kind with h |h <;>rw[h] <;>rfl
 rw[e,bM]
theorem Kr{n:Nw}(R:Right n){k:Nat}{x:Nat×Rat}(hx:x∈(df n).coupled k):x.1<=n.c9.length:=by
 unfold Wh.Net.coupled at hx;obtain⟨e,he,h⟩:=List.mem_filterMap.mp hx;obtain⟨p,hp,rfl⟩:=aL.mp he;obtain⟨i,hi,ei⟩:=aY hp;have eg:n.c9.getD i p0=p:=by rw[gDe,aa hi,ei];rfl
 have pn:=R.pn p hp;by_cases h3:(dw p).kind= .M
 ·rw[ah h3] at h;have k3:p.kind=3:=by
   have:=(iC pn.k0 pn.k1).1;exact this.mp h3
  have cp:=R.MV hi (by rw[eg];exact k3);rw[eg] at cp;have r0:(dw p).refs=[p.a.toNat,p.b.toNat]:=by
   unfold dw;dsimp only;rw[ah (show kindOf p.kind= .M from h3)]
  rw[r0] at h;have:=pn.a0;have:=pn.b0;split at h
  ·cases h
   show p.b.toNat<=_;lia
  ·split at h
   ·cases h
    show p.a.toNat<=_;lia
   ·cases h
 ·rw[af h3] at h;cases h
theorem Rj{n:Nw}(R:Right n){k:Nat}(hk:k<n.c9.length)(h3:(n.c9.getD k p0).kind≠3):(dw (n.c9.getD k p0)).refs.getD 0 0<=n.c9.length:=by
 have pn:=R.p hk;by_cases h8:(n.c9.getD k p0).kind=8\/(n.c9.getD k p0).kind=9
 ·have f:=R.QZ hk h8;unfold dw;dsimp only;have e1:¬kindOf (n.c9.getD k p0).kind= .M:=fun e=>h3 ((iC pn.k0 pn.k1).1.mp e)
  have e2:Wh.refCount (kindOf (n.c9.getD k p0).kind)=1:=by rcases h8 with h |h <;>rw[h] <;>rfl
  rw[af e1,ah e2];show(n.c9.getD k p0).c.toNat<=_;lia
 ·unfold dw;dsimp only;have e1:¬kindOf (n.c9.getD k p0).kind= .M:=fun e=>h3 ((iC pn.k0 pn.k1).1.mp e)
  have e2:¬Wh.refCount (kindOf (n.c9.getD k p0).kind)=1:=by
   rcases oq pn.k0 pn.k1 with h |h |h |h |h |h |h |h |h |h |h |h |h |h <;>first |lia |(rw[h];decide)
  rw[af e1,af e2];exact aM _
theorem M6{n:Nw}(R:Right n){ps:List Part}(hs:∀p∈ps,Src n.last p)(r:List Nat){k:Nat}(hk:k<n.c9.length):(df (more n ps)).lawsOf ((df (more n ps)).rest r) k (dw (n.c9.getD k p0))=(df n).lawsOf ((df n).rest r) k (dw (n.c9.getD k p0)):=by
 have a1:=xO n ps (b7 hk);have nm:=Pl n ps hk;have cp:=GW hs k;have cm:((df n).coupled k).map (fun(p:Nat×Rat)=>((df (more n ps)).at_ p.1,-p.2))=((df n).coupled k).map (fun(p:Nat×Rat)=>((df n).at_ p.1,-p.2)):=aU fun x hx=>by
  rw[xO n ps (Kr R hx)]
 have pn:=R.p hk;by_cases h3:(n.c9.getD k p0).kind=3
 ·have e:(dw (n.c9.getD k p0)).kind= .M:=(iC pn.k0 pn.k1).1.mpr h3;unfold Wh.Net.lawsOf;dsimp only;rw[e]
 ·have a2:=xO n ps (Rj R hk h3);unfold Wh.Net.lawsOf Wh.Net.rest;dsimp only;rw[a1,a2,nm,cp,cm]
theorem BM{α:Type}{l m:List α}{d:α}{k:Nat}(h:k<l.length):(l ++ m).getD k d=l.getD k d:=by
 rw[gDe,gDe,b5 h]
theorem xP{α:Type}{l m:List α}{d:α}{k:Nat}(h:l.length<=k):(l ++ m).getD k d=m.getD (k - l.length) d:=by
 rw[gDe,gDe,bz h]
theorem BN{α β:Type}{f g:α->List β}:∀{l:List α},(∀x∈l,f x=g x)->l.flatMap f=l.flatMap g
 |[],_=>rfl
 |x::l,h=>by rw[a9,a9,h x ax,BN fun y m=>h y (ao _ m)]
theorem Po{n:Nw}{ps:List Part}{k:Nat}(hk:k<=n.c9.length)(v:Nat)(x:Wh.Elem):(df (more n ps)).outOf v k x=(df n).outOf v k x:=by
 unfold Wh.Net.outOf;rw[xO n ps hk]
theorem L6(φ:Nat->PF):∀{l:List (Nat×Rat)},(∀t∈l,φ t.1=0)->Rv φ l=0
 |[],_=>rfl
 |t::l,h=>by
  show PF.const t.2*φ t.1+Rv φ l=0;rw[h t ax,L6 φ fun t m=>h t (ao _ m)];grind
section
variable {n:Nw}(R:Right n){p:Part}(hp:Src n.last p)(h5:p.kind=5)
include R hp h5
theorem V8:(df (more n [p])).unknowns=(df n).unknowns+1:=by
 rw[IJ n [p]];unfold Wh.Net.unknowns Wh.Net.at_;show(more n [p]).last.toNat+Wh.sumNat ((((n.c9 ++ [p]).map dw).take ((n.c9 ++ [p]).map dw).length).map Wh.Elem.currents)=(more n [p]).last.toNat+Wh.sumNat ((((n.c9 ++ [p]).map dw).take n.c9.length).map Wh.Elem.currents)+1;rw[aG,aP,cI (by rw[lMp];exact aj _),bo (by rw[lMp];exact aj _),aP];unfold Wh.sumNat;rw[cO];show _+ ((List.foldl (fun a b=>a+b) 0 ((n.c9.map dw).map Wh.Elem.currents))+(dw p).currents)=_;have e:(dw p).currents=1:=by
  unfold Wh.Elem.currents;have ek:(dw p).kind=kindOf p.kind:=rfl;rw[ek,h5];rfl
 rw[e];lia
theorem U6(r:List Nat):∃A B A':List Wh.Law,(df n).laws ((df n).rest r)=A ++ B/\(df (more n [p])).laws ((df (more n [p])).rest r)=A' ++ (B ++ [⟨[((df n).unknowns,1)],[],(df (more n [p])).numAt n.c9.length⟩])/\A'.length=A.length/\
  ∀i,i<A.length->∃T T':List (Nat×Rat),A.getD i L0=⟨T,[],0⟩/\A'.getD i L0=⟨T ++ T',[],0⟩/\∀t∈T',t.1=(df n).unknowns:=by
 have lm:(more n [p]).c9.length=n.c9.length+1:=by
  show(n.c9 ++ [p]).length=_;rw[aA];rfl
 have gl:∀k,k<n.c9.length->(more n [p]).c9.getD k p0=n.c9.getD k p0:=fun k hk=>C0 hk
 have gp:(more n [p]).c9.getD n.c9.length p0=p:=by
  show(n.c9 ++ [p]).getD _ _=_;rw[GV (aj _),cj];rfl
 have ix:(df (more n [p])).indexed=(df n).indexed ++ [(n.c9.length,dw p)]:=by
  rw[fG,fG,lm,bZ,aP,List.map_singleton,gp];congr 1;exact aU fun k hk=>by rw[gl k (aW.mp hk)]
 have um:(df (more n [p])).at_ n.c9.length=(df n).unknowns:=(IJ n [p]).symm;have ek:(dw p).kind= .I:=by
  have ek:(dw p).kind=kindOf p.kind:=rfl;rw[ek,h5];rfl
 have mem:∀q∈(df n).indexed,q.1<n.c9.length/\q.2=dw (n.c9.getD q.1 p0):=fun q hq=>by
  rw[fG] at hq;obtain⟨k,hk,rfl⟩:=aL.mp hq;exact⟨aW.mp hk,rfl⟩
 refine⟨_,_,(List.range (df (more n [p])).nodes).map fun(v:Nat)=>⟨(df (more n [p])).indexed.flatMap fun(q:Nat×Wh.Elem)=>(df (more n [p])).outOf (v+1) q.1 q.2,[],0⟩,rfl,?_,?_,?_⟩
 ·unfold Wh.Net.laws;congr 1;rw[ix,bU];congr 1
  ·exact BN fun q hq=>by
    obtain⟨h1,h2⟩:=mem q hq;rw[h2];refine M6 R (fun x hx=> ?_) r h1;rw[aw.mp hx];exact hp
  ·rw[List.flatMap_singleton];unfold Wh.Net.lawsOf;dsimp only;rw[ek,um];rfl
 ·rw[lMp,lMp];rfl
 ·intro i hi;rw[lMp,bH] at hi;refine⟨(df n).indexed.flatMap fun q=>(df n).outOf (i+1) q.1 q.2,(df (more n [p])).outOf (i+1) n.c9.length (dw p),?_,?_,?_⟩
  ·exact kr _ _ _ _ hi
  ·refine(kr _ _ _ _ (show i<(df (more n [p])).nodes from hi)).trans ?_;rw[ix,bU,List.flatMap_singleton];congr 2;exact BN fun q hq=>Po (b7 (mem q hq).1) _ _
  ·intro t ht;unfold Wh.Net.outOf at ht;dsimp only at ht;rw[ek,af (by decide),af (by decide),um] at ht;rcases aN.mp ht with h |h
   ·split at h
    ·rw[aw.mp h]
    ·cases h
   ·split at h
    ·rw[aw.mp h]
    ·cases h
theorem Rk(r:List Nat):det (df (more n [p])).unknowns (Sm (more n [p]) ((df (more n [p])).rest r) 0)=det (df n).unknowns (Sm n ((df n).rest r) 0):=by
 obtain⟨A,B,A',e1,e2,la,hA⟩:=U6 R hp h5 r;have u:=V8 R hp h5;have ll:=iD n ((df n).rest r);rw[e1,aA] at ll;rw[u];have eiz:∀j m:Nat,j<m->(ei j:Nat->PF) m=0:=fun j m h=>uf (by lia)
 rw[B9]
 ·refine eK _ fun i j hi hj=> ?_
  unfold Sm;rw[e1,e2,u];by_cases h:i<A.length
  ·obtain⟨T,T',t1,t2,t3⟩:=hA i h;rw[BM h,BM (by lia),t1,t2];unfold Lv;dsimp only;rw[hJ,L6 (ei j) (l:=T') (fun t ht=>by rw[t3 t ht];exact eiz j _ hj),eiz j _ hj,eiz j _ (by lia)];grind
  ·have g1:(A' ++ (B ++ [(⟨[((df n).unknowns,1)],[],(df (more n [p])).numAt n.c9.length⟩:Wh.Law)])).getD i L0=B.getD (i - A.length) L0:=by
    rw[xP (by lia),la,BM (by lia)]
   have g2:(A ++ B).getD i L0=B.getD (i - A.length) L0:=xP (by lia);rw[g1,g2];unfold Lv;rw[eiz j _ hj,eiz j _ (by lia)]
   all_goals grind
 ·intro j hj;unfold Sm;have g1:(A' ++ (B ++ [(⟨[((df n).unknowns,1)],[],(df (more n [p])).numAt n.c9.length⟩:Wh.Law)])).getD (df n).unknowns L0=(⟨[((df n).unknowns,1)],[],(df (more n [p])).numAt n.c9.length⟩:Wh.Law):=by
   rw[xP (by lia),xP (by lia),show(df n).unknowns - A'.length - B.length=0 by lia];rfl
  rw[e2,u,g1];show Lv (ei j) 0 ((df n).unknowns+1) ⟨[((df n).unknowns,1)],[],_⟩=ei (df n).unknowns j;unfold Lv;dsimp only;rw[eiz j _ (by lia)];show(PF.const 1*(ei j:Nat->PF) (df n).unknowns+0)+0*0+_* 0=_;have es:(ei j:Nat->PF) (df n).unknowns=ei (df n).unknowns j:=by
   unfold ei;by_cases e:j=(df n).unknowns
   ·rw[ah e,ah e.symm]
   ·rw[af e,af (fun z=>e z.symm)]
  rw[es,gz];grind
end
noncomputable def jK (kind a b top:Int):Part:=⟨kind,a,b,0,0,top,1⟩
noncomputable def Ed (n:Nw) (st:List Bool) (into:Int×Int):lJ:=iw (more n [jK 5 into.2 into.1 0]) (st ++ [false]) (n.c9.length:Int)
noncomputable def C1 (s:dN×List dN) (ac:Int×Int):List Int:=sO (jl s ac.1 ac.2) s.1
theorem Ks{last kind a b top:Int}(hk:kind=4\/kind=5)(a0:0<=a)(b0:0<=b)(al:a<=last)(bl:b<=last)(ht:top=0\/top=1):Src last (jK kind a b top):=
 ⟨hk,⟨by show 0<=kind;lia,by show kind<=13;lia,a0,b0,by show(0:Int)<=0;lia,by show(0:Int)<=0;lia,by show top.natAbs<=1000000;lia,by show(1:Int)<=1;lia,by show(1:Int)<=1000000;lia⟩,al,bl⟩
theorem V9(kind a b t u:Int)(hk:kind=4\/kind=5):xN (jK kind a b t) (jK kind a b u):= .inr ⟨hk,rfl,rfl,rfl,rfl,rfl⟩
theorem Rl{n m:Nw}(hl:m.last=n.last)(h:ig n.c9 m.c9)(st:List Bool)(src:Int):rows (iw m st src)=rows (iw n st src):=by
 unfold iw;rw[h.len];exact Tn hl h _ _ _
theorem L7{len j:Nat}{st:List Bool}{r:List Nat}(h:nM 0 len st r):nM 0 (len+j) (st ++ List.replicate j false) r:=by
 obtain⟨h1,h2,h3⟩:=h;refine⟨by rw[aA,aQ,h1],h2,fun k hk=> ?_⟩;rw[h3 k hk];by_cases hl:k - 0<st.length
 ·rw[BM hl]
 ·rw[xP (by lia)];rw[gDe,gDe,aI (by lia)];cases e:(List.replicate j false)[k - 0 - st.length]? with
  |none=>rfl
  |some b=>rw[List.eq_of_mem_replicate (aB e)];rfl
theorem To(c d:Int):dw (jK 5 d c 1)=WhB.currentInto c.toNat d.toNat:=by
 unfold dw jK WhB.currentInto;show(⟨.I,[d.toNat,c.toNat],[],((1:Int):Rat) / ((1:Int):Rat)⟩:Wh.Elem)=_;congr 1;have e:((1:Int):Rat)=1:=rfl;rw[e];grind
theorem IK(N:Wh.Net)(r:List Nat)(l:List Wh.Elem)(e:Nat)(h:∀k,(l[k]?.map fun x=>x.q).getD 0=if k=e then(1:Rat) else 0):WhB.drives N r l=Wh.alone r (N.elems.length+e):=by
 unfold WhB.drives Wh.alone;congr 1;funext k;by_cases hk:k<N.elems.length
 ·rw[ah hk,af (by lia)]
 ·rw[af hk];unfold Wh.Net.numAt WhB.with_;dsimp only;rw[bz (by lia),h];by_cases q:k - N.elems.length=e
  ·rw[ah q,ah (by lia)]
  ·rw[af q,af (by lia)]
theorem BO{l:List Int}(h:fq l=[]):(fb l).c9.length<=10:=by
 unfold fq at h;cases e:nA l with
 |false=>rw[e,ah rfl] at h;cases h
 |true=>exact(O0 e).c9
theorem AX{n:Nw}(R:Right n){st:List Bool}{r:List Nat}{src:Int}{d:dN}{tops:List dN}(D:T5 n st r src d tops){q:Rat}(ht:∀c,c<(df n).unknowns->dG (tops.getD c [])=PF.const q*fz ((df n).numerator (Wh.alone r src.toNat) c)){a b:Int}(a0:0<=a)(al:a<=n.last)(b0:0<=b)(bl:b<=n.last):
  Trim (jl (d,tops) a b)/\dG (jl (d,tops) a b)=PF.const q*fz (Wh.subPoly ((df n).voltageOver (Wh.alone r src.toNat) a.toNat) ((df n).voltageOver (Wh.alone r src.toNat) b.toNat)):=by
 obtain⟨t1,e1⟩:=AW R D ht a0 al;obtain⟨t2,e2⟩:=AW R D ht b0 bl;unfold jl;refine⟨u5 _ _,?_⟩;rw[qT,e1,e2,Gx];grind
theorem U7{n:Nw}{st:List Bool}{r:List Nat}{src:Int}{d:dN}{tops:List dN}(D:T5 n st r src d tops){q:Rat}(hd:dG d=PF.const q*fz ((df n).determinant (Wh.alone r src.toNat))):¬Wh.isZero ((df n).determinant (Wh.alone r src.toNat))=true:=fun z=>by
 have:=(jA _).mp z;rw[this] at hd;exact rL D.Ck D.UW (by rw[hd];grind)
theorem U8{n:Nw}(R:Right n)(h10:n.c9.length<=10){st:List Bool}{r:List Nat}(hst:nM 0 n.c9.length st r)(D0:(det (df n).unknowns (Sm n ((df n).rest r) 0)).f 0≠0){a b c d:Int}(a0:0<=a)(al:a<=n.last)(b0:0<=b)(bl:b<=n.last)(c0:0<=c)(cl:c<=n.last)(d0:0<=d)(dl:d<=n.last):
  ∃e tops,sol (rows (Ed n st (c,d)))=some (e,tops)/\T5 (more n [jK 5 d c 1]) (st ++ [false]) r (n.c9.length:Int) e tops/\WhBNeutral.shown (WhB.ofQuotient (WhB.zOf (df n) r a.toNat b.toNat c.toNat d.toNat))=0::C1 (e,tops) (a,b):=by
 have hs:∀p∈[jK 5 d c 1],Src n.last p:=fun p hp=>by
  rw[aw.mp hp];exact Ks (.inr rfl) d0 c0 dl cl (.inr rfl)
 have R':=we R h10 (ps:=[jK 5 d c 1]) (by show 1<=2;decide) hs;have lm:(more n [jK 5 d c 1]).c9.length=n.c9.length+1:=by
  show(n.c9 ++ [_]).length=_;rw[aA];rfl
 have hst':nM 0 (more n [jK 5 d c 1]).c9.length (st ++ [false]) r:=by
  rw[lm];exact L7 (j:=1) hst
 have D0':(det (df (more n [jK 5 d c 1])).unknowns (Sm (more n [jK 5 d c 1]) ((df (more n [jK 5 d c 1])).rest r) 0)).f 0≠0:=by
  rw[Rk R (hs _ (aw.mpr rfl)) rfl r];exact D0
 have is:AG (more n [jK 5 d c 1]) (n.c9.length:Int)=true:=by
  unfold AG kindAt;rw[lm,bb];show(decide _&&decide (((n.c9 ++ [jK 5 d c 1]).getD n.c9.length p0).kind=4\/((n.c9 ++ [jK 5 d c 1]).getD n.c9.length p0).kind=5))=true;rw[GV (aj _),cj];rw[ak (by lia)];rfl
 obtain⟨e,tops,es,D⟩:=Kk R' hst' D0' (b6 _) is;obtain⟨q,q0,hd,ht⟩:=D.ex;have er:rows (Ed n st (c,d))=rows (iw (more n [jK 5 d c 1]) (st ++ [false]) (n.c9.length:Int)):=Rl (n:=more n [jK 5 d c 1]) (m:=more n [jK 5 d c 0]) rfl ((ig.refl _).app (.cons (V9 5 d c 1 0 (.inr rfl)) .nil)) _ _;refine⟨e,tops,by rw[er];exact es,D,?_⟩;obtain⟨tT,eT⟩:=AX R' D ht a0 al b0 bl;have nz:=U7 D hd;have em:df (more n [jK 5 d c 1])=WhB.with_ (df n) [WhB.currentInto c.toNat d.toNat]:=by
  rw[Kq,List.map_singleton,To]
 have eg:WhB.drives (df n) r [WhB.currentInto c.toNat d.toNat]=Wh.alone r ((n.c9.length:Int)).toNat:=by
  rw[IK (df n) r _ 0 (fun k=>by cases k <;>rfl),bb];show Wh.alone r ((n.c9.map dw).length+0)=_;rw[lMp];rfl
 unfold WhB.zOf WhB.over;dsimp only;rw[eg,<-em,af nz];show 0::(WhB.polyTold _ ++ WhB.polyTold _)=_;unfold C1;dsimp only;rw[QX tT D.Ck D.UW q0 eT hd]
end de
namespace de
noncomputable def GX (t b:Int):List Int:=
 let d:=if b<0 then -lE t b else lE t b
 [t.fdiv d,b.fdiv d]
theorem L8{t z:Int}(h:0<z):GX t z=WhB.fraction ((t:Rat) / (z:Rat)):=by
 unfold GX WhB.fraction;rw[<-Rat.divInt_eq_div,Rat.num_divInt,Rat.den_divInt,af (by lia),af (by lia),Int.sign_eq_one_of_pos h,Int.one_mul];dsimp only;have g:lE t z=((z.gcd t:Nat):Int):=by
  unfold lE;rw[Nat.gcd_comm];rfl
 rw[g];have g0:(0:Int)<=((z.gcd t:Nat):Int):=b6 _;rw[Int.fdiv_eq_ediv_of_nonneg _ g0,Int.fdiv_eq_ediv_of_nonneg _ g0];have e:((z.natAbs / z.gcd t:Nat):Int)=z / ((z.gcd t:Nat):Int):=by
  rw[Int.natCast_ediv,Int.natAbs_of_nonneg (by lia)]
 rw[e]
theorem Pp{t z:Int}(h:z<0):GX t z=GX (-t) (-z):=by
 unfold GX;rw[ah h,af (by lia)];have e:lE (-t) (-z)=lE t z:=by
  unfold lE;rw[Int.natAbs_neg,Int.natAbs_neg]
 rw[e];dsimp only;have f:∀x y:Int,x.fdiv (-y)=(-x).fdiv y:=fun x y=>by rw[<-Int.neg_fdiv_neg,Int.neg_neg]
 rw[f,f]
theorem Pq{t z:Int}{x:Rat}(h:z≠0)(e:(t:Rat)=x*(z:Rat)):GX t z=WhB.fraction x:=by
 have z0:((z:Int):Rat)≠0:=fun c=>h (by exact_mod_cast c)
 rcases Int.lt_or_gt_of_ne h with n |p
 ·rw[Pp n,L8 (by lia)];congr 1;rw[Rat.intCast_neg,Rat.intCast_neg,e];grind
 ·rw[L8 p];congr 1;rw[e];grind
theorem Pr{x y:Rat}:WhB.fraction x=WhB.fraction y↔x=y:=by
 constructor
 ·intro h;unfold WhB.fraction at h;have h1:=(List.cons.inj h).1;have h2:=(List.cons.inj (List.cons.inj h).2).1;exact Rat.ext h1 (by exact_mod_cast h2)
 ·intro h;rw[h]
noncomputable def zH (s:dN×List dN) (v:Int):List Int:=GX (e9 (gy s v)) (e9 s.1)
noncomputable def zI (n:Nw) (st:List Bool) (a:List Int) (i:Int):List (List Int):=match sol (rows (Ed n st (i,0))) with
 |none=>[]
 |some s=>a.map fun v=>C1 s (v,0)
noncomputable def lY (n:Nw) (p:List Bool×(dN×List dN)) (a:List Int):List (List Int):=a.map (zH p.2) ++ a.flatMap (zI n p.1 a)
noncomputable def same (l m a b:List Int):List Int:=
 if a.length≠b.length\/¬(1<=a.length/\a.length<=3) then[-1] else
 if fq l≠[] then fq l else if fq m≠[] then fq m else
 if(a.any fun v=>decide ((fb l).last<v))=true\/(b.any fun v=>decide ((fb m).last<v))=true then[-3] else
 match point (fb l),point (fb m) with
  |some p,some q=>[0,if lY (fb l) p a=lY (fb m) q b then 1 else 0]
  |_,_=>[-4]
theorem M7{u d:List Rat}(hd:fz d≠0):(Wh.quotient u d).num≠[0]/\(Wh.quotient u d).den≠[0]:=by
 by_cases hu:fz u=0
 ·have zu:=(jA u).mpr hu;unfold Wh.quotient;dsimp only;rw[ah zu,ah zu];decide +kernel
 ·have C:=AL hu hd;have g:∀{N:dN},Trim N->N≠[]->N≠[0]:=fun{N} t n e=>fB.mp t n (by rw[e];rfl)
  exact⟨g C.tN C.nN,g C.tD C.nD⟩
theorem L9(A:dN):∃t:List Int,WhB.polyTold A=(t.length:Int)::t:=by
 unfold WhB.polyTold;split
 ·exact⟨[0],rfl⟩
 ·exact⟨A.reverse,by rw[bu]⟩
theorem Pt{A B:dN}(a:A≠[0])(b:B≠[0])(h:WhB.polyTold A=WhB.polyTold B):A=B:=by
 unfold WhB.polyTold at h;cases A with
 |nil=>
  cases B with
  |nil=>rfl
  |cons y B=>
   have e:[0]=(y::B).reverse:=(List.cons.inj h).2;exact absurd (by rw[<-List.reverse_reverse (y::B),<-e];rfl) b
 |cons x A=>
  cases B with
  |nil=>
   have e:(x::A).reverse=[0]:=(List.cons.inj h).2;exact absurd (by rw[<-List.reverse_reverse (x::A),e];rfl) a
  |cons y B=>
   have e:(x::A).reverse=(y::B).reverse:=(List.cons.inj h).2;exact List.reverse_inj.mp e
theorem Pu{A B C D:dN}(a:A≠[0])(b:B≠[0])(c:C≠[0])(d:D≠[0])(h:WhB.polyTold A ++ WhB.polyTold B=WhB.polyTold C ++ WhB.polyTold D):A=C/\B=D:=by
 obtain⟨t,et⟩:=L9 A;obtain⟨u,eu⟩:=L9 C;have l:(WhB.polyTold A).length=(WhB.polyTold C).length:=by
  have h':=h;rw[et,eu] at h';have:=(List.cons.inj h').1;rw[et,eu,au,au];lia
 obtain⟨h1,h2⟩:=List.append_inj h l;exact⟨Pt a c h1,Pt b d h2⟩
theorem qY{α β γ:Type}(f:α->γ)(g:β->γ):∀{a:List α} {b:List β},a.length=b.length->(a.map f=b.map g↔∀p∈a.zip b,f p.1=g p.2)
 |[],[],_=>⟨fun _ p h=>by simp at h,fun _=>rfl⟩
 |[],_::_,h=>by simp at h
 |_::_,[],h=>by simp at h
 |x::a,y::b,h=>by
  rw[aH,aH,List.zip_cons_cons];constructor
  ·intro e p hp;rcases aJ.mp hp with rfl |hp
   ·exact(List.cons.inj e).1
   ·exact(qY f g (by simpa using h)).mp (List.cons.inj e).2 p hp
  ·intro e;rw[e (x,y) ax,(qY f g (by simpa using h)).mpr fun p hp=>e p (ao _ hp)]
theorem wg{α β γ:Type}(f:α->List γ)(g:β->List γ){k:Nat}(hf:∀x,(f x).length=k)(hg:∀x,(g x).length=k):∀{a:List α} {b:List β},a.length=b.length->(a.flatMap f=b.flatMap g↔∀p∈a.zip b,f p.1=g p.2)
 |[],[],_=>⟨fun _ p h=>by simp at h,fun _=>rfl⟩
 |[],_::_,h=>by simp at h
 |_::_,[],h=>by simp at h
 |x::a,y::b,h=>by
  rw[a9,a9,List.zip_cons_cons];constructor
  ·intro e p hp;obtain⟨e1,e2⟩:=List.append_inj e (by rw[hf,hg]);rcases aJ.mp hp with rfl |hp
   ·exact e1
   ·exact(wg f g hf hg (by simpa using h)).mp e2 p hp
  ·intro e;rw[e (x,y) ax,(wg f g hf hg (by simpa using h)).mpr fun p hp=>e p (ao _ hp)]
noncomputable def vF (n:Nw) (r:List Nat) (v i:Int):List Int:=match WhB.zOf (df n) r v.toNat 0 i.toNat 0 with
 |none=>[]
 |some q=>WhB.polyTold q.num ++ WhB.polyTold q.den
theorem Pw{n:Nw}{r:List Nat}{a b c d:Nat}{q:Wh.Quotient}(h:WhB.zOf (df n) r a b c d=some q):q.num≠[0]/\q.den≠[0]:=by
 unfold WhB.zOf WhB.over at h;dsimp only at h;split at h
 ·cases h
 ·rename_i z;cases h
  exact M7 fun e=>z ((jA _).mpr e)
theorem GY{n:Nw}(R:Right n)(h10:n.c9.length<=10){st:List Bool}{r:List Nat}(hst:nM 0 n.c9.length st r)(D0:(det (df n).unknowns (Sm n ((df n).rest r) 0)).f 0≠0){v i:Int}(v0:0<=v)(vl:v<=n.last)(i0:0<=i)(il:i<=n.last):
  ∃q,WhB.zOf (df n) r v.toNat 0 i.toNat 0=some q/\∃s,sol (rows (Ed n st (i,0)))=some s/\C1 s (v,0)=WhB.polyTold q.num ++ WhB.polyTold q.den:=by
 obtain⟨e,tops,es,_,ez⟩:=U8 R h10 hst D0 v0 vl (Int.le_refl 0) (Int.le_trans v0 vl) i0 il (Int.le_refl 0) (Int.le_trans v0 vl);cases hz:WhB.zOf (df n) r v.toNat 0 i.toNat 0 with
 |none=>
  have hz':WhB.zOf (df n) r v.toNat (0:Int).toNat i.toNat (0:Int).toNat=none:=hz;rw[hz'] at ez;exact absurd (List.cons.inj ez).1 (by decide)
 |some q=>
  have hz':WhB.zOf (df n) r v.toNat (0:Int).toNat i.toNat (0:Int).toNat=some q:=hz;rw[hz'] at ez;exact⟨q,rfl,(e,tops),es,((List.cons.inj ez).2).symm⟩
theorem Rm{n:Nw}(R:Right n)(h10:n.c9.length<=10){st:List Bool}{r:List Nat}(hst:nM 0 n.c9.length st r)(D0:(det (df n).unknowns (Sm n ((df n).rest r) 0)).f 0≠0){a:List Int}(ha:∀v∈a,0<=v/\v<=n.last){i:Int}(hi:i∈a):
  zI n st a i=a.map fun v=>vF n r v i:=by
 unfold zI;obtain⟨q,_,s,es,_⟩:=GY R h10 hst D0 (ha i hi).1 (ha i hi).2 (ha i hi).1 (ha i hi).2;rw[es];refine aU fun v hv=> ?_
 obtain⟨q',eq,s',es',et⟩:=GY R h10 hst D0 (ha v hv).1 (ha v hv).2 (ha i hi).1 (ha i hi).2;rw[es] at es';cases es'
 unfold vF;rw[eq];exact et
theorem Rn{n:Nw}{p:dN×List dN}{x:List Rat}(d0:e9 p.1≠0)(ht:∀c,c<(df n).unknowns->((e9 (p.2.getD c []):Int):Rat)=x.getD c 0*((e9 p.1:Int):Rat)){v:Int}(v0:0<=v)(vl:v<=n.last):zH p v=WhB.fraction (Wh.voltage x v.toNat):=by
 unfold zH;refine Pq d0 ?_;unfold gy Wh.voltage;have nl:=kx n;by_cases h:0<v
 ·rw[ah h,af (by lia)];have e:v.toNat - 1=(v - 1).toNat:=by lia
  rw[e];exact ht _ (by lia)
 ·rw[af h,ah (by lia)];show((0:Int):Rat)=0*_;grind
theorem Ma{n:Nw}(R:Right n)(h10:n.c9.length<=10){p:List Bool×(dN×List dN)}{y:List Nat×List Rat}(pr:Iw n (some p) (some y)){a:List Int}(ha:∀v∈a,0<=v/\v<=n.last):
  lY n p a=a.map (fun v=>WhB.fraction (Wh.voltage y.2 v.toNat)) ++ a.flatMap fun i=>a.map fun v=>vF n y.1 v i:=by
 obtain⟨⟨_,d0,_,ht⟩,hst,D0⟩:=pr;unfold lY;congr 1
 ·exact aU fun v hv=>Rn d0 ht (ha v hv).1 (ha v hv).2
 ·exact BN fun i hi=>Rm R h10 hst D0 ha hi
theorem IL{n:Nw}(R:Right n){r:List Nat}(D0:(det (df n).unknowns (Sm n ((df n).rest r) 0)).f 0≠0):¬Wh.isZero ((df n).determinant (Wh.Net.quiet r))=true:=fun z=>by
 have z':=(jA _).mp z;rw[uz R] at z';refine D0 ?_;have e1:=CQ R ((df n).rest r) 0 0 0 rfl;have e2:=CQ R (Wh.Net.quiet r) XX 0 0 (Q3 0);rw[<-e1,Fy (df n) ((df n).rest r) (Wh.Net.quiet r) (fun _=>rfl) 0,e2,z'];rfl
theorem FH{n:Nw}(R:Right n){a:List Int}(a0:∀v∈a,0<=v):((a.map Int.toNat).any fun(v:Nat)=>decide ((df n).nodes<v))=a.any fun v=>decide (n.last<v):=by
 rw[List.any_map,a4,bK,bK];have hn:=R.nodes;constructor
 ·rintro⟨v,hv,h⟩;have h:decide ((df n).nodes<v.toNat)=true:=h;have:=az h;exact⟨v,hv,ak (by lia)⟩
 ·rintro⟨v,hv,h⟩;have:=az h;refine⟨v,hv,?_⟩;show decide ((df n).nodes<v.toNat)=true;exact ak (by have:=a0 v hv;lia)
theorem Ro{n m:Nw}(R:Right n)(S:Right m)(n10:n.c9.length<=10)(m10:m.c9.length<=10){p q:List Bool×(dN×List dN)}{x y:List Nat×List Rat}(pr:Iw n (some p) (some x))(qr:Iw m (some q) (some y)){a b:List Int}(hl:a.length=b.length)(ha:∀v∈a,0<=v/\v<=n.last)(hb:∀v∈b,0<=v/\v<=m.last):
  WhB.sameAt (df n) (df m) x.1 y.1 x.2 y.2 (a.map Int.toNat) (b.map Int.toNat)=some (decide (lY n p a=lY m q b)):=by
 have ⟨_,hst,D0⟩:=pr;have ⟨_,gst,E0⟩:=qr;unfold WhB.sameAt;dsimp only;rw[af (fun h=>h.elim (IL R D0) (IL S E0)),Ma R n10 pr ha,Ma S m10 qr hb];congr 1;rw[a4,aF,bc,bc,bf,List.zip_map];have key:∀w∈a.zip b,∀i∈a.zip b,(match WhB.zOf (df n) x.1 w.1.toNat 0 i.1.toNat 0,WhB.zOf (df m) y.1 w.2.toNat 0 i.2.toNat 0 with
   |some u,some v=>Wh.sameQuotient u v
   |_,_=>false)=true↔vF n x.1 w.1 i.1=vF m y.1 w.2 i.2:=fun w hw i hi=>by
  have w1:=ha _ (List.of_mem_zip hw).1;have w2:=hb _ (List.of_mem_zip hw).2;have i1:=ha _ (List.of_mem_zip hi).1;have i2:=hb _ (List.of_mem_zip hi).2;obtain⟨u,eu,_⟩:=GY R n10 hst D0 w1.1 w1.2 i1.1 i1.2;obtain⟨v,ev,_⟩:=GY S m10 gst E0 w2.1 w2.2 i2.1 i2.2;unfold vF;rw[eu,ev];dsimp only;unfold Wh.sameQuotient;rw[aF,beq_iff_eq,beq_iff_eq];constructor
  ·rintro⟨e1,e2⟩;rw[e1,e2]
  ·intro e;obtain⟨g1,g2⟩:=Pw eu;obtain⟨g3,g4⟩:=Pw ev;exact Pu g1 g2 g3 g4 e
 have app:a.map (fun v=>WhB.fraction (Wh.voltage x.2 v.toNat)) ++ (a.flatMap fun i=>a.map fun v=>vF n x.1 v i)=b.map (fun v=>WhB.fraction (Wh.voltage y.2 v.toNat)) ++ (b.flatMap fun i=>b.map fun v=>vF m y.1 v i)↔(a.map (fun v=>WhB.fraction (Wh.voltage x.2 v.toNat))=b.map fun v=>WhB.fraction (Wh.voltage y.2 v.toNat))/\(a.flatMap fun i=>a.map fun v=>vF n x.1 v i)=b.flatMap fun i=>b.map fun v=>vF m y.1 v i:=
  ⟨fun e=>List.append_inj e (by rw[lMp,lMp,hl]),fun⟨e1,e2⟩=>by rw[e1,e2]⟩
 rw[app,qY _ _ hl,wg (k:=a.length) _ _ (fun i=>lMp _) (fun i=>by rw[lMp,hl]) hl];constructor
 ·rintro⟨h1,h2⟩;constructor
  ·intro w hw;have:=h1 _ (aL.mpr ⟨w,hw,rfl⟩);exact congrArg WhB.fraction (az this)
  ·intro i hi;refine(qY _ _ hl).mpr fun w hw=> ?_
   have:=(bc.mp (h2 _ (aL.mpr ⟨w,hw,rfl⟩))) _ (aL.mpr ⟨i,hi,rfl⟩);exact(key w hw i hi).mp this
 ·rintro⟨h1,h2⟩;constructor
  ·intro w' hw';obtain⟨w,hw,rfl⟩:=aL.mp hw';exact ak (Pr.mp (h1 w hw))
  ·intro w' hw';obtain⟨w,hw,rfl⟩:=aL.mp hw';refine bc.mpr fun i' hi'=> ?_
   obtain⟨i,hi,rfl⟩:=aL.mp hi';exact(key w hw i hi).mpr ((qY _ _ hl).mp (h2 i hi) w hw)
theorem Rq(l m a b:List Int)(a0:∀v∈a,0<=v)(b0:∀v∈b,0<=v):same l m a b=PyWrwirb.same l m a b:=by
 have e:PyWrwirb.same l m a b=WhBNeutral.shown (WhB.answer (.same l m (a.map Int.toNat) (b.map Int.toNat))):=rfl;rw[e];unfold WhB.answer;dsimp only;unfold same;have c1:((a.map Int.toNat).length≠(b.map Int.toNat).length\/(a.map Int.toNat).isEmpty=true\/3<(a.map Int.toNat).length)↔(a.length≠b.length\/¬(1<=a.length/\a.length<=3)):=by
  rw[lMp,lMp];have:(a.map Int.toNat).isEmpty=true↔a.length=0:=by cases a <;>simp
  rw[this];lia
 by_cases h1:a.length≠b.length\/¬(1<=a.length/\a.length<=3)
 ·rw[ah h1,ah (c1.mpr h1)];rfl
 rw[af h1,af (fun z=>h1 (c1.mp z)),Iz];have hl:a.length=b.length:=by lia
 by_cases hr:fq l=[]
 rotate_left
 ·rw[ah hr,ah hr]
 rw[af (fun z:fq l≠[]=>z hr),af (fun z:fq l≠[]=>z hr),Iz];by_cases hm:fq m=[]
 rotate_left
 ·rw[ah hm,ah hm]
 rw[af (fun z:fq m≠[]=>z hm),af (fun z:fq m≠[]=>z hm)];obtain⟨R,_⟩:=right_of hr;obtain⟨S,_⟩:=right_of hm;rw[FH R a0,FH S b0];by_cases h3:(a.any fun v=>decide ((fb l).last<v))=true\/(b.any fun v=>decide ((fb m).last<v))=true
 ·rw[ah h3,ah h3];rfl
 rw[af h3,af h3];have le:∀{n:Nw} {a:List Int},(∀v∈a,0<=v)->¬(a.any fun v=>decide (n.last<v))=true->∀v∈a,0<=v/\v<=n.last:=fun a0 h v hv=>⟨a0 v hv,Int.not_lt.mp fun z=>h (bK.mpr ⟨v,hv,ak z⟩)⟩
 have ha:=le a0 (fun z=>h3 (.inl z));have hb:=le b0 (fun z=>h3 (.inr z));unfold WhB.ofPoint;have pr:=zG R;have qr:=zG S;cases hp:point (fb l) with
 |none=>
  rw[hp] at pr;cases hP:(df (fb l)).point with
  |none=>rfl
  |some y=>rw[hP] at pr;exact pr.elim
 |some p=>
  rw[hp] at pr;cases hP:(df (fb l)).point with
  |none=>rw[hP] at pr;exact pr.elim
  |some x=>
   rw[hP] at pr;dsimp only;cases hq:point (fb m) with
   |none=>
    rw[hq] at qr;cases hQ:(df (fb m)).point with
    |none=>rfl
    |some y=>rw[hQ] at qr;exact qr.elim
   |some q=>
    rw[hq] at qr;cases hQ:(df (fb m)).point with
    |none=>rw[hQ] at qr;exact qr.elim
    |some y=>
     rw[hQ] at qr;dsimp only;rw[Ro R S (BO hr) (BO hm) pr qr hl ha hb];show _=0::[_];by_cases ee:lY (fb l) p a=lY (fb m) q b
     ·rw[ah ee,ak ee];rfl
     ·rw[af ee,aq ee];rfl
end de
namespace HK
open PySem PySem.Spec PyProof.Rows L2
noncomputable def top (i:Nat):Stmt:=PySem.Challenge.pw_wirequotients_s05_same.main.body.getD i (.Pass ⟨0,0,0,0⟩)
structure Txt(mg:Str->Option Value):Prop where
 gR:mg "len"=none
 C3:mg "list"=none
 IM:mg "max"=none
 Px:mg "sum"=none
 IP:mg "all"=none
 Mb:mg "any"=none
 IQ:mg "abs"=none
 jZ:mg "range"=none
 hX:mg "enumerate"=none
 Py:mg "zip"=none
 wj:mg "reversed"=none
noncomputable def fD (H:Hp) (v:V) (l:List Int):Prop:=∃a,v= .ref a/\H a=some (.lst (l.map V.int))
theorem fD.same{H H':Hp}{v:V}{l:List Int}(h:fD H v l)(s:dI H H'):fD H' v l:=let ⟨a,e,q⟩:=h;⟨a,e,s _ _ q⟩
noncomputable def pj (H:Hp) (Q:VK) (l:List Int):Prop:=∀p H',H p=none->dI H H'->H' p=some (.lst (l.map V.int))->Q (.ref p) H'
theorem pj.of{H H1:Hp}{Q:VK}{l:List Int}(k:pj H Q l)(s:dI H H1):pj H1 Q l:=fun p H' hp s' e=>k p H' (s.free hp) (s.trans s') e
section
variable {P:Program}{w:World}{K:PySem.W.Frag}{mg:Str->Option Value}{base:Heap}
noncomputable abbrev wq:Stmt:=top 16
theorem IS:dE ["x"] ["x"] (dj wq):=sco
noncomputable def pW:Sp:=fun vs H Q _=>∃x:Int,vs=[.int x]/\pj H Q (de.cst x)
theorem IT(G:iI K mg "constant" wq ["x"]):eV P w K mg base "constant" ["x"] 1 pW:=by
 have sc:=IS;refine G.iX sc fun f cdv A outer s H vs Q E hr h=> ?_
 obtain⟨x,rfl,k⟩:=h;refine⟨rfl,_,(dk (dD (mM (eO Ay (pv 0) dC (eH _)) (dP (c8 (pv 0) dc)) (dP dc)))),?_⟩;refine⟨_,rfl,rfl,_,rfl,?_⟩;by_cases hx:x=0
 ·subst hx;refine RV rfl ?_;exact⟨aM _,fun p hp=>k p _ hp (du hp) di⟩
 ·have e:(!decide (V.int x=V.int 0))=true:=by simp[hx]
  rw[e];refine e7 ⟨_,rfl,dq (by simp),fun p hp=>k p _ hp (du hp) ?_⟩;rw[di];unfold de.cst;rw[af hx];rfl
noncomputable abbrev zJ:Stmt:=top 15
theorem Kt:dE ["coefficients","length"] ["coefficients"] (dj zJ):=sco
noncomputable def C4:Sp:=fun vs H Q _=>∃v c,vs=[v]/\fD H v c/\pj H Q (de.JY c)
theorem Ku(T:Txt mg)(G:iI K mg "trimmed" zJ ["coefficients"]):eV P w K mg base "trimmed" ["coefficients"] 1 C4:=by
 have sc:=Kt;refine G.iX sc fun f cdv A outer s H vs Q E hr h=> ?_
 obtain⟨v,c,rfl,⟨a,rfl,ha⟩,k⟩:=h;refine⟨rfl,_,(dh (dW (i:=1) sc.nd (dY (eJ K) rfl T.gR d7 (c8 (pv 0) dc)))
   (dh (xb PassesOwn.never (PW.pt (JC (eO vB (pv 1) dC (eH _)) (FZ (eO ji (d6 (jH K) (pv 0) (eX nZ (pv 1) dC) (fun _ _=>rfl)) dC (eH _))))) (dk (JE (i:=1) sc.nd rfl (Or.inl rfl) dC Oa)))
   (dk (dD (tO (UR K) (pv 0) F3 (rA (pv 1))))))),?_⟩
 refine⟨_,rfl,a,_,rfl,.inl (.of ha),?_⟩;refine⟨fun m σ H'=>H'=H/\m<=c.length/\σ=[some (.ref a),some (.int (m:Int))]/\de.sZ c c.length=de.sZ c m,⟨c.length,rfl,aj _,by simp[L2.start],rfl⟩,?_⟩;rintro m σ H' ⟨rfl,hm,rfl,ht⟩;have fin:de.sZ c m=m->pj H' Q (c.take m):=fun e=>by
  unfold de.JY at k
  rwa [ht,e] at k
 refine⟨_,rfl,_,_,rfl,rfl,_,rfl,?_⟩;have out:de.sZ c m=m->Qz (WB (SH K) (vL 0) Lg (RU (vL 1))) {nx:=fun _ H'=>Q .jS H',rt:=Q} [some (.ref a),some (.int (m:Int))] H':=fun e=>by
  refine⟨_,rfl,_,rfl,_,rfl,a,_,rfl,.of ha,fun p hp=> ?_⟩;refine fin e p _ hp (du hp) ?_;rw[di];unfold vP;rw[HT.rz,lMp,Nat.min_eq_left hm];simp[HT.D7]
 by_cases h0:0<m
 ·rw[ak (show(m:Int)>0 by lia)];have hx:(c.map V.int)[m - 1]? =some (.int (c.getD (m - 1) 0)):=ju (by lia);refine e7 ⟨_,rfl,_,rfl,_,_,rfl,rfl,a,_,_,_,rfl,rfl,.of ha,dQ (j:=m - 1) (by lia) hx,rfl,_,rfl,?_⟩;obtain⟨n,rfl⟩:∃n,m=n+1:=⟨m - 1,by lia⟩;by_cases hz:c.getD n 0=0
  ·have e:decide (V.int (c.getD (n+1 - 1) 0)=V.int 0)=true:=by simpa using hz
   rw[e];refine e7 ⟨_,fun σ' H2 q=>⟨n,by lia,q⟩,_,rfl,_,_,rfl,rfl,rfl,by lia,?_,?_⟩
   ·show[some (V.ref a),some (V.int (((n+1:Nat):Int) - 1))]=_;have:((n+1:Nat):Int) - 1=(n:Int):=by lia
    rw[this]
   ·rw[ht];show(if c.getD n 0=0 then _ else _)=_;rw[ah hz]
  ·have e:decide (V.int (c.getD (n+1 - 1) 0)=V.int 0)=false:=by simpa using hz
   rw[e];refine fh (out ?_);show(if c.getD n 0=0 then _ else _)=_;rw[af hz]
 ·have e0:m=0:=by lia
  subst e0;exact fh (fh (out rfl))
end
theorem d9{α β:Type}(f:α->β)(l:List α)(i:Nat)(x:α)(h:l[i]? =some x):(l.take (i+1)).map f=(l.take i).map f ++ [f x]:=by
 rw[a5,h];simp
theorem hZ{l:List Int}{i:Nat}{v:V}(h:(l.map V.int)[i]? =some v):∃x,l[i]? =some x/\v= .int x:=by
 rw[aC] at h;cases e:l[i]? with
 |none=>rw[e] at h;cases h
 |some x=>rw[e] at h;exact⟨x,rfl,(aZ h).symm⟩
theorem fU{α:Type}{l:List α}{i:Nat}{x:α}(h:l[i]? =some x):i<l.length:=(bh.mp h).1
section
variable {P:Program}{w:World}{K:PySem.W.Frag}{mg:Str->Option Value}{base:Heap}
noncomputable def Short (l:List Int):Prop:=l.length<1000000
noncomputable abbrev vj:Stmt:=top 17
theorem Kv:dE ["polynomial","x"] ["polynomial"] (dj vj):=sco
noncomputable def C5:Sp:=fun vs H Q _=>∃v c,vs=[v]/\fD H v c/\Short c/\pj H Q (de.Lx c)
theorem Kw(G:iI K mg "negated" vj ["polynomial"]):eV P w K mg base "negated" ["polynomial"] 1 C5:=by
 have sc:=Kv;refine G.iX sc fun f cdv A outer s H vs Q E hr h=> ?_
 obtain⟨v,c,rfl,⟨a,rfl,ha⟩,hs,k⟩:=h;refine⟨rfl,_,(dk (dD (lH rfl sc.nd (fu (pv 0)) (fm (own:=[("x",1)]) (by show lL ["polynomial","x"] (dj vj) _ _=true;decide +kernel)) (fun _ _ _ _ _=>(eZ (i:=1) sc.nd)) (fun _ _ _ _ _=>fQ) (fun _ _ _ _ _=>(jT ie (pv 1)))))),?_⟩;refine⟨_,rfl,a,rfl,⟨_,.of ha⟩,fun D hD=>mX (fw (.of ha)) hD (fun i _ acc=>acc=(c.take i).map fun x=>V.int (-x)) rfl ?_ ?_⟩
 ·rintro i x H1 H2 acc hi s1 hD1 hacc s2 s12 hD2 hx;obtain⟨z,hz,rfl⟩:=hZ hx;refine⟨rfl,⟨_,rfl,_,rfl,?_⟩⟩;refine gh hD s2 hD2 ?_ ?_
  ·rw[hacc,lMp,aD];unfold Short at hs;exact dH (by lia)
  ·rw[hacc,d9 _ _ _ _ hz]
 ·intro H1 acc s1 hD1 hacc;refine k D H1 hD s1 ?_;rw[hD1,hacc,lMp,aG];unfold de.Lx;rw[aR];rfl
end
noncomputable def arr (n:Nat) (f:Nat->Int):List V:=(List.range n).map fun j=>V.int (f j)
theorem jL(n:Nat)(f:Nat->Int):(arr n f).length=n:=by unfold arr;simp
theorem pX{n:Nat}{f:Nat->Int}{i:Nat}(h:i<n):(arr n f)[i]? =some (V.int (f i)):=by
 unfold arr;rw[aC,bF h];rfl
theorem gB{n:Nat}{f g:Nat->Int}(h:∀j,j<n->f j=g j):arr n f=arr n g:=by
 unfold arr;exact aU fun j hj=>by rw[h j (aW.mp hj)]
theorem xQ{n:Nat}{f:Nat->Int}{i:Nat}{z:Int}:(arr n f).set i (V.int z)=arr n fun j=>if j=i then z else f j:=by
 refine List.ext_getElem? fun j=> ?_
 rw[cC];by_cases q:i=j
 ·subst q;rw[ah rfl,jL];by_cases h:i<n
  ·rw[ah h,pX h,ah rfl]
  ·rw[af h];exact(aI (by rw[jL];lia)).symm
 ·rw[af q];by_cases h:j<n
  ·rw[pX h,pX h,af (bL q)]
  ·rw[aI (by rw[jL];lia),aI (by rw[jL];lia)]
theorem C6{l:List Int}{n:Nat}(h:l.length=n):l.map V.int=arr n fun j=>l.getD j 0:=by
 refine List.ext_getElem? fun j=> ?_
 by_cases q:j<n
 ·rw[pX q,ju (by lia)]
 ·rw[aI (by rw[lMp];lia),aI (by rw[jL];lia)]
theorem BP(n:Nat):(List.replicate n [V.int 0]).flatten=arr n fun _=>0:=by
 unfold arr;induction n with
 |zero=>rfl
 |succ n ih=>
  rw[List.replicate_succ',List.flatten_append,ih,bZ,aP];rfl
theorem imax(a b:Nat):(if(b:Int)>(a:Int) then(b:Int) else(a:Int))=((max a b:Nat):Int):=by
 split <;>lia
section
variable {P:Program}{w:World}{K:PySem.W.Frag}{mg:Str->Option Value}{base:Heap}
noncomputable abbrev GZ:Stmt:=top 18
theorem Pz:dE ["left","right","result","power","x","y"] ["left","right"] (dj GZ):=sco
noncomputable def C7:Sp:=fun vs H Q _=>∃v u l r,vs=[v,u]/\fD H v l/\fD H u r/\Short l/\Short r/\pj H Q (de.Ce l r)
theorem PB(T:Txt mg)(zK:eV P w K mg base "trimmed" ["coefficients"] 1 C4)(G:iI K mg "added" GZ ["left","right"]):eV P w K mg base "added" ["left","right"] 2 C7:=by
 have sc:=Pz;refine G.iX sc fun f cdv A outer s H vs Q E hr h=> ?_
 obtain⟨v,u,l,r,rfl,⟨a,rfl,ha⟩,⟨b,rfl,hb⟩,hl,hr',k⟩:=h;unfold Short at hl hr';refine⟨rfl,_,(dh (dW (i:=2) sc.nd (eX F8 (dP (c8 dC dc)) (dY (Mt rfl) rfl T.IM vS (c8 (dY (eJ K) rfl T.gR d7 (c8 (pv 0) dc)) (c8 (dY (eJ K) rfl T.gR d7 (c8 (pv 1) dc)) dc)))))
   (dh (gN PassesOwn.never rfl (rC rfl T.hX (c8 (pv 0) dc)) (kq K (n:=2) rfl (fA (eZ (i:=3) sc.nd) (fA (eZ (i:=4) sc.nd) km))) (dk (yS (pv 4) (yR (pv 2) (pv 3) set_list))))
   (dh (gN PassesOwn.never rfl (rC rfl T.hX (c8 (pv 1) dc)) (kq K (n:=2) rfl (fA (eZ (i:=3) sc.nd) (fA (eZ (i:=5) sc.nd) km))) (dk (F0 (pv 2) (pv 3) vQ (pv 5) JF set_list)))
   (dk (dD (dz zK hr (c8 (pv 2) dc))))))),?_⟩
 refine⟨dq (by simp),fun q hq=> ?_⟩;have s1:dI H (upd H q (.lst [.int 0])):=du hq;refine⟨_,rfl,a,_,rfl,.inl (.of (s1 _ _ ha)),_,rfl,b,_,rfl,.inl (.of (s1 _ _ hb)),_,_,rfl,?_⟩;rw[lMp,lMp,imax];generalize hn:max l.length r.length=n;refine⟨q,_,_,rfl,rfl,di,by lia,by lia,dq (by simp;lia),fun p hp=> ?_⟩;rw[bb,BP];have hpH:H p=none:=s1.free hp;have s2:=s1.trans (du (o:= .lst (arr n fun _=>0)) hp);refine⟨_,rfl,a,_,rfl,.of (s2 _ _ ha),jt (rD (K:=K) (.of ha)) (fun i σ H'=>∃x3 x4,σ=[some (.ref a),some (.ref b),some (.ref p),x3,x4,none]/\dI H H'/\H' p=some (.lst (arr n fun j=>if j<i then l.getD j 0 else 0))) ?_ (fun i σ H' ⟨_,_,_,s,_⟩=>s) ?_ ?_⟩
 ·exact⟨none,none,rfl,s2,by rw[di];simp⟩
 ·rintro i x σ H1 H2 hi ⟨x3,x4,rfl,s3,hp1⟩ s4 s12 ⟨t,y,rfl,ht,hy⟩;obtain⟨z,hz,rfl⟩:=hZ hy;have hil:=fU hz;refine⟨t,_,rfl,.of ht,rfl,_,_,rfl,_,_,rfl,rfl,?_⟩;refine⟨_,rfl,_,rfl,_,rfl,p,_,_,i,rfl,rfl,s12 _ _ hp1,rE rfl (by rw[jL];lia),?_⟩;refine⟨_,_,rfl,s4.over hpH,?_⟩;rw[di,xQ];refine congrArg (fun q=>some (HO.lst q)) (gB fun j hj=> ?_);by_cases e:j=i
  ·subst e;rw[ah rfl,ah (by lia),gDe,hz];rfl
  ·rw[af e];by_cases e2:j<i
   ·rw[ah e2,ah (by lia)]
   ·rw[af e2,af (by lia)]
 ·rintro σ H1 ⟨x3,x4,rfl,s3,hp1⟩;refine⟨_,rfl,b,_,rfl,.of (s3 _ _ hb),jt (rD (K:=K) (.of hb)) (fun i σ H'=>∃x3 x4 x5,σ=[some (.ref a),some (.ref b),some (.ref p),x3,x4,x5]/\dI H H'/\H' p=some (.lst (arr n fun j=>l.getD j 0+if j<i then r.getD j 0 else 0))) ?_ (fun i σ H' ⟨_,_,_,_,s,_⟩=>s) ?_ ?_⟩
  ·refine⟨_,_,_,rfl,s3,?_⟩;rw[hp1];refine congrArg (fun q=>some (HO.lst q)) (gB fun j hj=> ?_);rw[lMp];by_cases e:j<l.length
   ·rw[ah e,af (by lia)];lia
   ·rw[af e,af (by lia),gDe,aI (by lia)];rfl
  ·rintro i x σ H2 H3 hi ⟨x3,x4,x5,rfl,s5,hp2⟩ s6 s23 ⟨t,y,rfl,ht,hy⟩;obtain⟨z,hz,rfl⟩:=hZ hy;have hil:=fU hz;have hp3:=s23 _ _ hp2;refine⟨t,_,rfl,.of ht,rfl,_,_,rfl,_,_,rfl,rfl,?_⟩;refine⟨_,rfl,_,rfl,p,_,_,i,_,rfl,rfl,.of hp3,rfl,pX (by lia),_,rfl,_,_,rfl,rfl,p,_,_,i,rfl,rfl,hp3,rE rfl (by rw[jL];lia),?_⟩;refine⟨_,_,_,rfl,s6.over hpH,?_⟩;rw[di,xQ];refine congrArg (fun q=>some (HO.lst q)) (gB fun j hj=> ?_);by_cases e:j=i
   ·subst e;rw[ah rfl,af (by lia),ah (by lia),gDe (l:=r),hz];simp
   ·rw[af e];by_cases e2:j<i
    ·rw[ah e2,ah (by lia)]
    ·rw[af e2,af (by lia)]
  ·rintro σ H2 ⟨x3,x4,x5,rfl,s5,hp2⟩;refine⟨_,rfl,.ref p,de.iJ l r,rfl,⟨p,rfl,?_⟩,k.of s5⟩;rw[hp2,C6 (l:=de.iJ l r) (n:=n) (by rw[de.jw];exact hn)];refine congrArg (fun q=>some (HO.lst q)) (gB fun j hj=> ?_);rw[lMp,de.iZ];by_cases e:j<r.length
   ·rw[ah e]
   ·rw[af e,gDe (l:=r),aI (by lia)];rfl
end
section
variable {P:Program}{w:World}{K:PySem.W.Frag}{mg:Str->Option Value}{base:Heap}
noncomputable abbrev rQ:Stmt:=top 19
theorem Ee:dE ["left","right"] ["left","right"] (dj rQ):=sco
noncomputable def mI:Sp:=fun vs H Q _=>∃v u l r,vs=[v,u]/\fD H v l/\fD H u r/\Short l/\Short r/\pj H Q (de.uh l r)
theorem Ef(zL:eV P w K mg base "negated" ["polynomial"] 1 C5)(vk:eV P w K mg base "added" ["left","right"] 2 C7)(G:iI K mg "subtracted" rQ ["left","right"]):eV P w K mg base "subtracted" ["left","right"] 3 mI:=by
 have sc:=Ee;refine G.iX sc fun f cdv A outer s H vs Q E hr h=> ?_
 obtain⟨v,u,l,r,rfl,pl,pr,hl,hr',k⟩:=h;refine⟨rfl,_,(dk (dD (dz vk hr (c8 (pv 0) (c8 (dz zL hr (c8 (pv 1) dc)) dc))))),?_⟩;refine⟨_,rfl,_,rfl,_,_,rfl,pr,hr',fun p H' hp s1 e=> ?_⟩;exact⟨_,_,l,de.Lx r,rfl,pl.same s1,⟨p,rfl,e⟩,hl,by unfold Short at *;rw[de.xq];exact hr',k.of s1⟩
noncomputable abbrev qw:Stmt:=top 22
theorem C8:dE ["polynomial"] ["polynomial"] (dj qw):=sco
noncomputable def ow:Sp:=fun vs H Q _=>∃v c,vs=[v]/\fD H v c/\Q (.int (de.e9 c)) H
theorem C9(G:iI K mg "constant_of" qw ["polynomial"]):eV P w K mg base "constant_of" ["polynomial"] 1 ow:=by
 have sc:=C8;refine G.iX sc fun f cdv A outer s H vs Q E hr h=> ?_
 obtain⟨v,c,rfl,⟨a,rfl,ha⟩,k⟩:=h;refine⟨rfl,_,(dk (dD (mM (fc K (pv 0) (fun _=>rfl)) (d6 (jH K) (pv 0) dC (fun _ _=>rfl)) dC))),?_⟩;refine⟨_,rfl,_,.inl ⟨_,.of ha,rfl⟩,?_⟩;cases c with
 |nil=>exact fh k
 |cons z c=>exact e7 ⟨_,rfl,lD (.of ha) (dQ (j:=0) rfl rfl) k⟩
noncomputable abbrev j4:Stmt:=top 23
theorem vq:dE ["x","y","large","small","rest"] ["x","y"] (dj j4):=sco
noncomputable def ir:Sp:=fun vs H Q _=>∃x y:Int,vs=[.int x,.int y]/\Q (.int (de.lE x y)) H
theorem U9(x:Int):(if x<0 then -x else x)=(x.natAbs:Int):=by split <;>lia
theorem vw(T:Txt mg)(G:iI K mg "greatest_divisor" j4 ["x","y"]):eV P w K mg base "greatest_divisor" ["x","y"] 1 ir:=by
 have sc:=vq;refine G.iX sc fun f cdv A outer s H vs Q E hr h=> ?_
 obtain⟨x,y,rfl,k⟩:=h;refine⟨rfl,_,(dh (dW (i:=2) sc.nd (dY B2 rfl T.IQ vU (c8 (pv 0) dc)))
   (dh (dW (i:=3) sc.nd (dY B2 rfl T.IQ vU (c8 (pv 1) dc)))
   (dh (xb PassesOwn.never (eO Ay (pv 3) dC (eH _)) (dh (dW (i:=4) sc.nd (eX Ob (pv 2) (pv 3)))
   (dh (dW (i:=2) sc.nd (pv 3))
   (dk (dW (i:=3) sc.nd (pv 4))))))
   (dk (dD (pv 2)))))),?_⟩
 refine⟨_,rfl,_,rfl,_,rfl,_,rfl,?_⟩;rw[U9,U9];refine⟨fun m σ H'=>∃(g:Nat) (z:Option V),H'=H/\σ=[some (.int x),some (.int y),some (.int (g:Int)),some (.int (m:Int)),z]/\Nat.gcd g m=Nat.gcd x.natAbs y.natAbs,⟨y.natAbs,x.natAbs,none,rfl,rfl,rfl⟩,?_⟩;rintro m σ H' ⟨g,z,rfl,rfl,hg⟩;refine⟨_,rfl,rfl,_,rfl,?_⟩;by_cases h0:m=0
 ·subst h0;refine RV rfl ?_;refine⟨_,rfl,?_⟩;unfold de.lE at k;rw[<-hg,Nat.gcd_zero_right] at k;exact k
 ·have e:(!decide (V.int (m:Int)=V.int 0))=true:=by simp[h0]
  rw[e];refine e7 ⟨_,fun σ' H2 q=>⟨g % m,Nat.mod_lt _ (by lia),q⟩,_,rfl,_,rfl,ph ⟨by lia,?_⟩⟩;refine⟨_,rfl,_,rfl,m,some (.int ((g:Int) % (m:Int))),rfl,?_,?_⟩
  ·show[some (V.int x),some (V.int y),some (V.int (m:Int)),some (V.int ((g:Int) % (m:Int))),some (V.int ((g:Int) % (m:Int)))]=_;rw[<-Int.natCast_emod]
  ·rw[Nat.gcd_comm,<-Nat.gcd_rec,Nat.gcd_comm];exact hg
noncomputable abbrev zM:Stmt:=top 25
theorem Kx:dE ["polynomial","result","x"] ["polynomial"] (dj zM):=sco
noncomputable def wu:Sp:=fun vs H Q _=>∃v c,vs=[v]/\fD H v c/\∀H',dI H H'->Q (.int (de.cont c)) H'
theorem Ky(fj:eV P w K mg base "greatest_divisor" ["x","y"] 1 ir)(G:iI K mg "content" zM ["polynomial"]):eV P w K mg base "content" ["polynomial"] 2 wu:=by
 have sc:=Kx;refine G.iX sc fun f cdv A outer s H vs Q E hr h=> ?_
 obtain⟨v,c,rfl,⟨a,rfl,ha⟩,k⟩:=h;refine⟨rfl,_,(dh (dW (i:=1) sc.nd dC)
   (dh (gN PassesOwn.never rfl (fu (pv 0)) (eZ (i:=2) sc.nd) (dk (dW (i:=1) sc.nd (dz fj hr (c8 (pv 1) (c8 (pv 2) dc))))))
   (dk (dD (pv 1))))),?_⟩
 refine⟨_,rfl,a,rfl,⟨_,.of ha⟩,jt (fw (K:=K) (.of ha)) (fun i σ H'=>∃z,dI H H'/\σ=[some (.ref a),some (.int ((c.take i).foldl de.lE 0)),z]) ⟨none,.refl _,rfl⟩ (fun i σ H' ⟨_,e,_⟩=>e) ?_ ?_⟩
 ·rintro i x σ H1 H2 hi ⟨z,s0,rfl⟩ s1 s2 hx;obtain⟨y,hy,rfl⟩:=hZ hx;refine⟨_,rfl,_,rfl,_,_,rfl,some (.int y),s1,?_⟩;rw[a5,hy,cO];rfl
 ·rintro σ H1 ⟨z,s1,rfl⟩;refine⟨_,rfl,?_⟩;rw[lMp,aG];exact k H1 s1
noncomputable abbrev mR:Stmt:=top 26
theorem G0:dE ["polynomial","divisor","x"] ["polynomial"] (dj mR):=sco
noncomputable def xR:Sp:=fun vs H Q _=>∃v c,vs=[v]/\fD H v c/\Short c/\de.Trim c/\pj H Q (de.prim c)
theorem G1(hno:base.NoSeer)(htree:P.given.tree=none)(lZ:eV P w K mg base "content" ["polynomial"] 2 wu)(G:iI K mg "primitive" mR ["polynomial"]):eV P w K mg base "primitive" ["polynomial"] 41 xR:=by
 have sc:=G0;refine G.iX sc fun f cdv A outer s H vs Q E hr h=> ?_
 obtain⟨v,c,rfl,⟨a,rfl,ha⟩,hs,ht,k⟩:=h;have Se:JR (D6 JQ P w K mg base ["polynomial","divisor","x"] "primitive" (dj mR) f cdv A outer s H E).RO:=⟨hno,htree,⟨_,outer,rfl,rfl,rfl,rfl,rfl⟩,by have:=hr.dp;show(A.deeper _).depth+100<_;lia⟩;refine⟨rfl,_,(dh (dW (i:=1) sc.nd (dz lZ hr (c8 (pv 0) dc)))
   (dk (dD (lH rfl sc.nd (fu (pv 0)) (fm (own:=[("x",2)]) (by show lL ["polynomial","divisor","x"] (dj mR) _ _=true;decide +kernel)) (fun _ _ _ _ _=>(eZ (i:=2) sc.nd)) (fun _ _ _ _ _=>fQ) (fun _ _ _ _ _=>(eX (B5 (JR.DX Se)) (pv 2) (pv 1))))))),?_⟩
 refine⟨_,rfl,_,c,rfl,⟨a,rfl,ha⟩,fun H1 s1=> ?_⟩;have ha1:=s1 _ _ ha;refine⟨_,rfl,a,rfl,⟨_,.of ha1⟩,fun D hD=>mX (fw (.of ha1)) hD (fun i _ acc=>acc=(c.take i).map fun x=>V.int (x.fdiv (de.cont c))) rfl ?_ ?_⟩
 ·rintro i x H2 H3 acc hi s2 hD1 hacc s3 s23 hD2 hx;obtain⟨z,hz,rfl⟩:=hZ hx;have hc:de.cont c≠0:=by
   rw[de.jY];have:=de.jz ht (fun e=>by rw[e] at hz;cases hz);lia
  refine⟨rfl,⟨_,rfl,_,rfl,ph ⟨hc,?_⟩⟩⟩;refine gh hD s3 hD2 ?_ ?_
  ·rw[hacc,lMp,aD];unfold Short at hs;exact dH (by lia)
  ·rw[hacc,d9 _ _ _ _ hz]
 ·intro H2 acc s2 hD1 hacc;refine k.of s1 D H2 hD s2 ?_;rw[hD1,hacc,lMp,aG];unfold de.prim;rw[aR];rfl
noncomputable abbrev jm:Stmt:=top 96
theorem wx:dE ["polynomial","factor","x"] ["polynomial","factor"] (dj jm):=sco
noncomputable def iR:Sp:=fun vs H Q _=>∃v c fa,vs=[v,.int fa]/\fD H v c/\Short c/\fa≠0/\fa.natAbs.log2<9000/\pj H Q (de.sN c fa)
theorem Rr{c:List Int}{i:Nat}{x:V}(hi:i<c.length)(h:(c.map V.int)[c.length - 1 - i]? =some x):∃z,c.reverse[i]? =some z/\x= .int z:=by
 obtain⟨z,hz,e⟩:=hZ h;refine⟨z,?_,e⟩;rw[List.getElem?_reverse hi];exact hz
theorem wy(T:Txt mg)(G:iI K mg "told_polynomial" jm ["polynomial","factor"]):eV P w K mg base "told_polynomial" ["polynomial","factor"] 1 iR:=by
 have sc:=wx;refine G.iX sc fun f cdv A outer s H vs Q E hr h=> ?_
 obtain⟨v,c,fa,rfl,⟨a,rfl,ha⟩,hs,hf,hf2,k⟩:=h;unfold Short at hs;refine⟨rfl,_,(dk (dD (eX ql (dP (c8 (dY (eJ K) rfl T.gR d7 (c8 (pv 0) dc)) dc)) (lH rfl sc.nd (HJ rfl T.wj (c8 (pv 0) dc)) (fm (own:=[("x",2)]) (by show lL ["polynomial","factor","x"] (dj jm) _ _=true;decide +kernel)) (fun _ _ _ _ _=>(eZ (i:=2) sc.nd)) (fun _ _ _ _ _=>fQ) (fun _ _ _ _ _=>(eX B4 (pv 2) (pv 1))))))),?_⟩;refine⟨_,rfl,a,_,rfl,.inl (.of ha),dq (by simp),fun q hq=> ?_⟩;have s1:=du (o:= .lst [.int ((c.map V.int).length:Int)]) hq;have ha1:=s1 _ _ ha;have hq1:(upd H q (.lst [.int ((c.map V.int).length:Int)])) q=some (.lst [.int ((c.map V.int).length:Int)]):=di;refine⟨_,rfl,a,_,rfl,.of ha1,fun D hD=>mX (SX (.of ha1)) hD (fun i _ acc=>acc=(c.reverse.take i).map fun x=>V.int (x.fdiv fa)) rfl ?_ ?_⟩
 ·rintro i x H2 H3 acc hi s2 hD1 hacc s3 s23 hD2 hx;rw[lMp] at hx hi;obtain⟨z,hz,rfl⟩:=Rr hi hx;refine⟨rfl,⟨_,rfl,_,rfl,ph ⟨⟨hf,hf2⟩,?_⟩⟩⟩;refine gh hD s3 hD2 ?_ ?_
  ·rw[hacc,lMp,aD,bu];exact dH (by lia)
  ·rw[hacc,d9 _ _ _ _ hz]
 ·intro H2 acc s2 hD1 hacc;refine⟨q,D,_,_,rfl,rfl,s2 _ _ hq1,hD1,?_,fun p hp=> ?_⟩
  ·rw[hacc,lMp,lMp,aD,bu];exact dq (by simp;lia)
  ·refine k.of (s1.trans s2) p _ hp (du hp) ?_;rw[di,hacc,lMp];have e:c.reverse.take c.length=c.reverse:=by rw[<-bu,aG]
   rw[e];unfold de.sN;rw[aH,aR];rfl
end
theorem G3{l:List Int}(h:l≠[]):MA (l.map V.int) (-1)=some (V.int (de.lc l)):=by
 have hl:0<l.length:=aE.mpr h;unfold MA Oq;rw[lMp,af (by decide),ah (by lia)];show(l.map V.int)[(-1+(l.length:Int)).toNat]? =_;have e:(-1+(l.length:Int)).toNat=l.length - 1:=by lia
 rw[e,ju (by lia)];rfl
theorem Eg{K:PySem.W.Frag}{H:Hp}{a:Addr}{l:List V}(h:H a=some (.lst l)):Og K (.ref a) H (!l.isEmpty):= .inl ⟨_,.of h,rfl⟩
theorem iS{l:List Int}(h:l≠[]):(!(l.map V.int).isEmpty)=true:=by
 cases l with
 |nil=>exact absurd rfl h
 |cons=>rfl
section
variable {P:Program}{w:World}{K:PySem.W.Frag}{mg:Str->Option Value}{base:Heap}
noncomputable abbrev rR:Stmt:=top 20
theorem Eh:dE ["left","right","result","low","x","high","y"] ["left","right"] (dj rR):=sco
noncomputable def qx:Sp:=fun vs H Q _=>∃v u l r,vs=[v,u]/\fD H v l/\fD H u r/\Short l/\Short r/\(∀x∈l,∀y∈r,IntMulOk x y)/\pj H Q (de.gX l r)
theorem Ei(T:Txt mg)(G:iI K mg "multiplied" rR ["left","right"]):eV P w K mg base "multiplied" ["left","right"] 1 qx:=by
 have sc:=Eh;refine G.iX sc fun f cdv A outer s H vs Q E hr h=> ?_
 obtain⟨v,u,l,r,rfl,⟨a,rfl,ha⟩,⟨b,rfl,hb⟩,hl,hr',hm,k⟩:=h;unfold Short at hl hr';refine⟨rfl,_,(dh (fC (PW.pt (BV (kj (fc K (pv 0) (fun _=>rfl))) (yP (kj (fc K (pv 1) (fun _=>rfl)))))) (dk (dD (dP dc))) eh)
   (dh (dW (i:=2) sc.nd (eX F8 (dP (c8 dC dc)) (eX nZ (eX kn (dY (eJ K) rfl T.gR d7 (c8 (pv 0) dc)) (dY (eJ K) rfl T.gR d7 (c8 (pv 1) dc))) dC)))
   (dh (gN PassesOwn.never rfl (rC rfl T.hX (c8 (pv 0) dc)) (kq K (n:=2) rfl (fA (eZ (i:=3) sc.nd) (fA (eZ (i:=4) sc.nd) km))) (dk (gN PassesOwn.never rfl (rC rfl T.hX (c8 (pv 1) dc)) (kq K (n:=2) rfl (fA (eZ (i:=5) sc.nd) (fA (eZ (i:=6) sc.nd) km))) (dk (F0 (pv 2) (eX kn (pv 3) (pv 5)) vQ (eX ik (pv 4) (pv 6)) JF set_list)))))
   (dk (dD (pv 2)))))),?_⟩
 refine⟨_,rfl,_,Eg ha,?_⟩;by_cases l0:l=[]
 ·subst l0;refine e7 (e7 ⟨aM _,fun p hp=>k p _ hp (du hp) ?_⟩);rw[di];rfl
 rw[iS l0];refine fh ⟨_,rfl,_,Eg hb,?_⟩;by_cases r0:r=[]
 ·subst r0;refine e7 ⟨aM _,fun p hp=>k p _ hp (du hp) ?_⟩;rw[di];unfold de.gX;rw[ah (.inr rfl)];rfl
 rw[iS r0];refine fh ?_;have pl:0<l.length:=aE.mpr l0;have pr:0<r.length:=aE.mpr r0;have em:de.gX l r=de.mulL l r:=by
  unfold de.gX;rw[af fun h=>h.elim l0 r0]
 rw[em] at k;have n:=de.iy l r l0 r0;refine⟨dq (by simp),fun q hq=> ?_⟩;have s1:dI H (upd H q (.lst [.int 0])):=du hq;refine⟨_,rfl,a,_,rfl,.inl (.of (s1 _ _ ha)),_,rfl,b,_,rfl,.inl (.of (s1 _ _ hb)),_,_,rfl,rfl,_,_,rfl,rfl,?_⟩;rw[lMp,lMp];generalize hn:l.length+r.length - 1=m at n;have en:((l.length:Int)+(r.length:Int) - 1).toNat=m:=by lia
 refine⟨q,_,_,rfl,rfl,di,by lia,by lia,dq (by simp;lia),fun p hp=> ?_⟩;rw[en,BP];have hpH:H p=none:=s1.free hp;have s2:=s1.trans (du (o:= .lst (arr m fun _=>0)) hp);refine⟨_,rfl,a,_,rfl,.of (s2 _ _ ha),jt (rD (K:=K) (.of ha)) (fun i σ H'=>∃x3 x4 x5 x6,σ=[some (.ref a),some (.ref b),some (.ref p),x3,x4,x5,x6]/\dI H H'/\H' p=some (.lst (arr m fun j=>(de.mulL (l.take i) r).getD j 0))) ?_ (fun i σ H' ⟨_,_,_,_,_,s,_⟩=>s) ?_ ?_⟩
 ·exact⟨none,none,none,none,rfl,s2,by rw[di];rfl⟩
 ·rintro i x σ H1 H2 hi ⟨x3,x4,x5,x6,rfl,s3,hp1⟩ s4 s12 ⟨t,y,rfl,ht,hy⟩;obtain⟨z,hz,rfl⟩:=hZ hy;have hil:=fU hz;have eT:l.take (i+1)=l.take i ++ [z]:=by rw[a5,hz];rfl
  have lT:(l.take i).length=i:=by rw[aD];lia
  refine⟨t,_,rfl,.of ht,rfl,_,_,rfl,_,_,rfl,rfl,?_⟩;refine⟨_,rfl,b,_,rfl,.of (s4 _ _ hb),jt (rD (K:=K) (.of hb)) (fun h σ H'=>∃x5 x6,σ=[some (.ref a),some (.ref b),some (.ref p),some (.int (i:Nat)),some (.int z),x5,x6]/\dI H H'/\H' p=some (.lst (arr m fun j=>(de.mulL (l.take i) r).getD j 0+if i<=j/\j<i+h then z*r.getD (j - i) 0 else 0))) ?_ (fun i σ H' ⟨_,_,_,s,_⟩=>s) ?_ ?_⟩
  ·refine⟨_,_,rfl,s4,?_⟩;rw[s12 _ _ hp1];refine congrArg (fun q=>some (HO.lst q)) (gB fun j hj=> ?_);rw[af (by lia)];lia
  ·rintro h x σ H3 H4 hh ⟨x5,x6,rfl,s5,hp3⟩ s6 s34 ⟨t2,y2,rfl,ht2,hy2⟩;obtain⟨z2,hz2,rfl⟩:=hZ hy2;have hhl:=fU hz2;have hp4:=s34 _ _ hp3;refine⟨t2,_,rfl,.of ht2,rfl,_,_,rfl,_,_,rfl,rfl,?_⟩;refine⟨_,rfl,_,rfl,_,rfl,_,_,rfl,rfl,p,_,_,i+h,_,rfl,rfl,.of hp4,by lia,pX (by lia),_,rfl,_,rfl,_,_,rfl,rfl,hm z (aB hz) z2 (aB hz2),_,_,rfl,rfl,p,_,_,i+h,rfl,rfl,hp4,rE (by lia) (by rw[jL];lia),?_⟩;refine⟨_,_,rfl,s6.over hpH,?_⟩;rw[di,xQ];refine congrArg (fun q=>some (HO.lst q)) (gB fun j hj=> ?_);by_cases e:j=i+h
   ·subst e;rw[ah rfl,af (by lia),ah (by lia)];have e2:i+h - i=h:=by lia
    rw[e2,gDe (l:=r),hz2];simp
   ·rw[af e];by_cases e2:i<=j/\j<i+h
    ·rw[ah e2,ah (by lia)]
    ·rw[af e2,af (by lia)]
  ·rintro σ H3 ⟨x5,x6,rfl,s5,hp3⟩;refine⟨_,_,_,_,rfl,s5,?_⟩;rw[hp3];refine congrArg (fun q=>some (HO.lst q)) (gB fun j hj=> ?_);rw[eT,de.i8,lT,lMp];by_cases e:i<=j
   ·rw[ah e];by_cases e2:j<i+r.length
    ·rw[ah ⟨e,e2⟩]
    ·rw[af (fun h=>e2 h.2),gDe (l:=r),aI (by lia)];simp
   ·rw[af e,af (fun h=>e h.1)]
 ·rintro σ H1 ⟨x3,x4,x5,x6,rfl,s3,hp1⟩;refine⟨_,rfl,k p H1 hpH s3 ?_⟩;rw[hp1,lMp,aG,C6 (l:=de.mulL l r) n]
noncomputable abbrev zN:Stmt:=top 21
theorem Kz:dE ["left","right","rest","result","shift","factor","power","y"] ["left","right"] (dj zN):=sco
noncomputable def wz:Sp:=fun vs H Q _=>∃v u l r m,vs=[v,u]/\fD H v l/\fD H u r/\Short l/\Short r/\de.Trim l/\de.Trim r/\de.Trim m/\r≠[]/\de.dG l=de.dG m*de.dG r/\(de.lc r).natAbs.log2<9000/\(∀x∈m,∀y∈r,IntMulOk x y)/\pj H Q m
theorem KA(T:Txt mg)(G:iI K mg "divided" zN ["left","right"]):eV P w K mg base "divided" ["left","right"] 1 wz:=by
 have sc:=Kz;refine G.iX sc fun f cdv A outer s H vs Q E hr h=> ?_
 obtain⟨v,u,l,r,m,rfl,⟨a,rfl,ha⟩,⟨b,rfl,hb⟩,hl,hr',tl,tr,tm,r0,hlm,hlc,hmul,k⟩:=h;unfold Short at hl hr';refine⟨rfl,_,(dh (fC (kj (fc K (pv 0) (fun _=>rfl))) (dk (dD (dP dc))) eh)
   (dh (dW (i:=2) sc.nd (yV (vR K) rfl T.C3 tW (c8 (pv 0) dc)))
   (dh (dW (i:=3) sc.nd (eX F8 (dP (c8 dC dc)) (eX kn (eX nZ (dY (eJ K) rfl T.gR d7 (c8 (pv 0) dc)) (dY (eJ K) rfl T.gR d7 (c8 (pv 1) dc))) dC)))
   (dh (gN PassesOwn.never rfl (EO rfl T.jZ (c8 (eX nZ (dY (eJ K) rfl T.gR d7 (c8 (pv 3) dc)) dC) (c8 (jT ie dC) (c8 (jT ie dC) dc)))) (eZ (i:=4) sc.nd) (dh (dW (i:=5) sc.nd (eX B4 (d6 (jH K) (pv 2) (eX nZ (eX kn (pv 4) (dY (eJ K) rfl T.gR d7 (c8 (pv 1) dc))) dC) (fun _ _=>rfl)) (d6 (jH K) (pv 1) (jT ie dC) (fun _ _=>rfl))))
   (dh (yS (pv 5) (yR (pv 3) (pv 4) set_list))
   (dk (gN PassesOwn.never rfl (rC rfl T.hX (c8 (pv 1) dc)) (kq K (n:=2) rfl (fA (eZ (i:=6) sc.nd) (fA (eZ (i:=7) sc.nd) km))) (dk (F0 (pv 2) (eX kn (pv 4) (pv 6)) vQ (eX ik (pv 5) (pv 7)) Oa set_list)))))))
   (dk (dD (pv 3))))))),?_⟩
 refine⟨_,rfl,_,Eg ha,?_⟩;by_cases l0:l=[]
 ·subst l0;have m0:m=[]:=by
   have z:de.dG m*de.dG r=0:=hlm.symm;by_cases q:m=[]
   ·exact q
   ·exact absurd z (de.PF.zh (fun e=>q ((de.fK tm).mp e)) (fun e=>r0 ((de.fK tr).mp e)))
  subst m0;exact e7 ⟨aM _,fun p hp=>k p _ hp (du hp) (by rw[di];rfl)⟩
 rw[iS l0];refine fh ?_;have m0:m≠[]:=fun e=>l0 ((de.fK tl).mp (by
  rw[hlm,e];show(0:de.PF)*_=0;grind))
 have el:l=de.mulL m r:=by
  have t:de.Trim (de.mulL m r):=by
   have:=de.qU tm tr;unfold de.gX at this
   rwa [af (fun h=>h.elim m0 r0)] at this
  exact de.pN tl t (by rw[hlm,de.jx])
 have ll:l.length=m.length+r.length - 1:=by rw[el];exact de.iy m r m0 r0
 have pm:0<m.length:=aE.mpr m0;have pr:0<r.length:=aE.mpr r0;have lcn:=de.fB.mp tr r0;refine⟨_,rfl,a,_,rfl,.inl (.of ha),fun c hc=> ?_⟩;have s0:dI H (upd H c (.lst (l.map V.int))):=du hc;refine⟨dq (by simp),fun q hq=> ?_⟩;have s1:=s0.trans (du (o:= .lst [.int 0]) hq);refine⟨_,rfl,a,_,rfl,.inl (.of (s1 _ _ ha)),_,rfl,b,_,rfl,.inl (.of (s1 _ _ hb)),_,_,rfl,rfl,_,_,rfl,rfl,?_⟩;rw[lMp,lMp];have en:((l.length:Int) - (r.length:Int)+1).toNat=m.length:=by lia
 refine⟨q,_,_,rfl,rfl,di,by lia,by lia,dq (by simp;lia),fun p hp=> ?_⟩;rw[en,BP];have hpH:H p=none:=s1.free hp;have s2:=s1.trans (du (o:= .lst (arr m.length fun _=>0)) hp);have cp:c≠p:=fun e=>by
  rw[e] at hp;exact absurd hp (by
   rw[<-e,d4,di]
   ·simp
   ·intro e2;rw[<-e2] at hq;rw[di] at hq;cases hq)
 have hcq:(upd (upd (upd H c (.lst (l.map V.int))) q (.lst [.int 0])) p (.lst (arr m.length fun _=>0))) c=some (.lst (l.map V.int)):=by
  rw[d4 cp,d4,di];intro e2;rw[<-e2,di] at hq;cases hq
 refine⟨_,rfl,p,_,rfl,.inl (.of di),_,_,rfl,rfl,_,rfl,_,rfl,_,_,_,m.length,rfl,?_,?_⟩
 ·have e:=UN.neg (i:=(m.length:Int) - 1) (j:= -1) (by lia) (by lia) (by lia) (by lia);rw[jL];have e2:((m.length:Int) - 1 - -1).toNat=m.length:=by lia
  rw[e2] at e;exact e
 rw[jL];refine jt (ER _ _ _ _) (fun i σ H'=>∃x4 x5 x6 x7,σ=[some (.ref a),some (.ref b),some (.ref c),some (.ref p),x4,x5,x6,x7]/\i<=m.length/\dI H H'/\H' c=some (.lst (arr l.length fun j=>(de.mulL (m.take (m.length - i)) r).getD j 0))/\H' p=some (.lst (arr m.length fun j=>if m.length - i<=j then m.getD j 0 else 0))) ?_ (fun i σ H' ⟨_,_,_,_,_,_,s,_⟩=>s) ?_ ?_
 ·refine⟨none,none,none,none,rfl,aM _,s2,?_,?_⟩
  ·rw[hcq,Nat.sub_zero,aG,<-el,C6 (l:=l) rfl]
  ·rw[di];refine congrArg (fun q=>some (HO.lst q)) (gB fun j hj=> ?_);rw[af (by lia)]
 ·rintro i x σ H1 H2 hi ⟨x4,x5,x6,x7,rfl,hi2,s3,hc1,hp1⟩ s4 s12 rfl;obtain⟨t,et⟩:∃t,m.length - i=t+1:=⟨m.length - i - 1,by lia⟩;have et2:m.length - (i+1)=t:=by lia
  rw[et] at hc1 hp1;have hsh:(m.length:Int) - 1+(i:Nat)*(-1)=(t:Int):=by lia
  have hc2:=s12 _ _ hc1;have hp2:=s12 _ _ hp1;have eT:m.take (t+1)=m.take t ++ [m.getD t 0]:=de.Cf m t (by lia);have lT:(m.take t).length=t:=by rw[aD];lia
  have ef:((de.mulL (m.take (t+1)) r).getD (t+r.length - 1) 0).fdiv (de.lc r)=m.getD t 0:=by
   rw[eT,de.i8,lT,de.zo (m.take t) r _ r0 (by lia),ah (by lia)];have e:t+r.length - 1 - t=r.length - 1:=by lia
   rw[e];show(0+m.getD t 0*de.lc r).fdiv (de.lc r)=_;rw[Int.zero_add,c6 _ lcn]
  rw[hsh];refine⟨_,rfl,_,rfl,_,rfl,b,_,rfl,.inl (.of (s4 _ _ hb)),_,_,rfl,rfl,_,_,rfl,rfl,lD (.of hc2) (dQ (j:=t+r.length - 1) (by rw[lMp];lia) (pX (by lia))) ?_⟩;refine⟨_,rfl,_,rfl,b,_,_,_,rfl,rfl,.of (s4 _ _ hb),G3 r0,_,_,rfl,rfl,⟨lcn,hlc⟩,?_⟩;dsimp only[];rw[ef];refine⟨_,rfl,_,rfl,_,rfl,p,_,_,t,rfl,rfl,hp2,rE rfl (by rw[jL];lia),?_⟩;have cp':c≠p:=cp;have s5:dI H (upd H2 p (.lst ((arr m.length fun j=>if t+1<=j then m.getD j 0 else 0).set t (.int (m.getD t 0))))):=s4.over hpH;have hcH:H c=none:=hc;refine⟨_,rfl,b,_,rfl,.of (s5 _ _ hb),jt (rD (K:=K) (.of hb)) (fun h σ H'=>∃x6 x7,σ=[some (.ref a),some (.ref b),some (.ref c),some (.ref p),some (.int (t:Int)),some (.int (m.getD t 0)),x6,x7]/\dI H H'/\H' p=some (.lst (arr m.length fun j=>if t<=j then m.getD j 0 else 0))/\H' c=some (.lst (arr l.length fun j=>(de.mulL (m.take (t+1)) r).getD j 0 - if t<=j/\j<t+h then m.getD t 0*r.getD (j - t) 0 else 0))) ?_ (fun i σ H' ⟨_,_,_,s,_⟩=>s) ?_ ?_⟩
  ·refine⟨_,_,rfl,s5,?_,?_⟩
   ·rw[di,xQ];refine congrArg (fun q=>some (HO.lst q)) (gB fun j hj=> ?_);by_cases e:j=t
    ·rw[ah e,ah (by lia),e]
    ·rw[af e];by_cases e2:t+1<=j
     ·rw[ah e2,ah (by lia)]
     ·rw[af e2,af (by lia)]
   ·rw[d4 cp',hc2];refine congrArg (fun q=>some (HO.lst q)) (gB fun j hj=> ?_);rw[af (by lia)];lia
  ·rintro h x σ H3 H4 hh ⟨x6,x7,rfl,s6,hp3,hc3⟩ s7 s34 ⟨t2,y2,rfl,ht2,hy2⟩;obtain⟨z2,hz2,rfl⟩:=hZ hy2;have hhl:=fU hz2;have hc4:=s34 _ _ hc3;refine⟨t2,_,rfl,.of ht2,rfl,_,_,rfl,_,_,rfl,rfl,?_⟩;have hmm:m.getD t 0∈m:=aB (dy (d:=0) (by lia));refine⟨_,rfl,_,rfl,_,rfl,_,_,rfl,rfl,c,_,_,t+h,_,rfl,rfl,.of hc4,by lia,pX (by lia),_,rfl,_,rfl,_,_,rfl,rfl,hmul _ hmm z2 (aB hz2),_,_,rfl,rfl,c,_,_,t+h,rfl,rfl,hc4,rE (by lia) (by rw[jL];lia),?_⟩;refine⟨_,_,rfl,s7.over hcH,?_,?_⟩
   ·rw[d4 (bL cp')];exact s34 _ _ hp3
   ·rw[di,xQ];refine congrArg (fun q=>some (HO.lst q)) (gB fun j hj=> ?_);by_cases e:j=t+h
    ·subst e;rw[ah rfl,af (by lia),ah (by lia)];have e2:t+h - t=h:=by lia
     rw[e2,gDe (l:=r),hz2];simp
    ·rw[af e];by_cases e2:t<=j/\j<t+h
     ·rw[ah e2,ah (by lia)]
     ·rw[af e2,af (by lia)]
  ·rintro σ H3 ⟨x6,x7,rfl,s6,hp3,hc3⟩;refine⟨_,_,_,_,rfl,by lia,s6,?_,?_⟩
   ·rw[hc3,et2];refine congrArg (fun q=>some (HO.lst q)) (gB fun j hj=> ?_);rw[eT,de.i8,lT,lMp];by_cases e:t<=j
    ·rw[ah e];by_cases e2:j<t+r.length
     ·rw[ah ⟨e,e2⟩];lia
     ·rw[af (fun h=>e2 h.2),gDe (l:=r),aI (by lia)];simp
    ·rw[af e,af (fun h=>e h.1)];lia
   ·rw[hp3,et2]
 ·rintro σ H1 ⟨x4,x5,x6,x7,rfl,hi2,s3,hc1,hp1⟩;refine⟨_,rfl,k p H1 hpH s3 ?_⟩;rw[hp1,C6 (l:=m) rfl];refine congrArg (fun q=>some (HO.lst q)) (gB fun j hj=> ?_);rw[ah (by lia)]
end
noncomputable def Va:Nat->List Int->List Int->Prop
 |0,_,_=>True
 |f+1,rest,right=>rest.length<right.length\/((∀x∈rest,IntMulOk (de.lc right) x)/\(∀y∈right,IntMulOk (de.lc rest) y)/\Va f (de.lI rest right) right)
noncomputable def Vb:Nat->List Int->List Int->Prop
 |0,_,_=>True
 |f+1,l,s=>s=[]\/(Va (l.length+1) l s/\Vb f s (de.prim (de.gP l s)))
structure Wa(T B:List Int):Prop where
 chain:Vb (B.length+1) (de.prim T) (de.prim B)
 W6:(de.lc (de.pO T B)).natAbs.log2<9000
 mA:∀x∈de.mZ T (de.pO T B),∀y∈de.pO T B,IntMulOk x y
 mB:∀x∈de.mZ B (de.pO T B),∀y∈de.pO T B,IntMulOk x y
 W7:(de.lE (de.cont (de.mZ T (de.pO T B))) (de.cont (de.mZ B (de.pO T B)))).natAbs.log2<9000
 lT:(de.mZ T (de.pO T B)).length<1000000
 lB:(de.mZ B (de.pO T B)).length<1000000
 lG:(de.pO T B).length<1000000
section
variable {P:Program}{w:World}{K:PySem.W.Frag}{mg:Str->Option Value}{base:Heap}
noncomputable abbrev h9:Stmt:=top 27
theorem wA:dE ["left","right","rest","shift","taken","y","x"] ["left","right"] (dj h9):=sco
noncomputable def oy:Sp:=fun vs H Q _=>∃v u l r,vs=[v,u]/\fD H v l/\fD H u r/\Short l/\Short r/\de.Trim l/\r≠[]/\Va (l.length+1) l r/\∀z H',dI H H'->fD H' z (de.gP l r)->Q z H'
theorem wB(T:Txt mg)(gJ:eV P w K mg base "subtracted" ["left","right"] 3 mI)(G:iI K mg "whole_remainder" h9 ["left","right"]):eV P w K mg base "whole_remainder" ["left","right"] 4 oy:=by
 have sc:=wA;refine G.iX sc fun f cdv A outer s H vs Q E hr h=> ?_
 obtain⟨v,u,l,r,rfl,pl,⟨b,rfl,hb⟩,hl,hr',tl,r0,wk,k⟩:=h;unfold Short at hl hr';have pr:0<r.length:=aE.mpr r0;refine⟨rfl,_,(dh (dW (i:=2) sc.nd (pv 0))
   (dh (xb PassesOwn.never (eO Od (dY (eJ K) rfl T.gR d7 (c8 (pv 2) dc)) (dY (eJ K) rfl T.gR d7 (c8 (pv 1) dc)) (eH _)) (dh (dW (i:=3) sc.nd (eX nZ (dY (eJ K) rfl T.gR d7 (c8 (pv 2) dc)) (dY (eJ K) rfl T.gR d7 (c8 (pv 1) dc))))
   (dh (dW (i:=4) sc.nd (eX ql (eX F8 (dP (c8 dC dc)) (pv 3)) (lH rfl sc.nd (fu (pv 1)) (fm (own:=[("y",5)]) (by show lL ["left","right","rest","shift","taken","y","x"] (dj h9) _ _=true;decide +kernel)) (fun _ _ _ _ _=>(eZ (i:=5) sc.nd)) (fun _ _ _ _ _=>fQ) (fun _ _ _ _ _=>(eX ik (d6 (jH K) (pv 2) (jT ie dC) (fun _ _=>rfl)) (pv 5))))))
   (dk (dW (i:=2) sc.nd (dz gJ hr (c8 (lH rfl sc.nd (fu (pv 2)) (fm (own:=[("x",6)]) (by show lL ["left","right","rest","shift","taken","y","x"] (dj h9) _ _=true;decide +kernel)) (fun _ _ _ _ _=>(eZ (i:=6) sc.nd)) (fun _ _ _ _ _=>fQ) (fun _ _ _ _ _=>(eX ik (d6 (jH K) (pv 1) (jT ie dC) (fun _ _=>rfl)) (pv 6)))) (c8 (pv 4) dc))))))))
   (dk (dD (pv 2))))),?_⟩
 refine⟨_,rfl,fun m σ H'=>∃z rest g x3 x4,σ=[some v,some (.ref b),some z,x3,x4,none,none]/\dI H H'/\fD H' z rest/\rest.length=m/\m<=l.length/\rest.length<g/\de.Trim rest/\Va g rest r/\de.zj g rest r=de.gP l r,⟨l.length,v,l,l.length+1,none,none,rfl,.refl _,pl,rfl,aj _,by lia,tl,wk,rfl⟩,?_⟩;rintro m σ H1 ⟨z,rest,g,x3,x4,rfl,s1,⟨a,rfl,ha⟩,hm,hml,hg,tre,wk',hw⟩;obtain⟨g,rfl⟩:∃g',g=g' +1:=⟨g - 1,by lia⟩;have hb1:=s1 _ _ hb;refine⟨_,rfl,a,_,rfl,.inl (.of ha),_,rfl,b,_,rfl,.inl (.of hb1),_,_,rfl,rfl,_,rfl,?_⟩;rw[lMp,lMp];by_cases hlt:rest.length<r.length
 ·rw[aq (show ¬(rest.length:Int) ≥ (r.length:Int) by lia)];refine fh ⟨_,rfl,k _ H1 s1 ⟨a,rfl,?_⟩⟩;have e:de.zj (g+1) rest r=rest:=ah hlt;rw[<-hw,e];exact ha
 ·rw[ak (show(rest.length:Int) ≥ (r.length:Int) by lia)];obtain⟨m1,m2,m3⟩:=wk'.resolve_left hlt;have rest0:rest≠[]:=fun e=>hlt (by rw[e];exact pr)
  refine e7 ⟨fun σ' H'=>∃z rest' x3 x4,σ'=[some v,some (.ref b),some z,x3,x4,none,none]/\dI H H'/\fD H' z rest'/\rest'=de.lI rest r,?_,?_⟩
  ·rintro σ' H' ⟨z,rest',x3,x4,rfl,s2,pz,rfl⟩;have ws:=de.CA (rest:=rest) (right:=r) (by lia) r0;refine⟨_,by rw[<-hm];exact ws.2.1,z,_,g,x3,x4,rfl,s2,pz,rfl,by have:=ws.2.1;lia,by have:=ws.2.1;lia,ws.2.2,m3,?_⟩;rw[<-hw];show _=if rest.length<r.length then rest else de.zj g (de.lI rest r) r
   rw[af hlt]
  refine⟨_,rfl,a,_,rfl,.inl (.of ha),_,rfl,b,_,rfl,.inl (.of hb1),_,_,rfl,rfl,?_⟩;refine⟨dq (by simp),fun q hq=> ?_⟩;have s2:dI H1 (upd H1 q (.lst [.int 0])):=du hq;refine⟨_,rfl,q,_,_,rfl,rfl,di,by rw[lMp,lMp];lia,by rw[lMp,lMp];lia,dq (by simp;lia),fun p hp=> ?_⟩;have en:((rest.length:Int) - (r.length:Int)).toNat=rest.length - r.length:=by lia
  rw[lMp,lMp,en,BP];have s3:=s2.trans (du (o:= .lst (arr (rest.length - r.length) fun _=>0)) hp);have hb3:=s3 _ _ hb1;have ha3:=s3 _ _ ha;have hp3:(upd (upd H1 q (.lst [.int 0])) p (.lst (arr (rest.length - r.length) fun _=>0))) p=some (.lst (arr (rest.length - r.length) fun _=>0)):=di;generalize hH3:upd (upd H1 q (.lst [.int 0])) p (.lst (arr (rest.length - r.length) fun _=>0))=H3 at s3 hb3 ha3 hp3;refine⟨_,rfl,b,rfl,⟨_,.of hb3⟩,fun D hD=>mX (fw (.of hb3)) hD (fun i _ acc=>acc=(r.take i).map fun y=>V.int (de.lc rest*y)) rfl ?_ ?_⟩
  ·rintro i x H4 H5 acc hi s4 hD1 hacc s5 s45 hD2 hx;obtain⟨y,hy,rfl⟩:=hZ hx;refine⟨rfl,⟨_,rfl,_,rfl,a,_,_,_,rfl,rfl,.of (s5 _ _ ha3),G3 rest0,_,rfl,ph ⟨m2 y (aB hy),?_⟩⟩⟩;refine gh hD s5 hD2 ?_ ?_
   ·rw[hacc,lMp,aD];exact dH (by lia)
   ·rw[hacc,d9 _ _ _ _ hy]
  ·intro H4 acc s4 hD1 hacc;rw[lMp,aG] at hacc;refine⟨p,D,_,_,rfl,rfl,s4 _ _ hp3,hD1,by rw[hacc,jL,lMp];exact dq (by lia),fun t ht=> ?_⟩;have s5:=(s3.trans s4).trans (du (o:= .lst (arr (rest.length - r.length) (fun _=>0) ++ acc)) ht);have htk:(upd H4 t (.lst (arr (rest.length - r.length) (fun _=>0) ++ acc))) t=some (.lst (arr (rest.length - r.length) (fun _=>0) ++ acc)):=di;have ha5:=s5 _ _ ha;have hb5:=s5 _ _ hb1;generalize hH5:upd H4 t (.lst (arr (rest.length - r.length) (fun _=>0) ++ acc))=H5 at s5 htk ha5 hb5;refine⟨_,rfl,a,rfl,⟨_,.of ha5⟩,fun D2 hD2=>mX (fw (.of ha5)) hD2 (fun i _ acc=>acc=(rest.take i).map fun y=>V.int (de.lc r*y)) rfl ?_ ?_⟩
   ·rintro i x H6 H7 acc2 hi s6 hD3 hacc2 s7 s67 hD4 hx;obtain⟨y,hy,rfl⟩:=hZ hx;refine⟨rfl,⟨_,rfl,_,rfl,b,_,_,_,rfl,rfl,.of (s7 _ _ hb5),G3 r0,_,rfl,ph ⟨m1 y (aB hy),?_⟩⟩⟩;refine gh hD2 s7 hD4 ?_ ?_
    ·rw[hacc2,lMp,aD];exact dH (by lia)
    ·rw[hacc2,d9 _ _ _ _ hy]
   ·intro H6 acc2 s6 hD3 hacc2;rw[lMp,aG] at hacc2;refine⟨_,rfl,?_⟩;have e1:acc2=(rest.map fun x=>de.lc r*x).map V.int:=by rw[hacc2,aR];rfl
    have e2:arr (rest.length - r.length) (fun _=>0) ++ acc=(List.replicate (rest.length - r.length) 0 ++ r.map fun y=>de.lc rest*y).map V.int:=by
     have e3:arr (rest.length - r.length) (fun _=>0)=(List.replicate (rest.length - r.length) (0:Int)).map V.int:=by
      rw[C6 (l:=List.replicate (rest.length - r.length) 0) (n:=rest.length - r.length) (by simp)];refine gB fun j hj=> ?_
      rw[gDe,cf];split <;>rfl
     rw[aP,hacc,aR,e3];rfl
    refine⟨_,_,_,_,rfl,⟨D2,rfl,by rw[hD3,e1]⟩,⟨t,rfl,by rw[s6 _ _ htk,e2]⟩,?_,?_,fun z H' hz s8 hzz=> ?_⟩
    ·unfold Short;rw[lMp];lia
    ·unfold Short;rw[aA,aQ,lMp];lia
    ·exact⟨.ref z,_,_,_,rfl,((s1.trans s5).trans s6).trans s8,⟨z,rfl,hzz⟩,rfl⟩
noncomputable abbrev l5:Stmt:=top 28
theorem xS:dE ["left","right","large","small","rest"] ["left","right"] (dj l5):=sco
noncomputable def pY:Sp:=fun vs H Q _=>∃v u l r,vs=[v,u]/\fD H v l/\fD H u r/\Short l/\Short r/\de.Trim l/\de.Trim r/\Vb (r.length+1) (de.prim l) (de.prim r)/\∀z H',dI H H'->fD H' z (de.pO l r)->Q z H'
theorem PD{l s:List Int}(ts:de.Trim s)(tl:de.Trim l)(hs:s≠[]):(de.gP l s).length<s.length/\de.Trim (de.gP l s):=by
 obtain⟨_,_,_,_,h1,h2⟩:=de.xy hs ts (l.length+1) l tl (by lia);exact⟨h1,h2⟩
theorem xT(mS:eV P w K mg base "primitive" ["polynomial"] 41 xR)(kz:eV P w K mg base "whole_remainder" ["left","right"] 4 oy)(G:iI K mg "common_divisor" l5 ["left","right"]):eV P w K mg base "common_divisor" ["left","right"] 42 pY:=by
 have sc:=xS;refine G.iX sc fun f cdv A outer s H vs Q E hr h=> ?_
 obtain⟨v,u,l,r,rfl,pl,pr,hl,hr',tl,tr,ck,k⟩:=h;refine⟨rfl,_,(dh (dW (i:=2) sc.nd (dz mS hr (c8 (pv 0) dc)))
   (dh (dW (i:=3) sc.nd (dz mS hr (c8 (pv 1) dc)))
   (dh (xb PassesOwn.never (fc K (pv 3) (fun _=>rfl)) (dh (dW (i:=4) sc.nd (dz mS hr (c8 (dz kz hr (c8 (pv 2) (c8 (pv 3) dc))) dc)))
   (dh (dW (i:=2) sc.nd (pv 3))
   (dk (dW (i:=3) sc.nd (pv 4))))))
   (dk (dD (pv 2)))))),?_⟩
 refine⟨_,rfl,_,_,rfl,pl,hl,tl,fun a H1 ha s1 ha1=> ?_⟩;refine⟨_,rfl,_,_,rfl,pr.same s1,hr',tr,fun b H2 hb s2 hb2=> ?_⟩;unfold Short at hl hr';refine⟨fun m σ H'=>∃x y g p q z,σ=[some v,some u,some x,some y,z]/\dI H H'/\fD H' x p/\fD H' y q/\q.length=m/\p.length<1000000/\q.length<1000000/\de.Trim p/\de.Trim q/\q.length<g/\Vb g p q/\de.A7 g p q=de.pO l r,⟨_,.ref a,.ref b,r.length+1,_,_,none,rfl,s1.trans s2,⟨a,rfl,s2 _ _ ha1⟩,⟨b,rfl,hb2⟩,rfl,by rw[de.gQ];exact hl,by rw[de.gQ];exact hr',de.iz tl,de.iz tr,by rw[de.gQ];lia,ck,rfl⟩,?_⟩;rintro m σ H3 ⟨x,y,g,p,q,z,rfl,s3,px,⟨yb,rfl,hy⟩,hm,lp,lq,tp,tq,hg,ck',hcd⟩;obtain⟨g,rfl⟩:∃g',g=g' +1:=⟨g - 1,by lia⟩;refine⟨_,rfl,_,Eg hy,?_⟩;by_cases q0:q=[]
 ·subst q0;refine fh ⟨_,rfl,k _ _ s3 ?_⟩;have e:de.A7 (g+1) p []=p:=ah rfl;rw[<-hcd,e];exact px
 ·rw[iS q0];obtain⟨c1,c2⟩:=ck'.resolve_left q0;obtain⟨w1,w2⟩:=PD tq tp q0;refine e7 ⟨_,fun σ' H' q=>q,_,rfl,_,rfl,_,_,_,_,rfl,px,⟨yb,rfl,hy⟩,lp,lq,tp,q0,c1,fun z1 H4 s4 pz=> ?_⟩;refine⟨_,_,rfl,pz,by unfold Short;lia,w2,fun c H5 hc s5 hc5=> ?_⟩;refine⟨_,rfl,_,rfl,_,by rw[<-hm];exact w1,.ref yb,.ref c,g,q,_,some (.ref c),rfl,(s3.trans s4).trans s5,⟨yb,rfl,s5 _ _ (s4 _ _ hy)⟩,⟨c,rfl,hc5⟩,de.gQ _,lq,by rw[de.gQ];lia,tq,de.iz w2,by rw[de.gQ];lia,c2,?_⟩;rw[<-hcd];show _=if q=[] then p else de.A7 g q (de.prim (de.gP p q))
  rw[af q0]
noncomputable abbrev m6:Stmt:=top 95
theorem zO:dE ["top","bottom","shared","lean_top","lean_bottom","factor"] ["top","bottom"] (dj m6):=sco
noncomputable def qZ:Sp:=fun vs H Q _=>∃v u T B,vs=[v,u]/\fD H v T/\fD H u B/\Short T/\Short B/\de.Trim T/\de.Trim B/\B≠[]/\(T≠[]->Wa T B)/\pj H Q (de.sO T B)
theorem zP(l6:eV P w K mg base "common_divisor" ["left","right"] 42 pY)(l9:eV P w K mg base "divided" ["left","right"] 1 wz)(lZ:eV P w K mg base "content" ["polynomial"] 2 wu)(fj:eV P w K mg base "greatest_divisor" ["x","y"] 1 ir)(jn:eV P w K mg base "told_polynomial" ["polynomial","factor"] 1 iR)(G:iI K mg "told_quotient" m6 ["top","bottom"]):eV P w K mg base "told_quotient" ["top","bottom"] 43 qZ:=by
 have sc:=zO;refine G.iX sc fun f cdv A outer s H vs Q E hr h=> ?_
 obtain⟨v,u,T,B,rfl,⟨a,rfl,ha⟩,⟨b,rfl,hb⟩,hT,hB,tT,tB,B0,ok,k⟩:=h;refine⟨rfl,_,(dh (fC (kj (fc K (pv 0) (fun _=>rfl))) (dk (dD (dP (c8 dC (c8 dC (c8 dC (c8 dC dc))))))) eh)
   (dh (dW (i:=2) sc.nd (dz l6 hr (c8 (pv 0) (c8 (pv 1) dc))))
   (dh (dW (i:=3) sc.nd (dz l9 hr (c8 (pv 0) (c8 (pv 2) dc))))
   (dh (dW (i:=4) sc.nd (dz l9 hr (c8 (pv 1) (c8 (pv 2) dc))))
   (dh (dW (i:=5) sc.nd (dz fj hr (c8 (dz lZ hr (c8 (pv 3) dc)) (c8 (dz lZ hr (c8 (pv 4) dc)) dc))))
   (dh (fC (eO Ld (d6 (jH K) (pv 4) (jT ie dC) (fun _ _=>rfl)) dC (eH _)) (dk (dW (i:=5) sc.nd (jT ie (pv 5)))) eh)
   (dk (dD (eX ql (dz jn hr (c8 (pv 3) (c8 (pv 5) dc))) (dz jn hr (c8 (pv 4) (c8 (pv 5) dc)))))))))))),?_⟩
 refine⟨_,rfl,_,Eg ha,?_⟩;by_cases T0:T=[]
 ·subst T0;exact e7 ⟨dq (by simp),fun p hp=>k p _ hp (du hp) (by rw[di];rfl)⟩
 rw[iS T0];have O:=ok T0;obtain⟨tg,hg,gg,_,⟨pa,ea⟩,⟨pb,eb⟩⟩:=de.J4 tT tB T0;obtain⟨Aq,tA,oA⟩:=de.nV gg ea;obtain⟨Bq,tBq,oB⟩:=de.nV gg eb;have dA:de.mZ T (de.pO T B)=Aq:=de.pQ tT tg tA hg (by rw[oA];exact ea);have dB:de.mZ B (de.pO T B)=Bq:=de.pQ tB tg tBq hg (by rw[oB];exact eb);obtain⟨o1,o2,o3,o4,o5,o6,o7,o8⟩:=O;rw[dA] at o3 o5 o6;rw[dB] at o4 o5 o7;have Bq0:Bq≠[]:=fun z=>B0 ((de.fK tB).mp (by
  rw[eb,<-oB,z];show(0:de.PF)*_=0;grind))
 have Aq0:Aq≠[]:=fun z=>T0 ((de.fK tT).mp (by
  rw[ea,<-oA,z];show(0:de.PF)*_=0;grind))
 have ek:de.sO T B=de.sN Aq (if de.lc Bq<0 then -(de.lE (de.cont Aq) (de.cont Bq)) else de.lE (de.cont Aq) (de.cont Bq)) ++ de.sN Bq (if de.lc Bq<0 then -(de.lE (de.cont Aq) (de.cont Bq)) else de.lE (de.cont Aq) (de.cont Bq)):=by
  unfold de.sO;dsimp only;rw[af T0,dA,dB]
 rw[ek] at k;have f0:de.lE (de.cont Aq) (de.cont Bq)≠0:=by
  unfold de.lE;rw[de.jY,de.jY,bI,bI];have:=c7 (de.fO Aq) (de.jz tBq Bq0);lia
 refine fh ⟨_,rfl,_,rfl,_,_,_,_,rfl,⟨a,rfl,ha⟩,⟨b,rfl,hb⟩,hT,hB,tT,tB,o1,fun z1 H1 s1 pz=> ?_⟩;refine⟨_,rfl,_,rfl,_,_,T,_,Aq,rfl,⟨a,rfl,s1 _ _ ha⟩,pz,hT,o8,tT,tg,tA,hg,by rw[oA];exact ea,o2,o3,fun c H2 hc s2 hc2=> ?_⟩;refine⟨_,rfl,_,rfl,_,_,B,_,Bq,rfl,⟨b,rfl,s2 _ _ (s1 _ _ hb)⟩,pz.same s2,hB,o8,tB,tg,tBq,hg,by rw[oB];exact eb,o2,o4,fun d H3 hd s3 hd3=> ?_⟩;refine⟨_,rfl,_,_,rfl,⟨c,rfl,s3 _ _ hc2⟩,fun H4 s4=> ?_⟩;refine⟨_,rfl,_,_,rfl,⟨d,rfl,s4 _ _ hd3⟩,fun H5 s5=> ?_⟩;refine⟨_,_,rfl,?_⟩;have hc5:=s5 _ _ (s4 _ _ (s3 _ _ hc2));have hd5:=s5 _ _ (s4 _ _ hd3);have s05:dI H H5:=(((s1.trans s2).trans s3).trans s4).trans s5;have tail:∀fa:Int,fa≠0->fa.natAbs.log2<9000->pj H Q (de.sN Aq fa ++ de.sN Bq fa)->Qz (RS SK (Lf iR [] E0 (xf (vL 3) (xf (vL 5) My))) (Lf iR [] E0 (xf (vL 4) (xf (vL 5) My)))) {nx:=fun _ H'=>Q .jS H',rt:=Q} [some (.ref a),some (.ref b),some z1,some (.ref c),some (.ref d),some (.int fa)] H5:=fun fa h1 h2 k=>by
  refine⟨_,rfl,_,rfl,_,_,_,rfl,⟨c,rfl,hc5⟩,o6,h1,h2,fun p H6 hp s6 hp6=> ?_⟩;refine⟨_,rfl,_,rfl,_,_,_,rfl,⟨d,rfl,s6 _ _ hd5⟩,o7,h1,h2,fun q H7 hq s7 hq7=> ?_⟩;have l1:∀(c:List Int) (f:Int),(de.sN c f).length=c.length+1:=fun c f=>by unfold de.sN;simp
  refine⟨p,q,_,_,rfl,rfl,s7 _ _ hp6,hq7,by rw[lMp,lMp,l1,l1];exact dq (by lia),fun t ht=> ?_⟩;refine k t _ ((s05.trans (s6.trans s7)).free ht) ((s05.trans (s6.trans s7)).trans (du ht)) ?_;rw[di,aP]
 refine⟨_,rfl,_,rfl,d,_,_,_,rfl,rfl,.of hd5,G3 Bq0,_,_,rfl,rfl,_,rfl,?_⟩;by_cases hn:de.lc Bq<0
 ·rw[ah hn] at k;rw[ak hn];exact e7 ⟨_,rfl,_,rfl,tail _ (by lia) (by rw[Int.natAbs_neg];exact o5) k⟩
 ·rw[af hn] at k;rw[aq hn];exact fh (tail _ f0 o5 k)
end
noncomputable abbrev Rp (α:Type):=(Addr->Prop)->Hp->V->α->Prop
noncomputable def Off (S:Addr->Prop) (H H':Hp):Prop:=∀a o,¬S a->H a=some o->H' a=some o
theorem _root_.L2.dI.off{H H':Hp}(s:dI H H')(S:Addr->Prop):Off S H H':=fun a o _ h=>s a o h
theorem fI{S:Addr->Prop}{H:Hp}{p:Addr}{o:HO}(hp:S p):Off S H (upd H p o):=fun a u hs h=>by
 rw[d4 (fun e=>hs (by rw[e];exact hp))];exact h
theorem _root_.PySem.Paired.fY{α β:Type}{F G:α->β->Prop}{l:List α}{m:List β}(p:Paired F l m)(f:∀a b,F a b->G a b):Paired G l m:=L2.Paired.Sl p f
structure Good{α:Type}(r:Rp α):Prop where
 off:∀{S:Addr->Prop} {H H':Hp} {v:V} {x:α},r S H v x->Off S H H'->r S H' v x
 zC:∀{S S':Addr->Prop} {H:Hp} {v:V} {x:α},r S H v x->(∀a,S' a->S a\/H a=none)->r S' H v x
theorem Good.same{α:Type}{r:Rp α}(g:Good r){S:Addr->Prop}{H H':Hp}{v:V}{x:α}(h:r S H v x)(s:dI H H'):r S H' v x:=g.off h (s.off S)
theorem Good.less{α:Type}{r:Rp α}(g:Good r){S S':Addr->Prop}{H:Hp}{v:V}{x:α}(h:r S H v x)(s:∀a,S' a->S a):r S' H v x:=g.zC h fun a ha=> .inl (s a ha)
noncomputable def tj:Rp (List Int):=fun S H v l=>∃a,v= .ref a/\¬S a/\H a=some (.lst (l.map V.int))
theorem gC:Good tj where
 off:=fun⟨a,e,hs,h⟩ o=>⟨a,e,hs,o a _ hs h⟩
 zC:=fun⟨a,e,hs,h⟩ w=>⟨a,e,(fun q=>(w a q).elim hs fun z=>(by rw[h] at z;cases z)),h⟩
theorem tj.at_{S:Addr->Prop}{H:Hp}{v:V}{l:List Int}(h:tj S H v l):fD H v l:=let ⟨a,e,_,q⟩:=h;⟨a,e,q⟩
theorem fD.s{H:Hp}{v:V}{l:List Int}(h:fD H v l):tj (fun _=>False) H v l:=let ⟨a,e,q⟩:=h;⟨a,e,fun z=>z,q⟩
noncomputable def M8 {α:Type} (r:Rp α):Rp (List α):=fun S H v l=>∃a vs,v= .ref a/\¬S a/\H a=some (.lst vs)/\Paired (r S H) vs l
theorem PH{α:Type}{r:Rp α}(g:Good r):Good (M8 r) where
 off:=fun⟨a,vs,e,hs,h,p⟩ o=>⟨a,vs,e,hs,o a _ hs h,p.fY fun _ _ q=>g.off q o⟩
 zC:=fun⟨a,vs,e,hs,h,p⟩ w=>⟨a,vs,e,fun q=>(w a q).elim hs fun z=>(by rw[h] at z;cases z),h,p.fY fun _ _ q=>g.zC q w⟩
noncomputable def lK:Rp (Int×List Int):=fun S H v t=>∃a p,v= .ref a/\¬S a/\H a=some (.tup [.int t.1,p])/\tj S H p t.2
theorem i4:Good lK where
 off:=fun⟨a,p,e,hs,h,q⟩ o=>⟨a,p,e,hs,o a _ hs h,gC.off q o⟩
 zC:=fun⟨a,p,e,hs,h,q⟩ w=>⟨a,p,e,fun z=>(w a z).elim hs fun y=>(by rw[h] at y;cases y),h,gC.zC q w⟩
noncomputable abbrev uA:Rp (List (List Int)):=M8 tj
noncomputable abbrev PJ:Rp (List (List (List Int))):=M8 uA
noncomputable abbrev rS:Rp (List (Int×List Int)):=M8 lK
noncomputable abbrev Vc:Rp (List (List (Int×List Int))):=M8 rS
theorem fk:Good uA:=PH gC
theorem Mc:Good PJ:=PH fk
theorem eY:Good rS:=PH i4
theorem _root_.PySem.Paired.mU{α β:Type}{F:α->β->Prop}:∀{l:List α} {m:List β} {i:Nat} {x:α},Paired F l m->l[i]? =some x->∃y,m[i]? =some y/\F x y
 |_,_,_,_,.nil,e=>by simp at e
 |_,_,0,_,.cons r _,e=>by
  simp at e;subst e;exact⟨_,rfl,r⟩
 |_,_,i+1,x,.cons _ t,e=>by
  obtain⟨y,h1,h2⟩:=PySem.Paired.mU (i:=i) (x:=x) t (by simpa using e);exact⟨y,by simpa using h1,h2⟩
theorem _root_.PySem.Paired.kJ{α β:Type}{F:α->β->Prop}:∀{l:List α} {m:List β} {i:Nat} {y:β},Paired F l m->m[i]? =some y->∃x,l[i]? =some x/\F x y
 |_,_,_,_,.nil,e=>by simp at e
 |_,_,0,_,.cons r _,e=>by
  simp at e;subst e;exact⟨_,rfl,r⟩
 |_,_,i+1,y,.cons _ t,e=>by
  obtain⟨x,h1,h2⟩:=PySem.Paired.kJ (i:=i) (y:=y) t (by simpa using e);exact⟨x,by simpa using h1,h2⟩
theorem _root_.PySem.Paired.iT{α β:Type}{F:α->β->Prop}:∀{l:List α} {m:List β} {x:α} {y:β},Paired F l m->F x y->Paired F (l ++ [x]) (m ++ [y])
 |_,_,_,_,.nil,h=> .cons h .nil
 |_,_,_,_,.cons r t,h=> .cons r (PySem.Paired.iT t h)
theorem _root_.PySem.Paired.app{α β:Type}{F:α->β->Prop}:∀{l l':List α} {m m':List β},Paired F l m->Paired F l' m'->Paired F (l ++ l') (m ++ m')
 |_,_,_,_,.nil,h=>h
 |_,_,_,_,.cons r t,h=> .cons r (PySem.Paired.app t h)
theorem _root_.PySem.Paired.setAt{α β:Type}{F:α->β->Prop}{x:α}{y:β}(h:F x y):∀{l:List α} {m:List β} (i:Nat),Paired F l m->Paired F (l.set i x) (m.set i y)
 |_,_,_,.nil=> .nil
 |_,_,0,.cons _ t=> .cons h t
 |_,_,i+1,.cons r t=> .cons r (PySem.Paired.setAt h i t)
theorem _root_.PySem.Paired.PK{α β:Type}{F:α->β->Prop}:∀{l:List α} {m:List β} (i:Nat),Paired F l m->Paired F (l.take i) (m.take i)
 |_,_,0,_=> .nil
 |_,_,_+ 1,.nil=> .nil
 |_,_,i+1,.cons r t=> .cons r (PySem.Paired.PK i t)
noncomputable def NQ (S:Addr->Prop) (H:Hp):Prop:=∀a,S a->H a≠none
theorem NQ.same{S:Addr->Prop}{H H':Hp}(d:NQ S H)(s:dI H H'):NQ S H':=fun a ha z=>d a ha (s.free z)
theorem NQ.new{S:Addr->Prop}{H:Hp}{p:Addr}(d:NQ S H)(h:H p=none):¬S p:=fun q=>d p q h
noncomputable def fP (S:Addr->Prop) (p:Addr):Addr->Prop:=fun a=>S a\/a=p
theorem NQ.and{S:Addr->Prop}{H:Hp}{p:Addr}{o:HO}(d:NQ S H)(h:H p=some o):NQ (fP S p) H:=fun a ha z=>by
 rcases ha with ha |rfl
 ·exact d a ha z
 ·rw[h] at z;cases z
theorem Good.and{α:Type}{r:Rp α}(g:Good r){S:Addr->Prop}{H:Hp}{v:V}{x:α}{p:Addr}(h:r S H v x)(hp:H p=none):r (fP S p) H v x:=g.zC h fun a ha=>ha.elim .inl fun e=> .inr (by rw[e];exact hp)
theorem Good.un{α:Type}{r:Rp α}(g:Good r){S:Addr->Prop}{H:Hp}{v:V}{x:α}{p:Addr}(h:r (fP S p) H v x):r S H v x:=g.less h fun a ha=> .inl ha
theorem _root_.PySem.Paired.Rt{α:Type}{r:Rp α}(g:Good r){S:Addr->Prop}{H:Hp}{vs:List V}{l:List α}{p:Addr}(h:Paired (r S H) vs l)(hp:H p=none):Paired (r (fP S p) H) vs l:=h.fY fun _ _ q=>g.and q hp
theorem _root_.PySem.Paired.NR{α:Type}{r:Rp α}(g:Good r){S:Addr->Prop}{H:Hp}{vs:List V}{l:List α}{p:Addr}(h:Paired (r (fP S p) H) vs l):Paired (r S H) vs l:=h.fY fun _ _ q=>g.un q
theorem _root_.PySem.Paired.uB{α:Type}{r:Rp α}(g:Good r){S:Addr->Prop}{H H':Hp}{vs:List V}{l:List α}(h:Paired (r S H) vs l)(o:Off S H H'):Paired (r S H') vs l:=h.fY fun _ _ q=>g.off q o
theorem _root_.PySem.Paired.i5{α:Type}{r:Rp α}(g:Good r){S:Addr->Prop}{H H':Hp}{vs:List V}{l:List α}(h:Paired (r S H) vs l)(s:dI H H'):Paired (r S H') vs l:=h.fY fun _ _ q=>g.same q s
noncomputable def PL (p:de.Part):List (Str×V):=jr "bottom" (.int p.dF) (jr "top" (.int p.top) (jr "d" (.int p.d) (jr "c" (.int p.c) (jr "b" (.int p.b) (jr "a" (.int p.a) (jr "kind" (.int p.kind) []))))))
noncomputable def Vd (last:Int) (ps:V):List (Str×V):=jr "parts" ps (jr "last_node" (.int last) [])
noncomputable def Wb (d8 s gI drives places:V) (width:Int):List (Str×V):=jr "width" (.int width) (jr "places" places (jr "drives" drives (jr "states" gI (jr "s" s (jr "network" d8 [])))))
noncomputable def Ve (det tops:V):List (Str×V):=jr "tops" tops (jr "determinant" det [])
noncomputable def WI (gI sol:V):List (Str×V):=jr "solution" sol (jr "states" gI [])
structure zQ(K:PySem.W.Frag)(C:Addr)(fs:List Str):Prop where
 cl:QE K C
 no:∀f∈fs,n8 K C f
structure Cs where
 part:Addr
 d8:Addr
 jQ:Addr
 sol:Addr
 pt:Addr
 ask:Addr
structure gw(K:PySem.W.Frag)(c:Cs):Prop where
 part:zQ K c.part ["kind","a","b","c","d","top","bottom"]
 d8:zQ K c.d8 ["last_node","parts"]
 jQ:zQ K c.jQ ["network","s","states","drives","places","width"]
 sol:zQ K c.sol ["determinant","tops"]
 pt:zQ K c.pt ["states","solution"]
section
variable (c:Cs)
noncomputable def gS (H:Hp) (v:V) (p:de.Part):Prop:=∃a dx,v= .ref a/\H a=some (.ins c.part dx (PL p))
noncomputable def nO (H:Hp) (v:V) (ps:List de.Part):Prop:=∃a vs,v= .ref a/\H a=some (.lst vs)/\Paired (gS c H) vs ps
noncomputable def nE (H:Hp) (v:V) (n:de.Nw):Prop:=∃a dx vp,v= .ref a/\H a=some (.ins c.d8 dx (Vd n.last vp))/\nO c H vp n.c9
noncomputable def vG (H:Hp) (v:V) (l:List Bool):Prop:=∃a,v= .ref a/\H a=some (.lst (l.map V.bl))
noncomputable def Dc (H:Hp) (v:V) (l:List (Int×Int)):Prop:=∃a vs,v= .ref a/\H a=some (.lst vs)/\Paired (fun u (x:Int×Int)=>∃t,u= .ref t/\H t=some (.tup [.int x.1,.int x.2])) vs l
noncomputable def nF (H:Hp) (v:V) (g:de.lJ):Prop:=∃a dx vn vs vst vd vp,v= .ref a/\H a=some (.ins c.jQ dx (Wb vn vs vst vd vp (de.width g.d8)))/\nE c H vn g.d8/\fD H vs g.s/\vG H vst g.gI/\Dc H vd g.drives/\fD H vp (de.places g.d8)
noncomputable def sR (H:Hp) (v:V) (s:List Int×List (List Int)):Prop:=∃a dx vd vt,v= .ref a/\H a=some (.ins c.sol dx (Ve vd vt))/\fD H vd s.1/\uA (fun _=>False) H vt s.2
variable {c}
theorem gS.same{H H':Hp}{v:V}{p:de.Part}(h:gS c H v p)(s:dI H H'):gS c H' v p:=let ⟨a,dx,e,q⟩:=h;⟨a,dx,e,s _ _ q⟩
theorem nO.same{H H':Hp}{v:V}{p:List de.Part}(h:nO c H v p)(s:dI H H'):nO c H' v p:=let ⟨a,vs,e,q,r⟩:=h;⟨a,vs,e,s _ _ q,r.fY fun _ _ z=>z.same s⟩
theorem nE.same{H H':Hp}{v:V}{n:de.Nw}(h:nE c H v n)(s:dI H H'):nE c H' v n:=let ⟨a,dx,vp,e,q,r⟩:=h;⟨a,dx,vp,e,s _ _ q,r.same s⟩
theorem vG.same{H H':Hp}{v:V}{l:List Bool}(h:vG H v l)(s:dI H H'):vG H' v l:=let ⟨a,e,q⟩:=h;⟨a,e,s _ _ q⟩
theorem Dc.same{H H':Hp}{v:V}{l:List (Int×Int)}(h:Dc H v l)(s:dI H H'):Dc H' v l:=let ⟨a,vs,e,q,r⟩:=h;⟨a,vs,e,s _ _ q,r.fY fun _ _ ⟨t,e,z⟩=>⟨t,e,s _ _ z⟩⟩
theorem nF.same{H H':Hp}{v:V}{g:de.lJ}(h:nF c H v g)(s:dI H H'):nF c H' v g:=let ⟨a,dx,vn,vs,vst,vd,vp,e,q,r1,r2,r3,r4,r5⟩:=h;⟨a,dx,vn,vs,vst,vd,vp,e,s _ _ q,r1.same s,r2.same s,r3.same s,r4.same s,r5.same s⟩
theorem sR.same{H H':Hp}{v:V}{x:List Int×List (List Int)}(h:sR c H v x)(s:dI H H'):sR c H' v x:=let ⟨a,dx,vd,vt,e,q,r1,r2⟩:=h;⟨a,dx,vd,vt,e,s _ _ q,r1.same s,fk.same r2 s⟩
end
structure Txt2(mg:Str->Option Value):Prop extends Txt mg where
 wC:∃t,mg "RESISTOR"=some (.int 0 t)
 uC:∃t,mg "CAPACITOR"=some (.int 1 t)
 G4:∃t,mg "COIL"=some (.int 2 t)
 iU:∃t,mg "COUPLING"=some (.int 3 t)
 md:∃t,mg "CURRENT_SOURCE"=some (.int 5 t)
 jC:∃t,mg "VOLTAGE_BY_VOLTAGE"=some (.int 6 t)
 jD:∃t,mg "CURRENT_BY_VOLTAGE"=some (.int 7 t)
 jE:∃t,mg "VOLTAGE_BY_CURRENT"=some (.int 8 t)
 jF:∃t,mg "CURRENT_BY_CURRENT"=some (.int 9 t)
 i9:∃t,mg "TRANSFORMER"=some (.int 10 t)
 pZ:∃t,mg "AMPLIFIER"=some (.int 11 t)
 Dd:∃t,mg "SWITCH"=some (.int 12 t)
 vm:∃t,mg "DIODE"=some (.int 13 t)
 uD:∃t,mg "LAST_KIND"=some (.int 13 t)
theorem zQ.at_{K:PySem.W.Frag}{C:Addr}{fs:List Str}(h:zQ K C fs){f:Str}(i:Nat)(e:fs[i]? =some f):n8 K C f:=h.no f (aB e)
theorem lF{a b:Int}:decide (V.int a=V.int b)=decide (a=b):=by
 by_cases h:a=b
 ·subst h;simp
 ·simp[h]
noncomputable abbrev fZ (H:Hp):Addr->Prop:=fun a=>H a≠none
noncomputable def uE (H:Hp) (Q:VK) (ts:List (Int×List Int)):Prop:=∀z H',dI H H'->rS (fZ H) H' z ts->Q z H'
theorem gd{H H1:Hp}(s:dI H H1):∀a,fZ H a->fZ H1 a:=fun a h z=>h (s.free z)
noncomputable def nH (ts:List (Int×List Int)):Prop:=∀t∈ts,t.2.length<=100/\∀x∈t.2,x.natAbs<=1
theorem PM{x:Int}(h:x.natAbs<=1)(y:Int):IntMulOk x y:= .of_left (intBits_le_64 (by lia) (by lia))
section
variable {P:Program}{w:World}{K:PySem.W.Frag}{mg:Str->Option Value}{base:Heap}{c:Cs}
noncomputable abbrev qy:Stmt:=top 31
theorem De:dE ["part"] ["part"] (dj qy):=sco
noncomputable def oz (c:Cs):Sp:=fun vs H Q _=>∃v p,vs=[v]/\gS c H v p/\Q (.int (de.hW p)) H
theorem Df(T:Txt2 mg)(O:gw K c)(G:iI K mg "currents_of" qy ["part"]):eV P w K mg base "currents_of" ["part"] 1 (oz c):=by
 have sc:=De;refine G.iX sc fun f cdv A outer s H vs Q E hr h=> ?_
 obtain⟨v,p,rfl,⟨a,dx,rfl,ha⟩,k⟩:=h;refine⟨rfl,_,(dh (fC (eO ji (dt K (pv 0) rfl) (gc T.iU) (eH _)) (dk (dD dC)) eh)
   (dk (dD (mM (eO ji (dt K (pv 0) rfl) (gc T.i9) (eH _)) dC dC)))),?_⟩
 unfold de.hW at k;refine⟨_,rfl,dX ha O.part.cl (O.part.at_ 0 rfl) rfl ⟨rfl,_,rfl,?_⟩⟩;rw[lF];refine SW (fun h=> ?_) (fun h=> ?_)
 ·rw[ah (az h)] at k;exact k
 ·have h3:¬p.kind=3:=fun e=>h (ak e)
  rw[af h3] at k;refine⟨_,rfl,dX ha O.part.cl (O.part.at_ 0 rfl) rfl ⟨rfl,_,rfl,?_⟩⟩;rw[lF];refine SW (fun h=> ?_) (fun h=> ?_)
  ·rw[ah (az h)] at k;exact k
  ·rw[af (fun e=>h (ak e))] at k;exact k
noncomputable abbrev mJ:Stmt:=top 32
theorem Dh:dE ["network","part"] ["network"] (dj mJ):=sco
noncomputable def uF (c:Cs):Sp:=fun vs H Q _=>∃v n,vs=[v]/\nE c H v n/\n.c9.length<=1000/\∀H',dI H H'->Q (.int (de.width n)) H'
theorem Di(T:Txt2 mg)(O:gw K c)(ja:eV P w K mg base "currents_of" ["part"] 1 (oz c))(G:iI K mg "unknowns_of" mJ ["network"]):eV P w K mg base "unknowns_of" ["network"] 2 (uF c):=by
 have sc:=Dh;refine G.iX sc fun f cdv A outer s H vs Q E hr h=> ?_
 obtain⟨v,n,rfl,⟨a,dx,vp,rfl,ha,b,ws,rfl,hb,hps⟩,hl,k⟩:=h;have ll:=hps.length;refine⟨rfl,_,(dk (dD (eX kn (dt K (pv 0) rfl) (dY (QT K rfl) rfl T.Px JT (c8 (lH rfl sc.nd (fu (dt K (pv 0) rfl)) (fm (own:=[("part",1)]) (by show lL ["network","part"] (dj mJ) _ _=true;decide +kernel)) (fun _ _ _ _ _=>(eZ (i:=1) sc.nd)) (fun _ _ _ _ _=>fQ) (fun _ _ _ _ _=>(dz ja hr (c8 (pv 1) dc)))) dc))))),?_⟩;refine⟨_,rfl,dX ha O.d8.cl (O.d8.at_ 0 rfl) rfl ?_⟩;refine⟨_,rfl,dX ha O.d8.cl (O.d8.at_ 1 rfl) rfl ⟨b,rfl,⟨_,.of hb⟩,fun D hD=>mX (fw (.of hb)) hD (fun i _ acc=>acc=(n.c9.take i).map fun p=>V.int (de.hW p)) rfl ?_ ?_⟩⟩
 ·rintro i x H1 H2 acc hi s1 hD1 hacc s2 s12 hD2 hx;obtain⟨p,hp,q⟩:=hps.mU hx;refine⟨rfl,⟨_,rfl,_,p,rfl,q.same s2,?_⟩⟩;refine gh hD s2 hD2 ?_ ?_
  ·rw[hacc,lMp,aD];exact dH (by lia)
  ·rw[hacc,d9 _ _ _ _ hp]
 ·intro H1 acc s1 hD1 hacc;refine⟨D,n.c9.map de.hW,rfl,.of ?_,_,_,rfl,rfl,k H1 s1⟩;rw[hD1,hacc,ll,aG,aR];rfl
noncomputable abbrev me:Stmt:=top 33
theorem xU:dE ["network","places","free","part"] ["network"] (dj me):=sco
noncomputable def p4 (c:Cs):Sp:=fun vs H Q _=>∃v n,vs=[v]/\nE c H v n/\n.c9.length<=1000/\pj H Q (de.places n)
theorem vH:∀(l:List de.Part) (f:Int) (p:de.Part),de.fX f (l ++ [p])=de.fX f l ++ [f+(l.map de.hW).sum]
 |[],f,p=>by
  show[f]=[] ++ [f+0];simp
 |q::l,f,p=>by
  show f::de.fX (f+de.hW q) (l ++ [p])=f::(de.fX (f+de.hW q) l ++ [f+((q::l).map de.hW).sum]);rw[vH l,aH,b8,Int.add_assoc]
theorem rT:∀(l:List de.Part) (f:Int),(de.fX f l).length=l.length
 |[],_=>rfl
 |q::l,f=>congrArg (· +1) (rT l _)
theorem Dj:∀(l:List Int) (z:Int),(l ++ [z]).sum=l.sum+z
 |[],z=>by simp
 |a::l,z=>by
  rw[List.cons_append,b8,b8,Dj l z];lia
theorem xV(T:Txt2 mg)(O:gw K c)(ja:eV P w K mg base "currents_of" ["part"] 1 (oz c))(G:iI K mg "current_places" me ["network"]):eV P w K mg base "current_places" ["network"] 2 (p4 c):=by
 have sc:=xU;refine G.iX sc fun f cdv A outer s H vs Q E hr h=> ?_
 obtain⟨v,n,rfl,⟨a,dx,vp,rfl,ha,b,ws,rfl,hb,hps⟩,hl,k⟩:=h;have ll:=hps.length;refine⟨rfl,_,(dh (dW (i:=1) sc.nd (dP dc))
   (dh (dW (i:=2) sc.nd (dt K (pv 0) rfl))
   (dh (gN PassesOwn.never rfl (fu (dt K (pv 0) rfl)) (eZ (i:=3) sc.nd) (dh (iM (n9 aT a6 a7 g7 (pv 1) (c8 (pv 2) dc)))
   (dk (JE (i:=2) sc.nd rfl (Or.inl rfl) (dz ja hr (c8 (pv 3) dc)) JF))))
   (dk (dD (pv 1)))))),?_⟩
 refine⟨aM _,fun q hq=> ?_⟩;have s1:=du (o:= .lst []) hq;refine⟨_,rfl,dX (s1 _ _ ha) O.d8.cl (O.d8.at_ 0 rfl) rfl ?_⟩;refine⟨_,rfl,dX (s1 _ _ ha) O.d8.cl (O.d8.at_ 1 rfl) rfl ⟨b,rfl,⟨_,.of (s1 _ _ hb)⟩,jt (fw (K:=K) (.of hb)) (fun i σ H'=>∃x3,σ=[some (.ref a),some (.ref q),some (.int (n.last+((n.c9.take i).map de.hW).sum)),x3]/\dI H H'/\H' q=some (.lst ((de.fX n.last (n.c9.take i)).map V.int))) ?_ (fun i σ H' ⟨_,_,s,_⟩=>s) ?_ ?_⟩⟩
 ·refine⟨none,?_,s1,?_⟩
  ·simp[L2.start]
  ·rw[di];rfl
 ·rintro i x σ H1 H2 hi ⟨x3,rfl,s2,hq1⟩ s3 s12 hx;obtain⟨p,hp,pa⟩:=hps.mU hx;have hq2:=s12 _ _ hq1;refine⟨_,rfl,.inl ⟨rfl,_,.of hq2⟩,_,rfl,q,_,_,rfl,rfl,hq2,?_,?_⟩
  ·rw[lMp,rT,aD];exact dH (by lia)
  ·have s4:dI H (upd H2 q (.lst ((de.fX n.last (n.c9.take i)).map V.int ++ [.int (n.last+((n.c9.take i).map de.hW).sum)]))):=s3.over hq;refine⟨_,rfl,_,rfl,_,p,rfl,pa.same s4,_,_,rfl,rfl,some x,?_,s4,?_⟩
   ·rw[d9 _ _ _ _ hp,Dj,<-Int.add_assoc];rfl
   ·rw[di,a5,hp];show _=some (HO.lst ((de.fX n.last (n.c9.take i ++ [p])).map V.int));rw[vH,aP];rfl
 ·rintro σ H1 ⟨x3,rfl,s2,hq1⟩;refine⟨_,rfl,k q H1 hq s2 ?_⟩;rw[hq1,ll,aG];rfl
noncomputable abbrev xW:Stmt:=top 34
theorem M9:dE ["terms","width","row","place","factor"] ["terms","width"] (dj xW):=sco
noncomputable def FI:Sp:=fun vs H Q _=>∃v ts wd,vs=[v,.int wd]/\rS (fun _=>False) H v ts/\0<=wd/\wd<1000/\(∀t∈ts,0<=t.1/\t.1<=wd/\t.2.length<=1000)/\∀z H',dI H H'->uA (fZ H) H' z (de.rowOf wd ts)->Q z H'
theorem Na(ts:List (Int×List Int)):∀row:List (List Int),(ts.foldl de.ui row).length=row.length:=by
 induction ts with
 |nil=>intro row;rfl
 |cons t ts ih=>
  intro row;rw[bD,ih];unfold de.ui;rw[bX]
theorem Nb(wd:Int)(ts:List (Int×List Int)):(de.rowOf wd ts).length=(wd+1).toNat:=by
 unfold de.rowOf;rw[Na,aQ]
theorem Dk{α:Type}{r:V->α->Prop}{x:α}:∀{vs:List V},(∀v∈vs,r v x)->Paired r vs (List.replicate vs.length x)
 |[],_=> .nil
 |v::vs,h=> .cons (h v ax) (Dk fun u hu=>h u (ao _ hu))
theorem Nc(T:Txt2 mg)(vk:eV P w K mg base "added" ["left","right"] 2 C7)(G:iI K mg "row_of" xW ["terms","width"]):eV P w K mg base "row_of" ["terms","width"] 3 FI:=by
 have sc:=M9;refine G.iX sc fun f cdv A outer s H vs Q E hr h=> ?_
 obtain⟨v,ts,wd,rfl,⟨a,us,rfl,_,ha,hts⟩,w0,w1,hb,k⟩:=h;have ll:=hts.length;refine⟨rfl,_,(dh (oa (i:=2) rfl sc.nd rfl rfl (rB rfl rfl rfl rfl) (nQ rfl T.jZ (c8 (eX kn (pv 1) dC) dc)) (fm (own:=[("place",3)]) (by show lL ["terms","width","row","place","factor"] (dj xW) _ _=true;decide +kernel)) (fun _ _ _ _ _=>(eZ (i:=3) sc.nd)) (fun _ _ _ _ _=>fQ) (fun _ _ _ _ _=>(dP dc)))
   (dh (gN PassesOwn.never rfl (fu (pv 0)) (kq K (n:=2) rfl (fA (eZ (i:=3) sc.nd) (fA (eZ (i:=4) sc.nd) km))) (dk (yS (dz vk hr (c8 (d6 (jH K) (pv 2) (pv 3) (fun _ _=>rfl)) (c8 (pv 4) dc))) (yR (pv 2) (pv 3) set_list))))
   (dk (dD (pv 2))))),?_⟩
 refine⟨_,rfl,_,_,rfl,rfl,_,rfl,by lia,by lia,fun D hD=>mX (mN H 0 _) hD (fun i H' acc=>acc.length=i/\(∀v∈acc,tj (fP (fZ H) D) H' v [])) ⟨rfl,fun _ h=>by cases h⟩ ?_ ?_⟩
 ·rintro i x H1 H2 acc hi s1 hD1 ⟨hacc,hpol⟩ s2 s12 hD2 rfl;refine⟨rfl,⟨aM _,fun p hp=> ?_⟩⟩;have s3:=du (o:= .lst []) hp;have np:¬fP (fZ H) D p:=fun q=>q.elim (fun z=>z (s2.free hp)) (fun z=>by rw[z,hD2] at hp;cases hp)
  refine gh hD (s2.trans s3) (s3 _ _ hD2) (by rw[hacc];exact dH (by lia)) ⟨by simp[hacc],fun v hv=> ?_⟩;have od:Off (fP (fZ H) D) (upd H2 p (.lst [])) (upd (upd H2 p (.lst [])) D (.lst (acc ++ [.ref p]))):=fI (.inr rfl);rcases aN.mp hv with q |q
  ·exact gC.off (gC.same (hpol v q) (s12.trans s3)) od
  ·have:v= .ref p:=by simpa using q
   subst this;exact gC.off ⟨p,rfl,np,by rw[di];rfl⟩ od
 ·intro H1 acc s1 hD1 ⟨hacc,hpol⟩;have hpr:Paired (tj (fP (fZ H) D) H1) acc (de.rowOf wd (ts.take 0)):=by
   have e:de.rowOf wd (ts.take 0)=List.replicate acc.length []:=by
    rw[hacc];rfl
   rw[e];exact Dk hpol
  refine⟨_,rfl,a,rfl,⟨_,.of (s1 _ _ ha)⟩,jt (fw (K:=K) (.of ha)) (fun i σ H'=>∃x3 x4 ws,σ=[some (.ref a),some (.int wd),some (.ref D),x3,x4]/\dI H H'/\H' D=some (.lst ws)/\Paired (tj (fP (fZ H) D) H') ws (de.rowOf wd (ts.take i))/\∀r∈de.rowOf wd (ts.take i),r.length<=1000) ?_ (fun i σ H' ⟨_,_,_,_,s,_⟩=>s) ?_ ?_⟩
  ·refine⟨_,_,acc,rfl,s1,hD1,hpr,fun r hr=> ?_⟩;have e:de.rowOf wd (ts.take 0)=List.replicate (wd+1).toNat []:=rfl;rw[e] at hr;rw[(List.mem_replicate.mp hr).2];simp
  ·rintro i x σ H2 H3 hi ⟨x3,x4,ws,rfl,s2,hD2,hws,hlen⟩ s3 s23 hx;obtain⟨t,ht,tt⟩:=hts.mU hx;obtain⟨ta,tp,rfl,_,hta,htp⟩:=i4.same tt s3;obtain⟨b1,b2,b3⟩:=hb t (aB ht);have hD3:=s23 _ _ hD2;have hws3:=hws.i5 gC s23;have lr:=Nb wd (ts.take i);have lw:=hws.length;have hj:t.1.toNat<(de.rowOf wd (ts.take i)).length:=by lia
   obtain⟨u,hu,pu⟩:=hws3.kJ (dy (d:=[]) hj);refine⟨ta,_,rfl,.of hta,rfl,_,_,rfl,_,_,rfl,rfl,?_⟩;refine⟨_,rfl,_,rfl,lD (.of hD3) (dQ (j:=t.1.toNat) (by lia) hu) ⟨_,rfl,?_⟩⟩;refine⟨_,_,_,_,rfl,pu.at_,htp.at_,?_,by unfold Short;lia,fun p H4 hp s4 hp4=> ?_⟩
   ·have:=hlen _ (aB (dy (d:=[]) hj));unfold Short;lia
   have hD4:=s4 _ _ hD3;refine⟨_,rfl,_,rfl,D,_,_,t.1.toNat,rfl,rfl,hD4,rE (by lia) (by lia),?_⟩;have np:¬fP (fZ H) D p:=fun q=>q.elim (fun z=>z (s3.free hp)) (fun z=>by rw[z,hD3] at hp;cases hp)
   have od:∀o,Off (fP (fZ H) D) H4 (upd H4 D o):=fun o=>fI (.inr rfl)
   have e1:de.rowOf wd (ts.take (i+1))=de.ui (de.rowOf wd (ts.take i)) t:=by
    unfold de.rowOf;rw[a5,ht,cO];rfl
   refine⟨_,_,_,rfl,(s3.trans s4).over hD,di,?_,?_⟩
   ·rw[e1];exact((hws3.i5 gC s4).uB gC (od _)).setAt (gC.off ⟨p,rfl,np,hp4⟩ (od _)) _
   ·intro r hr;rw[e1] at hr;rcases List.mem_or_eq_of_mem_set hr with q |q
    ·exact hlen r q
    ·rw[q];have:=hlen _ (aB (dy (d:=[]) hj));refine ay (de.Gm _) ?_;rw[de.jw];lia
  ·rintro σ H2 ⟨x3,x4,ws,rfl,s2,hD2,hws,_⟩;refine⟨_,rfl,k _ H2 s2 ⟨D,ws,rfl,fun z=>z hD,hD2,?_⟩⟩;rw[ll,aG] at hws;exact hws.NR gC
end
theorem IU{S:Addr->Prop}{H4:Hp}{q:Addr}{us:List V}{ts:List (Int×List Int)}{t:Int×List Int}{x:V}(hu:Paired (lK (fP S q) H4) us ts)(ht:lK (fP S q) H4 x t):Paired (lK (fP S q) (upd H4 q (.lst (us ++ [x])))) (us ++ [x]) (ts ++ [t]):=
 (hu.uB i4 (fI (.inr rfl))).iT (i4.off ht (fI (.inr rfl)))
section
variable {P:Program}{w:World}{K:PySem.W.Frag}{mg:Str->Option Value}{base:Heap}{c:Cs}
noncomputable abbrev kK:Stmt:=top 36
theorem wD:dE ["first","second","terms"] ["first","second"] (dj kK):=sco
noncomputable def j5:Sp:=fun vs H Q _=>∃x y:Int,vs=[.int x,.int y]/\uE H Q (de.HS x y)
theorem IV{H H2:Hp}{q p t:Addr}{us:List V}{ts:List (Int×List Int)}{x z:Int}(hq:H q=none)(s2:dI H H2)(hq2:H2 q=some (.lst us))(hu:Paired (lK (fP (fZ H) q) H2) us ts)(hp:H2 p=none)(ht:upd H2 p (.lst [.int z]) t=none):
  dI H (upd (upd (upd H2 p (.lst [.int z])) t (.tup [.int x,.ref p])) q (.lst (us ++ [.ref t])))/\Paired (lK (fP (fZ H) q) (upd (upd (upd H2 p (.lst [.int z])) t (.tup [.int x,.ref p])) q (.lst (us ++ [.ref t])))) (us ++ [.ref t]) (ts ++ [(x,[z])]):=by
 have s3:=du (o:= .lst [.int z]) hp;have s4:=du (o:= .tup [.int x,.ref p]) ht;have np:¬fP (fZ H) q p:=fun h=>h.elim (fun y=>y (s2.free hp)) (fun y=>by rw[y,hq2] at hp;cases hp)
 have nt:¬fP (fZ H) q t:=fun h=>h.elim (fun y=>y ((s2.trans s3).free ht)) (fun y=>by rw[y,s3 _ _ hq2] at ht;cases ht)
 refine⟨((s2.trans s3).trans s4).over hq,IU (hu.i5 i4 (s3.trans s4)) ⟨t,.ref p,rfl,nt,di,p,rfl,np,s4 _ _ di⟩⟩
theorem wF(G:iI K mg "voltage_between" kK ["first","second"]):eV P w K mg base "voltage_between" ["first","second"] 1 j5:=by
 have sc:=wD;refine G.iX sc fun f cdv A outer s H vs Q E hr h=> ?_
 obtain⟨x,y,rfl,k⟩:=h;refine⟨rfl,_,(dh (dW (i:=2) sc.nd (dP dc))
   (dh (fC (eO vB (pv 0) dC (eH _)) (dk (iM (n9 aT a6 a7 g7 (pv 2) (c8 (gq (c8 (eX nZ (pv 0) dC) (c8 (dP (c8 dC dc)) dc))) dc)))) eh)
   (dh (fC (eO vB (pv 1) dC (eH _)) (dk (iM (n9 aT a6 a7 g7 (pv 2) (c8 (gq (c8 (eX nZ (pv 1) dC) (c8 (dP (c8 (jT ie dC) dc)) dc))) dc)))) eh)
   (dk (dD (pv 2)))))),?_⟩
 refine⟨aM _,fun q hq=> ?_⟩;have s1:=du (o:= .lst []) hq;have fin:∀(H4:Hp) (us:List V),dI H H4->H4 q=some (.lst us)->Paired (lK (fP (fZ H) q) H4) us (de.HS x y)->Q (.ref q) H4:=fun H4 us s4 h4 hu=>k _ H4 s4 ⟨q,us,rfl,fun z=>z hq,h4,hu.NR i4⟩
 have second:∀(H2:Hp) (us:List V),dI H H2->H2 q=some (.lst us)->us.length<10->Paired (lK (fP (fZ H) q) H2) us (if 0<x then[(x - 1,[1])] else[])->
   Uh (Uj (Oe (RS (Qt fun i j=> .bl (decide (i>j))) (vL 1) (tC (.int 0)))) (RQ (WD K "list" Lk (vL 2) (xf (Uy (xf (RS (Qt fun i j=> .int (i - j)) (vL 1) (tC (.int 1))) (xf (Uz (xf (Wz (rU fun i=> .int (-i)) (tC (.int 1))) My)) My))) My))) RP) (Qz (vL 2)) {nx:=fun _ H'=>Q .jS H',rt:=Q} [some (.int x),some (.int y),some (.ref q)] H2:=fun H2 us s2 h2 hl hu=>by
  refine⟨_,rfl,ph ⟨_,rfl,?_⟩⟩;by_cases hy:0<y
  ·rw[ak (show y>0 from hy)];refine e7 ⟨_,rfl,.inl ⟨rfl,_,.of h2⟩,_,rfl,ph ⟨_,rfl,dq (by simp),fun p hp=>⟨dq (by simp),fun t ht=> ?_⟩⟩⟩;have h4:(upd (upd H2 p (.lst [.int (-1)])) t (.tup [.int (y - 1),.ref p])) q=some (.lst us):=du ht _ _ (du hp _ _ h2);obtain⟨s5,hu5⟩:=IV (x:=y - 1) hq s2 h2 hu hp ht;refine⟨q,us,_,rfl,rfl,h4,dH (by lia),_,rfl,fin _ _ s5 di ?_⟩;unfold de.HS;rw[ah hy];exact hu5
  ·rw[aq (show ¬y>0 from hy)];refine fh ⟨_,rfl,fin H2 us s2 h2 ?_⟩;unfold de.HS;rw[af hy,bM];exact hu
 refine⟨_,rfl,ph ⟨_,rfl,?_⟩⟩;by_cases hx:0<x
 ·rw[ak (show x>0 from hx)];refine e7 ⟨_,rfl,.inl ⟨rfl,_,.of di⟩,_,rfl,ph ⟨dq (by simp),fun p hp=>⟨dq (by simp),fun t ht=> ?_⟩⟩⟩;have h4:(upd (upd (upd H q (.lst [])) p (.lst [.int 1])) t (.tup [.int (x - 1),.ref p])) q=some (.lst []):=du ht _ _ (du hp _ _ di);obtain⟨s5,hu5⟩:=IV (x:=x - 1) hq s1 di .nil hp ht;refine⟨q,[],_,rfl,rfl,h4,dH (by decide),second _ _ s5 di (by simp) ?_⟩;rw[ah hx];exact hu5
 ·rw[aq (show ¬x>0 from hx)];refine fh (second _ [] s1 di (by simp) ?_);rw[af hx];exact .nil
noncomputable abbrev rV:Stmt:=top 37
theorem Ej:dE ["part"] ["part"] (dj rV):=sco
noncomputable def gk (c:Cs):Sp:=fun vs H Q _=>∃v p,vs=[v]/\gS c H v p/\uE H Q (de.lS p)
theorem Ek(O:gw K c)(gD:eV P w K mg base "voltage_between" ["first","second"] 1 j5)(G:iI K mg "voltage_of" rV ["part"]):eV P w K mg base "voltage_of" ["part"] 2 (gk c):=by
 have sc:=Ej;refine G.iX sc fun f cdv A outer s H vs Q E hr h=> ?_
 obtain⟨v,p,rfl,⟨a,dx,rfl,ha⟩,k⟩:=h;refine⟨rfl,_,(dk (dD (dz gD hr (c8 (dt K (pv 0) rfl) (c8 (dt K (pv 0) rfl) dc))))),?_⟩;exact⟨_,rfl,dX ha O.part.cl (O.part.at_ 1 rfl) rfl ⟨_,rfl,dX ha O.part.cl (O.part.at_ 2 rfl) rfl ⟨_,_,rfl,k⟩⟩⟩
noncomputable abbrev jb:Stmt:=top 38
theorem rW:dE ["part"] ["part"] (dj jb):=sco
noncomputable def fS (c:Cs):Sp:=fun vs H Q _=>∃v p,vs=[v]/\gS c H v p/\uE H Q (de.Gj p)
theorem rX(O:gw K c)(gD:eV P w K mg base "voltage_between" ["first","second"] 1 j5)(G:iI K mg "controlling_voltage" jb ["part"]):eV P w K mg base "controlling_voltage" ["part"] 2 (fS c):=by
 have sc:=rW;refine G.iX sc fun f cdv A outer s H vs Q E hr h=> ?_
 obtain⟨v,p,rfl,⟨a,dx,rfl,ha⟩,k⟩:=h;refine⟨rfl,_,(dk (dD (dz gD hr (c8 (dt K (pv 0) rfl) (c8 (dt K (pv 0) rfl) dc))))),?_⟩;exact⟨_,rfl,dX ha O.part.cl (O.part.at_ 3 rfl) rfl ⟨_,rfl,dX ha O.part.cl (O.part.at_ 4 rfl) rfl ⟨_,_,rfl,k⟩⟩⟩
theorem G5{H H1:Hp}{p t q:Addr}{x:Int}{l:List Int}(s1:dI H H1)(np:H p=none)(h1:H1 p=some (.lst (l.map V.int)))(ht:H1 t=none)(hq:upd H1 t (.tup [.int x,.ref p]) q=none):
  dI H (upd (upd H1 t (.tup [.int x,.ref p])) q (.lst [.ref t]))/\rS (fZ H) (upd (upd H1 t (.tup [.int x,.ref p])) q (.lst [.ref t])) (.ref q) [(x,l)]:=by
 have s2:=du (o:= .tup [.int x,.ref p]) ht;have s3:=du (o:= .lst [.ref t]) hq;refine⟨(s1.trans s2).trans s3,q,_,rfl,fun z=>z ((s1.trans s2).free hq),di,.cons ⟨t,.ref p,rfl,fun z=>z (s1.free ht),s3 _ _ di,p,rfl,fun z=>z np,s3 _ _ (s2 _ _ h1)⟩ .nil⟩
noncomputable abbrev rY:Stmt:=top 39
theorem El:dE ["setting","k"] ["setting","k"] (dj rY):=sco
noncomputable def fH (c:Cs):Sp:=fun vs H Q _=>∃v g k,vs=[v,.int k]/\nF c H v g/\0<=k/\k<g.d8.c9.length/\uE H Q (de.cur g k)
theorem places_len(n:de.Nw):(de.places n).length=n.c9.length:=rT _ _
theorem Em(O:gw K c)(G:iI K mg "current_of" rY ["setting","k"]):eV P w K mg base "current_of" ["setting","k"] 1 (fH c):=by
 have sc:=El;refine G.iX sc fun f cdv A outer s H vs Q E hr h=> ?_
 obtain⟨v,g,k,rfl,⟨a,dx,vn,vs,vst,vd,vp,rfl,ha,hn,hs,hst,hd,⟨pa,rfl,hpl⟩⟩,k0,k1,kk⟩:=h;refine⟨rfl,_,(dk (dD (dP (c8 (gq (c8 (d6 (jH K) (dt K (pv 0) rfl) (pv 1) (fun _ _=>rfl)) (c8 (dP (c8 dC dc)) dc))) dc)))),?_⟩;have hj:k.toNat<(de.places g.d8).length:=by rw[places_len];lia
 refine⟨_,rfl,dX ha O.jQ.cl (O.jQ.at_ 4 rfl) rfl ⟨_,rfl,lD (.of hpl) (dQ (j:=k.toNat) (by lia) (ju hj)) ⟨dq (by simp),fun p hp=>⟨dq (by simp),fun t ht=>⟨dq (by simp),fun q hq=> ?_⟩⟩⟩⟩⟩;obtain⟨s1,h1⟩:=G5 (l:=[1]) (x:=(de.places g.d8).getD k.toNat 0) (du hp) hp di ht hq;exact kk _ _ s1 h1
noncomputable abbrev xX:Stmt:=top 40
theorem Nd:dE ["terms","polynomial","place","factor"] ["terms","polynomial"] (dj xX):=sco
noncomputable def nW:Sp:=fun vs H Q _=>∃v u ts p,vs=[v,u]/\rS (fun _=>False) H v ts/\fD H u p/\nH ts/\ts.length<=1000/\Short p/\uE H Q (de.rG ts p)
theorem Nf(iV:eV P w K mg base "multiplied" ["left","right"] 1 qx)(G:iI K mg "scaled" xX ["terms","polynomial"]):eV P w K mg base "scaled" ["terms","polynomial"] 2 nW:=by
 have sc:=Nd;refine G.iX sc fun f cdv A outer s H vs Q E hr h=> ?_
 obtain⟨v,u,ts,p,rfl,⟨a,us,rfl,_,ha,hts⟩,pu,hun,hl,hs,k⟩:=h;have ll:=hts.length;refine⟨rfl,_,(dk (dD (lH rfl sc.nd (fu (pv 0)) (fm (own:=[("place",2),("factor",3)]) (by show lL ["terms","polynomial","place","factor"] (dj xX) _ _=true;decide +kernel)) (fun _ _ _ _ _=>(kq K (n:=2) rfl (fA (eZ (i:=2) sc.nd) (fA (eZ (i:=3) sc.nd) km)))) (fun _ _ _ _ _=>fQ) (fun _ _ _ _ _=>(gq (c8 (pv 2) (c8 (dz iV hr (c8 (pv 3) (c8 (pv 1) dc))) dc))))))),?_⟩;refine⟨_,rfl,a,rfl,⟨_,.of ha⟩,fun D hD=>mX (fw (.of ha)) hD (fun i H' acc=>Paired (lK (fP (fZ H) D) H') acc (de.rG (ts.take i) p)) .nil ?_ ?_⟩
 ·rintro i x H1 H2 acc hi s1 hD1 hacc s2 s12 hD2 hx;obtain⟨t,ht,tt⟩:=hts.mU hx;obtain⟨ta,tp,rfl,_,hta,htp⟩:=i4.same tt s2;have lacc:=hacc.length;refine⟨ta,_,rfl,.of hta,rfl,_,_,rfl,_,_,rfl,rfl,rfl,?_⟩;obtain⟨u1,u2⟩:=hun t (aB ht);refine⟨_,rfl,_,rfl,_,rfl,_,_,_,_,rfl,htp.at_,pu.same s2,by unfold Short;lia,hs,fun x hx y _=>PM (u2 x hx) y,fun q H3 hq s3 hq3=> ?_⟩;refine⟨dq (by simp),fun r hr'=> ?_⟩;have s4:=du (o:= .tup [.int t.1,.ref q]) hr';have nq:¬fP (fZ H) D q:=fun h=>h.elim (fun y=>y (s2.free hq)) (fun y=>by rw[y,hD2] at hq;cases hq)
  have nr:¬fP (fZ H) D r:=fun h=>h.elim (fun y=>y ((s2.trans s3).free hr')) (fun y=>by rw[y,s3 _ _ hD2] at hr';cases hr')
  refine gh hD ((s2.trans s3).trans s4) (s4 _ _ (s3 _ _ hD2)) ?_ ?_
  ·rw[lacc];unfold de.rG;rw[lMp,aD];exact dH (by lia)
  ·have e1:de.rG (ts.take (i+1)) p=de.rG (ts.take i) p ++ [(t.1,de.gX t.2 p)]:=by
    unfold de.rG;exact d9 _ _ _ _ ht
   rw[e1];exact IU (hacc.i5 i4 ((s12.trans s3).trans s4)) ⟨r,.ref q,rfl,nr,di,q,rfl,nq,s4 _ _ hq3⟩
 ·intro H1 acc s1 hD1 hacc;rw[ll,aG] at hacc;exact k _ H1 s1 ⟨D,acc,rfl,fun z=>z hD,hD1,hacc.NR i4⟩
theorem Md{H H1 H2:Hp}{x y:V}{ts us:List (Int×List Int)}(s1:dI H H1)(s2:dI H1 H2)(hx:rS (fZ H) H1 x ts)(hy:rS (fZ H1) H2 y us)(hl:ts.length+us.length<=1000){Q:VK}(k:uE H Q (ts ++ us)):SK x y H2 Q:=by
 obtain⟨a,vs,rfl,na,ha,pa⟩:=hx;obtain⟨b,ws,rfl,nb,hb,pb⟩:=hy;have l1:=pa.length;have l2:=pb.length;refine⟨a,b,vs,ws,rfl,rfl,s2 _ _ ha,hb,dq (by lia),fun p hp=> ?_⟩;have s3:=du (o:= .lst (vs ++ ws)) hp;have s12:=s1.trans s2;exact k _ _ (s12.trans s3) ⟨p,_,rfl,fun z=>z (s12.free hp),di,((pa.i5 i4 s2).i5 i4 s3).app (PySem.Paired.fY (pb.i5 i4 s3) fun _ _ q=>i4.less q (gd s1))⟩
theorem nP(ts:List (Int×List Int))(p:List Int):(de.rG ts p).length=ts.length:=by unfold de.rG;simp
theorem rd(x:Int):Short (de.cst x):=by
 unfold Short de.cst;split <;>simp
noncomputable abbrev oC:Stmt:=top 41
theorem A9:dE ["part","left","right"] ["part","left","right"] (dj oC):=sco
noncomputable def fV (c:Cs):Sp:=fun vs H Q _=>∃v x y p l r,vs=[v,x,y]/\gS c H v p/\rS (fun _=>False) H x l/\rS (fun _=>False) H y r/\nH l/\nH r/\l.length<=100/\r.length<=100/\uE H Q (de.og p l r)
theorem Ba(O:gw K c)(gE:eV P w K mg base "constant" ["x"] 1 pW)(gf:eV P w K mg base "scaled" ["terms","polynomial"] 2 nW)(G:iI K mg "times_number" oC ["part","left","right"]):eV P w K mg base "times_number" ["part","left","right"] 3 (fV c):=by
 have sc:=A9;refine G.iX sc fun f cdv A outer s H vs Q E hr h=> ?_
 obtain⟨v,x,y,p,l,r,rfl,⟨a,dx,rfl,ha⟩,hx,hy,ul,ur,ll,lr,k⟩:=h;refine⟨rfl,_,(dk (dD (eX ql (dz gf hr (c8 (pv 1) (c8 (dz gE hr (c8 (dt K (pv 0) rfl) dc)) dc))) (dz gf hr (c8 (pv 2) (c8 (dz gE hr (c8 (jT ie (dt K (pv 0) rfl)) dc)) dc)))))),?_⟩;refine⟨_,rfl,_,rfl,dX ha O.part.cl (O.part.at_ 6 rfl) rfl ⟨_,rfl,fun q H1 hq s1 hq1=> ?_⟩⟩;refine⟨_,_,_,_,rfl,eY.same hx s1,⟨q,rfl,hq1⟩,ul,by lia,rd _,fun z H2 s2 hz=> ?_⟩;have hz':=eY.less hz (gd s1);have s12:=s1.trans s2;refine⟨_,rfl,_,rfl,dX (s12 _ _ ha) O.part.cl (O.part.at_ 5 rfl) rfl ⟨_,rfl,_,rfl,fun q2 H3 hq2 s3 hq3=> ?_⟩⟩;refine⟨_,_,_,_,rfl,eY.same hy (s12.trans s3),⟨q2,rfl,hq3⟩,ur,by lia,rd _,fun z2 H4 s4 hz2=> ?_⟩;exact Md s12 (s3.trans s4) hz' (eY.less hz2 (gd s3)) (by rw[nP,nP];lia) k
noncomputable abbrev oE:Stmt:=top 42
theorem Bb:dE ["setting","k","terms","drive"] ["setting","k","terms"] (dj oE):=sco
noncomputable def m8 (c:Cs):Sp:=fun vs H Q _=>∃v x g k ts,vs=[v,.int (k:Nat),x]/\nF c H v g/\k<g.drives.length/\rS (fun _=>False) H x ts/\nH ts/\ts.length<=100/\uE H Q (de.BD g k ts)
theorem Bc(O:gw K c)(gE:eV P w K mg base "constant" ["x"] 1 pW)(gf:eV P w K mg base "scaled" ["terms","polynomial"] 2 nW)(G:iI K mg "set_to_drive" oE ["setting","k","terms"]):eV P w K mg base "set_to_drive" ["setting","k","terms"] 3 (m8 c):=by
 have sc:=Bb;refine G.iX sc fun f cdv A outer s H vs Q E hr h=> ?_
 obtain⟨v,x,g,k,ts,rfl,⟨a,dx,vn,vs,vst,vd,vp,rfl,ha,hn,hs,hst,⟨da,ds,rfl,hda,hds⟩,hpl⟩,hk,hx,ut,lt,kk⟩:=h;refine⟨rfl,_,(dh (dW (i:=3) sc.nd (d6 (jH K) (dt K (pv 0) rfl) (pv 1) (fun _ _=>rfl)))
   (dk (dD (eX ql (dz gf hr (c8 (pv 2) (c8 (dz gE hr (c8 (d6 (Qu K) (pv 3) dC (fun _ _=>rfl)) dc)) dc))) (dP (c8 (gq (c8 (dt K (pv 0) rfl) (c8 (dz gE hr (c8 (d6 (Qu K) (pv 3) dC (fun _ _=>rfl)) dc)) dc))) dc)))))),?_⟩
 obtain⟨u,hu,t,rfl,ht⟩:=hds.kJ (dy (d:=(0,1)) hk);refine⟨_,rfl,dX ha O.jQ.cl (O.jQ.at_ 3 rfl) rfl ⟨_,rfl,lD (.of hda) (dQ (j:=k) rfl hu) ?_⟩⟩;refine⟨_,rfl,_,rfl,lD (.of ht) (dQ (j:=1) rfl rfl) ⟨_,rfl,fun q H1 hq s1 hq1=> ?_⟩⟩;refine⟨_,_,_,_,rfl,eY.same hx s1,⟨q,rfl,hq1⟩,ut,by lia,rd _,fun z H2 s2 hz=> ?_⟩;have hz':=eY.less hz (gd s1);have s12:=s1.trans s2;refine⟨_,rfl,dX (s12 _ _ ha) O.jQ.cl (O.jQ.at_ 5 rfl) rfl ⟨_,rfl,lD (.of (s12 _ _ ht)) (dQ (j:=0) rfl rfl) ⟨_,rfl,fun q2 H3 hq2 s3 hq3=> ?_⟩⟩⟩;refine⟨dq (by simp),fun r hr'=>⟨dq (by simp),fun b hb=> ?_⟩⟩;obtain⟨s4,h4⟩:=G5 (l:=de.cst (g.drives.getD k (0,1)).1) (x:=de.width g.d8) s3 hq2 hq3 hr' hb;exact Md s12 s4 hz' h4 (by rw[nP];simp;lia) kk
end
noncomputable def xY (H:Hp) (Q:VK) (L:List (List (Int×List Int))):Prop:=∀z H',dI H H'->Vc (fZ H) H' z L->Q z H'
theorem iE{H H1:Hp}{x:V}{ts:List (Int×List Int)}{Q:VK}(s:dI H H1)(h:rS (fZ H) H1 x ts)(k:xY H Q [ts]):∀p,H1 p=none->Q (.ref p) (upd H1 p (.lst [x])):=fun p hp=>
 k _ _ (s.trans (du hp)) ⟨p,_,rfl,fun z=>z (s.free hp),di,.cons (eY.same h (du hp)) .nil⟩
structure Vw(g:de.lJ):Prop where
 c9:g.d8.c9.length<=20
 st:g.gI.length=g.d8.c9.length
 dr:g.drives.length=g.d8.c9.length
 s:g.s=[]\/g.s=[0,1]
theorem rf(x y:Int):nH (de.HS x y)/\(de.HS x y).length<=2:=by
 unfold de.HS nH;refine⟨fun t ht=> ?_,?_⟩
 ·rcases aN.mp ht with h |h
  ·split at h
   ·have:t=(x - 1,[1]):=by simpa using h
    subst this;simp
   ·cases h
  ·split at h
   ·have:t=(y - 1,[-1]):=by simpa using h
    subst this;simp
   ·cases h
 ·split <;>split <;>simp
theorem zR(g:de.lJ)(k:Int):nH (de.cur g k)/\(de.cur g k).length<=2:=by
 unfold de.cur nH;refine⟨fun t ht=> ?_,by simp⟩;have:t=((de.places g.d8).getD k.toNat 0,[1]):=by simpa using ht
 subst this;simp
theorem Ng{l p:List Int}(hl:l.length<=100/\∀x∈l,x.natAbs<=1)(hl1:l.length<=1)(hp:p=[]\/p=[0,1]\/p=[-1]):(de.gX l p).length<=2/\∀x∈de.gX l p,x.natAbs<=1:=by
 match l,hl1 with
 |[],_=>simp[de.gX]
 |[z],_=>
  have hz:=hl.2 z (by simp);rcases hp with rfl |rfl |rfl
  ·simp[de.gX]
  ·have e:de.gX [z] [0,1]=[z*0+0,z*1]:=rfl;rw[e];refine⟨by simp,fun x hx=> ?_⟩;simp at hx;rcases hx with rfl |rfl
   ·simp
   ·exact hz
  ·have e:de.gX [z] [-1]=[z*(-1)+0]:=rfl;rw[e];refine⟨by simp,fun x hx=> ?_⟩;simp at hx;subst hx;lia
noncomputable def One (ts:List (Int×List Int)):Prop:=∀t∈ts,t.2.length<=1
theorem zS{ts:List (Int×List Int)}{p:List Int}(h:nH ts)(h1:One ts)(hp:p=[]\/p=[0,1]\/p=[-1]):nH (de.rG ts p):=fun t ht=>by
 unfold de.rG at ht;obtain⟨u,hu,rfl⟩:=aL.mp ht;have:=Ng (h u hu) (h1 u hu) hp;exact⟨by have:=this.1;show(de.gX u.2 p).length<=100;lia,this.2⟩
theorem Ru(x y:Int):One (de.HS x y):=by
 unfold de.HS One;intro t ht;rcases aN.mp ht with h |h
 ·split at h
  ·have:t=(x - 1,[1]):=by simpa using h
   subst this;simp
  ·cases h
 ·split at h
  ·have:t=(y - 1,[-1]):=by simpa using h
   subst this;simp
  ·cases h
theorem Me(g:de.lJ)(k:Int):One (de.cur g k):=by
 unfold de.cur One;intro t ht;have:t=((de.places g.d8).getD k.toNat 0,[1]):=by simpa using ht
 subst this;simp
section
variable {P:Program}{w:World}{K:PySem.W.Frag}{mg:Str->Option Value}{base:Heap}{c:Cs}
theorem PN(O:gw K c){H:Hp}{v:V}{g:de.lJ}(hg:nF c H v g){σ:L2.St}(h0:σ[0]? =some (some v)){Q:VK}(q:∀a ws,H a=some (.lst ws)->Paired (gS c H) ws g.d8.c9->Q (.ref a) H):
  Mx K (Mx K (vL 0) "network") "parts" σ H Q:=by
 obtain⟨a,dx,vn,vs,vst,vd,vp,rfl,ha,⟨na,ndx,nvp,rfl,hna,pa,ws,rfl,hpa,hps⟩,hs,hst,hd,hpl⟩:=hg;exact⟨_,h0,dX ha O.jQ.cl (O.jQ.at_ 0 rfl) rfl (dX hna O.d8.cl (O.d8.at_ 1 rfl) rfl (q pa ws hpa hps))⟩
theorem mK(O:gw K c){H:Hp}{v:V}{g:de.lJ}(hg:nF c H v g){k:Nat}(hk:k<g.d8.c9.length){σ:L2.St}(h0:σ[0]? =some (some v))(h1:σ[1]? =some (some (.int (k:Int)))){Q:VK}(q:∀u,gS c H u (g.d8.c9.getD k de.p0)->Q u H):
  RS (SE K) (Mx K (Mx K (vL 0) "network") "parts") (vL 1) σ H Q:=by
 refine PN O hg h0 fun a ws ha hps=> ?_
 obtain⟨u,hu,pu⟩:=hps.kJ (dy (d:=de.p0) hk);exact⟨_,h1,lD (.of ha) (dQ (j:=k) rfl hu) (q u pu)⟩
noncomputable def jG (c:Cs) (kd:de.lJ->Nat->Prop) (F:de.lJ->Nat->List (List (Int×List Int))):Sp:=fun vs H Q _=>∃v g k,vs=[v,.int ((k:Nat):Int)]/\nF c H v g/\Vw g/\k<g.d8.c9.length/\kd g k/\xY H Q (F g k)
noncomputable abbrev pat (g:de.lJ) (k:Nat):de.Part:=g.d8.c9.getD k de.p0
theorem AY(p:de.Part):(de.lS p).length<=100:=ay (rf _ _).2 (by decide)
theorem PR(p:de.Part):(de.Gj p).length<=100:=ay (rf _ _).2 (by decide)
theorem uG(g:de.lJ)(k:Int):(de.cur g k).length<=100:=ay (zR _ _).2 (by decide)
theorem R9(p:de.Part):nH (de.lS p):=(rf _ _).1
theorem Wc(p:de.Part):nH (de.Gj p):=(rf _ _).1
theorem PU(g:de.lJ)(k:Int):nH (de.cur g k):=(zR _ _).1
theorem toF{S:Addr->Prop}{H:Hp}{v:V}{ts:List (Int×List Int)}(h:rS S H v ts):rS (fun _=>False) H v ts:=eY.less h (fun _ h=>h.elim)
noncomputable abbrev Be:de.lJ->Nat->Prop:=fun _ _=>True
noncomputable abbrev Wd:de.lJ->Nat->Prop:=fun g k=>0<=(pat g k).c/\(pat g k).c<g.d8.c9.length
noncomputable abbrev m9:Stmt:=top 43
theorem zT:dE ["setting","k","part"] ["setting","k"] (dj m9):=sco
theorem zU(O:gw K c)(dO:eV P w K mg base "times_number" ["part","left","right"] 3 (fV c))(dZ:eV P w K mg base "voltage_of" ["part"] 2 (gk c))(dJ:eV P w K mg base "current_of" ["setting","k"] 1 (fH c))(G:iI K mg "resistor_laws" m9 ["setting","k"]):eV P w K mg base "resistor_laws" ["setting","k"] 5 (jG c Be fun g k=>[de.og (pat g k) (de.lS (pat g k)) (de.cur g k)]):=by
 have sc:=zT;refine G.iX sc fun f cdv A outer s H vs Q E hr h=> ?_
 obtain⟨v,g,k,rfl,hg,ok,hk,kd,kk⟩:=h;refine⟨rfl,_,(dh (dW (i:=2) sc.nd (d6 (jH K) (dt K (dt K (pv 0) rfl) rfl) (pv 1) (fun _ _=>rfl)))
   (dk (dD (dP (c8 (dz dO hr (c8 (pv 2) (c8 (dz dZ hr (c8 (pv 2) dc)) (c8 (dz dJ hr (c8 (pv 0) (c8 (pv 1) dc))) dc)))) dc))))),?_⟩
 refine mK O hg hk rfl rfl fun u hu=> ?_
 refine⟨_,rfl,?_⟩;refine⟨_,rfl,_,_,rfl,hu,fun x1 H1 t1 hx1=> ?_⟩;refine⟨_,rfl,_,rfl,_,_,_,rfl,hg.same t1,by lia,by lia,fun x2 H2 t2 hx2=> ?_⟩;refine⟨_,_,_,_,_,_,rfl,hu.same (t1.trans t2),toF (eY.same hx1 t2),toF hx2,R9 _,PU _ _,AY _,uG _ _,fun z H3 s3 hz=> ?_⟩;exact⟨dq (by simp),iE ((t1.trans t2).trans s3) (eY.less hz (gd (t1.trans t2))) kk⟩
noncomputable abbrev gY:Stmt:=top 50
theorem oF:dE ["setting","k","part"] ["setting","k"] (dj gY):=sco
theorem oG(O:gw K c)(dO:eV P w K mg base "times_number" ["part","left","right"] 3 (fV c))(dZ:eV P w K mg base "voltage_of" ["part"] 2 (gk c))(d5:eV P w K mg base "controlling_voltage" ["part"] 2 (fS c))(G:iI K mg "voltage_by_voltage_laws" gY ["setting","k"]):eV P w K mg base "voltage_by_voltage_laws" ["setting","k"] 5 (jG c Be fun g k=>[de.og (pat g k) (de.lS (pat g k)) (de.Gj (pat g k))]):=by
 have sc:=oF;refine G.iX sc fun f cdv A outer s H vs Q E hr h=> ?_
 obtain⟨v,g,k,rfl,hg,ok,hk,kd,kk⟩:=h;refine⟨rfl,_,(dh (dW (i:=2) sc.nd (d6 (jH K) (dt K (dt K (pv 0) rfl) rfl) (pv 1) (fun _ _=>rfl)))
   (dk (dD (dP (c8 (dz dO hr (c8 (pv 2) (c8 (dz dZ hr (c8 (pv 2) dc)) (c8 (dz d5 hr (c8 (pv 2) dc)) dc)))) dc))))),?_⟩
 refine mK O hg hk rfl rfl fun u hu=> ?_
 refine⟨_,rfl,?_⟩;refine⟨_,rfl,_,_,rfl,hu,fun x1 H1 t1 hx1=> ?_⟩;refine⟨_,rfl,_,_,rfl,hu.same t1,fun x2 H2 t2 hx2=> ?_⟩;refine⟨_,_,_,_,_,_,rfl,hu.same (t1.trans t2),toF (eY.same hx1 t2),toF hx2,R9 _,Wc _,AY _,PR _,fun z H3 s3 hz=> ?_⟩;exact⟨dq (by simp),iE ((t1.trans t2).trans s3) (eY.less hz (gd (t1.trans t2))) kk⟩
noncomputable abbrev gZ:Stmt:=top 51
theorem oH:dE ["setting","k","part"] ["setting","k"] (dj gZ):=sco
theorem oI(O:gw K c)(dO:eV P w K mg base "times_number" ["part","left","right"] 3 (fV c))(dJ:eV P w K mg base "current_of" ["setting","k"] 1 (fH c))(d5:eV P w K mg base "controlling_voltage" ["part"] 2 (fS c))(G:iI K mg "current_by_voltage_laws" gZ ["setting","k"]):eV P w K mg base "current_by_voltage_laws" ["setting","k"] 5 (jG c Be fun g k=>[de.og (pat g k) (de.cur g k) (de.Gj (pat g k))]):=by
 have sc:=oH;refine G.iX sc fun f cdv A outer s H vs Q E hr h=> ?_
 obtain⟨v,g,k,rfl,hg,ok,hk,kd,kk⟩:=h;refine⟨rfl,_,(dh (dW (i:=2) sc.nd (d6 (jH K) (dt K (dt K (pv 0) rfl) rfl) (pv 1) (fun _ _=>rfl)))
   (dk (dD (dP (c8 (dz dO hr (c8 (pv 2) (c8 (dz dJ hr (c8 (pv 0) (c8 (pv 1) dc))) (c8 (dz d5 hr (c8 (pv 2) dc)) dc)))) dc))))),?_⟩
 refine mK O hg hk rfl rfl fun u hu=> ?_
 refine⟨_,rfl,?_⟩;refine⟨_,rfl,_,rfl,_,_,_,rfl,hg,by lia,by lia,fun x1 H1 t1 hx1=> ?_⟩;refine⟨_,rfl,_,_,rfl,hu.same t1,fun x2 H2 t2 hx2=> ?_⟩;refine⟨_,_,_,_,_,_,rfl,hu.same (t1.trans t2),toF (eY.same hx1 t2),toF hx2,PU _ _,Wc _,uG _ _,PR _,fun z H3 s3 hz=> ?_⟩;exact⟨dq (by simp),iE ((t1.trans t2).trans s3) (eY.less hz (gd (t1.trans t2))) kk⟩
noncomputable abbrev g5:Stmt:=top 52
theorem oJ:dE ["setting","k","part"] ["setting","k"] (dj g5):=sco
theorem oK(O:gw K c)(dO:eV P w K mg base "times_number" ["part","left","right"] 3 (fV c))(dZ:eV P w K mg base "voltage_of" ["part"] 2 (gk c))(dJ:eV P w K mg base "current_of" ["setting","k"] 1 (fH c))(G:iI K mg "voltage_by_current_laws" g5 ["setting","k"]):eV P w K mg base "voltage_by_current_laws" ["setting","k"] 5 (jG c Wd fun g k=>[de.og (pat g k) (de.lS (pat g k)) (de.cur g (pat g k).c)]):=by
 have sc:=oJ;refine G.iX sc fun f cdv A outer s H vs Q E hr h=> ?_
 obtain⟨v,g,k,rfl,hg,ok,hk,kd,kk⟩:=h;refine⟨rfl,_,(dh (dW (i:=2) sc.nd (d6 (jH K) (dt K (dt K (pv 0) rfl) rfl) (pv 1) (fun _ _=>rfl)))
   (dk (dD (dP (c8 (dz dO hr (c8 (pv 2) (c8 (dz dZ hr (c8 (pv 2) dc)) (c8 (dz dJ hr (c8 (pv 0) (c8 (dt K (pv 2) rfl) dc))) dc)))) dc))))),?_⟩
 refine mK O hg hk rfl rfl fun u hu=> ?_
 obtain⟨pa,pdx,rfl,hpa⟩:=id hu;refine⟨_,rfl,?_⟩;refine⟨_,rfl,_,_,rfl,hu,fun x1 H1 t1 hx1=> ?_⟩;refine⟨_,rfl,_,rfl,dX (t1 _ _ hpa) O.part.cl (O.part.at_ 3 rfl) rfl ⟨_,_,_,rfl,hg.same t1,kd.1,kd.2,fun x2 H2 t2 hx2=> ?_⟩⟩;refine⟨_,_,_,_,_,_,rfl,hu.same (t1.trans t2),toF (eY.same hx1 t2),toF hx2,R9 _,PU _ _,AY _,uG _ _,fun z H3 s3 hz=> ?_⟩;exact⟨dq (by simp),iE ((t1.trans t2).trans s3) (eY.less hz (gd (t1.trans t2))) kk⟩
noncomputable abbrev g6:Stmt:=top 53
theorem oM:dE ["setting","k","part"] ["setting","k"] (dj g6):=sco
theorem oN(O:gw K c)(dO:eV P w K mg base "times_number" ["part","left","right"] 3 (fV c))(dJ:eV P w K mg base "current_of" ["setting","k"] 1 (fH c))(G:iI K mg "current_by_current_laws" g6 ["setting","k"]):eV P w K mg base "current_by_current_laws" ["setting","k"] 5 (jG c Wd fun g k=>[de.og (pat g k) (de.cur g k) (de.cur g (pat g k).c)]):=by
 have sc:=oM;refine G.iX sc fun f cdv A outer s H vs Q E hr h=> ?_
 obtain⟨v,g,k,rfl,hg,ok,hk,kd,kk⟩:=h;refine⟨rfl,_,(dh (dW (i:=2) sc.nd (d6 (jH K) (dt K (dt K (pv 0) rfl) rfl) (pv 1) (fun _ _=>rfl)))
   (dk (dD (dP (c8 (dz dO hr (c8 (pv 2) (c8 (dz dJ hr (c8 (pv 0) (c8 (pv 1) dc))) (c8 (dz dJ hr (c8 (pv 0) (c8 (dt K (pv 2) rfl) dc))) dc)))) dc))))),?_⟩
 refine mK O hg hk rfl rfl fun u hu=> ?_
 obtain⟨pa,pdx,rfl,hpa⟩:=id hu;refine⟨_,rfl,?_⟩;refine⟨_,rfl,_,rfl,_,_,_,rfl,hg,by lia,by lia,fun x1 H1 t1 hx1=> ?_⟩;refine⟨_,rfl,_,rfl,dX (t1 _ _ hpa) O.part.cl (O.part.at_ 3 rfl) rfl ⟨_,_,_,rfl,hg.same t1,kd.1,kd.2,fun x2 H2 t2 hx2=> ?_⟩⟩;refine⟨_,_,_,_,_,_,rfl,hu.same (t1.trans t2),toF (eY.same hx1 t2),toF hx2,PU _ _,PU _ _,uG _ _,uG _ _,fun z H3 s3 hz=> ?_⟩;exact⟨dq (by simp),iE ((t1.trans t2).trans s3) (eY.less hz (gd (t1.trans t2))) kk⟩
noncomputable abbrev mh:Stmt:=top 44
theorem xZ:dE ["setting","k","part"] ["setting","k"] (dj mh):=sco
theorem x9(O:gw K c)(dO:eV P w K mg base "times_number" ["part","left","right"] 3 (fV c))(dZ:eV P w K mg base "voltage_of" ["part"] 2 (gk c))(dJ:eV P w K mg base "current_of" ["setting","k"] 1 (fH c))(gf:eV P w K mg base "scaled" ["terms","polynomial"] 2 nW)(G:iI K mg "capacitor_laws" mh ["setting","k"]):eV P w K mg base "capacitor_laws" ["setting","k"] 5 (jG c Be fun g k=>[de.og (pat g k) (de.cur g k) (de.rG (de.lS (pat g k)) g.s)]):=by
 have sc:=xZ;refine G.iX sc fun f cdv A outer s H vs Q E hr h=> ?_
 obtain⟨v,g,k,rfl,hg,ok,hk,kd,kk⟩:=h;refine⟨rfl,_,(dh (dW (i:=2) sc.nd (d6 (jH K) (dt K (dt K (pv 0) rfl) rfl) (pv 1) (fun _ _=>rfl)))
   (dk (dD (dP (c8 (dz dO hr (c8 (pv 2) (c8 (dz dJ hr (c8 (pv 0) (c8 (pv 1) dc))) (c8 (dz gf hr (c8 (dz dZ hr (c8 (pv 2) dc)) (c8 (dt K (pv 0) rfl) dc))) dc)))) dc))))),?_⟩
 refine mK O hg hk rfl rfl fun u hu=> ?_
 refine⟨_,rfl,?_⟩;refine⟨_,rfl,_,rfl,_,_,_,rfl,hg,by lia,by lia,fun x1 H1 t1 hx1=> ?_⟩;refine⟨_,rfl,_,_,rfl,hu.same t1,fun x2 H2 t2 hx2=> ?_⟩;have hg2:=hg.same (t1.trans t2);obtain⟨a,dx,vn,vs,vst,vd,vp,rfl,ha,_,hs,_⟩:=id hg2;have lu:nH (de.rG (de.lS (pat g k)) g.s):=zS (R9 _) (Ru _ _) (ok.s.elim .inl fun e=> .inr (.inl e));have sh:Short g.s:=by
  unfold Short;rcases ok.s with e |e <;>rw[e] <;>simp
 refine⟨_,rfl,dX ha O.jQ.cl (O.jQ.at_ 1 rfl) rfl ⟨_,_,_,_,rfl,toF hx2,hs,R9 _,ay (AY _) (by decide),sh,fun x3 H3 t3 hx3=> ?_⟩⟩;refine⟨_,_,_,_,_,_,rfl,hu.same ((t1.trans t2).trans t3),toF (eY.same hx1 (t2.trans t3)),toF hx3,PU _ _,lu,uG _ _,by rw[nP];exact AY _,fun z H4 s4 hz=> ?_⟩;exact⟨dq (by simp),iE (((t1.trans t2).trans t3).trans s4) (eY.less hz (gd ((t1.trans t2).trans t3))) kk⟩
noncomputable abbrev nh:Stmt:=top 47
theorem zV:dE ["setting","k"] ["setting","k"] (dj nh):=sco
theorem zW(G:iI K mg "coupling_laws" nh ["setting","k"]):eV P w K mg base "coupling_laws" ["setting","k"] 5 (jG c Be fun g k=>[]):=by
 have sc:=zV;refine eV.mono (j:=1) (G.iX sc fun f cdv A outer s H vs Q E hr h=> ?_) (by decide);obtain⟨v,g,k,rfl,hg,ok,hk,kd,kk⟩:=h;refine⟨rfl,_,(dk (dD (dP dc))),?_⟩;exact⟨aM _,fun p hp=>kk _ _ (du hp) ⟨p,_,rfl,fun z=>z hp,di,.nil⟩⟩
noncomputable abbrev jc:Stmt:=top 48
theorem rZ:dE ["setting","k"] ["setting","k"] (dj jc):=sco
theorem r6(O:gw K c)(iG:eV P w K mg base "set_to_drive" ["setting","k","terms"] 3 (m8 c))(dZ:eV P w K mg base "voltage_of" ["part"] 2 (gk c))(G:iI K mg "voltage_source_laws" jc ["setting","k"]):eV P w K mg base "voltage_source_laws" ["setting","k"] 4 (jG c Be fun g k=>[de.BD g k (de.lS (pat g k))]):=by
 have sc:=rZ;refine G.iX sc fun f cdv A outer s H vs Q E hr h=> ?_
 obtain⟨v,g,k,rfl,hg,ok,hk,kd,kk⟩:=h;refine⟨rfl,_,(dk (dD (dP (c8 (dz iG hr (c8 (pv 0) (c8 (pv 1) (c8 (dz dZ hr (c8 (d6 (jH K) (dt K (dt K (pv 0) rfl) rfl) (pv 1) (fun _ _=>rfl)) dc)) dc)))) dc)))),?_⟩;refine⟨_,rfl,_,rfl,?_⟩;refine mK O hg hk rfl rfl fun u hu=> ?_
 refine⟨_,_,rfl,hu,fun x1 H1 t1 hx1=> ?_⟩;refine⟨_,_,_,_,_,rfl,hg.same t1,by rw[ok.dr];exact hk,toF hx1,R9 _,AY _,fun z H4 s4 hz=> ?_⟩;exact⟨dq (by simp),iE (t1.trans s4) (eY.less hz (gd t1)) kk⟩
noncomputable abbrev jd:Stmt:=top 49
theorem r8:dE ["setting","k"] ["setting","k"] (dj jd):=sco
theorem r9(O:gw K c)(iG:eV P w K mg base "set_to_drive" ["setting","k","terms"] 3 (m8 c))(dJ:eV P w K mg base "current_of" ["setting","k"] 1 (fH c))(G:iI K mg "current_source_laws" jd ["setting","k"]):eV P w K mg base "current_source_laws" ["setting","k"] 4 (jG c Be fun g k=>[de.BD g k (de.cur g k)]):=by
 have sc:=r8;refine G.iX sc fun f cdv A outer s H vs Q E hr h=> ?_
 obtain⟨v,g,k,rfl,hg,ok,hk,kd,kk⟩:=h;refine⟨rfl,_,(dk (dD (dP (c8 (dz iG hr (c8 (pv 0) (c8 (pv 1) (c8 (dz dJ hr (c8 (pv 0) (c8 (pv 1) dc))) dc)))) dc)))),?_⟩;refine⟨_,rfl,_,rfl,?_⟩;refine⟨_,rfl,_,rfl,_,_,_,rfl,hg,by lia,by lia,fun x1 H1 t1 hx1=> ?_⟩;refine⟨_,_,_,_,_,rfl,hg.same t1,by rw[ok.dr];exact hk,toF hx1,PU _ _,uG _ _,fun z H4 s4 hz=> ?_⟩;exact⟨dq (by simp),iE (t1.trans s4) (eY.less hz (gd t1)) kk⟩
noncomputable abbrev mi:Stmt:=top 55
theorem yd:dE ["setting","k"] ["setting","k"] (dj mi):=sco
theorem ye(O:gw K c)(d5:eV P w K mg base "controlling_voltage" ["part"] 2 (fS c))(G:iI K mg "amplifier_laws" mi ["setting","k"]):eV P w K mg base "amplifier_laws" ["setting","k"] 3 (jG c Be fun g k=>[de.Gj (pat g k)]):=by
 have sc:=yd;refine G.iX sc fun f cdv A outer s H vs Q E hr h=> ?_
 obtain⟨v,g,k,rfl,hg,ok,hk,kd,kk⟩:=h;refine⟨rfl,_,(dk (dD (dP (c8 (dz d5 hr (c8 (d6 (jH K) (dt K (dt K (pv 0) rfl) rfl) (pv 1) (fun _ _=>rfl)) dc)) dc)))),?_⟩;refine mK O hg hk rfl rfl fun u hu=> ?_
 refine⟨_,_,rfl,hu,fun x1 H1 t1 hx1=> ?_⟩;exact⟨dq (by simp),iE t1 hx1 kk⟩
noncomputable abbrev qA:Stmt:=top 56
theorem Dl:dE ["setting","k","part"] ["setting","k"] (dj qA):=sco
theorem Dm(O:gw K c)(dJ:eV P w K mg base "current_of" ["setting","k"] 1 (fH c))(dZ:eV P w K mg base "voltage_of" ["part"] 2 (gk c))(G:iI K mg "switch_laws" qA ["setting","k"]):eV P w K mg base "switch_laws" ["setting","k"] 3 (jG c Be fun g k=>[if(pat g k).top=0 then de.cur g k else de.lS (pat g k)]):=by
 have sc:=Dl;refine G.iX sc fun f cdv A outer s H vs Q E hr h=> ?_
 obtain⟨v,g,k,rfl,hg,ok,hk,kd,kk⟩:=h;refine⟨rfl,_,(dh (dW (i:=2) sc.nd (d6 (jH K) (dt K (dt K (pv 0) rfl) rfl) (pv 1) (fun _ _=>rfl)))
   (dk (dD (dP (c8 (mM (eO ji (dt K (pv 2) rfl) dC (eH _)) (dz dJ hr (c8 (pv 0) (c8 (pv 1) dc))) (dz dZ hr (c8 (pv 2) dc))) dc))))),?_⟩
 refine mK O hg hk rfl rfl fun u hu=> ?_
 obtain⟨pa,pdx,rfl,hpa⟩:=id hu;change xY H Q [if(g.d8.c9.getD k de.p0).top=0 then de.cur g k else de.lS (g.d8.c9.getD k de.p0)] at kk;refine⟨_,rfl,dX hpa O.part.cl (O.part.at_ 5 rfl) rfl ⟨rfl,_,rfl,?_⟩⟩;rw[lF];refine SW (fun h=> ?_) (fun h=> ?_)
 ·rw[ah (az h)] at kk;refine⟨_,rfl,_,rfl,_,_,_,rfl,hg,by lia,by lia,fun x1 H1 t1 hx1=> ?_⟩;exact⟨dq (by simp),iE t1 hx1 kk⟩
 ·rw[af (fun e=>h (ak e))] at kk;refine⟨_,rfl,_,_,rfl,hu,fun x1 H1 t1 hx1=> ?_⟩;exact⟨dq (by simp),iE t1 hx1 kk⟩
noncomputable abbrev sf:Stmt:=top 57
theorem En:dE ["setting","k"] ["setting","k"] (dj sf):=sco
theorem Eo(O:gw K c)(gW:eV P w K mg base "voltage_source_laws" ["setting","k"] 4 (jG c Be fun g k=>[de.BD g k (de.lS (pat g k))]))(dJ:eV P w K mg base "current_of" ["setting","k"] 1 (fH c))(G:iI K mg "diode_laws" sf ["setting","k"]):eV P w K mg base "diode_laws" ["setting","k"] 5 (jG c Be fun g k=>if g.gI.getD k false=true then[de.BD g k (de.lS (pat g k))] else[de.cur g k]):=by
 have sc:=En;refine G.iX sc fun f cdv A outer s H vs Q E hr h=> ?_
 obtain⟨v,g,k,rfl,hg,ok,hk,kd,kk⟩:=h;refine⟨rfl,_,(dh (fC (fc K (d6 (jH K) (dt K (pv 0) rfl) (pv 1) (fun _ _=>rfl)) (fun _=>rfl)) (dk (dD (dz gW hr (c8 (pv 0) (c8 (pv 1) dc))))) eh)
   (dk (dD (dP (c8 (dz dJ hr (c8 (pv 0) (c8 (pv 1) dc))) dc))))),?_⟩
 obtain⟨a,dx,vn,vs,vst,vd,vp,rfl,ha,_,hs,⟨sa,rfl,hsa⟩,_⟩:=id hg;have hb:(g.gI.map V.bl)[k]? =some (.bl (g.gI.getD k false)):=by
  rw[aC,dy (d:=false) (by rw[ok.st];exact hk)];rfl
 refine⟨_,rfl,dX ha O.jQ.cl (O.jQ.at_ 2 rfl) rfl ⟨_,rfl,lD (.of hsa) (dQ (j:=k) rfl hb) ⟨_,rfl,?_⟩⟩⟩;change xY H Q (if g.gI.getD k false=true then[de.BD g k (de.lS (pat g k))] else[de.cur g k]) at kk;cases e:g.gI.getD k false with
 |true=>
  rw[e,ah rfl] at kk;exact e7 ⟨_,rfl,_,rfl,_,_,_,rfl,hg,ok,hk,trivial,kk⟩
 |false=>
  rw[e,af (by decide)] at kk;refine fh ⟨_,rfl,_,rfl,_,_,_,rfl,hg,by lia,by lia,fun x1 H1 t1 hx1=> ?_⟩;exact⟨dq (by simp),iE t1 hx1 kk⟩
noncomputable abbrev j6:Stmt:=top 54
theorem vx:dE ["setting","k","part","first","second"] ["setting","k"] (dj j6):=sco
theorem vy(O:gw K c)(dO:eV P w K mg base "times_number" ["part","left","right"] 3 (fV c))(dZ:eV P w K mg base "voltage_of" ["part"] 2 (gk c))(d5:eV P w K mg base "controlling_voltage" ["part"] 2 (fS c))(dJ:eV P w K mg base "current_of" ["setting","k"] 1 (fH c))(gf:eV P w K mg base "scaled" ["terms","polynomial"] 2 nW)(G:iI K mg "transformer_laws" j6 ["setting","k"]):eV P w K mg base "transformer_laws" ["setting","k"] 5 (jG c Be fun g k=>[de.og (pat g k) (de.lS (pat g k)) (de.Gj (pat g k)),de.og (pat g k) [((de.places g.d8).getD k 0+1,[1])] (de.rG (de.cur g k) [-1])]):=by
 have sc:=vx;refine G.iX sc fun f cdv A outer s H vs Q E hr h=> ?_
 obtain⟨v,g,k,rfl,hg,ok,hk,kd,kk⟩:=h;refine⟨rfl,_,(dh (dW (i:=2) sc.nd (d6 (jH K) (dt K (dt K (pv 0) rfl) rfl) (pv 1) (fun _ _=>rfl)))
   (dh (dW (i:=3) sc.nd (dz dJ hr (c8 (pv 0) (c8 (pv 1) dc))))
   (dh (dW (i:=4) sc.nd (dP (c8 (gq (c8 (eX kn (d6 (jH K) (dt K (pv 0) rfl) (pv 1) (fun _ _=>rfl)) dC) (c8 (dP (c8 dC dc)) dc))) dc)))
   (dk (dD (dP (c8 (dz dO hr (c8 (pv 2) (c8 (dz dZ hr (c8 (pv 2) dc)) (c8 (dz d5 hr (c8 (pv 2) dc)) dc)))) (c8 (dz dO hr (c8 (pv 2) (c8 (pv 4) (c8 (dz gf hr (c8 (pv 3) (c8 (dP (c8 (jT ie dC) dc)) dc))) dc)))) dc)))))))),?_⟩
 refine mK O hg hk rfl rfl fun u hu=> ?_
 refine⟨_,rfl,_,rfl,_,_,_,rfl,hg,by lia,by lia,fun x1 H1 t1 hx1=> ?_⟩;have hg1:=hg.same t1;obtain⟨a,dx,vn,vs,vst,vd,vp,rfl,ha,_,hs,_,_,⟨pa,rfl,hpl⟩⟩:=id hg1;have hj:k<(de.places g.d8).length:=by rw[places_len];exact hk
 refine⟨_,rfl,dX ha O.jQ.cl (O.jQ.at_ 4 rfl) rfl ⟨_,rfl,lD (.of hpl) (dQ (j:=k) rfl (ju hj)) (ph ⟨dq (by simp),fun p hp=>⟨dq (by simp),fun t ht=>⟨dq (by simp),fun q hq=> ?_⟩⟩⟩)⟩⟩;obtain⟨s2,hx2⟩:=G5 (H:=H1) (H1:=upd H1 p (.lst [.int 1])) (l:=[1]) (x:=(de.places g.d8).getD k 0+1) (du hp) hp di ht hq;generalize hH2:upd (upd (upd H1 p (.lst [.int 1])) t (.tup [.int ((de.places g.d8).getD k 0+1),.ref p])) q (.lst [.ref t])=H2 at s2 hx2;have hu2:=hu.same (t1.trans s2);have u2:nH [((de.places g.d8).getD k 0+1,[1])]:=fun t ht=>by
  have:t=((de.places g.d8).getD k 0+1,[1]):=by simpa using ht
  subst this;simp
 refine⟨_,rfl,_,rfl,_,_,rfl,hu2,fun x3 H3 t3 hx3=> ?_⟩;refine⟨_,rfl,_,_,rfl,hu2.same t3,fun x4 H4 t4 hx4=> ?_⟩;refine⟨_,_,_,_,_,_,rfl,hu2.same (t3.trans t4),toF (eY.same hx3 t4),toF hx4,R9 _,Wc _,AY _,PR _,fun x5 H5 t5 hx5=> ?_⟩;have t25:=(t3.trans t4).trans t5;refine⟨_,rfl,_,rfl,_,rfl,_,rfl,dq (by simp),fun p6 hp6=> ?_⟩;have s6:=du (o:= .lst [.int (-1)]) hp6;refine⟨_,_,_,[-1],rfl,toF (eY.same hx1 ((s2.trans t25).trans s6)),⟨p6,rfl,di⟩,PU _ _,ay (uG _ _) (by decide),by unfold Short;simp,fun x7 H7 t7 hx7=> ?_⟩;refine⟨_,_,_,_,_,_,rfl,hu2.same ((t25.trans s6).trans t7),toF (eY.same hx2 ((t25.trans s6).trans t7)),toF hx7,u2,zS (PU _ _) (Me _ _) (.inr (.inr rfl)),by simp,by rw[nP];exact uG _ _,fun x8 H8 t8 hx8=> ?_⟩;refine⟨dq (by simp),fun r hr'=> ?_⟩;have s9:=du (o:= .lst [x5,x8]) hr';have t28:=(s6.trans t7).trans t8;have all:dI H H8:=(((t1.trans s2).trans t25).trans t28);refine kk _ _ (all.trans s9) ⟨r,_,rfl,fun z=>z (all.free hr'),di,.cons ?_ (.cons ?_ .nil)⟩
 ·exact eY.same (eY.same (eY.less hx5 (gd (((t1.trans s2).trans t3).trans t4))) t28) s9
 ·exact eY.same (eY.less hx8 (gd (((t1.trans s2).trans t25).trans (s6.trans t7)))) s9
end
theorem no_ref{l:List Int}{a:Addr}(h:V.ref a∈l.map V.int):False:=by
 obtain⟨z,_,e⟩:=aL.mp h;cases e
theorem yf{H:Hp}{a:Addr}{x y:List V}(h:H a=some (.lst x))(h':H a=some (.lst y)):x=y:=by
 rw[h] at h';cases h'
 rfl
theorem _root_.PySem.Paired.Mf{α β:Type}{F G:α->β->Prop}:∀{l:List α} {m:List β},Paired F l m->(∀a b,a∈l->F a b->G a b)->Paired G l m
 |_,_,.nil,_=> .nil
 |_,_,.cons r t,f=> .cons (f _ _ ax r) (t.Mf fun a b ha=>f a b (ao _ ha))
theorem zX{S:Addr->Prop}{H:Hp}{p:Addr}{vs:List V}{v:V}{l:List Int}{a:Addr}(hp:H p=some (.lst vs))(hm:V.ref a∈vs)(h:tj S H v l):tj (fP S p) H v l:=by
 obtain⟨b,e,hs,hb⟩:=h;refine⟨b,e,fun q=>q.elim hs fun z=> ?_,hb⟩;rw[z] at hb;rw[yf hp hb] at hm;exact no_ref hm
theorem Dn{S:Addr->Prop}{H:Hp}{p:Addr}{vs:List V}{v:V}{t:Int×List Int}{a:Addr}(hp:H p=some (.lst vs))(hm:V.ref a∈vs)(h:lK S H v t):lK (fP S p) H v t:=by
 obtain⟨b,x,e,hs,hb,hx⟩:=h;refine⟨b,x,e,fun q=>q.elim hs fun z=> ?_,hb,zX hp hm hx⟩;rw[z,hp] at hb;cases hb
theorem PV{S:Addr->Prop}{H:Hp}{p:Addr}{vs:List V}{l:List (Int×List Int)}(hp:H p=some (.lst vs))(h:Paired (lK S H) vs l):Paired (lK (fP S p) H) vs l:=h.Mf fun v x hv q=>by
 obtain⟨a,_,rfl,_,_⟩:=id q;exact Dn hp hv q
theorem Rw{S:Addr->Prop}{H:Hp}{p:Addr}{vs:List V}{l:List (List (Int×List Int))}(hp:H p=some (.lst vs))(h:Paired (rS S H) vs l):Paired (rS (fP S p) H) vs l:=h.Mf fun v x hv q=>by
 obtain⟨a,us,rfl,hs,ha,hu⟩:=q;refine⟨a,us,rfl,fun z=>z.elim hs fun e=> ?_,ha,hu.fY fun u t ht=>Dn hp hv ht⟩;rw[e] at ha hv;have e2:=yf ha hp;rw[<-e2] at hv;obtain⟨i,hi⟩:=List.getElem?_of_mem hv;obtain⟨_,_,b,_,e3,_,hb,_⟩:=hu.mU hi;cases e3
 rw[hp] at hb;cases hb
theorem Rx{S:Addr->Prop}{H:Hp}{p:Addr}{vs:List V}{l:List (List (List Int))}(hp:H p=some (.lst vs))(h:Paired (uA S H) vs l):Paired (uA (fP S p) H) vs l:=h.Mf fun v x hv q=>by
 obtain⟨a,us,rfl,hs,ha,hu⟩:=q;refine⟨a,us,rfl,fun z=>z.elim hs fun e=> ?_,ha,hu.fY fun u t ht=>zX hp hv ht⟩;rw[e] at ha hv;have e2:=yf ha hp;rw[<-e2] at hv;obtain⟨i,hi⟩:=List.getElem?_of_mem hv;obtain⟨_,_,b,e3,_,hb⟩:=hu.mU hi;cases e3
 rw[yf ha hb] at hv;exact no_ref hv
noncomputable def Sa (H:Hp) (u:V) (x:Int×Int×Int):Prop:=∃r,u= .ref r/\H r=some (.tup [.int x.1,.int x.2.1,.int x.2.2])
theorem Sa.same{H H':Hp}{u:V}{x:Int×Int×Int}(h:Sa H u x)(s:dI H H'):Sa H' u x:=let ⟨r,e,q⟩:=h;⟨r,e,s _ _ q⟩
noncomputable def We (H:Hp) (v:V) (l:List (Int×Int×Int)):Prop:=∃a vs,v= .ref a/\H a=some (.lst vs)/\Paired (Sa H) vs l
theorem Ry{H4:Hp}{q t:Addr}{us:List V}{sh:List (Int×Int×Int)}{x:Int×Int×Int}(hq:H4 q=some (.lst us))(hu:Paired (Sa H4) us sh)(ht:H4 t=some (.tup [.int x.1,.int x.2.1,.int x.2.2])):
  Paired (Sa (upd H4 q (.lst (us ++ [.ref t])))) (us ++ [.ref t]) (sh ++ [x]):=by
 have k:∀(y:Addr) (l:List V),H4 y=some (.tup l)->(upd H4 q (.lst (us ++ [.ref t]))) y=some (.tup l):=fun y l h=>by
  rw[d4 (Hu h hq (by intro z;cases z))];exact h
 exact(hu.fY fun u y ⟨r,e,hr⟩=>⟨r,e,k _ _ hr⟩).iT ⟨t,rfl,k _ _ ht⟩
section
variable {P:Program}{w:World}{K:PySem.W.Frag}{mg:Str->Option Value}{base:Heap}{c:Cs}
noncomputable def Sb (k:Int) (p:de.Part):Bool:=decide (p.kind=3/\(k=p.a\/k=p.b))
noncomputable def Vx (k:Int) (p:de.Part):Int×Int×Int:=(p.a+p.b - k,p.top,p.dF)
theorem FJ(ps:List de.Part)(k:Nat):de.eQ ps k=((k:Int),(ps.getD k de.p0).top,(ps.getD k de.p0).dF)::(ps.filter (Sb k)).map (Vx k):=rfl
theorem Vf(k a b:Int):Lj (.int k) [.int a,.int b]=decide (k=a\/k=b):=by
 by_cases h1:k=a
 ·subst h1;simp[Lj,MB]
 ·by_cases h2:k=b
  ·subst h2;simp[Lj,MB]
  ·simp[Lj,MB,h1,h2,bL h1,bL h2]
noncomputable abbrev qB:Stmt:=top 46
theorem Dq:dE ["parts","k","shares","part"] ["parts","k"] (dj qB):=sco
noncomputable def uH (c:Cs):Sp:=fun vs H Q _=>∃v ps k,vs=[v,.int ((k:Nat):Int)]/\nO c H v ps/\k<ps.length/\ps.length<=20/\∀z H',dI H H'->We H' z (de.eQ ps k)->Q z H'
theorem Dr(T:Txt2 mg)(O:gw K c)(G:iI K mg "coil_shares" qB ["parts","k"]):eV P w K mg base "coil_shares" ["parts","k"] 1 (uH c):=by
 have sc:=Dq;refine G.iX sc fun f cdv A outer s H vs Q E hr h=> ?_
 obtain⟨v,ps,k,rfl,⟨a,ws,rfl,ha,hps⟩,hk,hl,kk⟩:=h;have ll:=hps.length;refine⟨rfl,_,(dh (dW (i:=2) sc.nd (dP (c8 (gq (c8 (pv 1) (c8 (dt K (d6 (jH K) (pv 0) (pv 1) (fun _ _=>rfl)) rfl) (c8 (dt K (d6 (jH K) (pv 0) (pv 1) (fun _ _=>rfl)) rfl) dc)))) dc)))
   (dh (gN PassesOwn.never rfl (fu (pv 0)) (eZ (i:=3) sc.nd) (dk (fC (PW.pt (JC (eO ji (dt K (pv 3) rfl) (gc T.iU) (eH _)) (FZ (eO (JS K) (pv 1) (gq (c8 (dt K (pv 3) rfl) (c8 (dt K (pv 3) rfl) dc))) (by with_unfolding_all rfl))))) (dk (iM (n9 aT a6 a7 g7 (pv 2) (c8 (gq (c8 (eX nZ (eX kn (dt K (pv 3) rfl) (dt K (pv 3) rfl)) (pv 1)) (c8 (dt K (pv 3) rfl) (c8 (dt K (pv 3) rfl) dc)))) dc)))) eh)))
   (dk (dD (pv 2))))),?_⟩
 obtain⟨u,hu,pa,pdx,rfl,hpa⟩:=hps.kJ (dy (d:=de.p0) hk);refine⟨_,rfl,_,rfl,_,rfl,lD (.of ha) (dQ (j:=k) rfl hu) (dX hpa O.part.cl (O.part.at_ 5 rfl) rfl ?_)⟩;refine⟨_,rfl,_,rfl,lD (.of ha) (dQ (j:=k) rfl hu) (dX hpa O.part.cl (O.part.at_ 6 rfl) rfl ?_)⟩;refine⟨dq (by simp),fun t ht=>⟨dq (by simp),fun q hq=> ?_⟩⟩;have s1:=du (o:= .tup [.int (k:Int),.int (ps.getD k de.p0).top,.int (ps.getD k de.p0).dF]) ht;have s2:=s1.trans (du (o:= .lst [.ref t]) hq);have hqH:H q=none:=s1.free hq;refine⟨_,rfl,a,rfl,⟨_,.of (s2 _ _ ha)⟩,jt (fw (K:=K) (.of ha)) (fun i σ H'=>∃x3 us,σ=[some (.ref a),some (.int (k:Int)),some (.ref q),x3]/\dI H H'/\H' q=some (.lst us)/\us.length<=i+1/\Paired (Sa H') us (((k:Int),(ps.getD k de.p0).top,(ps.getD k de.p0).dF)::((ps.take i).filter (Sb k)).map (Vx k))) ?_ (fun i σ H' ⟨_,_,_,s,_⟩=>s) ?_ ?_⟩
 ·exact⟨none,_,rfl,s2,di,by simp,.cons ⟨t,rfl,du hq _ _ di⟩ .nil⟩
 ·rintro i x σ H1 H2 hi ⟨x3,us,rfl,s3,hq1,hul,hus⟩ s4 s12 hx;obtain⟨p,hp,pb,pbx,rfl,hpb⟩:=hps.mU hx;have hq2:=s12 _ _ hq1;have hpb2:=s4 _ _ hpb;have hus2:=hus.fY fun u y z=>z.same s12
  have keep:Sb k p=false->∀H3,dI H2 H3->∃x3 us,[some (V.ref a),some (V.int (k:Int)),some (V.ref q),some (V.ref pb)]=[some (V.ref a),some (V.int (k:Int)),some (V.ref q),x3]/\dI H H3/\H3 q=some (.lst us)/\us.length<=i+1+1/\Paired (Sa H3) us (((k:Int),(ps.getD k de.p0).top,(ps.getD k de.p0).dF)::((ps.take (i+1)).filter (Sb k)).map (Vx k)):=fun e H3 s5=>by
   refine⟨_,us,rfl,s4.trans s5,s5 _ _ hq2,by lia,?_⟩;rw[a5,hp,bN];have:(Option.some p).toList.filter (Sb k)=[]:=by simp[e]
   rw[this,bM];exact hus2.fY fun u y z=>z.same s5
  refine⟨_,rfl,dX hpb2 O.part.cl (O.part.at_ 0 rfl) rfl ⟨rfl,_,rfl,?_⟩⟩;rw[lF];by_cases h3:p.kind=3
  ·rw[ak h3];refine e7 ⟨_,rfl,_,rfl,dX hpb2 O.part.cl (O.part.at_ 1 rfl) rfl ⟨_,rfl,dX hpb2 O.part.cl (O.part.at_ 2 rfl) rfl ⟨dq (by simp),fun r hr'=> ?_⟩⟩⟩;have s5:=du (o:= .tup [.int p.a,.int p.b]) hr';refine⟨r,_,rfl,.inr (.of di),rfl,rfl,_,rfl,?_⟩;show if(Lj (.int (k:Int)) [.int p.a,.int p.b])=true then _ else _
   rw[Vf];by_cases h4:(k:Int)=p.a\/(k:Int)=p.b
   ·rw[ak h4];have hpb3:=s5 _ _ hpb2;refine e7 ⟨_,rfl,.inl ⟨rfl,_,.of (s5 _ _ hq2)⟩,?_⟩;refine⟨_,rfl,dX hpb3 O.part.cl (O.part.at_ 1 rfl) rfl ⟨_,rfl,dX hpb3 O.part.cl (O.part.at_ 2 rfl) rfl (ph ⟨_,rfl,ph ⟨_,rfl,dX hpb3 O.part.cl (O.part.at_ 5 rfl) rfl ⟨_,rfl,dX hpb3 O.part.cl (O.part.at_ 6 rfl) rfl ⟨dq (by simp),fun t2 ht2=> ?_⟩⟩⟩⟩)⟩⟩;have s6:=du (o:= .tup [.int (p.a+p.b - (k:Int)),.int p.top,.int p.dF]) ht2;have hq3:=s6 _ _ (s5 _ _ hq2);refine⟨q,us,_,rfl,rfl,hq3,dH (by lia),_,_,rfl,(((s4.trans s5).trans s6).over hqH),di,by simp;lia,?_⟩;have hF:Sb k p=true:=ak ⟨h3,h4⟩;rw[a5,hp,bN];have:(Option.some p).toList.filter (Sb k)=[p]:=by simp[hF]
    rw[this,aP];exact Ry (x:=Vx k p) hq3 (hus2.fY fun u y z=>(z.same s5).same s6) di
   ·rw[aq h4];exact fh (keep (aq fun h=>h4 h.2) _ s5)
  ·rw[aq h3];exact fh (fh (keep (aq fun h=>h3 h.1) _ (.refl _)))
 ·rintro σ H1 ⟨x3,us,rfl,s3,hq1,hul,hus⟩;refine⟨_,rfl,kk _ H1 s3 ⟨q,us,rfl,hq1,?_⟩⟩;rw[ll,aG] at hus;rw[FJ];exact hus
end
noncomputable def PX:de.lJ->Nat->Prop:=fun g k=>∀x∈de.eQ g.d8.c9 k,0<=x.1/\x.1<g.d8.c9.length/\1<=x.2.2/\x.2.2<=1000000/\x.2.1.natAbs<=1000000
theorem KC(ps:List de.Part)(k:Nat):(de.eQ ps k).length<=ps.length+1:=by
 rw[FJ,au,lMp];have:=cM (Sb k) ps;lia
noncomputable def T6 (g:de.lJ) (cm:Int) (x:Int×Int×Int):List (Int×List Int):=de.rG (de.rG (de.cur g x.1) g.s) (de.cst (-x.2.1*cm.fdiv x.2.2))
theorem KD(g:de.lJ)(k:Nat):de.mG g k=de.rG (de.lS (pat g k)) (de.cst (de.common (de.eQ g.d8.c9 k))) ++ (de.eQ g.d8.c9 k).flatMap (T6 g (de.common (de.eQ g.d8.c9 k))):=rfl
theorem sj{α β:Type}(f:α->List β)(l:List α)(i:Nat)(x:α)(h:l[i]? =some x):(l.take (i+1)).flatMap f=(l.take i).flatMap f ++ f x:=by
 rw[a5,h,bU];simp
theorem Mh(g:de.lJ)(cm:Int)(x:Int×Int×Int):(T6 g cm x).length<=2:=by
 unfold T6;rw[nP,nP];exact(zR g x.1).2
theorem ux(g:de.lJ)(cm:Int):∀l:List (Int×Int×Int),(l.flatMap (T6 g cm)).length<=2*l.length
 |[]=>by simp
 |x::l=>by
  rw[a9,aA,au];have:=ux g cm l;have:=Mh g cm x;lia
section
variable {P:Program}{w:World}{K:PySem.W.Frag}{mg:Str->Option Value}{base:Heap}{c:Cs}
noncomputable abbrev uI:Stmt:=top 45
theorem G6:dE ["setting","k","shares","common","share","law","coil","top","bottom"] ["setting","k"] (dj uI):=sco
theorem G7(O:gw K c)(qC:eV P w K mg base "coil_shares" ["parts","k"] 1 (uH c))(dZ:eV P w K mg base "voltage_of" ["part"] 2 (gk c))(dJ:eV P w K mg base "current_of" ["setting","k"] 1 (fH c))(gf:eV P w K mg base "scaled" ["terms","polynomial"] 2 nW)(gE:eV P w K mg base "constant" ["x"] 1 pW)(G:iI K mg "coil_laws" uI ["setting","k"]):eV P w K mg base "coil_laws" ["setting","k"] 5 (jG c PX fun g k=>[de.mG g k]):=by
 have sc:=G6;refine eV.mono (j:=4) (G.iX sc fun f cdv A outer s H vs Q E hr h=> ?_) (by decide);obtain⟨v,g,k,rfl,hg,ok,hk,kd,kk⟩:=h;have hp20:=ok.c9;refine⟨rfl,_,(dh (dW (i:=2) sc.nd (dz qC hr (c8 (dt K (dt K (pv 0) rfl) rfl) (c8 (pv 1) dc))))
   (dh (dW (i:=3) sc.nd dC)
   (dh (gN PassesOwn.never rfl (fu (pv 2)) (eZ (i:=4) sc.nd) (dk (JE (i:=3) sc.nd rfl (Or.inl rfl) (d6 (Qu K) (pv 4) dC (fun _ _=>rfl)) QS)))
   (dh (dW (i:=5) sc.nd (dz gf hr (c8 (dz dZ hr (c8 (d6 (jH K) (dt K (dt K (pv 0) rfl) rfl) (pv 1) (fun _ _=>rfl)) dc)) (c8 (dz gE hr (c8 (pv 3) dc)) dc))))
   (dh (gN PassesOwn.never rfl (fu (pv 2)) (kq K (n:=3) rfl (fA (eZ (i:=6) sc.nd) (fA (eZ (i:=7) sc.nd) (fA (eZ (i:=8) sc.nd) km)))) (dk (iM (n9 aT PySem.F.slot_list_extend PySem.F.type_list_extend yW (pv 5) (c8 (dz gf hr (c8 (dz gf hr (c8 (dz dJ hr (c8 (pv 0) (c8 (pv 6) dc))) (c8 (dt K (pv 0) rfl) dc))) (c8 (dz gE hr (c8 (eX ik (jT ie (pv 7)) (eX B4 (pv 3) (pv 8))) dc)) dc))) dc)))))
   (dk (dD (dP (c8 (pv 5) dc))))))))),?_⟩
 obtain⟨ga,gdx,gvn,gvs,gvst,gvd,gvp,rfl,hga,⟨na,ndx,nvp,rfl,hna,pa,ws,rfl,hpa,hps⟩,_⟩:=id hg;refine⟨_,rfl,dX hga O.jQ.cl (O.jQ.at_ 0 rfl) rfl (dX hna O.d8.cl (O.d8.at_ 1 rfl) rfl ⟨_,rfl,_,_,_,rfl,⟨pa,ws,rfl,hpa,hps⟩,hk,hp20,fun z H1 s1 hz=> ?_⟩)⟩;obtain⟨sa,us,rfl,hsa,hus⟩:=hz;have ll:=hus.length;have lsh:=KC g.d8.c9 k;refine⟨_,rfl,sa,rfl,⟨_,.of hsa⟩,jt (fw (K:=K) (.of hsa)) (fun i σ H'=>∃x4,σ=[some (.ref ga),some (.int (k:Int)),some (.ref sa),some (.int (de.common ((de.eQ g.d8.c9 k).take i))),x4,none,none,none,none]/\dI H1 H') ⟨none,rfl,.refl _⟩ (fun i σ H' ⟨_,_,s⟩=>s) ?_ ?_⟩
 ·rintro i x σ H2 H3 hi ⟨x4,rfl,s2⟩ s3 s23 hx;obtain⟨y,hy,t,rfl,ht⟩:=hus.mU hx;obtain⟨_,_,b1,b2,_⟩:=kd y (aB hy);refine⟨_,rfl,_,rfl,lD (.of (s3 _ _ ht)) (dQ (j:=2) rfl rfl) ⟨_,_,rfl,rfl,.of_right (intBits_le_64 (by lia) (by lia)),some (.ref t),?_,s3⟩⟩;unfold de.common;rw[a5,hy,cO];rfl
 ·rintro σ H2 ⟨x4,rfl,s2⟩;rw[ll,aG];have hg2:=hg.same (s1.trans s2);obtain⟨_,gdx2,_,_,_,_,_,e0,hga2,⟨na2,ndx2,_,rfl,hna2,pa2,ws2,rfl,hpa2,hps2⟩,_⟩:=id hg2;cases e0
  obtain⟨u,hu0,hu⟩:=hps2.kJ (dy (d:=de.p0) hk);refine⟨_,rfl,dX hga2 O.jQ.cl (O.jQ.at_ 0 rfl) rfl (dX hna2 O.d8.cl (O.d8.at_ 1 rfl) rfl ⟨_,rfl,lD (.of hpa2) (dQ (j:=k) rfl hu0) ?_⟩)⟩;refine⟨_,_,rfl,hu,fun x1 H3 s3 hx1=> ?_⟩;refine⟨_,rfl,_,rfl,fun q H4 hq s4 hq4=> ?_⟩;refine⟨_,_,_,_,rfl,toF (eY.same hx1 s4),⟨q,rfl,hq4⟩,R9 _,ay (AY _) (by decide),rd _,fun x2 H5 s5 hx2=> ?_⟩;obtain⟨la,lv,rfl,nla,hla,hlv⟩:=hx2;have s24:=(s2.trans s3).trans s4;have laH4:H4 la=none:=cN.mp nla;have laH:H la=none:=(s1.trans s24).free laH4;have laH1:H1 la=none:=s24.free laH4;have lown:Paired (lK (fP (fZ H) la) H5) lv (de.rG (de.lS (pat g k)) (de.cst (de.common (de.eQ g.d8.c9 k)))):=PV hla (hlv.fY fun _ _ q=>i4.less q (gd (s1.trans s24)));have s15:=s24.trans s5;refine⟨_,rfl,sa,rfl,⟨_,.of (s15 _ _ hsa)⟩,jt (fw (K:=K) (.of hsa)) (fun i σ H'=>∃x6 x7 x8 lv,σ=[some (.ref ga),some (.int (k:Int)),some (.ref sa),some (.int (de.common (de.eQ g.d8.c9 k))),x4,some (.ref la),x6,x7,x8]/\dI H1 H'/\H' la=some (.lst lv)/\Paired (lK (fP (fZ H) la) H') lv (de.rG (de.lS (pat g k)) (de.cst (de.common (de.eQ g.d8.c9 k))) ++ ((de.eQ g.d8.c9 k).take i).flatMap (T6 g (de.common (de.eQ g.d8.c9 k))))) ?_ (fun i σ H' ⟨_,_,_,_,_,s,_⟩=>s) ?_ ?_⟩
  ·exact⟨none,none,none,lv,rfl,s15,hla,by simpa using lown⟩
  ·rintro i x σ H6 H7 hi ⟨x6,x7,x8,lv6,rfl,s6,hla6,hlv6⟩ s7 s67 hx;obtain⟨y,hy,t,rfl,ht⟩:=hus.mU hx;obtain⟨b0,b1,b2,b3,b4⟩:=kd y (aB hy);refine⟨t,_,rfl,.of (s7 _ _ ht),rfl,_,_,rfl,_,_,rfl,_,_,rfl,rfl,?_⟩;have hla7:=s67 _ _ hla6;refine⟨_,rfl,.inl ⟨rfl,_,.of hla7⟩,?_⟩;have hg7:=hg.same (s1.trans s7);refine⟨_,rfl,_,rfl,_,_,_,rfl,hg7,b0,b1,fun y1 H8 s8 hy1=> ?_⟩;have hg8:=hg7.same s8;obtain⟨a,dx,vn,vs,vst,vd,vp,e8,ha,_,hs,_⟩:=id hg8;cases e8
   have sh:Short g.s:=by
    unfold Short;rcases ok.s with e |e <;>rw[e] <;>simp
   have lu:nH (de.rG (de.cur g y.1) g.s):=zS (PU _ _) (Me _ _) (ok.s.elim .inl fun e=> .inr (.inl e));refine⟨_,rfl,dX ha O.jQ.cl (O.jQ.at_ 1 rfl) rfl ⟨_,_,_,_,rfl,toF hy1,hs,PU _ _,ay (uG _ _) (by decide),sh,fun y2 H9 s9 hy2=> ?_⟩⟩;refine⟨_,rfl,_,rfl,_,rfl,_,rfl,_,_,rfl,rfl,⟨by lia,?_⟩,_,_,rfl,rfl,.of_left (intBits_le_64 (by lia) (by lia)),_,rfl,fun q2 H10 hq2 s10 hq10=> ?_⟩
   ·have h1:y.2.2.natAbs≠0:=by lia
    have h2:y.2.2.natAbs<2^9000:=aV (show y.2.2.natAbs<2^20 by lia) (bC (by decide) (by decide));exact(Nat.log2_lt h1).mpr h2
   refine⟨_,_,_,_,rfl,toF (eY.same hy2 s10),⟨q2,rfl,hq10⟩,lu,by rw[nP];exact ay (uG _ _) (by decide),rd _,fun y3 H11 s11 hy3=> ?_⟩;obtain⟨ya,yv,rfl,nya,hya,hyv⟩:=hy3;have s711:=((s8.trans s9).trans s10).trans s11;have hla11:=s711 _ _ hla7;have hl6:=hlv6.length;have hy3l:=hyv.length;have e1:=Mh g (de.common (de.eQ g.d8.c9 k)) y;have e2:=ux g (de.common (de.eQ g.d8.c9 k)) ((de.eQ g.d8.c9 k).take i);have e3:(de.rG (de.lS (pat g k)) (de.cst (de.common (de.eQ g.d8.c9 k)))).length<=2:=by rw[nP];exact(rf _ _).2
   rw[aA] at hl6;rw[aD] at e2;have hy3l':yv.length<=2:=by rw[hy3l];exact e1
   refine⟨la,ya,_,_,rfl,rfl,hla11,hya,dq (by lia),_,_,_,_,rfl,(s7.trans s711).over laH1,di,?_⟩;rw[sj _ _ _ _ hy,<-cA];have od:Off (fP (fZ H) la) H11 (upd H11 la (.lst (lv6 ++ yv))):=fI (.inr rfl);refine((hlv6.i5 i4 (s67.trans s711)).uB i4 od).app ?_;have hyv2:Paired (lK (fP (fZ H) la) H11) yv (T6 g (de.common (de.eQ g.d8.c9 k)) y):=hyv.fY fun _ _ q=>i4.zC q fun a ha=>by
    have sAll:dI H H10:=((((s1.trans s7).trans s8).trans s9).trans s10);rcases ha with ha |ha
    ·exact .inl (gd sAll a ha)
    ·refine .inl fun z=> ?_
     rw[ha] at z;have:=(((s8.trans s9).trans s10)) _ _ hla7;rw[z] at this;cases this
   exact hyv2.uB i4 od
  ·rintro σ H6 ⟨x6,x7,x8,lv6,rfl,s6,hla6,hlv6⟩;rw[ll,aG,<-KD] at hlv6;refine⟨_,rfl,dq (by simp),iE (s1.trans s6) ⟨la,lv6,rfl,fun z=>z laH,hla6,hlv6.NR i4⟩ kk⟩
end
noncomputable abbrev T7:=Int×List Int
noncomputable def NS (H0:Hp) (D:Addr) (qs:List Addr):Addr->Prop:=fun a=>fZ H0 a\/a=D\/a∈qs
structure NI(H0 H:Hp)(D:Addr)(qs:List Addr)(b:Nat)(tm:Nat->List T7):Prop where
 same:dI H0 H
 hD:H D=some (.lst (qs.map V.ref))
 nd:qs.Nodup
 nD:D∉qs
 d0:H0 D=none
 q0:∀q∈qs,H0 q=none
 len:∀v,(tm v).length<=b
 at_:∀v q,qs[v]? =some q->∃us,H q=some (.lst us)/\Paired (lK (NS H0 D qs) H) us (tm v)
theorem NI.grow{H0 H H':Hp}{D:Addr}{qs:List Addr}{b:Nat}{tm:Nat->List T7}(N:NI H0 H D qs b tm)(s:dI H H'):NI H0 H' D qs b tm:=
 ⟨N.same.trans s,s _ _ N.hD,N.nd,N.nD,N.d0,N.q0,N.len,fun v q hq=>let ⟨us,h1,h2⟩:=N.at_ v q hq;⟨us,s _ _ h1,h2.i5 i4 s⟩⟩
theorem NI.WJ{H0 H:Hp}{D:Addr}{qs:List Addr}{b:Nat}{tm:Nat->List T7}(N:NI H0 H D qs b tm):NQ (NS H0 D qs) H:=fun a ha z=>by
 rcases ha with ha |ha |ha
 ·exact ha (N.same.free z)
 ·rw[ha,N.hD] at z;cases z
 ·obtain⟨i,hi⟩:=List.getElem?_of_mem ha;obtain⟨us,h1,_⟩:=N.at_ i a hi;rw[h1] at z;cases z
theorem NI.push{H0 H:Hp}{D:Addr}{qs:List Addr}{b:Nat}{tm:Nat->List T7}(N:NI H0 H D qs b tm){z:Nat}{q p t:Addr}{us:List V}{x y:Int}(hz:qs[z]? =some q)(hq:H q=some (.lst us))(hp:H p=none)(ht:upd H p (.lst [.int y]) t=none):
  NI H0 (upd (upd (upd H p (.lst [.int y])) t (.tup [.int x,.ref p])) q (.lst (us ++ [.ref t]))) D qs (b+1) (fun v=>tm v ++ if v=z then[(x,[y])] else[]):=by
 have s3:=du (o:= .lst [.int y]) hp;have s4:=du (o:= .tup [.int x,.ref p]) ht;have N4:=N.grow (s3.trans s4);have np:¬NS H0 D qs p:=N.WJ.new hp;have nt:¬NS H0 D qs t:=(N.grow s3).WJ.new ht;have hqm:q∈qs:=aB hz;have od:∀o,Off (NS H0 D qs) (upd (upd H p (.lst [.int y])) t (.tup [.int x,.ref p])) (upd (upd (upd H p (.lst [.int y])) t (.tup [.int x,.ref p])) q o):=fun o=>fI (.inr (.inr hqm))
 refine⟨N4.same.over (N.q0 q hqm),?_,N.nd,N.nD,N.d0,N.q0,fun v=> ?_,fun v r hr=> ?_⟩
 ·rw[d4 fun e=>N.nD (by rw[e];exact hqm)];exact N4.hD
 ·have:=N.len v;rw[aA];split <;>simp <;>lia
 ·obtain⟨ws,h1,h2⟩:=N4.at_ v r hr;by_cases e:v=z
  ·subst e;have er:r=q:=aZ (hr.symm.trans hz);subst er;have ew:ws=us:=yf h1 (s4 _ _ (s3 _ _ hq));subst ew;rw[ah rfl];exact⟨_,di,(h2.uB i4 (od _)).iT (i4.off ⟨t,.ref p,rfl,nt,di,p,rfl,np,s4 _ _ di⟩ (od _))⟩
  ·rw[af e,bM];have hne:r≠q:=fun e2=>e (UQ N.nd hr (by rw[e2];exact hz))
   exact⟨ws,by rw[d4 hne];exact h1,h2.uB i4 (od _)⟩
noncomputable def mV (v:Int) (x:de.Part×Int):List T7:=if x.1.kind=3 then[] else
  (if x.1.a=v then[(x.2,[1])] else[]) ++ (if x.1.b=v then[(x.2,[-1])] else[]) ++
   (if x.1.kind=10 then(if x.1.c=v then[(x.2+1,[1])] else[]) ++ (if x.1.d=v then[(x.2+1,[-1])] else[]) else[])
theorem KG(n:de.Nw)(v:Int):de.iP n v=(n.c9.zip (de.places n)).flatMap (mV v):=rfl
noncomputable def G8 (n:de.Nw):Prop:=∀p∈n.c9,p.kind≠3->(0<=p.a/\p.a<=n.last)/\(0<=p.b/\p.b<=n.last)/\(p.kind=10->(0<=p.c/\p.c<=n.last)/\(0<=p.d/\p.d<=n.last))
theorem vo(z:Int)(hz:0<=z)(l:List T7):(fun v:Nat=>if v=z.toNat then l else[])=fun v:Nat=>if z=(v:Int) then l else[]:=by
 funext v;by_cases h:v=z.toNat
 ·rw[ah h,ah (by lia)]
 ·rw[af h,af (by lia)]
theorem zY{α β:Type}{F:α->β->Prop}:∀{l:List α} {m:List β},l.length=m.length->(∀(i:Nat) x y,l[i]? =some x->m[i]? =some y->F x y)->Paired F l m
 |[],[],_,_=> .nil
 |[],_::_,h,_=>by simp at h
 |_::_,[],h,_=>by simp at h
 |a::l,b::m,h,f=> .cons (f 0 a b rfl rfl) (zY (by simpa using h) fun i x y hx hy=>f (i+1) x y (by simpa using hx) (by simpa using hy))
section
variable {P:Program}{w:World}{K:PySem.W.Frag}{mg:Str->Option Value}{base:Heap}{c:Cs}
noncomputable abbrev p5:Stmt:=top 35
theorem G9:dE ["setting","sums","node","part","place"] ["setting"] (dj p5):=sco
noncomputable def yg (c:Cs):Sp:=fun vs H Q _=>∃v g,vs=[v]/\nF c H v g/\Vw g/\0<=g.d8.last/\g.d8.last<=100/\G8 g.d8/\xY H Q ((List.range g.d8.last.toNat).map fun v:Nat=>de.iP g.d8 ((v:Int)+1))
theorem Ha(T:Txt2 mg)(O:gw K c)(G:iI K mg "node_laws" p5 ["setting"]):eV P w K mg base "node_laws" ["setting"] 1 (yg c):=by
 have sc:=G9;refine G.iX sc fun f cdv A outer s H vs Q E hr h=> ?_
 obtain⟨v,g,rfl,hg,ok,n0,n1,hin,kk⟩:=h;obtain⟨ga,gdx,gvn,gvs,gvst,gvd,gvp,rfl,hga,⟨na,ndx,nvp,rfl,hna,pa,ws,rfl,hpa,hps⟩,_,_,_,⟨la,rfl,hla⟩⟩:=hg;have lps:=hps.length;have h20:=ok.c9;refine⟨rfl,_,(dh (oa (i:=1) rfl sc.nd rfl rfl (rB rfl rfl rfl rfl) (nQ rfl T.jZ (c8 (eX kn (dt K (dt K (pv 0) rfl) rfl) dC) dc)) (fm (own:=[("node",2)]) (by show lL ["setting","sums","node","part","place"] (dj p5) _ _=true;decide +kernel)) (fun _ _ _ _ _=>(eZ (i:=2) sc.nd)) (fun _ _ _ _ _=>fQ) (fun _ _ _ _ _=>(dP dc)))
   (dh (gN PassesOwn.never rfl (SU rfl T.Py (c8 (dt K (dt K (pv 0) rfl) rfl) (c8 (dt K (pv 0) rfl) dc))) (kq K (n:=2) rfl (fA (eZ (i:=3) sc.nd) (fA (eZ (i:=4) sc.nd) km))) (dh (fC (eO ji (dt K (pv 3) rfl) (gc T.iU) (eH _)) (dk Hy) eh)
   (dh (iM (n9 aT a6 a7 g7 (d6 (jH K) (pv 1) (dt K (pv 3) rfl) (fun _ _=>rfl)) (c8 (gq (c8 (pv 4) (c8 (dP (c8 dC dc)) dc))) dc)))
   (dh (iM (n9 aT a6 a7 g7 (d6 (jH K) (pv 1) (dt K (pv 3) rfl) (fun _ _=>rfl)) (c8 (gq (c8 (pv 4) (c8 (dP (c8 (jT ie dC) dc)) dc))) dc)))
   (dk (fC (eO ji (dt K (pv 3) rfl) (gc T.i9) (eH _)) (dh (iM (n9 aT a6 a7 g7 (d6 (jH K) (pv 1) (dt K (pv 3) rfl) (fun _ _=>rfl)) (c8 (gq (c8 (eX kn (pv 4) dC) (c8 (dP (c8 dC dc)) dc))) dc)))
   (dk (iM (n9 aT a6 a7 g7 (d6 (jH K) (pv 1) (dt K (pv 3) rfl) (fun _ _=>rfl)) (c8 (gq (c8 (eX kn (pv 4) dC) (c8 (dP (c8 (jT ie dC) dc)) dc))) dc))))) eh))))))
   (dk (dD (tO (UR K) (pv 1) (rA dC) F3))))),?_⟩
 refine⟨_,rfl,dX hga O.jQ.cl (O.jQ.at_ 0 rfl) rfl (dX hna O.d8.cl (O.d8.at_ 0 rfl) rfl ⟨_,_,rfl,rfl,_,rfl,by lia,by lia,fun D hD=>mX (mN H 0 _) hD (fun i H' acc=>∃qs,acc=qs.map V.ref/\qs.length=i/\qs.Nodup/\D∉qs/\(∀q∈qs,H q=none/\H' q=some (.lst []))) ⟨[],rfl,rfl,List.nodup_nil,by simp,fun _ h=>by cases h⟩ ?_ ?_⟩)⟩
 ·rintro i x H1 H2 acc hi s1 hD1 ⟨qs,rfl,hql,hnd,hDq,hqs⟩ s2 s12 hD2 rfl;refine⟨rfl,⟨aM _,fun p hp=> ?_⟩⟩;have s3:=du (o:= .lst []) hp;have pD:p≠D:=fun e=>by rw[e,hD2] at hp;cases hp
  have pq:p∉qs:=fun m=>by
   have:=s12 _ _ (hqs p m).2;rw[hp] at this;cases this
  refine gh hD (s2.trans s3) (s3 _ _ hD2) (by rw[lMp,hql];exact dH (by lia)) ⟨qs ++ [p],by simp,by simp[hql],?_,?_,?_⟩
  ·exact Ln hnd pq
  ·intro m;rcases aN.mp m with m |m
   ·exact hDq m
   ·exact pD ((show D=p by simpa using m).symm)
  ·intro q m;rcases aN.mp m with m |m
   ·refine⟨(hqs q m).1,?_⟩;rw[d4 fun e=>hDq (by rw[<-e];exact m)];exact s3 _ _ (s12 _ _ (hqs q m).2)
   ·have:q=p:=by simpa using m
    subst this;refine⟨s2.free hp,?_⟩;rw[d4 pD,di]
 ·rintro H1 acc s1 hD1 ⟨qs,rfl,hql,hnd,hDq,hqs⟩;have hql':qs.length=g.d8.last.toNat+1:=by rw[hql];lia
  have N0:NI H H1 D qs 0 (fun _=>[]):=⟨s1,hD1,hnd,hDq,hD,fun q m=>(hqs q m).1,fun _=>aj _,fun v q hq=>⟨[],(hqs q (aB hq)).2,.nil⟩⟩;refine⟨_,rfl,dX (s1 _ _ hga) O.jQ.cl (O.jQ.at_ 0 rfl) rfl (dX (s1 _ _ hna) O.d8.cl (O.d8.at_ 1 rfl) rfl ⟨_,rfl,dX (s1 _ _ hga) O.jQ.cl (O.jQ.at_ 4 rfl) rfl ⟨pa,la,_,_,rfl,.of (s1 _ _ hpa),.of (s1 _ _ hla),jt (SY (K:=K) (.of hpa) (.of hla) (by rw[lps,lMp,places_len])) (fun i σ H'=>∃x3 x4,σ=[some (.ref ga),some (.ref D),none,x3,x4]/\NI H H' D qs (4*i) (fun v=>((g.d8.c9.zip (de.places g.d8)).take i).flatMap (mV (v:Int)))) ⟨none,none,rfl,by simpa using N0⟩ (fun i σ H' ⟨_,_,_,N⟩=>N.same) ?_ ?_⟩⟩)⟩
  ·rintro i x σ H2 H3 hi ⟨x3,x4,rfl,N2⟩ s3 s23 ⟨t,y,z,rfl,ht,hy,hz⟩;obtain⟨p,hp,pb,pbx,rfl,hpb⟩:=hps.mU hy;obtain⟨pl,hpl,rfl⟩:=hZ hz;have ez:(g.d8.c9.zip (de.places g.d8))[i]? =some (p,pl):=by
    rw[List.getElem?_zip_eq_some];exact⟨hp,hpl⟩
   have N3:=N2.grow s23;have hi':i<g.d8.c9.length:=fU hp;refine⟨t,_,rfl,.of ht,rfl,_,_,rfl,_,_,rfl,rfl,?_⟩;have tmE:(fun v:Nat=>((g.d8.c9.zip (de.places g.d8)).take (i+1)).flatMap (mV (v:Int)))=fun v:Nat=>((g.d8.c9.zip (de.places g.d8)).take i).flatMap (mV (v:Int)) ++ mV (v:Int) (p,pl):=by
    funext v;exact sj _ _ _ _ ez
   refine⟨_,rfl,dX (s3 _ _ hpb) O.part.cl (O.part.at_ 0 rfl) rfl ⟨rfl,_,rfl,?_⟩⟩;rw[lF];by_cases h3:p.kind=3
   ·rw[ak h3];refine e7 ⟨_,_,rfl,?_⟩;rw[tmE];have e0:(fun v:Nat=>((g.d8.c9.zip (de.places g.d8)).take i).flatMap (mV (v:Int)) ++ mV (v:Int) (p,pl))=fun v:Nat=>((g.d8.c9.zip (de.places g.d8)).take i).flatMap (mV (v:Int)):=by
     funext v;unfold mV;rw[ah h3,bM]
    rw[e0];exact⟨N3.same,N3.hD,N3.nd,N3.nD,N3.d0,N3.q0,fun v=>by have:=N3.len v;lia,N3.at_⟩
   ·rw[aq h3];obtain⟨⟨a0,a1⟩,⟨b0,b1⟩,hT⟩:=hin p (aB hp) h3;refine fh ?_;obtain⟨qa,hqa⟩:∃q,qs[p.a.toNat]? =some q:=⟨_,aa (by lia)⟩;have hqaV:(qs.map V.ref)[p.a.toNat]? =some (.ref qa):=by rw[aC,hqa];rfl
    obtain⟨ua,hua,hpa'⟩:=N3.at_ _ _ hqa;have lua:=hpa'.length;have lua':=N3.len p.a.toNat;refine⟨_,rfl,_,rfl,dX (s3 _ _ hpb) O.part.cl (O.part.at_ 1 rfl) rfl (lD (.of N3.hD) (dQ (j:=p.a.toNat) (by lia) hqaV) ⟨.inl ⟨rfl,_,.of hua⟩,_,rfl,dq (by simp),fun f1 hf1=>⟨dq (by simp),fun t1 ht1=>⟨qa,_,_,rfl,rfl,du ht1 _ _ (du hf1 _ _ hua),dH (by lia),?_⟩⟩⟩)⟩;have N4:=N3.push (x:=pl) (y:=1) hqa hua hf1 ht1;generalize upd (upd (upd H3 f1 (.lst [.int 1])) t1 (.tup [.int pl,.ref f1])) qa (.lst (ua ++ [.ref t1]))=H4 at N4;obtain⟨qb,hqb⟩:∃q,qs[p.b.toNat]? =some q:=⟨_,aa (by lia)⟩;have hqbV:(qs.map V.ref)[p.b.toNat]? =some (.ref qb):=by rw[aC,hqb];rfl
    obtain⟨ub,hub,hpb'⟩:=N4.at_ _ _ hqb;have lub:=hpb'.length;have lub':=N4.len p.b.toNat;refine⟨_,rfl,_,rfl,dX (N4.same _ _ hpb) O.part.cl (O.part.at_ 2 rfl) rfl (lD (.of N4.hD) (dQ (j:=p.b.toNat) (by lia) hqbV) ⟨.inl ⟨rfl,_,.of hub⟩,_,rfl,_,rfl,dq (by simp),fun f2 hf2=>⟨dq (by simp),fun t2 ht2=>⟨qb,_,_,rfl,rfl,du ht2 _ _ (du hf2 _ _ hub),dH (by lia),?_⟩⟩⟩)⟩;have N5:=N4.push (x:=pl) (y:= -1) hqb hub hf2 ht2;generalize upd (upd (upd H4 f2 (.lst [.int (-1)])) t2 (.tup [.int pl,.ref f2])) qb (.lst (ub ++ [.ref t2]))=H5 at N5;refine⟨_,rfl,dX (N5.same _ _ hpb) O.part.cl (O.part.at_ 0 rfl) rfl ⟨rfl,_,rfl,?_⟩⟩;rw[lF];by_cases h10:p.kind=10
    ·rw[ak h10];obtain⟨⟨c0,c1⟩,⟨d0,d1⟩⟩:=hT h10;refine e7 ?_;obtain⟨qc,hqc⟩:∃q,qs[p.c.toNat]? =some q:=⟨_,aa (by lia)⟩;have hqcV:(qs.map V.ref)[p.c.toNat]? =some (.ref qc):=by rw[aC,hqc];rfl
     obtain⟨uc,huc,hpc'⟩:=N5.at_ _ _ hqc;have luc:=hpc'.length;have luc':=N5.len p.c.toNat;refine⟨_,rfl,_,rfl,dX (N5.same _ _ hpb) O.part.cl (O.part.at_ 3 rfl) rfl (lD (.of N5.hD) (dQ (j:=p.c.toNat) (by lia) hqcV) ⟨.inl ⟨rfl,_,.of huc⟩,_,rfl,_,_,rfl,rfl,dq (by simp),fun f3 hf3=>⟨dq (by simp),fun t3 ht3=>⟨qc,_,_,rfl,rfl,du ht3 _ _ (du hf3 _ _ huc),dH (by lia),?_⟩⟩⟩)⟩;have N6:=N5.push (x:=pl+1) (y:=1) hqc huc hf3 ht3;generalize upd (upd (upd H5 f3 (.lst [.int 1])) t3 (.tup [.int (pl+1),.ref f3])) qc (.lst (uc ++ [.ref t3]))=H6 at N6;obtain⟨qd,hqd⟩:∃q,qs[p.d.toNat]? =some q:=⟨_,aa (by lia)⟩;have hqdV:(qs.map V.ref)[p.d.toNat]? =some (.ref qd):=by rw[aC,hqd];rfl
     obtain⟨ud,hud,hpd'⟩:=N6.at_ _ _ hqd;have lud:=hpd'.length;have lud':=N6.len p.d.toNat;refine⟨_,rfl,_,rfl,dX (N6.same _ _ hpb) O.part.cl (O.part.at_ 4 rfl) rfl (lD (.of N6.hD) (dQ (j:=p.d.toNat) (by lia) hqdV) ⟨.inl ⟨rfl,_,.of hud⟩,_,rfl,_,_,rfl,rfl,_,rfl,dq (by simp),fun f4 hf4=>⟨dq (by simp),fun t4 ht4=>⟨qd,_,_,rfl,rfl,du ht4 _ _ (du hf4 _ _ hud),dH (by lia),_,_,rfl,?_⟩⟩⟩)⟩;have N7:=N6.push (x:=pl+1) (y:= -1) hqd hud hf4 ht4;rw[tmE];have e0:(fun v:Nat=>((g.d8.c9.zip (de.places g.d8)).take i).flatMap (mV (v:Int)) ++ mV (v:Int) (p,pl))=fun v:Nat=>(((((g.d8.c9.zip (de.places g.d8)).take i).flatMap (mV (v:Int)) ++ if v=p.a.toNat then[(pl,[1])] else[]) ++ if v=p.b.toNat then[(pl,[-1])] else[]) ++ if v=p.c.toNat then[(pl+1,[1])] else[]) ++ if v=p.d.toNat then[(pl+1,[-1])] else[]:=by
      funext v;unfold mV;rw[af h3,ah h10];have f1:=congrFun (vo p.a a0 [(pl,[1])]) v;have f2:=congrFun (vo p.b b0 [(pl,[-1])]) v;have f3:=congrFun (vo p.c c0 [(pl+1,[1])]) v;have f4:=congrFun (vo p.d d0 [(pl+1,[-1])]) v;rw[f1,f2,f3,f4];simp only[cA]
     rw[e0];exact N7
    ·rw[aq h10];refine fh ⟨_,_,rfl,?_⟩;rw[tmE];have e0:(fun v:Nat=>((g.d8.c9.zip (de.places g.d8)).take i).flatMap (mV (v:Int)) ++ mV (v:Int) (p,pl))=fun v:Nat=>(((g.d8.c9.zip (de.places g.d8)).take i).flatMap (mV (v:Int)) ++ if v=p.a.toNat then[(pl,[1])] else[]) ++ if v=p.b.toNat then[(pl,[-1])] else[]:=by
      funext v;unfold mV;rw[af h3,af h10];have f1:=congrFun (vo p.a a0 [(pl,[1])]) v;have f2:=congrFun (vo p.b b0 [(pl,[-1])]) v;rw[f1,f2];simp only[cA,bM]
     rw[e0];exact⟨N5.same,N5.hD,N5.nd,N5.nD,N5.d0,N5.q0,fun v=>by have:=N5.len v;lia,N5.at_⟩
  ·rintro σ H2 ⟨x3,x4,rfl,N2⟩;rw[lps,show(g.d8.c9.zip (de.places g.d8)).take g.d8.c9.length=g.d8.c9.zip (de.places g.d8) from bo (by rw[List.length_zip,places_len];lia)] at N2;refine⟨_,rfl,_,rfl,D,_,rfl,.of N2.hD,fun r hr'=> ?_⟩;have s9:=du (o:= .lst (vP (qs.map V.ref) (some 1) none)) hr';refine kk _ _ (N2.same.trans s9) ⟨r,_,rfl,fun z=>z (N2.same.free hr'),di,?_⟩;have ec:vP (qs.map V.ref) (some 1) none=(qs.map V.ref).drop 1:=by
    unfold vP;have e1:HT.D7 (qs.map V.ref).length 0 (some 1)=1:=by
     show HT.D7 (qs.map V.ref).length 0 (some ((1:Nat):Int))=1;rw[HT.rz,lMp];lia
    rw[e1,HT.Oo];exact bo (by rw[bE];exact aj _)
   rw[ec] at s9⊢;refine zY (by simp;lia) fun i x y hx hy=> ?_
   rw[List.getElem?_drop,aC] at hx;rw[aC] at hy;have hiN:i<g.d8.last.toNat:=by
    cases e:(List.range g.d8.last.toNat)[i]? with
    |none=>rw[e] at hy;cases hy
    |some j=>
     have:=fU e;simpa using this
   rw[bF hiN] at hy;have ey:de.iP g.d8 ((i:Int)+1)=y:=aZ hy;cases e:qs[1+i]? with
   |none=>rw[e] at hx;cases hx
   |some q=>
    rw[e] at hx;have ex:V.ref q=x:=aZ hx;subst ex;obtain⟨us,h1,h2⟩:=N2.at_ _ _ e;refine⟨q,us,rfl,fun z=>z (N2.q0 q (aB e)),s9 _ _ h1,?_⟩;rw[<-ey,KG];have ei:((1+i:Nat):Int)=(i:Int)+1:=by lia
    rw[ei] at h2;exact(h2.fY fun _ _ q=>i4.less q fun a ha=> .inl ha).i5 i4 s9
end
structure Mi(g:de.lJ)(k:Nat):Prop where
 kind:0<=(pat g k).kind/\(pat g k).kind<=13
 Wf:(pat g k).kind=2->PX g k
 ref:(pat g k).kind=8\/(pat g k).kind=9->Wd g k
structure PY(g:de.lJ):Prop where
 w0:0<=de.width g.d8
 w1:de.width g.d8<1000
 terms:∀ts∈de.gV g,∀t∈ts,0<=t.1/\t.1<=de.width g.d8/\t.2.length<=1000
 cnt:(de.gV g).length<=1000
section
variable {P:Program}{w:World}{K:PySem.W.Frag}{mg:Str->Option Value}{base:Heap}{c:Cs}
noncomputable abbrev PZ (c:Cs) (i:Nat):Sp:=jG c (fun g k=>(pat g k).kind=(i:Int)/\Mi g k) (fun g k=>de.fT g k)
structure P0(P:Program)(w:World)(K:PySem.W.Frag)(mg:Str->Option Value)(base:Heap)(c:Cs)(ta:Addr)(fs:List Addr):Prop where
 hm:mg "LAWS_OF_KIND"=some (.ref ta)
 tup:∀H:Hp,BX K H ta (fs.map V.ref)
 fn:∀i,i<14->∃f fd,fs[i]? =some f/\qk P w K mg base JQ 5 f fd ["setting","k"] (PZ c i)/\PySem.W.keepIn K (.ref f)=true/\Binds K fd ["setting","k"] []
noncomputable abbrev sk:Stmt:=top 59
theorem IW:dE ["setting","laws","k","part","law"] ["setting"] (dj sk):=sco
noncomputable def uJ (c:Cs):Sp:=fun vs H Q _=>∃v g,vs=[v]/\nF c H v g/\Vw g/\0<=g.d8.last/\g.d8.last<=100/\G8 g.d8/\(∀k,k<g.d8.c9.length->Mi g k)/\PY g/\∀z H',dI H H'->PJ (fZ H) H' z (de.rows g)->Q z H'
theorem IX{ta:Addr}{fs:List Addr}(T:Txt2 mg)(O:gw K c)(L:P0 P w K mg base c ta fs)(uK:eV P w K mg base "node_laws" ["setting"] 1 (yg c))(Ds:eV P w K mg base "row_of" ["terms","width"] 3 FI)(G:iI K mg "law_rows" sk ["setting"]):eV P w K mg base "law_rows" ["setting"] 6 (uJ c):=by
 have sc:=IW;refine G.iX sc fun f cdv A outer s H vs Q E hr h=> ?_
 obtain⟨v,g,rfl,hg,ok,n0,n1,hin,hlw,R,kk⟩:=h;have hLK:=L.hm;have h20:=ok.c9;refine⟨rfl,_,(dh (dW (i:=1) sc.nd (dz uK hr (c8 (pv 0) dc)))
   (dh (gN PassesOwn.never rfl (rC rfl T.hX (c8 (dt K (dt K (pv 0) rfl) rfl) dc)) (kq K (n:=2) rfl (fA (eZ (i:=2) sc.nd) (fA (eZ (i:=3) sc.nd) km))) (dk (iM (n9 aT PySem.F.slot_list_extend PySem.F.type_list_extend yW (pv 1) (c8 (QR (d6 (Qu K) (K8 (v:= .ref ta) rfl hLK rfl) (dt K (pv 3) rfl) (fun _ _=>rfl)) (by rfl) (c8 (pv 0) (c8 (pv 2) dc))) dc)))))
   (dk (dD (lH rfl sc.nd (fu (pv 1)) (fm (own:=[("law",4)]) (by show lL ["setting","laws","k","part","law"] (dj sk) _ _=true;decide +kernel)) (fun _ _ _ _ _=>(eZ (i:=4) sc.nd)) (fun _ _ _ _ _=>fQ) (fun _ _ _ _ _=>(dz Ds hr (c8 (pv 4) (c8 (dt K (pv 0) rfl) dc))))))))),?_⟩
 refine⟨_,rfl,_,g,rfl,hg,ok,n0,n1,hin,fun z H1 s1 hz=> ?_⟩;obtain⟨p0,us,rfl,np0,hp0,hus⟩:=hz;have p0H:H p0=none:=cN.mp np0;have hus0:=Rw hp0 hus;obtain⟨ga,gdx,gvn,gvs,gvst,gvd,gvp,rfl,hga,⟨na,ndx,nvp,rfl,hna,pa,ws,rfl,hpa,hps⟩,hgr⟩:=id hg;have lps:=hps.length;refine⟨_,rfl,dX (s1 _ _ hga) O.jQ.cl (O.jQ.at_ 0 rfl) rfl (dX (s1 _ _ hna) O.d8.cl (O.d8.at_ 1 rfl) rfl ⟨pa,_,rfl,.of (s1 _ _ hpa),jt (rD (K:=K) (.of hpa)) (fun i σ H'=>∃x2 x3 us,σ=[some (.ref ga),some (.ref p0),x2,x3,none]/\dI H H'/\H' p0=some (.lst us)/\Paired (rS (fP (fZ H) p0) H') us ((List.range g.d8.last.toNat).map (fun v:Nat=>de.iP g.d8 ((v:Int)+1)) ++ (List.range i).flatMap fun k=>de.fT g k)) ⟨none,none,us,rfl,s1,hp0,by simpa using hus0⟩ (fun i σ H' ⟨_,_,_,_,s,_⟩=>s) ?_ ?_⟩)⟩
 ·rintro i x σ H2 H3 hi ⟨x2,x3,us2,rfl,s2,hp2,hus2⟩ s3 s23 ⟨t,y,rfl,ht,hy⟩;obtain⟨p,hp,pb,pbx,rfl,hpb⟩:=hps.mU hy;have hi':i<g.d8.c9.length:=fU hp;have ep:pat g i=p:=by
   show g.d8.c9.getD i de.p0=p;rw[gDe,hp];rfl
  have hp3:=s23 _ _ hp2;have LI:=hlw i hi';obtain⟨kl,ku⟩:=LI.kind;rw[ep] at kl ku;refine⟨t,_,rfl,.of ht,rfl,_,_,rfl,_,_,rfl,rfl,?_⟩;refine⟨_,rfl,.inl ⟨rfl,_,.of hp3⟩,?_⟩;obtain⟨f1,fd1,hf1,F1,kp1,b1⟩:=L.fn p.kind.toNat (by lia);have hf1':(fs.map V.ref)[p.kind.toNat]? =some (.ref f1):=by rw[aC,hf1];rfl
  refine⟨_,rfl,dX (s3 _ _ hpb) O.part.cl (O.part.at_ 0 rfl) rfl (lD (L.tup _) (dQ (j:=p.kind.toNat) (by lia) hf1') ?_)⟩;refine⟨f1,fd1,_,_,_,rfl,F1,hr.mono (by decide),kp1,b1,_,rfl,_,rfl,_,g,i,rfl,hg.same s3,ok,hi',⟨by rw[ep];lia,LI⟩,fun z H4 s4 hz=> ?_⟩;obtain⟨za,zv,rfl,nz,hza,hzv⟩:=hz;have hp4:=s4 _ _ hp3;have lz:zv.length=(de.fT g i).length:=hzv.length;have l2:=hus2.length;have cnt:=R.cnt;have lsum:(List.map (fun v:Nat=>de.iP g.d8 ((v:Int)+1)) (List.range g.d8.last.toNat)).length+(((List.range i).flatMap fun k=>de.fT g k).length+(de.fT g i).length)<=1000:=by
   refine ay ?_ cnt;unfold de.gV;rw[aA];refine Nat.add_le_add_left ?_ _;have e:(List.range (i+1)).flatMap (fun k=>de.fT g k)=(List.range i).flatMap (fun k=>de.fT g k) ++ de.fT g i:=by
    rw[bZ,bU];simp
   rw[<-aA,<-e];have e2:∀m,((List.range (i+1)).flatMap fun k=>de.fT g k).length<=((List.range (i+1+m)).flatMap fun k=>de.fT g k).length:=by
    intro m;induction m with
    |zero=>exact aj _
    |succ m ih=>
     have e4:(List.range (i+1+(m+1))).flatMap (fun k=>de.fT g k)=(List.range (i+1+m)).flatMap (fun k=>de.fT g k) ++ de.fT g (i+1+m):=by
      rw[<-Nat.add_assoc,bZ,bU];simp
     rw[e4,aA];lia
   have:=e2 (g.d8.c9.length - (i+1));have e3:i+1+(g.d8.c9.length - (i+1))=g.d8.c9.length:=by lia
   rwa [e3] at this
  refine⟨p0,za,_,_,rfl,rfl,hp4,hza,dq (by rw[l2,lz,aA];lia),_,_,_,rfl,(s3.trans s4).over p0H,di,?_⟩;have od:Off (fP (fZ H) p0) H4 (upd H4 p0 (.lst (us2 ++ zv))):=fI (.inr rfl);rw[bZ,bU,<-cA];refine((hus2.i5 eY (s23.trans s4)).uB eY od).app ?_;have hzv2:Paired (rS (fP (fZ H) p0) H4) zv ([i].flatMap fun k=>de.fT g k):=by
   rw[List.flatMap_singleton];refine hzv.fY fun _ _ q=>eY.zC q fun a ha=> ?_
   rcases ha with ha |ha
   ·exact .inl (gd s3 a ha)
   ·refine .inl fun z=> ?_
    rw[ha,hp3] at z;cases z
  exact hzv2.uB eY od
 ·rintro σ H2 ⟨x2,x3,us2,rfl,s2,hp2,hus2⟩;rw[lps] at hus2;change Paired (rS (fP (fZ H) p0) H2) us2 (de.gV g) at hus2;have l2:=hus2.length;have cnt:=R.cnt;refine⟨_,rfl,p0,rfl,⟨_,.of hp2⟩,fun D hD=>mX (fw (.of hp2)) hD (fun i H' acc=>Paired (uA (fP (fZ H) D) H') acc (((de.gV g).take i).map (de.rowOf (de.width g.d8)))) .nil ?_ ?_⟩
  ·rintro i x H3 H4 acc hi s3 hD3 hacc s4 s34 hD4 hx;obtain⟨ts,hts,tt⟩:=hus2.mU hx;have lacc:=hacc.length;refine⟨rfl,⟨_,rfl,_,rfl,dX (s4 _ _ (s2 _ _ hga)) O.jQ.cl (O.jQ.at_ 5 rfl) rfl ⟨_,ts,_,rfl,toF (eY.same tt s4),R.w0,R.w1,R.terms ts (aB hts),fun z H5 s5 hz=> ?_⟩⟩⟩;have hz2:uA (fP (fZ H) D) H5 z (de.rowOf (de.width g.d8) ts):=fk.zC hz fun a ha=>by
    rcases ha with ha |ha
    ·exact .inl (gd (s2.trans s4) a ha)
    ·refine .inl fun y=> ?_
     rw[ha,hD4] at y;cases y
   refine gh hD (s4.trans s5) (s5 _ _ hD4) ?_ ?_
   ·rw[lacc,lMp,aD];exact dH (by lia)
   ·rw[d9 _ _ _ _ hts];exact((hacc.i5 fk (s34.trans s5)).uB fk (fI (.inr rfl))).iT (fk.off hz2 (fI (.inr rfl)))
  ·intro H3 acc s3 hD3 hacc;rw[l2,aG] at hacc;exact kk _ H3 (s2.trans s3) ⟨D,acc,rfl,fun z=>z (s2.free hD),hD3,hacc.NR fk⟩
end
structure Hb(K:PySem.W.Frag)(mg:Str->Option Value)(x qual:Str)(C:Addr)(st:Stmt)(ps:List Str):Prop where
 ex:∃(f:Addr) (fd:FuncData),mg x=some (.ref C)/\Mk K C f/\SV K "__init__" qual st f fd/\Binds K fd ps []
structure KH(P:Program)(w:World)(K:PySem.W.Frag)(mg:Str->Option Value)(base:Heap)(x:Str)(C:Addr)(ps:List Str)(k:Nat)(sp:Sp):Prop where
 ex:∃(f:Addr) (fd:FuncData),mg x=some (.ref C)/\Mk K C f/\qk P w K mg base JQ k f fd ps sp/\Binds K fd ps []
theorem Hb.Vg{P:Program}{w:World}{K:PySem.W.Frag}{mg:Str->Option Value}{base:Heap}{x qual:Str}{C:Addr}{st:Stmt}{N ps:List Str}{k:Nat}{sp:Sp}(G:Hb K mg x qual C st ps)(S:dE N ps (dj st))
  (h:∀(f:Addr) (cdv:Value) (A:Around) (outer:List Env) (s:Shared) (H:Hp) (vs:List V) (Q:VK) (E:XK),ko k (A.deeper (envOfC qual (dj st) s.heap.objs.size f cdv))->sp vs H Q E->
   vs.length=ps.length/\∃t,Jz (D6 JQ P w K mg base N qual (dj st) f cdv A outer s H E).RO (iO st) t/\t {nx:=fun _ H'=>Q .jS H',rt:=Q} (L2.start N vs) H) (hk:k<=99:=by decide):KH P w K mg base x C ps (k+1) sp:=by
 obtain⟨f,fd,hm,M,F,hb⟩:=G.ex;exact⟨f,fd,hm,M,F.ok S (fun vs H Q E q=>(h 0 .none {} [] {} H vs Q E (RW hk _) q).1) (fun cdv A outer s H vs Q E hr hsp=>(h f cdv A outer s H vs Q E hr hsp).2),hb⟩
theorem AZ{X:Cx}{k:Nat}{x:Str}{C:Addr}{ps:List Str}{sp:Sp}{e:Expr}{es:List Expr}{t:TA}{p pos:Pos}{j:Nat}(m:KH X.prog X.w X.K X.mg X.base x C ps k sp)(hr:ko j X.A)(ha:PA X (e::es) t)(hk:k+1<=j:=by decide)(hg:Gl X x:=by rfl)
  (hdb:(x==("__debug__":Str))=false:=by decide) (he:starEach (e::es) X.env=(false,eval e X.env)::starEach es X.env:=by rfl) (hpl:(backTo pos (starEach es X.env)).any (·.1)=false:=by rfl):
  PE X (.Call (.Name x p) (e::es) [] pos) (RT C sp [] E0 t):=by
 obtain⟨f,fd,hm,M,F,hb⟩:=m.ex;exact QH M F (hr.mono hk) hg hm hb .nil Oy ha hdb he hpl
noncomputable def Hc (C:Addr) (x dx:Addr) (H:Hp) (Q:VK) (fs:List (Str×V)):Prop:=∀H',(∀b o,H b=some o->b≠x->H' b=some o)->H' x=some (.ins C dx fs)->Q .jS H'
section
variable {P:Program}{w:World}{K:PySem.W.Frag}{mg:Str->Option Value}{base:Heap}{c:Cs}
noncomputable abbrev nj:Stmt:=inClass (top 82) 0
theorem zZ:dE ["self","determinant","tops"] ["self","determinant","tops"] (dj nj):=sco
noncomputable def yh (C:Addr):Sp:=fun vs H Q _=>∃x dx d t,vs=[.ref x,d,t]/\H x=some (.ins C dx [])/\Hc C x dx H Q (Ve d t)
theorem IY{C:Addr}(O:zQ K C ["determinant","tops"])(G:Hb K mg "Solution" "Solution.__init__" C nj ["self","determinant","tops"]):KH P w K mg base "Solution" C ["self","determinant","tops"] 1 (yh C):=by
 have sc:=zZ;refine G.Vg sc fun f cdv A outer s H vs Q E hr h=> ?_
 obtain⟨x,dx,d,t,rfl,hx,k⟩:=h;refine⟨rfl,_,(dh (iN (pv 0) (pv 1) rfl)
   (dk (iN (pv 0) (pv 2) rfl))),?_⟩
 refine⟨_,rfl,_,rfl,x,C,dx,_,rfl,hx,O.cl,O.at_ 0 rfl,(by show 0<1000;decide),?_⟩;refine⟨_,rfl,_,rfl,x,C,dx,_,rfl,di,O.cl,O.at_ 1 rfl,(by show 1<1000;decide),?_⟩;exact k _ (fun b o e hb=>by rw[d4 hb,d4 hb];exact e) di
noncomputable abbrev je:Stmt:=inClass (top 88) 0
theorem sr:dE ["self","states","solution"] ["self","states","solution"] (dj je):=sco
noncomputable def oO (C:Addr):Sp:=fun vs H Q _=>∃x dx d t,vs=[.ref x,d,t]/\H x=some (.ins C dx [])/\Hc C x dx H Q (WI d t)
theorem yi{C:Addr}(O:zQ K C ["states","solution"])(G:Hb K mg "OperatingPoint" "OperatingPoint.__init__" C je ["self","states","solution"]):KH P w K mg base "OperatingPoint" C ["self","states","solution"] 1 (oO C):=by
 have sc:=sr;refine G.Vg sc fun f cdv A outer s H vs Q E hr h=> ?_
 obtain⟨x,dx,d,t,rfl,hx,k⟩:=h;refine⟨rfl,_,(dh (iN (pv 0) (pv 1) rfl)
   (dk (iN (pv 0) (pv 2) rfl))),?_⟩
 refine⟨_,rfl,_,rfl,x,C,dx,_,rfl,hx,O.cl,O.at_ 0 rfl,(by show 0<1000;decide),?_⟩;refine⟨_,rfl,_,rfl,x,C,dx,_,rfl,di,O.cl,O.at_ 1 rfl,(by show 1<1000;decide),?_⟩;exact k _ (fun b o e hb=>by rw[d4 hb,d4 hb];exact e) di
noncomputable abbrev oP:Stmt:=inClass (top 106) 0
theorem Bf:dE ["self","last_node","parts"] ["self","last_node","parts"] (dj oP):=sco
noncomputable def uL (C:Addr):Sp:=fun vs H Q _=>∃x dx n t,vs=[.ref x,.int n,t]/\H x=some (.ins C dx [])/\Hc C x dx H Q (Vd n t)
theorem KI{C:Addr}(O:zQ K C ["last_node","parts"])(G:Hb K mg "Network" "Network.__init__" C oP ["self","last_node","parts"]):KH P w K mg base "Network" C ["self","last_node","parts"] 1 (uL C):=by
 have sc:=Bf;refine G.Vg sc fun f cdv A outer s H vs Q E hr h=> ?_
 obtain⟨x,dx,d,t,rfl,hx,k⟩:=h;refine⟨rfl,_,(dh (iN (pv 0) (pv 1) rfl)
   (dk (iN (pv 0) (pv 2) rfl))),?_⟩
 refine⟨_,rfl,_,rfl,x,C,dx,_,rfl,hx,O.cl,O.at_ 0 rfl,(by show 0<1000;decide),?_⟩;refine⟨_,rfl,_,rfl,x,C,dx,_,rfl,di,O.cl,O.at_ 1 rfl,(by show 1<1000;decide),?_⟩;exact k _ (fun b o e hb=>by rw[d4 hb,d4 hb];exact e) di
noncomputable abbrev uM:Stmt:=inClass (top 105) 0
theorem Hd:dE ["self","numbers"] ["self","numbers"] (dj uM):=sco
noncomputable def Dt (K:PySem.W.Frag) (C:Addr):Sp:=fun vs H Q _=>∃x dx a l,vs=[.ref x,.ref a]/\H x=some (.ins C dx [])/\H a=some (.lst (l.map V.int))/\l.length=7/\Hc C x dx H Q (PL (de.Part.of l))
theorem Rz{C:Addr}(O:zQ K C ["kind","a","b","c","d","top","bottom"])(G:Hb K mg "Part" "Part.__init__" C uM ["self","numbers"]):KH P w K mg base "Part" C ["self","numbers"] 1 (Dt K C):=by
 have sc:=Hd;refine G.Vg sc fun f cdv A outer s H vs Q E hr h=> ?_
 obtain⟨x,dx,a,l,rfl,hx,ha,hl,k⟩:=h;have ne:a≠x:=Hu ha hx (by intro z;cases z);refine⟨rfl,_,(dh (iN (pv 0) (d6 (jH K) (pv 1) dC (fun _ _=>rfl)) rfl)
   (dh (iN (pv 0) (d6 (jH K) (pv 1) dC (fun _ _=>rfl)) rfl)
   (dh (iN (pv 0) (d6 (jH K) (pv 1) dC (fun _ _=>rfl)) rfl)
   (dh (iN (pv 0) (d6 (jH K) (pv 1) dC (fun _ _=>rfl)) rfl)
   (dh (iN (pv 0) (d6 (jH K) (pv 1) dC (fun _ _=>rfl)) rfl)
   (dh (iN (pv 0) (d6 (jH K) (pv 1) dC (fun _ _=>rfl)) rfl)
   (dk (iN (pv 0) (d6 (jH K) (pv 1) dC (fun _ _=>rfl)) rfl)))))))),?_⟩
 refine⟨_,rfl,a,_,_,_,rfl,rfl,.of ha,dQ (j:=0) rfl (ju (by lia)),_,rfl,x,C,dx,_,rfl,hx,O.cl,O.at_ 0 rfl,(by show 0<1000;decide),?_⟩;refine⟨_,rfl,a,_,_,_,rfl,rfl,.of (by rw[d4 ne];exact ha),dQ (j:=1) rfl (ju (by lia)),_,rfl,x,C,dx,_,rfl,di,O.cl,O.at_ 1 rfl,(by show 1<1000;decide),?_⟩;rw[mF];refine⟨_,rfl,a,_,_,_,rfl,rfl,.of (by rw[d4 ne];exact ha),dQ (j:=2) rfl (ju (by lia)),_,rfl,x,C,dx,_,rfl,di,O.cl,O.at_ 2 rfl,(by show 2<1000;decide),?_⟩;rw[mF];refine⟨_,rfl,a,_,_,_,rfl,rfl,.of (by rw[d4 ne];exact ha),dQ (j:=3) rfl (ju (by lia)),_,rfl,x,C,dx,_,rfl,di,O.cl,O.at_ 3 rfl,(by show 3<1000;decide),?_⟩;rw[mF];refine⟨_,rfl,a,_,_,_,rfl,rfl,.of (by rw[d4 ne];exact ha),dQ (j:=4) rfl (ju (by lia)),_,rfl,x,C,dx,_,rfl,di,O.cl,O.at_ 4 rfl,(by show 4<1000;decide),?_⟩;rw[mF];refine⟨_,rfl,a,_,_,_,rfl,rfl,.of (by rw[d4 ne];exact ha),dQ (j:=5) rfl (ju (by lia)),_,rfl,x,C,dx,_,rfl,di,O.cl,O.at_ 5 rfl,(by show 5<1000;decide),?_⟩;rw[mF];refine⟨_,rfl,a,_,_,_,rfl,rfl,.of (by rw[d4 ne];exact ha),dQ (j:=6) rfl (ju (by lia)),_,rfl,x,C,dx,_,rfl,di,O.cl,O.at_ 6 rfl,(by show 6<1000;decide),?_⟩;rw[mF];exact k _ (fun b o e hb=>by rw[d4 hb];exact e) di
noncomputable abbrev oQ:Stmt:=inClass (top 30) 0
theorem Bg:dE ["self","network","s","states","drives"] ["self","network","s","states","drives"] (dj oQ):=sco
noncomputable def uN (c:Cs):Sp:=fun vs H Q _=>∃H0 x dx vn vs' vst vd g,vs=[.ref x,vn,vs',vst,vd]/\H x=some (.ins c.jQ dx [])/\dI H0 H/\H0 x=none/\nE c H0 vn g.d8/\fD H0 vs' g.s/\vG H0 vst g.gI/\Dc H0 vd g.drives/\g.d8.c9.length<=1000/\∀H',dI H0 H'->nF c H' (.ref x) g->Q .jS H'
theorem KJ(O:gw K c)(mj:eV P w K mg base "current_places" ["network"] 2 (p4 c))(qD:eV P w K mg base "unknowns_of" ["network"] 2 (uF c))(G:Hb K mg "Setting" "Setting.__init__" c.jQ oQ ["self","network","s","states","drives"]):KH P w K mg base "Setting" c.jQ ["self","network","s","states","drives"] 3 (uN c):=by
 have sc:=Bg;refine G.Vg sc fun f cdv A outer s H vs Q E hr h=> ?_
 obtain⟨H0,x,dx,vn,vs',vst,vd,g,rfl,hx,s0,hx0,hn,hs,hst,hd,hl,k⟩:=h;refine⟨rfl,_,(dh (iN (pv 0) (pv 1) rfl)
   (dh (iN (pv 0) (pv 2) rfl)
   (dh (iN (pv 0) (pv 3) rfl)
   (dh (iN (pv 0) (pv 4) rfl)
   (dh (iN (pv 0) (dz mj hr (c8 (pv 1) dc)) rfl)
   (dk (iN (pv 0) (dz qD hr (c8 (pv 1) dc)) rfl))))))),?_⟩
 refine⟨_,rfl,_,rfl,x,c.jQ,dx,_,rfl,hx,O.jQ.cl,O.jQ.at_ 0 rfl,(by show 0<1000;decide),?_⟩;refine⟨_,rfl,_,rfl,x,c.jQ,dx,_,rfl,di,O.jQ.cl,O.jQ.at_ 1 rfl,(by show 1<1000;decide),?_⟩;rw[mF];refine⟨_,rfl,_,rfl,x,c.jQ,dx,_,rfl,di,O.jQ.cl,O.jQ.at_ 2 rfl,(by show 2<1000;decide),?_⟩;rw[mF];refine⟨_,rfl,_,rfl,x,c.jQ,dx,_,rfl,di,O.jQ.cl,O.jQ.at_ 3 rfl,(by show 3<1000;decide),?_⟩;rw[mF];have s1:∀o,dI H0 (upd H x o):=fun o=>s0.over hx0
 refine⟨_,rfl,_,_,rfl,hn.same (s1 _),hl,fun p H1 hp s2 hp1=> ?_⟩;have x1:=s2 _ _ di;refine⟨_,rfl,x,c.jQ,dx,_,rfl,x1,O.jQ.cl,O.jQ.at_ 4 rfl,(by show 4<1000;decide),?_⟩;have px:p≠x:=fun e=>by rw[e,di] at hp;cases hp
 have s3:∀o,dI H0 (upd H1 x o):=fun o=>((s1 _).trans s2).over hx0
 refine⟨_,rfl,_,_,rfl,hn.same (s3 _),hl,fun H2 s4=> ?_⟩;have x2:=s4 _ _ di;refine⟨_,rfl,x,c.jQ,dx,_,rfl,x2,O.jQ.cl,O.jQ.at_ 5 rfl,(by show 5<1000;decide),?_⟩;have s5:∀o,dI H0 (upd H2 x o):=fun o=>((s3 _).trans s4).over hx0
 refine k _ (s5 _) ⟨x,dx,vn,vs',vst,vd,.ref p,rfl,di,hn.same (s5 _),hs.same (s5 _),hst.same (s5 _),hd.same (s5 _),p,rfl,?_⟩;rw[d4 px];exact s4 _ _ (by rw[d4 px];exact hp1)
end
noncomputable abbrev FF:Addr->Prop:=fun _=>False
structure Tr(bk rj rk bj before:List Int):Prop where
 s1:bk.length<100000
 s2:rj.length<100000
 s3:rk.length<100000
 s4:bj.length<100000
 s5:before.length<100000
 m1:∀x∈bk,∀y∈rj,IntMulOk x y
 m2:∀x∈rk,∀y∈bj,IntMulOk x y
 tb:de.Trim before
 nb:before≠[]
 lb:(de.lc before).natAbs.log2<9000
 ex:∃m,de.Trim m/\de.dG (de.uh (de.gX bk rj) (de.gX rk bj))=de.dG m*de.dG before/\∀x∈m,∀y∈before,IntMulOk x y
noncomputable def Qa (row by_:List (List Int)) (k:Nat) (before:List Int):Prop:=∀j,k<j->j<row.length->Tr (by_.getD k []) (row.getD j []) (row.getD k []) (by_.getD j []) before
theorem A0(l r:List Int):(de.gX l r).length<=l.length+r.length:=by
 by_cases h:l=[]\/r=[]
 ·unfold de.gX;rw[ah h];simp
 ·have h1:l≠[]:=fun e=>h (.inl e)
  have h2:r≠[]:=fun e=>h (.inr e)
  rw[de.xr h1 h2];lia
theorem IZ(l r:List Int):(de.uh l r).length<=max l.length r.length:=by
 unfold de.uh de.Ce;refine ay (de.Gm _) ?_;rw[de.jw,de.xq];exact aj _
section
variable {P:Program}{w:World}{K:PySem.W.Frag}{mg:Str->Option Value}{base:Heap}{c:Cs}
noncomputable abbrev kN:Stmt:=top 84
theorem wG:dE ["table","k","place"] ["table","k"] (dj kN):=sco
noncomputable def W2:Option Nat->V
 |none=> .jS
 |some c=> .int (c:Int)
noncomputable def oR:Sp:=fun vs H Q _=>∃v t k,vs=[v,.int ((k:Nat):Int)]/\PJ FF H v t/\k<=t.length/\t.length<=1000/\(∀r∈t,k<r.length)/\∀H',dI H H'->Q (W2 (de.oe t k (t.length - k))) H'
theorem wH(T:Txt2 mg)(G:iI K mg "row_to_solve_by" kN ["table","k"]):eV P w K mg base "row_to_solve_by" ["table","k"] 1 oR:=by
 have sc:=wG;refine G.iX sc fun f cdv A outer s H vs Q E hr h=> ?_
 obtain⟨v,t,k,rfl,⟨a,us,rfl,_,ha,hus⟩,hk,hl,hrow,kk⟩:=h;have ll:=hus.length;refine⟨rfl,_,(dh (gN PassesOwn.never rfl (EI rfl T.jZ (c8 (pv 1) (c8 (dY (eJ K) rfl T.gR d7 (c8 (pv 0) dc)) dc))) (eZ (i:=2) sc.nd) (dk (fC (fc K (d6 (jH K) (d6 (jH K) (pv 0) (pv 2) (fun _ _=>rfl)) (pv 1) (fun _ _=>rfl)) (fun _=>rfl)) (dk (dD (pv 2))) eh)))
   (dk (dD JA))),?_⟩
 refine⟨_,rfl,_,rfl,a,_,rfl,.inl (.of ha),_,_,rfl,⟨by lia,by lia,by lia,by lia⟩,?_⟩;have en:((us.length:Int) - (k:Int)).toNat=t.length - k:=by lia
 rw[en];refine jt (mN H _ _) (fun i σ H'=>∃x2,σ=[some (.ref a),some (.int (k:Int)),x2]/\dI H H'/\i<=t.length - k/\de.oe t k (t.length - k)=de.oe t k (t.length - k - i)) ⟨none,rfl,.refl _,aM _,rfl⟩ (fun i σ H' ⟨_,_,s,_⟩=>s) ?_ ?_
 ·rintro i x σ H1 H2 hi ⟨x2,rfl,s1,hi2,hpv⟩ s2 s12 rfl;obtain⟨m,em⟩:∃m,t.length - k - i=m+1:=⟨t.length - k - i - 1,by lia⟩;have epl:t.length - (m+1)=k+i:=by lia
  obtain⟨u,hu,ra,rv,rfl,_,hra,hrv⟩:=hus.kJ (dy (d:=[]) (show k+i<t.length by lia));have hkr:=hrow _ (aB (dy (d:=[]) (show k+i<t.length by lia)));obtain⟨q,hq,qa,rfl,_,hqa⟩:=hrv.kJ (dy (d:=[]) hkr);refine⟨_,rfl,_,rfl,lD (.of (s2 _ _ ha)) (dQ (j:=k+i) (by lia) hu) ⟨_,rfl,lD (.of (s2 _ _ hra)) (dQ (j:=k) rfl hq) ⟨_,Eg (s2 _ _ hqa),?_⟩⟩⟩;rw[em,show de.oe t k (m+1)=(if(t.getD (t.length - (m+1)) []).getD k []≠[] then some (t.length - (m+1)) else de.oe t k m) from rfl,epl] at hpv;by_cases h0:(t.getD (k+i) []).getD k []=[]
  ·rw[h0] at hpv⊢;rw[af (by simp)] at hpv;refine fh ⟨_,rfl,s2,by lia,?_⟩;have e2:t.length - k - (i+1)=m:=by lia
   rw[e2];exact hpv
  ·rw[iS h0];rw[ah h0] at hpv;refine e7 ⟨_,rfl,?_⟩;have q:=kk H2 s2;rw[hpv] at q;have e3:(k:Int)+(i:Nat)=((k+i:Nat):Int):=by lia
   rw[e3];exact q
 ·rintro σ H1 ⟨x2,rfl,s1,hi2,hpv⟩;have q:=kk H1 s1;rw[hpv,cj] at q;exact q
noncomputable abbrev qE:Stmt:=top 86
theorem Du:dE ["row","by","k","before","result","factor","place","kept"] ["row","by","k","before"] (dj qE):=sco
noncomputable def uO:Sp:=fun vs H Q _=>∃S v u b row by_ k before,vs=[v,u,.int ((k:Nat):Int),b]/\NQ S H/\uA S H v row/\uA S H u by_/\fD H b before/\k<row.length/\row.length=by_.length/\row.length<=1000/\Qa row by_ k before/\∀z H',dI H H'->uA S H' z (de.lN row by_ k before)->Q z H'
theorem Dv(T:Txt2 mg)(iV:eV P w K mg base "multiplied" ["left","right"] 1 qx)(gJ:eV P w K mg base "subtracted" ["left","right"] 3 mI)(l9:eV P w K mg base "divided" ["left","right"] 1 wz)(G:iI K mg "cleared_row" qE ["row","by","k","before"]):eV P w K mg base "cleared_row" ["row","by","k","before"] 4 uO:=by
 have sc:=Du;refine G.iX sc fun f cdv A outer s H vs Q E hr h=> ?_
 obtain⟨S,v,u,b,row,by_,k,before,rfl,dS,⟨ra,rv,rfl,nra,hra,hrv⟩,⟨ba,bv,rfl,nba,hba,hbv⟩,hb,hk,hlen,hl,rok,kk⟩:=h;have lr:=hrv.length;have lb:=hbv.length;refine⟨rfl,_,(dh (dW (i:=4) sc.nd (yV (vR K) rfl T.C3 tW (c8 (pv 0) dc)))
   (dh (dW (i:=5) sc.nd (d6 (jH K) (pv 0) (pv 2) (fun _ _=>rfl)))
   (dh (gN PassesOwn.never rfl (EI rfl T.jZ (c8 (eX kn (pv 2) dC) (c8 (dY (eJ K) rfl T.gR d7 (c8 (pv 0) dc)) dc))) (eZ (i:=6) sc.nd) (dh (dW (i:=7) sc.nd (dz iV hr (c8 (d6 (jH K) (pv 1) (pv 2) (fun _ _=>rfl)) (c8 (d6 (jH K) (pv 0) (pv 6) (fun _ _=>rfl)) dc))))
   (dk (yS (dz l9 hr (c8 (dz gJ hr (c8 (pv 7) (c8 (dz iV hr (c8 (pv 5) (c8 (d6 (jH K) (pv 1) (pv 6) (fun _ _=>rfl)) dc))) dc))) (c8 (pv 3) dc))) (yR (pv 4) (pv 6) set_list)))))
   (dk (dD (pv 4)))))),?_⟩
 refine⟨_,rfl,ra,_,rfl,.inl (.of hra),fun p hp=> ?_⟩;have s1:=du (o:= .lst rv) hp;obtain⟨fv,hfv,pf⟩:=hrv.kJ (dy (d:=[]) hk);refine⟨_,rfl,_,rfl,lD (.of (s1 _ _ hra)) (dQ (j:=k) rfl hfv) ?_⟩;refine⟨_,rfl,ph ⟨_,rfl,ra,_,rfl,.inl (.of (s1 _ _ hra)),_,_,rfl,⟨by lia,by lia,by lia,by lia⟩,?_⟩⟩;have en:((rv.length:Int) - ((k:Int)+1)).toNat=row.length - (k+1):=by lia
 rw[en];have hrvA:Paired (tj (fP S p) H) rv row:=hrv.Rt gC hp;have hbvA:Paired (tj (fP S p) H) bv by_:=hbv.Rt gC hp;refine jt (mN H _ _) (fun i σ H'=>∃x6 x7 ws,σ=[some (.ref ra),some (.ref ba),some (.int (k:Int)),some b,some (.ref p),some fv,x6,x7]/\dI H H'/\H' p=some (.lst ws)/\ws.length=row.length/\(∀j x,ws[j]? =some x->tj (fP S p) H' x (if k<j/\j<k+1+i then(de.lN row by_ k before).getD j [] else row.getD j []))) ⟨none,none,rv,rfl,s1,di,lr,fun j x hx=> ?_⟩ (fun i σ H' ⟨_,_,_,_,s,_⟩=>s) ?_ ?_
 ·rw[af (by lia)];obtain⟨y,hy,py⟩:=hrvA.mU hx;have:row.getD j []=y:=by rw[gDe,hy];rfl
  rw[this];exact gC.same py s1
 ·rintro i x σ H1 H2 hi ⟨x6,x7,ws,rfl,s2,hp2,hwl,hws⟩ s3 s12 rfl;have hj:k+1+i<row.length:=by lia
  have ej:((k:Int)+1)+((i:Nat):Int)=((k+1+i:Nat):Int):=by lia
  rw[ej];have O:=rok (k+1+i) (by lia) hj;obtain⟨bkv,hbk,pbk⟩:=hbv.kJ (dy (d:=[]) (show k<by_.length by lia));obtain⟨bjv,hbj,pbj⟩:=hbv.kJ (dy (d:=[]) (show k+1+i<by_.length by lia));obtain⟨rjv,hrj,prj⟩:=hrv.kJ (dy (d:=[]) hj);refine⟨_,rfl,_,rfl,lD (.of (s3 _ _ hba)) (dQ (j:=k) rfl hbk) ⟨_,rfl,_,rfl,lD (.of (s3 _ _ hra)) (dQ (j:=k+1+i) rfl hrj) ?_⟩⟩;refine⟨_,_,_,_,rfl,pbk.at_.same s3,prj.at_.same s3,by unfold Short;have:=O.s1;lia,by unfold Short;have:=O.s2;lia,O.m1,fun q1 H3 hq1 t1 hq1'=> ?_⟩;have s34:=s3.trans t1;refine⟨_,rfl,_,rfl,_,rfl,_,rfl,lD (.of (s34 _ _ hba)) (dQ (j:=k+1+i) rfl hbj) ?_⟩;refine⟨_,_,_,_,rfl,pf.at_.same s34,pbj.at_.same s34,by unfold Short;have:=O.s3;lia,by unfold Short;have:=O.s4;lia,O.m2,fun q2 H4 hq2 t2 hq2'=> ?_⟩;have l1:=A0 (by_.getD k []) (row.getD (k+1+i) []);have l2:=A0 (row.getD k []) (by_.getD (k+1+i) []);have o1:=O.s1;have o2:=O.s2;have o3:=O.s3;have o4:=O.s4;have o5:=O.s5;refine⟨_,_,_,_,rfl,⟨q1,rfl,t2 _ _ hq1'⟩,⟨q2,rfl,hq2'⟩,by unfold Short;lia,by unfold Short;lia,fun q3 H5 hq3 t3 hq3'=> ?_⟩;have l3:=IZ (de.gX (by_.getD k []) (row.getD (k+1+i) [])) (de.gX (row.getD k []) (by_.getD (k+1+i) []));obtain⟨m,tm,em,mm⟩:=O.ex;have s35:=(s34.trans t2).trans t3;refine⟨_,rfl,_,_,_,_,m,rfl,⟨q3,rfl,hq3'⟩,hb.same s35,by unfold Short;lia,by unfold Short;lia,de.u5 _ _,O.tb,tm,O.nb,em,O.lb,mm,fun q4 H6 hq4 t4 hq4'=> ?_⟩;have s26:=((t1.trans t2).trans t3).trans t4;have hp6:=s26 _ _ (s12 _ _ hp2);refine⟨_,rfl,_,rfl,p,_,_,k+1+i,rfl,rfl,hp6,rE rfl (by lia),?_⟩;have n4:¬fP S p q4:=fun h=>h.elim (fun y=>(dS.same s35) q4 y hq4) (fun y=>by
   have:=((t1.trans t2).trans t3) _ _ (s12 _ _ hp2);rw[<-y,hq4] at this;cases this)
  have ed:(de.lN row by_ k before).getD (k+1+i) []=m:=by
   unfold de.lN;rw[de.kr _ _ _ _ hj,ah (by lia)];exact de.pQ (de.u5 _ _) O.tb tm O.nb em
  refine⟨_,_,_,rfl,(s3.trans s26).over hp,di,by rw[bX];exact hwl,fun j x hx=> ?_⟩;have od:Off (fP S p) H6 (upd H6 p (.lst (ws.set (k+1+i) (.ref q4)))):=fI (.inr rfl);rw[cC] at hx;by_cases e:k+1+i=j
  ·subst e;rw[ah rfl,ah (by lia)] at hx;have:V.ref q4=x:=aZ hx;subst this;rw[ah (by lia),ed];exact gC.off ⟨q4,rfl,n4,hq4'⟩ od
  ·rw[af e] at hx;have hold:=gC.off (gC.same (hws j x hx) (s12.trans s26)) od;by_cases e2:k<j/\j<k+1+i
   ·rw[ah e2] at hold;rw[ah (by lia)];exact hold
   ·rw[af e2] at hold;rw[af (by lia)];exact hold
 ·rintro σ H1 ⟨x6,x7,ws,rfl,s2,hp2,hwl,hws⟩;refine⟨_,rfl,kk _ H1 s2 ⟨p,ws,rfl,dS.new hp,hp2,?_⟩⟩;refine PySem.Paired.NR (p:=p) gC (zY (by unfold de.lN;simp[hwl]) fun j x y hx hy=> ?_);have h1:=hws j x hx;have hjl:j<row.length:=by rw[<-hwl];exact fU hx
  have ey:(de.lN row by_ k before).getD j []=y:=by rw[gDe,hy];rfl
  by_cases e:k<j
  ·rw[ah ⟨e,by lia⟩,ey] at h1;exact h1
  ·rw[af (by lia)] at h1;have e3:(de.lN row by_ k before).getD j []=row.getD j []:=by
    unfold de.lN;rw[de.kr _ _ _ _ hjl,af e]
   rw[<-e3,ey] at h1;exact h1
noncomputable abbrev z3:Stmt:=top 85
theorem KL:dE ["table","k","before","by","result","place","row"] ["table","k","before"] (dj z3):=sco
noncomputable def Dx:Sp:=fun vs H Q _=>∃S v b t k before,vs=[v,.int ((k:Nat):Int),b]/\NQ S H/\PJ S H v t/\fD H b before/\k<t.length/\t.length<=900/\(∀i,i<t.length->(t.getD i []).length=t.length+1)/\(∀i,i<t.length->i≠k->Qa (t.getD i []) (t.getD k []) k before)/\∀p us H',dI H H'->H p=none->H' p=some (.lst us)->Paired (uA S H') us (de.zl t k before)->Q (.ref p) H'
theorem KN(T:Txt2 mg)(qF:eV P w K mg base "cleared_row" ["row","by","k","before"] 4 uO)(G:iI K mg "cleared" z3 ["table","k","before"]):eV P w K mg base "cleared" ["table","k","before"] 5 Dx:=by
 have sc:=KL;refine G.iX sc fun f cdv A outer s H vs Q E hr h=> ?_
 obtain⟨S,v,b,t,k,before,rfl,dS,⟨ta,tv,rfl,nta,hta,htv⟩,hb,hk,hl,hrl,hro,kk⟩:=h;have lt:=htv.length;refine⟨rfl,_,(dh (dW (i:=3) sc.nd (d6 (jH K) (pv 0) (pv 1) (fun _ _=>rfl)))
   (dh (dW (i:=4) sc.nd (dP dc))
   (dh (gN PassesOwn.never rfl (rC rfl T.hX (c8 (pv 0) dc)) (kq K (n:=2) rfl (fA (eZ (i:=5) sc.nd) (fA (eZ (i:=6) sc.nd) km))) (dk (fC (eO ji (pv 5) (pv 1) (eH _)) (dk (iM (n9 aT a6 a7 g7 (pv 4) (c8 (pv 6) dc)))) (dk (iM (n9 aT a6 a7 g7 (pv 4) (c8 (dz qF hr (c8 (pv 6) (c8 (pv 3) (c8 (pv 1) (c8 (pv 2) dc))))) dc)))))))
   (dk (dD (pv 4)))))),?_⟩
 obtain⟨yv,hyv,ry⟩:=htv.kJ (dy (d:=[]) hk);refine⟨_,rfl,_,rfl,lD (.of hta) (dQ (j:=k) rfl hyv) ⟨aM _,fun p hp=> ?_⟩⟩;have s1:=du (o:= .lst []) hp;have htvA:=htv.Rt fk hp;refine⟨_,rfl,ta,_,rfl,.of (s1 _ _ hta),jt (rD (K:=K) (.of hta)) (fun i σ H'=>∃x5 x6 us,σ=[some (.ref ta),some (.int (k:Int)),some b,some yv,some (.ref p),x5,x6]/\dI H H'/\H' p=some (.lst us)/\Paired (uA (fP S p) H') us ((de.zl t k before).take i)) ⟨none,none,[],rfl,s1,di,.nil⟩ (fun i σ H' ⟨_,_,_,_,s,_⟩=>s) ?_ ?_⟩
 ·rintro i x σ H1 H2 hi ⟨x5,x6,us,rfl,s2,hp2,hus⟩ s3 s12 ⟨tt,y,rfl,ht,hy⟩;obtain⟨row,hrow,rr⟩:=htvA.mU hy;have hi':i<t.length:=fU hrow;have er:t.getD i []=row:=by rw[gDe,hrow];rfl
  have hp3:=s12 _ _ hp2;have lu:=hus.length;rw[aD] at lu;have ec:(de.zl t k before)[i]? =some (if i=k then t.getD k [] else de.lN (t.getD i []) (t.getD k []) k before):=by
   unfold de.zl;rw[aC,bF hi'];rfl
  have etake:(de.zl t k before).take (i+1)=(de.zl t k before).take i ++ [if i=k then t.getD k [] else de.lN (t.getD i []) (t.getD k []) k before]:=by
   rw[a5,ec];rfl
  refine⟨tt,_,rfl,.of ht,rfl,_,_,rfl,_,_,rfl,rfl,?_⟩;refine⟨_,rfl,_,rfl,rfl,_,rfl,?_⟩;rw[lF];by_cases e:i=k
  ·rw[ak (show((i:Nat):Int)=(k:Int) by lia)];refine e7 ⟨_,rfl,.inl ⟨rfl,_,.of hp3⟩,_,rfl,p,_,_,rfl,rfl,hp3,dH (by lia),_,_,_,rfl,s3.over hp,di,?_⟩;have er2:t.getD k []=row:=by rw[<-e];exact er
   rw[etake,ah e,er2];exact((hus.i5 fk s12).uB fk (fI (.inr rfl))).iT (fk.off (fk.same rr s3) (fI (.inr rfl)))
  ·rw[aq (show ¬((i:Nat):Int)=(k:Int) by lia)];have ry2:=fk.same (fk.and ry hp) s3;have dS2:NQ (fP S p) H2:=(dS.same s3).and hp3;refine fh ⟨_,rfl,.inl ⟨rfl,_,.of hp3⟩,_,rfl,_,rfl,_,rfl,_,rfl,fP S p,_,_,_,row,_,k,before,rfl,dS2,fk.same rr s3,ry2,hb.same s3,?_,?_,?_,?_,fun z H3 s4 hz=> ?_⟩
   ·rw[<-er,hrl i hi'];lia
   ·rw[<-er,hrl i hi',hrl k hk]
   ·rw[<-er,hrl i hi'];lia
   ·rw[<-er];exact hro i hi' e
   have hp4:=s4 _ _ hp3;refine⟨p,_,_,rfl,rfl,hp4,dH (by lia),_,_,_,rfl,(s3.trans s4).over hp,di,?_⟩;rw[etake,af e,er];exact((hus.i5 fk (s12.trans s4)).uB fk (fI (.inr rfl))).iT (fk.off hz (fI (.inr rfl)))
 ·rintro σ H1 ⟨x5,x6,us,rfl,s2,hp2,hus⟩;have el:(de.zl t k before).take tv.length=de.zl t k before:=bo (by unfold de.zl;simp;lia);rw[el] at hus;exact⟨_,rfl,kk p us H1 s2 hp hp2 (hus.NR fk)⟩
end
noncomputable def Dy:Nat->Nat->List (List (List Int))->List Int->Prop
 |0,_,_,_=>True
 |f+1,k,t,before=>∀c,de.oe t k (t.length - k)=some c->(∀i,i<t.length->i≠k->Qa ((de.nS t c k).getD i []) ((de.nS t c k).getD k []) k before)/\Dy f (k+1) (de.zl (de.nS t c k) k before) ((t.getD c []).getD k [])
theorem RA{α:Type}{xs:List α}{m:Nat}{x:α}(h:xs.length=m+1)(hx:xs[m]? =some x):MA xs (-1)=some x:=by
 unfold MA Oq;rw[af (by decide),ah (by lia)];show xs[(-1+(xs.length:Int)).toNat]? =_;have e:(-1+(xs.length:Int)).toNat=m:=by lia
 rw[e,hx]
theorem RB(t:List (List (List Int)))(c k:Nat):(de.nS t c k).length=t.length:=by unfold de.nS;simp
section
variable {P:Program}{w:World}{K:PySem.W.Frag}{mg:Str->Option Value}{base:Heap}{c:Cs}
noncomputable abbrev uP:Stmt:=top 83
theorem Nh:dE ["rows","table","row","before","k","chosen","taken"] ["rows"] (dj uP):=sco
noncomputable def I0 (c:Cs) (H:Hp) (Q:VK):Option (List Int×List (List Int))->Prop
 |none=>∀H',dI H H'->Q .jS H'
 |some s=>∀z H',dI H H'->sR c H' z s->Q z H'
noncomputable def z4 (c:Cs):Sp:=fun vs H Q _=>∃v rows,vs=[v]/\PJ FF H v rows/\rows.length<=900/\(∀i,i<rows.length->(rows.getD i []).length=rows.length+1)/\Dy rows.length 0 rows [1]/\I0 c H Q (de.sol rows)
theorem Ni(T:Txt2 mg)(O:gw K c)(kP:eV P w K mg base "row_to_solve_by" ["table","k"] 1 oR)(z5:eV P w K mg base "cleared" ["table","k","before"] 5 Dx)(wI:KH P w K mg base "Solution" c.sol ["self","determinant","tops"] 1 (yh c.sol))(G:iI K mg "solved" uP ["rows"]):eV P w K mg base "solved" ["rows"] 6 (z4 c):=by
 have sc:=Nh;refine G.iX sc fun f cdv A outer s H vs Q E hr h=> ?_
 obtain⟨v,rows,rfl,⟨ra,rv,rfl,_,hra,hrv⟩,hl,hrl,run,kk⟩:=h;have lr:=hrv.length;refine⟨rfl,_,(dh (oa (i:=1) rfl sc.nd rfl rfl (rB rfl rfl rfl rfl) (fu (pv 0)) (fm (own:=[("row",2)]) (by show lL ["rows","table","row","before","k","chosen","taken"] (dj uP) _ _=true;decide +kernel)) (fun _ _ _ _ _=>(eZ (i:=2) sc.nd)) (fun _ _ _ _ _=>fQ) (fun _ _ _ _ _=>(yV (vR K) rfl T.C3 tW (c8 (pv 2) dc))))
   (dh (dW (i:=3) sc.nd (dP (c8 dC dc)))
   (dh (gN PassesOwn.never rfl (nQ rfl T.jZ (c8 (dY (eJ K) rfl T.gR d7 (c8 (pv 1) dc)) dc)) (eZ (i:=4) sc.nd) (dh (dW (i:=5) sc.nd (dz kP hr (c8 (pv 1) (c8 (pv 4) dc))))
   (dh (fC (FY (JB (pv 5))) (dk (dD JA)) eh)
   (dh (dW (i:=6) sc.nd (d6 (jH K) (pv 1) (pv 5) (fun _ _=>rfl)))
   (dh (yS (d6 (jH K) (pv 1) (pv 4) (fun _ _=>rfl)) (yR (pv 1) (pv 5) set_list))
   (dh (yS (pv 6) (yR (pv 1) (pv 4) set_list))
   (dh (dW (i:=1) sc.nd (dz z5 hr (c8 (pv 1) (c8 (pv 4) (c8 (pv 3) dc)))))
   (dk (dW (i:=3) sc.nd (d6 (jH K) (pv 6) (pv 4) (fun _ _=>rfl)))))))))))
   (dk (dD (AZ wI hr (c8 (pv 3) (c8 (lH rfl sc.nd (fu (pv 1)) (fm (own:=[("row",2)]) (by show lL ["rows","table","row","before","k","chosen","taken"] (dj uP) _ _=true;decide +kernel)) (fun _ _ _ _ _=>(eZ (i:=2) sc.nd)) (fun _ _ _ _ _=>fQ) (fun _ _ _ _ _=>(d6 (jH K) (pv 2) (jT ie dC) (fun _ _=>rfl)))) dc)))))))),?_⟩
 refine⟨_,rfl,ra,rfl,⟨_,.of hra⟩,fun D hD=>mX (fw (.of hra)) hD (fun i H' acc=>Paired (uA (fP FF D) H') acc (rows.take i)) .nil ?_ ?_⟩
 ·rintro i x H1 H2 acc hi s1 hD1 hacc s2 s12 hD2 hx;obtain⟨row,hrow,xa,xv,rfl,_,hxa,hxv⟩:=hrv.mU hx;have lacc:=hacc.length;refine⟨rfl,⟨_,rfl,xa,_,rfl,.inl (.of (s2 _ _ hxa)),fun q hq=> ?_⟩⟩;have s3:=du (o:= .lst xv) hq;have nq:¬fP FF D q:=fun h=>h.elim (fun y=>y) (fun y=>by rw[y,hD2] at hq;cases hq)
  have hxvD:Paired (tj (fP FF D) H) xv row:=hxv.Rt gC hD;refine gh hD (s2.trans s3) (s3 _ _ hD2) ?_ ?_
  ·rw[lacc,aD];exact dH (by lia)
  ·rw[a5,hrow];refine((hacc.i5 fk (s12.trans s3)).uB fk (fI (.inr rfl))).iT (fk.off ⟨q,xv,rfl,nq,di,?_⟩ (fI (.inr rfl)));exact hxvD.i5 gC (s2.trans s3)
 ·intro H1 acc s1 hD1 hacc;rw[lr,aG] at hacc;have lacc:=hacc.length;refine⟨dq (by simp),fun q hq=> ?_⟩;have s2:=du (o:= .lst [.int 1]) hq;refine⟨_,rfl,D,_,rfl,.inl (.of (s2 _ _ hD1)),_,rfl,by lia,by lia,?_⟩;have en:((acc.length:Int)).toNat=rows.length:=by lia
  rw[en];refine jt (mN H _ _) (fun i σ H'=>∃p us t Ea vb x4 x5 x6,σ=[some (.ref ra),some (.ref p),none,some vb,x4,x5,x6]/\dI H H'/\H p=none/\H' p=some (.lst us)/\Paired (uA FF H') us t/\fD H' vb Ea/\i<=rows.length/\t.length=rows.length/\(∀j,j<t.length->(t.getD j []).length=t.length+1)/\de.xn (rows.length - i) i t Ea=de.sol rows/\Dy (rows.length - i) i t Ea) ⟨D,acc,rows,[1],.ref q,none,none,none,rfl,s1.trans s2,hD,s2 _ _ hD1,(hacc.i5 fk s2).NR fk,⟨q,rfl,di⟩,aM _,rfl,hrl,rfl,run⟩ (fun i σ H' ⟨_,_,_,_,_,_,_,_,_,s,_⟩=>s) ?_ ?_
  ·rintro k x σ H2 H3 hi ⟨p,us,t,Ea,vb,x4,x5,x6,rfl,s3,pH,hp2,hus,hbef,hk2,htl,htr,hso,hrun⟩ s4 s34 rfl;obtain⟨m,em⟩:∃m,rows.length - k=m+1:=⟨rows.length - k - 1,by lia⟩;have em2:rows.length - (k+1)=m:=by lia
   rw[em] at hso hrun;have hp3:=s34 _ _ hp2;have hus3:=hus.i5 fk s34;have lus:=hus.length;have e0:(0:Int)+((k:Nat):Int)=(k:Int):=by lia
   rw[e0];have hkt:k<t.length:=by lia
   refine⟨_,rfl,_,rfl,_,t,k,rfl,⟨p,us,rfl,fun z=>z,hp3,hus3⟩,by lia,by lia,fun r hr'=> ?_,fun H4 s5=> ?_⟩
   ·obtain⟨j,hj,ej⟩:=aY hr';have:=htr j hj;rw[gDe,aa hj] at this;simp only[cF,ej] at this;lia
   cases hpv:de.oe t k (t.length - k) with
   |none=>
    refine⟨_,rfl,_,rfl,?_⟩;refine e7 ?_;have:de.sol rows=none:=by
     rw[<-hso];unfold de.xn;rw[hpv]
    rw[this] at kk;exact kk H4 (s4.trans s5)
   |some ch=>
    obtain⟨c1,c2,c3⟩:=de.rH t k _ ch (by lia) hpv;obtain⟨run1,run2⟩:=hrun ch hpv;have hso2:de.xn m (k+1) (de.zl (de.nS t ch k) k Ea) ((t.getD ch []).getD k [])=de.sol rows:=by
     rw[<-hso];show _=match de.oe t k (t.length - k) with
      |none=>none
      |some c=>de.xn m (k+1) (de.zl (de.nS t c k) k Ea) ((t.getD c []).getD k [])
     rw[hpv]
    refine⟨_,rfl,_,rfl,?_⟩;refine fh ?_;have hp4:=s5 _ _ hp3;have hus4:=hus3.i5 fk s5;have hown:=Rx hp4 hus4;obtain⟨uc,huc,rc⟩:=hown.kJ (dy (d:=[]) c2);obtain⟨uk,huk,rk⟩:=hown.kJ (dy (d:=[]) hkt);have hbef4:tj (fP FF p) H4 vb Ea:=by
     obtain⟨ca,_,rfl,_⟩:=id rc;exact zX hp4 (aB huc) ((hbef.same (s34.trans s5)).s)
    refine⟨_,rfl,_,rfl,lD (.of hp4) (dQ (j:=ch) rfl huc) ?_⟩;refine⟨_,rfl,_,rfl,lD (.of hp4) (dQ (j:=k) rfl huk) ⟨_,rfl,_,rfl,p,_,_,ch,rfl,rfl,hp4,rE rfl (by lia),?_⟩⟩;refine⟨_,rfl,_,rfl,_,rfl,p,_,_,k,rfl,rfl,di,rE rfl (by rw[bX];lia),?_⟩;rw[mF];have od:Off (fP FF p) H4 (upd H4 p (.lst ((us.set ch uk).set k uc))):=fI (.inr rfl);have s6:dI H (upd H4 p (.lst ((us.set ch uk).set k uc))):=(s4.trans s5).over pH;have hsw:Paired (uA (fP FF p) (upd H4 p (.lst ((us.set ch uk).set k uc)))) ((us.set ch uk).set k uc) (de.nS t ch k):=by
     unfold de.nS;exact((hown.uB fk od).setAt (fk.off rk od) ch).setAt (fk.off rc od) k
    have hp6:(upd H4 p (.lst ((us.set ch uk).set k uc))) p=some (.lst ((us.set ch uk).set k uc)):=di;have rc6:=fk.off rc od;have hbef6:=gC.off hbef4 od;generalize upd H4 p (.lst ((us.set ch uk).set k uc))=H6 at s6 hsw hp6 rc6 hbef6;have sl:=RB t ch k;have srow:∀j,j<t.length->((de.nS t ch k).getD j []).length=t.length+1:=fun j hj=>by
     rw[de.BH t ch k j c2 hkt];exact htr _ (de.pS c2 hkt hj)
    refine⟨_,rfl,_,rfl,_,rfl,FF,_,_,_,k,Ea,rfl,fun a h=>h.elim,⟨p,_,rfl,fun z=>z,hp6,hsw.NR fk⟩,hbef6.at_,by lia,by lia,?_,?_,fun p7 us7 H7 s7 p7n hp7 hus7=> ?_⟩
    ·intro j hj;rw[sl] at hj⊢;exact srow j hj
    ·intro j hj hjk;exact run1 j (by lia) hjk
    ·obtain⟨ca,cv,rfl,_,hca,hcv⟩:=rc6;have hcl:k<(t.getD ch []).length:=by rw[htr ch c2];lia
     obtain⟨kv,hkv,pkv⟩:=hcv.kJ (dy (d:=[]) hcl);refine⟨_,rfl,_,rfl,lD (.of (s7 _ _ hca)) (dQ (j:=k) rfl hkv) ?_⟩;have cl:(de.zl (de.nS t ch k) k Ea).length=t.length:=by unfold de.zl;simp[sl]
     refine⟨p7,us7,_,_,kv,_,_,_,rfl,s6.trans s7,s6.free p7n,hp7,hus7,(gC.same pkv s7).at_,by lia,by rw[cl,htl],?_,?_,?_⟩
     ·intro j hj;rw[cl] at hj⊢;rw[de.LA _ _ _ _ (by lia)];exact srow j hj
     ·rw[em2];exact hso2
     ·rw[em2];exact run2
  ·rintro σ H2 ⟨p,us,t,Ea,vb,x4,x5,x6,rfl,s3,pH,hp2,hus,hbef,hk2,htl,htr,hso,hrun⟩;have lus:=hus.length;rw[cj] at hso;have hsol:de.sol rows=some (Ea,t.map fun r=>r.getD (r.length - 1) []):=hso.symm;rw[hsol] at kk;refine⟨_,rfl,_,rfl,p,rfl,⟨_,.of hp2⟩,fun D2 hD2=>mX (fw (.of hp2)) hD2 (fun i H' acc=>Paired (tj (fP FF D2) H') acc ((t.take i).map fun r=>r.getD (r.length - 1) [])) .nil ?_ ?_⟩
   ·rintro i x H3 H4 acc2 hi s4 hD3 hacc2 s5 s45 hD4 hx;obtain⟨row,hrow,xa,xv,rfl,_,hxa,hxv⟩:=hus.mU hx;have hi':i<t.length:=fU hrow;have er:t.getD i []=row:=by rw[gDe,hrow];rfl
    have hrlen:row.length=t.length+1:=by rw[<-er];exact htr i hi'
    have lxv:=hxv.length;have lacc2:=hacc2.length;obtain⟨lv,hlv,plv⟩:=hxv.kJ (dy (d:=[]) (show t.length<row.length by lia));refine⟨rfl,⟨_,rfl,_,rfl,xa,_,_,_,rfl,rfl,.of (s5 _ _ hxa),RA (m:=t.length) (by lia) hlv,?_⟩⟩;refine gh hD2 s5 hD4 ?_ ?_
    ·rw[lacc2,lMp,aD];exact dH (by lia)
    ·rw[d9 _ _ _ _ hrow];have e2:row.length - 1=t.length:=by lia
     rw[e2];exact((hacc2.i5 gC s45).uB gC (fI (.inr rfl))).iT (gC.off (gC.same (gC.and plv hD2) s5) (fI (.inr rfl)))
   ·intro H3 acc2 s4 hD3 hacc2;rw[lus,aG] at hacc2;intro x dx nx nd ne;refine⟨x,dx,vb,.ref D2,rfl,di,fun H4 k4 hx4=>⟨rfl,?_⟩⟩;have s5:dI H3 H4:=dI.made nx nd k4;exact kk _ _ ((s3.trans s4).trans s5) ⟨x,dx,vb,.ref D2,rfl,hx4,hbef.same (s4.trans s5),D2,acc2,rfl,fun z=>z,s5 _ _ hD3,(hacc2.NR gC).i5 gC s5⟩
end
structure Txt3(mg:Str->Option Value):Prop extends Txt2 mg where
noncomputable def uQ (H:Hp) (Q:VK) (l:List Int):Prop:=∀z H',dI H H'->fD H' z l->Q z H'
theorem uQ.of{H H1:Hp}{Q:VK}{l:List Int}(k:uQ H Q l)(s:dI H H1):uQ H1 Q l:=fun z H' s' h=>k z H' (s.trans s') h
theorem uQ.new{H:Hp}{Q:VK}{l:List Int}(k:uQ H Q l):pj H Q l:=fun p H' _ s h=>k _ _ s ⟨p,rfl,h⟩
section
variable {P:Program}{w:World}{K:PySem.W.Frag}{mg:Str->Option Value}{base:Heap}{c:Cs}
noncomputable abbrev wJ:Stmt:=top 77
theorem Ja:dE ["solution","node"] ["solution","node"] (dj wJ):=sco
noncomputable def uR (c:Cs):Sp:=fun vs H Q _=>∃v s n,vs=[v,.int n]/\sR c H v s/\n<=s.2.length/\uQ H Q (de.gy s n)
theorem Jb(O:gw K c)(G:iI K mg "node_top" wJ ["solution","node"]):eV P w K mg base "node_top" ["solution","node"] 1 (uR c):=by
 have sc:=Ja;refine G.iX sc fun f cdv A outer s0 H vs Q E hr h=> ?_
 obtain⟨v,s,n,rfl,⟨a,dx,vd,vt,rfl,ha,hd,⟨ta,tv,rfl,_,hta,htv⟩⟩,hn,k⟩:=h;refine⟨rfl,_,(dk (dD (mM (eO vB (pv 1) dC (eH _)) (d6 (jH K) (dt K (pv 0) rfl) (eX nZ (pv 1) dC) (fun _ _=>rfl)) (dP dc)))),?_⟩;unfold de.gy at k;refine⟨_,rfl,ph ⟨_,rfl,?_⟩⟩;by_cases h0:0<n
 ·rw[ah h0] at k;rw[ak (show n>0 from h0)];obtain⟨u,hu,pu⟩:=htv.kJ (dy (d:=[]) (show(n - 1).toNat<s.2.length by lia));exact e7 ⟨_,rfl,dX ha O.sol.cl (O.sol.at_ 1 rfl) rfl ⟨_,rfl,ph (lD (.of hta) (dQ (j:=(n - 1).toNat) (by lia) hu) (k _ _ (.refl _) pu.at_))⟩⟩
 ·rw[af h0] at k;rw[aq (show ¬n>0 from h0)];exact fh ⟨aM _,fun p hp=>k _ _ (du hp) ⟨p,rfl,di⟩⟩
noncomputable abbrev qG:Stmt:=top 78
theorem Dz:dE ["setting","solution","k"] ["setting","solution","k"] (dj qG):=sco
noncomputable def uS (c:Cs):Sp:=fun vs H Q _=>∃v u g s k,vs=[u,v,.int ((k:Nat):Int)]/\sR c H v s/\nF c H u g/\k<g.d8.c9.length/\0<=(de.places g.d8).getD k 0/\(de.places g.d8).getD k 0<s.2.length/\uQ H Q (de.oh g s k)
theorem DA(O:gw K c)(G:iI K mg "current_top" qG ["setting","solution","k"]):eV P w K mg base "current_top" ["setting","solution","k"] 1 (uS c):=by
 have sc:=Dz;refine G.iX sc fun f cdv A outer s0 H vs Q E hr h=> ?_
 obtain⟨v,u,g,s,k,rfl,⟨a,dx,vd,vt,rfl,ha,hd,⟨ta,tv,rfl,_,hta,htv⟩⟩,⟨ga,gdx,gvn,gvs,gvst,gvd,gvp,rfl,hga,_,_,_,_,⟨la,rfl,hla⟩⟩,hk,h0,h1,kk⟩:=h;refine⟨rfl,_,(dk (dD (d6 (jH K) (dt K (pv 1) rfl) (d6 (jH K) (dt K (pv 0) rfl) (pv 2) (fun _ _=>rfl)) (fun _ _=>rfl)))),?_⟩;obtain⟨x,hx,px⟩:=htv.kJ (dy (d:=[]) (show((de.places g.d8).getD k 0).toNat<s.2.length by lia));have hj:k<(de.places g.d8).length:=by rw[places_len];exact hk
 exact⟨_,rfl,dX ha O.sol.cl (O.sol.at_ 1 rfl) rfl ⟨_,rfl,dX hga O.jQ.cl (O.jQ.at_ 4 rfl) rfl ⟨_,rfl,lD (.of hla) (dQ (j:=k) rfl (ju hj)) (lD (.of hta) (dQ (j:=((de.places g.d8).getD k 0).toNat) (by lia) hx) (kk _ _ (.refl _) px.at_))⟩⟩⟩
noncomputable def uT (s:List Int×List (List Int)):Prop:=Short s.1/\∀l∈s.2,Short l
theorem DB{s:List Int×List (List Int)}(h:uT s)(n:Int):Short (de.gy s n):=by
 unfold de.gy;split
 ·rw[gDe];cases e:s.2[(n - 1).toNat]? with
  |none=>show([]:List Int).length<_;simp
  |some l=>exact h.2 l (aB e)
 ·show([]:List Int).length<_;simp
noncomputable abbrev mq:Stmt:=top 80
theorem yk:dE ["solution","first","second"] ["solution","first","second"] (dj mq):=sco
noncomputable def kQ (c:Cs):Sp:=fun vs H Q _=>∃v s x y,vs=[v,.int x,.int y]/\sR c H v s/\uT s/\x<=s.2.length/\y<=s.2.length/\uQ H Q (de.jl s x y)
theorem ym(j7:eV P w K mg base "node_top" ["solution","node"] 1 (uR c))(gJ:eV P w K mg base "subtracted" ["left","right"] 3 mI)(G:iI K mg "difference_top" mq ["solution","first","second"]):eV P w K mg base "difference_top" ["solution","first","second"] 4 (kQ c):=by
 have sc:=yk;refine G.iX sc fun f cdv A outer s0 H vs Q E hr h=> ?_
 obtain⟨v,s,x,y,rfl,hs,hsh,hx,hy,k⟩:=h;refine⟨rfl,_,(dk (dD (dz gJ hr (c8 (dz j7 hr (c8 (pv 0) (c8 (pv 1) dc))) (c8 (dz j7 hr (c8 (pv 0) (c8 (pv 2) dc))) dc))))),?_⟩;refine⟨_,rfl,_,rfl,_,s,x,rfl,hs,hx,fun z1 H1 s1 p1=> ?_⟩;refine⟨_,rfl,_,rfl,_,s,y,rfl,hs.same s1,hy,fun z2 H2 s2 p2=> ?_⟩;exact⟨_,_,_,_,rfl,p1.same s2,p2,DB hsh x,DB hsh y,(k.of (s1.trans s2)).new⟩
noncomputable abbrev qH:Stmt:=top 79
theorem DC:dE ["setting","solution","k","part"] ["setting","solution","k"] (dj qH):=sco
noncomputable def uU (c:Cs):Sp:=fun vs H Q _=>∃v u g s k,vs=[u,v,.int ((k:Nat):Int)]/\sR c H v s/\uT s/\nF c H u g/\k<g.d8.c9.length/\(pat g k).a<=s.2.length/\(pat g k).b<=s.2.length/\uQ H Q (de.pP g s k)
theorem DD(O:gw K c)(gM:eV P w K mg base "difference_top" ["solution","first","second"] 4 (kQ c))(G:iI K mg "voltage_top" qH ["setting","solution","k"]):eV P w K mg base "voltage_top" ["setting","solution","k"] 5 (uU c):=by
 have sc:=DC;refine G.iX sc fun f cdv A outer s0 H vs Q E hr h=> ?_
 obtain⟨v,u,g,s,k,rfl,hs,hsh,⟨ga,gdx,gvn,gvs,gvst,gvd,gvp,rfl,hga,⟨na,ndx,nvp,rfl,hna,pa,ws,rfl,hpa,hps⟩,_⟩,hk,h0,h1,kk⟩:=h;refine⟨rfl,_,(dh (dW (i:=3) sc.nd (d6 (jH K) (dt K (dt K (pv 0) rfl) rfl) (pv 2) (fun _ _=>rfl)))
   (dk (dD (dz gM hr (c8 (pv 1) (c8 (dt K (pv 3) rfl) (c8 (dt K (pv 3) rfl) dc))))))),?_⟩
 obtain⟨x,hx,pb,pbx,rfl,hpb⟩:=hps.kJ (dy (d:=de.p0) hk);refine⟨_,rfl,dX hga O.jQ.cl (O.jQ.at_ 0 rfl) rfl (dX hna O.d8.cl (O.d8.at_ 1 rfl) rfl ⟨_,rfl,lD (.of hpa) (dQ (j:=k) rfl hx) ?_⟩)⟩;exact⟨_,rfl,_,rfl,dX hpb O.part.cl (O.part.at_ 1 rfl) rfl ⟨_,rfl,dX hpb O.part.cl (O.part.at_ 2 rfl) rfl ⟨_,s,_,_,rfl,hs,hsh,h0,h1,kk⟩⟩⟩
end
noncomputable def Qb (H:Hp):V->Int×Int->Prop:=fun u x=>∃t,u= .ref t/\H t=some (.tup [.int x.1,.int x.2])
theorem Qb.same{H H':Hp}{v:V}{x:Int×Int}(h:Qb H v x)(s:dI H H'):Qb H' v x:=let ⟨t,e,q⟩:=h;⟨t,e,s _ _ q⟩
theorem Qb.over{H:Hp}{v:V}{x:Int×Int}{D:Addr}{vs us:List V}(h:Qb H v x)(hD:H D=some (.lst vs)):Qb (upd H D (.lst us)) v x:=let ⟨t,e,q⟩:=h;⟨t,e,by rw[d4 (Hu q hD (by intro z;cases z))];exact q⟩
section
variable {P:Program}{w:World}{K:PySem.W.Frag}{mg:Str->Option Value}{base:Heap}{c:Cs}
noncomputable abbrev jM:Stmt:=top 61
theorem yn:dE ["network","states","source","drives","k"] ["network","states","source"] (dj jM):=sco
noncomputable def p8 (c:Cs):Sp:=fun vs H Q _=>∃v u n st src,vs=[v,u,.int src]/\nE c H v n/\vG H u st/\n.c9.length<=1000/\∀z H',dI H H'->nF c H' z (de.iw n st src)->Q z H'
theorem yo(T:Txt2 mg)(O:gw K c)(nX:KH P w K mg base "Setting" c.jQ ["self","network","s","states","drives"] 3 (uN c))(G:iI K mg "driven_setting" jM ["network","states","source"]):eV P w K mg base "driven_setting" ["network","states","source"] 5 (p8 c):=by
 have sc:=yn;refine G.iX sc fun f cdv A outer s H vs Q E hr h=> ?_
 obtain⟨v,u,n,st,src,rfl,hn,hst,hl,kk⟩:=h;obtain⟨na,ndx,nvp,rfl,hna,pa,ws,rfl,hpa,hps⟩:=id hn;have ll:=hps.length;refine⟨rfl,_,(dh (oa (i:=3) rfl sc.nd rfl rfl (rB rfl rfl rfl rfl) (nQ rfl T.jZ (c8 (dY (eJ K) rfl T.gR d7 (c8 (dt K (pv 0) rfl) dc)) dc)) (fm (own:=[("k",4)]) (by show lL ["network","states","source","drives","k"] (dj jM) _ _=true;decide +kernel)) (fun _ _ _ _ _=>(eZ (i:=4) sc.nd)) (fun _ _ _ _ _=>fQ) (fun _ _ _ _ _=>(mM (eO ji (pv 4) (pv 2) (eH _)) (gq (c8 dC (c8 dC dc))) (gq (c8 dC (c8 dC dc))))))
   (dk (dD (AZ nX hr (c8 (pv 0) (c8 (dP (c8 dC (c8 dC dc))) (c8 (pv 1) (c8 (pv 3) dc)))))))),?_⟩
 refine⟨_,rfl,dX hna O.d8.cl (O.d8.at_ 1 rfl) rfl ⟨pa,_,rfl,.inl (.of hpa),_,rfl,by lia,by lia,fun D hD=>mX (mN H 0 _) hD (fun i H' acc=>Paired (Qb H') acc (((List.range n.c9.length).map fun(k:Nat)=>if(k:Int)=src then((1:Int),(1:Int)) else(0,1)).take i)) .nil ?_ ?_⟩⟩
 ·rintro i x H1 H2 acc hi s1 hD1 hacc s2 s12 hD2 rfl;have hi2:i<n.c9.length:=by lia
  have la:=hacc.length;rw[aD] at la;have et:((List.range n.c9.length).map fun(k:Nat)=>if(k:Int)=src then((1:Int),(1:Int)) else(0,1)).take (i+1)=((List.range n.c9.length).map fun(k:Nat)=>if(k:Int)=src then((1:Int),(1:Int)) else(0,1)).take i ++ [if(i:Int)=src then((1:Int),(1:Int)) else(0,1)]:=by
   rw[a5,aC,bF hi2];rfl
  refine⟨rfl,⟨_,rfl,_,rfl,rfl,_,rfl,?_⟩⟩;rw[lF,Int.zero_add];by_cases e:(i:Int)=src
  ·rw[ak e];rw[ah e] at et;refine e7 ⟨dq (by simp),fun p hp=> ?_⟩;have s3:=du (o:= .tup [.int 1,.int 1]) hp;refine gh hD (s2.trans s3) (s3 _ _ hD2) (dH (by lia)) ?_;rw[et];exact(hacc.fY fun _ _ q=>(q.same (s12.trans s3)).over (s3 _ _ hD2)).iT (Qb.over ⟨p,rfl,di⟩ (s3 _ _ hD2))
  ·rw[aq e];rw[af e] at et;refine fh ⟨dq (by simp),fun p hp=> ?_⟩;have s3:=du (o:= .tup [.int 0,.int 1]) hp;refine gh hD (s2.trans s3) (s3 _ _ hD2) (dH (by lia)) ?_;rw[et];exact(hacc.fY fun _ _ q=>(q.same (s12.trans s3)).over (s3 _ _ hD2)).iT (Qb.over ⟨p,rfl,di⟩ (s3 _ _ hD2))
 ·intro H1 acc s1 hD1 hacc;rw[bo (by simp;lia)] at hacc;refine⟨_,rfl,dq (by simp),fun q hq=> ?_⟩;have s2:=du (o:= .lst [.int 0,.int 1]) hq;refine⟨_,rfl,_,rfl,fun x dx nx nd ne=> ?_⟩;have s3:=s1.trans s2;refine⟨_,x,dx,_,_,_,_,de.iw n st src,rfl,di,dI.made nx nd (fun b o h _=>h),nx,hn.same s3,⟨q,rfl,di⟩,hst.same s3,⟨D,acc,rfl,s2 _ _ hD1,hacc.fY fun _ _ z=>z.same s2⟩,hl,fun H4 s4 hz=>⟨rfl,kk _ _ (s3.trans s4) hz⟩⟩
end
noncomputable def Ts:Rp (List Bool):=fun S H v l=>∃a,v= .ref a/\¬S a/\H a=some (.lst (l.map V.bl))
theorem vI:Good Ts where
 off:=fun⟨a,e,hs,h⟩ o=>⟨a,e,hs,o a _ hs h⟩
 zC:=fun⟨a,e,hs,h⟩ w=>⟨a,e,(fun q=>(w a q).elim hs fun z=>(by rw[h] at z;cases z)),h⟩
noncomputable abbrev Wg:Rp (List (List Bool)):=M8 Ts
theorem Ts.at_{S:Addr->Prop}{H:Hp}{v:V}{l:List Bool}(h:Ts S H v l):vG H v l:=let ⟨a,e,_,q⟩:=h;⟨a,e,q⟩
noncomputable def nk (p:de.Part) (rs:List (List Bool)):List (List Bool):=rs.flatMap fun row=>if p.kind=13 then[row ++ [false],row ++ [true]] else[row ++ [false]]
theorem vJ:∀(l:List de.Part) (p:de.Part) (rs:List (List Bool)),de.eW (l ++ [p]) rs=nk p (de.eW l rs)
 |[],p,rs=>rfl
 |q::l,p,rs=>vJ l p _
theorem A1(p:de.Part)(rs:List (List Bool))(r:List Bool):nk p (rs ++ [r])=nk p rs ++ (if p.kind=13 then[r ++ [false],r ++ [true]] else[r ++ [false]]):=by
 unfold nk;rw[bU];simp
theorem wK(p:de.Part):∀rs:List (List Bool),(nk p rs).length<=2*rs.length
 |[]=>aj _
 |r::rs=>by
  have:=wK p rs;have e:nk p (r::rs)=(if p.kind=13 then[r ++ [false],r ++ [true]] else[r ++ [false]]) ++ nk p rs:=by
   unfold nk;rw[a9]
  have l2:(if p.kind=13 then[r ++ [false],r ++ [true]] else[r ++ [false]]).length<=2:=by split <;>simp
  rw[e,aA,au];lia
theorem KO(p:de.Part)(m:Nat)(rs:List (List Bool))(h:∀r∈rs,r.length=m):∀r∈nk p rs,r.length=m+1:=fun r hr=>by
 obtain⟨q,hq,e⟩:=cH.mp hr;have:=h q hq;split at e
 ·rcases aJ.mp e with rfl |e
  ·simp[this]
  ·rw[aw.mp e];simp[this]
 ·rw[aw.mp e];simp[this]
theorem yp:∀(l:List de.Part) (m:Nat) (rs:List (List Bool)),(∀r∈rs,r.length=m)->∀r∈de.eW l rs,r.length=m+l.length
 |[],m,rs,h,r,hr=>h r hr
 |p::l,m,rs,h,r,hr=>by
  have:=yp l (m+1) _ (KO p m rs h) r hr;rw[this,au];lia
theorem yq:∀(l:List de.Part) (rs:List (List Bool)),(de.eW l rs).length<=2^l.length*rs.length
 |[],rs=>by simp[de.eW]
 |p::l,rs=>by
  have h1:=yq l (nk p rs);have h2:=wK p rs;refine ay h1 (ay (cg _ h2) ?_);rw[au,Nat.pow_succ,Nat.mul_assoc];exact aj _
theorem Jc{n:Nat}(h:n<=10):2^n<=1024:=bC (n:=2) (by decide) h
section
variable {P:Program}{w:World}{K:PySem.W.Frag}{mg:Str->Option Value}{base:Heap}{c:Cs}
noncomputable abbrev mr:Stmt:=top 91
theorem yr:dE ["parts","rows","part","longer","row"] ["parts"] (dj mr):=sco
noncomputable def p9 (c:Cs):Sp:=fun vs H Q _=>∃v ps,vs=[v]/\nO c H v ps/\ps.length<=10/\∀z H',dI H H'->Wg FF H' z (de.eW ps [[]])->Q z H'
theorem yt(T:Txt2 mg)(O:gw K c)(G:iI K mg "rows_of_states" mr ["parts"]):eV P w K mg base "rows_of_states" ["parts"] 1 (p9 c):=by
 have sc:=yr;refine G.iX sc fun f cdv A outer s H vs Q E hr h=> ?_
 obtain⟨v,ps,rfl,⟨pa,ws,rfl,hpa,hps⟩,hl,kk⟩:=h;have ll:=hps.length;refine⟨rfl,_,(dh (dW (i:=1) sc.nd (dP (c8 (dP dc) dc)))
   (dh (gN PassesOwn.never rfl (fu (pv 0)) (eZ (i:=2) sc.nd) (dh (dW (i:=3) sc.nd (dP dc))
   (dh (gN PassesOwn.never rfl (fu (pv 1)) (eZ (i:=4) sc.nd) (dh (iM (n9 aT a6 a7 g7 (pv 3) (c8 (eX ql (pv 4) (dP (c8 sL dc))) dc)))
   (dk (fC (eO ji (dt K (pv 2) rfl) (gc T.vm) (eH _)) (dk (iM (n9 aT a6 a7 g7 (pv 3) (c8 (eX ql (pv 4) (dP (c8 sL dc))) dc)))) eh))))
   (dk (dW (i:=1) sc.nd (pv 3))))))
   (dk (dD (pv 1))))),?_⟩
 refine⟨dq (by simp),fun q hq=> ?_⟩;have s1:=du (o:= .lst []) hq;refine⟨dq (by simp),fun r hr'=> ?_⟩;have s2:=s1.trans (du (o:= .lst [.ref q]) hr');have hqr:q≠r:=fun e=>by rw[<-e,di] at hr';cases hr'
 have lim:∀i,i<=ps.length->(de.eW (ps.take i) [[]]).length<=1024:=fun i hi=>by
  have:=yq (ps.take i) [[]];have h2:=Jc (n:=(ps.take i).length) (by rw[aD];lia);simp only[au,bJ,Nat.zero_add,Nat.mul_one] at this;lia
 refine⟨_,rfl,pa,rfl,⟨_,.of (s2 _ _ hpa)⟩,jt (fw (K:=K) (.of hpa)) (fun i σ H'=>∃p us x2 x3 x4,σ=[some (.ref pa),some (.ref p),x2,x3,x4]/\dI H H'/\H p=none/\H' p=some (.lst us)/\Paired (Ts FF H') us (de.eW (ps.take i) [[]])) ?_ (fun i σ H' ⟨_,_,_,_,_,_,s,_⟩=>s) ?_ ?_⟩
 ·refine⟨r,_,none,none,none,rfl,s2,s1.free hr',di,.cons ⟨q,rfl,fun z=>z,?_⟩ .nil⟩;rw[d4 hqr,di];rfl
 ·rintro i x σ H1 H2 hi ⟨p,us,x2,x3,x4,rfl,s3,pH,hp1,hus⟩ s4 s12 hx;obtain⟨pt,hpt,pr⟩:=hps.mU hx;have hi2:i<ps.length:=by lia
  have hp2:=s12 _ _ hp1;have hus2:=hus.i5 vI s12;have lu:=hus.length;have li:=lim i (by lia);have hrow:∀r∈de.eW (ps.take i) [[]],r.length<=1000:=fun r hr=>by
   have:=yp (ps.take i) 0 [[]] (by simp) r hr;rw[aD] at this;lia
  refine⟨aM _,fun l hl'=> ?_⟩;have s5:=du (o:= .lst []) hl';refine⟨_,rfl,p,rfl,⟨_,.of (s5 _ _ hp2)⟩,jt (fw (K:=K) (.of hp2)) (fun j σ H'=>∃y4 ls,σ=[some (.ref pa),some (.ref p),some x,some (.ref l),y4]/\dI H2 H'/\H' l=some (.lst ls)/\Paired (Ts (fP FF l) H') ls (nk pt ((de.eW (ps.take i) [[]]).take j))) ?_ (fun i σ H' ⟨_,_,_,s,_⟩=>s) ?_ ?_⟩
  ·exact⟨_,[],rfl,s5,di,.nil⟩
  ·rintro j y σ H3 H4 hj ⟨y4,ls,rfl,s6,hl3,hls⟩ s7 s34 hy;obtain⟨row,hrw,ra,rfl,_,hra⟩:=hus2.mU hy;have hl4:=s34 _ _ hl3;have hra4:=s7 _ _ hra;have lrow:=hrow row (aB hrw);have lls:=hls.length;have lst:=wK pt ((de.eW (ps.take i) [[]]).take j);rw[aD] at lst;have et:(de.eW (ps.take i) [[]]).take (j+1)=(de.eW (ps.take i) [[]]).take j ++ [row]:=by
    rw[a5,hrw];rfl
   obtain⟨pb,pbx,rfl,hpb⟩:=pr.same (s4.trans s7);refine⟨_,rfl,.inl ⟨rfl,_,.of hl4⟩,_,rfl,dq (by simp),fun m1 hm1=> ?_⟩;have s8:=du (o:= .lst [.bl false]) hm1;refine⟨ra,m1,_,_,rfl,rfl,s8 _ _ hra4,di,dq (by simp;lia),fun m2 hm2=> ?_⟩;have s9:=s8.trans (du (o:= .lst (row.map V.bl ++ [.bl false])) hm2);have hl5:=s9 _ _ hl4;have nm2:¬fP FF l m2:=fun h=>h.elim (fun z=>z) (fun e=>by rw[e,s8 _ _ hl4] at hm2;cases hm2)
   refine⟨l,_,_,rfl,rfl,hl5,dH (by lia),?_⟩;have s10:=(s7.trans s9).over (o:= .lst (ls ++ [.ref m2])) hl';have hB:Paired (Ts (fP FF l) (upd (upd (upd H4 m1 (.lst [.bl false])) m2 (.lst (row.map V.bl ++ [.bl false]))) l (.lst (ls ++ [.ref m2])))) (ls ++ [.ref m2]) (nk pt ((de.eW (ps.take i) [[]]).take j) ++ [row ++ [false]]):=by
    refine((hls.i5 vI (s34.trans s9)).uB vI (fI (.inr rfl))).iT (vI.off ⟨m2,rfl,nm2,?_⟩ (fI (.inr rfl)));rw[di,aP];rfl
   have hl6:(upd (upd (upd H4 m1 (.lst [.bl false])) m2 (.lst (row.map V.bl ++ [.bl false]))) l (.lst (ls ++ [.ref m2]))) l=some (.lst (ls ++ [.ref m2])):=di;have hpb5:(upd (upd (upd H4 m1 (.lst [.bl false])) m2 (.lst (row.map V.bl ++ [.bl false]))) l (.lst (ls ++ [.ref m2]))) pb=some (.ins c.part pbx (PL pt)):=by
    rw[d4 (Hu (s9 _ _ hpb) hl5 (by intro z;cases z))];exact s9 _ _ hpb
   generalize upd (upd (upd H4 m1 (.lst [.bl false])) m2 (.lst (row.map V.bl ++ [.bl false]))) l (.lst (ls ++ [.ref m2]))=H5 at s10 hB hl6 hpb5;refine⟨_,rfl,dX hpb5 O.part.cl (O.part.at_ 0 rfl) rfl ⟨rfl,_,rfl,?_⟩⟩;rw[lF];by_cases h13:pt.kind=13
   ·rw[ak h13];have hra5:=s10 _ _ hra;refine e7 ⟨_,rfl,.inl ⟨rfl,_,.of hl6⟩,_,rfl,dq (by simp),fun m3 hm3=> ?_⟩;have s11:=du (o:= .lst [.bl true]) hm3;refine⟨ra,m3,_,_,rfl,rfl,s11 _ _ hra5,di,dq (by simp;lia),fun m4 hm4=> ?_⟩;have s12':=s11.trans (du (o:= .lst (row.map V.bl ++ [.bl true])) hm4);have hl7:=s12' _ _ hl6;have nm4:¬fP FF l m4:=fun h=>h.elim (fun z=>z) (fun e=>by rw[e,s11 _ _ hl6] at hm4;cases hm4)
    refine⟨l,_,_,rfl,rfl,hl7,dH (by simp;lia),_,_,rfl,(s10.trans s12').over hl',di,?_⟩;rw[et,A1,ah h13,List.append_cons _ _ [_]];refine((hB.i5 vI s12').uB vI (fI (.inr rfl))).iT (vI.off ⟨m4,rfl,nm4,?_⟩ (fI (.inr rfl)));rw[di,aP];rfl
   ·rw[aq h13];refine fh ⟨_,_,rfl,s10,hl6,?_⟩;rw[et,A1,af h13];exact hB
  ·rintro σ H3 ⟨y4,ls,rfl,s6,hl3,hls⟩;rw[lu,aG] at hls;refine⟨_,rfl,l,ls,_,_,_,rfl,s4.trans s6,s4.free hl',hl3,?_⟩;rw[a5,hpt];show Paired _ _ (de.eW (ps.take i ++ [pt]) [[]]);rw[vJ];exact hls.NR vI
 ·rintro σ H1 ⟨p,us,x2,x3,x4,rfl,s3,pH,hp1,hus⟩;rw[ll,aG] at hus;exact⟨_,rfl,kk _ _ s3 ⟨p,us,rfl,fun z=>z,hp1,hus⟩⟩
end
theorem Sz.prod{a b:Int}{m n:Nat}(ha:Sz m a)(hb:Sz n b):Sz (m+n) (a*b):=by
 unfold Sz at *;rw[bR,Nat.pow_add];exact Nat.mul_lt_mul'' ha hb
theorem Wi{p:Nat->Bool}{i:Nat}(h:p i=true):[i].filter p=[i]:=by simp[h]
theorem Wj{p:Nat->Bool}{i:Nat}(h:p i=false):[i].filter p=[]:=by simp[h]
structure Qc(g:de.lJ)(s:List Int×List (List Int))(k:Nat):Prop where
 kl:k<g.d8.c9.length
 st:g.gI.length=g.d8.c9.length
 p0:0<=(de.places g.d8).getD k 0
 p1:(de.places g.d8).getD k 0<s.2.length
 a:(pat g k).a<=s.2.length
 b:(pat g k).b<=s.2.length
 sh:uT s
 zd:Sz 8000 (de.e9 s.1)
 zc:Sz 8000 (de.e9 (de.oh g s k))
 zv:Sz 8000 (de.e9 (de.pP g s k))
 zt:Sz 64 (pat g k).top
 zb:Sz 64 (pat g k).dF
section
variable {P:Program}{w:World}{K:PySem.W.Frag}{mg:Str->Option Value}{base:Heap}{c:Cs}
noncomputable abbrev oS:Stmt:=top 93
theorem Bh:dE ["setting","solution","k","part","determinant","voltage"] ["setting","solution","k"] (dj oS):=sco
noncomputable def sS (c:Cs):Sp:=fun vs H Q _=>∃v u g s k,vs=[u,v,.int ((k:Nat):Int)]/\sR c H v s/\nF c H u g/\Qc g s k/\∀H',dI H H'->Q (.bl (de.vW g s k)) H'
theorem Bi(O:gw K c)(gn:eV P w K mg base "constant_of" ["polynomial"] 1 ow)(qI:eV P w K mg base "current_top" ["setting","solution","k"] 1 (uS c))(qJ:eV P w K mg base "voltage_top" ["setting","solution","k"] 5 (uU c))(G:iI K mg "diode_agrees" oS ["setting","solution","k"]):eV P w K mg base "diode_agrees" ["setting","solution","k"] 6 (sS c):=by
 have sc:=Bh;refine G.iX sc fun f cdv A outer s0 H vs Q E hr h=> ?_
 obtain⟨v,u,g,s,k,rfl,hs,hg,ok,kk⟩:=h;obtain⟨sa,sdx,vd,vt,rfl,hsa,hd,_⟩:=id hs;obtain⟨ga,gdx,gvn,gvs,gvst,gvd,gvp,rfl,hga,⟨na,ndx,nvp,rfl,hna,pa,ws,rfl,hpa,hps⟩,_,⟨sta,rfl,hsta⟩,_,_⟩:=id hg;refine⟨rfl,_,(dh (dW (i:=3) sc.nd (d6 (jH K) (dt K (dt K (pv 0) rfl) rfl) (pv 2) (fun _ _=>rfl)))
   (dh (dW (i:=4) sc.nd (dz gn hr (c8 (dt K (pv 1) rfl) dc)))
   (dh (fC (fc K (d6 (jH K) (dt K (pv 0) rfl) (pv 2) (fun _ _=>rfl)) (fun _=>rfl)) (dk (dD (gU Od (eX ik (dz gn hr (c8 (dz qI hr (c8 (pv 0) (c8 (pv 1) (c8 (pv 2) dc)))) dc)) (pv 4)) dC (eH _)))) eh)
   (dh (dW (i:=5) sc.nd (dz gn hr (c8 (dz qJ hr (c8 (pv 0) (c8 (pv 1) (c8 (pv 2) dc)))) dc)))
   (dk (dD (gU qQ (eX ik (eX ik (pv 5) (pv 4)) (dt K (pv 3) rfl)) (eX ik (eX ik (dt K (pv 3) rfl) (pv 4)) (pv 4)) (eH _)))))))),?_⟩
 obtain⟨x,hx,pb,pbx,rfl,hpb⟩:=hps.kJ (dy (d:=de.p0) ok.kl);have hb:(g.gI.map V.bl)[k]? =some (V.bl (g.gI.getD k false)):=by
  rw[aC,dy (d:=false) (by have:=ok.st;have:=ok.kl;lia)];rfl
 unfold de.vW at kk;refine⟨_,rfl,dX hga O.jQ.cl (O.jQ.at_ 0 rfl) rfl (dX hna O.d8.cl (O.d8.at_ 1 rfl) rfl ⟨_,rfl,lD (.of hpa) (dQ (j:=k) rfl hx) ?_⟩)⟩;refine⟨_,rfl,dX hsa O.sol.cl (O.sol.at_ 0 rfl) rfl ⟨_,_,rfl,hd,?_⟩⟩;refine⟨_,rfl,dX hga O.jQ.cl (O.jQ.at_ 2 rfl) rfl ⟨_,rfl,lD (.of hsta) (dQ (j:=k) rfl hb) ⟨_,rfl,?_⟩⟩⟩;by_cases h1:g.gI.getD k false=true
 ·rw[h1];simp only[h1,if_true] at kk;refine e7 ⟨_,rfl,_,rfl,_,rfl,_,_,g,s,k,rfl,hs,hg,ok.kl,ok.p0,ok.p1,fun z H1 s1 pz=> ?_⟩;exact⟨_,_,rfl,pz,_,rfl,ph ⟨ok.zc.mul ok.zd (by decide),_,_,rfl,rfl,kk _ s1⟩⟩
 ·have h2:g.gI.getD k false=false:=by simpa using h1
  rw[h2];simp only[h2,if_false,Bool.false_eq_true] at kk;refine fh ⟨_,rfl,_,rfl,_,rfl,_,_,g,s,k,rfl,hs,ok.sh,hg,ok.kl,ok.a,ok.b,fun z H1 s1 pz=> ?_⟩;refine⟨_,_,rfl,pz,?_⟩;have hpb1:=s1 _ _ hpb;exact⟨_,rfl,_,rfl,ph ⟨ok.zv.mul ok.zd (by decide),_,rfl,dX hpb1 O.part.cl (O.part.at_ 6 rfl) rfl (ph ⟨(ok.zv.prod ok.zd).mul ok.zb (by decide),_,rfl,dX hpb1 O.part.cl (O.part.at_ 5 rfl) rfl ⟨_,rfl,ph ⟨ok.zt.mul ok.zd (by decide),_,rfl,ph ⟨(ok.zt.prod ok.zd).mul ok.zd (by decide),_,_,rfl,rfl,kk _ s1⟩⟩⟩⟩)⟩⟩
noncomputable abbrev iW:Stmt:=top 92
theorem vz:dE ["setting","solution","parts","k"] ["setting","solution"] (dj iW):=sco
noncomputable def nI (c:Cs):Sp:=fun vs H Q _=>∃v u g s,vs=[u,v]/\sR c H v s/\nF c H u g/\g.d8.c9.length<=1000/\(∀k,k<g.d8.c9.length->(pat g k).kind=13->Qc g s k)/\∀H',dI H H'->Q (.bl (de.jv g s)) H'
theorem vA(T:Txt2 mg)(O:gw K c)(oT:eV P w K mg base "diode_agrees" ["setting","solution","k"] 6 (sS c))(G:iI K mg "all_diodes_agree" iW ["setting","solution"]):eV P w K mg base "all_diodes_agree" ["setting","solution"] 7 (nI c):=by
 have sc:=vz;refine G.iX sc fun f cdv A outer s0 H vs Q E hr h=> ?_
 obtain⟨v,u,g,s,rfl,hs,hg,hl,ok,kk⟩:=h;obtain⟨ga,gdx,gvn,gvs,gvst,gvd,gvp,rfl,hga,⟨na,ndx,nvp,rfl,hna,pa,ws,rfl,hpa,hps⟩,_⟩:=id hg;have ll:=hps.length;refine⟨rfl,_,(dh (dW (i:=2) sc.nd (dt K (dt K (pv 0) rfl) rfl))
   (dk (dD (dY (Ga K rfl) rfl T.IP vT (c8 (lH rfl sc.nd (nQ rfl T.jZ (c8 (dY (eJ K) rfl T.gR d7 (c8 (pv 2) dc)) dc)) (fm (own:=[("k",3)]) (by show lL ["setting","solution","parts","k"] (dj iW) _ _=true;decide +kernel)) (fun _ _ _ _ _=>(eZ (i:=3) sc.nd)) (fun _ _ _ _ _=>(Ll (eO ji (dt K (d6 (jH K) (pv 2) (pv 3) (fun _ _=>rfl)) rfl) (gc T.vm) (eH _)))) (fun _ _ _ _ _=>(dz oT hr (c8 (pv 0) (c8 (pv 1) (c8 (pv 3) dc)))))) dc))))),?_⟩
 refine⟨_,rfl,dX hga O.jQ.cl (O.jQ.at_ 0 rfl) rfl (dX hna O.d8.cl (O.d8.at_ 1 rfl) rfl ?_)⟩;refine⟨_,rfl,pa,_,rfl,.inl (.of hpa),_,rfl,by lia,by lia,fun D hD=>mX (mN H 0 _) hD (fun i _ acc=>acc=(((List.range i).filter fun k=>decide ((g.d8.c9.getD k de.p0).kind=13)).map fun k=>V.bl (de.vW g s k))) rfl ?_ ?_⟩
 ·rintro i x H1 H2 acc hi s1 hD1 hacc s2 s12 hD2 rfl;have hi2:i<g.d8.c9.length:=by lia
  obtain⟨y,hy,pb,pbx,rfl,hpb⟩:=hps.kJ (dy (d:=de.p0) hi2);have lf:acc.length<=i:=by
   rw[hacc,lMp];exact ay (cM _ _) (by simp)
  rw[Int.zero_add];refine⟨rfl,⟨_,rfl,_,rfl,lD (.of (s2 _ _ hpa)) (dQ (j:=i) rfl hy) (dX (s2 _ _ hpb) O.part.cl (O.part.at_ 0 rfl) rfl ⟨rfl,_,rfl,?_⟩)⟩⟩;rw[lF];by_cases h13:(g.d8.c9.getD i de.p0).kind=13
  ·rw[ak h13];refine e7 ⟨_,rfl,_,rfl,_,rfl,_,_,g,s,i,rfl,hs.same s2,hg.same s2,ok i hi2 h13,fun H3 s3=> ?_⟩;refine gh hD (s2.trans s3) (s3 _ _ hD2) (dH (by lia)) ?_;rw[hacc,bZ,bN,aP,Wi (ak h13)];rfl
  ·rw[aq h13];refine fh ⟨s2,acc,hD2,?_⟩;rw[hacc,bZ,bN,aP,Wj (aq h13)];simp
 ·intro H1 acc s1 hD1 hacc;have en:((ws.length:Int)).toNat=g.d8.c9.length:=by lia
  rw[en] at hacc;refine⟨D,((List.range g.d8.c9.length).filter fun k=>decide ((g.d8.c9.getD k de.p0).kind=13)).map (de.vW g s),rfl,.of ?_,?_⟩
  ·rw[hD1,hacc,aR];rfl
  ·have:=kk _ s1;unfold de.jv at this;rw[List.all_map];exact this
noncomputable def Nj (c:Cs) (H:Hp) (v:V) (pt:List Bool×(List Int×List (List Int))):Prop:=∃a dx vst vsl,v= .ref a/\H a=some (.ins c.pt dx (WI vst vsl))/\vG H vst pt.1/\sR c H vsl pt.2
theorem Nj.same{H H':Hp}{v:V}{x:List Bool×(List Int×List (List Int))}(h:Nj c H v x)(s:dI H H'):Nj c H' v x:=let ⟨a,dx,vst,vsl,e,q,r1,r2⟩:=h;⟨a,dx,vst,vsl,e,s _ _ q,r1.same s,r2.same s⟩
structure DE(g:de.lJ):Prop where
 WK:Vw g
 l0:0<=g.d8.last
 l1:g.d8.last<=100
 WL:G8 g.d8
 WN:∀k,k<g.d8.c9.length->Mi g k
 WO:PY g
 len:(de.rows g).length<=900
 zC:∀i,i<(de.rows g).length->((de.rows g).getD i []).length=(de.rows g).length+1
 run:Dy (de.rows g).length 0 (de.rows g) [1]
noncomputable def mW (n:de.Nw) (st:List Bool):de.lJ:=⟨n,[],st,n.c9.map fun p=>(p.top,p.dF)⟩
structure Tt(n:de.Nw):Prop where
 c9:n.c9.length<=10
 jQ:∀st∈de.eW n.c9 [[]],DE (mW n st)
 W3:∀st∈de.eW n.c9 [[]],∀s,de.sol (de.rows (mW n st))=some s->∀k,k<n.c9.length->(pat (mW n st) k).kind=13->Qc (mW n st) s k
noncomputable def Wk (c:Cs) (H:Hp) (Q:VK):Option (List Bool×(List Int×List (List Int)))->Prop
 |none=>∀H',dI H H'->Q .jS H'
 |some s=>∀z H',dI H H'->Nj c H' z s->Q z H'
noncomputable abbrev jo:Stmt:=top 89
theorem wL:dE ["network","own","part","states","setting","solution"] ["network"] (dj jo):=sco
noncomputable def oU (c:Cs):Sp:=fun vs H Q _=>∃v n,vs=[v]/\nE c H v n/\Tt n/\Wk c H Q (de.point n)
theorem wM(T:Txt2 mg)(O:gw K c)(mv:eV P w K mg base "rows_of_states" ["parts"] 1 (p9 c))(nX:KH P w K mg base "Setting" c.jQ ["self","network","s","states","drives"] 3 (uN c))(mw:eV P w K mg base "law_rows" ["setting"] 6 (uJ c))(rg:eV P w K mg base "solved" ["rows"] 6 (z4 c))(j8:eV P w K mg base "all_diodes_agree" ["setting","solution"] 7 (nI c))(mx:KH P w K mg base "OperatingPoint" c.pt ["self","states","solution"] 1 (oO c.pt))(G:iI K mg "operating_point" jo ["network"]):eV P w K mg base "operating_point" ["network"] 8 (oU c):=by
 have sc:=wL;refine G.iX sc fun f cdv A outer s0 H vs Q E hr h=> ?_
 obtain⟨v,n,rfl,hn,ok,kk⟩:=h;obtain⟨na,ndx,nvp,rfl,hna,pa,ws,rfl,hpa,hps⟩:=id hn;have ll:=hps.length;have l10:=ok.c9;refine⟨rfl,_,(dh (oa (i:=1) rfl sc.nd rfl rfl (rB rfl rfl rfl rfl) (fu (dt K (pv 0) rfl)) (fm (own:=[("part",2)]) (by show lL ["network","own","part","states","setting","solution"] (dj jo) _ _=true;decide +kernel)) (fun _ _ _ _ _=>(eZ (i:=2) sc.nd)) (fun _ _ _ _ _=>fQ) (fun _ _ _ _ _=>(gq (c8 (dt K (pv 2) rfl) (c8 (dt K (pv 2) rfl) dc)))))
   (dh (gN PassesOwn.never rfl (fu (dz mv hr (c8 (dt K (pv 0) rfl) dc))) (eZ (i:=3) sc.nd) (dh (dW (i:=4) sc.nd (AZ nX hr (c8 (pv 0) (c8 (dP dc) (c8 (pv 3) (c8 (pv 1) dc))))))
   (dh (dW (i:=5) sc.nd (dz rg hr (c8 (dz mw hr (c8 (pv 4) dc)) dc)))
   (dk (fC (PW.pt (JC (FY (Qy (pv 5))) (FZ (fc K (dz j8 hr (c8 (pv 4) (c8 (pv 5) dc))) (fun _=>rfl))))) (dk (dD (AZ mx hr (c8 (pv 3) (c8 (pv 5) dc))))) eh)))))
   (dk (dD JA)))),?_⟩
 refine⟨_,rfl,dX hna O.d8.cl (O.d8.at_ 1 rfl) rfl ⟨pa,rfl,⟨_,.of hpa⟩,fun D hD=>mX (fw (.of hpa)) hD (fun i H' acc=>Paired (Qb H') acc ((n.c9.take i).map fun p=>(p.top,p.dF))) .nil ?_ ?_⟩⟩
 ·rintro i x H1 H2 acc hi s1 hD1 hacc s2 s12 hD2 hx;obtain⟨p,hp,pb,pbx,rfl,hpb⟩:=hps.mU hx;have la:=hacc.length;rw[lMp,aD] at la;have hpb2:=s2 _ _ hpb;refine⟨rfl,⟨_,rfl,dX hpb2 O.part.cl (O.part.at_ 5 rfl) rfl ⟨_,rfl,dX hpb2 O.part.cl (O.part.at_ 6 rfl) rfl ⟨dq (by simp),fun q hq=> ?_⟩⟩⟩⟩;have s3:=du (o:= .tup [.int p.top,.int p.dF]) hq;refine gh hD (s2.trans s3) (s3 _ _ hD2) (dH (by lia)) ?_;rw[d9 _ _ _ _ hp];exact(hacc.fY fun _ _ q=>(q.same (s12.trans s3)).over (s3 _ _ hD2)).iT (Qb.over ⟨q,rfl,di⟩ (s3 _ _ hD2))
 ·intro H1 acc s1 hD1 hacc;rw[ll,aG] at hacc;have hown:Dc H1 (.ref D) (n.c9.map fun p=>(p.top,p.dF)):=⟨D,acc,rfl,hD1,hacc⟩;refine⟨_,rfl,dX (s1 _ _ hna) O.d8.cl (O.d8.at_ 1 rfl) rfl ⟨_,n.c9,rfl,⟨pa,ws,rfl,s1 _ _ hpa,hps.fY fun _ _ z=>z.same s1⟩,l10,fun z H2 s2 hz=> ?_⟩⟩;obtain⟨ra,us,rfl,_,hra,hus⟩:=hz;have s12:=s1.trans s2;have lu:=hus.length;refine⟨ra,rfl,⟨_,.of hra⟩,jt (fw (K:=K) (.of hra)) (fun i σ H'=>∃x2 x3 x4 x5,σ=[some (.ref na),some (.ref D),x2,x3,x4,x5]/\dI H2 H'/\i<=us.length/\de.mH n ((de.eW n.c9 [[]]).drop i)=de.point n) ⟨none,none,none,none,rfl,.refl _,aM _,rfl⟩ (fun i σ H' ⟨_,_,_,_,_,s,_⟩=>s) ?_ ?_⟩
  ·rintro i x σ H3 H4 hi ⟨x2,x3,x4,x5,rfl,s3,hi2,hpo⟩ s4 s34 hx;obtain⟨st,hst,rx⟩:=hus.mU hx;have hmem:=aB hst;have ki:=ok.jQ st hmem;have edrop:(de.eW n.c9 [[]]).drop i=st::(de.eW n.c9 [[]]).drop (i+1):=by
    obtain⟨hlt,e⟩:=bh.mp hst;rw[cV hlt,e]
   rw[edrop] at hpo;have hpo':(match de.sol (de.rows (mW n st)) with
    |none=>de.mH n ((de.eW n.c9 [[]]).drop (i+1))
    |some s=>if de.jv (mW n st) s=true then some (st,s) else de.mH n ((de.eW n.c9 [[]]).drop (i+1)))=de.point n:=hpo
   have s24:=s12.trans s4;refine⟨_,rfl,aM _,fun q hq=> ?_⟩;have s5:=du (o:= .lst []) hq;refine⟨_,rfl,_,rfl,fun ox dx nx nd ne=> ?_⟩;have s6:=s24.trans s5;have hst5:vG (upd H4 q (.lst [])) x st:=(vI.same rx (s4.trans s5)).at_;refine⟨_,ox,dx,_,_,_,_,mW n st,rfl,di,dI.made nx nd (fun b o h _=>h),nx,hn.same s6,⟨q,rfl,di⟩,hst5,hown.same ((s2.trans s4).trans s5),by show n.c9.length<=1000;lia,fun H5 s7 hg=>⟨rfl,?_⟩⟩;have s57:=s5.trans s7;refine⟨_,rfl,_,mW n st,rfl,hg,ki.WK,ki.l0,ki.l1,ki.WL,ki.WN,ki.WO,fun z6 H6 s8 hrows=> ?_⟩;refine⟨_,_,rfl,Mc.less hrows (fun a h=>h.elim),ki.len,ki.zC,ki.run,?_⟩;cases hso:de.sol (de.rows (mW n st)) with
   |none=>
    rw[hso] at hpo';intro H7 s9;refine⟨_,rfl,_,rfl,?_⟩;refine fh (fh ⟨_,_,_,_,rfl,((s4.trans s57).trans s8).trans s9,by lia,hpo'⟩)
   |some sl=>
    rw[hso] at hpo';intro z7 H7 s9 hsl;have ag:=ok.W3 st hmem sl hso;obtain⟨za,zdx,zvd,zvt,rfl,hza,_⟩:=id hsl;refine⟨_,rfl,_,rfl,?_⟩;refine e7 ⟨_,rfl,_,rfl,_,_,mW n st,sl,rfl,hsl,hg.same (s8.trans s9),by show n.c9.length<=1000;lia,ag,fun H8 s10=> ?_⟩;have s20:dI H4 H8:=((s57.trans s8).trans s9).trans s10;refine⟨_,rfl,?_⟩;by_cases hag:de.jv (mW n st) sl=true
    ·rw[hag];have hpo2:some (st,sl)=de.point n:=by
      rw[<-hpo'];show _=if de.jv (mW n st) sl=true then _ else _
      rw[ah hag]
     rw[<-hpo2] at kk;refine e7 ⟨_,rfl,_,rfl,fun ox2 dx2 nx2 nd2 ne2=>⟨ox2,dx2,_,_,rfl,di,fun H9 k9 hx9=>⟨rfl,?_⟩⟩⟩;have s11:dI H8 H9:=dI.made nx2 nd2 k9;exact kk _ _ (s24.trans (s20.trans s11)) ⟨ox2,dx2,x,_,rfl,hx9,(vI.same rx (s4.trans (s20.trans s11))).at_,hsl.same (s10.trans s11)⟩
    ·have hag2:de.jv (mW n st) sl=false:=by simpa using hag
     rw[hag2];refine fh ⟨_,_,_,_,rfl,s4.trans s20,by lia,?_⟩;rw[<-hpo'];show _=if de.jv (mW n st) sl=true then _ else _
     rw[af hag]
  ·rintro σ H3 ⟨x2,x3,x4,x5,rfl,s3,hi2,hpo⟩;rw[List.drop_of_length_le (by lia)] at hpo;have:de.point n=none:=hpo.symm;rw[this] at kk;exact kk _ (s12.trans s3)
end
theorem vals2{a b:Int}{us:List Value}(r:Vals [.int a,.int b] us):∃t t',us=[.int a t,.int b t']:=by
 cases r with
 |cons r1 r=>
  cases r with
  |cons r2 r=>
   cases r
   obtain⟨t,rfl⟩:=r1;obtain⟨t',rfl⟩:=r2;exact⟨t,t',rfl⟩
theorem Tu{a b:Addr}{us:List Value}(r:Vals [.ref a,.ref b] us):us=[.ref a,.ref b]:=by
 cases r with
 |cons r1 r=>
  cases r with
  |cons r2 r=>
   cases r
   cases r1
   cases r2
   rfl
theorem z8{A:Around}{s:Shared}{t1 t:Addr}{a1 b1 a b:Int}{k1 k2 k3 k4:Tok}(hu:A.units<cLine)(h1:IsTup s.heap t1 [Value.int a1 k1,.int b1 k2].toArray)(h:IsTup s.heap t [Value.int a k3,.int b k4].toArray)(hs:t1=t->a1=a/\b1=b):
  SeqAt.EqAt A s (.ref t1) (.ref t) (decide (a1=a/\b1=b)):=by
 by_cases e:t1=t
 ·rw[ak (hs e),e];exact SeqAt.EqAt.same _
 ·have q:=SeqAt.EqAt.of_refs e (SeqAt.RcAt.tuples (e:=fun j=>if j=0 then a1==a else b1==b) h1 h hu (fun j j1 j2=>by
   have hj:j=0\/j=1:=by
    have:j<2:=j1;lia
   rcases hj with rfl |rfl
   ·exact SeqAt.EqAt.int_int a1 k1 a k3
   ·exact SeqAt.EqAt.int_int b1 k2 b k4))
  have e2:((List.range (min [Value.int a1 k1,.int b1 k2].toArray.size [Value.int a k3,.int b k4].toArray.size)).all (fun j=>if j=0 then a1==a else b1==b)&&[Value.int a1 k1,.int b1 k2].toArray.size==[Value.int a k3,.int b k4].toArray.size)=decide (a1=a/\b1=b):=by
   show([0,1].all (fun j=>if j=0 then a1==a else b1==b)&&true)=_;rw[a4];simp
  rw[e2] at q;exact q
noncomputable def Wl (K:PySem.W.Frag):R2:=fun x y H Q=>∃t p t1 t2 a b a1 b1 a2 b2,x= .ref t/\y= .ref p/\BX K H t [.int a,.int b]/\BX K H p [.ref t1,.ref t2]/\BX K H t1 [.int a1,.int b1]/\BX K H t2 [.int a2,.int b2]/\Q (.bl (decide ((a1=a/\b1=b)\/(a2=a/\b2=b)))) H
noncomputable def Vh (t1:Addr) (e1 e2:Bool):Value->Bool
 | .ref x=>if x=t1 then e1 else e2
 |_=>false
theorem Tv{X:Cx}(K:PySem.W.Frag)(hu:X.A.units+64<cLine)(h:X.K=K:=by rfl):vO X (compareOp .In) (Wl K):=by
 subst h;intro pins s σ H x y v u Q I rx ry h;obtain⟨t,p,t1,t2,a,b,a1,b1,a2,b2,rfl,rfl,ht,hp,ht1,ht2,q⟩:=h;cases rx
 cases ry
 obtain⟨its,r,pl,_⟩:=I.tuple ht;obtain⟨its0,r0,pl0,_⟩:=I.tuple hp;obtain⟨its1,r1,pl1,_⟩:=I.tuple ht1;obtain⟨its2,r2,pl2,_⟩:=I.tuple ht2;obtain⟨k3,k4,rfl⟩:=vals2 r;obtain⟨k5,k6,rfl⟩:=vals2 r1;obtain⟨k7,k8,rfl⟩:=vals2 r2;cases Tu r0
 have q1:t1=t->a1=a/\b1=b:=fun e=>by
  subst e;have:=I.yQ ht1 ht;simpa using this
 have q2:t2=t->a2=a/\b2=b:=fun e=>by
  subst e;have:=I.yQ ht2 ht;simpa using this
 have q12:t1=t2->a1=a2/\b1=b2:=fun e=>by
  subst e;have:=I.yQ ht1 ht2;simpa using this
 have hu1:X.A.in1.units<cLine:=by rw[Around.in1_units];lia
 refine SeqAt.in_tupleAt (Vh t1 (decide (a1=a/\b1=b)) (decide (a2=a/\b2=b))) pl0 (fun w hw=> ?_) ⟨.bl _,H,I,rfl,?_⟩
 ·have hw2:w= .ref t1\/w= .ref t2:=by simpa using hw
  rcases hw2 with rfl |rfl
  ·show SeqAt.EqAt _ _ _ _ (if t1=t1 then _ else _);rw[ah rfl];exact z8 hu1 pl1 pl q1
  ·show SeqAt.EqAt _ _ _ _ (if t2=t1 then _ else _);by_cases e:t2=t1
   ·rw[ah e];obtain⟨e1,e2⟩:=q12 e.symm;rw[e1,e2];exact z8 hu1 pl2 pl q2
   ·rw[af e];exact z8 hu1 pl2 pl q2
 ·have e:([Value.ref t1,.ref t2].toArray.any (Vh t1 (decide (a1=a/\b1=b)) (decide (a2=a/\b2=b))))=decide ((a1=a/\b1=b)\/(a2=a/\b2=b)):=by
   show([Value.ref t1,.ref t2].toArray.any _)=_;rw[show([Value.ref t1,.ref t2].toArray.any (Vh t1 (decide (a1=a/\b1=b)) (decide (a2=a/\b2=b))))=(Vh t1 (decide (a1=a/\b1=b)) (decide (a2=a/\b2=b)) (.ref t1) ||Vh t1 (decide (a1=a/\b1=b)) (decide (a2=a/\b2=b)) (.ref t2)) by simp];show((if t1=t1 then _ else _) ||(if t2=t1 then _ else _))=_;rw[ah rfl];by_cases e:t2=t1
   ·rw[ah e];obtain⟨e1,e2⟩:=q12 e.symm;rw[e1,e2];simp
   ·rw[af e,a4];simp
  rw[e];exact q
section
variable {P:Program}{w:World}{K:PySem.W.Frag}{mg:Str->Option Value}{base:Heap}{c:Cs}
noncomputable abbrev z9:Stmt:=top 74
theorem KP:dE ["part","one","other"] ["part","one","other"] (dj z9):=sco
noncomputable def DF (c:Cs):Sp:=fun vs H Q _=>∃v p one other,vs=[v,.int one,.int other]/\gS c H v p/\∀H',dI H H'->Q (.bl (de.jj p one other)) H'
theorem KQ(T:Txt2 mg)(O:gw K c)(G:iI K mg "couples" z9 ["part","one","other"]):eV P w K mg base "couples" ["part","one","other"] 1 (DF c):=by
 have sc:=KP;refine G.iX sc fun f cdv A outer s0 H vs Q E hr h=> ?_
 obtain⟨v,p,one,other,rfl,⟨pb,pbx,rfl,hpb⟩,kk⟩:=h;refine⟨rfl,_,(dh (fC (eO Ay (dt K (pv 0) rfl) (gc T.iU) (eH _)) (dk (dD sL)) eh)
   (dk (dD (gU (Tv K hr.units) (gq (c8 (dt K (pv 0) rfl) (c8 (dt K (pv 0) rfl) dc))) (gq (c8 (gq (c8 (pv 1) (c8 (pv 2) dc))) (c8 (gq (c8 (pv 2) (c8 (pv 1) dc))) dc))) (by with_unfolding_all rfl))))),?_⟩
 unfold de.jj at kk;refine⟨_,rfl,dX hpb O.part.cl (O.part.at_ 0 rfl) rfl ⟨rfl,_,rfl,?_⟩⟩;rw[lF];by_cases h3:p.kind=3
 ·rw[ak h3];rw[af (by simp[h3])] at kk;refine fh ⟨_,rfl,dX hpb O.part.cl (O.part.at_ 1 rfl) rfl ⟨_,rfl,dX hpb O.part.cl (O.part.at_ 2 rfl) rfl ⟨dq (by simp),fun t ht=> ?_⟩⟩⟩;have s1:=du (o:= .tup [.int p.a,.int p.b]) ht;refine⟨_,rfl,_,rfl,dq (by simp),fun t1 ht1=> ?_⟩;have s2:=du (o:= .tup [.int one,.int other]) ht1;refine⟨_,rfl,_,rfl,dq (by simp),fun t2 ht2=> ?_⟩;have s3:=du (o:= .tup [.int other,.int one]) ht2;refine⟨dq (by simp),fun t3 ht3=> ?_⟩;have s4:=du (o:= .tup [.ref t1,.ref t2]) ht3;refine⟨t,t3,t1,t2,p.a,p.b,one,other,other,one,rfl,rfl,.of ((s2.trans (s3.trans s4)) _ _ di),.of di,.of ((s3.trans s4) _ _ di),.of (s4 _ _ di),?_⟩;have e:decide ((one=p.a/\other=p.b)\/(other=p.a/\one=p.b))=decide ((p.a=one/\p.b=other)\/(p.a=other/\p.b=one)):=by
   rw[a4,bf,bf];constructor
   ·rintro(⟨e1,e2⟩ |⟨e1,e2⟩)
    ·exact .inl ⟨e1.symm,e2.symm⟩
    ·exact .inr ⟨e1.symm,e2.symm⟩
   ·rintro(⟨e1,e2⟩ |⟨e1,e2⟩)
    ·exact .inl ⟨e1.symm,e2.symm⟩
    ·exact .inr ⟨e1.symm,e2.symm⟩
  rw[e];exact kk _ (s1.trans (s2.trans (s3.trans s4)))
 ·rw[aq h3];rw[ah h3] at kk;exact e7 (kk _ (.refl _))
end
structure NT(p:de.Part):Prop where
 k0:0<=p.kind
 k1:p.kind<=13
 a0:0<=p.a
 b0:0<=p.b
 c0:0<=p.c
 d0:0<=p.d
 t:p.top.natAbs<=1000000
 b1:1<=p.dF
 b2:p.dF<=1000000
theorem RC{z:Int}(h:z.natAbs<=1000000):Sz 64 z:=by
 unfold Sz;have:(1000000:Nat)<2^64:=by decide
 lia
theorem NT.zt{p:de.Part}(h:NT p):Sz 64 p.top:=RC h.t
theorem NT.zb{p:de.Part}(h:NT p):Sz 64 p.dF:=RC (by have:=h.b1;have:=h.b2;lia)
theorem Wm(k a b d:Int):Lj (.int k) [.int a,.int b,.int d]=decide (k=a\/k=b\/k=d):=by
 rw[a4];simp[Lj,MB];lia
theorem Wn(k a b d e:Int):Lj (.int k) [.int a,.int b,.int d,.int e]=decide (k=a\/k=b\/k=d\/k=e):=by
 rw[a4];simp[Lj,MB];lia
structure Txt4(mg:Str->Option Value):Prop extends Txt3 mg where
 oV:∃t,mg "NO_FAULT"=some (.int 0 t)
 su:∃t,mg "WRONG_NODE"=some (.int 1 t)
 kU:∃t,mg "WRONG_NUMBER"=some (.int 2 t)
 ia:∃t,mg "WRONG_REFERENCE"=some (.int 3 t)
 sv:∃t,mg "MOST_NODES"=some (.int 8 t)
 sy:∃t,mg "MOST_PARTS"=some (.int 10 t)
 qK:∃t,mg "MOST_DIODES"=some (.int 3 t)
 gF:∃t,mg "NUMBERS_OF_A_PART"=some (.int 7 t)
 sC:∃t,mg "LAST_PLACE"=some (.int 63 t)
 wN:∃t,mg "MOST_TOP"=some (.int 1000000 t)
 qL:∃t,mg "MOST_BOTTOM"=some (.int 1000000 t)
theorem Tw(xs:List V)(k:Nat)(h:k<=xs.length):vP xs none (some (k:Int))=xs.take k:=by
 unfold vP;rw[HT.rz,Nat.min_eq_left h];simp[HT.D7]
section
variable {P:Program}{w:World}{K:PySem.W.Frag}{mg:Str->Option Value}{base:Heap}{c:Cs}
noncomputable abbrev wO:Stmt:=top 69
theorem Jd:dE ["part"] ["part"] (dj wO):=sco
noncomputable def A2 (c:Cs):Sp:=fun vs H Q _=>∃v p,vs=[v]/\gS c H v p/\pj H Q (de.gG p)
theorem Je(T:Txt2 mg)(O:gw K c)(G:iI K mg "nodes_of" wO ["part"]):eV P w K mg base "nodes_of" ["part"] 1 (A2 c):=by
 have sc:=Jd;refine G.iX sc fun f cdv A outer s0 H vs Q E hr h=> ?_
 obtain⟨v,p,rfl,⟨pb,pbx,rfl,hpb⟩,kk⟩:=h;refine⟨rfl,_,(dh (fC (eO ji (dt K (pv 0) rfl) (gc T.iU) (eH _)) (dk (dD (dP dc))) eh)
   (dh (fC (eO (JS K) (dt K (pv 0) rfl) (gq (c8 (gc T.jC) (c8 (gc T.jD) (c8 (gc T.i9) (c8 (gc T.pZ) dc))))) (by with_unfolding_all rfl)) (dk (dD (dP (c8 (dt K (pv 0) rfl) (c8 (dt K (pv 0) rfl) (c8 (dt K (pv 0) rfl) (c8 (dt K (pv 0) rfl) dc))))))) eh)
   (dk (dD (dP (c8 (dt K (pv 0) rfl) (c8 (dt K (pv 0) rfl) dc))))))),?_⟩
 unfold de.gG at kk;refine⟨_,rfl,dX hpb O.part.cl (O.part.at_ 0 rfl) rfl ⟨rfl,_,rfl,?_⟩⟩;rw[lF];by_cases h3:p.kind=3
 ·rw[ak h3];rw[ah h3] at kk;exact e7 ⟨aM _,fun q hq=>kk q _ hq (du hq) di⟩
 ·rw[aq h3];rw[af h3] at kk;refine fh ⟨_,rfl,dX hpb O.part.cl (O.part.at_ 0 rfl) rfl ⟨dq (by simp),fun t ht=>⟨t,_,rfl,.inr (.of di),rfl,rfl,_,rfl,?_⟩⟩⟩;show if(Lj (.int p.kind) [.int 6,.int 7,.int 10,.int 11])=true then _ else _
  rw[Wn];have s1:=du (o:= .tup [.int 6,.int 7,.int 10,.int 11]) ht;have h1:=s1 _ _ hpb;by_cases h4:p.kind=6\/p.kind=7\/p.kind=10\/p.kind=11
  ·rw[ak h4];rw[ah h4] at kk;exact e7 ⟨_,rfl,dX h1 O.part.cl (O.part.at_ 1 rfl) rfl ⟨_,rfl,dX h1 O.part.cl (O.part.at_ 2 rfl) rfl ⟨_,rfl,dX h1 O.part.cl (O.part.at_ 3 rfl) rfl ⟨_,rfl,dX h1 O.part.cl (O.part.at_ 4 rfl) rfl ⟨dq (by simp),fun q hq=>kk q _ (s1.free hq) (s1.trans (du hq)) di⟩⟩⟩⟩⟩
  ·rw[aq h4];rw[af h4] at kk;exact fh ⟨_,rfl,dX h1 O.part.cl (O.part.at_ 1 rfl) rfl ⟨_,rfl,dX h1 O.part.cl (O.part.at_ 2 rfl) rfl ⟨dq (by simp),fun q hq=>kk q _ (s1.free hq) (s1.trans (du hq)) di⟩⟩⟩
noncomputable abbrev kW:Stmt:=top 70
theorem wQ:dE ["part"] ["part"] (dj kW):=sco
noncomputable def oW (c:Cs):Sp:=fun vs H Q _=>∃v p,vs=[v]/\gS c H v p/\∀H',dI H H'->Q (.bl (de.lO p)) H'
theorem wR(T:Txt2 mg)(O:gw K c)(G:iI K mg "may_have_number" kW ["part"]):eV P w K mg base "may_have_number" ["part"] 1 (oW c):=by
 have sc:=wQ;refine G.iX sc fun f cdv A outer s0 H vs Q E hr h=> ?_
 obtain⟨v,p,rfl,⟨pb,pbx,rfl,hpb⟩,kk⟩:=h;refine⟨rfl,_,(dh (fC (eO (JS K) (dt K (pv 0) rfl) (gq (c8 (gc T.wC) (c8 (gc T.uC) (c8 (gc T.G4) dc)))) (by with_unfolding_all rfl)) (dk (dD (gU vB (dt K (pv 0) rfl) dC (eH _)))) eh)
   (dh (fC (eO ji (dt K (pv 0) rfl) (gc T.i9) (eH _)) (dk (dD (gU Ay (dt K (pv 0) rfl) dC (eH _)))) eh)
   (dh (fC (eO ji (dt K (pv 0) rfl) (gc T.pZ) (eH _)) (dk (dD (gU ji (dt K (pv 0) rfl) dC (eH _)))) eh)
   (dh (fC (eO ji (dt K (pv 0) rfl) (gc T.Dd) (eH _)) (dk (dD (Ug (gU ji (dt K (pv 0) rfl) dC (eH _)) (BW (gU ji (dt K (pv 0) rfl) (dt K (pv 0) rfl) (eH _)))))) eh)
   (dh (fC (eO ji (dt K (pv 0) rfl) (gc T.vm) (eH _)) (dk (dD (gU Od (dt K (pv 0) rfl) dC (eH _)))) eh)
   (dk (dD sL))))))),?_⟩
 unfold de.lO at kk;refine⟨_,rfl,dX hpb O.part.cl (O.part.at_ 0 rfl) rfl ⟨dq (by simp),fun t ht=>⟨t,_,rfl,.inr (.of di),rfl,rfl,_,rfl,?_⟩⟩⟩;show if(Lj (.int p.kind) [.int 0,.int 1,.int 2])=true then _ else _
 rw[Wm];have s1:=du (o:= .tup [.int 0,.int 1,.int 2]) ht;have h1:=s1 _ _ hpb;have k1:=kk _ s1;clear kk;by_cases h3:p.kind=0\/p.kind=1\/p.kind=2
 ·rw[ak h3];rw[ah h3] at k1;exact e7 ⟨_,rfl,dX h1 O.part.cl (O.part.at_ 5 rfl) rfl (ph k1)⟩
 rw[aq h3];rw[af h3] at k1;refine fh ⟨_,rfl,dX h1 O.part.cl (O.part.at_ 0 rfl) rfl ⟨rfl,_,rfl,?_⟩⟩;rw[lF];by_cases h4:p.kind=10
 ·rw[ak h4];rw[ah h4] at k1;refine e7 ⟨_,rfl,dX h1 O.part.cl (O.part.at_ 5 rfl) rfl ⟨rfl,?_⟩⟩;rw[lF];have e:(!decide (p.top=0))=decide (p.top≠0):=by simp
  rw[e];exact k1
 rw[aq h4];rw[af h4] at k1;refine fh ⟨_,rfl,dX h1 O.part.cl (O.part.at_ 0 rfl) rfl ⟨rfl,_,rfl,?_⟩⟩;rw[lF];by_cases h5:p.kind=11
 ·rw[ak h5];rw[ah h5] at k1;refine e7 ⟨_,rfl,dX h1 O.part.cl (O.part.at_ 5 rfl) rfl ⟨rfl,?_⟩⟩;rw[lF];exact k1
 rw[aq h5];rw[af h5] at k1;refine fh ⟨_,rfl,dX h1 O.part.cl (O.part.at_ 0 rfl) rfl ⟨rfl,_,rfl,?_⟩⟩;rw[lF];by_cases h6:p.kind=12
 ·rw[ak h6];rw[ah h6] at k1;refine e7 ⟨_,rfl,dX h1 O.part.cl (O.part.at_ 5 rfl) rfl ⟨rfl,_,rfl,?_⟩⟩;rw[lF];by_cases h7:p.top=0
  ·rw[ak h7];rw[ak (Or.inl h7)] at k1;exact e7 k1
  ·rw[aq h7];refine fh ⟨_,rfl,dX h1 O.part.cl (O.part.at_ 5 rfl) rfl ⟨_,rfl,dX h1 O.part.cl (O.part.at_ 6 rfl) rfl ⟨rfl,?_⟩⟩⟩;rw[lF];have e:decide (p.top=p.dF)=decide (p.top=0\/p.top=p.dF):=by simp[h7]
   rw[e];exact k1
 rw[aq h6];rw[af h6] at k1;refine fh ⟨_,rfl,dX h1 O.part.cl (O.part.at_ 0 rfl) rfl ⟨rfl,_,rfl,?_⟩⟩;rw[lF];by_cases h8:p.kind=13
 ·rw[ak h8];rw[ah h8] at k1;exact e7 ⟨_,rfl,dX h1 O.part.cl (O.part.at_ 5 rfl) rfl (ph k1)⟩
 rw[aq h8];rw[af h8] at k1;exact fh k1
noncomputable abbrev sD:Stmt:=top 71
theorem Ep:dE ["parts","k","followed"] ["parts","k"] (dj sD):=sco
noncomputable def vK (c:Cs):Sp:=fun vs H Q _=>∃v ps k,vs=[v,.int ((k:Nat):Int)]/\nO c H v ps/\k<ps.length/\0<=(ps.getD k de.p0).c/\∀H',dI H H'->Q (.bl (de.fF ps k)) H'
theorem Er(T:Txt2 mg)(O:gw K c)(G:iI K mg "may_follow" sD ["parts","k"]):eV P w K mg base "may_follow" ["parts","k"] 1 (vK c):=by
 have sc:=Ep;refine G.iX sc fun f cdv A outer s0 H vs Q E hr h=> ?_
 obtain⟨v,ps,k,rfl,⟨pa,ws,rfl,hpa,hps⟩,hk,hc0,kk⟩:=h;refine⟨rfl,_,(dh (fC (eO (MH K) (dt K (d6 (jH K) (pv 0) (pv 1) (fun _ _=>rfl)) rfl) (gq (c8 (gc T.jE) (c8 (gc T.jF) dc))) (by with_unfolding_all rfl)) (dk (dD sL)) eh)
   (dh (dW (i:=2) sc.nd (dt K (d6 (jH K) (pv 0) (pv 1) (fun _ _=>rfl)) rfl))
   (dk (dD (JD (gU Ld (pv 2) (pv 1) (eH _)) (BW (gU Ay (dt K (d6 (jH K) (pv 0) (pv 2) (fun _ _=>rfl)) rfl) (gc T.iU) (eH _)))))))),?_⟩
 obtain⟨x,hx,pb,pbx,rfl,hpb⟩:=hps.kJ (dy (d:=de.p0) hk);refine⟨_,rfl,_,rfl,lD (.of hpa) (dQ (j:=k) rfl hx) (dX hpb O.part.cl (O.part.at_ 0 rfl) rfl ⟨dq (by simp),fun t ht=>⟨t,_,rfl,.inr (.of di),rfl,rfl,_,rfl,?_⟩⟩)⟩;show if(!Lj (.int (ps.getD k de.p0).kind) [.int 8,.int 9])=true then _ else _
 rw[Vf];have s1:=du (o:= .tup [.int 8,.int 9]) ht;have hpa1:=s1 _ _ hpa;have hpb1:=s1 _ _ hpb;have k1:=kk _ s1;clear kk;unfold de.fF at k1;by_cases h1:(ps.getD k de.p0).kind=8\/(ps.getD k de.p0).kind=9
 ·rw[ak h1];simp only[h1,not_true_eq_false,if_false] at k1;refine fh ⟨_,rfl,_,rfl,lD (.of hpa1) (dQ (j:=k) rfl hx) (dX hpb1 O.part.cl (O.part.at_ 3 rfl) rfl ?_)⟩;refine⟨_,rfl,_,rfl,ph ⟨_,rfl,?_⟩⟩;by_cases h2:(ps.getD k de.p0).c<(k:Int)
  ·rw[ak h2] at k1⊢;obtain⟨y,hy,pd,pdx,rfl,hpd⟩:=hps.kJ (dy (d:=de.p0) (show(ps.getD k de.p0).c.toNat<ps.length by lia));refine e7 ⟨_,rfl,_,rfl,lD (.of hpa1) (dQ (j:=(ps.getD k de.p0).c.toNat) (by lia) hy) (dX (s1 _ _ hpd) O.part.cl (O.part.at_ 0 rfl) rfl ⟨rfl,?_⟩)⟩;rw[lF];have e:(!decide ((ps.getD (ps.getD k de.p0).c.toNat de.p0).kind=3))=decide (de.kindAt ps (ps.getD k de.p0).c≠3):=by
    unfold de.kindAt;simp
   rw[e];exact k1
  ·rw[aq h2] at k1⊢;exact fh k1
 ·rw[aq h1];simp only[h1,not_false_eq_true,if_true] at k1;exact e7 k1
noncomputable abbrev my:Stmt:=top 73
theorem yu:dE ["parts","place","k"] ["parts","place","k"] (dj my):=sco
noncomputable def qe (c:Cs):Sp:=fun vs H Q _=>∃v ps i k,vs=[v,.int i,.int ((k:Nat):Int)]/\nO c H v ps/\k<=ps.length/\0<=i/\Q (.bl (de.dU ps i k)) H
theorem yw(T:Txt2 mg)(O:gw K c)(G:iI K mg "is_coil_before" my ["parts","place","k"]):eV P w K mg base "is_coil_before" ["parts","place","k"] 1 (qe c):=by
 have sc:=yu;refine G.iX sc fun f cdv A outer s0 H vs Q E hr h=> ?_
 obtain⟨v,ps,i,k,rfl,⟨pa,ws,rfl,hpa,hps⟩,hk,hi,kk⟩:=h;refine⟨rfl,_,(dk (dD (JD (gU Ld (pv 1) (pv 2) (eH _)) (BW (gU ji (dt K (d6 (jH K) (pv 0) (pv 1) (fun _ _=>rfl)) rfl) (gc T.G4) (eH _)))))),?_⟩;unfold de.dU at kk;refine⟨_,rfl,_,rfl,ph ⟨_,rfl,?_⟩⟩;by_cases h2:i<(k:Int)
 ·rw[ak h2] at kk⊢;obtain⟨y,hy,pd,pdx,rfl,hpd⟩:=hps.kJ (dy (d:=de.p0) (show i.toNat<ps.length by lia));refine e7 ⟨_,rfl,_,rfl,lD (.of hpa) (dQ (j:=i.toNat) (by lia) hy) (dX hpd O.part.cl (O.part.at_ 0 rfl) rfl ⟨rfl,?_⟩)⟩;rw[lF];exact kk
 ·rw[aq h2] at kk⊢;exact fh kk
noncomputable abbrev jf:Stmt:=top 75
theorem sE:dE ["coupling","one","other","squared"] ["coupling","one","other"] (dj jf):=sco
noncomputable def kX (c:Cs):Sp:=fun vs H Q _=>∃v1 v2 v3 p1 p2 p3,vs=[v1,v2,v3]/\gS c H v1 p1/\gS c H v2 p2/\gS c H v3 p3/\NT p1/\NT p2/\NT p3/\Q (.bl (de.tooMuch p1 p2 p3)) H
theorem sF(O:gw K c)(G:iI K mg "is_coupled_too_much" jf ["coupling","one","other"]):eV P w K mg base "is_coupled_too_much" ["coupling","one","other"] 1 (kX c):=by
 have sc:=sE;refine G.iX sc fun f cdv A outer s0 H vs Q E hr h=> ?_
 obtain⟨v1,v2,v3,p1,p2,p3,rfl,⟨a1,x1,rfl,h1⟩,⟨a2,x2,rfl,h2⟩,⟨a3,x3,rfl,h3⟩,i1,i2,i3,kk⟩:=h;refine⟨rfl,_,(dh (dW (i:=3) sc.nd (eX ik (eX ik (eX ik (dt K (pv 0) rfl) (dt K (pv 0) rfl)) (dt K (pv 1) rfl)) (dt K (pv 2) rfl)))
   (dk (dD (gU vB (pv 3) (eX ik (eX ik (eX ik (dt K (pv 1) rfl) (dt K (pv 2) rfl)) (dt K (pv 0) rfl)) (dt K (pv 0) rfl)) (eH _))))),?_⟩
 refine⟨_,rfl,dX h1 O.part.cl (O.part.at_ 5 rfl) rfl ⟨_,rfl,dX h1 O.part.cl (O.part.at_ 5 rfl) rfl (ph ⟨i1.zt.mul i1.zt (by decide),?_⟩)⟩⟩;refine⟨_,rfl,dX h2 O.part.cl (O.part.at_ 6 rfl) rfl (ph ⟨(i1.zt.prod i1.zt).mul i2.zb (by decide),?_⟩)⟩;refine⟨_,rfl,dX h3 O.part.cl (O.part.at_ 6 rfl) rfl (ph ⟨((i1.zt.prod i1.zt).prod i2.zb).mul i3.zb (by decide),?_⟩)⟩;refine⟨_,rfl,_,rfl,dX h2 O.part.cl (O.part.at_ 5 rfl) rfl ⟨_,rfl,dX h3 O.part.cl (O.part.at_ 5 rfl) rfl (ph ⟨i2.zt.mul i3.zt (by decide),?_⟩)⟩⟩;refine⟨_,rfl,dX h1 O.part.cl (O.part.at_ 6 rfl) rfl (ph ⟨(i2.zt.prod i3.zt).mul i1.zb (by decide),?_⟩)⟩;exact⟨_,rfl,dX h1 O.part.cl (O.part.at_ 6 rfl) rfl (ph ⟨((i2.zt.prod i3.zt).prod i1.zb).mul i1.zb (by decide),_,_,rfl,rfl,kk⟩)⟩
noncomputable abbrev jN:Stmt:=top 72
theorem yx:dE ["parts","k","one","other","part"] ["parts","k"] (dj jN):=sco
noncomputable def qf (c:Cs):Sp:=fun vs H Q _=>∃v ps k,vs=[v,.int ((k:Nat):Int)]/\nO c H v ps/\k<ps.length/\ps.length<=1000/\(∀p∈ps,NT p)/\∀H',dI H H'->Q (.int (de.lQ ps k)) H'
theorem yy(T:Txt4 mg)(O:gw K c)(jO:eV P w K mg base "is_coil_before" ["parts","place","k"] 1 (qe c))(Aa:eV P w K mg base "couples" ["part","one","other"] 1 (DF c))(jg:eV P w K mg base "is_coupled_too_much" ["coupling","one","other"] 1 (kX c))(G:iI K mg "coupling_fault" jN ["parts","k"]):eV P w K mg base "coupling_fault" ["parts","k"] 2 (qf c):=by
 have sc:=yx;refine G.iX sc fun f cdv A outer s0 H vs Q E hr h=> ?_
 obtain⟨v,ps,k,rfl,hpp,hk,hl,pin,kk⟩:=h;obtain⟨pa,ws,rfl,hpa,hps⟩:=id hpp;have ll:=hps.length;refine⟨rfl,_,(dh (dW (i:=2) sc.nd (dt K (d6 (jH K) (pv 0) (pv 1) (fun _ _=>rfl)) rfl))
   (dh (dW (i:=3) sc.nd (dt K (d6 (jH K) (pv 0) (pv 1) (fun _ _=>rfl)) rfl))
   (dh (fC (PW.pt (BV (eO ji (pv 2) (pv 3) (eH _)) (BV (kj (fc K (dz jO hr (c8 (pv 0) (c8 (pv 2) (c8 (pv 1) dc)))) (fun _=>rfl))) (yP (kj (fc K (dz jO hr (c8 (pv 0) (c8 (pv 3) (c8 (pv 1) dc)))) (fun _=>rfl))))))) (dk (dD (gc T.ia))) eh)
   (dh (fC (fc K (dY (Lo K rfl) rfl T.Mb B6 (c8 (lH rfl sc.nd (fu (tO (UR K) (pv 0) F3 (rA (pv 1)))) (fm (own:=[("part",4)]) (by show lL ["parts","k","one","other","part"] (dj jN) _ _=true;decide +kernel)) (fun _ _ _ _ _=>(eZ (i:=4) sc.nd)) (fun _ _ _ _ _=>fQ) (fun _ _ _ _ _=>(dz Aa hr (c8 (pv 4) (c8 (pv 2) (c8 (pv 3) dc)))))) dc)) (fun _=>rfl)) (dk (dD (gc T.ia))) eh)
   (dh (fC (fc K (dz jg hr (c8 (d6 (jH K) (pv 0) (pv 1) (fun _ _=>rfl)) (c8 (d6 (jH K) (pv 0) (pv 2) (fun _ _=>rfl)) (c8 (d6 (jH K) (pv 0) (pv 3) (fun _ _=>rfl)) dc)))) (fun _=>rfl)) (dk (dD (gc T.kU))) eh)
   (dk (dD (gc T.oV)))))))),?_⟩
 obtain⟨x,hx,pb,pbx,rfl,hpb⟩:=hps.kJ (dy (d:=de.p0) hk);have ip:=pin _ (aB (dy (d:=de.p0) hk));unfold de.lQ at kk;generalize hp:ps.getD k de.p0=p at hpb ip kk;have iF:∀{A:Prop} {x y:Int},¬A->∀[Decidable A],(if A then x else y)=y:=fun h _=>af h
 refine⟨_,rfl,_,rfl,lD (.of hpa) (dQ (j:=k) rfl hx) (dX hpb O.part.cl (O.part.at_ 1 rfl) rfl ?_)⟩;refine⟨_,rfl,_,rfl,lD (.of hpa) (dQ (j:=k) rfl hx) (dX hpb O.part.cl (O.part.at_ 2 rfl) rfl ?_)⟩;have bad:(p.a=p.b\/de.dU ps p.a k=false\/de.dU ps p.b k=false)->∀H',dI H H'->Q (.int 3) H':=fun h H' s=>by
  have:=kk H' s;simp only[h,if_true] at this;exact this
 refine⟨_,rfl,_,rfl,rfl,_,rfl,?_⟩;rw[lF];by_cases h1:p.a=p.b
 ·rw[ak h1];exact e7 (e7 (bad (.inl h1) _ (.refl _)))
 rw[aq h1];refine fh ⟨_,rfl,_,rfl,_,rfl,_,ps,p.a,k,rfl,hpp,by lia,ip.a0,_,rfl,?_⟩;cases h2:de.dU ps p.a k with
 |false=>exact e7 (e7 (bad (.inr (.inl h2)) _ (.refl _)))
 |true=>
 refine fh ⟨_,rfl,_,rfl,_,rfl,_,ps,p.b,k,rfl,hpp,by lia,ip.b0,_,rfl,?_⟩;cases h3:de.dU ps p.b k with
 |false=>exact e7 (bad (.inr (.inr h3)) _ (.refl _))
 |true=>
 refine fh ?_;have nb:¬(p.a=p.b\/de.dU ps p.a k=false\/de.dU ps p.b k=false):=by
  rintro(h |h |h)
  ·exact h1 h
  ·rw[h2] at h;cases h
  ·rw[h3] at h;cases h
 have k2:∀H',dI H H'->Q (.int (if(ps.take k).any (fun q=>de.jj q p.a p.b)=true then 3 else if de.tooMuch p (ps.getD p.a.toNat de.p0) (ps.getD p.b.toNat de.p0)=true then 2 else 0)) H':=fun H' s=>by
  have:=kk H' s;rw[af nb] at this;exact this
 have ca:p.a.toNat<k:=by
  have h:=h2;unfold de.dU at h;have:=(aF _ _).mp h;have:=az this.1;have:=ip.a0;lia
 have cb:p.b.toNat<k:=by
  have h:=h3;unfold de.dU at h;have:=(aF _ _).mp h;have:=az this.1;have:=ip.b0;lia
 refine⟨_,rfl,_,rfl,_,rfl,pa,_,rfl,.of hpa,fun sa hsa=> ?_⟩;rw[Tw ws k (by lia)];have s1:=du (o:= .lst (ws.take k)) hsa;refine⟨sa,rfl,⟨_,.of di⟩,fun D hD=>mX (fw (.of di)) hD (fun i _ acc=>acc=(((ps.take k).take i).map fun q=>V.bl (de.jj q p.a p.b))) rfl ?_ ?_⟩
 ·rintro i x H1 H2 acc hi s2 hD1 hacc s3 s23 hD2 hx;obtain⟨q,hq,pq⟩:=(hps.PK k).mU hx;have la:acc.length<=i:=by
   rw[hacc,lMp,aD];lia
  have li:i<k:=by rw[aD] at hi;lia
  refine⟨rfl,⟨_,rfl,_,rfl,_,rfl,_,q,p.a,p.b,rfl,pq.same (s1.trans s3),fun H3 s4=> ?_⟩⟩;refine gh hD (s3.trans s4) (s4 _ _ hD2) (dH (by lia)) ?_;rw[hacc,d9 _ _ _ _ hq]
 ·intro H1 acc s2 hD1 hacc;have s3:=s1.trans s2;rw[bo (by rw[aD,aD];lia)] at hacc;refine⟨D,(ps.take k).map fun q=>de.jj q p.a p.b,rfl,.of ?_,_,rfl,?_⟩
  ·rw[hD1,hacc,aR];rfl
  rw[List.any_map];show if((ps.take k).any fun q=>de.jj q p.a p.b)=true then _ else _
  cases h5:(ps.take k).any (fun q=>de.jj q p.a p.b) with
  |true=>
   have:=k2 _ s3;rw[h5] at this;exact e7 this
  |false=>
   refine fh ?_;obtain⟨y,hy,py⟩:=hps.kJ (dy (d:=de.p0) (show p.a.toNat<ps.length by lia));obtain⟨z,hz,pz⟩:=hps.kJ (dy (d:=de.p0) (show p.b.toNat<ps.length by lia));have hpa3:=s3 _ _ hpa;refine⟨_,rfl,_,rfl,lD (.of hpa3) (dQ (j:=k) rfl hx) ⟨_,rfl,_,rfl,lD (.of hpa3) (dQ (j:=p.a.toNat) (by have:=ip.a0;lia) hy) ⟨_,rfl,_,rfl,lD (.of hpa3) (dQ (j:=p.b.toNat) (by have:=ip.b0;lia) hz) ⟨_,_,_,p,_,_,rfl,⟨pb,pbx,rfl,s3 _ _ hpb⟩,py.same s3,pz.same s3,ip,pin _ (aB (dy (d:=de.p0) (show p.a.toNat<ps.length by lia))),pin _ (aB (dy (d:=de.p0) (show p.b.toNat<ps.length by lia))),_,rfl,?_⟩⟩⟩⟩;have k3:=k2 _ s3;rw[h5] at k3;rw[af (by simp)] at k3;cases h6:de.tooMuch p (ps.getD p.a.toNat de.p0) (ps.getD p.b.toNat de.p0) with
   |true=>
    rw[h6] at k3;exact e7 k3
   |false=>
    rw[h6] at k3;exact fh k3
noncomputable abbrev sG:Stmt:=top 68
theorem Jf:dE ["network","k","part","node"] ["network","k"] (dj sG):=sco
noncomputable def A3 (c:Cs):Sp:=fun vs H Q _=>∃v n k,vs=[v,.int ((k:Nat):Int)]/\nE c H v n/\k<n.c9.length/\n.c9.length<=1000/\(∀p∈n.c9,NT p)/\∀H',dI H H'->Q (.int (de.gH n k)) H'
theorem Jg(p:de.Part):(de.gG p).length<=4:=by
 unfold de.gG;split
 ·simp
 ·split <;>simp
theorem Jh(T:Txt4 mg)(O:gw K c)(wU:eV P w K mg base "nodes_of" ["part"] 1 (A2 c))(kY:eV P w K mg base "may_have_number" ["part"] 1 (oW c))(sH:eV P w K mg base "may_follow" ["parts","k"] 1 (vK c))(mz:eV P w K mg base "coupling_fault" ["parts","k"] 2 (qf c))(G:iI K mg "fault_of" sG ["network","k"]):eV P w K mg base "fault_of" ["network","k"] 3 (A3 c):=by
 have sc:=Jf;refine G.iX sc fun f cdv A outer s0 H vs Q E hr h=> ?_
 obtain⟨v,n,k,rfl,hn,hk,hl,pin,kk⟩:=h;obtain⟨na,ndx,nvp,rfl,hna,pa,ws,rfl,hpa,hps⟩:=id hn;refine⟨rfl,_,(dh (dW (i:=2) sc.nd (d6 (jH K) (dt K (pv 0) rfl) (pv 1) (fun _ _=>rfl)))
   (dh (fC (fc K (dY (Lo K rfl) rfl T.Mb B6 (c8 (lH rfl sc.nd (fu (dz wU hr (c8 (pv 2) dc))) (fm (own:=[("node",3)]) (by show lL ["network","k","part","node"] (dj sG) _ _=true;decide +kernel)) (fun _ _ _ _ _=>(eZ (i:=3) sc.nd)) (fun _ _ _ _ _=>fQ) (fun _ _ _ _ _=>(gU vB (pv 3) (dt K (pv 0) rfl) (eH _)))) dc)) (fun _=>rfl)) (dk (dD (gc T.su))) eh)
   (dh (fC (kj (fc K (dz kY hr (c8 (pv 2) dc)) (fun _=>rfl))) (dk (dD (gc T.kU))) eh)
   (dh (fC (kj (fc K (dz sH hr (c8 (dt K (pv 0) rfl) (c8 (pv 1) dc))) (fun _=>rfl))) (dk (dD (gc T.ia))) eh)
   (dh (fC (eO ji (dt K (pv 2) rfl) (gc T.iU) (eH _)) (dk (dD (dz mz hr (c8 (dt K (pv 0) rfl) (c8 (pv 1) dc))))) eh)
   (dk (dD (gc T.oV)))))))),?_⟩
 obtain⟨x,hx,px⟩:=hps.kJ (dy (d:=de.p0) hk);obtain⟨pb,pbx,rfl,hpb⟩:=id px;have ip:=pin _ (aB (dy (d:=de.p0) hk));unfold de.gH at kk;have nl:=Jg (n.c9.getD k de.p0);refine⟨_,rfl,dX hna O.d8.cl (O.d8.at_ 1 rfl) rfl ⟨_,rfl,lD (.of hpa) (dQ (j:=k) rfl hx) ?_⟩⟩;refine⟨_,rfl,_,_,rfl,px,fun la H1 hla s1 hla1=> ?_⟩;refine⟨la,rfl,⟨_,.of hla1⟩,fun D hD=>mX (fw (.of hla1)) hD (fun i _ acc=>acc=(((de.gG (n.c9.getD k de.p0)).take i).map fun q=>V.bl (decide (n.last<q)))) rfl ?_ ?_⟩
 ·rintro i x H2 H3 acc hi s2 hD2 hacc s3 s23 hD3 hx;obtain⟨q,hq,rfl⟩:=hZ hx;have la:acc.length<=i:=by
   rw[hacc,lMp,aD];lia
  have li:i<4:=by rw[lMp] at hi;lia
  refine⟨rfl,⟨_,rfl,_,rfl,dX ((s1.trans s3) _ _ hna) O.d8.cl (O.d8.at_ 0 rfl) rfl (ph ?_)⟩⟩;refine gh hD s3 hD3 (dH (by lia)) ?_;rw[hacc,d9 _ _ _ _ hq]
 ·intro H2 acc s2 hD2 hacc;have s3:=s1.trans s2;rw[lMp,aG] at hacc;refine⟨D,(de.gG (n.c9.getD k de.p0)).map fun q=>decide (n.last<q),rfl,.of ?_,_,rfl,?_⟩
  ·rw[hD2,hacc,aR];rfl
  rw[List.any_map];show if((de.gG (n.c9.getD k de.p0)).any fun q=>decide (n.last<q))=true then _ else _
  by_cases h1:((de.gG (n.c9.getD k de.p0)).any fun q=>decide (n.last<q))=true
  ·have:=kk _ s3;rw[ah h1] at this;rw[h1];exact e7 this
  rw[show((de.gG (n.c9.getD k de.p0)).any fun q=>decide (n.last<q))=false by simpa using h1];simp only[af h1] at kk;refine fh ⟨_,rfl,_,_,rfl,px.same s3,fun H4 s4=>⟨_,rfl,?_⟩⟩;have s34:=s3.trans s4;cases h2:de.lO (n.c9.getD k de.p0) with
  |false=>
   have:=kk _ s34;rw[ah h2] at this;exact e7 this
  |true=>
  simp only[af (show ¬de.lO (n.c9.getD k de.p0)=false by rw[h2];simp)] at kk;refine fh ⟨_,rfl,dX (s34 _ _ hna) O.d8.cl (O.d8.at_ 1 rfl) rfl ⟨_,rfl,_,n.c9,k,rfl,⟨pa,ws,rfl,s34 _ _ hpa,hps.fY fun _ _ z=>z.same s34⟩,hk,ip.c0,fun H5 s5=>⟨_,rfl,?_⟩⟩⟩;have s35:=s34.trans s5;cases h3:de.fF n.c9 k with
  |false=>
   have:=kk _ s35;rw[ah h3] at this;exact e7 this
  |true=>
  simp only[af (show ¬de.fF n.c9 k=false by rw[h3];simp)] at kk;refine fh ⟨_,rfl,dX (s35 _ _ hpb) O.part.cl (O.part.at_ 0 rfl) rfl ⟨rfl,_,rfl,?_⟩⟩;rw[lF];by_cases h4:(n.c9.getD k de.p0).kind=3
  ·rw[ak h4];simp only[ah h4] at kk;exact e7 ⟨_,rfl,dX (s35 _ _ hna) O.d8.cl (O.d8.at_ 1 rfl) rfl ⟨_,rfl,_,n.c9,k,rfl,⟨pa,ws,rfl,s35 _ _ hpa,hps.fY fun _ _ z=>z.same s35⟩,hk,hl,pin,fun H6 s6=>kk _ (s35.trans s6)⟩⟩
  ·rw[aq h4];simp only[af h4] at kk;exact fh (kk _ s35)
noncomputable abbrev qM:Stmt:=top 67
theorem DG:dE ["network","k","fault"] ["network"] (dj qM):=sco
noncomputable def uV (c:Cs):Sp:=fun vs H Q _=>∃v n,vs=[v]/\nE c H v n/\n.c9.length<=1000/\(∀p∈n.c9,NT p)/\pj H Q (de.fault n)
theorem DH(T:Txt4 mg)(O:gw K c)(wV:eV P w K mg base "fault_of" ["network","k"] 3 (A3 c))(G:iI K mg "first_fault" qM ["network"]):eV P w K mg base "first_fault" ["network"] 4 (uV c):=by
 have sc:=DG;refine G.iX sc fun f cdv A outer s0 H vs Q E hr h=> ?_
 obtain⟨v,n,rfl,hn,hl,pin,kk⟩:=h;obtain⟨na,ndx,nvp,rfl,hna,pa,ws,rfl,hpa,hps⟩:=id hn;have ll:=hps.length;refine⟨rfl,_,(dh (gN PassesOwn.never rfl (nQ rfl T.jZ (c8 (dY (eJ K) rfl T.gR d7 (c8 (dt K (pv 0) rfl) dc)) dc)) (eZ (i:=1) sc.nd) (dh (dW (i:=2) sc.nd (dz wV hr (c8 (pv 0) (c8 (pv 1) dc))))
   (dk (fC (eO Ay (pv 2) (gc T.oV) (eH _)) (dk (dD (dP (c8 (pv 1) (c8 (pv 2) dc))))) eh))))
   (dk (dD (dP dc)))),?_⟩
 refine⟨_,rfl,dX hna O.d8.cl (O.d8.at_ 1 rfl) rfl ⟨pa,_,rfl,.inl (.of hpa),_,rfl,by lia,by lia,?_⟩⟩;have en:((ws.length:Int)).toNat=n.c9.length:=by lia
 rw[en];refine jt (mN H _ _) (fun i σ H'=>∃x1 x2,σ=[some (.ref na),x1,x2]/\dI H H'/\i<=n.c9.length/\de.jk n (n.c9.length - i)=de.fault n) ⟨none,none,rfl,.refl _,aM _,rfl⟩ (fun i σ H' ⟨_,_,_,s,_⟩=>s) ?_ ?_
 ·rintro i x σ H1 H2 hi ⟨x1,x2,rfl,s1,hi2,hf⟩ s2 s12 rfl;rw[Int.zero_add];obtain⟨m,em⟩:∃m,n.c9.length - i=m+1:=⟨n.c9.length - i - 1,by lia⟩;have ek:n.c9.length - (m+1)=i:=by lia
  have em2:n.c9.length - (i+1)=m:=by lia
  rw[em] at hf;have hf2:(if de.gH n i≠0 then[(i:Int),de.gH n i] else de.jk n m)=de.fault n:=by
   rw[<-hf];show _=if de.gH n (n.c9.length - (m+1))≠0 then[((n.c9.length - (m+1):Nat):Int),de.gH n (n.c9.length - (m+1))] else de.jk n m
   rw[ek]
  refine⟨_,rfl,_,rfl,_,n,i,rfl,hn.same s2,hi,hl,pin,fun H3 s3=> ?_⟩;refine⟨_,rfl,rfl,_,rfl,?_⟩;rw[lF];by_cases h0:de.gH n i=0
  ·rw[ak h0];rw[af (fun h=>h h0)] at hf2;refine fh ⟨_,_,rfl,s2.trans s3,by lia,?_⟩;rw[em2];exact hf2
  ·rw[aq h0];rw[ah h0] at hf2;rw[<-hf2] at kk;exact e7 ⟨_,rfl,_,rfl,dq (by simp),fun q hq=>kk q _ ((s2.trans s3).free hq) ((s2.trans s3).trans (du hq)) di⟩
 ·rintro σ H1 ⟨x1,x2,rfl,s1,hi2,hf⟩;rw[cj] at hf;have:de.fault n=[]:=hf.symm;rw[this] at kk;exact⟨aM _,fun q hq=>kk q _ (s1.free hq) (s1.trans (du hq)) di⟩
end
noncomputable def Wo (n:Nat):Bool:=Builtin.Range.small 1 (n:Int) 7&&decide (Builtin.Range.rangeSize 1 (n:Int) 7=(((n - 1+6) / 7:Nat):Int))
theorem Qe:(List.range 200).all (fun n=>Wo (n+1))=true:=by decide +kernel
theorem Wq{n:Nat}(h1:1<=n)(h2:n<=200):UN 1 (n:Int) 7 ((n - 1+6) / 7):=by
 have h:=bc.mp Qe (n - 1) (aW.mpr (by lia));have e:n - 1+1=n:=by lia
 rw[e] at h;obtain⟨a,b⟩:=(aF _ _).mp h;exact⟨by decide,by decide,a,az b⟩
theorem Wr(l:List Int)(i:Nat)(h:1+7*i<=l.length):vP (l.map V.int) (some ((1+7*i:Nat):Int)) (some ((1+7*i+7:Nat):Int))=(((l.drop (1+7*i)).take 7).map V.int):=by
 unfold vP;rw[HT.rz,HT.rz,lMp,Nat.min_eq_left h,List.map_take,List.map_drop];by_cases h2:1+7*i+7<=l.length
 ·rw[Nat.min_eq_left h2];have e:1+7*i+7 - (1+7*i)=7:=by lia
  rw[e]
 ·rw[Nat.min_eq_right (by lia),bo (by simp),bo (by simp;lia)]
theorem Vi(l:List Int)(h:l.length=7):vP (l.map V.int) (some 1) (some 5)=(((l.drop 1).take 4).map V.int):=by
 show vP (l.map V.int) (some ((1:Nat):Int)) (some ((5:Nat):Int))=_;unfold vP;rw[HT.rz,HT.rz,lMp,h,List.map_take,List.map_drop];rfl
theorem kZ(l:List Int):(de.dM l).length=(l.length - 1+6) / 7:=by
 unfold de.dM;simp
theorem yz(l:List Int)(i:Nat)(h:i<(l.length - 1+6) / 7):(de.dM l)[i]? =some ((l.drop (1+7*i)).take 7):=by
 unfold de.dM;rw[aC,bF h];rfl
theorem sI(l:List Int)(h:(l.length - 1) % 7=0):∀r∈de.dM l,r.length=7:=fun r hr=>by
 obtain⟨i,hi,e⟩:=aY hr;rw[kZ] at hi;have q:=yz l i hi;rw[aa (by rw[kZ];exact hi),e] at q;cases q
 rw[aD,bE];lia
theorem RD(z:Int)(m:Nat):decide ((if z<0 then -z else z)<=(m:Int))=decide (z.natAbs<=m):=by
 rw[a4,bf,bf];split <;>lia
theorem FK(l:List Int)(h:0<l.length):(l.map V.int)[0]? =some (V.int (l.headD 0)):=by
 cases l with
 |nil=>simp at h
 |cons a l=>rfl
section
variable {P:Program}{w:World}{K:PySem.W.Frag}{mg:Str->Option Value}{base:Heap}{c:Cs}
noncomputable abbrev qg:Stmt:=top 108
theorem He:dE ["net","start"] ["net"] (dj qg):=sco
noncomputable def sJ (K:PySem.W.Frag):Sp:=fun vs H Q _=>∃a l,vs=[.ref a]/\kg K H a (l.map V.int)/\1<=l.length/\l.length<=200/\∀z H',dI H H'->uA FF H' z (de.dM l)->Q z H'
theorem Hf(T:Txt4 mg)(G:iI K mg "part_rows" qg ["net"]):eV P w K mg base "part_rows" ["net"] 1 (sJ K):=by
 have sc:=He;refine G.iX sc fun f cdv A outer s0 H vs Q E hr h=> ?_
 obtain⟨a,l,rfl,ha,l1,l2,kk⟩:=h;refine⟨rfl,_,(dk (dD (lH rfl sc.nd (EO rfl T.jZ (c8 dC (c8 (dY (eJ K) rfl T.gR d7 (c8 (pv 0) dc)) (c8 (gc T.gF) dc)))) (fm (own:=[("start",1)]) (by show lL ["net","start"] (dj qg) _ _=true;decide +kernel)) (fun _ _ _ _ _=>(eZ (i:=1) sc.nd)) (fun _ _ _ _ _=>fQ) (fun _ _ _ _ _=>(tO (UR K) (pv 0) (rA (pv 1)) (rA (eX kn (pv 1) (gc T.gF)))))))),?_⟩;refine⟨_,rfl,a,_,rfl,.inl ha,_,_,_,_,rfl,?_,fun D hD=>mX (ER H 1 7 ((l.length - 1+6) / 7)) hD (fun i H' acc=>Paired (tj (fP FF D) H') acc ((de.dM l).take i)) .nil ?_ ?_⟩
 ·rw[lMp];exact Wq l1 l2
 ·rintro i x H1 H2 acc hi s1 hD1 hacc s2 s12 hD2 rfl;have lacc:=hacc.length;rw[aD,kZ] at lacc;have e1:(1:Int)+(i:Nat)*7=((1+7*i:Nat):Int):=by lia
  have e2:(((1+7*i:Nat):Int))+7=((1+7*i+7:Nat):Int):=by lia
  rw[e1];refine⟨rfl,⟨_,rfl,_,rfl,_,rfl,_,rfl,ph ⟨_,rfl,a,_,rfl,s2.seq ha,fun q hq=> ?_⟩⟩⟩;dsimp only[];rw[e2,Wr l i (by lia)];have s3:=du (o:= .lst (((l.drop (1+7*i)).take 7).map V.int)) hq;have nq:¬fP FF D q:=fun h=>h.elim (fun y=>y) (fun y=>by rw[y,hD2] at hq;cases hq)
  refine gh hD (s2.trans s3) (s3 _ _ hD2) (dH (by lia)) ?_;rw[a5 (l:=de.dM l),yz l i hi];exact((hacc.i5 gC (s12.trans s3)).uB gC (fI (.inr rfl))).iT (gC.off ⟨q,rfl,nq,di⟩ (fI (.inr rfl)))
 ·intro H1 acc s1 hD1 hacc;rw[bo (by rw[kZ];exact aj _)] at hacc;exact kk _ _ s1 ⟨D,acc,rfl,fun z=>z,hD1,hacc.NR gC⟩
noncomputable abbrev mL:Stmt:=top 109
theorem DI:dE ["row","place"] ["row"] (dj mL):=sco
noncomputable def uW:Sp:=fun vs H Q _=>∃v r,vs=[v]/\fD H v r/\r.length=7/\∀H',dI H H'->Q (.bl (de.iu r)) H'
theorem DJ(T:Txt4 mg)(G:iI K mg "is_part_row" mL ["row"]):eV P w K mg base "is_part_row" ["row"] 1 uW:=by
 have sc:=DI;refine G.iX sc fun f cdv A outer s0 H vs Q E hr h=> ?_
 obtain⟨v,r,rfl,⟨a,rfl,ha⟩,hl,kk⟩:=h;refine⟨rfl,_,(dh (fC (kj (BZ qQ qQ dC (d6 (jH K) (pv 0) dC (fun _ _=>rfl)) (gc T.uD))) (dk (dD sL)) eh)
   (dh (fC (kj (fc K (dY (Ga K rfl) rfl T.IP vT (c8 (lH rfl sc.nd (fu (tO (UR K) (pv 0) (rA dC) (rA dC))) (fm (own:=[("place",1)]) (by show lL ["row","place"] (dj mL) _ _=true;decide +kernel)) (fun _ _ _ _ _=>(eZ (i:=1) sc.nd)) (fun _ _ _ _ _=>fQ) (fun _ _ _ _ _=>(HA qQ qQ dC (pv 1) (gc T.sC)))) dc)) (fun _=>rfl))) (dk (dD sL)) eh)
   (dk (dD (JD (gU qQ (dY B2 rfl T.IQ vU (c8 (d6 (jH K) (pv 0) dC (fun _ _=>rfl)) dc)) (gc T.wN) (eH _)) (BW (HA qQ qQ dC (d6 (jH K) (pv 0) dC (fun _ _=>rfl)) (gc T.qL)))))))),?_⟩
 unfold de.iu at kk;refine⟨_,rfl,lD (.of ha) (dQ (j:=0) rfl (ju (by lia))) (ph ⟨_,rfl,?_⟩)⟩;have bad:¬(0<=r.getD 0 0/\r.getD 0 0<=13)->Q (.bl false) H:=fun h=>by
  have:=kk _ (.refl _);rw[ah h] at this;exact this
 by_cases h0:0<=r.getD 0 0
 rotate_left
 ·rw[aq h0];exact fh ⟨_,rfl,e7 (bad fun h=>h0 h.1)⟩
 rw[ak h0];refine e7 (ph ⟨_,rfl,?_⟩);by_cases h1:r.getD 0 0<=13
 rotate_left
 ·rw[aq h1];exact e7 (bad fun h=>h1 h.2)
 rw[ak h1];refine fh ?_;simp only[af (show ¬¬(0<=r.getD 0 0/\r.getD 0 0<=13) from fun h=>h ⟨h0,h1⟩)] at kk;refine⟨_,rfl,_,rfl,_,rfl,a,_,rfl,.of ha,fun sa hsa=> ?_⟩;rw[Vi r hl];have s1:=du (o:= .lst (((r.drop 1).take 4).map V.int)) hsa;have l4:((r.drop 1).take 4).length=4:=by simp;lia
 refine⟨sa,rfl,⟨_,.of di⟩,fun D hD=>mX (fw (.of di)) hD (fun i _ acc=>acc=((((r.drop 1).take 4).take i).map fun p=>V.bl (decide (0<=p/\p<=63)))) rfl ?_ ?_⟩
 ·rintro i x H1 H2 acc hi s2 hD1 hacc s3 s23 hD2 hx;obtain⟨q,hq,rfl⟩:=hZ hx;have li:i<4:=by rw[lMp] at hi;lia
  have la:acc.length<=4:=by rw[hacc,lMp,aD];lia
  refine⟨rfl,⟨_,rfl,ph ⟨_,rfl,?_⟩⟩⟩;by_cases q0:0<=q
  rotate_left
  ·rw[aq q0];refine fh (gh hD s3 hD2 (dH (by lia)) ?_);rw[hacc,d9 _ _ _ _ hq,aq (fun h=>q0 h.1)]
  ·rw[ak q0];refine e7 (ph (gh hD s3 hD2 (dH (by lia)) ?_));rw[hacc,d9 _ _ _ _ hq];have e:decide (0<=q/\q<=63)=decide (q<=63):=by simp[q0]
   rw[e]
 ·intro H1 acc s2 hD1 hacc;have s3:=s1.trans s2;rw[lMp,aG] at hacc;refine⟨D,((r.drop 1).take 4).map fun p=>decide (0<=p/\p<=63),rfl,.of ?_,_,rfl,?_⟩
  ·rw[hD1,hacc,aR];rfl
  rw[List.all_map];show if(!((r.drop 1).take 4).all fun p=>decide (0<=p/\p<=63))=true then _ else _
  have k3:=kk _ s3;by_cases h2:(((r.drop 1).take 4).all fun p=>decide (0<=p/\p<=63))=true
  rotate_left
  ·rw[ah h2] at k3;rw[show(((r.drop 1).take 4).all fun p=>decide (0<=p/\p<=63))=false by simpa using h2];exact e7 k3
  rw[af (fun h=>h h2)] at k3;rw[h2];have ha3:=s3 _ _ ha;refine fh ⟨_,rfl,lD (.of ha3) (dQ (j:=5) rfl (ju (by lia))) ⟨_,rfl,ph ⟨_,rfl,?_⟩⟩⟩;show if(decide ((if r.getD 5 0<0 then -r.getD 5 0 else r.getD 5 0)<=((1000000:Nat):Int)))=true then _ else _
  rw[RD];by_cases h3:(r.getD 5 0).natAbs<=1000000
  rotate_left
  ·rw[aq h3] at k3⊢;exact fh k3
  rw[ak h3] at k3⊢;refine e7 ⟨_,rfl,lD (.of ha3) (dQ (j:=6) rfl (ju (by lia))) (ph ⟨_,rfl,?_⟩)⟩;by_cases h4:1<=r.getD 6 0
  rotate_left
  ·rw[aq h4];rw[aq (show ¬(1<=r.getD 6 0/\r.getD 6 0<=1000000) from fun h=>h4 h.1)] at k3;exact fh k3
  rw[ak h4];refine e7 (ph ?_);have e:(true&&decide (1<=r.getD 6 0/\r.getD 6 0<=1000000))=decide (r.getD 6 0<=1000000):=by
   rw[Bool.true_and,a4,bf,bf];lia
  rw[e] at k3;exact k3
noncomputable abbrev iH:Stmt:=top 107
theorem yA:dE ["net","rows","row"] ["net"] (dj iH):=sco
noncomputable def qh (K:PySem.W.Frag):Sp:=fun vs H Q _=>∃a l,vs=[.ref a]/\kg K H a (l.map V.int)/\l.length<=200/\∀H',dI H H'->Q (.bl (de.nA l)) H'
theorem yB(T:Txt4 mg)(kf:eV P w K mg base "part_rows" ["net"] 1 (sJ K))(qN:eV P w K mg base "is_part_row" ["row"] 1 uW)(G:iI K mg "is_network_row" iH ["net"]):eV P w K mg base "is_network_row" ["net"] 2 (qh K):=by
 have sc:=yA;refine G.iX sc fun f cdv A outer s0 H vs Q E hr h=> ?_
 obtain⟨a,l,rfl,ha,l2,kk⟩:=h;refine⟨rfl,_,(dh (fC (PW.pt (BV (eO ji (dY (eJ K) rfl T.gR d7 (c8 (pv 0) dc)) dC (eH _)) (yP (kj (BZ qQ qQ dC (d6 (jH K) (pv 0) dC (fun _ _=>rfl)) (gc T.sv)))))) (dk (dD sL)) eh)
   (dh (fC (eO Ay (eX Ob (eX nZ (dY (eJ K) rfl T.gR d7 (c8 (pv 0) dc)) dC) (gc T.gF)) dC (eH _)) (dk (dD sL)) eh)
   (dh (dW (i:=1) sc.nd (dz kf hr (c8 (pv 0) dc)))
   (dh (fC (eO vB (dY (eJ K) rfl T.gR d7 (c8 (pv 1) dc)) (gc T.sy) (eH _)) (dk (dD sL)) eh)
   (dh (fC (kj (fc K (dY (Ga K rfl) rfl T.IP vT (c8 (lH rfl sc.nd (fu (pv 1)) (fm (own:=[("row",2)]) (by show lL ["net","rows","row"] (dj iH) _ _=true;decide +kernel)) (fun _ _ _ _ _=>(eZ (i:=2) sc.nd)) (fun _ _ _ _ _=>fQ) (fun _ _ _ _ _=>(dz qN hr (c8 (pv 2) dc)))) dc)) (fun _=>rfl))) (dk (dD sL)) eh)
   (dk (dD (gU qQ (dY (eJ K) rfl T.gR d7 (c8 (lH rfl sc.nd (fu (pv 1)) (fm (own:=[("row",2)]) (by show lL ["net","rows","row"] (dj iH) _ _=true;decide +kernel)) (fun _ _ _ _ _=>(eZ (i:=2) sc.nd)) (fun _ _ _ _ _=>(Ll (eO ji (d6 (jH K) (pv 2) dC (fun _ _=>rfl)) (gc T.vm) (eH _)))) (fun _ _ _ _ _=>(pv 2))) dc)) (gc T.qK) (eH _))))))))),?_⟩
 unfold de.nA at kk;have bad:(l.length=0\/¬(1<=l.headD 0/\l.headD 0<=8))->Q (.bl false) H:=fun h=>by
  have:=kk _ (.refl _);rw[ah h] at this;exact this
 refine⟨_,rfl,a,_,rfl,.inl ha,rfl,_,rfl,?_⟩;rw[lF,lMp];by_cases h0:l.length=0
 ·rw[ak (show((l.length:Nat):Int)=0 by lia)];exact e7 (e7 (bad (.inl h0)))
 rw[aq (show ¬((l.length:Nat):Int)=0 by lia)];refine fh ⟨_,rfl,lD ha (dQ (j:=0) rfl (FK l (by lia))) (ph ⟨_,rfl,?_⟩)⟩;by_cases h1:1<=l.headD 0
 rotate_left
 ·rw[aq h1];exact fh ⟨_,rfl,e7 (bad (.inr fun h=>h1 h.1))⟩
 rw[ak h1];refine e7 (ph ⟨_,rfl,?_⟩);by_cases h2:l.headD 0<=8
 rotate_left
 ·rw[aq h2];exact e7 (bad (.inr fun h=>h2 h.2))
 rw[ak h2];refine fh ?_;simp only[af (show ¬(l.length=0\/¬(1<=l.headD 0/\l.headD 0<=8)) from fun h=>h.elim h0 fun h=>h ⟨h1,h2⟩)] at kk;refine⟨_,rfl,a,_,rfl,.inl ha,_,_,rfl,rfl,ph ⟨(by show(0:Int)<7;decide),rfl,_,rfl,?_⟩⟩;rw[lF,lMp];by_cases h3:(l.length - 1) % 7=0
 rotate_left
 ·rw[aq (show ¬((((l.length:Nat):Int) - 1) % 7=0) by lia)];have:=kk _ (.refl _);rw[ah h3] at this;exact e7 this
 rw[ak (show(((l.length:Nat):Int) - 1) % 7=0 by lia)];refine fh ?_;simp only[af (show ¬(l.length - 1) % 7≠0 from fun h=>h h3)] at kk;refine⟨_,rfl,a,l,rfl,ha,by lia,l2,fun z H1 s1 hz=> ?_⟩;obtain⟨ra,rv,rfl,_,hra,hrv⟩:=hz;have lr:=hrv.length;have l7:=sI l h3;refine⟨_,rfl,ra,_,rfl,.inl (.of hra),_,_,rfl,rfl,_,rfl,?_⟩;rw[lr];by_cases h4:10<(de.dM l).length
 ·rw[ak (show(((de.dM l).length:Nat):Int)>10 by lia)];have:=kk _ s1;rw[ah h4] at this;exact e7 this
 rw[aq (show ¬(((de.dM l).length:Nat):Int)>10 by lia)];refine fh ?_;simp only[af h4] at kk;refine⟨_,rfl,ra,rfl,⟨_,.of hra⟩,fun D hD=>mX (fw (.of hra)) hD (fun i _ acc=>acc=(((de.dM l).take i).map fun r=>V.bl (de.iu r))) rfl ?_ ?_⟩
 ·rintro i x H2 H3 acc hi s2 hD2 hacc s3 s23 hD3 hx;obtain⟨r,hr',pr⟩:=hrv.mU hx;have la:acc.length<=i:=by rw[hacc,lMp,aD];lia
  refine⟨rfl,⟨_,rfl,_,r,rfl,(gC.same pr s3).at_,l7 r (aB hr'),fun H4 s4=> ?_⟩⟩;refine gh hD (s3.trans s4) (s4 _ _ hD3) (dH (by lia)) ?_;rw[hacc,d9 _ _ _ _ hr']
 ·intro H2 acc s2 hD2 hacc;have s3:=s1.trans s2;rw[lr,aG] at hacc;refine⟨D,(de.dM l).map de.iu,rfl,.of ?_,_,rfl,?_⟩
  ·rw[hD2,hacc,aR];rfl
  rw[List.all_map];show if(!(de.dM l).all de.iu)=true then _ else _
  by_cases h5:(de.dM l).all de.iu=true
  rotate_left
  ·rw[show(de.dM l).all de.iu=false by simpa using h5];have:=kk _ s3;rw[ah h5] at this;exact e7 this
  rw[h5];refine fh ?_;simp only[af (fun h:¬(de.dM l).all de.iu=true=>h h5)] at kk;have hra2:=s2 _ _ hra;refine⟨_,rfl,ra,rfl,⟨_,.of hra2⟩,fun D2 hDD=>mX (fw (.of hra2)) hDD (fun i _ acc=>acc.length=(((de.dM l).take i).filter fun r=>decide (r.getD 0 0=13)).length) rfl ?_ ?_⟩
  ·rintro i x H4 H5 acc hi s4 hD4 hacc s5 s45 hD5 hx;obtain⟨r,hr',xa,rfl,_,hxa⟩:=hrv.mU hx;have hxa5:=s5 _ _ (s2 _ _ hxa);have r7:=l7 r (aB hr');have la:acc.length<=i:=by
    rw[hacc];refine ay (cM _ _) ?_;rw[aD];lia
   have et:(de.dM l).take (i+1)=(de.dM l).take i ++ [r]:=by
    rw[a5,hr'];rfl
   refine⟨rfl,⟨_,rfl,lD (.of hxa5) (dQ (j:=0) rfl (ju (by lia))) ⟨rfl,_,rfl,?_⟩⟩⟩;rw[lF];by_cases h13:r.getD 0 0=13
   ·rw[ak h13];refine e7 ⟨_,rfl,gh hDD s5 hD5 (dH (by lia)) ?_⟩;rw[et,bN,aA,aA,hacc,aS (by exact ak h13)];rfl
   ·rw[aq h13];refine fh ⟨s5,acc,hD5,?_⟩;show acc.length=_;rw[et,bN,aA,hacc,aX (by rw[aq h13];simp)];rfl
  ·intro H4 acc s4 hD4 hacc;rw[lr,aG] at hacc;refine⟨D2,_,rfl,.inl (.of hD4),_,_,rfl,rfl,?_⟩;have k4:=kk _ (s3.trans s4);have e:decide (((de.dM l).filter fun r=>decide (r.getD 0 0=13)).length<=3)=decide (((acc.length:Nat):Int)<=3):=by
    rw[a4,bf,bf];lia
   rw[e] at k4;exact k4
noncomputable abbrev lg:Stmt:=top 110
theorem Bj:dE ["net","row"] ["net"] (dj lg):=sco
noncomputable def nu (K:PySem.W.Frag) (c:Cs):Sp:=fun vs H Q _=>∃a l,vs=[.ref a]/\kg K H a (l.map V.int)/\1<=l.length/\l.length<=200/\(l.length - 1) % 7=0/\∀z H',dI H H'->nE c H' z (de.fb l)->Q z H'
theorem gS.over{H:Hp}{v:V}{p:de.Part}{D:Addr}{vs us:List V}(h:gS c H v p)(hD:H D=some (.lst vs)):gS c (upd H D (.lst us)) v p:=let ⟨t,dx,e,q⟩:=h;⟨t,dx,e,by rw[d4 (Hu q hD (by intro z;cases z))];exact q⟩
theorem Bk(T:Txt4 mg)(O:gw K c)(kf:eV P w K mg base "part_rows" ["net"] 1 (sJ K))(Ab:KH P w K mg base "Part" c.part ["self","numbers"] 1 (Dt K c.part))(nY:KH P w K mg base "Network" c.d8 ["self","last_node","parts"] 1 (uL c.d8))(G:iI K mg "read_network" lg ["net"]):eV P w K mg base "read_network" ["net"] 3 (nu K c):=by
 have sc:=Bj;refine G.iX sc fun f cdv A outer s0 H vs Q E hr h=> ?_
 obtain⟨a,l,rfl,ha,l1,l2,h7,kk⟩:=h;refine⟨rfl,_,(dk (dD (AZ nY hr (c8 (d6 (jH K) (pv 0) dC (fun _ _=>rfl)) (c8 (lH rfl sc.nd (fu (dz kf hr (c8 (pv 0) dc))) (fm (own:=[("row",1)]) (by show lL ["net","row"] (dj lg) _ _=true;decide +kernel)) (fun _ _ _ _ _=>(eZ (i:=1) sc.nd)) (fun _ _ _ _ _=>fQ) (fun _ _ _ _ _=>(AZ Ab hr (c8 (pv 1) dc)))) dc))))),?_⟩;refine⟨_,rfl,lD ha (dQ (j:=0) rfl (FK l (by lia))) ?_⟩;refine⟨_,rfl,a,l,rfl,ha,l1,l2,fun z H1 s1 hz=> ?_⟩;obtain⟨ra,rv,rfl,_,hra,hrv⟩:=hz;have lr:=hrv.length;have l7:=sI l h7;have ln:=kZ l;refine⟨ra,rfl,⟨_,.of hra⟩,fun D hD=>mX (fw (.of hra)) hD (fun i H' acc=>Paired (gS c H') acc (((de.dM l).take i).map de.Part.of)) .nil ?_ ?_⟩
 ·rintro i x H2 H3 acc hi s2 hD2 hacc s3 s23 hD3 hx;obtain⟨r,hr',xa,rfl,_,hxa⟩:=hrv.mU hx;have la:=hacc.length;rw[lMp,aD] at la;refine⟨rfl,⟨_,rfl,fun ox dx nx nd ne=> ?_⟩⟩;have s4:dI H3 (upd (upd H3 dx (.own ox)) ox (.ins c.part dx [])):=dI.made nx nd (fun b o h _=>h);refine⟨ox,dx,xa,r,rfl,di,s4 _ _ (s3 _ _ hxa),l7 r (aB hr'),fun H4 k4 hx4=>⟨rfl,?_⟩⟩;have s5:dI H3 H4:=dI.made nx nd k4;have hD4:=s5 _ _ hD3;refine gh hD (s3.trans s5) hD4 (dH (by lia)) ?_;rw[d9 _ _ _ _ hr'];exact(hacc.fY fun _ _ q=>(q.same (s23.trans s5)).over hD4).iT (gS.over ⟨ox,dx,rfl,hx4⟩ hD4)
 ·intro H2 acc s2 hD2 hacc;rw[lr,aG] at hacc;refine fun ox dx nx nd ne=>⟨ox,dx,_,_,rfl,di,fun H3 k3 hx3=>⟨rfl,?_⟩⟩
  have s3:dI H2 H3:=dI.made nx nd k3;exact kk _ _ ((s1.trans s2).trans s3) ⟨ox,dx,_,rfl,hx3,D,acc,rfl,s3 _ _ hD2,hacc.fY fun _ _ q=>q.same s3⟩
end
theorem Nk{r:List Int}(h:de.iu r=true)(h7:r.length=7):NT (de.Part.of r):=by
 unfold de.iu at h;by_cases h0:0<=r.getD 0 0/\r.getD 0 0<=13
 rotate_left
 ·rw[ah h0] at h;cases h
 rw[af (fun q=>q h0)] at h;by_cases h1:((r.drop 1).take 4).all (fun p=>decide (0<=p/\p<=63))=true
 rotate_left
 ·rw[ah h1] at h;cases h
 rw[af (fun q=>q h1)] at h;obtain⟨h2,h3⟩:=(aF _ _).mp h;have h2:=az h2;have h3:=az h3;match r,h7 with
 |[a,b,d,e,f,g,k],_=>
  have q:=bc.mp h1;have q1:=az (q b (by simp));have q2:=az (q d (by simp));have q3:=az (q e (by simp));have q4:=az (q f (by simp));exact⟨h0.1,h0.2,q1.1,q2.1,q3.1,q4.1,h2,h3.1,h3.2⟩
structure W4(l:List Int):Prop where
 len:1<=l.length
 m7:(l.length - 1) % 7=0
 l1:1<=l.headD 0
 l8:l.headD 0<=8
 c9:(de.fb l).c9.length<=10
 pin:∀p∈(de.fb l).c9,NT p
theorem DK{l:List Int}(h:de.nA l=true):W4 l:=by
 unfold de.nA at h;by_cases h0:l.length=0\/¬(1<=l.headD 0/\l.headD 0<=8)
 ·rw[ah h0] at h;cases h
 rw[af h0] at h;by_cases h1:(l.length - 1) % 7=0
 rotate_left
 ·rw[ah h1] at h;cases h
 rw[af (fun q=>q h1)] at h;by_cases h2:10<(de.dM l).length
 ·rw[ah h2] at h;cases h
 rw[af h2] at h;by_cases h3:(de.dM l).all de.iu=true
 rotate_left
 ·rw[ah h3] at h;cases h
 have hh:1<=l.headD 0/\l.headD 0<=8:=cz fun q=>h0 (.inr q)
 have hl:¬l.length=0:=fun q=>h0 (.inl q)
 refine⟨by lia,h1,hh.1,hh.2,?_,fun p hp=> ?_⟩
 ·show((de.dM l).map de.Part.of).length<=10;rw[lMp];lia
 ·obtain⟨r,hr,rfl⟩:=aL.mp (show p∈(de.dM l).map de.Part.of from hp);exact Nk (bc.mp h3 r hr) (sI l h1 r hr)
section
variable {P:Program}{w:World}{K:PySem.W.Frag}{mg:Str->Option Value}{base:Heap}{c:Cs}
noncomputable abbrev mC:Stmt:=top 119
theorem yC:dE ["net","fault"] ["net"] (dj mC):=sco
noncomputable def qi (K:PySem.W.Frag):Sp:=fun vs H Q _=>∃a l,vs=[.ref a]/\kg K H a (l.map V.int)/\l.length<=200/\uQ H Q (de.fq l)
theorem yD(T:Txt4 mg)(mD:eV P w K mg base "is_network_row" ["net"] 2 (qh K))(gT:eV P w K mg base "read_network" ["net"] 3 (nu K c))(qO:eV P w K mg base "first_fault" ["network"] 4 (uV c))(G:iI K mg "refusal_of_net" mC ["net"]):eV P w K mg base "refusal_of_net" ["net"] 5 (qi K):=by
 have sc:=yC;refine G.iX sc fun f cdv A outer s0 H vs Q E hr h=> ?_
 obtain⟨a,l,rfl,ha,l2,kk⟩:=h;refine⟨rfl,_,(dh (fC (kj (fc K (dz mD hr (c8 (pv 0) dc)) (fun _=>rfl))) (dk (dD (dP (c8 (jT ie dC) dc)))) eh)
   (dh (dW (i:=1) sc.nd (dz qO hr (c8 (dz gT hr (c8 (pv 0) dc)) dc)))
   (dk (dD (mM (fc K (pv 1) (fun _=>rfl)) (eX ql (dP (c8 (jT ie dC) dc)) (pv 1)) (dP dc)))))),?_⟩
 unfold de.fq at kk;refine⟨_,rfl,a,l,rfl,ha,l2,fun H1 s1=>⟨_,rfl,?_⟩⟩;cases hn:de.nA l with
 |false=>
  rw[ah hn] at kk;exact e7 ⟨_,rfl,dq (by simp),fun p hp=>kk _ _ (s1.trans (du hp)) ⟨p,rfl,di⟩⟩
 |true=>
  rw[af (by rw[hn];simp)] at kk;have ni:=DK hn;refine fh ⟨_,rfl,a,l,rfl,s1.seq ha,ni.len,l2,ni.m7,fun z H2 s2 hz=> ?_⟩;refine⟨_,de.fb l,rfl,hz,by have:=ni.c9;lia,ni.pin,fun q H3 hq s3 hq3=> ?_⟩;have s13:=(s1.trans s2).trans s3;refine⟨_,rfl,_,Eg hq3,?_⟩;cases hf:de.fault (de.fb l) with
  |nil=>
   rw[hf] at kk;exact fh ⟨aM _,fun p hp=>kk _ _ (s13.trans (du hp)) ⟨p,rfl,di⟩⟩
  |cons x xs=>
   rw[hf] at kk hq3;refine e7 ⟨_,rfl,dq (by simp),fun p hp=> ?_⟩;have s4:=du (o:= .lst [.int (-2)]) hp;have lx:xs.length<=1:=by
    have:∀m,(de.jk (de.fb l) m).length<=2:=fun m=>by
     induction m with
     |zero=>simp[de.jk]
     |succ m ih=>
      unfold de.jk;dsimp only[];split
      ·simp
      ·exact ih
    have:=this (de.fb l).c9.length;unfold de.fault at hf;rw[hf,au] at this;lia
   refine⟨_,rfl,p,q,_,_,rfl,rfl,di,s4 _ _ hq3,dq (by simp;lia),fun p2 hp2=> ?_⟩;exact kk _ _ (s13.trans (s4.trans (du hp2))) ⟨p2,rfl,di⟩
end
section
variable {X:Cx}
theorem Mj(K:PySem.W.Frag)(hc:X.calm=true)(h:X.K=K:=by rfl):ny X (.builtin "max") (UJ K):=by subst h;exact SN hc
end
structure Ws(mg:Str->Option Value):Prop extends Txt4 mg where
noncomputable def WQ (H:Hp) (v:V) (z:Int×Int):Prop:=∃a,v= .ref a/\H a=some (.tup [.int z.1,.int z.2])
section
variable {P:Program}{w:World}{K:PySem.W.Frag}{mg:Str->Option Value}{base:Heap}{c:Cs}
noncomputable abbrev lh:Stmt:=top 114
theorem Bl:dE ["network","kind","pairs","more","pair"] ["network","kind","pairs"] (dj lh):=sco
noncomputable def sU (c:Cs):Sp:=fun vs H Q _=>∃v u n kind prs,vs=[v,.int kind,u]/\nE c H v n/\Dc H u prs/\n.c9.length<=1000/\prs.length<=1000/\∀z H',dI H H'->nE c H' z (de.more n (prs.map fun x=>de.jK kind x.1 x.2 0))->Q z H'
theorem Bm(O:gw K c)(Ab:KH P w K mg base "Part" c.part ["self","numbers"] 1 (Dt K c.part))(nY:KH P w K mg base "Network" c.d8 ["self","last_node","parts"] 1 (uL c.d8))(G:iI K mg "with_sources" lh ["network","kind","pairs"]):eV P w K mg base "with_sources" ["network","kind","pairs"] 3 (sU c):=by
 have sc:=Bl;refine G.iX sc fun f cdv A outer s0 H vs Q E hr h=> ?_
 obtain⟨v,u,n,kind,prs,rfl,hn,⟨ra,rv,rfl,hra,hrv⟩,l1,l2,kk⟩:=h;refine⟨rfl,_,(dh (oa (i:=3) rfl sc.nd rfl rfl (rB rfl rfl rfl rfl) (fu (pv 2)) (fm (own:=[("pair",4)]) (by show lL ["network","kind","pairs","more","pair"] (dj lh) _ _=true;decide +kernel)) (fun _ _ _ _ _=>(eZ (i:=4) sc.nd)) (fun _ _ _ _ _=>fQ) (fun _ _ _ _ _=>(AZ Ab hr (c8 (dP (c8 (pv 1) (c8 (d6 (Qu K) (pv 4) dC (fun _ _=>rfl)) (c8 (d6 (Qu K) (pv 4) dC (fun _ _=>rfl)) (c8 dC (c8 dC (c8 dC (c8 dC dc)))))))) dc))))
   (dk (dD (AZ nY hr (c8 (dt K (pv 0) rfl) (c8 (eX ql (dt K (pv 0) rfl) (pv 3)) dc)))))),?_⟩
 have lr:=hrv.length;refine⟨_,rfl,ra,rfl,⟨_,.of hra⟩,fun D hD=>mX (fw (.of hra)) hD (fun i H' acc=>Paired (gS c H') acc ((prs.take i).map fun x=>de.jK kind x.1 x.2 0)) .nil ?_ ?_⟩
 ·rintro i x H2 H3 acc hi s2 hD2 hacc s3 s23 hD3 hx;obtain⟨r,hr',t,rfl,ht⟩:=hrv.mU hx;have la:=hacc.length;rw[lMp,aD] at la;have ht3:=s3 _ _ ht;refine⟨rfl,⟨_,rfl,_,rfl,lD (.of ht3) (dQ (j:=0) rfl rfl) ⟨_,rfl,lD (.of ht3) (dQ (j:=1) rfl rfl) ⟨dq (by show 7<=16777216;decide),fun q hq=>fun ox dx nx nd ne=> ?_⟩⟩⟩⟩;have s4:=du (o:= .lst ([kind,r.1,r.2,0,0,0,1].map V.int)) hq;have s5:dI (upd H3 q (.lst ([kind,r.1,r.2,0,0,0,1].map V.int))) (upd (upd (upd H3 q (.lst ([kind,r.1,r.2,0,0,0,1].map V.int))) dx (.own ox)) ox (.ins c.part dx [])):=dI.made nx nd (fun b o h _=>h);refine⟨ox,dx,q,[kind,r.1,r.2,0,0,0,1],rfl,di,s5 _ _ di,rfl,fun H4 k4 hx4=>⟨rfl,?_⟩⟩;have s6:dI (upd H3 q (.lst ([kind,r.1,r.2,0,0,0,1].map V.int))) H4:=dI.made nx nd k4;have s46:=s4.trans s6;have hD4:=s46 _ _ hD3;refine gh hD (s3.trans s46) hD4 (dH (by lia)) ?_;rw[d9 _ _ _ _ hr'];exact(hacc.fY fun _ _ q=>(q.same (s23.trans s46)).over hD4).iT (gS.over ⟨ox,dx,rfl,hx4⟩ hD4)
 ·intro H2 acc s2 hD2 hacc;rw[lr,aG] at hacc;obtain⟨na,ndx,nvp,rfl,hna,pa,ws,rfl,hpa,hps⟩:=id hn;have lw:=hps.length;have la:=hacc.length;rw[lMp] at la;have hna2:=s2 _ _ hna;refine⟨_,rfl,dX hna2 O.d8.cl (O.d8.at_ 0 rfl) rfl ⟨_,rfl,dX hna2 O.d8.cl (O.d8.at_ 1 rfl) rfl ⟨_,rfl,pa,D,_,_,rfl,rfl,s2 _ _ hpa,hD2,dq (by lia),fun p hp=> ?_⟩⟩⟩;have s3:=du (o:= .lst (ws ++ acc)) hp;refine fun ox dx nx nd ne=>⟨ox,dx,_,_,rfl,di,fun H3 k3 hx3=>⟨rfl,?_⟩⟩
  have s4:dI _ H3:=dI.made nx nd k3;refine kk _ _ (s2.trans (s3.trans s4)) ⟨ox,dx,_,rfl,hx3,p,_,rfl,s4 _ _ di,?_⟩;exact(hps.fY fun _ _ q=>q.same (s2.trans (s3.trans s4))).app (hacc.fY fun _ _ q=>q.same (s3.trans s4))
noncomputable abbrev wW:Stmt:=top 112
theorem Ji:dE ["network","states","into","wider"] ["network","states","into"] (dj wW):=sco
noncomputable def A4 (c:Cs):Sp:=fun vs H Q _=>∃v u z n st x,vs=[v,u,z]/\nE c H v n/\vG H u st/\WQ H z x/\n.c9.length<=100/\st.length<=1000/\DE (de.Ed n st x)/\I0 c H Q (de.sol (de.rows (de.Ed n st x)))
theorem I0.of{H H1:Hp}{Q:VK}{o:Option (List Int×List (List Int))}(k:I0 c H Q o)(s:dI H H1):I0 c H1 Q o:=by
 cases o with
 |none=>exact fun H' s'=>k H' (s.trans s')
 |some x=>exact fun z H' s' h=>k z H' (s.trans s') h
theorem Jj(T:Ws mg)(O:gw K c)(oX:eV P w K mg base "with_sources" ["network","kind","pairs"] 3 (sU c))(mE:eV P w K mg base "driven_setting" ["network","states","source"] 5 (p8 c))(mw:eV P w K mg base "law_rows" ["setting"] 6 (uJ c))(rg:eV P w K mg base "solved" ["rows"] 6 (z4 c))(G:iI K mg "put_into" wW ["network","states","into"]):eV P w K mg base "put_into" ["network","states","into"] 8 (A4 c):=by
 have sc:=Ji;refine G.iX sc fun f cdv A outer s0 H vs Q E hr h=> ?_
 obtain⟨v,u,z,n,st,x,rfl,hn,⟨ua,rfl,hu⟩,⟨t,rfl,ht⟩,l1,l2,si,kk⟩:=h;refine⟨rfl,_,(dh (dW (i:=3) sc.nd (dz oX hr (c8 (pv 0) (c8 (gc T.md) (c8 (dP (c8 (gq (c8 (d6 (Qu K) (pv 2) dC (fun _ _=>rfl)) (c8 (d6 (Qu K) (pv 2) dC (fun _ _=>rfl)) dc))) dc)) dc)))))
   (dk (dD (dz rg hr (c8 (dz mw hr (c8 (dz mE hr (c8 (pv 3) (c8 (eX ql (pv 1) (dP (c8 sL dc))) (c8 (dY (eJ K) rfl T.gR d7 (c8 (dt K (pv 0) rfl) dc)) dc)))) dc)) dc))))),?_⟩
 refine⟨_,rfl,_,rfl,lD (.of ht) (dQ (j:=1) rfl rfl) ⟨_,rfl,lD (.of ht) (dQ (j:=0) rfl rfl) ⟨dq (by show 2<=16777216;decide),fun q hq=>⟨dq (by show 1<=16777216;decide),fun q2 hq2=> ?_⟩⟩⟩⟩;have s1:=du (o:= .tup [.int x.2,.int x.1]) hq;have s2:=du (o:= .lst [.ref q]) hq2;have s12:=s1.trans s2;refine⟨_,_,n,5,[(x.2,x.1)],rfl,hn.same s12,⟨q2,_,rfl,di,.cons ⟨q,rfl,s2 _ _ di⟩ .nil⟩,by lia,by show 1<=1000;decide,fun zw H3 s3 hzw=> ?_⟩;have s13:=s12.trans s3;refine⟨_,rfl,_,rfl,dq (by show 1<=16777216;decide),fun q3 hq3=> ?_⟩;have s4:=du (o:= .lst [.bl false]) hq3;have s14:=s13.trans s4;refine⟨ua,q3,_,_,rfl,rfl,s14 _ _ hu,di,dq (by rw[lMp];show st.length+1<=_;lia),fun q4 hq4=> ?_⟩;have es:st.map V.bl ++ [.bl false]=(st ++ [false]).map V.bl:=by rw[aP];rfl
 rw[es];have s5:=du (o:= .lst ((st ++ [false]).map V.bl)) hq4;have s15:=s14.trans s5;obtain⟨na,ndx,nvp,rfl,hna,pa,ws,rfl,hpa,hps⟩:=id hn;have lw:=hps.length;refine⟨_,rfl,dX (s15 _ _ hna) O.d8.cl (O.d8.at_ 1 rfl) rfl ⟨pa,_,rfl,.inl (.of (s15 _ _ hpa)),?_⟩⟩;rw[lw];refine⟨_,_,_,st ++ [false],(n.c9.length:Int),rfl,hzw.same (s4.trans s5),⟨q4,rfl,di⟩,?_,fun zg H6 s6 hzg=> ?_⟩
 ·show(n.c9 ++ [_]).length<=1000;rw[aA];show n.c9.length+1<=1000;lia
 refine⟨_,_,rfl,hzg,si.WK,si.l0,si.l1,si.WL,si.WN,si.WO,fun zt H7 s7 hzt=> ?_⟩;exact⟨_,_,rfl,Mc.less hzt (fun a h=>h.elim),si.len,si.zC,si.run,kk.of (s15.trans (s6.trans s7))⟩
structure RE(T B:List Int):Prop where
 sT:Short T
 sB:Short B
 tT:de.Trim T
 tB:de.Trim B
 ne:B≠[]
 ok:T≠[]->Wa T B
noncomputable abbrev DL:Stmt:=top 113
theorem Nl:dE ["solution","across"] ["solution","across"] (dj DL):=sco
noncomputable def FL (c:Cs):Sp:=fun vs H Q _=>∃v z s x,vs=[v,z]/\sR c H v s/\WQ H z x/\uT s/\x.1<=s.2.length/\x.2<=s.2.length/\RE (de.jl s x.1 x.2) s.1/\pj H Q (de.C1 s x)
theorem Nm(O:gw K c)(gM:eV P w K mg base "difference_top" ["solution","first","second"] 4 (kQ c))(nv:eV P w K mg base "told_quotient" ["top","bottom"] 43 qZ)(G:iI K mg "told_z" DL ["solution","across"]):eV P w K mg base "told_z" ["solution","across"] 44 (FL c):=by
 have sc:=Nl;refine G.iX sc fun f cdv A outer s0 H vs Q E hr h=> ?_
 obtain⟨v,z,s,x,rfl,hs,⟨t,rfl,ht⟩,sh,x1,x2,td,kk⟩:=h;refine⟨rfl,_,(dk (dD (dz nv hr (c8 (dz gM hr (c8 (pv 0) (c8 (d6 (Qu K) (pv 1) dC (fun _ _=>rfl)) (c8 (d6 (Qu K) (pv 1) dC (fun _ _=>rfl)) dc)))) (c8 (dt K (pv 0) rfl) dc))))),?_⟩;refine⟨_,rfl,_,rfl,lD (.of ht) (dQ (j:=0) rfl rfl) ⟨_,rfl,lD (.of ht) (dQ (j:=1) rfl rfl) ?_⟩⟩;refine⟨_,s,x.1,x.2,rfl,hs,sh,x1,x2,fun zd H1 s1 hzd=> ?_⟩;obtain⟨ya,ydx,vd,vt,rfl,hya,hvd,_⟩:=id hs;refine⟨_,rfl,dX (s1 _ _ hya) O.sol.cl (O.sol.at_ 0 rfl) rfl ?_⟩;exact⟨_,_,_,s.1,rfl,hzd,hvd.same s1,td.sT,td.sB,td.tT,td.tB,td.ne,td.ok,kk.of s1⟩
end
section
variable {X:Cx}{a b:Expr}{ta tb:TE}{pos:Pos}{rest:List Expr}
theorem Tx(K:PySem.W.Frag)(ha:PE X a ta)(hb:PE X (.BoolOp .Or (b::rest) pos) tb)(h:X.K=K:=by rfl):PE X (.BoolOp .Or (a::b::rest) pos) (fun σ H Q=>ta σ H fun x H1=>∃k,Og K x H1 k/\if k=true then Q x H1 else tb σ H1 Q):=by
 subst h;intro pins s σ H Q I h;refine BoolOp_or (ic (ha pins s σ H _ I h) fun v s1 ⟨x,H1,I1,r1,k,hk,q1⟩=> ?_);refine ic (Oh pins s1 σ H1 x v (fun c H'=>c=k/\H'=H1) I1 r1 ⟨k,hk,rfl,rfl⟩) fun c s2 ⟨H2,I2,e1,e2⟩=> ?_
 subst e1;subst e2;cases c with
 |true=>exact⟨x,H2,I2,r1,q1⟩
 |false=>exact hb pins s2 σ H2 Q I2 q1
end
noncomputable def Nn (H:Hp) (v:V) (l:List (List Int)):Prop:=∃a vs,v= .ref a/\H a=some (.lst vs)/\Paired (fD H) vs l
theorem Nn.same{H H':Hp}{v:V}{l:List (List Int)}(h:Nn H v l)(s:dI H H'):Nn H' v l:=let ⟨a,vs,e,q,r⟩:=h;⟨a,vs,e,s _ _ q,r.fY fun _ _ z=>z.same s⟩
noncomputable def Sd (l:List Int):PyData:= .list (l.map .int)
noncomputable def Vj (l:List (List Int)):PyData:= .list (l.map Sd)
theorem Vk:∀l m:List Int,PyData.eqvAll (l.map .int) (m.map .int)=decide (l=m)
 |[],[]=>rfl
 |[],_::_=>rfl
 |_::_,[]=>rfl
 |a::l,b::m=>by
  rw[aH,aH,PyData.eqvAll,PyData.eqv,Vk l m,a4];simp
theorem Vl:∀l m:List (List Int),PyData.eqvAll (l.map Sd) (m.map Sd)=decide (l=m)
 |[],[]=>rfl
 |[],_::_=>rfl
 |_::_,[]=>rfl
 |a::l,b::m=>by
  rw[aH,aH,PyData.eqvAll,Vl l m];unfold Sd;rw[PyData.eqv,Vk,a4];simp
theorem Tz:∀l:List Int,PyData.canLayAll0 (l.map .int)=true/\PyData.depthAll (l.map .int)=0
 |[]=>⟨rfl,rfl⟩
 |a::l=>by
  obtain⟨h1,h2⟩:=Tz l;rw[aH,PyData.canLayAll0,PyData.depthAll,h1,h2];exact⟨rfl,rfl⟩
theorem TC:∀l:List (List Int),PyData.canLayAll0 (l.map Sd)=true/\PyData.depthAll (l.map Sd)<=1
 |[]=>⟨rfl,aM _⟩
 |a::l=>by
  obtain⟨h1,h2⟩:=TC l;rw[aH,PyData.canLayAll0,PyData.depthAll,h1];unfold Sd;rw[PyData.canLay0,PyData.depth,(Tz a).1,(Tz a).2];exact⟨rfl,Nat.max_le.mpr ⟨aj _,h2⟩⟩
theorem WR(l:List (List Int)):SeqAt.shaped (Vj l)=true:=by
 unfold SeqAt.shaped Vj;rw[PyData.canLay0,PyData.depth,(TC l).1,Bool.true_and];exact ak (by have:=(TC l).2;lia)
theorem WS{K:PySem.W.Frag}{H:Hp}:∀l:List Int,AE K H (l.map V.int) (l.map .int)
 |[]=> .nil
 |a::l=> .cons (.int a) (WS l)
theorem Wt{K:PySem.W.Frag}{H:Hp}:∀{vs:List V} {l:List (List Int)},Paired (fD H) vs l->AE K H vs (l.map Sd)
 |_,_,.nil=> .nil
 |_,_,.cons ⟨a,e,h⟩ t=> .cons (by rw[e];exact .lst (.of h) (WS _)) (Wt t)
noncomputable def Wu:R2:=fun x y H Q=>∃l m,Nn H x l/\Nn H y m/\Q (.bl (decide (l=m))) H
theorem TF{X:Cx}(hu:X.A.units+64<cLine):vO X (compareOp .Eq) Wu:=by
 intro pins s σ H x y v u Q I rx ry h;obtain⟨l,m,⟨a,vs,rfl,ha,pa⟩,⟨b,us,rfl,hb,pb⟩,q⟩:=h;refine SR hu pins s σ H _ _ v u Q I rx ry ⟨Vj l,Vj m,.lst (.of ha) (Wt pa),.lst (.of hb) (Wt pb),WR l,WR m,?_⟩;unfold Vj;rw[PyData.eqv,Vl];exact q
structure Vm(mg:Str->Option Value):Prop extends Txt4 mg where
 jh:∃t,mg "MOST_NODES_COMPARED"=some (.int 3 t)
section
variable {P:Program}{w:World}{K:PySem.W.Frag}{mg:Str->Option Value}{base:Heap}{c:Cs}
noncomputable abbrev lj:Stmt:=top 24
theorem Bn:dE ["top","bottom","divisor"] ["top","bottom"] (dj lj):=sco
noncomputable def sV:Sp:=fun vs H Q _=>∃t b:Int,vs=[.int t,.int b]/\b≠0/\pj H Q (de.GX t b)
theorem Bo(hno:base.NoSeer)(htree:P.given.tree=none)(fj:eV P w K mg base "greatest_divisor" ["x","y"] 1 ir)(G:iI K mg "lowest_terms" lj ["top","bottom"]):eV P w K mg base "lowest_terms" ["top","bottom"] 41 sV:=by
 have sc:=Bn;refine G.iX sc fun f cdv A outer s H vs Q E hr h=> ?_
 obtain⟨t,b,rfl,b0,k⟩:=h;have Se:JR (D6 JQ P w K mg base ["top","bottom","divisor"] "lowest_terms" (dj lj) f cdv A outer s H E).RO:=⟨hno,htree,⟨_,outer,rfl,rfl,rfl,rfl,rfl⟩,by have:=hr.dp;show(A.deeper _).depth+100<_;lia⟩;refine⟨rfl,_,(dh (dW (i:=2) sc.nd (dz fj hr (c8 (pv 0) (c8 (pv 1) dc))))
   (dh (fC (eO Ld (pv 1) dC (eH _)) (dk (dW (i:=2) sc.nd (jT ie (pv 2)))) eh)
   (dk (dD (dP (c8 (eX (B5 Se) (pv 0) (pv 2)) (c8 (eX (B5 Se) (pv 1) (pv 2)) dc))))))),?_⟩
 have g0:de.lE t b≠0:=by
  unfold de.lE;intro e;have e:Nat.gcd t.natAbs b.natAbs=0:=by lia
  have:=(Nat.gcd_eq_zero_iff.mp e).2;lia
 unfold de.GX at k;refine⟨_,rfl,_,rfl,t,b,rfl,_,rfl,_,_,rfl,rfl,_,rfl,?_⟩;by_cases h:b<0
 ·rw[ak h];rw[ah h] at k;exact e7 ⟨_,rfl,_,rfl,_,rfl,_,rfl,_,_,rfl,rfl,by lia,_,rfl,_,rfl,_,_,rfl,rfl,by lia,dq (by show 2<=16777216;decide),fun p hp=>k p _ hp (du hp) di⟩
 ·rw[aq h];rw[af h] at k;exact fh ⟨_,rfl,_,rfl,_,_,rfl,rfl,g0,_,rfl,_,rfl,_,_,rfl,rfl,g0,dq (by show 2<=16777216;decide),fun p hp=>k p _ hp (du hp) di⟩
noncomputable abbrev oY:Stmt:=top 90
theorem Br:dE ["point","node"] ["point","node"] (dj oY):=sco
noncomputable def sW (c:Cs):Sp:=fun vs H Q _=>∃v p n,vs=[v,.int n]/\Nj c H v p/\n<=p.2.2.length/\de.e9 p.2.1≠0/\pj H Q (de.zH p.2 n)
theorem Bs(O:gw K c)(j7:eV P w K mg base "node_top" ["solution","node"] 1 (uR c))(gn:eV P w K mg base "constant_of" ["polynomial"] 1 ow)(oZ:eV P w K mg base "lowest_terms" ["top","bottom"] 41 sV)(G:iI K mg "told_voltage" oY ["point","node"]):eV P w K mg base "told_voltage" ["point","node"] 42 (sW c):=by
 have sc:=Br;refine G.iX sc fun f cdv A outer s0 H vs Q E hr h=> ?_
 obtain⟨v,p,n,rfl,⟨xa,xdx,vst,vsl,rfl,hxa,hbls,hsol⟩,hn,d0,kk⟩:=h;refine⟨rfl,_,(dk (dD (dz oZ hr (c8 (dz gn hr (c8 (dz j7 hr (c8 (dt K (pv 0) rfl) (c8 (pv 1) dc))) dc)) (c8 (dz gn hr (c8 (dt K (dt K (pv 0) rfl) rfl) dc)) dc))))),?_⟩;obtain⟨ya,ydx,vd,vt,rfl,hya,hvd,_⟩:=id hsol;refine⟨_,rfl,dX hxa O.pt.cl (O.pt.at_ 1 rfl) rfl ⟨_,rfl,_,p.2,n,rfl,hsol,hn,fun z H1 s1 hz=>⟨z,_,rfl,hz,?_⟩⟩⟩;exact⟨_,rfl,dX (s1 _ _ hxa) O.pt.cl (O.pt.at_ 1 rfl) rfl (dX (s1 _ _ hya) O.sol.cl (O.sol.at_ 0 rfl) rfl ⟨_,p.2.1,rfl,hvd.same s1,_,_,rfl,d0,kk.of s1⟩)⟩
structure TH(n:de.Nw)(p:List Bool×(List Int×List (List Int)))(a:List Int):Prop where
 len:a.length<=3
 c9:n.c9.length<=100
 st:p.1.length<=1000
 nd:∀v∈a,v<=p.2.2.length
 d0:de.e9 p.2.1≠0
 z:∀i∈a,DE (de.Ed n p.1 (i,0))/\∃s,de.sol (de.rows (de.Ed n p.1 (i,0)))=some s/\uT s/\∀v∈a,v<=s.2.length/\RE (de.jl s v 0) s.1
noncomputable def yE (L:List Addr) (H:Hp) (v:V) (l:List Int):Prop:=fD H v l/\∀d∈L,v≠.ref d
theorem yE.same{L:List Addr}{H H':Hp}{v:V}{l:List Int}(h:yE L H v l)(s:dI H H'):yE L H' v l:=⟨h.1.same s,h.2⟩
theorem yE.over{L:List Addr}{D:Addr}{H:Hp}{v:V}{l:List Int}{o:HO}(h:yE L H v l)(hD:D∈L):yE L (upd H D o) v l:=by
 obtain⟨⟨a,rfl,e⟩,n⟩:=h;exact⟨⟨a,rfl,by rw[d4 (fun q=>n D hD (by rw[q]))];exact e⟩,n⟩
theorem yE.of{L:List Addr}{p:Addr}{H H':Hp}{l:List Int}(hp:H p=none)(hL:∀d∈L,∃o,H d=some o)(h:H' p=some (.lst (l.map V.int))):yE L H' (.ref p) l:=⟨⟨p,rfl,h⟩,fun d hd e=>by
 cases e
 obtain⟨o,ho⟩:=hL _ hd;rw[hp] at ho;cases ho⟩
noncomputable abbrev i6:Stmt:=top 115
theorem Ac:dE ["network","point","nodes","told","node","into","solution","across"] ["network","point","nodes"] (dj i6):=sco
noncomputable def rh (K:PySem.W.Frag) (c:Cs):Sp:=fun vs H Q _=>∃v u b n p a,vs=[v,u,.ref b]/\nE c H v n/\Nj c H u p/\kg K H b (a.map V.int)/\TH n p a/\∀z H',dI H H'->Nn H' z (de.lY n p a)->Q z H'
theorem Ad(O:gw K c)(o9:eV P w K mg base "told_voltage" ["point","node"] 42 (sW c))(wX:eV P w K mg base "put_into" ["network","states","into"] 8 (A4 c))(DM:eV P w K mg base "told_z" ["solution","across"] 44 (FL c))(G:iI K mg "told_at_nodes" i6 ["network","point","nodes"]):eV P w K mg base "told_at_nodes" ["network","point","nodes"] 45 (rh K c):=by
 have sc:=Ac;refine G.iX sc fun f cdv A outer s0 H vs Q E hr h=> ?_
 obtain⟨v,u,b,n,p,a,rfl,hn,hp,hb,ai,kk⟩:=h;refine⟨rfl,_,(dh (oa (i:=3) rfl sc.nd rfl rfl (rB rfl rfl rfl rfl) (fu (pv 2)) (fm (own:=[("node",4)]) (by show lL ["network","point","nodes","told","node","into","solution","across"] (dj i6) _ _=true;decide +kernel)) (fun _ _ _ _ _=>(eZ (i:=4) sc.nd)) (fun _ _ _ _ _=>fQ) (fun _ _ _ _ _=>(dz o9 hr (c8 (pv 1) (c8 (pv 4) dc)))))
   (dh (gN PassesOwn.never rfl (fu (pv 2)) (eZ (i:=5) sc.nd) (dh (dW (i:=6) sc.nd (dz wX hr (c8 (pv 0) (c8 (dt K (pv 1) rfl) (c8 (gq (c8 (pv 5) (c8 dC dc))) dc)))))
   (dk (iM (n9 aT PySem.F.slot_list_extend PySem.F.type_list_extend yW (pv 3) (c8 (lH rfl sc.nd (fu (pv 2)) (fm (own:=[("across",7)]) (by show lL ["network","point","nodes","told","node","into","solution","across"] (dj i6) _ _=true;decide +kernel)) (fun _ _ _ _ _=>(eZ (i:=7) sc.nd)) (fun _ _ _ _ _=>fQ) (fun _ _ _ _ _=>(dz DM hr (c8 (pv 6) (c8 (gq (c8 (pv 7) (c8 dC dc))) dc))))) dc))))))
   (dk (dD (pv 3))))),?_⟩
 obtain⟨xa,xdx,vst,vsl,rfl,hxa,hbls,hsol⟩:=id hp;have la:=ai.len;refine⟨_,rfl,b,rfl,⟨_,hb⟩,fun D hD=>mX (fw hb) hD (fun i H' acc=>Paired (yE [D] H') acc ((a.take i).map (de.zH p.2))) .nil ?_ ?_⟩
 ·rintro i x H2 H3 acc hi s2 hD2 hacc s3 s23 hD3 hx;obtain⟨r,hr',rfl⟩:=hZ hx;have lc:=hacc.length;rw[lMp,aD] at lc;refine⟨rfl,_,rfl,_,rfl,_,p,r,rfl,hp.same s3,ai.nd r (aB hr'),ai.d0,fun q H4 hq s4 hq4=> ?_⟩;refine gh hD (s3.trans s4) (s4 _ _ hD3) (dH (by lia)) ?_;rw[d9 _ _ _ _ hr'];exact(hacc.fY fun _ _ z=>(z.same (s23.trans s4)).over (.head _)).iT ((yE.of hq (fun d hd=>by cases aw.mp hd;exact⟨_,hD3⟩) hq4).over (.head _))
 ·intro H2 acc s2 hD2 hacc;rw[lMp,aG] at hacc;have lc:=hacc.length;rw[lMp] at lc;refine⟨_,rfl,b,rfl,⟨_,s2.seq hb⟩,jt (fw (K:=K) hb) (fun i σ H'=>∃x4 x5 x6 x7 ws,σ=[some v,some (.ref xa),some (.ref b),some (.ref D),x4,x5,x6,x7]/\dI H H'/\H' D=some (.lst ws)/\ws.length<=3+3*i/\Paired (yE [D] H') ws (a.map (de.zH p.2) ++ (a.take i).flatMap (de.zI n p.1 a))) ?_ (fun i σ H' ⟨_,_,_,_,_,_,s,_⟩=>s) ?_ ?_⟩
  ·exact⟨none,none,none,none,acc,rfl,s2,hD2,by lia,by rw[List.take_zero,List.flatMap_nil,bM];exact hacc⟩
  ·rintro i x σ H3 H4 hi ⟨x4,x5,x6,x7,ws,rfl,s3,hD3,lw,hws⟩ s4 s34 hx;obtain⟨r,hr',rfl⟩:=hZ hx;obtain⟨si,sl,es,sh,hz⟩:=ai.z r (aB hr');have hD4:=s34 _ _ hD3;refine⟨_,rfl,_,rfl,dX (s4 _ _ hxa) O.pt.cl (O.pt.at_ 0 rfl) rfl ⟨_,rfl,dq (by show 2<=16777216;decide),fun q hq=> ?_⟩⟩;have s5:=du (o:= .tup [.int r,.int 0]) hq;have s45:=s4.trans s5;refine⟨_,_,_,n,p.1,(r,0),rfl,hn.same s45,hbls.same s45,⟨q,rfl,di⟩,ai.c9,ai.st,si,?_⟩;rw[es];intro zs H6 s6 hzs;have s46:=s45.trans s6;have hD6:=(s5.trans s6) _ _ hD4;refine⟨_,rfl,.inl ⟨rfl,_,.of hD6⟩,_,rfl,b,rfl,⟨_,s46.seq hb⟩,fun D2 hDD=>mX (fw (s46.seq hb)) hDD (fun j H' acc=>Paired (yE [D2,D] H') acc ((a.take j).map fun v=>de.C1 sl (v,0))) .nil ?_ ?_⟩
   ·rintro j x H7 H8 acc2 hj s7 hD7 hacc2 s8 s78 hD8 hx;obtain⟨r2,hr2,rfl⟩:=hZ hx;obtain⟨g1,g2⟩:=hz r2 (aB hr2);have l2:=hacc2.length;rw[lMp,aD] at l2;refine⟨rfl,_,rfl,_,rfl,dq (by show 2<=16777216;decide),fun t ht=> ?_⟩;have s9:=du (o:= .tup [.int r2,.int 0]) ht;have s89:=s8.trans s9;refine⟨_,_,sl,(r2,0),rfl,hzs.same s89,⟨t,rfl,di⟩,sh,g1,b6 _,g2,fun q2 H10 hq2 s10 hq10=> ?_⟩;have s90:=s9.trans s10;refine gh hDD (s89.trans s10) (s90 _ _ hD8) (dH (by lia)) ?_;rw[d9 _ _ _ _ hr2];exact(hacc2.fY fun _ _ z=>(z.same (s78.trans s90)).over (.head _)).iT ((yE.of hq2 (fun d hd=>by
     rcases aJ.mp hd with rfl |hd
     ·exact⟨_,s9 _ _ hD8⟩
     ·cases aw.mp hd
      exact⟨_,s89 _ _ hD6⟩) hq10).over (.head _))
   ·intro H7 acc2 s7 hD7 hacc2;rw[lMp,aG] at hacc2;have l2:=hacc2.length;rw[lMp] at l2;have hi':i<a.length:=fU hr';refine⟨D,D2,ws,acc2,rfl,rfl,s7 _ _ hD6,hD7,dq (by lia),?_⟩;refine⟨_,_,_,_,ws ++ acc2,rfl,(s46.trans s7).over hD,di,by rw[aA];lia,?_⟩;have e:de.zI n p.1 a r=a.map fun v=>de.C1 sl (v,0):=by
     unfold de.zI;rw[es]
    rw[sj _ _ _ _ hr',<-cA,e];exact(hws.fY fun _ _ z=>(z.same (s34.trans ((s5.trans s6).trans s7))).over (.head _)).app (hacc2.fY fun _ _ z=>yE.over ⟨z.1,fun d hd=>z.2 d (.tail _ hd)⟩ (.head _))
  ·rintro σ H3 ⟨x4,x5,x6,x7,ws,rfl,s3,hD3,_,hws⟩;rw[lMp,aG] at hws;exact⟨_,rfl,kk _ _ s3 ⟨D,ws,rfl,hD3,hws.fY fun _ _ z=>z.1⟩⟩
noncomputable def TJ (l a:List Int):Prop:=de.fq l=[]->Tt (de.fb l)/\(a.length<=3->(a.any fun v=>decide ((de.fb l).last<v))=false->∀p,de.point (de.fb l)=some p->TH (de.fb l) p a)
theorem any_max{last m:Int}{a:List Int}(hm:m∈a)(h:∀v∈a,v<=m):decide (m>last)=a.any fun v=>decide (last<v):=by
 rw[a4,bf,bK];constructor
 ·intro h;exact⟨m,hm,ak h⟩
 ·rintro⟨v,hv,q⟩;have:=az q;have:=h v hv;lia
theorem FN{l:List Int}(h:de.fq l=[]):de.nA l=true:=by
 cases e:de.nA l with
 |true=>rfl
 |false=>
  unfold de.fq at h;rw[ah e] at h;cases h
theorem uQ.put{H H1:Hp}{Q:VK}{l:List Int}(k:uQ H Q l)(s:dI H H1){p:Addr}(hp:H1 p=none):Q (.ref p) (upd H1 p (.lst (l.map V.int))):=k _ _ (s.trans (du hp)) ⟨p,rfl,di⟩
noncomputable abbrev s_same:Stmt:=top 118
theorem RF:dE ["net_one","net_two","nodes_one","nodes_two","refusal","one","two","point_one","point_two","alike"] ["net_one","net_two","nodes_one","nodes_two"] (dj s_same):=sco
noncomputable def yF (K:PySem.W.Frag):Sp:=fun vs H Q _=>∃x l y m z a u b,vs=[.ref x,.ref y,.ref z,.ref u]/\kg K H x (l.map V.int)/\kg K H y (m.map V.int)/\kg K H z (a.map V.int)/\kg K H u (b.map V.int)/\l.length<=200/\m.length<=200/\TJ l a/\TJ m b/\uQ H Q (de.same l m a b)
theorem RG(T:Vm mg)(O:gw K c)(jP:eV P w K mg base "refusal_of_net" ["net"] 5 (qi K))(gT:eV P w K mg base "read_network" ["net"] 3 (nu K c))(jq:eV P w K mg base "operating_point" ["network"] 8 (oU c))(j0:eV P w K mg base "told_at_nodes" ["network","point","nodes"] 45 (rh K c))(G:iI K mg "same" s_same ["net_one","net_two","nodes_one","nodes_two"]):eV P w K mg base "same" ["net_one","net_two","nodes_one","nodes_two"] 46 (yF K):=by
 have sc:=RF;refine G.iX sc fun f cdv A outer s0 H vs Q E hr h=> ?_
 obtain⟨x,l,y,m,z,a,u,b,rfl,hx,hy,hz,hu,l2,m2,il,im,kk⟩:=h;refine⟨rfl,_,(dh (fC (PW.pt (BV (eO Ay (dY (eJ K) rfl T.gR d7 (c8 (pv 2) dc)) (dY (eJ K) rfl T.gR d7 (c8 (pv 3) dc)) (eH _)) (yP (kj (BZ qQ qQ dC (dY (eJ K) rfl T.gR d7 (c8 (pv 2) dc)) (gc T.jh)))))) (dk (dD (dP (c8 (jT ie dC) dc)))) eh)
   (dh (dW (i:=4) sc.nd (Tx K (dz jP hr (c8 (pv 0) dc)) (BW (dz jP hr (c8 (pv 1) dc)))))
   (dh (fC (fc K (pv 4) (fun _=>rfl)) (dk (dD (pv 4))) eh)
   (dh (dW (i:=5) sc.nd (dz gT hr (c8 (pv 0) dc)))
   (dh (dW (i:=6) sc.nd (dz gT hr (c8 (pv 1) dc)))
   (dh (fC (PW.pt (BV (eO vB (dY (Mj K rfl) rfl T.IM vS (c8 (pv 2) dc)) (dt K (pv 5) rfl) (eH _)) (yP (eO vB (dY (Mj K rfl) rfl T.IM vS (c8 (pv 3) dc)) (dt K (pv 6) rfl) (eH _))))) (dk (dD (dP (c8 (jT ie dC) dc)))) eh)
   (dh (dW (i:=7) sc.nd (dz jq hr (c8 (pv 5) dc)))
   (dh (dW (i:=8) sc.nd (dz jq hr (c8 (pv 6) dc)))
   (dh (fC (PW.pt (BV (FY (JB (pv 7))) (yP (FY (JB (pv 8)))))) (dk (dD (dP (c8 (jT ie dC) dc)))) eh)
   (dh (dW (i:=9) sc.nd (gU (TF hr.units) (dz j0 hr (c8 (pv 5) (c8 (pv 7) (c8 (pv 2) dc)))) (dz j0 hr (c8 (pv 6) (c8 (pv 8) (c8 (pv 3) dc)))) (eH _)))
   (dk (dD (dP (c8 dC (c8 (mM (fc K (pv 9) (fun _=>rfl)) dC dC) dc))))))))))))))),?_⟩
 unfold de.same at kk;have one:(1:Nat)<=sizeLine:=dq (by show 1<=16777216;decide);refine⟨_,rfl,z,_,rfl,.inl hz,_,rfl,u,_,rfl,.inl hu,rfl,_,rfl,?_⟩;rw[lMp,lMp];by_cases h1:a.length=b.length
 rotate_left
 ·rw[show decide (V.int (a.length:Int)=V.int (b.length:Int))=false from aq fun e=>h1 (by have:=V.int.inj e;lia)];rw[ah (.inl h1)] at kk;exact e7 (e7 ⟨_,rfl,one,fun p hp=>kk.put (.refl _) hp⟩)
 rw[show decide (V.int (a.length:Int)=V.int (b.length:Int))=true from ak (by rw[h1])];have neg:¬(1<=a.length/\a.length<=3)->uQ H Q [-1]:=fun h=>by
  rw[ah (.inr h)] at kk;exact kk
 refine fh ⟨_,rfl,z,_,rfl,.inl hz,ph ⟨_,rfl,?_⟩⟩;rw[lMp];by_cases h2:1<=a.length
 rotate_left
 ·rw[aq (show ¬(1:Int)<=(a.length:Int) by lia)];exact fh ⟨_,rfl,e7 ⟨_,rfl,one,fun p hp=>(neg fun h=>h2 h.1).put (.refl _) hp⟩⟩
 rw[ak (show(1:Int)<=(a.length:Int) by lia)];refine e7 (ph ⟨_,rfl,?_⟩);by_cases h3:a.length<=3
 rotate_left
 ·rw[aq (show ¬(a.length:Int)<=3 by lia)];exact e7 ⟨_,rfl,one,fun p hp=>(neg fun h=>h3 h.2).put (.refl _) hp⟩
 rw[ak (show(a.length:Int)<=3 by lia)];rw[af (fun h=>h.elim (fun e=>e h1) fun e=>e ⟨h2,h3⟩)] at kk;clear neg;refine fh ⟨_,rfl,x,l,rfl,hx,l2,fun zr H1 s1 hzr=> ?_⟩;obtain⟨ra,rfl,hra⟩:=hzr;refine⟨_,Eg hra,?_⟩;by_cases hl:de.fq l=[]
 rotate_left
 ·rw[iS hl];rw[ah hl] at kk;refine e7 ⟨_,rfl,_,Eg hra,?_⟩;rw[iS hl];exact e7 ⟨_,rfl,kk _ _ s1 ⟨ra,rfl,hra⟩⟩
 rw[af (fun h=>h hl)] at kk;rw[hl] at hra⊢;refine fh ⟨_,rfl,y,m,rfl,s1.seq hy,m2,fun zr H2 s2 hzr=> ?_⟩;have s12:=s1.trans s2;obtain⟨rb,rfl,hrb⟩:=hzr;refine⟨_,rfl,_,Eg hrb,?_⟩;by_cases hm:de.fq m=[]
 rotate_left
 ·rw[iS hm];rw[ah hm] at kk;exact e7 ⟨_,rfl,kk _ _ s12 ⟨rb,rfl,hrb⟩⟩
 rw[af (fun h=>h hm)] at kk;rw[hm] at hrb⊢;have nl:=DK (FN hl);have nm:=DK (FN hm);obtain⟨pl,gl⟩:=il hl;obtain⟨pm,gm⟩:=im hm;refine fh ⟨_,rfl,x,l,rfl,s12.seq hx,nl.len,l2,nl.m7,fun zn H3 s3 hzn=>⟨_,rfl,y,m,rfl,(s12.trans s3).seq hy,nm.len,m2,nm.m7,fun zm H4 s4 hzm=> ?_⟩⟩;have s14:=(s12.trans s3).trans s4;obtain⟨na,ndx,nvp,rfl,hna,_⟩:=id hzn;obtain⟨ma,mdx,mvp,rfl,hma,_⟩:=id hzm;refine⟨_,rfl,z,a,rfl,s14.seq hz,by lia,fun v1 hv1 hx1=>⟨_,rfl,dX (s4 _ _ hna) O.d8.cl (O.d8.at_ 0 rfl) rfl (ph ⟨_,rfl,?_⟩)⟩⟩;rw[any_max hv1 hx1];cases ha:a.any fun v=>decide ((de.fb l).last<v) with
 |true=>
  rw[ah (.inl ha)] at kk;exact e7 (e7 ⟨_,rfl,one,fun p hp=>kk.put s14 hp⟩)
 |false=>
 refine fh ⟨_,rfl,u,b,rfl,s14.seq hu,by lia,fun v2 hv2 hx2=>⟨_,rfl,dX hma O.d8.cl (O.d8.at_ 0 rfl) rfl (ph ⟨_,rfl,?_⟩)⟩⟩;rw[any_max hv2 hx2];cases hb:b.any fun v=>decide ((de.fb m).last<v) with
 |true=>
  rw[ah (.inr hb)] at kk;exact e7 ⟨_,rfl,one,fun p hp=>kk.put s14 hp⟩
 |false=>
 rw[af (fun h=>h.elim (by rw[ha];simp) (by rw[hb];simp))] at kk;refine fh ⟨_,rfl,_,_,rfl,hzn.same s4,pl,?_⟩;cases hpl:de.point (de.fb l) with
 |none=>
  rw[hpl] at kk;have kk:uQ H Q [-4]:=by
   cases hpm:de.point (de.fb m) <;>rw[hpm] at kk <;>exact kk
  intro H5 s5;refine⟨_,rfl,_,_,rfl,hzm.same s5,pm,?_⟩;cases de.point (de.fb m) with
  |none=>exact fun H6 s6=>⟨_,rfl,_,rfl,e7 (e7 ⟨_,rfl,one,fun p hp=>kk.put (s14.trans (s5.trans s6)) hp⟩)⟩
  |some q=>exact fun zq H6 s6 _=>⟨_,rfl,_,rfl,e7 (e7 ⟨_,rfl,one,fun p hp=>kk.put (s14.trans (s5.trans s6)) hp⟩)⟩
 |some p=>
  intro zp H5 s5 hzp;refine⟨_,rfl,_,_,rfl,hzm.same s5,pm,?_⟩;obtain⟨pa,pdx,pv1,pv2,rfl,_⟩:=id hzp;rw[hpl] at kk;cases hpm:de.point (de.fb m) with
  |none=>
   rw[hpm] at kk;have kk:uQ H Q [-4]:=kk;exact fun H6 s6=>⟨_,rfl,_,rfl,fh ⟨_,rfl,_,rfl,e7 ⟨_,rfl,one,fun p hp=>kk.put (s14.trans (s5.trans s6)) hp⟩⟩⟩
  |some q=>
   rw[hpm] at kk;have kk:uQ H Q [0,if de.lY (de.fb l) p a=de.lY (de.fb m) q b then 1 else 0]:=kk;intro zq H6 s6 hzq;obtain⟨qa,qdx,qv1,qv2,rfl,_⟩:=id hzq;have s56:=s5.trans s6;have s16:=s14.trans s56;refine⟨_,rfl,_,rfl,fh ⟨_,rfl,_,rfl,fh ?_⟩⟩;refine⟨_,rfl,_,rfl,_,rfl,_,_,z,_,p,a,rfl,hzn.same (s4.trans s56),hzp.same s6,s16.seq hz,gl h3 ha p hpl,fun za H7 s7 hza=> ?_⟩;refine⟨_,rfl,_,rfl,_,rfl,_,_,u,_,q,b,rfl,hzm.same (s56.trans s7),hzq.same s7,(s16.trans s7).seq hu,gm (by lia) hb q hpm,fun zb H8 s8 hzb=> ?_⟩;have s18:=s16.trans (s7.trans s8);refine⟨_,_,hza.same s8,hzb,?_⟩;by_cases e:de.lY (de.fb l) p a=de.lY (de.fb m) q b
   ·rw[ak e];rw[ah e] at kk;exact⟨_,rfl,_,rfl,e7 ⟨dq (by show 2<=16777216;decide),fun p hp=>kk.put s18 hp⟩⟩
   ·rw[aq e];rw[af e] at kk;exact⟨_,rfl,_,rfl,fh ⟨dq (by show 2<=16777216;decide),fun p hp=>kk.put s18 hp⟩⟩
end
theorem Jk{l:List Int}{b:Nat}(h:de.ij l<=2^b){x:Int}(hx:x∈l):Sz (b+1) x:=by
 unfold Sz;have h1:=de.vi hx;have h2:2^(b+1)=2^b*2:=Nat.pow_succ 2 b;have h3:1<=2^b:=Nat.one_le_two_pow;lia
theorem Hg{l:List Int}(h:l≠[]):de.lc l∈l:=by
 unfold de.lc;exact de.memD (by have:=aE.mpr h;lia)
theorem KR{x b:Nat}(h:x<=2^b)(hb:b+1<9000):x.log2<9000:=by
 by_cases h0:x=0
 ·rw[h0];decide
 ·rw[Nat.log2_lt h0];refine Nat.lt_of_le_of_lt h ?_;exact Nat.pow_lt_pow_right (by decide) (by lia)
theorem Hh{l:List Int}{b:Nat}(h:de.ij l<=2^b):Sz (b+1) (de.e9 l):=by
 cases l with
 |nil=>
  unfold Sz;show 0<2^(b+1);exact Nat.two_pow_pos _
 |cons a l=>exact Jk h ax
theorem Sz.mono{m n:Nat}{z:Int}(h:Sz m z)(hmn:m<=n):Sz n z:=aV h (bC (by decide) hmn)
theorem KS{l r:List Int}(hl:de.EB l)(hr:de.EB r):∀x∈l,∀y∈r,IntMulOk x y:=fun x hx y hy=>(Jk hl.ij hx).mul (Jk hr.ij hy) (by decide)
theorem Qg{n:Nat}(hn:n<=30){A:Nat->Nat->de.PF}(hA:∀i j,i<n->j<n+1->de.Bd (A i j) 1 (2^246)):∀(f k:Nat) (t:List (List (List Int))) (before:List Int) (σ:Nat->Nat) (ε:de.PF),f+k=n->de.T3 n k A t before σ ε->Dy f k t before
 |0,_,_,_,_,_,_,_=>trivial
 |f+1,k,t,before,σ,ε,hf,S=>by
  intro c hc;have hk:k<n:=by lia
  have tl:=S.tab.len;obtain⟨c1,c2,c3⟩:=de.rH t k _ c (by lia) hc;have hI:∀i j,i<n->j<n+1->de.jV (A i j):=fun i j hi hj=>by
   obtain⟨l,tl,e,_,_⟩:=(hA i j hi hj).ex;exact⟨l,tl,e⟩
  refine⟨fun i hi hik j hj hjl=> ?_,?_⟩
  ·have hi2:i<n:=by lia
   have hjn:j<n+1:=by
    have e:(de.nS t c k).getD i []=t.getD (de.sw c k i) []:=de.BH t c k i (by lia) (by lia);rw[e,S.tab.row _ (de.pS (by lia) hk hi2)] at hjl;exact hjl
   obtain⟨eB,bne,e1,e2,e3,e4,m,tm,em,hm⟩:=de.Pe hn hA hk S c (by lia) (by lia) c3 hi2 hik hj hjn;have s:∀l,de.EB l->l.length<100000:=fun l h=>by have:=h.len;lia
   refine⟨s _ e1,s _ e2,s _ e3,s _ e4,s _ eB,KS e1 e2,KS e3 e4,S.HX,bne,?_,m,tm,hm,KS em eB⟩;exact KR (ay (de.vi (Hg bne)) eB.ij) (by decide)
  ·obtain⟨ε',S'⟩:=de.HY hI hk S c (by lia) (by lia) c3;exact Qg hn hA f (k+1) _ _ _ ε' (by lia) S'
section
variable {n:de.Nw}(R:de.Right n){g:de.lJ}(S:de.M0 n g){G:Wh.Setting}(S2:de.lW n g G)(hst:g.gI.length=n.c9.length)(hdr:g.drives.length=n.c9.length)
include R S S2 hst hdr
theorem Qh:DE g:=by
 have hn:=S.d8;have un:=de.Pc R;have p10:=R.c9;have l1:=R.l1;have l8:=R.l8;have al:(de.gV g).length=(de.df n).unknowns:=by rw[(de.vf R S2).len,de.iD]
 have tab:=de.xG R S2;have gp:∀k,pat g k=n.c9.getD k de.p0:=fun k=>by
  show g.d8.c9.getD k de.p0=_;rw[hn]
 refine⟨⟨by rw[hn];lia,by rw[hn];exact hst,by rw[hn];exact hdr,S.s⟩,by rw[hn];lia,by rw[hn];lia,?_,?_,?_,?_,?_,?_⟩
 ·intro p hp h3;rw[hn] at hp⊢;obtain⟨i,hi,e⟩:=aY hp;have ep:n.c9.getD i de.p0=p:=by rw[gDe,aa hi,e];rfl
  have ab:=R.ab hi (by rw[ep];exact h3);have cd:=R.cd hi;have pp:=R.p hi;rw[ep] at ab cd pp;exact⟨⟨pp.a0,ab.1⟩,⟨pp.b0,ab.2⟩,fun h10=>⟨⟨pp.c0,(cd (.inr (.inr (.inl h10)))).1⟩,⟨pp.d0,(cd (.inr (.inr (.inl h10)))).2⟩⟩⟩
 ·intro k hk;rw[hn] at hk;have pp:=R.p hk;have fo:=R.QZ hk;refine⟨?_,?_,?_⟩
  ·rw[gp];exact⟨pp.k0,pp.k1⟩
  ·intro h2;rw[gp] at h2;intro x hx;rw[hn] at hx⊢;exact de.CL R h2 hk x hx
  ·intro h8;rw[gp] at h8;show 0<=(pat g k).c/\(pat g k).c<(g.d8.c9.length:Int);rw[gp,hn];have:=(fo h8).1;exact⟨pp.c0,by lia⟩
 ·refine⟨?_,?_,fun ts hts t ht=> ?_,by lia⟩
  ·rw[hn,R.zC];lia
  ·rw[hn,R.zC];lia
  ·obtain⟨h1,h2,h3,_⟩:=(de.Pb R S ts hts).1.at_ t ht;rw[hn];exact⟨h1,h2,by lia⟩
 ·rw[tab.len];lia
 ·intro i hi;rw[tab.len] at hi⊢;exact tab.row i hi
 ·rw[tab.len];exact Qg un (fun i j hi hj=>de.L3 R S S2 hi hj) _ 0 _ _ _ 1 (by lia) (de.EY _ _ tab)
end
theorem Qi{n:de.Nw}(R:de.Right n){st:List Bool}(h:st∈de.eW n.c9 [[]]):DE (mW n st):=by
 obtain⟨r,hr⟩:=de.IH h;exact Qh R (de.R5 R st) (de.Ki R hr) hr.1 (lMp ..)
theorem FO{d:List Int}{tops:List (List Int)}{u:Nat}(hl:tops.length=u)(h1:d.length<=31)(h2:∀c,c<u->(tops.getD c []).length<=31):uT (d,tops):=by
 refine⟨by show d.length<_;lia,fun l hl'=> ?_⟩;obtain⟨i,hi,e⟩:=aY hl';have:=h2 i (by have:i<tops.length:=hi;lia);rw[gDe,aa hi] at this;rw[<-e];show(tops[i]).length<_;have h3:(tops[i]).length<=31:=this;lia
theorem Ml{n:de.Nw}(R:de.Right n){g:de.lJ}{G:Wh.Setting}(S2:de.lW n g G){d:List Int}{tops:List (List Int)}(h:de.sol (de.rows g)=some (d,tops)):tops.length=(de.df n).unknowns:=by
 rcases de.J1 (de.xG R S2) with⟨d',tops',e,so⟩ |⟨e,_⟩
 ·rw[h] at e;cases e
  exact so.len
 ·rw[h] at e;cases e
theorem Vn{n:de.Nw}(R:de.Right n)(h10:n.c9.length<=10):Tt n:=by
 refine⟨h10,fun st h=>Qi R h,fun st h s hs k hk h13=> ?_⟩;obtain⟨r,hr⟩:=de.IH h;obtain⟨d,tops⟩:=s;have S2:=de.Ki R hr;obtain⟨⟨b1,b2⟩,b3⟩:=de.Pf R (de.R5 R st) S2 hs;have tl:tops.length=(de.df n).unknowns:=Ml R S2 hs;have pp:=R.p hk;have k3:(n.c9.getD k de.p0).kind≠3:=by
  have:(n.c9.getD k de.p0).kind=13:=h13;lia
 have ab:=R.ab hk k3;have nl:=de.kx n;have l1:=R.l1;have pl:=R.place hk;have al:=de.xH R hk k3;have e:(de.places (mW n st).d8).getD k 0=(((de.df n).at_ k:Nat):Int):=pl;have nd:∀v:Int,v<=n.last->de.ij (de.gy (d,tops) v)<=2^7530:=fun v hv=>by
  unfold de.gy;by_cases h:0<v
  ·rw[ah h];exact(b3 _ (by lia)).2
  ·rw[af h];exact aM _
 refine⟨hk,hr.1,?_,?_,?_,?_,FO tl b1 (fun c hc=>(b3 c hc).1),?_,?_,?_,?_,?_⟩
 ·rw[e];lia
 ·rw[e];show _<(tops.length:Int);lia
 ·show(n.c9.getD k de.p0).a<=(tops.length:Int);have:=ab.1;lia
 ·show(n.c9.getD k de.p0).b<=(tops.length:Int);have:=ab.2;lia
 ·exact(Hh b2).mono (by decide)
 ·unfold de.oh;rw[e,bb];exact(Hh (b3 _ al).2).mono (by decide)
 ·unfold de.pP de.jl;refine(Hh (b:=7531) ?_).mono (by decide);unfold de.uh de.Ce;refine ay (de.GL _) (ay (de.qX _ _) ?_);rw[de.GN,show(7531:Nat)=7530+1 from rfl,Nat.pow_succ];have h1:=nd _ ab.1;have h2:=nd _ ab.2;have e2:(mW n st).d8=n:=rfl;rw[e2];generalize (2:Nat)^7530=X at h1 h2⊢;lia
 ·exact RC pp.t
 ·refine RC ?_;have h1:=pp.b1;have h2:=pp.b2;show(n.c9.getD k de.p0).dF.natAbs<=_;lia
theorem Hi{n:de.Nw}(R:de.Right n){st:List Bool}{r:List Nat}(hr:de.nM 0 n.c9.length st r){src:Int}(s0:0<=src)(hs:de.AG n src=true):DE (de.iw n st src):=by
 refine Qh R (de.FC st src) (de.v9 R hr s0 hs) hr.1 ?_;show((List.range n.c9.length).map _).length=_;simp
theorem Qj{b:Nat}(hb:b<=134217728){right:List Int}(hr:right≠[]):∀(f:Nat) (rest:List Int),de.WM b f rest right->Va f rest right
 |0,_,_=>trivial
 |f+1,rest,h=>by
  rcases h with h |⟨⟨γ,δ,hs,h1,h2⟩,h3⟩
  ·exact .inl h
  ·by_cases q:rest.length<right.length
   ·exact .inl q
   have r0:rest≠[]:=fun z=>q (by rw[z];exact aE.mpr hr)
   have z1:∀x∈rest,Sz γ x:=fun x hx=>by
    have:=h1.mem hx;unfold Sz;have:=Nat.two_pow_pos γ;lia
   have z2:∀x∈right,Sz δ x:=fun x hx=>by
    have:=h2.mem hx;unfold Sz;have:=Nat.two_pow_pos δ;lia
   refine .inr ⟨fun x hx=>(z2 _ (Hg hr)).mul (z1 x hx) (by lia),fun y hy=>(z1 _ (Hg r0)).mul (z2 y hy) (by lia),Qj hb hr f _ h3⟩
theorem Qk{b:Nat}(hb:b<=134217728):∀(f:Nat) (l s:List Int),de.CM b f l s->Vb f l s
 |0,_,_,_=>trivial
 |f+1,l,s,h=>by
  rcases h with h |⟨h1,h2⟩
  ·exact .inl h
  ·by_cases q:s=[]
   ·exact .inl q
   ·exact .inr ⟨Qj hb q _ _ h1,Qk hb f _ _ h2⟩
theorem TK{T B:List Int}(h:de.TB T B):Wa T B:=by
 have mu:∀{l r:List Int},de.ij l<=2^7702->de.ij r<=2^7702->∀x∈l,∀y∈r,IntMulOk x y:=fun hl hr x hx y hy=>(Jk hl hx).mul (Jk hr hy) (by decide)
 refine⟨Qk (by decide) _ _ _ h.chain,?_,mu h.a.2 h.g.2,mu h.b.2 h.g.2,KR h.f (by decide),by have:=h.a.1;lia,by have:=h.b.1;lia,by have:=h.g.1;lia⟩;by_cases q:de.pO T B=[]
 ·rw[q];decide
 ·exact KR (ay (de.vi (Hg q)) h.g.2) (by decide)
theorem RH{n:de.Nw}{d:List Int}{tops:List (List Int)}{m B:Nat}(tl:tops.length=(de.df n).unknowns)(hb:∀c,c<(de.df n).unknowns->(tops.getD c []).length<=m/\de.ij (tops.getD c [])<=B){a b:Int}(ha:a<=n.last)(hb':b<=n.last):(de.jl (d,tops) a b).length<=m/\de.ij (de.jl (d,tops) a b)<=2*B:=by
 have nl:=de.kx n;have nd:∀v:Int,v<=n.last->(de.gy (d,tops) v).length<=m/\de.ij (de.gy (d,tops) v)<=B:=fun v hv=>by
  unfold de.gy;by_cases h:0<v
  ·rw[ah h];exact hb _ (by lia)
  ·rw[af h];exact⟨aM _,aM _⟩
 have x:=nd _ ha;have y:=nd _ hb';unfold de.jl de.uh de.Ce;refine⟨ay (de.Gm _) ?_,ay (de.GL _) (ay (de.qX _ _) ?_)⟩
 ·rw[de.jw,de.xq];lia
 ·rw[de.GN];lia
theorem Vo{T B:List Int}(tT:de.Trim T)(tB:de.Trim B)(ne:B≠[])(lT:T.length<=11)(lB:B.length<=11)(nT:de.ij T<=2^7531)(nB:de.ij B<=2^7531):RE T B/\(de.sO T B).length<=100:=by
 have tb:T≠[]->de.TB T B:=fun h=>de.Ri tT tB h ne lT lB nT nB
 refine⟨⟨?_,?_,tT,tB,ne,fun h=>TK (tb h)⟩,de.M5 tb⟩
 ·show T.length<_;lia
 ·show B.length<_;lia
theorem Wv:2*2^7530=2^7531:=by rw[show(7531:Nat)=1+7530 from rfl,Nat.pow_add]
theorem up1{x:Nat}(h:x<=2^7530):x<=2^7531:=ay h (bC (by decide) (by decide))
theorem Vp{n:de.Nw}(R:de.Right n)(h10:n.c9.length<=10){st:List Bool}{r:List Nat}(hst:de.nM 0 n.c9.length st r)(D0:(de.det (de.df n).unknowns (de.Sm n ((de.df n).rest r) 0)).f 0≠0){a b c d:Int}(ha:0<=a/\a<=n.last)(hb:0<=b/\b<=n.last)(hc:0<=c/\c<=n.last)(hd:0<=d/\d<=n.last):DE (de.Ed n st (c,d))/\∃s,de.sol (de.rows (de.Ed n st (c,d)))=some s/\uT s/\a<=s.2.length/\b<=s.2.length/\RE (de.jl s a b) s.1:=by
 obtain⟨e,tops,es,D,_⟩:=de.U8 R h10 hst D0 ha.1 ha.2 hb.1 hb.2 hc.1 hc.2 hd.1 hd.2;have R1:de.Right (de.more n [de.jK 5 d c 1]):=de.we R h10 (by show 1<=2;decide) fun p hp=>by
  rw[aw.mp hp];exact de.Ks (.inr rfl) hd.1 hc.1 hd.2 hc.2 (.inr rfl)
 have R0:de.Right (de.more n [de.jK 5 d c 0]):=de.we R h10 (by show 1<=2;decide) fun p hp=>by
  rw[aw.mp hp];exact de.Ks (.inr rfl) hd.1 hc.1 hd.2 hc.2 (.inl rfl)
 have lm:(de.more n [de.jK 5 d c 0]).c9.length=n.c9.length+1:=by
  show(n.c9 ++ [_]).length=_;rw[aA];rfl
 have hst0:de.nM 0 (de.more n [de.jK 5 d c 0]).c9.length (st ++ [false]) r:=by
  rw[lm];exact de.L7 (j:=1) hst
 have is:de.AG (de.more n [de.jK 5 d c 0]) (n.c9.length:Int)=true:=by
  unfold de.AG de.kindAt;rw[lm,bb];show(decide _&&decide (((n.c9 ++ [de.jK 5 d c 0]).getD n.c9.length de.p0).kind=4\/((n.c9 ++ [de.jK 5 d c 0]).getD n.c9.length de.p0).kind=5))=true;rw[de.GV (aj _),cj];rw[ak (by lia)];rfl
 have S2:=de.v9 R0 hst0 (b6 _) is;obtain⟨⟨b1,b2⟩,b3⟩:=de.Pf R0 (de.FC (st ++ [false]) (n.c9.length:Int)) S2 es;have tl0:=Ml R0 S2 es;have tl1:=D.len;obtain⟨l1,l2⟩:=de.Rh R1 D;obtain⟨q,q0,hd',ht'⟩:=D.ex;obtain⟨tT,_⟩:=de.AX R1 D ht' ha.1 ha.2 hb.1 hb.2;have hbb:∀k,k<(de.df (de.more n [de.jK 5 d c 1])).unknowns->(tops.getD k []).length<=11/\de.ij (tops.getD k [])<=2^7530:=fun k hk=>⟨l2 k hk,(b3 k (by rw[<-tl0,tl1];exact hk)).2⟩
 obtain⟨c1',c2'⟩:=RH (n:=de.more n [de.jK 5 d c 1]) (d:=e) tl1 hbb ha.2 hb.2;rw[Wv] at c2';obtain⟨td,sZ⟩:=Vo tT D.Ck D.UW c1' l1 c2' (up1 b2);have nl:=de.kx (de.more n [de.jK 5 d c 1]);have ln:(de.more n [de.jK 5 d c 1]).last=n.last:=rfl;refine⟨Hi R0 hst0 (b6 _) is,(e,tops),es,FO tl0 b1 (fun c hc=>(b3 c hc).1),?_,?_,td⟩
 ·show a<=(tops.length:Int);lia
 ·show b<=(tops.length:Int);lia
theorem Vq{l a:List Int}(hr:de.fq l=[])(a0:∀v∈a,0<=v)(l3:a.length<=3)(hany:(a.any fun v=>decide ((de.fb l).last<v))=false){p:List Bool×(List Int×List (List Int))}(hp:de.point (de.fb l)=some p):TH (de.fb l) p a:=by
 obtain⟨R,_⟩:=de.right_of hr;have h10:=de.BO hr;have pr:=de.zG R;rw[hp] at pr;have bd:∀v∈a,0<=v/\v<=(de.fb l).last:=fun v hv=>⟨a0 v hv,Int.not_lt.mp fun z=>by
  have:a.any (fun v=>decide ((de.fb l).last<v))=true:=bK.mpr ⟨_,hv,ak z⟩;rw[hany] at this;cases this⟩
 cases hP:(de.df (de.fb l)).point with
 |none=>rw[hP] at pr;exact pr.elim
 |some y=>
 rw[hP] at pr;obtain⟨⟨_,d0,tl,_⟩,hst,D0⟩:=pr;have nl:=de.kx (de.fb l);refine⟨l3,by lia,by have:=hst.1;lia,fun v hv=> ?_,d0,fun i hi=> ?_⟩
 ·have:=(bd v hv).2;lia
 ·have z0:(0:Int)<=0/\0<=(de.fb l).last:=⟨Int.le_refl _,Int.le_trans (bd i hi).1 (bd i hi).2⟩;obtain⟨si,s,es,sh,_,_,_⟩:=Vp R h10 hst D0 (bd i hi) z0 (bd i hi) z0;refine⟨si,s,es,sh,fun v hv=> ?_⟩;obtain⟨_,s',es',_,h1,_,h2⟩:=Vp R h10 hst D0 (bd v hv) z0 (bd i hi) z0;rw[es] at es';cases es'
  exact⟨h1,h2⟩
theorem Sf{l a:List Int}(a0:∀v∈a,0<=v):TJ l a:=fun hr=>⟨Vn (de.right_of hr).1 (de.BO hr),fun l3 hany _ hp=>Vq hr a0 l3 hany hp⟩
end HK
namespace L2
open PySem PySem.Spec PyProof.Rows
open PySem.W (WData Codec OpenSpec Well WellAll ReadsW ReadsAllW)
mutual
inductive Dw(K:PySem.W.Frag)(H:Hp):V->WData->Prop
 |jS:Dw K H .jS .none
 |bl (b:Bool):Dw K H (.bl b) (.bool b)
 |int (i:Int):Dw K H (.int i) (.int i)
 |str (x:Str):Dw K H (.str x) (.str x)
 |FU (b:Array UInt8):Dw K H (.FU b) (.bytes b.toList)
 |lst {a:Addr} {xs:List V} {ds:List WData}:kg K H a xs->rm K H xs ds->Dw K H (.ref a) (.list ds)
 |tup {a:Addr} {xs:List V} {ds:List WData}:BX K H a xs->rm K H xs ds->Dw K H (.ref a) (.tuple ds)
inductive rm(K:PySem.W.Frag)(H:Hp):List V->List WData->Prop
 |nil:rm K H [] []
 |cons {v:V} {vs:List V} {d:WData} {ds:List WData}:Dw K H v d->rm K H vs ds->rm K H (v::vs) (d::ds)
end
theorem Mm{K:PySem.W.Frag}{H:Hp}:∀ns:List Int,rm K H (ns.map V.int) (ns.map WData.int)
 |[]=> .nil
 |n::r=> .cons (.int n) (Mm r)
theorem yG{K:PySem.W.Frag}{H:Hp}:∀(ns:List Int) (xs:List V),rm K H xs (ns.map WData.int)->xs=ns.map V.int
 |[],xs,h=>by
  cases h
  rfl
 |n::r,xs,h=>by
  cases h with
  |cons h1 h2=>
   cases h1
   rw[yG r _ h2] <;>rfl
section
variable {P:Program}{w:World}{K:PySem.W.Frag}{H:Hp}{h:Heap}{R:PySem.W.WRecords}{cl:Str->Option Addr}
theorem TM{a:Addr}{xs:List V}(iL:w9 P w H h)(KX:K.In h)(q:kg K H a xs):∃(its:List Value) (o:Obj) (n:Nat),Vals xs its/\h.get? a=some o/\o.cls= .type "list"/\o.data= .seq its.toArray n:=by
 rcases q with q |⟨o,its,n,e,hc,_,hd,_,hv⟩
 ·obtain⟨_,its,n,hv,e⟩:=(show kh P w H h a (.lst xs) from q.ok iL);exact⟨its,_,n,hv,e,rfl,rfl⟩
 ·exact⟨its.toList,o,n,hv,KX _ _ e,hc,by simp[hd]⟩
theorem TN{a:Addr}{xs:List V}(iL:w9 P w H h)(KX:K.In h)(q:BX K H a xs):∃(its:List Value) (o:Obj) (n:Nat),Vals xs its/\h.get? a=some o/\o.cls= .type "tuple"/\o.data= .seq its.toArray n:=by
 rcases q with q |⟨o,its,n,e,hc,hd,_,hv⟩
 ·obtain⟨_,its,hv,o,e,hc,n,hd⟩:=(show kh P w H h a (.tup xs) from q.ok iL);exact⟨its,o,n,hv,e,hc,hd⟩
 ·exact⟨its.toList,o,n,hv,KX _ _ e,hc,by simp[hd]⟩
mutual
theorem Dw.reads(iL:w9 P w H h)(KX:K.In h):∀(d:WData) (v:V) (u:Value),Dw K H v d->RelV v u->∃as,ReadsW R cl h u d as
 | .none,_,_,x,r=>by
  cases x
  cases r
  exact⟨_,ReadsW.none⟩
 | .bool b,_,_,x,r=>by
  cases x
  cases r
  exact⟨_,ReadsW.bool b⟩
 | .int i,_,_,x,r=>by
  cases x
  obtain⟨t,rfl⟩:=r;exact⟨_,ReadsW.int i t⟩
 | .str s,_,_,x,r=>by
  cases x
  obtain⟨t,rfl⟩:=r;exact⟨_,ReadsW.str s t⟩
 | .bytes b,_,_,x,r=>by
  cases x
  obtain⟨t,rfl⟩:=r;exact⟨_,ReadsW.bytes _ t⟩
 | .list ds,_,_,x,r=>by
  cases x with
  |lst hs ha=>
   cases r
   obtain⟨its,o,n,rv,ho,hc,hd⟩:=TM iL KX hs;obtain⟨as,hr⟩:=Dw.readsAll iL KX ds _ its ha rv;exact⟨_,ReadsW.list ho hc hd hr⟩
 | .tuple ds,_,_,x,r=>by
  cases x with
  |tup hs ha=>
   cases r
   obtain⟨its,o,n,rv,ho,hc,hd⟩:=TN iL KX hs;obtain⟨as,hr⟩:=Dw.readsAll iL KX ds _ its ha rv;exact⟨_,ReadsW.tuple ho hc hd hr⟩
 | .float _,_,_,x,_=>by cases x
 | .dict _,_,_,x,_=>by cases x
 | .bytearray _,_,_,x,_=>by cases x
 | .set _,_,_,x,_=>by cases x
 | .frozenset _,_,_,x,_=>by cases x
 | .obj _ _,_,_,x,_=>by cases x
theorem Dw.readsAll(iL:w9 P w H h)(KX:K.In h):∀(ds:List WData) (vs:List V) (us:List Value),rm K H vs ds->Vals vs us->∃as,ReadsAllW R cl h us ds as
 |[],_,_,x,r=>by
  cases x
  cases r
  exact⟨_,ReadsAllW.nil⟩
 |d::ds,_,_,x,r=>by
  cases x with
  |cons h1 h2=>
   cases r with
   |cons r1 r2=>
    obtain⟨as,q1⟩:=Dw.reads iL KX d _ _ h1 r1;obtain⟨bs,q2⟩:=Dw.readsAll iL KX ds _ _ h2 r2;exact⟨_,ReadsAllW.cons q1 q2⟩
end
end
mutual
noncomputable def Mn:WData->Bool
 | .none=>true
 | .bool _=>true
 | .int _=>true
 | .str _=>true
 | .bytes _=>true
 | .list xs=>Bt xs
 | .tuple xs=>Bt xs
 |_=>false
noncomputable def Bt:List WData->Bool
 |[]=>true
 |x::r=>Mn x&&Bt r
end
theorem Jl{α:Type}{f:α->WData}(h:∀a,Mn (f a)=true):∀l:List α,Bt (l.map f)=true
 |[]=>rfl
 |x::r=>by
  show(Mn (f x)&&Bt (r.map f))=true;rw[h x,Jl h r] <;>rfl
theorem uX:∀(c:Codec) (a:c.denote),Mn (c.enc a)=true
 | .unit,_=>rfl
 | .bool,_=>rfl
 | .int _ _,_=>rfl
 | .nat _ _,_=>rfl
 | .u8,_=>rfl
 | .bytes _ _,_=>rfl
 | .text _ _ _ _,_=>rfl
 | .list _ _ c,a=>Jl (fun x=>uX c x) a
 | .pair c d,a=>by
  show(Mn (c.enc a.1)&&(Mn (d.enc a.2)&&true))=true;rw[uX c a.1,uX d a.2] <;>rfl
 | .triple c d e,a=>by
  show(Mn (c.enc a.1)&&(Mn (d.enc a.2.1)&&(Mn (e.enc a.2.2)&&true)))=true;rw[uX c a.1,uX d a.2.1,uX e a.2.2] <;>rfl
 | .option c,none=>rfl
 | .option c,some x=>uX c x
theorem FP:∀(cs:List Codec) (a:Codec.denoteAll cs),Bt (Codec.encAll cs a)=true
 |[],_=>rfl
 |c::cs,a=>by
  show(Mn (c.enc a.1)&&Bt (Codec.encAll cs a.2))=true;rw[uX c a.1,FP cs a.2] <;>rfl
theorem wY:∀{xs:List WData} {d:WData},d∈xs->d.weight<=WData.weightAll xs
 |[],d,h=>absurd h (by simp)
 |x::r,d,h=>by
  show d.weight<=x.weight+1+WData.weightAll r;rcases aJ.mp h with e |m
  ·rw[e];omega
  ·have z:=wY m;omega
noncomputable def toV:Value->V
 | .none=> .jS
 | .bool b=> .bl b
 | .int i _=> .int i
 | .str x _=> .str x
 | .bytes b _=> .FU b
 | .ref a=> .ref a
 |_=> .jS
noncomputable def Np (A:List Addr):Value->Prop
 | .none=>True
 | .bool _=>True
 | .int _ _=>True
 | .str _ _=>True
 | .bytes _ _=>True
 | .ref a=>a∈A
 |_=>False
theorem Np.mono{A B:List Addr}(h:∀a∈A,a∈B):∀{u:Value},Np A u->Np B u:=fun{u} x=>by
 cases u with
 |ref a=>exact h a x
 |none=>trivial
 |bool b=>trivial
 |int i t=>trivial
 |str s t=>trivial
 |bytes b t=>trivial
 |_=>exact False.elim x
theorem Ql{A:List Addr}{u:Value}(x:Np A u):RelV (toV u) u:=by
 cases u with
 |ref a=>rfl
 |none=>rfl
 |bool b=>rfl
 |int i t=>exact⟨t,rfl⟩
 |str s t=>exact⟨t,rfl⟩
 |bytes b t=>exact⟨t,rfl⟩
 |_=>exact False.elim x
theorem rn{A:List Addr}:∀{vs:List Value},(∀u∈vs,Np A u)->Vals (vs.map toV) vs
 |[],_=> .nil
 |u::r,h=> .cons (Ql (h u (ax ..))) (rn fun x hx=>h x (ao _ hx))
noncomputable def sX (h:Heap) (A:List Addr) (a:Addr):Prop:=∃vs:List Value,vs.length<=sizeLine/\(∀u∈vs,Np A u)/\
 (h.get? a=some {cls:= .type "list",data:= .seq vs.toArray}\/h.get? a=some {cls:= .type "tuple",data:= .seq vs.toArray})
theorem sX.mono{h:Heap}{A B:List Addr}{a:Addr}(k:∀a∈A,a∈B)(x:sX h A a):sX h B a:=by
 obtain⟨vs,h1,h2,h3⟩:=x;exact⟨vs,h1,fun u hu=>(h2 u hu).mono k,h3⟩
theorem qj{P:Params}{h:Heap}:∀{vs:List Value} {ds:List WData},WellAll P h vs ds->vs.length=ds.length
 |_,_,.nil=>rfl
 |_,_,.cons _ b=>by
  show _+ 1=_+ 1;rw[qj b]
theorem FQ{P:Params}{h:Heap}{v:Value}{ds:List WData}(x:Well P h v (.list ds)):∃(a:Addr) (vs:List Value),v= .ref a/\h.get? a=some {cls:= .type "list",data:= .seq vs.toArray}/\WellAll P h vs ds:=by
 cases x with
 |list ho hall=>exact⟨_,_,rfl,ho,hall⟩
theorem DN{P:Params}{h:Heap}{v:Value}{ds:List WData}(x:Well P h v (.tuple ds)):∃(a:Addr) (vs:List Value),v= .ref a/\h.get? a=some {cls:= .type "tuple",data:= .seq vs.toArray}/\WellAll P h vs ds:=by
 cases x with
 |tuple ho hall=>exact⟨_,_,rfl,ho,hall⟩
theorem FR{P:Params}{h:Heap}{us:List Value}{d:WData}{ds:List WData}(x:WellAll P h us (d::ds)):∃(v:Value) (vs:List Value),us=v::vs/\Well P h v d/\WellAll P h vs ds:=by
 cases x with
 |cons a b=>exact⟨_,_,rfl,a,b⟩
theorem Mo{n:Nat}(h:n<=1048576):n<=sizeLine:=ay h (by decide)
section
variable {P:Params}{h:Heap}
mutual
theorem Qm:∀(d:WData) (v:Value),Well P h v d->Mn d=true->d.weight<=1048576->∃A:List Addr,Np A v/\∀a∈A,sX h A a
 | .none,_,x,_,_=>by
  cases x
  exact⟨[],trivial,fun a m=>absurd m (by simp)⟩
 | .bool b,_,x,_,_=>by
  cases x
  exact⟨[],trivial,fun a m=>absurd m (by simp)⟩
 | .int i,_,x,_,_=>by
  cases x
  exact⟨[],trivial,fun a m=>absurd m (by simp)⟩
 | .str s,_,x,_,_=>by
  cases x
  exact⟨[],trivial,fun a m=>absurd m (by simp)⟩
 | .bytes b,_,x,_,_=>by
  cases x
  exact⟨[],trivial,fun a m=>absurd m (by simp)⟩
 | .list ds,_,x,p,z=>by
  obtain⟨a,vs,rfl,ho,hall⟩:=FQ x;have z2:WData.weightAll ds<=1048576:=z;obtain⟨A,h1,h2⟩:=yH ds _ hall p fun d hd=>ay (wY hd) z2
  have k:∀b∈A,b∈a::A:=fun b hb=>ao _ hb
  refine⟨a::A,ax ..,fun b hb=> ?_⟩;rcases aJ.mp hb with e |m
  ·rw[e];exact⟨vs,Mo (by rw[qj hall];exact ay (PySem.W.length_le_weightAllW ds) z2),fun u hu=>(h1 u hu).mono k,.inl ho⟩
  ·exact(h2 b m).mono k
 | .tuple ds,_,x,p,z=>by
  obtain⟨a,vs,rfl,ho,hall⟩:=DN x;have z2:WData.weightAll ds<=1048576:=z;obtain⟨A,h1,h2⟩:=yH ds _ hall p fun d hd=>ay (wY hd) z2
  have k:∀b∈A,b∈a::A:=fun b hb=>ao _ hb
  refine⟨a::A,ax ..,fun b hb=> ?_⟩;rcases aJ.mp hb with e |m
  ·rw[e];exact⟨vs,Mo (by rw[qj hall];exact ay (PySem.W.length_le_weightAllW ds) z2),fun u hu=>(h1 u hu).mono k,.inr ho⟩
  ·exact(h2 b m).mono k
 | .float _,_,_,p,_=>Bool.noConfusion (show false=true from p)
 | .dict _,_,_,p,_=>Bool.noConfusion (show false=true from p)
 | .bytearray _,_,_,p,_=>Bool.noConfusion (show false=true from p)
 | .set _,_,_,p,_=>Bool.noConfusion (show false=true from p)
 | .frozenset _,_,_,p,_=>Bool.noConfusion (show false=true from p)
 | .obj _ _,_,_,p,_=>Bool.noConfusion (show false=true from p)
theorem yH:∀(ds:List WData) (vs:List Value),WellAll P h vs ds->Bt ds=true->(∀d∈ds,d.weight<=1048576)->∃A:List Addr,(∀u∈vs,Np A u)/\∀a∈A,sX h A a
 |[],_,x,_,_=>by
  cases x
  exact⟨[],fun u m=>absurd m (by simp),fun a m=>absurd m (by simp)⟩
 |d::ds,_,x,p,z=>by
  obtain⟨v,vs,rfl,x1,x2⟩:=FR x;have q:Mn d=true/\Bt ds=true:=Bool.and_eq_true_iff.mp p;obtain⟨A,a1,a2⟩:=Qm d v x1 q.1 (z d (ax ..));obtain⟨B,b1,b2⟩:=yH ds vs x2 q.2 fun e he=>z e (ao _ he)
  have kA:∀b∈A,b∈A ++ B:=fun b hb=>aN.mpr (.inl hb)
  have kB:∀b∈B,b∈A ++ B:=fun b hb=>aN.mpr (.inr hb)
  refine⟨A ++ B,fun u hu=> ?_,fun b hb=> ?_⟩
  ·rcases aJ.mp hu with e |m
   ·rw[e];exact a1.mono kA
   ·exact(b1 u m).mono kB
  ·rcases aN.mp hb with m |m
   ·exact(a2 b m).mono kA
   ·exact(b2 b m).mono kB
end
end
noncomputable def RI (o:Obj):Option HO:=match o.data with
 | .seq vs _=>if(o.cls==Value.type "list")=true then some (.FV o (.lst (vs.toList.map toV))) else some (.FV o (.tup (vs.toList.map toV)))
 |_=>none
noncomputable def qP (K:PySem.W.Frag) (h:Heap) (A:List Addr):Hp:=fun b=>if b∈A then(if(K.lookup b).isNone=true then(h.get? b).bind RI else none) else none
noncomputable def Jm (H:Hp):Prop:=∀b,H b=none\/∃o u,H b=some (.FV o u)
theorem Jn(vs:List Value):RI {cls:= .type "list",data:= .seq vs.toArray}=some (.FV {cls:= .type "list",data:= .seq vs.toArray} (.lst (vs.map toV))):=by
 show(if(Value.type "list"==Value.type "list")=true then some (HO.FV {cls:= .type "list",data:= .seq vs.toArray} (.lst (vs.toArray.toList.map toV))) else some (HO.FV {cls:= .type "list",data:= .seq vs.toArray} (.tup (vs.toArray.toList.map toV))))=_;rw[ah (beq_self_eq_true _)]
theorem Jo(vs:List Value):RI {cls:= .type "tuple",data:= .seq vs.toArray}=some (.FV {cls:= .type "tuple",data:= .seq vs.toArray} (.tup (vs.map toV))):=by
 show(if(Value.type "tuple"==Value.type "list")=true then some (HO.FV {cls:= .type "tuple",data:= .seq vs.toArray} (.lst (vs.toArray.toList.map toV))) else some (HO.FV {cls:= .type "tuple",data:= .seq vs.toArray} (.tup (vs.toArray.toList.map toV))))=_;rw[af (by decide)]
section
variable {P:Program}{w:World}{K:PySem.W.Frag}{h:Heap}{A:List Addr}
theorem BQ{b:Addr}{o:Obj}(hb:b∈A)(hk:K.lookup b=none)(e:h.get? b=some o):qP K h A b=RI o:=by
 unfold qP;rw[ah hb,hk,ah (show(none:Option Obj).isNone=true from rfl),e] <;>rfl
theorem RJ{b:Addr}{u:HO}(q:qP K h A b=some u):b∈A/\K.lookup b=none:=by
 unfold qP at q;by_cases hb:b∈A
 ·rw[ah hb] at q;cases hk:K.lookup b with
  |none=>exact⟨hb,rfl⟩
  |some o=>
   rw[hk,af (by simp)] at q;cases q
 ·rw[af hb] at q;cases q
theorem yI(ar:∀a∈A,sX h A a){b:Addr}{u:HO}(q:qP K h A b=some u):K.lookup b=none/\∃vs:List Value,vs.length<=sizeLine/\(∀u∈vs,Np A u)/\
  ((h.get? b=some {cls:= .type "list",data:= .seq vs.toArray}/\u= .FV {cls:= .type "list",data:= .seq vs.toArray} (.lst (vs.map toV)))\/
   (h.get? b=some {cls:= .type "tuple",data:= .seq vs.toArray}/\u= .FV {cls:= .type "tuple",data:= .seq vs.toArray} (.tup (vs.map toV)))):=by
 obtain⟨hb,hk⟩:=RJ q;obtain⟨vs,h1,h2,h3⟩:=ar b hb;refine⟨hk,vs,h1,h2,?_⟩;rcases h3 with e |e
 ·rw[BQ hb hk e,Jn] at q;exact .inl ⟨e,(aZ q).symm⟩
 ·rw[BQ hb hk e,Jo] at q;exact .inr ⟨e,(aZ q).symm⟩
theorem Nq(ar:∀a∈A,sX h A a):Jm (qP K h A):=fun b=>by
 cases q:qP K h A b with
 |none=>exact .inl rfl
 |some u=>
  obtain⟨_,vs,_,_,⟨_,e⟩ |⟨_,e⟩⟩:=yI ar q
  ·exact .inr ⟨_,_,by rw[e]⟩
  ·exact .inr ⟨_,_,by rw[e]⟩
theorem RK(ar:∀a∈A,sX h A a):w9 P w (qP K h A) h:=fun b u q=>by
 obtain⟨_,vs,h1,h2,⟨e,rfl⟩ |⟨e,rfl⟩⟩:=yI ar q
 ·exact⟨e,by rw[lMp];exact h1,vs,_,rn h2,e⟩
 ·exact⟨e,by rw[lMp];exact h1,vs,rn h2,_,e,rfl,_,rfl⟩
theorem BR{c c':Value}{vs us:List Value}(e:(some {cls:=c,data:= .seq vs.toArray}:Option Obj)=some {cls:=c',data:= .seq us.toArray}):c=c'/\vs=us:=by
 have e1:=aZ e;have e2:c=c':=congrArg Obj.cls e1;have e3:Data.seq vs.toArray=Data.seq us.toArray:=congrArg Obj.data e1;injection e3 with e4
 refine⟨e2,?_⟩;have e5:=congrArg Array.toList e4;simpa using e5
theorem Ww(KX:K.In h)(ar:∀a∈A,sX h A a){a:Addr}{vs:List Value}(ha:a∈A)(e:h.get? a=some {cls:= .type "list",data:= .seq vs.toArray}):(∀u∈vs,Np A u)/\kg K (qP K h A) a (vs.map toV):=by
 obtain⟨us,h1,h2,h3⟩:=ar a ha;have hu:us=vs:=by
  rcases h3 with q |q
  ·rw[e] at q;exact(BR q).2.symm
  ·rw[e] at q;exact absurd (Value.type.inj (BR q).1) (by decide)
 subst hu;refine⟨h2,?_⟩;cases hk:K.lookup a with
 |none=>exact .inl (.inr ⟨_,by rw[BQ ha hk e,Jn]⟩)
 |some o=>
  have e2:=KX a o hk;rw[e] at e2;obtain rfl:=aZ e2;exact .inr ⟨_,us.toArray,_,hk,rfl,rfl,rfl,by rw[aK];exact h1,by simpa using rn h2⟩
theorem Wx(KX:K.In h)(ar:∀a∈A,sX h A a){a:Addr}{vs:List Value}(ha:a∈A)(e:h.get? a=some {cls:= .type "tuple",data:= .seq vs.toArray}):(∀u∈vs,Np A u)/\BX K (qP K h A) a (vs.map toV):=by
 obtain⟨us,h1,h2,h3⟩:=ar a ha;have hu:us=vs:=by
  rcases h3 with q |q
  ·rw[e] at q;exact absurd (Value.type.inj (BR q).1) (by decide)
  ·rw[e] at q;exact(BR q).2.symm
 subst hu;refine⟨h2,?_⟩;cases hk:K.lookup a with
 |none=>exact .inl (.inr ⟨_,by rw[BQ ha hk e,Jo]⟩)
 |some o=>
  have e2:=KX a o hk;rw[e] at e2;obtain rfl:=aZ e2;exact .inr ⟨_,us.toArray,_,hk,rfl,rfl,by rw[aK];exact h1,by simpa using rn h2⟩
mutual
theorem TQ{Pm:Params}(KX:K.In h)(ar:∀a∈A,sX h A a):∀(d:WData) (v:Value),Well Pm h v d->Mn d=true->Np A v->Dw K (qP K h A) (toV v) d
 | .none,_,x,_,_=>by
  cases x
  exact .jS
 | .bool b,_,x,_,_=>by
  cases x
  exact .bl b
 | .int i,_,x,_,_=>by
  cases x
  exact .int i
 | .str s,_,x,_,_=>by
  cases x
  exact .str s
 | .bytes b,_,x,_,_=>by
  cases x
  have z:=Dw.FU (K:=K) (H:=qP K h A) b.toArray;exact z
 | .list ds,_,x,p,hu=>by
  obtain⟨a,vs,rfl,ho,hall⟩:=FQ x;obtain⟨h2,hs⟩:=Ww KX ar hu ho;exact .lst hs (Hj KX ar ds _ hall p h2)
 | .tuple ds,_,x,p,hu=>by
  obtain⟨a,vs,rfl,ho,hall⟩:=DN x;obtain⟨h2,hs⟩:=Wx KX ar hu ho;exact .tup hs (Hj KX ar ds _ hall p h2)
 | .float _,_,_,p,_=>Bool.noConfusion (show false=true from p)
 | .dict _,_,_,p,_=>Bool.noConfusion (show false=true from p)
 | .bytearray _,_,_,p,_=>Bool.noConfusion (show false=true from p)
 | .set _,_,_,p,_=>Bool.noConfusion (show false=true from p)
 | .frozenset _,_,_,p,_=>Bool.noConfusion (show false=true from p)
 | .obj _ _,_,_,p,_=>Bool.noConfusion (show false=true from p)
theorem Hj{Pm:Params}(KX:K.In h)(ar:∀a∈A,sX h A a):∀(ds:List WData) (vs:List Value),WellAll Pm h vs ds->Bt ds=true->(∀u∈vs,Np A u)->rm K (qP K h A) (vs.map toV) ds
 |[],_,x,_,_=>by
  cases x
  exact .nil
 |d::ds,_,x,p,hu=>by
  obtain⟨v,vs,rfl,x1,x2⟩:=FR x;have q:Mn d=true/\Bt ds=true:=Bool.and_eq_true_iff.mp p;exact .cons (TQ KX ar d v x1 q.1 (hu _ (ax ..))) (Hj KX ar ds vs x2 q.2 fun u m=>hu u (ao _ m))
end
end
theorem Nr{P:Program}{w:World}{K:PySem.W.Frag}{mg mb:Str->Option Value}{CX:NP}{k:Nat}{fa:Addr}{ps:List Str}{sp:Sp}{s₁:Shared}{vals:List Value}{ds:List WData}{R:PySem.W.WRecords}{cl:Str->Option Addr}{d0:WData}
  (KX:K.In s₁.heap) (hns:s₁.heap.Ns mainGlobals mg) (hb:s₁.heap.Ns builtinsNs mb) (hbb:∀x:Str,x≠"__name__"->mb x=bootBuiltins x) (hlim:s₁.heap.NoLimit) (hg:s₁.gens= #[])
  (hwl:WellAll w.params s₁.heap vals ds) (hpl:Bt ds=true) (hwt:∀d∈ds,d.weight<=1048576) (hr:ko k callerA) (hsee:s₁.heap.NoSeer)
  (F:∀base:Heap,K.In base->base.Ns mainGlobals mg->base.NoSeer->∃fd:FuncData,Binds K fd ps []/\qk P w K mg base CX k fa fd ps sp) (hlen:ds.length=ps.length)
  (hsp:∀(H:Hp) (xs:List V),Jm H->rm K H xs ds->sp xs H (fun v H'=>Dw K H' v d0) fun _ _ _=>False)
  (hCX:∀H e s',CX [] H s₁ (fun _ _ _=>False) e s'->False):
  codeAny (model P w) callerA (.call (.ref fa) ⟨vals,[]⟩) (fun r s'=>∃u as,r= .ok (.ret u)/\ReadsW R cl s'.heap u d0 as/\OldK s₁.heap s'.heap/\s'.os=s₁.os/\AllBare s'.gens) s₁:=by
 obtain⟨A,ho,ar⟩:=yH ds vals hwl hpl hwt;have hO:Jm (qP K s₁.heap A):=Nq ar;have iL:w9 P w (qP K s₁.heap A) s₁.heap:=RK ar;have hS:=Hj KX ar ds vals hwl hpl ho;have hV:=rn ho;have hK:∀b u,qP K s₁.heap A b=some u->K.lookup b=none:=fun b u q=>(yI ar q).1
 have noA:∀{b:Addr} {o:Obj} {es:Array DictEntry} {ep:Nat},s₁.heap.get? b=some o->o.data= .dict es ep->qP K s₁.heap A b=none:=fun{b o es ep} e d=>by
  cases q:qP K s₁.heap A b with
  |none=>rfl
  |some u=>
   obtain⟨_,vs,_,_,⟨e2,_⟩ |⟨e2,_⟩⟩:=yI ar q
   ·rw[e2] at e;cases e
    have d':Data.seq vs.toArray _=Data.dict es ep:=d;cases d'
   ·rw[e2] at e;cases e
    have d':Data.seq vs.toArray _=Data.dict es ep:=d;cases d'
 have noM:∀{b:Addr} {o:Obj},s₁.heap.get? b=some o->o.cls= .type "module"->qP K s₁.heap A b=none:=fun{b o} e d=>by
  cases q:qP K s₁.heap A b with
  |none=>rfl
  |some u=>
   obtain⟨_,vs,_,_,⟨e2,_⟩ |⟨e2,_⟩⟩:=yI ar q
   ·rw[e2] at e;cases e
    exact absurd (Value.type.inj d) (by decide)
   ·rw[e2] at e;cases e
    exact absurd (Value.type.inj d) (by decide)
 generalize qP K s₁.heap A=H at hO iL hS hK noA noM;have base_of:∀{b:Addr} {o:Obj},s₁.heap.get? b=some o->H b=none->(DY s₁.heap H).get? b=some o:=fun e n=>NU e n
 have nsK:∀{b:Addr} {m:Str->Option Value},s₁.heap.Ns b m->(DY s₁.heap H).Ns b m:=fun{b m} ⟨o,es,ep,e,d,r⟩=>⟨o,es,ep,base_of e (noA e d),d,r⟩
 have nK:∀b o,K.lookup b=some o->H b=none:=fun b o e=>by
  cases q:H b with
  |none=>rfl
  |some u=>
   rw[hK b u q] at e;cases e
 have hKb:K.In (DY s₁.heap H):=fun b o e=>base_of (KX b o e) (nK b o e)
 have hM:Mod K mg (DY s₁.heap H):=⟨hKb,nsK hns,⟨mb,nsK hb,hbb⟩,let ⟨mc,h1,h2⟩:=hlim;⟨mc,nsK h1,h2⟩⟩;have e0:JM P w K mg (DY s₁.heap H) callerA [] s₁ H:=⟨rfl,hM,fun b o e=>Qv e,Nat.le_of_eq (Mp _ _),trivial,fun b hb=>absurd (show b∈([]:List Addr) from hb) (by simp),iL,.of_eq hg⟩;have hl:vals.length=ps.length:=by rw[qj hwl];exact hlen
 have hSb:(DY s₁.heap H).NoSeer:={
  statics:=let ⟨mc,x,y⟩:=hsee.statics;⟨mc,nsK x,y⟩
  mods:=let ⟨mc,x,y⟩:=hsee.mods;⟨mc,nsK x,y⟩
  imp:=let ⟨mc,x,y⟩:=hsee.imp;⟨mc,nsK x,y⟩
  main:=let ⟨mg',bm,ob,x,y,z,u,v⟩:=hsee.main;⟨mg',bm,ob,nsK x,y,base_of z (noM z u),u,v⟩}
 obtain⟨fd,hbind,hF⟩:=F _ hKb (nsK hns) hSb;refine codeAny_mono (hF.run callerA [] s₁ H ⟨vals,[]⟩ vals (vals.map toV) _ _ hr e0 (by have z:=hbind s₁ vals KX (by rw[bM];exact hl);rw[bM] at z;exact z) hV (hsp H _ hO hS)) fun r s' x=> ?_
 cases r with
 |error e=>exact(hCX H e s' x).elim
 |ok fl=>
  cases fl with
  |next=>exact False.elim x
  |brk=>exact False.elim x
  |cont=>exact False.elim x
  |ret u=>
   obtain⟨v,H',os,bare,un,hok',r',q⟩:=x;have kept:∀b o,s₁.heap.get? b=some o->s'.heap.get? b=some o:=fun b o e=>by
    cases q2:H b with
    |none=>exact un.keep b o e q2 (by intro z;exact absurd (show b∈([]:List Addr) from z) (by simp)) (by simp)
    |some u2=>
     rcases hO b with z |⟨ob,u3,z⟩
     ·rw[q2] at z;cases z
     ·have z2:=un.FW b ob _ z;obtain⟨e1,_⟩:=iL b _ z;obtain⟨e2,_⟩:=hok' b _ z2;rw[e] at e1;cases e1
      exact e2
   have KX':K.In s'.heap:=fun b o e=>kept b o (KX b o e)
   obtain⟨as,hrd⟩:=Dw.reads (R:=R) (cl:=cl) hok' KX' d0 v u q r';exact⟨u,as,rfl,hrd,OldK.of_keep kept,os,bare⟩
theorem DO{ds:List WData}(h:WData.layableAll ds=true):∀d∈ds,d.weight<=1048576:=fun d hd=>
 (PySem.W.layableW_iff.mp (bc.mp h d hd)).2.2
theorem DP:∀(cs:List Codec) (a:Codec.denoteAll cs),(Codec.encAll cs a).length=cs.length
 |[],_=>rfl
 |c::cs,a=>by
  show(Codec.encAll cs a.2).length+1=cs.length+1;rw[DP cs a.2]
theorem Nt{r:OpenSpec}{k:Nat}{q:Program}{loose:List Str}{XP:(Str->Option Value)->Heap->Prop}{YP:World->Heap->Prop}{d:DefRec}{K:Params->PySem.W.Frag}{CX:World->NP}{ps:List Str}{sp:World->Sp}
  (hwell:r.wellSaid=true) (himp:importsNone q=true) (hdf:d.params.defaults=[]) (hlen:r.args.length=ps.length) (hr:ko k callerA)
  (hY:∀(w:World) (h:Heap),YP w h->(K w.params).In h)
  (F:∀(w:World) (mg:Str->Option Value) (fa:Addr) (h:Heap),YP w h->(K w.params).In h->h.Ns mainGlobals mg->mg d.name=some (.ref fa)->
   ∀base:Heap,(K w.params).In base->base.Ns mainGlobals mg->base.NoSeer->∃fd:FuncData,Binds (K w.params) fd ps []/\qk r.prog w (K w.params) mg base (CX w) k fa fd ps (sp w))
  (hsp:∀(w:World) (H:Hp) (xs:List V) (a:Codec.denoteAll r.args),Jm H->Codec.withinAll r.args a=true->Codec.app r.args r.asked a=true->rm (K w.params) H xs (Codec.encAll r.args a)->
   sp w xs H (fun v H'=>Dw (K w.params) H' v (r.ret.enc (Codec.app r.args r.f a))) fun _ _ _=>False)
  (hCX:∀(w:World) (H:Hp) (s:Shared) (e:Value) (s':Shared),CX w [] H s (fun _ _ _=>False) e s'->False):
  PySem.W.WalkOS q loose XP YP r d [] (fun f vs=>PySem.call f vs):=by
 intro w EF s₁ mg mb G Y fa o pm cd doc dV kV ho hd hcd hD hmg hg args vals as hpre hlay hrd hwl hlo;obtain⟨a,e1,e2⟩:=PySem.W.os_pre_some hpre;obtain⟨e3,hwi⟩:=Codec.encAll_of_decAll r.args args a e1;subst e3;have KX:=hY w _ Y;refine PySem.W.enter_call (codeAny_mono (Nr (R:=[]) (cl:=classAt EF.heap) (d0:=r.ret.enc (Codec.app r.args r.f a)) KX G.T.g G.T.b G.T.builtins G.T.nolimit hg hwl (FP _ _) (DO hlay) hr (G.T.seer himp) (F w mg fa _ Y KX G.T.g hmg) (by rw[DP];exact hlen)
  (fun H xs hO hS=>hsp w H xs a hO hwi e2 hS) fun H e s'=>hCX w H s₁ e s') fun r' s' hq=> ?_)
 obtain⟨u,as',rfl,h1,h2,h3,h4⟩:=hq;exact⟨.inl ⟨u,_,as',rfl,fun _=>rfl,h1,(OpenSpec.post_iff hwell hwi _ _).mpr rfl,fun z=>Bool.noConfusion (show false=true from z)⟩,h2,h3,h4⟩
end L2
namespace HK
open PySem PySem.Spec PyProof.Rows L2
open PySem.W (Codec OpenSpec)
noncomputable def d3 (K:PySem.W.Frag) (x:Str) (st:Stmt):Prop:=∃(f:Addr) (oc:Value) (od:Option Addr) (kV doc pm:Value) (an:Option Addr) (cdv ct:Value) (osl:Array (Option Value)),
 PySem.W.nsIn K mainGlobals x=some (some (.ref f))/\K.lookup f=some ⟨oc,od,.func (PySem.W.fnOf x x (jX st) (iO st) (dj st) .none kV doc pm an cdv ct),osl⟩/\PySem.W.codeIn K cdv x=true/\PySem.W.keepIn K (.ref f)=true
noncomputable def fN (K:PySem.W.Frag) (x:Str) (z:Int):Prop:=∃t:Tok,PySem.W.nsIn K mainGlobals x=some (some (.int z t))
noncomputable def sY (K:PySem.W.Frag) (x:Str):Prop:=PySem.W.nsIn K mainGlobals x=some none
noncomputable def Jp (K:PySem.W.Frag) (C:Addr):List Str->Prop
 |[]=>True
 |f::r=>PySem.W.findIn K (.ref C) f=some none/\Jp K C r
noncomputable def ly (K:PySem.W.Frag) (x qual:Str) (st:Stmt) (fs:List Str):Prop:=∃(C f:Addr) (oc:Value) (od:Option Addr) (kV doc pm:Value) (an:Option Addr) (cdv ct:Value) (osl:Array (Option Value)),
 PySem.W.nsIn K mainGlobals x=some (some (.ref C))/\PySem.W.findIn K (.ref C) "__init__"=some (some (.ref f))/\PySem.W.isFn K (.ref f)=true/\K.lookup f=some ⟨oc,od,.func (PySem.W.fnOf "__init__" qual (jX st) (iO st) (dj st) .none kV doc pm an cdv ct),osl⟩/\PySem.W.codeIn K cdv qual=true/\PySem.W.keepIn K (.ref f)=true/\
 PySem.W.plainGet K C Str.empty=true/\PySem.W.hasDictIn K C=true/\PySem.W.plainOver K C=true/\PySem.W.findIn K (.ref C) "__setattr__"=some (some (.builtin "object.__setattr__"))/\PySem.W.makesIn K C=true/\PySem.W.keepIn K (.ref C)=true/\Jp K C fs
theorem Jp.at_{K:PySem.W.Frag}{C:Addr}:∀{fs:List Str},Jp K C fs->∀f∈fs,n8 K C f
 |[],_,f,h=>by cases h
 |g::r,h,f,hf=>by
  rcases aJ.mp hf with e |m
  ·rw[e];exact h.1
  ·exact h.2.at_ f m
noncomputable def Nu:List Str->(List Value->Prop)->Prop
 |[],P=>P []
 |_::ps,P=>∀a,Nu ps fun l=>P (a::l)
theorem Nu.of:∀{ps:List Str} {P:List Value->Prop},Nu ps P->∀us:List Value,us.length=ps.length->P us
 |[],_,h,[],_=>h
 |_::_,_,h,a::us,e=>Nu.of (h a) us (Nat.succ.inj e)
section
variable {K:PySem.W.Frag}{h:Heap}{mg:Str->Option Value}(X:K.In h)(G:h.Ns mainGlobals mg)
include X G
theorem TR{x:Str}{st:Stmt}{ps:List Str}(H:d3 K x st)(hb:∀(kV doc pm:Value) (an:Option Addr) (cdv ct:Value) (us:List Value),us.length=ps.length->bindArgs (PySem.W.fnOf x x (jX st) (iO st) (dj st) .none kV doc pm an cdv ct) ⟨us,[]⟩=pure (ps.zip us)):iI K mg x st ps:=by
 obtain⟨f,oc,od,kV,doc,pm,an,cdv,ct,osl,a,l,c,k⟩:=H;have F:=Oz (st:=st) l c k;exact⟨f,_,bq X G a,F,F.binds hb⟩
theorem RL{x qual:Str}{st:Stmt}{fs ps:List Str}(H:ly K x qual st fs)(hb:∀(kV doc pm:Value) (an:Option Addr) (cdv ct:Value) (us:List Value),us.length=ps.length->bindArgs (PySem.W.fnOf "__init__" qual (jX st) (iO st) (dj st) .none kV doc pm an cdv ct) ⟨us,[]⟩=pure (ps.zip us)):∃C,Hb K mg x qual C st ps/\zQ K C fs:=by
 obtain⟨C,f,oc,od,kV,doc,pm,an,cdv,ct,osl,a,i,fn,l,c,k,pg,hd,po,sa,mk,kc,no⟩:=H;have F:=Oz (st:=st) l c k;exact⟨C,⟨f,_,bq X G a,⟨mk,i,fn,kc⟩,F,F.binds hb⟩,⟨⟨pg,hd,po,sa⟩,no.at_⟩⟩
theorem i7{x:Str}{st:Stmt}{ps:List Str}(H:d3 K x st)(hb:∀(kV doc pm:Value) (an:Option Addr) (cdv ct:Value),Nu ps fun us=>bindArgs (PySem.W.fnOf x x (jX st) (iO st) (dj st) .none kV doc pm an cdv ct) ⟨us,[]⟩=pure (ps.zip us)):iI K mg x st ps:=TR X G H fun a b c d e f us hl=>(hb a b c d e f).of us hl
theorem Qn{x qual:Str}{st:Stmt}{fs ps:List Str}(H:ly K x qual st fs)(hb:∀(kV doc pm:Value) (an:Option Addr) (cdv ct:Value),Nu ps fun us=>bindArgs (PySem.W.fnOf "__init__" qual (jX st) (iO st) (dj st) .none kV doc pm an cdv ct) ⟨us,[]⟩=pure (ps.zip us)):∃C,Hb K mg x qual C st ps/\zQ K C fs:=RL X G H fun a b c d e f us hl=>(hb a b c d e f).of us hl
theorem gx{x:Str}{z:Int}(H:fN K x z):∃t,mg x=some (.int z t):=let ⟨t,e⟩:=H;⟨t,bq X G e⟩
theorem uY{x:Str}(H:sY K x):mg x=none:=PySem.W.mg_none_of X G H
end
noncomputable def Hk (K:PySem.W.Frag):Prop:=∃(ta:Addr) (od:Option Addr) (n:Nat) (sl:Array (Option Value)) (f0 f1 f2 f3 f4 f5 f6 f7 f8 f9 f10 f11 f12 f13:Addr),PySem.W.nsIn K mainGlobals "LAWS_OF_KIND"=some (some (.ref ta))/\K.lookup ta=some ⟨.type "tuple",od,.seq #[.ref f0,.ref f1,.ref f2,.ref f3,.ref f4,.ref f5,.ref f6,.ref f7,.ref f8,.ref f9,.ref f10,.ref f11,.ref f12,.ref f13] n,sl⟩/\PySem.W.nsIn K mainGlobals "resistor_laws"=some (some (.ref f0))/\PySem.W.nsIn K mainGlobals "capacitor_laws"=some (some (.ref f1))/\PySem.W.nsIn K mainGlobals "coil_laws"=some (some (.ref f2))/\PySem.W.nsIn K mainGlobals "coupling_laws"=some (some (.ref f3))/\PySem.W.nsIn K mainGlobals "voltage_source_laws"=some (some (.ref f4))/\PySem.W.nsIn K mainGlobals "current_source_laws"=some (some (.ref f5))/\PySem.W.nsIn K mainGlobals "voltage_by_voltage_laws"=some (some (.ref f6))/\PySem.W.nsIn K mainGlobals "current_by_voltage_laws"=some (some (.ref f7))/\PySem.W.nsIn K mainGlobals "voltage_by_current_laws"=some (some (.ref f8))/\PySem.W.nsIn K mainGlobals "current_by_current_laws"=some (some (.ref f9))/\PySem.W.nsIn K mainGlobals "transformer_laws"=some (some (.ref f10))/\PySem.W.nsIn K mainGlobals "amplifier_laws"=some (some (.ref f11))/\PySem.W.nsIn K mainGlobals "switch_laws"=some (some (.ref f12))/\PySem.W.nsIn K mainGlobals "diode_laws"=some (some (.ref f13))
theorem fN.mk{K:PySem.W.Frag}{x:Str}{z:Int}{t:Tok}(a:PySem.W.nsIn K mainGlobals x=some (some (.int z t))):fN K x z:=⟨t,a⟩
theorem d3.mk{K:PySem.W.Frag}{x:Str}{st:Stmt}{f:Addr}{oc:Value}{od:Option Addr}{kV doc pm:Value}{an:Option Addr}{cdv ct:Value}{osl:Array (Option Value)}
  (a:PySem.W.nsIn K mainGlobals x=some (some (.ref f))) (l:K.lookup f=some ⟨oc,od,.func (PySem.W.fnOf x x (jX st) (iO st) (dj st) .none kV doc pm an cdv ct),osl⟩) (c:PySem.W.codeIn K cdv x=true) (k:PySem.W.keepIn K (.ref f)=true):d3 K x st:=⟨f,oc,od,kV,doc,pm,an,cdv,ct,osl,a,l,c,k⟩
theorem ly.mk{K:PySem.W.Frag}{x qual:Str}{st:Stmt}{fs:List Str}{C f:Addr}{oc:Value}{od:Option Addr}{kV doc pm:Value}{an:Option Addr}{cdv ct:Value}{osl:Array (Option Value)}
  (a:PySem.W.nsIn K mainGlobals x=some (some (.ref C))) (i:PySem.W.findIn K (.ref C) "__init__"=some (some (.ref f))) (fn:PySem.W.isFn K (.ref f)=true) (l:K.lookup f=some ⟨oc,od,.func (PySem.W.fnOf "__init__" qual (jX st) (iO st) (dj st) .none kV doc pm an cdv ct),osl⟩) (c:PySem.W.codeIn K cdv qual=true) (k:PySem.W.keepIn K (.ref f)=true)
  (pg:PySem.W.plainGet K C Str.empty=true) (hd:PySem.W.hasDictIn K C=true) (po:PySem.W.plainOver K C=true) (sa:PySem.W.findIn K (.ref C) "__setattr__"=some (some (.builtin "object.__setattr__"))) (mk:PySem.W.makesIn K C=true) (kc:PySem.W.keepIn K (.ref C)=true) (no:Jp K C fs):ly K x qual st fs:=
 ⟨C,f,oc,od,kV,doc,pm,an,cdv,ct,osl,a,i,fn,l,c,k,pg,hd,po,sa,mk,kc,no⟩
theorem Hk.mk{K:PySem.W.Frag}{ta:Addr}{od:Option Addr}{n:Nat}{sl:Array (Option Value)}{f0 f1 f2 f3 f4 f5 f6 f7 f8 f9 f10 f11 f12 f13:Addr}(a:PySem.W.nsIn K mainGlobals "LAWS_OF_KIND"=some (some (.ref ta)))(l:K.lookup ta=some ⟨.type "tuple",od,.seq #[.ref f0,.ref f1,.ref f2,.ref f3,.ref f4,.ref f5,.ref f6,.ref f7,.ref f8,.ref f9,.ref f10,.ref f11,.ref f12,.ref f13] n,sl⟩)(t0:PySem.W.nsIn K mainGlobals "resistor_laws"=some (some (.ref f0)))(t1:PySem.W.nsIn K mainGlobals "capacitor_laws"=some (some (.ref f1)))(t2:PySem.W.nsIn K mainGlobals "coil_laws"=some (some (.ref f2)))(t3:PySem.W.nsIn K mainGlobals "coupling_laws"=some (some (.ref f3)))(t4:PySem.W.nsIn K mainGlobals "voltage_source_laws"=some (some (.ref f4)))(t5:PySem.W.nsIn K mainGlobals "current_source_laws"=some (some (.ref f5)))(t6:PySem.W.nsIn K mainGlobals "voltage_by_voltage_laws"=some (some (.ref f6)))(t7:PySem.W.nsIn K mainGlobals "current_by_voltage_laws"=some (some (.ref f7)))(t8:PySem.W.nsIn K mainGlobals "voltage_by_current_laws"=some (some (.ref f8)))(t9:PySem.W.nsIn K mainGlobals "current_by_current_laws"=some (some (.ref f9)))(t10:PySem.W.nsIn K mainGlobals "transformer_laws"=some (some (.ref f10)))(t11:PySem.W.nsIn K mainGlobals "amplifier_laws"=some (some (.ref f11)))(t12:PySem.W.nsIn K mainGlobals "switch_laws"=some (some (.ref f12)))(t13:PySem.W.nsIn K mainGlobals "diode_laws"=some (some (.ref f13))):Hk K:=
 ⟨ta,od,n,sl,f0,f1,f2,f3,f4,f5,f6,f7,f8,f9,f10,f11,f12,f13,a,l,t0,t1,t2,t3,t4,t5,t6,t7,t8,t9,t10,t11,t12,t13⟩
theorem lC{P:Program}{w:World}{K:PySem.W.Frag}{mg:Str->Option Value}{base:Heap}{c:Cs}{x:Str}{k i:Nat}{f:Addr}{kd:de.lJ->Nat->Prop}{F:de.lJ->Nat->List (List (Int×List Int))}(C:eV P w K mg base x ["setting","k"] k (jG c kd F))(hk:k<=5)(hf:mg x=some (.ref f))(h1:∀g k,(pat g k).kind=(i:Int)->Mi g k->kd g k)(h2:∀g k,(pat g k).kind=(i:Int)->de.fT g k=F g k):∃fd,qk P w K mg base JQ 5 f fd ["setting","k"] (PZ c i)/\PySem.W.keepIn K (.ref f)=true/\Binds K fd ["setting","k"] []:=by
 obtain⟨f',fd,hm,ok,kp,b⟩:=C.ex;rw[hf] at hm;cases hm
 refine⟨fd,(ok.mono hk).imp ?_,kp,b⟩;rintro vs H Q E ⟨v,g,k,e,hg,so,hl,⟨hi,li⟩,nl⟩;refine⟨v,g,k,e,hg,so,hl,h1 g k hi li,?_⟩;rw[<-h2 g k hi];exact nl
theorem ib{g:de.lJ}{k i:Nat}(h:(pat g k).kind=(i:Int)):(g.d8.c9.getD k de.p0).kind.toNat=i:=by
 show(pat g k).kind.toNat=i;rw[h,bb]
structure W5(K:PySem.W.Frag):Prop where
 gR:sY K "len"
 C3:sY K "list"
 IM:sY K "max"
 Px:sY K "sum"
 IP:sY K "all"
 Mb:sY K "any"
 IQ:sY K "abs"
 jZ:sY K "range"
 hX:sY K "enumerate"
 Py:sY K "zip"
 wj:sY K "reversed"
 wC:fN K "RESISTOR" 0
 uC:fN K "CAPACITOR" 1
 G4:fN K "COIL" 2
 iU:fN K "COUPLING" 3
 md:fN K "CURRENT_SOURCE" 5
 jC:fN K "VOLTAGE_BY_VOLTAGE" 6
 jD:fN K "CURRENT_BY_VOLTAGE" 7
 jE:fN K "VOLTAGE_BY_CURRENT" 8
 jF:fN K "CURRENT_BY_CURRENT" 9
 i9:fN K "TRANSFORMER" 10
 pZ:fN K "AMPLIFIER" 11
 Dd:fN K "SWITCH" 12
 vm:fN K "DIODE" 13
 uD:fN K "LAST_KIND" 13
 oV:fN K "NO_FAULT" 0
 su:fN K "WRONG_NODE" 1
 kU:fN K "WRONG_NUMBER" 2
 ia:fN K "WRONG_REFERENCE" 3
 sv:fN K "MOST_NODES" 8
 sy:fN K "MOST_PARTS" 10
 qK:fN K "MOST_DIODES" 3
 gF:fN K "NUMBERS_OF_A_PART" 7
 sC:fN K "LAST_PLACE" 63
 wN:fN K "MOST_TOP" 1000000
 qL:fN K "MOST_BOTTOM" 1000000
 jh:fN K "MOST_NODES_COMPARED" 3
 Jq:d3 K "part_rows" qg
 Es:d3 K "is_part_row" mL
 Ae:d3 K "is_network_row" iH
 DQ:d3 K "read_network" lg
 KU:d3 K "nodes_of" wO
 yJ:d3 K "may_have_number" kW
 Hl:d3 K "may_follow" sD
 Af:d3 K "is_coil_before" my
 Nv:d3 K "couples" z9
 tu:d3 K "is_coupled_too_much" jf
 Ag:d3 K "coupling_fault" jN
 KW:d3 K "fault_of" sG
 Et:d3 K "first_fault" qM
 Ah:d3 K "refusal_of_net" mC
 Ai:d3 K "rows_of_states" mr
 Eu:d3 K "currents_of" qy
 Aj:d3 K "current_places" me
 Ew:d3 K "unknowns_of" mJ
 KY:d3 K "constant" wq
 Hm:d3 K "multiplied" rR
 Qo:d3 K "scaled" xX
 DR:d3 K "times_number" oC
 yK:d3 K "voltage_between" kK
 Hn:d3 K "voltage_of" rV
 Ho:d3 K "current_of" rY
 Bu:d3 K "resistor_laws" m9
 Ak:d3 K "capacitor_laws" mh
 Ex:d3 K "coil_shares" qB
 Jr:d3 K "coil_laws" uI
 Bv:d3 K "coupling_laws" nh
 DS:d3 K "set_to_drive" oE
 tx:d3 K "voltage_source_laws" jc
 tF:d3 K "current_source_laws" jd
 tH:d3 K "controlling_voltage" jb
 pw:d3 K "voltage_by_voltage_laws" gY
 pC:d3 K "current_by_voltage_laws" gZ
 pE:d3 K "voltage_by_current_laws" g5
 pF:d3 K "current_by_current_laws" g6
 wZ:d3 K "transformer_laws" j6
 Am:d3 K "amplifier_laws" mi
 Ey:d3 K "switch_laws" qA
 Hq:d3 K "diode_laws" sf
 Js:d3 K "node_laws" p5
 Ny:d3 K "trimmed" zJ
 RM:d3 K "added" GZ
 Qp:d3 K "row_of" xW
 KZ:d3 K "law_rows" sk
 yL:d3 K "row_to_solve_by" kN
 Nz:d3 K "negated" vj
 Hr:d3 K "subtracted" rQ
 NB:d3 K "divided" zN
 Ez:d3 K "cleared_row" qE
 NC:d3 K "cleared" z3
 Qq:d3 K "solved" uP
 EA:d3 K "constant_of" qw
 EC:d3 K "current_top" qG
 K0:d3 K "node_top" wJ
 An:d3 K "difference_top" mq
 ED:d3 K "voltage_top" qH
 DT:d3 K "diode_agrees" oS
 w4:d3 K "all_diodes_agree" iW
 yM:d3 K "operating_point" jo
 w6:d3 K "greatest_divisor" j4
 DU:d3 K "lowest_terms" lj
 DV:d3 K "told_voltage" oY
 DW:d3 K "with_sources" lh
 Ao:d3 K "driven_setting" jM
 K1:d3 K "put_into" wW
 ND:d3 K "content" zM
 Jt:d3 K "primitive" mR
 yN:d3 K "whole_remainder" h9
 Ap:d3 K "common_divisor" l5
 yO:d3 K "told_polynomial" jm
 Bw:d3 K "told_quotient" m6
 Qr:d3 K "told_z" DL
 Bx:d3 K "told_at_nodes" i6
 TU:d3 K "same" s_same
 TV:ly K "Part" "Part.__init__" uM ["kind","a","b","c","d","top","bottom"]
 NF:ly K "Network" "Network.__init__" oP ["last_node","parts"]
 NG:ly K "Setting" "Setting.__init__" oQ ["network","s","states","drives","places","width"]
 K2:ly K "Solution" "Solution.__init__" nj ["determinant","tops"]
 Ar:ly K "OperatingPoint" "OperatingPoint.__init__" je ["states","solution"]
 tab:Hk K
theorem all_mk{P:Program}{w:World}{K:PySem.W.Frag}{h:Heap}{mg:Str->Option Value}{fa:Addr}(htree:P.given.tree=none)(X:K.In h)(G:h.Ns mainGlobals mg)(hfa:mg "same"=some (.ref fa))(W:W5 K):
  ∀base:Heap,K.In base->base.Ns mainGlobals mg->base.NoSeer->∃fd:FuncData,Binds K fd ["net_one","net_two","nodes_one","nodes_two"] []/\qk P w K mg base JQ 46 fa fd ["net_one","net_two","nodes_one","nodes_two"] (yF K):=by
 have T:Vm mg:=⟨⟨⟨⟨⟨uY X G W.gR,uY X G W.C3,uY X G W.IM,uY X G W.Px,uY X G W.IP,uY X G W.Mb,uY X G W.IQ,uY X G W.jZ,uY X G W.hX,uY X G W.Py,uY X G W.wj⟩,gx X G W.wC,gx X G W.uC,gx X G W.G4,gx X G W.iU,gx X G W.md,gx X G W.jC,gx X G W.jD,gx X G W.jE,gx X G W.jF,gx X G W.i9,gx X G W.pZ,gx X G W.Dd,gx X G W.vm,gx X G W.uD⟩⟩,gx X G W.oV,gx X G W.su,gx X G W.kU,gx X G W.ia,gx X G W.sv,gx X G W.sy,gx X G W.qK,gx X G W.gF,gx X G W.sC,gx X G W.wN,gx X G W.qL⟩,gx X G W.jh⟩;obtain⟨Qs,TX,TY⟩:=Qn (ps:=["self","numbers"]) X G W.TV fun _ _ _ _ _ _ _ _=>rfl
 obtain⟨NH,NJ,NK⟩:=Qn (ps:=["self","last_node","parts"]) X G W.NF fun _ _ _ _ _ _ _ _ _=>rfl
 obtain⟨NL,NM,NN⟩:=Qn (ps:=["self","network","s","states","drives"]) X G W.NG fun _ _ _ _ _ _ _ _ _ _ _=>rfl
 obtain⟨K3,K4,K5⟩:=Qn (ps:=["self","determinant","tops"]) X G W.K2 fun _ _ _ _ _ _ _ _ _=>rfl
 obtain⟨As,Au,Av⟩:=Qn (ps:=["self","states","solution"]) X G W.Ar fun _ _ _ _ _ _ _ _ _=>rfl
 let c:Cs:=⟨Qs,NH,NL,K3,As,Qs⟩;have O:gw K c:=⟨TY,NK,NN,K5,Av⟩;obtain⟨ta,od,tn,sl,f0,f1,f2,f3,f4,f5,f6,f7,f8,f9,f10,f11,f12,f13,hT,lT,t0,t1,t2,t3,t4,t5,t6,t7,t8,t9,t10,t11,t12,t13⟩:=W.tab;have big:∀base:Heap,K.In base->base.Ns mainGlobals mg->base.NoSeer->eV P w K mg base "same" ["net_one","net_two","nodes_one","nodes_two"] 46 (yF K):=fun base _ _ hno=>by
  have kf:=Hf (P:=P) (w:=w) (base:=base) T.toTxt4 (i7 X G W.Jq fun _ _ _ _ _ _ _=>rfl);have qN:=DJ (P:=P) (w:=w) (base:=base) T.toTxt4 (i7 X G W.Es fun _ _ _ _ _ _ _=>rfl);have mD:=yB (P:=P) (w:=w) (base:=base) T.toTxt4 kf qN (i7 X G W.Ae fun _ _ _ _ _ _ _=>rfl);have Ab:=Rz (P:=P) (w:=w) (base:=base) O.part TX;have nY:=KI (P:=P) (w:=w) (base:=base) O.d8 NJ;have gT:=Bk (P:=P) (w:=w) (base:=base) T.toTxt4 O kf Ab nY (i7 X G W.DQ fun _ _ _ _ _ _ _=>rfl);have wU:=Je (P:=P) (w:=w) (base:=base) T.toTxt4.toTxt3.toTxt2 O (i7 X G W.KU fun _ _ _ _ _ _ _=>rfl);have kY:=wR (P:=P) (w:=w) (base:=base) T.toTxt4.toTxt3.toTxt2 O (i7 X G W.yJ fun _ _ _ _ _ _ _=>rfl);have sH:=Er (P:=P) (w:=w) (base:=base) T.toTxt4.toTxt3.toTxt2 O (i7 X G W.Hl fun _ _ _ _ _ _ _ _=>rfl);have jO:=yw (P:=P) (w:=w) (base:=base) T.toTxt4.toTxt3.toTxt2 O (i7 X G W.Af fun _ _ _ _ _ _ _ _ _=>rfl);have Aa:=KQ (P:=P) (w:=w) (base:=base) T.toTxt4.toTxt3.toTxt2 O (i7 X G W.Nv fun _ _ _ _ _ _ _ _ _=>rfl);have jg:=sF (P:=P) (w:=w) (base:=base) O (i7 X G W.tu fun _ _ _ _ _ _ _ _ _=>rfl);have mz:=yy (P:=P) (w:=w) (base:=base) T.toTxt4 O jO Aa jg (i7 X G W.Ag fun _ _ _ _ _ _ _ _=>rfl);have wV:=Jh (P:=P) (w:=w) (base:=base) T.toTxt4 O wU kY sH mz (i7 X G W.KW fun _ _ _ _ _ _ _ _=>rfl);have qO:=DH (P:=P) (w:=w) (base:=base) T.toTxt4 O wV (i7 X G W.Et fun _ _ _ _ _ _ _=>rfl);have jP:=yD (P:=P) (w:=w) (base:=base) T.toTxt4 mD gT qO (i7 X G W.Ah fun _ _ _ _ _ _ _=>rfl);have mv:=yt (P:=P) (w:=w) (base:=base) T.toTxt4.toTxt3.toTxt2 O (i7 X G W.Ai fun _ _ _ _ _ _ _=>rfl);have ja:=Df (P:=P) (w:=w) (base:=base) T.toTxt4.toTxt3.toTxt2 O (i7 X G W.Eu fun _ _ _ _ _ _ _=>rfl);have mj:=xV (P:=P) (w:=w) (base:=base) T.toTxt4.toTxt3.toTxt2 O ja (i7 X G W.Aj fun _ _ _ _ _ _ _=>rfl);have qD:=Di (P:=P) (w:=w) (base:=base) T.toTxt4.toTxt3.toTxt2 O ja (i7 X G W.Ew fun _ _ _ _ _ _ _=>rfl);have nX:=KJ (P:=P) (w:=w) (base:=base) O mj qD NM;have gE:=IT (P:=P) (w:=w) (base:=base) (i7 X G W.KY fun _ _ _ _ _ _ _=>rfl);have iV:=Ei (P:=P) (w:=w) (base:=base) T.toTxt4.toTxt3.toTxt2.toTxt (i7 X G W.Hm fun _ _ _ _ _ _ _ _=>rfl);have gf:=Nf (P:=P) (w:=w) (base:=base) iV (i7 X G W.Qo fun _ _ _ _ _ _ _ _=>rfl);have dO:=Ba (P:=P) (w:=w) (base:=base) O gE gf (i7 X G W.DR fun _ _ _ _ _ _ _ _ _=>rfl);have gD:=wF (P:=P) (w:=w) (base:=base) (i7 X G W.yK fun _ _ _ _ _ _ _ _=>rfl);have dZ:=Ek (P:=P) (w:=w) (base:=base) O gD (i7 X G W.Hn fun _ _ _ _ _ _ _=>rfl);have dJ:=Em (P:=P) (w:=w) (base:=base) O (i7 X G W.Ho fun _ _ _ _ _ _ _ _=>rfl);have By:=zU (P:=P) (w:=w) (base:=base) O dO dZ dJ (i7 X G W.Bu fun _ _ _ _ _ _ _ _=>rfl);have Aw:=x9 (P:=P) (w:=w) (base:=base) O dO dZ dJ gf (i7 X G W.Ak fun _ _ _ _ _ _ _ _=>rfl);have qC:=Dr (P:=P) (w:=w) (base:=base) T.toTxt4.toTxt3.toTxt2 O (i7 X G W.Ex fun _ _ _ _ _ _ _ _=>rfl);have Ju:=G7 (P:=P) (w:=w) (base:=base) O qC dZ dJ gf gE (i7 X G W.Jr fun _ _ _ _ _ _ _ _=>rfl);have Bz:=zW (P:=P) (w:=w) (base:=base) (c:=c) (i7 X G W.Bv fun _ _ _ _ _ _ _ _=>rfl);have iG:=Bc (P:=P) (w:=w) (base:=base) O gE gf (i7 X G W.DS fun _ _ _ _ _ _ _ _ _=>rfl);have gW:=r6 (P:=P) (w:=w) (base:=base) O iG dZ (i7 X G W.tx fun _ _ _ _ _ _ _ _=>rfl);have tI:=r9 (P:=P) (w:=w) (base:=base) O iG dJ (i7 X G W.tF fun _ _ _ _ _ _ _ _=>rfl);have d5:=rX (P:=P) (w:=w) (base:=base) O gD (i7 X G W.tH fun _ _ _ _ _ _ _=>rfl);have pI:=oG (P:=P) (w:=w) (base:=base) O dO dZ d5 (i7 X G W.pw fun _ _ _ _ _ _ _ _=>rfl);have pJ:=oI (P:=P) (w:=w) (base:=base) O dO dJ d5 (i7 X G W.pC fun _ _ _ _ _ _ _ _=>rfl);have pK:=oK (P:=P) (w:=w) (base:=base) O dO dZ dJ (i7 X G W.pE fun _ _ _ _ _ _ _ _=>rfl);have pL:=oN (P:=P) (w:=w) (base:=base) O dO dJ (i7 X G W.pF fun _ _ _ _ _ _ _ _=>rfl);have w8:=vy (P:=P) (w:=w) (base:=base) O dO dZ d5 dJ gf (i7 X G W.wZ fun _ _ _ _ _ _ _ _=>rfl);have Ax:=ye (P:=P) (w:=w) (base:=base) O d5 (i7 X G W.Am fun _ _ _ _ _ _ _ _=>rfl);have EE:=Dm (P:=P) (w:=w) (base:=base) O dJ dZ (i7 X G W.Ey fun _ _ _ _ _ _ _ _=>rfl);have Ht:=Eo (P:=P) (w:=w) (base:=base) O gW dJ (i7 X G W.Hq fun _ _ _ _ _ _ _ _=>rfl);have uK:=Ha (P:=P) (w:=w) (base:=base) T.toTxt4.toTxt3.toTxt2 O (i7 X G W.Js fun _ _ _ _ _ _ _=>rfl)
  have zK:=Ku (P:=P) (w:=w) (base:=base) T.toTxt4.toTxt3.toTxt2.toTxt (i7 X G W.Ny fun _ _ _ _ _ _ _=>rfl);have vk:=PB (P:=P) (w:=w) (base:=base) T.toTxt4.toTxt3.toTxt2.toTxt zK (i7 X G W.RM fun _ _ _ _ _ _ _ _=>rfl);have Ds:=Nc (P:=P) (w:=w) (base:=base) T.toTxt4.toTxt3.toTxt2 vk (i7 X G W.Qp fun _ _ _ _ _ _ _ _=>rfl);have L:P0 P w K mg base c ta [f0,f1,f2,f3,f4,f5,f6,f7,f8,f9,f10,f11,f12,f13]:=by
   refine⟨bq X G hT,fun H=> .inr ⟨_,#[.ref f0,.ref f1,.ref f2,.ref f3,.ref f4,.ref f5,.ref f6,.ref f7,.ref f8,.ref f9,.ref f10,.ref f11,.ref f12,.ref f13],tn,lT,rfl,rfl,dq (by show 14<=16777216;decide),?_⟩,fun i hi=> ?_⟩
   ·exact .cons rfl (.cons rfl (.cons rfl (.cons rfl (.cons rfl (.cons rfl (.cons rfl (.cons rfl (.cons rfl (.cons rfl (.cons rfl (.cons rfl (.cons rfl (.cons rfl (.nil))))))))))))))
   ·have hi14:i=0\/i=1\/i=2\/i=3\/i=4\/i=5\/i=6\/i=7\/i=8\/i=9\/i=10\/i=11\/i=12\/i=13:=by omega
    rcases hi14 with rfl |rfl |rfl |rfl |rfl |rfl |rfl |rfl |rfl |rfl |rfl |rfl |rfl |rfl
    ·obtain⟨fd,x1,x2,x3⟩:=lC (i:=0) By (by decide) (bq X G t0) (fun g k hi li=>trivial) (fun g k hi=>by unfold de.fT;dsimp only;rw[ib hi] <;>rfl);exact⟨f0,fd,rfl,x1,x2,x3⟩
    ·obtain⟨fd,x1,x2,x3⟩:=lC (i:=1) Aw (by decide) (bq X G t1) (fun g k hi li=>trivial) (fun g k hi=>by unfold de.fT;dsimp only;rw[ib hi] <;>rfl);exact⟨f1,fd,rfl,x1,x2,x3⟩
    ·obtain⟨fd,x1,x2,x3⟩:=lC (i:=2) Ju (by decide) (bq X G t2) (fun g k hi li=>li.Wf hi) (fun g k hi=>by unfold de.fT;dsimp only;rw[ib hi] <;>rfl);exact⟨f2,fd,rfl,x1,x2,x3⟩
    ·obtain⟨fd,x1,x2,x3⟩:=lC (i:=3) Bz (by decide) (bq X G t3) (fun g k hi li=>trivial) (fun g k hi=>by unfold de.fT;dsimp only;rw[ib hi] <;>rfl);exact⟨f3,fd,rfl,x1,x2,x3⟩
    ·obtain⟨fd,x1,x2,x3⟩:=lC (i:=4) gW (by decide) (bq X G t4) (fun g k hi li=>trivial) (fun g k hi=>by unfold de.fT;dsimp only;rw[ib hi] <;>rfl);exact⟨f4,fd,rfl,x1,x2,x3⟩
    ·obtain⟨fd,x1,x2,x3⟩:=lC (i:=5) tI (by decide) (bq X G t5) (fun g k hi li=>trivial) (fun g k hi=>by unfold de.fT;dsimp only;rw[ib hi] <;>rfl);exact⟨f5,fd,rfl,x1,x2,x3⟩
    ·obtain⟨fd,x1,x2,x3⟩:=lC (i:=6) pI (by decide) (bq X G t6) (fun g k hi li=>trivial) (fun g k hi=>by unfold de.fT;dsimp only;rw[ib hi] <;>rfl);exact⟨f6,fd,rfl,x1,x2,x3⟩
    ·obtain⟨fd,x1,x2,x3⟩:=lC (i:=7) pJ (by decide) (bq X G t7) (fun g k hi li=>trivial) (fun g k hi=>by unfold de.fT;dsimp only;rw[ib hi] <;>rfl);exact⟨f7,fd,rfl,x1,x2,x3⟩
    ·obtain⟨fd,x1,x2,x3⟩:=lC (i:=8) pK (by decide) (bq X G t8) (fun g k hi li=>li.ref (.inl hi)) (fun g k hi=>by unfold de.fT;dsimp only;rw[ib hi] <;>rfl);exact⟨f8,fd,rfl,x1,x2,x3⟩
    ·obtain⟨fd,x1,x2,x3⟩:=lC (i:=9) pL (by decide) (bq X G t9) (fun g k hi li=>li.ref (.inr hi)) (fun g k hi=>by unfold de.fT;dsimp only;rw[ib hi] <;>rfl);exact⟨f9,fd,rfl,x1,x2,x3⟩
    ·obtain⟨fd,x1,x2,x3⟩:=lC (i:=10) w8 (by decide) (bq X G t10) (fun g k hi li=>trivial) (fun g k hi=>by unfold de.fT;dsimp only;rw[ib hi] <;>rfl);exact⟨f10,fd,rfl,x1,x2,x3⟩
    ·obtain⟨fd,x1,x2,x3⟩:=lC (i:=11) Ax (by decide) (bq X G t11) (fun g k hi li=>trivial) (fun g k hi=>by unfold de.fT;dsimp only;rw[ib hi] <;>rfl);exact⟨f11,fd,rfl,x1,x2,x3⟩
    ·obtain⟨fd,x1,x2,x3⟩:=lC (i:=12) EE (by decide) (bq X G t12) (fun g k hi li=>trivial) (fun g k hi=>by unfold de.fT;dsimp only;rw[ib hi] <;>rfl);exact⟨f12,fd,rfl,x1,x2,x3⟩
    ·obtain⟨fd,x1,x2,x3⟩:=lC (i:=13) Ht (by decide) (bq X G t13) (fun g k hi li=>trivial) (fun g k hi=>by unfold de.fT;dsimp only;rw[ib hi] <;>rfl);exact⟨f13,fd,rfl,x1,x2,x3⟩
  have mw:=IX (P:=P) (w:=w) (base:=base) T.toTxt4.toTxt3.toTxt2 O L uK Ds (i7 X G W.KZ fun _ _ _ _ _ _ _=>rfl);have kP:=wH (P:=P) (w:=w) (base:=base) T.toTxt4.toTxt3.toTxt2 (i7 X G W.yL fun _ _ _ _ _ _ _ _=>rfl);have zL:=Kw (P:=P) (w:=w) (base:=base) (i7 X G W.Nz fun _ _ _ _ _ _ _=>rfl);have gJ:=Ef (P:=P) (w:=w) (base:=base) zL vk (i7 X G W.Hr fun _ _ _ _ _ _ _ _=>rfl);have l9:=KA (P:=P) (w:=w) (base:=base) T.toTxt4.toTxt3.toTxt2.toTxt (i7 X G W.NB fun _ _ _ _ _ _ _ _=>rfl);have qF:=Dv (P:=P) (w:=w) (base:=base) T.toTxt4.toTxt3.toTxt2 iV gJ l9 (i7 X G W.Ez fun _ _ _ _ _ _ _ _ _ _=>rfl);have z5:=KN (P:=P) (w:=w) (base:=base) T.toTxt4.toTxt3.toTxt2 qF (i7 X G W.NC fun _ _ _ _ _ _ _ _ _=>rfl);have wI:=IY (P:=P) (w:=w) (base:=base) O.sol K4;have rg:=Ni (P:=P) (w:=w) (base:=base) T.toTxt4.toTxt3.toTxt2 O kP z5 wI (i7 X G W.Qq fun _ _ _ _ _ _ _=>rfl);have gn:=C9 (P:=P) (w:=w) (base:=base) (i7 X G W.EA fun _ _ _ _ _ _ _=>rfl);have qI:=DA (P:=P) (w:=w) (base:=base) O (i7 X G W.EC fun _ _ _ _ _ _ _ _ _=>rfl);have j7:=Jb (P:=P) (w:=w) (base:=base) O (i7 X G W.K0 fun _ _ _ _ _ _ _ _=>rfl);have gM:=ym (P:=P) (w:=w) (base:=base) j7 gJ (i7 X G W.An fun _ _ _ _ _ _ _ _ _=>rfl);have qJ:=DD (P:=P) (w:=w) (base:=base) O gM (i7 X G W.ED fun _ _ _ _ _ _ _ _ _=>rfl);have oT:=Bi (P:=P) (w:=w) (base:=base) O gn qI qJ (i7 X G W.DT fun _ _ _ _ _ _ _ _ _=>rfl);have j8:=vA (P:=P) (w:=w) (base:=base) T.toTxt4.toTxt3.toTxt2 O oT (i7 X G W.w4 fun _ _ _ _ _ _ _ _=>rfl);have mx:=yi (P:=P) (w:=w) (base:=base) O.pt Au;have jq:=wM (P:=P) (w:=w) (base:=base) T.toTxt4.toTxt3.toTxt2 O mv nX mw rg j8 mx (i7 X G W.yM fun _ _ _ _ _ _ _=>rfl);have fj:=vw (P:=P) (w:=w) (base:=base) T.toTxt4.toTxt3.toTxt2.toTxt (i7 X G W.w6 fun _ _ _ _ _ _ _ _=>rfl);have oZ:=Bo (P:=P) (w:=w) (base:=base) hno htree fj (i7 X G W.DU fun _ _ _ _ _ _ _ _=>rfl);have o9:=Bs (P:=P) (w:=w) (base:=base) O j7 gn oZ (i7 X G W.DV fun _ _ _ _ _ _ _ _=>rfl);have oX:=Bm (P:=P) (w:=w) (base:=base) O Ab nY (i7 X G W.DW fun _ _ _ _ _ _ _ _ _=>rfl);have mE:=yo (P:=P) (w:=w) (base:=base) T.toTxt4.toTxt3.toTxt2 O nX (i7 X G W.Ao fun _ _ _ _ _ _ _ _ _=>rfl);have wX:=Jj (P:=P) (w:=w) (base:=base) ⟨T.toTxt4⟩ O oX mE mw rg (i7 X G W.K1 fun _ _ _ _ _ _ _ _ _=>rfl);have lZ:=Ky (P:=P) (w:=w) (base:=base) fj (i7 X G W.ND fun _ _ _ _ _ _ _=>rfl);have mS:=G1 (P:=P) (w:=w) (base:=base) hno htree lZ (i7 X G W.Jt fun _ _ _ _ _ _ _=>rfl);have kz:=wB (P:=P) (w:=w) (base:=base) T.toTxt4.toTxt3.toTxt2.toTxt gJ (i7 X G W.yN fun _ _ _ _ _ _ _ _=>rfl);have l6:=xT (P:=P) (w:=w) (base:=base) mS kz (i7 X G W.Ap fun _ _ _ _ _ _ _ _=>rfl);have jn:=wy (P:=P) (w:=w) (base:=base) T.toTxt4.toTxt3.toTxt2.toTxt (i7 X G W.yO fun _ _ _ _ _ _ _ _=>rfl);have nv:=zP (P:=P) (w:=w) (base:=base) l6 l9 lZ fj jn (i7 X G W.Bw fun _ _ _ _ _ _ _ _=>rfl);have DM:=Nm (P:=P) (w:=w) (base:=base) O gM nv (i7 X G W.Qr fun _ _ _ _ _ _ _ _=>rfl);have j0:=Ad (P:=P) (w:=w) (base:=base) O o9 wX DM (i7 X G W.Bx fun _ _ _ _ _ _ _ _ _=>rfl);have TZ:=RG (P:=P) (w:=w) (base:=base) T O jP gT jq j0 (i7 X G W.TU fun _ _ _ _ _ _ _ _ _ _=>rfl);exact TZ
 intro base x1 x2 x3;obtain⟨f',fd',hm,ok,_,hb⟩:=(big base x1 x2 x3).ex;rw[hfa] at hm;cases hm
 exact⟨fd',hb,ok⟩
theorem walk_specK{r:OpenSpec}{k:Nat}{q:Program}{loose:List Str}{XP:(Str->Option Value)->Heap->Prop}{YP:World->Heap->Prop}{d:DefRec}{K:Params->PySem.W.Frag}{ps:List Str}{sp:PySem.W.Frag->Sp}
  (hwell:r.wellSaid=true) (himp:importsNone q=true) (hdf:d.params.defaults=[]) (hlen:r.args.length=ps.length) (hr:ko k callerA)
  (hY:∀(w:World) (h:Heap),YP w h->(K w.params).In h)
  (F:∀(w:World) (mg:Str->Option Value) (fa:Addr) (h:Heap),YP w h->(K w.params).In h->h.Ns mainGlobals mg->mg d.name=some (.ref fa)->
   ∀base:Heap,(K w.params).In base->base.Ns mainGlobals mg->base.NoSeer->∃fd:FuncData,Binds (K w.params) fd ps []/\qk r.prog w (K w.params) mg base JQ k fa fd ps (sp (K w.params)))
  (hsp:∀(K:PySem.W.Frag) (H:Hp) (xs:List V) (a:Codec.denoteAll r.args),Jm H->Codec.withinAll r.args a=true->Codec.app r.args r.asked a=true->rm K H xs (Codec.encAll r.args a)->
   sp K xs H (fun v H'=>Dw K H' v (r.ret.enc (Codec.app r.args r.f a))) fun _ _ _=>False):
  PySem.W.WalkOS q loose XP YP r d [] (fun f vs=>PySem.call f vs):=
 Nt (K:=K) (CX:=fun _=>JQ) (sp:=fun w=>sp (K w.params)) hwell himp hdf hlen hr hY F (fun w H xs a h1 h2 h3 h4=>hsp (K w.params) H xs a h1 h2 h3 h4) fun _ H s e s' z=>z
theorem sp_of{K:PySem.W.Frag}{H:Hp}{xs:List V}{l m a b:List Int}(hl:l.length<=120)(hm:m.length<=120)(a0:∀v∈a,0<=v)(b0:∀v∈b,0<=v)(hx:rm K H xs [.list (l.map PySem.W.WData.int),.list (m.map PySem.W.WData.int),.list (a.map PySem.W.WData.int),.list (b.map PySem.W.WData.int)]):
  yF K xs H (fun v H'=>Dw K H' v (.list ((PyWrwirb.same l m a b).map PySem.W.WData.int))) fun _ _ _=>False:=by
 cases hx with
 |cons x1 y1=>
 cases x1 with
 |lst h1 q1=>
 cases yG l _ q1
 cases y1 with
 |cons x2 y2=>
 cases x2 with
 |lst h2 q2=>
 cases yG m _ q2
 cases y2 with
 |cons x3 y3=>
 cases x3 with
 |lst h3 q3=>
 cases yG a _ q3
 cases y3 with
 |cons x4 y4=>
 cases y4
 cases x4 with
 |lst h4 q4=>
 cases yG b _ q4
 refine⟨_,l,_,m,_,a,_,b,rfl,h1,h2,h3,h4,by omega,by omega,Sf a0,Sf b0,?_⟩;rw[de.Rq l m a b a0 b0];exact fun z H' s ⟨p,e,hp⟩=>by rw[e];exact .lst (kg.of hp) (Mm _)
end HK
namespace PySem.W.Fast
def tw13860500186345265999:=0
def tw4575950862538395495:=0
def tw10893623539873718069:=0
def tw9409025664627108489:=0
def tw10715041909291398312:=0
def tw16861466101705001467:=0
def tw536870488077622192:=0
def tw17402283847191463965:=0
def tw8069935976741960202:=0
def tw14549734033195306750:=0
def tw2331850930531928094:=0
def tw15272148552774939567:=0
def tw18234126915865458370:=0
def tw1340528978834866394:=0
def tw6313408777708677160:=0
def tw8865320950426278936:=0
def tw2255660931697461619:=0
def tw7484434334604753859:=0
def tw16702021358827625703:=0
def tw17615676757297277468:=0
def tw8118998875634766578:=0
def tw656214379289168963:=0
def tw6639020269935444295:=0
def tw7535697981173256154:=0
def tw13402311586135062438:=0
def tw13835096462216614956:=0
def tw1293048256268141952:=0
def tw15882838671834753492:=0
def tw13268228529457485403:=0
def tw11133968721921060561:=0
def tw15213139963108689230:=0
def tw13072356954740971016:=0
def tw12476806589531478607:=0
def tw9583490932842126599:=0
def tw15319569279849799642:=0
def tw17773912190858558510:=0
def tw15031511332342747694:=0
def tw9230466134533998757:=0
def tw11064371623870026135:=0
def tw10351243809336121227:=0
def tw8727605229821213395:=0
def tw5016686954130267649:=0
def tw7458335030809217502:=0
def tw4634854800254509039:=0
def tw3029218539417147339:=0
def tw5988458893162557594:=0
def tw13836594281884273160:=0
def tw5503842294906095869:=0
def tw1857687805549935309:=0
def tw17765278486382363426:=0
def tw14885460241705173883:=0
def tw14463302841619159646:=0
def tw11813584572376187145:=0
def tw18018116417300051696:=0
def tw16781741364700572052:=0
def tw16138973907983222504:=0
def tw4033801221850189129:=0
def tw4656934271602699003:=0
def tw15008280583114912039:=0
def tw14141132920309713749:=0
def tw7644204363656659613:=0
def tw2395699309282750218:=0
def tw17759261984297428137:=0
def tw5690613237568646239:=0
def tw6861507514264462190:=0
def tw7799776722668143961:=0
def tw14077457157533432982:=0
def tw14360422897631054227:=0
def tw10228147577421060202:=0
def tw15938695420250120755:=0
def tw934714875868545285:=0
def tw13398849574309087139:=0
def tw13769103838252907594:=0
def tw14472805064484561840:=0
def tw7297123315532130449:=0
def tw5985053412928047732:=0
def tw5178376625594815125:=0
def tw3994692123129927451:=0
def tw11646280431250935658:=0
def tw17193413211451787712:=0
def tw13384810630578323836:=0
def tw14916902626675787723:=0
def tw2190608491026055347:=0
def tw7291507970137509524:=0
def tw15404444614026529322:=0
def tw8912170311294550117:=0
def tw5458445718616801397:=0
def tw13324048374825513186:=0
def tw1702787593678061747:=0
def tw9260421191785391984:=0
def tw7156612976152109310:=0
def tw11562746505835462116:=0
def tw6741410564036016865:=0
def tw13558335169075200336:=0
def tw16238107390852017433:=0
def tw14155286149214010565:=0
def tw11548212291865223183:=0
def tw14830085405586131683:=0
def tw4822395290803450755:=0
def tw15033393119241456370:=0
def tw9363556366767363871:=0
def tw5190441415278821891:=0
def tw10296811861513836375:=0
def tw6983209149458752174:=0
def tw9580400516225681456:=0
def tw1943224394229147090:=0
def tw16228335433910205522:=0
def tw4434726320109539695:=0
def tw17610362197435228060:=0
def tw4562851503756076749:=0
def tw14771206751941270890:=0
def tw4170813454686228663:=0
def tw10329529405490921:=0
def tw11297224518695798682:=0
def tw6704009893252275157:=0
def tw6934493639957482652:=0
def tw6074031952714030817:=0
def tw891950473434502119:=0
def tw16722754193075423748:=0
def tw8750800996463207876:=0
def tw9822562186663106752:=0
def tw7224662430347138756:=0
def tw18136907104174468389:=0
def tw3126180815467941382:=0
def tw10538377900967122100:=0
def tw10802709010212370417:=0
def tw6033925505174524660:=0
def tw16350770521531843472:=0
def tw3198051824038864445:=0
def tw14631383509380559382:=0
def tw16898073186809750856:=0
def tw11330611722335019052:=0
def tw1890698620125481628:=0
def tw924399304326138586:=0
def tw5772616750197598347:=0
def tw7031774128335539365:=0
def tw4946144702724144916:=0
def tw8096185919907674245:=0
def tw8062434825709933123:=0
def tw12169521489491936955:=0
def tw7219072314760100492:=0
def tw9745252935037592161:=0
def tw16883322194834566130:=0
def tw13166588164353931612:=0
def tw5635262419820511936:=0
def tw4660733506190116276:=0
def tw10479689325219403440:=0
def tw17874304397383729719:=0
def tw8880691678845384515:=0
def tw15183713538308847936:=0
def tw80576413628970485:=0
def tw13494369057297984533:=0
def tw9494400887666266493:=0
def tw16221547525646593550:=0
def tw15967881662514139434:=0
def tw6032533595159367847:=0
def tw16693740010032440290:=0
def tw12745486089085382793:=0
def tw18199266768851556785:=0
def tw14208358186412878368:=0
def tw1918712227818773341:=0
def tw5803012163136243790:=0
def tw4259501561259365435:=0
def tw3676373348856348388:=0
def tw11225529496940200051:=0
def tw13325645788804155652:=0
def tw13748795306321638539:=0
def tw6059696482118255672:=0
def tw11085151344410635444:=0
def tw16857323005322245570:=0
def tw836422335606237206:=0
def tw10185855348936971433:=0
def tw7155229984381296603:=0
def tw14136232583117923767:=0
def tw12263383295924866477:=0
def tw9561619279331413932:=0
def tw9527067837428628671:=0
def tw12395229285714934412:=0
def tw2639538445839662779:=0
def tw13546255913389140191:=0
def tw7330938480582641401:=0
def tw6876387817684744675:=0
def tw3615954092017367517:=0
def tw7012311954880379798:=0
def tw847143292223337846:=0
def tw16790880926885537239:=0
def tw14403520111773636930:=0
def tw14790080538168640155:=0
def tw9606152870600998342:=0
def tw17265441357588841584:=0
def tw8241334841748298970:=0
def tw1352225990353915311:=0
def tw15281367233947787364:=0
def tw5869131038390783046:=0
def tw2548446481985706744:=0
def tw13046212957896576438:=0
def tw10894528183619177154:=0
def tw16439530804879180881:=0
def tw6023859998310919955:=0
def tw14754803618321941895:=0
def tw12674131141063565664:=0
def tw2136631910434475196:=0
def tw13736254262661072049:=0
def tw16163074784438108494:=0
def tw10537103151918572228:=0
def tw4766136437255825861:=0
def tw3430644720765237568:=0
def tw41957808854343324:=0
def tw6675139981447384363:=0
def tw1421449720894491353:=0
def tw6365373407187109166:=0
def tw9383121936252219318:=0
def tw15206671584118134019:=0
def tw2509020616942732270:=0
def tw10454628909862531609:=0
def tw17518520952463112481:=0
def tw14767581434285788904:=0
def tw5337253857726729390:=0
def tw2829215583507984962:=0
def tw334421510002818452:=0
def tw15854373090679666549:=0
def tw1456203215467921763:=0
def tw7402950199826796380:=0
def tw12639425521961710851:=0
def tw11376752081021286755:=0
def tw5811852844781539483:=0
def tw2894355824822889661:=0
def tw7821378423163673719:=0
def tw11028903657612551468:=0
def tw15178867016356909653:=0
def tw11228189637136019224:=0
def tw6225016006940629420:=0
def tw11398996068488600608:=0
def tw5875746420480798643:=0
def tw12969313794717565717:=0
def tw6700456833912772170:=0
def tw282292032754982634:=0
def tw18344227124756313985:=0
def tw12912298393202741490:=0
def tw8513529012416408862:=0
def tw16314331375402812722:=0
def tw13526681844519167532:=0
def tw6832180854469918577:=0
def tw6509720126193555782:=0
def tw3635198931883048657:=0
def tw17803122361769615970:=0
def tw16417063950892870055:=0
def tw14945895475656899418:=0
def tw11497736489663900378:=0
def tw7206028115625808550:=0
def tw14919324595272238296:=0
def tw5292648566660103269:=0
def tw14889053221003582648:=0
def tw14791211324892280908:=0
def tw1307573323345425981:=0
def tw1273915419072861218:=0
def tw11849014415739788989:=0
def tw15783717235075894863:=0
def tw14393725396358075489:=0
def tw12767308001124337959:=0
def tw968221735418722837:=0
def tw2934214862308005462:=0
def tw17382808966010752802:=0
def tw1097714250479502205:=0
def tw7827235049199795366:=0
def tw14685924243242808794:=0
def tw11606350570163136875:=0
def tw5354777622049368535:=0
def tw13929818863661792488:=0
def tw10833991228731402966:=0
def tw5026198724853482991:=0
def tw14523484906003886986:=0
def tw9289103813340807849:=0
def tw6199348161192342117:=0
def tw72360207035534809:=0
def tw5744160365732813751:=0
def tw17850238398951563598:=0
def tw575237343223299424:=0
def tw2418817591520793143:=0
def tw18209366190513719895:=0
def tw14252623283991201814:=0
def tw8639064170784025763:=0
def tw7368498254307242588:=0
def tw4662979136508136014:=0
def tw11716676279695526166:=0
def tw3292887304430135579:=0
def tw9367098541453721502:=0
def tw16888568994018755185:=0
def tw11220727842444359538:=0
def tw7064576246799482673:=0
def tw9657916986929329853:=0
def tw13502354051429865009:=0
def tw4729357136099138790:=0
def tw180695049984449615:=0
def tw11312485861090523764:=0
def tw9381095890755551834:=0
def tw14436462110262050724:=0
def tw13015734247881168086:=0
def tw13001367145272101864:=0
def tw976858604978965262:=0
def tw6785200114950644718:=0
def tw15037389566308932692:=0
def tw425298445933888272:=0
def tw14739959307823719961:=0
def tw13813002424707811626:=0
def tw5520080550793271057:=0
def tw12323683610963673034:=0
def tw16138729441020333499:=0
def tw16620708729320317488:=0
def tw6960165142765108876:=0
def tw15265159784316105110:=0
def tw17070003565523719761:=0
def tw13647296747994715206:=0
def tw4816860527533737963:=0
def tw14811388876343979272:=0
def tw12250832813660939967:=0
def tw10320876488087270868:=0
def tw2080066898223564928:=0
def tw9965598122539416243:=0
def tw15543919250207022562:=0
def tw14559603809057239410:=0
def tw9517167643997878189:=0
def tw11934280383240606542:=0
def tw7667858728138313662:=0
def tw6095150068294062914:=0
def tw18336254495081252047:=0
def tw15736393215985118595:=0
def tw15661606944187285739:=0
def tw15465877910613677780:=0
def tw13364156708529208717:=0
def tw11006849751025850191:=0
def tw12763524115992170373:=0
def tw9504563406317110448:=0
def tw10687358338208183892:=0
def tw65102594408974652:=0
def tw12545464843198510054:=0
def tw14844940748150059071:=0
def tw477298049618119595:=0
def tw186548064108040660:=0
def tw1852624898107159546:=0
def tw10071927434416365030:=0
def tw2754960771721480359:=0
def tw8291525222697548318:=0
def tw8172065957203577643:=0
def tw812295971999086476:=0
def tw4799084969020595925:=0
def tw15634279091981689800:=0
def tw9024111189901164190:=0
def tw5558198964414601088:=0
def tw16749401518561744919:=0
def tw16323134708023630032:=0
def tw11458353636182281573:=0
def tw13053720255382776235:=0
def tw13609233524814131454:=0
def tw3157014100052636053:=0
def tw14575291819727601504:=0
def tw13418022634765888780:=0
def tw12857929226303861579:=0
def tw12398695141286338868:=0
def tw7201208897744130216:=0
def tw4237046012440224861:=0
def tw2438426429027940067:=0
def tw18108216004767344658:=0
def tw14176755695966389859:=0
def tw10464597913198390927:=0
def tw15760983479441501438:=0
def tw8488910432236201918:=0
def tw15210163219958997036:=0
def tw16443705156698876263:=0
def tw4675228268883489950:=0
def tw2123948006680067057:=0
def tw17067025651959858922:=0
def tw16879825249390899100:=0
def tw13439443629713497214:=0
def tw14430965210804418005:=0
def tw8100444107750857746:=0
def tw2078786164748511917:=0
def tw14087268901830369771:=0
def tw1216652838888167620:=0
def tw10983757709588315822:=0
def tw9094814799820002285:=0
def tw8949152382614418518:=0
def tw3874010374197865744:=0
def tw15395253876572157421:=0
def tw11324794235075217599:=0
def tw7050826044021037199:=0
def tw4840714471020259738:=0
def tw4504841467470217516:=0
def tw18218067896799386115:=0
def tw11613758427594215011:=0
def tw9618175583630075451:=0
def tw9606723918340907649:=0
def tw9600687076362269829:=0
def tw9383605733266113488:=0
def tw9228838776869633576:=0
def tw9143827720872704064:=0
def tw909960176563210185:=0
def tw9048578486155015999:=0
def tw8990209542071978312:=0
def tw8929589348023111850:=0
def tw8508929685982511631:=0
def tw8492918184566363931:=0
def tw8462221903643235263:=0
def tw8461705251745749569:=0
def tw8452315163503548939:=0
def tw8409174626968979002:=0
def tw8402377111455035397:=0
def tw8376971956167566225:=0
def tw8165586163965653106:=0
def tw8087528267043692827:=0
def tw8057757024106888558:=0
def tw8017944839238925391:=0
def tw8014742206809929218:=0
def tw7965697095255896655:=0
def tw7810264308959979710:=0
def tw7712976936594573370:=0
def tw771073876966056082:=0
def tw7546054242915306177:=0
def tw7420859239181976311:=0
def tw7357665275532176621:=0
def tw7310479912897294764:=0
def tw7292109630942268629:=0
def tw7158650459048814834:=0
def tw7136814533532037327:=0
def tw7002607401175554250:=0
def tw6985576099334126752:=0
def tw6861751562305834789:=0
def tw6850570164924618862:=0
def tw6819236128166697590:=0
def tw6802688140570256226:=0
def tw6605560124738868373:=0
def tw6505910500998130338:=0
def tw603465708185412766:=0
def tw6031892116486822419:=0
def tw5935384707477429909:=0
def tw5869967115620669507:=0
def tw5841236569595538784:=0
def tw5691185841267787990:=0
def tw56613770824895845:=0
def tw5620078663022408686:=0
def tw559030698216109474:=0
def tw550099150851186496:=0
def tw5449552533460742516:=0
def tw5234247622171303453:=0
def tw5082702453697250043:=0
def tw5051959774320511048:=0
def tw5036540874890522067:=0
def tw4951930235304531686:=0
def tw4930614346348522787:=0
def tw4791612201340552233:=0
def tw4702526791638905421:=0
def tw4582214857635943259:=0
def tw4438289156462083421:=0
def tw4395723881716708495:=0
def tw4254911706092546730:=0
def tw4231020841897021032:=0
def tw404126885031459297:=0
def tw4017232321809218756:=0
def tw3957410189498644839:=0
def tw3853868881802064952:=0
def tw374008384936899464:=0
def tw3595293769223360934:=0
def tw3346729267669088080:=0
def tw3303628591215586332:=0
def tw3259470421826253583:=0
def tw2986660303466521854:=0
def tw2944091620420216744:=0
def tw2728163135316040286:=0
def tw2725597669604974065:=0
def tw2242483441907961436:=0
def tw2227704772155083536:=0
def tw2146069212939960450:=0
def tw2135434667412733387:=0
def tw2072157966179302489:=0
def tw18228711407672309634:=0
def tw18127559589835899672:=0
def tw18088376310548990579:=0
def tw18048837513691125046:=0
def tw1779397725552048148:=0
def tw17779228745705061945:=0
def tw17774102538120196956:=0
def tw17763329251206908657:=0
def tw17693745045002653248:=0
def tw17678907337972722647:=0
def tw17534042566080745655:=0
def tw17467218813287447873:=0
def tw17448494640086296171:=0
def tw17426042255795108746:=0
def tw17188137100364968107:=0
def tw16964582034933237900:=0
def tw16960648944011684577:=0
def tw16766552860757454703:=0
def tw16462938657438096416:=0
def tw16409386483873265045:=0
def tw16300904466082104567:=0
def tw16293615020267031258:=0
def tw16285766639998631669:=0
def tw16175456988077585656:=0
def tw16163945960590662572:=0
def tw16151087032603250334:=0
def tw16042345797971228139:=0
def tw15991642140503316359:=0
def tw15882785016145183835:=0
def tw15834370144769798535:=0
def tw15779688897569173835:=0
def tw15666061191460396776:=0
def tw15486814869940766815:=0
def tw15046798845270581589:=0
def tw15039140440480027039:=0
def tw14988210297022641370:=0
def tw14964558438681820635:=0
def tw14937699201532308028:=0
def tw1491689217609362759:=0
def tw14868494521164819155:=0
def tw1473447394715055420:=0
def tw14633543746179964842:=0
def tw1452595657633094394:=0
def tw14487560976085072266:=0
def tw14193189464306046385:=0
def tw14163640064130485074:=0
def tw14161648738422551029:=0
def tw14136653099978609596:=0
def tw13625768600167133537:=0
def tw13542173846979371782:=0
def tw13358861268567115597:=0
def tw13008480808587967205:=0
def tw12860128708864911256:=0
def tw12656168379500832560:=0
def tw12576755700566802363:=0
def tw12504493785728977733:=0
def tw12442166916122576376:=0
def tw12314256901882130638:=0
def tw12073828392317472892:=0
def tw11889180240406125774:=0
def tw11575585000589532475:=0
def tw11425885341667878394:=0
def tw11279958685125045904:=0
def tw11128769667479066543:=0
def tw10992331698336935102:=0
def tw10783648361514139331:=0
def tw10731861396322532931:=0
def tw10669496260414430317:=0
def tw10658687250763754557:=0
def tw10020420139130678326:=0
abbrev tw3204071980844165464:=PySem.Challenge.pw_wirequotients_s05_same
theorem te3204071980844165464:PySem.Challenge.pw_wirequotients_s05_same=tw3204071980844165464:=rfl
end PySem.W.Fast
open PySem PySem.W PyProof.Rows
set_option maxRecDepth 100000 in
set_option maxHeartbeats 0 in
theorem PySem.Challenge.cw_wirequotients_s05_same_holds : PySem.Challenge.rw_wirequotients_s05_same.Holds := by
 w_on;k_headS;(case hw=>exact⟨[.list [],.list [],.list [],.list []],by decide +kernel,by decide +kernel⟩)
 k_fillS
 refine HK.walk_specK (r:=PySem.Challenge.rw_wirequotients_s05_same) (k:=46) (ps:=["net_one","net_two","nodes_one","nodes_two"]) (sp:=HK.yF) (by decide +kernel) (by decide +kernel) rfl rfl ⟨rfl,by decide,by decide⟩ (fun w h Y=>PySem.W.kIn_of Y) ?F ?S
 case F=>
  intro w mg fa h Y KX G hmg;refine HK.all_mk rfl KX G hmg ?W;constructor
  iterate 11 (show PySem.W.nsIn _ mainGlobals _=some none;k_is)
  iterate 26 (refine' HK.fN.mk ?a;(case a=>k_is))
  iterate 77 (refine' HK.d3.mk ?a ?l ?c ?k;(case a=>k_is);(case l=>k_is);(case c=>k_is);(case k=>k_is))
  (refine' HK.ly.mk ?a ?i ?f ?l ?c ?k ?pg ?hd ?po ?sa ?mk ?kc ⟨?n0,?n1,?n2,?n3,?n4,?n5,?n6,trivial⟩;(case a=>k_is);(case i=>k_is);(case f=>k_is);(case l=>k_is);(case c=>k_is);(case k=>k_is);(case pg=>k_is);(case hd=>k_is);(case po=>k_is);(case sa=>k_is);(case mk=>k_is);(case kc=>k_is);(case n0=>k_is);(case n1=>k_is);(case n2=>k_is);(case n3=>k_is);(case n4=>k_is);(case n5=>k_is);(case n6=>k_is))
  (refine' HK.ly.mk ?a ?i ?f ?l ?c ?k ?pg ?hd ?po ?sa ?mk ?kc ⟨?n0,?n1,trivial⟩;(case a=>k_is);(case i=>k_is);(case f=>k_is);(case l=>k_is);(case c=>k_is);(case k=>k_is);(case pg=>k_is);(case hd=>k_is);(case po=>k_is);(case sa=>k_is);(case mk=>k_is);(case kc=>k_is);(case n0=>k_is);(case n1=>k_is))
  (refine' HK.ly.mk ?a ?i ?f ?l ?c ?k ?pg ?hd ?po ?sa ?mk ?kc ⟨?n0,?n1,?n2,?n3,?n4,?n5,trivial⟩;(case a=>k_is);(case i=>k_is);(case f=>k_is);(case l=>k_is);(case c=>k_is);(case k=>k_is);(case pg=>k_is);(case hd=>k_is);(case po=>k_is);(case sa=>k_is);(case mk=>k_is);(case kc=>k_is);(case n0=>k_is);(case n1=>k_is);(case n2=>k_is);(case n3=>k_is);(case n4=>k_is);(case n5=>k_is))
  (refine' HK.ly.mk ?a ?i ?f ?l ?c ?k ?pg ?hd ?po ?sa ?mk ?kc ⟨?n0,?n1,trivial⟩;(case a=>k_is);(case i=>k_is);(case f=>k_is);(case l=>k_is);(case c=>k_is);(case k=>k_is);(case pg=>k_is);(case hd=>k_is);(case po=>k_is);(case sa=>k_is);(case mk=>k_is);(case kc=>k_is);(case n0=>k_is);(case n1=>k_is))
  (refine' HK.ly.mk ?a ?i ?f ?l ?c ?k ?pg ?hd ?po ?sa ?mk ?kc ⟨?n0,?n1,trivial⟩;(case a=>k_is);(case i=>k_is);(case f=>k_is);(case l=>k_is);(case c=>k_is);(case k=>k_is);(case pg=>k_is);(case hd=>k_is);(case po=>k_is);(case sa=>k_is);(case mk=>k_is);(case kc=>k_is);(case n0=>k_is);(case n1=>k_is))
  (refine' HK.Hk.mk ?a ?l ?t0 ?t1 ?t2 ?t3 ?t4 ?t5 ?t6 ?t7 ?t8 ?t9 ?t10 ?t11 ?t12 ?t13;(case a=>k_is);(case l=>k_is);(case t0=>k_is);(case t1=>k_is);(case t2=>k_is);(case t3=>k_is);(case t4=>k_is);(case t5=>k_is);(case t6=>k_is);(case t7=>k_is);(case t8=>k_is);(case t9=>k_is);(case t10=>k_is);(case t11=>k_is);(case t12=>k_is);(case t13=>k_is))
 case S=>
  intro K H xs a hO hwi hask hx;have q:((Codec.inLen 0 120 a.1&&a.1.all (Codec.inInt (-4294967295) 4294967295))&&((Codec.inLen 0 120 a.2.1&&a.2.1.all (Codec.inInt (-4294967295) 4294967295))&&((Codec.inLen 0 6 a.2.2.1&&a.2.2.1.all (Codec.inInt 0 4294967295))&&((Codec.inLen 0 6 a.2.2.2.1&&a.2.2.2.1.all (Codec.inInt 0 4294967295))&&true))))=true:=hwi;rw[aF,aF,aF,aF,aF,aF,aF,aF] at q;obtain⟨⟨q1,_⟩,⟨q2,_⟩,⟨_,q3⟩,⟨_,q4⟩,_⟩:=q;exact HK.sp_of (Codec.inNat_iff.mp q1).2 (Codec.inNat_iff.mp q2).2 (fun v hv=>(Codec.inInt_iff.mp (bc.mp q3 v hv)).1) (fun v hv=>(Codec.inInt_iff.mp (bc.mp q4 v hv)).1) hx
