import PyProof.Rows.All
import Wide.All
import OpenK.AllK
import Wide.FinOn
import PyProof.EqAt
import PyProof.EqKinds
import PyProof.TupleCall
import KE.BitLaws
import KE.IntBitsLaws
import WhPoly
import WhBSpec
import PyWrwirb
import PySem.Challenge.RW0_wirequotients_s03_modes
import Open.SpecLaws
import KE.OsHead
import KE.OsGo
import KE.SpHead
import KE.OsShapes
import PySem.Challenge.RW_wirequotients_s03_modes
set_option Elab.async false
set_option linter.all false
set_option genSizeOf false
set_option bootstrap.genMatcherCode false
set_option maxRecDepth 100000
set_option maxHeartbeats 2000000
open List renaming getElem?_eq_getElem->af,length_cons->ak,mem_cons_of_mem->ao,length_pos_iff->aq,mem_cons_self->aC,getElem?_map->aD,mem_singleton->aE,mem_of_getElem?->aH,length_append->aJ,map_cons->aK,mem_cons->aL,map_map->aN,getElem?_eq_none->aO,length_take->aP,take_length->aQ,size_toArray->aS,map_congr_left->aT,mem_map->aV,mem_append->aX,mem_range->aY,length_range->a5,length_replicate->a9,length_eq_zero_iff->bc,filter_cons_of_pos->bh,take_add_one->bo,getElem_of_mem->br,filter_cons_of_neg->bu,getElem?_range->bB,map_append->bC,getElem?_eq_some_iff->bD,take_of_length_le->bH,length_drop->bJ,mem_append_right->bM,flatMap_cons->bP,foldl_cons->bQ,length_nil->bT,all_eq_true->bU,range_succ->bX,getElem?_replicate->bY,getElem_mem->bZ,replicate_succ->b7,mem_filter->b9,nodup_cons->cf,ext_getElem->cg,filter_append->cj,append_assoc->cu,append_nil->cw,length_set->cA,any_cons->cC,lookup_cons->cD,getElem?_append_right->cE,getLast?_eq_getElem?->cH,sum_cons->cJ,length_reverse->cK,flatMap_append->cM,flatMap_map->cO,mem_flatMap->cP,length_filter_le->cR,getElem?_set->cS,length_eraseIdx->cU,drop_eq_getElem_cons->cY,filterMap_cons->c4,map_id'->c7
open Nat renaming le_refl->aj,le_trans->aB,zero_le->aR,lt_of_lt_of_le->a8,pow_le_pow_right->bA,ne_of_lt->bN,le_of_not_lt->bV,mul_le_mul->bW,lt_irrefl->b6,mul_le_mul_left->b8,mul_le_mul_right->cq,le_of_lt->cI,le_add_right->cN,le_mul_of_pos_left->cQ,succ_mul->cV,sub_self->cX
open Bool renaming false_ne_true->aU,and_eq_true->aW,eq_iff_iff->bg
open PySem.F renaming plainAttrs_list->aZ,slot_list_append->a6,type_list_append->a7
open Option.some renaming inj->bf
open PySem renaming mem_of_lookup->bq
open Classical renaming byContradiction->bt,not_not->cT
open PySem.W renaming mg_of->bI
open Int renaming toNat_natCast->bK,natAbs_mul->cn,mul_fdiv_cancel->c5,ofNat_dvd_left->c6,dvd_trans->c8
open Rat renaming intCast_natCast->bO,mul_eq_zero->bR
open PyProof.Rows renaming callWith_type1->bS
open Ne renaming symm->b5
open Option renaming getD_some->cW
set_option compiler.extract_closed false
noncomputable section
abbrev ah:=@if_neg
abbrev ai:=@if_pos
abbrev aw:=@decide_eq_true
abbrev aA:=@decide_eq_false
abbrev aI:=@of_decide_eq_true
abbrev a4:=@decide_eq_true_iff
abbrev cZ:=@beq_eq_false_iff_ne
theorem zSb {a b:Nat}(h:b<=a):a - 1 - (a - b)=b - 1:=by rw[Nat.sub_right_comm,Nat.sub_sub_self h]
theorem zTq {x y:Int}(h:0<=x)(i:0<=y):x.toNat=y.toNat<->x=y:=⟨fun e=>by rw[<-Int.toNat_of_nonneg h,e,Int.toNat_of_nonneg i],fun e=>by rw[e]⟩
theorem zSv {x:Int}{v:Nat}(h:0<=x):x=(v:Int)+1<->x.toNat=v+1:=⟨fun e=>by rw[e];rfl,fun e=>by rw[<-Int.toNat_of_nonneg h,e];rfl⟩
theorem zEx {a i:Nat}(h:i<a):∃m,a - i=m+1:=⟨_,(Nat.succ_pred_eq_of_pos (Nat.sub_pos_of_lt h)).symm⟩
theorem zTo {a b m:Nat}(h:a - b=m+1):a - (m+1)=b:=by rw[<-h,Nat.sub_sub_self (Nat.le_of_lt (Nat.lt_of_sub_eq_succ h))]
theorem zPr (n:Nat):(-1+(n:Int)).toNat=n - 1:=by rw[Int.add_comm];exact Int.toNat_sub n 1
theorem zUp {t r:Nat}(h:0<r):t<=t+r - 1:=Nat.le_sub_one_of_lt (Nat.lt_add_of_pos_right h)
theorem zMn {a b:Rat}(h:0<a)(i:0<b):∃c,0<c/\c<=a/\c<=b:=by
 by_cases q:a<=b
 exact⟨a,h,Rat.le_refl,q⟩
 exact⟨b,i,by grind,Rat.le_refl⟩
theorem zDv (a:Nat):2*a / 2=a:=Nat.mul_div_cancel_left a (by decide)
theorem gDe {l:List A}:l.getD i d=(l[i]?).getD d:=List.getD_eq_getElem?_getD
theorem lMp {l:List A}(f:A->B):(l.map f).length=l.length:=List.length_map f
namespace Lake
namespace L2
open PySem PySem.Spec PyProof.Rows
abbrev Key:=Sum Int Str
noncomputable def Wg:Key->Value->Bool
 | .inl k,v=>Value.isInt k v
 | .inr x,v=>Value.isStrOf x v
noncomputable def ZQ(w:World):Key->Int
 | .inl k=>hashInt k
 | .inr x=>hashStr w x
theorem iz:∀{k:Key} {v:Value},Wg k v=true->(∃i t,k=Sum.inl i/\v=Value.int i t)\/(∃x t,k=Sum.inr x/\v=Value.str x t)
 | .inl i,v,h=>by
  obtain⟨t,e⟩:=Value.isInt_shape (k:=i) (v:=v) h;exact .inl ⟨i,t,rfl,e⟩
 | .inr x,v,h=>by
  obtain⟨t,e⟩:=Value.isStrOf_shape (x:=x) (v:=v) h;exact .inr ⟨x,t,rfl,e⟩
theorem WQ (a b):decide ((Sum.inl a:Key)=Sum.inl b)=(a==b):=by
 by_cases e:a=b
 ·subst e;simp
 ·have h:¬(Sum.inl a:Key)=Sum.inl b:=fun q=>e (Sum.inl.inj q);rw[aA h];exact(cZ.mpr e).symm
theorem WR (a b):decide ((Sum.inr a:Key)=Sum.inr b)=decide (a=b):=by
 by_cases e:a=b
 ·subst e;simp
 ·have h:¬(Sum.inr a:Key)=Sum.inr b:=fun q=>e (Sum.inr.inj q);rw[aA h,aA e]
theorem WS (a)(b):decide ((Sum.inl a:Key)=Sum.inr b)=false:=aA (fun q=>nomatch q)
theorem WT (a)(b):decide ((Sum.inr a:Key)=Sum.inl b)=false:=aA (fun q=>nomatch q)
def Iu(prog:Program)(w:World):PySem.KeyKind prog w Key where
 is:=Wg
 hash:=ZQ w
 inj:=fun v a b f l=>by
  rcases iz f with⟨i,t,rfl,rfl⟩ |⟨x,t,rfl,rfl⟩
  ·rcases iz l with⟨j,u,rfl,e⟩ |⟨y,u,rfl,e⟩
   ·injection e with d _;rw[d]
   ·exact nomatch e
  ·rcases iz l with⟨j,u,rfl,e⟩ |⟨y,u,rfl,e⟩
   ·exact nomatch e
   ·injection e with d _;rw[d]
 byValue:=fun k v h=>by
  rcases iz h with⟨i,t,rfl,rfl⟩ |⟨x,t,rfl,rfl⟩ <;>rfl
 pyHash:=fun A h=>by
  rcases iz A with⟨i,t,rfl,rfl⟩ |⟨x,t,rfl,rfl⟩
  ·exact wpAny_pyHash_int h
  ·exact wpAny_pyHash_str h
 eqBool:=fun B A h=>by
  rcases iz B with⟨i,t,rfl,rfl⟩ |⟨x,t,rfl,rfl⟩
  ·rcases iz A with⟨j,u,rfl,rfl⟩ |⟨y,u,rfl,rfl⟩
   ·rw[WQ] at h;exact wpAny_eqBool_int h
   ·rw[WS] at h;exact SeqAt.EqAt.int_str i t y u _ _ _ _ h
  ·rcases iz A with⟨j,u,rfl,rfl⟩ |⟨y,u,rfl,rfl⟩
   ·rw[WT] at h;exact SeqAt.EqAt.str_int x t j u _ _ _ _ h
   ·rw[WR] at h;exact wpAny_eqBool_str h
 «strs»:=fun k x t v h=>by
  rcases iz h with⟨i,u,rfl,e⟩ |⟨y,u,rfl,e⟩
  ·exact nomatch e
  ·injection e with d _
   subst d;cases v <;>rfl
inductive V where
 |kY |bl (b:Bool) |int (i:Int) |str (x:Str) |Iv (b:Array UInt8) |Yt (b:UInt64) |ref (a:Addr) |ty (n:String)
 deriving DecidableEq
def RelV:V->Value->Prop
 | .kY,u=>u=Value.none
 | .bl b,u=>u=Value.bool b
 | .int i,u=>∃t,u=Value.int i t
 | .str x,u=>∃t,u=Value.str x t
 | .Iv b,u=>∃t,u=Value.bytes b t
 | .Yt b,u=>∃t,u=Value.float b t
 | .ref a,u=>u=Value.ref a
 | .ty n,u=>u=Value.type n
abbrev Vals:List V->List Value->Prop:=Paired RelV
theorem Vals.length (r:Vals d A):d.length=A.length:=Paired.length r
theorem Vals.get {i:Nat}(p:Vals d A)(e:d[i]? =some x):∃u,A[i]? =some u/\RelV x u:=by
 induction p generalizing i with
 |nil=>simp at e
 |cons r _ t=>
  cases i
  simp at e;subst e;exact⟨_,rfl,r⟩
  exact t e
theorem Vals.set (r:RelV x u)(i)(p:Vals d A):Vals (d.set i x) (A.set i u):=by
 induction p generalizing i with
 |nil=>exact .nil
 |cons q h t=>
  cases i
  exact .cons r h
  exact .cons q (t _)
theorem Vals.append (p:Vals A i)(s:Vals l d):Vals (A ++ l) (i ++ d):=by
 induction p with
 |nil=>exact s
 |cons r _ t=>exact .cons r t
theorem Vals.take (n)(p:Vals d A):Vals (d.take n) (A.take n):=by
 induction p generalizing n with
 |nil=>simp;exact .nil
 |cons r _ t=>
  cases n
  exact .nil
  exact .cons r (t _)
theorem Vals.drop:∀{d:List V} {A:List Value} (n:Nat),Vals d A->Vals (d.drop n) (A.drop n)
 |_,_,0,r=>r
 |_,_,_+ 1,.nil=> .nil
 |_,_,n+1,.cons _ t=>Vals.drop n t
def Mj:Option V->Option Value->Prop
 |some v,some u=>RelV v u
 |none,none=>True
 |_,_=>False
def KV{κ:Type}:List (κ×V)->List (κ×Value)->Prop:=Paired fun(p:κ×V) (q:κ×Value)=>p.1=q.1/\RelV p.2 q.2
noncomputable def kV:Key->V
 | .inl i=> .int i
 | .inr x=> .str x
inductive HO where
  |lst (xs:List V)
  |tup (xs:List V)
  |dK (kvs:List (Key×V)) |dT (kvs:List (List Key×V))
  |set (S:Int->Bool) (n:Nat)
  |ins (C dx:Addr) (fs:List (Str×V))
  |own (x:Addr)
  |xd (fs:List (Str×V))
  |met (f x:Addr)
  |ZR (lo hi:Int)
  |Iw (o:Obj) (u:HO)
  |WU (ps:Array Value)
  |ext (φ:Heap->Prop)
abbrev Hp:=Addr->Option HO
noncomputable def upd(H:Hp)(a:Addr)(o:HO):Hp:=fun b=>if b=a then some o else H b
theorem dj:upd H a o a=some o:=by unfold upd;rw[ai rfl]
theorem dY (h:b≠a):upd H a o b=H b:=by unfold upd;rw[ah h]
theorem n8:upd (upd H a o) a u=upd H a u:=by
 funext b;unfold upd;split <;>rfl
theorem Ki {H:Hp}(h:H a=some o)(h':H b=some u)(d:o≠u):a≠b:=by
 intro e;subst e;rw[h] at h';exact d (bf h')
theorem fT {H:Hp}(h:H a=some o)(h':H b=none):a≠b:=by
 intro e;subst e;rw[h] at h';cases h'
section
variable (P:Program)(w:World)
def lZ(H:Hp)(h:Heap)(a:Addr):HO->Prop
 | .lst d=>d.length<=sizeLine/\∃(A:List Value) (n:Nat),Vals d A/\h.get? a=some {cls:= .type "list",data:= .seq A.toArray n}
 | .tup d=>d.length<=sizeLine/\∃A:List Value,Vals d A/\IsTup h a A.toArray
 | .dK l=>l.length<=sizeLine/\(a==sysModules)=false/\∃b,KV l b/\h.DictOf (Iu P w) a b
 | .dT l=>l.length<=sizeLine/\(a==sysModules)=false/\∃d:List (List Key×Addr×Value),
   Paired (fun(p:List Key×V) (q:List Key×Addr×Value)=>p.1=q.1/\H q.2.1=some (.tup (p.1.map kV))/\RelV p.2 q.2.2) l d/\
   ∃o k F,h.get? a=some o/\o.ExactDict/\o.data= .dict k F/\k.toList=d.map (entryOfKey (tupleKind (Iu P w)))/\(d.map (·.1)).Nodup
 | .set S n=>h.SetOf (intKind P w) a S n
 | .ins C B fs=>H B=some (.own a)/\fs.length<=1000/\B≠a/\h.get? a=some (PySem.W.instObj C B)/\
   ∃i,h.Ns1 B i/\(∀f,Mj (fs.lookup f) (i f))/\PySem.Within i (fs.map (·.1))
 | .own _=>∃o,h.get? a=some o
 | .xd fs=>∃i,h.Ns1 a i/\∀f,Mj (fs.lookup f) (i f)
 | .ZR G y=>∃t u v,h.get? a=some {cls:= .type "range",data:= .fields #[.int G t,.int y u,.int 1 v]}
 | .Iw o u=>h.get? a=some o/\lZ H h a u
 | .WU s=>h.get? a=some {cls:= .none,data:= .fields s}
 | .met f x=>h.get? a=some (PySem.W.methodObj (.ref f) (.ref x))
 | .ext φ=>φ h/\(∃o,h.get? a=some o)/\∀e r:Heap,φ e->(∀o,e.get? a=some o->r.get? a=some o)->φ r
def yR(H:Hp)(h:Heap):Prop:=∀a o,H a=some o->lZ P w H h a o
end
section
variable {P:Program}{w:World}{H H':Hp}{h h':Heap}{a:Addr}{o:HO}
theorem lZ.lt(x:lZ P w H h a o):a<h.objs.size:=by
 cases o with
 |lst A=>obtain⟨_,_,_,_,e⟩:=x;exact Heap.lt_size e
 |tup A=>obtain⟨_,_,_,p⟩:=x;exact p.lt
 |dK d=>obtain⟨_,_,_,_,o,_,_,e,_⟩:=x;exact Heap.lt_size e
 |dT d=>obtain⟨_,_,_,_,o,_,_,e,_⟩:=x;exact Heap.lt_size e
 |set S n=>obtain⟨o,_,_,_,e,_⟩:=x;exact Heap.lt_size e
 |ins C i fs=>obtain⟨_,_,_,e,_⟩:=x;exact Heap.lt_size e
 |own y=>obtain⟨_,e⟩:=x;exact Heap.lt_size e
 |xd fs=>obtain⟨_,⟨_,_,_,e,_⟩,_⟩:=x;exact Heap.lt_size e
 |ZR k B=>obtain⟨_,_,_,e⟩:=x;exact Heap.lt_size e
 |Iw v u=>obtain⟨e,_⟩:=x;exact Heap.lt_size e
 |WU l=>exact Heap.lt_size (show h.get? a=some _ from x)
 |met f y=>exact Heap.lt_size (show h.get? a=some _ from x)
 |ext φ=>obtain⟨_,⟨_,e⟩,_⟩:=x;exact Heap.lt_size e
theorem Paired.WV (p:Paired F d A)(f:∀a b,F a b->G a b):Paired G d A:=by
 induction p with
 |nil=>exact .nil
 |cons r _ t=>exact .cons (f _ _ r) t
theorem lZ.Ml(x:lZ P w H h a o)(k:∀b u,(b=a\/H b=some (.own a))->h.get? b=some u->h'.get? b=some u)
  (E:∀b,H b=some (.own a)->H' b=some (.own a)) (N:∀b B,H b=some (.tup B)->H' b=some (.tup B)):lZ P w H' h' a o:=by
 induction o with
 |lst B=>obtain⟨z,s,n,r,e⟩:=x;exact⟨z,s,n,r,k _ _ (.inl rfl) e⟩
 |tup B=>obtain⟨z,s,r,A,e,c⟩:=x;exact⟨z,s,r,A,k _ _ (.inl rfl) e,c⟩
 |dK I=>obtain⟨z,y,Q,r,A,l,i,e,c⟩:=x;exact⟨z,y,Q,r,A,l,i,k _ _ (.inl rfl) e,c⟩
 |dT I=>
  obtain⟨z,y,B,r,A,l,i,e,c⟩:=x;exact⟨z,y,B,Paired.WV r fun p q z=>⟨z.1,N _ _ z.2.1,z.2.2⟩,A,l,i,k _ _ (.inl rfl) e,c⟩
 |set S n=>obtain⟨A,l,i,t,e,c⟩:=x;exact⟨A,l,i,t,k _ _ (.inl rfl) e,c⟩
 |ins C M fs=>
  obtain⟨d,z,ne,e,G,⟨od,l,i,L,c⟩,r⟩:=x;exact⟨E _ d,z,ne,k _ _ (.inl rfl) e,G,⟨od,l,i,k _ _ (.inr d) L,c⟩,r⟩
 |own y=>obtain⟨A,e⟩:=x;exact⟨A,k _ _ (.inl rfl) e⟩
 |xd fs=>obtain⟨G,⟨od,l,i,e,c⟩,r⟩:=x;exact⟨G,⟨od,l,i,k _ _ (.inl rfl) e,c⟩,r⟩
 |ZR D X=>obtain⟨t,u,v,e⟩:=x;exact⟨t,u,v,k _ _ (.inl rfl) e⟩
 |Iw A u j=>obtain⟨e,q⟩:=x;exact⟨k _ _ (.inl rfl) e,j q⟩
 |WU m=>
  have e:h.get? a=some {cls:= .none,data:= .fields m}:=x;show h'.get? a=some {cls:= .none,data:= .fields m};exact k a _ (.inl rfl) e
 |met f y=>
  have e:h.get? a=some (PySem.W.methodObj (.ref f) (.ref y)):=x;show h'.get? a=some (PySem.W.methodObj (.ref f) (.ref y));exact k a _ (.inl rfl) e
 |ext φ=>obtain⟨p,⟨o,e⟩,F⟩:=x;exact⟨F _ _ p fun o q=>k _ _ (.inl rfl) q,⟨o,k _ _ (.inl rfl) e⟩,F⟩
theorem yR.lt(x:yR P w H h)(e:H a=some o):a<h.objs.size:=(x a o e).lt
theorem yR.fresh(x:yR P w H h)(e:h.objs.size<=a):H a=none:=by
 cases q:H a with
 |none=>rfl
 |some u=>exact absurd (a8 (x.lt q) e) (b6 _)
theorem yR.kept(x:yR P w H h)(k:∀b u,h.get? b=some u->h'.get? b=some u):yR P w H h':=fun a o e=>
 (x a o e).Ml (fun b u _ q=>k b u q) (fun _ q=>q) fun _ _ q=>q
theorem yR.laid(x:yR P w H h)(k:∀b u,h.get? b=some u->h'.get? b=some u)(l:h.objs.size<=a)(new:lZ P w (upd H a o) h' a o):yR P w (upd H a o) h':=fun b u e=>by
 have d:=x.fresh l;by_cases A:b=a
 ·subst A;rw[dj] at e;cases e;exact new
 ·rw[dY A] at e;exact(x b u e).Ml (fun c v _ q=>k c v q) (fun c q=>by rw[dY (fT q d)];exact q) fun c i q=>by rw[dY (fT q d)];exact q
end
def Rd(H:Hp)(a:Addr)(u:HO):Prop:=H a=some u\/∃o,H a=some (.Iw o u)
theorem Rd.ok (r:Rd H a u)(x:yR P w H h):lZ P w H h a u:=by
 rcases r with r |⟨o,r⟩
 ·exact x a u r
 ·obtain⟨_,q⟩:=x a _ r;exact q
def ZH:Option HO->Prop
 |some (.lst _)=>True
 |some (.dK _)=>True
 |some (.dT _)=>True
 |some (.set _ _)=>True
 |some (.ins _ _ _)=>True
 |some (.ext _)=>True
 |_=>False
section
variable {P:Program}{w:World}{H:Hp}{h h':Heap}{x e:Addr}{o':HO}
theorem yR.write(ok:yR P w H h)(i:ZH (H x))(s:e=x\/H e=some (.own x))(k:∀b u,b≠e->h.get? b=some u->h'.get? b=some u)(n:∃u,h'.get? e=some u)
  (new:lZ P w (upd H x o') h' x o'):yR P w (upd H x o') h':=fun b u q=>by
 have A:∀c y,H c=some (.own y)->c≠x:=fun c y r z=>by subst z;rw[r] at i;exact i
 have t:∀c l,H c=some (.tup l)->c≠x:=fun c l r z=>by subst z;rw[r] at i;exact i
 by_cases f:b=x
 ·subst f;rw[dj] at q;cases q;exact new
 ·rw[dY f] at q;by_cases d:b=e
  ·have a:H b=some (.own x):=by
    rcases s with z |z
    ·exact absurd (d.trans z) f
    ·rw[d];exact z
   rw[q] at a;cases a;obtain⟨v,p⟩:=n;exact⟨v,by rw[d];exact p⟩
  ·refine(ok b u q).Ml (fun c v B r=>k c v ?_ r) (fun c r=>by rw[dY (A c b r)];exact r) fun c l r=>by rw[dY (t c l r)];exact r
   rcases B with rfl |B
   ·exact d
   ·rintro rfl;rcases s with z |z
    ·exact A c b B z
    ·rw[B] at z;cases z;exact f rfl
end
structure Un(fs ex:List Addr)(H H':Hp)(h h':Heap):Prop where
 keep:∀b o,h.get? b=some o->H b=none->b∉fs->b∉ex->h'.get? b=some o
 slot:∀b o,h.get? b=some o->H b=none->b∈fs->b∉ex->∃sl,h'.get? b=some {o with slots:=sl}
 free:∀b o,h.get? b=some o->H b=none->b∉ex->H' b=none
 there:∀b o,h.get? b=some o->b∉ex->∃o',h'.get? b=some o'
 Kj:∀b xs,H b=some (.tup xs)->H' b=some (.tup xs)
 Iy:∀b o u,H b=some (.Iw o u)->H' b=some (.Iw o u)
 Kk:∀b ps,H b=some (.WU ps)->∃more,H' b=some (.WU (ps ++ more))
section
variable {fs fs' ex ex':List Addr}{H H1 H2:Hp}{h h1 h2 h':Heap}{a x e:Addr}{o:HO}
theorem Un.any (u:Un fs ex H H1 h h1)(q:h.get? b=some d)(n:H b=none)(A:b∉ex):∃i,h1.get? b=some {d with slots:=i}:=by
 by_cases l:b∈fs
 ·exact u.slot b d q n l A
 ·exact⟨d.slots,u.keep b d q n l A⟩
theorem Un.kept(k:∀b u,h.get? b=some u->h'.get? b=some u):Un fs ex H H h h':=
 ⟨fun b d q _ _ _=>k b d q,fun b d q _ _ _=>⟨d.slots,k b d q⟩,fun _ _ _ n _=>n,fun b d q _=>⟨d,k b d q⟩,fun _ _ q=>q,fun _ _ _ q=>q,fun _ A q=>⟨#[],by rw[q];simp⟩⟩
theorem Un.refl:Un fs ex H H h h:=Un.kept fun _ _ q=>q
theorem Un.laid(k:∀b u,h.get? b=some u->h'.get? b=some u)(A:h.objs.size<=a)(d:H a=none):Un fs ex H (upd H a o) h h' where
 keep:=fun b u q _ _ _=>k b u q
 slot:=fun b u q _ _ _=>⟨u.slots,k b u q⟩
 free:=fun b u q n _=>by rw[dY (bN (a8 (Heap.lt_size q) A))];exact n
 there:=fun b u q _=>⟨u,k b u q⟩
 Kj:=fun b l q=>by rw[dY (fT q d)];exact q
 Iy:=fun b u l q=>by rw[dY (fT q d)];exact q
 Kk:=fun b i q=>⟨#[],by rw[dY (fT q d),q];simp⟩
theorem Un.write(d:ZH (H x))(t:e=x\/H e=some (.own x))(k:∀b u,b≠e->h.get? b=some u->h'.get? b=some u)(B:∃u,h'.get? e=some u):Un fs ex H (upd H x o) h h':=by
 have i:∀b,H b=none->b≠x:=fun b n z=>by subst z;rw[n] at d;exact d
 have f:∀b,H b=none->b≠e:=fun b n z=>by
  subst z;rcases t with r |r
  ·exact i b n r
  ·rw[n] at r;cases r
 have l:∀b u,H b=some u->¬ZH (some u)->b≠x:=fun b u q v z=>by subst z;rw[q] at d;exact v d
 refine⟨fun b u q n _ _=>k b u (f b n) q,fun b u q n _ _=>⟨u.slots,k b u (f b n) q⟩,fun b u q n _=>by rw[dY (i b n)];exact n,fun b u q _=> ?_,
  fun b w q=>by rw[dY (l b _ q fun z=>z)];exact q,fun b u w q=>by rw[dY (l b _ q fun z=>z)];exact q,fun b s q=>⟨#[],by rw[dY (l b _ q fun z=>z),q];simp⟩⟩
 by_cases A:b=e
 ·subst A;exact B
 ·exact⟨u,k b u A q⟩
end
noncomputable def ZI(h:Heap)(H:Hp):List Addr:=(List.range h.objs.size).filter fun a=>(H a).isSome
def Gh(h:Heap)(H:Hp):Heap:=PySem.W.hideAll h (ZI h H)
theorem Qo (h)(H):(Gh h H).objs.size=h.objs.size:=PySem.W.hideAll_size _ _
theorem RU (e:h.get? b=some o)(n:H b=none):(Gh h H).get? b=some o:=
 PySem.W.hideAll_get _ e fun d=>by
  have q:(H b).isSome=true:=(b9.mp d).2;rw[n] at q;simp at q
theorem UW (e:(Gh h H).get? b=some o):h.get? b=some o/\H b=none:=by
 have d:h.get? b=some o:=PySem.W.of_hideAll (ZI h H) e;refine⟨d,?_⟩;cases q:H b with
 |none=>rfl
 |some x=>
  have A:b∈ZI h H:=b9.mpr ⟨aY.mpr (Heap.lt_size d),by simp[q]⟩;have z:(Gh h H).get? b=none:=PySem.W.hideAll_none (ZI h H) A;rw[z] at e;cases e
structure Mod(K:PySem.W.Frag)(mg:Str->Option Value)(base:Heap):Prop where
 Yu:K.In base
 glob:base.Ns mainGlobals mg
 blt:∃mb,base.Ns builtinsNs mb/\∀x:Str,x≠"__name__"->mb x=bootBuiltins x
 nolimit:base.NoLimit
structure Cx where
 prog:Program
 w:World
 K:PySem.W.Frag
 mg:Str->Option Value
 base:Heap
 A:Around
 N:List Str
 Hc:Shared
 Yv:Hp
 env:Env
 outer:List Env
 stack:List Env
 ex:List Addr
 fn:Str->Bool
 calm:Bool
 pn:List (Addr×Obj)
 xe:Value->Shared->Prop
noncomputable def RV(l:List Env):List Addr:=l.filterMap (·.frame)
abbrev Cx.fs(X:Cx):List Addr:=RV X.outer
def Yf(d:Scope)(x:Str):Prop:=d.names.lookup x=some .local\/d.names.lookup x=some .cell\/d.names.lookup x=some .free
def Loc(d:Scope)(x:Str):Prop:=d.names.lookup x=some .local\/d.names.lookup x=some .cell
def Look(env:Env)(h:Heap)(m:Str->Option Value)(x:Str)(u:Value):Prop:=
 (env.kindOf x=some .local/\m x=some u)\/((env.kindOf x=some .cell\/env.kindOf x=some .free)/\∃c,env.cells.lookup x=some c/\h.IsCell c (some u))
structure Cx.Ok(X:Cx):Prop where
 mod:Mod X.K X.mg X.base
 kind:X.env.scope.kind= .function
 glob:X.env.globals=mainGlobals
 blt:X.env.builtins=builtinsNs
 above:X.Hc.heap.objs.size<=X.env.locals
 inj:∀x y c,X.env.cells.lookup x=some c->X.env.cells.lookup y=some c->x=y
 has:∀x,(X.env.kindOf x=some .cell\/X.env.kindOf x=some .free)->∃c,X.env.cells.lookup x=some c
 Yw:∀x c,X.fn x=true->X.env.cells.lookup x=some c->X.Hc.heap.objs.size<=c
 hd:X.calm=true->X.A.handled=none
 frames:X.A.frames=some X.stack
 WX:X.stack=X.outer\/(X.stack=X.env::X.outer/\X.env.frame=some X.env.locals)
 ZJ:∀b∈X.ex,b≠X.env.locals/\∀x c,X.env.cells.lookup x=some c->c≠b
 bs:∀b o,X.base.get? b=some o->X.Hc.heap.get? b=some o/\X.Yv b=none
 UX:X.base.objs.size<=X.Hc.heap.objs.size
 RW:∀b o,X.base.get? b=some o->b∉X.ex
 RX:∀b∈X.ex,b∉X.fs
 CI:X.Hc.heap.FunFrames X.base X.outer
 WY:∀b∈X.fs,X.Yv b=none
structure Inv(X:Cx)(pins:List (Addr×Obj))(σ:List (Option V))(H:Hp)(s:Shared):Prop where
 ok:X.Ok
 os:s.os=X.Hc.os
 bare:AllBare s.gens
 base:Un X.fs X.ex X.Yv H X.Hc.heap s.heap
 loc:∃m,s.heap.Ns X.env.locals m/\∀(i:Nat) (x:Str) (v:V),X.N[i]? =some x->σ[i]? =some (some v)->Yf X.env.scope x->∃u,RelV v u/\Look X.env s.heap m x u
 cell:∀x c,X.env.cells.lookup x=some c->∃v,s.heap.IsCell c v
 free:H X.env.locals=none
 uX:∀x c,X.env.cells.lookup x=some c->H c=none
 pin:∀p∈X.pn ++ pins,s.heap.get? p.1=some p.2/\H p.1=none/\p.1≠X.env.locals/\p.1∉X.fs/\∀v,p.2.data≠.cell v
 i9:yR X.prog X.w H s.heap
 len:σ.length=X.N.length
section
variable {X:Cx}{pins:List (Addr×Obj)}{σ:List (Option V)}{H H':Hp}{s:Shared}{h':Heap}
theorem Cx.Ok.ZS (ok:X.Ok)(e:X.base.get? b=some o):b∉X.fs:=fun d=>by
 have:=(ok.CI.mem d).1;rw[e] at this;cases this
theorem Inv.bs(I:Inv X pins σ H s):∀b o,X.base.get? b=some o->s.heap.get? b=some o/\H b=none:=fun b o e=>
 ⟨I.base.keep b o (I.ok.bs b o e).1 (I.ok.bs b o e).2 (I.ok.ZS e) (I.ok.RW b o e),I.base.free b o (I.ok.bs b o e).1 (I.ok.bs b o e).2 (I.ok.RW b o e)⟩
theorem Inv.bk(I:Inv X pins σ H s):∀b o,X.base.get? b=some o->s.heap.get? b=some o:=fun b o e=>(I.bs b o e).1
theorem Inv.mod(I:Inv X pins σ H s):Mod X.K X.mg X.base:=I.ok.mod
theorem Inv.RO(I:Inv X pins σ H s):X.K.In s.heap:=I.ok.mod.Yu.keeps I.bk
theorem Inv.nolimit(I:Inv X pins σ H s):s.heap.NoLimit:=I.ok.mod.nolimit.keeps I.bk
theorem Inv.lt(I:Inv X pins σ H s):X.env.locals<s.heap.objs.size:=by obtain⟨_,d,_⟩:=I.loc;exact d.lt
theorem Inv.sz(I:Inv X pins σ H s):X.Hc.heap.objs.size<=s.heap.objs.size:=aB I.ok.above (cI I.lt)
theorem Inv.ZT(I:Inv X pins σ H s){a:Addr}(h:s.heap.objs.size<=a):a∉X.fs:=fun A=>by
 obtain⟨_,o,d,_⟩:=I.ok.CI.mem A;exact absurd (a8 (Heap.lt_size d) (aB I.sz h)) (b6 _)
theorem Inv.UY(I:Inv X pins σ H s):∀x c,X.env.cells.lookup x=some c->c≠X.env.locals:=fun x c e z=>by
 obtain⟨v,o,l,d⟩:=I.cell x c e;obtain⟨m,⟨B,f,k,A,i,_⟩,_⟩:=I.loc;rw[z,A] at l;cases l;rw[i] at d;cases d
theorem Inv.CI(I:Inv X pins σ H s):s.heap.FunFrames X.base X.outer:=by
 have all:∀(l:List Env),(∀b∈RV l,b∈X.fs)->X.Hc.heap.FunFrames X.base l->s.heap.FunFrames X.base l:=by
  intro l;induction l with
  |nil=>intro _ _;trivial
  |cons env r v=>
   intro f k;obtain⟨t,⟨L,o,i,B,h,x⟩,w⟩:=k;have d:L∈X.fs:=f L (by unfold RV;rw[c4,i];exact aC);obtain⟨q,e⟩:=I.base.slot L o h (I.ok.WY L d) d fun z=>I.ok.RX L z d;exact⟨t,⟨L,_,i,B,e,x⟩,v (fun b A=>f b (by unfold RV;rw[c4,i];exact ao _ A)) w⟩
 exact all X.outer (fun _ A=>A) I.ok.CI
theorem Inv.stack(I:Inv X pins σ H s):s.heap.FunFrames X.base X.stack:=by
 rcases I.ok.WX with e |⟨e,A⟩
 ·rw[e];exact I.CI
 ·rw[e];obtain⟨m,d,_⟩:=I.loc;refine .cons (by rw[I.ok.kind];decide) A d ?_ I.CI;exact Heap.get?_none_of_le (aB I.ok.UX I.ok.above)
theorem Inv.Mm(I:Inv X pins σ H s):∀b∈RV X.stack,b∈X.env.locals::X.fs:=fun b d=>by
 rcases I.ok.WX with e |⟨e,A⟩
 ·rw[e] at d;exact ao _ d
 ·rw[e] at d;unfold RV at d;rw[c4,A] at d;exact d
theorem Inv.Ov(I:Inv X pins σ H s):∀b∈RV X.stack,H b=none:=fun b d=>by
 rcases aL.mp (I.Mm b d) with e |d
 ·rw[e];exact I.free
 ·obtain⟨_,o,A,_⟩:=I.ok.CI.mem d;exact I.base.free b o A (I.ok.WY b d) fun z=>I.ok.RX b z d
theorem Inv.step {ch:List Addr}(I:Inv X pins σ H s)(t:∀b∈ch,(b∈X.ex\/X.Hc.heap.objs.size<=b)/\b≠X.env.locals/\(∀x c,X.env.cells.lookup x=some c->c≠b)/\∀p∈X.pn ++ pins,p.1≠b)(keep:∀b o,b≠X.env.locals->b∉X.fs->b∉ch->s.heap.get? b=some o->H b=none->h'.get? b=some o)(slot:∀b o,b≠X.env.locals->b∈X.fs->b∉ch->s.heap.get? b=some o->H b=none->∃P,h'.get? b=some {o with slots:=P})(free:∀b o,b∉ch->s.heap.get? b=some o->H b=none->H' b=none)(there:∀b o,b∉ch->s.heap.get? b=some o->∃y,h'.get? b=some y)(g:∀b B,H b=some (.tup B)->H' b=some (.tup B))(K:∀b o u,H b=some (.Iw o u)->H' b=some (.Iw o u))(D:∀b ps,H b=some (.WU ps)->∃more,H' b=some (.WU (ps ++ more)))(W:∀m,s.heap.Ns X.env.locals m->h'.Ns X.env.locals m)(i9:yR X.prog X.w H' h')(J:AllBare g'):
  Inv X pins σ H' {s with heap:=h',gens:=g',drawn:=d',toks:=t'}:=by
 have F:∀b o,X.Hc.heap.get? b=some o->b≠X.env.locals:=fun b o e=>bN (a8 (Heap.lt_size e) I.ok.above);have S:∀b o,X.Hc.heap.get? b=some o->b∉X.ex->b∉ch:=fun b o e A a=>by
  rcases(t b a).1 with z |z
  ·exact A z
  ·exact absurd (a8 (Heap.lt_size e) z) (b6 _)
 have cellK:∀x c,X.env.cells.lookup x=some c->∀v,s.heap.IsCell c v->h'.IsCell c v:=fun x c e v ⟨o,C,L⟩=>by
  have h:c∉ch:=fun z=>(t c z).2.2.1 x c e rfl;by_cases E:c∈X.fs
  ·obtain⟨P,q⟩:=slot c o (I.UY x c e) E h C (I.uX x c e);exact⟨_,q,L⟩
  ·exact⟨o,keep c o (I.UY x c e) E h C (I.uX x c e),L⟩
 refine⟨I.ok,I.os,J,⟨fun b o e n a A=> ?_,fun b o e n a A=> ?_,fun b o e n A=> ?_,fun b o e A=> ?_,fun b B e=>g b B (I.base.Kj b B e),fun b o B e=>K b o B (I.base.Iy b o B e),fun b ps e=> ?_⟩,?_,fun x c e=> ?_,?_,fun x c e=> ?_,fun p Q=> ?_,i9,I.len⟩
 ·exact keep b o (F b o e) a (S b o e A) (I.base.keep b o e n a A) (I.base.free b o e n A)
 ·obtain⟨P,f⟩:=I.base.slot b o e n a A;obtain⟨N,G⟩:=slot b _ (F b o e) a (S b o e A) f (I.base.free b o e n A);exact⟨N,G⟩
 ·obtain⟨y,f⟩:=I.base.there b o e A;exact free b y (S b o e A) f (I.base.free b o e n A)
 ·obtain⟨y,f⟩:=I.base.there b o e A;exact there b y (S b o e A) f
 ·obtain⟨O,f⟩:=I.base.Kk b ps e;obtain⟨M,G⟩:=D b _ f;exact⟨O ++ M,by rw[G,Array.append_assoc]⟩
 ·obtain⟨m,T,hl⟩:=I.loc;refine⟨m,W m T,fun i x v f G R=> ?_⟩;obtain⟨u,r,l⟩:=hl i x v f G R;refine⟨u,r,?_⟩;rcases l with l |⟨k,c,e,z⟩
  ·exact .inl l
  ·exact .inr ⟨k,c,e,cellK x c e _ z⟩
 ·obtain⟨v,z⟩:=I.cell x c e;exact⟨v,cellK x c e v z⟩
 ·obtain⟨m,⟨o,_,_,C,_⟩,_⟩:=I.loc;exact free _ o (fun z=>(t _ z).2.1 rfl) C I.free
 ·obtain⟨v,o,C,L⟩:=I.cell x c e;exact free c o (fun z=>(t c z).2.2.1 x c e rfl) C (I.uX x c e)
 ·obtain⟨e,n,ne,j,d⟩:=I.pin p Q;have h:p.1∉ch:=fun z=>(t p.1 z).2.2.2 p Q rfl;exact⟨keep p.1 p.2 ne j h e n,free p.1 p.2 h e n,ne,j,d⟩
theorem Inv.un (I:Inv X pins σ H s)(u:Un X.fs [] H H' s.heap h')(B:yR X.prog X.w H' h'):Inv X pins σ H' {s with heap:=h',toks:=t'}:=by
 obtain⟨m,⟨o,t,a,i,r⟩,_⟩:=id I.loc;obtain⟨h,k⟩:=u.any i I.free (by simp);exact I.step (g':=s.gens) (d':=s.drawn) (ch:=[]) (fun _ z=>nomatch z) (fun b o _ A _ e n=>u.keep b o e n A (by simp)) (fun b o _ A _ e n=>u.slot b o e n A (by simp)) (fun b o _ e n=>u.free b o e n (by simp)) (fun b o _ e=>u.there b o e (by simp)) u.Kj u.Iy u.Kk (fun q v=>by
  obtain⟨p,f,l,d,x⟩:=v;rw[i] at d;cases d;exact⟨_,f,l,k,x⟩) B I.bare
theorem Inv.call (I:Inv X pins σ H s)(u:Un (RV X.stack) ch H H' s.heap h')(v:yR X.prog X.w H' h')(q:AllBare g')(l:∀b∈ch,(b∈X.ex\/X.Hc.heap.objs.size<=b)/\b≠X.env.locals/\(∀x c,X.env.cells.lookup x=some c->c≠b)/\∀p∈X.pn ++ pins,p.1≠b):
  Inv X pins σ H' {s with heap:=h',gens:=g',drawn:=d',toks:=t'}:=by
 obtain⟨m,⟨o,C,G,B,r⟩,_⟩:=id I.loc;obtain⟨S,i⟩:=u.any B I.free fun z=>(l _ z).2.1 rfl;exact I.step (ch:=ch) l (fun b o i t d e n=>u.keep b o e n (fun z=>(aL.mp (I.Mm b z)).elim i t) d) (fun b o _ _ d e n=>u.any e n d) (fun b o d e n=>u.free b o e n d) (fun b o d e=>u.there b o e d) u.Kj u.Iy u.Kk (fun y a=>by
  obtain⟨F,k,f,A,h⟩:=a;rw[B] at A;cases A;exact⟨_,k,f,i,h⟩) v q
theorem Inv.turned (I:Inv X pins σ H s)(k:∀b o,b≠d->s.heap.get? b=some o->h'.get? b=some o)(f:H d=none)(i:d≠X.env.locals)(h:d∈X.ex\/X.Hc.heap.objs.size<=d)(t:∀x c,X.env.cells.lookup x=some c->c≠d)(w:∀p∈X.pn ++ pins,p.1≠d):Inv X pins σ H {s with heap:=h',toks:=t'}:=by
 have l:∀b u,H b=some u->b≠d:=fun b u e z=>by rw[z,f] at e;cases e
 refine I.step (g':=s.gens) (d':=s.drawn) (ch:=[d]) (fun b a=> ?_) (fun b o _ _ A e _=>k b o (fun z=>A (by simp[z])) e) (fun b o _ _ A e _=>⟨o.slots,k b o (fun z=>A (by simp[z])) e⟩) (fun _ _ _ _ n=>n)
  (fun b o A e=>⟨o,k b o (fun z=>A (by simp[z])) e⟩) (fun _ _ e=>e) (fun _ _ _ e=>e) (fun b G e=>⟨#[],by rw[e];simp⟩) (fun m C=> ?_) (fun b u e=> ?_) I.bare
 ·have e:b=d:=by simpa using a
  subst e;exact⟨h,i,t,w⟩
 ·obtain⟨o,B,y,S,r⟩:=C;exact⟨o,B,y,k _ o (b5 i) S,r⟩
 ·refine(I.i9 b u e).Ml (fun c v A q=>k c v ?_ q) (fun _ q=>q) fun _ _ q=>q;rcases A with z |z
  ·rw[z];exact l b u e
  ·exact l c _ z
theorem Inv.tok (I:Inv X pins σ H s)(t):Inv X pins σ H {s with toks:=t}:=I.un (h':=s.heap) (t':=t) Un.refl I.i9
theorem Inv.kept (I:Inv X pins σ H s)(k:∀b u,s.heap.get? b=some u->h'.get? b=some u):Inv X pins σ H {s with heap:=h',toks:=t'}:=I.un (Un.kept k) (I.i9.kept k)
theorem Inv.laid {a:Addr}(I:Inv X pins σ H s)(k:∀b u,s.heap.get? b=some u->h'.get? b=some u)(d:s.heap.objs.size<=a)(new:lZ X.prog X.w (upd H a o) h' a o):
  Inv X pins σ (upd H a o) {s with heap:=h',toks:=t'}:=I.un (Un.laid k d (I.i9.fresh d)) (I.i9.laid k d new)
theorem Inv.write (I:Inv X pins σ H s)(l:ZH (H x))(A:e=x\/H e=some (.own x))(k:∀b u,b≠e->s.heap.get? b=some u->h'.get? b=some u)(d:∃u,h'.get? e=some u)(new:lZ X.prog X.w (upd H x o) h' x o):Inv X pins σ (upd H x o) {s with heap:=h',toks:=t'}:=I.un (Un.write l A k d) (I.i9.write l A k d new)
theorem Inv.weak (I:Inv X pins σ H s)(f:σ'.length=σ.length)(w:∀(i:Nat) v,σ'[i]? =some (some v)->σ[i]? =some (some v)):Inv X pins σ' H s:=
 ⟨I.ok,I.os,I.bare,I.base,let ⟨m,A,d⟩:=I.loc;⟨m,A,fun i x v B l k=>d i x v B (w i v l) k⟩,I.cell,I.free,I.uX,I.pin,I.i9,f.trans I.len⟩
theorem Inv.Ow (I:Inv X pins σ H s)(h:∀p∈d,s.heap.get? p.1=some p.2/\H p.1=none/\p.1≠X.env.locals/\p.1∉X.fs/\∀v,p.2.data≠.cell v):Inv X d σ H s:=
 ⟨I.ok,I.os,I.bare,I.base,I.loc,I.cell,I.free,I.uX,fun p A=>(aX.mp A).elim (fun z=>I.pin p (List.mem_append_left _ z)) (h p),I.i9,I.len⟩
theorem DJ {N:List Str}(l:N.Nodup){j:Nat}(a:N[i]? =some x)(b:N[j]? =some x):i=j:=by
 obtain⟨f,A⟩:=bD.mp a;obtain⟨B,d⟩:=bD.mp b;exact(List.getElem_inj l).mp (A.trans d.symm)
theorem Hd (I:Inv X pins σ H s)(hN:X.N.Nodup)(hi:X.N[i]? =some x)(t:Loc X.env.scope x)(r:RelV v u)(h:∀s',Inv X pins (σ.set i (some v)) H s'->(∃a,Heap.SameBut a s.heap s'.heap/\(a=X.env.locals\/X.env.cells.lookup x=some a))->Q () s')(hf:X.fn x=true\/X.env.scope.names.lookup x=some .local:=by first |exact .inl rfl |exact .inr rfl |assumption):wpAny M A (storeName X.env x u) Q E s:=by
 obtain⟨m,hn,hl⟩:=id I.loc;have O:(X.env.scope.kind== .class ||(X.env.scope.kind== .module&&X.env.locals !=X.env.globals))=false:=by rw[I.ok.kind];rfl
 have g:i<σ.length:=by rw[I.len];exact(bD.mp hi).1
 have UY:=I.UY;have tracked:∀{a:Addr} {h':Heap},(∃o,s.heap.get? a=some o/\H a=none)->Heap.SameBut a s.heap h'->yR X.prog X.w H h':=fun{a h'} ha l b ob e=>by
  obtain⟨_,_,P⟩:=ha;refine(I.i9 b ob e).Ml (fun c K B q=>(l.2 c ?_).trans q) (fun _ q=>q) fun _ _ q=>q;rintro rfl;rcases B with rfl |B
  ·rw[P] at e;cases e
  ·rw[P] at B;cases B
 rcases t with C |C
 ·refine wpAny_storeName_local C hn (fun h' ab l=> ?_) O;obtain⟨oL,_,_,ac,_⟩:=id hn;refine h _ ⟨I.ok,I.os,I.bare,⟨fun b o e n F t=> ?_,fun b o e n F t=> ?_,I.base.free,fun b o e t=> ?_,I.base.Kj,I.base.Iy,I.base.Kk⟩,⟨_,ab,fun j y T f S e3=> ?_⟩,fun y c e=> ?_,I.free,I.uX,fun p hp=> ?_,tracked ⟨oL,ac,I.free⟩ l,by simpa using I.len⟩ ⟨_,l,.inl rfl⟩
  ·exact(l.2 b (bN (a8 (Heap.lt_size e) I.ok.above))).trans (I.base.keep b o e n F t)
  ·obtain⟨sl,f⟩:=I.base.slot b o e n F t;exact⟨sl,(l.2 b (bN (a8 (Heap.lt_size e) I.ok.above))).trans f⟩
  ·obtain⟨o',f⟩:=I.base.there b o e t;exact⟨o',(l.2 b (bN (a8 (Heap.lt_size e) I.ok.above))).trans f⟩
  ·by_cases G:j=i
   ·subst G;rw[hi] at f;cases f;rw[List.getElem?_set_self g] at S;cases S;exact⟨u,r,.inl ⟨C,by simp⟩⟩
   ·rw[List.getElem?_set_ne (b5 G)] at S;obtain⟨u',r',q⟩:=hl j y T f S e3;refine⟨u',r',?_⟩;rcases q with⟨k,e⟩ |⟨k,c,e,z⟩
    ·refine .inl ⟨k,?_⟩;have:y≠x:=fun e=>G (DJ hN f (e▸hi));simp[this,e]
    ·exact .inr ⟨k,c,e,z.sameBut l (UY y c e)⟩
  ·obtain⟨K,z⟩:=I.cell y c e;exact⟨K,z.sameBut l (UY y c e)⟩
  ·obtain⟨e,n,ne,nf,d⟩:=I.pin p hp;exact⟨(l.2 p.1 ne).trans e,n,ne,nf,d⟩
 ·have L:X.fn x=true:=by
   rcases hf with z |z
   ·exact z
   ·rw[z] at C;cases C
  obtain⟨c,B⟩:=I.ok.has x (.inl C);obtain⟨K,z⟩:=I.cell x c B;refine wpAny_storeName_cell I.ok.kind C B z (fun h' W l=> ?_);obtain⟨oc,J,aa⟩:=id z;refine h {s with heap:=h'} ⟨I.ok,I.os,I.bare,⟨fun b o e n F t=> ?_,fun b o e n F t=> ?_,I.base.free,fun b o e t=> ?_,I.base.Kj,I.base.Iy,I.base.Kk⟩,⟨m,hn.sameBut l (b5 (UY x c B)),fun j y T f S e3=> ?_⟩,fun y D e=> ?_,I.free,I.uX,fun p hp=> ?_,tracked ⟨oc,J,I.uX x c B⟩ l,by simpa using I.len⟩ ⟨c,l,.inr B⟩
  ·exact(l.2 b (bN (a8 (Heap.lt_size e) (I.ok.Yw x c L B)))).trans (I.base.keep b o e n F t)
  ·obtain⟨sl,f⟩:=I.base.slot b o e n F t;exact⟨sl,(l.2 b (bN (a8 (Heap.lt_size e) (I.ok.Yw x c L B)))).trans f⟩
  ·obtain⟨o',f⟩:=I.base.there b o e t;exact⟨o',(l.2 b (bN (a8 (Heap.lt_size e) (I.ok.Yw x c L B)))).trans f⟩
  ·by_cases G:j=i
   ·subst G;rw[hi] at f;cases f;rw[List.getElem?_set_self g] at S;cases S;exact⟨u,r,.inr ⟨.inl C,c,B,W⟩⟩
   ·rw[List.getElem?_set_ne (b5 G)] at S;obtain⟨u',r',q⟩:=hl j y T f S e3;refine⟨u',r',?_⟩;rcases q with q |⟨k,D,e,z'⟩
    ·exact .inl q
    ·refine .inr ⟨k,D,e,z'.sameBut l ?_⟩;rintro rfl;exact G (DJ hN f (I.ok.inj _ _ _ e B▸hi))
  ·by_cases R:D=c
   ·subst R;exact⟨_,W⟩
   ·obtain⟨w2,z2⟩:=I.cell y D e;exact⟨w2,z2.sameBut l R⟩
  ·obtain⟨e,n,ne,nf,d⟩:=I.pin p hp;refine⟨(l.2 p.1 ?_).trans e,n,ne,nf,d⟩;intro q;rw[q,J] at e;have q':oc=p.2:=bf e;exact d K (by rw[<-q'];exact aa)
theorem DL (I:Inv X pins σ H s)(k:X.N.Nodup)(hi:X.N[i]? =some x)(B:Loc X.env.scope x)(r:RelV v u)(h:∀d,Inv X pins (σ.set i (some v)) H d->Q () d)(l:X.fn x=true\/X.env.scope.names.lookup x=some .local:=by first |exact .inl rfl |exact .inr rfl |assumption):wpAny M A (storeName X.env x u) Q E s:=
 Hd I k hi B r (fun d f _=>h d f) l
theorem Inv.Yx (I:Inv X pins σ H s)(k:d.os=s.os)(u:Un (RV X.stack) ch H H' s.heap d.heap)(B:yR X.prog X.w H' d.heap)(v:AllBare d.gens)(i:∀b∈ch,(b∈X.ex\/X.Hc.heap.objs.size<=b)/\b≠X.env.locals/\(∀x c,X.env.cells.lookup x=some c->c≠b)/\∀p∈X.pn ++ pins,p.1≠b):Inv X pins σ H' d:=by
 obtain⟨h',f,l,A,h⟩:=d;have e:h=s.os:=k;subst e;exact I.call (g':=f) (t':=A) (d':=l) u B v i
end
abbrev XK:=Value->Option Addr->Hp->Prop
abbrev St:=List (Option V)
abbrev VK:=V->Hp->Prop
abbrev TE:=St->Hp->VK->Prop
abbrev TT:=St->Hp->(Bool->Hp->Prop)->Prop
abbrev TA:=St->Hp->(List V->Hp->Prop)->Prop
structure Ends where
 nx:St->Hp->Prop
 rt:VK
 bk:St->Hp->Prop:=fun _ _=>False
 ct:St->Hp->Prop:=fun _ _=>False
abbrev TS:=Ends->St->Hp->Prop
def EP(X:Cx)(pins:List (Addr×Obj))(σ:St)(Q:VK)(u:Value)(A:Shared):Prop:=∃v d,Inv X pins σ d A/\RelV v u/\Q v d
def TP(X:Cx)(pins:List (Addr×Obj))(σ:St)(Q:Bool->Hp->Prop)(b:Bool)(A:Shared):Prop:=∃d,Inv X pins σ d A/\Q b d
def AP(X:Cx)(pins:List (Addr×Obj))(σ:St)(Q:List V->Hp->Prop)(i:List Value)(l:Shared):Prop:=∃d A,Inv X pins σ A l/\Vals d i/\Q d A
def SP(X:Cx)(pins:List (Addr×Obj))(D:Ends)(f:Flow)(A:Shared):Prop:=
 match f with
 | .next=>∃σ' d,Inv X pins σ' d A/\D.nx σ' d
 | .brk=>∃σ' d,Inv X pins σ' d A/\D.bk σ' d
 | .cont=>∃σ' d,Inv X pins σ' d A/\D.ct σ' d
 | .ret u=>∃v σ' d,Inv X pins σ' d A/\RelV v u/\D.rt v d
def PE(X:Cx)(e:Expr)(t:TE):Prop:=
 ∀(pins:List (Addr×Obj)) (s:Shared) (σ:St) (H:Hp) (Q:VK),Inv X pins σ H s->t σ H Q->wpAny (model X.prog X.w) X.A (eval e X.env) (EP X pins σ Q) X.xe s
def PT(X:Cx)(e:Expr)(t:TT):Prop:=
 ∀(pins:List (Addr×Obj)) (s:Shared) (σ:St) (H:Hp) (Q:Bool->Hp->Prop),Inv X pins σ H s->t σ H Q->wpAny (model X.prog X.w) X.A (isTrue e X.env (eval e X.env)) (TP X pins σ Q) X.xe s
def PW(X:Cx)(e:Expr)(t:TT):Prop:=
 ∀(whole:Sem Value) (pins:List (Addr×Obj)) (s:Shared) (σ:St) (H:Hp) (Q:Bool->Hp->Prop),Inv X pins σ H s->t σ H Q->wpAny (model X.prog X.w) X.A (isTrue e X.env whole) (TP X pins σ Q) X.xe s
theorem PW.pt (h:PW X e t):PT X e t:=h _
def PA(X:Cx)(d:List Expr)(t:TA):Prop:=
 ∀(pos:Pos) (pins:List (Addr×Obj)) (s:Shared) (σ:St) (H:Hp) (Q:List V->Hp->Prop),Inv X pins σ H s->t σ H Q->wpAny (model X.prog X.w) X.A (spliced (backTo pos (starEach d X.env))) (AP X pins σ Q) X.xe s
def PS(X:Cx)(st:Stmt)(t:TS):Prop:=
 ∀(pins:List (Addr×Obj)) (s:Shared) (σ:St) (H:Hp) (D:Ends),Inv X pins σ H s->t D σ H->wpAny (model X.prog X.w) X.A (exec st X.env) (SP X pins D) X.xe s
def Mn(X:Cx)(st:List Stmt)(t:TS):Prop:=
 ∀(pins:List (Addr×Obj)) (s:Shared) (σ:St) (H:Hp) (D:Ends),Inv X pins σ H s->t D σ H->wpAny (model X.prog X.w) X.A (execs st X.env) (SP X pins D) X.xe s
theorem iS {d:α->Shared->Prop}(h:wpAny M A t Q E s)(l:∀a s,Q a s->d a s):wpAny M A t d E s:=wpAny_mono h l fun _ _ x=>x
section
variable {X:Cx}
def DN(i:Nat):TE:=fun σ H Q=>∃v,σ[i]? =some (some v)/\Q v H
def tC(v:V):TE:=fun _ H Q=>Q v H
theorem WZ {pos:Pos}(t:X.N[i]? =some x)(w:Yf X.env.scope x)(A:(x==("__debug__":Str))=false:=by decide)(f:(x==("__classdict__":Str))=false:=by decide):PE X (.Name x pos) (DN i):=by
 intro pins s σ H Q I h;obtain⟨v,e,h⟩:=h;obtain⟨m,B,k⟩:=I.loc;obtain⟨u,r,l⟩:=k i x v t e w;have fin:EP X pins σ Q u s:=⟨v,H,I,r,h⟩;rcases l with⟨d,hm⟩ |⟨d,c,hc,hcell⟩
 ·exact wpAny_Name (wpAny_loadName_local I.ok.kind d B hm fin) A
 ·rcases d with d |d
  ·exact wpAny_Name (wpAny_loadName_cell I.ok.kind d hc hcell fin) A
  ·exact wpAny_Name (wpAny_loadName_free I.ok.kind d hc hcell fin f) A
theorem dC{i j pos}:PE X (.Constant (.int i) j pos) (tC (.int i)):=fun _ _ _ H _ I h=>wpAny_Constant_int ⟨.int i,H,I.tok _,⟨_,rfl⟩,h⟩
theorem uY{b j pos}:PE X (.Constant (.bool b) j pos) (tC (.bl b)):=fun _ _ _ H _ I h=>Constant_bool ⟨.bl b,H,I,rfl,h⟩
theorem Iz{j pos}:PE X (.Constant .none j pos) (tC .kY):=fun _ _ _ H _ I h=>Constant_none ⟨.kY,H,I,rfl,h⟩
def Gl(X:Cx)(x:Str):Prop:=X.env.kindOf x=some .globalImplicit
theorem IA {σ:St}(I:Inv X pins σ H s)(l:Gl X x)(d:X.mg x=some u)(h:Q u s)(i:(x==("__debug__":Str))=false:=by decide):wpAny (model X.prog X.w) X.A (eval (.Name x pos) X.env) Q E s:=
 Calls.Name_function_global I.ok.kind l (Calls.loadGlobal_global (by rw[I.ok.glob];exact I.mod.glob.keeps I.bk) d h) i
theorem xu {E:Value->Shared->Prop}{σ:St}{pos:Pos}(I:Inv X pins σ H s)(k:Gl X x)(v:X.mg x=none)(f:bootBuiltins x=some u)(h:Q u s)(d:x≠"__name__":=by decide)(l:(x==("__debug__":Str))=false:=by decide):wpAny (model X.prog X.w) X.A (eval (.Name x pos) X.env) Q E s:=by
 obtain⟨t,i,B⟩:=I.mod.blt;exact Calls.Name_function_global I.ok.kind k (Calls.loadGlobal_builtin (by rw[I.ok.glob];exact I.mod.glob.keeps I.bk) v (by rw[I.ok.blt];exact i.keeps I.bk) ((B x d).trans f) h) l
theorem Ox (A:Gl X x)(d:X.mg x=some u)(r:RelV v u)(l:(x==("__debug__":Str))=false:=by decide):PE X (.Name x pos) (tC v):=
 fun _ _ _ H _ I h=>IA I A d ⟨v,H,I,r,h⟩ l
variable {a b:Expr}{ta tb:TE}{pos:Pos}
def PC(X:Cx)(d:CmpOp)(a b:Expr)(t:TE):Prop:=
 ∀(pins:List (Addr×Obj)) (s:Shared) (σ:St) (H:Hp) (Q:VK),Inv X pins σ H s->t σ H Q->
  wpAny (model X.prog X.w) X.A (eval a X.env) (fun v i=>wpAny (model X.prog X.w) X.A (eval b X.env) (fun u l=>wpAny (model X.prog X.w) X.A (compareOp d v u) (EP X pins σ Q) X.xe l) X.xe i) X.xe s
theorem RY (b)(h:d≠.In)(i:d≠.NotIn):behindInMarks d b=false:=by
 have A:(d==CmpOp.In)=false:=by cases d <;>first |rfl |exact absurd rfl h
 have l:(d==CmpOp.NotIn)=false:=by cases d <;>first |rfl |exact absurd rfl i
 cases b <;>simp[behindInMarks,A,l]
def ZU(ta:TE):TE:=fun σ H Q=>ta σ H fun x d=>Q (.bl (decide (x= .kY))) d
def Yy(ta:TE):TE:=fun σ H Q=>ta σ H fun x d=>Q (.bl (!decide (x= .kY))) d
theorem RelV.Kl (r:RelV x v):(v==Value.none)=decide (x= .kY):=by
 cases x with
 |kY=>cases r;rfl
 |bl _=>cases r;rfl
 |int _=>obtain⟨t,rfl⟩:=r;rfl
 |str _=>obtain⟨t,rfl⟩:=r;rfl
 |Iv _=>obtain⟨t,rfl⟩:=r;rfl
 |Yt _=>obtain⟨t,rfl⟩:=r;rfl
 |ref _=>cases r;rfl
 |ty _=>cases r;rfl
theorem RZ{j pos'}(i:PE X a ta):PC X .Is a (.Constant .none j pos') (ZU ta):=by
 intro pins s σ H Q I h;refine iS (i pins s σ H _ I h) ?_;rintro v B ⟨x,f,d,l,A⟩;exact Constant_none (is_none_gen ⟨.bl _,f,d,by rw[l.Kl];rfl,A⟩)
theorem UZ{j pos'}(i:PE X a ta):PC X .IsNot a (.Constant .none j pos') (Yy ta):=by
 intro pins s σ H Q I h;refine iS (i pins s σ H _ I h) ?_;rintro v B ⟨x,f,d,l,A⟩;exact Constant_none (isnot_none_gen ⟨.bl _,f,d,by rw[l.Kl];rfl,A⟩)
def tB(t:TE):TT:=fun σ H Q=>t σ H fun x d=>∃c,x= .bl c/\Q c d
theorem Mo (h:PC X A a b t)(l:behindInMarks A b=false:=by first |exact RY _ (by decide) (by decide) |rfl):PT X (.Compare a [A] [b] pos) (tB t):=by
 intro pins s σ H Q I w;refine wpAny_isTrue_Compare1 (iS (h pins s σ H _ I w) fun v p l=>iS l fun u n k=>iS k ?_) l;rintro c r ⟨x,e,i,B,f⟩;obtain⟨d,rfl,q⟩:=f;cases B;exact wpAny_truthy_bool ⟨e,i,q⟩
variable {tA tB':TT}{rest:List Expr}
def ZV(t u:TT):TT:=fun σ H Q=>t σ H fun c d=>if c=true then u σ d Q else Q false d
def tOr(t u:TT):TT:=fun σ H Q=>t σ H fun c d=>if c=true then Q true d else u σ d Q
def ZW(t:TT):TT:=fun σ H Q=>t σ H fun c d=>Q (!c) d
theorem IB(d:PT X a tA):PW X (.BoolOp .And [a] pos) tA:=by
 intro A pins s σ H Q I h;refine isTrue_and (iS (d pins s σ H Q I h) fun c l e=> ?_);cases c with
 |true=>exact isTrue_and_nil e
 |false=>exact e
theorem Mp(d:PT X a tA):PW X (.BoolOp .Or [a] pos) tA:=by
 intro A pins s σ H Q I h;refine isTrue_or (iS (d pins s σ H Q I h) fun c l e=> ?_);cases c with
 |false=>exact isTrue_or_nil e
 |true=>exact e
theorem Mq(k:PT X a tA)(B:PW X (.BoolOp .And (b::rest) pos) tB'):PW X (.BoolOp .And (a::b::rest) pos) (ZV tA tB'):=by
 intro i pins s σ H Q I h;refine isTrue_and (iS (k pins s σ H _ I h) ?_);rintro c f ⟨l,d,A⟩;cases c with
 |true=>exact B i pins f σ l Q d A
 |false=>exact⟨l,d,A⟩
theorem Oy(k:PT X a tA)(B:PW X (.BoolOp .Or (b::rest) pos) tB'):PW X (.BoolOp .Or (a::b::rest) pos) (tOr tA tB'):=by
 intro i pins s σ H Q I h;refine isTrue_or (iS (k pins s σ H _ I h) ?_);rintro c f ⟨l,d,A⟩;cases c with
 |true=>exact⟨l,d,A⟩
 |false=>exact B i pins f σ l Q d A
theorem oB(d:PT X a tA):PT X (.UnaryOp .Not a pos) (ZW tA):=by
 intro pins s σ H Q I h;exact isTrue_not (d pins s σ H (fun c A=>Q (!c) A) I h)
def Yz(ta tb:TE):TE:=fun σ H Q=>ta σ H fun x d=>∃c,x= .bl c/\if c=true then tb σ d Q else Q (.bl false) d
def ZX(ta tb:TE):TE:=fun σ H Q=>ta σ H fun x d=>∃c,x= .bl c/\if c=true then Q (.bl true) d else tb σ d Q
theorem IC {op}(h:PE X a t):PE X (.BoolOp op [a] pos) t:=fun pins s σ H Q I d=>BoolOp_one (h pins s σ H Q I d)
theorem Mr(k:PE X a ta)(B:PE X (.BoolOp .And (b::rest) pos) tb):PE X (.BoolOp .And (a::b::rest) pos) (Yz ta tb):=by
 intro pins s σ H Q I h;refine BoolOp_and (iS (k pins s σ H _ I h) ?_);rintro v f ⟨x,l,A,i,d⟩;obtain⟨c,rfl,d⟩:=d;cases i;refine wpAny_truthy_bool ?_;cases c with
 |true=>exact B pins f σ l Q A d
 |false=>exact⟨.bl false,l,A,rfl,d⟩
theorem YA(k:PE X a ta)(B:PE X (.BoolOp .Or (b::rest) pos) tb):PE X (.BoolOp .Or (a::b::rest) pos) (ZX ta tb):=by
 intro pins s σ H Q I h;refine BoolOp_or (iS (k pins s σ H _ I h) ?_);rintro v f ⟨x,l,A,i,d⟩;obtain⟨c,rfl,d⟩:=d;cases i;refine wpAny_truthy_bool ?_;cases c with
 |false=>exact B pins f σ l Q A d
 |true=>exact⟨.bl true,l,A,rfl,d⟩
def tIf(t:TT)(ta tb:TE):TE:=fun σ H Q=>t σ H fun c d=>if c=true then ta σ d Q else tb σ d Q
theorem jQ (k:PT X c tA)(x:PE X a ta)(B:PE X b tb):PE X (.IfExp c a b pos) (tIf tA ta tb):=by
 intro pins s σ H Q I h;refine wpAny_IfExp (iS (k pins s σ H _ I h) ?_);rintro d i ⟨f,A,l⟩;cases d with
 |true=>exact x pins i σ f Q A l
 |false=>exact B pins i σ f Q A l
end
def oK(K:PySem.W.Frag)(H:Hp)(a:Addr)(A:List V):Prop:=
 Rd H a (.lst A)\/
  ∃(o:Obj) (d:Array Value) (n:Nat),K.lookup a=some o/\o.cls= .type "list"/\o.dict=none/\o.data= .seq d n/\d.size<=sizeLine/\Vals A d.toList
def Ge(K:PySem.W.Frag)(H:Hp)(a:Addr)(A:List V):Prop:=
 Rd H a (.tup A)\/
  ∃(o:Obj) (d:Array Value) (n:Nat),K.lookup a=some o/\o.cls= .type "tuple"/\o.data= .seq d n/\d.size<=sizeLine/\Vals A d.toList
noncomputable def ZY:Value->Option V
 | .none=>some .kY
 | .bool b=>some (.bl b)
 | .int i _=>some (.int i)
 | .str x _=>some (.str x)
 | .bytes b _=>some (.Iv b)
 | .float b _=>some (.Yt b)
 | .ref a=>some (.ref a)
 | .type n=>some (.ty n)
 |_=>none
theorem RelV.abs (r:RelV x u):ZY u=some x:=by
 cases x with
 |kY=>cases r;rfl
 |bl _=>cases r;rfl
 |int _=>obtain⟨t,rfl⟩:=r;rfl
 |str _=>obtain⟨t,rfl⟩:=r;rfl
 |Iv _=>obtain⟨t,rfl⟩:=r;rfl
 |Yt _=>obtain⟨t,rfl⟩:=r;rfl
 |ref _=>cases r;rfl
 |ty _=>cases r;rfl
theorem RelV.inj (r:RelV x u)(q:RelV y u):x=y:=bf (r.abs.symm.trans q.abs)
theorem Vals.inj (h:Vals d A)(g:Vals l A):d=l:=by
 induction h generalizing l with
 |nil=>cases g;rfl
 |cons r _ t=>cases g with |cons i f=>rw[r.inj i,t f]
section
variable {X:Cx}{pins:List (Addr×Obj)}{σ:St}{H:Hp}{s:Shared}{a:Addr}{xs ys:List V}
theorem oK.of{K:PySem.W.Frag}(h:H a=some (.lst xs)):oK K H a xs:= .inl (.inl h)
theorem Ge.of{K:PySem.W.Frag}(h:H a=some (.tup xs)):Ge K H a xs:= .inl (.inl h)
theorem Inv.list(I:Inv X pins σ H s)(h:oK X.K H a xs):∃d:List Value,Vals xs d/\PlainL s.heap a d.toArray/\xs.length<=sizeLine:=by
 rcases h with h |⟨o,d,n,i,l,A,f,B,r⟩
 ·obtain⟨z,d,n,r,e⟩:=h.ok I.i9;exact⟨d,r,⟨_,n,e,rfl,rfl,rfl⟩,z⟩
 ·refine⟨d.toList,r,⟨o,n,I.RO a o i,l,A,by simpa using f⟩,?_⟩;have e:=r.length;simp only[Array.length_toList] at e;lia
theorem Inv.tuple(I:Inv X pins σ H s)(h:Ge X.K H a xs):∃d:List Value,Vals xs d/\IsTup s.heap a d.toArray/\xs.length<=sizeLine:=by
 rcases h with h |⟨o,d,n,l,A,i,f,r⟩
 ·obtain⟨z,d,r,p⟩:=h.ok I.i9;exact⟨d,r,p,z⟩
 ·refine⟨d.toList,r,⟨o,I.RO a o l,A,n,by simpa using i⟩,?_⟩;have e:=r.length;simp only[Array.length_toList] at e;lia
theorem Inv.yS(I:Inv X pins σ H s)(h:oK X.K H a xs)(h':oK X.K H a ys):xs=ys:=by
 obtain⟨l,r,⟨o,n,e,_,_,d⟩,_⟩:=I.list h;obtain⟨A,B,⟨v,x,i,_,_,f⟩,_⟩:=I.list h';rw[e] at i;cases i;rw[d] at f;injection f with k _
 have:l=A:=by simpa using congrArg Array.toList k
 subst this;exact r.inj B
theorem Inv.AS(I:Inv X pins σ H s)(h:Ge X.K H a xs)(h':Ge X.K H a ys):xs=ys:=by
 obtain⟨l,r,⟨o,e,_,n,d⟩,_⟩:=I.tuple h;obtain⟨A,B,⟨v,i,_,x,f⟩,_⟩:=I.tuple h';rw[e] at i;cases i;rw[d] at f;injection f with k _
 have:l=A:=by simpa using congrArg Array.toList k
 subst this;exact r.inj B
end
noncomputable abbrev Cx.Gi(X:Cx)(E:Value->Shared->Prop):Cx:={X with xe:=E}
noncomputable abbrev Cx.W2(X:Cx):Cx:=X.Gi fun _ _=>False
theorem Cx.Ok.Gi{X:Cx}(ok:X.Ok)(E:Value->Shared->Prop):(X.Gi E).Ok:=
 ⟨ok.mod,ok.kind,ok.glob,ok.blt,ok.above,ok.inj,ok.has,ok.Yw,ok.hd,ok.frames,ok.WX,ok.ZJ,ok.bs,ok.UX,ok.RW,ok.RX,ok.CI,ok.WY⟩
theorem Cx.Ok.uZ {X:Cx}(ok:(X.Gi E).Ok):X.Ok:=
 ⟨ok.mod,ok.kind,ok.glob,ok.blt,ok.above,ok.inj,ok.has,ok.Yw,ok.hd,ok.frames,ok.WX,ok.ZJ,ok.bs,ok.UX,ok.RW,ok.RX,ok.CI,ok.WY⟩
section
variable {X:Cx}{pins:List (Addr×Obj)}{σ:St}{H:Hp}{s:Shared}{E:Value->Shared->Prop}
theorem Inv.Gi(I:Inv X pins σ H s)(E:Value->Shared->Prop):Inv (X.Gi E) pins σ H s:=⟨I.ok.Gi E,I.os,I.bare,I.base,I.loc,I.cell,I.free,I.uX,I.pin,I.i9,I.len⟩
theorem Inv.uZ(I:Inv (X.Gi E) pins σ H s):Inv X pins σ H s:=⟨I.ok.uZ,I.os,I.bare,I.base,I.loc,I.cell,I.free,I.uX,I.pin,I.i9,I.len⟩
theorem SP.uZ (h:SP (X.Gi E) pins D f A):SP X pins D f A:=by
 cases f with
 |next=>obtain⟨σ',d,I,q⟩:=h;exact⟨σ',d,I.uZ,q⟩
 |brk=>obtain⟨σ',d,I,q⟩:=h;exact⟨σ',d,I.uZ,q⟩
 |cont=>obtain⟨σ',d,I,q⟩:=h;exact⟨σ',d,I.uZ,q⟩
 |ret u=>obtain⟨v,σ',d,I,r,q⟩:=h;exact⟨v,σ',d,I.uZ,r,q⟩
theorem Mn.W2 {st:List Stmt}(h:Mn X.W2 st t):Mn X st t:=fun pins s σ H D I d=>
 wpAny_mono (h pins s σ H D (I.Gi _) d) (fun _ _ q=>q.uZ) fun _ _ z=>False.elim z
end
section
variable {X:Cx}{st:Stmt}{rest:List Stmt}{t u:TS}{e:Expr}{te:TE}{pos:Pos}
def Wi:TS:=fun D σ H=>D.nx σ H
def YB(t u:TS):TS:=fun D σ H=>t {D with nx:=u D} σ H
theorem fc:Mn X [] Wi:=fun _ _ σ H _ I h=>wpAny_execs_nil ⟨σ,H,I,h⟩
theorem dh(d:PS X st t)(l:Mn X rest u):Mn X (st::rest) (YB t u):=by
 intro pins s σ H D I h;refine wpAny_execs_cons (iS (d pins s σ H {D with nx:=u D} I h) fun f i q=> ?_);cases f with
 |next=>
  obtain⟨σ',A,B,q⟩:=q;exact l pins i σ' A D B q
 |ret v=>exact q
 |brk=>exact q
 |cont=>exact q
theorem dq(d:PS X st t):Mn X [st] t:=by
 intro pins s σ H D I h;refine wpAny_execs_cons (iS (d pins s σ H D I h) fun f A q=> ?_);cases f with
 |next=>exact wpAny_execs_nil q
 |ret v=>exact q
 |brk=>exact q
 |cont=>exact q
def YC:TS:=fun D σ H=>D.ct σ H
theorem Km:PS X (.Continue pos) YC:=fun _ _ σ H _ I h=>wpAny_Continue ⟨σ,H,I,h⟩
theorem Inv.quiet {σ:St}(I:Inv X pins σ H s):interactive X.env=false:=by simp[interactive,I.ok.kind]
def Wj(te:TE):TS:=fun D σ H=>te σ H fun _ d=>D.nx σ d
theorem iU(l:PE X e te)(f:swapsWith e none pos.line X.env=pure false:=by rfl):PS X (.Expr e pos) (Wj te):=by
 intro pins s σ H D I h;exact wpAny_Expr_any (iS (l pins s σ H _ I h) (by rintro v k ⟨x,i,d,B,A⟩;exact⟨σ,i,d,A⟩)) I.quiet f
def W3(te:TE):TS:=fun D σ H=>te σ H D.rt
theorem dE(i:PE X e te):PS X (.Return (some e) pos) (W3 te):=by
 intro pins s σ H D I h;exact wpAny_Return_some (iS (i pins s σ H _ I h) (by rintro v B ⟨x,f,d,l,A⟩;exact⟨x,σ,f,d,l,A⟩))
def YD(c:TT)(t u:TS):TS:=fun D σ H=>c σ H fun b d=>if b=true then t D σ d else u D σ d
theorem fS (x:PT X c A)(v:Mn X a t)(k:Mn X b u):PS X (.If c a b pos) (YD A t u):=by
 intro pins s σ H D I h;refine wpAny_If (iS (x pins s σ H _ I h) ?_);rintro d f ⟨B,l,i⟩;cases d with
 |true=>exact v pins f σ B D l i
 |false=>exact k pins f σ B D l i
end
abbrev TG:=V->St->Hp->(St->Hp->Prop)->Prop
abbrev Wk:=List V->St->Hp->(St->Hp->Prop)->Prop
def PG(X:Cx)(target:Expr)(t:TG):Prop:=
 ∀(pins:List (Addr×Obj)) (s:Shared) (σ:St) (H:Hp) (v:V) (u:Value) (Q:St->Hp->Prop),Inv X pins σ H s->RelV v u->t v σ H Q->
  wpAny (model X.prog X.w) X.A (assign target X.env u) (fun _ d=>∃σ' H',Inv X pins σ' H' d/\Q σ' H') X.xe s
def YE(X:Cx)(f:List Expr)(t:Wk):Prop:=
 ∀(pins:List (Addr×Obj)) (s:Shared) (σ:St) (H:Hp) (d:List V) (l:List Value) (Q:St->Hp->Prop),Inv X pins σ H s->Vals d l->t d σ H Q->
  wpAny (model X.prog X.w) X.A (assignInOrder ((assignEach f X.env).map (·.2)) l) (fun _ i=>∃σ' H',Inv X pins σ' H' i/\Q σ' H') X.xe s
abbrev R0:=V->V->V->Hp->(Hp->Prop)->Prop
def W4(X:Cx)(t:R0):Prop:=
 ∀(pins:List (Addr×Obj)) (s:Shared) (σ:St) (H:Hp) (o i v:V) (d l u:Value) (Q:Hp->Prop),Inv X pins σ H s->RelV o d->RelV i l->RelV v u->t o i v H Q->
  wpAny (model X.prog X.w) X.A (setItem d l u) (fun _ B=>∃f,Inv X pins σ f B/\Q f) X.xe s
abbrev W5:=V->V->Hp->VK->Prop
def YF(X:Cx)(d:Operator)(t:W5):Prop:=
 ∀(pins:List (Addr×Obj)) (s:Shared) (σ:St) (H:Hp) (x y:V) (v u:Value) (Q:VK),Inv X pins σ H s->RelV x v->RelV y u->t x y H Q->
  wpAny (model X.prog X.w) X.A (inplaceOp d v u) (EP X pins σ Q) X.xe s
section
variable {X:Cx}{pos:Pos}
def He(i:Nat):TG:=fun v σ H Q=>Q (σ.set i (some v)) H
theorem U0 (f:X.N.Nodup)(hi:X.N[i]? =some x)(l:Loc X.env.scope x)(d:X.fn x=true\/X.env.scope.names.lookup x=some .local:=by first |exact .inl rfl |exact .inr rfl |assumption):PG X (.Name x pos) (He i):=by
 intro pins s σ H v u Q I r h;exact wpAny_assign_Name (DL I f hi l r (fun B A=>⟨_,H,A,h⟩) d)
def ZZ:Wk:=fun d σ H Q=>d=[]/\Q σ H
def YG(t:TG)(u:Wk):Wk:=fun d σ H Q=>∃v r,d=v::r/\t v σ H fun σ' A=>u r σ' A Q
theorem j7:YE X [] ZZ:=by
 intro pins s σ H d A Q I r h;obtain⟨e,h⟩:=h;subst e;cases r;exact assignInOrder_nil ⟨σ,H,I,h⟩
theorem fu{e:Expr}{d:List Expr}{t:TG}{u:Wk}(i:PG X e t)(B:YE X d u)
  (q:(assignEach (e::d) X.env).map (·.2)=assign e X.env::(assignEach d X.env).map (·.2):=by rfl):YE X (e::d) (YG t u):=by
 intro pins s σ H n b Q I r h;obtain⟨v,a,x,h⟩:=h;subst x;cases r with
 |cons r A=>
  rw[q];refine assignInOrder_cons (iS (i pins s σ H _ _ _ I r h) ?_);rintro _ k ⟨σ1,w,l,f⟩;exact B pins k σ1 w _ _ Q l A f
def YH(K:PySem.W.Frag)(n:Nat)(t:Wk):TG:=fun v σ H Q=>∃a d,v= .ref a/\Ge K H a d/\d.length=n/\t d σ H Q
theorem W6{d:List Expr}{k:Nat}{t:Wk}{n:Nat}(y:X.calm=true)(h:YE X d t)
  (f:(assignEach d X.env).length=n:=by rfl) (i:(assignEach d X.env).findIdx? (·.1)=none:=by rfl):PG X (.Tuple d k pos) (YH X.K n t):=by
 intro pins s σ H v u Q I r A;obtain⟨a,x,G,p,S,A⟩:=A;subst G;cases r;obtain⟨F,l,q,z⟩:=I.tuple p;refine assign_Tuple_tuple (I.ok.hd y) q (by simp[f,<-S,l.length]) i fun B C=> ?_;have w:Inv X pins σ H {s with heap:=B}:=I.kept (t':=s.toks) fun b o e=>C b o (bN (Heap.lt_size e)) e;exact h pins _ σ H x _ Q w (by simpa using l) A
def Z0(A ti:TE)(t:R0):TG:=fun v σ H Q=>A σ H fun o l=>ti σ l fun i d=>t o i v d fun f=>Q σ f
theorem AU{o i:Expr}{l ti:TE}{t:R0}(C:PE X o l)(hi:PE X i ti)(F:W4 X t)
  (q:∀v,assign (.Subscript o i pos) X.env v=(do
   let d<-holding [v] (eval o X.env);let A<-holding [v,d] (eval i X.env)
   standAt pos
   holding [v,d,A] (setItem d A v)
   release [v,d,A] []):=by intro _;rfl):PG X (.Subscript o i pos) (Z0 l ti t):=by
 intro pins s σ H v u Q I r h;rw[q];refine wpAny_bind (wpAny_holding (iS (C pins s σ H _ I h) ?_));rintro d S ⟨x,G,B,p,n⟩;refine wpAny_bind (wpAny_holding (iS (hi pins S σ G _ B n) ?_));rintro A b ⟨y,f,a,k,c⟩;refine wpAny_bind (wpAny_standAt (wpAny_bind (wpAny_holding (iS (F pins b σ f x y v d A u _ a p k r c) ?_))));rintro _ P ⟨z,w,e⟩;exact wpAny_release ⟨σ,z,w,e⟩
def U1(d:TE)(g:TG):TS:=fun D σ H=>d σ H fun x A=>g x σ A D.nx
theorem AV{d e:Expr}{A:TE}{g:TG}(a:PE X e A)(w:PG X d g)(n:swapsWithSole [d] e pos.line X.env=pure false:=by rfl)(t:swappedStores [d] e X.env=pure none:=by rfl)
  (i:(assignEach [d] X.env).map (·.2)=[assign d X.env]:=by rfl):PS X (.Assign [d] e pos) (U1 A g):=by
 intro pins s σ H D I h;refine wpAny_Assign_stores (iS (a pins s σ H _ I h) ?_) n t;rintro v k ⟨x,b,l,B,f⟩;rw[i];exact iS (w pins k σ b x v _ l B f) fun _ u q=>q
theorem W7 (q:X.N.Nodup)(hi:X.N[i]? =some x)(f:Loc X.env.scope x)(t:PE X e d)(b:swapsWith e (some (.Name x pos')) pos.line X.env=pure false:=by rfl)(w:X.fn x=true\/X.env.scope.names.lookup x=some .local:=by first |exact .inl rfl |exact .inr rfl |assumption):
  PS X (.Assign [.Name x pos'] e pos) (U1 d (He i)):=by
 intro pins s σ H D I h;refine wpAny_Assign_Name (iS (t pins s σ H _ I h) ?_) b;rintro v u ⟨y,a,l,k,B⟩;exact DL l q hi f k (fun n A=>⟨_,a,A,B⟩) w
def Z1(i:Nat)(d:TE)(ti:W5):TS:=fun D σ H=>∃x,σ[i]? =some (some x)/\d σ H fun y l=>ti x y l fun z A=>D.nx (σ.set i (some z)) A
theorem ID (R:X.N.Nodup)(hi:X.N[i]? =some x)(B:Loc X.env.scope x)(M:PE X e a)(E:YF X f ti)(W:X.fn x=true\/X.env.scope.names.lookup x=some .local:=by first |exact .inl rfl |exact .inr rfl |assumption):
  PS X (.AugAssign (.Name x pos') f e pos) (Z1 i a ti):=by
 intro pins s σ H D I h;obtain⟨v,C,h⟩:=h;obtain⟨m,G,g⟩:=I.loc;have t:Yf X.env.scope x:=by rcases B with k |k;exact .inl k;exact .inr (.inl k)
 obtain⟨u,r,l⟩:=g i x v hi C t;refine wpAny_AugAssign_Name ?_;have q:wpAny (model X.prog X.w) X.A (eval e X.env) (fun w F=>wpAny (model X.prog X.w) X.A (inplaceOp f u w) (fun r b=>wpAny (model X.prog X.w) X.A (storeName X.env x r) (fun _=>SP X pins D .next) X.xe b) X.xe F) X.xe s:=by
  refine iS (M pins s σ H _ I h) ?_;rintro w Q ⟨y,K,p,j,L⟩;refine iS (E pins Q σ K v y u w _ p r j L) ?_;rintro z O ⟨zv,n,P,o,J⟩;exact DL P R hi B o (fun T S=>⟨_,n,S,J⟩) W
 rcases l with⟨d,hm⟩ |⟨d,c,hc,hcell⟩
 ·exact wpAny_loadName_local I.ok.kind d G hm q
 ·rcases d with d |d
  ·exact wpAny_loadName_cell I.ok.kind d hc hcell q
  ·rcases B with k |k
   ·have:X.env.scope.names.lookup x=some .free:=d;rw[k] at this;cases this
   ·have:X.env.scope.names.lookup x=some .free:=d;rw[k] at this;cases this
def YI(w ti v:TE)(A:V->V->Hp->VK->Prop)(l:W5)(d:R0):TS:=fun D σ H=>w σ H fun o t=>ti σ t fun i f=>A o i f fun x k=>v σ k fun y h=>l x y h fun z e=>d o i z e fun B=>D.nx σ B
def YJ(X:Cx)(t:V->V->Hp->VK->Prop):Prop:=
 ∀(pins:List (Addr×Obj)) (s:Shared) (σ:St) (H:Hp) (o i:V) (d l:Value) (Q:VK),Inv X pins σ H s->RelV o d->RelV i l->t o i H Q->
  wpAny (model X.prog X.w) X.A (getItem d l) (EP X pins σ Q) X.xe s
theorem IE{o i e:Expr}{q ti t:TE}{l:V->V->Hp->VK->Prop}{B:W5}{f:R0}{b:Operator}{k:Pos}(J:PE X o q)(hi:PE X i ti)(m:YJ X l)(T:PE X e t)(hp:YF X b B)(hs:W4 X f)
  (L:∀d A new,augStore i d A new=(do holding [new,d,A] (setItem d A new);release [new,d,A] [];pure .next):=by intros;rfl):PS X (.AugAssign (.Subscript o i k) b e pos) (YI q ti t l B f):=by
 intro pins s σ H D I h;refine wpAny_AugAssign_SubscriptAny (iS (J pins s σ H _ I h) ?_) L;rintro d g ⟨n,O,F,a,K⟩;refine iS (hi pins g σ O _ F K) ?_;rintro A E ⟨x,G,Q,w,q2⟩;refine iS (m pins E σ G n x d A _ Q a w q2) ?_;rintro old c ⟨W,H3,z,r3,P⟩;refine iS (T pins c σ H3 _ z P) ?_;rintro v s4 ⟨N,H4,M,p,r⟩;refine iS (hp pins s4 σ H4 W N old v _ M r3 p r) ?_;rintro new s5 ⟨x5,j,R,r5,y⟩;exact iS (hs pins s5 σ j n x x5 d A new _ R a w r5 y) (by rintro _ s6 ⟨u,S,C⟩;exact⟨σ,u,S,C⟩)
def ipI(f:Int->Int->Int):W5:=fun x y H Q=>∃i j,x= .int i/\y= .int j/\Q (.int (f i j)) H
theorem IF:YF X .Add (ipI fun i j=>i+j):=by
 intro pins s σ H x y v u Q I l A h;obtain⟨i,j,f,d,q⟩:=h;subst f;subst d;obtain⟨t,rfl⟩:=l;obtain⟨B,rfl⟩:=A;exact iadd_int ⟨.int _,H,I.tok _,⟨_,rfl⟩,q⟩
theorem R1:YF X .Sub (ipI fun i j=>i - j):=by
 intro pins s σ H x y v u Q I l A h;obtain⟨i,j,f,d,q⟩:=h;subst f;subst d;obtain⟨t,rfl⟩:=l;obtain⟨B,rfl⟩:=A;exact isub_int ⟨.int _,H,I.tok _,⟨_,rfl⟩,q⟩
end
section
variable {X:Cx}{pos:Pos}
def W8(c:TT)(l:TS):TS:=fun D σ H=>∃W:Nat->St->Hp->Prop,(∃m,W m σ H)/\∀m σ H,W m σ H->
 c σ H fun b A=>if b=true then ∃N:St->Hp->Prop,(∀σ' H',N σ' H'->∃d,d <m/\W d σ' H')/\l {D with nx:=N,ct:=N,bk:=D.nx} σ A else D.nx σ A
theorem u0 (o:PassesOwn (model X.prog X.w) X.A X.env X.xe)(L:PT X c a)(m:Mn X body p):PS X (.While c body [] pos) (W8 a p):=by
 intro pins s σ H D I h;obtain⟨W,⟨G,C⟩,turn⟩:=h;refine wpAny_While (codeAny_whileLoop (fun n j=>∃σ' H',Inv X pins σ' H' j/\W n σ' H') ?_ G ⟨σ,H,I,C⟩);rintro n P ⟨σ1,r,y,F⟩;refine wpAny_passesOwn o (iS (L pins P σ1 r _ y (turn n σ1 r F)) ?_);rintro b z ⟨q,u,i⟩;cases b with
 |true=>
  obtain⟨N,S,i⟩:=i;rw[ai rfl];refine wpAny_passesOwn o (iS (m pins z σ1 q _ u i) fun f Q l=> ?_);cases f with
  |next=>
   obtain⟨σ3,d,k,e⟩:=l;obtain⟨x,t,B⟩:=S σ3 d e;exact⟨x,t,σ3,d,k,B⟩
  |cont=>
   obtain⟨σ3,d,k,e⟩:=l;obtain⟨x,t,B⟩:=S σ3 d e;exact⟨x,t,σ3,d,k,B⟩
  |brk=>exact l
  |ret v=>exact l
 |false=>
  rw[ah aU];exact wpAny_execs_nil ⟨σ1,q,u,i⟩
end
structure It where
 go:Nat->Hp->Prop
 Yg:Nat->Hp->V->Hp->Prop
 stop:Nat->Hp->Prop
def CJ(X:Cx)(pins:List (Addr×Obj))(H:Hp)(b:Addr):Prop:=
 H b=none/\b≠X.env.locals/\b∉X.fs/\(b∈X.ex\/X.Hc.heap.objs.size<=b)/\(∀x c,X.env.cells.lookup x=some c->c≠b)/\∀p∈X.pn ++ pins,p.1≠b
theorem Inv.Qp {σ:St}{b:Addr}(I:Inv X pins σ H s)(d:s.heap.objs.size<=b)(l:A b=none):CJ X pins A b:=by
 refine⟨l,Nat.ne_of_gt (a8 I.lt d),I.ZT d,.inr (aB I.sz d),fun x c e z=> ?_,fun p i z=> ?_⟩
 ·obtain⟨v,q⟩:=I.cell x c e;exact absurd (a8 q.lt (by rw[z];exact d)) (b6 _)
 ·exact absurd (a8 (Heap.lt_size (I.pin p i).1) (by rw[z];exact d)) (b6 _)
structure Turn(P:Program)(w:World)(K:PySem.W.Frag)(tg:Expr)(J:It)(fp:List Addr)(it:Addr)(tn:Nat->Heap->Prop):Prop where
 mem:it∈fp
 obj:∀i h,tn i h->∀b∈fp,∃o,h.get? b=some o/\∀v,o.data≠.cell v
 keep:∀i h h',tn i h->(∀b∈fp,∀o,h.get? b=some o->h'.get? b=some o)->tn i h'
 item:∀(X:Cx),X.prog=P->X.w=w->X.K=K->X.calm=true->∀(i:Nat) (pins:List (Addr×Obj)) (s:Shared) (σ:St) (H:Hp) (E:Value->Shared->Prop),Inv X pins σ H s->(∀b∈fp,CJ X pins H b)->tn i s.heap->J.go i H->
  wpAny (model P w) X.A (pyNext (.ref it)) (fun r s1=>∃u,r=some u/\
   wpAny (model P w) X.A (letOwnedTupleGo tg (.ref it) u) (fun _ s2=>∃x H',Inv X pins σ H' s2/\RelV x u/\J.Yg i H x H'/\tn (i+1) s2.heap/\∀b∈fp,H' b=none) E s1) E s
 done:∀(X:Cx),X.prog=P->X.w=w->X.K=K->X.calm=true->∀(i:Nat) (pins:List (Addr×Obj)) (s:Shared) (σ:St) (H:Hp) (E:Value->Shared->Prop),Inv X pins σ H s->(∀b∈fp,CJ X pins H b)->tn i s.heap->J.stop i H->
  wpAny (model P w) X.A (pyNext (.ref it)) (fun r s1=>r=none/\Inv X pins σ H s1) E s
 self:∀(A:Around) (i:Nat) (s:Shared) (Q:Value->Shared->Prop) (E:Value->Shared->Prop),tn i s.heap->Q (.ref it) s->wpAny (model P w) A (pyIter (.ref it)) Q E s
abbrev TI:=St->Hp->(It->Hp->Prop)->Prop
def Z2(X:Cx)(pins:List (Addr×Obj))(σ:St)(k:Expr)(R:It->Hp->Prop)(l:Value)(i:Shared):Prop:=
 ∃(B:Addr) (f:List Addr) (A:Nat->Heap->Prop) (J:It) (d:Hp),l= .ref B/\Inv X pins σ d i/\Turn X.prog X.w X.K k J f B A/\A 0 i.heap/\(∀b∈f,CJ X pins d b)/\R J d
def PI(X:Cx)(l iter:Expr)(i:TI):Prop:=
 ∀(pins:List (Addr×Obj)) (s:Shared) (σ:St) (H:Hp) (R:It->Hp->Prop),Inv X pins σ H s->i σ H R->
  wpAny (model X.prog X.w) X.A (eval iter X.env) (fun v d=>wpAny (model X.prog X.w) X.A (pyIter v) (Z2 X pins σ l R) X.xe d) X.xe s
theorem R3 (v:s.heap.get? f=some o)(x:o.cls= .type n)(k:o.data= .fields l)(B:["enumerate","zip","dict_itemiterator","dict_reverseitemiterator","odict_iterator","itertools.zip_longest","itertools.pairwise"].contains n=false)(d:Q () s):wpAny M A (letOwnedTupleGo i (.ref f) u) Q E s:=by
 unfold letOwnedTupleGo;cases i <;>first
  |exact wpAny_pure d
  |(cases u <;>first
    |exact wpAny_pure d
    |(refine wpAny_bind (wpAny_load v ?_)
      rw[x,k];show wpAny M A (if(["enumerate","zip","dict_itemiterator","dict_reverseitemiterator","odict_iterator","itertools.zip_longest","itertools.pairwise"].contains n&&l[0]? ==some (rawInt _))=true then _ else _) Q E s;rw[ah (by intro h;rw[B,Bool.false_and] at h;cases h)];exact wpAny_pure d))
noncomputable def Z3(K:PySem.W.Frag)(a:Addr):It:=
 ⟨fun i H=>∃d x,oK K H a d/\d[i]? =some x,fun i H x A=>A=H/\∀d,oK K H a d->d[i]? =some x,fun i H=>∃d,oK K H a d/\d.length<=i⟩
noncomputable def YK(lo:Int)(n:Nat):It:=⟨fun i _=>i<n,fun i H x d=>d=H/\x= .int (lo+i),fun i _=>n<=i⟩
theorem Qq{P:Program}{w:World}{K:PySem.W.Frag}{tg:Expr}(a l:Addr):Turn P w K tg (Z3 K a) [l] l (fun i h=>h.IsListIter l a i) where
 mem:=by simp
 obj:=fun i h A b f=>by
  have e:b=l:=by simpa using f
  subst e;obtain⟨o,e,c,d⟩:=A;exact⟨o,e,fun v z=>by rw[d] at z;cases z⟩
 keep:=fun i h B A k=>A.at fun o e=>k l (by simp) o e
 item:=by
  intro X S L r M i pins s σ H E I q A G;subst S L r;obtain⟨D,x,t,N⟩:=G;obtain⟨Q,C,p,hz⟩:=I.list t;obtain⟨u,hu,J⟩:=C.get N;obtain⟨f0,F,g,j,y,m⟩:=q l (by simp);refine wpAny_pyNext_list_item A p.isList (x:=u) (by simpa using hu) fun B n R=> ?_;have T:Inv X pins σ H {s with heap:=B}:=I.turned (t':=s.toks) (fun b o f e=>(R.2 b f).trans e) f0 F j y m;obtain⟨o,e,c,d⟩:=id n;exact⟨u,rfl,R3 (s:={s with heap:=B}) e c d (by decide) ⟨x,H,T,J,⟨rfl,fun ys hy=>by rw[I.yS hy t];exact N⟩,n,fun b f=>(q b f).1⟩⟩
 done:=by
  intro X S L r M i pins s σ H E I q A G;subst S L r;obtain⟨D,t,N⟩:=G;obtain⟨Q,C,p,hz⟩:=I.list t;obtain⟨f0,F,g,j,y,m⟩:=q l (by simp);have hl:=C.length;exact wpAny_pyNext_list_end (I.ok.hd M) A p.isList (by simp;lia) fun B O=>⟨rfl,I.turned (t':=s.toks) (fun b o f e=>O b o f e) f0 F j y m⟩
 self:=fun _ _ _ _ _ A h=>wpAny_pyIter_listiter A h
theorem Ms{P:Program}{w:World}{K:PySem.W.Frag}{M:Expr}(A:Addr)(lo:Int)(n:Nat):Turn P w K M (YK lo n) [A] A (fun i h=>IsRangeIter h A (lo+(i:Nat)*1) ((n:Int) - (i:Nat)) 1) where
 mem:=by simp
 obj:=fun i h d b l=>by
  have e:b=A:=by simpa using l
  subst e;exact⟨_,d,fun v z=>by
   have N:Data.fields _=Data.cell v:=z;cases N⟩
 keep:=fun i h f d k=>k A (by simp) _ d
 item:=by
  intro X a S q y i pins s σ H E I B d r;subst a S q;obtain⟨f0,p,c,G,u,C⟩:=B A (by simp);have W:=Walks.range (prog:=X.prog) (w:=X.w) (I.ok.hd y) A lo 1 n;refine W.item i s _ _ r d fun v f F j x Q=> ?_;obtain⟨t,rfl⟩:=j;have m:Inv X pins σ H {s with heap:=f,toks:=F}:=I.turned (fun b o l e=>Q b o (by simpa using l) e) f0 p G u C;refine⟨_,rfl,R3 (s:={s with heap:=f,toks:=F}) (n:="range_iterator") x rfl rfl (by decide) ⟨.int (lo+i),H,m,⟨t,?_⟩,⟨rfl,rfl⟩,x,fun b l=>(B b l).1⟩⟩;rw[Int.mul_one]
 done:=by
  intro X a S q y i pins s σ H E I B d r;subst a S q;obtain⟨f0,p,c,G,u,C⟩:=B A (by simp);exact wpAny_pyNext_range_end (I.ok.hd y) d (by have:n<=i:=r;lia) fun f L=>⟨rfl,I.turned (t':=s.toks) (fun b o l e=>L b o l e) f0 p G u C⟩
 self:=fun _ _ _ _ _ d h=>wpAny_pyIter_rangeiter d h
section
variable {X:Cx}{tg:Expr}
def YL(K:PySem.W.Frag)(A:TE):TI:=fun σ H R=>A σ H fun x d=>∃a,x= .ref a/\(∃l,oK K d a l)/\R (Z3 K a) d
theorem fK (B:PE X l i):PI X tg l (YL X.K i):=by
 intro pins s σ H R I h;refine iS (B pins s σ H _ I h) ?_;rintro v A ⟨x,n,d,w,k⟩;obtain⟨a,e,⟨r,f⟩,q⟩:=k;subst e;cases w;obtain⟨u,S,p,C⟩:=d.list f;refine wpAny_pyIter_list p.isList ?_;refine⟨A.heap.objs.size,[A.heap.objs.size],_,_,n,rfl,d.kept (t':=A.toks) fun b o e=>Heap.get?_push_of_some _ e,Qq a _,⟨_,Heap.get?_push_size _ rfl,rfl,rfl⟩,fun b t=> ?_,q⟩;have e:b=A.heap.objs.size:=by simpa using t
 subst e;exact d.Qp (aj _) (d.i9.fresh (aj _))
theorem Kn {σ:St}{lo:Int}(I:Inv X pins σ H s)(i:-(2^62)<=lo)(k:lo<2^62)(f:-(2^62)<=hi)(B:hi<2^62)(q:R (YK lo (hi - lo).toNat) H):wpAny (model X.prog X.w) X.A (pyIter (.ref s.heap.objs.size)) (Z2 X pins σ tg R) E {s with heap:=s.heap.push {cls:= .type "range",data:= .fields #[.int lo t,.int hi u,.int 1 v]},toks:=tk}:=by
 refine wpAny_pyIter_range (IsRange.new ..) (small_one i k f B) ?_;have d:Inv X pins σ H {s with heap:=s.heap.push {cls:= .type "range",data:= .fields #[.int lo t,.int hi u,.int 1 v]},toks:=tk}:=I.kept fun b o e=>Heap.get?_push_of_some _ e;refine⟨(s.heap.push {cls:= .type "range",data:= .fields #[.int lo t,.int hi u,.int 1 v]}).objs.size,[(s.heap.push {cls:= .type "range",data:= .fields #[.int lo t,.int hi u,.int 1 v]}).objs.size],_,_,H,rfl,
  d.kept (t':=tk) fun b o e=>Heap.get?_push_of_some _ e,Ms _ lo (hi - lo).toNat,?_,fun b x=> ?_,q⟩
 ·have h:lo+((0:Nat):Int)*1=lo:=by simp
  have l:(((hi - lo).toNat:Nat):Int) - ((0:Nat):Int)=Builtin.Range.rangeSize lo hi 1:=by rw[rangeSize_one];split <;>lia
  show IsRangeIter _ _ (lo+((0:Nat):Int)*1) ((((hi - lo).toNat:Nat):Int) - ((0:Nat):Int)) 1;rw[h,l];exact Heap.get?_push_size _ rfl
 ·have e:b=(s.heap.push {cls:= .type "range",data:= .fields #[.int lo t,.int hi u,.int 1 v]}).objs.size:=by simpa using x
  subst e;exact d.Qp (aj _) (d.i9.fresh (aj _))
def YM(l:TA):TI:=fun σ H R=>l σ H fun d A=>∃j:Int,d=[.int j]/\-(2^62)<=j/\j<2^62/\R (YK 0 j.toNat) A
def YN(l:TA):TI:=fun σ H R=>l σ H fun d A=>∃i j:Int,d=[.int i,.int j]/\(-(2^62)<=i/\i<2^62/\-(2^62)<=j/\j<2^62)/\R (YK i (j - i).toNat) A
theorem o7 (B:Gl X "range")(v:X.mg "range"=none)(x:PA X [a] A)(w:starEach [a] X.env=[(false,eval a X.env)]:=by rfl):PI X tg (.Call (.Name "range" p) [a] [] pos) (YM A):=by
 intro pins s σ H R I h;refine Call_ (xu I B v boot_range (bS (iS (x pos pins s σ H _ I h) ?_) w rfl));rintro b u ⟨n,o,i,f,d⟩;obtain⟨j,e,d,k,q⟩:=d;subst e;cases f with
 |cons r l=>
  cases l;obtain⟨t,rfl⟩:=r;exact call_range_1 (Kn i (by lia) (by lia) d k (by simpa using q))
theorem AW {p pos:Pos}(v:Gl X "range")(n:X.mg "range"=none)(w:PA X [a,b] f)(o:starEach [a,b] X.env=[(false,eval a X.env),(false,eval b X.env)]:=by rfl)(d:starEach [b] X.env=[(false,eval b X.env)]:=by rfl):
  PI X tg (.Call (.Name "range" p) [a,b] [] pos) (YN f):=by
 intro pins s σ H R I h;refine Call_ (xu I v n boot_range (bS (iS (w pos pins s σ H _ I h) ?_) (by rw[o,d]) (by rw[d];rfl)));rintro y F ⟨G,c,k,u,l⟩;obtain⟨i,j,e,⟨l,C,x,B⟩,q⟩:=l;subst e;cases u with
 |cons r A=>
  cases A with
  |cons S A=>
   cases A;obtain⟨t,rfl⟩:=r;obtain⟨z,rfl⟩:=S;exact call_range_2 (Kn k l C x B q)
def Z4(f:TI)(g:TG)(k:TS):TS:=fun D σ H=>f σ H fun J B=>∃W:Nat->Nat->St->Hp->Prop,(∃m,W 0 m σ B)/\∀i m σ H,W i m σ H->
 (J.stop i H/\D.nx σ H)\/(J.go i H/\∃N:St->Hp->Prop,(∀σ' d,N σ' d->∃A,A <m/\W (i+1) A σ' d)/\∀x d,J.Yg i H x d->g x σ d fun σ2 l=>k {D with nx:=N,ct:=N,bk:=D.nx} σ2 l)
noncomputable def DO(d:List Addr)(h:Heap):List (Addr×Obj):=d.filterMap fun b=>(h.get? b).map fun o=>(b,o)
theorem xw (A:b∈d)(e:h.get? b=some o):(b,o)∈DO d h:=List.mem_filterMap.mpr ⟨b,A,by rw[e];rfl⟩
theorem Qr (A:p∈DO d h):p.1∈d/\h.get? p.1=some p.2:=by
 obtain⟨b,l,e⟩:=List.mem_filterMap.mp A;cases q:h.get? b with
 |none=>rw[q] at e;cases e
 |some o=>
  rw[q] at e;have i:(b,o)=p:=bf e;subst i;exact⟨l,q⟩
theorem Inv.pinned {σ:St}(I:Inv X pins σ H s)(x:∀b∈A,CJ X pins H b)(w:∀b∈A,∃o,s.heap.get? b=some o/\∀v,o.data≠.cell v):Inv X (pins ++ DO A s.heap) σ H s:=
 I.Ow fun p k=>(aX.mp k).elim (fun z=>I.pin p (bM _ z)) fun z=>by
  obtain⟨l,e⟩:=Qr z;obtain⟨f0,B,f,_⟩:=x p.1 l;obtain⟨o,i,d⟩:=w p.1 l;rw[e] at i;cases i;exact⟨e,f0,B,f,d⟩
theorem Inv.yT {σ:St}(I:Inv X (pins ++ pl) σ H s):Inv X pins σ H s:=I.Ow fun p d=>I.pin p (bM _ (List.mem_append_left _ d))
theorem hW (C:PassesOwn (model X.prog X.w) X.A X.env X.xe)(hc:X.calm=true)(hi:PI X tg iter O)(hg:PG X tg g)(k:Mn X body R)(hs:∀x,foldedSetIterable iter X.env x=pure x:=by intro _;rfl):PS X (.For tg iter body [] pos) (Z4 O g R):=by
 intro pins s σ H D I h;refine wpAny_For (iS (hi pins s σ H _ I h) fun v s1 h1=>iS h1 fun ac s2 h2=> ?_) hs;obtain⟨it,p,L,J,H2,e,I2,T,M,j,W,⟨m0,w0⟩,turn⟩:=h2;subst e;have a:∀{t:Hp},(∀b∈p,t b=none)->∀b∈p,CJ X pins t b:=fun hn b k=>⟨hn b k,(j b k).2⟩;refine codeAny_forLoop_any (fun n s'=>∃i σ' t,Inv X pins σ' t s'/\L i s'.heap/\(∀b∈p,t b=none)/\W i n σ' t) ?_ m0 ⟨0,σ,H2,I2,M,fun b k=>(j b k).1,w0⟩;rintro n E ⟨i,σ3,G,Q,z,F,w3⟩;rcases turn i n σ3 G w3 with⟨stop,qn⟩ |⟨go,N,hN,step⟩
 ·refine wpAny_passesOwn C (iS (T.done X rfl rfl rfl hc i pins E σ3 G X.xe Q (a F) z stop) ?_);rintro r s4 ⟨c,I4⟩;subst c;exact wpAny_execs_nil ⟨σ3,G,I4,qn⟩
 ·refine wpAny_passesOwn C (iS (T.item X rfl rfl rfl hc i pins E σ3 G X.xe Q (a F) z go) ?_);rintro r s4 ⟨u,c,h4⟩;subst c;refine wpAny_passesOwn C (iS h4 ?_);rintro _ s5 ⟨x,K,I5,r5,y5,S,ab⟩;have aa:=I5.pinned (a ab) (T.obj _ _ S);refine wpAny_passesOwn C (iS (hg _ s5 σ3 K x u _ aa r5 (step x K y5)) ?_);rintro _ s6 ⟨σ6,H6,I6,q6⟩;refine wpAny_passesOwn C (iS (k _ s6 σ6 H6 _ I6 q6) fun f P q=> ?_);have again:∀{σ7:St} {l:Hp},Inv X (pins ++ DO p s5.heap) σ7 l P->N σ7 l->∃m,m<n/\∃i σ' t,Inv X pins σ' t P/\L i P.heap/\(∀b∈p,t b=none)/\W i m σ' t:=fun{σ7 l} B y=>by
   obtain⟨m',hm,w7⟩:=hN σ7 l y;refine⟨m',hm,i+1,σ7,l,B.yT,T.keep _ _ _ S fun b k o e=>(B.pin (b,o) (bM _ (bM _ (xw k e)))).1,fun b k=> ?_,w7⟩;obtain⟨o,e,d⟩:=T.obj _ _ S b k;exact(B.pin (b,o) (bM _ (bM _ (xw k e)))).2.1
  cases f with
  |next=>obtain⟨σ7,l,B,y⟩:=q;exact again B y
  |cont=>obtain⟨σ7,l,B,y⟩:=q;exact again B y
  |brk=>obtain⟨σ7,l,B,q⟩:=q;exact⟨σ7,l,B.yT,q⟩
  |ret v=>obtain⟨x7,σ7,l,B,r7,q⟩:=q;exact⟨x7,σ7,l,B.yT,r7,q⟩
end
abbrev R2:=V->V->Hp->VK->Prop
def yU(X:Cx)(f:Value->Value->Sem Value)(r:R2):Prop:=
 ∀(pins:List (Addr×Obj)) (s:Shared) (σ:St) (H:Hp) (x y:V) (v u:Value) (Q:VK),Inv X pins σ H s->RelV x v->RelV y u->r x y H Q->
  wpAny (model X.prog X.w) X.A (f v u) (EP X pins σ Q) X.xe s
def Z5(X:Cx)(f:Value->Sem Value)(r:V->Hp->VK->Prop):Prop:=
 ∀(pins:List (Addr×Obj)) (s:Shared) (σ:St) (H:Hp) (x:V) (v:Value) (Q:VK),Inv X pins σ H s->RelV x v->r x H Q->
  wpAny (model X.prog X.w) X.A (f v) (EP X pins σ Q) X.xe s
def qL(X:Cx)(f:Value)(r:List V->Hp->VK->Prop):Prop:=
 ∀(pins:List (Addr×Obj)) (s:Shared) (σ:St) (H:Hp) (d:List V) (l:List Value) (Q:VK),Inv X pins σ H s->Vals d l->r d H Q->
  wpAny (model X.prog X.w) X.A (call f l) (EP X pins σ Q) X.xe s
def Z6(X:Cx)(r:V->Hp->(Bool->Hp->Prop)->Prop):Prop:=
 ∀(pins:List (Addr×Obj)) (s:Shared) (σ:St) (H:Hp) (x:V) (v:Value) (Q:Bool->Hp->Prop),Inv X pins σ H s->RelV x v->r x H Q->
  wpAny (model X.prog X.w) X.A (truthy v) (TP X pins σ Q) X.xe s
def W9(r:R2)(i l:TE):TE:=fun σ H Q=>i σ H fun x A=>l σ A fun y d=>r x y d Q
def tUn(r:V->Hp->VK->Prop)(A:TE):TE:=fun σ H Q=>A σ H fun x d=>r x d Q
def rI(C:Int->Int->Prop)(g:Int->Int->V):R2:=fun x y H Q=>∃i j,x= .int i/\y= .int j/\C i j/\Q (g i j) H
def UR(g:Int->Int->V):R2:=fun x y H Q=>∃i j,x= .int i/\y= .int j/\Q (g i j) H
def rU(g:Int->V):V->Hp->VK->Prop:=fun x H Q=>∃i,x= .int i/\Q (g i) H
section
variable {X:Cx}{a b c:Expr}{ta tb tc:TE}{pos:Pos}
theorem Xa (t:PE X a ta)(p:PE X b tb){σ:St}{R:V->V->Hp->Prop}(I:Inv X pins σ H s)(h:ta σ H fun x H1=>tb σ H1 fun y d=>R x y d){f:Value->Value->Sem Value}(o:∀v u l x y d,Inv X pins σ d l->RelV x v->RelV y u->R x y d->wpAny (model X.prog X.w) X.A (f v u) Q X.xe l):
  wpAny (model X.prog X.w) X.A (eval a X.env) (fun v C=>wpAny (model X.prog X.w) X.A (eval b X.env) (fun u i=>wpAny (model X.prog X.w) X.A (f v u) Q X.xe i) X.xe C) X.xe s:=by
 refine iS (t pins s σ H _ I h) ?_;rintro v r ⟨x,H1,B,n,q⟩;refine iS (p pins r σ H1 _ B q) ?_;rintro u l ⟨y,d,e,k,S⟩;exact o v u l x y d e n k S
theorem eZ (w:yU X (binaryOp d) r)(t:PE X a ta)(B:PE X b tb):PE X (.BinOp a d b pos) (W9 r ta tb):=by
 intro pins s σ H Q I h;exact wpAny_BinOp (Xa t B I h fun v u f x y l i k A q=>w pins f σ l x y v u Q i k A q)
theorem jb (B:Z5 X (unaryOp d) r)(k:PE X a ta):PE X (.UnaryOp d a pos) (tUn r ta):=by
 intro pins s σ H Q I h;exact UnaryOp_ (iS (k pins s σ H _ I h) (by rintro v f ⟨x,w,A,i,l⟩;exact B pins f σ w x v Q A i l))
theorem Z7 {g:Int->Int->Int}(rule:∀(i j:Int) (t u:Tok) (s:Shared) (Q:Value->Shared->Prop) (E:Value->Shared->Prop),C i j->Q (.int (g i j) s.toks) {s with toks:=s.toks+1}->wpAny (model X.prog X.w) X.A (f (.int i t) (.int j u)) Q E s):
  yU X f (rI C fun i j=> .int (g i j)):=by
 intro pins s σ H x y v u Q I k l h;obtain⟨i,j,rfl,rfl,d,q⟩:=h;obtain⟨t,rfl⟩:=k;obtain⟨B,rfl⟩:=l;exact rule i j t B s _ _ d ⟨.int (g i j),H,I.tok _,⟨_,rfl⟩,q⟩
theorem YO {g:Int->Int->Int}(rule:∀(i j:Int) (t u:Tok) (s:Shared) (Q:Value->Shared->Prop) (E:Value->Shared->Prop),Q (.int (g i j) s.toks) {s with toks:=s.toks+1}->wpAny (model X.prog X.w) X.A (f (.int i t) (.int j u)) Q E s):
  yU X f (UR fun i j=> .int (g i j)):=by
 intro pins s σ H x y v u Q I B d h;obtain⟨i,j,rfl,rfl,q⟩:=h;obtain⟨t,rfl⟩:=B;obtain⟨l,rfl⟩:=d;exact rule i j t l s _ _ ⟨.int (g i j),H,I.tok _,⟨_,rfl⟩,q⟩
theorem U2 {g:Int->Int->Bool}(rule:∀(i j:Int) (t u:Tok) (s:Shared) (Q:Value->Shared->Prop) (E:Value->Shared->Prop),Q (.bool (g i j)) s->wpAny (model X.prog X.w) X.A (f (.int i t) (.int j u)) Q E s):
  yU X f (UR fun i j=> .bl (g i j)):=by
 intro pins s σ H x y v u Q I B d h;obtain⟨i,j,rfl,rfl,q⟩:=h;obtain⟨t,rfl⟩:=B;obtain⟨l,rfl⟩:=d;exact rule i j t l s _ _ ⟨.bl (g i j),H,I,rfl,q⟩
theorem lJ:yU X (binaryOp .Add) (UR fun i j=> .int (i+j)):=YO fun _ _ _ _ _ _ _ q=>add_int q
theorem jE:yU X (binaryOp .Sub) (UR fun i j=> .int (i - j)):=YO fun _ _ _ _ _ _ _ q=>sub_int q
theorem AX:yU X (binaryOp .Mod) (rI (fun _ j=>0<j) fun i j=> .int (i % j)):=Z7 fun i j _ _ _ _ _ d q=>by
 have A:(0:Int)<j:=d;exact mod_int' (by lia) (by rw[Int.fmod_eq_emod_of_nonneg i (by lia)];exact q)
theorem unI {g:Int->Int}(rule:∀(i:Int) (t:Tok) (s:Shared) (Q:Value->Shared->Prop) (E:Value->Shared->Prop),Q (.int (g i) s.toks) {s with toks:=s.toks+1}->wpAny (model X.prog X.w) X.A (f (.int i t)) Q E s):
  Z5 X f (rU fun i=> .int (g i)):=by
 intro pins s σ H x v Q I d h;obtain⟨i,rfl,q⟩:=h;obtain⟨t,rfl⟩:=d;exact rule i t s _ _ ⟨.int (g i),H,I.tok _,⟨_,rfl⟩,q⟩
theorem gF:Z5 X (unaryOp .USub) (rU fun i=> .int (-i)):=unI fun _ _ _ _ _ q=>neg_int q
end
noncomputable def YQ:V->V->Bool
 | .kY,.kY=>true | .kY,.int _=>true | .int _,.kY=>true | .kY,.bl _=>true | .bl _,.kY=>true | .kY,.str _=>true | .str _,.kY=>true
 | .int _,.int _=>true | .bl _,.bl _=>true | .str _,.str _=>true | .Iv _,.Iv _=>true
 | .int _,.str _=>true | .str _,.int _=>true | .bl _,.str _=>true | .str _,.bl _=>true
 |_,_=>false
def rEq:R2:=fun x y H Q=>YQ x y=true/\Q (.bl (decide (x=y))) H
def rNe:R2:=fun x y H Q=>YQ x y=true/\Q (.bl (!decide (x=y))) H
theorem OA:decide (V.int i=V.int j)=(i==j):=by
 rw[bg];simp
theorem R4:decide (V.bl i=V.bl j)=(i==j):=by
 rw[bg];simp
theorem OB:decide (V.str i=V.str j)=(i==j):=by
 rw[bg];simp
theorem OC:decide (V.Iv i=V.Iv j)=(i.toList==j.toList):=by
 rw[bg];cases i;cases j;simp
section
variable {X:Cx}{a b c:Expr}{ta tb tc:TE}{pos:Pos}
theorem fY {σ:St}(I:Inv X pins σ H s)(q:Q (.bl k) H)(e:k=d):EP X pins σ Q (.bool d) s:=by
 subst e;exact⟨.bl k,H,I,rfl,q⟩
theorem iV:yU X (compareOp .Eq) rEq:=by
 intro pins s σ H x y v u Q I f d h;obtain⟨l,q⟩:=h;cases x with
 |kY=>
  cases f;cases y with
  |kY=>cases d;exact PySem.EqNone.eq_none_none (fY I q (by simp))
  |bl j=>cases d;exact PySem.EqNone.eq_none_bool (fY I q (by simp))
  |int j=>obtain⟨A,rfl⟩:=d;exact PySem.EqNone.eq_none_int (fY I q (by simp))
  |str j=>obtain⟨A,rfl⟩:=d;exact PySem.EqNone.eq_none_str (fY I q (by simp))
  |_=>exact absurd (show false=true from l) aU
 |bl i=>
  cases f;cases y with
  |kY=>cases d;exact PySem.EqNone.eq_bool_none (fY I q (by simp))
  |bl j=>cases d;exact eq_bool (fY I q R4)
  |str j=>obtain⟨A,rfl⟩:=d;exact PySem.EqMixed.eq_bool_str (fY I q (by simp))
  |_=>exact absurd (show false=true from l) aU
 |int i=>
  obtain⟨t,rfl⟩:=f;cases y with
  |kY=>cases d;exact PySem.EqNone.eq_int_none (fY I q (by simp))
  |int j=>obtain⟨A,rfl⟩:=d;exact eq_int (fY I q OA)
  |str j=>obtain⟨A,rfl⟩:=d;exact PySem.EqMixed.eq_int_str (fY I q (by simp))
  |_=>exact absurd (show false=true from l) aU
 |str i=>
  obtain⟨t,rfl⟩:=f;cases y with
  |kY=>cases d;exact PySem.EqNone.eq_str_none (fY I q (by simp))
  |bl j=>cases d;exact PySem.EqMixed.eq_str_bool (fY I q (by simp))
  |int j=>obtain⟨A,rfl⟩:=d;exact PySem.EqMixed.eq_str_int (fY I q (by simp))
  |str j=>obtain⟨A,rfl⟩:=d;exact eq_str (fY I q OB)
  |_=>exact absurd (show false=true from l) aU
 |Iv i=>
  obtain⟨t,rfl⟩:=f;cases y with
  |Iv j=>obtain⟨A,rfl⟩:=d;exact PySem.W.eq_bytes (fY I q OC)
  |_=>exact absurd (show false=true from l) aU
 |_=>cases y <;>exact absurd (show false=true from l) aU
theorem Ce:yU X (compareOp .NotEq) rNe:=by
 intro pins s σ H x y v u Q I f d h;obtain⟨l,q⟩:=h;cases x with
 |kY=>
  cases f;cases y with
  |kY=>cases d;exact PySem.EqNone.ne_none_none (fY I q (by simp))
  |bl j=>cases d;exact PySem.EqNone.ne_none_bool (fY I q (by simp))
  |int j=>obtain⟨A,rfl⟩:=d;exact PySem.EqNone.ne_none_int (fY I q (by simp))
  |str j=>obtain⟨A,rfl⟩:=d;exact PySem.EqNone.ne_none_str (fY I q (by simp))
  |_=>exact absurd (show false=true from l) aU
 |bl i=>
  cases f;cases y with
  |kY=>cases d;exact PySem.EqNone.ne_bool_none (fY I q (by simp))
  |bl j=>cases d;exact ne_bool (fY I q (congrArg not R4))
  |str j=>obtain⟨A,rfl⟩:=d;exact PySem.EqMixed.ne_bool_str (fY I q (by simp))
  |_=>exact absurd (show false=true from l) aU
 |int i=>
  obtain⟨t,rfl⟩:=f;cases y with
  |kY=>cases d;exact PySem.EqNone.ne_int_none (fY I q (by simp))
  |int j=>obtain⟨A,rfl⟩:=d;exact ne_int (fY I q (congrArg not OA))
  |str j=>obtain⟨A,rfl⟩:=d;exact PySem.EqMixed.ne_int_str (fY I q (by simp))
  |_=>exact absurd (show false=true from l) aU
 |str i=>
  obtain⟨t,rfl⟩:=f;cases y with
  |kY=>cases d;exact PySem.EqNone.ne_str_none (fY I q (by simp))
  |bl j=>cases d;exact PySem.EqMixed.ne_str_bool (fY I q (by simp))
  |int j=>obtain⟨A,rfl⟩:=d;exact PySem.EqMixed.ne_str_int (fY I q (by simp))
  |str j=>obtain⟨A,rfl⟩:=d;exact ne_str (fY I q (congrArg not OB))
  |_=>exact absurd (show false=true from l) aU
 |Iv i=>
  obtain⟨t,rfl⟩:=f;cases y with
  |Iv j=>obtain⟨A,rfl⟩:=d;exact PySem.W.ne_bytes (fY I q (congrArg not OC))
  |_=>exact absurd (show false=true from l) aU
 |_=>cases y <;>exact absurd (show false=true from l) aU
theorem R5:yU X (compareOp .Lt) (UR fun i j=> .bl (decide (i<j))):=U2 fun _ _ _ _ _ _ _ q=>lt_int q
theorem u4:yU X (compareOp .LtE) (UR fun i j=> .bl (decide (i<=j))):=U2 fun _ _ _ _ _ _ _ q=>le_int q
theorem uH:yU X (compareOp .Gt) (UR fun i j=> .bl (decide (j<i))):=U2 fun _ _ _ _ _ _ _ q=>gt_int q
theorem R6:yU X (compareOp .GtE) (UR fun i j=> .bl (decide (j<=i))):=U2 fun _ _ _ _ _ _ _ q=>ge_int q
theorem eO (b)(h:d≠.In:=by decide)(i:d≠.NotIn:=by decide):behindInMarks d b=false:=by
 have A:(d==CmpOp.In)=false:=by cases d <;>first |rfl |exact absurd rfl h
 have l:(d==CmpOp.NotIn)=false:=by cases d <;>first |rfl |exact absurd rfl i
 cases b <;>simp[behindInMarks,A,l]
theorem gY (w:yU X (compareOp d) r)(t:PE X a ta)(B:PE X b tb)(e:behindInMarks d b=false):PE X (.Compare a [d] [b] pos) (W9 r ta tb):=by
 intro pins s σ H Q I h;exact wpAny_Compare1 (Xa t B I h fun v u f x y l i k A q=>w pins f σ l x y v u Q i k A q) e
def R7(t:TE):TT:=fun σ H Q=>t σ H fun x d=>∃k,x= .bl k/\Q k d
theorem e9 (C:yU X (compareOp d) r)(w:PE X a ta)(P:PE X b tb)(t:behindInMarks d b=false):PT X (.Compare a [d] [b] pos) (R7 (W9 r ta tb)):=by
 intro pins s σ H Q I h;refine wpAny_isTrue_Compare1 (iS (w pins s σ H _ I h) ?_) t;rintro v S ⟨x,G,l,o,p⟩;refine iS (P pins S σ G _ l p) ?_;rintro u n ⟨y,A,q,i,m⟩;refine iS (C pins n σ A x y v u _ q o i m) ?_;rintro c j ⟨z,F,f,L,k,e,B⟩
 subst e;cases L;exact wpAny_truthy_bool ⟨F,f,B⟩
def R8(r l:R2)(ta tb tc:TE):TE:=fun σ H Q=>ta σ H fun x B=>tb σ B fun y A=>r x y A fun z d=>∃k,z= .bl k/\
 (if k=true then tc σ d fun i f=>l y i f Q else Q (.bl false) d)
theorem Ko (K:yU X (compareOp l) r)(q:yU X (compareOp A) t)(P:PE X a ta)(J:PE X b tb)(R:PE X c tc)(m:lastMarks [l,A] [b,c]=false:=by with_unfolding_all rfl):PE X (.Compare a [l,A] [b,c] pos) (R8 r t ta tb tc):=by
 intro pins s σ H Q I h;refine Compare_chain (iS (P pins s σ H _ I h) ?_) m;rintro v D ⟨x,g,S,M,E⟩;refine chain_link (iS (J pins D σ g _ S E) ?_);rintro u j ⟨y,o,L,i,T⟩;refine iS (K pins j σ o x y v u _ L M i T) ?_;rintro d G ⟨z,w,f,r3,k,e,B⟩
 subst e;cases r3;refine wpAny_truthy_bool ?_;cases k with
 |false=>exact ite_ff ⟨.bl false,w,f,rfl,B⟩
 |true=>exact ite_tt (chain_last (iS (R pins G σ w _ f B) (by rintro F W ⟨C,O,N,p,n⟩;exact q pins W σ O y C u F Q N i p n)))
theorem Kp (R:yU X (compareOp l) r)(q:yU X (compareOp A) t)(L:PE X a ta)(hb:PE X b tb)(hc:PE X c tc)(j:lastMarks [l,A] [b,c]=false:=by with_unfolding_all rfl):PT X (.Compare a [l,A] [b,c] pos) (R7 (R8 r t ta tb tc)):=by
 intro pins s σ H Q I h;refine isTrue_chain (iS (L pins s σ H _ I h) ?_) j;rintro v J ⟨x,O,C,W,g⟩;refine test_link (iS (hb pins J σ O _ C g) ?_);rintro u D ⟨y,S,M,i,q2⟩;refine iS (R pins D σ S x y v u _ M W i q2) ?_;rintro d F ⟨z,w,f,r3,k,e,B⟩
 subst e;cases r3;refine wpAny_truthy_bool ?_;cases k with
 |false=>
  obtain⟨k',e',m⟩:=B;cases e';exact ite_ff ⟨w,f,m⟩
 |true=>
  refine ite_tt (test_last (iS (hc pins F σ w _ f B) ?_));rintro P s4 ⟨G,H4,K,p,n⟩;refine iS (q pins s4 σ H4 y G u P _ K i p n) ?_;rintro d' s5 ⟨z2,N,T,r5,k2,E,o⟩;subst E;cases r5;exact wpAny_truthy_bool ⟨N,T,o⟩
def U3(K:PySem.W.Frag)(x:V)(H:Hp)(k:Bool):Prop:=
 match x with
 | .kY=>k=false
 | .bl b=>k=b
 | .int i=>k=(i !=0)
 | .str y=>y.length<=sizeLine/\k=((y.length:Int) !=0)
 | .Iv y=>y.size<=sizeLine/\k=((y.size:Int) !=0)
 | .ref p=>(∃d,oK K H p d/\k= !d.isEmpty)\/(∃d,Ge K H p d/\k= !d.isEmpty)\/∃A,H p=some (.dK A)/\k= !A.isEmpty
 |_=>False
theorem Mt {A:List (κ×Value)}(r:KV d A):(!A.isEmpty)= !d.isEmpty:=by
 cases r <;>rfl
theorem DP (r:Vals A d):(!d.toArray.isEmpty)= !A.isEmpty:=by
 cases r <;>simp
theorem AY:(sizeLine:Nat)<2^63:=by rw[sizeLine_eq];decide
theorem Xb:Z6 X (fun x H Q=>∃k,U3 X.K x H k/\Q k H):=by
 intro pins s σ H x v Q I f h;obtain⟨k,e,q⟩:=h;have G:=AY;have F:sizeLine=16777216:=sizeLine_eq;cases x with
 |kY=>
  cases f;have d:k=false:=e;subst d;exact truthy_none ⟨H,I,q⟩
 |bl b=>
  cases f;have d:k=b:=e;subst d;exact wpAny_truthy_bool ⟨H,I,q⟩
 |int i=>
  obtain⟨t,rfl⟩:=f;have d:k=(i !=0):=e;subst d;exact PySem.P.truthy_int ⟨H,I,q⟩
 |str y=>
  obtain⟨t,rfl⟩:=f;obtain⟨C,d⟩:y.length<=sizeLine/\k=((y.length:Int) !=0):=e;subst d;exact PySem.P.truthy_str (by lia) ⟨H,I.tok _,q⟩
 |Iv y=>
  obtain⟨t,rfl⟩:=f;obtain⟨C,d⟩:y.size<=sizeLine/\k=((y.size:Int) !=0):=e;subst d;exact PySem.W.truthy_bytes (by lia) ⟨H,I.tok _,q⟩
 |ref p=>
  cases f;have d:(∃l,oK X.K H p l/\k= !l.isEmpty)\/(∃l,Ge X.K H p l/\k= !l.isEmpty)\/∃A,H p=some (.dK A)/\k= !A.isEmpty:=e;rcases d with⟨l,hx,d⟩ |⟨l,hx,d⟩ |⟨A,hx,d⟩
  ·subst d;obtain⟨u,r,pl,o⟩:=I.list hx;have B:=r.length;exact wpAny_truthy_list pl.isList (by simp only[aS];lia) ⟨H,I.tok _,by rw[DP r];exact q⟩
  ·subst d;obtain⟨u,r,pl,o⟩:=I.tuple hx;have B:=r.length;exact truthy_tuple pl (by simp only[aS];lia) ⟨H,I.tok _,by rw[DP r];exact q⟩
  ·subst d;obtain⟨o,S,n,r,m⟩:A.length<=sizeLine/\(p==sysModules)=false/\∃n,KV A n/\s.heap.DictOf (Iu X.prog X.w) p n:=I.i9 p _ hx;have B:A.length=n.length:=Paired.length r;exact wpAny_truthy_dict S m (by lia) ⟨H,I.tok _,by rw[Mt r];exact q⟩
 |_=>exact(show False from e).elim
theorem R9(B:PE X a ta)(w:∀whole,isTrue a X.env whole=(do let v<-whole;standAt a.pos;holding [v] (truthy v))):
  PT X a (fun σ H Q=>ta σ H fun x d=>∃k,U3 X.K x d k/\Q k d):=by
 intro pins s σ H Q I h;exact isTrue_plain (iS (B pins s σ H _ I h) (by rintro v f ⟨x,t,A,i,l⟩;exact Xb pins f σ t x v Q A i l)) (w _)
theorem vals1 (r:Vals [x] d):∃u,d=[u]/\RelV x u:=by
 cases r with
 |cons A l=>cases l;exact⟨_,rfl,A⟩
theorem vals2 (r:Vals [x,y] d):∃u A,d=[u,A]/\RelV x u/\RelV y A:=by
 cases r with
 |cons i l=>
  cases l with
  |cons B f=>cases f;exact⟨_,_,rfl,i,B⟩
theorem DQ:qL X (.builtin "abs") (fun d H Q=>∃i,d=[.int i]/\Q (.int (if i<0 then -i else i)) H):=by
 intro pins s σ H d A Q I r h;obtain⟨i,rfl,q⟩:=h;obtain⟨u,rfl,t,rfl⟩:=vals1 r;exact call_abs_int fun u l=>⟨.int (if i<0 then -i else i),H,I.tok _,⟨_,rfl⟩,q⟩
theorem Qs(l:X.calm=true):qL X (.builtin "max") (fun A H Q=>∃i j,A=[.int i,.int j]/\Q (.int (if j>i then j else i)) H):=by
 intro pins s σ H A B Q I r h;obtain⟨i,j,rfl,q⟩:=h;obtain⟨u,x,rfl,⟨t,rfl⟩,⟨v,rfl⟩⟩:=vals2 r;refine max_two_ints (I.ok.hd l) fun f w k=>⟨_,H,I.kept k,?_,q⟩;by_cases d:j>i
 ·rw[ai d,ai d];exact⟨_,rfl⟩
 ·rw[ah d,ah d];exact⟨_,rfl⟩
end
structure Qu(h:Heap)(x dx C:Addr)(mA:Str->Option Value):Prop where
 obj:h.get? x=some (PySem.W.instObj C dx)
 ns:h.Ns1 dx mA
 ne:dx≠x
theorem Qv {h:Heap}(n:h.Ns1 i l):∃od,h.get? i=some od/\∀name,PySem.W.lookIn name od=some (l name):=by
 obtain⟨o,A,b,B,f,k,_,x⟩:=n;refine⟨o,B,fun name=> ?_⟩;have e:=x name;unfold nsFind findBy at e;rw[<-Array.find?_toList] at e;unfold PySem.W.lookIn;rw[f];dsimp only;split
 ·rename_i y q;rw[q] at e;exact congrArg some e
 ·rename_i q;rw[q] at e;have a:A.toList.any (·.refKey)=false:=by
   rw[List.any_eq_false];intro y v;obtain⟨z,t,d⟩:=k y (Array.mem_toList_iff.mp v);simp[DictEntry.refKey,d]
  have w:¬A.toList.any (·.refKey)=true:=by rw[a];exact aU
  rw[ah w];exact congrArg some e
theorem Qu.look (I:Qu h x A C d):∃od,PySem.W.InstAt h x (PySem.W.instObj C A) C (some od)/\∀name,PySem.W.lookIn name od=some (d name):=
 let ⟨od,l,i⟩:=Qv I.ns
 ⟨od,⟨I.obj,rfl,rfl,l⟩,i⟩
section
variable {prog:Program}{w:World}{A:Around}{E:Value->Shared->Prop}{s:Shared}{K:PySem.W.Frag}{x dx C f:Addr}{mA:Str->Option Value}{name:Str}{v:Value}
theorem get_map (X:K.In s.heap)(I:Qu s.heap x dx C mA)(k:PySem.W.plainGet K C name=true)(B:PySem.W.hasDictIn K C=true)(t:PySem.W.findIn K (.ref C) name=some none)(i:mA name=some v)(d:PySem.W.handedIn v=true)(h:Q v {s with toks:=s.toks+1}):
  wpAny (model prog w) A (getAttr (.ref x) name expr) Q E s:=by
 obtain⟨od,J,l⟩:=I.look;exact PySem.W.get_value X J (PySem.W.plainGet_of k).1 (PySem.W.findObj_own B t rfl (by rw[l,i])) d h
theorem U4 (X:K.In s.heap)(I:Qu s.heap x dx C mA)(S:PySem.W.findIn K (.ref C) "__setattr__"=some (some (.builtin "object.__setattr__")))(n:PySem.W.plainOver K C=true)(q:PySem.W.takerIn K C name=some none)(p:PySem.W.hasDictIn K C=true)(o:PySem.Within mA B)(hsz:B.length<=sizeLine)(h:∀h',Qu h' x dx C (fun y=>if y=name then some v else mA y)->Heap.SameBut dx s.heap h'->Q () {s with heap:=h',toks:=s.toks+2}):
  wpAny (model prog w) A (setAttr (.ref x) name v) Q E s:=by
 obtain⟨od,J,z⟩:=I.look;refine PySem.W.set_plain X J S (PySem.W.osa_open (s:={s with toks:=s.toks+1}) (r:=none) X J n q fun b=> ?_);obtain⟨cd,u,i⟩:=PySem.W.any_some p;have H:s.heap.get? x=some ⟨.ref C,some dx,.plain,#[]⟩:=I.obj;refine wpAny_bind (wpAny_pure (wpAny_bind (wpAny_bind (wpAny_loadPart H (wpAny_bind (PySem.W.Looks.here (s:={s with toks:=s.toks+1}) (PySem.W.looks_clsIn X u) ?_))))));rw[i];refine wpAny_pure (a:=some dx) (wpAny_bind (wpAny_pure (wpAny_bind ?_)));refine wpAny_nsSet1 (s:={s with toks:=s.toks+1}) I.ns fun h' d l=> ?_;obtain⟨c,G,F,t,k,e⟩:=d.count (PySem.Within.cons name v o);refine wpAny_bind (wpAny_lookBehind t (by rw[k];exact pastItsLine_dict (aB e (by rw[ak];lia))) ?_);exact wpAny_pure (h _ ⟨(l.2 _ (b5 I.ne)).trans I.obj,d,I.ne⟩ l)
theorem Sa (X:K.In s.heap)(k:PySem.W.makesIn K C=true)(hi:PySem.W.findIn K (.ref C) "__init__"=some (some (.ref f)))(B:PySem.W.typeIn K (.ref f)=some (.type "function"))(h:codeAny (model prog w) (A.under (.builtin "type.__call__" ⟨.ref C::l,i⟩)) (.call (.ref f) ⟨.ref (s.heap.objs.size+1)::l,i⟩) (PySem.W.InitBack (s.heap.objs.size+1) R)
   {s with heap:=(s.heap.push PySem.W.emptyDict).push (PySem.W.instObj C s.heap.objs.size)}):
  codeAny (model prog w) A (.call (.ref C) ⟨l,i⟩) R s:=by
 obtain⟨e,g,d,t,q⟩:=s;exact PySem.W.make_core (PySem.W.makes_of X k) (PySem.W.looks_findIn X hi) (fun self=>PySem.W.bind_fn X self B) (.inl rfl) h
end
noncomputable def jr(f:Str)(v:V):List (Str×V)->List (Str×V)
 |[]=>[(f,v)]
 |(g,x)::r=>if g=f then(g,v)::r else(g,x)::jr f v r
theorem Cf (f g)(v):∀fs:List (Str×V),(jr f v fs).lookup g=if g=f then some v else fs.lookup g
 |[]=>by
  show List.lookup g [(f,v)]=_;by_cases h:g=f
  ·have d:(g==f)=true:=beq_iff_eq.mpr h;simp only[List.lookup,d,ai h]
  ·have d:(g==f)=false:=cZ.mpr h;simp only[List.lookup,d,ah h]
 |(k,x)::r=>by
  have l:=Cf f g v r;rw[show jr f v ((k,x)::r)=(if k=f then(k,v)::r else(k,x)::jr f v r) from rfl];by_cases A:k=f
  ·rw[ai A];by_cases h:g=k
   ·have d:(g==k)=true:=beq_iff_eq.mpr h;simp only[List.lookup,d,ai (h.trans A)]
   ·have d:(g==k)=false:=cZ.mpr h;simp only[List.lookup,d,ah (fun e:g=f=>h (e.trans A.symm))]
  ·rw[ah A];by_cases h:g=k
   ·have d:(g==k)=true:=beq_iff_eq.mpr h;simp only[List.lookup,d,ah (fun e:g=f=>A (h.symm.trans e))]
   ·have d:(g==k)=false:=cZ.mpr h;simp only[List.lookup,d];exact l
theorem AZ(f:Str)(v:V):∀fs:List (Str×V),f∈(jr f v fs).map (·.1)/\∀g,g∈fs.map (·.1)->g∈(jr f v fs).map (·.1)
 |[]=>⟨by simp[jr],fun g h=>by simp at h⟩
 |(k,x)::r=>by
  obtain⟨l,A⟩:=AZ f v r;rw[show jr f v ((k,x)::r)=(if k=f then(k,v)::r else(k,x)::jr f v r) from rfl];by_cases d:k=f
  ·rw[ai d];subst d;exact⟨by simp,fun g h=>by simpa using h⟩
  ·rw[ah d];refine⟨?_,fun g h=> ?_⟩
   ·rw[aK];exact ao _ l
   ·rw[aK] at h⊢;rcases aL.mp h with e |e
    ·exact aL.mpr (.inl e)
    ·exact ao _ (A g e)
theorem Cg (f)(v):∀fs:List (Str×V),(jr f v fs).length<=fs.length+1
 |[]=>by simp[jr]
 |(k,x)::r=>by
  have A:=Cg f v r;rw[show jr f v ((k,x)::r)=(if k=f then(k,v)::r else(k,x)::jr f v r) from rfl];by_cases d:k=f
  ·rw[ai d,ak,ak];lia
  ·rw[ah d,ak,ak];lia
theorem Mj.some_of (r:Mj (some v) o):∃u,o=some u/\RelV v u:=by
 cases o with
 |none=>exact(show False from r).elim
 |some u=>exact⟨u,rfl,r⟩
theorem Qw (r:RelV v u):PySem.W.handedIn u=true:=by
 cases v with
 |kY=>cases(show u=Value.none from r);rfl
 |bl b=>cases(show u=Value.bool b from r);rfl
 |int i=>obtain⟨t,e⟩:=(show ∃t,u=Value.int i t from r);cases e;rfl
 |str x=>obtain⟨t,e⟩:=(show ∃t,u=Value.str x t from r);cases e;rfl
 |Iv b=>obtain⟨t,e⟩:=(show ∃t,u=Value.bytes b t from r);cases e;rfl
 |Yt b=>obtain⟨t,e⟩:=(show ∃t,u=Value.float b t from r);cases e;rfl
 |ref a=>cases(show u=Value.ref a from r);rfl
 |ty n=>cases(show u=Value.type n from r);rfl
section
variable {P:Program}{w:World}{H H':Hp}{h h':Heap}{a C dx:Addr}{fs fs':List (Str×V)}
theorem OD(l:yR P w H h)(e:H a=some (.ins C dx fs)):∃A,Qu h a dx C A/\(∀f,Mj (fs.lookup f) (A f))/\PySem.Within A (fs.map (·.1))/\fs.length<=1000/\H dx=some (.own a):=by
 obtain⟨d,z,ne,i,A,n,r,q⟩:=(show lZ P w H h a (.ins C dx fs) from l a _ e);exact⟨A,⟨i,n,ne⟩,r,q,z,d⟩
end
structure U5(K:PySem.W.Frag)(C:Addr):Prop where
 pg:PySem.W.plainGet K C Str.empty=true
 hd:PySem.W.hasDictIn K C=true
 po:PySem.W.plainOver K C=true
 sa:PySem.W.findIn K (.ref C) "__setattr__"=some (some (.builtin "object.__setattr__"))
theorem U5.get {K:PySem.W.Frag}(c:U5 K C)(f):PySem.W.plainGet K C f=true:=c.pg
def pE(K:PySem.W.Frag)(C:Addr)(f:Str):Prop:=PySem.W.findIn K (.ref C) f=some none
theorem pE.YR {K:PySem.W.Frag}(n:pE K C f):PySem.W.takerIn K C f=some none:=by
 unfold PySem.W.takerIn;rw[show PySem.W.findIn K (.ref C) f=some none from n];rfl
section
variable {X:Cx}{pins:List (Addr×Obj)}{σ:St}{H:Hp}{s:Shared}{a C dx:Addr}{fs:List (Str×V)}{f:Str}{v:V}{A:Around}{E:Value->Shared->Prop}
theorem Mu (I:Inv X pins σ H s)(e:H a=some (.ins C dx fs))(c:U5 X.K C)(n:pE X.K C f)(l:fs.lookup f=some v)(h:∀u d,Inv X pins σ H d->RelV v u->Q u d):wpAny (model X.prog X.w) A (getAttr (.ref a) f b) Q E s:=by
 obtain⟨k,O,r,_,_,_⟩:=OD I.i9 e;obtain⟨u,B,i⟩:=Mj.some_of (v:=v) (o:=k f) (by rw[<-l];exact r f);exact get_map I.RO O (c.get f) c.hd n B (Qw i) (h u _ (I.tok _) i)
theorem Mv (I:Inv X pins σ H s)(e:H a=some (.ins C dx fs))(c:U5 X.K C)(n:pE X.K C f)(j:fs.length<1000)(m:RelV y u)(h:∀i,Inv X pins σ (upd H a (.ins C dx (jr f y fs))) i->Q () i):wpAny (model X.prog X.w) A (setAttr (.ref a) f u) Q E s:=by
 obtain⟨k,O,r,l,_,B⟩:=OD I.i9 e;have L:(fs.map (·.1)).length<=sizeLine:=by rw[lMp,sizeLine_eq];lia
 refine U4 I.RO O c.sa c.po n.YR c.hd l L fun t d p=>h _ ?_;have S:∃o,t.get? dx=some o:=let ⟨o,_,_,P,_⟩:=d.ns;⟨o,P⟩;refine I.write (x:=a) (e:=dx) (by rw[e];exact True.intro) (.inr B) (fun b q G z=>(p.2 b G).trans z) S ?_;refine⟨by rw[dY O.ne];exact B,?_,O.ne,d.obj,_,d.ns,fun g=> ?_,fun g F=> ?_⟩
 ·have:=Cg f y fs;lia
 ·show Mj ((jr f y fs).lookup g) (if g=f then some u else k g);rw[Cf];by_cases q:g=f
  ·rw[ai q,ai q];exact m
  ·rw[ah q,ah q];exact r g
 ·by_cases q:g=f
  ·rw[q];exact(AZ f y fs).1
  ·refine(AZ f y fs).2 g (l g fun z=>F ?_);show(if g=f then some u else k g)=none;rw[ah q];exact z
theorem Inv.made(I:Inv X pins σ H s):Inv X pins σ (upd (upd H s.heap.objs.size (.own (s.heap.objs.size+1))) (s.heap.objs.size+1) (.ins C s.heap.objs.size []))
  {s with heap:=(s.heap.push PySem.W.emptyDict).push (PySem.W.instObj C s.heap.objs.size)}:=by
 have d:(s.heap.push PySem.W.emptyDict).get? s.heap.objs.size=some PySem.W.emptyDict:=Heap.get?_push_size s.heap rfl;have l:((s.heap.push PySem.W.emptyDict).push (PySem.W.instObj C s.heap.objs.size)).get? (s.heap.objs.size+1)=some (PySem.W.instObj C s.heap.objs.size):=by
  have:=Heap.get?_push_size (s.heap.push PySem.W.emptyDict) (o:=PySem.W.instObj C s.heap.objs.size) rfl
  rwa [Heap.size_push] at this
 have k:(s.heap.push PySem.W.emptyDict).Ns s.heap.objs.size (fun _=>none):=⟨PySem.W.emptyDict,#[],_,d,rfl,(fun e B=>absurd B (by simp)),fun _=>rfl⟩;have i:=I.laid (a:=s.heap.objs.size) (o:= .own (s.heap.objs.size+1)) (h':=s.heap.push PySem.W.emptyDict) (t':=s.toks) (fun b u q=>Heap.get?_push_of_some _ q) (aj _) ⟨_,d⟩;refine i.laid (a:=s.heap.objs.size+1) (o:= .ins C s.heap.objs.size []) (t':=s.toks) (fun b u q=>Heap.get?_push_of_some _ q) (Nat.le_of_eq (Heap.size_push _ _)) ?_;have ne:s.heap.objs.size≠s.heap.objs.size+1:=bN (Nat.lt_succ_self _);refine⟨by rw[dY ne,dj],aR _,ne,l,fun _=>none,(Heap.Ns1.of_empty k).at fun o q=>Heap.get?_push_of_some _ q,fun _=>True.intro,fun y x=>absurd rfl x⟩
theorem U6 {f:Str}{s:Shared}(l:attributeBase e f env (eval e env)=eval e env)(h:wpAny (model prog w) A (eval e env) (fun o d=>wpAny (model prog w) A (getAttr o f true) Q E d) E s):wpAny (model prog w) A (eval (.Attribute e f pos) env) Q E s:=
 Attribute_any_ h (by rw[arm_eval_Attribute,l])
end
def Qx(K:PySem.W.Frag)(l:TE)(f:Str):TE:=fun σ H Q=>l σ H fun x d=>∃a C A fs v,x= .ref a/\d a=some (.ins C A fs)/\U5 K C/\pE K C f/\fs.lookup f=some v/\Q v d
def Z8(K:PySem.W.Frag)(l i:TE)(f:Str):TS:=fun D σ H=>i σ H fun y B=>l σ B fun x d=>∃a C A fs,x= .ref a/\d a=some (.ins C A fs)/\U5 K C/\pE K C f/\fs.length<1000/\
 D.nx σ (upd d a (.ins C A (jr f y fs)))
section
variable {X:Cx}{o e value:Expr}{f:Str}{pos pos' tpos:Pos}{ta tv:TE}
theorem Xc(t:PE X e ta)(i:attributeBase e f X.env (eval e X.env)=eval e X.env):PE X (.Attribute e f pos) (Qx X.K ta f):=by
 intro pins s σ H Q I h;refine U6 i (iS (t pins s σ H _ I h) ?_);rintro u S ⟨x,b,A,k,a,C,y,fs,v,w,B,c,n,l,q⟩;subst w;obtain rfl:u=Value.ref a:=k;exact Mu A B c n l fun G p d r=>⟨v,b,d,r,q⟩
theorem ij(S:PE X o ta)(k:PE X value tv)(F:swapsWith value (some (.Attribute o f pos')) pos.line X.env=pure false):PS X (.Assign [.Attribute o f pos'] value pos) (Z8 X.K ta tv f):=by
 intro pins s σ H D I h;refine plainObj_wpAny_Assign_Attribute (iS (k pins s σ H _ I h) ?_) F;rintro u v ⟨y,G,A,d,q⟩;refine iS (S pins v σ G _ A q) ?_;rintro w P ⟨x,z,i,b,a,C,L,fs,p,t,c,n,l,r⟩;subst p;obtain rfl:w=Value.ref a:=b;exact Mv i t c n l d fun m B=>⟨σ,_,B,r⟩
end
structure l5(k:Nat)(A:Around):Prop where
 hd:A.handled=none
 dp:A.depth+3*k+5<recursionLimit
 un:A.units+16*k+200<cLine
theorem l5.mono (r:l5 k A)(h:j<=k):l5 j A:=⟨r.hd,by have:=r.dp;lia,by have:=r.un;lia⟩
theorem l5.deeper (r:l5 (k+1) A)(env):l5 k (A.deeper env):=
 ⟨r.hd,by have:=r.dp;show A.depth+1+3*k+5<_;lia,by have:=r.un;show A.units+3+16*k+200<_;lia⟩
theorem Mw {A:Around}:(A.under (.builtin "type.__call__" ⟨.ref C::l,d⟩)).depth=A.depth+1:=by
 first |rfl |simp[Around.under,Code.weight,Code.isCreation,Code.isGuard,Code.isCaller,Code.frames,Code.isFrame,guardIds]
theorem Mx {A:Around}:(A.under (.builtin "type.__call__" ⟨.ref C::l,d⟩)).units=A.units+1:=by
 first |rfl |simp[Around.under,Code.cUnits,Code.frames,Code.isFrame]
theorem l5.make (r:l5 (k+1) A)(C)(l)(d):l5 k (A.under (.builtin "type.__call__" ⟨.ref C::l,d⟩)):=
 ⟨r.hd,by have:=r.dp;rw[Mw];lia,by have:=r.un;rw[Mx];lia⟩
theorem l5.depth (r:l5 k A):A.depth<recursionLimit:=by have:=r.dp;lia
theorem l5.units (r:l5 k A):A.units+64<cLine:=by have:=r.un;lia
def U7:TA:=fun _ H Q=>Q [] H
def Kq(i:TE)(tr:TA):TA:=fun σ H Q=>i σ H fun x A=>tr σ A fun l d=>Q (x::l) d
section
variable {X:Cx}{e:Expr}{es:List Expr}{te:TE}{t:TA}{pos:Pos}
theorem de:PA X [] U7:=fun _ _ _ _ H Q I h=>Calls.spliced_nil ⟨[],H,I,.nil,h⟩
theorem c9(a:PE X e te)(B:PA X es t)(n:starEach (e::es) X.env=(false,eval e X.env)::starEach es X.env:=by rfl):PA X (e::es) (Kq te t):=by
 intro pos pins s σ H Q I h;rw[n];show wpAny _ _ (spliced ((false,eval e X.env)::backTo pos (starEach es X.env))) _ _ s;refine Calls.spliced_cons (iS (a pins s σ H _ I h) ?_);rintro u w ⟨x,b,l,v,k⟩;exact iS (B pos pins w σ b _ l k) (by rintro r p ⟨A,d,f,i,q⟩;exact⟨x::A,d,f,.cons v i,q⟩)
def YS(t:TA):TE:=fun σ H Q=>t σ H fun A d=>A.length<=sizeLine/\∀p,d p=none->Q (.ref p) (upd d p (.tup A))
def YT(t:TA):TE:=fun σ H Q=>t σ H fun A d=>A.length<=sizeLine/\∀p,d p=none->Q (.ref p) (upd d p (.lst A))
theorem hX{x1}(h:PA X es t):PE X (.Tuple es x1 pos) (YS t):=by
 intro pins s σ H Q I i;refine wpAny_Tuple_spliced (iS (h pos pins s σ H _ I i) ?_);rintro B d ⟨f,l,A,r,z,q⟩;refine ⟨by rw[<-r.length];exact z,?_⟩;have k:l d.heap.objs.size=none:=A.i9.fresh (aj _);refine⟨.ref d.heap.objs.size,upd l d.heap.objs.size (.tup f),A.laid (t':=d.toks) (fun b u e=>Heap.get?_push_of_some _ e) (aj _) ?_,rfl,q _ k⟩;exact⟨z,B,r,⟨_,Heap.get?_push_size _ rfl,rfl,_,rfl⟩⟩
theorem d9(h:PA X es t):PE X (.List es pos) (YT t):=by
 intro pins s σ H Q I i;refine wpAny_List_spliced (iS (h pos pins s σ H _ I i) ?_);rintro B d ⟨f,l,A,r,z,q⟩;refine ⟨by rw[<-r.length];exact z,?_⟩;have k:l d.heap.objs.size=none:=A.i9.fresh (aj _);refine⟨.ref d.heap.objs.size,upd l d.heap.objs.size (.lst f),A.laid (t':=d.toks) (fun b u e=>Heap.get?_push_of_some _ e) (aj _) ?_,rfl,q _ k⟩;exact⟨z,B,0,r,Heap.get?_push_size _ rfl⟩
end
abbrev Sp:=List V->Hp->VK->XK->Prop
abbrev RP:=List Env->Hp->Shared->XK->Value->Shared->Prop
structure My(P:Program)(w:World)(K:PySem.W.Frag)(mg:Str->Option Value)(base:Heap)(A:Around)(outer:List Env)(s:Shared)(H:Hp):Prop where
 frames:A.frames=some outer
 mod:Mod K mg base
 bs:∀b o,base.get? b=some o->s.heap.get? b=some o/\H b=none
 UX:base.objs.size<=s.heap.objs.size
 CI:s.heap.FunFrames base outer
 WY:∀b∈RV outer,H b=none
 i9:yR P w H s.heap
 bare:AllBare s.gens
def CE(outer:List Env)(P:Program)(w:World)(H:Hp)(s:Shared)(Q:VK)(u:Value)(d:Shared):Prop:=
 ∃v A,d.os=s.os/\AllBare d.gens/\Un (RV outer) [] H A s.heap d.heap/\yR P w A d.heap/\RelV v u/\Q v A
def CR(CX:RP)(outer:List Env)(P:Program)(w:World)(H:Hp)(s:Shared)(Q:VK)(E:XK)(r:Result)(d:Shared):Prop:=
 match r with
 | .ok (.ret u)=>CE outer P w H s Q u d
 | .ok _=>False
 | .error e=>CX outer H s E e d
structure rB(P:Program)(w:World)(K:PySem.W.Frag)(mg:Str->Option Value)(base:Heap)(CX:RP)(k:Nat)(f:Addr)(fd:FuncData)(ps:List Str)(sp:Sp):Prop where
 len:∀vs H Q E,sp vs H Q E->vs.length=ps.length
 run:∀(A:Around) (outer:List Env) (s:Shared) (H:Hp) (args:Args) (us:List Value) (vs:List V) (Q:VK) (E:XK),l5 k A->My P w K mg base A outer s H->BindsTo s fd args (ps.zip us)->Vals vs us->sp vs H Q E->
  codeAny (model P w) A (.call (.ref f) args) (CR CX outer P w H s Q E) s
theorem rB.mono {K:PySem.W.Frag}(F:rB P w K d base CX j f l ps sp)(h:j<=k):
  rB P w K d base CX k f l ps sp:=⟨F.len,fun A outer s H args i B Q E x=>F.run A outer s H args i B Q E (x.mono h)⟩
theorem rB.imp {K:PySem.W.Frag}(F:rB P w K i base CX k f B ps sp)(h:∀d H Q E,l d H Q E->sp d H Q E):rB P w K i base CX k f B ps l:=
 ⟨fun d H Q E q=>F.len d H Q E (h _ _ _ _ q),fun A outer s H args x d Q E t a e v b=>F.run A outer s H args x d Q E t a e v (h _ _ _ _ b)⟩
theorem My.make {K:PySem.W.Frag}(e:My P w K d base A outer s H)(C)(i)(l):
  My P w K d base (A.under (.builtin "type.__call__" ⟨.ref C::i,l⟩)) outer s H:=⟨by first |exact e.frames |(simpa [Around.under,Code.envs,Code.isFrame,pushEnvs] using e.frames),e.mod,e.bs,e.UX,e.CI,e.WY,e.i9,e.bare⟩
section
variable {X:Cx}{pins:List (Addr×Obj)}{σ:St}{H:Hp}{s s':Shared}
theorem Inv.YU(I:Inv X pins σ H s):My X.prog X.w X.K X.mg X.base X.A X.stack s H:=
 ⟨I.ok.frames,I.ok.mod,I.bs,aB I.ok.UX I.sz,I.stack,I.Ov,I.i9,I.bare⟩
theorem Inv.after (I:Inv X pins σ H s)(h:CE X.stack X.prog X.w H s Q u s'):EP X pins σ Q u s':=by
 obtain⟨v,i,B,bare,un,l,r,q⟩:=h;obtain⟨f,g,d,t,A⟩:=s';obtain rfl:A=s.os:=B;exact⟨v,i,I.call (h':=f) (g':=g) (d':=d) (t':=t) (ch:=[]) un l bare (fun b z=>absurd z (by simp)),r,q⟩
end
def Wl(sp:Sp)(d:List V)(E:XK)(t:TA):TE:=fun σ H Q=>t σ H fun A l=>sp (A ++ d) l Q E
def Wm(C:Addr)(sp:Sp)(l:List V)(E:XK)(t:TA):TE:=fun σ H Q=>t σ H fun f A=>∀x d,A x=none->A d=none->d≠x->
 sp (.ref x::(f ++ l)) (upd (upd A d (.own x)) x (.ins C d [])) (fun v i=>v= .kY/\Q (.ref x) i) E
def Binds(K:PySem.W.Frag)(l:FuncData)(ps:List Str)(A:List Value):Prop:=
 ∀(s:Shared) (d:List Value),K.In s.heap->(d ++ A).length=ps.length->BindsTo s l ⟨d,[]⟩ (ps.zip (d ++ A))
theorem Binds.all {K:PySem.W.Frag}(h:∀d:List Value,d.length=ps.length->bindArgs A ⟨d,[]⟩=pure (ps.zip d)):Binds K A ps []:=fun s d _ l=>by
 rw[cw] at l⊢;exact .of_eq (h d l)
def Passes(CX:RP)(X:Cx)(E:XK):Prop:=∀(pins:List (Addr×Obj)) (σ:St) (H:Hp) (s:Shared) (e:Value) (d:Shared),Inv X pins σ H s->CX X.stack H s E e d->X.xe e d
section
variable {X:Cx}{CX:RP}{k:Nat}{f C:Addr}{fd:FuncData}{ps:List Str}{sp:Sp}{dvs:List V}{ds:List Value}{E:XK}{x m:Str}{p pos apos:Pos}{e o:Expr}{es:List Expr}{ta:TE}{t:TA}
theorem Sb {σ:St}(F:rB X.prog X.w X.K X.mg X.base CX k f fd ps sp)(b:l5 k X.A)(S:Binds X.K fd ps ds)(q:Vals dvs ds)(n:Passes CX X E)(I:Inv X pins σ H s)(r:Vals i d)(h:sp (i ++ dvs) H Q E):wpAny (model X.prog X.w) X.A (call (.ref f) d) (EP X pins σ Q) X.xe s:=by
 have B:Vals (i ++ dvs) (d ++ ds):=r.append q;have v:(d ++ ds).length=ps.length:=by rw[<-B.length];exact F.len _ _ _ _ h
 refine wpAny_call (codeAny_mono (F.run X.A X.stack s H ⟨d,[]⟩ (d ++ ds) (i ++ dvs) Q E b I.YU (S s d I.RO v) B h) fun r y l=> ?_);cases r with
 |error e=>exact n pins σ H s e y I l
 |ok a=>
  cases a with
  |ret u=>exact I.after l
  |next=>exact False.elim l
  |brk=>exact False.elim l
  |cont=>exact False.elim l
theorem U8(F:rB X.prog X.w X.K X.mg X.base CX k f fd ps sp)(a:l5 k X.A)(u:Gl X x)(G:X.mg x=some (.ref f))(S:PySem.W.keepIn X.K (.ref f)=true)(n:Binds X.K fd ps ds)(v:Vals dvs ds)(b:Passes CX X E)
  (y:PA X (e::es) t) (i:(x==("__debug__":Str))=false:=by decide) (B:starEach (e::es) X.env=(false,eval e X.env)::starEach es X.env:=by rfl) (d:(backTo pos (starEach es X.env)).any (·.1)=false:=by rfl):
  PE X (.Call (.Name x p) (e::es) [] pos) (Wl sp dvs E t):=by
 intro pins s σ H Q I h;refine wpAny_Call_Name_kw (IA I u G ?_ i);refine PySem.W.callWith_K (h₀:=X.base) I.ok.mod.Yu S (iS (y pos pins s σ H _ I h) ?_) B d;rintro z P ⟨c,L,l,r,q⟩;refine ⟨l.RO,?_⟩;exact Sb F a n v b l r q
structure Mk(K:PySem.W.Frag)(C f:Addr):Prop where
 makes:PySem.W.makesIn K C=true
 init:PySem.W.findIn K (.ref C) "__init__"=some (some (.ref f))
 fn:PySem.W.isFn K (.ref f)=true
 kp:PySem.W.keepIn K (.ref C)=true
theorem Sd {σ:St}(M:Mk X.K C f)(F:rB X.prog X.w X.K X.mg X.base CX k f fd ps sp)(y:l5 (k+1) X.A)(D:Binds X.K fd ps ds)(P:Vals dvs ds)(L:Passes CX X E)(I:Inv X pins σ H s)(r:Vals q d)(h:∀x i,H x=none->H i=none->i≠x->sp (.ref x::(q ++ dvs)) (upd (upd H i (.own x)) x (.ins C i [])) (fun v G=>v= .kY/\Q (.ref x) G) E):
  wpAny (model X.prog X.w) X.A (call (.ref C) d) (EP X pins σ Q) X.xe s:=by
 have b:=h (s.heap.objs.size+1) s.heap.objs.size (I.i9.fresh (Nat.le_succ _)) (I.i9.fresh (aj _)) (bN (Nat.lt_succ_self _));have B:=Inv.made (C:=C) I;have a:Vals (V.ref (s.heap.objs.size+1)::(q ++ dvs)) (Value.ref (s.heap.objs.size+1)::(d ++ ds)):= .cons rfl (r.append P);have j:(Value.ref (s.heap.objs.size+1)::d ++ ds).length=ps.length:=by
  have e:=a.length;rw[F.len _ _ _ _ b] at e;exact e.symm
 refine wpAny_call (Sa (f:=f) I.RO M.makes M.init (beq_iff_eq.mp M.fn) (codeAny_mono (F.run _ X.stack _ _ ⟨Value.ref (s.heap.objs.size+1)::d,[]⟩ (Value.ref (s.heap.objs.size+1)::(d ++ ds)) _ _ E (y.make C d [])
  (B.YU.make C d []) (D _ (Value.ref (s.heap.objs.size+1)::d) B.RO j) a b) fun r g l=> ?_))
 cases r with
 |error e=>exact L pins σ _ _ e g B l
 |ok n=>
  cases n with
  |ret u=>
   obtain⟨v,N,z,S,ev,c⟩:=B.after l;subst ev;exact⟨S,⟨V.ref (s.heap.objs.size+1),N,z,rfl,c⟩⟩
  |next=>exact False.elim l
  |brk=>exact False.elim l
  |cont=>exact False.elim l
theorem U9(M:Mk X.K C f)(F:rB X.prog X.w X.K X.mg X.base CX k f fd ps sp)(a:l5 (k+1) X.A)(u:Gl X x)(y:X.mg x=some (.ref C))(n:Binds X.K fd ps ds)(v:Vals dvs ds)(b:Passes CX X E)
  (S:PA X (e::es) t) (i:(x==("__debug__":Str))=false:=by decide) (B:starEach (e::es) X.env=(false,eval e X.env)::starEach es X.env:=by rfl) (d:(backTo pos (starEach es X.env)).any (·.1)=false:=by rfl):
  PE X (.Call (.Name x p) (e::es) [] pos) (Wm C sp dvs E t):=by
 intro pins s σ H Q I h;refine wpAny_Call_Name_kw (IA I u y ?_ i);refine PySem.W.callWith_K (h₀:=X.base) I.ok.mod.Yu M.kp (iS (S pos pins s σ H _ I h) ?_) B d;rintro G c ⟨z,P,l,r,q⟩;refine ⟨l.RO,?_⟩;exact Sd M F a n v b l r q
end
structure dD(N P:List Str)(sc:Scope):Prop where
 kind:sc.kind= .function
 co:sc.isCoroutine=false
 gen:sc.isGenerator=false
 nd:N.Nodup
 pre:N.take P.length=P
 par:∀x∈P,sc.names.lookup x=some .local\/sc.names.lookup x=some .cell
 Xd:∀y∈sc.names,y.2≠.free
theorem Hf {kindOf:Str->Option NameKind}:∀{binds:List (Str×Value)} {m:Str->Option Value},(∀v,(x,v)∉binds)->bindL kindOf binds m x=m x
 |[],_,_=>rfl
 |(n,v)::r,m,h=>by
  unfold bindL;rw[Hf fun w d=>h w (ao _ d)];split
  ·have:x≠n:=by rintro rfl;exact h v aC
   simp[this]
  ·rfl
theorem Hg {kindOf:Str->Option NameKind}:∀{binds:List (Str×Value)} {m:Str->Option Value},(∀v,(x,v)∉binds)->bindC kindOf binds m x=m x
 |[],_,_=>rfl
 |(n,v)::r,m,h=>by
  unfold bindC;rw[Hg fun w d=>h w (ao _ d)];split
  ·rfl
  ·have:x≠n:=by rintro rfl;exact h v aC
   simp[this]
theorem Hh {kindOf:Str->Option NameKind}:∀{P:List Str} {d:List Value} {i:Nat} {m:Str->Option Value},P.Nodup->P[i]? =some x->d[i]? =some v->kindOf x=some .local->
  bindL kindOf (P.zip d) m x=some v
 |[],_,_,_,_,h,_,_=>by simp at h
 |_::_,[],_,_,_,_,h,_=>by simp at h
 |p::P,w::d,0,m,f,A,l,B=>by
  simp at A l;subst A;subst l;show bindL kindOf ((p,w)::P.zip d) m p=_;unfold bindL;rw[Hf fun v k=>(cf.mp f).1 (List.of_mem_zip k).1,ai B];simp
 |p::P,w::d,i+1,m,f,A,l,B=>by
  show bindL kindOf ((p,w)::P.zip d) m x=_;unfold bindL;exact Hh (i:=i) (cf.mp f).2 (by simpa using A) (by simpa using l) B
theorem Hi {kindOf:Str->Option NameKind}:∀{P:List Str} {d:List Value} {i:Nat} {m:Str->Option Value},P.Nodup->P[i]? =some x->d[i]? =some v->kindOf x≠some .local->
  bindC kindOf (P.zip d) m x=some v
 |[],_,_,_,_,h,_,_=>by simp at h
 |_::_,[],_,_,_,_,h,_=>by simp at h
 |p::P,w::d,0,m,f,A,l,B=>by
  simp at A l;subst A;subst l;show bindC kindOf ((p,w)::P.zip d) m p=_;unfold bindC;rw[Hg fun v k=>(cf.mp f).1 (List.of_mem_zip k).1,ah B];simp
 |p::P,w::d,i+1,m,f,A,l,B=>by
  show bindC kindOf ((p,w)::P.zip d) m x=_;unfold bindC;exact Hi (i:=i) (cf.mp f).2 (by simpa using A) (by simpa using l) B
noncomputable def start(N:List Str)(d:List V):St:=d.map some ++ List.replicate (N.length - d.length) none
noncomputable def IG(CX:RP)(P:Program)(w:World)(K:PySem.W.Frag)(l:Str->Option Value)(base:Heap)(N:List Str)(qual:Str)(scope:Scope)(f:Addr)(cd:Value)(A:Around)(outer:List Env)(s:Shared)(H:Hp)(E:XK):Cx where
 prog:=P
 w:=w
 K:=K
 mg:=l
 base:=base
 A:=A.deeper (envOfC qual scope s.heap.objs.size f cd)
 N:=N
 Hc:=s
 Yv:=H
 env:=envOfC qual scope s.heap.objs.size f cd
 outer:=outer
 stack:=envOfC qual scope s.heap.objs.size f cd::outer
 ex:=[]
 calm:=true
 fn:=fun _=>true
 pn:=[]
 xe:=fun e i=>wpAny (model P w) (A.deeper (envOfC qual scope s.heap.objs.size f cd)) (leaving (envOfC qual scope s.heap.objs.size f cd) e) (fun _ d=>CX outer H s E e d) (fun B d=>CX outer H s E B d) i
theorem Kr {d:Scope}(h:d.names.lookup x=some .cell):∃c,(cellsFrom n d.names []).lookup x=some c:=by
 have q:=PySem.W.cellsFrom_some d.names n [] (.inl h);exact Option.isSome_iff_exists.mp q
theorem Qy{CX:RP}{P:Program}{w:World}{K:PySem.W.Frag}{I:Str->Option Value}{base:Heap}{N ps:List Str}{qual:Str}{scope:Scope}{f:Addr}{cd:Value}{A:Around}{outer:List Env}{s j:Shared}{H:Hp}{E:XK}{m:List Value}{B:List V}
  (S:dD N ps scope) (D:A.handled=none) (e0:My P w K I base A outer s H) (T:B.length=ps.length) (r:Vals B m)
  (x:InCallC s s.heap.objs.size (bindL (envOfC qual scope s.heap.objs.size f cd).kindOf (ps.zip m) fun _=>none) (cellsFrom (s.heap.objs.size+1) scope.names []) (bindC (envOfC qual scope s.heap.objs.size f cd).kindOf (ps.zip m) fun _=>none) j):
  Inv (IG CX P w K I base N qual scope f cd A outer s H E) [] (start N B) H j:=by
 have g:ps.length<=N.length:=by have:=congrArg List.length S.pre;rw[aP] at this;lia
 obtain⟨G,R,rfl,L⟩:=x.done;have t:∀b:Addr,b∉(IG CX P w K I base N qual scope f cd A outer s H E).ex:=fun b z=>absurd (show b∈([]:List Addr) from z) (by simp);refine⟨⟨e0.mod,S.kind,rfl,rfl,aj _,fun y z c G d=> ?_,fun y l=> ?_,fun y c _ h=> ?_,fun _=>D,Around.frames_deeper e0.frames,.inr ⟨rfl,rfl⟩,fun b z=>absurd z (t b),e0.bs,e0.UX,fun b _ _=>t b,fun b z=>absurd z (t b),e0.CI,e0.WY⟩,
  rfl,e0.bare,Un.kept L,⟨_,x.toInCall.ns,fun i y v G d J=> ?_⟩,fun y c h=>⟨_,x.cell y c h⟩,e0.i9.fresh (aj _),fun y c h=> ?_,fun p o=>absurd (show p∈([]:List (Addr×Obj)) from o) (by simp),e0.i9.kept L,?_⟩
 ·exact name_of_addr x.apart (bq G) (bq d)
 ·have l:scope.names.lookup y=some .cell\/scope.names.lookup y=some .free:=l;rcases l with l |l
  ·exact Kr l
  ·exact absurd rfl (S.Xd _ (bq l))
 ·exact cI (x.above y c (bq h))
 ·have C:i<B.length:=by
   unfold start at d;by_cases C:i<B.length
   ·exact C
   ·rw[cE (by simpa using C)] at d;rw[bY] at d;split at d <;>cases d
  have X:B[i]? =some v:=by
   unfold start at d;rw[List.getElem?_append_left (by simpa using C),aD] at d;cases e:B[i]? with
   |none=>rw[e] at d;cases d
   |some a=>rw[e] at d;cases d;rfl
  obtain⟨u,Q,M⟩:=r.get X;have o:ps[i]? =some y:=by
   rw[<-S.pre,List.getElem?_take_of_lt (by lia)];exact G
  have F:ps.Nodup:=by rw[<-S.pre];exact S.nd.sublist (List.take_sublist _ _)
  refine⟨u,M,?_⟩;rcases S.par y (aH o) with k |k
  ·exact .inl ⟨k,Hh F o Q k⟩
  ·obtain⟨c,e⟩:=Kr (n:=s.heap.objs.size+1) k;refine .inr ⟨.inl k,c,e,?_⟩;have q:=x.cell y c e;rw[Hi F o Q (by show scope.names.lookup y≠_;rw[k];decide)] at q;exact q
 ·exact e0.i9.fresh (cI (x.above y c (bq h)))
 ·unfold start;show _=N.length;rw[aJ,lMp,a9];lia
theorem YV{CX:RP}{P:Program}{w:World}{K:PySem.W.Frag}{p:Str->Option Value}{base:Heap}{k:Nat}{f:Addr}{name qual:Str}{params:Arguments}{body:List Stmt}{scope:Scope}{j kV doc M d ct oc:Value}{g od:Option Addr}
  {m:Array (Option Value)} {N ps:List Str} {sp:Sp} (O:K.lookup f=some ⟨oc,od,.func (PySem.W.fnOf name qual params body scope j kV doc M g d ct),m⟩) (L:PySem.W.codeIn K d qual=true) (S:dD N ps scope)
  (len:∀l H Q E,sp l H Q E->l.length=ps.length)
  (a:∀(A:Around) (outer:List Env) (s:Shared) (H:Hp) (l:List V) (Q:VK) (E:XK),l5 k (A.deeper (envOfC qual scope s.heap.objs.size f d))->sp l H Q E->
   ∃t,Mn (IG CX P w K p base N qual scope f d A outer s H E) body t/\t {nx:=fun _ i=>Q .kY i,rt:=Q} (start N l) H):
  rB P w K p base CX (k+1) f (PySem.W.fnOf name qual params body scope j kV doc M g d ct) ps sp:=by
 refine⟨len,fun A outer s H args us l Q E z h hb r G=> ?_⟩;have hl:=len _ _ _ _ G;have X:K.In s.heap:=h.mod.Yu.keeps fun b o e=>(h.bs b o e).1;have lim:s.heap.NoLimit:=h.mod.nolimit.keeps fun b o e=>(h.bs b o e).1;have C:∀y∈ps.zip us,scope.names.lookup y.1=some .local\/(scope.names.lookup y.1=some .cell/\((cellsFrom (s.heap.objs.size+1) scope.names []).lookup y.1).isSome=true):=fun⟨n,v⟩ hy=>by
  rcases S.par n (List.of_mem_zip hy).1 with q |q
  ·exact .inl q
  ·exact .inr ⟨q,PySem.W.cellsFrom_some _ _ _ (.inl q)⟩
 refine codeAny_call_function z.depth (X _ _ O) rfl S.co S.gen rfl (PySem.W.codeRec_of X L) (hb _ _ _ _ ?_);refine wpAny_newFunctionEnv_cells S.kind C fun env he D x=> ?_;subst he;refine⟨lim.keeps x.toInCall.keep,codeAny_func ?_⟩;obtain⟨t,T,hq⟩:=a A outer s H l Q E (z.deeper _) G;have I:Inv (IG CX P w K p base N qual scope f d A outer s H E) [] (start N l) H D:=Qy S z.hd h hl r x;refine wpAny_mono (T [] D (start N l) H _ I hq) (fun R c B=> ?_) fun e c B=>B;have fin:∀{σ':St} {i:Hp} {v:V} {u:Value},Inv (IG CX P w K p base N qual scope f d A outer s H E) [] σ' i c->RelV v u->Q v i->CE outer P w H s Q u c:=
  fun{σ' i v u} J F q=>⟨v,i,J.os,J.bare,J.base,J.i9,F,q⟩
 cases R with
 |ret u=>
  obtain⟨v,σ',i,J,F,q⟩:=B;exact fin J F q
 |next=>
  obtain⟨σ',i,J,q⟩:=B;exact fin (v:=V.kY) (u:=Value.none) J rfl q
 |brk=>
  obtain⟨_,_,_,q⟩:=B;exact False.elim q
 |cont=>
  obtain⟨_,_,_,q⟩:=B;exact False.elim q
section
variable {X:Cx}{x:Str}{p pos:Pos}{e:Expr}{es:List Expr}{t:TA}{id T:String}{r:List V->Hp->VK->Prop}
def tCB(r:List V->Hp->VK->Prop)(t:TA):TE:=fun σ H Q=>t σ H fun d A=>r d A Q
theorem eC(b:qL X (.builtin id) r)(n:Gl X x)(o:X.mg x=none)(k:bootBuiltins x=some (.builtin id))(u:PA X (e::es) t)(l:x≠"__name__":=by decide)(A:(x==("__debug__":Str))=false:=by decide)
  (i:starEach (e::es) X.env=(false,eval e X.env)::starEach es X.env:=by rfl) (d:(backTo pos (starEach es X.env)).any (·.1)=false:=by rfl):PE X (.Call (.Name x p) (e::es) [] pos) (tCB r t):=by
 intro pins s σ H Q I h;refine wpAny_Call_Name_kw (xu I n o k ?_ l A);exact PyProof.Rows.callWith_builtin1 (iS (u pos pins s σ H _ I h) (by rintro B a ⟨v,S,f,q,w⟩;exact b pins a σ S v B Q f q w)) i d
theorem A1(b:qL X (.type T) r)(n:Gl X x)(o:X.mg x=none)(k:bootBuiltins x=some (.type T))(u:PA X (e::es) t)(l:x≠"__name__":=by decide)(A:(x==("__debug__":Str))=false:=by decide)
  (i:starEach (e::es) X.env=(false,eval e X.env)::starEach es X.env:=by rfl) (d:(backTo pos (starEach es X.env)).any (·.1)=false:=by rfl):PE X (.Call (.Name x p) (e::es) [] pos) (tCB r t):=by
 intro pins s σ H Q I h;refine wpAny_Call_Name_kw (xu I n o k ?_ l A);exact bS (iS (u pos pins s σ H _ I h) (by rintro B a ⟨v,S,f,q,w⟩;exact b pins a σ S v B Q f q w)) i d
end
end L2
namespace HT
open PySem PyProof.Rows
section
variable {prog:Program}{w:World}{A:Around}{E:Value->Shared->Prop}{s:Shared}
noncomputable def Gf(n d:Nat):Option Int->Nat
 |none=>d
 |some v=>if v<0 then(v+(n:Int)).toNat else min v.toNat n
theorem Ks (n d):Gf n d none=d:=rfl
theorem qM(n d k:Nat):Gf n d (some (k:Int))=min k n:=by
 show(if(k:Int)<0 then((k:Int)+(n:Int)).toNat else min (k:Int).toNat n)=min k n;rw[ah (by lia),bK]
end
end HT
namespace L2
open PySem PySem.Spec PyProof.Rows
abbrev TO:=St->Hp->(Option Int->Hp->Prop)->Prop
def PO(X:Cx)(e:Option Expr)(t:TO):Prop:=
 ∀(pins:List (Addr×Obj)) (s:Shared) (σ:St) (H:Hp) (Q:Option Int->Hp->Prop),Inv X pins σ H s->t σ H Q->
  wpAny (model X.prog X.w) X.A (evalPart e X.env) (fun u l=>∃o d,Inv X pins σ d l/\IsPart u o/\Q o d) X.xe s
def OE:TO:=fun _ H Q=>Q none H
def Wn(t:TE):TO:=fun σ H Q=>t σ H fun x d=>∃i,x= .int i/\Q (some i) d
section
variable {X:Cx}{e:Expr}{te:TE}{lo hi:Option Expr}{tl th:TO}{pos p2:Pos}
theorem De:PO X none OE:=by
 intro pins s σ H Q I h;rw[evalPart_none];exact wpAny_pure ⟨none,H,I,.none,h⟩
theorem qN(h:PE X e te):PO X (some e) (Wn te):=by
 intro pins s σ H Q I f;rw[evalPart_some];refine iS (h pins s σ H _ I f) ?_;rintro u k ⟨x,B,d,l,A⟩;obtain⟨i,rfl,q⟩:=A;obtain⟨t,rfl⟩:=l;exact⟨some i,B,d,.int i t,q⟩
def Z9(X:Cx)(r:V->Option Int->Option Int->Hp->VK->Prop):Prop:=
 ∀(pins:List (Addr×Obj)) (s:Shared) (σ:St) (H:Hp) (x:V) (v i l:Value) (lo hi:Option Int) (d:Addr) (Q:VK),Inv X pins σ H s->RelV x v->s.heap.IsSliceOf d i l .none->IsPart i lo->IsPart l hi->r x lo hi H Q->
  ∃T id,typeLookup (.type T) "__getitem__"=pure (some (.builtin id))/\s.TypeIs v T/\wpAny (model X.prog X.w) X.A (getItem v (.ref d)) (EP X pins σ Q) X.xe s
def tSl(r:V->Option Int->Option Int->Hp->VK->Prop)(te:TE)(tl th:TO):TE:=fun σ H Q=>te σ H fun x A=>tl σ A fun l d=>th σ d fun u i=>r x l u i Q
theorem sr (t:Z9 X r)(m:PE X e te)(N:PO X lo tl)(L:PO X hi th):PE X (.Subscript e (.Slice lo hi none p2) pos) (tSl r te tl th):=by
 intro pins s σ H Q I h;refine Subscript_ (iS (m pins s σ H _ I h) ?_);rintro v P ⟨x,j,p,c,z⟩;refine wpAny_Slice (iS (N pins P σ j _ p z) ?_);rintro f G ⟨l,n,y,pl,M⟩;refine iS (L pins G σ n _ y M) ?_;rintro i d ⟨u,B,o,a,S⟩;rw[evalPart_none];refine wpAny_pure ?_;have F:Inv X pins σ B {d with heap:=d.heap.push {cls:= .type "slice",data:= .fields #[f,i,.none]}}:=o.kept (t':=d.toks) fun b D q=>Heap.get?_push_of_some _ q;obtain⟨T,id,E,k,C⟩:=t pins {d with heap:=d.heap.push {cls:= .type "slice",data:= .fields #[f,i,.none]}} σ B x v f i l u d.heap.objs.size Q F c (Heap.IsSliceOf.new ..) pl a S;show wpAny (model X.prog X.w) X.A (subscriptTail e (.Slice lo hi none p2) v (.ref d.heap.objs.size)) (EP X pins σ Q) X.xe {d with heap:=d.heap.push {cls:= .type "slice",data:= .fields #[f,i,.none]}};exact tail_any (ops:=[.ref d.heap.objs.size,v]) k E C (by with_unfolding_all rfl)
def wH(d:List V)(lo hi:Option Int):List V:=(d.drop (HT.Gf d.length 0 lo)).take (HT.Gf d.length d.length hi - HT.Gf d.length 0 lo)
theorem Kt (d)(lo hi):(wH d lo hi).length<=d.length:=by
 unfold wH;rw[aP,bJ];lia
end
noncomputable def Qz(n:Nat)(i:Int):Option Nat:=if 0<=i then(if i<n then some i.toNat else none) else if -(n:Int)<=i then some (i+n).toNat else none
def Ku{α:Type}(d:List α)(i:Int):Option α:=(Qz d.length i).bind fun j=>d[j]?
theorem OF (h:Qz n i=some j):seqIndex? i n=some j/\j<n/\-(n:Int)<=i/\i<n:=by
 unfold Qz at h;by_cases A:0<=i
 ·rw[ai A] at h;by_cases d:i<n
  ·rw[ai d] at h;have e:i.toNat=j:=bf h;exact⟨by rw[seqIndex_of A d,e],by lia,by lia,d⟩
  ·rw[ah d] at h;cases h
 ·rw[ah A] at h;by_cases d: -(n:Int)<=i
  ·rw[ai d] at h;have e:(i+n).toNat=j:=bf h;exact⟨by rw[seqIndex_neg (by lia) d,e],by lia,d,by lia⟩
  ·rw[ah d] at h;cases h
theorem OG {v:α}(h:Ku d i=some v):∃j,seqIndex? i d.length=some j/\d[j]? =some v/\j<d.length/\-(d.length:Int)<=i/\i<d.length:=by
 unfold Ku at h;cases e:Qz d.length i with
 |none=>rw[e] at h;cases h
 |some j=>
  rw[e] at h;obtain⟨A,B,f,l⟩:=OF e;exact⟨j,A,h,B,f,l⟩
theorem Va {j:Nat}{v:α}(h:d[j]? =some v):Ku d (j:Int)=some v:=by
 have A:j<d.length:=(bD.mp h).1;have e:Qz d.length (j:Int)=some j:=by
  unfold Qz;rw[ai (by lia),ai (by lia)];simp
 unfold Ku;rw[e];exact h
def Vb(b:Expr):Prop:=∀o i,subscripted b false o i=operate [o,i] (getItem o i)
def YW(X:Cx)(r:R2):Prop:=
 ∀(value slice:Expr) (pins:List (Addr×Obj)) (s:Shared) (σ:St) (H:Hp) (x y:V) (v u:Value) (Q:VK),Inv X pins σ H s->RelV x v->RelV y u->r x y H Q->
  subscripted slice false v u=operate [v,u] (getItem v u)->wpAny (model X.prog X.w) X.A (subscriptTail value slice v u) (EP X pins σ Q) X.xe s
def MtR(X:Cx)(id:String)(r:V->List V->Hp->VK->Prop):Prop:=
 ∀(pins:List (Addr×Obj)) (s:Shared) (σ:St) (H:Hp) (x:V) (d:List V) (v:Value) (l:List Value) (Q:VK),Inv X pins σ H s->RelV x v->Vals d l->r x d H Q->
  wpAny (model X.prog X.w) X.A (call (.builtin id) (v::l)) (EP X pins σ Q) X.xe s
section
variable {X:Cx}{a b:Expr}{ta tb:TE}{pos:Pos}
theorem d8 (f:YW X r)(w:PE X a ta)(B:PE X b tb)(t:Vb b):PE X (.Subscript a b pos) (W9 r ta tb):=by
 intro pins s σ H Q I h;exact Subscript_ (Xa w B I h fun v u i x y A l k d q=>f a b pins i σ A x y v u Q l k d q (t _ _))
def Xe(K:PySem.W.Frag):R2:=fun x y H Q=>∃p d i v,x= .ref p/\y= .int i/\oK K H p d/\Ku d i=some v/\Q v H
def YX(K:PySem.W.Frag):R2:=fun x y H Q=>∃p d i v,x= .ref p/\y= .int i/\Ge K H p d/\Ku d i=some v/\Q v H
theorem Vd:YW X (Xe X.K):=by
 intro value slice pins s σ H x y v u Q I S G h k;obtain⟨p,L,i,z,rfl,rfl,c,F,q⟩:=h;cases S;obtain⟨t,rfl⟩:=G;obtain⟨f,r,pl,E⟩:=I.list c;obtain⟨j,d,o,N,n,C⟩:=OG F;obtain⟨w,e,B⟩:=r.get o;have P:=r.length;have M:=AY;have fin:EP X pins σ Q w s:=⟨z,H,I,B,q⟩;by_cases l:0<=i
 ·have A:i.toNat=j:=by
   rw[seqIndex_of l C] at d;exact bf d
  exact item_listR pl.isList l (by lia) (by rw[A];simpa using e) fin k
 ·have A:(i+(f.toArray.size:Int)).toNat=j:=by
   rw[seqIndex_neg (by lia) n] at d;rw[aS,<-P];exact bf d
  exact subscriptTail_builtinR (x:=w) pl.isList.typeIs slot_list_getitem.lookup
   (wpAny_getItem_list_neg (Q:=fun r m=>r=w/\EP X pins σ Q r m) pl.isList (by lia) (by rw[aS] <;>lia) (by lia) (by rw[A];simpa using e) ⟨rfl,fin⟩) k
theorem Xf:YW X (YX X.K):=by
 intro value slice pins s σ H x y v u Q I n S h C;obtain⟨p,c,i,z,rfl,rfl,l,A,q⟩:=h;cases n;obtain⟨t,rfl⟩:=S;obtain⟨G,r,pl,N⟩:=I.tuple l;obtain⟨j,f,k,P,m,L⟩:=OG A;obtain⟨w,o,d⟩:=r.get k;have B:=r.length;have F:=AY;have fin:EP X pins σ Q w s:=⟨z,H,I,d,q⟩;exact subscriptTail_builtinR (x:=w) pl.typeIs slot_tuple_getitem.lookup
  (getItem_tuple (j:=j) (Q:=fun r e=>r=w/\EP X pins σ Q r e) pl (by lia) (by lia) (by rw[aS,<-B];exact f) (by simpa using o) ⟨rfl,fin⟩) C
theorem Mz(d:List Value)(n j:Nat)(u:Value):Obj.mapSeq (·.setIfInBounds j u) {cls:= .type "list",data:= .seq d.toArray n}={cls:= .type "list",data:= .seq (d.set j u).toArray n}:=by
 simp[Obj.mapSeq]
theorem Inv.lst {σ:St}(I:Inv X pins σ H s)(h:H p=some (.lst A)):
  ∃(d:List Value) (n:Nat),Vals A d/\s.heap.get? p=some {cls:= .type "list",data:= .seq d.toArray n}/\A.length<=sizeLine:=by
 obtain⟨z,d,n,r,e⟩:=I.i9 p _ h;exact⟨d,n,r,e,z⟩
theorem Inv.Xg {σ:St}{d:List Value}(I:Inv X pins σ H s)(h:H p=some (.lst B))(v:s.heap.get? p=some {cls:= .type "list",data:= .seq d.toArray n})(i:f {cls:= .type "list",data:= .seq d.toArray n}={cls:= .type "list",data:= .seq its'.toArray A})(r:Vals l its')(w:l.length<=sizeLine)(t):
  Inv X pins σ (upd H p (.lst l)) {s with heap:=s.heap.update p f,toks:=t}:=by
 have e:(s.heap.update p f).get? p=some {cls:= .type "list",data:= .seq its'.toArray A}:=by
  rw[Heap.get?_update_self f v (by rw[i] <;>rfl),i]
 refine I.write (x:=p) (e:=p) (by rw[h];trivial) (.inl rfl) (fun b u k q=>(Heap.get?_update_other _ _ (b5 k)).trans q) ⟨_,e⟩ ?_;exact⟨w,its',A,r,e⟩
def YY:V->V->V->Hp->(Hp->Prop)->Prop:=fun o i v H Q=>∃p d k j,o= .ref p/\i= .int k/\H p=some (.lst d)/\Qz d.length k=some j/\Q (upd H p (.lst (d.set j v)))
theorem set_list:W4 X YY:=by
 intro pins s σ H o i v m L u Q I P F G h;obtain⟨p,y,k,j,rfl,rfl,C,z,q⟩:=h;cases P;obtain⟨t,rfl⟩:=F;obtain⟨A,n,r,f,c⟩:=I.lst C;obtain⟨d,E,w,e⟩:=OF z;have B:=r.length;have N:=AY;have S:Inv X pins σ (upd H p (.lst (y.set j v))) {s with heap:=s.heap.update p (Obj.mapSeq (·.setIfInBounds j u))}:=
  I.Xg C f (Mz A n j u) (r.set G j) (by rw[cA];exact c) s.toks
 by_cases x:0<=k
 ·have l:k.toNat=j:=by
   rw[seqIndex_of x e] at d;exact bf d
  exact PySem.W.ki_setAt f x (by lia) (by rw[aS,<-B];exact e) (by rw[l];exact⟨_,S,q⟩)
 ·have l:(k+(A.toArray.size:Int)).toNat=j:=by
   rw[seqIndex_neg (by lia) w] at d;rw[aS,<-B];exact bf d
  exact PySem.W.ki_setBack f (by lia) (by rw[aS,<-B];exact w) (by lia) (by rw[l];exact⟨_,S,q⟩)
theorem IH (lo hi)(n):(sliceBounds lo hi none n).1=((HT.Gf n 0 lo:Nat):Int)/\(sliceBounds lo hi none n).2.1=((HT.Gf n n hi:Nat):Int)/\(sliceBounds lo hi none n).2.2=1:=by
 refine⟨?_,?_,rfl⟩
 ·cases lo with
  |none=>simp[sliceBounds,HT.Gf]
  |some i=>
   simp only[sliceBounds,HT.Gf,Option.getD_none,show(1:Int)>0 by decide,if_true];by_cases h:i<0
   ·simp only[h,if_true] <;>lia
   ·simp only[h,if_false] <;>lia
 ·cases hi with
  |none=>simp[sliceBounds,HT.Gf]
  |some i=>
   simp only[sliceBounds,HT.Gf,Option.getD_none,show(1:Int)>0 by decide,if_true];by_cases h:i<0
   ·simp only[h,if_true] <;>lia
   ·simp only[h,if_false] <;>lia
theorem Gj (d:List Value)(lo hi):slicePick d.toArray lo hi none=((d.drop (HT.Gf d.length 0 lo)).take (HT.Gf d.length d.length hi - HT.Gf d.length 0 lo)).toArray:=by
 obtain⟨l,A,i⟩:=IH lo hi d.toArray.size;unfold slicePick;rw[l,A,i];simp only[sliceRange_one,pick_run,aS] <;>rfl
def Xh(K:PySem.W.Frag):V->Option Int->Option Int->Hp->VK->Prop:=fun x A l H Q=>∃a d,x= .ref a/\oK K H a d/\∀p,H p=none->Q (.ref p) (upd H p (.lst (wH d A l)))
theorem Ve:Z9 X (Xh X.K):=by
 intro pins s σ H x v S p A i u Q I w e pl k h;obtain⟨a,d,rfl,B,q⟩:=h;cases w;obtain⟨n,r,f,t⟩:=I.list B;have l:=r.length;refine⟨"list",_,slot_list_getitem.lookup,f.isList.typeIs,?_⟩;refine wpAny_getItem_list_slice f.isList e pl k .none (by simp) ?_ (by rw[aS] <;>lia);rw[Gj,<-l];refine⟨.ref s.heap.objs.size,_,I.laid (t':=s.toks) (o:= .lst (wH d A i)) (fun b C q=>Heap.get?_push_of_some _ q) (aj _) ?_,rfl,q _ (I.i9.fresh (aj _))⟩;exact⟨aB (Kt d A i) t,_,0,(r.drop (HT.Gf d.length 0 A)).take (HT.Gf d.length d.length i - HT.Gf d.length 0 A),Heap.get?_push_size _ rfl⟩
noncomputable def Ci:V->Bool
 | .kY=>true
 | .bl _=>true
 | .int _=>true
 | .str _=>true
 |_=>false
noncomputable def QA:V->V->Bool
 | .kY,.kY=>true
 | .bl a,.bl b=>a==b
 | .bl a,.int b=>(if a then 1 else 0)==b
 | .int a,.bl b=>a==(if b then 1 else 0)
 | .int a,.int b=>a==b
 | .str a,.str b=>a==b
 |_,_=>false
theorem Xi (f:RelV y u)(d:RelV x v)(B:Ci y=true)(i:Ci x=true):SeqAt.EqAt A s u v (QA y x):=by
 cases y with
 |kY=>
  cases f;cases x with
  |kY=>cases d;exact SeqAt.EqAt.same _
  |bl b=>cases d;exact SeqAt.EqAt.none_bool b
  |int b=>obtain⟨t,rfl⟩:=d;exact SeqAt.EqAt.none_int b t
  |str b=>obtain⟨t,rfl⟩:=d;exact SeqAt.EqAt.none_str b t
  |_=>exact absurd (show false=true from i) aU
 |bl a=>
  cases f;cases x with
  |kY=>cases d;exact SeqAt.EqAt.bool_none a
  |bl b=>cases d;exact SeqAt.EqAt.bool_bool a b
  |int b=>obtain⟨t,rfl⟩:=d;exact SeqAt.EqAt.bool_int a b t
  |str b=>obtain⟨t,rfl⟩:=d;exact SeqAt.EqAt.bool_str a b t
  |_=>exact absurd (show false=true from i) aU
 |int a=>
  obtain⟨l,rfl⟩:=f;cases x with
  |kY=>cases d;exact SeqAt.EqAt.int_none a l
  |bl b=>cases d;exact SeqAt.EqAt.int_bool a l b
  |int b=>obtain⟨t,rfl⟩:=d;exact SeqAt.EqAt.int_int a l b t
  |str b=>obtain⟨t,rfl⟩:=d;exact SeqAt.EqAt.int_str a l b t
  |_=>exact absurd (show false=true from i) aU
 |str a=>
  obtain⟨l,rfl⟩:=f;cases x with
  |kY=>cases d;exact SeqAt.EqAt.str_none a l
  |bl b=>cases d;exact SeqAt.EqAt.str_bool a l b
  |int b=>obtain⟨t,rfl⟩:=d;exact SeqAt.EqAt.str_int a l b t
  |str b=>obtain⟨t,rfl⟩:=d;exact SeqAt.EqAt.str_str a l b t
  |_=>exact absurd (show false=true from i) aU
 |_=>exact absurd (show false=true from B) aU
def MA(x:V)(u:Value):Bool:=match u with
 | .none=>QA .kY x
 | .bool b=>QA (.bl b) x
 | .int i _=>QA (.int i) x
 | .str z _=>QA (.str z) x
 |_=>false
theorem Sf (r:RelV y u)(f:Ci y=true):MA x u=QA y x:=by
 cases y with
 |kY=>cases r;rfl
 |bl b=>cases r;rfl
 |int i=>obtain⟨t,rfl⟩:=r;rfl
 |str z=>obtain⟨t,rfl⟩:=r;rfl
 |_=>exact absurd (show false=true from f) aU
theorem yV:∀{d:List V} {A:List Value},Vals d A->d.all Ci=true->A.any (MA x)=d.any fun y=>QA y x
 |_,_,.nil,_=>rfl
 |y::d,u::A,.cons r t,f=>by
  rw[List.all_cons,aW] at f;rw[cC,cC,Sf r f.1,yV t f.2]
theorem u5 (k:RelV x v)(B:Ci x=true):∀{l:List V} {i:List Value},Vals l i->l.all Ci=true->∀u∈i,SeqAt.EqAt A s u v (MA x u)
 |_,_,.nil,_=>fun u d=>by cases d
 |y::l,u::i,.cons r t,f=>fun w d=>by
  rw[List.all_cons,aW] at f;rcases aL.mp d with rfl |d
  ·rw[Sf r f.1];exact Xi r k f.1 B
  ·exact u5 k B t f.2 w d
noncomputable def OH(x:V)(d:List V):Bool:=d.any fun y=>QA y x
def ZK(K:PySem.W.Frag)(neg:Bool):R2:=fun x y H Q=>∃p d,y= .ref p/\(oK K H p d\/Ge K H p d)/\Ci x=true/\d.all Ci=true/\Q (.bl (if neg then !OH x d else OH x d)) H
theorem QB:yU X (compareOp .In) (ZK X.K false):=by
 intro pins s σ H x y v u Q I f B h;obtain⟨p,t,rfl,A,i,fs,q⟩:=h;cases B;rcases A with A |A
 ·obtain⟨d,r,pl,k⟩:=I.list A;refine SeqAt.in_listAt (MA x) pl.isList (fun w l=>u5 f i r fs w (by simpa using l)) ⟨.bl _,H,I,rfl,?_⟩;rw[show d.toArray.any (MA x)=d.any (MA x) by simp,yV r fs];exact q
 ·obtain⟨d,r,pl,k⟩:=I.tuple A;refine SeqAt.in_tupleAt (MA x) pl (fun w l=>u5 f i r fs w (by simpa using l)) ⟨.bl _,H,I,rfl,?_⟩;rw[show d.toArray.any (MA x)=d.any (MA x) by simp,yV r fs];exact q
theorem II:yU X (compareOp .NotIn) (ZK X.K true):=by
 intro pins s σ H x y v u Q I f B h;obtain⟨p,t,rfl,A,i,fs,q⟩:=h;cases B;rcases A with A |A
 ·obtain⟨d,r,pl,k⟩:=I.list A;refine SeqAt.notIn_listAt (MA x) pl.isList (fun w l=>u5 f i r fs w (by simpa using l)) ⟨.bl _,H,I,rfl,?_⟩;rw[show d.toArray.any (MA x)=d.any (MA x) by simp,yV r fs];exact q
 ·obtain⟨d,r,pl,k⟩:=I.tuple A;refine SeqAt.notIn_tupleAt (MA x) pl (fun w l=>u5 f i r fs w (by simpa using l)) ⟨.bl _,H,I,rfl,?_⟩;rw[show d.toArray.any (MA x)=d.any (MA x) by simp,yV r fs];exact q
theorem IJ:qL X (.builtin "len") (fun B H Q=>∃p A,B=[.ref p]/\(oK X.K H p A\/Ge X.K H p A)/\Q (.int A.length) H):=by
 intro pins s σ H B w Q I r h;obtain⟨p,A,rfl,l,q⟩:=h;obtain⟨u,rfl,k⟩:=vals1 r;cases k;have v:=AY;rcases l with l |l
 ·obtain⟨f,i,pl,x⟩:=I.list l;have d:=i.length;exact Calls.call_len_list pl.isList (by simp only[aS] <;>lia) ⟨.int A.length,H,I.tok _,⟨s.toks+1,by rw[aS,d]⟩,q⟩
 ·obtain⟨f,i,pl,x⟩:=I.tuple l;have d:=i.length;exact len_tuple pl (by simp only[aS] <;>lia) ⟨.int A.length,H,I.tok _,⟨s.toks+1,by rw[aS,d]⟩,q⟩
theorem IK:qL X (.type "list") (fun G H Q=>∃p B,G=[.ref p]/\(oK X.K H p B\/Ge X.K H p B)/\∀l,H l=none->Q (.ref l) (upd H l (.lst B))):=by
 intro pins s σ H G c Q I r h;obtain⟨p,B,rfl,k,q⟩:=h;obtain⟨u,rfl,z⟩:=vals1 r;cases z;have fin:∀(d:List Value),Vals B d->B.length<=sizeLine->∀(A:Heap) (i:Nat),(∀b F,s.heap.get? b=some F->A.get? b=some F)->
   A.get? s.heap.objs.size=some {cls:= .type "list",dict:=none,data:= .seq d.toArray i,slots:= #[]}->EP X pins σ Q (.ref s.heap.objs.size) {s with heap:=A}:=fun d f v A i x e=>
  ⟨.ref s.heap.objs.size,_,I.laid (t':=s.toks) x (aj _) (show lZ X.prog X.w _ A _ (.lst B) from⟨v,d,i,f,e⟩),rfl,q _ (I.i9.fresh (aj _))⟩
 rcases k with k |k
 ·obtain⟨d,f,pl,v⟩:=I.list k;have t:=f.length;obtain⟨o,y,C,n,S⟩:=pl.isList;exact call_list_seq p (.inl rfl) y C S (fun A i x e=>fin d f v A i x e) (by simp only[aS] <;>lia)
 ·obtain⟨d,f,pl,v⟩:=I.tuple k;have t:=f.length;obtain⟨o,y,C,n,S⟩:=pl;exact call_list_seq p (.inr rfl) y C S (fun A i x e=>fin d f v A i x e) (by simp only[aS] <;>lia)
def tyV(K:PySem.W.Frag)(T:String)(x:V)(H:Hp):Prop:=match x with
 | .str _=>T="str"
 | .int _=>T="int"
 | .ref p=>(T="list"/\∃A,oK K H p A)\/(T="tuple"/\∃o,K.lookup p=some o/\o.cls= .type "tuple"/\o.dict=none)\/
   (T="dict"/\((∃d,H p=some (.dK d))\/∃d,H p=some (.dT d)))\/(T="set"/\∃S n,H p=some (.set S n))
 |_=>False
theorem Xj {σ:St}(I:Inv X pins σ H s)(r:RelV x v)(ty:tyV X.K T x H):
  s.TypeIs v T/\∀a,v= .ref a->∃f,s.heap.get? a=some f/\f.dict=none:=by
 cases x with
 |str z=>
  obtain⟨t,rfl⟩:=r;cases(show T="str" from ty);exact⟨typeIs_str s z t,fun _ e=>nomatch e⟩
 |int i=>
  obtain⟨t,rfl⟩:=r;cases(show T="int" from ty);exact⟨typeIs_int s i t,fun _ e=>nomatch e⟩
 |ref p=>
  cases r;rcases ty with⟨rfl,xs,hq⟩ |⟨rfl,o,hk,hc,l⟩ |⟨rfl,hk⟩ |⟨rfl,S,n,hk⟩
  ·obtain⟨B,_,pl,_⟩:=I.list hq;refine⟨pl.isList.typeIs,fun a e=> ?_⟩;cases e;obtain⟨o,n,e,c,l,_⟩:=pl;exact⟨o,e,l⟩
  ·refine⟨⟨o,I.RO p o hk,hc⟩,fun a e=> ?_⟩;cases e;exact⟨o,I.RO _ o hk,l⟩
  ·have z:∃o,s.heap.get? p=some o/\o.ExactDict:=by
    rcases hk with⟨kvs,hk⟩ |⟨kvs,hk⟩
    ·obtain⟨_,_,_,_,o,_,_,e,d,_⟩:=I.i9 p _ hk;exact⟨o,e,d⟩
    ·obtain⟨_,_,_,_,o,_,_,e,d,_⟩:=I.i9 p _ hk;exact⟨o,e,d⟩
   obtain⟨o,e,d⟩:=z;refine⟨⟨o,e,d.1⟩,fun a A=> ?_⟩;cases A;exact⟨o,e,d.2.1⟩
  ·obtain⟨o,_,_,_,e,d,_⟩:=I.i9 p _ hk;refine⟨⟨o,e,d.1⟩,fun a A=> ?_⟩;cases A;exact⟨o,e,d.2.1⟩
 |_=>exact False.elim ty
def tBM(K:PySem.W.Frag)(T:String)(r:V->List V->Hp->VK->Prop)(l:TE)(t:TA):TE:=fun σ H Q=>l σ H fun x d=>tyV K T x d/\t σ d fun i A=>r x i A Q
variable {o e:Expr}{es:List Expr}{to:TE}{t:TA}{name:Str}{apos cpos:Pos}{T id:String}{r:V->List V->Hp->VK->Prop}
theorem oM(N:PlainAttrs T)(slot:Slot T name id)(w:typeOf (.builtin id)=pure (.type "method_descriptor"))(S:MtR X id r)(m:PE X o to)(p:PA X (e::es) t)
  (l:attributeBase o name X.env (eval o X.env)=eval o X.env:=by rfl)
  (i:((backTo cpos (starEach (e::es) X.env)).all (fun x=> !x.1)&&(backToKw cpos (keywordEach [] X.env)).all (fun x=>x.1.isSome)
   &&decide ((e::es).length+([]:List Keyword).length+(if([]:List Keyword).isEmpty then 0 else 1)<30))=true:=by rfl)
  (A:(apos.endLine==cpos.line)=true:=by rfl) (j:starEach (e::es) X.env=(false,eval e X.env)::starEach es X.env:=by rfl) (d:(backTo cpos (starEach es X.env)).any (·.1)=false:=by rfl):
  PE X (.Call (.Attribute o name apos) (e::es) [] cpos) (tBM X.K T r to t):=by
 intro pins s σ H Q I h;refine wpAny_Call_method_late l i A rfl (iS (m pins s σ H _ I h) ?_);rintro v P ⟨x,L,f,B,ty,z⟩;obtain⟨u,c⟩:=Xj f B ty;refine⟨T,id,N,slot,w,u,c,?_⟩;have k:=p cpos pins P σ L _ f z;rw[j] at k⊢;refine Calls.callWith_builtin (by show(false ||(backTo cpos (starEach es X.env)).any (·.1))=false;rw[d] <;>rfl) (Calls.evalArgs_plain ?_);exact iS k (by rintro y G ⟨F,q,C,n,E⟩;exact S pins G σ q x F v y Q C B n E)
end
def MtM(X:Cx)(id:String)(r:V->List V->Hp->VK->Prop):Prop:=
 ∀(pins:List (Addr×Obj)) (s:Shared) (σ:St) (H:Hp) (x:V) (d:List V) (v:Value) (l:List Value) (Q:VK),Inv X pins σ H s->RelV x v->Vals d l->r x d H Q->
  wpAny (model X.prog X.w) X.A (call (.builtin id) (v::l)) (EP X pins σ Q) X.xe s
theorem Vals.one (h:Vals [x] d):∃u,d=[u]/\RelV x u:=by
 cases h with |cons r t=>cases t;exact⟨_,rfl,r⟩
theorem Vals.rep (h:Vals d A):∀k:Nat,Vals (List.replicate k d).flatten (List.replicate k A).flatten
 |0=> .nil
 |k+1=>by
  rw[b7,b7,List.flatten_cons,List.flatten_cons];exact Vals.append h (Vals.rep h k)
theorem foldl_rep (d):∀(k:Nat) (acc:List Value),
  List.foldl (fun i A=>i ++ A) acc.toArray (List.replicate k d.toArray)=(acc ++ (List.replicate k d).flatten).toArray
 |0,acc=>by simp
 |k+1,acc=>by
  have e:acc.toArray ++ d.toArray=(acc ++ d).toArray:=by simp
  have l:(acc ++ d) ++ (List.replicate k d).flatten=acc ++ (List.replicate (k+1) d).flatten:=by
   rw[b7,List.flatten_cons,cu]
  rw[<-l,<-foldl_rep d k (acc ++ d),<-e,b7,bQ]
section
variable {X:Cx}{pins:List (Addr×Obj)}{σ:St}{H:Hp}{s:Shared}{l b:Addr}{xs ys zs:List V}
theorem Inv.YZ {d:List Value}(I:Inv X pins σ H s)(i:H l=some (.lst xs))(e:s.heap.get? l=some {cls:= .type "list",data:= .seq d.toArray n})(k:f d.toArray=its'.toArray)(A:Vals ys its')(v:ys.length<=sizeLine):
  Inv X pins σ (upd H l (.lst ys)) {s with heap:=s.heap.update l (Obj.mapSeq f),toks:=t'}:=by
 have q:=PySem.IsL.update e f;rw[k] at q;refine I.write (x:=l) (e:=l) (by rw[i];exact trivial) (.inl rfl) (fun h u B w=>(Heap.get?_update_other s.heap (Obj.mapSeq f) (b5 B)).trans w) ⟨_,q⟩ ?_;exact⟨v,its',_,A,q⟩
theorem Inv.Y0 (I:Inv X pins σ H s)(A:Vals ys d)(i:ys.length<=sizeLine):
  Inv X pins σ (upd H s.heap.objs.size (.lst ys)) {s with heap:=s.heap.push {cls:= .type "list",data:= .seq d.toArray},toks:=t'}:=
 I.laid (fun _ _ q=>Heap.get?_push_of_some _ q) (aj _) ⟨i,d,0,A,Heap.get?_push_size _ rfl⟩
theorem Inv.fresh(I:Inv X pins σ H s):H s.heap.objs.size=none:=I.i9.fresh (aj _)
theorem Inv.QC(I:Inv X pins σ H s)(A:H l=some (.lst xs)):xs.length<=sizeLine/\∃(d:List Value) (n:Nat),Vals xs d/\xs.length=d.length/\s.heap.get? l=some {cls:= .type "list",data:= .seq d.toArray n}:=by
 obtain⟨z,d,n,r,e⟩:=I.i9 l _ A;exact⟨z,d,n,r,r.length,e⟩
theorem Kv (h:n<=sizeLine):Builtin.List.listTooLong n=false:=by
 unfold Builtin.List.listTooLong;exact aA (by lia)
end
section
variable {X:Cx}
def OI:V->List V->Hp->VK->Prop:=fun x A H Q=>∃l d y,x= .ref l/\A=[y]/\H l=some (.lst d)/\d.length<sizeLine/\Q .kY (upd H l (.lst (d ++ [y])))
theorem gN:MtM X "list.append" OI:=by
 intro pins s σ H x a v t Q I f i h;obtain⟨l,k,y,rfl,rfl,A,b,q⟩:=h;cases f;obtain⟨u,rfl,B⟩:=i.one;obtain⟨z,d,n,r,w,e⟩:=I.QC A;refine call_meets F.slot_list_append ⟨_,e,rfl⟩ F.entry_list_append (F.args_list_append_2 _ _) (PySem.list_append l d.toArray n u (by rw[aS];lia)) ⟨e,?_⟩;refine⟨.kY,_,I.YZ (its':=d ++ [u]) A e (by simp) (r.append (.cons B .nil)) ?_,rfl,q⟩;rw[aJ,List.length_singleton];lia
def Vf:V->List V->Hp->VK->Prop:=fun x i H Q=>∃l b A d,x= .ref l/\i=[.ref b]/\H l=some (.lst A)/\H b=some (.lst d)/\A.length+d.length<=sizeLine/\Q .kY (upd H l (.lst (A ++ d)))
theorem Hj:MtM X "list.extend" Vf:=by
 intro pins s σ H x P v c Q I S k h;obtain⟨l,b,y,m,rfl,rfl,B,w,G,q⟩:=h;cases S;obtain⟨u,rfl,t⟩:=k.one;cases t;obtain⟨z,A,n,r,L,e⟩:=I.QC B;obtain⟨j,d,p,a,C,o⟩:=I.QC w;have f:A.toArray.size+d.toArray.size<=sizeLine:=by rw[aS,aS];lia
 have i:¬(!A.toArray.isEmpty&&Builtin.List.listTooLong (A.toArray.size+d.toArray.size))=true:=by
  rw[Kv f,Bool.and_false];exact aU
 refine call_meets F.slot_list_extend ⟨_,e,rfl⟩ F.entry_list_extend (F.args_list_extend_2 _ _)
  (AutoSeq1.list_extend_list_list_0 l A.toArray n b d.toArray p i (by rw[aS];lia) (by lia)) ⟨e,o,?_⟩
 refine⟨.kY,_,I.YZ (its':=A ++ d) B e (by simp) (r.append a) ?_,rfl,q⟩;rw[aJ];lia
def Y1:R2:=fun x y H Q=>∃l b A d,x= .ref l/\y= .ref b/\H l=some (.lst A)/\H b=some (.lst d)/\A.length+d.length<=sizeLine/\∀p,H p=none->Q (.ref p) (upd H p (.lst (A ++ d)))
theorem A2:yU X (binaryOp .Add) Y1:=by
 intro pins s σ H x y v u Q I w t h;obtain⟨l,b,o,F,rfl,rfl,B,a,G,q⟩:=h;cases w;cases t;obtain⟨z,A,n,r,S,e⟩:=I.QC B;obtain⟨c,d,C,i,p,f⟩:=I.QC a;refine PySem.P.add_list e f ?_ (by rw[aS,aS];lia);have k:A.toArray ++ d.toArray=(A ++ d).toArray:=by simp
 rw[k];exact⟨.ref _,_,I.Y0 (t':=s.toks) (r.append i) (by rw[aJ];lia),rfl,q _ I.fresh⟩
def aaa:R2:=fun x y H Q=>∃l k d,x= .ref l/\y= .int k/\H l=some (.lst d)/\-(2^63)<=k/\k<2^63/\d.length*k.toNat<=sizeLine/\
 ∀p,H p=none->Q (.ref p) (upd H p (.lst (List.replicate k.toNat d).flatten))
theorem len_rep {α:Type}(d:List α)(k):(List.replicate k d).flatten.length=k*d.length:=by
 induction k with
 |zero=>simp
 |succ k A=>rw[b7,List.flatten_cons,aJ,A,cV,Nat.add_comm]
theorem IL:yU X (binaryOp .Mult) aaa:=by
 intro pins s σ H x y v u Q I L j h;obtain⟨l,k,N,rfl,rfl,c,S,G,o,q⟩:=h;cases L;obtain⟨t,rfl⟩:=j;obtain⟨z,d,n,r,C,e⟩:=I.QC c;have f:d.toArray.size*k.toNat<=sizeLine:=by rw[aS,<-C];exact o
 have B:¬d.toArray.size*k.toNat>(2^63 - 1) / 8:=by
  have:(sizeLine:Nat)<=(2^63 - 1) / 8:=by decide
  lia
 have b:¬(!Builtin.List.listFitsIndex k)=true:=by
  rw[fitsIndex_both S G];exact aU
 have A:¬Builtin.List.listTooLong (d.toArray.size*k.toNat)=true:=by
  rw[Kv f];exact aU
 have w:List.foldl (fun p i=>p ++ i) #[] (List.replicate (if d.toArray.isEmpty=true then 0 else k.toNat) d.toArray)=(List.replicate k.toNat d).flatten.toArray:=by
  have f0:∀m:Nat,List.foldl (fun p i=>p ++ i) #[] (List.replicate m d.toArray)=(List.replicate m d).flatten.toArray:=fun m=>by
   have:=foldl_rep d m [];rw[List.nil_append] at this;exact this
  rw[f0];cases d with
  |nil=>simp
  |cons a E=>rw[ah (by simp)]
 refine wpAny_binaryOp_repeat_ref (T:="list") (U:="int") (by decide) ⟨_,e,rfl⟩ (fun P=>typeIs_int P k t) noFill_list_mul F.fills_int_mul F.slot_int_rmul repeat_list F.slot_int_index.lookup
  (call_meets F.slot_int_rmul (typeIs_int s k t) F.entry_int_rmul (F.args_int_rmul_2 _ _) (int___rmul___int_list k t l d.toArray n)
   ⟨e,rfl,⟨_,e,rfl⟩,call_meets F.slot_list_mul ⟨_,e,rfl⟩ F.entry_list_mul (F.args_list_mul_2 _ _) (AutoListH.list___mul___list_int_3 l d.toArray n k t b B A) ⟨e,?_⟩⟩)
 rw[w];exact⟨.ref _,_,I.Y0 (t':=s.toks) (r.rep k.toNat) (by rw[len_rep,Nat.mul_comm];exact o),rfl,q _ I.fresh⟩
end
theorem Vals.ints:∀{A:List Int} {d:List Value},Vals (A.map V.int) d->IntsAre d A
 |[],d,h=>by
  rw[List.map_nil] at h;cases h;exact IntsAre.nil
 |n::A,d,h=>by
  rw[aK] at h;cases h with
  |cons r t=>
   obtain⟨k,rfl⟩:=r;exact IntsAre.cons n k (Vals.ints t)
theorem Vals.bls:∀{bs:List Bool} {d:List Value},Vals (bs.map V.bl) d->d=bs.map Value.bool
 |[],d,h=>by
  rw[List.map_nil] at h;cases h;rfl
 |b::bs,d,h=>by
  rw[aK] at h;cases h with
  |cons r t=>
   cases r;rw[Vals.bls t,aK]
theorem Vals.Xk (r:Vals [V.ref a] d):d=[Value.ref a]:=by
 cases r with
 |cons r t=>
  cases t;cases r;rfl
section
variable {prog:Program}{w:World}{A:Around}{E:Value->Shared->Prop}{s:Shared}{l:Addr}{its:List Value}{ns:List Int}{Q:Value->Shared->Prop}
theorem Vg(B:A.handled=none)(i:s.heap.IsList l its.toArray)(hi:IntsAre its ns)
  (h:∀h' tk t',(∀b o,s.heap.get? b=some o->h'.get? b=some o)->Q (.int ns.sum t') {s with heap:=h',toks:=tk}):wpAny (model prog w) A (call (.builtin "sum") [.ref l]) Q E s:=by
 obtain⟨f,e⟩:=hi.allInts.items;have d:numsOf (intItems f).toList=ns:=by rw[<-e];exact hi.numsOf
 rw[nums_intItems] at d;rw[e] at i;refine PySem.sum_intListG B i fun h' tk t' k=> ?_;have:=h h' tk t' k;rw[preSum_eq,bH (by simp),d];exact this
end
section
variable {X:Cx}
def Y2(K:PySem.W.Frag):List V->Hp->VK->Prop:=fun A H Q=>∃(a:Addr) (d:List Int),A=[V.ref a]/\oK K H a (d.map V.int)/\Q (.int d.sum) H
theorem Xl(l:X.calm=true):qL X (.builtin "sum") (Y2 X.K):=by
 intro pins s σ H v x Q I r h;obtain⟨a,w,rfl,f,q⟩:=h;obtain⟨B,A,d,_⟩:=I.list f;rw[Vals.Xk r];exact Vg (I.ok.hd l) d.isList A.ints fun k e t i=>⟨.int _,H,I.kept i,⟨_,rfl⟩,q⟩
end
theorem Kw (i:s.heap.IsList l items)(h:∀d:Shared,d={s with heap:=s.heap.push {cls:= .type "list_iterator",data:= .fields #[.ref l,.int 0 0]}}->
   (d.heap.IsListIter s.heap.objs.size l 0/\d.heap.IsList l items)->l≠s.heap.objs.size->Q (.ref s.heap.objs.size) d):wpAny (model prog w) A (pyIter (.ref l)) Q E s:=by
 have f:l<s.heap.objs.size:=by obtain⟨_,e,_⟩:=i;exact Heap.lt_size e
 exact wpAny_pyIter_list i (h _ rfl ⟨⟨_,Heap.get?_push_size _ rfl,rfl,rfl⟩,i.push _⟩ (bN f))
theorem Cj {bs:List Bool}(e:d=bs.map Value.bool):
  TruthOf prog w A (fun i v=>d.toArray[i]? =some v) (fun i=>bs.getD i false):=fun i v s Q E k B=>by
 have l:d[i]? =some v:=by simpa using k
 rw[e,aD] at l;obtain⟨b,x,rfl⟩:=Option.map_eq_some_iff.mp l;have h:bs.getD i false=b:=by rw[gDe,x] <;>rfl
 have f:Q (bs.getD i false) s:=B;rw[h] at f;exact wpAny_truthy_bool f
theorem any_range:∀bs:List Bool,(List.range bs.length).any (fun i=>bs.getD i false)=bs.any id
 |[]=>rfl
 |b::bs=>by
  rw[ak,List.range_succ_eq_map,cC,List.any_map,cC,<-any_range bs]
  all_goals rfl
theorem all_range:∀bs:List Bool,(List.range bs.length).all (fun i=>bs.getD i false)=bs.all id
 |[]=>rfl
 |b::bs=>by
  rw[ak,List.range_succ_eq_map,List.all_cons,List.all_map,List.all_cons,<-all_range bs]
  all_goals rfl
section
variable {X:Cx}
def Y3(K:PySem.W.Frag):List V->Hp->VK->Prop:=fun d H Q=>∃(a:Addr) (bs:List Bool),d=[V.ref a]/\oK K H a (bs.map V.bl)/\Q (.bl (bs.any id)) H
def Y4(K:PySem.W.Frag):List V->Hp->VK->Prop:=fun d H Q=>∃(a:Addr) (bs:List Bool),d=[V.ref a]/\oK K H a (bs.map V.bl)/\Q (.bl (bs.all id)) H
theorem Xm(t:X.calm=true):qL X (.builtin "any") (Y3 X.K):=by
 intro pins s σ H y C Q I r h;obtain⟨a,bs,rfl,u,q⟩:=h;obtain⟨l,v,x,_⟩:=I.list u;rw[Vals.Xk r];have f:=v.bls;refine call_any_walk (Kw x.isList fun p k w B=> ?_);subst k;refine⟨_,_,_,_,_,_,_,rfl,Walks.list (A:=X.A.in1) (I.ok.hd t) _ a B l.toArray,w,Cj f,fun S G n=> ?_⟩;refine⟨.bl _,H,I.kept fun b o i=>n b o (fun d=> ?_) (Heap.get?_push_of_some _ i),?_,q⟩
 ·rcases aL.mp d with e |d
  ·exact absurd (e▸Heap.lt_size i) (b6 _)
  ·cases d
 ·show Value.bool _=Value.bool _;rw[<-any_range,f,aS,lMp]
theorem Xn(t:X.calm=true):qL X (.builtin "all") (Y4 X.K):=by
 intro pins s σ H y C Q I r h;obtain⟨a,bs,rfl,u,q⟩:=h;obtain⟨l,v,x,_⟩:=I.list u;rw[Vals.Xk r];have f:=v.bls;refine call_all_walk (Kw x.isList fun p k w B=> ?_);subst k;refine⟨_,_,_,_,_,_,_,rfl,Walks.list (A:=X.A.in1) (I.ok.hd t) _ a B l.toArray,w,Cj f,fun S G n=> ?_⟩;refine⟨.bl _,H,I.kept fun b o i=>n b o (fun d=> ?_) (Heap.get?_push_of_some _ i),?_,q⟩
 ·rcases aL.mp d with e |d
  ·exact absurd (e▸Heap.lt_size i) (b6 _)
  ·cases d
 ·show Value.bool _=Value.bool _;rw[<-all_range,f,aS,lMp]
end
abbrev Sg(h:Heap)(c:Addr)(v:Option Value):Prop:=h.IsCell c v
noncomputable def aac(scope d:Scope):Scope:=
 {scope with names:=scope.names.map fun(n,k)=>if(k== .free&&d.kind== .function&&d.names.lookup n==some .cell) then(n,.cell) else(n,k)}
noncomputable def gC(cells:List (Str×Addr)):List (Str×NameKind)->List (Str×Addr)->List (Str×Addr)
 |[],acc=>acc
 |(n,k)::r,acc=>if k== .free then gC cells r ((n,(cells.lookup n).getD 0)::acc) else gC cells r acc
theorem yW (env)(f:Str×NameKind->List (Str×Addr)->Sem (ForInStep (List (Str×Addr))))(i:∀n k c,f (n,k) c=if k== .free then(do let a<-cellOf env n;pure (.yield ((n,a)::c))) else pure (.yield c)):
  ∀(names:List (Str×NameKind)) (acc:List (Str×Addr)),(∀y∈names,y.2= .free->∃c,env.cells.lookup y.1=some c)->forIn names acc f=pure (gC env.cells names acc)
 |[],acc,_=>by rw[List.forIn_nil];rfl
 |(n,k)::r,acc,h=>by
  rw[List.forIn_cons,i];have A:=fun acc=>yW env f i r acc fun y x=>h y (ao _ x);unfold gC;by_cases d:(k==NameKind.free)=true
  ·rw[ai d,ai d];obtain⟨c,l⟩:=h (n,k) aC (by simpa using d);have e:cellOf env n=pure c:=by unfold cellOf;rw[l]
   rw[e];have B:(env.cells.lookup n).getD 0=c:=by rw[l];rfl
   rw[B];exact A _
  ·rw[ah d,ah d];exact A _
theorem MB (h:∀y∈scope.names,y.2= .free->∃c,env.cells.lookup y.1=some c):closureFor scope env=pure (gC env.cells scope.names []):=by
 simp only[closureFor];rw[yW env _ (fun n k c=>rfl) scope.names [] h];rfl
theorem mem_lookup{α:Type}:∀{l:List (Str×α)} {n:Str} {c:α},(n,c)∈l->∃d,l.lookup n=some d
 |(k,v)::r,n,c,h=>by
  rw[cD];cases A:n==k with
  |true=>exact⟨_,rfl⟩
  |false=>
   rcases aL.mp h with e |h
   ·cases e;simp at A
   ·exact mem_lookup h
theorem qO:∀{names:List (Str×NameKind)} {acc:List (Str×Addr)} {n:Str} {c:Addr},(n,c)∈gC cells names acc->(n,c)∈acc\/((n,.free)∈names/\c=(cells.lookup n).getD 0)
 |[],_,_,_,h=> .inl h
 |(m,k)::r,acc,n,c,h=>by
  unfold gC at h;split at h
  ·rename_i d;have d:k= .free:=by simpa using d
   rcases qO h with h |⟨l,A⟩
   ·rcases aL.mp h with e |h
    ·cases e;exact .inr ⟨d▸aC,rfl⟩
    ·exact .inl h
   ·exact .inr ⟨ao _ l,A⟩
  ·rcases qO h with h |⟨l,A⟩
   ·exact .inl h
   ·exact .inr ⟨ao _ l,A⟩
theorem u6:∀{names:List (Str×NameKind)} {acc:List (Str×Addr)} {p:Str×Addr},p∈acc->p∈gC cells names acc
 |[],_,_,h=>h
 |(m,k)::r,acc,p,h=>by
  unfold gC;split
  ·exact u6 (ao _ h)
  ·exact u6 h
theorem u7:∀{names:List (Str×NameKind)} {acc:List (Str×Addr)} {n:Str},(n,.free)∈names->(n,(cells.lookup n).getD 0)∈gC cells names acc
 |(m,k)::r,acc,n,h=>by
  unfold gC;rcases aL.mp h with e |h
  ·cases e;exact u6 aC
  ·split
   ·exact u7 h
   ·exact u7 h
theorem su:∀{names:List (Str×NameKind)} {h:Heap} {acc:List (Str×Addr)} {x:Str} {c:Addr},(x,c)∈cellsFrom h.objs.size names acc->
  (x,c)∈acc\/((x,.cell)∈names/\h.objs.size<=c/\Sg (pushCells h names) c none)
 |[],_,_,_,_,h=> .inl h
 |(n,k)::r,h,acc,x,c,d=>by
  unfold cellsFrom at d;unfold pushCells;split at d
  ·rename_i A;rw[ai A];have A:k= .cell:=by simpa using A
   rw[<-Heap.size_push h {cls:= .type "cell",data:= .cell none}] at d;rcases su d with d |⟨i,l,f⟩
   ·rcases aL.mp d with e |d
    ·cases e;exact .inr ⟨A▸aC,aj _,_,pushCells_keeps r _ _ _ (Heap.get?_push_size _ rfl),rfl⟩
    ·exact .inl d
   ·rw[Heap.size_push] at l;exact .inr ⟨ao _ i,Nat.le_of_succ_le l,f⟩
  ·rename_i A;rw[ah A];rcases su d with d |⟨i,l,f⟩
   ·exact .inl d
   ·exact .inr ⟨ao _ i,l,f⟩
theorem v8:∀{names:List (Str×NameKind)} {n:Nat} {acc:List (Str×Addr)} {p:Str×Addr},p∈acc->p∈cellsFrom n names acc
 |[],_,_,_,h=>h
 |(m,k)::r,n,acc,p,h=>by
  unfold cellsFrom;split
  ·exact v8 (ao _ h)
  ·exact v8 h
theorem A3:∀{names:List (Str×NameKind)} {n:Nat} {acc:List (Str×Addr)} {x:Str},(x,.cell)∈names->∃c,(x,c)∈cellsFrom n names acc
 |(m,k)::r,n,acc,x,h=>by
  unfold cellsFrom;rcases aL.mp h with e |h
  ·cases e;exact⟨n,v8 aC⟩
  ·split
   ·exact A3 h
   ·exact A3 h
theorem A4:∀{names:List (Str×NameKind)} {h:Heap} {acc:List (Str×Addr)} {x y:Str} {c:Addr},(∀p∈acc,p.2<h.objs.size)->(∀x y c,(x,c)∈acc->(y,c)∈acc->x=y)->
  (x,c)∈cellsFrom h.objs.size names acc->(y,c)∈cellsFrom h.objs.size names acc->x=y
 |[],_,_,_,_,_,_,i,A,d=>i _ _ _ A d
 |(n,k)::r,h,acc,x,y,c,l,i,A,d=>by
  unfold cellsFrom at A d;split at A
  ·rename_i B;rw[ai B] at d;rw[<-Heap.size_push h {cls:= .type "cell",data:= .cell none}] at A d;refine A4 (h:=h.push _) (fun p f=> ?_) (fun x y c a b=> ?_) A d
   ·rw[Heap.size_push];rcases aL.mp f with rfl |f
    ·exact Nat.lt_succ_self _
    ·exact Nat.lt_succ_of_lt (l p f)
   ·rcases aL.mp a with e |a <;>rcases aL.mp b with v |b
    ·cases e;cases v;rfl
    ·cases e;exact absurd (l _ b) (b6 _)
    ·cases v;exact absurd (l _ a) (b6 _)
    ·exact i _ _ _ a b
  ·rename_i B;rw[ah B] at d;exact A4 l i A d
theorem Kx {code:Value}(h:Q (newEnv scope s.heap.objs.size globals (cellsFrom (s.heap.objs.size+1) scope.names closure) qual func code (some around) builtins)
   {s with heap:=pushCells (s.heap.push {cls:= .type "dict",data:= .dict #[]}) scope.names}):
  wpAny M A (newFunctionEnv scope globals closure [] qual func code (some around) builtins) Q E s:=by
 simp only[newFunctionEnv,Option.isSome_some,if_true];refine wpAny_bind (wpAny_alloc ?_);refine wpAny_bind (wpAny_layCells _ (fun n k c=>rfl) scope.names closure _ _ ?_);rw[show({s with heap:=s.heap.push {cls:= .type "dict",data:= .dict #[]}}:Shared).heap.objs.size=s.heap.objs.size+1 from Heap.size_push ..];rw[List.forIn_nil];exact wpAny_bind (wpAny_pure (wpAny_pure h))
theorem u9{A:Scope}:∀{names:List (Str×NameKind)} {x:Str} {k:NameKind},
  (names.map fun(n,k)=>if(k==NameKind.free&&A.kind== .function&&A.names.lookup n==some .cell) then(n,NameKind.cell) else(n,k)).lookup x=some k->
  ∃B,names.lookup x=some B/\(k=B\/(B= .free/\k= .cell))
 |[],_,_,h=>by simp at h
 |(n,f)::r,x,k,h=>by
  have v:= @u9 A r x k;have d:List.lookup x ((if(f==NameKind.free&&A.kind== .function&&A.names.lookup n==some .cell)=true then(n,NameKind.cell) else(n,f))::(r.map _))=some k:=h;cases i:x==n with
  |true=>
   simp only[cD,i];by_cases l:(f==NameKind.free&&A.kind== .function&&A.names.lookup n==some .cell)=true
   ·rw[ai l] at d;simp only[cD,i] at d;cases d;simp only[aW,beq_iff_eq] at l;exact⟨f,rfl,.inr ⟨l.1.1,rfl⟩⟩
   ·rw[ah l] at d;simp only[cD,i] at d;cases d;exact⟨_,rfl,.inl rfl⟩
  |false=>
   simp only[cD,i];by_cases l:(f==NameKind.free&&A.kind== .function&&A.names.lookup n==some .cell)=true
   ·rw[ai l] at d;simp only[cD,i] at d;exact v d
   ·rw[ah l] at d;simp only[cD,i] at d;exact v d
structure Ky(N:List Str)(sc scope:Scope)(own:List (Str×Nat)):Prop where
 kind:scope.kind= .function
 uniq:∀y∈scope.names,scope.names.lookup y.1=some y.2
 ix:∀p∈own,N[p.2]? =some p.1
 free:∀y∈scope.names,y.2= .free->sc.names.lookup y.1=some .cell\/sc.names.lookup y.1=some .free
 own:∀y∈scope.names,y.2= .local\/y.2= .cell->y.1∈own.map (·.1)\/y.1∉N
noncomputable def wipe(σ:St):List Nat->St
 |[]=>σ
 |v::d=>(wipe σ d).set v none
theorem vc (σ):∀d:List Nat,(wipe σ d).length=σ.length
 |[]=>rfl
 |v::d=>by unfold wipe;rw[cA,vc σ d]
theorem A5:∀{d:List Nat},(wipe σ d)[i]? =some (some x)->σ[i]? =some (some x)/\i∉d
 |[],h=>⟨h,by simp⟩
 |v::d,h=>by
  unfold wipe at h;by_cases A:v=i
  ·subst A;by_cases l:v<(wipe σ d).length
   ·rw[List.getElem?_set_self l] at h;cases h
   ·rw[aO (by simpa using l)] at h;cases h
  ·rw[List.getElem?_set_ne A] at h;obtain⟨f,B⟩:=A5 h;exact⟨f,by simp only[aL,not_or];exact⟨fun e=>A e.symm,B⟩⟩
noncomputable abbrev Cx.Gg(X:Cx)(s:Shared)(H:Hp)(scope:Scope)(cenv:Env)(fp:List Addr):Cx:={X with Hc:=s,Yv:=H,env:=cenv,outer:=X.stack,ex:=fp,fn:=fun x=>scope.names.lookup x==some .cell,pn:=[],xe:=fun _ _=>False}
section
variable {X:Cx}{pins:List (Addr×Obj)}{σ:St}{H:Hp}{s:Shared}
theorem Kz{scope:Scope}{own:List (Str×Nat)}{T:List Addr}(I:Inv X pins σ H s)(ok:Ky X.N X.env.scope scope own)(hN:X.N.Nodup)(h:∀b∈T,CJ X pins H b/\b<s.heap.objs.size):
  Inv (X.Gg s H scope (compEnvC scope (cellsFrom (s.heap.objs.size+1) scope.names (gC X.env.cells scope.names [])) s.heap.objs.size X.env) T) [] (wipe σ (own.map (·.2))) H {s with heap:=pushCells (s.heap.push {cls:= .type "dict",data:= .dict #[]}) scope.names}:=by
 have g:∀y∈scope.names,y.2= .free->∃c,X.env.cells.lookup y.1=some c:=fun y t e=>by
  rcases ok.free y t e with k |k
  ·exact I.ok.has _ (.inl k)
  ·exact I.ok.has _ (.inr k)
 generalize l:compEnvC scope (cellsFrom (s.heap.objs.size+1) scope.names (gC X.env.cells scope.names [])) s.heap.objs.size X.env=d;have W:∀b o,s.heap.get? b=some o->(pushCells (s.heap.push {cls:= .type "dict",data:= .dict #[]}) scope.names).get? b=some o:=fun b o e=>pushCells_keeps _ _ _ _ (Heap.get?_push_of_some _ e);have K:d.locals=s.heap.objs.size:=by rw[<-l];rfl
 have v:d.cells=cellsFrom (s.heap.objs.size+1) scope.names (gC X.env.cells scope.names []):=by rw[<-l];rfl
 have Q:d.scope=aac scope X.env.scope:=by rw[<-l];rfl
 rw[<-Heap.size_push s.heap {cls:= .type "dict",data:= .dict #[]}] at v;have M:∀{y c},(y,c)∈gC X.env.cells scope.names []->X.env.cells.lookup y=some c/\c<s.heap.objs.size:=fun{y c} B=>by
  rcases qO B with B |⟨A,rfl⟩
  ·cases B
  ·obtain⟨c,hc⟩:=g _ A rfl;rw[hc];obtain⟨w,z⟩:=I.cell _ _ hc;exact⟨rfl,z.lt⟩
 have mem:∀{y c},d.cells.lookup y=some c->(X.env.cells.lookup y=some c/\c<s.heap.objs.size)\/(s.heap.objs.size+1<=c/\Sg (pushCells (s.heap.push {cls:= .type "dict",data:= .dict #[]}) scope.names) c none):=fun{y c} e=>by
  rw[v] at e;rcases su (bq e) with B |⟨_,u,h3⟩
  ·exact .inl (M B)
  ·rw[Heap.size_push] at u;exact .inr ⟨u,h3⟩
 have look:∀{y},scope.names.lookup y=some .free->∃c,d.cells.lookup y=some c/\X.env.cells.lookup y=some c:=fun{y} J=>by
  have t:(y,NameKind.free)∈scope.names:=bq J;obtain⟨D,f⟩:=mem_lookup (v8 (names:=scope.names) (n:=(s.heap.push {cls:= .type "dict",data:= .dict #[]}).objs.size) (u7 (cells:=X.env.cells) (acc:=[]) t));rw[<-v] at f;refine⟨D,f,?_⟩;rw[v] at f;rcases su (bq f) with B |⟨A,_,_⟩
  ·exact(M B).1
  ·have:=ok.uniq _ A;rw[J] at this;cases this
 have ab:(X.Gg s H scope d T).Ok:=by
  refine⟨I.ok.mod,by show d.scope.kind=_;rw[Q];exact ok.kind,by show d.globals=_;rw[<-l];exact I.ok.glob,by show d.builtins=_;rw[<-l];exact I.ok.blt,by show s.heap.objs.size<=d.locals;rw[K];exact aj _,
   fun y z c C G=> ?_,fun y t=> ?_,fun y c z e=> ?_,I.ok.hd,I.ok.frames,.inl rfl,fun b F=>⟨?_,fun y c e z=> ?_⟩,I.bs,aB I.ok.UX I.sz,fun b o e F=> ?_,fun b F z=> ?_,I.stack,I.Ov⟩
  ·have C:d.cells.lookup y=some c:=C;have G:d.cells.lookup z=some c:=G;rw[v] at C G;refine A4 (fun p j=> ?_) (fun y z c a b=>I.ok.inj y z c (M a).1 (M b).1) (bq C) (bq G);rw[Heap.size_push];exact Nat.lt_succ_of_lt (M (y:=p.1) (c:=p.2) j).2
  ·show ∃c,d.cells.lookup y=some c;have key:∀k,d.kindOf y=some k->(k= .cell\/k= .free)->∃c,d.cells.lookup y=some c:=fun k P E=>by
    unfold Env.kindOf at P;rw[Q] at P;obtain⟨S,e,r⟩:=u9 P;have:S= .cell\/S= .free:=by
     rcases r with rfl |⟨rfl,_⟩
     ·exact E
     ·exact .inr rfl
    rcases this with rfl |rfl
    ·obtain⟨c,B⟩:=A3 (n:=(s.heap.push {cls:= .type "dict",data:= .dict #[]}).objs.size) (acc:=gC X.env.cells scope.names []) (bq e);obtain⟨D,f⟩:=mem_lookup B;exact⟨D,by rw[v];exact f⟩
    ·obtain⟨c,A,_⟩:=look e;exact⟨c,A⟩
   rcases t with t |t
   ·exact key _ t (.inl rfl)
   ·exact key _ t (.inr rfl)
  ·have z:(scope.names.lookup y==some NameKind.cell)=true:=z;have z:scope.names.lookup y=some .cell:=by simpa using z
   have e:d.cells.lookup y=some c:=e;rw[v] at e;rcases su (bq e) with B |⟨_,u,_⟩
   ·rcases qO B with B |⟨A,_⟩
    ·cases B
    ·have q:=ok.uniq _ A;rw[z] at q;cases q
   ·rw[Heap.size_push] at u;exact Nat.le_of_succ_le u
  ·show b≠d.locals;rw[K];exact bN (h b F).2
  ·have e:d.cells.lookup y=some c:=e;rcases mem e with⟨A,_⟩ |⟨A,_⟩
   ·exact(h b F).1.2.2.2.2.1 y c A z
   ·have u:s.heap.objs.size+1<=b:=by rw[<-z];exact A
    exact absurd (a8 (h b F).2 (Nat.le_of_succ_le u)) (b6 _)
  ·rcases(h b F).1.2.2.2.1 with z |z
   ·exact I.ok.RW b o e z
   ·exact absurd (a8 (Heap.lt_size e) (aB I.ok.UX z)) (b6 _)
  ·rcases aL.mp (I.Mm b z) with z |z
   ·exact(h b F).1.2.1 z
   ·exact(h b F).1.2.2.1 z
 refine⟨ab,rfl,I.bare,Un.kept W,⟨fun _=>none,?_,fun i y av C G x=> ?_⟩,fun y c e=> ?_,?_,fun y c e=> ?_,fun p j=> ?_,I.i9.kept W,by rw[vc];exact I.len⟩
 ·show Heap.Ns _ d.locals _;rw[K];exact Heap.Ns.keeps (Heap.Ns.new ..) fun b o e=>pushCells_keeps _ _ _ _ e
 ·obtain⟨G,aa⟩:=A5 G;have L:scope.names.lookup y=some .free/\(d.kindOf y=some .cell\/d.kindOf y=some .free):=by
   have key:∀k,d.scope.names.lookup y=some k->k= .local\/k= .cell\/k= .free->scope.names.lookup y=some .free/\(d.kindOf y=some .cell\/d.kindOf y=some .free):=fun k P E=>by
    have R:=P;rw[Q] at P;obtain⟨S,e,r⟩:=u9 P;have no:¬(S= .local\/S= .cell):=fun hh=>by
     rcases ok.own _ (bq e) hh with f |f
     ·obtain⟨p,j,ac⟩:=aV.mp f;have x:=ok.ix p j;have:p.1=y:=ac;rw[this] at x;exact aa (aV.mpr ⟨p,j,DJ hN x C⟩)
     ·exact f (aH C)
    rcases r with rfl |⟨rfl,rfl⟩
    ·rcases E with rfl |rfl |rfl
     ·exact absurd (.inl rfl) no
     ·exact absurd (.inr rfl) no
     ·exact⟨e,.inr R⟩
    ·exact⟨e,.inl R⟩
   have x:Yf d.scope y:=x;rcases x with x |x |x
   ·exact key _ x (.inl rfl)
   ·exact key _ x (.inr (.inl rfl))
   ·exact key _ x (.inr (.inr rfl))
  obtain⟨m,hn,J⟩:=I.loc;have O:Yf X.env.scope y:=(ok.free _ (bq L.1) rfl).elim (fun k=> .inr (.inl k)) (fun k=> .inr (.inr k));obtain⟨w,r,q⟩:=J i y av C G O;refine⟨w,r,.inr ⟨L.2,?_⟩⟩;obtain⟨c,A,u⟩:=look L.1;rcases q with⟨k,_⟩ |⟨_,D,f,z⟩
  ·have k:X.env.scope.names.lookup y=some .local:=k;rcases ok.free _ (bq L.1) rfl with S |S <;>rw[show X.env.scope.names.lookup y=_ from S] at k <;>cases k
  ·rw[u] at f;cases f;exact⟨c,A,z.keeps W⟩
 ·have e:d.cells.lookup y=some c:=e;rcases mem e with⟨A,_⟩ |⟨_,z⟩
  ·obtain⟨w,z⟩:=I.cell y c A;exact⟨w,z.keeps W⟩
  ·exact⟨_,z⟩
 ·show H d.locals=none;rw[K];exact I.i9.fresh (aj _)
 ·have e:d.cells.lookup y=some c:=e;rcases mem e with⟨A,_⟩ |⟨A,_⟩
  ·exact I.uX y c A
  ·exact I.i9.fresh (Nat.le_of_succ_le A)
 ·exact absurd (show p∈([]:List (Addr×Obj)) ++ [] from j) (by simp)
theorem Xo (I:Inv X pins σ H s)(k:H D=some (.lst l))(p:l.length<sizeLine)(r:RelV y v)(h:∀f,Inv X pins σ (upd H D (.lst (l ++ [y]))) f->Q .none f):wpAny (model X.prog X.w) X.A (call (.builtin "list.append") [.ref D,v]) Q E s:=by
 obtain⟨o,i,n,B,e⟩:=I.i9 D _ k;have S:=B.length;refine append_at (hsz:=by rw[aS];lia) e fun x t d=> ?_;refine h {s with heap:=x} (I.write (t':=s.toks) (by rw[k];trivial) (.inl rfl) (fun b u a q=>(t.2 b a).trans q) ⟨_,d⟩ ⟨by rw[aJ];exact p,i ++ [v],n+1,B.append (.cons r .nil),?_⟩);rw[d];simp
def Y5(X:Cx)(ifs:List Expr)(t:TT):Prop:=
 ∀(pins:List (Addr×Obj)) (s:Shared) (σ:St) (H:Hp) (Q:Bool->Hp->Prop),Inv X pins σ H s->t σ H Q->
  wpAny (model X.prog X.w) X.A (forIn ifs true fun c r=>if r=true then do let ok<-isTrue c X.env (eval c X.env);pure (ForInStep.yield ok) else pure (ForInStep.yield r)) (TP X pins σ Q) X.xe s
def aad:TT:=fun _ H Q=>Q true H
theorem gh:Y5 X [] aad:=fun _ _ _ H _ I h=>wpAny_tests_nil ⟨H,I,h⟩
theorem IM (h:PT X c t):Y5 X [c] t:=fun pins s σ H Q I d=>wpAny_tests_one (h pins s σ H Q I d)
end
theorem QD{α:Type}{t:Sem α}{Q d:α->Shared->Prop}{M:Model}{A:Around}{E:Value->Shared->Prop}{s:Shared}(h:wpAny M A t Q (fun _ _=>False) s)(l:∀a s,Q a s->d a s):wpAny M A t d E s:=wpAny_mono h l fun _ _ z=>False.elim z
theorem IP{prog:Program}{w:World}{A:Around}{R:Result->Shared->Prop}{s:Shared}{elt target iter:Expr}{ifs:List Expr}{scope:Scope}{pos:Pos}{i acc:Value}{env:Env}(I:Nat->Shared->Prop)
  (turn:∀n s,I n s->wpAny (model prog w) A (pyNext i) (fun r k=>match r with
   |none=>R (.ok .next) k
   |some v=>wpAny (model prog w) A (letOwnedTupleGo target i v) (fun _ f=>wpAny (model prog w) A (assign target env v) (fun _ t=>
     wpAny (model prog w) A (forIn ifs true fun c r=>if r=true then do let ok<-isTrue c env (eval c env);pure (ForInStep.yield ok) else pure (ForInStep.yield r)) (fun ok B=>
      if ok=true then wpAny (model prog w) A (eval elt env) (fun x u=>
       wpAny (model prog w) A (call (.builtin "list.append") [acc,x]) (fun _ b=>∃m,m<n/\I m b) (notedBy (model prog w) A env fun e l=>R (.error e) l) u) (notedBy (model prog w) A env fun e l=>R (.error e) l) B
      else ∃m,m<n/\I m B) (notedBy (model prog w) A env fun e l=>R (.error e) l) t) (notedBy (model prog w) A env fun e l=>R (.error e) l) f) (notedBy (model prog w) A env fun e l=>R (.error e) l) k) (notedBy (model prog w) A env fun e l=>R (.error e) l) s)
  (n:Nat) (h:I n s):
  codeAny (model prog w) A (.compLoop (.ListComp elt [⟨target,iter,ifs,0⟩] scope pos) 0 i acc env) R s:=by
 refine codeAny_loop rfl I (fun n s o=> ?_) n h;show wpAny _ A ((compTurn (.ListComp elt [⟨target,iter,ifs,0⟩] scope pos) 0 i acc env).onRaise (fun x=>do noteFrame x env;theTreesLotGoes x)) _ _ s;refine wpAny_noted ?_;rw[compTurn_list];refine wpAny_bind (wpAny_standAt (wpAny_bind (wpAny_mono (turn n s o) (fun r k p=> ?_) fun _ _ d=>d)));cases r with
 |none=>exact wpAny_pure p
 |some v=>
  refine wpAny_bind (wpAny_mono p (fun _ f a=> ?_) fun _ _ d=>d);refine wpAny_bind (wpAny_mono a (fun _ t S=>wpAny_bind (wpAny_mono S (fun ok B q=> ?_) fun _ _ d=>d)) fun _ _ d=>d);cases ok with
  |false=>exact wpAny_pure ⟨rfl,q⟩
  |true=>
   exact wpAny_bind (wpAny_bind (wpAny_mono q (fun x u H=>wpAny_bind (wpAny_mono H (fun _ b C=>wpAny_pure (wpAny_pure ⟨rfl,C⟩)) fun _ _ d=>d)) fun _ _ d=>d))
section
variable {X:Cx}
def ZL(h:TI)(g:TG)(e:TT)(t:TE)(l:List Nat):TE:=fun σ H Q=>h σ H fun J v=>∀D,v D=none->∃W:Nat->Nat->Hp->Prop,(∃m,W 0 m (upd v D (.lst [])))/\∀i m H,W i m H->
 (J.stop i H/\Q (.ref D) H)\/(J.go i H/\∃A:Hp->Prop,(∀d,A d->∃B,B <m/\W (i+1) B d)/\∀x d,J.Yg i H x d->g x (wipe σ l) d fun σ2 w=>wipe σ2 l=wipe σ l/\e σ2 w fun b f=>
  if b=true then t σ2 f fun y k=>∃acc,k D=some (.lst acc)/\acc.length<sizeLine/\A (upd k D (.lst (acc ++ [y]))) else A f)
theorem OJ{pins:List (Addr×Obj)}{s:Shared}{σ:St}{H:Hp}{Q:VK}{elt tg iter:Expr}{ifs:List Expr}{scope:Scope}{own:List (Str×Nat)}{pos pos':Pos}{wi:TI}{g:TG}{tt:TT}{te:TE}{use:Option (Value->Sem Unit)}{Qf:Value->Shared->Prop}
  (hc:X.calm=true) (hN:X.N.Nodup) (I:Inv X pins σ H s) (hi:PI X tg iter wi) (ok:Ky X.N X.env.scope scope own)
  (hg:∀(s:Shared) (H:Hp) (C:Addr) (cl:List (Str×Addr)) (l:List Addr),PG (X.Gg s H scope (compEnvC scope cl C X.env) l) tg g) (ht:∀(s:Shared) (H:Hp) (C:Addr) (cl:List (Str×Addr)) (l:List Addr),Y5 (X.Gg s H scope (compEnvC scope cl C X.env) l) ifs tt)
  (he:∀(s:Shared) (H:Hp) (C:Addr) (cl:List (Str×Addr)) (l:List Addr),PE (X.Gg s H scope (compEnvC scope cl C X.env) l) elt te) (hs:∀x,foldedSetIterable iter X.env x=pure x)
  (h:ZL wi g tt te (own.map (·.2)) σ H Q)
  (am:∀D C t m B,Inv X pins σ B t->Q (.ref D) B->t.heap.Ns C m->CJ X pins B C->compPost (model X.prog X.w) X.A X.xe use Qf (.ref D) C (.ok .next) t):
  wpAny (model X.prog X.w) X.A (comprehension (.ListComp elt [⟨tg,iter,ifs,0⟩] scope pos) scope X.env pos' (newList []) false (eval iter X.env) use) Qf X.xe s:=by
 have aa:∀y∈scope.names,y.2= .free->∃c,X.env.cells.lookup y.1=some c:=fun y hy e=>by
  rcases ok.free y hy e with k |k
  ·exact I.ok.has _ (.inl k)
  ·exact I.ok.has _ (.inr k)
 refine wpAny_comprehension_free (use:=use) rfl hs (MB aa) ok.kind (fun y hy e=>by rw[ok.uniq y hy,e])
  (iS (hi pins s σ H _ I h) fun xv s1 hx=>iS hx fun az E h2=> ?_)
 obtain⟨it,l,tn,J,G,e,I2,T,ac,f2,q⟩:=h2;subst e;refine wpAny_newObj_type (Kx ?_) (by show 0<=sizeLine;decide);generalize hD:E.heap.objs.size=D;have an:G D=none:=I2.i9.fresh (Nat.le_of_eq hD);obtain⟨W,⟨m0,w0⟩,turn⟩:=q D an;generalize ag:({E with heap:=E.heap.push {cls:= .type "list",data:= .seq ([]:List Value).toArray}}:Shared)=d;have I3:Inv X pins σ (upd G D (.lst [])) d:=by
  rw[<-ag];refine I2.laid (t':=E.toks) (fun b o e=>Heap.get?_push_of_some _ e) (Nat.le_of_eq hD) ⟨aR _,[],0,.nil,?_⟩;rw[<-hD];exact Heap.get?_push_size _ rfl
 have h3:d.heap=E.heap.push {cls:= .type "list",data:= .seq ([]:List Value).toArray}:=by rw[<-ag]
 have sz:∀b∈l,b<E.heap.objs.size:=fun b f=>by
  obtain⟨o,e,_⟩:=T.obj _ _ ac b f;exact Heap.lt_size e
 have P:∀b∈l,CJ X pins (upd G D (.lst [])) b/\b<d.heap.objs.size:=fun b f=>by
  have ae:=sz b f;refine⟨⟨?_,(f2 b f).2⟩,by rw[h3,Heap.size_push];exact Nat.lt_succ_of_lt ae⟩;rw[dY (by rw[<-hD];exact bN ae)];exact(f2 b f).1
 have ar:tn 0 d.heap:=T.keep _ _ _ ac fun b _ o e=>by rw[h3];exact Heap.get?_push_of_some _ e
 have I4:=Kz I3 ok hN P;have pg:=hg d (upd G D (.lst [])) d.heap.objs.size (cellsFrom (d.heap.objs.size+1) scope.names (gC X.env.cells scope.names [])) l;have pt:=ht d (upd G D (.lst [])) d.heap.objs.size (cellsFrom (d.heap.objs.size+1) scope.names (gC X.env.cells scope.names [])) l;have pe:=he d (upd G D (.lst [])) d.heap.objs.size (cellsFrom (d.heap.objs.size+1) scope.names (gC X.env.cells scope.names [])) l;show codeAny _ _ (.compStart (.ListComp elt [⟨tg,iter,ifs,0⟩] scope pos) 0 (.ref it) (.ref D) (compEnvC scope (cellsFrom (d.heap.objs.size+1) scope.names (gC X.env.cells scope.names [])) d.heap.objs.size X.env)) (compPost (model X.prog X.w) X.A X.xe use Qf (.ref D) d.heap.objs.size) {d with heap:=pushCells (d.heap.push {cls:= .type "dict",data:= .dict #[]}) scope.names};have ah:∀b∈l,(upd G D (.lst [])) b=none:=fun b f=>(P b f).1.1;generalize aq:compEnvC scope (cellsFrom (d.heap.objs.size+1) scope.names (gC X.env.cells scope.names [])) d.heap.objs.size X.env=a at I4 pg pt pe⊢;have cL:a.locals=d.heap.objs.size:=by subst aq;rfl
 generalize ax:upd G D (.lst [])=S at I3 I4 pg pt pe w0 ah P;generalize ap:({d with heap:=pushCells (d.heap.push {cls:= .type "dict",data:= .dict #[]}) scope.names}:Shared)=s4 at I4⊢;have ab:tn 0 s4.heap:=T.keep _ _ _ ar fun b _ o e=>by rw[<-ap];exact pushCells_keeps _ _ _ _ (Heap.get?_push_of_some _ e)
 have L:∀{σ':St} {B:Hp} {t:Shared},Inv (X.Gg d S scope a l) [] σ' B t->(∀b∈l,B b=none)->∀b∈l,CJ (X.Gg d S scope a l) [] B b:=fun{σ' B t} I' M b f=>
  ⟨M b f,(I'.ok.ZJ b f).1,I'.ok.RX b f,.inl f,fun x c e=>(I'.ok.ZJ b f).2 x c e,fun p hp=>absurd (show p∈([]:List (Addr×Obj)) ++ [] from hp) (by simp)⟩
 have loop:codeAny (model X.prog X.w) X.A (.compLoop (.ListComp elt [⟨tg,iter,ifs,0⟩] scope pos) 0 (.ref it) (.ref D) a) (compPost (model X.prog X.w) X.A X.xe use Qf (.ref D) d.heap.objs.size) s4:=by
  refine IP (fun n t=>∃i B,Inv (X.Gg d S scope a l) [] (wipe σ (own.map (·.2))) B t/\tn i t.heap/\(∀b∈l,B b=none)/\W i n B) ?_ m0 ⟨0,S,I4,ab,ah,w0⟩;rintro n s5 ⟨i,F,I5,af,n5,w5⟩;rcases turn i n F w5 with⟨stop,qq⟩ |⟨go,Nx,hNx,step⟩
  ·have td:=T.done (X.Gg d S scope a l) rfl rfl rfl hc i [] s5 _ F (fun _ _=>False) I5 (L I5 n5) af stop;refine QD td ?_;rintro r s6 ⟨hr,K⟩;subst hr;have I7:Inv X pins σ F s6:=I3.Yx (ch:=l) K.os K.base K.i9 K.bare fun b f=>⟨(P b f).1.2.2.2.1,(P b f).1.2.1,(P b f).1.2.2.2.2.1,(P b f).1.2.2.2.2.2⟩;have nC:F d.heap.objs.size=none:=by
    have z:F a.locals=none:=K.free;rw[cL] at z;exact z
   obtain⟨m,M,_⟩:=K.loc;have M:s6.heap.Ns a.locals m:=M;rw[cL] at M;exact am D d.heap.objs.size s6 m F I7 qq M (I3.Qp (aj _) nC)
  ·have ti:=T.item (X.Gg d S scope a l) rfl rfl rfl hc i [] s5 _ F (fun _ _=>False) I5 (L I5 n5) af go;refine QD ti ?_;rintro r s6 ⟨u,hr,h6⟩;subst hr;refine QD h6 ?_;rintro _ s7 ⟨x,H7,I7,r7,y7,R,n7⟩;have ao:=I7.pinned (L I7 n7) (T.obj _ _ R);refine QD (pg _ s7 _ H7 x u _ ao r7 (step x H7 y7)) ?_;rintro _ s8 ⟨σ8,H8,I8,ad,q8⟩;refine QD (pt _ s8 σ8 H8 _ I8 q8) ?_;rintro b s9 ⟨H9,I9,q9⟩;have fin:∀{t:Shared} {B:Hp},Inv (X.Gg d S scope a l) ([] ++ DO l s7.heap) σ8 B t->Nx B->∃m,m<n/\∃i B,Inv (X.Gg d S scope a l) [] (wipe σ (own.map (·.2))) B t/\tn i t.heap/\(∀b∈l,B b=none)/\W i m B:=fun{t B} I' nx=>by
    obtain⟨m',hm,w'⟩:=hNx B nx;have O:∀b∈l,∀o,s7.heap.get? b=some o->t.heap.get? b=some o/\B b=none:=fun b f o e=>
     let z:=I'.pin (b,o) (bM _ (bM _ (xw f e)))
     ⟨z.1,z.2.1⟩
    have hl:(wipe σ (own.map (·.2))).length=σ8.length:=by rw[<-ad,vc]
    refine⟨m',hm,i+1,B,(I'.yT (pins:=[])).weak hl (fun j v e=> ?_),T.keep _ _ _ R fun b f o e=>(O b f o e).1,fun b f=> ?_,w'⟩
    ·rw[<-ad] at e;exact(A5 e).1
    ·obtain⟨o,e,_⟩:=T.obj _ _ R b f;exact(O b f o e).2
   cases b with
   |false=>
    simp only[Bool.false_eq_true,if_false] at q9⊢;exact fin I9 q9
   |true=>
    simp only[if_true] at q9⊢;refine QD (pe _ s9 σ8 H9 _ I9 q9) ?_;rintro z ay ⟨yv,av,as,au,acc,ak,ai,nx⟩;exact Xo (X:=X.Gg d S scope a l) as ak ai au fun aw al=>fin al nx
 exact codeAny_compStart_list loop (T.self X.A 0 _ _ _ ab loop)
theorem mO{elt A iter:Expr}{ifs:List Expr}{scope:Scope}{own:List (Str×Nat)}{pos:Pos}{B:TI}{g:TG}{i:TT}{l:TE}(F:X.calm=true)(P:X.N.Nodup)(hi:PI X A iter B)(ok:Ky X.N X.env.scope scope own)
  (t:∀(s:Shared) (H:Hp) (C:Addr) (cl:List (Str×Addr)) (d:List Addr),PG (X.Gg s H scope (compEnvC scope cl C X.env) d) A g) (k:∀(s:Shared) (H:Hp) (C:Addr) (cl:List (Str×Addr)) (d:List Addr),Y5 (X.Gg s H scope (compEnvC scope cl C X.env) d) ifs i)
  (p:∀(s:Shared) (H:Hp) (C:Addr) (cl:List (Str×Addr)) (d:List Addr),PE (X.Gg s H scope (compEnvC scope cl C X.env) d) elt l) (S:∀x,foldedSetIterable iter X.env x=pure x:=by intro _;rfl):
  PE X (.ListComp elt [⟨A,iter,ifs,0⟩] scope pos) (ZL B g i l (own.map (·.2))):=by
 intro pins s σ H Q I h;rw[eval_ListComp];refine OJ F P I hi ok t k p S h fun D C c m y r q a f=>⟨m,a,fun L w=> ?_⟩;obtain⟨f0,n,j,z,v,u⟩:=f;exact⟨.ref D,y,r.turned (t':=c.toks) (fun b o G e=>(w.2 b G).trans e) f0 n z v u,rfl,q⟩
theorem pI{i:Nat}{y:Str}{k:Pos}{elt d iter:Expr}{ifs:List Expr}{scope:Scope}{own:List (Str×Nat)}{pos l:Pos}{u:TI}{g:TG}{n:TT}{t:TE}(hc:X.calm=true)(P:X.N.Nodup)(K:X.N[i]? =some y)(w:X.env.scope.names.lookup y=some .local)
  (S:swapsWith (.ListComp elt [⟨d,iter,ifs,0⟩] scope pos) (some (.Name y k)) l.line X.env=pure true) (hi:PI X d iter u) (ok:Ky X.N X.env.scope scope own)
  (E:∀(s:Shared) (H:Hp) (C:Addr) (cl:List (Str×Addr)) (B:List Addr),PG (X.Gg s H scope (compEnvC scope cl C X.env) B) d g) (j:∀(s:Shared) (H:Hp) (C:Addr) (cl:List (Str×Addr)) (B:List Addr),Y5 (X.Gg s H scope (compEnvC scope cl C X.env) B) ifs n)
  (he:∀(s:Shared) (H:Hp) (C:Addr) (cl:List (Str×Addr)) (B:List Addr),PE (X.Gg s H scope (compEnvC scope cl C X.env) B) elt t) (hs:∀x,foldedSetIterable iter X.env x=pure x:=by intro _;rfl):
  PS X (.Assign [.Name y k] (.ListComp elt [⟨d,iter,ifs,0⟩] scope pos) l) (U1 (ZL u g n t (own.map (·.2))) (He i)):=by
 intro pins s σ H D I h;rw[exec_Assign_Name_used _ _ _ _ S];refine wpAny_bind (wpAny_standAt (wpAny_bind ?_));show wpAny _ X.A (do let _<-comprehension (.ListComp elt [⟨d,iter,ifs,0⟩] scope pos) scope X.env (firstIterPos [⟨d,iter,ifs,0⟩] pos) (newList []) false (eval iter X.env) (some (assign (.Name y k) X.env))) _ _ s;have h:ZL u g n t (own.map (·.2)) σ H (fun x H1=>He i x σ H1 D.nx):=h;refine wpAny_bind (iS (OJ (Qf:=fun _ r=>SP X pins D .next r) hc P I hi ok E j he hs h fun L C r m H' O q W f=> ?_) fun _ r hq=>wpAny_pure (wpAny_pure hq));show wpAny _ _ (assign (.Name y k) X.env (.ref L)) _ _ _;refine wpAny_assign_Name (Hd (v:=V.ref L) O P K (.inl w) rfl (?_) (.inr w));rintro R J ⟨a,Q,M⟩;obtain⟨f0,F,f2,f3,p,T⟩:=f;have G:C≠a:=by
  rcases M with z |z
  ·rw[z];exact F
  ·exact fun e=>p y a z e.symm
 refine⟨m,W.sameBut Q G,fun h3 c=> ?_⟩;exact⟨_,H',J.turned (t':=R.toks) (fun b o hb e=>(c.2 b hb).trans e) f0 F f3 p T,q⟩
theorem sU{elt:Expr}{f:List Comprehension}{scope:Scope}{pos d:Pos}{y:Str}{l:Nat}{env:Env}(x:env.scope.kind= .function)(w:env.scope.names.lookup y=some .local)(A:(d.line==pos.line)=true)
  (v:(scope.names.any fun(n,k)=>n==y&&(k== .local ||k== .cell))=false):swapsWith (.ListComp elt f scope pos) (some (.Name y d)) l env=pure true:=by
 have i:env.kindOf y=some .local:=w;have B:env.blockKind= .function:=by unfold Env.blockKind;rw[x];rfl
 have q:(Expr.ListComp elt f scope pos).pos=pos:=rfl;unfold swapsWith;simp only[B,i,v,q,A];rfl
end
noncomputable def mV(N:List Str)(d scope:Scope)(own:List (Str×Nat)):Bool:=
 (match scope.kind with | .function=>true |_=>false)&&(scope.names.all fun y=>decide (scope.names.lookup y.1=some y.2))&&(own.all fun p=>decide (N[p.2]? =some p.1))&&
  (scope.names.all fun y=>match y.2 with
   | .free=>(match d.names.lookup y.1 with |some .cell=>true |some .free=>true |_=>false)
   | .local=>decide (y.1∈own.map (·.1)) ||decide (y.1∉N)
   | .cell=>decide (y.1∈own.map (·.1)) ||decide (y.1∉N)
   |_=>true)
theorem fC (h:mV N i scope own=true):Ky N i scope own:=by
 unfold mV at h;simp only[aW,bU,decide_eq_true_eq] at h;obtain⟨⟨⟨l,B⟩,f⟩,A⟩:=h;refine⟨?_,B,f,fun y d e=> ?_,fun y d e=> ?_⟩
 ·split at l
  ·assumption
  ·cases l
 ·have q:=A y d;simp only[e] at q;split at q <;>first |exact .inl (by assumption) |exact .inr (by assumption) |cases q
 ·have q:=A y d;rcases e with e |e <;>(simp only[e,Bool.or_eq_true,decide_eq_true_eq] at q;exact q)
section
variable {X:Cx}{pins:List (Addr×Obj)}{σ:St}{H:Hp}{s:Shared}{h':Heap}
theorem Inv.Vh {ch:List Addr}(I:Inv X pins σ H s)(k:∀b o,b∉ch->s.heap.get? b=some o->h'.get? b=some o)(A:∀b∈ch,CJ X pins H b):Inv X pins σ H {s with heap:=h',toks:=t'}:=by
 have i:∀b u,H b=some u->b∉ch:=fun b u e z=>by
  have q:=(A b z).1;rw[q] at e;cases e
 refine I.step (g':=s.gens) (d':=s.drawn) (ch:=ch) (fun b l=>⟨(A b l).2.2.2.1,(A b l).2.1,(A b l).2.2.2.2.1,(A b l).2.2.2.2.2⟩) (fun b o _ _ d e _=>k b o d e) (fun b o _ _ d e _=>⟨o.slots,k b o d e⟩)
  (fun _ _ _ _ n=>n) (fun b o d e=>⟨o,k b o d e⟩) (fun _ _ e=>e) (fun _ _ _ e=>e) (fun b h e=>⟨#[],by rw[e];simp⟩) (fun m w=> ?_) (fun b u e=> ?_) I.bare
 ·obtain⟨o,f,x,B,r⟩:=w;exact⟨o,f,x,k _ o (fun z=>(A _ z).2.1 rfl) B,r⟩
 ·refine(I.i9 b u e).Ml (fun c v d q=>k c v ?_ q) (fun _ q=>q) fun _ _ q=>q;rcases d with z |z
  ·rw[z];exact i b u e
  ·exact i c _ z
theorem Inv.Hk {ch:List Addr}{T:Addr}(I:Inv X pins σ H s)(k:∀b o,b∉ch->s.heap.get? b=some o->h'.get? b=some o)(l:∀b∈ch,CJ X pins H b)(x:s.heap.objs.size<=T)(new:lZ X.prog X.w (upd H T B) h' T B):Inv X pins σ (upd H T B) {s with heap:=h',toks:=t'}:=by
 have i:H T=none:=I.i9.fresh x;have f:∀b u,H b=some u->b∉ch:=fun b u e z=>by
  have q:=(l b z).1;rw[q] at e;cases e
 refine I.step (g':=s.gens) (d':=s.drawn) (ch:=ch) (fun b d=>⟨(l b d).2.2.2.1,(l b d).2.1,(l b d).2.2.2.2.1,(l b d).2.2.2.2.2⟩) (fun b o _ _ A e _=>k b o A e) (fun b o _ _ A e _=>⟨o.slots,k b o A e⟩)
  (fun b o _ e n=> ?_) (fun b o A e=>⟨o,k b o A e⟩) (fun b t e=> ?_) (fun b o u e=> ?_) (fun b C e=>⟨#[],?_⟩) (fun m S=> ?_) (fun b u e=> ?_) I.bare
 ·rw[dY (bN (a8 (Heap.lt_size e) x))];exact n
 ·rw[dY (fT e i)];exact e
 ·rw[dY (fT e i)];exact e
 ·rw[dY (fT e i),e];simp
 ·obtain⟨o,h,p,a,r⟩:=S;exact⟨o,h,p,k _ o (fun z=>(l _ z).2.1 rfl) a,r⟩
 ·by_cases d:b=T
  ·subst d;rw[dj] at e;cases e;exact new
  ·rw[dY d] at e;refine(I.i9 b u e).Ml (fun c v A q=>k c v ?_ q) (fun c q=>by rw[dY (fT q i)];exact q) fun c t q=>by rw[dY (fT q i)];exact q
   rcases A with z |z
   ·rw[z];exact f b u e
   ·exact f c _ z
end
section
variable {X:Cx}
theorem Xp {σ:St}(I:Inv X pins σ H s)(o)(T:Turn X.prog X.w X.K A J [s.heap.objs.size] s.heap.objs.size d)(st:d 0 (s.heap.push o))(q:R J H):Z2 X pins σ A R (.ref s.heap.objs.size) {s with heap:=s.heap.push o,toks:=tk}:=by
 refine⟨s.heap.objs.size,[s.heap.objs.size],d,J,H,rfl,I.kept fun b i e=>Heap.get?_push_of_some _ e,T,st,fun b l=> ?_,q⟩;have e:b=s.heap.objs.size:=by simpa using l
 subst e;exact I.Qp (aj _) (I.i9.fresh (aj _))
end
noncomputable def Itc(lo c:Int)(n:Nat):It:=⟨fun i _=>i<n,fun i H x d=>d=H/\x= .int (lo+(i:Nat)*c),fun i _=>n<=i⟩
theorem KA{P:Program}{w:World}{K:PySem.W.Frag}{g:Expr}(l:Addr)(lo c:Int)(n:Nat):Turn P w K g (Itc lo c n) [l] l (fun i h=>IsRangeIter h l (lo+(i:Nat)*c) ((n:Int) - (i:Nat)) c) where
 mem:=by simp
 obj:=fun i h d b f=>by
  have e:b=l:=by simpa using f
  subst e;exact⟨_,d,fun v z=>nomatch z⟩
 keep:=fun i h B d k=>k l (by simp) _ d
 item:=by
  intro X u C a G i pins s σ H E I x d p;subst u C a;obtain⟨f0,S,L,F,r,y⟩:=x l (by simp);have W:=Walks.range (prog:=X.prog) (w:=X.w) (I.ok.hd G) l lo c n;refine W.item i s _ _ p d fun v B m M q D=> ?_;obtain⟨t,rfl⟩:=M;have j:Inv X pins σ H {s with heap:=B,toks:=m}:=I.turned (fun b o f e=>D b o (by simpa using f) e) f0 S F r y;exact⟨_,rfl,R3 (s:={s with heap:=B,toks:=m}) (n:="range_iterator") q rfl rfl (by decide) ⟨.int (lo+(i:Nat)*c),H,j,⟨t,rfl⟩,⟨rfl,rfl⟩,q,fun b f=>(x b f).1⟩⟩
 done:=by
  intro X u C a G i pins s σ H E I x d p;subst u C a;obtain⟨f0,S,L,F,r,y⟩:=x l (by simp);exact wpAny_pyNext_range_end (I.ok.hd G) d (by have:n<=i:=p;lia) fun B N=>⟨rfl,I.turned (t':=s.toks) (fun b o f e=>N b o f e) f0 S F r y⟩
 self:=fun A i s Q E d h=>wpAny_pyIter_rangeiter d h
def Y6(i j c:Int)(n:Nat):Prop:=c≠0/\c.natAbs<1073741824/\Builtin.Range.small i j c=true/\Builtin.Range.rangeSize i j c=n
theorem Y6.neg (l:-(2^62)<=i)(A:i<2^62)(f:-(2^62)<=j)(d:j<2^62):Y6 i j (-1) (i - j).toNat:=
 ⟨by decide,by decide,PySem.W.small_down l A f d,PySem.W.rangeSize_downNat i j⟩
def Y7(l:TA):TI:=fun σ H R=>l σ H fun d A=>∃(i j c:Int) (n:Nat),d=[.int i,.int j,.int c]/\Y6 i j c n/\R (Itc i c n) A
section
variable {X:Cx}{tg:Expr}
theorem Hl{a b c:Expr}{B:TA}{p pos:Pos}(C:Gl X "range")(F:X.mg "range"=none)(G:PA X [a,b,c] B)
  (E:starEach [a,b,c] X.env=(false,eval a X.env)::starEach [b,c] X.env:=by rfl) (v:(backTo pos (starEach [b,c] X.env)).any (·.1)=false:=by rfl):
  PI X tg (.Call (.Name "range" p) [a,b,c] [] pos) (Y7 B):=by
 intro pins s σ H R I h;refine Call_ (xu I C F boot_range (bS (iS (G pos pins s σ H _ I h) ?_) E v));rintro K A ⟨g,Q,u,N,m⟩;obtain⟨i,j,k,n,e,⟨y,L,D,w⟩,q⟩:=m;subst e;cases N with
 |cons r d=>
  cases d with
  |cons M d=>
   cases d with
   |cons f d=>
    cases d;obtain⟨t,rfl⟩:=r;obtain⟨x,rfl⟩:=M;obtain⟨l,rfl⟩:=f;refine call_range_3 y ?_ (.inl (PyProof.noPylong_small L));refine wpAny_pyIter_range (IsRange.new ..) D ?_;have P:Inv X pins σ Q {A with heap:=A.heap.push {cls:= .type "range",data:= .fields #[.int i t,.int j x,.int k l]}}:=u.kept (t':=A.toks) fun b o e=>Heap.get?_push_of_some _ e;refine Xp (tk:=A.toks) P _ (KA _ i k n) ?_ q;have S:i+((0:Nat):Int)*k=i:=by simp
    have z:(n:Int) - ((0:Nat):Int)=Builtin.Range.rangeSize i j k:=by rw[w];simp
    show IsRangeIter _ _ (i+((0:Nat):Int)*k) ((n:Int) - ((0:Nat):Int)) k;rw[S,z];exact Heap.get?_push_size _ rfl
end
noncomputable def Ite(K:PySem.W.Frag)(a:Addr):It:=
 ⟨fun i H=>∃(d:List V) (x:V),oK K H a d/\d[i]? =some x,fun i H v A=>∃T x,v= .ref T/\H T=none/\A=upd H T (.tup [.int (i:Nat),x])/\∀d,oK K H a d->d[i]? =some x,fun i H=>∃d:List V,oK K H a d/\d.length<=i⟩
theorem QE{P:Program}{w:World}{K:PySem.W.Frag}{elts:List Expr}{kk:Nat}{j:Pos}(a e d:Addr):
  Turn P w K (.Tuple elts kk j) (Ite K a) [e,d] e (fun i h=>(∃old,IsEnum h e d ((i:Nat):Int) old)/\h.IsListIter d a i/\e≠d) where
 mem:=by simp
 obj:=fun i h t b f=>by
  obtain⟨⟨old,l⟩,⟨o,D,J,hd⟩,_⟩:=t;have R:b=e\/b=d:=by simpa using f
  rcases R with z |z
  ·rw[z];exact⟨_,l,fun v q=>nomatch q⟩
  ·rw[z];exact⟨o,D,fun v q=>by rw[hd] at q;cases q⟩
 keep:=fun i h M t k=>let ⟨⟨old,l⟩,hi,B⟩:=t;⟨⟨old,k e (by simp) _ l⟩,hi.at fun o q=>k d (by simp) o q,B⟩
 item:=by
  intro X F g G J i pins s σ H E I C t N;subst F g G;obtain⟨⟨old,l⟩,n,B⟩:=t;obtain⟨xs,x,S,T⟩:=N;obtain⟨O,c,p,hz⟩:=I.list S;obtain⟨u,hu,ru⟩:=c.get T;have y:e<s.heap.objs.size:=Heap.lt_size l;have ab:d<s.heap.objs.size:=by obtain⟨_,q,_⟩:=n;exact Heap.lt_size q
  refine wpAny_pyNext_enum_item l n p.isList (x:=u) (by simpa using hu) B fun M D m hT ae hk=> ?_;refine⟨_,rfl,wpAny_letOwnedTupleGo_enum (s:={s with heap:=M,toks:=s.toks+1}) D fun r aa L=> ?_⟩;have ac:r.get? s.heap.objs.size=some {cls:= .type "tuple",data:= .seq #[.int i s.toks,u]}:=(L.2 _ (Nat.ne_of_gt y)).trans hT;have new:lZ X.prog X.w (upd H s.heap.objs.size (.tup [.int (i:Nat),x])) r s.heap.objs.size (.tup [.int (i:Nat),x]):=
   ⟨by show 2<=sizeLine;decide,[.int i s.toks,u],.cons ⟨_,rfl⟩ (.cons ru .nil),⟨_,ac,rfl,_,rfl⟩⟩
  have I1:Inv X pins σ (upd H s.heap.objs.size (.tup [.int (i:Nat),x])) {s with heap:=r,toks:=s.toks+1}:=
   I.Hk (ch:=[e,d]) (fun b ob f q=>(L.2 b (fun z=>f (by simp[z]))).trans (hk b ob (fun z=>f (by simp[z])) (fun z=>f (by simp[z])) q)) C (aj _) new
  refine⟨.ref s.heap.objs.size,_,I1,rfl,⟨_,x,rfl,I.i9.fresh (aj _),rfl,fun ys hy=>by rw[I.yS hy S];exact T⟩,⟨⟨u,?_⟩,m.at fun o q=>(L.2 d (b5 B)).trans q,B⟩,fun b f=> ?_⟩
  ·have e1:((i+1:Nat):Int)=(i:Int)+1:=by lia
   rw[e1];exact aa
  ·have ad:b<s.heap.objs.size:=by
    have R:b=e\/b=d:=by simpa using f
    rcases R with z |z
    ·rw[z];exact y
    ·rw[z];exact ab
   rw[dY (bN ad)];exact(C b f).1
 done:=by
  intro X F g G J i pins s σ H E I C t N;subst F g G;obtain⟨⟨old,l⟩,n,B⟩:=t;obtain⟨xs,S,T⟩:=N;obtain⟨O,c,p,hz⟩:=I.list S;obtain⟨f0,f1,f2,f3,f4,f5⟩:=C d (by simp);have hl:=c.length;exact wpAny_pyNext_enum_end (I.ok.hd J) l n p.isList (by simp;lia) fun M eb=>⟨rfl,I.turned (t':=s.toks) (fun b o f q=>eb b o f q) f0 f1 f3 f4 f5⟩
 self:=fun A i s Q E t h=>let ⟨⟨_,l⟩,_⟩:=t;wpAny_pyIter_enum l h
def Y8(K:PySem.W.Frag)(i:TA):TI:=fun σ H R=>i σ H fun A d=>∃a l,A=[.ref a]/\oK K d a l/\R (Ite K a) d
theorem oQ (t:Gl X "enumerate")(u:X.mg "enumerate"=none)(n:PA X [e] B)(P:starEach [e] X.env=[(false,eval e X.env)]:=by rfl):
  PI X (.Tuple elts w i) (.Call (.Name "enumerate" p) [e] [] pos) (Y8 X.K B):=by
 intro pins s σ H R I h;refine Call_ (xu I t u boot_enumerate (bS (iS (n pos pins s σ H _ I h) ?_) P rfl));rintro g d ⟨W,x,A,G,y⟩;obtain⟨a,E,F,m,q⟩:=y;subst F;cases G with
 |cons r S=>
  cases S;cases r;obtain⟨Q,M,c,D⟩:=A.list m;refine call_enumerate_list c.isList fun o k f N v=>wpAny_pyIter_enum k ?_;have C:Inv X pins σ x {d with heap:=o}:=A.kept (t':=d.toks) v;refine⟨d.heap.objs.size+1,[d.heap.objs.size+1,d.heap.objs.size],_,_,x,rfl,C,QE a (d.heap.objs.size+1) d.heap.objs.size,⟨⟨.none,k⟩,f,Nat.succ_ne_self _⟩,fun b L=> ?_,q⟩;have j:b=d.heap.objs.size+1\/b=d.heap.objs.size:=by simpa using L
  have l:d.heap.objs.size<=b:=by
   rcases j with z |z
   ·rw[z];exact cN _ _
   ·rw[z];exact aj _
  exact A.Qp l (A.i9.fresh l)
theorem QF:bootBuiltins "zip"=some (.type "zip"):=by decide +kernel
noncomputable def Itz(K:PySem.W.Frag)(a b:Addr):It:=
 ⟨fun i H=>∃(d A:List V) (x y:V),oK K H a d/\oK K H b A/\d[i]? =some x/\A[i]? =some y,
  fun i H v l=>∃T x y,v= .ref T/\H T=none/\l=upd H T (.tup [x,y])/\(∀d,oK K H a d->d[i]? =some x)/\∀A,oK K H b A->A[i]? =some y,
  fun i H=>∃d A:List V,oK K H a d/\oK K H b A/\(d.length<=i\/A.length<=i)⟩
theorem Sh{P:Program}{w:World}{K:PySem.W.Frag}{elts:List Expr}{kk:Nat}{ad:Pos}{a b z TI TO n e:Addr}(D:ZipApart z TI TO n e a b):
  Turn P w K (.Tuple elts kk ad) (Itz K a b) [z,TI,TO,n,e] z (fun i h=>IsZip h z TI TO .none/\IsPair h TI (.ref n) (.ref e)/\(∃x y,IsPair h TO x y)/\h.IsListIter n a i/\h.IsListIter e b i) where
 mem:=by simp
 obj:=fun i h r c J=>by
  obtain⟨S,f,⟨x,y,B⟩,⟨o1,e1,_,d1⟩,⟨o2,e2,_,d2⟩⟩:=r;have e':c=z\/c=TI\/c=TO\/c=n\/c=e:=by simpa using J
  rcases e' with q |q |q |q |q
  ·rw[q];exact⟨_,S,fun v q=>nomatch q⟩
  ·rw[q];exact⟨_,f,fun v q=>nomatch q⟩
  ·rw[q];exact⟨_,B,fun v q=>nomatch q⟩
  ·rw[q];exact⟨o1,e1,fun v q=>by rw[d1] at q;cases q⟩
  ·rw[q];exact⟨o2,e2,fun v q=>by rw[d2] at q;cases q⟩
 keep:=fun i h h' r k=>by
  obtain⟨S,f,⟨x,y,B⟩,F,L⟩:=r;exact⟨k z (by simp) _ S,k TI (by simp) _ f,⟨x,y,k TO (by simp) _ B⟩,F.at fun o q=>k n (by simp) o q,L.at fun o q=>k e (by simp) o q⟩
 item:=by
  intro X hP hw hK J i pins s σ H E I R r hg;subst hP hw hK;obtain⟨S,f,⟨x0,y0,B⟩,F,L⟩:=r;obtain⟨xs,ys,x,y,G,C,hx,hy⟩:=hg;obtain⟨ab,rv,p,_⟩:=I.list G;obtain⟨N,j,p2,_⟩:=I.list C;obtain⟨u,hu,ru⟩:=rv.get hx;obtain⟨T,ae,ai⟩:=j.get hy;have aa:z<s.heap.objs.size:=Heap.lt_size S;refine wpAny_pyNext_zip_item D S f B F L p.isList p2.isList (x:=u) (y:=T) (by simpa using hu) (by simpa using ae) fun h' z' al ah ak hT an g=> ?_;refine⟨_,rfl,wpAny_letOwnedTupleGo_zip (s:={s with heap:=h'}) z' fun M af m=> ?_⟩;have am:M.get? s.heap.objs.size=some {cls:= .type "tuple",data:= .seq #[u,T]}:=(m.2 _ (Nat.ne_of_gt aa)).trans hT;have new:lZ X.prog X.w (upd H s.heap.objs.size (.tup [x,y])) M s.heap.objs.size (.tup [x,y]):=
   ⟨by show 2<=sizeLine;decide,[u,T],.cons ru (.cons ai .nil),⟨_,am,rfl,_,rfl⟩⟩
  have I1:Inv X pins σ (upd H s.heap.objs.size (.tup [x,y])) {s with heap:=M}:=
   I.Hk (t':=s.toks) (ch:=[z,TI,TO,n,e]) (fun c o t q=>(m.2 c (fun d=>t (by simp[d]))).trans (g c o (fun d=>t (by simp[d])) (fun d=>t (by simp[d])) (fun d=>t (by simp[d])) (fun d=>t (by simp[d])) q)) R (aj _) new
  refine⟨.ref s.heap.objs.size,_,I1,rfl,⟨_,x,y,rfl,I.i9.fresh (aj _),rfl,fun l hl=>by rw[I.yS hl G];exact hx,fun l hl=>by rw[I.yS hl C];exact hy⟩,⟨af,?_,⟨u,T,?_⟩,?_,?_⟩,fun c O=> ?_⟩
  ·exact(m.2 _ D.TIz).trans (g _ _ D.TIz D.TITO D.TIi1 D.TIi2 f)
  ·exact(m.2 _ D.TOz).trans al
  ·exact ah.at fun o q=>(m.2 _ D.i1z).trans q
  ·exact ak.at fun o q=>(m.2 _ D.i2z).trans q
  ·have ag:c<s.heap.objs.size:=by
    have e':c=z\/c=TI\/c=TO\/c=n\/c=e:=by simpa using O
    rcases e' with q |q |q |q |q
    ·rw[q];exact aa
    ·rw[q];exact Heap.lt_size f
    ·rw[q];exact Heap.lt_size B
    ·rw[q];obtain⟨_,e1,_⟩:=F;exact Heap.lt_size e1
    ·rw[q];obtain⟨_,e2,_⟩:=L;exact Heap.lt_size e2
   rw[dY (bN ag)];exact(R c O).1
 done:=by
  intro X hP hw hK J i pins s σ H E I R r hg;subst hP hw hK;obtain⟨S,f,⟨x0,y0,B⟩,F,L⟩:=r;obtain⟨xs,ys,G,C,ac⟩:=hg;obtain⟨ab,rv,p,_⟩:=I.list G;obtain⟨N,j,p2,_⟩:=I.list C;have l1:=rv.length;have l2:=j.length;have he:ab.toArray[i]? =none\/N.toArray[i]? =none:=by
   rcases ac with q |q
   ·exact .inl (by simp;lia)
   ·exact .inr (by simp;lia)
  exact wpAny_pyNext_zip_end (I.ok.hd J) D S f B F L p.isList p2.isList he fun h' g=>⟨rfl,I.Vh (t':=s.toks) (ch:=[z,TI,TO,n,e]) (fun c o t q=>
   g c o (fun d=>t (by simp[d])) (fun d=>t (by simp[d])) (fun d=>t (by simp[d])) (fun d=>t (by simp[d])) q) R⟩
 self:=fun A i s Q E r h=>wpAny_pyIter_zip r.1 h
def aah(K:PySem.W.Frag)(l:TA):TI:=fun σ H R=>l σ H fun i d=>∃a b A f,i=[.ref a,.ref b]/\oK K d a A/\oK K d b f/\R (Itz K a b) d
theorem Xq{X:Cx}{e l:Expr}{u:TA}{p pos f:Pos}{elts:List Expr}{m:Nat}(L:Gl X "zip")(N:X.mg "zip"=none)(j:PA X [e,l] u)
  (hs:starEach [e,l] X.env=(false,eval e X.env)::starEach [l] X.env:=by rfl) (C:(backTo pos (starEach [l] X.env)).any (·.1)=false:=by rfl):
  PI X (.Tuple elts m f) (.Call (.Name "zip" p) [e,l] [] pos) (aah X.K u):=by
 intro pins s σ H R I h;refine Call_ (xu I L N QF (bS (iS (j pos pins s σ H _ I h) ?_) hs C));rintro us d ⟨vs,S,A,g,M⟩;obtain⟨a,b,xs,ys,T,y,w,q⟩:=M;subst T;cases g with
 |cons r B=>
  cases B with
  |cons r' B=>
   cases B;cases r;cases r';obtain⟨ac,rv,v,_⟩:=A.list y;obtain⟨G,aa,x,_⟩:=A.list w;have O:a<d.heap.objs.size:=v.lt;have D:b<d.heap.objs.size:=x.lt;refine call_zip_2 v.isList x.isList fun Q n o t P J ab F=>wpAny_pyIter_zip n ?_;have E:Inv X pins σ S {d with heap:=Q}:=A.kept (t':=d.toks) F;refine⟨d.heap.objs.size+4,[d.heap.objs.size+4,d.heap.objs.size+2,d.heap.objs.size+3,d.heap.objs.size,d.heap.objs.size+1],_,_,S,rfl,E,Sh (PySem.W.ktu_apart d.heap.objs.size a b O D),⟨n,o,⟨_,_,t⟩,P,J⟩,fun c k=> ?_,q⟩;have e':c=d.heap.objs.size+4\/c=d.heap.objs.size+2\/c=d.heap.objs.size+3\/c=d.heap.objs.size\/c=d.heap.objs.size+1:=by simpa using k
   have i:d.heap.objs.size<=c:=by
    rcases e' with z |z |z |z |z
    ·rw[z];exact cN _ _
    ·rw[z];exact cN _ _
    ·rw[z];exact cN _ _
    ·rw[z];exact aj _
    ·rw[z];exact cN _ _
   exact A.Qp i (A.i9.fresh i)
end L2
section
namespace aai
open PySem PyProof.Rows
end aai
end
section
namespace TL
open PySem PySem.Builtin PySem.Builtin.Str PySem.StrLaws
end TL
end
namespace L2
open PySem PySem.Spec PyProof.Rows
end L2
namespace Att
open PySem PySem.W PySem.Calls PyProof.Rows
end Att
namespace L2
open PySem PySem.Spec PyProof.Rows
noncomputable def inClass(s:Stmt)(j:Nat):Stmt:=match s with
 | .ClassDef _ _ _ body _ _ _ _ _ _ _=>body.getD j (.Pass ⟨0,0,0,0⟩)
 |_=> .Pass ⟨0,0,0,0⟩
noncomputable def lE(s:Stmt):Arguments:=match s with
 | .FunctionDef _ a _ _ _ _ _ _ _ _=>a
 |_=>{posonlyargs:=[],args:=[],vararg:=none,kwonlyargs:=[],kw_defaults:=[],kwarg:=none,defaults:=[]}
noncomputable def je(s:Stmt):List Stmt:=match s with
 | .FunctionDef _ _ b _ _ _ _ _ _ _=>b
 |_=>[]
noncomputable def dk(s:Stmt):Scope:=match s with
 | .FunctionDef _ _ _ _ _ _ d _ _ _=>d
 |_=>{kind:= .function,names:=[],isGenerator:=false,isCoroutine:=false}
abbrev OK:RP:=fun _ _ _ _ _ _=>False
abbrev E0:XK:=fun _ _ _=>False
theorem Si:Passes OK X E0:=fun _ _ _ _ _ _ _ h=>h.elim
structure Xr(K:PySem.W.Frag)(x qual:Str)(st:Stmt)(f:Addr)(fd:FuncData):Prop where
 ex:∃(oc:Value) (od:Option Addr) (kV doc pm:Value) (an:Option Addr) (cdv ct:Value) (osl:Array (Option Value)),
  fd=PySem.W.fnOf x qual (lE st) (je st) (dk st) .none kV doc pm an cdv ct/\K.lookup f=some ⟨oc,od,.func fd,osl⟩/\PySem.W.codeIn K cdv qual=true
 kp:PySem.W.keepIn K (.ref f)=true
section
variable {P:Program}{w:World}{K:PySem.W.Frag}{mg:Str->Option Value}{base:Heap}
theorem Xr.ok{x qual:Str}{st:Stmt}{f:Addr}{e:FuncData}{N ps:List Str}{k:Nat}{sp:Sp}(F:Xr K x qual st f e)(S:dD N ps (dk st))(len:∀d H Q E,sp d H Q E->d.length=ps.length)
  (i:∀(l:Value) (A:Around) (outer:List Env) (s:Shared) (H:Hp) (d:List V) (Q:VK) (E:XK),l5 k (A.deeper (envOfC qual (dk st) s.heap.objs.size f l))->sp d H Q E->
   ∃t,Mn (IG OK P w K mg base N qual (dk st) f l A outer s H E).W2 (je st) t/\t {nx:=fun _ b=>Q .kY b,rt:=Q} (start N d) H):rB P w K mg base OK (k+1) f e ps sp:=by
 obtain⟨p,od,kV,doc,r,o,l,C,u,rfl,n,v⟩:=F.ex;refine YV n v S len fun A outer s H d Q E a B=> ?_;obtain⟨t,h,q⟩:=i l A outer s H d Q E a B;exact⟨t,h.W2,q⟩
theorem Xr.binds {st:Stmt}(F:Xr K x qual st f B)(h:∀(kV doc A:Value) (i:Option Addr) (d ct:Value) (l:List Value),l.length=ps.length->bindArgs (PySem.W.fnOf x qual (lE st) (je st) (dk st) .none kV doc A i d ct) ⟨l,[]⟩=pure (ps.zip l)):Binds K B ps []:=by
 obtain⟨e,od,kV,doc,A,i,d,ct,k,rfl,t,v⟩:=F.ex;exact .all (h kV doc A i d ct)
theorem Sj {st:Stmt}{kV:Value}(l:K.lookup f=some ⟨v,od,.func (PySem.W.fnOf x qual (lE st) (je st) (dk st) .none kV doc i B d ct),A⟩)(c:PySem.W.codeIn K d qual=true)(k:PySem.W.keepIn K (.ref f)=true):Xr K x qual st f (PySem.W.fnOf x qual (lE st) (je st) (dk st) .none kV doc i B d ct):=⟨⟨v,od,kV,doc,i,B,d,ct,A,rfl,l,c⟩,k⟩
end
section
variable {X:Cx}
theorem pv (i){pos:Pos}(l:X.N[i]? =some x:=by rfl)(A:Yf X.env.scope x:=by first |exact Or.inl rfl |exact Or.inr (Or.inl rfl) |exact Or.inr (Or.inr rfl))(f:(x==("__debug__":Str))=false:=by decide)(d:(x==("__classdict__":Str))=false:=by decide):PE X (.Name x pos) (DN i):=WZ l A f d
end
theorem fF {B:Prop}(h:B):if false=true then A else B:=by
 rw[ah aU];exact h
theorem fz {B:Prop}(h:A):if true=true then A else B:=by
 rw[ai rfl];exact h
theorem Xs {B:Prop}[Decidable c](l:c->A)(d:¬c->B):if c then A else B:=by
 by_cases h:c
 ·rw[ai h];exact l h
 ·rw[ah h];exact d h
theorem Wo {B:Prop}[Decidable c](d:c)(h:B):if(!decide c)=true then A else B:=by
 rw[aw d];exact fF h
def dN(H d:Hp):Prop:=∀b o,H b=some o->d b=some o
theorem dN.refl (H):dN H H:=fun _ _ h=>h
theorem dN.trans (a:dN H H1)(b:dN H1 d):dN H d:=fun c o h=>b c o (a c o h)
theorem dN.free (e:dN H d)(h:d l=Option.none):H l=Option.none:=by
 cases q:H l with
 |none=>rfl
 |some o=>
  rw[e l o q] at h;cases h
theorem dN.seq {K:PySem.W.Frag}(e:dN H A)(h:oK K H a d):oK K A a d:=by
 rcases h with(h |⟨o,h⟩) |h
 ·exact .inl (.inl (e _ _ h))
 ·exact .inl (.inr ⟨o,e _ _ h⟩)
 ·exact .inr h
section
variable {κ:Type} [DecidableEq κ]
theorem OL:∀{l:List κ} {k:κ},l.Nodup->¬k∈l->(l ++ [k]).Nodup
 |[],k,_,_=>by simp
 |a::r,k,h,d=>by
  obtain⟨i,A⟩:=cf.mp h;show(a::(r ++ [k])).Nodup;refine cf.mpr ⟨fun m=> ?_,OL A fun m=>d (aL.mpr (Or.inr m))⟩;rcases aX.mp m with q |q
  ·exact i q
  ·exact d (aL.mpr (Or.inl (aE.mp q).symm))
end
theorem Y9 {α:Type}{l:List α}(f:l.Nodup){j:Nat}{x:α}(a:l[i]? =some x)(b:l[j]? =some x):i=j:=by
 obtain⟨B,A⟩:=bD.mp a;obtain⟨k,d⟩:=bD.mp b;exact(List.getElem_inj f).mp (A.trans d.symm)
theorem dN.made (nx:H x=Option.none)(A:H d=Option.none)(k:∀b o,(upd (upd H d (.own x)) x (.ins C d [])) b=some o->b≠x->H1 b=some o):dN H H1:=fun b o e=>
 k b o (by rw[dY (fT e nx),dY (fT e A)];exact e) (fT e nx)
end L2
namespace Kh
open PySem PySem.Spec PyProof.Rows L2
structure iT(P:Program)(w:World)(K:PySem.W.Frag)(mg:Str->Option Value)(base:Heap)(x:Str)(ps:List Str)(k:Nat)(sp:Sp):Prop where
 ex:∃(f:Addr) (fd:FuncData),mg x=some (.ref f)/\rB P w K mg base OK k f fd ps sp/\PySem.W.keepIn K (.ref f)=true/\Binds K fd ps []
structure jc(K:PySem.W.Frag)(mg:Str->Option Value)(x:Str)(st:Stmt)(ps:List Str):Prop where
 ex:∃(f:Addr) (fd:FuncData),mg x=some (.ref f)/\Xr K x x st f fd/\Binds K fd ps []
section
variable {P:Program}{w:World}{K:PySem.W.Frag}{mg:Str->Option Value}{base:Heap}
theorem iT.mono (c:iT P w K mg base x ps j sp)(h:j<=k):iT P w K mg base x ps k sp:=
 let ⟨f,A,a,b,d,e⟩:=c.ex
 ⟨f,A,a,b.mono h,d,e⟩
def Bod(P:Program)(w:World)(K:PySem.W.Frag)(mg:Str->Option Value)(base:Heap)(N ps:List Str)(x:Str)(st:Stmt)(k:Nat)(sp:Sp):Prop:=
 ∀(f:Addr) (d:Value) (A:Around) (outer:List Env) (s:Shared) (H:Hp) (l:List V) (Q:VK) (E:XK),l5 k (A.deeper (envOfC x (dk st) s.heap.objs.size f d))->sp l H Q E->
   l.length=ps.length/\∃t,Mn (IG OK P w K mg base N x (dk st) f d A outer s H E).W2 (je st) t/\t {nx:=fun _ i=>Q .kY i,rt:=Q} (start N l) H
theorem Wq (h:k<=99)(e):l5 k (Around.deeper {} e):=⟨rfl,by show 0+1+3*k+5<1000;lia,by show 1+3+16*k+200<9900;lia⟩
theorem jc.jy {st:Stmt}(G:jc K mg x st ps)(S:dD N ps (dk st))(h:Bod P w K mg base N ps x st k sp)(t:k<=99:=by decide):iT P w K mg base x ps (k+1) sp:=by
 obtain⟨f,a,e,F,v⟩:=G.ex;exact⟨f,a,e,F.ok S (fun d H Q E q=>(h 0 .none {} [] {} H d Q E (Wq t _) q).1) (fun i A outer s H d Q E B l=>(h f i A outer s H d Q E B l).2),F.kp,v⟩
end
section
variable {X:Cx}{k:Nat}{x:Str}{ps:List Str}{sp:Sp}{e:Expr}{es:List Expr}{t:TA}{p pos:Pos}
theorem dB{j:Nat}(c:iT X.prog X.w X.K X.mg X.base x ps k sp)(i:l5 j X.A)(b:PA X (e::es) t)(a:k<=j:=by decide)(h:Gl X x:=by rfl)
  (l:(x==("__debug__":Str))=false:=by decide) (n:starEach (e::es) X.env=(false,eval e X.env)::starEach es X.env:=by rfl) (d:(backTo pos (starEach es X.env)).any (·.1)=false:=by rfl):
  PE X (.Call (.Name x p) (e::es) [] pos) (Wl sp [] E0 t):=by
 obtain⟨f,u,v,F,q,B⟩:=c.ex;exact U8 F (i.mono a) h v q B .nil Si b l n d
theorem Vi{d:Expr}{B:TE}(j:PE X d B)(a:eval (.Call d (e::es) [] pos) X.env=(do let f<-eval d X.env;callWith pos f [] (backTo pos (starEach (e::es) X.env)) (backToKw pos (keywordEach [] X.env))))
  (c:PA X (e::es) t) (m:starEach (e::es) X.env=(false,eval e X.env)::starEach es X.env:=by rfl) (o:(backTo pos (starEach es X.env)).any (·.1)=false:=by rfl):
  PE X (.Call d (e::es) [] pos) (fun σ H Q=>B σ H fun v H1=>∃f l ps k sp,v= .ref f/\rB X.prog X.w X.K X.mg X.base OK k f l ps sp/\l5 k X.A/\PySem.W.keepIn X.K (.ref f)=true/\Binds X.K l ps []/\t σ H1 fun n i=>sp (n ++ []) i Q E0):=by
 intro pins s σ H Q I h;rw[a];refine wpAny_bind (iS (j pins s σ H _ I h) ?_);rintro u P ⟨v,H1,G,S,f,l,ps,k,sp,z,F,C,y,L,q⟩;subst z;cases S;refine PySem.W.callWith_K (h₀:=X.base) I.ok.mod.Yu y (iS (c pos pins P σ H1 _ G q) ?_) m o;rintro E M ⟨n,i,b,r,N⟩;refine ⟨b.RO,?_⟩;exact Sb F C L .nil Si b r N
end
def Sz(b:Nat)(z:Int):Prop:=z.natAbs<2^b
theorem Sz.bits (h:Sz b z):Builtin.Int.intBits z<=b:=by
 unfold Builtin.Int.intBits;split
 ·exact aR _
 ·rename_i d;have A:z.natAbs≠0:=fun q=>d (by simpa using q);have:z.natAbs.log2<b:=(Nat.log2_lt A).mpr h;lia
theorem Sz.mul (d:Sz m a)(A:Sz n b)(h:m+n<=134217728):IntMulOk a b:=IntMulOk.of_le d.bits A.bits h
section
variable {X:Cx}
theorem iA:yU X (binaryOp .Mult) (rI IntMulOk fun i j=> .int (i*j)):=Z7 fun _ _ _ _ _ _ _ d q=>mul_int q d
theorem yX:yU X (binaryOp .FloorDiv) (rI (fun _ j=>j≠0/\j.natAbs.log2<9000) fun i j=> .int (i.fdiv j)):=Z7 fun _ _ _ _ _ _ _ d q=>floordiv_int d.1 q (.inl (PyProof.noPylong_of_log2 d.2))
structure QG(X:Cx):Prop where
 no:X.base.NoSeer
 tree:X.prog.given.tree=none
 WX:∃env l,X.stack=env::l/\env.scope.isGenerator=false/\env.scope.isCoroutine=false/\env.builtins=builtinsNs/\env.globals=mainGlobals
 room:X.A.depth+Builtin.pylongFrames<recursionLimit
theorem QG.Gg (S:QG X):QG (X.Gg s H scope A d):=⟨S.no,S.tree,S.WX,S.room⟩
theorem Sk(S:QG X):yU X (binaryOp .FloorDiv) (rI (fun _ j=>j≠0) fun i j=> .int (i.fdiv j)):=by
 intro pins s σ H x y v u Q I k d h;obtain⟨i,j,rfl,rfl,f,q⟩:=h;obtain⟨t,rfl⟩:=k;obtain⟨b,rfl⟩:=d;obtain⟨env,l,B,A,a,e,w⟩:=S.WX;exact floordiv_int f ⟨.int (i.fdiv j),H,I.tok _,⟨_,rfl⟩,q⟩ (.inr (PylongRoom.of I.nolimit S.room (SeerAt.of (S.no.keeps I.bk) S.tree (I.ok.frames.trans (by rw[B])) A a e w)))
end
section
variable {X:Cx}
theorem gc {pos:Pos}(h:∃t,X.mg x=some (.int z t))(d:Gl X x:=by rfl)(A:(x==("__debug__":Str))=false:=by decide):PE X (.Name x pos) (tC (.int z)):=
 let ⟨t,e⟩:=h
 Ox d e ⟨t,rfl⟩ A
theorem xx:YJ X (fun o i H Q=>∃p d k j v,o= .ref p/\i= .int k/\oK X.K H p d/\k=((j:Nat):Int)/\d[j]? =some v/\Q v H):=by
 intro pins s σ H o i S G Q I e b h;obtain⟨p,d,k,j,z,rfl,rfl,x,a,B,q⟩:=h;cases e;obtain⟨t,rfl⟩:=b;obtain⟨A,r,pl,C⟩:=I.list x;obtain⟨w,l,f⟩:=r.get B;have u:=r.length;have n:=AY;have y:j<A.length:=by
  have:=bD.mp l;exact this.1
 exact getItem_listL pl.isList (by lia) (by lia) (by rw[a];simpa using l) ⟨z,H,I,f,q⟩
def aaj(C:Int->Int->Prop)(f:Int->Int->Int):W5:=fun x y H Q=>∃i j,x= .int i/\y= .int j/\C i j/\Q (.int (f i j)) H
theorem Vj:YF X .Mult (aaj IntMulOk fun i j=>i*j):=by
 intro pins s σ H x y v u Q I l A h;obtain⟨i,j,B,d,f,q⟩:=h;subst B;subst d;obtain⟨t,rfl⟩:=l;obtain⟨k,rfl⟩:=A;exact imul_int ⟨.int _,H,I.tok _,⟨_,rfl⟩,q⟩ f
end
section
variable {X:Cx}(K:PySem.W.Frag)
theorem jq(h:X.K=K:=by rfl):YW X (Xe K):=by subst h;exact Vd
theorem ZN(h:X.K=K:=by rfl):YW X (YX K):=by subst h;exact Xf
theorem Yh(h:X.K=K:=by rfl):Z9 X (Xh K):=by subst h;exact Ve
theorem MC(h:X.K=K:=by rfl):yU X (compareOp .In) (ZK K false):=by subst h;exact QB
theorem QH(h:X.K=K:=by rfl):yU X (compareOp .NotIn) (ZK K true):=by subst h;exact II
theorem eY(h:X.K=K:=by rfl):qL X (.builtin "len") (fun A H Q=>∃p d,A=[.ref p]/\(oK K H p d\/Ge K H p d)/\Q (.int d.length) H):=by subst h;exact IJ
theorem xy(h:X.K=K:=by rfl):qL X (.type "list") (fun A H Q=>∃p d,A=[.ref p]/\(oK K H p d\/Ge K H p d)/\∀l,H l=none->Q (.ref l) (upd H l (.lst d))):=by subst h;exact IK
theorem du (A:PE X e d)(l:attributeBase e f X.env (eval e X.env)=eval e X.env)(h:X.K=K:=by rfl):PE X (.Attribute e f pos) (Qx K d f):=by subst h;exact Xc A l
theorem fG{a:Expr}{d:TE}(l:PE X a d)(i:∀whole,isTrue a X.env whole=(do let v<-whole;standAt a.pos;holding [v] (truthy v)))(h:X.K=K:=by rfl):
  PT X a (fun σ H Q=>d σ H fun x A=>∃k,U3 K x A k/\Q k A):=by subst h;exact R9 l i
theorem j8{pos:Pos}{d:List Expr}{k:Nat}{t:Wk}{n:Nat}(f:X.calm=true)(h:YE X d t)
  (l:(assignEach d X.env).length=n:=by rfl) (A:(assignEach d X.env).findIdx? (·.1)=none:=by rfl) (i:X.K=K:=by rfl):PG X (.Tuple d k pos) (YH K n t):=by subst i;exact W6 f h l A
theorem OM(d:X.calm=true)(h:X.K=K:=by rfl):qL X (.builtin "any") (Y3 K):=by subst h;exact Xm d
theorem IQ(d:X.calm=true)(h:X.K=K:=by rfl):qL X (.builtin "all") (Y4 K):=by subst h;exact Xn d
theorem Vk(d:X.calm=true)(h:X.K=K:=by rfl):qL X (.builtin "sum") (Y2 K):=by subst h;exact Xl d
end
theorem eh:bootBuiltins "len"=some (.builtin "len"):=by decide +kernel
theorem ve:bootBuiltins "list"=some (.type "list"):=by decide +kernel
theorem MD:bootBuiltins "max"=some (.builtin "max"):=by decide +kernel
theorem ME:bootBuiltins "sum"=some (.builtin "sum"):=by decide +kernel
theorem xA:bootBuiltins "all"=some (.builtin "all"):=by decide +kernel
theorem DR:bootBuiltins "any"=some (.builtin "any"):=by decide +kernel
theorem xB:bootBuiltins "abs"=some (.builtin "abs"):=by decide +kernel
structure Yl(J:It)(H1:Hp)(n:Nat)(R:Nat->Hp->V->Prop):Prop where
 go:∀i H,dN H1 H->i<n->J.go i H
 yl:∀i H x H',dN H1 H->i<n->J.Yg i H x H'->dN H H'/\R i H' x
 st:∀H,dN H1 H->J.stop n H
theorem dz (h:H p=none):dN H (upd H p o):=fun b u e=>by rw[dY (fT e h)];exact e
theorem _root_.Lake.L2.dN.over (s:dN H d)(h:H p=none):dN H (upd d p o):=fun b u e=>by rw[dY (fT e h)];exact s b u e
theorem fL{K:PySem.W.Frag}{a:Addr}{H1:Hp}{d:List V}(h:oK K H1 a d):Yl (Z3 K a) H1 d.length (fun i _ x=>d[i]? =some x) where
 go:=fun i H s A=>⟨d,d[i],s.seq h,by simp[A]⟩
 yl:=by rintro i H x l s A ⟨e,y⟩;exact⟨by rw[e];exact .refl _,y d (s.seq h)⟩
 st:=fun H s=>⟨d,s.seq h,aj _⟩
theorem l6(H1:Hp)(lo:Int)(n:Nat):Yl (YK lo n) H1 n (fun i _ x=>x= .int (lo+i)) where
 go:=fun i H s d=>d
 yl:=by rintro i H x A s d ⟨e,y⟩;exact⟨by rw[e];exact .refl _,y⟩
 st:=fun H s=>aj _
theorem Hm(H1:Hp)(lo c:Int)(n:Nat):Yl (Itc lo c n) H1 n (fun i _ x=>x= .int (lo+(i:Nat)*c)) where
 go:=fun i H s d=>d
 yl:=by rintro i H x A s d ⟨e,y⟩;exact⟨by rw[e];exact .refl _,y⟩
 st:=fun H s=>aj _
theorem oR{K:PySem.W.Frag}{a:Addr}{H1:Hp}{d:List V}(h:oK K H1 a d):Yl (Ite K a) H1 d.length (fun i H x=>∃T y,x= .ref T/\H T=some (.tup [.int (i:Nat),y])/\d[i]? =some y) where
 go:=fun i H s A=>⟨d,d[i],s.seq h,by simp[A]⟩
 yl:=by rintro i H x f s A ⟨T,y,e,n,l,q⟩;exact⟨by rw[l];exact dz n,T,y,e,by rw[l];exact dj,q d (s.seq h)⟩
 st:=fun H s=>⟨d,s.seq h,aj _⟩
theorem Xt{K:PySem.W.Frag}{a b:Addr}{H1:Hp}{d A:List V}(h:oK K H1 a d)(h':oK K H1 b A)(k:d.length=A.length):Yl (Itz K a b) H1 d.length (fun i H x=>∃T y z,x= .ref T/\H T=some (.tup [y,z])/\d[i]? =some y/\A[i]? =some z) where
 go:=fun i H s f=>⟨d,A,d[i],A[i]'(by lia),s.seq h,s.seq h',by simp[f],by rw[af (by lia)]⟩
 yl:=by rintro i H x v s f ⟨T,y,z,e,n,l,q,B⟩;exact⟨by rw[l];exact dz n,T,y,z,e,by rw[l];exact dj,q d (s.seq h),B A (s.seq h')⟩
 st:=fun H s=>⟨d,A,s.seq h,s.seq h',.inl (aj _)⟩
theorem jR (Y:Yl J H1 n R){g:TG}{v:TS}{D:Ends}(Pv:Nat->L2.St->Hp->Prop)(w:Pv 0 σ k)(t:∀i σ H,Pv i σ H->dN H1 H)(a:∀i x σ H d,i<n->Pv i σ H->dN H1 d->dN H d->R i d x->g x σ d fun σ2 l=>v {D with nx:=Pv (i+1),ct:=Pv (i+1),bk:=D.nx} σ2 l)(h:∀σ H,Pv n σ H->D.nx σ H):
  ∃W:Nat->Nat->L2.St->Hp->Prop,(∃m,W 0 m σ k)/\∀i m σ H,W i m σ H->
   (J.stop i H/\D.nx σ H)\/(J.go i H/\∃N:L2.St->Hp->Prop,(∀σ' d,N σ' d->∃B,B <m/\W (i+1) B σ' d)/\∀x d,J.Yg i H x d->g x σ d fun σ2 l=>v {D with nx:=N,ct:=N,bk:=D.nx} σ2 l):=by
 refine⟨fun i m σ H=>m=n - i/\i<=n/\Pv i σ H,⟨n,by simp,aR _,w⟩,?_⟩;rintro i m σ H ⟨rfl,b,p⟩;have s:=t i σ H p;by_cases A:i<n
 ·refine .inr ⟨Y.go i H s A,Pv (i+1),fun σ' d q=>⟨n - (i+1),by lia,rfl,A,q⟩,fun x d y=> ?_⟩;obtain⟨f,r⟩:=Y.yl i H x d s A y;exact a i x σ H d A p (s.trans f) f r
 ·have e:i=n:=by lia
  subst e;exact .inl ⟨Y.st H s,h σ H p⟩
def Sl(H1:Hp)(D:Addr)(P:Hp->List V->Prop)(H:Hp):Prop:=dN H1 H/\∃acc,H D=some (.lst acc)/\P H acc
theorem gz (A:H1 D=none)(s:dN H1 d)(h:d D=some (.lst acc))(l:acc.length<sizeLine)(p:P (upd d D (.lst (acc ++ [y]))) (acc ++ [y])):
  ∃acc,d D=some (.lst acc)/\acc.length<sizeLine/\Sl H1 D P (upd d D (.lst (acc ++ [y]))):=⟨acc,h,l,s.over A,_,dj,p⟩
theorem oC (Y:Yl J H1 n R){g:TG}{o:TT}{u:TE}{t:Hp->Prop}(F:H1 D=none)(Pv:Nat->Hp->List V->Prop)(S:Pv 0 (upd H1 D (.lst [])) [])(G:∀i x H d acc,i<n->dN H1 H->H D=some (.lst acc)->Pv i H acc->dN H1 d->dN H d->d D=some (.lst acc)->R i d x->g x (wipe σ l) d fun σ2 v=>wipe σ2 l=wipe σ l/\o σ2 v fun b f=>
   if b=true then u σ2 f fun y B=>∃acc,B D=some (.lst acc)/\acc.length<sizeLine/\Sl H1 D (Pv (i+1)) (upd B D (.lst (acc ++ [y]))) else Sl H1 D (Pv (i+1)) f)(C:∀H acc,dN H1 H->H D=some (.lst acc)->Pv n H acc->t H):
  ∃W:Nat->Nat->Hp->Prop,(∃m,W 0 m (upd H1 D (.lst [])))/\∀i m H,W i m H->
   (J.stop i H/\t H)\/(J.go i H/\∃k:Hp->Prop,(∀d,k d->∃a,a <m/\W (i+1) a d)/\∀x d,J.Yg i H x d->g x (wipe σ l) d fun σ2 v=>wipe σ2 l=wipe σ l/\o σ2 v fun b f=>
    if b=true then u σ2 f fun y B=>∃acc,B D=some (.lst acc)/\acc.length<sizeLine/\k (upd B D (.lst (acc ++ [y]))) else k f):=by
 refine⟨fun i m H=>m=n - i/\i<=n/\Sl H1 D (Pv i) H,⟨n,by simp,aR _,dz F,[],dj,S⟩,?_⟩;rintro i m H ⟨rfl,z,s,acc,h,p⟩;by_cases A:i<n
 ·refine .inr ⟨Y.go i H s A,Sl H1 D (Pv (i+1)),fun d q=>⟨n - (i+1),by lia,rfl,A,q⟩,fun x d y=> ?_⟩;obtain⟨w,r⟩:=Y.yl i H x d s A y;exact G i x H d acc A s h p (s.trans w) w (w _ _ h) r
 ·have e:i=n:=by lia
  subst e;exact .inl ⟨Y.st H s,C H acc s h p⟩
theorem d5 {j:Nat}{v:α}(e:z=(j:Int))(h:d[j]? =some v):Ku d z=some v:=by rw[e];exact Va h
theorem sV {j:Nat}(e:z=(j:Int))(h:j<n):Qz n z=some j:=by
 unfold Qz;rw[e,ai (Int.natCast_nonneg j),ai (by lia)];simp
theorem dA {α:Type}{l:List α}{d:α}(h:j<l.length):l[j]? =some (l.getD j d):=by
 rw[gDe,af h];rfl
theorem jf {l:List Int}(h:j<l.length):(l.map V.int)[j]? =some (V.int (l.getD j 0)):=by
 rw[aD,dA (d:=0) h];rfl
theorem dy (h:n<=16777216):n<=sizeLine:=by rw[sizeLine_eq];exact h
theorem dI (h:n<16777216):n<sizeLine:=by rw[sizeLine_eq];exact h
theorem eH {K:PySem.W.Frag}{H:Hp}{Q:V->Prop}(h:H x=some (.ins C d fs))(c:U5 K C)(n:pE K C f)(l:fs.lookup f=some v)(k:Q v):∃a C d fs A,V.ref x= .ref a/\H a=some (.ins C d fs)/\U5 K C/\pE K C f/\fs.lookup f=some A/\Q A:=⟨x,C,d,fs,v,rfl,h,c,n,l,k⟩
theorem lW {S:Addr->List V->Prop}{Q:V->Prop}(h:S p A)(e:Ku A i=some v)(k:Q v):∃B d f l,V.ref p= .ref B/\V.int i= .int f/\S B d/\Ku d f=some l/\Q l:=⟨p,A,i,v,rfl,rfl,h,e,k⟩
theorem j9 {Q:Int->Int->Prop}(k:Q i j):∃A d,V.int i= .int A/\V.int j= .int d/\Q A d:=⟨i,j,rfl,rfl,k⟩
section
variable {X:Cx}{i:Nat}{x:Str}{e:Expr}{te:TE}{pos pos':Pos}
theorem dX(f:X.N.Nodup)(d:PE X e te)(hi:X.N[i]? =some x:=by rfl)(l:Loc X.env.scope x:=by first |exact Or.inl rfl |exact Or.inr rfl)(B:swapsWith e (some (.Name x pos')) pos.line X.env=pure false:=by rfl)(A:X.fn x=true\/X.env.scope.names.lookup x=some .local:=by first |exact .inl rfl |exact .inr rfl |assumption):
  PS X (.Assign [.Name x pos'] e pos) (U1 te (He i)):=W7 f hi l d B A
theorem fk(l:X.N.Nodup)(hi:X.N[i]? =some x:=by rfl)(A:Loc X.env.scope x:=by exact Or.inl rfl)(d:X.fn x=true\/X.env.scope.names.lookup x=some .local:=by first |exact .inl rfl |exact .inr rfl |assumption):PG X (.Name x pos) (He i):=U0 l hi A d
end
theorem sco{N P:List Str}{d:Scope}(a:d.kind= .function:=by rfl)(b:d.isCoroutine=false:=by rfl)(c:d.isGenerator=false:=by rfl)(e:N.take P.length=P:=by rfl)(h:N.Nodup/\(∀x∈P,d.names.lookup x=some .local\/d.names.lookup x=some .cell)/\∀y∈d.names,y.2≠.free:=by decide +kernel):dD N P d:=⟨a,b,c,h.1,e,h.2.1,h.2.2⟩
end Kh
namespace di
open Wh
open Lean.Grind
section det
variable {R:Type} [CommRing R]
noncomputable def eV:Nat->(Nat->R)->R
 |0,_=>0
 |n+1,f=>eV n f+f n
theorem e7:∀(n:Nat) {f g:Nat->R},(∀i,i<n->f i=g i)->eV n f=eV n g
 |0,_,_,_=>rfl
 |n+1,f,g,h=>by
  show eV n f+f n=eV n g+g n;rw[e7 n (fun i d=>h i (by lia)),h n (by lia)]
theorem yY:∀(n:Nat) (f g:Nat->R),eV n (fun i=>f i+g i)=eV n f+eV n g
 |0,_,_=>by show(0:R)=0+0;grind
 |n+1,f,g=>by
  show eV n (fun i=>f i+g i)+(f n+g n)=eV n f+f n+(eV n g+g n);rw[yY n f g];grind
theorem gj:∀(n:Nat) (c:R) (f:Nat->R),eV n (fun i=>c*f i)=c*eV n f
 |0,c,_=>by show(0:R)=c*0;grind
 |n+1,c,f=>by
  show eV n (fun i=>c*f i)+c*f n=c*(eV n f+f n);rw[gj n c f];grind
theorem v9:∀(n:Nat) {f:Nat->R},(∀i,i<n->f i=0)->eV n f=0
 |0,_,_=>rfl
 |n+1,f,h=>by
  show eV n f+f n=0;rw[v9 n (fun i d=>h i (by lia)),h n (by lia)];grind
theorem om:∀(n:Nat) {f:Nat->R} (k:Nat),k<n->(∀i,i<n->i≠k->f i=0)->eV n f=f k
 |0,_,k,d,_=>by lia
 |n+1,f,k,d,h=>by
  show eV n f+f n=f k;by_cases e:k=n
  ·subst e;rw[v9 k (fun i A=>h i (by lia) (by lia))];grind
  ·rw[om n k (by lia) (fun i A=>h i (by lia)),h n (by lia) (by lia)];grind
theorem DS:∀(n:Nat) {f:Nat->R} (k l:Nat),k<l->l<n->(∀i,i<n->i≠k->i≠l->f i=0)->eV n f=f k+f l
 |0,_,k,l,d,x,_=>by lia
 |n+1,f,k,l,d,x,h=>by
  show eV n f+f n=f k+f l;by_cases e:l=n
  ·subst e;rw[om l k (by lia) (fun i B A=>h i (by lia) A (by lia))]
  ·rw[DS n k l d (by lia) (fun i B=>h i (by lia)),h n (by lia) (by lia) (by lia)];grind
theorem A6:∀(n m:Nat) (f:Nat->Nat->R),eV n (fun i=>eV m (fun j=>f i j))=eV m (fun j=>eV n (fun i=>f i j))
 |0,m,f=>by
  show(0:R)=_;exact(v9 m fun _ _=>rfl).symm
 |n+1,m,f=>by
  show eV n (fun i=>eV m (fun j=>f i j))+eV m (fun j=>f n j)=eV m (fun j=>eV n (fun i=>f i j)+f n j);rw[A6 n m f,yY]
theorem Hn:∀(n:Nat) (f:Nat->R),eV (n+1) f=f 0+eV n (fun i=>f (i+1))
 |0,f=>by show(0:R)+f 0=f 0+0;grind
 |n+1,f=>by
  show eV (n+1) f+f (n+1)=f 0+(eV n (fun i=>f (i+1))+f (n+1));rw[Hn n f];grind
noncomputable def sg(i:Nat):R:=if i % 2=0 then 1 else -1
theorem IS:(sg 0:R)=1:=by unfold sg;exact ai rfl
theorem ON (i):(sg (i+1):R)= - sg i:=by
 unfold sg;by_cases h:i % 2=0
 ·rw[ai h,ah (by lia)]
 ·rw[ah h,ai (by lia)];grind
noncomputable def skip(i a:Nat):Nat:=if a<i then a else a+1
def del(i:Nat)(A:Nat->Nat->R):Nat->Nat->R:=fun a b=>A (skip i a) (b+1)
def det:Nat->(Nat->Nat->R)->R
 |0,_=>1
 |n+1,A=>eV (n+1) fun i=>sg i*(A i 0*det n (del i A))
theorem gG (n)(A:Nat->Nat->R):det (n+1) A=eV (n+1) fun i=>sg i*(A i 0*det n (del i A)):=rfl
theorem yZ (h:a<n):skip i a<n+1:=by unfold skip;split <;>lia
theorem fh:∀(n:Nat) {A B:Nat->Nat->R},(∀i j,i<n->j<n->A i j=B i j)->det n A=det n B
 |0,_,_,_=>rfl
 |n+1,A,B,h=>by
  rw[gG,gG];refine e7 _ fun i d=> ?_;rw[h i 0 d (by lia),fh n (A:=del i A) (B:=del i B) fun a b l f=>h _ _ (yZ l) (by lia)]
noncomputable def eW(A:Nat->Nat->R)(r:Nat)(v:Nat->R):Nat->Nat->R:=fun i j=>if i=r then v j else A i j
noncomputable def fD(A:Nat->Nat->R)(c:Nat)(v:Nat->R):Nat->Nat->R:=fun i j=>if j=c then v i else A i j
theorem fH {v:Nat->R}:eW A r v r j=v j:=ai rfl
theorem fP {v:Nat->R}(h:i≠r):eW A r v i j=A i j:=ah h
theorem iw {v:Nat->R}:fD A c v i c=v i:=ai rfl
theorem lX {v:Nat->R}(h:j≠c):fD A c v i j=A i j:=ah h
noncomputable def place(i r:Nat):Nat:=if r<i then r else r - 1
theorem MF (h:r≠i):skip i (place i r)=r:=by
 unfold skip place
 repeat' split
 all_goals lia
theorem MG (i a):place i (skip i a)=a:=by
 unfold skip place
 repeat' split
 all_goals lia
theorem OO (i a):skip i a≠i:=by unfold skip;split <;>lia
theorem place_lt (d:r<n+1)(hi:i<n+1)(h:r≠i):place i r<n:=by unfold place;split <;>lia
theorem oE (A:Nat->Nat->R)(r)(v:Nat->R):del r (eW A r v)=del r A:=by
 funext a b;exact fP (OO r a)
theorem xC (A:Nat->Nat->R)(h:r≠i)(v:Nat->R):del i (eW A r v)=eW (del i A) (place i r) (fun b=>v (b+1)):=by
 funext a b;show(if skip i a=r then v (b+1) else A (skip i a) (b+1))=if a=place i r then v (b+1) else A (skip i a) (b+1);by_cases e:a=place i r
 ·rw[ai e,ai (by rw[e];exact MF h)]
 ·rw[ah e,ah (fun q=>e (by rw[<-q,MG]))]
theorem gH:∀(n:Nat) (A:Nat->Nat->R) (r:Nat) (c:R) (u v:Nat->R),r<n->det n (eW A r fun j=>u j+c*v j)=det n (eW A r u)+c*det n (eW A r v)
 |0,_,_,_,_,_,h=>by lia
 |n+1,A,r,c,u,v,h=>by
  rw[gG,gG,gG,<-gj,<-yY];refine e7 _ fun i d=> ?_;by_cases e:r=i
  ·subst e;rw[oE,oE,oE,fH,fH,fH];grind
  ·rw[xC A e,xC A e,xC A e,fP (b5 e),fP (b5 e),fP (b5 e),gH n _ _ _ _ _ (place_lt h d e)];grind
theorem rC (n)(A:Nat->Nat->R)(r)(c)(v:Nat->R)(h:r<n):det n (eW A r fun j=>c*v j)=c*det n (eW A r v):=by
 have l:det n (eW A r fun _=>(0:R))=0:=by
  have e:=gH n A r (-1) (fun _=>(0:R)) (fun _=>0) h;have d:(fun _:Nat=>(0:R)+(-1)*0)=fun _=>0:=by funext j;grind
  rw[d] at e;grind
 have e:=gH n A r c (fun _=>(0:R)) v h;have d:(fun j:Nat=>(0:R)+c*v j)=fun j=>c*v j:=by funext j;grind
 rw[d,l] at e;grind
theorem sW (n)(A:Nat->Nat->R)(r)(h:r<n)(d:∀j,j<n->A r j=0):det n A=0:=by
 have e:det n A=det n (eW A r fun j=>(0:R)*0):=fh n fun i j f l=>by
  by_cases q:i=r
  ·subst q;rw[fH,d j l];grind
  ·rw[fP q]
 rw[e,rC n A r 0 (fun _=>0) h];grind
theorem Df:∀(n:Nat) (A:Nat->Nat->R) (r:Nat),r+1<n->(∀j,j<n->A r j=A (r+1) j)->det n A=0
 |0,_,_,h,_=>by lia
 |n+1,A,r,h,f=>by
  rw[gG,DS (n+1) r (r+1) (by lia) h ?_]
  ·have e:det n (del r A)=det n (del (r+1) A):=fh n fun a b t v=>by
    show A (skip r a) (b+1)=A (skip (r+1) a) (b+1);by_cases q:a=r
    ·subst q;have d:skip a a=a+1:=by unfold skip;rw[ah (by lia)]
     have l:skip (a+1) a=a:=by unfold skip;rw[ai (by lia)]
     rw[d,l,f _ (by lia)]
    ·have d:skip r a=skip (r+1) a:=by unfold skip;split <;>split <;>lia
     rw[d]
   rw[e,f 0 (by lia),ON];grind
  ·intro i w k x;have e:det n (del i A)=0:=by
    by_cases q:i<r
    ·refine Df n (del i A) (r - 1) (by lia) fun j B=> ?_;show A (skip i (r - 1)) (j+1)=A (skip i (r - 1+1)) (j+1);have d:skip i (r - 1)=r:=by unfold skip;rw[ah (by lia)];lia
     have l:skip i (r - 1+1)=r+1:=by unfold skip;rw[ah (by lia)];lia
     rw[d,l,f _ (by lia)]
    ·refine Df n (del i A) r (by lia) fun j B=> ?_;show A (skip i r) (j+1)=A (skip i (r+1)) (j+1);have d:skip i r=r:=by unfold skip;rw[ai (by lia)]
     have l:skip i (r+1)=r+1:=by unfold skip;rw[ai (by lia)]
     rw[d,l,f _ (by lia)]
   rw[e];grind
noncomputable def hZ(A:Nat->Nat->R)(r t:Nat):Nat->Nat->R:=fun i j=>if i=r then A t j else if i=t then A r j else A i j
theorem IT (n)(A:Nat->Nat->R)(r)(h:r+1<n):det n (hZ A r (r+1))= - det n A:=by
 have t:r<n:=by lia
 let B:(Nat->R)->(Nat->R)->Nat->Nat->R:=fun u v=>eW (eW A r u) (r+1) v;have l:∀u,det n (B u u)=0:=fun u=>Df n _ r h fun j _=>by
  show eW (eW A r u) (r+1) u r j=eW (eW A r u) (r+1) u (r+1) j;rw[fP (by lia),fH,fH]
 have q:∀u v f,det n (B u fun j=>v j+1*f j)=det n (B u v)+1*det n (B u f):=fun u v f=>gH n _ _ 1 v f h;have comm:∀u v,B u v=eW (eW A (r+1) v) r u:=fun u v=>by
  funext i j;show(if i=r+1 then v j else if i=r then u j else A i j)=if i=r then u j else if i=r+1 then v j else A i j;by_cases d:i=r
  ·rw[ai d,ah (by lia),ai d]
  ·rw[ah d,ah d]
 have w:∀u k v,det n (B (fun j=>u j+1*k j) v)=det n (B u v)+1*det n (B k v):=fun u k v=>by
  rw[comm,comm,comm];exact gH n _ _ 1 u k t
 have e:det n A=det n (B (A r) (A (r+1))):=fh n fun i j _ _=>by
  show A i j=if i=r+1 then A (r+1) j else if i=r then A r j else A i j;by_cases d:i=r+1
  ·rw[ai d,d]
  ·rw[ah d];by_cases x:i=r
   ·rw[ai x,x]
   ·rw[ah x]
 have a:det n (hZ A r (r+1))=det n (B (A (r+1)) (A r)):=fh n fun i j _ _=>by
  show(if i=r then A (r+1) j else if i=r+1 then A r j else A i j)=if i=r+1 then A r j else if i=r then A (r+1) j else A i j;by_cases d:i=r
  ·rw[ai d,ah (by lia),ai d]
  ·rw[ah d,ah d]
 have s:=l fun j=>A r j+1*A (r+1) j;rw[q,w,w,l,l] at s;rw[e,a];grind
theorem vf (n):∀(d:Nat) (A:Nat->Nat->R) (r:Nat),r+d+1<n->(∀j,j<n->A r j=A (r+d+1) j)->det n A=0
 |0,A,r,h,l=>Df n A r h l
 |d+1,A,r,h,l=>by
  have s:=IT n A (r+d+1) (by lia);have z:det n (hZ A (r+d+1) (r+d+1+1))=0:=by
   refine vf n d _ r (by lia) fun j i=> ?_;show(if r=r+d+1 then _ else if r=r+d+1+1 then _ else A r j)=if r+d+1=r+d+1 then A (r+d+1+1) j else _;rw[ah (by lia),ah (by lia),ai rfl];exact l j i
  rw[z] at s;grind
theorem wb (n)(A:Nat->Nat->R)(r t)(k:r<n)(B:t<n)(f:r≠t)(l:∀j,j<n->A r j=A t j):det n A=0:=by
 by_cases h:r<t
 ·obtain⟨d,rfl⟩:∃d,t=r+d+1:=⟨t - r - 1,by lia⟩;exact vf n d A r (by lia) l
 ·obtain⟨d,rfl⟩:∃d,r=t+d+1:=⟨r - t - 1,by lia⟩;exact vf n d A t (by lia) fun j i=>(l j i).symm
theorem MH (n)(A:Nat->Nat->R)(r t)(c)(l:r<n)(f:t<n)(d:r≠t):det n (eW A r fun j=>A r j+c*A t j)=det n A:=by
 rw[gH n A r c _ _ l];have z:det n (eW A r (A t))=0:=wb n _ r t l f d fun j _=>by rw[fH,fP (b5 d)]
 have e:det n (eW A r (A r))=det n A:=fh n fun i j _ _=>by
  by_cases q:i=r
  ·subst q;exact fH
  ·exact fP q
 rw[z,e];grind
theorem Sn (n)(A:Nat->Nat->R)(r t)(e:r<n)(h:t<n)(x:r≠t):det n (hZ A r t)= - det n A:=by
 let B:(Nat->R)->(Nat->R)->Nat->Nat->R:=fun u v=>eW (eW A r u) t v;have l:∀u,det n (B u u)=0:=fun u=>wb n _ r t e h x fun j _=>by
  show eW (eW A r u) t u r j=eW (eW A r u) t u t j;rw[fP x,fH,fH]
 have b:∀u v f,det n (B u fun j=>v j+1*f j)=det n (B u v)+1*det n (B u f):=fun u v f=>gH n _ _ 1 v f h;have comm:∀u v,B u v=eW (eW A t v) r u:=fun u v=>by
  funext i j;show(if i=t then v j else if i=r then u j else A i j)=if i=r then u j else if i=t then v j else A i j;by_cases d:i=r
  ·rw[ai d,ah (by lia),ai d]
  ·rw[ah d,ah d]
 have q:∀u k v,det n (B (fun j=>u j+1*k j) v)=det n (B u v)+1*det n (B k v):=fun u k v=>by
  rw[comm,comm,comm];exact gH n _ _ 1 u k e
 have a:det n A=det n (B (A r) (A t)):=fh n fun i j _ _=>by
  show A i j=if i=t then A t j else if i=r then A r j else A i j;by_cases d:i=t
  ·rw[ai d,d]
  ·rw[ah d];by_cases w:i=r
   ·rw[ai w,w]
   ·rw[ah w]
 have p:det n (hZ A r t)=det n (B (A t) (A r)):=fh n fun i j _ _=>by
  show(if i=r then A t j else if i=t then A r j else A i j)=if i=t then A r j else if i=r then A t j else A i j;by_cases d:i=r
  ·rw[ai d,ah (by lia),ai d]
  ·rw[ah d,ah d]
 have s:=l fun j=>A r j+1*A t j;rw[b,q,q,l,l] at s;rw[a,p];grind
noncomputable def tr(A:Nat->Nat->R):Nat->Nat->R:=fun i j=>A j i
theorem rD:∀(n:Nat) (A:Nat->Nat->R),det n (tr A)=det n A
 |0,_=>rfl
 |1,A=>rfl
 |n+2,A=>by
  have key:∀B:Nat->Nat->R,(∀m,m<n+2->∀C:Nat->Nat->R,det m (tr C)=det m C)->det (n+2) B=B 0 0*det (n+1) (del 0 B) - eV (n+1) fun i=>eV (n+1) fun j=>sg (i+j)*(B (i+1) 0*B 0 (j+1)*det n (fun a b=>B (skip i a+1) (skip j b+1))):=by
   intro B d;rw[gG,Hn,IS];have e:eV (n+1) (fun i=>sg (i+1)*(B (i+1) 0*det (n+1) (del (i+1) B)))= - eV (n+1) fun i=>eV (n+1) fun j=>sg (i+j)*(B (i+1) 0*B 0 (j+1)*det n (fun a b=>B (skip i a+1) (skip j b+1))):=by
    have l:∀x:R,- x=(-1)*x:=fun x=>by grind
    rw[l,<-gj];refine e7 _ fun i w=> ?_;rw[<-d (n+1) (by lia) (del (i+1) B),gG,<-gj,<-gj,<-gj];refine e7 _ fun j u=> ?_;have h:tr (del (i+1) B) j 0=B 0 (j+1):=by
     show B (skip (i+1) 0) (j+1)=_;unfold skip;rw[ai (by lia)]
    have f:det n (del j (tr (del (i+1) B)))=det n (fun a b=>B (skip i a+1) (skip j b+1)):=by
     rw[<-d n (by lia) (fun a b=>B (skip i a+1) (skip j b+1))];refine fh n fun a b s p=> ?_;show B (skip (i+1) (b+1)) (skip j a+1)=B (skip i b+1) (skip j a+1);have r:skip (i+1) (b+1)=skip i b+1:=by
      unfold skip
      repeat' split
      all_goals lia
     rw[r]
    rw[h,f,ON];have v:(sg (i+j):R)=sg i*sg j:=by
     unfold sg
     repeat' split
     all_goals first |grind |lia
    rw[v];grind
   rw[e];grind
  have d:∀m,m<n+2->∀C:Nat->Nat->R,det m (tr C)=det m C:=fun m o C=>rD m C;rw[key A d,key (tr A) d,A6];have t:det (n+1) (del 0 (tr A))=det (n+1) (del 0 A):=by
   rw[<-d (n+1) (by lia) (del 0 A)];refine fh _ fun a b _ _=> ?_;show A (b+1) (skip 0 a)=A (skip 0 b) (a+1);unfold skip;rw[ah (by lia),ah (by lia)]
  rw[t];have q:eV (n+1) (fun j=>eV (n+1) fun i=>sg (i+j)*(tr A (i+1) 0*tr A 0 (j+1)*det n (fun a b=>tr A (skip i a+1) (skip j b+1))))=eV (n+1) fun i=>eV (n+1) fun j=>sg (i+j)*(A (i+1) 0*A 0 (j+1)*det n (fun a b=>A (skip i a+1) (skip j b+1))):=by
   refine e7 _ fun i w=>e7 _ fun j u=> ?_;have k:det n (fun a b=>tr A (skip j a+1) (skip i b+1))=det n (fun a b=>A (skip i a+1) (skip j b+1)):=by
    rw[<-d n (by lia) (fun a b=>A (skip i a+1) (skip j b+1))];rfl
   rw[k,Nat.add_comm j i];show sg (i+j)*(A 0 (j+1)*A (i+1) 0*_)=_;grind
  rw[q];rfl
theorem mW (A:Nat->Nat->R)(c)(v:Nat->R):tr (fD A c v)=eW (tr A) c v:=rfl
theorem KC (n)(A:Nat->Nat->R)(r)(c)(u v:Nat->R)(h:r<n):det n (fD A r fun j=>u j+c*v j)=det n (fD A r u)+c*det n (fD A r v):=by
 rw[<-rD,<-rD n (fD A r u),<-rD n (fD A r v),mW,mW,mW];exact gH n _ _ _ _ _ h
theorem wZ (n)(A:Nat->Nat->R)(r)(c)(v:Nat->R)(h:r<n):det n (fD A r fun j=>c*v j)=c*det n (fD A r v):=by
 rw[<-rD,<-rD n (fD A r v),mW,mW];exact rC n _ _ _ _ h
theorem oS (n)(A:Nat->Nat->R)(c)(h:c<n)(d:∀i,i<n->A i c=0):det n A=0:=by
 rw[<-rD];exact sW n _ c h d
theorem Gk (n)(A:Nat->Nat->R)(r t)(f:r<n)(l:t<n)(d:r≠t)(B:∀i,i<n->A i r=A i t):det n A=0:=by
 rw[<-rD];exact wb n _ r t f l d B
theorem vg (n)(A:Nat->Nat->R)(r)(l:r<n):∀(m:Nat) (x:Nat->R) (v:Nat->Nat->R),det n (eW A r fun j=>eV m fun d=>x d*v d j)=eV m fun d=>x d*det n (eW A r (v d))
 |0,x,v=>sW n _ r l fun j _=>fH
 |m+1,x,v=>by
  show det n (eW A r fun j=>eV m (fun d=>x d*v d j)+x m*v m j)=eV m (fun d=>x d*det n (eW A r (v d)))+x m*det n (eW A r (v m));rw[gH n A r (x m) _ _ l,vg n A r l m x v]
theorem Ck (n)(A:Nat->Nat->R)(c)(l:c<n)(m)(x:Nat->R)(v:Nat->Nat->R):det n (fD A c fun i=>eV m fun d=>x d*v d i)=eV m fun d=>x d*det n (fD A c (v d)):=by
 rw[<-rD,mW,vg n _ _ l];refine e7 _ fun d _=> ?_;rw[<-mW,rD]
theorem KD (A:Nat->Nat->R)(c):fD A c (fun i=>A i c)=A:=by
 funext i j;by_cases q:j=c
 ·subst q;exact iw
 ·exact lX q
theorem KG (A:Nat->Nat->R)(r):eW A r (A r)=A:=by
 funext i j;by_cases q:i=r
 ·subst q;exact fH
 ·exact fP q
theorem DT (n)(A:Nat->Nat->R)(x b:Nat->R)(c)(f:c<n)(h:∀i,i<n->eV n (fun d=>A i d*x d)=b i):det n (fD A c b)=x c*det n A:=by
 have e:det n (fD A c b)=det n (fD A c fun i=>eV n fun d=>x d*A i d):=fh n fun i j k v=>by
  by_cases q:j=c
  ·subst q;rw[iw,iw,<-h i k];exact e7 _ fun d _=>by grind
  ·rw[lX q,lX q]
 rw[e,Ck n A c f n x (fun d i=>A i d),om n c f]
 ·rw[KD]
 ·intro d B l;rw[Gk n _ c d f B (b5 l) fun i _=>by rw[iw,lX l]];grind
noncomputable def ei(i:Nat):Nat->R:=fun j=>if j=i then 1 else 0
theorem uI (i):(ei i:Nat->R) i=1:=ai rfl
theorem w6 (h:j≠i):(ei i:Nat->R) j=0:=ah h
theorem KH (n)(A:Nat->Nat->R)(i c)(hi:i<n)(k:c<n):det n (fD A c (ei i))=det n (eW A i (ei c)):=by
 have one:∀B:Nat->Nat->R,(∀a,a<n->B a c=ei i a)->det n B=det n (eW B i (ei c)):=by
  intro B x;have e:det n B=det n (eW B i fun j=>ei c j+1*(if j=c then 0 else B i j)):=fh n fun a b l f=>by
   by_cases q:a=i
   ·subst q;rw[fH];by_cases d:b=c
    ·subst d;rw[x a l,uI,uI,ai rfl];grind
    ·rw[w6 d,ah d];grind
   ·rw[fP q]
  rw[e,gH n B i 1 _ _ hi,oS n (eW B i fun j=>if j=c then 0 else B i j) c k fun a l=> ?_]
  ·grind
  ·by_cases q:a=i
   ·subst q;rw[fH,ai rfl]
   ·rw[fP q,x a l,w6 q]
 have v:=one (fD A c (ei i)) fun a _=>iw;have w:det n (eW A i (ei c))=det n (fD (eW A i (ei c)) c (ei i)):=by
  have e:det n (eW A i (ei c))=det n (fD (eW A i (ei c)) c fun a=>ei i a+1*(if a=i then 0 else A a c)):=fh n fun a b l f=>by
   by_cases d:b=c
   ·subst d;rw[iw];by_cases q:a=i
    ·subst q;rw[fH,uI,uI,ai rfl];grind
    ·rw[fP q,w6 q,ah q];grind
   ·rw[lX d]
  rw[e,KC n _ c 1 _ _ k,sW n (fD (eW A i (ei c)) c fun a=>if a=i then 0 else A a c) i hi fun b f=> ?_]
  ·grind
  ·by_cases d:b=c
   ·subst d;rw[iw,ai rfl]
   ·rw[lX d,fH,w6 d]
 rw[v,w];refine fh n fun a b _ _=> ?_;show(if a=i then ei c b else if b=c then ei i a else A a b)=if b=c then ei i a else if a=i then ei c b else A a b;by_cases q:a=i
 ·by_cases d:b=c
  ·subst q d;rw[ai rfl,ai rfl,uI,uI]
  ·rw[ai q,ah d,ai q]
 ·rw[ah q,ah q]
theorem So (n)(A:Nat->Nat->R)(v:Nat->R)(r)(x:r<n):eV n (fun c=>A r c*det n (fD A c v))=det n A*v r:=by
 have ev:∀c,c<n->det n (fD A c v)=eV n fun i=>v i*det n (eW A i (ei c)):=fun c f=>by
  have e:det n (fD A c v)=det n (fD A c fun a=>eV n fun d=>v d*ei d a):=fh n fun a b h w=>by
   by_cases q:b=c
   ·subst q;rw[iw,iw,om n a h,uI]
    ·grind
    ·intro d _ l;rw[w6 (b5 l)];grind
   ·rw[lX q,lX q]
  rw[e,Ck n A c f n v fun d=>ei d];exact e7 _ fun d l=>by rw[KH n A d c l f]
 have u:eV n (fun c=>A r c*det n (fD A c v))=eV n fun c=>eV n fun i=>v i*(A r c*det n (eW A i (ei c))):=e7 _ fun c f=>by
  rw[ev c f,<-gj];exact e7 _ fun i _=>by grind
 rw[u,A6];have t:∀i,i<n->eV n (fun c=>v i*(A r c*det n (eW A i (ei c))))=v i*det n (eW A i (A r)):=fun i k=>by
  rw[gj,<-vg n A i k n (A r) fun d=>ei d];refine congrArg (v i* ·) (fh n fun a b h w=> ?_);by_cases q:a=i
  ·subst q;rw[fH,fH,om n b w,uI]
   ·grind
   ·intro d _ l;rw[w6 (b5 l)];grind
  ·rw[fP q,fP q]
 rw[e7 n t,om n r x,KG]
 ·grind
 ·intro i k B;rw[wb n (eW A i (A r)) i r k x B fun j _=>by rw[fH,fP (b5 B)]];grind
theorem KI:∀(n:Nat) (A:Nat->Nat->R),(∀j,j<n+1->A n j=ei n j)->det (n+1) A=det n A
 |0,A,h=>by
  rw[gG];show(0:R)+sg 0*(A 0 0*1)=1;rw[h 0 (by lia),uI,IS];grind
 |n+1,A,h=>by
  rw[gG];show eV (n+1) (fun i=>sg i*(A i 0*det (n+1) (del i A)))+sg (n+1)*(A (n+1) 0*det (n+1) (del (n+1) A))=det (n+1) A;rw[h 0 (by lia),w6 (by lia),gG n A];have e:eV (n+1) (fun i=>sg i*(A i 0*det (n+1) (del i A)))=eV (n+1) (fun i=>sg i*(A i 0*det n (del i A))):=e7 _ fun i l=>by
   rw[KI n (del i A) fun j f=> ?_];show A (skip i n) (j+1)=ei n j;have d:skip i n=n+1:=by unfold skip;rw[ah (by lia)]
   rw[d,h (j+1) (by lia)];unfold ei;by_cases q:j=n
   ·rw[ai q,ai (by lia)]
   ·rw[ah q,ah (by lia)]
  rw[e];grind
end det
section bar
variable {R:Type} [CommRing R]
def Reg(a:R):Prop:=∀x y:R,a*x=a*y->x=y
def mk(A:Nat->Nat->R)(k:Nat):R:=det k A
def mc(A:Nat->Nat->R)(k c j:Nat):R:=det k (fD A c fun i=>A i j)
def ti(A:Nat->Nat->R)(k i j:Nat):R:=mk A k*A i j - eV k fun c=>A i c*mc A k c j
theorem DU (n)(f g:Nat->R):eV n (fun i=>f i - g i)=eV n f - eV n g:=by
 have e:eV n (fun i=>f i - g i)=eV n (fun i=>f i+(-1)*g i):=e7 _ fun i _=>by grind
 rw[e,yY,gj];grind
theorem A7 (A:Nat->Nat->R)(k r j)(d:r<k):eV k (fun c=>A r c*mc A k c j)=mk A k*A r j:=So k A (fun i=>A i j) r d
theorem Sq (A:Nat->Nat->R)(k r j)(d:r<k):ti A k r j=0:=by
 unfold ti;rw[A7 A k r j d];grind
theorem Ho (A:Nat->Nat->R)(k i):eV (k+1) (fun d=>A i d*(if d=k then mk A k else - mc A k d k))=ti A k i k:=by
 show eV k (fun d=>A i d*(if d=k then mk A k else - mc A k d k))+A i k*(if k=k then mk A k else - mc A k k k)=_;rw[ai rfl];have e:eV k (fun d=>A i d*(if d=k then mk A k else - mc A k d k))=eV k (fun d=>(-1)*(A i d*mc A k d k)):=e7 _ fun d l=>by rw[ah (by lia)];grind
 rw[e,gj];unfold ti;grind
theorem Sr (A:Nat->Nat->R)(k):det (k+1) (fD A k (ei k))=mk A k:=by
 rw[KH (k+1) A k k (by lia) (by lia),KI k _ fun j _=>fH];exact fh k fun i j d _=>fP (by lia)
theorem DV (A:Nat->Nat->R)(k)(h:Reg (mk A k)):ti A k k k=mk A (k+1):=by
 have c:=DT (k+1) A (fun d=>if d=k then mk A k else - mc A k d k) (fun i=>ti A k k k*ei k i) k (by lia) fun i l=>by
  rw[Ho];by_cases e:i=k
  ·subst e;rw[uI];grind
  ·rw[w6 e,Sq A k i k (by lia)];grind
 rw[wZ (k+1) A k _ _ (by lia),Sr,ai rfl] at c;refine h _ _ ?_;show mk A k*ti A k k k=mk A k*det (k+1) A;grind
theorem Dh (A:Nat->Nat->R)(k j)(h:Reg (mk A k))(x:Reg (mk A (k+1)))(c)(b:c<k):
  mk A (k+1)*mc A k c j - mc A k c k*ti A k k j=mk A k*mc A (k+1) c j/\ti A k k j=mc A (k+1) k j:=by
 have w:=DV A k h;have sol:∀r,r<k+1->eV (k+1) (fun d=>A r d*(if d=k then mk A k*ti A k k j else mk A (k+1)*mc A k d j - mc A k d k*ti A k k j))=(mk A k*mk A (k+1))*A r j:=fun r a=>by
  show eV k (fun d=>A r d*(if d=k then mk A k*ti A k k j else mk A (k+1)*mc A k d j - mc A k d k*ti A k k j))+A r k*(if k=k then mk A k*ti A k k j else _)=_;rw[ai rfl];have e:eV k (fun d=>A r d*(if d=k then mk A k*ti A k k j else mk A (k+1)*mc A k d j - mc A k d k*ti A k k j))=mk A (k+1)*eV k (fun d=>A r d*mc A k d j) - ti A k k j*eV k (fun d=>A r d*mc A k d k):=by
   rw[<-gj,<-gj,<-DU];exact e7 _ fun d f=>by rw[ah (by lia)];grind
  rw[e];by_cases q:r=k
  ·subst q;have t:eV r (fun d=>A r d*mc A r d j)=mk A r*A r j - ti A r r j:=by unfold ti;grind
   have l:eV r (fun d=>A r d*mc A r d r)=mk A r*A r r - ti A r r r:=by unfold ti;grind
   rw[t,l,w];grind
  ·rw[A7 A k r j (by lia),A7 A k r k (by lia)];grind
 have v:∀d,d<k+1->mk A (k+1)*(if d=k then mk A k*ti A k k j else mk A (k+1)*mc A k d j - mc A k d k*ti A k k j)=mk A (k+1)*(mk A k*mc A (k+1) d j):=fun d f=>by
  have B:=DT (k+1) A _ (fun i=>(mk A k*mk A (k+1))*A i j) d f sol;rw[wZ (k+1) A d _ (fun i=>A i j) f] at B;have e:det (k+1) (fD A d fun i=>A i j)=mc A (k+1) d j:=rfl;rw[e] at B;have l:det (k+1) A=mk A (k+1):=rfl;rw[l] at B;grind
 refine⟨?_,?_⟩
 ·have g:=x _ _ (v c (by lia));rw[ah (by lia)] at g;exact g
 ·have g:=x _ _ (v k (by lia));rw[ai rfl] at g;exact h _ _ g
theorem OP (A:Nat->Nat->R)(k j)(h:Reg (mk A k))(d:Reg (mk A (k+1))):ti A k k j=mc A (k+1) k j:=by
 by_cases q:0<k
 ·exact(Dh A k j h d 0 q).2
 ·have e:k=0:=by lia
  subst e;show(1:R)*A 0 j - 0=0+sg 0*(fD A 0 (fun i=>A i j) 0 0*1);rw[iw,IS];grind
theorem OQ (A:Nat->Nat->R)(k i j)(h:Reg (mk A k))(d:Reg (mk A (k+1))):
  mk A (k+1)*ti A k i j - ti A k i k*ti A k k j=mk A k*ti A (k+1) i j:=by
 have e:ti A (k+1) i j=mk A (k+1)*A i j - (eV k (fun c=>A i c*mc A (k+1) c j)+A i k*mc A (k+1) k j):=rfl;have B:mk A k*eV k (fun c=>A i c*mc A (k+1) c j)=mk A (k+1)*eV k (fun c=>A i c*mc A k c j) - ti A k k j*eV k (fun c=>A i c*mc A k c k):=by
  rw[<-gj,<-gj,<-gj,<-DU];exact e7 _ fun c f=>by
   have s:=(Dh A k j h d c f).1;grind
 have l:=OP A k j h d;have v:eV k (fun c=>A i c*mc A k c j)=mk A k*A i j - ti A k i j:=by unfold ti;grind
 have x:eV k (fun c=>A i c*mc A k c k)=mk A k*A i k - ti A k i k:=by unfold ti;grind
 rw[e,<-l];rw[v,x] at B;grind
theorem Ss (A:Nat->Nat->R)(n k)(B:k<n)(h:Reg (mk A k))(w:∀i,k<=i->i<n->ti A k i k=0):
  (∀i,i<n->eV n (fun d=>A i d*(if d<k+1 then(if d=k then mk A k else - mc A k d k) else 0))=0)/\det n A=0:=by
 have tail:∀(m:Nat) (f:Nat->R),k+1<=m->eV m (fun d=>if d<k+1 then f d else 0)=eV (k+1) f:=by
  intro m;induction m with
  |zero=>intro f v;lia
  |succ m x=>
   intro f v;show eV m (fun d=>if d<k+1 then f d else 0)+(if m<k+1 then f m else 0)=_;by_cases q:m=k
   ·subst q;rw[ai (by lia)];show _=eV m f+f m;rw[e7 m (g:=f) fun i l=>ai (by lia)]
   ·rw[ah (by lia),x f (by lia)];grind
 have sol:∀i,i<n->eV n (fun d=>A i d*(if d<k+1 then(if d=k then mk A k else - mc A k d k) else 0))=0:=fun i l=>by
  have e:eV n (fun d=>A i d*(if d<k+1 then(if d=k then mk A k else - mc A k d k) else 0))=eV n (fun d=>if d<k+1 then A i d*(if d=k then mk A k else - mc A k d k) else 0):=e7 _ fun d _=>by
   by_cases q:d<k+1
   ·rw[ai q,ai q]
   ·rw[ah q,ah q];grind
  rw[e,tail n _ (by lia),Ho];by_cases q:i<k
  ·exact Sq A k i k q
  ·exact w i (by lia) l
 refine⟨sol,?_⟩;have c:=DT n A _ (fun _=>(0:R)) k B sol;rw[oS n (fD A k fun _=>(0:R)) k B fun i _=>iw,ai (by lia),ai rfl] at c;refine h _ _ ?_;grind
theorem IU (A:Nat->Nat->R)(k r t)(l:k<=r)(d:k<=t):mk (hZ A r t) k=mk A k:=fh k fun i j f _=>by
 show(if i=r then _ else if i=t then _ else A i j)=_;rw[ah (by lia),ah (by lia)]
theorem IV (A:Nat->Nat->R)(k r t c j)(l:k<=r)(d:k<=t):mc (hZ A r t) k c j=mc A k c j:=fh k fun i b f _=>by
 have e:∀b,hZ A r t i b=A i b:=fun b=>by
  show(if i=r then _ else if i=t then _ else A i b)=_;rw[ah (by lia),ah (by lia)]
 show(if b=c then hZ A r t i j else hZ A r t i b)=if b=c then A i j else A i b;rw[e,e]
noncomputable def sw(r t i:Nat):Nat:=if i=r then t else if i=t then r else i
theorem OR (A:Nat->Nat->R)(k r t i j)(f:k<=r)(l:k<=t):ti (hZ A r t) k i j=ti A k (sw r t i) j:=by
 have e:∀b,hZ A r t i b=A (sw r t i) b:=fun b=>by
  show(if i=r then A t b else if i=t then A r b else A i b)=A (if i=r then t else if i=t then r else i) b;by_cases q:i=r
  ·rw[ai q,ai q]
  ·rw[ah q,ah q];by_cases d:i=t
   ·rw[ai d,ai d]
   ·rw[ah d,ah d]
 unfold ti;rw[IU A k r t f l,e];refine congrArg (_ - ·) (e7 _ fun c _=> ?_);rw[e,IV A k r t c j f l]
end bar
end di
namespace di
open Wh
open Lean.Grind
open Wh (valueAt addPoly scalePoly mulPoly)
theorem jg (x):valueAt [] x=0:=rfl
theorem dZ (a)(l)(x):valueAt (a::l) x=a+x*valueAt l x:=rfl
theorem kN:∀(p q:List Rat) (x:Rat),valueAt (addPoly p q) x=valueAt p x+valueAt q x
 |[],q,x=>by
  show valueAt q x=0+valueAt q x;grind
 |a::p,[],x=>by
  show valueAt (a::p) x=valueAt (a::p) x+0;grind
 |a::p,b::q,x=>by
  show(a+b)+x*valueAt (addPoly p q) x=_;rw[kN p q x,dZ,dZ];grind
theorem fV (c):∀(p:List Rat) (x:Rat),valueAt (scalePoly c p) x=c*valueAt p x
 |[],x=>by
  show(0:Rat)=c*0;grind
 |a::p,x=>by
  show c*a+x*valueAt (scalePoly c p) x=_;rw[fV c p x,dZ];grind
theorem rE:∀(p q:List Rat) (x:Rat),valueAt (mulPoly p q) x=valueAt p x*valueAt q x
 |[],q,x=>by
  show(0:Rat)=0*valueAt q x;grind
 |a::p,q,x=>by
  show valueAt (addPoly (scalePoly a q) (0::mulPoly p q)) x=_;rw[kN,fV,dZ,rE p q x,dZ];grind
structure PF where
 f:Rat->Rat
 h:∃l:List Rat,∀x,f x=valueAt l x
theorem PF.ext {b:PF}(h:∀x,a.f x=b.f x):a=b:=by
 cases a;cases b;have e:=funext h;dsimp at e;subst e;rfl
namespace PF
noncomputable def const(c:Rat):PF:=⟨fun _=>c,[c],fun x=>by rw[dZ,jg];grind⟩
noncomputable def add(a b:PF):PF:=⟨fun x=>a.f x+b.f x,by
 obtain⟨l,A⟩:=a.h;obtain⟨m,d⟩:=b.h;exact⟨addPoly l m,fun x=>by rw[kN,<-A,<-d]⟩⟩
noncomputable def mul(a b:PF):PF:=⟨fun x=>a.f x*b.f x,by
 obtain⟨l,A⟩:=a.h;obtain⟨m,d⟩:=b.h;exact⟨mulPoly l m,fun x=>by rw[rE,<-A,<-d]⟩⟩
noncomputable def neg(a:PF):PF:=⟨fun x=> - a.f x,by
 obtain⟨l,d⟩:=a.h;exact⟨scalePoly (-1) l,fun x=>by rw[fV,<-d];grind⟩⟩
noncomputable def sub(a b:PF):PF:=⟨fun x=>a.f x - b.f x,by
 obtain⟨l,A⟩:=a.h;obtain⟨m,d⟩:=b.h;exact⟨addPoly l (scalePoly (-1) m),fun x=>by rw[kN,fV,<-A,<-d];grind⟩⟩
def npow(a:PF):Nat->PF
 |0=>const 1
 |n+1=>mul (npow a n) a
instance:Add PF:=⟨add⟩
instance:Mul PF:=⟨mul⟩
instance:Neg PF:=⟨neg⟩
instance:Sub PF:=⟨sub⟩
instance:NatCast PF:=⟨fun n=>const (n:Rat)⟩
instance:IntCast PF:=⟨fun n=>const (n:Rat)⟩
instance (n:Nat):OfNat PF n:=⟨const (n:Rat)⟩
instance:SMul Nat PF:=⟨fun n a=>mul (const (n:Rat)) a⟩
instance:SMul Int PF:=⟨fun n a=>mul (const (n:Rat)) a⟩
instance:HPow PF Nat PF:=⟨npow⟩
theorem Za (a b:PF)(x):(a+b).f x=a.f x+b.f x:=rfl
theorem Su (a b:PF)(x):(a*b).f x=a.f x*b.f x:=rfl
theorem Zb (a:PF)(x):(- a).f x= - a.f x:=rfl
instance:CommRing PF where
 add_zero a:=PF.ext fun x=>by show a.f x+((0:Nat):Rat)=a.f x;grind
 add_comm a b:=PF.ext fun x=>by show a.f x+b.f x=b.f x+a.f x;grind
 add_assoc a b c:=PF.ext fun x=>by show a.f x+b.f x+c.f x=a.f x+(b.f x+c.f x);grind
 mul_assoc a b c:=PF.ext fun x=>by show a.f x*b.f x*c.f x=a.f x*(b.f x*c.f x);grind
 mul_one a:=PF.ext fun x=>by show a.f x*((1:Nat):Rat)=a.f x;grind
 one_mul a:=PF.ext fun x=>by show((1:Nat):Rat)*a.f x=a.f x;grind
 left_distrib a b c:=PF.ext fun x=>by show a.f x*(b.f x+c.f x)=a.f x*b.f x+a.f x*c.f x;grind
 right_distrib a b c:=PF.ext fun x=>by show(a.f x+b.f x)*c.f x=a.f x*c.f x+b.f x*c.f x;grind
 zero_mul a:=PF.ext fun x=>by show((0:Nat):Rat)*a.f x=((0:Nat):Rat);grind
 mul_zero a:=PF.ext fun x=>by show a.f x*((0:Nat):Rat)=((0:Nat):Rat);grind
 pow_zero a:=rfl
 pow_succ a n:=rfl
 ofNat_succ n:=PF.ext fun x=>by show((n+1:Nat):Rat)=(n:Rat)+((1:Nat):Rat);grind
 neg_add_cancel a:=PF.ext fun x=>by show - a.f x+a.f x=((0:Nat):Rat);grind
 sub_eq_add_neg a b:=PF.ext fun x=>by show a.f x - b.f x=a.f x+ - b.f x;grind
 neg_zsmul i a:=PF.ext fun x=>by show((-i:Int):Rat)*a.f x= -((i:Rat)*a.f x);grind
 zsmul_natCast_eq_nsmul n a:=PF.ext fun x=>by show(((n:Int)):Rat)*a.f x=((n:Nat):Rat)*a.f x;rw[bO]
 intCast_ofNat n:=PF.ext fun x=>by show((OfNat.ofNat n:Int):Rat)=((n:Nat):Rat);exact bO n
 intCast_neg i:=PF.ext fun x=>by show((-i:Int):Rat)= -((i:Int):Rat);grind
 mul_comm a b:=PF.ext fun x=>by show a.f x*b.f x=b.f x*a.f x;grind
end PF
example (a b c:PF):(a+b)*c=c*b+a*c:=by grind
noncomputable def sdiv(r:Rat):List Rat->List Rat
 |[]=>[]
 |_::[]=>[]
 |_::b::t=>valueAt (b::t) r::sdiv r (b::t)
theorem y6 (r):∀l:List Rat,(sdiv r l).length=l.length - 1
 |[]=>rfl
 |_::[]=>rfl
 |_::b::t=>by
  show(sdiv r (b::t)).length+1=_;rw[y6 r (b::t)];rfl
theorem Di (r)(x):∀l:List Rat,valueAt l x - valueAt l r=(x - r)*valueAt (sdiv r l) x
 |[]=>by
  show(0:Rat) - 0=(x - r)*0;grind
 |a::[]=>by
  show(a+x*0) - (a+r*0)=(x - r)*0;grind
 |a::b::t=>by
  have e:=Di r x (b::t);show(a+x*valueAt (b::t) x) - (a+r*valueAt (b::t) r)=(x - r)*(valueAt (b::t) r+x*valueAt (sdiv r (b::t)) x);grind
def rF(l:List Rat):Prop:=∀c∈l,c=0
theorem rF.ev (h:rF l)(x):valueAt l x=0:=by
 induction l with
 |nil=>rfl
 |cons a l A=>
  rw[dZ,h a aC,A fun c d=>h c (ao _ d)];grind
theorem sdiv_zero (r):∀l:List Rat,rF (sdiv r l)->valueAt l r=0->rF l
 |[],_,_=>fun _ h=>by cases h
 |a::[],_,e=>fun c h=>by
  have:c=a:=by simpa using h
  subst this;have e:c+r*0=0:=e;grind
 |a::b::t,z,e=>by
  have A:valueAt (b::t) r=0:=z _ aC;have i:=sdiv_zero r (b::t) (fun c d=>z c (ao _ d)) A;intro c d;rcases aL.mp d with h |h
  ·subst h;rw[dZ,A] at e;grind
  ·exact i c h
theorem roots:∀(d:List Rat) (l:List Rat),d.Nodup->l.length<=d.length->(∀x∈d,valueAt l x=0)->rF l
 |[],l,_,A,_=>by
  have:l=[]:=bc.mp (by simpa using A);subst this;intro c h;cases h
 |r::d,l,i,A,k=>by
  have B:=k r aC;refine sdiv_zero r l (roots d (sdiv r l) (cf.mp i).2 ?_ ?_) B
  ·rw[y6];simp at A;lia
  ·intro x f;have e:=Di r x l;rw[k x (ao _ f),B] at e;have ne:x - r≠0:=fun q=>by
    have:x=r:=by grind
    subst this;exact(cf.mp i).1 f
   have v:(x - r)*valueAt (sdiv r l) x=0:=by grind
   rcases bR.mp v with q |q
   ·exact absurd q ne
   ·exact q
theorem MI (n):((List.range n).map fun i:Nat=>(i:Rat)).Nodup:=by
 refine List.Pairwise.map _ ?_ (List.nodup_range (n:=n));intro a b h e;exact h (by exact_mod_cast e)
theorem Hq (n)(l:List Rat)(f:l.length<=n)(h:∀i:Nat,i<n->valueAt l (i:Rat)=0):rF l:=
 roots _ l (MI n) (by simpa using f) fun x A=>by
  obtain⟨i,d,rfl⟩:=aV.mp A;exact h i (aY.mp d)
theorem KL:∀(n:Nat) (l:List Rat),l.length<=n->¬rF l->∃N:Nat,∀i:Nat,N<=i->valueAt l (i:Rat)≠0
 |0,l,B,d=>absurd (fun c h=>by
   have:l=[]:=bc.mp (by lia);subst this;cases h) d
 |n+1,l,B,d=>by
  by_cases q:∃r:Nat,valueAt l (r:Rat)=0
  ·obtain⟨r,A⟩:=q;obtain⟨N,x⟩:=KL n (sdiv r l) (by rw[y6];lia) fun z=>d (sdiv_zero r l z A);refine⟨max N (r+1),fun i v e=> ?_⟩;have k:=Di r i l;rw[e,A] at k;have f:((i:Rat) - r)*valueAt (sdiv r l) i=0:=by grind
   rcases bR.mp f with h |h
   ·have:(i:Rat)=(r:Rat):=by grind
    have:i=r:=by exact_mod_cast this
    lia
   ·exact x i (by lia) h
  ·exact⟨0,fun i _ e=>q ⟨i,e⟩⟩
theorem pJ{l:List Rat}(h:∀x,valueAt l x=0):rF l:=Hq l.length l (aj _) fun i _=>h i
theorem PF.Dj{a:PF}(h:a≠0):∃N:Nat,∀i:Nat,N<=i->a.f (i:Rat)≠0:=by
 obtain⟨l,d⟩:=a.h;obtain⟨N,B⟩:=KL l.length l (aj _) fun z=>h (PF.ext fun x=>by rw[d,z.ev];rfl);exact⟨N,fun i A=>by rw[d];exact B i A⟩
theorem PF.gI {b:PF}(i:a≠0)(A:b≠0):a*b≠0:=by
 obtain⟨N,B⟩:=PF.Dj i;obtain⟨M,d⟩:=PF.Dj A;intro e;have l:(a*b).f ((max N M:Nat):Rat)=0:=by rw[e];rfl
 rcases bR.mp l with q |q
 ·exact B _ (by lia) q
 ·exact d _ (by lia) q
theorem PF.wc{a:PF}(d:a≠0):Reg a:=by
 intro x y e;by_cases q:x - y=0
 ·grind
 ·refine absurd ?_ (PF.gI d q);grind
noncomputable def rl(l:List Int):List Rat:=l.map fun z:Int=>(z:Rat)
noncomputable def dJ(l:List Rat):PF:=⟨fun x=>valueAt l x,l,fun _=>rfl⟩
def dO(l:List Int):PF:=dJ (rl l)
theorem sv (l)(x):(dJ l).f x=valueAt l x:=rfl
theorem OS (l)(x):(dO l).f x=valueAt (rl l) x:=rfl
theorem fJ (a)(l)(x):(dO (a::l)).f x=(a:Rat)+x*(dO l).f x:=rfl
def Trim(l:List Int):Prop:=l.getLast?≠some 0
theorem vh:∀(p q:List Rat) (i:Nat),(addPoly p q).getD i 0=p.getD i 0+q.getD i 0
 |[],q,i=>by
  show q.getD i 0=([]:List Rat).getD i 0+q.getD i 0;simp;grind
 |a::p,[],i=>by
  show(a::p).getD i 0=(a::p).getD i 0+([]:List Rat).getD i 0;simp;grind
 |a::p,b::q,0=>rfl
 |a::p,b::q,i+1=>by
  show(addPoly p q).getD i 0=p.getD i 0+q.getD i 0;exact vh p q i
theorem o8 (c):∀(p:List Rat) (i:Nat),(scalePoly c p).getD i 0=c*p.getD i 0
 |[],i=>by
  show([]:List Rat).getD i 0=c*([]:List Rat).getD i 0;simp
 |a::p,0=>rfl
 |a::p,i+1=>o8 c p i
theorem rF.get (h:rF l)(i):l.getD i 0=0:=by
 rw[gDe];cases e:l[i]? with
 |none=>rfl
 |some c=>exact h c (aH e)
theorem w8 {p q:List Rat}(h:∀x,valueAt p x=valueAt q x)(i):p.getD i 0=q.getD i 0:=by
 have z:rF (addPoly p (scalePoly (-1) q)):=pJ fun x=>by rw[kN,fV,h];grind
 have e:=z.get i;rw[vh,o8] at e;grind
theorem IW (l)(i):(rl l).getD i 0=((l.getD i 0:Int):Rat):=by
 unfold rl;rw[gDe,gDe,aD];cases l[i]? <;>simp
theorem vi (h:dO l=dO m)(i):l.getD i 0=m.getD i 0:=by
 have e:=w8 (p:=rl l) (q:=rl m) (fun x=>by rw[<-OS,<-OS,h]) i;rw[IW,IW] at e;exact_mod_cast e
theorem KN {m:List Int}(d:Trim l)(h:∀i,l.getD i 0=m.getD i 0):l.length<=m.length:=by
 rcases Nat.eq_zero_or_pos l.length with q |q
 ·lia
 ·refine bV fun lt=>d ?_;have e:=h (l.length - 1);rw[cH];rw[gDe,gDe,aO (l:=m) (by lia),af (by lia)] at e;rw[af (by lia)];simpa using e
theorem y8 (f:Trim l)(d:Trim m)(h:dO l=dO m):l=m:=by
 have e:=vi h;have n:l.length=m.length:=Nat.le_antisymm (KN f e) (KN d fun i=>(e i).symm);refine cg n fun i B A=> ?_;have:=e i;simpa [gDe,af B,af A] using this
end di
namespace di
open Wh
abbrev dQ:=List Int
noncomputable def vj(c:dQ):Nat->Nat
 |0=>0
 |n+1=>if c.getD n 0=0 then vj c n else n+1
def Mf(c:dQ):dQ:=c.take (vj c c.length)
noncomputable def cst(x:Int):dQ:=if x=0 then[] else[x]
noncomputable def mP(p:dQ):dQ:=p.map fun x=> -x
noncomputable def ja:dQ->dQ->dQ
 |[],q=>q
 |p,[]=>p
 |a::p,b::q=>(a+b)::ja p q
def Gm(l r:dQ):dQ:=Mf (ja l r)
def wI(l r:dQ):dQ:=Gm l (mP r)
def mulL:dQ->dQ->dQ
 |[],_=>[]
 |a::p,q=>ja (q.map fun y=>a*y) (0::mulL p q)
def iQ(l r:dQ):dQ:=if l=[]\/r=[] then[] else mulL l r
noncomputable def lc(p:dQ):Int:=p.getD (p.length - 1) 0
def OT(r:dQ):Nat->dQ->dQ->dQ
 |0,_,out=>out
 |t+1,rest,out=>
  let f:=(rest.getD (t+r.length - 1) 0).fdiv (lc r)
  OT r t ((List.range rest.length).map fun i=>rest.getD i 0 - (if t<=i/\i<t+r.length then f*r.getD (i - t) 0 else 0)) (f::out)
def Sw(l r:dQ):dQ:=if l=[] then[] else OT r (l.length - r.length+1) l []
noncomputable def fA(p:dQ):Int:=p.headD 0
noncomputable def wJ(x y:Int):Int:=(Nat.gcd x.natAbs y.natAbs:Int)
noncomputable def cont(p:dQ):Int:=p.foldl wJ 0
noncomputable def prim(p:dQ):dQ:=p.map fun x=>x.fdiv (cont p)
def mQ(rest right:dQ):dQ:=wI (rest.map fun x=>lc right*x) (List.replicate (rest.length - right.length) 0 ++ right.map fun y=>lc rest*y)
def A8:Nat->dQ->dQ->dQ
 |0,rest,_=>rest
 |f+1,rest,right=>if rest.length<right.length then rest else A8 f (mQ rest right) right
def OU(l r:dQ):dQ:=A8 (l.length+1) l r
abbrev kf:=List dQ
noncomputable def pK(t:List kf)(k:Nat):Nat->Option Nat
 |0=>none
 |f+1=>let p:=t.length - (f+1)
  if(t.getD p []).getD k []≠[] then some p else pK t k f
noncomputable def mX(row by_:kf)(k:Nat)(before:dQ):kf:=
 (List.range row.length).map fun j=>if k<j then Sw (wI (iQ (by_.getD k []) (row.getD j [])) (iQ (row.getD k []) (by_.getD j []))) before else row.getD j []
noncomputable def A9(t:List kf)(k:Nat)(before:dQ):List kf:=
 (List.range t.length).map fun i=>if i=k then t.getD k [] else mX (t.getD i []) (t.getD k []) k before
noncomputable def o9(t:List kf)(i k:Nat):List kf:=(t.set i (t.getD k [])).set k (t.getD i [])
def y9:Nat->Nat->List kf->dQ->Option (dQ×List dQ)
 |0,_,t,before=>some (before,t.map fun r=>r.getD (r.length - 1) [])
 |f+1,k,t,before=>match pK t k (t.length - k) with
  |none=>none
  |some c=>y9 f (k+1) (A9 (o9 t c k) k before) ((t.getD c []).getD k [])
def sol(t:List kf):Option (dQ×List dQ):=y9 t.length 0 t [1]
structure Part where
 kind:Int
 a:Int
 b:Int
 c:Int
 d:Int
 top:Int
 dG:Int
noncomputable def Part.of(r:List Int):Part:=⟨r.getD 0 0,r.getD 1 0,r.getD 2 0,r.getD 3 0,r.getD 4 0,r.getD 5 0,r.getD 6 0⟩
noncomputable def p0:Part:=⟨0,0,0,0,0,0,0⟩
structure Nw where
 last:Int
 dc:List Part
noncomputable def dU(d:List Int):List (List Int):=(List.range ((d.length - 1+6) / 7)).map fun i=>(d.drop (1+7*i)).take 7
noncomputable def iW(r:List Int):Bool:=
 if ¬(0<=r.getD 0 0/\r.getD 0 0<=13) then false
 else if ¬((r.drop 1).take 4).all (fun p=>decide (0<=p/\p<=63))=true then false
 else decide ((r.getD 5 0).natAbs<=1000000)&&decide (1<=r.getD 6 0/\r.getD 6 0<=1000000)
def oN(d:List Int):Bool:=
 if d.length=0\/¬(1<=d.headD 0/\d.headD 0<=8) then false
 else if(d.length - 1) % 7≠0 then false
 else if 10<(dU d).length then false
 else if ¬(dU d).all iW=true then false
 else decide (((dU d).filter fun r=>decide (r.getD 0 0=13)).length<=3)
def gV(d:List Int):Nw:=⟨d.headD 0,(dU d).map Part.of⟩
noncomputable def iB(p:Part):List Int:=if p.kind=3 then[] else if p.kind=6\/p.kind=7\/p.kind=10\/p.kind=11 then[p.a,p.b,p.c,p.d] else[p.a,p.b]
noncomputable def pL(p:Part):Bool:=
 if p.kind=0\/p.kind=1\/p.kind=2 then decide (0<p.top)
 else if p.kind=10 then decide (p.top≠0)
 else if p.kind=11 then decide (p.top=0)
 else if p.kind=12 then decide (p.top=0\/p.top=p.dG)
 else if p.kind=13 then decide (0<=p.top)
 else true
def kindAt(ps:List Part)(i:Int):Int:=(ps.getD i.toNat p0).kind
def gO(ps:List Part)(k:Nat):Bool:=
 let p:=ps.getD k p0
 if ¬(p.kind=8\/p.kind=9) then true else decide (p.c<k)&&decide (kindAt ps p.c≠3)
def eN(ps:List Part)(i:Int)(k:Nat):Bool:=decide (i<k)&&decide (kindAt ps i=2)
noncomputable def jL(p:Part)(one other:Int):Bool:=if p.kind≠3 then false else decide ((p.a=one/\p.b=other)\/(p.a=other/\p.b=one))
noncomputable def tooMuch(c one other:Part):Bool:=decide (one.top*other.top*c.dG*c.dG<c.top*c.top*one.dG*other.dG)
def ph(ps:List Part)(k:Nat):Int:=
 let p:=ps.getD k p0
 if p.a=p.b\/eN ps p.a k=false\/eN ps p.b k=false then 3
 else if(ps.take k).any (fun q=>jL q p.a p.b)=true then 3
 else if tooMuch p (ps.getD p.a.toNat p0) (ps.getD p.b.toNat p0)=true then 2
 else 0
def jh(n:Nw)(k:Nat):Int:=
 let p:=n.dc.getD k p0
 if(iB p).any (fun v=>decide (n.last<v))=true then 1
 else if pL p=false then 2
 else if gO n.dc k=false then 3
 else if p.kind=3 then ph n.dc k
 else 0
def lF(n:Nw):Nat->List Int
 |0=>[]
 |f+1=>let k:=n.dc.length - (f+1)
  if jh n k≠0 then[(k:Int),jh n k] else lF n f
def fault(n:Nw):List Int:=lF n n.dc.length
def gi(d:List Int):List Int:=
 if oN d=false then[-1] else match fault (gV d) with
  |[]=>[]
  |f=> -2::f
abbrev Term:=Int×dQ
noncomputable def kJ(p:Part):Int:=if p.kind=3 then 0 else if p.kind=10 then 2 else 1
noncomputable def width(n:Nw):Int:=n.last+(n.dc.map kJ).sum
def iC(free:Int):List Part->List Int
 |[]=>[]
 |p::r=>free::iC (free+kJ p) r
def places(n:Nw):List Int:=iC n.last n.dc
structure mY where
 eQ:Nw
 s:dQ
 gZ:List Bool
 drives:List (Int×Int)
noncomputable def KO(first second:Int):List Term:=(if 0<first then[(first - 1,[1])] else[]) ++ (if 0<second then[(second - 1,[-1])] else[])
def oT(p:Part):List Term:=KO p.a p.b
def IX(p:Part):List Term:=KO p.c p.d
def cur(g:mY)(k:Int):List Term:=[((places g.eQ).getD k.toNat 0,[1])]
noncomputable def sX(d:List Term)(p:dQ):List Term:=d.map fun t=>(t.1,iQ t.2 p)
def pN(p:Part)(l r:List Term):List Term:=sX l (cst p.dG) ++ sX r (cst (-p.top))
def Mh(g:mY)(k:Nat)(d:List Term):List Term:=sX d (cst (g.drives.getD k (0,1)).2) ++ [(width g.eQ,cst (g.drives.getD k (0,1)).1)]
def fm(ps:List Part)(k:Nat):List (Int×Int×Int):=
 ((k:Int),(ps.getD k p0).top,(ps.getD k p0).dG)::(ps.filter fun p=>decide (p.kind=3/\((k:Int)=p.a\/(k:Int)=p.b))).map fun p=>(p.a+p.b - k,p.top,p.dG)
noncomputable def common(d:List (Int×Int×Int)):Int:=d.foldl (fun c x=>c*x.2.2) 1
def sY(g:mY)(k:Nat):List Term:=
 let sh:=fm g.eQ.dc k
 sX (oT (g.eQ.dc.getD k p0)) (cst (common sh)) ++ sh.flatMap fun x=>sX (sX (cur g x.1) g.s) (cst (-x.2.1*(common sh).fdiv x.2.2))
def gP(g:mY)(k:Nat):List (List Term):=
 let p:=g.eQ.dc.getD k p0;match p.kind.toNat with
 |0=>[pN p (oT p) (cur g k)]
 |1=>[pN p (cur g k) (sX (oT p) g.s)]
 |2=>[sY g k]
 |3=>[]
 |4=>[Mh g k (oT p)]
 |5=>[Mh g k (cur g k)]
 |6=>[pN p (oT p) (IX p)]
 |7=>[pN p (cur g k) (IX p)]
 |8=>[pN p (oT p) (cur g p.c)]
 |9=>[pN p (cur g k) (cur g p.c)]
 |10=>[pN p (oT p) (IX p),pN p [((places g.eQ).getD k 0+1,[1])] (sX (cur g k) [-1])]
 |11=>[IX p]
 |12=>[if p.top=0 then cur g k else oT p]
 |_=>if g.gZ.getD k false=true then[Mh g k (oT p)] else[cur g k]
def lH(n:Nw)(v:Int):List Term:=
 (n.dc.zip (places n)).flatMap fun x=>if x.1.kind=3 then[] else
  (if x.1.a=v then[(x.2,[1])] else[]) ++ (if x.1.b=v then[(x.2,[-1])] else[]) ++
   (if x.1.kind=10 then(if x.1.c=v then[(x.2+1,[1])] else[]) ++ (if x.1.d=v then[(x.2+1,[-1])] else[]) else[])
def vk(row:kf)(t:Term):kf:=row.set t.1.toNat (Gm (row.getD t.1.toNat []) t.2)
noncomputable def rowOf(w:Int)(d:List Term):kf:=d.foldl vk (List.replicate (w+1).toNat [])
noncomputable def iD(g:mY):List (List Term):=((List.range g.eQ.last.toNat).map fun(v:Nat)=>lH g.eQ ((v:Int)+1)) ++ (List.range g.eQ.dc.length).flatMap fun k=>gP g k
def rows(g:mY):List kf:=(iD g).map (rowOf (width g.eQ))
noncomputable def fg:List Part->List (List Bool)->List (List Bool)
 |[],d=>d
 |p::r,d=>fg r (d.flatMap fun row=>if p.kind=13 then[row ++ [false],row ++ [true]] else[row ++ [false]])
noncomputable def lI(s:dQ×List dQ)(v:Int):dQ:=if 0<v then s.2.getD (v - 1).toNat [] else[]
def pO(g:mY)(s:dQ×List dQ)(k:Nat):dQ:=s.2.getD ((places g.eQ).getD k 0).toNat []
def Dk(s:dQ×List dQ)(a b:Int):dQ:=wI (lI s a) (lI s b)
def qP(g:mY)(s:dQ×List dQ)(k:Nat):dQ:=Dk s (g.eQ.dc.getD k p0).a (g.eQ.dc.getD k p0).b
def xD(g:mY)(s:dQ×List dQ)(k:Nat):Bool:=
 let p:=g.eQ.dc.getD k p0;let d:=fA s.1
 if g.gZ.getD k false=true then decide (0<=fA (pO g s k)*d)
 else decide (fA (qP g s k)*d*p.dG<=p.top*d*d)
noncomputable def jS(g:mY)(s:dQ×List dQ):Bool:=((List.range g.eQ.dc.length).filter fun k=>decide ((g.eQ.dc.getD k p0).kind=13)).all fun k=>xD g s k
def n9(n:Nw):List (List Bool)->Option (List Bool×(dQ×List dQ))
 |[]=>none
 |d::r=>let g:mY:=⟨n,[],d,n.dc.map fun p=>(p.top,p.dG)⟩
  match sol (rows g) with
  |none=>n9 n r
  |some s=>if jS g s=true then some (d,s) else n9 n r
def point(n:Nw):Option (List Bool×(dQ×List dQ)):=n9 n (fg n.dc [[]])
noncomputable def ji(n:Nw)(st:List Bool)(source:Int):mY:=⟨n,[0,1],st,(List.range n.dc.length).map fun(k:Nat)=>if(k:Int)=source then(1,1) else(0,1)⟩
end di
namespace di
open Wh
open Lean.Grind
open Wh (valueAt)
theorem Dl (c):∀n,vj c n<=n
 |0=>aj _
 |n+1=>by
  unfold vj;split
  ·exact Nat.le_succ_of_le (Dl c n)
  ·exact aj _
theorem Hr (c):∀n i,vj c n<=i->i<n->c.getD i 0=0
 |0,i,_,h=>by lia
 |n+1,i,h,d=>by
  unfold vj at h;split at h
  ·rename_i e;by_cases q:i=n
   ·subst q;exact e
   ·exact Hr c n i h (by lia)
  ·lia
theorem Ht (c):∀n,0<vj c n->c.getD (vj c n - 1) 0≠0
 |0,h=>by
  unfold vj at h;lia
 |n+1,h=>by
  unfold vj at h⊢;split
  ·rename_i e;rw[ai e] at h;exact Ht c n h
  ·rename_i e;exact e
theorem QI (l:dQ)(n i):(l.take n).getD i 0=if i<n then l.getD i 0 else 0:=by
 rw[gDe,gDe,List.getElem?_take];split <;>rfl
theorem ze (c)(i):(Mf c).getD i 0=c.getD i 0:=by
 unfold Mf;rw[QI];split
 ·rfl
 ·rename_i h;by_cases q:i<c.length
  ·exact(Hr c c.length i (by lia) q).symm
  ·rw[gDe,aO (by lia)];rfl
theorem Dm (c):(Mf c).length=vj c c.length:=by
 unfold Mf;rw[aP];have:=Dl c c.length;lia
theorem DW (c):(Mf c).length<=c.length:=by rw[Dm];exact Dl _ _
theorem fQ{l:dQ}:Trim l↔(l≠[]->lc l≠0):=by
 unfold Trim lc;cases l with
 |nil=>simp
 |cons a l=>
  rw[cH,af (by simp),gDe,af (by simp)];simp
theorem zh:Trim []:=by unfold Trim;simp
theorem kZ (c):Trim (Mf c):=by
 rw[fQ];intro h;unfold lc;rw[ze,Dm];refine Ht c _ ?_;rw[<-Dm];exact aq.mpr h
theorem MJ:∀{l m:dQ},(∀i,l.getD i 0=m.getD i 0)->dO l=dO m:=by
 intro l;induction l with
 |nil=>
  intro m;induction m with
  |nil=>intro _;rfl
  |cons b m A=>
   intro h;have d:(0:Int)=b:=by simpa using h 0
   subst d;have e:=A fun i=>by simpa using h (i+1)
   refine PF.ext fun x=> ?_;rw[fJ,<-e];show(0:Rat)=((0:Int):Rat)+x*0;grind
 |cons a l A=>
  intro m h;cases m with
  |nil=>
   have d:a=0:=by simpa using h 0
   subst d;have e:=A (m:=[]) fun i=>by simpa using h (i+1)
   refine PF.ext fun x=> ?_;rw[fJ,e];show((0:Int):Rat)+x*0=0;grind
  |cons b m=>
   have d:a=b:=by simpa using h 0
   subst d;have e:=A (m:=m) fun i=>by simpa using h (i+1)
   exact PF.ext fun x=>by rw[fJ,fJ,e]
theorem sZ (c):dO (Mf c)=dO c:=MJ (ze c)
theorem iE{l:dQ}(h:Trim l):dO l=0↔l=[]:=
 ⟨fun e=>y8 h zh e,fun e=>by subst e;rfl⟩
theorem MK (x):∀l r:dQ,(dO (ja l r)).f x=(dO l).f x+(dO r).f x
 |[],r=>by
  show(dO r).f x=0+(dO r).f x;grind
 |a::l,[]=>by
  show(dO (a::l)).f x=(dO (a::l)).f x+0;grind
 |a::l,b::r=>by
  show(dO ((a+b)::ja l r)).f x=_;rw[fJ,fJ,fJ,MK x l r,Rat.intCast_add];grind
theorem zj (l r):dO (ja l r)=dO l+dO r:=PF.ext fun x=>by rw[MK,PF.Za]
theorem jt:∀(l r:dQ) (i:Nat),(ja l r).getD i 0=l.getD i 0+r.getD i 0
 |[],r,i=>by
  show r.getD i 0=([]:dQ).getD i 0+r.getD i 0;simp
 |a::l,[],i=>by
  show(a::l).getD i 0=(a::l).getD i 0+([]:dQ).getD i 0;simp
 |a::l,b::r,0=>rfl
 |a::l,b::r,i+1=>by
  show(ja l r).getD i 0=l.getD i 0+r.getD i 0;exact jt l r i
theorem lh:∀l r:dQ,(ja l r).length=max l.length r.length
 |[],r=>by
  show r.length=max 0 r.length;lia
 |a::l,[]=>by
  show(a::l).length=max (a::l).length 0;lia
 |a::l,b::r=>by
  show(ja l r).length+1=max (l.length+1) (r.length+1);rw[lh l r];lia
theorem KP (l r):dO (Gm l r)=dO l+dO r:=by unfold Gm;rw[sZ,zj]
theorem QJ (l r):Trim (Gm l r):=kZ _
theorem zm (l):dO (mP l)= - dO l:=PF.ext fun x=>by
 rw[PF.Zb];induction l with
 |nil=>show(0:Rat)= - 0;grind
 |cons a l d=>
  show(dO (-a::mP l)).f x=_;rw[fJ,d,fJ,Rat.intCast_neg];grind
theorem jM (l):(mP l).length=l.length:=by unfold mP;simp
theorem kg (f:Int->Int)(d:f 0=0)(l:dQ)(i):(l.map f).getD i 0=f (l.getD i 0):=by
 rw[gDe,gDe,aD];cases l[i]? with
 |none=>exact d.symm
 |some v=>rfl
theorem Sx(f:Int->Int)(A:f 0=0)(h:∀x,x≠0->f x≠0){l:dQ}(t:Trim l):Trim (l.map f):=by
 rw[fQ] at t⊢;intro d;unfold lc;rw[kg f A,lMp];exact h _ (t fun e=>d (by rw[e];rfl))
theorem vo{l:dQ}(t:Trim l):Trim (mP l):=Sx _ (by lia) (fun x h=>by lia) t
theorem vq (l r):dO (wI l r)=dO l - dO r:=by
 unfold wI;rw[KP,zm];grind
theorem Ba (l r):Trim (wI l r):=kZ _
theorem we (x):dO (cst x)=PF.const (x:Rat):=by
 unfold cst;refine PF.ext fun y=> ?_;split
 ·rename_i e;subst e;show(0:Rat)=((0:Int):Rat);grind
 ·rw[fJ];show(x:Rat)+y*0=(x:Rat);grind
theorem Dn (a)(x):∀q:dQ,(dO (q.map fun y=>a*y)).f x=(a:Rat)*(dO q).f x
 |[]=>by
  show(0:Rat)=(a:Rat)*0;grind
 |b::q=>by
  show(dO (a*b::q.map fun y=>a*y)).f x=_;rw[fJ,Dn a x q,fJ,Rat.intCast_mul];grind
theorem mZ (a)(q:dQ):dO (q.map fun y=>a*y)=PF.const (a:Rat)*dO q:=PF.ext fun x=>Dn a x q
theorem Sy (x):∀l r:dQ,(dO (mulL l r)).f x=(dO l).f x*(dO r).f x
 |[],r=>by
  show(0:Rat)=0*(dO r).f x;grind
 |a::l,r=>by
  show(dO (ja (r.map fun y=>a*y) (0::mulL l r))).f x=_;rw[MK,Dn,fJ,Sy x l r,fJ];grind
theorem jT (l r):dO (mulL l r)=dO l*dO r:=PF.ext fun x=>Sy x l r
theorem iX:∀(l r:dQ),l≠[]->r≠[]->(mulL l r).length=l.length+r.length - 1
 |[],_,h,_=>absurd rfl h
 |a::[],r,_,d=>by
  show(ja (r.map fun y=>a*y) [0]).length=1+r.length - 1;rw[lh,lMp];have:0<r.length:=aq.mpr d;show max r.length 1=_;lia
 |a::b::l,r,_,d=>by
  have A:=iX (b::l) r (by simp) d;show(ja (r.map fun y=>a*y) (0::mulL (b::l) r)).length=_;rw[lh,lMp,ak,A];have:0<r.length:=aq.mpr d;simp only[ak];lia
theorem OV:∀(l r:dQ),l≠[]->r≠[]->lc (mulL l r)=lc l*lc r
 |[],_,h,_=>absurd rfl h
 |a::[],r,A,d=>by
  unfold lc;rw[iX _ r A d];show(ja (r.map fun y=>a*y) [0]).getD _ 0=a*r.getD (r.length - 1) 0;rw[jt,kg _ (by lia)];have e:([a].length+r.length - 1 - 1)=r.length - 1:=by simp only[ak,bT];lia
  rw[e];have z:([0]:dQ).getD (r.length - 1) 0=0:=by
   cases r.length - 1 <;>simp
  rw[z];lia
 |a::b::l,r,A,d=>by
  have i:=OV (b::l) r (by simp) d;have n:=iX (b::l) r (by simp) d;have f:0<r.length:=aq.mpr d;unfold lc at i⊢;rw[iX _ r A d];show(ja (r.map fun y=>a*y) (0::mulL (b::l) r)).getD _ 0=_;rw[jt,kg _ (by lia)];have e:((a::b::l).length+r.length - 1 - 1)=(mulL (b::l) r).length - 1+1:=by rw[n];simp only[ak];lia
  rw[e];have z:r.getD ((mulL (b::l) r).length - 1+1) 0=0:=by
   rw[gDe,aO (by rw[n];simp only[ak];lia)];rfl
  rw[z];show a*0+(mulL (b::l) r).getD ((mulL (b::l) r).length - 1) 0=_;rw[i];show a*0+_=(b::l).getD (b::l).length.pred 0*_;simp
theorem l9 (l r):dO (iQ l r)=dO l*dO r:=by
 unfold iQ;split
 ·rename_i h;rcases h with h |h
  ·subst h;show(0:PF)=0*dO r;grind
  ·subst h;show(0:PF)=dO l*0;grind
 ·exact jT l r
theorem wg{l r:dQ}(f:Trim l)(i:Trim r):Trim (iQ l r):=by
 unfold iQ;split
 ·exact zh
 ·rename_i h;have A:l≠[]:=fun e=>h (.inl e);have d:r≠[]:=fun e=>h (.inr e);rw[fQ];intro _;rw[OV l r A d];exact Int.mul_ne_zero (fQ.mp f A) (fQ.mp i d)
theorem DX{l r:dQ}(A:l≠[])(d:r≠[]):(iQ l r).length=l.length+r.length - 1:=by
 unfold iQ;rw[ah (fun h=>h.elim A d),iX l r A d]
theorem QK (n)(f:Nat->Int)(i):((List.range n).map f).getD i 0=if i<n then f i else 0:=by
 rw[gDe,aD];by_cases h:i<n
 ·rw[ai h,bB h];rfl
 ·rw[ah h,aO (by simpa using h)];rfl
theorem jA:∀(m:dQ) (c:Int) (r:dQ) (i:Nat),(mulL (m ++ [c]) r).getD i 0=(mulL m r).getD i 0+(if m.length<=i then c*r.getD (i - m.length) 0 else 0)
 |[],c,r,i=>by
  show(ja (r.map fun y=>c*y) [0]).getD i 0=0+_;rw[jt,kg _ (by lia),ai (show([]:dQ).length<=i from aR _)];have z:([0]:dQ).getD i 0=0:=by cases i <;>simp
  rw[z];simp
 |a::m,c,r,0=>by
  show(ja (r.map fun y=>a*y) (0::mulL (m ++ [c]) r)).getD 0 0=(ja (r.map fun y=>a*y) (0::mulL m r)).getD 0 0+_;rw[jt,jt,ah (by simp)];simp
 |a::m,c,r,i+1=>by
  show(ja (r.map fun y=>a*y) (0::mulL (m ++ [c]) r)).getD (i+1) 0=(ja (r.map fun y=>a*y) (0::mulL m r)).getD (i+1) 0+_;rw[jt,jt];show _+ (mulL (m ++ [c]) r).getD i 0=_+ (mulL m r).getD i 0+_;rw[jA m c r i];simp only[ak,Nat.add_le_add_iff_right,Nat.add_sub_add_right];lia
theorem Bb:∀(m:dQ) (r:dQ) (i:Nat),r≠[]->m.length+r.length - 1<=i->(mulL m r).getD i 0=0
 |[],r,i,_,_=>by
  show([]:dQ).getD i 0=0;simp
 |a::m,r,i,d,h=>by
  have n:=iX (a::m) r (by simp) d;rw[gDe,aO (by lia)];rfl
theorem pP (m:dQ)(t)(h:t<m.length):m.take (t+1)=m.take t ++ [m.getD t 0]:=by
 rw[bo,af h,gDe,af h];rfl
theorem KQ (r:dQ)(d:r≠[])(l:lc r≠0)(m):∀(t:Nat) (rest:dQ),t<=m.length->(∀i,rest.getD i 0=(mulL (m.take t) r).getD i 0)->t+r.length - 1<=rest.length->OT r t rest (m.drop t)=m
 |0,rest,_,_,_=>by
  show m.drop 0=m;rfl
 |t+1,rest,w,h,b=>by
  have a:0<r.length:=aq.mpr d;have k:m.take (t+1)=m.take t ++ [m.getD t 0]:=pP m t (by lia);have A:(m.take t).length=t:=by rw[aP];lia
  have v:(rest.getD (t+r.length - 1) 0).fdiv (lc r)=m.getD t 0:=by
   rw[h,k,jA,A,Bb (m.take t) r _ d (by rw[A];exact aj _),ai (zUp a)];have e:t+r.length - 1 - t=r.length - 1:=by lia
   rw[e];show(0+m.getD t 0*lc r).fdiv (lc r)=_;rw[Int.zero_add,c5 _ l]
  show OT r t ((List.range rest.length).map fun i=>rest.getD i 0 - (if t<=i/\i<t+r.length then(rest.getD (t+r.length - 1) 0).fdiv (lc r)*r.getD (i - t) 0 else 0)) ((rest.getD (t+r.length - 1) 0).fdiv (lc r)::m.drop (t+1))=m;rw[v];have x:m.getD t 0::m.drop (t+1)=m.drop t:=by
   rw[gDe,af (by lia:t<m.length)];exact(cY (by lia)).symm
  rw[x];refine KQ r d l m t _ (by lia) (fun i=> ?_) (by rw[lMp,a5];lia);rw[QK];by_cases f:i<rest.length
  ·rw[ai f,h,k,jA,A];by_cases q:t<=i
   ·rw[ai q];by_cases B:i<t+r.length
    ·rw[ai ⟨q,B⟩];lia
    ·rw[ah (fun z=>B z.2)];have:r.getD (i - t) 0=0:=by rw[gDe,aO (by lia)];rfl
     rw[this];lia
   ·rw[ah q,ah (fun z=>q z.1)];lia
  ·rw[ah f];exact(Bb (m.take t) r i d (by rw[A];lia)).symm
theorem OW{l r m:dQ}(f:Trim l)(k:Trim r)(x:Trim m)(A:r≠[])(h:dO l=dO m*dO r):Sw l r=m:=by
 by_cases q:m=[]
 ·subst q;have e:l=[]:=(iE f).mp (by rw[h];show(0:PF)*_=0;grind);unfold Sw;rw[ai e]
 ·have B:l=mulL m r:=by
   have t:Trim (mulL m r):=by
    have:=wg x k;unfold iQ at this
    rwa [ah (fun h=>h.elim q A)] at this
   exact y8 f t (by rw[h,jT])
  have n:=iX m r q A;have v:0<m.length:=aq.mpr q;have w:0<r.length:=aq.mpr A;unfold Sw;rw[ah (fun e=>by rw[B] at e;have:=congrArg List.length e;rw[n] at this;simp at this;lia),B,n];have e:m.length+r.length - 1 - r.length+1=m.length:=by lia
  rw[e];have d:=KQ r A (fQ.mp k A) m m.length (mulL m r) (aj _) (fun i=>by rw[aQ]) (by lia);rw[List.drop_length] at d;exact d
end di
namespace di
open Wh
open Lean.Grind
noncomputable def ib(l:dQ):Nat:=(l.map Int.natAbs).sum
structure Bd(f:PF)(d B:Nat):Prop where
 ex:∃l:dQ,Trim l/\dO l=f/\l.length<=d+1/\ib l<=B
def lj(f:PF):Prop:=∃l:dQ,Trim l/\dO l=f
theorem wj(l:dQ):lj (dO l):=⟨Mf l,kZ l,sZ l⟩
theorem QL:lj 0:=wj []
theorem DY:lj 1:=by
 have e:dO [1]=1:=PF.ext fun x=>by
  rw[fJ];show((1:Int):Rat)+x*0=((1:Nat):Rat);grind
 exact e▸wj [1]
theorem lj.add (d:lj f)(A:lj g):lj (f+g):=by
 obtain⟨l,_,rfl⟩:=d;obtain⟨m,_,rfl⟩:=A;exact zj l m▸wj _
theorem lj.mul (d:lj f)(A:lj g):lj (f*g):=by
 obtain⟨l,_,rfl⟩:=d;obtain⟨m,_,rfl⟩:=A;exact jT l m▸wj _
theorem lj.neg (d:lj f):lj (- f):=by
 obtain⟨l,_,rfl⟩:=d;exact zm l▸wj _
theorem lj.sub (d:lj f)(A:lj g):lj (f - g):=by
 have e:f - g=f+ - g:=by grind
 rw[e];exact d.add A.neg
theorem Vl (i):lj (sg i):=by
 unfold sg;split
 ·exact DY
 ·exact DY.neg
theorem Bc:∀(n:Nat) {f:Nat->PF},(∀i,i<n->lj (f i))->lj (eV n f)
 |0,_,_=>QL
 |n+1,f,h=>(Bc n fun i d=>h i (by lia)).add (h n (by lia))
theorem DZ:∀(n:Nat) {A:Nat->Nat->PF},(∀i j,i<n->j<n->lj (A i j))->lj (det n A)
 |0,_,_=>DY
 |n+1,A,h=>by
  rw[gG];refine Bc _ fun i d=>(Vl i).mul ((h i 0 d (by lia)).mul (DZ n fun a b l f=>h _ _ (yZ l) (by lia)))
noncomputable def ent(t:List kf)(i j:Nat):dQ:=(t.getD i []).getD j []
structure Tab(n:Nat)(t:List kf):Prop where
 len:t.length=n
 row:∀i,i<n->(t.getD i []).length=n+1
 trim:∀i j,i<n->j<n+1->Trim (ent t i j)
def uJ(t:List kf):Nat->Nat->PF:=fun i j=>dO (ent t i j)
structure Ord(n:Nat)(σ:Nat->Nat)(ε:PF):Prop where
 lt:∀i,i<n->σ i<n
 SA:∀i,i<n->∃a,a<n/\σ a=i
 sgn:ε=1\/ε= -1
 det:∀F:Nat->Nat->PF,det n (fun i j=>F (σ i) j)=ε*det n F
theorem Ord.id (n):Ord n (fun i=>i) 1:=⟨fun i h=>h,fun i h=>⟨i,h,rfl⟩,.inl rfl,fun F=>by grind⟩
theorem Zc (r t i):sw r t (sw r t i)=i:=by
 unfold sw
 repeat' split
 all_goals lia
theorem qQ (A:r<n)(d:t<n)(hi:i<n):sw r t i<n:=by
 unfold sw
 repeat' split
 all_goals lia
theorem vv (A:Nat->Nat->R)(r t):hZ A r t=fun i j=>A (sw r t i) j:=by
 funext i j;show(if i=r then A t j else if i=t then A r j else A i j)=A (if i=r then t else if i=t then r else i) j;by_cases q:i=r
 ·rw[ai q,ai q]
 ·rw[ah q,ah q];by_cases d:i=t
  ·rw[ai d,ai d]
  ·rw[ah d,ah d]
theorem Ord.swap (o:Ord n σ ε)(r t)(l:r<n)(A:t<n):∃ε',Ord n (fun i=>σ (sw r t i)) ε':=by
 have lt:∀i,i<n->σ (sw r t i)<n:=fun i f=>o.lt _ (qQ l A f);have B:∀i,i<n->∃a,a<n/\σ (sw r t a)=i:=fun i f=>by
  obtain⟨a,k,e⟩:=o.SA i f;exact⟨sw r t a,qQ l A k,by rw[Zc];exact e⟩
 by_cases q:r=t
 ·subst q;refine⟨ε,lt,B,o.sgn,fun F=> ?_⟩;have e:∀i,sw r r i=i:=fun i=>by
   unfold sw
   repeat' split
   all_goals lia
  simp only[e];exact o.det F
 ·refine⟨-ε,lt,B,?_,fun F=> ?_⟩
  ·rcases o.sgn with e |e
   ·exact .inr (by rw[e])
   ·exact .inl (by rw[e];grind)
  ·have d:=Sn n (fun i j=>F (σ i) j) r t l A q;rw[vv] at d;rw[d,o.det F];grind
theorem Ord.ne (o:Ord n σ ε):ε*ε=1:=by
 rcases o.sgn with e |e <;>rw[e] <;>grind
theorem Xu:(1:PF)≠0:=fun e=>by
 have A:(1:PF).f 0=(0:PF).f 0:=by rw[e]
 have d:(1:Rat)=0:=A;exact absurd d (by decide)
theorem KR (t:List kf)(i a)(r)(h:i<t.length):(t.set i r).getD a []=if a=i then r else t.getD a []:=by
 rw[gDe,gDe,cS];by_cases q:i=a
 ·subst q;rw[ai rfl,ai h,ai rfl];rfl
 ·rw[ah q,ah (b5 q)]
theorem Dp (t)(c k a)(A:c<t.length)(l:k<t.length):(o9 t c k).getD a []=t.getD (sw c k a) []:=by
 unfold o9;rw[KR _ _ _ _ (by rw[cA];exact l),KR _ _ _ _ A];unfold sw;by_cases q:a=k
 ·subst q;rw[ai rfl];by_cases d:a=c
  ·subst d;rw[ai rfl]
  ·rw[ah d,ai rfl]
 ·rw[ah q];by_cases d:a=c
  ·rw[ai d,ai d]
  ·rw[ah d,ah d,ah q]
theorem qR {α:Type}(n)(f:Nat->α)(i)(d)(h:i<n):((List.range n).map f).getD i d=f i:=by
 rw[gDe,aD,bB h];rfl
theorem IY (t)(k)(before)(i j)(hi:i<t.length)(d:j<(t.getD i []).length):
  ent (A9 t k before) i j=if i=k then ent t k j else if k<j then Sw (wI (iQ (ent t k k) (ent t i j)) (iQ (ent t i k) (ent t k j))) before else ent t i j:=by
 unfold ent A9;rw[qR _ _ _ _ hi];by_cases q:i=k
 ·rw[ai q,ai q]
 ·rw[ah q,ah q];unfold mX;rw[qR _ _ _ _ d]
theorem OX (t)(k)(before)(i)(hi:i<t.length):((A9 t k before).getD i []).length=(t.getD i []).length:=by
 unfold A9;rw[qR _ _ _ _ hi];by_cases q:i=k
 ·rw[ai q,q]
 ·rw[ah q];unfold mX;simp
structure Yi(n k:Nat)(A:Nat->Nat->PF)(t:List kf)(before:dQ)(σ:Nat->Nat)(ε:PF):Prop where
 tab:Tab n t
 ord:Ord n σ ε
 KS:Trim before
 Gn:dO before=mk (fun i j=>A (σ i) j) k
 ne:mk (fun i j=>A (σ i) j) k≠0
 up:∀i j,i<k->k<=j->j<n+1->dO (ent t i j)=mc (fun i j=>A (σ i) j) k i j
 low:∀i j,k<=i->i<n->k<=j->j<n+1->dO (ent t i j)=ti (fun i j=>A (σ i) j) k i j
theorem Hu(n:Nat)(t:List kf)(h:Tab n t):Yi n 0 (uJ t) t [1] (fun i=>i) 1 where
 tab:=h
 ord:=Ord.id n
 KS:=by unfold Trim;simp
 Gn:=by
  show dO [1]=(1:PF);refine PF.ext fun x=> ?_;rw[fJ];show((1:Int):Rat)+x*0=((1:Nat):Rat);grind
 ne:=Xu
 up:=fun i j d=>by lia
 low:=fun i j _ _ _ _=>by
  show dO (ent t i j)=(1:PF)*uJ t i j - 0;unfold uJ;grind
theorem KU (hA:∀i j,i<n->j<n+1->lj (A i j))(w:k<n)(S:Yi n k A t before σ ε)(c)(P:k<=c)(u:c<n)(hp:ent t c k≠[]):
  ∃ε',Yi n (k+1) A (A9 (o9 t c k) k before) (ent t c k) (fun i=>σ (sw c k i)) ε':=by
 obtain⟨ε',o'⟩:=S.ord.swap c k u w;refine⟨ε',?_⟩;have K:(fun i j=>A (σ (sw c k i)) j)=hZ (fun i j=>A (σ i) j) c k:=(vv (fun i j=>A (σ i) j) c k).symm;have tl:=S.tab.len;have sl:(o9 t c k).length=n:=by unfold o9;rw[cA,cA];exact tl
 have r:∀a,(o9 t c k).getD a []=t.getD (sw c k a) []:=fun a=>Dp t c k a (by lia) (by lia);have F:∀a j,ent (o9 t c k) a j=ent t (sw c k a) j:=fun a j=>by unfold ent;rw[r]
 have D:sw c k k=c:=by
  unfold sw
  repeat' split
  all_goals lia
 have g:∀i,i<k->sw c k i=i:=fun i x=>by unfold sw;rw[ah (by lia),ah (by lia)]
 have I:∀i,k<=i->k<=sw c k i:=fun i x=>by
  unfold sw
  repeat' split
  all_goals lia
 have X:mk (fun i j=>A (σ (sw c k i)) j) k=mk (fun i j=>A (σ i) j) k:=by rw[K];exact IU _ k c k P (aj _)
 have ab:∀i j,mc (fun i j=>A (σ (sw c k i)) j) k i j=mc (fun i j=>A (σ i) j) k i j:=fun i j=>by rw[K];exact IV _ k c k i j P (aj _)
 have R:∀i j,ti (fun i j=>A (σ (sw c k i)) j) k i j=ti (fun i j=>A (σ i) j) k (sw c k i) j:=fun i j=>by rw[K];exact OR _ k c k i j P (aj _)
 have T:∀i j,i<k->k<=j->j<n+1->dO (ent (o9 t c k) i j)=mc (fun i j=>A (σ (sw c k i)) j) k i j:=fun i j x v l=>by rw[F,g i x,S.up i j x v l,ab]
 have C:∀i j,k<=i->i<n->k<=j->j<n+1->dO (ent (o9 t c k) i j)=ti (fun i j=>A (σ (sw c k i)) j) k i j:=fun i j x h v l=>by
  rw[F,S.low _ j (I i x) (qQ u w h) v l,R]
 have W:∀i j,i<n->j<n+1->Trim (ent (o9 t c k) i j):=fun i j x v=>by rw[F];exact S.tab.trim _ j (qQ u w x) v
 generalize M:(fun i j=>A (σ (sw c k i)) j)=B at *;have s:∀i j,i<n->j<n+1->lj (B i j):=fun i j x v=>by rw[<-M];exact hA _ j (S.ord.lt _ (qQ u w x)) v
 have wc:Reg (mk B k):=PF.wc (by rw[X];exact S.ne);have G:dO (ent t c k)=mk B (k+1):=by
  have e:=C k k (aj _) w (aj _) (by lia);rw[F,D] at e;rw[e,DV B k wc]
 have Q:mk B (k+1)≠0:=fun z=>hp ((iE (S.tab.trim c k u (by lia))).mp (G.trans z));have p:Reg (mk B (k+1)):=PF.wc Q;have bne:before≠[]:=fun z=>by
  have:=S.Gn;rw[z] at this;exact S.ne this.symm
 have ac:dO (ent (o9 t c k) k k)=mk B (k+1):=by rw[F,D];exact G
 have J:lj (mk B (k+1)):=DZ _ fun i j x v=>s i j (by lia) (by lia);have E:∀i j,i<k+1->j<n+1->lj (mc B (k+1) i j):=fun i j x v=>DZ _ fun a b ha hb=>by
  show lj (if b=i then B a j else B a b);split
  ·exact s a j (by lia) v
  ·exact s a b (by lia) (by lia)
 have O:∀i j,i<n->j<n+1->lj (ti B (k+1) i j):=fun i j x v=>(J.mul (s i j x v)).sub (Bc _ fun d hd=>(s i d x (by lia)).mul (E d j hd v));have dv:∀i j f,i<n->k<j->j<n+1->i≠k->lj f->mk B (k+1)*dO (ent (o9 t c k) i j) - dO (ent (o9 t c k) i k)*dO (ent (o9 t c k) k j)=mk B k*f->∃m,Trim m/\dO m=f/\ent (A9 (o9 t c k) k before) i j=m:=fun i j f x v l aa hf e=>by
  obtain⟨m,o,H⟩:=hf;refine⟨m,o,H,?_⟩;rw[IY _ _ _ _ _ (by lia) (by rw[r,S.tab.row _ (qQ u w x)];exact l),ah aa,ai v];refine OW (Ba _ _) S.KS o bne ?_;rw[vq,l9,l9,ac,e,H,S.Gn,<-X];grind
 have N:∀i j,i<k+1->k+1<=j->j<n+1->Trim (ent (A9 (o9 t c k) k before) i j)/\dO (ent (A9 (o9 t c k) k before) i j)=mc B (k+1) i j:=fun i j x v l=>by
  by_cases q:i=k
  ·subst q;rw[IY _ _ _ _ _ (by lia) (by rw[r,S.tab.row _ (qQ u w w)];exact l),ai rfl];exact⟨W _ j w l,by rw[C _ j (aj _) w (by lia) l,OP B _ j wc p]⟩
  ·obtain⟨m,o,H,e⟩:=dv i j (mc B (k+1) i j) (by lia) (by lia) l q (E i j x l) (by
    rw[T i j (by lia) (by lia) l,T i k (by lia) (aj _) (by lia),C k j (aj _) w (by lia) l];exact(Dh B k j wc p i (by lia)).1)
   rw[e];exact⟨o,H⟩
 have y:∀i j,k+1<=i->i<n->k+1<=j->j<n+1->Trim (ent (A9 (o9 t c k) k before) i j)/\dO (ent (A9 (o9 t c k) k before) i j)=ti B (k+1) i j:=fun i j x h v l=>by
  obtain⟨m,o,H,e⟩:=dv i j (ti B (k+1) i j) h (by lia) l (by lia) (O i j h l) (by
   rw[C i j (by lia) h (by lia) l,C i k (by lia) h (aj _) (by lia),C k j (aj _) w (by lia) l];exact OQ B k i j wc p)
  rw[e];exact⟨o,H⟩
 have cl:(A9 (o9 t c k) k before).length=n:=by unfold A9;rw[lMp,a5];exact sl
 subst M;refine⟨⟨cl,fun i x=>by rw[OX _ _ _ _ (by lia),r,S.tab.row _ (qQ u w x)],fun i j x v=> ?_⟩,o',S.tab.trim c k u (by lia),G,Q,fun i j x v l=>(N i j x v l).2,fun i j x h v l=>(y i j x h v l).2⟩;by_cases q:k+1<=j
 ·by_cases L:i<k+1
  ·exact(N i j L q v).1
  ·exact(y i j (by lia) x q v).1
 ·rw[IY _ _ _ _ _ (by lia) (by rw[r,S.tab.row _ (qQ u w x)];exact v)];by_cases L:i=k
  ·rw[ai L];exact W k j w v
  ·rw[ah L,ah (by lia)];exact W i j x v
theorem tj (t)(k):∀(f c:Nat),f<=t.length->pK t k f=some c->t.length - f<=c/\c<t.length/\ent t c k≠[]
 |0,c,_,h=>by cases h
 |f+1,c,l,h=>by
  unfold pK at h;dsimp only at h;split at h
  ·rename_i e;cases h;exact⟨aj _,by lia,e⟩
  ·obtain⟨i,d,A⟩:=tj t k f c (by lia) h;exact⟨by lia,d,A⟩
theorem D6 (t)(k):∀(f:Nat),f<=t.length->pK t k f=none->∀i,t.length - f<=i->i<t.length->ent t i k=[]
 |0,_,_,i,A,d=>by lia
 |f+1,l,h,i,A,d=>by
  unfold pK at h;dsimp only at h;split at h
  ·cases h
  ·rename_i e;by_cases q:i=t.length - (f+1)
   ·rw[q];exact cT.mp e
   ·exact D6 t k f (by lia) h i (by lia) d
structure Sol(n:Nat)(A:Nat->Nat->PF)(d:dQ)(tops:List dQ):Prop where
 len:tops.length=n
 D7:Trim d
 Yj:d≠[]
 trim:∀c,c<n->Trim (tops.getD c [])
 sgn:∃ε:PF,(ε=1\/ε= -1)/\dO d=ε*det n A/\∀c,c<n->dO (tops.getD c [])=ε*det n (fD A c fun i=>A i n)
theorem KW (H:∀i j,i<n->j<n+1->lj (A i j)):∀(f k:Nat) (t:List kf) (before:dQ) (σ:Nat->Nat) (ε:PF),f+k=n->Yi n k A t before σ ε->
  (∃d v,y9 f k t before=some (d,v)/\Sol n A d v)\/(y9 f k t before=none/\det n A=0/\∃x:Nat->PF,(∃j,j<n/\x j≠0)/\∀i,i<n->eV n (fun d=>A i d*x d)=0)
 |0,k,t,before,σ,ε,F,S=>by
  have w:k=n:=by lia
  subst w;refine .inl ⟨_,_,rfl,?_⟩;have b:=S.tab.len;have C:∀c,c<k->(t.map fun r=>r.getD (r.length - 1) []).getD c []=ent t c k:=fun c B=>by
   have h:=S.tab.row c B;unfold ent;rw[gDe,aD,af (by lia)];rw[gDe,af (by lia)] at h;rw[gDe (l:=t),af (by lia)];simp only[Option.map_some,cW] at h⊢;rw[h];rfl
  refine⟨by rw[lMp];exact b,S.KS,fun z=>S.ne (by rw[<-S.Gn,z];rfl),fun c B=>by rw[C c B];exact S.tab.trim c k B (by lia),ε,S.ord.sgn,?_,fun c B=> ?_⟩
  ·rw[S.Gn];exact S.ord.det A
  ·rw[C c B,S.up c k B (aj _) (by lia)];exact S.ord.det (fD A c fun i=>A i k)
 |f+1,k,t,before,σ,ε,F,S=>by
  have w:k<n:=by lia
  have b:=S.tab.len;unfold y9;cases e:pK t k (t.length - k) with
  |some c=>
   obtain⟨I,L,y⟩:=tj t k _ c (by lia) e;obtain⟨ε',m⟩:=KU H w S c (by lia) (by lia) y;exact KW H f (k+1) _ _ _ ε' (by lia) m
  |none=>
   refine .inr ⟨rfl,?_⟩;have z:=D6 t k _ (by lia) e;have wc:Reg (mk (fun i j=>A (σ i) j) k):=PF.wc S.ne;have p:=Ss (fun i j=>A (σ i) j) n k w wc fun i q u=>by
    rw[<-S.low i k q u (aj _) (by lia),z i (by lia) (by lia)];rfl
   refine⟨?_,fun d=>if d<k+1 then(if d=k then mk (fun i j=>A (σ i) j) k else - mc (fun i j=>A (σ i) j) k d k) else 0,⟨k,w,?_⟩,fun i q=> ?_⟩
   ·have d:=S.ord.det A;rw[p.2] at d;have o:=S.ord.ne;grind
   ·dsimp only;rw[ai (by lia),ai rfl];exact S.ne
   ·obtain⟨a,P,G⟩:=S.ord.SA i q;have s:=p.1 a P;rw[G] at s;exact s
theorem ML (h:Tab n t):
  (∃d A,sol t=some (d,A)/\Sol n (uJ t) d A)\/(sol t=none/\det n (uJ t)=0/\∃x:Nat->PF,(∃j,j<n/\x j≠0)/\∀i,i<n->eV n (fun d=>uJ t i d*x d)=0):=by
 unfold sol;rw[h.len];exact KW (fun i j _ _=>wj _) n 0 t [1] _ 1 rfl (Hu n t h)
end di
namespace di
open Wh
open Lean.Grind
open Wh (valueAt addPoly scalePoly mulPoly)
theorem MN (x):∀(n:Nat) (f:Nat->PF),(eV n f).f x=eV n fun i=>(f i).f x
 |0,_=>rfl
 |n+1,f=>by
  show(eV n f).f x+(f n).f x=_;rw[MN x n f];rfl
theorem Zd (x)(i):(sg i:PF).f x=sg i:=by
 unfold sg;split <;>rfl
theorem KY (x):∀(n:Nat) (A:Nat->Nat->PF),(det n A).f x=det n fun i j=>(A i j).f x
 |0,_=>rfl
 |n+1,A=>by
  rw[gG,gG,MN];refine e7 _ fun i _=> ?_;rw[PF.Su,PF.Su,Zd,KY x n];rfl
noncomputable def Wr(l:List (List Rat)):Nat->Nat->Rat:=fun i j=>(l.getD i []).getD j 0
theorem Cm [CommRing R](n)(A:Nat->Nat->R)(p)(l:p<n)(c:Nat->R):∀m,m<=n->det n (fun i j=>if i<m/\i≠p then A i j+c i*A p j else A i j)=det n A
 |0,_=>fh n fun i j _ _=>ah (by lia)
 |m+1,f=>by
  rw[<-Cm n A p l c m (by lia)];by_cases q:m=p
  ·refine fh n fun i j _ _=> ?_;by_cases e:i<m+1/\i≠p
   ·rw[ai e,ai (by lia)]
   ·rw[ah e,ah (by lia)]
  ·have r:=MH n (fun i j=>if i<m/\i≠p then A i j+c i*A p j else A i j) m p (c m) (by lia) l q;rw[<-r];refine fh n fun i j _ _=> ?_;by_cases e:i=m
   ·subst e;rw[fH];rw[ai ⟨by lia,q⟩,ah (by lia),ah (by lia)]
   ·rw[fP e];by_cases d:i<m+1/\i≠p
    ·rw[ai d,ai (by lia)]
    ·rw[ah d,ah (by lia)]
theorem pQ(r:List Rat):r.headD 0=r.getD 0 0:=by cases r <;>rfl
theorem D8 (r:List Rat)(j):(r.drop 1).getD j 0=r.getD (j+1) 0:=by cases r <;>simp
theorem Hv (f:Rat->Rat->Rat)(a b)(j)(d:j<a.length)(A:j<b.length):(List.zipWith f a b).getD j 0=f (a.getD j 0) (b.getD j 0):=by
 rw[gDe,List.getElem?_zipWith,gDe,gDe,af d,af A];rfl
theorem KZ:∀(f:Nat) (l:List (List Rat)),l.length=f->(∀i,i<f->(l.getD i []).length=f)->detOf f l=det f (Wr l)
 |0,_,_,_=>rfl
 |f+1,l,m,w=>by
  unfold detOf;cases e:l.findIdx? fun r:List Rat=>decide (r.headD 0≠0) with
  |none=>
   dsimp only;refine(oS (f+1) (Wr l) 0 (by lia) fun i d=> ?_).symm;have h:=List.findIdx?_eq_none_iff.mp e (l.getD i []) (by
    rw[gDe,af (by lia)];exact bZ _)
   simp only[decide_eq_false_iff_not,cT] at h;show(l.getD i []).getD 0 0=0;rw[<-pQ];exact h
  |some i=>
   obtain⟨d,P,_⟩:=List.findIdx?_eq_some_iff_getElem.mp e;have v:(l.getD i []).headD 0≠0:=by
    rw[gDe,af d];simpa using P
   dsimp only;generalize k:l.getD i []=p at v⊢;have c:p.length=f+1:=by rw[<-k];exact w i (by lia)
   have t:∀j,Wr l i j=p.getD j 0:=fun j=>by show(l.getD i []).getD j 0=_;rw[k]
   rw[<-Cm (f+1) (Wr l) i (by lia) (fun a=> -((l.getD a []).headD 0 / p.headD 0)) (f+1) (aj _),gG,om (f+1) i (by lia)]
   ·have o:(sg i:Rat)=if i % 2=1 then -1 else 1:=by
     unfold sg;by_cases q:i % 2=1
     ·rw[ai q,ah (by lia)]
     ·rw[ah q,ai (by lia)]
    rw[o];refine congrArg _ ?_;rw[ah (by lia),t,pQ];refine congrArg _ ?_;have C:=KZ f ((l.eraseIdx i).map fun r:List Rat=>List.zipWith (fun x y:Rat=>x - r.headD 0 / p.headD 0*y) (r.drop 1) (p.drop 1)) (by
     rw[lMp,cU,ai d];lia) (fun a A=>by
     have B:a<(l.eraseIdx i).length:=by rw[cU,ai d];lia
     rw[gDe,aD,af B];simp only[Option.map_some,cW,List.length_zipWith,bJ];have F:=List.mem_of_mem_eraseIdx (bZ B);obtain⟨b,H,G⟩:=br F;have:=w b (by lia);rw[gDe,af H] at this;simp only[cW] at this;rw[<-G,this,c];lia)
    rw[<-pQ,C];refine fh f fun a b A H=> ?_;have B:a<(l.eraseIdx i).length:=by rw[cU,ai d];lia
    have s:skip i a<l.length:=by have:=yZ (i:=i) A;lia
    have S:(l.eraseIdx i)[a]=l[skip i a]:=by
     rw[List.getElem_eraseIdx];unfold skip;split <;>rfl
    have I:(l[skip i a]).length=f+1:=by
     have:=w (skip i a) (by lia);rw[gDe,af s] at this;exact this
    have n:l.getD (skip i a) []=l[skip i a]:=by rw[gDe,af s];rfl
    show(((l.eraseIdx i).map fun r:List Rat=>List.zipWith (fun x y:Rat=>x - r.headD 0 / p.headD 0*y) (r.drop 1) (p.drop 1)).getD a []).getD b 0=if skip i a<f+1/\skip i a≠i then Wr l (skip i a) (b+1)+ -((l.getD (skip i a) []).headD 0 / p.headD 0)*Wr l i (b+1) else Wr l (skip i a) (b+1);rw[ai ⟨by lia,OO i a⟩,gDe (l:=List.map _ _),aD,af B];simp only[Option.map_some,cW];rw[S,Hv _ _ _ _ (by rw[bJ];lia) (by rw[bJ];lia),D8,D8,t,n];show _=(l.getD (skip i a) []).getD (b+1) 0+_;rw[n];grind
   ·intro a A u;rw[ai ⟨A,u⟩,t,<-pQ];have:Wr l a 0=(l.getD a []).headD 0:=(pQ _).symm;rw[this];have z:(l.getD a []).headD 0+ -((l.getD a []).headD 0 / p.headD 0)*p.headD 0=0:=by
     have:=Rat.div_mul_cancel (a:=(l.getD a []).headD 0) v;grind
    rw[z];grind
theorem iG:∀(p:List Rat) (x:Rat),valueAt (trim p) x=valueAt p x:=by
 intro p x;have key:∀q:List Rat,valueAt ((q.dropWhile fun x:Rat=>decide (x=0)).reverse) x=valueAt q.reverse x:=by
  intro q;induction q with
  |nil=>rfl
  |cons a q A=>
   by_cases h:a=0
   ·rw[List.dropWhile_cons_of_pos (by simpa using h),A,List.reverse_cons];have app:∀(r:List Rat),valueAt (r ++ [0]) x=valueAt r x:=by
     intro r;induction r with
     |nil=>
      show(0:Rat)+x*0=0;grind
     |cons b r d=>
      show b+x*valueAt (r ++ [0]) x=b+x*valueAt r x;rw[d]
    rw[h,app]
   ·rw[List.dropWhile_cons_of_neg (by simpa using h)]
 unfold trim;rw[key,List.reverse_reverse]
theorem iH(p:List Rat):(trim p).length<=p.length:=by
 unfold trim;rw[cK];refine aB (List.Sublist.length_le (List.dropWhile_sublist _)) ?_;rw[cK];exact aj _
theorem zo:∀(p:List Rat) (a b:Rat),p≠[]->(mulPoly p [a,b]).length=p.length+1
 |[],_,_,h=>absurd rfl h
 |c::[],a,b,_=>rfl
 |c::d::p,a,b,_=>by
  have i:=zo (d::p) a b (by simp);show(addPoly [c*a,c*b] (0::mulPoly (d::p) [a,b])).length=_;have l:∀(u v:List Rat),(addPoly u v).length=max u.length v.length:=by
   intro u;induction u with
   |nil=>
    intro v;show v.length=max 0 v.length;lia
   |cons x u A=>
    intro v;cases v with
    |nil=>
     show(x::u).length=max (x::u).length 0;lia
    |cons y v=>
     show(addPoly u v).length+1=max (u.length+1) (v.length+1);rw[A v];lia
  rw[l,ak (a:=(0:Rat)),i];simp only[ak,bT];lia
noncomputable def IZ(i:Nat):List Nat->List Rat->List Rat:=fun d p=>d.foldl (fun(p:List Rat) (j:Nat)=>if j=i then p else mulPoly p [-(j:Rat) / ((i:Rat) - (j:Rat)),1 / ((i:Rat) - (j:Rat))]) p
theorem D9 (m i):basis m i=IZ i (List.range m) [1]:=rfl
theorem Ea (i):∀(d:List Nat) (p:List Rat),p≠[]->(IZ i d p).length=p.length+(d.filter fun j=>decide (j≠i)).length
 |[],p,_=>rfl
 |j::d,p,h=>by
  show(IZ i d (if j=i then p else mulPoly p _)).length=_;by_cases q:j=i
  ·rw[ai q,Ea i d p h,bu (by simpa using q)]
  ·have A:=zo p (-(j:Rat) / ((i:Rat) - (j:Rat))) (1 / ((i:Rat) - (j:Rat))) h;rw[ah q,Ea i d _ (by intro e;rw[e] at A;simp at A),A,bh (by simpa using q),ak];lia
theorem SD {j:Nat}(h:j≠i):(i:Rat) - (j:Rat)≠0:=fun e=>h (by
 have:(j:Rat)=(i:Rat):=by grind
 exact_mod_cast this)
theorem Hw (i):∀(d:List Nat) (p:List Rat),valueAt (IZ i d p) (i:Rat)=valueAt p (i:Rat)
 |[],_=>rfl
 |j::d,p=>by
  show valueAt (IZ i d (if j=i then p else mulPoly p _)) (i:Rat)=_;rw[Hw i d];by_cases q:j=i
  ·rw[ai q]
  ·rw[ah q,rE,dZ,dZ,jg];have:=SD q;have e: -(j:Rat) / ((i:Rat) - (j:Rat))+(i:Rat)*(1 / ((i:Rat) - (j:Rat))+(i:Rat)*0)=1:=by grind
   rw[e];grind
theorem Hx (i):∀(d:List Nat) (p:List Rat) (x:Rat),valueAt p x=0->valueAt (IZ i d p) x=0
 |[],_,_,h=>h
 |j::d,p,x,h=>by
  show valueAt (IZ i d (if j=i then p else mulPoly p _)) x=0;refine Hx i d _ x ?_;split
  ·exact h
  ·rw[rE,h];grind
theorem Eb (i k)(A:k≠i):∀(d:List Nat) (p:List Rat),k∈d->valueAt (IZ i d p) (k:Rat)=0
 |[],_,h=>by cases h
 |j::d,p,h=>by
  show valueAt (IZ i d (if j=i then p else mulPoly p _)) (k:Rat)=0;by_cases q:k=j
  ·subst q;rw[ah A];refine Hx i d _ _ ?_;rw[rE,dZ,dZ,jg];have:=SD A;have e: -(k:Rat) / ((i:Rat) - (k:Rat))+(k:Rat)*(1 / ((i:Rat) - (k:Rat))+(k:Rat)*0)=0:=by grind
   rw[e];grind
  ·exact Eb i k A d _ ((aL.mp h).resolve_left q)
theorem uK (i):∀m,i<m->((List.range m).filter fun j=>decide (j≠i)).length+1=m
 |0,h=>by lia
 |m+1,h=>by
  rw[bX,cj,aJ];by_cases q:m=i
  ·subst q;have e:(List.range m).filter (fun j=>decide (j≠m))=List.range m:=List.filter_eq_self.mpr fun a d=>by
    have:=aY.mp d;simp;lia
   rw[e,bu (by simp)];simp
  ·have:=uK i m (by lia);rw[bh (by simpa using q)];simp only[List.filter_nil,ak,bT];lia
theorem QM (h:i<m):(basis m i).length=m:=by
 rw[D9,Ea i _ _ (by simp)];have:=uK i m h;simp only[ak,bT];lia
theorem OY (x):∀(l:List (List Rat)) (acc:List Rat),valueAt (l.foldl addPoly acc) x=valueAt acc x+(l.map fun p=>valueAt p x).sum
 |[],acc=>by
  show valueAt acc x=valueAt acc x+0;grind
 |p::l,acc=>by
  show valueAt (l.foldl addPoly (addPoly acc p)) x=_;rw[OY x l,kN,aK,cJ];grind
theorem jU:∀(u v:List Rat),(addPoly u v).length=max u.length v.length:=by
 intro u;induction u with
 |nil=>
  intro v;show v.length=max 0 v.length;lia
 |cons x u d=>
  intro v;cases v with
  |nil=>
   show(x::u).length=max (x::u).length 0;lia
  |cons y v=>
   show(addPoly u v).length+1=max (u.length+1) (v.length+1);rw[d v];lia
theorem K1 (m):∀(l:List (List Rat)) (acc:List Rat),acc.length<=m->(∀p∈l,p.length<=m)->(l.foldl addPoly acc).length<=m
 |[],_,h,_=>h
 |p::l,acc,h,d=>by
  refine K1 m l (addPoly acc p) ?_ fun q A=>d q (ao _ A);rw[jU];have:=d p aC;lia
theorem vw (l):(through l).length<=l.length:=by
 unfold through;refine aB (iH _) (K1 l.length _ _ (aR _) fun p i=> ?_);obtain⟨y,A,rfl⟩:=aV.mp i;have d:y.2<l.length:=by
  have:=List.mem_zipIdx A;lia
 unfold scalePoly;rw[lMp,QM d];exact aj _
theorem Ec:∀(l:List Rat) (off k:Nat) (B:Nat->Rat),off<=k->k<off+l.length->(∀i,off<=i->i<off+l.length->i≠k->B i=0)->((l.zipIdx off).map fun y:Rat×Nat=>y.1*B y.2).sum=l.getD (k - off) 0*B k
 |[],off,k,B,x,A,_=>by simp at A;lia
 |a::l,off,k,B,x,A,f=>by
  rw[List.zipIdx_cons,aK,cJ];by_cases q:k=off
  ·subst q;have z:((l.zipIdx (k+1)).map fun y:Rat×Nat=>y.1*B y.2).sum=0:=by
    have all:∀(r:List (Rat×Nat)),(∀y∈r,B y.2=0)->(r.map fun y:Rat×Nat=>y.1*B y.2).sum=0:=by
     intro r;induction r with
     |nil=>intro _;rfl
     |cons y r d=>
      intro h;rw[aK,cJ,h y aC,d fun z v=>h z (ao _ v)];grind
    refine all _ fun y t=> ?_;have m:=List.mem_zipIdx t;exact f y.2 (by lia) (by simp only[ak];lia) (by lia)
   rw[z];simp only[cX];show a*B k+0=a*B k;grind
  ·have d:=Ec l (off+1) k B (by lia) (by simp only[ak] at A;lia) fun i b n w=>f i (by lia) (by simp only[ak];lia) w;rw[d,f off (aj _) (by simp only[ak];lia) (b5 q)];have e:k - off=(k - (off+1))+1:=by lia
   rw[e];show a*0+_=l.getD (k - (off+1)) 0*B k;grind
theorem MO (l)(k:Nat)(A:k<l.length):valueAt (through l) (k:Rat)=l.getD k 0:=by
 unfold through;rw[iG,OY,aN];have e:(l.zipIdx.map ((fun p:List Rat=>valueAt p (k:Rat)) ∘ fun y:Rat×Nat=>scalePoly y.1 (basis l.length y.2)))=l.zipIdx.map fun y:Rat×Nat=>y.1*valueAt (basis l.length y.2) (k:Rat):=by
  refine aT fun y _=> ?_;show valueAt (scalePoly _ _) _=_;rw[fV]
 rw[e,Ec l 0 k (fun i=>valueAt (basis l.length i) (k:Rat)) (aR _) (by lia) fun i _ f d=>by
  rw[D9];exact Eb i k (b5 d) _ _ (aY.mpr A)]
 rw[D9,Hw,dZ,jg];simp only[Nat.sub_zero];grind
def Dg(f:PF)(d:Nat):Prop:=∃l:List Rat,dJ l=f/\l.length<=d
theorem MP (d)(f)(m)(v:d.length=m)(A:Dg f m)(h:∀i:Nat,i<m->f.f (i:Rat)=d.getD i 0):dJ (through d)=f:=by
 obtain⟨l,rfl,k⟩:=A;refine PF.ext fun x=> ?_;have z:rF (addPoly (through d) (scalePoly (-1) l)):=by
  refine Hq m _ ?_ fun i B=> ?_
  ·rw[jU];have:=vw d;have e:(scalePoly (-1) l).length=l.length:=by unfold Wh.scalePoly;rw[lMp]
   lia
  ·rw[kN,fV,MO d i (by lia),<-h i B,sv];grind
 have e:=z.ev x;rw[kN,fV] at e;rw[sv,sv];grind
theorem Dg.mono (h:Dg f d)(A:d<=e):Dg f e:=by obtain⟨l,a,b⟩:=h;exact⟨l,a,aB b A⟩
theorem Dg.add (A:Dg f d)(i:Dg g d):Dg (f+g) d:=by
 obtain⟨l,rfl,k⟩:=A;obtain⟨m,rfl,B⟩:=i;exact⟨addPoly l m,PF.ext fun x=>kN l m x,by rw[jU];lia⟩
theorem Dg.smul (c)(A:Dg f d):Dg (PF.const c*f) d:=by
 obtain⟨l,rfl,i⟩:=A;exact⟨scalePoly c l,PF.ext fun x=>fV c l x,by unfold Wh.scalePoly;rw[lMp];exact i⟩
theorem zu (d):Dg 0 d:=⟨[],rfl,aR _⟩
theorem K2 (c):Dg (PF.const c) 1:=⟨[c],PF.ext fun x=>by
 show c+x*0=c;grind,aj _⟩
theorem Cn:∀(p q:List Rat),p≠[]->q≠[]->(mulPoly p q).length=p.length+q.length - 1
 |[],_,h,_=>absurd rfl h
 |a::[],q,_,d=>by
  show(addPoly (scalePoly a q) [0]).length=_;have:0<q.length:=aq.mpr d;rw[jU];unfold Wh.scalePoly;rw[lMp];simp only[ak,bT];lia
 |a::b::p,q,_,d=>by
  have A:=Cn (b::p) q (by simp) d;show(addPoly (scalePoly a q) (0::mulPoly (b::p) q)).length=_;have:0<q.length:=aq.mpr d;rw[jU,ak,A];unfold Wh.scalePoly;rw[lMp];simp only[ak];lia
theorem Dg.mul (i:Dg f (d+1))(B:Dg g (e+1)):Dg (f*g) (d+e+1):=by
 obtain⟨l,rfl,k⟩:=i;obtain⟨m,rfl,w⟩:=B;refine⟨mulPoly l m,PF.ext fun x=>rE l m x,?_⟩;by_cases q:l=[]
 ·subst q;exact aR _
 ·by_cases A:m=[]
  ·subst A;have:∀l:List Rat,(mulPoly l []).length<=l.length:=by
    intro l;induction l with
    |nil=>exact aj _
    |cons a l v=>
     show(addPoly (scalePoly a []) (0::mulPoly l [])).length<=_;rw[jU];simp only[Wh.scalePoly,List.map_nil,bT,ak];lia
   have:=this l;lia
  ·rw[Cn l m q A];lia
theorem OZ (d):∀(n:Nat) {f:Nat->PF},(∀i,i<n->Dg (f i) d)->Dg (eV n f) d
 |0,_,_=>zu d
 |n+1,f,h=>(OZ d n fun i A=>h i (by lia)).add (h n (by lia))
noncomputable def sumNat:Nat->(Nat->Nat)->Nat
 |0,_=>0
 |n+1,f=>sumNat n f+f n
theorem Co:∀(n i:Nat) (f:Nat->Nat),i<n+1->sumNat n (fun a=>f (skip i a))+f i=sumNat (n+1) f
 |0,i,f,h=>by
  have:i=0:=by lia
  subst this;rfl
 |n+1,i,f,h=>by
  by_cases q:i=n+1
  ·subst q;have e:∀m,m<=n+1->sumNat m (fun a=>f (skip (n+1) a))=sumNat m f:=by
    intro m;induction m with
    |zero=>intro _;rfl
    |succ m d=>
     intro A;show sumNat m (fun a=>f (skip (n+1) a))+f (skip (n+1) m)=sumNat m f+f m;rw[d (by lia)];have:skip (n+1) m=m:=by unfold skip;rw[ai (by lia)]
     rw[this]
   rw[e (n+1) (aj _)];rfl
  ·have d:=Co n i f (by lia);show sumNat n (fun a=>f (skip i a))+f (skip i n)+f i=sumNat (n+1) f+f (n+1);have:skip i n=n+1:=by unfold skip;rw[ah (by lia)]
   rw[this,<-d];lia
theorem MQ:∀(n:Nat) {A:Nat->Nat->PF} {d:Nat->Nat},(∀i j,i<n->j<n->Dg (A i j) (d i+1))->Dg (det n A) (sumNat n d+1)
 |0,_,_,_=>K2 1
 |n+1,A,d,h=>by
  rw[gG];refine OZ _ _ fun i l=> ?_;have f:(sg i:PF)=PF.const (sg i):=PF.ext fun x=>Zd x i;rw[f];refine Dg.smul _ ?_;have m:=(h i 0 l (by lia)).mul (MQ n (A:=del i A) (d:=fun a=>d (skip i a)) fun a b B k=>h _ _ (yZ B) (by lia));refine m.mono ?_;have:=Co n i d l;lia
theorem gA (a b):PF.const (a*b)=PF.const a*PF.const b:=rfl
theorem fN:PF.const 1=1:=rfl
theorem Ed:PF.const 0=0:=rfl
theorem iY (h:c≠0):PF.const c≠0:=fun e=>h (by
 have:(PF.const c).f 0=(0:PF).f 0:=by rw[e]
 exact this)
theorem Be{z:Int}(h:z≠0):(z:Rat)≠0:=fun e=>h (by exact_mod_cast e)
theorem Vm (a):a*(a.den:Rat)=(a.num:Rat):=by
 have h:=Rat.num_divInt_den a;rw[Rat.divInt_eq_div] at h;have d:((a.den:Int):Rat)≠0:=by
  rw[bO];intro e;have:a.den=0:=by exact_mod_cast e
  exact a.den_nz this
 rw[bO] at h d;have:=Rat.div_mul_cancel (a:=(a.num:Rat)) d;rw[h] at this;exact this
theorem clear_list:∀l:List Rat,∃(M:Nat) (R:dQ),0<M/\PF.const (M:Rat)*dJ l=dO R
 |[]=>⟨1,[],by lia,PF.ext fun x=>by
   show((1:Nat):Rat)*0=0;grind⟩
 |a::l=>by
  obtain⟨M,R,i,e⟩:=clear_list l;refine⟨M*a.den,(a.num*(M:Int))::R.map fun y=>(a.den:Int)*y,Nat.mul_pos i (Rat.den_pos a),PF.ext fun x=> ?_⟩;have A:(M:Rat)*valueAt l x=(dO R).f x:=by
   have:=congrArg (fun q:PF=>q.f x) e;exact this
  rw[fJ,Dn,<-A];show((M*a.den:Nat):Rat)*(a+x*valueAt l x)=((a.num*(M:Int):Int):Rat)+x*(((a.den:Int):Rat)*((M:Rat)*valueAt l x));have d:a*(a.den:Rat)=(a.num:Rat):=Vm a;rw[Rat.natCast_mul,Rat.intCast_mul,bO,bO,<-d];grind
theorem Bf (f):∃(M:Nat) (R:dQ),0<M/\Trim R/\PF.const (M:Rat)*f=dO R:=by
 obtain⟨l,d⟩:=f.h;obtain⟨M,R,A,e⟩:=clear_list l;refine⟨M,Mf R,A,kZ R,?_⟩;rw[sZ,<-e];exact PF.ext fun x=>by
  show(M:Rat)*f.f x=(M:Rat)*valueAt l x;rw[d]
theorem MR{M:Nat}(h:0<M):(M:Rat)≠0:=fun e=>by
 have:M=0:=by exact_mod_cast e
 lia
theorem I0 {l:dQ}(t:Trim l)(k:c≠0)(h:Dg (PF.const c*dO l) e):l.length<=e:=by
 obtain⟨m,v,A⟩:=h;refine aB (bV fun lt=> ?_) A;have d:l≠[]:=fun q=>by rw[q] at lt;exact absurd lt (by simp)
 have i:=w8 (p:=m) (q:=scalePoly c (rl l)) (fun x=>by
  have:=congrArg (fun q:PF=>q.f x) v;rw[fV];exact this) (l.length - 1)
 rw[o8,IW,gDe,aO (by lia)] at i;have:=fQ.mp t d;have B:c*((l.getD (l.length - 1) 0:Int):Rat)=0:=i.symm;rcases bR.mp B with q |q
 ·exact k q
 ·exact this (by exact_mod_cast q)
theorem Xv(l:dQ):Dg (dO l) l.length:=⟨rl l,rfl,by unfold rl;rw[lMp];exact aj _⟩
theorem MS {l:dQ}(t:Trim l)(B:l≠[])(v:f≠0)(x:c≠0)(h:Dg (PF.const c*(f*dO l)) e):l.length<=e:=by
 obtain⟨M,R,k,w,A⟩:=Bf f;have i:R≠[]:=fun q=>by
  rw[q] at A;exact PF.gI (iY (MR k)) v A
 have d:Dg (PF.const c*dO (iQ R l)) e:=by
  have a:PF.const c*dO (iQ R l)=PF.const (M:Rat)*(PF.const c*(f*dO l)):=by
   rw[l9,<-A];grind
  rw[a];exact h.smul _
 have:=I0 (wg w t) x d;rw[DX i B] at this;have:0<R.length:=aq.mpr i;lia
noncomputable def oU(l:dQ):Nat:=l.foldl (fun g x=>Nat.gcd g x.natAbs) 0
theorem zw (l):cont l=(oU l:Int):=by
 have key:∀(l:dQ) (g:Nat),l.foldl wJ (g:Int)=(l.foldl (fun(g:Nat) (x:Int)=>Nat.gcd g x.natAbs) g:Nat):=by
  intro l;induction l with
  |nil=>intro g;rfl
  |cons a l d=>
   intro g;show l.foldl wJ (wJ (g:Int) a)=(l.foldl _ (Nat.gcd g a.natAbs):Nat);exact d (Nat.gcd g a.natAbs)
 exact key l 0
theorem Ee:∀(l:dQ) (g:Nat),l.foldl (fun(g:Nat) (x:Int)=>Nat.gcd g x.natAbs) g=Nat.gcd g (oU l)
 |[],g=>by
  show g=Nat.gcd g 0;rw[Nat.gcd_zero_right]
 |a::l,g=>by
  show l.foldl _ (Nat.gcd g a.natAbs)=Nat.gcd g (l.foldl _ (Nat.gcd 0 a.natAbs));rw[Ee l,Ee l,Nat.gcd_zero_left,Nat.gcd_assoc]
theorem Hy (a)(l:dQ):oU (a::l)=Nat.gcd a.natAbs (oU l):=by
 show l.foldl _ (Nat.gcd 0 a.natAbs)=_;rw[Ee,Nat.gcd_zero_left]
theorem Ef (h:x∈l):(oU l:Int) ∣ x:=by
 induction l with
 |nil=>cases h
 |cons a l d=>
  rw[Hy];rcases aL.mp h with e |e
  ·subst e;exact c8 (Int.natCast_dvd_natCast.mpr (Nat.gcd_dvd_left _ _)) (Int.natAbs_dvd_self)
  ·exact c8 (Int.natCast_dvd_natCast.mpr (Nat.gcd_dvd_right _ _)) (d e)
theorem K3 {d:Nat}(h:∀x∈l,(d:Int) ∣ x):d ∣ oU l:=by
 induction l with
 |nil=>exact Nat.dvd_zero d
 |cons a l i=>
  rw[Hy];exact Nat.dvd_gcd (c6.mp (h a aC)) (i fun x A=>h x (ao _ A))
theorem zx{l:dQ}(t:Trim l)(h:l≠[]):0<oU l:=by
 refine Nat.pos_of_ne_zero fun z=>fQ.mp t h ?_;have m:lc l∈l:=by
  unfold lc;have:0<l.length:=aq.mpr h;rw[gDe,af (by lia)];exact bZ _
 have d:=Ef m;rw[z] at d;simpa using d
theorem ly (l):(prim l).length=l.length:=by unfold prim;simp
theorem tu (l):(prim l).map (fun y=>cont l*y)=l:=by
 unfold prim;rw[aN];have:∀x∈l,((fun y=>cont l*y) ∘ fun x=>x.fdiv (cont l)) x=x:=fun x A=>by
  show cont l*x.fdiv (cont l)=x;have d:cont l ∣ x:=by rw[zw];exact Ef A
  exact Int.mul_fdiv_cancel' d
 rw[aT this,c7]
theorem SE (l):PF.const ((cont l:Int):Rat)*dO (prim l)=dO l:=by
 rw[<-mZ,tu]
theorem sy{l:dQ}(t:Trim l):Trim (prim l):=by
 rw[fQ];intro h z;have A:l≠[]:=fun e=>h (by rw[e];rfl);refine fQ.mp t A ?_;have e:=tu l;have:lc l=cont l*lc (prim l):=by
  have d:lc ((prim l).map fun y=>cont l*y)=cont l*lc (prim l):=by
   unfold lc;rw[kg _ (by lia),lMp]
  rw[e] at d;exact d
 rw[this,z];lia
theorem SH{l:dQ}(t:Trim l)(h:l≠[]):oU (prim l)=1:=by
 have p:=zx t h;have d:oU l*oU (prim l) ∣ oU l:=K3 fun x A=>by
  rw[<-tu l] at A;obtain⟨y,i,rfl⟩:=aV.mp A;rw[zw,Int.natCast_mul];exact Int.mul_dvd_mul_left _ (Ef i)
 have:=Nat.le_of_dvd p d;have q:0<oU (prim l):=zx (sy t) (fun e=>h (by have:=congrArg List.length e;rw[ly] at this;exact bc.mp (by simpa using this)));rcases Nat.lt_or_ge (oU (prim l)) 2 with r |r
 ·lia
 ·have:oU l*2<=oU l*oU (prim l):=b8 _ r;lia
def Dq(p:Nat):Prop:=2<=p/\∀d,d ∣ p->d=1\/d=p
theorem Ja:∀(n:Nat),2<=n->∃p,Dq p/\p ∣ n:=by
 intro n;induction n using Nat.strongRecOn with
 |ind n B=>
  intro h;by_cases q:∃d,d ∣ n/\d≠1/\d≠n
  ·obtain⟨d,A,l,i⟩:=q;have v:0<d:=Nat.pos_of_dvd_of_pos A (by lia);have x:d<=n:=Nat.le_of_dvd (by lia) A;obtain⟨p,k,f⟩:=B d (by lia) (by lia);exact⟨p,k,Nat.dvd_trans f A⟩
  ·refine⟨n,⟨h,fun d A=> ?_⟩,Nat.dvd_refl n⟩;by_cases l:d=1
   ·exact .inl l
   ·by_cases i:d=n
    ·exact .inr i
    ·exact absurd ⟨d,A,l,i⟩ q
theorem Dq.mul (d:Dq p)(h:(p:Int) ∣ a*b):(p:Int) ∣ a\/(p:Int) ∣ b:=by
 rw[c6,cn] at h;rcases d.2 (Nat.gcd p a.natAbs) (Nat.gcd_dvd_left _ _) with g |g
 ·exact .inr (c6.mpr (Nat.Coprime.dvd_of_dvd_mul_left g h))
 ·refine .inl (c6.mpr ?_);rw[<-g];exact Nat.gcd_dvd_right _ _
def Eg(p:Int)(l:dQ):Prop:=∀i,p ∣ l.getD i 0
theorem Eg.mem (h:Eg p l):∀x∈l,p ∣ x:=fun x A=>by
 obtain⟨i,d,e⟩:=br A;have:=h i;rw[gDe,af d] at this;simpa [e] using this
theorem w9 (l m)(i):(mulL l m).getD i 0=(mulL m l).getD i 0:=vi (by rw[jT,jT];grind) i
theorem rG (a)(l m:dQ)(i):(mulL (a::l) m).getD i 0=a*m.getD i 0+(if i=0 then 0 else(mulL l m).getD (i - 1) 0):=by
 show(ja (m.map fun y=>a*y) (0::mulL l m)).getD i 0=_;rw[jt,kg _ (by lia)];cases i with
 |zero=>simp
 |succ i=>simp
theorem vz (f:Dq p):∀(n:Nat) (R g:dQ),R.length+g.length<=n->Eg p (mulL R g)->Eg p R\/Eg p g
 |n,[],g,_,_=> .inl fun i=>by simp
 |n,R,[],_,_=> .inr fun i=>by simp
 |0,a::R,b::g,l,_=>by simp at l
 |n+1,a::R,b::g,l,h=>by
  simp only[ak] at l;have x:=h 0;rw[rG] at x;have v:(p:Int) ∣ a*b:=by simpa using x
  rcases f.mul v with k |B
  ·have d:Eg p (mulL R (b::g)):=fun i=>by
    have A:=h (i+1);rw[rG,ah (by lia)] at A;have e:i+1 - 1=i:=by lia
    rw[e] at A;exact(Int.dvd_add_right (Int.dvd_mul_of_dvd_left k)).mp A
   rcases vz f n R (b::g) (by simp only[ak];lia) d with r |r
   ·refine .inl fun i=> ?_;cases i with
    |zero=>exact k
    |succ i=>exact r i
   ·exact .inr r
  ·have d:Eg p (mulL (a::R) g):=fun i=>by
    have A:=h (i+1);rw[w9,rG,ah (by lia)] at A;have e:i+1 - 1=i:=by lia
    rw[e] at A;rw[w9];exact(Int.dvd_add_right (Int.dvd_mul_of_dvd_left B)).mp A
   rcases vz f n (a::R) g (by simp only[ak];lia) d with r |r
   ·exact .inl r
   ·refine .inr fun i=> ?_;cases i with
    |zero=>exact B
    |succ i=>exact r i
theorem Ze (n:oU g=1):∀(d:Nat),0<d->∀R:dQ,Eg (d:Int) (mulL R g)->Eg (d:Int) R:=by
 intro d;induction d using Nat.strongRecOn with
 |ind d a=>
  intro t R h;by_cases q:d=1
  ·subst q;exact fun i=>Int.one_dvd _
  ·obtain⟨p,B,k⟩:=Ja d (by lia);obtain⟨e,rfl⟩:=k;have v:0<e:=Nat.pos_of_mul_pos_left t;have o:=B.1;have u:Eg p R:=by
    rcases vz B _ R g (aj _) (fun i=>c8 (by rw[Int.natCast_mul];exact Int.dvd_mul_right _ _) (h i)) with r |r
    ·exact r
    ·have:=K3 (l:=g) (d:=p) r.mem;rw[n] at this;have:=Nat.le_of_dvd (by lia) this;lia
   have A:(R.map fun x=>x / (p:Int)).map (fun y=>(p:Int)*y)=R:=by
    rw[aN];have:∀x∈R,((fun y=>(p:Int)*y) ∘ fun x=>x / (p:Int)) x=x:=fun x b=>Int.mul_ediv_cancel' (u.mem x b);rw[aT this,c7]
   generalize (R.map fun x=>x / (p:Int))=S at A;have f:(p:Int)≠0:=by lia
   have s:∀i,(mulL R g).getD i 0=(p:Int)*(mulL S g).getD i 0:=fun i=>by
    rw[<-A];have:dO (mulL (S.map fun y=>(p:Int)*y) g)=dO ((mulL S g).map fun y=>(p:Int)*y):=by
     rw[jT,mZ,mZ,jT];grind
    rw[vi this,kg _ (by lia)]
   have w:=a e (by
    have:e*1<e*p:=Nat.mul_lt_mul_of_pos_left (by lia) v;rw[Nat.mul_comm p e];lia) v S fun i=>by
    have:=h i;rw[s,Int.natCast_mul] at this;exact Int.dvd_of_mul_dvd_mul_left f this
   intro i;rw[<-A,kg _ (by lia),Int.natCast_mul];exact Int.mul_dvd_mul_left _ (w i)
theorem QN {T:dQ}(v:oU g=1)(h:dO T=f*dO g):∃A:dQ,Trim A/\dO A=f:=by
 obtain⟨M,R,B,q,l⟩:=Bf f;have d:Eg (M:Int) (mulL R g):=fun i=>by
  have:dO (mulL R g)=dO (T.map fun y=>(M:Int)*y):=by
   rw[jT,mZ,<-l,h];have:((M:Int):Rat)=(M:Rat):=bO M;rw[this];grind
  rw[vi this,kg _ (by lia)];exact Int.dvd_mul_right _ _
 have k:=Ze v M B R d;have t:(R.map fun x=>x / (M:Int)).map (fun y=>(M:Int)*y)=R:=by
  rw[aN];have:∀x∈R,((fun y=>(M:Int)*y) ∘ fun x=>x / (M:Int)) x=x:=fun x w=>Int.mul_ediv_cancel' (k.mem x w);rw[aT this,c7]
 refine⟨Mf (R.map fun x=>x / (M:Int)),kZ _,?_⟩;rw[sZ];have e:=mZ (M:Int) (R.map fun x=>x / (M:Int));rw[t,<-l] at e;have:((M:Int):Rat)=(M:Rat):=bO M;rw[this] at e;exact(PF.wc (iY (MR B)) _ _ e).symm
theorem Jb (k)(l:dQ)(x):(dO (List.replicate k 0 ++ l)).f x=x^k*(dO l).f x:=by
 induction k with
 |zero=>
  show(dO l).f x=x^0*_;grind
 |succ k d=>
  rw[b7,List.cons_append,fJ,d];have:x^(k+1)=x^k*x:=Rat.pow_succ x k;rw[this];grind
def xE(k:Nat):PF:=dO (List.replicate k 0 ++ [1])
theorem QO (k)(l:dQ):dO (List.replicate k 0 ++ l)=xE k*dO l:=PF.ext fun x=>by
 rw[Jb];show _=(dO (List.replicate k 0 ++ [1])).f x*_;rw[Jb];show _=x^k*(((1:Int):Rat)+x*0)*_;grind
theorem O0 (k)(l:dQ)(i)(h:k<=i):(List.replicate k 0 ++ l).getD i 0=l.getD (i - k) 0:=by
 rw[gDe,cE (by rw[a9];lia),a9,<-gDe]
theorem CK (c)(n)(h:c.getD n 0=0):vj c (n+1)<=n:=by
 show(if c.getD n 0=0 then vj c n else n+1)<=n;rw[ai h];exact Dl c n
theorem Eh{rest right:dQ}(h:right.length<=rest.length)(d:right≠[]):
  PF.const ((lc right:Int):Rat)*dO rest=(PF.const ((lc rest:Int):Rat)*xE (rest.length - right.length))*dO right+dO (mQ rest right)/\(mQ rest right).length<rest.length/\Trim (mQ rest right):=by
 have l:0<right.length:=aq.mpr d;refine⟨?_,?_,kZ _⟩
 ·unfold mQ;rw[vq,mZ,QO,mZ];grind
 ·unfold mQ wI Gm;rw[Dm];have A:(ja (rest.map fun x=>lc right*x) (mP (List.replicate (rest.length - right.length) 0 ++ right.map fun y=>lc rest*y))).length=(rest.length - 1)+1:=by
   rw[lh,jM,aJ,a9,lMp,lMp];lia
  rw[A];refine Nat.lt_of_le_of_lt (CK _ _ ?_) (by lia);rw[jt,kg _ (by lia)];unfold mP;rw[kg _ (by lia),O0 _ _ _ (by lia),kg _ (by lia)];rw[zSb h];show lc right*lc rest+ -(lc rest*lc right)=0;rw[Int.mul_comm];lia
structure Span(T B l s:PF):Prop where
 Zf:∃p q:PF,l=p*T+q*B
 aak:∃p q:PF,s=p*T+q*B
 aal:∃p q:PF,T=p*l+q*s
 aam:∃p q:PF,B=p*l+q*s
end di
namespace di
open Wh
open Lean.Grind
open Wh (valueAt addPoly scalePoly mulPoly subPoly)
theorem Jc{l:dQ}(t:Trim l)(h:l≠[]):dO l≠0:=fun e=>h ((iE t).mp e)
theorem fw(p:List Rat):dJ (trim p)=dJ p:=PF.ext fun x=>iG p x
theorem vA:∀(q:List Rat),(q.dropWhile fun x:Rat=>decide (x=0))=[]\/∃a r,(q.dropWhile fun x:Rat=>decide (x=0))=a::r/\a≠0
 |[]=> .inl rfl
 |a::q=>by
  by_cases h:a=0
  ·rw[List.dropWhile_cons_of_pos (by simpa using h)];exact vA q
  ·rw[List.dropWhile_cons_of_neg (by simpa using h)];exact .inr ⟨a,q,rfl,h⟩
def SI(p:List Rat):Prop:=p≠[]->p.getD (p.length - 1) 0≠0
theorem pR(p:List Rat):SI (trim p):=by
 intro h;unfold trim at h⊢;rcases vA p.reverse with e |⟨a,r,e,d⟩
 ·rw[e] at h;exact absurd rfl h
 ·rw[e];rw[List.reverse_cons,aJ,cK,gDe];simp only[ak,bT];rw[cE (by rw[cK];lia)];simp only[cK];have:r.length+(0+1) - 1 - r.length=0:=by lia
  rw[this];exact d
theorem Dr(p:List Rat):lead p=(trim p).getD ((trim p).length - 1) 0:=by
 unfold lead;rw[cH,gDe]
theorem jV(p:List Rat):isZero p=true↔trim p=[]:=by
 unfold isZero;exact List.isEmpty_iff
theorem MT (t:SI p):dJ p=0↔p=[]:=by
 refine⟨fun e=> ?_,fun e=>by rw[e];rfl⟩;by_cases h:p=[]
 ·exact h
 ·have z:rF p:=pJ fun x=>by
   have:=congrArg (fun q:PF=>q.f x) e;exact this
  exact absurd (z.get _) (t h)
theorem fU(p:List Rat):isZero p=true↔dJ p=0:=by
 rw[jV,<-fw p,MT (pR p)]
theorem SJ (k)(p:List Rat)(x):valueAt (shifted k p) x=x^k*valueAt p x:=by
 unfold shifted;induction k with
 |zero=>
  show valueAt p x=x^0*_;grind
 |succ k d=>
  rw[b7,List.cons_append,dZ,d];have:x^(k+1)=x^k*x:=Rat.pow_succ x k;rw[this];grind
theorem Xw (k)(x):(xE k).f x=x^k:=by
 unfold xE;rw[Jb];show x^k*(((1:Int):Rat)+x*0)=_;grind
theorem Bg (k)(p:List Rat):dJ (shifted k p)=xE k*dJ p:=PF.ext fun x=>by
 rw[sv,SJ,PF.Su,Xw];rfl
theorem m5 (c)(p:List Rat):dJ (scalePoly c p)=PF.const c*dJ p:=PF.ext fun x=>fV c p x
theorem O1(p q:List Rat):dJ (addPoly p q)=dJ p+dJ q:=PF.ext fun x=>kN p q x
theorem O2(p q:List Rat):dJ (subPoly p q)=dJ p - dJ q:=by
 unfold Wh.subPoly;rw[O1,m5];exact PF.ext fun x=>by
  show(dJ p).f x+(-1)*(dJ q).f x=(dJ p).f x - (dJ q).f x;grind
theorem oe (h:Dg (dJ p) e):(trim p).length<=e:=by
 obtain⟨m,i,l⟩:=h;refine aB (bV fun lt=> ?_) l;have A:trim p≠[]:=fun q=>by rw[q] at lt;exact absurd lt (by simp)
 have d:=w8 (p:=m) (q:=trim p) (fun x=>by
  have:=congrArg (fun q:PF=>q.f x) (i.trans (fw p).symm);exact this) ((trim p).length - 1)
 rw[gDe,aO (by lia)] at d;exact pR p A d.symm
theorem Bh (p):Dg (dJ p) (trim p).length:=⟨trim p,fw p,aj _⟩
theorem Ei(p:List Rat)(h:trim p≠[]):(trim p).getD ((trim p).length - 1) 0≠0:=pR p h
theorem Vn{p:List Rat}(h:trim p≠[]):lead p≠0:=by rw[Dr];exact pR p h
theorem MU{p q:List Rat}(k:trim p≠[])(d:trim q≠[])(h:(trim q).length<=(trim p).length):
  dJ p=(PF.const (lead p / lead q)*xE ((trim p).length - (trim q).length))*dJ q+dJ (lowered p q)/\(trim (lowered p q)).length<(trim p).length:=by
 have t:0<(trim p).length:=aq.mpr k;have b:0<(trim q).length:=aq.mpr d;have e:dJ (lowered p q)=dJ p - PF.const (lead p / lead q)*(xE ((trim p).length - (trim q).length)*dJ q):=by
  unfold lowered;rw[fw,O2,m5,Bg,fw]
 refine⟨by rw[e];grind,?_⟩;have B:Dg (dJ (lowered p q)) ((trim p).length - 1):=by
  let r:=subPoly (trim p) (scalePoly (lead p / lead q) (shifted ((trim p).length - (trim q).length) (trim q)));have u:r.length=(trim p).length:=by
   show(addPoly (trim p) (scalePoly (-1) (scalePoly _ (shifted _ _)))).length=_;rw[jU];unfold Wh.scalePoly shifted;simp only[lMp,aJ,a9];lia
  have w:dJ r=dJ (lowered p q):=by
   show dJ (subPoly _ _)=_;rw[O2,m5,Bg,fw,fw,e]
  have v:r.getD ((trim p).length - 1) 0=0:=by
   show(addPoly (trim p) (scalePoly (-1) (scalePoly _ (shifted _ _)))).getD _ 0=0;rw[vh,o8,o8];have i:(shifted ((trim p).length - (trim q).length) (trim q)).getD ((trim p).length - 1) 0=lead q:=by
    unfold shifted;rw[gDe,cE (by rw[a9];lia),a9,<-gDe,Dr];rw[zSb h]
   rw[i,<-Dr];have:=Vn d;grind
  refine⟨r.take ((trim p).length - 1),?_,by rw[aP];lia⟩;rw[<-w];have ev:∀(l:List Rat) (n:Nat),l.length=n+1->l.getD n 0=0->∀x,valueAt (l.take n) x=valueAt l x:=by
   intro l;induction l with
   |nil=>intro n h;simp at h
   |cons a l f=>
    intro n h A x;cases n with
    |zero=>
     have:l=[]:=bc.mp (by simpa using h);subst this;have:a=0:=A;subst this;show(0:Rat)=0+x*0;grind
    |succ n=>
     rw[List.take_succ_cons,dZ,dZ,f n (by simpa using h) (by simpa using A)]
  exact PF.ext fun x=>ev r ((trim p).length - 1) (by lia) v x
 have:=oe B;lia
theorem Ej{q:List Rat}(d:trim q≠[]):∀(f:Nat) (p:List Rat),(trim p).length<f->dJ p=dJ (quotOn f p q)*dJ q+dJ (restOn f p q)/\(trim (restOn f p q)).length<(trim q).length
 |0,p,h=>by lia
 |f+1,p,h=>by
  have l:0<(trim q).length:=aq.mpr d;unfold quotOn restOn;by_cases c:isZero p=true\/(trim p).length<(trim q).length
  ·rw[ai c,ai c];have w:trim (trim p)=trim p:=by
    have r:=oe (p:=trim p) (e:=(trim p).length) ⟨trim p,rfl,aj _⟩;have s:=oe (p:=p) (e:=(trim (trim p)).length) ⟨trim (trim p),by rw[fw,fw],aj _⟩;refine cg (by lia) fun i A B=> ?_;have t:=w8 (p:=trim (trim p)) (q:=trim p) (fun x=>iG _ x) i;simpa [gDe,af A,af B] using t
   refine⟨?_,?_⟩
   ·rw[fw];show dJ p=(0:PF)*dJ q+dJ p;grind
   ·rw[w];rcases c with c |c
    ·rw[(jV p).mp c];exact l
    ·exact c
  ·rw[ah c,ah c];have k:trim p≠[]:=fun z=>c (.inl ((jV p).mpr z));obtain⟨v,u⟩:=MU k d (bV fun z=>c (.inr z));obtain⟨n,b⟩:=Ej d f (lowered p q) (by lia);refine⟨?_,b⟩;have a:dJ (shifted ((trim p).length - (trim q).length) [lead p / lead q])=PF.const (lead p / lead q)*xE ((trim p).length - (trim q).length):=by
    rw[Bg];exact PF.ext fun x=>by
     show(xE _).f x*(lead p / lead q+x*0)=(lead p / lead q)*(xE _).f x;grind
   rw[O1,a,v];have:(PF.const (lead p / lead q)*xE ((trim p).length - (trim q).length))*dJ q+dJ (lowered p q)=(PF.const (lead p / lead q)*xE ((trim p).length - (trim q).length))*dJ q+(dJ (quotOn f (lowered p q) q)*dJ q+dJ (restOn f (lowered p q) q)):=by rw[<-n]
   rw[this];grind
theorem wo(p:List Rat):trim (trim p)=trim p:=by
 have B:=oe (p:=trim p) (e:=(trim p).length) ⟨trim p,rfl,aj _⟩;have f:=oe (p:=p) (e:=(trim (trim p)).length) ⟨trim (trim p),by rw[fw,fw],aj _⟩;refine cg (by lia) fun i d A=> ?_;have l:=w8 (p:=trim (trim p)) (q:=trim p) (fun x=>iG _ x) i;simpa [gDe,af d,af A] using l
theorem Ek {q:List Rat}(d:trim q≠[])(p):dJ p=dJ (quot p q)*dJ q+dJ (rest p q)/\(trim (rest p q)).length<(trim q).length:=by
 have:=Ej d ((trim p).length+1) (trim p) (by rw[wo];lia);rw[fw] at this;exact this
theorem K4:∀(f:Nat) (l s:List Rat),(trim s).length<f->Span T B (dJ l) (dJ s)->(∃p q:PF,dJ (gcdOn f l s)=p*T+q*B)/\(∃p:PF,T=p*dJ (gcdOn f l s))/\∃p:PF,B=p*dJ (gcdOn f l s)
 |0,_,_,h,_=>by lia
 |f+1,l,s,h,S=>by
  unfold gcdOn;obtain⟨A,x,v⟩:=S.aal;obtain⟨d,i,k⟩:=S.aam;by_cases q:isZero s=true
  ·rw[ai q,fw];have z:=(fU s).mp q;rw[z] at v k;exact⟨S.Zf,⟨A,by rw[v];grind⟩,d,by rw[k];grind⟩
  ·rw[ah q];have H:trim s≠[]:=fun z=>q ((jV s).mpr z);obtain⟨e,b⟩:=Ek H l;obtain⟨o,r,n⟩:=S.Zf;obtain⟨t,a,w⟩:=S.aak;refine K4 f s (rest l s) (by lia) ⟨⟨t,a,w⟩,⟨o - dJ (quot l s)*t,r - dJ (quot l s)*a,?_⟩,⟨A*dJ (quot l s)+x,A,?_⟩,⟨d*dJ (quot l s)+i,d,?_⟩⟩
   ·have:dJ (rest l s)=dJ l - dJ (quot l s)*dJ s:=by
     have u:dJ l - dJ (quot l s)*dJ s=(dJ (quot l s)*dJ s+dJ (rest l s)) - dJ (quot l s)*dJ s:=by rw[<-e]
     rw[u];grind
    rw[this,n,w];grind
   ·have:A*dJ l+x*dJ s=A*(dJ (quot l s)*dJ s+dJ (rest l s))+x*dJ s:=by rw[<-e]
    rw[v,this];grind
   ·have:d*dJ l+i*dJ s=d*(dJ (quot l s)*dJ s+dJ (rest l s))+i*dJ s:=by rw[<-e]
    rw[k,this];grind
theorem El(u d:List Rat):(∃p q:PF,dJ (gcdPoly u d)=p*dJ u+q*dJ d)/\(∃p:PF,dJ u=p*dJ (gcdPoly u d))/\∃p:PF,dJ d=p*dJ (gcdPoly u d):=
 K4 _ u d (by lia) ⟨⟨1,0,by grind⟩,⟨0,1,by grind⟩,⟨1,0,by grind⟩,⟨0,1,by grind⟩⟩
theorem MV (t:SI l):∃(M:Nat) (G:dQ),0<M/\Trim G/\G.length=l.length/\PF.const (M:Rat)*dJ l=dO G:=by
 obtain⟨M,G,d,A,e⟩:=Bf (dJ l);have v:∀i,((G.getD i 0:Int):Rat)=(M:Rat)*l.getD i 0:=fun i=>by
  have:=w8 (p:=rl G) (q:=scalePoly (M:Rat) l) (fun x=>by
   have:=congrArg (fun q:PF=>q.f x) e;rw[fV];exact this.symm) i
  rwa [IW,o8] at this
 have k:G.length<=l.length:=by
  have:=I0 A (c:=1) (by decide) (e:=l.length) (by
   rw[fN];have:(1:PF)*dO G=dO G:=by grind
   rw[this,<-e];exact Dg.smul _ ⟨l,rfl,aj _⟩)
  exact this
 refine⟨M,G,d,A,Nat.le_antisymm k (bV fun lt=> ?_),e⟩;have B:l≠[]:=fun z=>by rw[z] at lt;exact absurd lt (by simp)
 have:=v (l.length - 1);rw[gDe,aO (by lia)] at this;have z:(M:Rat)*l.getD (l.length - 1) 0=0:=by rw[<-this];rfl
 rcases bR.mp z with z |z
 ·exact MR d z
 ·exact t B z
theorem MW {g:List Rat}(A:trim g≠[])(h:dJ p=a*dJ g):dJ (quot p g)=a:=by
 obtain⟨e,i⟩:=Ek A p;by_cases z:a - dJ (quot p g)=0
 ·grind
 ·exfalso;obtain⟨M,G,w,v,B,l⟩:=MV (pR g);rw[fw] at l;have f:G≠[]:=fun q=>A (bc.mp (by rw[<-B,q];rfl));have x:dJ (rest p g)=(a - dJ (quot p g))*dJ g:=by
   have:dJ (rest p g)=dJ p - dJ (quot p g)*dJ g:=by
    have k:dJ p - dJ (quot p g)*dJ g=(dJ (quot p g)*dJ g+dJ (rest p g)) - dJ (quot p g)*dJ g:=by rw[<-e]
    rw[k];grind
   rw[this,h];grind
  have d:Dg (PF.const 1*((a - dJ (quot p g))*dO G)) (trim (rest p g)).length:=by
   have:PF.const 1*((a - dJ (quot p g))*dO G)=PF.const (M:Rat)*dJ (rest p g):=by
    rw[fN,<-l,x];grind
   rw[this];exact(Bh _).smul _
  have:=MS v f z (c:=1) (by decide) d;lia
end di
namespace di
open Wh
open Lean.Grind
def dot(m:Nat)(r:List Rat)(y:Nat->Rat):Rat:=eV m fun j=>r.getD j 0*y j
def sat(m:Nat)(y:Nat->Rat)(z:Rat)(r:Row):Prop:=dot m r.1 y=z*r.2
theorem tx (q)(r)(j):(scaleRow q r).1.getD j 0=q*r.1.getD j 0:=by
 show(r.1.map fun x:Rat=>q*x).getD j 0=_;rw[gDe,gDe,aD];cases r.1[j]? with
 |none=>show(0:Rat)=q*0;grind
 |some v=>rfl
theorem tD (q)(r):(scaleRow q r).1.length=r.1.length:=by
 show(r.1.map _).length=_;rw[lMp]
theorem MX (a b)(j)(h:a.1.length=b.1.length):(subRow a b).1.getD j 0=a.1.getD j 0 - b.1.getD j 0:=by
 show(List.zipWith (fun x y:Rat=>x - y) a.1 b.1).getD j 0=_;by_cases q:j<a.1.length
 ·exact Hv _ _ _ _ q (by lia)
 ·rw[gDe,gDe,gDe,aO (by rw[List.length_zipWith];lia),aO (by lia),aO (by lia)];show(0:Rat)=0 - 0;grind
theorem MY (a b)(h:a.1.length=b.1.length):(subRow a b).1.length=a.1.length:=by
 show(List.zipWith _ a.1 b.1).length=_;rw[List.length_zipWith];lia
theorem Hz (c)(p r)(h:r.1.length=p.1.length):(clear c p r).1.length=r.1.length:=by
 unfold clear;split
 ·rfl
 ·rw[MY _ _ (by rw[tD];exact h)]
theorem Bi (c)(p r)(h:r.1.length=p.1.length)(j):(clear c p r).1.getD j 0=r.1.getD j 0 - r.1.getD c 0*p.1.getD j 0:=by
 unfold clear;split
 ·rename_i e;rw[e];grind
 ·rw[MX _ _ _ (by rw[tD];exact h),tx]
theorem K5 (c)(p r):(clear c p r).2=r.2 - r.1.getD c 0*p.2:=by
 unfold clear;split
 ·rename_i e;rw[e];grind
 ·rfl
theorem QP (m)(q)(r)(y:Nat->Rat):dot m (scaleRow q r).1 y=q*dot m r.1 y:=by
 unfold dot;rw[<-gj];exact e7 _ fun j _=>by rw[tx];grind
theorem QQ (m c)(p r)(h:r.1.length=p.1.length)(y:Nat->Rat):dot m (clear c p r).1 y=dot m r.1 y - r.1.getD c 0*dot m p.1 y:=by
 unfold dot;rw[<-gj,<-DU];exact e7 _ fun j _=>by rw[Bi c p r h];grind
theorem QR (d:q≠0):sat m y z (scaleRow q r)↔sat m y z r:=by
 unfold sat;rw[QP];show q*dot m r.1 y=z*(q*r.2)↔_;constructor
 ·intro e;grind
 ·intro e;rw[e];grind
theorem wq (h:r.1.length=p.1.length)(d:sat m y z p):sat m y z (clear c p r)↔sat m y z r:=by
 unfold sat at *;rw[QQ m c p r h,K5,d];constructor
 ·intro e;grind
 ·intro e;rw[e];grind
structure Red(m c:Nat)(l:List Row)(done:List (Nat×Row))(left:List Row):Prop where
 cols:done.map (·.1)=List.range c
 SK:∀x∈done,x.2.1.length=m
 QS:∀r∈left,r.1.length=m
 unit:∀x∈done,∀j,j<c->x.2.1.getD j 0=if j=x.1 then 1 else 0
 zero:∀r∈left,∀j,j<c->r.1.getD j 0=0
 cnt:done.length+left.length=l.length
 same:∀y z,(∀r∈l,sat m y z r)↔(∀x∈done,sat m y z x.2)/\∀r∈left,sat m y z r
theorem xF(m:Nat):∀(f c:Nat) (done:List (Nat×Row)) (left:List Row),(reduceFrom f c done left).1.length<=done.length+f
 |0,_,done,_=>by
  show done.length<=_;lia
 |f+1,c,done,left=>by
  unfold reduceFrom;split
  ·have:=xF m f (c+1) done left;lia
  ·rename_i i _;refine aB (xF m f (c+1) _ _) ?_;rw[aJ,lMp];simp only[ak,bT];lia
theorem mem_getD {left:List Row}(h:i<left.length):left.getD i ([],0)∈left:=by
 rw[gDe,af h];exact bZ h
theorem Jd {α:Type}(l:List α)(i)(h:i<l.length)(x)(A:x∈l):x=l[i]\/x∈l.eraseIdx i:=by
 obtain⟨a,d,e⟩:=br A;by_cases q:a=i
 ·subst q;exact .inl e.symm
 ·refine .inr (List.mem_eraseIdx_iff_getElem.mpr ⟨a,d,q,e⟩)
theorem SM (Q:c<m)(S:Red m c l done left)(hi:i<left.length)(N:(left.getD i ([],0)).1.getD c 0≠0):
  Red m (c+1) l ((done.map fun x:Nat×Row=>(x.1,clear c (scaleRow (1 / (left.getD i ([],0)).1.getD c 0) (left.getD i ([],0))) x.2)) ++ [(c,scaleRow (1 / (left.getD i ([],0)).1.getD c 0) (left.getD i ([],0)))]) ((left.eraseIdx i).map fun r:Row=>clear c (scaleRow (1 / (left.getD i ([],0)).1.getD c 0) (left.getD i ([],0))) r):=by
 have n:=mem_getD hi;generalize C:left.getD i ([],0)=P at *;have I:(1 / P.1.getD c 0:Rat)≠0:=by grind
 have G:P=left[i]:=by
  rw[<-C,gDe,af hi];rfl
 have F:=S.QS P n;generalize b:scaleRow (1 / P.1.getD c 0) P=p;have B:p.1.length=m:=by rw[<-b,tD];exact F
 have H:∀j,p.1.getD j 0=1 / P.1.getD c 0*P.1.getD j 0:=fun j=>by rw[<-b,tx]
 have o:p.1.getD c 0=1:=by rw[H];grind
 have u:∀j,j<c->p.1.getD j 0=0:=fun j s=>by rw[H,S.zero P n j s];grind
 have t:∀y z,sat m y z p↔sat m y z P:=fun y z=>by rw[<-b];exact QR I
 have v:∀r∈left.eraseIdx i,r∈left:=fun r f=>List.mem_of_mem_eraseIdx f;refine⟨?_,?_,?_,?_,?_,?_,?_⟩
 ·rw[bC,aN,bX,<-S.cols];rfl
 ·intro x k;rcases aX.mp k with h |h
  ·obtain⟨y,d,rfl⟩:=aV.mp h;show(clear c p y.2).1.length=m;rw[Hz _ _ _ (by rw[S.SK y d,B]),S.SK y d]
  ·have:x=(c,p):=by simpa using h
   subst this;exact B
 ·intro r f;obtain⟨y,d,rfl⟩:=aV.mp f;rw[Hz _ _ _ (by rw[S.QS y (v y d),B]),S.QS y (v y d)]
 ·intro x k j s;rcases aX.mp k with h |h
  ·obtain⟨y,d,rfl⟩:=aV.mp h;show(clear c p y.2).1.getD j 0=if j=y.1 then 1 else 0;have L:y.1<c:=by
    have:y.1∈done.map (·.1):=aV.mpr ⟨y,d,rfl⟩;rw[S.cols] at this;exact aY.mp this
   rw[Bi _ _ _ (by rw[S.SK y d,B])];by_cases q:j=c
   ·subst q;rw[o,ah (by lia)];grind
   ·rw[u j (by lia),S.unit y d j (by lia)];grind
  ·have:x=(c,p):=by simpa using h
   subst this;show p.1.getD j 0=if j=c then 1 else 0;by_cases q:j=c
   ·rw[ai q,q,o]
   ·rw[ah q,u j (by lia)]
 ·intro r f j s;obtain⟨y,d,rfl⟩:=aV.mp f;rw[Bi _ _ _ (by rw[S.QS y (v y d),B])];by_cases q:j=c
  ·subst q;rw[o];grind
  ·rw[S.zero y (v y d) j (by lia),u j (by lia)];grind
 ·rw[aJ,lMp,lMp,cU,ai hi,<-S.cnt];simp only[ak,bT];lia
 ·intro y z;rw[S.same y z];constructor
  ·rintro⟨h1,h2⟩;have A:=(t y z).mpr (h2 P n);refine⟨fun x k=> ?_,fun r f=> ?_⟩
   ·rcases aX.mp k with h |h
    ·obtain⟨w,a,rfl⟩:=aV.mp h;exact(wq (by rw[S.SK w a,B]) A).mpr (h1 w a)
    ·have:x=(c,p):=by simpa using h
     subst this;exact A
   ·obtain⟨w,a,rfl⟩:=aV.mp f;exact(wq (by rw[S.QS w (v w a),B]) A).mpr (h2 w (v w a))
  ·rintro⟨h1,h2⟩;have A:sat m y z p:=h1 (c,p) (bM _ (by simp));refine⟨fun x k=> ?_,fun r f=> ?_⟩
   ·have:=h1 (x.1,clear c p x.2) (List.mem_append_left _ (aV.mpr ⟨x,k,rfl⟩));exact(wq (by rw[S.SK x k,B]) A).mp this
   ·rcases Jd left i hi r f with e |e
    ·rw[e,<-G];exact(t y z).mp A
    ·exact(wq (by rw[S.QS r f,B]) A).mp (h2 _ (aV.mpr ⟨r,e,rfl⟩))
theorem SN (h:c<m)(S:Red m c l done left)(t:∀r∈left,r.1.getD c 0=0):
  ∃y:Nat->Rat,y c≠0/\∀r∈l,dot m r.1 y=0:=by
 have u:done.length=c:=by
  have:=congrArg List.length S.cols;simpa using this
 let y:Nat->Rat:=fun j=>if j=c then 1 else if j<c then -((done.getD j (0,([],0))).2.1.getD c 0) else 0;refine⟨y,by show(if c=c then(1:Rat) else _)≠0;rw[ai rfl];decide,?_⟩;have key:∀r∈l,sat m y 0 r:=(S.same y 0).mpr ⟨fun x i=> ?_,fun r d=> ?_⟩
 ·intro r d;have:=key r d;unfold sat at this;rw[this];grind
 ·obtain⟨a,B,e⟩:=br i;have n:x.1=a:=by
   have A:(done.map (·.1))[a]? =some x.1:=by rw[aD,af B,e];rfl
   rw[S.cols,bB (by lia)] at A;exact(bf A).symm
  unfold sat dot;have two:eV m (fun j=>x.2.1.getD j 0*y j)=x.2.1.getD a 0*y a+x.2.1.getD c 0*y c:=by
   refine DS m a c (by lia) h fun j b A w=> ?_;by_cases q:j<c
   ·rw[S.unit x i j q,ah (by lia)];grind
   ·have:y j=0:=by
     show(if j=c then(1:Rat) else if j<c then _ else 0)=0;rw[ah w,ah q]
    rw[this];grind
  have v:y a= -(x.2.1.getD c 0):=by
   show(if a=c then(1:Rat) else if a<c then -((done.getD a (0,([],0))).2.1.getD c 0) else 0)=_;rw[ah (by lia),ai (by lia),gDe (l:=done),af B,e];rfl
  have k:y c=1:=ai rfl;rw[two,v,k,S.unit x i a (by lia),ai n.symm];grind
 ·unfold sat dot;have z:eV m (fun j=>r.1.getD j 0*y j)=0:=v9 m fun j b=>by
   by_cases q:j<c
   ·rw[S.zero r d j q];grind
   ·by_cases f:j=c
    ·subst f;rw[t r d];grind
    ·have:y j=0:=by
      show(if j=c then(1:Rat) else if j<c then _ else 0)=0;rw[ah f,ah q]
     rw[this];grind
  rw[z];grind
theorem O3:∀(f c:Nat) (done:List (Nat×Row)) (left:List Row),f+c=m->Red m c l done left->
  Red m m l (reduceFrom f c done left).1 (reduceFrom f c done left).2\/((reduceFrom f c done left).1.length<m/\∃y:Nat->Rat,(∃j,j<m/\y j≠0)/\∀r∈l,dot m r.1 y=0)
 |0,c,done,left,x,S=>by
  have:c=m:=by lia
  subst this;exact .inl S
 |f+1,c,done,left,x,S=>by
  unfold reduceFrom;cases e:left.findIdx? fun r:Row=>decide (r.1.getD c 0≠0) with
  |none=>
   refine .inr ⟨?_,?_⟩
   ·have w:=xF m f (c+1) done left;have t:done.length=c:=by
     have:=congrArg List.length S.cols;simpa using this
    show(reduceFrom f (c+1) done left).1.length<m;lia
   ·obtain⟨y,v,h⟩:=SN (by lia) S fun r B=>by
     have h:=List.findIdx?_eq_none_iff.mp e r B;simpa using h
    exact⟨y,⟨c,by lia,v⟩,h⟩
  |some i=>
   obtain⟨A,k,_⟩:=List.findIdx?_eq_some_iff_getElem.mp e;have d:(left.getD i ([],0)).1.getD c 0≠0:=by
    rw[gDe (l:=left),af A];simpa using k
   exact O3 f (c+1) _ _ (by lia) (SM (by lia) S A d)
theorem MZ (v:l.length=m)(w:∀r∈l,r.1.length=m):
  (∃x:List Rat,solve m l=some x/\x.length=m/\∀(y:Nat->Rat) (z:Rat),(∀r∈l,sat m y z r)↔∀j,j<m->y j=z*x.getD j 0)\/
  (solve m l=none/\∃y:Nat->Rat,(∃j,j<m/\y j≠0)/\∀r∈l,dot m r.1 y=0):=by
 have b:Red m 0 l [] l:=⟨rfl,(fun _ h=>by cases h),w,(fun _ h=>by cases h),(fun _ _ j f=>by lia),(by simp),fun y z=>⟨fun h=>⟨fun _ h=>(by cases h),h⟩,fun h=>h.2⟩⟩;rcases O3 m 0 [] l (by lia) b with S |⟨d,t⟩
 ·refine .inl ⟨(reduced m l).1.map fun x:Nat×Row=>x.2.2,?_,?_,?_⟩
  ·unfold solve rank;have B:(reduced m l).1.length=m:=by
    have:=congrArg List.length S.cols;simpa [reduced] using this
   rw[ai ⟨B,v⟩]
  ·rw[lMp];have:=congrArg List.length S.cols;simpa [reduced] using this
  ·intro y z;change Red m m l (reduced m l).1 (reduced m l).2 at S;have B:(reduced m l).1.length=m:=by
    have:=congrArg List.length S.cols;simpa using this
   have q:(reduced m l).2=[]:=bc.mp (by have:=S.cnt;lia);rw[S.same y z,q];have row:∀a (A:a<(reduced m l).1.length),sat m y z ((reduced m l).1[a]).2↔y a=z*((reduced m l).1.map fun x:Nat×Row=>x.2.2).getD a 0:=fun a A=>by
    have i:=bZ A;have n:((reduced m l).1[a]).1=a:=by
     have d:((reduced m l).1.map (·.1))[a]? =some ((reduced m l).1[a]).1:=by rw[aD,af A];rfl
     rw[S.cols,bB (by lia)] at d;exact(bf d).symm
    have k:((reduced m l).1.map fun x:Nat×Row=>x.2.2).getD a 0=((reduced m l).1[a]).2.2:=by
     rw[gDe,aD,af A];rfl
    unfold sat dot;rw[om m a (by lia) fun j f s=>by rw[S.unit _ i j f,ah (by lia)];grind,S.unit _ i a (by lia),ai n.symm,k];constructor
    ·intro h;grind
    ·intro h;rw[h];grind
   constructor
   ·rintro⟨d,_⟩ j f;exact(row j (by lia)).mp (d _ (bZ _))
   ·intro h;refine⟨fun x i=> ?_,fun _ h=>by cases h⟩;obtain⟨a,A,e⟩:=br i;rw[<-e];exact(row a A).mpr (h a (by lia))
 ·refine .inr ⟨?_,t⟩;unfold solve rank;rw[ah fun h=>by
   have:(reduced m l).1.length=m:=h.1;have u:(reduced m l).1.length<m:=d;lia]
end di
namespace di
open Wh
open Lean.Grind (CommRing)
inductive Al{α β:Type}(R:α->β->Prop):List α->List β->Prop
 |nil:Al R [] []
 |cons {a:α} {b:β} {l:List α} {m:List β}:R a b->Al R l m->Al R (a::l) (b::m)
theorem Al.len (h:Al R l m):l.length=m.length:=by
 induction h with
 |nil=>rfl
 |cons _ _ t=>exact congrArg (· +1) t
theorem Al.append (i:Al R l m)(h:Al R A d):Al R (l ++ A) (m ++ d):=by
 induction i with
 |nil=>exact h
 |cons r _ t=>exact .cons r t
theorem Al.get (d)(e)(g:Al R l m):∀i,i<l.length->R (l.getD i d) (m.getD i e):=by
 induction g with
 |nil=>exact fun _ h=>nomatch h
 |cons r _ t=>
  intro i h;cases i
  exact r
  exact t _ (Nat.lt_of_succ_lt_succ h)
theorem Al.Vo (h:Al (fun a b=>R (f a) (g b)) l m):Al R (l.map f) (m.map g):=by
 induction h with
 |nil=>exact .nil
 |cons r _ t=>exact .cons r t
theorem Al.imp {S:α->β->Prop}(h:∀a b,R a b->S a b)(g:Al R l m):Al S l m:=by
 induction g with
 |nil=>exact .nil
 |cons r _ t=>exact .cons (h _ _ r) t
theorem O4 {γ:Type}{f:γ->α}{g:γ->β}:∀(l:List γ),(∀i∈l,R (f i) (g i))->Al R (l.map f) (l.map g)
 |[],_=> .nil
 |x::l,h=> .cons (h x aC) (O4 l fun i d=>h i (ao _ d))
theorem O5 {γ:Type}{f:γ->List α}{g:γ->List β}:∀(l:List γ),(∀i∈l,Al R (f i) (g i))->Al R (l.flatMap f) (l.flatMap g)
 |[],_=> .nil
 |x::l,h=>by
  rw[bP,bP];exact(h x aC).append (O5 l fun i d=>h i (ao _ d))
theorem HA {α:Type}(l)(d:α):l=(List.range l.length).map fun i=>l.getD i d:=by
 apply cg
 ·simp
 ·intro i A f;simp[gDe,af A]
theorem Je {α:Type}(l:List α)(d):l.zipIdx=(List.range l.length).map fun i=>(l.getD i d,i):=by
 apply cg
 ·simp
 ·intro i A B;have f:i<l.length:=by simpa using A
  simp[gDe,af f]
theorem HB {α β:Type}(l:List α)(m)(d)(e:β)(h:m.length=l.length):l.zip m=(List.range l.length).map fun i=>(l.getD i d,m.getD i e):=by
 apply cg
 ·simp[h]
 ·intro i f k;have B:i<l.length:=by simp at f;lia
  have A:i<m.length:=by lia
  simp[gDe,af B,af A]
structure Pn(p:Part):Prop where
 k0:0<=p.kind
 k1:p.kind<=13
 a0:0<=p.a
 b0:0<=p.b
 c0:0<=p.c
 d0:0<=p.d
 t:p.top.natAbs<=1000000
 b1:1<=p.dG
 b2:p.dG<=1000000
noncomputable def kindOf(z:Int):Kind:=kinds.getD z.toNat .R
def dF(p:Part):Elem:=
 ⟨kindOf p.kind,if nodeCount (kindOf p.kind)=0 then[] else[p.a.toNat,p.b.toNat,p.c.toNat,p.d.toNat].take (nodeCount (kindOf p.kind)),if kindOf p.kind= .M then[p.a.toNat,p.b.toNat] else if refCount (kindOf p.kind)=1 then[p.c.toNat] else[],(p.top:Rat) / (p.dG:Rat)⟩
noncomputable def dw(n:Nw):Net:=⟨n.last.toNat,n.dc.map dF⟩
theorem tE{z:Int}(d:0<=z)(A:z<=13):z=0\/z=1\/z=2\/z=3\/z=4\/z=5\/z=6\/z=7\/z=8\/z=9\/z=10\/z=11\/z=12\/z=13:=by lia
def kindB(z:Nat):Bool:=decide ((kindOf z= .M↔z=3)/\(kindOf z= .T↔z=10)/\(kindOf z= .D↔z=13)/\(kindOf z= .V↔z=4)/\(kindOf z= .I↔z=5)/\(kindOf z= .L↔z=2)/\(kindOf z= .C↔z=1)/\(kindOf z= .H↔z=8)/\(kindOf z= .F↔z=9)/\(kindOf z= .S↔z=12)/\(kindOf z= .O↔z=11)/\(kindOf z= .E↔z=6)/\(kindOf z= .G↔z=7)/\(kindOf z= .R↔z=0))
theorem QT:(List.range 14).all kindB=true:=by decide +kernel
theorem ma (d:0<=z)(A:z<=13):(kindOf z= .M↔z=3)/\(kindOf z= .T↔z=10)/\(kindOf z= .D↔z=13)/\(kindOf z= .V↔z=4)/\(kindOf z= .I↔z=5)/\(kindOf z= .L↔z=2)/\(kindOf z= .C↔z=1)/\(kindOf z= .H↔z=8)/\(kindOf z= .F↔z=9)/\(kindOf z= .S↔z=12)/\(kindOf z= .O↔z=11)/\(kindOf z= .E↔z=6)/\(kindOf z= .G↔z=7)/\(kindOf z= .R↔z=0):=by
 have h:=bU.mp QT z.toNat (aY.mpr (by lia));have e:((z.toNat:Nat):Int)=z:=by lia
 have q:=aI h;rw[e] at q;refine⟨?_,?_,?_,?_,?_,?_,?_,?_,?_,?_,?_,?_,?_,?_⟩
 ·rw[q.1];lia
 ·rw[q.2.1];lia
 ·rw[q.2.2.1];lia
 ·rw[q.2.2.2.1];lia
 ·rw[q.2.2.2.2.1];lia
 ·rw[q.2.2.2.2.2.1];lia
 ·rw[q.2.2.2.2.2.2.1];lia
 ·rw[q.2.2.2.2.2.2.2.1];lia
 ·rw[q.2.2.2.2.2.2.2.2.1];lia
 ·rw[q.2.2.2.2.2.2.2.2.2.1];lia
 ·rw[q.2.2.2.2.2.2.2.2.2.2.1];lia
 ·rw[q.2.2.2.2.2.2.2.2.2.2.2.1];lia
 ·rw[q.2.2.2.2.2.2.2.2.2.2.2.2.1];lia
 ·rw[q.2.2.2.2.2.2.2.2.2.2.2.2.2];lia
theorem Pn.M (h:Pn p):kindOf p.kind= .M↔p.kind=3:=(ma h.k0 h.k1).1
theorem Pn.T (h:Pn p):kindOf p.kind= .T↔p.kind=10:=(ma h.k0 h.k1).2.1
theorem Pn.D (h:Pn p):kindOf p.kind= .D↔p.kind=13:=(ma h.k0 h.k1).2.2.1
theorem kh (p):(dF p).kind=kindOf p.kind:=rfl
theorem Jf (p):(dF p).q=(p.top:Rat) / (p.dG:Rat):=rfl
theorem SO (h:Pn p):kJ p=(((dF p).currents:Nat):Int):=by
 unfold kJ Elem.currents;rw[kh];by_cases A:p.kind=3
 ·rw[ai A,ai (h.M.mpr A)];rfl
 ·rw[ah A,ah (fun e=>A (h.M.mp e))];by_cases d:p.kind=10
  ·rw[ai d,ai (h.T.mpr d)];rfl
  ·rw[ah d,ah (fun e=>d (h.T.mp e))];rfl
theorem fW (a)(l):Wh.sumNat (a::l)=a+Wh.sumNat l:=by
 have:∀(l:List Nat) (x:Nat),l.foldl (fun(a b:Nat)=>a+b) x=x+l.foldl (fun(a b:Nat)=>a+b) 0:=by
  intro l;induction l with
  |nil=>intro x;simp
  |cons b l d=>
   intro x;rw[bQ,bQ,d (x+b),d (0+b)];lia
 unfold Wh.sumNat;rw[bQ,this];lia
theorem zy:∀(ps:List Part) (f:Int) (k:Nat),(∀p∈ps,Pn p)->k<ps.length->(iC f ps).getD k 0=f+((Wh.sumNat (((ps.map dF).take k).map Elem.currents):Nat):Int)
 |[],_,k,_,h=>by simp at h
 |p::ps,f,0,_,_=>by
  show f=f+((0:Nat):Int);lia
 |p::ps,f,k+1,d,h=>by
  show(iC (f+kJ p) ps).getD k 0=_;rw[zy ps (f+kJ p) k (fun q A=>d q (ao _ A)) (by simpa using h),SO (d p aC)];rw[aK,List.take_succ_cons,aK,fW];push_cast;lia
theorem HC:∀(ps:List Part),(∀p∈ps,Pn p)->(ps.map kJ).sum=((Wh.sumNat ((ps.map dF).map Elem.currents):Nat):Int)
 |[],_=>rfl
 |p::ps,d=>by
  rw[aK,cJ,HC ps (fun q A=>d q (ao _ A)),SO (d p aC),aK,aK,fW];push_cast;rfl
structure Right(n:Nw):Prop where
 l1:1<=n.last
 l8:n.last<=8
 dc:n.dc.length<=12
 ns:(n.dc.filter fun p=>decide (p.kind≠4/\p.kind≠5)).length<=10
 pn:∀p∈n.dc,Pn p
 ok:fault n=[]
theorem memD {α:Type}{l:List α}{d:α}(h:k<l.length):l.getD k d∈l:=by
 rw[gDe,af h];exact bZ h
section
variable {n:Nw}(R:Right n)
include R
theorem Right.p (h:k<n.dc.length):Pn (n.dc.getD k p0):=R.pn _ (memD h)
theorem Right.nodes:((dw n).nodes:Int)=n.last:=by
 show((n.last.toNat:Nat):Int)=n.last;have:=R.l1;lia
theorem Right.place (h:k<n.dc.length):(places n).getD k 0=(((dw n).at_ k:Nat):Int):=by
 unfold places;rw[zy n.dc n.last k R.pn h];unfold Net.at_;have:=R.nodes;push_cast;rw[this];rfl
theorem Right.Bj:width n=(((dw n).unknowns:Nat):Int):=by
 unfold width Net.unknowns Net.at_;rw[HC n.dc R.pn];have:=R.nodes;have e:(dw n).elems.take (dw n).elems.length=n.dc.map dF:=aQ;rw[e];push_cast;rw[this]
theorem Right.elem (h:k<n.dc.length):(dw n).elems[k]? =some (dF (n.dc.getD k p0)):=by
 show(n.dc.map dF)[k]? =_;rw[aD,gDe,af h];rfl
end
theorem Cp (n):∀f,f<=n.dc.length->lF n f=[]->∀k,n.dc.length - f<=k->k<n.dc.length->jh n k=0
 |0,_,_,k,A,d=>by lia
 |f+1,l,h,k,A,d=>by
  unfold lF at h;dsimp only at h;split at h
  ·cases h
  ·rename_i e;by_cases q:k=n.dc.length - (f+1)
   ·rw[q];exact cT.mp e
   ·exact Cp n f (by lia) h k (by lia) d
theorem Right.f0 (R:Right n)(h:k<n.dc.length):jh n k=0:=Cp n n.dc.length (aj _) R.ok k (by lia) h
structure Ws(n:Nw)(k:Nat):Prop where
 nodes:∀v∈iB (n.dc.getD k p0),v<=n.last
 num:pL (n.dc.getD k p0)=true
 Yk:gO n.dc k=true
 cou:(n.dc.getD k p0).kind=3->ph n.dc k=0
theorem Vp (h:jh n k=0):Ws n k:=by
 unfold jh at h;dsimp only at h;by_cases A:(iB (n.dc.getD k p0)).any (fun v=>decide (n.last<v))=true
 ·rw[ai A] at h;exact absurd h (by decide)
 rw[ah A] at h;by_cases d:pL (n.dc.getD k p0)=false
 ·rw[ai d] at h;exact absurd h (by decide)
 rw[ah d] at h;by_cases l:gO n.dc k=false
 ·rw[ai l] at h;exact absurd h (by decide)
 rw[ah l] at h;refine⟨fun v i=> ?_,by simpa using d,by simpa using l,fun e=>by rw[ai e] at h;exact h⟩;have:¬n.last<v:=fun q=>A (List.any_eq_true.mpr ⟨v,i,aw q⟩);lia
section
variable {n:Nw}(R:Right n){k:Nat}(h:k<n.dc.length)
include R h
theorem Right.g1:Ws n k:=Vp (R.f0 h)
theorem Right.ab(d:(n.dc.getD k p0).kind≠3):(n.dc.getD k p0).a<=n.last/\(n.dc.getD k p0).b<=n.last:=by
 have g:=(R.g1 h).nodes;unfold iB at g;rw[ah d] at g;split at g
 ·exact⟨g _ (by simp),g _ (by simp)⟩
 ·exact⟨g _ (by simp),g _ (by simp)⟩
theorem Right.cd(A:(n.dc.getD k p0).kind=6\/(n.dc.getD k p0).kind=7\/(n.dc.getD k p0).kind=10\/(n.dc.getD k p0).kind=11):(n.dc.getD k p0).c<=n.last/\(n.dc.getD k p0).d<=n.last:=by
 have g:=(R.g1 h).nodes;unfold iB at g;rw[ah (by lia),ai A] at g;exact⟨g _ (by simp),g _ (by simp)⟩
theorem Right.Yk(d:(n.dc.getD k p0).kind=8\/(n.dc.getD k p0).kind=9):(n.dc.getD k p0).c<k/\kindAt n.dc (n.dc.getD k p0).c≠3:=by
 have g:=(R.g1 h).Yk;unfold gO at g;dsimp only at g;rw[ah (fun q=>q d)] at g;obtain⟨g1,A⟩:=(aW _ _).mp g;exact⟨aI g1,aI A⟩
theorem Right.Vq(f:(n.dc.getD k p0).kind=3):(n.dc.getD k p0).a≠(n.dc.getD k p0).b/\((n.dc.getD k p0).a<k/\kindAt n.dc (n.dc.getD k p0).a=2)/\((n.dc.getD k p0).b<k/\kindAt n.dc (n.dc.getD k p0).b=2):=by
 have g:=(R.g1 h).cou f;unfold ph at g;dsimp only at g;by_cases d:(n.dc.getD k p0).a=(n.dc.getD k p0).b\/eN n.dc (n.dc.getD k p0).a k=false\/eN n.dc (n.dc.getD k p0).b k=false
 ·rw[ai d] at g;exact absurd g (by decide)
 have A:eN n.dc (n.dc.getD k p0).a k=true:=by
  cases e:eN n.dc (n.dc.getD k p0).a k with
  |true=>rfl
  |false=>exact absurd (.inr (.inl e)) d
 have l:eN n.dc (n.dc.getD k p0).b k=true:=by
  cases e:eN n.dc (n.dc.getD k p0).b k with
  |true=>rfl
  |false=>exact absurd (.inr (.inr e)) d
 unfold eN at A l;obtain⟨v,B⟩:=(aW _ _).mp A;obtain⟨i,x⟩:=(aW _ _).mp l;exact⟨fun e=>d (.inl e),⟨aI v,aI B⟩,⟨aI i,aI x⟩⟩
end
def Pv(φ:Nat->PF):List Term->PF
 |[]=>0
 |t::d=>dO t.2*φ t.1.toNat+Pv φ d
theorem iy(φ:Nat->PF):∀a b:List Term,Pv φ (a ++ b)=Pv φ a+Pv φ b
 |[],b=>by
  show Pv φ b=0+Pv φ b;grind
 |t::a,b=>by
  show dO t.2*φ t.1.toNat+Pv φ (a ++ b)=dO t.2*φ t.1.toNat+Pv φ a+Pv φ b;rw[iy φ a b];grind
theorem tH (φ:Nat->PF)(p):∀a:List Term,Pv φ (sX a p)=Pv φ a*dO p
 |[]=>by
  show(0:PF)=0*dO p;grind
 |t::a=>by
  show dO (iQ t.2 p)*φ t.1.toNat+Pv φ (sX a p)=(dO t.2*φ t.1.toNat+Pv φ a)*dO p;rw[tH φ p a,l9];grind
def Rv(φ:Nat->PF):List (Nat×Rat)->PF
 |[]=>0
 |t::d=>PF.const t.2*φ t.1+Rv φ d
theorem iZ(φ:Nat->PF):∀a b:List (Nat×Rat),Rv φ (a ++ b)=Rv φ a+Rv φ b
 |[],b=>by
  show Rv φ b=0+Rv φ b;grind
 |t::a,b=>by
  show PF.const t.2*φ t.1+Rv φ (a ++ b)=PF.const t.2*φ t.1+Rv φ a+Rv φ b;rw[iZ φ a b];grind
def Lv(φ:Nat->PF)(σ:PF)(m:Nat)(L:Law):PF:=Rv φ L.terms+σ*Rv φ L.byS+PF.const L.right*φ m
def Em(σ:PF)(m:Nat)(d:List Term)(L:Law):Prop:=∃κ:Rat,0<κ/\∀φ:Nat->PF,Pv φ d=PF.const κ*Lv φ σ m L
theorem zA:dO [1]=1:=PF.ext fun x=>by
 rw[fJ];show((1:Int):Rat)+x*0=((1:Nat):Rat);grind
theorem En:dO [-1]= -1:=PF.ext fun x=>by
 rw[fJ];show((-1:Int):Rat)+x*0= -((1:Nat):Rat);grind
theorem gQ (c):PF.const (-c)= - PF.const c:=rfl
def vN(φ:Nat->PF)(z:Int):PF:=if 0<z then φ (z - 1).toNat else 0
theorem m6 (φ:Nat->PF)(a b):Pv φ (KO a b)=vN φ a - vN φ b:=by
 unfold KO vN;rw[iy];by_cases A:0<a <;>by_cases d:0<b <;>simp only[A,d,if_true,if_false] <;>simp only[Pv,zA,En] <;>grind
theorem O6 (φ:Nat->PF)(a)(d:0<=a)(q):Rv φ (volt a.toNat q)=PF.const q*vN φ a:=by
 unfold volt vN;by_cases h:0<a
 ·rw[ah (by lia),ai h];have e:a.toNat - 1=(a - 1).toNat:=by lia
  show PF.const q*φ (a.toNat - 1)+0=_;rw[e];grind
 ·rw[ai (by lia),ah h];show(0:PF)=_;grind
theorem g9 (φ:Nat->PF)(a b)(d:0<=a)(A:0<=b)(q):Rv φ (across a.toNat b.toNat q)=PF.const q*(vN φ a - vN φ b):=by
 unfold across;rw[iZ,O6 φ a d,O6 φ b A,gQ];grind
structure m8(n:Nw)(g:mY)(G:Setting):Prop where
 eQ:g.eQ=n
 on:∀k,k<n.dc.length->G.on k=g.gZ.getD k false
 val:∀k,k<n.dc.length->((n.dc.getD k p0).kind=4\/(n.dc.getD k p0).kind=5)->0<(g.drives.getD k (0,1)).2/\G.value k=((g.drives.getD k (0,1)).1:Rat) / ((g.drives.getD k (0,1)).2:Rat)
 drop:∀k,k<n.dc.length->(n.dc.getD k p0).kind=13->0<(g.drives.getD k (0,1)).2/\G.drop k=((g.drives.getD k (0,1)).1:Rat) / ((g.drives.getD k (0,1)).2:Rat)
theorem lK{b:Int}(h:0<b):(0:Rat)<(b:Rat):=by exact_mod_cast h
theorem wu{a b:Int}(h:0<b):PF.const (b:Rat)*PF.const ((a:Rat) / (b:Rat))=PF.const (a:Rat):=by
 rw[<-gA];congr 1;have:=lK h;grind
theorem Gp (z):PF.const ((-z:Int):Rat)= - PF.const (z:Rat):=PF.ext fun x=>by
 show((-z:Int):Rat)= -(z:Rat);push_cast;rfl
section
variable {n:Nw}(R:Right n){g:mY}{G:Wh.Setting}(S:m8 n g G){k:Nat}(hk:k<n.dc.length)
include R
theorem Xx{j:Int}(A:0<=j)(d:j<n.dc.length):((places n).getD j.toNat 0).toNat=(dw n).at_ j.toNat:=by
 rw[R.place (by lia),bK]
include S
theorem Jg(φ:Nat->PF){j:Int}(A:0<=j)(d:j<n.dc.length):Pv φ (cur g j)=φ ((dw n).at_ j.toNat):=by
 unfold cur;rw[S.eQ];show dO [1]*φ ((places n).getD j.toNat 0).toNat+0=_;rw[Xx R A d,zA];grind
theorem M1 (φ:Nat->PF)(d):Pv φ (Mh g k d)=Pv φ d*PF.const ((g.drives.getD k (0,1)).2:Rat)+PF.const ((g.drives.getD k (0,1)).1:Rat)*φ (dw n).unknowns:=by
 unfold Mh;rw[iy,tH,we,S.eQ];show _+ (dO (cst _)*φ (width n).toNat+0)=_;rw[we,R.Bj,bK];grind
omit S R in
theorem qS (φ:Nat->PF)(p)(l r):Pv φ (pN p l r)=Pv φ l*PF.const (p.dG:Rat) - Pv φ r*PF.const (p.top:Rat):=by
 unfold pN;rw[iy,tH,tH,we,we,Gp];grind
end
theorem gD (A:kindOf p.kind=d)(h:nodeCount d=2\/nodeCount d=4):(dF p).node 0=p.a.toNat/\(dF p).node 1=p.b.toNat:=by
 unfold Elem.node dF;dsimp only;rw[A];rcases h with h |h <;>rw[h] <;>exact⟨rfl,rfl⟩
theorem me (A:kindOf p.kind=d)(h:nodeCount d=4):(dF p).node 2=p.c.toNat/\(dF p).node 3=p.d.toNat:=by
 unfold Elem.node dF;dsimp only;rw[A,h];exact⟨rfl,rfl⟩
theorem Jh (A:kindOf p.kind=d)(l:d≠.M)(h:refCount d=1):(dF p).refs.getD 0 0=p.c.toNat:=by
 unfold dF;dsimp only;rw[A,ah l,h];rfl
theorem xG (κ)(A:0<κ)(h:∀φ:Nat->PF,Pv φ d=PF.const κ*Lv φ σ m L):Al (Em σ m) [d] [L]:= .cons ⟨κ,A,h⟩ .nil
section
variable {n:Nw}(R:Right n){g:mY}{G:Wh.Setting}(S:m8 n g G){k:Nat}(hk:k<n.dc.length)
def Ym(φ:Nat->PF)(n:Nw)(d:List (Int×Int×Int)):PF:=d.foldr (fun x acc=>PF.const ((x.2.1:Rat) / (x.2.2:Rat))*φ ((dw n).at_ x.1.toNat)+acc) 0
theorem xH:∀(d:List (Int×Int×Int)) (c:Int),0<c->(∀x∈d,0<x.2.2)->0<d.foldl (fun c x=>c*x.2.2) c
 |[],c,A,_=>A
 |x::d,c,A,h=>xH d _ (Int.mul_pos A (h x aC)) fun y l=>h y (ao _ l)
theorem Eo:∀(d:List (Int×Int×Int)) (c:Int),c ∣ d.foldl (fun c x=>c*x.2.2) c/\∀x∈d,x.2.2 ∣ d.foldl (fun c x=>c*x.2.2) c
 |[],c=>⟨Int.dvd_refl _,fun _ h=>by cases h⟩
 |x::d,c=>by
  obtain⟨l,i⟩:=Eo d (c*x.2.2);refine⟨c8 ⟨x.2.2,rfl⟩ l,fun y A=> ?_⟩;rcases aL.mp A with rfl |A
  ·exact c8 ⟨c,Int.mul_comm _ _⟩ l
  ·exact i y A
include R S
theorem HD (φ:Nat->PF)(d)(i:0<d):∀A:List (Int×Int×Int),(∀x∈A,0<=x.1/\x.1<n.dc.length/\0<x.2.2/\x.2.2 ∣ d)->
  Pv φ (A.flatMap fun x=>sX (sX (cur g x.1) g.s) (cst (-x.2.1*d.fdiv x.2.2)))= - (PF.const (d:Rat)*(dO g.s*Ym φ n A))
 |[],_=>by
  show(0:PF)= -(_* (_* 0));grind
 |x::A,h=>by
  obtain⟨B,v,t,w⟩:=h x aC;rw[bP,iy,HD φ d i A (fun y a=>h y (ao _ a)),tH,tH,Jg R S φ B v,we];obtain⟨q,l⟩:=w;have e:d.fdiv x.2.2=q:=by
   rw[l,Int.mul_comm,c5 _ (by lia)]
  have f:PF.const ((-x.2.1*q:Int):Rat)= - (PF.const (d:Rat)*PF.const ((x.2.1:Rat) / (x.2.2:Rat))):=by
   rw[<-gA,<-gQ];congr 1;rw[l];have:=lK t;push_cast;grind
  rw[e,f];show _= -(PF.const (d:Rat)*(dO g.s*(PF.const ((x.2.1:Rat) / (x.2.2:Rat))*φ ((dw n).at_ x.1.toNat)+Ym φ n A)));grind
end
theorem Ep (φ:Nat->PF)(n)(x)(d):Ym φ n (x::d)=PF.const ((x.2.1:Rat) / (x.2.2:Rat))*φ ((dw n).at_ x.1.toNat)+Ym φ n d:=rfl
theorem Cq (φ:Nat->PF)(n)(k):∀(ps:List Part),(∀p∈ps,Pn p/\(p.kind=3->p.a≠p.b))->
  Rv φ (((ps.map dF).filterMap fun(x:Elem)=>if x.kind= .M then(if x.refs.getD 0 0=k then some (x.refs.getD 1 0,x.q) else if x.refs.getD 1 0=k then some (x.refs.getD 0 0,x.q) else none) else none).map fun(p:Nat×Rat)=>((dw n).at_ p.1,-p.2))=
   - Ym φ n ((ps.filter fun p=>decide (p.kind=3/\((k:Int)=p.a\/(k:Int)=p.b))).map fun p=>(p.a+p.b - k,p.top,p.dG))
 |[],_=>by
  show(0:PF)= - 0;grind
 |p::ps,h=>by
  obtain⟨l,f⟩:=h p aC;have A:=Cq φ n k ps fun q t=>h q (ao _ t);rw[aK,c4];have i:(dF p).kind= .M↔p.kind=3:=l.M;have s:=l.a0;have r:=l.b0;by_cases d:p.kind=3
  ·have w:(dF p).refs.getD 0 0=p.a.toNat/\(dF p).refs.getD 1 0=p.b.toNat:=by
    unfold dF;dsimp only;rw[ai (l.M.mpr d)];exact⟨rfl,rfl⟩
   have u:=f d;rw[ai (i.mpr d),w.1,w.2];by_cases B:p.a.toNat=k
   ·rw[ai B];dsimp only;rw[bh (by exact aw ⟨d,.inl (by lia)⟩),aK,aK,Ep];show PF.const (-(dF p).q)*φ ((dw n).at_ p.b.toNat)+Rv φ _=_;rw[A,gQ,Jf];rw[<-B,Int.toNat_of_nonneg s,Int.add_comm,Int.add_sub_cancel];grind
   ·rw[ah B];by_cases v:p.b.toNat=k
    ·rw[ai v];dsimp only;rw[bh (by exact aw ⟨d,.inr (by lia)⟩),aK,aK,Ep];show PF.const (-(dF p).q)*φ ((dw n).at_ p.a.toNat)+Rv φ _=_;rw[A,gQ,Jf];rw[<-v,Int.toNat_of_nonneg r,Int.add_sub_cancel];grind
    ·rw[ah v];dsimp only;rw[bu (by rw[a4];lia)];exact A
  ·rw[ah (fun e=>d (i.mp e))];dsimp only;rw[bu (by rw[a4];exact fun q=>d q.1)];exact A
section
variable {n:Nw}(R:Right n){g:mY}{G:Wh.Setting}(S:m8 n g G){k:Nat}(hk:k<n.dc.length)
include R
theorem Er(q:(n.dc.getD k p0).kind=2)(hk:k<n.dc.length):∀x∈fm n.dc k,0<=x.1/\x.1<n.dc.length/\1<=x.2.2/\x.2.2<=1000000/\x.2.1.natAbs<=1000000:=fun x A=>by
 unfold fm at A;rcases aL.mp A with rfl |A
 ·have:=R.p hk;exact⟨Int.natCast_nonneg _,by show(k:Int)<_;lia,this.b1,this.b2,this.t⟩
 ·obtain⟨p,v,rfl⟩:=aV.mp A;obtain⟨h,l⟩:=b9.mp v;have l:=aI l;obtain⟨i,f,e⟩:=br h;have B:n.dc.getD i p0=p:=by rw[gDe,af f,e];rfl
  have w:=R.Vq f (by rw[B];exact l.1);have d:=R.p f;rw[B] at w d;have:=d.a0;have:=d.b0;refine⟨?_,?_,d.b1,d.b2,d.t⟩
  ·show 0<=p.a+p.b - (k:Int);lia
  ·show p.a+p.b - (k:Int)<_;lia
include S
theorem SQ(hk:k<n.dc.length):Al (Em (dO g.s) (dw n).unknowns) (gP g k) ((dw n).lawsOf G k (dF (n.dc.getD k p0))):=by
 have h:=R.p hk;have v:=h.a0;have w:=h.b0;have z:=h.c0;have X:=h.d0;have u:(0:Rat)<((n.dc.getD k p0).dG:Rat):=lK (by have:=h.b1;lia);have cd:=wu (a:=(n.dc.getD k p0).top) (b:=(n.dc.getD k p0).dG) (by have:=h.b1;lia);have r:∀φ,Pv φ (cur g (k:Int))=φ ((dw n).at_ k):=fun φ=>by
  have:=Jg R S φ (j:=(k:Int)) (by lia) (by lia)
  rwa [bK] at this
 have c1:=fN;have ad:=Ed;unfold gP Net.lawsOf;rw[S.eQ];dsimp only;rw[kh,Jf];have mn:=(R.g1 hk).num;have fo:=R.Yk hk;have oi:=S.on k hk;have va:=S.val k hk;have dr:=S.drop k hk;have ac:=Cq;generalize hp:n.dc.getD k p0=p at *;rcases tE h.k0 h.k1 with e |e |e |e |e |e |e |e |e |e |e |e |e |e
 ·have A:kindOf p.kind= .R:=by rw[e];rfl
  have l:p.kind.toNat=0:=by rw[e];rfl
  rw[A,l];dsimp only;obtain⟨f,B⟩:=gD A (.inl rfl);refine xG p.dG u fun φ=> ?_;unfold Lv;dsimp only;rw[f,B,qS,r,iZ,g9 φ p.a p.b v w];unfold oT;rw[m6];simp only[Rv,gQ];grind
 ·have A:kindOf p.kind= .C:=by rw[e];rfl
  have l:p.kind.toNat=1:=by rw[e];rfl
  rw[A,l];dsimp only;obtain⟨f,B⟩:=gD A (.inl rfl);refine xG p.dG u fun φ=> ?_;unfold Lv;dsimp only;rw[f,B,qS,r,g9 φ p.a p.b v w,tH];unfold oT;rw[m6];simp only[Rv,gQ];grind
 ·have A:kindOf p.kind= .L:=by rw[e];rfl
  have l:p.kind.toNat=2:=by rw[e];rfl
  rw[A,l];dsimp only;obtain⟨f,B⟩:=gD A (.inl rfl);have sin:=Er R (k:=k) (by rw[hp];exact e) hk;have N:0<common (fm n.dc k):=xH _ 1 (by decide) fun x P=>by have:=sin x P;lia
  have ab:=(Eo (fm n.dc k) 1).2;refine xG (common (fm n.dc k):Rat) (lK N) fun φ=> ?_;unfold sY Lv;dsimp only;rw[S.eQ,iy,tH,we,HD R S φ _ N _ (fun x P=>⟨(sin x P).1,(sin x P).2.1,by have:=sin x P;lia,ab x P⟩),f,B,g9 φ p.a p.b v w,hp];unfold oT;rw[m6];have J:Rv φ (((dw n).at_ k,-((p.top:Rat) / (p.dG:Rat)))::((dw n).coupled k).map fun(p:Nat×Rat)=>((dw n).at_ p.1,-p.2))= - Ym φ n (fm n.dc k):=by
   show PF.const (-((p.top:Rat) / (p.dG:Rat)))*φ ((dw n).at_ k)+Rv φ _=_;unfold Net.coupled;have:=ac φ n k n.dc (fun q hq=>⟨R.pn q hq,fun e3=>by
    obtain⟨i,hi,ei⟩:=br hq;have ep:n.dc.getD i p0=q:=by rw[gDe,af hi,ei];rfl
    have:=R.Vq hi (by rw[ep];exact e3);rw[ep] at this;exact this.1⟩)
   rw[show(dw n).elems=n.dc.map dF from rfl,this];unfold fm;rw[Ep,hp,bK,gQ];grind
  rw[J];grind
 ·have A:kindOf p.kind= .M:=by rw[e];rfl
  have l:p.kind.toNat=3:=by rw[e];rfl
  rw[A,l];exact .nil
 ·have A:kindOf p.kind= .V:=by rw[e];rfl
  have l:p.kind.toNat=4:=by rw[e];rfl
  rw[A,l];dsimp only;obtain⟨f,B⟩:=gD A (.inl rfl);obtain⟨t,m⟩:=va (.inl e);refine xG _ (lK t) fun φ=> ?_;unfold Lv;dsimp only;have:=wu (a:=(g.drives.getD k (0,1)).1) t;rw[f,B,M1 R S,m,g9 φ p.a p.b v w];unfold oT;rw[m6];simp only[Rv];grind
 ·have A:kindOf p.kind= .I:=by rw[e];rfl
  have l:p.kind.toNat=5:=by rw[e];rfl
  rw[A,l];dsimp only;obtain⟨t,m⟩:=va (.inr e);refine xG _ (lK t) fun φ=> ?_;unfold Lv;dsimp only;have:=wu (a:=(g.drives.getD k (0,1)).1) t;rw[M1 R S,m,r];simp only[Rv];grind
 ·have A:kindOf p.kind= .E:=by rw[e];rfl
  have l:p.kind.toNat=6:=by rw[e];rfl
  rw[A,l];dsimp only;obtain⟨f,B⟩:=gD A (.inr rfl);obtain⟨o,y⟩:=me A rfl;refine xG p.dG u fun φ=> ?_;unfold Lv;dsimp only;rw[f,B,o,y,qS,iZ,g9 φ p.a p.b v w,g9 φ p.c p.d z X];unfold oT IX;rw[m6,m6];simp only[Rv,gQ];grind
 ·have A:kindOf p.kind= .G:=by rw[e];rfl
  have l:p.kind.toNat=7:=by rw[e];rfl
  rw[A,l];dsimp only;obtain⟨o,y⟩:=me A rfl;refine xG p.dG u fun φ=> ?_;unfold Lv;dsimp only;rw[o,y,qS,r];show _=_* (PF.const 1*φ ((dw n).at_ k)+Rv φ (across p.c.toNat p.d.toNat (-((p.top:Rat) / (p.dG:Rat))))+dO g.s*0+_);rw[g9 φ p.c p.d z X];unfold IX;rw[m6];simp only[gQ];grind
 ·have A:kindOf p.kind= .H:=by rw[e];rfl
  have l:p.kind.toNat=8:=by rw[e];rfl
  rw[A,l];dsimp only;obtain⟨f,B⟩:=gD A (.inl rfl);have W:=Jh A (by decide) rfl;have ff:=fo (.inl e);refine xG p.dG u fun φ=> ?_;unfold Lv;dsimp only;rw[f,B,W,qS,iZ,g9 φ p.a p.b v w,Jg R S φ z (by lia)];unfold oT;rw[m6];simp only[Rv,gQ];grind
 ·have A:kindOf p.kind= .F:=by rw[e];rfl
  have l:p.kind.toNat=9:=by rw[e];rfl
  rw[A,l];dsimp only;have W:=Jh A (by decide) rfl;have ff:=fo (.inr e);refine xG p.dG u fun φ=> ?_;unfold Lv;dsimp only;rw[W,qS,r,Jg R S φ z (by lia)];simp only[Rv,gQ];grind
 ·have A:kindOf p.kind= .T:=by rw[e];rfl
  have l:p.kind.toNat=10:=by rw[e];rfl
  rw[A,l];dsimp only;obtain⟨f,B⟩:=gD A (.inr rfl);obtain⟨o,y⟩:=me A rfl;refine .cons ⟨p.dG,u,fun φ=> ?_⟩ (xG p.dG u fun φ=> ?_)
  ·unfold Lv;dsimp only;rw[f,B,o,y,qS,iZ,g9 φ p.a p.b v w,g9 φ p.c p.d z X];unfold oT IX;rw[m6,m6];simp only[Rv,gQ];grind
  ·unfold Lv;dsimp only;rw[qS,tH,r,En];have J:Pv φ [((places n).getD k 0+1,[1])]=φ ((dw n).at_ k+1):=by
    show dO [1]*φ ((places n).getD k 0+1).toNat+0=_;have:((places n).getD k 0+1).toNat=(dw n).at_ k+1:=by
     rw[R.place hk];lia
    rw[this,zA];grind
   rw[J];simp only[Rv];grind
 ·have A:kindOf p.kind= .O:=by rw[e];rfl
  have l:p.kind.toNat=11:=by rw[e];rfl
  rw[A,l];dsimp only;obtain⟨o,y⟩:=me A rfl;refine xG 1 (by decide) fun φ=> ?_;unfold Lv;dsimp only;rw[o,y,g9 φ p.c p.d z X];unfold IX;rw[m6];simp only[Rv];grind
 ·have A:kindOf p.kind= .S:=by rw[e];rfl
  have l:p.kind.toNat=12:=by rw[e];rfl
  rw[A,l];show Al _ [if p.top=0 then cur g k else oT p] (if(p.top:Rat) / (p.dG:Rat)=1 then[_] else[_]);obtain⟨f,B⟩:=gD A (.inl rfl);have hm:p.top=0\/p.top=p.dG:=by
   unfold pL at mn;rw[ah (by lia),ah (by lia),ah (by lia),ai e] at mn;exact aI mn
  by_cases Q:p.top=0
  ·rw[ai Q,ah (by
    rw[Q];intro q;have:(((0:Int):Rat) / (p.dG:Rat))=0:=by
     push_cast;grind
    rw[this] at q;exact absurd q (by decide))]
   refine xG 1 (by decide) fun φ=> ?_;unfold Lv;dsimp only;rw[r];simp only[Rv];grind
  ·have aa:p.top=p.dG:=hm.resolve_left Q;rw[ah Q,ai (by rw[aa];grind)];refine xG 1 (by decide) fun φ=> ?_;unfold Lv;dsimp only;rw[f,B,g9 φ p.a p.b v w];unfold oT;rw[m6];simp only[Rv];grind
 ·have A:kindOf p.kind= .D:=by rw[e];rfl
  have l:p.kind.toNat=13:=by rw[e];rfl
  rw[A,l];show Al _ (if g.gZ.getD k false=true then[Mh g k (oT p)] else[cur g k]) (if G.on k=true then[_] else[_]);obtain⟨f,B⟩:=gD A (.inl rfl);obtain⟨t,m⟩:=dr e;rw[oi];by_cases K:g.gZ.getD k false=true
  ·rw[ai K,ai K];refine xG _ (lK t) fun φ=> ?_;unfold Lv;dsimp only;have:=wu (a:=(g.drives.getD k (0,1)).1) t;rw[f,B,M1 R S,m,g9 φ p.a p.b v w];unfold oT;rw[m6];simp only[Rv];grind
  ·rw[ah K,ah K];refine xG 1 (by decide) fun φ=> ?_;unfold Lv;dsimp only;rw[r];simp only[Rv];grind
end
theorem g7 (n):(dw n).indexed=(List.range n.dc.length).map fun k=>(k,dF (n.dc.getD k p0)):=by
 unfold Net.indexed;rw[Je (dw n).elems (dF p0),aN];show(List.range (n.dc.map dF).length).map _=_;rw[lMp];apply aT;intro i d;have d:=aY.mp d;show(i,(n.dc.map dF).getD i (dF p0))=_;rw[gDe,aD,gDe,af d];rfl
theorem O7(φ:Nat->PF){γ:Type}{f:γ->List Term}{h:γ->List (Nat×Rat)}:∀(l:List γ),(∀i∈l,Pv φ (f i)=Rv φ (h i))->Pv φ (l.flatMap f)=Rv φ (l.flatMap h)
 |[],_=>rfl
 |x::l,e=>by
  rw[bP,bP,iy,iZ,e x aC,O7 φ l fun i d=>e i (ao _ d)]
theorem xb (n):(places n).length=n.dc.length:=by
 unfold places;have:∀(d:List Part) (f:Int),(iC f d).length=d.length:=by
  intro d;induction d with
  |nil=>intro f;rfl
  |cons p d A=>intro f;show(iC _ d).length+1=_;rw[A];rfl
 exact this _ _
theorem M3 (φ:Nat->PF)(c)[Decidable c](i):Rv φ (if c then[(i,1)] else[])=if c then φ i else 0:=by
 split
 ·show PF.const 1*φ i+0=_;rw[fN];grind
 ·rfl
theorem M4 (φ:Nat->PF)(c)[Decidable c](i):Rv φ (if c then[(i,-1)] else[])=if c then - φ i else 0:=by
 split
 ·show PF.const (-1)*φ i+0=_;rw[gQ,fN];grind
 ·rfl
theorem M5 (φ:Nat->PF)(c)[Decidable c](i):Pv φ (if c then[(i,[1])] else[])=if c then φ i.toNat else 0:=by
 split
 ·show dO [1]*φ i.toNat+0=_;rw[zA];grind
 ·rfl
theorem M6 (φ:Nat->PF)(c)[Decidable c](i):Pv φ (if c then[(i,[-1])] else[])=if c then - φ i.toNat else 0:=by
 split
 ·show dO [-1]*φ i.toNat+0=_;rw[En];grind
 ·rfl
theorem SR (R:Right n)(σ)(m v:Nat):Em σ m (lH n ((v:Int)+1)) ⟨(dw n).indexed.flatMap fun(p:Nat×Elem)=>(dw n).outOf (v+1) p.1 p.2,[],0⟩:=by
 refine⟨1,by decide,fun φ=> ?_⟩;unfold Lv;dsimp only;have e:Pv φ (lH n ((v:Int)+1))=Rv φ ((dw n).indexed.flatMap fun(p:Nat×Elem)=>(dw n).outOf (v+1) p.1 p.2):=by
  unfold lH;rw[HB n.dc (places n) p0 0 (xb n),g7,cO,cO];refine O7 φ _ fun k B=> ?_;have B:=aY.mp B;dsimp only;have A:=R.p B;rw[R.place B];unfold Net.outOf;dsimp only;rw[kh];generalize n.dc.getD k p0=p at A⊢;have y:=A.a0;have C:=A.b0;have G:=A.c0;have S:=A.d0;have h:=zSv (v:=v) y;have q:=zSv (v:=v) C;have o:=zSv (v:=v) G;have cd:=zSv (v:=v) S
  have t:∀i:Nat,((i:Int)).toNat=i:=fun i=>bK i;have H:∀i:Nat,((i:Int)+1).toNat=i+1:=fun i=>by lia
  by_cases f:p.kind=3
  ·rw[ai f,ai (A.M.mpr f)];rfl
  ·rw[ah f,ah (fun e=>f (A.M.mp e))];by_cases l:p.kind=10
   ·rw[ai l,ai (A.T.mpr l)];obtain⟨x,w⟩:=gD (A.T.mpr l) (.inr rfl);obtain⟨s,u⟩:=me (A.T.mpr l) rfl;rw[x,w,s,u];rw[iy,iy,iy,iZ,iZ,iZ,M5,M5,M6,M6,M3,M3,M4,M4];simp only[h,q,o,cd,t,H];grind
   ·rw[ah l,ah (fun e=>l (A.T.mp e))];have r:nodeCount (kindOf p.kind)=2\/nodeCount (kindOf p.kind)=4:=by
     unfold nodeCount;rw[ah (fun e=>f (A.M.mp e))];split
     ·exact .inr rfl
     ·exact .inl rfl
    obtain⟨x,w⟩:=gD (rfl:kindOf p.kind=kindOf p.kind) r;rw[x,w];rw[iy,iy,iZ,M5,M6,M3,M4];simp only[h,q,t];show _+ (0:PF)=_;grind
 rw[e,fN,Ed];show _=1*(_+ σ*0+0*φ m);grind
theorem wx (R:Right n)(S:m8 n g G):Al (Em (dO g.s) (dw n).unknowns) (iD g) ((dw n).laws G):=by
 unfold iD Net.laws;rw[S.eQ];refine Al.append ?_ ?_
 ·exact O4 _ fun v _=>SR R _ _ v
 ·rw[g7,cO];exact O5 _ fun k d=>SQ R S (aY.mp d)
theorem M7 (N:Net)(G)(k)(x):(N.lawsOf G k x).length=x.currents:=by
 unfold Net.lawsOf Elem.currents;dsimp only;cases x.kind <;>simp <;>split <;>rfl
theorem vB{γ β:Type}{f:γ->List β}{c:γ->Nat}:∀(l:List γ),(∀i∈l,(f i).length=c i)->(l.flatMap f).length=Wh.sumNat (l.map c)
 |[],_=>rfl
 |x::l,h=>by
  rw[bP,aJ,aK,fW,h x aC,vB l fun i d=>h i (ao _ d)]
theorem lA (n)(G):((dw n).laws G).length=(dw n).unknowns:=by
 unfold Net.laws;rw[aJ,lMp,a5,vB (c:=fun p:Nat×Elem=>p.2.currents) _ (fun p _=>M7 _ _ _ _)];unfold Net.unknowns Net.at_;congr 2;rw[aQ,g7,aN];show _=(n.dc.map dF).map Elem.currents;rw[HA (n.dc.map dF) (dF p0),aN,lMp];apply aT;intro i d;have d:=aY.mp d;show(dF (n.dc.getD i p0)).currents=((n.dc.map dF).getD i (dF p0)).currents;congr 1;rw[gDe,gDe,aD,af d];rfl
theorem Bk (row)(t):(vk row t).length=row.length:=by unfold vk;simp
theorem HE (row:kf)(i j)(x)(h:j<row.length):(row.set i x).getD j []=if j=i then x else row.getD j []:=by
 rw[gDe,gDe,cS];by_cases q:i=j
 ·subst q;rw[ai rfl,ai h,ai rfl];rfl
 ·rw[ah q,ah (b5 q)]
theorem K6 (j):∀(d:List Term) (row:kf),j<row.length->dO ((d.foldl vk row).getD j [])=dO (row.getD j [])+Pv (ei j) d
 |[],row,_=>by
  show _=_+ (0:PF);rw[List.foldl_nil];grind
 |t::d,row,h=>by
  rw[bQ,K6 j d _ (by rw[Bk];exact h)];show _=_+ (dO t.2*ei j t.1.toNat+Pv (ei j) d);unfold vk;rw[HE _ _ _ _ h];by_cases q:j=t.1.toNat
  ·rw[ai q,KP,<-q,uI];grind
  ·rw[ah q,w6 (b5 q)];grind
theorem HF (j):∀(d:List Term) (row:kf),j<row.length->Trim (row.getD j [])->Trim ((d.foldl vk row).getD j [])
 |[],_,_,h=>h
 |t::d,row,h,A=>by
  rw[bQ];refine HF j d _ (by rw[Bk];exact h) ?_;unfold vk;rw[HE _ _ _ _ h];split
  ·exact QJ _ _
  ·exact A
theorem HG:∀(d:List Term) (row:kf),(d.foldl vk row).length=row.length
 |[],_=>rfl
 |t::d,row=>by rw[bQ,HG d,Bk]
theorem K7 (m j):(List.replicate m ([]:dQ)).getD j []=[]:=by
 rw[gDe,bY];split <;>rfl
theorem wy (w)(d)(j)(h:j<(w+1).toNat):dO ((rowOf w d).getD j [])=Pv (ei j) d/\Trim ((rowOf w d).getD j [])/\(rowOf w d).length=(w+1).toNat:=by
 unfold rowOf;refine⟨?_,HF j d _ (by rw[a9];exact h) (by rw[K7];exact zh),by rw[HG,a9]⟩;rw[K6 j d _ (by rw[a9];exact h),K7];show(0:PF)+_=_;grind
noncomputable def L0:Law:=⟨[],[],0⟩
def Sm(n:Nw)(G:Setting)(σ:PF):Nat->Nat->PF:=fun i j=>Lv (ei j) σ (dw n).unknowns (((dw n).laws G).getD i L0)
section
variable {n:Nw}(R:Right n){g:mY}{G:Wh.Setting}(S:m8 n g G)
include R S
theorem SS:(rows g).length=(dw n).unknowns:=by
 unfold rows;rw[lMp,(wx R S).len,lA]
theorem zB (h:i<(dw n).unknowns):(rows g).getD i []=rowOf (width n) ((iD g).getD i []):=by
 have l:(iD g).length=(dw n).unknowns:=by rw[(wx R S).len,lA]
 unfold rows;rw[gDe,aD,gDe,af (by lia),S.eQ];rfl
theorem zC:Tab (dw n).unknowns (rows g):=by
 have w:(width n+1).toNat=(dw n).unknowns+1:=by rw[R.Bj];lia
 refine⟨SS R S,fun i d=> ?_,fun i j d A=> ?_⟩
 ·rw[zB R S d,(wy (width n) _ 0 (by lia)).2.2,w]
 ·unfold ent;rw[zB R S d];exact(wy _ _ j (by lia)).2.1
theorem SU:∃κ:Nat->Rat,(∀i,i<(dw n).unknowns->0<κ i)/\∀i j,i<(dw n).unknowns->j<(dw n).unknowns+1->uJ (rows g) i j=PF.const (κ i)*Sm n G (dO g.s) i j:=by
 have w:(width n+1).toNat=(dw n).unknowns+1:=by rw[R.Bj];lia
 have l:(iD g).length=(dw n).unknowns:=by rw[(wx R S).len,lA]
 have rel:∀i,i<(dw n).unknowns->Em (dO g.s) (dw n).unknowns ((iD g).getD i []) (((dw n).laws G).getD i L0):=fun i d=>(wx R S).get [] L0 i (by lia);refine⟨fun i=>if h:i<(dw n).unknowns then Classical.choose (rel i h) else 1,fun i d=> ?_,fun i j d A=> ?_⟩
 ·dsimp only;rw[dif_pos d];exact(Classical.choose_spec (rel i d)).1
 ·dsimp only;rw[dif_pos d];unfold uJ ent;rw[zB R S d,(wy _ _ j (by lia)).1];exact(Classical.choose_spec (rel i d)).2 (ei j)
end
section
variable {A:Type} [CommRing A]
noncomputable def HH:Nat->(Nat->A)->A
 |0,_=>1
 |n+1,f=>HH n f*f n
theorem HI (n)(κ:Nat->A)(F:Nat->Nat->A):∀m,m<=n->det n (fun i j=>if i<m then κ i*F i j else F i j)=HH m κ*det n F
 |0,_=>by
  show _=1*_;rw[fh n (B:=F) fun i j _ _=>by rw[ah (by lia)]];grind
 |m+1,h=>by
  have f:=HI n κ F m (by lia);have e:(fun i j=>if i<m+1 then κ i*F i j else F i j)=eW (fun i j=>if i<m then κ i*F i j else F i j) m (fun j=>κ m*F m j):=by
   funext i j;show _=if i=m then κ m*F m j else if i<m then κ i*F i j else F i j;by_cases q:i=m
   ·rw[ai q,ai (by lia),q]
   ·rw[ah q];by_cases d:i<m
    ·rw[ai d,ai (by lia)]
    ·rw[ah d,ah (by lia)]
  have l:eW (fun i j=>if i<m then κ i*F i j else F i j) m (F m)=fun i j=>if i<m then κ i*F i j else F i j:=by
   funext i j;show(if i=m then F m j else if i<m then κ i*F i j else F i j)=_;by_cases q:i=m
   ·rw[ai q,ah (by lia),q]
   ·rw[ah q]
  rw[e,rC n _ m (κ m) (F m) (by lia),l,f];show _=HH m κ*κ m*det n F;grind
theorem Es (n)(κ:Nat->A)(F B:Nat->Nat->A)(h:∀i j,i<n->j<n->B i j=κ i*F i j):det n B=HH n κ*det n F:=by
 rw[<-HI n κ F n (aj _)];exact fh n fun i j d l=>by rw[ai d];exact h i j d l
end
theorem Et(κ:Nat->Rat):∀m,(∀i,i<m->0<κ i)->∃c:Rat,0<c/\HH m (fun i=>PF.const (κ i))=PF.const c
 |0,_=>⟨1,by decide,rfl⟩
 |m+1,h=>by
  obtain⟨c,d,e⟩:=Et κ m fun i A=>h i (by lia);refine⟨c*κ m,Rat.mul_pos d (h m (by lia)),?_⟩;show HH m _* PF.const (κ m)=_;rw[e,gA]
theorem K8 (R:Right n)(S:m8 n g G):
  (∃d A,sol (rows g)=some (d,A)/\A.length=(dw n).unknowns/\Trim d/\d≠[]/\(∀c,c<(dw n).unknowns->Trim (A.getD c []))/\∃q:Rat,q≠0/\dO d=PF.const q*det (dw n).unknowns (Sm n G (dO g.s))/\∀c,c<(dw n).unknowns->dO (A.getD c [])=PF.const q*det (dw n).unknowns (fD (Sm n G (dO g.s)) c fun i=>Sm n G (dO g.s) i (dw n).unknowns))\/
  (sol (rows g)=none/\det (dw n).unknowns (Sm n G (dO g.s))=0/\∃x:Nat->PF,(∃j,j<(dw n).unknowns/\x j≠0)/\∀i,i<(dw n).unknowns->eV (dw n).unknowns (fun d=>Sm n G (dO g.s) i d*x d)=0):=by
 obtain⟨κ,w,f⟩:=SU R S;obtain⟨c,h,k⟩:=Et κ (dw n).unknowns w;have UY:c≠0:=fun e=>by rw[e] at h;exact absurd h (by decide)
 have B:det (dw n).unknowns (uJ (rows g))=PF.const c*det (dw n).unknowns (Sm n G (dO g.s)):=by
  rw[Es _ (fun i=>PF.const (κ i)) (Sm n G (dO g.s)) _ fun i j l t=>f i j l (by lia),k]
 rcases ML (zC R S) with⟨d,A,e,so⟩ |⟨e,h0,x,hx,hs⟩
 ·obtain⟨ε,b,r,p⟩:=so.sgn;have u:∃q:Rat,q≠0/\ε=PF.const q:=by
   rcases b with e |e
   ·exact⟨1,by decide,by rw[e,fN]⟩
   ·exact⟨-1,by decide,by rw[e,gQ,fN]⟩
  obtain⟨q,C,v⟩:=u;refine .inl ⟨d,A,e,so.len,so.D7,so.Yj,so.trim,q*c,?_,?_,fun a o=> ?_⟩
  ·exact fun z=>by rcases bR.mp z with z |z <;>contradiction
  ·rw[r,B,v,gA];grind
  ·rw[p a o,Es _ (fun i=>PF.const (κ i)) (fD (Sm n G (dO g.s)) a fun i=>Sm n G (dO g.s) i (dw n).unknowns) _ fun i j l t=>by
    show(if j=a then _ else _)=_* (if j=a then _ else _);split
    ·exact f i _ l (by lia)
    ·exact f i j l (by lia),k,v,gA]
   grind
 ·refine .inr ⟨e,?_,x,hx,fun i l=> ?_⟩
  ·rw[B] at h0;exact PF.wc (iY UY) _ _ (by rw[h0];grind)
  ·have:=hs i l;have H:κ i≠0:=fun e=>by have:=w i l;rw[e] at this;exact absurd this (by decide)
   refine PF.wc (iY H) _ _ ?_;rw[<-gj];rw[e7 (g:=fun d=>PF.const (κ i)*(Sm n G (dO g.s) i d*x d)) _ fun j t=>by rw[f i j l (by lia)];grind] at this;rw[this];grind
theorem oo:∀l m:List Nat,Wh.sumNat (l ++ m)=Wh.sumNat l+Wh.sumNat m
 |[],m=>by
  show Wh.sumNat m=0+_;lia
 |a::l,m=>by rw[List.cons_append,fW,fW,oo l m];lia
theorem K9 (n)(h:k<n.dc.length):∃r,(dw n).unknowns=(dw n).at_ k+(dF (n.dc.getD k p0)).currents+r:=by
 have e:n.dc.map dF=(n.dc.map dF).take k ++ dF (n.dc.getD k p0)::(n.dc.map dF).drop (k+1):=by
  have d:k<(n.dc.map dF).length:=by rw[lMp];exact h
  have q:(n.dc.map dF)[k]=dF (n.dc.getD k p0):=by
   rw[List.getElem_map,gDe,af h];rfl
  rw[<-q,List.getElem_cons_drop,List.take_append_drop]
 refine⟨Wh.sumNat (((n.dc.map dF).drop (k+1)).map Elem.currents),?_⟩;unfold Net.unknowns Net.at_;rw[aQ];show n.last.toNat+Wh.sumNat ((n.dc.map dF).map Elem.currents)=n.last.toNat+Wh.sumNat (((n.dc.map dF).take k).map Elem.currents)+_+ _;have:=congrArg (fun l=>Wh.sumNat (l.map Elem.currents)) e;rw[this,bC,oo,aK,fW];lia
theorem zD (n):n.last.toNat<=(dw n).unknowns:=by
 show n.last.toNat<=n.last.toNat+_;lia
theorem Vr (h:Pn p)(d:p.kind≠3):1<=(dF p).currents:=by
 unfold Elem.currents;rw[kh,ah (fun e=>d (h.M.mp e))];split <;>decide
theorem Vs (h:Pn p)(d:p.kind=10):(dF p).currents=2:=by
 unfold Elem.currents;rw[kh,ah (fun e=>by have:=h.M.mp e;lia),ai (h.T.mpr d)]
section
variable {n:Nw}(R:Right n)
include R
theorem zE (h:k<n.dc.length)(d:(n.dc.getD k p0).kind≠3):(dw n).at_ k<(dw n).unknowns:=by
 obtain⟨r,e⟩:=K9 n h;have:=Vr (R.p h) d;lia
theorem Ji (h:k<n.dc.length)(d:(n.dc.getD k p0).kind=10):(dw n).at_ k+1<(dw n).unknowns:=by
 obtain⟨r,e⟩:=K9 n h;have:=Vs (R.p h) d;lia
omit R in
theorem O8 (h:a<=m):∀t∈volt a q,t.1<m:=fun t d=>by
 unfold volt at d;split at d
 ·cases d
 ·rw[aE.mp d];show a - 1<m;lia
omit R in
theorem hC (A:a<=m)(l:b<=m):∀t∈across a b q,t.1<m:=fun t d=>by
 rcases aX.mp d with h |h
 ·exact O8 A t h
 ·exact O8 l t h
def Xy(m:Nat)(L:Law):Prop:=(∀t∈L.terms,t.1<m)/\∀t∈L.byS,t.1<m
omit R in
theorem none_lt:∀t∈([]:List (Nat×Rat)),t.1<m:=fun t h=>by cases h
omit R in
theorem oF {m:Nat}{q:Rat}(h:i<m):∀t∈[(i,q)],t.1<m:=fun t d=>by rw[aE.mp d];exact h
omit R in
theorem vC {r:List (Nat×Rat)}(i:∀t∈l,t.1<m)(A:∀t∈r,t.1<m):∀t∈l ++ r,t.1<m:=fun t d=>(aX.mp d).elim (i t) (A t)
theorem QU (G)(P:k<n.dc.length):∀L∈(dw n).lawsOf G k (dF (n.dc.getD k p0)),Xy (dw n).unknowns L:=by
 have j:=R.p P;have ab:=R.ab P;have g:=R.cd P;have W:=R.Yk P;have nl:=zD n;have s:=zE R P;have X:=Ji R P;have a0:=j.a0;have b0:=j.b0;have c0:=j.c0;have d0:=j.d0;have lp:=R.l1;unfold Net.lawsOf;dsimp only;rw[kh];have Q:(n.dc.getD k p0).kind=2->∀t∈((dw n).coupled k).map fun(p:Nat×Rat)=>((dw n).at_ p.1,-p.2),t.1<(dw n).unknowns:=fun _ t ht=>by
  obtain⟨q,hq,rfl⟩:=aV.mp ht;unfold Net.coupled at hq;obtain⟨x,hx,u⟩:=List.mem_filterMap.mp hq;obtain⟨p,K,rfl⟩:=aV.mp (show x∈n.dc.map dF from hx);obtain⟨i,hi,ei⟩:=br K;have ep:n.dc.getD i p0=p:=by rw[gDe,af hi,ei];rfl
  by_cases J:(dF p).kind= .M
  ·rw[ai J] at u;have h3:p.kind=3:=(R.pn p K).M.mp J;have N:=R.Vq hi (by rw[ep];exact h3);rw[ep] at N;have m:(dF p).refs.getD 0 0=p.a.toNat/\(dF p).refs.getD 1 0=p.b.toNat:=by
    unfold dF;dsimp only;rw[ai (show kindOf p.kind= .M from J)];exact⟨rfl,rfl⟩
   have pa:=(R.pn p K).a0;have pb:=(R.pn p K).b0;have key:∀z:Int,0<=z->z<i->kindAt n.dc z=2->(dw n).at_ z.toNat<(dw n).unknowns:=fun z z0 zi zk=>zE R (by lia) (by
    unfold kindAt at zk;rw[zk];decide)
   rw[m.1,m.2] at u;split at u
   ·cases u;exact key p.b pb N.2.2.1 N.2.2.2
   ·split at u
    ·cases u;exact key p.a pa N.2.1.1 N.2.1.2
    ·cases u
  ·rw[ah J] at u;cases u
 generalize K:n.dc.getD k p0=p at *;have B:p.kind≠3->p.a.toNat<=(dw n).unknowns/\p.b.toNat<=(dw n).unknowns:=fun h=>by have:=ab h;clear g W s X Q;lia
 have r:(p.kind=6\/p.kind=7\/p.kind=10\/p.kind=11)->p.c.toNat<=(dw n).unknowns/\p.d.toNat<=(dw n).unknowns:=fun h=>by have:=g h;clear ab W s X Q B;lia
 have three:∀{z:Int},p.kind=z->decide (z≠3)=true->p.kind≠3:=fun e h=>by rw[e];exact aI h
 clear ab g nl a0 b0 d0 lp;rcases tE j.k0 j.k1 with e |e |e |e |e |e |e |e |e |e |e |e |e |e
 ·have A:kindOf p.kind= .R:=by rw[e];rfl
  rw[A];obtain⟨v,w⟩:=gD A (.inl rfl);rw[v,w];intro L f;rw[aE.mp f];exact⟨vC (hC (B (three e rfl)).1 (B (three e rfl)).2) (oF (s (three e rfl))),none_lt⟩
 ·have A:kindOf p.kind= .C:=by rw[e];rfl
  rw[A];obtain⟨v,w⟩:=gD A (.inl rfl);rw[v,w];intro L f;rw[aE.mp f];exact⟨oF (s (three e rfl)),hC (B (three e rfl)).1 (B (three e rfl)).2⟩
 ·have A:kindOf p.kind= .L:=by rw[e];rfl
  rw[A];obtain⟨v,w⟩:=gD A (.inl rfl);rw[v,w];intro L f;rw[aE.mp f];exact⟨hC (B (three e rfl)).1 (B (three e rfl)).2,vC (l:=[_]) (oF (s (three e rfl))) (Q e)⟩
 ·have A:kindOf p.kind= .M:=by rw[e];rfl
  rw[A];intro L f;cases f
 ·have A:kindOf p.kind= .V:=by rw[e];rfl
  rw[A];obtain⟨v,w⟩:=gD A (.inl rfl);rw[v,w];intro L f;rw[aE.mp f];exact⟨hC (B (three e rfl)).1 (B (three e rfl)).2,none_lt⟩
 ·have A:kindOf p.kind= .I:=by rw[e];rfl
  rw[A];intro L f;rw[aE.mp f];exact⟨oF (s (three e rfl)),none_lt⟩
 ·have A:kindOf p.kind= .E:=by rw[e];rfl
  rw[A];obtain⟨v,w⟩:=gD A (.inr rfl);obtain⟨o,y⟩:=me A rfl;rw[v,w,o,y];intro L f;rw[aE.mp f];exact⟨vC (hC (B (three e rfl)).1 (B (three e rfl)).2) (hC (r (.inl e)).1 (r (.inl e)).2),none_lt⟩
 ·have A:kindOf p.kind= .G:=by rw[e];rfl
  rw[A];obtain⟨o,y⟩:=me A rfl;rw[o,y];intro L f;rw[aE.mp f];exact⟨vC (l:=[_]) (oF (s (three e rfl))) (hC (r (.inr (.inl e))).1 (r (.inr (.inl e))).2),none_lt⟩
 ·have A:kindOf p.kind= .H:=by rw[e];rfl
  rw[A];obtain⟨v,w⟩:=gD A (.inl rfl);have m:=Jh A (by decide) rfl;have ff:=W (.inl e);rw[v,w,m];intro L f;rw[aE.mp f];exact⟨vC (hC (B (three e rfl)).1 (B (three e rfl)).2) (oF (zE R (by lia) ff.2)),none_lt⟩
 ·have A:kindOf p.kind= .F:=by rw[e];rfl
  rw[A];have m:=Jh A (by decide) rfl;have ff:=W (.inr e);rw[m];intro L f;rw[aE.mp f];exact⟨vC (l:=[_]) (oF (s (three e rfl))) (oF (zE R (by lia) ff.2)),none_lt⟩
 ·have A:kindOf p.kind= .T:=by rw[e];rfl
  rw[A];obtain⟨v,w⟩:=gD A (.inr rfl);obtain⟨o,y⟩:=me A rfl;rw[v,w,o,y];intro L f;rcases aL.mp f with rfl |f
  ·exact⟨vC (hC (B (three e rfl)).1 (B (three e rfl)).2) (hC (r (.inr (.inr (.inl e)))).1 (r (.inr (.inr (.inl e)))).2),none_lt⟩
  ·rw[aE.mp f];exact⟨vC (l:=[_]) (oF (X e)) (oF (s (three e rfl))),none_lt⟩
 ·have A:kindOf p.kind= .O:=by rw[e];rfl
  rw[A];obtain⟨o,y⟩:=me A rfl;rw[o,y];intro L f;rw[aE.mp f];exact⟨hC (r (.inr (.inr (.inr e)))).1 (r (.inr (.inr (.inr e)))).2,none_lt⟩
 ·have A:kindOf p.kind= .S:=by rw[e];rfl
  rw[A];obtain⟨v,w⟩:=gD A (.inl rfl);rw[v,w];intro L f;dsimp only at f;split at f
  ·rw[aE.mp f];exact⟨hC (B (three e rfl)).1 (B (three e rfl)).2,none_lt⟩
  ·rw[aE.mp f];exact⟨oF (s (three e rfl)),none_lt⟩
 ·have A:kindOf p.kind= .D:=by rw[e];rfl
  rw[A];obtain⟨v,w⟩:=gD A (.inl rfl);rw[v,w];intro L f;dsimp only at f;split at f
  ·rw[aE.mp f];exact⟨hC (B (three e rfl)).1 (B (three e rfl)).2,none_lt⟩
  ·rw[aE.mp f];exact⟨oF (s (three e rfl)),none_lt⟩
theorem SV (G):∀L∈(dw n).laws G,Xy (dw n).unknowns L:=fun L x=>by
 unfold Net.laws at x;rcases aX.mp x with h |h
 ·obtain⟨v,w,rfl⟩:=aV.mp h;refine⟨fun t d=> ?_,none_lt⟩;rw[g7,cO] at d;obtain⟨k,A,d⟩:=cP.mp d;have A:=aY.mp A;have f:=R.p A;unfold Net.outOf at d;dsimp only at d;rw[kh] at d;have one:∀(c:Prop) [Decidable c] (i:Nat) (q:Rat),t∈(if c then[(i,q)] else[])->t.1=i:=fun c _ i q h=>by
   split at h
   ·rw[aE.mp h]
   ·cases h
  by_cases B:(n.dc.getD k p0).kind=3
  ·rw[ai (f.M.mpr B)] at d;cases d
  ·rw[ah (fun e=>B (f.M.mp e))] at d;have b:=zE R A B;by_cases l:(n.dc.getD k p0).kind=10
   ·have a:=Ji R A l;rw[ai (f.T.mpr l)] at d;rcases aX.mp d with d |d
    ·have:=one _ _ _ d;lia
    rcases aX.mp d with d |d
    ·have:=one _ _ _ d;lia
    rcases aX.mp d with d |d
    ·have:=one _ _ _ d;lia
    ·have:=one _ _ _ d;lia
   ·rw[ah (fun e=>l (f.T.mp e))] at d;rcases aX.mp d with d |d
    ·have:=one _ _ _ d;lia
    ·have:=one _ _ _ d;lia
 ·rw[g7,cO] at h;obtain⟨k,A,h⟩:=cP.mp h;exact QU R G (aY.mp A) L h
end
theorem Jj (j):∀d:List (Nat×Rat),(∀t∈d,t.1<j)->Rv (ei j) d=0
 |[],_=>rfl
 |t::d,h=>by
  show PF.const t.2*ei j t.1+Rv (ei j) d=0;have:=h t aC;rw[w6 (by lia),Jj j d fun u A=>h u (ao _ A)];grind
theorem HJ (r)(i j)(q)(h:j<r.length):(addAt r i q).getD j 0=r.getD j 0+if i=j then q else 0:=by
 unfold addAt;rw[gDe,cS];by_cases e:i=j
 ·subst e;rw[ai rfl,ai h,ai rfl];rfl
 ·rw[ah e,ah e,gDe];grind
theorem wz (r)(i)(q):(addAt r i q).length=r.length:=by unfold addAt;simp
theorem Xz (i j)(x):(ei j i:PF).f x=if i=j then 1 else 0:=by
 unfold ei;split <;>rfl
theorem Eu (j)(x):∀(d:List (Nat×Rat)) (r:List Rat),j<r.length->(d.foldl (fun(r:List Rat) (t:Nat×Rat)=>addAt r t.1 t.2) r).getD j 0=r.getD j 0+(Rv (ei j) d).f x
 |[],r,h=>by
  show r.getD j 0=r.getD j 0+0;grind
 |t::d,r,h=>by
  rw[bQ,Eu j x d _ (by rw[wz];exact h),HJ _ _ _ _ h];show _=_+ (t.2*(ei j t.1:PF).f x+(Rv (ei j) d).f x);rw[Xz];split <;>grind
theorem La (j)(x s):∀(d:List (Nat×Rat)) (r:List Rat),j<r.length->(d.foldl (fun(r:List Rat) (t:Nat×Rat)=>addAt r t.1 (s*t.2)) r).getD j 0=r.getD j 0+s*(Rv (ei j) d).f x
 |[],r,h=>by
  show r.getD j 0=r.getD j 0+s*0;grind
 |t::d,r,h=>by
  rw[bQ,La j x s d _ (by rw[wz];exact h),HJ _ _ _ _ h];show _=_+ s*(t.2*(ei j t.1:PF).f x+(Rv (ei j) d).f x);rw[Xz];split <;>grind
theorem Bl:∀(d:List (Nat×Rat)) (r:List Rat),(d.foldl (fun(r:List Rat) (t:Nat×Rat)=>addAt r t.1 t.2) r).length=r.length
 |[],_=>rfl
 |t::d,r=>by rw[bQ,Bl d,wz]
theorem HK (s):∀(d:List (Nat×Rat)) (r:List Rat),(d.foldl (fun(r:List Rat) (t:Nat×Rat)=>addAt r t.1 (s*t.2)) r).length=r.length
 |[],_=>rfl
 |t::d,r=>by rw[bQ,HK s d,wz]
theorem O9 (L:Law)(m)(s):(L.row m s).1.length=m:=by
 unfold Law.row;rw[HK,Bl,a9]
theorem Pa (L)(m)(σ)(x s)(A:σ.f x=s)(j)(d:j<m):(L.row m s).1.getD j 0=(Lv (ei j) σ m L).f x:=by
 unfold Law.row Lv;rw[La j x s _ _ (by rw[Bl,a9];exact d),Eu j x _ _ (by rw[a9];exact d)];show _=(Rv (ei j) L.terms).f x+σ.f x*(Rv (ei j) L.byS).f x+L.right*(ei j m:PF).f x;rw[A,Xz,ah (by lia)];have:(List.replicate m (0:Rat)).getD j 0=0:=by
  rw[gDe,bY];split <;>rfl
 rw[this];grind
theorem QV (L)(m)(σ)(x s)(h:Xy m L):(L.row m s).2=(Lv (ei m) σ m L).f x:=by
 unfold Law.row Lv;rw[Jj m _ h.1,Jj m _ h.2,uI];show L.right=(0:Rat)+σ.f x*0+L.right*((1:Nat):Rat);grind
theorem Ew (n)(G)(s)(hi:i<(dw n).unknowns):((dw n).rows G s)[i]? =some ((((dw n).laws G).getD i L0).row (dw n).unknowns s):=by
 unfold Net.rows;rw[aD,gDe,af (by rw[lA];exact hi)];rfl
section
variable {n:Nw}(R:Right n)(G:Wh.Setting)(σ:PF)(x s:Rat)(hs:σ.f x=s)
include R hs
theorem M8:detOf (dw n).unknowns (((dw n).rows G s).map fun(r:Row)=>r.1)=(det (dw n).unknowns (Sm n G σ)).f x:=by
 have l:((dw n).rows G s).length=(dw n).unknowns:=by unfold Net.rows;rw[lMp,lA]
 have A:∀i,i<(dw n).unknowns->((((dw n).rows G s).map fun(r:Row)=>r.1).getD i [])=((((dw n).laws G).getD i L0).row (dw n).unknowns s).1:=fun i d=>by
  rw[gDe,aD,Ew n G s d];rfl
 rw[KZ _ _ (by rw[lMp];exact l) fun i d=>by rw[A i d,O9],KY];refine fh _ fun i j d B=> ?_;show((((dw n).rows G s).map fun(r:Row)=>r.1).getD i []).getD j 0=_;rw[A i d];exact Pa _ _ σ x s hs j B
end
def XX:PF:=dO [0,1]
theorem Zg (x):XX.f x=x:=by
 unfold XX;rw[fJ,fJ];show((0:Int):Rat)+x*(((1:Int):Rat)+x*0)=x;grind
theorem SW (i j):Dg (ei j i:PF) 1:=by
 unfold ei;split
 ·exact fN▸K2 1
 ·exact zu 1
theorem Pb (j):∀d:List (Nat×Rat),Dg (Rv (ei j) d) 1
 |[]=>zu 1
 |t::d=>((SW t.1 j).smul t.2).add (Pb j d)
noncomputable def Jk(L:Law):Nat:=if L.byS.isEmpty=true then 0 else 1
theorem aan:Dg XX 2:=Xv [0,1]
theorem Zh (L)(m j):Dg (Lv (ei j) XX m L) (Jk L+1):=by
 unfold Lv Jk;have A:=Pb j L.terms;have l:=(SW m j).smul L.right;by_cases e:L.byS.isEmpty=true
 ·rw[ai e];have:L.byS=[]:=List.isEmpty_iff.mp e;rw[this];have z:XX*Rv (ei j) []=0:=by
   show XX*0=0;grind
  rw[z];exact(A.add (zu 1)).add l
 ·rw[ah e];have i:Dg (XX*Rv (ei j) L.byS) 2:=Dg.mul (d:=1) (e:=0) aan (Pb j _);exact((A.mono (by lia)).add i).add (l.mono (by lia))
theorem Lb {α:Type}(f:α->Nat)(d)(l:List α):sumNat l.length (fun i=>f (l.getD i d))=Wh.sumNat (l.map f):=by
 have key:∀m,m<=l.length->sumNat m (fun i=>f (l.getD i d))=Wh.sumNat ((l.take m).map f):=by
  intro m;induction m with
  |zero=>intro _;rfl
  |succ m A=>
   intro B;show sumNat m _+ _=_;rw[A (by lia),bo,af (by lia),bC,oo];show _+ f (l.getD m d)=_+ Wh.sumNat [f _];rw[fW,gDe,af (by lia)];rfl
 rw[key _ (aj _),aQ]
theorem Cr{γ β:Type}{f:γ->List β}{h:β->Nat}{c:γ->Nat}:∀l:List γ,(∀i∈l,Wh.sumNat ((f i).map h)<=c i)->Wh.sumNat ((l.flatMap f).map h)<=Wh.sumNat (l.map c)
 |[],_=>aj _
 |x::l,e=>by
  rw[bP,bC,oo,aK,fW];have:=e x aC;have:=Cr (f:=f) (h:=h) (c:=c) l fun i d=>e i (ao _ d);lia
theorem Ez{α:Type}(p:α->Bool):∀l:List α,(l.filter p).length=Wh.sumNat (l.map fun x=>if p x=true then 1 else 0)
 |[]=>rfl
 |x::l=>by
  rw[aK,fW,<-Ez p l];by_cases e:p x=true
  ·rw[bh e,ai e,ak];lia
  ·rw[bu e,ah e];lia
theorem Lc{α:Type}(f:α->Nat):∀l:List α,(∀x∈l,f x=0)->Wh.sumNat (l.map f)=0
 |[],_=>rfl
 |x::l,h=>by
  rw[aK,fW,h x aC,Lc f l fun y d=>h y (ao _ d)]
theorem Vt (N:Net)(G)(k)(x):Wh.sumNat ((N.lawsOf G k x).map Jk)<=if(decide (x.kind= .C) ||decide (x.kind= .L))=true then 1 else 0:=by
 have i:∀a b,Jk ⟨a,[],b⟩=0:=fun a b=>rfl;have A:∀L,Jk L<=1:=fun L=>by unfold Jk;split <;>lia
 have d:∀L,Wh.sumNat ([L].map Jk)=Jk L:=fun L=>by
  show Wh.sumNat [Jk L]=_;rw[fW];rfl
 have l:∀L M,Wh.sumNat ([L,M].map Jk)=Jk L+Jk M:=fun L M=>by
  show Wh.sumNat [Jk L,Jk M]=_;rw[fW,fW];rfl
 unfold Net.lawsOf;dsimp only;cases h:x.kind <;>dsimp only
 case C=>rw[d];exact A _
 case L=>rw[d];exact A _
 case T=>rw[l];exact aj _
 case M=>exact aj _
 case S=>split <;>(rw[d];exact aj _)
 case D=>split <;>(rw[d];exact aj _)
 all_goals (rw[d];exact aj _)
theorem Vu (n)(G):sumNat (dw n).unknowns (fun i=>Jk (((dw n).laws G).getD i L0))+1<=(dw n).places:=by
 rw[<-lA n G,Lb Jk L0];unfold Net.laws Net.places;rw[bC,oo,Ez];have z:Wh.sumNat (((List.range (dw n).nodes).map fun(v:Nat)=>(⟨(dw n).indexed.flatMap fun(p:Nat×Elem)=>(dw n).outOf (v+1) p.1 p.2,[],0⟩:Law)).map Jk)=0:=by
  refine Lc _ _ fun L A=> ?_;obtain⟨v,_,rfl⟩:=aV.mp A;rfl
 rw[z];have q:=Cr (f:=fun p:Nat×Elem=>(dw n).lawsOf G p.1 p.2) (h:=Jk) (c:=fun p:Nat×Elem=>if(decide (p.2.kind= .C) ||decide (p.2.kind= .L))=true then 1 else 0) (dw n).indexed fun p _=>Vt _ _ _ _;have e:((dw n).indexed.map fun p:Nat×Elem=>if(decide (p.2.kind= .C) ||decide (p.2.kind= .L))=true then 1 else 0)=(dw n).elems.map fun x=>if(decide (x.kind= .C) ||decide (x.kind= .L))=true then 1 else 0:=by
  rw[g7,aN];show _=(n.dc.map dF).map _;rw[HA (n.dc.map dF) (dF p0),aN,lMp];apply aT;intro i d;have d:=aY.mp d;have e:(n.dc.map dF).getD i (dF p0)=dF (n.dc.getD i p0):=by
   rw[gDe,gDe,aD,af d];rfl
  show _=if(decide (((n.dc.map dF).getD i (dF p0)).kind= .C) ||decide (((n.dc.map dF).getD i (dF p0)).kind= .L))=true then 1 else 0;rw[e];rfl
 rw[e] at q;lia
section
variable {n:Nw}(R:Right n)(G:Wh.Setting)
include R
theorem EA:dJ ((dw n).determinant G)=det (dw n).unknowns (Sm n G XX):=by
 unfold Net.determinant;refine MP _ _ (dw n).places (by rw[lMp,a5]) ?_ fun i A=> ?_
 ·exact(MQ _ (d:=fun i=>Jk (((dw n).laws G).getD i L0)) fun i j _ _=>Zh _ _ _).mono (Vu n G)
 ·rw[qR _ _ _ _ A];exact(M8 R G XX _ _ (Zg _)).symm
end
noncomputable def pS:List Part->List (List Bool)
 |[]=>[[]]
 |p::d=>if p.kind=13 then(pS d).map (fun r=>false::r) ++ (pS d).map (fun r=>true::r) else(pS d).map (fun r=>false::r)
theorem Ct:∀(ps:List Part) (rs:List (List Bool)),fg ps rs=rs.flatMap fun row=>(pS ps).map fun r=>row ++ r
 |[],rs=>by
  show rs=rs.flatMap fun row=>[row ++ []];induction rs with
  |nil=>rfl
  |cons r rs d=>rw[bP,<-d];simp
 |p::ps,rs=>by
  show fg ps (rs.flatMap fun row=>if p.kind=13 then[row ++ [false],row ++ [true]] else[row ++ [false]])=_;rw[Ct ps,List.flatMap_assoc];congr 1;funext row;show _=(if p.kind=13 then(pS ps).map (fun r=>false::r) ++ (pS ps).map (fun r=>true::r) else(pS ps).map (fun r=>false::r)).map _;by_cases h:p.kind=13
  ·rw[ai h,ai h,bC,aN,aN];simp[Function.comp_def]
  ·rw[ah h,ah h,aN];simp[Function.comp_def]
theorem Cu (ps):fg ps [[]]=pS ps:=by
 rw[Ct];simp
noncomputable def oV(off:Nat):List Part->List Nat
 |[]=>[]
 |p::d=>if p.kind=13 then off::oV (off+1) d else oV (off+1) d
def xI(off len:Nat)(st:List Bool)(r:List Nat):Prop:=st.length=len/\(∀k∈r,off<=k)/\∀k,off<=k->r.contains k=st.getD (k - off) false
theorem Bm:∀(ps:List Part) (off:Nat),Al (xI off ps.length) (pS ps) (rowsOf (oV off ps))
 |[],off=> .cons ⟨rfl,(fun _ h=>by cases h),fun k _=>by simp⟩ .nil
 |p::ps,off=>by
  have i:=Bm ps (off+1);have B:∀d r,xI (off+1) ps.length d r->xI off (p::ps).length (false::d) r:=fun d r h=>by
   refine⟨by rw[ak,ak,h.1],fun k A=>by have:=h.2.1 k A;lia,fun k A=> ?_⟩;by_cases e:k=off
   ·subst e;rw[cX];show r.contains k=false;cases q:r.contains k with
    |false=>rfl
    |true=>
     have:=h.2.1 k (List.contains_iff_mem.mp q);lia
   ·have l:k - off=(k - (off+1))+1:=by lia
    rw[l,h.2.2 k (by lia)];rfl
  have x:∀d r,xI (off+1) ps.length d r->xI off (p::ps).length (true::d) (off::r):=fun d r h=>by
   refine⟨by rw[ak,ak,h.1],fun k A=> ?_,fun k A=> ?_⟩
   ·rcases aL.mp A with rfl |A
    ·exact aj _
    ·have:=h.2.1 k A;lia
   ·by_cases e:k=off
    ·subst e;rw[cX];simp
    ·have l:k - off=(k - (off+1))+1:=by lia
     rw[l];show(off::r).contains k=d.getD (k - (off+1)) false;rw[<-h.2.2 k (by lia),List.contains_cons];have:(k==off)=false:=by simpa using e
     rw[this,Bool.false_or]
  unfold pS oV;by_cases h:p.kind=13
  ·rw[ai h,ai h];show Al _ _ (rowsOf (oV (off+1) ps) ++ (rowsOf (oV (off+1) ps)).map fun(s:States)=>off::s);refine Al.append ?_ ?_
   ·have:=(i.imp B).Vo (f:=fun r=>false::r) (g:=fun r=>r) (R:=xI off (p::ps).length);rw[c7] at this;exact this
   ·exact(i.imp x).Vo (f:=fun r=>true::r) (g:=fun r=>off::r)
  ·rw[ah h,ah h];have:=(i.imp B).Vo (f:=fun r=>false::r) (g:=fun r=>r) (R:=xI off (p::ps).length);rw[c7] at this;exact this
theorem Pc:∀(ps:List Part) (off:Nat),(∀p∈ps,Pn p)->((((ps.map dF).zipIdx off).map fun(x:Elem×Nat)=>(x.2,x.1)).filter fun(p:Nat×Elem)=>decide (p.2.kind= .D)).map (fun(p:Nat×Elem)=>p.1)=oV off ps
 |[],_,_=>rfl
 |p::ps,off,h=>by
  have A:=Pc ps (off+1) fun q l=>h q (ao _ l);have d:=h p aC;rw[aK,List.zipIdx_cons,aK];unfold oV;by_cases e:p.kind=13
  ·rw[ai e,bh (by exact aw (d.D.mpr e)),aK,A]
  ·rw[ah e,bu (by rw[a4];exact fun q=>e (d.D.mp q)),A]
theorem QW (R:Right n):(dw n).diodes=oV 0 n.dc:=by
 unfold Net.diodes Net.ofKind Net.indexed;exact Pc n.dc 0 R.pn
theorem Jl (R:Right n):(dw n).diodes=(List.range n.dc.length).filter fun k=>decide ((n.dc.getD k p0).kind=13):=by
 unfold Net.diodes Net.ofKind;rw[g7,List.filter_map,aN];have e:((fun(p:Nat×Elem)=>p.1) ∘ fun k=>(k,dF (n.dc.getD k p0)))=fun k:Nat=>k:=rfl;rw[e,c7];apply List.filter_congr;intro k d;have d:=aY.mp d;show decide (kindOf (n.dc.getD k p0).kind= .D)=_;rw[decide_eq_decide];exact(R.p d).D
noncomputable def Mi(n:Nw)(st:List Bool):mY:=⟨n,[],st,n.dc.map fun p=>(p.top,p.dG)⟩
theorem numAt_eq (R:Right n)(h:k<n.dc.length):(dw n).numAt k=((n.dc.getD k p0).top:Rat) / ((n.dc.getD k p0).dG:Rat):=by
 unfold Net.numAt;rw[R.elem h];rfl
theorem M9 (R:Right n)(h:xI 0 n.dc.length st r):m8 n (Mi n st) ((dw n).rest r):=by
 have dv:∀k,k<n.dc.length->(Mi n st).drives.getD k (0,1)=((n.dc.getD k p0).top,(n.dc.getD k p0).dG):=fun k d=>by
  show(n.dc.map fun p=>(p.top,p.dG)).getD k (0,1)=_;rw[gDe,gDe,aD,af d];rfl
 refine⟨rfl,fun k d=> ?_,fun k d _=> ?_,fun k d _=> ?_⟩
 ·show r.contains k=st.getD k false;exact h.2.2 k (aR _)
 ·rw[dv k d];exact⟨by have:=(R.p d).b1;show 0<(n.dc.getD k p0).dG;lia,numAt_eq R d⟩
 ·rw[dv k d];exact⟨by have:=(R.p d).b1;show 0<(n.dc.getD k p0).dG;lia,numAt_eq R d⟩
theorem EC(l:dQ):(dO l).f 0=((fA l:Int):Rat):=by
 cases l with
 |nil=>rfl
 |cons a l=>
  rw[fJ];show(a:Rat)+0*_=(a:Rat);grind
theorem XA (L)(m j):Dg (Lv (ei j) 0 m L) 1:=by
 unfold Lv;have z:(0:PF)*Rv (ei j) L.byS=0:=by grind
 rw[z];exact((Pb j L.terms).add (zu 1)).add ((SW m j).smul L.right)
theorem Cv:∀m,sumNat m (fun _=>0)=0
 |0=>rfl
 |m+1=>by
  show sumNat m _+ 0=0;rw[Cv m]
theorem Vw (n)(G):Dg (det (dw n).unknowns (Sm n G 0)) 1:=by
 have:=MQ (dw n).unknowns (A:=Sm n G 0) (d:=fun _=>0) fun i j _ _=>XA _ _ _;rw[Cv] at this;exact this
theorem Jm{A:Type} [CommRing A](m:Nat)(F:Nat->Nat->A)(c:Nat)(d:c<m):det m (fD F c fun _=>0)=0:=oS m _ c d fun i _=>iw
section
variable {n:Nw}(R:Right n){g:mY}{G:Wh.Setting}(S:m8 n g G)(hs:g.s=[])
include R S hs
theorem QX:(sol (rows g)=none/\(dw n).solved G 0=none)\/∃d A x,sol (rows g)=some (d,A)/\(dw n).solved G 0=some x/\A.length=(dw n).unknowns/\(∃z,d=[z])/\fA d≠0/\(det (dw n).unknowns (Sm n G 0)).f 0≠0/\∀c,c<(dw n).unknowns->((fA (A.getD c []):Int):Rat)=x.getD c 0*((fA d:Int):Rat):=by
 have σ0:dO g.s=0:=by rw[hs];rfl
 have M:∀x:Rat,(0:PF).f x=0:=fun x=>rfl;have rl:((dw n).rows G 0).length=(dw n).unknowns:=by unfold Net.rows;rw[lMp,lA]
 have X:∀r∈(dw n).rows G 0,r.1.length=(dw n).unknowns:=fun r t=>by
  unfold Net.rows at t;obtain⟨L,_,rfl⟩:=aV.mp t;exact O9 _ _ _
 have w:∀i,i<(dw n).unknowns->(((dw n).laws G).getD i L0).row (dw n).unknowns 0∈(dw n).rows G 0:=fun i B=>aH (Ew n G 0 B);have k:∀(i:Nat) (p:Rat) (y:Nat->Rat),dot (dw n).unknowns ((((dw n).laws G).getD i L0).row (dw n).unknowns 0).1 y=eV (dw n).unknowns fun j=>(Sm n G 0 i j).f p*y j:=fun i p y=>by
  unfold dot;exact e7 _ fun j v=>by rw[Pa _ _ 0 p 0 (M p) j v];rfl
 have spec:=MZ rl X;have I:=K8 R S;rw[σ0] at I;rcases I with⟨d,A,e,tl,td,dn,tt,q,hq,hd,ht⟩ |⟨e,h0,x,⟨j,v,xj⟩,hx⟩
 ·have W:d.length<=1:=I0 td (c:=1) (by decide) (e:=1) (by
   rw[hd,fN];have:=(Vw n G).smul q;have b:(1:PF)*(PF.const q*det (dw n).unknowns (Sm n G 0))=PF.const q*det (dw n).unknowns (Sm n G 0):=by grind
   rw[b];exact this)
  obtain⟨z,rfl⟩:∃z,d=[z]:=by
   cases d with
   |nil=>exact absurd rfl dn
   |cons z l=>
    cases l with
    |nil=>exact⟨z,rfl⟩
    |cons y l=>simp at W
  have E:fA [z]≠0:=fQ.mp td (by simp);have H:((fA [z]:Int):Rat)=q*(det (dw n).unknowns (Sm n G 0)).f 0:=by
   rw[<-EC,hd];rfl
  have m:(det (dw n).unknowns (Sm n G 0)).f 0≠0:=fun e=>by
   rw[e] at H;have:((fA [z]:Int):Rat)=0:=by rw[H];grind
   exact E (by exact_mod_cast this)
  right;rcases spec with⟨x,sx,xl,hx⟩ |⟨sn,y,⟨j,v,yj⟩,hy⟩
  ·refine⟨[z],A,x,e,sx,tl,⟨z,rfl⟩,E,m,fun c Q=> ?_⟩;have F:=(hx (fun j=>x.getD j 0) 1).mpr fun j _=>by grind
   have eqs:∀i,i<(dw n).unknowns->eV (dw n).unknowns (fun d=>(Sm n G 0 i d).f 0*x.getD d 0)=(Sm n G 0 i (dw n).unknowns).f 0:=fun i B=>by
    have o:=F _ (w i B);unfold sat at o;rw[k i 0,QV _ _ 0 0 0 (SV R G _ (memD (by rw[lA];exact B)))] at o;rw[o];show 1*(Sm n G 0 i (dw n).unknowns).f 0=_;grind
   have a:=DT (dw n).unknowns (fun i j=>(Sm n G 0 i j).f 0) (fun j=>x.getD j 0) (fun i=>(Sm n G 0 i (dw n).unknowns).f 0) c Q eqs;have top:((fA (A.getD c []):Int):Rat)=q*det (dw n).unknowns (fD (fun i j=>(Sm n G 0 i j).f 0) c fun i=>(Sm n G 0 i (dw n).unknowns).f 0):=by
    rw[<-EC,ht c Q];show q*PF.f (det _ _) 0=_;rw[KY];congr 1;refine fh _ fun i j _ _=> ?_;show(if j=c then _ else _:PF).f 0=if j=c then _ else _;split <;>rfl
   rw[top,a,H,KY];grind
  ·exfalso;have a:=DT (dw n).unknowns (fun i j=>(Sm n G 0 i j).f 0) y (fun _=>0) j v fun i B=>by
    rw[<-k i 0];exact hy _ (w i B)
   rw[Jm _ _ _ v,<-KY] at a;rcases bR.mp a.symm with h |h
   ·exact yj h
   ·exact m h
 ·left;refine⟨e,?_⟩;rcases spec with⟨x0,sx,xl,hx0⟩ |⟨sn,_⟩
  ·exfalso;obtain⟨N,C⟩:=PF.Dj xj;have C:=C N (aj _);have:∀r∈(dw n).rows G 0,sat (dw n).unknowns (fun d=>(x d).f (N:Rat)) 0 r:=fun r t=>by
    obtain⟨i,B,J⟩:=br t;have u:i<(dw n).unknowns:=by lia
    have b:=Ew n G 0 u;rw[af B,J] at b;cases b;unfold sat;rw[k i (N:Rat)];have K:=hx i u;have P:(eV (dw n).unknowns fun d=>Sm n G 0 i d*x d).f (N:Rat)=0:=by rw[K];rfl
    rw[MN] at P;rw[show(fun j=>(Sm n G 0 i j).f (N:Rat)*(x j).f (N:Rat))=fun j=>(Sm n G 0 i j*x j).f (N:Rat) from rfl,P];grind
   have D:=(hx0 _ 0).mp this j v;exact C (by rw[D];grind)
  ·exact sn
end
theorem Vx (a b):((fA (wI a b):Int):Rat)=((fA a:Int):Rat) - ((fA b:Int):Rat):=by
 rw[<-EC,<-EC,<-EC,vq];rfl
section
variable {n:Nw}(R:Right n){d:dQ}{tops:List dQ}{x:List Rat}(tl:tops.length=(dw n).unknowns)(d0:fA d≠0)
 (ht:∀c,c<(dw n).unknowns->((fA (tops.getD c []):Int):Rat)=x.getD c 0*((fA d:Int):Rat))
include R ht
theorem Pd (A:0<=v)(l:v<=n.last):((fA (lI (d,tops) v):Int):Rat)=voltage x v.toNat*((fA d:Int):Rat):=by
 unfold lI voltage;by_cases h:0<v
 ·rw[ai h,ah (by lia)];have i:=zD n;have:=ht (v - 1).toNat (by lia);have e:v.toNat - 1=(v - 1).toNat:=by lia
  rw[e];exact this
 ·rw[ah h,ai (by lia)];show((0:Int):Rat)=_;push_cast;grind
include tl d0
theorem HL (S:xI 0 n.dc.length st r)(A:k<n.dc.length)(t:(n.dc.getD k p0).kind=13):
  xD (Mi n st) (d,tops) k=if r.contains k=true then decide (0<=((dw n).quantity 1 k x).getD 0) else decide (((dw n).quantity 2 k x).getD 0<=(dw n).numAt k):=by
 have i:=R.p A;have q:=i.D.mpr t;have H:¬(dF (n.dc.getD k p0)).kind= .M:=fun e=>by rw[kh,q] at e;cases e
 obtain⟨C,G⟩:=gD q (.inl rfl);have ab:=R.ab A (by lia);have I:((fA d:Int):Rat)≠0:=fun e=>d0 (by exact_mod_cast e);have B:0<((fA d:Int):Rat)*((fA d:Int):Rat):=by
  have y:(0:Int)<fA d*fA d:=by
   rcases Int.lt_or_gt_of_ne d0 with h |h
   ·exact Int.mul_pos_of_neg_of_neg h h
   ·exact Int.mul_pos h h
  have s:(0:Rat)<((fA d*fA d:Int):Rat):=by exact_mod_cast y
  push_cast at s;exact s
 have P:((dw n).quantity 1 k x).getD 0=x.getD ((dw n).at_ k) 0:=by
  unfold Net.quantity;rw[ah (by decide),R.elem A];dsimp only;rw[ah H,ai rfl];rfl
 have m:((dw n).quantity 2 k x).getD 0=voltage x (n.dc.getD k p0).a.toNat - voltage x (n.dc.getD k p0).b.toNat:=by
  unfold Net.quantity;rw[ah (by decide),R.elem A];dsimp only;rw[ah H,ah (by decide),ai rfl,C,G];rfl
 rw[P,m,numAt_eq R A,S.2.2 k (aR _)];unfold xD;dsimp only;show(if st.getD k false=true then decide (0<=fA (pO (Mi n st) (d,tops) k)*fA d) else decide (fA (qP (Mi n st) (d,tops) k)*fA d*(n.dc.getD k p0).dG<=(n.dc.getD k p0).top*fA d*fA d))=if st.getD k false=true then _ else _;by_cases f:st.getD k false=true
 ·rw[ai f,ai f,decide_eq_decide];have l:((fA (pO (Mi n st) (d,tops) k):Int):Rat)=x.getD ((dw n).at_ k) 0*((fA d:Int):Rat):=by
   unfold pO;show((fA (tops.getD ((places n).getD k 0).toNat []):Int):Rat)=_;rw[R.place A,bK];exact ht _ (zE R A (by lia))
  have w:(0<=fA (pO (Mi n st) (d,tops) k)*fA d)↔(0:Rat)<=((fA (pO (Mi n st) (d,tops) k):Int):Rat)*((fA d:Int):Rat):=by
   constructor
   ·intro h;have:(0:Rat)<=((fA (pO (Mi n st) (d,tops) k)*fA d:Int):Rat):=by exact_mod_cast h
    push_cast at this;exact this
   ·intro h;have:(0:Rat)<=((fA (pO (Mi n st) (d,tops) k)*fA d:Int):Rat):=by push_cast;exact h
    exact_mod_cast this
  rw[w,l];have e:x.getD ((dw n).at_ k) 0*((fA d:Int):Rat)*((fA d:Int):Rat)=x.getD ((dw n).at_ k) 0*(((fA d:Int):Rat)*((fA d:Int):Rat)):=by grind
  rw[e];constructor
  ·intro h;refine Rat.le_of_mul_le_mul_right (c:=((fA d:Int):Rat)*((fA d:Int):Rat)) ?_ B;rw[Rat.zero_mul];exact h
  ·intro h;exact Rat.mul_nonneg h (Rat.le_of_lt B)
 ·rw[ah f,ah f,decide_eq_decide];have l:((fA (qP (Mi n st) (d,tops) k):Int):Rat)=(voltage x (n.dc.getD k p0).a.toNat - voltage x (n.dc.getD k p0).b.toNat)*((fA d:Int):Rat):=by
   unfold qP Dk;rw[Vx];show((fA (lI (d,tops) (n.dc.getD k p0).a):Int):Rat) - ((fA (lI (d,tops) (n.dc.getD k p0).b):Int):Rat)=_;rw[Pd R ht i.a0 ab.1,Pd R ht i.b0 ab.2];grind
  have o:(0:Rat)<((n.dc.getD k p0).dG:Rat):=lK (by have:=i.b1;lia);generalize (voltage x (n.dc.getD k p0).a.toNat - voltage x (n.dc.getD k p0).b.toNat)=v at l⊢;generalize fA (qP (Mi n st) (d,tops) k)=u at l⊢;generalize n.dc.getD k p0=p at o⊢;have w:(u*fA d*p.dG<=p.top*fA d*fA d)↔((u:Int):Rat)*((fA d:Int):Rat)*(p.dG:Rat)<=(p.top:Rat)*((fA d:Int):Rat)*((fA d:Int):Rat):=by
   constructor
   ·intro h;have:((u*fA d*p.dG:Int):Rat)<=((p.top*fA d*fA d:Int):Rat):=by exact_mod_cast h
    push_cast at this;exact this
   ·intro h;have:((u*fA d*p.dG:Int):Rat)<=((p.top*fA d*fA d:Int):Rat):=by push_cast;exact h
    exact_mod_cast this
  rw[w,l];have pos:=Rat.mul_pos B o;have F:v*((fA d:Int):Rat)*((fA d:Int):Rat)*(p.dG:Rat)=v*(((fA d:Int):Rat)*((fA d:Int):Rat)*(p.dG:Rat)):=by grind
  have z:(p.top:Rat)*((fA d:Int):Rat)*((fA d:Int):Rat)=(p.top:Rat) / (p.dG:Rat)*(((fA d:Int):Rat)*((fA d:Int):Rat)*(p.dG:Rat)):=by grind
  rw[F,z];exact⟨fun h=>Rat.le_of_mul_le_mul_right h pos,fun h=>Rat.mul_le_mul_of_nonneg_right h (Rat.le_of_lt pos)⟩
theorem Vy (f:xI 0 n.dc.length st r):jS (Mi n st) (d,tops)=(dw n).fits r x:=by
 unfold jS Net.fits;rw[Jl R];show((List.range n.dc.length).filter fun k=>decide ((n.dc.getD k p0).kind=13)).all _=_;rw[bg,bU,bU];constructor
 ·intro h k A;obtain⟨l,i⟩:=b9.mp A;rw[<-HL R tl d0 ht f (aY.mp l) (aI i)];exact h k A
 ·intro h k A;obtain⟨l,i⟩:=b9.mp A;rw[HL R tl d0 ht f (aY.mp l) (aI i)];exact h k A
end
def Wt(n:Nw):Option (List Bool×(dQ×List dQ))->Option (States×List Rat)->Prop
 |none,none=>True
 |some p,some q=>p.1∈fg n.dc [[]]/\xI 0 n.dc.length p.1 q.1/\(det (dw n).unknowns (Sm n ((dw n).rest q.1) 0)).f 0≠0
 |_,_=>False
theorem Cw{n:Nw}(R:Right n):∀{A:List (List Bool)} {rs:List States},Al (xI 0 n.dc.length) A rs->(∀st∈A,st∈fg n.dc [[]])->
  Wt n (n9 n A) (rs.findSome? fun(r:States)=>match(dw n).solved ((dw n).rest r) 0 with
   |none=>none
   |some x=>if(dw n).fits r x=true then some (r,x) else none)
 |_,_,.nil,_=>trivial
 |st::A,r::rs,.cons h t,f=>by
  have i:=Cw R t fun s B=>f s (ao _ B);rw[List.findSome?_cons];have e:n9 n (st::A)=match sol (rows (Mi n st)) with
   |none=>n9 n A
   |some s=>if jS (Mi n st) s=true then some (st,s) else n9 n A:=rfl
  rw[e];rcases QX R (M9 R h) rfl with⟨e1,e2⟩ |⟨d,tops,x,e1,e2,tl,_,d0,D0,ht⟩
  ·rw[e1,e2];exact i
  ·rw[e1,e2];dsimp only;rw[Vy R tl d0 ht h];by_cases l:(dw n).fits r x=true
   ·rw[ai l,ai l];exact⟨f st aC,h,D0⟩
   ·rw[ah l,ah l];exact i
theorem HM (R:Right n):Wt n (point n) (dw n).point:=by
 unfold point Net.point;have e:fg n.dc [[]]=pS n.dc:=Cu _;refine Cw R (rs:=rowsOf (dw n).diodes) ?_ fun d h=>h;rw[e,QW R];exact Bm n.dc 0
theorem HN:∀(f:Nat) (l:List Int),l.length<=f->WhB.sevens f l=(List.range ((l.length+6) / 7)).map fun i=>(l.drop (7*i)).take 7
 |0,l,h=>by
  have:l=[]:=bc.mp (by lia);subst this;rfl
 |f+1,l,h=>by
  unfold WhB.sevens;by_cases e:l.isEmpty=true
  ·rw[ai e];have:l=[]:=List.isEmpty_iff.mp e;subst this;rfl
  ·rw[ah e];have A:0<l.length:=by
    cases l with
    |nil=>exact absurd rfl e
    |cons=>simp
   rw[HN f (l.drop 7) (by rw[bJ];lia),bJ];have d:(l.length+6) / 7=(l.length - 7+6) / 7+1:=by lia
   rw[d,List.range_succ_eq_map,aK,aN];congr 1;apply aT;intro i _;show((l.drop 7).drop (7*i)).take 7=(l.drop (7*(i+1))).take 7;rw[List.drop_drop];congr 2;lia
theorem Cy (l):WhB.sevens l.length (l.drop 1)=dU l:=by
 rw[HN l.length (l.drop 1) (by rw[bJ];lia),bJ];unfold dU;apply aT;intro i _;rw[List.drop_drop]
theorem pT (l)(h:l.length % 7=1):∀r∈dU l,r.length=7:=fun r d=>by
 unfold dU at d;obtain⟨i,A,rfl⟩:=aV.mp d;have A:=aY.mp A;obtain⟨c,e⟩:∃c,l.length=7*c+1:=⟨_,h▸(Nat.div_add_mod l.length 7).symm⟩;rw[e] at A;have A:i<c:=Nat.lt_of_lt_of_eq A (Nat.mul_add_div (show 0<7 by decide) c 6);rw[aP,bJ,e];exact Nat.min_eq_left (Nat.le_sub_of_add_le (by lia))
theorem zS8 {r:List Int}(h:r.length=n+1):∃a t,r=a::t/\t.length=n:=by
 cases r
 cases h
 exact⟨_,_,rfl,Nat.succ.inj h⟩
theorem zS7 {r:List Int}(h:r.length=7):∃a b c d e f g,r=[a,b,c,d,e,f,g]:=by
 obtain⟨a,_,rfl,i⟩:=zS8 h;obtain⟨b,_,rfl,j⟩:=zS8 i;obtain⟨c,_,rfl,k⟩:=zS8 j;obtain⟨d,_,rfl,l⟩:=zS8 k;obtain⟨e,_,rfl,m⟩:=zS8 l;obtain⟨f,_,rfl,n⟩:=zS8 m;obtain⟨g,_,rfl,o⟩:=zS8 n;cases bc.mp o;exact⟨a,b,c,d,e,f,g,rfl⟩
theorem SX (h:r.length=7):WhB.sevenOk r=iW r:=by
 obtain⟨a,b,c,d,e,f,g,rfl⟩:=zS7 h;rw[bg];unfold WhB.sevenOk iW WhB.small WhB.NUMBER;simp[show∀x:Int,x<14<->x<=13 by lia,show∀x:Int,x<64<->x<=63 by lia,show f.natAbs<=1000000<-> -1000000<=f/\f<=1000000 by omega,and_assoc]
theorem Ld(r:List Int):r.headD 0=r.getD 0 0:=by cases r <;>rfl
theorem ED{α:Type}{p q:α->Bool}:∀{l:List α},(∀x∈l,p x=q x)->l.all p=l.all q
 |[],_=>rfl
 |x::l,h=>by
  rw[List.all_cons,List.all_cons,h x aC,ED fun y d=>h y (ao _ d)]
theorem XB (l):WhB.rowOk l=oN l:=by
 unfold WhB.rowOk oN;rw[Cy];have b:((dU l).filter fun(x:List Int)=>x.headD 0==13)=(dU l).filter fun r=>decide (r.getD 0 0=13):=by
  apply List.filter_congr;intro r _;rw[Ld,bg];simp
 rw[b];have pl:(dU l).length=(l.length - 1+6) / 7:=by unfold dU;simp
 by_cases d:l.length=0\/¬(1<=l.headD 0/\l.headD 0<=8)
 ·rw[ai d,Bool.eq_false_iff];intro q;obtain⟨_,q⟩:=(aW _ _).mp q;obtain⟨A,q⟩:=(aW _ _).mp q;obtain⟨f,q⟩:=(aW _ _).mp q;obtain⟨e,q⟩:=(aW _ _).mp q;have A:=aI A;have f:=aI f;have e:l.headD 0<=((8:Nat):Int):=aI e;rcases d with h |h
  ·lia
  ·exact h ⟨f,by lia⟩
 rw[ah d];have w:1<=l.headD 0/\l.headD 0<=8:=bt fun q=>d (.inr q);have u:¬l.length=0:=fun q=>d (.inl q);by_cases B:(l.length - 1) % 7=0
 rotate_left
 ·rw[ai B,Bool.eq_false_iff];intro q;obtain⟨_,q⟩:=(aW _ _).mp q;obtain⟨A,q⟩:=(aW _ _).mp q;have A:=aI A;lia
 rw[ah (fun q=>q B)];have t:l.length % 7=1:=by lia
 by_cases v:10<(dU l).length
 ·rw[ai v,Bool.eq_false_iff];intro q;obtain⟨_,q⟩:=(aW _ _).mp q;obtain⟨_,q⟩:=(aW _ _).mp q;obtain⟨_,q⟩:=(aW _ _).mp q;obtain⟨_,q⟩:=(aW _ _).mp q;obtain⟨k,q⟩:=(aW _ _).mp q;have k:=aI k;lia
 rw[ah v];have n:(dU l).all WhB.sevenOk=(dU l).all iW:=ED fun r a=>SX (pT l t r a);rw[n,aw t,aw w.1,aw (show l.headD 0<=((NODES:Nat):Int) from w.2),aw (show l.length<=7*10+1 by lia)];by_cases i:(dU l).all iW=true
 ·rw[ah (fun q=>q i),i];show(_&&true)=_;rw[Bool.and_true];rfl
 ·rw[ai i,show(dU l).all iW=false by simpa using i];show(_&&false)=false;rw[Bool.and_false]
theorem Vz (h:r.length=7):WhB.elemIn r=dF (Part.of r):=by
 unfold WhB.elemIn dF Part.of kindOf;have e:r.getD 6 1=r.getD 6 0:=by
  rw[gDe,gDe,af (by lia)];rfl
 rw[e]
theorem XC (h:l.length % 7=1):WhB.netIn l=dw (gV l):=by
 unfold WhB.netIn dw gV;rw[Cy];dsimp only;rw[aN];congr 1;apply aT;intro r d;exact Vz (pT l h r d)
theorem VA (h:iW r=true)(w:r.length=7):Pn (Part.of r):=by
 obtain⟨a,b,d,e,f,g,k,rfl⟩:=zS7 w;unfold iW at h;by_cases A:0<=[a,b,d,e,f,g,k].getD 0 0/\[a,b,d,e,f,g,k].getD 0 0<=13
 rotate_left
 ·rw[ai A] at h;cases h
 rw[ah (fun q=>q A)] at h;by_cases i:(([a,b,d,e,f,g,k].drop 1).take 4).all (fun p=>decide (0<=p/\p<=63))=true
 rotate_left
 ·rw[ai i] at h;cases h
 rw[ah (fun q=>q i)] at h;obtain⟨B,l⟩:=(aW _ _).mp h;have B:=aI B;have l:=aI l;have q:=bU.mp i;have v:=aI (q b (by simp));have n:=aI (q d (by simp));have t:=aI (q e (by simp));have x:=aI (q f (by simp));exact⟨A.1,A.2,v.1,n.1,t.1,x.1,B,l.1,l.2⟩
structure aao(l:List Int):Prop where
 m7:l.length % 7=1
 l1:1<=(gV l).last
 l8:(gV l).last<=8
 dc:(gV l).dc.length<=10
 pn:∀p∈(gV l).dc,Pn p
theorem SY (h:oN l=true):aao l:=by
 unfold oN at h;by_cases d:l.length=0\/¬(1<=l.headD 0/\l.headD 0<=8)
 ·rw[ai d] at h;cases h
 rw[ah d] at h;by_cases A:(l.length - 1) % 7=0
 rotate_left
 ·rw[ai A] at h;cases h
 rw[ah (fun q=>q A)] at h;by_cases B:10<(dU l).length
 ·rw[ai B] at h;cases h
 rw[ah B] at h;by_cases i:(dU l).all iW=true
 rotate_left
 ·rw[ai i] at h;cases h
 have k:1<=l.headD 0/\l.headD 0<=8:=bt fun q=>d (.inr q);have w:¬l.length=0:=fun q=>d (.inl q);have x:l.length % 7=1:=by lia
 refine⟨x,k.1,k.2,?_,fun p v=> ?_⟩
 ·show((dU l).map Part.of).length<=10;rw[lMp];lia
 ·obtain⟨r,f,rfl⟩:=aV.mp (show p∈(dU l).map Part.of from v);exact VA (bU.mp i r f) (pT l x r f)
theorem Na{a b c d:Int}(i:0<b)(l:0<d):((a:Rat) / (b:Rat)<(c:Rat) / (d:Rat))↔a*d<c*b:=by
 have k:=lK i;have B:=lK l;have p:=Rat.mul_pos k B;have f:(a:Rat) / (b:Rat)*((b:Rat)*(d:Rat))=((a*d:Int):Rat):=by push_cast;grind
 have A:(c:Rat) / (d:Rat)*((b:Rat)*(d:Rat))=((c*b:Int):Rat):=by push_cast;grind
 rw[<-Rat.mul_lt_mul_right p,f,A];constructor
 ·intro h;exact_mod_cast h
 ·intro h;exact_mod_cast h
theorem div_eq{a b c d:Int}(l:0<b)(A:0<d):((a:Rat) / (b:Rat)=(c:Rat) / (d:Rat))↔a*d=c*b:=by
 have f:=lK l;have i:=lK A;constructor
 ·intro h;have:((a*d:Int):Rat)=((c*b:Int):Rat):=by push_cast;grind
  exact_mod_cast this
 ·intro h;have:((a*d:Int):Rat)=((c*b:Int):Rat):=by exact_mod_cast h
  push_cast at this;grind
section
variable {n:Nw}(hl:0<=n.last)(pn:∀p∈n.dc,Pn p)
theorem Zi{p:Part}(h:Pn p):(0<(p.top:Rat) / (p.dG:Rat))↔0<p.top:=by
 have:=Na (a:=0) (b:=1) (c:=p.top) (d:=p.dG) (by decide) (by have:=h.b1;lia);have e:((0:Int):Rat) / ((1:Int):Rat)=0:=by decide +kernel
 rw[e] at this;rw[this];lia
theorem XD{p:Part}(h:Pn p):((p.top:Rat) / (p.dG:Rat)=0)↔p.top=0:=by
 have:=div_eq (a:=p.top) (b:=p.dG) (c:=0) (d:=1) (by have:=h.b1;lia) (by decide);have e:((0:Int):Rat) / ((1:Int):Rat)=0:=by decide +kernel
 rw[e] at this;rw[this];lia
theorem Zj{p:Part}(h:Pn p):((p.top:Rat) / (p.dG:Rat)=1)↔p.top=p.dG:=by
 have:=div_eq (a:=p.top) (b:=p.dG) (c:=1) (d:=1) (by have:=h.b1;lia) (by decide);have e:((1:Int):Rat) / ((1:Int):Rat)=1:=by decide +kernel
 rw[e] at this;rw[this];lia
theorem S3{p:Part}(h:Pn p):(0<=(p.top:Rat) / (p.dG:Rat))↔0<=p.top:=by
 have:=Na (a:=p.top) (b:=p.dG) (c:=0) (d:=1) (by have:=h.b1;lia) (by decide);have e:((0:Int):Rat) / ((1:Int):Rat)=0:=by decide +kernel
 rw[e] at this;rw[<-Rat.not_lt,this];lia
theorem XE{p:Part}(h:Pn p):mayHave (kindOf p.kind) ((p.top:Rat) / (p.dG:Rat))=pL p:=by
 have k:=ma h.k0 h.k1;obtain⟨v,t,A,kV,l,b,d,u,B,f,s,o,w,a⟩:=k;unfold mayHave pL;simp only[v,t,A,kV,l,b,d,u,B,f,s,o,w,a];have q:=Zi h;have r:=XD h;have x:=Zj h;have i:=S3 h;simp only[q,r,x,i,ne_eq];rcases tE h.k0 h.k1 with e |e |e |e |e |e |e |e |e |e |e |e |e |e <;>simp[e]
theorem S4{p:Part}(h:Pn p)(hl:0<=n.last):(dF p).nodes.any (fun(v:Nat)=>decide ((dw n).nodes<v))=(iB p).any (fun v=>decide (n.last<v)):=by
 have k:=ma h.k0 h.k1;obtain⟨i,B,e,kV,q,H,t,S,r,u,x,w,f,o⟩:=k;have dv:∀v:Int,0<=v->decide ((dw n).nodes<v.toNat)=decide (n.last<v):=fun v s=>by
  show decide (n.last.toNat<v.toNat)=_;rw[decide_eq_decide];lia
 unfold dF iB nodeCount;dsimp only;simp only[i,w,f,B,x];by_cases l:p.kind=3
 ·simp[l]
 ·simp only[l,if_false];by_cases A:p.kind=6\/p.kind=7\/p.kind=10\/p.kind=11
  ·simp only[A,if_true];show[p.a.toNat,p.b.toNat,p.c.toNat,p.d.toNat].any _=_;simp only[cC,List.any_nil,dv _ h.a0,dv _ h.b0,dv _ h.c0,dv _ h.d0]
  ·simp only[A,if_false];show[p.a.toNat,p.b.toNat].any _=_;simp only[cC,List.any_nil,dv _ h.a0,dv _ h.b0]
include pn
theorem Pe{i:Int}(f:0<=i)(B:i<n.dc.length):(dw n).kindAt i.toNat=some (kindOf (kindAt n.dc i))/\0<=kindAt n.dc i/\kindAt n.dc i<=13:=by
 have l:i.toNat<n.dc.length:=by lia
 have A:=pn _ (memD (d:=p0) l);unfold Net.kindAt kindAt;show((n.dc.map dF)[i.toNat]?).map _=_/\_;rw[aD,gDe,af l];rw[gDe,af l] at A;exact⟨rfl,A.k0,A.k1⟩
theorem Pf (B:k<=n.dc.length)(A:0<=i):(decide (k<=i.toNat) ||(dw n).kindAt i.toNat !=some .L)= !eN n.dc i k:=by
 unfold eN;by_cases h:i<k
 ·obtain⟨e,f,l⟩:=Pe pn A (show i<n.dc.length by lia);rw[e,aw h,aA (show ¬k<=i.toNat by lia)];have d:=(ma f l).2.2.2.2.2.1;rw[Bool.false_or,Bool.true_and];by_cases q:kindAt n.dc i=2
  ·rw[aw q,d.mpr q];rfl
  ·rw[aA q];have:¬kindOf (kindAt n.dc i)= .L:=fun z=>q (d.mp z);simpa using this
 ·rw[aA h,aw (show k<=i.toNat by lia)];rfl
theorem XF (B:k<=n.dc.length){i:Int}(A:0<=i):(decide (k<=i.toNat) ||(dw n).kindAt i.toNat==some .M)= !(decide (i<k)&&decide (kindAt n.dc i≠3)):=by
 by_cases h:i<k
 ·obtain⟨e,f,l⟩:=Pe pn A (show i<n.dc.length by lia);rw[e,aw h,aA (show ¬k<=i.toNat by lia)];have d:=(ma f l).1;rw[Bool.false_or,Bool.true_and];by_cases q:kindAt n.dc i=3
  ·rw[aA (fun z=>z q),d.mpr q];rfl
  ·rw[aw (show kindAt n.dc i≠3 from q)];have:¬kindOf (kindAt n.dc i)= .M:=fun z=>q (d.mp z);simpa using this
 ·rw[aA h,aw (show k<=i.toNat by lia)];rfl
omit pn in
theorem EE {p:Part}(l:Pn p)(d:Pn q)(i:p.kind=3):(decide ((dF q).kind= .M)&&((dF q).refs==(dF p).refs ||(dF q).refs==(dF p).refs.reverse))=jL q p.a p.b:=by
 have f:(dF p).refs=[p.a.toNat,p.b.toNat]:=by
  unfold dF;dsimp only;rw[ai (l.M.mpr i)]
 unfold jL;by_cases A:q.kind=3
 ·have B:(dF q).refs=[q.a.toNat,q.b.toNat]:=by
   unfold dF;dsimp only;rw[ai (d.M.mpr A)]
  rw[ah (fun z=>z A),f,B,aw (show(dF q).kind= .M from d.M.mpr A)];rw[bg];simp[zTq d.a0 l.a0,zTq d.b0 l.b0,zTq d.a0 l.b0,zTq d.b0 l.a0]
 ·rw[ai A,aA (show ¬(dF q).kind= .M from fun z=>A (d.M.mp z))];rfl
theorem S5 (hl:0<=n.last)(w:k<n.dc.length):jh n k=(((dw n).wrongAt k (dF (n.dc.getD k p0)):Nat):Int):=by
 have A:=pn _ (memD (d:=p0) w);unfold jh Net.wrongAt;dsimp only;rw[S4 A hl,kh,Jf,XE A];by_cases r:(iB (n.dc.getD k p0)).any (fun v=>decide (n.last<v))=true
 ·rw[ai r,ai r];rfl
 rw[ah r,ah r];by_cases H:pL (n.dc.getD k p0)=false
 ·rw[ai H,ai H];rfl
 rw[ah H,ah H];by_cases l:(n.dc.getD k p0).kind=3
 ·have B:gO n.dc k=true:=by
   unfold gO;dsimp only;rw[ai (by lia)]
  rw[ah (by rw[B];simp),ai l,ai (A.M.mpr l)];unfold ph;dsimp only;have f:(dF (n.dc.getD k p0)).refs=[(n.dc.getD k p0).a.toNat,(n.dc.getD k p0).b.toNat]:=by
   unfold dF;dsimp only;rw[ai (A.M.mpr l)]
  have C:((dw n).elems.take k).any (fun(y:Elem)=>decide (y.kind= .M)&&(y.refs==(dF (n.dc.getD k p0)).refs ||y.refs==(dF (n.dc.getD k p0)).refs.reverse))=(n.dc.take k).any (fun q=>jL q (n.dc.getD k p0).a (n.dc.getD k p0).b):=by
   show((n.dc.map dF).take k).any _=_;rw[<-List.map_take,List.any_map];rw[bg,List.any_eq_true,List.any_eq_true];constructor
   ·rintro⟨q,hq,e⟩;refine⟨q,hq,?_⟩;rw[<-EE A (pn q (List.mem_of_mem_take hq)) l];exact e
   ·rintro⟨q,hq,e⟩;refine⟨q,hq,?_⟩;rw[<-EE A (pn q (List.mem_of_mem_take hq)) l] at e;exact e
  rw[C,f];have anyR:[(n.dc.getD k p0).a.toNat,(n.dc.getD k p0).b.toNat].any (fun(a:Nat)=>decide (k<=a) ||(dw n).kindAt a !=some .L)=(!eN n.dc (n.dc.getD k p0).a k || !eN n.dc (n.dc.getD k p0).b k):=by
   rw[cC,cC,List.any_nil,Pf pn (cI w) A.a0,Pf pn (cI w) A.b0,Bool.or_false]
  rw[anyR];show _=(((if(!eN n.dc (n.dc.getD k p0).a k || !eN n.dc (n.dc.getD k p0).b k)=true\/(n.dc.getD k p0).a.toNat=(n.dc.getD k p0).b.toNat\/((n.dc.take k).any fun q=>jL q (n.dc.getD k p0).a (n.dc.getD k p0).b)=true then 3 else if(dw n).numAt (n.dc.getD k p0).a.toNat*(dw n).numAt (n.dc.getD k p0).b.toNat<((n.dc.getD k p0).top:Rat) / ((n.dc.getD k p0).dG:Rat)*(((n.dc.getD k p0).top:Rat) / ((n.dc.getD k p0).dG:Rat)) then 2 else 0:Nat)):Int);have S:(n.dc.getD k p0).a.toNat=(n.dc.getD k p0).b.toNat↔(n.dc.getD k p0).a=(n.dc.getD k p0).b:=zTq A.a0 A.b0
  by_cases o:(n.dc.getD k p0).a=(n.dc.getD k p0).b
  ·rw[ai (Or.inl o),ai (Or.inr (Or.inl (S.mpr o)))];rfl
  cases E:eN n.dc (n.dc.getD k p0).a k with
  |false=>rw[ai (Or.inr (Or.inl rfl)),ai (.inl rfl)];rfl
  |true=>
  cases I:eN n.dc (n.dc.getD k p0).b k with
  |false=>rw[ai (Or.inr (Or.inr rfl)),ai (.inl rfl)];rfl
  |true=>
  rw[ah (by rintro(h |h |h) <;>first |exact o h |cases h)];by_cases x:(n.dc.take k).any (fun q=>jL q (n.dc.getD k p0).a (n.dc.getD k p0).b)=true
  ·rw[ai x,ai (Or.inr (Or.inr x))];rfl
  have g:¬((!true || !true)=true\/(n.dc.getD k p0).a.toNat=(n.dc.getD k p0).b.toNat\/(n.dc.take k).any (fun q=>jL q (n.dc.getD k p0).a (n.dc.getD k p0).b)=true):=by
   rintro(h |h |h)
   ·cases h
   ·exact o (S.mp h)
   ·exact x h
  rw[ah x,ah g];have W:(n.dc.getD k p0).a<k:=by
   unfold eN at E;exact aI ((aW _ _).mp E).1
  have J:(n.dc.getD k p0).b<k:=by
   unfold eN at I;exact aI ((aW _ _).mp I).1
  have a0:=A.a0;have b0:=A.b0;have m:∀i:Nat,i<n.dc.length->(dw n).numAt i=((n.dc.getD i p0).top:Rat) / ((n.dc.getD i p0).dG:Rat):=fun i X=>by
   unfold Net.numAt;show(((n.dc.map dF)[i]?).map _).getD 0=_;rw[aD,gDe,af X];rfl
  rw[m _ (by lia),m _ (by lia)];have Q:=pn _ (memD (d:=p0) (show(n.dc.getD k p0).a.toNat<n.dc.length by lia));have F:=pn _ (memD (d:=p0) (show(n.dc.getD k p0).b.toNat<n.dc.length by lia));have P:tooMuch (n.dc.getD k p0) (n.dc.getD (n.dc.getD k p0).a.toNat p0) (n.dc.getD (n.dc.getD k p0).b.toNat p0)=true↔((n.dc.getD (n.dc.getD k p0).a.toNat p0).top:Rat) / ((n.dc.getD (n.dc.getD k p0).a.toNat p0).dG:Rat)*(((n.dc.getD (n.dc.getD k p0).b.toNat p0).top:Rat) / ((n.dc.getD (n.dc.getD k p0).b.toNat p0).dG:Rat))<((n.dc.getD k p0).top:Rat) / ((n.dc.getD k p0).dG:Rat)*(((n.dc.getD k p0).top:Rat) / ((n.dc.getD k p0).dG:Rat)):=by
   generalize n.dc.getD (n.dc.getD k p0).a.toNat p0=u at Q⊢;generalize n.dc.getD (n.dc.getD k p0).b.toNat p0=v at F⊢;generalize n.dc.getD k p0=c at A⊢;have T:=Q.b1;have v1:=F.b1;have c1:=A.b1;unfold tooMuch;rw[a4];have O:=lK (show 0<u.dG by lia);have vp:=lK (show 0<v.dG by lia);have R:=lK (show 0<c.dG by lia);have D:(u.top:Rat) / (u.dG:Rat)*((v.top:Rat) / (v.dG:Rat))=((u.top*v.top:Int):Rat) / ((u.dG*v.dG:Int):Rat):=by push_cast;grind
   have K:(c.top:Rat) / (c.dG:Rat)*((c.top:Rat) / (c.dG:Rat))=((c.top*c.top:Int):Rat) / ((c.dG*c.dG:Int):Rat):=by push_cast;grind
   rw[D,K,Na (Int.mul_pos (by lia) (by lia)) (Int.mul_pos (by lia) (by lia)),<-Int.mul_assoc,<-Int.mul_assoc]
  by_cases t:tooMuch (n.dc.getD k p0) (n.dc.getD (n.dc.getD k p0).a.toNat p0) (n.dc.getD (n.dc.getD k p0).b.toNat p0)=true
  ·rw[ai t,ai (P.mp t)];rfl
  ·rw[ah t,ah (fun z=>t (P.mpr z))];rfl
 ·rw[ah (fun e=>l (A.M.mp e))];have j:=(ma A.k0 A.k1).2.2.2.2.2.2.2.1;have N:=(ma A.k0 A.k1).2.2.2.2.2.2.2.2.1;by_cases s:(n.dc.getD k p0).kind=8\/(n.dc.getD k p0).kind=9
  ·have G:refCount (kindOf (n.dc.getD k p0).kind)=1:=by
    unfold refCount;rw[ah (fun e=>l (A.M.mp e)),ai (s.imp j.mpr N.mpr)]
   have f:(dF (n.dc.getD k p0)).refs=[(n.dc.getD k p0).c.toNat]:=by
    unfold dF;dsimp only;rw[ah (fun e=>l (A.M.mp e)),ai G]
   have B:gO n.dc k=(decide ((n.dc.getD k p0).c<(k:Int))&&decide (kindAt n.dc (n.dc.getD k p0).c≠3)):=by
    unfold gO;dsimp only;rw[ah (fun q=>q s)]
   rw[f,cC,List.any_nil,Bool.or_false,XF pn (cI w) A.c0,B];cases q:(decide ((n.dc.getD k p0).c<(k:Int))&&decide (kindAt n.dc (n.dc.getD k p0).c≠3)) with
   |false=>rfl
   |true=>
    rw[ah (by simp),ah l];rfl
  ·have G:refCount (kindOf (n.dc.getD k p0).kind)=0:=by
    unfold refCount;rw[ah (fun e=>l (A.M.mp e)),ah (fun z=>s (z.imp j.mp N.mp))]
   have f:(dF (n.dc.getD k p0)).refs=[]:=by
    unfold dF;dsimp only;rw[ah (fun e=>l (A.M.mp e)),ah (by rw[G];decide)]
   have B:gO n.dc k=true:=by
    unfold gO;dsimp only;rw[ai s]
   rw[f,B,ah (by simp),ah l];rfl
noncomputable def tell:Option (Nat×Nat)->List Int
 |none=>[]
 |some x=>[(x.1:Int),(x.2:Int)]
theorem S6(hl:0<=n.last):fault n=tell (dw n).wrong:=by
 unfold Net.wrong;rw[g7,List.findSome?_map];have key:∀f,f<=n.dc.length->lF n f=tell (((List.range n.dc.length).drop (n.dc.length - f)).findSome? ((fun(p:Nat×Elem)=>if(dw n).wrongAt p.1 p.2=0 then none else some (p.1,(dw n).wrongAt p.1 p.2)) ∘ fun k=>(k,dF (n.dc.getD k p0)))):=by
  intro f;induction f with
  |zero=>
   intro _;rw[Nat.sub_zero,List.drop_of_length_le (by simp)];rfl
  |succ f d=>
   intro i;have d:=d (by lia);have A:n.dc.length - (f+1)<n.dc.length:=by lia
   have e:(List.range n.dc.length).drop (n.dc.length - (f+1))=(n.dc.length - (f+1))::(List.range n.dc.length).drop (n.dc.length - f):=by
    rw[cY (by rw[a5];exact A),List.getElem_range];congr 2;lia
   rw[e,List.findSome?_cons];unfold lF;dsimp only;rw[S5 pn hl A];have l:((fun(p:Nat×Elem)=>if(dw n).wrongAt p.1 p.2=0 then none else some (p.1,(dw n).wrongAt p.1 p.2)) ∘ fun k=>(k,dF (n.dc.getD k p0))) (n.dc.length - (f+1))=if(dw n).wrongAt (n.dc.length - (f+1)) (dF (n.dc.getD (n.dc.length - (f+1)) p0))=0 then none else some (n.dc.length - (f+1),(dw n).wrongAt (n.dc.length - (f+1)) (dF (n.dc.getD (n.dc.length - (f+1)) p0))):=rfl;rw[l];by_cases q:(dw n).wrongAt (n.dc.length - (f+1)) (dF (n.dc.getD (n.dc.length - (f+1)) p0))=0
   ·rw[ai q,ah (by rw[q];simp),d]
   ·rw[ah q,ai (by lia)];rfl
 have:=key n.dc.length (aj _);rw[cX,List.drop_zero] at this;exact this
end
noncomputable def left(L:Law):List (Nat×Rat)×List (Nat×Rat):=(L.terms,L.byS)
theorem S7 (N:Net)(G d)(A:∀k,G.on k=d.on k)(k)(x):(N.lawsOf G k x).map left=(N.lawsOf d k x).map left:=by
 unfold Net.lawsOf;dsimp only;cases x.kind <;>dsimp only <;>try rfl
 rw[A k];split <;>rfl
theorem S8 (N:Net)(G d)(A:∀k,G.on k=d.on k):(N.laws G).map left=(N.laws d).map left:=by
 unfold Net.laws;rw[bC,bC];congr 1;rw[List.map_flatMap,List.map_flatMap];congr 1;funext p;exact S7 N G d A p.1 p.2
theorem QY (N:Net)(G d)(A:∀k,G.on k=d.on k)(s):((N.rows G s).map fun(r:Row)=>r.1)=(N.rows d s).map fun(r:Row)=>r.1:=by
 unfold Net.rows;rw[aN,aN];have e:∀G:Setting,(N.laws G).map ((fun(r:Row)=>r.1) ∘ fun(l:Law)=>l.row N.unknowns s)=((N.laws G).map left).map fun x=>x.2.foldl (fun(r:List Rat) (t:Nat×Rat)=>addAt r t.1 (s*t.2)) (x.1.foldl (fun(r:List Rat) (t:Nat×Rat)=>addAt r t.1 t.2) (List.replicate N.unknowns 0)):=fun G=>by
  rw[aN];rfl
 rw[e G,e d,S8 N G d A]
theorem right_of (h:gi l=[]):Right (gV l)/\oN l=true:=by
 unfold gi at h;cases e:oN l with
 |false=>rw[e,ai rfl] at h;cases h
 |true=>
  rw[e,ah (by simp)] at h;have N:=SY e;refine⟨⟨N.l1,N.l8,aB N.dc (by decide),aB (cR ..) N.dc,N.pn,?_⟩,rfl⟩;cases f:fault (gV l) with
  |nil=>rfl
  |cons x d=>rw[f] at h;cases h
theorem S9 (l)(f:Net->WhB.Answer):WhBNeutral.shown (WhB.ofNet l f)=if gi l≠[] then gi l else WhBNeutral.shown (f (dw (gV l))):=by
 unfold WhB.ofNet;rw[XB];cases e:oN l with
 |false=>
  have d:gi l=[-1]:=by
   unfold gi;rw[ai e]
  rw[d,ai rfl,ai (by simp)];rfl
 |true=>
  have N:=SY e;have d:gi l=match fault (gV l) with
   |[]=>[]
   |f=> -2::f:=by
   unfold gi;rw[ah (by rw[e];simp)]
   all_goals cases fault (gV l) <;>rfl
  rw[ah (by simp),XC N.m7];rw[S6 N.pn (by have:=N.l1;lia)] at d;cases w:(dw (gV l)).wrong with
  |none=>
   rw[w] at d;have d:gi l=[]:=d;rw[d,ah (by simp)]
  |some x=>
   rw[w] at d;have d:gi l=[-2,(x.1:Int),(x.2:Int)]:=d;rw[d,ai (by simp)];rfl
theorem fO (a)(l:dQ):ib (a::l)=a.natAbs+ib l:=by unfold ib;simp
theorem Jn:ib []=0:=rfl
theorem vD:∀l r:dQ,ib (ja l r)<=ib l+ib r
 |[],r=>by
  show ib r<=0+ib r;lia
 |a::l,[]=>by
  show ib (a::l)<=ib (a::l)+0;lia
 |a::l,b::r=>by
  show ib ((a+b)::ja l r)<=_;rw[fO,fO,fO];have:=vD l r;have:=Int.natAbs_add_le a b;lia
theorem HP (c):∀l:dQ,ib (l.map fun y=>c*y)=c.natAbs*ib l
 |[]=>by
  show 0=c.natAbs*0;lia
 |a::l=>by
  rw[aK,fO,fO,HP c l,cn,Nat.mul_add]
theorem zF:∀l r:dQ,ib (mulL l r)<=ib l*ib r
 |[],r=>by
  show 0<=_;lia
 |a::l,r=>by
  show ib (ja (r.map fun y=>a*y) (0::mulL l r))<=_;refine aB (vD _ _) ?_;rw[HP,fO,fO,Nat.add_mul];have:=zF l r;have e:(0:Int).natAbs=0:=rfl;lia
theorem Le:∀(l:dQ) (k:Nat),ib (l.take k)<=ib l
 |[],k=>by simp[ib]
 |a::l,0=>by
  show 0<=_;lia
 |a::l,k+1=>by
  rw[List.take_succ_cons,fO,fO];have:=Le l k;lia
theorem Jo (l):ib (Mf l)<=ib l:=Le _ _
theorem Pg (l):ib (mP l)=ib l:=by
 unfold ib mP;rw[aN];congr 1;apply aT;intro x _;exact Int.natAbs_neg x
theorem Ds:∀{l:dQ} {x:Int},x∈l->x.natAbs<=ib l
 |a::l,x,h=>by
  rw[fO];rcases aL.mp h with rfl |h
  ·lia
  ·have:=Ds h;lia
theorem Lf (l r):ib (iQ l r)<=ib l*ib r:=by
 unfold iQ;split
 ·show 0<=_;lia
 ·exact zF l r
theorem VB (l r):(mulL l r).length<=l.length+r.length:=by
 by_cases A:l=[]
 ·subst A;simp[mulL]
 ·by_cases d:r=[]
  ·subst d;have:∀l:dQ,(mulL l []).length<=l.length:=by
    intro l;induction l with
    |nil=>simp[mulL]
    |cons a l i=>
     show(ja [] (0::mulL l [])).length<=_;rw[lh];simp;lia
   exact aB (this l) (by lia)
  ·rw[iX l r A d];lia
theorem Bd.mono (h:Bd f d B)(i:d<=e)(v:B<=C):Bd f e C:=by
 obtain⟨l,t,A,k,x⟩:=h.ex;exact⟨l,t,A,by lia,by lia⟩
theorem Lg (l)(i:l.length<=d+1)(A:ib l<=B):Bd (dO l) d B:=⟨Mf l,kZ l,sZ l,aB (DW l) i,aB (Jo l) A⟩
theorem Bd.add (A:Bd f d B)(i:Bd g d C):Bd (f+g) d (B+C):=by
 obtain⟨l,_,rfl,w,v⟩:=A.ex;obtain⟨m,_,rfl,k,x⟩:=i.ex;rw[<-zj];refine Lg _ ?_ ?_
 ·rw[lh];lia
 ·have:=vD l m;lia
theorem Bd.neg (A:Bd f d B):Bd (- f) d B:=by
 obtain⟨l,_,rfl,k,i⟩:=A.ex;rw[<-zm];refine Lg _ ?_ ?_
 ·rw[jM];exact k
 ·rw[Pg];exact i
theorem Bd.sub (A:Bd f d B)(l:Bd g d C):Bd (f - g) d (B+C):=by
 have e:f - g=f+ - g:=by grind
 rw[e];exact A.add l.neg
theorem Bd.mul (x:Bd f d B)(w:Bd g e C):Bd (f*g) (d+e) (B*C):=by
 obtain⟨l,_,rfl,t,v⟩:=x.ex;obtain⟨m,_,rfl,h,k⟩:=w.ex;rw[<-jT];refine Lg _ ?_ ?_
 ·by_cases A:l=[]
  ·subst A;simp[mulL]
  ·by_cases i:m=[]
   ·subst i;have:=VB l [];simp at this;lia
   ·rw[iX l m A i];lia
 ·exact aB (zF l m) (bW v k)
theorem Jp (d):Bd 0 d 0:=⟨[],zh,rfl,by simp,aj _⟩
theorem Nb (d):Bd 1 d 1:=by
 rw[<-zA];exact Lg [1] (by simp) (by decide)
theorem Zk (i):Bd (sg i) 0 1:=by
 unfold sg;split
 ·exact Nb 0
 ·exact(Nb 0).neg
theorem Jq (d B):∀(n:Nat) {f:Nat->PF},(∀i,i<n->Bd (f i) d B)->Bd (eV n f) d (n*B)
 |0,_,_=>by
  rw[Nat.zero_mul];exact Jp d
 |n+1,f,h=>by
  have:=(Jq d B n fun i A=>h i (by lia)).add (h n (by lia));rw[cV];exact this
noncomputable def db(B:Nat):Nat->Nat
 |0=>1
 |n+1=>(n+1)*(B*db B n)
theorem EF (B):∀(n:Nat) {A:Nat->Nat->PF},(∀i j,i<n->j<n->Bd (A i j) 1 B)->Bd (det n A) n (db B n)
 |0,_,_=>Nb 0
 |n+1,A,h=>by
  rw[gG];refine Jq (n+1) (B*db B n) (n+1) fun i d=> ?_;have l:=(Zk i).mul ((h i 0 d (by lia)).mul (EF B n fun a b f k=>h _ _ (yZ f) (by lia):Bd (det n (del i A)) n (db B n)));exact l.mono (by lia) (by lia)
theorem Ta:∀n,n<=32->db (2^b) n<=2^((b+5)*n)
 |0,_=>by
  show 1<=_;exact Nat.one_le_two_pow
 |n+1,h=>by
  have d:=Ta (b:=b) n (by lia);show(n+1)*(2^b*db (2^b) n)<=_;have e:2^((b+5)*(n+1))=2^5*(2^b*2^((b+5)*n)):=by
   rw[<-Nat.pow_add,<-Nat.pow_add];congr 1;rw[Nat.mul_add];lia
  rw[e];exact bW (by lia) (bW (aj _) d)
theorem Ph (h:m<=n):db (2^b) m<=db (2^b) n:=by
 induction h with
 |refl=>exact aj _
 |step h A=>
  rename_i q;refine aB A ?_;show db (2^b) q<=(q+1)*(2^b*db (2^b) q);have l:1<=2^b:=Nat.one_le_two_pow;have d:db (2^b) q<=2^b*db (2^b) q:=cQ _ (by lia);exact aB d (cQ _ (by lia))
theorem Bd.list {l:dQ}(t:Trim l)(h:Bd (dO l) d B):l.length<=d+1/\ib l<=B:=by
 obtain⟨m,A,e,f,i⟩:=h.ex;rw[y8 t A e.symm];exact⟨f,i⟩
structure LB(w:Int)(m c:Nat)(ts:List Term):Prop where
 at_:∀t∈ts,0<=t.1/\t.1<=w/\t.2.length<=m/\ib t.2<=c
theorem LB.app (A:LB w m c a)(l:LB w m c b):LB w m c (a ++ b):=⟨fun t d=>(aX.mp d).elim (A.at_ t) (l.at_ t)⟩
theorem LB.mono (B:LB w m c a)(h:m<=A)(v:c<=d):LB w A d a:=⟨fun t i=>by
 obtain⟨l,f,x,k⟩:=B.at_ t i;exact⟨l,f,by lia,by lia⟩⟩
theorem Pj (z):ib (cst z)=z.natAbs:=by
 unfold cst;split
 ·rename_i h;rw[h];rfl
 ·rw[fO];rfl
theorem Pk (z):(cst z).length<=1:=by
 unfold cst;split <;>simp
theorem Tb (l r)(h:r.length<=1):(iQ l r).length<=l.length:=by
 unfold iQ;split
 ·simp
 ·rename_i q;have A:l≠[]:=fun e=>q (.inl e);have d:r≠[]:=fun e=>q (.inr e);rw[iX l r A d];lia
theorem Tc (l r)(h:r.length<=2):(iQ l r).length<=l.length+1:=by
 unfold iQ;split
 ·simp
 ·rename_i q;have A:l≠[]:=fun e=>q (.inl e);have d:r≠[]:=fun e=>q (.inr e);rw[iX l r A d];lia
theorem LB.QZ (B:LB w m c a)(z):LB w m (c*z.natAbs) (sX a (cst z)):=⟨fun t l=>by
 obtain⟨u,k,rfl⟩:=aV.mp l;obtain⟨A,f,i,d⟩:=B.at_ u k;refine⟨A,f,aB (Tb _ _ (Pk z)) i,aB (Lf _ _) ?_⟩;rw[Pj];exact cq _ d⟩
theorem LB.Zl (x:LB w 1 c a){s:dQ}(d:s=[]\/s=[0,1]):LB w 2 c (sX a s):=⟨fun t i=>by
 obtain⟨u,v,rfl⟩:=aV.mp i;obtain⟨l,f,h,A⟩:=x.at_ u v;have k:s.length<=2:=by rcases d with rfl |rfl <;>simp
 have B:ib s<=1:=by rcases d with rfl |rfl <;>decide
 refine⟨l,f,aB (Tc _ _ k) (by lia),aB (Lf _ _) ?_⟩;exact aB (bW A B) (by lia)⟩
theorem jW (a)(p):(sX a p).length=a.length:=by unfold sX;simp
theorem xJ (a b):(KO a b).length<=2:=by
 unfold KO;split <;>split <;>simp
theorem m9 (A:a<=w)(l:b<=w):LB w 1 1 (KO a b):=⟨fun t d=>by
 unfold KO at d;rcases aX.mp d with h |h
 ·split at h
  ·rw[aE.mp h];exact⟨by show 0<=a - 1;lia,by show a - 1<=w;lia,by simp,(show ib [1]<=1 by decide)⟩
  ·cases h
 ·split at h
  ·rw[aE.mp h];exact⟨by show 0<=b - 1;lia,by show b - 1<=w;lia,by simp,(show ib [-1]<=1 by decide)⟩
  ·cases h⟩
structure Q0(n:Nw)(g:mY):Prop where
 eQ:g.eQ=n
 s:g.s=[]\/g.s=[0,1]
 dr:∀k,(g.drives.getD k (0,1)).1.natAbs<=1000000/\(g.drives.getD k (0,1)).2.natAbs<=1000000
section
variable {n:Nw}(R:Right n){g:mY}(S:Q0 n g)
include R
theorem Td{j:Int}(l:0<=j)(A:j<n.dc.length)(d:kindAt n.dc j≠3):0<=(places n).getD j.toNat 0/\(places n).getD j.toNat 0+1<=width n:=by
 rw[R.place (show j.toNat<n.dc.length by lia),R.Bj];have:=zE R (show j.toNat<n.dc.length by lia) d;lia
theorem Pl:n.last<=width n:=by
 rw[R.Bj];have:=zD n;have:=R.l1;lia
include S
theorem Jr{j:Int}(l:0<=j)(A:j<n.dc.length)(i:kindAt n.dc j≠3):LB (width n) 1 1 (cur g j):=⟨fun t d=>by
 unfold cur at d;rw[S.eQ] at d;rw[aE.mp d];have:=Td R l A i;exact⟨this.1,by show(places n).getD j.toNat 0<=_;lia,by simp,(show ib [1]<=1 by decide)⟩⟩
omit S in
theorem qT (d:Pn p)(i:LB (width n) m 1 l)(A:LB (width n) m 1 r):LB (width n) m 1000000 (pN p l r):=by
 unfold pN;have b:p.dG.natAbs<=1000000:=by have:=d.b1;have:=d.b2;lia
 refine LB.app ((i.QZ p.dG).mono (aj _) (by lia)) ((A.QZ (-p.top)).mono (aj _) ?_);rw[Int.natAbs_neg];have:=d.t;lia
theorem Nc (f:1<=m)(A:LB (width n) m 1 l):LB (width n) m 1000000 (Mh g k l):=by
 unfold Mh;obtain⟨i,B⟩:=S.dr k;refine LB.app ((A.QZ _).mono (aj _) (by lia)) ⟨fun t d=> ?_⟩;rw[S.eQ] at d;rw[aE.mp d];refine⟨?_,Int.le_refl _,aB (Pk _) f,?_⟩
 ·show 0<=width n;rw[R.Bj];lia
 ·show ib (cst _)<=_;rw[Pj];exact i
omit R S in
theorem HQ:∀(d:List (Int×Int×Int)) (c:Int),0<=c->(∀x∈d,1<=x.2.2/\x.2.2<=1000000)->d.foldl (fun c x=>c*x.2.2) c<=c*1000000^d.length/\0<=d.foldl (fun c x=>c*x.2.2) c
 |[],c,A,_=>⟨by simp,A⟩
 |x::d,c,A,h=>by
  obtain⟨v,l⟩:=h x aC;have B:0<=c*x.2.2:=Int.mul_nonneg A (by lia);obtain⟨i,f⟩:=HQ d (c*x.2.2) B fun y k=>h y (ao _ k);refine⟨Int.le_trans i ?_,f⟩;rw[ak,Int.pow_succ,<-Int.mul_assoc,Int.mul_assoc,Int.mul_comm x.2.2,<-Int.mul_assoc];refine Int.mul_le_mul_of_nonneg_left l (Int.mul_nonneg A (Int.pow_nonneg (by decide)))
omit R S in
theorem xK (h:∀x,p x=true->q x=true):∀l:List Part,(l.filter p).length<=(l.filter q).length
 |[]=>aj _
 |x::l=>by
  have A:=xK h l;cases e:p x with
  |true=>rw[bh e,bh (h x e)];exact Nat.succ_le_succ A
  |false=>
   rw[bu (by rw[e];simp)];cases d:q x with
   |true=>rw[bh d,ak];lia
   |false=>rw[bu (by rw[d];simp)];exact A
omit R S in
theorem Gq (ps)(k):(fm ps k).length<=(ps.filter fun p=>decide (p.kind≠4/\p.kind≠5)).length+1:=by
 unfold fm;rw[ak,lMp];have:=xK (p:=fun p=>decide (p.kind=3/\((k:Int)=p.a\/(k:Int)=p.b))) (q:=fun p=>decide (p.kind≠4/\p.kind≠5)) (fun x h=>aw (by have:=(aI h).1;lia)) ps;lia
omit R S in
theorem Js {α β:Type}{f:α->List β}:∀l:List α,(∀x∈l,(f x).length<=c)->(l.flatMap f).length<=l.length*c
 |[],_=>by simp
 |x::l,h=>by
  rw[bP,aJ,ak,cV];have:=h x aC;have:=Js l fun y d=>h y (ao _ d);lia
theorem VC (H:k<n.dc.length)(r:(n.dc.getD k p0).kind=2):LB (width n) 2 (2^240) (sY g k)/\(sY g k).length<=64:=by
 have sin:=Er R r H;have E:=Gq n.dc k;have N:=R.ns;have ab:=R.ab H (by lia);have D:=Pl R;have C:=HQ (fm n.dc k) 1 (by decide) (fun x d=>⟨(sin x d).2.2.1,(sin x d).2.2.2.1⟩);have G:(common (fm n.dc k)).natAbs<=1000000^11:=by
  have v:(1000000:Nat)^(fm n.dc k).length<=1000000^11:=bA (by decide) (by lia);have B:common (fm n.dc k)<=((1000000^(fm n.dc k).length:Nat):Int):=by
   have:=C.1;rw[Int.one_mul] at this;rw[Int.natCast_pow];exact this
  have M:0<=common (fm n.dc k):=C.2;generalize (1000000:Nat)^(fm n.dc k).length=X at v B;generalize (1000000:Nat)^11=Y at v⊢;lia
 have F:0<common (fm n.dc k):=xH _ 1 (by decide) fun x d=>by have:=sin x d;lia
 unfold sY;dsimp only;rw[S.eQ];refine⟨LB.app (((m9 (by lia) (by lia)).QZ _).mono (by lia) ?_) ⟨fun t h=> ?_⟩,?_⟩
 ·refine aB (b8 1 G) ?_;decide +kernel
 ·obtain⟨x,d,h⟩:=cP.mp h;obtain⟨m,P,Q,K,j⟩:=sin x d;have B:kindAt n.dc x.1≠3:=by
   unfold fm at d;rcases aL.mp d with rfl |d
   ·unfold kindAt;show(n.dc.getD ((k:Int)).toNat p0).kind≠3;rw[bK,r];decide
   ·obtain⟨p,L,rfl⟩:=aV.mp d;obtain⟨z,w⟩:=b9.mp L;have w:=aI w;obtain⟨i,o,e⟩:=br z;have y:n.dc.getD i p0=p:=by rw[gDe,af o,e];rfl
    have l:=R.Vq o (by rw[y];exact w.1);rw[y] at l;show kindAt n.dc (p.a+p.b - (k:Int))≠3;rcases w.2 with q |q
    ·have u:p.a+p.b - (k:Int)=p.b:=by lia
     rw[u,l.2.2.2];decide
    ·have u:p.a+p.b - (k:Int)=p.a:=by lia
     rw[u,l.2.1.2];decide
  have I:((common (fm n.dc k)).fdiv x.2.2).natAbs<=1000000^11:=by
   have e:(common (fm n.dc k)).fdiv x.2.2=common (fm n.dc k) / x.2.2:=Int.fdiv_eq_ediv_of_nonneg _ (by lia);rw[e];have v:0<=common (fm n.dc k) / x.2.2:=Int.ediv_nonneg (by lia) (by lia);have r:common (fm n.dc k) / x.2.2<=common (fm n.dc k):=Int.ediv_le_self _ (by lia);lia
  have A:=(((Jr R S m P B).Zl S.s).QZ (-x.2.1*(common (fm n.dc k)).fdiv x.2.2)).at_ t h;refine⟨A.1,A.2.1,A.2.2.1,aB A.2.2.2 ?_⟩;rw[Nat.one_mul,cn,Int.natAbs_neg];refine aB (bW j I) ?_;decide +kernel
 ·rw[aJ,jW];have v:=xJ (n.dc.getD k p0).a (n.dc.getD k p0).b;have B:=Js (c:=1) (f:=fun x:Int×Int×Int=>sX (sX (cur g x.1) g.s) (cst (-x.2.1*(common (fm n.dc k)).fdiv x.2.2))) (fm n.dc k) (fun x _=>by rw[jW,jW];exact aj _);unfold oT;lia
omit S R in
theorem jd (p)(l r):(pN p l r).length=l.length+r.length:=by unfold pN;rw[aJ,jW,jW]
omit S R in
theorem xM (g)(k)(l):(Mh g k l).length=l.length+1:=by unfold Mh;rw[aJ,jW];rfl
theorem VD (v:k<n.dc.length):∀i∈gP g k,LB (width n) 2 (2^240) i/\i.length<=64:=by
 have B:=R.p v;have ab:=R.ab v;have z:=R.cd v;have o:=R.Yk v;have m:=Pl R;have C:=VC R S v;have G:kindAt n.dc (k:Int)=(n.dc.getD k p0).kind:=by
  unfold kindAt;rw[bK]
 have x:(n.dc.getD k p0).kind≠3->LB (width n) 1 1 (cur g (k:Int)):=fun h=>Jr R S (by lia) (by lia) (by rw[G];exact h);have big:1000000<=2^240:=by decide +kernel
 have one:1<=2^240:=by decide +kernel
 have bl:=xJ (n.dc.getD k p0).a (n.dc.getD k p0).b;have F:=xJ (n.dc.getD k p0).c (n.dc.getD k p0).d;have f:∀j,(cur g j).length=1:=fun j=>rfl;unfold gP;dsimp only;rw[S.eQ];have r:=B.c0;have H:(n.dc.getD k p0).kind=10->LB (width n) 1 1 [((places n).getD k 0+1,[1])]:=fun u=>⟨fun t y=>by
  rw[aE.mp y];have q:=Ji R v u;have P:=R.place v;have h:=R.Bj;exact⟨by show 0<=(places n).getD k 0+1;lia,by show(places n).getD k 0+1<=_;lia,by simp,(show ib [1]<=1 by decide)⟩⟩
 generalize I:n.dc.getD k p0=p at *;rcases tE B.k0 B.k1 with e |e |e |e |e |e |e |e |e |e |e |e |e |e
 ·have l:p.kind.toNat=0:=by rw[e];rfl
  rw[l];intro i A;rw[aE.mp A];refine⟨(qT R B (m9 (by lia) (by lia)) (x (by lia))).mono (by lia) big,?_⟩;rw[jd,f];unfold oT;lia
 ·have l:p.kind.toNat=1:=by rw[e];rfl
  rw[l];intro i A;rw[aE.mp A];refine⟨(qT R B ((x (by lia)).mono (by lia) (aj _)) ((m9 (by lia) (by lia)).Zl S.s)).mono (by lia) big,?_⟩;rw[jd,f,jW];unfold oT;lia
 ·have l:p.kind.toNat=2:=by rw[e];rfl
  rw[l];intro i A;rw[aE.mp A];exact C e
 ·have l:p.kind.toNat=3:=by rw[e];rfl
  rw[l];intro i A;cases A
 ·have l:p.kind.toNat=4:=by rw[e];rfl
  rw[l];intro i A;rw[aE.mp A];refine⟨(Nc R S (aj 1) (m9 (by lia) (by lia))).mono (by lia) big,?_⟩;rw[xM];unfold oT;lia
 ·have l:p.kind.toNat=5:=by rw[e];rfl
  rw[l];intro i A;rw[aE.mp A];refine⟨(Nc R S (aj 1) (x (by lia))).mono (by lia) big,?_⟩;rw[xM,f];lia
 ·have l:p.kind.toNat=6:=by rw[e];rfl
  rw[l];intro i A;rw[aE.mp A];refine⟨(qT R B (m9 (by lia) (by lia)) (m9 (by lia) (by lia))).mono (by lia) big,?_⟩;rw[jd];unfold oT IX;lia
 ·have l:p.kind.toNat=7:=by rw[e];rfl
  rw[l];intro i A;rw[aE.mp A];refine⟨(qT R B (x (by lia)) (m9 (by lia) (by lia))).mono (by lia) big,?_⟩;rw[jd,f];unfold IX;lia
 ·have l:p.kind.toNat=8:=by rw[e];rfl
  rw[l];intro i A;rw[aE.mp A];have w:=o (.inl e);refine⟨(qT R B (m9 (by lia) (by lia)) (Jr R S r (by lia) w.2)).mono (by lia) big,?_⟩;rw[jd,f];unfold oT;lia
 ·have l:p.kind.toNat=9:=by rw[e];rfl
  rw[l];intro i A;rw[aE.mp A];have w:=o (.inr e);refine⟨(qT R B (x (by lia)) (Jr R S r (by lia) w.2)).mono (by lia) big,?_⟩;rw[jd,f,f];lia
 ·have l:p.kind.toNat=10:=by rw[e];rfl
  rw[l];intro i A;rcases aL.mp A with rfl |A
  ·refine⟨(qT R B (m9 (by lia) (by lia)) (m9 (by lia) (by lia))).mono (by lia) big,?_⟩;rw[jd];unfold oT IX;lia
  ·rw[aE.mp A];have q:LB (width n) 1 1 (sX (cur g (k:Int)) [-1]):=by
    have:=(x (by lia)).QZ (-1);exact this
   refine⟨(qT R B (H e) q).mono (by lia) big,?_⟩;rw[jd,jW,f];simp
 ·have l:p.kind.toNat=11:=by rw[e];rfl
  rw[l];intro i A;rw[aE.mp A];refine⟨(m9 (by lia) (by lia)).mono (by lia) one,?_⟩;unfold IX;lia
 ·have l:p.kind.toNat=12:=by rw[e];rfl
  rw[l];intro i A;rw[aE.mp (show i∈[if p.top=0 then cur g (k:Int) else oT p] from A)];split
  ·exact⟨(x (by lia)).mono (by lia) one,by rw[f];lia⟩
  ·exact⟨(m9 (by lia) (by lia)).mono (by lia) one,by unfold oT;lia⟩
 ·have l:p.kind.toNat=13:=by rw[e];rfl
  rw[l];intro i A;have A:i∈(if g.gZ.getD k false=true then[Mh g k (oT p)] else[cur g (k:Int)]):=A;split at A
  ·rw[aE.mp A];refine⟨(Nc R S (aj 1) (m9 (by lia) (by lia))).mono (by lia) big,?_⟩;rw[xM];unfold oT;lia
  ·rw[aE.mp A];exact⟨(x (by lia)).mono (by lia) one,by rw[f];lia⟩
omit S in
theorem VE (v):LB (width n) 2 (2^240) (lH n v)/\(lH n v).length<=64:=by
 have one:1<=2^240:=by decide +kernel
 have H:=R.dc;unfold lH;rw[HB n.dc (places n) p0 0 (xb n),cO];refine⟨⟨fun t A=> ?_⟩,?_⟩
 ·obtain⟨k,x,A⟩:=cP.mp A;have x:=aY.mp x;dsimp only at A;have C:=R.p x;by_cases q:(n.dc.getD k p0).kind=3
  ·rw[ai q] at A;cases A
  rw[ah q] at A;have F:=zE R x q;have pl:=R.place x;have o:=R.Bj;have B:∀(c:Prop) [Decidable c] (i:Int) (p:dQ),t∈(if c then[(i,p)] else[])->t=(i,p):=fun c _ i p h=>by
   split at h
   ·exact aE.mp h
   ·cases h
  have fin:∀(i:Int) (z:Int),t=(i,[z])->z.natAbs=1->0<=i->i<=width n->0<=t.1/\t.1<=width n/\t.2.length<=2/\ib t.2<=2^240:=fun i z e s u r=>by
   rw[e];refine⟨u,r,by simp,?_⟩;show ib [z]<=_;rw[fO,Jn,s];exact one
  rcases aX.mp A with A |A
  ·rcases aX.mp A with A |A
   ·exact fin _ _ (B _ _ _ A) rfl (by lia) (by lia)
   ·exact fin _ _ (B _ _ _ A) rfl (by lia) (by lia)
  ·by_cases l:(n.dc.getD k p0).kind=10
   ·have G:=Ji R x l;rw[ai l] at A;rcases aX.mp A with A |A
    ·exact fin _ _ (B _ _ _ A) rfl (by lia) (by lia)
    ·exact fin _ _ (B _ _ _ A) rfl (by lia) (by lia)
   ·rw[ah l] at A;cases A
 ·have w:∀(c:Prop) [Decidable c] (t:Term),(if c then[t] else[]).length<=1:=fun c _ t=>by split <;>simp
  have:=Js (c:=4) (f:=fun k=>if(n.dc.getD k p0).kind=3 then[] else(if(n.dc.getD k p0).a=v then[((places n).getD k 0,[1])] else[]) ++ (if(n.dc.getD k p0).b=v then[((places n).getD k 0,[-1])] else[]) ++ (if(n.dc.getD k p0).kind=10 then(if(n.dc.getD k p0).c=v then[((places n).getD k 0+1,[1])] else[]) ++ (if(n.dc.getD k p0).d=v then[((places n).getD k 0+1,[-1])] else[]) else[])) (List.range n.dc.length) (fun k _=>by
   split
   ·simp
   ·rw[aJ,aJ];have:=w ((n.dc.getD k p0).a=v) ((places n).getD k 0,[1]);have:=w ((n.dc.getD k p0).b=v) ((places n).getD k 0,[-1]);have y:(if(n.dc.getD k p0).kind=10 then(if(n.dc.getD k p0).c=v then[((places n).getD k 0+1,[1])] else[]) ++ (if(n.dc.getD k p0).d=v then[((places n).getD k 0+1,[-1])] else[]) else([]:List Term)).length<=2:=by
     by_cases l:(n.dc.getD k p0).kind=10
     ·rw[ai l,aJ];have:=w ((n.dc.getD k p0).c=v) ((places n).getD k 0+1,[1]);have:=w ((n.dc.getD k p0).d=v) ((places n).getD k 0+1,[-1]);lia
     ·rw[ah l];simp
    lia)
  rw[a5] at this;exact aB this (by lia)
theorem Te:∀A∈iD g,LB (width n) 2 (2^240) A/\A.length<=64:=fun A d=>by
 unfold iD at d;rw[S.eQ] at d;rcases aX.mp d with h |h
 ·obtain⟨v,_,rfl⟩:=aV.mp h;exact VE R _
 ·obtain⟨k,l,h⟩:=cP.mp h;exact VD R S (aY.mp l) A h
end
theorem Wu (j):∀d:List Term,LB w 2 c d->Bd (Pv (ei j) d) 1 (d.length*c)
 |[],_=>by
  rw[bT,Nat.zero_mul];exact Jp 1
 |t::d,h=>by
  obtain⟨k,x,i,l⟩:=h.at_ t aC;have f:=Wu j d ⟨fun u B=>h.at_ u (ao _ B)⟩;have A:Bd (dO t.2*ei j t.1.toNat) 1 c:=by
   unfold ei;split
   ·have e:dO t.2*(1:PF)=dO t.2:=by grind
    rw[e];exact Lg t.2 i l
   ·have e:dO t.2*(0:PF)=0:=by grind
    rw[e];exact(Jp 1).mono (aj _) (aR _)
  have:=A.add f;rw[ak,cV,Nat.add_comm];exact this
theorem Po (R:Right n)(S:Q0 n g)(d:m8 n g G)(hi:i<(dw n).unknowns)(B:j<(dw n).unknowns+1):Bd (uJ (rows g) i j) 1 (2^246):=by
 have w:(width n+1).toNat=(dw n).unknowns+1:=by rw[R.Bj];lia
 have l:(iD g).length=(dw n).unknowns:=by rw[(wx R d).len,lA]
 unfold uJ ent;rw[zB R d hi,(wy _ _ j (by lia)).1];obtain⟨f,A⟩:=Te R S ((iD g).getD i []) (memD (by lia));refine(Wu j _ f).mono (aj _) ?_;refine aB (cq _ A) ?_;decide +kernel
theorem Tf (R:Right n):(dw n).unknowns<=30:=by
 have l:=R.Bj;have f:width n<=30:=by
  unfold width;have:∀d:List Part,(d.map kJ).sum<=d.length+(d.filter fun p=>decide (p.kind≠4/\p.kind≠5)).length:=by
   intro d;induction d with
   |nil=>simp
   |cons p d i=>
    rw[aK,cJ,ak];by_cases A:p.kind≠4/\p.kind≠5
    ·rw[bh (p:=fun p:Part=>decide (p.kind≠4/\p.kind≠5)) (aw A),ak];have:kJ p<=2:=by
      unfold kJ;split
      ·lia
      ·split <;>lia
     push_cast;lia
    ·rw[bu (p:=fun p:Part=>decide (p.kind≠4/\p.kind≠5)) (by rw[aA A];simp)];have:kJ p<=1:=by
      unfold kJ;split
      ·lia
      ·split <;>lia
     push_cast;lia
  have:=this n.dc;have:=R.dc;have:=R.ns;have:=R.l8;lia
 lia
structure EB(l:dQ):Prop where
 len:l.length<=40
 ib:ib l<=2^7800
theorem Wv (d:∀i j,i<n->j<n+1->Bd (A i j) 1 B)(l:k<=n):Bd (mk A k) k (db B k):=EF B k fun i j f x=>d i j (by lia) (by lia)
theorem Pp (d:∀i j,i<n->j<n+1->Bd (A i j) 1 B)(v:k<=n)(c j)(l:j<n+1):Bd (mc A k c j) k (db B k):=EF B k fun i b x f=>by
 show Bd (if b=c then A i j else A i b) 1 B;split
 ·exact d i j (by lia) l
 ·exact d i b (by lia) (by lia)
theorem Tg (d:∀i j,i<n->j<n+1->Bd (A i j) 1 B)(l:k<=n)(i j)(hi:i<n)(x:j<n+1):Bd (ti A k i j) (k+1) (db B (k+1)):=by
 unfold ti;have v:=(Wv d l).mul (d i j hi x);have w:=Jq (k+1) (B*db B k) k (f:=fun c=>A i c*mc A k c j) fun c h=>((d i c hi (by lia)).mul (Pp d l c j x)).mono (by lia) (aj _);refine(v.sub w).mono (aj _) ?_;show db B k*B+k*(B*db B k)<=(k+1)*(B*db B k);rw[cV,Nat.mul_comm (db B k) B];lia
theorem Lh {l:dQ}(t:Trim l)(h:Bd (dO l) d (db (2^246) m))(f:d<=39)(A:m<=31):EB l:=by
 obtain⟨B,i⟩:=h.list t;refine⟨by lia,aB i (aB (Ph A) (aB (Ta 31 (by lia)) ?_))⟩;exact bA (by lia) (by lia)
theorem Th (hn:n<=30)(R:∀i j,i<n->j<n+1->Bd (A i j) 1 (2^246))(x:k<n)(S:Yi n k A t before σ ε)(c)(s:k<=c)(H:c<n)(T:ent t c k≠[])(hi:i<n)(O:i≠k)(f:k<j)(d:j<n+1):
  EB before/\before≠[]/\EB (ent (o9 t c k) k k)/\EB (ent (o9 t c k) i j)/\EB (ent (o9 t c k) i k)/\EB (ent (o9 t c k) k j)/\∃m,Trim m/\EB m/\dO (wI (iQ (ent (o9 t c k) k k) (ent (o9 t c k) i j)) (iQ (ent (o9 t c k) i k) (ent (o9 t c k) k j)))=dO m*dO before:=by
 have tl:=S.tab.len;have N:∀a,(o9 t c k).getD a []=t.getD (sw c k a) []:=fun a=>Dp t c k a (by lia) (by lia);have h:∀a j,ent (o9 t c k) a j=ent t (sw c k a) j:=fun a j=>by unfold ent;rw[N]
 have y:sw c k k=c:=by
  unfold sw
  repeat' split
  all_goals lia
 have P:∀i,i<k->sw c k i=i:=fun i hi=>by unfold sw;rw[ah (by lia),ah (by lia)]
 have o:∀i,k<=i->k<=sw c k i:=fun i hi=>by
  unfold sw
  repeat' split
  all_goals lia
 have F:(fun i j=>A (σ (sw c k i)) j)=hZ (fun i j=>A (σ i) j) c k:=(vv (fun i j=>A (σ i) j) c k).symm;have v:mk (fun i j=>A (σ (sw c k i)) j) k=mk (fun i j=>A (σ i) j) k:=by rw[F];exact IU _ k c k s (aj _)
 have M:∀i j,mc (fun i j=>A (σ (sw c k i)) j) k i j=mc (fun i j=>A (σ i) j) k i j:=fun i j=>by rw[F];exact IV _ k c k i j s (aj _)
 have L:∀i j,ti (fun i j=>A (σ (sw c k i)) j) k i j=ti (fun i j=>A (σ i) j) k (sw c k i) j:=fun i j=>by rw[F];exact OR _ k c k i j s (aj _)
 have I:∀i j,i<k->k<=j->j<n+1->dO (ent (o9 t c k) i j)=mc (fun i j=>A (σ (sw c k i)) j) k i j:=fun i j hi f d=>by rw[h,P i hi,S.up i j hi f d,M]
 have w:∀i j,k<=i->i<n->k<=j->j<n+1->dO (ent (o9 t c k) i j)=ti (fun i j=>A (σ (sw c k i)) j) k i j:=fun i j hi K f d=>by
  rw[h,S.low _ j (o i hi) (qQ H x K) f d,L]
 have D:∀i j,i<n->j<n+1->Trim (ent (o9 t c k) i j):=fun i j hi f=>by rw[h];exact S.tab.trim _ j (qQ H x hi) f
 have E:∀i j,i<n->j<n+1->Bd (A (σ (sw c k i)) j) 1 (2^246):=fun i j hi f=>R _ j (S.ord.lt _ (qQ H x hi)) f;generalize X:(fun i j=>A (σ (sw c k i)) j)=B at *;have l:∀i j,i<n->j<n+1->Bd (B i j) 1 (2^246):=fun i j hi f=>by rw[<-X];exact E i j hi f
 have g:EB before:=Lh S.KS (by rw[S.Gn,<-v];exact Wv l (cI x)) (by lia) (by lia);have bne:before≠[]:=fun z=>by
  have:=S.Gn;rw[z] at this;exact S.ne this.symm
 have p:∀i j,i<n->k<=j->j<n+1->EB (ent (o9 t c k) i j):=fun i j hi f d=>by
  by_cases q:i<k
  ·exact Lh (D i j hi d) (by rw[I i j q f d];exact Pp l (cI x) i j d) (by lia) (by lia)
  ·exact Lh (D i j hi d) (by rw[w i j (by lia) hi f d];exact Tg l (cI x) i j hi d) (by lia) (by lia)
 refine⟨g,bne,p k k x (aj _) (by lia),p i j hi (by lia) d,p i k hi (aj _) (by lia),p k j x (by lia) d,?_⟩;have wc:Reg (mk B k):=PF.wc (by rw[v];exact S.ne);have C:dO (ent t c k)=mk B (k+1):=by
  have e:=w k k (aj _) x (aj _) (by lia);rw[h,y] at e;rw[e,DV B k wc]
 have Q:mk B (k+1)≠0:=fun z=>T ((iE (S.tab.trim c k H (by lia))).mp (C.trans z));have r:Reg (mk B (k+1)):=PF.wc Q;have G:dO (ent (o9 t c k) k k)=mk B (k+1):=by rw[h,y];exact C
 by_cases q:i<k
 ·obtain⟨m,b,u,W,J⟩:=(Pp l (show k+1<=n by lia) i j d).ex;refine⟨m,b,Lh b (by rw[u];exact Pp l (show k+1<=n by lia) i j d) (by lia) (by lia),?_⟩;rw[vq,l9,l9,G,u,S.Gn,<-v,I i j q (by lia) d,I i k q (aj _) (by lia),w k j (aj _) x (by lia) d];have:=(Dh B k j wc r i q).1;rw[this];grind
 ·obtain⟨m,b,u,W,J⟩:=(Tg l (show k+1<=n by lia) i j hi d).ex;refine⟨m,b,Lh b (by rw[u];exact Tg l (show k+1<=n by lia) i j hi d) (by lia) (by lia),?_⟩;rw[vq,l9,l9,G,u,S.Gn,<-v,w i j (by lia) hi (by lia) d,w i k (by lia) hi (aj _) (by lia),w k j (aj _) x (by lia) d];have:=OQ B k i j wc r;rw[this];grind
theorem Ti (R:Right n)(S:Q0 n g)(b:m8 n g G)(h:sol (rows g)=some (d,A)):(d.length<=31/\ib d<=2^7530)/\∀c,c<(dw n).unknowns->(A.getD c []).length<=31/\ib (A.getD c [])<=2^7530:=by
 have un:=Tf R;have v:∀i j,i<(dw n).unknowns->j<(dw n).unknowns+1->Bd (uJ (rows g) i j) 1 (2^246):=fun i j l w=>Po R S b l w;have big:db (2^246) (dw n).unknowns<=2^7530:=aB (Ph un) (aB (Ta 30 (by lia)) (bA (by lia) (by lia)));have k:∀(ε f:PF) (x B:Nat),(ε=1\/ε= -1)->Bd f x B->Bd (ε*f) x B:=fun ε f x B h q=>by
  rcases h with rfl |rfl
  ·have e:(1:PF)*f=f:=by grind
   rw[e];exact q
  ·have e:(-1:PF)*f= -f:=by grind
   rw[e];exact q.neg
 rcases ML (zC R b) with⟨d',tops',e,so⟩ |⟨e,_⟩
 ·rw[h] at e;cases e;obtain⟨ε,t,u,s⟩:=so.sgn;refine⟨?_,fun c a=> ?_⟩
  ·obtain⟨r,p⟩:=Bd.list so.D7 (by rw[u];exact k _ _ _ _ t (EF (2^246) (dw n).unknowns fun i j l w=>v i j l (by lia)));exact⟨by lia,by lia⟩
  ·obtain⟨r,p⟩:=Bd.list (so.trim c a) (by
    rw[s c a];exact k _ _ _ _ t (EF (2^246) (dw n).unknowns fun i j l w=>by
     show Bd (if j=c then _ else _) 1 _;split
     ·exact v i _ l (by lia)
     ·exact v i j l (by lia)))
   exact⟨by lia,by lia⟩
 ·rw[h] at e;cases e
theorem Ww (R:Right n)(st):Q0 n (Mi n st):=by
 refine⟨rfl,.inl rfl,fun k=> ?_⟩;show((n.dc.map fun p:Part=>(p.top,p.dG)).getD k (0,1)).1.natAbs<=_/\((n.dc.map fun p:Part=>(p.top,p.dG)).getD k (0,1)).2.natAbs<=_;rw[gDe,aD];by_cases h:k<n.dc.length
 ·rw[af h];have d:=R.pn _ (bZ h);have:=d.b1;have:=d.b2;exact⟨d.t,by show(n.dc[k]).dG.natAbs<=_;lia⟩
 ·rw[aO (by lia)];exact⟨by decide,by decide⟩
theorem HR (st)(src):Q0 n (ji n st src):=by
 refine⟨rfl,.inr rfl,fun k=> ?_⟩;show(((List.range n.dc.length).map fun(k:Nat)=>if(k:Int)=src then((1:Int),(1:Int)) else(0,1)).getD k (0,1)).1.natAbs<=_/\_;by_cases h:k<n.dc.length
 ·have e:(ji n st src).drives.getD k (0,1)=if(k:Int)=src then(1,1) else(0,1):=qR _ _ _ _ h;show((ji n st src).drives.getD k (0,1)).1.natAbs<=_/\((ji n st src).drives.getD k (0,1)).2.natAbs<=_;rw[e];split <;>exact⟨by decide,by decide⟩
 ·have e:(ji n st src).drives.getD k (0,1)=(0,1):=by
   unfold ji;dsimp only;rw[gDe,aO (by simp;lia)];rfl
  show((ji n st src).drives.getD k (0,1)).1.natAbs<=_/\((ji n st src).drives.getD k (0,1)).2.natAbs<=_;rw[e];exact⟨by decide,by decide⟩
noncomputable def kP:dQ->Int->Int
 |[],_=>0
 |a::l,x=>a+x*kP l x
theorem zG(x:Int):∀l:dQ,(dO l).f (x:Rat)=((kP l x:Int):Rat)
 |[]=>rfl
 |a::l=>by
  rw[fJ,zG x l];show(a:Rat)+(x:Rat)*_=((a+x*kP l x:Int):Rat);push_cast;rfl
theorem Li (x):∀l r:dQ,kP (ja l r) x=kP l x+kP r x
 |[],r=>by
  show kP r x=0+kP r x;lia
 |a::l,[]=>by
  show kP (a::l) x=kP (a::l) x+0;lia
 |a::l,b::r=>by
  show(a+b)+x*kP (ja l r) x=(a+x*kP l x)+(b+x*kP r x);rw[Li x l r];grind
theorem HS (c x):∀l:dQ,kP (l.map fun y=>c*y) x=c*kP l x
 |[]=>by
  show 0=c*0;lia
 |a::l=>by
  show c*a+x*kP (l.map fun y=>c*y) x=c*(a+x*kP l x);rw[HS c x l];grind
def Lj(r:Int):dQ->dQ
 |[]=>[]
 |_::m=>ja m ((Lj r m).map fun y=>r*y)
theorem Pq (r):∀l:dQ,(Lj r l).length=l.length - 1
 |[]=>rfl
 |a::m=>by
  show(ja m _).length=_;rw[lh,lMp,Pq r m,ak];lia
theorem Nd (r x):∀l:dQ,kP l x - kP l r=(x - r)*kP (Lj r l) x
 |[]=>by
  show(0:Int) - 0=(x - r)*0;lia
 |a::m=>by
  show(a+x*kP m x) - (a+r*kP m r)=(x - r)*kP (ja m ((Lj r m).map fun y=>r*y)) x;rw[Li,HS];have:=Nd r x m;grind
theorem EG:∀{l:dQ},(∀i,l.getD i 0=0)->ib l=0
 |[],_=>rfl
 |a::l,h=>by
  rw[fO];have d:a=0:=h 0;have:=EG (l:=l) fun i=>h (i+1);rw[this,d];rfl
theorem HU:∀{l m:dQ},(∀i,l.getD i 0=m.getD i 0)->ib l=ib m
 |[],m,h=>(EG fun i=>(h i).symm.trans (by simp)).symm
 |a::l,[],h=>EG fun i=>(h i).trans (by simp)
 |a::l,b::m,h=>by
  rw[fO,fO];have d:a=b:=h 0;have:=HU (l:=l) (m:=m) fun i=>h (i+1);rw[this,d]
theorem XG (r)(l):ib l<=(kP l r).natAbs+(1+r.natAbs)*ib (Lj r l):=by
 have e:dO l=dO (ja [kP l r] (mulL [-r,1] (Lj r l))):=by
  refine PF.ext fun x=> ?_;have key:∀i:Nat,(dO l).f ((i:Int):Rat)=(dO (ja [kP l r] (mulL [-r,1] (Lj r l)))).f ((i:Int):Rat):=fun i=>by
   rw[zj,jT];show _=(dO [kP l r]).f ((i:Int):Rat)+(dO [-r,1]).f ((i:Int):Rat)*(dO (Lj r l)).f ((i:Int):Rat);rw[zG,zG,zG,zG];have:=Nd r (i:Int) l;have w:kP [kP l r] (i:Int)=kP l r:=by
    show kP l r+(i:Int)*0=_;lia
   have k:kP [-r,1] (i:Int)=(i:Int) - r:=by
    show -r+(i:Int)*(1+(i:Int)*0)=_;grind
   rw[w,k];have:kP l (i:Int)=kP l r+((i:Int) - r)*kP (Lj r l) (i:Int):=by lia
   rw[this];push_cast;rfl
  have v:dO l - dO (ja [kP l r] (mulL [-r,1] (Lj r l)))=0:=by
   by_cases q:dO l - dO (ja [kP l r] (mulL [-r,1] (Lj r l)))=0
   ·exact q
   ·obtain⟨N,h⟩:=PF.Dj q;have B:=h N (aj _);exfalso;apply B;show(dO l).f (N:Rat) - (dO (ja [kP l r] (mulL [-r,1] (Lj r l)))).f (N:Rat)=0;have d:=key N;have t:(((N:Int)):Rat)=(N:Rat):=by push_cast;rfl
    rw[t] at d;rw[d];grind
  have A:(dO l - dO (ja [kP l r] (mulL [-r,1] (Lj r l)))).f x=0:=by rw[v];rfl
  have a:(dO l).f x - (dO (ja [kP l r] (mulL [-r,1] (Lj r l)))).f x=0:=A;grind
 rw[HU (vi e)];refine aB (vD _ _) ?_;have B:ib [kP l r]=(kP l r).natAbs:=by rw[fO,Jn];rfl
 have d:=zF [-r,1] (Lj r l);have A:ib [-r,1]=1+r.natAbs:=by
  rw[fO,fO,Jn,Int.natAbs_neg];show r.natAbs+(1+0)=_;lia
 rw[A] at d;lia
noncomputable def cB(P:Nat):Nat->Nat
 |0=>0
 |m+1=>1+(1+P)*(2*cB P m)
theorem Jt {c:Int}(h:a=b*c)(d:b≠0):c.natAbs<=a.natAbs:=by
 rw[h,cn];have:1<=b.natAbs:=by lia
 exact cQ _ (by lia)
theorem Zm (P):∀(m:Nat) (l:dQ) (d:List Int) (M:Nat),l.length<=m->d.Nodup->m<=d.length->(∀x∈d,x.natAbs<=P)->(∀x∈d,(kP l x).natAbs<=M)->ib l<=cB P m*M
 |0,l,d,M,B,_,_,_,_=>by
  have:l=[]:=bc.mp (by lia);subst this;show 0<=_;lia
 |m+1,l,[],M,B,_,A,_,_=>by simp at A
 |m+1,l,r::a,M,B,f,A,i,k=>by
  obtain⟨t,v⟩:=cf.mp f;have n:=k r aC;have s:=i r aC;have h:=Zm P m (Lj r l) a (2*M) (by rw[Pq];lia) v (by simpa using A) (fun x A=>i x (ao _ A)) fun y w=>by
   have u:=k y (ao _ w);have ne:y - r≠0:=fun e=>t (by
    have:y=r:=by lia
    rw[<-this];exact w)
   have:=Jt (Nd r y l) ne;have q:(kP l y - kP l r).natAbs<=(kP l y).natAbs+(kP l r).natAbs:=Int.natAbs_sub_le _ _;lia
  have b:=XG r l;have q:(1+r.natAbs)*ib (Lj r l)<=(1+P)*(cB P m*(2*M)):=bW (by lia) h;show ib l<=(1+(1+P)*(2*cB P m))*M;have e:(1+(1+P)*(2*cB P m))*M=M+(1+P)*(cB P m*(2*M)):=by grind
  rw[e];lia
theorem Wx (P)(A:1<=P)(d:x.natAbs<=P):∀l:dQ,(kP l x).natAbs<=ib l*P^l.length
 |[]=>by
  show 0<=_;lia
 |a::l=>by
  have f:=Wx P A d l;show(a+x*kP l x).natAbs<=ib (a::l)*P^(l.length+1);have i:=Int.natAbs_add_le a (x*kP l x);rw[cn] at i;have v:x.natAbs*(kP l x).natAbs<=P*(ib l*P^l.length):=bW d f;have k:1<=P^(l.length+1):=Nat.one_le_pow _ _ (by lia);rw[fO,Nat.add_mul];have B:a.natAbs<=a.natAbs*P^(l.length+1):=Nat.le_mul_of_pos_right _ (by lia);have e:P*(ib l*P^l.length)=ib l*P^(l.length+1):=by
   rw[Nat.pow_succ];grind
  lia
theorem XH{T A g:dQ}(H:T.length<=11)(p:Trim g)(s:g≠[])(y:g.length<=11)(r:A.length<=11)(e:dO T=dO A*dO g):ib A<=cB 20 11*(ib T*20^11):=by
 have ev:∀j:Int,kP T j=kP A j*kP g j:=fun j=>by
  have:(dO T).f (j:Rat)=(dO A).f (j:Rat)*(dO g).f (j:Rat):=by rw[e];rfl
  rw[zG,zG,zG] at this;have B:((kP T j:Int):Rat)=((kP A j*kP g j:Int):Rat):=by push_cast;exact this
  exact_mod_cast B
 let pts:List Int:=((List.range 21).map fun i:Nat=>(i:Int)).filter fun j=>decide (kP g j≠0);have v:((List.range 21).map fun i:Nat=>(i:Int)).Nodup:=by decide
 have G:(((List.range 21).map fun i:Nat=>(i:Int)).filter fun j=>decide (kP g j=0)).length<=10:=by
  refine bt fun q=> ?_;have o:=roots ((((List.range 21).map fun i:Nat=>(i:Int)).filter fun j=>decide (kP g j=0)).map fun j:Int=>(j:Rat)) (rl g) (by
   refine List.Pairwise.map _ ?_ (v.filter _);intro a b w z;exact w (by exact_mod_cast z)) (by
   unfold rl;rw[lMp,lMp];lia) (fun x d=>by
   obtain⟨j,S,rfl⟩:=aV.mp d;have:=aI (b9.mp S).2;show(dO g).f (j:Rat)=0;rw[zG,this];rfl)
  have:dO g=0:=PF.ext fun x=>o.ev x;exact Jc p s this
 have cnt:((List.range 21).map fun i:Nat=>(i:Int)).length=pts.length+(((List.range 21).map fun i:Nat=>(i:Int)).filter fun j=>decide (kP g j=0)).length:=by
  have:∀l:List Int,l.length=(l.filter fun j=>decide (kP g j≠0)).length+(l.filter fun j=>decide (kP g j=0)).length:=by
   intro l;induction l with
   |nil=>rfl
   |cons a l C=>
    by_cases h:kP g a=0
    ·rw[bu (by simp[h]),bh (by simp[h]),ak,ak];lia
    ·rw[bh (by simp[h]),bu (by simp[h]),ak,ak];lia
  exact this _
 have len:((List.range 21).map fun i:Nat=>(i:Int)).length=21:=by simp
 refine Zm 20 11 A pts (ib T*20^11) r (v.filter _) (by lia) (fun x d=> ?_) fun x d=> ?_
 ·obtain⟨i,k,rfl⟩:=aV.mp (b9.mp d).1;have:=aY.mp k;lia
 ·obtain⟨t,B⟩:=b9.mp d;have B:=aI B;obtain⟨i,k,rfl⟩:=aV.mp t;have k:=aY.mp k;have n:=Jt (show kP T (i:Int)=kP g (i:Int)*kP A (i:Int) by rw[ev,Int.mul_comm]) B;have u:=Wx 20 (by decide) (x:=(i:Int)) (by lia) T;refine aB n (aB u (b8 _ ?_));exact bA (by decide) H
def Mg(γ:Nat)(l:dQ):Prop:=∀i,2*(l.getD i 0).natAbs<=2^γ
theorem Mg.mono (h:Mg γ l)(d:γ<=δ):Mg δ l:=fun i=>aB (h i) (bA (by decide) d)
theorem Mg.mem (h:Mg γ l)(A:x∈l):2*x.natAbs<=2^γ:=by
 obtain⟨i,d,e⟩:=br A;have:=h i;rw[gDe,af d] at this;rw[<-e];exact this
theorem Bn (h:2*ib l<=2^γ):Mg γ l:=fun i=>by
 rw[gDe];by_cases d:i<l.length
 ·rw[af d];have:=Ds (bZ d);show 2*(l[i]).natAbs<=_;lia
 ·rw[aO (by lia)];exact aR _
theorem VF (h:Mg γ l):Mg γ (prim l):=fun i=>by
 have f:=tu l;have e:l.getD i 0=cont l*(prim l).getD i 0:=by
  have A:((prim l).map fun y=>cont l*y).getD i 0=cont l*(prim l).getD i 0:=by
   rw[gDe,aD,gDe];cases(prim l)[i]? <;>simp
  rw[<-A,f]
 by_cases d:cont l=0
 ·have:(prim l).getD i 0=0:=by
   unfold prim;rw[gDe,aD,d];cases l[i]? <;>simp
  rw[this];exact aR _
 ·have:=Jt e d;have:=h i;lia
theorem Q1 (rest right)(i):(mQ rest right).getD i 0=lc right*rest.getD i 0 - lc rest*(if i<rest.length - right.length then 0 else right.getD (i - (rest.length - right.length)) 0):=by
 unfold mQ wI Gm;rw[ze,jt];have d:∀(c:Int) (l:dQ) (i:Nat),(l.map fun y=>c*y).getD i 0=c*l.getD i 0:=fun c l i=>by
  rw[gDe,aD,gDe];cases l[i]? <;>simp
 have A:∀(l:dQ) (i:Nat),(mP l).getD i 0= - l.getD i 0:=fun l i=>by
  unfold mP;rw[gDe,aD,gDe];cases l[i]? <;>simp
 rw[d,A];by_cases h:i<rest.length - right.length
 ·rw[ai h];have:(List.replicate (rest.length - right.length) (0:Int) ++ right.map fun y=>lc rest*y).getD i 0=0:=by
   rw[gDe,List.getElem?_append_left (by rw[a9];exact h),bY,ai h];rfl
  rw[this];lia
 ·rw[ah h,O0 _ _ _ (by lia),d];lia
theorem Tj {rest:dQ}(d:Mg γ rest)(A:Mg δ right):Mg (γ+δ) (mQ rest right):=fun i=>by
 rw[Q1];have e:2*(lc right).natAbs<=2^δ:=A _;have w:2*(lc rest).natAbs<=2^γ:=d _;have B:=d i;have f:2*(if i<rest.length - right.length then(0:Int) else right.getD (i - (rest.length - right.length)) 0).natAbs<=2^δ:=by
  split
  ·exact aR _
  ·exact A _
 generalize (if i<rest.length - right.length then(0:Int) else right.getD (i - (rest.length - right.length)) 0)=y at f⊢;have t:=Int.natAbs_sub_le (lc right*rest.getD i 0) (lc rest*y);rw[cn,cn] at t;have l:=bW e B;have v:=bW w f;rw[Nat.pow_add];have x:2*(lc right).natAbs*(2*(rest.getD i 0).natAbs)=4*((lc right).natAbs*(rest.getD i 0).natAbs):=by grind
 have k:2*(lc rest).natAbs*(2*y.natAbs)=4*((lc rest).natAbs*y.natAbs):=by grind
 rw[x] at l;rw[k] at v;have h:2^δ*2^γ=2^γ*2^δ:=Nat.mul_comm _ _;rw[h] at l;lia
def WM(b:Nat):Nat->dQ->dQ->Prop
 |0,_,_=>True
 |f+1,rest,right=>rest.length<right.length\/((∃γ δ,γ+δ<=b/\Mg γ rest/\Mg δ right)/\WM b f (mQ rest right) right)
theorem Pr {right:dQ}(k:right≠[])(i:Mg δ right):∀(f d γ:Nat) (rest:dQ),rest.length<right.length+d->Mg γ rest->γ+d*δ<=b->Mg (γ+d*δ) (A8 f rest right)/\WM b f rest right
 |0,d,γ,rest,w,l,h=>⟨l.mono (by lia),trivial⟩
 |f+1,d,γ,rest,w,l,h=>by
  by_cases q:rest.length<right.length
  ·have e:A8 (f+1) rest right=rest:=ai q;rw[e];exact⟨l.mono (by lia),.inl q⟩
  ·have e:A8 (f+1) rest right=A8 f (mQ rest right) right:=ah q;obtain⟨A,rfl⟩:∃A,d=A +1:=⟨d - 1,by lia⟩;have x:=Eh (rest:=rest) (right:=right) (by lia) k;have v:γ+(A +1)*δ=(γ+δ)+A *δ:=by
    rw[cV];lia
   have B:=Pr (b:=b) k i f A (γ+δ) (mQ rest right) (by have:=x.2.1;lia) (Tj l i) (by lia);rw[e,v];refine⟨B.1,.inr ⟨⟨γ,δ,?_,l,i⟩,B.2⟩⟩;have:=cN (γ+δ) (A *δ);lia
noncomputable def pl:Nat->Nat
 |0=>1
 |1=>2
 |n+2=>2*pl (n+1)+pl n
theorem VG (n):pl n<=pl (n+1):=by
 match n with
 |0=>decide
 |n+1=>
  show pl (n+1)<=2*pl (n+1)+pl n;lia
theorem Dt (h:m<=n):pl m<=pl n:=by
 induction h with
 |refl=>exact aj _
 |step h d=>exact aB d (VG _)
theorem Tn (y):∀g,pl y+(g+2)*pl (y+1)<=pl (y+g+2)
 |0=>by
  show pl y+(0+2)*pl (y+1)<=2*pl (y+1)+pl y;lia
 |g+1=>by
  have i:=Tn y g;show pl y+(g+1+2)*pl (y+1)<=pl (y+(g+1)+2);have e:y+(g+1)+2=(y+g+1)+2:=by lia
  rw[e];show _<=2*pl (y+g+1+1)+pl (y+g+1);have l:pl (y+1)<=pl (y+g+1):=Dt (by lia);have d:(g+1+2)*pl (y+1)=(g+2)*pl (y+1)+pl (y+1):=by
   rw[show g+1+2=(g+2)+1 by lia,cV]
  have A:y+g+1+1=y+g+2:=by lia
  rw[d,A];lia
theorem Al.mem (g:Al R l m):∀a∈l,∃b,b∈m/\R a b:=by
 induction g with
 |nil=>exact fun _ h=>nomatch h
 |cons r _ t=>
  intro a h;rcases aL.mp h with rfl |h
  ·exact⟨_,aC,r⟩
  ·obtain⟨b,d,q⟩:=t a h;exact⟨b,ao _ d,q⟩
theorem Lk {n:Nw}(h:st∈fg n.dc [[]]):∃r,xI 0 n.dc.length st r:=by
 rw[Cu] at h;obtain⟨r,_,q⟩:=(Bm n.dc 0).mem st h;exact⟨r,q⟩
theorem Q2 (R:Right n):(dw n).places<=11:=by
 unfold Net.places;show(((n.dc.map dF).filter fun(x:Elem)=>decide (x.kind= .C) ||decide (x.kind= .L)).length+1)<=11;rw[List.filter_map,lMp];have:=xK (p:=(fun(x:Elem)=>decide (x.kind= .C) ||decide (x.kind= .L)) ∘ dF) (q:=fun p=>decide (p.kind≠4/\p.kind≠5)) (fun x h=>aw (by
  have h:(decide ((dF x).kind= .C) ||decide ((dF x).kind= .L))=true:=h;have d:(dF x).kind=kindOf x.kind:=rfl;rw[d] at h;constructor
  ·intro e;rw[e] at h;exact absurd h (by decide)
  ·intro e;rw[e] at h;exact absurd h (by decide))) n.dc
 have:=R.ns;lia
theorem XI (R:Right n):Dg (dJ ((dw n).determinant G)) 11/\∀c,c<(dw n).unknowns->Dg (dJ ((dw n).numerator G c)) 11:=by
 have pl:=Q2 R;refine⟨?_,fun c d=> ?_⟩
 ·unfold Net.determinant;refine⟨_,rfl,aB (vw _) ?_⟩;rw[lMp,a5];exact pl
 ·unfold Net.numerator;refine⟨_,rfl,aB (vw _) ?_⟩;rw[lMp,a5];exact pl
theorem Zn:cB 20 11*20^11<=2^171:=by decide +kernel
theorem Pt (h:gi l=[]):(gV l).dc.length<=10:=by
 unfold gi at h;cases e:oN l with
 |false=>rw[e,ai rfl] at h;cases h
 |true=>exact(SY e).dc
end di
namespace di
open Wh
open Lean.Grind
theorem lN {b:Rat}(i:-A<=a)(k:a<=A)(f:-B<=b)(l:b<=B): -(A*B)<=a*b/\a*b<=A*B:=by
 have w:=Rat.mul_nonneg (show 0<=A - a by grind) (show 0<=B+b by grind);have v:=Rat.mul_nonneg (show 0<=A+a by grind) (show 0<=B - b by grind);have x:=Rat.mul_nonneg (show 0<=A - a by grind) (show 0<=B - b by grind);have d:=Rat.mul_nonneg (show 0<=A+a by grind) (show 0<=B+b by grind);constructor <;>grind
theorem To (M)(d:0<=M):∀l:List Rat,∃B:Rat,1<=B/\∀x,-M<=x->x<=M->-B<=valueAt l x/\valueAt l x<=B
 |[]=>⟨1,by grind,fun x _ _=>by rw[jg];grind⟩
 |c::l=>by
  obtain⟨B,t,h⟩:=To M d l;refine⟨1+(if c<0 then -c else c)+M*B,?_,fun x A i=> ?_⟩
  ·have:=Rat.mul_nonneg d (show 0<=B by grind);split <;>grind
  ·obtain⟨k,f⟩:=h x A i;obtain⟨w,v⟩:=lN A i k f;rw[dZ];split <;>constructor <;>grind
theorem Nf (M)(A:0<=M):∀l:List Rat,∃L:Rat,1<=L/\∀x y,-M<=x->x<=M->-M<=y->y<=M->∀e,-e<=y - x->y - x<=e->-(L*e)<=valueAt l y - valueAt l x/\valueAt l y - valueAt l x<=L*e
 |[]=>⟨1,by grind,fun x y _ _ _ _ e d i=>by rw[jg,jg];grind⟩
 |c::l=>by
  obtain⟨B,o,h⟩:=To M A l;obtain⟨L,r,k⟩:=Nf M A l;refine⟨1+M*L+B,?_,fun x y d i f v e t w=> ?_⟩
  ·have:=Rat.mul_nonneg A (show 0<=L by grind);grind
  ·obtain⟨q,n⟩:=h x d i;obtain⟨b,a⟩:=k x y d i f v e t w;obtain⟨u,p⟩:=lN f v b a;obtain⟨H,s⟩:=lN t w q n;rw[dZ,dZ];constructor <;>grind
def In(M x:Rat):Prop:= -M<=x/\x<=M
def xN(e x y:Rat):Prop:= -e<=y - x/\y - x<=e
theorem xN.mono (h:xN e x y)(q:e<=d):xN d x y:=⟨by have:=h.1;grind,by have:=h.2;grind⟩
theorem Pu (p:PF)(i:0<=M):∃B:Rat,1<=B/\∀x,In M x->-B<=p.f x/\p.f x<=B:=by
 obtain⟨l,A⟩:=p.h;obtain⟨B,k,v⟩:=To M i l;exact⟨B,k,fun x d=>by rw[A];exact v x d.1 d.2⟩
theorem Ng (p:PF)(B:0<=M):∃L:Rat,1<=L/\∀x y,In M x->In M y->∀e,xN e x y->-(L*e)<=p.f y - p.f x/\p.f y - p.f x<=L*e:=by
 obtain⟨l,d⟩:=p.h;obtain⟨L,k,v⟩:=Nf M B l;exact⟨L,k,fun x y A i e h=>by rw[d,d];exact v x y A.1 A.2 i.1 i.2 e h.1 h.2⟩
noncomputable def sn(x:Rat):Int:=if x<0 then -1 else 1
theorem ig (x):sn x=1\/sn x= -1:=by unfold sn;split <;>simp
theorem qU (s)(x)(r):changesOn s (x::r)=if x=0 then changesOn s r else(if s= -sn x then 1 else 0)+changesOn (sn x) r:=rfl
theorem oW (h:x≠0)(r):changes (x::r)=changesOn (sn x) r:=by
 unfold changes;rw[qU,ah h,ah (by rcases ig x with e |e <;>rw[e] <;>decide),Nat.zero_add]
theorem Wy (h:x≠0)(s)(r):changesOn s (x::r)=(if s= -sn x then 1 else 0)+changes (x::r):=by
 rw[oW h,qU,ah h]
theorem xO (d:x≠0)(A:y≠0)(r):changes (x::y::r)=(if sn x= -sn y then 1 else 0)+changes (y::r):=by
 rw[oW d,Wy A]
theorem Ll (l:x≠0)(A:z≠0)(h:sn x= -sn z)(r):changes (x::y::z::r)=1+changes (z::r):=by
 by_cases d:y=0
 ·rw[oW l,qU,ai d,Wy A,ai h]
 ·rw[xO l d,xO d A,h];rcases ig y with b |b <;>rcases ig z with c |c <;>rw[b,c] <;>simp
noncomputable def Vc(l:List PF)(x:Rat):Nat:=changes (l.map fun p=>p.f x)
inductive St:PF->PF->List PF->Prop
 |last (a:PF) (c:Rat):c≠0->St a (PF.const c) []
 |cons {a b c:PF} {t:List PF} (q:PF) (u v:Rat):0<u->0<v->PF.const u*a=q*b - PF.const v*c->St b c t->St a b (c::t)
theorem sC (h:c≠0):PF.const (1 / c)*PF.const c=1:=PF.ext fun x=>by
 show 1 / c*c=((1:Nat):Rat);grind
theorem St.RQ (h:St a b t):∃s r:PF,s*a+r*b=1:=by
 induction h with
 |last a c A=>exact⟨0,PF.const (1 / c),by rw[sC A];grind⟩
 | @cons a b c t q u v i l e _ d=>
  obtain⟨s,r,h⟩:=d;have f:=sC (c:=v) (by grind);refine⟨-(r*PF.const (1 / v)*PF.const u),s+r*PF.const (1 / v)*q,?_⟩;grind
theorem Dz {s:PF}(h:s*a+r*b=1)(A:0<=M):∃d:Rat,0<d/\∀x,In M x->-d<a.f x->a.f x<d->b.f x<=-d\/d<=b.f x:=by
 obtain⟨S,y,w⟩:=Pu s A;obtain⟨R,o,v⟩:=Pu r A;have p:0<S+R:=by grind
 refine⟨1 / (2*(S+R)),?_,fun x l H P=> ?_⟩
 ·rw[Rat.div_def,Rat.one_mul];exact Rat.inv_pos.mpr (by grind)
 ·have e:s.f x*a.f x+r.f x*b.f x=1:=by
   have:=congrArg (fun p:PF=>p.f x) h;exact this
  have F:(1 / (2*(S+R)))*(2*(S+R))=1:=by grind
  generalize 1 / (2*(S+R))=d at *;have z:0<=d:=by grind
  obtain⟨n,t⟩:=w x l;obtain⟨B,i⟩:=v x l;by_cases q:b.f x<=-d\/d<=b.f x
  ·exact q
  ·exfalso;have k: -d<=b.f x:=by grind
   have u:b.f x<=d:=by grind
   obtain⟨c,m⟩:=lN n t (show -d<=a.f x by grind) (show a.f x<=d by grind);obtain⟨C,G⟩:=lN B i k u;have:S*d+R*d=1 / 2:=by grind
   grind
theorem pj (p:PF)(B:0<=M)(t:0<d):∃e:Rat,0<e/\∀x y,In M x->In M y->xN e x y->(p.f x<=-d\/d<=p.f x)->p.f x≠0/\p.f y≠0/\sn (p.f x)=sn (p.f y):=by
 obtain⟨L,q,h⟩:=Ng p B;have a:L⁻¹*L=1:=Rat.inv_mul_cancel L (by grind);refine⟨d / 2*L⁻¹,Rat.mul_pos (by grind) (Rat.inv_pos.mpr (by grind)),fun x y w k l A=> ?_⟩;obtain⟨i,v⟩:=h x y w k _ l;have e:L*(d / 2*L⁻¹)=d / 2:=by grind
 rw[e] at i v;unfold sn;rcases A with A |A
 ·rw[ai (show p.f x<0 by grind),ai (show p.f y<0 by grind)];exact⟨by grind,by grind,rfl⟩
 ·rw[ah (show ¬p.f x<0 by grind),ah (show ¬p.f y<0 by grind)];exact⟨by grind,by grind,rfl⟩
def Con(a b:PF)(t:List PF)(x y:Rat):Prop:=(sn (a.f x)=sn (a.f y)/\Vc (a::b::t) x=Vc (a::b::t) y)\/(sn (a.f x)≠sn (a.f y)/\b.f x≠0/\b.f y≠0/\sn (b.f x)=sn (b.f y)/\(Vc (a::b::t) x:Int) - Vc (a::b::t) y=sn (a.f y)*sn (b.f y))
theorem Tr (k:a.f x≠0)(v:a.f y≠0)(d:b.f x≠0)(by_:b.f y≠0)(B:sn (b.f x)=sn (b.f y))(l:Vc (b::t) x=Vc (b::t) y):Con a b t x y:=by
 have e:∀z,a.f z≠0->b.f z≠0->Vc (a::b::t) z=(if sn (a.f z)= -sn (b.f z) then 1 else 0)+Vc (b::t) z:=fun z A i=>xO A i _;unfold Con;rw[e x k d,e y v by_,B,l];by_cases h:sn (a.f x)=sn (a.f y)
 ·left;rw[h];exact⟨rfl,rfl⟩
 ·right;refine⟨h,d,by_,rfl,?_⟩;rcases ig (a.f x) with p |p <;>rcases ig (a.f y) with q |q <;>rcases ig (b.f y) with r |r <;>rw[p,q] at h <;>rw[p,q,r] <;>simp at h⊢<;>lia
theorem Lm (h:St a b t)(k:0<=M):∃e:Rat,0<e/\∀x y,In M x->In M y->xN e x y->(b.f x≠0->b.f y≠0->sn (b.f x)=sn (b.f y)->Vc (b::t) x=Vc (b::t) y)/\(a.f x≠0->a.f y≠0->Con a b t x y):=by
 induction h with
 |last a c T=>exact⟨1,by grind,fun x y _ _ _=>⟨fun _ _ _=>rfl,fun n C=>Tr n C T T rfl rfl⟩⟩
 | @cons a b c t q u v g I e W F=>
  obtain⟨e1,p1,F⟩:=F;obtain⟨s,r,bz⟩:=(St.cons q u v g I e W).RQ;obtain⟨s',r',E⟩:=W.RQ;obtain⟨A,D,L⟩:=Dz (a:=b) (b:=a) (s:=r) (r:=s) (by grind) k;obtain⟨P,q2,m⟩:=Dz E k;obtain⟨B,hB,qb⟩:=Pu q k;have iv:B⁻¹*B=1:=Rat.inv_mul_cancel B (by grind);have ip:0<B⁻¹:=Rat.inv_pos.mpr (by grind);obtain⟨d,hd,l1,l2,l3⟩:∃d:Rat,0<d/\d<=A/\d<=P/\B*d<=u*A:=by
   have w:0<u*A*B⁻¹:=Rat.mul_pos (Rat.mul_pos g D) ip;refine⟨min (min A P) (u*A*B⁻¹),by grind,by grind,by grind,?_⟩;have:B*(u*A*B⁻¹)=u*A:=by grind
   have h2:min (min A P) (u*A*B⁻¹)<=u*A*B⁻¹:=by grind
   have:=Rat.mul_le_mul_of_nonneg_left h2 (show 0<=B by grind);grind
  obtain⟨e2,p2,kb⟩:=pj b k hd;obtain⟨e3,p3,ka⟩:=pj a k D;obtain⟨e4,p4,kc⟩:=pj c k q2;refine⟨min (min e1 e2) (min e3 e4),by grind,fun x y l o H=> ?_⟩;obtain⟨i1,i2⟩:=F x y l o (H.mono (by grind));have tail:b.f x≠0->b.f y≠0->sn (b.f x)=sn (b.f y)->Vc (b::c::t) x=Vc (b::c::t) y:=fun S by_ hb=>by
   rcases i2 S by_ with z |z
   ·exact z.2
   ·exact absurd hb z.1
  refine⟨tail,fun n C=> ?_⟩;by_cases sm: -d<b.f x/\b.f x<d
  ·obtain⟨s1,s2⟩:=sm;have i:=L x l (by grind) (by grind);have gc:=m x l (by grind) (by grind);obtain⟨_,_,J⟩:=ka x y l o (H.mono (by grind)) i;obtain⟨R,j,K⟩:=kc x y l o (H.mono (by grind)) gc;have ex:u*a.f x=q.f x*b.f x - v*c.f x:=congrArg (fun p:PF=>p.f x) e;obtain⟨X,Q⟩:=qb x l;obtain⟨m1,m2⟩:=lN X Q (show -d<=b.f x by grind) (show b.f x<=d by grind);have G:sn (a.f x)= -sn (c.f x):=by
    unfold sn;rcases i with i |i
    ·have t1:=Rat.mul_le_mul_of_nonneg_left i (show 0<=u by grind);have t2:0<c.f x:=by
      rcases gc with gc |gc
      ·exfalso;have t3:=Rat.mul_pos I (show 0< -c.f x by grind);grind
      ·grind
     rw[ai (by grind),ah (by grind)]
    ·have t1:=Rat.mul_le_mul_of_nonneg_left i (show 0<=u by grind);have t2:c.f x<0:=by
      rcases gc with gc |gc
      ·grind
      ·exfalso;have t3:=Rat.mul_pos I (show 0<c.f x by grind);grind
     rw[ah (by grind),ai (by grind)];rfl
   left;refine⟨J,?_⟩;have vx:Vc (a::b::c::t) x=1+Vc (c::t) x:=Ll n R G _;have O:Vc (a::b::c::t) y=1+Vc (c::t) y:=Ll C j (by rw[<-J,<-K];exact G) _;rw[vx,O,i1 R j K]
  ·obtain⟨S,by_,N⟩:=kb x y l o (H.mono (by grind)) (by grind);exact Tr n C S by_ N (tail S by_ N)
theorem HV:∀(n:Nat) (l:List Rat),l.length<=n->¬rF l->∃R:List Rat,∀x,valueAt l x=0->x∈R
 |0,l,i,A=>by
  cases l with
  |nil=>exact absurd (fun c B=>by cases B) A
  |cons a l=>simp at i
 |n+1,l,i,A=>by
  by_cases q:∃r:Rat,valueAt l r=0
  ·obtain⟨r,f⟩:=q;obtain⟨R,k⟩:=HV n (sdiv r l) (by rw[y6];lia) fun z=>A (sdiv_zero r l z f);refine⟨r::R,fun x d=> ?_⟩;have e:=Di r x l;rw[d,f] at e;rcases bR.mp (show(x - r)*valueAt (sdiv r l) x=0 by grind) with h |h
   ·rw[show x=r by grind];exact aC
   ·exact ao _ (k x h)
  ·exact⟨[],fun x d=>absurd ⟨x,d⟩ q⟩
theorem EH:∀(R:List Rat) (p q:Rat),p<q->∃z,p<z/\z<q/\z∉R
 |[],p,q,h=>⟨(p+q) / 2,by grind,by grind,by simp⟩
 |r::R,p,q,h=>by
  by_cases c:r<=(p+q) / 2
  ·obtain⟨z,l,A,d⟩:=EH R ((p+q) / 2) q (by grind);refine⟨z,by grind,A,fun m=> ?_⟩;rcases aL.mp m with e |e
   ·grind
   ·exact d e
  ·obtain⟨z,l,A,d⟩:=EH R p ((p+q) / 2) (by grind);refine⟨z,l,by grind,fun m=> ?_⟩;rcases aL.mp m with e |e
   ·grind
   ·exact d e
theorem Pw {a:PF}(h:a≠0)(A:p<q):∃z,p<z/\z<q/\a.f z≠0:=by
 obtain⟨l,d⟩:=a.h;obtain⟨R,v⟩:=HV l.length l (aj _) fun z=>h (PF.ext fun x=>by rw[d,z.ev];rfl);obtain⟨z,i,k,B⟩:=EH R p q A;exact⟨z,i,k,fun e=>B (v z (by rw[<-d];exact e))⟩
theorem walk {β:Type}(Ψ:Rat->β){a:PF}(i:a≠0)(v:0<e)(step:∀x y,x<=y->y<=hi->a.f x≠0->a.f y≠0->xN e x y->Ψ x=Ψ y):∀(n:Nat) (lo:Rat),lo<=hi->hi - lo<=(n:Rat)*(e / 2)->a.f lo≠0->a.f hi≠0->Ψ lo=Ψ hi
 |0,lo,l,B,g1,d=>by
  have:lo=hi:=by
   have:((0:Nat):Rat)=0:=rfl;grind
  rw[this]
 |n+1,lo,l,B,g1,d=>by
  by_cases c:hi - lo<=e
  ·exact step lo hi l (by grind) g1 d ⟨by grind,c⟩
  ·obtain⟨z,w,h,A⟩:=Pw i (show lo+e / 2<lo+e by grind);have k:=step lo z (by grind) (by grind) g1 A ⟨by grind,by grind⟩;rw[k];refine walk Ψ i v step n z (by grind) ?_ A d;have:((n+1:Nat):Rat)=(n:Rat)+1:=by grind
   grind
theorem XJ (x e)(f:0<e):∃n:Nat,x<=(n:Rat)*e:=by
 refine⟨(x*e⁻¹).ceil.toNat,?_⟩;have B:e⁻¹*e=1:=Rat.inv_mul_cancel e (by grind);have d:x*e⁻¹<=((x*e⁻¹).ceil:Rat):=Rat.le_ceil;have A:(((x*e⁻¹).ceil:Int):Rat)<=(((x*e⁻¹).ceil.toNat:Nat):Rat):=by
  rw[<-bO];exact Rat.intCast_le_intCast.mpr (by lia)
 have i:=Rat.mul_le_mul_of_nonneg_right (Rat.le_trans d A) (show 0<=e by grind);have l:x*e⁻¹*e=x:=by grind
 grind
theorem Wz {β:Type}(Ψ:Rat->β){a:PF}(t:a≠0)(q:0<e)(step:∀x y,lo<=x->x<=y->y<=hi->a.f x≠0->a.f y≠0->xN e x y->Ψ x=Ψ y)(A:lo<=hi)(g1:a.f lo≠0)(h:a.f hi≠0):Ψ lo=Ψ hi:=by
 obtain⟨n,k⟩:=XJ (hi - lo) (e / 2) (by grind);have:=walk (fun x=>if lo<=x then Ψ x else Ψ lo) t q (hi:=hi) (fun x y v i w l B=>by
  by_cases c:lo<=x
  ·rw[ai c,ai (by grind)];exact step x y c v i w l B
  ·rw[ah c];by_cases d:lo<=y
   ·rw[ai d];exact step lo y (by grind) d i g1 l ⟨by grind,by have:=B.2;grind⟩
   ·rw[ah d]) n lo A k g1 h
 rw[ai (by grind),ai A] at this;exact this
theorem gJ (d:x≠0)(A:y≠0):sn (x*y)=sn x*sn y:=by
 unfold sn;by_cases a:x<0 <;>by_cases b:y<0
 ·have:=Rat.mul_pos (show 0< -x by grind) (show 0< -y by grind);rw[ah (by grind),ai a,ai b];rfl
 ·have:=Rat.mul_pos (show 0< -x by grind) (show 0<y by grind);rw[ai (by grind),ai a,ah b];rfl
 ·have:=Rat.mul_pos (show 0<x by grind) (show 0< -y by grind);rw[ai (by grind),ah a,ai b];rfl
 ·have:=Rat.mul_pos (show 0<x by grind) (show 0<y by grind);rw[ah (by grind),ah a,ah b];rfl
theorem kQ (h:0<x):sn x=1:=by unfold sn;rw[ah (by grind)]
theorem nh (h:x<0):sn x= -1:=by unfold sn;rw[ai h]
theorem Ts (x):sn x*sn x=1:=by rcases ig x with e |e <;>rw[e] <;>rfl
theorem half (T:St l bG v)(D:St A B t)(l0:0<=lo)(Q:lo<=M)(r:σ=1\/σ= -1){a:PF}(X:a≠0)(u:∀w,a.f w≠0->A.f (-(w*w))≠0)(n:∀w,lo<=w->w<=M->a.f w≠0->l.f (σ*w)≠0)(aa:0<e0)(J:∀x y,lo<=x->x<=y->y<=M->xN e0 x y->a.f x≠0->a.f y≠0->(sn (l.f (σ*x))=sn (l.f (σ*y))↔sn (A.f (-(x*x)))=sn (A.f (-(y*y))))/\(sn (A.f (-(x*x)))≠sn (A.f (-(y*y)))->bG.f (σ*y)≠0->B.f (-(y*y))≠0->sn (l.f (σ*y))*sn (bG.f (σ*y))= -(sn σ*(sn (A.f (-(y*y)))*sn (B.f (-(y*y)))))))(g1:a.f lo≠0)(O:a.f M≠0):(Vc (l::bG::v) (σ*lo):Int)+sn σ*Vc (A::B::t) (-(lo*lo))=(Vc (l::bG::v) (σ*M):Int)+sn σ*Vc (A::B::t) (-(M*M)):=by
 have s:0<=M:=by grind
 obtain⟨S,p1,W⟩:=Lm T s;obtain⟨i,j,I⟩:=Lm D (M:=M*M) (Rat.mul_nonneg s s);have iv:(2*M+1)⁻¹*(2*M+1)=1:=Rat.inv_mul_cancel _ (by grind);have L:0<(2*M+1)⁻¹:=Rat.inv_pos.mpr (by grind);have p3:0<i*(2*M+1)⁻¹:=Rat.mul_pos j L;refine Wz (fun w=>(Vc (l::bG::v) (σ*w):Int)+sn σ*Vc (A::B::t) (-(w*w))) X (e:=min e0 (min S (i*(2*M+1)⁻¹))) (by grind) (fun x y F g k o p C=> ?_) Q g1 O;obtain⟨z,K⟩:=J x y F g k (C.mono (by grind)) o p;have q:∀w,0<=w->w<=M->In M (σ*w):=fun w m H=>by
  rcases r with e |e <;>rw[e] <;>unfold In <;>grind
 have b:∀w,0<=w->w<=M->In (M*M) (-(w*w)):=fun w m H=>by
  obtain⟨G,P⟩:=lN (show -M<=w by grind) H (show -M<=w by grind) H;unfold In;grind
 have N:xN S (σ*x) (σ*y):=by
  have h:=C.mono (d:=S) (by grind);obtain⟨G,P⟩:=h;rcases r with e |e <;>rw[e] <;>unfold xN <;>grind
 have E:xN i (-(x*x)) (-(y*y)):=by
  obtain⟨G,P⟩:=C.mono (d:=i*(2*M+1)⁻¹) (by grind);have q1:=Rat.mul_nonneg (show 0<=i*(2*M+1)⁻¹ - (y - x) by grind) (show 0<=x+y by grind);have q2:=Rat.mul_nonneg (show 0<=y - x by grind) (show 0<=x+y by grind);have q3:=Rat.mul_nonneg (show 0<=i*(2*M+1)⁻¹ by grind) (show 0<=2*M+1 - (x+y) by grind);have q4:i*(2*M+1)⁻¹*(2*M+1)=i:=by grind
  unfold xN;grind
 have c:=(W _ _ (q x (by grind) (by grind)) (q y (by grind) k) N).2 (n x F (by grind) o) (n y (by grind) k p);have R:=(I _ _ (b x (by grind) (by grind)) (b y (by grind) k) E).2 (u x o) (u y p);rcases R with⟨k1,k2⟩ |⟨k1,k2,k3,k4,k5⟩
 ·rcases c with⟨j1,j2⟩ |⟨j1,j2⟩
  ·rw[j2,k2]
  ·exact absurd (z.mpr k1) j1
 ·rcases c with⟨j1,j2⟩ |⟨j1,j2,j3,j4,j5⟩
  ·exact absurd (z.mp j1) k1
  ·have:=K k1 j3 k3;rcases r with e |e <;>rw[e] at this j5⊢
   ·rw[kQ (show(0:Rat)<1 by grind)] at this⊢;lia
   ·rw[nh (show(-1:Rat)<0 by grind)] at this⊢;lia
theorem fq {y:Rat}(d:x≠0)(A:y≠0):x*y≠0:=fun e=>(bR.mp e).elim d A
theorem St.ne {a b:PF}{t:List PF}(h:a.f x≠0):a≠0:=fun e=>h (by rw[e];rfl)
theorem Zo (X:St d bG v)(P:St A i a)(B:c≠0)(E:0<ν)(l:∀w,d.f w=c*A.f (-(w*w)))(G:∀w,bG.f w= -(c*ν*w)*i.f (-(w*w)))(f0:A.f 0≠0)(R:0<M)(N:A.f (-(M*M))≠0):
  (Vc (d::bG::v) (-M):Int) - Vc (d::bG::v) M=2*((Vc (A::i::a) (-(M*M)):Int) - Vc (A::i::a) 0):=by
 have u: -((0:Rat)*0)=0:=by grind
 have s:d.f 0≠0:=by
  rw[l,u];exact fq B f0
 have ne:d≠0:=St.ne (b:=bG) (t:=[]) s;have Q:d.f M≠0:=by
  rw[l];exact fq B N
 have k:∀w,d.f w≠0->A.f (-(w*w))≠0:=fun w h e=>h (by rw[l,e];grind);have p:∀σ:Rat,σ=1\/σ= -1->(Vc (d::bG::v) (σ*0):Int)+sn σ*Vc (A::i::a) (-((0:Rat)*0))=(Vc (d::bG::v) (σ*M):Int)+sn σ*Vc (A::i::a) (-(M*M)):=fun σ n=>by
  have r:∀w:Rat,σ*w*(σ*w)=w*w:=fun w=>by rcases n with e |e <;>rw[e] <;>grind
  have ev:∀w,d.f (σ*w)=d.f w:=fun w=>by rw[l,l,r]
  have σ0:σ≠0:=by rcases n with e |e <;>rw[e] <;>grind
  refine half X P (lo:=0) (by grind) (by grind) n ne k (fun w _ _ h=>by rw[ev];exact h) (e0:=1) (by grind) (fun x y g J K _ F C=> ?_) s Q;have S:=k x F;have j:=k y C;rw[ev,ev,l,l,gJ B S,gJ B j];constructor
  ·constructor
   ·intro e;rcases ig c with q |q <;>rw[q] at e <;>lia
   ·intro e;rw[e]
  ·intro _ o I;rw[G,r] at o⊢;have W:y≠0:=fun e=>o (by rw[e];grind);have D:0<y:=by grind
   have z: -(c*ν*(σ*y))=c*(σ*(-(ν*y))):=by grind
   have H: -(ν*y)<0:=by have:=Rat.mul_pos E D;grind
   rw[z,gJ (fq B (fq σ0 (by grind))) I,gJ B (fq σ0 (by grind)),gJ σ0 (by grind),nh H];have:=Ts c;grind
 have L:=p 1 (.inl rfl);have m:=p (-1) (.inr rfl);rw[kQ (show(0:Rat)<1 by grind),u,show(1:Rat)*0=0 by grind,show(1:Rat)*M=M by grind] at L;rw[nh (show(-1:Rat)<0 by grind),u,show(-1:Rat)*0=0 by grind,show(-1:Rat)*M= -M by grind] at m;lia
theorem Zp (hG:St l bG v)(R:St A i a)(B:c≠0)(hα:0<α)(hβ:0<β)(n:∀w,l.f w=c*w*A.f (-(w*w)))(O:∀w,bG.f w=c*(α*A.f (-(w*w)) - β*(w*w)*i.f (-(w*w))))(f0:A.f 0≠0)(hM:0<M)(fM:A.f (-(M*M))≠0):
  (Vc (l::bG::v) (-M):Int) - Vc (l::bG::v) M=1+2*((Vc (A::i::a) (-(M*M)):Int) - Vc (A::i::a) 0):=by
 have z0: -((0:Rat)*0)=0:=by grind
 have P:0<=M:=by grind
 have C:0<=M*M:=Rat.mul_nonneg P P;have gM:l.f M≠0:=by
  rw[n];exact fq (fq B (by grind)) fM
 have ne:l≠0:=St.ne (b:=bG) (t:=[]) gM;have u:∀w,l.f w≠0->A.f (-(w*w))≠0:=fun w h e=>h (by rw[n,e];grind);have b0:bG.f 0=c*α*A.f 0:=by rw[O,z0];grind
 have ac:bG.f 0≠0:=by rw[b0];exact fq (fq B (by grind)) f0
 obtain⟨G,p1,f1⟩:=Lm hG P;obtain⟨o,p2,f2⟩:=Lm R C;have ab:∀x:Rat,x≠0->∃d:Rat,0<d/\(x<=-d\/d<=x):=fun x h=>by
  by_cases q:x<0
  ·exact⟨-x,by grind,.inl (by grind)⟩
  ·exact⟨x,by grind,.inr (by grind)⟩
 obtain⟨d3,q3,w3⟩:=ab _ f0;obtain⟨d4,q4,w4⟩:=ab _ ac;obtain⟨S,p3,f3⟩:=pj A C q3;obtain⟨F,p4,f4⟩:=pj bG P q4;obtain⟨ε,T,s,x3,x4,x5,x6⟩:∃ε:Rat,0<ε/\ε<=M/\ε*2<=G/\ε<=F/\ε*ε<=o/\ε*ε<=S:=by
  obtain⟨_,h,a1,a2⟩:=zMn (show(0:Rat)<1 by grind) hM;obtain⟨_,h,a3,a4⟩:=zMn h (show 0<G / 2 by grind);obtain⟨_,h,a5,a6⟩:=zMn h p4;obtain⟨_,h,a7,a8⟩:=zMn h p2;obtain⟨z,h,b1,b2⟩:=zMn h p3;have:=Rat.mul_nonneg (Rat.le_of_lt h) (show 0<=1 - z by grind);exact⟨z,h,by grind,by grind,by grind,by grind,by grind⟩
 have aa:=Rat.mul_pos T T;have N:In (M*M) (-(ε*ε)):=by
  obtain⟨u1,u2⟩:=lN (show -M<=ε by grind) s (show -M<=ε by grind) s;unfold In;grind
 have I:In (M*M) 0:=⟨by grind,by grind⟩;obtain⟨_,W,sE⟩:=f3 0 (-(ε*ε)) I N ⟨by grind,by grind⟩ w3;have vE:Vc (A::i::a) 0=Vc (A::i::a) (-(ε*ε)):=by
  rcases(f2 0 (-(ε*ε)) I N ⟨by grind,by grind⟩).2 f0 W with h |h
  ·exact h.2
  ·exact absurd sE h.1
 obtain⟨_,bE,sB⟩:=f4 0 ε ⟨by grind,by grind⟩ ⟨by grind,s⟩ ⟨by grind,by grind⟩ w4;have X:l.f ε≠0:=by
  rw[n];exact fq (fq B (by grind)) W
 have od:∀w,l.f (-w)= -l.f w:=fun w=>by
  rw[n,n,show -w* -w=w*w by grind];grind
 have sA:sn (l.f ε)=sn c*sn (A.f 0):=by
  rw[n,gJ (fq B (by grind)) W,gJ B (by grind),kQ T,<-sE,Int.mul_one]
 have ae:sn (bG.f ε)=sn c*sn (A.f 0):=by
  rw[<-sB,b0,gJ (fq B (by grind)) f0,gJ B (by grind),kQ hα,Int.mul_one]
 have mid:(Vc (l::bG::v) (-ε):Int) - Vc (l::bG::v) ε=1:=by
  rcases(f1 (-ε) ε ⟨by grind,by grind⟩ ⟨by grind,s⟩ ⟨by grind,by grind⟩).2 (by rw[od];grind) X with h |h
  ·exfalso;have:=h.1;rw[od,show -l.f ε= -1*l.f ε by grind,gJ (by grind) X,nh (show(-1:Rat)<0 by grind)] at this;rcases ig (l.f ε) with q |q <;>rw[q] at this <;>lia
  ·rw[h.2.2.2.2,sA,ae];rcases ig c with q |q <;>rcases ig (A.f 0) with r |r <;>rw[q,r] <;>rfl
 obtain⟨s',r',bz⟩:=R.RQ;obtain⟨d,hd,big⟩:=Dz bz C;obtain⟨L,hL,ad⟩:=Ng A C;have iL:L⁻¹*L=1:=Rat.inv_mul_cancel L (by grind);have Q:0<L⁻¹:=Rat.inv_pos.mpr (by grind);have iα:α⁻¹*α=1:=Rat.inv_mul_cancel α (by grind);have af:0<α⁻¹:=Rat.inv_pos.mpr hα;have iM:(2*M+1)⁻¹*(2*M+1)=1:=Rat.inv_mul_cancel _ (by grind);have m:0<(2*M+1)⁻¹:=Rat.inv_pos.mpr (by grind);have βd:0<β*(ε*ε)*d:=Rat.mul_pos (Rat.mul_pos hβ aa) hd;obtain⟨k,k0,k1,k2⟩:∃k:Rat,0<k/\k<d/\α*k<β*(ε*ε)*d:=by
  have w:=Rat.mul_pos βd af;refine⟨min d (β*(ε*ε)*d*α⁻¹) / 2,by grind,by grind,?_⟩;have K:min d (β*(ε*ε)*d*α⁻¹) / 2<=β*(ε*ε)*d*α⁻¹ / 2:=by grind
  have h2:=Rat.mul_le_mul_of_nonneg_left K (show 0<=α by grind);have J:α*(β*(ε*ε)*d*α⁻¹ / 2)=β*(ε*ε)*d / 2:=by grind
  grind
 have st:∀σ:Rat,σ=1\/σ= -1->(Vc (l::bG::v) (σ*ε):Int)+sn σ*Vc (A::i::a) (-(ε*ε))=(Vc (l::bG::v) (σ*M):Int)+sn σ*Vc (A::i::a) (-(M*M)):=fun σ D=>by
  have sq:∀w:Rat,σ*w*(σ*w)=w*w:=fun w=>by rcases D with e |e <;>rw[e] <;>grind
  have σ0:σ≠0:=by rcases D with e |e <;>rw[e] <;>grind
  have E:∀w,l.f (σ*w)=c*(σ*(w*A.f (-(w*w)))):=fun w=>by rw[n,sq];grind
  have j:∀w,0<w->A.f (-(w*w))≠0->sn (l.f (σ*w))=sn c*(sn σ*sn (A.f (-(w*w)))):=fun w w0 h=>by
   rw[E,gJ B (fq σ0 (fq (by grind) h)),gJ σ0 (fq (by grind) h),gJ (by grind) h,kQ w0,Int.one_mul]
  refine half hG R (lo:=ε) (by grind) s D ne u (fun w K _ h=> ?_) (e0:=k*L⁻¹*(2*M+1)⁻¹) (Rat.mul_pos (Rat.mul_pos k0 Q) m) (fun x y K h2 J hn gx gy=> ?_) X gM
  ·rw[E];exact fq B (fq σ0 (fq (by grind) (u w h)))
  have ax:=u x gx;have ay:=u y gy;rw[j x (by grind) ax,j y (by grind) ay];constructor
  ·constructor
   ·intro e;rcases ig c with q |q <;>rcases ig σ with r |r <;>rw[q,r] at e <;>lia
   ·intro e;rw[e]
  ·intro p _ kb;have H:∀w,0<=w->w<=M->In (M*M) (-(w*w)):=fun w w0 w1=>by
    obtain⟨u1,u2⟩:=lN (show -M<=w by grind) w1 (show -M<=w by grind) w1;unfold In;grind
   have n2:xN (k*L⁻¹) (-(x*x)) (-(y*y)):=by
    obtain⟨u1,u2⟩:=hn;have kl:=Rat.mul_pos k0 Q;have q1:=Rat.mul_nonneg (show 0<=k*L⁻¹*(2*M+1)⁻¹ - (y - x) by grind) (show 0<=x+y by grind);have q2:=Rat.mul_nonneg (show 0<=y - x by grind) (show 0<=x+y by grind);have q3:=Rat.mul_nonneg (show 0<=k*L⁻¹*(2*M+1)⁻¹ by have:=Rat.mul_pos kl m;grind) (show 0<=2*M+1 - (x+y) by grind);have q4:k*L⁻¹*(2*M+1)⁻¹*(2*M+1)=k*L⁻¹:=by grind
    generalize k*L⁻¹*(2*M+1)⁻¹=ee at *;generalize k*L⁻¹=e' at *;unfold xN;grind
   obtain⟨l1,l2⟩:=ad _ _ (H x (by grind) (by grind)) (H y (by grind) J) _ n2;have lk:L*(k*L⁻¹)=k:=by grind
   rw[lk] at l1 l2;have sm: -k<=A.f (-(y*y))/\A.f (-(y*y))<=k:=by
    unfold sn at p;by_cases a1:A.f (-(x*x))<0 <;>by_cases a2:A.f (-(y*y))<0
    ·rw[ai a1,ai a2] at p;exact absurd rfl p
    ·grind
    ·grind
    ·rw[ah a1,ah a2] at p;exact absurd rfl p
   have g:=big _ (H y (by grind) J) (by grind) (by grind);have yy:ε*ε<=y*y:=by
    have q1:=Rat.mul_nonneg (show 0<=y - ε by grind) (show 0<=y+ε by grind);grind
   obtain⟨m1,m2⟩:=lN (show -α<=α by grind) (Rat.le_refl) sm.1 sm.2;have hP:sn (α*A.f (-(y*y)) - β*(y*y)*i.f (-(y*y)))= -sn (i.f (-(y*y)))/\α*A.f (-(y*y)) - β*(y*y)*i.f (-(y*y))≠0:=by
    have t0:=Rat.mul_nonneg (show 0<=β by grind) (show 0<=y*y - ε*ε by grind);have t1:0<=β*(y*y):=Rat.mul_nonneg (by grind) (Rat.mul_nonneg (by grind) (by grind));have t3:=Rat.mul_nonneg t0 (show 0<=d by grind);unfold sn;rcases g with g |g
    ·have t2:=Rat.mul_nonneg t1 (show 0<=-d - i.f (-(y*y)) by grind);rw[ah (by grind),ai (by grind)];exact⟨rfl,by grind⟩
    ·have t2:=Rat.mul_nonneg t1 (show 0<=i.f (-(y*y)) - d by grind);rw[ai (by grind),ah (by grind)];exact⟨rfl,by grind⟩
   rw[O,sq,gJ B hP.2,hP.1];have:=Ts c;grind
 have s1:=st 1 (.inl rfl);have s2:=st (-1) (.inr rfl);rw[kQ (show(0:Rat)<1 by grind),show(1:Rat)*ε=ε by grind,show(1:Rat)*M=M by grind] at s1;rw[nh (show(-1:Rat)<0 by grind),show(-1:Rat)*ε= -ε by grind,show(-1:Rat)*M= -M by grind] at s2;rw[<-vE] at s1 s2;lia
def Tt:List Rat->List Rat->Prop
 |[],[]=>True
 |x::l,y::m=>((x=0↔y=0)/\sn x=sn y)/\Tt l m
 |_,_=>False
theorem Nh:∀{l m:List Rat},Tt l m->∀s,changesOn s l=changesOn s m
 |[],[],_,s=>rfl
 |x::l,y::m,⟨⟨d,i⟩,A⟩,s=>by
  rw[qU,qU,i,Nh A s,Nh A (sn y)];by_cases q:y=0
  ·rw[ai q,ai (d.mpr q)]
  ·rw[ah q,ah (fun z=>q (d.mp z))]
 |[],_::_,h,_=>h.elim
 |_::_,[],h,_=>h.elim
theorem EI (d:k≠0):∀(l:List Rat) (s:Int),changesOn (sn k*s) (l.map fun x=>k*x)=changesOn s l
 |[],s=>rfl
 |x::l,s=>by
  rw[aK,qU,qU];by_cases q:x=0
  ·rw[ai q,ai (by rw[q];grind),EI d l s]
  ·rw[ah q,ah (fq d q),gJ d q,EI d l (sn x)];congr 1;have:(sn k*s= -(sn k*sn x))↔s= -sn x:=by
    rcases ig k with e |e <;>rw[e] <;>lia
   by_cases z:s= -sn x
   ·rw[ai z,ai (this.mpr z)]
   ·rw[ah z,ah (fun w=>z (this.mp w))]
theorem Tu (h:D.f x≠0)(l):Vc (l.map fun p=>D*p) x=Vc l x:=by
 unfold Vc changes;have e:(l.map fun p=>D*p).map (fun p=>p.f x)=(l.map fun p=>p.f x).map fun y=>D.f x*y:=by
  rw[aN,aN];rfl
 rw[e];have:=EI h (l.map fun p=>p.f x) 0;rw[Int.mul_zero] at this;exact this
inductive Gr:PF->PF->List PF->Prop
 |last {a b:PF} (q:PF) (u:Rat):0<u->b≠0->PF.const u*a=q*b->Gr a b []
 |cons {a b c:PF} {t:List PF} (q:PF) (u v:Rat):0<u->0<v->PF.const u*a=q*b - PF.const v*c->Gr b c t->Gr a b (c::t)
theorem Gr.red (h:Gr a b t):∃(D i d:PF) (t':List PF),D≠0/\D=(b::t).getLast (by simp)/\St i d t'/\a=D*i/\b=D*d/\t=t'.map fun p=>D*p:=by
 induction h with
 | @last a b q u l r e=>
  have s:=sC (c:=u) (by grind);exact⟨b,PF.const (1 / u)*q,PF.const 1,[],r,rfl,.last _ 1 (by grind),by grind,by rw[show PF.const 1=(1:PF) from fN];grind,rfl⟩
 | @cons a b c t q u v l x e _ B=>
  obtain⟨D,d,A,t',f,n,k,w,H,o⟩:=B;have s:=sC (c:=u) (by grind);refine⟨D,PF.const (1 / u)*(q*d - PF.const v*A),d,A::t',f,?_,.cons q u v l x (by grind) k,by grind,w,by rw[H,o];rfl⟩;rw[n];rfl
noncomputable def dv:List Rat->Rat->Rat
 |[],_=>0
 |_::l,x=>valueAt l x+x*dv l x
theorem tay (M)(B:0<=M):∀l:List Rat,∃K:Rat,0<=K/\∀x e,In M x->In M (x+e)->-(K*(e*e))<=valueAt l (x+e) - valueAt l x - e*dv l x/\valueAt l (x+e) - valueAt l x - e*dv l x<=K*(e*e)
 |[]=>⟨0,by grind,fun x e _ _=>by
  rw[jg,jg];show _<=0 - 0 - e*0/\0 - 0 - e*0<=_;constructor <;>grind⟩
 |c::l=>by
  obtain⟨K,b,h⟩:=tay M B l;obtain⟨L,s,k⟩:=Nf M B l;refine⟨M*K+L,by have:=Rat.mul_nonneg B b;grind,fun x e d A=> ?_⟩;obtain⟨t,a⟩:=h x e d A;have n:0<=e*e:=by
   rcases(Rat.le_total:(0:Rat)<=e\/e<=0) with q |q
   ·exact Rat.mul_nonneg q q
   ·have:=Rat.mul_nonneg (show 0<=-e by grind) (show 0<=-e by grind);grind
  have H: -(L*(e*e))<=e*(valueAt l (x+e) - valueAt l x)/\e*(valueAt l (x+e) - valueAt l x)<=L*(e*e):=by
   rcases(Rat.le_total:(0:Rat)<=e\/e<=0) with q |q
   ·obtain⟨f,i⟩:=k x (x+e) d.1 d.2 A.1 A.2 e (by grind) (by grind);obtain⟨w,v⟩:=lN (show -e<=e by grind) (Rat.le_refl) f i;constructor <;>grind
   ·obtain⟨f,i⟩:=k x (x+e) d.1 d.2 A.1 A.2 (-e) (by grind) (by grind);obtain⟨w,v⟩:=lN (show - -e<=e by grind) (show e<=-e by grind) f i;constructor <;>grind
  obtain⟨S,u⟩:=lN d.1 d.2 t a;rw[dZ,dZ];show _<=_ - e*(valueAt l x+x*dv l x)/\_ - e*(valueAt l x+x*dv l x)<=_;generalize valueAt l (x+e)=p at *;generalize valueAt l x=r at *;generalize dv l x=o at *;constructor <;>grind
theorem Ju:∀(p q:List Rat) (x:Rat),dv (addPoly p q) x=dv p x+dv q x
 |[],q,x=>by
  show dv q x=0+dv q x;grind
 |a::p,[],x=>by
  show dv (a::p) x=dv (a::p) x+0;grind
 |a::p,b::q,x=>by
  show valueAt (addPoly p q) x+x*dv (addPoly p q) x=(valueAt p x+x*dv p x)+(valueAt q x+x*dv q x);rw[kN,Ju p q x];grind
theorem vF (c):∀(p:List Rat) (x:Rat),dv (scalePoly c p) x=c*dv p x
 |[],x=>by
  show(0:Rat)=c*0;grind
 |a::p,x=>by
  show valueAt (scalePoly c p) x+x*dv (scalePoly c p) x=c*(valueAt p x+x*dv p x);rw[fV,vF c p x];grind
theorem Ni:∀(p q:List Rat) (x:Rat),dv (mulPoly p q) x=dv p x*valueAt q x+valueAt p x*dv q x
 |[],q,x=>by
  show(0:Rat)=0*_+ 0*_;grind
 |a::p,q,x=>by
  show dv (addPoly (scalePoly a q) (0::mulPoly p q)) x=(valueAt p x+x*dv p x)*_+ (a+x*valueAt p x)*_;rw[Ju,vF];show _+ (valueAt (mulPoly p q) x+x*dv (mulPoly p q) x)=_;rw[rE,Ni p q x];grind
theorem EJ(x:Rat):0<=x*x:=by
 rcases(Rat.le_total:(0:Rat)<=x\/x<=0) with q |q
 ·exact Rat.mul_nonneg q q
 ·have:=Rat.mul_nonneg (show 0<=-x by grind) (show 0<=-x by grind);grind
theorem Tv (h:sn p=sn q):0<=p*q:=by
 unfold sn at h;by_cases a:p<0 <;>by_cases b:q<0
 ·have:=Rat.mul_nonneg (show 0<=-p by grind) (show 0<=-q by grind);grind
 ·rw[ai a,ah b] at h;exact absurd h (by decide)
 ·rw[ah a,ai b] at h;exact absurd h (by decide)
 ·exact Rat.mul_nonneg (by grind) (by grind)
theorem HW{P:Nat->Prop}(d:P 0):∀n,¬P n->∃j,j<n/\(∀i,i<=j->P i)/\¬P (j+1)
 |0,h=>absurd d h
 |n+1,h=>by
  by_cases q:∀i,i<=n->P i
  ·exact⟨n,by lia,q,h⟩
  ·have:∃m,m<=n/\¬P m:=bt fun z=>q fun i B=>bt fun w=>z ⟨i,B,w⟩;obtain⟨m,x,A⟩:=this;obtain⟨j,k,f,l⟩:=HW d m A;exact⟨j,by lia,f,l⟩
 termination_by n=>n
 decreasing_by lia
theorem dir {D:PF}(hS:St a b t)(C:0<=M){l:List Rat}(eF:∀x,valueAt l x=D.f x*a.f x)(hμ:0<μ)(eD:∀x,μ*dv l x=D.f x*b.f x):
  ∃e:Rat,0<e/\∀x y,In M x->In M y->x<y->y - x<=e->D.f x≠0->a.f x≠0->a.f y≠0->sn (a.f x)≠sn (a.f y)->sn (a.f y)*sn (b.f y)=1:=by
 obtain⟨e,pe,fin⟩:=Lm hS C;obtain⟨K,k0,ty⟩:=tay M C (mulPoly l l);obtain⟨L,l1,I⟩:=Ng a C;obtain⟨B,b1,bd⟩:=Pu D C;refine⟨e,pe,fun x y hx W ag hn m F ay c=>bt fun bad=> ?_⟩;have T:sn (a.f x)= -sn (a.f y):=by
  rcases ig (a.f x) with p |p <;>rcases ig (a.f y) with q |q <;>rw[p,q] at c⊢<;>first |rfl |exact absurd rfl c
 have sb:sn (b.f y)= -sn (a.f y):=by
  rcases ig (b.f y) with p |p <;>rcases ig (a.f y) with q |q <;>rw[p,q] at bad⊢<;>first |rfl |exact absurd rfl bad
 have hH:∀z,valueAt (mulPoly l l) z=D.f z*a.f z*(D.f z*a.f z):=fun z=>by rw[rE,eF]
 have H0:0<valueAt (mulPoly l l) x:=by
  have k:=EJ (D.f x*a.f x);have s:=fq (fq m F) (fq m F);rw[hH];grind
 generalize hw:y - x=w at *;have w0:0<w:=by grind
 have C0:0<=(B*B*(L*L)+K)*(w*w):=Rat.mul_nonneg (by have:=Rat.mul_nonneg (EJ B) (EJ L);grind) (EJ w);obtain⟨n,al⟩:=XJ ((B*B*(L*L)+K)*(w*w)+valueAt (mulPoly l l) x) (valueAt (mulPoly l l) x) H0;have n1:(1:Rat)<=(n:Rat):=by
  cases n with
  |zero=>
   exfalso;have:((0:Nat):Rat)=0:=rfl;grind
  |succ n=>
   have:((n+1:Nat):Rat)=(n:Rat)+1:=by grind
   have:(0:Rat)<=(n:Rat):=by exact_mod_cast aR n
   grind
 have iv:(n:Rat)⁻¹*(n:Rat)=1:=Rat.inv_mul_cancel _ (by grind);have ip:0<(n:Rat)⁻¹:=Rat.inv_pos.mpr (by grind);obtain⟨η,hη⟩:∃η:Rat,η=w*(n:Rat)⁻¹:=⟨_,rfl⟩;have ηn:(n:Rat)*η=w:=by rw[hη];grind
 have η0:0<η:=by rw[hη];exact Rat.mul_pos w0 ip
 have ηw:η<=w:=by
  have:=Rat.mul_nonneg (show 0<=(n:Rat) - 1 by grind) (show 0<=η by grind);grind
 have o:∀i:Nat,i<=n->x<=x+(i:Rat)*η/\x+(i:Rat)*η<=y:=fun i S=>by
  have k:(0:Rat)<=(i:Rat):=by exact_mod_cast aR i
  have s:(i:Rat)<=(n:Rat):=by exact_mod_cast S
  have h3:=Rat.mul_nonneg k (show 0<=η by grind);have h4:=Rat.mul_nonneg (show 0<=(n:Rat) - i by grind) (show 0<=η by grind);constructor <;>grind
 have d:∀i:Nat,i<=n->In M (x+(i:Rat)*η):=fun i S=>by
  obtain⟨k,s⟩:=o i S;exact⟨by have:=hx.1;grind,by have:=W.2;grind⟩
 have X:((0:Nat):Rat)*η=0:=by
  have:((0:Nat):Rat)=0:=rfl;grind
 have ab:a.f (x+((0:Nat):Rat)*η)≠0/\sn (a.f (x+((0:Nat):Rat)*η))= -sn (a.f y):=by
  rw[X,show x+0=x by grind];exact⟨F,T⟩
 have ac:¬(a.f (x+(n:Rat)*η)≠0/\sn (a.f (x+(n:Rat)*η))= -sn (a.f y)):=by
  rw[ηn,show x+w=y by grind];intro⟨_,h⟩;rcases ig (a.f y) with q |q <;>rw[q] at h <;>exact absurd h (by decide)
 obtain⟨j,j1,N,j3⟩:=HW (P:=fun i=>a.f (x+(i:Rat)*η)≠0/\sn (a.f (x+(i:Rat)*η))= -sn (a.f y)) ab n ac;have A:∀i:Nat,x+((i+1:Nat):Rat)*η=x+(i:Rat)*η+η:=fun i=>by
  have:((i+1:Nat):Rat)=(i:Rat)+1:=by grind
  grind
 have up:∀i,i<=j->valueAt (mulPoly l l) x - (i:Rat)*(K*(η*η))<=valueAt (mulPoly l l) (x+(i:Rat)*η):=by
  intro i;induction i with
  |zero=>
   intro _;rw[X,show x+0=x by grind];have:((0:Nat):Rat)=0:=rfl;grind
  |succ i ih=>
   intro S;have k:=ih (by lia);rw[A];have s:=(ty (x+(i:Rat)*η) η (d i (by lia)) (by rw[<-A];exact d (i+1) (by lia))).1;have rise:0<=dv (mulPoly l l) (x+(i:Rat)*η):=by
    obtain⟨g1,H⟩:=N i (by lia);obtain⟨ak,an⟩:=o i (by lia);have g:sn (b.f (x+(i:Rat)*η))=sn (b.f y):=by
     rcases(fin (x+(i:Rat)*η) y (d i (by lia)) W ⟨by grind,by grind⟩).2 g1 ay with q |q
     ·exfalso;have:=q.1;rw[H] at this;rcases ig (a.f y) with r |r <;>rw[r] at this <;>exact absurd this (by decide)
     ·exact q.2.2.2.1
    have Q:=Tv (show sn (a.f (x+(i:Rat)*η))=sn (b.f (x+(i:Rat)*η)) by rw[H,g,sb]);rw[Ni];have d1:=eD (x+(i:Rat)*η);have d2:=eF (x+(i:Rat)*η);have sD:=Rat.mul_nonneg (EJ (D.f (x+(i:Rat)*η))) Q;have iμ:μ⁻¹*μ=1:=Rat.inv_mul_cancel μ (by grind);have ae:0<μ⁻¹:=Rat.inv_pos.mpr hμ;have d3:dv l (x+(i:Rat)*η)=μ⁻¹*(D.f (x+(i:Rat)*η)*b.f (x+(i:Rat)*η)):=by grind
    have p1:=Rat.mul_nonneg (show 0<=μ⁻¹ by grind) sD;rw[d2,d3];generalize D.f (x+(i:Rat)*η)=dd at *;generalize a.f (x+(i:Rat)*η)=aa at *;generalize b.f (x+(i:Rat)*η)=bb at *;grind
   have p2:=Rat.mul_nonneg (show 0<=η by grind) rise;have:((i+1:Nat):Rat)=(i:Rat)+1:=by grind
   grind
 have k:=up j (aj _);obtain⟨g1,H⟩:=N j (aj _);obtain⟨am,af⟩:=I (x+(j:Rat)*η) (x+((j+1:Nat):Rat)*η) (d j (by lia)) (d (j+1) (by lia)) η ⟨by rw[A];grind,by rw[A];grind⟩;have O: -(L*η)<=a.f (x+(j:Rat)*η)/\a.f (x+(j:Rat)*η)<=L*η:=by
  generalize a.f (x+(j:Rat)*η)=u at *;generalize a.f (x+((j+1:Nat):Rat)*η)=v at *;by_cases v0:v=0
  ·constructor <;>grind
  ·have ne:sn v≠sn u:=fun q=>j3 ⟨v0,by rw[q];exact H⟩;have pl:=Rat.mul_pos (show 0<L by grind) η0;unfold sn at ne;by_cases R:v<0 <;>by_cases c2:u<0
   ·rw[ai R,ai c2] at ne;exact absurd rfl ne
   ·constructor <;>grind
   ·constructor <;>grind
   ·rw[ah R,ah c2] at ne;exact absurd rfl ne
 obtain⟨ad,J⟩:=bd _ (d j (by lia));obtain⟨E,m2⟩:=lN ad J O.1 O.2;obtain⟨m3,m4⟩:=lN E m2 E m2;have s:=hH (x+(j:Rat)*η);have jn:(j:Rat)*η<=w:=by
  have:=(o j (by lia)).2;grind
 have kk:=Rat.mul_nonneg (Rat.mul_nonneg k0 (show 0<=η by grind)) (show 0<=w - (j:Rat)*η by grind);have kb:=Rat.mul_nonneg (Rat.mul_nonneg (Rat.mul_nonneg (EJ B) (EJ L)) (show 0<=η by grind)) (show 0<=w - η by grind);have all:valueAt (mulPoly l l) x<=(B*B*(L*L)+K)*w*η:=by
  rw[s] at k;generalize D.f (x+(j:Rat)*η)=dd at *;generalize a.f (x+(j:Rat)*η)=aa at *;generalize (j:Rat)=jj at *;generalize valueAt (mulPoly l l) x=h0 at *;grind
 have G:=Rat.mul_le_mul_of_nonneg_left all (show 0<=(n:Rat) by grind);have e3:(n:Rat)*((B*B*(L*L)+K)*w*η)=(B*B*(L*L)+K)*(w*w):=by
  rw[<-ηn];grind
 rw[e3] at G;generalize valueAt (mulPoly l l) x=h0 at *;grind
theorem mh (i:a=D*A)(l:b=D*d)(B:t=t'.map fun p=>D*p)(h:D.f x≠0):Vc (a::b::t) x=Vc (A::d::t') x:=by
 have:a::b::t=(A::d::t').map fun p=>D*p:=by rw[i,l,B];rfl
 rw[this,Tu h]
theorem gW {a:PF}(h:(D*a).f x≠0):D.f x≠0/\a.f x≠0:=by
 have h:D.f x*a.f x≠0:=h;exact⟨fun e=>h (by rw[e];grind),fun e=>h (by rw[e];grind)⟩
theorem Gs {d:PF}(h:c*d=1):X=c*(d*X):=by
 have:c*d*X=X:=by rw[h];grind
 grind
theorem Jv {u:PF}(B:s*A+u*l=1)(q:d*l=k*(A*i)):d=A*(s*d+u*i*k):=by
 have f:d=s*A*d+u*(d*l):=by
  have:(s*A+u*l)*d=d:=by rw[B];grind
  grind
 rw[q] at f;grind
theorem Tw (h:Gr a b t)(h':Gr S N t')(hl:0<l)(hm:0<m)(hσ:σ=1\/σ= -1)(e:PF.const l*(a*N)=PF.const (σ*m)*(S *b))(ac:x<=y)(ax:a.f x≠0)(ay:a.f y≠0)(R:S.f x≠0)(X:S.f y≠0):
  (Vc (a::b::t) x:Int) - Vc (a::b::t) y=sn σ*((Vc (S::N::t') x:Int) - Vc (S::N::t') y):=by
 obtain⟨D,i,v,P,D0,_,S1,L,O,et⟩:=h.red;obtain⟨E,A,B,F,E0,_,S2,o,C,W⟩:=h'.red;rw[L] at ax ay;rw[o] at R X;obtain⟨Dx,x1⟩:=gW ax;obtain⟨Dy,y1⟩:=gW ay;obtain⟨Ex,x2⟩:=gW R;obtain⟨Ey,y2⟩:=gW X;rw[mh L O et Dx,mh L O et Dy,mh o C W Ex,mh o C W Ey];have σ0:σ≠0:=by rcases hσ with q |q <;>rw[q] <;>grind
 have σ2:σ*σ=1:=by rcases hσ with q |q <;>rw[q] <;>grind
 have r:PF.const l*(i*B)=PF.const (σ*m)*(A*v):=by
  refine PF.wc D0 _ _ (PF.wc E0 _ _ ?_);rw[L,O,o,C] at e;grind
 have g:i≠0:=St.ne (b:=v) (t:=[]) x1;have ad:A≠0:=St.ne (b:=B) (t:=[]) x2;obtain⟨s,u,bz⟩:=S1.RQ;obtain⟨s',u',aa⟩:=S2.RQ;have ab:=sC (c:=σ*m) (fq σ0 (by grind));have ill:=sC (c:=l) (by grind);obtain⟨K,hK⟩:∃K,A=i*K:=⟨_,Jv bz (k:=PF.const (1 / (σ*m))*PF.const l) (by
  have:PF.const (1 / (σ*m))*PF.const l*(i*B)=PF.const (1 / (σ*m))*(PF.const l*(i*B)):=by grind
  rw[this,r];exact Gs ab)⟩
 obtain⟨J,hJ⟩:∃J,i=A*J:=⟨_,Jv aa (k:=PF.const (1 / l)*PF.const (σ*m)) (by
  have:PF.const (1 / l)*PF.const (σ*m)*(A*v)=PF.const (1 / l)*(PF.const (σ*m)*(A*v)):=by grind
  rw[this,<-r];exact Gs ill)⟩
 have KJ:J*K=1:=by
  refine PF.wc g _ _ ?_;have:i*(J*K)=A*J:=by rw[hK];grind
  rw[this,<-hJ];grind
 obtain⟨M,Q,mx,my⟩:∃M:Rat,0<=M/\-M<=x/\y<=M:=⟨max (max x (-x)) (max y (-y)),by grind,by grind,by grind⟩;obtain⟨e1,p1,f1⟩:=Lm S1 Q;obtain⟨e2,p2,f2⟩:=Lm S2 Q;obtain⟨d,hd,big⟩:=Dz (a:=0) (b:=K) (s:=0) (r:=J) (by rw[KJ];grind) Q;obtain⟨e3,p3,f3⟩:=pj K Q hd;have ar:∀z,l*(i.f z*B.f z)=σ*m*(A.f z*v.f z):=fun z=>congrArg (fun p:PF=>p.f z) r;have kz:∀z,A.f z=i.f z*K.f z:=fun z=>congrArg (fun p:PF=>p.f z) hK;have jz:∀z,i.f z=A.f z*J.f z:=fun z=>congrArg (fun p:PF=>p.f z) hJ;have w:=Wz (fun z=>(Vc (i::v::P) z:Int) - sn σ*Vc (A::B::F) z) g (e:=min e1 (min e2 e3)) (lo:=x) (hi:=y) (by grind) (fun p q h1 h2 h3 gp n hn=>by
  have H:In M p:=⟨by grind,by grind⟩;have G:In M q:=⟨by grind,by grind⟩;have j:∀z,i.f z≠0->A.f z≠0:=fun z hz I=>hz (by rw[jz,I];grind);have c1:=(f1 p q H G (hn.mono (by grind))).2 gp n;have c2:=(f2 p q H G (hn.mono (by grind))).2 (j p gp) (j q n);obtain⟨k1,k2,k3⟩:=f3 p q H G (hn.mono (by grind)) (big p H (by show -d<((0:Nat):Rat);have:((0:Nat):Rat)=0:=rfl;grind) (by show((0:Nat):Rat)<d;have:((0:Nat):Rat)=0:=rfl;grind));have sp:sn (A.f p)=sn (i.f p)*sn (K.f p):=by rw[kz,gJ gp k1]
  have sq:sn (A.f q)=sn (i.f q)*sn (K.f p):=by rw[kz,gJ n k2,k3]
  rcases c1 with⟨j1,j2⟩ |⟨j1,j2,j3,j4,j5⟩
  ·rcases c2 with⟨i1,i2⟩ |⟨i1,_⟩
   ·rw[j2,i2]
   ·exact absurd (by rw[sp,sq,j1]) i1
  ·rcases c2 with⟨i1,_⟩ |⟨i1,i2,i3,i4,i5⟩
   ·exfalso;rw[sp,sq] at i1;rcases ig (K.f p) with z |z <;>rw[z] at i1 <;>exact j1 (by lia)
   ·have s1:sn (i.f q)*sn (B.f q)=sn σ*(sn (A.f q)*sn (v.f q)):=by
     have:=ar q;have P:sn (l*(i.f q*B.f q))=sn (i.f q)*sn (B.f q):=by rw[gJ (by grind) (fq n i3),gJ n i3,kQ hl,Int.one_mul]
     have F:sn (σ*m*(A.f q*v.f q))=sn σ*(sn (A.f q)*sn (v.f q)):=by rw[gJ (fq σ0 (by grind)) (fq (j q n) j3),gJ (j q n) j3,gJ σ0 (by grind),kQ hm,Int.mul_one]
     rw[<-P,<-F,this]
    have s2:sn (i.f q)*sn (v.f q)=sn σ*(sn (A.f q)*sn (B.f q)):=by
     rcases ig (i.f q) with T |T <;>rcases ig (v.f q) with I |I <;>rcases ig (A.f q) with z3 |z3 <;>rcases ig (B.f q) with z4 |z4 <;>rw[T,I,z3,z4] at s1 <;>rw[T,I,z3,z4] <;>lia
    rw[<-i5] at s2;rw[s2] at j5;lia) ac x1 y1
 have w:(Vc (i::v::P) x:Int) - sn σ*Vc (A::B::F) x=(Vc (i::v::P) y:Int) - sn σ*Vc (A::B::F) y:=w;grind
noncomputable def lst(l:List Rat):Rat:=l.getD (l.length - 1) 0
def lB(σ:Rat)(l:List Rat):Rat:=if σ<0/\(l.length - 1) % 2=1 then -lst l else lst l
noncomputable def zH(σ:Rat):List Rat->Rat
 |[]=>1
 |[c]=>if c<0 then -1 else 1
 |_::b::l=>σ*zH σ (b::l)
theorem Ln (a b)(l):lst (a::b::l)=lst (b::l):=rfl
theorem Bo (d:σ=1\/σ= -1):∀l:List Rat,zH σ l=1\/zH σ l= -1
 |[]=> .inl rfl
 |[c]=>by
  unfold zH;split
  ·exact .inr rfl
  ·exact .inl rfl
 |_::b::l=>by
  show σ*zH σ (b::l)=1\/σ*zH σ (b::l)= -1;rcases Bo d (b::l) with h |h <;>rcases d with e |e <;>rw[h,e] <;>grind
theorem Px (d:σ=1\/σ= -1):∀l:List Rat,l≠[]->lst l≠0->sn (lB σ l)=sn (zH σ l)
 |[],h,_=>absurd rfl h
 |[c],_,f=>by
  have e:lB σ [c]=c:=by
   unfold lB;rw[ah (by simp)];rfl
  rw[e];unfold zH sn;by_cases h:c<0
  ·rw[ai h,ai h,ai (by grind)]
  ·rw[ah h,ah h,ah (by grind)]
 |a::b::l,_,f=>by
  have k:=Px d (b::l) (by simp) f;have A:lst (b::l)≠0:=f;have B:zH σ (b::l)≠0:=by rcases Bo d (b::l) with h |h <;>rw[h] <;>grind
  show _=sn (σ*zH σ (b::l));have σ0:σ≠0:=by rcases d with e |e <;>rw[e] <;>grind
  rw[gJ σ0 B,<-k];have x:(a::b::l).length - 1=((b::l).length - 1)+1:=by simp
  unfold lB;rw[Ln,x];rcases d with e |e
  ·have:¬σ<0:=by grind
   rw[ah (fun z=>this z.1),ah (fun z=>this z.1),e,kQ (show(0:Rat)<1 by grind),Int.one_mul]
  ·have i:σ<0:=by grind
   rw[nh i];by_cases q:((b::l).length - 1) % 2=1
   ·rw[ah (by lia),ai ⟨i,q⟩,show -lst (b::l)= -1*lst (b::l) by grind,gJ (by grind) A,nh (show(-1:Rat)<0 by grind)];lia
   ·rw[ai ⟨i,by lia⟩,ah (fun z=>q z.2),show -lst (b::l)= -1*lst (b::l) by grind,gJ (by grind) A,nh (show(-1:Rat)<0 by grind)]
theorem DA (f:σ=1\/σ= -1):∀l:List Rat,l≠[]->lst l≠0->∃N d:Rat,1<=N/\0<d/\∀x,N<=x->d<=zH σ l*valueAt l (σ*x)
 |[],h,_=>absurd rfl h
 |[c],_,i=>by
  have i:c≠0:=i;refine⟨1,if c<0 then -c else c,by grind,by split <;>grind,fun x _=> ?_⟩;rw[dZ,jg];unfold zH;split <;>grind
 |a::b::l,_,i=>by
  obtain⟨N,d,o,B,h⟩:=DA f (b::l) (by simp) i;have id:d⁻¹*d=1:=Rat.inv_mul_cancel d (by grind);have H:0<d⁻¹:=Rat.inv_pos.mpr B;obtain⟨A,G,F,C⟩:∃A:Rat,0<=A/\-A<=a/\a<=A:=⟨if a<0 then -a else a,by split <;>grind,by split <;>grind,by split <;>grind⟩;refine⟨N+(A+d)*d⁻¹,d,?_,B,fun x s=> ?_⟩
  ·have:=Rat.mul_nonneg (show 0<=A+d by grind) (show 0<=d⁻¹ by grind);grind
  ·have p:=Rat.mul_nonneg (show 0<=A+d by grind) (show 0<=d⁻¹ by grind);have u:=h x (by grind);have v:(A+d)*d⁻¹<=x:=by grind
   have w:=Rat.mul_le_mul_of_nonneg_right v (show 0<=d by grind);have S:(A+d)*d⁻¹*d=A+d:=by grind
   have t:=Rat.mul_nonneg (show 0<=x by grind) (show 0<=zH σ (b::l)*valueAt (b::l) (σ*x) - d by grind);rw[dZ];show d<=σ*zH σ (b::l)*(a+σ*x*valueAt (b::l) (σ*x));have σ2:σ*σ=1:=by rcases f with e |e <;>rw[e] <;>grind
   have k:σ*zH σ (b::l)*(a+σ*x*valueAt (b::l) (σ*x))=σ*zH σ (b::l)*a+x*(zH σ (b::l)*valueAt (b::l) (σ*x)):=by grind
   have n: -A<=σ*zH σ (b::l)*a:=by
    rcases Bo f (b::l) with q |q <;>rcases f with r |r <;>rw[q,r] <;>grind
   rw[k];generalize zH σ (b::l)*valueAt (b::l) (σ*x)=y at *;grind
theorem Yn (A:σ=1\/σ= -1)(i:l≠[])(f:lst l≠0):∃N:Rat,1<=N/\∀x,N<=x->valueAt l (σ*x)≠0/\sn (valueAt l (σ*x))=sn (lB σ l):=by
 obtain⟨N,d,B,v,h⟩:=DA A l i f;refine⟨N,B,fun x k=> ?_⟩;have:=h x k;rw[Px A l i f];rcases Bo A l with q |q <;>rw[q] at this⊢
 ·exact⟨by grind,by rw[kQ (by grind),kQ (by grind)]⟩
 ·exact⟨by grind,by rw[nh (by grind),nh (by grind)]⟩
theorem zI (d:lst l≠0):lB σ l≠0:=by
 unfold lB;split <;>grind
theorem Py (A:σ=1\/σ= -1):∀L:List (List Rat),(∀l∈L,l≠[]/\lst l≠0)->∃N:Rat,1<=N/\∀x,N<=x->Tt (L.map fun l=>valueAt l (σ*x)) (L.map (lB σ))
 |[],_=>⟨1,by grind,fun x _=>trivial⟩
 |l::L,h=>by
  obtain⟨N,q,v⟩:=Py A L fun m k=>h m (ao _ k);obtain⟨f,d⟩:=h l aC;obtain⟨K,t,i⟩:=Yn A f d;refine⟨max N K,by grind,fun x w=>⟨?_,v x (by grind)⟩⟩;obtain⟨g1,B⟩:=i x (by grind);exact⟨⟨fun e=>absurd e g1,fun e=>absurd e (zI d)⟩,B⟩
theorem Jw (A:σ=1\/σ= -1)(L:List (List Rat))(h:∀l∈L,l≠[]/\lst l≠0):∃N:Rat,1<=N/\∀x,N<=x->Vc (L.map dJ) (σ*x)=changes (L.map (lB σ)):=by
 obtain⟨N,f,i⟩:=Py A L h;refine⟨N,f,fun x d=> ?_⟩;unfold Vc changes;rw[aN];exact Nh (i x d) 0
theorem iI{p:List Rat}(h:trim p≠[]):lst (trim p)≠0:=Ei p h
theorem Gu{p:List Rat}:trim (scalePoly (-1) p)=[]↔trim p=[]:=by
 rw[<-jV,<-jV,fU,fU,m5];have:PF.const (-1)= -1:=PF.ext fun _=>rfl;rw[this];constructor
 ·intro h;have:dJ p= -(-1*dJ p):=by grind
  rw[this,h];grind
 ·intro h;rw[h];grind
theorem EK(p:List Rat):(trim (scalePoly (-1) p)).length<=(trim p).length:=by
 refine oe ?_;rw[m5];exact(Bh p).smul (-1)
theorem gB{p:List Rat}:isZero p=true↔trim p=[]:=jV p
theorem EL:∀(f:Nat) (p q:List Rat),trim q≠[]->(trim q).length<f->∃t:List (List Rat),chainOn f p q=trim p::trim q::t/\Gr (dJ p) (dJ q) (t.map dJ)/\(∀l∈t,l≠[]/\lst l≠0)/\t.length+((trim q::t).getLast (by simp)).length<=(trim q).length
 |0,p,q,_,h=>by lia
 |f+1,p,q,d,u=>by
  have n:0<(trim q).length:=aq.mpr d;obtain⟨e,x⟩:=Ek d p;have B:chainOn (f+1) p q=trim p::chainOn f q (scalePoly (-1) (rest p q)):=by
   show(if isZero q=true then[trim p] else _)=_;rw[ah (fun z=>d (gB.mp z))]
  by_cases z:trim (scalePoly (-1) (rest p q))=[]
  ·have i:chainOn f q (scalePoly (-1) (rest p q))=[trim q]:=by
    obtain⟨g,rfl⟩:∃g,f=g+1:=⟨f - 1,by lia⟩;show(if isZero _=true then[trim q] else _)=_;rw[ai (gB.mpr z)]
   have v:dJ (rest p q)=0:=(fU _).mp (gB.mpr (Gu.mp z));refine⟨[],by rw[B,i],.last (dJ (quot p q)) 1 (by grind) (fun w=>d (gB.mp ((fU _).mpr w))) ?_,⟨fun l h=>(List.not_mem_nil h).elim,by show 0+_<=_;rw[Nat.zero_add];exact aj _⟩⟩;rw[show PF.const 1=(1:PF) from fN,e,v];grind
  ·have r:=EK (rest p q);obtain⟨t,i,a,k,b⟩:=EL f q (scalePoly (-1) (rest p q)) z (by lia);refine⟨trim (scalePoly (-1) (rest p q))::t,by rw[B,i],?_,?_,?_⟩
   ·rw[aK,fw];refine .cons (dJ (quot p q)) 1 1 (by grind) (by grind) ?_ a;rw[m5,show PF.const 1=(1:PF) from fN];have:PF.const (-1)= -1:=PF.ext fun _=>rfl;rw[this,e];grind
   ·intro l A;rcases aL.mp A with rfl |A
    ·exact⟨z,iI z⟩
    ·exact k l A
   ·rw[List.getLast_cons (by simp),ak];lia
theorem Tx(p:List Rat){q:List Rat}(d:trim q≠[]):∃t:List (List Rat),chain p q=trim p::trim q::t/\Gr (dJ p) (dJ q) (t.map dJ)/\(∀l∈t,l≠[]/\lst l≠0)/\t.length+((trim q::t).getLast (by simp)).length<=(trim q).length:=EL _ p q d (by lia)
theorem Q3(p:List Rat){q:List Rat}(d:trim q=[]):chain p q=[trim p]:=by
 unfold chain;show(if isZero q=true then[trim p] else _)=_;rw[ai (gB.mpr d)]
theorem EM (l):lB 1 l=lst l:=by
 unfold lB;rw[ah (fun z=>absurd z.1 (by grind))]
def jP(l r:dQ):dQ:=OU l (if 0<lc r then r else mP r)
def mi:Nat->dQ->dQ->List dQ
 |0,a,_=>[a]
 |f+1,a,b=>if b=[] then[a] else a::mi f b (mP (prim (jP a b)))
def d6(a b:dQ):List dQ:=mi (b.length+1) a b
def US(p:dQ):Int:=if p.length % 2=1 then lc p else -lc p
noncomputable def wK:List Int->Nat
 |x::y::l=>(if decide (0<y)=decide (0<x) then 0 else 1)+wK (y::l)
 |_=>0
def jmp(c:List dQ):Int:=(wK (c.map US):Int) - wK (c.map lc)
theorem EN{right:dQ}(d:right≠[])(tr:Trim right)(A:0<lc right):∀(f:Nat) (rest:dQ),Trim rest->rest.length<f->∃(k:Rat) (q:PF),0<k/\PF.const k*dO rest=q*dO right+dO (A8 f rest right)/\(A8 f rest right).length<right.length/\Trim (A8 f rest right)
 |0,rest,_,h=>by lia
 |f+1,rest,t,h=>by
  unfold A8;by_cases q:rest.length<right.length
  ·rw[ai q];exact⟨1,0,by decide,by rw[fN];grind,q,t⟩
  ·rw[ah q];obtain⟨i,a,e⟩:=Eh (rest:=rest) (right:=right) (by lia) d;obtain⟨k,u,B,v,x,l⟩:=EN d tr A f (mQ rest right) e (by lia);have w:(0:Rat)<((lc right:Int):Rat):=by exact_mod_cast A
   refine⟨k*((lc right:Int):Rat),PF.const k*(PF.const ((lc rest:Int):Rat)*xE (rest.length - right.length))+u,Rat.mul_pos B w,?_,x,l⟩;rw[gA];have:PF.const k*PF.const ((lc right:Int):Rat)*dO rest=PF.const k*(PF.const ((lc right:Int):Rat)*dO rest):=by grind
   rw[this,i];have:PF.const k*((PF.const ((lc rest:Int):Rat)*xE (rest.length - right.length))*dO right+dO (mQ rest right))=PF.const k*((PF.const ((lc rest:Int):Rat)*xE (rest.length - right.length))*dO right)+PF.const k*dO (mQ rest right):=by grind
   rw[this,v];grind
theorem XM{p:dQ}(h:p≠[]):lc (mP p)= -lc p:=by
 unfold lc mP;have:0<p.length:=aq.mpr h;rw[lMp,kg _ (by lia)]
theorem Br{p:dQ}(h:p≠[]):mP p≠[]:=fun e=>h (by unfold mP at e;exact List.map_eq_nil_iff.mp e)
theorem DB{a b:dQ}(i:Trim a)(A:Trim b)(d:b≠[]):∃(k:Rat) (q:PF),0<k/\PF.const k*dO a=q*dO b+dO (jP a b)/\(jP a b).length<b.length/\Trim (jP a b):=by
 unfold jP OU;have x:=fQ.mp A d;by_cases h:0<lc b
 ·rw[ai h];exact EN d A h _ a i (by lia)
 ·rw[ah h];obtain⟨k,q,B,e,l,f⟩:=EN (Br d) (vo A) (by rw[XM d];lia) (a.length+1) a i (by lia);rw[jM] at l;refine⟨k,-q,B,?_,l,f⟩;rw[e,zm];grind
theorem Tz{w:dQ}(t:Trim w)(h:w≠[]):0<cont w:=by
 rw[zw];have:=zx t h;lia
theorem Pz{w:dQ}(h:w≠[]):prim w≠[]:=fun e=>h (by
 have:=ly w;rw[e] at this;exact bc.mp this.symm)
theorem Bs:∀(f:Nat) (a b:dQ),b≠[]->Trim a->Trim b->b.length<f->∃t:List dQ,mi f a b=a::b::t/\Gr (dO a) (dO b) (t.map dO)/\(∀l∈t,Trim l/\l≠[])/\t.length+((b::t).getLast (by simp)).length<=b.length
 |0,a,b,_,_,_,h=>by lia
 |f+1,a,b,A,p,B,S=>by
  obtain⟨k,q,r,e,s,w⟩:=DB p B A;have H:0<b.length:=aq.mpr A;have n:mi (f+1) a b=a::mi f b (mP (prim (jP a b))):=by
   show(if b=[] then[a] else _)=_;rw[ah A]
  by_cases z:jP a b=[]
  ·have i:mi f b (mP (prim (jP a b)))=[b]:=by
    obtain⟨g,rfl⟩:∃g,f=g+1:=⟨f - 1,by lia⟩;show(if mP (prim (jP a b))=[] then[b] else _)=_;rw[ai (by rw[z];rfl)]
   refine⟨[],by rw[n,i],.last q k r (Jc B A) ?_,fun l h=>(List.not_mem_nil h).elim,by show 0+_<=_;rw[Nat.zero_add];exact aj _⟩;rw[e,z];show _+ (0:PF)=_;grind
  ·have v:mP (prim (jP a b))≠[]:=Br (Pz z);have x:Trim (mP (prim (jP a b))):=vo (sy w);have C:(mP (prim (jP a b))).length=(jP a b).length:=by rw[jM,ly]
   obtain⟨t,i,o,u,d⟩:=Bs f b (mP (prim (jP a b))) v B x (by lia);refine⟨mP (prim (jP a b))::t,by rw[n,i],?_,?_,?_⟩
   ·rw[aK];refine .cons q k ((cont (jP a b):Int):Rat) r (by exact_mod_cast Tz w z) ?_ o;have:=SE (jP a b);rw[zm,e,<-this];grind
   ·intro l d;rcases aL.mp d with rfl |d
    ·exact⟨x,v⟩
    ·exact u l d
   ·rw[List.getLast_cons (by simp),ak];lia
theorem nj{a b:dQ}(A:b≠[])(i:Trim a)(d:Trim b):∃t:List dQ,d6 a b=a::b::t/\Gr (dO a) (dO b) (t.map dO)/\(∀l∈t,Trim l/\l≠[])/\t.length+((b::t).getLast (by simp)).length<=b.length:=Bs _ a b A i d (by lia)
theorem Jx:∀l:List Int,(∀x∈l,x≠0)->wK l=changes (l.map fun z:Int=>(z:Rat))
 |[],_=>rfl
 |[x],h=>by
  have d:((x:Int):Rat)≠0:=Be (h x aC);show 0=changes [(x:Rat)];rw[oW d];rfl
 |x::y::l,h=>by
  have d:((x:Int):Rat)≠0:=Be (h x aC);have f:((y:Int):Rat)≠0:=Be (h y (ao _ aC));show _+ wK (y::l)=changes ((x:Rat)::(y:Rat)::l.map fun z:Int=>(z:Rat));rw[xO d f,Jx (y::l) fun z i=>h z (ao _ i)];congr 1;have A:∀z:Int,z≠0->sn (z:Rat)=if 0<z then 1 else -1:=fun z i=>by
   unfold sn;by_cases q:0<z
   ·have B:(0:Rat)<(z:Rat):=by exact_mod_cast q
    rw[ai q,ah (by grind)]
   ·rw[ah q,ai (by exact_mod_cast (show z<0 by lia))]
  rw[A x (h x aC),A y (h y (ao _ aC))];by_cases p:0<x <;>by_cases q:0<y <;>simp[p,q]
theorem EO(p:dQ):lst (rl p)=((lc p:Int):Rat):=by
 unfold lst rl lc;rw[lMp];by_cases h:p=[]
 ·rw[h];rfl
 ·have:0<p.length:=aq.mpr h;rw[gDe,aD,gDe,af (by lia)];rfl
theorem TB(p:dQ)(h:p≠[]):lB 1 (rl p)=((lc p:Int):Rat)/\lB (-1) (rl p)=((US p:Int):Rat):=by
 have pl:0<p.length:=aq.mpr h;have d:(rl p).length=p.length:=lMp ..;refine⟨by rw[EM,EO],?_⟩;unfold lB US;rw[EO,d];by_cases q:p.length % 2=1
 ·rw[ai q,ah (by lia)]
 ·rw[ah q,ai ⟨by grind,by lia⟩,Rat.intCast_neg]
theorem PB{c:List dQ}(h:∀l∈c,Trim l/\l≠[]):∃N:Rat,1<=N/\∀x,N<=x->jmp c=(Vc (c.map dO) (-x):Int) - Vc (c.map dO) x:=by
 have i:∀l∈c.map rl,l≠[]/\lst l≠0:=fun l v=>by
  obtain⟨p,d,rfl⟩:=aV.mp v;refine⟨fun e=>(h p d).2 (List.map_eq_nil_iff.mp e),?_⟩;rw[EO];exact Be (fQ.mp (h p d).1 (h p d).2)
 obtain⟨N,n,t⟩:=Jw (.inl rfl) (c.map rl) i;obtain⟨K,q,k⟩:=Jw (.inr rfl) (c.map rl) i;have f:(c.map rl).map dJ=c.map dO:=by
  rw[aN];rfl
 refine⟨max N K,by grind,fun x A=> ?_⟩;have a:=t x (by grind);have b:=k x (by grind);rw[f,show(1:Rat)*x=x by grind] at a;rw[f,show(-1:Rat)*x= -x by grind] at b;unfold jmp;rw[a,b,Jx _ fun x A=> ?_,Jx _ fun x A=> ?_,aN,aN,aN,aN]
 ·have w:c.map (lB (-1) ∘ rl)=c.map ((fun z:Int=>(z:Rat)) ∘ US):=aT fun p d=>(TB p (h p d).2).2;have B:c.map (lB 1 ∘ rl)=c.map ((fun z:Int=>(z:Rat)) ∘ lc):=aT fun p d=>(TB p (h p d).2).1;rw[w,B]
 ·obtain⟨p,d,rfl⟩:=aV.mp A;exact fQ.mp (h p d).1 (h p d).2
 ·obtain⟨p,d,rfl⟩:=aV.mp A;have:=fQ.mp (h p d).1 (h p d).2;unfold US;split <;>lia
theorem nk (h:K*J=1):∃c:Rat,c≠0/\K=PF.const c:=by
 obtain⟨l,D⟩:=K.h;obtain⟨m,L⟩:=J.h;have B:K=dJ (trim l):=PF.ext fun x=>by rw[sv,iG,D]
 have s:J=dJ (trim m):=PF.ext fun x=>by rw[sv,iG,L]
 have z:K≠0:=fun e=>by
  rw[e] at h;have:(0:PF).f 0=(1:PF).f 0:=by rw[<-h];grind
  exact absurd this (by show((0:Nat):Rat)≠((1:Nat):Rat);decide)
 have j:J≠0:=fun e=>by
  rw[e] at h;have:(0:PF).f 0=(1:PF).f 0:=by rw[<-h];grind
  exact absurd this (by show((0:Nat):Rat)≠((1:Nat):Rat);decide)
 have t:trim l≠[]:=fun e=>z (by rw[B,e];rfl);have w:trim m≠[]:=fun e=>j (by rw[s,e];rfl);have k:=iI t;have I:=iI w;cases n:trim l with
 |nil=>exact absurd n t
 |cons a r=>
  cases r with
  |nil=>
   rw[n] at k B;refine⟨a,k,?_⟩;rw[B];refine PF.ext fun x=> ?_;rw[sv,dZ,jg];show a+x*0=a;grind
  |cons b r=>
   exfalso;rw[n] at k B;obtain⟨N,d,n1,E,W⟩:=DA (σ:=1) (.inl rfl) (b::r) (by simp) k;obtain⟨Q,i,R,H,F⟩:=DA (σ:=1) (.inl rfl) (trim m) w I;obtain⟨A,A0,a1,a2⟩:∃A:Rat,0<=A/\-A<=a/\a<=A:=⟨if a<0 then -a else a,by split <;>grind,by split <;>grind,by split <;>grind⟩;have T:i⁻¹*i=1:=Rat.inv_mul_cancel i (by grind);have O:0<i⁻¹:=Rat.inv_pos.mpr H;have id:d⁻¹*d=1:=Rat.inv_mul_cancel d (by grind);have ip:0<d⁻¹:=Rat.inv_pos.mpr E;obtain⟨x,hx⟩:∃x:Rat,x=N+Q +(A+2*i⁻¹)*d⁻¹:=⟨_,rfl⟩;have p0:=Rat.mul_nonneg (show 0<=A+2*i⁻¹ by grind) (show 0<=d⁻¹ by grind);have P:=W x (by grind);have X:=F x (by grind);rw[show(1:Rat)*x=x by grind] at P X;have kj:(a+x*valueAt (b::r) x)*valueAt (trim m) x=1:=by
    have:=congrArg (fun p:PF=>p.f x) h;rw[B,s] at this;exact this
   have x2:A+2*i⁻¹<=x*d:=by
    have g:(A+2*i⁻¹)*d⁻¹<=x:=by grind
    have y2:=Rat.mul_le_mul_of_nonneg_right g (show 0<=d by grind);have y3:(A+2*i⁻¹)*d⁻¹*d=A+2*i⁻¹:=by grind
    grind
   have x3:=Rat.mul_nonneg (show 0<=x by grind) (show 0<=zH 1 (b::r)*valueAt (b::r) x - d by grind);have C:=Bo (σ:=1) (.inl rfl) (b::r);have M:=Bo (σ:=1) (.inl rfl) (trim m);have big:2*i⁻¹<=zH 1 (b::r)*(a+x*valueAt (b::r) x):=by
    have e:zH 1 (b::r)*(a+x*valueAt (b::r) x)=zH 1 (b::r)*a+x*(zH 1 (b::r)*valueAt (b::r) x):=by grind
    have e2: -A<=zH 1 (b::r)*a:=by rcases C with q |q <;>rw[q] <;>grind
    rw[e];generalize zH 1 (b::r)*valueAt (b::r) x=y at *;grind
   have G:=Rat.mul_nonneg (show 0<=zH 1 (b::r)*(a+x*valueAt (b::r) x) - 2*i⁻¹ by grind) (show 0<=zH 1 (trim m)*valueAt (trim m) x by grind);have S:=Rat.mul_nonneg (show 0<=2*i⁻¹ by grind) (show 0<=zH 1 (trim m)*valueAt (trim m) x - i by grind);generalize (a+x*valueAt (b::r) x)=u at *;generalize valueAt (trim m) x=v at *;rcases C with q |q <;>rcases M with o |o <;>rw[q] at G big <;>rw[o] at G S <;>grind
noncomputable def Lo:List Rat->List Rat
 |[]=>[]
 |c::l=>addPoly [c] (mulPoly [0,0,-1] (Lo l))
theorem Bt:∀(l:List Rat) (w:Rat),valueAt (Lo l) w=valueAt l (-(w*w))
 |[],w=>rfl
 |c::l,w=>by
  unfold Lo;rw[kN,rE,Bt l w,dZ,dZ,dZ,dZ,dZ,jg];grind
noncomputable def ic(p:PF):PF:=⟨fun w=>p.f (-(w*w)),by
 obtain⟨l,d⟩:=p.h;exact⟨Lo l,fun x=>by rw[Bt,d]⟩⟩
theorem Zq (p)(w):(ic p).f w=p.f (-(w*w)):=rfl
theorem qV (p q):ic (p*q)=ic p*ic q:=PF.ext fun _=>rfl
theorem VH (p q):ic (p+q)=ic p+ic q:=PF.ext fun _=>rfl
theorem VI:ic 1=1:=PF.ext fun _=>rfl
theorem xP (h:p.f 0≠0):ic p≠0:=fun e=>h (by
 have:(ic p).f 0=0:=by rw[e];rfl
 rw[Zq,show -((0:Rat)*0)=0 by grind] at this;exact this)
noncomputable def WW:PF:=⟨fun w=>w,[0,1],fun x=>by rw[dZ,dZ,jg];grind⟩
theorem WA (h:A.f 0≠0):∃x y:PF,x*ic A+y*WW=1:=by
 obtain⟨l,d⟩:=A.h;cases l with
 |nil=>exact absurd (by rw[d];rfl) h
 |cons c l=>
  have i:c≠0:=fun e=>h (by rw[d,dZ,e];grind);refine⟨PF.const (1 / c),PF.const (1 / c)*WW*ic (dJ l),?_⟩;refine PF.ext fun w=> ?_;show 1 / c*A.f (-(w*w))+1 / c*w*valueAt l (-(w*w))*w=((1:Nat):Rat);rw[d,dZ];have:((1:Nat):Rat)=1:=rfl;rw[this];generalize valueAt l (-(w*w))=v;grind
theorem aaq (i:S*A+R*B=1)(l:x*A+y*WW=1)(k)(f:d *k=1):∃s r:PF,s*A+r*(k*WW*B)=1:=
 ⟨S*x*A+S*y*WW+R*B*x,R*y*d,by
  have:(S*A+R*B)*(x*A+y*WW)=1:=by rw[i,l];grind
  grind⟩
theorem aar (f:S*A+R*B=1)(w:x*A+y*WW=1)(t:l *k=1)(e:d *m=1):∃s r:PF,s*(WW*A)+r*(k*A - m*WW*WW*B)=1:=by
 have v:A*A=l *(A*(k*A - m*WW*WW*B)+m*WW*B*(WW*A)):=by
  have:l *(A*(k*A - m*WW*WW*B)+m*WW*B*(WW*A))=(l *k)*(A*A):=by grind
  rw[this,t];grind
 have h:WW*WW*WW*B=d *(k*(WW*A) - WW*(k*A - m*WW*WW*B)):=by
  have:d *(k*(WW*A) - WW*(k*A - m*WW*WW*B))=(d *m)*(WW*WW*WW*B):=by grind
  rw[this,e];grind
 have i:WW*WW*WW=S*WW*WW*(WW*A)+R*(WW*WW*WW*B):=by
  have:WW*WW*WW*(S*A+R*B)=WW*WW*WW:=by rw[f];grind
  grind
 have one:(1:PF)=(x*x*x*x*A*A+4*(x*x*x*y)*A*WW+6*(x*x*y*y)*WW*WW)*(A*A)+(4*(x*y*y*y)*A+y*y*y*y*WW)*(WW*WW*WW):=by
  have:(x*A+y*WW)*(x*A+y*WW)*((x*A+y*WW)*(x*A+y*WW))=1:=by rw[w];grind
  rw[<-this];grind
 generalize a:WW*A=U at *;generalize q:k*A - m*WW*WW*B=b at *;generalize (x*x*x*x*A*A+4*(x*x*x*y)*A*WW+6*(x*x*y*y)*WW*WW)=P at *;generalize (4*(x*y*y*y)*A+y*y*y*y*WW)=Q at *;refine⟨P*l *(m*WW*B)+Q*(S*WW*WW+R*d *k),P*l *A - Q*R*d *WW,?_⟩;rw[h] at i;rw[i,v] at one;rw[one];clear one i h v a q t e f w;grind
theorem ER{e:Rat}(h:e≠0):1 / e≠0:=fun z=>by
 have:1 / e*e=1:=by grind
 rw[z] at this;grind
theorem Bu (h:s*d+u*l=1)(t:x *A+B *i=1)(e:d*i=A*l)(n:d≠0):∃c:Rat,c≠0/\A=PF.const c*d/\i=PF.const c*l:=by
 have f:=Jv (k:=1) h (show A*l=1*(d*i) by rw[e];grind);have w:=Jv (k:=1) t (show d*i=1*(A*l) by rw[e];grind);generalize s*A+u*i*1=K at f;generalize x *d+B *l*1=J at w;have a:K*J=1:=by
  refine PF.wc n _ _ ?_;have:d*(K*J)=A*J:=by rw[f];grind
  rw[this,<-w];grind
 obtain⟨c,q,v⟩:=nk a;refine⟨c,q,by rw[f,v];grind,PF.wc n _ _ ?_⟩;rw[e,f,v];grind
noncomputable def ju(b:PF)(t:List PF):PF:=(b::t).getLast (by simp)
theorem PD (h:s*a+r*b=1):ic s*ic a+ic r*ic b=1:=by
 rw[<-qV,<-qV,<-VH,h,VI]
theorem VJ {b:PF}(h:(a*b).f x≠0):a.f x≠0:=(gW h).1
theorem PH {bG Q:PF}(e0:e≠0)(f:P≠0)(d:D*A=X*ic l*P)(B:A=PF.const e*P):D=PF.const (1 / e)*(X*ic l):=by
 refine PF.wc f _ _ ?_;have i:=sC e0;rw[B] at d;have:P*D=PF.const (1 / e)*(D*(PF.const e*P)):=by
  have:PF.const (1 / e)*(D*(PF.const e*P))=PF.const (1 / e)*PF.const e*(P*D):=by grind
  rw[this,i];grind
 rw[this,d];grind
theorem level0 (hG:Gr p i h)(hF:Gr F l a)(X0:X≠0)(hν:0<ν)(E:p=X*ic F)(j:i=X*(PF.const (-ν)*WW*ic l))(f0:F.f 0≠0):
  (∃c:Rat,c≠0/\ju i h=PF.const c*(X*ic (ju l a)))/\∀M:Rat,0<M->p.f M≠0->p.f (-M)≠0->(Vc (p::i::h) (-M):Int) - Vc (p::i::h) M=2*((Vc (F::l::a) (-(M*M)):Int) - Vc (F::l::a) 0):=by
 obtain⟨D,b,d,uG,D0,eD,G,k,s,C⟩:=hG.red;obtain⟨A,B,o,uF,aa,P,I,v,r,g⟩:=hF.red;obtain⟨S,R,bz⟩:=I.RQ;obtain⟨S',R',z⟩:=G.RQ;rw[v] at f0;obtain⟨L,H⟩:=gW f0;obtain⟨x,y,bw⟩:=WA H;have νi:=sC (c:= -ν) (by grind);obtain⟨s2,r2,J⟩:=aaq (PD bz) bw (PF.const (-ν)) νi;have K:ic B≠0:=xP H;have T:ic A≠0:=xP L;have g1:D*b=X*ic A*ic B:=by rw[<-k,E,v,qV];grind
 have g2:D*d=X*ic A*(PF.const (-ν)*WW*ic o):=by rw[<-s,j,r,qV];grind
 have prop:ic B*d=b*(PF.const (-ν)*WW*ic o):=by
  refine PF.wc (PF.gI X0 T) _ _ ?_;have:X*ic A*(ic B*d)=X*ic A*ic B*d:=by grind
  rw[this,<-g1];have:D*b*d=b*(D*d):=by grind
  rw[this,g2];grind
 obtain⟨e,n,m,hb⟩:=Bu J z prop K;have eL:D=PF.const (1 / e)*(X*ic A):=PH (bG:=d) (Q:=d) n K g1 m;refine⟨⟨1 / e,ER n,?_⟩,fun M hM u N=> ?_⟩
 ·have O:ju i h=D:=eD.symm;have l2:ju l a=A:=P.symm;rw[O,l2];exact eL
 ·have FM:F.f (-(M*M))≠0:=by
   rw[E] at u;exact(gW u).2
  rw[v] at FM;obtain⟨DM,W⟩:=gW FM;rw[mh k s C (VJ (by rw[<-k];exact N)),mh k s C (VJ (by rw[<-k];exact u)),mh v r g DM,mh v r g L];exact Zo G I n hν (fun w=>congrArg (fun q:PF=>q.f w) m) (fun w=>by
   have:=congrArg (fun q:PF=>q.f w) hb;have t:d.f w=e*(-ν*w*o.f (-(w*w))):=this;rw[t];grind) H hM W
theorem XN (hG:Gr p k a)(hF:Gr F i b)(X0:X≠0)(hα:0<α)(hβ:0<β)(K:p=X*(WW*ic F))(j:k=X*(PF.const α*ic F - PF.const β*WW*WW*ic i))(f0:F.f 0≠0):
  (∃c:Rat,c≠0/\ju k a=PF.const c*(X*ic (ju i b)))/\∀M:Rat,0<M->p.f M≠0->p.f (-M)≠0->(Vc (p::k::a) (-M):Int) - Vc (p::k::a) M=1+2*((Vc (F::i::b) (-(M*M)):Int) - Vc (F::i::b) 0):=by
 obtain⟨D,v,A,uG,D0,eD,G,h,s,C⟩:=hG.red;obtain⟨l,d,o,uF,aa,P,I,B,r,g⟩:=hF.red;obtain⟨S,R,bz⟩:=I.RQ;obtain⟨S',R',z⟩:=G.RQ;rw[B] at f0;obtain⟨L,H⟩:=gW f0;obtain⟨x,y,bw⟩:=WA H;have αi:=sC (c:=α) (by grind);have βi:=sC (c:=β) (by grind);obtain⟨s2,r2,T⟩:=aar (PD bz) bw αi βi;have N0:ic d≠0:=xP H;have J:WW≠0:=fun e=>by
  have:WW.f 1=0:=by rw[e];rfl
  exact absurd this (by show(1:Rat)≠0;decide)
 have E:WW*ic d≠0:=PF.gI J N0;have O:ic l≠0:=xP L;have g1:D*v=X*ic l*(WW*ic d):=by rw[<-h,K,B,qV];grind
 have g2:D*A=X*ic l*(PF.const α*ic d - PF.const β*WW*WW*ic o):=by rw[<-s,j,B,r,qV,qV];grind
 have prop:WW*ic d*A=v*(PF.const α*ic d - PF.const β*WW*WW*ic o):=by
  refine PF.wc (PF.gI X0 O) _ _ ?_;have:X*ic l*(WW*ic d*A)=X*ic l*(WW*ic d)*A:=by grind
  rw[this,<-g1];have:D*v*A=v*(D*A):=by grind
  rw[this,g2];grind
 obtain⟨e,n,m,hb⟩:=Bu T z prop E;have eL:D=PF.const (1 / e)*(X*ic l):=PH (bG:=A) (Q:=A) n E g1 m;refine⟨⟨1 / e,ER n,?_⟩,fun M hM u N=> ?_⟩
 ·have l1:ju k a=D:=eD.symm;have l2:ju i b=l:=P.symm;rw[l1,l2];exact eL
 ·have FM:F.f (-(M*M))≠0:=by
   rw[K] at u;exact(gW (gW u).2).2
  rw[B] at FM;obtain⟨DM,W⟩:=gW FM;rw[mh h s C (VJ (by rw[<-h];exact N)),mh h s C (VJ (by rw[<-h];exact u)),mh B r g DM,mh B r g L];exact Zp G I n hα hβ (fun w=>by
   have t:v.f w=e*(w*d.f (-(w*w))):=congrArg (fun q:PF=>q.f w) m;rw[t];grind) (fun w=>by
   have t:A.f w=e*(α*d.f (-(w*w)) - β*w*w*o.f (-(w*w))):=congrArg (fun q:PF=>q.f w) hb;rw[t];grind) H hM W
theorem XO (u:Gr p d A)(R:X≠0)(n:0<α)(w:f0≠0)(v:p=X*(WW*PF.const f0))(i:d=X*(PF.const α*PF.const f0)):
  (∃c:Rat,c≠0/\ju d A=PF.const c*X)/\∀M:Rat,0<M->p.f M≠0->p.f (-M)≠0->(Vc (p::d::A) (-M):Int) - Vc (p::d::A) M=1:=by
 have αi:=sC (c:=α) (by grind);have J:=sC w;have h:WW≠0:=fun e=>by
  have:WW.f 1=0:=by rw[e];rfl
  exact absurd this (by show(1:Rat)≠0;decide)
 refine⟨?_,fun M N H r=> ?_⟩
 ·obtain⟨D,B,k,g,F,I,C,a,G,K⟩:=u.red;obtain⟨W,E,b⟩:=C.RQ;have S:0*WW+PF.const (1 / α)*PF.const α=1:=by rw[αi];grind
  have prop:WW*k=B*PF.const α:=by
   refine PF.wc F _ _ ?_;have j:D*(WW*k)=WW*(D*k):=by grind
   have Q:D*(B*PF.const α)=D*B*PF.const α:=by grind
   rw[j,Q,<-a,<-G,v,i];grind
  obtain⟨e,t,P,T⟩:=Bu S b prop h;refine⟨1 / e*f0,fq (ER t) w,?_⟩;have z:ju d A=D:=I.symm;rw[z];have ei:=sC t;refine PF.wc h _ _ ?_;have q:D*(PF.const e*WW)=X*(WW*PF.const f0):=by rw[<-P,<-a,v]
  have:WW*D=PF.const (1 / e)*(D*(PF.const e*WW)):=by
   have:PF.const (1 / e)*(D*(PF.const e*WW))=PF.const (1 / e)*PF.const e*(WW*D):=by grind
   rw[this,ei];grind
  rw[this,q,gA];grind
 ·have o:Gr WW (PF.const α) []:= .last (WW*PF.const (1 / α)) 1 (by grind) (iY (by grind)) (by
   rw[show PF.const 1=(1:PF) from fN];have:WW*PF.const (1 / α)*PF.const α=WW*(PF.const (1 / α)*PF.const α):=by grind
   rw[this,αi];grind)
  have:=Tw u o (l:=1) (m:=1) (σ:=1) (by grind) (by grind) (.inl rfl) (by
   rw[show(1:Rat)*1=1 by grind,v,i];grind) (x:= -M) (y:=M) (by grind) r H (by show -M≠0;grind) (by show M≠0;grind)
  rw[kQ (show(0:Rat)<1 by grind)] at this;rw[this];have L:Vc [WW,PF.const α] (-M)=1:=by
   show changes [-M,α]=1;rw[xO (by grind) (by grind),nh (by grind),kQ n,oW (by grind)];rfl
  have s:Vc [WW,PF.const α] M=0:=by
   show changes [M,α]=0;rw[xO (by grind) (by grind),kQ N,kQ n,oW (by grind)];rfl
  rw[L,s];rfl
theorem VL (h:rF l)(x):dv l x=0:=by
 induction l with
 |nil=>rfl
 |cons c l f=>
  have A:rF l:=fun d i=>h d (ao _ i);show valueAt l x+x*dv l x=0;rw[f A,A.ev];grind
theorem Jy {l m:List Rat}(h:∀x,valueAt l x=valueAt m x)(x):dv l x=dv m x:=by
 have z:rF (addPoly l (scalePoly (-1) m)):=pJ fun x=>by rw[kN,fV,h];grind
 have:=VL z x;rw[Ju,vF] at this;grind
theorem Nj:∀(l:List Rat) (n:Nat) (x:Rat),valueAt ((List.range l.length).map fun i=>((i+n:Nat):Rat)*l.getD i 0) x=(n:Rat)*valueAt l x+x*dv l x
 |[],n,x=>by
  show(0:Rat)=_* 0+x*0;grind
 |c::l,n,x=>by
  rw[ak,List.range_succ_eq_map,aK,aN,dZ,dZ];have e:((fun i=>((i+n:Nat):Rat)*(c::l).getD i 0) ∘ Nat.succ)=fun i=>((i+(n+1):Nat):Rat)*l.getD i 0:=by
   funext i;show((i+1+n:Nat):Rat)*l.getD i 0=_;rw[show i+1+n=i+(n+1) by lia]
  rw[e,Nj l (n+1) x];show((0+n:Nat):Rat)*c+x*(((n+1:Nat):Rat)*valueAt l x+x*dv l x)=(n:Rat)*(c+x*valueAt l x)+x*(valueAt l x+x*dv l x);rw[Nat.zero_add];have:((n+1:Nat):Rat)=(n:Rat)+1:=by grind
  rw[this];grind
theorem oq:∀(p:List Rat) (x:Rat),valueAt (slopePoly p) x=dv p x
 |[],x=>rfl
 |c::l,x=>by
  have:=Nj l 1 x;unfold slopePoly;rw[ak,Nat.add_sub_cancel];show _=valueAt l x+x*dv l x;have e:((List.range l.length).map fun i=>((i+1:Nat):Rat)*(c::l).getD (i+1) 0)=(List.range l.length).map fun i=>((i+1:Nat):Rat)*l.getD i 0:=rfl;rw[e,this];have:((1:Nat):Rat)=1:=rfl;rw[this];grind
noncomputable def mN(p:dQ):dQ:=((List.range p.length).map fun i:Nat=>(i:Int)*p.getD i 0).drop 1
theorem TC (p)(x):valueAt (rl (mN p)) x=dv (rl p) x:=by
 cases p with
 |nil=>rfl
 |cons c l=>
  have e:mN (c::l)=(List.range l.length).map fun i:Nat=>((i+1:Nat):Int)*l.getD i 0:=by
   unfold mN;rw[ak,List.range_succ_eq_map,aK,List.drop_one,List.tail_cons,aN];rfl
  have A:rl (mN (c::l))=(List.range (rl l).length).map fun i=>((i+1:Nat):Rat)*(rl l).getD i 0:=by
   rw[e];unfold rl;rw[aN,lMp];refine aT fun i d=> ?_;have d:=aY.mp d;show((((i+1:Nat):Int)*l.getD i 0:Int):Rat)=_;rw[Rat.intCast_mul,bO,gDe,gDe,aD,af d];rfl
  rw[A,Nj (rl l) 1 x];show _=valueAt (rl l) x+x*dv (rl l) x;have:((1:Nat):Rat)=1:=rfl;rw[this];grind
theorem zJ{p:dQ}(t:Trim p):Trim (mN p):=by
 rw[fQ] at t⊢;intro h;cases p with
 |nil=>exact absurd rfl h
 |cons c l=>
  have e:mN (c::l)=(List.range l.length).map fun i:Nat=>((i+1:Nat):Int)*l.getD i 0:=by
   unfold mN;rw[ak,List.range_succ_eq_map,aK,List.drop_one,List.tail_cons,aN];rfl
  have t:=t (by simp);rw[e] at h⊢;have A:0<l.length:=by
   cases l with
   |nil=>exact absurd rfl h
   |cons a l=>simp
  unfold lc at t⊢;rw[lMp,a5,gDe,aD,bB (by lia)];show((l.length - 1+1:Nat):Int)*l.getD (l.length - 1) 0≠0;have d:l.getD (l.length - 1) 0≠0:=by
   have:(c::l).length - 1=(l.length - 1)+1:=by rw[ak];lia
   rw[this] at t;exact t
  exact Int.mul_ne_zero (by lia) d
theorem DC (p):(mN p).length=p.length - 1:=by
 unfold mN;rw[bJ,lMp,a5]
theorem Nk:∀(l:List Rat) (w:Rat),dv (Lo l) w= -2*w*dv l (-(w*w))
 |[],w=>by
  show(0:Rat)=_* 0;grind
 |c::l,w=>by
  unfold Lo;rw[Ju,Ni,Nk l w,Bt];show(0+w*0)+((0+w*(-1+w*0)+w*(-1+w*0+w*(0+w*0)))*_+ (0+w*(0+w*(-1+w*0)))*_)= -2*w*(valueAt l (-(w*w))+ -(w*w)*dv l (-(w*w)));grind
def wp:Nat->PF
 |0=>1
 |k+1=>WW*wp k
noncomputable def yQ(k:Nat)(m:List Rat):List Rat:=match k with
 |0=>m
 |k+1=>0::yQ k m
theorem Jz (m)(w):∀k,valueAt (yQ k m) w=(wp k).f w*valueAt m w
 |0=>by
  show _=((1:Nat):Rat)*_;have:((1:Nat):Rat)=1:=rfl;rw[this];show valueAt m w=_;grind
 |k+1=>by
  show 0+w*valueAt (yQ k m) w=w*(wp k).f w*_;rw[Jz m w k];grind
theorem TF (m)(w):∀k,dv (yQ (k+1) m) w=((k+1:Nat):Rat)*(wp k).f w*valueAt m w+(wp (k+1)).f w*dv m w
 |0=>by
  show valueAt m w+w*dv m w=((0+1:Nat):Rat)*((1:Nat):Rat)*_+ w*((1:Nat):Rat)*_;have:((1:Nat):Rat)=1:=rfl;rw[Nat.zero_add,this];grind
 |k+1=>by
  have e:dv (yQ (k+1+1) m) w=valueAt (yQ (k+1) m) w+w*dv (yQ (k+1) m) w:=rfl;rw[e,Jz,TF m w k];have A:(wp (k+1+1)).f w=w*(wp (k+1)).f w:=rfl;have d:(wp (k+1)).f w=w*(wp k).f w:=rfl;have l:((k+1+1:Nat):Rat)=((k+1:Nat):Rat)+1:=by grind
  rw[A,d,l];grind
theorem WB:WW≠0:=fun e=>by
 have:WW.f 1=0:=by rw[e];rfl
 exact absurd this (by show(1:Rat)≠0;decide)
theorem ES:∀k,wp k≠0
 |0=>fun e=>by
  have:(1:PF).f 0=(0:PF).f 0:=by
   have:wp 0=1:=rfl;rw[<-this,e]
  exact absurd this (by show((1:Nat):Rat)≠((0:Nat):Rat);decide)
 |k+1=>PF.gI WB (ES k)
theorem WC {p:dQ}(h:dO p=PF.const c*ic (dJ F)):dO (mN p)=PF.const c*(PF.const (-2)*WW*ic (dJ (slopePoly F))):=PF.ext fun w=>by
 have e:∀x,valueAt (rl p) x=valueAt (scalePoly c (Lo F)) x:=fun x=>by
  have:=congrArg (fun q:PF=>q.f x) h;rw[fV,Bt];exact this
 show valueAt (rl (mN p)) w=c*(-2*w*valueAt (slopePoly F) (-(w*w)));rw[TC,Jy e,vF,Nk,oq]
theorem WD {p:dQ}(h:dO p=PF.const c*(wp (k+1)*ic (dJ F))):dO (mN p)=PF.const c*wp k*(PF.const ((k+1:Nat):Rat)*ic (dJ F) - PF.const 2*WW*WW*ic (dJ (slopePoly F))):=PF.ext fun w=>by
 have e:∀x,valueAt (rl p) x=valueAt (scalePoly c (yQ (k+1) (Lo F))) x:=fun x=>by
  have:=congrArg (fun q:PF=>q.f x) h;rw[fV,Jz,Bt];exact this
 show valueAt (rl (mN p)) w=c*(wp k).f w*(((k+1:Nat):Rat)*valueAt F (-(w*w)) - 2*w*w*valueAt (slopePoly F) (-(w*w)));rw[TC,Jy e,vF,TF,Nk,Bt,oq];have d:(wp (k+1)).f w=w*(wp k).f w:=rfl;rw[d];grind
theorem WE {R:Rat->Rat->Prop}(d:∀x,R x x)(tr:∀x y z,R x y->R y z->R x z){a:PF}(B:a≠0)(w:0<e)(step:∀x y,bot<=x->x<y->y<=hi->a.f x≠0->a.f y≠0->y - x<=e->R x y):∀(n:Nat) (lo:Rat),bot<=lo->lo<=hi->hi - lo<=(n:Rat)*(e / 2)->a.f lo≠0->a.f hi≠0->R lo hi
 |0,lo,_,k,v,g1,A=>by
  have:lo=hi:=by
   have:((0:Nat):Rat)=0:=rfl;grind
  rw[this];exact d _
 |n+1,lo,i,k,v,g1,A=>by
  by_cases q:lo=hi
  ·rw[q];exact d _
  by_cases c:hi - lo<=e
  ·exact step lo hi i (by grind) (by grind) g1 A c
  ·obtain⟨z,h,t,l⟩:=Pw B (show lo+e / 2<lo+e by grind);refine tr lo z hi (step lo z i (by grind) (by grind) g1 l (by grind)) (WE d tr B w step n z (by grind) (by grind) ?_ l A);have:((n+1:Nat):Rat)=(n:Rat)+1:=by grind
   grind
theorem TH (j:Gr (dJ F) (dJ (slopePoly F)) t)(X:x<=0)(L:valueAt F x≠0)(f0:valueAt F 0≠0):Vc (dJ F::dJ (slopePoly F)::t) 0<=Vc (dJ F::dJ (slopePoly F)::t) x:=by
 obtain⟨D,a,b,O,T,_,S,d,A,r⟩:=j.red;have w:(0:Rat)<=-x:=by grind
 obtain⟨H,J,Q⟩:=Lm S w;have M:∀z,valueAt F z=D.f z*a.f z:=fun z=>congrArg (fun q:PF=>q.f z) d;obtain⟨c,W,m⟩:=dir S w (l:=F) M (μ:=1) (by grind) (fun z=>by
  have:valueAt (slopePoly F) z=D.f z*b.f z:=congrArg (fun q:PF=>q.f z) A;rw[<-this,oq];grind)
 have k:∀z,(dJ F).f z≠0->D.f z≠0/\a.f z≠0:=fun z h=>by
  rw[d] at h;exact gW h
 have I:dJ F≠0:=fun e=>f0 (by
  have:(dJ F).f 0=0:=by rw[e];rfl
  exact this)
 obtain⟨n,G⟩:=XJ (0 - x) (min H c / 2) (by grind);refine WE (R:=fun x y=>Vc (dJ F::dJ (slopePoly F)::t) y<=Vc (dJ F::dJ (slopePoly F)::t) x) (fun _=>aj _) (fun _ _ _ s i=>aB i s) I (e:=min H c) (hi:=0) (by grind) (bot:=x) (fun u v s i g E N G=> ?_) n x (by grind) X G L f0;obtain⟨o,B⟩:=k u E;obtain⟨K,P⟩:=k v N;rw[mh d A r o,mh d A r K];have p:In (-x) u:=⟨by grind,by grind⟩;have C:In (-x) v:=⟨by grind,by grind⟩;rcases(Q u v p C ⟨by grind,by grind⟩).2 B P with⟨_,h⟩ |⟨h,_,_,_,h5⟩
 ·rw[h];exact aj _
 ·have:=m u v p C i (by grind) o B P h;lia
theorem VM{p:dQ}(t:Trim p):trim (rl p)=rl p:=by
 by_cases h:p=[]
 ·rw[h];rfl
 have v:=iH (rl p);have e:dJ (trim (rl p))=dJ (rl p):=fw _;have B:(rl p).length=p.length:=lMp ..;have pl:0<p.length:=aq.mpr h;have d:=w8 (p:=trim (rl p)) (q:=rl p) (fun x=>congrArg (fun q:PF=>q.f x) e);have k:(rl p).length<=(trim (rl p)).length:=by
  refine bV fun z=> ?_;have:=d (p.length - 1);rw[gDe,aO (by lia)] at this;have q:=EO p;unfold lst at q;rw[B] at q;rw[q] at this;exact Be (fQ.mp t h) this.symm
 refine cg (by lia) fun i A l=> ?_;have:=d i;rw[gDe,gDe,af A,af l] at this;exact this
theorem Bv (h:dJ p=dJ q):(trim p).length=(trim q).length:=by
 refine Nat.le_antisymm (oe (by rw[h];exact Bh q)) (oe (by rw[<-h];exact Bh p))
theorem xQ (d:c≠0)(h:dJ p=PF.const c*dJ q):(trim p).length=(trim q).length:=by
 refine Nat.le_antisymm (oe (by rw[h];exact(Bh q).smul c)) (oe ?_);have:dJ q=PF.const (1 / c)*dJ p:=by
  rw[h];exact Gs (sC d)
 rw[this];exact(Bh p).smul _
theorem pU{F:List Rat}:trim (slopePoly F)=[]↔degree F=0:=by
 have i:trim (slopePoly F)=[]↔∀x,dv (trim F) x=0:=by
  rw[<-jV,fU];have d:∀x,dv (trim F) x=dv F x:=fun x=>Jy (fun y=>iG F y) x;constructor
  ·intro h x;rw[d,<-oq];exact congrArg (fun q:PF=>q.f x) h
  ·intro h;refine PF.ext fun x=> ?_;rw[sv,oq,<-d,h];rfl
 rw[i];unfold degree;constructor
 ·intro h;refine Nat.le_antisymm (bV fun z=> ?_) (aR _);have k:trim F≠[]:=fun q=>by rw[q] at z;simp at z
  have B:rF (slopePoly (trim F)):=pJ fun x=>by rw[oq,h]
  have A:=iI k;have:((((trim F).length - 2+1:Nat):Rat))*(trim F).getD ((trim F).length - 2+1) 0∈slopePoly (trim F):=by
   unfold slopePoly;exact aV.mpr ⟨(trim F).length - 2,aY.mpr (by lia),rfl⟩
  have q:=B _ this;rw[show(trim F).length - 2+1=(trim F).length - 1 by lia] at q;rcases bR.mp q with q |q
  ·have:(trim F).length - 1=0:=by exact_mod_cast q
   lia
  ·exact A q
 ·intro h x;match hm:trim F with
  |[]=>rfl
  |[c]=>
   show 0+x*0=(0:Rat);grind
  |a::b::l=>rw[hm] at h;simp at h
theorem HX{F:List Rat}(h:degree F≠0):(trim (slopePoly F)).length<(trim F).length:=by
 have e:dJ (slopePoly F)=dJ (slopePoly (trim F)):=PF.ext fun x=>by
  rw[sv,sv,oq,oq];exact(Jy (fun y=>iG F y) x).symm
 rw[Bv e];have A:=iH (slopePoly (trim F));have d:(slopePoly (trim F)).length=(trim F).length - 1:=by
  unfold slopePoly;rw[lMp,a5]
 unfold degree at h;lia
theorem Lp (h:Gr (dJ F) (dJ G) t):∃c:Rat,c≠0/\dJ (gcdPoly F G)=PF.const c*ju (dJ G) t:=by
 obtain⟨D,a,b,z,v,C,S,B,f,P⟩:=h.red;have n:ju (dJ G) t=D:=C.symm;rw[n];obtain⟨s,u,w⟩:=S.RQ;obtain⟨⟨p,q,e⟩,⟨A,x⟩,⟨d,y⟩⟩:=El F G;have l:dJ (gcdPoly F G)=D*(p*a+q*b):=by rw[e,B,f];grind
 have i:D=dJ (gcdPoly F G)*(s*A+u*d):=by
  have:D=s*(D*a)+u*(D*b):=by
   have:s*(D*a)+u*(D*b)=D*(s*a+u*b):=by grind
   rw[this,w];grind
  rw[<-B,<-f,x,y] at this;have r:s*(A*dJ (gcdPoly F G))+u*(d*dJ (gcdPoly F G))=dJ (gcdPoly F G)*(s*A+u*d):=by grind
  rw[r] at this;exact this
 generalize p*a+q*b=K at l;generalize s*A+u*d=J at i;have k:K*J=1:=by
  refine PF.wc v _ _ ?_;have:D*(K*J)=dJ (gcdPoly F G)*J:=by rw[l];grind
  rw[this,<-i];grind
 obtain⟨c,o,H⟩:=nk k;exact⟨c,o,by rw[l,H];grind⟩
theorem km (h:l≠[])(A:lst l≠0):trim l=l:=by
 have w:=iH l;have e:dJ (trim l)=dJ l:=fw _;have pl:0<l.length:=aq.mpr h;have d:=w8 (p:=trim l) (q:=l) (fun x=>congrArg (fun q:PF=>q.f x) e);have v:l.length<=(trim l).length:=by
  refine bV fun z=> ?_;have:=d (l.length - 1);rw[gDe,aO (by lia)] at this;exact A this.symm
 refine cg (by lia) fun i B k=> ?_;have:=d i;rw[gDe,gDe,af B,af k] at this;exact this
theorem pw (h:l≠[])(A:lst l≠0):atMinus l=lB (-1) l/\lead l=lB 1 l:=by
 have e:=km h A;have d:lead l=lst l:=by rw[Dr,e];rfl
 refine⟨?_,by rw[EM,d]⟩;unfold atMinus degree lB;rw[e,d];by_cases q:(l.length - 1) % 2=1
 ·rw[ai q,ai ⟨by grind,q⟩]
 ·rw[ah q,ah (fun z=>q z.2)]
theorem TJ{L:List (List Rat)}(h:∀l∈L,l≠[]/\lst l≠0):∃N:Rat,1<=N/\∀x,N<=x->changes (L.map atMinus)=Vc (L.map dJ) (-x)/\changes (L.map lead)=Vc (L.map dJ) x:=by
 obtain⟨N,B,i⟩:=Jw (.inl rfl) L h;obtain⟨K,f,A⟩:=Jw (.inr rfl) L h;refine⟨max N K,by grind,fun x k=>⟨?_,?_⟩⟩
 ·have:=A x (by grind);rw[show(-1:Rat)*x= -x by grind] at this;rw[this];congr 1;exact aT fun l d=>(pw (h l d).1 (h l d).2).1
 ·have:=i x (by grind);rw[show(1:Rat)*x=x by grind] at this;rw[this];congr 1;exact aT fun l d=>(pw (h l d).1 (h l d).2).2
theorem Cz{F:List Rat}(A:degree F≠0)(f0:valueAt F 0≠0):∃t:List (List Rat),Gr (dJ F) (dJ (slopePoly F)) (t.map dJ)/\(∀l∈t,l≠[]/\lst l≠0)/\t.length+((trim (slopePoly F)::t).getLast (by simp)).length<=(trim (slopePoly F)).length/\∃N:Rat,1<=N/\∀x,N<=x->(distinctBelow F:Int)=(Vc (dJ F::dJ (slopePoly F)::t.map dJ) (-x):Int) - Vc (dJ F::dJ (slopePoly F)::t.map dJ) 0:=by
 have k:trim (slopePoly F)≠[]:=fun z=>A (pU.mp z);have i:trim F≠[]:=fun z=>by
  unfold degree at A;rw[z] at A;exact A rfl
 obtain⟨t,e,w,f,B⟩:=Tx F k;have b:∀l∈trim F::trim (slopePoly F)::t,l≠[]/\lst l≠0:=fun l d=>by
  rcases aL.mp d with rfl |d
  ·exact⟨i,iI i⟩
  ·rcases aL.mp d with rfl |d
   ·exact⟨k,iI k⟩
   ·exact f l d
 have v:(trim F::trim (slopePoly F)::t).map dJ=dJ F::dJ (slopePoly F)::t.map dJ:=by
  rw[aK,aK,fw,fw]
 obtain⟨N,s,h⟩:=TJ b;rw[v] at h;obtain⟨K,r,a⟩:=Yn (σ:= -1) (.inr rfl) i (iI i);refine⟨t,w,f,B,max N K,by grind,fun x p=> ?_⟩;have n:changes ((chain F (slopePoly F)).map fun q:Poly=>valueAt q 0)=Vc (dJ F::dJ (slopePoly F)::t.map dJ) 0:=by
  rw[e,<-v];unfold Vc;rw[aN];rfl
 unfold distinctBelow;rw[n,e,(h x (by grind)).1];have u:valueAt F (-x)≠0:=by
  have:=(a x (by grind)).1;rw[iG,show(-1:Rat)*x= -x by grind] at this;exact this
 have:=TH w (x:= -x) (by grind) u f0;lia
def Gv:Nat->dQ->Int
 |0,_=>0
 |f+1,p=>if p.length<=1 then 0 else jmp (d6 p (mN p))+Gv f ((d6 p (mN p)).getLastD [])
theorem TK{p:dQ}(t:Trim p)(h:p≠[]):∃N:Rat,1<=N/\∀x,N<=x->(dO p).f x≠0/\(dO p).f (-x)≠0:=by
 have A:rl p≠[]:=fun e=>h (List.map_eq_nil_iff.mp e);have d:lst (rl p)≠0:=by rw[EO];exact Be (fQ.mp t h)
 obtain⟨N,k,i⟩:=Yn (σ:=1) (.inl rfl) A d;obtain⟨K,B,l⟩:=Yn (σ:= -1) (.inr rfl) A d;refine⟨max N K,by grind,fun x v=>⟨?_,?_⟩⟩
 ·have:=(i x (by grind)).1;rw[show(1:Rat)*x=x by grind] at this;exact this
 ·have:=(l x (by grind)).1;rw[show(-1:Rat)*x= -x by grind] at this;exact this
theorem ET {b:dQ}:ju (dO b) (t.map dO)=dO ((b::t).getLast (by simp)):=by
 unfold ju;have:dO b::t.map dO=(b::t).map dO:=rfl;simp only[this,List.getLast_map]
theorem Bw:ju (dJ b) (t.map dJ)=dJ ((b::t).getLast (by simp)):=by
 unfold ju;have:dJ b::t.map dJ=(b::t).map dJ:=rfl;simp only[this,List.getLast_map]
theorem rH {t:List dQ}:(a::b::t).getLastD []=(b::t).getLast (by simp):=by
 rw[List.getLastD_eq_getLast?,List.getLast?_eq_some_getLast (by simp)];simp
theorem zK{b:dQ}{t:List dQ}(A:Trim b)(d:b≠[])(h:∀l∈t,Trim l/\l≠[]):Trim ((b::t).getLast (by simp))/\(b::t).getLast (by simp)≠[]:=by
 have:=List.getLast_mem (l:=b::t) (by simp);rcases aL.mp this with e |m
 ·rw[e];exact⟨A,d⟩
 ·exact h _ m
theorem TM (h:ic A=0):A=0:=by
 refine bt fun w=> ?_;obtain⟨l,i⟩:=A.h;have d:trim l≠[]:=fun e=>w (PF.ext fun x=>by rw[i,<-iG,e];rfl);obtain⟨N,t,v⟩:=Yn (σ:= -1) (.inr rfl) d (iI d);have B:=(v (N*N) (by have:=Rat.mul_nonneg (show 0<=N by grind) (show 0<=N - 1 by grind);grind)).1;have k:A.f (-(N*N))=0:=congrArg (fun q:PF=>q.f N) h;rw[iG,<-i,show -1*(N*N)= -(N*N) by grind] at B;exact B k
theorem JA {p:dQ}(A:Trim p)(v:p≠[])(s:p.length<=n+1)(i:mN p≠[]):∃(t:List PF) (L:dQ) (J:Int),Gr (dO p) (dO (mN p)) t/\Trim L/\L≠[]/\L.length<=n/\dO L=ju (dO (mN p)) t/\Gv (n+1) p=J+Gv n L/\∃N:Rat,1<=N/\∀x,N<=x->J=(Vc (dO p::dO (mN p)::t) (-x):Int) - Vc (dO p::dO (mN p)::t) x/\(dO p).f x≠0/\(dO p).f (-x)≠0:=by
 have k:=zJ A;have o:=DC p;have S:0<(mN p).length:=aq.mpr i;obtain⟨t,q,e,B,w⟩:=nj i A k;obtain⟨a,b⟩:=zK k i B;have all:∀l∈p::mN p::t,Trim l/\l≠[]:=fun l d=>by
  rcases aL.mp d with rfl |d
  ·exact⟨A,v⟩
  ·rcases aL.mp d with rfl |d
   ·exact⟨k,i⟩
   ·exact B l d
 obtain⟨N,r,u⟩:=PB all;obtain⟨K,H,h⟩:=TK A v;refine⟨t.map dO,_,jmp (p::mN p::t),e,a,b,by lia,ET.symm,?_,max N K,by grind,fun x C=>⟨u x (by grind),h x (by grind)⟩⟩;show(if p.length<=1 then 0 else jmp (d6 p (mN p))+Gv n ((d6 p (mN p)).getLastD []))=_;rw[ah (by lia),q,rH]
theorem XQ{F:List Rat}(h:degree F=0):dJ F=PF.const (valueAt F 0):=by
 have e:∀x,valueAt F x=valueAt (trim F) x:=fun x=>(iG F x).symm;refine PF.ext fun x=> ?_;show valueAt F x=valueAt F 0;rw[e,e];unfold degree at h;match hm:trim F with
 |[]=>rfl
 |[c]=>
  rw[dZ,dZ,jg,jg];grind
 |a::b::l=>rw[hm] at h;simp at h
theorem DD (c):ic (PF.const c)=PF.const c:=PF.ext fun _=>rfl
theorem PJ{p:dQ}(t:Trim p)(h:dO p=0):p=[]:=(iE t).mp h
theorem TN:∀(n:Nat) (p:dQ) (k:Nat) (F:List Rat) (c:Rat) (m:Nat),p.length<=n->Trim p->p≠[]->c≠0->valueAt F 0≠0->dO p=PF.const c*(wp k*ic (dJ F))->(trim F).length<=m->Gv n p=(k:Int)+2*(belowOn m F:Int)
 |0,p,_,_,_,_,O,_,D,_,_,_,_=>by
  have:0<p.length:=aq.mpr D;lia
 |n+1,p,k,F,c,m,O,tp,D,c0,f0,e,hm=>by
  have tF:trim F≠[]:=fun z=>f0 (by rw[<-iG,z];rfl);have pF:0<(trim F).length:=aq.mpr tF;obtain⟨B,rfl⟩:∃B,m=B +1:=⟨m - 1,by lia⟩;have eb:belowOn (B +1) F=if degree F=0 then 0 else distinctBelow F+belowOn B (gcdPoly F (slopePoly F)):=rfl;have td:=zJ tp;have T:=iY c0;have g0:(dJ F).f 0≠0:=f0;by_cases z:degree F=0
  ·rw[eb,ai z];have nF:=XQ z;cases k with
   |zero=>
    have e':dO p=PF.const c*ic (dJ F):=by
     rw[e];have:wp 0=1:=rfl;rw[this];grind
    have d:=WC e';have s0:dJ (slopePoly F)=0:=(fU _).mp (gB.mpr (pU.mpr z));have n0:ic (0:PF)=0:=PF.ext fun _=>rfl;rw[s0,n0] at d;have:mN p=[]:=PJ td (by rw[d];grind);have ln:=DC p;rw[this] at ln;have ln:0=p.length - 1:=ln;show(if p.length<=1 then 0 else _)=_;rw[ai (by lia)];rfl
   |succ j=>
    have d:=WD e;have s0:dJ (slopePoly F)=0:=(fU _).mp (gB.mpr (pU.mpr z));have n0:ic (0:PF)=0:=PF.ext fun _=>rfl;rw[s0,n0,nF,DD] at d;have d':dO (mN p)=PF.const c*wp j*(PF.const ((j+1:Nat):Rat)*PF.const (valueAt F 0)):=by rw[d];grind
    have Q:PF.const c*wp j≠0:=PF.gI T (ES j);have α0:(0:Rat)<((j+1:Nat):Rat):=by exact_mod_cast Nat.succ_pos j
    have G:mN p≠[]:=fun q=>by
     rw[q] at d';have:=PF.gI Q (PF.gI (iY (c:=((j+1:Nat):Rat)) (by grind)) (iY f0));exact this (by rw[<-d'];rfl)
    obtain⟨t,L,J,o,v,b,a,E,W,N,R,P⟩:=JA tp D O G;have ep:dO p=PF.const c*wp j*(WW*PF.const (valueAt F 0)):=by
     rw[e,nF,DD];have:wp (j+1)=WW*wp j:=rfl;rw[this];grind
    obtain⟨⟨A,l,x⟩,I⟩:=XO o Q α0 f0 ep d';obtain⟨i,S,C⟩:=P N (by grind);rw[I N (by grind) S C] at i;have s:=TN n L j F (A *c*(1 / valueAt F 0)) (B +1) a v b (fq (fq l c0) (ER f0)) f0 (by
     rw[E,x,nF,DD,gA,gA];have:=sC f0;have r:PF.const A *PF.const c*PF.const (1 / valueAt F 0)*(wp j*PF.const (valueAt F 0))=PF.const A *PF.const c*wp j*(PF.const (1 / valueAt F 0)*PF.const (valueAt F 0)):=by grind
     rw[r,this];grind) hm
    rw[eb,ai z] at s;rw[W,i,s];lia
  ·rw[eb,ah z];obtain⟨u,X,ab,ac,K,k1,hK⟩:=Cz z f0;obtain⟨g,H,eg⟩:=Lp X;have aa:dJ (gcdPoly F (slopePoly F))≠0/\(dJ (gcdPoly F (slopePoly F))).f 0≠0:=by
    obtain⟨_,⟨p1,e2⟩,_⟩:=El F (slopePoly F);have:(p1*dJ (gcdPoly F (slopePoly F))).f 0≠0:=by rw[<-e2];exact g0
    have h2:=(gW this).2;exact⟨fun q=>h2 (by rw[q];rfl),h2⟩
   have sl:=HX z;have lg:(trim (gcdPoly F (slopePoly F))).length<=B:=by
    have hs:trim (slopePoly F)≠[]:=fun q=>z (pU.mp q);have e1:ju (dJ (slopePoly F)) (u.map dJ)=dJ ((trim (slopePoly F)::u).getLast (by simp)):=by
     rw[<-Bw,fw]
    rw[e1] at eg;rw[xQ H eg];have:=iH ((trim (slopePoly F)::u).getLast (by simp));lia
   have next:∀(j:Nat) (L:dQ) (A:Rat),A≠0->dO L=PF.const A *(PF.const c*wp j*ic (ju (dJ (slopePoly F)) (u.map dJ)))->L.length<=n->Trim L->L≠[]->Gv n L=(j:Int)+2*(belowOn B (gcdPoly F (slopePoly F)):Int):=fun j L A l x a v b=>
    TN n L j (gcdPoly F (slopePoly F)) (A *c*(1 / g)) B a v b (fq (fq l c0) (ER H)) aa.2 (by
     rw[x,eg,qV,DD,gA,gA];have:=sC H;have r:PF.const A *PF.const c*PF.const (1 / g)*(wp j*(PF.const g*ic (ju (dJ (slopePoly F)) (u.map dJ))))=PF.const A *PF.const c*wp j*(PF.const (1 / g)*PF.const g)*ic (ju (dJ (slopePoly F)) (u.map dJ)):=by grind
     rw[r,this];grind) lg
   have y:∀N:Rat,1<=N->∃M:Rat,N<=M/\K<=M*M/\0<M:=fun N h=>by
    refine⟨max N K,by grind,?_,by grind⟩;have h1:K<=max N K:=by grind
    have h2:1<=max N K:=by grind
    generalize max N K=M at *;have:=Rat.mul_nonneg (show 0<=M by grind) (show 0<=M - 1 by grind);grind
   cases k with
   |zero=>
    have e':dO p=PF.const c*ic (dJ F):=by
     rw[e];have:wp 0=1:=rfl;rw[this];grind
    have d:=WC e';have G:mN p≠[]:=fun q=>by
     rw[q] at d;have s1:dJ (slopePoly F)=0:=by
      have:ic (dJ (slopePoly F))=0:=by
       refine bt fun w=> ?_;exact PF.gI T (PF.gI (PF.gI (iY (c:= -2) (by grind)) WB) w) (by rw[<-d];rfl)
      exact TM this
     exact z (pU.mp (gB.mp ((fU _).mpr s1)))
    obtain⟨t,L,J,o,v,b,a,E,W,N,R,P⟩:=JA tp D O G;obtain⟨⟨A,l,x⟩,I⟩:=level0 o X T (ν:=2) (by grind) e' d g0;obtain⟨M,m1,m2,m3⟩:=y N R;obtain⟨i,S,C⟩:=P M m1;rw[I M m3 S C,<-hK (M*M) m2] at i;have s:=next 0 L A l (by
     rw[E,x];have:wp 0=1:=rfl;rw[this];grind) a v b
    rw[W,i,s];lia
   |succ j=>
    have d:=WD e;have Q:PF.const c*wp j≠0:=PF.gI T (ES j);have α0:(0:Rat)<((j+1:Nat):Rat):=by exact_mod_cast Nat.succ_pos j
    have G:mN p≠[]:=fun q=>by
     rw[q] at d;have:PF.const ((j+1:Nat):Rat)*ic (dJ F) - PF.const 2*WW*WW*ic (dJ (slopePoly F))≠0:=fun w=>by
      have:=congrArg (fun q:PF=>q.f 0) w;have t:((j+1:Nat):Rat)*valueAt F (-(0*0)) - 2*0*0*valueAt (slopePoly F) (-(0*0))=((0:Nat):Rat):=this;rw[show -((0:Rat)*0)=0 by grind] at t;have t0:((0:Nat):Rat)=0:=rfl;rw[t0] at t;exact fq (show((j+1:Nat):Rat)≠0 by grind) f0 (by grind)
     exact PF.gI Q this (by rw[<-d];rfl)
    obtain⟨t,L,J,o,v,b,a,E,W,N,R,P⟩:=JA tp D O G;have ep:dO p=PF.const c*wp j*(WW*ic (dJ F)):=by
     rw[e];have:wp (j+1)=WW*wp j:=rfl;rw[this];grind
    obtain⟨⟨A,l,x⟩,I⟩:=XN o X Q α0 (β:=2) (by grind) ep d g0;obtain⟨M,m1,m2,m3⟩:=y N R;obtain⟨i,S,C⟩:=P M m1;rw[I M m3 S C,<-hK (M*M) m2] at i;have s:=next j L A l (by rw[E,x]) a v b
    rw[W,i,s];lia
mutual
def ev:List Rat->Rat->Rat
 |[],_=>0
 |c::l,w=>c - w*od l w
def od:List Rat->Rat->Rat
 |[],_=>0
 |_::l,w=>w*ev l w
end
theorem tI (w):ev [] w=0:=by unfold ev;rfl
theorem rJ (w):od [] w=0:=by unfold od;rfl
theorem iJ (c)(l)(w):ev (c::l) w=c - w*od l w:=by rw[ev]
theorem iK (c)(l)(w):od (c::l) w=w*ev l w:=by rw[od]
theorem xR:∀(p q:List Rat) (w:Rat),ev (addPoly p q) w=ev p w+ev q w/\od (addPoly p q) w=od p w+od q w
 |[],q,w=>by
  show ev q w=_/\od q w=_;rw[tI,rJ];constructor <;>grind
 |a::p,[],w=>by
  show ev (a::p) w=_/\od (a::p) w=_;rw[tI,rJ];constructor <;>grind
 |a::p,b::q,w=>by
  obtain⟨A,d⟩:=xR p q w;show ev ((a+b)::addPoly p q) w=_/\od ((a+b)::addPoly p q) w=_;rw[iJ,iK,A,d,iJ,iJ,iK,iK];constructor <;>grind
theorem ot (k):∀(p:List Rat) (w:Rat),ev (scalePoly k p) w=k*ev p w/\od (scalePoly k p) w=k*od p w
 |[],w=>by
  show ev [] w=_/\od [] w=_;rw[tI,rJ];constructor <;>grind
 |a::p,w=>by
  obtain⟨A,d⟩:=ot k p w;show ev (k*a::scalePoly k p) w=_/\od (k*a::scalePoly k p) w=_;rw[iJ,iK,A,d,iJ,iK];constructor <;>grind
theorem Nl:∀(p q:List Rat) (w:Rat),ev (mulPoly p q) w=ev p w*ev q w - od p w*od q w/\od (mulPoly p q) w=ev p w*od q w+od p w*ev q w
 |[],q,w=>by
  show ev [] w=_/\od [] w=_;rw[tI,rJ];constructor <;>grind
 |a::p,q,w=>by
  obtain⟨A,d⟩:=Nl p q w;obtain⟨l,i⟩:=ot a q w;show ev (addPoly (scalePoly a q) (0::mulPoly p q)) w=_/\od (addPoly (scalePoly a q) (0::mulPoly p q)) w=_;rw[(xR _ _ w).1,(xR _ _ w).2,l,i,iJ 0,iK 0,A,d,iJ a,iK a];constructor <;>grind
theorem PK:∀{l:List Rat},rF l->∀w,ev l w=0/\od l w=0
 |[],_,w=>⟨tI w,rJ w⟩
 |c::l,h,w=>by
  have i:rF l:=fun d f=>h d (ao _ f);obtain⟨B,A⟩:=PK i w;rw[iJ,iK,B,A,h c aC];constructor <;>grind
theorem TQ (h:dJ l=dJ m)(w):ev l w=ev m w/\od l w=od m w:=by
 have z:rF (addPoly l (scalePoly (-1) m)):=pJ fun x=>by
  have:valueAt l x=valueAt m x:=congrArg (fun q:PF=>q.f x) h;rw[kN,fV,this];grind
 obtain⟨A,d⟩:=PK z w;rw[(xR _ _ w).1,(ot _ _ w).1] at A;rw[(xR _ _ w).2,(ot _ _ w).2] at d;constructor <;>grind
noncomputable def WG:List Rat->List Rat×List Rat
 |[]=>([],[])
 |c::l=>(addPoly [c] (scalePoly (-1) (0::(WG l).2)),0::(WG l).1)
theorem Nm:∀(l:List Rat) (w:Rat),valueAt (WG l).1 w=ev l w/\valueAt (WG l).2 w=od l w
 |[],w=>by
  rw[tI,rJ];exact⟨rfl,rfl⟩
 |c::l,w=>by
  obtain⟨A,d⟩:=Nm l w;rw[iJ,iK];constructor
  ·show valueAt (addPoly [c] (scalePoly (-1) (0::(WG l).2))) w=_;rw[kN,fV,dZ,dZ,jg,d];grind
  ·show 0+w*valueAt (WG l).1 w=_;rw[A];grind
def zL(l:List Rat):PF:=⟨fun w=>ev l w,(WG l).1,fun x=>((Nm l x).1).symm⟩
def zM(l:List Rat):PF:=⟨fun w=>od l w,(WG l).2,fun x=>((Nm l x).2).symm⟩
theorem JB(p q:List Rat):zL (mulPoly p q)=zL p*zL q - zM p*zM q:=PF.ext fun w=>(Nl p q w).1
theorem JC(p q:List Rat):zM (mulPoly p q)=zL p*zM q+zM p*zL q:=PF.ext fun w=>(Nl p q w).2
theorem VN(p q:List Rat):zL (addPoly p q)=zL p+zL q:=PF.ext fun w=>(xR p q w).1
theorem VO(p q:List Rat):zM (addPoly p q)=zM p+zM q:=PF.ext fun w=>(xR p q w).2
theorem JD (h:dJ l=dJ m):zL l=zL m/\zM l=zM m:=⟨PF.ext fun w=>(TQ h w).1,PF.ext fun w=>(TQ h w).2⟩
theorem DE(p q:List Rat):dJ (mulPoly p q)=dJ p*dJ q:=PF.ext fun x=>rE p q x
theorem VP(p q:List Rat):dJ (addPoly p q)=dJ p+dJ q:=PF.ext fun x=>kN p q x
noncomputable def Bx:List Rat->List Rat
 |[]=>[]
 |c::l=>c::scalePoly (-1) (Bx l)
theorem Nn:∀(l:List Rat) (x:Rat),valueAt (Bx l) x=valueAt l (-x)
 |[],x=>rfl
 |c::l,x=>by
  show c+x*valueAt (scalePoly (-1) (Bx l)) x=c+ -x*valueAt l (-x);rw[fV,Nn l x];grind
theorem Np:∀(l:List Rat) (w:Rat),ev (Bx l) w=ev l w/\od (Bx l) w= -od l w
 |[],w=>by
  show ev [] w=_/\od [] w=_;rw[rJ];constructor <;>grind
 |c::l,w=>by
  obtain⟨A,d⟩:=Np l w;show ev (c::scalePoly (-1) (Bx l)) w=_/\od (c::scalePoly (-1) (Bx l)) w=_;rw[iJ,iK,(ot _ _ w).1,(ot _ _ w).2,A,d,iJ,iK];constructor <;>grind
theorem Lq:∀(l:List Rat) (n:Nat),((List.range l.length).map fun i:Nat=>if(i+n) % 2=1 then -(l.getD i 0) else l.getD i 0)=scalePoly (if n % 2=1 then -1 else 1) (Bx l)
 |[],n=>rfl
 |c::l,n=>by
  rw[ak,List.range_succ_eq_map,aK,aN];have e:((fun i:Nat=>if(i+n) % 2=1 then -((c::l).getD i 0) else(c::l).getD i 0) ∘ Nat.succ)=fun i:Nat=>if(i+(n+1)) % 2=1 then -(l.getD i 0) else l.getD i 0:=by
   funext i;show(if(i+1+n) % 2=1 then -(l.getD i 0) else l.getD i 0)=_;rw[show i+1+n=i+(n+1) by lia]
  rw[e,Lq l (n+1)];show(if(0+n) % 2=1 then -c else c)::_=_* c::scalePoly _ (scalePoly (-1) (Bx l));rw[Nat.zero_add];have s:∀a b:Rat,scalePoly a (scalePoly b (Bx l))=scalePoly (a*b) (Bx l):=fun a b=>by
   unfold scalePoly;rw[aN];exact aT fun x _=>by show a*(b*x)=_;grind
  rw[s];by_cases q:n % 2=1
  ·rw[ai q,ai q,ah (by lia)];congr 1
   ·grind
   ·congr 1;grind
  ·rw[ah q,ah q,ai (by lia)];congr 1
   ·grind
   ·congr 1;grind
theorem xS(p:List Rat):turnedPoly p=Bx p:=by
 have:=Lq p 0;unfold turnedPoly;rw[show(if 0 % 2=1 then(-1:Rat) else 1)=1 from rfl] at this;have e:scalePoly 1 (Bx p)=Bx p:=by
  unfold scalePoly;rw[show(fun x:Rat=>1*x)=id by funext x;show 1*x=x;grind,List.map_id]
 rw[e] at this;exact this
def dH(p:dQ)(o:Nat):dQ:=Mf ((List.range p.length).map fun i:Nat=>if i % 2=o then(if i % 4<2 then p.getD i 0 else -p.getD i 0) else 0)
theorem vG:∀(l:List Rat) (n:Nat) (w:Rat),(valueAt ((List.range l.length).map fun i:Nat=>if(i+n) % 2=0 then(if(i+n) % 4<2 then l.getD i 0 else -l.getD i 0) else 0) w=(if n % 4=0 then ev l w else if n % 4=1 then -od l w else if n % 4=2 then -ev l w else od l w))/\valueAt ((List.range l.length).map fun i:Nat=>if(i+n) % 2=1 then(if(i+n) % 4<2 then l.getD i 0 else -l.getD i 0) else 0) w=(if n % 4=0 then od l w else if n % 4=1 then ev l w else if n % 4=2 then -od l w else -ev l w)
 |[],n,w=>by
  rw[tI,rJ];show(0:Rat)=_/\(0:Rat)=_;constructor <;>(repeat' split) <;>grind
 |c::l,n,w=>by
  obtain⟨B,k⟩:=vG l (n+1) w;rw[ak,List.range_succ_eq_map,aK,aN,aK,aN];have e:∀o:Nat,((fun i:Nat=>if(i+n) % 2=o then(if(i+n) % 4<2 then(c::l).getD i 0 else -(c::l).getD i 0) else 0) ∘ Nat.succ)=fun i:Nat=>if(i+(n+1)) % 2=o then(if(i+(n+1)) % 4<2 then l.getD i 0 else -l.getD i 0) else 0:=fun o=>by
   funext i;show(if(i+1+n) % 2=o then(if(i+1+n) % 4<2 then l.getD i 0 else -l.getD i 0) else 0)=_;rw[show i+1+n=i+(n+1) by lia]
  rw[e,e,dZ,dZ,B,k,iJ,iK];show(if(0+n) % 2=0 then(if(0+n) % 4<2 then c else -c) else 0)+_=_/\(if(0+n) % 2=1 then(if(0+n) % 4<2 then c else -c) else 0)+_=_;rw[Nat.zero_add];have f:n % 4=0\/n % 4=1\/n % 4=2\/n % 4=3:=by lia
  rcases f with q |q |q |q
  ·have A:n % 2=0:=by lia
   have d:(n+1) % 4=1:=by lia
   rw[A,d,q];constructor <;>simp <;>grind
  ·have A:n % 2=1:=by lia
   have d:(n+1) % 4=2:=by lia
   rw[A,d,q];constructor <;>simp <;>grind
  ·have A:n % 2=0:=by lia
   have d:(n+1) % 4=3:=by lia
   rw[A,d,q];constructor <;>simp <;>grind
  ·have A:n % 2=1:=by lia
   have d:(n+1) % 4=0:=by lia
   rw[A,d,q];constructor <;>simp <;>grind
theorem Q4 (p):dO (dH p 0)=zL (rl p)/\dO (dH p 1)=zM (rl p):=by
 have e:∀o:Nat,rl ((List.range p.length).map fun i:Nat=>if i % 2=o then(if i % 4<2 then p.getD i 0 else -p.getD i 0) else 0)=(List.range (rl p).length).map fun i:Nat=>if(i+0) % 2=o then(if(i+0) % 4<2 then(rl p).getD i 0 else -(rl p).getD i 0) else 0:=fun o=>by
  unfold rl;rw[aN,lMp];refine aT fun i d=> ?_;have d:=aY.mp d;have g:(p.map fun z:Int=>(z:Rat)).getD i 0=((p.getD i 0:Int):Rat):=by
   rw[gDe,aD,af d,gDe,af d];rfl
  show(((if i % 2=o then(if i % 4<2 then p.getD i 0 else -p.getD i 0) else 0:Int)):Rat)=_;rw[g,Nat.add_zero]
  (repeat' split) <;>first |rfl |rw[Rat.intCast_neg]
 constructor
 ·refine PF.ext fun w=> ?_;unfold dH;rw[sZ,OS,e 0,(vG (rl p) 0 w).1];rfl
 ·refine PF.ext fun w=> ?_;unfold dH;rw[sZ,OS,e 1,(vG (rl p) 0 w).2];rfl
theorem EU:∀(f:Nat) (p q:List Rat),∃r,gcdOn f p q=trim r
 |0,p,q=>⟨p,rfl⟩
 |f+1,p,q=>by
  show ∃r,(if isZero q=true then trim p else gcdOn f q (rest p q))=trim r;split
  ·exact⟨p,rfl⟩
  ·exact EU f _ _
theorem TR(p q:List Rat):trim (gcdPoly p q)=gcdPoly p q:=by
 obtain⟨r,e⟩:=EU ((trim p).length+(trim q).length+2) p q;unfold gcdPoly;rw[e,wo]
noncomputable def uO(p:PF):PF:=⟨fun x=>p.f (-x),by
 obtain⟨l,d⟩:=p.h;exact⟨Bx l,fun x=>by rw[Nn,d]⟩⟩
theorem zN (p q):uO (p*q)=uO p*uO q:=PF.ext fun _=>rfl
theorem VQ (p q):uO (p+q)=uO p+uO q:=PF.ext fun _=>rfl
theorem PL (p):uO (uO p)=p:=PF.ext fun x=>by show p.f (- -x)=p.f x;rw[show - -x=x by grind]
theorem Q5 (c):uO (PF.const c)=PF.const c:=PF.ext fun _=>rfl
theorem PM (l):dJ (Bx l)=uO (dJ l):=PF.ext fun x=>Nn l x
theorem Q6 (h:PF.const c=PF.const d):c=d:=congrArg (fun q:PF=>q.f 0) h
theorem Nq (w:dJ p≠0):∃c:Rat,(c=1\/c= -1)/\uO (dJ (gcdPoly p (turnedPoly p)))=PF.const c*dJ (gcdPoly p (turnedPoly p)):=by
 obtain⟨⟨u,v,i⟩,⟨B,A⟩,⟨f,x⟩⟩:=El p (turnedPoly p);rw[xS,PM] at i x;rw[xS] at A⊢;generalize dJ (gcdPoly p (Bx p))=g at *;have t:g≠0:=fun z=>w (by rw[A,z];grind);have d:uO g=(uO u*f+uO v*B)*g:=by
  have:uO g=uO u*uO (dJ p)+uO v*dJ p:=by
   conv=>lhs;rw[i]
   rw[VQ,zN,zN,PL]
  rw[this,x]
  conv=>lhs;rw[A]
  grind
 generalize uO u*f+uO v*B=K at d;have l:uO K*K=1:=by
  refine PF.wc t _ _ ?_;have:uO (uO g)=uO K*uO g:=by
   conv=>lhs;rw[d]
   rw[zN]
  rw[PL,d] at this;have r:g*(uO K*K)=uO K*(K*g):=by grind
  rw[r,<-this];grind
 obtain⟨c,q,k⟩:=nk (K:=K) (J:=uO K) (by rw[<-l];grind);rw[k,Q5,<-gA] at l;have e:c*c=1:=Q6 (by rw[l];exact fN.symm);refine⟨c,?_,by rw[d,k]⟩;have:(c - 1)*(c+1)=0:=by grind
 rcases bR.mp this with h |h
 ·exact .inl (by grind)
 ·exact .inr (by grind)
theorem Nr:∀l:List Rat,l=yQ (atZero l) (withoutZero l)
 |[]=>rfl
 |c::l=>by
  unfold atZero withoutZero;by_cases h:c=0
  ·rw[List.takeWhile_cons_of_pos (by simpa using h),List.dropWhile_cons_of_pos (by simpa using h),ak];show c::l=0::yQ (atZero l) (withoutZero l);rw[h,<-Nr l]
  ·rw[List.takeWhile_cons_of_neg (by simpa using h),List.dropWhile_cons_of_neg (by simpa using h)];rfl
theorem zO (h:dJ l≠0):valueAt (withoutZero l) 0≠0:=by
 induction l with
 |nil=>exact absurd rfl h
 |cons c l A=>
  unfold withoutZero;by_cases d:c=0
  ·rw[List.dropWhile_cons_of_pos (by simpa using d)];refine A fun z=>h (PF.ext fun x=> ?_);have:valueAt l x=0:=congrArg (fun q:PF=>q.f x) z;rw[sv,dZ,this,d];show(0:Rat)+x*0=0;grind
  ·rw[List.dropWhile_cons_of_neg (by simpa using d),dZ];grind
theorem VR (k)(m):dJ (yQ k m)=wp k*dJ m:=PF.ext fun w=>Jz m w k
theorem TU:∀k,∃σ:Rat,(σ=1\/σ= -1)/\uO (wp k)=PF.const σ*wp k
 |0=>⟨1,.inl rfl,by rw[show PF.const 1=(1:PF) from fN];exact PF.ext fun x=>by show((1:Nat):Rat)=((1:Nat):Rat)*((1:Nat):Rat);grind⟩
 |k+1=>by
  obtain⟨σ,d,e⟩:=TU k;refine⟨-σ,by rcases d with q |q <;>rw[q] <;>grind,?_⟩;show uO (WW*wp k)=_* (WW*wp k);rw[zN,e];refine PF.ext fun x=> ?_;show -x*(σ*(wp k).f x)= -σ*(x*(wp k).f x);grind
theorem XR (h:dJ l≠0)(k:c=1\/c= -1)(e:uO (dJ l)=PF.const c*dJ l):uO (dJ (withoutZero l))=dJ (withoutZero l):=by
 obtain⟨σ,t,v⟩:=TU (atZero l);have i:=Nr l;have B:=zO h;have x:dJ l=wp (atZero l)*dJ (withoutZero l):=by
  rw[<-VR,<-i]
 rw[x,zN,v] at e;have E0:(dJ (withoutZero l)).f 0≠0:=B;generalize dJ (withoutZero l)=E at *;have r:PF.const σ*uO E=PF.const c*E:=by
  refine PF.wc (ES (atZero l)) _ _ ?_;have:wp (atZero l)*(PF.const σ*uO E)=PF.const σ*wp (atZero l)*uO E:=by grind
  rw[this,e];grind
 have w:σ*E.f (-0)=c*E.f 0:=congrArg (fun q:PF=>q.f 0) r;rw[show(-0:Rat)=0 by grind] at w;have:σ=c:=by
  have:(σ - c)*E.f 0=0:=by grind
  rcases bR.mp this with q |q
  ·grind
  ·exact absurd q E0
 rw[this] at r;have d:=sC (c:=c) (by rcases k with q |q <;>rw[q] <;>grind);have A:=Gs (X:=uO E) d;rw[r] at A;rw[A];exact(Gs d).symm
def TV(l:List Rat):Prop:=∀i,i % 2=1->l.getD i 0=0
theorem PN:∀(l:List Rat) (i:Nat),(Bx l).getD i 0=if i % 2=1 then -(l.getD i 0) else l.getD i 0
 |[],i=>by
  show(0:Rat)=_;show(0:Rat)=if i % 2=1 then -(0:Rat) else 0;split <;>grind
 |c::l,0=>rfl
 |c::l,i+1=>by
  show(scalePoly (-1) (Bx l)).getD i 0=if(i+1) % 2=1 then -(l.getD i 0) else l.getD i 0;have:(scalePoly (-1) (Bx l)).getD i 0= -1*(Bx l).getD i 0:=by
   unfold scalePoly;rw[gDe,aD,gDe];cases(Bx l)[i]? with
   |none=>show(0:Rat)= -1*0;grind
   |some x=>rfl
  rw[this,PN l i];by_cases q:i % 2=1
  ·rw[ai q,ah (by lia)];grind
  ·rw[ah q,ai (by lia)];grind
theorem XS (h:uO (dJ l)=dJ l):TV l:=fun i d=>by
 rw[<-PM] at h;have:=w8 (p:=Bx l) (q:=l) (fun x=>congrArg (fun q:PF=>q.f x) h) i;rw[PN,ai d] at this;grind
theorem Q7 (c d)(l):evenPart (c::d::l)=c::evenPart l:=by
 unfold evenPart;have:((c::d::l).length+1) / 2=(l.length+1) / 2+1:=by
  rw[ak,ak];lia
 rw[this,List.range_succ_eq_map,aK,aN];rfl
theorem JE:∀(n:Nat) (l:List Rat),l.length<=n->TV l->(∀s,valueAt l s=valueAt (evenPart l) (s*s))/\∀w,ev l w=valueAt (evenPart l) (-(w*w))/\od l w=0
 |_,[],_,_=>⟨fun s=>rfl,fun w=>by rw[tI,rJ];exact⟨rfl,rfl⟩⟩
 |_,[c],_,_=>by
  have e:evenPart [c]=[c]:=by
   unfold evenPart;rw[show([c].length+1) / 2=1 by rw[List.length_singleton]];rfl
  rw[e];refine⟨fun s=>by rw[dZ,dZ,jg,jg];grind,fun w=> ?_⟩;rw[iJ,iK,tI,rJ,dZ,jg];constructor <;>grind
 |0,_::_::_,h,_=>by simp at h
 |n+1,c::d::l,h,f=>by
  have A:d=0:=f 1 rfl;have B:TV l:=fun i q=>f (i+2) (by lia);obtain⟨v,t⟩:=JE n l (by simp at h;lia) B;rw[Q7];refine⟨fun s=> ?_,fun w=> ?_⟩
  ·rw[dZ,dZ,dZ,v s,A];grind
  ·obtain⟨x,k⟩:=t w;rw[iJ,iK,iK,iJ,dZ,x,k,A];constructor <;>grind
theorem TX (m)(x:TV m):∀k,∃ρ:Rat,(ρ=1\/ρ= -1)/\((k % 2=0/\zL (yQ k m)=PF.const ρ*(wp k*ic (dJ (evenPart m)))/\zM (yQ k m)=0)\/(k % 2=1/\zL (yQ k m)=0/\zM (yQ k m)=PF.const ρ*(wp k*ic (dJ (evenPart m)))))
 |0=>by
  have:=(JE m.length m (aj _) x).2;refine⟨1,.inl rfl,.inl ⟨rfl,PF.ext fun w=> ?_,PF.ext fun w=>(this w).2⟩⟩;show ev m w=1*(((1:Nat):Rat)*valueAt (evenPart m) (-(w*w)));rw[(this w).1];have:((1:Nat):Rat)=1:=rfl;rw[this];grind
 |k+1=>by
  obtain⟨ρ,B,⟨v,l,d⟩ |⟨v,l,d⟩⟩:=TX m x k
  ·refine⟨ρ,B,.inr ⟨by lia,PF.ext fun w=> ?_,PF.ext fun w=> ?_⟩⟩
   ·have i:od (yQ k m) w=0:=congrArg (fun q:PF=>q.f w) d;show ev (0::yQ k m) w=0;rw[iJ,i];grind
   ·have A:ev (yQ k m) w=ρ*((wp k).f w*valueAt (evenPart m) (-(w*w))):=congrArg (fun q:PF=>q.f w) l;show od (0::yQ k m) w=ρ*(w*(wp k).f w*valueAt (evenPart m) (-(w*w)));rw[iK,A];grind
  ·refine⟨-ρ,by rcases B with q |q <;>rw[q] <;>grind,.inl ⟨by lia,PF.ext fun w=> ?_,PF.ext fun w=> ?_⟩⟩
   ·have i:od (yQ k m) w=ρ*((wp k).f w*valueAt (evenPart m) (-(w*w))):=congrArg (fun q:PF=>q.f w) d;show ev (0::yQ k m) w= -ρ*(w*(wp k).f w*valueAt (evenPart m) (-(w*w)));rw[iJ,i];grind
   ·have A:ev (yQ k m) w=0:=congrArg (fun q:PF=>q.f w) l;show od (0::yQ k m) w=0;rw[iK,A];grind
theorem TY (f:l≠[]):alternate l 0=((List.range l.length).map fun i:Nat=>if(i+3*(l.length - 1)) % 2=0 then(if(i+3*(l.length - 1)) % 4<2 then l.getD i 0 else -l.getD i 0) else 0)/\alternate l 1=scalePoly (-1) ((List.range l.length).map fun i:Nat=>if(i+3*(l.length - 1)) % 2=1 then(if(i+3*(l.length - 1)) % 4<2 then l.getD i 0 else -l.getD i 0) else 0):=by
 have pl:0<l.length:=aq.mpr f;unfold alternate scalePoly;dsimp only;rw[aN];obtain⟨n,A⟩:∃n,l.length=n+1:=⟨l.length - 1,by lia⟩;rw[A,Nat.add_sub_cancel];have e2:∀i j,(i+3*(i+j)) % 2=j % 2:=by lia
 have e4:∀i j,(i+3*(i+j)) % 4=3*j % 4:=by lia
 constructor
 ·refine aT fun i d=> ?_;obtain⟨j,rfl⟩:∃j,n=i+j:=Nat.exists_eq_add_of_le (Nat.le_of_lt_succ (aY.mp d));rw[Nat.add_zero,Nat.sub_zero,Nat.add_sub_cancel_left,e2,e4];by_cases q:j % 2=0
  ·rw[ai q,ah (by lia)];by_cases r:3*j % 4<2
   ·rw[ai r,ah (by lia)]
   ·rw[ah r,ai (by lia)]
  ·rw[ah q,ai (by lia)]
 ·refine aT fun i d=> ?_;obtain⟨j,rfl⟩:∃j,n=i+j:=Nat.exists_eq_add_of_le (Nat.le_of_lt_succ (aY.mp d));show _= -1*(if(i+3*(i+j)) % 2=1 then(if(i+3*(i+j)) % 4<2 then l.getD i 0 else -l.getD i 0) else 0);rw[e2,e4,Nat.sub_sub,Nat.add_sub_add_left];by_cases q:j % 2=1
  ·rw[ai q,ah (by lia)];by_cases r:3*j % 4<2
   ·rw[ai r,ai (by lia)];grind
   ·rw[ah r,ah (by lia)];grind
  ·rw[ah q,ai (by lia)];grind
theorem XT (B:l≠[]):dJ (alternate l 0)=(if(l.length - 1) % 4=0 then zL l else if(l.length - 1) % 4=1 then zM l else if(l.length - 1) % 4=2 then -zL l else -zM l)/\dJ (alternate l 1)=(if(l.length - 1) % 4=0 then -zM l else if(l.length - 1) % 4=1 then zL l else if(l.length - 1) % 4=2 then zM l else -zL l):=by
 obtain⟨i,A⟩:=TY B;obtain⟨n,f⟩:∃n,n=l.length - 1:=⟨_,rfl⟩;rw[<-f] at i A⊢;have d:n % 4=0\/n % 4=1\/n % 4=2\/n % 4=3:=by lia
 constructor
 ·refine PF.ext fun w=> ?_;rw[sv,i,(vG l (3*n) w).1];rcases d with q |q |q |q
  ·rw[q,show 3*n % 4=0 by lia];rfl
  ·rw[q,show 3*n % 4=3 by lia];rfl
  ·rw[q,show 3*n % 4=2 by lia];rfl
  ·rw[q,show 3*n % 4=1 by lia];rfl
 ·refine PF.ext fun w=> ?_;rw[sv,A,fV,(vG l (3*n) w).2];rcases d with q |q |q |q
  ·rw[q,show 3*n % 4=0 by lia];show -1*od l w= -od l w;grind
  ·rw[q,show 3*n % 4=3 by lia];show -1* -ev l w=ev l w;grind
  ·rw[q,show 3*n % 4=2 by lia];show -1* -od l w=od l w;grind
  ·rw[q,show 3*n % 4=1 by lia];show -1*ev l w= -ev l w;grind
theorem wA (l:List Rat)(i):(alternate l i).length=l.length:=by
 unfold alternate;rw[lMp,a5]
theorem EV (d:l≠[]):lst (alternate l 0)=lst l:=by
 have pl:0<l.length:=aq.mpr d;unfold lst;rw[wA];unfold alternate;rw[gDe,aD,bB (by lia)];show(if l.length - 1<l.length - 1+0\/(l.length - 1 - (l.length - 1) - 0) % 2=1 then 0 else if(l.length - 1 - (l.length - 1) - 0) / 2 % 2=1 then -(l.getD (l.length - 1) 0) else l.getD (l.length - 1) 0)=_;rw[ah (by lia),ah (by lia)]
theorem Nt (i:l≠[]):(trim (alternate l 1)).length<=l.length - 1:=by
 have pl:0<l.length:=aq.mpr i;have f:=iH (alternate l 1);rw[wA] at f;refine bV fun z=> ?_;have e:(trim (alternate l 1)).length=l.length:=by lia
 have ne:trim (alternate l 1)≠[]:=fun q=>by rw[q] at e;simp at e;lia
 have d:=iI ne;have A:=w8 (p:=trim (alternate l 1)) (q:=alternate l 1) (fun x=>iG _ x) (l.length - 1);unfold lst at d;rw[e,A] at d;apply d;unfold alternate;rw[gDe,aD,bB (by lia)];show(if l.length - 1<l.length - 1+1\/_ then(0:Rat) else _)=0;rw[ai (.inl (by lia))]
theorem PR(p q:List Rat):(addPoly p q).length=max p.length q.length:=by
 induction p generalizing q with
 |nil=>cases q <;>simp[addPoly]
 |cons a p d=>
  cases q with
  |nil=>simp[addPoly]
  |cons b q=>
   show(addPoly p q).length+1=_;rw[d,ak,ak];lia
theorem add_get:∀(p q:List Rat) (i:Nat),(addPoly p q).getD i 0=p.getD i 0+q.getD i 0
 |[],q,i=>by
  show q.getD i 0=0+_;grind
 |a::p,[],i=>by
  show(a::p).getD i 0=_+ 0;grind
 |a::p,b::q,0=>rfl
 |a::p,b::q,i+1=>add_get p q i
theorem PU (k)(p:List Rat)(i):(scalePoly k p).getD i 0=k*p.getD i 0:=by
 unfold scalePoly;rw[gDe,aD,gDe];cases p[i]? with
 |none=>show(0:Rat)=k*0;grind
 |some x=>rfl
theorem HY:∀(p q:List Rat),p≠[]->q≠[]->(mulPoly p q).length=p.length+q.length - 1/\lst (mulPoly p q)=lst p*lst q
 |[],_,h,_=>absurd rfl h
 |[a],q,_,A=>by
  have B:0<q.length:=aq.mpr A;have e:mulPoly [a] q=addPoly (scalePoly a q) [0]:=rfl;have d:(addPoly (scalePoly a q) [0]).length=q.length:=by
   rw[PR];show max (q.map _).length 1=_;rw[lMp];lia
  rw[e,d];refine⟨by rw[List.length_singleton];lia,?_⟩;unfold lst;rw[d,add_get,PU];have z:([0]:List Rat).getD (q.length - 1) 0=0:=by
   cases q.length - 1 <;>rfl
  rw[z];show a*_+ 0=a*_;grind
 |a::b::p,q,_,A=>by
  obtain⟨l,k⟩:=HY (b::p) q (by simp) A;have B:0<q.length:=aq.mpr A;have e:mulPoly (a::b::p) q=addPoly (scalePoly a q) (0::mulPoly (b::p) q):=rfl;have f:(scalePoly a q).length=q.length:=lMp ..;have x:(b::p).length=p.length+1:=rfl;have d:(addPoly (scalePoly a q) (0::mulPoly (b::p) q)).length=(b::p).length+q.length:=by
   rw[PR,f,ak,l];lia
  rw[e,d];refine⟨by show _=(b::p).length+1+q.length - 1;lia,?_⟩;unfold lst;rw[d,add_get,PU];have z:q.getD ((b::p).length+q.length - 1) 0=0:=by
   rw[gDe,aO (by rw[ak];lia)];rfl
  rw[z];have i:(b::p).length+q.length - 1=(mulPoly (b::p) q).length - 1+1:=by
   rw[l,ak];lia
  rw[i];show a*0+lst (mulPoly (b::p) q)=_;rw[k];show a*0+lst (b::p)*lst q=lst (b::p)*lst q;grind
theorem VS (l:p≠[])(A:q≠[])(B:lst p≠0)(f:lst q≠0)(h:dJ r=dJ p*dJ q):(trim r).length=p.length+q.length - 1:=by
 obtain⟨d,i⟩:=HY p q l A;rw[<-DE] at h;have k:0<p.length:=aq.mpr l;have x:0<q.length:=aq.mpr A;rw[Bv h,km (fun z=>by rw[z] at d;simp at d;lia) (by rw[i];exact fq B f),d]
theorem JF:∀(l:List Rat) (s:Int),changesOn s l<=l.length
 |[],s=>aj _
 |x::l,s=>by
  rw[qU,ak];have A:=JF l s;have d:=JF l (sn x)
  (repeat' split) <;>lia
theorem TZ (d:x≠0)(l):changes (x::l)<=l.length:=by
 rw[oW d];exact JF l _
theorem T1:∀(x:Rat) (l:List Rat),x≠0->(∀y∈l,y≠0)->changes (x::l) % 2=if sn x=sn ((x::l).getLast (by simp)) then 0 else 1
 |x,[],d,_=>by
  rw[oW d];show 0 % 2=if sn x=sn x then 0 else 1;rw[ai rfl]
 |x,y::l,d,h=>by
  have i:=h y aC;have f:=T1 y l i fun z A=>h z (ao _ A);rw[xO d i,List.getLast_cons (by simp)];have A:=ig ((y::l).getLast (by simp));generalize sn ((y::l).getLast (by simp))=z at *;rcases ig x with a |a <;>rcases ig y with b |b <;>rcases A with c |c <;>rw[b,c] at f <;>rw[a,b,c] <;>simp at f⊢<;>lia
theorem Lr:∀(m:Nat) (F:List Rat),valueAt F 0≠0->(trim F).length<=m->belowOn m F<=degree F
 |0,F,f0,h=>by
  have:trim F=[]:=bc.mp (by lia);exact absurd (by rw[<-iG,this];rfl) f0
 |m+1,F,f0,H=>by
  show(if degree F=0 then 0 else distinctBelow F+belowOn m (gcdPoly F (slopePoly F)))<=_;by_cases z:degree F=0
  ·rw[ai z];lia
  rw[ah z];obtain⟨u,i,v,b,K,y,k⟩:=Cz z f0;obtain⟨g,l,A⟩:=Lp i;have d:(dJ (gcdPoly F (slopePoly F))).f 0≠0:=by
   obtain⟨_,⟨w,a⟩,_⟩:=El F (slopePoly F);have:(w*dJ (gcdPoly F (slopePoly F))).f 0≠0:=by rw[<-a];exact f0
   exact(gW this).2
  have S:=HX z;have e:ju (dJ (slopePoly F)) (u.map dJ)=dJ ((trim (slopePoly F)::u).getLast (by simp)):=by
   rw[<-Bw,fw]
  rw[e] at A;have o:=xQ l A;have G:=iH ((trim (slopePoly F)::u).getLast (by simp));have x:=Lr m (gcdPoly F (slopePoly F)) d (by lia);have B:trim F≠[]:=fun q=>by unfold degree at z;rw[q] at z;exact z rfl
  have c:0<(trim (gcdPoly F (slopePoly F))).length:=aq.mpr fun q=>d (by
   show valueAt _ 0=0;rw[<-iG,q];rfl)
  obtain⟨N,s,n⟩:=Yn (σ:= -1) (.inr rfl) B (iI B);have C:=k (max K N) (by grind);have t:(dJ F).f (-(max K N))≠0:=by
   have:=(n (max K N) (by grind)).1;rw[iG,show(-1:Rat)*max K N= -(max K N) by grind] at this;exact this
  have r:Vc (dJ F::dJ (slopePoly F)::u.map dJ) (-(max K N))<=1+u.length:=by
   unfold Vc;rw[aK];have:=TZ t ((dJ (slopePoly F)::u.map dJ).map fun p:PF=>p.f (-(max K N)));rw[lMp,ak,lMp] at this;lia
  unfold degree at x⊢;lia
structure Zr where
 left:Int
 axis:Int
 right:Int
def UT(p:dQ):Int:=Gv p.length p
def xT(p:dQ):Zr:=
 let d:=(p.length:Int) - 1;let c:=if d % 2=0 then d6 (dH p 0) (dH p 1) else d6 (dH p 1) (dH p 0);let s:=if d % 2=0 then -jmp c else jmp c;let ax:=UT (c.getLastD [])
 ⟨(d - ax+s).fdiv 2,ax,(d - ax - s).fdiv 2⟩
structure Ax(p:dQ)(k:Nat)(F h:List Rat)(τ:Rat):Prop where
 τ0:τ≠0
 F0:valueAt F 0≠0
 hn:h≠[]
 hl:lst h≠0
 par:(p.length - 1) % 2=(k+(h.length - 1)) % 2
 len:p.length - 1=k+2*degree F+(h.length - 1)
 evn:(p.length - 1) % 2=0->dO (dH p 0)=PF.const τ*(wp k*ic (dJ F))*dJ (alternate h 0)/\dO (dH p 1)=PF.const (-τ)*(wp k*ic (dJ F))*dJ (alternate h 1)
 odd:(p.length - 1) % 2=1->dO (dH p 1)=PF.const τ*(wp k*ic (dJ F))*dJ (alternate h 0)/\dO (dH p 0)=PF.const τ*(wp k*ic (dJ F))*dJ (alternate h 1)
 back:∀D:PF,(∃x,dO (dH p 0)=D*x)->(∃y,dO (dH p 1)=D*y)->∃J,wp k*ic (dJ F)=D*J
theorem XU (A:Ax p k F h τ):∃(a b:dQ) (σ:Rat),(σ=1\/σ= -1)/\Trim a/\Trim b/\dO a=PF.const τ*(wp k*ic (dJ F))*dJ (alternate h 0)/\dO b=PF.const (σ*τ)*(wp k*ic (dJ F))*dJ (alternate h 1)/\xT p=⟨((p.length:Int) - 1 - UT ((d6 a b).getLastD [])+sn σ*jmp (d6 a b)).fdiv 2,UT ((d6 a b).getLastD []),((p.length:Int) - 1 - UT ((d6 a b).getLastD []) - sn σ*jmp (d6 a b)).fdiv 2⟩/\∀D:PF,(∃x,dO a=D*x)->(∃y,dO b=D*y)->∃J,wp k*ic (dJ F)=D*J:=by
 have i:∀o,Trim (dH p o):=fun o=>kZ _;have G:1<=p.length\/p.length=0:=by lia
 by_cases q:(p.length - 1) % 2=0
 ·obtain⟨l,B⟩:=A.evn q;refine⟨dH p 0,dH p 1,-1,.inr rfl,i 0,i 1,l,by rw[B,show(-1:Rat)*τ= -τ by grind],?_,fun D t e=>A.back D t e⟩;by_cases z:p.length=0
  ·have:=A.len;have C:0<h.length:=aq.mpr A.hn;have s:p=[]:=bc.mp z;exfalso;have S:dO (dH p 0)=0:=by rw[s];rfl
   rw[S] at l;have H:ic (dJ F)≠0:=xP A.F0;have r:dJ (alternate h 0)≠0:=fun w=>by
    have n:trim (alternate h 0)=[]:=gB.mp ((fU _).mpr w);have f:alternate h 0≠[]:=fun v=>A.hn (bc.mp (by rw[<-wA h 0,v];rfl));rw[km f (by rw[EV A.hn];exact A.hl)] at n;exact f n
   exact PF.gI (PF.gI (iY A.τ0) (PF.gI (ES k) H)) r l.symm
  have d:((p.length:Int) - 1) % 2=0:=by lia
  unfold xT;dsimp only;rw[ai d,ai d,nh (show(-1:Rat)<0 by grind)];have: -jmp (d6 (dH p 0) (dH p 1))= -1*jmp (d6 (dH p 0) (dH p 1)):=by lia
  rw[this]
 ·have u:(p.length - 1) % 2=1:=by lia
  obtain⟨l,B⟩:=A.odd u;refine⟨dH p 1,dH p 0,1,.inl rfl,i 1,i 0,l,by rw[B,show(1:Rat)*τ=τ by grind],?_,fun D t e=>A.back D e t⟩;have d:¬((p.length:Int) - 1) % 2=0:=by lia
  unfold xT;dsimp only;rw[ah d,ah d,kQ (show(0:Rat)<1 by grind)];have:jmp (d6 (dH p 1) (dH p 0))=1*jmp (d6 (dH p 1) (dH p 0)):=by lia
  rw[<-this]
theorem HZ (d:l≠[])(A:lst l≠0)(h:dJ l=PF.const c):l.length=1:=by
 have e:dJ l=dJ [c]:=by
  rw[h];exact PF.ext fun x=>by show c=c+x*0;grind
 have:=Bv e;rw[km d A] at this;have i:=iH [c];have:0<l.length:=aq.mpr d;simp at i;lia
theorem VT (A:Ax p k F h τ):∃(L:dQ) (c:Rat) (j Q:Nat),Trim L/\L≠[]/\c≠0/\dO L=PF.const c*(wp k*ic (dJ F))/\j<=h.length - 1/\Q<=h.length - 1/\(j+Q) % 2=(h.length - 1) % 2/\rightOf h=(h.length - 1+Q - j) / 2/\xT p=⟨((p.length:Int) - 1 - UT L+((j:Int) - Q)).fdiv 2,UT L,((p.length:Int) - 1 - UT L - ((j:Int) - Q)).fdiv 2⟩:=by
 obtain⟨a,b,σ,hσ,ta,tb,S,T,ec,back⟩:=XU A;have n0:ic (dJ F)≠0:=xP A.F0;have G0:wp k*ic (dJ F)≠0:=PF.gI (ES k) n0;have o:alternate h 0≠[]:=fun v=>A.hn (bc.mp (by rw[<-wA h 0,v];rfl));have n:lst (alternate h 0)≠0:=by rw[EV A.hn];exact A.hl
 have g:trim (alternate h 0)=alternate h 0:=km o n;have am:dJ (alternate h 0)≠0:=fun w=>o (by
  have t1:trim (alternate h 0)=[]:=gB.mp ((fU _).mpr w);rw[g] at t1;exact t1)
 have ap:0<h.length:=aq.mpr A.hn;have l0:(alternate h 0).length=h.length:=wA h 0;have M:degree h=h.length - 1:=by unfold degree;rw[km A.hn A.hl]
 have τc:=iY A.τ0;have a0:a≠[]:=fun z=>by
  rw[z] at S;exact PF.gI (PF.gI τc G0) am (by rw[<-S];rfl)
 generalize wp k*ic (dJ F)=G at *;have σ0:σ≠0:=by rcases hσ with q |q <;>rw[q] <;>grind
 have στ:=iY (fq σ0 A.τ0);by_cases C:b=[]
 ·
  have e1:d6 a b=[a]:=by
   rw[C];rfl
  have z1:dJ (alternate h 1)=0:=by
   refine bt fun w=> ?_;refine PF.gI (PF.gI στ G0) w ?_;rw[<-T,C];rfl
  obtain⟨J,hJ⟩:=back (dO a) ⟨1,by grind⟩ ⟨0,by rw[C];show(0:PF)=_;grind⟩;have u:PF.const τ*dJ (alternate h 0)*J=1:=by
   refine PF.wc G0 _ _ ?_;rw[S] at hJ;have:G*(PF.const τ*dJ (alternate h 0)*J)=PF.const τ*G*dJ (alternate h 0)*J:=by grind
   rw[this,<-hJ];grind
  obtain⟨c,c0,I⟩:=nk u;have e0:dJ (alternate h 0)=PF.const (1 / τ*c):=by
   have:=Gs (X:=dJ (alternate h 0)) (sC A.τ0);rw[this,I,<-gA]
  have h1:h.length=1:=by
   rw[<-l0];exact HZ o n e0
  have al:chain (alternate h 0) (alternate h 1)=[alternate h 0]:=by
   rw[Q3 _ (gB.mp ((fU _).mpr z1)),g]
  refine⟨a,c,0,0,ta,a0,c0,?_,by lia,by lia,by lia,?_,?_⟩
  ·rw[S];have:PF.const τ*G*dJ (alternate h 0)=PF.const τ*dJ (alternate h 0)*G:=by grind
   rw[this,I]
  ·unfold rightOf;dsimp only;rw[al,M];have s:∀x:Rat,changes [x]=0:=fun x=>by
    by_cases q:x=0
    ·show(if x=0 then 0 else _)=0;rw[ai q]
    ·rw[oW q];rfl
   rw[List.map_singleton,List.map_singleton,s,s]
  ·rw[ec,e1];have:([a]:List dQ).getLastD []=a:=rfl;have j0:jmp [a]=0:=rfl;rw[this,j0,Int.mul_zero];rfl
 ·
  obtain⟨t,et,ch,ae,ar⟩:=nj C ta tb;obtain⟨tL,nL⟩:=zK tb C ae;have z1:dJ (alternate h 1)≠0:=fun w=>C (PJ tb (by rw[T,w];grind));have R:trim (alternate h 1)≠[]:=fun w=>z1 ((fU _).mp (gB.mpr w));obtain⟨i,ac,aa,aj,an⟩:=Tx (alternate h 0) R;have sh:=Nt A.hn;obtain⟨D,x1,y1,u1,D0,eD,S1,da,db,dt⟩:=ch.red;obtain⟨s,v,bz⟩:=S1.RQ;obtain⟨J,hJ⟩:=back D ⟨x1,da⟩ ⟨y1,db⟩;obtain⟨E,x2,y2,u2,E0,eE,S2,fa,fb,ft⟩:=aa.red;have DK:D=G*(E*(s*PF.const τ*x2+v*PF.const (σ*τ)*y2)):=by
   have:D=s*dO a+v*dO b:=by
    rw[da,db];have:s*(D*x1)+v*(D*y1)=D*(s*x1+v*y1):=by grind
    rw[this,bz];grind
   rw[this,S,T,fa,fb];grind
  generalize s*PF.const τ*x2+v*PF.const (σ*τ)*y2=W at DK;have u:E*W*J=1:=by
   refine PF.wc G0 _ _ ?_;have:G*(E*W*J)=D*J:=by
    conv=>rhs;rw[DK]
    grind
   rw[this,<-hJ];grind
  obtain⟨c,c0,I⟩:=nk u;obtain⟨d,d0,ed⟩:=nk (K:=E) (J:=W*J) (by rw[<-u];grind);have hL:dO ((b::t).getLast (by simp))=PF.const c*G:=by
   rw[<-ET];have:ju (dO b) (t.map dO)=D:=eD.symm;rw[this,DK,I];grind
  have e:∀l∈alternate h 0::trim (alternate h 1)::i,l≠[]/\lst l≠0:=fun l B=>by
   rcases aL.mp B with rfl |B
   ·exact⟨o,n⟩
   ·rcases aL.mp B with rfl |B
    ·exact⟨R,iI R⟩
    ·exact aj l B
  have O:((trim (alternate h 1)::i).getLast (by simp)).length=1:=by
   have m:=List.getLast_mem (l:=trim (alternate h 1)::i) (by simp);obtain⟨g1,g2⟩:=e _ (ao _ m);refine HZ g1 g2 (c:=d) ?_;rw[<-Bw,fw];have:ju (dJ (alternate h 1)) (i.map dJ)=E:=eE.symm;rw[this,ed]
  rw[g] at ac;have em:(alternate h 0::trim (alternate h 1)::i).map dJ=dJ (alternate h 0)::dJ (alternate h 1)::i.map dJ:=by
   rw[aK,aK,fw]
  obtain⟨N,n1,hN⟩:=TJ e;rw[em] at hN;have ag:∀l∈a::b::t,Trim l/\l≠[]:=fun l B=>by
   rcases aL.mp B with rfl |B
   ·exact⟨ta,a0⟩
   ·rcases aL.mp B with rfl |B
    ·exact⟨tb,C⟩
    ·exact ae l B
  obtain⟨N2,n2,ab⟩:=PB ag;obtain⟨N3,n3,af⟩:=TK ta a0;obtain⟨x,hx⟩:∃x:Rat,x=max N (max N2 N3):=⟨_,rfl⟩;obtain⟨v1,v2⟩:=hN x (by grind);have jx:=ab x (by grind);obtain⟨ax,ad⟩:=af x (by grind);have sp:∀y,(dO a).f y≠0->(dJ (alternate h 0)).f y≠0:=fun y hy=>by
   rw[S] at hy;exact(gW hy).2
  have ie:=Tw ch aa (l:=1) (m:=1) (σ:=σ) (by grind) (by grind) hσ (by
   rw[S,T];have s2:σ*σ=1:=by rcases hσ with q |q <;>rw[q] <;>grind
   have c1:PF.const (σ*1)*PF.const (σ*τ)=PF.const τ:=by
    rw[<-gA];congr 1;grind
   have r:PF.const (σ*1)*(dJ (alternate h 0)*(PF.const (σ*τ)*G*dJ (alternate h 1)))=PF.const (σ*1)*PF.const (σ*τ)*(dJ (alternate h 0)*G*dJ (alternate h 1)):=by grind
   rw[r,c1,show PF.const 1=(1:PF) from fN];grind) (x:= -x) (y:=x) (by grind) ad ax (sp _ ad) (sp _ ax)
  rw[aK,aK] at jx;rw[<-jx,<-v1,<-v2] at ie;have bm:changes ((alternate h 0::trim (alternate h 1)::i).map atMinus)<=h.length - 1:=by
   rw[aK];have:=TZ (x:=atMinus (alternate h 0)) (by rw[(pw o n).1];exact zI n) ((trim (alternate h 1)::i).map atMinus);rw[lMp,ak] at this;lia
  have bl:changes ((alternate h 0::trim (alternate h 1)::i).map lead)<=h.length - 1:=by
   rw[aK];have:=TZ (x:=lead (alternate h 0)) (by rw[(pw o n).2];exact zI n) ((trim (alternate h 1)::i).map lead);rw[lMp,ak] at this;lia
  have nz:∀σ':Rat,∀y∈(trim (alternate h 1)::i).map (lB σ'),y≠0:=fun σ' y hy=>by
   obtain⟨l,B,rfl⟩:=aV.mp hy;exact zI (e l (ao _ B)).2
  have par:∀σ':Rat,changes ((alternate h 0::trim (alternate h 1)::i).map (lB σ')) % 2=if sn (lB σ' (alternate h 0))=sn (lst ((trim (alternate h 1)::i).getLast (by simp))) then 0 else 1:=fun σ'=>by
   rw[aK];rw[T1 _ _ (zI n) (nz σ')];have:(lB σ' (alternate h 0)::(trim (alternate h 1)::i).map (lB σ')).getLast (by simp)=lst ((trim (alternate h 1)::i).getLast (by simp)):=by
    rw[List.getLast_cons (by simp),List.getLast_map];unfold lB;rw[O,ah (by simp)]
   rw[this]
  have mm:(alternate h 0::trim (alternate h 1)::i).map atMinus=(alternate h 0::trim (alternate h 1)::i).map (lB (-1)):=aT fun l B=>(pw (e l B).1 (e l B).2).1;have ml:(alternate h 0::trim (alternate h 1)::i).map lead=(alternate h 0::trim (alternate h 1)::i).map (lB 1):=aT fun l B=>(pw (e l B).1 (e l B).2).2;have H:=par (-1);have P:=par 1;rw[<-mm] at H;rw[<-ml] at P;refine⟨_,c,changes ((alternate h 0::trim (alternate h 1)::i).map atMinus),changes ((alternate h 0::trim (alternate h 1)::i).map lead),tL,nL,c0,hL,bm,bl,?_,?_,?_⟩
  ·have e1:lB 1 (alternate h 0)=lst (alternate h 0):=EM _;rw[e1] at P;clear par nz bm bl ie jx v1 v2 hN ab af;generalize changes ((alternate h 0::trim (alternate h 1)::i).map atMinus)=j at H⊢;generalize changes ((alternate h 0::trim (alternate h 1)::i).map lead)=Q at P⊢;have sl:=ig (lst ((trim (alternate h 1)::i).getLast (by simp)));generalize sn (lst ((trim (alternate h 1)::i).getLast (by simp)))=z at *;have s0:=ig (lst (alternate h 0));by_cases q:(h.length - 1) % 2=1
   ·have e2:sn (lB (-1) (alternate h 0))= -sn (lst (alternate h 0)):=by
     unfold lB;rw[l0,ai ⟨by grind,q⟩,show -lst (alternate h 0)= -1*lst (alternate h 0) by grind,gJ (by grind) n,nh (show(-1:Rat)<0 by grind)];lia
    rw[e2] at H;rcases s0 with r |r <;>rcases sl with w |w <;>rw[r,w] at H P <;>simp at H P <;>lia
   ·have e2:lB (-1) (alternate h 0)=lst (alternate h 0):=by
     unfold lB;rw[l0,ah (fun z=>q z.2)]
    rw[e2] at H;rcases s0 with r |r <;>rcases sl with w |w <;>rw[r,w] at H P <;>simp at H P <;>lia
  ·unfold rightOf;dsimp only;rw[ac,M]
  ·rw[ec,et,rH];have sσ:sn σ*jmp (a::b::t)=(changes ((alternate h 0::trim (alternate h 1)::i).map atMinus):Int) - changes ((alternate h 0::trim (alternate h 1)::i).map lead):=by
    rw[ie,<-Int.mul_assoc,Ts,Int.one_mul]
   rw[sσ]
theorem PV:∀(k:Nat) (m:List Rat),(yQ k m).length=k+m.length
 |0,m=>by show m.length=_;lia
 |k+1,m=>by
  show(yQ k m).length+1=_;rw[PV k m];lia
theorem PX (d:m≠[]):∀k,yQ k m≠[]/\lst (yQ k m)=lst m
 |0=>⟨d,rfl⟩
 |k+1=>by
  obtain⟨f,i⟩:=PX d k;refine⟨by show 0::yQ k m≠[];simp,?_⟩;show lst (0::yQ k m)=_;cases A:yQ k m with
  |nil=>exact absurd A f
  |cons a l=>
   rw[Ln,<-A,i]
theorem T2 (l:e≠[])(A:lst e≠0)(f:TV e):e.length % 2=1/\degree (evenPart e)=(e.length - 1) / 2:=by
 have pl:0<e.length:=aq.mpr l;have o:e.length % 2=1:=by
  refine bt fun z=> ?_;exact A (f (e.length - 1) (by lia))
 have d:(evenPart e).length=(e.length+1) / 2:=by
  unfold evenPart;rw[lMp,a5]
 obtain⟨c,v⟩:∃c,e.length=2*c+1:=⟨_,o▸(Nat.div_add_mod e.length 2).symm⟩;have d:(evenPart e).length=c+1:=by rw[d,v];exact zDv (c+1)
 have i:evenPart e≠[]:=fun z=>by rw[z] at d;cases d
 have fs:lst (evenPart e)=lst e:=by
  unfold lst;rw[d];unfold evenPart;rw[gDe,aD,bB (by lia),v];rfl
 refine⟨o,?_⟩;unfold degree;rw[km i (by rw[fs];exact A),d,v];exact(zDv c).symm
theorem PF.list (p):∃l:List Rat,dJ l=p:=by obtain⟨l,d⟩:=p.h;exact⟨l,PF.ext fun x=>(d x).symm⟩
theorem PY (l):zL (Bx l)=zL l/\zM (Bx l)= -zM l:=⟨PF.ext fun w=>(Np l w).1,PF.ext fun w=>(Np l w).2⟩
theorem PZ (c)(l:List Rat):zL (scalePoly c l)=PF.const c*zL l/\zM (scalePoly c l)=PF.const c*zM l:=⟨PF.ext fun w=>(ot c l w).1,PF.ext fun w=>(ot c l w).2⟩
theorem neg_const (c): -PF.const c=PF.const (-c):=PF.ext fun _=>rfl
section
variable {p:dQ}{P:List Rat}{q:Rat}(tp:Trim p)(hp:p≠[])(q0:q≠0)(e:dO p=PF.const q*dJ P)
include tp hp q0 e
theorem WH:∃τ:Rat,Ax p (atZero (gcdPoly (trim P) (turnedPoly (trim P)))) (evenPart (withoutZero (gcdPoly (trim P) (turnedPoly (trim P))))) (trim (quot (trim P) (gcdPoly (trim P) (turnedPoly (trim P))))) τ/\degree (trim P)=p.length - 1/\degree (gcdPoly (trim P) (turnedPoly (trim P)))=atZero (gcdPoly (trim P) (turnedPoly (trim P)))+2*degree (evenPart (withoutZero (gcdPoly (trim P) (turnedPoly (trim P))))):=by
 have P0:dJ P≠0:=fun z=>Jc tp hp (by rw[e,z];grind);have eT:dJ (trim P)=dJ P:=fw P;have s:dJ (trim P)≠0:=by rw[eT];exact P0
 have W:trim P≠[]:=fun z=>s (by rw[z];rfl);have eL:p.length=(trim P).length:=by
  have:dJ (rl p)=PF.const q*dJ P:=e;have:=xQ q0 this;rw[VM tp] at this;rw[<-this];exact(lMp ..).symm
 have dP:degree (trim P)=p.length - 1:=by
  unfold degree;rw[wo,eL]
 have e':dO p=PF.const q*dJ (trim P):=by rw[eT];exact e
 have lT:=iI W;generalize trim P=T at *;obtain⟨⟨u,v,g1⟩,⟨p1,j⟩,⟨p2,g3⟩⟩:=El T (turnedPoly T);obtain⟨c,hc,gp⟩:=Nq s;have b:=TR T (turnedPoly T);have F:dJ (gcdPoly T (turnedPoly T))≠0:=fun z=>s (by rw[j,z];grind);rw[xS] at *;generalize gcdPoly T (Bx T)=g at *;have i:g≠[]:=fun z=>F (by rw[z];rfl);have gl:lst g≠0:=by rw[<-b];exact iI (by rw[b];exact i)
 have qe:dJ (quot T g)=p1:=MW (by rw[b];exact i) j;have I:dJ T=dJ (trim (quot T g))*dJ g:=by rw[fw,qe,j]
 have ab:dJ (trim (quot T g))≠0:=fun z=>s (by rw[I,z];grind);have w:trim (quot T g)≠[]:=fun z=>ab (by rw[z];rfl);have hl:=iI w;generalize trim (quot T g)=h at *;have sg:=Nr g;have ee:=XR F hc gp;have M:=XS ee;have K:=zO F;have C:withoutZero g≠[]:=fun z=>K (by rw[z];rfl);have el:lst (withoutZero g)≠0:=by
  have:=(PX C (atZero g)).2;rw[<-sg] at this;rw[<-this];exact gl
 have m:g.length=atZero g+(withoutZero g).length:=by
  conv=>lhs;rw[sg]
  exact PV _ _
 obtain⟨af,ac⟩:=T2 C el M;have F0:valueAt (evenPart (withoutZero g)) 0≠0:=by
  have:=(JE _ _ (aj _) M).1 0;rw[show(0:Rat)*0=0 by grind] at this;rw[<-this];exact K
 obtain⟨ρ,hρ,f⟩:=TX (withoutZero g) M (atZero g);rw[<-sg] at f;have dg:degree g=atZero g+2*degree (evenPart (withoutZero g)):=by
  have:degree g=g.length - 1:=by unfold degree;rw[b]
  rw[this,m,ac];obtain⟨c,e⟩:∃c,(withoutZero g).length=2*c+1:=⟨_,af▸(Nat.div_add_mod _ 2).symm⟩;rw[e];exact congrArg (_+2*·) (zDv c).symm
 have ad:0<h.length:=aq.mpr w;have L:p.length - 1=atZero g+2*degree (evenPart (withoutZero g))+(h.length - 1):=by
  have:=VS w i hl gl I;have tT:trim T=T:=km W lT;rw[tT] at this;rw[eL,this,<-dg];have:degree g=g.length - 1:=by unfold degree;rw[b]
  have ae:0<g.length:=aq.mpr i;rw[this,Nat.sub_right_comm,Nat.add_comm,Nat.add_sub_assoc ad,Nat.sub_add_comm ae]
 have aa:dJ T=dJ (mulPoly h g):=by rw[DE];exact I
 obtain⟨t,B⟩:=JD aa;rw[JB] at t;rw[JC] at B;have eS:dJ (rl p)=dJ (scalePoly q T):=by rw[m5];exact e'
 obtain⟨s1,s2⟩:=JD eS;rw[(PZ q T).1] at s1;rw[(PZ q T).2] at s2;obtain⟨H,o⟩:=Q4 p;rw[s1] at H;rw[s2] at o;obtain⟨d,A⟩:=XT w;have back:∀D:PF,(∃x,dO (dH p 0)=D*x)->(∃y,dO (dH p 1)=D*y)->∃J,wp (atZero g)*ic (dJ (evenPart (withoutZero g)))=D*J:=fun D ⟨x,hx⟩ ⟨y,hy⟩=>by
  obtain⟨k,rfl⟩:=PF.list u;obtain⟨n,rfl⟩:=PF.list v;have R:dJ g=dJ (addPoly (mulPoly k T) (mulPoly n (Bx T))):=by
   rw[VP,DE,DE];exact g1
  obtain⟨c1,c2⟩:=JD R;rw[VN,JB,JB,(PY T).1,(PY T).2] at c1;rw[VO,JC,JC,(PY T).1,(PY T).2] at c2;have qi:=sC q0;have a:zL T=D*(PF.const (1 / q)*x):=by
   have:=Gs (X:=zL T) qi;rw[<-H,hx] at this;rw[this];grind
  have Q:zM T=D*(PF.const (1 / q)*y):=by
   have:=Gs (X:=zM T) qi;rw[<-o,hy] at this;rw[this];grind
  generalize PF.const (1 / q)*x=X at a;generalize PF.const (1 / q)*y=Y at Q;have ρi:=sC (c:=ρ) (by rcases hρ with z |z <;>rw[z] <;>grind);rcases f with⟨_,z1,z2⟩ |⟨_,z1,z2⟩
  ·refine⟨PF.const (1 / ρ)*(zL k*X - zM k*Y+(zL n*X+zM n*Y)),?_⟩;have:=Gs (X:=wp (atZero g)*ic (dJ (evenPart (withoutZero g)))) ρi;rw[<-z1,c1,a,Q] at this;rw[this];grind
  ·refine⟨PF.const (1 / ρ)*(zL k*Y+zM k*X+(zM n*X - zL n*Y)),?_⟩;have:=Gs (X:=wp (atZero g)*ic (dJ (evenPart (withoutZero g)))) ρi;rw[<-z2,c2,a,Q] at this;rw[this];grind
 have h4:(h.length - 1) % 4=0\/(h.length - 1) % 4=1\/(h.length - 1) % 4=2\/(h.length - 1) % 4=3:=by lia
 have S:q*ρ≠0:=fq q0 (by rcases hρ with z |z <;>rw[z] <;>grind);have par:(p.length - 1) % 2=(atZero g+(h.length - 1)) % 2:=by lia
 generalize N:wp (atZero g)*ic (dJ (evenPart (withoutZero g)))=G at *;have mk:∀τ:Rat,τ≠0->((p.length - 1) % 2=0->dO (dH p 0)=PF.const τ*G*dJ (alternate h 0)/\dO (dH p 1)=PF.const (-τ)*G*dJ (alternate h 1))->((p.length - 1) % 2=1->dO (dH p 1)=PF.const τ*G*dJ (alternate h 0)/\dO (dH p 0)=PF.const τ*G*dJ (alternate h 1))->∃τ:Rat,Ax p (atZero g) (evenPart (withoutZero g)) h τ/\degree T=p.length - 1/\degree g=atZero g+2*degree (evenPart (withoutZero g)):=fun τ τ0 a x2=>
  ⟨τ,⟨τ0,F0,w,hl,par,L,by rw[N];exact a,by rw[N];exact x2,by rw[N];exact back⟩,dP,dg⟩
 have pos:∀X Y:PF,PF.const q*(X*(PF.const ρ*Y))=PF.const (q*ρ)*Y*X:=fun X Y=>by rw[gA];grind
 have l:PF.const (-(q*ρ))= -PF.const (q*ρ):=(neg_const _).symm;rcases f with⟨kp,z1,z2⟩ |⟨kp,z1,z2⟩
 ·rw[z1,z2] at t B;have E:dO (dH p 0)=PF.const (q*ρ)*G*zL h:=by rw[H,t,<-pos];grind
  have O:dO (dH p 1)=PF.const (q*ρ)*G*zM h:=by rw[o,B,<-pos];grind
  rcases h4 with r |r |r |r
  ·rw[r] at d A;simp only[if_true] at d A;refine mk (q*ρ) S (fun _=>⟨by rw[E,d],by rw[O,A,l];grind⟩) fun z=>absurd z (by lia)
  ·rw[r] at d A;simp at d A;refine mk (q*ρ) S (fun z=>absurd z (by lia)) fun _=>⟨by rw[O,d],by rw[E,A]⟩
  ·rw[r] at d A;simp at d A;refine mk (-(q*ρ)) (by grind) (fun _=>⟨by rw[E,d,l];grind,by rw[O,A,show - -(q*ρ)=q*ρ by grind]⟩) fun z=>absurd z (by lia)
  ·rw[r] at d A;simp at d A;refine mk (-(q*ρ)) (by grind) (fun z=>absurd z (by lia)) fun _=>⟨by rw[O,d,l];grind,by rw[E,A,l];grind⟩
 ·rw[z1,z2] at t B;have E:dO (dH p 0)= -(PF.const (q*ρ)*G*zM h):=by rw[H,t,<-pos];grind
  have O:dO (dH p 1)=PF.const (q*ρ)*G*zL h:=by rw[o,B,<-pos];grind
  rcases h4 with r |r |r |r
  ·rw[r] at d A;simp only[if_true] at d A;refine mk (q*ρ) S (fun z=>absurd z (by lia)) fun _=>⟨by rw[O,d],by rw[E,A];grind⟩
  ·rw[r] at d A;simp at d A;refine mk (-(q*ρ)) (by grind) (fun _=>⟨by rw[E,d,l];grind,by rw[O,A,show - -(q*ρ)=q*ρ by grind]⟩) fun z=>absurd z (by lia)
  ·rw[r] at d A;simp at d A;refine mk (-(q*ρ)) (by grind) (fun z=>absurd z (by lia)) fun _=>⟨by rw[O,d,l];grind,by rw[E,A,l];grind⟩
  ·rw[r] at d A;simp at d A;refine mk (q*ρ) S (fun _=>⟨by rw[E,d];grind,by rw[O,A,l];grind⟩) fun z=>absurd z (by lia)
theorem T3:(p.length:Int) - 1=((zerosOf P).all:Int)/\(xT p).left=((zerosOf P).left:Int)/\(xT p).axis=((zerosOf P).axis:Int)/\(xT p).right=((zerosOf P).right:Int):=by
 obtain⟨τ,A,b,t⟩:=WH tp hp q0 e;obtain⟨L,c,f,B,u,r,n,o,C,H,j,a,s⟩:=VT A;have pl:0<p.length:=aq.mpr hp;have v:0<(trim (quot (trim P) (gcdPoly (trim P) (turnedPoly (trim P))))).length:=aq.mpr A.hn;have d:degree (trim (quot (trim P) (gcdPoly (trim P) (turnedPoly (trim P)))))=(trim (quot (trim P) (gcdPoly (trim P) (turnedPoly (trim P))))).length - 1:=by unfold degree;rw[wo]
 have N:=A.len;have l:=A.F0;unfold zerosOf;dsimp only;rw[s];dsimp only;unfold zerosBelow;generalize trim (quot (trim P) (gcdPoly (trim P) (turnedPoly (trim P))))=h at *;generalize evenPart (withoutZero (gcdPoly (trim P) (turnedPoly (trim P))))=F at *;generalize atZero (gcdPoly (trim P) (turnedPoly (trim P)))=k at *;have S:=iH F;have w:UT L=(k:Int)+2*(belowOn (F.length+1) F:Int):=TN L.length L k F c (F.length+1) (aj _) u r n l o (by lia);have G:=Lr (F.length+1) F l (by lia);rw[w,a,b,t,d];generalize belowOn (F.length+1) F=z at *;generalize degree F=i at *;have two:∀x y:Int,x=2*y->x.fdiv 2=y:=fun x y h=>by rw[h,Int.mul_comm,c5 _ (by decide)]
 obtain⟨m,I⟩:∃m:Nat,h.length - 1+B - f=2*m:=⟨(h.length - 1+B - f) / 2,by lia⟩;rw[I,zDv,Nat.add_sub_add_left,<-Nat.mul_sub,zDv];have N:(p.length:Int) - 1=k+2*i+(h.length - 1:Nat):=by lia
 have I:((h.length - 1:Nat):Int)+B=f+2*m:=by lia
 generalize h.length - 1=x at *;rw[N];refine⟨by lia,?_,by lia,?_⟩
 ·rw[two _ ((i:Int) - z+x - m) (by lia),Int.natCast_add,Int.ofNat_sub G,Int.ofNat_sub (show m<=x by lia),Int.add_sub_assoc]
 ·rw[two _ ((i:Int) - z+m) (by lia),Int.natCast_add,Int.ofNat_sub G]
end
def modes(l:List Int):List Int:=if gi l≠[] then gi l else match point (gV l) with
 |none=>[-4]
 |some pt=>match sol (rows (ji (gV l) pt.1 (-1))) with
  |none=>[]
  |some s=>[0,(s.1.length:Int) - 1,(xT s.1).left,(xT s.1).axis,(xT s.1).right]
theorem Ia (h:xI 0 n.dc.length st r):m8 n (ji n st (-1)) (Net.quiet r):=by
 have dv:∀k,k<n.dc.length->(ji n st (-1)).drives.getD k (0,1)=(0,1):=fun k d=>by
  have:(ji n st (-1)).drives.getD k (0,1)=if(k:Int)= -1 then(1,1) else(0,1):=qR _ _ _ _ d;rw[this,ah (by lia)]
 refine⟨rfl,fun k d=>h.2.2 k (aR _),fun k d _=> ?_,fun k d _=> ?_⟩
 ·rw[dv k d];exact⟨by decide,by show(0:Rat)=_;decide +kernel⟩
 ·rw[dv k d];exact⟨by decide,by show(0:Rat)=_;decide +kernel⟩
structure Qt(n:Nw)(r:List Nat)(d:dQ)(tops:List dQ):Prop where
 len:tops.length=(dw n).unknowns
 D7:Trim d
 Yj:d≠[]
 ex:∃q:Rat,q≠0/\dO d=PF.const q*dJ ((dw n).determinant (Net.quiet r))
theorem Ib (R:Right n)(h:xI 0 n.dc.length st r)(B:(det (dw n).unknowns (Sm n ((dw n).rest r) 0)).f 0≠0):
  ∃d A,sol (rows (ji n st (-1)))=some (d,A)/\Qt n r d A:=by
 have l:=K8 R (Ia h);have k:dO (ji n st (-1)).s=XX:=rfl;rw[k] at l;rcases l with⟨d,A,e,tl,td,dn,tt,q,hq,hd,ht⟩ |⟨_,z,_⟩
 ·exact⟨d,A,e,tl,td,dn,q,hq,by rw[hd,EA R]⟩
 ·exfalso;refine B ?_;have x:=M8 R ((dw n).rest r) 0 0 0 rfl;have i:=M8 R (Net.quiet r) XX 0 0 (Zg 0);rw[<-x,QY (dw n) ((dw n).rest r) (Net.quiet r) (fun _=>rfl) 0,i,z];rfl
theorem XW (R:Right n)(D:Qt n r d A):d.length<=11:=by
 obtain⟨q,f,l⟩:=D.ex;obtain⟨i,_⟩:=XI R (G:=Net.quiet r);exact I0 D.D7 (c:=1) (by decide) (by rw[fN,l];have:=i.smul q;rw[show(1:PF)*(PF.const q*dJ ((dw n).determinant (Net.quiet r)))=PF.const q*dJ ((dw n).determinant (Net.quiet r)) by grind];exact this)
theorem T4 (l):modes l=PyWrwirb.modes l:=by
 have e:PyWrwirb.modes l=WhBNeutral.shown (WhB.answer (.modes l)):=rfl;rw[e];unfold WhB.answer;dsimp only;rw[S9];unfold modes;by_cases i:gi l=[]
 rotate_left
 ·rw[ai i,ai i]
 rw[ah (fun z:gi l≠[]=>z i),ah (fun z:gi l≠[]=>z i)];obtain⟨R,s⟩:=right_of i;unfold WhB.ofPoint;have A:=HM R;cases x:point (gV l) with
 |none=>
  rw[x] at A;cases f:(dw (gV l)).point with
  |none=>rfl
  |some y=>rw[f] at A;exact A.elim
 |some p=>
  rw[x] at A;cases f:(dw (gV l)).point with
  |none=>rw[f] at A;exact A.elim
  |some y=>
   rw[f] at A;obtain⟨_,k,t⟩:=A;obtain⟨d,r,v,D⟩:=Ib R k t;obtain⟨q,a,B⟩:=D.ex;dsimp only;rw[v];dsimp only;have w:¬isZero ((dw (gV l)).determinant (Net.quiet y.1))=true:=fun z=>by
    have:=(fU _).mp z;rw[this] at B;exact Jc D.D7 D.Yj (by rw[B];grind)
   rw[ah w];obtain⟨h,b,u,n⟩:=T3 D.D7 D.Yj a B;rw[h,b,u,n];rfl
theorem VU (l)(i):(mP l).getD i 0= -l.getD i 0:=by
 unfold mP;rw[gDe,aD,gDe];cases l[i]? <;>simp
theorem T5 (h:Mg γ l):Mg γ (mP l):=fun i=>by
 rw[VU,Int.natAbs_neg];exact h i
def RM(b:Nat):Nat->dQ->dQ->Prop
 |0,_,_=>True
 |f+1,l,s=>s=[]\/(WM b (l.length+1) l (if 0<lc s then s else mP s)/\RM b f s (mP (prim (jP l s))))
theorem T6:∀(f:Nat) (l s:dQ) (y:Nat),Trim l->Trim s->s.length<l.length->l.length+y=11->Mg (pl y*b) l->Mg (pl (y+1)*b) s->RM (13860*b) f l s
 |0,_,_,_,_,_,_,_,_,_=>trivial
 |f+1,l,s,y,x,k,t,n,v,A=>by
  by_cases d:s=[]
  ·exact .inl d
  have q:1<=s.length:=aq.mpr d;obtain⟨g,a⟩:∃g,l.length=s.length+g+1:=⟨l.length - s.length - 1,by lia⟩;have gap:=Tn y g;have top:pl (y+g+2)<=13860:=by
   have:pl (y+g+2)<=pl 11:=Dt (by lia);have e:pl 11=13860:=by decide
   lia
  have key:pl y*b+(g+2)*(pl (y+1)*b)<=pl (y+g+2)*b:=by
   rw[<-Nat.mul_assoc,<-Nat.add_mul];exact cq _ gap
  have lim:pl (y+g+2)*b<=13860*b:=cq _ top;have i:(if 0<lc s then s else mP s).length=s.length/\(if 0<lc s then s else mP s)≠[]/\Mg (pl (y+1)*b) (if 0<lc s then s else mP s):=by
   split
   ·exact⟨rfl,d,A⟩
   ·exact⟨jM _,Br d,T5 A⟩
  have B:=Pr (b:=13860*b) i.2.1 i.2.2 (l.length+1) (g+2) (pl y*b) l (by rw[i.1];lia) v (by lia);obtain⟨_,_,_,_,h,w⟩:=DB x k d;refine .inr ⟨B.2,T6 f s (mP (prim (jP l s))) (y+g+1) k (vo (sy w)) ?_ (by lia) (A.mono (cq _ (Dt (by lia)))) ?_⟩
  ·rw[jM,ly];exact h
  ·exact T5 (VF (B.1.mono key))
theorem Ic {T B:dQ}(A:Trim T)(tB:Trim B)(i:T.length<=11)(h:B.length<T.length)(l:Mg b T)(d:Mg b B)(f):RM (13860*b) f T B:=by
 have one:∀y,b<=pl y*b:=fun y=>cQ _ (Dt (m:=0) (aR y));exact T6 f T B (11 - T.length) A tB h (by lia) (l.mono (one _)) (d.mono (one _))
theorem T7 (l):oU (mP l)=oU l:=by
 have:∀m:dQ,oU m=(cont m).natAbs:=fun m=>by rw[zw];rfl
 rw[this,this];unfold cont mP;have h:∀(m:dQ) (z:Int),(m.map fun x=> -x).foldl wJ z=m.foldl wJ z:=fun m=>by
  induction m with
  |nil=>exact fun z=>rfl
  |cons a m d=>
   intro z;show(m.map fun x=> -x).foldl wJ (wJ z (-a))=m.foldl wJ (wJ z a);have:wJ z (-a)=wJ z a:=by unfold wJ;rw[Int.natAbs_neg]
   rw[this,d]
 rw[h]
theorem By:∀(f:Nat) (a b:dQ),b≠[]->Trim a->Trim b->b.length<f->(mi f a b).getLastD []=b\/oU ((mi f a b).getLastD [])=1
 |0,_,_,_,_,_,h=>by lia
 |f+1,a,b,d,e,A,p=>by
  obtain⟨_,_,_,_,v,k⟩:=DB e A d;have s:0<b.length:=aq.mpr d;have x:mi (f+1) a b=a::mi f b (mP (prim (jP a b))):=by
   show(if b=[] then[a] else _)=_;rw[ah d]
  obtain⟨g,rfl⟩:∃g,f=g+1:=⟨f - 1,by lia⟩;by_cases z:jP a b=[]
  ·have u:mi (g+1) b (mP (prim (jP a b)))=[b]:=by
    show(if mP (prim (jP a b))=[] then[b] else _)=_;rw[ai (by rw[z];rfl)]
   rw[x,u];exact .inl rfl
  ·have i:mP (prim (jP a b))≠[]:=Br (Pz z);have l:Trim (mP (prim (jP a b))):=vo (sy k);have o:(mP (prim (jP a b))).length=(jP a b).length:=by rw[jM,ly]
   have n:oU (mP (prim (jP a b)))=1:=by rw[T7];exact SH k z
   have B:=By (g+1) b (mP (prim (jP a b))) i A l (by lia);obtain⟨t,r,_⟩:=Bs (g+1) b (mP (prim (jP a b))) i A l (by lia);rw[x];rw[r] at B⊢;have w:(a::b::mP (prim (jP a b))::t).getLastD []=(b::mP (prim (jP a b))::t).getLastD []:=by
    rw[List.getLastD_eq_getLast?,List.getLastD_eq_getLast?];simp
   rw[w];rcases B with q |q
   ·rw[q];exact .inr n
   ·exact .inr q
theorem Ls{a b:dQ}(d:Trim a)(v:Trim b)(A:b≠[]):∃x:PF,dO a=x*dO ((d6 a b).getLastD []):=by
 obtain⟨t,k,f,_⟩:=nj A d v;obtain⟨D,i,h,w,_,B,_,l,_⟩:=f.red;refine⟨i,?_⟩;rw[k,rH,<-ET];have:ju (dO b) (t.map dO)=D:=B.symm;rw[this,l];grind
theorem T8{T g:dQ}(k:Trim T)(n:T≠[])(t:T.length<=11)(w:ib T<=2^7531)(b:Trim g)(i:g≠[])(q:oU g=1)(h:∃f:PF,dO T=f*dO g):ib g<=2^7702:=by
 obtain⟨f,l⟩:=h;obtain⟨A,B,v⟩:=QN q l;have d:A≠[]:=fun z=>n ((iE k).mp (by
  rw[l,<-v,z];show(0:PF)*_=0;grind))
 have x:dO T=dO g*dO A:=by rw[v,l];grind
 have a:T=iQ g A:=y8 k (wg b B) (by rw[l9];exact x);have s:T.length=g.length+A.length - 1:=by rw[a,DX i d]
 have r:0<A.length:=aq.mpr d;have u:0<g.length:=aq.mpr i;have:=XH t B d (by lia) (by lia) x;refine aB this ?_;have e:cB 20 11*(ib T*20^11)=(cB 20 11*20^11)*ib T:=by
  rw[Nat.mul_comm (ib T),Nat.mul_assoc]
 rw[e,show(7702:Nat)=171+7531 from rfl,Nat.pow_add];exact bW Zn w
theorem JG:∀(l:dQ) (n K:Nat) (g:Nat->Int->Int),(∀i x,i<n+l.length->(g i x).natAbs<=K*x.natAbs)->ib ((List.range l.length).map fun i=>g (i+n) (l.getD i 0))<=K*ib l
 |[],n,K,g,h=>aR _
 |c::l,n,K,g,h=>by
  rw[ak,List.range_succ_eq_map,aK,aN,fO,fO];have e:((fun i:Nat=>g (i+n) ((c::l).getD i 0)) ∘ Nat.succ)=fun i:Nat=>g (i+(n+1)) (l.getD i 0):=by
   funext i;show g (i+1+n) (l.getD i 0)=_;rw[show i+1+n=i+(n+1) by lia]
  rw[e,Nat.mul_add];have A:(g (0+n) c).natAbs<=K*c.natAbs:=h _ _ (by rw[ak];lia);have d:=JG l (n+1) K g fun i x f=>h i x (by rw[ak];lia);exact Nat.add_le_add A d
theorem T9 (p)(o):ib (dH p o)<=ib p:=by
 unfold dH;refine aB (Jo _) ?_;have:=JG p 0 1 (fun i x=>if i % 2=o then(if i % 4<2 then x else -x) else 0) fun i x _=>by
  (repeat' split) <;>lia
 rw[Nat.one_mul] at this;exact this
theorem VV (h:p.length<=11):ib (mN p)<=10*ib p:=by
 cases p with
 |nil=>exact aR _
 |cons c l=>
  have e:mN (c::l)=(List.range l.length).map fun i:Nat=>((i+1:Nat):Int)*l.getD i 0:=by
   unfold mN;rw[ak,List.range_succ_eq_map,aK,List.drop_one,List.tail_cons,aN];rfl
  rw[e,fO];rw[ak] at h;have:=JG l 1 10 (fun i x=>(i:Int)*x) fun i x d=>by
   rw[cn,Int.natAbs_natCast];exact cq _ (by lia)
  have this:ib ((List.range l.length).map fun i:Nat=>((i+1:Nat):Int)*l.getD i 0)<=10*ib l:=this;lia
def ZM:Nat->dQ->Prop
 |0,_=>True
 |f+1,p=>p.length<=1\/(p.length<=11/\RM (13860*7760) ((mN p).length+1) p (mN p)/\ZM f ((d6 p (mN p)).getLastD []))
theorem WI{T:dQ}(o:Trim T)(H:T≠[])(s:T.length<=11)(u:ib T<=2^7531):∀(f:Nat) (p:dQ),Trim p->p≠[]->p.length<=11->(∃x:PF,dO T=x*dO p)->ib p<=2^(7702+4*(11 - p.length))->ZM f p
 |0,_,_,_,_,_,_=>trivial
 |f+1,p,d,E,v,⟨x,L⟩,r=>by
  by_cases G:p.length<=1
  ·exact .inl G
  have A:=zJ d;have w:=DC p;have l:mN p≠[]:=fun e=>by rw[e] at w;have:0=p.length - 1:=w;lia
  have two:∀{a:Nat},a<=7755->2*2^a<=2^7760:=fun{a} h=>by
   have:2*2^a=2^(a+1):=by rw[Nat.pow_succ];lia
   rw[this];exact bA (by decide) (by lia)
  have C:Mg 7760 p:=Bn (aB (b8 2 r) (two (by lia)));have n:ib (mN p)<=2^(7702+4*(11 - (p.length - 1))):=by
   have N:=VV v;have e:7702+4*(11 - (p.length - 1))=4+(7702+4*(11 - p.length)):=by lia
   rw[e,Nat.pow_add];have:10*ib p<=2^4*2^(7702+4*(11 - p.length)):=bW (by decide) r;lia
  have m:Mg 7760 (mN p):=Bn (aB (b8 2 n) (two (by lia)));refine .inr ⟨v,Ic d A v (by lia) C m _,?_⟩;obtain⟨y,P⟩:=Ls d A l;obtain⟨t,k,j,b,S⟩:=nj l d A;obtain⟨c,I⟩:=zK A l b;have Q:((d6 p (mN p)).getLastD []).length<=(mN p).length:=by
   rw[k,rH];lia
  have B:Trim ((d6 p (mN p)).getLastD []):=by rw[k,rH];exact c
  have i:(d6 p (mN p)).getLastD []≠[]:=by rw[k,rH];exact I
  have dv:∃z:PF,dO T=z*dO ((d6 p (mN p)).getLastD []):=⟨x*y,by rw[L,P];grind⟩;refine WI o H s u f _ B i (by lia) dv ?_;rcases By ((mN p).length+1) p (mN p) l d A (by lia) with q |q
  ·have F:(d6 p (mN p)).getLastD []=mN p:=q;rw[F,w];exact n
  ·refine aB (T8 o H s u B i q dv) (bA (by decide) (by lia))
theorem Zs {p:dQ}(Q:Trim p)(F:p≠[])(g:q≠0)(e:dO p=PF.const q*dJ P)(lp:p.length<=11)(T:ib p<=2^7531):∀a b,(((p.length - 1) % 2=0/\a=dH p 0/\b=dH p 1)\/((p.length - 1) % 2=1/\a=dH p 1/\b=dH p 0))->a≠[]/\RM (13860*7760) (b.length+1) a b/\ZM ((d6 a b).getLastD []).length ((d6 a b).getLastD []):=by
 intro a b N;obtain⟨τ,A,_,_⟩:=WH Q F g e;have K:ic (dJ (evenPart (withoutZero (gcdPoly (trim P) (turnedPoly (trim P))))))≠0:=xP A.F0;have tr:∀o,Trim (dH p o):=fun o=>kZ _;have f:∀o,(dH p o).length<=p.length:=fun o=>by
  unfold dH;exact aB (DW _) (by rw[lMp,a5];exact aj _)
 have pl:0<p.length:=aq.mpr F;have s:alternate (trim (quot (trim P) (gcdPoly (trim P) (turnedPoly (trim P))))) 0≠[]:=fun v=>A.hn (bc.mp (by rw[<-wA _ 0,v];rfl));have E:dJ (alternate (trim (quot (trim P) (gcdPoly (trim P) (turnedPoly (trim P))))) 0)≠0:=fun w=>s (by
  have u:=gB.mp ((fU _).mpr w);rw[km s (by rw[EV A.hn];exact A.hl)] at u;exact u)
 have c:=PF.gI (PF.gI (iY A.τ0) (PF.gI (ES (atZero (gcdPoly (trim P) (turnedPoly (trim P))))) K)) E;have short:∀o,o<2->(p.length - 1) % 2≠o->(dH p o).length<p.length:=fun o M h=>by
  refine Nat.lt_of_le_of_ne (f o) fun z=> ?_;have R:dH p o≠[]:=fun w=>by rw[w] at z;have:0=p.length:=z;lia
  have:=fQ.mp (tr o) R;unfold lc at this;rw[z] at this;unfold dH at this;rw[ze,gDe,aD,bB (by lia)] at this;apply this;show(if(p.length - 1) % 2=o then _ else(0:Int))=0;rw[ah h]
 have I:∀d l:Nat,d<2->l<2->(p.length - 1) % 2=d->(p.length - 1) % 2≠l->dH p d≠[]->(dH p d).length=p.length->RM (13860*7760) ((dH p l).length+1) (dH p d) (dH p l)/\ZM ((d6 (dH p d) (dH p l)).getLastD []).length ((d6 (dH p d) (dH p l)).getLastD []):=fun d l h1 h2 h3 O i hl=>by
  have B:∀o,ib (dH p o)<=2^7531:=fun o=>aB (T9 p o) T;have X:∀o,Mg 7760 (dH p o):=fun o=>Bn (by
   have:2*ib (dH p o)<=2*2^7531:=b8 2 (B o);have e2:2*2^7531=2^7532:=by rw[show(7532:Nat)=1+7531 from rfl,Nat.pow_add]
   have:(2:Nat)^7532<=2^7760:=bA (by decide) (by decide);lia)
  have sb:=short l h2 O;refine⟨Ic (tr d) (tr l) (by have:=f d;lia) (by lia) (X d) (X l) _,?_⟩;have base:∀L:dQ,Trim L->L≠[]->L.length<=11->(∃x:PF,dO (dH p d)=x*dO L)->ib L<=2^7702->ZM L.length L:=fun L C G y n bL=>
   WI (tr d) i (by have:=f d;lia) (B d) _ L C G y n (aB bL (bA (by decide) (by lia)))
  have m:(2:Nat)^7531<=2^7702:=bA (by decide) (by decide);by_cases k:dH p l=[]
  ·rw[k];have J:(d6 (dH p d) []).getLastD []=dH p d:=rfl;rw[J];exact base _ (tr d) i (by have:=f d;lia) ⟨1,by grind⟩ (aB (B d) m)
  ·obtain⟨t,S,ch,j,D⟩:=nj k (tr d) (tr l);obtain⟨C,G⟩:=zK (tr l) k j;have n:=Ls (tr d) (tr l) k;have H:Trim ((d6 (dH p d) (dH p l)).getLastD []):=by rw[S,rH];exact C
   have r:(d6 (dH p d) (dH p l)).getLastD []≠[]:=by rw[S,rH];exact G
   have y:((d6 (dH p d) (dH p l)).getLastD []).length<=11:=by
    rw[S,rH];have:=f l;lia
   refine base _ H r y n ?_;rcases By ((dH p l).length+1) (dH p d) (dH p l) k (tr d) (tr l) (by lia) with w |w
   ·have W:(d6 (dH p d) (dH p l)).getLastD []=dH p l:=w;rw[W];exact aB (B l) m
   ·exact T8 (tr d) i (by have:=f d;lia) (B d) H r w n
 have full:∀o,(p.length - 1) % 2=o->(dH p o).length=p.length:=fun o M=>by
  refine Nat.le_antisymm (f o) (bV fun z=> ?_);have u:=fQ.mp Q F;have:(dH p o).getD (p.length - 1) 0=0:=by rw[gDe,aO (by lia)];rfl
  unfold dH at this;rw[ze,gDe,aD,bB (by lia)] at this;have this:(if(p.length - 1) % 2=o then(if(p.length - 1) % 4<2 then p.getD (p.length - 1) 0 else -p.getD (p.length - 1) 0) else 0)=0:=this;rw[ai M] at this;apply u;unfold lc;split at this <;>lia
 rcases N with⟨h,rfl,rfl⟩ |⟨h,rfl,rfl⟩
 ·have i:dH p 0≠[]:=fun w=>c (by rw[<-(A.evn h).1,w];rfl);exact⟨i,I 0 1 (by decide) (by decide) h (by lia) i (full 0 h)⟩
 ·have i:dH p 1≠[]:=fun w=>c (by rw[<-(A.odd h).1,w];rfl);exact⟨i,I 1 0 (by decide) (by decide) h (by lia) i (full 1 h)⟩
end di
namespace Kh
open di
open PySem PySem.Spec PyProof.Rows L2
noncomputable def top(i:Nat):Stmt:=PySem.Challenge.pw_wirequotients_s03_modes.main.body.getD i (.Pass ⟨0,0,0,0⟩)
structure Txt(mg:Str->Option Value):Prop where
 g8:mg "len"=none
 EW:mg "list"=none
 Ua:mg "max"=none
 Ub:mg "sum"=none
 Lu:mg "all"=none
 Qa:mg "any"=none
 Lw:mg "abs"=none
 kn:mg "range"=none
 gK:mg "enumerate"=none
 Uc:mg "zip"=none
 EX:mg "reversed"=none
def fI(H:Hp)(v:V)(l:List Int):Prop:=∃a,v= .ref a/\H a=some (.lst (l.map V.int))
theorem fI.same (h:fI H v l)(s:dN H d):fI d v l:=by obtain⟨a,e,q⟩:=h;exact⟨a,e,s _ _ q⟩
def uP(H:Hp)(Q:VK)(l:List Int):Prop:=∀p d,H p=none->dN H d->d p=some (.lst (l.map V.int))->Q (.ref p) d
theorem uP.of (k:uP H Q l)(s:dN H H1):uP H1 Q l:=fun p i A d e=>k p i (s.free A) (s.trans d) e
section
variable {P:Program}{w:World}{K:PySem.W.Frag}{mg:Str->Option Value}{base:Heap}
abbrev xU:Stmt:=top 15
theorem Lx:dD ["x"] ["x"] (dk xU):=sco
def Ly:Sp:=fun d H Q _=>∃x:Int,d=[.int x]/\uP H Q (di.cst x)
abbrev tJ P w K mg base:=iT P w K mg base "constant" ["x"] 1 Ly
theorem Lz(G:jc K mg "constant" xU ["x"]):tJ P w K mg base:=by
 have l:=Lx;refine G.jy l ?_;rintro _ _ _ _ _ _ _ _ _ i ⟨x,rfl,k⟩;refine⟨rfl,_,(dq (dE (jQ (e9 Ce (pv 0) dC (eO _)) (d9 (c9 (pv 0) de)) (d9 de)))),?_⟩;refine⟨_,rfl,rfl,_,rfl,?_⟩;by_cases A:x=0
 ·subst A;refine Wo rfl ?_;exact⟨aR _,fun p d=>k p _ d (dz d) dj⟩
 ·have e:(!decide (V.int x=V.int 0))=true:=by simp[A]
  rw[e];refine fz ⟨_,rfl,dy (by simp),fun p d=>k p _ d (dz d) ?_⟩;rw[dj];unfold di.cst;rw[ah A];rfl
abbrev Bz:Stmt:=top 14
theorem Nu:dD ["coefficients","length"] ["coefficients"] (dk Bz):=sco
def Nv:Sp:=fun d H Q _=>∃v c,d=[v]/\fI H v c/\uP H Q (Mf c)
abbrev BA P w K mg base:=iT P w K mg base "trimmed" ["coefficients"] 1 Nv
theorem Ny(T:Txt mg)(G:jc K mg "trimmed" Bz ["coefficients"]):BA P w K mg base:=by
 have l:=Nu;refine G.jy l ?_;rintro _ _ _ _ _ H _ Q _ s ⟨v,c,rfl,⟨a,rfl,f⟩,k⟩;refine⟨rfl,_,(dh (dX (i:=1) l.nd (eC (eY K) rfl T.g8 eh (c9 (pv 0) de)))
   (dh (u0 PassesOwn.never (PW.pt (Mq (e9 uH (pv 1) dC (eO _)) (IB (e9 iV (d8 (jq K) (pv 0) (eZ jE (pv 1) dC) (fun _ _=>rfl)) dC (eO _))))) (dq (ID (i:=1) l.nd rfl (Or.inl rfl) dC R1)))
   (dq (dE (sr (Yh K) (pv 0) De (qN (pv 1))))))),?_⟩
 refine⟨_,rfl,a,_,rfl,.inl (.of f),?_⟩;refine⟨fun m σ d=>d=H/\m<=c.length/\σ=[some (.ref a),some (.int (m:Int))]/\vj c c.length=vj c m,⟨c.length,rfl,aj _,by simp[L2.start],rfl⟩,?_⟩;rintro m σ d ⟨rfl,b,rfl,B⟩;have fin:vj c m=m->uP d Q (c.take m):=fun e=>by
  unfold Mf at k
  rwa [B,e] at k
 refine⟨_,rfl,_,_,rfl,rfl,_,rfl,?_⟩;have out:vj c m=m->W3 (tSl (Xh K) (DN 0) OE (Wn (DN 1))) {nx:=fun _ d=>Q .kY d,rt:=Q} [some (.ref a),some (.int (m:Int))] d:=fun e=>by
  refine⟨_,rfl,_,rfl,_,rfl,a,_,rfl,.of f,fun p x=> ?_⟩;refine fin e p _ x (dz x) ?_;rw[dj];unfold wH;rw[HT.qM,lMp,Nat.min_eq_left b];simp[HT.Gf]
 by_cases r:0<m
 ·rw[aw (show(m:Int)>0 by lia)];have h:(c.map V.int)[m - 1]? =some (.int (c.getD (m - 1) 0)):=jf (by lia);refine fz ⟨_,rfl,_,rfl,_,_,rfl,rfl,a,_,_,_,rfl,rfl,.of f,d5 (j:=m - 1) (by lia) h,rfl,_,rfl,?_⟩;obtain⟨n,rfl⟩:∃n,m=n+1:=⟨m - 1,by lia⟩;by_cases A:c.getD n 0=0
  ·have e:decide (V.int (c.getD (n+1 - 1) 0)=V.int 0)=true:=by simpa using A
   rw[e];refine fz ⟨_,fun σ' u q=>⟨n,by lia,q⟩,_,rfl,_,_,rfl,rfl,rfl,by lia,?_,?_⟩
   ·show[some (V.ref a),some (V.int (((n+1:Nat):Int) - 1))]=_;have:((n+1:Nat):Int) - 1=(n:Int):=by lia
    rw[this]
   ·rw[B];show(if c.getD n 0=0 then _ else _)=_;rw[ai A]
  ·have e:decide (V.int (c.getD (n+1 - 1) 0)=V.int 0)=false:=by simpa using A
   rw[e];refine fF (out ?_);show(if c.getD n 0=0 then _ else _)=_;rw[ah A]
 ·have t:m=0:=by lia
  subst t;exact fF (fF (out rfl))
end
theorem eX {α β:Type}(f:α->β)(l:List α)(i)(x)(h:l[i]? =some x):(l.take (i+1)).map f=(l.take i).map f ++ [f x]:=by
 rw[bo,h];simp
theorem jk {l:List Int}{i:Nat}(h:(l.map V.int)[i]? =some v):∃x,l[i]? =some x/\v= .int x:=by
 rw[aD] at h;cases e:l[i]? with
 |none=>rw[e] at h;cases h
 |some x=>rw[e] at h;exact⟨x,rfl,(bf h).symm⟩
theorem fX {α:Type}{l:List α}{x:α}(h:l[i]? =some x):i<l.length:=(bD.mp h).1
section
variable {P:Program}{w:World}{K:PySem.W.Frag}{mg:Str->Option Value}{base:Heap}
def Short(l:List Int):Prop:=l.length<1000000
abbrev wB:Stmt:=top 16
theorem Nz:dD ["polynomial","x"] ["polynomial"] (dk wB):=sco
def NB:Sp:=fun d H Q _=>∃v c,d=[v]/\fI H v c/\Short c/\uP H Q (mP c)
abbrev wC P w K mg base:=iT P w K mg base "negated" ["polynomial"] 1 NB
theorem NC(G:jc K mg "negated" wB ["polynomial"]):wC P w K mg base:=by
 have l:=Nz;refine G.jy l ?_;rintro _ _ _ _ _ _ _ _ _ p ⟨v,c,rfl,⟨a,rfl,t⟩,u,k⟩;refine⟨rfl,_,(dq (dE (mO rfl l.nd (fK (pv 0)) (fC (own:=[("x",1)]) (by show mV ["polynomial","x"] (dk wB) _ _=true;decide +kernel)) (fun _ _ _ _ _=>(fk (i:=1) l.nd)) (fun _ _ _ _ _=>gh) (fun _ _ _ _ _=>(jb gF (pv 1)))))),?_⟩;refine⟨_,rfl,a,rfl,⟨_,.of t⟩,fun D f=>oC (fL (.of t)) f (fun i _ acc=>acc=(c.take i).map fun x=>V.int (-x)) rfl ?_ ?_⟩
 ·rintro i x e s acc o B A d q r h b;obtain⟨z,n,rfl⟩:=jk b;refine⟨rfl,⟨_,rfl,_,rfl,?_⟩⟩;refine gz f q h ?_ ?_
  ·rw[d,lMp,aP];unfold Short at u;exact dI (by lia)
  ·rw[d,eX _ _ _ _ n]
 ·intro e acc B A d;refine k D e f B ?_;rw[A,d,lMp,aQ];unfold mP;rw[aN];rfl
end
noncomputable def arr(n:Nat)(f:Nat->Int):List V:=(List.range n).map fun j=>V.int (f j)
theorem ko (n)(f:Nat->Int):(arr n f).length=n:=by unfold arr;simp
theorem qW (h:i<n):(arr n f)[i]? =some (V.int (f i)):=by
 unfold arr;rw[aD,bB h];rfl
theorem gR (h:∀j,j<n->f j=g j):arr n f=arr n g:=by
 unfold arr;exact aT fun j d=>by rw[h j (aY.mp d)]
theorem zP:(arr n f).set i (V.int z)=arr n fun j=>if j=i then z else f j:=by
 refine List.ext_getElem? fun j=> ?_;rw[cS];by_cases q:i=j
 ·subst q;rw[ai rfl,ko];by_cases h:i<n
  ·rw[ai h,qW h,ai rfl]
  ·rw[ah h];exact(aO (by rw[ko];lia)).symm
 ·rw[ah q];by_cases h:j<n
  ·rw[qW h,qW h,ah (b5 q)]
  ·rw[aO (by rw[ko];lia),aO (by rw[ko];lia)]
theorem EY {l:List Int}(h:l.length=n):l.map V.int=arr n fun j=>l.getD j 0:=by
 refine List.ext_getElem? fun j=> ?_;by_cases q:j<n
 ·rw[qW q,jf (by lia)]
 ·rw[aO (by rw[lMp];lia),aO (by rw[ko];lia)]
theorem DG(n:Nat):(List.replicate n [V.int 0]).flatten=arr n fun _=>0:=by
 unfold arr;induction n with
 |zero=>rfl
 |succ n d=>
  rw[List.replicate_succ',List.flatten_append,d,bX,bC];rfl
theorem imax(a b:Nat):(if(b:Int)>(a:Int) then(b:Int) else(a:Int))=((max a b:Nat):Int):=by
 split <;>lia
section
variable {P:Program}{w:World}{K:PySem.W.Frag}{mg:Str->Option Value}{base:Heap}
abbrev JH:Stmt:=top 17
theorem Ud:dD ["left","right","result","power","x","y"] ["left","right"] (dk JH):=sco
def Ue:Sp:=fun d H Q _=>∃v u l r,d=[v,u]/\fI H v l/\fI H u r/\Short l/\Short r/\uP H Q (Gm l r)
abbrev JI P w K mg base:=iT P w K mg base "added" ["left","right"] 2 Ue
theorem Ug(T:Txt mg)(pB:BA P w K mg base)(G:jc K mg "added" JH ["left","right"]):JI P w K mg base:=by
 have B:=Ud;refine G.jy B ?_;rintro _ _ _ _ s H _ _ _ hr ⟨v,u,l,r,rfl,⟨a,rfl,Q⟩,⟨b,rfl,D⟩,hl,aa,k⟩;unfold Short at hl aa;refine⟨rfl,_,(dh (dX (i:=2) B.nd (eZ IL (d9 (c9 dC de)) (eC (Qs rfl) rfl T.Ua MD (c9 (eC (eY K) rfl T.g8 eh (c9 (pv 0) de)) (c9 (eC (eY K) rfl T.g8 eh (c9 (pv 1) de)) de)))))
   (dh (hW PassesOwn.never rfl (oQ rfl T.gK (c9 (pv 0) de)) (j8 K (n:=2) rfl (fu (fk (i:=3) B.nd) (fu (fk (i:=4) B.nd) j7))) (dq (AV (pv 4) (AU (pv 2) (pv 3) set_list))))
   (dh (hW PassesOwn.never rfl (oQ rfl T.gK (c9 (pv 1) de)) (j8 K (n:=2) rfl (fu (fk (i:=3) B.nd) (fu (fk (i:=5) B.nd) j7))) (dq (IE (pv 2) (pv 3) xx (pv 5) IF set_list)))
   (dq (dE (dB pB hr (c9 (pv 2) de))))))),?_⟩
 refine⟨dy (by simp),fun q hq=> ?_⟩;have c:dN H (upd H q (.lst [.int 0])):=dz hq;refine⟨_,rfl,a,_,rfl,.inl (.of (c _ _ Q)),_,rfl,b,_,rfl,.inl (.of (c _ _ D)),_,_,rfl,?_⟩;rw[lMp,lMp,imax];generalize hn:max l.length r.length=n;refine⟨q,_,_,rfl,rfl,dj,by lia,by lia,dy (by simp;lia),fun p hp=> ?_⟩;rw[bK,DG];have I:H p=none:=c.free hp;have O:=c.trans (dz (o:= .lst (arr n fun _=>0)) hp);refine⟨_,rfl,a,_,rfl,.of (O _ _ Q),jR (oR (K:=K) (.of Q)) (fun i σ f=>∃A d,σ=[some (.ref a),some (.ref b),some (.ref p),A,d,none]/\dN H f/\f p=some (.lst (arr n fun j=>if j<i then l.getD j 0 else 0))) ?_ (by rintro i σ f ⟨_,_,_,s,_⟩;exact s) ?_ ?_⟩
 ·exact⟨none,none,rfl,O,by rw[dj];simp⟩
 ·rintro i x σ H1 J hi ⟨A,d,rfl,N,h⟩ s4 ab ⟨t,y,rfl,L,M⟩;obtain⟨z,S,rfl⟩:=jk M;have R:=fX S;refine⟨t,_,rfl,.of L,rfl,_,_,rfl,_,_,rfl,rfl,?_⟩;refine⟨_,rfl,_,rfl,_,rfl,p,_,_,i,rfl,rfl,ab _ _ h,sV rfl (by rw[ko];lia),?_⟩;refine⟨_,_,rfl,s4.over I,?_⟩;rw[dj,zP];refine congrArg (fun q=>some (HO.lst q)) (gR fun j E=> ?_);by_cases e:j=i
  ·subst e;rw[ai rfl,ai (by lia),gDe,S];rfl
  ·rw[ah e];by_cases C:j<i
   ·rw[ai C,ai (by lia)]
   ·rw[ah C,ah (by lia)]
 ·rintro σ H1 ⟨A,d,rfl,N,h⟩;refine⟨_,rfl,b,_,rfl,.of (N _ _ D),jR (oR (K:=K) (.of D)) (fun i σ f=>∃A d X,σ=[some (.ref a),some (.ref b),some (.ref p),A,d,X]/\dN H f/\f p=some (.lst (arr n fun j=>l.getD j 0+if j<i then r.getD j 0 else 0))) ?_ (by rintro i σ f ⟨_,_,_,_,s,_⟩;exact s) ?_ ?_⟩
  ·refine⟨_,_,_,rfl,N,?_⟩;rw[h];refine congrArg (fun q=>some (HO.lst q)) (gR fun j E=> ?_);rw[lMp];by_cases e:j<l.length
   ·rw[ai e,ah (by lia)];lia
   ·rw[ah e,ah (by lia),gDe,aO (by lia)];rfl
  ·rintro i x σ J H3 hi ⟨A,d,X,rfl,s5,F⟩ s6 g ⟨t,y,rfl,L,M⟩;obtain⟨z,S,rfl⟩:=jk M;have R:=fX S;have m:=g _ _ F;refine⟨t,_,rfl,.of L,rfl,_,_,rfl,_,_,rfl,rfl,?_⟩;refine⟨_,rfl,_,rfl,p,_,_,i,_,rfl,rfl,.of m,rfl,qW (by lia),_,rfl,_,_,rfl,rfl,p,_,_,i,rfl,rfl,m,sV rfl (by rw[ko];lia),?_⟩;refine⟨_,_,_,rfl,s6.over I,?_⟩;rw[dj,zP];refine congrArg (fun q=>some (HO.lst q)) (gR fun j E=> ?_);by_cases e:j=i
   ·subst e;rw[ai rfl,ah (by lia),ai (by lia),gDe (l:=r),S];simp
   ·rw[ah e];by_cases C:j<i
    ·rw[ai C,ai (by lia)]
    ·rw[ah C,ah (by lia)]
  ·rintro σ J ⟨A,d,X,rfl,s5,F⟩;refine⟨_,rfl,.ref p,ja l r,rfl,⟨p,rfl,?_⟩,k.of s5⟩;rw[F,EY (l:=ja l r) (n:=n) (by rw[lh];exact hn)];refine congrArg (fun q=>some (HO.lst q)) (gR fun j E=> ?_);rw[lMp,jt];by_cases e:j<r.length
   ·rw[ai e]
   ·rw[ah e,gDe (l:=r),aO (by lia)];rfl
end
section
variable {P:Program}{w:World}{K:PySem.W.Frag}{mg:Str->Option Value}{base:Heap}
abbrev tK:Stmt:=top 18
theorem Gw:dD ["left","right"] ["left","right"] (dk tK):=sco
def Gx:Sp:=fun d H Q _=>∃v u l r,d=[v,u]/\fI H v l/\fI H u r/\Short l/\Short r/\uP H Q (wI l r)
abbrev oX P w K mg base:=iT P w K mg base "subtracted" ["left","right"] 3 Gx
theorem Gy(t:wC P w K mg base)(h:JI P w K mg base)(G:jc K mg "subtracted" tK ["left","right"]):oX P w K mg base:=by
 have x:=Gw;refine G.jy x ?_;rintro _ _ _ _ _ _ _ _ _ A ⟨v,u,l,r,rfl,pl,B,f,d,k⟩;refine⟨rfl,_,(dq (dE (dB h A (c9 (pv 0) (c9 (dB t A (c9 (pv 1) de)) de))))),?_⟩;refine⟨_,rfl,_,rfl,_,_,rfl,B,d,fun p q a i e=> ?_⟩;exact⟨_,_,l,mP r,rfl,pl.same i,⟨p,rfl,e⟩,f,by unfold Short at *;rw[jM];exact d,k.of i⟩
abbrev rK:Stmt:=top 21
theorem EZ:dD ["polynomial"] ["polynomial"] (dk rK):=sco
def Fb:Sp:=fun d H Q _=>∃v c,d=[v]/\fI H v c/\Q (.int (fA c)) H
abbrev xc P w K mg base:=iT P w K mg base "constant_of" ["polynomial"] 1 Fb
theorem Fc(G:jc K mg "constant_of" rK ["polynomial"]):xc P w K mg base:=by
 have A:=EZ;refine G.jy A ?_;rintro _ _ _ _ _ _ _ _ _ l ⟨v,c,rfl,⟨a,rfl,d⟩,k⟩;refine⟨rfl,_,(dq (dE (jQ (fG K (pv 0) (fun _=>rfl)) (d8 (jq K) (pv 0) dC (fun _ _=>rfl)) dC))),?_⟩;refine⟨_,rfl,_,.inl ⟨_,.of d,rfl⟩,?_⟩;cases c with
 |nil=>exact fF k
 |cons z c=>exact fz ⟨_,rfl,lW (.of d) (d5 (j:=0) rfl rfl) k⟩
abbrev lO:Stmt:=top 22
theorem wL:dD ["x","y","large","small","rest"] ["x","y"] (dk lO):=sco
def wM:Sp:=fun d H Q _=>∃x y:Int,d=[.int x,.int y]/\Q (.int (wJ x y)) H
theorem Zt (x):(if x<0 then -x else x)=(x.natAbs:Int):=by split <;>lia
abbrev pV P w K mg base:=iT P w K mg base "greatest_divisor" ["x","y"] 1 wM
theorem wN(T:Txt mg)(G:jc K mg "greatest_divisor" lO ["x","y"]):pV P w K mg base:=by
 have d:=wL;refine G.jy d ?_;rintro _ _ _ _ _ H _ _ _ v ⟨x,y,rfl,k⟩;refine⟨rfl,_,(dh (dX (i:=2) d.nd (eC DQ rfl T.Lw xB (c9 (pv 0) de)))
   (dh (dX (i:=3) d.nd (eC DQ rfl T.Lw xB (c9 (pv 1) de)))
   (dh (u0 PassesOwn.never (e9 Ce (pv 3) dC (eO _)) (dh (dX (i:=4) d.nd (eZ AX (pv 2) (pv 3)))
   (dh (dX (i:=2) d.nd (pv 3))
   (dq (dX (i:=3) d.nd (pv 4))))))
   (dq (dE (pv 2)))))),?_⟩
 refine⟨_,rfl,_,rfl,_,rfl,_,rfl,?_⟩;rw[Zt,Zt];refine⟨fun m σ l=>∃(g:Nat) (z:Option V),l=H/\σ=[some (.int x),some (.int y),some (.int (g:Int)),some (.int (m:Int)),z]/\Nat.gcd g m=Nat.gcd x.natAbs y.natAbs,⟨y.natAbs,x.natAbs,none,rfl,rfl,rfl⟩,?_⟩;rintro m σ l ⟨g,z,rfl,rfl,f⟩;refine⟨_,rfl,rfl,_,rfl,?_⟩;by_cases A:m=0
 ·subst A;refine Wo rfl ?_;refine⟨_,rfl,?_⟩;unfold wJ at k;rw[<-f,Nat.gcd_zero_right] at k;exact k
 ·have e:(!decide (V.int (m:Int)=V.int 0))=true:=by simp[A]
  rw[e];refine fz ⟨_,fun σ' B q=>⟨g % m,Nat.mod_lt _ (by lia),q⟩,_,rfl,_,rfl,j9 ⟨by lia,?_⟩⟩;refine⟨_,rfl,_,rfl,m,some (.int ((g:Int) % (m:Int))),rfl,?_,?_⟩
  ·show[some (V.int x),some (V.int y),some (V.int (m:Int)),some (V.int ((g:Int) % (m:Int))),some (V.int ((g:Int) % (m:Int)))]=_;rw[<-Int.natCast_emod]
  ·rw[Nat.gcd_comm,<-Nat.gcd_rec,Nat.gcd_comm];exact f
abbrev BB:Stmt:=top 23
theorem NF:dD ["polynomial","result","x"] ["polynomial"] (dk BB):=sco
def NG:Sp:=fun A H Q _=>∃v c,A=[v]/\fI H v c/\∀d,dN H d->Q (.int (di.cont c)) d
abbrev Ie P w K mg base:=iT P w K mg base "content" ["polynomial"] 2 NG
theorem NH(b:pV P w K mg base)(G:jc K mg "content" BB ["polynomial"]):Ie P w K mg base:=by
 have d:=NF;refine G.jy d ?_;rintro _ _ _ _ _ H _ _ _ h ⟨v,c,rfl,⟨a,rfl,f⟩,k⟩;refine⟨rfl,_,(dh (dX (i:=1) d.nd dC)
   (dh (hW PassesOwn.never rfl (fK (pv 0)) (fk (i:=2) d.nd) (dq (dX (i:=1) d.nd (dB b h (c9 (pv 1) (c9 (pv 2) de))))))
   (dq (dE (pv 1))))),?_⟩
 refine⟨_,rfl,a,rfl,⟨_,.of f⟩,jR (fL (K:=K) (.of f)) (fun i σ l=>∃z,dN H l/\σ=[some (.ref a),some (.int ((c.take i).foldl wJ 0)),z]) ⟨none,.refl _,rfl⟩ (by rintro i σ l ⟨_,e,_⟩;exact e) ?_ ?_⟩
 ·rintro i x σ B n s ⟨z,u,rfl⟩ A r t;obtain⟨y,q,rfl⟩:=jk t;refine⟨_,rfl,_,rfl,_,_,rfl,some (.int y),A,?_⟩;rw[bo,q,List.foldl_append];rfl
 ·rintro σ B ⟨z,A,rfl⟩;refine⟨_,rfl,?_⟩;rw[lMp,aQ];exact k B A
abbrev ou:Stmt:=top 24
theorem JJ:dD ["polynomial","divisor","x"] ["polynomial"] (dk ou):=sco
def JK:Sp:=fun d H Q _=>∃v c,d=[v]/\fI H v c/\Short c/\di.Trim c/\uP H Q (di.prim c)
abbrev CA P w K mg base:=iT P w K mg base "primitive" ["polynomial"] 41 JK
theorem JL(u:base.NoSeer)(l:P.given.tree=none)(I:Ie P w K mg base)(G:jc K mg "primitive" ou ["polynomial"]):CA P w K mg base:=by
 have B:=JJ;refine G.jy B ?_;rintro f y A outer s H _ _ E n ⟨v,c,rfl,⟨a,rfl,o⟩,L,F,k⟩;have N:QG (IG OK P w K mg base ["polynomial","divisor","x"] "primitive" (dk ou) f y A outer s H E).W2:=⟨u,l,⟨_,outer,rfl,rfl,rfl,rfl,rfl⟩,by have:=n.dp;show(A.deeper _).depth+100<_;lia⟩;refine⟨rfl,_,(dh (dX (i:=1) B.nd (dB I n (c9 (pv 0) de)))
   (dq (dE (mO rfl B.nd (fK (pv 0)) (fC (own:=[("x",2)]) (by show mV ["polynomial","divisor","x"] (dk ou) _ _=true;decide +kernel)) (fun _ _ _ _ _=>(fk (i:=2) B.nd)) (fun _ _ _ _ _=>gh) (fun _ _ _ _ _=>(eZ (Sk (QG.Gg N)) (pv 2) (pv 1))))))),?_⟩
 refine⟨_,rfl,_,c,rfl,⟨a,rfl,o⟩,fun g C=> ?_⟩;have h:=C _ _ o;refine⟨_,rfl,a,rfl,⟨_,.of h⟩,fun D b=>oC (fL (.of h)) b (fun i _ acc=>acc=(c.take i).map fun x=>V.int (x.fdiv (di.cont c))) rfl ?_ ?_⟩
 ·rintro i x r J acc X S t d m M p Q;obtain⟨z,q,rfl⟩:=jk Q;have j:di.cont c≠0:=by
   rw[zw];have:=zx F (fun e=>by rw[e] at q;cases q);lia
  refine⟨rfl,⟨_,rfl,_,rfl,j9 ⟨j,?_⟩⟩⟩;refine gz b m p ?_ ?_
  ·rw[d,lMp,aP];unfold Short at L;exact dI (by lia)
  ·rw[d,eX _ _ _ _ q]
 ·intro r acc S t d;refine k.of C D r b S ?_;rw[t,d,lMp,aQ];unfold di.prim;rw[aN];rfl
end
theorem xV (h:l≠[]):Ku (l.map V.int) (-1)=some (V.int (di.lc l)):=by
 have d:0<l.length:=aq.mpr h;unfold Ku Qz;rw[lMp,ah (by decide),ai (by lia)];show(l.map V.int)[(-1+(l.length:Int)).toNat]? =_;rw[zPr,jf (by lia)];rfl
theorem NJ {K:PySem.W.Frag}(h:H a=some (.lst l)):U3 K (.ref a) H (!l.isEmpty):= .inl ⟨_,.of h,rfl⟩
theorem nu (h:l≠[]):(!(l.map V.int).isEmpty)=true:=by
 cases l with
 |nil=>exact absurd rfl h
 |cons=>rfl
section
variable {P:Program}{w:World}{K:PySem.W.Frag}{mg:Str->Option Value}{base:Heap}
abbrev tM:Stmt:=top 19
theorem Gz:dD ["left","right","result","low","x","high","y"] ["left","right"] (dk tM):=sco
def GA:Sp:=fun d H Q _=>∃v u l r,d=[v,u]/\fI H v l/\fI H u r/\Short l/\Short r/\(∀x∈l,∀y∈r,IntMulOk x y)/\uP H Q (iQ l r)
abbrev tN P w K mg base:=iT P w K mg base "multiplied" ["left","right"] 1 GA
theorem GB(T:Txt mg)(G:jc K mg "multiplied" tM ["left","right"]):tN P w K mg base:=by
 have C:=Gz;refine G.jy C ?_;rintro _ _ _ _ s H _ _ _ hr ⟨v,u,l,r,rfl,⟨a,rfl,Q⟩,⟨b,rfl,M⟩,hl,ab,hm,k⟩;unfold Short at hl ab;refine⟨rfl,_,(dh (fS (PW.pt (Oy (oB (fG K (pv 0) (fun _=>rfl))) (Mp (oB (fG K (pv 1) (fun _=>rfl)))))) (dq (dE (d9 de))) fc)
   (dh (dX (i:=2) C.nd (eZ IL (d9 (c9 dC de)) (eZ jE (eZ lJ (eC (eY K) rfl T.g8 eh (c9 (pv 0) de)) (eC (eY K) rfl T.g8 eh (c9 (pv 1) de))) dC)))
   (dh (hW PassesOwn.never rfl (oQ rfl T.gK (c9 (pv 0) de)) (j8 K (n:=2) rfl (fu (fk (i:=3) C.nd) (fu (fk (i:=4) C.nd) j7))) (dq (hW PassesOwn.never rfl (oQ rfl T.gK (c9 (pv 1) de)) (j8 K (n:=2) rfl (fu (fk (i:=5) C.nd) (fu (fk (i:=6) C.nd) j7))) (dq (IE (pv 2) (eZ lJ (pv 3) (pv 5)) xx (eZ iA (pv 4) (pv 6)) IF set_list)))))
   (dq (dE (pv 2)))))),?_⟩
 refine⟨_,rfl,_,NJ Q,?_⟩;by_cases I:l=[]
 ·subst I;refine fz (fz ⟨aR _,fun p d=>k p _ d (dz d) ?_⟩);rw[dj];rfl
 rw[nu I];refine fF ⟨_,rfl,_,NJ M,?_⟩;by_cases c:r=[]
 ·subst c;refine fz ⟨aR _,fun p d=>k p _ d (dz d) ?_⟩;rw[dj];unfold iQ;rw[ai (.inr rfl)];rfl
 rw[nu c];refine fF ?_;have pl:0<l.length:=aq.mpr I;have pr:0<r.length:=aq.mpr c;have em:iQ l r=di.mulL l r:=by
  unfold iQ;rw[ah fun h=>h.elim I c]
 rw[em] at k;have n:=iX l r I c;refine⟨dy (by simp),fun q hq=> ?_⟩;have E:dN H (upd H q (.lst [.int 0])):=dz hq;refine⟨_,rfl,a,_,rfl,.inl (.of (E _ _ Q)),_,rfl,b,_,rfl,.inl (.of (E _ _ M)),_,_,rfl,rfl,_,_,rfl,rfl,?_⟩;rw[lMp,lMp];generalize hn:l.length+r.length - 1=m at n;have en:((l.length:Int)+(r.length:Int) - 1).toNat=m:=by rw[<-hn];exact Int.toNat_sub (l.length+r.length) 1
 refine⟨q,_,_,rfl,rfl,dj,by lia,by lia,dy (by simp;lia),fun p d=> ?_⟩;rw[en,DG];have D:H p=none:=E.free d;have s2:=E.trans (dz (o:= .lst (arr m fun _=>0)) d);refine⟨_,rfl,a,_,rfl,.of (s2 _ _ Q),jR (oR (K:=K) (.of Q)) (fun i σ B=>∃R J S A,σ=[some (.ref a),some (.ref b),some (.ref p),R,J,S,A]/\dN H B/\B p=some (.lst (arr m fun j=>(di.mulL (l.take i) r).getD j 0))) ?_ (by rintro i σ B ⟨_,_,_,_,_,s,_⟩;exact s) ?_ ?_⟩
 ·exact⟨none,none,none,none,rfl,s2,by rw[dj];rfl⟩
 ·rintro i x σ H1 H2 hi ⟨R,J,S,A,rfl,s3,F⟩ s4 ad ⟨t,y,rfl,ht,hy⟩;obtain⟨z,g,rfl⟩:=jk hy;have ae:=fX g;have eT:l.take (i+1)=l.take i ++ [z]:=by rw[bo,g];rfl
  have lT:(l.take i).length=i:=by rw[aP];lia
  refine⟨t,_,rfl,.of ht,rfl,_,_,rfl,_,_,rfl,rfl,?_⟩;refine⟨_,rfl,b,_,rfl,.of (s4 _ _ M),jR (oR (K:=K) (.of M)) (fun h σ B=>∃S A,σ=[some (.ref a),some (.ref b),some (.ref p),some (.int (i:Nat)),some (.int z),S,A]/\dN H B/\B p=some (.lst (arr m fun j=>(di.mulL (l.take i) r).getD j 0+if i<=j/\j<i+h then z*r.getD (j - i) 0 else 0))) ?_ (by rintro i σ B ⟨_,_,_,s,_⟩;exact s) ?_ ?_⟩
  ·refine⟨_,_,rfl,s4,?_⟩;rw[ad _ _ F];refine congrArg (fun q=>some (HO.lst q)) (gR fun j hj=> ?_);rw[ah (by lia)];lia
  ·rintro h x σ H3 H4 hh ⟨S,A,rfl,s5,L⟩ s6 ac ⟨t2,y2,rfl,O,aa⟩;obtain⟨z2,N,rfl⟩:=jk aa;have af:=fX N;have X:=ac _ _ L;refine⟨t2,_,rfl,.of O,rfl,_,_,rfl,_,_,rfl,rfl,?_⟩;refine⟨_,rfl,_,rfl,_,rfl,_,_,rfl,rfl,p,_,_,i+h,_,rfl,rfl,.of X,by lia,qW (by lia),_,rfl,_,rfl,_,_,rfl,rfl,hm z (aH g) z2 (aH N),_,_,rfl,rfl,p,_,_,i+h,rfl,rfl,X,sV (by lia) (by rw[ko];lia),?_⟩;refine⟨_,_,rfl,s6.over D,?_⟩;rw[dj,zP];refine congrArg (fun q=>some (HO.lst q)) (gR fun j hj=> ?_);by_cases e:j=i+h
   ·subst e;rw[ai rfl,ah (by lia),ai (by lia)];have f:i+h - i=h:=by lia
    rw[f,gDe (l:=r),N];simp
   ·rw[ah e];by_cases f:i<=j/\j<i+h
    ·rw[ai f,ai (by lia)]
    ·rw[ah f,ah (by lia)]
  ·rintro σ H3 ⟨S,A,rfl,s5,L⟩;refine⟨_,_,_,_,rfl,s5,?_⟩;rw[L];refine congrArg (fun q=>some (HO.lst q)) (gR fun j hj=> ?_);rw[eT,jA,lT,lMp];by_cases e:i<=j
   ·rw[ai e];by_cases f:j<i+r.length
    ·rw[ai ⟨e,f⟩]
    ·rw[ah (fun h=>f h.2),gDe (l:=r),aO (by lia)];simp
   ·rw[ah e,ah (fun h=>e h.1)]
 ·rintro σ H1 ⟨R,J,S,A,rfl,s3,F⟩;refine⟨_,rfl,k p H1 D s3 ?_⟩;rw[F,lMp,aQ,EY (l:=di.mulL l r) n]
abbrev BD:Stmt:=top 20
theorem NK:dD ["left","right","rest","result","shift","factor","power","y"] ["left","right"] (dk BD):=sco
def NL:Sp:=fun d H Q _=>∃v u l r m,d=[v,u]/\fI H v l/\fI H u r/\Short l/\Short r/\di.Trim l/\di.Trim r/\di.Trim m/\r≠[]/\dO l=dO m*dO r/\(di.lc r).natAbs.log2<9000/\(∀x∈m,∀y∈r,IntMulOk x y)/\uP H Q m
abbrev Ig P w K mg base:=iT P w K mg base "divided" ["left","right"] 1 NL
theorem NM(T:Txt mg)(G:jc K mg "divided" BD ["left","right"]):Ig P w K mg base:=by
 have y:=NK;refine G.jy y ?_;rintro _ _ _ _ s H _ _ _ hr ⟨v,u,l,r,m,rfl,⟨a,rfl,ha⟩,⟨b,rfl,D⟩,hl,ao,tl,tr,tm,B,g,al,aj,k⟩;unfold Short at hl ao;refine⟨rfl,_,(dh (fS (oB (fG K (pv 0) (fun _=>rfl))) (dq (dE (d9 de))) fc)
   (dh (dX (i:=2) y.nd (A1 (xy K) rfl T.EW ve (c9 (pv 0) de)))
   (dh (dX (i:=3) y.nd (eZ IL (d9 (c9 dC de)) (eZ lJ (eZ jE (eC (eY K) rfl T.g8 eh (c9 (pv 0) de)) (eC (eY K) rfl T.g8 eh (c9 (pv 1) de))) dC)))
   (dh (hW PassesOwn.never rfl (Hl rfl T.kn (c9 (eZ jE (eC (eY K) rfl T.g8 eh (c9 (pv 3) de)) dC) (c9 (jb gF dC) (c9 (jb gF dC) de)))) (fk (i:=4) y.nd) (dh (dX (i:=5) y.nd (eZ yX (d8 (jq K) (pv 2) (eZ jE (eZ lJ (pv 4) (eC (eY K) rfl T.g8 eh (c9 (pv 1) de))) dC) (fun _ _=>rfl)) (d8 (jq K) (pv 1) (jb gF dC) (fun _ _=>rfl))))
   (dh (AV (pv 5) (AU (pv 3) (pv 4) set_list))
   (dq (hW PassesOwn.never rfl (oQ rfl T.gK (c9 (pv 1) de)) (j8 K (n:=2) rfl (fu (fk (i:=6) y.nd) (fu (fk (i:=7) y.nd) j7))) (dq (IE (pv 2) (eZ lJ (pv 4) (pv 6)) xx (eZ iA (pv 5) (pv 7)) R1 set_list)))))))
   (dq (dE (pv 3))))))),?_⟩
 refine⟨_,rfl,_,NJ ha,?_⟩;by_cases l0:l=[]
 ·subst l0;have Q:m=[]:=by
   have z:dO m*dO r=0:=g.symm;by_cases q:m=[]
   ·exact q
   ·exact absurd z (PF.gI (fun e=>q ((iE tm).mp e)) (fun e=>B ((iE tr).mp e)))
  subst Q;exact fz ⟨aR _,fun p F=>k p _ F (dz F) (by rw[dj];rfl)⟩
 rw[nu l0];refine fF ?_;have Q:m≠[]:=fun e=>l0 ((iE tl).mp (by
  rw[g,e];show(0:PF)*_=0;grind))
 have el:l=di.mulL m r:=by
  have t:di.Trim (di.mulL m r):=by
   have:=wg tm tr;unfold iQ at this
   rwa [ah (fun h=>h.elim Q B)] at this
  exact y8 tl t (by rw[g,jT])
 have ll:l.length=m.length+r.length - 1:=by rw[el];exact iX m r Q B
 have pm:0<m.length:=aq.mpr Q;have pr:0<r.length:=aq.mpr B;have O:=fQ.mp tr B;refine⟨_,rfl,a,_,rfl,.inl (.of ha),fun c hc=> ?_⟩;have s0:dN H (upd H c (.lst (l.map V.int))):=dz hc;refine⟨dy (by simp),fun q L=> ?_⟩;have R:=s0.trans (dz (o:= .lst [.int 0]) L);refine⟨_,rfl,a,_,rfl,.inl (.of (R _ _ ha)),_,rfl,b,_,rfl,.inl (.of (R _ _ D)),_,_,rfl,rfl,_,_,rfl,rfl,?_⟩;rw[lMp,lMp];have en:((l.length:Int) - (r.length:Int)+1).toNat=m.length:=by lia
 refine⟨q,_,_,rfl,rfl,dj,by lia,by lia,dy (by simp;lia),fun p F=> ?_⟩;rw[en,DG];have ag:H p=none:=R.free F;have s2:=R.trans (dz (o:= .lst (arr m.length fun _=>0)) F);have cp:c≠p:=fun e=>by
  rw[e] at F;exact absurd F (by
   rw[<-e,dY,dj]
   ·simp
   ·intro A;rw[<-A] at L;rw[dj] at L;cases L)
 have av:(upd (upd (upd H c (.lst (l.map V.int))) q (.lst [.int 0])) p (.lst (arr m.length fun _=>0))) c=some (.lst (l.map V.int)):=by
  rw[dY cp,dY,dj];intro A;rw[<-A,dj] at L;cases L
 refine⟨_,rfl,p,_,rfl,.inl (.of dj),_,_,rfl,rfl,_,rfl,_,rfl,_,_,_,m.length,rfl,?_,?_⟩
 ·have e:=Y6.neg (i:=(m.length:Int) - 1) (j:= -1) (by lia) (by lia) (by lia) (by lia);rw[ko];have A:((m.length:Int) - 1 - -1).toNat=m.length:=by lia
  rw[A] at e;exact e
 rw[ko];refine jR (Hm _ _ _ _) (fun i σ f=>∃x4 x5 C S,σ=[some (.ref a),some (.ref b),some (.ref c),some (.ref p),x4,x5,C,S]/\i<=m.length/\dN H f/\f c=some (.lst (arr l.length fun j=>(di.mulL (m.take (m.length - i)) r).getD j 0))/\f p=some (.lst (arr m.length fun j=>if m.length - i<=j then m.getD j 0 else 0))) ?_ (by rintro i σ f ⟨_,_,_,_,_,_,s,_⟩;exact s) ?_ ?_
 ·refine⟨none,none,none,none,rfl,aR _,s2,?_,?_⟩
  ·rw[av,Nat.sub_zero,aQ,<-el,EY (l:=l) rfl]
  ·rw[dj];refine congrArg (fun q=>some (HO.lst q)) (gR fun j E=> ?_);rw[ah (by lia)]
 ·rintro i x σ H1 H2 hi ⟨x4,x5,C,S,rfl,as,s3,M,I⟩ s4 af rfl;obtain⟨t,et⟩:=zEx hi;have ab:m.length - (i+1)=t:=congrArg Nat.pred et
  rw[et] at M I;have ar:(m.length:Int) - 1+(i:Nat)*(-1)=(t:Int):=by lia
  have ac:=af _ _ M;have ap:=af _ _ I;have eT:m.take (t+1)=m.take t ++ [m.getD t 0]:=pP m t (by lia);have lT:(m.take t).length=t:=by rw[aP];lia
  have ef:((di.mulL (m.take (t+1)) r).getD (t+r.length - 1) 0).fdiv (di.lc r)=m.getD t 0:=by
   rw[eT,jA,lT,Bb (m.take t) r _ B (by rw[lT];exact Nat.le_refl _),ai (zUp pr)];have e:t+r.length - 1 - t=r.length - 1:=by lia
   rw[e];show(0+m.getD t 0*di.lc r).fdiv (di.lc r)=_;rw[Int.zero_add,c5 _ O]
  rw[ar];refine⟨_,rfl,_,rfl,_,rfl,b,_,rfl,.inl (.of (s4 _ _ D)),_,_,rfl,rfl,_,_,rfl,rfl,lW (.of ac) (d5 (j:=t+r.length - 1) (by rw[lMp];lia) (qW (by lia))) ?_⟩;refine⟨_,rfl,_,rfl,b,_,_,_,rfl,rfl,.of (s4 _ _ D),xV B,_,_,rfl,rfl,⟨O,al⟩,?_⟩;dsimp only[];rw[ef];refine⟨_,rfl,_,rfl,_,rfl,p,_,_,t,rfl,rfl,ap,sV rfl (by rw[ko];lia),?_⟩;have ad:c≠p:=cp;have s5:dN H (upd H2 p (.lst ((arr m.length fun j=>if t+1<=j then m.getD j 0 else 0).set t (.int (m.getD t 0))))):=s4.over ag;have am:H c=none:=hc;refine⟨_,rfl,b,_,rfl,.of (s5 _ _ D),jR (oR (K:=K) (.of D)) (fun h σ f=>∃C S,σ=[some (.ref a),some (.ref b),some (.ref c),some (.ref p),some (.int (t:Int)),some (.int (m.getD t 0)),C,S]/\dN H f/\f p=some (.lst (arr m.length fun j=>if t<=j then m.getD j 0 else 0))/\f c=some (.lst (arr l.length fun j=>(di.mulL (m.take (t+1)) r).getD j 0 - if t<=j/\j<t+h then m.getD t 0*r.getD (j - t) 0 else 0))) ?_ (by rintro i σ f ⟨_,_,_,s,_⟩;exact s) ?_ ?_⟩
  ·refine⟨_,_,rfl,s5,?_,?_⟩
   ·rw[dj,zP];refine congrArg (fun q=>some (HO.lst q)) (gR fun j E=> ?_);by_cases e:j=t
    ·rw[ai e,ai (by lia),e]
    ·rw[ah e];by_cases A:t+1<=j
     ·rw[ai A,ai (by lia)]
     ·rw[ah A,ah (by lia)]
   ·rw[dY ad,ac];refine congrArg (fun q=>some (HO.lst q)) (gR fun j E=> ?_);rw[ah (by lia)];lia
  ·rintro h x σ H3 H4 hh ⟨C,S,rfl,s6,X,N⟩ s7 ae ⟨t2,y2,rfl,ak,an⟩;obtain⟨z2,J,rfl⟩:=jk an;have aw:=fX J;have aa:=ae _ _ N;refine⟨t2,_,rfl,.of ak,rfl,_,_,rfl,_,_,rfl,rfl,?_⟩;have au:m.getD t 0∈m:=aH (dA (d:=0) (by lia));refine⟨_,rfl,_,rfl,_,rfl,_,_,rfl,rfl,c,_,_,t+h,_,rfl,rfl,.of aa,by lia,qW (by lia),_,rfl,_,rfl,_,_,rfl,rfl,aj _ au z2 (aH J),_,_,rfl,rfl,c,_,_,t+h,rfl,rfl,aa,sV (by lia) (by rw[ko];lia),?_⟩;refine⟨_,_,rfl,s7.over am,?_,?_⟩
   ·rw[dY (b5 ad)];exact ae _ _ X
   ·rw[dj,zP];refine congrArg (fun q=>some (HO.lst q)) (gR fun j E=> ?_);by_cases e:j=t+h
    ·subst e;rw[ai rfl,ah (by lia),ai (by lia)];have A:t+h - t=h:=by lia
     rw[A,gDe (l:=r),J];simp
    ·rw[ah e];by_cases A:t<=j/\j<t+h
     ·rw[ai A,ai (by lia)]
     ·rw[ah A,ah (by lia)]
  ·rintro σ H3 ⟨C,S,rfl,s6,X,N⟩;refine⟨_,_,_,_,rfl,by lia,s6,?_,?_⟩
   ·rw[N,ab];refine congrArg (fun q=>some (HO.lst q)) (gR fun j E=> ?_);rw[eT,jA,lT,lMp];by_cases e:t<=j
    ·rw[ai e];by_cases A:j<t+r.length
     ·rw[ai ⟨e,A⟩];lia
     ·rw[ah (fun h=>A h.2),gDe (l:=r),aO (by lia)];simp
    ·rw[ah e,ah (fun h=>e h.1)];lia
   ·rw[X,ab]
 ·rintro σ H1 ⟨x4,x5,C,S,rfl,as,s3,M,I⟩;refine⟨_,rfl,k p H1 ag s3 ?_⟩;rw[I,EY (l:=m) rfl];refine congrArg (fun q=>some (HO.lst q)) (gR fun j E=> ?_);rw[ai (by lia)]
end
def Yo:Nat->List Int->List Int->Prop
 |0,_,_=>True
 |f+1,rest,right=>rest.length<right.length\/((∀x∈rest,IntMulOk (di.lc right) x)/\(∀y∈right,IntMulOk (di.lc rest) y)/\Yo f (mQ rest right) right)
section
variable {P:Program}{w:World}{K:PySem.W.Frag}{mg:Str->Option Value}{base:Heap}
abbrev iN:Stmt:=top 25
theorem xW:dD ["left","right","rest","shift","taken","y","x"] ["left","right"] (dk iN):=sco
def xX:Sp:=fun A H Q _=>∃v u l r,A=[v,u]/\fI H v l/\fI H u r/\Short l/\Short r/\di.Trim l/\r≠[]/\Yo (l.length+1) l r/\∀z d,dN H d->fI d z (OU l r)->Q z d
abbrev qX P w K mg base:=iT P w K mg base "whole_remainder" ["left","right"] 4 xX
theorem xY(T:Txt mg)(g4:oX P w K mg base)(G:jc K mg "whole_remainder" iN ["left","right"]):qX P w K mg base:=by
 have B:=xW;refine G.jy B ?_;rintro _ _ _ _ _ H _ _ _ hr ⟨v,u,l,r,rfl,pl,⟨b,rfl,hb⟩,hl,ak,tl,r0,wk,k⟩;unfold Short at hl ak;have pr:0<r.length:=aq.mpr r0;refine⟨rfl,_,(dh (dX (i:=2) B.nd (pv 0))
   (dh (u0 PassesOwn.never (e9 R6 (eC (eY K) rfl T.g8 eh (c9 (pv 2) de)) (eC (eY K) rfl T.g8 eh (c9 (pv 1) de)) (eO _)) (dh (dX (i:=3) B.nd (eZ jE (eC (eY K) rfl T.g8 eh (c9 (pv 2) de)) (eC (eY K) rfl T.g8 eh (c9 (pv 1) de))))
   (dh (dX (i:=4) B.nd (eZ A2 (eZ IL (d9 (c9 dC de)) (pv 3)) (mO rfl B.nd (fK (pv 1)) (fC (own:=[("y",5)]) (by show mV ["left","right","rest","shift","taken","y","x"] (dk iN) _ _=true;decide +kernel)) (fun _ _ _ _ _=>(fk (i:=5) B.nd)) (fun _ _ _ _ _=>gh) (fun _ _ _ _ _=>(eZ iA (d8 (jq K) (pv 2) (jb gF dC) (fun _ _=>rfl)) (pv 5))))))
   (dq (dX (i:=2) B.nd (dB g4 hr (c9 (mO rfl B.nd (fK (pv 2)) (fC (own:=[("x",6)]) (by show mV ["left","right","rest","shift","taken","y","x"] (dk iN) _ _=true;decide +kernel)) (fun _ _ _ _ _=>(fk (i:=6) B.nd)) (fun _ _ _ _ _=>gh) (fun _ _ _ _ _=>(eZ iA (d8 (jq K) (pv 1) (jb gF dC) (fun _ _=>rfl)) (pv 6)))) (c9 (pv 4) de))))))))
   (dq (dE (pv 2))))),?_⟩
 refine⟨_,rfl,fun m σ h=>∃z rest g I c,σ=[some v,some (.ref b),some z,I,c,none,none]/\dN H h/\fI h z rest/\rest.length=m/\m<=l.length/\rest.length<g/\di.Trim rest/\Yo g rest r/\A8 g rest r=OU l r,⟨l.length,v,l,l.length+1,none,none,rfl,.refl _,pl,rfl,aj _,by lia,tl,wk,rfl⟩,?_⟩;rintro m σ X ⟨z,rest,g,I,c,rfl,s1,⟨a,rfl,Q⟩,hm,as,hg,au,al,hw⟩;obtain⟨g,rfl⟩:∃g',g=g' +1:=⟨g - 1,by lia⟩;have F:=s1 _ _ hb;refine⟨_,rfl,a,_,rfl,.inl (.of Q),_,rfl,b,_,rfl,.inl (.of F),_,_,rfl,rfl,_,rfl,?_⟩;rw[lMp,lMp];by_cases S:rest.length<r.length
 ·rw[aA (show ¬(rest.length:Int) ≥ (r.length:Int) by lia)];refine fF ⟨_,rfl,k _ X s1 ⟨a,rfl,?_⟩⟩;have e:A8 (g+1) rest r=rest:=ai S;rw[<-hw,e];exact Q
 ·rw[aw (show(rest.length:Int) ≥ (r.length:Int) by lia)];obtain⟨m1,m2,m3⟩:=al.resolve_left S;have O:rest≠[]:=fun e=>S (by rw[e];exact pr);refine fz ⟨fun σ' h=>∃z f I c,σ'=[some v,some (.ref b),some z,I,c,none,none]/\dN H h/\fI h z f/\f=mQ rest r,?_,?_⟩
  ·rintro σ' h ⟨z,f,I,c,rfl,s2,pz,rfl⟩;have J:=Eh (rest:=rest) (right:=r) (by lia) r0;refine⟨_,by rw[<-hm];exact J.2.1,z,_,g,I,c,rfl,s2,pz,rfl,by have:=J.2.1;lia,by have:=J.2.1;lia,J.2.2,m3,?_⟩;rw[<-hw];show _=if rest.length<r.length then rest else A8 g (mQ rest r) r;rw[ah S]
  refine⟨_,rfl,a,_,rfl,.inl (.of Q),_,rfl,b,_,rfl,.inl (.of F),_,_,rfl,rfl,?_⟩;refine⟨dy (by simp),fun q hq=> ?_⟩;have s2:dN X (upd X q (.lst [.int 0])):=dz hq;refine⟨_,rfl,q,_,_,rfl,rfl,dj,by rw[lMp,lMp];lia,by rw[lMp,lMp];lia,dy (by simp;lia),fun p hp=> ?_⟩;have en:((rest.length:Int) - (r.length:Int)).toNat=rest.length - r.length:=Int.toNat_sub ..
  rw[lMp,lMp,en,DG];have R:=s2.trans (dz (o:= .lst (arr (rest.length - r.length) fun _=>0)) hp);have L:=R _ _ F;have aa:=R _ _ Q;have ad:(upd (upd X q (.lst [.int 0])) p (.lst (arr (rest.length - r.length) fun _=>0))) p=some (.lst (arr (rest.length - r.length) fun _=>0)):=dj;generalize ap:upd (upd X q (.lst [.int 0])) p (.lst (arr (rest.length - r.length) fun _=>0))=H3 at R L aa ad;refine⟨_,rfl,b,rfl,⟨_,.of L⟩,fun D hD=>oC (fL (.of L)) hD (fun i _ acc=>acc=(r.take i).map fun y=>V.int (di.lc rest*y)) rfl ?_ ?_⟩
  ·rintro i x H4 H5 acc hi s4 ae A s an C hx;obtain⟨y,E,rfl⟩:=jk hx;refine⟨rfl,⟨_,rfl,_,rfl,a,_,_,_,rfl,rfl,.of (s _ _ aa),xV O,_,rfl,j9 ⟨m2 y (aH E),?_⟩⟩⟩;refine gz hD s C ?_ ?_
   ·rw[A,lMp,aP];exact dI (by lia)
   ·rw[A,eX _ _ _ _ E]
  ·intro H4 acc s4 ae A;rw[lMp,aQ] at A;refine⟨p,D,_,_,rfl,rfl,s4 _ _ ad,ae,by rw[A,ko,lMp];exact dy (by lia),fun t ht=> ?_⟩;have s:=(R.trans s4).trans (dz (o:= .lst (arr (rest.length - r.length) (fun _=>0) ++ acc)) ht);have ac:(upd H4 t (.lst (arr (rest.length - r.length) (fun _=>0) ++ acc))) t=some (.lst (arr (rest.length - r.length) (fun _=>0) ++ acc)):=dj;have M:=s _ _ Q;have af:=s _ _ F;generalize ar:upd H4 t (.lst (arr (rest.length - r.length) (fun _=>0) ++ acc))=H5 at s ac M af;refine⟨_,rfl,a,rfl,⟨_,.of M⟩,fun D2 C=>oC (fL (.of M)) C (fun i _ acc=>acc=(rest.take i).map fun y=>V.int (di.lc r*y)) rfl ?_ ?_⟩
   ·rintro i x H6 H7 N hi s6 ab d s7 ao ag hx;obtain⟨y,E,rfl⟩:=jk hx;refine⟨rfl,⟨_,rfl,_,rfl,b,_,_,_,rfl,rfl,.of (s7 _ _ af),xV r0,_,rfl,j9 ⟨m1 y (aH E),?_⟩⟩⟩;refine gz C s7 ag ?_ ?_
    ·rw[d,lMp,aP];exact dI (by lia)
    ·rw[d,eX _ _ _ _ E]
   ·intro H6 N s6 ab d;rw[lMp,aQ] at d;refine⟨_,rfl,?_⟩;have e1:N=(rest.map fun x=>di.lc r*x).map V.int:=by rw[d,aN];rfl
    have e2:arr (rest.length - r.length) (fun _=>0) ++ acc=(List.replicate (rest.length - r.length) 0 ++ r.map fun y=>di.lc rest*y).map V.int:=by
     have e3:arr (rest.length - r.length) (fun _=>0)=(List.replicate (rest.length - r.length) (0:Int)).map V.int:=by
      rw[EY (l:=List.replicate (rest.length - r.length) 0) (n:=rest.length - r.length) (by simp)];refine gR fun j hj=> ?_;rw[gDe,bY];split <;>rfl
     rw[bC,A,aN,e3];rfl
    refine⟨_,_,_,_,rfl,⟨D2,rfl,by rw[ab,e1]⟩,⟨t,rfl,by rw[s6 _ _ ac,e2]⟩,?_,?_,fun z h hz s8 am=> ?_⟩
    ·unfold Short;rw[lMp];lia
    ·unfold Short;rw[aJ,a9,lMp];lia
    ·exact⟨.ref z,_,_,_,rfl,((s1.trans s).trans s6).trans s8,⟨z,rfl,am⟩,rfl⟩
end
abbrev Rp(α:Type):=(Addr->Prop)->Hp->V->α->Prop
def Off(S:Addr->Prop)(H d:Hp):Prop:=∀a o,¬S a->H a=some o->d a=some o
theorem _root_.Lake.L2.dN.off (s:dN H d)(S:Addr->Prop):Off S H d:=fun a o _ h=>s a o h
theorem fR (A:S p):Off S H (upd H p o):=fun a u d h=>by
 rw[dY (fun e=>d (by rw[e];exact A))];exact h
theorem _root_.PySem.Paired.h9 {l:List α}{m:List β}(p:Paired F l m)(f:∀a b,F a b->G a b):Paired G l m:=L2.Paired.WV p f
structure Good{α:Type}(r:Rp α):Prop where
 off:∀{S:Addr->Prop} {H H':Hp} {v:V} {x:α},r S H v x->Off S H H'->r S H' v x
 Bj:∀{S S':Addr->Prop} {H:Hp} {v:V} {x:α},r S H v x->(∀a,S' a->S a\/H a=none)->r S' H v x
theorem Good.same {r:Rp α}(g:Good r)(h:r S H v x)(s:dN H d):r S d v x:=g.off h (s.off S)
theorem Good.less {r:Rp α}(g:Good r)(h:r S H v x)(s:∀a,d a->S a):r d H v x:=g.Bj h fun a A=> .inl (s a A)
def uQ:Rp (List Int):=fun S H v l=>∃a,v= .ref a/\¬S a/\H a=some (.lst (l.map V.int))
theorem gS:Good uQ where
 off:=by rintro _ _ _ _ _ ⟨a,e,hs,h⟩ o;exact⟨a,e,hs,o a _ hs h⟩
 Bj:=by rintro _ _ _ _ _ ⟨a,e,hs,h⟩ w;exact⟨a,e,(fun q=>(w a q).elim hs fun z=>(by rw[h] at z;cases z)),h⟩
theorem uQ.at_ (h:uQ S H v l):fI H v l:=by obtain⟨a,e,_,q⟩:=h;exact⟨a,e,q⟩
theorem fI.s{H:Hp}{v:V}{l:List Int}(h:fI H v l):uQ (fun _=>False) H v l:=by obtain⟨a,e,q⟩:=h;exact⟨a,e,fun z=>z,q⟩
def Q8{α:Type}(r:Rp α):Rp (List α):=fun S H v l=>∃a d,v= .ref a/\¬S a/\H a=some (.lst d)/\Paired (r S H) d l
theorem Uh{α:Type}{r:Rp α}(g:Good r):Good (Q8 r) where
 off:=by rintro _ _ _ _ _ ⟨a,vs,e,hs,h,p⟩ o;exact⟨a,vs,e,hs,o a _ hs h,p.h9 fun _ _ q=>g.off q o⟩
 Bj:=by rintro _ _ _ _ _ ⟨a,vs,e,hs,h,p⟩ w;exact⟨a,vs,e,fun q=>(w a q).elim hs fun z=>(by rw[h] at z;cases z),h,p.h9 fun _ _ q=>g.Bj q w⟩
def mR:Rp (Int×List Int):=fun S H v t=>∃a p,v= .ref a/\¬S a/\H a=some (.tup [.int t.1,p])/\uQ S H p t.2
theorem jv:Good mR where
 off:=by rintro _ _ _ _ _ ⟨a,p,e,hs,h,q⟩ o;exact⟨a,p,e,hs,o a _ hs h,gS.off q o⟩
 Bj:=by rintro _ _ _ _ _ ⟨a,p,e,hs,h,q⟩ w;exact⟨a,p,e,fun z=>(w a z).elim hs fun y=>(by rw[h] at y;cases y),h,gS.Bj q w⟩
abbrev vH:Rp (List (List Int)):=Q8 uQ
abbrev Ui:Rp (List (List (List Int))):=Q8 vH
abbrev tO:Rp (List (Int×List Int)):=Q8 mR
abbrev Zu:Rp (List (List (Int×List Int))):=Q8 tO
theorem fB:Good vH:=Uh gS
theorem Qb:Good Ui:=Uh fB
theorem fj:Good tO:=Uh jv
theorem _root_.PySem.Paired.nv {i:Nat}(p:Paired F l m)(e:l[i]? =some x):∃y,m[i]? =some y/\F x y:=by
 induction p generalizing i with
 |nil=>simp at e
 |cons r _ t=>
  cases i
  simp at e;subst e;exact⟨_,rfl,r⟩
  exact t e
theorem _root_.PySem.Paired.lC {i:Nat}(p:Paired F l m)(e:m[i]? =some y):∃x,l[i]? =some x/\F x y:=by
 induction p generalizing i with
 |nil=>simp at e
 |cons r _ t=>
  cases i
  simp at e;subst e;exact⟨_,rfl,r⟩
  exact t e
theorem _root_.PySem.Paired.kU (p:Paired F l m)(h:F x y):Paired F (l ++ [x]) (m ++ [y]):=p.snoc h
theorem _root_.PySem.Paired.app (p:Paired F l m)(h:Paired F A d):Paired F (l ++ A) (m ++ d):=by
 induction p with
 |nil=>exact h
 |cons r _ t=>exact .cons r t
theorem _root_.PySem.Paired.setAt (h:F x y)(i)(p:Paired F l m):Paired F (l.set i x) (m.set i y):=by
 induction p generalizing i with
 |nil=>exact .nil
 |cons q g t=>
  cases i
  exact .cons h g
  exact .cons q (t _)
theorem _root_.PySem.Paired.Uj (i)(p:Paired F l m):Paired F (l.take i) (m.take i):=by
 induction p generalizing i with
 |nil=>simp;exact .nil
 |cons r _ t=>
  cases i
  exact .nil
  exact .cons r (t _)
def RR(S:Addr->Prop)(H:Hp):Prop:=∀a,S a->H a≠none
theorem RR.same (d:RR S H)(s:dN H A):RR S A:=fun a l z=>d a l (s.free z)
theorem RR.new (d:RR S H)(h:H p=none):¬S p:=fun q=>d p q h
def fZ(S:Addr->Prop)(p:Addr):Addr->Prop:=fun a=>S a\/a=p
theorem RR.and (d:RR S H)(h:H p=some o):RR (fZ S p) H:=fun a A z=>by
 rcases A with A |rfl
 ·exact d a A z
 ·rw[h] at z;cases z
theorem Good.and {r:Rp α}(g:Good r)(h:r S H v x)(A:H p=none):r (fZ S p) H v x:=g.Bj h fun a d=>d.elim .inl fun e=> .inr (by rw[e];exact A)
theorem Good.un {r:Rp α}(g:Good r)(h:r (fZ S p) H v x):r S H v x:=g.less h fun a d=> .inl d
theorem _root_.PySem.Paired.VW {r:Rp α}(g:Good r)(h:Paired (r S H) d l)(A:H p=none):Paired (r (fZ S p) H) d l:=h.h9 fun _ _ q=>g.and q A
theorem _root_.PySem.Paired.RS {r:Rp α}(g:Good r)(h:Paired (r (fZ S p) H) d l):Paired (r S H) d l:=h.h9 fun _ _ q=>g.un q
theorem _root_.PySem.Paired.vI {r:Rp α}(g:Good r)(h:Paired (r S H) d l)(o:Off S H A):Paired (r S A) d l:=h.h9 fun _ _ q=>g.off q o
theorem _root_.PySem.Paired.jw {r:Rp α}(g:Good r)(h:Paired (r S H) d l)(s:dN H A):Paired (r S A) d l:=h.h9 fun _ _ q=>g.same q s
def Uk(p:di.Part):List (Str×V):=jr "bottom" (.int p.dG) (jr "top" (.int p.top) (jr "d" (.int p.d) (jr "c" (.int p.c) (jr "b" (.int p.b) (jr "a" (.int p.a) (jr "kind" (.int p.kind) []))))))
def Zv(last:Int)(ps:V):List (Str×V):=jr "parts" ps (jr "last_node" (.int last) [])
def aas(d s A drives places:V)(width:Int):List (Str×V):=jr "width" (.int width) (jr "places" places (jr "drives" drives (jr "states" A (jr "s" s (jr "network" d [])))))
def Zw(det d:V):List (Str×V):=jr "tops" d (jr "determinant" det [])
def ptF(d sol:V):List (Str×V):=jr "solution" sol (jr "states" d [])
structure xZ(K:PySem.W.Frag)(C:Addr)(fs:List Str):Prop where
 cl:U5 K C
 no:∀f∈fs,pE K C f
structure Cs where
 part:Addr
 eQ:Addr
 kK:Addr
 sol:Addr
 pt:Addr
 ask:Addr
structure hE(K:PySem.W.Frag)(c:Cs):Prop where
 part:xZ K c.part ["kind","a","b","c","d","top","bottom"]
 eQ:xZ K c.eQ ["last_node","parts"]
 kK:xZ K c.kK ["network","s","states","drives","places","width"]
 sol:xZ K c.sol ["determinant","tops"]
 pt:xZ K c.pt ["states","solution"]
section
variable (c:Cs)
def iR(H:Hp)(v:V)(p:di.Part):Prop:=∃a d,v= .ref a/\H a=some (.ins c.part d (Uk p))
def oY(H:Hp)(v:V)(ps:List di.Part):Prop:=∃a d,v= .ref a/\H a=some (.lst d)/\Paired (iR c H) d ps
def uL(H:Hp)(v:V)(n:Nw):Prop:=∃a A d,v= .ref a/\H a=some (.ins c.eQ A (Zv n.last d))/\oY c H d n.dc
def zQ(H:Hp)(v:V)(l:List Bool):Prop:=∃a,v= .ref a/\H a=some (.lst (l.map V.bl))
def Ih(H:Hp)(v:V)(l:List (Int×Int)):Prop:=∃a d,v= .ref a/\H a=some (.lst d)/\Paired (fun u (x:Int×Int)=>∃t,u= .ref t/\H t=some (.tup [.int x.1,.int x.2])) d l
def oO(H:Hp)(v:V)(g:mY):Prop:=∃a B f A d l i,v= .ref a/\H a=some (.ins c.kK B (aas f A d l i (di.width g.eQ)))/\uL c H f g.eQ/\fI H A g.s/\zQ H d g.gZ/\Ih H l g.drives/\fI H i (di.places g.eQ)
def vJ(H:Hp)(v:V)(s:List Int×List (List Int)):Prop:=∃a l d A,v= .ref a/\H a=some (.ins c.sol l (Zw d A))/\fI H d s.1/\vH (fun _=>False) H A s.2
variable {c}
theorem iR.same (h:iR c H v p)(s:dN H d):iR c d v p:=by obtain⟨a,A,e,q⟩:=h;exact⟨a,A,e,s _ _ q⟩
theorem oY.same (h:oY c H v p)(s:dN H d):oY c d v p:=by obtain⟨a,A,e,q,r⟩:=h;exact⟨a,A,e,s _ _ q,r.h9 fun _ _ z=>z.same s⟩
theorem uL.same (h:uL c H v n)(s:dN H d):uL c d v n:=by obtain⟨a,l,A,e,q,r⟩:=h;exact⟨a,l,A,e,s _ _ q,r.same s⟩
theorem zQ.same (h:zQ H v l)(s:dN H d):zQ d v l:=by obtain⟨a,e,q⟩:=h;exact⟨a,e,s _ _ q⟩
theorem Ih.same (h:Ih H v l)(s:dN H d):Ih d v l:=let ⟨a,A,e,q,r⟩:=h;⟨a,A,e,s _ _ q,r.h9 (by rintro _ _ ⟨t,e,z⟩;exact⟨t,e,s _ _ z⟩)⟩
theorem oO.same (h:oO c H v g)(s:dN H d):oO c d v g:=by obtain⟨a,x,n,i,A,w,t,e,q,B,l,b,k,f⟩:=h;exact⟨a,x,n,i,A,w,t,e,s _ _ q,B.same s,l.same s,b.same s,k.same s,f.same s⟩
theorem vJ.same (h:vJ c H v x)(s:dN H d):vJ c d v x:=by obtain⟨a,f,B,l,e,q,i,A⟩:=h;exact⟨a,f,B,l,e,s _ _ q,i.same s,fB.same A s⟩
end
structure Txt2(mg:Str->Option Value):Prop extends Txt mg where
 x9:∃t,mg "RESISTOR"=some (.int 0 t)
 vK:∃t,mg "CAPACITOR"=some (.int 1 t)
 JM:∃t,mg "COIL"=some (.int 2 t)
 jl:∃t,mg "COUPLING"=some (.int 3 t)
 jX:∃t,mg "VOLTAGE_BY_VOLTAGE"=some (.int 6 t)
 jY:∃t,mg "CURRENT_BY_VOLTAGE"=some (.int 7 t)
 jZ:∃t,mg "VOLTAGE_BY_CURRENT"=some (.int 8 t)
 j6:∃t,mg "CURRENT_BY_CURRENT"=some (.int 9 t)
 jB:∃t,mg "TRANSFORMER"=some (.int 10 t)
 qY:∃t,mg "AMPLIFIER"=some (.int 11 t)
 Fd:∃t,mg "SWITCH"=some (.int 12 t)
 wF:∃t,mg "DIODE"=some (.int 13 t)
 vL:∃t,mg "LAST_KIND"=some (.int 13 t)
theorem xZ.at_ {K:PySem.W.Frag}(h:xZ K C fs)(i:Nat)(e:fs[i]? =some f):pE K C f:=h.no f (aH e)
theorem nA:decide (V.int a=V.int b)=decide (a=b):=by
 by_cases h:a=b
 ·subst h;simp
 ·simp[h]
abbrev gk(H:Hp):Addr->Prop:=fun a=>H a≠none
def vM(H:Hp)(Q:VK)(A:List (Int×List Int)):Prop:=∀z d,dN H d->tO (gk H) d z A->Q z d
theorem gm (s:dN H H1):∀a,gk H a->gk H1 a:=fun a h z=>h (s.free z)
def oP(d:List (Int×List Int)):Prop:=∀t∈d,t.2.length<=100/\∀x∈t.2,x.natAbs<=1
theorem Ul (h:x.natAbs<=1)(y):IntMulOk x y:= .of_left (intBits_le_64 (by lia) (by lia))
variable {P:Program}{w:World}{K:PySem.W.Frag}{mg:Str->Option Value}{base:Heap}{c:Cs}{zc:Addr}
abbrev rL:Stmt:=top 28
theorem Fe:dD ["part"] ["part"] (dk rL):=sco
def Ff(c:Cs):Sp:=fun d H Q _=>∃v p,d=[v]/\iR c H v p/\Q (.int (kJ p)) H
abbrev rM P w K mg base c:=iT P w K mg base "currents_of" ["part"] 1 (Ff c)
theorem Fg(T:Txt2 mg)(O:hE K c)(G:jc K mg "currents_of" rL ["part"]):rM P w K mg base c:=by
 have l:=Fe;refine G.jy l ?_;rintro _ _ _ _ _ _ _ _ _ i ⟨v,p,rfl,⟨a,f,rfl,d⟩,k⟩;refine⟨rfl,_,(dh (fS (e9 iV (du K (pv 0) rfl) (gc T.jl) (eO _)) (dq (dE dC)) fc)
   (dq (dE (jQ (e9 iV (du K (pv 0) rfl) (gc T.jB) (eO _)) dC dC)))),?_⟩
 unfold kJ at k;refine⟨_,rfl,eH d O.part.cl (O.part.at_ 0 rfl) rfl ⟨rfl,_,rfl,?_⟩⟩;rw[nA];refine Xs (fun h=> ?_) (fun h=> ?_)
 ·rw[ai (aI h)] at k;exact k
 ·have A:¬p.kind=3:=fun e=>h (aw e);rw[ah A] at k;refine⟨_,rfl,eH d O.part.cl (O.part.at_ 0 rfl) rfl ⟨rfl,_,rfl,?_⟩⟩;rw[nA];refine Xs (fun h=> ?_) (fun h=> ?_)
  ·rw[ai (aI h)] at k;exact k
  ·rw[ah (fun e=>h (aw e))] at k;exact k
abbrev og:Stmt:=top 29
theorem Fh:dD ["network","part"] ["network"] (dk og):=sco
def Fi(c:Cs):Sp:=fun A H Q _=>∃v n,A=[v]/\uL c H v n/\n.dc.length<=1000/\∀d,dN H d->Q (.int (di.width n)) d
abbrev xf P w K mg base c:=iT P w K mg base "unknowns_of" ["network"] 2 (Fi c)
theorem Fj(T:Txt2 mg)(O:hE K c)(C:rM P w K mg base c)(G:jc K mg "unknowns_of" og ["network"]):xf P w K mg base c:=by
 have f:=Fh;refine G.jy f ?_;rintro _ _ _ _ _ _ _ _ _ o ⟨v,n,rfl,⟨a,L,N,rfl,h,b,z,rfl,s,l⟩,j,k⟩;have H:=l.length;refine⟨rfl,_,(dq (dE (eZ lJ (du K (pv 0) rfl) (eC (Vk K rfl) rfl T.Ub ME (c9 (mO rfl f.nd (fK (du K (pv 0) rfl)) (fC (own:=[("part",1)]) (by show mV ["network","part"] (dk og) _ _=true;decide +kernel)) (fun _ _ _ _ _=>(fk (i:=1) f.nd)) (fun _ _ _ _ _=>gh) (fun _ _ _ _ _=>(dB C o (c9 (pv 1) de)))) de))))),?_⟩;refine⟨_,rfl,eH h O.eQ.cl (O.eQ.at_ 0 rfl) rfl ?_⟩;refine⟨_,rfl,eH h O.eQ.cl (O.eQ.at_ 1 rfl) rfl ⟨b,rfl,⟨_,.of s⟩,fun D t=>oC (fL (.of s)) t (fun i _ acc=>acc=(n.dc.take i).map fun p=>V.int (kJ p)) rfl ?_ ?_⟩⟩
 ·rintro i x r I acc m u A d e F B y;obtain⟨p,S,q⟩:=l.nv y;refine⟨rfl,⟨_,rfl,_,p,rfl,q.same e,?_⟩⟩;refine gz t e B ?_ ?_
  ·rw[d,lMp,aP];exact dI (by lia)
  ·rw[d,eX _ _ _ _ S]
 ·intro r acc u A d;refine⟨D,n.dc.map kJ,rfl,.of ?_,_,_,rfl,rfl,k r u⟩;rw[A,d,H,aQ,aN];rfl
abbrev nE:Stmt:=top 30
theorem zR:dD ["network","places","free","part"] ["network"] (dk nE):=sco
def zS(c:Cs):Sp:=fun d H Q _=>∃v n,d=[v]/\uL c H v n/\n.dc.length<=1000/\uP H Q (di.places n)
theorem xg:∀(l:List di.Part) (f:Int) (p:di.Part),iC f (l ++ [p])=iC f l ++ [f+(l.map kJ).sum]
 |[],f,p=>by
  show[f]=[] ++ [f+0];simp
 |q::l,f,p=>by
  show f::iC (f+kJ q) (l ++ [p])=f::(iC (f+kJ q) l ++ [f+((q::l).map kJ).sum]);rw[xg l,aK,cJ,Int.add_assoc]
theorem tP:∀(l:List di.Part) (f:Int),(iC f l).length=l.length
 |[],_=>rfl
 |q::l,f=>congrArg (· +1) (tP l _)
theorem Fl:∀(l:List Int) (z:Int),(l ++ [z]).sum=l.sum+z
 |[],z=>by simp
 |a::l,z=>by
  rw[List.cons_append,cJ,cJ,Fl l z];lia
abbrev sF P w K mg base c:=iT P w K mg base "current_places" ["network"] 2 (zS c)
theorem zT(T:Txt2 mg)(O:hE K c)(Q:rM P w K mg base c)(G:jc K mg "current_places" nE ["network"]):sF P w K mg base c:=by
 have d:=zR;refine G.jy d ?_;rintro _ _ _ _ s H _ _ _ m ⟨v,n,rfl,⟨a,D,J,rfl,u,b,M,rfl,z,B⟩,g,k⟩;have j:=B.length;refine⟨rfl,_,(dh (dX (i:=1) d.nd (d9 de))
   (dh (dX (i:=2) d.nd (du K (pv 0) rfl))
   (dh (hW PassesOwn.never rfl (fK (du K (pv 0) rfl)) (fk (i:=3) d.nd) (dh (iU (oM aZ a6 a7 gN (pv 1) (c9 (pv 2) de)))
   (dq (ID (i:=2) d.nd rfl (Or.inl rfl) (dB Q m (c9 (pv 3) de)) IF))))
   (dq (dE (pv 1)))))),?_⟩
 refine⟨aR _,fun q t=> ?_⟩;have l:=dz (o:= .lst []) t;refine⟨_,rfl,eH (l _ _ u) O.eQ.cl (O.eQ.at_ 0 rfl) rfl ?_⟩;refine⟨_,rfl,eH (l _ _ u) O.eQ.cl (O.eQ.at_ 1 rfl) rfl ⟨b,rfl,⟨_,.of (l _ _ z)⟩,jR (fL (K:=K) (.of z)) (fun i σ e=>∃h,σ=[some (.ref a),some (.ref q),some (.int (n.last+((n.dc.take i).map kJ).sum)),h]/\dN H e/\e q=some (.lst ((iC n.last (n.dc.take i)).map V.int))) ?_ (by rintro i σ e ⟨_,_,s,_⟩;exact s) ?_ ?_⟩⟩
 ·refine⟨none,?_,l,?_⟩
  ·simp[L2.start]
  ·rw[dj];rfl
 ·rintro i x σ S I X ⟨h,rfl,r,A⟩ L C E;obtain⟨p,F,N⟩:=B.nv E;have f:=C _ _ A;refine⟨_,rfl,.inl ⟨rfl,_,.of f⟩,_,rfl,q,_,_,rfl,rfl,f,?_,?_⟩
  ·rw[lMp,tP,aP];exact dI (by lia)
  ·have y:dN H (upd I q (.lst ((iC n.last (n.dc.take i)).map V.int ++ [.int (n.last+((n.dc.take i).map kJ).sum)]))):=L.over t;refine⟨_,rfl,_,rfl,_,p,rfl,N.same y,_,_,rfl,rfl,some x,?_,y,?_⟩
   ·rw[eX _ _ _ _ F,Fl,<-Int.add_assoc];rfl
   ·rw[dj,bo,F];show _=some (HO.lst ((iC n.last (n.dc.take i ++ [p])).map V.int));rw[xg,bC];rfl
 ·rintro σ S ⟨h,rfl,r,A⟩;refine⟨_,rfl,k q S t r ?_⟩;rw[A,j,aQ];rfl
abbrev zU:Stmt:=top 31
theorem Q9:dD ["terms","width","row","place","factor"] ["terms","width"] (dk zU):=sco
def Ra:Sp:=fun i H Q _=>∃v A d,i=[v,.int d]/\tO (fun _=>False) H v A/\0<=d/\d<1000/\(∀t∈A,0<=t.1/\t.1<=d/\t.2.length<=1000)/\∀z l,dN H l->vH (gk H) l z (di.rowOf d A)->Q z l
theorem Rb(d:List (Int×List Int)):∀row:List (List Int),(d.foldl vk row).length=row.length:=by
 induction d with
 |nil=>intro row;rfl
 |cons t d A=>
  intro row;rw[bQ,A];unfold vk;rw[cA]
theorem Rc (d)(A:List (Int×List Int)):(di.rowOf d A).length=(d+1).toNat:=by
 unfold di.rowOf;rw[Rb,a9]
theorem Fm {x:α}:∀{d:List V},(∀v∈d,r v x)->Paired r d (List.replicate d.length x)
 |[],_=> .nil
 |v::d,h=> .cons (h v aC) (Fm fun u A=>h u (ao _ A))
abbrev LA P w K mg base:=iT P w K mg base "row_of" ["terms","width"] 3 Ra
theorem Rf(T:Txt2 mg)(wD:JI P w K mg base)(G:jc K mg "row_of" zU ["terms","width"]):LA P w K mg base:=by
 have M:=Q9;refine G.jy M ?_;rintro _ _ _ _ s H _ _ _ F ⟨v,B,A,rfl,⟨a,us,rfl,_,ha,O⟩,w0,w1,hb,k⟩;have ll:=O.length;refine⟨rfl,_,(dh (pI (i:=2) rfl M.nd rfl rfl (sU rfl rfl rfl rfl) (o7 rfl T.kn (c9 (eZ lJ (pv 1) dC) de)) (fC (own:=[("place",3)]) (by show mV ["terms","width","row","place","factor"] (dk zU) _ _=true;decide +kernel)) (fun _ _ _ _ _=>(fk (i:=3) M.nd)) (fun _ _ _ _ _=>gh) (fun _ _ _ _ _=>(d9 de)))
   (dh (hW PassesOwn.never rfl (fK (pv 0)) (j8 K (n:=2) rfl (fu (fk (i:=3) M.nd) (fu (fk (i:=4) M.nd) j7))) (dq (AV (dB wD F (c9 (d8 (jq K) (pv 2) (pv 3) (fun _ _=>rfl)) (c9 (pv 4) de))) (AU (pv 2) (pv 3) set_list))))
   (dq (dE (pv 2))))),?_⟩
 refine⟨_,rfl,_,_,rfl,rfl,_,rfl,by lia,by lia,fun D g=>oC (l6 H 0 _) g (fun i I acc=>acc.length=i/\(∀v∈acc,uQ (fZ (gk H) D) I v [])) ⟨rfl,fun _ h=>by cases h⟩ ?_ ?_⟩
 ·rintro i x H1 N acc hi s1 R ⟨f,C⟩ E ae l rfl;refine⟨rfl,⟨aR _,fun p S=> ?_⟩⟩;have m:=dz (o:= .lst []) S;have np:¬fZ (gk H) D p:=fun q=>q.elim (fun z=>z (E.free S)) (fun z=>by rw[z,l] at S;cases S);refine gz g (E.trans m) (m _ _ l) (by rw[f];exact dI (by lia)) ⟨by simp[f],fun v hv=> ?_⟩;have od:Off (fZ (gk H) D) (upd N p (.lst [])) (upd (upd N p (.lst [])) D (.lst (acc ++ [.ref p]))):=fR (.inr rfl);rcases aX.mp hv with q |q
  ·exact gS.off (gS.same (C v q) (ae.trans m)) od
  ·have:v= .ref p:=by simpa using q
   subst this;exact gS.off ⟨p,rfl,np,by rw[dj];rfl⟩ od
 ·intro H1 acc s1 R ⟨f,C⟩;have af:Paired (uQ (fZ (gk H) D) H1) acc (di.rowOf A (B.take 0)):=by
   have e:di.rowOf A (B.take 0)=List.replicate acc.length []:=by
    rw[f];rfl
   rw[e];exact Fm C
  refine⟨_,rfl,a,rfl,⟨_,.of (s1 _ _ ha)⟩,jR (fL (K:=K) (.of ha)) (fun i σ I=>∃x3 x4 L,σ=[some (.ref a),some (.int A),some (.ref D),x3,x4]/\dN H I/\I D=some (.lst L)/\Paired (uQ (fZ (gk H) D) I) L (di.rowOf A (B.take i))/\∀r∈di.rowOf A (B.take i),r.length<=1000) ?_ (by rintro i σ I ⟨_,_,_,_,s,_⟩;exact s) ?_ ?_⟩
  ·refine⟨_,_,acc,rfl,s1,R,af,fun r F=> ?_⟩;have e:di.rowOf A (B.take 0)=List.replicate (A+1).toNat []:=rfl;rw[e] at F;rw[(List.mem_replicate.mp F).2];simp
  ·rintro i x σ N H3 hi ⟨x3,x4,L,rfl,E,l,b,y⟩ m J hx;obtain⟨t,ht,tt⟩:=O.nv hx;obtain⟨ta,tp,rfl,_,ad,ac⟩:=jv.same tt m;obtain⟨b1,b2,b3⟩:=hb t (aH ht);have Q:=J _ _ l;have X:=b.jw gS J;have lr:=Rc A (B.take i);have lw:=b.length;have hj:t.1.toNat<(di.rowOf A (B.take i)).length:=by lia
   obtain⟨u,hu,pu⟩:=X.lC (dA (d:=[]) hj);refine⟨ta,_,rfl,.of ad,rfl,_,_,rfl,_,_,rfl,rfl,?_⟩;refine⟨_,rfl,_,rfl,lW (.of Q) (d5 (j:=t.1.toNat) (by lia) hu) ⟨_,rfl,?_⟩⟩;refine⟨_,_,_,_,rfl,pu.at_,ac.at_,?_,by unfold Short;lia,fun p H4 S s4 aa=> ?_⟩
   ·have:=y _ (aH (dA (d:=[]) hj));unfold Short;lia
   have ab:=s4 _ _ Q;refine⟨_,rfl,_,rfl,D,_,_,t.1.toNat,rfl,rfl,ab,sV (by lia) (by lia),?_⟩;have np:¬fZ (gk H) D p:=fun q=>q.elim (fun z=>z (m.free S)) (fun z=>by rw[z,Q] at S;cases S);have od:∀o,Off (fZ (gk H) D) H4 (upd H4 D o):=fun o=>fR (.inr rfl);have e1:di.rowOf A (B.take (i+1))=vk (di.rowOf A (B.take i)) t:=by
    unfold di.rowOf;rw[bo,ht,List.foldl_append];rfl
   refine⟨_,_,_,rfl,(m.trans s4).over g,dj,?_,?_⟩
   ·rw[e1];exact((X.jw gS s4).vI gS (od _)).setAt (gS.off ⟨p,rfl,np,aa⟩ (od _)) _
   ·intro r F;rw[e1] at F;rcases List.mem_or_eq_of_mem_set F with q |q
    ·exact y r q
    ·rw[q];have:=y _ (aH (dA (d:=[]) hj));refine aB (DW _) ?_;rw[lh];lia
  ·rintro σ N ⟨x3,x4,L,rfl,E,l,b,_⟩;refine⟨_,rfl,k _ N E ⟨D,L,rfl,fun z=>z g,l,?_⟩⟩;rw[ll,aQ] at b;exact b.RS gS
theorem LC (f:Paired (mR (fZ S q) A) d l)(i:mR (fZ S q) A x t):Paired (mR (fZ S q) (upd A q (.lst (d ++ [x])))) (d ++ [x]) (l ++ [t]):=
 (f.vI jv (fR (.inr rfl))).kU (jv.off i (fR (.inr rfl)))
abbrev mj:Stmt:=top 33
theorem yd:dD ["first","second","terms"] ["first","second"] (dk mj):=sco
def ye:Sp:=fun d H Q _=>∃x y:Int,d=[.int x,.int y]/\vM H Q (KO x y)
theorem LD (b:H q=none)(k:dN H d)(B:d q=some (.lst A))(u:Paired (mR (fZ (gk H) q) d) A e)(f:d p=none)(l:upd d p (.lst [.int z]) t=none):
  dN H (upd (upd (upd d p (.lst [.int z])) t (.tup [.int x,.ref p])) q (.lst (A ++ [.ref t])))/\Paired (mR (fZ (gk H) q) (upd (upd (upd d p (.lst [.int z])) t (.tup [.int x,.ref p])) q (.lst (A ++ [.ref t])))) (A ++ [.ref t]) (e ++ [(x,[z])]):=by
 have i:=dz (o:= .lst [.int z]) f;have v:=dz (o:= .tup [.int x,.ref p]) l;have a:¬fZ (gk H) q p:=fun h=>h.elim (fun y=>y (k.free f)) (fun y=>by rw[y,B] at f;cases f);have n:¬fZ (gk H) q t:=fun h=>h.elim (fun y=>y ((k.trans i).free l)) (fun y=>by rw[y,i _ _ B] at l;cases l);refine⟨((k.trans i).trans v).over b,LC (u.jw jv (i.trans v)) ⟨t,.ref p,rfl,n,dj,p,rfl,a,v _ _ dj⟩⟩
abbrev mq P w K mg base:=iT P w K mg base "voltage_between" ["first","second"] 1 ye
theorem yf(G:jc K mg "voltage_between" mj ["first","second"]):mq P w K mg base:=by
 have C:=yd;refine G.jy C ?_;rintro _ _ _ _ _ H _ Q _ I ⟨x,y,rfl,k⟩;refine⟨rfl,_,(dh (dX (i:=2) C.nd (d9 de))
   (dh (fS (e9 uH (pv 0) dC (eO _)) (dq (iU (oM aZ a6 a7 gN (pv 2) (c9 (hX (c9 (eZ jE (pv 0) dC) (c9 (d9 (c9 dC de)) de))) de)))) fc)
   (dh (fS (e9 uH (pv 1) dC (eO _)) (dq (iU (oM aZ a6 a7 gN (pv 2) (c9 (hX (c9 (eZ jE (pv 1) dC) (c9 (d9 (c9 (jb gF dC) de)) de))) de)))) fc)
   (dq (dE (pv 2)))))),?_⟩
 refine⟨aR _,fun q n=> ?_⟩;have S:=dz (o:= .lst []) n;have fin:∀(l:Hp) (d:List V),dN H l->l q=some (.lst d)->Paired (mR (fZ (gk H) q) l) d (KO x y)->Q (.ref q) l:=fun l d m B b=>k _ l m ⟨q,d,rfl,fun z=>z n,B,b.RS jv⟩;have second:∀(A:Hp) (d:List V),dN H A->A q=some (.lst d)->d.length<10->Paired (mR (fZ (gk H) q) A) d (if 0<x then[(x - 1,[1])] else[])->
   YB (YD (R7 (W9 (UR fun i j=> .bl (decide (i>j))) (DN 1) (tC (.int 0)))) (Wj (tBM K "list" OI (DN 2) (Kq (YS (Kq (W9 (UR fun i j=> .int (i - j)) (DN 1) (tC (.int 1))) (Kq (YT (Kq (tUn (rU fun i=> .int (-i)) (tC (.int 1))) U7)) U7))) U7))) Wi) (W3 (DN 2)) {nx:=fun _ F=>Q .kY F,rt:=Q} [some (.int x),some (.int y),some (.ref q)] A:=fun A d s a L b=>by
  refine⟨_,rfl,j9 ⟨_,rfl,?_⟩⟩;by_cases e:0<y
  ·rw[aw (show y>0 from e)];refine fz ⟨_,rfl,.inl ⟨rfl,_,.of a⟩,_,rfl,j9 ⟨_,rfl,dy (by simp),fun p h=>⟨dy (by simp),fun t f=> ?_⟩⟩⟩;have B:(upd (upd A p (.lst [.int (-1)])) t (.tup [.int (y - 1),.ref p])) q=some (.lst d):=dz f _ _ (dz h _ _ a);obtain⟨r,v⟩:=LD (x:=y - 1) n s a b h f;refine⟨q,d,_,rfl,rfl,B,dI (by lia),_,rfl,fin _ _ r dj ?_⟩;unfold KO;rw[ai e];exact v
  ·rw[aA (show ¬y>0 from e)];refine fF ⟨_,rfl,fin A d s a ?_⟩;unfold KO;rw[ah e,cw];exact b
 refine⟨_,rfl,j9 ⟨_,rfl,?_⟩⟩;by_cases u:0<x
 ·rw[aw (show x>0 from u)];refine fz ⟨_,rfl,.inl ⟨rfl,_,.of dj⟩,_,rfl,j9 ⟨dy (by simp),fun p h=>⟨dy (by simp),fun t f=> ?_⟩⟩⟩;have B:(upd (upd (upd H q (.lst [])) p (.lst [.int 1])) t (.tup [.int (x - 1),.ref p])) q=some (.lst []):=dz f _ _ (dz h _ _ dj);obtain⟨r,v⟩:=LD (x:=x - 1) n S dj .nil h f;refine⟨q,[],_,rfl,rfl,B,dI (by decide),second _ _ r dj (by simp) ?_⟩;rw[ai u];exact v
 ·rw[aA (show ¬x>0 from u)];refine fF (second _ [] S dj (by simp) ?_);rw[ah u];exact .nil
abbrev tQ:Stmt:=top 34
theorem GC:dD ["part"] ["part"] (dk tQ):=sco
def GD(c:Cs):Sp:=fun d H Q _=>∃v p,d=[v]/\iR c H v p/\vM H Q (oT p)
abbrev g5 P w K mg base c:=iT P w K mg base "voltage_of" ["part"] 2 (GD c)
theorem GF(O:hE K c)(A:mq P w K mg base)(G:jc K mg "voltage_of" tQ ["part"]):g5 P w K mg base c:=by
 have i:=GC;refine G.jy i ?_;rintro _ _ _ _ _ _ _ _ _ l ⟨v,p,rfl,⟨a,f,rfl,d⟩,k⟩;refine⟨rfl,_,(dq (dE (dB A l (c9 (du K (pv 0) rfl) (c9 (du K (pv 0) rfl) de))))),?_⟩;exact⟨_,rfl,eH d O.part.cl (O.part.at_ 1 rfl) rfl ⟨_,rfl,eH d O.part.cl (O.part.at_ 2 rfl) rfl ⟨_,_,rfl,k⟩⟩⟩
abbrev jF:Stmt:=top 35
theorem tS:dD ["part"] ["part"] (dk jF):=sco
def tU(c:Cs):Sp:=fun d H Q _=>∃v p,d=[v]/\iR c H v p/\vM H Q (IX p)
abbrev gr P w K mg base c:=iT P w K mg base "controlling_voltage" ["part"] 2 (tU c)
theorem tV(O:hE K c)(A:mq P w K mg base)(G:jc K mg "controlling_voltage" jF ["part"]):gr P w K mg base c:=by
 have i:=tS;refine G.jy i ?_;rintro _ _ _ _ _ _ _ _ _ l ⟨v,p,rfl,⟨a,f,rfl,d⟩,k⟩;refine⟨rfl,_,(dq (dE (dB A l (c9 (du K (pv 0) rfl) (c9 (du K (pv 0) rfl) de))))),?_⟩;exact⟨_,rfl,eH d O.part.cl (O.part.at_ 3 rfl) rfl ⟨_,rfl,eH d O.part.cl (O.part.at_ 4 rfl) rfl ⟨_,_,rfl,k⟩⟩⟩
theorem JN (i:dN H H1)(k:H p=none)(v:H1 p=some (.lst (l.map V.int)))(B:H1 t=none)(f:upd H1 t (.tup [.int x,.ref p]) q=none):
  dN H (upd (upd H1 t (.tup [.int x,.ref p])) q (.lst [.ref t]))/\tO (gk H) (upd (upd H1 t (.tup [.int x,.ref p])) q (.lst [.ref t])) (.ref q) [(x,l)]:=by
 have d:=dz (o:= .tup [.int x,.ref p]) B;have A:=dz (o:= .lst [.ref t]) f;refine⟨(i.trans d).trans A,q,_,rfl,fun z=>z ((i.trans d).free f),dj,.cons ⟨t,.ref p,rfl,fun z=>z (i.free B),A _ _ dj,p,rfl,fun z=>z k,A _ _ (d _ _ v)⟩ .nil⟩
abbrev tW:Stmt:=top 36
theorem GG:dD ["setting","k"] ["setting","k"] (dk tW):=sco
def GH(c:Cs):Sp:=fun d H Q _=>∃v g k,d=[v,.int k]/\oO c H v g/\0<=k/\k<g.eQ.dc.length/\vM H Q (di.cur g k)
theorem places_len (n):(di.places n).length=n.dc.length:=tP _ _
abbrev gb P w K mg base c:=iT P w K mg base "current_of" ["setting","k"] 1 (GH c)
theorem GI(O:hE K c)(G:jc K mg "current_of" tW ["setting","k"]):gb P w K mg base c:=by
 have n:=GG;refine G.jy n ?_;rintro _ _ _ _ _ _ _ _ _ o ⟨v,g,k,rfl,⟨a,S,H,F,r,m,Q,rfl,h,C,L,s,y,⟨N,rfl,d⟩⟩,I,z,B⟩;refine⟨rfl,_,(dq (dE (d9 (c9 (hX (c9 (d8 (jq K) (du K (pv 0) rfl) (pv 1) (fun _ _=>rfl)) (c9 (d9 (c9 dC de)) de))) de)))),?_⟩;have e:k.toNat<(di.places g.eQ).length:=by rw[places_len];lia
 refine⟨_,rfl,eH h O.kK.cl (O.kK.at_ 4 rfl) rfl ⟨_,rfl,lW (.of d) (d5 (j:=k.toNat) (by lia) (jf e)) ⟨dy (by simp),fun p A=>⟨dy (by simp),fun t i=>⟨dy (by simp),fun q u=> ?_⟩⟩⟩⟩⟩;obtain⟨b,f⟩:=JN (l:=[1]) (x:=(di.places g.eQ).getD k.toNat 0) (dz A) A dj i u;exact B _ _ b f
abbrev zV:Stmt:=top 37
theorem Rg:dD ["terms","polynomial","place","factor"] ["terms","polynomial"] (dk zV):=sco
def Rh:Sp:=fun A H Q _=>∃v u d p,A=[v,u]/\tO (fun _=>False) H v d/\fI H u p/\oP d/\d.length<=1000/\Short p/\vM H Q (sX d p)
abbrev sG P w K mg base:=iT P w K mg base "scaled" ["terms","polynomial"] 2 Rh
theorem Ri(jm:tN P w K mg base)(G:jc K mg "scaled" zV ["terms","polynomial"]):sG P w K mg base:=by
 have e:=Rg;refine G.jy e ?_;rintro _ _ _ _ _ H _ _ _ T ⟨v,u,C,p,rfl,⟨a,us,rfl,_,E,S⟩,O,N,hl,hs,k⟩;have ll:=S.length;refine⟨rfl,_,(dq (dE (mO rfl e.nd (fK (pv 0)) (fC (own:=[("place",2),("factor",3)]) (by show mV ["terms","polynomial","place","factor"] (dk zV) _ _=true;decide +kernel)) (fun _ _ _ _ _=>(j8 K (n:=2) rfl (fu (fk (i:=2) e.nd) (fu (fk (i:=3) e.nd) j7)))) (fun _ _ _ _ _=>gh) (fun _ _ _ _ _=>(hX (c9 (pv 2) (c9 (dB jm T (c9 (pv 3) (c9 (pv 1) de))) de))))))),?_⟩;refine⟨_,rfl,a,rfl,⟨_,.of E⟩,fun D m=>oC (fL (.of E)) m (fun i H' acc=>Paired (mR (fZ (gk H) D) H') acc (sX (C.take i) p)) .nil ?_ ?_⟩
 ·rintro i x J H2 acc hi X s d B R f L;obtain⟨t,j,tt⟩:=S.nv L;obtain⟨ta,tp,rfl,_,g,M⟩:=jv.same tt B;have F:=d.length;refine⟨ta,_,rfl,.of g,rfl,_,_,rfl,_,_,rfl,rfl,rfl,?_⟩;obtain⟨u1,u2⟩:=N t (aH j);refine⟨_,rfl,_,rfl,_,rfl,_,_,_,_,rfl,M.at_,O.same B,by unfold Short;lia,hs,fun x L y _=>Ul (u2 x L) y,fun q H3 I l Q=> ?_⟩;refine⟨dy (by simp),fun r A=> ?_⟩;have b:=dz (o:= .tup [.int t.1,.ref q]) A;have nq:¬fZ (gk H) D q:=fun h=>h.elim (fun y=>y (B.free I)) (fun y=>by rw[y,f] at I;cases I);have nr:¬fZ (gk H) D r:=fun h=>h.elim (fun y=>y ((B.trans l).free A)) (fun y=>by rw[y,l _ _ f] at A;cases A);refine gz m ((B.trans l).trans b) (b _ _ (l _ _ f)) ?_ ?_
  ·rw[F];unfold sX;rw[lMp,aP];exact dI (by lia)
  ·have e1:sX (C.take (i+1)) p=sX (C.take i) p ++ [(t.1,iQ t.2 p)]:=by
    unfold sX;exact eX _ _ _ _ j
   rw[e1];exact LC (d.jw jv ((R.trans l).trans b)) ⟨r,.ref q,rfl,nr,dj,q,rfl,nq,b _ _ Q⟩
 ·intro J acc X s d;rw[ll,aQ] at d;exact k _ J X ⟨D,acc,rfl,fun z=>z m,s,d.RS jv⟩
theorem Qc (e:dN H H1)(B:dN H1 A)(C:tO (gk H) H1 x i)(s:tO (gk H1) A y f)(I:i.length+f.length<=1000)(k:vM H Q (i ++ f)):Y1 x y A Q:=by
 obtain⟨a,t,rfl,G,r,n⟩:=C;obtain⟨b,v,rfl,L,S,h⟩:=s;have F:=n.length;have m:=h.length;refine⟨a,b,t,v,rfl,rfl,B _ _ r,S,dy (by lia),fun p u=> ?_⟩;have l:=dz (o:= .lst (t ++ v)) u;have d:=e.trans B;exact k _ _ (d.trans l) ⟨p,_,rfl,fun z=>z (d.free u),dj,((n.jw jv B).jw jv l).app (PySem.Paired.h9 (h.jw jv l) fun _ _ q=>jv.less q (gm e))⟩
theorem oZ(d:List (Int×List Int))(p:List Int):(sX d p).length=d.length:=by unfold sX;simp
theorem sH (x):Short (di.cst x):=by
 unfold Short di.cst;split <;>simp
abbrev pW:Stmt:=top 38
theorem CL:dD ["part","left","right"] ["part","left","right"] (dk pW):=sco
def CM(c:Cs):Sp:=fun d H Q _=>∃v x y p l r,d=[v,x,y]/\iR c H v p/\tO (fun _=>False) H x l/\tO (fun _=>False) H y r/\oP l/\oP r/\l.length<=100/\r.length<=100/\vM H Q (pN p l r)
abbrev gL P w K mg base c:=iT P w K mg base "times_number" ["part","left","right"] 3 (CM c)
theorem CN(O:hE K c)(n:tJ P w K mg base)(h:sG P w K mg base)(G:jc K mg "times_number" pW ["part","left","right"]):gL P w K mg base c:=by
 have m:=CL;refine G.jy m ?_;rintro _ _ _ _ _ _ _ _ _ A ⟨v,x,y,p,l,r,rfl,⟨a,Q,rfl,e⟩,F,S,s,o,E,g,k⟩;refine⟨rfl,_,(dq (dE (eZ A2 (dB h A (c9 (pv 1) (c9 (dB n A (c9 (du K (pv 0) rfl) de)) de))) (dB h A (c9 (pv 2) (c9 (dB n A (c9 (jb gF (du K (pv 0) rfl)) de)) de)))))),?_⟩;refine⟨_,rfl,_,rfl,eH e O.part.cl (O.part.at_ 6 rfl) rfl ⟨_,rfl,fun q M X f u=> ?_⟩⟩;refine⟨_,_,_,_,rfl,fj.same F f,⟨q,rfl,u⟩,s,by lia,sH _,fun z N C H=> ?_⟩;have B:=fj.less H (gm f);have d:=f.trans C;refine⟨_,rfl,_,rfl,eH (d _ _ e) O.part.cl (O.part.at_ 5 rfl) rfl ⟨_,rfl,_,rfl,fun L D j i t=> ?_⟩⟩;refine⟨_,_,_,_,rfl,fj.same S (d.trans i),⟨L,rfl,t⟩,o,by lia,sH _,fun R J I b=> ?_⟩;exact Qc d (i.trans I) B (fj.less b (gm i)) (by rw[oZ,oZ];lia) k
abbrev pX:Stmt:=top 39
theorem CO:dD ["setting","k","terms","drive"] ["setting","k","terms"] (dk pX):=sco
def CP(c:Cs):Sp:=fun A H Q _=>∃v x g k d,A=[v,.int (k:Nat),x]/\oO c H v g/\k<g.drives.length/\tO (fun _=>False) H x d/\oP d/\d.length<=100/\vM H Q (Mh g k d)
abbrev pY P w K mg base c:=iT P w K mg base "set_to_drive" ["setting","k","terms"] 3 (CP c)
theorem CQ(O:hE K c)(y:tJ P w K mg base)(I:sG P w K mg base)(G:jc K mg "set_to_drive" pX ["setting","k","terms"]):pY P w K mg base c:=by
 have C:=CO;refine G.jy C ?_;rintro _ _ _ _ _ _ _ _ _ f ⟨v,x,g,k,ts,rfl,⟨a,dx,vn,vs,aa,vd,vp,rfl,H,hn,hs,ac,⟨da,ds,rfl,n,p⟩,ab⟩,m,X,D,lt,N⟩;refine⟨rfl,_,(dh (dX (i:=3) C.nd (d8 (jq K) (du K (pv 0) rfl) (pv 1) (fun _ _=>rfl)))
   (dq (dE (eZ A2 (dB I f (c9 (pv 2) (c9 (dB y f (c9 (d8 (ZN K) (pv 3) dC (fun _ _=>rfl)) de)) de))) (d9 (c9 (hX (c9 (du K (pv 0) rfl) (c9 (dB y f (c9 (d8 (ZN K) (pv 3) dC (fun _ _=>rfl)) de)) de))) de)))))),?_⟩
 obtain⟨u,J,t,rfl,e⟩:=p.lC (dA (d:=(0,1)) m);refine⟨_,rfl,eH H O.kK.cl (O.kK.at_ 3 rfl) rfl ⟨_,rfl,lW (.of n) (d5 (j:=k) rfl J) ?_⟩⟩;refine⟨_,rfl,_,rfl,lW (.of e) (d5 (j:=1) rfl rfl) ⟨_,rfl,fun q H1 hq B F=> ?_⟩⟩;refine⟨_,_,_,_,rfl,fj.same X B,⟨q,rfl,F⟩,D,by lia,sH _,fun z H2 E Q=> ?_⟩;have s:=fj.less Q (gm B);have A:=B.trans E;refine⟨_,rfl,eH (A _ _ H) O.kK.cl (O.kK.at_ 5 rfl) rfl ⟨_,rfl,lW (.of (A _ _ e)) (d5 (j:=0) rfl rfl) ⟨_,rfl,fun q2 H3 h L o=> ?_⟩⟩⟩;refine⟨dy (by simp),fun r S=>⟨dy (by simp),fun b T=> ?_⟩⟩;obtain⟨R,M⟩:=JN (l:=di.cst (g.drives.getD k (0,1)).1) (x:=di.width g.eQ) L h o S T;exact Qc A R s M (by rw[oZ];simp;lia) N
def zW(H:Hp)(Q:VK)(L:List (List (Int×List Int))):Prop:=∀z d,dN H d->Zu (gk H) d z L->Q z d
theorem i0 (s:dN H H1)(h:tO (gk H) H1 x A)(k:zW H Q [A]):∀p,H1 p=none->Q (.ref p) (upd H1 p (.lst [x])):=fun p d=>
 k _ _ (s.trans (dz d)) ⟨p,_,rfl,fun z=>z (s.free d),dj,.cons (fj.same h (dz d)) .nil⟩
structure ZO(g:mY):Prop where
 dc:g.eQ.dc.length<=20
 st:g.gZ.length=g.eQ.dc.length
 dr:g.drives.length=g.eQ.dc.length
 s:g.s=[]\/g.s=[0,1]
theorem sI (x y):oP (KO x y)/\(KO x y).length<=2:=by
 unfold KO oP;refine⟨fun t d=> ?_,?_⟩
 ·rcases aX.mp d with h |h
  ·split at h
   ·have:t=(x - 1,[1]):=by simpa using h
    subst this;simp
   ·cases h
  ·split at h
   ·have:t=(y - 1,[-1]):=by simpa using h
    subst this;simp
   ·cases h
 ·split <;>split <;>simp
theorem BE (g)(k):oP (di.cur g k)/\(di.cur g k).length<=2:=by
 unfold di.cur oP;refine⟨fun t d=> ?_,by simp⟩;have:t=((di.places g.eQ).getD k.toNat 0,[1]):=by simpa using d
 subst this;simp
theorem Rj {l:List Int}(i:l.length<=100/\∀x∈l,x.natAbs<=1)(A:l.length<=1)(f:p=[]\/p=[0,1]\/p=[-1]):(iQ l p).length<=2/\∀x∈iQ l p,x.natAbs<=1:=by
 match l,A with
 |[],_=>simp[iQ]
 |[z],_=>
  have B:=i.2 z (by simp);rcases f with rfl |rfl |rfl
  ·simp[iQ]
  ·have e:iQ [z] [0,1]=[z*0+0,z*1]:=rfl;rw[e];refine⟨by simp,fun x d=> ?_⟩;simp at d;rcases d with rfl |rfl
   ·simp
   ·exact B
  ·have e:iQ [z] [-1]=[z*(-1)+0]:=rfl;rw[e];refine⟨by simp,fun x d=> ?_⟩;simp at d;subst d;rw[Int.natAbs_neg];exact B
def One(d:List (Int×List Int)):Prop:=∀t∈d,t.2.length<=1
theorem BF (h:oP d)(i:One d)(f:p=[]\/p=[0,1]\/p=[-1]):oP (sX d p):=fun t A=>by
 unfold sX at A;obtain⟨u,l,rfl⟩:=aV.mp A;have:=Rj (h u l) (i u l) f;exact⟨by have:=this.1;show(iQ u.2 p).length<=100;lia,this.2⟩
theorem VX (x y):One (KO x y):=by
 unfold KO One;intro t d;rcases aX.mp d with h |h
 ·split at h
  ·have:t=(x - 1,[1]):=by simpa using h
   subst this;simp
  ·cases h
 ·split at h
  ·have:t=(y - 1,[-1]):=by simpa using h
   subst this;simp
  ·cases h
theorem Qe (g)(k):One (di.cur g k):=by
 unfold di.cur One;intro t d;have:t=((di.places g.eQ).getD k.toNat 0,[1]):=by simpa using d
 subst this;simp
theorem Um (O:hE K c)(B:oO c H v g)(f:σ[0]? =some (some v))(q:∀a d,H a=some (.lst d)->Paired (iR c H) d g.eQ.dc->Q (.ref a) H):
  Qx K (Qx K (DN 0) "network") "parts" σ H Q:=by
 obtain⟨a,r,u,o,t,S,y,rfl,k,⟨s,h,e,rfl,l,x,d,rfl,A,i⟩,C,n,p,b⟩:=B;exact⟨_,f,eH k O.kK.cl (O.kK.at_ 0 rfl) rfl (eH l O.eQ.cl (O.eQ.at_ 1 rfl) rfl (q x d A i))⟩
theorem oh (O:hE K c)(B:oO c H v g)(x:k<g.eQ.dc.length)(l:σ[0]? =some (some v))(i:σ[1]? =some (some (.int (k:Int))))(q:∀u,iR c H u (g.eQ.dc.getD k p0)->Q u H):
  W9 (Xe K) (Qx K (Qx K (DN 0) "network") "parts") (DN 1) σ H Q:=by
 refine Um O B l fun a e h A=> ?_;obtain⟨u,t,f⟩:=A.lC (dA (d:=p0) x);exact⟨_,i,lW (.of h) (d5 (j:=k) rfl t) (q u f)⟩
def kW(c:Cs)(A:mY->Nat->Prop)(F:mY->Nat->List (List (Int×List Int))):Sp:=fun d H Q _=>∃v g k,d=[v,.int ((k:Nat):Int)]/\oO c H v g/\ZO g/\k<g.eQ.dc.length/\A g k/\zW H Q (F g k)
abbrev pat(g:mY)(k:Nat):di.Part:=g.eQ.dc.getD k p0
theorem CB (p):(oT p).length<=100:=aB (sI _ _).2 (by decide)
theorem Uo (p):(IX p).length<=100:=aB (sI _ _).2 (by decide)
theorem vO (g)(k):(di.cur g k).length<=100:=aB (BE _ _).2 (by decide)
theorem WJ (p):oP (oT p):=(sI _ _).1
theorem u_w (p):oP (IX p):=(sI _ _).1
theorem Up (g)(k):oP (di.cur g k):=(BE _ _).1
theorem toF{S:Addr->Prop}{H:Hp}{v:V}{d:List (Int×List Int)}(h:tO S H v d):tO (fun _=>False) H v d:=fj.less h (fun _ h=>h.elim)
abbrev Fn:mY->Nat->Prop:=fun _ _=>True
abbrev CIN:mY->Nat->Prop:=fun g k=>0<=(pat g k).c/\(pat g k).c<g.eQ.dc.length
abbrev oG:Stmt:=top 40
theorem BG:dD ["setting","k","part"] ["setting","k"] (dk oG):=sco
abbrev CS P w K mg base c:=iT P w K mg base "resistor_laws" ["setting","k"] 5 (kW c Fn fun g k=>[pN (pat g k) (oT (pat g k)) (di.cur g k)])
theorem BH(O:hE K c)(r:gL P w K mg base c)(s:g5 P w K mg base c)(q:gb P w K mg base c)(G:jc K mg "resistor_laws" oG ["setting","k"]):CS P w K mg base c:=by
 have x:=BG;refine G.jy x ?_;rintro _ _ _ _ _ _ _ _ _ l ⟨v,g,k,rfl,f,ok,e,H,b⟩;refine⟨rfl,_,(dh (dX (i:=2) x.nd (d8 (jq K) (du K (du K (pv 0) rfl) rfl) (pv 1) (fun _ _=>rfl)))
   (dq (dE (d9 (c9 (dB r l (c9 (pv 2) (c9 (dB s l (c9 (pv 2) de)) (c9 (dB q l (c9 (pv 0) (c9 (pv 1) de))) de)))) de))))),?_⟩
 refine oh O f e rfl rfl fun u h=> ?_;refine⟨_,rfl,?_⟩;refine⟨_,rfl,_,_,rfl,h,fun y S A B=> ?_⟩;refine⟨_,rfl,_,rfl,_,_,_,rfl,f.same A,by lia,by lia,fun p o d t=> ?_⟩;refine⟨_,_,_,_,_,_,rfl,h.same (A.trans d),toF (fj.same B d),toF t,WJ _,Up _ _,CB _,vO _ _,fun z C a n=> ?_⟩;exact⟨dy (by simp),i0 ((A.trans d).trans a) (fj.less n (gm (A.trans d))) b⟩
abbrev ik:Stmt:=top 47
theorem pZ:dD ["setting","k","part"] ["setting","k"] (dk ik):=sco
abbrev qy P w K mg base c:=iT P w K mg base "voltage_by_voltage_laws" ["setting","k"] 5 (kW c Fn fun g k=>[pN (pat g k) (oT (pat g k)) (IX (pat g k))])
theorem p5(O:hE K c)(r:gL P w K mg base c)(s:g5 P w K mg base c)(n:gr P w K mg base c)(G:jc K mg "voltage_by_voltage_laws" ik ["setting","k"]):qy P w K mg base c:=by
 have x:=pZ;refine G.jy x ?_;rintro _ _ _ _ _ _ _ _ _ l ⟨v,g,k,rfl,a,ok,t,H,q⟩;refine⟨rfl,_,(dh (dX (i:=2) x.nd (d8 (jq K) (du K (du K (pv 0) rfl) rfl) (pv 1) (fun _ _=>rfl)))
   (dq (dE (d9 (c9 (dB r l (c9 (pv 2) (c9 (dB s l (c9 (pv 2) de)) (c9 (dB n l (c9 (pv 2) de)) de)))) de))))),?_⟩
 refine oh O a t rfl rfl fun u f=> ?_;refine⟨_,rfl,?_⟩;refine⟨_,rfl,_,_,rfl,f,fun y S A B=> ?_⟩;refine⟨_,rfl,_,_,rfl,f.same A,fun p o d h=> ?_⟩;refine⟨_,_,_,_,_,_,rfl,f.same (A.trans d),toF (fj.same B d),toF h,WJ _,u_w _,CB _,Uo _,fun z C e b=> ?_⟩;exact⟨dy (by simp),i0 ((A.trans d).trans e) (fj.less b (gm (A.trans d))) q⟩
abbrev il:Stmt:=top 48
theorem p8:dD ["setting","k","part"] ["setting","k"] (dk il):=sco
abbrev qA P w K mg base c:=iT P w K mg base "current_by_voltage_laws" ["setting","k"] 5 (kW c Fn fun g k=>[pN (pat g k) (di.cur g k) (IX (pat g k))])
theorem p9(O:hE K c)(s:gL P w K mg base c)(q:gb P w K mg base c)(r:gr P w K mg base c)(G:jc K mg "current_by_voltage_laws" il ["setting","k"]):qA P w K mg base c:=by
 have x:=p8;refine G.jy x ?_;rintro _ _ _ _ _ _ _ _ _ l ⟨v,g,k,rfl,f,ok,e,H,b⟩;refine⟨rfl,_,(dh (dX (i:=2) x.nd (d8 (jq K) (du K (du K (pv 0) rfl) rfl) (pv 1) (fun _ _=>rfl)))
   (dq (dE (d9 (c9 (dB s l (c9 (pv 2) (c9 (dB q l (c9 (pv 0) (c9 (pv 1) de))) (c9 (dB r l (c9 (pv 2) de)) de)))) de))))),?_⟩
 refine oh O f e rfl rfl fun u h=> ?_;refine⟨_,rfl,?_⟩;refine⟨_,rfl,_,rfl,_,_,_,rfl,f,by lia,by lia,fun y S A B=> ?_⟩;refine⟨_,rfl,_,_,rfl,h.same A,fun p o d t=> ?_⟩;refine⟨_,_,_,_,_,_,rfl,h.same (A.trans d),toF (fj.same B d),toF t,Up _ _,u_w _,vO _ _,Uo _,fun z C a n=> ?_⟩;exact⟨dy (by simp),i0 ((A.trans d).trans a) (fj.less n (gm (A.trans d))) b⟩
abbrev iq:Stmt:=top 49
theorem qf:dD ["setting","k","part"] ["setting","k"] (dk iq):=sco
abbrev qB P w K mg base c:=iT P w K mg base "voltage_by_current_laws" ["setting","k"] 5 (kW c CIN fun g k=>[pN (pat g k) (oT (pat g k)) (di.cur g (pat g k).c)])
theorem qg(O:hE K c)(p:gL P w K mg base c)(o:g5 P w K mg base c)(b:gb P w K mg base c)(G:jc K mg "voltage_by_current_laws" iq ["setting","k"]):qB P w K mg base c:=by
 have t:=qf;refine G.jy t ?_;rintro _ _ _ _ _ _ _ _ _ l ⟨v,g,k,rfl,x,ok,a,e,r⟩;refine⟨rfl,_,(dh (dX (i:=2) t.nd (d8 (jq K) (du K (du K (pv 0) rfl) rfl) (pv 1) (fun _ _=>rfl)))
   (dq (dE (d9 (c9 (dB p l (c9 (pv 2) (c9 (dB o l (c9 (pv 2) de)) (c9 (dB b l (c9 (pv 0) (c9 (du K (pv 2) rfl) de))) de)))) de))))),?_⟩
 refine oh O x a rfl rfl fun u f=> ?_;obtain⟨F,H,rfl,B⟩:=id f;refine⟨_,rfl,?_⟩;refine⟨_,rfl,_,_,rfl,f,fun I y d h=> ?_⟩;refine⟨_,rfl,_,rfl,eH (d _ _ B) O.part.cl (O.part.at_ 3 rfl) rfl ⟨_,_,_,rfl,x.same d,e.1,e.2,fun S C A q=> ?_⟩⟩;refine⟨_,_,_,_,_,_,rfl,f.same (d.trans A),toF (fj.same h A),toF q,WJ _,Up _ _,CB _,vO _ _,fun z m n s=> ?_⟩;exact⟨dy (by simp),i0 ((d.trans A).trans n) (fj.less s (gm (d.trans A))) r⟩
abbrev ir:Stmt:=top 50
theorem qh:dD ["setting","k","part"] ["setting","k"] (dk ir):=sco
abbrev qC P w K mg base c:=iT P w K mg base "current_by_current_laws" ["setting","k"] 5 (kW c CIN fun g k=>[pN (pat g k) (di.cur g k) (di.cur g (pat g k).c)])
theorem qj(O:hE K c)(p:gL P w K mg base c)(B:gb P w K mg base c)(G:jc K mg "current_by_current_laws" ir ["setting","k"]):qC P w K mg base c:=by
 have t:=qh;refine G.jy t ?_;rintro _ _ _ _ _ _ _ _ _ l ⟨v,g,k,rfl,f,ok,b,e,r⟩;refine⟨rfl,_,(dh (dX (i:=2) t.nd (d8 (jq K) (du K (du K (pv 0) rfl) rfl) (pv 1) (fun _ _=>rfl)))
   (dq (dE (d9 (c9 (dB p l (c9 (pv 2) (c9 (dB B l (c9 (pv 0) (c9 (pv 1) de))) (c9 (dB B l (c9 (pv 0) (c9 (du K (pv 2) rfl) de))) de)))) de))))),?_⟩
 refine oh O f b rfl rfl fun u q=> ?_;obtain⟨y,o,rfl,x⟩:=id q;refine⟨_,rfl,?_⟩;refine⟨_,rfl,_,rfl,_,_,_,rfl,f,by lia,by lia,fun m C d h=> ?_⟩;refine⟨_,rfl,_,rfl,eH (d _ _ x) O.part.cl (O.part.at_ 3 rfl) rfl ⟨_,_,_,rfl,f.same d,e.1,e.2,fun H S A a=> ?_⟩⟩;refine⟨_,_,_,_,_,_,rfl,q.same (d.trans A),toF (fj.same h A),toF a,Up _ _,Up _ _,vO _ _,vO _ _,fun z F n s=> ?_⟩;exact⟨dy (by simp),i0 ((d.trans A).trans n) (fj.less s (gm (d.trans A))) r⟩
abbrev nH:Stmt:=top 41
theorem zX:dD ["setting","k","part"] ["setting","k"] (dk nH):=sco
abbrev BI P w K mg base c:=iT P w K mg base "capacitor_laws" ["setting","k"] 5 (kW c Fn fun g k=>[pN (pat g k) (di.cur g k) (sX (oT (pat g k)) g.s)])
theorem zY(O:hE K c)(m:gL P w K mg base c)(L:g5 P w K mg base c)(H:gb P w K mg base c)(o:sG P w K mg base)(G:jc K mg "capacitor_laws" nH ["setting","k"]):BI P w K mg base c:=by
 have q:=zX;refine G.jy q ?_;rintro _ _ _ _ _ _ _ _ _ l ⟨v,g,k,rfl,B,ok,p,T,S⟩;refine⟨rfl,_,(dh (dX (i:=2) q.nd (d8 (jq K) (du K (du K (pv 0) rfl) rfl) (pv 1) (fun _ _=>rfl)))
   (dq (dE (d9 (c9 (dB m l (c9 (pv 2) (c9 (dB H l (c9 (pv 0) (c9 (pv 1) de))) (c9 (dB o l (c9 (dB L l (c9 (pv 2) de)) (c9 (du K (pv 0) rfl) de))) de)))) de))))),?_⟩
 refine oh O B p rfl rfl fun u b=> ?_;refine⟨_,rfl,?_⟩;refine⟨_,rfl,_,rfl,_,_,_,rfl,B,by lia,by lia,fun x1 H1 A t=> ?_⟩;refine⟨_,rfl,_,_,rfl,b.same A,fun Q M d n=> ?_⟩;have x:=B.same (A.trans d);obtain⟨a,X,E,D,N,R,vp,rfl,C,_,F,_⟩:=id x;have r:oP (sX (oT (pat g k)) g.s):=BF (WJ _) (VX _ _) (ok.s.elim .inl fun e=> .inr (.inl e));have j:Short g.s:=by
  unfold Short;rcases ok.s with e |e <;>rw[e] <;>simp
 refine⟨_,rfl,eH C O.kK.cl (O.kK.at_ 1 rfl) rfl ⟨_,_,_,_,rfl,toF n,F,WJ _,aB (CB _) (by decide),j,fun J H3 f h=> ?_⟩⟩;refine⟨_,_,_,_,_,_,rfl,b.same ((A.trans d).trans f),toF (fj.same t (d.trans f)),toF h,Up _ _,r,vO _ _,by rw[oZ];exact CB _,fun z H4 I y=> ?_⟩;exact⟨dy (by simp),i0 (((A.trans d).trans f).trans I) (fj.less y (gm ((A.trans d).trans f))) S⟩
abbrev oH:Stmt:=top 44
theorem BJ:dD ["setting","k"] ["setting","k"] (dk oH):=sco
abbrev CT P w K mg base c:=iT P w K mg base "coupling_laws" ["setting","k"] 5 (kW c Fn fun g k=>[])
theorem BK(G:jc K mg "coupling_laws" oH ["setting","k"]):CT P w K mg base c:=by
 have l:=BJ;refine iT.mono (j:=1) (G.jy l ?_) (by decide);rintro _ _ _ _ _ _ _ _ _ i ⟨v,g,k,rfl,f,ok,x,B,A⟩;refine⟨rfl,_,(dq (dE (d9 de))),?_⟩;exact⟨aR _,fun p d=>A _ _ (dz d) ⟨p,_,rfl,fun z=>z d,dj,.nil⟩⟩
abbrev jG:Stmt:=top 45
theorem tX:dD ["setting","k"] ["setting","k"] (dk jG):=sco
abbrev mS P w K mg base c:=iT P w K mg base "voltage_source_laws" ["setting","k"] 4 (kW c Fn fun g k=>[Mh g k (oT (pat g k))])
theorem tY(O:hE K c)(B:pY P w K mg base c)(t:g5 P w K mg base c)(G:jc K mg "voltage_source_laws" jG ["setting","k"]):mS P w K mg base c:=by
 have e:=tX;refine G.jy e ?_;rintro _ _ _ _ _ _ _ _ _ A ⟨v,g,k,rfl,l,ok,i,b,x⟩;refine⟨rfl,_,(dq (dE (d9 (c9 (dB B A (c9 (pv 0) (c9 (pv 1) (c9 (dB t A (c9 (d8 (jq K) (du K (du K (pv 0) rfl) rfl) (pv 1) (fun _ _=>rfl)) de)) de)))) de)))),?_⟩;refine⟨_,rfl,_,rfl,?_⟩;refine oh O l i rfl rfl fun u a=> ?_;refine⟨_,_,rfl,a,fun n s d f=> ?_⟩;refine⟨_,_,_,_,_,rfl,l.same d,by rw[ok.dr];exact i,toF f,WJ _,CB _,fun z r h q=> ?_⟩;exact⟨dy (by simp),i0 (d.trans h) (fj.less q (gm d)) x⟩
abbrev jH:Stmt:=top 46
theorem tZ:dD ["setting","k"] ["setting","k"] (dk jH):=sco
abbrev uR P w K mg base c:=iT P w K mg base "current_source_laws" ["setting","k"] 4 (kW c Fn fun g k=>[Mh g k (di.cur g k)])
theorem ue(O:hE K c)(f:pY P w K mg base c)(B:gb P w K mg base c)(G:jc K mg "current_source_laws" jH ["setting","k"]):uR P w K mg base c:=by
 have t:=tZ;refine G.jy t ?_;rintro _ _ _ _ _ _ _ _ _ A ⟨v,g,k,rfl,l,ok,e,a,x⟩;refine⟨rfl,_,(dq (dE (d9 (c9 (dB f A (c9 (pv 0) (c9 (pv 1) (c9 (dB B A (c9 (pv 0) (c9 (pv 1) de))) de)))) de)))),?_⟩;refine⟨_,rfl,_,rfl,?_⟩;refine⟨_,rfl,_,rfl,_,_,_,rfl,l,by lia,by lia,fun b u d i=> ?_⟩;refine⟨_,_,_,_,_,rfl,l.same d,by rw[ok.dr];exact e,toF i,Up _ _,vO _ _,fun z n h q=> ?_⟩;exact⟨dy (by simp),i0 (d.trans h) (fj.less q (gm d)) x⟩
abbrev nI:Stmt:=top 52
theorem zZ:dD ["setting","k"] ["setting","k"] (dk nI):=sco
abbrev BL P w K mg base c:=iT P w K mg base "amplifier_laws" ["setting","k"] 3 (kW c Fn fun g k=>[IX (pat g k)])
theorem z5(O:hE K c)(A:gr P w K mg base c)(G:jc K mg "amplifier_laws" nI ["setting","k"]):BL P w K mg base c:=by
 have B:=zZ;refine G.jy B ?_;rintro _ _ _ _ _ _ _ _ _ i ⟨v,g,k,rfl,x,ok,h,e,f⟩;refine⟨rfl,_,(dq (dE (d9 (c9 (dB A i (c9 (d8 (jq K) (du K (du K (pv 0) rfl) rfl) (pv 1) (fun _ _=>rfl)) de)) de)))),?_⟩;refine oh O x h rfl rfl fun u t=> ?_;refine⟨_,_,rfl,t,fun q a l d=> ?_⟩;exact⟨dy (by simp),i0 l d f⟩
abbrev rN:Stmt:=top 53
theorem Fo:dD ["setting","k","part"] ["setting","k"] (dk rN):=sco
abbrev GJ P w K mg base c:=iT P w K mg base "switch_laws" ["setting","k"] 3 (kW c Fn fun g k=>[if(pat g k).top=0 then di.cur g k else oT (pat g k)])
theorem Fp(O:hE K c)(a:gb P w K mg base c)(b:g5 P w K mg base c)(G:jc K mg "switch_laws" rN ["setting","k"]):GJ P w K mg base c:=by
 have x:=Fo;refine G.jy x ?_;rintro _ _ _ _ _ H _ Q _ B ⟨v,g,k,rfl,t,ok,n,S,d⟩;refine⟨rfl,_,(dh (dX (i:=2) x.nd (d8 (jq K) (du K (du K (pv 0) rfl) rfl) (pv 1) (fun _ _=>rfl)))
   (dq (dE (d9 (c9 (jQ (e9 iV (du K (pv 2) rfl) dC (eO _)) (dB a B (c9 (pv 0) (c9 (pv 1) de))) (dB b B (c9 (pv 2) de))) de))))),?_⟩
 refine oh O t n rfl rfl fun u q=> ?_;obtain⟨o,p,rfl,f⟩:=id q;change zW H Q [if(g.eQ.dc.getD k p0).top=0 then di.cur g k else oT (g.eQ.dc.getD k p0)] at d;refine⟨_,rfl,eH f O.part.cl (O.part.at_ 5 rfl) rfl ⟨rfl,_,rfl,?_⟩⟩;rw[nA];refine Xs (fun h=> ?_) (fun h=> ?_)
 ·rw[ai (aI h)] at d;refine⟨_,rfl,_,rfl,_,_,_,rfl,t,by lia,by lia,fun r s l A=> ?_⟩;exact⟨dy (by simp),i0 l A d⟩
 ·rw[ah (fun e=>h (aw e))] at d;refine⟨_,rfl,_,_,rfl,q,fun r s l A=> ?_⟩;exact⟨dy (by simp),i0 l A d⟩
abbrev uf:Stmt:=top 54
theorem GK:dD ["setting","k"] ["setting","k"] (dk uf):=sco
abbrev JO P w K mg base c:=iT P w K mg base "diode_laws" ["setting","k"] 5 (kW c Fn fun g k=>if g.gZ.getD k false=true then[Mh g k (oT (pat g k))] else[di.cur g k])
theorem GL(O:hE K c)(q:mS P w K mg base c)(h:gb P w K mg base c)(G:jc K mg "diode_laws" uf ["setting","k"]):JO P w K mg base c:=by
 have b:=GK;refine G.jy b ?_;rintro _ _ _ _ _ H _ Q _ i ⟨v,g,k,rfl,l,ok,f,C,A⟩;refine⟨rfl,_,(dh (fS (fG K (d8 (jq K) (du K (pv 0) rfl) (pv 1) (fun _ _=>rfl)) (fun _=>rfl)) (dq (dE (dB q i (c9 (pv 0) (c9 (pv 1) de))))) fc)
   (dq (dE (d9 (c9 (dB h i (c9 (pv 0) (c9 (pv 1) de))) de))))),?_⟩
 obtain⟨a,p,s,o,r,S,m,rfl,t,_,F,⟨z,rfl,B⟩,_⟩:=id l;have u:(g.gZ.map V.bl)[k]? =some (.bl (g.gZ.getD k false)):=by
  rw[aD,dA (d:=false) (by rw[ok.st];exact f)];rfl
 refine⟨_,rfl,eH t O.kK.cl (O.kK.at_ 2 rfl) rfl ⟨_,rfl,lW (.of B) (d5 (j:=k) rfl u) ⟨_,rfl,?_⟩⟩⟩;change zW H Q (if g.gZ.getD k false=true then[Mh g k (oT (pat g k))] else[di.cur g k]) at A;cases e:g.gZ.getD k false with
 |true=>
  rw[e,ai rfl] at A;exact fz ⟨_,rfl,_,rfl,_,_,_,rfl,l,ok,f,trivial,A⟩
 |false=>
  rw[e,ah (by decide)] at A;refine fF ⟨_,rfl,_,rfl,_,_,_,rfl,l,by lia,by lia,fun I y n x=> ?_⟩;exact⟨dy (by simp),i0 n x A⟩
abbrev lR:Stmt:=top 51
theorem wO:dD ["setting","k","part","first","second"] ["setting","k"] (dk lR):=sco
abbrev yg P w K mg base c:=iT P w K mg base "transformer_laws" ["setting","k"] 5 (kW c Fn fun g k=>[pN (pat g k) (oT (pat g k)) (IX (pat g k)),pN (pat g k) [((di.places g.eQ).getD k 0+1,[1])] (sX (di.cur g k) [-1])])
theorem wQ(O:hE K c)(dW:gL P w K mg base c)(d7:g5 P w K mg base c)(eu:gr P w K mg base c)(dM:gb P w K mg base c)(gw:sG P w K mg base)(G:jc K mg "transformer_laws" lR ["setting","k"]):yg P w K mg base c:=by
 have s:=wO;refine G.jy s ?_;rintro _ _ _ _ _ H _ _ _ f ⟨v,g,k,rfl,L,ok,M,kd,kk⟩;refine⟨rfl,_,(dh (dX (i:=2) s.nd (d8 (jq K) (du K (du K (pv 0) rfl) rfl) (pv 1) (fun _ _=>rfl)))
   (dh (dX (i:=3) s.nd (dB dM f (c9 (pv 0) (c9 (pv 1) de))))
   (dh (dX (i:=4) s.nd (d9 (c9 (hX (c9 (eZ lJ (d8 (jq K) (du K (pv 0) rfl) (pv 1) (fun _ _=>rfl)) dC) (c9 (d9 (c9 dC de)) de))) de)))
   (dq (dE (d9 (c9 (dB dW f (c9 (pv 2) (c9 (dB d7 f (c9 (pv 2) de)) (c9 (dB eu f (c9 (pv 2) de)) de)))) (c9 (dB dW f (c9 (pv 2) (c9 (pv 4) (c9 (dB gw f (c9 (pv 3) (c9 (d9 (c9 (jb gF dC) de)) de))) de)))) de)))))))),?_⟩
 refine oh O L M rfl rfl fun u hu=> ?_;refine⟨_,rfl,_,rfl,_,_,_,rfl,L,by lia,by lia,fun x1 C e R=> ?_⟩;have E:=L.same e;obtain⟨a,dx,vn,vs,ac,vd,vp,rfl,ha,_,hs,_,_,⟨pa,rfl,aa⟩⟩:=id E;have hj:k<(di.places g.eQ).length:=by rw[places_len];exact M
 refine⟨_,rfl,eH ha O.kK.cl (O.kK.at_ 4 rfl) rfl ⟨_,rfl,lW (.of aa) (d5 (j:=k) rfl (jf hj)) (j9 ⟨dy (by simp),fun p hp=>⟨dy (by simp),fun t I=>⟨dy (by simp),fun q hq=> ?_⟩⟩⟩)⟩⟩;obtain⟨B,m⟩:=JN (H:=C) (H1:=upd C p (.lst [.int 1])) (l:=[1]) (x:=(di.places g.eQ).getD k 0+1) (dz hp) hp dj I hq;generalize ad:upd (upd (upd C p (.lst [.int 1])) t (.tup [.int ((di.places g.eQ).getD k 0+1),.ref p])) q (.lst [.ref t])=H2 at B m;have A:=hu.same (e.trans B);have u2:oP [((di.places g.eQ).getD k 0+1,[1])]:=fun t I=>by
  have:t=((di.places g.eQ).getD k 0+1,[1]):=by simpa using I
  subst this;simp
 refine⟨_,rfl,_,rfl,_,_,rfl,A,fun x3 H3 b J=> ?_⟩;refine⟨_,rfl,_,_,rfl,A.same b,fun x4 H4 n Q=> ?_⟩;refine⟨_,_,_,_,_,_,rfl,A.same (b.trans n),toF (fj.same J n),toF Q,WJ _,u_w _,CB _,Uo _,fun x5 H5 t5 T=> ?_⟩;have d:=(b.trans n).trans t5;refine⟨_,rfl,_,rfl,_,rfl,_,rfl,dy (by simp),fun p6 X=> ?_⟩;have h:=dz (o:= .lst [.int (-1)]) X;refine⟨_,_,_,[-1],rfl,toF (fj.same R ((B.trans d).trans h)),⟨p6,rfl,dj⟩,Up _ _,aB (vO _ _) (by decide),by unfold Short;simp,fun x7 H7 S ab=> ?_⟩;refine⟨_,_,_,_,_,_,rfl,A.same ((d.trans h).trans S),toF (fj.same m ((d.trans h).trans S)),toF ab,u2,BF (Up _ _) (Qe _ _) (.inr (.inr rfl)),by simp,by rw[oZ];exact vO _ _,fun x8 H8 t8 D=> ?_⟩;refine⟨dy (by simp),fun r F=> ?_⟩;have N:=dz (o:= .lst [x5,x8]) F;have y:=(h.trans S).trans t8;have all:dN H H8:=(((e.trans B).trans d).trans y);refine kk _ _ (all.trans N) ⟨r,_,rfl,fun z=>z (all.free F),dj,.cons ?_ (.cons ?_ .nil)⟩
 ·exact fj.same (fj.same (fj.less T (gm (((e.trans B).trans b).trans n))) y) N
 ·exact fj.same (fj.less D (gm (((e.trans B).trans d).trans (h.trans S)))) N
theorem no_ref {l:List Int}(h:V.ref a∈l.map V.int):False:=by
 obtain⟨z,_,e⟩:=aV.mp h;cases e
theorem z8 {H:Hp}(h:H a=some (.lst x))(h':H a=some (.lst y)):x=y:=by
 rw[h] at h';cases h';rfl
theorem _root_.PySem.Paired.Qg (p:Paired F l m)(f:∀a b,a∈l->F a b->G a b):Paired G l m:=by
 induction p with
 |nil=>exact .nil
 |cons r _ t=>exact .cons (f _ _ aC r) (t fun a b d=>f a b (ao _ d))
theorem BM (f:H p=some (.lst A))(i:V.ref a∈A)(h:uQ S H v l):uQ (fZ S p) H v l:=by
 obtain⟨b,e,B,d⟩:=h;refine⟨b,e,fun q=>q.elim B fun z=> ?_,d⟩;rw[z] at d;rw[z8 f d] at i;exact no_ref i
theorem Fq (l:H p=some (.lst A))(f:V.ref a∈A)(h:mR S H v t):mR (fZ S p) H v t:=by
 obtain⟨b,x,e,B,d,i⟩:=h;refine⟨b,x,e,fun q=>q.elim B fun z=> ?_,d,BM l f i⟩;rw[z,l] at d;cases d
theorem Uq (i:H p=some (.lst d))(h:Paired (mR S H) d l):Paired (mR (fZ S p) H) d l:=h.Qg fun v x A q=>by
 obtain⟨a,_,rfl,_,_⟩:=id q;exact Fq i A q
theorem VY (f:H p=some (.lst A))(h:Paired (tO S H) A l):Paired (tO (fZ S p) H) A l:=h.Qg fun v x d q=>by
 obtain⟨a,s,rfl,G,B,n⟩:=q;refine⟨a,s,rfl,fun z=>z.elim G fun e=> ?_,B,n.h9 fun u t o=>Fq f d o⟩;rw[e] at B d;have r:=z8 B f;rw[<-r] at d;obtain⟨i,C⟩:=List.getElem?_of_mem d;obtain⟨_,_,b,_,y,_,k,_⟩:=n.nv C;cases y;rw[f] at k;cases k
theorem VZ (B:H p=some (.lst f))(h:Paired (vH S H) f l):Paired (vH (fZ S p) H) f l:=h.Qg fun v x d q=>by
 obtain⟨a,r,rfl,G,A,k⟩:=q;refine⟨a,r,rfl,fun z=>z.elim G fun e=> ?_,A,k.h9 fun u t s=>BM B d s⟩;rw[e] at A d;have n:=z8 A B;rw[<-n] at d;obtain⟨i,C⟩:=List.getElem?_of_mem d;obtain⟨_,_,b,y,_,o⟩:=k.nv C;cases y;rw[z8 A o] at d;exact no_ref d
def WK(H:Hp)(u:V)(x:Int×Int×Int):Prop:=∃r,u= .ref r/\H r=some (.tup [.int x.1,.int x.2.1,.int x.2.2])
theorem WK.same (h:WK H u x)(s:dN H d):WK d u x:=by obtain⟨r,e,q⟩:=h;exact⟨r,e,s _ _ q⟩
def aav(H:Hp)(v:V)(l:List (Int×Int×Int)):Prop:=∃a d,v= .ref a/\H a=some (.lst d)/\Paired (WK H) d l
theorem V0 (f:d q=some (.lst A))(a:Paired (WK d) A i)(B:d t=some (.tup [.int x.1,.int x.2.1,.int x.2.2])):
  Paired (WK (upd d q (.lst (A ++ [.ref t])))) (A ++ [.ref t]) (i ++ [x]):=by
 have k:∀(y:Addr) (l:List V),d y=some (.tup l)->(upd d q (.lst (A ++ [.ref t]))) y=some (.tup l):=fun y l h=>by
  rw[dY (Ki h f (by intro z;cases z))];exact h
 exact(a.h9 (by rintro u y ⟨r,e,v⟩;exact⟨r,e,k _ _ v⟩)).kU ⟨t,rfl,k _ _ B⟩
noncomputable def WL(k:Int)(p:di.Part):Bool:=decide (p.kind=3/\(k=p.a\/k=p.b))
noncomputable def ZP(k:Int)(p:di.Part):Int×Int×Int:=(p.a+p.b - k,p.top,p.dG)
theorem Ii (ps)(k):fm ps k=((k:Int),(ps.getD k p0).top,(ps.getD k p0).dG)::(ps.filter (WL k)).map (ZP k):=rfl
theorem zQA (a b):QA (.int a) (.int b)=(a==b):=rfl
theorem Zx (k a b):OH (.int k) [.int a,.int b]=decide (k=a\/k=b):=by
 by_cases A:k=a
 ·subst A;simp[OH,zQA]
 ·by_cases d:k=b
  ·subst d;simp[OH,zQA]
  ·simp[OH,zQA,A,d,b5 A,b5 d]
abbrev rO:Stmt:=top 43
theorem Fs:dD ["parts","k","shares","part"] ["parts","k"] (dk rO):=sco
def Ft(c:Cs):Sp:=fun l H Q _=>∃v d k,l=[v,.int ((k:Nat):Int)]/\oY c H v d/\k<d.length/\d.length<=20/\∀z A,dN H A->aav A z (fm d k)->Q z A
abbrev xh P w K mg base c:=iT P w K mg base "coil_shares" ["parts","k"] 1 (Ft c)
theorem Fu(T:Txt2 mg)(O:hE K c)(G:jc K mg "coil_shares" rO ["parts","k"]):xh P w K mg base c:=by
 have sc:=Fs;refine G.jy sc ?_;rintro _ _ _ _ s H _ _ _ hr ⟨v,n,k,rfl,⟨a,ws,rfl,E,N⟩,hk,hl,kk⟩;have ll:=N.length;refine⟨rfl,_,(dh (dX (i:=2) sc.nd (d9 (c9 (hX (c9 (pv 1) (c9 (du K (d8 (jq K) (pv 0) (pv 1) (fun _ _=>rfl)) rfl) (c9 (du K (d8 (jq K) (pv 0) (pv 1) (fun _ _=>rfl)) rfl) de)))) de)))
   (dh (hW PassesOwn.never rfl (fK (pv 0)) (fk (i:=3) sc.nd) (dq (fS (PW.pt (Mq (e9 iV (du K (pv 3) rfl) (gc T.jl) (eO _)) (IB (e9 (MC K) (pv 1) (hX (c9 (du K (pv 3) rfl) (c9 (du K (pv 3) rfl) de))) (by with_unfolding_all rfl))))) (dq (iU (oM aZ a6 a7 gN (pv 2) (c9 (hX (c9 (eZ jE (eZ lJ (du K (pv 3) rfl) (du K (pv 3) rfl)) (pv 1)) (c9 (du K (pv 3) rfl) (c9 (du K (pv 3) rfl) de)))) de)))) fc)))
   (dq (dE (pv 2))))),?_⟩
 obtain⟨u,hu,pa,ag,rfl,D⟩:=N.lC (dA (d:=p0) hk);refine⟨_,rfl,_,rfl,_,rfl,lW (.of E) (d5 (j:=k) rfl hu) (eH D O.part.cl (O.part.at_ 5 rfl) rfl ?_)⟩;refine⟨_,rfl,_,rfl,lW (.of E) (d5 (j:=k) rfl hu) (eH D O.part.cl (O.part.at_ 6 rfl) rfl ?_)⟩;refine⟨dy (by simp),fun t ht=>⟨dy (by simp),fun q hq=> ?_⟩⟩;have s1:=dz (o:= .tup [.int (k:Int),.int (n.getD k p0).top,.int (n.getD k p0).dG]) ht;have s2:=s1.trans (dz (o:= .lst [.ref t]) hq);have aa:H q=none:=s1.free hq;refine⟨_,rfl,a,rfl,⟨_,.of (s2 _ _ E)⟩,jR (fL (K:=K) (.of E)) (fun i σ X=>∃m A,σ=[some (.ref a),some (.int (k:Int)),some (.ref q),m]/\dN H X/\X q=some (.lst A)/\A.length<=i+1/\Paired (WK X) A (((k:Int),(n.getD k p0).top,(n.getD k p0).dG)::((n.take i).filter (WL k)).map (ZP k))) ?_ (by rintro i σ X ⟨_,_,_,s,_⟩;exact s) ?_ ?_⟩
 ·exact⟨none,_,rfl,s2,dj,by simp,.cons ⟨t,rfl,dz hq _ _ dj⟩ .nil⟩
 ·rintro i x σ H1 H2 hi ⟨m,A,rfl,s3,L,ae,S⟩ s4 J hx;obtain⟨p,hp,pb,af,rfl,ac⟩:=N.nv hx;have C:=J _ _ L;have B:=s4 _ _ ac;have F:=S.h9 fun u y z=>z.same J;have keep:WL k p=false->∀I,dN H2 I->∃m A,[some (V.ref a),some (V.int (k:Int)),some (V.ref q),some (V.ref pb)]=[some (V.ref a),some (V.int (k:Int)),some (V.ref q),m]/\dN H I/\I q=some (.lst A)/\A.length<=i+1+1/\Paired (WK I) A (((k:Int),(n.getD k p0).top,(n.getD k p0).dG)::((n.take (i+1)).filter (WL k)).map (ZP k)):=fun e I l=>by
   refine⟨_,A,rfl,s4.trans l,l _ _ C,by lia,?_⟩;rw[bo,hp,cj];have:(Option.some p).toList.filter (WL k)=[]:=by simp[e]
   rw[this,cw];exact F.h9 fun u y z=>z.same l
  refine⟨_,rfl,eH B O.part.cl (O.part.at_ 0 rfl) rfl ⟨rfl,_,rfl,?_⟩⟩;rw[nA];by_cases Q:p.kind=3
  ·rw[aw Q];refine fz ⟨_,rfl,_,rfl,eH B O.part.cl (O.part.at_ 1 rfl) rfl ⟨_,rfl,eH B O.part.cl (O.part.at_ 2 rfl) rfl ⟨dy (by simp),fun r ad=> ?_⟩⟩⟩;have l:=dz (o:= .tup [.int p.a,.int p.b]) ad;refine⟨r,_,rfl,.inr (.of dj),rfl,rfl,_,rfl,?_⟩;show if(OH (.int (k:Int)) [.int p.a,.int p.b])=true then _ else _;rw[Zx];by_cases M:(k:Int)=p.a\/(k:Int)=p.b
   ·rw[aw M];have f:=l _ _ B;refine fz ⟨_,rfl,.inl ⟨rfl,_,.of (l _ _ C)⟩,?_⟩;refine⟨_,rfl,eH f O.part.cl (O.part.at_ 1 rfl) rfl ⟨_,rfl,eH f O.part.cl (O.part.at_ 2 rfl) rfl (j9 ⟨_,rfl,j9 ⟨_,rfl,eH f O.part.cl (O.part.at_ 5 rfl) rfl ⟨_,rfl,eH f O.part.cl (O.part.at_ 6 rfl) rfl ⟨dy (by simp),fun t2 ab=> ?_⟩⟩⟩⟩)⟩⟩;have R:=dz (o:= .tup [.int (p.a+p.b - (k:Int)),.int p.top,.int p.dG]) ab;have g:=R _ _ (l _ _ C);refine⟨q,A,_,rfl,rfl,g,dI (by lia),_,_,rfl,(((s4.trans l).trans R).over aa),dj,by simp;lia,?_⟩;have hF:WL k p=true:=aw ⟨Q,M⟩;rw[bo,hp,cj];have:(Option.some p).toList.filter (WL k)=[p]:=by simp[hF]
    rw[this,bC];exact V0 (x:=ZP k p) g (F.h9 fun u y z=>(z.same l).same R) dj
   ·rw[aA M];exact fF (keep (aA fun h=>M h.2) _ l)
  ·rw[aA Q];exact fF (fF (keep (aA fun h=>Q h.1) _ (.refl _)))
 ·rintro σ H1 ⟨m,A,rfl,s3,L,ae,S⟩;refine⟨_,rfl,kk _ H1 s3 ⟨q,A,rfl,L,?_⟩⟩;rw[ll,aQ] at S;rw[Ii];exact S
def Ur:mY->Nat->Prop:=fun g k=>∀x∈fm g.eQ.dc k,0<=x.1/\x.1<g.eQ.dc.length/\1<=x.2.2/\x.2.2<=1000000/\x.2.1.natAbs<=1000000
theorem NN (ps)(k):(fm ps k).length<=ps.length+1:=by
 rw[Ii,ak,lMp];have:=cR (WL k) ps;lia
def Yp(g:mY)(d:Int)(x:Int×Int×Int):List (Int×List Int):=sX (sX (di.cur g x.1) g.s) (di.cst (-x.2.1*d.fdiv x.2.2))
theorem NO (g)(k):sY g k=sX (oT (pat g k)) (di.cst (di.common (fm g.eQ.dc k))) ++ (fm g.eQ.dc k).flatMap (Yp g (di.common (fm g.eQ.dc k))):=rfl
theorem z9 {α β:Type}(f:α->List β)(l:List α)(i)(x)(h:l[i]? =some x):(l.take (i+1)).flatMap f=(l.take i).flatMap f ++ f x:=by
 rw[bo,h,cM];simp
theorem Qh (g)(d)(x):(Yp g d x).length<=2:=by
 unfold Yp;rw[oZ,oZ];exact(BE g x.1).2
theorem vB (g)(d):∀l:List (Int×Int×Int),(l.flatMap (Yp g d)).length<=2*l.length
 |[]=>by simp
 |x::l=>by
  rw[bP,aJ,ak];have:=vB g d l;have:=Qh g d x;lia
abbrev vP:Stmt:=top 42
theorem JP:dD ["setting","k","shares","common","share","law","coil","top","bottom"] ["setting","k"] (dk vP):=sco
abbrev LF P w K mg base c:=iT P w K mg base "coil_laws" ["setting","k"] 5 (kW c Ur fun g k=>[sY g k])
theorem JQ(O:hE K c)(rQ:xh P w K mg base c)(d7:g5 P w K mg base c)(dM:gb P w K mg base c)(gw:sG P w K mg base)(gU:tJ P w K mg base)(G:jc K mg "coil_laws" vP ["setting","k"]):LF P w K mg base c:=by
 have f:=JP;refine iT.mono (j:=4) (G.jy f ?_) (by decide);rintro _ _ _ _ s H _ _ _ B ⟨v,g,k,rfl,hg,ok,hk,kd,kk⟩;have aj:=ok.dc;refine⟨rfl,_,(dh (dX (i:=2) f.nd (dB rQ B (c9 (du K (du K (pv 0) rfl) rfl) (c9 (pv 1) de))))
   (dh (dX (i:=3) f.nd dC)
   (dh (hW PassesOwn.never rfl (fK (pv 2)) (fk (i:=4) f.nd) (dq (ID (i:=3) f.nd rfl (Or.inl rfl) (d8 (ZN K) (pv 4) dC (fun _ _=>rfl)) Vj)))
   (dh (dX (i:=5) f.nd (dB gw B (c9 (dB d7 B (c9 (d8 (jq K) (du K (du K (pv 0) rfl) rfl) (pv 1) (fun _ _=>rfl)) de)) (c9 (dB gU B (c9 (pv 3) de)) de))))
   (dh (hW PassesOwn.never rfl (fK (pv 2)) (j8 K (n:=3) rfl (fu (fk (i:=6) f.nd) (fu (fk (i:=7) f.nd) (fu (fk (i:=8) f.nd) j7)))) (dq (iU (oM aZ PySem.F.slot_list_extend PySem.F.type_list_extend Hj (pv 5) (c9 (dB gw B (c9 (dB gw B (c9 (dB dM B (c9 (pv 0) (c9 (pv 6) de))) (c9 (du K (pv 0) rfl) de))) (c9 (dB gU B (c9 (eZ iA (jb gF (pv 7)) (eZ yX (pv 3) (pv 8))) de)) de))) de)))))
   (dq (dE (d9 (c9 (pv 5) de))))))))),?_⟩
 obtain⟨ga,bs,bn,bl,be,bj,bq,rfl,az,⟨na,bh,br,rfl,a1,pa,ws,rfl,a0,bb⟩,_⟩:=id hg;refine⟨_,rfl,eH az O.kK.cl (O.kK.at_ 0 rfl) rfl (eH a1 O.eQ.cl (O.eQ.at_ 1 rfl) rfl ⟨_,rfl,_,_,_,rfl,⟨pa,ws,rfl,a0,bb⟩,hk,aj,fun z H1 I hz=> ?_⟩)⟩;obtain⟨R,us,rfl,S,X⟩:=hz;have ll:=X.length;have bv:=NN g.eQ.dc k;refine⟨_,rfl,R,rfl,⟨_,.of S⟩,jR (fL (K:=K) (.of S)) (fun i σ b=>∃J,σ=[some (.ref ga),some (.int (k:Int)),some (.ref R),some (.int (di.common ((fm g.eQ.dc k).take i))),J,none,none,none,none]/\dN H1 b) ⟨none,rfl,.refl _⟩ (by rintro i σ b ⟨_,_,s⟩;exact s) ?_ ?_⟩
 ·rintro i x σ H2 H3 hi ⟨J,rfl,s2⟩ D bi hx;obtain⟨y,Q,t,rfl,ht⟩:=X.nv hx;obtain⟨_,_,b1,b2,_⟩:=kd y (aH Q);refine⟨_,rfl,_,rfl,lW (.of (D _ _ ht)) (d5 (j:=2) rfl rfl) ⟨_,_,rfl,rfl,.of_right (intBits_le_64 (by lia) (by lia)),some (.ref t),?_,D⟩⟩;unfold di.common;rw[bo,Q,List.foldl_append];rfl
 ·rintro σ H2 ⟨J,rfl,s2⟩;rw[ll,aQ];have a5:=hg.same (I.trans s2);obtain⟨_,bf,_,_,_,_,_,e0,am,⟨bu,bd,_,rfl,ah,bt,bm,rfl,ao,af⟩,_⟩:=id a5;cases e0;obtain⟨u,as,hu⟩:=af.lC (dA (d:=p0) hk);refine⟨_,rfl,eH am O.kK.cl (O.kK.at_ 0 rfl) rfl (eH ah O.eQ.cl (O.eQ.at_ 1 rfl) rfl ⟨_,rfl,lW (.of ao) (d5 (j:=k) rfl as) ?_⟩)⟩;refine⟨_,_,rfl,hu,fun x1 H3 D av=> ?_⟩;refine⟨_,rfl,_,rfl,fun q H4 hq s4 ba=> ?_⟩;refine⟨_,_,_,_,rfl,toF (fj.same av s4),⟨q,rfl,ba⟩,WJ _,aB (CB _) (by decide),sH _,fun x2 H5 s5 a3=> ?_⟩;obtain⟨A,E,rfl,a4,ac,ax⟩:=a3;have C:=(s2.trans D).trans s4;have N:H4 A=none:=cT.mp a4;have a9:H A=none:=(I.trans C).free N;have ag:H1 A=none:=C.free N;have ak:Paired (mR (fZ (gk H) A) H5) E (sX (oT (pat g k)) (di.cst (di.common (fm g.eQ.dc k)))):=Uq ac (ax.h9 fun _ _ q=>jv.less q (gm (I.trans C)));have ae:=C.trans s5;refine⟨_,rfl,R,rfl,⟨_,.of (ae _ _ S)⟩,jR (fL (K:=K) (.of S)) (fun i σ b=>∃x6 x7 x8 E,σ=[some (.ref ga),some (.int (k:Int)),some (.ref R),some (.int (di.common (fm g.eQ.dc k))),J,some (.ref A),x6,x7,x8]/\dN H1 b/\b A=some (.lst E)/\Paired (mR (fZ (gk H) A) b) E (sX (oT (pat g k)) (di.cst (di.common (fm g.eQ.dc k))) ++ ((fm g.eQ.dc k).take i).flatMap (Yp g (di.common (fm g.eQ.dc k))))) ?_ (by rintro i σ b ⟨_,_,_,_,_,s,_⟩;exact s) ?_ ?_⟩
  ·exact⟨none,none,none,E,rfl,ae,ac,by simpa using ak⟩
  ·rintro i x σ H6 H7 hi ⟨x6,x7,x8,L,rfl,s6,r,l⟩ s7 ab hx;obtain⟨y,Q,t,rfl,ht⟩:=X.nv hx;obtain⟨b0,b1,b2,b3,b4⟩:=kd y (aH Q);refine⟨t,_,rfl,.of (s7 _ _ ht),rfl,_,_,rfl,_,_,rfl,_,_,rfl,rfl,?_⟩;have p:=ab _ _ r;refine⟨_,rfl,.inl ⟨rfl,_,.of p⟩,?_⟩;have ad:=hg.same (I.trans s7);refine⟨_,rfl,_,rfl,_,_,_,rfl,ad,b0,b1,fun y1 H8 s8 a7=> ?_⟩;have a2:=ad.same s8;obtain⟨a,dx,vn,vs,bp,vd,vp,e8,o,_,hs,_⟩:=id a2;cases e8;have sh:Short g.s:=by
    unfold Short;rcases ok.s with e |e <;>rw[e] <;>simp
   have lu:oP (sX (di.cur g y.1) g.s):=BF (Up _ _) (Qe _ _) (ok.s.elim .inl fun e=> .inr (.inl e));refine⟨_,rfl,eH o O.kK.cl (O.kK.at_ 1 rfl) rfl ⟨_,_,_,_,rfl,toF a7,hs,Up _ _,aB (vO _ _) (by decide),sh,fun y2 H9 s9 a6=> ?_⟩⟩;refine⟨_,rfl,_,rfl,_,rfl,_,rfl,_,_,rfl,rfl,⟨by lia,?_⟩,_,_,rfl,rfl,.of_left (intBits_le_64 (by lia) (by lia)),_,rfl,fun q2 ar bg m an=> ?_⟩
   ·have h1:y.2.2.natAbs≠0:=by lia
    have h2:y.2.2.natAbs<2^9000:=a8 (show y.2.2.natAbs<2^20 by lia) (bA (by decide) (by decide));exact(Nat.log2_lt h1).mpr h2
   refine⟨_,_,_,_,rfl,toF (fj.same a6 m),⟨q2,rfl,an⟩,lu,by rw[oZ];exact aB (vO _ _) (by decide),sH _,fun y3 M aw au=> ?_⟩;obtain⟨ya,yv,rfl,bk,aq,aa⟩:=au;have h:=((s8.trans s9).trans m).trans aw;have T:=h _ _ p;have ay:=l.length;have ap:=aa.length;have e1:=Qh g (di.common (fm g.eQ.dc k)) y;have e2:=vB g (di.common (fm g.eQ.dc k)) ((fm g.eQ.dc k).take i);have e3:(sX (oT (pat g k)) (di.cst (di.common (fm g.eQ.dc k)))).length<=2:=by rw[oZ];exact(sI _ _).2
   rw[aJ] at ay;rw[aP] at e2;have bc:yv.length<=2:=by rw[ap];exact e1
   refine⟨A,ya,_,_,rfl,rfl,T,aq,dy (by lia),_,_,_,_,rfl,(s7.trans h).over ag,dj,?_⟩;rw[z9 _ _ _ _ Q,<-cu];have od:Off (fZ (gk H) A) M (upd M A (.lst (L ++ yv))):=fR (.inr rfl);refine((l.jw jv (ab.trans h)).vI jv od).app ?_;have ai:Paired (mR (fZ (gk H) A) M) yv (Yp g (di.common (fm g.eQ.dc k)) y):=aa.h9 fun _ _ q=>jv.Bj q fun a o=>by
    have al:dN H ar:=((((I.trans s7).trans s8).trans s9).trans m);rcases o with o |o
    ·exact .inl (gm al a o)
    ·refine .inl fun z=> ?_;rw[o] at z;have:=(((s8.trans s9).trans m)) _ _ p;rw[z] at this;cases this
   exact ai.vI jv od
  ·rintro σ H6 ⟨x6,x7,x8,L,rfl,s6,r,l⟩;rw[ll,aQ,<-NO] at l;refine⟨_,rfl,dy (by simp),i0 (I.trans s6) ⟨A,L,rfl,fun z=>z a9,r,l.RS jv⟩ kk⟩
abbrev Yq:=Int×List Int
def NS(d:Hp)(D:Addr)(A:List Addr):Addr->Prop:=fun a=>gk d a\/a=D\/a∈A
structure NI(H0 H:Hp)(D:Addr)(qs:List Addr)(b:Nat)(tm:Nat->List Yq):Prop where
 same:dN H0 H
 hD:H D=some (.lst (qs.map V.ref))
 nd:qs.Nodup
 nD:D∉qs
 d0:H0 D=none
 q0:∀q∈qs,H0 q=none
 len:∀v,(tm v).length<=b
 at_:∀v q,qs[v]? =some q->∃us,H q=some (.lst us)/\Paired (mR (NS H0 D qs) H) us (tm v)
theorem NI.grow (N:NI i H D l b A)(s:dN H d):NI i d D l b A:=
 ⟨N.same.trans s,s _ _ N.hD,N.nd,N.nD,N.d0,N.q0,N.len,fun v q f=>let ⟨B,k,x⟩:=N.at_ v q f;⟨B,s _ _ k,x.jw jv s⟩⟩
theorem NI.dom (N:NI l H D A b B):RR (NS l D A) H:=fun a d z=>by
 rcases d with d |d |d
 ·exact d (N.same.free z)
 ·rw[d,N.hD] at z;cases z
 ·obtain⟨i,k⟩:=List.getElem?_of_mem d;obtain⟨x,f,_⟩:=N.at_ i a k;rw[f] at z;cases z
theorem NI.push (N:NI l H D d b C)(k:d[z]? =some q)(j:H q=some (.lst h))(F:H p=none)(u:upd H p (.lst [.int y]) t=none):
  NI l (upd (upd (upd H p (.lst [.int y])) t (.tup [.int x,.ref p])) q (.lst (h ++ [.ref t]))) D d (b+1) (fun v=>C v ++ if v=z then[(x,[y])] else[]):=by
 have B:=dz (o:= .lst [.int y]) F;have a:=dz (o:= .tup [.int x,.ref p]) u;have i:=N.grow (B.trans a);have I:¬NS l D d p:=N.dom.new F;have m:¬NS l D d t:=(N.grow B).dom.new u;have A:q∈d:=aH k;have od:∀o,Off (NS l D d) (upd (upd H p (.lst [.int y])) t (.tup [.int x,.ref p])) (upd (upd (upd H p (.lst [.int y])) t (.tup [.int x,.ref p])) q o):=fun o=>fR (.inr (.inr A));refine⟨i.same.over (N.q0 q A),?_,N.nd,N.nD,N.d0,N.q0,fun v=> ?_,fun v r f=> ?_⟩
 ·rw[dY fun e=>N.nD (by rw[e];exact A)];exact i.hD
 ·have:=N.len v;rw[aJ];split <;>simp <;>lia
 ·obtain⟨n,S,G⟩:=i.at_ v r f;by_cases e:v=z
  ·subst e;have E:r=q:=bf (f.symm.trans k);subst E;have Q:n=h:=z8 S (a _ _ (B _ _ j));subst Q;rw[ai rfl];exact⟨_,dj,(G.vI jv (od _)).kU (jv.off ⟨t,.ref p,rfl,m,dj,p,rfl,I,a _ _ dj⟩ (od _))⟩
  ·rw[ah e,cw];have s:r≠q:=fun L=>e (Y9 N.nd f (by rw[L];exact k));exact⟨n,by rw[dY s];exact S,G.vI jv (od _)⟩
noncomputable def ow(v:Int)(x:di.Part×Int):List Yq:=if x.1.kind=3 then[] else
  (if x.1.a=v then[(x.2,[1])] else[]) ++ (if x.1.b=v then[(x.2,[-1])] else[]) ++
   (if x.1.kind=10 then(if x.1.c=v then[(x.2+1,[1])] else[]) ++ (if x.1.d=v then[(x.2+1,[-1])] else[]) else[])
theorem NP (n)(v):lH n v=(n.dc.zip (di.places n)).flatMap (ow v):=rfl
def JR(n:Nw):Prop:=∀p∈n.dc,p.kind≠3->(0<=p.a/\p.a<=n.last)/\(0<=p.b/\p.b<=n.last)/\(p.kind=10->(0<=p.c/\p.c<=n.last)/\(0<=p.d/\p.d<=n.last))
theorem wG (z)(d:0<=z)(l:List Yq):(fun v:Nat=>if v=z.toNat then l else[])=fun v:Nat=>if z=(v:Int) then l else[]:=by
 funext v;by_cases h:v=z.toNat
 ·rw[ai h,ai (by lia)]
 ·rw[ah h,ah (by lia)]
theorem BN:∀{l:List α} {m:List β},l.length=m.length->(∀(i:Nat) x y,l[i]? =some x->m[i]? =some y->F x y)->Paired F l m
 |[],[],_,_=> .nil
 |[],_::_,h,_=>by simp at h
 |_::_,[],h,_=>by simp at h
 |a::l,b::m,h,f=> .cons (f 0 a b rfl rfl) (BN (by simpa using h) fun i x y d A=>f (i+1) x y (by simpa using d) (by simpa using A))
abbrev qZ:Stmt:=top 32
theorem JS:dD ["setting","sums","node","part","place"] ["setting"] (dk qZ):=sco
def JT(c:Cs):Sp:=fun d H Q _=>∃v g,d=[v]/\oO c H v g/\ZO g/\0<=g.eQ.last/\g.eQ.last<=100/\JR g.eQ/\zW H Q ((List.range g.eQ.last.toNat).map fun v:Nat=>lH g.eQ ((v:Int)+1))
abbrev CC P w K mg base c:=iT P w K mg base "node_laws" ["setting"] 1 (JT c)
theorem JU(T:Txt2 mg)(O:hE K c)(G:jc K mg "node_laws" qZ ["setting"]):CC P w K mg base c:=by
 have sc:=JS;refine G.jy sc ?_;rintro _ _ _ _ _ H _ _ _ hr ⟨v,g,rfl,hg,ok,n0,n1,bo,kk⟩;obtain⟨ga,ca,b7,b6,bs,b2,b8,rfl,ag,⟨na,bw,b9,rfl,az,pa,ws,rfl,ay,av⟩,_,_,_,⟨la,rfl,ax⟩⟩:=hg;have aq:=av.length;have bv:=ok.dc;refine⟨rfl,_,(dh (pI (i:=1) rfl sc.nd rfl rfl (sU rfl rfl rfl rfl) (o7 rfl T.kn (c9 (eZ lJ (du K (du K (pv 0) rfl) rfl) dC) de)) (fC (own:=[("node",2)]) (by show mV ["setting","sums","node","part","place"] (dk qZ) _ _=true;decide +kernel)) (fun _ _ _ _ _=>(fk (i:=2) sc.nd)) (fun _ _ _ _ _=>gh) (fun _ _ _ _ _=>(d9 de)))
   (dh (hW PassesOwn.never rfl (Xq rfl T.Uc (c9 (du K (du K (pv 0) rfl) rfl) (c9 (du K (pv 0) rfl) de))) (j8 K (n:=2) rfl (fu (fk (i:=3) sc.nd) (fu (fk (i:=4) sc.nd) j7))) (dh (fS (e9 iV (du K (pv 3) rfl) (gc T.jl) (eO _)) (dq Km) fc)
   (dh (iU (oM aZ a6 a7 gN (d8 (jq K) (pv 1) (du K (pv 3) rfl) (fun _ _=>rfl)) (c9 (hX (c9 (pv 4) (c9 (d9 (c9 dC de)) de))) de)))
   (dh (iU (oM aZ a6 a7 gN (d8 (jq K) (pv 1) (du K (pv 3) rfl) (fun _ _=>rfl)) (c9 (hX (c9 (pv 4) (c9 (d9 (c9 (jb gF dC) de)) de))) de)))
   (dq (fS (e9 iV (du K (pv 3) rfl) (gc T.jB) (eO _)) (dh (iU (oM aZ a6 a7 gN (d8 (jq K) (pv 1) (du K (pv 3) rfl) (fun _ _=>rfl)) (c9 (hX (c9 (eZ lJ (pv 4) dC) (c9 (d9 (c9 dC de)) de))) de)))
   (dq (iU (oM aZ a6 a7 gN (d8 (jq K) (pv 1) (du K (pv 3) rfl) (fun _ _=>rfl)) (c9 (hX (c9 (eZ lJ (pv 4) dC) (c9 (d9 (c9 (jb gF dC) de)) de))) de))))) fc))))))
   (dq (dE (sr (Yh K) (pv 1) (qN dC) De))))),?_⟩
 refine⟨_,rfl,eH ag O.kK.cl (O.kK.at_ 0 rfl) rfl (eH az O.eQ.cl (O.eQ.at_ 0 rfl) rfl ⟨_,_,rfl,rfl,_,rfl,by lia,by lia,fun D hD=>oC (l6 H 0 _) hD (fun i H' acc=>∃A,acc=A.map V.ref/\A.length=i/\A.Nodup/\D∉A/\(∀q∈A,H q=none/\H' q=some (.lst []))) ⟨[],rfl,rfl,List.nodup_nil,by simp,fun _ h=>by cases h⟩ ?_ ?_⟩)⟩
 ·rintro i x H1 H2 acc hi F ar ⟨A,rfl,I,ad,L,k⟩ s2 a4 a9 rfl;refine⟨rfl,⟨aR _,fun p u=> ?_⟩⟩;have Q:=dz (o:= .lst []) u;have pD:p≠D:=fun e=>by rw[e,a9] at u;cases u
  have pq:p∉A:=fun m=>by
   have:=a4 _ _ (k p m).2;rw[u] at this;cases this
  refine gz hD (s2.trans Q) (Q _ _ a9) (by rw[lMp,I];exact dI (by lia)) ⟨A ++ [p],by simp,by simp[I],?_,?_,?_⟩
  ·exact OL ad pq
  ·intro m;rcases aX.mp m with m |m
   ·exact L m
   ·exact pD ((show D=p by simpa using m).symm)
  ·intro q m;rcases aX.mp m with m |m
   ·refine⟨(k q m).1,?_⟩;rw[dY fun e=>L (by rw[<-e];exact m)];exact Q _ _ (a4 _ _ (k q m).2)
   ·have:q=p:=by simpa using m
    subst this;refine⟨s2.free u,?_⟩;rw[dY pD,dj]
 ·rintro H1 acc F ar ⟨A,rfl,I,ad,L,k⟩;have br:A.length=g.eQ.last.toNat+1:=by rw[I];lia
  have N0:NI H H1 D A 0 (fun _=>[]):=⟨F,ar,ad,L,hD,fun q m=>(k q m).1,fun _=>aj _,fun v q hq=>⟨[],(k q (aH hq)).2,.nil⟩⟩;refine⟨_,rfl,eH (F _ _ ag) O.kK.cl (O.kK.at_ 0 rfl) rfl (eH (F _ _ az) O.eQ.cl (O.eQ.at_ 1 rfl) rfl ⟨_,rfl,eH (F _ _ ag) O.kK.cl (O.kK.at_ 4 rfl) rfl ⟨pa,la,_,_,rfl,.of (F _ _ ay),.of (F _ _ ax),jR (Xt (K:=K) (.of ay) (.of ax) (by rw[aq,lMp,places_len])) (fun i σ H'=>∃x3 x4,σ=[some (.ref ga),some (.ref D),none,x3,x4]/\NI H H' D A (4*i) (fun v=>((g.eQ.dc.zip (di.places g.eQ)).take i).flatMap (ow (v:Int)))) ⟨none,none,rfl,by simpa using N0⟩ (by rintro i σ H' ⟨_,_,_,N⟩;exact N.same) ?_ ?_⟩⟩)⟩
  ·rintro i x σ H2 H3 hi ⟨x3,x4,rfl,S⟩ Q bl ⟨t,y,z,rfl,ht,C,hz⟩;obtain⟨p,u,pb,bz,rfl,B⟩:=av.nv C;obtain⟨pl,bn,rfl⟩:=jk hz;have ez:(g.eQ.dc.zip (di.places g.eQ))[i]? =some (p,pl):=by
    rw[List.getElem?_zip_eq_some];exact⟨u,bn⟩
   have f:=S.grow bl;have b5:i<g.eQ.dc.length:=fX u;refine⟨t,_,rfl,.of ht,rfl,_,_,rfl,_,_,rfl,rfl,?_⟩;have al:(fun v:Nat=>((g.eQ.dc.zip (di.places g.eQ)).take (i+1)).flatMap (ow (v:Int)))=fun v:Nat=>((g.eQ.dc.zip (di.places g.eQ)).take i).flatMap (ow (v:Int)) ++ ow (v:Int) (p,pl):=by
    funext v;exact z9 _ _ _ _ ez
   refine⟨_,rfl,eH (Q _ _ B) O.part.cl (O.part.at_ 0 rfl) rfl ⟨rfl,_,rfl,?_⟩⟩;rw[nA];by_cases R:p.kind=3
   ·rw[aw R];refine fz ⟨_,_,rfl,?_⟩;rw[al];have e0:(fun v:Nat=>((g.eQ.dc.zip (di.places g.eQ)).take i).flatMap (ow (v:Int)) ++ ow (v:Int) (p,pl))=fun v:Nat=>((g.eQ.dc.zip (di.places g.eQ)).take i).flatMap (ow (v:Int)):=by
     funext v;unfold ow;rw[ai R,cw]
    rw[e0];exact⟨f.same,f.hD,f.nd,f.nD,f.d0,f.q0,fun v=>by have:=f.len v;lia,f.at_⟩
   ·rw[aA R];obtain⟨⟨a0,a1⟩,⟨b0,b1⟩,hT⟩:=bo p (aH u) R;refine fF ?_;obtain⟨qa,ak⟩:∃q,A[p.a.toNat]? =some q:=⟨_,af (by lia)⟩;have bd:(A.map V.ref)[p.a.toNat]? =some (.ref qa):=by rw[aD,ak];rfl
    obtain⟨ua,ab,bg⟩:=f.at_ _ _ ak;have bx:=bg.length;have bq:=f.len p.a.toNat;refine⟨_,rfl,_,rfl,eH (Q _ _ B) O.part.cl (O.part.at_ 1 rfl) rfl (lW (.of f.hD) (d5 (j:=p.a.toNat) (by lia) bd) ⟨.inl ⟨rfl,_,.of ab⟩,_,rfl,dy (by simp),fun E a2=>⟨dy (by simp),fun t1 bb=>⟨qa,_,_,rfl,rfl,dz bb _ _ (dz a2 _ _ ab),dI (by lia),?_⟩⟩⟩)⟩;have X:=f.push (x:=pl) (y:=1) ak ab a2 bb;generalize upd (upd (upd H3 E (.lst [.int 1])) t1 (.tup [.int pl,.ref E])) qa (.lst (ua ++ [.ref t1]))=H4 at X;obtain⟨qb,ae⟩:∃q,A[p.b.toNat]? =some q:=⟨_,af (by lia)⟩;have bi:(A.map V.ref)[p.b.toNat]? =some (.ref qb):=by rw[aD,ae];rfl
    obtain⟨ub,ac,be⟩:=X.at_ _ _ ae;have lub:=be.length;have bu:=X.len p.b.toNat;refine⟨_,rfl,_,rfl,eH (X.same _ _ B) O.part.cl (O.part.at_ 2 rfl) rfl (lW (.of X.hD) (d5 (j:=p.b.toNat) (by lia) bi) ⟨.inl ⟨rfl,_,.of ac⟩,_,rfl,_,rfl,dy (by simp),fun M a3=>⟨dy (by simp),fun t2 a8=>⟨qb,_,_,rfl,rfl,dz a8 _ _ (dz a3 _ _ ac),dI (by lia),?_⟩⟩⟩)⟩;have l:=X.push (x:=pl) (y:= -1) ae ac a3 a8;generalize upd (upd (upd H4 M (.lst [.int (-1)])) t2 (.tup [.int pl,.ref M])) qb (.lst (ub ++ [.ref t2]))=H5 at l;refine⟨_,rfl,eH (l.same _ _ B) O.part.cl (O.part.at_ 0 rfl) rfl ⟨rfl,_,rfl,?_⟩⟩;rw[nA];by_cases s:p.kind=10
    ·rw[aw s];obtain⟨⟨c0,c1⟩,⟨d0,d1⟩⟩:=hT s;refine fz ?_;obtain⟨qc,am⟩:∃q,A[p.c.toNat]? =some q:=⟨_,af (by lia)⟩;have bc:(A.map V.ref)[p.c.toNat]? =some (.ref qc):=by rw[aD,am];rfl
     obtain⟨uc,ao,bj⟩:=l.at_ _ _ am;have b4:=bj.length;have bt:=l.len p.c.toNat;refine⟨_,rfl,_,rfl,eH (l.same _ _ B) O.part.cl (O.part.at_ 3 rfl) rfl (lW (.of l.hD) (d5 (j:=p.c.toNat) (by lia) bc) ⟨.inl ⟨rfl,_,.of ao⟩,_,rfl,_,_,rfl,rfl,dy (by simp),fun f3 a5=>⟨dy (by simp),fun t3 ap=>⟨qc,_,_,rfl,rfl,dz ap _ _ (dz a5 _ _ ao),dI (by lia),?_⟩⟩⟩)⟩;have J:=l.push (x:=pl+1) (y:=1) am ao a5 ap;generalize upd (upd (upd H5 f3 (.lst [.int 1])) t3 (.tup [.int (pl+1),.ref f3])) qc (.lst (uc ++ [.ref t3]))=H6 at J;obtain⟨qd,an⟩:∃q,A[p.d.toNat]? =some q:=⟨_,af (by lia)⟩;have bh:(A.map V.ref)[p.d.toNat]? =some (.ref qd):=by rw[aD,an];rfl
     obtain⟨ud,aa,bk⟩:=J.at_ _ _ an;have b3:=bk.length;have bp:=J.len p.d.toNat;refine⟨_,rfl,_,rfl,eH (J.same _ _ B) O.part.cl (O.part.at_ 4 rfl) rfl (lW (.of J.hD) (d5 (j:=p.d.toNat) (by lia) bh) ⟨.inl ⟨rfl,_,.of aa⟩,_,rfl,_,_,rfl,rfl,_,rfl,dy (by simp),fun f4 as=>⟨dy (by simp),fun t4 au=>⟨qd,_,_,rfl,rfl,dz au _ _ (dz as _ _ aa),dI (by lia),_,_,rfl,?_⟩⟩⟩)⟩;have N7:=J.push (x:=pl+1) (y:= -1) an aa as au;rw[al];have e0:(fun v:Nat=>((g.eQ.dc.zip (di.places g.eQ)).take i).flatMap (ow (v:Int)) ++ ow (v:Int) (p,pl))=fun v:Nat=>(((((g.eQ.dc.zip (di.places g.eQ)).take i).flatMap (ow (v:Int)) ++ if v=p.a.toNat then[(pl,[1])] else[]) ++ if v=p.b.toNat then[(pl,[-1])] else[]) ++ if v=p.c.toNat then[(pl+1,[1])] else[]) ++ if v=p.d.toNat then[(pl+1,[-1])] else[]:=by
      funext v;unfold ow;rw[ah R,ai s];have E:=congrFun (wG p.a a0 [(pl,[1])]) v;have M:=congrFun (wG p.b b0 [(pl,[-1])]) v;have f3:=congrFun (wG p.c c0 [(pl+1,[1])]) v;have f4:=congrFun (wG p.d d0 [(pl+1,[-1])]) v;rw[E,M,f3,f4];simp only[cu]
     rw[e0];exact N7
    ·rw[aA s];refine fF ⟨_,_,rfl,?_⟩;rw[al];have e0:(fun v:Nat=>((g.eQ.dc.zip (di.places g.eQ)).take i).flatMap (ow (v:Int)) ++ ow (v:Int) (p,pl))=fun v:Nat=>(((g.eQ.dc.zip (di.places g.eQ)).take i).flatMap (ow (v:Int)) ++ if v=p.a.toNat then[(pl,[1])] else[]) ++ if v=p.b.toNat then[(pl,[-1])] else[]:=by
      funext v;unfold ow;rw[ah R,ah s];have E:=congrFun (wG p.a a0 [(pl,[1])]) v;have M:=congrFun (wG p.b b0 [(pl,[-1])]) v;rw[E,M];simp only[cu,cw]
     rw[e0];exact⟨l.same,l.hD,l.nd,l.nD,l.d0,l.q0,fun v=>by have:=l.len v;lia,l.at_⟩
  ·rintro σ H2 ⟨x3,x4,rfl,S⟩;rw[aq,show(g.eQ.dc.zip (di.places g.eQ)).take g.eQ.dc.length=g.eQ.dc.zip (di.places g.eQ) from bH (by rw[List.length_zip,places_len];lia)] at S;refine⟨_,rfl,_,rfl,D,_,rfl,.of S.hD,fun r ba=> ?_⟩;have s9:=dz (o:= .lst (wH (A.map V.ref) (some 1) none)) ba;refine kk _ _ (S.same.trans s9) ⟨r,_,rfl,fun z=>z (S.same.free ba),dj,?_⟩;have ec:wH (A.map V.ref) (some 1) none=(A.map V.ref).drop 1:=by
    unfold wH;have e1:HT.Gf (A.map V.ref).length 0 (some 1)=1:=by
     show HT.Gf (A.map V.ref).length 0 (some ((1:Nat):Int))=1;rw[HT.qM,lMp];lia
    rw[e1,HT.Ks];exact bH (by rw[bJ];exact aj _)
   rw[ec] at s9⊢;refine BN (by simp;lia) fun i x y hx C=> ?_;rw[List.getElem?_drop,aD] at hx;rw[aD] at C;have bm:i<g.eQ.last.toNat:=by
    cases e:(List.range g.eQ.last.toNat)[i]? with
    |none=>rw[e] at C;cases C
    |some j=>
     have:=fX e;simpa using this
   rw[bB bm] at C;have ey:lH g.eQ ((i:Int)+1)=y:=bf C;cases e:A[1+i]? with
   |none=>rw[e] at hx;cases hx
   |some q=>
    rw[e] at hx;have ex:V.ref q=x:=bf hx;subst ex;obtain⟨us,h1,h2⟩:=S.at_ _ _ e;refine⟨q,us,rfl,fun z=>z (S.q0 q (aH e)),s9 _ _ h1,?_⟩;rw[<-ey,NP];have ei:((1+i:Nat):Int)=(i:Int)+1:=by lia
    rw[ei] at h2;exact(h2.h9 fun _ _ q=>jv.less q fun a ha=> .inl ha).jw jv s9
structure Qi(g:mY)(k:Nat):Prop where
 kind:0<=(pat g k).kind/\(pat g k).kind<=13
 aaw:(pat g k).kind=2->Ur g k
 ref:(pat g k).kind=8\/(pat g k).kind=9->CIN g k
structure Us(g:mY):Prop where
 w0:0<=di.width g.eQ
 w1:di.width g.eQ<1000
 terms:∀ts∈iD g,∀t∈ts,0<=t.1/\t.1<=di.width g.eQ/\t.2.length<=1000
 cnt:(iD g).length<=1000
abbrev Ut(c:Cs)(i:Nat):Sp:=kW c (fun g k=>(pat g k).kind=(i:Int)/\Qi g k) (fun g k=>gP g k)
structure Uu(P:Program)(w:World)(K:PySem.W.Frag)(mg:Str->Option Value)(base:Heap)(c:Cs)(ta:Addr)(fs:List Addr):Prop where
 hm:mg "LAWS_OF_KIND"=some (.ref ta)
 tup:∀H:Hp,Ge K H ta (fs.map V.ref)
 fn:∀i,i<14->∃f fd,fs[i]? =some f/\rB P w K mg base OK 5 f fd ["setting","k"] (Ut c i)/\PySem.W.keepIn K (.ref f)=true/\Binds K fd ["setting","k"] []
abbrev ug:Stmt:=top 56
theorem LG:dD ["setting","laws","k","part","law"] ["setting"] (dk ug):=sco
def LH(c:Cs):Sp:=fun A H Q _=>∃v g,A=[v]/\oO c H v g/\ZO g/\0<=g.eQ.last/\g.eQ.last<=100/\JR g.eQ/\(∀k,k<g.eQ.dc.length->Qi g k)/\Us g/\∀z d,dN H d->Ui (gk H) d z (di.rows g)->Q z d
abbrev yh P w K mg base c:=iT P w K mg base "law_rows" ["setting"] 6 (LH c)
theorem LJ (T:Txt2 mg)(O:hE K c)(L:Uu P w K mg base c ta fs)(vQ:CC P w K mg base c)(Fv:LA P w K mg base)(G:jc K mg "law_rows" ug ["setting"]):yh P w K mg base c:=by
 have u:=LG;refine G.jy u ?_;rintro _ _ _ _ s H _ _ _ hr ⟨v,g,rfl,hg,ok,n0,n1,a1,as,R,kk⟩;have aw:=L.hm;have a3:=ok.dc;refine⟨rfl,_,(dh (dX (i:=1) u.nd (dB vQ hr (c9 (pv 0) de)))
   (dh (hW PassesOwn.never rfl (oQ rfl T.gK (c9 (du K (du K (pv 0) rfl) rfl) de)) (j8 K (n:=2) rfl (fu (fk (i:=2) u.nd) (fu (fk (i:=3) u.nd) j7))) (dq (iU (oM aZ PySem.F.slot_list_extend PySem.F.type_list_extend Hj (pv 1) (c9 (Vi (d8 (ZN K) (Ox (v:= .ref ta) rfl aw rfl) (du K (pv 3) rfl) (fun _ _=>rfl)) (by rfl) (c9 (pv 0) (c9 (pv 2) de))) de)))))
   (dq (dE (mO rfl u.nd (fK (pv 1)) (fC (own:=[("law",4)]) (by show mV ["setting","laws","k","part","law"] (dk ug) _ _=true;decide +kernel)) (fun _ _ _ _ _=>(fk (i:=4) u.nd)) (fun _ _ _ _ _=>gh) (fun _ _ _ _ _=>(dB Fv hr (c9 (pv 4) (c9 (du K (pv 0) rfl) de))))))))),?_⟩
 refine⟨_,rfl,_,g,rfl,hg,ok,n0,n1,a1,fun z H1 Q r=> ?_⟩;obtain⟨p0,N,rfl,ax,J,ay⟩:=r;have ao:H p0=none:=cT.mp ax;have ah:=VY J ay;obtain⟨ga,bc,a8,a7,a2,a6,a9,rfl,ad,⟨na,a4,ba,rfl,au,pa,ws,rfl,ae,ac⟩,bb⟩:=id hg;have an:=ac.length;refine⟨_,rfl,eH (Q _ _ ad) O.kK.cl (O.kK.at_ 0 rfl) rfl (eH (Q _ _ au) O.eQ.cl (O.eQ.at_ 1 rfl) rfl ⟨pa,_,rfl,.of (Q _ _ ae),jR (oR (K:=K) (.of ae)) (fun i σ b=>∃x2 x3 N,σ=[some (.ref ga),some (.ref p0),x2,x3,none]/\dN H b/\b p0=some (.lst N)/\Paired (tO (fZ (gk H) p0) b) N ((List.range g.eQ.last.toNat).map (fun v:Nat=>lH g.eQ ((v:Int)+1)) ++ (List.range i).flatMap fun k=>gP g k)) ⟨none,none,N,rfl,Q,J,by simpa using ah⟩ (by rintro i σ b ⟨_,_,_,_,s,_⟩;exact s) ?_ ?_⟩)⟩
 ·rintro i x σ H2 H3 hi ⟨x2,x3,C,rfl,o,h,d⟩ B E ⟨t,y,rfl,ht,hy⟩;obtain⟨p,hp,pb,a5,rfl,aq⟩:=ac.nv hy;have ab:i<g.eQ.dc.length:=fX hp;have ep:pat g i=p:=by
   show g.eQ.dc.getD i di.p0=p;rw[gDe,hp];rfl
  have S:=E _ _ h;have LI:=as i ab;obtain⟨kl,ku⟩:=LI.kind;rw[ep] at kl ku;refine⟨t,_,rfl,.of ht,rfl,_,_,rfl,_,_,rfl,rfl,?_⟩;refine⟨_,rfl,.inl ⟨rfl,_,.of S⟩,?_⟩;obtain⟨f1,am,av,F1,ap,b1⟩:=L.fn p.kind.toNat (by lia);have ai:(fs.map V.ref)[p.kind.toNat]? =some (.ref f1):=by rw[aD,av];rfl
  refine⟨_,rfl,eH (B _ _ aq) O.part.cl (O.part.at_ 0 rfl) rfl (lW (L.tup _) (d5 (j:=p.kind.toNat) (by lia) ai) ?_)⟩;refine⟨f1,am,_,_,_,rfl,F1,hr.mono (by decide),ap,b1,_,rfl,_,rfl,_,g,i,rfl,hg.same B,ok,ab,⟨by rw[ep];lia,LI⟩,fun z I f r=> ?_⟩;obtain⟨za,zv,rfl,nz,az,aa⟩:=r;have al:=f _ _ S;have lz:zv.length=(gP g i).length:=aa.length;have l2:=d.length;have cnt:=R.cnt;have lsum:(List.map (fun v:Nat=>lH g.eQ ((v:Int)+1)) (List.range g.eQ.last.toNat)).length+(((List.range i).flatMap fun k=>gP g k).length+(gP g i).length)<=1000:=by
   refine aB ?_ cnt;unfold iD;rw[aJ];refine Nat.add_le_add_left ?_ _;have e:(List.range (i+1)).flatMap (fun k=>gP g k)=(List.range i).flatMap (fun k=>gP g k) ++ gP g i:=by
    rw[bX,cM];simp
   rw[<-aJ,<-e];have e2:∀m,((List.range (i+1)).flatMap fun k=>gP g k).length<=((List.range (i+1+m)).flatMap fun k=>gP g k).length:=by
    intro m;induction m with
    |zero=>exact aj _
    |succ m ih=>
     have e4:(List.range (i+1+(m+1))).flatMap (fun k=>gP g k)=(List.range (i+1+m)).flatMap (fun k=>gP g k) ++ gP g (i+1+m):=by
      rw[<-Nat.add_assoc,bX,cM];simp
     rw[e4,aJ];lia
   have:=e2 (g.eQ.dc.length - (i+1));have e3:i+1+(g.eQ.dc.length - (i+1))=g.eQ.dc.length:=by lia
   rwa [e3] at this
  refine⟨p0,za,_,_,rfl,rfl,al,az,dy (by rw[l2,lz,aJ];lia),_,_,_,rfl,(B.trans f).over ao,dj,?_⟩;have od:Off (fZ (gk H) p0) I (upd I p0 (.lst (C ++ zv))):=fR (.inr rfl);rw[bX,cM,<-cu];refine((d.jw fj (E.trans f)).vI fj od).app ?_;have ag:Paired (tO (fZ (gk H) p0) I) zv ([i].flatMap fun k=>gP g k):=by
   rw[List.flatMap_singleton];refine aa.h9 fun _ _ q=>fj.Bj q fun a A=> ?_;rcases A with A |A
   ·exact .inl (gm B a A)
   ·refine .inl fun z=> ?_;rw[A,S] at z;cases z
  exact ag.vI fj od
 ·rintro σ H2 ⟨x2,x3,C,rfl,o,h,d⟩;rw[an] at d;change Paired (tO (fZ (gk H) p0) H2) C (iD g) at d;have l2:=d.length;have cnt:=R.cnt;refine⟨_,rfl,p0,rfl,⟨_,.of h⟩,fun D hD=>oC (fL (.of h)) hD (fun i b acc=>Paired (vH (fZ (gk H) D) b) acc (((iD g).take i).map (di.rowOf (di.width g.eQ)))) .nil ?_ ?_⟩
  ·rintro i x H3 I acc hi B X l f ar M hx;obtain⟨ts,af,tt⟩:=d.nv hx;have ak:=l.length;refine⟨rfl,⟨_,rfl,_,rfl,eH (f _ _ (o _ _ ad)) O.kK.cl (O.kK.at_ 5 rfl) rfl ⟨_,ts,_,rfl,toF (fj.same tt f),R.w0,R.w1,R.terms ts (aH af),fun z H5 s5 r=> ?_⟩⟩⟩;have a0:vH (fZ (gk H) D) H5 z (di.rowOf (di.width g.eQ) ts):=fB.Bj r fun a A=>by
    rcases A with A |A
    ·exact .inl (gm (o.trans f) a A)
    ·refine .inl fun y=> ?_;rw[A,M] at y;cases y
   refine gz hD (f.trans s5) (s5 _ _ M) ?_ ?_
   ·rw[ak,lMp,aP];exact dI (by lia)
   ·rw[eX _ _ _ _ af];exact((l.jw fB (ar.trans s5)).vI fB (fR (.inr rfl))).kU (fB.off a0 (fR (.inr rfl)))
  ·intro H3 acc B X l;rw[l2,aQ] at l;exact kk _ H3 (o.trans B) ⟨D,acc,rfl,fun z=>z (o.free hD),X,l.RS fB⟩
structure GN(K:PySem.W.Frag)(mg:Str->Option Value)(x qual:Str)(C:Addr)(st:Stmt)(ps:List Str):Prop where
 ex:∃(f:Addr) (fd:FuncData),mg x=some (.ref C)/\Mk K C f/\Xr K "__init__" qual st f fd/\Binds K fd ps []
structure NQ(P:Program)(w:World)(K:PySem.W.Frag)(mg:Str->Option Value)(base:Heap)(x:Str)(C:Addr)(ps:List Str)(k:Nat)(sp:Sp):Prop where
 ex:∃(f:Addr) (fd:FuncData),mg x=some (.ref C)/\Mk K C f/\rB P w K mg base OK k f fd ps sp/\Binds K fd ps []
theorem GN.Yr{P:Program}{w:World}{K:PySem.W.Frag}{mg:Str->Option Value}{base:Heap}{x qual:Str}{C:Addr}{st:Stmt}{N ps:List Str}{k:Nat}{sp:Sp}(G:GN K mg x qual C st ps)(S:dD N ps (dk st))
  (h:∀(f:Addr) (l:Value) (A:Around) (outer:List Env) (s:Shared) (H:Hp) (d:List V) (Q:VK) (E:XK),l5 k (A.deeper (envOfC qual (dk st) s.heap.objs.size f l))->sp d H Q E->
   d.length=ps.length/\∃t,Mn (IG OK P w K mg base N qual (dk st) f l A outer s H E).W2 (je st) t/\t {nx:=fun _ B=>Q .kY B,rt:=Q} (L2.start N d) H) (a:k<=99:=by decide):NQ P w K mg base x C ps (k+1) sp:=by
 obtain⟨f,n,b,M,F,e⟩:=G.ex;exact⟨f,n,b,M,F.ok S (fun d H Q E q=>(h 0 .none {} [] {} H d Q E (Wq a _) q).1) (fun l A outer s H d Q E v i=>(h f l A outer s H d Q E v i).2),e⟩
theorem Fw{X:Cx}{k:Nat}{x:Str}{C:Addr}{ps:List Str}{sp:Sp}{e:Expr}{d:List Expr}{t:TA}{p pos:Pos}{j:Nat}(m:NQ X.prog X.w X.K X.mg X.base x C ps k sp)(v:l5 j X.A)(b:PA X (e::d) t)(a:k+1<=j:=by decide)(q:Gl X x:=by rfl)
  (i:(x==("__debug__":Str))=false:=by decide) (B:starEach (e::d) X.env=(false,eval e X.env)::starEach d X.env:=by rfl) (l:(backTo pos (starEach d X.env)).any (·.1)=false:=by rfl):
  PE X (.Call (.Name x p) (e::d) [] pos) (Wm C sp [] E0 t):=by
 obtain⟨f,u,n,M,F,h⟩:=m.ex;exact U9 M F (v.mono a) q n h .nil Si b i B l
def Fx(C:Addr)(x A:Addr)(H:Hp)(Q:VK)(fs:List (Str×V)):Prop:=∀d,(∀b o,H b=some o->b≠x->d b=some o)->d x=some (.ins C A fs)->Q .kY d
abbrev oI:Stmt:=inClass (top 79) 0
theorem BO:dD ["self","determinant","tops"] ["self","determinant","tops"] (dk oI):=sco
def Aa(C:Addr):Sp:=fun l H Q _=>∃x A d t,l=[.ref x,d,t]/\H x=some (.ins C A [])/\Fx C x A H Q (Zw d t)
theorem LK (O:xZ K C ["determinant","tops"])(G:GN K mg "Solution" "Solution.__init__" C oI ["self","determinant","tops"]):NQ P w K mg base "Solution" C ["self","determinant","tops"] 1 (Aa C):=by
 have i:=BO;refine G.Yr i ?_;rintro _ _ _ _ _ _ _ _ _ B ⟨x,l,d,t,rfl,f,k⟩;refine⟨rfl,_,(dh (ij (pv 0) (pv 1) rfl)
   (dq (ij (pv 0) (pv 2) rfl))),?_⟩
 refine⟨_,rfl,_,rfl,x,C,l,_,rfl,f,O.cl,O.at_ 0 rfl,(by show 0<1000;decide),?_⟩;refine⟨_,rfl,_,rfl,x,C,l,_,rfl,dj,O.cl,O.at_ 1 rfl,(by show 1<1000;decide),?_⟩;exact k _ (fun b o e A=>by rw[dY A,dY A];exact e) dj
abbrev jI:Stmt:=inClass (top 85) 0
theorem uh:dD ["self","states","solution"] ["self","states","solution"] (dk jI):=sco
def qk(C:Addr):Sp:=fun l H Q _=>∃x A d t,l=[.ref x,d,t]/\H x=some (.ins C A [])/\Fx C x A H Q (ptF d t)
theorem Ab (O:xZ K C ["states","solution"])(G:GN K mg "OperatingPoint" "OperatingPoint.__init__" C jI ["self","states","solution"]):NQ P w K mg base "OperatingPoint" C ["self","states","solution"] 1 (qk C):=by
 have i:=uh;refine G.Yr i ?_;rintro _ _ _ _ _ _ _ _ _ B ⟨x,l,d,t,rfl,f,k⟩;refine⟨rfl,_,(dh (ij (pv 0) (pv 1) rfl)
   (dq (ij (pv 0) (pv 2) rfl))),?_⟩
 refine⟨_,rfl,_,rfl,x,C,l,_,rfl,f,O.cl,O.at_ 0 rfl,(by show 0<1000;decide),?_⟩;refine⟨_,rfl,_,rfl,x,C,l,_,rfl,dj,O.cl,O.at_ 1 rfl,(by show 1<1000;decide),?_⟩;exact k _ (fun b o e A=>by rw[dY A,dY A];exact e) dj
abbrev ql:Stmt:=inClass (top 99) 0
theorem CU:dD ["self","last_node","parts"] ["self","last_node","parts"] (dk ql):=sco
def CD(C:Addr):Sp:=fun A H Q _=>∃x d n t,A=[.ref x,.int n,t]/\H x=some (.ins C d [])/\Fx C x d H Q (Zv n t)
theorem NR (O:xZ K C ["last_node","parts"])(G:GN K mg "Network" "Network.__init__" C ql ["self","last_node","parts"]):NQ P w K mg base "Network" C ["self","last_node","parts"] 1 (CD C):=by
 have i:=CU;refine G.Yr i ?_;rintro _ _ _ _ _ _ _ _ _ B ⟨x,l,d,t,rfl,f,k⟩;refine⟨rfl,_,(dh (ij (pv 0) (pv 1) rfl)
   (dq (ij (pv 0) (pv 2) rfl))),?_⟩
 refine⟨_,rfl,_,rfl,x,C,l,_,rfl,f,O.cl,O.at_ 0 rfl,(by show 0<1000;decide),?_⟩;refine⟨_,rfl,_,rfl,x,C,l,_,rfl,dj,O.cl,O.at_ 1 rfl,(by show 1<1000;decide),?_⟩;exact k _ (fun b o e A=>by rw[dY A,dY A];exact e) dj
abbrev vR:Stmt:=inClass (top 98) 0
theorem JV:dD ["self","numbers"] ["self","numbers"] (dk vR):=sco
def LL(K:PySem.W.Frag)(C:Addr):Sp:=fun A H Q _=>∃x d a l,A=[.ref x,.ref a]/\H x=some (.ins C d [])/\H a=some (.lst (l.map V.int))/\l.length=7/\Fx C x d H Q (Uk (di.Part.of l))
theorem V1 (O:xZ K C ["kind","a","b","c","d","top","bottom"])(G:GN K mg "Part" "Part.__init__" C vR ["self","numbers"]):NQ P w K mg base "Part" C ["self","numbers"] 1 (LL K C):=by
 have B:=JV;refine G.Yr B ?_;rintro _ _ _ _ _ _ _ _ _ h ⟨x,A,a,l,rfl,i,d,v,k⟩;have ne:a≠x:=Ki d i (by intro z;cases z);refine⟨rfl,_,(dh (ij (pv 0) (d8 (jq K) (pv 1) dC (fun _ _=>rfl)) rfl)
   (dh (ij (pv 0) (d8 (jq K) (pv 1) dC (fun _ _=>rfl)) rfl)
   (dh (ij (pv 0) (d8 (jq K) (pv 1) dC (fun _ _=>rfl)) rfl)
   (dh (ij (pv 0) (d8 (jq K) (pv 1) dC (fun _ _=>rfl)) rfl)
   (dh (ij (pv 0) (d8 (jq K) (pv 1) dC (fun _ _=>rfl)) rfl)
   (dh (ij (pv 0) (d8 (jq K) (pv 1) dC (fun _ _=>rfl)) rfl)
   (dq (ij (pv 0) (d8 (jq K) (pv 1) dC (fun _ _=>rfl)) rfl)))))))),?_⟩
 refine⟨_,rfl,a,_,_,_,rfl,rfl,.of d,d5 (j:=0) rfl (jf (by lia)),_,rfl,x,C,A,_,rfl,i,O.cl,O.at_ 0 rfl,(by show 0<1000;decide),?_⟩;refine⟨_,rfl,a,_,_,_,rfl,rfl,.of (by rw[dY ne];exact d),d5 (j:=1) rfl (jf (by lia)),_,rfl,x,C,A,_,rfl,dj,O.cl,O.at_ 1 rfl,(by show 1<1000;decide),?_⟩;rw[n8];refine⟨_,rfl,a,_,_,_,rfl,rfl,.of (by rw[dY ne];exact d),d5 (j:=2) rfl (jf (by lia)),_,rfl,x,C,A,_,rfl,dj,O.cl,O.at_ 2 rfl,(by show 2<1000;decide),?_⟩;rw[n8];refine⟨_,rfl,a,_,_,_,rfl,rfl,.of (by rw[dY ne];exact d),d5 (j:=3) rfl (jf (by lia)),_,rfl,x,C,A,_,rfl,dj,O.cl,O.at_ 3 rfl,(by show 3<1000;decide),?_⟩;rw[n8];refine⟨_,rfl,a,_,_,_,rfl,rfl,.of (by rw[dY ne];exact d),d5 (j:=4) rfl (jf (by lia)),_,rfl,x,C,A,_,rfl,dj,O.cl,O.at_ 4 rfl,(by show 4<1000;decide),?_⟩;rw[n8];refine⟨_,rfl,a,_,_,_,rfl,rfl,.of (by rw[dY ne];exact d),d5 (j:=5) rfl (jf (by lia)),_,rfl,x,C,A,_,rfl,dj,O.cl,O.at_ 5 rfl,(by show 5<1000;decide),?_⟩;rw[n8];refine⟨_,rfl,a,_,_,_,rfl,rfl,.of (by rw[dY ne];exact d),d5 (j:=6) rfl (jf (by lia)),_,rfl,x,C,A,_,rfl,dj,O.cl,O.at_ 6 rfl,(by show 6<1000;decide),?_⟩;rw[n8];exact k _ (fun b o e f=>by rw[dY f];exact e) dj
abbrev qm:Stmt:=inClass (top 27) 0
theorem CV:dD ["self","network","s","states","drives"] ["self","network","s","states","drives"] (dk qm):=sco
def vS(c:Cs):Sp:=fun k H Q _=>∃d x v B l A f g,k=[.ref x,B,l,A,f]/\H x=some (.ins c.kK v [])/\dN d H/\d x=none/\uL c d B g.eQ/\fI d l g.s/\zQ d A g.gZ/\Ih d f g.drives/\g.eQ.dc.length<=1000/\∀i,dN d i->oO c i (.ref x) g->Q .kY i
theorem NT(O:hE K c)(m:sF P w K mg base c)(E:xf P w K mg base c)(G:GN K mg "Setting" "Setting.__init__" c.kK qm ["self","network","s","states","drives"]):NQ P w K mg base "Setting" c.kK ["self","network","s","states","drives"] 3 (vS c):=by
 have j:=CV;refine G.Yr j ?_;rintro _ _ _ _ _ H _ _ _ v ⟨i,x,d,F,u,t,L,g,rfl,X,y,A,f,Q,s,I,r,k⟩;refine⟨rfl,_,(dh (ij (pv 0) (pv 1) rfl)
   (dh (ij (pv 0) (pv 2) rfl)
   (dh (ij (pv 0) (pv 3) rfl)
   (dh (ij (pv 0) (pv 4) rfl)
   (dh (ij (pv 0) (dB m v (c9 (pv 1) de)) rfl)
   (dq (ij (pv 0) (dB E v (c9 (pv 1) de)) rfl))))))),?_⟩
 refine⟨_,rfl,_,rfl,x,c.kK,d,_,rfl,X,O.kK.cl,O.kK.at_ 0 rfl,(by show 0<1000;decide),?_⟩;refine⟨_,rfl,_,rfl,x,c.kK,d,_,rfl,dj,O.kK.cl,O.kK.at_ 1 rfl,(by show 1<1000;decide),?_⟩;rw[n8];refine⟨_,rfl,_,rfl,x,c.kK,d,_,rfl,dj,O.kK.cl,O.kK.at_ 2 rfl,(by show 2<1000;decide),?_⟩;rw[n8];refine⟨_,rfl,_,rfl,x,c.kK,d,_,rfl,dj,O.kK.cl,O.kK.at_ 3 rfl,(by show 3<1000;decide),?_⟩;rw[n8];have n:∀o,dN i (upd H x o):=fun o=>y.over A;refine⟨_,rfl,_,_,rfl,f.same (n _),r,fun p N S b h=> ?_⟩;have M:=b _ _ dj;refine⟨_,rfl,x,c.kK,d,_,rfl,M,O.kK.cl,O.kK.at_ 4 rfl,(by show 4<1000;decide),?_⟩;have a:p≠x:=fun e=>by rw[e,dj] at S;cases S
 have q:∀o,dN i (upd N x o):=fun o=>((n _).trans b).over A;refine⟨_,rfl,_,_,rfl,f.same (q _),r,fun z B=> ?_⟩;have C:=B _ _ dj;refine⟨_,rfl,x,c.kK,d,_,rfl,C,O.kK.cl,O.kK.at_ 5 rfl,(by show 5<1000;decide),?_⟩;have l:∀o,dN i (upd z x o):=fun o=>((q _).trans B).over A;refine k _ (l _) ⟨x,d,F,u,t,L,.ref p,rfl,dj,f.same (l _),Q.same (l _),s.same (l _),I.same (l _),p,rfl,?_⟩;rw[dY a];exact B _ _ (by rw[dY a];exact h)
abbrev FF:Addr->Prop:=fun _=>False
structure XY(bk rj rk bj before:List Int):Prop where
 s1:bk.length<100000
 s2:rj.length<100000
 s3:rk.length<100000
 s4:bj.length<100000
 s5:before.length<100000
 m1:∀x∈bk,∀y∈rj,IntMulOk x y
 m2:∀x∈rk,∀y∈bj,IntMulOk x y
 tb:di.Trim before
 nb:before≠[]
 lb:(di.lc before).natAbs.log2<9000
 ex:∃m,di.Trim m/\dO (wI (iQ bk rj) (iQ rk bj))=dO m*dO before/\∀x∈m,∀y∈before,IntMulOk x y
def Uv(row by_:List (List Int))(k:Nat)(before:List Int):Prop:=∀j,k<j->j<row.length->XY (by_.getD k []) (row.getD j []) (row.getD k []) (by_.getD j []) before
theorem CF(l r:List Int):(iQ l r).length<=l.length+r.length:=by
 by_cases h:l=[]\/r=[]
 ·unfold iQ;rw[ai h];simp
 ·have A:l≠[]:=fun e=>h (.inl e);have d:r≠[]:=fun e=>h (.inr e);rw[DX A d];lia
theorem LM(l r:List Int):(wI l r).length<=max l.length r.length:=by
 unfold wI Gm;refine aB (DW _) ?_;rw[lh,jM];exact aj _
abbrev mr:Stmt:=top 81
theorem yi:dD ["table","k","place"] ["table","k"] (dk mr):=sco
noncomputable def pvV:Option Nat->V
 |none=> .kY
 |some c=> .int (c:Int)
def yk:Sp:=fun A H Q _=>∃v t k,A=[v,.int ((k:Nat):Int)]/\Ui FF H v t/\k<=t.length/\t.length<=1000/\(∀r∈t,k<r.length)/\∀d,dN H d->Q (pvV (pK t k (t.length - k))) d
abbrev rb P w K mg base:=iT P w K mg base "row_to_solve_by" ["table","k"] 1 yk
theorem ym(T:Txt2 mg)(G:jc K mg "row_to_solve_by" mr ["table","k"]):rb P w K mg base:=by
 have C:=yi;refine G.jy C ?_;rintro _ _ _ _ s H _ _ _ hr ⟨v,t,k,rfl,⟨a,M,rfl,_,p,f⟩,hk,hl,e,r⟩;have ll:=f.length;refine⟨rfl,_,(dh (hW PassesOwn.never rfl (AW rfl T.kn (c9 (pv 1) (c9 (eC (eY K) rfl T.g8 eh (c9 (pv 0) de)) de))) (fk (i:=2) C.nd) (dq (fS (fG K (d8 (jq K) (d8 (jq K) (pv 0) (pv 2) (fun _ _=>rfl)) (pv 1) (fun _ _=>rfl)) (fun _=>rfl)) (dq (dE (pv 2))) fc)))
   (dq (dE Iz))),?_⟩
 refine⟨_,rfl,_,rfl,a,_,rfl,.inl (.of p),_,_,rfl,⟨by lia,by lia,by lia,by lia⟩,?_⟩;have X:((M.length:Int) - (k:Int)).toNat=t.length - k:=by rw[Int.toNat_sub];lia
 rw[X];refine jR (l6 H _ _) (fun i σ z=>∃B,σ=[some (.ref a),some (.int (k:Int)),B]/\dN H z/\i<=t.length - k/\pK t k (t.length - k)=pK t k (t.length - k - i)) ⟨none,rfl,.refl _,aR _,rfl⟩ (by rintro i σ z ⟨_,_,s,_⟩;exact s) ?_ ?_
 ·rintro i x σ y N hi ⟨B,rfl,S,F,A⟩ l R rfl;obtain⟨m,J⟩:=zEx hi;have K:=(Nat.sub_sub ..).symm.trans J;have I:=zTo K;have K:=Nat.lt_of_sub_eq_succ K
  obtain⟨u,D,ra,O,rfl,_,o,b⟩:=f.lC (dA (d:=[]) K);have n:=e _ (aH (dA (d:=[]) K));obtain⟨q,g,qa,rfl,_,L⟩:=b.lC (dA (d:=[]) n);refine⟨_,rfl,_,rfl,lW (.of (l _ _ p)) (d5 (j:=k+i) (by lia) D) ⟨_,rfl,lW (.of (l _ _ o)) (d5 (j:=k) rfl g) ⟨_,NJ (l _ _ L),?_⟩⟩⟩;rw[J,show pK t k (m+1)=(if(t.getD (t.length - (m+1)) []).getD k []≠[] then some (t.length - (m+1)) else pK t k m) from rfl,I] at A;by_cases h:(t.getD (k+i) []).getD k []=[]
  ·rw[h] at A⊢;rw[ah (by simp)] at A;refine fF ⟨_,rfl,l,by lia,?_⟩;have E:t.length - k - (i+1)=m:=congrArg Nat.pred J
   rw[E];exact A
  ·rw[nu h];rw[ai h] at A;refine fz ⟨_,rfl,?_⟩;have q:=r N l;rw[A] at q;have Q:(k:Int)+(i:Nat)=((k+i:Nat):Int):=by lia
   rw[Q];exact q
 ·rintro σ y ⟨B,rfl,S,F,A⟩;have q:=r y S;rw[A,cX] at q;exact q
abbrev rS:Stmt:=top 83
theorem Fy:dD ["row","by","k","before","result","factor","place","kept"] ["row","by","k","before"] (dk rS):=sco
def Fz:Sp:=fun A H Q _=>∃S v u b row by_ k before,A=[v,u,.int ((k:Nat):Int),b]/\RR S H/\vH S H v row/\vH S H u by_/\fI H b before/\k<row.length/\row.length=by_.length/\row.length<=1000/\Uv row by_ k before/\∀z d,dN H d->vH S d z (mX row by_ k before)->Q z d
abbrev xi P w K mg base:=iT P w K mg base "cleared_row" ["row","by","k","before"] 4 Fz
theorem FA(T:Txt2 mg)(jm:tN P w K mg base)(g4:oX P w K mg base)(BP:Ig P w K mg base)(G:jc K mg "cleared_row" rS ["row","by","k","before"]):xi P w K mg base:=by
 have L:=Fy;refine G.jy L ?_;rintro _ _ _ _ s H _ _ _ M ⟨S,v,u,b,row,by_,k,before,rfl,dS,⟨ra,D,rfl,az,n,q⟩,⟨ba,bv,rfl,a0,aa,a⟩,hb,hk,av,hl,an,kk⟩;have lr:=q.length;have lb:=a.length;refine⟨rfl,_,(dh (dX (i:=4) L.nd (A1 (xy K) rfl T.EW ve (c9 (pv 0) de)))
   (dh (dX (i:=5) L.nd (d8 (jq K) (pv 0) (pv 2) (fun _ _=>rfl)))
   (dh (hW PassesOwn.never rfl (AW rfl T.kn (c9 (eZ lJ (pv 2) dC) (c9 (eC (eY K) rfl T.g8 eh (c9 (pv 0) de)) de))) (fk (i:=6) L.nd) (dh (dX (i:=7) L.nd (dB jm M (c9 (d8 (jq K) (pv 1) (pv 2) (fun _ _=>rfl)) (c9 (d8 (jq K) (pv 0) (pv 6) (fun _ _=>rfl)) de))))
   (dq (AV (dB BP M (c9 (dB g4 M (c9 (pv 7) (c9 (dB jm M (c9 (pv 5) (c9 (d8 (jq K) (pv 1) (pv 6) (fun _ _=>rfl)) de))) de))) (c9 (pv 3) de))) (AU (pv 4) (pv 6) set_list)))))
   (dq (dE (pv 4)))))),?_⟩
 refine⟨_,rfl,ra,_,rfl,.inl (.of n),fun p z=> ?_⟩;have J:=dz (o:= .lst D) z;obtain⟨fv,ao,pf⟩:=q.lC (dA (d:=[]) hk);refine⟨_,rfl,_,rfl,lW (.of (J _ _ n)) (d5 (j:=k) rfl ao) ?_⟩;refine⟨_,rfl,j9 ⟨_,rfl,ra,_,rfl,.inl (.of (J _ _ n)),_,_,rfl,⟨by lia,by lia,by lia,by lia⟩,?_⟩⟩;have en:((D.length:Int) - ((k:Int)+1)).toNat=row.length - (k+1):=by rw[lr];exact Int.toNat_sub row.length (k+1)
 rw[en];have ag:Paired (uQ (fZ S p) H) D row:=q.VW gS z;have au:Paired (uQ (fZ S p) H) bv by_:=a.VW gS z;refine jR (l6 H _ _) (fun i σ X=>∃x6 x7 f,σ=[some (.ref ra),some (.ref ba),some (.int (k:Int)),some b,some (.ref p),some fv,x6,x7]/\dN H X/\X p=some (.lst f)/\f.length=row.length/\(∀j x,f[j]? =some x->uQ (fZ S p) X x (if k<j/\j<k+1+i then(mX row by_ k before).getD j [] else row.getD j []))) ⟨none,none,D,rfl,J,dj,lr,fun j x A=> ?_⟩ (by rintro i σ X ⟨_,_,_,_,s,_⟩;exact s) ?_ ?_
 ·rw[ah (by lia)];obtain⟨y,hy,py⟩:=ag.nv A;have:row.getD j []=y:=by rw[gDe,hy];rfl
  rw[this];exact gS.same py J
 ·rintro i x σ H1 H2 hi ⟨x6,x7,f,rfl,s2,t,r,E⟩ C N rfl;have hj:k+1+i<row.length:=Nat.add_comm i _▸Nat.add_lt_of_lt_sub hi
  have ej:((k:Int)+1)+((i:Nat):Int)=((k+1+i:Nat):Int):=by lia
  rw[ej];have O:=an (k+1+i) (by lia) hj;obtain⟨a2,ak,aj⟩:=a.lC (dA (d:=[]) (show k<by_.length by lia));obtain⟨ay,ap,as⟩:=a.lC (dA (d:=[]) (show k+1+i<by_.length by lia));obtain⟨a1,am,aq⟩:=q.lC (dA (d:=[]) hj);refine⟨_,rfl,_,rfl,lW (.of (C _ _ aa)) (d5 (j:=k) rfl ak) ⟨_,rfl,_,rfl,lW (.of (C _ _ n)) (d5 (j:=k+1+i) rfl am) ?_⟩⟩;refine⟨_,_,_,_,rfl,aj.at_.same C,aq.at_.same C,by unfold Short;have:=O.s1;lia,by unfold Short;have:=O.s2;lia,O.m1,fun q1 H3 a3 t1 ad=> ?_⟩;have B:=C.trans t1;refine⟨_,rfl,_,rfl,_,rfl,_,rfl,lW (.of (B _ _ aa)) (d5 (j:=k+1+i) rfl ap) ?_⟩;refine⟨_,_,_,_,rfl,pf.at_.same B,as.at_.same B,by unfold Short;have:=O.s3;lia,by unfold Short;have:=O.s4;lia,O.m2,fun q2 H4 aw g ac=> ?_⟩;have l1:=CF (by_.getD k []) (row.getD (k+1+i) []);have l2:=CF (row.getD k []) (by_.getD (k+1+i) []);have o1:=O.s1;have o2:=O.s2;have o3:=O.s3;have o4:=O.s4;have o5:=O.s5;refine⟨_,_,_,_,rfl,⟨q1,rfl,g _ _ ad⟩,⟨q2,rfl,ac⟩,by unfold Short;lia,by unfold Short;lia,fun q3 H5 ax t3 af=> ?_⟩;have l3:=LM (iQ (by_.getD k []) (row.getD (k+1+i) [])) (iQ (row.getD k []) (by_.getD (k+1+i) []));obtain⟨m,tm,em,mm⟩:=O.ex;have R:=(B.trans g).trans t3;refine⟨_,rfl,_,_,_,_,m,rfl,⟨q3,rfl,af⟩,hb.same R,by unfold Short;lia,by unfold Short;lia,Ba _ _,O.tb,tm,O.nb,em,O.lb,mm,fun Q H6 ab t4 ae=> ?_⟩;have F:=((t1.trans g).trans t3).trans t4;have al:=F _ _ (N _ _ t);refine⟨_,rfl,_,rfl,p,_,_,k+1+i,rfl,rfl,al,sV rfl (by lia),?_⟩;have n4:¬fZ S p Q:=fun h=>h.elim (fun y=>(dS.same R) Q y ab) (fun y=>by
   have:=((t1.trans g).trans t3) _ _ (N _ _ t);rw[<-y,ab] at this;cases this)
  have ed:(mX row by_ k before).getD (k+1+i) []=m:=by
   unfold mX;rw[qR _ _ _ _ hj,ai (by lia)];exact OW (Ba _ _) O.tb tm O.nb em
  refine⟨_,_,_,rfl,(C.trans F).over z,dj,by rw[cA];exact r,fun j x A=> ?_⟩;have od:Off (fZ S p) H6 (upd H6 p (.lst (f.set (k+1+i) (.ref Q)))):=fR (.inr rfl);rw[cS] at A;by_cases e:k+1+i=j
  ·subst e;rw[ai rfl,ai (by lia)] at A;have:V.ref Q=x:=bf A;subst this;rw[ai (by lia),ed];exact gS.off ⟨Q,rfl,n4,ae⟩ od
  ·rw[ah e] at A;have l:=gS.off (gS.same (E j x A) (N.trans F)) od;by_cases e2:k<j/\j<k+1+i
   ·rw[ai e2] at l;rw[ai (by lia)];exact l
   ·rw[ah e2] at l;rw[ah (by lia)];exact l
 ·rintro σ H1 ⟨x6,x7,f,rfl,s2,t,r,E⟩;refine⟨_,rfl,kk _ H1 s2 ⟨p,f,rfl,dS.new z,t,?_⟩⟩;refine PySem.Paired.RS (p:=p) gS (BN (by unfold mX;simp[r]) fun j x y A hy=> ?_);have I:=E j x A;have ar:j<row.length:=by rw[<-r];exact fX A
  have ey:(mX row by_ k before).getD j []=y:=by rw[gDe,hy];rfl
  by_cases e:k<j
  ·rw[ai ⟨e,by lia⟩,ey] at I;exact I
  ·rw[ah (by lia)] at I;have e3:(mX row by_ k before).getD j []=row.getD j []:=by
    unfold mX;rw[qR _ _ _ _ ar,ah e]
   rw[<-e3,ey] at I;exact I
abbrev BQ:Stmt:=top 82
theorem NU:dD ["table","k","before","by","result","place","row"] ["table","k","before"] (dk BQ):=sco
def NV:Sp:=fun l H Q _=>∃S v b t k before,l=[v,.int ((k:Nat):Int),b]/\RR S H/\Ui S H v t/\fI H b before/\k<t.length/\t.length<=900/\(∀i,i<t.length->(t.getD i []).length=t.length+1)/\(∀i,i<t.length->i≠k->Uv (t.getD i []) (t.getD k []) k before)/\∀p A d,dN H d->H p=none->d p=some (.lst A)->Paired (vH S d) A (A9 t k before)->Q (.ref p) d
abbrev Ij P w K mg base:=iT P w K mg base "cleared" ["table","k","before"] 5 NV
theorem NW(T:Txt2 mg)(rT:xi P w K mg base)(G:jc K mg "cleared" BQ ["table","k","before"]):Ij P w K mg base:=by
 have C:=NU;refine G.jy C ?_;rintro _ _ _ _ s H _ _ _ hr ⟨S,v,b,t,k,before,rfl,dS,⟨ta,tv,rfl,ad,F,N⟩,hb,R,hl,h,g,kk⟩;have lt:=N.length;refine⟨rfl,_,(dh (dX (i:=3) C.nd (d8 (jq K) (pv 0) (pv 1) (fun _ _=>rfl)))
   (dh (dX (i:=4) C.nd (d9 de))
   (dh (hW PassesOwn.never rfl (oQ rfl T.gK (c9 (pv 0) de)) (j8 K (n:=2) rfl (fu (fk (i:=5) C.nd) (fu (fk (i:=6) C.nd) j7))) (dq (fS (e9 iV (pv 5) (pv 1) (eO _)) (dq (iU (oM aZ a6 a7 gN (pv 4) (c9 (pv 6) de)))) (dq (iU (oM aZ a6 a7 gN (pv 4) (c9 (dB rT hr (c9 (pv 6) (c9 (pv 3) (c9 (pv 1) (c9 (pv 2) de))))) de)))))))
   (dq (dE (pv 4)))))),?_⟩
 obtain⟨yv,O,ry⟩:=N.lC (dA (d:=[]) R);refine⟨_,rfl,_,rfl,lW (.of F) (d5 (j:=k) rfl O) ⟨aR _,fun p a=> ?_⟩⟩;have s1:=dz (o:= .lst []) a;have M:=N.VW fB a;refine⟨_,rfl,ta,_,rfl,.of (s1 _ _ F),jR (oR (K:=K) (.of F)) (fun i σ Q=>∃D E r,σ=[some (.ref ta),some (.int (k:Int)),some b,some yv,some (.ref p),D,E]/\dN H Q/\Q p=some (.lst r)/\Paired (vH (fZ S p) Q) r ((A9 t k before).take i)) ⟨none,none,[],rfl,s1,dj,.nil⟩ (by rintro i σ Q ⟨_,_,_,_,s,_⟩;exact s) ?_ ?_⟩
 ·rintro i x σ H1 H2 hi ⟨D,E,r,rfl,s2,m,A⟩ B L ⟨tt,y,rfl,ht,hy⟩;obtain⟨row,I,rr⟩:=M.nv hy;have f:i<t.length:=fX I;have u:t.getD i []=row:=by rw[gDe,I];rfl
  have l:=L _ _ m;have lu:=A.length;rw[aP] at lu;have ec:(A9 t k before)[i]? =some (if i=k then t.getD k [] else mX (t.getD i []) (t.getD k []) k before):=by
   unfold A9;rw[aD,bB f];rfl
  have q:(A9 t k before).take (i+1)=(A9 t k before).take i ++ [if i=k then t.getD k [] else mX (t.getD i []) (t.getD k []) k before]:=by
   rw[bo,ec];rfl
  refine⟨tt,_,rfl,.of ht,rfl,_,_,rfl,_,_,rfl,rfl,?_⟩;refine⟨_,rfl,_,rfl,rfl,_,rfl,?_⟩;rw[nA];by_cases e:i=k
  ·rw[aw (show((i:Nat):Int)=(k:Int) by lia)];refine fz ⟨_,rfl,.inl ⟨rfl,_,.of l⟩,_,rfl,p,_,_,rfl,rfl,l,dI (by lia),_,_,_,rfl,B.over a,dj,?_⟩;have aa:t.getD k []=row:=by rw[<-e];exact u
   rw[q,ai e,aa];exact((A.jw fB L).vI fB (fR (.inr rfl))).kU (fB.off (fB.same rr B) (fR (.inr rfl)))
  ·rw[aA (show ¬((i:Nat):Int)=(k:Int) by lia)];have ac:=fB.same (fB.and ry a) B;have ab:RR (fZ S p) H2:=(dS.same B).and l;refine fF ⟨_,rfl,.inl ⟨rfl,_,.of l⟩,_,rfl,_,rfl,_,rfl,_,rfl,fZ S p,_,_,_,row,_,k,before,rfl,ab,fB.same rr B,ac,hb.same B,?_,?_,?_,?_,fun z H3 X hz=> ?_⟩
   ·rw[<-u,h i f];lia
   ·rw[<-u,h i f,h k R]
   ·rw[<-u,h i f];lia
   ·rw[<-u];exact g i f e
   have J:=X _ _ l;refine⟨p,_,_,rfl,rfl,J,dI (by lia),_,_,_,rfl,(B.trans X).over a,dj,?_⟩;rw[q,ah e,u];exact((A.jw fB (L.trans X)).vI fB (fR (.inr rfl))).kU (fB.off hz (fR (.inr rfl)))
 ·rintro σ H1 ⟨D,E,r,rfl,s2,m,A⟩;have el:(A9 t k before).take tv.length=A9 t k before:=bH (by unfold A9;simp;lia);rw[el] at A;exact⟨_,rfl,kk p r H1 s2 a m (A.RS fB)⟩
def FC:Nat->Nat->List (List (List Int))->List Int->Prop
 |0,_,_,_=>True
 |f+1,k,t,before=>∀c,pK t k (t.length - k)=some c->(∀i,i<t.length->i≠k->Uv ((o9 t c k).getD i []) ((o9 t c k).getD k []) k before)/\FC f (k+1) (A9 (o9 t c k) k before) ((t.getD c []).getD k [])
theorem V2 {x:α}(h:d.length=m+1)(A:d[m]? =some x):Ku d (-1)=some x:=by
 unfold Ku Qz;rw[ah (by decide),ai (by lia)];show d[(-1+(d.length:Int)).toNat]? =_;rw[zPr,h];exact A
theorem V3 (t:List (List (List Int)))(c k):(o9 t c k).length=t.length:=by unfold o9;simp
abbrev vT:Stmt:=top 80
theorem Rk:dD ["rows","table","row","before","k","chosen","taken"] ["rows"] (dk vT):=sco
def Zy(c:Cs)(H:Hp)(Q:VK):Option (List Int×List (List Int))->Prop
 |none=>∀d,dN H d->Q .kY d
 |some s=>∀z d,dN H d->vJ c d z s->Q z d
def Rl(c:Cs):Sp:=fun d H Q _=>∃v rows,d=[v]/\Ui FF H v rows/\rows.length<=900/\(∀i,i<rows.length->(rows.getD i []).length=rows.length+1)/\FC rows.length 0 rows [1]/\Zy c H Q (di.sol rows)
abbrev FD P w K mg base c:=iT P w K mg base "solved" ["rows"] 6 (Rl c)
theorem Rm(T:Txt2 mg)(O:hE K c)(mv:rb P w K mg base)(BR:Ij P w K mg base)(yn:NQ P w K mg base "Solution" c.sol ["self","determinant","tops"] 1 (Aa c.sol))(G:jc K mg "solved" vT ["rows"]):FD P w K mg base c:=by
 have S:=Rk;refine G.jy S ?_;rintro _ _ _ _ s H _ _ _ hr ⟨v,rows,rfl,⟨ra,rv,rfl,_,a1,a0⟩,hl,bl,run,kk⟩;have lr:=a0.length;refine⟨rfl,_,(dh (pI (i:=1) rfl S.nd rfl rfl (sU rfl rfl rfl rfl) (fK (pv 0)) (fC (own:=[("row",2)]) (by show mV ["rows","table","row","before","k","chosen","taken"] (dk vT) _ _=true;decide +kernel)) (fun _ _ _ _ _=>(fk (i:=2) S.nd)) (fun _ _ _ _ _=>gh) (fun _ _ _ _ _=>(A1 (xy K) rfl T.EW ve (c9 (pv 2) de))))
   (dh (dX (i:=3) S.nd (d9 (c9 dC de)))
   (dh (hW PassesOwn.never rfl (o7 rfl T.kn (c9 (eC (eY K) rfl T.g8 eh (c9 (pv 1) de)) de)) (fk (i:=4) S.nd) (dh (dX (i:=5) S.nd (dB mv hr (c9 (pv 1) (c9 (pv 4) de))))
   (dh (fS (Mo (RZ (pv 5))) (dq (dE Iz)) fc)
   (dh (dX (i:=6) S.nd (d8 (jq K) (pv 1) (pv 5) (fun _ _=>rfl)))
   (dh (AV (d8 (jq K) (pv 1) (pv 4) (fun _ _=>rfl)) (AU (pv 1) (pv 5) set_list))
   (dh (AV (pv 6) (AU (pv 1) (pv 4) set_list))
   (dh (dX (i:=1) S.nd (dB BR hr (c9 (pv 1) (c9 (pv 4) (c9 (pv 3) de)))))
   (dq (dX (i:=3) S.nd (d8 (jq K) (pv 6) (pv 4) (fun _ _=>rfl)))))))))))
   (dq (dE (Fw yn hr (c9 (pv 3) (c9 (mO rfl S.nd (fK (pv 1)) (fC (own:=[("row",2)]) (by show mV ["rows","table","row","before","k","chosen","taken"] (dk vT) _ _=true;decide +kernel)) (fun _ _ _ _ _=>(fk (i:=2) S.nd)) (fun _ _ _ _ _=>gh) (fun _ _ _ _ _=>(d8 (jq K) (pv 2) (jb gF dC) (fun _ _=>rfl)))) de)))))))),?_⟩
 refine⟨_,rfl,ra,rfl,⟨_,.of a1⟩,fun D hD=>oC (fL (.of a1)) hD (fun i L acc=>Paired (vH (fZ FF D) L) acc (rows.take i)) .nil ?_ ?_⟩
 ·rintro i x H1 H2 acc hi s1 ah B E bp I hx;obtain⟨row,C,xa,xv,rfl,_,ao,ag⟩:=a0.nv hx;have al:=B.length;refine⟨rfl,⟨_,rfl,xa,_,rfl,.inl (.of (E _ _ ao)),fun q hq=> ?_⟩⟩;have X:=dz (o:= .lst xv) hq;have nq:¬fZ FF D q:=fun h=>h.elim (fun y=>y) (fun y=>by rw[y,I] at hq;cases hq);have a6:Paired (uQ (fZ FF D) H) xv row:=ag.VW gS hD;refine gz hD (E.trans X) (X _ _ I) ?_ ?_
  ·rw[al,aP];exact dI (by lia)
  ·rw[bo,C];refine((B.jw fB (bp.trans X)).vI fB (fR (.inr rfl))).kU (fB.off ⟨q,xv,rfl,nq,dj,?_⟩ (fR (.inr rfl)));exact a6.jw gS (E.trans X)
 ·intro H1 acc s1 ah B;rw[lr,aQ] at B;have al:=B.length;refine⟨dy (by simp),fun q hq=> ?_⟩;have E:=dz (o:= .lst [.int 1]) hq;refine⟨_,rfl,D,_,rfl,.inl (.of (E _ _ ah)),_,rfl,by lia,by lia,?_⟩;have en:((acc.length:Int)).toNat=rows.length:=by lia
  rw[en];refine jR (l6 H _ _) (fun i σ L=>∃p e t b R x4 x5 x6,σ=[some (.ref ra),some (.ref p),none,some R,x4,x5,x6]/\dN H L/\H p=none/\L p=some (.lst e)/\Paired (vH FF L) e t/\fI L R b/\i<=rows.length/\t.length=rows.length/\(∀j,j<t.length->(t.getD j []).length=t.length+1)/\y9 (rows.length - i) i t b=di.sol rows/\FC (rows.length - i) i t b) ⟨D,acc,rows,[1],.ref q,none,none,none,rfl,s1.trans E,hD,E _ _ ah,(B.jw fB E).RS fB,⟨q,rfl,dj⟩,aR _,rfl,bl,rfl,run⟩ (by rintro i σ L ⟨_,_,_,_,_,_,_,_,_,s,_⟩;exact s) ?_ ?_
  ·rintro k x σ H2 H3 hi ⟨p,e,t,b,R,x4,x5,x6,rfl,X,pH,ae,M,g,bm,as,Q,F,ab⟩ s4 aj rfl;obtain⟨m,em⟩:=zEx hi;have ay:rows.length - (k+1)=m:=congrArg Nat.pred em
   rw[em] at F ab;have au:=aj _ _ ae;have an:=M.jw fB aj;have ax:=M.length;have e0:(0:Int)+((k:Nat):Int)=(k:Int):=by lia
   rw[e0];have am:k<t.length:=by lia
   refine⟨_,rfl,_,rfl,_,t,k,rfl,⟨p,e,rfl,fun z=>z,au,an⟩,by lia,by lia,fun r bu=> ?_,fun n l=> ?_⟩
   ·obtain⟨j,u,ej⟩:=br bu;have:=Q j u;rw[gDe,af u] at this;simp only[cW,ej] at this;lia
   cases ac:pK t k (t.length - k) with
   |none=>
    refine⟨_,rfl,_,rfl,?_⟩;refine fz ?_;have:di.sol rows=none:=by
     rw[<-F];unfold y9;rw[ac]
    rw[this] at kk;exact kk n (s4.trans l)
   |some A=>
    obtain⟨c1,c2,c3⟩:=tj t k _ A (by lia) ac;obtain⟨a7,a4⟩:=ab A ac;have a3:y9 m (k+1) (A9 (o9 t A k) k b) ((t.getD A []).getD k [])=di.sol rows:=by
     rw[<-F];show _=match pK t k (t.length - k) with
      |none=>none
      |some c=>y9 m (k+1) (A9 (o9 t c k) k b) ((t.getD c []).getD k [])
     rw[ac]
    refine⟨_,rfl,_,rfl,?_⟩;refine fF ?_;have N:=l _ _ au;have a8:=an.jw fB l;have aa:=VZ N a8;obtain⟨uc,a2,rc⟩:=aa.lC (dA (d:=[]) c2);obtain⟨J,bt,rk⟩:=aa.lC (dA (d:=[]) am);have aq:uQ (fZ FF p) n R b:=by
     obtain⟨ca,_,rfl,_⟩:=id rc;exact BM N (aH a2) ((g.same (aj.trans l)).s)
    refine⟨_,rfl,_,rfl,lW (.of N) (d5 (j:=A) rfl a2) ?_⟩;refine⟨_,rfl,_,rfl,lW (.of N) (d5 (j:=k) rfl bt) ⟨_,rfl,_,rfl,p,_,_,A,rfl,rfl,N,sV rfl (by lia),?_⟩⟩;refine⟨_,rfl,_,rfl,_,rfl,p,_,_,k,rfl,rfl,dj,sV rfl (by rw[cA];lia),?_⟩;rw[n8];have od:Off (fZ FF p) n (upd n p (.lst ((e.set A J).set k uc))):=fR (.inr rfl);have s6:dN H (upd n p (.lst ((e.set A J).set k uc))):=(s4.trans l).over pH;have az:Paired (vH (fZ FF p) (upd n p (.lst ((e.set A J).set k uc)))) ((e.set A J).set k uc) (o9 t A k):=by
     unfold o9;exact((aa.vI fB od).setAt (fB.off rk od) A).setAt (fB.off rc od) k
    have aw:(upd n p (.lst ((e.set A J).set k uc))) p=some (.lst ((e.set A J).set k uc)):=dj;have av:=fB.off rc od;have ad:=gS.off aq od;generalize upd n p (.lst ((e.set A J).set k uc))=H6 at s6 az aw av ad;have sl:=V3 t A k;have ak:∀j,j<t.length->((o9 t A k).getD j []).length=t.length+1:=fun j u=>by
     rw[Dp t A k j c2 am];exact Q _ (qQ c2 am u)
    refine⟨_,rfl,_,rfl,_,rfl,FF,_,_,_,k,b,rfl,fun a h=>h.elim,⟨p,_,rfl,fun z=>z,aw,az.RS fB⟩,ad.at_,by lia,by lia,?_,?_,fun p7 bj H7 s7 bq bs a9=> ?_⟩
    ·intro j u;rw[sl] at u⊢;exact ak j u
    ·intro j u bv;exact a7 j (by lia) bv
    ·obtain⟨ca,cv,rfl,_,bk,bi⟩:=av;have bg:k<(t.getD A []).length:=by rw[Q A c2];lia
     obtain⟨kv,bn,bd⟩:=bi.lC (dA (d:=[]) bg);refine⟨_,rfl,_,rfl,lW (.of (s7 _ _ bk)) (d5 (j:=k) rfl bn) ?_⟩;have cl:(A9 (o9 t A k) k b).length=t.length:=by unfold A9;simp[sl]
     refine⟨p7,bj,_,_,kv,_,_,_,rfl,s6.trans s7,s6.free bq,bs,a9,(gS.same bd s7).at_,by lia,by rw[cl,as],?_,?_,?_⟩
     ·intro j u;rw[cl] at u⊢;rw[OX _ _ _ _ (by lia)];exact ak j u
     ·rw[ay];exact a3
     ·rw[ay];exact a4
  ·rintro σ H2 ⟨p,e,t,b,R,x4,x5,x6,rfl,X,pH,ae,M,g,bm,as,Q,F,ab⟩;have ax:=M.length;rw[cX] at F;have a5:di.sol rows=some (b,t.map fun r=>r.getD (r.length - 1) []):=F.symm;rw[a5] at kk;refine⟨_,rfl,_,rfl,p,rfl,⟨_,.of ae⟩,fun D2 I=>oC (fL (.of ae)) I (fun i L acc=>Paired (uQ (fZ FF D2) L) acc ((t.take i).map fun r=>r.getD (r.length - 1) [])) .nil ?_ ?_⟩
   ·rintro i x H3 n ai hi s4 ar f l bb bc hx;obtain⟨row,C,xa,xv,rfl,_,ao,ag⟩:=M.nv hx;have bf:i<t.length:=fX C;have er:t.getD i []=row:=by rw[gDe,C];rfl
    have bw:row.length=t.length+1:=by rw[<-er];exact Q i bf
    have bx:=ag.length;have ap:=f.length;obtain⟨lv,bh,be⟩:=ag.lC (dA (d:=[]) (show t.length<row.length by lia));refine⟨rfl,⟨_,rfl,_,rfl,xa,_,_,_,rfl,rfl,.of (l _ _ ao),V2 (m:=t.length) (by lia) bh,?_⟩⟩;refine gz I l bc ?_ ?_
    ·rw[ap,lMp,aP];exact dI (by lia)
    ·rw[eX _ _ _ _ C];have e2:row.length - 1=t.length:=by lia
     rw[e2];exact((f.jw gS bb).vI gS (fR (.inr rfl))).kU (gS.off (gS.same (gS.and be I) l) (fR (.inr rfl)))
   ·intro H3 ai s4 ar f;rw[ax,aQ] at f;intro x dx nx nd ne;refine⟨x,dx,R,.ref D2,rfl,dj,fun n k4 ba=>⟨rfl,?_⟩⟩;have l:dN H3 n:=dN.made nx nd k4;exact kk _ _ ((X.trans s4).trans l) ⟨x,dx,R,.ref D2,rfl,ba,g.same (s4.trans l),D2,ai,rfl,fun z=>z,l _ _ ar,(f.RS gS).jw gS l⟩
structure Txt3(mg:Str->Option Value):Prop extends Txt2 mg where
def BS(H:Hp)(Q:VK)(l:List Int):Prop:=∀z d,dN H d->fI d z l->Q z d
theorem BS.of (k:BS H Q l)(s:dN H H1):BS H1 Q l:=fun z A d h=>k z A (s.trans d) h
theorem BS.new (k:BS H Q l):uP H Q l:=fun p d _ s h=>k _ _ s ⟨p,rfl,h⟩
abbrev yo:Stmt:=top 74
theorem LN:dD ["solution","node"] ["solution","node"] (dk yo):=sco
def LO(c:Cs):Sp:=fun d H Q _=>∃v s n,d=[v,.int n]/\vJ c H v s/\n<=s.2.length/\BS H Q (lI s n)
abbrev FE P w K mg base c:=iT P w K mg base "node_top" ["solution","node"] 1 (LO c)
theorem LP(O:hE K c)(G:jc K mg "node_top" yo ["solution","node"]):FE P w K mg base c:=by
 have x:=LN;refine G.jy x ?_;rintro _ _ _ _ _ _ _ _ _ r ⟨v,s,n,rfl,⟨a,S,C,o,rfl,h,q,⟨b,H,rfl,_,l,i⟩⟩,e,k⟩;refine⟨rfl,_,(dq (dE (jQ (e9 uH (pv 1) dC (eO _)) (d8 (jq K) (du K (pv 0) rfl) (eZ jE (pv 1) dC) (fun _ _=>rfl)) (d9 de)))),?_⟩;unfold lI at k;refine⟨_,rfl,j9 ⟨_,rfl,?_⟩⟩;by_cases A:0<n
 ·rw[ai A] at k;rw[aw (show n>0 from A)];obtain⟨u,t,f⟩:=i.lC (dA (d:=[]) (show(n - 1).toNat<s.2.length by lia));exact fz ⟨_,rfl,eH h O.sol.cl (O.sol.at_ 1 rfl) rfl ⟨_,rfl,j9 (lW (.of l) (d5 (j:=(n - 1).toNat) (by lia) t) (k _ _ (.refl _) f.at_))⟩⟩
 ·rw[ah A] at k;rw[aA (show ¬n>0 from A)];exact fF ⟨aR _,fun p B=>k _ _ (dz B) ⟨p,rfl,dj⟩⟩
abbrev rV:Stmt:=top 75
theorem FG:dD ["setting","solution","k"] ["setting","solution","k"] (dk rV):=sco
def FH(c:Cs):Sp:=fun d H Q _=>∃v u g s k,d=[u,v,.int ((k:Nat):Int)]/\vJ c H v s/\oO c H u g/\k<g.eQ.dc.length/\0<=(di.places g.eQ).getD k 0/\(di.places g.eQ).getD k 0<s.2.length/\BS H Q (pO g s k)
abbrev xk P w K mg base c:=iT P w K mg base "current_top" ["setting","solution","k"] 1 (FH c)
theorem FI(O:hE K c)(G:jc K mg "current_top" rV ["setting","solution","k"]):xk P w K mg base c:=by
 have n:=FG;refine G.jy n ?_;rintro _ _ _ _ _ _ _ _ _ F ⟨v,u,g,s,k,rfl,⟨a,I,E,m,rfl,e,L,⟨N,Q,rfl,_,A,i⟩⟩,⟨X,o,p,C,h,H,S,rfl,f,_,_,_,_,⟨M,rfl,l⟩⟩,B,y,z,t⟩;refine⟨rfl,_,(dq (dE (d8 (jq K) (du K (pv 1) rfl) (d8 (jq K) (du K (pv 0) rfl) (pv 2) (fun _ _=>rfl)) (fun _ _=>rfl)))),?_⟩;obtain⟨x,r,b⟩:=i.lC (dA (d:=[]) (show((di.places g.eQ).getD k 0).toNat<s.2.length by lia));have q:k<(di.places g.eQ).length:=by rw[places_len];exact B
 exact⟨_,rfl,eH e O.sol.cl (O.sol.at_ 1 rfl) rfl ⟨_,rfl,eH f O.kK.cl (O.kK.at_ 4 rfl) rfl ⟨_,rfl,lW (.of l) (d5 (j:=k) rfl (jf q)) (lW (.of A) (d5 (j:=((di.places g.eQ).getD k 0).toNat) (by lia) r) (t _ _ (.refl _) b.at_))⟩⟩⟩
def FJ(s:List Int×List (List Int)):Prop:=Short s.1/\∀l∈s.2,Short l
theorem FK (h:FJ s)(n):Short (lI s n):=by
 unfold lI;split
 ·rw[gDe];cases e:s.2[(n - 1).toNat]? with
  |none=>show([]:List Int).length<_;simp
  |some l=>exact h.2 l (aH e)
 ·show([]:List Int).length<_;simp
abbrev nM:Stmt:=top 77
theorem Ac:dD ["solution","first","second"] ["solution","first","second"] (dk nM):=sco
def Ad(c:Cs):Sp:=fun d H Q _=>∃v s x y,d=[v,.int x,.int y]/\vJ c H v s/\FJ s/\x<=s.2.length/\y<=s.2.length/\BS H Q (Dk s x y)
abbrev sJ P w K mg base c:=iT P w K mg base "difference_top" ["solution","first","second"] 4 (Ad c)
theorem Ae(B:FE P w K mg base c)(h:oX P w K mg base)(G:jc K mg "difference_top" nM ["solution","first","second"]):sJ P w K mg base c:=by
 have t:=Ac;refine G.jy t ?_;rintro _ _ _ _ _ _ _ _ _ A ⟨v,s,x,y,rfl,i,d,a,b,k⟩;refine⟨rfl,_,(dq (dE (dB h A (c9 (dB B A (c9 (pv 0) (c9 (pv 1) de))) (c9 (dB B A (c9 (pv 0) (c9 (pv 2) de))) de))))),?_⟩;refine⟨_,rfl,_,rfl,_,s,x,rfl,i,a,fun u p f q=> ?_⟩;refine⟨_,rfl,_,rfl,_,s,y,rfl,i.same f,b,fun r n l e=> ?_⟩;exact⟨_,_,_,_,rfl,q.same l,e,FK d x,FK d y,(k.of (f.trans l)).new⟩
abbrev rW:Stmt:=top 76
theorem FL:dD ["setting","solution","k","part"] ["setting","solution","k"] (dk rW):=sco
def FN(c:Cs):Sp:=fun d H Q _=>∃v u g s k,d=[u,v,.int ((k:Nat):Int)]/\vJ c H v s/\FJ s/\oO c H u g/\k<g.eQ.dc.length/\(pat g k).a<=s.2.length/\(pat g k).b<=s.2.length/\BS H Q (qP g s k)
abbrev xm P w K mg base c:=iT P w K mg base "voltage_top" ["setting","solution","k"] 5 (FN c)
theorem FO(O:hE K c)(o:sJ P w K mg base c)(G:jc K mg "voltage_top" rW ["setting","solution","k"]):xm P w K mg base c:=by
 have B:=FL;refine G.jy B ?_;rintro _ _ _ _ _ _ _ _ _ a ⟨v,u,g,s,k,rfl,H,h,⟨X,F,C,N,n,m,I,rfl,e,⟨M,y,L,rfl,f,D,Q,rfl,l,t⟩,_⟩,b,q,r,p⟩;refine⟨rfl,_,(dh (dX (i:=3) B.nd (d8 (jq K) (du K (du K (pv 0) rfl) rfl) (pv 2) (fun _ _=>rfl)))
   (dq (dE (dB o a (c9 (pv 1) (c9 (du K (pv 3) rfl) (c9 (du K (pv 3) rfl) de))))))),?_⟩
 obtain⟨x,S,E,z,rfl,A⟩:=t.lC (dA (d:=p0) b);refine⟨_,rfl,eH e O.kK.cl (O.kK.at_ 0 rfl) rfl (eH f O.eQ.cl (O.eQ.at_ 1 rfl) rfl ⟨_,rfl,lW (.of l) (d5 (j:=k) rfl S) ?_⟩)⟩;exact⟨_,rfl,_,rfl,eH A O.part.cl (O.part.at_ 1 rfl) rfl ⟨_,rfl,eH A O.part.cl (O.part.at_ 2 rfl) rfl ⟨_,s,_,_,rfl,H,h,q,r,p⟩⟩⟩
def UU(H:Hp):V->Int×Int->Prop:=fun u x=>∃t,u= .ref t/\H t=some (.tup [.int x.1,.int x.2])
theorem UU.same (h:UU H v x)(s:dN H d):UU d v x:=by obtain⟨t,e,q⟩:=h;exact⟨t,e,s _ _ q⟩
theorem UU.over (h:UU H v x)(A:H D=some (.lst d)):UU (upd H D (.lst l)) v x:=let ⟨t,e,q⟩:=h;⟨t,e,by rw[dY (Ki q A (by intro z;cases z))];exact q⟩
abbrev kr:Stmt:=top 58
theorem Af:dD ["network","states","source","drives","k"] ["network","states","source"] (dk kr):=sco
def XZ:Rp (List Bool):=fun S H v l=>∃a,v= .ref a/\¬S a/\H a=some (.lst (l.map V.bl))
theorem xn:Good XZ where
 off:=by rintro _ _ _ _ _ ⟨a,e,hs,h⟩ o;exact⟨a,e,hs,o a _ hs h⟩
 Bj:=by rintro _ _ _ _ _ ⟨a,e,hs,h⟩ w;exact⟨a,e,(fun q=>(w a q).elim hs fun z=>(by rw[h] at z;cases z)),h⟩
abbrev aax:Rp (List (List Bool)):=Q8 XZ
theorem XZ.at_ (h:XZ S H v l):zQ H v l:=by obtain⟨a,e,_,q⟩:=h;exact⟨a,e,q⟩
noncomputable def oJ(p:di.Part)(rs:List (List Bool)):List (List Bool):=rs.flatMap fun row=>if p.kind=13 then[row ++ [false],row ++ [true]] else[row ++ [false]]
theorem xo:∀(l:List di.Part) (p:di.Part) (rs:List (List Bool)),fg (l ++ [p]) rs=oJ p (fg l rs)
 |[],p,rs=>rfl
 |q::l,p,rs=>xo l p _
theorem CG (p)(rs)(r):oJ p (rs ++ [r])=oJ p rs ++ (if p.kind=13 then[r ++ [false],r ++ [true]] else[r ++ [false]]):=by
 unfold oJ;rw[cM];simp
theorem yq (p):∀rs:List (List Bool),(oJ p rs).length<=2*rs.length
 |[]=>aj _
 |r::rs=>by
  have:=yq p rs;have e:oJ p (r::rs)=(if p.kind=13 then[r ++ [false],r ++ [true]] else[r ++ [false]]) ++ oJ p rs:=by
   unfold oJ;rw[bP]
  have d:(if p.kind=13 then[r ++ [false],r ++ [true]] else[r ++ [false]]).length<=2:=by split <;>simp
  rw[e,aJ,ak];lia
theorem NX (p)(m)(rs)(h:∀r∈rs,r.length=m):∀r∈oJ p rs,r.length=m+1:=fun r d=>by
 obtain⟨q,A,e⟩:=cP.mp d;have:=h q A;split at e
 ·rcases aL.mp e with rfl |e
  ·simp[this]
  ·rw[aE.mp e];simp[this]
 ·rw[aE.mp e];simp[this]
theorem Ag:∀(l:List di.Part) (m:Nat) (rs:List (List Bool)),(∀r∈rs,r.length=m)->∀r∈fg l rs,r.length=m+l.length
 |[],m,rs,h,r,d=>h r d
 |p::l,m,rs,h,r,d=>by
  have:=Ag l (m+1) _ (NX p m rs h) r d;rw[this,ak];lia
theorem Ah:∀(l:List di.Part) (rs:List (List Bool)),(fg l rs).length<=2^l.length*rs.length
 |[],rs=>by simp[fg]
 |p::l,rs=>by
  have A:=Ah l (oJ p rs);have d:=yq p rs;refine aB A (aB (b8 _ d) ?_);rw[ak,Nat.pow_succ,Nat.mul_assoc];exact aj _
theorem LQ (h:n<=10):2^n<=1024:=bA (n:=2) (by decide) h
abbrev nO:Stmt:=top 87
theorem Ai:dD ["parts","rows","part","longer","row"] ["parts"] (dk nO):=sco
def Aj(c:Cs):Sp:=fun l H Q _=>∃v d,l=[v]/\oY c H v d/\d.length<=10/\∀z A,dN H A->aax FF A z (fg d [[]])->Q z A
abbrev sL P w K mg base c:=iT P w K mg base "rows_of_states" ["parts"] 1 (Aj c)
theorem Ak(T:Txt2 mg)(O:hE K c)(G:jc K mg "rows_of_states" nO ["parts"]):sL P w K mg base c:=by
 have m:=Ai;refine G.jy m ?_;rintro _ _ _ _ s H _ _ _ hr ⟨v,d,rfl,⟨pa,ws,rfl,ad,al⟩,hl,kk⟩;have ll:=al.length;refine⟨rfl,_,(dh (dX (i:=1) m.nd (d9 (c9 (d9 de) de)))
   (dh (hW PassesOwn.never rfl (fK (pv 0)) (fk (i:=2) m.nd) (dh (dX (i:=3) m.nd (d9 de))
   (dh (hW PassesOwn.never rfl (fK (pv 1)) (fk (i:=4) m.nd) (dh (iU (oM aZ a6 a7 gN (pv 3) (c9 (eZ A2 (pv 4) (d9 (c9 uY de))) de)))
   (dq (fS (e9 iV (du K (pv 2) rfl) (gc T.wF) (eO _)) (dq (iU (oM aZ a6 a7 gN (pv 3) (c9 (eZ A2 (pv 4) (d9 (c9 uY de))) de)))) fc))))
   (dq (dX (i:=1) m.nd (pv 3))))))
   (dq (dE (pv 1))))),?_⟩
 refine⟨dy (by simp),fun q hq=> ?_⟩;have s1:=dz (o:= .lst []) hq;refine⟨dy (by simp),fun r F=> ?_⟩;have s2:=s1.trans (dz (o:= .lst [.ref q]) F);have ax:q≠r:=fun e=>by rw[<-e,dj] at F;cases F
 have lim:∀i,i<=d.length->(fg (d.take i) [[]]).length<=1024:=fun i hi=>by
  have:=Ah (d.take i) [[]];have h2:=LQ (n:=(d.take i).length) (by rw[aP];lia);simp only[ak,bT,Nat.zero_add,Nat.mul_one] at this;lia
 refine⟨_,rfl,pa,rfl,⟨_,.of (s2 _ _ ad)⟩,jR (fL (K:=K) (.of ad)) (fun i σ B=>∃p D x2 x3 x4,σ=[some (.ref pa),some (.ref p),x2,x3,x4]/\dN H B/\H p=none/\B p=some (.lst D)/\Paired (XZ FF B) D (fg (d.take i) [[]])) ?_ (by rintro i σ B ⟨_,_,_,_,_,_,s,_⟩;exact s) ?_ ?_⟩
 ·refine⟨r,_,none,none,none,rfl,s2,s1.free F,dj,.cons ⟨q,rfl,fun z=>z,?_⟩ .nil⟩;rw[dY ax,dj];rfl
 ·rintro i x σ H1 H2 hi ⟨p,D,x2,x3,x4,rfl,s3,pH,I,a⟩ s4 af hx;obtain⟨pt,az,pr⟩:=al.nv hx;have a2:i<d.length:=by lia
  have ac:=af _ _ I;have am:=a.jw xn af;have lu:=a.length;have li:=lim i (by lia);have ap:∀r∈fg (d.take i) [[]],r.length<=1000:=fun r hr=>by
   have:=Ag (d.take i) 0 [[]] (by simp) r hr;rw[aP] at this;lia
  refine⟨aR _,fun l u=> ?_⟩;have s5:=dz (o:= .lst []) u;refine⟨_,rfl,p,rfl,⟨_,.of (s5 _ _ ac)⟩,jR (fL (K:=K) (.of ac)) (fun j σ B=>∃y4 f,σ=[some (.ref pa),some (.ref p),some x,some (.ref l),y4]/\dN H2 B/\B l=some (.lst f)/\Paired (XZ (fZ FF l) B) f (oJ pt ((fg (d.take i) [[]]).take j))) ?_ (by rintro i σ B ⟨_,_,_,s,_⟩;exact s) ?_ ?_⟩
  ·exact⟨_,[],rfl,s5,dj,.nil⟩
  ·rintro j y σ H3 R hj ⟨y4,f,rfl,s6,L,k⟩ s7 ab hy;obtain⟨row,ag,ra,rfl,_,aj⟩:=am.nv hy;have M:=ab _ _ L;have ao:=s7 _ _ aj;have a0:=ap row (aH ag);have a1:=k.length;have lst:=yq pt ((fg (d.take i) [[]]).take j);rw[aP] at lst;have et:(fg (d.take i) [[]]).take (j+1)=(fg (d.take i) [[]]).take j ++ [row]:=by
    rw[bo,ag];rfl
   obtain⟨pb,ar,rfl,aa⟩:=pr.same (s4.trans s7);refine⟨_,rfl,.inl ⟨rfl,_,.of M⟩,_,rfl,dy (by simp),fun E as=> ?_⟩;have s8:=dz (o:= .lst [.bl false]) as;refine⟨ra,E,_,_,rfl,rfl,s8 _ _ ao,dj,dy (by simp;lia),fun A X=> ?_⟩;have J:=s8.trans (dz (o:= .lst (row.map V.bl ++ [.bl false])) X);have ae:=J _ _ M;have au:¬fZ FF l A:=fun h=>h.elim (fun z=>z) (fun e=>by rw[e,s8 _ _ M] at X;cases X);refine⟨l,_,_,rfl,rfl,ae,dI (by lia),?_⟩;have C:=(s7.trans J).over (o:= .lst (f ++ [.ref A])) u;have hB:Paired (XZ (fZ FF l) (upd (upd (upd R E (.lst [.bl false])) A (.lst (row.map V.bl ++ [.bl false]))) l (.lst (f ++ [.ref A])))) (f ++ [.ref A]) (oJ pt ((fg (d.take i) [[]]).take j) ++ [row ++ [false]]):=by
    refine((k.jw xn (ab.trans J)).vI xn (fR (.inr rfl))).kU (xn.off ⟨A,rfl,au,?_⟩ (fR (.inr rfl)));rw[dj,bC];rfl
   have t:(upd (upd (upd R E (.lst [.bl false])) A (.lst (row.map V.bl ++ [.bl false]))) l (.lst (f ++ [.ref A]))) l=some (.lst (f ++ [.ref A])):=dj;have N:(upd (upd (upd R E (.lst [.bl false])) A (.lst (row.map V.bl ++ [.bl false]))) l (.lst (f ++ [.ref A]))) pb=some (.ins c.part ar (Uk pt)):=by
    rw[dY (Ki (J _ _ aa) ae (by intro z;cases z))];exact J _ _ aa
   generalize upd (upd (upd R E (.lst [.bl false])) A (.lst (row.map V.bl ++ [.bl false]))) l (.lst (f ++ [.ref A]))=H5 at C hB t N;refine⟨_,rfl,eH N O.part.cl (O.part.at_ 0 rfl) rfl ⟨rfl,_,rfl,?_⟩⟩;rw[nA];by_cases S:pt.kind=13
   ·rw[aw S];have an:=C _ _ aj;refine fz ⟨_,rfl,.inl ⟨rfl,_,.of t⟩,_,rfl,dy (by simp),fun m3 ay=> ?_⟩;have Q:=dz (o:= .lst [.bl true]) ay;refine⟨ra,m3,_,_,rfl,rfl,Q _ _ an,dj,dy (by simp;lia),fun m4 g=> ?_⟩;have b:=Q.trans (dz (o:= .lst (row.map V.bl ++ [.bl true])) g);have av:=b _ _ t;have aq:¬fZ FF l m4:=fun h=>h.elim (fun z=>z) (fun e=>by rw[e,Q _ _ t] at g;cases g);refine⟨l,_,_,rfl,rfl,av,dI (by simp;lia),_,_,rfl,(C.trans b).over u,dj,?_⟩;rw[et,CG,ai S,List.append_cons _ _ [_]];refine((hB.jw xn b).vI xn (fR (.inr rfl))).kU (xn.off ⟨m4,rfl,aq,?_⟩ (fR (.inr rfl)));rw[dj,bC];rfl
   ·rw[aA S];refine fF ⟨_,_,rfl,C,t,?_⟩;rw[et,CG,ah S];exact hB
  ·rintro σ H3 ⟨y4,f,rfl,s6,L,k⟩;rw[lu,aQ] at k;refine⟨_,rfl,l,f,_,_,_,rfl,s4.trans s6,s4.free u,L,?_⟩;rw[bo,az];show Paired _ _ (fg (d.take i ++ [pt]) [[]]);rw[xo];exact k.RS xn
 ·rintro σ H1 ⟨p,D,x2,x3,x4,rfl,s3,pH,I,a⟩;rw[ll,aQ] at a;exact⟨_,rfl,kk _ _ s3 ⟨p,D,rfl,fun z=>z,I,a⟩⟩
theorem Sz.prod (d:Sz m a)(A:Sz n b):Sz (m+n) (a*b):=by
 unfold Sz at *;rw[cn,Nat.pow_add];exact Nat.mul_lt_mul'' d A
theorem aay {i:Nat}(h:p i=true):[i].filter p=[i]:=by simp[h]
theorem aaz {i:Nat}(h:p i=false):[i].filter p=[]:=by simp[h]
structure Uw(g:mY)(s:List Int×List (List Int))(k:Nat):Prop where
 kl:k<g.eQ.dc.length
 st:g.gZ.length=g.eQ.dc.length
 p0:0<=(di.places g.eQ).getD k 0
 p1:(di.places g.eQ).getD k 0<s.2.length
 a:(pat g k).a<=s.2.length
 b:(pat g k).b<=s.2.length
 sh:FJ s
 zd:Sz 8000 (fA s.1)
 zc:Sz 8000 (fA (pO g s k))
 zv:Sz 8000 (fA (qP g s k))
 zt:Sz 64 (pat g k).top
 zb:Sz 64 (pat g k).dG
abbrev qr:Stmt:=top 89
theorem CW:dD ["setting","solution","k","part","determinant","voltage"] ["setting","solution","k"] (dk qr):=sco
def CY(c:Cs):Sp:=fun A H Q _=>∃v u g s k,A=[u,v,.int ((k:Nat):Int)]/\vJ c H v s/\oO c H u g/\Uw g s k/\∀d,dN H d->Q (.bl (xD g s k)) d
abbrev vU P w K mg base c:=iT P w K mg base "diode_agrees" ["setting","solution","k"] 6 (CY c)
theorem CZ(O:hE K c)(o:xc P w K mg base)(E:xk P w K mg base c)(L:xm P w K mg base c)(G:jc K mg "diode_agrees" qr ["setting","solution","k"]):vU P w K mg base c:=by
 have h:=CW;refine G.jy h ?_;rintro _ _ _ _ _ _ _ _ _ A ⟨v,u,g,s,k,rfl,p,n,ok,l⟩;obtain⟨sa,ae,vd,vt,rfl,C,N,_⟩:=id p;obtain⟨ga,R,D,af,I,ab,ac,rfl,t,⟨na,J,ad,rfl,y,pa,ws,rfl,H,m⟩,_,⟨T,rfl,r⟩,_,_⟩:=id n;refine⟨rfl,_,(dh (dX (i:=3) h.nd (d8 (jq K) (du K (du K (pv 0) rfl) rfl) (pv 2) (fun _ _=>rfl)))
   (dh (dX (i:=4) h.nd (dB o A (c9 (du K (pv 1) rfl) de)))
   (dh (fS (fG K (d8 (jq K) (du K (pv 0) rfl) (pv 2) (fun _ _=>rfl)) (fun _=>rfl)) (dq (dE (gY R6 (eZ iA (dB o A (c9 (dB E A (c9 (pv 0) (c9 (pv 1) (c9 (pv 2) de)))) de)) (pv 4)) dC (eO _)))) fc)
   (dh (dX (i:=5) h.nd (dB o A (c9 (dB L A (c9 (pv 0) (c9 (pv 1) (c9 (pv 2) de)))) de)))
   (dq (dE (gY u4 (eZ iA (eZ iA (pv 5) (pv 4)) (du K (pv 3) rfl)) (eZ iA (eZ iA (du K (pv 3) rfl) (pv 4)) (pv 4)) (eO _)))))))),?_⟩
 obtain⟨x,X,pb,aa,rfl,S⟩:=m.lC (dA (d:=p0) ok.kl);have M:(g.gZ.map V.bl)[k]? =some (V.bl (g.gZ.getD k false)):=by
  rw[aD,dA (d:=false) (by have:=ok.st;have:=ok.kl;lia)];rfl
 unfold xD at l;refine⟨_,rfl,eH t O.kK.cl (O.kK.at_ 0 rfl) rfl (eH y O.eQ.cl (O.eQ.at_ 1 rfl) rfl ⟨_,rfl,lW (.of H) (d5 (j:=k) rfl X) ?_⟩)⟩;refine⟨_,rfl,eH C O.sol.cl (O.sol.at_ 0 rfl) rfl ⟨_,_,rfl,N,?_⟩⟩;refine⟨_,rfl,eH t O.kK.cl (O.kK.at_ 2 rfl) rfl ⟨_,rfl,lW (.of r) (d5 (j:=k) rfl M) ⟨_,rfl,?_⟩⟩⟩;by_cases e:g.gZ.getD k false=true
 ·rw[e];simp only[e,if_true] at l;refine fz ⟨_,rfl,_,rfl,_,rfl,_,_,g,s,k,rfl,p,n,ok.kl,ok.p0,ok.p1,fun z Q B q=> ?_⟩;exact⟨_,_,rfl,q,_,rfl,j9 ⟨ok.zc.mul ok.zd (by decide),_,_,rfl,rfl,l _ B⟩⟩
 ·have F:g.gZ.getD k false=false:=by simpa using e
  rw[F];simp only[F,if_false,Bool.false_eq_true] at l;refine fF ⟨_,rfl,_,rfl,_,rfl,_,_,g,s,k,rfl,p,ok.sh,n,ok.kl,ok.a,ok.b,fun z Q B q=> ?_⟩;refine⟨_,_,rfl,q,?_⟩;have f:=B _ _ S;exact⟨_,rfl,_,rfl,j9 ⟨ok.zv.mul ok.zd (by decide),_,rfl,eH f O.part.cl (O.part.at_ 6 rfl) rfl (j9 ⟨(ok.zv.prod ok.zd).mul ok.zb (by decide),_,rfl,eH f O.part.cl (O.part.at_ 5 rfl) rfl ⟨_,rfl,j9 ⟨ok.zt.mul ok.zd (by decide),_,rfl,j9 ⟨(ok.zt.prod ok.zd).mul ok.zd (by decide),_,_,rfl,rfl,l _ B⟩⟩⟩⟩)⟩⟩
abbrev jo:Stmt:=top 88
theorem wR:dD ["setting","solution","parts","k"] ["setting","solution"] (dk jo):=sco
def wU(c:Cs):Sp:=fun A H Q _=>∃v u g s,A=[u,v]/\vJ c H v s/\oO c H u g/\g.eQ.dc.length<=1000/\(∀k,k<g.eQ.dc.length->(pat g k).kind=13->Uw g s k)/\∀d,dN H d->Q (.bl (jS g s)) d
abbrev qt P w K mg base c:=iT P w K mg base "all_diodes_agree" ["setting","solution"] 7 (wU c)
theorem wV(T:Txt2 mg)(O:hE K c)(m:vU P w K mg base c)(G:jc K mg "all_diodes_agree" jo ["setting","solution"]):qt P w K mg base c:=by
 have B:=wR;refine G.jy B ?_;rintro _ _ _ _ _ H _ _ _ z ⟨v,u,g,s,rfl,M,r,hl,ok,L⟩;obtain⟨ga,aa,J,ag,I,ac,ad,rfl,C,⟨na,R,ae,rfl,p,X,F,rfl,h,a⟩,_⟩:=id r;have ll:=a.length;refine⟨rfl,_,(dh (dX (i:=2) B.nd (du K (du K (pv 0) rfl) rfl))
   (dq (dE (eC (IQ K rfl) rfl T.Lu xA (c9 (mO rfl B.nd (o7 rfl T.kn (c9 (eC (eY K) rfl T.g8 eh (c9 (pv 2) de)) de)) (fC (own:=[("k",3)]) (by show mV ["setting","solution","parts","k"] (dk jo) _ _=true;decide +kernel)) (fun _ _ _ _ _=>(fk (i:=3) B.nd)) (fun _ _ _ _ _=>(IM (e9 iV (du K (d8 (jq K) (pv 2) (pv 3) (fun _ _=>rfl)) rfl) (gc T.wF) (eO _)))) (fun _ _ _ _ _=>(dB m z (c9 (pv 0) (c9 (pv 1) (c9 (pv 3) de)))))) de))))),?_⟩
 refine⟨_,rfl,eH C O.kK.cl (O.kK.at_ 0 rfl) rfl (eH p O.eQ.cl (O.eQ.at_ 1 rfl) rfl ?_)⟩;refine⟨_,rfl,X,_,rfl,.inl (.of h),_,rfl,by lia,by lia,fun D o=>oC (l6 H 0 _) o (fun i _ acc=>acc=(((List.range i).filter fun k=>decide ((g.eQ.dc.getD k p0).kind=13)).map fun k=>V.bl (xD g s k))) rfl ?_ ?_⟩
 ·rintro i x E H2 acc hi S e A f af t rfl;have q:i<g.eQ.dc.length:=by lia
  obtain⟨y,N,pb,ab,rfl,n⟩:=a.lC (dA (d:=p0) q);have lf:acc.length<=i:=by
   rw[A,lMp];exact aB (cR _ _) (by simp)
  rw[Int.zero_add];refine⟨rfl,⟨_,rfl,_,rfl,lW (.of (f _ _ h)) (d5 (j:=i) rfl N) (eH (f _ _ n) O.part.cl (O.part.at_ 0 rfl) rfl ⟨rfl,_,rfl,?_⟩)⟩⟩;rw[nA];by_cases l:(g.eQ.dc.getD i p0).kind=13
  ·rw[aw l];refine fz ⟨_,rfl,_,rfl,_,rfl,_,_,g,s,i,rfl,M.same f,r.same f,ok i q l,fun H3 b=> ?_⟩;refine gz o (f.trans b) (b _ _ t) (dI (by lia)) ?_;rw[A,bX,cj,bC,aay (aw l)];rfl
  ·rw[aA l];refine fF ⟨f,acc,t,?_⟩;rw[A,bX,cj,bC,aaz (aA l)];simp
 ·intro E acc S e A;have Q:((F.length:Int)).toNat=g.eQ.dc.length:=by lia
  rw[Q] at A;refine⟨D,((List.range g.eQ.dc.length).filter fun k=>decide ((g.eQ.dc.getD k p0).kind=13)).map (xD g s),rfl,.of ?_,?_⟩
  ·rw[e,A,aN];rfl
  ·have:=L _ S;unfold jS at this;rw[List.all_map];exact this
def aaA(c:Cs)(H:Hp)(v:V)(pt:List Bool×(List Int×List (List Int))):Prop:=∃a l d A,v= .ref a/\H a=some (.ins c.pt l (ptF d A))/\zQ H d pt.1/\vJ c H A pt.2
structure Qj(g:mY):Prop where
 sok:ZO g
 l0:0<=g.eQ.last
 l1:g.eQ.last<=100
 nin:JR g.eQ
 lin:∀k,k<g.eQ.dc.length->Qi g k
 rin:Us g
 len:(di.rows g).length<=900
 Bj:∀i,i<(di.rows g).length->((di.rows g).getD i []).length=(di.rows g).length+1
 run:FC (di.rows g).length 0 (di.rows g) [1]
noncomputable def oy(n:Nw)(st:List Bool):mY:=⟨n,[],st,n.dc.map fun p=>(p.top,p.dG)⟩
structure X3(n:Nw):Prop where
 dc:n.dc.length<=10
 kK:∀st∈fg n.dc [[]],Qj (oy n st)
 agr:∀st∈fg n.dc [[]],∀s,di.sol (di.rows (oy n st))=some s->∀k,k<n.dc.length->(pat (oy n st) k).kind=13->Uw (oy n st) s k
def aaB(c:Cs)(H:Hp)(Q:VK):Option (List Bool×(List Int×List (List Int)))->Prop
 |none=>∀d,dN H d->Q .kY d
 |some s=>∀z d,dN H d->aaA c d z s->Q z d
abbrev jN:Stmt:=top 86
theorem yr:dD ["network","own","part","states","setting","solution"] ["network"] (dk jN):=sco
def yt(c:Cs):Sp:=fun d H Q _=>∃v n,d=[v]/\uL c H v n/\X3 n/\aaB c H Q (di.point n)
abbrev rd P w K mg base c:=iT P w K mg base "operating_point" ["network"] 8 (yt c)
theorem yu(T:Txt2 mg)(O:hE K c)(nP:sL P w K mg base c)(pC:NQ P w K mg base "Setting" c.kK ["self","network","s","states","drives"] 3 (vS c))(nQ:yh P w K mg base c)(sM:FD P w K mg base c)(lS:qt P w K mg base c)(nR:NQ P w K mg base "OperatingPoint" c.pt ["self","states","solution"] 1 (qk c.pt))(G:jc K mg "operating_point" jN ["network"]):rd P w K mg base c:=by
 have C:=yr;refine G.jy C ?_;rintro _ _ _ _ _ _ _ _ _ H ⟨v,n,rfl,hn,ok,J⟩;obtain⟨na,a1,a6,rfl,aj,pa,ws,rfl,j,X⟩:=id hn;have ll:=X.length;have aw:=ok.dc;refine⟨rfl,_,(dh (pI (i:=1) rfl C.nd rfl rfl (sU rfl rfl rfl rfl) (fK (du K (pv 0) rfl)) (fC (own:=[("part",2)]) (by show mV ["network","own","part","states","setting","solution"] (dk jN) _ _=true;decide +kernel)) (fun _ _ _ _ _=>(fk (i:=2) C.nd)) (fun _ _ _ _ _=>gh) (fun _ _ _ _ _=>(hX (c9 (du K (pv 2) rfl) (c9 (du K (pv 2) rfl) de)))))
   (dh (hW PassesOwn.never rfl (fK (dB nP H (c9 (du K (pv 0) rfl) de))) (fk (i:=3) C.nd) (dh (dX (i:=4) C.nd (Fw pC H (c9 (pv 0) (c9 (d9 de) (c9 (pv 3) (c9 (pv 1) de))))))
   (dh (dX (i:=5) C.nd (dB sM H (c9 (dB nQ H (c9 (pv 4) de)) de)))
   (dq (fS (PW.pt (Mq (Mo (UZ (pv 5))) (IB (fG K (dB lS H (c9 (pv 4) (c9 (pv 5) de))) (fun _=>rfl))))) (dq (dE (Fw nR H (c9 (pv 3) (c9 (pv 5) de))))) fc)))))
   (dq (dE Iz)))),?_⟩
 refine⟨_,rfl,eH aj O.eQ.cl (O.eQ.at_ 1 rfl) rfl ⟨pa,rfl,⟨_,.of j⟩,fun D hD=>oC (fL (.of j)) hD (fun i H' acc=>Paired (UU H') acc ((n.dc.take i).map fun p=>(p.top,p.dG))) .nil ?_ ?_⟩⟩
 ·rintro i x H1 H2 acc hi M ab l y r E hx;obtain⟨p,hp,pb,a2,rfl,au⟩:=X.nv hx;have la:=l.length;rw[lMp,aP] at la;have Q:=y _ _ au;refine⟨rfl,⟨_,rfl,eH Q O.part.cl (O.part.at_ 5 rfl) rfl ⟨_,rfl,eH Q O.part.cl (O.part.at_ 6 rfl) rfl ⟨dy (by simp),fun q hq=> ?_⟩⟩⟩⟩;have B:=dz (o:= .tup [.int p.top,.int p.dG]) hq;refine gz hD (y.trans B) (B _ _ E) (dI (by lia)) ?_;rw[eX _ _ _ _ hp];exact(l.h9 fun _ _ q=>(q.same (r.trans B)).over (B _ _ E)).kU (UU.over ⟨q,rfl,dj⟩ (B _ _ E))
 ·intro H1 acc M ab l;rw[ll,aQ] at l;have ar:Ih H1 (.ref D) (n.dc.map fun p=>(p.top,p.dG)):=⟨D,acc,rfl,ab,l⟩;refine⟨_,rfl,eH (M _ _ aj) O.eQ.cl (O.eQ.at_ 1 rfl) rfl ⟨_,n.dc,rfl,⟨pa,ws,rfl,M _ _ j,X.h9 fun _ _ z=>z.same M⟩,aw,fun z H2 y hz=> ?_⟩⟩;obtain⟨ra,us,rfl,_,an,am⟩:=hz;have r:=M.trans y;have lu:=am.length;refine⟨ra,rfl,⟨_,.of an⟩,jR (fL (K:=K) (.of an)) (fun i σ H'=>∃x2 x3 x4 x5,σ=[some (.ref na),some (.ref D),x2,x3,x4,x5]/\dN H2 H'/\i<=us.length/\n9 n ((fg n.dc [[]]).drop i)=di.point n) ⟨none,none,none,none,rfl,.refl _,aR _,rfl⟩ (by rintro i σ H' ⟨_,_,_,_,_,s,_⟩;exact s) ?_ ?_⟩
  ·rintro i x σ H3 H4 hi ⟨x2,x3,x4,x5,rfl,B,az,k⟩ S a4 hx;obtain⟨d,ak,rx⟩:=am.nv hx;have m:=aH ak;have f:=ok.kK d m;have g:(fg n.dc [[]]).drop i=d::(fg n.dc [[]]).drop (i+1):=by
    obtain⟨ax,e⟩:=bD.mp ak;rw[cY ax,e]
   rw[g] at k;have A:(match di.sol (di.rows (oy n d)) with
    |none=>n9 n ((fg n.dc [[]]).drop (i+1))
    |some s=>if jS (oy n d) s=true then some (d,s) else n9 n ((fg n.dc [[]]).drop (i+1)))=di.point n:=k
   have ae:=r.trans S;refine⟨_,rfl,aR _,fun q hq=> ?_⟩;have R:=dz (o:= .lst []) hq;refine⟨_,rfl,_,rfl,fun ox dx nx nd ne=> ?_⟩;have s6:=ae.trans R;have ap:zQ (upd H4 q (.lst [])) x d:=(xn.same rx (S.trans R)).at_;refine⟨_,ox,dx,_,_,_,_,oy n d,rfl,dj,dN.made nx nd (fun b o h _=>h),nx,hn.same s6,⟨q,rfl,dj⟩,ap,ar.same ((y.trans S).trans R),by show n.dc.length<=1000;lia,fun H5 s7 hg=>⟨rfl,?_⟩⟩;have ac:=R.trans s7;refine⟨_,rfl,_,oy n d,rfl,hg,f.sok,f.l0,f.l1,f.nin,f.lin,f.rin,fun z6 H6 s8 aa=> ?_⟩;refine⟨_,_,rfl,Qb.less aa (fun a h=>h.elim),f.len,f.Bj,f.run,?_⟩;cases I:di.sol (di.rows (oy n d)) with
   |none=>
    rw[I] at A;intro H7 s9;refine⟨_,rfl,_,rfl,?_⟩;refine fF (fF ⟨_,_,_,_,rfl,((S.trans ac).trans s8).trans s9,by lia,A⟩)
   |some t=>
    rw[I] at A;intro z7 H7 s9 N;have ag:=ok.agr d m t I;obtain⟨za,a0,a3,a5,rfl,a8,_⟩:=id N;refine⟨_,rfl,_,rfl,?_⟩;refine fz ⟨_,rfl,_,rfl,_,_,oy n d,t,rfl,N,hg.same (s8.trans s9),by show n.dc.length<=1000;lia,ag,fun H8 af=> ?_⟩;have F:dN H4 H8:=((ac.trans s8).trans s9).trans af;refine⟨_,rfl,?_⟩;by_cases u:jS (oy n d) t=true
    ·rw[u];have aq:some (d,t)=di.point n:=by
      rw[<-A];show _=if jS (oy n d) t=true then _ else _;rw[ai u]
     rw[<-aq] at J;refine fz ⟨_,rfl,_,rfl,fun ad al ay av a7=>⟨ad,al,_,_,rfl,dj,fun H9 k9 as=>⟨rfl,?_⟩⟩⟩;have L:dN H8 H9:=dN.made ay av k9;exact J _ _ (ae.trans (F.trans L)) ⟨ad,al,x,_,rfl,as,(xn.same rx (S.trans (F.trans L))).at_,N.same (af.trans L)⟩
    ·have ao:jS (oy n d) t=false:=by simpa using u
     rw[ao];refine fF ⟨_,_,_,_,rfl,S.trans F,by lia,?_⟩;rw[<-A];show _=if jS (oy n d) t=true then _ else _;rw[ah u]
  ·rintro σ H3 ⟨x2,x3,x4,x5,rfl,B,az,k⟩;rw[List.drop_of_length_le (by lia)] at k;have:di.point n=none:=k.symm;rw[this] at J;exact J _ (r.trans B)
theorem vals2 (r:Vals [.int a,.int b] d):∃t t',d=[.int a t,.int b t']:=by
 cases r with
 |cons A r=>
  cases r with
  |cons l r=>
   cases r;obtain⟨t,rfl⟩:=A;obtain⟨t',rfl⟩:=l;exact⟨t,t',rfl⟩
theorem X4 (r:Vals [.ref a,.ref b] d):d=[.ref a,.ref b]:=by
 cases r with
 |cons A r=>
  cases r with
  |cons l r=>
   cases r;cases A;cases l;rfl
theorem BU (o:A.units<cLine)(n:IsTup s.heap f [Value.int l k,.int d B].toArray)(h:IsTup s.heap t [Value.int a i,.int b x].toArray)(r:f=t->l=a/\d=b):
  SeqAt.EqAt A s (.ref f) (.ref t) (decide (l=a/\d=b)):=by
 by_cases e:f=t
 ·rw[aw (r e),e];exact SeqAt.EqAt.same _
 ·have q:=SeqAt.EqAt.of_refs e (SeqAt.RcAt.tuples (e:=fun j=>if j=0 then l==a else d==b) n h o (fun j u H=>by
   have p:j=0\/j=1:=by
    have:j<2:=u;lia
   rcases p with rfl |rfl
   ·exact SeqAt.EqAt.int_int l k a i
   ·exact SeqAt.EqAt.int_int d B b x))
  have v:((List.range (min [Value.int l k,.int d B].toArray.size [Value.int a i,.int b x].toArray.size)).all (fun j=>if j=0 then l==a else d==b)&&[Value.int l k,.int d B].toArray.size==[Value.int a i,.int b x].toArray.size)=decide (l=a/\d=b):=by
   show([0,1].all (fun j=>if j=0 then l==a else d==b)&&true)=_;rw[bg];simp
  rw[v] at q;exact q
def aaC(K:PySem.W.Frag):R2:=fun x y H Q=>∃t p A B a b f d l i,x= .ref t/\y= .ref p/\Ge K H t [.int a,.int b]/\Ge K H p [.ref A,.ref B]/\Ge K H A [.int f,.int d]/\Ge K H B [.int l,.int i]/\Q (.bl (decide ((f=a/\d=b)\/(l=a/\i=b)))) H
noncomputable def Zz(l:Addr)(d A:Bool):Value->Bool
 | .ref x=>if x=l then d else A
 |_=>false
theorem X5 (K)(hu:X.A.units+64<cLine)(h:X.K=K:=by rfl):yU X (compareOp .In) (aaC K):=by
 subst h;intro pins s σ H x y v u Q I O ry h;obtain⟨t,p,d,l,a,b,k,f,B,i,rfl,rfl,F,hp,S,n,q⟩:=h;cases O;cases ry;obtain⟨ab,r,pl,_⟩:=I.tuple F;obtain⟨M,g,L,_⟩:=I.tuple hp;obtain⟨aa,T,N,_⟩:=I.tuple S;obtain⟨D,J,G,_⟩:=I.tuple n;obtain⟨k3,k4,rfl⟩:=vals2 r;obtain⟨k5,k6,rfl⟩:=vals2 T;obtain⟨k7,k8,rfl⟩:=vals2 J;cases X4 g;have R:d=t->k=a/\f=b:=fun e=>by
  subst e;have:=I.AS S F;simpa using this
 have E:l=t->B=a/\i=b:=fun e=>by
  subst e;have:=I.AS n F;simpa using this
 have C:d=l->k=B/\f=i:=fun e=>by
  subst e;have:=I.AS S n;simpa using this
 have o:X.A.in1.units<cLine:=by rw[Around.in1_units];lia
 refine SeqAt.in_tupleAt (Zz d (decide (k=a/\f=b)) (decide (B=a/\i=b))) L (fun w hw=> ?_) ⟨.bl _,H,I,rfl,?_⟩
 ·have j:w= .ref d\/w= .ref l:=by simpa using hw
  rcases j with rfl |rfl
  ·show SeqAt.EqAt _ _ _ _ (if d=d then _ else _);rw[ai rfl];exact BU o N pl R
  ·show SeqAt.EqAt _ _ _ _ (if l=d then _ else _);by_cases e:l=d
   ·rw[ai e];obtain⟨z,m⟩:=C e.symm;rw[z,m];exact BU o G pl E
   ·rw[ah e];exact BU o G pl E
 ·have e:([Value.ref d,.ref l].toArray.any (Zz d (decide (k=a/\f=b)) (decide (B=a/\i=b))))=decide ((k=a/\f=b)\/(B=a/\i=b)):=by
   show([Value.ref d,.ref l].toArray.any _)=_;rw[show([Value.ref d,.ref l].toArray.any (Zz d (decide (k=a/\f=b)) (decide (B=a/\i=b))))=(Zz d (decide (k=a/\f=b)) (decide (B=a/\i=b)) (.ref d) ||Zz d (decide (k=a/\f=b)) (decide (B=a/\i=b)) (.ref l)) by simp];show((if d=d then _ else _) ||(if l=d then _ else _))=_;rw[ai rfl];by_cases e:l=d
   ·rw[ai e];obtain⟨z,m⟩:=C e.symm;rw[z,m];simp
   ·rw[ah e,bg];simp
  rw[e];exact q
abbrev BV:Stmt:=top 71
theorem NY:dD ["part","one","other"] ["part","one","other"] (dk BV):=sco
def NZ(c:Cs):Sp:=fun A H Q _=>∃v p one other,A=[v,.int one,.int other]/\iR c H v p/\∀d,dN H d->Q (.bl (jL p one other)) d
abbrev Ik P w K mg base c:=iT P w K mg base "couples" ["part","one","other"] 1 (NZ c)
theorem Oa(T:Txt2 mg)(O:hE K c)(G:jc K mg "couples" BV ["part","one","other"]):Ik P w K mg base c:=by
 have H:=NY;refine G.jy H ?_;rintro _ _ _ _ _ _ _ _ _ r ⟨v,p,one,other,rfl,⟨y,C,rfl,A⟩,d⟩;refine⟨rfl,_,(dh (fS (e9 Ce (du K (pv 0) rfl) (gc T.jl) (eO _)) (dq (dE uY)) fc)
   (dq (dE (gY (X5 K r.units) (hX (c9 (du K (pv 0) rfl) (c9 (du K (pv 0) rfl) de))) (hX (c9 (hX (c9 (pv 1) (c9 (pv 2) de))) (c9 (hX (c9 (pv 2) (c9 (pv 1) de))) de))) (by with_unfolding_all rfl))))),?_⟩
 unfold jL at d;refine⟨_,rfl,eH A O.part.cl (O.part.at_ 0 rfl) rfl ⟨rfl,_,rfl,?_⟩⟩;rw[nA];by_cases l:p.kind=3
 ·rw[aw l];rw[ah (by simp[l])] at d;refine fF ⟨_,rfl,eH A O.part.cl (O.part.at_ 1 rfl) rfl ⟨_,rfl,eH A O.part.cl (O.part.at_ 2 rfl) rfl ⟨dy (by simp),fun t u=> ?_⟩⟩⟩;have s:=dz (o:= .tup [.int p.a,.int p.b]) u;refine⟨_,rfl,_,rfl,dy (by simp),fun B q=> ?_⟩;have h:=dz (o:= .tup [.int one,.int other]) q;refine⟨_,rfl,_,rfl,dy (by simp),fun n k=> ?_⟩;have f:=dz (o:= .tup [.int other,.int one]) k;refine⟨dy (by simp),fun S x=> ?_⟩;have i:=dz (o:= .tup [.ref B,.ref n]) x;refine⟨t,S,B,n,p.a,p.b,one,other,other,one,rfl,rfl,.of ((h.trans (f.trans i)) _ _ dj),.of dj,.of ((f.trans i) _ _ dj),.of (i _ _ dj),?_⟩;have e:decide ((one=p.a/\other=p.b)\/(other=p.a/\one=p.b))=decide ((p.a=one/\p.b=other)\/(p.a=other/\p.b=one)):=by
   rw[bg,a4,a4];constructor
   ·rintro(⟨e1,e2⟩ |⟨e1,e2⟩)
    ·exact .inl ⟨e1.symm,e2.symm⟩
    ·exact .inr ⟨e1.symm,e2.symm⟩
   ·rintro(⟨e1,e2⟩ |⟨e1,e2⟩)
    ·exact .inl ⟨e1.symm,e2.symm⟩
    ·exact .inr ⟨e1.symm,e2.symm⟩
  rw[e];exact d _ (s.trans (h.trans (f.trans i)))
 ·rw[aA l];rw[ai l] at d;exact fz (d _ (.refl _))
theorem V4 (h:z.natAbs<=1000000):Sz 64 z:=by
 unfold Sz;have:(1000000:Nat)<2^64:=by decide
 lia
theorem _root_.Lake.di.Pn.zt (h:Pn p):Sz 64 p.top:=V4 h.t
theorem _root_.Lake.di.Pn.zb (h:Pn p):Sz 64 p.dG:=V4 (by have:=h.b1;have:=h.b2;lia)
theorem aaD (k a b d):OH (.int k) [.int a,.int b,.int d]=decide (k=a\/k=b\/k=d):=by
 rw[bg];simp[OH,zQA];lia
theorem aaE (k a b d e):OH (.int k) [.int a,.int b,.int d,.int e]=decide (k=a\/k=b\/k=d\/k=e):=by
 rw[bg];simp[OH,zQA];lia
structure Txt4(mg:Str->Option Value):Prop extends Txt3 mg where
 qv:∃t,mg "NO_FAULT"=some (.int 0 t)
 uj:∃t,mg "WRONG_NODE"=some (.int 1 t)
 mw:∃t,mg "WRONG_NUMBER"=some (.int 2 t)
 iO:∃t,mg "WRONG_REFERENCE"=some (.int 3 t)
 um:∃t,mg "MOST_NODES"=some (.int 8 t)
 uo:∃t,mg "MOST_PARTS"=some (.int 10 t)
 rZ:∃t,mg "MOST_DIODES"=some (.int 3 t)
 gX:∃t,mg "NUMBERS_OF_A_PART"=some (.int 7 t)
 uq:∃t,mg "LAST_PLACE"=some (.int 63 t)
 yw:∃t,mg "MOST_TOP"=some (.int 1000000 t)
 r6:∃t,mg "MOST_BOTTOM"=some (.int 1000000 t)
theorem X6 (d)(k:Nat)(h:k<=d.length):wH d none (some (k:Int))=d.take k:=by
 unfold wH;rw[HT.qM,Nat.min_eq_left h];simp[HT.Gf]
abbrev yx:Stmt:=top 66
theorem LR:dD ["part"] ["part"] (dk yx):=sco
def LS(c:Cs):Sp:=fun d H Q _=>∃v p,d=[v]/\iR c H v p/\uP H Q (iB p)
abbrev FP P w K mg base c:=iT P w K mg base "nodes_of" ["part"] 1 (LS c)
theorem LU(T:Txt2 mg)(O:hE K c)(G:jc K mg "nodes_of" yx ["part"]):FP P w K mg base c:=by
 have h:=LR;refine G.jy h ?_;rintro _ _ _ _ _ _ _ _ _ b ⟨v,p,rfl,⟨a,e,rfl,f⟩,A⟩;refine⟨rfl,_,(dh (fS (e9 iV (du K (pv 0) rfl) (gc T.jl) (eO _)) (dq (dE (d9 de))) fc)
   (dh (fS (e9 (MC K) (du K (pv 0) rfl) (hX (c9 (gc T.jX) (c9 (gc T.jY) (c9 (gc T.jB) (c9 (gc T.qY) de))))) (by with_unfolding_all rfl)) (dq (dE (d9 (c9 (du K (pv 0) rfl) (c9 (du K (pv 0) rfl) (c9 (du K (pv 0) rfl) (c9 (du K (pv 0) rfl) de))))))) fc)
   (dq (dE (d9 (c9 (du K (pv 0) rfl) (c9 (du K (pv 0) rfl) de))))))),?_⟩
 unfold iB at A;refine⟨_,rfl,eH f O.part.cl (O.part.at_ 0 rfl) rfl ⟨rfl,_,rfl,?_⟩⟩;rw[nA];by_cases B:p.kind=3
 ·rw[aw B];rw[ai B] at A;exact fz ⟨aR _,fun q d=>A q _ d (dz d) dj⟩
 ·rw[aA B];rw[ah B] at A;refine fF ⟨_,rfl,eH f O.part.cl (O.part.at_ 0 rfl) rfl ⟨dy (by simp),fun t x=>⟨t,_,rfl,.inr (.of dj),rfl,rfl,_,rfl,?_⟩⟩⟩;show if(OH (.int p.kind) [.int 6,.int 7,.int 10,.int 11])=true then _ else _;rw[aaE];have i:=dz (o:= .tup [.int 6,.int 7,.int 10,.int 11]) x;have l:=i _ _ f;by_cases k:p.kind=6\/p.kind=7\/p.kind=10\/p.kind=11
  ·rw[aw k];rw[ai k] at A;exact fz ⟨_,rfl,eH l O.part.cl (O.part.at_ 1 rfl) rfl ⟨_,rfl,eH l O.part.cl (O.part.at_ 2 rfl) rfl ⟨_,rfl,eH l O.part.cl (O.part.at_ 3 rfl) rfl ⟨_,rfl,eH l O.part.cl (O.part.at_ 4 rfl) rfl ⟨dy (by simp),fun q d=>A q _ (i.free d) (i.trans (dz d)) dj⟩⟩⟩⟩⟩
  ·rw[aA k];rw[ah k] at A;exact fF ⟨_,rfl,eH l O.part.cl (O.part.at_ 1 rfl) rfl ⟨_,rfl,eH l O.part.cl (O.part.at_ 2 rfl) rfl ⟨dy (by simp),fun q d=>A q _ (i.free d) (i.trans (dz d)) dj⟩⟩⟩
abbrev mz:Stmt:=top 67
theorem yz:dD ["part"] ["part"] (dk mz):=sco
def yA(c:Cs):Sp:=fun A H Q _=>∃v p,A=[v]/\iR c H v p/\∀d,dN H d->Q (.bl (pL p)) d
abbrev rg P w K mg base c:=iT P w K mg base "may_have_number" ["part"] 1 (yA c)
theorem yB(T:Txt2 mg)(O:hE K c)(G:jc K mg "may_have_number" mz ["part"]):rg P w K mg base c:=by
 have n:=yz;refine G.jy n ?_;rintro _ _ _ _ _ _ _ _ _ s ⟨v,p,rfl,⟨r,u,rfl,h⟩,q⟩;refine⟨rfl,_,(dh (fS (e9 (MC K) (du K (pv 0) rfl) (hX (c9 (gc T.x9) (c9 (gc T.vK) (c9 (gc T.JM) de)))) (by with_unfolding_all rfl)) (dq (dE (gY uH (du K (pv 0) rfl) dC (eO _)))) fc)
   (dh (fS (e9 iV (du K (pv 0) rfl) (gc T.jB) (eO _)) (dq (dE (gY Ce (du K (pv 0) rfl) dC (eO _)))) fc)
   (dh (fS (e9 iV (du K (pv 0) rfl) (gc T.qY) (eO _)) (dq (dE (gY iV (du K (pv 0) rfl) dC (eO _)))) fc)
   (dh (fS (e9 iV (du K (pv 0) rfl) (gc T.Fd) (eO _)) (dq (dE (YA (gY iV (du K (pv 0) rfl) dC (eO _)) (IC (gY iV (du K (pv 0) rfl) (du K (pv 0) rfl) (eO _)))))) fc)
   (dh (fS (e9 iV (du K (pv 0) rfl) (gc T.wF) (eO _)) (dq (dE (gY R6 (du K (pv 0) rfl) dC (eO _)))) fc)
   (dq (dE uY))))))),?_⟩
 unfold pL at q;refine⟨_,rfl,eH h O.part.cl (O.part.at_ 0 rfl) rfl ⟨dy (by simp),fun t b=>⟨t,_,rfl,.inr (.of dj),rfl,rfl,_,rfl,?_⟩⟩⟩;show if(OH (.int p.kind) [.int 0,.int 1,.int 2])=true then _ else _;rw[aaD];have a:=dz (o:= .tup [.int 0,.int 1,.int 2]) b;have A:=a _ _ h;have d:=q _ a;clear q;by_cases l:p.kind=0\/p.kind=1\/p.kind=2
 ·rw[aw l];rw[ai l] at d;exact fz ⟨_,rfl,eH A O.part.cl (O.part.at_ 5 rfl) rfl (j9 d)⟩
 rw[aA l];rw[ah l] at d;refine fF ⟨_,rfl,eH A O.part.cl (O.part.at_ 0 rfl) rfl ⟨rfl,_,rfl,?_⟩⟩;rw[nA];by_cases f:p.kind=10
 ·rw[aw f];rw[ai f] at d;refine fz ⟨_,rfl,eH A O.part.cl (O.part.at_ 5 rfl) rfl ⟨rfl,?_⟩⟩;rw[nA];have e:(!decide (p.top=0))=decide (p.top≠0):=by simp
  rw[e];exact d
 rw[aA f];rw[ah f] at d;refine fF ⟨_,rfl,eH A O.part.cl (O.part.at_ 0 rfl) rfl ⟨rfl,_,rfl,?_⟩⟩;rw[nA];by_cases x:p.kind=11
 ·rw[aw x];rw[ai x] at d;refine fz ⟨_,rfl,eH A O.part.cl (O.part.at_ 5 rfl) rfl ⟨rfl,?_⟩⟩;rw[nA];exact d
 rw[aA x];rw[ah x] at d;refine fF ⟨_,rfl,eH A O.part.cl (O.part.at_ 0 rfl) rfl ⟨rfl,_,rfl,?_⟩⟩;rw[nA];by_cases B:p.kind=12
 ·rw[aw B];rw[ai B] at d;refine fz ⟨_,rfl,eH A O.part.cl (O.part.at_ 5 rfl) rfl ⟨rfl,_,rfl,?_⟩⟩;rw[nA];by_cases k:p.top=0
  ·rw[aw k];rw[aw (Or.inl k)] at d;exact fz d
  ·rw[aA k];refine fF ⟨_,rfl,eH A O.part.cl (O.part.at_ 5 rfl) rfl ⟨_,rfl,eH A O.part.cl (O.part.at_ 6 rfl) rfl ⟨rfl,?_⟩⟩⟩;rw[nA];have e:decide (p.top=p.dG)=decide (p.top=0\/p.top=p.dG):=by simp[k]
   rw[e];exact d
 rw[aA B];rw[ah B] at d;refine fF ⟨_,rfl,eH A O.part.cl (O.part.at_ 0 rfl) rfl ⟨rfl,_,rfl,?_⟩⟩;rw[nA];by_cases i:p.kind=13
 ·rw[aw i];rw[ai i] at d;exact fz ⟨_,rfl,eH A O.part.cl (O.part.at_ 5 rfl) rfl (j9 d)⟩
 rw[aA i];rw[ah i] at d;exact fF d
abbrev uu:Stmt:=top 68
theorem GO:dD ["parts","k","followed"] ["parts","k"] (dk uu):=sco
def GP(c:Cs):Sp:=fun l H Q _=>∃v d k,l=[v,.int ((k:Nat):Int)]/\oY c H v d/\k<d.length/\0<=(d.getD k p0).c/\∀A,dN H A->Q (.bl (gO d k)) A
abbrev Am P w K mg base c:=iT P w K mg base "may_follow" ["parts","k"] 1 (GP c)
theorem GQ(T:Txt2 mg)(O:hE K c)(G:jc K mg "may_follow" uu ["parts","k"]):Am P w K mg base c:=by
 have p:=GO;refine G.jy p ?_;rintro _ _ _ _ _ _ _ _ _ Q ⟨v,A,k,rfl,⟨E,L,rfl,q,b⟩,C,I,u⟩;refine⟨rfl,_,(dh (fS (e9 (QH K) (du K (d8 (jq K) (pv 0) (pv 1) (fun _ _=>rfl)) rfl) (hX (c9 (gc T.jZ) (c9 (gc T.j6) de))) (by with_unfolding_all rfl)) (dq (dE uY)) fc)
   (dh (dX (i:=2) p.nd (du K (d8 (jq K) (pv 0) (pv 1) (fun _ _=>rfl)) rfl))
   (dq (dE (Mr (gY R5 (pv 2) (pv 1) (eO _)) (IC (gY Ce (du K (d8 (jq K) (pv 0) (pv 2) (fun _ _=>rfl)) rfl) (gc T.jl) (eO _)))))))),?_⟩
 obtain⟨x,H,N,z,rfl,a⟩:=b.lC (dA (d:=p0) C);refine⟨_,rfl,_,rfl,lW (.of q) (d5 (j:=k) rfl H) (eH a O.part.cl (O.part.at_ 0 rfl) rfl ⟨dy (by simp),fun t S=>⟨t,_,rfl,.inr (.of dj),rfl,rfl,_,rfl,?_⟩⟩)⟩;show if(!OH (.int (A.getD k p0).kind) [.int 8,.int 9])=true then _ else _;rw[Zx];have h:=dz (o:= .tup [.int 8,.int 9]) S;have f:=h _ _ q;have n:=h _ _ a;have l:=u _ h;clear u;unfold gO at l;by_cases B:(A.getD k p0).kind=8\/(A.getD k p0).kind=9
 ·rw[aw B];simp only[B,not_true_eq_false,if_false] at l;refine fF ⟨_,rfl,_,rfl,lW (.of f) (d5 (j:=k) rfl H) (eH n O.part.cl (O.part.at_ 3 rfl) rfl ?_)⟩;refine⟨_,rfl,_,rfl,j9 ⟨_,rfl,?_⟩⟩;by_cases r:(A.getD k p0).c<(k:Int)
  ·rw[aw r] at l⊢;obtain⟨y,F,M,m,rfl,s⟩:=b.lC (dA (d:=p0) (show(A.getD k p0).c.toNat<A.length by lia));refine fz ⟨_,rfl,_,rfl,lW (.of f) (d5 (j:=(A.getD k p0).c.toNat) (by lia) F) (eH (h _ _ s) O.part.cl (O.part.at_ 0 rfl) rfl ⟨rfl,?_⟩)⟩;rw[nA];have e:(!decide ((A.getD (A.getD k p0).c.toNat p0).kind=3))=decide (di.kindAt A (A.getD k p0).c≠3):=by
    unfold di.kindAt;simp
   rw[e];exact l
  ·rw[aA r] at l⊢;exact fF l
 ·rw[aA B];simp only[B,not_false_eq_true,if_true] at l;exact fz l
abbrev nS:Stmt:=top 70
theorem An:dD ["parts","place","k"] ["parts","place","k"] (dk nS):=sco
def Ao(c:Cs):Sp:=fun A H Q _=>∃v d i k,A=[v,.int i,.int ((k:Nat):Int)]/\oY c H v d/\k<=d.length/\0<=i/\Q (.bl (eN d i k)) H
abbrev sN P w K mg base c:=iT P w K mg base "is_coil_before" ["parts","place","k"] 1 (Ao c)
theorem Ap(T:Txt2 mg)(O:hE K c)(G:jc K mg "is_coil_before" nS ["parts","place","k"]):sN P w K mg base c:=by
 have t:=An;refine G.jy t ?_;rintro _ _ _ _ _ _ _ _ _ n ⟨v,h,i,k,rfl,⟨b,a,rfl,f,l⟩,s,u,A⟩;refine⟨rfl,_,(dq (dE (Mr (gY R5 (pv 1) (pv 2) (eO _)) (IC (gY iV (du K (d8 (jq K) (pv 0) (pv 1) (fun _ _=>rfl)) rfl) (gc T.JM) (eO _)))))),?_⟩;unfold eN at A;refine⟨_,rfl,_,rfl,j9 ⟨_,rfl,?_⟩⟩;by_cases B:i<(k:Int)
 ·rw[aw B] at A⊢;obtain⟨y,e,r,q,rfl,x⟩:=l.lC (dA (d:=p0) (show i.toNat<h.length by lia));refine fz ⟨_,rfl,_,rfl,lW (.of f) (d5 (j:=i.toNat) (by lia) e) (eH x O.part.cl (O.part.at_ 0 rfl) rfl ⟨rfl,?_⟩)⟩;rw[nA];exact A
 ·rw[aA B] at A⊢;exact fF A
abbrev jJ:Stmt:=top 72
theorem uv:dD ["coupling","one","other","squared"] ["coupling","one","other"] (dk jJ):=sco
def uw(c:Cs):Sp:=fun k H Q _=>∃B i f l A d,k=[B,i,f]/\iR c H B l/\iR c H i A/\iR c H f d/\Pn l/\Pn A/\Pn d/\Q (.bl (di.tooMuch l A d)) H
abbrev mU P w K mg base c:=iT P w K mg base "is_coupled_too_much" ["coupling","one","other"] 1 (uw c)
theorem ux(O:hE K c)(G:jc K mg "is_coupled_too_much" jJ ["coupling","one","other"]):mU P w K mg base c:=by
 have x:=uv;refine G.jy x ?_;rintro _ _ _ _ _ _ _ _ _ t ⟨b,e,r,a,q,s,rfl,⟨o,H,rfl,l⟩,⟨p,h,rfl,k⟩,⟨n,u,rfl,B⟩,d,A,f,v⟩;refine⟨rfl,_,(dh (dX (i:=3) x.nd (eZ iA (eZ iA (eZ iA (du K (pv 0) rfl) (du K (pv 0) rfl)) (du K (pv 1) rfl)) (du K (pv 2) rfl)))
   (dq (dE (gY uH (pv 3) (eZ iA (eZ iA (eZ iA (du K (pv 1) rfl) (du K (pv 2) rfl)) (du K (pv 0) rfl)) (du K (pv 0) rfl)) (eO _))))),?_⟩
 refine⟨_,rfl,eH l O.part.cl (O.part.at_ 5 rfl) rfl ⟨_,rfl,eH l O.part.cl (O.part.at_ 5 rfl) rfl (j9 ⟨d.zt.mul d.zt (by decide),?_⟩)⟩⟩;refine⟨_,rfl,eH k O.part.cl (O.part.at_ 6 rfl) rfl (j9 ⟨(d.zt.prod d.zt).mul A.zb (by decide),?_⟩)⟩;refine⟨_,rfl,eH B O.part.cl (O.part.at_ 6 rfl) rfl (j9 ⟨((d.zt.prod d.zt).prod A.zb).mul f.zb (by decide),?_⟩)⟩;refine⟨_,rfl,_,rfl,eH k O.part.cl (O.part.at_ 5 rfl) rfl ⟨_,rfl,eH B O.part.cl (O.part.at_ 5 rfl) rfl (j9 ⟨A.zt.mul f.zt (by decide),?_⟩)⟩⟩;refine⟨_,rfl,eH l O.part.cl (O.part.at_ 6 rfl) rfl (j9 ⟨(A.zt.prod f.zt).mul d.zb (by decide),?_⟩)⟩;exact⟨_,rfl,eH l O.part.cl (O.part.at_ 6 rfl) rfl (j9 ⟨((A.zt.prod f.zt).prod d.zb).mul d.zb (by decide),_,_,rfl,rfl,v⟩)⟩
abbrev ks:Stmt:=top 69
theorem Aq:dD ["parts","k","one","other","part"] ["parts","k"] (dk ks):=sco
def Ar(c:Cs):Sp:=fun l H Q _=>∃v d k,l=[v,.int ((k:Nat):Int)]/\oY c H v d/\k<d.length/\d.length<=1000/\(∀p∈d,Pn p)/\∀A,dN H A->Q (.int (ph d k)) A
abbrev sO P w K mg base c:=iT P w K mg base "coupling_fault" ["parts","k"] 2 (Ar c)
theorem As(T:Txt4 mg)(O:hE K c)(kx:sN P w K mg base c)(BW:Ik P w K mg base c)(jK:mU P w K mg base c)(G:jc K mg "coupling_fault" ks ["parts","k"]):sO P w K mg base c:=by
 have F:=Aq;refine G.jy F ?_;rintro _ _ A _ _ H _ Q _ L ⟨v,l,k,rfl,m,hk,hl,pin,E⟩;obtain⟨pa,J,rfl,r,n⟩:=id m;have ll:=n.length;refine⟨rfl,_,(dh (dX (i:=2) F.nd (du K (d8 (jq K) (pv 0) (pv 1) (fun _ _=>rfl)) rfl))
   (dh (dX (i:=3) F.nd (du K (d8 (jq K) (pv 0) (pv 1) (fun _ _=>rfl)) rfl))
   (dh (fS (PW.pt (Oy (e9 iV (pv 2) (pv 3) (eO _)) (Oy (oB (fG K (dB kx L (c9 (pv 0) (c9 (pv 2) (c9 (pv 1) de)))) (fun _=>rfl))) (Mp (oB (fG K (dB kx L (c9 (pv 0) (c9 (pv 3) (c9 (pv 1) de)))) (fun _=>rfl))))))) (dq (dE (gc T.iO))) fc)
   (dh (fS (fG K (eC (OM K rfl) rfl T.Qa DR (c9 (mO rfl F.nd (fK (sr (Yh K) (pv 0) De (qN (pv 1)))) (fC (own:=[("part",4)]) (by show mV ["parts","k","one","other","part"] (dk ks) _ _=true;decide +kernel)) (fun _ _ _ _ _=>(fk (i:=4) F.nd)) (fun _ _ _ _ _=>gh) (fun _ _ _ _ _=>(dB BW L (c9 (pv 4) (c9 (pv 2) (c9 (pv 3) de)))))) de)) (fun _=>rfl)) (dq (dE (gc T.iO))) fc)
   (dh (fS (fG K (dB jK L (c9 (d8 (jq K) (pv 0) (pv 1) (fun _ _=>rfl)) (c9 (d8 (jq K) (pv 0) (pv 2) (fun _ _=>rfl)) (c9 (d8 (jq K) (pv 0) (pv 3) (fun _ _=>rfl)) de)))) (fun _=>rfl)) (dq (dE (gc T.mw))) fc)
   (dq (dE (gc T.qv)))))))),?_⟩
 obtain⟨x,I,pb,aa,rfl,S⟩:=n.lC (dA (d:=p0) hk);have e:=pin _ (aH (dA (d:=p0) hk));unfold ph at E;generalize hp:l.getD k p0=p at S e E;have iF:∀{A:Prop} {x y:Int},¬A->∀[Decidable A],(if A then x else y)=y:=fun h _=>ah h;refine⟨_,rfl,_,rfl,lW (.of r) (d5 (j:=k) rfl I) (eH S O.part.cl (O.part.at_ 1 rfl) rfl ?_)⟩;refine⟨_,rfl,_,rfl,lW (.of r) (d5 (j:=k) rfl I) (eH S O.part.cl (O.part.at_ 2 rfl) rfl ?_)⟩;have bad:(p.a=p.b\/eN l p.a k=false\/eN l p.b k=false)->∀t,dN H t->Q (.int 3) t:=fun h t s=>by
  have:=E t s;simp only[h,if_true] at this;exact this
 refine⟨_,rfl,_,rfl,rfl,_,rfl,?_⟩;rw[nA];by_cases N:p.a=p.b
 ·rw[aw N];exact fz (fz (bad (.inl N) _ (.refl _)))
 rw[aA N];refine fF ⟨_,rfl,_,rfl,_,rfl,_,l,p.a,k,rfl,m,by lia,e.a0,_,rfl,?_⟩;cases g:eN l p.a k with
 |false=>exact fz (fz (bad (.inr (.inl g)) _ (.refl _)))
 |true=>
 refine fF ⟨_,rfl,_,rfl,_,rfl,_,l,p.b,k,rfl,m,by lia,e.b0,_,rfl,?_⟩;cases X:eN l p.b k with
 |false=>exact fz (bad (.inr (.inr X)) _ (.refl _))
 |true=>
 refine fF ?_;have nb:¬(p.a=p.b\/eN l p.a k=false\/eN l p.b k=false):=by
  rintro(h |h |h)
  ·exact N h
  ·rw[g] at h;cases h
  ·rw[X] at h;cases h
 have k2:∀t,dN H t->Q (.int (if(l.take k).any (fun q=>jL q p.a p.b)=true then 3 else if di.tooMuch p (l.getD p.a.toNat p0) (l.getD p.b.toNat p0)=true then 2 else 0)) t:=fun t s=>by
  have:=E t s;rw[ah nb] at this;exact this
 have ca:p.a.toNat<k:=by
  have h:=g;unfold eN at h;have:=(aW _ _).mp h;have:=aI this.1;have:=e.a0;lia
 have cb:p.b.toNat<k:=by
  have h:=X;unfold eN at h;have:=(aW _ _).mp h;have:=aI this.1;have:=e.b0;lia
 refine⟨_,rfl,_,rfl,_,rfl,pa,_,rfl,.of r,fun sa ac=> ?_⟩;rw[X6 J k (by lia)];have s1:=dz (o:= .lst (J.take k)) ac;refine⟨sa,rfl,⟨_,.of dj⟩,fun D hD=>oC (fL (.of dj)) hD (fun i _ acc=>acc=(((l.take k).take i).map fun q=>V.bl (jL q p.a p.b))) rfl ?_ ?_⟩
 ·rintro i x H1 H2 acc hi s2 M f B ad ab I;obtain⟨q,hq,pq⟩:=(n.Uj k).nv I;have la:acc.length<=i:=by
   rw[f,lMp,aP];lia
  have li:i<k:=by rw[aP] at hi;lia
  refine⟨rfl,⟨_,rfl,_,rfl,_,rfl,_,q,p.a,p.b,rfl,pq.same (s1.trans B),fun H3 s4=> ?_⟩⟩;refine gz hD (B.trans s4) (s4 _ _ ab) (dI (by lia)) ?_;rw[f,eX _ _ _ _ hq]
 ·intro H1 acc s2 M f;have B:=s1.trans s2;rw[bH (by rw[aP,aP];lia)] at f;refine⟨D,(l.take k).map fun q=>jL q p.a p.b,rfl,.of ?_,_,rfl,?_⟩
  ·rw[M,f,aN];rfl
  rw[List.any_map];show if((l.take k).any fun q=>jL q p.a p.b)=true then _ else _;cases h5:(l.take k).any (fun q=>jL q p.a p.b) with
  |true=>
   have:=k2 _ B;rw[h5] at this;exact fz this
  |false=>
   refine fF ?_;obtain⟨y,hy,py⟩:=n.lC (dA (d:=p0) (show p.a.toNat<l.length by lia));obtain⟨z,hz,pz⟩:=n.lC (dA (d:=p0) (show p.b.toNat<l.length by lia));have u:=B _ _ r;refine⟨_,rfl,_,rfl,lW (.of u) (d5 (j:=k) rfl I) ⟨_,rfl,_,rfl,lW (.of u) (d5 (j:=p.a.toNat) (by have:=e.a0;lia) hy) ⟨_,rfl,_,rfl,lW (.of u) (d5 (j:=p.b.toNat) (by have:=e.b0;lia) hz) ⟨_,_,_,p,_,_,rfl,⟨pb,aa,rfl,B _ _ S⟩,py.same B,pz.same B,e,pin _ (aH (dA (d:=p0) (show p.a.toNat<l.length by lia))),pin _ (aH (dA (d:=p0) (show p.b.toNat<l.length by lia))),_,rfl,?_⟩⟩⟩⟩;have C:=k2 _ B;rw[h5] at C;rw[ah (by simp)] at C;cases R:di.tooMuch p (l.getD p.a.toNat p0) (l.getD p.b.toNat p0) with
   |true=>
    rw[R] at C;exact fz C
   |false=>
    rw[R] at C;exact fF C
abbrev uy:Stmt:=top 65
theorem LV:dD ["network","k","part","node"] ["network","k"] (dk uy):=sco
def LW(c:Cs):Sp:=fun A H Q _=>∃v n k,A=[v,.int ((k:Nat):Int)]/\uL c H v n/\k<n.dc.length/\n.dc.length<=1000/\(∀p∈n.dc,Pn p)/\∀d,dN H d->Q (.int (jh n k)) d
theorem LX (p):(iB p).length<=4:=by
 unfold iB;split
 ·simp
 ·split <;>simp
abbrev FQ P w K mg base c:=iT P w K mg base "fault_of" ["network","k"] 3 (LW c)
theorem LY(T:Txt4 mg)(O:hE K c)(yC:FP P w K mg base c)(mC:rg P w K mg base c)(g:Am P w K mg base c)(nU:sO P w K mg base c)(G:jc K mg "fault_of" uy ["network","k"]):FQ P w K mg base c:=by
 have o:=LV;refine G.jy o ?_;rintro _ _ _ _ _ _ _ _ _ u ⟨v,n,k,rfl,hn,r,hl,pin,l⟩;obtain⟨na,aa,ad,rfl,h,X,y,rfl,e,b⟩:=id hn;refine⟨rfl,_,(dh (dX (i:=2) o.nd (d8 (jq K) (du K (pv 0) rfl) (pv 1) (fun _ _=>rfl)))
   (dh (fS (fG K (eC (OM K rfl) rfl T.Qa DR (c9 (mO rfl o.nd (fK (dB yC u (c9 (pv 2) de))) (fC (own:=[("node",3)]) (by show mV ["network","k","part","node"] (dk uy) _ _=true;decide +kernel)) (fun _ _ _ _ _=>(fk (i:=3) o.nd)) (fun _ _ _ _ _=>gh) (fun _ _ _ _ _=>(gY uH (pv 3) (du K (pv 0) rfl) (eO _)))) de)) (fun _=>rfl)) (dq (dE (gc T.uj))) fc)
   (dh (fS (oB (fG K (dB mC u (c9 (pv 2) de)) (fun _=>rfl))) (dq (dE (gc T.mw))) fc)
   (dh (fS (oB (fG K (dB g u (c9 (du K (pv 0) rfl) (c9 (pv 1) de))) (fun _=>rfl))) (dq (dE (gc T.iO))) fc)
   (dh (fS (e9 iV (du K (pv 2) rfl) (gc T.jl) (eO _)) (dq (dE (dB nU u (c9 (du K (pv 0) rfl) (c9 (pv 1) de))))) fc)
   (dq (dE (gc T.qv)))))))),?_⟩
 obtain⟨x,C,S⟩:=b.lC (dA (d:=p0) r);obtain⟨pb,ac,rfl,I⟩:=id S;have J:=pin _ (aH (dA (d:=p0) r));unfold jh at l;have nl:=LX (n.dc.getD k p0);refine⟨_,rfl,eH h O.eQ.cl (O.eQ.at_ 1 rfl) rfl ⟨_,rfl,lW (.of e) (d5 (j:=k) rfl C) ?_⟩⟩;refine⟨_,rfl,_,_,rfl,S,fun M H1 ae E a=> ?_⟩;refine⟨M,rfl,⟨_,.of a⟩,fun D L=>oC (fL (.of a)) L (fun i _ acc=>acc=(((iB (n.dc.getD k p0)).take i).map fun q=>V.bl (decide (n.last<q)))) rfl ?_ ?_⟩
 ·rintro i x H2 H3 acc R N H A t ab m C;obtain⟨q,hq,rfl⟩:=jk C;have M:acc.length<=i:=by
   rw[A,lMp,aP];lia
  have li:i<4:=by rw[lMp] at R;lia
  refine⟨rfl,⟨_,rfl,_,rfl,eH ((E.trans t) _ _ h) O.eQ.cl (O.eQ.at_ 0 rfl) rfl (j9 ?_)⟩⟩;refine gz L t m (dI (by lia)) ?_;rw[A,eX _ _ _ _ hq]
 ·intro H2 acc N H A;have t:=E.trans N;rw[lMp,aQ] at A;refine⟨D,(iB (n.dc.getD k p0)).map fun q=>decide (n.last<q),rfl,.of ?_,_,rfl,?_⟩
  ·rw[H,A,aN];rfl
  rw[List.any_map];show if((iB (n.dc.getD k p0)).any fun q=>decide (n.last<q))=true then _ else _;by_cases s:((iB (n.dc.getD k p0)).any fun q=>decide (n.last<q))=true
  ·have:=l _ t;rw[ai s] at this;rw[s];exact fz this
  rw[show((iB (n.dc.getD k p0)).any fun q=>decide (n.last<q))=false by simpa using s];simp only[ah s] at l;refine fF ⟨_,rfl,_,_,rfl,S.same t,fun H4 s4=>⟨_,rfl,?_⟩⟩;have B:=t.trans s4;cases Q:pL (n.dc.getD k p0) with
  |false=>
   have:=l _ B;rw[ai Q] at this;exact fz this
  |true=>
  simp only[ah (show ¬pL (n.dc.getD k p0)=false by rw[Q];simp)] at l;refine fF ⟨_,rfl,eH (B _ _ h) O.eQ.cl (O.eQ.at_ 1 rfl) rfl ⟨_,rfl,_,n.dc,k,rfl,⟨X,y,rfl,B _ _ e,b.h9 fun _ _ z=>z.same B⟩,r,J.c0,fun H5 s5=>⟨_,rfl,?_⟩⟩⟩;have f:=B.trans s5;cases F:gO n.dc k with
  |false=>
   have:=l _ f;rw[ai F] at this;exact fz this
  |true=>
  simp only[ah (show ¬gO n.dc k=false by rw[F];simp)] at l;refine fF ⟨_,rfl,eH (f _ _ I) O.part.cl (O.part.at_ 0 rfl) rfl ⟨rfl,_,rfl,?_⟩⟩;rw[nA];by_cases p:(n.dc.getD k p0).kind=3
  ·rw[aw p];simp only[ai p] at l;exact fz ⟨_,rfl,eH (f _ _ h) O.eQ.cl (O.eQ.at_ 1 rfl) rfl ⟨_,rfl,_,n.dc,k,rfl,⟨X,y,rfl,f _ _ e,b.h9 fun _ _ z=>z.same f⟩,r,hl,pin,fun H6 s6=>l _ (f.trans s6)⟩⟩
  ·rw[aA p];simp only[ah p] at l;exact fF (l _ f)
abbrev r8:Stmt:=top 64
theorem FR:dD ["network","k","fault"] ["network"] (dk r8):=sco
def FT(c:Cs):Sp:=fun d H Q _=>∃v n,d=[v]/\uL c H v n/\n.dc.length<=1000/\(∀p∈n.dc,Pn p)/\uP H Q (di.fault n)
abbrev xp P w K mg base c:=iT P w K mg base "first_fault" ["network"] 4 (FT c)
theorem FU(T:Txt4 mg)(O:hE K c)(j:FQ P w K mg base c)(G:jc K mg "first_fault" r8 ["network"]):xp P w K mg base c:=by
 have b:=FR;refine G.jy b ?_;rintro _ _ _ _ _ H _ _ _ I ⟨v,n,rfl,S,D,pin,B⟩;obtain⟨N,J,R,rfl,o,X,z,rfl,p,F⟩:=id S;have ll:=F.length;refine⟨rfl,_,(dh (hW PassesOwn.never rfl (o7 rfl T.kn (c9 (eC (eY K) rfl T.g8 eh (c9 (du K (pv 0) rfl) de)) de)) (fk (i:=1) b.nd) (dh (dX (i:=2) b.nd (dB j I (c9 (pv 0) (c9 (pv 1) de))))
   (dq (fS (e9 Ce (pv 2) (gc T.qv) (eO _)) (dq (dE (d9 (c9 (pv 1) (c9 (pv 2) de))))) fc))))
   (dq (dE (d9 de)))),?_⟩
 refine⟨_,rfl,eH o O.eQ.cl (O.eQ.at_ 1 rfl) rfl ⟨X,_,rfl,.inl (.of p),_,rfl,by lia,by lia,?_⟩⟩;have Q:((z.length:Int)).toNat=n.dc.length:=by lia
 rw[Q];refine jR (l6 H _ _) (fun i σ y=>∃u t,σ=[some (.ref N),u,t]/\dN H y/\i<=n.dc.length/\lF n (n.dc.length - i)=di.fault n) ⟨none,none,rfl,.refl _,aR _,rfl⟩ (by rintro i σ y ⟨_,_,_,s,_⟩;exact s) ?_ ?_
 ·rintro i x σ M H2 L ⟨u,t,rfl,a,C,l⟩ k aa rfl;rw[Int.zero_add];obtain⟨m,g⟩:=zEx L;have E:=zTo g
  have r:n.dc.length - (i+1)=m:=congrArg Nat.pred g
  rw[g] at l;have d:(if jh n i≠0 then[(i:Int),jh n i] else lF n m)=di.fault n:=by
   rw[<-l];show _=if jh n (n.dc.length - (m+1))≠0 then[((n.dc.length - (m+1):Nat):Int),jh n (n.dc.length - (m+1))] else lF n m;rw[E]
  refine⟨_,rfl,_,rfl,_,n,i,rfl,S.same k,L,D,pin,fun H3 e=> ?_⟩;refine⟨_,rfl,rfl,_,rfl,?_⟩;rw[nA];by_cases f:jh n i=0
  ·rw[aw f];rw[ah (fun h=>h f)] at d;refine fF ⟨_,_,rfl,k.trans e,by lia,?_⟩;rw[r];exact d
  ·rw[aA f];rw[ai f] at d;rw[<-d] at B;exact fz ⟨_,rfl,_,rfl,dy (by simp),fun q A=>B q _ ((k.trans e).free A) ((k.trans e).trans (dz A)) dj⟩
 ·rintro σ M ⟨u,t,rfl,a,C,l⟩;rw[cX] at l;have:di.fault n=[]:=l.symm;rw[this] at B;exact⟨aR _,fun q A=>B q _ (a.free A) (a.trans (dz A)) dj⟩
noncomputable def aaF(n:Nat):Bool:=Builtin.Range.small 1 (n:Int) 7&&decide (Builtin.Range.rangeSize 1 (n:Int) 7=(((n - 1+6) / 7:Nat):Int))
theorem Ux:(List.range 200).all (fun n=>aaF (n+1))=true:=by decide +kernel
theorem aaG{n:Nat}(A:1<=n)(d:n<=200):Y6 1 (n:Int) 7 ((n - 1+6) / 7):=by
 have h:=bU.mp Ux (n - 1) (aY.mpr (by lia));have e:n - 1+1=n:=by lia
 rw[e] at h;obtain⟨a,b⟩:=(aW _ _).mp h;exact⟨by decide,by decide,a,aI b⟩
theorem aaH (l:List Int)(i)(h:1+7*i<=l.length):wH (l.map V.int) (some ((1+7*i:Nat):Int)) (some ((1+7*i+7:Nat):Int))=(((l.drop (1+7*i)).take 7).map V.int):=by
 unfold wH;rw[HT.qM,HT.qM,lMp,Nat.min_eq_left h,List.map_take,List.map_drop];by_cases d:1+7*i+7<=l.length
 ·rw[Nat.min_eq_left d];have e:1+7*i+7 - (1+7*i)=7:=by lia
  rw[e]
 ·rw[Nat.min_eq_right (by lia),bH (by simp),bH (by simp;lia)]
theorem ZA(l:List Int)(h:l.length=7):wH (l.map V.int) (some 1) (some 5)=(((l.drop 1).take 4).map V.int):=by
 show wH (l.map V.int) (some ((1:Nat):Int)) (some ((5:Nat):Int))=_;unfold wH;rw[HT.qM,HT.qM,lMp,h,List.map_take,List.map_drop];rfl
theorem mD (l):(dU l).length=(l.length - 1+6) / 7:=by
 unfold dU;simp
theorem Au (l)(i)(h:i<(l.length - 1+6) / 7):(dU l)[i]? =some ((l.drop (1+7*i)).take 7):=by
 unfold dU;rw[aD,bB h];rfl
theorem uA (l)(h:(l.length - 1) % 7=0):∀r∈dU l,r.length=7:=fun r A=>by
 obtain⟨i,d,e⟩:=br A;rw[mD] at d;have q:=Au l i d;rw[af (by rw[mD];exact d),e] at q;cases q;obtain⟨c,g⟩:∃c,l.length - 1=7*c:=⟨_,(Nat.mul_div_cancel' (Nat.dvd_of_mod_eq_zero h)).symm⟩;rw[g] at d;have d:i<c:=Nat.lt_of_lt_of_eq d (Nat.mul_add_div (show 0<7 by decide) c 6);rw[aP,bJ,<-Nat.sub_sub,g];exact Nat.min_eq_left (Nat.le_sub_of_add_le (by lia))
theorem V5 (z)(m:Nat):decide ((if z<0 then -z else z)<=(m:Int))=decide (z.natAbs<=m):=by
 rw[bg,a4,a4];split <;>lia
theorem Il(l:List Int)(h:0<l.length):(l.map V.int)[0]? =some (V.int (l.headD 0)):=by
 cases l with
 |nil=>simp at h
 |cons a l=>rfl
abbrev rh:Stmt:=top 101
theorem JW:dD ["net","start"] ["net"] (dk rh):=sco
def JX(K:PySem.W.Frag):Sp:=fun A H Q _=>∃a l,A=[.ref a]/\oK K H a (l.map V.int)/\1<=l.length/\l.length<=200/\∀z d,dN H d->vH FF d z (dU l)->Q z d
abbrev vV P w K mg base:=iT P w K mg base "part_rows" ["net"] 1 (JX K)
theorem JY(T:Txt4 mg)(G:jc K mg "part_rows" rh ["net"]):vV P w K mg base:=by
 have v:=JW;refine G.jy v ?_;rintro _ _ _ _ _ H _ _ _ N ⟨a,l,rfl,e,F,I,p⟩;refine⟨rfl,_,(dq (dE (mO rfl v.nd (Hl rfl T.kn (c9 dC (c9 (eC (eY K) rfl T.g8 eh (c9 (pv 0) de)) (c9 (gc T.gX) de)))) (fC (own:=[("start",1)]) (by show mV ["net","start"] (dk rh) _ _=true;decide +kernel)) (fun _ _ _ _ _=>(fk (i:=1) v.nd)) (fun _ _ _ _ _=>gh) (fun _ _ _ _ _=>(sr (Yh K) (pv 0) (qN (pv 1)) (qN (eZ lJ (pv 1) (gc T.gX)))))))),?_⟩;refine⟨_,rfl,a,_,rfl,.inl e,_,_,_,_,rfl,?_,fun D b=>oC (Hm H 1 7 ((l.length - 1+6) / 7)) b (fun i j acc=>Paired (uQ (fZ FF D) j) acc ((dU l).take i)) .nil ?_ ?_⟩
 ·rw[lMp];exact aaG F I
 ·rintro i x L Q acc s u f d n r A rfl;have k:=d.length;rw[aP,mD] at k;have C:(1:Int)+(i:Nat)*7=((1+7*i:Nat):Int):=by lia
  have m:(((1+7*i:Nat):Int))+7=((1+7*i+7:Nat):Int):=by lia
  rw[C];refine⟨rfl,⟨_,rfl,_,rfl,_,rfl,_,rfl,j9 ⟨_,rfl,a,_,rfl,n.seq e,fun q t=> ?_⟩⟩⟩;dsimp only[];rw[m,aaH l i (by lia)];have B:=dz (o:= .lst (((l.drop (1+7*i)).take 7).map V.int)) t;have S:¬fZ FF D q:=fun h=>h.elim (fun y=>y) (fun y=>by rw[y,A] at t;cases t);refine gz b (n.trans B) (B _ _ A) (dI (by lia)) ?_;rw[bo (l:=dU l),Au l i s];exact((d.jw gS (r.trans B)).vI gS (fR (.inr rfl))).kU (gS.off ⟨q,rfl,S,dj⟩ (fR (.inr rfl)))
 ·intro L acc u f d;rw[bH (by rw[mD];exact aj _)] at d;exact p _ _ u ⟨D,acc,rfl,fun z=>z,f,d.RS gS⟩
abbrev oj:Stmt:=top 102
theorem FV:dD ["row","place"] ["row"] (dk oj):=sco
def FW:Sp:=fun A H Q _=>∃v r,A=[v]/\fI H v r/\r.length=7/\∀d,dN H d->Q (.bl (iW r)) d
abbrev xq P w K mg base:=iT P w K mg base "is_part_row" ["row"] 1 FW
theorem FX(T:Txt4 mg)(G:jc K mg "is_part_row" oj ["row"]):xq P w K mg base:=by
 have F:=FV;refine G.jy F ?_;rintro _ _ _ _ _ H _ Q _ O ⟨v,r,rfl,⟨a,rfl,S⟩,g,t⟩;refine⟨rfl,_,(dh (fS (oB (Kp u4 u4 dC (d8 (jq K) (pv 0) dC (fun _ _=>rfl)) (gc T.vL))) (dq (dE uY)) fc)
   (dh (fS (oB (fG K (eC (IQ K rfl) rfl T.Lu xA (c9 (mO rfl F.nd (fK (sr (Yh K) (pv 0) (qN dC) (qN dC))) (fC (own:=[("place",1)]) (by show mV ["row","place"] (dk oj) _ _=true;decide +kernel)) (fun _ _ _ _ _=>(fk (i:=1) F.nd)) (fun _ _ _ _ _=>gh) (fun _ _ _ _ _=>(Ko u4 u4 dC (pv 1) (gc T.uq)))) de)) (fun _=>rfl))) (dq (dE uY)) fc)
   (dq (dE (Mr (gY u4 (eC DQ rfl T.Lw xB (c9 (d8 (jq K) (pv 0) dC (fun _ _=>rfl)) de)) (gc T.yw) (eO _)) (IC (Ko u4 u4 dC (d8 (jq K) (pv 0) dC (fun _ _=>rfl)) (gc T.r6)))))))),?_⟩
 unfold iW at t;refine⟨_,rfl,lW (.of S) (d5 (j:=0) rfl (jf (by lia))) (j9 ⟨_,rfl,?_⟩)⟩;have bad:¬(0<=r.getD 0 0/\r.getD 0 0<=13)->Q (.bl false) H:=fun h=>by
  have:=t _ (.refl _);rw[ai h] at this;exact this
 by_cases f:0<=r.getD 0 0
 rotate_left
 ·rw[aA f];exact fF ⟨_,rfl,fz (bad fun h=>f h.1)⟩
 rw[aw f];refine fz (j9 ⟨_,rfl,?_⟩);by_cases k:r.getD 0 0<=13
 rotate_left
 ·rw[aA k];exact fz (bad fun h=>k h.2)
 rw[aw k];refine fF ?_;simp only[ah (show ¬¬(0<=r.getD 0 0/\r.getD 0 0<=13) from fun h=>h ⟨f,k⟩)] at t;refine⟨_,rfl,_,rfl,_,rfl,a,_,rfl,.of S,fun X m=> ?_⟩;rw[ZA r g];have E:=dz (o:= .lst (((r.drop 1).take 4).map V.int)) m;have l4:((r.drop 1).take 4).length=4:=by simp;lia
 refine⟨X,rfl,⟨_,.of dj⟩,fun D C=>oC (fL (.of dj)) C (fun i _ acc=>acc=((((r.drop 1).take 4).take i).map fun p=>V.bl (decide (0<=p/\p<=63)))) rfl ?_ ?_⟩
 ·rintro i x M H2 acc N I s d l R u J;obtain⟨q,L,rfl⟩:=jk J;have li:i<4:=by rw[lMp] at N;lia
  have la:acc.length<=4:=by rw[d,lMp,aP];lia
  refine⟨rfl,⟨_,rfl,j9 ⟨_,rfl,?_⟩⟩⟩;by_cases B:0<=q
  rotate_left
  ·rw[aA B];refine fF (gz C l u (dI (by lia)) ?_);rw[d,eX _ _ _ _ L,aA (fun h=>B h.1)]
  ·rw[aw B];refine fz (j9 (gz C l u (dI (by lia)) ?_));rw[d,eX _ _ _ _ L];have e:decide (0<=q/\q<=63)=decide (q<=63):=by simp[B]
   rw[e]
 ·intro M acc I s d;have l:=E.trans I;rw[lMp,aQ] at d;refine⟨D,((r.drop 1).take 4).map fun p=>decide (0<=p/\p<=63),rfl,.of ?_,_,rfl,?_⟩
  ·rw[s,d,aN];rfl
  rw[List.all_map];show if(!((r.drop 1).take 4).all fun p=>decide (0<=p/\p<=63))=true then _ else _;have A:=t _ l;by_cases b:(((r.drop 1).take 4).all fun p=>decide (0<=p/\p<=63))=true
  rotate_left
  ·rw[ai b] at A;rw[show(((r.drop 1).take 4).all fun p=>decide (0<=p/\p<=63))=false by simpa using b];exact fz A
  rw[ah (fun h=>h b)] at A;rw[b];have n:=l _ _ S;refine fF ⟨_,rfl,lW (.of n) (d5 (j:=5) rfl (jf (by lia))) ⟨_,rfl,j9 ⟨_,rfl,?_⟩⟩⟩;show if(decide ((if r.getD 5 0<0 then -r.getD 5 0 else r.getD 5 0)<=((1000000:Nat):Int)))=true then _ else _;rw[V5];by_cases z:(r.getD 5 0).natAbs<=1000000
  rotate_left
  ·rw[aA z] at A⊢;exact fF A
  rw[aw z] at A⊢;refine fz ⟨_,rfl,lW (.of n) (d5 (j:=6) rfl (jf (by lia))) (j9 ⟨_,rfl,?_⟩)⟩;by_cases y:1<=r.getD 6 0
  rotate_left
  ·rw[aA y];rw[aA (show ¬(1<=r.getD 6 0/\r.getD 6 0<=1000000) from fun h=>y h.1)] at A;exact fF A
  rw[aw y];refine fz (j9 ?_);have e:(true&&decide (1<=r.getD 6 0/\r.getD 6 0<=1000000))=decide (r.getD 6 0<=1000000):=by
   rw[Bool.true_and,bg,a4,a4];lia
  rw[e] at A;exact A
abbrev i7:Stmt:=top 100
theorem Av:dD ["net","rows","row"] ["net"] (dk i7):=sco
def Aw(K:PySem.W.Frag):Sp:=fun A H Q _=>∃a l,A=[.ref a]/\oK K H a (l.map V.int)/\l.length<=200/\∀d,dN H d->Q (.bl (oN l)) d
abbrev sP P w K mg base:=iT P w K mg base "is_network_row" ["net"] 2 (Aw K)
theorem Ay(T:Txt4 mg)(lY:vV P w K mg base)(r9:xq P w K mg base)(G:jc K mg "is_network_row" i7 ["net"]):sP P w K mg base:=by
 have v:=Av;refine G.jy v ?_;rintro _ _ _ _ _ H _ Q _ J ⟨a,l,rfl,s,l2,A⟩;refine⟨rfl,_,(dh (fS (PW.pt (Oy (e9 iV (eC (eY K) rfl T.g8 eh (c9 (pv 0) de)) dC (eO _)) (Mp (oB (Kp u4 u4 dC (d8 (jq K) (pv 0) dC (fun _ _=>rfl)) (gc T.um)))))) (dq (dE uY)) fc)
   (dh (fS (e9 Ce (eZ AX (eZ jE (eC (eY K) rfl T.g8 eh (c9 (pv 0) de)) dC) (gc T.gX)) dC (eO _)) (dq (dE uY)) fc)
   (dh (dX (i:=1) v.nd (dB lY J (c9 (pv 0) de)))
   (dh (fS (e9 uH (eC (eY K) rfl T.g8 eh (c9 (pv 1) de)) (gc T.uo) (eO _)) (dq (dE uY)) fc)
   (dh (fS (oB (fG K (eC (IQ K rfl) rfl T.Lu xA (c9 (mO rfl v.nd (fK (pv 1)) (fC (own:=[("row",2)]) (by show mV ["net","rows","row"] (dk i7) _ _=true;decide +kernel)) (fun _ _ _ _ _=>(fk (i:=2) v.nd)) (fun _ _ _ _ _=>gh) (fun _ _ _ _ _=>(dB r9 J (c9 (pv 2) de)))) de)) (fun _=>rfl))) (dq (dE uY)) fc)
   (dq (dE (gY u4 (eC (eY K) rfl T.g8 eh (c9 (mO rfl v.nd (fK (pv 1)) (fC (own:=[("row",2)]) (by show mV ["net","rows","row"] (dk i7) _ _=true;decide +kernel)) (fun _ _ _ _ _=>(fk (i:=2) v.nd)) (fun _ _ _ _ _=>(IM (e9 iV (d8 (jq K) (pv 2) dC (fun _ _=>rfl)) (gc T.wF) (eO _)))) (fun _ _ _ _ _=>(pv 2))) de)) (gc T.rZ) (eO _))))))))),?_⟩
 unfold oN at A;have bad:(l.length=0\/¬(1<=l.headD 0/\l.headD 0<=8))->Q (.bl false) H:=fun h=>by
  have:=A _ (.refl _);rw[ai h] at this;exact this
 refine⟨_,rfl,a,_,rfl,.inl s,rfl,_,rfl,?_⟩;rw[nA,lMp];by_cases g:l.length=0
 ·rw[aw (show((l.length:Nat):Int)=0 by lia)];exact fz (fz (bad (.inl g)))
 rw[aA (show ¬((l.length:Nat):Int)=0 by lia)];refine fF ⟨_,rfl,lW s (d5 (j:=0) rfl (Il l (by lia))) (j9 ⟨_,rfl,?_⟩)⟩;by_cases u:1<=l.headD 0
 rotate_left
 ·rw[aA u];exact fF ⟨_,rfl,fz (bad (.inr fun h=>u h.1))⟩
 rw[aw u];refine fz (j9 ⟨_,rfl,?_⟩);by_cases o:l.headD 0<=8
 rotate_left
 ·rw[aA o];exact fz (bad (.inr fun h=>o h.2))
 rw[aw o];refine fF ?_;simp only[ah (show ¬(l.length=0\/¬(1<=l.headD 0/\l.headD 0<=8)) from fun h=>h.elim g fun h=>h ⟨u,o⟩)] at A;refine⟨_,rfl,a,_,rfl,.inl s,_,_,rfl,rfl,j9 ⟨(by show(0:Int)<7;decide),rfl,_,rfl,?_⟩⟩;rw[nA,lMp];by_cases I:(l.length - 1) % 7=0
 rotate_left
 ·rw[aA (show ¬((((l.length:Nat):Int) - 1) % 7=0) by lia)];have:=A _ (.refl _);rw[ai I] at this;exact fz this
 rw[aw (show(((l.length:Nat):Int) - 1) % 7=0 by lia)];refine fF ?_;simp only[ah (show ¬(l.length - 1) % 7≠0 from fun h=>h I)] at A;refine⟨_,rfl,a,l,rfl,s,by lia,l2,fun z H1 s1 hz=> ?_⟩;obtain⟨N,rv,rfl,_,k,t⟩:=hz;have E:=t.length;have l7:=uA l I;refine⟨_,rfl,N,_,rfl,.inl (.of k),_,_,rfl,rfl,_,rfl,?_⟩;rw[E];by_cases h4:10<(dU l).length
 ·rw[aw (show(((dU l).length:Nat):Int)>10 by lia)];have:=A _ s1;rw[ai h4] at this;exact fz this
 rw[aA (show ¬(((dU l).length:Nat):Int)>10 by lia)];refine fF ?_;simp only[ah h4] at A;refine⟨_,rfl,N,rfl,⟨_,.of k⟩,fun D hD=>oC (fL (.of k)) hD (fun i _ acc=>acc=(((dU l).take i).map fun r=>V.bl (iW r))) rfl ?_ ?_⟩
 ·rintro i x H2 H3 acc hi p F d q ab O X;obtain⟨r,f,pr⟩:=t.nv X;have la:acc.length<=i:=by rw[d,lMp,aP];lia
  refine⟨rfl,⟨_,rfl,_,r,rfl,(gS.same pr q).at_,l7 r (aH f),fun H4 n=> ?_⟩⟩;refine gz hD (q.trans n) (n _ _ O) (dI (by lia)) ?_;rw[d,eX _ _ _ _ f]
 ·intro H2 acc p F d;have q:=s1.trans p;rw[E,aQ] at d;refine⟨D,(dU l).map iW,rfl,.of ?_,_,rfl,?_⟩
  ·rw[F,d,aN];rfl
  rw[List.all_map];show if(!(dU l).all iW)=true then _ else _;by_cases S:(dU l).all iW=true
  rotate_left
  ·rw[show(dU l).all iW=false by simpa using S];have:=A _ q;rw[ai S] at this;exact fz this
  rw[S];refine fF ?_;simp only[ah (fun h:¬(dU l).all iW=true=>h S)] at A;have b:=p _ _ k;refine⟨_,rfl,N,rfl,⟨_,.of b⟩,fun D2 m=>oC (fL (.of b)) m (fun i _ acc=>acc.length=(((dU l).take i).filter fun r=>decide (r.getD 0 0=13)).length) rfl ?_ ?_⟩
  ·rintro i x H4 H5 acc hi n C d M ac y X;obtain⟨r,f,xa,rfl,_,aa⟩:=t.nv X;have L:=M _ _ (p _ _ aa);have r7:=l7 r (aH f);have la:acc.length<=i:=by
    rw[d];refine aB (cR _ _) ?_;rw[aP];lia
   have R:(dU l).take (i+1)=(dU l).take i ++ [r]:=by
    rw[bo,f];rfl
   refine⟨rfl,⟨_,rfl,lW (.of L) (d5 (j:=0) rfl (jf (by lia))) ⟨rfl,_,rfl,?_⟩⟩⟩;rw[nA];by_cases B:r.getD 0 0=13
   ·rw[aw B];refine fz ⟨_,rfl,gz m M y (dI (by lia)) ?_⟩;rw[R,cj,aJ,aJ,d,bh (by exact aw B)];rfl
   ·rw[aA B];refine fF ⟨M,acc,y,?_⟩;show acc.length=_;rw[R,cj,aJ,d,bu (by rw[aA B];simp)];rfl
  ·intro H4 acc n C d;rw[E,aQ] at d;refine⟨D2,_,rfl,.inl (.of C),_,_,rfl,rfl,?_⟩;have k4:=A _ (q.trans n);have e:decide (((dU l).filter fun r=>decide (r.getD 0 0=13)).length<=3)=decide (((acc.length:Nat):Int)<=3):=by
    rw[bg,a4,a4];lia
   rw[e] at k4;exact k4
abbrev mE:Stmt:=top 103
theorem C1:dD ["net","row"] ["net"] (dk mE):=sco
def C2(K:PySem.W.Frag)(c:Cs):Sp:=fun A H Q _=>∃a l,A=[.ref a]/\oK K H a (l.map V.int)/\1<=l.length/\l.length<=200/\(l.length - 1) % 7=0/\∀z d,dN H d->uL c d z (gV l)->Q z d
theorem iR.over (h:iR c H v p)(A:H D=some (.lst d)):iR c (upd H D (.lst l)) v p:=let ⟨t,i,e,q⟩:=h;⟨t,i,e,by rw[dY (Ki q A (by intro z;cases z))];exact q⟩
abbrev qw P w K mg base c:=iT P w K mg base "read_network" ["net"] 3 (C2 K c)
theorem C3(T:Txt4 mg)(O:hE K c)(lY:vV P w K mg base)(J:NQ P w K mg base "Part" c.part ["self","numbers"] 1 (LL K c.part))(BX:NQ P w K mg base "Network" c.eQ ["self","last_node","parts"] 1 (CD c.eQ))(G:jc K mg "read_network" mE ["net"]):qw P w K mg base c:=by
 have S:=C1;refine G.jy S ?_;rintro _ _ _ _ _ _ _ _ _ H ⟨a,l,rfl,N,l1,l2,R,g⟩;refine⟨rfl,_,(dq (dE (Fw BX H (c9 (d8 (jq K) (pv 0) dC (fun _ _=>rfl)) (c9 (mO rfl S.nd (fK (dB lY H (c9 (pv 0) de))) (fC (own:=[("row",1)]) (by show mV ["net","row"] (dk mE) _ _=true;decide +kernel)) (fun _ _ _ _ _=>(fk (i:=1) S.nd)) (fun _ _ _ _ _=>gh) (fun _ _ _ _ _=>(Fw J H (c9 (pv 1) de)))) de))))),?_⟩;refine⟨_,rfl,lW N (d5 (j:=0) rfl (Il l (by lia))) ?_⟩;refine⟨_,rfl,a,l,rfl,N,l1,l2,fun z H1 s1 hz=> ?_⟩;obtain⟨ra,rv,rfl,_,s,n⟩:=hz;have lr:=n.length;have l7:=uA l R;have ln:=mD l;refine⟨ra,rfl,⟨_,.of s⟩,fun D Q=>oC (fL (.of s)) Q (fun i H' acc=>Paired (iR c H') acc (((dU l).take i).map di.Part.of)) .nil ?_ ?_⟩
 ·rintro i x m v acc hi E u d B F I hx;obtain⟨r,p,xa,rfl,_,M⟩:=n.nv hx;have la:=d.length;rw[lMp,aP] at la;refine⟨rfl,⟨_,rfl,fun f A e t ne=> ?_⟩⟩;have s4:dN v (upd (upd v A (.own f)) f (.ins c.part A [])):=dN.made e t (fun b o h _=>h);refine⟨f,A,xa,r,rfl,dj,s4 _ _ (B _ _ M),l7 r (aH p),fun H4 k4 y=>⟨rfl,?_⟩⟩;have C:dN v H4:=dN.made e t k4;have k:=C _ _ I;refine gz Q (B.trans C) k (dI (by lia)) ?_;rw[eX _ _ _ _ p];exact(d.h9 fun _ _ q=>(q.same (F.trans C)).over k).kU (iR.over ⟨f,A,rfl,y⟩ k)
 ·intro m acc E u d;rw[lr,aQ] at d;refine fun f A e t ne=>⟨f,A,_,_,rfl,dj,fun v X L=>⟨rfl,?_⟩⟩;have B:dN m v:=dN.made e t X;exact g _ _ ((s1.trans E).trans B) ⟨f,A,_,rfl,L,D,acc,rfl,B _ _ u,d.h9 fun _ _ q=>q.same B⟩
structure NIn(l:List Int):Prop where
 len:1<=l.length
 m7:(l.length - 1) % 7=0
 l1:1<=l.headD 0
 l8:l.headD 0<=8
 dc:(gV l).dc.length<=10
 pin:∀p∈(gV l).dc,Pn p
theorem LZ (h:oN l=true):NIn l:=by
 unfold oN at h;by_cases d:l.length=0\/¬(1<=l.headD 0/\l.headD 0<=8)
 ·rw[ai d] at h;cases h
 rw[ah d] at h;by_cases A:(l.length - 1) % 7=0
 rotate_left
 ·rw[ai A] at h;cases h
 rw[ah (fun q=>q A)] at h;by_cases B:10<(dU l).length
 ·rw[ai B] at h;cases h
 rw[ah B] at h;by_cases i:(dU l).all iW=true
 rotate_left
 ·rw[ai i] at h;cases h
 have k:1<=l.headD 0/\l.headD 0<=8:=bt fun q=>d (.inr q);have v:¬l.length=0:=fun q=>d (.inl q);refine⟨by lia,A,k.1,k.2,?_,fun p x=> ?_⟩
 ·show((dU l).map di.Part.of).length<=10;rw[lMp];lia
 ·obtain⟨r,f,rfl⟩:=aV.mp (show p∈(dU l).map di.Part.of from x);exact VA (bU.mp i r f) (uA l A r f)
abbrev nV:Stmt:=top 116
theorem Az:dD ["net","fault"] ["net"] (dk nV):=sco
def AA(K:PySem.W.Frag):Sp:=fun d H Q _=>∃a l,d=[.ref a]/\oK K H a (l.map V.int)/\l.length<=200/\BS H Q (gi l)
abbrev sQ P w K mg base:=iT P w K mg base "refusal_of_net" ["net"] 5 (AA K)
theorem AB(T:Txt4 mg)(j:sP P w K mg base)(N:qw P w K mg base c)(I:xp P w K mg base c)(G:jc K mg "refusal_of_net" nV ["net"]):sQ P w K mg base:=by
 have n:=Az;refine G.jy n ?_;rintro _ _ _ _ _ _ _ _ _ h ⟨a,l,rfl,b,u,d⟩;refine⟨rfl,_,(dh (fS (oB (fG K (dB j h (c9 (pv 0) de)) (fun _=>rfl))) (dq (dE (d9 (c9 (jb gF dC) de)))) fc)
   (dh (dX (i:=1) n.nd (dB I h (c9 (dB N h (c9 (pv 0) de)) de)))
   (dq (dE (jQ (fG K (pv 1) (fun _=>rfl)) (eZ A2 (d9 (c9 (jb gF dC) de)) (pv 1)) (d9 de)))))),?_⟩
 unfold gi at d;refine⟨_,rfl,a,l,rfl,b,u,fun E e=>⟨_,rfl,?_⟩⟩;cases t:oN l with
 |false=>
  rw[ai t] at d;exact fz ⟨_,rfl,dy (by simp),fun p f=>d _ _ (e.trans (dz f)) ⟨p,rfl,dj⟩⟩
 |true=>
  rw[ah (by rw[t];simp)] at d;have B:=LZ t;refine fF ⟨_,rfl,a,l,rfl,e.seq b,B.len,u,B.m7,fun z Q L F=> ?_⟩;refine⟨_,gV l,rfl,F,by have:=B.dc;lia,B.pin,fun q D X y A=> ?_⟩;have v:=(e.trans L).trans y;refine⟨_,rfl,_,NJ A,?_⟩;cases k:di.fault (gV l) with
  |nil=>
   rw[k] at d;exact fF ⟨aR _,fun p f=>d _ _ (v.trans (dz f)) ⟨p,rfl,dj⟩⟩
  |cons x H=>
   rw[k] at d A;refine fz ⟨_,rfl,dy (by simp),fun p f=> ?_⟩;have s:=dz (o:= .lst [.int (-2)]) f;have M:H.length<=1:=by
    have:∀m,(lF (gV l) m).length<=2:=fun m=>by
     induction m with
     |zero=>simp[lF]
     |succ m S=>
      unfold lF;dsimp only[];split
      ·simp
      ·exact S
    have:=this (gV l).dc.length;unfold di.fault at k;rw[k,ak] at this;lia
   refine⟨_,rfl,p,q,_,_,rfl,rfl,dj,s _ _ A,dy (by simp;lia),fun C r=> ?_⟩;exact d _ _ (v.trans (s.trans (dz r))) ⟨C,rfl,dj⟩
theorem Uy {l:List Int}(h:ib l<=2^b)(d:x∈l):Sz (b+1) x:=by
 unfold Sz;have i:=Ds d;have A:2^(b+1)=2^b*2:=Nat.pow_succ 2 b;have f:1<=2^b:=Nat.one_le_two_pow;lia
theorem Oc (h:l≠[]):di.lc l∈l:=by
 unfold di.lc;exact di.memD (by have:=aq.mpr h;lia)
theorem X7 (h:x<=2^b)(A:b+1<9000):x.log2<9000:=by
 by_cases d:x=0
 ·rw[d];decide
 ·rw[Nat.log2_lt d];refine Nat.lt_of_le_of_lt h ?_;exact Nat.pow_lt_pow_right (by decide) (by lia)
theorem JZ {l:List Int}(h:ib l<=2^b):Sz (b+1) (fA l):=by
 cases l with
 |nil=>
  unfold Sz;show 0<2^(b+1);exact Nat.two_pow_pos _
 |cons a l=>exact Uy h aC
theorem Sz.mono (h:Sz m z)(d:m<=n):Sz n z:=a8 h (bA (by decide) d)
theorem Od{l r:List Int}(i:EB l)(d:EB r):∀x∈l,∀y∈r,IntMulOk x y:=fun x A y f=>(Uy i.ib A).mul (Uy d.ib f) (by decide)
theorem Uz (y:n<=30)(a:∀i j,i<n->j<n+1->Bd (A i j) 1 (2^246)):∀(f k:Nat) (t:List (List (List Int))) (before:List Int) (σ:Nat->Nat) (ε:PF),f+k=n->Yi n k A t before σ ε->FC f k t before
 |0,_,_,_,_,_,_,_=>trivial
 |f+1,k,t,before,σ,ε,X,S=>by
  intro c Q;have v:k<n:=by lia
  have p:=S.tab.len;obtain⟨M,D,r⟩:=tj t k _ c (by lia) Q;have z:∀i j,i<n->j<n+1->lj (A i j):=fun i j u q=>by
   obtain⟨l,p,e,_,_⟩:=(a i j u q).ex;exact⟨l,p,e⟩
  refine⟨fun i u o j q B=> ?_,?_⟩
  ·have d:i<n:=by lia
   have b:j<n+1:=by
    have e:(o9 t c k).getD i []=t.getD (di.sw c k i) []:=Dp t c k i (by lia) (by lia);rw[e,S.tab.row _ (qQ (by lia) v d)] at B;exact B
   obtain⟨x,bne,H,G,C,F,m,I,E,L⟩:=Th y a v S c (by lia) (by lia) r d o q b;have s:∀l,EB l->l.length<100000:=fun l h=>by have:=h.len;lia
   refine⟨s _ H,s _ G,s _ C,s _ F,s _ x,Od H G,Od C F,S.KS,bne,?_,m,I,L,Od E x⟩;exact X7 (aB (Ds (Oc bne)) x.ib) (by decide)
  ·obtain⟨ε',N⟩:=KU z v S c (by lia) (by lia) r;exact Uz y a f (k+1) _ _ _ ε' (by lia) N
section
variable {n:di.Nw}(R:di.Right n){g:di.mY}(S:di.Q0 n g){G:Wh.Setting}(S2:di.m8 n g G)(hst:g.gZ.length=n.dc.length)(hdr:g.drives.length=n.dc.length)
include R S S2 hst hdr
theorem UA:Qj g:=by
 have d:=S.eQ;have un:=Tf R;have m:=R.dc;have N:=R.l1;have L:=R.l8;have I:(iD g).length=(dw n).unknowns:=by rw[(wx R S2).len,lA]
 have tab:=zC R S2;have B:∀k,pat g k=n.dc.getD k p0:=fun k=>by
  show g.eQ.dc.getD k p0=_;rw[d]
 refine⟨⟨by rw[d];lia,by rw[d];exact hst,by rw[d];exact hdr,S.s⟩,by rw[d];lia,by rw[d];lia,?_,?_,?_,?_,?_,?_⟩
 ·intro p u q;rw[d] at u⊢;obtain⟨i,A,e⟩:=br u;have b:n.dc.getD i p0=p:=by rw[gDe,af A,e];rfl
  have ab:=R.ab A (by rw[b];exact q);have cd:=R.cd A;have l:=R.p A;rw[b] at ab cd l;exact⟨⟨l.a0,ab.1⟩,⟨l.b0,ab.2⟩,fun h=>⟨⟨l.c0,(cd (.inr (.inr (.inl h)))).1⟩,⟨l.d0,(cd (.inr (.inr (.inl h)))).2⟩⟩⟩
 ·intro k f;rw[d] at f;have l:=R.p f;have z:=R.Yk f;refine⟨?_,?_,?_⟩
  ·rw[B];exact⟨l.k0,l.k1⟩
  ·intro v;rw[B] at v;intro x o;rw[d] at o⊢;exact Er R v f x o
  ·intro a;rw[B] at a;show 0<=(pat g k).c/\(pat g k).c<(g.eQ.dc.length:Int);rw[B,d];have:=(z a).1;exact⟨l.c0,by lia⟩
 ·refine⟨?_,?_,fun y r t H=> ?_,by lia⟩
  ·rw[d,R.Bj];lia
  ·rw[d,R.Bj];lia
  ·obtain⟨C,v,q,_⟩:=(Te R S y r).1.at_ t H;rw[d];exact⟨C,v,by lia⟩
 ·rw[tab.len];lia
 ·intro i A;rw[tab.len] at A⊢;exact tab.row i A
 ·rw[tab.len];exact Uz un (fun i j A F=>Po R S S2 A F) _ 0 _ _ _ 1 (by lia) (Hu _ _ tab)
end
theorem UB (R:di.Right n){st:List Bool}(h:st∈fg n.dc [[]]):Qj (oy n st):=by
 obtain⟨r,d⟩:=Lk h;exact UA R (Ww R st) (M9 R d) d.1 (lMp ..)
theorem Ro (x:A.length=u)(v:d.length<=31)(k:∀c,c<u->(A.getD c []).length<=31):FJ (d,A):=by
 refine⟨by show d.length<_;lia,fun l f=> ?_⟩;obtain⟨i,B,e⟩:=br f;have:=k i (by have:i<A.length:=B;lia);rw[gDe,af B] at this;rw[<-e];show(A[i]).length<_;have h:(A[i]).length<=31:=this;lia
theorem V6 (R:di.Right n)(l:m8 n g G){d:List Int}{A:List (List Int)}(h:di.sol (di.rows g)=some (d,A)):A.length=(dw n).unknowns:=by
 rcases ML (zC R l) with⟨d',tops',e,so⟩ |⟨e,_⟩
 ·rw[h] at e;cases e;exact so.len
 ·rw[h] at e;cases e
theorem ZC (R:di.Right n)(H:n.dc.length<=10):X3 n:=by
 refine⟨H,fun i h=>UB R h,fun i h s G k l S=> ?_⟩;obtain⟨r,q⟩:=Lk h;obtain⟨d,A⟩:=s;have y:=M9 R q;obtain⟨⟨I,z⟩,B⟩:=Ti R (Ww R i) y G;have m:A.length=(dw n).unknowns:=V6 R y G;have f:=R.p l;have x:(n.dc.getD k p0).kind≠3:=by
  have:(n.dc.getD k p0).kind=13:=S;lia
 have ab:=R.ab l x;have E:=zD n;have Q:=R.l1;have pl:=R.place l;have F:=zE R l x;have e:(di.places (oy n i).eQ).getD k 0=(((dw n).at_ k:Nat):Int):=pl;have u:∀v:Int,v<=n.last->ib (lI (d,A) v)<=2^7530:=fun v N=>by
  unfold lI;by_cases h:0<v
  ·rw[ai h];exact(B _ (by lia)).2
  ·rw[ah h];exact aR _
 refine⟨l,q.1,?_,?_,?_,?_,Ro m I (fun c j=>(B c j).1),?_,?_,?_,?_,?_⟩
 ·rw[e];lia
 ·rw[e];show _<(A.length:Int);lia
 ·show(n.dc.getD k p0).a<=(A.length:Int);have:=ab.1;lia
 ·show(n.dc.getD k p0).b<=(A.length:Int);have:=ab.2;lia
 ·exact(JZ z).mono (by decide)
 ·unfold pO;rw[e,bK];exact(JZ (B _ F).2).mono (by decide)
 ·unfold qP Dk;refine(JZ (b:=7531) ?_).mono (by decide);unfold wI Gm;refine aB (Jo _) (aB (vD _ _) ?_);rw[Pg,show(7531:Nat)=7530+1 from rfl,Nat.pow_succ];have o:=u _ ab.1;have C:=u _ ab.2;have L:(oy n i).eQ=n:=rfl;rw[L];generalize (2:Nat)^7530=X at o C⊢;lia
 ·exact V4 f.t
 ·refine V4 ?_;have o:=f.b1;have C:=f.b2;show(n.dc.getD k p0).dG.natAbs<=_;lia
theorem UC (t:b<=134217728)(A:right≠[]):∀(f:Nat) (rest:List Int),WM b f rest right->Yo f rest right
 |0,_,_=>trivial
 |f+1,rest,h=>by
  rcases h with h |⟨⟨γ,δ,n,B,v⟩,k⟩
  ·exact .inl h
  ·by_cases q:rest.length<right.length
   ·exact .inl q
   have a:rest≠[]:=fun z=>q (by rw[z];exact aq.mpr A);have i:∀x∈rest,Sz γ x:=fun x d=>by
    have:=B.mem d;unfold Sz;have:=Nat.two_pow_pos γ;lia
   have l:∀x∈right,Sz δ x:=fun x d=>by
    have:=v.mem d;unfold Sz;have:=Nat.two_pow_pos δ;lia
   refine .inr ⟨fun x d=>(l _ (Oc A)).mul (i x d) (by lia),fun y e=>(i _ (Oc a)).mul (l y e) (by lia),UC t A f _ k⟩
def UD(H:Hp)(v:V)(l:List (List Int)):Prop:=∃a d,v= .ref a/\H a=some (.lst d)/\Paired (fI H) d l
theorem UD.same (h:UD H v l)(s:dN H d):UD d v l:=by
 obtain⟨a,A,e,q,r⟩:=h;exact⟨a,A,e,s _ _ q,r.h9 fun _ _ z=>z.same s⟩
def AD(L:List Addr)(H:Hp)(v:V)(l:List Int):Prop:=fI H v l/\∀d∈L,v≠.ref d
theorem AD.same (h:AD L H v l)(s:dN H d):AD L d v l:=⟨h.1.same s,h.2⟩
theorem AD.over (h:AD L H v l)(d:D∈L):AD L (upd H D o) v l:=by
 obtain⟨⟨a,rfl,e⟩,n⟩:=h;exact⟨⟨a,rfl,by rw[dY (fun q=>n D d (by rw[q]))];exact e⟩,n⟩
theorem AD.of {H:Hp}(k:H p=none)(B:∀d∈L,∃o,H d=some o)(h:A p=some (.lst (l.map V.int))):AD L A (.ref p) l:=⟨⟨p,rfl,h⟩,fun d f e=>by
 cases e;obtain⟨o,i⟩:=B _ f;rw[k] at i;cases i⟩
theorem Im:∀(m:List Int) (x y:Int),wK (m ++ [x,y])=wK (m ++ [x])+(if decide (0<y)=decide (0<x) then 0 else 1)
 |[],x,y=>by
  show _+ 0=0+_;lia
 |[a],x,y=>by
  show _+ (_+ 0)=(_+ 0)+_;lia
 |a::b::m,x,y=>by
  show _+ wK (b::m ++ [x,y])=_+ wK (b::m ++ [x])+_;rw[Im (b::m) x y];lia
theorem Rq (l:List Int)(i)(h:i+1<l.length):wK (l.take (i+2))=wK (l.take (i+1))+(if decide (0<l.getD (i+1) 0)=decide (0<l.getD i 0) then 0 else 1):=by
 have d:l.take (i+1)=l.take i ++ [l.getD i 0]:=pP l i (by lia);have A:l.take (i+2)=l.take i ++ [l.getD i 0,l.getD (i+1) 0]:=by
  rw[pP l (i+1) h,d,cu];rfl
 rw[d,A,Im]
abbrev mF:Stmt:=top 111
theorem C4:dD ["numbers","k"] ["numbers"] (dk mF):=sco
def C5:Sp:=fun A H Q _=>∃v l,A=[v]/\fI H v l/\Short l/\l≠[]/\∀d,dN H d->Q (.int (wK l:Nat)) d
abbrev vW P w K mg base:=iT P w K mg base "sign_changes" ["numbers"] 1 C5
theorem C6(T:Txt mg)(G:jc K mg "sign_changes" mF ["numbers"]):vW P w K mg base:=by
 have n:=C4;refine G.jy n ?_;rintro _ _ _ _ _ H _ _ _ L ⟨v,l,rfl,⟨a,rfl,r⟩,y,S,k⟩;unfold Short at y;have pl:0<l.length:=aq.mpr S;refine⟨rfl,_,(dq (dE (eC (eY K) rfl T.g8 eh (c9 (mO rfl n.nd (AW rfl T.kn (c9 dC (c9 (eC (eY K) rfl T.g8 eh (c9 (pv 0) de)) de))) (fC (own:=[("k",1)]) (by show mV ["numbers","k"] (dk mF) _ _=true;decide +kernel)) (fun _ _ _ _ _=>(fk (i:=1) n.nd)) (fun _ _ _ _ _=>(IM (e9 Ce (gY uH (d8 (jq K) (pv 0) (pv 1) (fun _ _=>rfl)) dC (eO _)) (gY uH (d8 (jq K) (pv 0) (eZ jE (pv 1) dC) (fun _ _=>rfl)) dC (eO _)) (eO _)))) (fun _ _ _ _ _=>(pv 1))) de)))),?_⟩;refine⟨_,rfl,a,_,rfl,.inl (.of r),_,_,rfl,⟨by decide,by decide,by rw[lMp];lia,by rw[lMp];lia⟩,?_⟩;have C:(((l.map V.int).length:Int) - 1).toNat=l.length - 1:=by rw[lMp];exact Int.toNat_sub l.length 1
 rw[C];refine fun D s=>oC (l6 H 1 _) s (fun i _ acc=>acc.length=wK (l.take (i+1))) (by
  have:l.take 1=[l.getD 0 0]:=pP l 0 pl;show 0=wK (l.take 1);rw[this];rfl) ?_ ?_
 ·rintro i x o Q acc N p B d t F f rfl;have u:i+1<l.length:=Nat.add_lt_of_lt_sub N
  have E:acc.length<=i+1:=by
   rw[d];have:∀m:List Int,wK m<=m.length:=fun m=>by
    induction m with
    |nil=>exact aj _
    |cons a m I=>
     cases m with
     |nil=>exact aR _
     |cons b m=>
      show(if _ then 0 else 1)+wK (b::m)<=(b::m).length+1;split <;>lia
   exact aB (this _) (by rw[aP];lia)
  have h:=t _ _ r;have A:=Rq l i u;refine⟨rfl,⟨_,rfl,_,rfl,lW (.of h) (d5 (j:=i+1) (by lia) (jf (by lia))) (j9 ⟨_,rfl,_,rfl,j9 (lW (.of h) (d5 (j:=i) (by lia) (jf (by lia))) (j9 ⟨rfl,_,rfl,?_⟩))⟩)⟩⟩;by_cases q:decide (0<l.getD (i+1) 0)=decide (0<l.getD i 0)
  ·rw[ai q] at A;have e:(!decide (V.bl (decide (l.getD (i+1) 0>0))=V.bl (decide (l.getD i 0>0))))=false:=by
    rw[aw (show V.bl (decide (l.getD (i+1) 0>0))=V.bl (decide (l.getD i 0>0)) from congrArg V.bl q)];rfl
   rw[e];exact fF ⟨t,acc,f,by rw[A];exact d⟩
  ·rw[ah q] at A;have e:(!decide (V.bl (decide (l.getD (i+1) 0>0))=V.bl (decide (l.getD i 0>0))))=true:=by
    rw[aA (show ¬V.bl (decide (l.getD (i+1) 0>0))=V.bl (decide (l.getD i 0>0)) from fun z=>q (V.bl.inj z))];rfl
   rw[e];refine fz ⟨_,rfl,?_⟩;refine gz s t f (dI (by lia)) ?_;rw[A,aJ,d];rfl
 ·intro o acc p B d;rw[show l.length - 1+1=l.length from Nat.succ_pred_eq_of_pos pl,aQ] at d;refine⟨D,_,rfl,.inl (.of B),?_⟩;rw[d];exact k o p
noncomputable def WN(l:List Int)(o j:Nat):Int:=if j % 2=o then(if j % 4<2 then l.getD j 0 else -l.getD j 0) else 0
abbrev mG:Stmt:=top 107
theorem yE:dD ["polynomial","oddness","result","power","x","turned"] ["polynomial","oddness"] (dk mG):=sco
def yF:Sp:=fun d H Q _=>∃v l,∃o:Nat,d=[v,.int (o:Nat)]/\fI H v l/\Short l/\uP H Q (dH l o)
abbrev rm P w K mg base:=iT P w K mg base "part_along_axis" ["polynomial","oddness"] 2 yF
theorem yG(T:Txt mg)(J:BA P w K mg base)(G:jc K mg "part_along_axis" mG ["polynomial","oddness"]):rm P w K mg base:=by
 have B:=yE;refine G.jy B ?_;rintro _ _ _ _ s H _ _ _ g ⟨v,l,o,rfl,⟨a,rfl,N⟩,hl,k⟩;unfold Short at hl;refine⟨rfl,_,(dh (dX (i:=2) B.nd (d9 de))
   (dh (hW PassesOwn.never rfl (oQ rfl T.gK (c9 (pv 0) de)) (j8 K (n:=2) rfl (fu (fk (i:=3) B.nd) (fu (fk (i:=4) B.nd) j7))) (dh (dX (i:=5) B.nd (jQ (e9 R5 (eZ AX (pv 3) dC) dC (eO _)) (pv 4) (jb gF (pv 4))))
   (dq (iU (oM aZ a6 a7 gN (pv 2) (c9 (jQ (e9 iV (eZ AX (pv 3) dC) (pv 1) (eO _)) (pv 5) dC) de))))))
   (dq (dE (dB J g (c9 (pv 2) de)))))),?_⟩
 refine⟨aR _,fun p e=> ?_⟩;have M:=dz (o:= .lst []) e;refine⟨_,rfl,a,_,rfl,.of (M _ _ N),jR (oR (K:=K) (.of N)) (fun i σ m=>∃F S I,σ=[some (.ref a),some (.int (o:Nat)),some (.ref p),F,S,I]/\dN H m/\m p=some (.lst ((List.range i).map fun j=>V.int (WN l o j)))) ⟨none,none,none,rfl,M,dj⟩ (by rintro i σ m ⟨_,_,_,_,s,_⟩;exact s) ?_ ?_⟩
 ·rintro i x σ H1 R hi ⟨F,S,I,rfl,L,f⟩ r X ⟨t,y,rfl,D,O⟩;obtain⟨z,Q,rfl⟩:=jk O;have aa:=fX Q;have ez:l.getD i 0=z:=by rw[gDe,Q];rfl
  have d:=X _ _ f;refine⟨t,_,rfl,.of D,rfl,_,_,rfl,_,_,rfl,rfl,?_⟩;have e4:decide (((i:Nat):Int) % 4<2)=decide (i % 4<2):=by
   rw[bg,a4,a4];lia
  have E:decide (V.int (((i:Nat):Int) % 2)=V.int (o:Nat))=decide (i % 2=o):=by
   rw[bg,a4,a4];constructor
   ·intro h;have:=V.int.inj h;lia
   ·intro h;exact congrArg V.int (by lia)
  have q:((List.range i).map fun j=>V.int (WN l o j)).length<sizeLine:=by rw[lMp,a5];exact dI (by lia)
  have fin:∀C:Int,WN l o i=C->upd R p (.lst (((List.range i).map fun j=>V.int (WN l o j)) ++ [V.int C])) p=some (.lst ((List.range (i+1)).map fun j=>V.int (WN l o j))):=fun C h=>by
   rw[dj,bX,bC,<-h];rfl
  have u:WN l o i=if i % 2=o then(if i % 4<2 then z else -z) else 0:=by
   unfold WN;rw[ez]
  refine⟨_,rfl,j9 ⟨show(0:Int)<4 by decide,j9 ⟨_,rfl,?_⟩⟩⟩;rw[e4];by_cases b:i % 4<2
  ·rw[aw b];refine fz ⟨_,rfl,_,rfl,.inl ⟨rfl,_,.of d⟩,_,rfl,j9 ⟨show(0:Int)<2 by decide,_,rfl,rfl,_,rfl,?_⟩⟩;rw[E];by_cases A:i % 2=o
   ·rw[aw A];exact fz ⟨_,rfl,p,_,_,rfl,rfl,d,q,_,_,_,rfl,r.over e,fin _ (by rw[u,ai A,ai b])⟩
   ·rw[aA A];exact fF ⟨p,_,_,rfl,rfl,d,q,_,_,_,rfl,r.over e,fin _ (by rw[u,ah A])⟩
  ·rw[aA b];refine fF ⟨_,rfl,_,rfl,_,rfl,.inl ⟨rfl,_,.of d⟩,_,rfl,j9 ⟨show(0:Int)<2 by decide,_,rfl,rfl,_,rfl,?_⟩⟩;rw[E];by_cases A:i % 2=o
   ·rw[aw A];exact fz ⟨_,rfl,p,_,_,rfl,rfl,d,q,_,_,_,rfl,r.over e,fin _ (by rw[u,ai A,ah b])⟩
   ·rw[aA A];exact fF ⟨p,_,_,rfl,rfl,d,q,_,_,_,rfl,r.over e,fin _ (by rw[u,ah A])⟩
 ·rintro σ H1 ⟨F,S,I,rfl,L,f⟩;refine⟨_,rfl,_,(List.range l.length).map (WN l o),rfl,⟨p,rfl,by rw[f,lMp,aN];rfl⟩,k.of L⟩
abbrev o6:Stmt:=top 113
theorem GR:dD ["polynomial","power","x"] ["polynomial"] (dk o6):=sco
def GS:Sp:=fun d H Q _=>∃v l,d=[v]/\fI H v l/\Short l/\(∀i:Nat,i<l.length->IntMulOk (i:Int) (l.getD i 0))/\uP H Q (mN l)
abbrev AE P w K mg base:=iT P w K mg base "derivative" ["polynomial"] 1 GS
theorem GU(T:Txt mg)(G:jc K mg "derivative" o6 ["polynomial"]):AE P w K mg base:=by
 have f:=GR;refine G.jy f ?_;rintro _ _ _ _ _ _ _ _ _ M ⟨v,l,rfl,⟨a,rfl,u⟩,N,F,k⟩;unfold Short at N;refine⟨rfl,_,(dq (dE (sr (Yh K) (mO rfl f.nd (oQ rfl T.gK (c9 (pv 0) de)) (fC (own:=[("power",1),("x",2)]) (by show mV ["polynomial","power","x"] (dk o6) _ _=true;decide +kernel)) (fun _ _ _ _ _=>(j8 K (n:=2) rfl (fu (fk (i:=1) f.nd) (fu (fk (i:=2) f.nd) j7)))) (fun _ _ _ _ _=>gh) (fun _ _ _ _ _=>(eZ iA (pv 1) (pv 2)))) (qN dC) De))),?_⟩;refine⟨_,rfl,a,_,rfl,.of u,fun D s=>oC (oR (K:=K) (.of u)) s (fun i _ acc=>acc=(List.range i).map fun j:Nat=>V.int ((j:Int)*l.getD j 0)) rfl ?_ ?_⟩
 ·rintro i x L g acc X h B A I E e ⟨t,y,rfl,S,m⟩;obtain⟨z,r,rfl⟩:=jk m;have b:=fX r;have o:l.getD i 0=z:=by rw[gDe,r];rfl
  refine⟨t,_,rfl,.of S,rfl,_,_,rfl,_,_,rfl,rfl,rfl,⟨_,rfl,_,rfl,j9 ⟨by have:=F i b;rw[o] at this;exact this,?_⟩⟩⟩;refine gz s I e (by rw[A,lMp,a5];exact dI (by lia)) ?_;rw[A,bX,bC,<-o];rfl
 ·intro L acc h B A;refine⟨_,rfl,D,_,rfl,.of B,fun p H=> ?_⟩;refine k p _ (h.free H) (h.trans (dz H)) ?_;rw[dj,A,lMp];unfold wH mN;have C:∀n d:Nat,HT.Gf n d (some 1)=min 1 n:=fun n d=>HT.qM n d 1;rw[C,HT.Ks,lMp,a5,List.map_drop,aN];refine congrArg (fun q=>some (HO.lst q)) ?_;cases Q:l.length with
  |zero=>rfl
  |succ n=>
   rw[show min 1 (n+1)=1 by lia,bH (by rw[bJ,lMp,a5];lia)];rfl
abbrev lU:Stmt:=top 109
theorem wW:dD ["left","right"] ["left","right"] (dk lU):=sco
def wX:Sp:=fun A H Q _=>∃v u a b,A=[v,u]/\fI H v a/\fI H u b/\Short a/\Short b/\di.Trim a/\b≠[]/\Yo (a.length+1) a (if 0<di.lc b then b else mP b)/\∀z d,dN H d->fI d z (jP a b)->Q z d
abbrev qx P w K mg base:=iT P w K mg base "signed_remainder" ["left","right"] 5 wX
theorem wY(C:wC P w K mg base)(r:qX P w K mg base)(G:jc K mg "signed_remainder" lU ["left","right"]):qx P w K mg base:=by
 have o:=wW;refine G.jy o ?_;rintro _ _ _ _ _ _ _ _ _ f ⟨v,u,a,b,rfl,q,⟨n,rfl,l⟩,e,d,x,i,A,k⟩;refine⟨rfl,_,(dq (dE (dB r f (c9 (pv 0) (c9 (jQ (e9 uH (d8 (jq K) (pv 1) (jb gF dC) (fun _ _=>rfl)) dC (eO _)) (pv 1) (dB C f (c9 (pv 1) de))) de))))),?_⟩;unfold jP at k;refine⟨_,rfl,_,rfl,_,rfl,lW (.of l) (xV i) (j9 ⟨_,rfl,?_⟩)⟩;by_cases h:0<di.lc b
 ·rw[ai h] at A k;rw[aw (show di.lc b>0 from h)];exact fz ⟨_,rfl,_,_,_,b,rfl,q,⟨n,rfl,l⟩,e,d,x,i,A,k⟩
 ·rw[ah h] at A k;rw[aA (show ¬di.lc b>0 from h)];refine fF ⟨_,rfl,_,b,rfl,⟨n,rfl,l⟩,d,fun p y F t B=> ?_⟩;exact⟨_,_,a,mP b,rfl,q.same t,⟨p,rfl,B⟩,e,by unfold Short at d⊢;rw[jM];exact d,x,Br i,A,fun z H S s=>k z H (t.trans S) s⟩
def Ys:Nat->List Int->List Int->Prop
 |0,_,_=>True
 |f+1,a,b=>b=[]\/(Yo (a.length+1) a (if 0<di.lc b then b else mP b)/\Ys f b (mP (di.prim (jP a b))))
def ZD:Nat->List Int->Prop
 |0,_=>True
 |f+1,p=>p.length<=1\/((∀i:Nat,i<p.length->IntMulOk (i:Int) (p.getD i 0))/\Ys ((mN p).length+1) p (mN p)/\ZD f ((d6 p (mN p)).getLastD []))
abbrev mI:Stmt:=top 108
theorem yH:dD ["first","second","chain","following"] ["first","second"] (dk mI):=sco
def yI:Sp:=fun A H Q _=>∃v u a b,A=[v,u]/\fI H v a/\fI H u b/\Short a/\b.length<=1000/\di.Trim a/\di.Trim b/\Ys (b.length+1) a b/\∀z d,dN H d->UD d z (d6 a b)->Q z d
abbrev mJ P w K mg base:=iT P w K mg base "remainder_chain" ["first","second"] 42 yI
theorem yJ(kq:wC P w K mg base)(vX:CA P w K mg base)(lV:qx P w K mg base)(G:jc K mg "remainder_chain" mI ["first","second"]):mJ P w K mg base:=by
 have C:=yH;refine G.jy C ?_;rintro _ _ _ _ _ H _ _ _ N ⟨v,u,a,b,rfl,pa,pb,sa,lb,ta,tb,rk,k⟩;unfold Short at sa;refine⟨rfl,_,(dh (dX (i:=2) C.nd (d9 (c9 (pv 0) de)))
   (dh (dX (i:=3) C.nd (pv 1))
   (dh (u0 PassesOwn.never (fG K (pv 3) (fun _=>rfl)) (dh (iU (oM aZ a6 a7 gN (pv 2) (c9 (pv 3) de)))
   (dq (dX (i:=3) C.nd (dB kq N (c9 (dB vX N (c9 (dB lV N (c9 (d8 (jq K) (pv 2) (jb gF dC) (fun _ _=>rfl)) (c9 (pv 3) de))) de)) de))))))
   (dq (dE (pv 2)))))),?_⟩
 refine⟨_,rfl,dy (by show 1<=16777216;decide),fun D E=> ?_⟩;have s1:=dz (o:= .lst [v]) E;have old:∀{x:V} {l:List Int},fI H x l->AD [D] (upd H D (.lst [v])) x l:=fun{x l} I=>⟨I.same s1,fun d hd e=>by
  cases aE.mp hd;obtain⟨q,e',hq⟩:=I;rw[e'] at e;cases e;rw[E] at hq;cases hq⟩
 refine⟨_,rfl,fun m σ S=>∃y g pre p q A,σ=[some v,some u,some (.ref D),some y]/\dN H S/\S D=some (.lst A)/\Paired (AD [D] S) A (pre ++ [p])/\AD [D] S y q/\q.length=m/\A.length+q.length<=b.length+1/\p.length<1000000/\q.length<1000000/\di.Trim p/\di.Trim q/\q.length<g/\Ys g p q/\pre ++ mi g p q=d6 a b,⟨b.length,u,b.length+1,[],a,b,[v],rfl,s1,dj,.cons (old pa) .nil,old pb,rfl,by show 1+b.length<=_;lia,sa,by lia,ta,tb,by lia,rk,rfl⟩,?_⟩;rintro m σ F ⟨y,g,pre,p,q,A,rfl,O,r,s,hy,hm,lw,lp,lq,tp,tq,hg,ck,L⟩;obtain⟨g,rfl⟩:∃g',g=g' +1:=⟨g - 1,by lia⟩;obtain⟨⟨f,rfl,T⟩,af⟩:=id hy;refine⟨_,rfl,_,NJ T,?_⟩;by_cases h:q=[]
 ·subst h;refine fF ⟨_,rfl,k _ _ O ⟨D,A,rfl,r,?_⟩⟩;have e:mi (g+1) p []=[p]:=ai rfl;rw[<-L,e];exact s.h9 fun _ _ z=>z.1
 ·rw[nu h];obtain⟨c1,c2⟩:=ck.resolve_left h;obtain⟨kk,qq,_,_,w1,X⟩:=DB tp tq h;have ae:=s.length;rw[aJ,List.length_singleton] at ae;have pq:0<q.length:=aq.mpr h;refine fz ⟨_,fun σ' S q=>q,_,rfl,.inl ⟨rfl,_,.of r⟩,_,rfl,D,_,_,rfl,rfl,r,dI (by lia),?_⟩;have s4:dN H (upd F D (.lst (A ++ [.ref f]))):=O.over E;have t:upd F D (.lst (A ++ [.ref f])) D=some (.lst (A ++ [.ref f])):=dj;have B:Paired (AD [D] (upd F D (.lst (A ++ [.ref f])))) (A ++ [.ref f]) ((pre ++ [p]) ++ [q]):=(s.h9 fun _ _ z=>z.over (.head _)).kU (hy.over (.head _));generalize upd F D (.lst (A ++ [.ref f]))=H4 at s4 t B;have ab:AD [D] H4 (.ref f) q:=by
   obtain⟨z,j,ad⟩:=B.lC (i:=pre.length+1) (y:=q) (by simp);have:(A ++ [V.ref f])[pre.length+1]? =some (.ref f):=by
    rw[show pre.length+1=A.length by lia];simp
   rw[this] at j;cases j;exact ad
  obtain⟨zp,M,Q⟩:=B.lC (i:=pre.length) (y:=p) (by simp);have R:Ku (A ++ [V.ref f]) (-2)=some zp:=by
   unfold Ku Qz;rw[ah (by decide),ai (by rw[aJ,List.length_singleton];lia)];show(A ++ [V.ref f])[(-2+((A ++ [V.ref f]).length:Int)).toNat]? =_;rw[show(-2+((A ++ [V.ref f]).length:Int)).toNat=pre.length by rw[aJ,List.length_singleton];lia];exact M
  refine⟨_,rfl,_,rfl,lW (.of t) R ⟨_,rfl,_,_,p,q,rfl,Q.1,ab.1,lp,lq,tp,h,c1,fun z1 H5 s5 pz=> ?_⟩⟩;refine⟨_,_,rfl,pz,by unfold Short;lia,X,fun d H6 hd s6 J=> ?_⟩;refine⟨_,_,rfl,⟨d,rfl,J⟩,by unfold Short;rw[ly];lia,fun e H7 he s7 aa=> ?_⟩;have n:=s5.trans (s6.trans s7);have ac:=s5.trans s6;refine⟨_,by rw[<-hm];exact w1,.ref e,g,pre ++ [p],q,_,A ++ [.ref f],rfl,s4.trans n,n _ _ t,B.h9 fun _ _ z=>z.same n,AD.of he (fun x I=>by cases aE.mp I;exact⟨_,ac _ _ t⟩) aa,by rw[jM,ly],?_,lq,?_,tq,vo (sy X),?_,c2,?_⟩
  ·rw[aJ,List.length_singleton,jM,ly];lia
  ·rw[jM,ly];lia
  ·rw[jM,ly];lia
  ·rw[<-L,cu];congr 1;show _=if q=[] then[p] else p::mi g q (mP (di.prim (jP p q)));rw[ah h];rfl
abbrev AF:Stmt:=top 110
theorem UE:dD ["chain","below","polynomial","above"] ["chain"] (dk AF):=sco
def UG:Sp:=fun A H Q _=>∃v l,A=[v]/\UD H v l/\l.length<=2000/\l≠[]/\(∀x∈l,x≠[])/\∀d,dN H d->Q (.int (di.jmp l)) d
abbrev J1 P w K mg base:=iT P w K mg base "jumps" ["chain"] 2 UG
theorem UH(T:Txt mg)(j:vW P w K mg base)(G:jc K mg "jumps" AF ["chain"]):J1 P w K mg base:=by
 have p:=UE;refine G.jy p ?_;rintro _ _ _ _ _ _ _ _ _ L ⟨v,l,rfl,⟨a,us,rfl,y,u⟩,ll,l0,ne,k⟩;refine⟨rfl,_,(dh (pI (i:=1) rfl p.nd rfl rfl (sU rfl rfl rfl rfl) (fK (pv 0)) (fC (own:=[("polynomial",2)]) (by show mV ["chain","below","polynomial","above"] (dk AF) _ _=true;decide +kernel)) (fun _ _ _ _ _=>(fk (i:=2) p.nd)) (fun _ _ _ _ _=>gh) (fun _ _ _ _ _=>(jQ (e9 iV (eZ AX (eC (eY K) rfl T.g8 eh (c9 (pv 2) de)) dC) dC (eO _)) (d8 (jq K) (pv 2) (jb gF dC) (fun _ _=>rfl)) (jb gF (d8 (jq K) (pv 2) (jb gF dC) (fun _ _=>rfl))))))
   (dh (pI (i:=3) rfl p.nd rfl rfl (sU rfl rfl rfl rfl) (fK (pv 0)) (fC (own:=[("polynomial",2)]) (by show mV ["chain","below","polynomial","above"] (dk AF) _ _=true;decide +kernel)) (fun _ _ _ _ _=>(fk (i:=2) p.nd)) (fun _ _ _ _ _=>gh) (fun _ _ _ _ _=>(d8 (jq K) (pv 2) (jb gF dC) (fun _ _=>rfl))))
   (dq (dE (eZ jE (dB j L (c9 (pv 1) de)) (dB j L (c9 (pv 3) de))))))),?_⟩
 have N:=u.length;refine⟨_,rfl,a,rfl,⟨_,.of y⟩,fun D z=>oC (fL (.of y)) z (fun i _ acc=>acc=(l.take i).map fun x=>V.int (US x)) rfl ?_ ?_⟩
 ·rintro i x H1 Q acc J s o A t ab B m;obtain⟨r,f,E,rfl,H⟩:=u.nv m;have C:=ne r (aH f);have S:=t _ _ H;have O:decide (V.int (((r.map V.int).length:Int) % 2)=V.int 1)=decide (r.length % 2=1):=by
   rw[lMp,bg,a4,a4];constructor
   ·intro h;have:=V.int.inj h;lia
   ·intro h;exact congrArg V.int (by lia)
  have sz:acc.length<sizeLine:=by rw[A,lMp,aP];exact dI (by lia)
  refine⟨rfl,⟨_,rfl,E,_,rfl,.inl (.of S),j9 ⟨show(0:Int)<2 by decide,rfl,_,rfl,?_⟩⟩⟩;rw[O];by_cases F:r.length % 2=1
  ·rw[aw F];refine fz ⟨_,rfl,_,rfl,lW (.of S) (xV C) ?_⟩;refine gz z t B sz ?_;rw[A,eX _ _ _ _ f];unfold US;rw[ai F]
  ·rw[aA F];refine fF ⟨_,rfl,_,rfl,lW (.of S) (xV C) ⟨_,rfl,?_⟩⟩;refine gz z t B sz ?_;rw[A,eX _ _ _ _ f];unfold US;rw[ah F]
 ·intro H1 acc s o A;rw[N,aQ] at A;refine⟨_,rfl,a,rfl,⟨_,.of (s _ _ y)⟩,fun R B=>oC (fL (.of (s _ _ y))) B (fun i _ acc=>acc=(l.take i).map fun x=>V.int (di.lc x)) rfl ?_ ?_⟩
  ·rintro i x Q H3 n J t o d b aa q m;obtain⟨r,f,E,rfl,H⟩:=u.nv m;have C:=ne r (aH f);refine⟨rfl,⟨_,rfl,_,rfl,lW (.of ((s.trans b) _ _ H)) (xV C) ?_⟩⟩;refine gz B b q (by rw[d,lMp,aP];exact dI (by lia)) ?_;rw[d,eX _ _ _ _ f]
  ·intro Q n t q d;rw[N,aQ] at d;have I:∀g:List Int->Int,l.map g≠[]:=fun g e=>l0 (List.map_eq_nil_iff.mp e);have M:∀g:List Int->Int,Short (l.map g):=fun g=>by unfold Short;rw[lMp];lia
   have m1:acc=(l.map US).map V.int:=by rw[A,aN];rfl
   have X:n=(l.map di.lc).map V.int:=by rw[d,aN];rfl
   refine⟨_,rfl,_,l.map US,rfl,⟨D,rfl,by rw[<-m1];exact t _ _ o⟩,M _,I _,fun H3 b=> ?_⟩;refine⟨_,rfl,_,l.map di.lc,rfl,⟨R,rfl,by rw[<-X];exact b _ _ q⟩,M _,I _,fun H4 s4=> ?_⟩;exact j9 (k _ (s.trans (t.trans (b.trans s4))))
theorem J2 (h:Paired (fI H) d l)(n:l≠[]):∃z,Ku d (-1)=some z/\fI H z (l.getLastD []):=by
 have f:=h.length;have pl:0<l.length:=aq.mpr n;have e:l[l.length - 1]? =some (l.getLastD []):=by
  rw[List.getLastD_eq_getLast?,cH];rw[af (by lia)];rfl
 obtain⟨z,i,A⟩:=h.lC e;refine⟨z,?_,A⟩;unfold Ku Qz;rw[ah (by decide),ai (by lia)];show d[(-1+(d.length:Int)).toNat]? =_;rw[zPr,f];exact i
theorem FY (f:di.Trim a)(k:di.Trim b)(i:a≠[]):d6 a b≠[]/\(∀x∈d6 a b,x≠[])/\(d6 a b).length<=b.length+1/\di.Trim ((d6 a b).getLastD [])/\(d6 a b).getLastD []≠[]/\(b≠[]->((d6 a b).getLastD []).length<=b.length)/\((d6 a b).getLastD []).length<=max a.length b.length:=by
 by_cases A:b=[]
 ·subst A;have e:d6 a []=[a]:=rfl;rw[e];refine⟨by simp,fun x d=>by rw[aE.mp d];exact i,by simp,f,i,fun h=>absurd rfl h,by show a.length<=_;lia⟩
 ·obtain⟨t,n,u,l,v⟩:=nj A f k;obtain⟨q,B⟩:=zK k A l;rw[n,rH];have pl:0<((b::t).getLast (by simp)).length:=aq.mpr B;refine⟨by simp,fun x d=> ?_,by rw[ak,ak];lia,q,B,fun _=>by lia,by lia⟩;rcases aL.mp d with rfl |d
  ·exact i
  ·rcases aL.mp d with rfl |d
   ·exact A
   ·exact(l x d).2
abbrev uB:Stmt:=top 112
theorem GV:dD ["polynomial","count","rest","chain"] ["polynomial"] (dk uB):=sco
def GW:Sp:=fun A H Q _=>∃v p,A=[v]/\fI H v p/\p.length<=1000/\di.Trim p/\p≠[]/\ZD p.length p/\∀d,dN H d->Q (.int (UT p)) d
abbrev AG P w K mg base:=iT P w K mg base "real_zeros" ["polynomial"] 43 GW
theorem GX(T:Txt mg)(gd:mJ P w K mg base)(R:AE P w K mg base)(uD:J1 P w K mg base)(G:jc K mg "real_zeros" uB ["polynomial"]):AG P w K mg base:=by
 have d:=GV;refine G.jy d ?_;rintro _ _ _ _ _ H _ _ _ f ⟨v,p,rfl,I,lp,tp,p0,E,k⟩;refine⟨rfl,_,(dh (dX (i:=1) d.nd dC)
   (dh (dX (i:=2) d.nd (pv 0))
   (dh (u0 PassesOwn.never (e9 uH (eC (eY K) rfl T.g8 eh (c9 (pv 2) de)) dC (eO _)) (dh (dX (i:=3) d.nd (dB gd f (c9 (pv 2) (c9 (dB R f (c9 (pv 2) de)) de))))
   (dh (ID (i:=1) d.nd rfl (Or.inl rfl) (dB uD f (c9 (pv 3) de)) IF)
   (dq (dX (i:=2) d.nd (d8 (jq K) (pv 3) (jb gF dC) (fun _ _=>rfl)))))))
   (dq (dE (pv 1)))))),?_⟩
 refine⟨_,rfl,fun m σ t=>∃y cnt g q z,σ=[some v,some (.int cnt),some y,z]/\dN H t/\fI t y q/\q.length=m/\q.length<=1000/\di.Trim q/\q≠[]/\q.length<=g/\ZD g q/\cnt+Gv g q=UT p,⟨p.length,v,0,p.length,p,none,rfl,.refl _,I,rfl,lp,tp,p0,aj _,E,Int.zero_add _⟩,?_⟩;rintro m σ H3 ⟨y,cnt,g,q,z,rfl,u,⟨h,rfl,A⟩,O,lq,x,b,hg,D,a⟩;have pq:0<q.length:=aq.mpr b;obtain⟨g,rfl⟩:∃g',g=g' +1:=⟨g - 1,by lia⟩;refine⟨_,rfl,h,_,rfl,.inl (.of A),j9 ⟨_,rfl,?_⟩⟩;rw[lMp];by_cases B:q.length<=1
 ·rw[aA (show ¬(q.length:Int)>1 by lia)];refine fF ⟨_,rfl,?_⟩;have e:Gv (g+1) q=0:=ai B;rw[e,Int.add_zero] at a;rw[a];exact k H3 u
 ·rw[aw (show(q.length:Int)>1 by lia)];obtain⟨X,z2,z3⟩:=D.resolve_left B;have Q:=zJ x;have S:=DC q;have dn:mN q≠[]:=fun e=>by rw[e] at S;have:0=q.length - 1:=S;lia
  obtain⟨F,M,f3,J,f5,n,_⟩:=FY x Q b;have n:=n dn;refine fz ⟨_,fun σ' t q=>q,_,rfl,_,rfl,_,q,rfl,⟨h,rfl,A⟩,by unfold Short;lia,X,fun e H4 he L o=> ?_⟩;refine⟨_,_,q,mN q,rfl,⟨h,rfl,L _ _ A⟩,⟨e,rfl,o⟩,by unfold Short;lia,by lia,x,Q,z2,fun zc H5 s5 l=> ?_⟩;refine⟨_,rfl,_,rfl,_,_,rfl,l,by lia,F,M,fun H6 r=>j9 ?_⟩;obtain⟨ca,us,rfl,j,s⟩:=l.same r;obtain⟨zl,C,N⟩:=J2 s F;refine⟨_,rfl,_,rfl,lW (.of j) C ?_⟩;refine⟨_,by rw[<-O];exact(by lia:((d6 q (mN q)).getLastD []).length<q.length),zl,_,g,_,_,rfl,u.trans (L.trans (s5.trans r)),N,rfl,by lia,J,f5,by lia,z3,?_⟩;rw[<-a];show _=cnt+(if q.length<=1 then 0 else di.jmp (d6 q (mN q))+Gv g ((d6 q (mN q)).getLastD []));rw[ah B];lia
def zcF(a b d:V):List (Str×V):=jr "right" d (jr "axis" b (jr "left" a []))
abbrev nX:Stmt:=inClass (top 105) 0
theorem AH:dD ["self","left","axis","right"] ["self","left","axis","right"] (dk nX):=sco
def xr(C:Addr):Sp:=fun l H Q _=>∃x A a b d,l=[.ref x,a,b,d]/\H x=some (.ins C A [])/\Fx C x A H Q (zcF a b d)
theorem J3 (O:xZ K C ["left","axis","right"])(G:GN K mg "ZeroCount" "ZeroCount.__init__" C nX ["self","left","axis","right"]):NQ P w K mg base "ZeroCount" C ["self","left","axis","right"] 1 (xr C):=by
 have i:=AH;refine G.Yr i ?_;rintro _ _ _ _ _ _ _ _ _ B ⟨x,l,a,b,d,rfl,f,k⟩;refine⟨rfl,_,(dh (ij (pv 0) (pv 1) rfl)
   (dh (ij (pv 0) (pv 2) rfl)
   (dq (ij (pv 0) (pv 3) rfl)))),?_⟩
 refine⟨_,rfl,_,rfl,x,C,l,_,rfl,f,O.cl,O.at_ 0 rfl,(by show 0<1000;decide),?_⟩;refine⟨_,rfl,_,rfl,x,C,l,_,rfl,dj,O.cl,O.at_ 1 rfl,(by show 1<1000;decide),?_⟩;refine⟨_,rfl,_,rfl,x,C,l,_,rfl,dj,O.cl,O.at_ 2 rfl,(by show 2<1000;decide),?_⟩;exact k _ (fun b o e A=>by rw[dY A,dY A,dY A];exact e) dj
structure ZE(p:List Int):Prop where
 len:p.length<=100
 ne:p≠[]
 go:∀a b,(((p.length - 1) % 2=0/\a=dH p 0/\b=dH p 1)\/((p.length - 1) % 2=1/\a=dH p 1/\b=dH p 0))->a≠[]/\Ys (b.length+1) a b/\ZD ((d6 a b).getLastD []).length ((d6 a b).getLastD [])
def aaI(zc:Addr)(H:Hp)(v:V)(z:Zr):Prop:=∃x d,v= .ref x/\H x=some (.ins zc d (zcF (.int z.left) (.int z.axis) (.int z.right)))
theorem L1 (p:List Int)(o):(dH p o).length<=p.length:=by
 unfold dH;exact aB (DW _) (by rw[lMp,a5];exact aj _)
abbrev sf:Stmt:=top 106
theorem FZ:dD ["polynomial","degree","even","odd","chain","surplus","axis"] ["polynomial"] (dk sf):=sco
def F3(zc:Addr):Sp:=fun A H Q _=>∃v p,A=[v]/\fI H v p/\ZE p/\∀z d,dN H d->aaI zc d z (xT p)->Q z d
abbrev xt P w K mg base zc:=iT P w K mg base "count_zeros" ["polynomial"] 44 (F3 zc)
theorem F4(T:Txt mg)(g:rm P w K mg base)(O:mJ P w K mg base)(uD:J1 P w K mg base)(uE:AG P w K mg base)(vY:NQ P w K mg base "ZeroCount" zc ["self","left","axis","right"] 1 (xr zc))(G:jc K mg "count_zeros" sf ["polynomial"]):xt P w K mg base zc:=by
 have d:=FZ;refine G.jy d ?_;rintro _ _ _ _ _ _ _ _ _ A ⟨v,p,rfl,⟨E,rfl,B⟩,C,k⟩;have lp:=C.len;have pp:0<p.length:=aq.mpr C.ne;have tr:∀o,di.Trim (dH p o):=fun o=>kZ _;refine⟨rfl,_,(dh (dX (i:=1) d.nd (eZ jE (eC (eY K) rfl T.g8 eh (c9 (pv 0) de)) dC))
   (dh (dX (i:=2) d.nd (dB g A (c9 (pv 0) (c9 dC de))))
   (dh (dX (i:=3) d.nd (dB g A (c9 (pv 0) (c9 dC de))))
   (dh (fS (e9 iV (eZ AX (pv 1) dC) dC (eO _)) (dh (dX (i:=4) d.nd (dB O A (c9 (pv 2) (c9 (pv 3) de))))
   (dq (dX (i:=5) d.nd (jb gF (dB uD A (c9 (pv 4) de)))))) (dh (dX (i:=4) d.nd (dB O A (c9 (pv 3) (c9 (pv 2) de))))
   (dq (dX (i:=5) d.nd (dB uD A (c9 (pv 4) de))))))
   (dh (dX (i:=6) d.nd (dB uE A (c9 (d8 (jq K) (pv 4) (jb gF dC) (fun _ _=>rfl)) de)))
   (dq (dE (Fw vY A (c9 (eZ yX (eZ lJ (eZ jE (pv 1) (pv 6)) (pv 5)) dC) (c9 (pv 6) (c9 (eZ yX (eZ jE (eZ jE (pv 1) (pv 6)) (pv 5)) dC) de))))))))))),?_⟩
 refine⟨_,rfl,E,_,rfl,.inl (.of B),j9 ?_⟩;rw[lMp];refine⟨_,rfl,_,p,0,rfl,⟨E,rfl,B⟩,by unfold Short;lia,fun J H1 ab N x=> ?_⟩;refine⟨_,rfl,_,p,1,rfl,⟨E,rfl,N _ _ B⟩,by unfold Short;lia,fun R H2 aa S n=> ?_⟩;have ed:decide (V.int (((p.length:Int) - 1) % 2)=V.int 0)=decide (((p.length:Int) - 1) % 2=0):=by
  rw[bg,a4,a4];exact⟨fun h=>V.int.inj h,fun h=>congrArg V.int h⟩
 have l0:=L1 p 0;have l1:=L1 p 1;refine⟨_,rfl,j9 ⟨show(0:Int)<2 by decide,rfl,_,rfl,?_⟩⟩;rw[ed];unfold xT at k;dsimp only at k;by_cases f:((p.length:Int) - 1) % 2=0
 ·rw[aw f];rw[ai f,ai f] at k;obtain⟨X,I,y⟩:=C.go (dH p 0) (dH p 1) (.inl ⟨by lia,rfl,rfl⟩);obtain⟨b,F,f3,z,Q,_,f7⟩:=FY (tr 0) (tr 1) X;refine fz ⟨_,rfl,_,rfl,_,_,_,_,rfl,⟨J,rfl,S _ _ x⟩,⟨R,rfl,n⟩,by unfold Short;lia,by lia,tr 0,tr 1,I,fun zl H3 L l=> ?_⟩;refine⟨_,rfl,_,_,rfl,l,by lia,b,F,fun H4 r=>⟨_,rfl,?_⟩⟩;obtain⟨ca,us,rfl,s,e⟩:=l.same r;obtain⟨zz,a,H⟩:=J2 e b;refine⟨_,rfl,_,rfl,lW (.of s) a ⟨_,_,rfl,H,by lia,z,Q,y,fun H5 D=> ?_⟩⟩;refine⟨_,rfl,_,rfl,j9 ⟨_,rfl,j9 (j9 ⟨⟨by decide,by decide⟩,_,rfl,_,rfl,_,rfl,j9 ⟨_,rfl,j9 (j9 ⟨⟨by decide,by decide⟩,?_⟩)⟩⟩)⟩⟩;refine fun u t j m ne=>⟨u,t,_,_,_,rfl,dj,fun H6 M q=>⟨rfl,?_⟩⟩;exact k _ _ (N.trans (S.trans (L.trans (r.trans (D.trans (dN.made j m M)))))) ⟨u,t,rfl,q⟩
 ·rw[aA f];rw[ah f,ah f] at k;obtain⟨X,I,y⟩:=C.go (dH p 1) (dH p 0) (.inr ⟨by lia,rfl,rfl⟩);obtain⟨b,F,f3,z,Q,_,f7⟩:=FY (tr 1) (tr 0) X;refine fF ⟨_,rfl,_,rfl,_,_,_,_,rfl,⟨R,rfl,n⟩,⟨J,rfl,S _ _ x⟩,by unfold Short;lia,by lia,tr 1,tr 0,I,fun zl H3 L l=> ?_⟩;refine⟨_,rfl,_,_,rfl,l,by lia,b,F,fun H4 r=> ?_⟩;obtain⟨ca,us,rfl,s,e⟩:=l.same r;obtain⟨zz,a,H⟩:=J2 e b;refine⟨_,rfl,_,rfl,lW (.of s) a ⟨_,_,rfl,H,by lia,z,Q,y,fun H5 D=> ?_⟩⟩;refine⟨_,rfl,_,rfl,j9 ⟨_,rfl,j9 (j9 ⟨⟨by decide,by decide⟩,_,rfl,_,rfl,_,rfl,j9 ⟨_,rfl,j9 (j9 ⟨⟨by decide,by decide⟩,?_⟩)⟩⟩)⟩⟩;refine fun u t j m ne=>⟨u,t,_,_,_,rfl,dj,fun H6 M q=>⟨rfl,?_⟩⟩;exact k _ _ (N.trans (S.trans (L.trans (r.trans (D.trans (dN.made j m M)))))) ⟨u,t,rfl,q⟩
theorem J4 (n)(st):(ji n st (-1)).drives=List.replicate n.dc.length ((0:Int),(1:Int)):=by
 show(List.range n.dc.length).map _=_;rw[List.eq_replicate_iff];refine⟨by rw[lMp,a5],fun x d=> ?_⟩;obtain⟨k,_,rfl⟩:=aV.mp d;exact ah (by lia)
def Oe(c:Cs):Sp:=fun l H Q _=>∃v u n A,l=[v,u,.kY]/\uL c H v n/\zQ H u A/\n.dc.length<=1000/\∀z d,dN H d->oO c d z (ji n A (-1))->Q z d
abbrev Io P w K mg base c:=iT P w K mg base "driven_setting" ["network","states","source"] 5 (Oe c)
theorem Of(T:Txt2 mg)(O:hE K c)(M:NQ P w K mg base "Setting" c.kK ["self","network","s","states","drives"] 3 (vS c))(G:jc K mg "driven_setting" kr ["network","states","source"]):Io P w K mg base c:=by
 have k:=Af;refine G.jy k ?_;rintro _ _ _ _ _ H _ _ _ L ⟨v,u,n,S,rfl,s,m,hl,Q⟩;obtain⟨na,aa,ab,rfl,a,pa,ws,rfl,t,I⟩:=id s;have ll:=I.length;refine⟨rfl,_,(dh (pI (i:=3) rfl k.nd rfl rfl (sU rfl rfl rfl rfl) (o7 rfl T.kn (c9 (eC (eY K) rfl T.g8 eh (c9 (du K (pv 0) rfl) de)) de)) (fC (own:=[("k",4)]) (by show mV ["network","states","source","drives","k"] (dk kr) _ _=true;decide +kernel)) (fun _ _ _ _ _=>(fk (i:=4) k.nd)) (fun _ _ _ _ _=>gh) (fun _ _ _ _ _=>(jQ (e9 iV (pv 4) (pv 2) (eO _)) (hX (c9 dC (c9 dC de))) (hX (c9 dC (c9 dC de))))))
   (dq (dE (Fw M L (c9 (pv 0) (c9 (d9 (c9 dC (c9 dC de))) (c9 (pv 1) (c9 (pv 3) de)))))))),?_⟩
 refine⟨_,rfl,eH a O.eQ.cl (O.eQ.at_ 1 rfl) rfl ⟨pa,_,rfl,.inl (.of t),_,rfl,by lia,by lia,fun D r=>oC (l6 H 0 _) r (fun i H' acc=>Paired (UU H') acc ((List.replicate n.dc.length ((0:Int),(1:Int))).take i)) .nil ?_ ?_⟩⟩
 ·rintro i x J H2 acc hi C B d f F l rfl;have y:i<n.dc.length:=by lia
  have g:=d.length;rw[aP] at g;have j:(List.replicate n.dc.length ((0:Int),(1:Int))).take (i+1)=(List.replicate n.dc.length ((0:Int),(1:Int))).take i ++ [((0:Int),(1:Int))]:=by
   rw[bo,bY,ai y];rfl
  refine⟨rfl,⟨_,rfl,_,rfl,rfl,_,rfl,?_⟩⟩;rw[show decide (V.int (0+(i:Nat))=V.kY)=false from aA fun z=>by cases z];refine fF ⟨dy (by simp),fun p hp=> ?_⟩;have A:=dz (o:= .tup [.int 0,.int 1]) hp;refine gz r (f.trans A) (A _ _ l) (dI (by lia)) ?_;rw[j];exact(d.h9 fun _ _ q=>(q.same (F.trans A)).over (A _ _ l)).kU (UU.over ⟨p,rfl,dj⟩ (A _ _ l))
 ·intro J acc C B d;rw[bH (by simp;lia),<-J4 n S] at d;refine⟨_,rfl,dy (by simp),fun q R=> ?_⟩;have f:=dz (o:= .lst [.int 0,.int 1]) R;refine⟨_,rfl,_,rfl,fun x E e N ne=> ?_⟩;have A:=C.trans f;refine⟨_,x,E,_,_,_,_,ji n S (-1),rfl,dj,dN.made e N (fun b o h _=>h),e,s.same A,⟨q,rfl,dj⟩,m.same A,⟨D,acc,rfl,f _ _ B,d.h9 fun _ _ z=>z.same f⟩,hl,fun H4 s4 X=>⟨rfl,Q _ _ (A.trans s4) X⟩⟩
def ZF(l:List Int):Prop:=gi l=[]->X3 (gV l)/\∀p,di.point (gV l)=some p->p.1.length<=1000/\Qj (ji (gV l) p.1 (-1))/\∃s,di.sol (di.rows (ji (gV l) p.1 (-1)))=some s/\ZE s.1
abbrev J5:Stmt:=top 115
theorem UI:dD ["net","refusal","network","point","determinant","zeros"] ["net"] (dk J5):=sco
def vZ(K:PySem.W.Frag):Sp:=fun d H Q _=>∃a l,d=[.ref a]/\oK K H a (l.map V.int)/\l.length<=200/\ZF l/\BS H Q (di.modes l)
abbrev V7 P w K mg base:=iT P w K mg base "modes" ["net"] 45 (vZ K)
theorem UJ(T:Txt4 mg)(O:hE K c)(x:xZ K zc ["left","axis","right"])(nY:sQ P w K mg base)(i8:qw P w K mg base c)(mL:rd P w K mg base c)(nZ:Io P w K mg base c)(nQ:yh P w K mg base c)(sM:FD P w K mg base c)(sj:xt P w K mg base zc)(G:jc K mg "modes" J5 ["net"]):V7 P w K mg base:=by
 have v:=UI;refine G.jy v ?_;rintro _ _ _ _ _ H _ Q _ B ⟨a,l,rfl,M,R,mo,A⟩;refine⟨rfl,_,(dh (dX (i:=1) v.nd (dB nY B (c9 (pv 0) de)))
   (dh (fS (fG K (pv 1) (fun _=>rfl)) (dq (dE (pv 1))) fc)
   (dh (dX (i:=2) v.nd (dB i8 B (c9 (pv 0) de)))
   (dh (dX (i:=3) v.nd (dB mL B (c9 (pv 2) de)))
   (dh (fS (Mo (RZ (pv 3))) (dq (dE (d9 (c9 (jb gF dC) de)))) fc)
   (dh (dX (i:=4) v.nd (du K (dB sM B (c9 (dB nQ B (c9 (dB nZ B (c9 (pv 2) (c9 (du K (pv 3) rfl) (c9 Iz de)))) de)) de)) rfl))
   (dh (dX (i:=5) v.nd (dB sj B (c9 (pv 4) de)))
   (dq (dE (d9 (c9 dC (c9 (eZ jE (eC (eY K) rfl T.g8 eh (c9 (pv 4) de)) dC) (c9 (du K (pv 5) rfl) (c9 (du K (pv 5) rfl) (c9 (du K (pv 5) rfl) de))))))))))))))),?_⟩
 unfold di.modes at A;have one:(1:Nat)<=sizeLine:=dy (by show 1<=16777216;decide);have put:∀{S:Hp} {l:List Int},BS H Q l->dN H S->∀{p:Addr},S p=none->Q (.ref p) (upd S p (.lst (l.map V.int))):=fun{_ _} k s {p} m=>k _ _ (s.trans (dz m)) ⟨p,rfl,dj⟩;refine⟨_,rfl,a,l,rfl,M,R,fun z S F o=> ?_⟩;obtain⟨ra,rfl,b⟩:=o;refine⟨_,rfl,_,NJ b,?_⟩;by_cases d:gi l=[]
 rotate_left
 ·rw[nu d];rw[ai d] at A;exact fz ⟨_,rfl,A _ _ F ⟨ra,rfl,b⟩⟩
 rw[ah (fun h=>h d)] at A;have i9:oN l=true:=by
  cases e:oN l with
  |true=>rfl
  |false=>
   unfold gi at d;rw[ai e] at d;cases d
 have L:=LZ i9;obtain⟨t,go⟩:=mo d;have ae:=t.dc;rw[d] at b⊢;refine fF ⟨_,rfl,a,l,rfl,F.seq M,L.len,R,L.m7,fun z H2 s2 o=> ?_⟩;have y:=F.trans s2;refine⟨_,rfl,_,_,rfl,o,t,?_⟩;cases n:di.point (gV l) with
 |none=>
  rw[n] at A;exact fun H3 r=>⟨_,rfl,_,rfl,fz ⟨_,rfl,one,fun p m=>put A (y.trans r) m⟩⟩
 |some p=>
  rw[n] at A;obtain⟨pl,f,s,j,ci⟩:=go p n;dsimp only at A;rw[j] at A;have A:BS H Q [0,(s.1.length:Int) - 1,(xT s.1).left,(xT s.1).axis,(xT s.1).right]:=A;intro zp H3 r E;obtain⟨xa,af,ag,aj,rfl,aa,I,ad⟩:=E;refine⟨_,rfl,_,rfl,fF ⟨_,rfl,_,rfl,eH aa O.pt.cl (O.pt.at_ 0 rfl) rfl ?_⟩⟩;refine⟨_,_,_,p.1,rfl,o.same r,I,by lia,fun zg H4 s4 g=> ?_⟩;refine⟨_,_,rfl,g,f.sok,f.l0,f.l1,f.nin,f.lin,f.rin,fun zt H5 s5 ab=> ?_⟩;refine⟨_,_,rfl,Qb.less ab (fun a h=>h.elim),f.len,f.Bj,f.run,?_⟩;rw[j];intro zs H6 s6 X;obtain⟨ya,al,vd,vt,rfl,N,⟨da,rfl,C⟩,_⟩:=id X;have D:=y.trans (r.trans (s4.trans (s5.trans s6)));refine eH N O.sol.cl (O.sol.at_ 0 rfl) rfl ⟨_,rfl,_,s.1,rfl,⟨da,rfl,C⟩,ci,fun zz H7 J ac=> ?_⟩;obtain⟨wa,ak,rfl,u⟩:=ac;refine⟨_,rfl,da,_,rfl,.inl (.of (J _ _ C)),j9 ⟨_,rfl,eH u x.cl (x.at_ 0 rfl) rfl ⟨_,rfl,eH u x.cl (x.at_ 1 rfl) rfl ⟨_,rfl,eH u x.cl (x.at_ 2 rfl) rfl ⟨dy (by show 5<=16777216;decide),fun q hq=> ?_⟩⟩⟩⟩⟩;rw[lMp];exact put A (D.trans J) hq
theorem Og (d:b<=134217728):∀(f:Nat) (l s:List Int),RM b f l s->Ys f l s
 |0,_,_,_=>trivial
 |f+1,l,s,h=>by
  rcases h with h |⟨i,A⟩
  ·exact .inl h
  ·by_cases q:s=[]
   ·exact .inl q
   ·refine .inr ⟨UC d ?_ _ _ i,Og d f _ _ A⟩;split
    ·exact q
    ·exact Br q
theorem UK:∀(f:Nat) (p:List Int),ZM f p->ZD f p
 |0,_,_=>trivial
 |f+1,p,h=>by
  rcases h with h |⟨B,d,A⟩
  ·exact .inl h
  ·exact .inr ⟨fun i l=> .of_left (intBits_le_64 (by lia) (by lia)),Og (by decide) _ _ _ d,UK f _ A⟩
theorem ZG (l):ZF l:=fun f=>by
 obtain⟨R,_⟩:=di.right_of f;refine⟨ZC R (Pt f),fun p S=> ?_⟩;have i:=HM R;rw[S] at i;have G:=Pt f;cases k:(dw (gV l)).point with
 |none=>rw[k] at i;exact i.elim
 |some y=>
 rw[k] at i;obtain⟨_,A,r⟩:=i;obtain⟨d,B,x,D⟩:=Ib R A r;have h:=Ia A;obtain⟨⟨_,n⟩,_⟩:=Ti R (HR p.1 (-1)) h x;have s:=XW R D;obtain⟨q,e,o⟩:=D.ex;have t:=Zs D.D7 D.Yj e o s (aB n (bA (by decide) (by decide)));refine⟨by have:=A.1;lia,UA R (HR p.1 (-1)) h A.1 ?_,(d,B),x,⟨by show d.length<=_;lia,D.Yj,fun a b v=> ?_⟩⟩
 ·show((List.range _).map _).length=_;rw[lMp,a5]
 ·obtain⟨H,C,u⟩:=t a b v;exact⟨H,Og (by decide) _ _ _ C,UK _ _ u⟩
end Kh
namespace L2
open PySem PySem.Spec PyProof.Rows
open PySem.W (WData Codec OpenSpec Well WellAll ReadsW ReadsAllW)
mutual
inductive Dw(K:PySem.W.Frag)(H:Hp):V->WData->Prop
 |kY:Dw K H .kY .none
 |bl (b:Bool):Dw K H (.bl b) (.bool b)
 |int (i:Int):Dw K H (.int i) (.int i)
 |str (x:Str):Dw K H (.str x) (.str x)
 |Iv (b:Array UInt8):Dw K H (.Iv b) (.bytes b.toList)
 |lst {a:Addr} {xs:List V} {ds:List WData}:oK K H a xs->sR K H xs ds->Dw K H (.ref a) (.list ds)
 |tup {a:Addr} {xs:List V} {ds:List WData}:Ge K H a xs->sR K H xs ds->Dw K H (.ref a) (.tuple ds)
inductive sR(K:PySem.W.Frag)(H:Hp):List V->List WData->Prop
 |nil:sR K H [] []
 |cons {v:V} {vs:List V} {d:WData} {ds:List WData}:Dw K H v d->sR K H vs ds->sR K H (v::vs) (d::ds)
end
theorem Qk {K:PySem.W.Frag}:∀d:List Int,sR K H (d.map V.int) (d.map WData.int)
 |[]=> .nil
 |n::r=> .cons (.int n) (Qk r)
theorem Ql {K:PySem.W.Frag}:∀(A:List Int) (d:List V),sR K H d (A.map WData.int)->d=A.map V.int
 |[],d,h=>by
  cases h;rfl
 |n::r,d,h=>by
  cases h with
  |cons i l=>
   cases i;rw[Ql r _ l] <;>rfl
section
variable {P:Program}{w:World}{K:PySem.W.Frag}{H:Hp}{h:Heap}{R:PySem.W.WRecords}{cl:Str->Option Addr}
theorem X8 (i:yR P w H h)(B:K.In h)(q:oK K H a A):∃(d:List Value) (o:Obj) (n:Nat),Vals A d/\h.get? a=some o/\o.cls= .type "list"/\o.data= .seq d.toArray n:=by
 rcases q with q |⟨o,d,n,e,k,_,f,_,l⟩
 ·obtain⟨_,d,n,l,e⟩:=(show lZ P w H h a (.lst A) from q.ok i);exact⟨d,_,n,l,e,rfl,rfl⟩
 ·exact⟨d.toList,o,n,l,B _ _ e,k,by simp[f]⟩
theorem X9 (B:yR P w H h)(k:K.In h)(q:Ge K H a A):∃(d:List Value) (o:Obj) (n:Nat),Vals A d/\h.get? a=some o/\o.cls= .type "tuple"/\o.data= .seq d.toArray n:=by
 rcases q with q |⟨o,d,n,e,f,l,_,i⟩
 ·obtain⟨_,d,i,o,e,f,n,l⟩:=(show lZ P w H h a (.tup A) from q.ok B);exact⟨d,o,n,i,e,f,l⟩
 ·exact⟨d.toList,o,n,i,k _ _ e,f,by simp[l]⟩
mutual
theorem Dw.reads(l:yR P w H h)(f:K.In h):∀(d:WData) (v:V) (u:Value),Dw K H v d->RelV v u->∃k,ReadsW R cl h u d k
 | .none,_,_,x,r=>by
  cases x;cases r;exact⟨_,ReadsW.none⟩
 | .bool b,_,_,x,r=>by
  cases x;cases r;exact⟨_,ReadsW.bool b⟩
 | .int i,_,_,x,r=>by
  cases x;obtain⟨t,rfl⟩:=r;exact⟨_,ReadsW.int i t⟩
 | .str s,_,_,x,r=>by
  cases x;obtain⟨t,rfl⟩:=r;exact⟨_,ReadsW.str s t⟩
 | .bytes b,_,_,x,r=>by
  cases x;obtain⟨t,rfl⟩:=r;exact⟨_,ReadsW.bytes _ t⟩
 | .list B,_,_,x,r=>by
  cases x with
  |lst y C=>
   cases r;obtain⟨A,o,n,q,S,p,e⟩:=X8 l f y;obtain⟨k,a⟩:=Dw.readsAll l f B _ A C q;exact⟨_,ReadsW.list S p e a⟩
 | .tuple B,_,_,x,r=>by
  cases x with
  |tup y C=>
   cases r;obtain⟨A,o,n,q,S,p,e⟩:=X9 l f y;obtain⟨k,a⟩:=Dw.readsAll l f B _ A C q;exact⟨_,ReadsW.tuple S p e a⟩
 | .float _,_,_,x,_=>by cases x
 | .dict _,_,_,x,_=>by cases x
 | .bytearray _,_,_,x,_=>by cases x
 | .set _,_,_,x,_=>by cases x
 | .frozenset _,_,_,x,_=>by cases x
 | .obj _ _,_,_,x,_=>by cases x
theorem Dw.readsAll(i:yR P w H h)(k:K.In h):∀(A:List WData) (B:List V) (f:List Value),sR K H B A->Vals B f->∃l,ReadsAllW R cl h f A l
 |[],_,_,x,r=>by
  cases x;cases r;exact⟨_,ReadsAllW.nil⟩
 |d::A,_,_,x,r=>by
  cases x with
  |cons v a=>
   cases r with
   |cons q e=>
    obtain⟨l,t⟩:=Dw.reads i k d _ _ v q;obtain⟨bs,b⟩:=Dw.readsAll i k A _ _ a e;exact⟨_,ReadsAllW.cons t b⟩
end
end
mutual
def Qm:WData->Bool
 | .none=>true
 | .bool _=>true
 | .int _=>true
 | .str _=>true
 | .bytes _=>true
 | .list d=>C7 d
 | .tuple d=>C7 d
 |_=>false
def C7:List WData->Bool
 |[]=>true
 |x::r=>Qm x&&C7 r
end
theorem L3{α:Type}{f:α->WData}(h:∀a,Qm (f a)=true):∀l:List α,C7 (l.map f)=true
 |[]=>rfl
 |x::r=>by
  show(Qm (f x)&&C7 (r.map f))=true;rw[h x,L3 h r] <;>rfl
theorem v5:∀(c:Codec) (a:c.denote),Qm (c.enc a)=true
 | .unit,_=>rfl
 | .bool,_=>rfl
 | .int _ _,_=>rfl
 | .nat _ _,_=>rfl
 | .u8,_=>rfl
 | .bytes _ _,_=>rfl
 | .text _ _ _ _,_=>rfl
 | .list _ _ c,a=>L3 (fun x=>v5 c x) a
 | .pair c d,a=>by
  show(Qm (c.enc a.1)&&(Qm (d.enc a.2)&&true))=true;rw[v5 c a.1,v5 d a.2] <;>rfl
 | .triple c d e,a=>by
  show(Qm (c.enc a.1)&&(Qm (d.enc a.2.1)&&(Qm (e.enc a.2.2)&&true)))=true;rw[v5 c a.1,v5 d a.2.1,v5 e a.2.2] <;>rfl
 | .option c,none=>rfl
 | .option c,some x=>v5 c x
theorem Ip:∀(d:List Codec) (a:Codec.denoteAll d),C7 (Codec.encAll d a)=true
 |[],_=>rfl
 |c::d,a=>by
  show(Qm (c.enc a.1)&&C7 (Codec.encAll d a.2))=true;rw[v5 c a.1,Ip d a.2] <;>rfl
theorem yK:∀{A:List WData} {d:WData},d∈A->d.weight<=WData.weightAll A
 |[],d,h=>absurd h (by simp)
 |x::r,d,h=>by
  show d.weight<=x.weight+1+WData.weightAll r;rcases aL.mp h with e |m
  ·rw[e];omega
  ·have z:=yK m;omega
noncomputable def toV:Value->V
 | .none=> .kY
 | .bool b=> .bl b
 | .int i _=> .int i
 | .str x _=> .str x
 | .bytes b _=> .Iv b
 | .ref a=> .ref a
 |_=> .kY
def Rr(A:List Addr):Value->Prop
 | .none=>True
 | .bool _=>True
 | .int _ _=>True
 | .str _ _=>True
 | .bytes _ _=>True
 | .ref a=>a∈A
 |_=>False
theorem Rr.mono (h:∀a∈A,a∈B):∀{u:Value},Rr A u->Rr B u:=fun{u} x=>by
 cases u with
 |ref a=>exact h a x
 |none=>trivial
 |bool b=>trivial
 |int i t=>trivial
 |str s t=>trivial
 |bytes b t=>trivial
 |_=>exact False.elim x
theorem UL (x:Rr A u):RelV (toV u) u:=by
 cases u with
 |ref a=>rfl
 |none=>rfl
 |bool b=>rfl
 |int i t=>exact⟨t,rfl⟩
 |str s t=>exact⟨t,rfl⟩
 |bytes b t=>exact⟨t,rfl⟩
 |_=>exact False.elim x
theorem sS:∀{d:List Value},(∀u∈d,Rr A u)->Vals (d.map toV) d
 |[],_=> .nil
 |u::r,h=> .cons (UL (h u (aC ..))) (sS fun x l=>h x (ao _ l))
def uM(h:Heap)(A:List Addr)(a:Addr):Prop:=∃d:List Value,d.length<=sizeLine/\(∀u∈d,Rr A u)/\
 (h.get? a=some {cls:= .type "list",data:= .seq d.toArray}\/h.get? a=some {cls:= .type "tuple",data:= .seq d.toArray})
theorem uM.mono (k:∀a∈A,a∈B)(x:uM h A a):uM h B a:=by
 obtain⟨i,d,f,l⟩:=x;exact⟨i,d,fun u v=>(f u v).mono k,l⟩
theorem rA:∀{A:List Value} {d:List WData},WellAll P h A d->A.length=d.length
 |_,_,.nil=>rfl
 |_,_,.cons _ b=>by
  show _+ 1=_+ 1;rw[rA b]
theorem Iq (x:Well P h v (.list A)):∃(a:Addr) (l:List Value),v= .ref a/\h.get? a=some {cls:= .type "list",data:= .seq l.toArray}/\WellAll P h l A:=by
 cases x with
 |list i d=>exact⟨_,_,rfl,i,d⟩
theorem F5 (x:Well P h v (.tuple A)):∃(a:Addr) (l:List Value),v= .ref a/\h.get? a=some {cls:= .type "tuple",data:= .seq l.toArray}/\WellAll P h l A:=by
 cases x with
 |tuple i d=>exact⟨_,_,rfl,i,d⟩
theorem Ir (x:WellAll P h i (d::A)):∃(v:Value) (l:List Value),i=v::l/\Well P h v d/\WellAll P h l A:=by
 cases x with
 |cons a b=>exact⟨_,_,rfl,a,b⟩
theorem Qn (h:n<=1048576):n<=sizeLine:=aB h (by decide)
section
variable {P:Params}{h:Heap}
mutual
theorem UM:∀(d:WData) (v:Value),Well P h v d->Qm d=true->d.weight<=1048576->∃A:List Addr,Rr A v/\∀a∈A,uM h A a
 | .none,_,x,_,_=>by
  cases x;exact⟨[],trivial,fun a m=>absurd m (by simp)⟩
 | .bool b,_,x,_,_=>by
  cases x;exact⟨[],trivial,fun a m=>absurd m (by simp)⟩
 | .int i,_,x,_,_=>by
  cases x;exact⟨[],trivial,fun a m=>absurd m (by simp)⟩
 | .str s,_,x,_,_=>by
  cases x;exact⟨[],trivial,fun a m=>absurd m (by simp)⟩
 | .bytes b,_,x,_,_=>by
  cases x;exact⟨[],trivial,fun a m=>absurd m (by simp)⟩
 | .list f,_,x,p,z=>by
  obtain⟨a,n,rfl,o,l⟩:=Iq x;have w:WData.weightAll f<=1048576:=z;obtain⟨A,q,r⟩:=AI f _ l p fun d t=>aB (yK t) w;have k:∀b∈A,b∈a::A:=fun b B=>ao _ B;refine⟨a::A,aC ..,fun b B=> ?_⟩;rcases aL.mp B with e |m
  ·rw[e];exact⟨n,Qn (by rw[rA l];exact aB (PySem.W.length_le_weightAllW f) w),fun u H=>(q u H).mono k,.inl o⟩
  ·exact(r b m).mono k
 | .tuple f,_,x,p,z=>by
  obtain⟨a,n,rfl,o,l⟩:=F5 x;have w:WData.weightAll f<=1048576:=z;obtain⟨A,q,r⟩:=AI f _ l p fun d t=>aB (yK t) w;have k:∀b∈A,b∈a::A:=fun b B=>ao _ B;refine⟨a::A,aC ..,fun b B=> ?_⟩;rcases aL.mp B with e |m
  ·rw[e];exact⟨n,Qn (by rw[rA l];exact aB (PySem.W.length_le_weightAllW f) w),fun u H=>(q u H).mono k,.inr o⟩
  ·exact(r b m).mono k
 | .float _,_,_,p,_=>Bool.noConfusion (show false=true from p)
 | .dict _,_,_,p,_=>Bool.noConfusion (show false=true from p)
 | .bytearray _,_,_,p,_=>Bool.noConfusion (show false=true from p)
 | .set _,_,_,p,_=>Bool.noConfusion (show false=true from p)
 | .frozenset _,_,_,p,_=>Bool.noConfusion (show false=true from p)
 | .obj _ _,_,_,p,_=>Bool.noConfusion (show false=true from p)
theorem AI:∀(l:List WData) (f:List Value),WellAll P h f l->C7 l=true->(∀d∈l,d.weight<=1048576)->∃A:List Addr,(∀u∈f,Rr A u)/\∀a∈A,uM h A a
 |[],_,x,_,_=>by
  cases x;exact⟨[],fun u m=>absurd m (by simp),fun a m=>absurd m (by simp)⟩
 |d::l,_,x,p,z=>by
  obtain⟨v,f,rfl,o,n⟩:=Ir x;have q:Qm d=true/\C7 l=true:=Bool.and_eq_true_iff.mp p;obtain⟨A,C,H⟩:=UM d v o q.1 (z d (aC ..));obtain⟨B,t,S⟩:=AI l f n q.2 fun e r=>z e (ao _ r);have w:∀b∈A,b∈A ++ B:=fun b i=>aX.mpr (.inl i);have k:∀b∈B,b∈A ++ B:=fun b i=>aX.mpr (.inr i);refine⟨A ++ B,fun u s=> ?_,fun b i=> ?_⟩
  ·rcases aL.mp s with e |m
   ·rw[e];exact C.mono w
   ·exact(t u m).mono k
  ·rcases aX.mp i with m |m
   ·exact(H b m).mono w
   ·exact(S b m).mono k
end
end
noncomputable def V8(o:Obj):Option HO:=match o.data with
 | .seq d _=>if(o.cls==Value.type "list")=true then some (.Iw o (.lst (d.toList.map toV))) else some (.Iw o (.tup (d.toList.map toV)))
 |_=>none
def sk(K:PySem.W.Frag)(h:Heap)(A:List Addr):Hp:=fun b=>if b∈A then(if(K.lookup b).isNone=true then(h.get? b).bind V8 else none) else none
def L4(H:Hp):Prop:=∀b,H b=none\/∃o u,H b=some (.Iw o u)
theorem L5(d:List Value):V8 {cls:= .type "list",data:= .seq d.toArray}=some (.Iw {cls:= .type "list",data:= .seq d.toArray} (.lst (d.map toV))):=by
 show(if(Value.type "list"==Value.type "list")=true then some (HO.Iw {cls:= .type "list",data:= .seq d.toArray} (.lst (d.toArray.toList.map toV))) else some (HO.Iw {cls:= .type "list",data:= .seq d.toArray} (.tup (d.toArray.toList.map toV))))=_;rw[ai (beq_self_eq_true _)]
theorem L6(d:List Value):V8 {cls:= .type "tuple",data:= .seq d.toArray}=some (.Iw {cls:= .type "tuple",data:= .seq d.toArray} (.tup (d.map toV))):=by
 show(if(Value.type "tuple"==Value.type "list")=true then some (HO.Iw {cls:= .type "tuple",data:= .seq d.toArray} (.lst (d.toArray.toList.map toV))) else some (HO.Iw {cls:= .type "tuple",data:= .seq d.toArray} (.tup (d.toArray.toList.map toV))))=_;rw[ah (by decide)]
section
variable {P:Program}{w:World}{K:PySem.W.Frag}{h:Heap}{A:List Addr}
theorem DH (l:b∈A)(d:K.lookup b=none)(e:h.get? b=some o):sk K h A b=V8 o:=by
 unfold sk;rw[ai l,d,ai (show(none:Option Obj).isNone=true from rfl),e] <;>rfl
theorem V9 (q:sk K h A b=some u):b∈A/\K.lookup b=none:=by
 unfold sk at q;by_cases d:b∈A
 ·rw[ai d] at q;cases l:K.lookup b with
  |none=>exact⟨d,rfl⟩
  |some o=>
   rw[l,ah (by simp)] at q;cases q
 ·rw[ah d] at q;cases q
theorem AJ (x:∀a∈A,uM h A a)(q:sk K h A b=some u):K.lookup b=none/\∃d:List Value,d.length<=sizeLine/\(∀u∈d,Rr A u)/\
  ((h.get? b=some {cls:= .type "list",data:= .seq d.toArray}/\u= .Iw {cls:= .type "list",data:= .seq d.toArray} (.lst (d.map toV)))\/
   (h.get? b=some {cls:= .type "tuple",data:= .seq d.toArray}/\u= .Iw {cls:= .type "tuple",data:= .seq d.toArray} (.tup (d.map toV)))):=by
 obtain⟨l,i⟩:=V9 q;obtain⟨d,f,k,B⟩:=x b l;refine⟨i,d,f,k,?_⟩;rcases B with e |e
 ·rw[DH l i e,L5] at q;exact .inl ⟨e,(bf q).symm⟩
 ·rw[DH l i e,L6] at q;exact .inr ⟨e,(bf q).symm⟩
theorem Rt(d:∀a∈A,uM h A a):L4 (sk K h A):=fun b=>by
 cases q:sk K h A b with
 |none=>exact .inl rfl
 |some u=>
  obtain⟨_,l,_,_,⟨_,e⟩ |⟨_,e⟩⟩:=AJ d q
  ·exact .inr ⟨_,_,by rw[e]⟩
  ·exact .inr ⟨_,_,by rw[e]⟩
theorem Wa(f:∀a∈A,uM h A a):yR P w (sk K h A) h:=fun b u q=>by
 obtain⟨_,d,i,l,⟨e,rfl⟩ |⟨e,rfl⟩⟩:=AJ f q
 ·exact⟨e,by rw[lMp];exact i,d,_,sS l,e⟩
 ·exact⟨e,by rw[lMp];exact i,d,sS l,_,e,rfl,_,rfl⟩
theorem DI {l:List Value}(e:(some {cls:=c,data:= .seq i.toArray}:Option Obj)=some {cls:=d,data:= .seq l.toArray}):c=d/\i=l:=by
 have f:=bf e;have B:c=d:=congrArg Obj.cls f;have v:Data.seq i.toArray=Data.seq l.toArray:=congrArg Obj.data f;injection v with x
 refine⟨B,?_⟩;have k:=congrArg Array.toList x;simpa using k
theorem aaJ (t:K.In h)(b:∀a∈A,uM h A a){d:List Value}(k:a∈A)(e:h.get? a=some {cls:= .type "list",data:= .seq d.toArray}):(∀u∈d,Rr A u)/\oK K (sk K h A) a (d.map toV):=by
 obtain⟨f,x,B,v⟩:=b a k;have n:f=d:=by
  rcases v with q |q
  ·rw[e] at q;exact(DI q).2.symm
  ·rw[e] at q;exact absurd (Value.type.inj (DI q).1) (by decide)
 subst n;refine⟨B,?_⟩;cases l:K.lookup a with
 |none=>exact .inl (.inr ⟨_,by rw[DH k l e,L5]⟩)
 |some o=>
  have i:=t a o l;rw[e] at i;obtain rfl:=bf i;exact .inr ⟨_,f.toArray,_,l,rfl,rfl,rfl,by rw[aS];exact x,by simpa using sS B⟩
theorem aaK (t:K.In h)(b:∀a∈A,uM h A a){d:List Value}(k:a∈A)(e:h.get? a=some {cls:= .type "tuple",data:= .seq d.toArray}):(∀u∈d,Rr A u)/\Ge K (sk K h A) a (d.map toV):=by
 obtain⟨f,x,B,v⟩:=b a k;have n:f=d:=by
  rcases v with q |q
  ·rw[e] at q;exact absurd (Value.type.inj (DI q).1) (by decide)
  ·rw[e] at q;exact(DI q).2.symm
 subst n;refine⟨B,?_⟩;cases l:K.lookup a with
 |none=>exact .inl (.inr ⟨_,by rw[DH k l e,L6]⟩)
 |some o=>
  have i:=t a o l;rw[e] at i;obtain rfl:=bf i;exact .inr ⟨_,f.toArray,_,l,rfl,rfl,by rw[aS];exact x,by simpa using sS B⟩
mutual
theorem Ya{u:Params}(f:K.In h)(B:∀a∈A,uM h A a):∀(d:WData) (v:Value),Well u h v d->Qm d=true->Rr A v->Dw K (sk K h A) (toV v) d
 | .none,_,x,_,_=>by
  cases x;exact .kY
 | .bool b,_,x,_,_=>by
  cases x;exact .bl b
 | .int i,_,x,_,_=>by
  cases x;exact .int i
 | .str s,_,x,_,_=>by
  cases x;exact .str s
 | .bytes b,_,x,_,_=>by
  cases x;have z:=Dw.Iv (K:=K) (H:=sk K h A) b.toArray;exact z
 | .list k,_,x,p,q=>by
  obtain⟨a,r,rfl,e,l⟩:=Iq x;obtain⟨t,n⟩:=aaJ f B q e;exact .lst n (J6 f B k _ l p t)
 | .tuple k,_,x,p,q=>by
  obtain⟨a,r,rfl,e,l⟩:=F5 x;obtain⟨t,n⟩:=aaK f B q e;exact .tup n (J6 f B k _ l p t)
 | .float _,_,_,p,_=>Bool.noConfusion (show false=true from p)
 | .dict _,_,_,p,_=>Bool.noConfusion (show false=true from p)
 | .bytearray _,_,_,p,_=>Bool.noConfusion (show false=true from p)
 | .set _,_,_,p,_=>Bool.noConfusion (show false=true from p)
 | .frozenset _,_,_,p,_=>Bool.noConfusion (show false=true from p)
 | .obj _ _,_,_,p,_=>Bool.noConfusion (show false=true from p)
theorem J6{e:Params}(f:K.In h)(B:∀a∈A,uM h A a):∀(l:List WData) (i:List Value),WellAll e h i l->C7 l=true->(∀u∈i,Rr A u)->sR K (sk K h A) (i.map toV) l
 |[],_,x,_,_=>by
  cases x;exact .nil
 |d::l,_,x,p,k=>by
  obtain⟨v,i,rfl,b,t⟩:=Ir x;have q:Qm d=true/\C7 l=true:=Bool.and_eq_true_iff.mp p;exact .cons (Ya f B d v b q.1 (k _ (aC ..))) (J6 f B l i t q.2 fun u m=>k u (ao _ m))
end
end
theorem Ru{P:Program}{w:World}{K:PySem.W.Frag}{c D:Str->Option Value}{CX:RP}{k:Nat}{fa:Addr}{ps:List Str}{sp:Sp}{l:Shared}{vals:List Value}{a:List WData}{R:PySem.W.WRecords}{cl:Str->Option Addr}{d0:WData}
  (I:K.In l.heap) (M:l.heap.Ns mainGlobals c) (hb:l.heap.Ns builtinsNs D) (ac:∀x:Str,x≠"__name__"->D x=bootBuiltins x) (T:l.heap.NoLimit) (hg:l.gens= #[])
  (G:WellAll w.params l.heap vals a) (E:C7 a=true) (ag:∀d∈a,d.weight<=1048576) (hr:l5 k callerA) (h:l.heap.NoSeer)
  (F:∀base:Heap,K.In base->base.Ns mainGlobals c->base.NoSeer->∃fd:FuncData,Binds K fd ps []/\rB P w K c base CX k fa fd ps sp) (X:a.length=ps.length)
  (ae:∀(H:Hp) (xs:List V),L4 H->sR K H xs a->sp xs H (fun v H'=>Dw K H' v d0) fun _ _ _=>False)
  (ah:∀H e B,CX [] H l (fun _ _ _=>False) e B->False):
  codeAny (model P w) callerA (.call (.ref fa) ⟨vals,[]⟩) (fun r B=>∃u J,r= .ok (.ret u)/\ReadsW R cl B.heap u d0 J/\OldK l.heap B.heap/\B.os=l.os/\AllBare B.gens) l:=by
 obtain⟨A,ho,S⟩:=AI a vals G E ag;have O:L4 (sk K l.heap A):=Rt S;have i9:yR P w (sk K l.heap A) l.heap:=Wa S;have hS:=J6 I S a vals G E ho;have hV:=sS ho;have hK:∀b u,sk K l.heap A b=some u->K.lookup b=none:=fun b u q=>(AJ S q).1;have j:∀{b:Addr} {o:Obj} {s:Array DictEntry} {p:Nat},l.heap.get? b=some o->o.data= .dict s p->sk K l.heap A b=none:=fun{b o s p} e d=>by
  cases q:sk K l.heap A b with
  |none=>rfl
  |some u=>
   obtain⟨_,vs,_,_,⟨t,_⟩ |⟨t,_⟩⟩:=AJ S q
   ·rw[t] at e;cases e;have d':Data.seq vs.toArray _=Data.dict s p:=d;cases d'
   ·rw[t] at e;cases e;have d':Data.seq vs.toArray _=Data.dict s p:=d;cases d'
 have N:∀{b:Addr} {o:Obj},l.heap.get? b=some o->o.cls= .type "module"->sk K l.heap A b=none:=fun{b o} e d=>by
  cases q:sk K l.heap A b with
  |none=>rfl
  |some u=>
   obtain⟨_,vs,_,_,⟨t,_⟩ |⟨t,_⟩⟩:=AJ S q
   ·rw[t] at e;cases e;exact absurd (Value.type.inj d) (by decide)
   ·rw[t] at e;cases e;exact absurd (Value.type.inj d) (by decide)
 generalize sk K l.heap A=H at O i9 hS hK j N;have i:∀{b:Addr} {o:Obj},l.heap.get? b=some o->H b=none->(Gh l.heap H).get? b=some o:=fun e n=>RU e n;have f:∀{b:Addr} {m:Str->Option Value},l.heap.Ns b m->(Gh l.heap H).Ns b m:=fun{b m} ⟨o,s,p,e,d,r⟩=>⟨o,s,p,i e (j e d),d,r⟩;have nK:∀b o,K.lookup b=some o->H b=none:=fun b o e=>by
  cases q:H b with
  |none=>rfl
  |some u=>
   rw[hK b u q] at e;cases e
 have Q:K.In (Gh l.heap H):=fun b o e=>i (I b o e) (nK b o e);have hM:Mod K c (Gh l.heap H):=⟨Q,f M,⟨D,f hb,ac⟩,let ⟨mc,h1,h2⟩:=T;⟨mc,f h1,h2⟩⟩;have e0:My P w K c (Gh l.heap H) callerA [] l H:=⟨rfl,hM,fun b o e=>UW e,Nat.le_of_eq (Qo _ _),trivial,fun b hb=>absurd (show b∈([]:List Addr) from hb) (by simp),i9,.of_eq hg⟩;have hl:vals.length=ps.length:=by rw[rA G];exact X
 have aa:(Gh l.heap H).NoSeer:={
  statics:=by obtain⟨mc,x,y⟩:=h.statics;exact⟨mc,f x,y⟩
  mods:=by obtain⟨mc,x,y⟩:=h.mods;exact⟨mc,f x,y⟩
  imp:=by obtain⟨mc,x,y⟩:=h.imp;exact⟨mc,f x,y⟩
  main:=by obtain⟨ab,bm,g,x,y,z,u,v⟩:=h.main;exact⟨ab,bm,g,f x,y,i z (N z u),u,v⟩}
 obtain⟨fd,L,hF⟩:=F _ Q (f M) aa;refine codeAny_mono (hF.run callerA [] l H ⟨vals,[]⟩ vals (vals.map toV) _ _ hr e0 (by have z:=L l vals I (by rw[cw];exact hl);rw[cw] at z;exact z) hV (ae H _ O hS)) fun r B x=> ?_;cases r with
 |error e=>exact(ah H e B x).elim
 |ok fl=>
  cases fl with
  |next=>exact False.elim x
  |brk=>exact False.elim x
  |cont=>exact False.elim x
  |ret u=>
   obtain⟨v,H',os,bare,un,C,r',q⟩:=x;have kept:∀b o,l.heap.get? b=some o->B.heap.get? b=some o:=fun b o e=>by
    cases q2:H b with
    |none=>exact un.keep b o e q2 (by intro z;exact absurd (show b∈([]:List Addr) from z) (by simp)) (by simp)
    |some u2=>
     rcases O b with z |⟨g,u3,z⟩
     ·rw[q2] at z;cases z
     ·have z2:=un.Iy b g _ z;obtain⟨e1,_⟩:=i9 b _ z;obtain⟨t,_⟩:=C b _ z2;rw[e] at e1;cases e1;exact t
   have af:K.In B.heap:=fun b o e=>kept b o (I b o e);obtain⟨J,ad⟩:=Dw.reads (R:=R) (cl:=cl) C af d0 v u q r';exact⟨u,J,rfl,ad,OldK.of_keep kept,os,bare⟩
theorem F6 (h:WData.layableAll A=true):∀d∈A,d.weight<=1048576:=fun d l=>
 (PySem.W.layableW_iff.mp (bU.mp h d l)).2.2
theorem F7:∀(d:List Codec) (a:Codec.denoteAll d),(Codec.encAll d a).length=d.length
 |[],_=>rfl
 |c::d,a=>by
  show(Codec.encAll d a.2).length+1=d.length+1;rw[F7 d a.2]
theorem Rw{r:OpenSpec}{k:Nat}{q:Program}{loose:List Str}{XP:(Str->Option Value)->Heap->Prop}{C:World->Heap->Prop}{d:DefRec}{K:Params->PySem.W.Frag}{CX:World->RP}{ps:List Str}{sp:World->Sp}
  (i:r.wellSaid=true) (y:importsNone q=true) (ab:d.params.defaults=[]) (n:r.args.length=ps.length) (E:l5 k callerA)
  (hY:∀(w:World) (h:Heap),C w h->(K w.params).In h)
  (F:∀(w:World) (A:Str->Option Value) (B:Addr) (h:Heap),C w h->(K w.params).In h->h.Ns mainGlobals A->A d.name=some (.ref B)->
   ∀base:Heap,(K w.params).In base->base.Ns mainGlobals A->base.NoSeer->∃L:FuncData,Binds (K w.params) L ps []/\rB r.prog w (K w.params) A base (CX w) k B L ps (sp w))
  (P:∀(w:World) (H:Hp) (l:List V) (a:Codec.denoteAll r.args),L4 H->Codec.withinAll r.args a=true->Codec.app r.args r.asked a=true->sR (K w.params) H l (Codec.encAll r.args a)->
   sp w l H (fun v H'=>Dw (K w.params) H' v (r.ret.enc (Codec.app r.args r.f a))) fun _ _ _=>False)
  (j:∀(w:World) (H:Hp) (s:Shared) (e:Value) (x:Shared),CX w [] H s (fun _ _ _=>False) e x->False):
  PySem.W.WalkOS q loose XP C r d [] (fun f vs=>PySem.call f vs):=by
 intro w Hc M A mb G Y B o pm cd doc dV kV ho hd aa hD m J args vals as p S ad I ac;obtain⟨a,D,e2⟩:=PySem.W.os_pre_some p;obtain⟨O,t⟩:=Codec.encAll_of_decAll r.args args a D;subst O;have c:=hY w _ Y;refine PySem.W.enter_call (codeAny_mono (Ru (R:=[]) (cl:=classAt Hc.heap) (d0:=r.ret.enc (Codec.app r.args r.f a)) c G.T.g G.T.b G.T.builtins G.T.nolimit J I (Ip _ _) (F6 S) E (G.T.seer y) (F w A B _ Y c G.T.g m) (by rw[F7];exact n)
  (fun H l hO hS=>P w H l a hO t e2 hS) fun H e x=>j w H M e x) fun r' x hq=> ?_)
 obtain⟨u,N,rfl,X,h2,Q,h4⟩:=hq;exact⟨.inl ⟨u,_,N,rfl,fun _=>rfl,X,(OpenSpec.post_iff i t _ _).mpr rfl,fun z=>Bool.noConfusion (show false=true from z)⟩,h2,Q,h4⟩
end L2
namespace Kh
open di
open PySem PySem.Spec PyProof.Rows L2
open PySem.W (Codec OpenSpec)
def eI(K:PySem.W.Frag)(x:Str)(st:Stmt):Prop:=∃(f:Addr) (i:Value) (od:Option Addr) (kV doc l:Value) (B:Option Addr) (d k:Value) (A:Array (Option Value)),
 PySem.W.nsIn K mainGlobals x=some (some (.ref f))/\K.lookup f=some ⟨i,od,.func (PySem.W.fnOf x x (lE st) (je st) (dk st) .none kV doc l B d k),A⟩/\PySem.W.codeIn K d x=true/\PySem.W.keepIn K (.ref f)=true
def gf(K:PySem.W.Frag)(x:Str)(z:Int):Prop:=∃t:Tok,PySem.W.nsIn K mainGlobals x=some (some (.int z t))
def uN(K:PySem.W.Frag)(x:Str):Prop:=PySem.W.nsIn K mainGlobals x=some none
def L7(K:PySem.W.Frag)(C:Addr):List Str->Prop
 |[]=>True
 |f::r=>PySem.W.findIn K (.ref C) f=some none/\L7 K C r
def kX(K:PySem.W.Frag)(x qual:Str)(st:Stmt)(fs:List Str):Prop:=∃(C f:Addr) (i:Value) (od:Option Addr) (kV doc l:Value) (B:Option Addr) (d k:Value) (A:Array (Option Value)),
 PySem.W.nsIn K mainGlobals x=some (some (.ref C))/\PySem.W.findIn K (.ref C) "__init__"=some (some (.ref f))/\PySem.W.isFn K (.ref f)=true/\K.lookup f=some ⟨i,od,.func (PySem.W.fnOf "__init__" qual (lE st) (je st) (dk st) .none kV doc l B d k),A⟩/\PySem.W.codeIn K d qual=true/\PySem.W.keepIn K (.ref f)=true/\
 PySem.W.plainGet K C Str.empty=true/\PySem.W.hasDictIn K C=true/\PySem.W.plainOver K C=true/\PySem.W.findIn K (.ref C) "__setattr__"=some (some (.builtin "object.__setattr__"))/\PySem.W.makesIn K C=true/\PySem.W.keepIn K (.ref C)=true/\L7 K C fs
theorem L7.at_ {K:PySem.W.Frag}:∀{fs:List Str},L7 K C fs->∀f∈fs,pE K C f
 |[],_,f,h=>by cases h
 |g::r,h,f,d=>by
  rcases aL.mp d with e |m
  ·rw[e];exact h.1
  ·exact h.2.at_ f m
def Rx:List Str->(List Value->Prop)->Prop
 |[],P=>P []
 |_::d,P=>∀a,Rx d fun l=>P (a::l)
theorem Rx.of (h:Rx ps P)(d:List Value)(e:d.length=ps.length):P d:=by
 induction ps generalizing P d with
 |nil=>cases bc.mp e;exact h
 |cons p l t=>
  cases d
  cases e
  exact t (h _) _ (Nat.succ.inj e)
section
variable {K:PySem.W.Frag}{h:Heap}{mg:Str->Option Value}(X:K.In h)(G:h.Ns mainGlobals mg)
include X G
theorem Yb {st:Stmt}(H:eI K x st)(v:∀(kV doc i:Value) (B:Option Addr) (d ct:Value) (A:List Value),A.length=ps.length->bindArgs (PySem.W.fnOf x x (lE st) (je st) (dk st) .none kV doc i B d ct) ⟨A,[]⟩=pure (ps.zip A)):jc K mg x st ps:=by
 obtain⟨f,t,od,kV,doc,i,B,d,ct,w,a,l,c,k⟩:=H;have F:=Sj (st:=st) l c k;exact⟨f,_,bI X G a,F,F.binds v⟩
theorem Wb {st:Stmt}(H:kX K x qual st fs)(q:∀(kV doc B:Value) (v:Option Addr) (d ct:Value) (A:List Value),A.length=ps.length->bindArgs (PySem.W.fnOf "__init__" qual (lE st) (je st) (dk st) .none kV doc B v d ct) ⟨A,[]⟩=pure (ps.zip A)):∃C,GN K mg x qual C st ps/\xZ K C fs:=by
 obtain⟨C,f,p,od,kV,doc,B,v,d,ct,s,a,i,b,l,c,k,u,t,e,w,mk,r,n⟩:=H;have F:=Sj (st:=st) l c k;exact⟨C,⟨f,_,bI X G a,⟨mk,i,b,r⟩,F,F.binds q⟩,⟨⟨u,t,e,w⟩,n.at_⟩⟩
theorem jD {st:Stmt}(H:eI K x st)(k:∀(kV doc i:Value) (v:Option Addr) (l ct:Value),Rx ps fun A=>bindArgs (PySem.W.fnOf x x (lE st) (je st) (dk st) .none kV doc i v l ct) ⟨A,[]⟩=pure (ps.zip A):=by(repeat intro _);rfl):jc K mg x st ps:=Yb X G H fun a b c d e f A B=>(k a b c d e f).of A B
theorem Ry {st:Stmt}(H:kX K x qual st fs)(k:∀(kV doc i:Value) (v:Option Addr) (l ct:Value),Rx ps fun A=>bindArgs (PySem.W.fnOf "__init__" qual (lE st) (je st) (dk st) .none kV doc i v l ct) ⟨A,[]⟩=pure (ps.zip A)):∃C,GN K mg x qual C st ps/\xZ K C fs:=Wb X G H fun a b c d e f A B=>(k a b c d e f).of A B
theorem g6 (H:gf K x z):∃t,mg x=some (.int z t):=by obtain⟨t,e⟩:=H;exact⟨t,bI X G e⟩
theorem v7 (H:uN K x):mg x=none:=PySem.W.mg_none_of X G H
end
def J7(K:PySem.W.Frag):Prop:=∃(k:Addr) (od:Option Addr) (n:Nat) (a:Array (Option Value)) (f0 v B h f w e t x q A i d l:Addr),PySem.W.nsIn K mainGlobals "LAWS_OF_KIND"=some (some (.ref k))/\K.lookup k=some ⟨.type "tuple",od,.seq #[.ref f0,.ref v,.ref B,.ref h,.ref f,.ref w,.ref e,.ref t,.ref x,.ref q,.ref A,.ref i,.ref d,.ref l] n,a⟩/\PySem.W.nsIn K mainGlobals "resistor_laws"=some (some (.ref f0))/\PySem.W.nsIn K mainGlobals "capacitor_laws"=some (some (.ref v))/\PySem.W.nsIn K mainGlobals "coil_laws"=some (some (.ref B))/\PySem.W.nsIn K mainGlobals "coupling_laws"=some (some (.ref h))/\PySem.W.nsIn K mainGlobals "voltage_source_laws"=some (some (.ref f))/\PySem.W.nsIn K mainGlobals "current_source_laws"=some (some (.ref w))/\PySem.W.nsIn K mainGlobals "voltage_by_voltage_laws"=some (some (.ref e))/\PySem.W.nsIn K mainGlobals "current_by_voltage_laws"=some (some (.ref t))/\PySem.W.nsIn K mainGlobals "voltage_by_current_laws"=some (some (.ref x))/\PySem.W.nsIn K mainGlobals "current_by_current_laws"=some (some (.ref q))/\PySem.W.nsIn K mainGlobals "transformer_laws"=some (some (.ref A))/\PySem.W.nsIn K mainGlobals "amplifier_laws"=some (some (.ref i))/\PySem.W.nsIn K mainGlobals "switch_laws"=some (some (.ref d))/\PySem.W.nsIn K mainGlobals "diode_laws"=some (some (.ref l))
theorem gf.mk {K:PySem.W.Frag}(a:PySem.W.nsIn K mainGlobals x=some (some (.int z t))):gf K x z:=⟨t,a⟩
theorem eI.mk {K:PySem.W.Frag}{st:Stmt}{od:Option Addr}{kV:Value}(a:PySem.W.nsIn K mainGlobals x=some (some (.ref f)))(l:K.lookup f=some ⟨B,od,.func (PySem.W.fnOf x x (lE st) (je st) (dk st) .none kV doc i v d ct),A⟩)(c:PySem.W.codeIn K d x=true)(k:PySem.W.keepIn K (.ref f)=true):eI K x st:=⟨f,B,od,kV,doc,i,v,d,ct,A,a,l,c,k⟩
theorem kX.mk {K:PySem.W.Frag}{st:Stmt}{od:Option Addr}{kV:Value}(a:PySem.W.nsIn K mainGlobals x=some (some (.ref C)))(i:PySem.W.findIn K (.ref C) "__init__"=some (some (.ref f)))(fn:PySem.W.isFn K (.ref f)=true)(l:K.lookup f=some ⟨w,od,.func (PySem.W.fnOf "__init__" qual (lE st) (je st) (dk st) .none kV doc B v d ct),A⟩)(c:PySem.W.codeIn K d qual=true)(k:PySem.W.keepIn K (.ref f)=true)(b:PySem.W.plainGet K C Str.empty=true)(t:PySem.W.hasDictIn K C=true)(e:PySem.W.plainOver K C=true)(h:PySem.W.findIn K (.ref C) "__setattr__"=some (some (.builtin "object.__setattr__")))(mk:PySem.W.makesIn K C=true)(n:PySem.W.keepIn K (.ref C)=true)(q:L7 K C fs):kX K x qual st fs:=
 ⟨C,f,w,od,kV,doc,B,v,d,ct,A,a,i,fn,l,c,k,b,t,e,h,mk,n,q⟩
theorem J7.mk {K:PySem.W.Frag}{od:Option Addr}(a:PySem.W.nsIn K mainGlobals "LAWS_OF_KIND"=some (some (.ref h)))(l:K.lookup h=some ⟨.type "tuple",od,.seq #[.ref f0,.ref t,.ref B,.ref q,.ref v,.ref e,.ref x,.ref k,.ref w,.ref b,.ref A,.ref i,.ref d,.ref f] n,p⟩)(H:PySem.W.nsIn K mainGlobals "resistor_laws"=some (some (.ref f0)))(P:PySem.W.nsIn K mainGlobals "capacitor_laws"=some (some (.ref t)))(z:PySem.W.nsIn K mainGlobals "coil_laws"=some (some (.ref B)))(m:PySem.W.nsIn K mainGlobals "coupling_laws"=some (some (.ref q)))(C:PySem.W.nsIn K mainGlobals "voltage_source_laws"=some (some (.ref v)))(c:PySem.W.nsIn K mainGlobals "current_source_laws"=some (some (.ref e)))(y:PySem.W.nsIn K mainGlobals "voltage_by_voltage_laws"=some (some (.ref x)))(G:PySem.W.nsIn K mainGlobals "current_by_voltage_laws"=some (some (.ref k)))(F:PySem.W.nsIn K mainGlobals "voltage_by_current_laws"=some (some (.ref w)))(S:PySem.W.nsIn K mainGlobals "current_by_current_laws"=some (some (.ref b)))(u:PySem.W.nsIn K mainGlobals "transformer_laws"=some (some (.ref A)))(r:PySem.W.nsIn K mainGlobals "amplifier_laws"=some (some (.ref i)))(o:PySem.W.nsIn K mainGlobals "switch_laws"=some (some (.ref d)))(s:PySem.W.nsIn K mainGlobals "diode_laws"=some (some (.ref f))):J7 K:=
 ⟨h,od,n,p,f0,t,B,q,v,e,x,k,w,b,A,i,d,f,a,l,H,P,z,m,C,c,y,G,F,S,u,r,o,s⟩
theorem mM {K:PySem.W.Frag}{i:Nat}(C:iT P w K A base x ["setting","k"] k (kW c B F))(o:k<=5)(u:A x=some (.ref f))(q:∀g k,(pat g k).kind=(i:Int)->Qi g k->B g k)(n:∀g k,(pat g k).kind=(i:Int)->gP g k=F g k):∃d,rB P w K A base OK 5 f d ["setting","k"] (Ut c i)/\PySem.W.keepIn K (.ref f)=true/\Binds K d ["setting","k"] []:=by
 obtain⟨G,d,h,ok,s,b⟩:=C.ex;rw[u] at h;cases h;refine⟨d,(ok.mono o).imp ?_,s,b⟩;rintro y H Q E ⟨v,g,k,e,r,a,t,⟨l,S⟩,p⟩;refine⟨v,g,k,e,r,a,t,q g k l S,?_⟩;rw[<-n g k l];exact p
theorem iP {i:Nat}(h:(pat g k).kind=(i:Int)):(g.eQ.dc.getD k p0).kind.toNat=i:=by
 show(pat g k).kind.toNat=i;rw[h,bK]
structure Has(K:PySem.W.Frag):Prop where
 g8:uN K "len"
 EW:uN K "list"
 Ua:uN K "max"
 Ub:uN K "sum"
 Lu:uN K "all"
 Qa:uN K "any"
 Lw:uN K "abs"
 kn:uN K "range"
 gK:uN K "enumerate"
 Uc:uN K "zip"
 EX:uN K "reversed"
 x9:gf K "RESISTOR" 0
 vK:gf K "CAPACITOR" 1
 JM:gf K "COIL" 2
 jl:gf K "COUPLING" 3
 jX:gf K "VOLTAGE_BY_VOLTAGE" 6
 jY:gf K "CURRENT_BY_VOLTAGE" 7
 jZ:gf K "VOLTAGE_BY_CURRENT" 8
 j6:gf K "CURRENT_BY_CURRENT" 9
 jB:gf K "TRANSFORMER" 10
 qY:gf K "AMPLIFIER" 11
 Fd:gf K "SWITCH" 12
 wF:gf K "DIODE" 13
 vL:gf K "LAST_KIND" 13
 qv:gf K "NO_FAULT" 0
 uj:gf K "WRONG_NODE" 1
 mw:gf K "WRONG_NUMBER" 2
 iO:gf K "WRONG_REFERENCE" 3
 um:gf K "MOST_NODES" 8
 uo:gf K "MOST_PARTS" 10
 rZ:gf K "MOST_DIODES" 3
 gX:gf K "NUMBERS_OF_A_PART" 7
 uq:gf K "LAST_PLACE" 63
 yw:gf K "MOST_TOP" 1000000
 r6:gf K "MOST_BOTTOM" 1000000
 L8:eI K "part_rows" rh
 GY:eI K "is_part_row" oj
 BY:eI K "is_network_row" i7
 F8:eI K "read_network" mE
 Oh:eI K "nodes_of" yx
 AK:eI K "may_have_number" mz
 J8:eI K "may_follow" uu
 BZ:eI K "is_coil_before" nS
 Rz:eI K "couples" BV
 uS:eI K "is_coupled_too_much" jJ
 B0:eI K "coupling_fault" ks
 Oi:eI K "fault_of" uy
 GZ:eI K "first_fault" r8
 B1:eI K "refusal_of_net" nV
 B2:eI K "rows_of_states" nO
 G1:eI K "currents_of" rL
 B3:eI K "current_places" nE
 G3:eI K "unknowns_of" og
 Oj:eI K "constant" xU
 J9:eI K "multiplied" tM
 UN:eI K "scaled" zV
 F9:eI K "times_number" pW
 AL:eI K "voltage_between" mj
 Ka:eI K "voltage_of" tQ
 Kb:eI K "current_of" tW
 C8:eI K "resistor_laws" oG
 B4:eI K "capacitor_laws" nH
 G4:eI K "coil_shares" rO
 L9:eI K "coil_laws" vP
 C9:eI K "coupling_laws" oH
 Ga:eI K "set_to_drive" pX
 uT:eI K "voltage_source_laws" jG
 uU:eI K "current_source_laws" jH
 uV:eI K "controlling_voltage" jF
 qD:eI K "voltage_by_voltage_laws" ik
 qE:eI K "current_by_voltage_laws" il
 qF:eI K "voltage_by_current_laws" iq
 qG:eI K "current_by_current_laws" ir
 yL:eI K "transformer_laws" lR
 B5:eI K "amplifier_laws" nI
 G5:eI K "switch_laws" rN
 Kc:eI K "diode_laws" uf
 Ma:eI K "node_laws" qZ
 RA:eI K "trimmed" Bz
 Wc:eI K "added" JH
 UO:eI K "row_of" zU
 Ol:eI K "law_rows" ug
 AM:eI K "row_to_solve_by" mr
 RB:eI K "negated" wB
 Kd:eI K "subtracted" tK
 RC:eI K "divided" BD
 G6:eI K "cleared_row" rS
 RD:eI K "cleared" BQ
 UP:eI K "solved" vT
 G7:eI K "constant_of" rK
 G8:eI K "current_top" rV
 Om:eI K "node_top" yo
 B6:eI K "difference_top" nM
 G9:eI K "voltage_top" rW
 Gb:eI K "diode_agrees" qr
 yM:eI K "all_diodes_agree" jo
 AN:eI K "operating_point" jN
 B7:eI K "driven_setting" kr
 AO:eI K "part_along_axis" mG
 yN:eI K "greatest_divisor" lO
 RE:eI K "content" BB
 Mb:eI K "primitive" ou
 AQ:eI K "whole_remainder" iN
 yO:eI K "signed_remainder" lU
 AR:eI K "remainder_chain" mI
 Gd:eI K "sign_changes" mF
 Wd:eI K "jumps" AF
 Ke:eI K "derivative" o6
 Kf:eI K "real_zeros" uB
 Ha:eI K "count_zeros" sf
 We:eI K "modes" J5
 Yc:kX K "Part" "Part.__init__" vR ["kind","a","b","c","d","top","bottom"]
 RF:kX K "Network" "Network.__init__" ql ["last_node","parts"]
 RG:kX K "Setting" "Setting.__init__" qm ["network","s","states","drives","places","width"]
 Oo:kX K "Solution" "Solution.__init__" oI ["determinant","tops"]
 B8:kX K "OperatingPoint" "OperatingPoint.__init__" jI ["states","solution"]
 Mc:kX K "ZeroCount" "ZeroCount.__init__" nX ["left","axis","right"]
 tab:J7 K
theorem all_mk {K:PySem.W.Frag}(p:P.given.tree=none)(X:K.In h)(G:h.Ns mainGlobals t)(aa:t "modes"=some (.ref fa))(W:Has K):
  ∀base:Heap,K.In base->base.Ns mainGlobals t->base.NoSeer->∃A:FuncData,Binds K A ["net"] []/\rB P w K t base OK 45 fa A ["net"] (vZ K):=by
 have T:Txt4 t:=⟨⟨⟨⟨v7 X G W.g8,v7 X G W.EW,v7 X G W.Ua,v7 X G W.Ub,v7 X G W.Lu,v7 X G W.Qa,v7 X G W.Lw,v7 X G W.kn,v7 X G W.gK,v7 X G W.Uc,v7 X G W.EX⟩,g6 X G W.x9,g6 X G W.vK,g6 X G W.JM,g6 X G W.jl,g6 X G W.jX,g6 X G W.jY,g6 X G W.jZ,g6 X G W.j6,g6 X G W.jB,g6 X G W.qY,g6 X G W.Fd,g6 X G W.wF,g6 X G W.vL⟩⟩,g6 X G W.qv,g6 X G W.uj,g6 X G W.mw,g6 X G W.iO,g6 X G W.um,g6 X G W.uo,g6 X G W.rZ,g6 X G W.gX,g6 X G W.uq,g6 X G W.yw,g6 X G W.r6⟩;obtain⟨UQ,Yd,Ye⟩:=Ry (ps:=["self","numbers"]) X G W.Yc fun _ _ _ _ _ _ _ _=>rfl;obtain⟨RH,RI,RJ⟩:=Ry (ps:=["self","last_node","parts"]) X G W.RF fun _ _ _ _ _ _ _ _ _=>rfl;obtain⟨RK,RL,RN⟩:=Ry (ps:=["self","network","s","states","drives"]) X G W.RG fun _ _ _ _ _ _ _ _ _ _ _=>rfl;obtain⟨Oq,Ot,Ou⟩:=Ry (ps:=["self","determinant","tops"]) X G W.Oo fun _ _ _ _ _ _ _ _ _=>rfl;obtain⟨B9,Ca,Cb⟩:=Ry (ps:=["self","states","solution"]) X G W.B8 fun _ _ _ _ _ _ _ _ _=>rfl;obtain⟨WO,Md,CH⟩:=Ry (ps:=["self","left","axis","right"]) X G W.Mc fun _ _ _ _ _ _ _ _ _ _=>rfl;let c:Cs:=⟨UQ,RH,RK,Oq,B9,UQ⟩;have O:hE K c:=⟨Ye,RJ,RN,Ou,Cb⟩;obtain⟨ta,od,tn,sl,f0,F,N,m,S,z,Q,o,C,j,n,u,b,r,hT,lT,t0,t1,t2,t3,t4,t5,t6,t7,t8,t9,ae,ab,ag,ac⟩:=W.tab;have big:∀base:Heap,K.In base->base.Ns mainGlobals t->base.NoSeer->iT P w K t base "modes" ["net"] 45 (vZ K):=fun base _ _ af=>by
  have lY:=JY (P:=P) (w:=w) (base:=base) T (jD X G W.L8);have r9:=FX (P:=P) (w:=w) (base:=base) T (jD X G W.GY);have nW:=Ay T lY r9 (jD X G W.BY);have Ob:=V1 (P:=P) (w:=w) (base:=base) O.part Yd;have BX:=NR (P:=P) (w:=w) (base:=base) O.eQ RI;have i8:=C3 T O lY Ob BX (jD X G W.F8);have yC:=LU (P:=P) (w:=w) (base:=base) T.toTxt3.toTxt2 O (jD X G W.Oh);have mC:=yB (P:=P) (w:=w) (base:=base) T.toTxt3.toTxt2 O (jD X G W.AK);have uz:=GQ (P:=P) (w:=w) (base:=base) T.toTxt3.toTxt2 O (jD X G W.J8);have kx:=Ap (P:=P) (w:=w) (base:=base) T.toTxt3.toTxt2 O (jD X G W.BZ);have BW:=Oa (P:=P) (w:=w) (base:=base) T.toTxt3.toTxt2 O (jD X G W.Rz);have jK:=ux (P:=P) (w:=w) (base:=base) O (jD X G W.uS);have nU:=As T O kx BW jK (jD X G W.B0);have yD:=LY T O yC mC uz nU (jD X G W.Oi);have sd:=FU T O yD (jD X G W.GZ);have nY:=AB T nW i8 sd (jD X G W.B1);have nP:=Ak (P:=P) (w:=w) (base:=base) T.toTxt3.toTxt2 O (jD X G W.B2);have jC:=Fg (P:=P) (w:=w) (base:=base) T.toTxt3.toTxt2 O (jD X G W.G1);have nJ:=zT T.toTxt3.toTxt2 O jC (jD X G W.B3);have rR:=Fj T.toTxt3.toTxt2 O jC (jD X G W.G3);have pC:=NT O nJ rR RL;have I:=Lz (P:=P) (w:=w) (base:=base) (jD X G W.Oj);have jm:=GB (P:=P) (w:=w) (base:=base) T.toTxt3.toTxt2.toTxt (jD X G W.J9);have a:=Ri jm (jD X G W.UN);have q:=CN O I a (jD X G W.F9);have gT:=yf (P:=P) (w:=w) (base:=base) (jD X G W.AL);have e:=GF O gT (jD X G W.Ka);have v:=GI (P:=P) (w:=w) (base:=base) O (jD X G W.Kb);have Dc:=BH O q e v (jD X G W.C8);have Cc:=zY O q e v a (jD X G W.B4);have rQ:=Fu (P:=P) (w:=w) (base:=base) T.toTxt3.toTxt2 O (jD X G W.G4);have Me:=JQ O rQ e v a I (jD X G W.L9);have Dd:=BK (P:=P) (w:=w) (base:=base) (c:=c) (jD X G W.C9);have D:=CQ O I a (jD X G W.Ga);have ia:=tY O D e (jD X G W.uT);have uW:=ue O D v (jD X G W.uU);have s:=tV O gT (jD X G W.uV);have qH:=p5 O q e s (jD X G W.qD);have qI:=p9 O q v s (jD X G W.qE);have qJ:=qg O q e v (jD X G W.qF);have qK:=qj O q v (jD X G W.qG);have yP:=wQ O q e s v a (jD X G W.yL);have Cd:=z5 O s (jD X G W.B5);have Hb:=Fp O v e (jD X G W.G5);have Kg:=GL O ia v (jD X G W.Kc);have vQ:=JU (P:=P) (w:=w) (base:=base) T.toTxt3.toTxt2 O (jD X G W.Ma);have R:=Ny (P:=P) (w:=w) (base:=base) T.toTxt3.toTxt2.toTxt (jD X G W.RA);have wD:=Ug T.toTxt3.toTxt2.toTxt R (jD X G W.Wc);have Fv:=Rf T.toTxt3.toTxt2 wD (jD X G W.UO);have L:Uu P w K t base c ta [f0,F,N,m,S,z,Q,o,C,j,n,u,b,r]:=by
   refine⟨bI X G hT,fun H=> .inr ⟨_,#[.ref f0,.ref F,.ref N,.ref m,.ref S,.ref z,.ref Q,.ref o,.ref C,.ref j,.ref n,.ref u,.ref b,.ref r],tn,lT,rfl,rfl,dy (by show 14<=16777216;decide),?_⟩,fun i d=> ?_⟩
   ·exact .cons rfl (.cons rfl (.cons rfl (.cons rfl (.cons rfl (.cons rfl (.cons rfl (.cons rfl (.cons rfl (.cons rfl (.cons rfl (.cons rfl (.cons rfl (.cons rfl (.nil))))))))))))))
   ·have M:i=0\/i=1\/i=2\/i=3\/i=4\/i=5\/i=6\/i=7\/i=8\/i=9\/i=10\/i=11\/i=12\/i=13:=by revert i;decide
    rcases M with rfl |rfl |rfl |rfl |rfl |rfl |rfl |rfl |rfl |rfl |rfl |rfl |rfl |rfl
    ·obtain⟨A,B,l,f⟩:=mM (i:=0) Dc (by decide) (bI X G t0) (fun g k d x=>trivial) (fun g k d=>by unfold gP;dsimp only;rw[iP d] <;>rfl);exact⟨f0,A,rfl,B,l,f⟩
    ·obtain⟨A,B,l,f⟩:=mM (i:=1) Cc (by decide) (bI X G t1) (fun g k d x=>trivial) (fun g k d=>by unfold gP;dsimp only;rw[iP d] <;>rfl);exact⟨F,A,rfl,B,l,f⟩
    ·obtain⟨A,B,l,f⟩:=mM (i:=2) Me (by decide) (bI X G t2) (fun g k d x=>x.aaw d) (fun g k d=>by unfold gP;dsimp only;rw[iP d] <;>rfl);exact⟨N,A,rfl,B,l,f⟩
    ·obtain⟨A,B,l,f⟩:=mM (i:=3) Dd (by decide) (bI X G t3) (fun g k d x=>trivial) (fun g k d=>by unfold gP;dsimp only;rw[iP d] <;>rfl);exact⟨m,A,rfl,B,l,f⟩
    ·obtain⟨A,B,l,f⟩:=mM (i:=4) ia (by decide) (bI X G t4) (fun g k d x=>trivial) (fun g k d=>by unfold gP;dsimp only;rw[iP d] <;>rfl);exact⟨S,A,rfl,B,l,f⟩
    ·obtain⟨A,B,l,f⟩:=mM (i:=5) uW (by decide) (bI X G t5) (fun g k d x=>trivial) (fun g k d=>by unfold gP;dsimp only;rw[iP d] <;>rfl);exact⟨z,A,rfl,B,l,f⟩
    ·obtain⟨A,B,l,f⟩:=mM (i:=6) qH (by decide) (bI X G t6) (fun g k d x=>trivial) (fun g k d=>by unfold gP;dsimp only;rw[iP d] <;>rfl);exact⟨Q,A,rfl,B,l,f⟩
    ·obtain⟨A,B,l,f⟩:=mM (i:=7) qI (by decide) (bI X G t7) (fun g k d x=>trivial) (fun g k d=>by unfold gP;dsimp only;rw[iP d] <;>rfl);exact⟨o,A,rfl,B,l,f⟩
    ·obtain⟨A,B,l,f⟩:=mM (i:=8) qJ (by decide) (bI X G t8) (fun g k d x=>x.ref (.inl d)) (fun g k d=>by unfold gP;dsimp only;rw[iP d] <;>rfl);exact⟨C,A,rfl,B,l,f⟩
    ·obtain⟨A,B,l,f⟩:=mM (i:=9) qK (by decide) (bI X G t9) (fun g k d x=>x.ref (.inr d)) (fun g k d=>by unfold gP;dsimp only;rw[iP d] <;>rfl);exact⟨j,A,rfl,B,l,f⟩
    ·obtain⟨A,B,l,f⟩:=mM (i:=10) yP (by decide) (bI X G ae) (fun g k d x=>trivial) (fun g k d=>by unfold gP;dsimp only;rw[iP d] <;>rfl);exact⟨n,A,rfl,B,l,f⟩
    ·obtain⟨A,B,l,f⟩:=mM (i:=11) Cd (by decide) (bI X G ab) (fun g k d x=>trivial) (fun g k d=>by unfold gP;dsimp only;rw[iP d] <;>rfl);exact⟨u,A,rfl,B,l,f⟩
    ·obtain⟨A,B,l,f⟩:=mM (i:=12) Hb (by decide) (bI X G ag) (fun g k d x=>trivial) (fun g k d=>by unfold gP;dsimp only;rw[iP d] <;>rfl);exact⟨b,A,rfl,B,l,f⟩
    ·obtain⟨A,B,l,f⟩:=mM (i:=13) Kg (by decide) (bI X G ac) (fun g k d x=>trivial) (fun g k d=>by unfold gP;dsimp only;rw[iP d] <;>rfl);exact⟨r,A,rfl,B,l,f⟩
  have nQ:=LJ T.toTxt3.toTxt2 O L vQ Fv (jD X G W.Ol);have mv:=ym (P:=P) (w:=w) (base:=base) T.toTxt3.toTxt2 (jD X G W.AM);have E:=NC (P:=P) (w:=w) (base:=base) (jD X G W.RB);have y:=Gy E wD (jD X G W.Kd);have BP:=NM (P:=P) (w:=w) (base:=base) T.toTxt3.toTxt2.toTxt (jD X G W.RC);have rT:=FA T.toTxt3.toTxt2 jm y BP (jD X G W.G6);have BR:=NW T.toTxt3.toTxt2 rT (jD X G W.RD);have yn:=LK (P:=P) (w:=w) (base:=base) O.sol Ot;have J:=Rm T.toTxt3.toTxt2 O mv BR yn (jD X G W.UP);have lD:=Fc (P:=P) (w:=w) (base:=base) (jD X G W.G7);have rX:=FI (P:=P) (w:=w) (base:=base) O (jD X G W.G8);have ui:=LP (P:=P) (w:=w) (base:=base) O (jD X G W.Om);have nN:=Ae ui y (jD X G W.B6);have rY:=FO O nN (jD X G W.G9);have qu:=CZ O lD rX rY (jD X G W.Gb);have lS:=wV T.toTxt3.toTxt2 O qu (jD X G W.yM);have nR:=Ab (P:=P) (w:=w) (base:=base) O.pt Ca;have mL:=yu T.toTxt3.toTxt2 O nP pC nQ J lS nR (jD X G W.AN);have nZ:=Of T.toTxt3.toTxt2 O pC (jD X G W.B7);have jO:=yG T.toTxt3.toTxt2.toTxt R (jD X G W.AO);have lQ:=wN (P:=P) (w:=w) (base:=base) T.toTxt3.toTxt2.toTxt (jD X G W.yN);have BC:=NH lQ (jD X G W.RE);have vX:=JL af p BC (jD X G W.Mb);have mH:=xY T.toTxt3.toTxt2.toTxt y (jD X G W.AQ);have lV:=wY E mH (jD X G W.yO);have gd:=yJ E vX lV (jD X G W.AR);have mK:=C6 (P:=P) (w:=w) (base:=base) T.toTxt3.toTxt2.toTxt (jD X G W.Gd);have uD:=UH T.toTxt3.toTxt2.toTxt mK (jD X G W.Wd);have uC:=GU (P:=P) (w:=w) (base:=base) T.toTxt3.toTxt2.toTxt (jD X G W.Ke);have uE:=GX T.toTxt3.toTxt2.toTxt gd uC uD (jD X G W.Kf);have vY:=J3 (P:=P) (w:=w) (base:=base) CH Md;have sj:=F4 T.toTxt3.toTxt2.toTxt jO gd uD uE vY (jD X G W.Ha);have Wf:=UJ T O CH nY i8 mL nZ nQ J sj (jD X G W.We);exact Wf
 intro base B l f;obtain⟨f',ad,hm,ok,_,hb⟩:=(big base B l f).ex;rw[aa] at hm;cases hm;exact⟨ad,hb,ok⟩
theorem walk_specK{r:OpenSpec}{k:Nat}{q:Program}{loose:List Str}{c:(Str->Option Value)->Heap->Prop}{x:World->Heap->Prop}{d:DefRec}{K:Params->PySem.W.Frag}{ps:List Str}{sp:PySem.W.Frag->Sp}
  (l:r.wellSaid=true) (t:importsNone q=true) (b:d.params.defaults=[]) (B:r.args.length=ps.length) (S:l5 k callerA)
  (I:∀(w:World) (h:Heap),x w h->(K w.params).In h)
  (F:∀(w:World) (i:Str->Option Value) (n:Addr) (h:Heap),x w h->(K w.params).In h->h.Ns mainGlobals i->i d.name=some (.ref n)->
   ∀base:Heap,(K w.params).In base->base.Ns mainGlobals i->base.NoSeer->∃p:FuncData,Binds (K w.params) p ps []/\rB r.prog w (K w.params) i base OK k n p ps (sp (K w.params)))
  (u:∀(K:PySem.W.Frag) (H:Hp) (A:List V) (a:Codec.denoteAll r.args),L4 H->Codec.withinAll r.args a=true->Codec.app r.args r.asked a=true->sR K H A (Codec.encAll r.args a)->
   sp K A H (fun v m=>Dw K m v (r.ret.enc (Codec.app r.args r.f a))) fun _ _ _=>False):
  PySem.W.WalkOS q loose c x r d [] (fun f G=>PySem.call f G):=
 Rw (K:=K) (CX:=fun _=>OK) (sp:=fun w=>sp (K w.params)) l t b B S I F (fun w H A a C P o y=>u (K w.params) H A a C P o y) fun _ H s e L z=>z
theorem sp_of{K:PySem.W.Frag}{H:Hp}{d:List V}{l:List Int}(h:l.length<=120)(w:sR K H d [.list (l.map PySem.W.WData.int)]):
  vZ K d H (fun v A=>Dw K A v (.list ((PyWrwirb.modes l).map PySem.W.WData.int))) fun _ _ _=>False:=by
 cases w with
 |cons x k=>
 cases k;cases x with
 |lst i f=>
 cases Ql l _ f;refine⟨_,l,rfl,i,by omega,ZG l,?_⟩;rw[T4];exact fun z A s ⟨p,e,B⟩=>by rw[e];exact .lst (oK.of B) (Qk _)
end Kh
end Lake
namespace PySem.W.Fast
noncomputable def z:=0
def tw16713134481481067199:=z
def tw6499974047986908968:=z
def tw5322225185455306058:=z
def tw12655153462267043399:=z
def tw8852868373901546914:=z
def tw13609845556838519948:=z
def tw2392982162338724173:=z
def tw507290596443408532:=z
def tw3719385645470213718:=z
def tw3004651637582642171:=z
def tw6314124947528245837:=z
def tw3881565233447616978:=z
def tw9855974694216257712:=z
def tw13793336086370585258:=z
def tw7606395775798221047:=z
def tw18247279116629759685:=z
def tw3572380849009904071:=z
def tw2363563728877952281:=z
def tw3163169580561013833:=z
def tw2573442732054987972:=z
def tw16412854349869135876:=z
def tw3826654937274882145:=z
def tw14548684558760093363:=z
def tw9307667604838375992:=z
def tw12800006215895650757:=z
def tw15868324970398652550:=z
def tw17915070006486202731:=z
def tw9099479824786234721:=z
def tw7044460663503960794:=z
def tw7555038216874819125:=z
def tw17282705642505128149:=z
def tw17737502062981704360:=z
def tw15384917341085031653:=z
def tw4508075346426869095:=z
def tw12419567028958284688:=z
def tw8985261828201238913:=z
def tw2807118851479590052:=z
def tw12852949397175485350:=z
def tw15782908570683533440:=z
def tw12678328953361465671:=z
def tw7856561814778420317:=z
def tw3521997242473570213:=z
def tw12949068823452562874:=z
def tw2838295225804584915:=z
def tw10140631852332093063:=z
def tw13292625268543543948:=z
def tw7506719444849321601:=z
def tw416324312019320465:=z
def tw15303885071040762901:=z
def tw13330083941876439785:=z
def tw16638487297965978052:=z
def tw10653927747128242748:=z
def tw11186145761355361007:=z
def tw2202305206959644872:=z
def tw17116951548999766871:=z
def tw18242457010154489420:=z
def tw6321676095335712435:=z
def tw5241453953933921165:=z
def tw6851785659555052845:=z
def tw6842195228150186000:=z
def tw7416514757889863807:=z
def tw11861813729887175034:=z
def tw1536674968597238297:=z
def tw7107475450331005502:=z
def tw306277343236108892:=z
def tw5089136216432326740:=z
def tw5673023226706421417:=z
def tw7698372592054707444:=z
def tw15932479141226052388:=z
def tw16753909706774784344:=z
def tw1837738011867623474:=z
def tw7478496812742343583:=z
def tw17017481890274064999:=z
def tw9369107259846662511:=z
def tw9399838967714302697:=z
def tw6600418955738160156:=z
def tw15528559757354190335:=z
def tw10730127754044516795:=z
def tw16931045995786968427:=z
def tw13696652340596875243:=z
def tw3279986428524120691:=z
def tw1643348662610513375:=z
def tw8190540625276881576:=z
def tw9653447208274624632:=z
def tw8300881131450743978:=z
def tw1130048880639808494:=z
def tw11838569146823850030:=z
def tw13311015309497077251:=z
def tw10990923583789899227:=z
def tw5990493227100809423:=z
def tw12110090222707839951:=z
def tw14866038961378792986:=z
def tw10693289032966790922:=z
def tw2708205742785574277:=z
def tw1791533737545621551:=z
def tw13382855466410755475:=z
def tw6011091554253846610:=z
def tw12543846557873679399:=z
def tw3693890017943125235:=z
def tw11149422869129760497:=z
def tw18024082162918376300:=z
def tw12230869625347307782:=z
def tw7690724936932870120:=z
def tw6276931687701512669:=z
def tw8184408395683191876:=z
def tw10384022012693115713:=z
def tw5630871499242067187:=z
def tw6222850441224498458:=z
def tw5954750529202543227:=z
def tw16286698814423966540:=z
def tw6709781075048059463:=z
def tw6914235678127671632:=z
def tw1434584088942305929:=z
def tw9929461192397630227:=z
def tw648904493593206540:=z
def tw5511364326848539393:=z
def tw3880172870908587498:=z
def tw5677794380484095618:=z
def tw5608542209403440538:=z
def tw10165520272979369990:=z
def tw4958305871570854299:=z
def tw8502194738645511961:=z
def tw9522267733260259231:=z
def tw271769013558821676:=z
def tw14766676823252192817:=z
def tw12351894171674220658:=z
def tw11438636598676360798:=z
def tw17786908710557491653:=z
def tw3981724563720290314:=z
def tw14607986704312765306:=z
def tw8156664221170348148:=z
def tw16487173509249392489:=z
def tw11968399984746543995:=z
def tw1628494423822374449:=z
def tw14471355496724437630:=z
def tw13588490234289846940:=z
def tw4473959573149959082:=z
def tw9951577693964880917:=z
def tw7626980366550488563:=z
def tw17644067555148361977:=z
def tw18305502246254540747:=z
def tw5922741963376911988:=z
def tw16295306986299739333:=z
def tw3540743279546081726:=z
def tw7765996401582716873:=z
def tw1085746304807065809:=z
def tw17761610456049769557:=z
def tw1958433702958029048:=z
def tw13191475488141819520:=z
def tw2153808466729610602:=z
def tw18090044435907828429:=z
def tw18342606620064707835:=z
def tw10458150395105263974:=z
def tw86502886766251674:=z
def tw9011119591997107680:=z
def tw5742396924986527779:=z
def tw10882462891574813643:=z
def tw940653904464156024:=z
def tw11349252816105438810:=z
def tw99084002987638006:=z
def tw10801456132045428422:=z
def tw9443203611355904996:=z
def tw16644967592257463120:=z
def tw7140596666739509136:=z
def tw738253354820815527:=z
def tw5303975599068781364:=z
def tw2715365172194837827:=z
def tw13072676889740227233:=z
def tw18168121008149521459:=z
def tw14517959835481975475:=z
def tw3504156819748590141:=z
def tw2665296692225687607:=z
def tw2483909339378080731:=z
def tw1807559700783978943:=z
def tw458769762860618189:=z
def tw11463509113498111217:=z
def tw8746417368101104578:=z
def tw17595136360143082905:=z
def tw7029411984810852198:=z
def tw4016487403976434373:=z
def tw2897180720578021818:=z
def tw16307826017590663748:=z
def tw3847688824876954607:=z
def tw4269967652044837268:=z
def tw11065486992482477042:=z
def tw9698998515710991996:=z
def tw16618500098846046305:=z
def tw8612776201493652908:=z
def tw14999646485224144698:=z
def tw5504985307886979310:=z
def tw18420846009760263090:=z
def tw7631691542910465945:=z
def tw15467575646847901610:=z
def tw13615851365092568236:=z
def tw3912294773647824639:=z
def tw6874298217234759899:=z
def tw16209487440103345414:=z
def tw927909273414982172:=z
def tw12655054240795845793:=z
def tw3887654453946353275:=z
def tw14578245694310875366:=z
def tw18356563375411507924:=z
def tw15741209470113204296:=z
def tw5780129003423027878:=z
def tw9778925941899063992:=z
def tw5983427795499976955:=z
def tw9011193239072621369:=z
def tw2367821135834738180:=z
def tw2117618060106726261:=z
def tw8125826642459466307:=z
def tw16785786718048174301:=z
def tw4473207613126522495:=z
def tw4816335602950812176:=z
def tw10348131801305869295:=z
def tw12829164597297207182:=z
def tw2749630104118656177:=z
def tw6268557042406259053:=z
def tw17451909652246574125:=z
def tw414881684494543914:=z
def tw4857936590821156036:=z
def tw17253443693316277447:=z
def tw364994408948614706:=z
def tw15043044014561217407:=z
def tw3780693231530816216:=z
def tw8476496897723198756:=z
def tw17465546405198865021:=z
def tw7623332348610156055:=z
def tw14440115566904745784:=z
def tw10579807127937651421:=z
def tw724467141800633636:=z
def tw3292829614128618710:=z
def tw17025741784641311836:=z
def tw17162647324619271684:=z
def tw860792275205595339:=z
def tw13483154573179406885:=z
def tw2326058190408296298:=z
def tw9323169746664048470:=z
def tw7354832943378605283:=z
def tw2002109594334985481:=z
def tw16153383639297791394:=z
def tw6012276533064463133:=z
def tw15631029408890136511:=z
def tw18356818257386236586:=z
def tw7160283921726309310:=z
def tw3964049449045578957:=z
def tw3042177410943161233:=z
def tw2070495567758587353:=z
def tw9154562091653996917:=z
def tw443000078969591244:=z
def tw9758123307198342134:=z
def tw92408207554446903:=z
def tw8846864764360033734:=z
def tw14846036885306062717:=z
def tw8068200409995811948:=z
def tw2929078587164217574:=z
def tw12634334313431212651:=z
def tw16790305974791460686:=z
def tw1585843868095730779:=z
def tw5319891155263310458:=z
def tw4888675656407795815:=z
def tw4492868439653297897:=z
def tw16447278876611445813:=z
def tw11366708204951697939:=z
def tw10993653649235222392:=z
def tw5772712392835145704:=z
def tw4326186800521777230:=z
def tw8673776313613553952:=z
def tw12948023744687693348:=z
def tw915939315415854319:=z
def tw5810679806267529248:=z
def tw2561717852546126349:=z
def tw9462635052440328287:=z
def tw15309137409156907129:=z
def tw713305013322625258:=z
def tw8702642867544438451:=z
def tw4584889269681032593:=z
def tw17561635235161631648:=z
def tw15431776286451348966:=z
def tw15136663713095426431:=z
def tw9008842024772978548:=z
def tw6840163883808025752:=z
def tw17392458795623953814:=z
def tw5860635842078653278:=z
def tw6579919472673734915:=z
def tw6387397980421174808:=z
def tw1172171251806538497:=z
def tw5656346131904764264:=z
def tw4938877437762912923:=z
def tw17500521144991486853:=z
def tw11860452950351037802:=z
def tw1073261688249349177:=z
def tw4766315723221265372:=z
def tw615914324637357444:=z
def tw5123761804993937663:=z
def tw17563288346553046041:=z
def tw15763551354800358891:=z
def tw6023080262506916111:=z
def tw6875764317684025179:=z
def tw15402204467972070372:=z
def tw8042474415478779073:=z
def tw4444008527173194822:=z
def tw16912534175539731751:=z
def tw13967609950598929445:=z
def tw11453058215794541249:=z
def tw12338334841456513770:=z
def tw1947342541863192590:=z
def tw15163781378680292544:=z
def tw4131433177969080267:=z
def tw16049094311036599824:=z
def tw7201366133440819464:=z
def tw6987994289295634256:=z
def tw5191266986282750063:=z
def tw9026271234969572390:=z
def tw16666501808778487365:=z
def tw15422773788446274236:=z
def tw7083256799055260471:=z
def tw11112228065434719138:=z
def tw8425700202893379373:=z
def tw4334907174490136037:=z
def tw7956952652440344671:=z
def tw9674859740011782566:=z
def tw17589649760245960930:=z
def tw9658000761663209785:=z
def tw14031618863429404318:=z
def tw1766137643088705730:=z
def tw8383781843478528120:=z
def tw9103317478298011441:=z
def tw15857252690459963860:=z
def tw13370466247159384594:=z
def tw3956927730240624018:=z
def tw7371352759778055558:=z
def tw1424841415625720324:=z
def tw9520598871762656976:=z
def tw5776557938228276092:=z
def tw5172162473538440679:=z
def tw3326421505039821803:=z
def tw16544639932373752665:=z
def tw15587849642775325437:=z
def tw14246777009727680887:=z
def tw15555745948361509787:=z
def tw479463398107518807:=z
def tw10066736129936896:=z
def tw10486516707687057361:=z
def tw776219781048429204:=z
def tw4198845060465712896:=z
def tw8660896810031607780:=z
def tw2681285528067485812:=z
def tw10021746989730102050:=z
def tw546099433532946428:=z
def tw12295713371693422044:=z
def tw9312305442341742313:=z
def tw6924205406494954907:=z
def tw4300307829979221082:=z
def tw17274289873476388605:=z
def tw15964826517730911610:=z
def tw14255468497035215649:=z
def tw818251698746945865:=z
def tw13727162004155014017:=z
def tw168421014150691031:=z
def tw6718808292552121235:=z
def tw5589715561909863925:=z
def tw15852450992458275180:=z
def tw14827962927888157558:=z
def tw9528158852720711855:=z
def tw8255120780560347947:=z
def tw7686133390116990569:=z
def tw5460315564873054128:=z
def tw4380282561926910723:=z
def tw17042429671097216932:=z
def tw7722894875500711332:=z
def tw17439028331202085005:=z
def tw13695397592862308722:=z
def tw11373376601531009733:=z
def tw11347934743497580399:=z
def tw11182046355077801256:=z
def tw4801613155071119368:=z
def tw2768471419716124329:=z
def tw4412043755824831851:=z
def tw1985662124707158494:=z
def tw9880576001793694155:=z
def tw3417674600748993477:=z
def tw16797501058930271477:=z
def tw13209890894063748870:=z
def tw12997765011971082189:=z
def tw4285981174822188010:=z
def tw8341567333540513203:=z
def tw5141635158668186876:=z
def tw162264502575969947:=z
def tw15451397091956719768:=z
def tw1526998704448978764:=z
def tw10387662855719258668:=z
def tw8142655568862232933:=z
def tw8037057299425160984:=z
def tw7955153226660149100:=z
def tw15990607738645963217:=z
def tw14686713259995348334:=z
def tw12662846319952087297:=z
def tw7868759704627825274:=z
def tw706490379351752060:=z
def tw7036167223078683017:=z
def tw6557787332686853121:=z
def tw16201568925974967138:=z
def tw14350891868633953724:=z
def tw9911431212125103655:=z
def tw9880310780381595521:=z
def tw9785286794903376287:=z
def tw9733822289186388388:=z
def tw9721254991618910941:=z
def tw9609962374373085897:=z
def tw9269029108773805060:=z
def tw9215083133193765458:=z
def tw8993549671821992682:=z
def tw8860526053757203945:=z
def tw8678223897245613717:=z
def tw8640984572465249438:=z
def tw8584899185801020455:=z
def tw8557730872719440473:=z
def tw8524975220430749519:=z
def tw8293833113648176918:=z
def tw8285390178698634895:=z
def tw8251519185942969807:=z
def tw8183531238172607318:=z
def tw8119165765234554495:=z
def tw7746276463512312455:=z
def tw7668246954801001226:=z
def tw731118660479972957:=z
def tw7297158334611168874:=z
def tw7146047298098588269:=z
def tw7116740081823746130:=z
def tw703642763481833388:=z
def tw6837988692985702290:=z
def tw6824236897701873270:=z
def tw67378995991173527:=z
def tw6673061990953381378:=z
def tw6419141965364972938:=z
def tw6384317817720874086:=z
def tw6360359342204143176:=z
def tw6307536646870595563:=z
def tw6283178742321071148:=z
def tw6172800580081239431:=z
def tw6136045259874167158:=z
def tw6131740853434123737:=z
def tw6056477334312095542:=z
def tw6014494689861187805:=z
def tw5843901097316017808:=z
def tw5519095110034535661:=z
def tw5288924039002772629:=z
def tw5202095752633378063:=z
def tw5048655836642010660:=z
def tw5019452513560237598:=z
def tw489771613328450552:=z
def tw4469162541924891434:=z
def tw4201241387034011250:=z
def tw4190382402182449051:=z
def tw4053680195388871454:=z
def tw3985317430067373907:=z
def tw3966474009546061776:=z
def tw392161326142704899:=z
def tw3897586367731556525:=z
def tw3818498374858207195:=z
def tw3605790688820497725:=z
def tw345583957351466082:=z
def tw335298879440292936:=z
def tw3351479449661592201:=z
def tw3328586159513984705:=z
def tw320749488642369433:=z
def tw3170920015082144777:=z
def tw3147479170021514655:=z
def tw3119664976968304569:=z
def tw3064346735308190417:=z
def tw2677249764939988272:=z
def tw261666870806784145:=z
def tw2238771795850225853:=z
def tw2210934844657837243:=z
def tw2197404800674396297:=z
def tw2191225947321203801:=z
def tw2161292542520652883:=z
def tw2058939651894840066:=z
def tw2049894410533863724:=z
def tw1874026968558685689:=z
def tw18426469017570392116:=z
def tw18141554606980003245:=z
def tw18089638022795602024:=z
def tw18069851061596358163:=z
def tw17862388576388284791:=z
def tw17683860559296145781:=z
def tw17281478263746100576:=z
def tw17155524090045646671:=z
def tw17120685634571675610:=z
def tw17071888982743497350:=z
def tw1696300036952118185:=z
def tw16743683521715412428:=z
def tw16722300740729860656:=z
def tw16662363227234946298:=z
def tw16540933452550690088:=z
def tw16514238877081605901:=z
def tw16276536316210375349:=z
def tw16228346965774612331:=z
def tw16224208940056081245:=z
def tw15968434256437705701:=z
def tw15584734103747949019:=z
def tw15540642920892684028:=z
def tw15467114629050116992:=z
def tw15426693186750390580:=z
def tw15410082372657046001:=z
def tw15359810286026577441:=z
def tw15157401842410704186:=z
def tw14797364423281536937:=z
def tw14742311967964983480:=z
def tw14733777944077693360:=z
def tw14707071863200228208:=z
def tw14601716111984042853:=z
def tw14385533753330781381:=z
def tw14169605709756642233:=z
def tw13974595503334558148:=z
def tw13549484967532224519:=z
def tw13323332803897614352:=z
def tw1327186653687623850:=z
def tw13220236837698465648:=z
def tw13108627031811424660:=z
def tw13096448002908464747:=z
def tw13062275924862441959:=z
def tw12958930825813152275:=z
def tw12902354469564959186:=z
def tw1289748816277309842:=z
def tw12874077829900968086:=z
def tw12863389326228525036:=z
def tw12830404751309915461:=z
def tw1278442788949617820:=z
def tw12689025895852455317:=z
def tw12618007736497879637:=z
def tw12467694201556668115:=z
def tw12416842324555881518:=z
def tw1239061171577954732:=z
def tw1237513025258713754:=z
def tw12332771639820757702:=z
def tw12321207491500229023:=z
def tw12209615274683109702:=z
def tw12187903850694333956:=z
def tw12073378952354080470:=z
def tw12009703883686502543:=z
def tw11917915390464819521:=z
def tw11867959310847465244:=z
def tw11848105852342067413:=z
def tw116385939432847107:=z
def tw11554554875004595676:=z
def tw11370935341874020902:=z
def tw11320191072018259044:=z
def tw11084311779183446544:=z
def tw1094730539938691670:=z
def tw10890418779287053276:=z
def tw10805543859889185885:=z
def tw10708338589586261456:=z
def tw1069366674253625188:=z
def tw10675771783089726146:=z
def tw10421485159027118311:=z
def tw10232894441299270581:=z
def tw10145202190106790944:=z
def tw10076102436837584069:=z
abbrev tw8112161220093420136:=PySem.Challenge.pw_wirequotients_s03_modes
theorem te8112161220093420136:PySem.Challenge.pw_wirequotients_s03_modes=tw8112161220093420136:=rfl
end PySem.W.Fast
end
open Lake
open PySem PySem.W PyProof.Rows
set_option maxRecDepth 100000 in
set_option maxHeartbeats 0 in
theorem PySem.Challenge.cw_wirequotients_s03_modes_holds : PySem.Challenge.rw_wirequotients_s03_modes.Holds := by
 w_on;k_headS;(case hw=>exact⟨[.list []],by decide +kernel,by decide +kernel⟩)
 k_fillS
 refine Kh.walk_specK (r:=PySem.Challenge.rw_wirequotients_s03_modes) (k:=45) (ps:=["net"]) (sp:=Kh.vZ) (by decide +kernel) (by decide +kernel) rfl rfl ⟨rfl,by decide,by decide⟩ (fun w h Y=>PySem.W.kIn_of Y) ?F ?S
 case F=>
  intro w mg fa h Y KX G hmg;refine Kh.all_mk rfl KX G hmg ?W;constructor
  iterate 11 (show PySem.W.nsIn _ mainGlobals _=some none;k_is)
  iterate 24 (refine' Kh.gf.mk ?a;(case a=>k_is))
  iterate 76 (refine' Kh.eI.mk ?a ?l ?c ?k;(case a=>k_is);(case l=>k_is);(case c=>k_is);(case k=>k_is))
  (refine' Kh.kX.mk ?a ?i ?f ?l ?c ?k ?pg ?hd ?po ?sa ?mk ?kc ⟨?n0,?n1,?n2,?n3,?n4,?n5,?n6,trivial⟩;(case a=>k_is);(case i=>k_is);(case f=>k_is);(case l=>k_is);(case c=>k_is);(case k=>k_is);(case pg=>k_is);(case hd=>k_is);(case po=>k_is);(case sa=>k_is);(case mk=>k_is);(case kc=>k_is);(case n0=>k_is);(case n1=>k_is);(case n2=>k_is);(case n3=>k_is);(case n4=>k_is);(case n5=>k_is);(case n6=>k_is))
  (refine' Kh.kX.mk ?a ?i ?f ?l ?c ?k ?pg ?hd ?po ?sa ?mk ?kc ⟨?n0,?n1,trivial⟩;(case a=>k_is);(case i=>k_is);(case f=>k_is);(case l=>k_is);(case c=>k_is);(case k=>k_is);(case pg=>k_is);(case hd=>k_is);(case po=>k_is);(case sa=>k_is);(case mk=>k_is);(case kc=>k_is);(case n0=>k_is);(case n1=>k_is))
  (refine' Kh.kX.mk ?a ?i ?f ?l ?c ?k ?pg ?hd ?po ?sa ?mk ?kc ⟨?n0,?n1,?n2,?n3,?n4,?n5,trivial⟩;(case a=>k_is);(case i=>k_is);(case f=>k_is);(case l=>k_is);(case c=>k_is);(case k=>k_is);(case pg=>k_is);(case hd=>k_is);(case po=>k_is);(case sa=>k_is);(case mk=>k_is);(case kc=>k_is);(case n0=>k_is);(case n1=>k_is);(case n2=>k_is);(case n3=>k_is);(case n4=>k_is);(case n5=>k_is))
  (refine' Kh.kX.mk ?a ?i ?f ?l ?c ?k ?pg ?hd ?po ?sa ?mk ?kc ⟨?n0,?n1,trivial⟩;(case a=>k_is);(case i=>k_is);(case f=>k_is);(case l=>k_is);(case c=>k_is);(case k=>k_is);(case pg=>k_is);(case hd=>k_is);(case po=>k_is);(case sa=>k_is);(case mk=>k_is);(case kc=>k_is);(case n0=>k_is);(case n1=>k_is))
  (refine' Kh.kX.mk ?a ?i ?f ?l ?c ?k ?pg ?hd ?po ?sa ?mk ?kc ⟨?n0,?n1,trivial⟩;(case a=>k_is);(case i=>k_is);(case f=>k_is);(case l=>k_is);(case c=>k_is);(case k=>k_is);(case pg=>k_is);(case hd=>k_is);(case po=>k_is);(case sa=>k_is);(case mk=>k_is);(case kc=>k_is);(case n0=>k_is);(case n1=>k_is))
  (refine' Kh.kX.mk ?a ?i ?f ?l ?c ?k ?pg ?hd ?po ?sa ?mk ?kc ⟨?n0,?n1,?n2,trivial⟩;(case a=>k_is);(case i=>k_is);(case f=>k_is);(case l=>k_is);(case c=>k_is);(case k=>k_is);(case pg=>k_is);(case hd=>k_is);(case po=>k_is);(case sa=>k_is);(case mk=>k_is);(case kc=>k_is);(case n0=>k_is);(case n1=>k_is);(case n2=>k_is))
  (refine' Kh.J7.mk ?a ?l ?t0 ?t1 ?t2 ?t3 ?t4 ?t5 ?t6 ?t7 ?t8 ?t9 ?t10 ?t11 ?t12 ?t13;(case a=>k_is);(case l=>k_is);(case t0=>k_is);(case t1=>k_is);(case t2=>k_is);(case t3=>k_is);(case t4=>k_is);(case t5=>k_is);(case t6=>k_is);(case t7=>k_is);(case t8=>k_is);(case t9=>k_is);(case t10=>k_is);(case t11=>k_is);(case t12=>k_is);(case t13=>k_is))
 case S=>
  intro K H xs a hO hwi hask hx;have q:((Codec.inLen 0 120 a.1&&a.1.all (Codec.inInt (-4294967295) 4294967295))&&true)=true:=hwi;rw[aW,aW] at q;exact Kh.sp_of (Codec.inNat_iff.mp q.1.1).2 hx
